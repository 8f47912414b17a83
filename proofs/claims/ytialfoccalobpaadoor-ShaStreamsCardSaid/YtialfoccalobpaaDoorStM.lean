/-
  Calls that change a block of the call's own; a slice that may be nil: what the walk of ShaStreams wants.
-/
import Derived.Test.YtialfoccalobpaaDoorShJoinR
namespace Go.Proofs.YtialfoccalobpaaDoor
set_option linter.unusedSimpArgs false
set_option linter.unusedVariables false
open Go.RowKit
/-- Cells of a Hash that has taken these bytes. -/
def HashC (cs : Array Value) (M : List Int) : Prop := ∃ S blk, cs = hcells S blk (M.length : Nat) ∧ blk.length = 64 ∧ (0 < M.length → Inv S blk M)
theorem HashC.is {w : World} {g : Nat} {cs : Array Value} {M : List Int} (h : HashC cs M) (hB : Blk w g 106 cs) : HashIs w g M := by
  obtain ⟨S, blk, rfl, h1, h2⟩ := h
  exact ⟨S, blk, hB, h1, h2⟩
theorem HashIs.c {w : World} {g : Nat} {M : List Int} (h : HashIs w g M) : ∃ cs, Blk w g 106 cs ∧ HashC cs M := by
  obtain ⟨S, blk, h1, h2, h3⟩ := h
  exact ⟨_, h1, S, blk, rfl, h2, h3⟩
/-- A slice of the call's own, or nil. -/
def AllIs (va : Value) (g : Nat) (cs : Array Value) (M : List Int) : Prop := (va = .slice none 0 0 ∧ M = []) ∨ ∃ n cap, va = .slice (some ⟨g, 0, none⟩) n cap ∧ Nms .u8 cs cap n M
theorem AllIs.nil (g : Nat) (cs : Array Value) : AllIs (.slice none 0 0) g cs [] := .inl ⟨rfl, rfl⟩
theorem AllIs.len {va : Value} {g : Nat} {cs : Array Value} {M : List Int} (h : AllIs va g cs M) : ∃ A c, va = .slice A M.length c := by
  rcases h with ⟨rfl, rfl⟩ | ⟨n, cap, rfl, hn⟩
  · exact ⟨_, _, rfl⟩
  · exact ⟨_, _, by rw [hn.len]⟩
theorem AllIs.reads {va : Value} {g : Nat} {cs : Array Value} {M : List Int} {w : World} {e : TypeId} (h : AllIs va g cs M) (hB : Blk w g e cs) : ∃ A c, va = .slice A M.length c ∧ Reads w w.heap.size A M.length (M.map (Value.int .u8)) := by
  rcases h with ⟨rfl, rfl⟩ | ⟨n, cap, rfl, hn⟩
  · exact ⟨_, _, rfl, Reads.nil_⟩
  · have hl := hn.len
    subst hl
    exact ⟨_, _, rfl, hn.reads hB⟩
theorem refsum_all {va : Value} {g : Nat} {cs : Array Value} {M : List Int} {e : TypeId} (w : World) (h : AllIs va g cs M) (hB : Blk w g e cs) (hm : M.length ≤ 1073741824) : RetsP 25 #[va] w 5 .u8 32 (digest M) := by
  obtain ⟨A, c, rfl, hr⟩ := h.reads hB
  exact refsum_own A _ c M w hr hm
theorem gives_lenV {P : Program} {S : World → Prop} {l : List (Nat × Value)} {dst : Option Nat} {x : Operand} {t e ty : TypeId} {pos : String} {after : Array Edge} {gd : Option (Nat × Bool)} {va : Value} (m : Nat) (hv : ∃ A c, va = .slice A m c) (ht : P.underlying t = some (.slice e)) (hx : rho l x = va) :
    Gives P S (.int .i64 m) (execOp (rho l) ⟨dst, .call { callee := .builtin .len, args := #[x], argTypes := #[t] }, ty, pos, after, gd⟩) := by
  obtain ⟨A, c, rfl⟩ := hv
  exact gives_len A m c ht hx
section
variable {ops : Array Oper} {late : List Nat} {R : Act → World → Prop} {v : World} {L L0 : List (Nat × TypeId × Array Value)} {n : Nat} {sl : List (Nat × Value)}
/-- A call that changes one block of the call's own. -/
theorem L_mut {i d : Nat} {l : List Nat} {f : FuncId} {args : Array Operand} {ats : Array TypeId} {ty : TypeId} {pos : String} {after : Array Edge} {gd : Option (Nat × Bool)} {vl : List Value} (k g : Nat) (e : TypeId) (cs : Array Value) (val : Value) (Q : Array Value → Prop)
    (hi : ops[i]? = some ⟨some d, .call { callee := .value (.func f), args := args, argTypes := ats }, ty, pos, after, gd⟩) (hl : inFr n sl = true) (hw : Want ops n sl gd) (hf : (Tryd.prog.funcs[f]?).map (fun fn => (fn.name == "runtime.NumGoroutine", fn.body.isNone)) = some (false, false))
    (ha : args.toList.map (rho sl) = vl) (hk : L[k]? = some (g, e, cs))
    (hc : ∀ w, Hbl v L w → Calls Tryd.prog f vl.toArray w fun r w' => r = .returned val ∧ w.grownBy w' (some g) ∧ ∃ cs', Blk w' g e cs' ∧ Q cs')
    (h : ∀ cs', Q cs' → wpL Tryd.prog ops R l (fr n ((d, val) :: sl)) (Hbl v (L.set k (g, e, cs')))) : wpL Tryd.prog ops R (i :: l) (fr n sl) (Hbl v L) := fun w hS =>
  wpOp_call hi hl (hw ..) hf ha (hc w hS) fun r w' ⟨he, hg, cs', hb, hq⟩ => ⟨_, he, Hbl v (L.set k (g, e, cs')), Hbl.stays v _, hS.store k hk cs' hb hg, h cs' hq⟩
theorem perm_erase {α : Type} : ∀ (L : List α) (k : Nat) (x : α), L[k]? = some x → L.Perm (x :: L.eraseIdx k)
  | [], _, _, h => by simp at h
  | y :: L, 0, x, h => by simp at h; subst h; exact List.Perm.refl _
  | y :: L, k + 1, x, h => ((perm_erase L k x (by simpa using h)).cons y).trans (List.Perm.swap _ _ _)
/-- A call that gives a value with one new block. -/
def RetsXs (T : TypeId) (u : Nat → Nat → Value) (Q : Nat → Array Value → Prop) (f : FuncId) (args : Array Value) (w : World) : Prop :=
  Calls Tryd.prog f args w fun r w' => ∃ (g cap : Nat) (cs : Array Value), r = .returned (u g cap) ∧ Q cap cs ∧ w.heap.size ≤ g ∧ Blk w' g T cs ∧ Below w.heap.size w w'
theorem L_freshXs {i d : Nat} {l : List Nat} {f : FuncId} {args : Array Operand} {ats : Array TypeId} {ty : TypeId} {pos : String} {after : Array Edge} {gd : Option (Nat × Bool)} {vl : List Value} (T : TypeId) (u : Nat → Nat → Value) (Q : Nat → Array Value → Prop)
    (hi : ops[i]? = some ⟨some d, .call { callee := .value (.func f), args := args, argTypes := ats }, ty, pos, after, gd⟩) (hl : inFr n sl = true) (hw : Want ops n sl gd) (hf : (Tryd.prog.funcs[f]?).map (fun fn => (fn.name == "runtime.NumGoroutine", fn.body.isNone)) = some (false, false))
    (ha : args.toList.map (rho sl) = vl) (hc : ∀ w, Hbl v L w → RetsXs T u Q f vl.toArray w)
    (h : ∀ g cap cs, Q cap cs → wpL Tryd.prog ops R l (fr n ((d, u g cap) :: sl)) (Hbl v ((g, T, cs) :: L))) : wpL Tryd.prog ops R (i :: l) (fr n sl) (Hbl v L) := fun w hS =>
  wpOp_call hi hl (hw ..) hf ha (hc w hS) fun e w' ⟨g, cap, cs, he, hq, hg, hb, hbel⟩ => ⟨_, he, Hbl v ((g, T, cs) :: L), Hbl.stays v _, hS.fresh hbel hg hb, h g cap cs hq⟩
/-- append onto such a slice. -/
theorem L_pushA {i d : Nat} {il : List Nat} {x y : Operand} {t ty : TypeId} {pos : String} {after : Array Edge} {va : Value} (k g q c2 : Nat) (A2 : Option Addr) (M news : List Int) (cs : Array Value)
    (hi : ops[i]? = some ⟨some d, .call { callee := .builtin .append, args := #[x, y], argTypes := #[t, t] }, ty, pos, after, none⟩) (hl : inFr n sl = true)
    (ht : Tryd.prog.underlying t = some (.slice 5)) (hx : rho sl x = va) (hy : rho sl y = .slice A2 q c2) (hk : L[k]? = some (g, 5, cs)) (hp : AllIs va g cs M) (hr : ∀ w, Hbl v L w → Reads w w.heap.size A2 q (news.map (Value.int .u8)))
    (h63 : M.length + q ≤ 1000000000000) (L' : List (Nat × TypeId × Array Value)) (hL : L.eraseIdx k = L')
    (h : ∀ va' g' cs', AllIs va' g' cs' (M ++ news) → wpL Tryd.prog ops R il (fr n ((d, va') :: sl)) (Hbl v ((g', 5, cs') :: L'))) :
    wpL Tryd.prog ops R (i :: il) (fr n sl) (Hbl v L) := fun w hS => by
  subst hL
  rcases hp with ⟨rfl, rfl⟩ | ⟨m, cap, rfl, hn⟩
  · have hown : w.ownsRow v.heap.size 5 1 (.slice none 0 0) 0 [] := ⟨rfl, .inl ⟨rfl, rfl⟩⟩
    obtain ⟨v', w', hrun, h2, h3, h4⟩ := run_append_reads (P := Tryd.prog) w v.heap.size t ty 5 (.int .u8 0) 1 ht byte_info rfl _ 0 _ hown w.heap.size A2 q c2 _ (hr w hS) (one_map news) (by simp at h63; omega) (by simp at h63; omega) hS.1.size
    have hnl : news.length = q := by simpa using (hr w hS).1
    have hperm : L.Perm ((g, 5, cs) :: L.eraseIdx k) := by
      exact perm_erase L k _ hk
    rcases Classical.em (v' = .slice none 0 0) with e0 | e0
    · have hq : q = 0 := by
        rcases h2.2 with ⟨_, hz⟩ | ⟨g', cap', cur, hv, _⟩
        · omega
        · rw [e0] at hv; cases hv
      subst e0
      have hb : Hbl v L w' := by
        refine ⟨hS.1.grown h3 hS.1.size (fun i hi => by cases hi), fun p hp => ?_, hS.2.2⟩
        exact ⟨(hS.2.1 p hp).1.grown h3 (by simp [Value.ownBlock]), (hS.2.1 p hp).2⟩
      refine wpOp_runG (w' := w') hi (Want.none ..) (by rw [fr_eval n sl hl]; simp [execOp, resolve, invoke, builtin, hx, hy, hrun]) ⟨_, Hbl.stays v _, hb.perm hperm, h _ g cs (.inl ⟨rfl, ?_⟩)⟩
      exact List.eq_nil_of_length_eq_zero (by rw [List.nil_append, hnl]; exact hq)
    · obtain ⟨g', cap', cs', rfl, hg', hb', hc1, hc2, hc3, hc4⟩ := owns_blk0 h2 e0
      have hge : g' = w.heap.size := by
        rcases h4 with e | e
        · simp [Value.ownBlock] at e
        · simpa [Value.ownBlock] using e
      have hb : Hbl v ((g', 5, cs') :: L) w' := by
        refine ⟨hS.1.grown h3 hS.1.size (fun i hi => by cases hi), fun p hp => ?_, ?_⟩
        · rcases List.mem_cons.1 hp with rfl | hp
          · exact ⟨hb', hg'⟩
          · exact ⟨(hS.2.1 p hp).1.grown h3 (by simp [Value.ownBlock]), (hS.2.1 p hp).2⟩
        · simp only [List.map_cons, List.nodup_cons]
          refine ⟨fun hm => ?_, hS.2.2⟩
          obtain ⟨p, hp, he⟩ := List.mem_map.1 hm
          have := (hS.2.1 p hp).1.lt
          omega
      refine wpOp_runG (w' := w') hi (Want.none ..) (by rw [fr_eval n sl hl]; simp [execOp, resolve, invoke, builtin, hx, hy, hrun]) ⟨_, Hbl.stays v _, hb.sub (List.Sublist.cons_cons _ (List.eraseIdx_sublist L k)), h _ g' cs' (.inr ⟨_, _, rfl, ⟨hc2, hc1, hc4, by simp; omega, by rw [hc3]; simp⟩⟩)⟩
  · have hn' := hn.len
    subst hn'
    obtain ⟨w', g', cap', cs', hrun, h2, h6⟩ := push_run (ty := ty) (x := x) (y := y) k g M.length cap q c2 1 A2 .u8 (.int .u8 0) M news cs ht byte_info rfl hk hn (hr w hS) h63 (by omega) hS
    exact wpOp_runG (w' := w') hi (Want.none ..) (by rw [fr_eval n sl hl]; simp [execOp, resolve, invoke, builtin, hx, hy, hrun]) ⟨_, Hbl.stays v _, h6, h _ g' cs' (.inr ⟨_, _, rfl, h2⟩)⟩
end
theorem st_new (w : World) : Calls Tryd.prog 19 #[] w fun r w' => ∃ (g cap : Nat) (cs : Array Value), r = .returned (.pointer (some ⟨g, 0, none⟩)) ∧ HashC cs [] ∧ w.heap.size ≤ g ∧ Blk w' g 106 cs ∧ Below w.heap.size w w' :=
  (new_any w).mono fun e w' ⟨he, hb, hh⟩ => by
    obtain ⟨cs, h1, h2⟩ := hh.c
    exact ⟨_, 0, cs, he, h2, Nat.le_refl _, h1, hb⟩
theorem st_reset (w : World) (g : Nat) (cs : Array Value) (M : List Int) (h : HashC cs M) (hB : Blk w g 106 cs) :
    Calls Tryd.prog 20 #[.pointer (some ⟨g, 0, none⟩)] w fun r w' => r = .returned (.tuple #[]) ∧ w.grownBy w' (some g) ∧ ∃ cs', Blk w' g 106 cs' ∧ HashC cs' [] :=
  (reset_any w g M (h.is hB)).mono fun e w' ⟨he, hb, hh⟩ => ⟨he, hb, hh.c⟩
theorem st_write (w : World) (g : Nat) (cs : Array Value) (M bs : List Int) (A : Option Addr) (m c : Nat) (h : HashC cs M) (hB : Blk w g 106 cs) (hs : Src w g A m (bs.map (Value.int .u8))) (hmc : m ≤ c) (hgl : Glob w) (h2 : 3 ≤ g) (hn : M.length + m ≤ 1000000) :
    Calls Tryd.prog 21 #[.pointer (some ⟨g, 0, none⟩), .slice A m c] w fun r w' => r = .returned (.tuple #[]) ∧ w.grownBy w' (some g) ∧ ∃ cs', Blk w' g 106 cs' ∧ HashC cs' (M ++ bs) :=
  (write_any g w M bs A m c (h.is hB) hs hmc hgl h2 (by omega)).mono fun e w' ⟨he, hb, hh⟩ => ⟨he, hb, hh.c⟩
theorem st_sum (w : World) (g : Nat) (cs : Array Value) (M : List Int) (h : HashC cs M) (hB : Blk w g 106 cs) (hgl : Glob w) (h2 : 3 ≤ g) (hn : M.length ≤ 1000000) : Rets 22 #[.pointer (some ⟨g, 0, none⟩)] w (.agg (agg8 (digest M))) :=
  sum_any g w M (h.is hB) hgl h2 (by omega)
theorem st_len (w : World) (g : Nat) (cs : Array Value) (M : List Int) (h : HashC cs M) (hB : Blk w g 106 cs) : Rets 23 #[.pointer (some ⟨g, 0, none⟩)] w (.int .i64 (M.length : Nat)) :=
  (len_any w g M (h.is hB)).mono fun e w' ⟨he, hb⟩ => ⟨he, by subst hb; exact Below.refl _ _⟩
theorem st_len_nil (w : World) : Rets 23 #[.pointer none] w (.int .i64 0) :=
  (len_nil w).mono fun e w' ⟨he, hb⟩ => ⟨he, by subst hb; exact Below.refl _ _⟩
theorem st_reset_nil (w : World) : Rets 20 #[.pointer none] w (.tuple #[]) :=
  (reset_nil w).mono fun e w' ⟨he, hb⟩ => ⟨he, by subst hb; exact Below.refl _ _⟩
/-- A block of the call's own other than g is a source. -/
theorem Nms.src {k : IntKind} {w : World} {g b cap n : Nat} {e : TypeId} {cs : Array Value} {l : List Int} (h : Nms k cs cap n l) (hB : Blk w b e cs) (hg : b ≠ g) : Src w g (some ⟨b, 0, none⟩) n (l.map (Value.int k)) := by
  have := hB.src hg 0 n (by rw [h.size, Nat.zero_add]; exact h.le)
  rwa [List.drop_zero, h.words] at this
theorem hbl_ne {v w : World} {L : List (Nat × TypeId × Array Value)} (h : Hbl v L w) (k k2 : Nat) {g g2 : Nat} {t t2 : TypeId} {cs cs2 : Array Value} (hk : L[k]? = some (g, t, cs)) (hk2 : L[k2]? = some (g2, t2, cs2)) (hn : Nat.beq k k2 = false) : g ≠ g2 := fun e => by
  have hnd := h.2.2
  have e1 : (L.map (·.1))[k]? = (L.map (·.1))[k2]? := by rw [List.getElem?_map, List.getElem?_map, hk, hk2]; simp [e]
  have hkl : k < (L.map (·.1)).length := by simpa using (List.getElem?_eq_some_iff.1 hk).1
  have := (List.getElem?_inj hkl hnd).1 e1
  exact Nat.ne_of_beq_eq_false hn this
theorem eq_d32_t {l l2 : List Int} {d : Nat} (w : World) (hl : l.length = 32) (h : l = l2) : (Op.equalIn (d + 1 + 1) 50 (.agg (agg8 l)) (.agg (agg8 l2))).run Tryd.prog w = .ok true w := by
  subst h
  exact run_equalIn_arr d w _ 5 32 .u8 _ _ und_d32 und_u8' (fun w => by kernel_rfl) (fun i hi => ⟨gt l i, gt l i, agg8_at _ _ (by rw [hl]; exact hi), agg8_at _ _ (by rw [hl]; exact hi)⟩) true (by simp)
theorem gb0_d32 {S : World → Prop} {l : List (Nat × Value)} {dst : Option Nat} {ty : TypeId} {pos : String} {after : Array Edge} {gd : Option (Nat × Bool)} : Gives Tryd.prog S (.agg (agg8 (List.replicate 32 0))) (execOp (rho l) ⟨dst, .build 50 #[], ty, pos, after, gd⟩) := gives_value _ fun w => by
  have h : (Instr.build 50 #[]).run Tryd.prog w = .ok (.agg (agg8 (List.replicate 32 0))) w := by kernel_rfl
  simp [execOp, h]
theorem gives_eqls {P : Program} {S : World → Prop} {l : List (Nat × Value)} {dst : Option Tmp} {t ct ty : TypeId} {x y : Operand} {pos : String} {after : Array Edge} {gd : Option (Nat × Bool)} (A B : Array Value) (r : Bool) (hx : rho l x = .agg A) (hy : rho l y = .agg B)
    (hg : P.eqGuardType P.depth t = false) (h : ∀ w, (Op.equalIn 10000 t (.agg A) (.agg B)).run P w = .ok r w) : Gives P S (.bool r) (execOp (rho l) ⟨dst, .binOp .eql t x y ct, ty, pos, after, gd⟩) := gives_value _ fun w => by
  have h' : (Op.equal t (.agg A) (.agg B)).run P w = .ok r w := h w
  simp [execOp, hx, hy, eqGuard, hg, binOp, h']
theorem gives_neqs {P : Program} {S : World → Prop} {l : List (Nat × Value)} {dst : Option Tmp} {t ct ty : TypeId} {x y : Operand} {pos : String} {after : Array Edge} {gd : Option (Nat × Bool)} (A B : Array Value) (r : Bool) (hx : rho l x = .agg A) (hy : rho l y = .agg B)
    (hg : P.eqGuardType P.depth t = false) (h : ∀ w, (Op.equalIn 10000 t (.agg A) (.agg B)).run P w = .ok r w) : Gives P S (.bool (!r)) (execOp (rho l) ⟨dst, .binOp .neq t x y ct, ty, pos, after, gd⟩) := gives_value _ fun w => by
  have h' : (Op.equal t (.agg A) (.agg B)).run P w = .ok r w := h w
  simp [execOp, hx, hy, eqGuard, hg, binOp, h']
theorem Pieces.ways {w : World} {B n : Nat} {A : Option Addr} {ps : List (List Int)} (h : Pieces w B A n ps) (hlb : ∀ b ∈ ps, b.length ≤ 140737488351232) (i X : Nat) (a : Int) :
    (∃ b o A' m c, ∃ bs : List Int, i < n ∧ A = some ⟨b, o, none⟩ ∧ b < B ∧ w.cell? ⟨b, o + i, none⟩ = some (.slice A' m c) ∧ m ≤ c ∧ m ≤ 140737488351232 ∧ Reads w B A' m (bs.map (Value.int .u8)) ∧ 16384 < X + m) ∨
    (∃ b o A' m c, ∃ bs : List Int, i < n ∧ A = some ⟨b, o, none⟩ ∧ b < B ∧ w.cell? ⟨b, o + i, none⟩ = some (.slice A' m c) ∧ m ≤ c ∧ m ≤ 140737488351232 ∧ Reads w B A' m (bs.map (Value.int .u8)) ∧ X + m ≤ 16384 ∧ 40 < i) ∨
    (∃ b o A' m c, ∃ bs : List Int, i < n ∧ A = some ⟨b, o, none⟩ ∧ b < B ∧ w.cell? ⟨b, o + i, none⟩ = some (.slice A' m c) ∧ m ≤ c ∧ m ≤ 140737488351232 ∧ Reads w B A' m (bs.map (Value.int .u8)) ∧ X + m ≤ 16384 ∧ i ≤ 40 ∧ (i : Int) = a) ∨
    (∃ b o A' m c, ∃ bs : List Int, i < n ∧ A = some ⟨b, o, none⟩ ∧ b < B ∧ w.cell? ⟨b, o + i, none⟩ = some (.slice A' m c) ∧ m ≤ c ∧ m ≤ 140737488351232 ∧ Reads w B A' m (bs.map (Value.int .u8)) ∧ X + m ≤ 16384 ∧ i ≤ 40 ∧ (i : Int) ≠ a) ∨ n ≤ i := by
  by_cases hi : i < n
  · obtain ⟨b, o, hA, hb, hr⟩ := h.2 (by omega)
    obtain ⟨v, hc, A', m, c, rfl, hmc, hrd⟩ := hr i (by rw [h.1]; exact hi)
    have hmb : m ≤ 140737488351232 := by
      have := hlb _ (List.getElem_mem (by rw [h.1]; exact hi))
      have e := hrd.1
      rw [List.length_map] at e
      omega
    by_cases h1 : 16384 < X + m
    · exact .inl ⟨b, o, A', m, c, _, hi, hA, hb, hc, hmc, hmb, hrd, h1⟩
    · by_cases h2 : 40 < i
      · exact .inr (.inl ⟨b, o, A', m, c, _, hi, hA, hb, hc, hmc, hmb, hrd, by omega, h2⟩)
      · by_cases h3 : (i : Int) = a
        · exact .inr (.inr (.inl ⟨b, o, A', m, c, _, hi, hA, hb, hc, hmc, hmb, hrd, by omega, by omega, h3⟩))
        · exact .inr (.inr (.inr (.inl ⟨b, o, A', m, c, _, hi, hA, hb, hc, hmc, hmb, hrd, by omega, by omega, h3⟩)))
  · exact .inr (.inr (.inr (.inr (by omega))))
end Go.Proofs.YtialfoccalobpaaDoor
