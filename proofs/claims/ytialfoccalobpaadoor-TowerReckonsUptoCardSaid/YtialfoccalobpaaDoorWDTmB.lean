/-
  Six numbers in memory: where they lie, and the calls that give such.
-/
import Derived.Test.YtialfoccalobpaaDoorWDTmA
import Derived.Test.YtialfoccalobpaaDoorWDTwN
namespace Go.Proofs.YtialfoccalobpaaDoor
set_option linter.unusedSimpArgs false
set_option linter.unusedVariables false
open Go.RowKit
def Sz2 (u : Array Value) : Prop := u.size = 2 ∧ u.all (·.oneCell') = true
/-- A pair of slices holds a number of layer 5. -/
def PairAt (w : World) (u : Array Value) (x : F2) : Prop := ∃ (A0 : Option Addr) (n0 c0 : Nat) (A1 : Option Addr) (n1 c1 : Nat), u = #[.slice A0 n0 c0, .slice A1 n1 c1] ∧ NumAt w A0 n0 (x.a.val : Int) ∧ NumAt w A1 n1 (x.b.val : Int) ∧ n0 ≤ 24 ∧ n1 ≤ 24
theorem PairAt.sz {w : World} {u : Array Value} {x : F2} (h : PairAt w u x) : Sz2 u := by
  obtain ⟨A0, n0, c0, A1, n1, c1, rfl, -⟩ := h
  exact ⟨rfl, one_N (by rfl) (by rfl)⟩
theorem PairAt.of {v w : World} {L : List (Nat × TypeId × Array Value)} {u : Array Value} {x : F2} (h : PairAt v u x) (hw : Hbl v L w) : PairAt w u x := by
  obtain ⟨A0, n0, c0, A1, n1, c1, rfl, h0, h1, s0, s1⟩ := h
  exact ⟨A0, n0, c0, A1, n1, c1, rfl, h0.of hw, h1.of hw, s0, s1⟩
theorem PairAt.nil (w : World) : PairAt w #[.slice none 0 0, .slice none 0 0] 0 := ⟨_, _, _, _, _, _, rfl, nil5 w, nil5 w, by omega, by omega⟩
/-- What the blocks of M hold is enough for the pair to hold the number. -/
def PIn (M : List (Nat × TypeId × Array Value)) (u : Array Value) (x : F2) : Prop := Sz2 u ∧ ∀ w, (∀ b ∈ M, Blk w b.1 b.2.1 b.2.2) → PairAt w u x
theorem PIn.mono {M M' : List (Nat × TypeId × Array Value)} {u : Array Value} {x : F2} (h : PIn M u x) (hs : M.Sublist M') : PIn M' u x := ⟨h.1, fun w hw => h.2 w fun b hb => hw b (hs.subset hb)⟩
theorem PIn.here {M L : List (Nat × TypeId × Array Value)} {v w : World} {u : Array Value} {x : F2} (h : PIn M u x) (hw : Hbl v L w) (hs : M.Sublist L) : PairAt w u x := h.2 w fun b hb => (hw.2.1 b (hs.subset hb)).1
theorem PIn.nil : PIn [] #[.slice none 0 0, .slice none 0 0] 0 := ⟨(PairAt.nil ⟨default, default, default, default, default⟩).sz, fun w _ => PairAt.nil w⟩
theorem PIn.two {M : List (Nat × TypeId × Array Value)} (k k2 : Nat) {g g2 cap cap2 : Nat} {cs cs2 : Array Value} {x : F2} (hk : M[k]? = some (g, 100, cs)) (hk2 : M[k2]? = some (g2, 100, cs2)) (h : WB cs cap 24 (x.a.val : Int)) (h2 : WB cs2 cap2 24 (x.b.val : Int)) :
    PIn M #[.slice (some ⟨g, 0, none⟩) 24 cap, .slice (some ⟨g2, 0, none⟩) 24 cap2] x :=
  ⟨⟨rfl, one_N (by rfl) (by rfl)⟩, fun w hw => ⟨_, _, _, _, _, _, rfl, h.num (hw _ (List.mem_of_getElem? hk)) (fv_rng _) (by omega), h2.num (hw _ (List.mem_of_getElem? hk2)) (fv_rng _) (by omega), by omega, by omega⟩⟩
/-- Six pairs, one behind the other. -/
def six (co : Nat → Array Value) : Array Value := joinA [co 0, co 1, co 2, co 3, co 4, co 5]
def Siz (co : Nat → Array Value) : Prop := ∀ i, i < 6 → Sz2 (co i)
def SixIn (M : List (Nat × TypeId × Array Value)) (co : Nat → Array Value) (f : Nat → F2) : Prop := ∀ i, i < 6 → PIn M (co i) (f i)
def SixAt (w : World) (co : Nat → Array Value) (f : Nat → F2) : Prop := ∀ i, i < 6 → PairAt w (co i) (f i)
theorem SixIn.siz {M : List (Nat × TypeId × Array Value)} {co : Nat → Array Value} {f : Nat → F2} (h : SixIn M co f) : Siz co := fun i hi => (h i hi).1
theorem SixAt.siz {w : World} {co : Nat → Array Value} {f : Nat → F2} (h : SixAt w co f) : Siz co := fun i hi => (h i hi).sz
theorem SixIn.mono {M M' : List (Nat × TypeId × Array Value)} {co : Nat → Array Value} {f : Nat → F2} (h : SixIn M co f) (hs : M.Sublist M') : SixIn M' co f := fun i hi => (h i hi).mono hs
theorem SixIn.here {M L : List (Nat × TypeId × Array Value)} {v w : World} {co : Nat → Array Value} {f : Nat → F2} (h : SixIn M co f) (hw : Hbl v L w) (hs : M.Sublist L) : SixAt w co f := fun i hi => (h i hi).here hw hs
theorem Siz.all {co : Nat → Array Value} (h : Siz co) : ∀ a ∈ [co 0, co 1, co 2, co 3, co 4, co 5], a.size = 2 := by
  intro a ha
  simp only [List.mem_cons, List.not_mem_nil, or_false] at ha
  rcases ha with rfl | rfl | rfl | rfl | rfl | rfl <;> exact (h _ (by omega)).1
theorem six_size {co : Nat → Array Value} (h : Siz co) : (six co).size = 12 := (joinC_size 2 _ h.all).trans rfl
theorem six_one {co : Nat → Array Value} (h : Siz co) : (six co).all (·.oneCell') = true := one_join _ (by
  intro a ha
  simp only [List.mem_cons, List.not_mem_nil, or_false] at ha
  rcases ha with rfl | rfl | rfl | rfl | rfl | rfl <;> exact (h _ (by omega)).2)
theorem hi_six {co : Nat → Array Value} (h : Siz co) : (Tryd.prog.info? 79).map (·.size) = some (six co).size := hi_a 2 12 _ (by kernel_rfl) h.all rfl
theorem hi_P {u : Array Value} (h : Sz2 u) : (Tryd.prog.info? 77).map (·.size) = some u.size := hi_N.trans (congrArg some h.1.symm)
theorem sz_six {co co' : Nat → Array Value} (h : Siz co) (h' : Siz co') : (six co).size = (six co').size := (six_size h).trans (six_size h').symm
theorem six_at (co : Nat → Array Value) (h : Siz co) (i : Nat) (hi : i < 6) : Sl (six co) (i * 2) (co i) := sl_joinC 2 _ h.all i _ (by
  rcases i with _ | _ | _ | _ | _ | _ | i
  · rfl
  · rfl
  · rfl
  · rfl
  · rfl
  · rfl
  · omega) _ rfl
def upd (co : Nat → Array Value) (k : Nat) (u : Array Value) : Nat → Array Value := fun i => if i = k then u else co i
theorem six_splice (co : Nat → Array Value) (h : Siz co) (k : Nat) (hk : k < 6) (u : Array Value) (hu : Sz2 u) : (splice (six co).toList (k * 2) u.toList).toArray = six (upd co k u) :=
  spliceC' 2 _ h.all k u hu.1 hk _ rfl _ (by
  rcases k with _ | _ | _ | _ | _ | _ | k
  · rfl
  · rfl
  · rfl
  · rfl
  · rfl
  · rfl
  · omega)
theorem upd_siz {co : Nat → Array Value} (h : Siz co) (k : Nat) {u : Array Value} (hu : Sz2 u) : Siz (upd co k u) := fun i hi => by
  unfold upd
  split
  · exact hu
  · exact h i hi
theorem SixIn.upd {M : List (Nat × TypeId × Array Value)} {co : Nat → Array Value} {f f' : Nat → F2} {k : Nat} {u : Array Value} {x : F2} (h : SixIn M co f) (hu : PIn M u x) (hk : f' k = x) (ho : ∀ i, i < 6 → i ≠ k → f' i = f i) : SixIn M (upd co k u) f' := fun i hi => by
  unfold Proofs.YtialfoccalobpaaDoor.upd
  split
  · rename_i e; subst e; rw [hk]; exact hu
  · rename_i e; rw [ho i hi e]; exact h i hi
/-- Nothing yet: six times nought. -/
def nco : Nat → Array Value := fun _ => #[.slice none 0 0, .slice none 0 0]
theorem nco_in : SixIn [] nco (fun _ => 0) := fun i hi => PIn.nil
theorem nco_siz : Siz nco := nco_in.siz
def mk6 (a b c d e f : Array Value) : Nat → Array Value
  | 0 => a
  | 1 => b
  | 2 => c
  | 3 => d
  | 4 => e
  | _ => f
theorem mk6_in {M : List (Nat × TypeId × Array Value)} {a b c d e f : Array Value} {φ : Nat → F2} (h0 : PIn M a (φ 0)) (h1 : PIn M b (φ 1)) (h2 : PIn M c (φ 2)) (h3 : PIn M d (φ 3)) (h4 : PIn M e (φ 4)) (h5 : PIn M f (φ 5)) : SixIn M (mk6 a b c d e f) φ := fun i hi => by
  rcases i with _ | _ | _ | _ | _ | _ | i
  · exact h0
  · exact h1
  · exact h2
  · exact h3
  · exact h4
  · exact h5
  · omega
/-- A call gives a value and memory of its own for it. -/
def RetsM (Q : List (Nat × TypeId × Array Value) → Value → Prop) (f : FuncId) (args : Array Value) (w : World) : Prop :=
  Calls Tryd.prog f args w fun e w' => ∃ (u : Value) (M : List (Nat × TypeId × Array Value)), e = .returned u ∧ Q M u ∧ Hbl w M w'
def QP (x : F2) (M : List (Nat × TypeId × Array Value)) (u : Value) : Prop := ∃ a, u = .agg a ∧ PIn M a x
def QS (f : Nat → F2) (M : List (Nat × TypeId × Array Value)) (u : Value) : Prop := ∃ co, u = .agg (six co) ∧ SixIn M co f
def QN (M : List (Nat × TypeId × Array Value)) (u : Value) : Prop := ∃ co x, u = .tuple #[.agg (six co), .agg (c12 x)] ∧ SixIn M co (comp x)
theorem QP.mono {x : F2} {M M' : List (Nat × TypeId × Array Value)} {u : Value} (hs : M.Sublist M') : QP x M u → QP x M' u := fun ⟨a, e, h⟩ => ⟨a, e, h.mono hs⟩
theorem QS.mono {f : Nat → F2} {M M' : List (Nat × TypeId × Array Value)} {u : Value} (hs : M.Sublist M') : QS f M u → QS f M' u := fun ⟨a, e, h⟩ => ⟨a, e, h.mono hs⟩
theorem QN.mono {M M' : List (Nat × TypeId × Array Value)} {u : Value} (hs : M.Sublist M') : QN M u → QN M' u := fun ⟨a, x, e, h⟩ => ⟨a, x, e, h.mono hs⟩
theorem RetsM.ofY {x : F2} {f : FuncId} {args : Array Value} {w : World} (h : RetsY 100 100 (fun g cap g2 cap2 => .agg #[.slice (some ⟨g, 0, none⟩) 24 cap, .slice (some ⟨g2, 0, none⟩) 24 cap2]) (fun cap cs cap2 cs2 => WB cs cap 24 (x.a.val : Int) ∧ WB cs2 cap2 24 (x.b.val : Int)) f args w) : RetsM (QP x) f args w :=
  Calls.mono h fun e w' ⟨g, cap, cs, g2, cap2, cs2, he, ⟨h1, h2⟩, hb⟩ => ⟨_, _, he, ⟨_, rfl, PIn.two 0 1 (by rfl) (by rfl) h1 h2⟩, hb⟩
theorem m5_mul (x y : F2) (u u' : Array Value) (v : World) (h : PairAt v u x) (h' : PairAt v u' y) : RetsM (QP (x * y)) 100 #[.agg u, .agg u'] v := by
  obtain ⟨A0, n0, c0, A1, n1, c1, rfl, h0, h1, s0, s1⟩ := h
  obtain ⟨A2, n2, c2, A3, n3, c3, rfl, h2, h3, s2, s3⟩ := h'
  exact RetsM.ofY (l5_mul x y A0 n0 c0 A1 n1 c1 A2 n2 c2 A3 n3 c3 v h0 h1 s0 s1 h2 h3 s2 s3)
theorem m5_add (x y : F2) (u u' : Array Value) (v : World) (h : PairAt v u x) (h' : PairAt v u' y) : RetsM (QP (x + y)) 101 #[.agg u, .agg u'] v := by
  obtain ⟨A0, n0, c0, A1, n1, c1, rfl, h0, h1, s0, s1⟩ := h
  obtain ⟨A2, n2, c2, A3, n3, c3, rfl, h2, h3, s2, s3⟩ := h'
  exact RetsM.ofY (l5_add x y A0 n0 c0 A1 n1 c1 A2 n2 c2 A3 n3 c3 v h0 h1 s0 s1 h2 h3 s2 s3)
theorem m5_sub (x y : F2) (u u' : Array Value) (v : World) (h : PairAt v u x) (h' : PairAt v u' y) : RetsM (QP (x - y)) 50 #[.agg u, .agg u'] v := by
  obtain ⟨A0, n0, c0, A1, n1, c1, rfl, h0, h1, s0, s1⟩ := h
  obtain ⟨A2, n2, c2, A3, n3, c3, rfl, h2, h3, s2, s3⟩ := h'
  exact RetsM.ofY (l5_sub x y A0 n0 c0 A1 n1 c1 A2 n2 c2 A3 n3 c3 v h0 h1 s0 s1 h2 h3 s2 s3)
theorem m5_bytes (x : F2) (u : Array Value) (v : World) (h : PairAt v u x) : RetsX 5 (fun g cap => .slice (some ⟨g, 0, none⟩) (48 + 48) cap) (fun cap cs => BB cs cap (48 + 48) (lo ((x).b.val : Int) 48 ++ lo ((x).a.val : Int) 48)) 94 #[.agg u] v := by
  obtain ⟨A0, n0, c0, A1, n1, c1, rfl, h0, h1, s0, s1⟩ := h
  exact l5_bytes x A0 n0 c0 A1 n1 c1 v h0 h1 s0 s1
theorem xi_at {w : World} {g g2 : Nat} (h : Blk w g 100 #[.int .u32 1]) (h2 : Blk w g2 100 #[.int .u32 1]) : PairAt w #[.slice (some ⟨g, 0, none⟩) 1 1, .slice (some ⟨g2, 0, none⟩) 1 1] xi2 :=
  ⟨_, _, _, _, _, _, rfl, one_num h, one_num h2, by omega, by omega⟩
section
variable {P : Program} {S : World → Prop} {l : List (Nat × Value)} {dst : Option Tmp} {x y : Operand} {t ty : TypeId} {pos : String} {after : Array Edge} {gd : Option (Nat × Bool)}
theorem gives_index_six {e : TypeId} {k : IntKind} (g m s : Nat) (i : Int) (j o : Nat) (hx : rho l x = .pointer (some ⟨g, 0, none⟩)) (hy : rho l y = .int k i) (ht : P.underlying t = some (.array m e)) (hs : (P.info? e).map (·.size) = some s) (h0 : i = (j : Int)) (h1 : j < m) (ho : j * s = o) :
    Gives P S (.pointer (some ⟨g, o, none⟩)) (execOp (rho l) ⟨dst, .indexAddr t x y, ty, pos, after, gd⟩) := gives_value _ fun w => by
  subst h0 ho
  obtain ⟨ie, he, hz⟩ := Option.map_eq_some_iff.1 hs
  simp [execOp, hx, hy, Instr.indexAt, Instr.sureAddr, run_underlying ht, asIntOf, sizeOf, typeInfo, he, hz, h1, add_plain]
end
section
variable {ops : Array Oper} {late : List Nat} {R : Act → World → Prop} {v : World} {L0 : List (Nat × TypeId × Array Value)} {n : Nat} {sl : List (Nat × Value)}
theorem hbl_tail {EL : List (Nat × TypeId × Array Value) → List (Nat × TypeId × Array Value)} {E T M : List (Nat × TypeId × Array Value)} (hE : ∀ T, EL T = E ++ T) {w w' : World} (h : Hbl v (EL T) w) (h2 : Hbl w M w') : Hbl v (EL (M ++ T)) w' := by
  rw [hE] at h ⊢
  exact (h.join h2).perm (List.perm_append_comm_assoc M E T)
theorem sub_tail {EL : List (Nat × TypeId × Array Value) → List (Nat × TypeId × Array Value)} {E T T' : List (Nat × TypeId × Array Value)} (hE : ∀ T, EL T = E ++ T) (h : T.Sublist T') : (EL T).Sublist (EL T') := by
  rw [hE, hE]
  exact h.append_left E
theorem L_freshM {i d : Nat} {l : List Nat} {f : FuncId} {args : Array Operand} {ats : Array TypeId} {ty : TypeId} {pos : String} {after : Array Edge} {gd : Option (Nat × Bool)} {vl : List Value} (Q : List (Nat × TypeId × Array Value) → Value → Prop)
    (EL : List (Nat × TypeId × Array Value) → List (Nat × TypeId × Array Value)) (E T : List (Nat × TypeId × Array Value)) (hE : ∀ T, EL T = E ++ T) (hQ : ∀ {M M' : List (Nat × TypeId × Array Value)} {u : Value}, M.Sublist M' → Q M u → Q M' u)
    (hi : ops[i]? = some ⟨some d, .call { callee := .value (.func f), args := args, argTypes := ats }, ty, pos, after, gd⟩) (hl : inFr n sl = true) (hw : Want ops n sl gd) (hf : (Tryd.prog.funcs[f]?).map (fun fn => (fn.name == "runtime.NumGoroutine", fn.body.isNone)) = some (false, false))
    (ha : args.toList.map (rho sl) = vl) (hc : ∀ w, Hbl v (EL T) w → RetsM Q f vl.toArray w)
    (h : ∀ u T', T.Sublist T' → Q T' u → wpL Tryd.prog ops R l (fr n ((d, u) :: sl)) (Hbl v (EL T'))) : wpL Tryd.prog ops R (i :: l) (fr n sl) (Hbl v (EL T)) := fun w hS =>
  wpOp_call hi hl (hw ..) hf ha (hc w hS) fun e w' ⟨u, M, he, hq, hb⟩ => ⟨_, he, Hbl v (EL (M ++ T)), Hbl.stays v _, hbl_tail hE hS hb, h u (M ++ T) (List.sublist_append_right M T) (hQ (List.sublist_append_left M T) hq)⟩
theorem F_freshM {i d fuel : Nat} {listed : Array Bool} {f : FuncId} {args : Array Operand} {ats : Array TypeId} {ty : TypeId} {pos : String} {after : Array Edge} {gd : Option (Nat × Bool)} {vl : List Value} (Q : List (Nat × TypeId × Array Value) → Value → Prop)
    (EL : List (Nat × TypeId × Array Value) → List (Nat × TypeId × Array Value)) (E T : List (Nat × TypeId × Array Value)) (hE : ∀ T, EL T = E ++ T) (hQ : ∀ {M M' : List (Nat × TypeId × Array Value)} {u : Value}, M.Sublist M' → Q M u → Q M' u)
    (hi : ops[i]? = some ⟨some d, .call { callee := .value (.func f), args := args, argTypes := ats }, ty, pos, after, gd⟩) (hl : inFr n sl = true) (hw : Want ops n sl gd) (hf : (Tryd.prog.funcs[f]?).map (fun fn => (fn.name == "runtime.NumGoroutine", fn.body.isNone)) = some (false, false))
    (ha : args.toList.map (rho sl) = vl) (hs : L0.Sublist (EL T)) (hc : ∀ w, Hbl v (EL T) w → RetsM Q f vl.toArray w)
    (h : ∀ u T', T.Sublist T' → Q T' u → wpF Tryd.prog .any ops late R (Hbl v L0) fuel (listed.setIfInBounds i true) (fr n ((d, u) :: sl)) (Hbl v (EL T'))) :
    ∀ w, Hbl v (EL T) w → wpOp Tryd.prog ops (Nrm R) i (fun a' w' => ∃ S', (i ∈ late ∨ Ext (Hbl v L0) S') ∧ S' w' ∧ wpF Tryd.prog .any ops late R (Hbl v L0) fuel (listed.setIfInBounds i true) a' S') (fr n sl) w := fun w hS =>
  wpOp_call hi hl (hw ..) hf ha (hc w hS) fun e w' ⟨u, M, he, hq, hb⟩ => ⟨_, he, _, .inr (Ext.of_sub (hs.trans (sub_tail hE (List.sublist_append_right M T)))), hbl_tail hE hS hb, h u (M ++ T) (List.sublist_append_right M T) (hQ (List.sublist_append_left M T) hq)⟩
theorem F_storeS {i fuel : Nat} {listed : Array Bool} {t ty ty' : TypeId} {x y : Operand} {pos : String} {after : Array Edge} {L : List (Nat × TypeId × Array Value)} (k g o : Nat) (old cs new : Array Value) (hi : ops[i]? = some ⟨none, .store ty x y, ty', pos, after, none⟩) (hl : inFr n sl = true)
    (hx : rho sl x = .pointer (some ⟨g, o, none⟩)) (hy : rho sl y = .agg cs) (hk : L[k]? = some (g, t, old)) (hz : (Tryd.prog.info? ty).map (·.size) = some cs.size) (ho : o + cs.size ≤ old.size) (h1 : cs.all (·.oneCell') = true) (hn : (splice old.toList o cs.toList).toArray = new)
    (hs : i ∈ late ∨ L0.Sublist (L.set k (g, t, new))) (h : wpF Tryd.prog .any ops late R (Hbl v L0) fuel (listed.setIfInBounds i true) (fr n sl) (Hbl v (L.set k (g, t, new)))) :
    ∀ w, Hbl v L w → wpOp Tryd.prog ops (Nrm R) i (fun a' w' => ∃ S', (i ∈ late ∨ Ext (Hbl v L0) S') ∧ S' w' ∧ wpF Tryd.prog .any ops late R (Hbl v L0) fuel (listed.setIfInBounds i true) a' S') (fr n sl) w := fun w hS => by
  have hB := hS.blk k hk
  have hr := run_storeVar_only (P := Tryd.prog) w g o t ty old cs hB hz ho h1
  rw [hn] at hr
  exact wpOp_run (w' := w.setRow g new) (u := undef) hi rfl (.inr (by rw [fr_eval n sl hl]; simp [execOp, hx, hy, Instr.storeAt, Instr.sureAddr, hr])) ⟨_, hs.imp id Ext.of_sub, hS.store k hk _ (setRow_heap w g _ _ t _ hB) (setRow_only _), h⟩
end
end Go.Proofs.YtialfoccalobpaaDoor
