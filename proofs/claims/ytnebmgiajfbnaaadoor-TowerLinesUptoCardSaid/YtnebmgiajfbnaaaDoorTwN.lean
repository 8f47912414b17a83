/-
  Layer 6's laws: part, number, is.
-/
import Derived.Test.YtnebmgiajfbnaaaDoorAr
import Derived.Test.YtnebmgiajfbnaaaDoorTwB
namespace Go.Proofs.YtnebmgiajfbnaaaDoor
set_option linter.unusedSimpArgs false
set_option linter.unusedVariables false
open Go.RowKit
theorem part_rem (k i n j : Nat) (h : j = (48 * k + i) % n) : (48 * (k : Int) + (i : Int)).tmod (n : Int) = (j : Int) := by
  rw [Int.tmod_eq_emod_of_nonneg (by omega), h, Int.natCast_emod]
  rfl
theorem part_two (i n : Nat) (hi : i ≤ 48) (h : 0 < n) : (i < 48 ∧ 0 < n) ∨ i = 48 := by omega
theorem BB.nil : BB #[] 0 0 [] := ⟨rfl, Nat.le_refl _, by omega, rfl, rfl⟩
theorem BB.snoc {cs cs' : Array Value} {cap cap' m : Nat} {l : List Int} {d : Int} (h : BB cs cap m l) (h1 : m + 1 ≤ cap') (h2 : cs'.size = cap') (h3 : cap' ≤ 9223372036854775807) (h4 : cs'.toList.take (m + 1) = cs.toList.take m ++ [.int .u8 d]) : BB cs' cap' (m + 1) (l ++ [d]) :=
  ⟨h2, h1, h3, by rw [List.length_append, h.len]; rfl, by rw [h4, h.bytes, List.map_append]; rfl⟩
theorem Oct.nil : Oct [] := fun b hb => (List.not_mem_nil hb).elim
theorem Oct.snoc {l : List Int} (h : Oct l) {d : Int} (hd : 0 ≤ d ∧ d < 256) : Oct (l ++ [d]) := fun b hb => by
  rcases List.mem_append.1 hb with hb | hb
  · exact h b hb
  · simp at hb; subst hb; exact hd
theorem hi_a {P : Program} {t : TypeId} (s N : Nat) (ch : List (Array Value)) (hi : (P.info? t).map (·.size) = some N) (hs : ∀ a ∈ ch, a.size = s) (hl : ch.length * s = N) : (P.info? t).map (·.size) = some (joinA ch).size := by rw [joinC_size s ch hs, hl, hi]
theorem z_a2 : (Tryd.prog.info? 76).map (·.zero) = some (some (.agg (joinA [c2 0, c2 0, c2 0, c2 0, c2 0, c2 0]))) := by rw [c2_zero]; kernel_rfl
theorem z_aN : (Tryd.prog.info? 47).map (·.zero) = some (some (.agg (joinA [#[.slice none 0 0, .slice none 0 0], #[.slice none 0 0, .slice none 0 0], #[.slice none 0 0, .slice none 0 0], #[.slice none 0 0, .slice none 0 0], #[.slice none 0 0, .slice none 0 0], #[.slice none 0 0, .slice none 0 0]]))) := by kernel_rfl
theorem sh_3 : (Tryd.prog).stoodInHeld 49 = false := by kernel_rfl
theorem sh_12 : (Tryd.prog).stoodInHeld 51 = false := by kernel_rfl
theorem eq_3 (x y : C3) (d : Nat) (w : World) : (Op.equalIn (d + 1 + 1 + 1 + 1 + 1) 49 (.agg (c3 x)) (.agg (c3 y))).run Tryd.prog w = .ok (decide (x = y)) w := by
  refine run_equalIn_struct (d + 1 + 1 + 1 + 1) w _ _ _ _ Tryd.underlying49 sh_3 _ ?_
  rw [decide_eq_decide.2 C3.eq_iff, Bool.decide_and, Bool.decide_and, ← Bool.and_true (decide (x.c = y.c))]
  refine EqFs.cons ?_ (run_part_agg w 36 (c3 x) (c2 x.a) 0 _ Tryd.underlying36 rfl (hi_2 _) (ext_left _ _ 12 (c2_size _))) (run_part_agg w 36 (c3 y) (c2 y.a) 0 _ Tryd.underlying36 rfl (hi_2 _) (ext_left _ _ 12 (c2_size _))) (eq_2 x.a y.a d w)
    (EqFs.cons ?_ (run_part_agg w 36 (c3 x) (c2 x.b) 12 _ Tryd.underlying36 rfl (hi_2 _) (ext_mid _ _ _ 12 12 (c2_size _) (c2_size _))) (run_part_agg w 36 (c3 y) (c2 y.b) 12 _ Tryd.underlying36 rfl (hi_2 _) (ext_mid _ _ _ 12 12 (c2_size _) (c2_size _))) (eq_2 x.b y.b d w)
    (EqFs.cons (fs := []) ?_ (run_part_agg w 36 (c3 x) (c2 x.c) 24 _ Tryd.underlying36 rfl (hi_2 _) (ext_last _ _ _ 12 12 12 (c2_size _) (c2_size _) (c2_size _) 24 rfl)) (run_part_agg w 36 (c3 y) (c2 y.c) 24 _ Tryd.underlying36 rfl (hi_2 _) (ext_last _ _ _ 12 12 12 (c2_size _) (c2_size _) (c2_size _) 24 rfl)) (eq_2 x.c y.c d w) .nil))
  all_goals kernel_rfl
theorem eq_12 (x y : T12) (d : Nat) (w : World) : (Op.equalIn (d + 1 + 1 + 1 + 1 + 1 + 1) 51 (.agg (c12 x)) (.agg (c12 y))).run Tryd.prog w = .ok (decide (x = y)) w := by
  refine run_equalIn_struct (d + 1 + 1 + 1 + 1 + 1) w _ _ _ _ Tryd.underlying51 sh_12 _ ?_
  rw [decide_eq_decide.2 T12.eq_iff, Bool.decide_and, ← Bool.and_true (decide (x.b = y.b))]
  refine EqFs.cons ?_ (run_part_agg w 49 (c12 x) (c3 x.a) 0 _ Tryd.underlying49 rfl (hi_3 _) (ext_left _ _ _ rfl)) (run_part_agg w 49 (c12 y) (c3 y.a) 0 _ Tryd.underlying49 rfl (hi_3 _) (ext_left _ _ _ rfl)) (eq_3 x.a y.a d w)
    (EqFs.cons (fs := []) ?_ (run_part_agg w 49 (c12 x) (c3 x.b) 36 _ Tryd.underlying49 rfl (hi_3 _) (ext_right _ _ 36 _ (c3_size _) rfl)) (run_part_agg w 49 (c12 y) (c3 y.b) 36 _ Tryd.underlying49 rfl (hi_3 _) (ext_right _ _ 36 _ (c3_size _) rfl)) (eq_3 x.b y.b d w) .nil)
  all_goals kernel_rfl
theorem eq_3_t {x y : C3} {d : Nat} (w : World) (h : x = y) : (Op.equalIn (d + 1 + 1 + 1 + 1 + 1) 49 (.agg (c3 x)) (.agg (c3 y))).run Tryd.prog w = .ok true w := by rw [eq_3, decide_eq_true h]
theorem eq_3_f {x y : C3} {d : Nat} (w : World) (h : x ≠ y) : (Op.equalIn (d + 1 + 1 + 1 + 1 + 1) 49 (.agg (c3 x)) (.agg (c3 y))).run Tryd.prog w = .ok false w := by rw [eq_3, decide_eq_false h]
theorem eq_12_t {x y : T12} {d : Nat} (w : World) (h : x = y) : (Op.equalIn (d + 1 + 1 + 1 + 1 + 1 + 1) 51 (.agg (c12 x)) (.agg (c12 y))).run Tryd.prog w = .ok true w := by rw [eq_12, decide_eq_true h]
theorem eq_12_f {x y : T12} {d : Nat} (w : World) (h : x ≠ y) : (Op.equalIn (d + 1 + 1 + 1 + 1 + 1 + 1) 51 (.agg (c12 x)) (.agg (c12 y))).run Tryd.prog w = .ok false w := by rw [eq_12, decide_eq_false h]
section
variable {P : Program} {ops : Array Oper} {R : Act → World → Prop} {v : World} {L : List (Nat × TypeId × Array Value)} {n : Nat} {sl : List (Nat × Value)}
theorem L_build1g {i d : Nat} {il : List Nat} {t ty e : TypeId} {pos : String} {after : Array Edge} {gd : Option (Nat × Bool)} {p : Operand} (u z : Value) (hi : ops[i]? = some ⟨some d, .buildSlice t 1 #[(0, p)], ty, pos, after, gd⟩) (hl : inFr n sl = true) (hw : Want ops n sl gd) (ht : P.underlying t = some (.slice e))
    (hinfo : (P.info? e).map (fun i => (i.zero, i.size)) = some (some z, 1)) (hz1 : z.cells = #[z]) (hx : rho sl p = u) (h1 : u.oneCell' = true)
    (h : ∀ g, wpL P ops R il (fr n ((d, .slice (some ⟨g, 0, none⟩) 1 1) :: sl)) (Hbl v ((g, e, #[u]) :: L))) : wpL P ops R (i :: il) (fr n sl) (Hbl v L) := fun w hS => by
  obtain ⟨ie, he, hz⟩ := Option.map_eq_some_iff.1 hinfo
  simp only [Prod.mk.injEq] at hz
  have hc : u.cells = #[u] := by cases u <;> first | rfl | cases h1
  have hrun : (Instr.buildSlice t 1 (#[(0, p)].map fun x => (x.1, rho sl x.2))).run P w = .ok (.slice (some ⟨w.heap.size, 0, none⟩) 1 1) (w.alloc (.cells #[u] e)) := by
    refine run_buildSlice w t e 1 _ #[u] ie z ht he hz.1 (by rw [hz.2]; decide) (by rw [hz.2]; decide) ?_
    rw [hz.2, hz1]
    simp only [Instr.fill, List.map_toArray, List.map_cons, List.map_nil, hx, hc]
    have e1 : (Array.range (1 * 1)).map (fun x => (#[z] : Array Value)[x % (#[z] : Array Value).size]!) = #[z] := by
      apply Array.ext
      · simp
      · intro i h1 h2
        obtain rfl : i = 0 := by simp at h2; omega
        simp
    rw [e1]
    simp
  refine wpOp_runG (w' := w.alloc (.cells #[u] e)) hi (hw ..) (by rw [fr_eval n sl hl]; simp only [execOp, Sem.run_bind]; rw [hrun]; rfl) ⟨_, Hbl.stays v _, hS.alloc e #[u], h _⟩
/-- A call whose value is one of two things' making. -/
theorem L_callE {A B : Type} {i d : Nat} {l : List Nat} {f : FuncId} {args : Array Operand} {ats : Array TypeId} {ty : TypeId} {pos : String} {after : Array Edge} {gd : Option (Nat × Bool)} {vl : List Value} (val : A → B → Value) (Q : A → B → Prop)
    (hi : ops[i]? = some ⟨some d, .call { callee := .value (.func f), args := args, argTypes := ats }, ty, pos, after, gd⟩) (hl : inFr n sl = true) (hw : Want ops n sl gd) (hf : (Tryd.prog.funcs[f]?).map (fun fn => (fn.name == "runtime.NumGoroutine", fn.body.isNone)) = some (false, false))
    (ha : args.toList.map (rho sl) = vl) (hc : ∀ w, Hbl v L w → Calls Tryd.prog f vl.toArray w fun e w' => ∃ a b, e = .returned (val a b) ∧ Q a b ∧ Below w.heap.size w w')
    (h : ∀ a b, Q a b → wpL Tryd.prog ops R l (fr n ((d, val a b) :: sl)) (Hbl v L)) : wpL Tryd.prog ops R (i :: l) (fr n sl) (Hbl v L) := fun w hS =>
  wpOp_call hi hl (hw ..) hf ha (hc w hS) fun e w' ⟨a, b, he, hq, hb⟩ => ⟨_, he, Hbl v L, Hbl.stays v _, Hbl.stays v L w w' hS hb, h a b hq⟩
end
theorem hi_opN {u : Array Value} (h : u.size = 12) : (Tryd.prog.info? 47).map (·.size) = some u.size := by rw [h]; kernel_rfl
theorem six_reads {w : World} {g : Nat} {t : TypeId} (h : Blk w g t #[.int .u8 6]) : Reads w w.heap.size (some ⟨g, 0, none⟩) 1 ([6].map (Value.int .u8)) := copy_reads (bs := [6]) h rfl
theorem W6 : pw T12.W (num [6]).toNat = T12.of (C3.of F2.xi) := T12.w6
theorem F2.sm10 : F2.sm 1 0 = 1 := by apply F2.same <;> decide +kernel
theorem F2.sm11 : F2.sm 1 1 = F2.xi := by apply F2.same <;> decide +kernel
theorem t_one_ne : (1 : T12) ≠ 0 := fun h => absurd (congrArg (fun x : T12 => x.a.a.a) h) (by decide +kernel)
attribute [local irreducible] wpL wpF fr Code.wp bodyPost
set_option maxRecDepth 100000 in
set_option maxHeartbeats 4000000 in
theorem part_n (A0 : Option Addr) (n0 c0 : Nat) (bs0 : List Int) (k : Nat) (v : World) (hr0 : Reads v v.heap.size A0 n0 (bs0.map (Value.int .u8))) (ho0 : Oct bs0) (hb0 : n0 ≤ 1099511627776) (h0 : 0 < n0) (hk : k ≤ 1000) : RetsX 5 (fun g cap => .slice (some ⟨g, 0, none⟩) 48 cap) (fun cap cs => ∃ l, BB cs cap 48 l ∧ Oct l) 64 #[.slice A0 n0 c0, .int .i64 k] v := by
  refine calls_fr2 Tryd.func64 rfl (by rfl : _ = 31) (by rfl) ?_
  have hw := Hbl.nil v
  refine seq_plain hw [0] (by rfl) ?_
  refine L_val (.slice none 0 0) (by rfl) (by rfl) (gives_value _ fun _ => by rfl) ?_
  refine L_end ?_
  intro w1 hw1
  refine seq_plain hw1 [0, 1] (by rfl) ?_
  refine L_build0 1 (by rfl) (by rfl) und_u8s u8_sz ?_; intro g1
  refine L_val (.slice (some ⟨g1, 0, none⟩) 0 0) (by rfl) (by rfl) (gives_value _ fun _ => by rfl) ?_
  refine L_end ?_
  intro w2 hw2
  refine wp_seq ?_
  refine seq_plain hw2 [0] (by rfl) ?_
  refine L_val (.int .i64 0) (by rfl) (by rfl) (gives_value _ fun _ => by rfl) ?_
  refine L_end ?_
  intro w3 hw3
  refine wp_block ?_
  refine loop_down (fun (r_ : Nat) a w => ∃ (i : Nat) (g : Nat) (cap : Nat) (cs : Array Value) (l : List Int) (l_1 : List (Nat × Value)), 48 - i = r_ ∧ inFr 31 l_1 = true ∧ a = fr 31 ((0, .slice A0 n0 c0) :: (1, .int .i64 (k : Int)) :: (5, .slice (some ⟨g, 0, none⟩) i cap) :: (6, .int .i64 (i : Int)) :: l_1) ∧ (i ≤ 48) ∧ (BB cs cap i l) ∧ (Oct l) ∧ Hbl v [(g, 5, cs)] w) ?_ _ _ _ ⟨0, g1, 0, #[], [], [(6, .int .i64 0), (5, .slice (some ⟨g1, 0, none⟩) 0 0), (7, .slice (some ⟨g1, 0, none⟩) 0 0), (4, .slice none 0 0), (1, .int .i64 (k : Int)), (0, .slice A0 n0 c0)], rfl, (by rfl), (Eq.trans (Eq.trans (Eq.trans (fr_dup _ _ 6 _ (by rfl) (by rfl) (by rfl)).symm (fr_dup _ _ 5 _ (by rfl) (by rfl) (by rfl)).symm) (fr_dup _ _ 1 _ (by rfl) (by rfl) (by rfl)).symm) (fr_dup _ _ 0 _ (by rfl) (by rfl) (by rfl)).symm), Nat.zero_le _, BB.nil, Oct.nil, hw3⟩
  rintro r_1 a0 w0_1 ⟨i, g, cap, cs, l, l_1, hr_1, hl_1, rfl, hi, hbb, hol, hw0_1⟩
  rcases part_two i n0 hi h0 with hlt | hlt
  ·
    obtain ⟨hi48, hpos⟩ := hlt
    obtain ⟨j, hj⟩ : ∃ j : Nat, j = (48 * k + i) % n0 := ⟨_, rfl⟩
    have hjl : j < n0 := hj ▸ Nat.mod_lt _ hpos
    have hjd := part_rem k i n0 j hj
    obtain ⟨b0, o0, hA0, hq0, hce0⟩ := reads_cell hr0 hjl
    refine wp_seq ?_
    refine seq_plain hw0_1 [0, 1, 2, 3, 4, 5, 6] (by rfl) ?_
    refine L_val (.int .i64 (i : Int)) (by rfl) (by exact hl_1) (gives_value _ fun _ => by rfl) ?_
    refine L_val (.bool true) (by rfl) (by exact hl_1) (gives_lss (k := .i64) ((i : Int)) (48) true (by rfl) (by rfl) (decide_eq_true (by omega))) ?_
    refine L_val (.bool true) (by rfl) (by exact hl_1) (gives_value _ fun _ => by rfl) ?_
    refine L_val_g (dj := 10) (.slice A0 n0 c0) (by rfl) (by exact hl_1) (by rfl) (by rfl) (by rfl) (gives_value _ fun _ => by rfl) ?_
    refine L_val_g (dj := 10) (.int .i64 (n0 : Int)) (by rfl) (by exact hl_1) (by rfl) (by rfl) (by rfl) (gives_len _ n0 c0 und_u8s (by rfl)) ?_
    refine L_val_g (dj := 10) (.bool true) (by rfl) (by exact hl_1) (by rfl) (by rfl) (by rfl) (gives_gtr (k := .i64) ((n0 : Int)) (0) true (by rfl) (by rfl) (decide_eq_true (by omega))) ?_
    refine L_val (.bool true) (by rfl) (by exact hl_1) (gives_value _ fun _ => by rfl) ?_
    refine L_end ?_
    intro w4 hw4
    refine wp_cond_true (fr_at _ _ (by exact hl_1) _) ?_
    refine wp_skip ?_
    change Code.wp _ _ _ _ _
    refine wp_seq ?_
    refine wp_block ?_
    refine one_plain hw4 [0, 1, 2, 3, 4, 5, 6, 7, 8, 9, 10, 11, 12, 13] (by rfl) ?_
    refine L_val (.slice (some ⟨g, 0, none⟩) i cap) (by rfl) (by exact hl_1) (gives_value _ fun _ => by rfl) ?_
    refine L_val (.slice A0 n0 c0) (by rfl) (by exact hl_1) (gives_value _ fun _ => by rfl) ?_
    refine L_val (.int .i64 (k : Int)) (by rfl) (by exact hl_1) (gives_value _ fun _ => by rfl) ?_
    refine L_val (.int .i64 (48 * (k : Int))) (by rfl) (by exact hl_1) (gives_mul (k := .i64) (48) ((k : Int)) (48 * (k : Int)) (by rfl) (by rfl) (IntWalk.i64_in _ (by omega))) ?_
    refine L_val (.int .i64 (i : Int)) (by rfl) (by exact hl_1) (gives_value _ fun _ => by rfl) ?_
    refine L_val (.int .i64 ((48 * (k : Int)) + (i : Int))) (by rfl) (by exact hl_1) (gives_add (k := .i64) (48 * (k : Int)) ((i : Int)) ((48 * (k : Int)) + (i : Int)) (by rfl) (by rfl) (IntWalk.i64_in _ (by omega))) ?_
    refine L_val (.slice A0 n0 c0) (by rfl) (by exact hl_1) (gives_value _ fun _ => by rfl) ?_
    refine L_val (.int .i64 (n0 : Int)) (by rfl) (by exact hl_1) (gives_len _ n0 c0 und_u8s (by rfl)) ?_
    refine L_val (.int .i64 (j : Int)) (by rfl) (by exact hl_1) (gives_rem (k := .i64) ((48 * (k : Int)) + (i : Int)) ((n0 : Int)) (j : Int) (by rfl) (by rfl) (by omega) hjd) ?_
    refine L_val (.pointer (some ⟨b0, o0 + (j), none⟩)) (by rfl) (by exact hl_1) (gives_index_old A0 n0 c0 ((j : Int)) (j) _ _ hA0 (by rfl) (by rfl) und_u8s u8_sz rfl (by omega)) ?_
    refine L_val (.int .u8 (gt bs0 j)) (by rfl) (by exact hl_1) (gives_load_old _ (.int .u8 (gt bs0 j)) (by rfl) (fun _ h => (h.below.cell (p := ⟨b0, _, none⟩) hq0).trans hce0) und_u8') ?_
    refine L_build1 (.int .u8 (gt bs0 j)) (.int .u8 0) (by rfl) (by exact hl_1) und_u8s u8_zs rfl (by rfl) rfl ?_; intro g2
    refine L_append 1 0 g g2 i cap 1 1 (.int .u8 0) (.int .u8 (gt bs0 j)) cs (by rfl) (by exact hl_1) und_u8s u8_all rfl (by rfl) (by rfl) (by rfl) (by rfl) rfl hbb.le hbb.size hbb.cap (by omega) (by omega) [(g2, 5, #[.int .u8 (gt bs0 j)])] (by rfl) ?_
    intro g3 cap_1 cs_1 ha1 hb1 hc1 hd1
    refine L_val (.slice (some ⟨g3, 0, none⟩) (i + 1) cap_1) (by rfl) (by exact hl_1) (gives_value _ fun _ => by rfl) ?_
    refine L_end ?_
    intro w5 hw5
    change Code.wp _ _ _ _ _
    refine one_plain hw5 [0, 1, 2] (by rfl) ?_
    refine L_val (.int .i64 (i : Int)) (by rfl) (by exact hl_1) (gives_value _ fun _ => by rfl) ?_
    refine L_val (.int .i64 ((i : Int) + 1)) (by rfl) (by exact hl_1) (gives_add (k := .i64) ((i : Int)) (1) ((i : Int) + 1) (by rfl) (by rfl) (IntWalk.i64_in _ (by omega))) ?_
    refine L_val (.int .i64 ((i : Int) + 1)) (by rfl) (by exact hl_1) (gives_value _ fun _ => by rfl) ?_
    refine L_end ?_
    intro w6 hw6
    change ∃ r' : Nat, r' < r_1 ∧ _
    refine ⟨_, ?_, i + 1, g3, cap_1, cs_1, l ++ [gt bs0 j], ((6, .int .i64 ((i : Int) + 1)) :: (16, .int .i64 ((i : Int) + 1)) :: (15, .int .i64 (i : Int)) :: (5, .slice (some ⟨g3, 0, none⟩) (i + 1) cap_1) :: (29, .slice (some ⟨g3, 0, none⟩) (i + 1) cap_1) :: (28, .slice (some ⟨g2, 0, none⟩) 1 1) :: (27, .int .u8 (gt bs0 j)) :: (26, .pointer (some ⟨b0, o0 + (j), none⟩)) :: (25, .int .i64 (j : Int)) :: (24, .int .i64 (n0 : Int)) :: (23, .slice A0 n0 c0) :: (22, .int .i64 ((48 * (k : Int)) + (i : Int))) :: (21, .int .i64 (i : Int)) :: (20, .int .i64 (48 * (k : Int))) :: (19, .int .i64 (k : Int)) :: (18, .slice A0 n0 c0) :: (17, .slice (some ⟨g, 0, none⟩) i cap) :: (14, .bool true) :: (13, .bool true) :: (12, .int .i64 (n0 : Int)) :: (11, .slice A0 n0 c0) :: (10, .bool true) :: (9, .bool true) :: (8, .int .i64 (i : Int)) :: (0, .slice A0 n0 c0) :: (1, .int .i64 (k : Int)) :: (5, .slice (some ⟨g, 0, none⟩) i cap) :: (6, .int .i64 (i : Int)) :: l_1), rfl, (by exact hl_1), (Eq.trans (Eq.trans (Eq.trans (fr_dup _ _ 6 _ (by exact hl_1) (by rfl) (by rfl)).symm (fr_dup _ _ 5 _ (by exact hl_1) (by rfl) (by rfl)).symm) (fr_dup _ _ 1 _ (by exact hl_1) (by rfl) (by rfl)).symm) (fr_dup _ _ 0 _ (by exact hl_1) (by rfl) (by rfl)).symm), by omega, hbb.snoc ha1 hb1 hc1 hd1, hol.snoc (ho0.at_ j), hw6.sub (List.Sublist.cons_cons _ (List.Sublist.cons _ (List.Sublist.refl _)))⟩
    omega
  ·
    refine wp_seq ?_
    refine seq_plain hw0_1 [0, 1, 2, 3, 4, 5, 6] (by rfl) ?_
    refine L_val (.int .i64 (i : Int)) (by rfl) (by exact hl_1) (gives_value _ fun _ => by rfl) ?_
    refine L_val (.bool false) (by rfl) (by exact hl_1) (gives_lss (k := .i64) ((i : Int)) (48) false (by rfl) (by rfl) (decide_eq_false (by omega))) ?_
    refine L_val (.bool false) (by rfl) (by exact hl_1) (gives_value _ fun _ => by rfl) ?_
    refine L_skip (dj := 10) (by rfl) (by exact hl_1) (by rfl) (by rfl) (by rfl) ?_
    refine L_skip (dj := 10) (by rfl) (by exact hl_1) (by rfl) (by rfl) (by rfl) ?_
    refine L_skip (dj := 10) (by rfl) (by exact hl_1) (by rfl) (by rfl) (by rfl) ?_
    refine L_val (.bool false) (by rfl) (by exact hl_1) (gives_value _ fun _ => by rfl) ?_
    refine L_end ?_
    intro w7 hw7
    refine wp_cond_false (fr_at _ _ (by exact hl_1) _) ?_
    refine wp_exit ?_
    change Code.wp _ _ _ _ _
    change Code.wp _ _ _ _ _
    refine seq_plain hw7 [0, 1] (by rfl) ?_
    refine L_val (.slice (some ⟨g, 0, none⟩) i cap) (by rfl) (by exact hl_1) (gives_value _ fun _ => by rfl) ?_
    refine L_val (.slice (some ⟨g, 0, none⟩) i cap) (by rfl) (by exact hl_1) (gives_value _ fun _ => by rfl) ?_
    refine L_end ?_
    intro w8 hw8
    subst hlt
    refine wp_ret ?_
    change bodyPost _ _ _ Exit.ret _ _
    refine (ret_tmp (by rfl) (by exact hl_1) (by rfl) ⟨g, cap, cs, rfl, ⟨l, hbb, hol⟩, hw8.ge 0 (by rfl), hw8.blk 0 (by rfl), hw8.below⟩)
set_option maxRecDepth 100000 in
set_option maxHeartbeats 4000000 in
theorem part_0 (A0 : Option Addr) (n0 c0 : Nat) (bs0 : List Int) (k : Nat) (v : World) (hr0 : Reads v v.heap.size A0 n0 (bs0.map (Value.int .u8))) (ho0 : Oct bs0) (hb0 : n0 ≤ 1099511627776) (h0 : n0 = 0) (hk : k ≤ 1000) : RetsX 5 (fun g cap => .slice (some ⟨g, 0, none⟩) 0 cap) (fun cap cs => ∃ l, BB cs cap 0 l ∧ Oct l) 64 #[.slice A0 n0 c0, .int .i64 k] v := by
  refine calls_fr2 Tryd.func64 rfl (by rfl : _ = 31) (by rfl) ?_
  have hw := Hbl.nil v
  refine seq_plain hw [0] (by rfl) ?_
  refine L_val (.slice none 0 0) (by rfl) (by rfl) (gives_value _ fun _ => by rfl) ?_
  refine L_end ?_
  intro w1 hw1
  refine seq_plain hw1 [0, 1] (by rfl) ?_
  refine L_build0 1 (by rfl) (by rfl) und_u8s u8_sz ?_; intro g1
  refine L_val (.slice (some ⟨g1, 0, none⟩) 0 0) (by rfl) (by rfl) (gives_value _ fun _ => by rfl) ?_
  refine L_end ?_
  intro w2 hw2
  refine wp_seq ?_
  refine seq_plain hw2 [0] (by rfl) ?_
  refine L_val (.int .i64 0) (by rfl) (by rfl) (gives_value _ fun _ => by rfl) ?_
  refine L_end ?_
  intro w3 hw3
  refine wp_block ?_
  refine loop_down (fun (r_ : Nat) a w => ∃ (i : Nat) (g : Nat) (cap : Nat) (cs : Array Value) (l : List Int) (l_1 : List (Nat × Value)), 48 - i = r_ ∧ inFr 31 l_1 = true ∧ a = fr 31 ((0, .slice A0 n0 c0) :: (1, .int .i64 (k : Int)) :: (5, .slice (some ⟨g, 0, none⟩) i cap) :: (6, .int .i64 (i : Int)) :: l_1) ∧ (i ≤ 0) ∧ (BB cs cap i l) ∧ (Oct l) ∧ Hbl v [(g, 5, cs)] w) ?_ _ _ _ ⟨0, g1, 0, #[], [], [(6, .int .i64 0), (5, .slice (some ⟨g1, 0, none⟩) 0 0), (7, .slice (some ⟨g1, 0, none⟩) 0 0), (4, .slice none 0 0), (1, .int .i64 (k : Int)), (0, .slice A0 n0 c0)], rfl, (by rfl), (Eq.trans (Eq.trans (Eq.trans (fr_dup _ _ 6 _ (by rfl) (by rfl) (by rfl)).symm (fr_dup _ _ 5 _ (by rfl) (by rfl) (by rfl)).symm) (fr_dup _ _ 1 _ (by rfl) (by rfl) (by rfl)).symm) (fr_dup _ _ 0 _ (by rfl) (by rfl) (by rfl)).symm), Nat.zero_le _, BB.nil, Oct.nil, hw3⟩
  rintro r_1 a0 w0_1 ⟨i, g, cap, cs, l, l_1, hr_1, hl_1, rfl, hi, hbb, hol, hw0_1⟩
  have hi0 : i = 0 := by omega
  refine wp_seq ?_
  refine seq_plain hw0_1 [0, 1, 2, 3, 4, 5, 6] (by rfl) ?_
  refine L_val (.int .i64 (i : Int)) (by rfl) (by exact hl_1) (gives_value _ fun _ => by rfl) ?_
  refine L_val (.bool true) (by rfl) (by exact hl_1) (gives_lss (k := .i64) ((i : Int)) (48) true (by rfl) (by rfl) (decide_eq_true (by omega))) ?_
  refine L_val (.bool true) (by rfl) (by exact hl_1) (gives_value _ fun _ => by rfl) ?_
  refine L_val_g (dj := 10) (.slice A0 n0 c0) (by rfl) (by exact hl_1) (by rfl) (by rfl) (by rfl) (gives_value _ fun _ => by rfl) ?_
  refine L_val_g (dj := 10) (.int .i64 (n0 : Int)) (by rfl) (by exact hl_1) (by rfl) (by rfl) (by rfl) (gives_len _ n0 c0 und_u8s (by rfl)) ?_
  refine L_val_g (dj := 10) (.bool false) (by rfl) (by exact hl_1) (by rfl) (by rfl) (by rfl) (gives_gtr (k := .i64) ((n0 : Int)) (0) false (by rfl) (by rfl) (decide_eq_false (by omega))) ?_
  refine L_val (.bool false) (by rfl) (by exact hl_1) (gives_value _ fun _ => by rfl) ?_
  refine L_end ?_
  intro w4 hw4
  refine wp_cond_false (fr_at _ _ (by exact hl_1) _) ?_
  refine wp_exit ?_
  change Code.wp _ _ _ _ _
  change Code.wp _ _ _ _ _
  refine seq_plain hw4 [0, 1] (by rfl) ?_
  refine L_val (.slice (some ⟨g, 0, none⟩) i cap) (by rfl) (by exact hl_1) (gives_value _ fun _ => by rfl) ?_
  refine L_val (.slice (some ⟨g, 0, none⟩) i cap) (by rfl) (by exact hl_1) (gives_value _ fun _ => by rfl) ?_
  refine L_end ?_
  intro w5 hw5
  subst hi0
  refine wp_ret ?_
  change bodyPost _ _ _ Exit.ret _ _
  refine (ret_tmp (by rfl) (by exact hl_1) (by rfl) ⟨g, cap, cs, rfl, ⟨l, hbb, hol⟩, hw5.ge 0 (by rfl), hw5.blk 0 (by rfl), hw5.below⟩)
set_option maxRecDepth 100000 in
set_option maxHeartbeats 4000000 in
theorem t_w  (v : World) (hG : Glo v) : Rets 62 #[] v (.agg (c12 T12.W)) := by
  obtain ⟨k0, hk0⟩ : ∃ k : F2, k = F2.sm 1 0 := ⟨_, rfl⟩
  refine calls_fr0 Tryd.func62 rfl (by rfl : _ = 4) ?_
  have hw := Hbl.nil v
  refine seq_plain hw [0] (by rfl) ?_
  refine L_alloc _ (by rfl) (by rfl) z_12 (c12 (0 : T12)) rfl ?_; intro g1
  refine L_end ?_
  intro w1 hw1
  refine seq_plain hw1 [0, 1, 2, 3] (by rfl) ?_
  refine L_val (.agg (c2 (k0))) (by rfl) (by rfl) (gives_call (vl := [.int .u64 1, .int .u64 0]) (by kernel_rfl) (by rfl) (fun w h => by rw [hk0]; exact q_small _ _ w (hG.keep h.below) (by omega) (by simp only [Wd]; omega) (by omega) (by simp only [Wd]; omega))) ?_
  refine L_val (.agg (c3 (⟨k0, (0 : F2), (0 : F2)⟩ : C3))) (by rfl) (by rfl) (gb_cubic [(0, (c2 (k0)))] ⟨congrArg some (c2_size _).symm, trivial⟩ (by rfl) (c3 (⟨k0, (0 : F2), (0 : F2)⟩ : C3)) (by rfl)) ?_
  refine L_val (.agg (c12 (⟨(0 : C3), (⟨k0, (0 : F2), (0 : F2)⟩ : C3)⟩ : T12))) (by rfl) (by rfl) (gb_tower [(1, (c3 (⟨k0, (0 : F2), (0 : F2)⟩ : C3)))] ⟨congrArg some (c3_size _).symm, trivial⟩ (by rfl) (c12 (⟨(0 : C3), (⟨k0, (0 : F2), (0 : F2)⟩ : C3)⟩ : T12)) (by rfl)) ?_
  refine L_store (t := 51) 0 g1 (c12 (0 : T12)) (c12 (⟨(0 : C3), (⟨k0, (0 : F2), (0 : F2)⟩ : C3)⟩ : T12)) (by rfl) (by rfl) (by rfl) (by rfl) (by rfl) (hi_12 _) ((c12_size _).trans (c12_size _).symm) (c12_one _) ?_
  simp only [List.set_cons_zero, List.set_cons_succ]
  refine L_end ?_
  intro w2 hw2
  refine wp_ret ?_
  change bodyPost _ _ _ Exit.ret _ _
  refine (ret_cell (by rfl) (by rfl) (by rfl) (hw2.blk 0 (by rfl)) Tryd.underlying51 (by rfl) (hi_12 _) ⟨?_, hw2.below⟩)
  refine congrArg (fun z : T12 => Ending.returned (.agg (c12 z))) ?_
  rw [hk0, F2.sm10]
  rfl
set_option maxRecDepth 100000 in
set_option maxHeartbeats 4000000 in
theorem t_head  (v : World) (hG : Glo v) : Rets 32 #[] v (.bool true) := by
  obtain ⟨k0, hk0⟩ : ∃ k : F2, k = F2.sm 1 0 := ⟨_, rfl⟩
  obtain ⟨k1, hk1⟩ : ∃ k : F2, k = F2.sm 1 1 := ⟨_, rfl⟩
  refine calls_fr0 Tryd.func32 rfl (by rfl : _ = 22) ?_
  have hw := Hbl.nil v
  refine seq_plain hw [0] (by rfl) ?_
  refine L_val (.bool false) (by rfl) (by rfl) (gives_value _ fun _ => by rfl) ?_
  refine L_end ?_
  intro w1 hw1
  refine seq_plain hw1 [0, 1, 2, 3, 4, 5, 6, 7, 8, 9, 10, 11, 12, 13, 14, 15, 16, 17, 18, 19, 20, 21] (by rfl) ?_
  refine L_val (.agg (c12 (T12.W))) (by rfl) (by rfl) (gives_call (vl := []) (by kernel_rfl) (by rfl) (fun w h => t_w w (hG.keep h.below))) ?_
  refine L_val (.agg (c12 (T12.W))) (by rfl) (by rfl) (gives_call (vl := []) (by kernel_rfl) (by rfl) (fun w h => t_w w (hG.keep h.below))) ?_
  refine L_val (.agg (c12 ((T12.W) * (T12.W)))) (by rfl) (by rfl) (gives_call (vl := [.agg (c12 (T12.W)), .agg (c12 (T12.W))]) (by kernel_rfl) (by rfl) (fun w h => t_mul _ _ w (hG.keep h.below))) ?_
  refine L_val (.agg (c2 (k0))) (by rfl) (by rfl) (gives_call (vl := [.int .u64 1, .int .u64 0]) (by kernel_rfl) (by rfl) (fun w h => by rw [hk0]; exact q_small _ _ w (hG.keep h.below) (by omega) (by simp only [Wd]; omega) (by omega) (by simp only [Wd]; omega))) ?_
  refine L_val (.agg (c3 (⟨(0 : F2), k0, (0 : F2)⟩ : C3))) (by rfl) (by rfl) (gb_cubic [(1, (c2 (k0)))] ⟨congrArg some (c2_size _).symm, trivial⟩ (by rfl) (c3 (⟨(0 : F2), k0, (0 : F2)⟩ : C3)) (by rfl)) ?_
  refine L_val (.agg (c12 (⟨(⟨(0 : F2), k0, (0 : F2)⟩ : C3), (0 : C3)⟩ : T12))) (by rfl) (by rfl) (gb_tower [(0, (c3 (⟨(0 : F2), k0, (0 : F2)⟩ : C3)))] ⟨congrArg some (c3_size _).symm, trivial⟩ (by rfl) (c12 (⟨(⟨(0 : F2), k0, (0 : F2)⟩ : C3), (0 : C3)⟩ : T12)) (by rfl)) ?_
  refine L_val (.bool true) (by rfl) (by rfl) (gives_eql (c12 ((T12.W) * (T12.W))) (c12 (⟨(⟨(0 : F2), k0, (0 : F2)⟩ : C3), (0 : C3)⟩ : T12)) true (by rfl) (by rfl) (by kernel_rfl) (fun w => eq_12_t (d := 9994) w (by rw [hk0, F2.sm10]; exact T12.ww))) ?_
  refine L_val (.bool true) (by rfl) (by rfl) (gives_value _ fun _ => by rfl) ?_
  refine L_val_g (dj := 8) (.agg (c12 (T12.W))) (by rfl) (by rfl) (by rfl) (by rfl) (by rfl) (gives_call (vl := []) (by kernel_rfl) (by rfl) (fun w h => t_w w (hG.keep h.below))) ?_
  refine L_build1g (.int .u8 6) (.int .u8 0) (by rfl) (by rfl) (Want.some (dj := 8) (by rfl) (by rfl) (by rfl) (by rfl)) und_u8s u8_zs rfl (by rfl) rfl ?_; intro g1
  refine L_val_g (dj := 8) (.agg (c12 (pw (T12.W) (num [6]).toNat))) (by rfl) (by rfl) (by rfl) (by rfl) (by rfl) (gives_call (vl := [.agg (c12 (T12.W)), .slice (some ⟨g1, 0, none⟩) 1 1]) (by kernel_rfl) (by rfl) (fun w h => t_power _ _ _ _ [6] w (hG.keep h.below) (six_reads (h.blk 0 (by rfl))) (by intro b hb; simp at hb; omega) (by omega))) ?_
  refine L_val_g (dj := 8) (.agg (c2 (k1))) (by rfl) (by rfl) (by rfl) (by rfl) (by rfl) (gives_call (vl := [.int .u64 1, .int .u64 1]) (by kernel_rfl) (by rfl) (fun w h => by rw [hk1]; exact q_small _ _ w (hG.keep h.below) (by omega) (by simp only [Wd]; omega) (by omega) (by simp only [Wd]; omega))) ?_
  refine L_val_g (dj := 8) (.agg (c3 (⟨k1, (0 : F2), (0 : F2)⟩ : C3))) (by rfl) (by rfl) (by rfl) (by rfl) (by rfl) (gb_cubic [(0, (c2 (k1)))] ⟨congrArg some (c2_size _).symm, trivial⟩ (by rfl) (c3 (⟨k1, (0 : F2), (0 : F2)⟩ : C3)) (by rfl)) ?_
  refine L_val_g (dj := 8) (.agg (c12 (⟨(⟨k1, (0 : F2), (0 : F2)⟩ : C3), (0 : C3)⟩ : T12))) (by rfl) (by rfl) (by rfl) (by rfl) (by rfl) (gb_tower [(0, (c3 (⟨k1, (0 : F2), (0 : F2)⟩ : C3)))] ⟨congrArg some (c3_size _).symm, trivial⟩ (by rfl) (c12 (⟨(⟨k1, (0 : F2), (0 : F2)⟩ : C3), (0 : C3)⟩ : T12)) (by rfl)) ?_
  refine L_val_g (dj := 8) (.bool true) (by rfl) (by rfl) (by rfl) (by rfl) (by rfl) (gives_eql (c12 (pw (T12.W) (num [6]).toNat)) (c12 (⟨(⟨k1, (0 : F2), (0 : F2)⟩ : C3), (0 : C3)⟩ : T12)) true (by rfl) (by rfl) (by kernel_rfl) (fun w => eq_12_t (d := 9994) w (by rw [hk1, F2.sm11]; exact W6))) ?_
  refine L_val (.bool true) (by rfl) (by rfl) (gives_value _ fun _ => by rfl) ?_
  refine L_val (.bool true) (by rfl) (by rfl) (gives_value _ fun _ => by rfl) ?_
  refine L_val_g (dj := 17) (.agg (c12 (1 : T12))) (by rfl) (by rfl) (by rfl) (by rfl) (by rfl) (gives_call (vl := []) (by kernel_rfl) (by rfl) (fun w h => t_one w (hG.keep h.below))) ?_
  refine L_val_g (dj := 17) (.agg (c12 (0 : T12))) (by rfl) (by rfl) (by rfl) (by rfl) (by rfl) (gb_tower [] trivial (by rfl) (c12 (0 : T12)) (by rfl)) ?_
  refine L_val_g (dj := 17) (.bool true) (by rfl) (by rfl) (by rfl) (by rfl) (by rfl) (gives_neq (c12 (1 : T12)) (c12 (0 : T12)) false (by rfl) (by rfl) (by kernel_rfl) (fun w => eq_12_f (d := 9994) w t_one_ne)) ?_
  refine L_val (.bool true) (by rfl) (by rfl) (gives_value _ fun _ => by rfl) ?_
  refine L_val (.bool true) (by rfl) (by rfl) (gives_value _ fun _ => by rfl) ?_
  refine L_end ?_
  intro w2 hw2
  refine wp_ret ?_
  change bodyPost _ _ _ Exit.ret _ _
  refine (ret_tmp (by rfl) (by rfl) (by rfl) ⟨?_, hw2.below⟩)
  rfl
set_option maxRecDepth 100000 in
set_option maxHeartbeats 4000000 in
theorem number_n (A0 : Option Addr) (n0 c0 : Nat) (bs0 : List Int) (v : World) (hG : Glo v) (hr0 : Reads v v.heap.size A0 n0 (bs0.map (Value.int .u8))) (ho0 : Oct bs0) (hb0 : n0 ≤ 1099511627776) (h0 : 0 < n0) : Calls Tryd.prog 34 #[.slice A0 n0 c0] v fun e w' => ∃ (u : Array Value) (x : T12), e = .returned (.tuple #[.agg u, .agg (c12 x)]) ∧ (u.size = 12 ∧ u.all (·.oneCell') = true) ∧ Below v.heap.size v w' := by
  refine calls_fr1 Tryd.func34 rfl (by rfl : _ = 49) (by rfl) ?_
  have hw := Hbl.nil v
  refine seq_plain hw [0, 1] (by rfl) ?_
  refine L_alloc _ (by rfl) (by rfl) z_aN (joinA [#[.slice none 0 0, .slice none 0 0], #[.slice none 0 0, .slice none 0 0], #[.slice none 0 0, .slice none 0 0], #[.slice none 0 0, .slice none 0 0], #[.slice none 0 0, .slice none 0 0], #[.slice none 0 0, .slice none 0 0]]) rfl ?_; intro g1
  refine L_alloc _ (by rfl) (by rfl) z_12 (c12 (0 : T12)) rfl ?_; intro g2
  refine L_end ?_
  intro w1 hw1
  refine seq_plain hw1 [0] (by rfl) ?_
  refine L_alloc _ (by rfl) (by rfl) z_aN (joinA [#[.slice none 0 0, .slice none 0 0], #[.slice none 0 0, .slice none 0 0], #[.slice none 0 0, .slice none 0 0], #[.slice none 0 0, .slice none 0 0], #[.slice none 0 0, .slice none 0 0], #[.slice none 0 0, .slice none 0 0]]) rfl ?_; intro g3
  refine L_end ?_
  intro w2 hw2
  refine seq_plain hw2 [0] (by rfl) ?_
  refine L_alloc _ (by rfl) (by rfl) z_a2 (joinA [(c2 (0 : F2)), (c2 (0 : F2)), (c2 (0 : F2)), (c2 (0 : F2)), (c2 (0 : F2)), (c2 (0 : F2))]) rfl ?_; intro g4
  refine L_end ?_
  intro w3 hw3
  refine wp_seq ?_
  refine seq_plain hw3 [0] (by rfl) ?_
  refine L_val (.int .i64 0) (by rfl) (by rfl) (gives_value _ fun _ => by rfl) ?_
  refine L_end ?_
  intro w4 hw4
  refine wp_block ?_
  refine rounds_first 6 ?_
  refine wp_seq ?_
  refine seq_plain hw4 [0, 1] (by rfl) ?_
  refine L_val (.int .i64 0) (by rfl) (by rfl) (gives_value _ fun _ => by rfl) ?_
  refine L_val (.bool true) (by rfl) (by rfl) (gives_lss (k := .i64) 0 6 true (by rfl) (by rfl) (by rfl)) ?_
  refine L_end ?_
  intro w5 hw5
  refine wp_cond_true (fr_at _ _ (by rfl) _) ?_
  refine wp_skip ?_
  change Code.wp _ _ _ _ _
  refine wp_seq ?_
  refine wp_block ?_
  refine seq_plain hw5 [0, 1, 2, 3, 4, 5, 6, 7, 8, 9, 10, 11, 12] (by rfl) ?_
  refine L_val (.int .i64 0) (by rfl) (by rfl) (gives_value _ fun _ => by rfl) ?_
  refine L_val (.slice A0 n0 c0) (by rfl) (by rfl) (gives_value _ fun _ => by rfl) ?_
  refine L_val (.int .i64 0) (by rfl) (by rfl) (gives_value _ fun _ => by rfl) ?_
  refine L_val (.int .i64 0) (by rfl) (by rfl) (gives_mul (k := .i64) 2 0 0 (by rfl) (by rfl) (by rfl)) ?_
  refine L_freshX (vl := [.slice A0 n0 c0, .int .i64 0]) 5 (fun g cap => .slice (some ⟨g, 0, none⟩) 48 cap) (fun cap cs => ∃ l, BB cs cap 48 l ∧ Oct l) (by rfl) (by rfl) Want.none (by kernel_rfl) (by rfl)  (fun w h => part_n A0 n0 c0 bs0 0 w ((hr0.below h.below).more h.below.size) ho0 hb0 h0 (by omega)) ?_; intro g5 cap_1 cs_1 hq_1
  obtain ⟨l_1, hbb_1, hol_1⟩ := hq_1
  refine L_val (.slice A0 n0 c0) (by rfl) (by rfl) (gives_value _ fun _ => by rfl) ?_
  refine L_val (.int .i64 0) (by rfl) (by rfl) (gives_value _ fun _ => by rfl) ?_
  refine L_val (.int .i64 0) (by rfl) (by rfl) (gives_mul (k := .i64) 2 0 0 (by rfl) (by rfl) (by rfl)) ?_
  refine L_val (.int .i64 1) (by rfl) (by rfl) (gives_add (k := .i64) 0 1 1 (by rfl) (by rfl) (by rfl)) ?_
  refine L_freshX (vl := [.slice A0 n0 c0, .int .i64 1]) 5 (fun g cap => .slice (some ⟨g, 0, none⟩) 48 cap) (fun cap cs => ∃ l, BB cs cap 48 l ∧ Oct l) (by rfl) (by rfl) Want.none (by kernel_rfl) (by rfl)  (fun w h => part_n A0 n0 c0 bs0 1 w ((hr0.below h.below).more h.below.size) ho0 hb0 h0 (by omega)) ?_; intro g6 cap_2 cs_2 hq_2
  obtain ⟨l_2, hbb_2, hol_2⟩ := hq_2
  refine L_freshY (vl := [.slice (some ⟨g5, 0, none⟩) 48 cap_1, .slice (some ⟨g6, 0, none⟩) 48 cap_2]) 64 64 (fun g cap g2 cap2 => .agg #[.slice (some ⟨g, 0, none⟩) 24 cap, .slice (some ⟨g2, 0, none⟩) 24 cap2]) (fun cap cs cap2 cs2 => WB cs cap 24 ((⟨Fp.n (num l_1), Fp.n (num l_2)⟩ : F2).a.val : Int) ∧ WB cs2 cap2 24 ((⟨Fp.n (num l_1), Fp.n (num l_2)⟩ : F2).b.val : Int)) (by rfl) (by rfl) Want.none (by kernel_rfl) (by rfl)  (fun w h => l5_of _ _ _ l_1 _ _ _ l_2 w (hbb_1.reads (h.blk 1 (by rfl))) hol_1 (hbb_2.reads (h.blk 0 (by rfl))) hol_2 (by omega) (by omega)) ?_; intro g7 cap_3 cs_3 g8 cap_3b cs_3b hq_3; obtain ⟨hwb_3, hwb_3b⟩ := hq_3
  refine L_val (.pointer (some ⟨g3, 0, none⟩)) (by rfl) (by rfl) (gives_value _ fun _ => by kernel_rfl) ?_
  refine L_storeA (t := 47) 5 g3 0 (joinA [#[.slice none 0 0, .slice none 0 0], #[.slice none 0 0, .slice none 0 0], #[.slice none 0 0, .slice none 0 0], #[.slice none 0 0, .slice none 0 0], #[.slice none 0 0, .slice none 0 0], #[.slice none 0 0, .slice none 0 0]]) #[.slice (some ⟨g7, 0, none⟩) 24 cap_3, .slice (some ⟨g8, 0, none⟩) 24 cap_3b] (joinA [#[.slice (some ⟨g7, 0, none⟩) 24 cap_3, .slice (some ⟨g8, 0, none⟩) 24 cap_3b], #[.slice none 0 0, .slice none 0 0], #[.slice none 0 0, .slice none 0 0], #[.slice none 0 0, .slice none 0 0], #[.slice none 0 0, .slice none 0 0], #[.slice none 0 0, .slice none 0 0]]) (by rfl) (by rfl) (by rfl) (by rfl) (by rfl) (hi_NN _ _) (by rw [joinC_size 2 _ (by simp)]; simp) (one_N (by rfl) (by rfl)) (spliceC' 2 _ (by simp) 0 _ (by rfl) (by simp) _ (by rfl) _ (by rfl)) ?_
  simp only [List.set_cons_zero, List.set_cons_succ]
  refine L_end ?_
  intro w6 hw6
  refine one_plain hw6 [0, 1, 2, 3, 4, 5, 6, 7, 8, 9, 10] (by rfl) ?_
  refine L_val (.int .i64 0) (by rfl) (by rfl) (gives_value _ fun _ => by rfl) ?_
  refine L_val (.int .i64 0) (by rfl) (by rfl) (gives_value _ fun _ => by rfl) ?_
  refine L_val (.pointer (some ⟨g3, 0, none⟩)) (by rfl) (by rfl) (gives_value _ fun _ => by kernel_rfl) ?_
  refine L_val (.agg #[.slice (some ⟨g7, 0, none⟩) 24 cap_3, .slice (some ⟨g8, 0, none⟩) 24 cap_3b]) (by rfl) (by rfl) (gives_load g3 0 47 (joinA [#[.slice (some ⟨g7, 0, none⟩) 24 cap_3, .slice (some ⟨g8, 0, none⟩) 24 cap_3b], #[.slice none 0 0, .slice none 0 0], #[.slice none 0 0, .slice none 0 0], #[.slice none 0 0, .slice none 0 0], #[.slice none 0 0, .slice none 0 0], #[.slice none 0 0, .slice none 0 0]]) #[.slice (some ⟨g7, 0, none⟩) 24 cap_3, .slice (some ⟨g8, 0, none⟩) 24 cap_3b] _ (by rfl) (fun _ h => h.blk 5 (by rfl)) (sl_joinC 2 _ (by simp) 0 _ (by rfl) _ (by rfl)) Tryd.underlying45 (by rfl) (hi_NN _ _)) ?_
  refine L_freshX (vl := [.agg #[.slice (some ⟨g7, 0, none⟩) 24 cap_3, .slice (some ⟨g8, 0, none⟩) 24 cap_3b]]) 5 (fun g cap => .slice (some ⟨g, 0, none⟩) (48 + 48) cap) (fun cap cs => BB cs cap (48 + 48) (lo ((⟨Fp.n (num l_1), Fp.n (num l_2)⟩ : F2).b.val : Int) 48 ++ lo ((⟨Fp.n (num l_1), Fp.n (num l_2)⟩ : F2).a.val : Int) 48)) (by rfl) (by rfl) Want.none (by kernel_rfl) (by rfl)  (fun w h => l5_bytes (⟨Fp.n (num l_1), Fp.n (num l_2)⟩ : F2) _ _ _ _ _ _ w (hwb_3.num (h.blk 0 (by rfl)) (fv_rng _) (by omega)) (hwb_3b.num (h.blk 1 (by rfl)) (fv_rng _) (by omega)) (by omega) (by omega)) ?_; intro g9 cap_4 cs_4 hq_4
  refine L_val (.tuple #[.agg (c2 (⟨Fp.n (num l_1), Fp.n (num l_2)⟩ : F2)), .int .i64 0]) (by rfl) (by rfl) (gives_call (vl := [.slice (some ⟨g9, 0, none⟩) (48 + 48) cap_4]) (by kernel_rfl) (by rfl) (fun w h => read5 (⟨Fp.n (num l_1), Fp.n (num l_2)⟩ : F2) _ _ w (hG.keep h.below) (hq_4.reads (h.blk 0 (by rfl))) (by have := hq_4.le; omega))) ?_
  refine L_val (.tuple #[.agg (c2 (⟨Fp.n (num l_1), Fp.n (num l_2)⟩ : F2)), .int .i64 0]) (by rfl) (by rfl) (gives_value _ fun _ => by rfl) ?_
  refine L_val (.agg (c2 (⟨Fp.n (num l_1), Fp.n (num l_2)⟩ : F2))) (by rfl) (by rfl) (gives_value _ fun _ => by kernel_rfl) ?_
  refine L_val (.int .i64 0) (by rfl) (by rfl) (gives_value _ fun _ => by kernel_rfl) ?_
  refine L_val (.pointer (some ⟨g4, 0, none⟩)) (by rfl) (by rfl) (gives_value _ fun _ => by kernel_rfl) ?_
  refine L_storeA (t := 76) 5 g4 0 (joinA [(c2 (0 : F2)), (c2 (0 : F2)), (c2 (0 : F2)), (c2 (0 : F2)), (c2 (0 : F2)), (c2 (0 : F2))]) (c2 (⟨Fp.n (num l_1), Fp.n (num l_2)⟩ : F2)) (joinA [(c2 (⟨Fp.n (num l_1), Fp.n (num l_2)⟩ : F2)), (c2 (0 : F2)), (c2 (0 : F2)), (c2 (0 : F2)), (c2 (0 : F2)), (c2 (0 : F2))]) (by rfl) (by rfl) (by rfl) (by rfl) (by rfl) (hi_2 _) (by rw [joinC_size 12 _ (by simp [c2_size]), c2_size]; simp) (c2_one _) (spliceC' 12 _ (by simp [c2_size]) 0 _ (c2_size _) (by simp) _ (by rfl) _ (by rfl)) ?_
  simp only [List.set_cons_zero, List.set_cons_succ]
  refine L_end ?_
  intro w7 hw7
  change Code.wp _ _ _ _ _
  refine one_plain hw7 [0, 1, 2] (by rfl) ?_
  refine L_val (.int .i64 0) (by rfl) (by rfl) (gives_value _ fun _ => by rfl) ?_
  refine L_val (.int .i64 1) (by rfl) (by rfl) (gives_add (k := .i64) 0 1 1 (by rfl) (by rfl) (by rfl)) ?_
  refine L_val (.int .i64 1) (by rfl) (by rfl) (gives_value _ fun _ => by rfl) ?_
  refine L_end ?_
  intro w8 hw8
  refine rounds_next ?_
  refine wp_seq ?_
  refine seq_plain hw8 [0, 1] (by rfl) ?_
  refine L_val (.int .i64 1) (by rfl) (by rfl) (gives_value _ fun _ => by rfl) ?_
  refine L_val (.bool true) (by rfl) (by rfl) (gives_lss (k := .i64) 1 6 true (by rfl) (by rfl) (by rfl)) ?_
  refine L_end ?_
  intro w9 hw9
  refine wp_cond_true (fr_at _ _ (by rfl) _) ?_
  refine wp_skip ?_
  change Code.wp _ _ _ _ _
  refine wp_seq ?_
  refine wp_block ?_
  refine seq_plain hw9 [0, 1, 2, 3, 4, 5, 6, 7, 8, 9, 10, 11, 12] (by rfl) ?_
  refine L_val (.int .i64 1) (by rfl) (by rfl) (gives_value _ fun _ => by rfl) ?_
  refine L_val (.slice A0 n0 c0) (by rfl) (by rfl) (gives_value _ fun _ => by rfl) ?_
  refine L_val (.int .i64 1) (by rfl) (by rfl) (gives_value _ fun _ => by rfl) ?_
  refine L_val (.int .i64 2) (by rfl) (by rfl) (gives_mul (k := .i64) 2 1 2 (by rfl) (by rfl) (by rfl)) ?_
  refine L_freshX (vl := [.slice A0 n0 c0, .int .i64 2]) 5 (fun g cap => .slice (some ⟨g, 0, none⟩) 48 cap) (fun cap cs => ∃ l, BB cs cap 48 l ∧ Oct l) (by rfl) (by rfl) Want.none (by kernel_rfl) (by rfl)  (fun w h => part_n A0 n0 c0 bs0 2 w ((hr0.below h.below).more h.below.size) ho0 hb0 h0 (by omega)) ?_; intro g10 cap_5 cs_5 hq_5
  obtain ⟨l_5, hbb_5, hol_5⟩ := hq_5
  refine L_val (.slice A0 n0 c0) (by rfl) (by rfl) (gives_value _ fun _ => by rfl) ?_
  refine L_val (.int .i64 1) (by rfl) (by rfl) (gives_value _ fun _ => by rfl) ?_
  refine L_val (.int .i64 2) (by rfl) (by rfl) (gives_mul (k := .i64) 2 1 2 (by rfl) (by rfl) (by rfl)) ?_
  refine L_val (.int .i64 3) (by rfl) (by rfl) (gives_add (k := .i64) 2 1 3 (by rfl) (by rfl) (by rfl)) ?_
  refine L_freshX (vl := [.slice A0 n0 c0, .int .i64 3]) 5 (fun g cap => .slice (some ⟨g, 0, none⟩) 48 cap) (fun cap cs => ∃ l, BB cs cap 48 l ∧ Oct l) (by rfl) (by rfl) Want.none (by kernel_rfl) (by rfl)  (fun w h => part_n A0 n0 c0 bs0 3 w ((hr0.below h.below).more h.below.size) ho0 hb0 h0 (by omega)) ?_; intro g11 cap_6 cs_6 hq_6
  obtain ⟨l_6, hbb_6, hol_6⟩ := hq_6
  refine L_freshY (vl := [.slice (some ⟨g10, 0, none⟩) 48 cap_5, .slice (some ⟨g11, 0, none⟩) 48 cap_6]) 64 64 (fun g cap g2 cap2 => .agg #[.slice (some ⟨g, 0, none⟩) 24 cap, .slice (some ⟨g2, 0, none⟩) 24 cap2]) (fun cap cs cap2 cs2 => WB cs cap 24 ((⟨Fp.n (num l_5), Fp.n (num l_6)⟩ : F2).a.val : Int) ∧ WB cs2 cap2 24 ((⟨Fp.n (num l_5), Fp.n (num l_6)⟩ : F2).b.val : Int)) (by rfl) (by rfl) Want.none (by kernel_rfl) (by rfl)  (fun w h => l5_of _ _ _ l_5 _ _ _ l_6 w (hbb_5.reads (h.blk 1 (by rfl))) hol_5 (hbb_6.reads (h.blk 0 (by rfl))) hol_6 (by omega) (by omega)) ?_; intro g12 cap_7 cs_7 g13 cap_7b cs_7b hq_7; obtain ⟨hwb_7, hwb_7b⟩ := hq_7
  refine L_val (.pointer (some ⟨g3, 2, none⟩)) (by rfl) (by rfl) (gives_value _ fun _ => by kernel_rfl) ?_
  refine L_storeA (t := 47) 10 g3 2 (joinA [#[.slice (some ⟨g7, 0, none⟩) 24 cap_3, .slice (some ⟨g8, 0, none⟩) 24 cap_3b], #[.slice none 0 0, .slice none 0 0], #[.slice none 0 0, .slice none 0 0], #[.slice none 0 0, .slice none 0 0], #[.slice none 0 0, .slice none 0 0], #[.slice none 0 0, .slice none 0 0]]) #[.slice (some ⟨g12, 0, none⟩) 24 cap_7, .slice (some ⟨g13, 0, none⟩) 24 cap_7b] (joinA [#[.slice (some ⟨g7, 0, none⟩) 24 cap_3, .slice (some ⟨g8, 0, none⟩) 24 cap_3b], #[.slice (some ⟨g12, 0, none⟩) 24 cap_7, .slice (some ⟨g13, 0, none⟩) 24 cap_7b], #[.slice none 0 0, .slice none 0 0], #[.slice none 0 0, .slice none 0 0], #[.slice none 0 0, .slice none 0 0], #[.slice none 0 0, .slice none 0 0]]) (by rfl) (by rfl) (by rfl) (by rfl) (by rfl) (hi_NN _ _) (by rw [joinC_size 2 _ (by simp)]; simp) (one_N (by rfl) (by rfl)) (spliceC' 2 _ (by simp) 1 _ (by rfl) (by simp) _ (by rfl) _ (by rfl)) ?_
  simp only [List.set_cons_zero, List.set_cons_succ]
  refine L_end ?_
  intro w10 hw10
  refine one_plain hw10 [0, 1, 2, 3, 4, 5, 6, 7, 8, 9, 10] (by rfl) ?_
  refine L_val (.int .i64 1) (by rfl) (by rfl) (gives_value _ fun _ => by rfl) ?_
  refine L_val (.int .i64 1) (by rfl) (by rfl) (gives_value _ fun _ => by rfl) ?_
  refine L_val (.pointer (some ⟨g3, 2, none⟩)) (by rfl) (by rfl) (gives_value _ fun _ => by kernel_rfl) ?_
  refine L_val (.agg #[.slice (some ⟨g12, 0, none⟩) 24 cap_7, .slice (some ⟨g13, 0, none⟩) 24 cap_7b]) (by rfl) (by rfl) (gives_load g3 2 47 (joinA [#[.slice (some ⟨g7, 0, none⟩) 24 cap_3, .slice (some ⟨g8, 0, none⟩) 24 cap_3b], #[.slice (some ⟨g12, 0, none⟩) 24 cap_7, .slice (some ⟨g13, 0, none⟩) 24 cap_7b], #[.slice none 0 0, .slice none 0 0], #[.slice none 0 0, .slice none 0 0], #[.slice none 0 0, .slice none 0 0], #[.slice none 0 0, .slice none 0 0]]) #[.slice (some ⟨g12, 0, none⟩) 24 cap_7, .slice (some ⟨g13, 0, none⟩) 24 cap_7b] _ (by rfl) (fun _ h => h.blk 10 (by rfl)) (sl_joinC 2 _ (by simp) 1 _ (by rfl) _ (by rfl)) Tryd.underlying45 (by rfl) (hi_NN _ _)) ?_
  refine L_freshX (vl := [.agg #[.slice (some ⟨g12, 0, none⟩) 24 cap_7, .slice (some ⟨g13, 0, none⟩) 24 cap_7b]]) 5 (fun g cap => .slice (some ⟨g, 0, none⟩) (48 + 48) cap) (fun cap cs => BB cs cap (48 + 48) (lo ((⟨Fp.n (num l_5), Fp.n (num l_6)⟩ : F2).b.val : Int) 48 ++ lo ((⟨Fp.n (num l_5), Fp.n (num l_6)⟩ : F2).a.val : Int) 48)) (by rfl) (by rfl) Want.none (by kernel_rfl) (by rfl)  (fun w h => l5_bytes (⟨Fp.n (num l_5), Fp.n (num l_6)⟩ : F2) _ _ _ _ _ _ w (hwb_7.num (h.blk 0 (by rfl)) (fv_rng _) (by omega)) (hwb_7b.num (h.blk 1 (by rfl)) (fv_rng _) (by omega)) (by omega) (by omega)) ?_; intro g14 cap_8 cs_8 hq_8
  refine L_val (.tuple #[.agg (c2 (⟨Fp.n (num l_5), Fp.n (num l_6)⟩ : F2)), .int .i64 0]) (by rfl) (by rfl) (gives_call (vl := [.slice (some ⟨g14, 0, none⟩) (48 + 48) cap_8]) (by kernel_rfl) (by rfl) (fun w h => read5 (⟨Fp.n (num l_5), Fp.n (num l_6)⟩ : F2) _ _ w (hG.keep h.below) (hq_8.reads (h.blk 0 (by rfl))) (by have := hq_8.le; omega))) ?_
  refine L_val (.tuple #[.agg (c2 (⟨Fp.n (num l_5), Fp.n (num l_6)⟩ : F2)), .int .i64 0]) (by rfl) (by rfl) (gives_value _ fun _ => by rfl) ?_
  refine L_val (.agg (c2 (⟨Fp.n (num l_5), Fp.n (num l_6)⟩ : F2))) (by rfl) (by rfl) (gives_value _ fun _ => by kernel_rfl) ?_
  refine L_val (.int .i64 0) (by rfl) (by rfl) (gives_value _ fun _ => by kernel_rfl) ?_
  refine L_val (.pointer (some ⟨g4, 12, none⟩)) (by rfl) (by rfl) (gives_value _ fun _ => by kernel_rfl) ?_
  refine L_storeA (t := 76) 10 g4 12 (joinA [(c2 (⟨Fp.n (num l_1), Fp.n (num l_2)⟩ : F2)), (c2 (0 : F2)), (c2 (0 : F2)), (c2 (0 : F2)), (c2 (0 : F2)), (c2 (0 : F2))]) (c2 (⟨Fp.n (num l_5), Fp.n (num l_6)⟩ : F2)) (joinA [(c2 (⟨Fp.n (num l_1), Fp.n (num l_2)⟩ : F2)), (c2 (⟨Fp.n (num l_5), Fp.n (num l_6)⟩ : F2)), (c2 (0 : F2)), (c2 (0 : F2)), (c2 (0 : F2)), (c2 (0 : F2))]) (by rfl) (by rfl) (by rfl) (by rfl) (by rfl) (hi_2 _) (by rw [joinC_size 12 _ (by simp [c2_size]), c2_size]; simp) (c2_one _) (spliceC' 12 _ (by simp [c2_size]) 1 _ (c2_size _) (by simp) _ (by rfl) _ (by rfl)) ?_
  simp only [List.set_cons_zero, List.set_cons_succ]
  refine L_end ?_
  intro w11 hw11
  change Code.wp _ _ _ _ _
  refine one_plain hw11 [0, 1, 2] (by rfl) ?_
  refine L_val (.int .i64 1) (by rfl) (by rfl) (gives_value _ fun _ => by rfl) ?_
  refine L_val (.int .i64 2) (by rfl) (by rfl) (gives_add (k := .i64) 1 1 2 (by rfl) (by rfl) (by rfl)) ?_
  refine L_val (.int .i64 2) (by rfl) (by rfl) (gives_value _ fun _ => by rfl) ?_
  refine L_end ?_
  intro w12 hw12
  refine rounds_next ?_
  refine wp_seq ?_
  refine seq_plain hw12 [0, 1] (by rfl) ?_
  refine L_val (.int .i64 2) (by rfl) (by rfl) (gives_value _ fun _ => by rfl) ?_
  refine L_val (.bool true) (by rfl) (by rfl) (gives_lss (k := .i64) 2 6 true (by rfl) (by rfl) (by rfl)) ?_
  refine L_end ?_
  intro w13 hw13
  refine wp_cond_true (fr_at _ _ (by rfl) _) ?_
  refine wp_skip ?_
  change Code.wp _ _ _ _ _
  refine wp_seq ?_
  refine wp_block ?_
  refine seq_plain hw13 [0, 1, 2, 3, 4, 5, 6, 7, 8, 9, 10, 11, 12] (by rfl) ?_
  refine L_val (.int .i64 2) (by rfl) (by rfl) (gives_value _ fun _ => by rfl) ?_
  refine L_val (.slice A0 n0 c0) (by rfl) (by rfl) (gives_value _ fun _ => by rfl) ?_
  refine L_val (.int .i64 2) (by rfl) (by rfl) (gives_value _ fun _ => by rfl) ?_
  refine L_val (.int .i64 4) (by rfl) (by rfl) (gives_mul (k := .i64) 2 2 4 (by rfl) (by rfl) (by rfl)) ?_
  refine L_freshX (vl := [.slice A0 n0 c0, .int .i64 4]) 5 (fun g cap => .slice (some ⟨g, 0, none⟩) 48 cap) (fun cap cs => ∃ l, BB cs cap 48 l ∧ Oct l) (by rfl) (by rfl) Want.none (by kernel_rfl) (by rfl)  (fun w h => part_n A0 n0 c0 bs0 4 w ((hr0.below h.below).more h.below.size) ho0 hb0 h0 (by omega)) ?_; intro g15 cap_9 cs_9 hq_9
  obtain ⟨l_9, hbb_9, hol_9⟩ := hq_9
  refine L_val (.slice A0 n0 c0) (by rfl) (by rfl) (gives_value _ fun _ => by rfl) ?_
  refine L_val (.int .i64 2) (by rfl) (by rfl) (gives_value _ fun _ => by rfl) ?_
  refine L_val (.int .i64 4) (by rfl) (by rfl) (gives_mul (k := .i64) 2 2 4 (by rfl) (by rfl) (by rfl)) ?_
  refine L_val (.int .i64 5) (by rfl) (by rfl) (gives_add (k := .i64) 4 1 5 (by rfl) (by rfl) (by rfl)) ?_
  refine L_freshX (vl := [.slice A0 n0 c0, .int .i64 5]) 5 (fun g cap => .slice (some ⟨g, 0, none⟩) 48 cap) (fun cap cs => ∃ l, BB cs cap 48 l ∧ Oct l) (by rfl) (by rfl) Want.none (by kernel_rfl) (by rfl)  (fun w h => part_n A0 n0 c0 bs0 5 w ((hr0.below h.below).more h.below.size) ho0 hb0 h0 (by omega)) ?_; intro g16 cap_10 cs_10 hq_10
  obtain ⟨l_10, hbb_10, hol_10⟩ := hq_10
  refine L_freshY (vl := [.slice (some ⟨g15, 0, none⟩) 48 cap_9, .slice (some ⟨g16, 0, none⟩) 48 cap_10]) 64 64 (fun g cap g2 cap2 => .agg #[.slice (some ⟨g, 0, none⟩) 24 cap, .slice (some ⟨g2, 0, none⟩) 24 cap2]) (fun cap cs cap2 cs2 => WB cs cap 24 ((⟨Fp.n (num l_9), Fp.n (num l_10)⟩ : F2).a.val : Int) ∧ WB cs2 cap2 24 ((⟨Fp.n (num l_9), Fp.n (num l_10)⟩ : F2).b.val : Int)) (by rfl) (by rfl) Want.none (by kernel_rfl) (by rfl)  (fun w h => l5_of _ _ _ l_9 _ _ _ l_10 w (hbb_9.reads (h.blk 1 (by rfl))) hol_9 (hbb_10.reads (h.blk 0 (by rfl))) hol_10 (by omega) (by omega)) ?_; intro g17 cap_11 cs_11 g18 cap_11b cs_11b hq_11; obtain ⟨hwb_11, hwb_11b⟩ := hq_11
  refine L_val (.pointer (some ⟨g3, 4, none⟩)) (by rfl) (by rfl) (gives_value _ fun _ => by kernel_rfl) ?_
  refine L_storeA (t := 47) 15 g3 4 (joinA [#[.slice (some ⟨g7, 0, none⟩) 24 cap_3, .slice (some ⟨g8, 0, none⟩) 24 cap_3b], #[.slice (some ⟨g12, 0, none⟩) 24 cap_7, .slice (some ⟨g13, 0, none⟩) 24 cap_7b], #[.slice none 0 0, .slice none 0 0], #[.slice none 0 0, .slice none 0 0], #[.slice none 0 0, .slice none 0 0], #[.slice none 0 0, .slice none 0 0]]) #[.slice (some ⟨g17, 0, none⟩) 24 cap_11, .slice (some ⟨g18, 0, none⟩) 24 cap_11b] (joinA [#[.slice (some ⟨g7, 0, none⟩) 24 cap_3, .slice (some ⟨g8, 0, none⟩) 24 cap_3b], #[.slice (some ⟨g12, 0, none⟩) 24 cap_7, .slice (some ⟨g13, 0, none⟩) 24 cap_7b], #[.slice (some ⟨g17, 0, none⟩) 24 cap_11, .slice (some ⟨g18, 0, none⟩) 24 cap_11b], #[.slice none 0 0, .slice none 0 0], #[.slice none 0 0, .slice none 0 0], #[.slice none 0 0, .slice none 0 0]]) (by rfl) (by rfl) (by rfl) (by rfl) (by rfl) (hi_NN _ _) (by rw [joinC_size 2 _ (by simp)]; simp) (one_N (by rfl) (by rfl)) (spliceC' 2 _ (by simp) 2 _ (by rfl) (by simp) _ (by rfl) _ (by rfl)) ?_
  simp only [List.set_cons_zero, List.set_cons_succ]
  refine L_end ?_
  intro w14 hw14
  refine one_plain hw14 [0, 1, 2, 3, 4, 5, 6, 7, 8, 9, 10] (by rfl) ?_
  refine L_val (.int .i64 2) (by rfl) (by rfl) (gives_value _ fun _ => by rfl) ?_
  refine L_val (.int .i64 2) (by rfl) (by rfl) (gives_value _ fun _ => by rfl) ?_
  refine L_val (.pointer (some ⟨g3, 4, none⟩)) (by rfl) (by rfl) (gives_value _ fun _ => by kernel_rfl) ?_
  refine L_val (.agg #[.slice (some ⟨g17, 0, none⟩) 24 cap_11, .slice (some ⟨g18, 0, none⟩) 24 cap_11b]) (by rfl) (by rfl) (gives_load g3 4 47 (joinA [#[.slice (some ⟨g7, 0, none⟩) 24 cap_3, .slice (some ⟨g8, 0, none⟩) 24 cap_3b], #[.slice (some ⟨g12, 0, none⟩) 24 cap_7, .slice (some ⟨g13, 0, none⟩) 24 cap_7b], #[.slice (some ⟨g17, 0, none⟩) 24 cap_11, .slice (some ⟨g18, 0, none⟩) 24 cap_11b], #[.slice none 0 0, .slice none 0 0], #[.slice none 0 0, .slice none 0 0], #[.slice none 0 0, .slice none 0 0]]) #[.slice (some ⟨g17, 0, none⟩) 24 cap_11, .slice (some ⟨g18, 0, none⟩) 24 cap_11b] _ (by rfl) (fun _ h => h.blk 15 (by rfl)) (sl_joinC 2 _ (by simp) 2 _ (by rfl) _ (by rfl)) Tryd.underlying45 (by rfl) (hi_NN _ _)) ?_
  refine L_freshX (vl := [.agg #[.slice (some ⟨g17, 0, none⟩) 24 cap_11, .slice (some ⟨g18, 0, none⟩) 24 cap_11b]]) 5 (fun g cap => .slice (some ⟨g, 0, none⟩) (48 + 48) cap) (fun cap cs => BB cs cap (48 + 48) (lo ((⟨Fp.n (num l_9), Fp.n (num l_10)⟩ : F2).b.val : Int) 48 ++ lo ((⟨Fp.n (num l_9), Fp.n (num l_10)⟩ : F2).a.val : Int) 48)) (by rfl) (by rfl) Want.none (by kernel_rfl) (by rfl)  (fun w h => l5_bytes (⟨Fp.n (num l_9), Fp.n (num l_10)⟩ : F2) _ _ _ _ _ _ w (hwb_11.num (h.blk 0 (by rfl)) (fv_rng _) (by omega)) (hwb_11b.num (h.blk 1 (by rfl)) (fv_rng _) (by omega)) (by omega) (by omega)) ?_; intro g19 cap_12 cs_12 hq_12
  refine L_val (.tuple #[.agg (c2 (⟨Fp.n (num l_9), Fp.n (num l_10)⟩ : F2)), .int .i64 0]) (by rfl) (by rfl) (gives_call (vl := [.slice (some ⟨g19, 0, none⟩) (48 + 48) cap_12]) (by kernel_rfl) (by rfl) (fun w h => read5 (⟨Fp.n (num l_9), Fp.n (num l_10)⟩ : F2) _ _ w (hG.keep h.below) (hq_12.reads (h.blk 0 (by rfl))) (by have := hq_12.le; omega))) ?_
  refine L_val (.tuple #[.agg (c2 (⟨Fp.n (num l_9), Fp.n (num l_10)⟩ : F2)), .int .i64 0]) (by rfl) (by rfl) (gives_value _ fun _ => by rfl) ?_
  refine L_val (.agg (c2 (⟨Fp.n (num l_9), Fp.n (num l_10)⟩ : F2))) (by rfl) (by rfl) (gives_value _ fun _ => by kernel_rfl) ?_
  refine L_val (.int .i64 0) (by rfl) (by rfl) (gives_value _ fun _ => by kernel_rfl) ?_
  refine L_val (.pointer (some ⟨g4, 24, none⟩)) (by rfl) (by rfl) (gives_value _ fun _ => by kernel_rfl) ?_
  refine L_storeA (t := 76) 15 g4 24 (joinA [(c2 (⟨Fp.n (num l_1), Fp.n (num l_2)⟩ : F2)), (c2 (⟨Fp.n (num l_5), Fp.n (num l_6)⟩ : F2)), (c2 (0 : F2)), (c2 (0 : F2)), (c2 (0 : F2)), (c2 (0 : F2))]) (c2 (⟨Fp.n (num l_9), Fp.n (num l_10)⟩ : F2)) (joinA [(c2 (⟨Fp.n (num l_1), Fp.n (num l_2)⟩ : F2)), (c2 (⟨Fp.n (num l_5), Fp.n (num l_6)⟩ : F2)), (c2 (⟨Fp.n (num l_9), Fp.n (num l_10)⟩ : F2)), (c2 (0 : F2)), (c2 (0 : F2)), (c2 (0 : F2))]) (by rfl) (by rfl) (by rfl) (by rfl) (by rfl) (hi_2 _) (by rw [joinC_size 12 _ (by simp [c2_size]), c2_size]; simp) (c2_one _) (spliceC' 12 _ (by simp [c2_size]) 2 _ (c2_size _) (by simp) _ (by rfl) _ (by rfl)) ?_
  simp only [List.set_cons_zero, List.set_cons_succ]
  refine L_end ?_
  intro w15 hw15
  change Code.wp _ _ _ _ _
  refine one_plain hw15 [0, 1, 2] (by rfl) ?_
  refine L_val (.int .i64 2) (by rfl) (by rfl) (gives_value _ fun _ => by rfl) ?_
  refine L_val (.int .i64 3) (by rfl) (by rfl) (gives_add (k := .i64) 2 1 3 (by rfl) (by rfl) (by rfl)) ?_
  refine L_val (.int .i64 3) (by rfl) (by rfl) (gives_value _ fun _ => by rfl) ?_
  refine L_end ?_
  intro w16 hw16
  refine rounds_next ?_
  refine wp_seq ?_
  refine seq_plain hw16 [0, 1] (by rfl) ?_
  refine L_val (.int .i64 3) (by rfl) (by rfl) (gives_value _ fun _ => by rfl) ?_
  refine L_val (.bool true) (by rfl) (by rfl) (gives_lss (k := .i64) 3 6 true (by rfl) (by rfl) (by rfl)) ?_
  refine L_end ?_
  intro w17 hw17
  refine wp_cond_true (fr_at _ _ (by rfl) _) ?_
  refine wp_skip ?_
  change Code.wp _ _ _ _ _
  refine wp_seq ?_
  refine wp_block ?_
  refine seq_plain hw17 [0, 1, 2, 3, 4, 5, 6, 7, 8, 9, 10, 11, 12] (by rfl) ?_
  refine L_val (.int .i64 3) (by rfl) (by rfl) (gives_value _ fun _ => by rfl) ?_
  refine L_val (.slice A0 n0 c0) (by rfl) (by rfl) (gives_value _ fun _ => by rfl) ?_
  refine L_val (.int .i64 3) (by rfl) (by rfl) (gives_value _ fun _ => by rfl) ?_
  refine L_val (.int .i64 6) (by rfl) (by rfl) (gives_mul (k := .i64) 2 3 6 (by rfl) (by rfl) (by rfl)) ?_
  refine L_freshX (vl := [.slice A0 n0 c0, .int .i64 6]) 5 (fun g cap => .slice (some ⟨g, 0, none⟩) 48 cap) (fun cap cs => ∃ l, BB cs cap 48 l ∧ Oct l) (by rfl) (by rfl) Want.none (by kernel_rfl) (by rfl)  (fun w h => part_n A0 n0 c0 bs0 6 w ((hr0.below h.below).more h.below.size) ho0 hb0 h0 (by omega)) ?_; intro g20 cap_13 cs_13 hq_13
  obtain ⟨l_13, hbb_13, hol_13⟩ := hq_13
  refine L_val (.slice A0 n0 c0) (by rfl) (by rfl) (gives_value _ fun _ => by rfl) ?_
  refine L_val (.int .i64 3) (by rfl) (by rfl) (gives_value _ fun _ => by rfl) ?_
  refine L_val (.int .i64 6) (by rfl) (by rfl) (gives_mul (k := .i64) 2 3 6 (by rfl) (by rfl) (by rfl)) ?_
  refine L_val (.int .i64 7) (by rfl) (by rfl) (gives_add (k := .i64) 6 1 7 (by rfl) (by rfl) (by rfl)) ?_
  refine L_freshX (vl := [.slice A0 n0 c0, .int .i64 7]) 5 (fun g cap => .slice (some ⟨g, 0, none⟩) 48 cap) (fun cap cs => ∃ l, BB cs cap 48 l ∧ Oct l) (by rfl) (by rfl) Want.none (by kernel_rfl) (by rfl)  (fun w h => part_n A0 n0 c0 bs0 7 w ((hr0.below h.below).more h.below.size) ho0 hb0 h0 (by omega)) ?_; intro g21 cap_14 cs_14 hq_14
  obtain ⟨l_14, hbb_14, hol_14⟩ := hq_14
  refine L_freshY (vl := [.slice (some ⟨g20, 0, none⟩) 48 cap_13, .slice (some ⟨g21, 0, none⟩) 48 cap_14]) 64 64 (fun g cap g2 cap2 => .agg #[.slice (some ⟨g, 0, none⟩) 24 cap, .slice (some ⟨g2, 0, none⟩) 24 cap2]) (fun cap cs cap2 cs2 => WB cs cap 24 ((⟨Fp.n (num l_13), Fp.n (num l_14)⟩ : F2).a.val : Int) ∧ WB cs2 cap2 24 ((⟨Fp.n (num l_13), Fp.n (num l_14)⟩ : F2).b.val : Int)) (by rfl) (by rfl) Want.none (by kernel_rfl) (by rfl)  (fun w h => l5_of _ _ _ l_13 _ _ _ l_14 w (hbb_13.reads (h.blk 1 (by rfl))) hol_13 (hbb_14.reads (h.blk 0 (by rfl))) hol_14 (by omega) (by omega)) ?_; intro g22 cap_15 cs_15 g23 cap_15b cs_15b hq_15; obtain ⟨hwb_15, hwb_15b⟩ := hq_15
  refine L_val (.pointer (some ⟨g3, 6, none⟩)) (by rfl) (by rfl) (gives_value _ fun _ => by kernel_rfl) ?_
  refine L_storeA (t := 47) 20 g3 6 (joinA [#[.slice (some ⟨g7, 0, none⟩) 24 cap_3, .slice (some ⟨g8, 0, none⟩) 24 cap_3b], #[.slice (some ⟨g12, 0, none⟩) 24 cap_7, .slice (some ⟨g13, 0, none⟩) 24 cap_7b], #[.slice (some ⟨g17, 0, none⟩) 24 cap_11, .slice (some ⟨g18, 0, none⟩) 24 cap_11b], #[.slice none 0 0, .slice none 0 0], #[.slice none 0 0, .slice none 0 0], #[.slice none 0 0, .slice none 0 0]]) #[.slice (some ⟨g22, 0, none⟩) 24 cap_15, .slice (some ⟨g23, 0, none⟩) 24 cap_15b] (joinA [#[.slice (some ⟨g7, 0, none⟩) 24 cap_3, .slice (some ⟨g8, 0, none⟩) 24 cap_3b], #[.slice (some ⟨g12, 0, none⟩) 24 cap_7, .slice (some ⟨g13, 0, none⟩) 24 cap_7b], #[.slice (some ⟨g17, 0, none⟩) 24 cap_11, .slice (some ⟨g18, 0, none⟩) 24 cap_11b], #[.slice (some ⟨g22, 0, none⟩) 24 cap_15, .slice (some ⟨g23, 0, none⟩) 24 cap_15b], #[.slice none 0 0, .slice none 0 0], #[.slice none 0 0, .slice none 0 0]]) (by rfl) (by rfl) (by rfl) (by rfl) (by rfl) (hi_NN _ _) (by rw [joinC_size 2 _ (by simp)]; simp) (one_N (by rfl) (by rfl)) (spliceC' 2 _ (by simp) 3 _ (by rfl) (by simp) _ (by rfl) _ (by rfl)) ?_
  simp only [List.set_cons_zero, List.set_cons_succ]
  refine L_end ?_
  intro w18 hw18
  refine one_plain hw18 [0, 1, 2, 3, 4, 5, 6, 7, 8, 9, 10] (by rfl) ?_
  refine L_val (.int .i64 3) (by rfl) (by rfl) (gives_value _ fun _ => by rfl) ?_
  refine L_val (.int .i64 3) (by rfl) (by rfl) (gives_value _ fun _ => by rfl) ?_
  refine L_val (.pointer (some ⟨g3, 6, none⟩)) (by rfl) (by rfl) (gives_value _ fun _ => by kernel_rfl) ?_
  refine L_val (.agg #[.slice (some ⟨g22, 0, none⟩) 24 cap_15, .slice (some ⟨g23, 0, none⟩) 24 cap_15b]) (by rfl) (by rfl) (gives_load g3 6 47 (joinA [#[.slice (some ⟨g7, 0, none⟩) 24 cap_3, .slice (some ⟨g8, 0, none⟩) 24 cap_3b], #[.slice (some ⟨g12, 0, none⟩) 24 cap_7, .slice (some ⟨g13, 0, none⟩) 24 cap_7b], #[.slice (some ⟨g17, 0, none⟩) 24 cap_11, .slice (some ⟨g18, 0, none⟩) 24 cap_11b], #[.slice (some ⟨g22, 0, none⟩) 24 cap_15, .slice (some ⟨g23, 0, none⟩) 24 cap_15b], #[.slice none 0 0, .slice none 0 0], #[.slice none 0 0, .slice none 0 0]]) #[.slice (some ⟨g22, 0, none⟩) 24 cap_15, .slice (some ⟨g23, 0, none⟩) 24 cap_15b] _ (by rfl) (fun _ h => h.blk 20 (by rfl)) (sl_joinC 2 _ (by simp) 3 _ (by rfl) _ (by rfl)) Tryd.underlying45 (by rfl) (hi_NN _ _)) ?_
  refine L_freshX (vl := [.agg #[.slice (some ⟨g22, 0, none⟩) 24 cap_15, .slice (some ⟨g23, 0, none⟩) 24 cap_15b]]) 5 (fun g cap => .slice (some ⟨g, 0, none⟩) (48 + 48) cap) (fun cap cs => BB cs cap (48 + 48) (lo ((⟨Fp.n (num l_13), Fp.n (num l_14)⟩ : F2).b.val : Int) 48 ++ lo ((⟨Fp.n (num l_13), Fp.n (num l_14)⟩ : F2).a.val : Int) 48)) (by rfl) (by rfl) Want.none (by kernel_rfl) (by rfl)  (fun w h => l5_bytes (⟨Fp.n (num l_13), Fp.n (num l_14)⟩ : F2) _ _ _ _ _ _ w (hwb_15.num (h.blk 0 (by rfl)) (fv_rng _) (by omega)) (hwb_15b.num (h.blk 1 (by rfl)) (fv_rng _) (by omega)) (by omega) (by omega)) ?_; intro g24 cap_16 cs_16 hq_16
  refine L_val (.tuple #[.agg (c2 (⟨Fp.n (num l_13), Fp.n (num l_14)⟩ : F2)), .int .i64 0]) (by rfl) (by rfl) (gives_call (vl := [.slice (some ⟨g24, 0, none⟩) (48 + 48) cap_16]) (by kernel_rfl) (by rfl) (fun w h => read5 (⟨Fp.n (num l_13), Fp.n (num l_14)⟩ : F2) _ _ w (hG.keep h.below) (hq_16.reads (h.blk 0 (by rfl))) (by have := hq_16.le; omega))) ?_
  refine L_val (.tuple #[.agg (c2 (⟨Fp.n (num l_13), Fp.n (num l_14)⟩ : F2)), .int .i64 0]) (by rfl) (by rfl) (gives_value _ fun _ => by rfl) ?_
  refine L_val (.agg (c2 (⟨Fp.n (num l_13), Fp.n (num l_14)⟩ : F2))) (by rfl) (by rfl) (gives_value _ fun _ => by kernel_rfl) ?_
  refine L_val (.int .i64 0) (by rfl) (by rfl) (gives_value _ fun _ => by kernel_rfl) ?_
  refine L_val (.pointer (some ⟨g4, 36, none⟩)) (by rfl) (by rfl) (gives_value _ fun _ => by kernel_rfl) ?_
  refine L_storeA (t := 76) 20 g4 36 (joinA [(c2 (⟨Fp.n (num l_1), Fp.n (num l_2)⟩ : F2)), (c2 (⟨Fp.n (num l_5), Fp.n (num l_6)⟩ : F2)), (c2 (⟨Fp.n (num l_9), Fp.n (num l_10)⟩ : F2)), (c2 (0 : F2)), (c2 (0 : F2)), (c2 (0 : F2))]) (c2 (⟨Fp.n (num l_13), Fp.n (num l_14)⟩ : F2)) (joinA [(c2 (⟨Fp.n (num l_1), Fp.n (num l_2)⟩ : F2)), (c2 (⟨Fp.n (num l_5), Fp.n (num l_6)⟩ : F2)), (c2 (⟨Fp.n (num l_9), Fp.n (num l_10)⟩ : F2)), (c2 (⟨Fp.n (num l_13), Fp.n (num l_14)⟩ : F2)), (c2 (0 : F2)), (c2 (0 : F2))]) (by rfl) (by rfl) (by rfl) (by rfl) (by rfl) (hi_2 _) (by rw [joinC_size 12 _ (by simp [c2_size]), c2_size]; simp) (c2_one _) (spliceC' 12 _ (by simp [c2_size]) 3 _ (c2_size _) (by simp) _ (by rfl) _ (by rfl)) ?_
  simp only [List.set_cons_zero, List.set_cons_succ]
  refine L_end ?_
  intro w19 hw19
  change Code.wp _ _ _ _ _
  refine one_plain hw19 [0, 1, 2] (by rfl) ?_
  refine L_val (.int .i64 3) (by rfl) (by rfl) (gives_value _ fun _ => by rfl) ?_
  refine L_val (.int .i64 4) (by rfl) (by rfl) (gives_add (k := .i64) 3 1 4 (by rfl) (by rfl) (by rfl)) ?_
  refine L_val (.int .i64 4) (by rfl) (by rfl) (gives_value _ fun _ => by rfl) ?_
  refine L_end ?_
  intro w20 hw20
  refine rounds_next ?_
  refine wp_seq ?_
  refine seq_plain hw20 [0, 1] (by rfl) ?_
  refine L_val (.int .i64 4) (by rfl) (by rfl) (gives_value _ fun _ => by rfl) ?_
  refine L_val (.bool true) (by rfl) (by rfl) (gives_lss (k := .i64) 4 6 true (by rfl) (by rfl) (by rfl)) ?_
  refine L_end ?_
  intro w21 hw21
  refine wp_cond_true (fr_at _ _ (by rfl) _) ?_
  refine wp_skip ?_
  change Code.wp _ _ _ _ _
  refine wp_seq ?_
  refine wp_block ?_
  refine seq_plain hw21 [0, 1, 2, 3, 4, 5, 6, 7, 8, 9, 10, 11, 12] (by rfl) ?_
  refine L_val (.int .i64 4) (by rfl) (by rfl) (gives_value _ fun _ => by rfl) ?_
  refine L_val (.slice A0 n0 c0) (by rfl) (by rfl) (gives_value _ fun _ => by rfl) ?_
  refine L_val (.int .i64 4) (by rfl) (by rfl) (gives_value _ fun _ => by rfl) ?_
  refine L_val (.int .i64 8) (by rfl) (by rfl) (gives_mul (k := .i64) 2 4 8 (by rfl) (by rfl) (by rfl)) ?_
  refine L_freshX (vl := [.slice A0 n0 c0, .int .i64 8]) 5 (fun g cap => .slice (some ⟨g, 0, none⟩) 48 cap) (fun cap cs => ∃ l, BB cs cap 48 l ∧ Oct l) (by rfl) (by rfl) Want.none (by kernel_rfl) (by rfl)  (fun w h => part_n A0 n0 c0 bs0 8 w ((hr0.below h.below).more h.below.size) ho0 hb0 h0 (by omega)) ?_; intro g25 cap_17 cs_17 hq_17
  obtain ⟨l_17, hbb_17, hol_17⟩ := hq_17
  refine L_val (.slice A0 n0 c0) (by rfl) (by rfl) (gives_value _ fun _ => by rfl) ?_
  refine L_val (.int .i64 4) (by rfl) (by rfl) (gives_value _ fun _ => by rfl) ?_
  refine L_val (.int .i64 8) (by rfl) (by rfl) (gives_mul (k := .i64) 2 4 8 (by rfl) (by rfl) (by rfl)) ?_
  refine L_val (.int .i64 9) (by rfl) (by rfl) (gives_add (k := .i64) 8 1 9 (by rfl) (by rfl) (by rfl)) ?_
  refine L_freshX (vl := [.slice A0 n0 c0, .int .i64 9]) 5 (fun g cap => .slice (some ⟨g, 0, none⟩) 48 cap) (fun cap cs => ∃ l, BB cs cap 48 l ∧ Oct l) (by rfl) (by rfl) Want.none (by kernel_rfl) (by rfl)  (fun w h => part_n A0 n0 c0 bs0 9 w ((hr0.below h.below).more h.below.size) ho0 hb0 h0 (by omega)) ?_; intro g26 cap_18 cs_18 hq_18
  obtain ⟨l_18, hbb_18, hol_18⟩ := hq_18
  refine L_freshY (vl := [.slice (some ⟨g25, 0, none⟩) 48 cap_17, .slice (some ⟨g26, 0, none⟩) 48 cap_18]) 64 64 (fun g cap g2 cap2 => .agg #[.slice (some ⟨g, 0, none⟩) 24 cap, .slice (some ⟨g2, 0, none⟩) 24 cap2]) (fun cap cs cap2 cs2 => WB cs cap 24 ((⟨Fp.n (num l_17), Fp.n (num l_18)⟩ : F2).a.val : Int) ∧ WB cs2 cap2 24 ((⟨Fp.n (num l_17), Fp.n (num l_18)⟩ : F2).b.val : Int)) (by rfl) (by rfl) Want.none (by kernel_rfl) (by rfl)  (fun w h => l5_of _ _ _ l_17 _ _ _ l_18 w (hbb_17.reads (h.blk 1 (by rfl))) hol_17 (hbb_18.reads (h.blk 0 (by rfl))) hol_18 (by omega) (by omega)) ?_; intro g27 cap_19 cs_19 g28 cap_19b cs_19b hq_19; obtain ⟨hwb_19, hwb_19b⟩ := hq_19
  refine L_val (.pointer (some ⟨g3, 8, none⟩)) (by rfl) (by rfl) (gives_value _ fun _ => by kernel_rfl) ?_
  refine L_storeA (t := 47) 25 g3 8 (joinA [#[.slice (some ⟨g7, 0, none⟩) 24 cap_3, .slice (some ⟨g8, 0, none⟩) 24 cap_3b], #[.slice (some ⟨g12, 0, none⟩) 24 cap_7, .slice (some ⟨g13, 0, none⟩) 24 cap_7b], #[.slice (some ⟨g17, 0, none⟩) 24 cap_11, .slice (some ⟨g18, 0, none⟩) 24 cap_11b], #[.slice (some ⟨g22, 0, none⟩) 24 cap_15, .slice (some ⟨g23, 0, none⟩) 24 cap_15b], #[.slice none 0 0, .slice none 0 0], #[.slice none 0 0, .slice none 0 0]]) #[.slice (some ⟨g27, 0, none⟩) 24 cap_19, .slice (some ⟨g28, 0, none⟩) 24 cap_19b] (joinA [#[.slice (some ⟨g7, 0, none⟩) 24 cap_3, .slice (some ⟨g8, 0, none⟩) 24 cap_3b], #[.slice (some ⟨g12, 0, none⟩) 24 cap_7, .slice (some ⟨g13, 0, none⟩) 24 cap_7b], #[.slice (some ⟨g17, 0, none⟩) 24 cap_11, .slice (some ⟨g18, 0, none⟩) 24 cap_11b], #[.slice (some ⟨g22, 0, none⟩) 24 cap_15, .slice (some ⟨g23, 0, none⟩) 24 cap_15b], #[.slice (some ⟨g27, 0, none⟩) 24 cap_19, .slice (some ⟨g28, 0, none⟩) 24 cap_19b], #[.slice none 0 0, .slice none 0 0]]) (by rfl) (by rfl) (by rfl) (by rfl) (by rfl) (hi_NN _ _) (by rw [joinC_size 2 _ (by simp)]; simp) (one_N (by rfl) (by rfl)) (spliceC' 2 _ (by simp) 4 _ (by rfl) (by simp) _ (by rfl) _ (by rfl)) ?_
  simp only [List.set_cons_zero, List.set_cons_succ]
  refine L_end ?_
  intro w22 hw22
  refine one_plain hw22 [0, 1, 2, 3, 4, 5, 6, 7, 8, 9, 10] (by rfl) ?_
  refine L_val (.int .i64 4) (by rfl) (by rfl) (gives_value _ fun _ => by rfl) ?_
  refine L_val (.int .i64 4) (by rfl) (by rfl) (gives_value _ fun _ => by rfl) ?_
  refine L_val (.pointer (some ⟨g3, 8, none⟩)) (by rfl) (by rfl) (gives_value _ fun _ => by kernel_rfl) ?_
  refine L_val (.agg #[.slice (some ⟨g27, 0, none⟩) 24 cap_19, .slice (some ⟨g28, 0, none⟩) 24 cap_19b]) (by rfl) (by rfl) (gives_load g3 8 47 (joinA [#[.slice (some ⟨g7, 0, none⟩) 24 cap_3, .slice (some ⟨g8, 0, none⟩) 24 cap_3b], #[.slice (some ⟨g12, 0, none⟩) 24 cap_7, .slice (some ⟨g13, 0, none⟩) 24 cap_7b], #[.slice (some ⟨g17, 0, none⟩) 24 cap_11, .slice (some ⟨g18, 0, none⟩) 24 cap_11b], #[.slice (some ⟨g22, 0, none⟩) 24 cap_15, .slice (some ⟨g23, 0, none⟩) 24 cap_15b], #[.slice (some ⟨g27, 0, none⟩) 24 cap_19, .slice (some ⟨g28, 0, none⟩) 24 cap_19b], #[.slice none 0 0, .slice none 0 0]]) #[.slice (some ⟨g27, 0, none⟩) 24 cap_19, .slice (some ⟨g28, 0, none⟩) 24 cap_19b] _ (by rfl) (fun _ h => h.blk 25 (by rfl)) (sl_joinC 2 _ (by simp) 4 _ (by rfl) _ (by rfl)) Tryd.underlying45 (by rfl) (hi_NN _ _)) ?_
  refine L_freshX (vl := [.agg #[.slice (some ⟨g27, 0, none⟩) 24 cap_19, .slice (some ⟨g28, 0, none⟩) 24 cap_19b]]) 5 (fun g cap => .slice (some ⟨g, 0, none⟩) (48 + 48) cap) (fun cap cs => BB cs cap (48 + 48) (lo ((⟨Fp.n (num l_17), Fp.n (num l_18)⟩ : F2).b.val : Int) 48 ++ lo ((⟨Fp.n (num l_17), Fp.n (num l_18)⟩ : F2).a.val : Int) 48)) (by rfl) (by rfl) Want.none (by kernel_rfl) (by rfl)  (fun w h => l5_bytes (⟨Fp.n (num l_17), Fp.n (num l_18)⟩ : F2) _ _ _ _ _ _ w (hwb_19.num (h.blk 0 (by rfl)) (fv_rng _) (by omega)) (hwb_19b.num (h.blk 1 (by rfl)) (fv_rng _) (by omega)) (by omega) (by omega)) ?_; intro g29 cap_20 cs_20 hq_20
  refine L_val (.tuple #[.agg (c2 (⟨Fp.n (num l_17), Fp.n (num l_18)⟩ : F2)), .int .i64 0]) (by rfl) (by rfl) (gives_call (vl := [.slice (some ⟨g29, 0, none⟩) (48 + 48) cap_20]) (by kernel_rfl) (by rfl) (fun w h => read5 (⟨Fp.n (num l_17), Fp.n (num l_18)⟩ : F2) _ _ w (hG.keep h.below) (hq_20.reads (h.blk 0 (by rfl))) (by have := hq_20.le; omega))) ?_
  refine L_val (.tuple #[.agg (c2 (⟨Fp.n (num l_17), Fp.n (num l_18)⟩ : F2)), .int .i64 0]) (by rfl) (by rfl) (gives_value _ fun _ => by rfl) ?_
  refine L_val (.agg (c2 (⟨Fp.n (num l_17), Fp.n (num l_18)⟩ : F2))) (by rfl) (by rfl) (gives_value _ fun _ => by kernel_rfl) ?_
  refine L_val (.int .i64 0) (by rfl) (by rfl) (gives_value _ fun _ => by kernel_rfl) ?_
  refine L_val (.pointer (some ⟨g4, 48, none⟩)) (by rfl) (by rfl) (gives_value _ fun _ => by kernel_rfl) ?_
  refine L_storeA (t := 76) 25 g4 48 (joinA [(c2 (⟨Fp.n (num l_1), Fp.n (num l_2)⟩ : F2)), (c2 (⟨Fp.n (num l_5), Fp.n (num l_6)⟩ : F2)), (c2 (⟨Fp.n (num l_9), Fp.n (num l_10)⟩ : F2)), (c2 (⟨Fp.n (num l_13), Fp.n (num l_14)⟩ : F2)), (c2 (0 : F2)), (c2 (0 : F2))]) (c2 (⟨Fp.n (num l_17), Fp.n (num l_18)⟩ : F2)) (joinA [(c2 (⟨Fp.n (num l_1), Fp.n (num l_2)⟩ : F2)), (c2 (⟨Fp.n (num l_5), Fp.n (num l_6)⟩ : F2)), (c2 (⟨Fp.n (num l_9), Fp.n (num l_10)⟩ : F2)), (c2 (⟨Fp.n (num l_13), Fp.n (num l_14)⟩ : F2)), (c2 (⟨Fp.n (num l_17), Fp.n (num l_18)⟩ : F2)), (c2 (0 : F2))]) (by rfl) (by rfl) (by rfl) (by rfl) (by rfl) (hi_2 _) (by rw [joinC_size 12 _ (by simp [c2_size]), c2_size]; simp) (c2_one _) (spliceC' 12 _ (by simp [c2_size]) 4 _ (c2_size _) (by simp) _ (by rfl) _ (by rfl)) ?_
  simp only [List.set_cons_zero, List.set_cons_succ]
  refine L_end ?_
  intro w23 hw23
  change Code.wp _ _ _ _ _
  refine one_plain hw23 [0, 1, 2] (by rfl) ?_
  refine L_val (.int .i64 4) (by rfl) (by rfl) (gives_value _ fun _ => by rfl) ?_
  refine L_val (.int .i64 5) (by rfl) (by rfl) (gives_add (k := .i64) 4 1 5 (by rfl) (by rfl) (by rfl)) ?_
  refine L_val (.int .i64 5) (by rfl) (by rfl) (gives_value _ fun _ => by rfl) ?_
  refine L_end ?_
  intro w24 hw24
  refine rounds_next ?_
  refine wp_seq ?_
  refine seq_plain hw24 [0, 1] (by rfl) ?_
  refine L_val (.int .i64 5) (by rfl) (by rfl) (gives_value _ fun _ => by rfl) ?_
  refine L_val (.bool true) (by rfl) (by rfl) (gives_lss (k := .i64) 5 6 true (by rfl) (by rfl) (by rfl)) ?_
  refine L_end ?_
  intro w25 hw25
  refine wp_cond_true (fr_at _ _ (by rfl) _) ?_
  refine wp_skip ?_
  change Code.wp _ _ _ _ _
  refine wp_seq ?_
  refine wp_block ?_
  refine seq_plain hw25 [0, 1, 2, 3, 4, 5, 6, 7, 8, 9, 10, 11, 12] (by rfl) ?_
  refine L_val (.int .i64 5) (by rfl) (by rfl) (gives_value _ fun _ => by rfl) ?_
  refine L_val (.slice A0 n0 c0) (by rfl) (by rfl) (gives_value _ fun _ => by rfl) ?_
  refine L_val (.int .i64 5) (by rfl) (by rfl) (gives_value _ fun _ => by rfl) ?_
  refine L_val (.int .i64 10) (by rfl) (by rfl) (gives_mul (k := .i64) 2 5 10 (by rfl) (by rfl) (by rfl)) ?_
  refine L_freshX (vl := [.slice A0 n0 c0, .int .i64 10]) 5 (fun g cap => .slice (some ⟨g, 0, none⟩) 48 cap) (fun cap cs => ∃ l, BB cs cap 48 l ∧ Oct l) (by rfl) (by rfl) Want.none (by kernel_rfl) (by rfl)  (fun w h => part_n A0 n0 c0 bs0 10 w ((hr0.below h.below).more h.below.size) ho0 hb0 h0 (by omega)) ?_; intro g30 cap_21 cs_21 hq_21
  obtain ⟨l_21, hbb_21, hol_21⟩ := hq_21
  refine L_val (.slice A0 n0 c0) (by rfl) (by rfl) (gives_value _ fun _ => by rfl) ?_
  refine L_val (.int .i64 5) (by rfl) (by rfl) (gives_value _ fun _ => by rfl) ?_
  refine L_val (.int .i64 10) (by rfl) (by rfl) (gives_mul (k := .i64) 2 5 10 (by rfl) (by rfl) (by rfl)) ?_
  refine L_val (.int .i64 11) (by rfl) (by rfl) (gives_add (k := .i64) 10 1 11 (by rfl) (by rfl) (by rfl)) ?_
  refine L_freshX (vl := [.slice A0 n0 c0, .int .i64 11]) 5 (fun g cap => .slice (some ⟨g, 0, none⟩) 48 cap) (fun cap cs => ∃ l, BB cs cap 48 l ∧ Oct l) (by rfl) (by rfl) Want.none (by kernel_rfl) (by rfl)  (fun w h => part_n A0 n0 c0 bs0 11 w ((hr0.below h.below).more h.below.size) ho0 hb0 h0 (by omega)) ?_; intro g31 cap_22 cs_22 hq_22
  obtain ⟨l_22, hbb_22, hol_22⟩ := hq_22
  refine L_freshY (vl := [.slice (some ⟨g30, 0, none⟩) 48 cap_21, .slice (some ⟨g31, 0, none⟩) 48 cap_22]) 64 64 (fun g cap g2 cap2 => .agg #[.slice (some ⟨g, 0, none⟩) 24 cap, .slice (some ⟨g2, 0, none⟩) 24 cap2]) (fun cap cs cap2 cs2 => WB cs cap 24 ((⟨Fp.n (num l_21), Fp.n (num l_22)⟩ : F2).a.val : Int) ∧ WB cs2 cap2 24 ((⟨Fp.n (num l_21), Fp.n (num l_22)⟩ : F2).b.val : Int)) (by rfl) (by rfl) Want.none (by kernel_rfl) (by rfl)  (fun w h => l5_of _ _ _ l_21 _ _ _ l_22 w (hbb_21.reads (h.blk 1 (by rfl))) hol_21 (hbb_22.reads (h.blk 0 (by rfl))) hol_22 (by omega) (by omega)) ?_; intro g32 cap_23 cs_23 g33 cap_23b cs_23b hq_23; obtain ⟨hwb_23, hwb_23b⟩ := hq_23
  refine L_val (.pointer (some ⟨g3, 10, none⟩)) (by rfl) (by rfl) (gives_value _ fun _ => by kernel_rfl) ?_
  refine L_storeA (t := 47) 30 g3 10 (joinA [#[.slice (some ⟨g7, 0, none⟩) 24 cap_3, .slice (some ⟨g8, 0, none⟩) 24 cap_3b], #[.slice (some ⟨g12, 0, none⟩) 24 cap_7, .slice (some ⟨g13, 0, none⟩) 24 cap_7b], #[.slice (some ⟨g17, 0, none⟩) 24 cap_11, .slice (some ⟨g18, 0, none⟩) 24 cap_11b], #[.slice (some ⟨g22, 0, none⟩) 24 cap_15, .slice (some ⟨g23, 0, none⟩) 24 cap_15b], #[.slice (some ⟨g27, 0, none⟩) 24 cap_19, .slice (some ⟨g28, 0, none⟩) 24 cap_19b], #[.slice none 0 0, .slice none 0 0]]) #[.slice (some ⟨g32, 0, none⟩) 24 cap_23, .slice (some ⟨g33, 0, none⟩) 24 cap_23b] (joinA [#[.slice (some ⟨g7, 0, none⟩) 24 cap_3, .slice (some ⟨g8, 0, none⟩) 24 cap_3b], #[.slice (some ⟨g12, 0, none⟩) 24 cap_7, .slice (some ⟨g13, 0, none⟩) 24 cap_7b], #[.slice (some ⟨g17, 0, none⟩) 24 cap_11, .slice (some ⟨g18, 0, none⟩) 24 cap_11b], #[.slice (some ⟨g22, 0, none⟩) 24 cap_15, .slice (some ⟨g23, 0, none⟩) 24 cap_15b], #[.slice (some ⟨g27, 0, none⟩) 24 cap_19, .slice (some ⟨g28, 0, none⟩) 24 cap_19b], #[.slice (some ⟨g32, 0, none⟩) 24 cap_23, .slice (some ⟨g33, 0, none⟩) 24 cap_23b]]) (by rfl) (by rfl) (by rfl) (by rfl) (by rfl) (hi_NN _ _) (by rw [joinC_size 2 _ (by simp)]; simp) (one_N (by rfl) (by rfl)) (spliceC' 2 _ (by simp) 5 _ (by rfl) (by simp) _ (by rfl) _ (by rfl)) ?_
  simp only [List.set_cons_zero, List.set_cons_succ]
  refine L_end ?_
  intro w26 hw26
  refine one_plain hw26 [0, 1, 2, 3, 4, 5, 6, 7, 8, 9, 10] (by rfl) ?_
  refine L_val (.int .i64 5) (by rfl) (by rfl) (gives_value _ fun _ => by rfl) ?_
  refine L_val (.int .i64 5) (by rfl) (by rfl) (gives_value _ fun _ => by rfl) ?_
  refine L_val (.pointer (some ⟨g3, 10, none⟩)) (by rfl) (by rfl) (gives_value _ fun _ => by kernel_rfl) ?_
  refine L_val (.agg #[.slice (some ⟨g32, 0, none⟩) 24 cap_23, .slice (some ⟨g33, 0, none⟩) 24 cap_23b]) (by rfl) (by rfl) (gives_load g3 10 47 (joinA [#[.slice (some ⟨g7, 0, none⟩) 24 cap_3, .slice (some ⟨g8, 0, none⟩) 24 cap_3b], #[.slice (some ⟨g12, 0, none⟩) 24 cap_7, .slice (some ⟨g13, 0, none⟩) 24 cap_7b], #[.slice (some ⟨g17, 0, none⟩) 24 cap_11, .slice (some ⟨g18, 0, none⟩) 24 cap_11b], #[.slice (some ⟨g22, 0, none⟩) 24 cap_15, .slice (some ⟨g23, 0, none⟩) 24 cap_15b], #[.slice (some ⟨g27, 0, none⟩) 24 cap_19, .slice (some ⟨g28, 0, none⟩) 24 cap_19b], #[.slice (some ⟨g32, 0, none⟩) 24 cap_23, .slice (some ⟨g33, 0, none⟩) 24 cap_23b]]) #[.slice (some ⟨g32, 0, none⟩) 24 cap_23, .slice (some ⟨g33, 0, none⟩) 24 cap_23b] _ (by rfl) (fun _ h => h.blk 30 (by rfl)) (sl_joinC 2 _ (by simp) 5 _ (by rfl) _ (by rfl)) Tryd.underlying45 (by rfl) (hi_NN _ _)) ?_
  refine L_freshX (vl := [.agg #[.slice (some ⟨g32, 0, none⟩) 24 cap_23, .slice (some ⟨g33, 0, none⟩) 24 cap_23b]]) 5 (fun g cap => .slice (some ⟨g, 0, none⟩) (48 + 48) cap) (fun cap cs => BB cs cap (48 + 48) (lo ((⟨Fp.n (num l_21), Fp.n (num l_22)⟩ : F2).b.val : Int) 48 ++ lo ((⟨Fp.n (num l_21), Fp.n (num l_22)⟩ : F2).a.val : Int) 48)) (by rfl) (by rfl) Want.none (by kernel_rfl) (by rfl)  (fun w h => l5_bytes (⟨Fp.n (num l_21), Fp.n (num l_22)⟩ : F2) _ _ _ _ _ _ w (hwb_23.num (h.blk 0 (by rfl)) (fv_rng _) (by omega)) (hwb_23b.num (h.blk 1 (by rfl)) (fv_rng _) (by omega)) (by omega) (by omega)) ?_; intro g34 cap_24 cs_24 hq_24
  refine L_val (.tuple #[.agg (c2 (⟨Fp.n (num l_21), Fp.n (num l_22)⟩ : F2)), .int .i64 0]) (by rfl) (by rfl) (gives_call (vl := [.slice (some ⟨g34, 0, none⟩) (48 + 48) cap_24]) (by kernel_rfl) (by rfl) (fun w h => read5 (⟨Fp.n (num l_21), Fp.n (num l_22)⟩ : F2) _ _ w (hG.keep h.below) (hq_24.reads (h.blk 0 (by rfl))) (by have := hq_24.le; omega))) ?_
  refine L_val (.tuple #[.agg (c2 (⟨Fp.n (num l_21), Fp.n (num l_22)⟩ : F2)), .int .i64 0]) (by rfl) (by rfl) (gives_value _ fun _ => by rfl) ?_
  refine L_val (.agg (c2 (⟨Fp.n (num l_21), Fp.n (num l_22)⟩ : F2))) (by rfl) (by rfl) (gives_value _ fun _ => by kernel_rfl) ?_
  refine L_val (.int .i64 0) (by rfl) (by rfl) (gives_value _ fun _ => by kernel_rfl) ?_
  refine L_val (.pointer (some ⟨g4, 60, none⟩)) (by rfl) (by rfl) (gives_value _ fun _ => by kernel_rfl) ?_
  refine L_storeA (t := 76) 30 g4 60 (joinA [(c2 (⟨Fp.n (num l_1), Fp.n (num l_2)⟩ : F2)), (c2 (⟨Fp.n (num l_5), Fp.n (num l_6)⟩ : F2)), (c2 (⟨Fp.n (num l_9), Fp.n (num l_10)⟩ : F2)), (c2 (⟨Fp.n (num l_13), Fp.n (num l_14)⟩ : F2)), (c2 (⟨Fp.n (num l_17), Fp.n (num l_18)⟩ : F2)), (c2 (0 : F2))]) (c2 (⟨Fp.n (num l_21), Fp.n (num l_22)⟩ : F2)) (joinA [(c2 (⟨Fp.n (num l_1), Fp.n (num l_2)⟩ : F2)), (c2 (⟨Fp.n (num l_5), Fp.n (num l_6)⟩ : F2)), (c2 (⟨Fp.n (num l_9), Fp.n (num l_10)⟩ : F2)), (c2 (⟨Fp.n (num l_13), Fp.n (num l_14)⟩ : F2)), (c2 (⟨Fp.n (num l_17), Fp.n (num l_18)⟩ : F2)), (c2 (⟨Fp.n (num l_21), Fp.n (num l_22)⟩ : F2))]) (by rfl) (by rfl) (by rfl) (by rfl) (by rfl) (hi_2 _) (by rw [joinC_size 12 _ (by simp [c2_size]), c2_size]; simp) (c2_one _) (spliceC' 12 _ (by simp [c2_size]) 5 _ (c2_size _) (by simp) _ (by rfl) _ (by rfl)) ?_
  simp only [List.set_cons_zero, List.set_cons_succ]
  refine L_end ?_
  intro w27 hw27
  change Code.wp _ _ _ _ _
  refine one_plain hw27 [0, 1, 2] (by rfl) ?_
  refine L_val (.int .i64 5) (by rfl) (by rfl) (gives_value _ fun _ => by rfl) ?_
  refine L_val (.int .i64 6) (by rfl) (by rfl) (gives_add (k := .i64) 5 1 6 (by rfl) (by rfl) (by rfl)) ?_
  refine L_val (.int .i64 6) (by rfl) (by rfl) (gives_value _ fun _ => by rfl) ?_
  refine L_end ?_
  intro w28 hw28
  refine rounds_next ?_
  refine wp_seq ?_
  refine seq_plain hw28 [0, 1] (by rfl) ?_
  refine L_val (.int .i64 6) (by rfl) (by rfl) (gives_value _ fun _ => by rfl) ?_
  refine L_val (.bool false) (by rfl) (by rfl) (gives_lss (k := .i64) 6 6 false (by rfl) (by rfl) (by rfl)) ?_
  refine L_end ?_
  intro w29 hw29
  refine wp_cond_false (fr_at _ _ (by rfl) _) ?_
  refine wp_exit ?_
  change Code.wp _ _ _ _ _
  change Code.wp _ _ _ _ _
  refine seq_flow (by kernel_rfl) hw29 [] [(g34, 5, cs_24), (g32, 64, cs_23), (g33, 64, cs_23b), (g31, 5, cs_22), (g30, 5, cs_21), (g29, 5, cs_20), (g27, 64, cs_19), (g28, 64, cs_19b), (g26, 5, cs_18), (g25, 5, cs_17), (g24, 5, cs_16), (g22, 64, cs_15), (g23, 64, cs_15b), (g21, 5, cs_14), (g20, 5, cs_13), (g19, 5, cs_12), (g17, 64, cs_11), (g18, 64, cs_11b), (g16, 5, cs_10), (g15, 5, cs_9), (g14, 5, cs_8), (g12, 64, cs_7), (g13, 64, cs_7b), (g11, 5, cs_6), (g10, 5, cs_5), (g9, 5, cs_4), (g7, 64, cs_3), (g8, 64, cs_3b), (g6, 5, cs_2), (g5, 5, cs_1), (g4, 76, (joinA [(c2 (⟨Fp.n (num l_1), Fp.n (num l_2)⟩ : F2)), (c2 (⟨Fp.n (num l_5), Fp.n (num l_6)⟩ : F2)), (c2 (⟨Fp.n (num l_9), Fp.n (num l_10)⟩ : F2)), (c2 (⟨Fp.n (num l_13), Fp.n (num l_14)⟩ : F2)), (c2 (⟨Fp.n (num l_17), Fp.n (num l_18)⟩ : F2)), (c2 (⟨Fp.n (num l_21), Fp.n (num l_22)⟩ : F2))])), (g3, 47, (joinA [#[.slice (some ⟨g7, 0, none⟩) 24 cap_3, .slice (some ⟨g8, 0, none⟩) 24 cap_3b], #[.slice (some ⟨g12, 0, none⟩) 24 cap_7, .slice (some ⟨g13, 0, none⟩) 24 cap_7b], #[.slice (some ⟨g17, 0, none⟩) 24 cap_11, .slice (some ⟨g18, 0, none⟩) 24 cap_11b], #[.slice (some ⟨g22, 0, none⟩) 24 cap_15, .slice (some ⟨g23, 0, none⟩) 24 cap_15b], #[.slice (some ⟨g27, 0, none⟩) 24 cap_19, .slice (some ⟨g28, 0, none⟩) 24 cap_19b], #[.slice (some ⟨g32, 0, none⟩) 24 cap_23, .slice (some ⟨g33, 0, none⟩) 24 cap_23b]]))] 18 (by rfl) ?_
  refine flow_take (i := 0) (.agg (joinA [#[.slice (some ⟨g7, 0, none⟩) 24 cap_3, .slice (some ⟨g8, 0, none⟩) 24 cap_3b], #[.slice (some ⟨g12, 0, none⟩) 24 cap_7, .slice (some ⟨g13, 0, none⟩) 24 cap_7b], #[.slice (some ⟨g17, 0, none⟩) 24 cap_11, .slice (some ⟨g18, 0, none⟩) 24 cap_11b], #[.slice (some ⟨g22, 0, none⟩) 24 cap_15, .slice (some ⟨g23, 0, none⟩) 24 cap_15b], #[.slice (some ⟨g27, 0, none⟩) 24 cap_19, .slice (some ⟨g28, 0, none⟩) 24 cap_19b], #[.slice (some ⟨g32, 0, none⟩) 24 cap_23, .slice (some ⟨g33, 0, none⟩) 24 cap_23b]])) (by rfl) (by kernel_rfl) (by kernel_rfl) (by kernel_rfl) (by rfl) (by kernel_rfl) (List.Sublist.cons_cons _ (List.Sublist.cons_cons _ (List.Sublist.cons_cons _ (List.Sublist.cons_cons _ (List.Sublist.cons_cons _ (List.Sublist.cons_cons _ (List.Sublist.cons_cons _ (List.Sublist.cons_cons _ (List.Sublist.cons_cons _ (List.Sublist.cons_cons _ (List.Sublist.cons_cons _ (List.Sublist.cons_cons _ (List.Sublist.cons_cons _ (List.Sublist.cons_cons _ (List.Sublist.cons_cons _ (List.Sublist.cons_cons _ (List.Sublist.cons_cons _ (List.Sublist.cons_cons _ (List.Sublist.cons_cons _ (List.Sublist.cons_cons _ (List.Sublist.cons_cons _ (List.Sublist.cons_cons _ (List.Sublist.cons_cons _ (List.Sublist.cons_cons _ (List.Sublist.cons_cons _ (List.Sublist.cons_cons _ (List.Sublist.cons_cons _ (List.Sublist.cons_cons _ (List.Sublist.cons_cons _ (List.Sublist.cons_cons _ (List.Sublist.cons_cons _ (List.Sublist.cons_cons _ (List.Sublist.cons _ (List.Sublist.cons _ (List.Sublist.refl _))))))))))))))))))))))))))))))))))) (gives_load g3 0 47 (joinA [#[.slice (some ⟨g7, 0, none⟩) 24 cap_3, .slice (some ⟨g8, 0, none⟩) 24 cap_3b], #[.slice (some ⟨g12, 0, none⟩) 24 cap_7, .slice (some ⟨g13, 0, none⟩) 24 cap_7b], #[.slice (some ⟨g17, 0, none⟩) 24 cap_11, .slice (some ⟨g18, 0, none⟩) 24 cap_11b], #[.slice (some ⟨g22, 0, none⟩) 24 cap_15, .slice (some ⟨g23, 0, none⟩) 24 cap_15b], #[.slice (some ⟨g27, 0, none⟩) 24 cap_19, .slice (some ⟨g28, 0, none⟩) 24 cap_19b], #[.slice (some ⟨g32, 0, none⟩) 24 cap_23, .slice (some ⟨g33, 0, none⟩) 24 cap_23b]]) (joinA [#[.slice (some ⟨g7, 0, none⟩) 24 cap_3, .slice (some ⟨g8, 0, none⟩) 24 cap_3b], #[.slice (some ⟨g12, 0, none⟩) 24 cap_7, .slice (some ⟨g13, 0, none⟩) 24 cap_7b], #[.slice (some ⟨g17, 0, none⟩) 24 cap_11, .slice (some ⟨g18, 0, none⟩) 24 cap_11b], #[.slice (some ⟨g22, 0, none⟩) 24 cap_15, .slice (some ⟨g23, 0, none⟩) 24 cap_15b], #[.slice (some ⟨g27, 0, none⟩) 24 cap_19, .slice (some ⟨g28, 0, none⟩) 24 cap_19b], #[.slice (some ⟨g32, 0, none⟩) 24 cap_23, .slice (some ⟨g33, 0, none⟩) 24 cap_23b]]) _ (by rfl) (fun _ h => h.blk 31 (by rfl)) (Sl.refl _) Tryd.underlying47 (by rfl) (hi_a 2 _ _ (by kernel_rfl) (by simp) rfl)) ?_
  refine flow_take (i := 1) (.pointer (some ⟨g4, 0, none⟩)) (by rfl) (by kernel_rfl) (by kernel_rfl) (by kernel_rfl) (by rfl) (by kernel_rfl) (List.Sublist.cons_cons _ (List.Sublist.cons_cons _ (List.Sublist.cons_cons _ (List.Sublist.cons_cons _ (List.Sublist.cons_cons _ (List.Sublist.cons_cons _ (List.Sublist.cons_cons _ (List.Sublist.cons_cons _ (List.Sublist.cons_cons _ (List.Sublist.cons_cons _ (List.Sublist.cons_cons _ (List.Sublist.cons_cons _ (List.Sublist.cons_cons _ (List.Sublist.cons_cons _ (List.Sublist.cons_cons _ (List.Sublist.cons_cons _ (List.Sublist.cons_cons _ (List.Sublist.cons_cons _ (List.Sublist.cons_cons _ (List.Sublist.cons_cons _ (List.Sublist.cons_cons _ (List.Sublist.cons_cons _ (List.Sublist.cons_cons _ (List.Sublist.cons_cons _ (List.Sublist.cons_cons _ (List.Sublist.cons_cons _ (List.Sublist.cons_cons _ (List.Sublist.cons_cons _ (List.Sublist.cons_cons _ (List.Sublist.cons_cons _ (List.Sublist.cons_cons _ (List.Sublist.cons_cons _ (List.Sublist.cons _ (List.Sublist.cons _ (List.Sublist.refl _))))))))))))))))))))))))))))))))))) (gives_value _ fun _ => by kernel_rfl) ?_
  refine flow_take (i := 2) (.agg (c2 (⟨Fp.n (num l_1), Fp.n (num l_2)⟩ : F2))) (by rfl) (by kernel_rfl) (by kernel_rfl) (by kernel_rfl) (by rfl) (by kernel_rfl) (List.Sublist.cons_cons _ (List.Sublist.cons_cons _ (List.Sublist.cons_cons _ (List.Sublist.cons_cons _ (List.Sublist.cons_cons _ (List.Sublist.cons_cons _ (List.Sublist.cons_cons _ (List.Sublist.cons_cons _ (List.Sublist.cons_cons _ (List.Sublist.cons_cons _ (List.Sublist.cons_cons _ (List.Sublist.cons_cons _ (List.Sublist.cons_cons _ (List.Sublist.cons_cons _ (List.Sublist.cons_cons _ (List.Sublist.cons_cons _ (List.Sublist.cons_cons _ (List.Sublist.cons_cons _ (List.Sublist.cons_cons _ (List.Sublist.cons_cons _ (List.Sublist.cons_cons _ (List.Sublist.cons_cons _ (List.Sublist.cons_cons _ (List.Sublist.cons_cons _ (List.Sublist.cons_cons _ (List.Sublist.cons_cons _ (List.Sublist.cons_cons _ (List.Sublist.cons_cons _ (List.Sublist.cons_cons _ (List.Sublist.cons_cons _ (List.Sublist.cons_cons _ (List.Sublist.cons_cons _ (List.Sublist.cons _ (List.Sublist.cons _ (List.Sublist.refl _))))))))))))))))))))))))))))))))))) (gives_load g4 0 76 (joinA [(c2 (⟨Fp.n (num l_1), Fp.n (num l_2)⟩ : F2)), (c2 (⟨Fp.n (num l_5), Fp.n (num l_6)⟩ : F2)), (c2 (⟨Fp.n (num l_9), Fp.n (num l_10)⟩ : F2)), (c2 (⟨Fp.n (num l_13), Fp.n (num l_14)⟩ : F2)), (c2 (⟨Fp.n (num l_17), Fp.n (num l_18)⟩ : F2)), (c2 (⟨Fp.n (num l_21), Fp.n (num l_22)⟩ : F2))]) (c2 (⟨Fp.n (num l_1), Fp.n (num l_2)⟩ : F2)) _ (by rfl) (fun _ h => h.blk 30 (by rfl)) (sl_joinC 12 _ (by simp [c2_size]) 0 _ (by rfl) _ (by rfl)) Tryd.underlying36 (by rfl) (hi_2 _)) ?_
  refine flow_take (i := 3) (.pointer (some ⟨g4, 24, none⟩)) (by rfl) (by kernel_rfl) (by kernel_rfl) (by kernel_rfl) (by rfl) (by kernel_rfl) (List.Sublist.cons_cons _ (List.Sublist.cons_cons _ (List.Sublist.cons_cons _ (List.Sublist.cons_cons _ (List.Sublist.cons_cons _ (List.Sublist.cons_cons _ (List.Sublist.cons_cons _ (List.Sublist.cons_cons _ (List.Sublist.cons_cons _ (List.Sublist.cons_cons _ (List.Sublist.cons_cons _ (List.Sublist.cons_cons _ (List.Sublist.cons_cons _ (List.Sublist.cons_cons _ (List.Sublist.cons_cons _ (List.Sublist.cons_cons _ (List.Sublist.cons_cons _ (List.Sublist.cons_cons _ (List.Sublist.cons_cons _ (List.Sublist.cons_cons _ (List.Sublist.cons_cons _ (List.Sublist.cons_cons _ (List.Sublist.cons_cons _ (List.Sublist.cons_cons _ (List.Sublist.cons_cons _ (List.Sublist.cons_cons _ (List.Sublist.cons_cons _ (List.Sublist.cons_cons _ (List.Sublist.cons_cons _ (List.Sublist.cons_cons _ (List.Sublist.cons_cons _ (List.Sublist.cons_cons _ (List.Sublist.cons _ (List.Sublist.cons _ (List.Sublist.refl _))))))))))))))))))))))))))))))))))) (gives_value _ fun _ => by kernel_rfl) ?_
  refine flow_take (i := 4) (.agg (c2 (⟨Fp.n (num l_9), Fp.n (num l_10)⟩ : F2))) (by rfl) (by kernel_rfl) (by kernel_rfl) (by kernel_rfl) (by rfl) (by kernel_rfl) (List.Sublist.cons_cons _ (List.Sublist.cons_cons _ (List.Sublist.cons_cons _ (List.Sublist.cons_cons _ (List.Sublist.cons_cons _ (List.Sublist.cons_cons _ (List.Sublist.cons_cons _ (List.Sublist.cons_cons _ (List.Sublist.cons_cons _ (List.Sublist.cons_cons _ (List.Sublist.cons_cons _ (List.Sublist.cons_cons _ (List.Sublist.cons_cons _ (List.Sublist.cons_cons _ (List.Sublist.cons_cons _ (List.Sublist.cons_cons _ (List.Sublist.cons_cons _ (List.Sublist.cons_cons _ (List.Sublist.cons_cons _ (List.Sublist.cons_cons _ (List.Sublist.cons_cons _ (List.Sublist.cons_cons _ (List.Sublist.cons_cons _ (List.Sublist.cons_cons _ (List.Sublist.cons_cons _ (List.Sublist.cons_cons _ (List.Sublist.cons_cons _ (List.Sublist.cons_cons _ (List.Sublist.cons_cons _ (List.Sublist.cons_cons _ (List.Sublist.cons_cons _ (List.Sublist.cons_cons _ (List.Sublist.cons _ (List.Sublist.cons _ (List.Sublist.refl _))))))))))))))))))))))))))))))))))) (gives_load g4 24 76 (joinA [(c2 (⟨Fp.n (num l_1), Fp.n (num l_2)⟩ : F2)), (c2 (⟨Fp.n (num l_5), Fp.n (num l_6)⟩ : F2)), (c2 (⟨Fp.n (num l_9), Fp.n (num l_10)⟩ : F2)), (c2 (⟨Fp.n (num l_13), Fp.n (num l_14)⟩ : F2)), (c2 (⟨Fp.n (num l_17), Fp.n (num l_18)⟩ : F2)), (c2 (⟨Fp.n (num l_21), Fp.n (num l_22)⟩ : F2))]) (c2 (⟨Fp.n (num l_9), Fp.n (num l_10)⟩ : F2)) _ (by rfl) (fun _ h => h.blk 30 (by rfl)) (sl_joinC 12 _ (by simp [c2_size]) 2 _ (by rfl) _ (by rfl)) Tryd.underlying36 (by rfl) (hi_2 _)) ?_
  refine flow_take (i := 5) (.pointer (some ⟨g4, 48, none⟩)) (by rfl) (by kernel_rfl) (by kernel_rfl) (by kernel_rfl) (by rfl) (by kernel_rfl) (List.Sublist.cons_cons _ (List.Sublist.cons_cons _ (List.Sublist.cons_cons _ (List.Sublist.cons_cons _ (List.Sublist.cons_cons _ (List.Sublist.cons_cons _ (List.Sublist.cons_cons _ (List.Sublist.cons_cons _ (List.Sublist.cons_cons _ (List.Sublist.cons_cons _ (List.Sublist.cons_cons _ (List.Sublist.cons_cons _ (List.Sublist.cons_cons _ (List.Sublist.cons_cons _ (List.Sublist.cons_cons _ (List.Sublist.cons_cons _ (List.Sublist.cons_cons _ (List.Sublist.cons_cons _ (List.Sublist.cons_cons _ (List.Sublist.cons_cons _ (List.Sublist.cons_cons _ (List.Sublist.cons_cons _ (List.Sublist.cons_cons _ (List.Sublist.cons_cons _ (List.Sublist.cons_cons _ (List.Sublist.cons_cons _ (List.Sublist.cons_cons _ (List.Sublist.cons_cons _ (List.Sublist.cons_cons _ (List.Sublist.cons_cons _ (List.Sublist.cons_cons _ (List.Sublist.cons_cons _ (List.Sublist.cons _ (List.Sublist.cons _ (List.Sublist.refl _))))))))))))))))))))))))))))))))))) (gives_value _ fun _ => by kernel_rfl) ?_
  refine flow_take (i := 6) (.agg (c2 (⟨Fp.n (num l_17), Fp.n (num l_18)⟩ : F2))) (by rfl) (by kernel_rfl) (by kernel_rfl) (by kernel_rfl) (by rfl) (by kernel_rfl) (List.Sublist.cons_cons _ (List.Sublist.cons_cons _ (List.Sublist.cons_cons _ (List.Sublist.cons_cons _ (List.Sublist.cons_cons _ (List.Sublist.cons_cons _ (List.Sublist.cons_cons _ (List.Sublist.cons_cons _ (List.Sublist.cons_cons _ (List.Sublist.cons_cons _ (List.Sublist.cons_cons _ (List.Sublist.cons_cons _ (List.Sublist.cons_cons _ (List.Sublist.cons_cons _ (List.Sublist.cons_cons _ (List.Sublist.cons_cons _ (List.Sublist.cons_cons _ (List.Sublist.cons_cons _ (List.Sublist.cons_cons _ (List.Sublist.cons_cons _ (List.Sublist.cons_cons _ (List.Sublist.cons_cons _ (List.Sublist.cons_cons _ (List.Sublist.cons_cons _ (List.Sublist.cons_cons _ (List.Sublist.cons_cons _ (List.Sublist.cons_cons _ (List.Sublist.cons_cons _ (List.Sublist.cons_cons _ (List.Sublist.cons_cons _ (List.Sublist.cons_cons _ (List.Sublist.cons_cons _ (List.Sublist.cons _ (List.Sublist.cons _ (List.Sublist.refl _))))))))))))))))))))))))))))))))))) (gives_load g4 48 76 (joinA [(c2 (⟨Fp.n (num l_1), Fp.n (num l_2)⟩ : F2)), (c2 (⟨Fp.n (num l_5), Fp.n (num l_6)⟩ : F2)), (c2 (⟨Fp.n (num l_9), Fp.n (num l_10)⟩ : F2)), (c2 (⟨Fp.n (num l_13), Fp.n (num l_14)⟩ : F2)), (c2 (⟨Fp.n (num l_17), Fp.n (num l_18)⟩ : F2)), (c2 (⟨Fp.n (num l_21), Fp.n (num l_22)⟩ : F2))]) (c2 (⟨Fp.n (num l_17), Fp.n (num l_18)⟩ : F2)) _ (by rfl) (fun _ h => h.blk 30 (by rfl)) (sl_joinC 12 _ (by simp [c2_size]) 4 _ (by rfl) _ (by rfl)) Tryd.underlying36 (by rfl) (hi_2 _)) ?_
  refine flow_take (i := 7) (.agg (c3 (⟨(⟨Fp.n (num l_1), Fp.n (num l_2)⟩ : F2), (⟨Fp.n (num l_9), Fp.n (num l_10)⟩ : F2), (⟨Fp.n (num l_17), Fp.n (num l_18)⟩ : F2)⟩ : C3))) (by rfl) (by kernel_rfl) (by kernel_rfl) (by kernel_rfl) (by rfl) (by kernel_rfl) (List.Sublist.cons_cons _ (List.Sublist.cons_cons _ (List.Sublist.cons_cons _ (List.Sublist.cons_cons _ (List.Sublist.cons_cons _ (List.Sublist.cons_cons _ (List.Sublist.cons_cons _ (List.Sublist.cons_cons _ (List.Sublist.cons_cons _ (List.Sublist.cons_cons _ (List.Sublist.cons_cons _ (List.Sublist.cons_cons _ (List.Sublist.cons_cons _ (List.Sublist.cons_cons _ (List.Sublist.cons_cons _ (List.Sublist.cons_cons _ (List.Sublist.cons_cons _ (List.Sublist.cons_cons _ (List.Sublist.cons_cons _ (List.Sublist.cons_cons _ (List.Sublist.cons_cons _ (List.Sublist.cons_cons _ (List.Sublist.cons_cons _ (List.Sublist.cons_cons _ (List.Sublist.cons_cons _ (List.Sublist.cons_cons _ (List.Sublist.cons_cons _ (List.Sublist.cons_cons _ (List.Sublist.cons_cons _ (List.Sublist.cons_cons _ (List.Sublist.cons_cons _ (List.Sublist.cons_cons _ (List.Sublist.cons _ (List.Sublist.cons _ (List.Sublist.refl _))))))))))))))))))))))))))))))))))) (gb_cubic [(0, (c2 (⟨Fp.n (num l_1), Fp.n (num l_2)⟩ : F2))), (1, (c2 (⟨Fp.n (num l_9), Fp.n (num l_10)⟩ : F2))), (2, (c2 (⟨Fp.n (num l_17), Fp.n (num l_18)⟩ : F2)))] ⟨congrArg some (c2_size _).symm, congrArg some (c2_size _).symm, congrArg some (c2_size _).symm, trivial⟩ (by rfl) (c3 (⟨(⟨Fp.n (num l_1), Fp.n (num l_2)⟩ : F2), (⟨Fp.n (num l_9), Fp.n (num l_10)⟩ : F2), (⟨Fp.n (num l_17), Fp.n (num l_18)⟩ : F2)⟩ : C3)) (by rfl)) ?_
  refine flow_take (i := 8) (.pointer (some ⟨g4, 12, none⟩)) (by rfl) (by kernel_rfl) (by kernel_rfl) (by kernel_rfl) (by rfl) (by kernel_rfl) (List.Sublist.cons_cons _ (List.Sublist.cons_cons _ (List.Sublist.cons_cons _ (List.Sublist.cons_cons _ (List.Sublist.cons_cons _ (List.Sublist.cons_cons _ (List.Sublist.cons_cons _ (List.Sublist.cons_cons _ (List.Sublist.cons_cons _ (List.Sublist.cons_cons _ (List.Sublist.cons_cons _ (List.Sublist.cons_cons _ (List.Sublist.cons_cons _ (List.Sublist.cons_cons _ (List.Sublist.cons_cons _ (List.Sublist.cons_cons _ (List.Sublist.cons_cons _ (List.Sublist.cons_cons _ (List.Sublist.cons_cons _ (List.Sublist.cons_cons _ (List.Sublist.cons_cons _ (List.Sublist.cons_cons _ (List.Sublist.cons_cons _ (List.Sublist.cons_cons _ (List.Sublist.cons_cons _ (List.Sublist.cons_cons _ (List.Sublist.cons_cons _ (List.Sublist.cons_cons _ (List.Sublist.cons_cons _ (List.Sublist.cons_cons _ (List.Sublist.cons_cons _ (List.Sublist.cons_cons _ (List.Sublist.cons _ (List.Sublist.cons _ (List.Sublist.refl _))))))))))))))))))))))))))))))))))) (gives_value _ fun _ => by kernel_rfl) ?_
  refine flow_take (i := 9) (.agg (c2 (⟨Fp.n (num l_5), Fp.n (num l_6)⟩ : F2))) (by rfl) (by kernel_rfl) (by kernel_rfl) (by kernel_rfl) (by rfl) (by kernel_rfl) (List.Sublist.cons_cons _ (List.Sublist.cons_cons _ (List.Sublist.cons_cons _ (List.Sublist.cons_cons _ (List.Sublist.cons_cons _ (List.Sublist.cons_cons _ (List.Sublist.cons_cons _ (List.Sublist.cons_cons _ (List.Sublist.cons_cons _ (List.Sublist.cons_cons _ (List.Sublist.cons_cons _ (List.Sublist.cons_cons _ (List.Sublist.cons_cons _ (List.Sublist.cons_cons _ (List.Sublist.cons_cons _ (List.Sublist.cons_cons _ (List.Sublist.cons_cons _ (List.Sublist.cons_cons _ (List.Sublist.cons_cons _ (List.Sublist.cons_cons _ (List.Sublist.cons_cons _ (List.Sublist.cons_cons _ (List.Sublist.cons_cons _ (List.Sublist.cons_cons _ (List.Sublist.cons_cons _ (List.Sublist.cons_cons _ (List.Sublist.cons_cons _ (List.Sublist.cons_cons _ (List.Sublist.cons_cons _ (List.Sublist.cons_cons _ (List.Sublist.cons_cons _ (List.Sublist.cons_cons _ (List.Sublist.cons _ (List.Sublist.cons _ (List.Sublist.refl _))))))))))))))))))))))))))))))))))) (gives_load g4 12 76 (joinA [(c2 (⟨Fp.n (num l_1), Fp.n (num l_2)⟩ : F2)), (c2 (⟨Fp.n (num l_5), Fp.n (num l_6)⟩ : F2)), (c2 (⟨Fp.n (num l_9), Fp.n (num l_10)⟩ : F2)), (c2 (⟨Fp.n (num l_13), Fp.n (num l_14)⟩ : F2)), (c2 (⟨Fp.n (num l_17), Fp.n (num l_18)⟩ : F2)), (c2 (⟨Fp.n (num l_21), Fp.n (num l_22)⟩ : F2))]) (c2 (⟨Fp.n (num l_5), Fp.n (num l_6)⟩ : F2)) _ (by rfl) (fun _ h => h.blk 30 (by rfl)) (sl_joinC 12 _ (by simp [c2_size]) 1 _ (by rfl) _ (by rfl)) Tryd.underlying36 (by rfl) (hi_2 _)) ?_
  refine flow_take (i := 10) (.pointer (some ⟨g4, 36, none⟩)) (by rfl) (by kernel_rfl) (by kernel_rfl) (by kernel_rfl) (by rfl) (by kernel_rfl) (List.Sublist.cons_cons _ (List.Sublist.cons_cons _ (List.Sublist.cons_cons _ (List.Sublist.cons_cons _ (List.Sublist.cons_cons _ (List.Sublist.cons_cons _ (List.Sublist.cons_cons _ (List.Sublist.cons_cons _ (List.Sublist.cons_cons _ (List.Sublist.cons_cons _ (List.Sublist.cons_cons _ (List.Sublist.cons_cons _ (List.Sublist.cons_cons _ (List.Sublist.cons_cons _ (List.Sublist.cons_cons _ (List.Sublist.cons_cons _ (List.Sublist.cons_cons _ (List.Sublist.cons_cons _ (List.Sublist.cons_cons _ (List.Sublist.cons_cons _ (List.Sublist.cons_cons _ (List.Sublist.cons_cons _ (List.Sublist.cons_cons _ (List.Sublist.cons_cons _ (List.Sublist.cons_cons _ (List.Sublist.cons_cons _ (List.Sublist.cons_cons _ (List.Sublist.cons_cons _ (List.Sublist.cons_cons _ (List.Sublist.cons_cons _ (List.Sublist.cons_cons _ (List.Sublist.cons_cons _ (List.Sublist.cons _ (List.Sublist.cons _ (List.Sublist.refl _))))))))))))))))))))))))))))))))))) (gives_value _ fun _ => by kernel_rfl) ?_
  refine flow_take (i := 11) (.agg (c2 (⟨Fp.n (num l_13), Fp.n (num l_14)⟩ : F2))) (by rfl) (by kernel_rfl) (by kernel_rfl) (by kernel_rfl) (by rfl) (by kernel_rfl) (List.Sublist.cons_cons _ (List.Sublist.cons_cons _ (List.Sublist.cons_cons _ (List.Sublist.cons_cons _ (List.Sublist.cons_cons _ (List.Sublist.cons_cons _ (List.Sublist.cons_cons _ (List.Sublist.cons_cons _ (List.Sublist.cons_cons _ (List.Sublist.cons_cons _ (List.Sublist.cons_cons _ (List.Sublist.cons_cons _ (List.Sublist.cons_cons _ (List.Sublist.cons_cons _ (List.Sublist.cons_cons _ (List.Sublist.cons_cons _ (List.Sublist.cons_cons _ (List.Sublist.cons_cons _ (List.Sublist.cons_cons _ (List.Sublist.cons_cons _ (List.Sublist.cons_cons _ (List.Sublist.cons_cons _ (List.Sublist.cons_cons _ (List.Sublist.cons_cons _ (List.Sublist.cons_cons _ (List.Sublist.cons_cons _ (List.Sublist.cons_cons _ (List.Sublist.cons_cons _ (List.Sublist.cons_cons _ (List.Sublist.cons_cons _ (List.Sublist.cons_cons _ (List.Sublist.cons_cons _ (List.Sublist.cons _ (List.Sublist.cons _ (List.Sublist.refl _))))))))))))))))))))))))))))))))))) (gives_load g4 36 76 (joinA [(c2 (⟨Fp.n (num l_1), Fp.n (num l_2)⟩ : F2)), (c2 (⟨Fp.n (num l_5), Fp.n (num l_6)⟩ : F2)), (c2 (⟨Fp.n (num l_9), Fp.n (num l_10)⟩ : F2)), (c2 (⟨Fp.n (num l_13), Fp.n (num l_14)⟩ : F2)), (c2 (⟨Fp.n (num l_17), Fp.n (num l_18)⟩ : F2)), (c2 (⟨Fp.n (num l_21), Fp.n (num l_22)⟩ : F2))]) (c2 (⟨Fp.n (num l_13), Fp.n (num l_14)⟩ : F2)) _ (by rfl) (fun _ h => h.blk 30 (by rfl)) (sl_joinC 12 _ (by simp [c2_size]) 3 _ (by rfl) _ (by rfl)) Tryd.underlying36 (by rfl) (hi_2 _)) ?_
  refine flow_take (i := 12) (.pointer (some ⟨g4, 60, none⟩)) (by rfl) (by kernel_rfl) (by kernel_rfl) (by kernel_rfl) (by rfl) (by kernel_rfl) (List.Sublist.cons_cons _ (List.Sublist.cons_cons _ (List.Sublist.cons_cons _ (List.Sublist.cons_cons _ (List.Sublist.cons_cons _ (List.Sublist.cons_cons _ (List.Sublist.cons_cons _ (List.Sublist.cons_cons _ (List.Sublist.cons_cons _ (List.Sublist.cons_cons _ (List.Sublist.cons_cons _ (List.Sublist.cons_cons _ (List.Sublist.cons_cons _ (List.Sublist.cons_cons _ (List.Sublist.cons_cons _ (List.Sublist.cons_cons _ (List.Sublist.cons_cons _ (List.Sublist.cons_cons _ (List.Sublist.cons_cons _ (List.Sublist.cons_cons _ (List.Sublist.cons_cons _ (List.Sublist.cons_cons _ (List.Sublist.cons_cons _ (List.Sublist.cons_cons _ (List.Sublist.cons_cons _ (List.Sublist.cons_cons _ (List.Sublist.cons_cons _ (List.Sublist.cons_cons _ (List.Sublist.cons_cons _ (List.Sublist.cons_cons _ (List.Sublist.cons_cons _ (List.Sublist.cons_cons _ (List.Sublist.cons _ (List.Sublist.cons _ (List.Sublist.refl _))))))))))))))))))))))))))))))))))) (gives_value _ fun _ => by kernel_rfl) ?_
  refine flow_take (i := 13) (.agg (c2 (⟨Fp.n (num l_21), Fp.n (num l_22)⟩ : F2))) (by rfl) (by kernel_rfl) (by kernel_rfl) (by kernel_rfl) (by rfl) (by kernel_rfl) (List.Sublist.cons_cons _ (List.Sublist.cons_cons _ (List.Sublist.cons_cons _ (List.Sublist.cons_cons _ (List.Sublist.cons_cons _ (List.Sublist.cons_cons _ (List.Sublist.cons_cons _ (List.Sublist.cons_cons _ (List.Sublist.cons_cons _ (List.Sublist.cons_cons _ (List.Sublist.cons_cons _ (List.Sublist.cons_cons _ (List.Sublist.cons_cons _ (List.Sublist.cons_cons _ (List.Sublist.cons_cons _ (List.Sublist.cons_cons _ (List.Sublist.cons_cons _ (List.Sublist.cons_cons _ (List.Sublist.cons_cons _ (List.Sublist.cons_cons _ (List.Sublist.cons_cons _ (List.Sublist.cons_cons _ (List.Sublist.cons_cons _ (List.Sublist.cons_cons _ (List.Sublist.cons_cons _ (List.Sublist.cons_cons _ (List.Sublist.cons_cons _ (List.Sublist.cons_cons _ (List.Sublist.cons_cons _ (List.Sublist.cons_cons _ (List.Sublist.cons_cons _ (List.Sublist.cons_cons _ (List.Sublist.cons _ (List.Sublist.cons _ (List.Sublist.refl _))))))))))))))))))))))))))))))))))) (gives_load g4 60 76 (joinA [(c2 (⟨Fp.n (num l_1), Fp.n (num l_2)⟩ : F2)), (c2 (⟨Fp.n (num l_5), Fp.n (num l_6)⟩ : F2)), (c2 (⟨Fp.n (num l_9), Fp.n (num l_10)⟩ : F2)), (c2 (⟨Fp.n (num l_13), Fp.n (num l_14)⟩ : F2)), (c2 (⟨Fp.n (num l_17), Fp.n (num l_18)⟩ : F2)), (c2 (⟨Fp.n (num l_21), Fp.n (num l_22)⟩ : F2))]) (c2 (⟨Fp.n (num l_21), Fp.n (num l_22)⟩ : F2)) _ (by rfl) (fun _ h => h.blk 30 (by rfl)) (sl_joinC 12 _ (by simp [c2_size]) 5 _ (by rfl) _ (by rfl)) Tryd.underlying36 (by rfl) (hi_2 _)) ?_
  refine flow_take (i := 14) (.agg (c3 (⟨(⟨Fp.n (num l_5), Fp.n (num l_6)⟩ : F2), (⟨Fp.n (num l_13), Fp.n (num l_14)⟩ : F2), (⟨Fp.n (num l_21), Fp.n (num l_22)⟩ : F2)⟩ : C3))) (by rfl) (by kernel_rfl) (by kernel_rfl) (by kernel_rfl) (by rfl) (by kernel_rfl) (List.Sublist.cons_cons _ (List.Sublist.cons_cons _ (List.Sublist.cons_cons _ (List.Sublist.cons_cons _ (List.Sublist.cons_cons _ (List.Sublist.cons_cons _ (List.Sublist.cons_cons _ (List.Sublist.cons_cons _ (List.Sublist.cons_cons _ (List.Sublist.cons_cons _ (List.Sublist.cons_cons _ (List.Sublist.cons_cons _ (List.Sublist.cons_cons _ (List.Sublist.cons_cons _ (List.Sublist.cons_cons _ (List.Sublist.cons_cons _ (List.Sublist.cons_cons _ (List.Sublist.cons_cons _ (List.Sublist.cons_cons _ (List.Sublist.cons_cons _ (List.Sublist.cons_cons _ (List.Sublist.cons_cons _ (List.Sublist.cons_cons _ (List.Sublist.cons_cons _ (List.Sublist.cons_cons _ (List.Sublist.cons_cons _ (List.Sublist.cons_cons _ (List.Sublist.cons_cons _ (List.Sublist.cons_cons _ (List.Sublist.cons_cons _ (List.Sublist.cons_cons _ (List.Sublist.cons_cons _ (List.Sublist.cons _ (List.Sublist.cons _ (List.Sublist.refl _))))))))))))))))))))))))))))))))))) (gb_cubic [(0, (c2 (⟨Fp.n (num l_5), Fp.n (num l_6)⟩ : F2))), (1, (c2 (⟨Fp.n (num l_13), Fp.n (num l_14)⟩ : F2))), (2, (c2 (⟨Fp.n (num l_21), Fp.n (num l_22)⟩ : F2)))] ⟨congrArg some (c2_size _).symm, congrArg some (c2_size _).symm, congrArg some (c2_size _).symm, trivial⟩ (by rfl) (c3 (⟨(⟨Fp.n (num l_5), Fp.n (num l_6)⟩ : F2), (⟨Fp.n (num l_13), Fp.n (num l_14)⟩ : F2), (⟨Fp.n (num l_21), Fp.n (num l_22)⟩ : F2)⟩ : C3)) (by rfl)) ?_
  refine flow_take (i := 15) (.agg (c12 (⟨(⟨(⟨Fp.n (num l_1), Fp.n (num l_2)⟩ : F2), (⟨Fp.n (num l_9), Fp.n (num l_10)⟩ : F2), (⟨Fp.n (num l_17), Fp.n (num l_18)⟩ : F2)⟩ : C3), (⟨(⟨Fp.n (num l_5), Fp.n (num l_6)⟩ : F2), (⟨Fp.n (num l_13), Fp.n (num l_14)⟩ : F2), (⟨Fp.n (num l_21), Fp.n (num l_22)⟩ : F2)⟩ : C3)⟩ : T12))) (by rfl) (by kernel_rfl) (by kernel_rfl) (by kernel_rfl) (by rfl) (by kernel_rfl) (List.Sublist.cons_cons _ (List.Sublist.cons_cons _ (List.Sublist.cons_cons _ (List.Sublist.cons_cons _ (List.Sublist.cons_cons _ (List.Sublist.cons_cons _ (List.Sublist.cons_cons _ (List.Sublist.cons_cons _ (List.Sublist.cons_cons _ (List.Sublist.cons_cons _ (List.Sublist.cons_cons _ (List.Sublist.cons_cons _ (List.Sublist.cons_cons _ (List.Sublist.cons_cons _ (List.Sublist.cons_cons _ (List.Sublist.cons_cons _ (List.Sublist.cons_cons _ (List.Sublist.cons_cons _ (List.Sublist.cons_cons _ (List.Sublist.cons_cons _ (List.Sublist.cons_cons _ (List.Sublist.cons_cons _ (List.Sublist.cons_cons _ (List.Sublist.cons_cons _ (List.Sublist.cons_cons _ (List.Sublist.cons_cons _ (List.Sublist.cons_cons _ (List.Sublist.cons_cons _ (List.Sublist.cons_cons _ (List.Sublist.cons_cons _ (List.Sublist.cons_cons _ (List.Sublist.cons_cons _ (List.Sublist.cons _ (List.Sublist.cons _ (List.Sublist.refl _))))))))))))))))))))))))))))))))))) (gb_tower [(0, (c3 (⟨(⟨Fp.n (num l_1), Fp.n (num l_2)⟩ : F2), (⟨Fp.n (num l_9), Fp.n (num l_10)⟩ : F2), (⟨Fp.n (num l_17), Fp.n (num l_18)⟩ : F2)⟩ : C3))), (1, (c3 (⟨(⟨Fp.n (num l_5), Fp.n (num l_6)⟩ : F2), (⟨Fp.n (num l_13), Fp.n (num l_14)⟩ : F2), (⟨Fp.n (num l_21), Fp.n (num l_22)⟩ : F2)⟩ : C3)))] ⟨congrArg some (c3_size _).symm, congrArg some (c3_size _).symm, trivial⟩ (by rfl) (c12 (⟨(⟨(⟨Fp.n (num l_1), Fp.n (num l_2)⟩ : F2), (⟨Fp.n (num l_9), Fp.n (num l_10)⟩ : F2), (⟨Fp.n (num l_17), Fp.n (num l_18)⟩ : F2)⟩ : C3), (⟨(⟨Fp.n (num l_5), Fp.n (num l_6)⟩ : F2), (⟨Fp.n (num l_13), Fp.n (num l_14)⟩ : F2), (⟨Fp.n (num l_21), Fp.n (num l_22)⟩ : F2)⟩ : C3)⟩ : T12)) (by rfl)) ?_
  refine flow_one 16 (by kernel_rfl) ?_
  refine F_store (t := 47) 33 g1 (joinA [#[.slice none 0 0, .slice none 0 0], #[.slice none 0 0, .slice none 0 0], #[.slice none 0 0, .slice none 0 0], #[.slice none 0 0, .slice none 0 0], #[.slice none 0 0, .slice none 0 0], #[.slice none 0 0, .slice none 0 0]]) (joinA [#[.slice (some ⟨g7, 0, none⟩) 24 cap_3, .slice (some ⟨g8, 0, none⟩) 24 cap_3b], #[.slice (some ⟨g12, 0, none⟩) 24 cap_7, .slice (some ⟨g13, 0, none⟩) 24 cap_7b], #[.slice (some ⟨g17, 0, none⟩) 24 cap_11, .slice (some ⟨g18, 0, none⟩) 24 cap_11b], #[.slice (some ⟨g22, 0, none⟩) 24 cap_15, .slice (some ⟨g23, 0, none⟩) 24 cap_15b], #[.slice (some ⟨g27, 0, none⟩) 24 cap_19, .slice (some ⟨g28, 0, none⟩) 24 cap_19b], #[.slice (some ⟨g32, 0, none⟩) 24 cap_23, .slice (some ⟨g33, 0, none⟩) 24 cap_23b]]) (by rfl) (by rfl) (by rfl) (by rfl) (by rfl) (hi_a 2 _ _ (by kernel_rfl) (by simp) rfl) (sz_aa 2 _ _ (by simp) (by simp) rfl) (one_join _ (by intro a ha; simp only [List.mem_cons, List.not_mem_nil, or_false] at ha; rcases ha with rfl | rfl | rfl | rfl | rfl | rfl <;> exact one_N (by rfl) (by rfl))) (.inr (List.Sublist.cons_cons _ (List.Sublist.cons_cons _ (List.Sublist.cons_cons _ (List.Sublist.cons_cons _ (List.Sublist.cons_cons _ (List.Sublist.cons_cons _ (List.Sublist.cons_cons _ (List.Sublist.cons_cons _ (List.Sublist.cons_cons _ (List.Sublist.cons_cons _ (List.Sublist.cons_cons _ (List.Sublist.cons_cons _ (List.Sublist.cons_cons _ (List.Sublist.cons_cons _ (List.Sublist.cons_cons _ (List.Sublist.cons_cons _ (List.Sublist.cons_cons _ (List.Sublist.cons_cons _ (List.Sublist.cons_cons _ (List.Sublist.cons_cons _ (List.Sublist.cons_cons _ (List.Sublist.cons_cons _ (List.Sublist.cons_cons _ (List.Sublist.cons_cons _ (List.Sublist.cons_cons _ (List.Sublist.cons_cons _ (List.Sublist.cons_cons _ (List.Sublist.cons_cons _ (List.Sublist.cons_cons _ (List.Sublist.cons_cons _ (List.Sublist.cons_cons _ (List.Sublist.cons_cons _ (List.Sublist.cons _ (List.Sublist.cons _ (List.Sublist.refl _)))))))))))))))))))))))))))))))))))) ?_
  simp only [List.set_cons_zero, List.set_cons_succ]
  refine flow_one 17 (by kernel_rfl) ?_
  refine F_store (t := 51) 32 g2 (c12 (0 : T12)) (c12 (⟨(⟨(⟨Fp.n (num l_1), Fp.n (num l_2)⟩ : F2), (⟨Fp.n (num l_9), Fp.n (num l_10)⟩ : F2), (⟨Fp.n (num l_17), Fp.n (num l_18)⟩ : F2)⟩ : C3), (⟨(⟨Fp.n (num l_5), Fp.n (num l_6)⟩ : F2), (⟨Fp.n (num l_13), Fp.n (num l_14)⟩ : F2), (⟨Fp.n (num l_21), Fp.n (num l_22)⟩ : F2)⟩ : C3)⟩ : T12)) (by rfl) (by rfl) (by rfl) (by rfl) (by rfl) (hi_12 _) ((c12_size _).trans (c12_size _).symm) (c12_one _) (.inr (List.Sublist.cons_cons _ (List.Sublist.cons_cons _ (List.Sublist.cons_cons _ (List.Sublist.cons_cons _ (List.Sublist.cons_cons _ (List.Sublist.cons_cons _ (List.Sublist.cons_cons _ (List.Sublist.cons_cons _ (List.Sublist.cons_cons _ (List.Sublist.cons_cons _ (List.Sublist.cons_cons _ (List.Sublist.cons_cons _ (List.Sublist.cons_cons _ (List.Sublist.cons_cons _ (List.Sublist.cons_cons _ (List.Sublist.cons_cons _ (List.Sublist.cons_cons _ (List.Sublist.cons_cons _ (List.Sublist.cons_cons _ (List.Sublist.cons_cons _ (List.Sublist.cons_cons _ (List.Sublist.cons_cons _ (List.Sublist.cons_cons _ (List.Sublist.cons_cons _ (List.Sublist.cons_cons _ (List.Sublist.cons_cons _ (List.Sublist.cons_cons _ (List.Sublist.cons_cons _ (List.Sublist.cons_cons _ (List.Sublist.cons_cons _ (List.Sublist.cons_cons _ (List.Sublist.cons_cons _ (List.Sublist.cons _ (List.Sublist.cons _ (List.Sublist.refl _)))))))))))))))))))))))))))))))))))) ?_
  simp only [List.set_cons_zero, List.set_cons_succ]
  refine flow_done (by kernel_rfl) ?_
  intro w30 hw30
  refine wp_ret ?_
  change bodyPost _ _ _ Exit.ret _ _
  refine (ret_cell_cell (by rfl) (by rfl) (by rfl) (by rfl) (hw30.blk 33 (by rfl)) (hw30.blk 32 (by rfl)) Tryd.underlying47 (by rfl) (hi_a 2 _ _ (by kernel_rfl) (by simp) rfl) Tryd.underlying51 (by rfl) (hi_12 _) ⟨_, _, rfl, ⟨(joinC_size 2 _ (by simp)).trans rfl, (one_join _ (by intro a ha; simp only [List.mem_cons, List.not_mem_nil, or_false] at ha; rcases ha with rfl | rfl | rfl | rfl | rfl | rfl <;> exact one_N (by rfl) (by rfl)))⟩, hw30.below⟩)
set_option maxRecDepth 100000 in
set_option maxHeartbeats 4000000 in
theorem number_0 (A0 : Option Addr) (n0 c0 : Nat) (bs0 : List Int) (v : World) (hG : Glo v) (hr0 : Reads v v.heap.size A0 n0 (bs0.map (Value.int .u8))) (ho0 : Oct bs0) (hb0 : n0 ≤ 1099511627776) (h0 : n0 = 0) : Calls Tryd.prog 34 #[.slice A0 n0 c0] v fun e w' => ∃ (u : Array Value) (x : T12), e = .returned (.tuple #[.agg u, .agg (c12 x)]) ∧ (u.size = 12 ∧ u.all (·.oneCell') = true) ∧ Below v.heap.size v w' := by
  refine calls_fr1 Tryd.func34 rfl (by rfl : _ = 49) (by rfl) ?_
  have hw := Hbl.nil v
  refine seq_plain hw [0, 1] (by rfl) ?_
  refine L_alloc _ (by rfl) (by rfl) z_aN (joinA [#[.slice none 0 0, .slice none 0 0], #[.slice none 0 0, .slice none 0 0], #[.slice none 0 0, .slice none 0 0], #[.slice none 0 0, .slice none 0 0], #[.slice none 0 0, .slice none 0 0], #[.slice none 0 0, .slice none 0 0]]) rfl ?_; intro g1
  refine L_alloc _ (by rfl) (by rfl) z_12 (c12 (0 : T12)) rfl ?_; intro g2
  refine L_end ?_
  intro w1 hw1
  refine seq_plain hw1 [0] (by rfl) ?_
  refine L_alloc _ (by rfl) (by rfl) z_aN (joinA [#[.slice none 0 0, .slice none 0 0], #[.slice none 0 0, .slice none 0 0], #[.slice none 0 0, .slice none 0 0], #[.slice none 0 0, .slice none 0 0], #[.slice none 0 0, .slice none 0 0], #[.slice none 0 0, .slice none 0 0]]) rfl ?_; intro g3
  refine L_end ?_
  intro w2 hw2
  refine seq_plain hw2 [0] (by rfl) ?_
  refine L_alloc _ (by rfl) (by rfl) z_a2 (joinA [(c2 (0 : F2)), (c2 (0 : F2)), (c2 (0 : F2)), (c2 (0 : F2)), (c2 (0 : F2)), (c2 (0 : F2))]) rfl ?_; intro g4
  refine L_end ?_
  intro w3 hw3
  refine wp_seq ?_
  refine seq_plain hw3 [0] (by rfl) ?_
  refine L_val (.int .i64 0) (by rfl) (by rfl) (gives_value _ fun _ => by rfl) ?_
  refine L_end ?_
  intro w4 hw4
  refine wp_block ?_
  refine rounds_first 6 ?_
  refine wp_seq ?_
  refine seq_plain hw4 [0, 1] (by rfl) ?_
  refine L_val (.int .i64 0) (by rfl) (by rfl) (gives_value _ fun _ => by rfl) ?_
  refine L_val (.bool true) (by rfl) (by rfl) (gives_lss (k := .i64) 0 6 true (by rfl) (by rfl) (by rfl)) ?_
  refine L_end ?_
  intro w5 hw5
  refine wp_cond_true (fr_at _ _ (by rfl) _) ?_
  refine wp_skip ?_
  change Code.wp _ _ _ _ _
  refine wp_seq ?_
  refine wp_block ?_
  refine seq_plain hw5 [0, 1, 2, 3, 4, 5, 6, 7, 8, 9, 10, 11, 12] (by rfl) ?_
  refine L_val (.int .i64 0) (by rfl) (by rfl) (gives_value _ fun _ => by rfl) ?_
  refine L_val (.slice A0 n0 c0) (by rfl) (by rfl) (gives_value _ fun _ => by rfl) ?_
  refine L_val (.int .i64 0) (by rfl) (by rfl) (gives_value _ fun _ => by rfl) ?_
  refine L_val (.int .i64 0) (by rfl) (by rfl) (gives_mul (k := .i64) 2 0 0 (by rfl) (by rfl) (by rfl)) ?_
  refine L_freshX (vl := [.slice A0 n0 c0, .int .i64 0]) 5 (fun g cap => .slice (some ⟨g, 0, none⟩) 0 cap) (fun cap cs => ∃ l, BB cs cap 0 l ∧ Oct l) (by rfl) (by rfl) Want.none (by kernel_rfl) (by rfl)  (fun w h => part_0 A0 n0 c0 bs0 0 w ((hr0.below h.below).more h.below.size) ho0 hb0 h0 (by omega)) ?_; intro g5 cap_1 cs_1 hq_1
  obtain ⟨l_1, hbb_1, hol_1⟩ := hq_1
  refine L_val (.slice A0 n0 c0) (by rfl) (by rfl) (gives_value _ fun _ => by rfl) ?_
  refine L_val (.int .i64 0) (by rfl) (by rfl) (gives_value _ fun _ => by rfl) ?_
  refine L_val (.int .i64 0) (by rfl) (by rfl) (gives_mul (k := .i64) 2 0 0 (by rfl) (by rfl) (by rfl)) ?_
  refine L_val (.int .i64 1) (by rfl) (by rfl) (gives_add (k := .i64) 0 1 1 (by rfl) (by rfl) (by rfl)) ?_
  refine L_freshX (vl := [.slice A0 n0 c0, .int .i64 1]) 5 (fun g cap => .slice (some ⟨g, 0, none⟩) 0 cap) (fun cap cs => ∃ l, BB cs cap 0 l ∧ Oct l) (by rfl) (by rfl) Want.none (by kernel_rfl) (by rfl)  (fun w h => part_0 A0 n0 c0 bs0 1 w ((hr0.below h.below).more h.below.size) ho0 hb0 h0 (by omega)) ?_; intro g6 cap_2 cs_2 hq_2
  obtain ⟨l_2, hbb_2, hol_2⟩ := hq_2
  refine L_freshY (vl := [.slice (some ⟨g5, 0, none⟩) 0 cap_1, .slice (some ⟨g6, 0, none⟩) 0 cap_2]) 64 64 (fun g cap g2 cap2 => .agg #[.slice (some ⟨g, 0, none⟩) 24 cap, .slice (some ⟨g2, 0, none⟩) 24 cap2]) (fun cap cs cap2 cs2 => WB cs cap 24 ((⟨Fp.n (num l_1), Fp.n (num l_2)⟩ : F2).a.val : Int) ∧ WB cs2 cap2 24 ((⟨Fp.n (num l_1), Fp.n (num l_2)⟩ : F2).b.val : Int)) (by rfl) (by rfl) Want.none (by kernel_rfl) (by rfl)  (fun w h => l5_of _ _ _ l_1 _ _ _ l_2 w (hbb_1.reads (h.blk 1 (by rfl))) hol_1 (hbb_2.reads (h.blk 0 (by rfl))) hol_2 (by omega) (by omega)) ?_; intro g7 cap_3 cs_3 g8 cap_3b cs_3b hq_3; obtain ⟨hwb_3, hwb_3b⟩ := hq_3
  refine L_val (.pointer (some ⟨g3, 0, none⟩)) (by rfl) (by rfl) (gives_value _ fun _ => by kernel_rfl) ?_
  refine L_storeA (t := 47) 5 g3 0 (joinA [#[.slice none 0 0, .slice none 0 0], #[.slice none 0 0, .slice none 0 0], #[.slice none 0 0, .slice none 0 0], #[.slice none 0 0, .slice none 0 0], #[.slice none 0 0, .slice none 0 0], #[.slice none 0 0, .slice none 0 0]]) #[.slice (some ⟨g7, 0, none⟩) 24 cap_3, .slice (some ⟨g8, 0, none⟩) 24 cap_3b] (joinA [#[.slice (some ⟨g7, 0, none⟩) 24 cap_3, .slice (some ⟨g8, 0, none⟩) 24 cap_3b], #[.slice none 0 0, .slice none 0 0], #[.slice none 0 0, .slice none 0 0], #[.slice none 0 0, .slice none 0 0], #[.slice none 0 0, .slice none 0 0], #[.slice none 0 0, .slice none 0 0]]) (by rfl) (by rfl) (by rfl) (by rfl) (by rfl) (hi_NN _ _) (by rw [joinC_size 2 _ (by simp)]; simp) (one_N (by rfl) (by rfl)) (spliceC' 2 _ (by simp) 0 _ (by rfl) (by simp) _ (by rfl) _ (by rfl)) ?_
  simp only [List.set_cons_zero, List.set_cons_succ]
  refine L_end ?_
  intro w6 hw6
  refine one_plain hw6 [0, 1, 2, 3, 4, 5, 6, 7, 8, 9, 10] (by rfl) ?_
  refine L_val (.int .i64 0) (by rfl) (by rfl) (gives_value _ fun _ => by rfl) ?_
  refine L_val (.int .i64 0) (by rfl) (by rfl) (gives_value _ fun _ => by rfl) ?_
  refine L_val (.pointer (some ⟨g3, 0, none⟩)) (by rfl) (by rfl) (gives_value _ fun _ => by kernel_rfl) ?_
  refine L_val (.agg #[.slice (some ⟨g7, 0, none⟩) 24 cap_3, .slice (some ⟨g8, 0, none⟩) 24 cap_3b]) (by rfl) (by rfl) (gives_load g3 0 47 (joinA [#[.slice (some ⟨g7, 0, none⟩) 24 cap_3, .slice (some ⟨g8, 0, none⟩) 24 cap_3b], #[.slice none 0 0, .slice none 0 0], #[.slice none 0 0, .slice none 0 0], #[.slice none 0 0, .slice none 0 0], #[.slice none 0 0, .slice none 0 0], #[.slice none 0 0, .slice none 0 0]]) #[.slice (some ⟨g7, 0, none⟩) 24 cap_3, .slice (some ⟨g8, 0, none⟩) 24 cap_3b] _ (by rfl) (fun _ h => h.blk 5 (by rfl)) (sl_joinC 2 _ (by simp) 0 _ (by rfl) _ (by rfl)) Tryd.underlying45 (by rfl) (hi_NN _ _)) ?_
  refine L_freshX (vl := [.agg #[.slice (some ⟨g7, 0, none⟩) 24 cap_3, .slice (some ⟨g8, 0, none⟩) 24 cap_3b]]) 5 (fun g cap => .slice (some ⟨g, 0, none⟩) (48 + 48) cap) (fun cap cs => BB cs cap (48 + 48) (lo ((⟨Fp.n (num l_1), Fp.n (num l_2)⟩ : F2).b.val : Int) 48 ++ lo ((⟨Fp.n (num l_1), Fp.n (num l_2)⟩ : F2).a.val : Int) 48)) (by rfl) (by rfl) Want.none (by kernel_rfl) (by rfl)  (fun w h => l5_bytes (⟨Fp.n (num l_1), Fp.n (num l_2)⟩ : F2) _ _ _ _ _ _ w (hwb_3.num (h.blk 0 (by rfl)) (fv_rng _) (by omega)) (hwb_3b.num (h.blk 1 (by rfl)) (fv_rng _) (by omega)) (by omega) (by omega)) ?_; intro g9 cap_4 cs_4 hq_4
  refine L_val (.tuple #[.agg (c2 (⟨Fp.n (num l_1), Fp.n (num l_2)⟩ : F2)), .int .i64 0]) (by rfl) (by rfl) (gives_call (vl := [.slice (some ⟨g9, 0, none⟩) (48 + 48) cap_4]) (by kernel_rfl) (by rfl) (fun w h => read5 (⟨Fp.n (num l_1), Fp.n (num l_2)⟩ : F2) _ _ w (hG.keep h.below) (hq_4.reads (h.blk 0 (by rfl))) (by have := hq_4.le; omega))) ?_
  refine L_val (.tuple #[.agg (c2 (⟨Fp.n (num l_1), Fp.n (num l_2)⟩ : F2)), .int .i64 0]) (by rfl) (by rfl) (gives_value _ fun _ => by rfl) ?_
  refine L_val (.agg (c2 (⟨Fp.n (num l_1), Fp.n (num l_2)⟩ : F2))) (by rfl) (by rfl) (gives_value _ fun _ => by kernel_rfl) ?_
  refine L_val (.int .i64 0) (by rfl) (by rfl) (gives_value _ fun _ => by kernel_rfl) ?_
  refine L_val (.pointer (some ⟨g4, 0, none⟩)) (by rfl) (by rfl) (gives_value _ fun _ => by kernel_rfl) ?_
  refine L_storeA (t := 76) 5 g4 0 (joinA [(c2 (0 : F2)), (c2 (0 : F2)), (c2 (0 : F2)), (c2 (0 : F2)), (c2 (0 : F2)), (c2 (0 : F2))]) (c2 (⟨Fp.n (num l_1), Fp.n (num l_2)⟩ : F2)) (joinA [(c2 (⟨Fp.n (num l_1), Fp.n (num l_2)⟩ : F2)), (c2 (0 : F2)), (c2 (0 : F2)), (c2 (0 : F2)), (c2 (0 : F2)), (c2 (0 : F2))]) (by rfl) (by rfl) (by rfl) (by rfl) (by rfl) (hi_2 _) (by rw [joinC_size 12 _ (by simp [c2_size]), c2_size]; simp) (c2_one _) (spliceC' 12 _ (by simp [c2_size]) 0 _ (c2_size _) (by simp) _ (by rfl) _ (by rfl)) ?_
  simp only [List.set_cons_zero, List.set_cons_succ]
  refine L_end ?_
  intro w7 hw7
  change Code.wp _ _ _ _ _
  refine one_plain hw7 [0, 1, 2] (by rfl) ?_
  refine L_val (.int .i64 0) (by rfl) (by rfl) (gives_value _ fun _ => by rfl) ?_
  refine L_val (.int .i64 1) (by rfl) (by rfl) (gives_add (k := .i64) 0 1 1 (by rfl) (by rfl) (by rfl)) ?_
  refine L_val (.int .i64 1) (by rfl) (by rfl) (gives_value _ fun _ => by rfl) ?_
  refine L_end ?_
  intro w8 hw8
  refine rounds_next ?_
  refine wp_seq ?_
  refine seq_plain hw8 [0, 1] (by rfl) ?_
  refine L_val (.int .i64 1) (by rfl) (by rfl) (gives_value _ fun _ => by rfl) ?_
  refine L_val (.bool true) (by rfl) (by rfl) (gives_lss (k := .i64) 1 6 true (by rfl) (by rfl) (by rfl)) ?_
  refine L_end ?_
  intro w9 hw9
  refine wp_cond_true (fr_at _ _ (by rfl) _) ?_
  refine wp_skip ?_
  change Code.wp _ _ _ _ _
  refine wp_seq ?_
  refine wp_block ?_
  refine seq_plain hw9 [0, 1, 2, 3, 4, 5, 6, 7, 8, 9, 10, 11, 12] (by rfl) ?_
  refine L_val (.int .i64 1) (by rfl) (by rfl) (gives_value _ fun _ => by rfl) ?_
  refine L_val (.slice A0 n0 c0) (by rfl) (by rfl) (gives_value _ fun _ => by rfl) ?_
  refine L_val (.int .i64 1) (by rfl) (by rfl) (gives_value _ fun _ => by rfl) ?_
  refine L_val (.int .i64 2) (by rfl) (by rfl) (gives_mul (k := .i64) 2 1 2 (by rfl) (by rfl) (by rfl)) ?_
  refine L_freshX (vl := [.slice A0 n0 c0, .int .i64 2]) 5 (fun g cap => .slice (some ⟨g, 0, none⟩) 0 cap) (fun cap cs => ∃ l, BB cs cap 0 l ∧ Oct l) (by rfl) (by rfl) Want.none (by kernel_rfl) (by rfl)  (fun w h => part_0 A0 n0 c0 bs0 2 w ((hr0.below h.below).more h.below.size) ho0 hb0 h0 (by omega)) ?_; intro g10 cap_5 cs_5 hq_5
  obtain ⟨l_5, hbb_5, hol_5⟩ := hq_5
  refine L_val (.slice A0 n0 c0) (by rfl) (by rfl) (gives_value _ fun _ => by rfl) ?_
  refine L_val (.int .i64 1) (by rfl) (by rfl) (gives_value _ fun _ => by rfl) ?_
  refine L_val (.int .i64 2) (by rfl) (by rfl) (gives_mul (k := .i64) 2 1 2 (by rfl) (by rfl) (by rfl)) ?_
  refine L_val (.int .i64 3) (by rfl) (by rfl) (gives_add (k := .i64) 2 1 3 (by rfl) (by rfl) (by rfl)) ?_
  refine L_freshX (vl := [.slice A0 n0 c0, .int .i64 3]) 5 (fun g cap => .slice (some ⟨g, 0, none⟩) 0 cap) (fun cap cs => ∃ l, BB cs cap 0 l ∧ Oct l) (by rfl) (by rfl) Want.none (by kernel_rfl) (by rfl)  (fun w h => part_0 A0 n0 c0 bs0 3 w ((hr0.below h.below).more h.below.size) ho0 hb0 h0 (by omega)) ?_; intro g11 cap_6 cs_6 hq_6
  obtain ⟨l_6, hbb_6, hol_6⟩ := hq_6
  refine L_freshY (vl := [.slice (some ⟨g10, 0, none⟩) 0 cap_5, .slice (some ⟨g11, 0, none⟩) 0 cap_6]) 64 64 (fun g cap g2 cap2 => .agg #[.slice (some ⟨g, 0, none⟩) 24 cap, .slice (some ⟨g2, 0, none⟩) 24 cap2]) (fun cap cs cap2 cs2 => WB cs cap 24 ((⟨Fp.n (num l_5), Fp.n (num l_6)⟩ : F2).a.val : Int) ∧ WB cs2 cap2 24 ((⟨Fp.n (num l_5), Fp.n (num l_6)⟩ : F2).b.val : Int)) (by rfl) (by rfl) Want.none (by kernel_rfl) (by rfl)  (fun w h => l5_of _ _ _ l_5 _ _ _ l_6 w (hbb_5.reads (h.blk 1 (by rfl))) hol_5 (hbb_6.reads (h.blk 0 (by rfl))) hol_6 (by omega) (by omega)) ?_; intro g12 cap_7 cs_7 g13 cap_7b cs_7b hq_7; obtain ⟨hwb_7, hwb_7b⟩ := hq_7
  refine L_val (.pointer (some ⟨g3, 2, none⟩)) (by rfl) (by rfl) (gives_value _ fun _ => by kernel_rfl) ?_
  refine L_storeA (t := 47) 10 g3 2 (joinA [#[.slice (some ⟨g7, 0, none⟩) 24 cap_3, .slice (some ⟨g8, 0, none⟩) 24 cap_3b], #[.slice none 0 0, .slice none 0 0], #[.slice none 0 0, .slice none 0 0], #[.slice none 0 0, .slice none 0 0], #[.slice none 0 0, .slice none 0 0], #[.slice none 0 0, .slice none 0 0]]) #[.slice (some ⟨g12, 0, none⟩) 24 cap_7, .slice (some ⟨g13, 0, none⟩) 24 cap_7b] (joinA [#[.slice (some ⟨g7, 0, none⟩) 24 cap_3, .slice (some ⟨g8, 0, none⟩) 24 cap_3b], #[.slice (some ⟨g12, 0, none⟩) 24 cap_7, .slice (some ⟨g13, 0, none⟩) 24 cap_7b], #[.slice none 0 0, .slice none 0 0], #[.slice none 0 0, .slice none 0 0], #[.slice none 0 0, .slice none 0 0], #[.slice none 0 0, .slice none 0 0]]) (by rfl) (by rfl) (by rfl) (by rfl) (by rfl) (hi_NN _ _) (by rw [joinC_size 2 _ (by simp)]; simp) (one_N (by rfl) (by rfl)) (spliceC' 2 _ (by simp) 1 _ (by rfl) (by simp) _ (by rfl) _ (by rfl)) ?_
  simp only [List.set_cons_zero, List.set_cons_succ]
  refine L_end ?_
  intro w10 hw10
  refine one_plain hw10 [0, 1, 2, 3, 4, 5, 6, 7, 8, 9, 10] (by rfl) ?_
  refine L_val (.int .i64 1) (by rfl) (by rfl) (gives_value _ fun _ => by rfl) ?_
  refine L_val (.int .i64 1) (by rfl) (by rfl) (gives_value _ fun _ => by rfl) ?_
  refine L_val (.pointer (some ⟨g3, 2, none⟩)) (by rfl) (by rfl) (gives_value _ fun _ => by kernel_rfl) ?_
  refine L_val (.agg #[.slice (some ⟨g12, 0, none⟩) 24 cap_7, .slice (some ⟨g13, 0, none⟩) 24 cap_7b]) (by rfl) (by rfl) (gives_load g3 2 47 (joinA [#[.slice (some ⟨g7, 0, none⟩) 24 cap_3, .slice (some ⟨g8, 0, none⟩) 24 cap_3b], #[.slice (some ⟨g12, 0, none⟩) 24 cap_7, .slice (some ⟨g13, 0, none⟩) 24 cap_7b], #[.slice none 0 0, .slice none 0 0], #[.slice none 0 0, .slice none 0 0], #[.slice none 0 0, .slice none 0 0], #[.slice none 0 0, .slice none 0 0]]) #[.slice (some ⟨g12, 0, none⟩) 24 cap_7, .slice (some ⟨g13, 0, none⟩) 24 cap_7b] _ (by rfl) (fun _ h => h.blk 10 (by rfl)) (sl_joinC 2 _ (by simp) 1 _ (by rfl) _ (by rfl)) Tryd.underlying45 (by rfl) (hi_NN _ _)) ?_
  refine L_freshX (vl := [.agg #[.slice (some ⟨g12, 0, none⟩) 24 cap_7, .slice (some ⟨g13, 0, none⟩) 24 cap_7b]]) 5 (fun g cap => .slice (some ⟨g, 0, none⟩) (48 + 48) cap) (fun cap cs => BB cs cap (48 + 48) (lo ((⟨Fp.n (num l_5), Fp.n (num l_6)⟩ : F2).b.val : Int) 48 ++ lo ((⟨Fp.n (num l_5), Fp.n (num l_6)⟩ : F2).a.val : Int) 48)) (by rfl) (by rfl) Want.none (by kernel_rfl) (by rfl)  (fun w h => l5_bytes (⟨Fp.n (num l_5), Fp.n (num l_6)⟩ : F2) _ _ _ _ _ _ w (hwb_7.num (h.blk 0 (by rfl)) (fv_rng _) (by omega)) (hwb_7b.num (h.blk 1 (by rfl)) (fv_rng _) (by omega)) (by omega) (by omega)) ?_; intro g14 cap_8 cs_8 hq_8
  refine L_val (.tuple #[.agg (c2 (⟨Fp.n (num l_5), Fp.n (num l_6)⟩ : F2)), .int .i64 0]) (by rfl) (by rfl) (gives_call (vl := [.slice (some ⟨g14, 0, none⟩) (48 + 48) cap_8]) (by kernel_rfl) (by rfl) (fun w h => read5 (⟨Fp.n (num l_5), Fp.n (num l_6)⟩ : F2) _ _ w (hG.keep h.below) (hq_8.reads (h.blk 0 (by rfl))) (by have := hq_8.le; omega))) ?_
  refine L_val (.tuple #[.agg (c2 (⟨Fp.n (num l_5), Fp.n (num l_6)⟩ : F2)), .int .i64 0]) (by rfl) (by rfl) (gives_value _ fun _ => by rfl) ?_
  refine L_val (.agg (c2 (⟨Fp.n (num l_5), Fp.n (num l_6)⟩ : F2))) (by rfl) (by rfl) (gives_value _ fun _ => by kernel_rfl) ?_
  refine L_val (.int .i64 0) (by rfl) (by rfl) (gives_value _ fun _ => by kernel_rfl) ?_
  refine L_val (.pointer (some ⟨g4, 12, none⟩)) (by rfl) (by rfl) (gives_value _ fun _ => by kernel_rfl) ?_
  refine L_storeA (t := 76) 10 g4 12 (joinA [(c2 (⟨Fp.n (num l_1), Fp.n (num l_2)⟩ : F2)), (c2 (0 : F2)), (c2 (0 : F2)), (c2 (0 : F2)), (c2 (0 : F2)), (c2 (0 : F2))]) (c2 (⟨Fp.n (num l_5), Fp.n (num l_6)⟩ : F2)) (joinA [(c2 (⟨Fp.n (num l_1), Fp.n (num l_2)⟩ : F2)), (c2 (⟨Fp.n (num l_5), Fp.n (num l_6)⟩ : F2)), (c2 (0 : F2)), (c2 (0 : F2)), (c2 (0 : F2)), (c2 (0 : F2))]) (by rfl) (by rfl) (by rfl) (by rfl) (by rfl) (hi_2 _) (by rw [joinC_size 12 _ (by simp [c2_size]), c2_size]; simp) (c2_one _) (spliceC' 12 _ (by simp [c2_size]) 1 _ (c2_size _) (by simp) _ (by rfl) _ (by rfl)) ?_
  simp only [List.set_cons_zero, List.set_cons_succ]
  refine L_end ?_
  intro w11 hw11
  change Code.wp _ _ _ _ _
  refine one_plain hw11 [0, 1, 2] (by rfl) ?_
  refine L_val (.int .i64 1) (by rfl) (by rfl) (gives_value _ fun _ => by rfl) ?_
  refine L_val (.int .i64 2) (by rfl) (by rfl) (gives_add (k := .i64) 1 1 2 (by rfl) (by rfl) (by rfl)) ?_
  refine L_val (.int .i64 2) (by rfl) (by rfl) (gives_value _ fun _ => by rfl) ?_
  refine L_end ?_
  intro w12 hw12
  refine rounds_next ?_
  refine wp_seq ?_
  refine seq_plain hw12 [0, 1] (by rfl) ?_
  refine L_val (.int .i64 2) (by rfl) (by rfl) (gives_value _ fun _ => by rfl) ?_
  refine L_val (.bool true) (by rfl) (by rfl) (gives_lss (k := .i64) 2 6 true (by rfl) (by rfl) (by rfl)) ?_
  refine L_end ?_
  intro w13 hw13
  refine wp_cond_true (fr_at _ _ (by rfl) _) ?_
  refine wp_skip ?_
  change Code.wp _ _ _ _ _
  refine wp_seq ?_
  refine wp_block ?_
  refine seq_plain hw13 [0, 1, 2, 3, 4, 5, 6, 7, 8, 9, 10, 11, 12] (by rfl) ?_
  refine L_val (.int .i64 2) (by rfl) (by rfl) (gives_value _ fun _ => by rfl) ?_
  refine L_val (.slice A0 n0 c0) (by rfl) (by rfl) (gives_value _ fun _ => by rfl) ?_
  refine L_val (.int .i64 2) (by rfl) (by rfl) (gives_value _ fun _ => by rfl) ?_
  refine L_val (.int .i64 4) (by rfl) (by rfl) (gives_mul (k := .i64) 2 2 4 (by rfl) (by rfl) (by rfl)) ?_
  refine L_freshX (vl := [.slice A0 n0 c0, .int .i64 4]) 5 (fun g cap => .slice (some ⟨g, 0, none⟩) 0 cap) (fun cap cs => ∃ l, BB cs cap 0 l ∧ Oct l) (by rfl) (by rfl) Want.none (by kernel_rfl) (by rfl)  (fun w h => part_0 A0 n0 c0 bs0 4 w ((hr0.below h.below).more h.below.size) ho0 hb0 h0 (by omega)) ?_; intro g15 cap_9 cs_9 hq_9
  obtain ⟨l_9, hbb_9, hol_9⟩ := hq_9
  refine L_val (.slice A0 n0 c0) (by rfl) (by rfl) (gives_value _ fun _ => by rfl) ?_
  refine L_val (.int .i64 2) (by rfl) (by rfl) (gives_value _ fun _ => by rfl) ?_
  refine L_val (.int .i64 4) (by rfl) (by rfl) (gives_mul (k := .i64) 2 2 4 (by rfl) (by rfl) (by rfl)) ?_
  refine L_val (.int .i64 5) (by rfl) (by rfl) (gives_add (k := .i64) 4 1 5 (by rfl) (by rfl) (by rfl)) ?_
  refine L_freshX (vl := [.slice A0 n0 c0, .int .i64 5]) 5 (fun g cap => .slice (some ⟨g, 0, none⟩) 0 cap) (fun cap cs => ∃ l, BB cs cap 0 l ∧ Oct l) (by rfl) (by rfl) Want.none (by kernel_rfl) (by rfl)  (fun w h => part_0 A0 n0 c0 bs0 5 w ((hr0.below h.below).more h.below.size) ho0 hb0 h0 (by omega)) ?_; intro g16 cap_10 cs_10 hq_10
  obtain ⟨l_10, hbb_10, hol_10⟩ := hq_10
  refine L_freshY (vl := [.slice (some ⟨g15, 0, none⟩) 0 cap_9, .slice (some ⟨g16, 0, none⟩) 0 cap_10]) 64 64 (fun g cap g2 cap2 => .agg #[.slice (some ⟨g, 0, none⟩) 24 cap, .slice (some ⟨g2, 0, none⟩) 24 cap2]) (fun cap cs cap2 cs2 => WB cs cap 24 ((⟨Fp.n (num l_9), Fp.n (num l_10)⟩ : F2).a.val : Int) ∧ WB cs2 cap2 24 ((⟨Fp.n (num l_9), Fp.n (num l_10)⟩ : F2).b.val : Int)) (by rfl) (by rfl) Want.none (by kernel_rfl) (by rfl)  (fun w h => l5_of _ _ _ l_9 _ _ _ l_10 w (hbb_9.reads (h.blk 1 (by rfl))) hol_9 (hbb_10.reads (h.blk 0 (by rfl))) hol_10 (by omega) (by omega)) ?_; intro g17 cap_11 cs_11 g18 cap_11b cs_11b hq_11; obtain ⟨hwb_11, hwb_11b⟩ := hq_11
  refine L_val (.pointer (some ⟨g3, 4, none⟩)) (by rfl) (by rfl) (gives_value _ fun _ => by kernel_rfl) ?_
  refine L_storeA (t := 47) 15 g3 4 (joinA [#[.slice (some ⟨g7, 0, none⟩) 24 cap_3, .slice (some ⟨g8, 0, none⟩) 24 cap_3b], #[.slice (some ⟨g12, 0, none⟩) 24 cap_7, .slice (some ⟨g13, 0, none⟩) 24 cap_7b], #[.slice none 0 0, .slice none 0 0], #[.slice none 0 0, .slice none 0 0], #[.slice none 0 0, .slice none 0 0], #[.slice none 0 0, .slice none 0 0]]) #[.slice (some ⟨g17, 0, none⟩) 24 cap_11, .slice (some ⟨g18, 0, none⟩) 24 cap_11b] (joinA [#[.slice (some ⟨g7, 0, none⟩) 24 cap_3, .slice (some ⟨g8, 0, none⟩) 24 cap_3b], #[.slice (some ⟨g12, 0, none⟩) 24 cap_7, .slice (some ⟨g13, 0, none⟩) 24 cap_7b], #[.slice (some ⟨g17, 0, none⟩) 24 cap_11, .slice (some ⟨g18, 0, none⟩) 24 cap_11b], #[.slice none 0 0, .slice none 0 0], #[.slice none 0 0, .slice none 0 0], #[.slice none 0 0, .slice none 0 0]]) (by rfl) (by rfl) (by rfl) (by rfl) (by rfl) (hi_NN _ _) (by rw [joinC_size 2 _ (by simp)]; simp) (one_N (by rfl) (by rfl)) (spliceC' 2 _ (by simp) 2 _ (by rfl) (by simp) _ (by rfl) _ (by rfl)) ?_
  simp only [List.set_cons_zero, List.set_cons_succ]
  refine L_end ?_
  intro w14 hw14
  refine one_plain hw14 [0, 1, 2, 3, 4, 5, 6, 7, 8, 9, 10] (by rfl) ?_
  refine L_val (.int .i64 2) (by rfl) (by rfl) (gives_value _ fun _ => by rfl) ?_
  refine L_val (.int .i64 2) (by rfl) (by rfl) (gives_value _ fun _ => by rfl) ?_
  refine L_val (.pointer (some ⟨g3, 4, none⟩)) (by rfl) (by rfl) (gives_value _ fun _ => by kernel_rfl) ?_
  refine L_val (.agg #[.slice (some ⟨g17, 0, none⟩) 24 cap_11, .slice (some ⟨g18, 0, none⟩) 24 cap_11b]) (by rfl) (by rfl) (gives_load g3 4 47 (joinA [#[.slice (some ⟨g7, 0, none⟩) 24 cap_3, .slice (some ⟨g8, 0, none⟩) 24 cap_3b], #[.slice (some ⟨g12, 0, none⟩) 24 cap_7, .slice (some ⟨g13, 0, none⟩) 24 cap_7b], #[.slice (some ⟨g17, 0, none⟩) 24 cap_11, .slice (some ⟨g18, 0, none⟩) 24 cap_11b], #[.slice none 0 0, .slice none 0 0], #[.slice none 0 0, .slice none 0 0], #[.slice none 0 0, .slice none 0 0]]) #[.slice (some ⟨g17, 0, none⟩) 24 cap_11, .slice (some ⟨g18, 0, none⟩) 24 cap_11b] _ (by rfl) (fun _ h => h.blk 15 (by rfl)) (sl_joinC 2 _ (by simp) 2 _ (by rfl) _ (by rfl)) Tryd.underlying45 (by rfl) (hi_NN _ _)) ?_
  refine L_freshX (vl := [.agg #[.slice (some ⟨g17, 0, none⟩) 24 cap_11, .slice (some ⟨g18, 0, none⟩) 24 cap_11b]]) 5 (fun g cap => .slice (some ⟨g, 0, none⟩) (48 + 48) cap) (fun cap cs => BB cs cap (48 + 48) (lo ((⟨Fp.n (num l_9), Fp.n (num l_10)⟩ : F2).b.val : Int) 48 ++ lo ((⟨Fp.n (num l_9), Fp.n (num l_10)⟩ : F2).a.val : Int) 48)) (by rfl) (by rfl) Want.none (by kernel_rfl) (by rfl)  (fun w h => l5_bytes (⟨Fp.n (num l_9), Fp.n (num l_10)⟩ : F2) _ _ _ _ _ _ w (hwb_11.num (h.blk 0 (by rfl)) (fv_rng _) (by omega)) (hwb_11b.num (h.blk 1 (by rfl)) (fv_rng _) (by omega)) (by omega) (by omega)) ?_; intro g19 cap_12 cs_12 hq_12
  refine L_val (.tuple #[.agg (c2 (⟨Fp.n (num l_9), Fp.n (num l_10)⟩ : F2)), .int .i64 0]) (by rfl) (by rfl) (gives_call (vl := [.slice (some ⟨g19, 0, none⟩) (48 + 48) cap_12]) (by kernel_rfl) (by rfl) (fun w h => read5 (⟨Fp.n (num l_9), Fp.n (num l_10)⟩ : F2) _ _ w (hG.keep h.below) (hq_12.reads (h.blk 0 (by rfl))) (by have := hq_12.le; omega))) ?_
  refine L_val (.tuple #[.agg (c2 (⟨Fp.n (num l_9), Fp.n (num l_10)⟩ : F2)), .int .i64 0]) (by rfl) (by rfl) (gives_value _ fun _ => by rfl) ?_
  refine L_val (.agg (c2 (⟨Fp.n (num l_9), Fp.n (num l_10)⟩ : F2))) (by rfl) (by rfl) (gives_value _ fun _ => by kernel_rfl) ?_
  refine L_val (.int .i64 0) (by rfl) (by rfl) (gives_value _ fun _ => by kernel_rfl) ?_
  refine L_val (.pointer (some ⟨g4, 24, none⟩)) (by rfl) (by rfl) (gives_value _ fun _ => by kernel_rfl) ?_
  refine L_storeA (t := 76) 15 g4 24 (joinA [(c2 (⟨Fp.n (num l_1), Fp.n (num l_2)⟩ : F2)), (c2 (⟨Fp.n (num l_5), Fp.n (num l_6)⟩ : F2)), (c2 (0 : F2)), (c2 (0 : F2)), (c2 (0 : F2)), (c2 (0 : F2))]) (c2 (⟨Fp.n (num l_9), Fp.n (num l_10)⟩ : F2)) (joinA [(c2 (⟨Fp.n (num l_1), Fp.n (num l_2)⟩ : F2)), (c2 (⟨Fp.n (num l_5), Fp.n (num l_6)⟩ : F2)), (c2 (⟨Fp.n (num l_9), Fp.n (num l_10)⟩ : F2)), (c2 (0 : F2)), (c2 (0 : F2)), (c2 (0 : F2))]) (by rfl) (by rfl) (by rfl) (by rfl) (by rfl) (hi_2 _) (by rw [joinC_size 12 _ (by simp [c2_size]), c2_size]; simp) (c2_one _) (spliceC' 12 _ (by simp [c2_size]) 2 _ (c2_size _) (by simp) _ (by rfl) _ (by rfl)) ?_
  simp only [List.set_cons_zero, List.set_cons_succ]
  refine L_end ?_
  intro w15 hw15
  change Code.wp _ _ _ _ _
  refine one_plain hw15 [0, 1, 2] (by rfl) ?_
  refine L_val (.int .i64 2) (by rfl) (by rfl) (gives_value _ fun _ => by rfl) ?_
  refine L_val (.int .i64 3) (by rfl) (by rfl) (gives_add (k := .i64) 2 1 3 (by rfl) (by rfl) (by rfl)) ?_
  refine L_val (.int .i64 3) (by rfl) (by rfl) (gives_value _ fun _ => by rfl) ?_
  refine L_end ?_
  intro w16 hw16
  refine rounds_next ?_
  refine wp_seq ?_
  refine seq_plain hw16 [0, 1] (by rfl) ?_
  refine L_val (.int .i64 3) (by rfl) (by rfl) (gives_value _ fun _ => by rfl) ?_
  refine L_val (.bool true) (by rfl) (by rfl) (gives_lss (k := .i64) 3 6 true (by rfl) (by rfl) (by rfl)) ?_
  refine L_end ?_
  intro w17 hw17
  refine wp_cond_true (fr_at _ _ (by rfl) _) ?_
  refine wp_skip ?_
  change Code.wp _ _ _ _ _
  refine wp_seq ?_
  refine wp_block ?_
  refine seq_plain hw17 [0, 1, 2, 3, 4, 5, 6, 7, 8, 9, 10, 11, 12] (by rfl) ?_
  refine L_val (.int .i64 3) (by rfl) (by rfl) (gives_value _ fun _ => by rfl) ?_
  refine L_val (.slice A0 n0 c0) (by rfl) (by rfl) (gives_value _ fun _ => by rfl) ?_
  refine L_val (.int .i64 3) (by rfl) (by rfl) (gives_value _ fun _ => by rfl) ?_
  refine L_val (.int .i64 6) (by rfl) (by rfl) (gives_mul (k := .i64) 2 3 6 (by rfl) (by rfl) (by rfl)) ?_
  refine L_freshX (vl := [.slice A0 n0 c0, .int .i64 6]) 5 (fun g cap => .slice (some ⟨g, 0, none⟩) 0 cap) (fun cap cs => ∃ l, BB cs cap 0 l ∧ Oct l) (by rfl) (by rfl) Want.none (by kernel_rfl) (by rfl)  (fun w h => part_0 A0 n0 c0 bs0 6 w ((hr0.below h.below).more h.below.size) ho0 hb0 h0 (by omega)) ?_; intro g20 cap_13 cs_13 hq_13
  obtain ⟨l_13, hbb_13, hol_13⟩ := hq_13
  refine L_val (.slice A0 n0 c0) (by rfl) (by rfl) (gives_value _ fun _ => by rfl) ?_
  refine L_val (.int .i64 3) (by rfl) (by rfl) (gives_value _ fun _ => by rfl) ?_
  refine L_val (.int .i64 6) (by rfl) (by rfl) (gives_mul (k := .i64) 2 3 6 (by rfl) (by rfl) (by rfl)) ?_
  refine L_val (.int .i64 7) (by rfl) (by rfl) (gives_add (k := .i64) 6 1 7 (by rfl) (by rfl) (by rfl)) ?_
  refine L_freshX (vl := [.slice A0 n0 c0, .int .i64 7]) 5 (fun g cap => .slice (some ⟨g, 0, none⟩) 0 cap) (fun cap cs => ∃ l, BB cs cap 0 l ∧ Oct l) (by rfl) (by rfl) Want.none (by kernel_rfl) (by rfl)  (fun w h => part_0 A0 n0 c0 bs0 7 w ((hr0.below h.below).more h.below.size) ho0 hb0 h0 (by omega)) ?_; intro g21 cap_14 cs_14 hq_14
  obtain ⟨l_14, hbb_14, hol_14⟩ := hq_14
  refine L_freshY (vl := [.slice (some ⟨g20, 0, none⟩) 0 cap_13, .slice (some ⟨g21, 0, none⟩) 0 cap_14]) 64 64 (fun g cap g2 cap2 => .agg #[.slice (some ⟨g, 0, none⟩) 24 cap, .slice (some ⟨g2, 0, none⟩) 24 cap2]) (fun cap cs cap2 cs2 => WB cs cap 24 ((⟨Fp.n (num l_13), Fp.n (num l_14)⟩ : F2).a.val : Int) ∧ WB cs2 cap2 24 ((⟨Fp.n (num l_13), Fp.n (num l_14)⟩ : F2).b.val : Int)) (by rfl) (by rfl) Want.none (by kernel_rfl) (by rfl)  (fun w h => l5_of _ _ _ l_13 _ _ _ l_14 w (hbb_13.reads (h.blk 1 (by rfl))) hol_13 (hbb_14.reads (h.blk 0 (by rfl))) hol_14 (by omega) (by omega)) ?_; intro g22 cap_15 cs_15 g23 cap_15b cs_15b hq_15; obtain ⟨hwb_15, hwb_15b⟩ := hq_15
  refine L_val (.pointer (some ⟨g3, 6, none⟩)) (by rfl) (by rfl) (gives_value _ fun _ => by kernel_rfl) ?_
  refine L_storeA (t := 47) 20 g3 6 (joinA [#[.slice (some ⟨g7, 0, none⟩) 24 cap_3, .slice (some ⟨g8, 0, none⟩) 24 cap_3b], #[.slice (some ⟨g12, 0, none⟩) 24 cap_7, .slice (some ⟨g13, 0, none⟩) 24 cap_7b], #[.slice (some ⟨g17, 0, none⟩) 24 cap_11, .slice (some ⟨g18, 0, none⟩) 24 cap_11b], #[.slice none 0 0, .slice none 0 0], #[.slice none 0 0, .slice none 0 0], #[.slice none 0 0, .slice none 0 0]]) #[.slice (some ⟨g22, 0, none⟩) 24 cap_15, .slice (some ⟨g23, 0, none⟩) 24 cap_15b] (joinA [#[.slice (some ⟨g7, 0, none⟩) 24 cap_3, .slice (some ⟨g8, 0, none⟩) 24 cap_3b], #[.slice (some ⟨g12, 0, none⟩) 24 cap_7, .slice (some ⟨g13, 0, none⟩) 24 cap_7b], #[.slice (some ⟨g17, 0, none⟩) 24 cap_11, .slice (some ⟨g18, 0, none⟩) 24 cap_11b], #[.slice (some ⟨g22, 0, none⟩) 24 cap_15, .slice (some ⟨g23, 0, none⟩) 24 cap_15b], #[.slice none 0 0, .slice none 0 0], #[.slice none 0 0, .slice none 0 0]]) (by rfl) (by rfl) (by rfl) (by rfl) (by rfl) (hi_NN _ _) (by rw [joinC_size 2 _ (by simp)]; simp) (one_N (by rfl) (by rfl)) (spliceC' 2 _ (by simp) 3 _ (by rfl) (by simp) _ (by rfl) _ (by rfl)) ?_
  simp only [List.set_cons_zero, List.set_cons_succ]
  refine L_end ?_
  intro w18 hw18
  refine one_plain hw18 [0, 1, 2, 3, 4, 5, 6, 7, 8, 9, 10] (by rfl) ?_
  refine L_val (.int .i64 3) (by rfl) (by rfl) (gives_value _ fun _ => by rfl) ?_
  refine L_val (.int .i64 3) (by rfl) (by rfl) (gives_value _ fun _ => by rfl) ?_
  refine L_val (.pointer (some ⟨g3, 6, none⟩)) (by rfl) (by rfl) (gives_value _ fun _ => by kernel_rfl) ?_
  refine L_val (.agg #[.slice (some ⟨g22, 0, none⟩) 24 cap_15, .slice (some ⟨g23, 0, none⟩) 24 cap_15b]) (by rfl) (by rfl) (gives_load g3 6 47 (joinA [#[.slice (some ⟨g7, 0, none⟩) 24 cap_3, .slice (some ⟨g8, 0, none⟩) 24 cap_3b], #[.slice (some ⟨g12, 0, none⟩) 24 cap_7, .slice (some ⟨g13, 0, none⟩) 24 cap_7b], #[.slice (some ⟨g17, 0, none⟩) 24 cap_11, .slice (some ⟨g18, 0, none⟩) 24 cap_11b], #[.slice (some ⟨g22, 0, none⟩) 24 cap_15, .slice (some ⟨g23, 0, none⟩) 24 cap_15b], #[.slice none 0 0, .slice none 0 0], #[.slice none 0 0, .slice none 0 0]]) #[.slice (some ⟨g22, 0, none⟩) 24 cap_15, .slice (some ⟨g23, 0, none⟩) 24 cap_15b] _ (by rfl) (fun _ h => h.blk 20 (by rfl)) (sl_joinC 2 _ (by simp) 3 _ (by rfl) _ (by rfl)) Tryd.underlying45 (by rfl) (hi_NN _ _)) ?_
  refine L_freshX (vl := [.agg #[.slice (some ⟨g22, 0, none⟩) 24 cap_15, .slice (some ⟨g23, 0, none⟩) 24 cap_15b]]) 5 (fun g cap => .slice (some ⟨g, 0, none⟩) (48 + 48) cap) (fun cap cs => BB cs cap (48 + 48) (lo ((⟨Fp.n (num l_13), Fp.n (num l_14)⟩ : F2).b.val : Int) 48 ++ lo ((⟨Fp.n (num l_13), Fp.n (num l_14)⟩ : F2).a.val : Int) 48)) (by rfl) (by rfl) Want.none (by kernel_rfl) (by rfl)  (fun w h => l5_bytes (⟨Fp.n (num l_13), Fp.n (num l_14)⟩ : F2) _ _ _ _ _ _ w (hwb_15.num (h.blk 0 (by rfl)) (fv_rng _) (by omega)) (hwb_15b.num (h.blk 1 (by rfl)) (fv_rng _) (by omega)) (by omega) (by omega)) ?_; intro g24 cap_16 cs_16 hq_16
  refine L_val (.tuple #[.agg (c2 (⟨Fp.n (num l_13), Fp.n (num l_14)⟩ : F2)), .int .i64 0]) (by rfl) (by rfl) (gives_call (vl := [.slice (some ⟨g24, 0, none⟩) (48 + 48) cap_16]) (by kernel_rfl) (by rfl) (fun w h => read5 (⟨Fp.n (num l_13), Fp.n (num l_14)⟩ : F2) _ _ w (hG.keep h.below) (hq_16.reads (h.blk 0 (by rfl))) (by have := hq_16.le; omega))) ?_
  refine L_val (.tuple #[.agg (c2 (⟨Fp.n (num l_13), Fp.n (num l_14)⟩ : F2)), .int .i64 0]) (by rfl) (by rfl) (gives_value _ fun _ => by rfl) ?_
  refine L_val (.agg (c2 (⟨Fp.n (num l_13), Fp.n (num l_14)⟩ : F2))) (by rfl) (by rfl) (gives_value _ fun _ => by kernel_rfl) ?_
  refine L_val (.int .i64 0) (by rfl) (by rfl) (gives_value _ fun _ => by kernel_rfl) ?_
  refine L_val (.pointer (some ⟨g4, 36, none⟩)) (by rfl) (by rfl) (gives_value _ fun _ => by kernel_rfl) ?_
  refine L_storeA (t := 76) 20 g4 36 (joinA [(c2 (⟨Fp.n (num l_1), Fp.n (num l_2)⟩ : F2)), (c2 (⟨Fp.n (num l_5), Fp.n (num l_6)⟩ : F2)), (c2 (⟨Fp.n (num l_9), Fp.n (num l_10)⟩ : F2)), (c2 (0 : F2)), (c2 (0 : F2)), (c2 (0 : F2))]) (c2 (⟨Fp.n (num l_13), Fp.n (num l_14)⟩ : F2)) (joinA [(c2 (⟨Fp.n (num l_1), Fp.n (num l_2)⟩ : F2)), (c2 (⟨Fp.n (num l_5), Fp.n (num l_6)⟩ : F2)), (c2 (⟨Fp.n (num l_9), Fp.n (num l_10)⟩ : F2)), (c2 (⟨Fp.n (num l_13), Fp.n (num l_14)⟩ : F2)), (c2 (0 : F2)), (c2 (0 : F2))]) (by rfl) (by rfl) (by rfl) (by rfl) (by rfl) (hi_2 _) (by rw [joinC_size 12 _ (by simp [c2_size]), c2_size]; simp) (c2_one _) (spliceC' 12 _ (by simp [c2_size]) 3 _ (c2_size _) (by simp) _ (by rfl) _ (by rfl)) ?_
  simp only [List.set_cons_zero, List.set_cons_succ]
  refine L_end ?_
  intro w19 hw19
  change Code.wp _ _ _ _ _
  refine one_plain hw19 [0, 1, 2] (by rfl) ?_
  refine L_val (.int .i64 3) (by rfl) (by rfl) (gives_value _ fun _ => by rfl) ?_
  refine L_val (.int .i64 4) (by rfl) (by rfl) (gives_add (k := .i64) 3 1 4 (by rfl) (by rfl) (by rfl)) ?_
  refine L_val (.int .i64 4) (by rfl) (by rfl) (gives_value _ fun _ => by rfl) ?_
  refine L_end ?_
  intro w20 hw20
  refine rounds_next ?_
  refine wp_seq ?_
  refine seq_plain hw20 [0, 1] (by rfl) ?_
  refine L_val (.int .i64 4) (by rfl) (by rfl) (gives_value _ fun _ => by rfl) ?_
  refine L_val (.bool true) (by rfl) (by rfl) (gives_lss (k := .i64) 4 6 true (by rfl) (by rfl) (by rfl)) ?_
  refine L_end ?_
  intro w21 hw21
  refine wp_cond_true (fr_at _ _ (by rfl) _) ?_
  refine wp_skip ?_
  change Code.wp _ _ _ _ _
  refine wp_seq ?_
  refine wp_block ?_
  refine seq_plain hw21 [0, 1, 2, 3, 4, 5, 6, 7, 8, 9, 10, 11, 12] (by rfl) ?_
  refine L_val (.int .i64 4) (by rfl) (by rfl) (gives_value _ fun _ => by rfl) ?_
  refine L_val (.slice A0 n0 c0) (by rfl) (by rfl) (gives_value _ fun _ => by rfl) ?_
  refine L_val (.int .i64 4) (by rfl) (by rfl) (gives_value _ fun _ => by rfl) ?_
  refine L_val (.int .i64 8) (by rfl) (by rfl) (gives_mul (k := .i64) 2 4 8 (by rfl) (by rfl) (by rfl)) ?_
  refine L_freshX (vl := [.slice A0 n0 c0, .int .i64 8]) 5 (fun g cap => .slice (some ⟨g, 0, none⟩) 0 cap) (fun cap cs => ∃ l, BB cs cap 0 l ∧ Oct l) (by rfl) (by rfl) Want.none (by kernel_rfl) (by rfl)  (fun w h => part_0 A0 n0 c0 bs0 8 w ((hr0.below h.below).more h.below.size) ho0 hb0 h0 (by omega)) ?_; intro g25 cap_17 cs_17 hq_17
  obtain ⟨l_17, hbb_17, hol_17⟩ := hq_17
  refine L_val (.slice A0 n0 c0) (by rfl) (by rfl) (gives_value _ fun _ => by rfl) ?_
  refine L_val (.int .i64 4) (by rfl) (by rfl) (gives_value _ fun _ => by rfl) ?_
  refine L_val (.int .i64 8) (by rfl) (by rfl) (gives_mul (k := .i64) 2 4 8 (by rfl) (by rfl) (by rfl)) ?_
  refine L_val (.int .i64 9) (by rfl) (by rfl) (gives_add (k := .i64) 8 1 9 (by rfl) (by rfl) (by rfl)) ?_
  refine L_freshX (vl := [.slice A0 n0 c0, .int .i64 9]) 5 (fun g cap => .slice (some ⟨g, 0, none⟩) 0 cap) (fun cap cs => ∃ l, BB cs cap 0 l ∧ Oct l) (by rfl) (by rfl) Want.none (by kernel_rfl) (by rfl)  (fun w h => part_0 A0 n0 c0 bs0 9 w ((hr0.below h.below).more h.below.size) ho0 hb0 h0 (by omega)) ?_; intro g26 cap_18 cs_18 hq_18
  obtain ⟨l_18, hbb_18, hol_18⟩ := hq_18
  refine L_freshY (vl := [.slice (some ⟨g25, 0, none⟩) 0 cap_17, .slice (some ⟨g26, 0, none⟩) 0 cap_18]) 64 64 (fun g cap g2 cap2 => .agg #[.slice (some ⟨g, 0, none⟩) 24 cap, .slice (some ⟨g2, 0, none⟩) 24 cap2]) (fun cap cs cap2 cs2 => WB cs cap 24 ((⟨Fp.n (num l_17), Fp.n (num l_18)⟩ : F2).a.val : Int) ∧ WB cs2 cap2 24 ((⟨Fp.n (num l_17), Fp.n (num l_18)⟩ : F2).b.val : Int)) (by rfl) (by rfl) Want.none (by kernel_rfl) (by rfl)  (fun w h => l5_of _ _ _ l_17 _ _ _ l_18 w (hbb_17.reads (h.blk 1 (by rfl))) hol_17 (hbb_18.reads (h.blk 0 (by rfl))) hol_18 (by omega) (by omega)) ?_; intro g27 cap_19 cs_19 g28 cap_19b cs_19b hq_19; obtain ⟨hwb_19, hwb_19b⟩ := hq_19
  refine L_val (.pointer (some ⟨g3, 8, none⟩)) (by rfl) (by rfl) (gives_value _ fun _ => by kernel_rfl) ?_
  refine L_storeA (t := 47) 25 g3 8 (joinA [#[.slice (some ⟨g7, 0, none⟩) 24 cap_3, .slice (some ⟨g8, 0, none⟩) 24 cap_3b], #[.slice (some ⟨g12, 0, none⟩) 24 cap_7, .slice (some ⟨g13, 0, none⟩) 24 cap_7b], #[.slice (some ⟨g17, 0, none⟩) 24 cap_11, .slice (some ⟨g18, 0, none⟩) 24 cap_11b], #[.slice (some ⟨g22, 0, none⟩) 24 cap_15, .slice (some ⟨g23, 0, none⟩) 24 cap_15b], #[.slice none 0 0, .slice none 0 0], #[.slice none 0 0, .slice none 0 0]]) #[.slice (some ⟨g27, 0, none⟩) 24 cap_19, .slice (some ⟨g28, 0, none⟩) 24 cap_19b] (joinA [#[.slice (some ⟨g7, 0, none⟩) 24 cap_3, .slice (some ⟨g8, 0, none⟩) 24 cap_3b], #[.slice (some ⟨g12, 0, none⟩) 24 cap_7, .slice (some ⟨g13, 0, none⟩) 24 cap_7b], #[.slice (some ⟨g17, 0, none⟩) 24 cap_11, .slice (some ⟨g18, 0, none⟩) 24 cap_11b], #[.slice (some ⟨g22, 0, none⟩) 24 cap_15, .slice (some ⟨g23, 0, none⟩) 24 cap_15b], #[.slice (some ⟨g27, 0, none⟩) 24 cap_19, .slice (some ⟨g28, 0, none⟩) 24 cap_19b], #[.slice none 0 0, .slice none 0 0]]) (by rfl) (by rfl) (by rfl) (by rfl) (by rfl) (hi_NN _ _) (by rw [joinC_size 2 _ (by simp)]; simp) (one_N (by rfl) (by rfl)) (spliceC' 2 _ (by simp) 4 _ (by rfl) (by simp) _ (by rfl) _ (by rfl)) ?_
  simp only [List.set_cons_zero, List.set_cons_succ]
  refine L_end ?_
  intro w22 hw22
  refine one_plain hw22 [0, 1, 2, 3, 4, 5, 6, 7, 8, 9, 10] (by rfl) ?_
  refine L_val (.int .i64 4) (by rfl) (by rfl) (gives_value _ fun _ => by rfl) ?_
  refine L_val (.int .i64 4) (by rfl) (by rfl) (gives_value _ fun _ => by rfl) ?_
  refine L_val (.pointer (some ⟨g3, 8, none⟩)) (by rfl) (by rfl) (gives_value _ fun _ => by kernel_rfl) ?_
  refine L_val (.agg #[.slice (some ⟨g27, 0, none⟩) 24 cap_19, .slice (some ⟨g28, 0, none⟩) 24 cap_19b]) (by rfl) (by rfl) (gives_load g3 8 47 (joinA [#[.slice (some ⟨g7, 0, none⟩) 24 cap_3, .slice (some ⟨g8, 0, none⟩) 24 cap_3b], #[.slice (some ⟨g12, 0, none⟩) 24 cap_7, .slice (some ⟨g13, 0, none⟩) 24 cap_7b], #[.slice (some ⟨g17, 0, none⟩) 24 cap_11, .slice (some ⟨g18, 0, none⟩) 24 cap_11b], #[.slice (some ⟨g22, 0, none⟩) 24 cap_15, .slice (some ⟨g23, 0, none⟩) 24 cap_15b], #[.slice (some ⟨g27, 0, none⟩) 24 cap_19, .slice (some ⟨g28, 0, none⟩) 24 cap_19b], #[.slice none 0 0, .slice none 0 0]]) #[.slice (some ⟨g27, 0, none⟩) 24 cap_19, .slice (some ⟨g28, 0, none⟩) 24 cap_19b] _ (by rfl) (fun _ h => h.blk 25 (by rfl)) (sl_joinC 2 _ (by simp) 4 _ (by rfl) _ (by rfl)) Tryd.underlying45 (by rfl) (hi_NN _ _)) ?_
  refine L_freshX (vl := [.agg #[.slice (some ⟨g27, 0, none⟩) 24 cap_19, .slice (some ⟨g28, 0, none⟩) 24 cap_19b]]) 5 (fun g cap => .slice (some ⟨g, 0, none⟩) (48 + 48) cap) (fun cap cs => BB cs cap (48 + 48) (lo ((⟨Fp.n (num l_17), Fp.n (num l_18)⟩ : F2).b.val : Int) 48 ++ lo ((⟨Fp.n (num l_17), Fp.n (num l_18)⟩ : F2).a.val : Int) 48)) (by rfl) (by rfl) Want.none (by kernel_rfl) (by rfl)  (fun w h => l5_bytes (⟨Fp.n (num l_17), Fp.n (num l_18)⟩ : F2) _ _ _ _ _ _ w (hwb_19.num (h.blk 0 (by rfl)) (fv_rng _) (by omega)) (hwb_19b.num (h.blk 1 (by rfl)) (fv_rng _) (by omega)) (by omega) (by omega)) ?_; intro g29 cap_20 cs_20 hq_20
  refine L_val (.tuple #[.agg (c2 (⟨Fp.n (num l_17), Fp.n (num l_18)⟩ : F2)), .int .i64 0]) (by rfl) (by rfl) (gives_call (vl := [.slice (some ⟨g29, 0, none⟩) (48 + 48) cap_20]) (by kernel_rfl) (by rfl) (fun w h => read5 (⟨Fp.n (num l_17), Fp.n (num l_18)⟩ : F2) _ _ w (hG.keep h.below) (hq_20.reads (h.blk 0 (by rfl))) (by have := hq_20.le; omega))) ?_
  refine L_val (.tuple #[.agg (c2 (⟨Fp.n (num l_17), Fp.n (num l_18)⟩ : F2)), .int .i64 0]) (by rfl) (by rfl) (gives_value _ fun _ => by rfl) ?_
  refine L_val (.agg (c2 (⟨Fp.n (num l_17), Fp.n (num l_18)⟩ : F2))) (by rfl) (by rfl) (gives_value _ fun _ => by kernel_rfl) ?_
  refine L_val (.int .i64 0) (by rfl) (by rfl) (gives_value _ fun _ => by kernel_rfl) ?_
  refine L_val (.pointer (some ⟨g4, 48, none⟩)) (by rfl) (by rfl) (gives_value _ fun _ => by kernel_rfl) ?_
  refine L_storeA (t := 76) 25 g4 48 (joinA [(c2 (⟨Fp.n (num l_1), Fp.n (num l_2)⟩ : F2)), (c2 (⟨Fp.n (num l_5), Fp.n (num l_6)⟩ : F2)), (c2 (⟨Fp.n (num l_9), Fp.n (num l_10)⟩ : F2)), (c2 (⟨Fp.n (num l_13), Fp.n (num l_14)⟩ : F2)), (c2 (0 : F2)), (c2 (0 : F2))]) (c2 (⟨Fp.n (num l_17), Fp.n (num l_18)⟩ : F2)) (joinA [(c2 (⟨Fp.n (num l_1), Fp.n (num l_2)⟩ : F2)), (c2 (⟨Fp.n (num l_5), Fp.n (num l_6)⟩ : F2)), (c2 (⟨Fp.n (num l_9), Fp.n (num l_10)⟩ : F2)), (c2 (⟨Fp.n (num l_13), Fp.n (num l_14)⟩ : F2)), (c2 (⟨Fp.n (num l_17), Fp.n (num l_18)⟩ : F2)), (c2 (0 : F2))]) (by rfl) (by rfl) (by rfl) (by rfl) (by rfl) (hi_2 _) (by rw [joinC_size 12 _ (by simp [c2_size]), c2_size]; simp) (c2_one _) (spliceC' 12 _ (by simp [c2_size]) 4 _ (c2_size _) (by simp) _ (by rfl) _ (by rfl)) ?_
  simp only [List.set_cons_zero, List.set_cons_succ]
  refine L_end ?_
  intro w23 hw23
  change Code.wp _ _ _ _ _
  refine one_plain hw23 [0, 1, 2] (by rfl) ?_
  refine L_val (.int .i64 4) (by rfl) (by rfl) (gives_value _ fun _ => by rfl) ?_
  refine L_val (.int .i64 5) (by rfl) (by rfl) (gives_add (k := .i64) 4 1 5 (by rfl) (by rfl) (by rfl)) ?_
  refine L_val (.int .i64 5) (by rfl) (by rfl) (gives_value _ fun _ => by rfl) ?_
  refine L_end ?_
  intro w24 hw24
  refine rounds_next ?_
  refine wp_seq ?_
  refine seq_plain hw24 [0, 1] (by rfl) ?_
  refine L_val (.int .i64 5) (by rfl) (by rfl) (gives_value _ fun _ => by rfl) ?_
  refine L_val (.bool true) (by rfl) (by rfl) (gives_lss (k := .i64) 5 6 true (by rfl) (by rfl) (by rfl)) ?_
  refine L_end ?_
  intro w25 hw25
  refine wp_cond_true (fr_at _ _ (by rfl) _) ?_
  refine wp_skip ?_
  change Code.wp _ _ _ _ _
  refine wp_seq ?_
  refine wp_block ?_
  refine seq_plain hw25 [0, 1, 2, 3, 4, 5, 6, 7, 8, 9, 10, 11, 12] (by rfl) ?_
  refine L_val (.int .i64 5) (by rfl) (by rfl) (gives_value _ fun _ => by rfl) ?_
  refine L_val (.slice A0 n0 c0) (by rfl) (by rfl) (gives_value _ fun _ => by rfl) ?_
  refine L_val (.int .i64 5) (by rfl) (by rfl) (gives_value _ fun _ => by rfl) ?_
  refine L_val (.int .i64 10) (by rfl) (by rfl) (gives_mul (k := .i64) 2 5 10 (by rfl) (by rfl) (by rfl)) ?_
  refine L_freshX (vl := [.slice A0 n0 c0, .int .i64 10]) 5 (fun g cap => .slice (some ⟨g, 0, none⟩) 0 cap) (fun cap cs => ∃ l, BB cs cap 0 l ∧ Oct l) (by rfl) (by rfl) Want.none (by kernel_rfl) (by rfl)  (fun w h => part_0 A0 n0 c0 bs0 10 w ((hr0.below h.below).more h.below.size) ho0 hb0 h0 (by omega)) ?_; intro g30 cap_21 cs_21 hq_21
  obtain ⟨l_21, hbb_21, hol_21⟩ := hq_21
  refine L_val (.slice A0 n0 c0) (by rfl) (by rfl) (gives_value _ fun _ => by rfl) ?_
  refine L_val (.int .i64 5) (by rfl) (by rfl) (gives_value _ fun _ => by rfl) ?_
  refine L_val (.int .i64 10) (by rfl) (by rfl) (gives_mul (k := .i64) 2 5 10 (by rfl) (by rfl) (by rfl)) ?_
  refine L_val (.int .i64 11) (by rfl) (by rfl) (gives_add (k := .i64) 10 1 11 (by rfl) (by rfl) (by rfl)) ?_
  refine L_freshX (vl := [.slice A0 n0 c0, .int .i64 11]) 5 (fun g cap => .slice (some ⟨g, 0, none⟩) 0 cap) (fun cap cs => ∃ l, BB cs cap 0 l ∧ Oct l) (by rfl) (by rfl) Want.none (by kernel_rfl) (by rfl)  (fun w h => part_0 A0 n0 c0 bs0 11 w ((hr0.below h.below).more h.below.size) ho0 hb0 h0 (by omega)) ?_; intro g31 cap_22 cs_22 hq_22
  obtain ⟨l_22, hbb_22, hol_22⟩ := hq_22
  refine L_freshY (vl := [.slice (some ⟨g30, 0, none⟩) 0 cap_21, .slice (some ⟨g31, 0, none⟩) 0 cap_22]) 64 64 (fun g cap g2 cap2 => .agg #[.slice (some ⟨g, 0, none⟩) 24 cap, .slice (some ⟨g2, 0, none⟩) 24 cap2]) (fun cap cs cap2 cs2 => WB cs cap 24 ((⟨Fp.n (num l_21), Fp.n (num l_22)⟩ : F2).a.val : Int) ∧ WB cs2 cap2 24 ((⟨Fp.n (num l_21), Fp.n (num l_22)⟩ : F2).b.val : Int)) (by rfl) (by rfl) Want.none (by kernel_rfl) (by rfl)  (fun w h => l5_of _ _ _ l_21 _ _ _ l_22 w (hbb_21.reads (h.blk 1 (by rfl))) hol_21 (hbb_22.reads (h.blk 0 (by rfl))) hol_22 (by omega) (by omega)) ?_; intro g32 cap_23 cs_23 g33 cap_23b cs_23b hq_23; obtain ⟨hwb_23, hwb_23b⟩ := hq_23
  refine L_val (.pointer (some ⟨g3, 10, none⟩)) (by rfl) (by rfl) (gives_value _ fun _ => by kernel_rfl) ?_
  refine L_storeA (t := 47) 30 g3 10 (joinA [#[.slice (some ⟨g7, 0, none⟩) 24 cap_3, .slice (some ⟨g8, 0, none⟩) 24 cap_3b], #[.slice (some ⟨g12, 0, none⟩) 24 cap_7, .slice (some ⟨g13, 0, none⟩) 24 cap_7b], #[.slice (some ⟨g17, 0, none⟩) 24 cap_11, .slice (some ⟨g18, 0, none⟩) 24 cap_11b], #[.slice (some ⟨g22, 0, none⟩) 24 cap_15, .slice (some ⟨g23, 0, none⟩) 24 cap_15b], #[.slice (some ⟨g27, 0, none⟩) 24 cap_19, .slice (some ⟨g28, 0, none⟩) 24 cap_19b], #[.slice none 0 0, .slice none 0 0]]) #[.slice (some ⟨g32, 0, none⟩) 24 cap_23, .slice (some ⟨g33, 0, none⟩) 24 cap_23b] (joinA [#[.slice (some ⟨g7, 0, none⟩) 24 cap_3, .slice (some ⟨g8, 0, none⟩) 24 cap_3b], #[.slice (some ⟨g12, 0, none⟩) 24 cap_7, .slice (some ⟨g13, 0, none⟩) 24 cap_7b], #[.slice (some ⟨g17, 0, none⟩) 24 cap_11, .slice (some ⟨g18, 0, none⟩) 24 cap_11b], #[.slice (some ⟨g22, 0, none⟩) 24 cap_15, .slice (some ⟨g23, 0, none⟩) 24 cap_15b], #[.slice (some ⟨g27, 0, none⟩) 24 cap_19, .slice (some ⟨g28, 0, none⟩) 24 cap_19b], #[.slice (some ⟨g32, 0, none⟩) 24 cap_23, .slice (some ⟨g33, 0, none⟩) 24 cap_23b]]) (by rfl) (by rfl) (by rfl) (by rfl) (by rfl) (hi_NN _ _) (by rw [joinC_size 2 _ (by simp)]; simp) (one_N (by rfl) (by rfl)) (spliceC' 2 _ (by simp) 5 _ (by rfl) (by simp) _ (by rfl) _ (by rfl)) ?_
  simp only [List.set_cons_zero, List.set_cons_succ]
  refine L_end ?_
  intro w26 hw26
  refine one_plain hw26 [0, 1, 2, 3, 4, 5, 6, 7, 8, 9, 10] (by rfl) ?_
  refine L_val (.int .i64 5) (by rfl) (by rfl) (gives_value _ fun _ => by rfl) ?_
  refine L_val (.int .i64 5) (by rfl) (by rfl) (gives_value _ fun _ => by rfl) ?_
  refine L_val (.pointer (some ⟨g3, 10, none⟩)) (by rfl) (by rfl) (gives_value _ fun _ => by kernel_rfl) ?_
  refine L_val (.agg #[.slice (some ⟨g32, 0, none⟩) 24 cap_23, .slice (some ⟨g33, 0, none⟩) 24 cap_23b]) (by rfl) (by rfl) (gives_load g3 10 47 (joinA [#[.slice (some ⟨g7, 0, none⟩) 24 cap_3, .slice (some ⟨g8, 0, none⟩) 24 cap_3b], #[.slice (some ⟨g12, 0, none⟩) 24 cap_7, .slice (some ⟨g13, 0, none⟩) 24 cap_7b], #[.slice (some ⟨g17, 0, none⟩) 24 cap_11, .slice (some ⟨g18, 0, none⟩) 24 cap_11b], #[.slice (some ⟨g22, 0, none⟩) 24 cap_15, .slice (some ⟨g23, 0, none⟩) 24 cap_15b], #[.slice (some ⟨g27, 0, none⟩) 24 cap_19, .slice (some ⟨g28, 0, none⟩) 24 cap_19b], #[.slice (some ⟨g32, 0, none⟩) 24 cap_23, .slice (some ⟨g33, 0, none⟩) 24 cap_23b]]) #[.slice (some ⟨g32, 0, none⟩) 24 cap_23, .slice (some ⟨g33, 0, none⟩) 24 cap_23b] _ (by rfl) (fun _ h => h.blk 30 (by rfl)) (sl_joinC 2 _ (by simp) 5 _ (by rfl) _ (by rfl)) Tryd.underlying45 (by rfl) (hi_NN _ _)) ?_
  refine L_freshX (vl := [.agg #[.slice (some ⟨g32, 0, none⟩) 24 cap_23, .slice (some ⟨g33, 0, none⟩) 24 cap_23b]]) 5 (fun g cap => .slice (some ⟨g, 0, none⟩) (48 + 48) cap) (fun cap cs => BB cs cap (48 + 48) (lo ((⟨Fp.n (num l_21), Fp.n (num l_22)⟩ : F2).b.val : Int) 48 ++ lo ((⟨Fp.n (num l_21), Fp.n (num l_22)⟩ : F2).a.val : Int) 48)) (by rfl) (by rfl) Want.none (by kernel_rfl) (by rfl)  (fun w h => l5_bytes (⟨Fp.n (num l_21), Fp.n (num l_22)⟩ : F2) _ _ _ _ _ _ w (hwb_23.num (h.blk 0 (by rfl)) (fv_rng _) (by omega)) (hwb_23b.num (h.blk 1 (by rfl)) (fv_rng _) (by omega)) (by omega) (by omega)) ?_; intro g34 cap_24 cs_24 hq_24
  refine L_val (.tuple #[.agg (c2 (⟨Fp.n (num l_21), Fp.n (num l_22)⟩ : F2)), .int .i64 0]) (by rfl) (by rfl) (gives_call (vl := [.slice (some ⟨g34, 0, none⟩) (48 + 48) cap_24]) (by kernel_rfl) (by rfl) (fun w h => read5 (⟨Fp.n (num l_21), Fp.n (num l_22)⟩ : F2) _ _ w (hG.keep h.below) (hq_24.reads (h.blk 0 (by rfl))) (by have := hq_24.le; omega))) ?_
  refine L_val (.tuple #[.agg (c2 (⟨Fp.n (num l_21), Fp.n (num l_22)⟩ : F2)), .int .i64 0]) (by rfl) (by rfl) (gives_value _ fun _ => by rfl) ?_
  refine L_val (.agg (c2 (⟨Fp.n (num l_21), Fp.n (num l_22)⟩ : F2))) (by rfl) (by rfl) (gives_value _ fun _ => by kernel_rfl) ?_
  refine L_val (.int .i64 0) (by rfl) (by rfl) (gives_value _ fun _ => by kernel_rfl) ?_
  refine L_val (.pointer (some ⟨g4, 60, none⟩)) (by rfl) (by rfl) (gives_value _ fun _ => by kernel_rfl) ?_
  refine L_storeA (t := 76) 30 g4 60 (joinA [(c2 (⟨Fp.n (num l_1), Fp.n (num l_2)⟩ : F2)), (c2 (⟨Fp.n (num l_5), Fp.n (num l_6)⟩ : F2)), (c2 (⟨Fp.n (num l_9), Fp.n (num l_10)⟩ : F2)), (c2 (⟨Fp.n (num l_13), Fp.n (num l_14)⟩ : F2)), (c2 (⟨Fp.n (num l_17), Fp.n (num l_18)⟩ : F2)), (c2 (0 : F2))]) (c2 (⟨Fp.n (num l_21), Fp.n (num l_22)⟩ : F2)) (joinA [(c2 (⟨Fp.n (num l_1), Fp.n (num l_2)⟩ : F2)), (c2 (⟨Fp.n (num l_5), Fp.n (num l_6)⟩ : F2)), (c2 (⟨Fp.n (num l_9), Fp.n (num l_10)⟩ : F2)), (c2 (⟨Fp.n (num l_13), Fp.n (num l_14)⟩ : F2)), (c2 (⟨Fp.n (num l_17), Fp.n (num l_18)⟩ : F2)), (c2 (⟨Fp.n (num l_21), Fp.n (num l_22)⟩ : F2))]) (by rfl) (by rfl) (by rfl) (by rfl) (by rfl) (hi_2 _) (by rw [joinC_size 12 _ (by simp [c2_size]), c2_size]; simp) (c2_one _) (spliceC' 12 _ (by simp [c2_size]) 5 _ (c2_size _) (by simp) _ (by rfl) _ (by rfl)) ?_
  simp only [List.set_cons_zero, List.set_cons_succ]
  refine L_end ?_
  intro w27 hw27
  change Code.wp _ _ _ _ _
  refine one_plain hw27 [0, 1, 2] (by rfl) ?_
  refine L_val (.int .i64 5) (by rfl) (by rfl) (gives_value _ fun _ => by rfl) ?_
  refine L_val (.int .i64 6) (by rfl) (by rfl) (gives_add (k := .i64) 5 1 6 (by rfl) (by rfl) (by rfl)) ?_
  refine L_val (.int .i64 6) (by rfl) (by rfl) (gives_value _ fun _ => by rfl) ?_
  refine L_end ?_
  intro w28 hw28
  refine rounds_next ?_
  refine wp_seq ?_
  refine seq_plain hw28 [0, 1] (by rfl) ?_
  refine L_val (.int .i64 6) (by rfl) (by rfl) (gives_value _ fun _ => by rfl) ?_
  refine L_val (.bool false) (by rfl) (by rfl) (gives_lss (k := .i64) 6 6 false (by rfl) (by rfl) (by rfl)) ?_
  refine L_end ?_
  intro w29 hw29
  refine wp_cond_false (fr_at _ _ (by rfl) _) ?_
  refine wp_exit ?_
  change Code.wp _ _ _ _ _
  change Code.wp _ _ _ _ _
  refine seq_flow (by kernel_rfl) hw29 [] [(g34, 5, cs_24), (g32, 64, cs_23), (g33, 64, cs_23b), (g31, 5, cs_22), (g30, 5, cs_21), (g29, 5, cs_20), (g27, 64, cs_19), (g28, 64, cs_19b), (g26, 5, cs_18), (g25, 5, cs_17), (g24, 5, cs_16), (g22, 64, cs_15), (g23, 64, cs_15b), (g21, 5, cs_14), (g20, 5, cs_13), (g19, 5, cs_12), (g17, 64, cs_11), (g18, 64, cs_11b), (g16, 5, cs_10), (g15, 5, cs_9), (g14, 5, cs_8), (g12, 64, cs_7), (g13, 64, cs_7b), (g11, 5, cs_6), (g10, 5, cs_5), (g9, 5, cs_4), (g7, 64, cs_3), (g8, 64, cs_3b), (g6, 5, cs_2), (g5, 5, cs_1), (g4, 76, (joinA [(c2 (⟨Fp.n (num l_1), Fp.n (num l_2)⟩ : F2)), (c2 (⟨Fp.n (num l_5), Fp.n (num l_6)⟩ : F2)), (c2 (⟨Fp.n (num l_9), Fp.n (num l_10)⟩ : F2)), (c2 (⟨Fp.n (num l_13), Fp.n (num l_14)⟩ : F2)), (c2 (⟨Fp.n (num l_17), Fp.n (num l_18)⟩ : F2)), (c2 (⟨Fp.n (num l_21), Fp.n (num l_22)⟩ : F2))])), (g3, 47, (joinA [#[.slice (some ⟨g7, 0, none⟩) 24 cap_3, .slice (some ⟨g8, 0, none⟩) 24 cap_3b], #[.slice (some ⟨g12, 0, none⟩) 24 cap_7, .slice (some ⟨g13, 0, none⟩) 24 cap_7b], #[.slice (some ⟨g17, 0, none⟩) 24 cap_11, .slice (some ⟨g18, 0, none⟩) 24 cap_11b], #[.slice (some ⟨g22, 0, none⟩) 24 cap_15, .slice (some ⟨g23, 0, none⟩) 24 cap_15b], #[.slice (some ⟨g27, 0, none⟩) 24 cap_19, .slice (some ⟨g28, 0, none⟩) 24 cap_19b], #[.slice (some ⟨g32, 0, none⟩) 24 cap_23, .slice (some ⟨g33, 0, none⟩) 24 cap_23b]]))] 18 (by rfl) ?_
  refine flow_take (i := 0) (.agg (joinA [#[.slice (some ⟨g7, 0, none⟩) 24 cap_3, .slice (some ⟨g8, 0, none⟩) 24 cap_3b], #[.slice (some ⟨g12, 0, none⟩) 24 cap_7, .slice (some ⟨g13, 0, none⟩) 24 cap_7b], #[.slice (some ⟨g17, 0, none⟩) 24 cap_11, .slice (some ⟨g18, 0, none⟩) 24 cap_11b], #[.slice (some ⟨g22, 0, none⟩) 24 cap_15, .slice (some ⟨g23, 0, none⟩) 24 cap_15b], #[.slice (some ⟨g27, 0, none⟩) 24 cap_19, .slice (some ⟨g28, 0, none⟩) 24 cap_19b], #[.slice (some ⟨g32, 0, none⟩) 24 cap_23, .slice (some ⟨g33, 0, none⟩) 24 cap_23b]])) (by rfl) (by kernel_rfl) (by kernel_rfl) (by kernel_rfl) (by rfl) (by kernel_rfl) (List.Sublist.cons_cons _ (List.Sublist.cons_cons _ (List.Sublist.cons_cons _ (List.Sublist.cons_cons _ (List.Sublist.cons_cons _ (List.Sublist.cons_cons _ (List.Sublist.cons_cons _ (List.Sublist.cons_cons _ (List.Sublist.cons_cons _ (List.Sublist.cons_cons _ (List.Sublist.cons_cons _ (List.Sublist.cons_cons _ (List.Sublist.cons_cons _ (List.Sublist.cons_cons _ (List.Sublist.cons_cons _ (List.Sublist.cons_cons _ (List.Sublist.cons_cons _ (List.Sublist.cons_cons _ (List.Sublist.cons_cons _ (List.Sublist.cons_cons _ (List.Sublist.cons_cons _ (List.Sublist.cons_cons _ (List.Sublist.cons_cons _ (List.Sublist.cons_cons _ (List.Sublist.cons_cons _ (List.Sublist.cons_cons _ (List.Sublist.cons_cons _ (List.Sublist.cons_cons _ (List.Sublist.cons_cons _ (List.Sublist.cons_cons _ (List.Sublist.cons_cons _ (List.Sublist.cons_cons _ (List.Sublist.cons _ (List.Sublist.cons _ (List.Sublist.refl _))))))))))))))))))))))))))))))))))) (gives_load g3 0 47 (joinA [#[.slice (some ⟨g7, 0, none⟩) 24 cap_3, .slice (some ⟨g8, 0, none⟩) 24 cap_3b], #[.slice (some ⟨g12, 0, none⟩) 24 cap_7, .slice (some ⟨g13, 0, none⟩) 24 cap_7b], #[.slice (some ⟨g17, 0, none⟩) 24 cap_11, .slice (some ⟨g18, 0, none⟩) 24 cap_11b], #[.slice (some ⟨g22, 0, none⟩) 24 cap_15, .slice (some ⟨g23, 0, none⟩) 24 cap_15b], #[.slice (some ⟨g27, 0, none⟩) 24 cap_19, .slice (some ⟨g28, 0, none⟩) 24 cap_19b], #[.slice (some ⟨g32, 0, none⟩) 24 cap_23, .slice (some ⟨g33, 0, none⟩) 24 cap_23b]]) (joinA [#[.slice (some ⟨g7, 0, none⟩) 24 cap_3, .slice (some ⟨g8, 0, none⟩) 24 cap_3b], #[.slice (some ⟨g12, 0, none⟩) 24 cap_7, .slice (some ⟨g13, 0, none⟩) 24 cap_7b], #[.slice (some ⟨g17, 0, none⟩) 24 cap_11, .slice (some ⟨g18, 0, none⟩) 24 cap_11b], #[.slice (some ⟨g22, 0, none⟩) 24 cap_15, .slice (some ⟨g23, 0, none⟩) 24 cap_15b], #[.slice (some ⟨g27, 0, none⟩) 24 cap_19, .slice (some ⟨g28, 0, none⟩) 24 cap_19b], #[.slice (some ⟨g32, 0, none⟩) 24 cap_23, .slice (some ⟨g33, 0, none⟩) 24 cap_23b]]) _ (by rfl) (fun _ h => h.blk 31 (by rfl)) (Sl.refl _) Tryd.underlying47 (by rfl) (hi_a 2 _ _ (by kernel_rfl) (by simp) rfl)) ?_
  refine flow_take (i := 1) (.pointer (some ⟨g4, 0, none⟩)) (by rfl) (by kernel_rfl) (by kernel_rfl) (by kernel_rfl) (by rfl) (by kernel_rfl) (List.Sublist.cons_cons _ (List.Sublist.cons_cons _ (List.Sublist.cons_cons _ (List.Sublist.cons_cons _ (List.Sublist.cons_cons _ (List.Sublist.cons_cons _ (List.Sublist.cons_cons _ (List.Sublist.cons_cons _ (List.Sublist.cons_cons _ (List.Sublist.cons_cons _ (List.Sublist.cons_cons _ (List.Sublist.cons_cons _ (List.Sublist.cons_cons _ (List.Sublist.cons_cons _ (List.Sublist.cons_cons _ (List.Sublist.cons_cons _ (List.Sublist.cons_cons _ (List.Sublist.cons_cons _ (List.Sublist.cons_cons _ (List.Sublist.cons_cons _ (List.Sublist.cons_cons _ (List.Sublist.cons_cons _ (List.Sublist.cons_cons _ (List.Sublist.cons_cons _ (List.Sublist.cons_cons _ (List.Sublist.cons_cons _ (List.Sublist.cons_cons _ (List.Sublist.cons_cons _ (List.Sublist.cons_cons _ (List.Sublist.cons_cons _ (List.Sublist.cons_cons _ (List.Sublist.cons_cons _ (List.Sublist.cons _ (List.Sublist.cons _ (List.Sublist.refl _))))))))))))))))))))))))))))))))))) (gives_value _ fun _ => by kernel_rfl) ?_
  refine flow_take (i := 2) (.agg (c2 (⟨Fp.n (num l_1), Fp.n (num l_2)⟩ : F2))) (by rfl) (by kernel_rfl) (by kernel_rfl) (by kernel_rfl) (by rfl) (by kernel_rfl) (List.Sublist.cons_cons _ (List.Sublist.cons_cons _ (List.Sublist.cons_cons _ (List.Sublist.cons_cons _ (List.Sublist.cons_cons _ (List.Sublist.cons_cons _ (List.Sublist.cons_cons _ (List.Sublist.cons_cons _ (List.Sublist.cons_cons _ (List.Sublist.cons_cons _ (List.Sublist.cons_cons _ (List.Sublist.cons_cons _ (List.Sublist.cons_cons _ (List.Sublist.cons_cons _ (List.Sublist.cons_cons _ (List.Sublist.cons_cons _ (List.Sublist.cons_cons _ (List.Sublist.cons_cons _ (List.Sublist.cons_cons _ (List.Sublist.cons_cons _ (List.Sublist.cons_cons _ (List.Sublist.cons_cons _ (List.Sublist.cons_cons _ (List.Sublist.cons_cons _ (List.Sublist.cons_cons _ (List.Sublist.cons_cons _ (List.Sublist.cons_cons _ (List.Sublist.cons_cons _ (List.Sublist.cons_cons _ (List.Sublist.cons_cons _ (List.Sublist.cons_cons _ (List.Sublist.cons_cons _ (List.Sublist.cons _ (List.Sublist.cons _ (List.Sublist.refl _))))))))))))))))))))))))))))))))))) (gives_load g4 0 76 (joinA [(c2 (⟨Fp.n (num l_1), Fp.n (num l_2)⟩ : F2)), (c2 (⟨Fp.n (num l_5), Fp.n (num l_6)⟩ : F2)), (c2 (⟨Fp.n (num l_9), Fp.n (num l_10)⟩ : F2)), (c2 (⟨Fp.n (num l_13), Fp.n (num l_14)⟩ : F2)), (c2 (⟨Fp.n (num l_17), Fp.n (num l_18)⟩ : F2)), (c2 (⟨Fp.n (num l_21), Fp.n (num l_22)⟩ : F2))]) (c2 (⟨Fp.n (num l_1), Fp.n (num l_2)⟩ : F2)) _ (by rfl) (fun _ h => h.blk 30 (by rfl)) (sl_joinC 12 _ (by simp [c2_size]) 0 _ (by rfl) _ (by rfl)) Tryd.underlying36 (by rfl) (hi_2 _)) ?_
  refine flow_take (i := 3) (.pointer (some ⟨g4, 24, none⟩)) (by rfl) (by kernel_rfl) (by kernel_rfl) (by kernel_rfl) (by rfl) (by kernel_rfl) (List.Sublist.cons_cons _ (List.Sublist.cons_cons _ (List.Sublist.cons_cons _ (List.Sublist.cons_cons _ (List.Sublist.cons_cons _ (List.Sublist.cons_cons _ (List.Sublist.cons_cons _ (List.Sublist.cons_cons _ (List.Sublist.cons_cons _ (List.Sublist.cons_cons _ (List.Sublist.cons_cons _ (List.Sublist.cons_cons _ (List.Sublist.cons_cons _ (List.Sublist.cons_cons _ (List.Sublist.cons_cons _ (List.Sublist.cons_cons _ (List.Sublist.cons_cons _ (List.Sublist.cons_cons _ (List.Sublist.cons_cons _ (List.Sublist.cons_cons _ (List.Sublist.cons_cons _ (List.Sublist.cons_cons _ (List.Sublist.cons_cons _ (List.Sublist.cons_cons _ (List.Sublist.cons_cons _ (List.Sublist.cons_cons _ (List.Sublist.cons_cons _ (List.Sublist.cons_cons _ (List.Sublist.cons_cons _ (List.Sublist.cons_cons _ (List.Sublist.cons_cons _ (List.Sublist.cons_cons _ (List.Sublist.cons _ (List.Sublist.cons _ (List.Sublist.refl _))))))))))))))))))))))))))))))))))) (gives_value _ fun _ => by kernel_rfl) ?_
  refine flow_take (i := 4) (.agg (c2 (⟨Fp.n (num l_9), Fp.n (num l_10)⟩ : F2))) (by rfl) (by kernel_rfl) (by kernel_rfl) (by kernel_rfl) (by rfl) (by kernel_rfl) (List.Sublist.cons_cons _ (List.Sublist.cons_cons _ (List.Sublist.cons_cons _ (List.Sublist.cons_cons _ (List.Sublist.cons_cons _ (List.Sublist.cons_cons _ (List.Sublist.cons_cons _ (List.Sublist.cons_cons _ (List.Sublist.cons_cons _ (List.Sublist.cons_cons _ (List.Sublist.cons_cons _ (List.Sublist.cons_cons _ (List.Sublist.cons_cons _ (List.Sublist.cons_cons _ (List.Sublist.cons_cons _ (List.Sublist.cons_cons _ (List.Sublist.cons_cons _ (List.Sublist.cons_cons _ (List.Sublist.cons_cons _ (List.Sublist.cons_cons _ (List.Sublist.cons_cons _ (List.Sublist.cons_cons _ (List.Sublist.cons_cons _ (List.Sublist.cons_cons _ (List.Sublist.cons_cons _ (List.Sublist.cons_cons _ (List.Sublist.cons_cons _ (List.Sublist.cons_cons _ (List.Sublist.cons_cons _ (List.Sublist.cons_cons _ (List.Sublist.cons_cons _ (List.Sublist.cons_cons _ (List.Sublist.cons _ (List.Sublist.cons _ (List.Sublist.refl _))))))))))))))))))))))))))))))))))) (gives_load g4 24 76 (joinA [(c2 (⟨Fp.n (num l_1), Fp.n (num l_2)⟩ : F2)), (c2 (⟨Fp.n (num l_5), Fp.n (num l_6)⟩ : F2)), (c2 (⟨Fp.n (num l_9), Fp.n (num l_10)⟩ : F2)), (c2 (⟨Fp.n (num l_13), Fp.n (num l_14)⟩ : F2)), (c2 (⟨Fp.n (num l_17), Fp.n (num l_18)⟩ : F2)), (c2 (⟨Fp.n (num l_21), Fp.n (num l_22)⟩ : F2))]) (c2 (⟨Fp.n (num l_9), Fp.n (num l_10)⟩ : F2)) _ (by rfl) (fun _ h => h.blk 30 (by rfl)) (sl_joinC 12 _ (by simp [c2_size]) 2 _ (by rfl) _ (by rfl)) Tryd.underlying36 (by rfl) (hi_2 _)) ?_
  refine flow_take (i := 5) (.pointer (some ⟨g4, 48, none⟩)) (by rfl) (by kernel_rfl) (by kernel_rfl) (by kernel_rfl) (by rfl) (by kernel_rfl) (List.Sublist.cons_cons _ (List.Sublist.cons_cons _ (List.Sublist.cons_cons _ (List.Sublist.cons_cons _ (List.Sublist.cons_cons _ (List.Sublist.cons_cons _ (List.Sublist.cons_cons _ (List.Sublist.cons_cons _ (List.Sublist.cons_cons _ (List.Sublist.cons_cons _ (List.Sublist.cons_cons _ (List.Sublist.cons_cons _ (List.Sublist.cons_cons _ (List.Sublist.cons_cons _ (List.Sublist.cons_cons _ (List.Sublist.cons_cons _ (List.Sublist.cons_cons _ (List.Sublist.cons_cons _ (List.Sublist.cons_cons _ (List.Sublist.cons_cons _ (List.Sublist.cons_cons _ (List.Sublist.cons_cons _ (List.Sublist.cons_cons _ (List.Sublist.cons_cons _ (List.Sublist.cons_cons _ (List.Sublist.cons_cons _ (List.Sublist.cons_cons _ (List.Sublist.cons_cons _ (List.Sublist.cons_cons _ (List.Sublist.cons_cons _ (List.Sublist.cons_cons _ (List.Sublist.cons_cons _ (List.Sublist.cons _ (List.Sublist.cons _ (List.Sublist.refl _))))))))))))))))))))))))))))))))))) (gives_value _ fun _ => by kernel_rfl) ?_
  refine flow_take (i := 6) (.agg (c2 (⟨Fp.n (num l_17), Fp.n (num l_18)⟩ : F2))) (by rfl) (by kernel_rfl) (by kernel_rfl) (by kernel_rfl) (by rfl) (by kernel_rfl) (List.Sublist.cons_cons _ (List.Sublist.cons_cons _ (List.Sublist.cons_cons _ (List.Sublist.cons_cons _ (List.Sublist.cons_cons _ (List.Sublist.cons_cons _ (List.Sublist.cons_cons _ (List.Sublist.cons_cons _ (List.Sublist.cons_cons _ (List.Sublist.cons_cons _ (List.Sublist.cons_cons _ (List.Sublist.cons_cons _ (List.Sublist.cons_cons _ (List.Sublist.cons_cons _ (List.Sublist.cons_cons _ (List.Sublist.cons_cons _ (List.Sublist.cons_cons _ (List.Sublist.cons_cons _ (List.Sublist.cons_cons _ (List.Sublist.cons_cons _ (List.Sublist.cons_cons _ (List.Sublist.cons_cons _ (List.Sublist.cons_cons _ (List.Sublist.cons_cons _ (List.Sublist.cons_cons _ (List.Sublist.cons_cons _ (List.Sublist.cons_cons _ (List.Sublist.cons_cons _ (List.Sublist.cons_cons _ (List.Sublist.cons_cons _ (List.Sublist.cons_cons _ (List.Sublist.cons_cons _ (List.Sublist.cons _ (List.Sublist.cons _ (List.Sublist.refl _))))))))))))))))))))))))))))))))))) (gives_load g4 48 76 (joinA [(c2 (⟨Fp.n (num l_1), Fp.n (num l_2)⟩ : F2)), (c2 (⟨Fp.n (num l_5), Fp.n (num l_6)⟩ : F2)), (c2 (⟨Fp.n (num l_9), Fp.n (num l_10)⟩ : F2)), (c2 (⟨Fp.n (num l_13), Fp.n (num l_14)⟩ : F2)), (c2 (⟨Fp.n (num l_17), Fp.n (num l_18)⟩ : F2)), (c2 (⟨Fp.n (num l_21), Fp.n (num l_22)⟩ : F2))]) (c2 (⟨Fp.n (num l_17), Fp.n (num l_18)⟩ : F2)) _ (by rfl) (fun _ h => h.blk 30 (by rfl)) (sl_joinC 12 _ (by simp [c2_size]) 4 _ (by rfl) _ (by rfl)) Tryd.underlying36 (by rfl) (hi_2 _)) ?_
  refine flow_take (i := 7) (.agg (c3 (⟨(⟨Fp.n (num l_1), Fp.n (num l_2)⟩ : F2), (⟨Fp.n (num l_9), Fp.n (num l_10)⟩ : F2), (⟨Fp.n (num l_17), Fp.n (num l_18)⟩ : F2)⟩ : C3))) (by rfl) (by kernel_rfl) (by kernel_rfl) (by kernel_rfl) (by rfl) (by kernel_rfl) (List.Sublist.cons_cons _ (List.Sublist.cons_cons _ (List.Sublist.cons_cons _ (List.Sublist.cons_cons _ (List.Sublist.cons_cons _ (List.Sublist.cons_cons _ (List.Sublist.cons_cons _ (List.Sublist.cons_cons _ (List.Sublist.cons_cons _ (List.Sublist.cons_cons _ (List.Sublist.cons_cons _ (List.Sublist.cons_cons _ (List.Sublist.cons_cons _ (List.Sublist.cons_cons _ (List.Sublist.cons_cons _ (List.Sublist.cons_cons _ (List.Sublist.cons_cons _ (List.Sublist.cons_cons _ (List.Sublist.cons_cons _ (List.Sublist.cons_cons _ (List.Sublist.cons_cons _ (List.Sublist.cons_cons _ (List.Sublist.cons_cons _ (List.Sublist.cons_cons _ (List.Sublist.cons_cons _ (List.Sublist.cons_cons _ (List.Sublist.cons_cons _ (List.Sublist.cons_cons _ (List.Sublist.cons_cons _ (List.Sublist.cons_cons _ (List.Sublist.cons_cons _ (List.Sublist.cons_cons _ (List.Sublist.cons _ (List.Sublist.cons _ (List.Sublist.refl _))))))))))))))))))))))))))))))))))) (gb_cubic [(0, (c2 (⟨Fp.n (num l_1), Fp.n (num l_2)⟩ : F2))), (1, (c2 (⟨Fp.n (num l_9), Fp.n (num l_10)⟩ : F2))), (2, (c2 (⟨Fp.n (num l_17), Fp.n (num l_18)⟩ : F2)))] ⟨congrArg some (c2_size _).symm, congrArg some (c2_size _).symm, congrArg some (c2_size _).symm, trivial⟩ (by rfl) (c3 (⟨(⟨Fp.n (num l_1), Fp.n (num l_2)⟩ : F2), (⟨Fp.n (num l_9), Fp.n (num l_10)⟩ : F2), (⟨Fp.n (num l_17), Fp.n (num l_18)⟩ : F2)⟩ : C3)) (by rfl)) ?_
  refine flow_take (i := 8) (.pointer (some ⟨g4, 12, none⟩)) (by rfl) (by kernel_rfl) (by kernel_rfl) (by kernel_rfl) (by rfl) (by kernel_rfl) (List.Sublist.cons_cons _ (List.Sublist.cons_cons _ (List.Sublist.cons_cons _ (List.Sublist.cons_cons _ (List.Sublist.cons_cons _ (List.Sublist.cons_cons _ (List.Sublist.cons_cons _ (List.Sublist.cons_cons _ (List.Sublist.cons_cons _ (List.Sublist.cons_cons _ (List.Sublist.cons_cons _ (List.Sublist.cons_cons _ (List.Sublist.cons_cons _ (List.Sublist.cons_cons _ (List.Sublist.cons_cons _ (List.Sublist.cons_cons _ (List.Sublist.cons_cons _ (List.Sublist.cons_cons _ (List.Sublist.cons_cons _ (List.Sublist.cons_cons _ (List.Sublist.cons_cons _ (List.Sublist.cons_cons _ (List.Sublist.cons_cons _ (List.Sublist.cons_cons _ (List.Sublist.cons_cons _ (List.Sublist.cons_cons _ (List.Sublist.cons_cons _ (List.Sublist.cons_cons _ (List.Sublist.cons_cons _ (List.Sublist.cons_cons _ (List.Sublist.cons_cons _ (List.Sublist.cons_cons _ (List.Sublist.cons _ (List.Sublist.cons _ (List.Sublist.refl _))))))))))))))))))))))))))))))))))) (gives_value _ fun _ => by kernel_rfl) ?_
  refine flow_take (i := 9) (.agg (c2 (⟨Fp.n (num l_5), Fp.n (num l_6)⟩ : F2))) (by rfl) (by kernel_rfl) (by kernel_rfl) (by kernel_rfl) (by rfl) (by kernel_rfl) (List.Sublist.cons_cons _ (List.Sublist.cons_cons _ (List.Sublist.cons_cons _ (List.Sublist.cons_cons _ (List.Sublist.cons_cons _ (List.Sublist.cons_cons _ (List.Sublist.cons_cons _ (List.Sublist.cons_cons _ (List.Sublist.cons_cons _ (List.Sublist.cons_cons _ (List.Sublist.cons_cons _ (List.Sublist.cons_cons _ (List.Sublist.cons_cons _ (List.Sublist.cons_cons _ (List.Sublist.cons_cons _ (List.Sublist.cons_cons _ (List.Sublist.cons_cons _ (List.Sublist.cons_cons _ (List.Sublist.cons_cons _ (List.Sublist.cons_cons _ (List.Sublist.cons_cons _ (List.Sublist.cons_cons _ (List.Sublist.cons_cons _ (List.Sublist.cons_cons _ (List.Sublist.cons_cons _ (List.Sublist.cons_cons _ (List.Sublist.cons_cons _ (List.Sublist.cons_cons _ (List.Sublist.cons_cons _ (List.Sublist.cons_cons _ (List.Sublist.cons_cons _ (List.Sublist.cons_cons _ (List.Sublist.cons _ (List.Sublist.cons _ (List.Sublist.refl _))))))))))))))))))))))))))))))))))) (gives_load g4 12 76 (joinA [(c2 (⟨Fp.n (num l_1), Fp.n (num l_2)⟩ : F2)), (c2 (⟨Fp.n (num l_5), Fp.n (num l_6)⟩ : F2)), (c2 (⟨Fp.n (num l_9), Fp.n (num l_10)⟩ : F2)), (c2 (⟨Fp.n (num l_13), Fp.n (num l_14)⟩ : F2)), (c2 (⟨Fp.n (num l_17), Fp.n (num l_18)⟩ : F2)), (c2 (⟨Fp.n (num l_21), Fp.n (num l_22)⟩ : F2))]) (c2 (⟨Fp.n (num l_5), Fp.n (num l_6)⟩ : F2)) _ (by rfl) (fun _ h => h.blk 30 (by rfl)) (sl_joinC 12 _ (by simp [c2_size]) 1 _ (by rfl) _ (by rfl)) Tryd.underlying36 (by rfl) (hi_2 _)) ?_
  refine flow_take (i := 10) (.pointer (some ⟨g4, 36, none⟩)) (by rfl) (by kernel_rfl) (by kernel_rfl) (by kernel_rfl) (by rfl) (by kernel_rfl) (List.Sublist.cons_cons _ (List.Sublist.cons_cons _ (List.Sublist.cons_cons _ (List.Sublist.cons_cons _ (List.Sublist.cons_cons _ (List.Sublist.cons_cons _ (List.Sublist.cons_cons _ (List.Sublist.cons_cons _ (List.Sublist.cons_cons _ (List.Sublist.cons_cons _ (List.Sublist.cons_cons _ (List.Sublist.cons_cons _ (List.Sublist.cons_cons _ (List.Sublist.cons_cons _ (List.Sublist.cons_cons _ (List.Sublist.cons_cons _ (List.Sublist.cons_cons _ (List.Sublist.cons_cons _ (List.Sublist.cons_cons _ (List.Sublist.cons_cons _ (List.Sublist.cons_cons _ (List.Sublist.cons_cons _ (List.Sublist.cons_cons _ (List.Sublist.cons_cons _ (List.Sublist.cons_cons _ (List.Sublist.cons_cons _ (List.Sublist.cons_cons _ (List.Sublist.cons_cons _ (List.Sublist.cons_cons _ (List.Sublist.cons_cons _ (List.Sublist.cons_cons _ (List.Sublist.cons_cons _ (List.Sublist.cons _ (List.Sublist.cons _ (List.Sublist.refl _))))))))))))))))))))))))))))))))))) (gives_value _ fun _ => by kernel_rfl) ?_
  refine flow_take (i := 11) (.agg (c2 (⟨Fp.n (num l_13), Fp.n (num l_14)⟩ : F2))) (by rfl) (by kernel_rfl) (by kernel_rfl) (by kernel_rfl) (by rfl) (by kernel_rfl) (List.Sublist.cons_cons _ (List.Sublist.cons_cons _ (List.Sublist.cons_cons _ (List.Sublist.cons_cons _ (List.Sublist.cons_cons _ (List.Sublist.cons_cons _ (List.Sublist.cons_cons _ (List.Sublist.cons_cons _ (List.Sublist.cons_cons _ (List.Sublist.cons_cons _ (List.Sublist.cons_cons _ (List.Sublist.cons_cons _ (List.Sublist.cons_cons _ (List.Sublist.cons_cons _ (List.Sublist.cons_cons _ (List.Sublist.cons_cons _ (List.Sublist.cons_cons _ (List.Sublist.cons_cons _ (List.Sublist.cons_cons _ (List.Sublist.cons_cons _ (List.Sublist.cons_cons _ (List.Sublist.cons_cons _ (List.Sublist.cons_cons _ (List.Sublist.cons_cons _ (List.Sublist.cons_cons _ (List.Sublist.cons_cons _ (List.Sublist.cons_cons _ (List.Sublist.cons_cons _ (List.Sublist.cons_cons _ (List.Sublist.cons_cons _ (List.Sublist.cons_cons _ (List.Sublist.cons_cons _ (List.Sublist.cons _ (List.Sublist.cons _ (List.Sublist.refl _))))))))))))))))))))))))))))))))))) (gives_load g4 36 76 (joinA [(c2 (⟨Fp.n (num l_1), Fp.n (num l_2)⟩ : F2)), (c2 (⟨Fp.n (num l_5), Fp.n (num l_6)⟩ : F2)), (c2 (⟨Fp.n (num l_9), Fp.n (num l_10)⟩ : F2)), (c2 (⟨Fp.n (num l_13), Fp.n (num l_14)⟩ : F2)), (c2 (⟨Fp.n (num l_17), Fp.n (num l_18)⟩ : F2)), (c2 (⟨Fp.n (num l_21), Fp.n (num l_22)⟩ : F2))]) (c2 (⟨Fp.n (num l_13), Fp.n (num l_14)⟩ : F2)) _ (by rfl) (fun _ h => h.blk 30 (by rfl)) (sl_joinC 12 _ (by simp [c2_size]) 3 _ (by rfl) _ (by rfl)) Tryd.underlying36 (by rfl) (hi_2 _)) ?_
  refine flow_take (i := 12) (.pointer (some ⟨g4, 60, none⟩)) (by rfl) (by kernel_rfl) (by kernel_rfl) (by kernel_rfl) (by rfl) (by kernel_rfl) (List.Sublist.cons_cons _ (List.Sublist.cons_cons _ (List.Sublist.cons_cons _ (List.Sublist.cons_cons _ (List.Sublist.cons_cons _ (List.Sublist.cons_cons _ (List.Sublist.cons_cons _ (List.Sublist.cons_cons _ (List.Sublist.cons_cons _ (List.Sublist.cons_cons _ (List.Sublist.cons_cons _ (List.Sublist.cons_cons _ (List.Sublist.cons_cons _ (List.Sublist.cons_cons _ (List.Sublist.cons_cons _ (List.Sublist.cons_cons _ (List.Sublist.cons_cons _ (List.Sublist.cons_cons _ (List.Sublist.cons_cons _ (List.Sublist.cons_cons _ (List.Sublist.cons_cons _ (List.Sublist.cons_cons _ (List.Sublist.cons_cons _ (List.Sublist.cons_cons _ (List.Sublist.cons_cons _ (List.Sublist.cons_cons _ (List.Sublist.cons_cons _ (List.Sublist.cons_cons _ (List.Sublist.cons_cons _ (List.Sublist.cons_cons _ (List.Sublist.cons_cons _ (List.Sublist.cons_cons _ (List.Sublist.cons _ (List.Sublist.cons _ (List.Sublist.refl _))))))))))))))))))))))))))))))))))) (gives_value _ fun _ => by kernel_rfl) ?_
  refine flow_take (i := 13) (.agg (c2 (⟨Fp.n (num l_21), Fp.n (num l_22)⟩ : F2))) (by rfl) (by kernel_rfl) (by kernel_rfl) (by kernel_rfl) (by rfl) (by kernel_rfl) (List.Sublist.cons_cons _ (List.Sublist.cons_cons _ (List.Sublist.cons_cons _ (List.Sublist.cons_cons _ (List.Sublist.cons_cons _ (List.Sublist.cons_cons _ (List.Sublist.cons_cons _ (List.Sublist.cons_cons _ (List.Sublist.cons_cons _ (List.Sublist.cons_cons _ (List.Sublist.cons_cons _ (List.Sublist.cons_cons _ (List.Sublist.cons_cons _ (List.Sublist.cons_cons _ (List.Sublist.cons_cons _ (List.Sublist.cons_cons _ (List.Sublist.cons_cons _ (List.Sublist.cons_cons _ (List.Sublist.cons_cons _ (List.Sublist.cons_cons _ (List.Sublist.cons_cons _ (List.Sublist.cons_cons _ (List.Sublist.cons_cons _ (List.Sublist.cons_cons _ (List.Sublist.cons_cons _ (List.Sublist.cons_cons _ (List.Sublist.cons_cons _ (List.Sublist.cons_cons _ (List.Sublist.cons_cons _ (List.Sublist.cons_cons _ (List.Sublist.cons_cons _ (List.Sublist.cons_cons _ (List.Sublist.cons _ (List.Sublist.cons _ (List.Sublist.refl _))))))))))))))))))))))))))))))))))) (gives_load g4 60 76 (joinA [(c2 (⟨Fp.n (num l_1), Fp.n (num l_2)⟩ : F2)), (c2 (⟨Fp.n (num l_5), Fp.n (num l_6)⟩ : F2)), (c2 (⟨Fp.n (num l_9), Fp.n (num l_10)⟩ : F2)), (c2 (⟨Fp.n (num l_13), Fp.n (num l_14)⟩ : F2)), (c2 (⟨Fp.n (num l_17), Fp.n (num l_18)⟩ : F2)), (c2 (⟨Fp.n (num l_21), Fp.n (num l_22)⟩ : F2))]) (c2 (⟨Fp.n (num l_21), Fp.n (num l_22)⟩ : F2)) _ (by rfl) (fun _ h => h.blk 30 (by rfl)) (sl_joinC 12 _ (by simp [c2_size]) 5 _ (by rfl) _ (by rfl)) Tryd.underlying36 (by rfl) (hi_2 _)) ?_
  refine flow_take (i := 14) (.agg (c3 (⟨(⟨Fp.n (num l_5), Fp.n (num l_6)⟩ : F2), (⟨Fp.n (num l_13), Fp.n (num l_14)⟩ : F2), (⟨Fp.n (num l_21), Fp.n (num l_22)⟩ : F2)⟩ : C3))) (by rfl) (by kernel_rfl) (by kernel_rfl) (by kernel_rfl) (by rfl) (by kernel_rfl) (List.Sublist.cons_cons _ (List.Sublist.cons_cons _ (List.Sublist.cons_cons _ (List.Sublist.cons_cons _ (List.Sublist.cons_cons _ (List.Sublist.cons_cons _ (List.Sublist.cons_cons _ (List.Sublist.cons_cons _ (List.Sublist.cons_cons _ (List.Sublist.cons_cons _ (List.Sublist.cons_cons _ (List.Sublist.cons_cons _ (List.Sublist.cons_cons _ (List.Sublist.cons_cons _ (List.Sublist.cons_cons _ (List.Sublist.cons_cons _ (List.Sublist.cons_cons _ (List.Sublist.cons_cons _ (List.Sublist.cons_cons _ (List.Sublist.cons_cons _ (List.Sublist.cons_cons _ (List.Sublist.cons_cons _ (List.Sublist.cons_cons _ (List.Sublist.cons_cons _ (List.Sublist.cons_cons _ (List.Sublist.cons_cons _ (List.Sublist.cons_cons _ (List.Sublist.cons_cons _ (List.Sublist.cons_cons _ (List.Sublist.cons_cons _ (List.Sublist.cons_cons _ (List.Sublist.cons_cons _ (List.Sublist.cons _ (List.Sublist.cons _ (List.Sublist.refl _))))))))))))))))))))))))))))))))))) (gb_cubic [(0, (c2 (⟨Fp.n (num l_5), Fp.n (num l_6)⟩ : F2))), (1, (c2 (⟨Fp.n (num l_13), Fp.n (num l_14)⟩ : F2))), (2, (c2 (⟨Fp.n (num l_21), Fp.n (num l_22)⟩ : F2)))] ⟨congrArg some (c2_size _).symm, congrArg some (c2_size _).symm, congrArg some (c2_size _).symm, trivial⟩ (by rfl) (c3 (⟨(⟨Fp.n (num l_5), Fp.n (num l_6)⟩ : F2), (⟨Fp.n (num l_13), Fp.n (num l_14)⟩ : F2), (⟨Fp.n (num l_21), Fp.n (num l_22)⟩ : F2)⟩ : C3)) (by rfl)) ?_
  refine flow_take (i := 15) (.agg (c12 (⟨(⟨(⟨Fp.n (num l_1), Fp.n (num l_2)⟩ : F2), (⟨Fp.n (num l_9), Fp.n (num l_10)⟩ : F2), (⟨Fp.n (num l_17), Fp.n (num l_18)⟩ : F2)⟩ : C3), (⟨(⟨Fp.n (num l_5), Fp.n (num l_6)⟩ : F2), (⟨Fp.n (num l_13), Fp.n (num l_14)⟩ : F2), (⟨Fp.n (num l_21), Fp.n (num l_22)⟩ : F2)⟩ : C3)⟩ : T12))) (by rfl) (by kernel_rfl) (by kernel_rfl) (by kernel_rfl) (by rfl) (by kernel_rfl) (List.Sublist.cons_cons _ (List.Sublist.cons_cons _ (List.Sublist.cons_cons _ (List.Sublist.cons_cons _ (List.Sublist.cons_cons _ (List.Sublist.cons_cons _ (List.Sublist.cons_cons _ (List.Sublist.cons_cons _ (List.Sublist.cons_cons _ (List.Sublist.cons_cons _ (List.Sublist.cons_cons _ (List.Sublist.cons_cons _ (List.Sublist.cons_cons _ (List.Sublist.cons_cons _ (List.Sublist.cons_cons _ (List.Sublist.cons_cons _ (List.Sublist.cons_cons _ (List.Sublist.cons_cons _ (List.Sublist.cons_cons _ (List.Sublist.cons_cons _ (List.Sublist.cons_cons _ (List.Sublist.cons_cons _ (List.Sublist.cons_cons _ (List.Sublist.cons_cons _ (List.Sublist.cons_cons _ (List.Sublist.cons_cons _ (List.Sublist.cons_cons _ (List.Sublist.cons_cons _ (List.Sublist.cons_cons _ (List.Sublist.cons_cons _ (List.Sublist.cons_cons _ (List.Sublist.cons_cons _ (List.Sublist.cons _ (List.Sublist.cons _ (List.Sublist.refl _))))))))))))))))))))))))))))))))))) (gb_tower [(0, (c3 (⟨(⟨Fp.n (num l_1), Fp.n (num l_2)⟩ : F2), (⟨Fp.n (num l_9), Fp.n (num l_10)⟩ : F2), (⟨Fp.n (num l_17), Fp.n (num l_18)⟩ : F2)⟩ : C3))), (1, (c3 (⟨(⟨Fp.n (num l_5), Fp.n (num l_6)⟩ : F2), (⟨Fp.n (num l_13), Fp.n (num l_14)⟩ : F2), (⟨Fp.n (num l_21), Fp.n (num l_22)⟩ : F2)⟩ : C3)))] ⟨congrArg some (c3_size _).symm, congrArg some (c3_size _).symm, trivial⟩ (by rfl) (c12 (⟨(⟨(⟨Fp.n (num l_1), Fp.n (num l_2)⟩ : F2), (⟨Fp.n (num l_9), Fp.n (num l_10)⟩ : F2), (⟨Fp.n (num l_17), Fp.n (num l_18)⟩ : F2)⟩ : C3), (⟨(⟨Fp.n (num l_5), Fp.n (num l_6)⟩ : F2), (⟨Fp.n (num l_13), Fp.n (num l_14)⟩ : F2), (⟨Fp.n (num l_21), Fp.n (num l_22)⟩ : F2)⟩ : C3)⟩ : T12)) (by rfl)) ?_
  refine flow_one 16 (by kernel_rfl) ?_
  refine F_store (t := 47) 33 g1 (joinA [#[.slice none 0 0, .slice none 0 0], #[.slice none 0 0, .slice none 0 0], #[.slice none 0 0, .slice none 0 0], #[.slice none 0 0, .slice none 0 0], #[.slice none 0 0, .slice none 0 0], #[.slice none 0 0, .slice none 0 0]]) (joinA [#[.slice (some ⟨g7, 0, none⟩) 24 cap_3, .slice (some ⟨g8, 0, none⟩) 24 cap_3b], #[.slice (some ⟨g12, 0, none⟩) 24 cap_7, .slice (some ⟨g13, 0, none⟩) 24 cap_7b], #[.slice (some ⟨g17, 0, none⟩) 24 cap_11, .slice (some ⟨g18, 0, none⟩) 24 cap_11b], #[.slice (some ⟨g22, 0, none⟩) 24 cap_15, .slice (some ⟨g23, 0, none⟩) 24 cap_15b], #[.slice (some ⟨g27, 0, none⟩) 24 cap_19, .slice (some ⟨g28, 0, none⟩) 24 cap_19b], #[.slice (some ⟨g32, 0, none⟩) 24 cap_23, .slice (some ⟨g33, 0, none⟩) 24 cap_23b]]) (by rfl) (by rfl) (by rfl) (by rfl) (by rfl) (hi_a 2 _ _ (by kernel_rfl) (by simp) rfl) (sz_aa 2 _ _ (by simp) (by simp) rfl) (one_join _ (by intro a ha; simp only [List.mem_cons, List.not_mem_nil, or_false] at ha; rcases ha with rfl | rfl | rfl | rfl | rfl | rfl <;> exact one_N (by rfl) (by rfl))) (.inr (List.Sublist.cons_cons _ (List.Sublist.cons_cons _ (List.Sublist.cons_cons _ (List.Sublist.cons_cons _ (List.Sublist.cons_cons _ (List.Sublist.cons_cons _ (List.Sublist.cons_cons _ (List.Sublist.cons_cons _ (List.Sublist.cons_cons _ (List.Sublist.cons_cons _ (List.Sublist.cons_cons _ (List.Sublist.cons_cons _ (List.Sublist.cons_cons _ (List.Sublist.cons_cons _ (List.Sublist.cons_cons _ (List.Sublist.cons_cons _ (List.Sublist.cons_cons _ (List.Sublist.cons_cons _ (List.Sublist.cons_cons _ (List.Sublist.cons_cons _ (List.Sublist.cons_cons _ (List.Sublist.cons_cons _ (List.Sublist.cons_cons _ (List.Sublist.cons_cons _ (List.Sublist.cons_cons _ (List.Sublist.cons_cons _ (List.Sublist.cons_cons _ (List.Sublist.cons_cons _ (List.Sublist.cons_cons _ (List.Sublist.cons_cons _ (List.Sublist.cons_cons _ (List.Sublist.cons_cons _ (List.Sublist.cons _ (List.Sublist.cons _ (List.Sublist.refl _)))))))))))))))))))))))))))))))))))) ?_
  simp only [List.set_cons_zero, List.set_cons_succ]
  refine flow_one 17 (by kernel_rfl) ?_
  refine F_store (t := 51) 32 g2 (c12 (0 : T12)) (c12 (⟨(⟨(⟨Fp.n (num l_1), Fp.n (num l_2)⟩ : F2), (⟨Fp.n (num l_9), Fp.n (num l_10)⟩ : F2), (⟨Fp.n (num l_17), Fp.n (num l_18)⟩ : F2)⟩ : C3), (⟨(⟨Fp.n (num l_5), Fp.n (num l_6)⟩ : F2), (⟨Fp.n (num l_13), Fp.n (num l_14)⟩ : F2), (⟨Fp.n (num l_21), Fp.n (num l_22)⟩ : F2)⟩ : C3)⟩ : T12)) (by rfl) (by rfl) (by rfl) (by rfl) (by rfl) (hi_12 _) ((c12_size _).trans (c12_size _).symm) (c12_one _) (.inr (List.Sublist.cons_cons _ (List.Sublist.cons_cons _ (List.Sublist.cons_cons _ (List.Sublist.cons_cons _ (List.Sublist.cons_cons _ (List.Sublist.cons_cons _ (List.Sublist.cons_cons _ (List.Sublist.cons_cons _ (List.Sublist.cons_cons _ (List.Sublist.cons_cons _ (List.Sublist.cons_cons _ (List.Sublist.cons_cons _ (List.Sublist.cons_cons _ (List.Sublist.cons_cons _ (List.Sublist.cons_cons _ (List.Sublist.cons_cons _ (List.Sublist.cons_cons _ (List.Sublist.cons_cons _ (List.Sublist.cons_cons _ (List.Sublist.cons_cons _ (List.Sublist.cons_cons _ (List.Sublist.cons_cons _ (List.Sublist.cons_cons _ (List.Sublist.cons_cons _ (List.Sublist.cons_cons _ (List.Sublist.cons_cons _ (List.Sublist.cons_cons _ (List.Sublist.cons_cons _ (List.Sublist.cons_cons _ (List.Sublist.cons_cons _ (List.Sublist.cons_cons _ (List.Sublist.cons_cons _ (List.Sublist.cons _ (List.Sublist.cons _ (List.Sublist.refl _)))))))))))))))))))))))))))))))))))) ?_
  simp only [List.set_cons_zero, List.set_cons_succ]
  refine flow_done (by kernel_rfl) ?_
  intro w30 hw30
  refine wp_ret ?_
  change bodyPost _ _ _ Exit.ret _ _
  refine (ret_cell_cell (by rfl) (by rfl) (by rfl) (by rfl) (hw30.blk 33 (by rfl)) (hw30.blk 32 (by rfl)) Tryd.underlying47 (by rfl) (hi_a 2 _ _ (by kernel_rfl) (by simp) rfl) Tryd.underlying51 (by rfl) (hi_12 _) ⟨_, _, rfl, ⟨(joinC_size 2 _ (by simp)).trans rfl, (one_join _ (by intro a ha; simp only [List.mem_cons, List.not_mem_nil, or_false] at ha; rcases ha with rfl | rfl | rfl | rfl | rfl | rfl <;> exact one_N (by rfl) (by rfl)))⟩, hw30.below⟩)
theorem number_any (A0 : Option Addr) (n0 c0 : Nat) (bs0 : List Int) (v : World) (hG : Glo v) (hr0 : Reads v v.heap.size A0 n0 (bs0.map (Value.int .u8))) (ho0 : Oct bs0) (hb0 : n0 ≤ 1099511627776) : Calls Tryd.prog 34 #[.slice A0 n0 c0] v fun e w' => ∃ (u : Array Value) (x : T12), e = .returned (.tuple #[.agg u, .agg (c12 x)]) ∧ (u.size = 12 ∧ u.all (·.oneCell') = true) ∧ Below v.heap.size v w' := by
  by_cases h : n0 = 0
  · exact number_0 A0 n0 c0 bs0 v hG hr0 ho0 hb0 h
  · exact number_n A0 n0 c0 bs0 v hG hr0 ho0 hb0 (by omega)
set_option maxRecDepth 100000 in
set_option maxHeartbeats 4000000 in
theorem tlong_no (A0 : Option Addr) (L0 C0 : Nat) (A1 : Option Addr) (L1 C1 : Nat) (v : World) (h0 : L0 ≤ 2000) (h1 : L1 ≤ 2000) : Rets 33 #[.slice A0 L0 C0, .slice A1 L1 C1] v (.bool false) := by
  refine calls_fr2 Tryd.func33 rfl (by rfl : _ = 13) (by rfl) ?_
  have hw := Hbl.nil v
  refine seq_plain hw [0] (by rfl) ?_
  refine L_val (.bool false) (by rfl) (by rfl) (gives_value _ fun _ => by rfl) ?_
  refine L_end ?_
  intro w1 hw1
  refine seq_plain hw1 [0, 1, 2, 3, 4, 5, 6, 7, 8] (by rfl) ?_
  refine L_val (.slice A0 L0 C0) (by rfl) (by rfl) (gives_value _ fun _ => by rfl) ?_
  refine L_val (.int .i64 (L0 : Int)) (by rfl) (by rfl) (gives_len _ L0 C0 und_u8s (by rfl)) ?_
  refine L_val (.bool false) (by rfl) (by rfl) (gives_gtr (k := .i64) ((L0 : Int)) (2000) false (by rfl) (by rfl) (decide_eq_false (by omega))) ?_
  refine L_val (.bool false) (by rfl) (by rfl) (gives_value _ fun _ => by rfl) ?_
  refine L_val_g (dj := 8) (.slice A1 L1 C1) (by rfl) (by rfl) (by rfl) (by rfl) (by rfl) (gives_value _ fun _ => by rfl) ?_
  refine L_val_g (dj := 8) (.int .i64 (L1 : Int)) (by rfl) (by rfl) (by rfl) (by rfl) (by rfl) (gives_len _ L1 C1 und_u8s (by rfl)) ?_
  refine L_val_g (dj := 8) (.bool false) (by rfl) (by rfl) (by rfl) (by rfl) (by rfl) (gives_gtr (k := .i64) ((L1 : Int)) (2000) false (by rfl) (by rfl) (decide_eq_false (by omega))) ?_
  refine L_val (.bool false) (by rfl) (by rfl) (gives_value _ fun _ => by rfl) ?_
  refine L_val (.bool false) (by rfl) (by rfl) (gives_value _ fun _ => by rfl) ?_
  refine L_end ?_
  intro w2 hw2
  refine wp_ret ?_
  change bodyPost _ _ _ Exit.ret _ _
  refine (ret_tmp (by rfl) (by rfl) (by rfl) ⟨rfl, hw2.below⟩)
set_option maxRecDepth 100000 in
set_option maxHeartbeats 4000000 in
theorem tlong_y0 (A0 : Option Addr) (L0 C0 : Nat) (A1 : Option Addr) (L1 C1 : Nat) (v : World) (h0 : 2000 < L0) : Rets 33 #[.slice A0 L0 C0, .slice A1 L1 C1] v (.bool true) := by
  refine calls_fr2 Tryd.func33 rfl (by rfl : _ = 13) (by rfl) ?_
  have hw := Hbl.nil v
  refine seq_plain hw [0] (by rfl) ?_
  refine L_val (.bool false) (by rfl) (by rfl) (gives_value _ fun _ => by rfl) ?_
  refine L_end ?_
  intro w1 hw1
  refine seq_plain hw1 [0, 1, 2, 3, 4, 5, 6, 7, 8] (by rfl) ?_
  refine L_val (.slice A0 L0 C0) (by rfl) (by rfl) (gives_value _ fun _ => by rfl) ?_
  refine L_val (.int .i64 (L0 : Int)) (by rfl) (by rfl) (gives_len _ L0 C0 und_u8s (by rfl)) ?_
  refine L_val (.bool true) (by rfl) (by rfl) (gives_gtr (k := .i64) ((L0 : Int)) (2000) true (by rfl) (by rfl) (decide_eq_true (by omega))) ?_
  refine L_val (.bool true) (by rfl) (by rfl) (gives_value _ fun _ => by rfl) ?_
  refine L_skip (dj := 8) (by rfl) (by rfl) (by rfl) (by rfl) (by rfl) ?_
  refine L_skip (dj := 8) (by rfl) (by rfl) (by rfl) (by rfl) (by rfl) ?_
  refine L_skip (dj := 8) (by rfl) (by rfl) (by rfl) (by rfl) (by rfl) ?_
  refine L_val (.bool true) (by rfl) (by rfl) (gives_value _ fun _ => by rfl) ?_
  refine L_val (.bool true) (by rfl) (by rfl) (gives_value _ fun _ => by rfl) ?_
  refine L_end ?_
  intro w2 hw2
  refine wp_ret ?_
  change bodyPost _ _ _ Exit.ret _ _
  refine (ret_tmp (by rfl) (by rfl) (by rfl) ⟨rfl, hw2.below⟩)
set_option maxRecDepth 100000 in
set_option maxHeartbeats 4000000 in
theorem tlong_y1 (A0 : Option Addr) (L0 C0 : Nat) (A1 : Option Addr) (L1 C1 : Nat) (v : World) (h0 : L0 ≤ 2000) (h1 : 2000 < L1) : Rets 33 #[.slice A0 L0 C0, .slice A1 L1 C1] v (.bool true) := by
  refine calls_fr2 Tryd.func33 rfl (by rfl : _ = 13) (by rfl) ?_
  have hw := Hbl.nil v
  refine seq_plain hw [0] (by rfl) ?_
  refine L_val (.bool false) (by rfl) (by rfl) (gives_value _ fun _ => by rfl) ?_
  refine L_end ?_
  intro w1 hw1
  refine seq_plain hw1 [0, 1, 2, 3, 4, 5, 6, 7, 8] (by rfl) ?_
  refine L_val (.slice A0 L0 C0) (by rfl) (by rfl) (gives_value _ fun _ => by rfl) ?_
  refine L_val (.int .i64 (L0 : Int)) (by rfl) (by rfl) (gives_len _ L0 C0 und_u8s (by rfl)) ?_
  refine L_val (.bool false) (by rfl) (by rfl) (gives_gtr (k := .i64) ((L0 : Int)) (2000) false (by rfl) (by rfl) (decide_eq_false (by omega))) ?_
  refine L_val (.bool false) (by rfl) (by rfl) (gives_value _ fun _ => by rfl) ?_
  refine L_val_g (dj := 8) (.slice A1 L1 C1) (by rfl) (by rfl) (by rfl) (by rfl) (by rfl) (gives_value _ fun _ => by rfl) ?_
  refine L_val_g (dj := 8) (.int .i64 (L1 : Int)) (by rfl) (by rfl) (by rfl) (by rfl) (by rfl) (gives_len _ L1 C1 und_u8s (by rfl)) ?_
  refine L_val_g (dj := 8) (.bool true) (by rfl) (by rfl) (by rfl) (by rfl) (by rfl) (gives_gtr (k := .i64) ((L1 : Int)) (2000) true (by rfl) (by rfl) (decide_eq_true (by omega))) ?_
  refine L_val (.bool true) (by rfl) (by rfl) (gives_value _ fun _ => by rfl) ?_
  refine L_val (.bool true) (by rfl) (by rfl) (gives_value _ fun _ => by rfl) ?_
  refine L_end ?_
  intro w2 hw2
  refine wp_ret ?_
  change bodyPost _ _ _ Exit.ret _ _
  refine (ret_tmp (by rfl) (by rfl) (by rfl) ⟨rfl, hw2.below⟩)
theorem tlong_yes (A0 : Option Addr) (L0 C0 : Nat) (A1 : Option Addr) (L1 C1 : Nat) (v : World) (h : 2000 < L0 ∨ 2000 < L1) : Rets 33 #[.slice A0 L0 C0, .slice A1 L1 C1] v (.bool true) := by
  by_cases h0 : 2000 < L0
  · exact tlong_y0 A0 L0 C0 A1 L1 C1 v h0
  · exact tlong_y1 A0 L0 C0 A1 L1 C1 v (by omega) (by omega)
end Go.Proofs.YtnebmgiajfbnaaaDoor
