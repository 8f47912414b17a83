/-
  Layer 6's laws: part, number, is.
-/
import Derived.Test.YtialfoccalobpaaDoorWDAr
import Derived.Test.YtialfoccalobpaaDoorWDTwB
namespace Go.Proofs.YtialfoccalobpaaDoor
set_option linter.unusedSimpArgs false
set_option linter.unusedVariables false
open Go.RowKit
theorem part_rem (k i n j : Nat) (h : j = (48 * k + i) % n) : (48 * (k : Int) + (i : Int)).tmod (n : Int) = (j : Int) := by
  rw [Int.tmod_eq_emod_of_nonneg (by omega), h, Int.natCast_emod]
  rfl
theorem part_two (i n : Nat) (hi : i ≤ 48) (h : 0 < n) : (i < 48 ∧ 0 < n) ∨ i = 48 := by omega
theorem BB.nil : BB #[] 0 0 [] := ⟨rfl, Nat.le_refl _, by omega, rfl, rfl⟩
theorem BB.snoc {cs cs' : Array Value} {cap cap' m : Nat} {l : List Int} {d : Int} (h : BB cs cap m l) (h1 : m + 1 ≤ cap') (h2 : cs'.size = cap') (h3 : cap' ≤ 9223372036854775807) (h4 : cs'.toList.take (m + 1) = cs.toList.take m ++ [.int .u8 d]) : BB cs' cap' (m + 1) (l ++ [d]) :=
  ⟨h2, h1, h3, by rw [List.length_append, h.len]; rfl, by rw [h4, h.bytes, List.map_append]; rfl⟩
theorem Oct.nil : Oct [] := fun b hb => (List.not_mem_nil hb).elim
theorem Oct.snoc {l : List Int} (h : Oct l) {d : Int} (hd : 0 ≤ d ∧ d < 256) : Oct (l ++ [d]) := fun b hb => by
  rcases List.mem_append.1 hb with hb | hb
  · exact h b hb
  · simp at hb; subst hb; exact hd
theorem hi_a {P : Program} {t : TypeId} (s N : Nat) (ch : List (Array Value)) (hi : (P.info? t).map (·.size) = some N) (hs : ∀ a ∈ ch, a.size = s) (hl : ch.length * s = N) : (P.info? t).map (·.size) = some (joinA ch).size := by rw [joinC_size s ch hs, hl, hi]
theorem z_a2 : (Tryd.prog.info? 137).map (·.zero) = some (some (.agg (joinA [c2 0, c2 0, c2 0, c2 0, c2 0, c2 0]))) := by rw [c2_zero]; kernel_rfl
theorem z_aN : (Tryd.prog.info? 79).map (·.zero) = some (some (.agg (joinA [#[.slice none 0 0, .slice none 0 0], #[.slice none 0 0, .slice none 0 0], #[.slice none 0 0, .slice none 0 0], #[.slice none 0 0, .slice none 0 0], #[.slice none 0 0, .slice none 0 0], #[.slice none 0 0, .slice none 0 0]]))) := by kernel_rfl
theorem sh_3 : (Tryd.prog).stoodInHeld 81 = false := by kernel_rfl
theorem sh_12 : (Tryd.prog).stoodInHeld 83 = false := by kernel_rfl
theorem eq_3 (x y : C3) (d : Nat) (w : World) : (Op.equalIn (d + 1 + 1 + 1 + 1 + 1) 81 (.agg (c3 x)) (.agg (c3 y))).run Tryd.prog w = .ok (decide (x = y)) w := by
  refine run_equalIn_struct (d + 1 + 1 + 1 + 1) w _ _ _ _ Tryd.underlying81 sh_3 _ ?_
  rw [decide_eq_decide.2 C3.eq_iff, Bool.decide_and, Bool.decide_and, ← Bool.and_true (decide (x.c = y.c))]
  refine EqFs.cons ?_ (run_part_agg w 37 (c3 x) (c2 x.a) 0 _ Tryd.underlying37 rfl (hi_2 _) (ext_left _ _ 12 (c2_size _))) (run_part_agg w 37 (c3 y) (c2 y.a) 0 _ Tryd.underlying37 rfl (hi_2 _) (ext_left _ _ 12 (c2_size _))) (eq_2 x.a y.a d w)
    (EqFs.cons ?_ (run_part_agg w 37 (c3 x) (c2 x.b) 12 _ Tryd.underlying37 rfl (hi_2 _) (ext_mid _ _ _ 12 12 (c2_size _) (c2_size _))) (run_part_agg w 37 (c3 y) (c2 y.b) 12 _ Tryd.underlying37 rfl (hi_2 _) (ext_mid _ _ _ 12 12 (c2_size _) (c2_size _))) (eq_2 x.b y.b d w)
    (EqFs.cons (fs := []) ?_ (run_part_agg w 37 (c3 x) (c2 x.c) 24 _ Tryd.underlying37 rfl (hi_2 _) (ext_last _ _ _ 12 12 12 (c2_size _) (c2_size _) (c2_size _) 24 rfl)) (run_part_agg w 37 (c3 y) (c2 y.c) 24 _ Tryd.underlying37 rfl (hi_2 _) (ext_last _ _ _ 12 12 12 (c2_size _) (c2_size _) (c2_size _) 24 rfl)) (eq_2 x.c y.c d w) .nil))
  all_goals kernel_rfl
theorem eq_12 (x y : T12) (d : Nat) (w : World) : (Op.equalIn (d + 1 + 1 + 1 + 1 + 1 + 1) 83 (.agg (c12 x)) (.agg (c12 y))).run Tryd.prog w = .ok (decide (x = y)) w := by
  refine run_equalIn_struct (d + 1 + 1 + 1 + 1 + 1) w _ _ _ _ Tryd.underlying83 sh_12 _ ?_
  rw [decide_eq_decide.2 T12.eq_iff, Bool.decide_and, ← Bool.and_true (decide (x.b = y.b))]
  refine EqFs.cons ?_ (run_part_agg w 81 (c12 x) (c3 x.a) 0 _ Tryd.underlying81 rfl (hi_3 _) (ext_left _ _ _ rfl)) (run_part_agg w 81 (c12 y) (c3 y.a) 0 _ Tryd.underlying81 rfl (hi_3 _) (ext_left _ _ _ rfl)) (eq_3 x.a y.a d w)
    (EqFs.cons (fs := []) ?_ (run_part_agg w 81 (c12 x) (c3 x.b) 36 _ Tryd.underlying81 rfl (hi_3 _) (ext_right _ _ 36 _ (c3_size _) rfl)) (run_part_agg w 81 (c12 y) (c3 y.b) 36 _ Tryd.underlying81 rfl (hi_3 _) (ext_right _ _ 36 _ (c3_size _) rfl)) (eq_3 x.b y.b d w) .nil)
  all_goals kernel_rfl
theorem eq_12_t {x y : T12} {d : Nat} (w : World) (h : x = y) : (Op.equalIn (d + 1 + 1 + 1 + 1 + 1 + 1) 83 (.agg (c12 x)) (.agg (c12 y))).run Tryd.prog w = .ok true w := by rw [eq_12, decide_eq_true h]
theorem eq_12_f {x y : T12} {d : Nat} (w : World) (h : x ≠ y) : (Op.equalIn (d + 1 + 1 + 1 + 1 + 1 + 1) 83 (.agg (c12 x)) (.agg (c12 y))).run Tryd.prog w = .ok false w := by rw [eq_12, decide_eq_false h]
section
variable {P : Program} {ops : Array Oper} {R : Act → World → Prop} {v : World} {L : List (Nat × TypeId × Array Value)} {n : Nat} {sl : List (Nat × Value)}
theorem L_build1g {i d : Nat} {il : List Nat} {t ty e : TypeId} {pos : String} {after : Array Edge} {gd : Option (Nat × Bool)} {p : Operand} (u z : Value) (hi : ops[i]? = some ⟨some d, .buildSlice t 1 #[(0, p)], ty, pos, after, gd⟩) (hl : inFr n sl = true) (hw : Want ops n sl gd) (ht : P.underlying t = some (.slice e))
    (hinfo : (P.info? e).map (fun i => (i.zero, i.size)) = some (some z, 1)) (hz1 : z.cells = #[z]) (hx : rho sl p = u) (h1 : u.oneCell' = true)
    (h : ∀ g, wpL P ops R il (fr n ((d, .slice (some ⟨g, 0, none⟩) 1 1) :: sl)) (Hbl v ((g, e, #[u]) :: L))) : wpL P ops R (i :: il) (fr n sl) (Hbl v L) := fun w hS => by
  obtain ⟨ie, he, hz⟩ := Option.map_eq_some_iff.1 hinfo
  simp only [Prod.mk.injEq] at hz
  have hc : u.cells = #[u] := by cases u <;> first | rfl | cases h1
  have hrun : (Instr.buildSlice t 1 (#[(0, p)].map fun x => (x.1, rho sl x.2))).run P w = .ok (.slice (some ⟨w.heap.size, 0, none⟩) 1 1) (w.alloc (.cells #[u] e)) := by
    refine run_buildSlice w t e 1 _ #[u] ie z ht he hz.1 (by rw [hz.2]; decide) (by rw [hz.2]; decide) ?_
    rw [hz.2, hz1]
    simp only [Instr.fill, List.map_toArray, List.map_cons, List.map_nil, hx, hc]
    have e1 : (Array.range (1 * 1)).map (fun x => (#[z] : Array Value)[x % (#[z] : Array Value).size]!) = #[z] := by
      apply Array.ext
      · simp
      · intro i h1 h2
        obtain rfl : i = 0 := by simp at h2; omega
        simp
    rw [e1]
    simp
  refine wpOp_runG (w' := w.alloc (.cells #[u] e)) hi (hw ..) (by rw [fr_eval n sl hl]; simp only [execOp, Sem.run_bind]; rw [hrun]; rfl) ⟨_, Hbl.stays v _, hS.alloc e #[u], h _⟩
end
theorem six_reads {w : World} {g : Nat} {t : TypeId} (h : Blk w g t #[.int .u8 6]) : Reads w w.heap.size (some ⟨g, 0, none⟩) 1 ([6].map (Value.int .u8)) := copy_reads (bs := [6]) h rfl
theorem W6 : pw T12.W (num [6]).toNat = T12.of (C3.of F2.xi) := T12.w6
theorem F2.sm10 : F2.sm 1 0 = 1 := by apply F2.same <;> decide +kernel
theorem F2.sm11 : F2.sm 1 1 = F2.xi := by apply F2.same <;> decide +kernel
theorem t_one_ne : (1 : T12) ≠ 0 := fun h => absurd (congrArg (fun x : T12 => x.a.a.a) h) (by decide +kernel)
attribute [local irreducible] wpL wpF fr Code.wp bodyPost
set_option maxRecDepth 100000 in
set_option maxHeartbeats 4000000 in
theorem part_n (A0 : Option Addr) (n0 c0 : Nat) (bs0 : List Int) (k : Nat) (v : World) (hr0 : Reads v v.heap.size A0 n0 (bs0.map (Value.int .u8))) (ho0 : Oct bs0) (hb0 : n0 ≤ 1099511627776) (h0 : 0 < n0) (hk : k ≤ 1000) : RetsX 5 (fun g cap => .slice (some ⟨g, 0, none⟩) 48 cap) (fun cap cs => ∃ l, BB cs cap 48 l ∧ Oct l) 93 #[.slice A0 n0 c0, .int .i64 k] v := by
  refine calls_fr2 Tryd.func93 rfl (by rfl : _ = 31) (by rfl) ?_
  have hw := Hbl.nil v
  refine seq_plain hw [0] (by rfl) ?_
  refine L_val (.slice none 0 0) (by rfl) (by rfl) (gives_value _ fun _ => by rfl) ?_
  refine L_end ?_
  intro w1 hw1
  refine seq_plain hw1 [0, 1] (by rfl) ?_
  refine L_build0 1 (by rfl) (by rfl) und_u8s u8_sz ?_; intro g1
  refine L_val (.slice (some ⟨g1, 0, none⟩) 0 0) (by rfl) (by rfl) (gives_value _ fun _ => by rfl) ?_
  refine L_end ?_
  intro w2 hw2
  refine wp_seq ?_
  refine seq_plain hw2 [0] (by rfl) ?_
  refine L_val (.int .i64 0) (by rfl) (by rfl) (gives_value _ fun _ => by rfl) ?_
  refine L_end ?_
  intro w3 hw3
  refine wp_block ?_
  refine loop_down (fun (r_ : Nat) a w => ∃ (i : Nat) (g : Nat) (cap : Nat) (cs : Array Value) (l : List Int) (l_1 : List (Nat × Value)), 48 - i = r_ ∧ inFr 31 l_1 = true ∧ a = fr 31 ((0, .slice A0 n0 c0) :: (1, .int .i64 (k : Int)) :: (5, .slice (some ⟨g, 0, none⟩) i cap) :: (6, .int .i64 (i : Int)) :: l_1) ∧ (i ≤ 48) ∧ (BB cs cap i l) ∧ (Oct l) ∧ Hbl v [(g, 5, cs)] w) ?_ _ _ _ ⟨0, g1, 0, #[], [], [(6, .int .i64 0), (5, .slice (some ⟨g1, 0, none⟩) 0 0), (7, .slice (some ⟨g1, 0, none⟩) 0 0), (4, .slice none 0 0), (1, .int .i64 (k : Int)), (0, .slice A0 n0 c0)], rfl, (by rfl), (Eq.trans (Eq.trans (Eq.trans (fr_dup _ _ 6 _ (by rfl) (by rfl) (by rfl)).symm (fr_dup _ _ 5 _ (by rfl) (by rfl) (by rfl)).symm) (fr_dup _ _ 1 _ (by rfl) (by rfl) (by rfl)).symm) (fr_dup _ _ 0 _ (by rfl) (by rfl) (by rfl)).symm), Nat.zero_le _, BB.nil, Oct.nil, hw3⟩
  rintro r_1 a0 w0_1 ⟨i, g, cap, cs, l, l_1, hr_1, hl_1, rfl, hi, hbb, hol, hw0_1⟩
  rcases part_two i n0 hi h0 with hlt | hlt
  ·
    obtain ⟨hi48, hpos⟩ := hlt
    obtain ⟨j, hj⟩ : ∃ j : Nat, j = (48 * k + i) % n0 := ⟨_, rfl⟩
    have hjl : j < n0 := hj ▸ Nat.mod_lt _ hpos
    have hjd := part_rem k i n0 j hj
    obtain ⟨b0, o0, hA0, hq0, hce0⟩ := reads_cell hr0 hjl
    refine wp_seq ?_
    refine seq_plain hw0_1 [0, 1, 2, 3, 4, 5, 6] (by rfl) ?_
    refine L_val (.int .i64 (i : Int)) (by rfl) (by exact hl_1) (gives_value _ fun _ => by rfl) ?_
    refine L_val (.bool true) (by rfl) (by exact hl_1) (gives_lss (k := .i64) ((i : Int)) (48) true (by rfl) (by rfl) (decide_eq_true (by omega))) ?_
    refine L_val (.bool true) (by rfl) (by exact hl_1) (gives_value _ fun _ => by rfl) ?_
    refine L_val_g (dj := 10) (.slice A0 n0 c0) (by rfl) (by exact hl_1) (by rfl) (by rfl) (by rfl) (gives_value _ fun _ => by rfl) ?_
    refine L_val_g (dj := 10) (.int .i64 (n0 : Int)) (by rfl) (by exact hl_1) (by rfl) (by rfl) (by rfl) (gives_len _ n0 c0 und_u8s (by rfl)) ?_
    refine L_val_g (dj := 10) (.bool true) (by rfl) (by exact hl_1) (by rfl) (by rfl) (by rfl) (gives_gtr (k := .i64) ((n0 : Int)) (0) true (by rfl) (by rfl) (decide_eq_true (by omega))) ?_
    refine L_val (.bool true) (by rfl) (by exact hl_1) (gives_value _ fun _ => by rfl) ?_
    refine L_end ?_
    intro w4 hw4
    refine wp_cond_true (fr_at _ _ (by exact hl_1) _) ?_
    refine wp_skip ?_
    change Code.wp _ _ _ _ _
    refine wp_seq ?_
    refine wp_block ?_
    refine one_plain hw4 [0, 1, 2, 3, 4, 5, 6, 7, 8, 9, 10, 11, 12, 13] (by rfl) ?_
    refine L_val (.slice (some ⟨g, 0, none⟩) i cap) (by rfl) (by exact hl_1) (gives_value _ fun _ => by rfl) ?_
    refine L_val (.slice A0 n0 c0) (by rfl) (by exact hl_1) (gives_value _ fun _ => by rfl) ?_
    refine L_val (.int .i64 (k : Int)) (by rfl) (by exact hl_1) (gives_value _ fun _ => by rfl) ?_
    refine L_val (.int .i64 (48 * (k : Int))) (by rfl) (by exact hl_1) (gives_mul (k := .i64) (48) ((k : Int)) (48 * (k : Int)) (by rfl) (by rfl) (IntWalk.i64_in _ (by omega))) ?_
    refine L_val (.int .i64 (i : Int)) (by rfl) (by exact hl_1) (gives_value _ fun _ => by rfl) ?_
    refine L_val (.int .i64 ((48 * (k : Int)) + (i : Int))) (by rfl) (by exact hl_1) (gives_add (k := .i64) (48 * (k : Int)) ((i : Int)) ((48 * (k : Int)) + (i : Int)) (by rfl) (by rfl) (IntWalk.i64_in _ (by omega))) ?_
    refine L_val (.slice A0 n0 c0) (by rfl) (by exact hl_1) (gives_value _ fun _ => by rfl) ?_
    refine L_val (.int .i64 (n0 : Int)) (by rfl) (by exact hl_1) (gives_len _ n0 c0 und_u8s (by rfl)) ?_
    refine L_val (.int .i64 (j : Int)) (by rfl) (by exact hl_1) (gives_rem (k := .i64) ((48 * (k : Int)) + (i : Int)) ((n0 : Int)) (j : Int) (by rfl) (by rfl) (by omega) hjd) ?_
    refine L_val (.pointer (some ⟨b0, o0 + (j), none⟩)) (by rfl) (by exact hl_1) (gives_index_old A0 n0 c0 ((j : Int)) (j) _ _ hA0 (by rfl) (by rfl) und_u8s u8_sz rfl (by omega)) ?_
    refine L_val (.int .u8 (gt bs0 j)) (by rfl) (by exact hl_1) (gives_load_old _ (.int .u8 (gt bs0 j)) (by rfl) (fun _ h => (h.below.cell (p := ⟨b0, _, none⟩) hq0).trans hce0) und_u8') ?_
    refine L_build1 (.int .u8 (gt bs0 j)) (.int .u8 0) (by rfl) (by exact hl_1) und_u8s u8_zs rfl (by rfl) rfl ?_; intro g2
    refine L_append 1 0 g g2 i cap 1 1 (.int .u8 0) (.int .u8 (gt bs0 j)) cs (by rfl) (by exact hl_1) und_u8s u8_all rfl (by rfl) (by rfl) (by rfl) (by rfl) rfl hbb.le hbb.size hbb.cap (by omega) (by omega) [(g2, 5, #[.int .u8 (gt bs0 j)])] (by rfl) ?_
    intro g3 cap_1 cs_1 ha1 hb1 hc1 hd1
    refine L_val (.slice (some ⟨g3, 0, none⟩) (i + 1) cap_1) (by rfl) (by exact hl_1) (gives_value _ fun _ => by rfl) ?_
    refine L_end ?_
    intro w5 hw5
    change Code.wp _ _ _ _ _
    refine one_plain hw5 [0, 1, 2] (by rfl) ?_
    refine L_val (.int .i64 (i : Int)) (by rfl) (by exact hl_1) (gives_value _ fun _ => by rfl) ?_
    refine L_val (.int .i64 ((i : Int) + 1)) (by rfl) (by exact hl_1) (gives_add (k := .i64) ((i : Int)) (1) ((i : Int) + 1) (by rfl) (by rfl) (IntWalk.i64_in _ (by omega))) ?_
    refine L_val (.int .i64 ((i : Int) + 1)) (by rfl) (by exact hl_1) (gives_value _ fun _ => by rfl) ?_
    refine L_end ?_
    intro w6 hw6
    change ∃ r' : Nat, r' < r_1 ∧ _
    refine ⟨_, ?_, i + 1, g3, cap_1, cs_1, l ++ [gt bs0 j], ((6, .int .i64 ((i : Int) + 1)) :: (16, .int .i64 ((i : Int) + 1)) :: (15, .int .i64 (i : Int)) :: (5, .slice (some ⟨g3, 0, none⟩) (i + 1) cap_1) :: (29, .slice (some ⟨g3, 0, none⟩) (i + 1) cap_1) :: (28, .slice (some ⟨g2, 0, none⟩) 1 1) :: (27, .int .u8 (gt bs0 j)) :: (26, .pointer (some ⟨b0, o0 + (j), none⟩)) :: (25, .int .i64 (j : Int)) :: (24, .int .i64 (n0 : Int)) :: (23, .slice A0 n0 c0) :: (22, .int .i64 ((48 * (k : Int)) + (i : Int))) :: (21, .int .i64 (i : Int)) :: (20, .int .i64 (48 * (k : Int))) :: (19, .int .i64 (k : Int)) :: (18, .slice A0 n0 c0) :: (17, .slice (some ⟨g, 0, none⟩) i cap) :: (14, .bool true) :: (13, .bool true) :: (12, .int .i64 (n0 : Int)) :: (11, .slice A0 n0 c0) :: (10, .bool true) :: (9, .bool true) :: (8, .int .i64 (i : Int)) :: (0, .slice A0 n0 c0) :: (1, .int .i64 (k : Int)) :: (5, .slice (some ⟨g, 0, none⟩) i cap) :: (6, .int .i64 (i : Int)) :: l_1), rfl, (by exact hl_1), (Eq.trans (Eq.trans (Eq.trans (fr_dup _ _ 6 _ (by exact hl_1) (by rfl) (by rfl)).symm (fr_dup _ _ 5 _ (by exact hl_1) (by rfl) (by rfl)).symm) (fr_dup _ _ 1 _ (by exact hl_1) (by rfl) (by rfl)).symm) (fr_dup _ _ 0 _ (by exact hl_1) (by rfl) (by rfl)).symm), by omega, hbb.snoc ha1 hb1 hc1 hd1, hol.snoc (ho0.at_ j), hw6.sub (List.Sublist.cons_cons _ (List.Sublist.cons _ (List.Sublist.refl _)))⟩
    omega
  ·
    refine wp_seq ?_
    refine seq_plain hw0_1 [0, 1, 2, 3, 4, 5, 6] (by rfl) ?_
    refine L_val (.int .i64 (i : Int)) (by rfl) (by exact hl_1) (gives_value _ fun _ => by rfl) ?_
    refine L_val (.bool false) (by rfl) (by exact hl_1) (gives_lss (k := .i64) ((i : Int)) (48) false (by rfl) (by rfl) (decide_eq_false (by omega))) ?_
    refine L_val (.bool false) (by rfl) (by exact hl_1) (gives_value _ fun _ => by rfl) ?_
    refine L_skip (dj := 10) (by rfl) (by exact hl_1) (by rfl) (by rfl) (by rfl) ?_
    refine L_skip (dj := 10) (by rfl) (by exact hl_1) (by rfl) (by rfl) (by rfl) ?_
    refine L_skip (dj := 10) (by rfl) (by exact hl_1) (by rfl) (by rfl) (by rfl) ?_
    refine L_val (.bool false) (by rfl) (by exact hl_1) (gives_value _ fun _ => by rfl) ?_
    refine L_end ?_
    intro w7 hw7
    refine wp_cond_false (fr_at _ _ (by exact hl_1) _) ?_
    refine wp_exit ?_
    change Code.wp _ _ _ _ _
    change Code.wp _ _ _ _ _
    refine seq_plain hw7 [0, 1] (by rfl) ?_
    refine L_val (.slice (some ⟨g, 0, none⟩) i cap) (by rfl) (by exact hl_1) (gives_value _ fun _ => by rfl) ?_
    refine L_val (.slice (some ⟨g, 0, none⟩) i cap) (by rfl) (by exact hl_1) (gives_value _ fun _ => by rfl) ?_
    refine L_end ?_
    intro w8 hw8
    subst hlt
    refine wp_ret ?_
    change bodyPost _ _ _ Exit.ret _ _
    refine (ret_tmp (by rfl) (by exact hl_1) (by rfl) ⟨g, cap, cs, rfl, ⟨l, hbb, hol⟩, hw8.ge 0 (by rfl), hw8.blk 0 (by rfl), hw8.below⟩)
set_option maxRecDepth 100000 in
set_option maxHeartbeats 4000000 in
theorem part_0 (A0 : Option Addr) (n0 c0 : Nat) (bs0 : List Int) (k : Nat) (v : World) (hr0 : Reads v v.heap.size A0 n0 (bs0.map (Value.int .u8))) (ho0 : Oct bs0) (hb0 : n0 ≤ 1099511627776) (h0 : n0 = 0) (hk : k ≤ 1000) : RetsX 5 (fun g cap => .slice (some ⟨g, 0, none⟩) 0 cap) (fun cap cs => ∃ l, BB cs cap 0 l ∧ Oct l) 93 #[.slice A0 n0 c0, .int .i64 k] v := by
  refine calls_fr2 Tryd.func93 rfl (by rfl : _ = 31) (by rfl) ?_
  have hw := Hbl.nil v
  refine seq_plain hw [0] (by rfl) ?_
  refine L_val (.slice none 0 0) (by rfl) (by rfl) (gives_value _ fun _ => by rfl) ?_
  refine L_end ?_
  intro w1 hw1
  refine seq_plain hw1 [0, 1] (by rfl) ?_
  refine L_build0 1 (by rfl) (by rfl) und_u8s u8_sz ?_; intro g1
  refine L_val (.slice (some ⟨g1, 0, none⟩) 0 0) (by rfl) (by rfl) (gives_value _ fun _ => by rfl) ?_
  refine L_end ?_
  intro w2 hw2
  refine wp_seq ?_
  refine seq_plain hw2 [0] (by rfl) ?_
  refine L_val (.int .i64 0) (by rfl) (by rfl) (gives_value _ fun _ => by rfl) ?_
  refine L_end ?_
  intro w3 hw3
  refine wp_block ?_
  refine loop_down (fun (r_ : Nat) a w => ∃ (i : Nat) (g : Nat) (cap : Nat) (cs : Array Value) (l : List Int) (l_1 : List (Nat × Value)), 48 - i = r_ ∧ inFr 31 l_1 = true ∧ a = fr 31 ((0, .slice A0 n0 c0) :: (1, .int .i64 (k : Int)) :: (5, .slice (some ⟨g, 0, none⟩) i cap) :: (6, .int .i64 (i : Int)) :: l_1) ∧ (i ≤ 0) ∧ (BB cs cap i l) ∧ (Oct l) ∧ Hbl v [(g, 5, cs)] w) ?_ _ _ _ ⟨0, g1, 0, #[], [], [(6, .int .i64 0), (5, .slice (some ⟨g1, 0, none⟩) 0 0), (7, .slice (some ⟨g1, 0, none⟩) 0 0), (4, .slice none 0 0), (1, .int .i64 (k : Int)), (0, .slice A0 n0 c0)], rfl, (by rfl), (Eq.trans (Eq.trans (Eq.trans (fr_dup _ _ 6 _ (by rfl) (by rfl) (by rfl)).symm (fr_dup _ _ 5 _ (by rfl) (by rfl) (by rfl)).symm) (fr_dup _ _ 1 _ (by rfl) (by rfl) (by rfl)).symm) (fr_dup _ _ 0 _ (by rfl) (by rfl) (by rfl)).symm), Nat.zero_le _, BB.nil, Oct.nil, hw3⟩
  rintro r_1 a0 w0_1 ⟨i, g, cap, cs, l, l_1, hr_1, hl_1, rfl, hi, hbb, hol, hw0_1⟩
  have hi0 : i = 0 := by omega
  refine wp_seq ?_
  refine seq_plain hw0_1 [0, 1, 2, 3, 4, 5, 6] (by rfl) ?_
  refine L_val (.int .i64 (i : Int)) (by rfl) (by exact hl_1) (gives_value _ fun _ => by rfl) ?_
  refine L_val (.bool true) (by rfl) (by exact hl_1) (gives_lss (k := .i64) ((i : Int)) (48) true (by rfl) (by rfl) (decide_eq_true (by omega))) ?_
  refine L_val (.bool true) (by rfl) (by exact hl_1) (gives_value _ fun _ => by rfl) ?_
  refine L_val_g (dj := 10) (.slice A0 n0 c0) (by rfl) (by exact hl_1) (by rfl) (by rfl) (by rfl) (gives_value _ fun _ => by rfl) ?_
  refine L_val_g (dj := 10) (.int .i64 (n0 : Int)) (by rfl) (by exact hl_1) (by rfl) (by rfl) (by rfl) (gives_len _ n0 c0 und_u8s (by rfl)) ?_
  refine L_val_g (dj := 10) (.bool false) (by rfl) (by exact hl_1) (by rfl) (by rfl) (by rfl) (gives_gtr (k := .i64) ((n0 : Int)) (0) false (by rfl) (by rfl) (decide_eq_false (by omega))) ?_
  refine L_val (.bool false) (by rfl) (by exact hl_1) (gives_value _ fun _ => by rfl) ?_
  refine L_end ?_
  intro w4 hw4
  refine wp_cond_false (fr_at _ _ (by exact hl_1) _) ?_
  refine wp_exit ?_
  change Code.wp _ _ _ _ _
  change Code.wp _ _ _ _ _
  refine seq_plain hw4 [0, 1] (by rfl) ?_
  refine L_val (.slice (some ⟨g, 0, none⟩) i cap) (by rfl) (by exact hl_1) (gives_value _ fun _ => by rfl) ?_
  refine L_val (.slice (some ⟨g, 0, none⟩) i cap) (by rfl) (by exact hl_1) (gives_value _ fun _ => by rfl) ?_
  refine L_end ?_
  intro w5 hw5
  subst hi0
  refine wp_ret ?_
  change bodyPost _ _ _ Exit.ret _ _
  refine (ret_tmp (by rfl) (by exact hl_1) (by rfl) ⟨g, cap, cs, rfl, ⟨l, hbb, hol⟩, hw5.ge 0 (by rfl), hw5.blk 0 (by rfl), hw5.below⟩)
set_option maxRecDepth 100000 in
set_option maxHeartbeats 4000000 in
theorem t_w  (v : World) (hG : Glo v) : Rets 88 #[] v (.agg (c12 T12.W)) := by
  obtain ⟨k0, hk0⟩ : ∃ k : F2, k = F2.sm 1 0 := ⟨_, rfl⟩
  refine calls_fr0 Tryd.func88 rfl (by rfl : _ = 4) ?_
  have hw := Hbl.nil v
  refine seq_plain hw [0] (by rfl) ?_
  refine L_alloc _ (by rfl) (by rfl) z_12 (c12 (0 : T12)) rfl ?_; intro g1
  refine L_end ?_
  intro w1 hw1
  refine seq_plain hw1 [0, 1, 2, 3] (by rfl) ?_
  refine L_val (.agg (c2 (k0))) (by rfl) (by rfl) (gives_call (vl := [.int .u64 1, .int .u64 0]) (by kernel_rfl) (by rfl) (fun w h => by rw [hk0]; exact q_small _ _ w (hG.keep h.below) (by omega) (by simp only [Wd]; omega) (by omega) (by simp only [Wd]; omega))) ?_
  refine L_val (.agg (c3 (⟨k0, (0 : F2), (0 : F2)⟩ : C3))) (by rfl) (by rfl) (gb_cubic [(0, (c2 (k0)))] ⟨congrArg some (c2_size _).symm, trivial⟩ (by rfl) (c3 (⟨k0, (0 : F2), (0 : F2)⟩ : C3)) (by rfl)) ?_
  refine L_val (.agg (c12 (⟨(0 : C3), (⟨k0, (0 : F2), (0 : F2)⟩ : C3)⟩ : T12))) (by rfl) (by rfl) (gb_tower [(1, (c3 (⟨k0, (0 : F2), (0 : F2)⟩ : C3)))] ⟨congrArg some (c3_size _).symm, trivial⟩ (by rfl) (c12 (⟨(0 : C3), (⟨k0, (0 : F2), (0 : F2)⟩ : C3)⟩ : T12)) (by rfl)) ?_
  refine L_store (t := 83) 0 g1 (c12 (0 : T12)) (c12 (⟨(0 : C3), (⟨k0, (0 : F2), (0 : F2)⟩ : C3)⟩ : T12)) (by rfl) (by rfl) (by rfl) (by rfl) (by rfl) (hi_12 _) ((c12_size _).trans (c12_size _).symm) (c12_one _) ?_
  simp only [List.set_cons_zero, List.set_cons_succ]
  refine L_end ?_
  intro w2 hw2
  refine wp_ret ?_
  change bodyPost _ _ _ Exit.ret _ _
  refine (ret_cell (by rfl) (by rfl) (by rfl) (hw2.blk 0 (by rfl)) Tryd.underlying83 (by rfl) (hi_12 _) ⟨?_, hw2.below⟩)
  refine congrArg (fun z : T12 => Ending.returned (.agg (c12 z))) ?_
  rw [hk0, F2.sm10]
  rfl
set_option maxRecDepth 100000 in
set_option maxHeartbeats 4000000 in
theorem t_head  (v : World) (hG : Glo v) : Rets 42 #[] v (.bool true) := by
  obtain ⟨k0, hk0⟩ : ∃ k : F2, k = F2.sm 1 0 := ⟨_, rfl⟩
  obtain ⟨k1, hk1⟩ : ∃ k : F2, k = F2.sm 1 1 := ⟨_, rfl⟩
  refine calls_fr0 Tryd.func42 rfl (by rfl : _ = 22) ?_
  have hw := Hbl.nil v
  refine seq_plain hw [0] (by rfl) ?_
  refine L_val (.bool false) (by rfl) (by rfl) (gives_value _ fun _ => by rfl) ?_
  refine L_end ?_
  intro w1 hw1
  refine seq_plain hw1 [0, 1, 2, 3, 4, 5, 6, 7, 8, 9, 10, 11, 12, 13, 14, 15, 16, 17, 18, 19, 20, 21] (by rfl) ?_
  refine L_val (.agg (c12 (T12.W))) (by rfl) (by rfl) (gives_call (vl := []) (by kernel_rfl) (by rfl) (fun w h => t_w w (hG.keep h.below))) ?_
  refine L_val (.agg (c12 (T12.W))) (by rfl) (by rfl) (gives_call (vl := []) (by kernel_rfl) (by rfl) (fun w h => t_w w (hG.keep h.below))) ?_
  refine L_val (.agg (c12 ((T12.W) * (T12.W)))) (by rfl) (by rfl) (gives_call (vl := [.agg (c12 (T12.W)), .agg (c12 (T12.W))]) (by kernel_rfl) (by rfl) (fun w h => t_mul _ _ w (hG.keep h.below))) ?_
  refine L_val (.agg (c2 (k0))) (by rfl) (by rfl) (gives_call (vl := [.int .u64 1, .int .u64 0]) (by kernel_rfl) (by rfl) (fun w h => by rw [hk0]; exact q_small _ _ w (hG.keep h.below) (by omega) (by simp only [Wd]; omega) (by omega) (by simp only [Wd]; omega))) ?_
  refine L_val (.agg (c3 (⟨(0 : F2), k0, (0 : F2)⟩ : C3))) (by rfl) (by rfl) (gb_cubic [(1, (c2 (k0)))] ⟨congrArg some (c2_size _).symm, trivial⟩ (by rfl) (c3 (⟨(0 : F2), k0, (0 : F2)⟩ : C3)) (by rfl)) ?_
  refine L_val (.agg (c12 (⟨(⟨(0 : F2), k0, (0 : F2)⟩ : C3), (0 : C3)⟩ : T12))) (by rfl) (by rfl) (gb_tower [(0, (c3 (⟨(0 : F2), k0, (0 : F2)⟩ : C3)))] ⟨congrArg some (c3_size _).symm, trivial⟩ (by rfl) (c12 (⟨(⟨(0 : F2), k0, (0 : F2)⟩ : C3), (0 : C3)⟩ : T12)) (by rfl)) ?_
  refine L_val (.bool true) (by rfl) (by rfl) (gives_eql (c12 ((T12.W) * (T12.W))) (c12 (⟨(⟨(0 : F2), k0, (0 : F2)⟩ : C3), (0 : C3)⟩ : T12)) true (by rfl) (by rfl) (by kernel_rfl) (fun w => eq_12_t (d := 9994) w (by rw [hk0, F2.sm10]; exact T12.ww))) ?_
  refine L_val (.bool true) (by rfl) (by rfl) (gives_value _ fun _ => by rfl) ?_
  refine L_val_g (dj := 8) (.agg (c12 (T12.W))) (by rfl) (by rfl) (by rfl) (by rfl) (by rfl) (gives_call (vl := []) (by kernel_rfl) (by rfl) (fun w h => t_w w (hG.keep h.below))) ?_
  refine L_build1g (.int .u8 6) (.int .u8 0) (by rfl) (by rfl) (Want.some (dj := 8) (by rfl) (by rfl) (by rfl) (by rfl)) und_u8s u8_zs rfl (by rfl) rfl ?_; intro g1
  refine L_val_g (dj := 8) (.agg (c12 (pw (T12.W) (num [6]).toNat))) (by rfl) (by rfl) (by rfl) (by rfl) (by rfl) (gives_call (vl := [.agg (c12 (T12.W)), .slice (some ⟨g1, 0, none⟩) 1 1]) (by kernel_rfl) (by rfl) (fun w h => t_power _ _ _ _ [6] w (hG.keep h.below) (six_reads (h.blk 0 (by rfl))) (by intro b hb; simp at hb; omega) (by omega))) ?_
  refine L_val_g (dj := 8) (.agg (c2 (k1))) (by rfl) (by rfl) (by rfl) (by rfl) (by rfl) (gives_call (vl := [.int .u64 1, .int .u64 1]) (by kernel_rfl) (by rfl) (fun w h => by rw [hk1]; exact q_small _ _ w (hG.keep h.below) (by omega) (by simp only [Wd]; omega) (by omega) (by simp only [Wd]; omega))) ?_
  refine L_val_g (dj := 8) (.agg (c3 (⟨k1, (0 : F2), (0 : F2)⟩ : C3))) (by rfl) (by rfl) (by rfl) (by rfl) (by rfl) (gb_cubic [(0, (c2 (k1)))] ⟨congrArg some (c2_size _).symm, trivial⟩ (by rfl) (c3 (⟨k1, (0 : F2), (0 : F2)⟩ : C3)) (by rfl)) ?_
  refine L_val_g (dj := 8) (.agg (c12 (⟨(⟨k1, (0 : F2), (0 : F2)⟩ : C3), (0 : C3)⟩ : T12))) (by rfl) (by rfl) (by rfl) (by rfl) (by rfl) (gb_tower [(0, (c3 (⟨k1, (0 : F2), (0 : F2)⟩ : C3)))] ⟨congrArg some (c3_size _).symm, trivial⟩ (by rfl) (c12 (⟨(⟨k1, (0 : F2), (0 : F2)⟩ : C3), (0 : C3)⟩ : T12)) (by rfl)) ?_
  refine L_val_g (dj := 8) (.bool true) (by rfl) (by rfl) (by rfl) (by rfl) (by rfl) (gives_eql (c12 (pw (T12.W) (num [6]).toNat)) (c12 (⟨(⟨k1, (0 : F2), (0 : F2)⟩ : C3), (0 : C3)⟩ : T12)) true (by rfl) (by rfl) (by kernel_rfl) (fun w => eq_12_t (d := 9994) w (by rw [hk1, F2.sm11]; exact W6))) ?_
  refine L_val (.bool true) (by rfl) (by rfl) (gives_value _ fun _ => by rfl) ?_
  refine L_val (.bool true) (by rfl) (by rfl) (gives_value _ fun _ => by rfl) ?_
  refine L_val_g (dj := 17) (.agg (c12 (1 : T12))) (by rfl) (by rfl) (by rfl) (by rfl) (by rfl) (gives_call (vl := []) (by kernel_rfl) (by rfl) (fun w h => t_one w (hG.keep h.below))) ?_
  refine L_val_g (dj := 17) (.agg (c12 (0 : T12))) (by rfl) (by rfl) (by rfl) (by rfl) (by rfl) (gb_tower [] trivial (by rfl) (c12 (0 : T12)) (by rfl)) ?_
  refine L_val_g (dj := 17) (.bool true) (by rfl) (by rfl) (by rfl) (by rfl) (by rfl) (gives_neq (c12 (1 : T12)) (c12 (0 : T12)) false (by rfl) (by rfl) (by kernel_rfl) (fun w => eq_12_f (d := 9994) w t_one_ne)) ?_
  refine L_val (.bool true) (by rfl) (by rfl) (gives_value _ fun _ => by rfl) ?_
  refine L_val (.bool true) (by rfl) (by rfl) (gives_value _ fun _ => by rfl) ?_
  refine L_end ?_
  intro w2 hw2
  refine wp_ret ?_
  change bodyPost _ _ _ Exit.ret _ _
  refine (ret_tmp (by rfl) (by rfl) (by rfl) ⟨?_, hw2.below⟩)
  rfl
set_option maxRecDepth 100000 in
set_option maxHeartbeats 4000000 in
theorem tlong_no (A0 : Option Addr) (L0 C0 : Nat) (A1 : Option Addr) (L1 C1 : Nat) (v : World) (h0 : L0 ≤ 2000) (h1 : L1 ≤ 2000) : Rets 43 #[.slice A0 L0 C0, .slice A1 L1 C1] v (.bool false) := by
  refine calls_fr2 Tryd.func43 rfl (by rfl : _ = 13) (by rfl) ?_
  have hw := Hbl.nil v
  refine seq_plain hw [0] (by rfl) ?_
  refine L_val (.bool false) (by rfl) (by rfl) (gives_value _ fun _ => by rfl) ?_
  refine L_end ?_
  intro w1 hw1
  refine seq_plain hw1 [0, 1, 2, 3, 4, 5, 6, 7, 8] (by rfl) ?_
  refine L_val (.slice A0 L0 C0) (by rfl) (by rfl) (gives_value _ fun _ => by rfl) ?_
  refine L_val (.int .i64 (L0 : Int)) (by rfl) (by rfl) (gives_len _ L0 C0 und_u8s (by rfl)) ?_
  refine L_val (.bool false) (by rfl) (by rfl) (gives_gtr (k := .i64) ((L0 : Int)) (2000) false (by rfl) (by rfl) (decide_eq_false (by omega))) ?_
  refine L_val (.bool false) (by rfl) (by rfl) (gives_value _ fun _ => by rfl) ?_
  refine L_val_g (dj := 8) (.slice A1 L1 C1) (by rfl) (by rfl) (by rfl) (by rfl) (by rfl) (gives_value _ fun _ => by rfl) ?_
  refine L_val_g (dj := 8) (.int .i64 (L1 : Int)) (by rfl) (by rfl) (by rfl) (by rfl) (by rfl) (gives_len _ L1 C1 und_u8s (by rfl)) ?_
  refine L_val_g (dj := 8) (.bool false) (by rfl) (by rfl) (by rfl) (by rfl) (by rfl) (gives_gtr (k := .i64) ((L1 : Int)) (2000) false (by rfl) (by rfl) (decide_eq_false (by omega))) ?_
  refine L_val (.bool false) (by rfl) (by rfl) (gives_value _ fun _ => by rfl) ?_
  refine L_val (.bool false) (by rfl) (by rfl) (gives_value _ fun _ => by rfl) ?_
  refine L_end ?_
  intro w2 hw2
  refine wp_ret ?_
  change bodyPost _ _ _ Exit.ret _ _
  refine (ret_tmp (by rfl) (by rfl) (by rfl) ⟨rfl, hw2.below⟩)
set_option maxRecDepth 100000 in
set_option maxHeartbeats 4000000 in
theorem tlong_y0 (A0 : Option Addr) (L0 C0 : Nat) (A1 : Option Addr) (L1 C1 : Nat) (v : World) (h0 : 2000 < L0) : Rets 43 #[.slice A0 L0 C0, .slice A1 L1 C1] v (.bool true) := by
  refine calls_fr2 Tryd.func43 rfl (by rfl : _ = 13) (by rfl) ?_
  have hw := Hbl.nil v
  refine seq_plain hw [0] (by rfl) ?_
  refine L_val (.bool false) (by rfl) (by rfl) (gives_value _ fun _ => by rfl) ?_
  refine L_end ?_
  intro w1 hw1
  refine seq_plain hw1 [0, 1, 2, 3, 4, 5, 6, 7, 8] (by rfl) ?_
  refine L_val (.slice A0 L0 C0) (by rfl) (by rfl) (gives_value _ fun _ => by rfl) ?_
  refine L_val (.int .i64 (L0 : Int)) (by rfl) (by rfl) (gives_len _ L0 C0 und_u8s (by rfl)) ?_
  refine L_val (.bool true) (by rfl) (by rfl) (gives_gtr (k := .i64) ((L0 : Int)) (2000) true (by rfl) (by rfl) (decide_eq_true (by omega))) ?_
  refine L_val (.bool true) (by rfl) (by rfl) (gives_value _ fun _ => by rfl) ?_
  refine L_skip (dj := 8) (by rfl) (by rfl) (by rfl) (by rfl) (by rfl) ?_
  refine L_skip (dj := 8) (by rfl) (by rfl) (by rfl) (by rfl) (by rfl) ?_
  refine L_skip (dj := 8) (by rfl) (by rfl) (by rfl) (by rfl) (by rfl) ?_
  refine L_val (.bool true) (by rfl) (by rfl) (gives_value _ fun _ => by rfl) ?_
  refine L_val (.bool true) (by rfl) (by rfl) (gives_value _ fun _ => by rfl) ?_
  refine L_end ?_
  intro w2 hw2
  refine wp_ret ?_
  change bodyPost _ _ _ Exit.ret _ _
  refine (ret_tmp (by rfl) (by rfl) (by rfl) ⟨rfl, hw2.below⟩)
set_option maxRecDepth 100000 in
set_option maxHeartbeats 4000000 in
theorem tlong_y1 (A0 : Option Addr) (L0 C0 : Nat) (A1 : Option Addr) (L1 C1 : Nat) (v : World) (h0 : L0 ≤ 2000) (h1 : 2000 < L1) : Rets 43 #[.slice A0 L0 C0, .slice A1 L1 C1] v (.bool true) := by
  refine calls_fr2 Tryd.func43 rfl (by rfl : _ = 13) (by rfl) ?_
  have hw := Hbl.nil v
  refine seq_plain hw [0] (by rfl) ?_
  refine L_val (.bool false) (by rfl) (by rfl) (gives_value _ fun _ => by rfl) ?_
  refine L_end ?_
  intro w1 hw1
  refine seq_plain hw1 [0, 1, 2, 3, 4, 5, 6, 7, 8] (by rfl) ?_
  refine L_val (.slice A0 L0 C0) (by rfl) (by rfl) (gives_value _ fun _ => by rfl) ?_
  refine L_val (.int .i64 (L0 : Int)) (by rfl) (by rfl) (gives_len _ L0 C0 und_u8s (by rfl)) ?_
  refine L_val (.bool false) (by rfl) (by rfl) (gives_gtr (k := .i64) ((L0 : Int)) (2000) false (by rfl) (by rfl) (decide_eq_false (by omega))) ?_
  refine L_val (.bool false) (by rfl) (by rfl) (gives_value _ fun _ => by rfl) ?_
  refine L_val_g (dj := 8) (.slice A1 L1 C1) (by rfl) (by rfl) (by rfl) (by rfl) (by rfl) (gives_value _ fun _ => by rfl) ?_
  refine L_val_g (dj := 8) (.int .i64 (L1 : Int)) (by rfl) (by rfl) (by rfl) (by rfl) (by rfl) (gives_len _ L1 C1 und_u8s (by rfl)) ?_
  refine L_val_g (dj := 8) (.bool true) (by rfl) (by rfl) (by rfl) (by rfl) (by rfl) (gives_gtr (k := .i64) ((L1 : Int)) (2000) true (by rfl) (by rfl) (decide_eq_true (by omega))) ?_
  refine L_val (.bool true) (by rfl) (by rfl) (gives_value _ fun _ => by rfl) ?_
  refine L_val (.bool true) (by rfl) (by rfl) (gives_value _ fun _ => by rfl) ?_
  refine L_end ?_
  intro w2 hw2
  refine wp_ret ?_
  change bodyPost _ _ _ Exit.ret _ _
  refine (ret_tmp (by rfl) (by rfl) (by rfl) ⟨rfl, hw2.below⟩)
theorem tlong_yes (A0 : Option Addr) (L0 C0 : Nat) (A1 : Option Addr) (L1 C1 : Nat) (v : World) (h : 2000 < L0 ∨ 2000 < L1) : Rets 43 #[.slice A0 L0 C0, .slice A1 L1 C1] v (.bool true) := by
  by_cases h0 : 2000 < L0
  · exact tlong_y0 A0 L0 C0 A1 L1 C1 v h0
  · exact tlong_y1 A0 L0 C0 A1 L1 C1 v (by omega) (by omega)
end Go.Proofs.YtialfoccalobpaaDoor
