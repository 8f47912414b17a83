/-
  Layer 6's contracts: the root, the power of the modulus, powers.
-/
import Derived.Test.YtnebmgiajfbnaaaDoorTwA
import Derived.Test.YtnebmgiajfbnaaaDoorFn3
import Derived.Test.YtnebmgiajfbnaaaDoorFpRoots
namespace Go.Proofs.YtnebmgiajfbnaaaDoor
set_option linter.unusedSimpArgs false
set_option linter.unusedVariables false
open Go.RowKit
theorem F2.R_is : F2.R = F2.mk (Fp.n 3850754370037169011952147076051364057158807420970682438676050522613628423219637725072182697113062777891589506424760) (Fp.n 151655185184498381465642749684540099398075398968325446656007613510403227271200139370504932015952886146304766135027) := by
  apply F2.same
  · apply Fin.ext
    rw [F2.R_val.1]
    decide +kernel
  · apply Fin.ext
    rw [F2.R_val.2]
    decide +kernel
theorem shr_bit8 (a : Int) (r : Nat) (q : Int) (hr : 0 < r) (h8 : r ≤ 8) (hq : q = a / 2 ^ (r - 1)) : a.fdiv (2 ^ (min ((r : Int) - 1).toNat IntKind.u8.bits)) = q := by
  have e1 : ((r : Int) - 1).toNat = r - 1 := by omega
  have e2 : min (r - 1) IntKind.u8.bits = r - 1 := Nat.min_eq_left (by show r - 1 ≤ 8; omega)
  rw [e1, e2, hq, Int.fdiv_eq_ediv_of_nonneg _ (Int.le_of_lt (Int.pow_pos (by omega)))]
theorem and_one8 (a : Int) (h0 : 0 ≤ a) (h : a < 256) : IntKind.u8.wrap (((a % 2 ^ IntKind.u8.bits).toNat &&& ((1 : Int) % 2 ^ IntKind.u8.bits).toNat : Nat) : Int) = a % 2 := by
  have e1 : (2 : Int) ^ IntKind.u8.bits = 256 := by decide
  have e2 : ((1 : Int) % 256).toNat = 2 ^ 1 - 1 := by decide
  rw [e1, e2, Nat.and_two_pow_sub_one_eq_mod, Int.emod_eq_of_lt h0 h]
  have e3 : ((a.toNat % 2 ^ 1 : Nat) : Int) = a % 2 := by omega
  rw [e3]
  exact IntWalk.u8_in _ (by omega)
theorem div8_lo (a : Int) (s : Nat) (h0 : 0 ≤ a) (h : a < 256) : 0 ≤ a / 2 ^ s ∧ a / 2 ^ s < 256 :=
  ⟨Int.ediv_nonneg h0 (Int.le_of_lt (Int.pow_pos (by omega))), Int.lt_of_le_of_lt (Int.ediv_le_self _ h0) h⟩
theorem bit8 (a : Int) (r : Nat) (hr : 0 < r) (h0 : 0 ≤ a) (q : Int) (hq : q = a / 2 ^ (r - 1)) : a.toNat / 2 ^ (r - 1) = 2 * (a.toNat / 2 ^ r) + (q % 2).toNat := by
  obtain ⟨n, rfl⟩ := Int.eq_ofNat_of_zero_le h0
  have e1 : q = ((n / 2 ^ (r - 1) : Nat) : Int) := by rw [hq, Int.natCast_ediv, Int.natCast_pow]; rfl
  have e2 : n / 2 ^ r = n / 2 ^ (r - 1) / 2 := by obtain ⟨m, rfl⟩ : ∃ m, r = m + 1 := ⟨r - 1, by omega⟩; rw [Nat.add_sub_cancel, Nat.div_div_eq_div_mul, ← Nat.pow_succ]
  rw [e1, Int.toNat_natCast, e2]
  omega
theorem exp8 (N a : Nat) (r : Nat) (hr : 0 < r) (h8 : r ≤ 8) : N * 2 ^ (8 - (r - 1)) = 2 * (N * 2 ^ (8 - r)) := by
  rw [show 8 - (r - 1) = (8 - r) + 1 by omega, Nat.pow_succ, ← Nat.mul_assoc, Nat.mul_comm]
section
variable {R : Type} [Add R] [Mul R] [Zero R] [One R]
theorem pow8_even (h : CR R) (x : R) (N : Nat) (a : Int) (r : Nat) (hr : 0 < r) (h8 : r ≤ 8) (h0 : 0 ≤ a) (q : Int) (hq : q = a / 2 ^ (r - 1)) (h1 : q % 2 = 0) :
    pw x (N * 2 ^ (8 - r) + a.toNat / 2 ^ r) * pw x (N * 2 ^ (8 - r) + a.toNat / 2 ^ r) = pw x (N * 2 ^ (8 - (r - 1)) + a.toNat / 2 ^ (r - 1)) := by
  rw [← pw_add h, bit8 a r hr h0 q hq, exp8 N 0 r hr h8]
  congr 1
  omega
theorem pow8_odd (h : CR R) (x : R) (N : Nat) (a : Int) (r : Nat) (hr : 0 < r) (h8 : r ≤ 8) (h0 : 0 ≤ a) (q : Int) (hq : q = a / 2 ^ (r - 1)) (h1 : q % 2 = 1) :
    pw x (N * 2 ^ (8 - r) + a.toNat / 2 ^ r) * pw x (N * 2 ^ (8 - r) + a.toNat / 2 ^ r) * x = pw x (N * 2 ^ (8 - (r - 1)) + a.toNat / 2 ^ (r - 1)) := by
  rw [← pw_add h, ← pw_succ, bit8 a r hr h0 q hq, exp8 N 0 r hr h8]
  congr 1
  omega
end
theorem pow8_start (bs : List Int) (k : Nat) (ho : Oct bs) : (num (bs.take k)).toNat * 2 ^ (8 - 8) + (gt bs k).toNat / 2 ^ 8 = (num (bs.take k)).toNat := by
  have := ho.at_ k
  have : (gt bs k).toNat / 2 ^ 8 = 0 := Nat.div_eq_of_lt (by omega)
  rw [this]
  simp
theorem pow8_end (bs : List Int) (k : Nat) (hk : k < bs.length) (ho : Oct bs) (r : Nat) (hr : r = 0) : (num (bs.take (k + 1))).toNat = (num (bs.take k)).toNat * 2 ^ (8 - r) + (gt bs k).toNat / 2 ^ r := by
  subst hr
  have e : bs.take (k + 1) = bs.take k ++ [gt bs k] := by rw [gt_eq hk, List.take_append_getElem hk]
  have h1 := (num_lt (bs.take k) (ho.take k)).1
  have h2 := ho.at_ k
  rw [e, num_snoc]
  simp only [Nat.sub_zero, Nat.pow_zero, Nat.div_one, show (2 : Nat) ^ 8 = 256 from rfl]
  omega
attribute [local irreducible] wpL wpF fr Code.wp bodyPost
set_option maxRecDepth 100000 in
set_option maxHeartbeats 4000000 in
theorem t_root  (v : World) (hG : Glo v) : Rets 49 #[] v (.agg (c2 F2.R)) := by
  obtain ⟨k0, hk0⟩ : ∃ k : F2, k = F2.mk (Fp.n 3850754370037169011952147076051364057158807420970682438676050522613628423219637725072182697113062777891589506424760) (Fp.n 151655185184498381465642749684540099398075398968325446656007613510403227271200139370504932015952886146304766135027) := ⟨_, rfl⟩
  refine calls_fr0 Tryd.func49 rfl (by rfl : _ = 11) ?_
  have hw := Hbl.nil v
  refine seq_plain hw [0] (by rfl) ?_
  refine L_alloc _ (by rfl) (by rfl) z_2 (c2 (0 : F2)) rfl ?_; intro g1
  refine L_end ?_
  intro w1 hw1
  refine seq_plain hw1 [0, 1, 2] (by rfl) ?_
  refine L_val (.agg (b96c (k0))) (by rfl) (by rfl) (by rw [hk0]; exact gives_value _ fun w => by kernel_rfl) ?_
  refine L_alloc _ (by rfl) (by rfl) z_b96 (b96c (0 : F2)) rfl ?_; intro g2
  refine L_store (t := 84) 0 g2 (b96c (0 : F2)) (b96c (k0)) (by rfl) (by rfl) (by rfl) (by rfl) (by rfl) (hi_b96 _) ((b96c_size _).trans (b96c_size _).symm) (b96c_one _) ?_
  simp only [List.set_cons_zero, List.set_cons_succ]
  refine L_end ?_
  intro w2 hw2
  refine seq_plain hw2 [0, 1, 2, 3, 4, 5, 6, 7] (by rfl) ?_
  refine L_val (.slice (some ⟨g2, 0, none⟩) 96 96) (by rfl) (by rfl) (gives_slice_arr g2 96 1 (by rfl) und_b96 u8_sz) ?_
  refine L_val (.tuple #[.agg (c2 (k0)), .int .i64 0]) (by rfl) (by rfl) (gives_call (vl := [.slice (some ⟨g2, 0, none⟩) 96 96]) (by kernel_rfl) (by rfl) (fun w h => read5 k0 _ 96 w (hG.keep h.below) (all_reads (h.blk 0 (by rfl))) (by omega))) ?_
  refine L_val (.tuple #[.agg (c2 (k0)), .int .i64 0]) (by rfl) (by rfl) (gives_value _ fun _ => by rfl) ?_
  refine L_val (.agg (c2 (k0))) (by rfl) (by rfl) (gives_value _ fun _ => by kernel_rfl) ?_
  refine L_val (.int .i64 0) (by rfl) (by rfl) (gives_value _ fun _ => by kernel_rfl) ?_
  refine L_alloc _ (by rfl) (by rfl) z_2 (c2 (0 : F2)) rfl ?_; intro g3
  refine L_store (t := 36) 0 g3 (c2 (0 : F2)) (c2 (k0)) (by rfl) (by rfl) (by rfl) (by rfl) (by rfl) (hi_2 _) ((c2_size _).trans (c2_size _).symm) (c2_one _) ?_
  simp only [List.set_cons_zero, List.set_cons_succ]
  refine L_val (.int .i64 0) (by rfl) (by rfl) (gives_value _ fun _ => by rfl) ?_
  refine L_end ?_
  intro w3 hw3
  refine seq_plain hw3 [0, 1] (by rfl) ?_
  refine L_val (.agg (c2 (k0))) (by rfl) (by rfl) (gives_load g3 0 36 (c2 (k0)) (c2 (k0)) _ (by rfl) (fun _ h => h.blk 0 (by rfl)) (Sl.refl _) Tryd.underlying36 (by rfl) (hi_2 _)) ?_
  refine L_store (t := 36) 2 g1 (c2 (0 : F2)) (c2 (k0)) (by rfl) (by rfl) (by rfl) (by rfl) (by rfl) (hi_2 _) ((c2_size _).trans (c2_size _).symm) (c2_one _) ?_
  simp only [List.set_cons_zero, List.set_cons_succ]
  refine L_end ?_
  intro w4 hw4
  refine wp_ret ?_
  change bodyPost _ _ _ Exit.ret _ _
  refine (ret_cell (by rfl) (by rfl) (by rfl) (hw4.blk 2 (by rfl)) Tryd.underlying36 (by rfl) (hi_2 _) ⟨?_, hw4.below⟩)
  refine congrArg (fun z : F2 => Ending.returned (.agg (c2 z))) ?_
  rw [hk0]
  exact F2.R_is.symm
set_option maxRecDepth 100000 in
set_option maxHeartbeats 4000000 in
theorem t_frob (x : T12) (v : World) (hG : Glo v) : Rets 48 #[.agg (c12 (x))] v (.agg (c12 (T12.frob F2.R x))) := by
  refine calls_fr1 Tryd.func48 rfl (by rfl : _ = 56) (by rfl) ?_
  have hw := Hbl.nil v
  refine seq_plain hw [0, 1] (by rfl) ?_
  refine L_box (.agg (c12 (x))) (by rfl) (by rfl) (by rfl) (c12 (x)) (by rfl) ?_; intro g1
  refine L_alloc _ (by rfl) (by rfl) z_12 (c12 (0 : T12)) rfl ?_; intro g2
  refine L_end ?_
  intro w1 hw1
  refine seq_plain hw1 [0, 1, 2] (by rfl) ?_
  refine L_val (.agg (c2 (F2.R))) (by rfl) (by rfl) (gives_call (vl := []) (by kernel_rfl) (by rfl) (fun w h => t_root w (hG.keep h.below))) ?_
  refine L_alloc _ (by rfl) (by rfl) z_2 (c2 (0 : F2)) rfl ?_; intro g3
  refine L_store (t := 36) 0 g3 (c2 (0 : F2)) (c2 (F2.R)) (by rfl) (by rfl) (by rfl) (by rfl) (by rfl) (hi_2 _) ((c2_size _).trans (c2_size _).symm) (c2_one _) ?_
  simp only [List.set_cons_zero, List.set_cons_succ]
  refine L_end ?_
  intro w2 hw2
  refine seq_plain hw2 [0, 1, 2, 3] (by rfl) ?_
  refine L_val (.agg (c2 (F2.R))) (by rfl) (by rfl) (gives_load g3 0 36 (c2 (F2.R)) (c2 (F2.R)) _ (by rfl) (fun _ h => h.blk 0 (by rfl)) (Sl.refl _) Tryd.underlying36 (by rfl) (hi_2 _)) ?_
  refine L_val (.agg (c2 ((F2.R) * (F2.R)))) (by rfl) (by rfl) (gives_call (vl := [.agg (c2 (F2.R))]) (by kernel_rfl) (by rfl) (fun w h => q_square _ w (hG.keep h.below))) ?_
  refine L_alloc _ (by rfl) (by rfl) z_2 (c2 (0 : F2)) rfl ?_; intro g4
  refine L_store (t := 36) 0 g4 (c2 (0 : F2)) (c2 ((F2.R) * (F2.R))) (by rfl) (by rfl) (by rfl) (by rfl) (by rfl) (hi_2 _) ((c2_size _).trans (c2_size _).symm) (c2_one _) ?_
  simp only [List.set_cons_zero, List.set_cons_succ]
  refine L_end ?_
  intro w3 hw3
  refine seq_plain hw3 [0, 1, 2, 3, 4] (by rfl) ?_
  refine L_val (.agg (c2 ((F2.R) * (F2.R)))) (by rfl) (by rfl) (gives_load g4 0 36 (c2 ((F2.R) * (F2.R))) (c2 ((F2.R) * (F2.R))) _ (by rfl) (fun _ h => h.blk 0 (by rfl)) (Sl.refl _) Tryd.underlying36 (by rfl) (hi_2 _)) ?_
  refine L_val (.agg (c2 (F2.R))) (by rfl) (by rfl) (gives_load g3 0 36 (c2 (F2.R)) (c2 (F2.R)) _ (by rfl) (fun _ h => h.blk 1 (by rfl)) (Sl.refl _) Tryd.underlying36 (by rfl) (hi_2 _)) ?_
  refine L_val (.agg (c2 (((F2.R) * (F2.R)) * (F2.R)))) (by rfl) (by rfl) (gives_call (vl := [.agg (c2 ((F2.R) * (F2.R))), .agg (c2 (F2.R))]) (by kernel_rfl) (by rfl) (fun w h => q_mul _ _ w (hG.keep h.below))) ?_
  refine L_alloc _ (by rfl) (by rfl) z_2 (c2 (0 : F2)) rfl ?_; intro g5
  refine L_store (t := 36) 0 g5 (c2 (0 : F2)) (c2 (((F2.R) * (F2.R)) * (F2.R))) (by rfl) (by rfl) (by rfl) (by rfl) (by rfl) (hi_2 _) ((c2_size _).trans (c2_size _).symm) (c2_one _) ?_
  simp only [List.set_cons_zero, List.set_cons_succ]
  refine L_end ?_
  intro w4 hw4
  refine seq_plain hw4 [0, 1, 2, 3] (by rfl) ?_
  refine L_val (.agg (c2 ((F2.R) * (F2.R)))) (by rfl) (by rfl) (gives_load g4 0 36 (c2 ((F2.R) * (F2.R))) (c2 ((F2.R) * (F2.R))) _ (by rfl) (fun _ h => h.blk 1 (by rfl)) (Sl.refl _) Tryd.underlying36 (by rfl) (hi_2 _)) ?_
  refine L_val (.agg (c2 (((F2.R) * (F2.R)) * ((F2.R) * (F2.R))))) (by rfl) (by rfl) (gives_call (vl := [.agg (c2 ((F2.R) * (F2.R)))]) (by kernel_rfl) (by rfl) (fun w h => q_square _ w (hG.keep h.below))) ?_
  refine L_alloc _ (by rfl) (by rfl) z_2 (c2 (0 : F2)) rfl ?_; intro g6
  refine L_store (t := 36) 0 g6 (c2 (0 : F2)) (c2 (((F2.R) * (F2.R)) * ((F2.R) * (F2.R)))) (by rfl) (by rfl) (by rfl) (by rfl) (by rfl) (hi_2 _) ((c2_size _).trans (c2_size _).symm) (c2_one _) ?_
  simp only [List.set_cons_zero, List.set_cons_succ]
  refine L_end ?_
  intro w5 hw5
  refine seq_plain hw5 [0, 1, 2, 3, 4] (by rfl) ?_
  refine L_val (.agg (c2 (((F2.R) * (F2.R)) * ((F2.R) * (F2.R))))) (by rfl) (by rfl) (gives_load g6 0 36 (c2 (((F2.R) * (F2.R)) * ((F2.R) * (F2.R)))) (c2 (((F2.R) * (F2.R)) * ((F2.R) * (F2.R)))) _ (by rfl) (fun _ h => h.blk 0 (by rfl)) (Sl.refl _) Tryd.underlying36 (by rfl) (hi_2 _)) ?_
  refine L_val (.agg (c2 (F2.R))) (by rfl) (by rfl) (gives_load g3 0 36 (c2 (F2.R)) (c2 (F2.R)) _ (by rfl) (fun _ h => h.blk 3 (by rfl)) (Sl.refl _) Tryd.underlying36 (by rfl) (hi_2 _)) ?_
  refine L_val (.agg (c2 ((((F2.R) * (F2.R)) * ((F2.R) * (F2.R))) * (F2.R)))) (by rfl) (by rfl) (gives_call (vl := [.agg (c2 (((F2.R) * (F2.R)) * ((F2.R) * (F2.R)))), .agg (c2 (F2.R))]) (by kernel_rfl) (by rfl) (fun w h => q_mul _ _ w (hG.keep h.below))) ?_
  refine L_alloc _ (by rfl) (by rfl) z_2 (c2 (0 : F2)) rfl ?_; intro g7
  refine L_store (t := 36) 0 g7 (c2 (0 : F2)) (c2 ((((F2.R) * (F2.R)) * ((F2.R) * (F2.R))) * (F2.R))) (by rfl) (by rfl) (by rfl) (by rfl) (by rfl) (hi_2 _) ((c2_size _).trans (c2_size _).symm) (c2_one _) ?_
  simp only [List.set_cons_zero, List.set_cons_succ]
  refine L_end ?_
  intro w6 hw6
  refine seq_flow (by kernel_rfl) hw6 [] [(g7, 36, (c2 ((((F2.R) * (F2.R)) * ((F2.R) * (F2.R))) * (F2.R)))), (g6, 36, (c2 (((F2.R) * (F2.R)) * ((F2.R) * (F2.R))))), (g5, 36, (c2 (((F2.R) * (F2.R)) * (F2.R)))), (g4, 36, (c2 ((F2.R) * (F2.R)))), (g3, 36, (c2 (F2.R))), (g1, 51, (c12 (x)))] 38 (by rfl) ?_
  refine flow_take (i := 0) (.pointer (some ⟨g1, 0, none⟩)) (by rfl) (by kernel_rfl) (by kernel_rfl) (by kernel_rfl) (by rfl) (by kernel_rfl) (List.Sublist.cons_cons _ (List.Sublist.cons_cons _ (List.Sublist.cons_cons _ (List.Sublist.cons_cons _ (List.Sublist.cons_cons _ (List.Sublist.cons _ (List.Sublist.refl _))))))) (gives_value _ fun _ => by kernel_rfl) ?_
  refine flow_take (i := 1) (.pointer (some ⟨g1, 0, none⟩)) (by rfl) (by kernel_rfl) (by kernel_rfl) (by kernel_rfl) (by rfl) (by kernel_rfl) (List.Sublist.cons_cons _ (List.Sublist.cons_cons _ (List.Sublist.cons_cons _ (List.Sublist.cons_cons _ (List.Sublist.cons_cons _ (List.Sublist.cons _ (List.Sublist.refl _))))))) (gives_value _ fun _ => by kernel_rfl) ?_
  refine flow_take (i := 2) (.agg (c2 (((x).a).a))) (by rfl) (by kernel_rfl) (by kernel_rfl) (by kernel_rfl) (by rfl) (by kernel_rfl) (List.Sublist.cons_cons _ (List.Sublist.cons_cons _ (List.Sublist.cons_cons _ (List.Sublist.cons_cons _ (List.Sublist.cons_cons _ (List.Sublist.cons _ (List.Sublist.refl _))))))) (gives_load g1 0 51 (c12 (x)) (c2 (((x).a).a)) _ (by rfl) (fun _ h => h.blk 5 (by rfl)) (sl_3a ((x).a) _ _ (sl_12a (x) _ _ (Sl.refl _))) Tryd.underlying36 (by rfl) (hi_2 _)) ?_
  refine flow_take (i := 3) (.agg (c2 (F2.conj (((x).a).a)))) (by rfl) (by kernel_rfl) (by kernel_rfl) (by kernel_rfl) (by rfl) (by kernel_rfl) (List.Sublist.cons_cons _ (List.Sublist.cons_cons _ (List.Sublist.cons_cons _ (List.Sublist.cons_cons _ (List.Sublist.cons_cons _ (List.Sublist.cons _ (List.Sublist.refl _))))))) (gives_call (vl := [.agg (c2 (((x).a).a))]) (by kernel_rfl) (by rfl) (fun w h => q_conj _ w (hG.keep h.below))) ?_
  refine flow_take (i := 4) (.pointer (some ⟨g1, 0, none⟩)) (by rfl) (by kernel_rfl) (by kernel_rfl) (by kernel_rfl) (by rfl) (by kernel_rfl) (List.Sublist.cons_cons _ (List.Sublist.cons_cons _ (List.Sublist.cons_cons _ (List.Sublist.cons_cons _ (List.Sublist.cons_cons _ (List.Sublist.cons _ (List.Sublist.refl _))))))) (gives_value _ fun _ => by kernel_rfl) ?_
  refine flow_take (i := 5) (.pointer (some ⟨g1, 12, none⟩)) (by rfl) (by kernel_rfl) (by kernel_rfl) (by kernel_rfl) (by rfl) (by kernel_rfl) (List.Sublist.cons_cons _ (List.Sublist.cons_cons _ (List.Sublist.cons_cons _ (List.Sublist.cons_cons _ (List.Sublist.cons_cons _ (List.Sublist.cons _ (List.Sublist.refl _))))))) (gives_value _ fun _ => by kernel_rfl) ?_
  refine flow_take (i := 6) (.agg (c2 (((x).a).b))) (by rfl) (by kernel_rfl) (by kernel_rfl) (by kernel_rfl) (by rfl) (by kernel_rfl) (List.Sublist.cons_cons _ (List.Sublist.cons_cons _ (List.Sublist.cons_cons _ (List.Sublist.cons_cons _ (List.Sublist.cons_cons _ (List.Sublist.cons _ (List.Sublist.refl _))))))) (gives_load g1 12 51 (c12 (x)) (c2 (((x).a).b)) _ (by rfl) (fun _ h => h.blk 5 (by rfl)) (sl_3b ((x).a) _ _ 12 (sl_12a (x) _ _ (Sl.refl _)) (by rfl)) Tryd.underlying36 (by rfl) (hi_2 _)) ?_
  refine flow_take (i := 7) (.agg (c2 (F2.conj (((x).a).b)))) (by rfl) (by kernel_rfl) (by kernel_rfl) (by kernel_rfl) (by rfl) (by kernel_rfl) (List.Sublist.cons_cons _ (List.Sublist.cons_cons _ (List.Sublist.cons_cons _ (List.Sublist.cons_cons _ (List.Sublist.cons_cons _ (List.Sublist.cons _ (List.Sublist.refl _))))))) (gives_call (vl := [.agg (c2 (((x).a).b))]) (by kernel_rfl) (by rfl) (fun w h => q_conj _ w (hG.keep h.below))) ?_
  refine flow_take (i := 8) (.agg (c2 ((F2.R) * (F2.R)))) (by rfl) (by kernel_rfl) (by kernel_rfl) (by kernel_rfl) (by rfl) (by kernel_rfl) (List.Sublist.cons_cons _ (List.Sublist.cons_cons _ (List.Sublist.cons_cons _ (List.Sublist.cons_cons _ (List.Sublist.cons_cons _ (List.Sublist.cons _ (List.Sublist.refl _))))))) (gives_load g4 0 36 (c2 ((F2.R) * (F2.R))) (c2 ((F2.R) * (F2.R))) _ (by rfl) (fun _ h => h.blk 3 (by rfl)) (Sl.refl _) Tryd.underlying36 (by rfl) (hi_2 _)) ?_
  refine flow_take (i := 9) (.agg (c2 ((F2.conj (((x).a).b)) * ((F2.R) * (F2.R))))) (by rfl) (by kernel_rfl) (by kernel_rfl) (by kernel_rfl) (by rfl) (by kernel_rfl) (List.Sublist.cons_cons _ (List.Sublist.cons_cons _ (List.Sublist.cons_cons _ (List.Sublist.cons_cons _ (List.Sublist.cons_cons _ (List.Sublist.cons _ (List.Sublist.refl _))))))) (gives_call (vl := [.agg (c2 (F2.conj (((x).a).b))), .agg (c2 ((F2.R) * (F2.R)))]) (by kernel_rfl) (by rfl) (fun w h => q_mul _ _ w (hG.keep h.below))) ?_
  refine flow_take (i := 10) (.pointer (some ⟨g1, 0, none⟩)) (by rfl) (by kernel_rfl) (by kernel_rfl) (by kernel_rfl) (by rfl) (by kernel_rfl) (List.Sublist.cons_cons _ (List.Sublist.cons_cons _ (List.Sublist.cons_cons _ (List.Sublist.cons_cons _ (List.Sublist.cons_cons _ (List.Sublist.cons _ (List.Sublist.refl _))))))) (gives_value _ fun _ => by kernel_rfl) ?_
  refine flow_take (i := 11) (.pointer (some ⟨g1, 24, none⟩)) (by rfl) (by kernel_rfl) (by kernel_rfl) (by kernel_rfl) (by rfl) (by kernel_rfl) (List.Sublist.cons_cons _ (List.Sublist.cons_cons _ (List.Sublist.cons_cons _ (List.Sublist.cons_cons _ (List.Sublist.cons_cons _ (List.Sublist.cons _ (List.Sublist.refl _))))))) (gives_value _ fun _ => by kernel_rfl) ?_
  refine flow_take (i := 12) (.agg (c2 (((x).a).c))) (by rfl) (by kernel_rfl) (by kernel_rfl) (by kernel_rfl) (by rfl) (by kernel_rfl) (List.Sublist.cons_cons _ (List.Sublist.cons_cons _ (List.Sublist.cons_cons _ (List.Sublist.cons_cons _ (List.Sublist.cons_cons _ (List.Sublist.cons _ (List.Sublist.refl _))))))) (gives_load g1 24 51 (c12 (x)) (c2 (((x).a).c)) _ (by rfl) (fun _ h => h.blk 5 (by rfl)) (sl_3c ((x).a) _ _ 24 (sl_12a (x) _ _ (Sl.refl _)) (by rfl)) Tryd.underlying36 (by rfl) (hi_2 _)) ?_
  refine flow_take (i := 13) (.agg (c2 (F2.conj (((x).a).c)))) (by rfl) (by kernel_rfl) (by kernel_rfl) (by kernel_rfl) (by rfl) (by kernel_rfl) (List.Sublist.cons_cons _ (List.Sublist.cons_cons _ (List.Sublist.cons_cons _ (List.Sublist.cons_cons _ (List.Sublist.cons_cons _ (List.Sublist.cons _ (List.Sublist.refl _))))))) (gives_call (vl := [.agg (c2 (((x).a).c))]) (by kernel_rfl) (by rfl) (fun w h => q_conj _ w (hG.keep h.below))) ?_
  refine flow_take (i := 14) (.agg (c2 (((F2.R) * (F2.R)) * ((F2.R) * (F2.R))))) (by rfl) (by kernel_rfl) (by kernel_rfl) (by kernel_rfl) (by rfl) (by kernel_rfl) (List.Sublist.cons_cons _ (List.Sublist.cons_cons _ (List.Sublist.cons_cons _ (List.Sublist.cons_cons _ (List.Sublist.cons_cons _ (List.Sublist.cons _ (List.Sublist.refl _))))))) (gives_load g6 0 36 (c2 (((F2.R) * (F2.R)) * ((F2.R) * (F2.R)))) (c2 (((F2.R) * (F2.R)) * ((F2.R) * (F2.R)))) _ (by rfl) (fun _ h => h.blk 1 (by rfl)) (Sl.refl _) Tryd.underlying36 (by rfl) (hi_2 _)) ?_
  refine flow_take (i := 15) (.agg (c2 ((F2.conj (((x).a).c)) * (((F2.R) * (F2.R)) * ((F2.R) * (F2.R)))))) (by rfl) (by kernel_rfl) (by kernel_rfl) (by kernel_rfl) (by rfl) (by kernel_rfl) (List.Sublist.cons_cons _ (List.Sublist.cons_cons _ (List.Sublist.cons_cons _ (List.Sublist.cons_cons _ (List.Sublist.cons_cons _ (List.Sublist.cons _ (List.Sublist.refl _))))))) (gives_call (vl := [.agg (c2 (F2.conj (((x).a).c))), .agg (c2 (((F2.R) * (F2.R)) * ((F2.R) * (F2.R))))]) (by kernel_rfl) (by rfl) (fun w h => q_mul _ _ w (hG.keep h.below))) ?_
  refine flow_take (i := 16) (.agg (c3 (⟨F2.conj (((x).a).a), (F2.conj (((x).a).b)) * ((F2.R) * (F2.R)), (F2.conj (((x).a).c)) * (((F2.R) * (F2.R)) * ((F2.R) * (F2.R)))⟩ : C3))) (by rfl) (by kernel_rfl) (by kernel_rfl) (by kernel_rfl) (by rfl) (by kernel_rfl) (List.Sublist.cons_cons _ (List.Sublist.cons_cons _ (List.Sublist.cons_cons _ (List.Sublist.cons_cons _ (List.Sublist.cons_cons _ (List.Sublist.cons _ (List.Sublist.refl _))))))) (gb_cubic [(0, (c2 (F2.conj (((x).a).a)))), (1, (c2 ((F2.conj (((x).a).b)) * ((F2.R) * (F2.R))))), (2, (c2 ((F2.conj (((x).a).c)) * (((F2.R) * (F2.R)) * ((F2.R) * (F2.R))))))] ⟨congrArg some (c2_size _).symm, congrArg some (c2_size _).symm, congrArg some (c2_size _).symm, trivial⟩ (by rfl) (c3 (⟨F2.conj (((x).a).a), (F2.conj (((x).a).b)) * ((F2.R) * (F2.R)), (F2.conj (((x).a).c)) * (((F2.R) * (F2.R)) * ((F2.R) * (F2.R)))⟩ : C3)) (by rfl)) ?_
  refine flow_take (i := 17) (.pointer (some ⟨g1, 36, none⟩)) (by rfl) (by kernel_rfl) (by kernel_rfl) (by kernel_rfl) (by rfl) (by kernel_rfl) (List.Sublist.cons_cons _ (List.Sublist.cons_cons _ (List.Sublist.cons_cons _ (List.Sublist.cons_cons _ (List.Sublist.cons_cons _ (List.Sublist.cons _ (List.Sublist.refl _))))))) (gives_value _ fun _ => by kernel_rfl) ?_
  refine flow_take (i := 18) (.pointer (some ⟨g1, 36, none⟩)) (by rfl) (by kernel_rfl) (by kernel_rfl) (by kernel_rfl) (by rfl) (by kernel_rfl) (List.Sublist.cons_cons _ (List.Sublist.cons_cons _ (List.Sublist.cons_cons _ (List.Sublist.cons_cons _ (List.Sublist.cons_cons _ (List.Sublist.cons _ (List.Sublist.refl _))))))) (gives_value _ fun _ => by kernel_rfl) ?_
  refine flow_take (i := 19) (.agg (c2 (((x).b).a))) (by rfl) (by kernel_rfl) (by kernel_rfl) (by kernel_rfl) (by rfl) (by kernel_rfl) (List.Sublist.cons_cons _ (List.Sublist.cons_cons _ (List.Sublist.cons_cons _ (List.Sublist.cons_cons _ (List.Sublist.cons_cons _ (List.Sublist.cons _ (List.Sublist.refl _))))))) (gives_load g1 36 51 (c12 (x)) (c2 (((x).b).a)) _ (by rfl) (fun _ h => h.blk 5 (by rfl)) (sl_3a ((x).b) _ _ (sl_12b (x) _ _ 36 (Sl.refl _) (by rfl))) Tryd.underlying36 (by rfl) (hi_2 _)) ?_
  refine flow_take (i := 20) (.agg (c2 (F2.conj (((x).b).a)))) (by rfl) (by kernel_rfl) (by kernel_rfl) (by kernel_rfl) (by rfl) (by kernel_rfl) (List.Sublist.cons_cons _ (List.Sublist.cons_cons _ (List.Sublist.cons_cons _ (List.Sublist.cons_cons _ (List.Sublist.cons_cons _ (List.Sublist.cons _ (List.Sublist.refl _))))))) (gives_call (vl := [.agg (c2 (((x).b).a))]) (by kernel_rfl) (by rfl) (fun w h => q_conj _ w (hG.keep h.below))) ?_
  refine flow_take (i := 21) (.agg (c2 (F2.R))) (by rfl) (by kernel_rfl) (by kernel_rfl) (by kernel_rfl) (by rfl) (by kernel_rfl) (List.Sublist.cons_cons _ (List.Sublist.cons_cons _ (List.Sublist.cons_cons _ (List.Sublist.cons_cons _ (List.Sublist.cons_cons _ (List.Sublist.cons _ (List.Sublist.refl _))))))) (gives_load g3 0 36 (c2 (F2.R)) (c2 (F2.R)) _ (by rfl) (fun _ h => h.blk 4 (by rfl)) (Sl.refl _) Tryd.underlying36 (by rfl) (hi_2 _)) ?_
  refine flow_take (i := 22) (.agg (c2 ((F2.conj (((x).b).a)) * (F2.R)))) (by rfl) (by kernel_rfl) (by kernel_rfl) (by kernel_rfl) (by rfl) (by kernel_rfl) (List.Sublist.cons_cons _ (List.Sublist.cons_cons _ (List.Sublist.cons_cons _ (List.Sublist.cons_cons _ (List.Sublist.cons_cons _ (List.Sublist.cons _ (List.Sublist.refl _))))))) (gives_call (vl := [.agg (c2 (F2.conj (((x).b).a))), .agg (c2 (F2.R))]) (by kernel_rfl) (by rfl) (fun w h => q_mul _ _ w (hG.keep h.below))) ?_
  refine flow_take (i := 23) (.pointer (some ⟨g1, 36, none⟩)) (by rfl) (by kernel_rfl) (by kernel_rfl) (by kernel_rfl) (by rfl) (by kernel_rfl) (List.Sublist.cons_cons _ (List.Sublist.cons_cons _ (List.Sublist.cons_cons _ (List.Sublist.cons_cons _ (List.Sublist.cons_cons _ (List.Sublist.cons _ (List.Sublist.refl _))))))) (gives_value _ fun _ => by kernel_rfl) ?_
  refine flow_take (i := 24) (.pointer (some ⟨g1, 48, none⟩)) (by rfl) (by kernel_rfl) (by kernel_rfl) (by kernel_rfl) (by rfl) (by kernel_rfl) (List.Sublist.cons_cons _ (List.Sublist.cons_cons _ (List.Sublist.cons_cons _ (List.Sublist.cons_cons _ (List.Sublist.cons_cons _ (List.Sublist.cons _ (List.Sublist.refl _))))))) (gives_value _ fun _ => by kernel_rfl) ?_
  refine flow_take (i := 25) (.agg (c2 (((x).b).b))) (by rfl) (by kernel_rfl) (by kernel_rfl) (by kernel_rfl) (by rfl) (by kernel_rfl) (List.Sublist.cons_cons _ (List.Sublist.cons_cons _ (List.Sublist.cons_cons _ (List.Sublist.cons_cons _ (List.Sublist.cons_cons _ (List.Sublist.cons _ (List.Sublist.refl _))))))) (gives_load g1 48 51 (c12 (x)) (c2 (((x).b).b)) _ (by rfl) (fun _ h => h.blk 5 (by rfl)) (sl_3b ((x).b) _ _ 48 (sl_12b (x) _ _ 36 (Sl.refl _) (by rfl)) (by rfl)) Tryd.underlying36 (by rfl) (hi_2 _)) ?_
  refine flow_take (i := 26) (.agg (c2 (F2.conj (((x).b).b)))) (by rfl) (by kernel_rfl) (by kernel_rfl) (by kernel_rfl) (by rfl) (by kernel_rfl) (List.Sublist.cons_cons _ (List.Sublist.cons_cons _ (List.Sublist.cons_cons _ (List.Sublist.cons_cons _ (List.Sublist.cons_cons _ (List.Sublist.cons _ (List.Sublist.refl _))))))) (gives_call (vl := [.agg (c2 (((x).b).b))]) (by kernel_rfl) (by rfl) (fun w h => q_conj _ w (hG.keep h.below))) ?_
  refine flow_take (i := 27) (.agg (c2 (((F2.R) * (F2.R)) * (F2.R)))) (by rfl) (by kernel_rfl) (by kernel_rfl) (by kernel_rfl) (by rfl) (by kernel_rfl) (List.Sublist.cons_cons _ (List.Sublist.cons_cons _ (List.Sublist.cons_cons _ (List.Sublist.cons_cons _ (List.Sublist.cons_cons _ (List.Sublist.cons _ (List.Sublist.refl _))))))) (gives_load g5 0 36 (c2 (((F2.R) * (F2.R)) * (F2.R))) (c2 (((F2.R) * (F2.R)) * (F2.R))) _ (by rfl) (fun _ h => h.blk 2 (by rfl)) (Sl.refl _) Tryd.underlying36 (by rfl) (hi_2 _)) ?_
  refine flow_take (i := 28) (.agg (c2 ((F2.conj (((x).b).b)) * (((F2.R) * (F2.R)) * (F2.R))))) (by rfl) (by kernel_rfl) (by kernel_rfl) (by kernel_rfl) (by rfl) (by kernel_rfl) (List.Sublist.cons_cons _ (List.Sublist.cons_cons _ (List.Sublist.cons_cons _ (List.Sublist.cons_cons _ (List.Sublist.cons_cons _ (List.Sublist.cons _ (List.Sublist.refl _))))))) (gives_call (vl := [.agg (c2 (F2.conj (((x).b).b))), .agg (c2 (((F2.R) * (F2.R)) * (F2.R)))]) (by kernel_rfl) (by rfl) (fun w h => q_mul _ _ w (hG.keep h.below))) ?_
  refine flow_take (i := 29) (.pointer (some ⟨g1, 36, none⟩)) (by rfl) (by kernel_rfl) (by kernel_rfl) (by kernel_rfl) (by rfl) (by kernel_rfl) (List.Sublist.cons_cons _ (List.Sublist.cons_cons _ (List.Sublist.cons_cons _ (List.Sublist.cons_cons _ (List.Sublist.cons_cons _ (List.Sublist.cons _ (List.Sublist.refl _))))))) (gives_value _ fun _ => by kernel_rfl) ?_
  refine flow_take (i := 30) (.pointer (some ⟨g1, 60, none⟩)) (by rfl) (by kernel_rfl) (by kernel_rfl) (by kernel_rfl) (by rfl) (by kernel_rfl) (List.Sublist.cons_cons _ (List.Sublist.cons_cons _ (List.Sublist.cons_cons _ (List.Sublist.cons_cons _ (List.Sublist.cons_cons _ (List.Sublist.cons _ (List.Sublist.refl _))))))) (gives_value _ fun _ => by kernel_rfl) ?_
  refine flow_take (i := 31) (.agg (c2 (((x).b).c))) (by rfl) (by kernel_rfl) (by kernel_rfl) (by kernel_rfl) (by rfl) (by kernel_rfl) (List.Sublist.cons_cons _ (List.Sublist.cons_cons _ (List.Sublist.cons_cons _ (List.Sublist.cons_cons _ (List.Sublist.cons_cons _ (List.Sublist.cons _ (List.Sublist.refl _))))))) (gives_load g1 60 51 (c12 (x)) (c2 (((x).b).c)) _ (by rfl) (fun _ h => h.blk 5 (by rfl)) (sl_3c ((x).b) _ _ 60 (sl_12b (x) _ _ 36 (Sl.refl _) (by rfl)) (by rfl)) Tryd.underlying36 (by rfl) (hi_2 _)) ?_
  refine flow_take (i := 32) (.agg (c2 (F2.conj (((x).b).c)))) (by rfl) (by kernel_rfl) (by kernel_rfl) (by kernel_rfl) (by rfl) (by kernel_rfl) (List.Sublist.cons_cons _ (List.Sublist.cons_cons _ (List.Sublist.cons_cons _ (List.Sublist.cons_cons _ (List.Sublist.cons_cons _ (List.Sublist.cons _ (List.Sublist.refl _))))))) (gives_call (vl := [.agg (c2 (((x).b).c))]) (by kernel_rfl) (by rfl) (fun w h => q_conj _ w (hG.keep h.below))) ?_
  refine flow_take (i := 33) (.agg (c2 ((((F2.R) * (F2.R)) * ((F2.R) * (F2.R))) * (F2.R)))) (by rfl) (by kernel_rfl) (by kernel_rfl) (by kernel_rfl) (by rfl) (by kernel_rfl) (List.Sublist.cons_cons _ (List.Sublist.cons_cons _ (List.Sublist.cons_cons _ (List.Sublist.cons_cons _ (List.Sublist.cons_cons _ (List.Sublist.cons _ (List.Sublist.refl _))))))) (gives_load g7 0 36 (c2 ((((F2.R) * (F2.R)) * ((F2.R) * (F2.R))) * (F2.R))) (c2 ((((F2.R) * (F2.R)) * ((F2.R) * (F2.R))) * (F2.R))) _ (by rfl) (fun _ h => h.blk 0 (by rfl)) (Sl.refl _) Tryd.underlying36 (by rfl) (hi_2 _)) ?_
  refine flow_take (i := 34) (.agg (c2 ((F2.conj (((x).b).c)) * ((((F2.R) * (F2.R)) * ((F2.R) * (F2.R))) * (F2.R))))) (by rfl) (by kernel_rfl) (by kernel_rfl) (by kernel_rfl) (by rfl) (by kernel_rfl) (List.Sublist.cons_cons _ (List.Sublist.cons_cons _ (List.Sublist.cons_cons _ (List.Sublist.cons_cons _ (List.Sublist.cons_cons _ (List.Sublist.cons _ (List.Sublist.refl _))))))) (gives_call (vl := [.agg (c2 (F2.conj (((x).b).c))), .agg (c2 ((((F2.R) * (F2.R)) * ((F2.R) * (F2.R))) * (F2.R)))]) (by kernel_rfl) (by rfl) (fun w h => q_mul _ _ w (hG.keep h.below))) ?_
  refine flow_take (i := 35) (.agg (c3 (⟨(F2.conj (((x).b).a)) * (F2.R), (F2.conj (((x).b).b)) * (((F2.R) * (F2.R)) * (F2.R)), (F2.conj (((x).b).c)) * ((((F2.R) * (F2.R)) * ((F2.R) * (F2.R))) * (F2.R))⟩ : C3))) (by rfl) (by kernel_rfl) (by kernel_rfl) (by kernel_rfl) (by rfl) (by kernel_rfl) (List.Sublist.cons_cons _ (List.Sublist.cons_cons _ (List.Sublist.cons_cons _ (List.Sublist.cons_cons _ (List.Sublist.cons_cons _ (List.Sublist.cons _ (List.Sublist.refl _))))))) (gb_cubic [(0, (c2 ((F2.conj (((x).b).a)) * (F2.R)))), (1, (c2 ((F2.conj (((x).b).b)) * (((F2.R) * (F2.R)) * (F2.R))))), (2, (c2 ((F2.conj (((x).b).c)) * ((((F2.R) * (F2.R)) * ((F2.R) * (F2.R))) * (F2.R)))))] ⟨congrArg some (c2_size _).symm, congrArg some (c2_size _).symm, congrArg some (c2_size _).symm, trivial⟩ (by rfl) (c3 (⟨(F2.conj (((x).b).a)) * (F2.R), (F2.conj (((x).b).b)) * (((F2.R) * (F2.R)) * (F2.R)), (F2.conj (((x).b).c)) * ((((F2.R) * (F2.R)) * ((F2.R) * (F2.R))) * (F2.R))⟩ : C3)) (by rfl)) ?_
  refine flow_take (i := 36) (.agg (c12 (⟨(⟨F2.conj (((x).a).a), (F2.conj (((x).a).b)) * ((F2.R) * (F2.R)), (F2.conj (((x).a).c)) * (((F2.R) * (F2.R)) * ((F2.R) * (F2.R)))⟩ : C3), (⟨(F2.conj (((x).b).a)) * (F2.R), (F2.conj (((x).b).b)) * (((F2.R) * (F2.R)) * (F2.R)), (F2.conj (((x).b).c)) * ((((F2.R) * (F2.R)) * ((F2.R) * (F2.R))) * (F2.R))⟩ : C3)⟩ : T12))) (by rfl) (by kernel_rfl) (by kernel_rfl) (by kernel_rfl) (by rfl) (by kernel_rfl) (List.Sublist.cons_cons _ (List.Sublist.cons_cons _ (List.Sublist.cons_cons _ (List.Sublist.cons_cons _ (List.Sublist.cons_cons _ (List.Sublist.cons _ (List.Sublist.refl _))))))) (gb_tower [(0, (c3 (⟨F2.conj (((x).a).a), (F2.conj (((x).a).b)) * ((F2.R) * (F2.R)), (F2.conj (((x).a).c)) * (((F2.R) * (F2.R)) * ((F2.R) * (F2.R)))⟩ : C3))), (1, (c3 (⟨(F2.conj (((x).b).a)) * (F2.R), (F2.conj (((x).b).b)) * (((F2.R) * (F2.R)) * (F2.R)), (F2.conj (((x).b).c)) * ((((F2.R) * (F2.R)) * ((F2.R) * (F2.R))) * (F2.R))⟩ : C3)))] ⟨congrArg some (c3_size _).symm, congrArg some (c3_size _).symm, trivial⟩ (by rfl) (c12 (⟨(⟨F2.conj (((x).a).a), (F2.conj (((x).a).b)) * ((F2.R) * (F2.R)), (F2.conj (((x).a).c)) * (((F2.R) * (F2.R)) * ((F2.R) * (F2.R)))⟩ : C3), (⟨(F2.conj (((x).b).a)) * (F2.R), (F2.conj (((x).b).b)) * (((F2.R) * (F2.R)) * (F2.R)), (F2.conj (((x).b).c)) * ((((F2.R) * (F2.R)) * ((F2.R) * (F2.R))) * (F2.R))⟩ : C3)⟩ : T12)) (by rfl)) ?_
  refine flow_one 37 (by kernel_rfl) ?_
  refine F_store (t := 51) 5 g2 (c12 (0 : T12)) (c12 (⟨(⟨F2.conj (((x).a).a), (F2.conj (((x).a).b)) * ((F2.R) * (F2.R)), (F2.conj (((x).a).c)) * (((F2.R) * (F2.R)) * ((F2.R) * (F2.R)))⟩ : C3), (⟨(F2.conj (((x).b).a)) * (F2.R), (F2.conj (((x).b).b)) * (((F2.R) * (F2.R)) * (F2.R)), (F2.conj (((x).b).c)) * ((((F2.R) * (F2.R)) * ((F2.R) * (F2.R))) * (F2.R))⟩ : C3)⟩ : T12)) (by rfl) (by rfl) (by rfl) (by rfl) (by rfl) (hi_12 _) ((c12_size _).trans (c12_size _).symm) (c12_one _) (.inr (List.Sublist.cons_cons _ (List.Sublist.cons_cons _ (List.Sublist.cons_cons _ (List.Sublist.cons_cons _ (List.Sublist.cons_cons _ (List.Sublist.cons _ (List.Sublist.refl _)))))))) ?_
  simp only [List.set_cons_zero, List.set_cons_succ]
  refine flow_done (by kernel_rfl) ?_
  intro w7 hw7
  refine wp_ret ?_
  change bodyPost _ _ _ Exit.ret _ _
  refine (ret_cell (by rfl) (by rfl) (by rfl) (hw7.blk 5 (by rfl)) Tryd.underlying51 (by rfl) (hi_12 _) ⟨?_, hw7.below⟩)
  exact rfl
set_option maxRecDepth 100000 in
set_option maxHeartbeats 4000000 in
theorem t_power (x : T12) (A0 : Option Addr) (n0 c0 : Nat) (bs0 : List Int) (v : World) (hG : Glo v) (hr0 : Reads v v.heap.size A0 n0 (bs0.map (Value.int .u8))) (ho0 : Oct bs0) (hb0 : n0 ≤ 1099511627776) : Rets 47 #[.agg (c12 (x)), .slice A0 n0 c0] v (.agg (c12 (pw x (num bs0).toNat))) := by
  have hn0 : bs0.length = n0 := by simpa using hr0.1
  refine calls_fr2 Tryd.func47 rfl (by rfl : _ = 32) (by rfl) ?_
  have hw := Hbl.nil v
  refine seq_plain hw [0, 1] (by rfl) ?_
  refine L_box (.agg (c12 (x))) (by rfl) (by rfl) (by rfl) (c12 (x)) (by rfl) ?_; intro g1
  refine L_alloc _ (by rfl) (by rfl) z_12 (c12 (0 : T12)) rfl ?_; intro g2
  refine L_end ?_
  intro w1 hw1
  refine seq_plain hw1 [0, 1, 2] (by rfl) ?_
  refine L_val (.agg (c12 (1 : T12))) (by rfl) (by rfl) (gives_call (vl := []) (by kernel_rfl) (by rfl) (fun w h => t_one w (hG.keep h.below))) ?_
  refine L_alloc _ (by rfl) (by rfl) z_12 (c12 (0 : T12)) rfl ?_; intro g3
  refine L_store (t := 51) 0 g3 (c12 (0 : T12)) (c12 (1 : T12)) (by rfl) (by rfl) (by rfl) (by rfl) (by rfl) (hi_12 _) ((c12_size _).trans (c12_size _).symm) (c12_one _) ?_
  simp only [List.set_cons_zero, List.set_cons_succ]
  refine L_end ?_
  intro w2 hw2
  refine wp_seq ?_
  refine seq_plain hw2 [0, 1, 2] (by rfl) ?_
  refine L_val (.slice A0 n0 c0) (by rfl) (by rfl) (gives_value _ fun _ => by rfl) ?_
  refine L_val (.int .i64 (n0 : Int)) (by rfl) (by rfl) (gives_len _ n0 c0 und_u8s (by rfl)) ?_
  refine L_val (.int .i64 0) (by rfl) (by rfl) (gives_value _ fun _ => by rfl) ?_
  refine L_end ?_
  intro w3 hw3
  refine wp_block ?_
  refine loop_down (fun (r_ : Nat) a w => ∃ (k : Nat) (l_1 : List (Nat × Value)), n0 - k = r_ ∧ inFr 32 l_1 = true ∧ a = fr 32 ((2, .pointer (some ⟨g1, 0, none⟩)) :: (4, .pointer (some ⟨g2, 0, none⟩)) :: (5, .pointer (some ⟨g3, 0, none⟩)) :: (10, .slice A0 n0 c0) :: (11, .int .i64 (n0 : Int)) :: (12, .int .i64 (k : Int)) :: l_1) ∧ (k ≤ n0) ∧ Hbl v [(g3, 51, (c12 (pw x ((num (bs0.take k)).toNat)))), (g2, 51, (c12 (0 : T12))), (g1, 51, (c12 (x)))] w) ?_ _ _ _ ⟨0, [(12, .int .i64 0), (11, .int .i64 (n0 : Int)), (10, .slice A0 n0 c0), (5, .pointer (some ⟨g3, 0, none⟩)), (9, .agg (c12 (1 : T12))), (4, .pointer (some ⟨g2, 0, none⟩)), (2, .pointer (some ⟨g1, 0, none⟩)), (1, .slice A0 n0 c0), (0, .agg (c12 (x)))], rfl, (by rfl), (Eq.trans (Eq.trans (Eq.trans (Eq.trans (Eq.trans (fr_dup _ _ 12 _ (by rfl) (by rfl) (by rfl)).symm (fr_dup _ _ 11 _ (by rfl) (by rfl) (by rfl)).symm) (fr_dup _ _ 10 _ (by rfl) (by rfl) (by rfl)).symm) (fr_dup _ _ 5 _ (by rfl) (by rfl) (by rfl)).symm) (fr_dup _ _ 4 _ (by rfl) (by rfl) (by rfl)).symm) (fr_dup _ _ 2 _ (by rfl) (by rfl) (by rfl)).symm), Nat.zero_le _, hw3⟩
  rintro r_1 a0 w0_1 ⟨k, l_1, hr_1, hl_1, rfl, hk, hw0_1⟩
  by_cases hlt : k < n0
  ·
    have b1 := ho0.at_ k
    obtain ⟨b0, o0, hA0, hq0, hce0⟩ := reads_cell hr0 hlt
    refine seq_plain hw0_1 [0] (by rfl) ?_
    refine L_val (.bool true) (by rfl) (by exact hl_1) (gives_lss (k := .i64) ((k : Int)) ((n0 : Int)) true (by rfl) (by rfl) (decide_eq_true (by omega))) ?_
    refine L_end ?_
    intro w4 hw4
    refine wp_seq ?_
    refine wp_cond_true (fr_at _ _ (by exact hl_1) _) ?_
    refine wp_skip ?_
    change Code.wp _ _ _ _ _
    refine wp_seq ?_
    refine wp_block ?_
    refine seq_plain hw4 [0, 1, 2] (by rfl) ?_
    refine L_val (.pointer (some ⟨b0, o0 + (k), none⟩)) (by rfl) (by exact hl_1) (gives_index_old A0 n0 c0 ((k : Int)) (k) _ _ hA0 (by rfl) (by rfl) und_u8s u8_sz rfl (by omega)) ?_
    refine L_val (.int .u8 (gt bs0 k)) (by rfl) (by exact hl_1) (gives_load_old _ (.int .u8 (gt bs0 k)) (by rfl) (fun _ h => (h.below.cell (p := ⟨b0, _, none⟩) hq0).trans hce0) und_u8') ?_
    refine L_val (.int .u8 (gt bs0 k)) (by rfl) (by exact hl_1) (gives_value _ fun _ => by rfl) ?_
    refine L_end ?_
    intro w5 hw5
    refine seq_plain hw5 [0] (by rfl) ?_
    refine L_val (.int .i64 7) (by rfl) (by exact hl_1) (gives_value _ fun _ => by rfl) ?_
    refine L_end ?_
    intro w6 hw6
    refine wp_block ?_
    refine loop_down (fun (r_ : Nat) a w => ∃ (r : Nat) (l_2 : List (Nat × Value)), r = r_ ∧ inFr 32 l_2 = true ∧ a = fr 32 ((2, .pointer (some ⟨g1, 0, none⟩)) :: (4, .pointer (some ⟨g2, 0, none⟩)) :: (5, .pointer (some ⟨g3, 0, none⟩)) :: (10, .slice A0 n0 c0) :: (11, .int .i64 (n0 : Int)) :: (12, .int .i64 (k : Int)) :: (7, .int .u8 (gt bs0 k)) :: (8, .int .i64 ((r : Int) - 1)) :: l_2) ∧ (r ≤ 8) ∧ Hbl v [(g3, 51, (c12 (pw x ((num (bs0.take k)).toNat * 2 ^ (8 - r) + (gt bs0 k).toNat / 2 ^ r)))), (g2, 51, (c12 (0 : T12))), (g1, 51, (c12 (x)))] w) ?_ _ _ _ ⟨8, ((8, .int .i64 7) :: (7, .int .u8 (gt bs0 k)) :: (15, .int .u8 (gt bs0 k)) :: (14, .pointer (some ⟨b0, o0 + (k), none⟩)) :: (13, .bool true) :: (2, .pointer (some ⟨g1, 0, none⟩)) :: (4, .pointer (some ⟨g2, 0, none⟩)) :: (5, .pointer (some ⟨g3, 0, none⟩)) :: (10, .slice A0 n0 c0) :: (11, .int .i64 (n0 : Int)) :: (12, .int .i64 (k : Int)) :: l_1), rfl, (by exact hl_1), (Eq.trans (Eq.trans (Eq.trans (Eq.trans (Eq.trans (Eq.trans (Eq.trans (fr_dup _ _ 8 _ (by exact hl_1) (by rfl) (by exact (congrArg (Value.int .i64) (by omega)))).symm (fr_dup _ _ 7 _ (by exact hl_1) (by rfl) (by rfl)).symm) (fr_dup _ _ 12 _ (by exact hl_1) (by rfl) (by rfl)).symm) (fr_dup _ _ 11 _ (by exact hl_1) (by rfl) (by rfl)).symm) (fr_dup _ _ 10 _ (by exact hl_1) (by rfl) (by rfl)).symm) (fr_dup _ _ 5 _ (by exact hl_1) (by rfl) (by rfl)).symm) (fr_dup _ _ 4 _ (by exact hl_1) (by rfl) (by rfl)).symm) (fr_dup _ _ 2 _ (by exact hl_1) (by rfl) (by rfl)).symm), Nat.le_refl _, (by rw [pow8_start bs0 k ho0]; exact hw6)⟩
    rintro r_2 a0 w0_2 ⟨r, l_2, hr_2, hl_2, rfl, hr8, hw0_2⟩
    rcases pow_three r (gt bs0 k / 2 ^ (r - 1)) with hlt2 | hlt2 | hlt2
    ·
      obtain ⟨hr0_, hq1⟩ := hlt2
      obtain ⟨q, hqd⟩ : ∃ q, q = gt bs0 k / 2 ^ (r - 1) := ⟨_, rfl⟩
      have hqb : 0 ≤ q ∧ q < 256 := hqd ▸ div8_lo _ _ b1.1 b1.2
      rw [← hqd] at hq1
      refine wp_seq ?_
      refine seq_plain hw0_2 [0, 1] (by rfl) ?_
      refine L_val (.int .i64 ((r : Int) - 1)) (by rfl) (by exact hl_2) (gives_value _ fun _ => by rfl) ?_
      refine L_val (.bool true) (by rfl) (by exact hl_2) (gives_geq (k := .i64) ((r : Int) - 1) (0) true (by rfl) (by rfl) (decide_eq_true (by omega))) ?_
      refine L_end ?_
      intro w7 hw7
      refine wp_cond_true (fr_at _ _ (by exact hl_2) _) ?_
      refine wp_skip ?_
      change Code.wp _ _ _ _ _
      refine wp_seq ?_
      refine wp_block ?_
      refine seq_plain hw7 [0, 1, 2] (by rfl) ?_
      refine L_val (.agg (c12 (pw x ((num (bs0.take k)).toNat * 2 ^ (8 - r) + (gt bs0 k).toNat / 2 ^ r)))) (by rfl) (by exact hl_2) (gives_load g3 0 51 (c12 (pw x ((num (bs0.take k)).toNat * 2 ^ (8 - r) + (gt bs0 k).toNat / 2 ^ r))) (c12 (pw x ((num (bs0.take k)).toNat * 2 ^ (8 - r) + (gt bs0 k).toNat / 2 ^ r))) _ (by rfl) (fun _ h => h.blk 0 (by rfl)) (Sl.refl _) Tryd.underlying51 (by rfl) (hi_12 _)) ?_
      refine L_val (.agg (c12 ((pw x ((num (bs0.take k)).toNat * 2 ^ (8 - r) + (gt bs0 k).toNat / 2 ^ r)) * (pw x ((num (bs0.take k)).toNat * 2 ^ (8 - r) + (gt bs0 k).toNat / 2 ^ r))))) (by rfl) (by exact hl_2) (gives_call (vl := [.agg (c12 (pw x ((num (bs0.take k)).toNat * 2 ^ (8 - r) + (gt bs0 k).toNat / 2 ^ r)))]) (by kernel_rfl) (by rfl) (fun w h => t_square _ w (hG.keep h.below))) ?_
      refine L_store (t := 51) 0 g3 (c12 (pw x ((num (bs0.take k)).toNat * 2 ^ (8 - r) + (gt bs0 k).toNat / 2 ^ r))) (c12 ((pw x ((num (bs0.take k)).toNat * 2 ^ (8 - r) + (gt bs0 k).toNat / 2 ^ r)) * (pw x ((num (bs0.take k)).toNat * 2 ^ (8 - r) + (gt bs0 k).toNat / 2 ^ r)))) (by rfl) (by exact hl_2) (by rfl) (by rfl) (by rfl) (hi_12 _) ((c12_size _).trans (c12_size _).symm) (c12_one _) ?_
      simp only [List.set_cons_zero, List.set_cons_succ]
      refine L_end ?_
      intro w8 hw8
      refine seq_plain hw8 [0, 1, 2, 3, 4] (by rfl) ?_
      refine L_val (.int .u8 (gt bs0 k)) (by rfl) (by exact hl_2) (gives_value _ fun _ => by rfl) ?_
      refine L_val (.int .i64 ((r : Int) - 1)) (by rfl) (by exact hl_2) (gives_value _ fun _ => by rfl) ?_
      refine L_val (.int .u8 q) (by rfl) (by exact hl_2) (gives_shr (k := .u8) (k2 := .i64) (gt bs0 k) ((r : Int) - 1) q (by rfl) (by rfl) (by omega) (shr_bit8 _ r q hr0_ hr8 hqd)) ?_
      refine L_val (.int .u8 (q % 2)) (by rfl) (by exact hl_2) (gives_and (k := .u8) (q) 1 (q % 2) (by rfl) (by rfl) (and_one8 _ hqb.1 hqb.2)) ?_
      refine L_val (.bool true) (by rfl) (by exact hl_2) (gives_ieq (k := .u8) (q % 2) (1) true (by rfl) (by rfl) (decide_eq_true (by omega))) ?_
      refine L_end ?_
      intro w9 hw9
      refine wp_cond_true (fr_at _ _ (by exact hl_2) _) ?_
      refine one_plain hw9 [0, 1, 2, 3] (by rfl) ?_
      refine L_val (.agg (c12 ((pw x ((num (bs0.take k)).toNat * 2 ^ (8 - r) + (gt bs0 k).toNat / 2 ^ r)) * (pw x ((num (bs0.take k)).toNat * 2 ^ (8 - r) + (gt bs0 k).toNat / 2 ^ r))))) (by rfl) (by exact hl_2) (gives_load g3 0 51 (c12 ((pw x ((num (bs0.take k)).toNat * 2 ^ (8 - r) + (gt bs0 k).toNat / 2 ^ r)) * (pw x ((num (bs0.take k)).toNat * 2 ^ (8 - r) + (gt bs0 k).toNat / 2 ^ r)))) (c12 ((pw x ((num (bs0.take k)).toNat * 2 ^ (8 - r) + (gt bs0 k).toNat / 2 ^ r)) * (pw x ((num (bs0.take k)).toNat * 2 ^ (8 - r) + (gt bs0 k).toNat / 2 ^ r)))) _ (by rfl) (fun _ h => h.blk 0 (by rfl)) (Sl.refl _) Tryd.underlying51 (by rfl) (hi_12 _)) ?_
      refine L_val (.agg (c12 (x))) (by rfl) (by exact hl_2) (gives_load g1 0 51 (c12 (x)) (c12 (x)) _ (by rfl) (fun _ h => h.blk 2 (by rfl)) (Sl.refl _) Tryd.underlying51 (by rfl) (hi_12 _)) ?_
      refine L_val (.agg (c12 (((pw x ((num (bs0.take k)).toNat * 2 ^ (8 - r) + (gt bs0 k).toNat / 2 ^ r)) * (pw x ((num (bs0.take k)).toNat * 2 ^ (8 - r) + (gt bs0 k).toNat / 2 ^ r))) * (x)))) (by rfl) (by exact hl_2) (gives_call (vl := [.agg (c12 ((pw x ((num (bs0.take k)).toNat * 2 ^ (8 - r) + (gt bs0 k).toNat / 2 ^ r)) * (pw x ((num (bs0.take k)).toNat * 2 ^ (8 - r) + (gt bs0 k).toNat / 2 ^ r)))), .agg (c12 (x))]) (by kernel_rfl) (by rfl) (fun w h => t_mul _ _ w (hG.keep h.below))) ?_
      refine L_store (t := 51) 0 g3 (c12 ((pw x ((num (bs0.take k)).toNat * 2 ^ (8 - r) + (gt bs0 k).toNat / 2 ^ r)) * (pw x ((num (bs0.take k)).toNat * 2 ^ (8 - r) + (gt bs0 k).toNat / 2 ^ r)))) (c12 (((pw x ((num (bs0.take k)).toNat * 2 ^ (8 - r) + (gt bs0 k).toNat / 2 ^ r)) * (pw x ((num (bs0.take k)).toNat * 2 ^ (8 - r) + (gt bs0 k).toNat / 2 ^ r))) * (x))) (by rfl) (by exact hl_2) (by rfl) (by rfl) (by rfl) (hi_12 _) ((c12_size _).trans (c12_size _).symm) (c12_one _) ?_
      simp only [List.set_cons_zero, List.set_cons_succ]
      refine L_end ?_
      intro w10 hw10
      change Code.wp _ _ _ _ _
      refine one_plain hw10 [0, 1, 2] (by rfl) ?_
      refine L_val (.int .i64 ((r : Int) - 1)) (by rfl) (by exact hl_2) (gives_value _ fun _ => by rfl) ?_
      refine L_val (.int .i64 (((r : Int) - 1) - 1)) (by rfl) (by exact hl_2) (gives_sub (k := .i64) ((r : Int) - 1) (1) (((r : Int) - 1) - 1) (by rfl) (by rfl) (IntWalk.i64_in _ (by omega))) ?_
      refine L_val (.int .i64 (((r : Int) - 1) - 1)) (by rfl) (by exact hl_2) (gives_value _ fun _ => by rfl) ?_
      refine L_end ?_
      intro w11 hw11
      change ∃ r' : Nat, r' < r_2 ∧ _
      refine ⟨_, ?_, r - 1, ((8, .int .i64 (((r : Int) - 1) - 1)) :: (19, .int .i64 (((r : Int) - 1) - 1)) :: (18, .int .i64 ((r : Int) - 1)) :: (29, .agg (c12 (((pw x ((num (bs0.take k)).toNat * 2 ^ (8 - r) + (gt bs0 k).toNat / 2 ^ r)) * (pw x ((num (bs0.take k)).toNat * 2 ^ (8 - r) + (gt bs0 k).toNat / 2 ^ r))) * (x)))) :: (28, .agg (c12 (x))) :: (27, .agg (c12 ((pw x ((num (bs0.take k)).toNat * 2 ^ (8 - r) + (gt bs0 k).toNat / 2 ^ r)) * (pw x ((num (bs0.take k)).toNat * 2 ^ (8 - r) + (gt bs0 k).toNat / 2 ^ r))))) :: (26, .bool true) :: (25, .int .u8 (q % 2)) :: (24, .int .u8 q) :: (23, .int .i64 ((r : Int) - 1)) :: (22, .int .u8 (gt bs0 k)) :: (21, .agg (c12 ((pw x ((num (bs0.take k)).toNat * 2 ^ (8 - r) + (gt bs0 k).toNat / 2 ^ r)) * (pw x ((num (bs0.take k)).toNat * 2 ^ (8 - r) + (gt bs0 k).toNat / 2 ^ r))))) :: (20, .agg (c12 (pw x ((num (bs0.take k)).toNat * 2 ^ (8 - r) + (gt bs0 k).toNat / 2 ^ r)))) :: (17, .bool true) :: (16, .int .i64 ((r : Int) - 1)) :: (2, .pointer (some ⟨g1, 0, none⟩)) :: (4, .pointer (some ⟨g2, 0, none⟩)) :: (5, .pointer (some ⟨g3, 0, none⟩)) :: (10, .slice A0 n0 c0) :: (11, .int .i64 (n0 : Int)) :: (12, .int .i64 (k : Int)) :: (7, .int .u8 (gt bs0 k)) :: (8, .int .i64 ((r : Int) - 1)) :: l_2), rfl, (by exact hl_2), (Eq.trans (Eq.trans (Eq.trans (Eq.trans (Eq.trans (Eq.trans (Eq.trans (fr_dup _ _ 8 _ (by exact hl_2) (by rfl) (by exact (congrArg (Value.int .i64) (by omega)))).symm (fr_dup _ _ 7 _ (by exact hl_2) (by rfl) (by rfl)).symm) (fr_dup _ _ 12 _ (by exact hl_2) (by rfl) (by rfl)).symm) (fr_dup _ _ 11 _ (by exact hl_2) (by rfl) (by rfl)).symm) (fr_dup _ _ 10 _ (by exact hl_2) (by rfl) (by rfl)).symm) (fr_dup _ _ 5 _ (by exact hl_2) (by rfl) (by rfl)).symm) (fr_dup _ _ 4 _ (by exact hl_2) (by rfl) (by rfl)).symm) (fr_dup _ _ 2 _ (by exact hl_2) (by rfl) (by rfl)).symm), by omega, (by rw [← pow8_odd T12.cr x _ _ r hr0_ hr8 b1.1 q hqd hq1]; exact hw11)⟩
      omega
    ·
      obtain ⟨hr0_, hq1⟩ := hlt2
      obtain ⟨q, hqd⟩ : ∃ q, q = gt bs0 k / 2 ^ (r - 1) := ⟨_, rfl⟩
      have hqb : 0 ≤ q ∧ q < 256 := hqd ▸ div8_lo _ _ b1.1 b1.2
      rw [← hqd] at hq1
      refine wp_seq ?_
      refine seq_plain hw0_2 [0, 1] (by rfl) ?_
      refine L_val (.int .i64 ((r : Int) - 1)) (by rfl) (by exact hl_2) (gives_value _ fun _ => by rfl) ?_
      refine L_val (.bool true) (by rfl) (by exact hl_2) (gives_geq (k := .i64) ((r : Int) - 1) (0) true (by rfl) (by rfl) (decide_eq_true (by omega))) ?_
      refine L_end ?_
      intro w12 hw12
      refine wp_cond_true (fr_at _ _ (by exact hl_2) _) ?_
      refine wp_skip ?_
      change Code.wp _ _ _ _ _
      refine wp_seq ?_
      refine wp_block ?_
      refine seq_plain hw12 [0, 1, 2] (by rfl) ?_
      refine L_val (.agg (c12 (pw x ((num (bs0.take k)).toNat * 2 ^ (8 - r) + (gt bs0 k).toNat / 2 ^ r)))) (by rfl) (by exact hl_2) (gives_load g3 0 51 (c12 (pw x ((num (bs0.take k)).toNat * 2 ^ (8 - r) + (gt bs0 k).toNat / 2 ^ r))) (c12 (pw x ((num (bs0.take k)).toNat * 2 ^ (8 - r) + (gt bs0 k).toNat / 2 ^ r))) _ (by rfl) (fun _ h => h.blk 0 (by rfl)) (Sl.refl _) Tryd.underlying51 (by rfl) (hi_12 _)) ?_
      refine L_val (.agg (c12 ((pw x ((num (bs0.take k)).toNat * 2 ^ (8 - r) + (gt bs0 k).toNat / 2 ^ r)) * (pw x ((num (bs0.take k)).toNat * 2 ^ (8 - r) + (gt bs0 k).toNat / 2 ^ r))))) (by rfl) (by exact hl_2) (gives_call (vl := [.agg (c12 (pw x ((num (bs0.take k)).toNat * 2 ^ (8 - r) + (gt bs0 k).toNat / 2 ^ r)))]) (by kernel_rfl) (by rfl) (fun w h => t_square _ w (hG.keep h.below))) ?_
      refine L_store (t := 51) 0 g3 (c12 (pw x ((num (bs0.take k)).toNat * 2 ^ (8 - r) + (gt bs0 k).toNat / 2 ^ r))) (c12 ((pw x ((num (bs0.take k)).toNat * 2 ^ (8 - r) + (gt bs0 k).toNat / 2 ^ r)) * (pw x ((num (bs0.take k)).toNat * 2 ^ (8 - r) + (gt bs0 k).toNat / 2 ^ r)))) (by rfl) (by exact hl_2) (by rfl) (by rfl) (by rfl) (hi_12 _) ((c12_size _).trans (c12_size _).symm) (c12_one _) ?_
      simp only [List.set_cons_zero, List.set_cons_succ]
      refine L_end ?_
      intro w13 hw13
      refine seq_plain hw13 [0, 1, 2, 3, 4] (by rfl) ?_
      refine L_val (.int .u8 (gt bs0 k)) (by rfl) (by exact hl_2) (gives_value _ fun _ => by rfl) ?_
      refine L_val (.int .i64 ((r : Int) - 1)) (by rfl) (by exact hl_2) (gives_value _ fun _ => by rfl) ?_
      refine L_val (.int .u8 q) (by rfl) (by exact hl_2) (gives_shr (k := .u8) (k2 := .i64) (gt bs0 k) ((r : Int) - 1) q (by rfl) (by rfl) (by omega) (shr_bit8 _ r q hr0_ hr8 hqd)) ?_
      refine L_val (.int .u8 (q % 2)) (by rfl) (by exact hl_2) (gives_and (k := .u8) (q) 1 (q % 2) (by rfl) (by rfl) (and_one8 _ hqb.1 hqb.2)) ?_
      refine L_val (.bool false) (by rfl) (by exact hl_2) (gives_ieq (k := .u8) (q % 2) (1) false (by rfl) (by rfl) (decide_eq_false (by omega))) ?_
      refine L_end ?_
      intro w14 hw14
      refine wp_cond_false (fr_at _ _ (by exact hl_2) _) ?_
      refine wp_skip ?_
      change Code.wp _ _ _ _ _
      refine one_plain hw14 [0, 1, 2] (by rfl) ?_
      refine L_val (.int .i64 ((r : Int) - 1)) (by rfl) (by exact hl_2) (gives_value _ fun _ => by rfl) ?_
      refine L_val (.int .i64 (((r : Int) - 1) - 1)) (by rfl) (by exact hl_2) (gives_sub (k := .i64) ((r : Int) - 1) (1) (((r : Int) - 1) - 1) (by rfl) (by rfl) (IntWalk.i64_in _ (by omega))) ?_
      refine L_val (.int .i64 (((r : Int) - 1) - 1)) (by rfl) (by exact hl_2) (gives_value _ fun _ => by rfl) ?_
      refine L_end ?_
      intro w15 hw15
      change ∃ r' : Nat, r' < r_2 ∧ _
      refine ⟨_, ?_, r - 1, ((8, .int .i64 (((r : Int) - 1) - 1)) :: (19, .int .i64 (((r : Int) - 1) - 1)) :: (18, .int .i64 ((r : Int) - 1)) :: (26, .bool false) :: (25, .int .u8 (q % 2)) :: (24, .int .u8 q) :: (23, .int .i64 ((r : Int) - 1)) :: (22, .int .u8 (gt bs0 k)) :: (21, .agg (c12 ((pw x ((num (bs0.take k)).toNat * 2 ^ (8 - r) + (gt bs0 k).toNat / 2 ^ r)) * (pw x ((num (bs0.take k)).toNat * 2 ^ (8 - r) + (gt bs0 k).toNat / 2 ^ r))))) :: (20, .agg (c12 (pw x ((num (bs0.take k)).toNat * 2 ^ (8 - r) + (gt bs0 k).toNat / 2 ^ r)))) :: (17, .bool true) :: (16, .int .i64 ((r : Int) - 1)) :: (2, .pointer (some ⟨g1, 0, none⟩)) :: (4, .pointer (some ⟨g2, 0, none⟩)) :: (5, .pointer (some ⟨g3, 0, none⟩)) :: (10, .slice A0 n0 c0) :: (11, .int .i64 (n0 : Int)) :: (12, .int .i64 (k : Int)) :: (7, .int .u8 (gt bs0 k)) :: (8, .int .i64 ((r : Int) - 1)) :: l_2), rfl, (by exact hl_2), (Eq.trans (Eq.trans (Eq.trans (Eq.trans (Eq.trans (Eq.trans (Eq.trans (fr_dup _ _ 8 _ (by exact hl_2) (by rfl) (by exact (congrArg (Value.int .i64) (by omega)))).symm (fr_dup _ _ 7 _ (by exact hl_2) (by rfl) (by rfl)).symm) (fr_dup _ _ 12 _ (by exact hl_2) (by rfl) (by rfl)).symm) (fr_dup _ _ 11 _ (by exact hl_2) (by rfl) (by rfl)).symm) (fr_dup _ _ 10 _ (by exact hl_2) (by rfl) (by rfl)).symm) (fr_dup _ _ 5 _ (by exact hl_2) (by rfl) (by rfl)).symm) (fr_dup _ _ 4 _ (by exact hl_2) (by rfl) (by rfl)).symm) (fr_dup _ _ 2 _ (by exact hl_2) (by rfl) (by rfl)).symm), by omega, (by rw [← pow8_even T12.cr x _ _ r hr0_ hr8 b1.1 q hqd hq1]; exact hw15)⟩
      omega
    ·
      refine wp_seq ?_
      refine seq_plain hw0_2 [0, 1] (by rfl) ?_
      refine L_val (.int .i64 ((r : Int) - 1)) (by rfl) (by exact hl_2) (gives_value _ fun _ => by rfl) ?_
      refine L_val (.bool false) (by rfl) (by exact hl_2) (gives_geq (k := .i64) ((r : Int) - 1) (0) false (by rfl) (by rfl) (decide_eq_false (by omega))) ?_
      refine L_end ?_
      intro w16 hw16
      refine wp_cond_false (fr_at _ _ (by exact hl_2) _) ?_
      refine wp_exit ?_
      change Code.wp _ _ _ _ _
      change Code.wp _ _ _ _ _
      refine one_plain hw16 [0, 1] (by rfl) ?_
      refine L_val (.int .i64 ((k : Int) + 1)) (by rfl) (by exact hl_2) (gives_add (k := .i64) ((k : Int)) (1) ((k : Int) + 1) (by rfl) (by rfl) (IntWalk.i64_in _ (by omega))) ?_
      refine L_val (.int .i64 ((k : Int) + 1)) (by rfl) (by exact hl_2) (gives_value _ fun _ => by rfl) ?_
      refine L_end ?_
      intro w17 hw17
      change ∃ r' : Nat, r' < r_1 ∧ _
      refine ⟨_, ?_, k + 1, ((12, .int .i64 ((k : Int) + 1)) :: (30, .int .i64 ((k : Int) + 1)) :: (17, .bool false) :: (16, .int .i64 ((r : Int) - 1)) :: (2, .pointer (some ⟨g1, 0, none⟩)) :: (4, .pointer (some ⟨g2, 0, none⟩)) :: (5, .pointer (some ⟨g3, 0, none⟩)) :: (10, .slice A0 n0 c0) :: (11, .int .i64 (n0 : Int)) :: (12, .int .i64 (k : Int)) :: (7, .int .u8 (gt bs0 k)) :: (8, .int .i64 ((r : Int) - 1)) :: l_2), rfl, (by exact hl_2), (Eq.trans (Eq.trans (Eq.trans (Eq.trans (Eq.trans (fr_dup _ _ 12 _ (by exact hl_2) (by rfl) (by rfl)).symm (fr_dup _ _ 11 _ (by exact hl_2) (by rfl) (by rfl)).symm) (fr_dup _ _ 10 _ (by exact hl_2) (by rfl) (by rfl)).symm) (fr_dup _ _ 5 _ (by exact hl_2) (by rfl) (by rfl)).symm) (fr_dup _ _ 4 _ (by exact hl_2) (by rfl) (by rfl)).symm) (fr_dup _ _ 2 _ (by exact hl_2) (by rfl) (by rfl)).symm), by omega, (by rw [pow8_end bs0 k (by omega) ho0 r hlt2]; exact hw17)⟩
      omega
  ·
    refine seq_plain hw0_1 [0] (by rfl) ?_
    refine L_val (.bool false) (by rfl) (by exact hl_1) (gives_lss (k := .i64) ((k : Int)) ((n0 : Int)) false (by rfl) (by rfl) (decide_eq_false (by omega))) ?_
    refine L_end ?_
    intro w18 hw18
    refine wp_seq ?_
    refine wp_cond_false (fr_at _ _ (by exact hl_1) _) ?_
    refine wp_exit ?_
    have hkN : k = n0 := by omega
    change Code.wp _ _ _ _ _
    change Code.wp _ _ _ _ _
    refine seq_plain hw18 [0, 1] (by rfl) ?_
    refine L_val (.agg (c12 (pw x ((num (bs0.take k)).toNat)))) (by rfl) (by exact hl_1) (gives_load g3 0 51 (c12 (pw x ((num (bs0.take k)).toNat))) (c12 (pw x ((num (bs0.take k)).toNat))) _ (by rfl) (fun _ h => h.blk 0 (by rfl)) (Sl.refl _) Tryd.underlying51 (by rfl) (hi_12 _)) ?_
    refine L_store (t := 51) 1 g2 (c12 (0 : T12)) (c12 (pw x ((num (bs0.take k)).toNat))) (by rfl) (by exact hl_1) (by rfl) (by rfl) (by rfl) (hi_12 _) ((c12_size _).trans (c12_size _).symm) (c12_one _) ?_
    simp only [List.set_cons_zero, List.set_cons_succ]
    refine L_end ?_
    intro w19 hw19
    refine wp_ret ?_
    change bodyPost _ _ _ Exit.ret _ _
    refine (ret_cell (by rfl) (by exact hl_1) (by rfl) (hw19.blk 1 (by rfl)) Tryd.underlying51 (by rfl) (hi_12 _) ⟨?_, hw19.below⟩)
    refine congrArg (fun z : T12 => Ending.returned (.agg (c12 z))) ?_
    rw [hkN, List.take_of_length_le (by omega)]
end Go.Proofs.YtnebmgiajfbnaaaDoor
