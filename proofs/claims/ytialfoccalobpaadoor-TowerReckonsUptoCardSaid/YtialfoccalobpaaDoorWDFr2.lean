/-
  fp2's Read.
-/
import Derived.Test.YtialfoccalobpaaDoorWDFpErr
import Derived.Test.YtialfoccalobpaaDoorWDFb
namespace Go.Proofs.YtialfoccalobpaaDoor
set_option linter.unusedSimpArgs false
set_option linter.unusedVariables false
open Go.RowKit
section
variable {P : Program} {S : World → Prop} {l : List (Nat × Value)} {dst : Option Nat} {x y : Operand} {t ty : TypeId} {pos : String} {after : Array Edge} {gd : Option (Nat × Bool)}
/-- x[:j] and x[j:] of a slice of one-cell elements. -/
theorem gives_low {e : TypeId} {k : IntKind} (b o m c j : Nat) (i : Int) (hx : rho l x = .slice (some ⟨b, o, none⟩) m c) (hy : rho l y = .int k i) (ht : P.underlying t = some (.slice e)) (hs : (P.info? e).map (·.size) = some 1) (h0 : i = (j : Int)) (h1 : j ≤ c) :
    Gives P S (.slice (some ⟨b, o, none⟩) j c) (execOp (rho l) ⟨dst, .slice t x none (some y) none, ty, pos, after, gd⟩) := gives_value _ fun w => by
  subst h0
  obtain ⟨ie, he, hz⟩ := Option.map_eq_some_iff.1 hs
  simp [execOp, hx, hy, Instr.sliceAt, Instr.slice, Instr.sliceBounds, Instr.sliceBound, run_underlying ht, asIntOf, sizeOf, typeInfo, he, hz, h1, add_plain]
theorem gives_high {e : TypeId} {k : IntKind} (b o m c j : Nat) (i : Int) (hx : rho l x = .slice (some ⟨b, o, none⟩) m c) (hy : rho l y = .int k i) (ht : P.underlying t = some (.slice e)) (hs : (P.info? e).map (·.size) = some 1) (h0 : i = (j : Int)) (h1 : j ≤ m) (h2 : m ≤ c) (h3 : j < c) :
    Gives P S (.slice (some ⟨b, o + j, none⟩) (m - j) (c - j)) (execOp (rho l) ⟨dst, .slice t x (some y) none none, ty, pos, after, gd⟩) := gives_value _ fun w => by
  subst h0
  obtain ⟨ie, he, hz⟩ := Option.map_eq_some_iff.1 hs
  have h4 : ¬ c = j := by omega
  simp [execOp, hx, hy, Instr.sliceAt, Instr.slice, Instr.sliceBounds, Instr.sliceBound, run_underlying ht, asIntOf, sizeOf, typeInfo, he, hz, h1, h2, h4, add_plain]
end
theorem front48 {w : World} {b o : Nat} {bs : List Int} (h : Reads w w.heap.size (some ⟨b, o, none⟩) 96 (bs.map (Value.int .u8))) : Reads w w.heap.size (some ⟨b, o, none⟩) 48 ((bs.take 48).map (Value.int .u8)) := by
  have := h.front (k := 48) (by omega)
  rwa [← List.map_take] at this
theorem back48 {w : World} {b o : Nat} {bs : List Int} (h : Reads w w.heap.size (some ⟨b, o, none⟩) 96 (bs.map (Value.int .u8))) : Reads w w.heap.size (some ⟨b, o + 48, none⟩) 48 ((bs.drop 48).map (Value.int .u8)) := by
  have e := reads_part h 48 48 (by omega) (by omega)
  have hl : bs.length = 96 := by simpa using h.1
  rw [← List.map_drop, ← List.map_take, List.take_of_length_le (by simp; omega)] at e
  exact e
attribute [local irreducible] wpL wpF fr Code.wp bodyPost
set_option maxRecDepth 100000 in
set_option maxHeartbeats 4000000 in
theorem q_read_ok (b o C0 : Nat) (bs0 : List Int) (v : World) (hG : Glo v) (hr0 : Reads v v.heap.size (some ⟨b, o, none⟩) 96 (bs0.map (Value.int .u8))) (ho0 : Oct bs0) (hc : 96 ≤ C0) (hb : num (bs0.take 48) < Mp) (ha : num (bs0.drop 48) < Mp) : Rets 83 #[.slice (some ⟨b, o, none⟩) 96 C0] v (.tuple #[.agg (c2 (⟨Fp.n (num (bs0.drop 48)), Fp.n (num (bs0.take 48))⟩ : F2)), .int .i64 0]) := by
  refine calls_fr1 Tryd.func83 rfl (by rfl : _ = 34) (by rfl) ?_
  have hw := Hbl.nil v
  refine seq_plain hw [0, 1] (by rfl) ?_
  refine L_alloc _ (by rfl) (by rfl) z_2 (c2 (0 : F2)) rfl ?_; intro g1
  refine L_val (.int .i64 0) (by rfl) (by rfl) (gives_value _ fun _ => by rfl) ?_
  refine L_end ?_
  intro w1 hw1
  refine wp_seq ?_
  refine seq_plain hw1 [0, 1, 2] (by rfl) ?_
  refine L_val (.slice (some ⟨b, o, none⟩) 96 C0) (by rfl) (by rfl) (gives_value _ fun _ => by rfl) ?_
  refine L_val (.int .i64 (96 : Int)) (by rfl) (by rfl) (gives_len _ 96 C0 und_u8s (by rfl)) ?_
  refine L_val (.bool false) (by rfl) (by rfl) (gives_ine (k := .i64) ((96 : Int)) (96) false (by rfl) (by rfl) (decide_eq_false (by omega))) ?_
  refine L_end ?_
  intro w2 hw2
  refine wp_cond_false (fr_at _ _ (by rfl) _) ?_
  refine wp_skip ?_
  change Code.wp _ _ _ _ _
  refine seq_plain hw2 [0, 1, 2, 3, 4, 5, 6, 7, 8] (by rfl) ?_
  refine L_val (.slice (some ⟨b, o, none⟩) 96 C0) (by rfl) (by rfl) (gives_value _ fun _ => by rfl) ?_
  refine L_val (.slice (some ⟨b, o, none⟩) 48 C0) (by rfl) (by rfl) (gives_low b o 96 C0 48 48 (by rfl) (by rfl) und_u8s u8_sz rfl (by omega)) ?_
  refine L_val (.tuple #[.agg (pc (Fp.n (num (bs0.take 48)))), .int .i64 0]) (by rfl) (by rfl) (gives_call (vl := [.slice (some ⟨b, o, none⟩) 48 C0]) (by kernel_rfl) (by rfl) (fun w h => v_read_ok _ _ (bs0.take 48) w (hG.keep h.below) (front48 ((hr0.below h.below).more h.below.size)) (ho0.take 48) (by omega) hb)) ?_
  refine L_val (.tuple #[.agg (pc (Fp.n (num (bs0.take 48)))), .int .i64 0]) (by rfl) (by rfl) (gives_value _ fun _ => by rfl) ?_
  refine L_val (.agg (pc (Fp.n (num (bs0.take 48))))) (by rfl) (by rfl) (gives_value _ fun _ => by kernel_rfl) ?_
  refine L_val (.int .i64 0) (by rfl) (by rfl) (gives_value _ fun _ => by kernel_rfl) ?_
  refine L_alloc _ (by rfl) (by rfl) z_1 (pc (0 : Fp)) rfl ?_; intro g2
  refine L_store (t := 35) 0 g2 (pc (0 : Fp)) (pc (Fp.n (num (bs0.take 48)))) (by rfl) (by rfl) (by rfl) (by rfl) (by rfl) (hi_1 _) ((pc_size _).trans (pc_size _).symm) (pc_one _) ?_
  simp only [List.set_cons_zero, List.set_cons_succ]
  refine L_val (.int .i64 0) (by rfl) (by rfl) (gives_value _ fun _ => by rfl) ?_
  refine L_end ?_
  intro w3 hw3
  refine wp_seq ?_
  refine seq_plain hw3 [0, 1] (by rfl) ?_
  refine L_val (.int .i64 0) (by rfl) (by rfl) (gives_value _ fun _ => by rfl) ?_
  refine L_val (.bool false) (by rfl) (by rfl) (gives_ine (k := .i64) (0) (0) false (by rfl) (by rfl) (decide_eq_false (by omega))) ?_
  refine L_end ?_
  intro w4 hw4
  refine wp_cond_false (fr_at _ _ (by rfl) _) ?_
  refine wp_skip ?_
  change Code.wp _ _ _ _ _
  refine seq_plain hw4 [0, 1, 2, 3, 4, 5, 6, 7, 8] (by rfl) ?_
  refine L_val (.slice (some ⟨b, o, none⟩) 96 C0) (by rfl) (by rfl) (gives_value _ fun _ => by rfl) ?_
  refine L_val (.slice (some ⟨b, o + 48, none⟩) (96 - 48) (C0 - 48)) (by rfl) (by rfl) (gives_high b o 96 C0 48 48 (by rfl) (by rfl) und_u8s u8_sz rfl (by omega) (by omega) (by omega)) ?_
  refine L_val (.tuple #[.agg (pc (Fp.n (num (bs0.drop 48)))), .int .i64 0]) (by rfl) (by rfl) (gives_call (vl := [.slice (some ⟨b, o + 48, none⟩) (96 - 48) (C0 - 48)]) (by kernel_rfl) (by rfl) (fun w h => v_read_ok _ _ (bs0.drop 48) w (hG.keep h.below) (back48 ((hr0.below h.below).more h.below.size)) (ho0.drop 48) (by omega) ha)) ?_
  refine L_val (.tuple #[.agg (pc (Fp.n (num (bs0.drop 48)))), .int .i64 0]) (by rfl) (by rfl) (gives_value _ fun _ => by rfl) ?_
  refine L_val (.agg (pc (Fp.n (num (bs0.drop 48))))) (by rfl) (by rfl) (gives_value _ fun _ => by kernel_rfl) ?_
  refine L_val (.int .i64 0) (by rfl) (by rfl) (gives_value _ fun _ => by kernel_rfl) ?_
  refine L_alloc _ (by rfl) (by rfl) z_1 (pc (0 : Fp)) rfl ?_; intro g3
  refine L_store (t := 35) 0 g3 (pc (0 : Fp)) (pc (Fp.n (num (bs0.drop 48)))) (by rfl) (by rfl) (by rfl) (by rfl) (by rfl) (hi_1 _) ((pc_size _).trans (pc_size _).symm) (pc_one _) ?_
  simp only [List.set_cons_zero, List.set_cons_succ]
  refine L_val (.int .i64 0) (by rfl) (by rfl) (gives_value _ fun _ => by rfl) ?_
  refine L_end ?_
  intro w5 hw5
  refine wp_seq ?_
  refine seq_plain hw5 [0, 1] (by rfl) ?_
  refine L_val (.int .i64 0) (by rfl) (by rfl) (gives_value _ fun _ => by rfl) ?_
  refine L_val (.bool false) (by rfl) (by rfl) (gives_ine (k := .i64) (0) (0) false (by rfl) (by rfl) (decide_eq_false (by omega))) ?_
  refine L_end ?_
  intro w6 hw6
  refine wp_cond_false (fr_at _ _ (by rfl) _) ?_
  refine wp_skip ?_
  change Code.wp _ _ _ _ _
  refine seq_plain hw6 [0, 1, 2, 3, 4] (by rfl) ?_
  refine L_val (.agg (pc (Fp.n (num (bs0.drop 48))))) (by rfl) (by rfl) (gives_load g3 0 35 (pc (Fp.n (num (bs0.drop 48)))) (pc (Fp.n (num (bs0.drop 48)))) _ (by rfl) (fun _ h => h.blk 0 (by rfl)) (Sl.refl _) Tryd.underlying35 (by rfl) (hi_1 _)) ?_
  refine L_val (.agg (pc (Fp.n (num (bs0.take 48))))) (by rfl) (by rfl) (gives_load g2 0 35 (pc (Fp.n (num (bs0.take 48)))) (pc (Fp.n (num (bs0.take 48)))) _ (by rfl) (fun _ h => h.blk 1 (by rfl)) (Sl.refl _) Tryd.underlying35 (by rfl) (hi_1 _)) ?_
  refine L_val (.agg (c2 (⟨Fp.n (num (bs0.drop 48)), Fp.n (num (bs0.take 48))⟩ : F2))) (by rfl) (by rfl) (gb_fp2 [(0, (pc (Fp.n (num (bs0.drop 48))))), (1, (pc (Fp.n (num (bs0.take 48)))))] ⟨congrArg some (pc_size _).symm, congrArg some (pc_size _).symm, trivial⟩ (by rfl) (c2 (⟨Fp.n (num (bs0.drop 48)), Fp.n (num (bs0.take 48))⟩ : F2)) (by rfl)) ?_
  refine L_store (t := 37) 2 g1 (c2 (0 : F2)) (c2 (⟨Fp.n (num (bs0.drop 48)), Fp.n (num (bs0.take 48))⟩ : F2)) (by rfl) (by rfl) (by rfl) (by rfl) (by rfl) (hi_2 _) ((c2_size _).trans (c2_size _).symm) (c2_one _) ?_
  simp only [List.set_cons_zero, List.set_cons_succ]
  refine L_val (.int .i64 0) (by rfl) (by rfl) (gives_value _ fun _ => by rfl) ?_
  refine L_end ?_
  intro w7 hw7
  refine wp_ret ?_
  change bodyPost _ _ _ Exit.ret _ _
  refine (ret_cell_tmp (by rfl) (by rfl) (by rfl) (by rfl) (hw7.blk 2 (by rfl)) Tryd.underlying37 (by rfl) (hi_2 _) ⟨?_, hw7.below⟩)
  rfl
end Go.Proofs.YtialfoccalobpaaDoor
