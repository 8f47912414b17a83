/-
  Layer 5's reference by elements of the field: Add, Sub, Mul, Norm, Of, Bytes; the law's number and is.
-/
import Derived.Test.YtialfoccalobpaaDoorWBFn2
namespace Go.Proofs.YtialfoccalobpaaDoor
set_option linter.unusedSimpArgs false
set_option linter.unusedVariables false
open Go.RowKit
theorem Fp.val_lt (x : Fp) : (x.val : Int) < Mp := by
  have := x.isLt
  unfold Mp
  unfold Pn at this
  omega
theorem read5 (x : F2) (g c : Nat) (w : World) (hG : Glo w) (hr : Reads w w.heap.size (some ⟨g, 0, none⟩) (48 + 48) ((lo (x.b.val : Int) 48 ++ lo (x.a.val : Int) 48).map (Value.int .u8))) (hc : 96 ≤ c) : Rets 83 #[.slice (some ⟨g, 0, none⟩) (48 + 48) c] w (.tuple #[.agg (c2 x), .int .i64 0]) := by
  have hl : (lo (x.b.val : Int) 48).length = 48 := lo_len _ _
  have e1 : (lo (x.b.val : Int) 48 ++ lo (x.a.val : Int) 48).take 48 = lo (x.b.val : Int) 48 := List.take_left' hl
  have e2 : (lo (x.b.val : Int) 48 ++ lo (x.a.val : Int) 48).drop 48 = lo (x.a.val : Int) 48 := List.drop_left' hl
  have e3 : ∀ y : Fp, num (lo (y.val : Int) 48) = (y.val : Int) := fun y => by
    rw [num_lo]
    exact Int.emod_eq_of_lt (Int.natCast_nonneg _) (Int.lt_trans (Fp.val_lt y) (by unfold Mp; decide))
  have h := q_read_ok g 0 c _ w hG hr (fun b hb => by
    rcases List.mem_append.1 hb with hb | hb
    · exact lo_oct _ _ _ hb
    · exact lo_oct _ _ _ hb) hc (by rw [e1, e3]; exact Fp.val_lt _) (by rw [e2, e3]; exact Fp.val_lt _)
  rw [e1, e2, e3, e3, Fp.n_of, Fp.n_of] at h
  exact h
theorem all_reads {w : World} {g : Nat} {t : TypeId} {x : F2} (h : Blk w g t (b96c x)) : Reads w w.heap.size (some ⟨g, 0, none⟩) 96 ((lo (x.b.val : Int) 48 ++ lo (x.a.val : Int) 48).map (Value.int .u8)) := copy_reads h (by rw [List.length_append, lo_len, lo_len])
attribute [local irreducible] wpL wpF fr Code.wp bodyPost
theorem F2.zero_sub (x : F2) : (0 : F2) - x = -x := by apply F2.same <;> simp only [F2.sub_a, F2.sub_b, F2.neg_a, F2.neg_b, F2.zero_a, F2.zero_b] <;> grind
end Go.Proofs.YtialfoccalobpaaDoor
