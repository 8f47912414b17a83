/-
  What the laws of the groups say of points that are of the group, and of others.
-/
import Derived.Test.YtifnnckbcjafgaaDoorQGv
namespace Go.Proofs.YtifnnckbcjafgaaDoor
set_option linter.unusedSimpArgs false
set_option linter.unusedVariables false
set_option linter.unusedSectionVars false
open Go.RowKit
theorem blk_cast {w : World} {g : Nat} {t : TypeId} {cs cs' : Array Value} (e : cs = cs') (h : Blk w g t cs) : Blk w g t cs' := e ▸ h
theorem r_at {k : Int} (hk : k = -1) : (b32c ((k) % Mr))[0 + 31]? = some (Value.int .u8 0) := by
  rw [hk, b32c, ag8_at _ _ (by rw [lo_len]; omega)]
  have : gt (lo ((-1) % Mr) 32) (0 + 31) = 0 := by decide +kernel
  rw [this]
theorem r_bytes {k : Int} (hk : k = -1) : (b32c ((k) % Mr)).setIfInBounds (0 + (31)) (.int .u8 1) = ag8 (lo Mr 32) := by
  rw [hk, b32c, ag8_set]
  have : (lo ((-1) % Mr) 32).set (0 + 31) 1 = lo Mr 32 := by decide +kernel
  rw [this]
section
variable {K : Type} [Add K] [Sub K] [Neg K] [Mul K] [Zero K] [One K] [DecidableEq K] {inv : K → K} {b : K}
theorem grp_ways (E : EC inv b) (h0 : inv 0 = 0) (x : Pt K) : (x = 0 ∧ gMul inv x (-1) = -x) ∨ (x ≠ 0 ∧ gMul inv x (-1) = -x) ∨ (x ≠ 0 ∧ gMul inv x (-1) ≠ -x) := by
  by_cases hz : x = 0
  · exact .inl ⟨hz, (in_iff E h0 (.inl hz)).2 (by rw [hz, E.n_zero])⟩
  · by_cases hi : gMul inv x (-1) = -x
    · exact .inr (.inl ⟨hz, hi⟩)
    · exact .inr (.inr ⟨hz, hi⟩)
theorem times_r (E : EC inv b) (h0 : inv 0 = 0) {q : Pt K} (h : OnC b q) : gTimes inv q (lo Mr 32) = ecN inv Mr.toNat q := by
  rw [g_times E h0 h _ (lo_oct _ _), show num (lo Mr 32) = Mr by decide +kernel]
theorem times_r_0 (E : EC inv b) (h0 : inv 0 = 0) {q : Pt K} (h : OnC b q) (hi : gMul inv q (-1) = -q) : gTimes inv q (lo Mr 32) = 0 := by
  rw [times_r E h0 h]; exact (in_iff E h0 h).1 hi
theorem times_r_n (E : EC inv b) (h0 : inv 0 = 0) {q : Pt K} (h : OnC b q) (hi : gMul inv q (-1) ≠ -q) : gTimes inv q (lo Mr 32) ≠ 0 := fun e => by
  rw [times_r E h0 h] at e; exact hi ((in_iff E h0 h).2 e)
theorem gin_sum (E : EC inv b) (h0 : inv 0 = 0) {q p : Pt K} (h : OnC b q) (hp : InG inv b p) : gMul inv (gAdd inv q p) (-1) = -gAdd inv q p ↔ gMul inv q (-1) = -q := by
  rw [in_iff E h0 (on_gadd E h0 h hp.1), in_iff E h0 h, g_add E h0 h hp.1, E.n_sum h hp.1, hp.2, EC.add_zero]
theorem on_twice0 (E : EC inv b) {x : Pt K} (h : x = 0) : OnC b (⟨x.x, x.y + x.y⟩ : Pt K) := by
  subst h
  exact .inl (Pt.same rfl (E.rg.az 0))
theorem on_twice (E : EC inv b) (h3 : (1 + 1 + 1 : K) ≠ 0) {x : Pt K} (hx : OnC b x) (h : x ≠ 0) : ¬ OnC b (⟨x.x, x.y + x.y⟩ : Pt K) := by
  rcases hx with hx | hx
  · exact absurd hx h
  · have hy := E.y0 hx
    intro hc
    rcases hc with hc | hc
    · exact E.twice_ne hy (congrArg Pt.y hc)
    · have e : (x.y + x.y) * (x.y + x.y) = x.y * x.y := by
        have := hc
        unfold Aff at this hx
        rw [this, hx]
      have i : (x.y + x.y) * (x.y + x.y) = x.y * x.y + (1 + 1 + 1) * (x.y * x.y) := by simp only [E.rg.dm, E.rg.md, E.rg.om, E.rg.aa]
      have j := E.rg.cancel (x := x.y * x.y) (y := (1 + 1 + 1) * (x.y * x.y)) (z := 0) (by rw [← i, e, E.rg.az])
      exact E.mul_ne h3 (E.mul_ne hy hy) j
end
theorem three2 : (1 + 1 + 1 : F2) ≠ 0 := by decide +kernel
end Go.Proofs.YtifnnckbcjafgaaDoor
