/-
  What the line through two points of a curve says of their sum's negative.
-/
import Derived.Test.YtifnnckbcjafgaaDoorQGg
namespace Go.Proofs.YtifnnckbcjafgaaDoor
set_option linter.unusedSimpArgs false
set_option linter.unusedVariables false
set_option linter.unusedSectionVars false
open Go.RowKit
section
variable {P : Program} {ops : Array Oper} {late : List Nat} {R : Act → World → Prop} {v : World} {L L0 : List (Nat × TypeId × Array Value)} {n : Nat} {sl : List (Nat × Value)}
theorem fr_yield_u {j d : Nat} (hl : inFr n sl = true) (hd : Nat.blt d n = true) (hj : (ops[j]?).bind (·.dst) = some d) (hv : look sl d = undef) : yielded ops (fr n sl).tmps j = none := by
  have h := fr_at n sl hl d
  rw [hv] at h
  have hlt : d < (fr n sl).tmps.size := by rw [fr_size]; exact blt_iff.1 hd
  unfold yielded
  rw [hj]
  simp only [Option.bind_some]
  have e : (fr n sl).tmps[d]? = some undef := by
    rw [Array.getElem?_eq_getElem hlt]
    simp only [Array.getD, hlt, dif_pos] at h
    exact congrArg some h
  rw [e]
  rfl
/-- A guarded operation whose guard was itself not reached. -/
theorem flow_skip_u {i d j dj : Nat} {want : Bool} {op : Op} {ty : TypeId} {pos : String} {after : Array Edge} {fuel : Nat} {listed : Array Bool} (hi : ops[i]? = some ⟨some d, op, ty, pos, after, some (j, want)⟩)
    (hs : Region.noSelect ops = true) (hf : Region.free .any ops listed i = true) (hr : (Region.ready .any ops listed).contains i = true) (hl : inFr n sl = true) (hlt : lateOk .any ops late i = true) (hE : L0.Sublist L)
    (hd : Nat.blt dj n = true) (hj : (ops[j]?).bind (·.dst) = some dj) (hv : look sl dj = undef)
    (h : wpF P .any ops late R (Hbl v L0) fuel (listed.setIfInBounds i true) (fr n ((d, undef) :: sl)) (Hbl v L)) : wpF P .any ops late R (Hbl v L0) (fuel + 1) listed (fr n sl) (Hbl v L) :=
  wpF_first hi (Region.noSelect_spec hs) fuel listed _ _ hlt (Ext.of_sub hE) (Region.free_spec hi hf) (by simpa using hr) (.inr ⟨by simp [Region.wanted, fr_yield_u hl hd hj hv], rfl⟩) h
theorem calls_fr5 {f : FuncId} {fn : Func} {c : Code} {w : World} {R : Ending → World → Prop} (hf : P.funcs[f]? = some fn) (hb : fn.body = some c) (hn : fn.ntmps = n) (h1 : Nat.ble 5 n = true) {a b d e' g' : Value} (h : c.wp P (bodyPost P fn R) (fr n [(4, g'), (3, e'), (2, d), (1, b), (0, a)]) w) : Calls P f #[a, b, d, e', g'] w R := by
  have hle := Nat.le_of_ble_eq_true h1
  refine calls_of_wp hf hb ?_
  rw [hn]
  have e := ent_put n [] a (by simp; omega)
  rw [List.length_nil, ent_nil] at e
  have e2 := ent_put n [a] b (by simp; omega)
  have e3 := ent_put n [a, b] d (by simp; omega)
  have e4 := ent_put n [a, b, d] e' (by simp; omega)
  have e5 := ent_put n [a, b, d, e'] g' (by simp; omega)
  have e6 : fr n [(4, g'), (3, e'), (2, d), (1, b), (0, a)] = { tmps := #[a, b, d, e', g'] ++ Array.replicate (n - (#[a, b, d, e', g'] : Array Value).size) undef, defers := [] } := by
    show ((((fr n [(0, a)]).put (some 1) b).put (some 2) d).put (some 3) e').put (some 4) g' = _
    rw [show fr n [(0, a)] = (fr n []).put (some 0) a from rfl, e]
    refine (congrArg (fun x : Act => (((x.put (some 2) d).put (some 3) e').put (some 4) g')) e2).trans ((congrArg (fun x : Act => (x.put (some 3) e').put (some 4) g') e3).trans ((congrArg (fun x : Act => x.put (some 4) g') e4).trans e5))
  rw [← e6]; exact h
end
section
variable {K : Type} [Add K] [Sub K] [Neg K] [Mul K] [Zero K] [One K] [DecidableEq K] {inv : K → K} {b : K}
theorem sd1 (h : RG K) (s x y c : K) : ((c - x) * ((-((s * (x - (((s * s) - x) - c))) - y)) - y)) = (((((s * s) - x) - c) - x) * (s * (c - x))) := by
  have e := rg_eq0 h (rgl [s, x, y, c]) (.mul (.sub (.v 3) (.v 1)) (.sub (.neg (.sub (.mul (.v 0) (.sub (.v 1) (.sub (.sub (.mul (.v 0) (.v 0)) (.v 1)) (.v 3)))) (.v 2))) (.v 2))) (.mul (.sub (.sub (.sub (.mul (.v 0) (.v 0)) (.v 1)) (.v 3)) (.v 1)) (.mul (.v 0) (.sub (.v 3) (.v 1)))) (by decide +kernel)
  simp only [RE.ev] at e
  exact e
theorem sd2 (h : RG K) (s x c : K) : (((x + c) + (((s * s) - x) - c)) * ((c - x) * (c - x))) = ((s * (c - x)) * (s * (c - x))) := by
  have e := rg_eq0 h (rgl [s, x, c]) (.mul (.add (.add (.v 1) (.v 2)) (.sub (.sub (.mul (.v 0) (.v 0)) (.v 1)) (.v 2))) (.mul (.sub (.v 2) (.v 1)) (.sub (.v 2) (.v 1)))) (.mul (.mul (.v 0) (.sub (.v 2) (.v 1))) (.mul (.v 0) (.sub (.v 2) (.v 1)))) (by decide +kernel)
  simp only [RE.ev] at e
  exact e
theorem sd3 (h : RG K) (s x y : K) : ((y + y) * ((-((s * (x - (((s * s) - x) - x))) - y)) - y)) = ((s * (y + y)) * ((((s * s) - x) - x) - x)) := by
  have e := rg_eq0 h (rgl [s, x, y]) (.mul (.add (.v 2) (.v 2)) (.sub (.neg (.sub (.mul (.v 0) (.sub (.v 1) (.sub (.sub (.mul (.v 0) (.v 0)) (.v 1)) (.v 1)))) (.v 2))) (.v 2))) (.mul (.mul (.v 0) (.add (.v 2) (.v 2))) (.sub (.sub (.sub (.mul (.v 0) (.v 0)) (.v 1)) (.v 1)) (.v 1))) (by decide +kernel)
  simp only [RE.ev] at e
  exact e
theorem sd4 (h : RG K) (x : K) : ((((((x * x) * (x * x)) + ((x * x) * (x * x))) + ((x * x) * (x * x))) + ((((x * x) * (x * x)) + ((x * x) * (x * x))) + ((x * x) * (x * x)))) + ((((x * x) * (x * x)) + ((x * x) * (x * x))) + ((x * x) * (x * x)))) = ((((x * x) + (x * x)) + (x * x)) * (((x * x) + (x * x)) + (x * x))) := by
  have e := rg_eq0 h (rgl [x]) (.add (.add (.add (.add (.mul (.mul (.v 0) (.v 0)) (.mul (.v 0) (.v 0))) (.mul (.mul (.v 0) (.v 0)) (.mul (.v 0) (.v 0)))) (.mul (.mul (.v 0) (.v 0)) (.mul (.v 0) (.v 0)))) (.add (.add (.mul (.mul (.v 0) (.v 0)) (.mul (.v 0) (.v 0))) (.mul (.mul (.v 0) (.v 0)) (.mul (.v 0) (.v 0)))) (.mul (.mul (.v 0) (.v 0)) (.mul (.v 0) (.v 0))))) (.add (.add (.mul (.mul (.v 0) (.v 0)) (.mul (.v 0) (.v 0))) (.mul (.mul (.v 0) (.v 0)) (.mul (.v 0) (.v 0)))) (.mul (.mul (.v 0) (.v 0)) (.mul (.v 0) (.v 0))))) (.mul (.add (.add (.mul (.v 0) (.v 0)) (.mul (.v 0) (.v 0))) (.mul (.v 0) (.v 0))) (.add (.add (.mul (.v 0) (.v 0)) (.mul (.v 0) (.v 0))) (.mul (.v 0) (.v 0)))) (by decide +kernel)
  simp only [RE.ev] at e
  exact e
theorem sd5 (h : RG K) (s y : K) : ((s * (y + y)) * (s * (y + y))) = ((s * s) * ((y + y) * (y + y))) := by
  have e := rg_eq0 h (rgl [s, y]) (.mul (.mul (.v 0) (.add (.v 1) (.v 1))) (.mul (.v 0) (.add (.v 1) (.v 1)))) (.mul (.mul (.v 0) (.v 0)) (.mul (.add (.v 1) (.v 1)) (.add (.v 1) (.v 1)))) (by decide +kernel)
  simp only [RE.ev] at e
  exact e
theorem sd6 (h : RG K) (x y : K) : (((((x * (y * y)) + (x * (y * y))) + (x * (y * y))) + (((x * (y * y)) + (x * (y * y))) + (x * (y * y)))) + ((((x * (y * y)) + (x * (y * y))) + (x * (y * y))) + (((x * (y * y)) + (x * (y * y))) + (x * (y * y))))) = (((x + x) + x) * ((y + y) * (y + y))) := by
  have e := rg_eq0 h (rgl [x, y]) (.add (.add (.add (.add (.mul (.v 0) (.mul (.v 1) (.v 1))) (.mul (.v 0) (.mul (.v 1) (.v 1)))) (.mul (.v 0) (.mul (.v 1) (.v 1)))) (.add (.add (.mul (.v 0) (.mul (.v 1) (.v 1))) (.mul (.v 0) (.mul (.v 1) (.v 1)))) (.mul (.v 0) (.mul (.v 1) (.v 1))))) (.add (.add (.add (.mul (.v 0) (.mul (.v 1) (.v 1))) (.mul (.v 0) (.mul (.v 1) (.v 1)))) (.mul (.v 0) (.mul (.v 1) (.v 1)))) (.add (.add (.mul (.v 0) (.mul (.v 1) (.v 1))) (.mul (.v 0) (.mul (.v 1) (.v 1)))) (.mul (.v 0) (.mul (.v 1) (.v 1)))))) (.mul (.add (.add (.v 0) (.v 0)) (.v 0)) (.mul (.add (.v 1) (.v 1)) (.add (.v 1) (.v 1)))) (by decide +kernel)
  simp only [RE.ev] at e
  exact e
theorem sd7 (h : RG K) (S x : K) : S = ((((S - x) - x) + x) + x) := by
  have e := rg_eq0 h (rgl [S, x]) (.v 0) (.add (.add (.sub (.sub (.v 0) (.v 1)) (.v 1)) (.v 1)) (.v 1)) (by decide +kernel)
  simp only [RE.ev] at e
  exact e
/-- What sides asks where no point is nought. -/
theorem sd_chord (E : EC inv b) {p q r : Pt K} (hx : p.x ≠ q.x) (hr : r = -ecCh inv p q) : (q.x - p.x) * (r.y - p.y) = (r.x - p.x) * (q.y - p.y) := by
  have hs : slCh inv p q * (q.x - p.x) = q.y - p.y := E.slope (E.sub_ne hx)
  subst hr
  show (q.x - p.x) * (-(slCh inv p q * (p.x - (slCh inv p q * slCh inv p q - p.x - q.x)) - p.y) - p.y) = (slCh inv p q * slCh inv p q - p.x - q.x - p.x) * (q.y - p.y)
  rw [← hs]
  generalize slCh inv p q = s
  exact sd1 E.rg s p.x p.y q.x
theorem sd_lambda (E : EC inv b) {p q r : Pt K} (hx : p.x ≠ q.x) (hr : r = -ecCh inv p q) : (p.x + q.x + r.x) * ((q.x - p.x) * (q.x - p.x)) = (q.y - p.y) * (q.y - p.y) := by
  have hs : slCh inv p q * (q.x - p.x) = q.y - p.y := E.slope (E.sub_ne hx)
  subst hr
  show (p.x + q.x + (slCh inv p q * slCh inv p q - p.x - q.x)) * ((q.x - p.x) * (q.x - p.x)) = (q.y - p.y) * (q.y - p.y)
  rw [← hs]
  generalize slCh inv p q = s
  exact sd2 E.rg s p.x q.x
theorem sd_tangent (E : EC inv b) {p r : Pt K} (hy : p.y ≠ 0) (hr : r = -ecDb inv p) : (p.y + p.y) * (r.y - p.y) = (p.x * p.x + p.x * p.x + p.x * p.x) * (r.x - p.x) := by
  have hs : slDb inv p * (p.y + p.y) = p.x * p.x + p.x * p.x + p.x * p.x := E.slope (E.twice_ne hy)
  subst hr
  show (p.y + p.y) * (-(slDb inv p * (p.x - (slDb inv p * slDb inv p - p.x - p.x)) - p.y) - p.y) = (p.x * p.x + p.x * p.x + p.x * p.x) * (slDb inv p * slDb inv p - p.x - p.x - p.x)
  rw [← hs]
  generalize slDb inv p = s
  exact sd3 E.rg s p.x p.y
theorem sd_three (E : EC inv b) {p r : Pt K} (hy : p.y ≠ 0) (hr : r = -ecDb inv p) (hx : r.x = p.x) :
    p.x * p.x * (p.x * p.x) + p.x * p.x * (p.x * p.x) + p.x * p.x * (p.x * p.x) + (p.x * p.x * (p.x * p.x) + p.x * p.x * (p.x * p.x) + p.x * p.x * (p.x * p.x)) + (p.x * p.x * (p.x * p.x) + p.x * p.x * (p.x * p.x) + p.x * p.x * (p.x * p.x)) =
    p.x * (p.y * p.y) + p.x * (p.y * p.y) + p.x * (p.y * p.y) + (p.x * (p.y * p.y) + p.x * (p.y * p.y) + p.x * (p.y * p.y)) + (p.x * (p.y * p.y) + p.x * (p.y * p.y) + p.x * (p.y * p.y) + (p.x * (p.y * p.y) + p.x * (p.y * p.y) + p.x * (p.y * p.y))) := by
  have hs : slDb inv p * (p.y + p.y) = p.x * p.x + p.x * p.x + p.x * p.x := E.slope (E.twice_ne hy)
  subst hr
  replace hx : slDb inv p * slDb inv p - p.x - p.x = p.x := hx
  rw [sd4 E.rg p.x, ← hs, sd5 E.rg (slDb inv p) p.y, sd6 E.rg p.x p.y]
  have e := sd7 E.rg (slDb inv p * slDb inv p) p.x
  rw [hx] at e
  rw [e]
theorem sd_same (E : EC inv b) {p r : Pt K} (hp : Aff b p) (hr : r = -ecDb inv p) (hx : r.x = p.x) : r = p := by
  have ha : Aff b r := by rw [hr]; exact E.aff_neg (E.on_db hp)
  rcases E.xeq ha hp hx with h | h
  · exact h
  · rw [hr] at h
    have h2 : ecAdd inv p p = ecAdd inv 0 p := by rw [EC.add_db (E.aff_ne hp), EC.zero_add]; exact E.neg_inj h
    exact absurd (E.right_cancel (.inr hp) (.inr hp) (.inl rfl) h2) (E.aff_ne hp)
/-- The ways in which two points of a curve and the negative of their sum may lie. -/
theorem sd_ways (E : EC inv b) (h0 : inv 0 = 0) {p q r : Pt K} (hp : OnC b p) (hq : OnC b q) (hr : r = -gAdd inv p q) :
    (p = 0 ∧ q = -r) ∨ (p ≠ 0 ∧ q = 0 ∧ p = -r) ∨ (p ≠ 0 ∧ q ≠ 0 ∧ r = 0 ∧ p = -q) ∨
    (p ≠ 0 ∧ q ≠ 0 ∧ r ≠ 0 ∧ p = q ∧ r.x ≠ p.x ∧ (p.y + p.y) * (r.y - p.y) = (p.x * p.x + p.x * p.x + p.x * p.x) * (r.x - p.x)) ∨
    (p ≠ 0 ∧ q ≠ 0 ∧ r ≠ 0 ∧ p = q ∧ r.x = p.x ∧ r = p ∧
      p.x * p.x * (p.x * p.x) + p.x * p.x * (p.x * p.x) + p.x * p.x * (p.x * p.x) + (p.x * p.x * (p.x * p.x) + p.x * p.x * (p.x * p.x) + p.x * p.x * (p.x * p.x)) + (p.x * p.x * (p.x * p.x) + p.x * p.x * (p.x * p.x) + p.x * p.x * (p.x * p.x)) =
      p.x * (p.y * p.y) + p.x * (p.y * p.y) + p.x * (p.y * p.y) + (p.x * (p.y * p.y) + p.x * (p.y * p.y) + p.x * (p.y * p.y)) + (p.x * (p.y * p.y) + p.x * (p.y * p.y) + p.x * (p.y * p.y) + (p.x * (p.y * p.y) + p.x * (p.y * p.y) + p.x * (p.y * p.y)))) ∨
    (p ≠ 0 ∧ q ≠ 0 ∧ r ≠ 0 ∧ p ≠ q ∧ p.x ≠ q.x ∧ (q.x - p.x) * (r.y - p.y) = (r.x - p.x) * (q.y - p.y) ∧ (p.x + q.x + r.x) * ((q.x - p.x) * (q.x - p.x)) = (q.y - p.y) * (q.y - p.y)) := by
  rw [g_add E h0 hp hq] at hr
  by_cases zp : p = 0
  · refine .inl ⟨zp, ?_⟩
    rw [hr, E.neg_neg, zp, EC.zero_add]
  · by_cases zq : q = 0
    · refine .inr (.inl ⟨zp, zq, ?_⟩)
      rw [hr, E.neg_neg, zq, EC.add_zero]
    · have ap : Aff b p := hp.resolve_left zp
      have aq : Aff b q := hq.resolve_left zq
      by_cases zr : r = 0
      · refine .inr (.inr (.inl ⟨zp, zq, zr, ?_⟩))
        refine E.sum_zero hp hq ?_
        rw [← E.neg_neg (ecAdd inv p q), ← hr, zr, E.neg_zero]
      · by_cases hpq : p = q
        · have hd : r = -ecDb inv p := by rw [hr, ← hpq, EC.add_db zp]
          by_cases hx : r.x = p.x
          · exact .inr (.inr (.inr (.inr (.inl ⟨zp, zq, zr, hpq, hx, sd_same E ap hd hx, sd_three E (E.y0 ap) hd hx⟩))))
          · exact .inr (.inr (.inr (.inl ⟨zp, zq, zr, hpq, hx, sd_tangent E (E.y0 ap) hd⟩)))
        · have hx : p.x ≠ q.x := fun hx => by
            rcases E.xeq ap aq hx with h | h
            · exact hpq h
            · apply zr
              rw [hr, h, ← E.neg_neg q, E.neg_neg (-q), E.neg_neg, E.neg_add_self hq, E.neg_zero]
          have hd : r = -ecCh inv p q := by rw [hr, EC.add_ch zp zq hx]
          exact .inr (.inr (.inr (.inr (.inr ⟨zp, zq, zr, hpq, hx, sd_chord E hx hd, sd_lambda E hx hd⟩))))
end
end Go.Proofs.YtifnnckbcjafgaaDoor
