/-
  fp: numbers: == as an operation, inverses, roots; the contracts of Sqrt, Odd, Large.
-/
import Derived.Test.YtclfmdaafpachaaDoorFpK
import Derived.Test.YtclfmdaafpachaaDoorFpJ
import Derived.Test.YtclfmdaafpachaaDoorFrBased
namespace Go.Proofs.YtclfmdaafpachaaDoor
open Go.RowKit
theorem pv_same (x y : Int) (h : x % Mp = y % Mp) (w : World) : (Op.equalIn 9999 50 (.agg #[.int .u64 (wd (fe Mp (Wd ^ 6) x) 0), .int .u64 (wd (fe Mp (Wd ^ 6) x) 1), .int .u64 (wd (fe Mp (Wd ^ 6) x) 2), .int .u64 (wd (fe Mp (Wd ^ 6) x) 3), .int .u64 (wd (fe Mp (Wd ^ 6) x) 4), .int .u64 (wd (fe Mp (Wd ^ 6) x) 5)]) (.agg #[.int .u64 (wd (fe Mp (Wd ^ 6) y) 0), .int .u64 (wd (fe Mp (Wd ^ 6) y) 1), .int .u64 (wd (fe Mp (Wd ^ 6) y) 2), .int .u64 (wd (fe Mp (Wd ^ 6) y) 3), .int .u64 (wd (fe Mp (Wd ^ 6) y) 4), .int .u64 (wd (fe Mp (Wd ^ 6) y) 5)])).run Tryd.prog w = .ok true w := by
  have e := pv_eq x y w
  rw [decide_eq_true h] at e
  exact e
theorem pv_unlike (x y : Int) (h : ¬ x % Mp = y % Mp) (w : World) : (Op.equalIn 9999 50 (.agg #[.int .u64 (wd (fe Mp (Wd ^ 6) x) 0), .int .u64 (wd (fe Mp (Wd ^ 6) x) 1), .int .u64 (wd (fe Mp (Wd ^ 6) x) 2), .int .u64 (wd (fe Mp (Wd ^ 6) x) 3), .int .u64 (wd (fe Mp (Wd ^ 6) x) 4), .int .u64 (wd (fe Mp (Wd ^ 6) x) 5)]) (.agg #[.int .u64 (wd (fe Mp (Wd ^ 6) y) 0), .int .u64 (wd (fe Mp (Wd ^ 6) y) 1), .int .u64 (wd (fe Mp (Wd ^ 6) y) 2), .int .u64 (wd (fe Mp (Wd ^ 6) y) 3), .int .u64 (wd (fe Mp (Wd ^ 6) y) 4), .int .u64 (wd (fe Mp (Wd ^ 6) y) 5)])).run Tryd.prog w = .ok false w := by
  have e := pv_eq x y w
  rw [decide_eq_false h] at e
  exact e
theorem pv_nought (x : Int) (h : ¬ x % Mp = 0) (w : World) : (Op.equalIn 9999 50 (.agg #[.int .u64 (wd (fe Mp (Wd ^ 6) x) 0), .int .u64 (wd (fe Mp (Wd ^ 6) x) 1), .int .u64 (wd (fe Mp (Wd ^ 6) x) 2), .int .u64 (wd (fe Mp (Wd ^ 6) x) 3), .int .u64 (wd (fe Mp (Wd ^ 6) x) 4), .int .u64 (wd (fe Mp (Wd ^ 6) x) 5)]) (.agg #[.int .u64 0, .int .u64 0, .int .u64 0, .int .u64 0, .int .u64 0, .int .u64 0])).run Tryd.prog w = .ok false w := by
  have e := pv_eq x 0 w
  rw [decide_eq_false (by simpa using h)] at e
  unfold pv at e
  rw [pe_zero] at e
  exact e
theorem pv_isNought (x : Int) (h : x % Mp = 0) (w : World) : (Op.equalIn 9999 50 (.agg #[.int .u64 (wd (fe Mp (Wd ^ 6) x) 0), .int .u64 (wd (fe Mp (Wd ^ 6) x) 1), .int .u64 (wd (fe Mp (Wd ^ 6) x) 2), .int .u64 (wd (fe Mp (Wd ^ 6) x) 3), .int .u64 (wd (fe Mp (Wd ^ 6) x) 4), .int .u64 (wd (fe Mp (Wd ^ 6) x) 5)]) (.agg #[.int .u64 0, .int .u64 0, .int .u64 0, .int .u64 0, .int .u64 0, .int .u64 0])).run Tryd.prog w = .ok true w := by
  have e := pv_eq x 0 w
  rw [decide_eq_true (by simpa using h)] at e
  unfold pv at e
  rw [pe_zero] at e
  exact e
theorem invp_ok (x : Int) (hx : x % Mp ≠ 0) : x * x ^ Ep % Mp = 1 % Mp := by
  have h := little_int pr_p x hx
  have e : x * x ^ Ep = x ^ (Ep + 1) := by rw [Int.pow_succ, Int.mul_comm]
  rw [e]
  have e2 : Ep + 1 = 4002409555221667393417789825735904156556882819939007885332058136124031650490837864442687629129015664037894272559787 - 1 := by simp [Ep]
  rw [e2]
  exact h.trans (by decide)
theorem invp_unit (x : Int) (hx : x % Mp ≠ 0) : x ^ Ep % Mp ≠ 0 := by
  intro h
  have h1 := invp_ok x hx
  rw [← mem', h, Int.mul_zero, Int.zero_emod] at h1
  exact absurd h1 (by decide)
theorem invp_inv (x : Int) (hx : x % Mp ≠ 0) : (x ^ Ep) ^ Ep % Mp = x % Mp := by
  have h1 := invp_ok x hx
  have h2 := invp_ok (x ^ Ep) (invp_unit x hx)
  generalize (x ^ Ep) ^ Ep = b at *
  generalize x ^ Ep = a at *
  have h3 : x * (a * b) % Mp = x % Mp := by rw [← mem', h2, mem', Int.mul_one]
  rw [← Int.mul_assoc, ← emm, h1, emm, Int.one_mul] at h3
  exact h3
/-- (p + 1) / 4, and (p + 1) / 2. -/
def Qp : Nat := 1000602388805416848354447456433976039139220704984751971333014534031007912622709466110671907282253916009473568139947
def Up : Int := 2001204777610833696708894912867952078278441409969503942666029068062015825245418932221343814564507832018947136279894
structure GQp (w : World) : Prop where
  c0 : w.cell? ⟨4, 0, none⟩ = some (.int .u64 (wd ((Qp : Int)) 0))
  c1 : w.cell? ⟨4, 1, none⟩ = some (.int .u64 (wd ((Qp : Int)) 1))
  c2 : w.cell? ⟨4, 2, none⟩ = some (.int .u64 (wd ((Qp : Int)) 2))
  c3 : w.cell? ⟨4, 3, none⟩ = some (.int .u64 (wd ((Qp : Int)) 3))
  c4 : w.cell? ⟨4, 4, none⟩ = some (.int .u64 (wd ((Qp : Int)) 4))
  c5 : w.cell? ⟨4, 5, none⟩ = some (.int .u64 (wd ((Qp : Int)) 5))
theorem GQp.keep {w w' : World} (h : GQp w) (hb : Below w.heap.size w w') : GQp w' := by
  have hl := World.block_lt_of_cell? w _ h.c0
  exact ⟨(hb.cell (p := ⟨_, 0, none⟩) hl).trans h.c0, (hb.cell (p := ⟨_, 1, none⟩) hl).trans h.c1, (hb.cell (p := ⟨_, 2, none⟩) hl).trans h.c2, (hb.cell (p := ⟨_, 3, none⟩) hl).trans h.c3, (hb.cell (p := ⟨_, 4, none⟩) hl).trans h.c4, (hb.cell (p := ⟨_, 5, none⟩) hl).trans h.c5⟩
structure GUp (w : World) : Prop where
  c0 : w.cell? ⟨5, 0, none⟩ = some (.int .u64 (wd (Up) 0))
  c1 : w.cell? ⟨5, 1, none⟩ = some (.int .u64 (wd (Up) 1))
  c2 : w.cell? ⟨5, 2, none⟩ = some (.int .u64 (wd (Up) 2))
  c3 : w.cell? ⟨5, 3, none⟩ = some (.int .u64 (wd (Up) 3))
  c4 : w.cell? ⟨5, 4, none⟩ = some (.int .u64 (wd (Up) 4))
  c5 : w.cell? ⟨5, 5, none⟩ = some (.int .u64 (wd (Up) 5))
theorem GUp.keep {w w' : World} (h : GUp w) (hb : Below w.heap.size w w') : GUp w' := by
  have hl := World.block_lt_of_cell? w _ h.c0
  exact ⟨(hb.cell (p := ⟨_, 0, none⟩) hl).trans h.c0, (hb.cell (p := ⟨_, 1, none⟩) hl).trans h.c1, (hb.cell (p := ⟨_, 2, none⟩) hl).trans h.c2, (hb.cell (p := ⟨_, 3, none⟩) hl).trans h.c3, (hb.cell (p := ⟨_, 4, none⟩) hl).trans h.c4, (hb.cell (p := ⟨_, 5, none⟩) hl).trans h.c5⟩
set_option maxRecDepth 100000 in
set_option maxHeartbeats 4000000 in
theorem fp_sqrt_yes (x : Int) (w : World) (hG : GMp w) (hS : GSqp w) (hQ : GQp w) (h : x ^ Qp * x ^ Qp % Mp = x % Mp) :
    Calls Tryd.prog 58 #[pv x] w fun e w' => e = .returned (.tuple #[pv (x ^ Qp), .bool true]) ∧ Below w.heap.size w w' := by
  have HG := Lib.hid hG
  have HS := Lib.hid hS
  obtain ⟨g0, g1, g2, g3, g4, g5⟩ := hQ
  have g9 := World.block_lt_of_cell? w _ g0
  clear hS hG
  have hc := fp_power x Qp
  have hE : Qp < 2 ^ 384 := by decide +kernel
  obtain ⟨R, hR⟩ : ∃ R, R = x ^ Qp := ⟨_, rfl⟩
  rw [← hR] at hc h ⊢
  clear hR
  obtain ⟨Q, hQ⟩ : ∃ Q, Q = Qp := ⟨_, rfl⟩
  rw [← hQ] at hc hE g0 g1 g2 g3 g4 g5
  clear hQ
  have hq := pv_same (R * R) x h
  clear h
  unfold pv at hc ⊢
  obtain ⟨X, hX⟩ : ∃ X, X = fe Mp (Wd ^ 6) x := ⟨_, rfl⟩
  rw [← hX] at hc hq ⊢
  obtain ⟨Y, hY⟩ : ∃ Y, Y = fe Mp (Wd ^ 6) R := ⟨_, rfl⟩
  rw [← hY] at hc ⊢
  have hsq := fp_square R
  unfold pv at hsq
  rw [← hY] at hsq
  obtain ⟨S, hSS⟩ : ∃ S, S = fe Mp (Wd ^ 6) (R * R) := ⟨_, rfl⟩
  rw [← hSS] at hsq hq
  clear hX hY hSS
  have HC := Lib.hid hc
  have HSQ := Lib.hid hsq
  have HE := Lib.hid hE
  clear hc hsq hE
  conv => arg 3; unfold arr6
  go_enter Tryd.func58, Tryd.ntmps58
  go_wp2_with fail
  refine (HC.out _ (HG.out.keep (by repeat (first | (with_reducible exact Below.refl _ _) | (with_reducible refine Below.drew ?_) | (with_reducible refine Below.alloc ?_ (by simp; try omega) _)))) (HS.out.keep (by repeat (first | (with_reducible exact Below.refl _ _) | (with_reducible refine Below.drew ?_) | (with_reducible refine Below.alloc ?_ (by simp; try omega) _)))) HE.out).mono ?_
  rintro e w1 ⟨rfl, hB⟩
  have B1 := Lib.hid (Below.trans (by repeat (first | (with_reducible exact Below.refl _ _) | (with_reducible refine Below.drew ?_) | (with_reducible refine Below.alloc ?_ (by simp; try omega) _))) (hB.mono (by simp; try omega)) : Below w.heap.size w w1)
  have hX1 := (((Blk.new w 52 #[.int .u64 (wd X 0), .int .u64 (wd X 1), .int .u64 (wd X 2), .int .u64 (wd X 3), .int .u64 (wd X 4), .int .u64 (wd X 5)]).alloc (Obj.cells #[.int .u64 0, .int .u64 0, .int .u64 0, .int .u64 0, .int .u64 0, .int .u64 0] 52)).keep hB)
  have hR1 := ((bump1 w (Obj.cells #[.int .u64 (wd X 0), .int .u64 (wd X 1), .int .u64 (wd X 2), .int .u64 (wd X 3), .int .u64 (wd X 4), .int .u64 (wd X 5)] 52) 52 #[.int .u64 0, .int .u64 0, .int .u64 0, .int .u64 0, .int .u64 0, .int .u64 0]).keep hB)
  have KX := Lib.hid hX1
  have KR := Lib.hid hR1
  clear hB hX1 hR1
  unfold arr6
  go_upto_region 2 with fail
  obtain ⟨w2, hw2⟩ : ∃ W, W = w1.alloc (Obj.cells #[.int .u64 (wd Y 0), .int .u64 (wd Y 1), .int .u64 (wd Y 2), .int .u64 (wd Y 3), .int .u64 (wd Y 4), .int .u64 (wd Y 5)] 52) := ⟨_, rfl⟩
  have KX2 := Lib.hid (KX.out.alloc (Obj.cells #[.int .u64 (wd Y 0), .int .u64 (wd Y 1), .int .u64 (wd Y 2), .int .u64 (wd Y 3), .int .u64 (wd Y 4), .int .u64 (wd Y 5)] 52))
  have KR2 := Lib.hid (KR.out.alloc (Obj.cells #[.int .u64 (wd Y 0), .int .u64 (wd Y 1), .int .u64 (wd Y 2), .int .u64 (wd Y 3), .int .u64 (wd Y 4), .int .u64 (wd Y 5)] 52))
  have KY2 := Lib.hid (Blk.new w1 52 #[.int .u64 (wd Y 0), .int .u64 (wd Y 1), .int .u64 (wd Y 2), .int .u64 (wd Y 3), .int .u64 (wd Y 4), .int .u64 (wd Y 5)])
  have B2 := Lib.hid (B1.out.alloc B1.out.size (Obj.cells #[.int .u64 (wd Y 0), .int .u64 (wd Y 1), .int .u64 (wd Y 2), .int .u64 (wd Y 3), .int .u64 (wd Y 4), .int .u64 (wd Y 5)] 52))
  rw [← hw2] at KX2 KR2 KY2 B2 ⊢
  clear hw2 KX KR B1
  obtain ⟨gx, hgx⟩ : ∃ g, g = w.heap.size := ⟨_, rfl⟩
  obtain ⟨gy, hgy⟩ : ∃ g, g = w1.heap.size := ⟨_, rfl⟩
  have hgr : w.heap.size + 1 = gx + 1 := by rw [hgx]
  have KX2 : Hid (Blk w2 gx 52 #[.int .u64 (wd X 0), .int .u64 (wd X 1), .int .u64 (wd X 2), .int .u64 (wd X 3), .int .u64 (wd X 4), .int .u64 (wd X 5)]) := Lib.hid (by rw [hgx]; exact KX2.out)
  have KR2 : Hid (Blk w2 (gx + 1) 52 #[.int .u64 0, .int .u64 0, .int .u64 0, .int .u64 0, .int .u64 0, .int .u64 0]) := Lib.hid (by rw [hgx]; exact KR2.out)
  have KY2 : Hid (Blk w2 gy 52 #[.int .u64 (wd Y 0), .int .u64 (wd Y 1), .int .u64 (wd Y 2), .int .u64 (wd Y 3), .int .u64 (wd Y 4), .int .u64 (wd Y 5)]) := Lib.hid (by rw [hgy]; exact KY2.out)
  have HGX := Lib.hid hgx
  rw [← hgx, ← hgy]
  clear hgx hgy hgr
  have D2 := hid_drew w2
  have A2 : Hid (∀ W, Hid (Below w2.heap.size w2 W) → Calls Tryd.prog 55 #[.agg #[.int .u64 (wd Y 0), .int .u64 (wd Y 1), .int .u64 (wd Y 2), .int .u64 (wd Y 3), .int .u64 (wd Y 4), .int .u64 (wd Y 5)]] W fun e w' => e = .returned (.agg #[.int .u64 (wd S 0), .int .u64 (wd S 1), .int .u64 (wd S 2), .int .u64 (wd S 3), .int .u64 (wd S 4), .int .u64 (wd S 5)]) ∧ Hid (Below w2.heap.size w2 w')) :=
    Lib.hid fun W hW => (HSQ.out W (HG.out.keep (B2.out.trans (hW.out.mono B2.out.size)))).mono fun _ _ ⟨he, hb⟩ => ⟨he, Lib.hid (hW.out.trans (hb.mono hW.out.size))⟩
  have SS2 : Hid (∀ W, Hid (Below w2.heap.size w2 W) → W.cell? ⟨gx, 0, none⟩ = some (.int .u64 (wd X 0)) ∧ W.cell? ⟨gx, 1, none⟩ = some (.int .u64 (wd X 1)) ∧ W.cell? ⟨gx, 2, none⟩ = some (.int .u64 (wd X 2)) ∧ W.cell? ⟨gx, 3, none⟩ = some (.int .u64 (wd X 3)) ∧ W.cell? ⟨gx, 4, none⟩ = some (.int .u64 (wd X 4)) ∧ W.cell? ⟨gx, 5, none⟩ = some (.int .u64 (wd X 5)) ∧ W.cell? ⟨gy, 0, none⟩ = some (.int .u64 (wd Y 0)) ∧ W.cell? ⟨gy, 1, none⟩ = some (.int .u64 (wd Y 1)) ∧ W.cell? ⟨gy, 2, none⟩ = some (.int .u64 (wd Y 2)) ∧ W.cell? ⟨gy, 3, none⟩ = some (.int .u64 (wd Y 3)) ∧ W.cell? ⟨gy, 4, none⟩ = some (.int .u64 (wd Y 4)) ∧ W.cell? ⟨gy, 5, none⟩ = some (.int .u64 (wd Y 5)) ∧ Hid (Below w2.heap.size w2 W)) := Lib.hid (fun W hW => by
    obtain ⟨x0, x1, x2, x3, x4, x5⟩ := cells6 (KX2.out.keep hW.out)
    obtain ⟨y0, y1, y2, y3, y4, y5⟩ := cells6 (KY2.out.keep hW.out)
    exact ⟨x0, x1, x2, x3, x4, x5, y0, y1, y2, y3, y4, y5, hW⟩)
  go_region_held3 (fun W => W.cell? ⟨gx, 0, none⟩ = some (.int .u64 (wd X 0)) ∧ W.cell? ⟨gx, 1, none⟩ = some (.int .u64 (wd X 1)) ∧ W.cell? ⟨gx, 2, none⟩ = some (.int .u64 (wd X 2)) ∧ W.cell? ⟨gx, 3, none⟩ = some (.int .u64 (wd X 3)) ∧ W.cell? ⟨gx, 4, none⟩ = some (.int .u64 (wd X 4)) ∧ W.cell? ⟨gx, 5, none⟩ = some (.int .u64 (wd X 5)) ∧ W.cell? ⟨gy, 0, none⟩ = some (.int .u64 (wd Y 0)) ∧ W.cell? ⟨gy, 1, none⟩ = some (.int .u64 (wd Y 1)) ∧ W.cell? ⟨gy, 2, none⟩ = some (.int .u64 (wd Y 2)) ∧ W.cell? ⟨gy, 3, none⟩ = some (.int .u64 (wd Y 3)) ∧ W.cell? ⟨gy, 4, none⟩ = some (.int .u64 (wd Y 4)) ∧ W.cell? ⟨gy, 5, none⟩ = some (.int .u64 (wd Y 5)) ∧ Hid (Below w2.heap.size w2 W)) (first | exact SS2.out _ D2 | exact SS2.out _ (by with_reducible assumption)) (first
    | (go_at_call 55; (with_reducible refine (A2.out _ (by first | exact D2 | with_reducible assumption)).mono ?_); rintro e w3 ⟨rfl, HB3⟩))
  have KR3 := Lib.hid (KR2.out.keep HB3.out)
  have B3 := Lib.hid (B2.out.trans (HB3.out.mono B2.out.size))
  obtain ⟨y0, y1, y2, y3, y4, y5⟩ := cells6 (KY2.out.keep HB3.out)
  obtain ⟨f0, f1, f2, f3, f4, f5⟩ := cells6 KR3.out
  have z0 := KR3.out.frozen 0
  have z1 := KR3.out.frozen 1
  have z2 := KR3.out.frozen 2
  have z3 := KR3.out.frozen 3
  have z4 := KR3.out.frozen 4
  have z5 := KR3.out.frozen 5
  clear KX2 KR2 KY2 B2 D2 A2 SS2 HB3 hq
  go_wp2_with fail
  refine bodyPost_ret (v := .tuple #[arr6 Y, .bool true]) (by simp [arr6, results, Tryd.results58, go_sem, f0, f1, f2, f3, f4, f5]) rfl ⟨rfl, ?_⟩
  have hgx := HGX.out
  exact ((((((B3.out.setCell (by simp; omega) _).setCell (by simp; omega) _).setCell (by simp; omega) _).setCell (by simp; omega) _).setCell (by simp; omega) _).setCell (by simp; omega) _)
set_option maxRecDepth 100000 in
set_option maxHeartbeats 4000000 in
theorem fp_sqrt_no (x : Int) (w : World) (hG : GMp w) (hS : GSqp w) (hQ : GQp w) (h : ¬ x ^ Qp * x ^ Qp % Mp = x % Mp) :
    Calls Tryd.prog 58 #[pv x] w fun e w' => e = .returned (.tuple #[arr6 0, .bool false]) ∧ Below w.heap.size w w' := by
  have HG := Lib.hid hG
  have HS := Lib.hid hS
  obtain ⟨g0, g1, g2, g3, g4, g5⟩ := hQ
  have g9 := World.block_lt_of_cell? w _ g0
  clear hS hG
  have hc := fp_power x Qp
  have hE : Qp < 2 ^ 384 := by decide +kernel
  obtain ⟨R, hR⟩ : ∃ R, R = x ^ Qp := ⟨_, rfl⟩
  rw [← hR] at hc h 
  clear hR
  obtain ⟨Q, hQ⟩ : ∃ Q, Q = Qp := ⟨_, rfl⟩
  rw [← hQ] at hc hE g0 g1 g2 g3 g4 g5
  clear hQ
  have hq := pv_unlike (R * R) x h
  clear h
  unfold pv at hc 
  unfold pv
  obtain ⟨X, hX⟩ : ∃ X, X = fe Mp (Wd ^ 6) x := ⟨_, rfl⟩
  rw [← hX] at hc hq ⊢
  obtain ⟨Y, hY⟩ : ∃ Y, Y = fe Mp (Wd ^ 6) R := ⟨_, rfl⟩
  rw [← hY] at hc 
  have hsq := fp_square R
  unfold pv at hsq
  rw [← hY] at hsq
  obtain ⟨S, hSS⟩ : ∃ S, S = fe Mp (Wd ^ 6) (R * R) := ⟨_, rfl⟩
  rw [← hSS] at hsq hq
  clear hX hY hSS
  have HC := Lib.hid hc
  have HSQ := Lib.hid hsq
  have HE := Lib.hid hE
  clear hc hsq hE
  conv => arg 3; unfold arr6
  go_enter Tryd.func58, Tryd.ntmps58
  go_wp2_with fail
  refine (HC.out _ (HG.out.keep (by repeat (first | (with_reducible exact Below.refl _ _) | (with_reducible refine Below.drew ?_) | (with_reducible refine Below.alloc ?_ (by simp; try omega) _)))) (HS.out.keep (by repeat (first | (with_reducible exact Below.refl _ _) | (with_reducible refine Below.drew ?_) | (with_reducible refine Below.alloc ?_ (by simp; try omega) _)))) HE.out).mono ?_
  rintro e w1 ⟨rfl, hB⟩
  have B1 := Lib.hid (Below.trans (by repeat (first | (with_reducible exact Below.refl _ _) | (with_reducible refine Below.drew ?_) | (with_reducible refine Below.alloc ?_ (by simp; try omega) _))) (hB.mono (by simp; try omega)) : Below w.heap.size w w1)
  have hX1 := (((Blk.new w 52 #[.int .u64 (wd X 0), .int .u64 (wd X 1), .int .u64 (wd X 2), .int .u64 (wd X 3), .int .u64 (wd X 4), .int .u64 (wd X 5)]).alloc (Obj.cells #[.int .u64 0, .int .u64 0, .int .u64 0, .int .u64 0, .int .u64 0, .int .u64 0] 52)).keep hB)
  have hR1 := ((bump1 w (Obj.cells #[.int .u64 (wd X 0), .int .u64 (wd X 1), .int .u64 (wd X 2), .int .u64 (wd X 3), .int .u64 (wd X 4), .int .u64 (wd X 5)] 52) 52 #[.int .u64 0, .int .u64 0, .int .u64 0, .int .u64 0, .int .u64 0, .int .u64 0]).keep hB)
  have KX := Lib.hid hX1
  have KR := Lib.hid hR1
  clear hB hX1 hR1
  unfold arr6
  go_upto_region 2 with fail
  obtain ⟨w2, hw2⟩ : ∃ W, W = w1.alloc (Obj.cells #[.int .u64 (wd Y 0), .int .u64 (wd Y 1), .int .u64 (wd Y 2), .int .u64 (wd Y 3), .int .u64 (wd Y 4), .int .u64 (wd Y 5)] 52) := ⟨_, rfl⟩
  have KX2 := Lib.hid (KX.out.alloc (Obj.cells #[.int .u64 (wd Y 0), .int .u64 (wd Y 1), .int .u64 (wd Y 2), .int .u64 (wd Y 3), .int .u64 (wd Y 4), .int .u64 (wd Y 5)] 52))
  have KR2 := Lib.hid (KR.out.alloc (Obj.cells #[.int .u64 (wd Y 0), .int .u64 (wd Y 1), .int .u64 (wd Y 2), .int .u64 (wd Y 3), .int .u64 (wd Y 4), .int .u64 (wd Y 5)] 52))
  have KY2 := Lib.hid (Blk.new w1 52 #[.int .u64 (wd Y 0), .int .u64 (wd Y 1), .int .u64 (wd Y 2), .int .u64 (wd Y 3), .int .u64 (wd Y 4), .int .u64 (wd Y 5)])
  have B2 := Lib.hid (B1.out.alloc B1.out.size (Obj.cells #[.int .u64 (wd Y 0), .int .u64 (wd Y 1), .int .u64 (wd Y 2), .int .u64 (wd Y 3), .int .u64 (wd Y 4), .int .u64 (wd Y 5)] 52))
  rw [← hw2] at KX2 KR2 KY2 B2 ⊢
  clear hw2 KX KR B1
  obtain ⟨gx, hgx⟩ : ∃ g, g = w.heap.size := ⟨_, rfl⟩
  obtain ⟨gy, hgy⟩ : ∃ g, g = w1.heap.size := ⟨_, rfl⟩
  have hgr : w.heap.size + 1 = gx + 1 := by rw [hgx]
  have KX2 : Hid (Blk w2 gx 52 #[.int .u64 (wd X 0), .int .u64 (wd X 1), .int .u64 (wd X 2), .int .u64 (wd X 3), .int .u64 (wd X 4), .int .u64 (wd X 5)]) := Lib.hid (by rw [hgx]; exact KX2.out)
  have KR2 : Hid (Blk w2 (gx + 1) 52 #[.int .u64 0, .int .u64 0, .int .u64 0, .int .u64 0, .int .u64 0, .int .u64 0]) := Lib.hid (by rw [hgx]; exact KR2.out)
  have KY2 : Hid (Blk w2 gy 52 #[.int .u64 (wd Y 0), .int .u64 (wd Y 1), .int .u64 (wd Y 2), .int .u64 (wd Y 3), .int .u64 (wd Y 4), .int .u64 (wd Y 5)]) := Lib.hid (by rw [hgy]; exact KY2.out)
  have HGX := Lib.hid hgx
  rw [← hgx, ← hgy]
  clear hgx hgy hgr
  have D2 := hid_drew w2
  have A2 : Hid (∀ W, Hid (Below w2.heap.size w2 W) → Calls Tryd.prog 55 #[.agg #[.int .u64 (wd Y 0), .int .u64 (wd Y 1), .int .u64 (wd Y 2), .int .u64 (wd Y 3), .int .u64 (wd Y 4), .int .u64 (wd Y 5)]] W fun e w' => e = .returned (.agg #[.int .u64 (wd S 0), .int .u64 (wd S 1), .int .u64 (wd S 2), .int .u64 (wd S 3), .int .u64 (wd S 4), .int .u64 (wd S 5)]) ∧ Hid (Below w2.heap.size w2 w')) :=
    Lib.hid fun W hW => (HSQ.out W (HG.out.keep (B2.out.trans (hW.out.mono B2.out.size)))).mono fun _ _ ⟨he, hb⟩ => ⟨he, Lib.hid (hW.out.trans (hb.mono hW.out.size))⟩
  have SS2 : Hid (∀ W, Hid (Below w2.heap.size w2 W) → W.cell? ⟨gx, 0, none⟩ = some (.int .u64 (wd X 0)) ∧ W.cell? ⟨gx, 1, none⟩ = some (.int .u64 (wd X 1)) ∧ W.cell? ⟨gx, 2, none⟩ = some (.int .u64 (wd X 2)) ∧ W.cell? ⟨gx, 3, none⟩ = some (.int .u64 (wd X 3)) ∧ W.cell? ⟨gx, 4, none⟩ = some (.int .u64 (wd X 4)) ∧ W.cell? ⟨gx, 5, none⟩ = some (.int .u64 (wd X 5)) ∧ W.cell? ⟨gy, 0, none⟩ = some (.int .u64 (wd Y 0)) ∧ W.cell? ⟨gy, 1, none⟩ = some (.int .u64 (wd Y 1)) ∧ W.cell? ⟨gy, 2, none⟩ = some (.int .u64 (wd Y 2)) ∧ W.cell? ⟨gy, 3, none⟩ = some (.int .u64 (wd Y 3)) ∧ W.cell? ⟨gy, 4, none⟩ = some (.int .u64 (wd Y 4)) ∧ W.cell? ⟨gy, 5, none⟩ = some (.int .u64 (wd Y 5)) ∧ Hid (Below w2.heap.size w2 W)) := Lib.hid (fun W hW => by
    obtain ⟨x0, x1, x2, x3, x4, x5⟩ := cells6 (KX2.out.keep hW.out)
    obtain ⟨y0, y1, y2, y3, y4, y5⟩ := cells6 (KY2.out.keep hW.out)
    exact ⟨x0, x1, x2, x3, x4, x5, y0, y1, y2, y3, y4, y5, hW⟩)
  go_region_held3 (fun W => W.cell? ⟨gx, 0, none⟩ = some (.int .u64 (wd X 0)) ∧ W.cell? ⟨gx, 1, none⟩ = some (.int .u64 (wd X 1)) ∧ W.cell? ⟨gx, 2, none⟩ = some (.int .u64 (wd X 2)) ∧ W.cell? ⟨gx, 3, none⟩ = some (.int .u64 (wd X 3)) ∧ W.cell? ⟨gx, 4, none⟩ = some (.int .u64 (wd X 4)) ∧ W.cell? ⟨gx, 5, none⟩ = some (.int .u64 (wd X 5)) ∧ W.cell? ⟨gy, 0, none⟩ = some (.int .u64 (wd Y 0)) ∧ W.cell? ⟨gy, 1, none⟩ = some (.int .u64 (wd Y 1)) ∧ W.cell? ⟨gy, 2, none⟩ = some (.int .u64 (wd Y 2)) ∧ W.cell? ⟨gy, 3, none⟩ = some (.int .u64 (wd Y 3)) ∧ W.cell? ⟨gy, 4, none⟩ = some (.int .u64 (wd Y 4)) ∧ W.cell? ⟨gy, 5, none⟩ = some (.int .u64 (wd Y 5)) ∧ Hid (Below w2.heap.size w2 W)) (first | exact SS2.out _ D2 | exact SS2.out _ (by with_reducible assumption)) (first
    | (go_at_call 55; (with_reducible refine (A2.out _ (by first | exact D2 | with_reducible assumption)).mono ?_); rintro e w3 ⟨rfl, HB3⟩))
  have KR3 := Lib.hid (KR2.out.keep HB3.out)
  have B3 := Lib.hid (B2.out.trans (HB3.out.mono B2.out.size))
  obtain ⟨y0, y1, y2, y3, y4, y5⟩ := cells6 (KY2.out.keep HB3.out)
  obtain ⟨f0, f1, f2, f3, f4, f5⟩ := cells6 KR3.out
  have z0 := KR3.out.frozen 0
  have z1 := KR3.out.frozen 1
  have z2 := KR3.out.frozen 2
  have z3 := KR3.out.frozen 3
  have z4 := KR3.out.frozen 4
  have z5 := KR3.out.frozen 5
  clear KX2 KR2 KY2 B2 D2 A2 SS2 HB3 hq
  go_wp2_with fail
  refine bodyPost_ret (v := .tuple #[.agg #[.int .u64 0, .int .u64 0, .int .u64 0, .int .u64 0, .int .u64 0, .int .u64 0], .bool false]) (by simp [results, Tryd.results58, go_sem, f0, f1, f2, f3, f4, f5]) rfl ⟨by rfl, ?_⟩
  have hgx := HGX.out
  exact ((((((B3.out.setCell (by simp; omega) _).setCell (by simp; omega) _).setCell (by simp; omega) _).setCell (by simp; omega) _).setCell (by simp; omega) _).setCell (by simp; omega) _)
set_option maxRecDepth 100000 in
set_option maxHeartbeats 4000000 in
theorem fp_odd (x : Int) (w : World) (hG : GMp w) :
    Calls Tryd.prog 59 #[pv x] w fun e w' => e = .returned (.bool (decide (x % Mp % 2 = 1))) ∧ Below w.heap.size w w' := by
  have HG := Lib.hid hG
  have hpl := fp_plain x
  obtain ⟨n, hn⟩ : ∃ n, n = x % Mp := ⟨_, rfl⟩
  rw [← hn] at hpl ⊢
  have ht : (bits .and .u64 (wd n 0) 1 == 1) = decide (n % 2 = 1) := by
    have h0 := wd_lo n 0
    rw [and_one _ h0.1 (by have := h0.2; unfold Wd at this; omega), show wd n 0 % 2 = n % 2 by simp only [wd]; unfold Wd; omega]
    by_cases h : n % 2 = 1 <;> simp [h]
  obtain ⟨b, hb⟩ : ∃ b, b = decide (n % 2 = 1) := ⟨_, rfl⟩
  rw [← hb] at ht ⊢
  unfold pv at hpl ⊢
  obtain ⟨X, hX⟩ : ∃ X, X = fe Mp (Wd ^ 6) x := ⟨_, rfl⟩
  rw [← hX] at hpl ⊢
  have HPL := Lib.hid hpl
  clear hpl hX hn hb hG
  have hix := fun u => idx6_0 (wd n 0) (wd n 1) (wd n 2) (wd n 3) (wd n 4) (wd n 5) u
  conv => arg 3; unfold arr6
  go_enter Tryd.func59, Tryd.ntmps59
  go_wp2_with fail
  refine (HPL.out _ (HG.out.keep (by repeat (first | (with_reducible exact Below.refl _ _) | (with_reducible refine Below.drew ?_) | (with_reducible refine Below.alloc ?_ (by simp; try omega) _))))).mono ?_
  rintro e w1 ⟨rfl, hB⟩
  have hW : Below w.heap.size w w1 := Below.trans (by repeat (first | (with_reducible exact Below.refl _ _) | (with_reducible refine Below.drew ?_) | (with_reducible refine Below.alloc ?_ (by simp; try omega) _))) (hB.mono (by simp; try omega))
  have hsz := hW.size
  have HW := Lib.hid hW
  clear hB hW
  unfold arr6
  go_wp2_with fail
  go_ret
  refine ⟨rfl, ?_⟩
  repeat (first | (with_reducible exact HW.out) | (with_reducible refine Below.drew ?_) | (with_reducible refine Below.alloc ?_ (by first | assumption | (simp; done) | (simp; omega)) _) | (with_reducible refine Below.setCell ?_ (by simp; try omega) _))
set_option maxRecDepth 100000 in
set_option maxHeartbeats 4000000 in
theorem fp_large_ge (x : Int) (w : World) (hG : GMp w) (hU : GUp w) (h : Up ≤ x % Mp) :
    Calls Tryd.prog 60 #[pv x] w fun e w' => e = .returned (.bool true) ∧ Below w.heap.size w w' := by
  have HG := Lib.hid hG
  have HU := Lib.hid hU
  have hM := Mp_lo
  have hpl := fp_plain x
  have n0 : 0 ≤ x % Mp := Int.emod_nonneg _ (by omega)
  have n1 : x % Mp < Mp := Int.emod_lt_of_pos _ (by omega)
  obtain ⟨n, hn⟩ : ∃ n, n = x % Mp := ⟨_, rfl⟩
  rw [← hn] at hpl n0 n1 h
  have NL := Lib.hid (show n < Wd ^ 6 by omega)
  unfold pv at hpl ⊢
  obtain ⟨X, hX⟩ : ∃ X, X = fe Mp (Wd ^ 6) x := ⟨_, rfl⟩
  rw [← hX] at hpl ⊢
  have HPL := Lib.hid hpl
  have hbl := fun W => fp_below_ge n Up W n0 NL.out (by simp [Up]) h
  obtain ⟨U, hU2⟩ : ∃ U, U = Up := ⟨_, rfl⟩
  have HUU := Lib.hid hU2
  rw [← hU2] at hbl
  have HBL := Lib.hid hbl
  clear hpl hX hn hG hU n1 hM hbl h n0 NL hU2
  conv => arg 3; unfold arr6
  go_enter Tryd.func60, Tryd.ntmps60
  go_wp2_with fail
  obtain ⟨w2, hw2⟩ : ∃ W, W = w.alloc (Obj.cells #[.int .u64 (wd X 0), .int .u64 (wd X 1), .int .u64 (wd X 2), .int .u64 (wd X 3), .int .u64 (wd X 4), .int .u64 (wd X 5)] 52) := ⟨_, rfl⟩
  have KX2 := Lib.hid (Blk.new w 52 #[.int .u64 (wd X 0), .int .u64 (wd X 1), .int .u64 (wd X 2), .int .u64 (wd X 3), .int .u64 (wd X 4), .int .u64 (wd X 5)])
  have B2 := Lib.hid ((Below.refl w.heap.size w).alloc (Nat.le_refl _) (Obj.cells #[.int .u64 (wd X 0), .int .u64 (wd X 1), .int .u64 (wd X 2), .int .u64 (wd X 3), .int .u64 (wd X 4), .int .u64 (wd X 5)] 52))
  rw [← hw2] at KX2 B2 ⊢
  clear hw2
  obtain ⟨gx, hgx⟩ : ∃ g, g = w.heap.size := ⟨_, rfl⟩
  rw [← hgx] at KX2 ⊢
  clear hgx
  have D2 := hid_drew w2
  have A2 : Hid (∀ W, Hid (Below w2.heap.size w2 W) → Calls Tryd.prog 132 #[.agg #[.int .u64 (wd X 0), .int .u64 (wd X 1), .int .u64 (wd X 2), .int .u64 (wd X 3), .int .u64 (wd X 4), .int .u64 (wd X 5)]] W fun e w' => e = .returned (.agg #[.int .u64 (wd n 0), .int .u64 (wd n 1), .int .u64 (wd n 2), .int .u64 (wd n 3), .int .u64 (wd n 4), .int .u64 (wd n 5)]) ∧ Hid (Below w2.heap.size w2 w')) :=
    Lib.hid fun W hW => (HPL.out W (HG.out.keep (B2.out.trans (hW.out.mono B2.out.size)))).mono fun _ _ ⟨he, hb⟩ => ⟨he, Lib.hid (hW.out.trans (hb.mono hW.out.size))⟩
  have A3 : Hid (∀ W, Hid (Below w2.heap.size w2 W) → Calls Tryd.prog 125 #[.agg #[.int .u64 (wd n 0), .int .u64 (wd n 1), .int .u64 (wd n 2), .int .u64 (wd n 3), .int .u64 (wd n 4), .int .u64 (wd n 5)], .agg #[.int .u64 (wd U 0), .int .u64 (wd U 1), .int .u64 (wd U 2), .int .u64 (wd U 3), .int .u64 (wd U 4), .int .u64 (wd U 5)]] W fun e w' => e = .returned (.bool false) ∧ Hid (Below w2.heap.size w2 w')) :=
    Lib.hid fun W hW => (HBL.out W).mono fun _ _ ⟨he, hb⟩ => ⟨he, Lib.hid (hW.out.trans (hb.mono hW.out.size))⟩
  have SS2 : Hid (∀ W, Hid (Below w2.heap.size w2 W) → W.cell? ⟨gx, 0, none⟩ = some (.int .u64 (wd X 0)) ∧ W.cell? ⟨gx, 1, none⟩ = some (.int .u64 (wd X 1)) ∧ W.cell? ⟨gx, 2, none⟩ = some (.int .u64 (wd X 2)) ∧ W.cell? ⟨gx, 3, none⟩ = some (.int .u64 (wd X 3)) ∧ W.cell? ⟨gx, 4, none⟩ = some (.int .u64 (wd X 4)) ∧ W.cell? ⟨gx, 5, none⟩ = some (.int .u64 (wd X 5)) ∧ W.cell? ⟨5, 0, none⟩ = some (.int .u64 (wd U 0)) ∧ W.cell? ⟨5, 1, none⟩ = some (.int .u64 (wd U 1)) ∧ W.cell? ⟨5, 2, none⟩ = some (.int .u64 (wd U 2)) ∧ W.cell? ⟨5, 3, none⟩ = some (.int .u64 (wd U 3)) ∧ W.cell? ⟨5, 4, none⟩ = some (.int .u64 (wd U 4)) ∧ W.cell? ⟨5, 5, none⟩ = some (.int .u64 (wd U 5)) ∧ Hid (Below w2.heap.size w2 W)) := Lib.hid (fun W hW => by
    obtain ⟨x0, x1, x2, x3, x4, x5⟩ := cells6 (KX2.out.keep hW.out)
    obtain ⟨y0, y1, y2, y3, y4, y5⟩ := HU.out.keep (B2.out.trans (hW.out.mono B2.out.size))
    rw [← HUU.out] at y0 y1 y2 y3 y4 y5
    exact ⟨x0, x1, x2, x3, x4, x5, y0, y1, y2, y3, y4, y5, hW⟩)
  go_region_held3 (fun W => W.cell? ⟨gx, 0, none⟩ = some (.int .u64 (wd X 0)) ∧ W.cell? ⟨gx, 1, none⟩ = some (.int .u64 (wd X 1)) ∧ W.cell? ⟨gx, 2, none⟩ = some (.int .u64 (wd X 2)) ∧ W.cell? ⟨gx, 3, none⟩ = some (.int .u64 (wd X 3)) ∧ W.cell? ⟨gx, 4, none⟩ = some (.int .u64 (wd X 4)) ∧ W.cell? ⟨gx, 5, none⟩ = some (.int .u64 (wd X 5)) ∧ W.cell? ⟨5, 0, none⟩ = some (.int .u64 (wd U 0)) ∧ W.cell? ⟨5, 1, none⟩ = some (.int .u64 (wd U 1)) ∧ W.cell? ⟨5, 2, none⟩ = some (.int .u64 (wd U 2)) ∧ W.cell? ⟨5, 3, none⟩ = some (.int .u64 (wd U 3)) ∧ W.cell? ⟨5, 4, none⟩ = some (.int .u64 (wd U 4)) ∧ W.cell? ⟨5, 5, none⟩ = some (.int .u64 (wd U 5)) ∧ Hid (Below w2.heap.size w2 W)) (first | exact SS2.out _ D2 | exact SS2.out _ (by with_reducible assumption)) (first
    | (go_at_call 132; (with_reducible refine (A2.out _ (by first | exact D2 | with_reducible assumption)).mono ?_); rintro e w3 ⟨rfl, HB3⟩)
    | (go_at_call 125; (with_reducible refine (A3.out _ (by first | exact D2 | with_reducible assumption)).mono ?_); rintro e w4 ⟨rfl, HB4⟩))
  go_wp2_with fail
  go_ret
  exact ⟨rfl, B2.out.trans (HB4.out.mono B2.out.size)⟩
set_option maxRecDepth 100000 in
set_option maxHeartbeats 4000000 in
theorem fp_large_lt (x : Int) (w : World) (hG : GMp w) (hU : GUp w) (h : x % Mp < Up) :
    Calls Tryd.prog 60 #[pv x] w fun e w' => e = .returned (.bool false) ∧ Below w.heap.size w w' := by
  have HG := Lib.hid hG
  have HU := Lib.hid hU
  have hM := Mp_lo
  have hpl := fp_plain x
  have n0 : 0 ≤ x % Mp := Int.emod_nonneg _ (by omega)
  have n1 : x % Mp < Mp := Int.emod_lt_of_pos _ (by omega)
  obtain ⟨n, hn⟩ : ∃ n, n = x % Mp := ⟨_, rfl⟩
  rw [← hn] at hpl n0 n1 h
  have NL := Lib.hid (show n < Wd ^ 6 by omega)
  unfold pv at hpl ⊢
  obtain ⟨X, hX⟩ : ∃ X, X = fe Mp (Wd ^ 6) x := ⟨_, rfl⟩
  rw [← hX] at hpl ⊢
  have HPL := Lib.hid hpl
  have hbl := fun W => fp_below_lt n Up W n0 (by simp [Up]) (by simp [Up, Wd]) h
  obtain ⟨U, hU2⟩ : ∃ U, U = Up := ⟨_, rfl⟩
  have HUU := Lib.hid hU2
  rw [← hU2] at hbl
  have HBL := Lib.hid hbl
  clear hpl hX hn hG hU n1 hM hbl h n0 NL hU2
  conv => arg 3; unfold arr6
  go_enter Tryd.func60, Tryd.ntmps60
  go_wp2_with fail
  obtain ⟨w2, hw2⟩ : ∃ W, W = w.alloc (Obj.cells #[.int .u64 (wd X 0), .int .u64 (wd X 1), .int .u64 (wd X 2), .int .u64 (wd X 3), .int .u64 (wd X 4), .int .u64 (wd X 5)] 52) := ⟨_, rfl⟩
  have KX2 := Lib.hid (Blk.new w 52 #[.int .u64 (wd X 0), .int .u64 (wd X 1), .int .u64 (wd X 2), .int .u64 (wd X 3), .int .u64 (wd X 4), .int .u64 (wd X 5)])
  have B2 := Lib.hid ((Below.refl w.heap.size w).alloc (Nat.le_refl _) (Obj.cells #[.int .u64 (wd X 0), .int .u64 (wd X 1), .int .u64 (wd X 2), .int .u64 (wd X 3), .int .u64 (wd X 4), .int .u64 (wd X 5)] 52))
  rw [← hw2] at KX2 B2 ⊢
  clear hw2
  obtain ⟨gx, hgx⟩ : ∃ g, g = w.heap.size := ⟨_, rfl⟩
  rw [← hgx] at KX2 ⊢
  clear hgx
  have D2 := hid_drew w2
  have A2 : Hid (∀ W, Hid (Below w2.heap.size w2 W) → Calls Tryd.prog 132 #[.agg #[.int .u64 (wd X 0), .int .u64 (wd X 1), .int .u64 (wd X 2), .int .u64 (wd X 3), .int .u64 (wd X 4), .int .u64 (wd X 5)]] W fun e w' => e = .returned (.agg #[.int .u64 (wd n 0), .int .u64 (wd n 1), .int .u64 (wd n 2), .int .u64 (wd n 3), .int .u64 (wd n 4), .int .u64 (wd n 5)]) ∧ Hid (Below w2.heap.size w2 w')) :=
    Lib.hid fun W hW => (HPL.out W (HG.out.keep (B2.out.trans (hW.out.mono B2.out.size)))).mono fun _ _ ⟨he, hb⟩ => ⟨he, Lib.hid (hW.out.trans (hb.mono hW.out.size))⟩
  have A3 : Hid (∀ W, Hid (Below w2.heap.size w2 W) → Calls Tryd.prog 125 #[.agg #[.int .u64 (wd n 0), .int .u64 (wd n 1), .int .u64 (wd n 2), .int .u64 (wd n 3), .int .u64 (wd n 4), .int .u64 (wd n 5)], .agg #[.int .u64 (wd U 0), .int .u64 (wd U 1), .int .u64 (wd U 2), .int .u64 (wd U 3), .int .u64 (wd U 4), .int .u64 (wd U 5)]] W fun e w' => e = .returned (.bool true) ∧ Hid (Below w2.heap.size w2 w')) :=
    Lib.hid fun W hW => (HBL.out W).mono fun _ _ ⟨he, hb⟩ => ⟨he, Lib.hid (hW.out.trans (hb.mono hW.out.size))⟩
  have SS2 : Hid (∀ W, Hid (Below w2.heap.size w2 W) → W.cell? ⟨gx, 0, none⟩ = some (.int .u64 (wd X 0)) ∧ W.cell? ⟨gx, 1, none⟩ = some (.int .u64 (wd X 1)) ∧ W.cell? ⟨gx, 2, none⟩ = some (.int .u64 (wd X 2)) ∧ W.cell? ⟨gx, 3, none⟩ = some (.int .u64 (wd X 3)) ∧ W.cell? ⟨gx, 4, none⟩ = some (.int .u64 (wd X 4)) ∧ W.cell? ⟨gx, 5, none⟩ = some (.int .u64 (wd X 5)) ∧ W.cell? ⟨5, 0, none⟩ = some (.int .u64 (wd U 0)) ∧ W.cell? ⟨5, 1, none⟩ = some (.int .u64 (wd U 1)) ∧ W.cell? ⟨5, 2, none⟩ = some (.int .u64 (wd U 2)) ∧ W.cell? ⟨5, 3, none⟩ = some (.int .u64 (wd U 3)) ∧ W.cell? ⟨5, 4, none⟩ = some (.int .u64 (wd U 4)) ∧ W.cell? ⟨5, 5, none⟩ = some (.int .u64 (wd U 5)) ∧ Hid (Below w2.heap.size w2 W)) := Lib.hid (fun W hW => by
    obtain ⟨x0, x1, x2, x3, x4, x5⟩ := cells6 (KX2.out.keep hW.out)
    obtain ⟨y0, y1, y2, y3, y4, y5⟩ := HU.out.keep (B2.out.trans (hW.out.mono B2.out.size))
    rw [← HUU.out] at y0 y1 y2 y3 y4 y5
    exact ⟨x0, x1, x2, x3, x4, x5, y0, y1, y2, y3, y4, y5, hW⟩)
  go_region_held3 (fun W => W.cell? ⟨gx, 0, none⟩ = some (.int .u64 (wd X 0)) ∧ W.cell? ⟨gx, 1, none⟩ = some (.int .u64 (wd X 1)) ∧ W.cell? ⟨gx, 2, none⟩ = some (.int .u64 (wd X 2)) ∧ W.cell? ⟨gx, 3, none⟩ = some (.int .u64 (wd X 3)) ∧ W.cell? ⟨gx, 4, none⟩ = some (.int .u64 (wd X 4)) ∧ W.cell? ⟨gx, 5, none⟩ = some (.int .u64 (wd X 5)) ∧ W.cell? ⟨5, 0, none⟩ = some (.int .u64 (wd U 0)) ∧ W.cell? ⟨5, 1, none⟩ = some (.int .u64 (wd U 1)) ∧ W.cell? ⟨5, 2, none⟩ = some (.int .u64 (wd U 2)) ∧ W.cell? ⟨5, 3, none⟩ = some (.int .u64 (wd U 3)) ∧ W.cell? ⟨5, 4, none⟩ = some (.int .u64 (wd U 4)) ∧ W.cell? ⟨5, 5, none⟩ = some (.int .u64 (wd U 5)) ∧ Hid (Below w2.heap.size w2 W)) (first | exact SS2.out _ D2 | exact SS2.out _ (by with_reducible assumption)) (first
    | (go_at_call 132; (with_reducible refine (A2.out _ (by first | exact D2 | with_reducible assumption)).mono ?_); rintro e w3 ⟨rfl, HB3⟩)
    | (go_at_call 125; (with_reducible refine (A3.out _ (by first | exact D2 | with_reducible assumption)).mono ?_); rintro e w4 ⟨rfl, HB4⟩))
  go_wp2_with fail
  go_ret
  exact ⟨rfl, B2.out.trans (HB4.out.mono B2.out.size)⟩
end Go.Proofs.YtclfmdaafpachaaDoor
