/-
  GlobR, GlobP, in one text.
-/
import Derived.Test.YtialfoccalobpaaDoorWDA0
import Derived.Test.YtialfoccalobpaaDoorCards
import Derived.Test.YtialfoccalobpaaDoorTie
import Derived.ProofKit
import Derived.OpenShut
import Derived.Deep.DeepHandedRow
import Derived.Lib.LaidTab
import Derived.SizedLaws
import Derived.SevenTiedAt
import Derived.Test.YtialfoccalobpaaDoorWDA1b
/-! ## GlobR -/
namespace Go.Proofs.YtialfoccalobpaaDoor
open Go.ChangeShapes Go.WideShapes Go.ChangeAt Go.RowKit
theorem own : ownKnob Tryd.prog.godebug = none := by kernel_rfl
theorem laidOut : laidOutB Tryd.prog = true := by kernel_rfl
theorem laidMet_tail {P : Program} {x : String × DataW Unit} {rest : List (String × DataW Unit)} {w : World} (h : laidMet P (x :: rest) w) : laidMet P rest w := by
  obtain ⟨ps, ⟨g, t, cs, fuel, p, q, _, _, _, _, hq, rfl⟩, hn, hc⟩ := h
  exact ⟨q, hq, (List.nodup_append.1 hn).2.1, fun b off hp => hc b off (List.mem_append_right _ hp)⟩
/-- A struct of one field, an array of integers. -/
theorem cells_of_box {H : Type} {enc : TypeId × Value → H} {P : Program} {w : World} {base : Nat} {sp : Nat → Bool} {held : Bool} {fuel : Nat} {t e : TypeId} {n : Nat} {f : Field} {k : IntKind} {cs : List Value} {zs : List Int} {p : List MemPlace}
    (hs : P.underlying t = some (.struct #[f])) (h0 : f.offset = 0) (hcs : P.cellsOf t = n) (ht : P.underlying f.type = some (.array n e)) (he : P.underlying e = some (.int k)) (hce : P.cellsOf e = 1) (hct : P.cellsOf f.type = n)
    (h : DataW.trod enc P w base sp held fuel t cs = some (.agg [Lib.tabData k zs], p)) : cs = zs.map fun z => Value.int k z := by
  cases fuel with
  | zero => simp [DataW.trod] at h
  | succ fuel =>
    simp only [DataW.trod, hs, hcs] at h
    split at h
    · rename_i hl
      obtain ⟨xs, hm, hx⟩ := Option.map_eq_some_iff.1 h
      simp only [List.mapM_cons, List.mapM_nil, Option.bind_eq_bind, Option.bind_eq_some_iff, Option.pure_def, Option.some.injEq, h0, hct, List.drop_zero] at hm
      obtain ⟨y, hy, r, rfl, rfl⟩ := hm
      have e1 : y.1 = Lib.tabData k zs := by
        have := congrArg Prod.fst hx
        simpa using this
      rw [List.take_of_length_le (by omega)] at hy
      obtain ⟨y1, y2⟩ := y
      simp only at e1
      subst e1
      exact Lib.cells_of_tab ht he hce hct hy
    · cases h
theorem boxIs_of_head {P : Program} {W : World} {name : String} {k : IntKind} {zs : List Int} {rest : List (String × DataW Unit)} {g : Nat} {t e : TypeId} {n : Nat} {f : Field}
    (hg : P.globalNamed name = some g) (hty : (P.globals[g]?).map (·.type) = some t) (hs : P.underlying t = some (.struct #[f])) (h0 : f.offset = 0) (hcs : P.cellsOf t = n) (ht : P.underlying f.type = some (.array n e)) (he : P.underlying e = some (.int k)) (hce : P.cellsOf e = 1) (hct : P.cellsOf f.type = n)
    (h : laidMet P ((name, .agg [Lib.tabData k zs]) :: rest) W) : Lib.TabIs P W name k zs := by
  obtain ⟨ps, ⟨g', t', cs, fuel, p, q, hg', ht', hvar, hd, _, _⟩, _⟩ := h
  obtain rfl := Option.some.inj (hg.symm.trans hg')
  obtain rfl := Option.some.inj (hty.symm.trans ht')
  unfold Lib.TabIs
  rw [hvar, ← cells_of_box hs h0 hcs ht he hce hct hd]
/-- A slice of bytes that came in, as the walks want it. -/
theorem reads_of {W : World} {a : Addr} {len : Nat} {zs : List Int} (hz : len ≤ zs.length) (hlt : 0 < zs.length → a.block < W.heap.size) (hcell : ∀ i, i < zs.length → W.cell? (a.add i) = some (.int .u8 (zs.getD i 0))) :
    Reads W W.heap.size (some a) len ((zs.take len).map (Value.int .u8)) := by
  refine ⟨by simp; omega, fun hn => ?_⟩
  obtain ⟨b, o, sp⟩ := a
  have hc := hcell 0 (by omega)
  have hsp : sp = none := by simpa [Addr.add] using World.cell?_spot hc
  subst hsp
  refine ⟨b, o, rfl, hlt (by omega), fun j u hu => ?_⟩
  have hj : j < len := by
    rcases Nat.lt_or_ge j len with h | h
    · exact h
    · rw [List.getElem?_eq_none (by simp; omega)] at hu; cases hu
  have h := hcell j (by omega)
  rw [add_plain] at h
  rw [h, ← hu]
  have hjz : j < zs.length := by omega
  simp [hj, hjz]
theorem oct_of_wf {zs : List Int} (h : ∀ n ∈ zs, (Lit.int .u8 n).wf = true) (n : Nat) : Oct (zs.take n) := by
  intro b hb
  have := h b (List.mem_of_mem_take hb)
  simp [Lit.wf, IntKind.min, IntKind.max, IntKind.signed, IntKind.bits] at this
  omega
def layV (l : List Int) : Obj → Obj
  | .cells _ t frozen => .cells (l.map (Value.int .u64)).toArray t frozen
  | o => o
theorem cellsU64 : Tryd.prog.cellsOf 32 = 1 := by kernel_rfl
theorem undU64 : Tryd.prog.underlying 32 = some (.int .u64) := by kernel_rfl
theorem bytesU8 : Tryd.prog.bytesOf 5 = 1 := by kernel_rfl
end Go.Proofs.YtialfoccalobpaaDoor

/-! ## GlobP -/
namespace Go.Proofs.YtialfoccalobpaaDoor
open Go.ChangeShapes Go.WideShapes Go.ChangeAt Go.RowKit
def zs_pmod : List Int := [13402431016077863595, 2210141511517208575, 7435674573564081700, 7239337960414712511, 5412103778470702295, 1873798617647539866]
set_option maxRecDepth 100000 in
theorem g_pmod : Tryd.prog.globalNamed "cresset/fp.modulus" = some 4 := by kernel_rfl
set_option maxRecDepth 100000 in
theorem gt_pmod : (Tryd.prog.globals[4]?).map (·.type) = some 33 := by kernel_rfl
set_option maxRecDepth 100000 in
theorem is_pmod {W : World} {rest : List (String × DataW Unit)} (h : laidMet Tryd.prog (("cresset/fp.modulus", Rows.laid_cresset_fp_modulus) :: rest) W) : GMp W := by
  have h' : laidMet Tryd.prog (("cresset/fp.modulus", Lib.tabData .u64 zs_pmod) :: rest) W := h
  have t1 := Lib.tabIs_of_head g_pmod gt_pmod (n := 6) (e := 32) (by kernel_rfl) undU64 cellsU64 (by kernel_rfl) h'
  exact ⟨(t1.cell g_pmod 0 (by simp [zs_pmod])).trans (by kernel_rfl), (t1.cell g_pmod 1 (by simp [zs_pmod])).trans (by kernel_rfl), (t1.cell g_pmod 2 (by simp [zs_pmod])).trans (by kernel_rfl), (t1.cell g_pmod 3 (by simp [zs_pmod])).trans (by kernel_rfl), (t1.cell g_pmod 4 (by simp [zs_pmod])).trans (by kernel_rfl), (t1.cell g_pmod 5 (by simp [zs_pmod])).trans (by kernel_rfl)⟩
def zs_psq : List Int := [17644856173732828998, 754043588434789617, 10224657059481499349, 7488229067341005760, 11130996698012816685, 1267921511277847466]
set_option maxRecDepth 100000 in
theorem g_psq : Tryd.prog.globalNamed "cresset/fp.square" = some 6 := by kernel_rfl
set_option maxRecDepth 100000 in
theorem gt_psq : (Tryd.prog.globals[6]?).map (·.type) = some 35 := by kernel_rfl
set_option maxRecDepth 100000 in
theorem is_psq {W : World} {rest : List (String × DataW Unit)} (h : laidMet Tryd.prog (("cresset/fp.square", Rows.laid_cresset_fp_square) :: rest) W) : GSqp W := by
  have h' : laidMet Tryd.prog (("cresset/fp.square", .agg [Lib.tabData .u64 zs_psq]) :: rest) W := h
  have hs : ∃ f, Tryd.prog.underlying 35 = some (.struct #[f]) ∧ f.offset = 0 ∧ f.type = 33 := ⟨_, rfl, rfl, rfl⟩
  obtain ⟨f, hs, h0, hty⟩ := hs
  have t1 := boxIs_of_head g_psq gt_psq (n := 6) (e := 32) hs h0 (by kernel_rfl) (by rw [hty]; kernel_rfl) undU64 cellsU64 (by rw [hty]; kernel_rfl) h'
  exact ⟨(t1.cell g_psq 0 (by simp [zs_psq])).trans (by kernel_rfl), (t1.cell g_psq 1 (by simp [zs_psq])).trans (by kernel_rfl), (t1.cell g_psq 2 (by simp [zs_psq])).trans (by kernel_rfl), (t1.cell g_psq 3 (by simp [zs_psq])).trans (by kernel_rfl), (t1.cell g_psq 4 (by simp [zs_psq])).trans (by kernel_rfl), (t1.cell g_psq 5 (by simp [zs_psq])).trans (by kernel_rfl)⟩
end Go.Proofs.YtialfoccalobpaaDoor
