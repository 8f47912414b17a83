/-
  fp: from the rows' variables to the contracts' facts.
-/
import Derived.Test.YtclfmdaafpachaaDoorGlobR
import Derived.Test.YtclfmdaafpachaaDoorFpBased
import Derived.Test.YtclfmdaafpachaaDoorCards
import Derived.Test.YtclfmdaafpachaaDoorTie
import Derived.ProofKit
import Derived.OpenShut
import Derived.Deep.DeepHandedRow
import Derived.Lib.LaidTab
import Derived.SizedLaws
import Derived.SevenTiedAt
namespace Go.Proofs.YtclfmdaafpachaaDoor
open Go.ChangeShapes Go.WideShapes Go.ChangeAt Go.RowKit
def zs_pmod : List Int := [13402431016077863595, 2210141511517208575, 7435674573564081700, 7239337960414712511, 5412103778470702295, 1873798617647539866]
set_option maxRecDepth 100000 in
theorem g_pmod : Tryd.prog.globalNamed "cresset/fp.modulus" = some 2 := by kernel_rfl
set_option maxRecDepth 100000 in
theorem gt_pmod : (Tryd.prog.globals[2]?).map (·.type) = some 50 := by kernel_rfl
set_option maxRecDepth 100000 in
theorem is_pmod {W : World} {rest : List (String × DataW Unit)} (h : laidMet Tryd.prog (("cresset/fp.modulus", Rows.laid_cresset_fp_modulus) :: rest) W) : GMp W := by
  have h' : laidMet Tryd.prog (("cresset/fp.modulus", Lib.tabData .u64 zs_pmod) :: rest) W := h
  have t1 := Lib.tabIs_of_head g_pmod gt_pmod (n := 6) (e := 23) (by kernel_rfl) undU64 cellsU64 (by kernel_rfl) h'
  exact ⟨(t1.cell g_pmod 0 (by simp [zs_pmod])).trans (by kernel_rfl), (t1.cell g_pmod 1 (by simp [zs_pmod])).trans (by kernel_rfl), (t1.cell g_pmod 2 (by simp [zs_pmod])).trans (by kernel_rfl), (t1.cell g_pmod 3 (by simp [zs_pmod])).trans (by kernel_rfl), (t1.cell g_pmod 4 (by simp [zs_pmod])).trans (by kernel_rfl), (t1.cell g_pmod 5 (by simp [zs_pmod])).trans (by kernel_rfl)⟩
def zs_pup : List Int := [15924587544893707606, 1105070755758604287, 12941209323636816658, 12843041017062132063, 2706051889235351147, 936899308823769933]
set_option maxRecDepth 100000 in
theorem g_pup : Tryd.prog.globalNamed "cresset/fp.upper" = some 5 := by kernel_rfl
set_option maxRecDepth 100000 in
theorem gt_pup : (Tryd.prog.globals[5]?).map (·.type) = some 50 := by kernel_rfl
set_option maxRecDepth 100000 in
theorem is_pup {W : World} {rest : List (String × DataW Unit)} (h : laidMet Tryd.prog (("cresset/fp.upper", Rows.laid_cresset_fp_upper) :: rest) W) : GUp W := by
  have h' : laidMet Tryd.prog (("cresset/fp.upper", Lib.tabData .u64 zs_pup) :: rest) W := h
  have t1 := Lib.tabIs_of_head g_pup gt_pup (n := 6) (e := 23) (by kernel_rfl) undU64 cellsU64 (by kernel_rfl) h'
  exact ⟨(t1.cell g_pup 0 (by simp [zs_pup])).trans (by kernel_rfl), (t1.cell g_pup 1 (by simp [zs_pup])).trans (by kernel_rfl), (t1.cell g_pup 2 (by simp [zs_pup])).trans (by kernel_rfl), (t1.cell g_pup 3 (by simp [zs_pup])).trans (by kernel_rfl), (t1.cell g_pup 4 (by simp [zs_pup])).trans (by kernel_rfl), (t1.cell g_pup 5 (by simp [zs_pup])).trans (by kernel_rfl)⟩
def zs_pqu : List Int := [17185665809301629611, 552535377879302143, 15693976698673184137, 15644892545385841839, 10576397981472451381, 468449654411884966]
set_option maxRecDepth 100000 in
theorem g_pqu : Tryd.prog.globalNamed "cresset/fp.quarter" = some 4 := by kernel_rfl
set_option maxRecDepth 100000 in
theorem gt_pqu : (Tryd.prog.globals[4]?).map (·.type) = some 50 := by kernel_rfl
set_option maxRecDepth 100000 in
theorem is_pqu {W : World} {rest : List (String × DataW Unit)} (h : laidMet Tryd.prog (("cresset/fp.quarter", Rows.laid_cresset_fp_quarter) :: rest) W) : GQp W := by
  have h' : laidMet Tryd.prog (("cresset/fp.quarter", Lib.tabData .u64 zs_pqu) :: rest) W := h
  have t1 := Lib.tabIs_of_head g_pqu gt_pqu (n := 6) (e := 23) (by kernel_rfl) undU64 cellsU64 (by kernel_rfl) h'
  exact ⟨(t1.cell g_pqu 0 (by simp [zs_pqu])).trans (by kernel_rfl), (t1.cell g_pqu 1 (by simp [zs_pqu])).trans (by kernel_rfl), (t1.cell g_pqu 2 (by simp [zs_pqu])).trans (by kernel_rfl), (t1.cell g_pqu 3 (by simp [zs_pqu])).trans (by kernel_rfl), (t1.cell g_pqu 4 (by simp [zs_pqu])).trans (by kernel_rfl), (t1.cell g_pqu 5 (by simp [zs_pqu])).trans (by kernel_rfl)⟩
def zs_psq : List Int := [17644856173732828998, 754043588434789617, 10224657059481499349, 7488229067341005760, 11130996698012816685, 1267921511277847466]
set_option maxRecDepth 100000 in
theorem g_psq : Tryd.prog.globalNamed "cresset/fp.square" = some 7 := by kernel_rfl
set_option maxRecDepth 100000 in
theorem gt_psq : (Tryd.prog.globals[7]?).map (·.type) = some 52 := by kernel_rfl
set_option maxRecDepth 100000 in
theorem is_psq {W : World} {rest : List (String × DataW Unit)} (h : laidMet Tryd.prog (("cresset/fp.square", Rows.laid_cresset_fp_square) :: rest) W) : GSqp W := by
  have h' : laidMet Tryd.prog (("cresset/fp.square", .agg [Lib.tabData .u64 zs_psq]) :: rest) W := h
  have hs : ∃ f, Tryd.prog.underlying 52 = some (.struct #[f]) ∧ f.offset = 0 ∧ f.type = 50 := ⟨_, rfl, rfl, rfl⟩
  obtain ⟨f, hs, h0, hty⟩ := hs
  have t1 := boxIs_of_head g_psq gt_psq (n := 6) (e := 23) hs h0 (by kernel_rfl) (by rw [hty]; kernel_rfl) undU64 cellsU64 (by rw [hty]; kernel_rfl) h'
  exact ⟨(t1.cell g_psq 0 (by simp [zs_psq])).trans (by kernel_rfl), (t1.cell g_psq 1 (by simp [zs_psq])).trans (by kernel_rfl), (t1.cell g_psq 2 (by simp [zs_psq])).trans (by kernel_rfl), (t1.cell g_psq 3 (by simp [zs_psq])).trans (by kernel_rfl), (t1.cell g_psq 4 (by simp [zs_psq])).trans (by kernel_rfl), (t1.cell g_psq 5 (by simp [zs_psq])).trans (by kernel_rfl)⟩
def zs_psh : List Int := [4807590280750076774, 8612159356199394243, 12878354973820563945, 2337167537087690866, 6431483094484234427, 293241525500371865]
set_option maxRecDepth 100000 in
theorem g_psh : Tryd.prog.globalNamed "cresset/fp.shift" = some 3 := by kernel_rfl
set_option maxRecDepth 100000 in
theorem gt_psh : (Tryd.prog.globals[3]?).map (·.type) = some 52 := by kernel_rfl
set_option maxRecDepth 100000 in
theorem is_psh {W : World} {rest : List (String × DataW Unit)} (h : laidMet Tryd.prog (("cresset/fp.shift", Rows.laid_cresset_fp_shift) :: rest) W) : GShp W := by
  have h' : laidMet Tryd.prog (("cresset/fp.shift", .agg [Lib.tabData .u64 zs_psh]) :: rest) W := h
  have hs : ∃ f, Tryd.prog.underlying 52 = some (.struct #[f]) ∧ f.offset = 0 ∧ f.type = 50 := ⟨_, rfl, rfl, rfl⟩
  obtain ⟨f, hs, h0, hty⟩ := hs
  have t1 := boxIs_of_head g_psh gt_psh (n := 6) (e := 23) hs h0 (by kernel_rfl) (by rw [hty]; kernel_rfl) undU64 cellsU64 (by rw [hty]; kernel_rfl) h'
  exact ⟨(t1.cell g_psh 0 (by simp [zs_psh])).trans (by kernel_rfl), (t1.cell g_psh 1 (by simp [zs_psh])).trans (by kernel_rfl), (t1.cell g_psh 2 (by simp [zs_psh])).trans (by kernel_rfl), (t1.cell g_psh 3 (by simp [zs_psh])).trans (by kernel_rfl), (t1.cell g_psh 4 (by simp [zs_psh])).trans (by kernel_rfl), (t1.cell g_psh 5 (by simp [zs_psh])).trans (by kernel_rfl)⟩
end Go.Proofs.YtclfmdaafpachaaDoor
