/-
  Contracts of New, Len, Copy, Of.
-/
import Derived.Test.YtialfoccalobpaaDoorWCShSum
namespace Go.Proofs.YtialfoccalobpaaDoor
open Go.RowKit
/-- A slice value that reads as bytes. -/
def Piece (w : World) (B : Nat) (v : Value) (bs : List Int) : Prop := ∃ A m c, v = .slice A m c ∧ m ≤ c ∧ Reads w B A m (bs.map (Value.int .u8))
theorem Piece.below {w w' : World} {B : Nat} {v : Value} {bs : List Int} (h : Piece w B v bs) (hb : Below B w w') : Piece w' B v bs := by
  obtain ⟨A, m, c, e, hc, hr⟩ := h
  exact ⟨A, m, c, e, hc, hr.below hb⟩
theorem Piece.more {w : World} {B B' : Nat} {v : Value} {bs : List Int} (h : Piece w B v bs) (hb : B ≤ B') : Piece w B' v bs := by
  obtain ⟨A, m, c, e, hc, hr⟩ := h
  exact ⟨A, m, c, e, hc, hr.more hb⟩
/-- A slice of such slices. -/
def Pieces (w : World) (B : Nat) (A : Option Addr) (n : Nat) (ps : List (List Int)) : Prop :=
  ps.length = n ∧ (0 < n → ∃ b o, A = some ⟨b, o, none⟩ ∧ b < B ∧ ∀ i (h : i < ps.length), ∃ v, w.cell? ⟨b, o + i, none⟩ = some v ∧ Piece w B v ps[i])
theorem Pieces.below {w w' : World} {B n : Nat} {A : Option Addr} {ps : List (List Int)} (h : Pieces w B A n ps) (hb : Below B w w') : Pieces w' B A n ps :=
  ⟨h.1, fun hn => by
    obtain ⟨b, o, e, hB, hc⟩ := h.2 hn
    refine ⟨b, o, e, hB, fun i hi => ?_⟩
    obtain ⟨v, hv, hp⟩ := hc i hi
    exact ⟨v, (hb.cell hB).trans hv, hp.below hb⟩⟩

theorem fresh50 {w : World} {g : Nat} (h : Blk w g 106 Z50) : HashIs w g [] := ⟨_, List.replicate 64 0, h, by simp, fun h => absurd h (by simp)⟩
set_option maxRecDepth 100000 in
set_option maxHeartbeats 1000000 in
theorem of_any (w : World) (A : Option Addr) (n c : Nat) (ps : List (List Int)) (hp : Pieces w w.heap.size A n ps) (hgl : Glob w) (h2 : 3 ≤ w.heap.size) (hn : n ≤ 1125899906842000) (hN : ps.flatten.length ≤ 1125899906842000) :
    Calls Tryd.prog 59 #[.slice A n c] w fun e w' => e = .returned (.agg (agg8 (digest ps.flatten))) ∧ Below w.heap.size w w' := by
  have hz50 : ∀ W : World, (zeroValue 106).run Tryd.prog W = .ok (.agg Z50) W := zero50
  have hl : ps.length = n := hp.1
  have HP := Lib.hid hp
  have HL := Lib.hid hl
  have HGL := Lib.hid hgl
  clear hp hl hgl
  go_enter Tryd.func59, Tryd.ntmps59
  go_wp2_with fail
  go_loopw [5, 8] (fun _ i wr => ∃ k : Nat, k ≤ n ∧ i = .int .i64 k ∧ Below w.heap.size w wr ∧ w.heap.size + 1 < wr.heap.size ∧ HashIs wr (w.heap.size + 1) (ps.take k).flatten ∧ Blk wr w.heap.size 50 (agg8 (List.replicate 32 0))) (fun _ i _ => n - (intOf i).toNat)
  case atStart =>
    refine ⟨0, Nat.zero_le _, rfl, ((Below.refl _ _).alloc (Nat.le_refl _) _).alloc (by simp) _, by simp, ?_, ?_⟩
    · rw [List.take_zero]
      exact fresh50 (new_at _ _ 106 _ (by simp))
    · exact ((new_at w w.heap.size 50 _ rfl).alloc _).cast rfl
  case round =>
    obtain ⟨k, hk, rfl, hb, hsz, hH, hR⟩ := hrel
    by_cases hlt : k < n
    · have hPP := HP.out.below hb
      obtain ⟨b0, o0, rfl, hb0, hcs⟩ := hPP.2 (by omega)
      obtain ⟨v, hv, A1, m1, c1, rfl, hmc, hr⟩ := hcs k (by rw [HL.out]; exact hlt)
      have hkl : k < ps.length := by rw [HL.out]; exact hlt
      have hfl : (ps.take (k + 1)).flatten = (ps.take k).flatten ++ ps[k] := by rw [List.take_succ_eq_append_getElem hkl, List.flatten_append]; simp
      have hle : (ps.take k).flatten.length + ps[k].length ≤ 1125899906842000 := by
        have h1 := congrArg List.length hfl
        rw [List.length_append] at h1
        rw [← h1]
        refine Nat.le_trans ?_ hN
        have : ps.flatten = (ps.take (k + 1)).flatten ++ (ps.drop (k + 1)).flatten := by rw [← List.flatten_append, List.take_append_drop]
        rw [this, List.length_append]
        omega
      have hm1 : ps[k].length = m1 := by have := hr.1; simpa using this
      have hW := write_any (w.heap.size + 1) wr _ ps[k] A1 m1 c1 hH (hr.src (by omega) (by omega)) hmc (HGL.out.below hb h2) (by omega) (by omega)
      rw [← hfl] at hW
      have HW := Lib.hid hW
      have X1 := Lib.hid hb
      have X3 := Lib.hid hR
      clear hW hb hH hR hPP hcs hr hfl hle hm1 hz50 hkl
      have i1 : (k : Int) < n := by omega
      go_wp2_with fail
      refine HW.out.mono ?_
      rintro e w5 ⟨rfl, hG5, hH5⟩
      have Y1 := Lib.hid hG5
      have Y2 := Lib.hid hH5
      clear hG5 hH5
      go_wp2_with fail
      refine ⟨⟨k + 1, by omega, by go_num, X1.out.keepB' Y1.out (by omega) (by omega), Nat.lt_of_lt_of_le hsz Y1.out.size, Y2.out, X3.out.grown Y1.out (ne_some (by omega))⟩, by simp [intOf]; omega⟩
    · obtain rfl : k = n := by omega
      have hall : (ps.take k).flatten = ps.flatten := by rw [List.take_of_length_le (by rw [HL.out]; omega)]
      rw [hall] at hH
      have hS := sum_any (w.heap.size + 1) wr ps.flatten hH (HGL.out.below hb h2) (by omega) hN
      obtain ⟨D, hD⟩ : ∃ D, D = agg8 (digest ps.flatten) := ⟨_, rfl⟩
      rw [← hD] at hS
      have hDz : D.size = 32 := by rw [hD, agg8_size, digest_len]
      have hDi : (Tryd.prog.info? 50).map (·.size) = some D.size := by rw [hDz]; kernel_rfl
      have hDf : 0 + D.size ≤ (agg8 (List.replicate 32 0)).size := by rw [hDz, agg8_size]; simp
      have hD1 : D.all (·.oneCell') = true := by rw [hD]; exact agg8_one _
      have HS := Lib.hid hS
      have X1 := Lib.hid hb
      have X3 := Lib.hid hR
      have D1 := Lib.hid hD
      have D2 := Lib.hid hDz
      have D3 := Lib.hid hDi
      have D4 := Lib.hid hDf
      have D5 := Lib.hid hD1
      clear hS hb hH hR hD hDz hDi hDf hD1 hall hz50
      go_wp2_with fail
      refine HS.out.mono ?_
      rintro e w5 ⟨rfl, hb5⟩
      have Y1 := Lib.hid hb5
      have Y3 := Lib.hid (X3.out.keep hb5)
      have hs5 := hb5.size
      clear hb5
      go_wp2_with ((with_reducible refine wpList_store_at (ty := 50) (x := .tmp 2) (y := .tmp 15) w.heap.size 0 50 _ D ?_ ?_ Y3.out D3.out D4.out D5.out ?_); exact rfl; exact rfl; intro w6 HB6 HG6)
      have hB6 : Blk w6 w.heap.size 50 D := HB6.out.cast (by rw [splice_all _ _ (by rw [Array.length_toList, Array.length_toList, D2.out, agg8_size]; simp), Array.toArray_toList])
      refine bodyPost_ret (results_cell_row Tryd.results59 _ _ _ _ _ _ _ rfl hB6 Tryd.underlying50 rfl D3.out) rfl ⟨by rw [D1.out], ?_⟩
      exact (X1.out.trans (Y1.out.mono (by omega))).keepB' HG6.out (by omega) (Nat.le_refl _)
end Go.Proofs.YtialfoccalobpaaDoor
