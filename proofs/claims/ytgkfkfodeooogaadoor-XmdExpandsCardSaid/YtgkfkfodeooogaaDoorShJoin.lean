/-
  The contracts of Join and is.
-/
import Derived.Test.YtgkfkfodeooogaaDoorShOwn
import Derived.Test.YtgkfkfodeooogaaDoorA0
import Derived.Test.YtgkfkfodeooogaaDoorShHead
import Derived.Deep.QuietTactic
import Derived.BigQuiet
namespace Go.Proofs.YtgkfkfodeooogaaDoor
open Go.RowKit
theorem Pieces.at_ {w : World} {B n : Nat} {A : Option Addr} {ps : List (List Int)} (h : Pieces w B A n ps) {k : Nat} (hk : k < n) :
    ∃ b o A' m c bs, A = some ⟨b, o, none⟩ ∧ b < B ∧ w.cell? ⟨b, o + k, none⟩ = some (.slice A' m c) ∧ m ≤ c ∧ Reads w B A' m (bs.map (Value.int .u8)) ∧ ps.take (k + 1) = ps.take k ++ [bs] := by
  obtain ⟨b, o, e, hb, hc⟩ := h.2 (by omega)
  have hl : k < ps.length := by rw [h.1]; exact hk
  obtain ⟨v, hv, A', m, c, rfl, hmc, hr⟩ := hc k hl
  exact ⟨b, o, A', m, c, ps[k], e, hb, hv, hmc, hr, List.take_succ_eq_append_getElem hl⟩
theorem flat_le (ps : List (List Int)) (k : Nat) : (ps.take k).flatten.length ≤ ps.flatten.length := by
  have h : ps.flatten = (ps.take k).flatten ++ (ps.drop k).flatten := by rw [← List.flatten_append, List.take_append_drop]
  rw [h, List.length_append]
  omega
set_option maxRecDepth 100000 in
set_option maxHeartbeats 400000 in
theorem join_any (w : World) (A : Option Addr) (n c : Nat) (ps : List (List Int)) (hp : Pieces w w.heap.size A n ps) (hn : n ≤ 140737488351232) (hN : ps.flatten.length ≤ 1073741824) :
    Calls Tryd.prog 15 #[.slice A n c] w fun e w' => ∃ v, e = .returned v ∧ Own w' w.heap.size 5 v (ps.flatten.map (Value.int .u8)) ∧ Below w.heap.size w w' := by
  have HP := Lib.hid hp
  clear hp
  go_enter Tryd.func15, Tryd.ntmps15
  go_wp2_with fail
  have hO : Own (w.alloc (.cells #[] 5)) w.heap.size 5 (.slice (some ⟨w.heap.size, 0, none⟩) 0 0) (((ps.take 0).flatten).map (Value.int .u8)) := Own.of_blk (Blk.new w 5 #[]) (Nat.le_refl _) (by simp)
  have HO := Lib.hid hO
  clear hO
  go_loopw [3, 4, 8] (fun o _ i wr => ∃ k : Nat, k ≤ n ∧ i = .int .i64 k ∧ Own wr w.heap.size 5 o (((ps.take k).flatten).map (Value.int .u8)) ∧ Below w.heap.size w wr) (fun _ _ i _ => n - (intOf i).toNat)
  case atStart => exact ⟨0, Nat.zero_le _, rfl, HO.out, (Below.refl _ _).alloc (Nat.le_refl _) _⟩
  case round =>
    obtain ⟨k, hk, rfl, hO, hb⟩ := hrel
    have O1 := Lib.hid hO
    have B1 := Lib.hid hb
    clear hO hb HO
    by_cases hlt : k < n
    · obtain ⟨b0, o0, A', m, c', bs, rfl, hb0, hc0, hmc, hr, htk⟩ := (HP.out.below B1.out).at_ hlt
      have hfl : ((ps.take (k + 1)).flatten).map (Value.int .u8) = ((ps.take k).flatten).map (Value.int .u8) ++ bs.map (Value.int .u8) := by rw [htk]; simp
      have hle := flat_le ps (k + 1)
      have hlen : ((ps.take k).flatten).length + bs.length = ((ps.take (k + 1)).flatten).length := by rw [htk]; simp
      have hbl : bs.length = m := by simpa using hr.1
      have FL := Lib.hid hfl
      have R1 := Lib.hid hr
      have hs1 : ((ps.take k).flatten.map (Value.int .u8)).length + m ≤ 1073741824 := by rw [List.length_map]; omega
      have S1 := Lib.hid hs1
      clear hfl hr htk hle hlen hbl hs1
      have i1 : (k : Int) < n := by omega
      go_wp2_with ((with_reducible refine wpList_push (dst := some 16) w.heap.size 5 (.int .u8 0) 1 Tryd.underlying24 byte_info rfl u3 (((ps.take k).flatten).map (Value.int .u8)) O1.out w.heap.size A' m c' (bs.map (Value.int .u8)) R1.out ?_ ?_ ?_ ?_ ?_ ?_ ?_)
                   exact (by intro v hv; simp only [List.mem_map] at hv; obtain ⟨_, _, rfl⟩ := hv; rfl)
                   exact (by have := S1.out; omega)
                   exact (by have := S1.out; omega)
                   exact B1.out.size
                   exact rfl
                   exact rfl
                   intro v2 w2 HO2 HG2 HV2)
      exact ⟨⟨k + 1, by omega, by go_num, by rw [FL.out]; exact HO2.out, O1.out.below (Nat.le_refl _) B1.out B1.out.size HG2.out⟩, by simp [intOf]; omega⟩
    · obtain rfl : k = n := by omega
      have hfin : (ps.take k).flatten = ps.flatten := by rw [List.take_of_length_le (by rw [HP.out.1]; omega)]
      have i1 : ¬ ((k : Int) < k) := by omega
      have FN := Lib.hid hfin
      clear hfin
      go_wp2_with fail
      go_ret
      have h := O1.out
      rw [FN.out] at h
      refine ⟨_, rfl, ?_, B1.out⟩
      first
        | exact h
        | (rw [List.map_flatten] at h; exact h)
set_option maxRecDepth 100000 in
theorem is_any (w : World) (D : List Int) (hD : D.length = 32) (A : Option Addr) (n c : Nat) (l : List Int) (hr : Reads w w.heap.size A n (l.map (Value.int .u8))) (hn : n ≤ 281474976710656) :
    Calls Tryd.prog 12 #[.agg (agg8 D), .slice A n c] w fun e w' => e = .returned (.bool (decide (D = l))) ∧ Below w.heap.size w w' := by
  obtain ⟨AD, hAD⟩ : ∃ AD, AD = agg8 D := ⟨_, rfl⟩
  rw [← hAD]
  have hb : Below w.heap.size w (w.alloc (.cells AD 27)) := (Below.refl _ _).alloc (Nat.le_refl _) _
  have h := same_any (w.alloc (.cells AD 27)) (w.heap.size + 1) w.heap.size (some ⟨w.heap.size, 0, none⟩) 32 32 A n c D l
    (Blk.readsFull (Blk.new w 27 AD) (by omega) (by rw [hAD, agg8, List.take_of_length_le]; simp [hD]) (by rw [hAD, agg8_size, hD]; omega)) (hr.below hb) (by omega) hn
  have HS := Lib.hid h
  have HB := Lib.hid hb
  have HA := Lib.hid hAD
  clear h hb hAD hr
  go_enter Tryd.func12, Tryd.ntmps12
  go_wp2_with fail
  first
    | refine HS.out.mono ?_
    | (rw [← HA.out]; refine HS.out.mono ?_)
  rintro e w' ⟨rfl, m, rfl⟩
  go_wp2_with fail
  go_ret
  exact ⟨rfl, below_drewN HB.out m⟩
end Go.Proofs.YtgkfkfodeooogaaDoor
