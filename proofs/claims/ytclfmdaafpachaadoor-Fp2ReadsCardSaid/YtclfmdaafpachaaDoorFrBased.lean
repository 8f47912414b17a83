/-
  fr: the contracts over a world that lies fixed behind: whatever has been made since.
-/
import Derived.Test.YtclfmdaafpachaaDoorFrL
import Derived.Test.YtclfmdaafpachaaDoorFrH
import Derived.Test.YtclfmdaafpachaaDoorCopy
namespace Go.Proofs.YtclfmdaafpachaaDoor
open Go.RowKit
theorem cells4 {w : World} {g : Nat} {t : TypeId} {a b c d : Value} (h : Blk w g t #[a, b, c, d]) : w.cell? ⟨g, 0, none⟩ = some a ∧ w.cell? ⟨g, 1, none⟩ = some b ∧ w.cell? ⟨g, 2, none⟩ = some c ∧ w.cell? ⟨g, 3, none⟩ = some d :=
  ⟨h.at_ rfl, h.at_ rfl, h.at_ rfl, h.at_ rfl⟩
theorem copy_reads {w : World} {g n : Nat} {t : TypeId} {bs : List Int} (h : Blk w g t (ag8 bs)) (hn : bs.length = n) : Reads w w.heap.size (some ⟨g, 0, none⟩) n (bs.map (Value.int .u8)) := by
  have := h.reads h.lt 0 n (by rw [ag8_size, hn]; omega)
  rwa [List.drop_zero, List.take_of_length_le (by simp [ag8, hn])] at this
theorem hid_drew (v : World) : Hid (Below v.heap.size v v.drew) := Lib.hid (below_drewN (Below.refl _ _) 1)
theorem based_add (v : World) (hG : GMr v) (x y : Int) : ∀ W, Hid (Below v.heap.size v W) → Calls Tryd.prog 36 #[fv x, fv y] W fun e w' => e = .returned (fv (x + y)) ∧ Hid (Below v.heap.size v w') :=
  fun W hW => (fr_add x y W (hG.keep hW.out) ).mono fun _ _ ⟨he, hb⟩ => ⟨he, Lib.hid (hW.out.trans (hb.mono hW.out.size))⟩
theorem based_sub (v : World) (hG : GMr v) (x y : Int) : ∀ W, Hid (Below v.heap.size v W) → Calls Tryd.prog 38 #[fv x, fv y] W fun e w' => e = .returned (fv (x - y)) ∧ Hid (Below v.heap.size v w') :=
  fun W hW => (fr_sub x y W (hG.keep hW.out) ).mono fun _ _ ⟨he, hb⟩ => ⟨he, Lib.hid (hW.out.trans (hb.mono hW.out.size))⟩
theorem based_mul (v : World) (hG : GMr v) (x y : Int) : ∀ W, Hid (Below v.heap.size v W) → Calls Tryd.prog 40 #[fv x, fv y] W fun e w' => e = .returned (fv (x * y)) ∧ Hid (Below v.heap.size v w') :=
  fun W hW => (fr_mul x y W (hG.keep hW.out) ).mono fun _ _ ⟨he, hb⟩ => ⟨he, Lib.hid (hW.out.trans (hb.mono hW.out.size))⟩
theorem based_square (v : World) (hG : GMr v) (x : Int) : ∀ W, Hid (Below v.heap.size v W) → Calls Tryd.prog 42 #[fv x] W fun e w' => e = .returned (fv (x * x)) ∧ Hid (Below v.heap.size v w') :=
  fun W hW => (fr_square x W (hG.keep hW.out) ).mono fun _ _ ⟨he, hb⟩ => ⟨he, Lib.hid (hW.out.trans (hb.mono hW.out.size))⟩
theorem based_neg (v : World) (hG : GMr v) (x : Int) : ∀ W, Hid (Below v.heap.size v W) → Calls Tryd.prog 43 #[fv x] W fun e w' => e = .returned (fv (-x)) ∧ Hid (Below v.heap.size v w') :=
  fun W hW => (fr_neg x W (hG.keep hW.out) ).mono fun _ _ ⟨he, hb⟩ => ⟨he, Lib.hid (hW.out.trans (hb.mono hW.out.size))⟩
theorem based_inv (v : World) (hG : GMr v) (hS : GSq v) (x : Int) : ∀ W, Hid (Below v.heap.size v W) → Calls Tryd.prog 110 #[fv x] W fun e w' => e = .returned (fv (x ^ Er)) ∧ Hid (Below v.heap.size v w') :=
  fun W hW => (fr_inv x W (hG.keep hW.out) (hS.keep hW.out) ).mono fun _ _ ⟨he, hb⟩ => ⟨he, Lib.hid (hW.out.trans (hb.mono hW.out.size))⟩
theorem based_zero (v : World)  (x : Int) : ∀ W, Hid (Below v.heap.size v W) → Calls Tryd.prog 29 #[fv x] W fun e w' => e = .returned (.bool (decide (x % Mr = 0))) ∧ Hid (Below v.heap.size v w') :=
  fun W hW => (fr_zero x W  ).mono fun _ _ ⟨he, hb⟩ => ⟨he, Lib.hid (hW.out.trans (hb.mono hW.out.size))⟩
theorem based_of (v : World) (hG : GMr v) (hS : GSq v) (x : Int) (h0 : 0 ≤ x) (h1 : x < Wd) : ∀ W, Hid (Below v.heap.size v W) → Calls Tryd.prog 24 #[.int .u64 x] W fun e w' => e = .returned (fv x) ∧ Hid (Below v.heap.size v w') :=
  fun W hW => (fr_of x W (hG.keep hW.out) (hS.keep hW.out) h0 h1).mono fun _ _ ⟨he, hb⟩ => ⟨he, Lib.hid (hW.out.trans (hb.mono hW.out.size))⟩
end Go.Proofs.YtclfmdaafpachaaDoor
