/-
  Digests as arrays, pieces as slices: what the walks of the callers want.
-/
import Derived.Test.YtialfoccalobpaaDoorWCShMacR
import Derived.LoopN
namespace Go.Proofs.YtialfoccalobpaaDoor
set_option linter.unusedSimpArgs false
set_option linter.unusedVariables false
open Go.RowKit
section
variable {P : Program} {c : Code} {Q : Exit → Act → World → Prop} {n : Nat} {a : Act} {w : World}
end
theorem z_d32 : (Tryd.prog.info? 50).map (·.zero) = some (some (.agg (agg8 (List.replicate 32 (0 : Int))))) := by kernel_rfl
theorem und_d32 : Tryd.prog.underlying 50 = some (.array 32 5) := by kernel_rfl
theorem hi_d32 (l : List Int) (h : l.length = 32) : (Tryd.prog.info? 50).map (·.size) = some (agg8 l).size := by rw [agg8_size, h]; kernel_rfl
theorem und_pss : Tryd.prog.underlying 46 = some (.slice 22) := by kernel_rfl
theorem slice_zs : (Tryd.prog.info? 22).map (fun i => (i.zero, i.size)) = some (some (.slice none 0 0), 1) := by kernel_rfl
theorem piece_of {w : World} {B n c : Nat} {A : Option Addr} {bs : List Int} (hr : Reads w B A n (bs.map (Value.int .u8))) (hc : n ≤ c) : Piece w B (.slice A n c) bs := ⟨_, _, _, rfl, hc, hr⟩
theorem pvc {w : World} {B : Nat} {v : Value} {b : List Int} {vs : List Value} {bs : List (List Int)} (hp : Piece w B v b) (h : PV w B vs bs) : PV w B (v :: vs) (b :: bs) := ⟨hp, h⟩
theorem pvn {w : World} {B : Nat} : PV w B [] [] := trivial
theorem pieces_lit {w : World} {g n : Nat} {e : TypeId} {vs : List Value} {ps : List (List Int)} (hB : Blk w g e vs.toArray) (hp : PV w w.heap.size vs ps) (hl : ps.length = n) : Pieces w w.heap.size (some ⟨g, 0, none⟩) n ps :=
  pieces_of (hB.readsAll hB.lt (by rw [← hl, ← hp.len]; exact List.take_of_length_le (by simp)) (by rw [← hl, ← hp.len]; simp)) hp hl
theorem c_of (w : World) (A : Option Addr) (n c : Nat) (ps : List (List Int)) (txt : List Int) (hf : ps.flatten = txt) (hp : Pieces w w.heap.size A n ps) (hgl : Glob w) (h2 : 3 ≤ w.heap.size) (hn : n ≤ 1048576) (hN : txt.length ≤ 10000000000) :
    Rets 59 #[.slice A n c] w (.agg (agg8 (digest txt))) := hf ▸ of_any w A n c ps hp hgl h2 (by omega) (by rw [hf]; omega)
end Go.Proofs.YtialfoccalobpaaDoor
