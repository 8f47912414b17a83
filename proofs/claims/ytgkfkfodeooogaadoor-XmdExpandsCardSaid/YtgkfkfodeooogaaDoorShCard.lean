/-
  An argument that is a slice of slices of bytes, as the walks want it; its bulk.
-/
import Derived.Test.YtgkfkfodeooogaaDoorA4
import Derived.Test.YtgkfkfodeooogaaDoorShOf
import Derived.Deep.Matrix
namespace Go.Proofs.YtgkfkfodeooogaaDoor
open Go.ChangeShapes Go.WideShapes Go.ChangeAt Go.RowKit Go.Deep
theorem bulk_lits {H : Type} (k : IntKind) (zs : List Int) : Rows.uptoBulkAll (lits (H := H) k zs) = zs.length := by
  induction zs with
  | nil => rfl
  | cons x zs ih =>
    have e : lits (H := H) k (x :: zs) = .lit (.int k x) :: lits k zs := rfl
    rw [e, Rows.uptoBulkAll, ih, Rows.uptoBulk, List.length_cons]
    · omega
    · intro b hb; cases hb
theorem bulk_row {H : Type} (k : IntKind) (A : Option Addr) (L : Nat) (zs : List Int) (h : A = none → zs = []) : (zs.take L).length + 1 ≤ Rows.uptoBulk (intRow (H := H) k A L zs) := by
  cases A with
  | none => rw [h rfl]; simp [intRow, Rows.uptoBulk]
  | some a =>
    rw [intRow, Rows.uptoBulk, bulk_lits, bulk_lits]
    omega
theorem bulk_append {H : Type} (a b : List (DataW H)) : Rows.uptoBulkAll (a ++ b) = Rows.uptoBulkAll a + Rows.uptoBulkAll b := by
  induction a with
  | nil => simp [Rows.uptoBulkAll]
  | cons x a ih => rw [List.cons_append, Rows.uptoBulkAll, Rows.uptoBulkAll, ih]; omega
theorem bulk_map {H : Type} (f : Nat → List Int) (g : Nat → DataW H) : ∀ l, (∀ r, r < l → (f r).length + 1 ≤ Rows.uptoBulk (g r)) → ((List.range l).map f).flatten.length + l ≤ Rows.uptoBulkAll ((List.range l).map g) := by
  intro l
  induction l with
  | zero => intro _; simp
  | succ l ih =>
    intro h
    have h1 := ih fun r hr => h r (by omega)
    have h2 := h l (by omega)
    rw [List.range_succ, List.map_append, List.map_append, List.flatten_append, List.length_append, bulk_append]
    simp only [List.map_cons, List.map_nil, List.flatten_cons, List.flatten_nil, List.append_nil, Rows.uptoBulkAll]
    omega
theorem rows_of {H : Type} {enc : TypeId × Value → H} {W : World} {a0 : Option Addr} {len0 cap0 : Nat} {d0 : DataW H} {p0 : List MemPlace}
    (h : ∃ fuel, DataW.trod enc Tryd.prog W 0 (fun _ => true) true fuel 22 (Value.slice a0 len0 cap0).cells.toList = some (d0, p0)) :
    ∃ ps0 : List (List Int), Pieces W W.heap.size a0 len0 ps0 ∧ len0 ≤ cap0 ∧ ps0.flatten.length + len0 ≤ Rows.uptoBulk d0 := by
  obtain ⟨fuel, hf⟩ := h
  rcases open_int_rows Tryd.underlying22 Tryd.underlying24 Tryd.underlying5 (by kernel_rfl) (by kernel_rfl) hf with ⟨hcs, hx⟩ | ⟨x, l, c, A, L, C, Z, hcs, _, hl, hm, hx, hrow⟩
  · simp [Value.cells] at hcs
    obtain ⟨rfl, rfl, rfl⟩ := hcs
    exact ⟨[], ⟨rfl, fun h => absurd h (by omega)⟩, Nat.le_refl _, by simp⟩
  · simp [Value.cells] at hcs
    obtain ⟨rfl, rfl, rfl⟩ := hcs
    have hd0 := congrArg Prod.fst hx
    simp only at hd0
    refine ⟨(List.range len0).map fun r => (Z r).take (L r), ⟨by simp, fun hn => ?_⟩, hl, ?_⟩
    · obtain ⟨b, o, sp⟩ := x
      have hc0 := (hrow 0 (by omega)).1
      have hsp : sp = none := by simpa [Addr.add] using World.cell?_spot hc0
      subst hsp
      refine ⟨b, o, rfl, ?_, fun i hi => ?_⟩
      · have := World.block_lt_of_cell? W _ hc0
        rwa [block_of_add] at this
      · have hi' : i < len0 := by simpa using hi
        obtain ⟨hc, hLC, hCm, hZ, _, hnone, hsome⟩ := hrow i (by omega)
        rw [add_plain] at hc
        refine ⟨_, hc, A i, L i, C i, rfl, hLC, ?_⟩
        have e : ((List.range len0).map fun r => (Z r).take (L r))[i] = (Z i).take (L i) := by simp
        rw [e]
        cases hA : A i with
        | none =>
          have h0 := hnone hA
          have hL0 : L i = 0 := by omega
          rw [hL0, List.take_zero]
          exact Reads.nil_
        | some a' =>
          obtain ⟨_, hcell⟩ := hsome a' hA
          refine reads_of (by omega) (fun hz => ?_) (fun c hcz => hcell c (by omega))
          have h1 := hcell 0 (by omega)
          have := World.block_lt_of_cell? W _ h1
          rwa [block_of_add] at this
    · rw [hd0, Rows.uptoBulk]
      have := bulk_map (H := H) (fun r => (Z r).take (L r)) (fun r => intRow .u8 (A r) (L r) (Z r)) len0 fun r hr => bulk_row .u8 (A r) (L r) (Z r) fun hA => by
        obtain ⟨_, _, _, hZ, _, hnone, _⟩ := hrow r (by omega)
        have := hnone hA
        exact List.eq_nil_of_length_eq_zero (by omega)
      omega
theorem bytes_bulk {H : Type} {enc : TypeId × Value → H} {W : World} {a0 : Option Addr} {len0 cap0 : Nat} {d0 : DataW H} {p0 : List MemPlace}
    (h : ∃ fuel, DataW.trod enc Tryd.prog W 0 (fun _ => true) true fuel 24 (Value.slice a0 len0 cap0).cells.toList = some (d0, p0)) : len0 ≤ Rows.uptoBulk d0 := by
  obtain ⟨fuel, hf⟩ := h
  rcases open_ints Tryd.underlying24 Tryd.underlying5 (by kernel_rfl) hf with ⟨hcs, _⟩ | ⟨x, l, c, zs, hcs, _, hl, hm, hz, hx, hcell, hwz⟩
  · simp [Value.cells] at hcs
    obtain ⟨rfl, rfl, rfl⟩ := hcs
    omega
  · simp [Value.cells] at hcs
    obtain ⟨rfl, rfl, rfl⟩ := hcs
    have hzc : zs.length = cap0 := by simpa using hz
    have hd0 : d0 = .slice (lits .u8 (zs.take len0)) (lits .u8 (zs.drop len0)) := congrArg Prod.fst hx
    rw [hd0, Rows.uptoBulk, bulk_lits, bulk_lits]
    simp
    omega
end Go.Proofs.YtgkfkfodeooogaaDoor
