/-
  Operations behind guards that were not reached themselves; calls of five arguments.
-/
import Derived.Test.YtifnnckbcjafgabGreatDoorUA3
namespace Go.Proofs.YtifnnckbcjafgabGreatDoor
set_option linter.unusedSimpArgs false
set_option linter.unusedVariables false
open Go.RowKit
section
variable {P : Program} {ops : Array Oper} {late : List Nat} {R : Act → World → Prop} {v : World} {L L0 : List (Nat × TypeId × Array Value)} {n : Nat} {sl : List (Nat × Value)}
theorem fr_yield_u {j d : Nat} (hl : inFr n sl = true) (hd : Nat.blt d n = true) (hj : (ops[j]?).bind (·.dst) = some d) (hv : look sl d = undef) : yielded ops (fr n sl).tmps j = none := by
  have h := fr_at n sl hl d
  rw [hv] at h
  have hlt : d < (fr n sl).tmps.size := by rw [fr_size]; exact blt_iff.1 hd
  unfold yielded
  rw [hj]
  simp only [Option.bind_some]
  have e : (fr n sl).tmps[d]? = some undef := by
    rw [Array.getElem?_eq_getElem hlt]
    simp only [Array.getD, hlt, dif_pos] at h
    exact congrArg some h
  rw [e]
  rfl
/-- A guarded operation whose guard was itself not reached. -/
theorem flow_skip_u {i d j dj : Nat} {want : Bool} {op : Op} {ty : TypeId} {pos : String} {after : Array Edge} {fuel : Nat} {listed : Array Bool} (hi : ops[i]? = some ⟨some d, op, ty, pos, after, some (j, want)⟩)
    (hs : Region.noSelect ops = true) (hf : Region.free .any ops listed i = true) (hr : (Region.ready .any ops listed).contains i = true) (hl : inFr n sl = true) (hlt : lateOk .any ops late i = true) (hE : L0.Sublist L)
    (hd : Nat.blt dj n = true) (hj : (ops[j]?).bind (·.dst) = some dj) (hv : look sl dj = undef)
    (h : wpF P .any ops late R (Hbl v L0) fuel (listed.setIfInBounds i true) (fr n ((d, undef) :: sl)) (Hbl v L)) : wpF P .any ops late R (Hbl v L0) (fuel + 1) listed (fr n sl) (Hbl v L) :=
  wpF_first hi (Region.noSelect_spec hs) fuel listed _ _ hlt (Ext.of_sub hE) (Region.free_spec hi hf) (by simpa using hr) (.inr ⟨by simp [Region.wanted, fr_yield_u hl hd hj hv], rfl⟩) h
theorem L_skip_u {i d j dj : Nat} {l : List Nat} {want : Bool} {op : Op} {ty : TypeId} {pos : String} {after : Array Edge} (hi : ops[i]? = some ⟨some d, op, ty, pos, after, some (j, want)⟩) (hl : inFr n sl = true)
    (hd : Nat.blt dj n = true) (hj : (ops[j]?).bind (·.dst) = some dj) (hv : look sl dj = undef)
    (h : wpL P ops R l (fr n ((d, undef) :: sl)) (Hbl v L)) : wpL P ops R (i :: l) (fr n sl) (Hbl v L) :=
  wpL_take hi (.inr ⟨by simp [Region.wanted, fr_yield_u hl hd hj hv], rfl⟩) (Hbl.stays v L) h
end
section
variable {P : Program} {ops : Array Oper} {late : List Nat} {R : Act → World → Prop} {v : World} {L L0 : List (Nat × TypeId × Array Value)} {n : Nat} {sl : List (Nat × Value)}
theorem fSu {i d : Nat} {op : Op} {ty : TypeId} {pos : String} {after : Array Edge} {fuel : Nat} {listed : Array Bool} {j dj : Nat} {want : Bool} (hi : ops[i]? = some ⟨some d, op, ty, pos, after, some (j, want)⟩ := by rfl)
    (hs : Region.noSelect ops = true := by kernel_rfl) (hf : Region.free .any ops listed i = true := by kernel_rfl) (hr : (Region.ready .any ops listed).contains i = true := by kernel_rfl) (hl : inFr n sl = true := by rfl) (ht : lateOk .any ops late i = true := by kernel_rfl)
    (hd : Nat.blt dj n = true := by rfl) (hj : (ops[j]?).bind (·.dst) = some dj := by rfl) (hv : look sl dj = undef := by rfl)
    (h : wpF P .any ops late R (Hbl v L) fuel (listed.setIfInBounds i true) (fr n ((d, undef) :: sl)) (Hbl v L)) : wpF P .any ops late R (Hbl v L) (fuel + 1) listed (fr n sl) (Hbl v L) :=
  flow_skip_u (dj := dj) hi hs hf hr hl ht (List.Sublist.refl _) hd hj hv h
theorem lSu {i d j dj : Nat} {want : Bool} {l : List Nat} {op : Op} {ty : TypeId} {pos : String} {after : Array Edge} (hi : ops[i]? = some ⟨some d, op, ty, pos, after, some (j, want)⟩ := by rfl) (hl : inFr n sl = true := by rfl)
    (hd : Nat.blt dj n = true := by rfl) (hj : (ops[j]?).bind (·.dst) = some dj := by rfl) (hv : look sl dj = undef := by rfl)
    (h : wpL P ops R l (fr n ((d, undef) :: sl)) (Hbl v L)) : wpL P ops R (i :: l) (fr n sl) (Hbl v L) :=
  L_skip_u (dj := dj) hi hl hd hj hv h
end
end Go.Proofs.YtifnnckbcjafgabGreatDoor
