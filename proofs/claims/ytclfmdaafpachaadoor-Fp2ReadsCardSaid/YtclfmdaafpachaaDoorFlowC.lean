/-
  Flow, on: structs built of parts.
-/
import Derived.Test.YtclfmdaafpachaaDoorFlowB
namespace Go.Proofs.YtclfmdaafpachaaDoor
set_option linter.unusedSimpArgs false
set_option linter.unusedVariables false
open Go.RowKit
def joinA : List (Array Value) → Array Value
  | [] => #[]
  | [a] => a
  | a :: b :: l => a ++ joinA (b :: l)
theorem joinA_cons (a : Array Value) (l : List (Array Value)) : joinA (a :: l) = a ++ joinA l := by
  cases l <;> simp [joinA]
theorem foldl_sets (off : Nat) (l : List Value) : ∀ (n : Nat) (cs : Array Value), off + n + l.length ≤ cs.size → ∀ k,
    ((l.zipIdx n).foldl (fun cs (x : Value × Nat) => cs.setIfInBounds (off + x.2) x.1) cs)[k]? = if off + n ≤ k ∧ k < off + n + l.length then l[k - (off + n)]? else cs[k]? := by
  induction l with
  | nil => intro n cs h k; simp; omega
  | cons a l ih =>
    intro n cs h k
    simp only [List.length_cons] at h
    rw [List.zipIdx_cons, List.foldl_cons, ih (n + 1) _ (by simp; omega) k]
    by_cases h1 : k = off + n
    · subst h1
      rw [if_neg (by omega), if_pos (by simp)]
      simp [show off + n < cs.size by omega]
    · by_cases h2 : off + n ≤ k ∧ k < off + n + (l.length + 1)
      · rw [if_pos (by omega), if_pos (by simpa using h2)]
        rw [show k - (off + n) = (k - (off + (n + 1))) + 1 by omega, List.getElem?_cons_succ]
      · rw [if_neg (by omega), if_neg (by simpa using h2)]
        simp [Array.getElem?_setIfInBounds_ne (show off + n ≠ k by omega)]
theorem sets_mid (pre old post vs : Array Value) (h : vs.size = old.size) :
    vs.zipIdx.foldl (fun cs (x : Value × Nat) => cs.setIfInBounds (pre.size + x.2) x.1) (pre ++ (old ++ post)) = pre ++ (vs ++ post) := by
  rw [← Array.foldl_toList]
  have e : vs.zipIdx.toList = vs.toList.zipIdx 0 := by simp
  rw [e]
  apply Array.ext_getElem?
  intro k
  rw [foldl_sets pre.size vs.toList 0 _ (by simp; omega) k]
  simp only [Nat.add_zero, Array.length_toList]
  have A : ∀ x : Array Value, (pre ++ (x ++ post))[k]? = if k < pre.size then pre[k]? else if k - pre.size < x.size then x[k - pre.size]? else post[k - pre.size - x.size]? := fun x => by
    rw [Array.getElem?_append, Array.getElem?_append]
  rw [A old, A vs]
  by_cases h1 : k < pre.size
  · rw [if_neg (by omega), if_pos h1, if_pos h1]
  · by_cases h2 : k - pre.size < vs.size
    · rw [if_pos (by omega), if_neg h1, if_pos h2, Array.getElem?_toList]
    · rw [if_neg (by omega), if_neg h1, if_neg (by omega), if_neg h1, if_neg h2, h]
def offs : List (Array Value) → Nat → Nat
  | _, 0 => 0
  | [], _ + 1 => 0
  | a :: l, i + 1 => a.size + offs l i
theorem fill_set (ch : List (Array Value)) (i : Nat) (hi : i < ch.length) (vs : Array Value) (h : vs.size = (ch[i]).size) (pre : Array Value) :
    vs.zipIdx.foldl (fun cs (x : Value × Nat) => cs.setIfInBounds (pre.size + offs ch i + x.2) x.1) (pre ++ joinA ch) = pre ++ joinA (ch.set i vs) := by
  induction ch generalizing i pre with
  | nil => simp at hi
  | cons a l ih =>
    cases i with
    | zero =>
      simp only [offs, Nat.add_zero, List.set_cons_zero, joinA_cons]
      exact sets_mid pre a (joinA l) vs (by simpa using h)
    | succ i =>
      have := ih i (by simpa using hi) (by simpa using h) (pre ++ a)
      simp only [Array.size_append] at this
      simp only [offs, List.set_cons_succ, joinA_cons]
      rw [← Array.append_assoc, ← Array.append_assoc, ← this]
      simp only [Nat.add_assoc]
theorem offs_le (ch : List (Array Value)) (i : Nat) (hi : i < ch.length) : offs ch i + (ch[i]).size ≤ (joinA ch).size := by
  induction ch generalizing i with
  | nil => simp at hi
  | cons a l ih =>
    rw [joinA_cons]
    cases i with
    | zero => simp [offs]
    | succ i =>
      have := ih i (by simpa using hi)
      simp only [offs, List.getElem_cons_succ, Array.size_append]
      omega
def putsA : List (Array Value) → List (Nat × Array Value) → List (Array Value)
  | ch, [] => ch
  | ch, (i, v) :: r => putsA (ch.set i v) r
/-- The parts have their places' sizes. -/
def fits (sz : List Nat) : List (Nat × Array Value) → Prop
  | [] => True
  | (i, v) :: r => sz[i]? = some v.size ∧ fits sz r
theorem offs_sizes (ch : List (Array Value)) (i : Nat) : offs ch i = ((ch.map (·.size)).take i).sum := by
  induction ch generalizing i with
  | nil => cases i <;> simp [offs]
  | cons a l ih => cases i <;> simp [offs, ih]
theorem fill_puts (place : Nat → Option (Nat × Nat)) (sz : List Nat) (hp : ∀ i (_ : i < sz.length), place i = some ((sz.take i).sum, sz[i])) :
    ∀ (ps : List (Nat × Array Value)) (ch : List (Array Value)), ch.map (·.size) = sz → fits sz ps →
      Instr.fill place (joinA ch) (ps.map fun p => (p.1, Value.agg p.2)) = some (joinA (putsA ch ps)) := by
  intro ps
  induction ps with
  | nil => intro ch _ _; rfl
  | cons p r ih =>
    obtain ⟨i, v⟩ := p
    intro ch hc hf
    obtain ⟨h1, h2⟩ := hf
    have hil : i < sz.length := (List.getElem?_eq_some_iff.1 h1).1
    have hsz : sz[i] = v.size := (List.getElem?_eq_some_iff.1 h1).2
    have hlen : i < ch.length := by rw [← hc] at hil; simpa using hil
    have hch : (ch[i]).size = v.size := by
      rw [← hsz]; simp only [← hc, List.getElem_map]
    have hoff : offs ch i = (sz.take i).sum := by rw [offs_sizes, hc]
    have hle := offs_le ch i hlen
    have hset := fill_set ch i hlen v hch.symm #[]
    simp only [Array.empty_append, Array.size_empty, Nat.zero_add] at hset
    have hih := ih (ch.set i v) ?_ h2
    · show (match place i with | none => none | some (off, size) => if v.size ≠ size || off + v.size > (joinA ch).size then none else Instr.fill place (v.zipIdx.foldl (fun cs (x : Value × Nat) => cs.setIfInBounds (off + x.2) x.1) (joinA ch)) (r.map fun (p : Nat × Array Value) => (p.1, Value.agg p.2))) = _
      rw [hp i hil]
      simp only []
      rw [if_neg (by simp [hsz]; omega), ← hoff, hset]
      exact hih
    rw [List.map_set, hc]
    apply List.ext_getElem?
    intro j
    rw [List.getElem?_set]
    split
    · rename_i e; subst e; simp [hil, hsz]
    · rfl
section
variable {P : Program} {S : World → Prop}
theorem run_build_parts (t : TypeId) (fs : Array Field) (pl : Array (Nat × Nat)) (z : Value) (hu : P.underlying t = some (.struct fs)) (hz : (P.info? t).map (·.zero) = some (some z))
    (hpl : ∀ w, (fs.mapM fun (f : Field) => do pure (f.offset, ← sizeOf f.type)).run P w = .ok pl w) (parts : Array (Nat × Value)) (cells : Array Value) (hf : Instr.fill (pl[·]?) z.cells parts.toList = some cells) (w : World) :
    (Instr.build t parts).run P w = .ok (.agg cells) w := by
  obtain ⟨i, hi, hzz⟩ := Option.map_eq_some_iff.1 hz
  have h := hpl w
  have hzr : (zeroValue t).run P w = .ok z w := by simp [zeroValue, typeInfo, hi, hzz]
  unfold Instr.build
  rw [Sem.run_bind, hzr, Result.andThen_ok, Sem.run_bind, run_underlying hu, Result.andThen_ok]
  simp only [Sem.run_bind]
  rw [h, Result.andThen_ok, hf]
  rfl
theorem gives_build {l : List (Nat × Value)} {dst : Option Tmp} {t ty : TypeId} {parts : Array (Nat × Operand)} {pos : String} {after : Array Edge} {gd : Option (Nat × Bool)} (fs : Array Field) (pl : Array (Nat × Nat)) (z : Value)
    (hu : P.underlying t = some (.struct fs)) (hz : (P.info? t).map (·.zero) = some (some z)) (hpl : ∀ w, (fs.mapM fun (f : Field) => do pure (f.offset, ← sizeOf f.type)).run P w = .ok pl w)
    (sz : List Nat) (hp : ∀ i (_ : i < sz.length), pl[i]? = some ((sz.take i).sum, sz[i])) (ch : List (Array Value)) (hc : ch.map (·.size) = sz) (hzc : z.cells = joinA ch) (ps : List (Nat × Array Value)) (hf : fits sz ps)
    (he : (parts.toList.map fun x => (x.1, rho l x.2)) = ps.map fun p => (p.1, Value.agg p.2)) (out : Array Value) (ho : joinA (putsA ch ps) = out) :
    Gives P S (.agg out) (execOp (rho l) ⟨dst, .build t parts, ty, pos, after, gd⟩) := gives_value _ fun w => by
  have h := fill_puts (pl[·]?) sz hp ps ch hc hf
  have he : (parts.map fun (i, x) => (i, rho l x)).toList = ps.map fun p => (p.1, Value.agg p.2) := by rw [← he]; simp
  rw [← hzc, ← he, ho] at h
  have hrun := run_build_parts (P := P) t fs pl z hu hz hpl _ out h w
  simp only [execOp, Sem.run_bind, hrun, Result.andThen_ok, Sem.run_pure]
end
end Go.Proofs.YtclfmdaafpachaaDoor
