/-
  Flow, FlowB, FlowC, FlowD, FlowL, in one text.
-/
import Derived.Test.YtialfoccalobpaaDoorWDA0
import Derived.Great.BuildSlice
/-! ## Flow -/
namespace Go.Proofs.YtialfoccalobpaaDoor
set_option linter.unusedSimpArgs false
set_option linter.unusedVariables false
open Go.RowKit

/-- What stays true while memory only grows. -/
def Stays (S : World → Prop) : Prop := ∀ w w', S w → Below w.heap.size w w' → S w'
def Ext (S0 S : World → Prop) : Prop := (∀ w, S w → S0 w) ∧ Stays S
/-- In every world that meets S the operation leaves v, and memory only grows. -/
def Gives (P : Program) (S : World → Prop) (v : Value) (x : Sem Next) : Prop :=
  ∀ w, S w → (∃ w', x.run P w = .ok (.value v) w' ∧ Below w.heap.size w w') ∨
    (∃ f args, x.run P w = .ok (.enter f args) w ∧ Calls P f args w fun e w' => e = .returned v ∧ Below w.heap.size w w')
def Tame (P : Program) (ops : Array Oper) (S : World → Prop) (o : Oper) (v : Value) (a : Act) : Prop :=
  (Region.wanted o (yielded ops a.tmps) = true ∧ Gives P S v (execOp a.eval o)) ∨ (Region.wanted o (yielded ops a.tmps) = false ∧ v = undef)
/-- The post of a piece that goes on below. -/
def Nrm (R : Act → World → Prop) : Exit → Act → World → Prop
  | .normal, a, w => R a w
  | _, _, _ => False

section
variable {P : Program} {ops : Array Oper} {md : Region.Mode} {late : List Nat} {R : Act → World → Prop} {S0 S : World → Prop}
theorem Gives.wp {o : Oper} {v : Value} {a : Act} {w : World} {K : Act → World → Prop} {Q : Exit → Act → World → Prop} (h : Gives P S v (execOp a.eval o)) (hS : S w)
    (hK : ∀ w', Below w.heap.size w w' → K (a.put o.dst v) w') : o.wp P a w K Q := by
  unfold Oper.wp
  rcases h w hS with ⟨w', hr, hb⟩ | ⟨f, args, hr, hc⟩
  · rw [hr]; exact hK w' hb
  · rw [hr]
    refine Calls.mono hc fun e w' he => ?_
    obtain ⟨rfl, hb⟩ := he
    exact hK w' hb
theorem Tame.wpOp {Q : Exit → Act → World → Prop} {i : Nat} {o : Oper} {v : Value} {a : Act} (hi : ops[i]? = some o) (hy : Tame P ops S o v a) {K : Act → World → Prop} {w : World} (hS : S w)
    (hK : ∀ w', Below w.heap.size w w' → K (a.put o.dst v) w') : Go.wpOp P ops Q i K a w := by
  unfold Go.wpOp
  simp only [hi]
  rcases hy with ⟨hw, hv⟩ | ⟨hw, rfl⟩
  · simp only [hw, if_true]; exact .inl (hv.wp hS hK)
  · simp only [hw, Bool.false_eq_true, if_false]; exact hK w (Below.refl _ _)
theorem Tame.of_same {o : Oper} {v : Value} {a a' : Act} (hy : Tame P ops S o v a) (he : execOp a'.eval o = execOp a.eval o)
    (hw : Region.wanted o (yielded ops a'.tmps) = Region.wanted o (yielded ops a.tmps)) : Tame P ops S o v a' := by
  unfold Tame at *
  rw [he, hw]
  exact hy
theorem wpOp_putT {j : Nat} {oi oj : Oper} {v : Value} (hj : ops[j]? = some oj) (hap : oi.apart ops oj = true)
    (hsi : ∀ cs b, oi.op ≠ .select cs b) (hsj : ∀ cs b, oj.op ≠ .select cs b) {K : Act → World → Prop} {a : Act} {w : World}
    (hy : Tame P ops S oi v a) (h : wpOp P ops (Nrm R) j K (a.put oi.dst v) w) :
    wpOp P ops (Nrm R) j (fun a' w' => Tame P ops S oi v a' ∧ K (a'.put oi.dst v) w') a w := by
  obtain ⟨h1, h2, h3⟩ := Oper.apart_spec hap
  have keep : ∀ (a : Act), Tame P ops S oi v a → ∀ u, Tame P ops S oi v (a.put oj.dst u) := fun a hy u =>
    hy.of_same (execOp_put oi hsi a oj.dst u h3) (wanted_put oi a oj.dst u h3)
  have keepD : ∀ d, Tame P ops S oi v { a with defers := d :: a.defers } := fun d => hy.of_same rfl rfl
  unfold wpOp at *
  simp only [hj] at *
  rw [wanted_put oj a oi.dst v h1] at h
  split
  · rename_i hw
    simp only [hw, if_true] at h
    rcases h with h | ⟨hasks, hlets⟩
    case inr => exact .inr ⟨by unfold Oper.asks at *; rw [execOp_put oj hsj a oi.dst v h1] at hasks; exact hasks, hlets⟩
    refine .inl ?_
    unfold Oper.wp at *
    rw [execOp_put oj hsj a oi.dst v h1] at h
    generalize (execOp a.eval oj).run P w = r at *
    cases r with
    | ok n w' =>
      cases n <;> simp only [Oper.upon] at h ⊢
      case value u => exact ⟨keep a hy u, by rw [← Act.put_comm a v u h2]; exact h⟩
      case skip => exact ⟨keep a hy _, by rw [← Act.put_comm a v undef h2]; exact h⟩
      case defer d =>
        refine ⟨keep _ (keepD d) _, ?_⟩
        rw [← Act.put_comm _ v undef h2, ← Act.put_defers]
        exact h
      case enter f args =>
        refine Calls.mono h fun e w'' he => ?_
        cases e with
        | returned u => exact ⟨keep a hy u, by rw [← Act.put_comm a v u h2]; exact he⟩
        | panicked c => exact he
        | outgrown => exact he
      case row row args => exact Rows.mono h fun u w'' he => ⟨keep a hy u, by rw [← Act.put_comm a v u h2]; exact he⟩
    | halt x w' =>
      cases x <;> simp only [Oper.upon] at h ⊢
      case panic u => exact h
  · rename_i hw
    simp only [hw] at h
    exact ⟨keep a hy _, by rw [← Act.put_comm a v undef h2]; exact h⟩

/-- Whatever comes up next, from a state and in every world that meets S. -/
def wpF (P : Program) (md : Region.Mode) (ops : Array Oper) (late : List Nat) (R : Act → World → Prop) (S0 : World → Prop) : Nat → Array Bool → Act → (World → Prop) → Prop
  | 0, listed, a, S => Region.ready md ops listed = [] ∧ ∀ w, S w → R a w
  | fuel + 1, listed, a, S =>
    (Region.ready md ops listed = [] → ∀ w, S w → R a w) ∧
    ∀ i ∈ Region.ready md ops listed, ∀ w, S w → wpOp P ops (Nrm R) i (fun a' w' => ∃ S', (i ∈ late ∨ Ext S0 S') ∧ S' w' ∧ wpF P md ops late R S0 fuel (listed.setIfInBounds i true) a' S') a w
theorem wpAny_of_flow : ∀ (fuel : Nat) (listed : Array Bool) (a : Act) (S : World → Prop) (w : World), S w → wpF P md ops late R S0 fuel listed a S → wpAny P md ops (Nrm R) fuel listed a w
  | 0, _, _, _, w, hS, h => ⟨h.1, h.2 w hS⟩
  | fuel + 1, _, _, _, w, hS, h => ⟨fun h0 => h.1 h0 w hS, fun i hi => wpOp_mono (fun a' w' ⟨S', _, h', h2⟩ => wpAny_of_flow fuel _ a' S' w' h' h2) (h.2 i hi w hS)⟩
/-- Each late operation waits for number i. -/
def lateOk (md : Region.Mode) (ops : Array Oper) (late : List Nat) (i : Nat) : Bool :=
  late.all fun j => match ops[j]? with
    | some oj => oj.after.any fun e => Region.binds md e && Nat.beq e.on i
    | none => false
theorem wpF_first {i : Nat} {oi : Oper} {v : Value} (hi : ops[i]? = some oi) (hsel : ∀ (j : Nat) (o : Oper) cs b, ops[j]? = some o → o.op ≠ .select cs b) :
    ∀ (fuel : Nat) (listed : Array Bool) (a : Act) (S : World → Prop), lateOk md ops late i = true → Ext S0 S →
      (∀ j oj, ops[j]? = some oj → j ≠ i → listed.getD j true = false → (∀ e ∈ oj.after, Region.binds md e = true → e.on ≠ i) → oi.apart ops oj = true) →
      i ∈ Region.ready md ops listed → Tame P ops S0 oi v a →
      wpF P md ops late R S0 fuel (listed.setIfInBounds i true) (a.put oi.dst v) S → wpF P md ops late R S0 (fuel + 1) listed a S := by
  intro fuel
  induction fuel with
  | zero =>
    intro listed a S hL hE _ hr hy H
    refine ⟨fun h => (by rw [h] at hr; cases hr), fun j hj w hS => ?_⟩
    by_cases hji : j = i
    · subst hji; exact hy.wpOp hi (hE.1 w hS) fun w' hb => ⟨S, .inr hE, hE.2 w w' hS hb, H⟩
    · have := ready_mono hj hji
      rw [H.1] at this
      cases this
  | succ fuel ih =>
    intro listed a S hL hE hfree hr hy H
    refine ⟨fun h => (by rw [h] at hr; cases hr), fun j hj w hS => ?_⟩
    by_cases hji : j = i
    · subst hji; exact hy.wpOp hi (hE.1 w hS) fun w' hb => ⟨S, .inr hE, hE.2 w w' hS hb, H⟩
    · have h1 := H.2 j (ready_mono hj hji) w hS
      obtain ⟨hjun, oj, hoj, hall⟩ := mem_ready.1 hj
      have hnot : ∀ e ∈ oj.after, Region.binds md e = true → e.on ≠ i := fun e he hb heq => by
        have h1 := hall e he hb
        have h0 := (mem_ready.1 hr).1
        rw [heq] at h1
        rcases Nat.lt_or_ge i listed.size with h' | h'
        · simp [h'] at h0 h1; rw [h0] at h1; cases h1
        · simp [Array.getElem?_eq_none h'] at h1
      have hjl : j ∉ late := fun hm => by
        have h1 := List.all_eq_true.1 hL j hm
        rw [hoj] at h1
        obtain ⟨e, he, hb⟩ := Array.any_eq_true'.1 h1
        simp only [Bool.and_eq_true] at hb
        exact hnot e he hb.1 (Nat.eq_of_beq_eq_true hb.2)
      have h2 := wpOp_putT hoj (hfree j oj hoj hji hjun hnot) (fun cs b => hsel i oi cs b hi) (fun cs b => hsel j oj cs b hoj) hy h1
      have hfree' : ∀ k ok, ops[k]? = some ok → k ≠ i → (listed.setIfInBounds j true).getD k true = false →
          (∀ e ∈ ok.after, Region.binds md e = true → e.on ≠ i) → oi.apart ops ok = true := fun k ok hk hki hun hno => by
        refine hfree k ok hk hki ?_ hno
        by_cases hjk : j = k
        · subst hjk; exact hjun
        · rw [getD_set_ne true hjk] at hun; exact hun
      refine wpOp_mono (fun a' w' ⟨h3, S', hE', hS', h4⟩ => ⟨S', .inr (hE'.resolve_left hjl), hS', ih (listed.setIfInBounds j true) a' S' hL (hE'.resolve_left hjl) hfree' (ready_mono hr (Ne.symm hji)) h3 ?_⟩) h2
      rw [Array.setIfInBounds_comm _ _ hji]
      exact h4
theorem region_flow {id : Nat} {a : Act} {w : World} {Q : Exit → Act → World → Prop} (hm : P.follows .mixedOrders = true) (S : World → Prop) (hS : S w.drew)
    (h : wpF P .any ops late R S0 ops.size (Array.replicate ops.size false) a S) (hR : ∀ a' w', R a' w' → Q .normal a' w') : (Code.region id ops true).wp P Q a w := by
  refine wp_mono (Q := Nrm R) (wp_region_any hm (wpAny_of_flow _ _ _ S _ hS h)) fun e a' w' he => ?_
  cases e <;> first | exact hR _ _ he | exact he.elim
/-- The same for a region whose order is the text's. -/
def wpL (P : Program) (ops : Array Oper) (R : Act → World → Prop) : List Nat → Act → (World → Prop) → Prop
  | [], a, S => ∀ w, S w → R a w
  | i :: l, a, S => ∀ w, S w → wpOp P ops (Nrm R) i (fun a' w' => ∃ S', Stays S' ∧ S' w' ∧ wpL P ops R l a' S') a w
theorem wpOps_of_flow : ∀ (l : List Nat) (a : Act) (S : World → Prop) (w : World), S w → wpL P ops R l a S → wpOps P ops (Nrm R) l a w
  | [], _, _, w, hS, h => h w hS
  | i :: l, _, _, w, hS, h => by
    rw [wpOps_cons]
    exact wpOp_mono (fun a' w' ⟨S', _, h', h2⟩ => wpOps_of_flow l a' S' w' h' h2) (h w hS)
theorem region_plain {id : Nat} {a : Act} {w : World} {Q : Exit → Act → World → Prop} (S : World → Prop) (hS : S w)
    (h : wpL P ops R (List.range ops.size) a S) (hR : ∀ a' w', R a' w' → Q .normal a' w') : (Code.region id ops false).wp P Q a w := by
  refine wp_mono (Q := Nrm R) (wp_region (wpOps_of_flow _ _ S _ hS h)) fun e a' w' he => ?_
  cases e <;> first | exact hR _ _ he | exact he.elim
theorem wpL_take {i : Nat} {l : List Nat} {oi : Oper} {v : Value} {a : Act} (hi : ops[i]? = some oi) (hy : Tame P ops S oi v a) (hE : Stays S) (h : wpL P ops R l (a.put oi.dst v) S) : wpL P ops R (i :: l) a S :=
  fun _ hS => hy.wpOp hi hS fun w' hb => ⟨S, hE, hE _ w' hS hb, h⟩
end
end Go.Proofs.YtialfoccalobpaaDoor

/-! ## FlowB -/
namespace Go.Proofs.YtialfoccalobpaaDoor
set_option linter.unusedSimpArgs false
set_option linter.unusedVariables false
open Go.RowKit

def look : List (Nat × Value) → Nat → Value
  | [], _ => undef
  | (d, v) :: l, t => bif Nat.beq d t then v else look l t
/-- A frame of n slots; the newest first. -/
def fr (n : Nat) : List (Nat × Value) → Act
  | [] => { tmps := Array.replicate n undef, defers := [] }
  | (d, v) :: l => (fr n l).put (some d) v
theorem fr_size (n : Nat) (l : List (Nat × Value)) : (fr n l).tmps.size = n := by
  induction l with
  | nil => simp [fr]
  | cons x l ih => obtain ⟨d, v⟩ := x; simp [fr, Act.put, ih]
theorem fr_defers (n : Nat) (l : List (Nat × Value)) : (fr n l).defers = [] := by
  induction l with
  | nil => rfl
  | cons x l ih => obtain ⟨d, v⟩ := x; simp [fr, Act.put, ih]
def inFr (n : Nat) : List (Nat × Value) → Bool
  | [] => true
  | (d, _) :: l => Nat.blt d n && inFr n l
theorem blt_iff {a b : Nat} : Nat.blt a b = true ↔ a < b := by simp [Nat.blt, Nat.ble_eq]; omega
theorem fr_at (n : Nat) (l : List (Nat × Value)) (h : inFr n l = true) (t : Nat) : (fr n l).tmps.getD t undef = look l t := by
  induction l with
  | nil =>
    simp only [fr, look]
    by_cases ht : t < n <;> simp [Array.getElem?_replicate, ht]
  | cons x l ih =>
    obtain ⟨d, v⟩ := x
    simp only [inFr, Bool.and_eq_true] at h
    have hd := blt_iff.1 h.1
    simp only [fr, Act.put, look]
    by_cases e : d = t
    · subst e
      have : Nat.beq d d = true := by simp
      rw [this]
      simp [fr_size, hd]
    · have : Nat.beq d t = false := by
        cases hb : Nat.beq d t with
        | false => rfl
        | true => exact absurd (Nat.eq_of_beq_eq_true hb) e
      rw [this]
      simp only [cond_false]
      rw [← ih h.2]
      simp [Array.getElem?_setIfInBounds_ne e]
/-- What an operand is. -/
def rho (l : List (Nat × Value)) : Operand → Value
  | .tmp t => look l t
  | .const v => v
  | .global g => .pointer (some ⟨g, 0, none⟩)
  | .func f => .func (.func f) #[] #[]
theorem fr_eval (n : Nat) (l : List (Nat × Value)) (h : inFr n l = true) : (fr n l).eval = rho l := by
  funext x
  cases x <;> first | exact fr_at n l h _ | rfl
theorem fr_comm (n : Nat) (l : List (Nat × Value)) {d e : Nat} (u v : Value) (h : d ≠ e) : fr n ((d, u) :: (e, v) :: l) = fr n ((e, v) :: (d, u) :: l) := by
  show ((fr n l).put (some e) v).put (some d) u = ((fr n l).put (some d) u).put (some e) v
  exact Act.put_comm _ _ _ (by rintro _ ⟨rfl⟩ he; cases he; exact h rfl)
theorem fr_cong (n : Nat) {l l' : List (Nat × Value)} (d : Nat) (v : Value) (h : fr n l = fr n l') : fr n ((d, v) :: l) = fr n ((d, v) :: l') := by
  show (fr n l).put _ _ = (fr n l').put _ _
  rw [h]
/-- The blocks of the function's own: nothing older has turned. -/
def Hbl (v : World) (L : List (Nat × TypeId × Array Value)) (w : World) : Prop :=
  Below v.heap.size v w ∧ (∀ x ∈ L, Blk w x.1 x.2.1 x.2.2 ∧ v.heap.size ≤ x.1) ∧ (L.map (·.1)).Nodup
section
variable {v : World} {L L' : List (Nat × TypeId × Array Value)} {w : World}
theorem Hbl.below (h : Hbl v L w) : Below v.heap.size v w := h.1
theorem Hbl.nil (v : World) : Hbl v [] v := ⟨Below.refl _ _, by simp, by simp⟩
theorem Hbl.stays (v : World) (L : List (Nat × TypeId × Array Value)) : Stays (Hbl v L) := fun w w' h hb =>
  ⟨h.1.trans (hb.mono h.1.size), fun x hx => ⟨(h.2.1 x hx).1.keep hb, (h.2.1 x hx).2⟩, h.2.2⟩
theorem Hbl.drew (h : Hbl v L w) : Hbl v L w.drew := ⟨h.1.drew, fun x hx => ⟨(h.2.1 x hx).1.drew, (h.2.1 x hx).2⟩, h.2.2⟩
theorem Hbl.blk (h : Hbl v L w) (k : Nat) {g : Nat} {t : TypeId} {cs : Array Value} (hk : L[k]? = some (g, t, cs)) : Blk w g t cs := (h.2.1 (g, t, cs) (List.mem_of_getElem? hk)).1
theorem Hbl.sub (h : Hbl v L w) (hs : L'.Sublist L) : Hbl v L' w := ⟨h.1, fun x hx => h.2.1 x (hs.subset hx), (hs.map _).nodup h.2.2⟩
theorem Hbl.perm (h : Hbl v L w) (hs : L.Perm L') : Hbl v L' w := ⟨h.1, fun x hx => h.2.1 x (hs.mem_iff.2 hx), (hs.map _).nodup_iff.1 h.2.2⟩
theorem Hbl.alloc (h : Hbl v L w) (t : TypeId) (cs : Array Value) : Hbl v ((w.heap.size, t, cs) :: L) (w.alloc (.cells cs t)) := by
  refine ⟨h.1.alloc h.1.size _, fun x hx => ?_, ?_⟩
  · rcases List.mem_cons.1 hx with rfl | hx
    · exact ⟨Blk.new _ _ _, h.1.size⟩
    · exact ⟨(h.2.1 x hx).1.alloc _, (h.2.1 x hx).2⟩
  · simp only [List.map_cons, List.nodup_cons]
    refine ⟨fun hm => ?_, h.2.2⟩
    obtain ⟨x, hx, he⟩ := List.mem_map.1 hm
    have := (h.2.1 x hx).1.lt
    omega
theorem Hbl.fresh (h : Hbl v L w) {w' : World} {g : Nat} {t : TypeId} {cs : Array Value} (hb : Below w.heap.size w w') (hg : w.heap.size ≤ g) (hB : Blk w' g t cs) : Hbl v ((g, t, cs) :: L) w' := by
  refine ⟨h.1.trans (hb.mono h.1.size), fun x hx => ?_, ?_⟩
  · rcases List.mem_cons.1 hx with rfl | hx
    · exact ⟨hB, by have := h.1.size; simp only; omega⟩
    · exact ⟨(h.2.1 x hx).1.keep hb, (h.2.1 x hx).2⟩
  · simp only [List.map_cons, List.nodup_cons]
    refine ⟨fun hm => ?_, h.2.2⟩
    obtain ⟨x, hx, he⟩ := List.mem_map.1 hm
    have := (h.2.1 x hx).1.lt
    omega
theorem Hbl.store (h : Hbl v L w) (k : Nat) {g : Nat} {t : TypeId} {old : Array Value} (hk : L[k]? = some (g, t, old)) (cs : Array Value) {w' : World}
    (hb : Blk w' g t cs) (ho : w.grownBy w' (some g)) : Hbl v (L.set k (g, t, cs)) w' := by
  have hkl : k < L.length := (List.getElem?_eq_some_iff.1 hk).1
  have hg := (h.2.1 (g, t, old) (List.mem_of_getElem? hk)).2
  have hkeys : (L.set k (g, t, cs)).map (·.1) = L.map (·.1) := by
    rw [List.map_set]
    apply List.ext_getElem?
    intro i
    rw [List.getElem?_set]
    split
    · rename_i e; subst e
      simp only [List.length_map, hkl, if_true, List.getElem?_map, hk, Option.map_some]
    · rfl
  refine ⟨h.1.grown ho h.1.size (fun i hi => by cases hi; exact hg), fun x hx => ?_, by rw [hkeys]; exact h.2.2⟩
  rcases List.getElem?_of_mem hx with ⟨i, hi⟩
  rw [List.getElem?_set] at hi
  split at hi
  · simp only [hkl, if_true, Option.some.injEq] at hi
    subst hi
    exact ⟨hb, hg⟩
  · rename_i hne
    have hm := h.2.1 x (List.mem_of_getElem? hi)
    refine ⟨hm.1.grown ho ?_, hm.2⟩
    rintro e
    cases e
    have hil : i < L.length := (List.getElem?_eq_some_iff.1 hi).1
    have h1 : (L.map (·.1))[k]? = (L.map (·.1))[i]? := by rw [List.getElem?_map, List.getElem?_map, hk, hi]; rfl
    exact hne ((List.getElem?_inj (by simpa using hkl) h.2.2).1 h1)
theorem Ext.of_sub {L0 : List (Nat × TypeId × Array Value)} (hs : L0.Sublist L) : Ext (Hbl v L0) (Hbl v L) := ⟨fun _ h => h.sub hs, Hbl.stays v L⟩
end
/-- sub stands in cs from o on. -/
def Sl (cs : Array Value) (o : Nat) (sub : Array Value) : Prop := ∀ (j : Nat) v, sub[j]? = some v → cs[o + j]? = some v
theorem Sl.refl (cs : Array Value) : Sl cs 0 cs := fun j v h => by rw [Nat.zero_add]; exact h
theorem Sl.left {cs a b : Array Value} {o : Nat} (h : Sl cs o (a ++ b)) : Sl cs o a := fun j v hv => h j v (by
  rw [Array.getElem?_append_left (Array.getElem?_eq_some_iff.1 hv).1]; exact hv)
theorem Sl.right {cs a b : Array Value} {o : Nat} (h : Sl cs o (a ++ b)) (n : Nat) (hn : a.size = n) (m : Nat) (hm : o + n = m) : Sl cs m b := fun j v hv => by
  subst hm hn
  rw [Nat.add_assoc]
  refine h _ v ?_
  rw [Array.getElem?_append_right (by omega), Nat.add_sub_cancel_left]
  exact hv
section
variable {P : Program} {ops : Array Oper} {md : Region.Mode} {late : List Nat} {R : Act → World → Prop} {v : World} {L L0 : List (Nat × TypeId × Array Value)} {S : World → Prop}
theorem gives_value {S : World → Prop} {x : Sem Next} (u : Value) (h : ∀ w, x.run P w = .ok (.value u) w) : Gives P S u x := fun w _ => .inl ⟨w, h w, Below.refl _ _⟩
theorem gives_call {S : World → Prop} {l : List (Nat × Value)} {dst : Option Tmp} {f : FuncId} {args : Array Operand} {ats : Array TypeId} {ty : TypeId} {pos : String} {after : Array Edge} {g : Option (Nat × Bool)} {vl : List Value} {u : Value}
    (hf : (P.funcs[f]?).map (fun fn => (fn.name == "runtime.NumGoroutine", fn.body.isNone)) = some (false, false)) (ha : args.toList.map (rho l) = vl) (h : ∀ w, S w → Calls P f vl.toArray w fun e w' => e = .returned u ∧ Below w.heap.size w w') :
    Gives P S u (execOp (rho l) ⟨dst, .call { callee := .value (.func f), args := args, argTypes := ats }, ty, pos, after, g⟩) := fun w hS =>
  .inr ⟨f, vl.toArray, by
    have ha : args.map (rho l) = vl.toArray := by rw [← ha, ← Array.toList_map, Array.toArray_toList]
    obtain ⟨fn, h1, h2⟩ := Option.map_eq_some_iff.1 hf
    simp only [Prod.mk.injEq, beq_eq_false_iff_ne, ne_eq, Option.isNone_eq_false_iff] at h2
    have h3 : fn.body ≠ none := by intro e; simp [e] at h2
    simp [execOp, resolve, rho, Deferred.ofValue, invoke, ha, callFunc, h1, h2.1, h3], h w hS⟩
theorem gives_load {S : World → Prop} {l : List (Nat × Value)} {dst : Option Tmp} {x : Operand} {ty ty' : TypeId} {pos : String} {after : Array Edge} {gd : Option (Nat × Bool)}
    (g o : Nat) (t : TypeId) (cs sub : Array Value) (d : TypeDesc) (hx : rho l x = .pointer (some ⟨g, o, none⟩)) (hB : ∀ w, S w → Blk w g t cs) (hs : Sl cs o sub)
    (hu : P.underlying ty = some d) (hd : (match d with | .struct _ | .array _ _ => true | _ => false) = true) (hi : (P.info? ty).map (·.size) = some sub.size) :
    Gives P S (.agg sub) (execOp (rho l) ⟨dst, .load ty x, ty', pos, after, gd⟩) := fun w hS => by
  refine .inl ⟨w, ?_, Below.refl _ _⟩
  have hb := hB w hS
  have hl : (loadCells ⟨g, o, none⟩ sub.toList.length).run P w = .ok sub.toList.toArray w :=
    run_loadCells_list (P := P) w ⟨g, o, none⟩ sub.toList (fun j u hv => by
      rw [add_plain, hb.cell]
      exact hs j u (by simpa using hv))
  have hrun : (loadVar ty ⟨g, o, none⟩).run P w = .ok (.agg sub) w := by
    cases hq : P.info? ty with
    | none => simp [hq] at hi
    | some i =>
      have hsz : i.size = sub.size := by simpa [hq] using hi
      have hagg : (isAgg ty).run P w = .ok true w := by
        unfold isAgg
        rw [Sem.run_bind, run_underlying hu w]
        cases d <;> simp_all
      simp only [Array.length_toList, Array.toArray_toList] at hl
      simp [loadVar, Sem.run_bind, hagg, sizeOf, typeInfo, hq, hsz, hl]
  simp [execOp, hx, Instr.loadAt, Instr.sureAddr, hrun]
/-- Take number i first, from a frame. -/
theorem flow_take {n : Nat} {l : List (Nat × Value)} {i d : Nat} {op : Op} {ty : TypeId} {pos : String} {after : Array Edge} {fuel : Nat} {listed : Array Bool} (u : Value) (hi : ops[i]? = some ⟨some d, op, ty, pos, after, none⟩)
    (hs : Region.noSelect ops = true) (hf : Region.free md ops listed i = true) (hr : (Region.ready md ops listed).contains i = true) (hl : inFr n l = true) (hlt : lateOk md ops late i = true) (hE : L0.Sublist L)
    (hy : Gives P (Hbl v L0) u (execOp (rho l) ⟨some d, op, ty, pos, after, none⟩))
    (h : wpF P md ops late R (Hbl v L0) fuel (listed.setIfInBounds i true) (fr n ((d, u) :: l)) (Hbl v L)) : wpF P md ops late R (Hbl v L0) (fuel + 1) listed (fr n l) (Hbl v L) :=
  wpF_first hi (Region.noSelect_spec hs) fuel listed _ _ hlt (Ext.of_sub hE) (Region.free_spec hi hf) (by simpa using hr) (.inl ⟨rfl, by rw [fr_eval n l hl]; exact hy⟩) h
theorem flow_all {rs : List Nat} {fuel : Nat} {listed : Array Bool} {a : Act} {S0 : World → Prop} (hr : Region.ready md ops listed = rs) (hne : rs ≠ [])
    (h : ∀ i ∈ rs, ∀ w, S w → wpOp P ops (Nrm R) i (fun a' w' => ∃ S', (i ∈ late ∨ Ext S0 S') ∧ S' w' ∧ wpF P md ops late R S0 fuel (listed.setIfInBounds i true) a' S') a w) : wpF P md ops late R S0 (fuel + 1) listed a S :=
  ⟨fun h0 => absurd (hr ▸ h0) hne, hr ▸ h⟩
theorem flow_done {fuel : Nat} {listed : Array Bool} {a : Act} {S0 : World → Prop} (hr : Region.ready md ops listed = []) (h : ∀ w, S w → R a w) : wpF P md ops late R S0 fuel listed a S := by
  cases fuel with
  | zero => exact ⟨hr, h⟩
  | succ n => exact ⟨fun _ => h, fun i hi => by rw [hr] at hi; cases hi⟩
theorem wpOp_run {Q : Exit → Act → World → Prop} {i : Nat} {o : Oper} {a : Act} {w w' : World} {u : Value} {K : Act → World → Prop} (hi : ops[i]? = some o) (hg : o.guard = none)
    (hrun : (execOp a.eval o).run P w = .ok (.value u) w' ∨ (u = undef ∧ (execOp a.eval o).run P w = .ok .skip w')) (hK : K (a.put o.dst u) w') : Go.wpOp P ops Q i K a w := by
  unfold Go.wpOp
  simp only [hi]
  have hw : Region.wanted o (yielded ops a.tmps) = true := by simp [Region.wanted, hg]
  simp only [hw, if_true]
  refine .inl ?_
  unfold Oper.wp
  rcases hrun with hr | ⟨rfl, hr⟩ <;> rw [hr] <;> exact hK
theorem run_alloc_exec {l : List (Nat × Value)} {dst : Option Tmp} {t ty : TypeId} {pos : String} {after : Array Edge} {gd : Option (Nat × Bool)} (z : Value) (hz : (P.info? t).map (·.zero) = some (some z)) (w : World) :
    (execOp (rho l) ⟨dst, .alloc t, ty, pos, after, gd⟩).run P w = .ok (.value (.pointer (some ⟨w.heap.size, 0, none⟩))) (w.alloc (.cells z.cells t)) := by
  obtain ⟨i, hi, hzz⟩ := Option.map_eq_some_iff.1 hz
  simp [execOp, Instr.alloc, zeroValue, typeInfo, hi, hzz, newVar, newRow, newObj]
  rfl
theorem run_box_exec {l : List (Nat × Value)} {dst : Option Tmp} {t ty : TypeId} {x : Operand} {pos : String} {after : Array Edge} {gd : Option (Nat × Bool)} (u : Value) (hx : rho l x = u) (w : World) :
    (execOp (rho l) ⟨dst, .box t x, ty, pos, after, gd⟩).run P w = .ok (.value (.pointer (some ⟨w.heap.size, 0, none⟩))) (w.alloc (.cells u.cells t)) := by
  simp [execOp, Instr.box, hx, newVar, newRow, newObj]
  rfl
theorem run_store_exec {l : List (Nat × Value)} {dst : Option Tmp} {ty ty' : TypeId} {x y : Operand} {pos : String} {after : Array Edge} {gd : Option (Nat × Bool)} {w : World}
    (g : Nat) (t : TypeId) (old cs : Array Value) (hx : rho l x = .pointer (some ⟨g, 0, none⟩)) (hy : rho l y = .agg cs) (hb : Blk w g t old) (hi : (P.info? ty).map (·.size) = some cs.size) (ho : old.size = cs.size) (h1 : cs.all (·.oneCell') = true) :
    ∃ w', (execOp (rho l) ⟨dst, .store ty x y, ty', pos, after, gd⟩).run P w = .ok .skip w' ∧ Blk w' g t cs ∧ w.grownBy w' (some g) := by
  have h := run_storeVar_only (P := P) w g 0 t ty old cs hb hi (by omega) h1
  refine ⟨_, by simp [execOp, hx, hy, Instr.storeAt, Instr.sureAddr, h]; rfl, ?_, setRow_only _⟩
  have hs : (splice old.toList 0 cs.toList).toArray = cs := by rw [splice_all]; simp; simp [ho]
  rw [hs]
  exact setRow_heap w g _ _ t _ hb
end
end Go.Proofs.YtialfoccalobpaaDoor

/-! ## FlowC -/
namespace Go.Proofs.YtialfoccalobpaaDoor
set_option linter.unusedSimpArgs false
set_option linter.unusedVariables false
open Go.RowKit
def joinA : List (Array Value) → Array Value
  | [] => #[]
  | [a] => a
  | a :: b :: l => a ++ joinA (b :: l)
theorem joinA_cons (a : Array Value) (l : List (Array Value)) : joinA (a :: l) = a ++ joinA l := by
  cases l <;> simp [joinA]
theorem foldl_sets (off : Nat) (l : List Value) : ∀ (n : Nat) (cs : Array Value), off + n + l.length ≤ cs.size → ∀ k,
    ((l.zipIdx n).foldl (fun cs (x : Value × Nat) => cs.setIfInBounds (off + x.2) x.1) cs)[k]? = if off + n ≤ k ∧ k < off + n + l.length then l[k - (off + n)]? else cs[k]? := by
  induction l with
  | nil => intro n cs h k; simp; omega
  | cons a l ih =>
    intro n cs h k
    simp only [List.length_cons] at h
    rw [List.zipIdx_cons, List.foldl_cons, ih (n + 1) _ (by simp; omega) k]
    by_cases h1 : k = off + n
    · subst h1
      rw [if_neg (by omega), if_pos (by simp)]
      simp [show off + n < cs.size by omega]
    · by_cases h2 : off + n ≤ k ∧ k < off + n + (l.length + 1)
      · rw [if_pos (by omega), if_pos (by simpa using h2)]
        rw [show k - (off + n) = (k - (off + (n + 1))) + 1 by omega, List.getElem?_cons_succ]
      · rw [if_neg (by omega), if_neg (by simpa using h2)]
        simp [Array.getElem?_setIfInBounds_ne (show off + n ≠ k by omega)]
theorem sets_mid (pre old post vs : Array Value) (h : vs.size = old.size) :
    vs.zipIdx.foldl (fun cs (x : Value × Nat) => cs.setIfInBounds (pre.size + x.2) x.1) (pre ++ (old ++ post)) = pre ++ (vs ++ post) := by
  rw [← Array.foldl_toList]
  have e : vs.zipIdx.toList = vs.toList.zipIdx 0 := by simp
  rw [e]
  apply Array.ext_getElem?
  intro k
  rw [foldl_sets pre.size vs.toList 0 _ (by simp; omega) k]
  simp only [Nat.add_zero, Array.length_toList]
  have A : ∀ x : Array Value, (pre ++ (x ++ post))[k]? = if k < pre.size then pre[k]? else if k - pre.size < x.size then x[k - pre.size]? else post[k - pre.size - x.size]? := fun x => by
    rw [Array.getElem?_append, Array.getElem?_append]
  rw [A old, A vs]
  by_cases h1 : k < pre.size
  · rw [if_neg (by omega), if_pos h1, if_pos h1]
  · by_cases h2 : k - pre.size < vs.size
    · rw [if_pos (by omega), if_neg h1, if_pos h2, Array.getElem?_toList]
    · rw [if_neg (by omega), if_neg h1, if_neg (by omega), if_neg h1, if_neg h2, h]
def offs : List (Array Value) → Nat → Nat
  | _, 0 => 0
  | [], _ + 1 => 0
  | a :: l, i + 1 => a.size + offs l i
theorem fill_set (ch : List (Array Value)) (i : Nat) (hi : i < ch.length) (vs : Array Value) (h : vs.size = (ch[i]).size) (pre : Array Value) :
    vs.zipIdx.foldl (fun cs (x : Value × Nat) => cs.setIfInBounds (pre.size + offs ch i + x.2) x.1) (pre ++ joinA ch) = pre ++ joinA (ch.set i vs) := by
  induction ch generalizing i pre with
  | nil => simp at hi
  | cons a l ih =>
    cases i with
    | zero =>
      simp only [offs, Nat.add_zero, List.set_cons_zero, joinA_cons]
      exact sets_mid pre a (joinA l) vs (by simpa using h)
    | succ i =>
      have := ih i (by simpa using hi) (by simpa using h) (pre ++ a)
      simp only [Array.size_append] at this
      simp only [offs, List.set_cons_succ, joinA_cons]
      rw [← Array.append_assoc, ← Array.append_assoc, ← this]
      simp only [Nat.add_assoc]
theorem offs_le (ch : List (Array Value)) (i : Nat) (hi : i < ch.length) : offs ch i + (ch[i]).size ≤ (joinA ch).size := by
  induction ch generalizing i with
  | nil => simp at hi
  | cons a l ih =>
    rw [joinA_cons]
    cases i with
    | zero => simp [offs]
    | succ i =>
      have := ih i (by simpa using hi)
      simp only [offs, List.getElem_cons_succ, Array.size_append]
      omega
def putsA : List (Array Value) → List (Nat × Array Value) → List (Array Value)
  | ch, [] => ch
  | ch, (i, v) :: r => putsA (ch.set i v) r
/-- The parts have their places' sizes. -/
def fits (sz : List Nat) : List (Nat × Array Value) → Prop
  | [] => True
  | (i, v) :: r => sz[i]? = some v.size ∧ fits sz r
theorem offs_sizes (ch : List (Array Value)) (i : Nat) : offs ch i = ((ch.map (·.size)).take i).sum := by
  induction ch generalizing i with
  | nil => cases i <;> simp [offs]
  | cons a l ih => cases i <;> simp [offs, ih]
theorem fill_puts (place : Nat → Option (Nat × Nat)) (sz : List Nat) (hp : ∀ i (_ : i < sz.length), place i = some ((sz.take i).sum, sz[i])) :
    ∀ (ps : List (Nat × Array Value)) (ch : List (Array Value)), ch.map (·.size) = sz → fits sz ps →
      Instr.fill place (joinA ch) (ps.map fun p => (p.1, Value.agg p.2)) = some (joinA (putsA ch ps)) := by
  intro ps
  induction ps with
  | nil => intro ch _ _; rfl
  | cons p r ih =>
    obtain ⟨i, v⟩ := p
    intro ch hc hf
    obtain ⟨h1, h2⟩ := hf
    have hil : i < sz.length := (List.getElem?_eq_some_iff.1 h1).1
    have hsz : sz[i] = v.size := (List.getElem?_eq_some_iff.1 h1).2
    have hlen : i < ch.length := by rw [← hc] at hil; simpa using hil
    have hch : (ch[i]).size = v.size := by
      rw [← hsz]; simp only [← hc, List.getElem_map]
    have hoff : offs ch i = (sz.take i).sum := by rw [offs_sizes, hc]
    have hle := offs_le ch i hlen
    have hset := fill_set ch i hlen v hch.symm #[]
    simp only [Array.empty_append, Array.size_empty, Nat.zero_add] at hset
    have hih := ih (ch.set i v) ?_ h2
    · show (match place i with | none => none | some (off, size) => if v.size ≠ size || off + v.size > (joinA ch).size then none else Instr.fill place (v.zipIdx.foldl (fun cs (x : Value × Nat) => cs.setIfInBounds (off + x.2) x.1) (joinA ch)) (r.map fun (p : Nat × Array Value) => (p.1, Value.agg p.2))) = _
      rw [hp i hil]
      simp only []
      rw [if_neg (by simp [hsz]; omega), ← hoff, hset]
      exact hih
    rw [List.map_set, hc]
    apply List.ext_getElem?
    intro j
    rw [List.getElem?_set]
    split
    · rename_i e; subst e; simp [hil, hsz]
    · rfl
section
variable {P : Program} {S : World → Prop}
theorem run_build_parts (t : TypeId) (fs : Array Field) (pl : Array (Nat × Nat)) (z : Value) (hu : P.underlying t = some (.struct fs)) (hz : (P.info? t).map (·.zero) = some (some z))
    (hpl : ∀ w, (fs.mapM fun (f : Field) => do pure (f.offset, ← sizeOf f.type)).run P w = .ok pl w) (parts : Array (Nat × Value)) (cells : Array Value) (hf : Instr.fill (pl[·]?) z.cells parts.toList = some cells) (w : World) :
    (Instr.build t parts).run P w = .ok (.agg cells) w := by
  obtain ⟨i, hi, hzz⟩ := Option.map_eq_some_iff.1 hz
  have h := hpl w
  have hzr : (zeroValue t).run P w = .ok z w := by simp [zeroValue, typeInfo, hi, hzz]
  unfold Instr.build
  rw [Sem.run_bind, hzr, Result.andThen_ok, Sem.run_bind, run_underlying hu, Result.andThen_ok]
  simp only [Sem.run_bind]
  rw [h, Result.andThen_ok, hf]
  rfl
theorem gives_build {l : List (Nat × Value)} {dst : Option Tmp} {t ty : TypeId} {parts : Array (Nat × Operand)} {pos : String} {after : Array Edge} {gd : Option (Nat × Bool)} (fs : Array Field) (pl : Array (Nat × Nat)) (z : Value)
    (hu : P.underlying t = some (.struct fs)) (hz : (P.info? t).map (·.zero) = some (some z)) (hpl : ∀ w, (fs.mapM fun (f : Field) => do pure (f.offset, ← sizeOf f.type)).run P w = .ok pl w)
    (sz : List Nat) (hp : ∀ i (_ : i < sz.length), pl[i]? = some ((sz.take i).sum, sz[i])) (ch : List (Array Value)) (hc : ch.map (·.size) = sz) (hzc : z.cells = joinA ch) (ps : List (Nat × Array Value)) (hf : fits sz ps)
    (he : (parts.toList.map fun x => (x.1, rho l x.2)) = ps.map fun p => (p.1, Value.agg p.2)) (out : Array Value) (ho : joinA (putsA ch ps) = out) :
    Gives P S (.agg out) (execOp (rho l) ⟨dst, .build t parts, ty, pos, after, gd⟩) := gives_value _ fun w => by
  have h := fill_puts (pl[·]?) sz hp ps ch hc hf
  have he : (parts.map fun (i, x) => (i, rho l x)).toList = ps.map fun p => (p.1, Value.agg p.2) := by rw [← he]; simp
  rw [← hzc, ← he, ho] at h
  have hrun := run_build_parts (P := P) t fs pl z hu hz hpl _ out h w
  simp only [execOp, Sem.run_bind, hrun, Result.andThen_ok, Sem.run_pure]
end
end Go.Proofs.YtialfoccalobpaaDoor

/-! ## FlowD -/
namespace Go.Proofs.YtialfoccalobpaaDoor
set_option linter.unusedSimpArgs false
set_option linter.unusedVariables false
open Go.RowKit
theorem ent_put (n : Nat) (args : List Value) (b : Value) (h : args.length < n) :
    ({ tmps := (args.toArray ++ Array.replicate (n - args.length) undef), defers := [] } : Act).put (some args.length) b = { tmps := ((args ++ [b]).toArray ++ Array.replicate (n - (args.length + 1)) undef), defers := [] } := by
  obtain ⟨m, hm⟩ : ∃ m, n = args.length + (m + 1) := ⟨n - args.length - 1, by omega⟩
  subst hm
  have e1 : args.length + (m + 1) - args.length = m + 1 := by omega
  have e2 : args.length + (m + 1) - (args.length + 1) = m := by omega
  simp only [Act.put, e1, e2]
  congr 1
  have e3 : ∀ k, Array.replicate k undef = (List.replicate k undef).toArray := fun k => by simp
  rw [e3, e3, List.append_toArray, List.append_toArray, List.setIfInBounds_toArray]
  congr 1
  rw [List.set_append_right _ _ (Nat.le_refl _), Nat.sub_self, List.replicate_succ, List.set_cons_zero]
  simp
theorem ent_nil (n : Nat) : ({ tmps := ([] : List Value).toArray ++ Array.replicate (n - 0) undef, defers := [] } : Act) = fr n [] := by simp [fr]
section
variable {P : Program} {f : FuncId} {fn : Func} {c : Code} {w : World} {R : Ending → World → Prop} {n : Nat}
theorem calls_fr0 (hf : P.funcs[f]? = some fn) (hb : fn.body = some c) (hn : fn.ntmps = n) (h : c.wp P (bodyPost P fn R) (fr n []) w) : Calls P f #[] w R := by
  refine calls_of_wp hf hb ?_
  rw [hn]
  have := ent_nil n
  simp only [List.size_toArray, List.length_nil] at this ⊢
  rw [this]; exact h
theorem calls_fr1 (hf : P.funcs[f]? = some fn) (hb : fn.body = some c) (hn : fn.ntmps = n) (h1 : Nat.ble 1 n = true) {a : Value} (h : c.wp P (bodyPost P fn R) (fr n [(0, a)]) w) : Calls P f #[a] w R := by
  have hle := Nat.le_of_ble_eq_true h1
  refine calls_of_wp hf hb ?_
  rw [hn]
  have e := ent_put n [] a (by simp; omega)
  rw [List.length_nil, ent_nil] at e
  have e2 : fr n [(0, a)] = { tmps := #[a] ++ Array.replicate (n - (#[a] : Array Value).size) undef, defers := [] } := e
  rw [← e2]; exact h
theorem calls_fr2 (hf : P.funcs[f]? = some fn) (hb : fn.body = some c) (hn : fn.ntmps = n) (h1 : Nat.ble 2 n = true) {a b : Value} (h : c.wp P (bodyPost P fn R) (fr n [(1, b), (0, a)]) w) : Calls P f #[a, b] w R := by
  have hle := Nat.le_of_ble_eq_true h1
  refine calls_of_wp hf hb ?_
  rw [hn]
  have e := ent_put n [] a (by simp; omega)
  rw [List.length_nil, ent_nil] at e
  have e2 := ent_put n [a] b (by simp; omega)
  have e3 : fr n [(1, b), (0, a)] = { tmps := #[a, b] ++ Array.replicate (n - (#[a, b] : Array Value).size) undef, defers := [] } := by
    show (fr n [(0, a)]).put (some 1) b = _
    rw [show fr n [(0, a)] = (fr n []).put (some 0) a from rfl, e]
    exact e2
  rw [← e3]; exact h
theorem calls_fr3 (hf : P.funcs[f]? = some fn) (hb : fn.body = some c) (hn : fn.ntmps = n) (h1 : Nat.ble 3 n = true) {a b d : Value} (h : c.wp P (bodyPost P fn R) (fr n [(2, d), (1, b), (0, a)]) w) : Calls P f #[a, b, d] w R := by
  have hle := Nat.le_of_ble_eq_true h1
  refine calls_of_wp hf hb ?_
  rw [hn]
  have e := ent_put n [] a (by simp; omega)
  rw [List.length_nil, ent_nil] at e
  have e2 := ent_put n [a] b (by simp; omega)
  have e3 := ent_put n [a, b] d (by simp; omega)
  have e4 : fr n [(2, d), (1, b), (0, a)] = { tmps := #[a, b, d] ++ Array.replicate (n - (#[a, b, d] : Array Value).size) undef, defers := [] } := by
    show ((fr n [(0, a)]).put (some 1) b).put (some 2) d = _
    rw [show fr n [(0, a)] = (fr n []).put (some 0) a from rfl, e]
    refine (congrArg (fun x : Act => x.put (some 2) d) e2).trans e3
  rw [← e4]; exact h
theorem calls_fr4 (hf : P.funcs[f]? = some fn) (hb : fn.body = some c) (hn : fn.ntmps = n) (h1 : Nat.ble 4 n = true) {a b d e' : Value} (h : c.wp P (bodyPost P fn R) (fr n [(3, e'), (2, d), (1, b), (0, a)]) w) : Calls P f #[a, b, d, e'] w R := by
  have hle := Nat.le_of_ble_eq_true h1
  refine calls_of_wp hf hb ?_
  rw [hn]
  have e := ent_put n [] a (by simp; omega)
  rw [List.length_nil, ent_nil] at e
  have e2 := ent_put n [a] b (by simp; omega)
  have e3 := ent_put n [a, b] d (by simp; omega)
  have e4 := ent_put n [a, b, d] e' (by simp; omega)
  have e5 : fr n [(3, e'), (2, d), (1, b), (0, a)] = { tmps := #[a, b, d, e'] ++ Array.replicate (n - (#[a, b, d, e'] : Array Value).size) undef, defers := [] } := by
    show (((fr n [(0, a)]).put (some 1) b).put (some 2) d).put (some 3) e' = _
    rw [show fr n [(0, a)] = (fr n []).put (some 0) a from rfl, e]
    refine (congrArg (fun x : Act => (x.put (some 2) d).put (some 3) e') e2).trans ((congrArg (fun x : Act => x.put (some 3) e') e3).trans e4)
  rw [← e5]; exact h
end
section
variable {P : Program} {ops : Array Oper} {late : List Nat} {R : Act → World → Prop} {v : World} {L L0 : List (Nat × TypeId × Array Value)} {n : Nat} {sl : List (Nat × Value)}
theorem seq_plain {id : Nat} {y : Code} {a : Act} {w : World} {Q : Exit → Act → World → Prop} (hS : Hbl v L w) (idx : List Nat) (hx : List.range ops.size = idx) (h : wpL P ops (y.wp P Q) idx a (Hbl v L)) : (Code.seq (.region id ops false) y).wp P Q a w :=
  wp_seq (region_plain (Hbl v L) hS (hx ▸ h) fun _ _ h => h)
theorem one_plain {id : Nat} {a : Act} {w : World} {Q : Exit → Act → World → Prop} (hS : Hbl v L w) (idx : List Nat) (hx : List.range ops.size = idx) (h : wpL P ops (Q .normal) idx a (Hbl v L)) : (Code.region id ops false).wp P Q a w :=
  region_plain (Hbl v L) hS (hx ▸ h) fun _ _ h => h
theorem seq_flow {id : Nat} {y : Code} {a : Act} {w : World} {Q : Exit → Act → World → Prop} (hm : P.follows .mixedOrders = true) (hS : Hbl v L w) (late : List Nat) (L0 : List (Nat × TypeId × Array Value))
    (N : Nat) (hN : ops.size = N) (h : wpF P .any ops late (y.wp P Q) (Hbl v L0) N (Array.replicate N false) a (Hbl v L)) : (Code.seq (.region id ops true) y).wp P Q a w :=
  wp_seq (region_flow hm (Hbl v L) hS.drew (by rw [hN]; exact h) fun _ _ h => h)
theorem one_flow {id : Nat} {a : Act} {w : World} {Q : Exit → Act → World → Prop} (hm : P.follows .mixedOrders = true) (hS : Hbl v L w) (late : List Nat) (L0 : List (Nat × TypeId × Array Value))
    (N : Nat) (hN : ops.size = N) (h : wpF P .any ops late (Q .normal) (Hbl v L0) N (Array.replicate N false) a (Hbl v L)) : (Code.region id ops true).wp P Q a w :=
  region_flow hm (Hbl v L) hS.drew (by rw [hN]; exact h) fun _ _ h => h
theorem seq_flow_to {id : Nat} {y : Code} {a : Act} {w : World} {Q : Exit → Act → World → Prop} (R : Act → World → Prop) (hm : P.follows .mixedOrders = true) (hS : Hbl v L w) (late : List Nat) (L0 : List (Nat × TypeId × Array Value))
    (N : Nat) (hN : ops.size = N) (h : wpF P .any ops late R (Hbl v L0) N (Array.replicate N false) a (Hbl v L)) (hR : ∀ a w, R a w → y.wp P Q a w) : (Code.seq (.region id ops true) y).wp P Q a w :=
  wp_seq (region_flow hm (Hbl v L) hS.drew (by rw [hN]; exact h) hR)
theorem L_val {i d : Nat} {l : List Nat} {op : Op} {ty : TypeId} {pos : String} {after : Array Edge} (u : Value) (hi : ops[i]? = some ⟨some d, op, ty, pos, after, none⟩) (hl : inFr n sl = true)
    (hy : Gives P (Hbl v L) u (execOp (rho sl) ⟨some d, op, ty, pos, after, none⟩)) (h : wpL P ops R l (fr n ((d, u) :: sl)) (Hbl v L)) : wpL P ops R (i :: l) (fr n sl) (Hbl v L) :=
  wpL_take hi (.inl ⟨rfl, by rw [fr_eval n sl hl]; exact hy⟩) (Hbl.stays v L) h
theorem L_alloc {i d : Nat} {l : List Nat} {t ty : TypeId} {pos : String} {after : Array Edge} (z : Value) (hi : ops[i]? = some ⟨some d, .alloc t, ty, pos, after, none⟩) (hl : inFr n sl = true) (hz : (P.info? t).map (·.zero) = some (some z))
    (cs : Array Value) (hc : z.cells = cs) (h : ∀ g, wpL P ops R l (fr n ((d, .pointer (some ⟨g, 0, none⟩)) :: sl)) (Hbl v ((g, t, cs) :: L))) : wpL P ops R (i :: l) (fr n sl) (Hbl v L) := fun w hS => by
  refine wpOp_run hi rfl (.inl (by rw [fr_eval n sl hl]; exact run_alloc_exec z hz w)) ⟨_, Hbl.stays v _, ?_, h _⟩
  rw [hc]; exact hS.alloc _ _
theorem L_box {i d : Nat} {l : List Nat} {t ty : TypeId} {x : Operand} {pos : String} {after : Array Edge} (u : Value) (hi : ops[i]? = some ⟨some d, .box t x, ty, pos, after, none⟩) (hl : inFr n sl = true) (hx : rho sl x = u)
    (cs : Array Value) (hc : u.cells = cs) (h : ∀ g, wpL P ops R l (fr n ((d, .pointer (some ⟨g, 0, none⟩)) :: sl)) (Hbl v ((g, t, cs) :: L))) : wpL P ops R (i :: l) (fr n sl) (Hbl v L) := fun w hS => by
  refine wpOp_run hi rfl (.inl (by rw [fr_eval n sl hl]; exact run_box_exec u hx w)) ⟨_, Hbl.stays v _, ?_, h _⟩
  rw [hc]; exact hS.alloc _ _
theorem L_store {i : Nat} {l : List Nat} {t ty ty' : TypeId} {x y : Operand} {pos : String} {after : Array Edge} (k g : Nat) (old cs : Array Value) (hi : ops[i]? = some ⟨none, .store ty x y, ty', pos, after, none⟩) (hl : inFr n sl = true)
    (hx : rho sl x = .pointer (some ⟨g, 0, none⟩)) (hy : rho sl y = .agg cs) (hk : L[k]? = some (g, t, old)) (hsz : (P.info? ty).map (·.size) = some cs.size) (ho : old.size = cs.size) (h1 : cs.all (·.oneCell') = true)
    (h : wpL P ops R l (fr n sl) (Hbl v (L.set k (g, t, cs)))) : wpL P ops R (i :: l) (fr n sl) (Hbl v L) := fun w hS => by
  obtain ⟨w', hr, hb, hg⟩ := run_store_exec (P := P) (dst := none) (ty' := ty') (pos := pos) (after := after) (gd := none) g t old cs hx hy (hS.blk k hk) hsz ho h1
  exact wpOp_run hi rfl (.inr ⟨rfl, by rw [fr_eval n sl hl]; exact hr⟩) ⟨_, Hbl.stays v _, hS.store k hk cs hb hg, h⟩
theorem fr_yield {j d : Nat} {b : Bool} (hl : inFr n sl = true) (hd : Nat.blt d n = true) (hj : (ops[j]?).bind (·.dst) = some d) (hv : look sl d = .bool b) : yielded ops (fr n sl).tmps j = some b := by
  have h := fr_at n sl hl d
  rw [hv] at h
  have hlt : d < (fr n sl).tmps.size := by rw [fr_size]; exact blt_iff.1 hd
  unfold yielded
  rw [hj]
  simp only [Option.bind_some]
  have e : (fr n sl).tmps[d]? = some (.bool b) := by
    rw [Array.getElem?_eq_getElem hlt]
    simp only [Array.getD, hlt, dif_pos] at h
    exact congrArg some h
  rw [e]
/-- A guarded operation that is wanted. -/
theorem flow_take_g {i d j dj : Nat} {want : Bool} {op : Op} {ty : TypeId} {pos : String} {after : Array Edge} {fuel : Nat} {listed : Array Bool} (u : Value) (hi : ops[i]? = some ⟨some d, op, ty, pos, after, some (j, want)⟩)
    (hs : Region.noSelect ops = true) (hf : Region.free .any ops listed i = true) (hr : (Region.ready .any ops listed).contains i = true) (hl : inFr n sl = true) (hlt : lateOk .any ops late i = true) (hE : L0.Sublist L)
    (hd : Nat.blt dj n = true) (hj : (ops[j]?).bind (·.dst) = some dj) (hv : look sl dj = .bool want)
    (hy : Gives P (Hbl v L0) u (execOp (rho sl) ⟨some d, op, ty, pos, after, some (j, want)⟩))
    (h : wpF P .any ops late R (Hbl v L0) fuel (listed.setIfInBounds i true) (fr n ((d, u) :: sl)) (Hbl v L)) : wpF P .any ops late R (Hbl v L0) (fuel + 1) listed (fr n sl) (Hbl v L) :=
  wpF_first hi (Region.noSelect_spec hs) fuel listed _ _ hlt (Ext.of_sub hE) (Region.free_spec hi hf) (by simpa using hr) (.inl ⟨by simp [Region.wanted, fr_yield hl hd hj hv], by rw [fr_eval n sl hl]; exact hy⟩) h
theorem L_val_g {i d j dj : Nat} {l : List Nat} {want : Bool} {op : Op} {ty : TypeId} {pos : String} {after : Array Edge} (u : Value) (hi : ops[i]? = some ⟨some d, op, ty, pos, after, some (j, want)⟩) (hl : inFr n sl = true)
    (hd : Nat.blt dj n = true) (hj : (ops[j]?).bind (·.dst) = some dj) (hv : look sl dj = .bool want)
    (hy : Gives P (Hbl v L) u (execOp (rho sl) ⟨some d, op, ty, pos, after, some (j, want)⟩)) (h : wpL P ops R l (fr n ((d, u) :: sl)) (Hbl v L)) : wpL P ops R (i :: l) (fr n sl) (Hbl v L) :=
  wpL_take hi (.inl ⟨by simp [Region.wanted, fr_yield hl hd hj hv], by rw [fr_eval n sl hl]; exact hy⟩) (Hbl.stays v L) h
theorem L_skip {i d j dj : Nat} {l : List Nat} {want : Bool} {op : Op} {ty : TypeId} {pos : String} {after : Array Edge} (hi : ops[i]? = some ⟨some d, op, ty, pos, after, some (j, want)⟩) (hl : inFr n sl = true)
    (hd : Nat.blt dj n = true) (hj : (ops[j]?).bind (·.dst) = some dj) (hv : look sl dj = .bool (!want))
    (h : wpL P ops R l (fr n ((d, undef) :: sl)) (Hbl v L)) : wpL P ops R (i :: l) (fr n sl) (Hbl v L) :=
  wpL_take hi (.inr ⟨by simp [Region.wanted, fr_yield hl hd hj hv], rfl⟩) (Hbl.stays v L) h
theorem L_end {L : List (Nat × TypeId × Array Value)} {a : Act} (h : ∀ w, Hbl v L w → R a w) : wpL P ops R [] a (Hbl v L) := h
theorem F_alloc {i d fuel : Nat} {listed : Array Bool} {t ty : TypeId} {pos : String} {after : Array Edge} (z : Value) (hi : ops[i]? = some ⟨some d, .alloc t, ty, pos, after, none⟩) (hl : inFr n sl = true) (hz : (P.info? t).map (·.zero) = some (some z))
    (cs : Array Value) (hc : z.cells = cs) (hs : L0.Sublist L) (h : ∀ g, wpF P .any ops late R (Hbl v L0) fuel (listed.setIfInBounds i true) (fr n ((d, .pointer (some ⟨g, 0, none⟩)) :: sl)) (Hbl v ((g, t, cs) :: L))) :
    ∀ w, Hbl v L w → wpOp P ops (Nrm R) i (fun a' w' => ∃ S', (i ∈ late ∨ Ext (Hbl v L0) S') ∧ S' w' ∧ wpF P .any ops late R (Hbl v L0) fuel (listed.setIfInBounds i true) a' S') (fr n sl) w := fun w hS => by
  refine wpOp_run hi rfl (.inl (by rw [fr_eval n sl hl]; exact run_alloc_exec z hz w)) ⟨_, .inr (Ext.of_sub (.cons _ hs)), ?_, h _⟩
  rw [hc]; exact hS.alloc _ _
theorem F_store {i fuel : Nat} {listed : Array Bool} {t ty ty' : TypeId} {x y : Operand} {pos : String} {after : Array Edge} (k g : Nat) (old cs : Array Value) (hi : ops[i]? = some ⟨none, .store ty x y, ty', pos, after, none⟩) (hl : inFr n sl = true)
    (hx : rho sl x = .pointer (some ⟨g, 0, none⟩)) (hy : rho sl y = .agg cs) (hk : L[k]? = some (g, t, old)) (hsz : (P.info? ty).map (·.size) = some cs.size) (ho : old.size = cs.size) (h1 : cs.all (·.oneCell') = true)
    (hs : i ∈ late ∨ L0.Sublist (L.set k (g, t, cs))) (h : wpF P .any ops late R (Hbl v L0) fuel (listed.setIfInBounds i true) (fr n sl) (Hbl v (L.set k (g, t, cs)))) :
    ∀ w, Hbl v L w → wpOp P ops (Nrm R) i (fun a' w' => ∃ S', (i ∈ late ∨ Ext (Hbl v L0) S') ∧ S' w' ∧ wpF P .any ops late R (Hbl v L0) fuel (listed.setIfInBounds i true) a' S') (fr n sl) w := fun w hS => by
  obtain ⟨w', hr, hb, hg⟩ := run_store_exec (P := P) (dst := none) (ty' := ty') (pos := pos) (after := after) (gd := none) g t old cs hx hy (hS.blk k hk) hsz ho h1
  exact wpOp_run hi rfl (.inr ⟨rfl, by rw [fr_eval n sl hl]; exact hr⟩) ⟨_, hs.imp id Ext.of_sub, hS.store k hk cs hb hg, h⟩
section
variable {fuel : Nat} {listed : Array Bool} {a : Act} {S0 S : World → Prop}
theorem flow_one (i : Nat) (hr : Region.ready .any ops listed = [i]) (h : ∀ w, S w → wpOp P ops (Nrm R) i (fun a' w' => ∃ S', (i ∈ late ∨ Ext S0 S') ∧ S' w' ∧ wpF P .any ops late R S0 fuel (listed.setIfInBounds i true) a' S') a w) : wpF P .any ops late R S0 (fuel + 1) listed a S :=
  flow_all hr (by simp) fun j hj => by simp at hj; subst hj; exact h
theorem flow_two (i i2 : Nat) (hr : Region.ready .any ops listed = [i, i2]) (h : ∀ w, S w → wpOp P ops (Nrm R) i (fun a' w' => ∃ S', (i ∈ late ∨ Ext S0 S') ∧ S' w' ∧ wpF P .any ops late R S0 fuel (listed.setIfInBounds i true) a' S') a w)
    (h2 : ∀ w, S w → wpOp P ops (Nrm R) i2 (fun a' w' => ∃ S', (i2 ∈ late ∨ Ext S0 S') ∧ S' w' ∧ wpF P .any ops late R S0 fuel (listed.setIfInBounds i2 true) a' S') a w) : wpF P .any ops late R S0 (fuel + 1) listed a S :=
  flow_all hr (by simp) fun j hj => by
    simp at hj
    rcases hj with rfl | rfl
    · exact h
    · exact h2
theorem flow_three (i i2 i3 : Nat) (hr : Region.ready .any ops listed = [i, i2, i3]) (h : ∀ w, S w → wpOp P ops (Nrm R) i (fun a' w' => ∃ S', (i ∈ late ∨ Ext S0 S') ∧ S' w' ∧ wpF P .any ops late R S0 fuel (listed.setIfInBounds i true) a' S') a w)
    (h2 : ∀ w, S w → wpOp P ops (Nrm R) i2 (fun a' w' => ∃ S', (i2 ∈ late ∨ Ext S0 S') ∧ S' w' ∧ wpF P .any ops late R S0 fuel (listed.setIfInBounds i2 true) a' S') a w)
    (h3 : ∀ w, S w → wpOp P ops (Nrm R) i3 (fun a' w' => ∃ S', (i3 ∈ late ∨ Ext S0 S') ∧ S' w' ∧ wpF P .any ops late R S0 fuel (listed.setIfInBounds i3 true) a' S') a w) : wpF P .any ops late R S0 (fuel + 1) listed a S :=
  flow_all hr (by simp) fun j hj => by
    simp at hj
    rcases hj with rfl | rfl | rfl
    · exact h
    · exact h2
    · exact h3
end
theorem run_load_cells {w : World} {ty t : TypeId} {g : Nat} {cs : Array Value} {d : TypeDesc} (hB : Blk w g t cs) (hu : P.underlying ty = some d) (hd : (match d with | .struct _ | .array _ _ => true | _ => false) = true) (hi : (P.info? ty).map (·.size) = some cs.size) :
    (loadVar ty ⟨g, 0, none⟩).run P w = .ok (.agg cs) w := by
  have hl : (loadCells ⟨g, 0, none⟩ cs.toList.length).run P w = .ok cs.toList.toArray w :=
    run_loadCells_list (P := P) w ⟨g, 0, none⟩ cs.toList (fun j u hv => by
      rw [add_plain, hB.cell, Nat.zero_add]
      simpa using hv)
  cases hq : P.info? ty with
  | none => simp [hq] at hi
  | some i =>
    have hsz : i.size = cs.size := by simpa [hq] using hi
    have hagg : (isAgg ty).run P w = .ok true w := by
      unfold isAgg
      rw [Sem.run_bind, run_underlying hu w]
      cases d <;> simp_all
    simp only [Array.length_toList, Array.toArray_toList] at hl
    simp [loadVar, Sem.run_bind, hagg, sizeOf, typeInfo, hq, hsz, hl]
section
variable {fn : Func} {E : Ending → World → Prop} {w : World}
theorem ret_cell {s g : Nat} {ty t : TypeId} {cs : Array Value} {d : TypeDesc} (hres : fn.results = #[.cell s ty]) (hl : inFr n sl = true) (hs : look sl s = .pointer (some ⟨g, 0, none⟩)) (hB : Blk w g t cs)
    (hu : P.underlying ty = some d) (hd : (match d with | .struct _ | .array _ _ => true | _ => false) = true) (hi : (P.info? ty).map (·.size) = some cs.size) (hE : E (.returned (.agg cs)) w) : bodyPost P fn E .ret (fr n sl) w := by
  refine bodyPost_ret (v := .agg cs) ?_ (fr_defers n sl) hE
  have h := run_load_cells (P := P) hB hu hd hi
  simp [results, hres, fr_at n sl hl, hs, asAddr, h]
theorem ret_tmp {s : Nat} {u : Value} (hres : fn.results = #[.tmp s]) (hl : inFr n sl = true) (hs : look sl s = u) (hE : E (.returned u) w) : bodyPost P fn E .ret (fr n sl) w := by
  refine bodyPost_ret (v := u) ?_ (fr_defers n sl) hE
  simp [results, hres, fr_at n sl hl, hs]
theorem ret_cell_tmp {s s' g : Nat} {ty t : TypeId} {cs : Array Value} {d : TypeDesc} {u : Value} (hres : fn.results = #[.cell s ty, .tmp s']) (hl : inFr n sl = true) (hs : look sl s = .pointer (some ⟨g, 0, none⟩)) (hs' : look sl s' = u) (hB : Blk w g t cs)
    (hu : P.underlying ty = some d) (hd : (match d with | .struct _ | .array _ _ => true | _ => false) = true) (hi : (P.info? ty).map (·.size) = some cs.size) (hE : E (.returned (.tuple #[.agg cs, u])) w) : bodyPost P fn E .ret (fr n sl) w := by
  refine bodyPost_ret (v := .tuple #[.agg cs, u]) ?_ (fr_defers n sl) hE
  have h := run_load_cells (P := P) hB hu hd hi
  simp [results, hres, fr_at n sl hl, hs, hs', asAddr, h]
end
end
end Go.Proofs.YtialfoccalobpaaDoor

/-! ## FlowL -/
namespace Go.Proofs.YtialfoccalobpaaDoor
set_option linter.unusedSimpArgs false
set_option linter.unusedVariables false
open Go.RowKit
/-! ### Loops -/
theorem loop_down {P : Program} {Q : Exit → Act → World → Prop} {c : Code} (I : Nat → Act → World → Prop)
    (round : ∀ r a w, I r a w → c.wp P (Exit.then (fun a' w' => ∃ r', r' < r ∧ I r' a' w') Q) a w) : ∀ r a w, I r a w → (Code.loop c).wp P Q a w := by
  intro r a w hI b k cs
  have key : ∀ r a w, I r a w → ∃ e a' w', Q e a' w' ∧ Arrives P (lone (b.at a (.code c :: .inLoop c :: k)) cs w) b k cs e a' w' := by
    intro n
    induction n using Nat.strongRecOn with
    | _ n ih =>
      intro a w hI
      obtain ⟨e, a₁, w₁, hq, harr⟩ := round n a w hI b (.inLoop c :: k) cs
      cases e with
      | normal =>
        obtain ⟨r', hlt, hI₁⟩ := hq
        obtain ⟨e₂, a₂, w₂, hq₂, harr₂⟩ := ih r' hlt a₁ w₁ hI₁
        exact ⟨e₂, a₂, w₂, hq₂, .of_steps (Steps.trans harr (.one step_inLoop)) harr₂⟩
      | exit id => exact ⟨_, a₁, w₁, hq, .pass (x := .inLoop c) rfl (fun _ _ => .inl (by simp)) harr⟩
      | goto l => exact ⟨_, a₁, w₁, hq, .pass (x := .inLoop c) rfl (fun _ _ => .inl (by simp)) harr⟩
      | ret => exact ⟨_, a₁, w₁, hq, .pass (x := .inLoop c) rfl (fun _ _ => .inl (by simp)) harr⟩
      | panic ch => exact ⟨_, a₁, w₁, hq, .pass (x := .inLoop c) rfl (fun _ _ => .inl (by simp)) harr⟩
      | outgrown => exact ⟨_, a₁, w₁, hq, .pass (x := .inLoop c) rfl (fun _ _ => .inl (by simp)) harr⟩
  obtain ⟨e, a', w', hq, harr⟩ := key r a w hI
  exact ⟨e, a', w', hq, .of_steps (.one step_loop) harr⟩
theorem fr_dup (n : Nat) (l : List (Nat × Value)) (d : Nat) (v : Value) (hl : inFr n l = true) (hd : Nat.blt d n = true) (h : look l d = v) : fr n ((d, v) :: l) = fr n l := by
  show (fr n l).put (some d) v = fr n l
  have h1 := fr_at n l hl d
  have hlt : d < (fr n l).tmps.size := by rw [fr_size]; exact blt_iff.1 hd
  rw [h] at h1
  generalize fr n l = a at h1 hlt
  obtain ⟨tm, df⟩ := a
  simp only at h1 hlt
  simp only [Array.getD, hlt, dif_pos] at h1
  simp only [Act.put]
  congr 1
  apply Array.ext_getElem?
  intro i
  rw [Array.getElem?_setIfInBounds]
  split
  · rename_i e
    subst e
    rw [← h1, Array.getElem?_eq_getElem hlt]
    rfl
  · rfl
section
variable {P : Program} {ops : Array Oper} {late : List Nat} {R : Act → World → Prop} {v : World} {L L0 : List (Nat × TypeId × Array Value)} {n : Nat} {sl : List (Nat × Value)} {S : World → Prop}
variable {l : List (Nat × Value)} {dst : Option Tmp} {t ct ty : TypeId} {x y : Operand} {pos : String} {after : Array Edge} {gd : Option (Nat × Bool)}
/-! ### Integers -/
theorem gives_add {k : IntKind} (a b c : Int) (hx : rho l x = .int k a) (hy : rho l y = .int k b) (h : k.wrap (a + b) = c) : Gives P S (.int k c) (execOp (rho l) ⟨dst, .binOp .add t x y ct, ty, pos, after, gd⟩) := gives_value _ fun w => by
  simp [execOp, hx, hy, eqGuard, binOp, Op.intArith, h]
theorem gives_sub {k : IntKind} (a b c : Int) (hx : rho l x = .int k a) (hy : rho l y = .int k b) (h : k.wrap (a - b) = c) : Gives P S (.int k c) (execOp (rho l) ⟨dst, .binOp .sub t x y ct, ty, pos, after, gd⟩) := gives_value _ fun w => by
  simp [execOp, hx, hy, eqGuard, binOp, Op.intArith, h]
theorem gives_mul {k : IntKind} (a b c : Int) (hx : rho l x = .int k a) (hy : rho l y = .int k b) (h : k.wrap (a * b) = c) : Gives P S (.int k c) (execOp (rho l) ⟨dst, .binOp .mul t x y ct, ty, pos, after, gd⟩) := gives_value _ fun w => by
  simp [execOp, hx, hy, eqGuard, binOp, Op.intArith, h]
theorem gives_quo {k : IntKind} (a b c : Int) (hx : rho l x = .int k a) (hy : rho l y = .int k b) (hb : b ≠ 0) (h : k.wrap (a.tdiv b) = c) : Gives P S (.int k c) (execOp (rho l) ⟨dst, .binOp .quo t x y ct, ty, pos, after, gd⟩) := gives_value _ fun w => by
  simp [execOp, hx, hy, eqGuard, binOp, Op.intDiv, hb, h]
theorem gives_rem {k : IntKind} (a b c : Int) (hx : rho l x = .int k a) (hy : rho l y = .int k b) (hb : b ≠ 0) (h : a.tmod b = c) : Gives P S (.int k c) (execOp (rho l) ⟨dst, .binOp .rem t x y ct, ty, pos, after, gd⟩) := gives_value _ fun w => by
  simp [execOp, hx, hy, eqGuard, binOp, Op.intDiv, hb, h]
theorem gives_lss {k : IntKind} (a b : Int) (r : Bool) (hx : rho l x = .int k a) (hy : rho l y = .int k b) (h : decide (a < b) = r) : Gives P S (.bool r) (execOp (rho l) ⟨dst, .binOp .lss t x y ct, ty, pos, after, gd⟩) := gives_value _ fun w => by
  subst h; simp [execOp, hx, hy, eqGuard, binOp, Op.intCmp]
theorem gives_leq {k : IntKind} (a b : Int) (r : Bool) (hx : rho l x = .int k a) (hy : rho l y = .int k b) (h : decide (a ≤ b) = r) : Gives P S (.bool r) (execOp (rho l) ⟨dst, .binOp .leq t x y ct, ty, pos, after, gd⟩) := gives_value _ fun w => by
  subst h; simp [execOp, hx, hy, eqGuard, binOp, Op.intCmp]
theorem gives_gtr {k : IntKind} (a b : Int) (r : Bool) (hx : rho l x = .int k a) (hy : rho l y = .int k b) (h : decide (b < a) = r) : Gives P S (.bool r) (execOp (rho l) ⟨dst, .binOp .gtr t x y ct, ty, pos, after, gd⟩) := gives_value _ fun w => by
  subst h; simp [execOp, hx, hy, eqGuard, binOp, Op.intCmp]
theorem gives_geq {k : IntKind} (a b : Int) (r : Bool) (hx : rho l x = .int k a) (hy : rho l y = .int k b) (h : decide (b ≤ a) = r) : Gives P S (.bool r) (execOp (rho l) ⟨dst, .binOp .geq t x y ct, ty, pos, after, gd⟩) := gives_value _ fun w => by
  subst h; simp [execOp, hx, hy, eqGuard, binOp, Op.intCmp]
theorem gives_ieq {k : IntKind} (a b : Int) (r : Bool) (hx : rho l x = .int k a) (hy : rho l y = .int k b) (h : decide (a = b) = r) : Gives P S (.bool r) (execOp (rho l) ⟨dst, .binOp .eql t x y ct, ty, pos, after, gd⟩) := gives_value _ fun w => by
  subst h
  have e : (a == b) = decide (a = b) := by by_cases h : a = b <;> simp [h]
  simp [execOp, hx, hy, eqGuard, binOp, Op.intCmp, e]
theorem gives_ine {k : IntKind} (a b : Int) (r : Bool) (hx : rho l x = .int k a) (hy : rho l y = .int k b) (h : decide (a ≠ b) = r) : Gives P S (.bool r) (execOp (rho l) ⟨dst, .binOp .neq t x y ct, ty, pos, after, gd⟩) := gives_value _ fun w => by
  subst h
  have e : (a != b) = decide (a ≠ b) := by by_cases h : a = b <;> simp [h]
  simp [execOp, hx, hy, eqGuard, binOp, Op.intCmp, e]
theorem gives_shl {k k2 : IntKind} (a b c : Int) (hx : rho l x = .int k a) (hy : rho l y = .int k2 b) (hb : 0 ≤ b) (h : k.wrap (a * 2 ^ (min b.toNat k.bits)) = c) : Gives P S (.int k c) (execOp (rho l) ⟨dst, .binOp .shl t x y ct, ty, pos, after, gd⟩) := gives_value _ fun w => by
  have hb' : ¬ b < 0 := by omega
  simp [execOp, hx, hy, eqGuard, binOp, Op.shift, hb', h]
theorem gives_shr {k k2 : IntKind} (a b c : Int) (hx : rho l x = .int k a) (hy : rho l y = .int k2 b) (hb : 0 ≤ b) (h : a.fdiv (2 ^ (min b.toNat k.bits)) = c) : Gives P S (.int k c) (execOp (rho l) ⟨dst, .binOp .shr t x y ct, ty, pos, after, gd⟩) := gives_value _ fun w => by
  have hb' : ¬ b < 0 := by omega
  simp [execOp, hx, hy, eqGuard, binOp, Op.shift, hb', h]
theorem gives_and {k : IntKind} (a b c : Int) (hx : rho l x = .int k a) (hy : rho l y = .int k b) (h : k.wrap (((a % 2 ^ k.bits).toNat &&& (b % 2 ^ k.bits).toNat : Nat) : Int) = c) : Gives P S (.int k c) (execOp (rho l) ⟨dst, .binOp .and t x y ct, ty, pos, after, gd⟩) := gives_value _ fun w => by
  simp only [execOp, hx, hy, eqGuard, binOp, Op.intBits]
  simp [h]
theorem gives_or {k : IntKind} (a b c : Int) (hx : rho l x = .int k a) (hy : rho l y = .int k b) (h : k.wrap (((a % 2 ^ k.bits).toNat ||| (b % 2 ^ k.bits).toNat : Nat) : Int) = c) : Gives P S (.int k c) (execOp (rho l) ⟨dst, .binOp .or t x y ct, ty, pos, after, gd⟩) := gives_value _ fun w => by
  simp only [execOp, hx, hy, eqGuard, binOp, Op.intBits]
  simp [h]
theorem gives_conv {k k2 : IntKind} {src dt : TypeId} {d1 : TypeDesc} (a c : Int) (hx : rho l x = .int k a) (hs : P.underlying src = some d1) (hd : P.underlying dt = some (.int k2)) (h : k2.wrap a = c) : Gives P S (.int k2 c) (execOp (rho l) ⟨dst, .convert src dt x, ty, pos, after, gd⟩) := gives_value _ fun w => by
  subst h
  cases d1 <;> simp [execOp, hx, convert, run_underlying hs, run_underlying hd, Conv.intToInt]
theorem gives_len {e : TypeId} (A : Option Addr) (m c : Nat) (ht : P.underlying t = some (.slice e)) (hx : rho l x = .slice A m c) : Gives P S (.int .i64 m) (execOp (rho l) ⟨dst, .call { callee := .builtin .len, args := #[x], argTypes := #[t] }, ty, pos, after, gd⟩) := gives_value _ fun w => by
  simp [execOp, resolve, invoke, builtin, hx, Builtin.len_, Builtin.lenOf, run_underlying ht, goInt]
/-! ### Elements of one cell -/
theorem gives_index {e : TypeId} {k : IntKind} (g o m c : Nat) (i : Int) (j : Nat) (hx : rho l x = .slice (some ⟨g, o, none⟩) m c) (hy : rho l y = .int k i) (ht : P.underlying t = some (.slice e)) (hs : (P.info? e).map (·.size) = some 1) (h0 : i = (j : Int)) (h1 : j < m) :
    Gives P S (.pointer (some ⟨g, o + j, none⟩)) (execOp (rho l) ⟨dst, .indexAddr t x y, ty, pos, after, gd⟩) := gives_value _ fun w => by
  subst h0
  obtain ⟨ie, he, hz⟩ := Option.map_eq_some_iff.1 hs
  simp [execOp, hx, hy, Instr.indexAt, run_underlying ht, asIntOf, sizeOf, typeInfo, he, hz, h1, add_plain]
theorem gives_load1 {k : IntKind} (g o : Nat) (e : TypeId) (cs : Array Value) (u : Value) (hx : rho l x = .pointer (some ⟨g, o, none⟩)) (hB : ∀ w, S w → Blk w g e cs) (hu : cs[o]? = some u) (ht : P.underlying t = some (.int k)) :
    Gives P S u (execOp (rho l) ⟨dst, .load t x, ty, pos, after, gd⟩) := fun w hS => by
  refine .inl ⟨w, ?_, Below.refl _ _⟩
  have hb := (hB w hS).cell o
  rw [hu] at hb
  simp [execOp, hx, Instr.loadAt, Instr.sureAddr, loadVar, isAgg, run_underlying ht, hb]
/-- A load of a cell that is as it was when the function was called. -/
theorem gives_load_old {k : IntKind} (p : Addr) (u : Value) (hx : rho l x = .pointer (some p)) (hB : ∀ w, S w → w.cell? p = some u) (ht : P.underlying t = some (.int k)) :
    Gives P S u (execOp (rho l) ⟨dst, .load t x, ty, pos, after, gd⟩) := fun w hS => by
  refine .inl ⟨w, ?_, Below.refl _ _⟩
  simp [execOp, hx, Instr.loadAt, Instr.sureAddr, loadVar, isAgg, run_underlying ht, hB w hS]
theorem gives_index_old {e : TypeId} {k : IntKind} (A : Option Addr) (m c : Nat) (i : Int) (j b o : Nat) (hA : A = some ⟨b, o, none⟩) (hx : rho l x = .slice A m c) (hy : rho l y = .int k i) (ht : P.underlying t = some (.slice e)) (hs : (P.info? e).map (·.size) = some 1) (h0 : i = (j : Int)) (h1 : j < m) :
    Gives P S (.pointer (some ⟨b, o + j, none⟩)) (execOp (rho l) ⟨dst, .indexAddr t x y, ty, pos, after, gd⟩) := by
  subst hA
  exact gives_index b o m c i j hx hy ht hs h0 h1
theorem run_store1_exec {w : World} (g o : Nat) (e : TypeId) (old : Array Value) (u : Value) (hx : rho l x = .pointer (some ⟨g, o, none⟩)) (hy : rho l y = u) (h1 : u.oneCell' = true) (hb : Blk w g e old) (hi : (P.info? t).map (·.size) = some 1) (ho : o < old.size) :
    ∃ w', (execOp (rho l) ⟨dst, .store t x y, ty, pos, after, gd⟩).run P w = .ok .skip w' ∧ Blk w' g e (old.setIfInBounds o u) ∧ w.grownBy w' (some g) := by
  have hc : u.cells = #[u] := by cases u <;> first | rfl | cases h1
  have h := run_storeCells_at (P := P) g o e [u] 0 old w hb (by simp; omega) (fun v hv => by simp at hv; subst hv; exact h1)
  obtain ⟨ie, he, hz⟩ := Option.map_eq_some_iff.1 hi
  have hcs : (old.toList.take (o + 0) ++ [u] ++ old.toList.drop (o + 0 + [u].length)).toArray = old.setIfInBounds o u := by
    apply Array.ext_getElem?
    intro j
    rw [Array.getElem?_setIfInBounds]
    simp only [Nat.add_zero, List.length_singleton, List.getElem?_toArray, List.append_assoc, List.singleton_append]
    rw [List.getElem?_append]
    simp only [List.length_take, Array.length_toList]
    rcases Nat.lt_trichotomy j o with h2 | h2 | h2
    · rw [if_pos (by omega), if_neg (by omega), List.getElem?_take, if_pos h2]; simp
    · subst h2
      rw [if_neg (by omega), if_pos rfl, if_pos ho, Nat.min_eq_left (by omega), Nat.sub_self]; rfl
    · rw [if_neg (by omega), if_neg (by omega), Nat.min_eq_left (by omega)]
      obtain ⟨q, rfl⟩ : ∃ q, j = o + 1 + q := ⟨j - o - 1, by omega⟩
      rw [show o + 1 + q - o = q + 1 by omega, List.getElem?_cons_succ, List.getElem?_drop]
      simp
  rw [hcs] at h
  refine ⟨w.setRow g (old.setIfInBounds o u), by simp [execOp, hx, hy, Instr.storeAt, Instr.sureAddr, storeVar, hc, sizeOf, typeInfo, he, hz, h], setRow_heap w g _ _ e _ hb, setRow_only _⟩
theorem L_store1 {i : Nat} {il : List Nat} (k g o : Nat) (e : TypeId) (old : Array Value) (u : Value) (hi : ops[i]? = some ⟨none, .store t x y, ty, pos, after, none⟩) (hl : inFr n sl = true)
    (hx : rho sl x = .pointer (some ⟨g, o, none⟩)) (hy : rho sl y = u) (h1 : u.oneCell' = true) (hk : L[k]? = some (g, e, old)) (hsz : (P.info? t).map (·.size) = some 1) (ho : o < old.size)
    (h : wpL P ops R il (fr n sl) (Hbl v (L.set k (g, e, old.setIfInBounds o u)))) : wpL P ops R (i :: il) (fr n sl) (Hbl v L) := fun w hS => by
  obtain ⟨w', hr, hb, hg⟩ := run_store1_exec (P := P) (dst := none) (ty := ty) (pos := pos) (after := after) (gd := none) g o e old u hx hy h1 (hS.blk k hk) hsz ho
  exact wpOp_run hi rfl (.inr ⟨rfl, by rw [fr_eval n sl hl]; exact hr⟩) ⟨_, Hbl.stays v _, hS.store k hk _ hb hg, h⟩
theorem F_store1 {i fuel : Nat} {listed : Array Bool} (k g o : Nat) (e : TypeId) (old : Array Value) (u : Value) (hi : ops[i]? = some ⟨none, .store t x y, ty, pos, after, none⟩) (hl : inFr n sl = true)
    (hx : rho sl x = .pointer (some ⟨g, o, none⟩)) (hy : rho sl y = u) (h1 : u.oneCell' = true) (hk : L[k]? = some (g, e, old)) (hsz : (P.info? t).map (·.size) = some 1) (ho : o < old.size)
    (hs : i ∈ late ∨ L0.Sublist (L.set k (g, e, old.setIfInBounds o u))) (h : wpF P .any ops late R (Hbl v L0) fuel (listed.setIfInBounds i true) (fr n sl) (Hbl v (L.set k (g, e, old.setIfInBounds o u)))) :
    ∀ w, Hbl v L w → wpOp P ops (Nrm R) i (fun a' w' => ∃ S', (i ∈ late ∨ Ext (Hbl v L0) S') ∧ S' w' ∧ wpF P .any ops late R (Hbl v L0) fuel (listed.setIfInBounds i true) a' S') (fr n sl) w := fun w hS => by
  obtain ⟨w', hr, hb, hg⟩ := run_store1_exec (P := P) (dst := none) (ty := ty) (pos := pos) (after := after) (gd := none) g o e old u hx hy h1 (hS.blk k hk) hsz ho
  exact wpOp_run hi rfl (.inr ⟨rfl, by rw [fr_eval n sl hl]; exact hr⟩) ⟨_, hs.imp id Ext.of_sub, hS.store k hk _ hb hg, h⟩
theorem L_make {i d : Nat} {il : List Nat} {e : TypeId} {y : Operand} (m : Nat) (z : Value) (bytes : Nat) {k k2 : IntKind} (hi : ops[i]? = some ⟨some d, .makeSlice t x y, ty, pos, after, none⟩) (hl : inFr n sl = true) (ht : P.underlying t = some (.slice e))
    (hinfo : (P.info? e).map (fun i => (i.zero, i.size, i.bytes)) = some (some z, 1, bytes)) (hz1 : z.cells = #[z]) (hx : rho sl x = .int k (m : Int)) (hy : rho sl y = .int k2 (m : Int)) (hbytes : bytes * m ≤ 281474976710656) (h63 : m ≤ 9223372036854775807)
    (h : ∀ g, wpL P ops R il (fr n ((d, .slice (some ⟨g, 0, none⟩) m m) :: sl)) (Hbl v ((g, e, Array.replicate m z) :: L))) : wpL P ops R (i :: il) (fr n sl) (Hbl v L) := fun w hS => by
  have hrun := run_make_row' (P := P) t e z bytes ht hinfo hz1 k k2 m hbytes h63 w
  rw [madeCells_one] at hrun
  refine wpOp_run (w' := w.alloc (.cells (Array.replicate m z) e)) hi rfl (.inl (by rw [fr_eval n sl hl]; simp only [execOp, hx, hy, Sem.run_bind, hrun, Result.andThen_ok, Sem.run_pure])) ⟨_, Hbl.stays v _, hS.alloc e (Array.replicate m z), h _⟩
/-- '[]T{u}' and '[]T{}'. -/
theorem L_build1 {i d : Nat} {il : List Nat} {e : TypeId} {p : Operand} (u z : Value) (hi : ops[i]? = some ⟨some d, .buildSlice t 1 #[(0, p)], ty, pos, after, none⟩) (hl : inFr n sl = true) (ht : P.underlying t = some (.slice e))
    (hinfo : (P.info? e).map (fun i => (i.zero, i.size)) = some (some z, 1)) (hz1 : z.cells = #[z]) (hx : rho sl p = u) (h1 : u.oneCell' = true)
    (h : ∀ g, wpL P ops R il (fr n ((d, .slice (some ⟨g, 0, none⟩) 1 1) :: sl)) (Hbl v ((g, e, #[u]) :: L))) : wpL P ops R (i :: il) (fr n sl) (Hbl v L) := fun w hS => by
  obtain ⟨ie, he, hz⟩ := Option.map_eq_some_iff.1 hinfo
  simp only [Prod.mk.injEq] at hz
  have hc : u.cells = #[u] := by cases u <;> first | rfl | cases h1
  have hrun : (Instr.buildSlice t 1 (#[(0, p)].map fun x => (x.1, rho sl x.2))).run P w = .ok (.slice (some ⟨w.heap.size, 0, none⟩) 1 1) (w.alloc (.cells #[u] e)) := by
    refine run_buildSlice w t e 1 _ #[u] ie z ht he hz.1 (by rw [hz.2]; decide) (by rw [hz.2]; decide) ?_
    rw [hz.2, hz1]
    simp only [Instr.fill, List.map_toArray, List.map_cons, List.map_nil, hx, hc]
    have e1 : (Array.range (1 * 1)).map (fun x => (#[z] : Array Value)[x % (#[z] : Array Value).size]!) = #[z] := by
      apply Array.ext
      · simp
      · intro i h1 h2
        obtain rfl : i = 0 := by simp at h2; omega
        simp
    rw [e1]
    simp
  refine wpOp_run (w' := w.alloc (.cells #[u] e)) hi rfl (.inl (by rw [fr_eval n sl hl]; simp only [execOp, Sem.run_bind]; rw [hrun]; rfl)) ⟨_, Hbl.stays v _, hS.alloc e #[u], h _⟩
theorem L_build0 {i d : Nat} {il : List Nat} {e : TypeId} (sz : Nat) (hi : ops[i]? = some ⟨some d, .buildSlice t 0 #[], ty, pos, after, none⟩) (hl : inFr n sl = true) (ht : P.underlying t = some (.slice e)) (hinfo : (P.info? e).map (·.size) = some sz)
    (h : ∀ g, wpL P ops R il (fr n ((d, .slice (some ⟨g, 0, none⟩) 0 0) :: sl)) (Hbl v ((g, e, #[]) :: L))) : wpL P ops R (i :: il) (fr n sl) (Hbl v L) := fun w hS => by
  obtain ⟨ie, he, hz⟩ := Option.map_eq_some_iff.1 hinfo
  have hrun : (Instr.buildSlice t 0 ((#[] : Array (Nat × Operand)).map fun x => (x.1, rho sl x.2))).run P w = .ok (.slice (some ⟨w.heap.size, 0, none⟩) 0 0) (w.alloc (.cells #[] e)) := by
    have e0 : ∀ f : Nat → Value, (Array.range 0).map f = #[] := fun f => Array.eq_empty_of_size_eq_zero (by simp)
    simp [Instr.buildSlice, run_underlying ht, sizeOf, typeInfo, zeroValue, he, Instr.fill, newRow, newObj]
    rw [e0]
    rfl
  refine wpOp_run (w' := w.alloc (.cells #[] e)) hi rfl (.inl (by rw [fr_eval n sl hl]; simp only [execOp, Sem.run_bind]; rw [hrun]; rfl)) ⟨_, Hbl.stays v _, hS.alloc e #[], h _⟩
/-- append of a slice of one's own, of one-cell elements, to another; the block of the longer one may be another. -/
theorem L_append {i d : Nat} {il : List Nat} {e : TypeId} (k k2 g g2 m cap c2 bytes : Nat) (z u : Value) (cs : Array Value) (hi : ops[i]? = some ⟨some d, .call { callee := .builtin .append, args := #[x, y], argTypes := #[t, t] }, ty, pos, after, none⟩) (hl : inFr n sl = true)
    (ht : P.underlying t = some (.slice e)) (hinfo : (P.info? e).map (fun i => (i.zero, i.size, i.bytes)) = some (some z, 1, bytes)) (hzs : z.cells.size = 1) (hx : rho sl x = .slice (some ⟨g, 0, none⟩) m cap) (hy : rho sl y = .slice (some ⟨g2, 0, none⟩) 1 c2)
    (hk : L[k]? = some (g, e, cs)) (hk2 : L[k2]? = some (g2, e, #[u])) (h1 : u.oneCell' = true) (hm : m ≤ cap) (hcs : cs.size = cap) (hcap : cap ≤ 9223372036854775807) (h63 : m + 1 ≤ 9223372036854775807) (hbytes : (m + 1) * bytes ≤ 140737488355328) (L' : List (Nat × TypeId × Array Value)) (hL : L.eraseIdx k = L')
    (h : ∀ g' cap' cs', m + 1 ≤ cap' → cs'.size = cap' → cap' ≤ 9223372036854775807 → cs'.toList.take (m + 1) = cs.toList.take m ++ [u] → wpL P ops R il (fr n ((d, .slice (some ⟨g', 0, none⟩) (m + 1) cap') :: sl)) (Hbl v ((g', e, cs') :: L'))) :
    wpL P ops R (i :: il) (fr n sl) (Hbl v L) := fun w hS => by
  subst hL
  have hB := hS.blk k hk
  have hB2 := hS.blk k2 hk2
  have hown : w.ownsRow v.heap.size e 1 (.slice (some ⟨g, 0, none⟩) m cap) m (cs.toList.take m) := hB.owns ((hS.2.1 _ (List.mem_of_getElem? hk)).2) hm hcs hcap
  have hr : Reads w w.heap.size (some ⟨g2, 0, none⟩) 1 [u] := by
    have := hB2.reads hB2.lt 0 1 (by simp)
    simpa using this
  obtain ⟨v', w', hrun, h2, h3, h4⟩ := run_append_reads (P := P) w v.heap.size t ty e z bytes ht hinfo hzs _ m _ hown w.heap.size (some ⟨g2, 0, none⟩) 1 c2 [u] hr (by simpa using h1) h63 hbytes hS.1.size
  obtain ⟨g', cap', cs', rfl, hg', hb', hc1, hc2, hc3, hc4⟩ := owns_blk h2 (by omega)
  have hkl : k < L.length := (List.getElem?_eq_some_iff.1 hk).1
  have hnd := hS.2.2
  have hmem : ∀ q ∈ L.eraseIdx k, q ∈ L ∧ q.1 ≠ g := fun q hq => by
    obtain ⟨j, hj, hjk, hjq⟩ := List.mem_eraseIdx_iff_getElem.1 hq
    refine ⟨hjq ▸ List.getElem_mem hj, fun e => hjk ?_⟩
    have e1 : (L.map (·.1))[j]? = (L.map (·.1))[k]? := by
      rw [List.getElem?_map, List.getElem?_map, hk, List.getElem?_eq_getElem hj, hjq]; simp [e]
    exact (List.getElem?_inj (by simpa using hj) hnd).1 e1
  have hnew : g' = g ∨ g' = w.heap.size := by
    rcases h4 with e | e
    · left; simpa [Value.ownBlock] using e
    · right; simpa [Value.ownBlock] using e
  refine wpOp_run (w' := w') hi rfl (.inl (by rw [fr_eval n sl hl]; simp [execOp, resolve, invoke, builtin, hx, hy, hrun])) ⟨_, Hbl.stays v _, ?_, h g' cap' cs' hc1 hc2 hc4 hc3⟩
  refine ⟨hS.1.grown h3 hS.1.size (fun i hi => by cases hi; exact (hS.2.1 _ (List.mem_of_getElem? hk)).2), fun q hq => ?_, ?_⟩
  · rcases List.mem_cons.1 hq with rfl | hq
    · exact ⟨hb', hg'⟩
    · obtain ⟨h5, h6⟩ := hmem q hq
      exact ⟨(hS.2.1 q h5).1.grown h3 (by simp [Value.ownBlock]; exact h6), (hS.2.1 q h5).2⟩
  · simp only [List.map_cons, List.nodup_cons]
    refine ⟨fun hm => ?_, ((List.eraseIdx_sublist L k).map _).nodup hnd⟩
    obtain ⟨q, hq, he⟩ := List.mem_map.1 hm
    obtain ⟨h5, h6⟩ := hmem q hq
    rcases hnew with e | e
    · exact h6 (he.trans e)
    · have := (hS.2.1 q h5).1.lt
      omega
end
end Go.Proofs.YtialfoccalobpaaDoor
