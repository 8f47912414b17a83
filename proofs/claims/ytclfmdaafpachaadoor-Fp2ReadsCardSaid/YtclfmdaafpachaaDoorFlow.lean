/-
  Functions whose operations only compute, call and fill variables of their own: regions in whatever order, the world forgotten but for the blocks that are the function's own.
-/
import Derived.Test.YtclfmdaafpachaaDoorMemB
namespace Go.Proofs.YtclfmdaafpachaaDoor
set_option linter.unusedSimpArgs false
set_option linter.unusedVariables false
open Go.RowKit

/-- What stays true while memory only grows. -/
def Stays (S : World → Prop) : Prop := ∀ w w', S w → Below w.heap.size w w' → S w'
def Ext (S0 S : World → Prop) : Prop := (∀ w, S w → S0 w) ∧ Stays S
/-- In every world that meets S the operation leaves v, and memory only grows. -/
def Gives (P : Program) (S : World → Prop) (v : Value) (x : Sem Next) : Prop :=
  ∀ w, S w → (∃ w', x.run P w = .ok (.value v) w' ∧ Below w.heap.size w w') ∨
    (∃ f args, x.run P w = .ok (.enter f args) w ∧ Calls P f args w fun e w' => e = .returned v ∧ Below w.heap.size w w')
def Tame (P : Program) (ops : Array Oper) (S : World → Prop) (o : Oper) (v : Value) (a : Act) : Prop :=
  (Region.wanted o (yielded ops a.tmps) = true ∧ Gives P S v (execOp a.eval o)) ∨ (Region.wanted o (yielded ops a.tmps) = false ∧ v = undef)
/-- The post of a piece that goes on below. -/
def Nrm (R : Act → World → Prop) : Exit → Act → World → Prop
  | .normal, a, w => R a w
  | _, _, _ => False

section
variable {P : Program} {ops : Array Oper} {md : Region.Mode} {late : List Nat} {R : Act → World → Prop} {S0 S : World → Prop}
theorem Gives.wp {o : Oper} {v : Value} {a : Act} {w : World} {K : Act → World → Prop} {Q : Exit → Act → World → Prop} (h : Gives P S v (execOp a.eval o)) (hS : S w)
    (hK : ∀ w', Below w.heap.size w w' → K (a.put o.dst v) w') : o.wp P a w K Q := by
  unfold Oper.wp
  rcases h w hS with ⟨w', hr, hb⟩ | ⟨f, args, hr, hc⟩
  · rw [hr]; exact hK w' hb
  · rw [hr]
    refine Calls.mono hc fun e w' he => ?_
    obtain ⟨rfl, hb⟩ := he
    exact hK w' hb
theorem Tame.wpOp {Q : Exit → Act → World → Prop} {i : Nat} {o : Oper} {v : Value} {a : Act} (hi : ops[i]? = some o) (hy : Tame P ops S o v a) {K : Act → World → Prop} {w : World} (hS : S w)
    (hK : ∀ w', Below w.heap.size w w' → K (a.put o.dst v) w') : Go.wpOp P ops Q i K a w := by
  unfold Go.wpOp
  simp only [hi]
  rcases hy with ⟨hw, hv⟩ | ⟨hw, rfl⟩
  · simp only [hw, if_true]; exact .inl (hv.wp hS hK)
  · simp only [hw, Bool.false_eq_true, if_false]; exact hK w (Below.refl _ _)
theorem Tame.of_same {o : Oper} {v : Value} {a a' : Act} (hy : Tame P ops S o v a) (he : execOp a'.eval o = execOp a.eval o)
    (hw : Region.wanted o (yielded ops a'.tmps) = Region.wanted o (yielded ops a.tmps)) : Tame P ops S o v a' := by
  unfold Tame at *
  rw [he, hw]
  exact hy
theorem wpOp_putT {j : Nat} {oi oj : Oper} {v : Value} (hj : ops[j]? = some oj) (hap : oi.apart ops oj = true)
    (hsi : ∀ cs b, oi.op ≠ .select cs b) (hsj : ∀ cs b, oj.op ≠ .select cs b) {K : Act → World → Prop} {a : Act} {w : World}
    (hy : Tame P ops S oi v a) (h : wpOp P ops (Nrm R) j K (a.put oi.dst v) w) :
    wpOp P ops (Nrm R) j (fun a' w' => Tame P ops S oi v a' ∧ K (a'.put oi.dst v) w') a w := by
  obtain ⟨h1, h2, h3⟩ := Oper.apart_spec hap
  have keep : ∀ (a : Act), Tame P ops S oi v a → ∀ u, Tame P ops S oi v (a.put oj.dst u) := fun a hy u =>
    hy.of_same (execOp_put oi hsi a oj.dst u h3) (wanted_put oi a oj.dst u h3)
  have keepD : ∀ d, Tame P ops S oi v { a with defers := d :: a.defers } := fun d => hy.of_same rfl rfl
  unfold wpOp at *
  simp only [hj] at *
  rw [wanted_put oj a oi.dst v h1] at h
  split
  · rename_i hw
    simp only [hw, if_true] at h
    rcases h with h | ⟨hasks, hlets⟩
    case inr => exact .inr ⟨by unfold Oper.asks at *; rw [execOp_put oj hsj a oi.dst v h1] at hasks; exact hasks, hlets⟩
    refine .inl ?_
    unfold Oper.wp at *
    rw [execOp_put oj hsj a oi.dst v h1] at h
    generalize (execOp a.eval oj).run P w = r at *
    cases r with
    | ok n w' =>
      cases n <;> simp only [Oper.upon] at h ⊢
      case value u => exact ⟨keep a hy u, by rw [← Act.put_comm a v u h2]; exact h⟩
      case skip => exact ⟨keep a hy _, by rw [← Act.put_comm a v undef h2]; exact h⟩
      case defer d =>
        refine ⟨keep _ (keepD d) _, ?_⟩
        rw [← Act.put_comm _ v undef h2, ← Act.put_defers]
        exact h
      case enter f args =>
        refine Calls.mono h fun e w'' he => ?_
        cases e with
        | returned u => exact ⟨keep a hy u, by rw [← Act.put_comm a v u h2]; exact he⟩
        | panicked c => exact he
        | outgrown => exact he
      case row row args => exact Rows.mono h fun u w'' he => ⟨keep a hy u, by rw [← Act.put_comm a v u h2]; exact he⟩
    | halt x w' =>
      cases x <;> simp only [Oper.upon] at h ⊢
      case panic u => exact h
  · rename_i hw
    simp only [hw] at h
    exact ⟨keep a hy _, by rw [← Act.put_comm a v undef h2]; exact h⟩

/-- Whatever comes up next, from a state and in every world that meets S. -/
def wpF (P : Program) (md : Region.Mode) (ops : Array Oper) (late : List Nat) (R : Act → World → Prop) (S0 : World → Prop) : Nat → Array Bool → Act → (World → Prop) → Prop
  | 0, listed, a, S => Region.ready md ops listed = [] ∧ ∀ w, S w → R a w
  | fuel + 1, listed, a, S =>
    (Region.ready md ops listed = [] → ∀ w, S w → R a w) ∧
    ∀ i ∈ Region.ready md ops listed, ∀ w, S w → wpOp P ops (Nrm R) i (fun a' w' => ∃ S', (i ∈ late ∨ Ext S0 S') ∧ S' w' ∧ wpF P md ops late R S0 fuel (listed.setIfInBounds i true) a' S') a w
theorem wpAny_of_flow : ∀ (fuel : Nat) (listed : Array Bool) (a : Act) (S : World → Prop) (w : World), S w → wpF P md ops late R S0 fuel listed a S → wpAny P md ops (Nrm R) fuel listed a w
  | 0, _, _, _, w, hS, h => ⟨h.1, h.2 w hS⟩
  | fuel + 1, _, _, _, w, hS, h => ⟨fun h0 => h.1 h0 w hS, fun i hi => wpOp_mono (fun a' w' ⟨S', _, h', h2⟩ => wpAny_of_flow fuel _ a' S' w' h' h2) (h.2 i hi w hS)⟩
/-- Each late operation waits for number i. -/
def lateOk (md : Region.Mode) (ops : Array Oper) (late : List Nat) (i : Nat) : Bool :=
  late.all fun j => match ops[j]? with
    | some oj => oj.after.any fun e => Region.binds md e && Nat.beq e.on i
    | none => false
theorem wpF_first {i : Nat} {oi : Oper} {v : Value} (hi : ops[i]? = some oi) (hsel : ∀ (j : Nat) (o : Oper) cs b, ops[j]? = some o → o.op ≠ .select cs b) :
    ∀ (fuel : Nat) (listed : Array Bool) (a : Act) (S : World → Prop), lateOk md ops late i = true → Ext S0 S →
      (∀ j oj, ops[j]? = some oj → j ≠ i → listed.getD j true = false → (∀ e ∈ oj.after, Region.binds md e = true → e.on ≠ i) → oi.apart ops oj = true) →
      i ∈ Region.ready md ops listed → Tame P ops S0 oi v a →
      wpF P md ops late R S0 fuel (listed.setIfInBounds i true) (a.put oi.dst v) S → wpF P md ops late R S0 (fuel + 1) listed a S := by
  intro fuel
  induction fuel with
  | zero =>
    intro listed a S hL hE _ hr hy H
    refine ⟨fun h => (by rw [h] at hr; cases hr), fun j hj w hS => ?_⟩
    by_cases hji : j = i
    · subst hji; exact hy.wpOp hi (hE.1 w hS) fun w' hb => ⟨S, .inr hE, hE.2 w w' hS hb, H⟩
    · have := ready_mono hj hji
      rw [H.1] at this
      cases this
  | succ fuel ih =>
    intro listed a S hL hE hfree hr hy H
    refine ⟨fun h => (by rw [h] at hr; cases hr), fun j hj w hS => ?_⟩
    by_cases hji : j = i
    · subst hji; exact hy.wpOp hi (hE.1 w hS) fun w' hb => ⟨S, .inr hE, hE.2 w w' hS hb, H⟩
    · have h1 := H.2 j (ready_mono hj hji) w hS
      obtain ⟨hjun, oj, hoj, hall⟩ := mem_ready.1 hj
      have hnot : ∀ e ∈ oj.after, Region.binds md e = true → e.on ≠ i := fun e he hb heq => by
        have h1 := hall e he hb
        have h0 := (mem_ready.1 hr).1
        rw [heq] at h1
        rcases Nat.lt_or_ge i listed.size with h' | h'
        · simp [h'] at h0 h1; rw [h0] at h1; cases h1
        · simp [Array.getElem?_eq_none h'] at h1
      have hjl : j ∉ late := fun hm => by
        have h1 := List.all_eq_true.1 hL j hm
        rw [hoj] at h1
        obtain ⟨e, he, hb⟩ := Array.any_eq_true'.1 h1
        simp only [Bool.and_eq_true] at hb
        exact hnot e he hb.1 (Nat.eq_of_beq_eq_true hb.2)
      have h2 := wpOp_putT hoj (hfree j oj hoj hji hjun hnot) (fun cs b => hsel i oi cs b hi) (fun cs b => hsel j oj cs b hoj) hy h1
      have hfree' : ∀ k ok, ops[k]? = some ok → k ≠ i → (listed.setIfInBounds j true).getD k true = false →
          (∀ e ∈ ok.after, Region.binds md e = true → e.on ≠ i) → oi.apart ops ok = true := fun k ok hk hki hun hno => by
        refine hfree k ok hk hki ?_ hno
        by_cases hjk : j = k
        · subst hjk; exact hjun
        · rw [getD_set_ne true hjk] at hun; exact hun
      refine wpOp_mono (fun a' w' ⟨h3, S', hE', hS', h4⟩ => ⟨S', .inr (hE'.resolve_left hjl), hS', ih (listed.setIfInBounds j true) a' S' hL (hE'.resolve_left hjl) hfree' (ready_mono hr (Ne.symm hji)) h3 ?_⟩) h2
      rw [Array.setIfInBounds_comm _ _ hji]
      exact h4
theorem region_flow {id : Nat} {a : Act} {w : World} {Q : Exit → Act → World → Prop} (hm : P.follows .mixedOrders = true) (S : World → Prop) (hS : S w.drew)
    (h : wpF P .any ops late R S0 ops.size (Array.replicate ops.size false) a S) (hR : ∀ a' w', R a' w' → Q .normal a' w') : (Code.region id ops true).wp P Q a w := by
  refine wp_mono (Q := Nrm R) (wp_region_any hm (wpAny_of_flow _ _ _ S _ hS h)) fun e a' w' he => ?_
  cases e <;> first | exact hR _ _ he | exact he.elim
/-- The same for a region whose order is the text's. -/
def wpL (P : Program) (ops : Array Oper) (R : Act → World → Prop) : List Nat → Act → (World → Prop) → Prop
  | [], a, S => ∀ w, S w → R a w
  | i :: l, a, S => ∀ w, S w → wpOp P ops (Nrm R) i (fun a' w' => ∃ S', Stays S' ∧ S' w' ∧ wpL P ops R l a' S') a w
theorem wpOps_of_flow : ∀ (l : List Nat) (a : Act) (S : World → Prop) (w : World), S w → wpL P ops R l a S → wpOps P ops (Nrm R) l a w
  | [], _, _, w, hS, h => h w hS
  | i :: l, _, _, w, hS, h => by
    rw [wpOps_cons]
    exact wpOp_mono (fun a' w' ⟨S', _, h', h2⟩ => wpOps_of_flow l a' S' w' h' h2) (h w hS)
theorem region_plain {id : Nat} {a : Act} {w : World} {Q : Exit → Act → World → Prop} (S : World → Prop) (hS : S w)
    (h : wpL P ops R (List.range ops.size) a S) (hR : ∀ a' w', R a' w' → Q .normal a' w') : (Code.region id ops false).wp P Q a w := by
  refine wp_mono (Q := Nrm R) (wp_region (wpOps_of_flow _ _ S _ hS h)) fun e a' w' he => ?_
  cases e <;> first | exact hR _ _ he | exact he.elim
theorem wpL_take {i : Nat} {l : List Nat} {oi : Oper} {v : Value} {a : Act} (hi : ops[i]? = some oi) (hy : Tame P ops S oi v a) (hE : Stays S) (h : wpL P ops R l (a.put oi.dst v) S) : wpL P ops R (i :: l) a S :=
  fun _ hS => hy.wpOp hi hS fun w' hb => ⟨S, hE, hE _ w' hS hb, h⟩
end
end Go.Proofs.YtclfmdaafpachaaDoor
