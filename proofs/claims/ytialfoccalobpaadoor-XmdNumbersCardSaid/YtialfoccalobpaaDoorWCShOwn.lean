/-
  Slices of the call's own that grow; the reference's Primes.
-/
import Derived.Test.YtialfoccalobpaaDoorWCShOf
import Derived.Test.YtialfoccalobpaaDoorWCA0
namespace Go.Proofs.YtialfoccalobpaaDoor
open Go.RowKit
/-- A slice of the call's own, one cell an element. -/
def Own (w : World) (B : Nat) (e : TypeId) (v : Value) (xs : List Value) : Prop := w.ownsRow B e 1 v xs.length xs
section
variable {w w' : World} {B : Nat} {e : TypeId} {v : Value} {xs : List Value}
theorem Own.form (h : Own w B e v xs) : ∃ A c, v = .slice A xs.length c ∧ xs.length ≤ c ∧ ∀ B', w.heap.size ≤ B' → Reads w B' A xs.length xs := by
  rcases h.2 with ⟨hv, h0⟩ | ⟨g, cap, cur, hv, hb, hg, hnc, hm, hs, ht⟩
  · exact ⟨none, 0, by rw [h0]; exact hv, by omega, fun B' _ => ⟨rfl, fun hp => by omega⟩⟩
  · refine ⟨_, _, hv, hnc, fun B' hB => ⟨rfl, fun _ => ⟨g, 0, rfl, ?_, fun j u hu => ?_⟩⟩⟩
    · have : g < w.heap.size := by
        rcases Nat.lt_or_ge g w.heap.size with h1 | h1
        · exact h1
        · rw [Array.getElem?_eq_none h1] at hg; cases hg
      omega
    · have hj : j < xs.length := by
        rcases Nat.lt_or_ge j xs.length with h1 | h1
        · exact h1
        · rw [List.getElem?_eq_none h1] at hu; cases hu
      rw [Nat.zero_add, cell_of_row w g j _ e (0, 0) hg, ← hu, ← ht]
      simp [hj]
theorem Own.keep (h : Own w B e v xs) (hb : Below w.heap.size w w') : Own w' B e v xs := by
  refine ⟨h.1, ?_⟩
  rcases h.2 with h | ⟨g, cap, cur, hv, hB, hg, hr⟩
  · exact .inl h
  · have : g < w.heap.size := by
      rcases Nat.lt_or_ge g w.heap.size with h1 | h1
      · exact h1
      · rw [Array.getElem?_eq_none h1] at hg; cases hg
    exact .inr ⟨g, cap, cur, hv, hB, (hb.block g this).trans hg, hr⟩
theorem Own.lt (h : Own w B e v xs) {g : Nat} (hg : v.ownBlock = some g) : B ≤ g ∧ g < w.heap.size := by
  rcases h.2 with ⟨rfl, _⟩ | ⟨g', cap, cur, rfl, hb, hr, _⟩
  · cases hg
  · have : g' < w.heap.size := by
      rcases Nat.lt_or_ge g' w.heap.size with h1 | h1
      · exact h1
      · rw [Array.getElem?_eq_none h1] at hr; cases hr
    simp only [Value.ownBlock, Option.some.injEq] at hg
    subst hg
    exact ⟨hb, this⟩
theorem Own.mono {B' : Nat} (h : Own w B e v xs) (hb : B' ≤ B) : Own w B' e v xs :=
  ⟨h.1, h.2.imp id fun ⟨g, cap, cur, hv, hB, hr⟩ => ⟨g, cap, cur, hv, by omega, hr⟩⟩
theorem Own.of_blk {g : Nat} {cs : Array Value} (h : Blk w g e cs) (hb : B ≤ g) (hm : cs.size ≤ 9223372036854775807) : Own w B e (.slice (some ⟨g, 0, none⟩) cs.size cs.size) cs.toList := by
  have := h.owns (base := B) (n := cs.size) (cap := cs.size) hb (Nat.le_refl _) rfl hm
  rw [List.take_of_length_le (by simp)] at this
  exact this
theorem Own.below {B0 : Nat} {a : World} (h : Own w B e v xs) (hB : B0 ≤ B) (hb : Below B0 a w) (hs : B0 ≤ w.heap.size) (hg : w.grownBy w' v.ownBlock) : Below B0 a w' :=
  hb.grown hg hs fun k hk => by have := (h.lt hk).1; omega
end
section
variable {P : Program}
theorem wpList_push {ops : Array Oper} {rest : List Oper} {dst : Option Tmp} {s x : Operand} {t ty : TypeId} {pos : String} {after : Array Edge} {a : Act} {w : World} {Q : Exit → Act → World → Prop}
    (B : Nat) (e : TypeId) (z : Value) (bytes : Nat) (ht : P.underlying t = some (.slice e)) (hinfo : (P.info? e).map (fun i => (i.zero, i.size, i.bytes)) = some (some z, 1, bytes)) (hzs : z.cells.size = 1)
    (v : Value) (xs : List Value) (hown : Own w B e v xs) (B1 : Nat) (A : Option Addr) (m c : Nat) (news : List Value) (hr : Reads w B1 A m news) (h1 : ∀ u ∈ news, u.oneCell' = true)
    (h63 : xs.length + m ≤ 9223372036854775807) (hbytes : (xs.length + m) * bytes ≤ 140737488355328) (hbase : B ≤ w.heap.size) (hs : a.eval s = v) (hx : a.eval x = .slice A m c)
    (h : ∀ v' w', Hid (Own w' B e v' (xs ++ news)) → Hid (w.grownBy w' v.ownBlock) → Hid (v'.ownBlock = v.ownBlock ∨ v'.ownBlock = some w.heap.size) → wpList P ops Q rest (a.put dst v') w') :
    wpList P ops Q (⟨dst, .call { callee := .builtin .append, args := #[s, x], argTypes := #[t, t] }, ty, pos, after, none⟩ :: rest) a w :=
  wpList_append_at B e z bytes ht hinfo hzs v xs.length xs hown B1 A m c news hr h1 h63 hbytes hbase hs hx fun v' w' h2 h3 h4 =>
    h v' w' (show w'.ownsRow B e 1 v' (xs ++ news).length (xs ++ news) by rw [List.length_append, hr.1]; exact h2.out) h3 h4
end
theorem Blk.readsFull {w : World} {g B n : Nat} {t : TypeId} {cs : Array Value} {vs : List Value} (h : Blk w g t cs) (hg : g < B) (hv : cs.toList.take n = vs) (hn : n ≤ cs.size) : Reads w B (some ⟨g, 0, none⟩) n vs := by
  refine ⟨by rw [← hv]; simp; omega, fun _ => ⟨g, 0, rfl, hg, fun j u hu => ?_⟩⟩
  rw [Nat.zero_add, h.cell]
  rw [← hv, List.getElem?_take] at hu
  split at hu
  · simpa using hu
  · cases hu

theorem u64_info : (Tryd.prog.info? 32).map (fun i => (i.zero, i.size, i.bytes)) = some (some (.int .u64 0), 1, 8) := by kernel_rfl
/-- The primes among 2 .. k + 1. -/
def sv : Nat → List Int
  | 0 => []
  | k + 1 => if (sv k).all (fun q => !decide (((k : Int) + 2) % q = 0)) = true then sv k ++ [(k : Int) + 2] else sv k
theorem sv_len (k : Nat) : (sv k).length ≤ (sv (k + 1)).length := by
  simp only [sv]
  split
  · simp
  · exact Nat.le_refl _
theorem sv_mono (k j : Nat) : (sv k).length ≤ (sv (k + j)).length := by
  induction j with
  | zero => exact Nat.le_refl _
  | succ j ih => exact Nat.le_trans ih (sv_len _)
theorem sv_309 : (sv 309).length = 63 := by decide +kernel
theorem sv_310 : (sv 310).length = 64 := by decide +kernel
theorem sv_ge (k : Nat) : ∀ q ∈ sv k, 2 ≤ q ∧ q ≤ (k : Int) + 1 := by
  induction k with
  | zero => intro q hq; simp [sv] at hq
  | succ k ih =>
    intro q hq
    simp only [sv] at hq
    split at hq
    · rcases List.mem_append.1 hq with h | h
      · have := ih q h; omega
      · simp at h; omega
    · have := ih q hq; omega
set_option maxRecDepth 100000 in
set_option maxHeartbeats 1000000 in
theorem primes_any (w : World) : Calls Tryd.prog 63 #[.int .i64 64] w fun e w' => ∃ v, e = .returned v ∧ Own w' w.heap.size 32 v ((sv 310).map (Value.int .u64)) ∧ Below w.heap.size w w' := by
  go_enter Tryd.func63, Tryd.ntmps63
  go_wp2_with fail
  have hO : Own (w.alloc (.cells #[] 32)) w.heap.size 32 (.slice (some ⟨w.heap.size, 0, none⟩) 0 0) ((sv 0).map (Value.int .u64)) := Own.of_blk (Blk.new w 32 #[]) (Nat.le_refl _) (by simp)
  have HO := Lib.hid hO
  clear hO
  go_loopw [3, 4] (fun o x wr => ∃ k : Nat, k ≤ 310 ∧ x = .int .u64 ((k : Int) + 2) ∧ Own wr w.heap.size 32 o ((sv k).map (Value.int .u64)) ∧ Below w.heap.size w wr) (fun _ x _ => 400 - (intOf x).toNat)
  case atStart => exact ⟨0, by omega, rfl, HO.out, (Below.refl _ _).alloc (Nat.le_refl _) _⟩
  case round =>
    obtain ⟨k, hk, rfl, hO, hb⟩ := hrel
    obtain ⟨A, c, rfl, hc, hrd⟩ := hO.form
    have hge := sv_ge k
    have h64 : (sv k).length ≤ 64 := by have := sv_mono k (310 - k); rw [show k + (310 - k) = 310 by omega, sv_310] at this; exact this
    have hnxt : sv (k + 1) = if (sv k).all (fun q => !decide (((k : Int) + 2) % q = 0)) = true then sv k ++ [(k : Int) + 2] else sv k := rfl
    have hend : ¬ (sv k).length < 64 → k = 310 := fun h => by
      rcases Nat.lt_or_ge k 310 with h1 | h1
      · have := sv_mono k (309 - k)
        rw [show k + (309 - k) = 309 by omega, sv_309] at this
        omega
      · omega
    have hlt310 : (sv k).length < 64 → k < 310 := fun h => by
      rcases Nat.lt_or_ge k 310 with h1 | h1
      · exact h1
      · obtain rfl : k = 310 := by omega
        rw [sv_310] at h
        omega
    rw [List.length_map] at hO hc hrd ⊢
    obtain ⟨xs, hxs⟩ : ∃ xs, xs = sv k := ⟨_, rfl⟩
    rw [← hxs] at hO hge h64 hc hrd hnxt hend hlt310 ⊢
    obtain ⟨n, hn⟩ : ∃ n, n = xs.length := ⟨_, rfl⟩
    rw [← hn] at hO hc hrd h64 hend hlt310 ⊢
    have HO2 := Lib.hid hO
    have HRD := Lib.hid (hrd _ (Nat.le_refl _))
    have HGE := Lib.hid hge
    have HXS := Lib.hid hxs
    have HN := Lib.hid hn
    have HB := Lib.hid hb
    have HNX := Lib.hid hnxt
    have HE := Lib.hid hend
    have HL := Lib.hid hlt310
    clear hO hrd hge hxs hn hb HO hnxt hend hlt310
    by_cases hlt : n < 64
    · have i1 : (n : Int) < 64 := by omega
      have j1 : decide ((n : Int) < 64) = true := by simpa using i1
      go_wp2_with fail
      go_loopw [5, 6, 16] (fun f _ i wr2 => ∃ j : Nat, j ≤ n ∧ i = .int .i64 (j : Int) ∧ f = .bool ((xs.take j).all (fun q => !decide (((k : Int) + 2) % q = 0))) ∧ wr = wr2) (fun _ _ i _ => n - (intOf i).toNat)
      case atStart => exact ⟨0, Nat.zero_le _, rfl, rfl, rfl⟩
      case round =>
        obtain ⟨j, hj, rfl, rfl, rfl⟩ := hrel
        by_cases hjn : j < n
        · obtain ⟨b0, o0, rfl, hb0, hc0⟩ : ∃ b o, A = some ⟨b, o, none⟩ ∧ b < wr.heap.size ∧ wr.cell? ⟨b, o + j, none⟩ = some (.int .u64 (gt xs j)) := by
            obtain ⟨b, o, e, hb, hc⟩ := HRD.out.2 (by omega)
            have hl : j < xs.length := by rw [← HN.out]; exact hjn
            exact ⟨b, o, e, hb, hc j _ (by rw [gt_eq hl]; simp [hl])⟩
          have hq2 := HGE.out (gt xs j) (by rw [gt_eq (by rw [← HN.out]; exact hjn)]; exact List.getElem_mem _)
          obtain ⟨F, hF⟩ : ∃ F, F = (xs.take j).all (fun q => !decide (((k : Int) + 2) % q = 0)) := ⟨_, rfl⟩
          have hF2 : (xs.take (j + 1)).all (fun q => !decide (((k : Int) + 2) % q = 0)) = (F && !decide (((k : Int) + 2) % gt xs j = 0)) := by
            rw [take_snoc xs j (by rw [← HN.out]; exact hjn), List.all_append, ← hF]
            simp
          rw [← hF]
          have HF := Lib.hid hF2
          clear hF hF2
          obtain ⟨q, hq⟩ : ∃ q, q = gt xs j := ⟨_, rfl⟩
          rw [← hq] at hq2 hc0 HF
          clear hq
          obtain ⟨q1, q2⟩ := hq2
          have q3 : q ≠ 0 := by omega
          have i2 : (j : Int) < n := by omega
          have j2 : decide ((j : Int) < (n : Int)) = true := by simpa using i2
          by_cases hz : ((k : Int) + 2) % q = 0
          · go_wp2_with fail
            exact ⟨⟨j + 1, by omega, by go_num, by rw [HF.out]; simp [hz], trivial⟩, by simp [intOf]; omega⟩
          · go_wp2_with fail
            exact ⟨⟨j + 1, by omega, by go_num, by rw [HF.out]; simp [hz], trivial⟩, by simp [intOf]; omega⟩
        · obtain rfl : j = n := by omega
          have j2 : decide ((j : Int) < (j : Int)) = false := by simp
          obtain ⟨F, hF⟩ : ∃ F, F = (xs.take j).all (fun q => !decide (((k : Int) + 2) % q = 0)) := ⟨_, rfl⟩
          rw [← hF]
          rw [List.take_of_length_le (by rw [← HN.out]; exact Nat.le_refl _)] at hF
          have HNX' := Lib.hid (show sv (k + 1) = if F = true then xs ++ [(k : Int) + 2] else xs by rw [hF]; exact HNX.out)
          clear hF
          cases F
          · go_wp2_with fail
            exact ⟨⟨k + 1, by have := HL.out hlt; omega, by go_num, by rw [HNX'.out]; exact HO2.out, HB.out⟩, by simp [intOf]; omega⟩
          · have hpO := HO2.out.keep ((Below.refl _ wr).alloc (Nat.le_refl _) (.cells #[.int .u64 ((k : Int) + 2)] 32))
            have hpR : Reads (wr.alloc (.cells #[.int .u64 ((k : Int) + 2)] 32)) (wr.heap.size + 1) (some ⟨wr.heap.size, 0, none⟩) 1 [.int .u64 ((k : Int) + 2)] := Blk.readsFull (Blk.new wr 32 _) (by omega) rfl (by simp)
            have PO := Lib.hid hpO
            have PR := Lib.hid hpR
            clear hpO hpR
            go_wp2_with ((with_reducible refine wpList_push (dst := some 31) w.heap.size 32 (.int .u64 0) 8 Tryd.underlying109 u64_info rfl (.slice A j c) (xs.map (Value.int .u64)) PO.out (wr.heap.size + 1) (some ⟨wr.heap.size, 0, none⟩) 1 1 [.int .u64 ((k : Int) + 2)] PR.out ?_ ?_ ?_ ?_ ?_ ?_ ?_)
                         exact (by simp [Value.oneCell'])
                         exact (by rw [List.length_map, ← HN.out]; omega)
                         exact (by rw [List.length_map, ← HN.out]; omega)
                         exact (by have := HB.out.size; simp only [World.size_alloc]; omega)
                         exact rfl
                         exact rfl
                         intro v2 w2 HO3 HG3 HV3)
            exact ⟨⟨k + 1, by have := HL.out hlt; omega, by go_num, by rw [HNX'.out]; simpa using HO3.out, PO.out.below (Nat.le_refl _) (HB.out.alloc HB.out.size _) (by have := HB.out.size; simp only [World.size_alloc]; omega) HG3.out⟩, by simp [intOf]; omega⟩
    · have j1 : decide ((n : Int) < 64) = false := by
        simp only [decide_eq_false_iff_not]
        omega
      obtain rfl : k = 310 := HE.out hlt
      go_wp2_with fail
      go_ret
      exact ⟨_, rfl, by rw [← HXS.out]; exact HO2.out, HB.out⟩
end Go.Proofs.YtialfoccalobpaaDoor
