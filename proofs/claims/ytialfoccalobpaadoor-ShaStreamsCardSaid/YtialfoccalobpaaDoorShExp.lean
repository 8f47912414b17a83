/-
  The contract of Expand.
-/
import Derived.Test.YtialfoccalobpaaDoorShMac
import Derived.Deep.Cut
namespace Go.Proofs.YtialfoccalobpaaDoor
open Go.RowKit
/-- What Expand has made behind k rounds. -/
def outL (key info : List Int) : Nat → List Int
  | 0 => []
  | k + 1 => outL key info k ++ mac key ((outL key info k).drop ((outL key info k).length - 32) ++ (info ++ [((k : Nat) : Int) + 1]))
theorem outL_len (key info : List Int) (k : Nat) : (outL key info k).length = 32 * k := by
  induction k with
  | zero => rfl
  | succ k ih => simp only [outL, List.length_append, mac_len, ih]; omega
/-- 'make([]T, 0, n)', elements of one cell. -/
theorem wpList_make_cap {P : Program} (w : World) {ops : Array Oper} {rest : List Oper} {o : Oper} {a : Act} {Q : Exit → Act → World → Prop}
    (hg : o.guard = none) (l c : Operand) (t : TypeId) (hop : o.op = Op.makeSlice t l c)
    (e : TypeId) (z : Value) (bytes : Nat) (ht : P.underlying t = some (.slice e)) (hinfo : (P.info? e).map (fun i => (i.zero, i.size, i.bytes)) = some (some z, 1, bytes)) (hz1 : z.cells = #[z])
    (kl kc : IntKind) (v : Int) (n : Nat) (hl : a.eval l = .int kl 0) (hc : a.eval c = .int kc v) (hv : v = (n : Int)) (hbytes : (bytes : Int) * n ≤ 281474976710656) (h63 : (n : Int) ≤ 9223372036854775807)
    (hK : ∀ w', Below w.heap.size w w' → w.heap.size < w'.heap.size → Blk w' w.heap.size e (Array.replicate n z) → wpList P ops Q rest (a.put o.dst (.slice (some ⟨w.heap.size, 0, none⟩) 0 n)) w') :
    wpList P ops Q (o :: rest) a w := by
  subst hv
  refine wpList_plain hg fun K hK' => ?_
  obtain ⟨i, hi, hzz⟩ := Option.map_eq_some_iff.1 hinfo
  simp only [Prod.mk.injEq] at hzz
  obtain ⟨hz, hs, hb⟩ := hzz
  have hrun := run_make (P := P) w t e i z ht hi hz kl kc 0 (n : Int) (by omega) (by omega) (by rw [hb]; exact hbytes) h63
  simp only [Int.toNat_natCast, Int.toNat_zero, hs, Nat.mul_one, hz1] at hrun
  rw [madeCells_one] at hrun
  unfold Oper.wp
  simp [execOp, hop, hl, hc, hrun, Result.andThen]
  exact hK' _ _ (hK _ ((Below.refl _ _).alloc (Nat.le_refl _) _) (by simp) (Blk.new _ _ _))
/-- append where there is room, elements of one cell. -/
theorem wpList_append_room_at {P : Program} {ops : Array Oper} {rest : List Oper} {dst : Option Tmp} {s x : Operand} {t ty : TypeId} {pos : String} {after : Array Edge} {a : Act} {w : World} {Q : Exit → Act → World → Prop}
    (e : TypeId) (z : Value) (bytes : Nat) (ht : P.underlying t = some (.slice e)) (hinfo : (P.info? e).map (fun i => (i.zero, i.size, i.bytes)) = some (some z, 1, bytes))
    (g sLen sCap : Nat) (cur : Array Value) (hg : Blk w g e cur) (ad : Addr) (m c : Nat) (news : List Value) (hl : news.length = m) (hnews : ∀ j u, news[j]? = some u → w.cell? (ad.add j) = some u) (h1 : ∀ u ∈ news, u.oneCell' = true)
    (hroom : sLen + m ≤ sCap) (hfit : sLen + m ≤ cur.size) (hs : a.eval s = .slice (some ⟨g, 0, none⟩) sLen sCap) (hx : a.eval x = .slice (some ad) m c)
    (h : ∀ w', Hid (Blk w' g e (cur.toList.take sLen ++ news ++ cur.toList.drop (sLen + m)).toArray) → Hid (w.grownBy w' (some g)) → wpList P ops Q rest (a.put dst (.slice (some ⟨g, 0, none⟩) (sLen + m) sCap)) w') :
    wpList P ops Q (⟨dst, .call { callee := .builtin .append, args := #[s, x], argTypes := #[t, t] }, ty, pos, after, none⟩ :: rest) a w :=
  wpList_plain rfl fun _ hK => by
    obtain ⟨i, hi, hzz⟩ := Option.map_eq_some_iff.1 hinfo
    simp only [Prod.mk.injEq] at hzz
    obtain ⟨_, hs1, _⟩ := hzz
    have hrun := run_append_room (P := P) w t ty e i ht hi g sLen sCap cur hg ad m c news (by rw [hs1, hl]; omega) hnews h1 hroom (by rw [hs1, hl]; omega)
    rw [hs1, Nat.mul_one, hl] at hrun
    unfold Oper.wp execOp
    simp only [resolve, invoke, builtin, Sem.run_bind, Sem.run_pure, Result.andThen_ok, List.map_toArray, List.map_cons, List.map_nil, hs, hx, hrun]
    exact hK _ _ (h _ (setRow_heap w g _ _ e _ hg) (setRow_only _))
theorem fill8_app (n : Nat) (l l2 : List Int) (_h : l.length + l2.length ≤ n) : ((fill8 n l).toList.take l.length ++ l2.map (Value.int .u8) ++ (fill8 n l).toList.drop (l.length + l2.length)).toArray = fill8 n (l ++ l2) := by
  unfold fill8
  congr 1
  have e : l.length = (l.map (Value.int .u8)).length := by simp
  rw [List.toList_toArray]
  conv => lhs; lhs; lhs; rw [e, List.take_left]
  rw [e, List.drop_length_add_append, List.drop_replicate, List.map_append, List.length_append]
  simp [Nat.sub_sub]
theorem fill8_pre (n : Nat) (l : List Int) (j : Nat) (h : j < l.length) : (fill8 n l)[j]? = some (Value.int .u8 (gt l j)) := by
  simp [fill8, List.getElem?_append, h, gt]
theorem fill8_reads {w : World} {g B n : Nat} {t : TypeId} {l : List Int} (h : Blk w g t (fill8 n l)) (hg : g < B) (o : Nat) (k : Nat) (hk : o + k = l.length) : Reads w B (some ⟨g, o, none⟩) k ((l.drop o).map (Value.int .u8)) :=
  ⟨by simp; omega, fun _ => ⟨g, o, rfl, hg, fun j u hu => by
    have hj : j < k := by
      rcases Nat.lt_or_ge j k with h1 | h1
      · exact h1
      · rw [List.getElem?_eq_none (by simp; omega)] at hu; cases hu
    have hoj : o + j < l.length := by omega
    rw [h.cell, fill8_pre n l (o + j) hoj, ← hu, gt_eq hoj]
    simp [hoj]⟩⟩
end Go.Proofs.YtialfoccalobpaaDoor
