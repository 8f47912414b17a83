/-
  The contract of Expand.
-/
import Derived.Test.YtgkfkfodeooogaaDoorShMac
import Derived.Deep.Cut
namespace Go.Proofs.YtgkfkfodeooogaaDoor
open Go.RowKit
/-- What Expand has made behind k rounds. -/
def outL (key info : List Int) : Nat → List Int
  | 0 => []
  | k + 1 => outL key info k ++ mac key ((outL key info k).drop ((outL key info k).length - 32) ++ (info ++ [((k : Nat) : Int) + 1]))
theorem outL_len (key info : List Int) (k : Nat) : (outL key info k).length = 32 * k := by
  induction k with
  | zero => rfl
  | succ k ih => simp only [outL, List.length_append, mac_len, ih]; omega
/-- 'make([]T, 0, n)', elements of one cell. -/
theorem wpList_make_cap {P : Program} (w : World) {ops : Array Oper} {rest : List Oper} {o : Oper} {a : Act} {Q : Exit → Act → World → Prop}
    (hg : o.guard = none) (l c : Operand) (t : TypeId) (hop : o.op = Op.makeSlice t l c)
    (e : TypeId) (z : Value) (bytes : Nat) (ht : P.underlying t = some (.slice e)) (hinfo : (P.info? e).map (fun i => (i.zero, i.size, i.bytes)) = some (some z, 1, bytes)) (hz1 : z.cells = #[z])
    (kl kc : IntKind) (v : Int) (n : Nat) (hl : a.eval l = .int kl 0) (hc : a.eval c = .int kc v) (hv : v = (n : Int)) (hbytes : (bytes : Int) * n ≤ 281474976710656) (h63 : (n : Int) ≤ 9223372036854775807)
    (hK : ∀ w', Below w.heap.size w w' → w.heap.size < w'.heap.size → Blk w' w.heap.size e (Array.replicate n z) → wpList P ops Q rest (a.put o.dst (.slice (some ⟨w.heap.size, 0, none⟩) 0 n)) w') :
    wpList P ops Q (o :: rest) a w := by
  subst hv
  refine wpList_plain hg fun K hK' => ?_
  obtain ⟨i, hi, hzz⟩ := Option.map_eq_some_iff.1 hinfo
  simp only [Prod.mk.injEq] at hzz
  obtain ⟨hz, hs, hb⟩ := hzz
  have hrun := run_make (P := P) w t e i z ht hi hz kl kc 0 (n : Int) (by omega) (by omega) (by rw [hb]; exact hbytes) h63
  simp only [Int.toNat_natCast, Int.toNat_zero, hs, Nat.mul_one, hz1] at hrun
  rw [madeCells_one] at hrun
  unfold Oper.wp
  simp [execOp, hop, hl, hc, hrun, Result.andThen]
  exact hK' _ _ (hK _ ((Below.refl _ _).alloc (Nat.le_refl _) _) (by simp) (Blk.new _ _ _))
/-- append where there is room, elements of one cell. -/
theorem wpList_append_room_at {P : Program} {ops : Array Oper} {rest : List Oper} {dst : Option Tmp} {s x : Operand} {t ty : TypeId} {pos : String} {after : Array Edge} {a : Act} {w : World} {Q : Exit → Act → World → Prop}
    (e : TypeId) (z : Value) (bytes : Nat) (ht : P.underlying t = some (.slice e)) (hinfo : (P.info? e).map (fun i => (i.zero, i.size, i.bytes)) = some (some z, 1, bytes))
    (g sLen sCap : Nat) (cur : Array Value) (hg : Blk w g e cur) (ad : Addr) (m c : Nat) (news : List Value) (hl : news.length = m) (hnews : ∀ j u, news[j]? = some u → w.cell? (ad.add j) = some u) (h1 : ∀ u ∈ news, u.oneCell' = true)
    (hroom : sLen + m ≤ sCap) (hfit : sLen + m ≤ cur.size) (hs : a.eval s = .slice (some ⟨g, 0, none⟩) sLen sCap) (hx : a.eval x = .slice (some ad) m c)
    (h : ∀ w', Hid (Blk w' g e (cur.toList.take sLen ++ news ++ cur.toList.drop (sLen + m)).toArray) → Hid (w.grownBy w' (some g)) → wpList P ops Q rest (a.put dst (.slice (some ⟨g, 0, none⟩) (sLen + m) sCap)) w') :
    wpList P ops Q (⟨dst, .call { callee := .builtin .append, args := #[s, x], argTypes := #[t, t] }, ty, pos, after, none⟩ :: rest) a w :=
  wpList_plain rfl fun _ hK => by
    obtain ⟨i, hi, hzz⟩ := Option.map_eq_some_iff.1 hinfo
    simp only [Prod.mk.injEq] at hzz
    obtain ⟨_, hs1, _⟩ := hzz
    have hrun := run_append_room (P := P) w t ty e i ht hi g sLen sCap cur hg ad m c news (by rw [hs1, hl]; omega) hnews h1 hroom (by rw [hs1, hl]; omega)
    rw [hs1, Nat.mul_one, hl] at hrun
    unfold Oper.wp execOp
    simp only [resolve, invoke, builtin, Sem.run_bind, Sem.run_pure, Result.andThen_ok, List.map_toArray, List.map_cons, List.map_nil, hs, hx, hrun]
    exact hK _ _ (h _ (setRow_heap w g _ _ e _ hg) (setRow_only _))
theorem fill8_app (n : Nat) (l l2 : List Int) (_h : l.length + l2.length ≤ n) : ((fill8 n l).toList.take l.length ++ l2.map (Value.int .u8) ++ (fill8 n l).toList.drop (l.length + l2.length)).toArray = fill8 n (l ++ l2) := by
  unfold fill8
  congr 1
  have e : l.length = (l.map (Value.int .u8)).length := by simp
  rw [List.toList_toArray]
  conv => lhs; lhs; lhs; rw [e, List.take_left]
  rw [e, List.drop_length_add_append, List.drop_replicate, List.map_append, List.length_append]
  simp [Nat.sub_sub]
theorem fill8_pre (n : Nat) (l : List Int) (j : Nat) (h : j < l.length) : (fill8 n l)[j]? = some (Value.int .u8 (gt l j)) := by
  simp [fill8, List.getElem?_append, h, gt]
theorem fill8_reads {w : World} {g B n : Nat} {t : TypeId} {l : List Int} (h : Blk w g t (fill8 n l)) (hg : g < B) (o : Nat) (k : Nat) (hk : o + k = l.length) : Reads w B (some ⟨g, o, none⟩) k ((l.drop o).map (Value.int .u8)) :=
  ⟨by simp; omega, fun _ => ⟨g, o, rfl, hg, fun j u hu => by
    have hj : j < k := by
      rcases Nat.lt_or_ge j k with h1 | h1
      · exact h1
      · rw [List.getElem?_eq_none (by simp; omega)] at hu; cases hu
    have hoj : o + j < l.length := by omega
    rw [h.cell, fill8_pre n l (o + j) hoj, ← hu, gt_eq hoj]
    simp [hoj]⟩⟩
theorem expand_mac (w wr : World) (G k lo P C0 : Nat) (A : Option Addr) (n c : Nat) (key : List Int) (A2 : Option Addr) (n2 c2 : Nat) (info : List Int)
    (hr : True → Reads w w.heap.size A n (key.map (Value.int .u8)) ∧ n ≤ c ∧ Reads w w.heap.size A2 n2 (info.map (Value.int .u8)) ∧ n2 ≤ c2)
    (hgl : Glob w) (h2 : 2 ≤ w.heap.size) (hm : n ≤ 1125899906842000) (hm2 : n2 ≤ 1125899906840000)
    (hb : Below w.heap.size w wr) (hsz : G < wr.heap.size) (_hG : w.heap.size ≤ G) (hB : Blk wr G 5 (fill8 C0 (outL key info k))) (hl : (outL key info k).length = P) (hlo : lo = P - 32) (hPC : P + 32 ≤ C0) (hk : P ≤ 8160) :
    Calls Tryd.prog 23 #[.slice A n c, .slice (some ⟨wr.heap.size + 1, 0, none⟩) 3 3]
      ((wr.alloc (.cells #[.int .u8 ((k : Int) + 1)] 5)).alloc (.cells #[.slice (some ⟨G, lo, none⟩) (P - lo) (C0 - lo), .slice A2 n2 c2, .slice (some ⟨wr.heap.size, 0, none⟩) 1 1] 24))
      fun e w' => e = .returned (.agg (agg8 (mac key ((outL key info k).drop ((outL key info k).length - 32) ++ (info ++ [((k : Nat) : Int) + 1]))))) ∧ Below wr.heap.size wr w' ∧ Blk w' G 5 (fill8 C0 (outL key info k)) := by
  obtain ⟨hr1, hnc, hr2, hnc2⟩ := hr trivial
  obtain ⟨W0, hW0⟩ : ∃ W0 : World, W0 = ((wr.alloc (.cells #[.int .u8 ((k : Int) + 1)] 5)).alloc (.cells #[.slice (some ⟨G, lo, none⟩) (P - lo) (C0 - lo), .slice A2 n2 c2, .slice (some ⟨wr.heap.size, 0, none⟩) 1 1] 24)) := ⟨_, rfl⟩
  have hs : W0.heap.size = wr.heap.size + 1 + 1 := by rw [hW0]; simp
  have hb0 : Below wr.heap.size wr W0 := by rw [hW0]; exact ((Below.refl _ _).alloc (Nat.le_refl _) _).alloc (by simp) _
  have hbw : Below w.heap.size w W0 := hb.trans (hb0.mono hb.size)
  have k3 : Blk W0 (wr.heap.size + 1) 24 #[.slice (some ⟨G, lo, none⟩) (P - lo) (C0 - lo), .slice A2 n2 c2, .slice (some ⟨wr.heap.size, 0, none⟩) 1 1] := by rw [hW0]; exact new_at _ _ 24 _ (by simp)
  have k1 : Blk W0 wr.heap.size 5 (agg8 [(k : Int) + 1]) := by rw [hW0]; exact ((Blk.new wr 5 _).alloc _).cast rfl
  have k0 := hB.keep hb0
  have hws := hb.size
  rw [← hW0]
  have hP : Pieces W0 W0.heap.size (some ⟨wr.heap.size + 1, 0, none⟩) 3 [(outL key info k).drop lo, info, [(k : Int) + 1]] := by
    refine pieces_of (k3.readsAll (by omega) rfl (by simp)) ⟨⟨_, _, _, rfl, by omega, fill8_reads k0 (by omega) lo (P - lo) (by omega)⟩, ⟨A2, n2, c2, rfl, hnc2, (hr2.below hbw).more (by omega)⟩, piece_blk k1 rfl (by omega), trivial⟩ rfl
  have hl2 : info.length = n2 := by simpa using hr2.1
  have h := mac_any W0 A n c key _ 3 3 _ ((hr1.below hbw).more (by omega)) hnc hP (hgl.below hbw h2) (by omega) hm (by omega) (by simp only [List.flatten_cons, List.flatten_nil, List.append_nil, List.length_append, List.length_drop, hl, hl2, List.length_cons, List.length_nil]; omega)
  simp only [List.flatten_cons, List.flatten_nil, List.append_nil] at h
  rw [hl, ← hlo]
  exact h.mono fun _ _ ⟨he, hb'⟩ => ⟨he, hb0.trans (hb'.mono (by omega)), k0.keep hb'⟩
set_option maxRecDepth 100000 in
set_option maxHeartbeats 1000000 in
theorem expand_loop (w : World) (A : Option Addr) (n c : Nat) (key : List Int) (A2 : Option Addr) (n2 c2 : Nat) (info : List Int) (N : Nat) (hr : Reads w w.heap.size A n (key.map (Value.int .u8))) (hnc : n ≤ c) (hr2 : Reads w w.heap.size A2 n2 (info.map (Value.int .u8))) (hnc2 : n2 ≤ c2)
    (hgl : Glob w) (h2 : 2 ≤ w.heap.size) (hm : n ≤ 1125899906842000) (hm2 : n2 ≤ 1125899906840000) (hN : N ≤ 8160) :
    Calls Tryd.prog 26 #[.slice A n c, .slice A2 n2 c2, .int .i64 N] w fun e w' => ∃ g, e = .returned (.slice (some ⟨g, 0, none⟩) N N) ∧ w.heap.size ≤ g ∧ Below w.heap.size w w' ∧ Reads w' w'.heap.size (some ⟨g, 0, none⟩) N (((outL key info ((N + 31) / 32)).take N).map (Value.int .u8)) ∧ ∃ C0, 32 * ((N + 31) / 32) = C0 ∧ Blk w' g 5 (fill8 C0 (outL key info ((N + 31) / 32))) := by
  have t1 : decide ((N : Int) < 0) = false := by simp
  have t2 : decide ((8160 : Int) < (N : Int)) = false := by simp; omega
  obtain ⟨M, hM⟩ : ∃ M, M = (N + 31) / 32 := ⟨_, rfl⟩
  rw [← hM]
  have hMM : M ≤ 255 := by omega
  have hNM : N ≤ 32 * M := by omega
  have e1 : ((N : Int) + 32 - 1) / 32 = (M : Int) := by omega
  have e2 : ((N : Int) + 31) / 32 = (M : Int) := by omega
  have HR := Lib.hid hr
  have HR2 := Lib.hid hr2
  have GL := Lib.hid hgl
  clear hr hr2 hgl hM
  go_enter Tryd.func26, Tryd.ntmps26
  go_upto_region 4 with (fail)
  simp only [e1]
  go_wp2_with (at_make; refine wpList_make_cap _ rfl _ _ _ rfl 5 _ 1 Tryd.underlying24 byte_info rfl .i64 .i64 _ (M * 32) rfl rfl (by omega) (by omega) (by omega) ?_; intro w1 hb1 hs1 hB1; have HB1 := Lib.hid hb1; have HC1 := Lib.hid hB1; clear hB1 hb1)
  obtain ⟨G, hGe⟩ : ∃ G, G = w.heap.size := ⟨_, rfl⟩
  rw [← hGe]
  have HB1' : Hid (Below w.heap.size w w1) := HB1
  have HC1' : Hid (Blk w1 G 5 (fill8 (M * 32) [])) := Lib.hid (by rw [hGe, ← fill8_nil]; exact HC1.out)
  have hG1 : w.heap.size ≤ G := by omega
  have hG2 : G < w1.heap.size := by omega
  clear HB1 HC1 hGe hs1
  generalize hC0 : M * 32 = C0 at *
  have HC0 := Lib.hid hC0
  clear hC0
  go_loopw [8, 26] (fun o i wr => ∃ k : Nat, k ≤ M ∧ i = .int .i64 k ∧ o = .slice (some ⟨G, 0, none⟩) (32 * k) C0 ∧ Below w.heap.size w wr ∧ G < wr.heap.size ∧ Blk wr G 5 (fill8 C0 (outL key info k))) (fun _ i _ => M - (intOf i).toNat)
  case atStart => exact ⟨0, Nat.zero_le _, rfl, rfl, HB1'.out, hG2, HC1'.out⟩
  case round =>
    obtain ⟨k, hk, rfl, rfl, hb, hsz, hB⟩ := hrel
    by_cases hlt : k < M
    · obtain ⟨P, hP⟩ : ∃ P, P = 32 * k := ⟨_, rfl⟩
      have hPC : P + 32 ≤ C0 := by have := HC0.out; omega
      have hP9 : P ≤ 8160 := by omega
      have hOl : (outL key info k).length = P := by rw [outL_len, hP]
      rw [← hP]
      have HP := Lib.hid hP
      clear hP
      obtain ⟨lo, hlo⟩ : ∃ lo, lo = P - 32 := ⟨_, rfl⟩
      have hlo1 : lo ≤ P := by omega
      have hto : ((P : Int) - 32).toNat = lo := by omega
      have X1 := Lib.hid hb
      have X2 := Lib.hid hB
      have X3 := Lib.hid hOl
      have X4 := Lib.hid hlo
      have X5 := Lib.hid hto
      clear hb hB hOl hlo hto HB1' HC1'
      have i1 : (k : Int) < M := by omega
      go_wp2_with fail
      all_goals first
        | (have hcall := expand_mac w wr G k lo P C0 A n c key A2 n2 c2 info (fun _ => ⟨HR.out, hnc, HR2.out, hnc2⟩) GL.out h2 hm hm2 X1.out hsz hG1 X2.out X3.out X4.out hPC (by omega)
           rw [X5.out]
           refine hcall.mono ?_
           clear hcall)
        | (have hcall := expand_mac w wr G k 0 P C0 A n c key A2 n2 c2 info (fun _ => ⟨HR.out, hnc, HR2.out, hnc2⟩) GL.out h2 hm hm2 X1.out hsz hG1 X2.out X3.out (by omega) hPC (by omega)
           refine hcall.mono ?_
           clear hcall)
      all_goals
        rintro e w2 ⟨rfl, hb2, hB2⟩
        have Y1 := Lib.hid (X1.out.trans (hb2.mono X1.out.size))
        have Y2 := Lib.hid hB2
        have hs2 := hb2.size
        obtain ⟨MA, hMA⟩ : ∃ MA, MA = mac key ((outL key info k).drop ((outL key info k).length - 32) ++ (info ++ [((k : Nat) : Int) + 1])) := ⟨_, rfl⟩
        rw [← hMA]
        have hnx : outL key info (k + 1) = outL key info k ++ MA := by rw [hMA]; rfl
        have hMl : MA.length = 32 := by rw [hMA, mac_len]
        obtain ⟨DA, hDA⟩ : ∃ DA, DA = agg8 MA := ⟨_, rfl⟩
        rw [← hDA]
        have hDz : DA.size = 32 := by rw [hDA, agg8_size, hMl]
        have hDi : (Tryd.prog.info? 27).map (·.size) = some DA.size := by rw [hDz]; kernel_rfl
        have hDf : 0 + DA.size ≤ Z27.size := by rw [hDz, Z27, agg8_size]; simp
        have hD1 : DA.all (·.oneCell') = true := by rw [hDA]; exact agg8_one _
        have D0 := Lib.hid hDA
        have D2 := Lib.hid hDz
        have D3 := Lib.hid hDi
        have D4 := Lib.hid hDf
        have D5 := Lib.hid hD1
        have D6 := Lib.hid hnx
        have D7 := Lib.hid hMl
        have hz27 : ∀ W : World, (zeroValue 27).run Tryd.prog W = .ok (.agg Z27) W := zero27
        have hsl27 := slice27_all w2.heap.size 0
        have HPe := HP.out
        have HPh := Lib.hid HPe
        clear hb2 hB2 hMA hDA hDz hDi hDf hD1 hnx hMl HPe X1 X2 h
        go_wp2_with (first
          | ((with_reducible refine wpList_store_at (ty := 27) (x := .tmp 11) (y := .tmp 43) w2.heap.size 0 27 Z27 DA ?_ ?_ ?_ D3.out D4.out D5.out ?_); exact rfl; exact rfl; exact Blk.new _ 27 _
             intro w3 HB3 HG3
             have hB3 : Blk w3 w2.heap.size 27 DA := HB3.out.cast (by rw [splice_all _ _ (by rw [Array.length_toList, Array.length_toList, D2.out, Z27, agg8_size]; simp), Array.toArray_toList])
             have Z1 := Lib.hid hB3
             have hs3 := hB3.lt
             have Z2 := Lib.hid ((Y2.out.alloc _).grown HG3.out (ne_some (by omega)))
             have Z3 := Lib.hid ((Y1.out.alloc (by omega) _).keepB' HG3.out (by simp only [World.size_alloc]; omega) (by omega))
             have hrd : ∀ j u, (MA.map (Value.int .u8))[j]? = some u → w3.cell? ((⟨w2.heap.size, 0, none⟩ : Addr).add j) = some u := by
               intro j u hu
               rw [add_plain, Nat.zero_add, Z1.out.cell, D0.out, agg8]
               simpa using hu
             have Z4 := Lib.hid hrd
             clear hB3 HB3 HG3 hrd)
          | ((with_reducible refine wpList_append_room_at (dst := some 46) 5 (.int .u8 0) 1 Tryd.underlying24 byte_info G P C0 (fill8 C0 (outL key info k)) Z2.out ⟨w2.heap.size, 0, none⟩ 32 32 (MA.map (Value.int .u8)) ?_ Z4.out ?_ hPC ?_ ?_ ?_ ?_)
             exact (by rw [List.length_map, D7.out])
             exact (by intro v hv; simp only [List.mem_map] at hv; obtain ⟨_, _, rfl⟩ := hv; rfl)
             exact (by rw [fill8_size _ _ (by rw [X3.out]; omega)]; omega)
             exact rfl
             exact rfl
             intro w4 HB4 HG4))
        refine ⟨⟨k + 1, by omega, rfl, ?_, Z3.out.keepB' HG4.out (by have := Y2.out.lt; omega) (by omega), ?_, HB4.out.cast ?_⟩, ?_⟩
        · rw [HPh.out]; rfl
        · have := Y2.out.lt; have := HG4.out.size; omega
        · have hf := fill8_app C0 (outL key info k) MA (by rw [X3.out, D7.out]; exact hPC)
          rw [X3.out, D7.out] at hf
          rw [hf, D6.out]
        · change M - ((k : Int) + 1).toNat < M - ((k : Int)).toNat
          omega
    · have hkM : k = M := by omega
      subst hkM
      have i1 : ¬ ((k : Int) < k) := by omega
      have hNC : N ≤ C0 := by have := HC0.out; omega
      go_wp2_with fail
      go_ret
      have hCk : 32 * k = C0 := by have := HC0.out; omega
      refine ⟨G, rfl, hG1, hb, ?_, by rw [hCk]; exact hB⟩
      have hl : (outL key info k).length = 32 * k := outL_len _ _ _
      refine ⟨by simp; omega, fun _ => ⟨G, 0, rfl, by omega, fun j u hu => ?_⟩⟩
      have hj : j < N := by
        rcases Nat.lt_or_ge j N with h1 | h1
        · exact h1
        · rw [List.getElem?_eq_none (by simp; omega)] at hu; cases hu
      have hjl : j < (outL key info k).length := by omega
      rw [hB.cell, Nat.zero_add, fill8_pre C0 _ j hjl, ← hu, gt_eq hjl]
      simp [hj, hjl]
set_option maxRecDepth 100000 in
theorem expand_out (w : World) (A : Option Addr) (n c : Nat) (A2 : Option Addr) (n2 c2 : Nat) (N : Int) (hN : N < 0 ∨ 8160 < N) :
    Calls Tryd.prog 26 #[.slice A n c, .slice A2 n2 c2, .int .i64 N] w fun e w' => e = .returned (.slice none 0 0) ∧ w' = w := by
  by_cases h0 : N < 0
  · have t1 : decide (N < 0) = true := by simpa using h0
    clear hN h0
    go_enter Tryd.func26, Tryd.ntmps26
    go_wp2_with fail
    go_ret
    exact ⟨rfl, rfl⟩
  · have t1 : decide (N < 0) = false := by simpa using h0
    have t2 : decide (8160 < N) = true := by
      simp only [decide_eq_true_eq]
      omega
    clear hN h0
    go_enter Tryd.func26, Tryd.ntmps26
    go_wp2_with fail
    go_ret
    exact ⟨rfl, rfl⟩
end Go.Proofs.YtgkfkfodeooogaaDoor
