/-
  The contract of Mac: a keyed digest.
-/
import Derived.Test.YtgkfkfodeooogaaDoorShKey
namespace Go.Proofs.YtgkfkfodeooogaaDoor
open Go.RowKit
/-- Values that read as byte lists, one by one. -/
def PV (w : World) (B : Nat) : List Value → List (List Int) → Prop
  | [], [] => True
  | v :: vs, b :: bs => Piece w B v b ∧ PV w B vs bs
  | _, _ => False
theorem PV.below {w w' : World} {B : Nat} : ∀ {vs : List Value} {ps : List (List Int)}, PV w B vs ps → Below B w w' → PV w' B vs ps
  | [], [], _, _ => trivial
  | [], _ :: _, h, _ => h
  | _ :: _, [], h, _ => h
  | _ :: _, _ :: _, h, hb => ⟨h.1.below hb, PV.below h.2 hb⟩
theorem PV.more {w : World} {B B' : Nat} : ∀ {vs : List Value} {ps : List (List Int)}, PV w B vs ps → B ≤ B' → PV w B' vs ps
  | [], [], _, _ => trivial
  | [], _ :: _, h, _ => h
  | _ :: _, [], h, _ => h
  | _ :: _, _ :: _, h, hb => ⟨h.1.more hb, PV.more h.2 hb⟩
theorem PV.one {w : World} {B : Nat} : ∀ {vs : List Value} {ps : List (List Int)}, PV w B vs ps → ∀ u ∈ vs, u.oneCell' = true
  | [], _, _ => by simp
  | _ :: _, [], h => h.elim
  | v :: vs, _ :: _, h => by
    intro u hu
    rcases List.mem_cons.1 hu with rfl | hu
    · obtain ⟨A, m, c, rfl, _⟩ := h.1
      rfl
    · exact PV.one h.2 u hu
theorem PV.get {w : World} {B : Nat} : ∀ {vs : List Value} {ps : List (List Int)}, PV w B vs ps → ∀ i (h : i < ps.length), ∃ v, vs[i]? = some v ∧ Piece w B v ps[i]
  | [], [], _, i, h => by simp at h
  | [], _ :: _, h, _, _ => h.elim
  | _ :: _, [], h, _, _ => h.elim
  | v :: vs, p :: ps, h, 0, _ => ⟨v, rfl, h.1⟩
  | v :: vs, p :: ps, h, i + 1, hi => by
    obtain ⟨u, hu, hp⟩ := PV.get h.2 i (by simpa using hi)
    exact ⟨u, by simpa using hu, by simpa using hp⟩
theorem PV.of_get {w : World} {B : Nat} : ∀ (vs : List Value) (ps : List (List Int)), vs.length = ps.length → (∀ i (h : i < vs.length) (h' : i < ps.length), Piece w B vs[i] ps[i]) → PV w B vs ps
  | [], [], _, _ => trivial
  | [], _ :: _, h, _ => by simp at h
  | _ :: _, [], h, _ => by simp at h
  | v :: vs, p :: ps, h, hp => ⟨hp 0 (by simp) (by simp), PV.of_get vs ps (by simpa using h) fun i h1 h2 => hp (i + 1) (Nat.succ_lt_succ h1) (Nat.succ_lt_succ h2)⟩
theorem Pieces.values {w : World} {B n : Nat} {A : Option Addr} {ps : List (List Int)} (h : Pieces w B A n ps) : ∃ vs, Reads w B A n vs ∧ PV w B vs ps := by
  rcases Nat.eq_zero_or_pos n with h0 | h0
  · subst h0
    have : ps = [] := List.eq_nil_of_length_eq_zero h.1
    subst this
    exact ⟨[], Reads.nil_, trivial⟩
  · obtain ⟨b, o, rfl, hb, hc⟩ := h.2 h0
    have hl := h.1
    refine ⟨List.ofFn fun i : Fin n => Classical.choose (hc i.val (by rw [hl]; exact i.isLt)), ⟨by simp, fun _ => ⟨b, o, rfl, hb, fun j u hu => ?_⟩⟩, PV.of_get _ _ (by simp [hl]) fun i h1 h2 => ?_⟩
    · obtain ⟨hj, rfl⟩ := List.getElem?_eq_some_iff.1 hu
      rw [List.getElem_ofFn]
      exact (Classical.choose_spec (hc j (by rw [hl]; simpa using hj))).1
    · rw [List.getElem_ofFn]
      exact (Classical.choose_spec (hc i h2)).2
theorem pieces_of {w : World} {B n : Nat} {A : Option Addr} {vs : List Value} {ps : List (List Int)} (hr : Reads w B A n vs) (hp : PV w B vs ps) (hl : ps.length = n) : Pieces w B A n ps := by
  refine ⟨hl, fun hn => ?_⟩
  obtain ⟨b, o, e, hb, hc⟩ := hr.2 hn
  refine ⟨b, o, e, hb, fun i hi => ?_⟩
  obtain ⟨v, hv, hq⟩ := hp.get i hi
  exact ⟨v, hc i v hv, hq⟩
theorem PV.len {w : World} {B : Nat} : ∀ {vs : List Value} {ps : List (List Int)}, PV w B vs ps → vs.length = ps.length
  | [], [], _ => rfl
  | [], _ :: _, h => h.elim
  | _ :: _, [], h => h.elim
  | _ :: _, _ :: _, h => by simp [PV.len h.2]
theorem piece_blk {W : World} {B g n : Nat} {t : TypeId} {bs : List Int} (hB : Blk W g t (agg8 bs)) (hl : bs.length = n) (hg : g < B) : Piece W B (.slice (some ⟨g, 0, none⟩) n n) bs :=
  ⟨_, _, _, rfl, Nat.le_refl _, by simpa using hl, fun _ => ⟨_, _, rfl, hg, fun j u hu => by
    rw [Nat.zero_add, hB.cell, agg8]
    simpa using hu⟩⟩
theorem Blk.readsAll {w : World} {g B n : Nat} {t : TypeId} {cs : Array Value} {vs : List Value} (h : Blk w g t cs) (hg : g < B) (hv : cs.toList.take n = vs) (hn : n ≤ cs.size) : Reads w B (some ⟨g, 0, none⟩) n vs := by
  refine ⟨by rw [← hv]; simp; omega, fun _ => ⟨g, 0, rfl, hg, fun j u hu => ?_⟩⟩
  rw [Nat.zero_add, h.cell]
  rw [← hv, List.getElem?_take] at hu
  split at hu
  · simpa using hu
  · cases hu

def mac (key text : List Int) : List Int := digest (maskL (keyB key) 92 ++ digest (maskL (keyB key) 54 ++ text))
theorem mac_len (key text : List Int) : (mac key text).length = 32 := digest_len _
theorem slice_info : (Tryd.prog.info? 24).map (fun i => (i.zero, i.size, i.bytes)) = some (some (.slice none 0 0), 1, 24) := by kernel_rfl
set_option maxRecDepth 100000 in
set_option maxHeartbeats 1000000 in
theorem mac_any (w : World) (A : Option Addr) (n c : Nat) (key : List Int) (A2 : Option Addr) (n2 c2 : Nat) (ps : List (List Int)) (hr : Reads w w.heap.size A n (key.map (Value.int .u8))) (hnc : n ≤ c) (hp : Pieces w w.heap.size A2 n2 ps)
    (hgl : Glob w) (h2 : 2 ≤ w.heap.size) (hm : n ≤ 1125899906842000) (hm2 : n2 ≤ 1048576) (hN : ps.flatten.length ≤ 1125899906841000) :
    Calls Tryd.prog 23 #[.slice A n c, .slice A2 n2 c2] w fun e w' => e = .returned (.agg (agg8 (mac key ps.flatten))) ∧ Below w.heap.size w w' := by
  obtain ⟨vs, hvs, hpv⟩ := hp.values
  have hpl : ps.length = n2 := hp.1
  obtain ⟨KL, hKL⟩ : ∃ KL, KL = keyB key := ⟨_, rfl⟩
  have hKl : KL.length = 64 := by rw [hKL, keyB_len]
  obtain ⟨KA, hKA⟩ : ∃ KA, KA = agg8 KL := ⟨_, rfl⟩
  have hKz : KA.size = 64 := by rw [hKA, agg8_size, hKl]
  have hKi : (Tryd.prog.info? 69).map (·.size) = some KA.size := by rw [hKz]; kernel_rfl
  have hKf : 0 + KA.size ≤ Z48.size := by rw [hKz, Z48, agg8_size]; simp
  have hK1 : KA.all (·.oneCell') = true := by rw [hKA]; exact agg8_one _
  obtain ⟨IL, hIL⟩ : ∃ IL, IL = digest (maskL KL 54 ++ ps.flatten) := ⟨_, rfl⟩
  have hIl : IL.length = 32 := by rw [hIL, digest_len]
  obtain ⟨IA, hIA⟩ : ∃ IA, IA = agg8 IL := ⟨_, rfl⟩
  have hIz : IA.size = 32 := by rw [hIA, agg8_size, hIl]
  have hIi : (Tryd.prog.info? 27).map (·.size) = some IA.size := by rw [hIz]; kernel_rfl
  have hIf : 0 + IA.size ≤ Z27.size := by rw [hIz, Z27, agg8_size]; simp
  have hI1 : IA.all (·.oneCell') = true := by rw [hIA]; exact agg8_one _
  obtain ⟨DA, hDA⟩ : ∃ DA, DA = agg8 (mac key ps.flatten) := ⟨_, rfl⟩
  have hDe : DA = agg8 (digest (maskL KL 92 ++ IL)) := by rw [hDA, hIL, hKL]; rfl
  have hDz : DA.size = 32 := by rw [hDA, agg8_size, mac_len]
  have hDi : (Tryd.prog.info? 27).map (·.size) = some DA.size := by rw [hDz]; kernel_rfl
  have hDf : 0 + DA.size ≤ Z27.size := by rw [hDz, Z27, agg8_size]; simp
  have hD1 : DA.all (·.oneCell') = true := by rw [hDA]; exact agg8_one _
  rw [← hDA]
  have hz48 : ∀ W : World, (zeroValue 69).run Tryd.prog W = .ok (.agg Z48) W := zero48
  have hz27 : ∀ W : World, (zeroValue 27).run Tryd.prog W = .ok (.agg Z27) W := zero27
  have hb0 : Below w.heap.size w (w.alloc (.cells Z27 27)) := (Below.refl _ _).alloc (Nat.le_refl _) _
  have hKY := key_any (w.alloc (.cells Z27 27)) A n c key ((hr.below hb0).more (by simp)) hnc (hgl.below hb0 h2) (by simp; omega) hm
  rw [← hKL, ← hKA] at hKY
  have KY := Lib.hid hKY
  have VS := Lib.hid hvs
  have PVh := Lib.hid hpv
  have PL := Lib.hid hpl
  have GL := Lib.hid hgl
  have K0 := Lib.hid hKA
  have KLn := Lib.hid hKl
  have K2 := Lib.hid hKz
  have K3 := Lib.hid hKi
  have K4 := Lib.hid hKf
  have K5 := Lib.hid hK1
  have I00 := Lib.hid hIL
  have I0 := Lib.hid hIA
  have I1 := Lib.hid hIl
  have I2 := Lib.hid hIz
  have I3 := Lib.hid hIi
  have I4 := Lib.hid hIf
  have I5 := Lib.hid hI1
  have D1 := Lib.hid hDe
  have D2 := Lib.hid hDz
  have D3 := Lib.hid hDi
  have D4 := Lib.hid hDf
  have D5 := Lib.hid hD1
  have B0 := Lib.hid hb0
  clear hr hp hvs hpv hpl hgl hKL hKl hKA hKz hKi hKf hK1 hIL hIl hIA hIz hIi hIf hI1 hDA hDe hDz hDi hDf hD1 hKY hb0
  go_enter Tryd.func23, Tryd.ntmps23
  go_wp2_with fail
  refine KY.out.mono ?_
  rintro e w1 ⟨rfl, hb1⟩
  have hs1 := hb1.size
  simp only [World.size_alloc] at hs1
  have X1 := Lib.hid (B0.out.trans (hb1.mono (by simp)))
  have R1 := Lib.hid ((Blk.new w 27 Z27).keep hb1)
  clear hb1 KY
  go_wp2_with (first
    | ((with_reducible refine wpList_store_at (ty := 69) (x := .tmp 5) (y := .tmp 8) w1.heap.size 0 69 Z48 KA ?_ ?_ ?_ K3.out K4.out K5.out ?_); exact rfl; exact rfl; exact Blk.new _ 69 _
       intro w2 HB2 HG2
       have hB2 : Blk w2 w1.heap.size 69 KA := HB2.out.cast (by rw [splice_all _ _ (by rw [Array.length_toList, Array.length_toList, K2.out, Z48, agg8_size]; simp), Array.toArray_toList])
       have hR2 : Blk w2 w.heap.size 27 Z27 := (R1.out.alloc _).grown HG2.out (ne_some (by omega))
       have hX2 : Below w.heap.size w w2 := (X1.out.alloc (by omega) _).keepB' HG2.out (by simp; omega) (by omega)
       have hs2 := hB2.lt
       have T2 := Lib.hid hB2
       have R2 := Lib.hid hR2
       have X2 := Lib.hid hX2
       have L2 := Lib.hid hB2.range
       clear HB2 HG2 hB2 hR2 hX2)
    | ((with_reducible refine wpList_load_at (dst := some 9) (ty := 69) w1.heap.size 0 KA _ ?_ L2.out Tryd.underlying69 ?_ K3.out ?_); exact rfl; exact rfl))
  have hMS := masked_any w2 KL 54 KLn.out
  rw [← K0.out] at hMS
  refine hMS.mono ?_
  rintro e w3 ⟨g3, rfl, hg3, hB3, hb3⟩
  have hs3 := hb3.size
  have hl3 := hB3.lt
  have X3 := Lib.hid (X2.out.trans (hb3.mono (by omega)))
  have R3 := Lib.hid (R2.out.keep hb3)
  have T3 := Lib.hid (T2.out.keep hb3)
  have M3 := Lib.hid hB3
  clear hMS hB3 hb3 R1 X1 R2 X2 T2
  go_wp2_with ((with_reducible refine wpList_append_at (dst := some 13) w3.heap.size 24 (.slice none 0 0) 24 Tryd.underlying22 slice_info rfl (.slice (some ⟨w3.heap.size, 0, none⟩) 1 1) 1 [.slice (some ⟨g3, 0, none⟩) 64 64] ?_ w.heap.size A2 n2 c2 vs ?_ (PVh.out.one) ?_ ?_ ?_ ?_ ?_ ?_)
               exact (Blk.new w3 24 _).owns (Nat.le_refl _) (by omega) rfl (by omega)
               exact VS.out.below (X3.out.alloc (by omega) _)
               exact (by omega)
               exact (by omega)
               exact (by simp)
               exact rfl
               exact rfl
               intro v4 w4 HO HG hv4
               obtain ⟨g4, cap4, cs4, rfl, hg4, hB4, hnc4, hsz4, htk4, hcm4⟩ := owns_blk HO.out (by omega)
               have H4 := Lib.hid hB4
               have K4' := Lib.hid htk4
               have S4 := Lib.hid hsz4
               clear HO hB4 htk4 hsz4 hv4 hcm4)
  have hG : (w3.alloc (.cells #[.slice (some ⟨g3, 0, none⟩) 64 64] 24)).grownBy w4 (some w3.heap.size) := HG.out
  have hs4 := hG.size
  simp only [World.size_alloc] at hs4
  have hX4 : Below w.heap.size w w4 := (X3.out.alloc (by omega) _).keepB' hG (by simp; omega) (by omega)
  have R4 := Lib.hid ((R3.out.alloc _).grown hG (ne_some (by omega)))
  have T4 := Lib.hid ((T3.out.alloc _).grown hG (ne_some (by omega)))
  have M4 := (M3.out.alloc (.cells #[.slice (some ⟨g3, 0, none⟩) 64 64] 24)).grown hG (ne_some (by omega))
  have hg4l := H4.out.lt
  have hP : Pieces w4 w4.heap.size (some ⟨g4, 0, none⟩) (1 + n2) (maskL KL 54 :: ps) := by
    refine pieces_of (vs := [.slice (some ⟨g3, 0, none⟩) 64 64] ++ vs) (H4.out.readsAll hg4l K4'.out (by rw [S4.out]; omega)) ?_ (by rw [List.length_cons, PL.out]; omega)
    exact ⟨piece_blk M4 (by rw [maskL_len, KLn.out]) (by omega), (PVh.out.below hX4).more hX4.size⟩
  have hO := of_any w4 _ (1 + n2) cap4 _ hP (GL.out.below hX4 h2) (by omega) (by omega) (by rw [List.flatten_cons, List.length_append, maskL_len, KLn.out]; omega)
  rw [List.flatten_cons, ← I00.out, ← I0.out] at hO
  have X4 := Lib.hid hX4
  clear hX4 hG HG H4 K4' S4 M4 M3 R3 T3 X3 hP
  refine hO.mono ?_
  rintro e w5 ⟨rfl, hb5⟩
  have hs5 := hb5.size
  have X5 := Lib.hid (X4.out.trans (hb5.mono (by omega)))
  have R5 := Lib.hid (R4.out.keep hb5)
  have T5 := Lib.hid (T4.out.keep hb5)
  clear hO hb5 X4 R4 T4
  go_wp2_with ((with_reducible refine wpList_store_at (ty := 27) (x := .tmp 6) (y := .tmp 14) w5.heap.size 0 27 Z27 IA ?_ ?_ ?_ I3.out I4.out I5.out ?_); exact rfl; exact rfl; exact Blk.new _ 27 _
               intro w6 HB6 HG6
               have hB6 : Blk w6 w5.heap.size 27 IA := HB6.out.cast (by rw [splice_all _ _ (by rw [Array.length_toList, Array.length_toList, I2.out, Z27, agg8_size]; simp), Array.toArray_toList])
               have hs6 := hB6.lt
               have X6 := Lib.hid ((X5.out.alloc (by omega) _).keepB' HG6.out (by simp; omega) (by omega))
               have R6 := Lib.hid ((R5.out.alloc _).grown HG6.out (ne_some (by omega)))
               have T6 := Lib.hid ((T5.out.alloc _).grown HG6.out (ne_some (by omega)))
               have I6 := Lib.hid hB6
               clear HB6 HG6 hB6 X5 R5 T5)
  go_frame
  refine wp_region_any (by kernel_rfl) ?_
  change wpAny _ _ _ _ _ _ _ (World.drew _)
  have hsl27 := slice27_all w5.heap.size 0
  refine wpAny_take (i := 2) (v := .slice (some ⟨w5.heap.size, 0, none⟩) 32 32) rfl (by kernel_rfl) (by kernel_rfl) (by kernel_rfl) (fun _ _ _ h => h) (Or.inl ⟨by rfl, ?_⟩) ?_
  · intro w
    go_simp
  go_frame
  refine wpAny_ready (rs := [0]) (by kernel_rfl) (by simp) ?_
  refine AllReady.cons rfl (fun K hK => ?_) AllReady.nil
  refine step_load_at rfl 69 (.tmp 5) rfl w1.heap.size 0 KA _ rfl T6.out.drew.range Tryd.underlying69 rfl K3.out ?_
  refine hK _ _ ?_
  clear hK K
  go_frame
  refine wpAny_ready (rs := [1]) (by kernel_rfl) (by simp) ?_
  refine AllReady.cons rfl (fun K hK => ?_) AllReady.nil
  go_simp
  have hMS := masked_any w6.drew KL 92 KLn.out
  rw [← K0.out] at hMS
  refine hMS.mono ?_
  rintro e w7 ⟨g7, rfl, hg7, hB7, hb7⟩
  go_simp
  refine hK _ _ ?_
  clear hK K hMS
  have hs7 := hb7.size
  simp only [World.size_drew] at hs7
  have hX7 : Below w.heap.size w w7 := (X6.out.drew).trans (hb7.mono (by simp; omega))
  have R7 := Lib.hid ((R6.out.drew).keep hb7)
  have I7 := (I6.out.drew).keep hb7
  have hl7 := hB7.lt
  refine wpAny_ready (rs := [3]) (by kernel_rfl) (by simp) ?_
  refine AllReady.cons rfl (fun K hK => ?_) AllReady.nil
  go_simp
  refine hK _ _ ?_
  clear hK K
  obtain ⟨w8, hw8⟩ : ∃ w8, w8 = w7.alloc (.cells #[.slice (some ⟨g7, 0, none⟩) 64 64, .slice (some ⟨w5.heap.size, 0, none⟩) 32 32] 24) := ⟨_, rfl⟩
  rw [← hw8]
  have hb8 : Below w7.heap.size w7 w8 := by rw [hw8]; exact (Below.refl _ _).alloc (Nat.le_refl _) _
  have hs8 : w7.heap.size < w8.heap.size := by rw [hw8]; simp
  have hP : Pieces w8 w8.heap.size (some ⟨w7.heap.size, 0, none⟩) 2 [maskL KL 92, IL] := by
    have hB8 : Blk w8 w7.heap.size 24 #[.slice (some ⟨g7, 0, none⟩) 64 64, .slice (some ⟨w5.heap.size, 0, none⟩) 32 32] := by rw [hw8]; exact Blk.new _ _ _
    refine pieces_of (hB8.readsAll hs8 rfl (by simp)) ?_ rfl
    exact ⟨piece_blk (hB7.keep hb8) (by rw [maskL_len, KLn.out]) (by omega), piece_blk ((I7.keep hb8).cast I0.out) I1.out (by omega), trivial⟩
  have hX8 : Below w.heap.size w w8 := hX7.trans (hb8.mono (by omega))
  have hO := of_any w8 _ 2 2 _ hP (GL.out.below hX8 h2) (by omega) (by omega) (by simp [maskL_len, KLn.out, I1.out])
  simp only [List.flatten_cons, List.flatten_nil, List.append_nil] at hO
  rw [← D1.out] at hO
  have R8 := Lib.hid (R7.out.keep hb8)
  have X8 := Lib.hid hX8
  clear hw8 hb8 hP hX8 hX7 I7 hB7 hb7 R7
  refine wpAny_ready (rs := [4]) (by kernel_rfl) (by simp) ?_
  refine AllReady.cons rfl (fun K hK => ?_) AllReady.nil
  go_simp
  refine hO.mono ?_
  rintro e w9 ⟨rfl, hb9⟩
  go_simp
  refine hK _ _ ?_
  clear hK K hO
  have hs9 := hb9.size
  have R9 := Lib.hid (R8.out.keep hb9)
  have X9 := Lib.hid (X8.out.trans (hb9.mono (by omega)))
  clear hb9
  refine wpAny_ready (rs := [5]) (by kernel_rfl) (by simp) ?_
  refine AllReady.cons rfl (fun K hK => ?_) AllReady.nil
  refine step_store_at rfl 27 (.tmp 4) (.tmp 19) rfl w.heap.size 0 27 Z27 DA rfl rfl R9.out D3.out D4.out D5.out ?_
  intro w10 HB HG
  refine hK _ _ ?_
  clear hK K
  refine wpAny_done (by kernel_rfl) ?_ _
  go_frame
  go_wp2_with fail
  have hB10 : Blk w10 w.heap.size 27 DA := HB.out.cast (by rw [splice_all _ _ (by rw [Array.length_toList, Array.length_toList, D2.out, Z27, agg8_size]; simp), Array.toArray_toList])
  refine bodyPost_ret (results_cell_row Tryd.results23 _ _ _ _ _ _ _ rfl hB10 Tryd.underlying27 rfl D3.out) rfl ⟨rfl, ?_⟩
  exact X9.out.keepB' HG.out X9.out.size (Nat.le_refl _)
end Go.Proofs.YtgkfkfodeooogaaDoor
