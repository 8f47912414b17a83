/-
  The contract of mix: a block goes into the state.
-/
import Derived.Test.YtialfoccalobpaaDoorWCShSch
namespace Go.Proofs.YtialfoccalobpaaDoor
open Go.RowKit
/-- The listed factors, and the listed start. -/
def factorsL : List Int := [1116352408, 1899447441, 3049323471, 3921009573, 961987163, 1508970993, 2453635748, 2870763221, 3624381080, 310598401, 607225278, 1426881987, 1925078388, 2162078206, 2614888103, 3248222580, 3835390401, 4022224774, 264347078, 604807628, 770255983, 1249150122, 1555081692, 1996064986, 2554220882, 2821834349, 2952996808, 3210313671, 3336571891, 3584528711, 113926993, 338241895, 666307205, 773529912, 1294757372, 1396182291, 1695183700, 1986661051, 2177026350, 2456956037, 2730485921, 2820302411, 3259730800, 3345764771, 3516065817, 3600352804, 4094571909, 275423344, 430227734, 506948616, 659060556, 883997877, 958139571, 1322822218, 1537002063, 1747873779, 1955562222, 2024104815, 2227730452, 2361852424, 2428436474, 2756734187, 3204031479, 3329325298]
def startS : S8 := ⟨1779033703, 3144134277, 1013904242, 2773480762, 1359893119, 2600822924, 528734635, 1541459225⟩
/-- The two listed variables lie where the program has them. -/
structure Glob (w : World) : Prop where
  start : ∀ (j : Nat) v, startS.cells.toArray[j]? = some v → w.cell? ⟨0, 0 + j, none⟩ = some v
  factors : ∀ (j : Nat), j < 64 → w.cell? ⟨2, j, none⟩ = some (.int .u32 (gt factorsL j))
theorem Glob.keep {w w' : World} (h : Glob w) (hk : ∀ p : Addr, p.block < 3 → w'.cell? p = w.cell? p) : Glob w' :=
  ⟨fun j v hv => (hk _ (show (0 : Nat) < 3 by omega)).trans (h.start j v hv), fun j hj => (hk _ (show (2 : Nat) < 3 by omega)).trans (h.factors j hj)⟩
theorem Glob.below {w w' : World} (h : Glob w) {B : Nat} (hb : Below B w w') (hB : 3 ≤ B) : Glob w' := h.keep fun _ hp => hb.cell (by omega)
theorem Glob.only {w w' : World} (h : Glob w) {g : Nat} (hb : w.grownBy w' (some g)) (hg : 3 ≤ g) (hs : 3 ≤ w.heap.size) : Glob w' :=
  h.keep fun p hp => World.cell?_of_block (hb.block p.block (by omega) (fun e => by cases e; omega))
theorem Glob.drewN {w : World} (h : Glob w) (n : Nat) : Glob (w.drewN n) := ⟨h.start, h.factors⟩

def tSum (s : S8) (k w : Int) : Int :=
  (s.h + bits .xor .u32 (bits .xor .u32 (rotr 6 s.e) (rotr 11 s.e)) (rotr 25 s.e) + bits .xor .u32 (bits .and .u32 s.e s.f) (bits .and .u32 (bits .xor .u32 4294967295 s.e) s.g) + k + w) % 4294967296
def uSum (s : S8) : Int :=
  (bits .xor .u32 (bits .xor .u32 (rotr 2 s.a) (rotr 13 s.a)) (rotr 22 s.a) + bits .xor .u32 (bits .xor .u32 (bits .and .u32 s.a s.b) (bits .and .u32 s.a s.c)) (bits .and .u32 s.b s.c)) % 4294967296
def rnd (s : S8) (k w : Int) : S8 := ⟨(tSum s k w + uSum s) % 4294967296, s.a, s.b, s.c, (s.d + tSum s k w) % 4294967296, s.e, s.f, s.g⟩
def rounds (W : List Int) (s : S8) : Nat → S8
  | 0 => s
  | i + 1 => rnd (rounds W s i) (gt factorsL i) (gt W i)

def S8.list (s : S8) : List Int := [s.a, s.b, s.c, s.d, s.e, s.f, s.g, s.h]
def addUp (s m : S8) (k j : Nat) : Int := if j < k then (gt s.list j + gt m.list j) % 4294967296 else gt s.list j
def partS (s m : S8) (k : Nat) : S8 := ⟨addUp s m k 0, addUp s m k 1, addUp s m k 2, addUp s m k 3, addUp s m k 4, addUp s m k 5, addUp s m k 6, addUp s m k 7⟩
def mixF (s : S8) (blk : List Int) : S8 := partS s (rounds (extW blk 48) s 64) 8
theorem partS_cell (s m : S8) (blk : List Int) (n : Int) (k : Nat) (hk : k < 8) : (hcells (partS s m k) blk n)[k]? = some (Value.int .u32 (gt s.list k)) := by
  match k, hk with
  | 0, _ | 1, _ | 2, _ | 3, _ | 4, _ | 5, _ | 6, _ | 7, _ => simp [hcells, S8.cells, partS, addUp]
theorem list_cell (m : S8) (k : Nat) (hk : k < 8) : m.cells.toArray[k]? = some (Value.int .u32 (gt m.list k)) := by
  match k, hk with
  | 0, _ | 1, _ | 2, _ | 3, _ | 4, _ | 5, _ | 6, _ | 7, _ => simp [S8.cells, S8.list, gt]
theorem partS_set (s m : S8) (blk : List Int) (n : Int) (k : Nat) (hk : k < 8) :
    (hcells (partS s m k) blk n).setIfInBounds k (.int .u32 ((gt s.list k + gt m.list k) % 4294967296)) = hcells (partS s m (k + 1)) blk n := by
  match k, hk with
  | 0, _ | 1, _ | 2, _ | 3, _ | 4, _ | 5, _ | 6, _ | 7, _ => simp [hcells, S8.cells, partS, addUp]
set_option maxRecDepth 100000 in
set_option maxHeartbeats 1000000 in
theorem mix_any (g : Nat) (w : World) (s : S8) (blk : List Int) (n : Int) (hb : blk.length = 64) (hg : Blk w g 106 (hcells s blk n)) (hgl : Glob w) (h2 : 3 ≤ g) :
    Calls Tryd.prog 60 #[.pointer (some ⟨g, 0, none⟩)] w fun e w' => e = .returned (.tuple #[]) ∧ w.grownBy w' (some g) ∧ Blk w' g 106 (hcells (mixF s blk) blk n) := by
  have hlt := hg.lt
  obtain ⟨W, hWe⟩ : ∃ W, W = extW blk 48 := ⟨_, rfl⟩
  have hWl : W.length = 64 := by rw [hWe, extW_len]
  have HS := Lib.hid (sched_any g w s blk n hb hg)
  rw [← hWe] at HS
  have HG := Lib.hid hg
  have HGL := Lib.hid hgl
  have WE := Lib.hid hWe
  clear hWe
  clear hg hgl
  have hs1 : (fillArr 64 W).size = 64 := fillArr_size _ _ (by omega)
  have h1c : (fillArr 64 W).all (·.oneCell') = true := by
    rw [Array.all_eq_true_iff_forall_mem]
    intro v hv
    simp only [fillArr, List.mem_toArray, List.mem_append, List.mem_map, List.mem_replicate] at hv
    rcases hv with ⟨_, _, rfl⟩ | ⟨_, rfl⟩ <;> rfl
  have hW : ∀ k, k < 64 → (fillArr 64 W)[k]? = some (Value.int .u32 (gt W k)) := fun k hk => fillArr_get 64 W k (by omega)
  obtain ⟨FW, hFW⟩ : ∃ FW, FW = fillArr 64 W := ⟨_, rfl⟩
  rw [← hFW] at HS hs1 h1c hW
  have hi : (Tryd.prog.info? 157).map (·.size) = some FW.size := by rw [hs1]; kernel_rfl
  have HI := Lib.hid hi
  have HF0 := Lib.hid (show 0 + FW.size ≤ (fillArr 64 []).size by rw [hs1, fillArr_size _ _ (by simp)]; omega)
  have S1 := Lib.hid hs1
  have C1 := Lib.hid h1c
  have HW := Lib.hid hW
  clear hi hs1 h1c hW hFW
  go_enter Tryd.func60, Tryd.ntmps60
  go_wp2_with fail
  refine HS.out.mono ?_
  rintro e w1 ⟨rfl, hb1⟩
  have HB1 := Lib.hid hb1
  clear hb1
  go_wp2_with ((with_reducible refine wpList_store_at (ty := 157) (x := .tmp 2) (y := .tmp 17) w1.heap.size 0 157 (fillArr 64 []) FW ?_ ?_ ?_ HI.out HF0.out C1.out ?_); exact rfl; exact rfl; exact (Blk.new w1 157 _).cast rfl; intro w2 HB2 HG2)
  have hw1 : w.heap.size ≤ w1.heap.size := HB1.out.size
  have hg2 : Blk w2 g 106 (hcells s blk n) := (((HG.out.below HB1.out hlt).alloc _).grown HG2.out (by simp; omega))
  have GG := Lib.hid (only_of_below ((HB1.out.alloc HB1.out.size (Obj.cells (fillArr 64 []) 157)).keepB' HG2.out (by simp; omega) hw1) (some g))
  have HGL2 := Lib.hid ((HGL.out.below (HB1.out.alloc HB1.out.size (Obj.cells (fillArr 64 []) 157)) (by omega)).only HG2.out (by omega) (by simp; omega))
  have HC2 := Lib.hid (HB2.out.cast (cs' := FW) (by rw [splice_all _ _ (by rw [Array.length_toList, Array.length_toList, S1.out, fillArr_size _ _ (by simp)]), Array.toArray_toList]))
  have hsz : w1.heap.size < w2.heap.size := HC2.out.lt
  have q0 := hg2.at_ (i := 0) (v := Value.int .u32 s.a) (by simp [hcells, S8.cells])
  have q1 := hg2.at_ (i := 1) (v := Value.int .u32 s.b) (by simp [hcells, S8.cells])
  have q2 := hg2.at_ (i := 2) (v := Value.int .u32 s.c) (by simp [hcells, S8.cells])
  have q3 := hg2.at_ (i := 3) (v := Value.int .u32 s.d) (by simp [hcells, S8.cells])
  have q4 := hg2.at_ (i := 4) (v := Value.int .u32 s.e) (by simp [hcells, S8.cells])
  have q5 := hg2.at_ (i := 5) (v := Value.int .u32 s.f) (by simp [hcells, S8.cells])
  have q6 := hg2.at_ (i := 6) (v := Value.int .u32 s.g) (by simp [hcells, S8.cells])
  have q7 := hg2.at_ (i := 7) (v := Value.int .u32 s.h) (by simp [hcells, S8.cells])
  have HG2' := Lib.hid hg2
  clear hg2 HB2 HG2 HB1 HG HGL HS
  go_frame
  go_quiet (fail)
  go_wp2_with fail
  clear q0 q1 q2 q3 q4 q5 q6 q7
  go_loopw [3, 4, 5, 6, 7, 8, 9, 10, 58] (fun va vb vc vd ve vf vg vh i wr => ∃ k : Nat, k ≤ 64 ∧ i = .int .i64 k ∧ va = .int .u32 (rounds W s k).a ∧ vb = .int .u32 (rounds W s k).b ∧ vc = .int .u32 (rounds W s k).c ∧ vd = .int .u32 (rounds W s k).d ∧ ve = .int .u32 (rounds W s k).e ∧ vf = .int .u32 (rounds W s k).f ∧ vg = .int .u32 (rounds W s k).g ∧ vh = .int .u32 (rounds W s k).h ∧
      w.grownBy wr (some g) ∧ Blk wr g 106 (hcells s blk n) ∧ Glob wr ∧ Blk wr w1.heap.size 157 FW) (fun _ _ _ _ _ _ _ _ i _ => 64 - (intOf i).toNat)
  case atStart => exact ⟨0, Nat.zero_le _, rfl, rfl, rfl, rfl, rfl, rfl, rfl, rfl, rfl, only_drewN GG.out _, HG2'.out.drewN _, HGL2.out.drewN _, HC2.out.drewN _⟩
  case round =>
    obtain ⟨k, hk, rfl, rfl, rfl, rfl, rfl, rfl, rfl, rfl, rfl, hG, hB, hL, hF⟩ := hrel
    obtain ⟨S, hS⟩ : ∃ S, S = rounds W s k := ⟨_, rfl⟩
    rw [← hS]
    by_cases hlt : k < 64
    · have hnext : rounds W s (k + 1) = rnd S (gt factorsL k) (gt W k) := by rw [hS]; rfl
      have HN := Lib.hid hnext
      have cf := hL.factors k hlt
      have cw := hF.at_ (HW.out k hlt)
      have G1 := Lib.hid hG
      have G2 := Lib.hid hB
      have G3 := Lib.hid hL
      have G4 := Lib.hid hF
      have G5 := Lib.hid hS
      clear hG hB hL hF hS hnext
      go_wp2_with fail
      go_quiet ((go_at_call 117; exact quiet_left (turn_any _ _ _ (by omega) (by omega))))
      go_wp2_with (go_at_call 117; refine (turn_any _ _ _ (by omega) (by omega)).mono ?_; rintro e w' ⟨rfl, rfl⟩)
      exact ⟨⟨k + 1, by omega, by go_num, by rw [HN.out]; rfl, by rw [HN.out]; rfl, by rw [HN.out]; rfl, by rw [HN.out]; rfl, by rw [HN.out]; rfl, by rw [HN.out]; rfl, by rw [HN.out]; rfl, by rw [HN.out]; rfl, only_drewN G1.out _, G2.out.drewN _, G3.out.drewN _, G4.out.drewN _⟩, by simp [intOf]; omega⟩
    · obtain rfl : k = 64 := by omega
      have hfin : mixF s blk = partS s S 8 := by rw [hS, WE.out]; rfl
      have FIN := Lib.hid hfin
      have G1 := Lib.hid hG
      have G2 := Lib.hid hB
      have hgr : g < wr.heap.size := hB.lt
      have hwr : w.heap.size ≤ wr.heap.size := hG.size
      clear hG hB hL hF hS hfin
      rw [show ((64 : Nat) : Int) = 64 from rfl]
      go_wp2_with fail
      go_loopw [15, 130] (fun _ i wq => ∃ k : Nat, k ≤ 8 ∧ i = .int .i64 k ∧ w.grownBy wq (some g) ∧ Blk wq g 106 (hcells (partS s S k) blk n) ∧ Blk wq wr.heap.size 103 S.cells.toArray) (fun _ i _ => 8 - (intOf i).toNat)
      case atStart => exact ⟨0, Nat.zero_le _, rfl, only_alloc G1.out _, G2.out.alloc _, Blk.new wr 103 _⟩
      case round =>
        obtain ⟨k, hk, rfl, hG, hB, hM⟩ := hrel
        by_cases hlt : k < 8
        · have c0 := hB.at_ (partS_cell s S blk n k hlt)
          have c1 := hM.at_ (list_cell S k hlt)
          have hf := hB.frozen k
          have N2 := Lib.hid (partS_set s S blk n k hlt)
          have N1 := Lib.hid hG
          have N3 := Lib.hid hB
          have N4 := Lib.hid hM
          clear hG hB hM
          go_wp2_with fail
          go_region
          go_wp2_with fail
          exact ⟨⟨k + 1, by omega, by go_num, only_drew (only_setCell N1.out (p := ⟨g, k, none⟩) (.inl rfl) _), ((N3.out.set_ k _).cast N2.out).drew, (N4.out.far (p := ⟨g, k, none⟩) (by simp only []; omega) _).drew⟩, by simp [intOf]; omega⟩
        · obtain rfl : k = 8 := by omega
          have N1 := Lib.hid hG
          have N3 := Lib.hid hB
          clear hG hB hM
          go_wp2_with fail
          go_end0
          exact ⟨rfl, N1.out, by rw [FIN.out]; exact N3.out⟩
end Go.Proofs.YtialfoccalobpaaDoor
