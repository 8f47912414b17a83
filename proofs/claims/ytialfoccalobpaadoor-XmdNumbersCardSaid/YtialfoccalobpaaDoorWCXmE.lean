/-
  Layer 11: the head of the laws.
-/
import Derived.Test.YtialfoccalobpaaDoorWCXmD
namespace Go.Proofs.YtialfoccalobpaaDoor
set_option linter.unusedSimpArgs false
set_option linter.unusedVariables false
open Go.RowKit
attribute [local irreducible] wpL wpF fr Code.wp bodyPost
def quux : List Int := [81, 85, 85, 88, 45, 86, 48, 49, 45, 67, 83, 48, 50, 45, 119, 105, 116, 104, 45, 101, 120, 112, 97, 110, 100, 101, 114, 45, 83, 72, 65, 50, 53, 54, 45, 49, 50, 56]
theorem xh_0 : gt (expandL [] quux 32) 0 = 104 := by decide +kernel
theorem xh_1 : gt (expandL [] quux 32) 1 = 169 := by decide +kernel
theorem xh_31 : gt (expandL [] quux 32) 31 = 53 := by decide +kernel
set_option maxRecDepth 100000 in
set_option maxHeartbeats 4000000 in
theorem x_head  (v : World) (hgl : Glob v) (h2 : 3 ≤ v.heap.size) : Rets 8 #[] v (.bool true) := by
  refine calls_fr0 Tryd.func8 rfl (by rfl : _ = 34) ?_
  have hw := Hbl.nil v
  refine seq_plain hw [0] (by rfl) ?_
  refine L_val (.bool false) (by rfl) (by rfl) (gives_value _ fun _ => by rfl) ?_
  refine L_end ?_
  intro w1 hw1
  refine seq_plain hw1 [0, 1, 2, 3, 4, 5, 6, 7] (by rfl) ?_
  refine L_buildV 38 (.int .u8 0) [.int .u8 81, .int .u8 85, .int .u8 85, .int .u8 88, .int .u8 45, .int .u8 86, .int .u8 48, .int .u8 49, .int .u8 45, .int .u8 67, .int .u8 83, .int .u8 48, .int .u8 50, .int .u8 45, .int .u8 119, .int .u8 105, .int .u8 116, .int .u8 104, .int .u8 45, .int .u8 101, .int .u8 120, .int .u8 112, .int .u8 97, .int .u8 110, .int .u8 100, .int .u8 101, .int .u8 114, .int .u8 45, .int .u8 83, .int .u8 72, .int .u8 65, .int .u8 50, .int .u8 53, .int .u8 54, .int .u8 45, .int .u8 49, .int .u8 50, .int .u8 56] (by rfl) (by rfl) Want.none und_u8s u8_zs (by rfl) (by rfl) (by rfl) (by intro u hu; simp only [List.mem_cons, List.not_mem_nil, or_false] at hu; rcases hu with rfl | rfl | rfl | rfl | rfl | rfl | rfl | rfl | rfl | rfl | rfl | rfl | rfl | rfl | rfl | rfl | rfl | rfl | rfl | rfl | rfl | rfl | rfl | rfl | rfl | rfl | rfl | rfl | rfl | rfl | rfl | rfl | rfl | rfl | rfl | rfl | rfl | rfl <;> rfl) (by rfl) (by rfl) ?_; intro g1
  have hn_1 : Nms .u8 ([.int .u8 81, .int .u8 85, .int .u8 85, .int .u8 88, .int .u8 45, .int .u8 86, .int .u8 48, .int .u8 49, .int .u8 45, .int .u8 67, .int .u8 83, .int .u8 48, .int .u8 50, .int .u8 45, .int .u8 119, .int .u8 105, .int .u8 116, .int .u8 104, .int .u8 45, .int .u8 101, .int .u8 120, .int .u8 112, .int .u8 97, .int .u8 110, .int .u8 100, .int .u8 101, .int .u8 114, .int .u8 45, .int .u8 83, .int .u8 72, .int .u8 65, .int .u8 50, .int .u8 53, .int .u8 54, .int .u8 45, .int .u8 49, .int .u8 50, .int .u8 56] : List Value).toArray 38 38 [81, 85, 85, 88, 45, 86, 48, 49, 45, 67, 83, 48, 50, 45, 119, 105, 116, 104, 45, 101, 120, 112, 97, 110, 100, 101, 114, 45, 83, 72, 65, 50, 53, 54, 45, 49, 50, 56] := Nms.all (by rfl) (by rfl) (by omega)
  refine L_lit 0 g1 38 38 ([81, 85, 85, 88, 45, 86, 48, 49, 45, 67, 83, 48, 50, 45, 119, 105, 116, 104, 45, 101, 120, 112, 97, 110, 100, 101, 114, 45, 83, 72, 65, 50, 53, 54, 45, 49, 50, 56]) ([.int .u8 81, .int .u8 85, .int .u8 85, .int .u8 88, .int .u8 45, .int .u8 86, .int .u8 48, .int .u8 49, .int .u8 45, .int .u8 67, .int .u8 83, .int .u8 48, .int .u8 50, .int .u8 45, .int .u8 119, .int .u8 105, .int .u8 116, .int .u8 104, .int .u8 45, .int .u8 101, .int .u8 120, .int .u8 112, .int .u8 97, .int .u8 110, .int .u8 100, .int .u8 101, .int .u8 114, .int .u8 45, .int .u8 83, .int .u8 72, .int .u8 65, .int .u8 50, .int .u8 53, .int .u8 54, .int .u8 45, .int .u8 49, .int .u8 50, .int .u8 56] : List Value).toArray (by rfl) (by rfl) (by rfl) (by rfl) hn_1 und_u8s und_u8' ?_; intro v hbv hsv hrL; have hncL : 38 ≤ 38 := Nat.le_refl _
  have hgl := hgl.below hbv h2
  have h2 := Nat.le_trans h2 hsv
  refine L_freshT (vl := [.slice none 0 0, .slice (some ⟨g1, 0, none⟩) 38 38, .int .i64 32]) 32 (expandL ([]) ([81, 85, 85, 88, 45, 86, 48, 49, 45, 67, 83, 48, 50, 45, 119, 105, 116, 104, 45, 101, 120, 112, 97, 110, 100, 101, 114, 45, 83, 72, 65, 50, 53, 54, 45, 49, 50, 56]) 32) (by rfl) (by rfl) Want.none (by kernel_rfl) (by rfl) (fun w h => x_expand _ _ _ ([]) _ _ _ ([81, 85, 85, 88, 45, 86, 48, 49, 45, 67, 83, 48, 50, 45, 119, 105, 116, 104, 45, 101, 120, 112, 97, 110, 100, 101, 114, 45, 83, 72, 65, 50, 53, 54, 45, 49, 50, 56]) 32 w Reads.nil_ (Nat.le_refl _) ((hrL.below h.below).more h.below.size) hncL (hgl.below h.below h2) (Nat.le_trans h2 h.below.size) (by omega) (by omega) (by omega)) ?_; intro g2 cap_2 cs_2 hn_2
  refine L_val (.tuple #[.slice (some ⟨g2, 0, none⟩) 32 32, .int .i64 0]) (by rfl) (by rfl) (gives_value _ fun _ => by rfl) ?_
  refine L_val (.slice (some ⟨g2, 0, none⟩) 32 32) (by rfl) (by rfl) (gives_value _ fun _ => by kernel_rfl) ?_
  refine L_val (.int .i64 0) (by rfl) (by rfl) (gives_value _ fun _ => by kernel_rfl) ?_
  refine L_val (.slice (some ⟨g2, 0, none⟩) 32 32) (by rfl) (by rfl) (gives_value _ fun _ => by rfl) ?_
  refine L_val (.int .i64 0) (by rfl) (by rfl) (gives_value _ fun _ => by rfl) ?_
  refine L_end ?_
  intro w2 hw2
  refine seq_plain hw2 [0, 1, 2, 3, 4, 5, 6, 7, 8, 9, 10, 11, 12, 13, 14, 15, 16, 17, 18, 19, 20, 21, 22, 23, 24, 25] (by rfl) ?_
  refine L_val (.int .i64 0) (by rfl) (by rfl) (gives_value _ fun _ => by rfl) ?_
  refine L_val (.bool true) (by rfl) (by rfl) (gives_ieq (k := .i64) 0 0 true (by rfl) (by rfl) (by rfl)) ?_
  refine L_val (.bool true) (by rfl) (by rfl) (gives_value _ fun _ => by rfl) ?_
  refine L_val_g (dj := 11) (.slice (some ⟨g2, 0, none⟩) 32 32) (by rfl) (by rfl) (by rfl) (by rfl) (by rfl) (gives_value _ fun _ => by rfl) ?_
  refine L_val_g (dj := 11) (.int .i64 (32 : Int)) (by rfl) (by rfl) (by rfl) (by rfl) (by rfl) (gives_len _ 32 32 und_u8s (by rfl)) ?_
  refine L_val_g (dj := 11) (.bool true) (by rfl) (by rfl) (by rfl) (by rfl) (by rfl) (gives_ieq (k := .i64) ((32 : Int)) (32) true (by rfl) (by rfl) (decide_eq_true (by omega))) ?_
  refine L_val (.bool true) (by rfl) (by rfl) (gives_value _ fun _ => by rfl) ?_
  refine L_val (.bool true) (by rfl) (by rfl) (gives_value _ fun _ => by rfl) ?_
  refine L_val_g (dj := 16) (.slice (some ⟨g2, 0, none⟩) 32 32) (by rfl) (by rfl) (by rfl) (by rfl) (by rfl) (gives_value _ fun _ => by rfl) ?_
  refine L_val_g (dj := 16) (.pointer (some ⟨g2, 0 + (0), none⟩)) (by rfl) (by rfl) (by rfl) (by rfl) (by rfl) (gives_index g2 0 (32) (32) (0) (0) (by rfl) (by rfl) und_u8s u8_sz (by omega) (by omega)) ?_
  refine L_val_g (dj := 16) (.int .u8 (gt (expandL ([]) ([81, 85, 85, 88, 45, 86, 48, 49, 45, 67, 83, 48, 50, 45, 119, 105, 116, 104, 45, 101, 120, 112, 97, 110, 100, 101, 114, 45, 83, 72, 65, 50, 53, 54, 45, 49, 50, 56]) 32) 0)) (by rfl) (by rfl) (by rfl) (by rfl) (by rfl) (gives_load1 g2 (0 + (0)) _ cs_2 (.int .u8 (gt (expandL ([]) ([81, 85, 85, 88, 45, 86, 48, 49, 45, 67, 83, 48, 50, 45, 119, 105, 116, 104, 45, 101, 120, 112, 97, 110, 100, 101, 114, 45, 83, 72, 65, 50, 53, 54, 45, 49, 50, 56]) 32) 0)) (by rfl) (fun _ h => h.blk 0 (by rfl)) (hn_2.get (by omega)) und_u8') ?_
  refine L_val_g (dj := 16) (.bool true) (by rfl) (by rfl) (by rfl) (by rfl) (by rfl) (gives_ieq (k := .u8) (gt (expandL ([]) ([81, 85, 85, 88, 45, 86, 48, 49, 45, 67, 83, 48, 50, 45, 119, 105, 116, 104, 45, 101, 120, 112, 97, 110, 100, 101, 114, 45, 83, 72, 65, 50, 53, 54, 45, 49, 50, 56]) 32) 0) (104) true (by rfl) (by rfl) (decide_eq_true xh_0)) ?_
  refine L_val (.bool true) (by rfl) (by rfl) (gives_value _ fun _ => by rfl) ?_
  refine L_val (.bool true) (by rfl) (by rfl) (gives_value _ fun _ => by rfl) ?_
  refine L_val_g (dj := 22) (.slice (some ⟨g2, 0, none⟩) 32 32) (by rfl) (by rfl) (by rfl) (by rfl) (by rfl) (gives_value _ fun _ => by rfl) ?_
  refine L_val_g (dj := 22) (.pointer (some ⟨g2, 0 + (1), none⟩)) (by rfl) (by rfl) (by rfl) (by rfl) (by rfl) (gives_index g2 0 (32) (32) (1) (1) (by rfl) (by rfl) und_u8s u8_sz (by omega) (by omega)) ?_
  refine L_val_g (dj := 22) (.int .u8 (gt (expandL ([]) ([81, 85, 85, 88, 45, 86, 48, 49, 45, 67, 83, 48, 50, 45, 119, 105, 116, 104, 45, 101, 120, 112, 97, 110, 100, 101, 114, 45, 83, 72, 65, 50, 53, 54, 45, 49, 50, 56]) 32) 1)) (by rfl) (by rfl) (by rfl) (by rfl) (by rfl) (gives_load1 g2 (0 + (1)) _ cs_2 (.int .u8 (gt (expandL ([]) ([81, 85, 85, 88, 45, 86, 48, 49, 45, 67, 83, 48, 50, 45, 119, 105, 116, 104, 45, 101, 120, 112, 97, 110, 100, 101, 114, 45, 83, 72, 65, 50, 53, 54, 45, 49, 50, 56]) 32) 1)) (by rfl) (fun _ h => h.blk 0 (by rfl)) (hn_2.get (by omega)) und_u8') ?_
  refine L_val_g (dj := 22) (.bool true) (by rfl) (by rfl) (by rfl) (by rfl) (by rfl) (gives_ieq (k := .u8) (gt (expandL ([]) ([81, 85, 85, 88, 45, 86, 48, 49, 45, 67, 83, 48, 50, 45, 119, 105, 116, 104, 45, 101, 120, 112, 97, 110, 100, 101, 114, 45, 83, 72, 65, 50, 53, 54, 45, 49, 50, 56]) 32) 1) (169) true (by rfl) (by rfl) (decide_eq_true xh_1)) ?_
  refine L_val (.bool true) (by rfl) (by rfl) (gives_value _ fun _ => by rfl) ?_
  refine L_val (.bool true) (by rfl) (by rfl) (gives_value _ fun _ => by rfl) ?_
  refine L_val_g (dj := 28) (.slice (some ⟨g2, 0, none⟩) 32 32) (by rfl) (by rfl) (by rfl) (by rfl) (by rfl) (gives_value _ fun _ => by rfl) ?_
  refine L_val_g (dj := 28) (.pointer (some ⟨g2, 0 + (31), none⟩)) (by rfl) (by rfl) (by rfl) (by rfl) (by rfl) (gives_index g2 0 (32) (32) (31) (31) (by rfl) (by rfl) und_u8s u8_sz (by omega) (by omega)) ?_
  refine L_val_g (dj := 28) (.int .u8 (gt (expandL ([]) ([81, 85, 85, 88, 45, 86, 48, 49, 45, 67, 83, 48, 50, 45, 119, 105, 116, 104, 45, 101, 120, 112, 97, 110, 100, 101, 114, 45, 83, 72, 65, 50, 53, 54, 45, 49, 50, 56]) 32) 31)) (by rfl) (by rfl) (by rfl) (by rfl) (by rfl) (gives_load1 g2 (0 + (31)) _ cs_2 (.int .u8 (gt (expandL ([]) ([81, 85, 85, 88, 45, 86, 48, 49, 45, 67, 83, 48, 50, 45, 119, 105, 116, 104, 45, 101, 120, 112, 97, 110, 100, 101, 114, 45, 83, 72, 65, 50, 53, 54, 45, 49, 50, 56]) 32) 31)) (by rfl) (fun _ h => h.blk 0 (by rfl)) (hn_2.get (by omega)) und_u8') ?_
  refine L_val_g (dj := 28) (.bool true) (by rfl) (by rfl) (by rfl) (by rfl) (by rfl) (gives_ieq (k := .u8) (gt (expandL ([]) ([81, 85, 85, 88, 45, 86, 48, 49, 45, 67, 83, 48, 50, 45, 119, 105, 116, 104, 45, 101, 120, 112, 97, 110, 100, 101, 114, 45, 83, 72, 65, 50, 53, 54, 45, 49, 50, 56]) 32) 31) (53) true (by rfl) (by rfl) (decide_eq_true xh_31)) ?_
  refine L_val (.bool true) (by rfl) (by rfl) (gives_value _ fun _ => by rfl) ?_
  refine L_val (.bool true) (by rfl) (by rfl) (gives_value _ fun _ => by rfl) ?_
  refine L_end ?_
  intro w3 hw3
  refine wp_ret ?_
  change bodyPost _ _ _ Exit.ret _ _
  refine (ret_tmp (by rfl) (by rfl) (by rfl) ⟨rfl, hbv.trans (hw3.below.mono hsv)⟩)
end Go.Proofs.YtialfoccalobpaaDoor
