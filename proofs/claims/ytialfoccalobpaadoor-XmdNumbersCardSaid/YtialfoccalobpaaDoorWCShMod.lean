/-
  The digest's parts as plain functions on numbers, spelled as the walk spells them. No program stands here.
-/
import Derived.Test.YtialfoccalobpaaDoorWCA0
namespace Go.Proofs.YtialfoccalobpaaDoor
open Go.RowKit
def byteOf (x : Int) (k : Nat) : Int := x / 2 ^ (24 - 8 * k) % 256
def putN (cs : Array Value) (o : Nat) (x : Int) : Nat → Array Value
  | 0 => cs
  | k + 1 => (putN cs o x k).setIfInBounds (o + k) (.int .u8 (byteOf x k))
theorem putN_size (cs : Array Value) (o : Nat) (x : Int) (k : Nat) : (putN cs o x k).size = cs.size := by
  induction k with
  | zero => rfl
  | succ k ih => simp [putN, ih]
theorem _root_.Go.RowKit.Below.keepB' {g : Nat} {B : Nat} {a b c : World} (h : Below B a b) (k : b.grownBy c (some g)) (hB : B ≤ b.heap.size) (hg : B ≤ g) : Below B a c :=
  h.grown k hB (fun i hi => by cases hi; exact hg)
def padLen (n : Nat) : Nat := 9 + (64 - (n + 9) % 64) % 64
theorem padLen_le (n : Nat) : 9 ≤ padLen n ∧ padLen n ≤ 72 := by unfold padLen; omega
def padCells (n : Nat) : Array Value :=
  putN (putN ((Array.replicate (padLen n) (.int .u8 0)).setIfInBounds 0 (.int .u8 128)) (padLen n - 8) (8 * (n : Int) / 4294967296) 4) (padLen n - 4) (8 * (n : Int) % 4294967296) 4
def rotr (n : Nat) (x : Int) : Int := bits .or .u32 (x * 2 ^ (32 - n) % 4294967296) (x / 2 ^ n)
def be32 (a0 a1 a2 a3 : Int) : Int :=
  bits .or .u32 (bits .or .u32 (bits .or .u32 (a0 % 4294967296 * 16777216 % 4294967296) (a1 % 4294967296 * 65536 % 4294967296)) (a2 % 4294967296 * 256 % 4294967296)) (a3 % 4294967296)
theorem cnt_eq (n : Nat) (h1 : 1 ≤ n) (h2 : n ≤ 31) : bits BinOp.and IntKind.u64 (IntKind.u64.wrap (-(n : Int))) 31 = ((32 - n : Nat) : Int) := by
  have h : ∀ m : Fin 32, 1 ≤ m.val → bits BinOp.and IntKind.u64 (IntKind.u64.wrap (-(m.val : Int))) 31 = ((32 - m.val : Nat) : Int) := by decide +kernel
  exact h ⟨n, by omega⟩ h1
def fillArr (n : Nat) (l : List Int) : Array Value := (l.map (Value.int .u32) ++ List.replicate (n - l.length) (Value.int .u32 0)).toArray
theorem fillArr_size (n : Nat) (l : List Int) (h : l.length ≤ n) : (fillArr n l).size = n := by simp [fillArr]; omega
theorem fillArr_get (n : Nat) (l : List Int) (i : Nat) (h : i < l.length) : (fillArr n l)[i]? = some (Value.int .u32 (gt l i)) := by
  simp [fillArr, List.getElem?_append, h, gt]
theorem fillArr_set (n : Nat) (l : List Int) (x : Int) (h : l.length < n) : (fillArr n l).setIfInBounds l.length (.int .u32 x) = fillArr n (l ++ [x]) := by
  unfold fillArr
  have e : n - l.length = (n - (l ++ [x]).length) + 1 := by simp; omega
  rw [e, List.replicate_succ]
  simp

def firstW (blk : List Int) : Nat → List Int
  | 0 => []
  | k + 1 => firstW blk k ++ [be32 (gt blk (4 * k)) (gt blk (4 * k + 1)) (gt blk (4 * k + 2)) (gt blk (4 * k + 3))]
theorem firstW_len (blk : List Int) (k : Nat) : (firstW blk k).length = k := by
  induction k with
  | zero => rfl
  | succ k ih => simp [firstW, ih]
def nextW (w0 w1 w9 w14 : Int) : Int :=
  (w0 + bits .xor .u32 (bits .xor .u32 (rotr 7 w1) (rotr 18 w1)) (w1 / 8) + w9 + bits .xor .u32 (bits .xor .u32 (rotr 17 w14) (rotr 19 w14)) (w14 / 1024)) % 4294967296
def extW (blk : List Int) : Nat → List Int
  | 0 => firstW blk 16
  | k + 1 => extW blk k ++ [nextW (gt (extW blk k) k) (gt (extW blk k) (k + 1)) (gt (extW blk k) (k + 9)) (gt (extW blk k) (k + 14))]
theorem extW_len (blk : List Int) (k : Nat) : (extW blk k).length = k + 16 := by
  induction k with
  | zero => exact firstW_len blk 16
  | succ k ih => simp [extW, ih]
/-- The cells of a hash. -/
structure S8 where
  (a b c d e f g h : Int)
def S8.cells (s : S8) : List Value := [.int .u32 s.a, .int .u32 s.b, .int .u32 s.c, .int .u32 s.d, .int .u32 s.e, .int .u32 s.f, .int .u32 s.g, .int .u32 s.h]
def hcells (s : S8) (blk : List Int) (n : Int) : Array Value := (s.cells ++ (blk.map (Value.int .u8) ++ [Value.int .i64 n])).toArray
theorem hcells_blk (s : S8) (blk : List Int) (n : Int) (hb : blk.length = 64) (i : Nat) (hi : i < 64) : (hcells s blk n)[8 + i]? = some (Value.int .u8 (gt blk i)) := by
  have h : i < blk.length := by omega
  simp [hcells, S8.cells, List.getElem?_append, gt, h, Nat.add_comm 8 i]
theorem bump_arr (w : World) (o : Obj) (t : TypeId) (cs : Array Value) : Blk ((w.alloc o).alloc (.cells cs t)) (w.heap.size + 1) t cs := by
  have h := Blk.new (w.alloc o) t cs
  rwa [World.size_alloc] at h
end Go.Proofs.YtialfoccalobpaaDoor
