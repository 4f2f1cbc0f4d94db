/-
  Several texts in one: Row, BytesV.
-/
import Derived.WalkKit
import Derived.ProofKit
import Derived.Test.YthhgcbegcbhaeaaRows
import Derived.WalkSpells
import Derived.WalkLawsBesides
import Derived.Lib.Hide
import Derived.Deep.LoopGhost
import Derived.Deep.OwnRows
import Derived.Handy
set_option linter.unusedVariables false
set_option linter.unusedSimpArgs false
set_option linter.unnecessarySimpa false
namespace Go.Proofs.Ythhgcbegcbhaeaa
open Go.RowKit

def IsRow (k : IntKind) (w : World) (a : Option Addr) (len cap : Nat) (zs : List Int) : Prop :=
  (a = none ∧ len = 0 ∧ cap = 0 ∧ zs = []) ∨
  ∃ x, a = some x ∧ len ≤ cap ∧ cap ≤ maxLen ∧ zs.length = cap ∧ (∀ i, i < zs.length → w.cell? (x.add i) = some (.int k (zs.getD i 0))) ∧ ∀ n ∈ zs, (Lit.int k n).wf = true
end Go.Proofs.Ythhgcbegcbhaeaa

namespace Go.Proofs.Ythhgcbegcbhaeaa
open Go.RowKit
set_option linter.unusedVariables false

/-- How many bytes are written. -/
def putN (n : Int) : Nat := (min (max n 0) 8).toNat
/-- Byte number i of a number. -/
def byteI (v : Int) (i : Nat) : Int := v / 2 ^ (8 * i) % 256

theorem info_u8 : (Try.prog.info? 5).map (fun i => (i.zero, i.size, i.bytes)) = some (some (.int .u8 0), 1, 1) := by kernel_rfl

theorem byte_next (v : Int) (k i : Nat) : (if i = k then Value.int .u8 (v / 2 ^ (8 * k) % 256) else Value.int .u8 (if i < k then byteI v i else 0)) = Value.int .u8 (if i < k + 1 then byteI v i else 0) := by
  by_cases h : i = k
  · subst h; rw [if_pos rfl, if_pos (by omega)]; rfl
  · rw [if_neg h]
    by_cases h' : i < k
    · rw [if_pos h', if_pos (by omega)]
    · rw [if_neg h', if_neg (by omega)]

set_option maxHeartbeats 1000000 in
theorem put_mid (v n : Int) (m : Nat) (hm : n = m) (h8 : m ≤ 8) (hv0 : 0 ≤ v) (hv1 : v < 18446744073709551616) (W : World) :
    Calls Try.prog 73 #[.int .u64 v, .int .i64 n] W fun e w' => e = .returned (.slice (some ⟨W.heap.size, 0, none⟩) m m) ∧ Below W.heap.size W w' ∧ w'.rowIs W.heap.size 5 m (fun i => .int .u8 (byteI v i)) := by
  subst hm
  have hmk := fun w => run_make_row' (P := Try.prog) 25 5 (.int .u8 0) 1 Try.underlying25 info_u8 rfl .i64 .i64 m (by omega) (by omega) w
  go_enter Try.func73, Try.ntmps73
  go_wp2
  go_loopw [13] (fun i wr => ∃ k : Nat, k ≤ m ∧ i = .int .i64 k ∧ Below W.heap.size W wr ∧ wr.rowIs W.heap.size 5 m (fun i => .int .u8 (if i < k then byteI v i else 0))) (fun i _ => m - (intOf i).toNat)
  case atStart => exact ⟨0, by omega, rfl, (Below.refl _ _).alloc (Nat.le_refl _) _, (World.rowIs_made _ _ _ _).congr (fun i hi => rfl)⟩
  case round =>
    obtain ⟨k, hk, rfl, hB, hR⟩ := hrel
    by_cases hlt : k < m
    · have hc := hR.cell hlt
      have hf := hR.frozen k
      have e1 : min (8 * k) 64 = 8 * k := by omega
      go_wp2
      go_roundw
      case rel =>
        refine ⟨k + 1, by omega, by go_num, hB.setCell (Nat.le_refl _) _, ?_⟩
        exact (hR.set k _).congr (fun i hi => byte_next v k i)
      case measure => simp [intOf]; omega
    · obtain rfl : k = m := by omega
      go_wp2
      go_ret
      exact ⟨rfl, hB, hR.congr (fun i hi => by rw [if_pos hi])⟩
set_option maxHeartbeats 1000000 in
theorem put_low (v n : Int) (hn : n < 0) (hv0 : 0 ≤ v) (hv1 : v < 18446744073709551616) (W : World) :
    Calls Try.prog 73 #[.int .u64 v, .int .i64 n] W fun e w' => e = .returned (.slice (some ⟨W.heap.size, 0, none⟩) 0 0) ∧ Below W.heap.size W w' ∧ w'.rowIs W.heap.size 5 0 (fun i => .int .u8 (byteI v i)) := by
  have hmk : ∀ w, (Instr.makeSlice 25 (.int .i64 0) (.int .i64 0)).run Try.prog w = .ok (.slice (some ⟨w.heap.size, 0, none⟩) 0 0) (w.alloc (.cells (madeCells #[.int .u8 0] 0) 5)) := fun w => run_make_row' (P := Try.prog) 25 5 (.int .u8 0) 1 Try.underlying25 info_u8 rfl .i64 .i64 0 (by omega) (by omega) w
  go_enter Try.func73, Try.ntmps73
  go_wp2
  go_loopw [13] (fun i wr => ∃ k : Nat, k ≤ 0 ∧ i = .int .i64 k ∧ Below W.heap.size W wr ∧ wr.rowIs W.heap.size 5 0 (fun i => .int .u8 (if i < k then byteI v i else 0))) (fun i _ => 0 - (intOf i).toNat)
  case atStart => exact ⟨0, by omega, rfl, (Below.refl _ _).alloc (Nat.le_refl _) _, (World.rowIs_made _ _ _ _).congr (fun i hi => rfl)⟩
  case round =>
    obtain ⟨k, hk, rfl, hB, hR⟩ := hrel
    by_cases hlt : k < 0
    · exact absurd hlt (by omega)
    · obtain rfl : k = 0 := by omega
      go_wp2
      go_ret
      exact ⟨rfl, hB, hR.congr (fun i hi => by rw [if_pos hi])⟩
set_option maxHeartbeats 1000000 in
theorem put_high (v n : Int) (hn : 8 < n) (hn' : 0 ≤ n) (hv0 : 0 ≤ v) (hv1 : v < 18446744073709551616) (W : World) :
    Calls Try.prog 73 #[.int .u64 v, .int .i64 n] W fun e w' => e = .returned (.slice (some ⟨W.heap.size, 0, none⟩) 8 8) ∧ Below W.heap.size W w' ∧ w'.rowIs W.heap.size 5 8 (fun i => .int .u8 (byteI v i)) := by
  have hmk : ∀ w, (Instr.makeSlice 25 (.int .i64 8) (.int .i64 8)).run Try.prog w = .ok (.slice (some ⟨w.heap.size, 0, none⟩) 8 8) (w.alloc (.cells (madeCells #[.int .u8 0] 8) 5)) := fun w => run_make_row' (P := Try.prog) 25 5 (.int .u8 0) 1 Try.underlying25 info_u8 rfl .i64 .i64 8 (by omega) (by omega) w
  go_enter Try.func73, Try.ntmps73
  go_wp2
  go_loopw [13] (fun i wr => ∃ k : Nat, k ≤ 8 ∧ i = .int .i64 k ∧ Below W.heap.size W wr ∧ wr.rowIs W.heap.size 5 8 (fun i => .int .u8 (if i < k then byteI v i else 0))) (fun i _ => 8 - (intOf i).toNat)
  case atStart => exact ⟨0, by omega, rfl, (Below.refl _ _).alloc (Nat.le_refl _) _, (World.rowIs_made _ _ _ _).congr (fun i hi => rfl)⟩
  case round =>
    obtain ⟨k, hk, rfl, hB, hR⟩ := hrel
    by_cases hlt : k < 8
    · have hc := hR.cell hlt
      have hf := hR.frozen k
      have e1 : min (8 * k) 64 = 8 * k := by omega
      go_wp2
      go_roundw
      case rel =>
        refine ⟨k + 1, by omega, by go_num, hB.setCell (Nat.le_refl _) _, ?_⟩
        exact (hR.set k _).congr (fun i hi => byte_next v k i)
      case measure => simp [intOf]; omega
    · obtain rfl : k = 8 := by omega
      go_wp2
      go_ret
      exact ⟨rfl, hB, hR.congr (fun i hi => by rw [if_pos hi])⟩

theorem put_any (v n : Int) (hv0 : 0 ≤ v) (hv1 : v < 18446744073709551616) (W : World) :
    Calls Try.prog 73 #[.int .u64 v, .int .i64 n] W fun e w' => e = .returned (.slice (some ⟨W.heap.size, 0, none⟩) (putN n) (putN n)) ∧ Below W.heap.size W w' ∧ w'.rowIs W.heap.size 5 (putN n) (fun i => .int .u8 (byteI v i)) := by
  by_cases h : n < 0
  · rw [show putN n = 0 by unfold putN; omega]; exact put_low v n h hv0 hv1 W
  by_cases h' : n ≤ 8
  · rw [show putN n = n.toNat by unfold putN; omega]; exact put_mid v n n.toNat (by omega) (by omega) hv0 hv1 W
  · rw [show putN n = 8 by unfold putN; omega]; exact put_high v n (by omega) (by omega) hv0 hv1 W

/-- The number whose lowest k bytes are f's. -/
def getI (f : Nat → Int) : Nat → Int
  | 0 => 0
  | k + 1 => getI f k + f k * 2 ^ (8 * k)

theorem getI_bd (f : Nat → Int) : ∀ k : Nat, (∀ i, i < k → 0 ≤ f i ∧ f i < 256) → 0 ≤ getI f k ∧ getI f k < 2 ^ (8 * k)
  | 0, _ => ⟨by unfold getI; omega, by show (0 : Int) < 2 ^ (8 * 0); decide⟩
  | k + 1, h => by
    have ih := getI_bd f k (fun i hi => h i (by omega))
    have b := h k (by omega)
    have p : (0 : Int) < 2 ^ (8 * k) := Int.pow_pos (by omega)
    have e : (2 : Int) ^ (8 * (k + 1)) = 256 * 2 ^ (8 * k) := by rw [show 8 * (k + 1) = 8 + 8 * k by omega, Int.pow_add]; rfl
    have u : f k * 2 ^ (8 * k) ≤ 255 * 2 ^ (8 * k) := Int.mul_le_mul_of_nonneg_right (by omega) (by omega)
    have v : 0 ≤ f k * 2 ^ (8 * k) := Int.mul_nonneg b.1 (by omega)
    unfold getI
    rw [e]
    omega
theorem get_step (x y : Int) (k : Nat) (h8 : k < 8) (hx0 : 0 ≤ x) (hx1 : x < 2 ^ (8 * k)) (hy0 : 0 ≤ y) (hy1 : y < 256) : bits .or .u64 x (y * 2 ^ (8 * k) % 18446744073709551616) = x + y * 2 ^ (8 * k) := by
  have p : (0 : Int) < 2 ^ (8 * k) := Int.pow_pos (by omega)
  have q : (2 : Int) ^ (8 * k) ≤ 2 ^ 56 := by
    have := Nat.pow_le_pow_right (show 0 < 2 by omega) (show 8 * k ≤ 56 by omega)
    have e : ((2 ^ (8 * k) : Nat) : Int) ≤ ((2 ^ 56 : Nat) : Int) := by omega
    simpa using e
  have r : (2 : Int) ^ 56 = 72057594037927936 := rfl
  have u : y * 2 ^ (8 * k) ≤ 255 * 2 ^ (8 * k) := Int.mul_le_mul_of_nonneg_right (by omega) (by omega)
  have v : 0 ≤ y * 2 ^ (8 * k) := Int.mul_nonneg hy0 (by omega)
  rw [Int.emod_eq_of_lt v (by omega), u64_or _ _ hx0 (by omega) v (by omega)]
  obtain ⟨X, rfl⟩ := Int.eq_ofNat_of_zero_le hx0
  obtain ⟨Y, rfl⟩ := Int.eq_ofNat_of_zero_le hy0
  have c : ((Y : Int) * 2 ^ (8 * k)) = ((2 ^ (8 * k) * Y : Nat) : Int) := by rw [Nat.mul_comm (2 ^ (8 * k)) Y]; simp
  have d : X < 2 ^ (8 * k) := by
    have e : (X : Int) < ((2 ^ (8 * k) : Nat) : Int) := by simpa using hx1
    omega
  rw [c, Int.toNat_natCast, Int.toNat_natCast, Nat.or_comm, ← Nat.two_pow_add_eq_or_of_lt d]
  omega
set_option maxHeartbeats 1000000 in
theorem get_few (b off len cap : Nat) (f : Nat → Int) (W : World) (hl : len ≤ 8) (hc : len ≤ cap) (hm : cap ≤ 9223372036854775807) (hf : ∀ i, i < len → 0 ≤ f i ∧ f i < 256) (hcell : ∀ i, i < len → W.cell? ⟨b, off + i, none⟩ = some (.int .u8 (f i))) :
    Calls Try.prog 71 #[.slice (some ⟨b, off, none⟩) len cap] W fun e w' => e = .returned (.int .u64 (getI f len)) ∧ W = w' := by
  have HC := Lib.hid hcell; clear hcell
  have HF := Lib.hid hf; clear hf
  go_enter Try.func71, Try.ntmps71
  go_wp2
  go_loop [3, 12] (fun v i => ∃ k : Nat, k ≤ len ∧ i = .int .i64 k ∧ v = .int .u64 (getI f k)) (fun _ i => len - (intOf i).toNat)
  case atStart => exact ⟨0, by omega, rfl, rfl⟩
  case round =>
    obtain ⟨k, hk, rfl, rfl⟩ := hrel
    by_cases hlt : k < len
    · have hb := getI_bd f k (fun i hi => HF.out i (by omega))
      have hy := HF.out k hlt
      have e1 : min (8 * k) 64 = 8 * k := by omega
      have e2 := Lib.hid (get_step (getI f k) (f k) k (by omega) hb.1 hb.2 hy.1 hy.2)
      have hx := HC.out k hlt
      have hy0 := hy.1
      have hy1 := hy.2
      clear hb hy
      go_wp2
      go_round
      case rel => exact ⟨k + 1, by omega, by go_num, by rw [IntKind.wrap_u64, e2.out]; rfl⟩
      case measure => simp [intOf]; omega
    · obtain rfl : k = len := by omega
      go_wp2
      go_ret
      exact ⟨rfl, rfl⟩

set_option maxHeartbeats 1000000 in
theorem get_many (b off len cap : Nat) (f : Nat → Int) (W : World) (hl : 8 < len) (hc : len ≤ cap) (hm : cap ≤ 9223372036854775807) (hf : ∀ i, i < 8 → 0 ≤ f i ∧ f i < 256) (hcell : ∀ i, i < 8 → W.cell? ⟨b, off + i, none⟩ = some (.int .u8 (f i))) :
    Calls Try.prog 71 #[.slice (some ⟨b, off, none⟩) len cap] W fun e w' => e = .returned (.int .u64 (getI f 8)) ∧ W = w' := by
  have HC := Lib.hid hcell; clear hcell
  have HF := Lib.hid hf; clear hf
  go_enter Try.func71, Try.ntmps71
  go_wp2
  go_loop [3, 12] (fun v i => ∃ k : Nat, k ≤ 8 ∧ i = .int .i64 k ∧ v = .int .u64 (getI f k)) (fun _ i => 8 - (intOf i).toNat)
  case atStart => exact ⟨0, by omega, rfl, rfl⟩
  case round =>
    obtain ⟨k, hk, rfl, rfl⟩ := hrel
    by_cases hlt : k < 8
    · have hb := getI_bd f k (fun i hi => HF.out i (by omega))
      have hy := HF.out k hlt
      have e1 : min (8 * k) 64 = 8 * k := by omega
      have e2 := Lib.hid (get_step (getI f k) (f k) k (by omega) hb.1 hb.2 hy.1 hy.2)
      have hx := HC.out k hlt
      have hy0 := hy.1
      have hy1 := hy.2
      clear hb hy
      go_wp2
      go_round
      case rel => exact ⟨k + 1, by omega, by go_num, by rw [IntKind.wrap_u64, e2.out]; rfl⟩
      case measure => simp [intOf]; omega
    · obtain rfl : k = 8 := by omega
      go_wp2
      go_ret
      exact ⟨rfl, rfl⟩

theorem get_nil (W : World) : Calls Try.prog 71 #[.slice none 0 0] W fun e w' => e = .returned (.int .u64 0) ∧ W = w' := by
  go_enter Try.func71, Try.ntmps71
  go_wp2
  go_rounds 1
  go_ret
  exact ⟨rfl, rfl⟩
theorem get_zero (x : Addr) (cap : Nat) (hm : cap ≤ 9223372036854775807) (W : World) : Calls Try.prog 71 #[.slice (some x) 0 cap] W fun e w' => e = .returned (.int .u64 0) ∧ W = w' := by
  go_enter Try.func71, Try.ntmps71
  go_wp2
  go_rounds 1
  go_ret
  exact ⟨rfl, rfl⟩
end Go.Proofs.Ythhgcbegcbhaeaa
