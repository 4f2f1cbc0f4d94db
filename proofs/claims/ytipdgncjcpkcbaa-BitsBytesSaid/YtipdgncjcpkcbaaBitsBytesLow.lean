/-
  The law BitsBytes, n low.
-/
import Derived.Test.YtipdgncjcpkcbaaBitsBytesM
import Derived.Deep.QuietTactic
import Derived.BigQuiet
namespace Go.Proofs.Ytipdgncjcpkcbaa
open Go.RowKit
set_option linter.unusedVariables false

set_option maxHeartbeats 1000000 in
theorem law_low_nil (v : Int) (n : Int) (hn : n < 0)  (W : World)  (hv0 : 0 ≤ v) (hv1 : v < 18446744073709551616) :
    Calls Try.prog 4 #[.int .u64 v, .int .i64 n, .slice none 0 0] W fun e w' => e = .returned (.bool true) ∧ Below W.heap.size W w' := by
  have P1 := fun W => put_any v n hv0 hv1 W
  rw [show putN n = 0 by unfold putN; omega] at P1
  have Q1 := Lib.hid P1; clear P1
  have P2 := fun W => put_any 0 0 (by omega) (by omega) W
  rw [show putN 0 = 0 from rfl] at P2
  have Q2 := Lib.hid P2; clear P2
  have HX := Lib.hid (show getI (byteI v) 0 = 0 from rfl)
  have g0 := and_zero v hv0 hv1
  go_enter Try.func4, Try.ntmps4
  go_wp2_with fail
  refine (Q1.out _).mono ?_
  rintro e w1 ⟨rfl, b1, r1⟩
  go_wp2_with fail
  refine (get_nil _).mono ?_
  rintro e w' ⟨rfl, rfl⟩
  go_wp2_with fail
  refine (Q2.out _).mono ?_
  rintro e w2 ⟨rfl, b2, r2⟩
  have R1 := Lib.hid (r1.of_block (b2.block _ r1.lt)); clear r1
  have R2 := Lib.hid r2; clear r2
  have B1 := Lib.hid b1; have B2 := Lib.hid b2; clear b1 b2
  go_wp2_with fail
  go_loopw [11] (fun i wr => ∃ k : Nat, k ≤ 0 ∧ i = .int .i64 k ∧ ∃ n, w2.drewN n = wr) (fun i _ => 0 - (intOf i).toNat)
  case atStart => exact ⟨0, by omega, rfl, 0, rfl⟩
  case round =>
    obtain ⟨k, hk, rfl, nd, rfl⟩ := hrel
    obtain rfl : k = 0 := by omega
    go_wp2_with fail
    refine (get_row v 0 W.heap.size (w2.drewN nd) 0 (by omega) (R1.out.of_block rfl) HX.out).mono ?_
    rintro e w' ⟨rfl, rfl⟩
    go_wp2_with fail
    refine (wakes_any _).mono ?_
    rintro e w3 ⟨rfl, b3⟩
    go_wp2
    go_ret
    exact ⟨rfl, B1.out.trans (((below_drewN B2.out nd).mono B1.out.size).trans (b3.mono (Nat.le_trans B1.out.size B2.out.size)))⟩

set_option maxHeartbeats 1000000 in
theorem law_low_zero (v : Int) (n : Int) (hn : n < 0) (x : Addr) (cap : Nat) (hm : cap ≤ 9223372036854775807) (W : World)  (hv0 : 0 ≤ v) (hv1 : v < 18446744073709551616) :
    Calls Try.prog 4 #[.int .u64 v, .int .i64 n, .slice (some x) 0 cap] W fun e w' => e = .returned (.bool true) ∧ Below W.heap.size W w' := by
  have P1 := fun W => put_any v n hv0 hv1 W
  rw [show putN n = 0 by unfold putN; omega] at P1
  have Q1 := Lib.hid P1; clear P1
  have P2 := fun W => put_any 0 0 (by omega) (by omega) W
  rw [show putN 0 = 0 from rfl] at P2
  have Q2 := Lib.hid P2; clear P2
  have HX := Lib.hid (show getI (byteI v) 0 = 0 from rfl)
  have g0 := and_zero v hv0 hv1
  go_enter Try.func4, Try.ntmps4
  go_wp2_with fail
  refine (Q1.out _).mono ?_
  rintro e w1 ⟨rfl, b1, r1⟩
  go_wp2_with fail
  refine (get_zero x cap hm _).mono ?_
  rintro e w' ⟨rfl, rfl⟩
  go_wp2_with fail
  refine (Q2.out _).mono ?_
  rintro e w2 ⟨rfl, b2, r2⟩
  have R1 := Lib.hid (r1.of_block (b2.block _ r1.lt)); clear r1
  have R2 := Lib.hid r2; clear r2
  have B1 := Lib.hid b1; have B2 := Lib.hid b2; clear b1 b2
  go_wp2_with fail
  go_loopw [11] (fun i wr => ∃ k : Nat, k ≤ 0 ∧ i = .int .i64 k ∧ ∃ n, w2.drewN n = wr) (fun i _ => 0 - (intOf i).toNat)
  case atStart => exact ⟨0, by omega, rfl, 0, rfl⟩
  case round =>
    obtain ⟨k, hk, rfl, nd, rfl⟩ := hrel
    obtain rfl : k = 0 := by omega
    go_wp2_with fail
    refine (get_row v 0 W.heap.size (w2.drewN nd) 0 (by omega) (R1.out.of_block rfl) HX.out).mono ?_
    rintro e w' ⟨rfl, rfl⟩
    go_wp2_with fail
    refine (wakes_any _).mono ?_
    rintro e w3 ⟨rfl, b3⟩
    go_wp2
    go_ret
    exact ⟨rfl, B1.out.trans (((below_drewN B2.out nd).mono B1.out.size).trans (b3.mono (Nat.le_trans B1.out.size B2.out.size)))⟩

set_option maxHeartbeats 1000000 in
theorem law_low_few (v : Int) (n : Int) (hn : n < 0) (b off len cap : Nat) (f : Nat → Int) (hc : len ≤ cap) (hm : cap ≤ 9223372036854775807) (W : World) (hl : len ≤ 8) (hv0 : 0 ≤ v) (hv1 : v < 18446744073709551616) (hf : ∀ i, i < len → 0 ≤ f i ∧ f i < 256) (hcell : ∀ i, i < len → W.cell? ⟨b, off + i, none⟩ = some (.int .u8 (f i))) :
    Calls Try.prog 4 #[.int .u64 v, .int .i64 n, .slice (some ⟨b, off, none⟩) len cap] W fun e w' => e = .returned (.bool true) ∧ Below W.heap.size W w' := by
  have P1 := fun W => put_any v n hv0 hv1 W
  rw [show putN n = 0 by unfold putN; omega] at P1
  have Q1 := Lib.hid P1; clear P1
  have HC := Lib.hid hcell; clear hcell
  have HF := Lib.hid hf
  have GB := Lib.hid (get_bd f len (by omega) hf); clear hf
  have P2 := fun W => put_any (getI f len) len GB.out.1 GB.out.2 W
  rw [show putN len = len by unfold putN; omega] at P2
  have Q2 := Lib.hid P2; clear P2
  have h40 : decide ((40 : Int) < (len : Int)) = false := decide_eq_false (by omega)
  have HX := Lib.hid (show getI (byteI v) 0 = 0 from rfl)
  have g0 := and_zero v hv0 hv1
  go_enter Try.func4, Try.ntmps4
  go_wp2_with fail
  refine (Q1.out _).mono ?_
  rintro e w1 ⟨rfl, b1, r1⟩
  go_wp2_with fail
  refine (get_few b off len cap f _ hl hc hm HF.out (fun i hi => (b1.cell (p := ⟨b, off + i, none⟩) (lt_of_cell (HC.out i hi))).trans (HC.out i hi))).mono ?_
  rintro e w' ⟨rfl, rfl⟩
  go_wp2_with fail
  refine (Q2.out _).mono ?_
  rintro e w2 ⟨rfl, b2, r2⟩
  have R1 := Lib.hid (r1.of_block (b2.block _ r1.lt)); clear r1
  have R2 := Lib.hid r2; clear r2
  have B1 := Lib.hid b1; have B2 := Lib.hid b2; clear b1 b2
  go_wp2_with fail
  go_loopw [11] (fun i wr => ∃ k : Nat, k ≤ len ∧ i = .int .i64 k ∧ ∃ n, w2.drewN n = wr) (fun i _ => len - (intOf i).toNat)
  case atStart => exact ⟨0, by omega, rfl, 0, rfl⟩
  case round =>
    obtain ⟨k, hk, rfl, nd, rfl⟩ := hrel
    by_cases hlt : k < len
    · have x1 : w2.cell? ⟨w1.heap.size, k, none⟩ = some (.int .u8 (f k)) := by rw [R2.out.cell hlt, byte_of f len HF.out k hlt]
      have x2 : w2.cell? ⟨b, off + k, none⟩ = some (.int .u8 (f k)) := (B2.out.cell (p := ⟨b, off + k, none⟩) (Nat.lt_of_lt_of_le (lt_of_cell (HC.out k hlt)) B1.out.size)).trans ((B1.out.cell (p := ⟨b, off + k, none⟩) (lt_of_cell (HC.out k hlt))).trans (HC.out k hlt))
      have y1 : (k : Int) < (len : Int) := by omega
      have y2 : (k : Int) < (len : Int) := by omega
      have y3 : (0 : Int) ≤ (k : Int) := by omega
      have y4 : k < len := by omega
      go_wp2_with fail
      go_quiet (fail)
      go_wp2
      go_roundw
      case rel => exact ⟨k + 1, by omega, by go_num, nd + nq, by simp⟩
      case measure => simp [intOf]; omega
    · obtain rfl : k = len := by omega
      go_wp2_with fail
      refine (get_row v 0 W.heap.size (w2.drewN nd) 0 (by omega) (R1.out.of_block rfl) HX.out).mono ?_
      rintro e w' ⟨rfl, rfl⟩
      go_wp2_with fail
      refine (wakes_any _).mono ?_
      rintro e w3 ⟨rfl, b3⟩
      go_wp2
      go_ret
      exact ⟨rfl, B1.out.trans (((below_drewN B2.out nd).mono B1.out.size).trans (b3.mono (Nat.le_trans B1.out.size B2.out.size)))⟩

set_option maxHeartbeats 1000000 in
theorem law_low_many (v : Int) (n : Int) (hn : n < 0) (b off len cap : Nat) (f : Nat → Int) (hc : len ≤ cap) (hm : cap ≤ 9223372036854775807) (W : World) (hl : 8 < len) (hl4 : len ≤ 40) (hv0 : 0 ≤ v) (hv1 : v < 18446744073709551616) (hf : ∀ i, i < 8 → 0 ≤ f i ∧ f i < 256) (hcell : ∀ i, i < 8 → W.cell? ⟨b, off + i, none⟩ = some (.int .u8 (f i))) :
    Calls Try.prog 4 #[.int .u64 v, .int .i64 n, .slice (some ⟨b, off, none⟩) len cap] W fun e w' => e = .returned (.bool true) ∧ Below W.heap.size W w' := by
  have P1 := fun W => put_any v n hv0 hv1 W
  rw [show putN n = 0 by unfold putN; omega] at P1
  have Q1 := Lib.hid P1; clear P1
  have HC := Lib.hid hcell; clear hcell
  have HF := Lib.hid hf
  have GB := Lib.hid (get_bd f 8 (by omega) hf); clear hf
  have P2 := fun W => put_any (getI f 8) len GB.out.1 GB.out.2 W
  rw [show putN len = 8 by unfold putN; omega] at P2
  have Q2 := Lib.hid P2; clear P2
  have h40 : decide ((40 : Int) < (len : Int)) = false := decide_eq_false (by omega)
  have HX := Lib.hid (show getI (byteI v) 0 = 0 from rfl)
  have g0 := and_zero v hv0 hv1
  go_enter Try.func4, Try.ntmps4
  go_wp2_with fail
  refine (Q1.out _).mono ?_
  rintro e w1 ⟨rfl, b1, r1⟩
  go_wp2_with fail
  refine (get_many b off len cap f _ hl hc hm HF.out (fun i hi => (b1.cell (p := ⟨b, off + i, none⟩) (lt_of_cell (HC.out i hi))).trans (HC.out i hi))).mono ?_
  rintro e w' ⟨rfl, rfl⟩
  go_wp2_with fail
  refine (Q2.out _).mono ?_
  rintro e w2 ⟨rfl, b2, r2⟩
  have R1 := Lib.hid (r1.of_block (b2.block _ r1.lt)); clear r1
  have R2 := Lib.hid r2; clear r2
  have B1 := Lib.hid b1; have B2 := Lib.hid b2; clear b1 b2
  go_wp2_with fail
  go_loopw [11] (fun i wr => ∃ k : Nat, k ≤ 8 ∧ i = .int .i64 k ∧ ∃ n, w2.drewN n = wr) (fun i _ => 8 - (intOf i).toNat)
  case atStart => exact ⟨0, by omega, rfl, 0, rfl⟩
  case round =>
    obtain ⟨k, hk, rfl, nd, rfl⟩ := hrel
    by_cases hlt : k < 8
    · have x1 : w2.cell? ⟨w1.heap.size, k, none⟩ = some (.int .u8 (f k)) := by rw [R2.out.cell hlt, byte_of f 8 HF.out k hlt]
      have x2 : w2.cell? ⟨b, off + k, none⟩ = some (.int .u8 (f k)) := (B2.out.cell (p := ⟨b, off + k, none⟩) (Nat.lt_of_lt_of_le (lt_of_cell (HC.out k hlt)) B1.out.size)).trans ((B1.out.cell (p := ⟨b, off + k, none⟩) (lt_of_cell (HC.out k hlt))).trans (HC.out k hlt))
      have y1 : (k : Int) < (8 : Int) := by omega
      have y2 : (k : Int) < (len : Int) := by omega
      have y3 : (0 : Int) ≤ (k : Int) := by omega
      have y4 : k < len := by omega
      go_wp2_with fail
      go_quiet (fail)
      go_wp2
      go_roundw
      case rel => exact ⟨k + 1, by omega, by go_num, nd + nq, by simp⟩
      case measure => simp [intOf]; omega
    · obtain rfl : k = 8 := by omega
      go_wp2_with fail
      refine (get_row v 0 W.heap.size (w2.drewN nd) 0 (by omega) (R1.out.of_block rfl) HX.out).mono ?_
      rintro e w' ⟨rfl, rfl⟩
      go_wp2_with fail
      refine (wakes_any _).mono ?_
      rintro e w3 ⟨rfl, b3⟩
      go_wp2
      go_ret
      exact ⟨rfl, B1.out.trans (((below_drewN B2.out nd).mono B1.out.size).trans (b3.mono (Nat.le_trans B1.out.size B2.out.size)))⟩

set_option maxHeartbeats 1000000 in
theorem law_low_long (v : Int) (n : Int) (hn : n < 0) (b off len cap : Nat) (f : Nat → Int) (hc : len ≤ cap) (hm : cap ≤ 9223372036854775807) (W : World) (hl : 40 < len) (hv0 : 0 ≤ v) (hv1 : v < 18446744073709551616) :
    Calls Try.prog 4 #[.int .u64 v, .int .i64 n, .slice (some ⟨b, off, none⟩) len cap] W fun e w' => e = .returned (.bool true) ∧ Below W.heap.size W w' := by
  have P1 := fun W => put_any v n hv0 hv1 W
  rw [show putN n = 0 by unfold putN; omega] at P1
  have Q1 := Lib.hid P1; clear P1
  have h40 : decide ((40 : Int) < (len : Int)) = true := decide_eq_true (by omega)
  go_enter Try.func4, Try.ntmps4
  go_wp2_with fail
  refine (Q1.out _).mono ?_
  rintro e w1 ⟨rfl, b1, r1⟩
  go_wp2_with fail
  refine (wakes_any _).mono ?_
  rintro e w2 ⟨rfl, b2⟩
  go_wp2
  go_ret
  exact ⟨rfl, b1.trans (b2.mono b1.size)⟩

end Go.Proofs.Ytipdgncjcpkcbaa
