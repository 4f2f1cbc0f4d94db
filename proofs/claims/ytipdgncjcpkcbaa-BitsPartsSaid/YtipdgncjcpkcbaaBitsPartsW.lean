/-
  The walk of the law BitsParts.
-/
import Derived.Test.YtipdgncjcpkcbaaBitsPartsM
import Derived.Deep.QuietTactic
import Derived.BigQuiet
namespace Go.Proofs.Ytipdgncjcpkcbaa
open Go.RowKit
set_option linter.unusedVariables false

theorem bd_u8 {a : Int} (h : (Lit.int .u8 a).wf = true) : 0 ≤ a ∧ a < 256 := by
  have : 0 ≤ a ∧ a ≤ 255 := by simpa [Lit.wf, IntKind.min, IntKind.max, IntKind.bits, IntKind.signed] using h
  omega

set_option maxRecDepth 100000 in
set_option maxHeartbeats 1000000 in
theorem bitsParts_no (w v a b : Int) (hw : longB w = false) (W : World) :
    Calls Try.prog 5 #[.int .i8 w, .int .u64 v, .int .u8 a, .int .u8 b] W fun e w' => e = .returned (.bool true) ∧ Below W.heap.size W w' := by
  obtain ⟨n32, n64⟩ := longB_not hw
  have m32 : (w != 32) = true := by simpa using n32
  have m64 : (w != 64) = true := by simpa using n64
  clear n32 n64
  go_enter Try.func5, Try.ntmps5
  go_wp2_with fail
  refine (wakes_any _).mono ?_
  rintro e w3 ⟨rfl, b3⟩
  go_wp2
  go_ret
  exact ⟨rfl, b3⟩

theorem parts_cases (k : Nat) (h : k < 3) (P : Nat → Prop) (h0 : P 0) (h1 : P 1) (h2 : P 2) : P k := by
  have : k = 0 ∨ k = 1 ∨ k = 2 := by omega
  rcases this with rfl | rfl | rfl <;> assumption
theorem parts_bd (k : Nat) (h : k < 3) : 0 ≤ partsL k ∧ partsL k ≤ 12 :=
  parts_cases k h (fun k => 0 ≤ partsL k ∧ partsL k ≤ 12) (by decide) (by decide) (by decide)
theorem parts_cell (k : Nat) (h : k < 3) (W : World) : (W.alloc (.cells #[.int .i8 6, .int .i8 7, .int .i8 12] 22)).cell? ⟨W.heap.size, k, none⟩ = some (.int .i8 (partsL k)) := by
  refine parts_cases k h (fun k => (W.alloc (.cells #[.int .i8 6, .int .i8 7, .int .i8 12] 22)).cell? ⟨W.heap.size, k, none⟩ = some (.int .i8 (partsL k))) ?_ ?_ ?_ <;> (go_simp; first | rfl | done)

set_option maxRecDepth 100000 in
set_option maxHeartbeats 4000000 in
theorem bitsParts_32 (v a b : Int) (hv0 : 0 ≤ v) (hv1 : v < 18446744073709551616) (ha0 : 0 ≤ a) (ha1 : a < 256) (hb0 : 0 ≤ b) (hb1 : b < 256) (W : World) :
    Calls Try.prog 5 #[.int .i8 32, .int .u64 v, .int .u8 a, .int .u8 b] W fun e w' => e = .returned (.bool true) ∧ Below W.heap.size W w' := by
  go_enter Try.func5, Try.ntmps5
  go_wp2
  go_quiet (fail)
  go_wp2
  go_loopw [44] (fun i wr => ∃ k : Nat, k ≤ 3 ∧ i = .int .i64 k ∧ Below (W.heap.size + 1) ((W.drewN nq).alloc (.cells #[.int .i8 6, .int .i8 7, .int .i8 12] 22)) wr) (fun i _ => 3 - (intOf i).toNat)
  case atStart => exact ⟨0, by omega, rfl, Below.refl _ _⟩
  case round =>
    obtain ⟨k, hk, rfl, hB⟩ := hrel
    have hz : W.heap.size + 1 ≤ wr.heap.size := by have := hB.size; simpa using this
    by_cases hlt : k < 3
    · have hc : wr.cell? ⟨W.heap.size, k, none⟩ = some (.int .i8 (partsL k)) := (hB.cell (by simp)).trans (parts_cell k hlt (W.drewN nq))
      have l := parts_bd k hlt
      have s := doI_bd (partsL k) 32 v (a % 32) hv0 hv1 (by omega) (by omega)
      have D1 := Lib.hid (fun W => do_ok (partsL k) 32 v (a % 32) W l.1 l.2 rfl hv0 hv1 (by omega) (by omega))
      have D2 := Lib.hid (fun W => do_ok (partsL k) 32 (doI (partsL k) 32 v (a % 32)) (b % 32) W l.1 l.2 rfl s.1 s.2 (by omega) (by omega))
      have D3 := Lib.hid (fun W => do_ok (partsL k) 32 v (a % 32 + b % 32) W l.1 l.2 rfl hv0 hv1 (by omega) (by omega))
      clear l s
      by_cases hs : a % 32 + b % 32 < 32
      · have g1 := neqF (parts_eq k hlt 32 v (a % 32) (b % 32) rfl hv0 hv1 (by omega) (by omega) hs)
        go_wp2_with fail
        refine (D1.out _).mono ?_
        rintro e w1 ⟨rfl, b1⟩
        go_wp2_with fail
        refine (D2.out _).mono ?_
        rintro e w2 ⟨rfl, b2⟩
        go_wp2_with fail
        refine (D3.out _).mono ?_
        rintro e w3 ⟨rfl, b3⟩
        go_wp2
        go_roundw
        case rel => exact ⟨k + 1, by omega, by go_num, ((hB.trans (b1.mono hz)).trans (b2.mono (Nat.le_trans hz b1.size))).trans (b3.mono (Nat.le_trans hz (Nat.le_trans b1.size b2.size)))⟩
        case measure => simp [intOf]; omega
      · have g1 : decide (a % 32 + b % 32 < 32) = false := decide_eq_false hs
        go_wp2_with fail
        refine (D1.out _).mono ?_
        rintro e w1 ⟨rfl, b1⟩
        go_wp2_with fail
        refine (D2.out _).mono ?_
        rintro e w2 ⟨rfl, b2⟩
        go_wp2_with fail
        refine (D3.out _).mono ?_
        rintro e w3 ⟨rfl, b3⟩
        go_wp2
        go_roundw
        case rel => exact ⟨k + 1, by omega, by go_num, ((hB.trans (b1.mono hz)).trans (b2.mono (Nat.le_trans hz b1.size))).trans (b3.mono (Nat.le_trans hz (Nat.le_trans b1.size b2.size)))⟩
        case measure => simp [intOf]; omega
    · obtain rfl : k = 3 := by omega
      have s := doI_bd 6 32 v (a % 32) hv0 hv1 (by omega) (by omega)
      have D1 := Lib.hid (fun W => do_ok 6 32 v (a % 32) W (by omega) (by omega) rfl hv0 hv1 (by omega) (by omega))
      have D2' := fun W => do_ok 7 32 (doI 6 32 v (a % 32)) (a % 32) W (by omega) (by omega) rfl s.1 s.2 (by omega) (by omega)
      rw [parts_last 32 v (a % 32) rfl hv0 hv1 (by omega) (by omega)] at D2'
      have D2 := Lib.hid D2'; clear D2'
      have D3 := Lib.hid (fun W => do_ok 7 32 18446744073709551615 (a % 32) W (by omega) (by omega) rfl (by omega) (by omega) (by omega) (by omega))
      clear s
      go_wp2_with fail
      refine (D1.out _).mono ?_
      rintro e w1 ⟨rfl, b1⟩
      go_wp2_with fail
      refine (D2.out _).mono ?_
      rintro e w2 ⟨rfl, b2⟩
      go_wp2_with fail
      refine (D3.out _).mono ?_
      rintro e w3 ⟨rfl, b3⟩
      go_wp2_with fail
      refine (wakes_any _).mono ?_
      rintro e w4 ⟨rfl, b4⟩
      go_wp2
      go_ret
      have q0 : Below W.heap.size W wr := ((below_drewN (Below.refl _ _) nq).alloc (Nat.le_refl _) _).trans (hB.mono (Nat.le_succ _))
      exact ⟨rfl, (((q0.trans (b1.mono (by omega))).trans (b2.mono (by have := b1.size; omega))).trans (b3.mono (by have := b1.size; have := b2.size; omega))).trans (b4.mono (by have := b1.size; have := b2.size; have := b3.size; omega))⟩

set_option maxRecDepth 100000 in
set_option maxHeartbeats 4000000 in
theorem bitsParts_64 (v a b : Int) (hv0 : 0 ≤ v) (hv1 : v < 18446744073709551616) (ha0 : 0 ≤ a) (ha1 : a < 256) (hb0 : 0 ≤ b) (hb1 : b < 256) (W : World) :
    Calls Try.prog 5 #[.int .i8 64, .int .u64 v, .int .u8 a, .int .u8 b] W fun e w' => e = .returned (.bool true) ∧ Below W.heap.size W w' := by
  go_enter Try.func5, Try.ntmps5
  go_wp2
  go_quiet (fail)
  go_wp2
  go_loopw [44] (fun i wr => ∃ k : Nat, k ≤ 3 ∧ i = .int .i64 k ∧ Below (W.heap.size + 1) ((W.drewN nq).alloc (.cells #[.int .i8 6, .int .i8 7, .int .i8 12] 22)) wr) (fun i _ => 3 - (intOf i).toNat)
  case atStart => exact ⟨0, by omega, rfl, Below.refl _ _⟩
  case round =>
    obtain ⟨k, hk, rfl, hB⟩ := hrel
    have hz : W.heap.size + 1 ≤ wr.heap.size := by have := hB.size; simpa using this
    by_cases hlt : k < 3
    · have hc : wr.cell? ⟨W.heap.size, k, none⟩ = some (.int .i8 (partsL k)) := (hB.cell (by simp)).trans (parts_cell k hlt (W.drewN nq))
      have l := parts_bd k hlt
      have s := doI_bd (partsL k) 64 v (a % 64) hv0 hv1 (by omega) (by omega)
      have D1 := Lib.hid (fun W => do_ok (partsL k) 64 v (a % 64) W l.1 l.2 rfl hv0 hv1 (by omega) (by omega))
      have D2 := Lib.hid (fun W => do_ok (partsL k) 64 (doI (partsL k) 64 v (a % 64)) (b % 64) W l.1 l.2 rfl s.1 s.2 (by omega) (by omega))
      have D3 := Lib.hid (fun W => do_ok (partsL k) 64 v (a % 64 + b % 64) W l.1 l.2 rfl hv0 hv1 (by omega) (by omega))
      clear l s
      by_cases hs : a % 64 + b % 64 < 64
      · have g1 := neqF (parts_eq k hlt 64 v (a % 64) (b % 64) rfl hv0 hv1 (by omega) (by omega) hs)
        go_wp2_with fail
        refine (D1.out _).mono ?_
        rintro e w1 ⟨rfl, b1⟩
        go_wp2_with fail
        refine (D2.out _).mono ?_
        rintro e w2 ⟨rfl, b2⟩
        go_wp2_with fail
        refine (D3.out _).mono ?_
        rintro e w3 ⟨rfl, b3⟩
        go_wp2
        go_roundw
        case rel => exact ⟨k + 1, by omega, by go_num, ((hB.trans (b1.mono hz)).trans (b2.mono (Nat.le_trans hz b1.size))).trans (b3.mono (Nat.le_trans hz (Nat.le_trans b1.size b2.size)))⟩
        case measure => simp [intOf]; omega
      · have g1 : decide (a % 64 + b % 64 < 64) = false := decide_eq_false hs
        go_wp2_with fail
        refine (D1.out _).mono ?_
        rintro e w1 ⟨rfl, b1⟩
        go_wp2_with fail
        refine (D2.out _).mono ?_
        rintro e w2 ⟨rfl, b2⟩
        go_wp2_with fail
        refine (D3.out _).mono ?_
        rintro e w3 ⟨rfl, b3⟩
        go_wp2
        go_roundw
        case rel => exact ⟨k + 1, by omega, by go_num, ((hB.trans (b1.mono hz)).trans (b2.mono (Nat.le_trans hz b1.size))).trans (b3.mono (Nat.le_trans hz (Nat.le_trans b1.size b2.size)))⟩
        case measure => simp [intOf]; omega
    · obtain rfl : k = 3 := by omega
      have s := doI_bd 6 64 v (a % 64) hv0 hv1 (by omega) (by omega)
      have D1 := Lib.hid (fun W => do_ok 6 64 v (a % 64) W (by omega) (by omega) rfl hv0 hv1 (by omega) (by omega))
      have D2' := fun W => do_ok 7 64 (doI 6 64 v (a % 64)) (a % 64) W (by omega) (by omega) rfl s.1 s.2 (by omega) (by omega)
      rw [parts_last 64 v (a % 64) rfl hv0 hv1 (by omega) (by omega)] at D2'
      have D2 := Lib.hid D2'; clear D2'
      have D3 := Lib.hid (fun W => do_ok 7 64 18446744073709551615 (a % 64) W (by omega) (by omega) rfl (by omega) (by omega) (by omega) (by omega))
      clear s
      go_wp2_with fail
      refine (D1.out _).mono ?_
      rintro e w1 ⟨rfl, b1⟩
      go_wp2_with fail
      refine (D2.out _).mono ?_
      rintro e w2 ⟨rfl, b2⟩
      go_wp2_with fail
      refine (D3.out _).mono ?_
      rintro e w3 ⟨rfl, b3⟩
      go_wp2_with fail
      refine (wakes_any _).mono ?_
      rintro e w4 ⟨rfl, b4⟩
      go_wp2
      go_ret
      have q0 : Below W.heap.size W wr := ((below_drewN (Below.refl _ _) nq).alloc (Nat.le_refl _) _).trans (hB.mono (Nat.le_succ _))
      exact ⟨rfl, (((q0.trans (b1.mono (by omega))).trans (b2.mono (by have := b1.size; omega))).trans (b3.mono (by have := b1.size; have := b2.size; omega))).trans (b4.mono (by have := b1.size; have := b2.size; have := b3.size; omega))⟩

theorem bitsParts_walk (w v a b : Int) (_hw : (Lit.int .i8 w).wf = true) (hv : (Lit.int .u64 v).wf = true) (ha : (Lit.int .u8 a).wf = true) (hb : (Lit.int .u8 b).wf = true) (W : World) :
    Calls Try.prog 5 #[.int .i8 w, .int .u64 v, .int .u8 a, .int .u8 b] W fun e w' => e = .returned (.bool true) ∧ Below W.heap.size W w' := by
  obtain ⟨hv0, hv1⟩ := bd_u64 hv
  obtain ⟨ha0, ha1⟩ := bd_u8 ha
  obtain ⟨hb0, hb1⟩ := bd_u8 hb
  cases h : longB w
  · exact bitsParts_no w v a b h W
  · rcases longB_cases h with rfl | rfl
    · exact bitsParts_32 v a b hv0 hv1 ha0 ha1 hb0 hb1 W
    · exact bitsParts_64 v a b hv0 hv1 ha0 ha1 hb0 hb1 W
end Go.Proofs.Ytipdgncjcpkcbaa
