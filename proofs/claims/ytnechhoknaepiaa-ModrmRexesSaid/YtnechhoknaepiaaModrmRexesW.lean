/-
  The walk of the law ModrmRexes. (Written by gen_mrs.py.)
-/
import Derived.Test.YtnechhoknaepiaaMrW
namespace Go.Proofs.Ytnechhoknaepiaa.Mrm
open Go.RowKit
set_option linter.unusedVariables false
set_option linter.unnecessarySimpa false
set_option linter.unusedSimpArgs false
set_option maxRecDepth 100000

theorem bd_u8r {a : Int} (h : (Lit.int .u8 a).wf = true) : 0 ≤ a ∧ a < 256 := by
  have : 0 ≤ a ∧ a ≤ 255 := by simpa [Lit.wf, IntKind.min, IntKind.max, IntKind.bits, IntKind.signed] using h
  omega
theorem again_fin : ∀ c : Fin 256, rexB (c.1 : Int) = true → bothB (hiI (c.1 : Int) 4) (hiI (c.1 : Int) 1) = true ∧ rexI (wB (c.1 : Int)) (hiI (c.1 : Int) 4) (hiI (c.1 : Int) 1) = (c.1 : Int) := by decide +kernel
def cntR : Nat → Nat
  | 0 => 0
  | k + 1 => cntR k + (bif rexB (k : Int) then 1 else 0)
def cntW : Nat → Nat
  | 0 => 0
  | k + 1 => cntW k + (bif rexB (k : Int) && wB (k : Int) then 1 else 0)
theorem cntR_le : ∀ k, cntR k ≤ k
  | 0 => Nat.le_refl _
  | k + 1 => by
    have := cntR_le k
    unfold cntR
    cases rexB (k : Int)
    · rw [cond_false]; omega
    · rw [cond_true]; omega
theorem cntW_le : ∀ k, cntW k ≤ k
  | 0 => Nat.le_refl _
  | k + 1 => by
    have := cntW_le k
    unfold cntW
    cases rexB (k : Int) && wB (k : Int)
    · rw [cond_false]; omega
    · rw [cond_true]; omega
theorem cntR_all : cntR 256 = 8 := by decide +kernel
theorem cntW_all : cntW 256 = 4 := by decide +kernel
set_option maxHeartbeats 4000000 in
theorem rexes_law (a0 : Int) (w : World) (w0 : (Lit.int .u8 a0).wf = true) :
    Calls Try.prog 7 #[.int .u8 a0] w fun e w' => e = .returned (.bool true) ∧ Below w.heap.size w w' := by
  obtain ⟨d0, d1⟩ := bd_u8r w0
  have WK := Lib.hid wakes_n
  have R0 := Lib.hid (fun W => readrex_n a0 d0 d1 W)
  clear d0 d1 w0
  go_enter Try.func7, Try.ntmps7
  go_wp2
  go_loop [3, 4, 5] (fun n v c => ∃ k : Nat, k ≤ 256 ∧ c = .int .i64 k ∧ n = .int .i64 (cntR k : Nat) ∧ v = .int .i64 (cntW k : Nat)) (fun _ _ c => 256 - (intOf c).toNat)
  case atStart => exact ⟨0, by omega, rfl, rfl, rfl⟩
  case round =>
    obtain ⟨k, hk, rfl, rfl, rfl⟩ := hrel
    by_cases hlt : k < 256
    · have hk1 : (k : Int) < 256 := by omega
      have hk0 : (0 : Int) ≤ (k : Int) := by omega
      have RX := fun W => readrex_n (k : Int) hk0 hk1 W
      unfold rrV at RX
      have HR := cntR_le k
      have HW := cntW_le k
      have NR := Lib.hid (show cntR (k + 1) = cntR k + (bif rexB (k : Int) then 1 else 0) from rfl)
      have NW := Lib.hid (show cntW (k + 1) = cntW k + (bif rexB (k : Int) && wB (k : Int) then 1 else 0) from rfl)
      have ER := Lib.hid (show wrap64 ((cntR k : Int) + 1) = ((cntR k + 1 : Nat) : Int) by unfold wrap64; omega)
      have EW := Lib.hid (show wrap64 ((cntW k : Int) + 1) = ((cntW k + 1 : Nat) : Int) by unfold wrap64; omega)
      cases hr : rexB (k : Int)
      · rw [hr] at RX NR NW
        simp only [Bool.false_and, cond_false] at RX NR NW
        have RX := Lib.hid RX
        clear hr
        go_wp2_with fail
        refine (RX.out _).mono ?_
        rintro e y1 ⟨rfl, rfl⟩
        go_wp2
        go_round
        case rel => exact ⟨k + 1, by omega, by go_num, by rw [NR.out]; rfl, by rw [NW.out]; rfl⟩
        case measure => simp [intOf] <;> omega
      · have AG := again_fin ⟨k, hlt⟩ hr
        have RE := fun W => rex_n (wB (k : Int)) (hiI (k : Int) 4) (hiI (k : Int) 1) W
        rw [AG.1, AG.2, cond_true, cond_true] at RE
        rw [hr] at RX NR NW
        simp only [Bool.true_and, cond_true] at RX NR NW
        have RX := Lib.hid RX
        have RE := Lib.hid RE
        clear hr AG
        generalize hiI (k : Int) 4 = x4 at *
        generalize hiI (k : Int) 1 = x1 at *
        have K8 : IntKind.u8.wrap (k : Int) = (k : Int) := by simp [IntKind.wrap, IntKind.signed, IntKind.bits]; omega
        cases hw : wB (k : Int)
        · rw [hw] at RX RE NW
          simp only [cond_true, cond_false] at NW
          clear hw
          go_wp2_with fail
          refine (RX.out _).mono ?_
          rintro e y1 ⟨rfl, rfl⟩
          go_wp2_with fail
          refine (RE.out _).mono ?_
          rintro e y1 ⟨rfl, rfl⟩
          go_wp2
          go_round
          case rel => exact ⟨k + 1, by omega, by go_num, by rw [NR.out]; go_num, by rw [NW.out]; go_num⟩
          case measure => simp [intOf] <;> omega
        · rw [hw] at RX RE NW
          simp only [cond_true, cond_false] at NW
          clear hw
          go_wp2_with fail
          refine (RX.out _).mono ?_
          rintro e y1 ⟨rfl, rfl⟩
          go_wp2_with fail
          refine (RE.out _).mono ?_
          rintro e y1 ⟨rfl, rfl⟩
          go_wp2
          go_round
          case rel => exact ⟨k + 1, by omega, by go_num, by rw [NR.out]; go_num, by rw [NW.out]; go_num⟩
          case measure => simp [intOf] <;> omega
    · obtain rfl : k = 256 := by omega
      rw [cntR_all, cntW_all]
      unfold rrV at R0
      cases hr : rexB a0
      · rw [hr] at R0
        simp only [Bool.false_and, cond_false] at R0
        clear hr
        go_wp2_with fail
        refine (R0.out _).mono ?_
        rintro e y1 ⟨rfl, rfl⟩
        go_wp2_with fail
        refine (WK.out _).mono ?_
        rintro e y2 ⟨rfl, b2⟩
        go_wp2_with fail
        go_ret
        exact ⟨rfl, b2⟩
      · rw [hr] at R0
        simp only [Bool.true_and, cond_true] at R0
        clear hr
        generalize hiI a0 4 = x4 at *
        generalize hiI a0 1 = x1 at *
        generalize wB a0 = xw at *
        go_wp2_with fail
        refine (R0.out _).mono ?_
        rintro e y1 ⟨rfl, rfl⟩
        go_wp2_with fail
        refine (WK.out _).mono ?_
        rintro e y2 ⟨rfl, b2⟩
        go_wp2_with fail
        go_ret
        exact ⟨rfl, b2⟩
end Go.Proofs.Ytnechhoknaepiaa.Mrm
