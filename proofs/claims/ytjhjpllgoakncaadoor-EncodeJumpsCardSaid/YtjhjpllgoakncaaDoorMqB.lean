/-
  Layer 12: registers, REX bytes, as contracts.
-/
import Derived.Test.YtjhjpllgoakncaaDoorMrP
namespace Go.Proofs.YtjhjpllgoakncaaDoor.Mrm
open Go.RowKit
set_option linter.unusedVariables false
set_option linter.unnecessarySimpa false
set_option linter.unusedSimpArgs false
set_option maxRecDepth 100000

theorem register_n (r : Int) (W : World) : Calls Tryd.prog 86 #[.int .i8 r] W fun e w' => e = .returned (.bool (regB r)) ∧ W = w' := by
  by_cases h0 : 0 ≤ r
  · go_enter Tryd.func86, Tryd.ntmps86
    go_wp2
    go_ret
    exact ⟨retV (by unfold regB; simp [h0]), rfl⟩
  · have e : regB r = false := by unfold regB; simp [h0]
    rw [e]
    have h1 : r < 0 := by omega
    clear h0 e
    go_enter Tryd.func86, Tryd.ntmps86
    go_wp2
    go_ret
    exact ⟨rfl, rfl⟩
theorem both_n (r m : Int) (W : World) : Calls Tryd.prog 75 #[.int .i8 r, .int .i8 m] W fun e w' => e = .returned (.bool (bothB r m)) ∧ W = w' := by
  have R := Lib.hid (fun W => register_n r W)
  have M := Lib.hid (fun W => register_n m W)
  unfold bothB
  generalize regB r = b at *
  generalize regB m = c at *
  cases b
  · go_enter Tryd.func75, Tryd.ntmps75
    go_wp2_with (first | (refine (R.out _).mono ?_; rintro e w1 ⟨rfl, rfl⟩))
    go_ret
    exact ⟨rfl, rfl⟩
  · go_enter Tryd.func75, Tryd.ntmps75
    go_wp2_with fail
    refine (R.out _).mono ?_
    rintro e w1 ⟨rfl, rfl⟩
    go_wp2_with fail
    refine (M.out _).mono ?_
    rintro e w1 ⟨rfl, rfl⟩
    go_wp2
    go_ret
    exact ⟨rfl, rfl⟩
theorem bit_n (b : Bool) (v : Int) (W : World) : Calls Tryd.prog 85 #[.bool b, .int .u8 v] W fun e w' => e = .returned (.int .u8 (bitI b v)) ∧ W = w' := by
  cases b
  · go_enter Tryd.func85, Tryd.ntmps85
    go_wp2
    go_ret
    exact ⟨rfl, rfl⟩
  · go_enter Tryd.func85, Tryd.ntmps85
    go_wp2
    go_ret
    exact ⟨rfl, rfl⟩
theorem rex_n (w : Bool) (r m : Int) (W : World) : Calls Tryd.prog 74 #[.bool w, .int .i8 r, .int .i8 m] W fun e w' => e = .returned (.tuple #[.int .u8 (bif bothB r m then rexI w r m else 0), .int .i64 (bif bothB r m then 0 else 2)]) ∧ W = w' := by
  have B := Lib.hid (fun W => both_n r m W)
  cases h : bothB r m
  · rw [h] at B
    go_enter Tryd.func74, Tryd.ntmps74
    go_wp2_with fail
    refine (B.out _).mono ?_
    rintro e w1 ⟨rfl, rfl⟩
    go_wp2
    go_ret2
    exact ⟨rfl, rfl⟩
  · rw [h] at B
    have T1 := Lib.hid (fun W => bit_n w 8 W)
    have T2 := Lib.hid (fun W => bit_n (decide (8 ≤ r)) 4 W)
    have T3 := Lib.hid (fun W => bit_n (decide (8 ≤ m)) 1 W)
    have HE := Lib.hid (rex_or w (decide (8 ≤ r)) (decide (8 ≤ m)))
    clear h
    unfold rexI
    generalize bitI w 8 = x1 at *
    generalize bitI (decide (8 ≤ r)) 4 = x2 at *
    generalize bitI (decide (8 ≤ m)) 1 = x3 at *
    go_enter Tryd.func74, Tryd.ntmps74
    go_wp2_with fail
    refine (B.out _).mono ?_
    rintro e w1 ⟨rfl, rfl⟩
    go_wp2_with fail
    refine (T1.out _).mono ?_
    rintro e w1 ⟨rfl, rfl⟩
    go_wp2_with fail
    refine (T2.out _).mono ?_
    rintro e w1 ⟨rfl, rfl⟩
    go_wp2_with fail
    refine (T3.out _).mono ?_
    rintro e w1 ⟨rfl, rfl⟩
    go_wp2
    go_ret2
    exact ⟨by rw [HE.out]; rfl, rfl⟩
theorem needs_n (r m : Int) (W : World) : Calls Tryd.prog 73 #[.int .i8 r, .int .i8 m] W fun e w' => e = .returned (.bool (needB r m)) ∧ W = w' := by
  have B := Lib.hid (fun W => both_n r m W)
  unfold needB
  cases h : bothB r m
  · rw [h] at B
    go_enter Tryd.func73, Tryd.ntmps73
    go_wp2_with fail
    refine (B.out _).mono ?_
    rintro e w1 ⟨rfl, rfl⟩
    go_wp2
    go_ret
    exact ⟨rfl, rfl⟩
  · rw [h] at B
    clear h
    by_cases h8 : 8 ≤ r
    · go_enter Tryd.func73, Tryd.ntmps73
      go_wp2_with fail
      refine (B.out _).mono ?_
      rintro e w1 ⟨rfl, rfl⟩
      go_wp2
      go_ret
      exact ⟨retV (by simp [h8]), rfl⟩
    · have h7 : r < 8 := by omega
      go_enter Tryd.func73, Tryd.ntmps73
      go_wp2_with fail
      refine (B.out _).mono ?_
      rintro e w1 ⟨rfl, rfl⟩
      go_wp2
      go_ret
      exact ⟨retV (by simp [h8]), rfl⟩
theorem high_n (c k : Int) (W : World) (b : Bool) (h : (bits .and .u8 c k != 0) = b) : Calls Tryd.prog 88 #[.int .u8 c, .int .u8 k] W fun e w' => e = .returned (.int .i8 (bif b then 8 else 0)) ∧ W = w' := by
  cases b
  · go_enter Tryd.func88, Tryd.ntmps88
    go_wp2
    go_ret
    exact ⟨rfl, rfl⟩
  · go_enter Tryd.func88, Tryd.ntmps88
    go_wp2
    go_ret
    exact ⟨rfl, rfl⟩
theorem hi_bif (c k : Int) (h : c / k % 2 = 0 ∨ c / k % 2 = 1) : (bif (c / k % 2 != 0) then (8 : Int) else 0) = hiI c k := by
  unfold hiI
  rcases h with h | h <;> rw [h] <;> rfl
/-- What ReadRex answers. -/
def rrV (c : Int) : Value := .tuple #[.bool (rexB c && wB c), .int .i8 (bif rexB c then hiI c 4 else 0), .int .i8 (bif rexB c then hiI c 1 else 0), .bool (rexB c)]
theorem readrex_n (c : Int) (h0 : 0 ≤ c) (h1 : c < 256) (W : World) : Calls Tryd.prog 81 #[.int .u8 c] W fun e w' => e = .returned (rrV c) ∧ W = w' := by
  obtain ⟨e1, e2, e3, e4, e5⟩ := rex_bits h0 h1
  unfold rrV
  cases h : rexB c
  · rw [h] at e1
    simp only [Bool.not_false] at e1
    clear e2 e3 e4 e5 h
    go_enter Tryd.func81, Tryd.ntmps81
    go_wp2
    (try simp only [Exit.inBlock, Exit.then]); refine bodyPost_ret (results_tmp4 rfl _ _ _) rfl ?_
    exact ⟨rfl, rfl⟩
  · rw [h] at e1
    simp only [Bool.not_true] at e1
    have H4 := Lib.hid (fun W => high_n c 4 W (c / 4 % 2 != 0) (by
      have : c / 4 % 2 = 0 ∨ c / 4 % 2 = 1 := by omega
      rw [e3]
      rcases this with e | e <;> rw [e] <;> rfl))
    have H1 := Lib.hid (fun W => high_n c 1 W (c / 1 % 2 != 0) (by rw [e4]))
    rw [hi_bif c 4 (by omega)] at H4
    rw [hi_bif c 1 (by omega)] at H1
    have HW := Lib.hid (show (bits .and .u8 c 8 != 0) = wB c by
      rw [e5]; unfold wB
      have : c / 8 % 2 = 0 ∨ c / 8 % 2 = 1 := by omega
      rcases this with e | e <;> rw [e] <;> rfl)
    clear e2 e3 e4 e5 h
    go_enter Tryd.func81, Tryd.ntmps81
    go_wp2_with fail
    refine (H4.out _).mono ?_
    rintro e w1 ⟨rfl, rfl⟩
    go_wp2_with fail
    refine (H1.out _).mono ?_
    rintro e w1 ⟨rfl, rfl⟩
    go_wp2
    (try simp only [Exit.inBlock, Exit.then]); refine bodyPost_ret (results_tmp4 rfl _ _ _) rfl ?_
    exact ⟨by rw [HW.out]; rfl, rfl⟩
theorem and_ne {x y k : Int} (hk : 0 < k) (h : x = y * k) (hy : y = 0 ∨ y = 1) : (x != 0) = (y == 1) := by
  rcases hy with rfl | rfl
  · subst h; rw [Int.zero_mul]; rfl
  · subst h; rw [Int.one_mul]
    have : ¬ k = 0 := by omega
    simp [this]
end Go.Proofs.YtjhjpllgoakncaaDoor.Mrm
