/-
  What is known of the instructions of a program that may be.
-/
import Derived.Test.YtbpefomjmjkciaaInsH
namespace Go.Proofs.Ytbpefomjmjkciaa.Ins
open Go.RowKit
set_option linter.unusedVariables false

/-- What is known of an instruction of a program that may be. -/
theorem ends_facts {c : Int} {len : Nat} {xs : Nat → In} (h : (checkI c len xs).2 = 0) : 1 ≤ len ∧ len ≤ 64 ∧ ∀ k, k < len → mayI (xs k) = true ∧ jumpsI k (xs k) = decide ((xs k).kind = 3 ∨ (xs k).kind = 4) ∧ (((xs k).kind = 3 ∨ (xs k).kind = 4) → ¬ targetI k (xs k) < 0 ∧ ¬ (len : Int) ≤ targetI k (xs k)) ∧ (¬ (xs k).kind = 4 → ¬ (xs k).kind = 6 → k + 1 < len) := by
  unfold checkI at h
  by_cases h1 : c < 0 ∨ 256 < c
  · rw [if_pos h1] at h; simp at h
  rw [if_neg h1] at h
  by_cases h2 : len < 1 ∨ 64 < len
  · rw [if_pos h2] at h; simp at h
  rw [if_neg h2] at h
  by_cases h3 : (firstF (fun i => faultI i (xs i) len) len 0).2 ≠ 0
  · rw [if_pos h3] at h; exact absurd h h3
  rw [if_neg h3] at h
  by_cases h4 : (xs (len - 1)).kind = 4 ∨ (xs (len - 1)).kind = 6
  case neg => rw [if_neg h4] at h; simp at h
  refine ⟨by omega, by omega, fun k hk => ?_⟩
  have hf : faultI k (xs k) len = 0 := firstF_all (fun i => faultI i (xs i) len) len 0 (by omega) k (by omega) (by omega)
  unfold faultI at hf
  have hm : mayI (xs k) = true := by
    cases hm : mayI (xs k)
    · rw [if_pos hm] at hf; omega
    · rfl
  rw [if_neg (by rw [hm]; simp)] at hf
  have hj : jumpsI k (xs k) = decide ((xs k).kind = 3 ∨ (xs k).kind = 4) := by
    obtain ⟨_, _, h5, _⟩ := mayI_cases hm
    have n1 : nearI k = true := decide_eq_true (by omega)
    have n2 : nearI (xs k).off = true := decide_eq_true (by omega)
    unfold jumpsI
    rw [n1, n2]
    simp
  refine ⟨hm, hj, fun hk34 => ?_, fun n4 n6 => ?_⟩
  · rw [hj, decide_eq_true hk34] at hf
    by_cases h5 : targetI k (xs k) < 0 ∨ (len : Int) ≤ targetI k (xs k)
    · rw [if_pos ⟨rfl, h5⟩] at hf; omega
    · omega
  · by_cases e : k = len - 1
    · subst e; omega
    · omega
end Go.Proofs.Ytbpefomjmjkciaa.Ins
