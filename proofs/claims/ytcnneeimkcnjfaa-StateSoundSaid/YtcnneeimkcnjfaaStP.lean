/-
  Package state in plain words: what is known of nothing holds all; fewer types hold more; types are within themselves. No program is named here.
-/
import Derived.Test.YtcnneeimkcnjfaaStN
namespace Go.Proofs.Ytcnneeimkcnjfaa.Sta
open Bnd Knw
set_option linter.unusedVariables false
set_option linter.unusedSimpArgs false
theorem okS_iff {S : St} : okS S = true ↔ (∀ i, i < 11 → (S i).okB = true) ∧ ∀ i, i < 8 → (S (11 + i)).okB = true ∧ (S (11 + i)).unB = false := by
  unfold okS
  rw [Bool.and_eq_true, allN_iff, allN_iff]
  refine and_congr Iff.rfl ⟨fun h i hi => ?_, fun h i hi => ?_⟩
  · have := h i hi
    unfold sltP at this
    rw [Bool.and_eq_true, Bool.not_eq_true'] at this
    exact ⟨this.2, this.1⟩
  · unfold sltP
    rw [(h i hi).1, (h i hi).2]; rfl
theorem inS_iff {A C : St} : inS A C = true ↔ okS A = true ∧ okS C = true ∧ (∀ i, i < 11 → (A i).inB (C i) = true) ∧ ∀ i, i < 8 → (A (11 + i)).inB (C (11 + i)) = true := by
  unfold inS
  rw [Bool.and_eq_true, Bool.and_eq_true, Bool.and_eq_true, allN_iff, allN_iff]; rfl
theorem hasS_iff {S : St} {X : Snp} : hasS S X = true ↔ okS S = true ∧ (∀ i, i < 11 → (X.bit i = true ∨ (S i).unB = true) ∧ (S i).holdB (X.r i) = true) ∧ ∀ i, i < 8 → (S (11 + i)).holdB (X.slot i) = true := by
  unfold hasS
  rw [Bool.and_eq_true, Bool.and_eq_true, allN_iff, allN_iff]
  refine and_congr_right fun _ => and_congr ⟨fun h i hi => ?_, fun h i hi => ?_⟩ Iff.rfl
  · have := h i hi
    unfold hasR at this
    rw [Bool.and_eq_true, Bool.or_eq_true] at this
    exact this
  · unfold hasR
    rw [Bool.and_eq_true, Bool.or_eq_true]
    exact h i hi
theorem allT_okB : allT.okB = true := by decide +kernel
theorem allT_unB : allT.unB = false := by decide +kernel
theorem tZ_okB : tZ.okB = true := by decide +kernel
theorem tZ_unB : tZ.unB = true := by decide +kernel
theorem un_kd {t : Ty} (h : t.unB = true) : t.kd = 0 := by unfold Ty.unB at h; exact beq_iff_eq.1 h
theorem hold_un {t : Ty} (h : t.unB = true) (ok : t.okB = true) (v : B) : t.holdB v = true := by
  unfold Ty.holdB
  rw [ok, un_kd h]; rfl
theorem all_hasB (v : B) : allC.hasB v = true := by
  unfold Sc.hasB
  rw [Bool.and_eq_true]
  refine ⟨all_has (V_nn v) (V_lt v), ?_⟩
  rw [Knw.has_iff]
  exact ⟨ok_all, mem_all⟩
theorem allT_hold (v : B) : allT.holdB v = true := by
  unfold Ty.holdB
  rw [allT_okB]
  show (true && allC.hasB v) = true
  rw [all_hasB]; rfl
/-- What a valid type is. -/
theorem ok_cases {t : Ty} (h : t.okB = true) : t = tZ ∨ (t = scT t.s ∧ t.s.mayB = true) ∨ ((t.kd = 2 ∨ t.kd = 3) ∧ t = ptT t.kd t.lo t.hi ∧ -1048576 ≤ t.lo ∧ t.lo ≤ t.hi ∧ t.hi ≤ 1048576) := by
  unfold Ty.okB at h
  split at h
  · exact .inl ((eqT_iff _ _).1 h)
  split at h
  · rw [Bool.and_eq_true] at h
    exact .inr (.inl ⟨(eqT_iff _ _).1 h.1, h.2⟩)
  split at h
  · rename_i h3
    rw [Bool.or_eq_true, beq_iff_eq, beq_iff_eq] at h3
    simp only [Bool.and_eq_true, decide_eq_true_eq] at h
    exact .inr (.inr ⟨h3, (eqT_iff _ _).1 h.1, h.2.1, h.2.2.1, h.2.2.2⟩)
  · cases h
/-! ### All that has its registers set -/
end Go.Proofs.Ytcnneeimkcnjfaa.Sta
