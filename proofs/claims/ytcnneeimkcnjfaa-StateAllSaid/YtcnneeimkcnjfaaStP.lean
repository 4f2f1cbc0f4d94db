/-
  Package state in plain words: what is known of nothing holds all; fewer types hold more; types are within themselves. No program is named here.
-/
import Derived.Test.YtcnneeimkcnjfaaStN
namespace Go.Proofs.Ytcnneeimkcnjfaa.Sta
open Bnd Knw
set_option linter.unusedVariables false
set_option linter.unusedSimpArgs false
theorem okS_iff {S : St} : okS S = true ↔ (∀ i, i < 11 → (S i).okB = true) ∧ ∀ i, i < 8 → (S (11 + i)).okB = true ∧ (S (11 + i)).unB = false := by
  unfold okS
  rw [Bool.and_eq_true, allN_iff, allN_iff]
  refine and_congr Iff.rfl ⟨fun h i hi => ?_, fun h i hi => ?_⟩
  · have := h i hi
    unfold sltP at this
    rw [Bool.and_eq_true, Bool.not_eq_true'] at this
    exact ⟨this.2, this.1⟩
  · unfold sltP
    rw [(h i hi).1, (h i hi).2]; rfl
theorem inS_iff {A C : St} : inS A C = true ↔ okS A = true ∧ okS C = true ∧ (∀ i, i < 11 → (A i).inB (C i) = true) ∧ ∀ i, i < 8 → (A (11 + i)).inB (C (11 + i)) = true := by
  unfold inS
  rw [Bool.and_eq_true, Bool.and_eq_true, Bool.and_eq_true, allN_iff, allN_iff]; rfl
theorem hasS_iff {S : St} {X : Snp} : hasS S X = true ↔ okS S = true ∧ (∀ i, i < 11 → (X.bit i = true ∨ (S i).unB = true) ∧ (S i).holdB (X.r i) = true) ∧ ∀ i, i < 8 → (S (11 + i)).holdB (X.slot i) = true := by
  unfold hasS
  rw [Bool.and_eq_true, Bool.and_eq_true, allN_iff, allN_iff]
  refine and_congr_right fun _ => and_congr ⟨fun h i hi => ?_, fun h i hi => ?_⟩ Iff.rfl
  · have := h i hi
    unfold hasR at this
    rw [Bool.and_eq_true, Bool.or_eq_true] at this
    exact this
  · unfold hasR
    rw [Bool.and_eq_true, Bool.or_eq_true]
    exact h i hi
theorem allT_okB : allT.okB = true := by decide +kernel
theorem allT_unB : allT.unB = false := by decide +kernel
theorem tZ_okB : tZ.okB = true := by decide +kernel
theorem tZ_unB : tZ.unB = true := by decide +kernel
theorem un_kd {t : Ty} (h : t.unB = true) : t.kd = 0 := by unfold Ty.unB at h; exact beq_iff_eq.1 h
theorem hold_un {t : Ty} (h : t.unB = true) (ok : t.okB = true) (v : B) : t.holdB v = true := by
  unfold Ty.holdB
  rw [ok, un_kd h]; rfl
theorem all_hasB (v : B) : allC.hasB v = true := by
  unfold Sc.hasB
  rw [Bool.and_eq_true]
  refine ⟨all_has (V_nn v) (V_lt v), ?_⟩
  rw [Knw.has_iff]
  exact ⟨ok_all, mem_all⟩
theorem allT_hold (v : B) : allT.holdB v = true := by
  unfold Ty.holdB
  rw [allT_okB]
  show (true && allC.hasB v) = true
  rw [all_hasB]; rfl
/-- What a valid type is. -/
theorem ok_cases {t : Ty} (h : t.okB = true) : t = tZ ∨ (t = scT t.s ∧ t.s.mayB = true) ∨ ((t.kd = 2 ∨ t.kd = 3) ∧ t = ptT t.kd t.lo t.hi ∧ -1048576 ≤ t.lo ∧ t.lo ≤ t.hi ∧ t.hi ≤ 1048576) := by
  unfold Ty.okB at h
  split at h
  · exact .inl ((eqT_iff _ _).1 h)
  split at h
  · rw [Bool.and_eq_true] at h
    exact .inr (.inl ⟨(eqT_iff _ _).1 h.1, h.2⟩)
  split at h
  · rename_i h3
    rw [Bool.or_eq_true, beq_iff_eq, beq_iff_eq] at h3
    simp only [Bool.and_eq_true, decide_eq_true_eq] at h
    exact .inr (.inr ⟨h3, (eqT_iff _ _).1 h.1, h.2.1, h.2.2.1, h.2.2.2⟩)
  · cases h
theorem may_in {s : Sc} (h : s.mayB = true) : s.inB s = true := by
  unfold Sc.mayB at h
  rw [Bool.and_eq_true] at h
  unfold Sc.inB
  rw [Bool.and_eq_true]
  constructor
  · unfold Rg.inB Pr.inB
    rw [h.1]; simp
  · rw [Knw.in_iff]
    have := (may_ok _).1 h.2
    exact ⟨this, this, sub_refl _⟩
theorem in_refl {t : Ty} (h : t.okB = true) : t.inB t = true := by
  unfold Ty.inB
  by_cases u : t.unB = true
  · rw [if_pos u]
  rw [if_neg u, if_neg u]
  by_cases e : eqT t allT = true
  · rw [if_pos e]
  rw [if_neg e, show (t.kd != t.kd) = false by simp, if_neg Bool.false_ne_true]
  rcases ok_cases h with rfl | ⟨h1, h2⟩ | ⟨h1, h2, _⟩
  · exact absurd tZ_unB u
  · rw [show (t.kd == 1) = true by rw [h1]; rfl, if_pos rfl, may_in h2]
  · rw [show (t.kd == 1) = false by rcases h1 with h1 | h1 <;> rw [h1] <;> rfl, if_neg Bool.false_ne_true]
    simp
theorem in_un {t u : Ty} (h : u.unB = true) : t.inB u = true := by unfold Ty.inB; rw [if_pos h]
theorem in_all {t : Ty} (h : t.unB = false) : t.inB allT = true := by
  unfold Ty.inB
  rw [allT_unB, if_neg Bool.false_ne_true, h, if_neg Bool.false_ne_true, eqT_refl, if_pos rfl]
/-! ### All that has its registers set -/
def scaleS (a : St) (k : Nat) : St := fun j => if j < k ∧ (a j).unB = false then allT else a j
def allA (a : St) : St := fillT (scaleS a 11) 11 8 allT
def setP (a : St) (x : Snp) (i : Nat) : Bool := (a i).unB || x.bit i
theorem scale_0 (a : St) : scaleS a 0 = a := by funext j; unfold scaleS; rw [if_neg (by omega)]
theorem scale_y {a : St} {k : Nat} (h : ((a k).kd != 0) = true) : upS (scaleS a k) k allT = scaleS a (k + 1) := by
  have hu : (a k).unB = false := by unfold Ty.unB; simpa [bne] using h
  funext j
  unfold upS scaleS
  by_cases e : j = k
  · subst e; rw [if_pos rfl, if_pos ⟨by omega, hu⟩]
  · rw [if_neg e]
    by_cases c : j < k ∧ (a j).unB = false
    · rw [if_pos c, if_pos ⟨by omega, c.2⟩]
    · rw [if_neg c, if_neg (fun d => c ⟨by omega, d.2⟩)]
theorem scale_n {a : St} {k : Nat} (h : ((a k).kd != 0) = false) : scaleS a k = scaleS a (k + 1) := by
  have hu : (a k).unB = true := by unfold Ty.unB; simpa [bne] using h
  funext j
  unfold scaleS
  by_cases c : j < k ∧ (a j).unB = false
  · rw [if_pos c, if_pos ⟨by omega, c.2⟩]
  · rw [if_neg c, if_neg (fun d => ?_)]
    by_cases e : j = k
    · subst e; rw [hu] at d; cases d.2
    · exact c ⟨by omega, d.2⟩
theorem allA_reg (a : St) {i : Nat} (h : i < 11) : allA a i = if (a i).unB = false then allT else a i := by
  unfold allA fillT scaleS
  rw [if_neg (by omega)]
  by_cases c : (a i).unB = false
  · rw [if_pos ⟨h, c⟩, if_pos c]
  · rw [if_neg (fun d => c d.2), if_neg c]
theorem allA_slt (a : St) {i : Nat} (h : i < 8) : allA a (11 + i) = allT := by
  unfold allA fillT
  rw [if_pos (by omega)]
theorem allA_ok {a : St} (h : okS a = true) : okS (allA a) = true := by
  rw [okS_iff] at h ⊢
  refine ⟨fun i hi => ?_, fun i hi => ?_⟩
  · rw [allA_reg a hi]
    split
    · exact allT_okB
    · exact h.1 i hi
  · rw [allA_slt a hi]
    exact ⟨allT_okB, allT_unB⟩
theorem allA_in {a : St} (h : okS a = true) : inS a (allA a) = true := by
  rw [inS_iff]
  refine ⟨h, allA_ok h, fun i hi => ?_, fun i hi => ?_⟩
  · rw [allA_reg a hi]
    split
    · exact in_all (by assumption)
    · rename_i c
      exact in_un (by simpa using c)
  · rw [allA_slt a hi]
    exact in_all ((okS_iff.1 h).2 i hi).2
theorem allA_has {a : St} (h : okS a = true) (x : Snp) : hasS (allA a) x = allN (setP a x) 11 := by
  rw [Bool.eq_iff_iff, hasS_iff, allN_iff]
  constructor
  · rintro ⟨_, h2, _⟩ i hi
    unfold setP
    rw [Bool.or_eq_true]
    rcases (h2 i hi).1 with hb | hu
    · exact .inr hb
    · rw [allA_reg a hi] at hu
      split at hu
      · rw [allT_unB] at hu; cases hu
      · exact .inl hu
  · intro hs
    refine ⟨allA_ok h, fun i hi => ?_, fun i hi => ?_⟩
    · have s := hs i hi
      unfold setP at s
      rw [Bool.or_eq_true] at s
      rw [allA_reg a hi]
      split
      · rename_i c
        refine ⟨?_, allT_hold _⟩
        rcases s with s | s
        · rw [c] at s; cases s
        · exact .inl s
      · rename_i c
        have c' : (a i).unB = true := by simpa using c
        exact ⟨.inr c', hold_un c' ((okS_iff.1 h).1 i hi) _⟩
    · rw [allA_slt a hi]
      exact allT_hold _
theorem few_ok {a : St} (h : okS a = true) {j : Nat} (hj : j < 11) : okS (upS a j tZ) = true := by
  rw [okS_iff] at h ⊢
  refine ⟨fun i hi => ?_, fun i hi => ?_⟩
  · unfold upS
    split
    · exact tZ_okB
    · exact h.1 i hi
  · rw [upS_ne a tZ (show 11 + i ≠ j by omega)]
    exact h.2 i hi
theorem few_in {a : St} (h : okS a = true) {j : Nat} (hj : j < 11) : inS a (upS a j tZ) = true := by
  rw [inS_iff]
  refine ⟨h, few_ok h hj, fun i hi => ?_, fun i hi => ?_⟩
  · unfold upS
    split
    · exact in_un tZ_unB
    · exact in_refl ((okS_iff.1 h).1 i hi)
  · rw [upS_ne a tZ (show 11 + i ≠ j by omega)]
    exact in_refl ((okS_iff.1 h).2 i hi).1
theorem few_has {a : St} {x : Snp} (h : hasS a x = true) {j : Nat} (hj : j < 11) : hasS (upS a j tZ) x = true := by
  rw [hasS_iff] at h ⊢
  refine ⟨few_ok h.1 hj, fun i hi => ?_, fun i hi => ?_⟩
  · unfold upS
    split
    · exact ⟨.inr tZ_unB, hold_un tZ_unB tZ_okB _⟩
    · exact h.2.1 i hi
  · rw [upS_ne a tZ (show 11 + i ≠ j by omega)]
    exact h.2.2 i hi
theorem mod_is (n : Int) : Int.tmod (Int.tmod n 11 + 11) 11 = n % 11 := by
  rcases Int.lt_or_le n 0 with h | h
  · obtain ⟨m, rfl⟩ : ∃ m : Int, n = -m := ⟨-n, by omega⟩
    rw [Int.neg_tmod, Int.tmod_eq_emod_of_nonneg (by omega : 0 ≤ m), Int.tmod_eq_emod_of_nonneg (by omega)]
    omega
  · rw [Int.tmod_eq_emod_of_nonneg h, Int.tmod_eq_emod_of_nonneg (by omega)]
    omega
end Go.Proofs.Ytcnneeimkcnjfaa.Sta
