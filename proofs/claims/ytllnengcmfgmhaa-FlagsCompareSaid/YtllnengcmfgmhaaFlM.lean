/-
  Layer 14 in plain words: flags, their conditions. No program is named here.
-/
import Derived.Test.YtllnengcmfgmhaaBitsM
namespace Go.Proofs.Ytllnengcmfgmhaa.Flg
open Go Go.RowKit
set_option linter.unusedVariables false
set_option linter.unnecessarySimpa false
set_option linter.unusedSimpArgs false

/-- Flags. -/
structure Fl where
  k : Bool
  c : Bool
  z : Bool
  s : Bool
  o : Bool
abbrev fC (f : Fl) : Array Value := #[.bool f.k, .bool f.c, .bool f.z, .bool f.s, .bool f.o]
abbrev fV (f : Fl) : Value := .agg #[.bool f.k, .bool f.c, .bool f.z, .bool f.s, .bool f.o]
abbrev zF : Fl := ⟨false, false, false, false, false⟩
/-- The highest bit of a word. -/
def negB (w v : Int) : Bool := decide (sgnI v w < 0)
def overA (w a b s : Int) : Bool := (negB w a == negB w b) && (negB w s != negB w a)
def overS (w a b s : Int) : Bool := (negB w a != negB w b) && (negB w s != negB w a)
/-- What a result leaves. -/
def aftF (w v : Int) (c o : Bool) : Fl := ⟨true, c, v == 0, negB w v, o⟩
def addV (w a b : Int) : Int := cutI (opI 0 w (cutI a w) (cutI b w)) w
def subV (w a b : Int) : Int := cutI (opI 1 w (cutI a w) (cutI b w)) w
def addF (w a b : Int) : Fl := if longB w = true then aftF w (addV w a b) (decide (addV w a b < cutI a w)) (overA w a b (addV w a b)) else zF
def subF (w a b : Int) : Fl := if longB w = true then aftF w (subV w a b) (decide (cutI a w < cutI b w)) (overS w a b (subV w a b)) else zF
def ofF (w v : Int) : Fl := if longB w = true then aftF w (cutI v w) false false else zF
def errW (w : Int) : Int := if longB w = true then 0 else 2
/-- Whether there is such a condition. -/
def mayC (cc : Int) : Bool := cc == 2 || cc == 3 || cc == 4 || cc == 5 || cc == 6 || cc == 7 || cc == 12 || cc == 13 || cc == 14 || cc == 15
/-- Whether it holds. -/
def ccF (cc : Int) (f : Fl) : Bool :=
  if cc = 2 then f.c else if cc = 3 then !f.c else if cc = 4 then f.z else if cc = 5 then !f.z
  else if cc = 6 then f.c || f.z else if cc = 7 then !f.c && !f.z
  else if cc = 12 then f.s != f.o else if cc = 13 then f.s == f.o
  else if cc = 14 then f.z || f.s != f.o else !f.z && f.s == f.o
def holF (cc : Int) (f : Fl) : Bool := if mayC cc = true ∧ f.k = true then ccF cc f else false
def holE (cc : Int) (f : Fl) : Int := if mayC cc = true then (if f.k = true then 0 else 20) else 2
def turnC (cc : Int) : Int := if mayC cc = true then (if cc % 2 = 0 then cc + 1 else cc - 1) else 0
theorem may_cases {cc : Int} (h : mayC cc = true) : cc = 2 ∨ cc = 3 ∨ cc = 4 ∨ cc = 5 ∨ cc = 6 ∨ cc = 7 ∨ cc = 12 ∨ cc = 13 ∨ cc = 14 ∨ cc = 15 := by
  unfold mayC at h; simpa [or_assoc] using h
theorem may_not {cc : Int} (h : mayC cc = false) : cc ≠ 2 ∧ cc ≠ 3 ∧ cc ≠ 4 ∧ cc ≠ 5 ∧ cc ≠ 6 ∧ cc ≠ 7 ∧ cc ≠ 12 ∧ cc ≠ 13 ∧ cc ≠ 14 ∧ cc ≠ 15 := by
  unfold mayC at h; simpa [and_assoc] using h
theorem neg_cut {w : Int} (h : longB w = true) (v : Int) : negB w (cutI v w) = negB w v := by
  unfold negB
  rcases longB_cases h with rfl | rfl
  · rw [cutI_32]; unfold sgnI; simp only [if_neg (show ¬ (32 : Int) = 8 by omega), if_neg (show ¬ (32 : Int) = 16 by omega), if_pos]
    congr 1; rw [show v % 4294967296 + 2147483648 = v + 2147483648 - 4294967296 * (v / 4294967296) by omega]; apply propext; omega
  · rw [cutI_64]
theorem sgn_32 (v : Int) : sgnI v 32 = (v + 2147483648) % 4294967296 - 2147483648 := rfl
theorem sgn_64 (v : Int) : sgnI v 64 = (v + 9223372036854775808) % 18446744073709551616 - 9223372036854775808 := rfl
/-- The document's own highest bit. -/
theorem top_32 (v : Int) : (v / 2147483648 % 2 == 1) = negB 32 v := by
  unfold negB; rw [sgn_32, Bool.eq_iff_iff, decide_eq_true_iff, beq_iff_eq]; omega
theorem top_64 (v : Int) (h0 : 0 ≤ v) (h1 : v < 18446744073709551616) : (v / 9223372036854775808 % 2 == 1) = negB 64 v := by
  unfold negB; rw [sgn_64, Bool.eq_iff_iff, decide_eq_true_iff, beq_iff_eq]; omega
theorem neg_32 (v : Int) : decide (wrap64 (IntKind.u64.wrap (v * 4294967296)) < 0) = negB 32 v := by
  rw [IntKind.wrap_u64]; unfold negB wrap64; rw [sgn_32, Bool.eq_iff_iff, decide_eq_true_iff, decide_eq_true_iff]; omega
theorem neg_64 (v : Int) : decide (wrap64 (IntKind.u64.wrap v) < 0) = negB 64 v := by
  rw [IntKind.wrap_u64]; unfold negB wrap64; rw [sgn_64, Bool.eq_iff_iff, decide_eq_true_iff, decide_eq_true_iff]; omega
theorem cut_long {w : Int} (h : longB w = true) (v : Int) (h0 : 0 ≤ v) (h1 : v < 18446744073709551616) : 0 ≤ cutI v w ∧ cutI v w < 18446744073709551616 ∧ cutI v w ≤ v := by
  rcases longB_cases h with rfl | rfl
  · rw [cutI_32]; omega
  · rw [cutI_64]; omega
theorem cut_cut {w : Int} (h : longB w = true) (v : Int) : cutI (cutI v w) w = cutI v w := by
  rcases longB_cases h with rfl | rfl
  · rw [cutI_32, cutI_32]; omega
  · rw [cutI_64, cutI_64]
theorem addV_bd {w : Int} (h : longB w = true) (a b : Int) : 0 ≤ addV w a b ∧ addV w a b < 18446744073709551616 ∧ cutI (addV w a b) w = addV w a b := by
  unfold addV
  rw [opI_0, cut_cut h]
  have := cut_long h ((cutI a w + cutI b w) % 18446744073709551616) (by omega) (by omega)
  exact ⟨this.1, this.2.1, rfl⟩
theorem subV_bd {w : Int} (h : longB w = true) (a b : Int) : 0 ≤ subV w a b ∧ subV w a b < 18446744073709551616 ∧ cutI (subV w a b) w = subV w a b := by
  unfold subV
  rw [opI_1, cut_cut h]
  have := cut_long h ((cutI a w - cutI b w) % 18446744073709551616) (by omega) (by omega)
  exact ⟨this.1, this.2.1, rfl⟩
end Go.Proofs.Ytllnengcmfgmhaa.Flg
