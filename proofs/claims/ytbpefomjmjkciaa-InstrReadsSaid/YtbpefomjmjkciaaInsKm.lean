/-
  Rows of instructions the same, in plain words.
-/
import Derived.Test.YtbpefomjmjkciaaInsH
namespace Go.Proofs.Ytbpefomjmjkciaa.Ins
open Go.RowKit
set_option linter.unusedVariables false

/-- Are two rows of instructions the same? -/
def sameL (l1 l2 : Nat) (xs ys : Nat → In) : Bool := decide (l1 = l2) && (List.range l1).all fun i => eqI (xs i) (ys i)
theorem sameL_no {l1 l2 : Nat} {xs ys : Nat → In} (k : Nat) (hk : k < l1) (h : eqI (xs k) (ys k) = false) : sameL l1 l2 xs ys = false := by
  unfold sameL
  rw [Bool.and_eq_false_iff]
  right
  rw [List.all_eq_false]
  exact ⟨k, List.mem_range.2 hk, by simp [h]⟩
theorem sameL_yes {l : Nat} {xs ys : Nat → In} (h : ∀ i, i < l → eqI (xs i) (ys i) = true) : sameL l l xs ys = true := by
  unfold sameL
  rw [Bool.and_eq_true]
  exact ⟨decide_eq_true rfl, List.all_eq_true.2 (fun i hi => h i (List.mem_range.1 hi))⟩
theorem sameL_iff {l1 l2 : Nat} {xs ys : Nat → In} : sameL l1 l2 xs ys = true ↔ l1 = l2 ∧ ∀ i, i < l1 → xs i = ys i := by
  unfold sameL
  rw [Bool.and_eq_true, decide_eq_true_iff, List.all_eq_true]
  exact ⟨fun h => ⟨h.1, fun i hi => eqI_iff.1 (h.2 i (List.mem_range.2 hi))⟩, fun h => ⟨h.1, fun i hi => eqI_iff.2 (h.2 i (List.mem_range.1 hi))⟩⟩

theorem load_mid {b o : Nat} (x : In) {w : World} (h : w.rangeAt b o x.cells.toList) : (loadVar 26 ⟨b, o, none⟩).run Try.prog w = .ok (.agg x.cells) w :=
  run_loadVar_mid w b o 26 x.cells.toList _ h Try.underlying26 rfl info_ins

def sameI (c d : Int) (l1 l2 : Nat) (xs ys : Nat → In) : Bool := decide (c = d) && sameL l1 l2 xs ys
theorem sameI_iff {c d : Int} {l1 l2 : Nat} {xs ys : Nat → In} : sameI c d l1 l2 xs ys = true ↔ c = d ∧ l1 = l2 ∧ ∀ i, i < l1 → xs i = ys i := by
  unfold sameI; rw [Bool.and_eq_true, decide_eq_true_iff, sameL_iff]
end Go.Proofs.Ytbpefomjmjkciaa.Ins
