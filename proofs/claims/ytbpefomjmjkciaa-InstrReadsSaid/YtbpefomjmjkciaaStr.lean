/-
  Rows of bytes as strings.
-/
import Derived.Test.YtbpefomjmjkciaaRows
import Derived.WalkKit
import Derived.Deep.OwnRows
import Derived.Laws.BytesArg
namespace Go.Proofs.Ytbpefomjmjkciaa.Ins
open Go.RowKit
set_option linter.unusedVariables false

def strOf (f : Nat → Int) (n : Nat) : ByteArray := strOfNums ((List.range n).map f)
theorem strOf_eq {f g : Nat → Int} {n m : Nat} (hn : n = m) (h : ∀ i, i < n → f i = g i) : strOf f n = strOf g m := by
  subst hn
  unfold strOf
  congr 1
  exact List.map_congr_left (fun i hi => h i (by simpa using hi))
theorem conv_cells {w : World} (b o n cap : Nat) (f : Nat → Int) (h : ∀ i, i < n → w.cell? ⟨b, o + i, none⟩ = some (.int .u8 (f i))) :
    (convert 22 9 (.slice (some ⟨b, o, none⟩) n cap)).run Try.prog w = .ok (.string (strOf f n)) w :=
  run_convert_bytes_arg (P := Try.prog) w 22 5 Try.underlying22 Try.underlying5 b o n cap _ (by simp) (fun i hi => by
    rw [h i hi]
    simp [List.getD, hi]) 9 Try.underlying9
theorem conv_row {w : World} {z n : Nat} {t : TypeId} {f : Nat → Int} (h : w.rowIs z t n (fun i => .int .u8 (f i))) (cap : Nat) :
    (convert 22 9 (.slice (some ⟨z, 0, none⟩) n cap)).run Try.prog w = .ok (.string (strOf f n)) w :=
  conv_cells z 0 n cap f (fun i hi => by rw [Nat.zero_add]; exact h.cell hi)
theorem conv_empty (a : Option Addr) (cap : Nat) (w : World) : (convert 22 9 (.slice a 0 cap)).run Try.prog w = .ok (.string (strOf (fun _ => 0) 0)) w := by
  cases a with
  | none => exact run_convert_bytes_nil (P := Try.prog) w 22 5 Try.underlying22 Try.underlying5 0 cap 9 Try.underlying9
  | some x =>
    rw [run_convert_bytes_string w 22 9 5 (some x) 0 cap Try.underlying22 Try.underlying5 Try.underlying9, run_bytesToString w x 0 cap [] (by simp [loadCells, loadCellsFrom])]
    rfl
end Go.Proofs.Ytbpefomjmjkciaa.Ins
