/-
  Layer 13: the document's own classes and codes of operations. (Written by gen_enb.py.)
-/
import Derived.Test.YtjhjpllgoakncaaDoorEnA
namespace Go.Proofs.YtjhjpllgoakncaaDoor.Mrm
open Go Go.RowKit
set_option linter.unusedVariables false
set_option linter.unusedSimpArgs false
set_option maxRecDepth 100000

set_option maxHeartbeats 4000000 in
theorem cls_n (op : Int) (W : World) : Calls Tryd.prog 27 #[.int .i8 op] W fun e w' => e = .returned (.int .i64 (clsI op)) ∧ W = w' := by
  by_cases h : 0 ≤ op ∧ op < 32
  · rcases lt32 h with rfl | rfl | rfl | rfl | rfl | rfl | rfl | rfl | rfl | rfl | rfl | rfl | rfl | rfl | rfl | rfl | rfl | rfl | rfl | rfl | rfl | rfl | rfl | rfl | rfl | rfl | rfl | rfl | rfl | rfl | rfl | rfl
    all_goals (
      clear h
      go_enter Tryd.func27, Tryd.ntmps27
      go_wp2
      go_ret
      exact ⟨rfl, rfl⟩)
  · rw [show clsI op = 0 from if_neg h]
    have n0 := ne32 h 0 (by decide)
    have n1 := ne32 h 1 (by decide)
    have n2 := ne32 h 2 (by decide)
    have n3 := ne32 h 3 (by decide)
    have n4 := ne32 h 4 (by decide)
    have n5 := ne32 h 5 (by decide)
    have n6 := ne32 h 6 (by decide)
    have n7 := ne32 h 7 (by decide)
    have n8 := ne32 h 8 (by decide)
    have n9 := ne32 h 9 (by decide)
    have n10 := ne32 h 10 (by decide)
    have n11 := ne32 h 11 (by decide)
    have n12 := ne32 h 12 (by decide)
    have n13 := ne32 h 13 (by decide)
    have n14 := ne32 h 14 (by decide)
    have n15 := ne32 h 15 (by decide)
    have n16 := ne32 h 16 (by decide)
    have n17 := ne32 h 17 (by decide)
    have n18 := ne32 h 18 (by decide)
    have n19 := ne32 h 19 (by decide)
    have n20 := ne32 h 20 (by decide)
    have n21 := ne32 h 21 (by decide)
    have n22 := ne32 h 22 (by decide)
    have n23 := ne32 h 23 (by decide)
    have n24 := ne32 h 24 (by decide)
    have n25 := ne32 h 25 (by decide)
    have n26 := ne32 h 26 (by decide)
    have n27 := ne32 h 27 (by decide)
    have n28 := ne32 h 28 (by decide)
    have n29 := ne32 h 29 (by decide)
    have n30 := ne32 h 30 (by decide)
    have n31 := ne32 h 31 (by decide)
    clear h
    go_enter Tryd.func27, Tryd.ntmps27
    go_wp2
    go_ret
    exact ⟨rfl, rfl⟩
set_option maxHeartbeats 4000000 in
theorem cod_n (op : Int) (W : World) : Calls Tryd.prog 24 #[.int .i8 op] W fun e w' => e = .returned (.int .u8 (codI op)) ∧ W = w' := by
  by_cases h : 0 ≤ op ∧ op < 32
  · rcases lt32 h with rfl | rfl | rfl | rfl | rfl | rfl | rfl | rfl | rfl | rfl | rfl | rfl | rfl | rfl | rfl | rfl | rfl | rfl | rfl | rfl | rfl | rfl | rfl | rfl | rfl | rfl | rfl | rfl | rfl | rfl | rfl | rfl
    all_goals (
      clear h
      go_enter Tryd.func24, Tryd.ntmps24
      go_wp2
      go_ret
      exact ⟨rfl, rfl⟩)
  · rw [show codI op = 0 from if_neg h]
    have n0 := ne32 h 0 (by decide)
    have n1 := ne32 h 1 (by decide)
    have n2 := ne32 h 2 (by decide)
    have n3 := ne32 h 3 (by decide)
    have n4 := ne32 h 4 (by decide)
    have n5 := ne32 h 5 (by decide)
    have n6 := ne32 h 6 (by decide)
    have n7 := ne32 h 7 (by decide)
    have n8 := ne32 h 8 (by decide)
    have n9 := ne32 h 9 (by decide)
    have n10 := ne32 h 10 (by decide)
    have n11 := ne32 h 11 (by decide)
    have n12 := ne32 h 12 (by decide)
    have n13 := ne32 h 13 (by decide)
    have n14 := ne32 h 14 (by decide)
    have n15 := ne32 h 15 (by decide)
    have n16 := ne32 h 16 (by decide)
    have n17 := ne32 h 17 (by decide)
    have n18 := ne32 h 18 (by decide)
    have n19 := ne32 h 19 (by decide)
    have n20 := ne32 h 20 (by decide)
    have n21 := ne32 h 21 (by decide)
    have n22 := ne32 h 22 (by decide)
    have n23 := ne32 h 23 (by decide)
    have n24 := ne32 h 24 (by decide)
    have n25 := ne32 h 25 (by decide)
    have n26 := ne32 h 26 (by decide)
    have n27 := ne32 h 27 (by decide)
    have n28 := ne32 h 28 (by decide)
    have n29 := ne32 h 29 (by decide)
    have n30 := ne32 h 30 (by decide)
    have n31 := ne32 h 31 (by decide)
    clear h
    go_enter Tryd.func24, Tryd.ntmps24
    go_wp2
    go_ret
    exact ⟨rfl, rfl⟩
end Go.Proofs.YtjhjpllgoakncaaDoor.Mrm
