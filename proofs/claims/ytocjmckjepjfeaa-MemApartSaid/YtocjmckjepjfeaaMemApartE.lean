/-
  The law MemApart: what is too long, and the whole.
-/
import Derived.Test.YtocjmckjepjfeaaMemApartW
namespace Go.Proofs.Ytocjmckjepjfeaa.Apart
open Go.RowKit
set_option linter.unusedVariables false

theorem apart_long (ca : Option Addr) (cl cc : Nat) (la : Option Addr) (ll lc : Nat) (W : World) (h : 256 < cl ∨ 60 < ll) :
    Calls Try.prog 6 #[.slice ca cl cc, .slice la ll lc] W fun e w' => e = .returned (.bool true) ∧ Below W.heap.size W w' := by
  by_cases h1 : 256 < cl
  · have k1 : (256 : Int) < cl := by omega
    clear h h1
    go_enter Try.func6, Try.ntmps6
    go_wp2_with fail
    refine (wakes_any _).mono ?_
    rintro e w1 ⟨rfl, b1⟩
    go_wp2
    go_ret
    exact ⟨rfl, b1⟩
  · have k1 : (cl : Int) ≤ 256 := by omega
    have k2 : (60 : Int) < ll := by omega
    clear h h1
    go_enter Try.func6, Try.ntmps6
    go_wp2_with fail
    refine (wakes_any _).mono ?_
    rintro e w1 ⟨rfl, b1⟩
    go_wp2
    go_ret
    exact ⟨rfl, b1⟩
theorem memApart_walk (ca : Option Addr) (cl cc : Nat) (cz : List Int) (la : Option Addr) (ll lc : Nat) (d t n v : Nat → Int) (W : World) (rc : IsRow .u8 W ca cl cc cz) (hl : Acts W la ll lc d t n v) :
    Calls Try.prog 6 #[.slice ca cl cc, .slice la ll lc] W fun e w' => e = .returned (.bool true) ∧ Below W.heap.size W w' := by
  by_cases h : 256 < cl ∨ 60 < ll
  · exact apart_long ca cl cc la ll lc W h
  · exact apart_main ca cl cc _ la ll lc d t n v W (src_of_isrow rc) hl (by omega) (by omega)
end Go.Proofs.Ytocjmckjepjfeaa.Apart
