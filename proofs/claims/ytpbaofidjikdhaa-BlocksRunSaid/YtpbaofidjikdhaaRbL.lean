/-
  The document's answer latheref04: Run, whatever the program.
-/
import Derived.Test.YtpbaofidjikdhaaRbK
namespace Go.Proofs.Ytpbaofidjikdhaa.Blk
open Go.RowKit Go.Maps Go.Sort Ins
set_option linter.unusedVariables false
set_option maxRecDepth 100000

set_option maxHeartbeats 2000000 in
theorem r_run_no (c : Int) (a : Option Addr) (len cap : Nat) (xs : Nat → In) (W : World) (hx : Insts W a len cap xs) (h0 : ¬ (checkI c len xs).2 = 0) :
    Calls Try.prog 36 #[.agg #[.int .i64 c, .slice a len cap]] W fun e w' => e = .returned (.tuple #[.slice none 0 0, .int .i64 (checkI c len xs).2]) ∧ Below W.heap.size W w' := by
  have C := Lib.hid (fun W h => r_check c a len cap xs W h)
  have HX := Lib.hid hx; clear hx
  generalize (checkI c len xs).2 = r at *
  generalize (checkI c len xs).1 = i at *
  have e0 : (r != 0) = true := by simpa using h0
  clear h0
  go_enter Try.func36, Try.ntmps36
  go_wp2_with fail
  refine (C.out _ (HX.out.below (below_new (Below.refl _ _) _))).mono ?_
  rintro e w2 ⟨rfl, b2⟩
  go_wp2_with fail
  go_ret2
  exact ⟨rfl, below_call (below_new (Below.refl _ W) _) b2⟩
end Go.Proofs.Ytpbaofidjikdhaa.Blk
