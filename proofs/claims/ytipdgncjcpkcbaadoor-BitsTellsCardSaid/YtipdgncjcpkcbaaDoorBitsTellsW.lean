/-
  The walk of the law BitsTells.
-/
import Derived.Test.YtipdgncjcpkcbaaDoorRefD
namespace Go.Proofs.YtipdgncjcpkcbaaDoor
open Go.RowKit
set_option linter.unusedVariables false

set_option maxRecDepth 100000 in
set_option maxHeartbeats 4000000 in
theorem bitsTells_walk (op cc w a b : Int) (wo : (Lit.int .i8 op).wf = true) (wc : (Lit.int .i8 cc).wf = true) (ww : (Lit.int .i8 w).wf = true) (wa : (Lit.int .u64 a).wf = true) (wb : (Lit.int .u64 b).wf = true) (W : World) (hO : Opps W) :
    Calls Tryd.prog 3 #[.int .i8 op, .int .i8 cc, .int .i8 w, .int .u64 a, .int .u64 b] W fun e w' => e = .returned (.bool true) ∧ Below W.heap.size W w' := by
  obtain ⟨a0, a1⟩ := bd_u64 wa
  obtain ⟨b0, b1⟩ := bd_u64 wb
  have c := bd_i8 wc
  have D1 := Lib.hid (fun W => do_any op w a b W a0 a1 b0 b1)
  have D2 := Lib.hid (fun W => refdo_any op w a b W a0 a1 b0 b1)
  have D3 := Lib.hid (fun W => holds_any cc w a b W a0 a1 b0 b1)
  have D4 := Lib.hid (fun W => refholds_any cc w a b W a0 a1 b0 b1)
  have D5 := Lib.hid (fun W hO => not_any cc c W hO)
  have HO := Lib.hid hO
  clear hO wo wc ww wa wb a0 a1 b0 b1 c
  go_enter Tryd.func3, Tryd.ntmps3
  go_wp2_with fail
  refine (D1.out _).mono ?_
  rintro e w1 ⟨rfl, b1⟩
  have B1 := Lib.hid b1; clear b1
  go_wp2_with fail
  refine (D2.out _).mono ?_
  rintro e w' ⟨rfl, rfl⟩
  go_wp2_with fail
  refine (D3.out _).mono ?_
  rintro e w' ⟨rfl, rfl⟩
  go_wp2_with fail
  refine (D4.out _).mono ?_
  rintro e w' ⟨rfl, rfl⟩
  go_wp2_with fail
  refine (D5.out _ (HO.out.below B1.out (Nat.le_refl _))).mono ?_
  rintro e w' ⟨rfl, rfl⟩
  go_wp2_with fail
  refine (refnot_any _ _).mono ?_
  rintro e w' ⟨rfl, rfl⟩
  go_wp2_with (first | (go_at_call 11; refine (width_any _ _).mono ?_; rintro e w' ⟨rfl, rfl⟩) | (go_at_call 12; refine (refwidth_any _ _).mono ?_; rintro e w' ⟨rfl, rfl⟩) | (go_at_call 13; refine (cut_any _ _ _).mono ?_; rintro e w' ⟨rfl, rfl⟩) | (go_at_call 14; refine (refcut_any _ _ _).mono ?_; rintro e w' ⟨rfl, rfl⟩) | (go_at_call 15; refine (sign_any _ _ _).mono ?_; rintro e w' ⟨rfl, rfl⟩) | (go_at_call 16; refine (refsign_any _ _ _).mono ?_; rintro e w' ⟨rfl, rfl⟩) | (go_at_call 17; refine (wakes_any _).mono ?_; rintro e w' ⟨rfl, b3⟩))
  go_ret
  exact ⟨rfl, B1.out.trans ((by assumption : Below w1.heap.size w1 _).mono B1.out.size)⟩
end Go.Proofs.YtipdgncjcpkcbaaDoor
