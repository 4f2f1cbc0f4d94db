/-
  The walk of the law BitsNot.
-/
import Derived.Test.YtipdgncjcpkcbaaDoorNotW
namespace Go.Proofs.YtipdgncjcpkcbaaDoor
open Go.RowKit
set_option linter.unusedVariables false

theorem not_cases {cc : Int} (h0 : 0 ≤ cc) (h1 : cc < 10) {P : Int → Prop} (p0 : P 0) (p1 : P 1) (p2 : P 2) (p3 : P 3) (p4 : P 4) (p5 : P 5) (p6 : P 6) (p7 : P 7) (p8 : P 8) (p9 : P 9) : P cc := by
  have : cc = 0 ∨ cc = 1 ∨ cc = 2 ∨ cc = 3 ∨ cc = 4 ∨ cc = 5 ∨ cc = 6 ∨ cc = 7 ∨ cc = 8 ∨ cc = 9 := by omega
  rcases this with rfl | rfl | rfl | rfl | rfl | rfl | rfl | rfl | rfl | rfl <;> assumption
theorem notI_rng {cc : Int} (h0 : 0 ≤ cc) (h1 : cc < 10) : 0 ≤ notI cc ∧ notI cc < 10 :=
  not_cases h0 h1 (P := fun cc => 0 ≤ notI cc ∧ notI cc < 10) (by decide) (by decide) (by decide) (by decide) (by decide) (by decide) (by decide) (by decide) (by decide) (by decide)
theorem notI_back {cc : Int} (h0 : 0 ≤ cc) (h1 : cc < 10) : notI (notI cc) = cc :=
  not_cases h0 h1 (P := fun cc => notI (notI cc) = cc) rfl rfl rfl rfl rfl rfl rfl rfl rfl rfl
theorem bne_t {a b : Bool} (h : a = !b) : (a != b) = true := by subst h; cases b <;> rfl
theorem holds_is {cc w : Int} (a b : Int) (h0 : 0 ≤ cc) (h1 : cc ≤ 10) (hw : longB w = true) : holdsB cc w a b = ccB cc w (cutI a w) (cutI b w) := if_pos ⟨h0, h1, hw⟩
theorem lt_not (x y : Int) : decide (x < y) = !decide (y ≤ x) := by
  by_cases h : x < y
  · rw [decide_eq_true h, decide_eq_false (by omega)]; rfl
  · rw [decide_eq_false h, decide_eq_true (by omega)]; rfl
theorem le_not (x y : Int) : decide (x ≤ y) = !decide (y < x) := by
  by_cases h : x ≤ y
  · rw [decide_eq_true h, decide_eq_false (by omega)]; rfl
  · rw [decide_eq_false h, decide_eq_true (by omega)]; rfl
theorem cc_not (cc w a b : Int) (h0 : 0 ≤ cc) (h1 : cc < 10) : ccB cc w a b = !ccB (notI cc) w a b := by
  refine not_cases h0 h1 (P := fun cc => ccB cc w a b = !ccB (notI cc) w a b) ?_ ?_ ?_ ?_ ?_ ?_ ?_ ?_ ?_ ?_
  · show (a == b) = !(a != b); cases h : (a == b) <;> simp [bne, h]
  · show (a != b) = !(a == b); rfl
  · exact lt_not b a
  · exact le_not b a
  · exact lt_not a b
  · exact le_not a b
  · exact lt_not _ _
  · exact le_not _ _
  · exact lt_not _ _
  · exact le_not _ _
theorem holds_not (cc w a b : Int) (h0 : 0 ≤ cc) (h1 : cc < 10) (hw : longB w = true) : holdsB (notI cc) w a b = !holdsB cc w a b := by
  have r := notI_rng h0 h1
  rw [holds_is a b h0 (by omega) hw, holds_is a b r.1 (by omega) hw, cc_not cc w _ _ h0 h1, Bool.not_not]
theorem lt_gt (w a b : Int) (hw : longB w = true) : holdsB 2 w b a = holdsB 4 w a b := by
  rw [holds_is b a (by omega) (by omega) hw, holds_is a b (by omega) (by omega) hw]; rfl
theorem slt_sgt (w a b : Int) (hw : longB w = true) : holdsB 6 w b a = holdsB 8 w a b := by
  rw [holds_is b a (by omega) (by omega) hw, holds_is a b (by omega) (by omega) hw]; rfl
theorem set_is (w a b : Int) (hw : longB w = true) (ha0 : 0 ≤ a) (ha1 : a < 18446744073709551616) (hb0 : 0 ≤ b) (hb1 : b < 18446744073709551616) : holdsB 10 w a b = (bits BinOp.and IntKind.u64 (cutI a w) (cutI b w) != 0) := by
  have c := cutI_bd a w ha0 ha1
  have d := cutI_bd b w hb0 hb1
  rw [holds_is a b (by omega) (by omega) hw, u64_and _ _ c.1 c.2 d.1 d.2]; rfl
theorem holds_ok (cc w a b : Int) (W : World) (h0 : 0 ≤ cc) (h1 : cc ≤ 10) (hw : longB w = true) (ha0 : 0 ≤ a) (ha1 : a < 18446744073709551616) (hb0 : 0 ≤ b) (hb1 : b < 18446744073709551616) :
    Calls Tryd.prog 7 #[.int .i8 cc, .int .i8 w, .int .u64 a, .int .u64 b] W fun e w' => e = .returned (.tuple #[.bool (holdsB cc w a b), .int .i64 0]) ∧ W = w' := by
  have := holds_any cc w a b W ha0 ha1 hb0 hb1
  rw [show holdsE cc w = 0 from if_pos ⟨h0, h1, hw⟩] at this
  exact this
theorem holds_bad (cc w a b : Int) (W : World) (h : ¬ (0 ≤ cc ∧ cc ≤ 10 ∧ longB w = true)) (ha0 : 0 ≤ a) (ha1 : a < 18446744073709551616) (hb0 : 0 ≤ b) (hb1 : b < 18446744073709551616) :
    Calls Tryd.prog 7 #[.int .i8 cc, .int .i8 w, .int .u64 a, .int .u64 b] W fun e w' => e = .returned (.tuple #[.bool false, .int .i64 2]) ∧ W = w' := by
  have := holds_any cc w a b W ha0 ha1 hb0 hb1
  rw [show holdsE cc w = 2 from if_neg h, show holdsB cc w a b = false from if_neg h] at this
  exact this

set_option maxRecDepth 100000 in
set_option maxHeartbeats 2000000 in
theorem bitsNot_bad (cc w a b : Int) (hcc : -128 ≤ cc ∧ cc ≤ 127) (h : ¬ (0 ≤ cc ∧ cc ≤ 10 ∧ longB w = true)) (ha0 : 0 ≤ a) (ha1 : a < 18446744073709551616) (hb0 : 0 ≤ b) (hb1 : b < 18446744073709551616) (W : World) (hO : Opps W) :
    Calls Tryd.prog 4 #[.int .i8 cc, .int .i8 w, .int .u64 a, .int .u64 b] W fun e w' => e = .returned (.bool true) ∧ Below W.heap.size W w' := by
  have D1 := Lib.hid (fun W => holds_bad cc w a b W h ha0 ha1 hb0 hb1)
  have D2 := Lib.hid (not_any cc hcc W hO)
  clear hO h hcc
  go_enter Tryd.func4, Tryd.ntmps4
  go_wp2_with fail
  refine (D1.out _).mono ?_
  rintro e w1 ⟨rfl, rfl⟩
  go_wp2_with fail
  refine D2.out.mono ?_
  rintro e w1 ⟨rfl, rfl⟩
  go_wp2_with fail
  refine (wakes_any _).mono ?_
  rintro e w1 ⟨rfl, b1⟩
  go_wp2
  go_ret
  exact ⟨rfl, b1⟩

set_option maxRecDepth 100000 in
set_option maxHeartbeats 2000000 in
theorem bitsNot_set (w a b : Int) (hw : longB w = true) (ha0 : 0 ≤ a) (ha1 : a < 18446744073709551616) (hb0 : 0 ≤ b) (hb1 : b < 18446744073709551616) (W : World) (hO : Opps W) :
    Calls Tryd.prog 4 #[.int .i8 10, .int .i8 w, .int .u64 a, .int .u64 b] W fun e w' => e = .returned (.bool true) ∧ Below W.heap.size W w' := by
  have K := fun W => holds_ok 10 w a b W (by omega) (by omega) hw ha0 ha1 hb0 hb1
  rw [set_is w a b hw ha0 ha1 hb0 hb1] at K
  have D1 := Lib.hid K; clear K
  have D2 : Hid (Calls Tryd.prog 9 #[.int .i8 10] W fun e w' => e = .returned (.tuple #[.int .i8 0, .bool false]) ∧ W = w') := Lib.hid (not_any 10 (by omega) W hO)
  clear hO hw
  go_enter Tryd.func4, Tryd.ntmps4
  go_wp2_with fail
  refine (D1.out _).mono ?_
  rintro e w1 ⟨rfl, rfl⟩
  go_wp2_with fail
  refine D2.out.mono ?_
  rintro e w1 ⟨rfl, rfl⟩
  go_wp2_with (first | (go_at_call 13; refine (cut_any _ _ _).mono ?_; rintro e w' ⟨rfl, rfl⟩) | (go_at_call 17; refine (wakes_any _).mono ?_; rintro e w' ⟨rfl, b1⟩))
  go_ret
  exact ⟨rfl, by assumption⟩

set_option maxRecDepth 100000 in
set_option maxHeartbeats 2000000 in
theorem bitsNot_good (cc w a b : Int) (h0 : 0 ≤ cc) (h1 : cc < 10) (hw : longB w = true) (ha0 : 0 ≤ a) (ha1 : a < 18446744073709551616) (hb0 : 0 ≤ b) (hb1 : b < 18446744073709551616) (W : World) (hO : Opps W) :
    Calls Tryd.prog 4 #[.int .i8 cc, .int .i8 w, .int .u64 a, .int .u64 b] W fun e w' => e = .returned (.bool true) ∧ Below W.heap.size W w' := by
  have r := notI_rng h0 h1
  obtain ⟨X, hX⟩ : ∃ X : Bool, holdsB cc w a b = X := ⟨_, rfl⟩
  have K1 := fun W => holds_ok cc w a b W h0 (by omega) hw ha0 ha1 hb0 hb1
  rw [hX] at K1
  have D1 := Lib.hid K1; clear K1
  have K3 := fun W => holds_ok (notI cc) w a b W r.1 (by omega) hw ha0 ha1 hb0 hb1
  rw [holds_not cc w a b h0 h1 hw, hX] at K3
  have D3 := Lib.hid K3; clear K3 hX
  have K2 := not_any cc (by omega) W hO
  rw [show notB cc = true from decide_eq_true ⟨h0, h1⟩] at K2
  have D2 := Lib.hid K2; clear K2
  have K4 := not_any (notI cc) (by omega) W hO
  rw [show notB (notI cc) = true from decide_eq_true r, notI_back h0 h1] at K4
  have D4 := Lib.hid K4; clear K4
  have D5 := Lib.hid (fun W => holds_ok 4 w a b W (by omega) (by omega) hw ha0 ha1 hb0 hb1)
  have K6 := fun W => holds_ok 2 w b a W (by omega) (by omega) hw hb0 hb1 ha0 ha1
  rw [lt_gt w a b hw] at K6
  have D6 := Lib.hid K6; clear K6
  have D7 := Lib.hid (fun W => holds_ok 8 w a b W (by omega) (by omega) hw ha0 ha1 hb0 hb1)
  have K8 := fun W => holds_ok 6 w b a W (by omega) (by omega) hw hb0 hb1 ha0 ha1
  rw [slt_sgt w a b hw] at K8
  have D8 := Lib.hid K8; clear K8
  clear hO hw h0 h1 r
  cases X
  all_goals
    go_enter Tryd.func4, Tryd.ntmps4
    go_wp2_with fail
    refine (D1.out _).mono ?_
    rintro e w1 ⟨rfl, rfl⟩
    go_wp2_with fail
    refine D2.out.mono ?_
    rintro e w1 ⟨rfl, rfl⟩
    go_wp2_with fail
    refine (D3.out _).mono ?_
    rintro e w1 ⟨rfl, rfl⟩
    go_wp2_with fail
    refine D4.out.mono ?_
    rintro e w1 ⟨rfl, rfl⟩
    go_wp2_with fail
    refine (D5.out _).mono ?_
    rintro e w1 ⟨rfl, rfl⟩
    go_wp2_with fail
    refine (D6.out _).mono ?_
    rintro e w1 ⟨rfl, rfl⟩
    go_wp2_with fail
    refine (D7.out _).mono ?_
    rintro e w1 ⟨rfl, rfl⟩
    go_wp2_with fail
    refine (D8.out _).mono ?_
    rintro e w1 ⟨rfl, rfl⟩
    go_wp2_with fail
    refine (wakes_any _).mono ?_
    rintro e w1 ⟨rfl, b1⟩
    go_wp2
    go_ret
    exact ⟨rfl, b1⟩

theorem bitsNot_walk (cc w a b : Int) (wc : (Lit.int .i8 cc).wf = true) (ww : (Lit.int .i8 w).wf = true) (wa : (Lit.int .u64 a).wf = true) (wb : (Lit.int .u64 b).wf = true) (W : World) (hO : Opps W) :
    Calls Tryd.prog 4 #[.int .i8 cc, .int .i8 w, .int .u64 a, .int .u64 b] W fun e w' => e = .returned (.bool true) ∧ Below W.heap.size W w' := by
  obtain ⟨a0, a1⟩ := bd_u64 wa
  obtain ⟨b0, b1⟩ := bd_u64 wb
  have c := bd_i8 wc
  by_cases h : 0 ≤ cc ∧ cc ≤ 10 ∧ longB w = true
  · obtain ⟨h0, h1, hw⟩ := h
    by_cases e : cc = 10
    · subst e; exact bitsNot_set w a b hw a0 a1 b0 b1 W hO
    · exact bitsNot_good cc w a b h0 (by omega) hw a0 a1 b0 b1 W hO
  · exact bitsNot_bad cc w a b c h a0 a1 b0 b1 W hO
end Go.Proofs.YtipdgncjcpkcbaaDoor
