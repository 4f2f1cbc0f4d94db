/-
  The walk of the law BlocksRun.
-/
import Derived.Test.YtpbaofidjikdhaaBlkW
import Derived.Test.YtpbaofidjikdhaaRbL
namespace Go.Proofs.Ytpbaofidjikdhaa.Blk
open Go.RowKit Go.Maps Go.Sort Ins
set_option linter.unusedVariables false
set_option maxRecDepth 100000

theorem of_below {P : Program} {f : FuncId} {args : Array Value} {W : World} {e0 : Ending} (h : Calls P f args W fun e w' => e = e0 ∧ W = w') : Calls P f args W fun e w' => e = e0 ∧ Below W.heap.size W w' :=
  h.mono fun _ _ ⟨he, hw⟩ => ⟨he, by subst hw; exact Below.refl _ _⟩
theorem blks_nil (w : World) : Blks w none 0 0 [] := ⟨rfl, Nat.le_refl _, by omega, fun h => absurd h (by omega)⟩

set_option maxHeartbeats 8000000 in
theorem blocksRun_great (c : Int) (a : Option Addr) (len cap : Nat) (i : Int) (W : World) (hg : 100 < len) :
    Calls Try.prog 6 #[.agg #[.int .i64 c, .slice a len cap], .int .i64 i] W fun e w' => e = .returned (.bool true) ∧ Below W.heap.size W w' := by
  have G := Lib.hid (fun W => great_any c a len cap W)
  rw [decide_eq_true hg] at G
  go_enter Try.func6, Try.ntmps6
  go_wp2_with fail
  refine (G.out _).mono ?_
  rintro e w1 ⟨rfl, b1⟩
  go_wp2_with fail
  refine (wakes_any _).mono ?_
  rintro e w2 ⟨rfl, b2⟩
  go_wp2_with fail
  go_ret
  exact ⟨rfl, below_call (below_call (below_new (Below.refl _ _) _) b1) b2⟩

set_option maxHeartbeats 8000000 in
theorem blocksRun_no (c : Int) (a : Option Addr) (len cap : Nat) (xs : Nat → In) (i : Int) (W : World) (hx : Insts W a len cap xs) (hg : ¬ 100 < len) (hr : ¬ (checkI c len xs).2 = 0) :
    Calls Try.prog 6 #[.agg #[.int .i64 c, .slice a len cap], .int .i64 i] W fun e w' => e = .returned (.bool true) ∧ Below W.heap.size W w' := by
  have G := Lib.hid (fun W => great_any c a len cap W)
  rw [decide_eq_false hg] at G
  have C := Lib.hid (fun W h => run_no c a len cap xs W h hr)
  have R := Lib.hid (fun W h => r_run_no c a len cap xs W h hr)
  have OA := Lib.hid (fun W => of_any none 0 0 [] i W (blks_nil W))
  have OR := Lib.hid (fun W => r_of none 0 0 [] i W (blks_nil W))
  have SM := Lib.hid (fun W => r_same none none 0 0 0 0 [] [] W (blks_nil W) (blks_nil W))
  rw [decide_eq_true rfl] at SM
  rw [show ofL [] i = (0, false) from rfl] at OA OR
  have HX := Lib.hid hx; clear hx
  generalize (checkI c len xs).2 = r at *
  have e0 : (r == r) = true := by simp
  clear hr
  go_enter Try.func6, Try.ntmps6
  go_wp2_with fail
  refine (G.out _).mono ?_
  rintro e w1 ⟨rfl, b1⟩
  have hP : w1.cell? ⟨W.heap.size, 1, none⟩ = some (.slice a len cap) := (b1.cell (by simp)).trans (by simp)
  have hP0 : w1.cell? ⟨W.heap.size, 0, none⟩ = some (.int .i64 c) := (b1.cell (by simp)).trans (by simp)
  have B1 := Lib.hid (below_call (below_new (Below.refl _ W) _) b1); clear b1
  go_wp2_with fail
  refine (C.out _ (HX.out.below B1.out)).mono ?_
  rintro e w2 ⟨rfl, b2⟩
  have hP2 := (b2.cell (p := ⟨W.heap.size, 1, none⟩) (lt_of_cell hP)).trans hP
  have hP02 := (b2.cell (p := ⟨W.heap.size, 0, none⟩) (lt_of_cell hP0)).trans hP0
  have B2 := Lib.hid (below_call B1.out b2)
  clear b2 hP hP0
  go_wp2_with fail
  refine (R.out _ (HX.out.below B2.out)).mono ?_
  rintro e w3 ⟨rfl, b3⟩
  have B3 := Lib.hid (below_call B2.out b3)
  clear b3 hP2 hP02 B2 B1
  go_wp2_with fail
  refine (OA.out _).mono ?_
  rintro e w4 ⟨rfl, b4⟩
  have B4 := Lib.hid (below_call B3.out b4)
  clear b4 B3
  go_wp2_with fail
  refine (OR.out _).mono ?_
  rintro e w5 ⟨rfl, rfl⟩
  go_wp2_with fail
  refine (SM.out _).mono ?_
  rintro e w6 ⟨rfl, n6, rfl⟩
  have B6 := Lib.hid (below_drewN B4.out n6)
  go_wp2_with fail
  refine (wakes_any _).mono ?_
  rintro e w7 ⟨rfl, b7⟩
  go_wp2_with fail
  go_ret
  exact ⟨rfl, below_call B6.out b7⟩

set_option maxHeartbeats 8000000 in
theorem blocksRun_yes (c : Int) (a : Option Addr) (len cap : Nat) (xs : Nat → In) (i : Int) (W : World) (hx : Insts W a len cap xs) (hg : ¬ 100 < len) (hr : (checkI c len xs).2 = 0) :
    Calls Try.prog 6 #[.agg #[.int .i64 c, .slice a len cap], .int .i64 i] W fun e w' => e = .returned (.bool true) ∧ Below W.heap.size W w' := by
  have G := Lib.hid (fun W => great_any c a len cap W)
  rw [decide_eq_false hg] at G
  have C := Lib.hid (fun W h => run_yes c a len cap xs W h hr)
  have R := Lib.hid (fun W h => r_run_yes c a len cap xs W h hr)
  have HX := Lib.hid hx; clear hx
  clear hr
  generalize sh xs = s at *
  go_enter Try.func6, Try.ntmps6
  go_wp2_with fail
  refine (G.out _).mono ?_
  rintro e w1 ⟨rfl, b1⟩
  have hP : w1.cell? ⟨W.heap.size, 1, none⟩ = some (.slice a len cap) := (b1.cell (by simp)).trans (by simp)
  have hP0 : w1.cell? ⟨W.heap.size, 0, none⟩ = some (.int .i64 c) := (b1.cell (by simp)).trans (by simp)
  have B1 := Lib.hid (below_call (below_new (Below.refl _ W) _) b1); clear b1
  go_wp2_with fail
  refine (C.out _ (HX.out.below B1.out)).mono ?_
  rintro e w2 ⟨av, cv, rfl, hb2, b2⟩
  have hP2 := (b2.cell (p := ⟨W.heap.size, 1, none⟩) (lt_of_cell hP)).trans hP
  have hP02 := (b2.cell (p := ⟨W.heap.size, 0, none⟩) (lt_of_cell hP0)).trans hP0
  have B2 := Lib.hid (below_call B1.out b2)
  have HB2 := Lib.hid hb2
  clear b2 hP hP0 hb2 C
  go_wp2_with fail
  refine (R.out _ (HX.out.below B2.out)).mono ?_
  rintro e w3 ⟨ar, cr, rfl, hb3, b3⟩
  have B3 := Lib.hid (below_call B2.out b3)
  have HBA := Lib.hid (HB2.out.below b3)
  have HBR := Lib.hid hb3
  clear b3 hP2 hP02 B2 B1 hb3 HB2 R
  generalize bksF s len len = bs at *
  generalize hL : bs.length = L at *
  clear hL
  generalize hof : ofL bs i = o at *
  obtain ⟨on, ob⟩ := o
  have OA := Lib.hid (fun w b => of_any _ _ _ _ i w (HBR.out.below (w := w) b))
  rw [hof] at OA
  have OR := Lib.hid (fun w b => r_of _ _ _ _ i w (HBR.out.below (w := w) b))
  rw [hof] at OR
  have SM := Lib.hid (fun w b => r_same _ _ _ _ _ _ _ _ w (HBA.out.below (w := w) b) (HBR.out.below b))
  rw [decide_eq_true rfl] at SM
  clear hof
  have e1 : (on == on) = true := by simp
  have e2 : (ob == ob) = true := by simp
  go_wp2_with fail
  refine (OA.out _ (Below.refl _ _)).mono ?_
  rintro e w4 ⟨rfl, b4⟩
  have B4 := Lib.hid (below_call B3.out b4)
  have C4 := Lib.hid b4
  clear b4 B3
  go_wp2_with fail
  refine (OR.out _ C4.out).mono ?_
  rintro e w5 ⟨rfl, rfl⟩
  go_wp2_with fail
  refine (SM.out _ C4.out).mono ?_
  rintro e w6 ⟨rfl, n6, rfl⟩
  have B6 := Lib.hid (below_drewN B4.out n6)
  go_wp2_with fail
  refine (wakes_any _).mono ?_
  rintro e w7 ⟨rfl, b7⟩
  go_wp2_with fail
  go_ret
  exact ⟨rfl, below_call B6.out b7⟩

theorem blocksRun_law (c : Int) (a : Option Addr) (len cap : Nat) (xs : Nat → In) (i : Int) (W : World) (_ : (Lit.int .i64 c).wf = true) (hx : Insts W a len cap xs) (_ : (Lit.int .i64 i).wf = true) :
    Calls Try.prog 6 #[.agg #[.int .i64 c, .slice a len cap], .int .i64 i] W fun e w' => e = .returned (.bool true) ∧ Below W.heap.size W w' := by
  by_cases hg : 100 < len
  · exact blocksRun_great c a len cap i W hg
  by_cases hr : (checkI c len xs).2 = 0
  · exact blocksRun_yes c a len cap xs i W hx hg hr
  · exact blocksRun_no c a len cap xs i W hx hg hr
end Go.Proofs.Ytpbaofidjikdhaa.Blk
