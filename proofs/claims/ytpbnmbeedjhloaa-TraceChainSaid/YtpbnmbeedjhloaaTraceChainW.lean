/-
  The walk of the law TraceChain.
-/
import Derived.Test.YtpbnmbeedjhloaaTrcL
import Derived.Test.YtpbnmbeedjhloaaTrcO
namespace Go.Proofs.Ytpbnmbeedjhloaa.Trc
open Go.RowKit
set_option linter.unusedVariables false

set_option maxRecDepth 100000 in
set_option maxHeartbeats 16000000 in
theorem traceChain_walk (x : Out) (ca1 : Option Addr) (cc1 : Nat) (ta1 : Option Addr) (tc1 : Nat) (y : Out) (ca2 : Option Addr) (cc2 : Nat) (ta2 : Option Addr) (tc2 : Nat) (z : Out) (ca3 : Option Addr) (cc3 : Nat) (ta3 : Option Addr) (tc3 : Nat) (W : World) (h1 : OutAt W x ca1 cc1 ta1 tc1) (h2 : OutAt W y ca2 cc2 ta2 tc2) (h3 : OutAt W z ca3 cc3 ta3 tc3) :
    Calls Try.prog 12 #[outV x ca1 cc1 ta1 tc1, outV y ca2 cc2 ta2 tc2, outV z ca3 cc3 ta3 tc3] W fun e w' => e = .returned (.bool true) ∧ Below W.heap.size W w' := by
  have XA := Lib.hid (bx1 W x ca1 ta1 cc1 tc1 (outC y ca2 cc2 ta2 tc2) (outC z ca3 cc3 ta3 tc3))
  have XB := Lib.hid (bx2 W y ca2 ta2 cc2 tc2 (outC x ca1 cc1 ta1 tc1) (outC z ca3 cc3 ta3 tc3))
  have XC := Lib.hid (bx3 W z ca3 ta3 cc3 tc3 (outC x ca1 cc1 ta1 tc1) (outC y ca2 cc2 ta2 tc2))
  have BW := Lib.hid (bb3 W (outC x ca1 cc1 ta1 tc1) (outC y ca2 cc2 ta2 tc2) (outC z ca3 cc3 ta3 tc3))
  have GA := Lib.hid (fun w b => great_any x ca1 ta1 cc1 tc1 w (h1.below (w := w) b))
  have GB := Lib.hid (fun w b => great_any y ca2 ta2 cc2 tc2 w (h2.below (w := w) b))
  have GC := Lib.hid (fun w b => great_any z ca3 ta3 cc3 tc3 w (h3.below (w := w) b))
  generalize greatB x = ga at GA
  generalize greatB y = gb at GB
  generalize greatB z = gc at GC
  have BAB := Lib.hid (fun w b => becomes_any x y ca1 ta1 ca2 ta2 cc1 tc1 cc2 tc2 w (h1.below (w := w) b) (h2.below b))
  have BBC := Lib.hid (fun w b => becomes_any y z ca2 ta2 ca3 ta3 cc2 tc2 cc3 tc3 w (h2.below (w := w) b) (h3.below b))
  have BAC := Lib.hid (fun w b => becomes_any x z ca1 ta1 ca3 ta3 cc1 tc1 cc3 tc3 w (h1.below (w := w) b) (h3.below b))
  have LBC := Lib.hid (fun w b => like_any y z ca2 ta2 ca3 ta3 cc2 tc2 cc3 tc3 w (h2.below (w := w) b) (h3.below b))
  have k1 : OutAt W { x with kind := 0 } ca1 cc1 ta1 tc1 := ⟨h1.ctx, h1.tr⟩
  have AA := Lib.hid (fun w b => becomes_any { x with kind := 0 } { x with kind := 0 } ca1 ta1 ca1 ta1 cc1 tc1 cc1 tc1 w (k1.below (w := w) b) (k1.below b))
  rw [becB_self] at AA
  have LX := Lib.hid (fun w b => like_any { x with kind := 0 } y ca1 ta1 ca2 ta2 cc1 tc1 cc2 tc2 w (k1.below (w := w) b) (h2.below b))
  have BX := Lib.hid (fun w b => becomes_any { x with kind := 0 } y ca1 ta1 ca2 ta2 cc1 tc1 cc2 tc2 w (k1.below (w := w) b) (h2.below b))
  have F1 := Lib.hid (fun (h : becB x y = true) (k : becB y z = true) => becB_trans h k)
  have F2 := Lib.hid (fun (h : becB x y = true) (k : likeB y z = true) => becB_like h k)
  have F3 := Lib.hid (fun (h : likeB { x with kind := 0 } y = true) => becB_of h)
  clear h1 h2 h3 k1
  generalize becB x y = ab at BAB F1 F2
  generalize becB y z = bc at BBC F1
  generalize becB x z = ac at BAC F1 F2
  generalize likeB y z = lbc at LBC F2
  generalize likeB { x with kind := 0 } y = lx at LX F3
  generalize becB { x with kind := 0 } y = bx at BX F3
  simp only [outV]
  go_enter Try.func12, Try.ntmps12
  go_wp2_with fail
  refine (GA.out _ BW.out).mono ?_
  rintro e w1 ⟨rfl, d1⟩
  replace XA := Lib.hid (XA.out.below d1)
  replace XB := Lib.hid (XB.out.below d1)
  replace XC := Lib.hid (XC.out.below d1)
  replace BW := Lib.hid (below_call BW.out d1)
  clear d1
  obtain ⟨a0, a1, a2, a3, a4⟩ := XA.out.toBox5.all
  obtain ⟨b0, b1, b2, b3, b4⟩ := XB.out.toBox5.all
  obtain ⟨c0, c1, c2, c3, c4⟩ := XC.out.toBox5.all
  cases ga
  case true =>
    go_wp2_with fail
    (refine (wakes_any _).mono ?_)
    rintro e w2 ⟨rfl, d2⟩
    go_wp2_with fail
    go_ret
    exact ⟨rfl, below_call BW.out d2⟩
  go_wp2_with fail
  refine (GB.out _ BW.out).mono ?_
  rintro e w3 ⟨rfl, d3⟩
  clear a0 a1 a2 a3 a4 b0 b1 b2 b3 b4 c0 c1 c2 c3 c4
  replace XA := Lib.hid (XA.out.below d3)
  replace XB := Lib.hid (XB.out.below d3)
  replace XC := Lib.hid (XC.out.below d3)
  replace BW := Lib.hid (below_call BW.out d3)
  clear d3
  obtain ⟨a0, a1, a2, a3, a4⟩ := XA.out.toBox5.all
  obtain ⟨b0, b1, b2, b3, b4⟩ := XB.out.toBox5.all
  obtain ⟨c0, c1, c2, c3, c4⟩ := XC.out.toBox5.all
  cases gb
  case true =>
    go_wp2_with fail
    (refine (wakes_any _).mono ?_)
    rintro e w4 ⟨rfl, d4⟩
    go_wp2_with fail
    go_ret
    exact ⟨rfl, below_call BW.out d4⟩
  go_wp2_with fail
  refine (GC.out _ BW.out).mono ?_
  rintro e w5 ⟨rfl, d5⟩
  clear a0 a1 a2 a3 a4 b0 b1 b2 b3 b4 c0 c1 c2 c3 c4
  replace XA := Lib.hid (XA.out.below d5)
  replace XB := Lib.hid (XB.out.below d5)
  replace XC := Lib.hid (XC.out.below d5)
  replace BW := Lib.hid (below_call BW.out d5)
  clear d5
  obtain ⟨a0, a1, a2, a3, a4⟩ := XA.out.toBox5.all
  obtain ⟨b0, b1, b2, b3, b4⟩ := XB.out.toBox5.all
  obtain ⟨c0, c1, c2, c3, c4⟩ := XC.out.toBox5.all
  cases gc
  case true =>
    go_wp2_with fail
    (refine (wakes_any _).mono ?_)
    rintro e w6 ⟨rfl, d6⟩
    go_wp2_with fail
    go_ret
    exact ⟨rfl, below_call BW.out d6⟩
  clear GA GB GC
  go_wp2_with fail
  refine (BAB.out _ BW.out).mono ?_
  rintro e w7 ⟨rfl, d7⟩
  clear a0 a1 a2 a3 a4 b0 b1 b2 b3 b4 c0 c1 c2 c3 c4
  replace XA := Lib.hid (XA.out.below d7)
  replace XB := Lib.hid (XB.out.below d7)
  replace XC := Lib.hid (XC.out.below d7)
  replace BW := Lib.hid (below_call BW.out d7)
  clear d7
  obtain ⟨a0, a1, a2, a3, a4⟩ := XA.out.toBox5.all
  obtain ⟨b0, b1, b2, b3, b4⟩ := XB.out.toBox5.all
  obtain ⟨c0, c1, c2, c3, c4⟩ := XC.out.toBox5.all
  cases ab
  case false =>
    go_wp2_with fail
    refine (BAB.out _ BW.out).mono ?_
    rintro e w8 ⟨rfl, d8⟩
    clear a0 a1 a2 a3 a4 b0 b1 b2 b3 b4 c0 c1 c2 c3 c4
    replace XA := Lib.hid (XA.out.below d8)
    replace XB := Lib.hid (XB.out.below d8)
    replace XC := Lib.hid (XC.out.below d8)
    replace BW := Lib.hid (below_call BW.out d8)
    clear d8
    obtain ⟨a0, a1, a2, a3, a4⟩ := XA.out.toBox5.all
    obtain ⟨b0, b1, b2, b3, b4⟩ := XB.out.toBox5.all
    obtain ⟨c0, c1, c2, c3, c4⟩ := XC.out.toBox5.all
    have f0 := XA.out.fz 0
    go_wp2_with fail
    have BS := Lib.hid (BW.out.setCell (p := ⟨W.heap.size, 0, none⟩) (Nat.le_refl _) (.int .i8 0))
    clear a0 a1 a2 a3 a4 b0 b1 b2 b3 b4 c0 c1 c2 c3 c4 f0
    replace XB := Lib.hid (XB.out.setFar (c := W.heap.size) 0 (.int .i8 0) (by omega))
    replace XC := Lib.hid (XC.out.setFar (c := W.heap.size) 0 (.int .i8 0) (by omega))
    replace XA := Lib.hid (XA.out.setKind 0)
    refine (AA.out _ BS.out).mono ?_
    rintro e w9 ⟨rfl, d9⟩
    replace XA := Lib.hid (XA.out.below d9)
    replace XB := Lib.hid (XB.out.below d9)
    replace XC := Lib.hid (XC.out.below d9)
    replace BW := Lib.hid (below_call BS.out d9)
    clear d9 BS
    obtain ⟨a0, a1, a2, a3, a4⟩ := XA.out.toBox5.all
    obtain ⟨b0, b1, b2, b3, b4⟩ := XB.out.toBox5.all
    obtain ⟨c0, c1, c2, c3, c4⟩ := XC.out.toBox5.all
    go_wp2_with fail
    refine (LX.out _ BW.out).mono ?_
    rintro e w10 ⟨rfl, d10⟩
    clear a0 a1 a2 a3 a4 b0 b1 b2 b3 b4 c0 c1 c2 c3 c4
    replace XA := Lib.hid (XA.out.below d10)
    replace XB := Lib.hid (XB.out.below d10)
    replace XC := Lib.hid (XC.out.below d10)
    replace BW := Lib.hid (below_call BW.out d10)
    clear d10
    obtain ⟨a0, a1, a2, a3, a4⟩ := XA.out.toBox5.all
    obtain ⟨b0, b1, b2, b3, b4⟩ := XB.out.toBox5.all
    obtain ⟨c0, c1, c2, c3, c4⟩ := XC.out.toBox5.all
    cases lx
    case false =>
      go_wp2_with fail
      (refine (wakes_any _).mono ?_)
      rintro e w11 ⟨rfl, d11⟩
      go_wp2_with fail
      go_ret
      exact ⟨rfl, below_call BW.out d11⟩
    have hbx := F3.out (by trivial)
    subst hbx
    go_wp2_with fail
    refine (BX.out _ BW.out).mono ?_
    rintro e w12 ⟨rfl, d12⟩
    clear a0 a1 a2 a3 a4 b0 b1 b2 b3 b4 c0 c1 c2 c3 c4
    replace XA := Lib.hid (XA.out.below d12)
    replace XB := Lib.hid (XB.out.below d12)
    replace XC := Lib.hid (XC.out.below d12)
    replace BW := Lib.hid (below_call BW.out d12)
    clear d12
    obtain ⟨a0, a1, a2, a3, a4⟩ := XA.out.toBox5.all
    obtain ⟨b0, b1, b2, b3, b4⟩ := XB.out.toBox5.all
    obtain ⟨c0, c1, c2, c3, c4⟩ := XC.out.toBox5.all
    go_wp2_with fail
    (refine (wakes_any _).mono ?_)
    rintro e w13 ⟨rfl, d13⟩
    go_wp2_with fail
    go_ret
    exact ⟨rfl, below_call BW.out d13⟩
  go_wp2_with fail
  refine (BBC.out _ BW.out).mono ?_
  rintro e w14 ⟨rfl, d14⟩
  clear a0 a1 a2 a3 a4 b0 b1 b2 b3 b4 c0 c1 c2 c3 c4
  replace XA := Lib.hid (XA.out.below d14)
  replace XB := Lib.hid (XB.out.below d14)
  replace XC := Lib.hid (XC.out.below d14)
  replace BW := Lib.hid (below_call BW.out d14)
  clear d14
  obtain ⟨a0, a1, a2, a3, a4⟩ := XA.out.toBox5.all
  obtain ⟨b0, b1, b2, b3, b4⟩ := XB.out.toBox5.all
  obtain ⟨c0, c1, c2, c3, c4⟩ := XC.out.toBox5.all
  cases bc
  case false =>
    go_wp2_with fail
    refine (BAB.out _ BW.out).mono ?_
    rintro e w15 ⟨rfl, d15⟩
    clear a0 a1 a2 a3 a4 b0 b1 b2 b3 b4 c0 c1 c2 c3 c4
    replace XA := Lib.hid (XA.out.below d15)
    replace XB := Lib.hid (XB.out.below d15)
    replace XC := Lib.hid (XC.out.below d15)
    replace BW := Lib.hid (below_call BW.out d15)
    clear d15
    obtain ⟨a0, a1, a2, a3, a4⟩ := XA.out.toBox5.all
    obtain ⟨b0, b1, b2, b3, b4⟩ := XB.out.toBox5.all
    obtain ⟨c0, c1, c2, c3, c4⟩ := XC.out.toBox5.all
    go_wp2_with fail
    refine (LBC.out _ BW.out).mono ?_
    rintro e w16 ⟨rfl, d16⟩
    clear a0 a1 a2 a3 a4 b0 b1 b2 b3 b4 c0 c1 c2 c3 c4
    replace XA := Lib.hid (XA.out.below d16)
    replace XB := Lib.hid (XB.out.below d16)
    replace XC := Lib.hid (XC.out.below d16)
    replace BW := Lib.hid (below_call BW.out d16)
    clear d16
    obtain ⟨a0, a1, a2, a3, a4⟩ := XA.out.toBox5.all
    obtain ⟨b0, b1, b2, b3, b4⟩ := XB.out.toBox5.all
    obtain ⟨c0, c1, c2, c3, c4⟩ := XC.out.toBox5.all
    cases lbc
    case false =>
      have f0 := XA.out.fz 0
      go_wp2_with fail
      have BS := Lib.hid (BW.out.setCell (p := ⟨W.heap.size, 0, none⟩) (Nat.le_refl _) (.int .i8 0))
      clear a0 a1 a2 a3 a4 b0 b1 b2 b3 b4 c0 c1 c2 c3 c4 f0
      replace XB := Lib.hid (XB.out.setFar (c := W.heap.size) 0 (.int .i8 0) (by omega))
      replace XC := Lib.hid (XC.out.setFar (c := W.heap.size) 0 (.int .i8 0) (by omega))
      replace XA := Lib.hid (XA.out.setKind 0)
      refine (AA.out _ BS.out).mono ?_
      rintro e w17 ⟨rfl, d17⟩
      replace XA := Lib.hid (XA.out.below d17)
      replace XB := Lib.hid (XB.out.below d17)
      replace XC := Lib.hid (XC.out.below d17)
      replace BW := Lib.hid (below_call BS.out d17)
      clear d17 BS
      obtain ⟨a0, a1, a2, a3, a4⟩ := XA.out.toBox5.all
      obtain ⟨b0, b1, b2, b3, b4⟩ := XB.out.toBox5.all
      obtain ⟨c0, c1, c2, c3, c4⟩ := XC.out.toBox5.all
      go_wp2_with fail
      refine (LX.out _ BW.out).mono ?_
      rintro e w18 ⟨rfl, d18⟩
      clear a0 a1 a2 a3 a4 b0 b1 b2 b3 b4 c0 c1 c2 c3 c4
      replace XA := Lib.hid (XA.out.below d18)
      replace XB := Lib.hid (XB.out.below d18)
      replace XC := Lib.hid (XC.out.below d18)
      replace BW := Lib.hid (below_call BW.out d18)
      clear d18
      obtain ⟨a0, a1, a2, a3, a4⟩ := XA.out.toBox5.all
      obtain ⟨b0, b1, b2, b3, b4⟩ := XB.out.toBox5.all
      obtain ⟨c0, c1, c2, c3, c4⟩ := XC.out.toBox5.all
      cases lx
      case false =>
        go_wp2_with fail
        (refine (wakes_any _).mono ?_)
        rintro e w19 ⟨rfl, d19⟩
        go_wp2_with fail
        go_ret
        exact ⟨rfl, below_call BW.out d19⟩
      have hbx := F3.out (by trivial)
      subst hbx
      go_wp2_with fail
      refine (BX.out _ BW.out).mono ?_
      rintro e w20 ⟨rfl, d20⟩
      clear a0 a1 a2 a3 a4 b0 b1 b2 b3 b4 c0 c1 c2 c3 c4
      replace XA := Lib.hid (XA.out.below d20)
      replace XB := Lib.hid (XB.out.below d20)
      replace XC := Lib.hid (XC.out.below d20)
      replace BW := Lib.hid (below_call BW.out d20)
      clear d20
      obtain ⟨a0, a1, a2, a3, a4⟩ := XA.out.toBox5.all
      obtain ⟨b0, b1, b2, b3, b4⟩ := XB.out.toBox5.all
      obtain ⟨c0, c1, c2, c3, c4⟩ := XC.out.toBox5.all
      go_wp2_with fail
      (refine (wakes_any _).mono ?_)
      rintro e w21 ⟨rfl, d21⟩
      go_wp2_with fail
      go_ret
      exact ⟨rfl, below_call BW.out d21⟩
    have hac := F2.out (by trivial) (by trivial)
    first | subst hac | skip
    go_wp2_with fail
    refine (BAC.out _ BW.out).mono ?_
    rintro e w22 ⟨rfl, d22⟩
    clear a0 a1 a2 a3 a4 b0 b1 b2 b3 b4 c0 c1 c2 c3 c4
    replace XA := Lib.hid (XA.out.below d22)
    replace XB := Lib.hid (XB.out.below d22)
    replace XC := Lib.hid (XC.out.below d22)
    replace BW := Lib.hid (below_call BW.out d22)
    clear d22
    obtain ⟨a0, a1, a2, a3, a4⟩ := XA.out.toBox5.all
    obtain ⟨b0, b1, b2, b3, b4⟩ := XB.out.toBox5.all
    obtain ⟨c0, c1, c2, c3, c4⟩ := XC.out.toBox5.all
    have f0 := XA.out.fz 0
    go_wp2_with fail
    have BS := Lib.hid (BW.out.setCell (p := ⟨W.heap.size, 0, none⟩) (Nat.le_refl _) (.int .i8 0))
    clear a0 a1 a2 a3 a4 b0 b1 b2 b3 b4 c0 c1 c2 c3 c4 f0
    replace XB := Lib.hid (XB.out.setFar (c := W.heap.size) 0 (.int .i8 0) (by omega))
    replace XC := Lib.hid (XC.out.setFar (c := W.heap.size) 0 (.int .i8 0) (by omega))
    replace XA := Lib.hid (XA.out.setKind 0)
    refine (AA.out _ BS.out).mono ?_
    rintro e w23 ⟨rfl, d23⟩
    replace XA := Lib.hid (XA.out.below d23)
    replace XB := Lib.hid (XB.out.below d23)
    replace XC := Lib.hid (XC.out.below d23)
    replace BW := Lib.hid (below_call BS.out d23)
    clear d23 BS
    obtain ⟨a0, a1, a2, a3, a4⟩ := XA.out.toBox5.all
    obtain ⟨b0, b1, b2, b3, b4⟩ := XB.out.toBox5.all
    obtain ⟨c0, c1, c2, c3, c4⟩ := XC.out.toBox5.all
    go_wp2_with fail
    refine (LX.out _ BW.out).mono ?_
    rintro e w24 ⟨rfl, d24⟩
    clear a0 a1 a2 a3 a4 b0 b1 b2 b3 b4 c0 c1 c2 c3 c4
    replace XA := Lib.hid (XA.out.below d24)
    replace XB := Lib.hid (XB.out.below d24)
    replace XC := Lib.hid (XC.out.below d24)
    replace BW := Lib.hid (below_call BW.out d24)
    clear d24
    obtain ⟨a0, a1, a2, a3, a4⟩ := XA.out.toBox5.all
    obtain ⟨b0, b1, b2, b3, b4⟩ := XB.out.toBox5.all
    obtain ⟨c0, c1, c2, c3, c4⟩ := XC.out.toBox5.all
    cases lx
    case false =>
      go_wp2_with fail
      (refine (wakes_any _).mono ?_)
      rintro e w25 ⟨rfl, d25⟩
      go_wp2_with fail
      go_ret
      exact ⟨rfl, below_call BW.out d25⟩
    have hbx := F3.out (by trivial)
    subst hbx
    go_wp2_with fail
    refine (BX.out _ BW.out).mono ?_
    rintro e w26 ⟨rfl, d26⟩
    clear a0 a1 a2 a3 a4 b0 b1 b2 b3 b4 c0 c1 c2 c3 c4
    replace XA := Lib.hid (XA.out.below d26)
    replace XB := Lib.hid (XB.out.below d26)
    replace XC := Lib.hid (XC.out.below d26)
    replace BW := Lib.hid (below_call BW.out d26)
    clear d26
    obtain ⟨a0, a1, a2, a3, a4⟩ := XA.out.toBox5.all
    obtain ⟨b0, b1, b2, b3, b4⟩ := XB.out.toBox5.all
    obtain ⟨c0, c1, c2, c3, c4⟩ := XC.out.toBox5.all
    go_wp2_with fail
    (refine (wakes_any _).mono ?_)
    rintro e w27 ⟨rfl, d27⟩
    go_wp2_with fail
    go_ret
    exact ⟨rfl, below_call BW.out d27⟩
  have hac0 := F1.out (by trivial) (by trivial)
  subst hac0
  go_wp2_with fail
  refine (BAC.out _ BW.out).mono ?_
  rintro e w28 ⟨rfl, d28⟩
  clear a0 a1 a2 a3 a4 b0 b1 b2 b3 b4 c0 c1 c2 c3 c4
  replace XA := Lib.hid (XA.out.below d28)
  replace XB := Lib.hid (XB.out.below d28)
  replace XC := Lib.hid (XC.out.below d28)
  replace BW := Lib.hid (below_call BW.out d28)
  clear d28
  obtain ⟨a0, a1, a2, a3, a4⟩ := XA.out.toBox5.all
  obtain ⟨b0, b1, b2, b3, b4⟩ := XB.out.toBox5.all
  obtain ⟨c0, c1, c2, c3, c4⟩ := XC.out.toBox5.all
  go_wp2_with fail
  refine (BAB.out _ BW.out).mono ?_
  rintro e w29 ⟨rfl, d29⟩
  clear a0 a1 a2 a3 a4 b0 b1 b2 b3 b4 c0 c1 c2 c3 c4
  replace XA := Lib.hid (XA.out.below d29)
  replace XB := Lib.hid (XB.out.below d29)
  replace XC := Lib.hid (XC.out.below d29)
  replace BW := Lib.hid (below_call BW.out d29)
  clear d29
  obtain ⟨a0, a1, a2, a3, a4⟩ := XA.out.toBox5.all
  obtain ⟨b0, b1, b2, b3, b4⟩ := XB.out.toBox5.all
  obtain ⟨c0, c1, c2, c3, c4⟩ := XC.out.toBox5.all
  go_wp2_with fail
  refine (LBC.out _ BW.out).mono ?_
  rintro e w30 ⟨rfl, d30⟩
  clear a0 a1 a2 a3 a4 b0 b1 b2 b3 b4 c0 c1 c2 c3 c4
  replace XA := Lib.hid (XA.out.below d30)
  replace XB := Lib.hid (XB.out.below d30)
  replace XC := Lib.hid (XC.out.below d30)
  replace BW := Lib.hid (below_call BW.out d30)
  clear d30
  obtain ⟨a0, a1, a2, a3, a4⟩ := XA.out.toBox5.all
  obtain ⟨b0, b1, b2, b3, b4⟩ := XB.out.toBox5.all
  obtain ⟨c0, c1, c2, c3, c4⟩ := XC.out.toBox5.all
  cases lbc
  case false =>
    have f0 := XA.out.fz 0
    go_wp2_with fail
    have BS := Lib.hid (BW.out.setCell (p := ⟨W.heap.size, 0, none⟩) (Nat.le_refl _) (.int .i8 0))
    clear a0 a1 a2 a3 a4 b0 b1 b2 b3 b4 c0 c1 c2 c3 c4 f0
    replace XB := Lib.hid (XB.out.setFar (c := W.heap.size) 0 (.int .i8 0) (by omega))
    replace XC := Lib.hid (XC.out.setFar (c := W.heap.size) 0 (.int .i8 0) (by omega))
    replace XA := Lib.hid (XA.out.setKind 0)
    refine (AA.out _ BS.out).mono ?_
    rintro e w31 ⟨rfl, d31⟩
    replace XA := Lib.hid (XA.out.below d31)
    replace XB := Lib.hid (XB.out.below d31)
    replace XC := Lib.hid (XC.out.below d31)
    replace BW := Lib.hid (below_call BS.out d31)
    clear d31 BS
    obtain ⟨a0, a1, a2, a3, a4⟩ := XA.out.toBox5.all
    obtain ⟨b0, b1, b2, b3, b4⟩ := XB.out.toBox5.all
    obtain ⟨c0, c1, c2, c3, c4⟩ := XC.out.toBox5.all
    go_wp2_with fail
    refine (LX.out _ BW.out).mono ?_
    rintro e w32 ⟨rfl, d32⟩
    clear a0 a1 a2 a3 a4 b0 b1 b2 b3 b4 c0 c1 c2 c3 c4
    replace XA := Lib.hid (XA.out.below d32)
    replace XB := Lib.hid (XB.out.below d32)
    replace XC := Lib.hid (XC.out.below d32)
    replace BW := Lib.hid (below_call BW.out d32)
    clear d32
    obtain ⟨a0, a1, a2, a3, a4⟩ := XA.out.toBox5.all
    obtain ⟨b0, b1, b2, b3, b4⟩ := XB.out.toBox5.all
    obtain ⟨c0, c1, c2, c3, c4⟩ := XC.out.toBox5.all
    cases lx
    case false =>
      go_wp2_with fail
      (refine (wakes_any _).mono ?_)
      rintro e w33 ⟨rfl, d33⟩
      go_wp2_with fail
      go_ret
      exact ⟨rfl, below_call BW.out d33⟩
    have hbx := F3.out (by trivial)
    subst hbx
    go_wp2_with fail
    refine (BX.out _ BW.out).mono ?_
    rintro e w34 ⟨rfl, d34⟩
    clear a0 a1 a2 a3 a4 b0 b1 b2 b3 b4 c0 c1 c2 c3 c4
    replace XA := Lib.hid (XA.out.below d34)
    replace XB := Lib.hid (XB.out.below d34)
    replace XC := Lib.hid (XC.out.below d34)
    replace BW := Lib.hid (below_call BW.out d34)
    clear d34
    obtain ⟨a0, a1, a2, a3, a4⟩ := XA.out.toBox5.all
    obtain ⟨b0, b1, b2, b3, b4⟩ := XB.out.toBox5.all
    obtain ⟨c0, c1, c2, c3, c4⟩ := XC.out.toBox5.all
    go_wp2_with fail
    (refine (wakes_any _).mono ?_)
    rintro e w35 ⟨rfl, d35⟩
    go_wp2_with fail
    go_ret
    exact ⟨rfl, below_call BW.out d35⟩
  have hac := F2.out (by trivial) (by trivial)
  first | subst hac | skip
  go_wp2_with fail
  refine (BAC.out _ BW.out).mono ?_
  rintro e w36 ⟨rfl, d36⟩
  clear a0 a1 a2 a3 a4 b0 b1 b2 b3 b4 c0 c1 c2 c3 c4
  replace XA := Lib.hid (XA.out.below d36)
  replace XB := Lib.hid (XB.out.below d36)
  replace XC := Lib.hid (XC.out.below d36)
  replace BW := Lib.hid (below_call BW.out d36)
  clear d36
  obtain ⟨a0, a1, a2, a3, a4⟩ := XA.out.toBox5.all
  obtain ⟨b0, b1, b2, b3, b4⟩ := XB.out.toBox5.all
  obtain ⟨c0, c1, c2, c3, c4⟩ := XC.out.toBox5.all
  have f0 := XA.out.fz 0
  go_wp2_with fail
  have BS := Lib.hid (BW.out.setCell (p := ⟨W.heap.size, 0, none⟩) (Nat.le_refl _) (.int .i8 0))
  clear a0 a1 a2 a3 a4 b0 b1 b2 b3 b4 c0 c1 c2 c3 c4 f0
  replace XB := Lib.hid (XB.out.setFar (c := W.heap.size) 0 (.int .i8 0) (by omega))
  replace XC := Lib.hid (XC.out.setFar (c := W.heap.size) 0 (.int .i8 0) (by omega))
  replace XA := Lib.hid (XA.out.setKind 0)
  refine (AA.out _ BS.out).mono ?_
  rintro e w37 ⟨rfl, d37⟩
  replace XA := Lib.hid (XA.out.below d37)
  replace XB := Lib.hid (XB.out.below d37)
  replace XC := Lib.hid (XC.out.below d37)
  replace BW := Lib.hid (below_call BS.out d37)
  clear d37 BS
  obtain ⟨a0, a1, a2, a3, a4⟩ := XA.out.toBox5.all
  obtain ⟨b0, b1, b2, b3, b4⟩ := XB.out.toBox5.all
  obtain ⟨c0, c1, c2, c3, c4⟩ := XC.out.toBox5.all
  go_wp2_with fail
  refine (LX.out _ BW.out).mono ?_
  rintro e w38 ⟨rfl, d38⟩
  clear a0 a1 a2 a3 a4 b0 b1 b2 b3 b4 c0 c1 c2 c3 c4
  replace XA := Lib.hid (XA.out.below d38)
  replace XB := Lib.hid (XB.out.below d38)
  replace XC := Lib.hid (XC.out.below d38)
  replace BW := Lib.hid (below_call BW.out d38)
  clear d38
  obtain ⟨a0, a1, a2, a3, a4⟩ := XA.out.toBox5.all
  obtain ⟨b0, b1, b2, b3, b4⟩ := XB.out.toBox5.all
  obtain ⟨c0, c1, c2, c3, c4⟩ := XC.out.toBox5.all
  cases lx
  case false =>
    go_wp2_with fail
    (refine (wakes_any _).mono ?_)
    rintro e w39 ⟨rfl, d39⟩
    go_wp2_with fail
    go_ret
    exact ⟨rfl, below_call BW.out d39⟩
  have hbx := F3.out (by trivial)
  subst hbx
  go_wp2_with fail
  refine (BX.out _ BW.out).mono ?_
  rintro e w40 ⟨rfl, d40⟩
  clear a0 a1 a2 a3 a4 b0 b1 b2 b3 b4 c0 c1 c2 c3 c4
  replace XA := Lib.hid (XA.out.below d40)
  replace XB := Lib.hid (XB.out.below d40)
  replace XC := Lib.hid (XC.out.below d40)
  replace BW := Lib.hid (below_call BW.out d40)
  clear d40
  obtain ⟨a0, a1, a2, a3, a4⟩ := XA.out.toBox5.all
  obtain ⟨b0, b1, b2, b3, b4⟩ := XB.out.toBox5.all
  obtain ⟨c0, c1, c2, c3, c4⟩ := XC.out.toBox5.all
  go_wp2_with fail
  (refine (wakes_any _).mono ?_)
  rintro e w41 ⟨rfl, d41⟩
  go_wp2_with fail
  go_ret
  exact ⟨rfl, below_call BW.out d41⟩
theorem traceChain_law (x : Out) (ca1 : Option Addr) (cc1 : Nat) (ta1 : Option Addr) (tc1 : Nat) (y : Out) (ca2 : Option Addr) (cc2 : Nat) (ta2 : Option Addr) (tc2 : Nat) (z : Out) (ca3 : Option Addr) (cc3 : Nat) (ta3 : Option Addr) (tc3 : Nat) (W : World) (h1 : OutAt W x ca1 cc1 ta1 tc1) (h2 : OutAt W y ca2 cc2 ta2 tc2) (h3 : OutAt W z ca3 cc3 ta3 tc3) :
    Calls Try.prog 12 #[outV x ca1 cc1 ta1 tc1, outV y ca2 cc2 ta2 tc2, outV z ca3 cc3 ta3 tc3] W fun e w' => e = .returned (.bool true) ∧ Below W.heap.size W w' :=
  traceChain_walk x ca1 cc1 ta1 tc1 y ca2 cc2 ta2 tc2 z ca3 cc3 ta3 tc3 W h1 h2 h3
end Go.Proofs.Ytpbnmbeedjhloaa.Trc
