/-
  Package trace: May; the document's answers Same, Like, May, Great; wakes.
-/
import Derived.Test.YtpbnmbeedjhloaaTrcE
namespace Go.Proofs.Ytpbnmbeedjhloaa.Trc
open Go.RowKit
set_option linter.unusedVariables false

def evV (x : Ev) (na : Option Addr) (nc : Nat) : Value := .agg #[.int .i64 x.num, .slice na x.args.length nc, .int .u64 x.ans]
def mayB (x : Ev) : Bool := decide (0 ≤ x.num) && decide (x.num < 16) && ((x.args.length : Int) == Ins.argsI x.num)

set_option maxHeartbeats 2000000 in
theorem may_any (x : Ev) (na : Option Addr) (nc : Nat) (W : World) (hl : x.args.length ≤ 9223372036854775807) :
    Calls Try.prog 58 #[evV x na nc] W fun e w' => e = .returned (.bool (mayB x)) ∧ Below W.heap.size W w' := by
  have A := Lib.hid (fun W => Ins.args_any x.num W)
  unfold mayB
  generalize Ins.argsI x.num = m at *
  obtain ⟨f, ag, an⟩ := x
  simp only [evV] at *
  generalize ag.length = n at *
  by_cases h0 : 0 ≤ f
  case neg =>
    have e0 : decide (0 ≤ f) = false := decide_eq_false h0
    rw [e0, Bool.false_and, Bool.false_and]
    clear A
    go_enter Try.func58, Try.ntmps58
    go_wp2_with fail
    go_quiet (fail)
    go_wp2_with fail
    go_ret
    exact ⟨rfl, below_drewN (below_new (Below.refl _ W) _) _⟩
  by_cases h1 : f < 16
  case neg =>
    have e0 : decide (0 ≤ f) = true := decide_eq_true h0
    have e1 : decide (f < 16) = false := decide_eq_false h1
    rw [e1, Bool.and_false, Bool.false_and]
    clear A
    go_enter Try.func58, Try.ntmps58
    go_wp2_with fail
    go_quiet (fail)
    go_wp2_with fail
    go_ret
    exact ⟨rfl, below_drewN (below_new (Below.refl _ W) _) _⟩
  rw [decide_eq_true h0, decide_eq_true h1, Bool.true_and, Bool.true_and]
  generalize hb : ((n : Int) == m) = b
  have e0 : decide (0 ≤ f) = true := decide_eq_true h0
  have e1 : decide (f < 16) = true := decide_eq_true h1
  go_enter Try.func58, Try.ntmps58
  go_wp2_with fail
  go_quiet ((go_at_call 108; exact ((A.out _).mono (by rintro _ _ ⟨rfl, rfl⟩; exact ⟨rfl, _, rfl⟩))))
  go_wp2_with fail
  go_ret
  exact ⟨rfl, below_drewN (below_new (Below.refl _ W) _) _⟩
set_option maxHeartbeats 2000000 in
theorem r_may (x : Ev) (na : Option Addr) (nc : Nat) (W : World) (hl : x.args.length ≤ 9223372036854775807) :
    Calls Try.prog 59 #[evV x na nc] W fun e w' => e = .returned (.bool (mayB x)) ∧ Below W.heap.size W w' := by
  have A := Lib.hid (fun W => Ins.r_args x.num W)
  unfold mayB
  generalize Ins.argsI x.num = m at *
  obtain ⟨f, ag, an⟩ := x
  simp only [evV] at *
  generalize ag.length = n at *
  by_cases h0 : 0 ≤ f
  case neg =>
    have e0 : decide (0 ≤ f) = false := decide_eq_false h0
    rw [e0, Bool.false_and, Bool.false_and]
    clear A
    go_enter Try.func59, Try.ntmps59
    go_wp2_with fail
    go_quiet (fail)
    go_wp2_with fail
    go_ret
    exact ⟨rfl, below_drewN (below_new (Below.refl _ W) _) _⟩
  by_cases h1 : f < 16
  case neg =>
    have e0 : decide (0 ≤ f) = true := decide_eq_true h0
    have e1 : decide (f < 16) = false := decide_eq_false h1
    rw [e1, Bool.and_false, Bool.false_and]
    clear A
    go_enter Try.func59, Try.ntmps59
    go_wp2_with fail
    go_quiet (fail)
    go_wp2_with fail
    go_ret
    exact ⟨rfl, below_drewN (below_new (Below.refl _ W) _) _⟩
  rw [decide_eq_true h0, decide_eq_true h1, Bool.true_and, Bool.true_and]
  generalize hb : ((n : Int) == m) = b
  have e0 : decide (0 ≤ f) = true := decide_eq_true h0
  have e1 : decide (f < 16) = true := decide_eq_true h1
  go_enter Try.func59, Try.ntmps59
  go_wp2_with fail
  go_quiet ((go_at_call 109; exact ((A.out _).mono (by rintro _ _ ⟨rfl, rfl⟩; exact ⟨rfl, _, rfl⟩))))
  go_wp2_with fail
  go_ret
  exact ⟨rfl, below_drewN (below_new (Below.refl _ W) _) _⟩

set_option maxHeartbeats 4000000 in
theorem r_same (x y : Out) (ca1 ta1 ca2 ta2 : Option Addr) (cc1 tc1 cc2 tc2 : Nat) (W : World) (h1 : OutAt W x ca1 cc1 ta1 tc1) (h2 : OutAt W y ca2 cc2 ta2 tc2) :
    Calls Try.prog 51 #[outV x ca1 cc1 ta1 tc1, outV y ca2 cc2 ta2 tc2] W fun e w' => e = .returned (.bool (sameB x y)) ∧ Below W.heap.size W w' := by
  have T := Lib.hid (fun w b => r_traces ta1 ta2 x.tr.length tc1 y.tr.length tc2 x.tr y.tr w ((h1.below (w := w) b).tr) ((h2.below b).tr))
  have q1 := fun o1 o2 => conv_bytes (h1.below (bb2 W o1 o2)).ctx
  have q2 := fun o1 o2 => conv_bytes (h2.below (bb2 W o1 o2)).ctx
  have SI := Lib.hid (str_inj h1.ctx.ok h2.ctx.ok)
  have X1 := Lib.hid (Box5.new W x ca1 ta1 cc1 tc1 76 W.heap.size rfl)
  have X2 := Lib.hid (fun o => Box5.new (W.alloc o) y ca2 ta2 cc2 tc2 76 (W.heap.size + 1) (by simp))
  clear h1 h2
  generalize hs : sameB x y = s
  have HS := Lib.hid hs; clear hs
  generalize ht : decide (x.tr = y.tr) = t at T
  have HD : s = (x.kind == y.kind && x.left == y.left && t && (x.r0 == y.r0 && decide (x.ctx = y.ctx))) := by rw [← HS.out, ← ht]; rfl
  clear HS ht
  have XA := Lib.hid (fun w' b => (X1.out.past (.cells #[.int .i8 y.kind, .int .u64 y.r0, .slice ca2 y.ctx.length cc2, .slice ta2 y.tr.length tc2, .int .i64 y.left] 76)).below (w' := w') b |>.all)
  have XB := Lib.hid (fun w' b => ((X2.out (.cells #[.int .i8 x.kind, .int .u64 x.r0, .slice ca1 x.ctx.length cc1, .slice ta1 x.tr.length tc1, .int .i64 x.left] 76)).below (w' := w') b).all)
  clear X1 X2
  obtain ⟨xk, xr, xc, xt, xl⟩ := x
  obtain ⟨yk, yr, yc, yt, yl⟩ := y
  simp only [outV] at *
  generalize xt.length = tl1 at *
  generalize yt.length = tl2 at *
  generalize xc.length = cl1 at *
  generalize yc.length = cl2 at *
  by_cases ek : xk = yk
  case neg =>
    have e0 : (xk == yk) = false := by simpa using ek
    have HD2 := Lib.hid (show s = false by rw [HD, e0]; rfl)
    clear ek HD q1 q2
    go_enter Try.func51, Try.ntmps51
    go_wp2_with fail
    go_ret
    exact ⟨retB HD2.out.symm, bb2 W _ _⟩
  subst ek
  by_cases er : xr = yr
  case neg =>
    have e0 : (xr == yr) = false := by simpa using er
    have HD2 := Lib.hid (show s = false by rw [HD, e0]; simp)
    clear er HD q1 q2
    go_enter Try.func51, Try.ntmps51
    go_wp2_with fail
    go_ret
    exact ⟨retB HD2.out.symm, bb2 W _ _⟩
  subst er
  by_cases ec : xc = yc
  case neg =>
    have e0 : ((strOfNums xc).toList == (strOfNums yc).toList) = false := by
      rw [beq_eq_false_iff_ne]
      exact fun h => ec (SI.out (by
        rw [ByteArray.toList_eq, ByteArray.toList_eq] at h
        exact ByteArray.ext (Array.toList_inj.1 h)))
    have HD2 := Lib.hid (show s = false by rw [HD, decide_eq_false ec]; simp)
    clear ec HD SI
    generalize strOfNums xc = s1 at *
    generalize strOfNums yc = s2 at *
    go_enter Try.func51, Try.ntmps51
    go_wp2_with fail
    go_ret
    exact ⟨retB HD2.out.symm, bb2 W _ _⟩
  subst ec
  have HD2 := Lib.hid (show s = (xl == yl && t) by rw [HD]; simp)
  clear HD SI
  generalize strOfNums xc = s1 at *
  go_enter Try.func51, Try.ntmps51
  go_wp2_with fail
  refine (T.out _ (bb2 W _ _)).mono ?_
  rintro e w1 ⟨rfl, b1⟩
  obtain ⟨c10, c11, c12, c13, c14⟩ := XA.out w1 b1
  obtain ⟨c20, c21, c22, c23, c24⟩ := XB.out w1 b1
  have B1 := Lib.hid (below_call (bb2 W _ _) b1)
  clear b1 XA XB q1 q2
  cases t
  · have HD3 := Lib.hid (show s = false by rw [HD2.out]; simp)
    go_wp2_with fail
    go_ret
    exact ⟨retB HD3.out.symm, B1.out⟩
  have HD3 := Lib.hid (show s = (xl == yl) by rw [HD2.out]; simp)
  go_wp2_with fail
  go_ret
  exact ⟨retB HD3.out.symm, B1.out⟩

set_option maxHeartbeats 4000000 in
theorem r_like (x y : Out) (ca1 ta1 ca2 ta2 : Option Addr) (cc1 tc1 cc2 tc2 : Nat) (W : World) (h1 : OutAt W x ca1 cc1 ta1 tc1) (h2 : OutAt W y ca2 cc2 ta2 tc2) :
    Calls Try.prog 53 #[outV x ca1 cc1 ta1 tc1, outV y ca2 cc2 ta2 tc2] W fun e w' => e = .returned (.bool (likeB x y)) ∧ Below W.heap.size W w' := by
  have T := Lib.hid (fun w b => r_traces ta1 ta2 x.tr.length tc1 y.tr.length tc2 x.tr y.tr w ((h1.below (w := w) b).tr) ((h2.below b).tr))
  have Q1 := Lib.hid (fun w b => conv_bytes (h1.below (w := w) b).ctx)
  have Q2 := Lib.hid (fun w b => conv_bytes (h2.below (w := w) b).ctx)
  have SI := Lib.hid (str_inj h1.ctx.ok h2.ctx.ok)
  have X1 := Lib.hid (Box5.new W x ca1 ta1 cc1 tc1 76 W.heap.size rfl)
  have X2 := Lib.hid (fun o => Box5.new (W.alloc o) y ca2 ta2 cc2 tc2 76 (W.heap.size + 1) (by simp))
  clear h1 h2
  generalize hs : likeB x y = s
  have HS := Lib.hid hs; clear hs
  generalize ht : decide (x.tr = y.tr) = t at T
  have HD : s = (x.kind == y.kind && t && (x.kind != 1 || (x.r0 == y.r0 && decide (x.ctx = y.ctx)))) := by rw [← HS.out, ← ht]; rfl
  clear HS ht
  have XA := Lib.hid (fun w' b => (X1.out.past (.cells #[.int .i8 y.kind, .int .u64 y.r0, .slice ca2 y.ctx.length cc2, .slice ta2 y.tr.length tc2, .int .i64 y.left] 76)).below (w' := w') b |>.all)
  have XB := Lib.hid (fun w' b => ((X2.out (.cells #[.int .i8 x.kind, .int .u64 x.r0, .slice ca1 x.ctx.length cc1, .slice ta1 x.tr.length tc1, .int .i64 x.left] 76)).below (w' := w') b).all)
  clear X1 X2
  obtain ⟨xk, xr, xc, xt, xl⟩ := x
  obtain ⟨yk, yr, yc, yt, yl⟩ := y
  simp only [outV] at *
  generalize xt.length = tl1 at *
  generalize yt.length = tl2 at *
  generalize xc.length = cl1 at *
  generalize yc.length = cl2 at *
  by_cases ek : xk = yk
  case neg =>
    have e0 : (xk != yk) = true := by simpa using ek
    have HD2 := Lib.hid (show s = false by rw [HD, show (xk == yk) = false by simpa using ek]; rfl)
    clear ek HD
    go_enter Try.func53, Try.ntmps53
    go_wp2_with fail
    go_ret
    exact ⟨retB HD2.out.symm, bb2 W _ _⟩
  subst ek
  have HD2 := Lib.hid (show s = (t && (xk != 1 || (xr == yr && decide (xc = yc)))) by rw [HD]; simp)
  clear HD
  go_enter Try.func53, Try.ntmps53
  go_wp2_with fail
  refine (T.out _ (bb2 W _ _)).mono ?_
  rintro e w1 ⟨rfl, b1⟩
  obtain ⟨c10, c11, c12, c13, c14⟩ := XA.out w1 b1
  obtain ⟨c20, c21, c22, c23, c24⟩ := XB.out w1 b1
  have B1 := Lib.hid (below_call (bb2 W _ _) b1)
  clear b1 XA XB
  cases t
  · go_wp2_with fail
    go_ret
    exact ⟨retB HD2.out.symm, B1.out⟩
  by_cases k1 : xk = 1
  case neg =>
    have e1 : (xk != 1) = true := by simpa using k1
    have HD3 := Lib.hid (show s = true by rw [HD2.out, e1]; rfl)
    clear k1
    go_wp2_with fail
    go_ret
    exact ⟨retB HD3.out.symm, B1.out⟩
  have e1 : (xk != 1) = false := by simpa using k1
  have HD3 := Lib.hid (show s = (xr == yr && decide (xc = yc)) by rw [HD2.out, e1]; rfl)
  clear k1 HD2
  by_cases er : xr = yr
  case neg =>
    have e0 : (xr == yr) = false := by simpa using er
    have HD4 := Lib.hid (show s = false by rw [HD3.out, e0]; rfl)
    clear er
    go_wp2_with fail
    go_ret
    exact ⟨retB HD4.out.symm, B1.out⟩
  subst er
  have q1 := Q1.out w1 B1.out
  have q2 := Q2.out w1 B1.out
  by_cases ec : xc = yc
  case neg =>
    have e0 : ((strOfNums xc).toList == (strOfNums yc).toList) = false := by
      rw [beq_eq_false_iff_ne]
      exact fun h => ec (SI.out (by
        rw [ByteArray.toList_eq, ByteArray.toList_eq] at h
        exact ByteArray.ext (Array.toList_inj.1 h)))
    have HD4 := Lib.hid (show s = false by rw [HD3.out, decide_eq_false ec]; simp)
    clear ec SI Q1 Q2 HD3
    generalize strOfNums xc = s1 at *
    generalize strOfNums yc = s2 at *
    go_wp2_with fail
    go_ret
    exact ⟨retB HD4.out.symm, B1.out⟩
  subst ec
  have HD4 := Lib.hid (show s = true by rw [HD3.out]; simp)
  clear SI Q1 Q2 HD3
  generalize strOfNums xc = s1 at *
  go_wp2_with fail
  go_ret
  exact ⟨retB HD4.out.symm, B1.out⟩
end Go.Proofs.Ytpbnmbeedjhloaa.Trc
