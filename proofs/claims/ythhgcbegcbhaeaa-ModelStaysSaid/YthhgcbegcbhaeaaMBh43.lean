/-
  Several texts in one: MdlGr, MdlXe, TrcFs, TrcFr, SrcR.
-/
import Derived.Test.YthhgcbegcbhaeaaMBh41
import Derived.BigQuiet
import Derived.Deep.QuietTactic
import Derived.Test.YthhgcbegcbhaeaaMBh39
import Derived.Test.YthhgcbegcbhaeaaMBh02
import Derived.Test.YthhgcbegcbhaeaaMBh12
import Derived.Test.YthhgcbegcbhaeaaRows
import Derived.Test.YthhgcbegcbhaeaaMBh11
import Derived.Laws.BytesArg
set_option linter.unusedVariables false
set_option linter.unusedSimpArgs false
set_option linter.unnecessarySimpa false
namespace Go.Proofs.Ythhgcbegcbhaeaa.Mdl
open Go.RowKit Go.Maps Ins Trc
set_option linter.unusedVariables false
set_option linter.unusedSimpArgs false
set_option maxRecDepth 100000

set_option maxHeartbeats 4000000 in
theorem great_no (c : Int) (pa : Option Addr) (plen pcap : Nat) (ca : Option Addr) (cl cc : Nat) (aa : Option Addr) (al ac : Nat) (fuel : Int) (W : World) (h1 : plen ≤ 100) (h2 : cl ≤ 400) (h3 : al ≤ 400) (h4 : ¬ (2000 < fuel ∧ fuel ≤ 10000)) :
    Calls Try.prog 7 #[.agg #[.int .i64 c, .slice pa plen pcap], .slice ca cl cc, .slice aa al ac, .int .i64 fuel] W fun e w' => e = .returned (.bool false) ∧ Below W.heap.size W w' := by
  by_cases h5 : 2000 < fuel
  · skip
    have e5 : decide (fuel ≤ (10000 : Int)) = false := by rw [decide_eq_false_iff_not]; omega
    have e1 : decide ((100 : Int) < plen) = false := by rw [decide_eq_false_iff_not]; omega
    have e2 : decide ((400 : Int) < cl) = false := by rw [decide_eq_false_iff_not]; omega
    have e3 : decide ((400 : Int) < al) = false := by rw [decide_eq_false_iff_not]; omega
    have e4 : decide ((2000 : Int) < fuel) = true := by rw [decide_eq_true_iff]; omega
    clear h1 h2 h3 h4 h5
    go_enter Try.func7, Try.ntmps7
    go_wp2_with fail
    go_ret
    exact ⟨rfl, by first | exact below_new (Below.refl _ _) _ | exact below_drewN (below_new (Below.refl _ _) _) _⟩
  · skip
    have e1 : decide ((100 : Int) < plen) = false := by rw [decide_eq_false_iff_not]; omega
    have e2 : decide ((400 : Int) < cl) = false := by rw [decide_eq_false_iff_not]; omega
    have e3 : decide ((400 : Int) < al) = false := by rw [decide_eq_false_iff_not]; omega
    have e4 : decide ((2000 : Int) < fuel) = false := by rw [decide_eq_false_iff_not]; omega
    clear h1 h2 h3 h4 h5
    go_enter Try.func7, Try.ntmps7
    go_wp2_with fail
    go_ret
    exact ⟨rfl, by first | exact below_new (Below.refl _ _) _ | exact below_drewN (below_new (Below.refl _ _) _) _⟩
set_option maxHeartbeats 4000000 in
theorem great_yes (c : Int) (pa : Option Addr) (plen pcap : Nat) (ca : Option Addr) (cl cc : Nat) (aa : Option Addr) (al ac : Nat) (fuel : Int) (W : World) (h : ¬ (plen ≤ 100 ∧ cl ≤ 400 ∧ al ≤ 400 ∧ ¬ (2000 < fuel ∧ fuel ≤ 10000))) :
    Calls Try.prog 7 #[.agg #[.int .i64 c, .slice pa plen pcap], .slice ca cl cc, .slice aa al ac, .int .i64 fuel] W fun e w' => e = .returned (.bool true) ∧ Below W.heap.size W w' := by
  by_cases h1 : 100 < plen
  · skip
    have e1 : decide ((100 : Int) < plen) = true := by rw [decide_eq_true_iff]; omega
    clear h h1
    go_enter Try.func7, Try.ntmps7
    go_wp2_with fail
    go_ret
    exact ⟨rfl, by first | exact below_new (Below.refl _ _) _ | exact below_drewN (below_new (Below.refl _ _) _) _⟩
  by_cases h2 : 400 < cl
  · skip
    have e1 : decide ((100 : Int) < plen) = false := by rw [decide_eq_false_iff_not]; omega
    have e2 : decide ((400 : Int) < cl) = true := by rw [decide_eq_true_iff]; omega
    clear h h1 h2
    go_enter Try.func7, Try.ntmps7
    go_wp2_with fail
    go_ret
    exact ⟨rfl, by first | exact below_new (Below.refl _ _) _ | exact below_drewN (below_new (Below.refl _ _) _) _⟩
  by_cases h3 : 400 < al
  · skip
    have e1 : decide ((100 : Int) < plen) = false := by rw [decide_eq_false_iff_not]; omega
    have e2 : decide ((400 : Int) < cl) = false := by rw [decide_eq_false_iff_not]; omega
    have e3 : decide ((400 : Int) < al) = true := by rw [decide_eq_true_iff]; omega
    clear h h1 h2 h3
    go_enter Try.func7, Try.ntmps7
    go_wp2_with fail
    go_ret
    exact ⟨rfl, by first | exact below_new (Below.refl _ _) _ | exact below_drewN (below_new (Below.refl _ _) _) _⟩
  · skip
    have e5 : decide (fuel ≤ (10000 : Int)) = true := by rw [decide_eq_true_iff]; omega
    have e1 : decide ((100 : Int) < plen) = false := by rw [decide_eq_false_iff_not]; omega
    have e2 : decide ((400 : Int) < cl) = false := by rw [decide_eq_false_iff_not]; omega
    have e3 : decide ((400 : Int) < al) = false := by rw [decide_eq_false_iff_not]; omega
    have e4 : decide ((2000 : Int) < fuel) = true := by rw [decide_eq_true_iff]; omega
    clear h h1 h2 h3
    go_enter Try.func7, Try.ntmps7
    go_wp2_with fail
    go_ret
    exact ⟨rfl, by first | exact below_new (Below.refl _ _) _ | exact below_drewN (below_new (Below.refl _ _) _) _⟩
end Go.Proofs.Ythhgcbegcbhaeaa.Mdl

namespace Go.Proofs.Ythhgcbegcbhaeaa.Mdl
open Go.RowKit Go.Maps Ins Trc
set_option linter.unusedVariables false
set_option linter.unusedSimpArgs false
set_option maxRecDepth 100000

set_option maxHeartbeats 4000000 in
theorem run_bad (r : Int) (hr : ¬ r = 0) (c : Int) (pa : Option Addr) (plen pcap : Nat) (ca : Option Addr) (cl cc : Nat) (aa : Option Addr) (al ac : Nat) (fuel : Int) (W : World)
    (ST : ∀ w, Below W.heap.size W w → Calls Try.prog 18 #[.agg #[.int .i64 c, .slice pa plen pcap], .slice ca cl cc, .slice aa al ac, .int .i64 fuel] w fun e w' => e = .returned (.tuple #[.pointer none, .int .i64 r]) ∧ Below w.heap.size w w') :
    Calls Try.prog 9 #[.agg #[.int .i64 c, .slice pa plen pcap], .slice ca cl cc, .slice aa al ac, .int .i64 fuel] W fun e w' => e = .returned (.tuple #[outV ⟨0, 0, [], [], 0⟩ none 0 none 0, .int .i64 r]) ∧ Below W.heap.size W w' := by
  have ST := Lib.hid ST
  have bx0 := below_new (below_new (Below.refl W.heap.size W) (.cells #[.int .i64 c, .slice pa plen pcap] 24)) (.cells #[.int .i8 0, .int .u64 0, .slice none 0 0, .slice none 0 0, .int .i64 0] 33)
  have rz0 := heap_last (W.alloc (.cells #[.int .i64 c, .slice pa plen pcap] 24)) (.cells #[.int .i8 0, .int .u64 0, .slice none 0 0, .slice none 0 0, .int .i64 0] 33) (W.heap.size + 1) (by simp)
  have e0 : (r != 0) = true := by simpa using hr
  clear hr
  refine (callsIn_wide (n := 3)).1 (callsIn_of_wp_marks Try.func9 rfl trivial ?_ rfl)
  simp only [Try.ntmps9, List.size_toArray, List.length_cons, List.length_nil, Nat.reduceAdd, Nat.reduceSub, Array.replicate_succ, Array.replicate_zero, List.push_toArray, List.append_toArray, List.nil_append, List.cons_append]
  refine (wpIn_wide (n := 3)).2 ?_
  go_wp2_with fail
  generalize (W.alloc (.cells #[.int .i64 c, .slice pa plen pcap] 24)).alloc (.cells #[.int .i8 0, .int .u64 0, .slice none 0 0, .slice none 0 0, .int .i64 0] 33) = w0 at *
  refine (ST.out _ bx0).mono ?_
  rintro e w1 ⟨rfl, b1⟩
  have rz1 := brow b1 rz0
  have bx1 := bx0.trans (b1.mono bx0.size)
  clear b1 rz0 bx0 ST
  go_wp2_with (with_reducible refine (halt_store 33 _ _ rfl ?_))
  refine ⟨?_, trivial⟩
  refine wpList_store_is rfl 33 _ _ rfl (W.heap.size + 1) _ rfl rfl _ _ rz1 (by kernel_rfl) rfl (by simp [Value.oneCell']) ?_
  intro w6 s6
  have bx6 := s6.below bx1 (by omega)
  have hr6 := s6.row
  clear s6 bx1 rz1
  go_wp2_with fail
  exact ⟨_, res_ct rfl rfl (load_row _ hr6 Try.underlying33 rfl (by kernel_rfl)) rfl, rfl, bx6⟩
end Go.Proofs.Ythhgcbegcbhaeaa.Mdl

namespace Go.Proofs.Ythhgcbegcbhaeaa.Trc
open Go.RowKit
set_option linter.unusedVariables false

def evV (x : Ev) (na : Option Addr) (nc : Nat) : Value := .agg #[.int .i64 x.num, .slice na x.args.length nc, .int .u64 x.ans]
def mayB (x : Ev) : Bool := decide (0 ≤ x.num) && decide (x.num < 16) && ((x.args.length : Int) == Ins.argsI x.num)

set_option maxHeartbeats 4000000 in
theorem r_same (x y : Out) (ca1 ta1 ca2 ta2 : Option Addr) (cc1 tc1 cc2 tc2 : Nat) (W : World) (h1 : OutAt W x ca1 cc1 ta1 tc1) (h2 : OutAt W y ca2 cc2 ta2 tc2) :
    Calls Try.prog 13 #[outV x ca1 cc1 ta1 tc1, outV y ca2 cc2 ta2 tc2] W fun e w' => e = .returned (.bool (sameB x y)) ∧ Below W.heap.size W w' := by
  have T := Lib.hid (fun w b => r_traces ta1 ta2 x.tr.length tc1 y.tr.length tc2 x.tr y.tr w ((h1.below (w := w) b).tr) ((h2.below b).tr))
  have q1 := fun o1 o2 => conv_bytes (h1.below (bb2 W o1 o2)).ctx
  have q2 := fun o1 o2 => conv_bytes (h2.below (bb2 W o1 o2)).ctx
  have SI := Lib.hid (str_inj h1.ctx.ok h2.ctx.ok)
  have X1 := Lib.hid (Box5.new W x ca1 ta1 cc1 tc1 33 W.heap.size rfl)
  have X2 := Lib.hid (fun o => Box5.new (W.alloc o) y ca2 ta2 cc2 tc2 33 (W.heap.size + 1) (by simp))
  clear h1 h2
  generalize hs : sameB x y = s
  have HS := Lib.hid hs; clear hs
  generalize ht : decide (x.tr = y.tr) = t at T
  have HD : s = (x.kind == y.kind && x.left == y.left && t && (x.r0 == y.r0 && decide (x.ctx = y.ctx))) := by rw [← HS.out, ← ht]; rfl
  clear HS ht
  have XA := Lib.hid (fun w' b => (X1.out.past (.cells #[.int .i8 y.kind, .int .u64 y.r0, .slice ca2 y.ctx.length cc2, .slice ta2 y.tr.length tc2, .int .i64 y.left] 33)).below (w' := w') b |>.all)
  have XB := Lib.hid (fun w' b => ((X2.out (.cells #[.int .i8 x.kind, .int .u64 x.r0, .slice ca1 x.ctx.length cc1, .slice ta1 x.tr.length tc1, .int .i64 x.left] 33)).below (w' := w') b).all)
  clear X1 X2
  obtain ⟨xk, xr, xc, xt, xl⟩ := x
  obtain ⟨yk, yr, yc, yt, yl⟩ := y
  simp only [outV] at *
  generalize xt.length = tl1 at *
  generalize yt.length = tl2 at *
  generalize xc.length = cl1 at *
  generalize yc.length = cl2 at *
  by_cases ek : xk = yk
  case neg =>
    have e0 : (xk == yk) = false := by simpa using ek
    have HD2 := Lib.hid (show s = false by rw [HD, e0]; rfl)
    clear ek HD q1 q2
    go_enter Try.func13, Try.ntmps13
    go_wp2_with fail
    go_ret
    exact ⟨retB HD2.out.symm, bb2 W _ _⟩
  subst ek
  by_cases er : xr = yr
  case neg =>
    have e0 : (xr == yr) = false := by simpa using er
    have HD2 := Lib.hid (show s = false by rw [HD, e0]; simp)
    clear er HD q1 q2
    go_enter Try.func13, Try.ntmps13
    go_wp2_with fail
    go_ret
    exact ⟨retB HD2.out.symm, bb2 W _ _⟩
  subst er
  by_cases ec : xc = yc
  case neg =>
    have e0 : ((strOfNums xc).toList == (strOfNums yc).toList) = false := by
      rw [beq_eq_false_iff_ne]
      exact fun h => ec (SI.out (by
        rw [ByteArray.toList_eq, ByteArray.toList_eq] at h
        exact ByteArray.ext (Array.toList_inj.1 h)))
    have HD2 := Lib.hid (show s = false by rw [HD, decide_eq_false ec]; simp)
    clear ec HD SI
    generalize strOfNums xc = s1 at *
    generalize strOfNums yc = s2 at *
    go_enter Try.func13, Try.ntmps13
    go_wp2_with fail
    go_ret
    exact ⟨retB HD2.out.symm, bb2 W _ _⟩
  subst ec
  have HD2 := Lib.hid (show s = (xl == yl && t) by rw [HD]; simp)
  clear HD SI
  generalize strOfNums xc = s1 at *
  go_enter Try.func13, Try.ntmps13
  go_wp2_with fail
  refine (T.out _ (bb2 W _ _)).mono ?_
  rintro e w1 ⟨rfl, b1⟩
  obtain ⟨c10, c11, c12, c13, c14⟩ := XA.out w1 b1
  obtain ⟨c20, c21, c22, c23, c24⟩ := XB.out w1 b1
  have B1 := Lib.hid (below_call (bb2 W _ _) b1)
  clear b1 XA XB q1 q2
  cases t
  · have HD3 := Lib.hid (show s = false by rw [HD2.out]; simp)
    go_wp2_with fail
    go_ret
    exact ⟨retB HD3.out.symm, B1.out⟩
  have HD3 := Lib.hid (show s = (xl == yl) by rw [HD2.out]; simp)
  go_wp2_with fail
  go_ret
  exact ⟨retB HD3.out.symm, B1.out⟩

end Go.Proofs.Ythhgcbegcbhaeaa.Trc

namespace Go.Proofs.Ythhgcbegcbhaeaa.Trc
open Go.RowKit
set_option linter.unusedVariables false

set_option maxHeartbeats 2000000 in
theorem r_may (x : Ev) (na : Option Addr) (nc : Nat) (W : World) (hl : x.args.length ≤ 9223372036854775807) :
    Calls Try.prog 11 #[evV x na nc] W fun e w' => e = .returned (.bool (mayB x)) ∧ Below W.heap.size W w' := by
  have A := Lib.hid (fun W => Ins.r_args x.num W)
  unfold mayB
  generalize Ins.argsI x.num = m at *
  obtain ⟨f, ag, an⟩ := x
  simp only [evV] at *
  generalize ag.length = n at *
  by_cases h0 : 0 ≤ f
  case neg =>
    have e0 : decide (0 ≤ f) = false := decide_eq_false h0
    rw [e0, Bool.false_and, Bool.false_and]
    clear A
    go_enter Try.func11, Try.ntmps11
    go_wp2_with fail
    go_quiet (fail)
    go_wp2_with fail
    go_ret
    exact ⟨rfl, below_drewN (below_new (Below.refl _ W) _) _⟩
  by_cases h1 : f < 16
  case neg =>
    have e0 : decide (0 ≤ f) = true := decide_eq_true h0
    have e1 : decide (f < 16) = false := decide_eq_false h1
    rw [e1, Bool.and_false, Bool.false_and]
    clear A
    go_enter Try.func11, Try.ntmps11
    go_wp2_with fail
    go_quiet (fail)
    go_wp2_with fail
    go_ret
    exact ⟨rfl, below_drewN (below_new (Below.refl _ W) _) _⟩
  rw [decide_eq_true h0, decide_eq_true h1, Bool.true_and, Bool.true_and]
  generalize hb : ((n : Int) == m) = b
  have e0 : decide (0 ≤ f) = true := decide_eq_true h0
  have e1 : decide (f < 16) = true := decide_eq_true h1
  go_enter Try.func11, Try.ntmps11
  go_wp2_with fail
  go_quiet ((go_at_call 22; exact ((A.out _).mono (by rintro _ _ ⟨rfl, rfl⟩; exact ⟨rfl, _, rfl⟩))))
  go_wp2_with fail
  go_ret
  exact ⟨rfl, below_drewN (below_new (Below.refl _ W) _) _⟩

set_option maxHeartbeats 4000000 in
theorem r_like (x y : Out) (ca1 ta1 ca2 ta2 : Option Addr) (cc1 tc1 cc2 tc2 : Nat) (W : World) (h1 : OutAt W x ca1 cc1 ta1 tc1) (h2 : OutAt W y ca2 cc2 ta2 tc2) :
    Calls Try.prog 12 #[outV x ca1 cc1 ta1 tc1, outV y ca2 cc2 ta2 tc2] W fun e w' => e = .returned (.bool (likeB x y)) ∧ Below W.heap.size W w' := by
  have T := Lib.hid (fun w b => r_traces ta1 ta2 x.tr.length tc1 y.tr.length tc2 x.tr y.tr w ((h1.below (w := w) b).tr) ((h2.below b).tr))
  have Q1 := Lib.hid (fun w b => conv_bytes (h1.below (w := w) b).ctx)
  have Q2 := Lib.hid (fun w b => conv_bytes (h2.below (w := w) b).ctx)
  have SI := Lib.hid (str_inj h1.ctx.ok h2.ctx.ok)
  have X1 := Lib.hid (Box5.new W x ca1 ta1 cc1 tc1 33 W.heap.size rfl)
  have X2 := Lib.hid (fun o => Box5.new (W.alloc o) y ca2 ta2 cc2 tc2 33 (W.heap.size + 1) (by simp))
  clear h1 h2
  generalize hs : likeB x y = s
  have HS := Lib.hid hs; clear hs
  generalize ht : decide (x.tr = y.tr) = t at T
  have HD : s = (x.kind == y.kind && t && (x.kind != 1 || (x.r0 == y.r0 && decide (x.ctx = y.ctx)))) := by rw [← HS.out, ← ht]; rfl
  clear HS ht
  have XA := Lib.hid (fun w' b => (X1.out.past (.cells #[.int .i8 y.kind, .int .u64 y.r0, .slice ca2 y.ctx.length cc2, .slice ta2 y.tr.length tc2, .int .i64 y.left] 33)).below (w' := w') b |>.all)
  have XB := Lib.hid (fun w' b => ((X2.out (.cells #[.int .i8 x.kind, .int .u64 x.r0, .slice ca1 x.ctx.length cc1, .slice ta1 x.tr.length tc1, .int .i64 x.left] 33)).below (w' := w') b).all)
  clear X1 X2
  obtain ⟨xk, xr, xc, xt, xl⟩ := x
  obtain ⟨yk, yr, yc, yt, yl⟩ := y
  simp only [outV] at *
  generalize xt.length = tl1 at *
  generalize yt.length = tl2 at *
  generalize xc.length = cl1 at *
  generalize yc.length = cl2 at *
  by_cases ek : xk = yk
  case neg =>
    have e0 : (xk != yk) = true := by simpa using ek
    have HD2 := Lib.hid (show s = false by rw [HD, show (xk == yk) = false by simpa using ek]; rfl)
    clear ek HD
    go_enter Try.func12, Try.ntmps12
    go_wp2_with fail
    go_ret
    exact ⟨retB HD2.out.symm, bb2 W _ _⟩
  subst ek
  have HD2 := Lib.hid (show s = (t && (xk != 1 || (xr == yr && decide (xc = yc)))) by rw [HD]; simp)
  clear HD
  go_enter Try.func12, Try.ntmps12
  go_wp2_with fail
  refine (T.out _ (bb2 W _ _)).mono ?_
  rintro e w1 ⟨rfl, b1⟩
  obtain ⟨c10, c11, c12, c13, c14⟩ := XA.out w1 b1
  obtain ⟨c20, c21, c22, c23, c24⟩ := XB.out w1 b1
  have B1 := Lib.hid (below_call (bb2 W _ _) b1)
  clear b1 XA XB
  cases t
  · go_wp2_with fail
    go_ret
    exact ⟨retB HD2.out.symm, B1.out⟩
  by_cases k1 : xk = 1
  case neg =>
    have e1 : (xk != 1) = true := by simpa using k1
    have HD3 := Lib.hid (show s = true by rw [HD2.out, e1]; rfl)
    clear k1
    go_wp2_with fail
    go_ret
    exact ⟨retB HD3.out.symm, B1.out⟩
  have e1 : (xk != 1) = false := by simpa using k1
  have HD3 := Lib.hid (show s = (xr == yr && decide (xc = yc)) by rw [HD2.out, e1]; rfl)
  clear k1 HD2
  by_cases er : xr = yr
  case neg =>
    have e0 : (xr == yr) = false := by simpa using er
    have HD4 := Lib.hid (show s = false by rw [HD3.out, e0]; rfl)
    clear er
    go_wp2_with fail
    go_ret
    exact ⟨retB HD4.out.symm, B1.out⟩
  subst er
  have q1 := Q1.out w1 B1.out
  have q2 := Q2.out w1 B1.out
  by_cases ec : xc = yc
  case neg =>
    have e0 : ((strOfNums xc).toList == (strOfNums yc).toList) = false := by
      rw [beq_eq_false_iff_ne]
      exact fun h => ec (SI.out (by
        rw [ByteArray.toList_eq, ByteArray.toList_eq] at h
        exact ByteArray.ext (Array.toList_inj.1 h)))
    have HD4 := Lib.hid (show s = false by rw [HD3.out, decide_eq_false ec]; simp)
    clear ec SI Q1 Q2 HD3
    generalize strOfNums xc = s1 at *
    generalize strOfNums yc = s2 at *
    go_wp2_with fail
    go_ret
    exact ⟨retB HD4.out.symm, B1.out⟩
  subst ec
  have HD4 := Lib.hid (show s = true by rw [HD3.out]; simp)
  clear SI Q1 Q2 HD3
  generalize strOfNums xc = s1 at *
  go_wp2_with fail
  go_ret
  exact ⟨retB HD4.out.symm, B1.out⟩

end Go.Proofs.Ythhgcbegcbhaeaa.Trc

namespace Go.Proofs.Ythhgcbegcbhaeaa
open Go.RowKit
set_option linter.unusedVariables false

theorem bdr_u8 {a : Int} (h : (Lit.int .u8 a).wf = true) : 0 ≤ a ∧ a < 256 := by
  simp [Lit.wf, IntKind.min, IntKind.max, IntKind.bits, IntKind.signed] at h
  omega
theorem bdr_u64 {a : Int} (h : (Lit.int .u64 a).wf = true) : 0 ≤ a ∧ a < 18446744073709551616 := by
  simp [Lit.wf, IntKind.min, IntKind.max, IntKind.bits, IntKind.signed] at h
  omega
theorem src_row {W : World} {a : Option Addr} {len cap : Nat} {zs : List Int} (h : IsRow .u8 W a len cap zs) : Src W a len cap (fun i => zs.getD i 0) := by
  rcases h with ⟨rfl, rfl, rfl, _⟩ | ⟨x, rfl, hl, hm, hz, hcell, hwz⟩
  · exact ⟨Nat.le_refl _, by omega, fun h => absurd h (by omega), fun i h => absurd h (by omega)⟩
  · refine ⟨hl, by unfold maxLen at hm; omega, fun h => ?_, fun i hi => ?_⟩
    · obtain ⟨b, off, spot⟩ := x
      have c0 := hcell 0 (by omega)
      obtain rfl : spot = none := by simpa [Addr.add] using World.cell?_spot c0
      exact ⟨b, off, rfl, fun i hi => by have h := hcell i (by omega); rw [Go.WideShapes.add_plain] at h; exact h⟩
    · have hi' : i < zs.length := by omega
      have e : zs.getD i 0 = zs[i] := by simp [List.getD, hi']
      show 0 ≤ zs.getD i 0 ∧ zs.getD i 0 < 256
      rw [e]
      exact bdr_u8 (hwz _ (List.getElem_mem hi'))
end Go.Proofs.Ythhgcbegcbhaeaa
