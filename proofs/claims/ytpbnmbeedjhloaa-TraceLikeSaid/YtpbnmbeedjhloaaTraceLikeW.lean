/-
  The walk of the law TraceLike.
-/
import Derived.Test.YtpbnmbeedjhloaaTrcU
namespace Go.Proofs.Ytpbnmbeedjhloaa.Trc
open Go.RowKit
set_option linter.unusedVariables false
set_option maxRecDepth 100000

set_option maxHeartbeats 32000000 in
theorem traceLike_walk (x : Out) (ca1 : Option Addr) (cc1 : Nat) (ta1 : Option Addr) (tc1 : Nat) (y : Out) (ca2 : Option Addr) (cc2 : Nat) (ta2 : Option Addr) (tc2 : Nat) (z : Out) (ca3 : Option Addr) (cc3 : Nat) (ta3 : Option Addr) (tc3 : Nat) (by_ : Int) (W : World) (h1 : OutAt W x ca1 cc1 ta1 tc1) (h2 : OutAt W y ca2 cc2 ta2 tc2) (h3 : OutAt W z ca3 cc3 ta3 tc3) (hby : (Lit.int .u8 by_).wf = true) :
    Calls Try.prog 10 #[outV x ca1 cc1 ta1 tc1, outV y ca2 cc2 ta2 tc2, outV z ca3 cc3 ta3 tc3, .int .u8 by_] W fun e w' => e = .returned (.bool true) ∧ Below W.heap.size W w' := by
  have XA := Lib.hid (bx1 W x ca1 ta1 cc1 tc1 (outC y ca2 cc2 ta2 tc2) (outC z ca3 cc3 ta3 tc3))
  have XB := Lib.hid (bx2 W y ca2 ta2 cc2 tc2 (outC x ca1 cc1 ta1 tc1) (outC z ca3 cc3 ta3 tc3))
  have XC := Lib.hid (bx3 W z ca3 ta3 cc3 tc3 (outC x ca1 cc1 ta1 tc1) (outC y ca2 cc2 ta2 tc2))
  have BW := Lib.hid (bb3 W (outC x ca1 cc1 ta1 tc1) (outC y ca2 cc2 ta2 tc2) (outC z ca3 cc3 ta3 tc3))
  have GA := Lib.hid (fun w b => great_any x ca1 ta1 cc1 tc1 w (h1.below (w := w) b))
  have GB := Lib.hid (fun w b => great_any y ca2 ta2 cc2 tc2 w (h2.below (w := w) b))
  have GC := Lib.hid (fun w b => great_any z ca3 ta3 cc3 tc3 w (h3.below (w := w) b))
  have FEW := Lib.hid (fun (h : greatB x = false) => great_few h)
  generalize greatB x = ga at GA FEW
  generalize greatB y = gb at GB
  generalize greatB z = gc at GC
  have LAA0 := Lib.hid (fun w b => like_any x x ca1 ta1 ca1 ta1 cc1 tc1 cc1 tc1 w (h1.below (w := w) b) (h1.below b))
  have LAB0 := Lib.hid (fun w b => like_any x y ca1 ta1 ca2 ta2 cc1 tc1 cc2 tc2 w (h1.below (w := w) b) (h2.below b))
  have LBA0 := Lib.hid (fun w b => like_any y x ca2 ta2 ca1 ta1 cc2 tc2 cc1 tc1 w (h2.below (w := w) b) (h1.below b))
  have LBC0 := Lib.hid (fun w b => like_any y z ca2 ta2 ca3 ta3 cc2 tc2 cc3 tc3 w (h2.below (w := w) b) (h3.below b))
  have LAC0 := Lib.hid (fun w b => like_any x z ca1 ta1 ca3 ta3 cc1 tc1 cc3 tc3 w (h1.below (w := w) b) (h3.below b))
  have SAB0 := Lib.hid (fun w b => same_any x y ca1 ta1 ca2 ta2 cc1 tc1 cc2 tc2 w (h1.below (w := w) b) (h2.below b))
  rw [likeB_self] at LAA0
  rw [likeB_comm y x] at LBA0
  have F1 := Lib.hid (show (likeB x y && likeB y z) = true → likeB x z = true from fun h => likeB_trans (Bool.and_eq_true_iff.1 h).1 (Bool.and_eq_true_iff.1 h).2)
  have F2 := Lib.hid (show sameB x y = true → likeB x y = true from fun h => by rw [sameB_iff.1 h]; exact likeB_self y)
  have HOK := Lib.hid h1.ctx.ok
  have H1 := Lib.hid h1
  clear h1 h2 h3
  generalize likeB x y = ab at *
  generalize likeB y z = bc at *
  generalize likeB x z = ac at *
  generalize sameB x y = sm at *
  simp only [outV]
  go_enter Try.func10, Try.ntmps10
  go_wp2_with fail
  refine (GA.out _ BW.out).mono ?_
  rintro e w1 ⟨rfl, d1⟩
  replace XA := Lib.hid (XA.out.below d1)
  replace XB := Lib.hid (XB.out.below d1)
  replace XC := Lib.hid (XC.out.below d1)
  replace BW := Lib.hid (below_call BW.out d1)
  clear d1
  obtain ⟨a0, a1, a2, a3, a4⟩ := XA.out.toBox5.all
  obtain ⟨b0, b1, b2, b3, b4⟩ := XB.out.toBox5.all
  obtain ⟨c0, c1, c2, c3, c4⟩ := XC.out.toBox5.all
  cases ga
  case true =>
    go_wp2_with fail
    (refine (wakes_any _).mono ?_)
    rintro e w2 ⟨rfl, d2⟩
    go_wp2_with fail
    go_ret
    exact ⟨rfl, below_call BW.out d2⟩
  go_wp2_with fail
  refine (GB.out _ BW.out).mono ?_
  rintro e w3 ⟨rfl, d3⟩
  clear a0 a1 a2 a3 a4 b0 b1 b2 b3 b4 c0 c1 c2 c3 c4
  replace XA := Lib.hid (XA.out.below d3)
  replace XB := Lib.hid (XB.out.below d3)
  replace XC := Lib.hid (XC.out.below d3)
  replace BW := Lib.hid (below_call BW.out d3)
  clear d3
  obtain ⟨a0, a1, a2, a3, a4⟩ := XA.out.toBox5.all
  obtain ⟨b0, b1, b2, b3, b4⟩ := XB.out.toBox5.all
  obtain ⟨c0, c1, c2, c3, c4⟩ := XC.out.toBox5.all
  cases gb
  case true =>
    go_wp2_with fail
    (refine (wakes_any _).mono ?_)
    rintro e w4 ⟨rfl, d4⟩
    go_wp2_with fail
    go_ret
    exact ⟨rfl, below_call BW.out d4⟩
  go_wp2_with fail
  refine (GC.out _ BW.out).mono ?_
  rintro e w5 ⟨rfl, d5⟩
  clear a0 a1 a2 a3 a4 b0 b1 b2 b3 b4 c0 c1 c2 c3 c4
  replace XA := Lib.hid (XA.out.below d5)
  replace XB := Lib.hid (XB.out.below d5)
  replace XC := Lib.hid (XC.out.below d5)
  replace BW := Lib.hid (below_call BW.out d5)
  clear d5
  obtain ⟨a0, a1, a2, a3, a4⟩ := XA.out.toBox5.all
  obtain ⟨b0, b1, b2, b3, b4⟩ := XB.out.toBox5.all
  obtain ⟨c0, c1, c2, c3, c4⟩ := XC.out.toBox5.all
  cases gc
  case true =>
    go_wp2_with fail
    (refine (wakes_any _).mono ?_)
    rintro e w6 ⟨rfl, d6⟩
    go_wp2_with fail
    go_ret
    exact ⟨rfl, below_call BW.out d6⟩
  clear GA GB GC
  go_wp2_with fail
  clear a0 a1 a2 a3 a4 b0 b1 b2 b3 b4 c0 c1 c2 c3 c4
  generalize w5 = w3 at *
  have hfew := FEW.out (by trivial)
  have hB := BW.out
  have LAA := Lib.hid (fun w (h : Below w3.heap.size w3 w) => LAA0.out w (below_call hB h))
  have LAB := Lib.hid (fun w (h : Below w3.heap.size w3 w) => LAB0.out w (below_call hB h))
  have LBA := Lib.hid (fun w (h : Below w3.heap.size w3 w) => LBA0.out w (below_call hB h))
  have LBC := Lib.hid (fun w (h : Below w3.heap.size w3 w) => LBC0.out w (below_call hB h))
  have LAC := Lib.hid (fun w (h : Below w3.heap.size w3 w) => LAC0.out w (below_call hB h))
  have SAB := Lib.hid (fun w (h : Below w3.heap.size w3 w) => SAB0.out w (below_call hB h))
  have HX := Lib.hid (fun w (h : Below w3.heap.size w3 w) => (XA.out.below h).toBox5)
  have HY := Lib.hid (fun w (h : Below w3.heap.size w3 w) => (XB.out.below h).toBox5)
  have HZ := Lib.hid (fun w (h : Below w3.heap.size w3 w) => (XC.out.below h).toBox5)
  clear hB
  refine wp_region_inv (fun _ => 100000) (fun w => Below w3.heap.size w3 w) (TabV [fun v => v = .agg #[.int .i8 x.kind, .int .u64 x.r0, .slice ca1 x.ctx.length cc1, .slice ta1 x.tr.length tc1, .int .i64 x.left], fun v => v = .agg #[.int .i8 x.kind, .int .u64 x.r0, .slice ca1 x.ctx.length cc1, .slice ta1 x.tr.length tc1, .int .i64 x.left], fun v => v = .bool true, fun v => v = .bool false, fun v => v = .bool false, fun v => v = .agg #[.int .i8 x.kind, .int .u64 x.r0, .slice ca1 x.ctx.length cc1, .slice ta1 x.tr.length tc1, .int .i64 x.left], fun v => v = .agg #[.int .i8 y.kind, .int .u64 y.r0, .slice ca2 y.ctx.length cc2, .slice ta2 y.tr.length tc2, .int .i64 y.left], fun v => v = .bool ab, fun v => v = .agg #[.int .i8 y.kind, .int .u64 y.r0, .slice ca2 y.ctx.length cc2, .slice ta2 y.tr.length tc2, .int .i64 y.left], fun v => v = .agg #[.int .i8 x.kind, .int .u64 x.r0, .slice ca1 x.ctx.length cc1, .slice ta1 x.tr.length tc1, .int .i64 x.left], fun v => v = .bool ab, fun v => v = .bool false, fun v => v = .bool false, fun v => v = .bool false, fun v => v = .agg #[.int .i8 x.kind, .int .u64 x.r0, .slice ca1 x.ctx.length cc1, .slice ta1 x.tr.length tc1, .int .i64 x.left], fun v => v = .agg #[.int .i8 y.kind, .int .u64 y.r0, .slice ca2 y.ctx.length cc2, .slice ta2 y.tr.length tc2, .int .i64 y.left], fun v => v = .bool ab, fun v => v = .bool ab, fun v => v = (bif (true && (ab == true)) then .agg #[.int .i8 y.kind, .int .u64 y.r0, .slice ca2 y.ctx.length cc2, .slice ta2 y.tr.length tc2, .int .i64 y.left] else undef), fun v => v = (bif (true && (ab == true)) then .agg #[.int .i8 z.kind, .int .u64 z.r0, .slice ca3 z.ctx.length cc3, .slice ta3 z.tr.length tc3, .int .i64 z.left] else undef), fun v => v = (bif (true && (ab == true)) then .bool bc else undef), fun v => v = .bool (ab && bc), fun v => v = .bool (ab && bc), fun v => v = (bif (true && ((ab && bc) == true)) then .agg #[.int .i8 x.kind, .int .u64 x.r0, .slice ca1 x.ctx.length cc1, .slice ta1 x.tr.length tc1, .int .i64 x.left] else undef), fun v => v = (bif (true && ((ab && bc) == true)) then .agg #[.int .i8 z.kind, .int .u64 z.r0, .slice ca3 z.ctx.length cc3, .slice ta3 z.tr.length tc3, .int .i64 z.left] else undef), fun v => v = (bif (true && ((ab && bc) == true)) then .bool ac else undef), fun v => v = (bif (true && ((ab && bc) == true)) then .bool (!ac) else undef), fun v => v = .bool false, fun v => v = .bool false, fun v => v = .bool false, fun v => v = .agg #[.int .i8 x.kind, .int .u64 x.r0, .slice ca1 x.ctx.length cc1, .slice ta1 x.tr.length tc1, .int .i64 x.left], fun v => v = .agg #[.int .i8 y.kind, .int .u64 y.r0, .slice ca2 y.ctx.length cc2, .slice ta2 y.tr.length tc2, .int .i64 y.left], fun v => v = .bool sm, fun v => v = .bool sm, fun v => v = (bif (true && (sm == true)) then .agg #[.int .i8 x.kind, .int .u64 x.r0, .slice ca1 x.ctx.length cc1, .slice ta1 x.tr.length tc1, .int .i64 x.left] else undef), fun v => v = (bif (true && (sm == true)) then .agg #[.int .i8 y.kind, .int .u64 y.r0, .slice ca2 y.ctx.length cc2, .slice ta2 y.tr.length tc2, .int .i64 y.left] else undef), fun v => v = (bif (true && (sm == true)) then .bool ab else undef), fun v => v = (bif (true && (sm == true)) then .bool (!ab) else undef), fun v => v = .bool false, fun v => v = .bool false]) (by kernel_rfl) (back_of (by kernel_rfl)) (dst_of (by kernel_rfl)) (dep_of (by kernel_rfl)) (in_of (by kernel_rfl)) (Below.drew (Below.refl _ _)) ?hop ?hq
  case hop =>
    intro i o a w ho hS hdf hsz hrest hdone
    have t4 : a.tmps.getD 4 undef = .pointer (some ⟨W.heap.size, 0, none⟩) := hrest 4 (not_of (by kernel_rfl))
    have t5 : a.tmps.getD 5 undef = .pointer (some ⟨W.heap.size + 1, 0, none⟩) := hrest 5 (not_of (by kernel_rfl))
    have t6 : a.tmps.getD 6 undef = .pointer (some ⟨W.heap.size + 1 + 1, 0, none⟩) := hrest 6 (not_of (by kernel_rfl))
    have hs : a.tmps.size = 141 := hsz.trans rfl
    have hi : i < 40 := (Array.getElem?_eq_some_iff.1 ho).1
    clear hrest hsz hdf
    obtain rfl | rfl | rfl | rfl | rfl | rfl | rfl | rfl | rfl | rfl | rfl | rfl | rfl | rfl | rfl | rfl | rfl | rfl | rfl | rfl | rfl | rfl | rfl | rfl | rfl | rfl | rfl | rfl | rfl | rfl | rfl | rfl | rfl | rfl | rfl | rfl | rfl | rfl | rfl | rfl : i = 0 ∨ i = 1 ∨ i = 2 ∨ i = 3 ∨ i = 4 ∨ i = 5 ∨ i = 6 ∨ i = 7 ∨ i = 8 ∨ i = 9 ∨ i = 10 ∨ i = 11 ∨ i = 12 ∨ i = 13 ∨ i = 14 ∨ i = 15 ∨ i = 16 ∨ i = 17 ∨ i = 18 ∨ i = 19 ∨ i = 20 ∨ i = 21 ∨ i = 22 ∨ i = 23 ∨ i = 24 ∨ i = 25 ∨ i = 26 ∨ i = 27 ∨ i = 28 ∨ i = 29 ∨ i = 30 ∨ i = 31 ∨ i = 32 ∨ i = 33 ∨ i = 34 ∨ i = 35 ∨ i = 36 ∨ i = 37 ∨ i = 38 ∨ i = 39 := by omega
    · obtain rfl := Option.some.inj (show some _ = some o from ho)
      refine wpOp_val (v := .agg #[.int .i8 x.kind, .int .u64 x.r0, .slice ca1 x.ctx.length cc1, .slice ta1 x.tr.length tc1, .int .i64 x.left]) (w' := w) rfl rfl ?_ ⟨_, rfl, ?_, hS, fun _ _ _ h => h⟩
      · simp [execOp, Act.eval, t4, Instr.loadAt, Instr.sureAddr, load_out (HX.out w hS), Result.andThen_ok]
      · rw [own_put rfl (by rw [hs]; omega)]; exact rfl
    · obtain rfl := Option.some.inj (show some _ = some o from ho)
      refine wpOp_val (v := .agg #[.int .i8 x.kind, .int .u64 x.r0, .slice ca1 x.ctx.length cc1, .slice ta1 x.tr.length tc1, .int .i64 x.left]) (w' := w) rfl rfl ?_ ⟨_, rfl, ?_, hS, fun _ _ _ h => h⟩
      · simp [execOp, Act.eval, t4, Instr.loadAt, Instr.sureAddr, load_out (HX.out w hS), Result.andThen_ok]
      · rw [own_put rfl (by rw [hs]; omega)]; exact rfl
    · obtain rfl := Option.some.inj (show some _ = some o from ho)
      have s25 : a.tmps.getD 25 undef = .agg #[.int .i8 x.kind, .int .u64 x.r0, .slice ca1 x.ctx.length cc1, .slice ta1 x.tr.length tc1, .int .i64 x.left] := hdone _ (Array.mem_of_getElem? (i := 0) rfl) rfl _ rfl
      have s26 : a.tmps.getD 26 undef = .agg #[.int .i8 x.kind, .int .u64 x.r0, .slice ca1 x.ctx.length cc1, .slice ta1 x.tr.length tc1, .int .i64 x.left] := hdone _ (Array.mem_of_getElem? (i := 1) rfl) rfl _ rfl
      refine wpOp_call (f := 52) (args := #[.agg #[.int .i8 x.kind, .int .u64 x.r0, .slice ca1 x.ctx.length cc1, .slice ta1 x.tr.length tc1, .int .i64 x.left], .agg #[.int .i8 x.kind, .int .u64 x.r0, .slice ca1 x.ctx.length cc1, .slice ta1 x.tr.length tc1, .int .i64 x.left]]) rfl rfl ?_ ?_
      · simp [go_sem, execOp, Act.eval, Deferred.ofValue, callFunc, Try.func52, Try.f52, s25, s26, resolve, invoke]
      · refine (LAA.out w hS).mono ?_
        rintro e w' ⟨rfl, b9⟩
        refine ⟨_, rfl, _, rfl, ?_, hS.trans (b9.mono hS.size), fun _ _ _ h => h⟩
        rw [own_put rfl (by rw [hs]; omega)]; exact rfl
    · obtain rfl := Option.some.inj (show some _ = some o from ho)
      have s27 : a.tmps.getD 27 undef = .bool true := hdone _ (Array.mem_of_getElem? (i := 0) rfl) rfl _ rfl
      refine wpOp_val (v := .bool false) (w' := w) rfl rfl ?_ ⟨_, rfl, ?_, hS, fun _ _ _ h => h⟩
      · simp [execOp, Act.eval, s27, go_sem]
      · rw [own_put rfl (by rw [hs]; omega)]; exact rfl
    · obtain rfl := Option.some.inj (show some _ = some o from ho)
      have s28 : a.tmps.getD 28 undef = .bool false := hdone _ (Array.mem_of_getElem? (i := 0) rfl) rfl _ rfl
      refine wpOp_val (v := .bool false) (w' := w) rfl rfl ?_ ⟨_, rfl, ?_, hS, fun _ _ _ h => h⟩
      · simp [execOp, Act.eval, s28]
      · rw [own_put rfl (by rw [hs]; omega)]; exact rfl
    · obtain rfl := Option.some.inj (show some _ = some o from ho)
      have hg : a.tmps.getD 29 undef = .bool false := hdone _ (Array.mem_of_getElem? (i := 0) rfl) rfl _ rfl
      refine wpOp_valw (v := .agg #[.int .i8 x.kind, .int .u64 x.r0, .slice ca1 x.ctx.length cc1, .slice ta1 x.tr.length tc1, .int .i64 x.left]) (w' := w) rfl (wanted_yes 4 29 false hg (by rw [hs]; omega) rfl rfl rfl rfl) ?_ ⟨_, rfl, ?_, hS, fun _ _ _ h => h⟩
      · simp [execOp, Act.eval, t4, Instr.loadAt, Instr.sureAddr, load_out (HX.out w hS), Result.andThen_ok]
      · rw [own_put rfl (by rw [hs]; omega)]; exact rfl
    · obtain rfl := Option.some.inj (show some _ = some o from ho)
      have hg : a.tmps.getD 29 undef = .bool false := hdone _ (Array.mem_of_getElem? (i := 0) rfl) rfl _ rfl
      refine wpOp_valw (v := .agg #[.int .i8 y.kind, .int .u64 y.r0, .slice ca2 y.ctx.length cc2, .slice ta2 y.tr.length tc2, .int .i64 y.left]) (w' := w) rfl (wanted_yes 4 29 false hg (by rw [hs]; omega) rfl rfl rfl rfl) ?_ ⟨_, rfl, ?_, hS, fun _ _ _ h => h⟩
      · simp [execOp, Act.eval, t5, Instr.loadAt, Instr.sureAddr, load_out (HY.out w hS), Result.andThen_ok]
      · rw [own_put rfl (by rw [hs]; omega)]; exact rfl
    · obtain rfl := Option.some.inj (show some _ = some o from ho)
      have hg : a.tmps.getD 29 undef = .bool false := hdone _ (Array.mem_of_getElem? (i := 2) rfl) rfl _ rfl
      have s30 : a.tmps.getD 30 undef = .agg #[.int .i8 x.kind, .int .u64 x.r0, .slice ca1 x.ctx.length cc1, .slice ta1 x.tr.length tc1, .int .i64 x.left] := hdone _ (Array.mem_of_getElem? (i := 0) rfl) rfl _ rfl
      have s31 : a.tmps.getD 31 undef = .agg #[.int .i8 y.kind, .int .u64 y.r0, .slice ca2 y.ctx.length cc2, .slice ta2 y.tr.length tc2, .int .i64 y.left] := hdone _ (Array.mem_of_getElem? (i := 1) rfl) rfl _ rfl
      refine wpOp_callw (f := 52) (args := #[.agg #[.int .i8 x.kind, .int .u64 x.r0, .slice ca1 x.ctx.length cc1, .slice ta1 x.tr.length tc1, .int .i64 x.left], .agg #[.int .i8 y.kind, .int .u64 y.r0, .slice ca2 y.ctx.length cc2, .slice ta2 y.tr.length tc2, .int .i64 y.left]]) rfl (wanted_yes 4 29 false hg (by rw [hs]; omega) rfl rfl rfl rfl) ?_ ?_
      · simp [go_sem, execOp, Act.eval, Deferred.ofValue, callFunc, Try.func52, Try.f52, s30, s31, resolve, invoke]
      · refine (LAB.out w hS).mono ?_
        rintro e w' ⟨rfl, b9⟩
        refine ⟨_, rfl, _, rfl, ?_, hS.trans (b9.mono hS.size), fun _ _ _ h => h⟩
        rw [own_put rfl (by rw [hs]; omega)]; exact rfl
    · obtain rfl := Option.some.inj (show some _ = some o from ho)
      have hg : a.tmps.getD 29 undef = .bool false := hdone _ (Array.mem_of_getElem? (i := 0) rfl) rfl _ rfl
      refine wpOp_valw (v := .agg #[.int .i8 y.kind, .int .u64 y.r0, .slice ca2 y.ctx.length cc2, .slice ta2 y.tr.length tc2, .int .i64 y.left]) (w' := w) rfl (wanted_yes 4 29 false hg (by rw [hs]; omega) rfl rfl rfl rfl) ?_ ⟨_, rfl, ?_, hS, fun _ _ _ h => h⟩
      · simp [execOp, Act.eval, t5, Instr.loadAt, Instr.sureAddr, load_out (HY.out w hS), Result.andThen_ok]
      · rw [own_put rfl (by rw [hs]; omega)]; exact rfl
    · obtain rfl := Option.some.inj (show some _ = some o from ho)
      have hg : a.tmps.getD 29 undef = .bool false := hdone _ (Array.mem_of_getElem? (i := 0) rfl) rfl _ rfl
      refine wpOp_valw (v := .agg #[.int .i8 x.kind, .int .u64 x.r0, .slice ca1 x.ctx.length cc1, .slice ta1 x.tr.length tc1, .int .i64 x.left]) (w' := w) rfl (wanted_yes 4 29 false hg (by rw [hs]; omega) rfl rfl rfl rfl) ?_ ⟨_, rfl, ?_, hS, fun _ _ _ h => h⟩
      · simp [execOp, Act.eval, t4, Instr.loadAt, Instr.sureAddr, load_out (HX.out w hS), Result.andThen_ok]
      · rw [own_put rfl (by rw [hs]; omega)]; exact rfl
    · obtain rfl := Option.some.inj (show some _ = some o from ho)
      have hg : a.tmps.getD 29 undef = .bool false := hdone _ (Array.mem_of_getElem? (i := 3) rfl) rfl _ rfl
      have s33 : a.tmps.getD 33 undef = .agg #[.int .i8 y.kind, .int .u64 y.r0, .slice ca2 y.ctx.length cc2, .slice ta2 y.tr.length tc2, .int .i64 y.left] := hdone _ (Array.mem_of_getElem? (i := 0) rfl) rfl _ rfl
      have s34 : a.tmps.getD 34 undef = .agg #[.int .i8 x.kind, .int .u64 x.r0, .slice ca1 x.ctx.length cc1, .slice ta1 x.tr.length tc1, .int .i64 x.left] := hdone _ (Array.mem_of_getElem? (i := 1) rfl) rfl _ rfl
      refine wpOp_callw (f := 52) (args := #[.agg #[.int .i8 y.kind, .int .u64 y.r0, .slice ca2 y.ctx.length cc2, .slice ta2 y.tr.length tc2, .int .i64 y.left], .agg #[.int .i8 x.kind, .int .u64 x.r0, .slice ca1 x.ctx.length cc1, .slice ta1 x.tr.length tc1, .int .i64 x.left]]) rfl (wanted_yes 4 29 false hg (by rw [hs]; omega) rfl rfl rfl rfl) ?_ ?_
      · simp [go_sem, execOp, Act.eval, Deferred.ofValue, callFunc, Try.func52, Try.f52, s33, s34, resolve, invoke]
      · refine (LBA.out w hS).mono ?_
        rintro e w' ⟨rfl, b9⟩
        refine ⟨_, rfl, _, rfl, ?_, hS.trans (b9.mono hS.size), fun _ _ _ h => h⟩
        rw [own_put rfl (by rw [hs]; omega)]; exact rfl
    · obtain rfl := Option.some.inj (show some _ = some o from ho)
      have hg : a.tmps.getD 29 undef = .bool false := hdone _ (Array.mem_of_getElem? (i := 2) rfl) rfl _ rfl
      have s32 : a.tmps.getD 32 undef = .bool ab := hdone _ (Array.mem_of_getElem? (i := 0) rfl) rfl _ rfl
      have s35 : a.tmps.getD 35 undef = .bool ab := hdone _ (Array.mem_of_getElem? (i := 1) rfl) rfl _ rfl
      refine wpOp_valw (v := .bool false) (w' := w) rfl (wanted_yes 4 29 false hg (by rw [hs]; omega) rfl rfl rfl rfl) ?_ ⟨_, rfl, ?_, hS, fun _ _ _ h => h⟩
      · simp [execOp, Act.eval, s32, s35, go_sem]
      · rw [own_put rfl (by rw [hs]; omega)]; exact rfl
    · obtain rfl := Option.some.inj (show some _ = some o from ho)
      have s29 : a.tmps.getD 29 undef = .bool false := hdone _ (Array.mem_of_getElem? (i := 0) rfl) rfl _ rfl
      have s36 : a.tmps.getD 36 undef = .bool false := hdone _ (Array.mem_of_getElem? (i := 1) rfl) rfl _ rfl
      refine wpOp_val (v := .bool false) (w' := w) rfl rfl ?_ ⟨_, rfl, ?_, hS, fun _ _ _ h => h⟩
      · simp [execOp, Act.eval, s29, s36, go_sem]
      · rw [own_put rfl (by rw [hs]; omega)]; exact rfl
    · obtain rfl := Option.some.inj (show some _ = some o from ho)
      have s37 : a.tmps.getD 37 undef = .bool false := hdone _ (Array.mem_of_getElem? (i := 0) rfl) rfl _ rfl
      refine wpOp_val (v := .bool false) (w' := w) rfl rfl ?_ ⟨_, rfl, ?_, hS, fun _ _ _ h => h⟩
      · simp [execOp, Act.eval, s37]
      · rw [own_put rfl (by rw [hs]; omega)]; exact rfl
    · obtain rfl := Option.some.inj (show some _ = some o from ho)
      have hg : a.tmps.getD 38 undef = .bool false := hdone _ (Array.mem_of_getElem? (i := 0) rfl) rfl _ rfl
      refine wpOp_valw (v := .agg #[.int .i8 x.kind, .int .u64 x.r0, .slice ca1 x.ctx.length cc1, .slice ta1 x.tr.length tc1, .int .i64 x.left]) (w' := w) rfl (wanted_yes 13 38 false hg (by rw [hs]; omega) rfl rfl rfl rfl) ?_ ⟨_, rfl, ?_, hS, fun _ _ _ h => h⟩
      · simp [execOp, Act.eval, t4, Instr.loadAt, Instr.sureAddr, load_out (HX.out w hS), Result.andThen_ok]
      · rw [own_put rfl (by rw [hs]; omega)]; exact rfl
    · obtain rfl := Option.some.inj (show some _ = some o from ho)
      have hg : a.tmps.getD 38 undef = .bool false := hdone _ (Array.mem_of_getElem? (i := 0) rfl) rfl _ rfl
      refine wpOp_valw (v := .agg #[.int .i8 y.kind, .int .u64 y.r0, .slice ca2 y.ctx.length cc2, .slice ta2 y.tr.length tc2, .int .i64 y.left]) (w' := w) rfl (wanted_yes 13 38 false hg (by rw [hs]; omega) rfl rfl rfl rfl) ?_ ⟨_, rfl, ?_, hS, fun _ _ _ h => h⟩
      · simp [execOp, Act.eval, t5, Instr.loadAt, Instr.sureAddr, load_out (HY.out w hS), Result.andThen_ok]
      · rw [own_put rfl (by rw [hs]; omega)]; exact rfl
    · obtain rfl := Option.some.inj (show some _ = some o from ho)
      have hg : a.tmps.getD 38 undef = .bool false := hdone _ (Array.mem_of_getElem? (i := 2) rfl) rfl _ rfl
      have s39 : a.tmps.getD 39 undef = .agg #[.int .i8 x.kind, .int .u64 x.r0, .slice ca1 x.ctx.length cc1, .slice ta1 x.tr.length tc1, .int .i64 x.left] := hdone _ (Array.mem_of_getElem? (i := 0) rfl) rfl _ rfl
      have s40 : a.tmps.getD 40 undef = .agg #[.int .i8 y.kind, .int .u64 y.r0, .slice ca2 y.ctx.length cc2, .slice ta2 y.tr.length tc2, .int .i64 y.left] := hdone _ (Array.mem_of_getElem? (i := 1) rfl) rfl _ rfl
      refine wpOp_callw (f := 52) (args := #[.agg #[.int .i8 x.kind, .int .u64 x.r0, .slice ca1 x.ctx.length cc1, .slice ta1 x.tr.length tc1, .int .i64 x.left], .agg #[.int .i8 y.kind, .int .u64 y.r0, .slice ca2 y.ctx.length cc2, .slice ta2 y.tr.length tc2, .int .i64 y.left]]) rfl (wanted_yes 13 38 false hg (by rw [hs]; omega) rfl rfl rfl rfl) ?_ ?_
      · simp [go_sem, execOp, Act.eval, Deferred.ofValue, callFunc, Try.func52, Try.f52, s39, s40, resolve, invoke]
      · refine (LAB.out w hS).mono ?_
        rintro e w' ⟨rfl, b9⟩
        refine ⟨_, rfl, _, rfl, ?_, hS.trans (b9.mono hS.size), fun _ _ _ h => h⟩
        rw [own_put rfl (by rw [hs]; omega)]; exact rfl
    · obtain rfl := Option.some.inj (show some _ = some o from ho)
      have hg : a.tmps.getD 38 undef = .bool false := hdone _ (Array.mem_of_getElem? (i := 2) rfl) rfl _ rfl
      have s41 : a.tmps.getD 41 undef = .bool ab := hdone _ (Array.mem_of_getElem? (i := 0) rfl) rfl _ rfl
      refine wpOp_valw (v := .bool ab) (w' := w) rfl (wanted_yes 13 38 false hg (by rw [hs]; omega) rfl rfl rfl rfl) ?_ ⟨_, rfl, ?_, hS, fun _ _ _ h => h⟩
      · simp [execOp, Act.eval, s41]
      · rw [own_put rfl (by rw [hs]; omega)]; exact rfl
    · obtain rfl := Option.some.inj (show some _ = some o from ho)
      have hg : a.tmps.getD 42 undef = .bool ab := hdone _ (Array.mem_of_getElem? (i := 0) rfl) rfl _ rfl
      cases hc : (true && (ab == true))
      · exact wpOp_no rfl (Eq.trans (wanted_cond 17 42 (true) (ab) true hg (by rw [hs]; omega) rfl rfl rfl) hc) ⟨_, rfl, by rw [own_put rfl (by rw [hs]; omega)]; exact rfl, hS, fun _ _ _ h => h⟩
      have hc1 := Bool.and_eq_true_iff.1 hc
      have hcl1 := hc1.2
      replace hc1 := hc1.1
      refine wpOp_valw (v := .agg #[.int .i8 y.kind, .int .u64 y.r0, .slice ca2 y.ctx.length cc2, .slice ta2 y.tr.length tc2, .int .i64 y.left]) (w' := w) rfl (Eq.trans (wanted_cond 17 42 (true) (ab) true hg (by rw [hs]; omega) rfl rfl rfl) hc) ?_ ⟨_, rfl, ?_, hS, fun _ _ _ h => h⟩
      · simp [execOp, Act.eval, t5, Instr.loadAt, Instr.sureAddr, load_out (HY.out w hS), Result.andThen_ok]
      · rw [own_put rfl (by rw [hs]; omega)]; exact rfl
    · obtain rfl := Option.some.inj (show some _ = some o from ho)
      have hg : a.tmps.getD 42 undef = .bool ab := hdone _ (Array.mem_of_getElem? (i := 0) rfl) rfl _ rfl
      cases hc : (true && (ab == true))
      · exact wpOp_no rfl (Eq.trans (wanted_cond 17 42 (true) (ab) true hg (by rw [hs]; omega) rfl rfl rfl) hc) ⟨_, rfl, by rw [own_put rfl (by rw [hs]; omega)]; exact rfl, hS, fun _ _ _ h => h⟩
      have hc1 := Bool.and_eq_true_iff.1 hc
      have hcl1 := hc1.2
      replace hc1 := hc1.1
      refine wpOp_valw (v := .agg #[.int .i8 z.kind, .int .u64 z.r0, .slice ca3 z.ctx.length cc3, .slice ta3 z.tr.length tc3, .int .i64 z.left]) (w' := w) rfl (Eq.trans (wanted_cond 17 42 (true) (ab) true hg (by rw [hs]; omega) rfl rfl rfl) hc) ?_ ⟨_, rfl, ?_, hS, fun _ _ _ h => h⟩
      · simp [execOp, Act.eval, t6, Instr.loadAt, Instr.sureAddr, load_out (HZ.out w hS), Result.andThen_ok]
      · rw [own_put rfl (by rw [hs]; omega)]; exact rfl
    · obtain rfl := Option.some.inj (show some _ = some o from ho)
      have hg : a.tmps.getD 42 undef = .bool ab := hdone _ (Array.mem_of_getElem? (i := 2) rfl) rfl _ rfl
      cases hc : (true && (ab == true))
      · exact wpOp_no rfl (Eq.trans (wanted_cond 17 42 (true) (ab) true hg (by rw [hs]; omega) rfl rfl rfl) hc) ⟨_, rfl, by rw [own_put rfl (by rw [hs]; omega)]; exact rfl, hS, fun _ _ _ h => h⟩
      have hc1 := Bool.and_eq_true_iff.1 hc
      have hcl1 := hc1.2
      replace hc1 := hc1.1
      have s43 : a.tmps.getD 43 undef = .agg #[.int .i8 y.kind, .int .u64 y.r0, .slice ca2 y.ctx.length cc2, .slice ta2 y.tr.length tc2, .int .i64 y.left] := (show a.tmps.getD 43 undef = (bif (true && (ab == true)) then .agg #[.int .i8 y.kind, .int .u64 y.r0, .slice ca2 y.ctx.length cc2, .slice ta2 y.tr.length tc2, .int .i64 y.left] else undef) from hdone _ (Array.mem_of_getElem? (i := 0) rfl) rfl _ rfl).trans (by rw [hc]; rfl)
      have s44 : a.tmps.getD 44 undef = .agg #[.int .i8 z.kind, .int .u64 z.r0, .slice ca3 z.ctx.length cc3, .slice ta3 z.tr.length tc3, .int .i64 z.left] := (show a.tmps.getD 44 undef = (bif (true && (ab == true)) then .agg #[.int .i8 z.kind, .int .u64 z.r0, .slice ca3 z.ctx.length cc3, .slice ta3 z.tr.length tc3, .int .i64 z.left] else undef) from hdone _ (Array.mem_of_getElem? (i := 1) rfl) rfl _ rfl).trans (by rw [hc]; rfl)
      refine wpOp_callw (f := 52) (args := #[.agg #[.int .i8 y.kind, .int .u64 y.r0, .slice ca2 y.ctx.length cc2, .slice ta2 y.tr.length tc2, .int .i64 y.left], .agg #[.int .i8 z.kind, .int .u64 z.r0, .slice ca3 z.ctx.length cc3, .slice ta3 z.tr.length tc3, .int .i64 z.left]]) rfl (Eq.trans (wanted_cond 17 42 (true) (ab) true hg (by rw [hs]; omega) rfl rfl rfl) hc) ?_ ?_
      · simp [go_sem, execOp, Act.eval, Deferred.ofValue, callFunc, Try.func52, Try.f52, s43, s44, resolve, invoke]
      · refine (LBC.out w hS).mono ?_
        rintro e w' ⟨rfl, b9⟩
        refine ⟨_, rfl, _, rfl, ?_, hS.trans (b9.mono hS.size), fun _ _ _ h => h⟩
        rw [own_put rfl (by rw [hs]; omega)]; exact rfl
    · obtain rfl := Option.some.inj (show some _ = some o from ho)
      have hg : a.tmps.getD 38 undef = .bool false := hdone _ (Array.mem_of_getElem? (i := 2) rfl) rfl _ rfl
      have s42 : a.tmps.getD 42 undef = .bool ab := hdone _ (Array.mem_of_getElem? (i := 0) rfl) rfl _ rfl
      have s45 : a.tmps.getD 45 undef = (bif (true && (ab == true)) then .bool bc else undef) := hdone _ (Array.mem_of_getElem? (i := 1) rfl) rfl _ rfl
      refine wpOp_valw (v := .bool (ab && bc)) (w' := w) rfl (wanted_yes 13 38 false hg (by rw [hs]; omega) rfl rfl rfl rfl) ?_ ⟨_, rfl, ?_, hS, fun _ _ _ h => h⟩
      · exact exec_pick rfl s42 (fun hb => by show a.tmps.getD 45 undef = _; rw [s45, hb]; rfl) (fun hb => by rw [hb]; rfl)
      · rw [own_put rfl (by rw [hs]; omega)]; exact rfl
    · obtain rfl := Option.some.inj (show some _ = some o from ho)
      have hg : a.tmps.getD 38 undef = .bool false := hdone _ (Array.mem_of_getElem? (i := 2) rfl) rfl _ rfl
      have s46 : a.tmps.getD 46 undef = .bool (ab && bc) := hdone _ (Array.mem_of_getElem? (i := 0) rfl) rfl _ rfl
      refine wpOp_valw (v := .bool (ab && bc)) (w' := w) rfl (wanted_yes 13 38 false hg (by rw [hs]; omega) rfl rfl rfl rfl) ?_ ⟨_, rfl, ?_, hS, fun _ _ _ h => h⟩
      · simp [execOp, Act.eval, s46]
      · rw [own_put rfl (by rw [hs]; omega)]; exact rfl
    · obtain rfl := Option.some.inj (show some _ = some o from ho)
      have hg : a.tmps.getD 47 undef = .bool (ab && bc) := hdone _ (Array.mem_of_getElem? (i := 0) rfl) rfl _ rfl
      cases hc : (true && ((ab && bc) == true))
      · exact wpOp_no rfl (Eq.trans (wanted_cond 22 47 (true) ((ab && bc)) true hg (by rw [hs]; omega) rfl rfl rfl) hc) ⟨_, rfl, by rw [own_put rfl (by rw [hs]; omega)]; exact rfl, hS, fun _ _ _ h => h⟩
      have hc1 := Bool.and_eq_true_iff.1 hc
      have hcl1 := hc1.2
      replace hc1 := hc1.1
      refine wpOp_valw (v := .agg #[.int .i8 x.kind, .int .u64 x.r0, .slice ca1 x.ctx.length cc1, .slice ta1 x.tr.length tc1, .int .i64 x.left]) (w' := w) rfl (Eq.trans (wanted_cond 22 47 (true) ((ab && bc)) true hg (by rw [hs]; omega) rfl rfl rfl) hc) ?_ ⟨_, rfl, ?_, hS, fun _ _ _ h => h⟩
      · simp [execOp, Act.eval, t4, Instr.loadAt, Instr.sureAddr, load_out (HX.out w hS), Result.andThen_ok]
      · rw [own_put rfl (by rw [hs]; omega)]; exact rfl
    · obtain rfl := Option.some.inj (show some _ = some o from ho)
      have hg : a.tmps.getD 47 undef = .bool (ab && bc) := hdone _ (Array.mem_of_getElem? (i := 0) rfl) rfl _ rfl
      cases hc : (true && ((ab && bc) == true))
      · exact wpOp_no rfl (Eq.trans (wanted_cond 22 47 (true) ((ab && bc)) true hg (by rw [hs]; omega) rfl rfl rfl) hc) ⟨_, rfl, by rw [own_put rfl (by rw [hs]; omega)]; exact rfl, hS, fun _ _ _ h => h⟩
      have hc1 := Bool.and_eq_true_iff.1 hc
      have hcl1 := hc1.2
      replace hc1 := hc1.1
      refine wpOp_valw (v := .agg #[.int .i8 z.kind, .int .u64 z.r0, .slice ca3 z.ctx.length cc3, .slice ta3 z.tr.length tc3, .int .i64 z.left]) (w' := w) rfl (Eq.trans (wanted_cond 22 47 (true) ((ab && bc)) true hg (by rw [hs]; omega) rfl rfl rfl) hc) ?_ ⟨_, rfl, ?_, hS, fun _ _ _ h => h⟩
      · simp [execOp, Act.eval, t6, Instr.loadAt, Instr.sureAddr, load_out (HZ.out w hS), Result.andThen_ok]
      · rw [own_put rfl (by rw [hs]; omega)]; exact rfl
    · obtain rfl := Option.some.inj (show some _ = some o from ho)
      have hg : a.tmps.getD 47 undef = .bool (ab && bc) := hdone _ (Array.mem_of_getElem? (i := 2) rfl) rfl _ rfl
      cases hc : (true && ((ab && bc) == true))
      · exact wpOp_no rfl (Eq.trans (wanted_cond 22 47 (true) ((ab && bc)) true hg (by rw [hs]; omega) rfl rfl rfl) hc) ⟨_, rfl, by rw [own_put rfl (by rw [hs]; omega)]; exact rfl, hS, fun _ _ _ h => h⟩
      have hc1 := Bool.and_eq_true_iff.1 hc
      have hcl1 := hc1.2
      replace hc1 := hc1.1
      have s48 : a.tmps.getD 48 undef = .agg #[.int .i8 x.kind, .int .u64 x.r0, .slice ca1 x.ctx.length cc1, .slice ta1 x.tr.length tc1, .int .i64 x.left] := (show a.tmps.getD 48 undef = (bif (true && ((ab && bc) == true)) then .agg #[.int .i8 x.kind, .int .u64 x.r0, .slice ca1 x.ctx.length cc1, .slice ta1 x.tr.length tc1, .int .i64 x.left] else undef) from hdone _ (Array.mem_of_getElem? (i := 0) rfl) rfl _ rfl).trans (by rw [hc]; rfl)
      have s49 : a.tmps.getD 49 undef = .agg #[.int .i8 z.kind, .int .u64 z.r0, .slice ca3 z.ctx.length cc3, .slice ta3 z.tr.length tc3, .int .i64 z.left] := (show a.tmps.getD 49 undef = (bif (true && ((ab && bc) == true)) then .agg #[.int .i8 z.kind, .int .u64 z.r0, .slice ca3 z.ctx.length cc3, .slice ta3 z.tr.length tc3, .int .i64 z.left] else undef) from hdone _ (Array.mem_of_getElem? (i := 1) rfl) rfl _ rfl).trans (by rw [hc]; rfl)
      refine wpOp_callw (f := 52) (args := #[.agg #[.int .i8 x.kind, .int .u64 x.r0, .slice ca1 x.ctx.length cc1, .slice ta1 x.tr.length tc1, .int .i64 x.left], .agg #[.int .i8 z.kind, .int .u64 z.r0, .slice ca3 z.ctx.length cc3, .slice ta3 z.tr.length tc3, .int .i64 z.left]]) rfl (Eq.trans (wanted_cond 22 47 (true) ((ab && bc)) true hg (by rw [hs]; omega) rfl rfl rfl) hc) ?_ ?_
      · simp [go_sem, execOp, Act.eval, Deferred.ofValue, callFunc, Try.func52, Try.f52, s48, s49, resolve, invoke]
      · refine (LAC.out w hS).mono ?_
        rintro e w' ⟨rfl, b9⟩
        refine ⟨_, rfl, _, rfl, ?_, hS.trans (b9.mono hS.size), fun _ _ _ h => h⟩
        rw [own_put rfl (by rw [hs]; omega)]; exact rfl
    · obtain rfl := Option.some.inj (show some _ = some o from ho)
      have hg : a.tmps.getD 47 undef = .bool (ab && bc) := hdone _ (Array.mem_of_getElem? (i := 1) rfl) rfl _ rfl
      cases hc : (true && ((ab && bc) == true))
      · exact wpOp_no rfl (Eq.trans (wanted_cond 22 47 (true) ((ab && bc)) true hg (by rw [hs]; omega) rfl rfl rfl) hc) ⟨_, rfl, by rw [own_put rfl (by rw [hs]; omega)]; exact rfl, hS, fun _ _ _ h => h⟩
      have hc1 := Bool.and_eq_true_iff.1 hc
      have hcl1 := hc1.2
      replace hc1 := hc1.1
      have s50 : a.tmps.getD 50 undef = .bool ac := (show a.tmps.getD 50 undef = (bif (true && ((ab && bc) == true)) then .bool ac else undef) from hdone _ (Array.mem_of_getElem? (i := 0) rfl) rfl _ rfl).trans (by rw [hc]; rfl)
      refine wpOp_valw (v := .bool (!ac)) (w' := w) rfl (Eq.trans (wanted_cond 22 47 (true) ((ab && bc)) true hg (by rw [hs]; omega) rfl rfl rfl) hc) ?_ ⟨_, rfl, ?_, hS, fun _ _ _ h => h⟩
      · simp [execOp, Act.eval, s50, go_sem]
      · rw [own_put rfl (by rw [hs]; omega)]; exact rfl
    · obtain rfl := Option.some.inj (show some _ = some o from ho)
      have hg : a.tmps.getD 38 undef = .bool false := hdone _ (Array.mem_of_getElem? (i := 2) rfl) rfl _ rfl
      have s47 : a.tmps.getD 47 undef = .bool (ab && bc) := hdone _ (Array.mem_of_getElem? (i := 0) rfl) rfl _ rfl
      have s51 : a.tmps.getD 51 undef = (bif (true && ((ab && bc) == true)) then .bool (!ac) else undef) := hdone _ (Array.mem_of_getElem? (i := 1) rfl) rfl _ rfl
      refine wpOp_valw (v := .bool false) (w' := w) rfl (wanted_yes 13 38 false hg (by rw [hs]; omega) rfl rfl rfl rfl) ?_ ⟨_, rfl, ?_, hS, fun _ _ _ h => h⟩
      · exact exec_pick rfl s47 (fun hb => by show a.tmps.getD 51 undef = _; rw [s51, hb]; show Value.bool (!ac) = _; rw [F1.out hb]; rfl) (fun _ => rfl)
      · rw [own_put rfl (by rw [hs]; omega)]; exact rfl
    · obtain rfl := Option.some.inj (show some _ = some o from ho)
      have s38 : a.tmps.getD 38 undef = .bool false := hdone _ (Array.mem_of_getElem? (i := 0) rfl) rfl _ rfl
      have s52 : a.tmps.getD 52 undef = .bool false := hdone _ (Array.mem_of_getElem? (i := 1) rfl) rfl _ rfl
      refine wpOp_val (v := .bool false) (w' := w) rfl rfl ?_ ⟨_, rfl, ?_, hS, fun _ _ _ h => h⟩
      · simp [execOp, Act.eval, s38, s52, go_sem]
      · rw [own_put rfl (by rw [hs]; omega)]; exact rfl
    · obtain rfl := Option.some.inj (show some _ = some o from ho)
      have s53 : a.tmps.getD 53 undef = .bool false := hdone _ (Array.mem_of_getElem? (i := 0) rfl) rfl _ rfl
      refine wpOp_val (v := .bool false) (w' := w) rfl rfl ?_ ⟨_, rfl, ?_, hS, fun _ _ _ h => h⟩
      · simp [execOp, Act.eval, s53]
      · rw [own_put rfl (by rw [hs]; omega)]; exact rfl
    · obtain rfl := Option.some.inj (show some _ = some o from ho)
      have hg : a.tmps.getD 54 undef = .bool false := hdone _ (Array.mem_of_getElem? (i := 0) rfl) rfl _ rfl
      refine wpOp_valw (v := .agg #[.int .i8 x.kind, .int .u64 x.r0, .slice ca1 x.ctx.length cc1, .slice ta1 x.tr.length tc1, .int .i64 x.left]) (w' := w) rfl (wanted_yes 29 54 false hg (by rw [hs]; omega) rfl rfl rfl rfl) ?_ ⟨_, rfl, ?_, hS, fun _ _ _ h => h⟩
      · simp [execOp, Act.eval, t4, Instr.loadAt, Instr.sureAddr, load_out (HX.out w hS), Result.andThen_ok]
      · rw [own_put rfl (by rw [hs]; omega)]; exact rfl
    · obtain rfl := Option.some.inj (show some _ = some o from ho)
      have hg : a.tmps.getD 54 undef = .bool false := hdone _ (Array.mem_of_getElem? (i := 0) rfl) rfl _ rfl
      refine wpOp_valw (v := .agg #[.int .i8 y.kind, .int .u64 y.r0, .slice ca2 y.ctx.length cc2, .slice ta2 y.tr.length tc2, .int .i64 y.left]) (w' := w) rfl (wanted_yes 29 54 false hg (by rw [hs]; omega) rfl rfl rfl rfl) ?_ ⟨_, rfl, ?_, hS, fun _ _ _ h => h⟩
      · simp [execOp, Act.eval, t5, Instr.loadAt, Instr.sureAddr, load_out (HY.out w hS), Result.andThen_ok]
      · rw [own_put rfl (by rw [hs]; omega)]; exact rfl
    · obtain rfl := Option.some.inj (show some _ = some o from ho)
      have hg : a.tmps.getD 54 undef = .bool false := hdone _ (Array.mem_of_getElem? (i := 2) rfl) rfl _ rfl
      have s55 : a.tmps.getD 55 undef = .agg #[.int .i8 x.kind, .int .u64 x.r0, .slice ca1 x.ctx.length cc1, .slice ta1 x.tr.length tc1, .int .i64 x.left] := hdone _ (Array.mem_of_getElem? (i := 0) rfl) rfl _ rfl
      have s56 : a.tmps.getD 56 undef = .agg #[.int .i8 y.kind, .int .u64 y.r0, .slice ca2 y.ctx.length cc2, .slice ta2 y.tr.length tc2, .int .i64 y.left] := hdone _ (Array.mem_of_getElem? (i := 1) rfl) rfl _ rfl
      refine wpOp_callw (f := 50) (args := #[.agg #[.int .i8 x.kind, .int .u64 x.r0, .slice ca1 x.ctx.length cc1, .slice ta1 x.tr.length tc1, .int .i64 x.left], .agg #[.int .i8 y.kind, .int .u64 y.r0, .slice ca2 y.ctx.length cc2, .slice ta2 y.tr.length tc2, .int .i64 y.left]]) rfl (wanted_yes 29 54 false hg (by rw [hs]; omega) rfl rfl rfl rfl) ?_ ?_
      · simp [go_sem, execOp, Act.eval, Deferred.ofValue, callFunc, Try.func50, Try.f50, s55, s56, resolve, invoke]
      · refine (SAB.out w hS).mono ?_
        rintro e w' ⟨rfl, b9⟩
        refine ⟨_, rfl, _, rfl, ?_, hS.trans (b9.mono hS.size), fun _ _ _ h => h⟩
        rw [own_put rfl (by rw [hs]; omega)]; exact rfl
    · obtain rfl := Option.some.inj (show some _ = some o from ho)
      have hg : a.tmps.getD 54 undef = .bool false := hdone _ (Array.mem_of_getElem? (i := 2) rfl) rfl _ rfl
      have s57 : a.tmps.getD 57 undef = .bool sm := hdone _ (Array.mem_of_getElem? (i := 0) rfl) rfl _ rfl
      refine wpOp_valw (v := .bool sm) (w' := w) rfl (wanted_yes 29 54 false hg (by rw [hs]; omega) rfl rfl rfl rfl) ?_ ⟨_, rfl, ?_, hS, fun _ _ _ h => h⟩
      · simp [execOp, Act.eval, s57]
      · rw [own_put rfl (by rw [hs]; omega)]; exact rfl
    · obtain rfl := Option.some.inj (show some _ = some o from ho)
      have hg : a.tmps.getD 58 undef = .bool sm := hdone _ (Array.mem_of_getElem? (i := 0) rfl) rfl _ rfl
      cases hc : (true && (sm == true))
      · exact wpOp_no rfl (Eq.trans (wanted_cond 33 58 (true) (sm) true hg (by rw [hs]; omega) rfl rfl rfl) hc) ⟨_, rfl, by rw [own_put rfl (by rw [hs]; omega)]; exact rfl, hS, fun _ _ _ h => h⟩
      have hc1 := Bool.and_eq_true_iff.1 hc
      have hcl1 := hc1.2
      replace hc1 := hc1.1
      refine wpOp_valw (v := .agg #[.int .i8 x.kind, .int .u64 x.r0, .slice ca1 x.ctx.length cc1, .slice ta1 x.tr.length tc1, .int .i64 x.left]) (w' := w) rfl (Eq.trans (wanted_cond 33 58 (true) (sm) true hg (by rw [hs]; omega) rfl rfl rfl) hc) ?_ ⟨_, rfl, ?_, hS, fun _ _ _ h => h⟩
      · simp [execOp, Act.eval, t4, Instr.loadAt, Instr.sureAddr, load_out (HX.out w hS), Result.andThen_ok]
      · rw [own_put rfl (by rw [hs]; omega)]; exact rfl
    · obtain rfl := Option.some.inj (show some _ = some o from ho)
      have hg : a.tmps.getD 58 undef = .bool sm := hdone _ (Array.mem_of_getElem? (i := 0) rfl) rfl _ rfl
      cases hc : (true && (sm == true))
      · exact wpOp_no rfl (Eq.trans (wanted_cond 33 58 (true) (sm) true hg (by rw [hs]; omega) rfl rfl rfl) hc) ⟨_, rfl, by rw [own_put rfl (by rw [hs]; omega)]; exact rfl, hS, fun _ _ _ h => h⟩
      have hc1 := Bool.and_eq_true_iff.1 hc
      have hcl1 := hc1.2
      replace hc1 := hc1.1
      refine wpOp_valw (v := .agg #[.int .i8 y.kind, .int .u64 y.r0, .slice ca2 y.ctx.length cc2, .slice ta2 y.tr.length tc2, .int .i64 y.left]) (w' := w) rfl (Eq.trans (wanted_cond 33 58 (true) (sm) true hg (by rw [hs]; omega) rfl rfl rfl) hc) ?_ ⟨_, rfl, ?_, hS, fun _ _ _ h => h⟩
      · simp [execOp, Act.eval, t5, Instr.loadAt, Instr.sureAddr, load_out (HY.out w hS), Result.andThen_ok]
      · rw [own_put rfl (by rw [hs]; omega)]; exact rfl
    · obtain rfl := Option.some.inj (show some _ = some o from ho)
      have hg : a.tmps.getD 58 undef = .bool sm := hdone _ (Array.mem_of_getElem? (i := 2) rfl) rfl _ rfl
      cases hc : (true && (sm == true))
      · exact wpOp_no rfl (Eq.trans (wanted_cond 33 58 (true) (sm) true hg (by rw [hs]; omega) rfl rfl rfl) hc) ⟨_, rfl, by rw [own_put rfl (by rw [hs]; omega)]; exact rfl, hS, fun _ _ _ h => h⟩
      have hc1 := Bool.and_eq_true_iff.1 hc
      have hcl1 := hc1.2
      replace hc1 := hc1.1
      have s59 : a.tmps.getD 59 undef = .agg #[.int .i8 x.kind, .int .u64 x.r0, .slice ca1 x.ctx.length cc1, .slice ta1 x.tr.length tc1, .int .i64 x.left] := (show a.tmps.getD 59 undef = (bif (true && (sm == true)) then .agg #[.int .i8 x.kind, .int .u64 x.r0, .slice ca1 x.ctx.length cc1, .slice ta1 x.tr.length tc1, .int .i64 x.left] else undef) from hdone _ (Array.mem_of_getElem? (i := 0) rfl) rfl _ rfl).trans (by rw [hc]; rfl)
      have s60 : a.tmps.getD 60 undef = .agg #[.int .i8 y.kind, .int .u64 y.r0, .slice ca2 y.ctx.length cc2, .slice ta2 y.tr.length tc2, .int .i64 y.left] := (show a.tmps.getD 60 undef = (bif (true && (sm == true)) then .agg #[.int .i8 y.kind, .int .u64 y.r0, .slice ca2 y.ctx.length cc2, .slice ta2 y.tr.length tc2, .int .i64 y.left] else undef) from hdone _ (Array.mem_of_getElem? (i := 1) rfl) rfl _ rfl).trans (by rw [hc]; rfl)
      refine wpOp_callw (f := 52) (args := #[.agg #[.int .i8 x.kind, .int .u64 x.r0, .slice ca1 x.ctx.length cc1, .slice ta1 x.tr.length tc1, .int .i64 x.left], .agg #[.int .i8 y.kind, .int .u64 y.r0, .slice ca2 y.ctx.length cc2, .slice ta2 y.tr.length tc2, .int .i64 y.left]]) rfl (Eq.trans (wanted_cond 33 58 (true) (sm) true hg (by rw [hs]; omega) rfl rfl rfl) hc) ?_ ?_
      · simp [go_sem, execOp, Act.eval, Deferred.ofValue, callFunc, Try.func52, Try.f52, s59, s60, resolve, invoke]
      · refine (LAB.out w hS).mono ?_
        rintro e w' ⟨rfl, b9⟩
        refine ⟨_, rfl, _, rfl, ?_, hS.trans (b9.mono hS.size), fun _ _ _ h => h⟩
        rw [own_put rfl (by rw [hs]; omega)]; exact rfl
    · obtain rfl := Option.some.inj (show some _ = some o from ho)
      have hg : a.tmps.getD 58 undef = .bool sm := hdone _ (Array.mem_of_getElem? (i := 1) rfl) rfl _ rfl
      cases hc : (true && (sm == true))
      · exact wpOp_no rfl (Eq.trans (wanted_cond 33 58 (true) (sm) true hg (by rw [hs]; omega) rfl rfl rfl) hc) ⟨_, rfl, by rw [own_put rfl (by rw [hs]; omega)]; exact rfl, hS, fun _ _ _ h => h⟩
      have hc1 := Bool.and_eq_true_iff.1 hc
      have hcl1 := hc1.2
      replace hc1 := hc1.1
      have s61 : a.tmps.getD 61 undef = .bool ab := (show a.tmps.getD 61 undef = (bif (true && (sm == true)) then .bool ab else undef) from hdone _ (Array.mem_of_getElem? (i := 0) rfl) rfl _ rfl).trans (by rw [hc]; rfl)
      refine wpOp_valw (v := .bool (!ab)) (w' := w) rfl (Eq.trans (wanted_cond 33 58 (true) (sm) true hg (by rw [hs]; omega) rfl rfl rfl) hc) ?_ ⟨_, rfl, ?_, hS, fun _ _ _ h => h⟩
      · simp [execOp, Act.eval, s61, go_sem]
      · rw [own_put rfl (by rw [hs]; omega)]; exact rfl
    · obtain rfl := Option.some.inj (show some _ = some o from ho)
      have hg : a.tmps.getD 54 undef = .bool false := hdone _ (Array.mem_of_getElem? (i := 2) rfl) rfl _ rfl
      have s58 : a.tmps.getD 58 undef = .bool sm := hdone _ (Array.mem_of_getElem? (i := 0) rfl) rfl _ rfl
      have s62 : a.tmps.getD 62 undef = (bif (true && (sm == true)) then .bool (!ab) else undef) := hdone _ (Array.mem_of_getElem? (i := 1) rfl) rfl _ rfl
      refine wpOp_valw (v := .bool false) (w' := w) rfl (wanted_yes 29 54 false hg (by rw [hs]; omega) rfl rfl rfl rfl) ?_ ⟨_, rfl, ?_, hS, fun _ _ _ h => h⟩
      · exact exec_pick rfl s58 (fun hb => by show a.tmps.getD 62 undef = _; rw [s62, hb]; show Value.bool (!ab) = _; rw [F2.out hb]; rfl) (fun _ => rfl)
      · rw [own_put rfl (by rw [hs]; omega)]; exact rfl
    · obtain rfl := Option.some.inj (show some _ = some o from ho)
      have s54 : a.tmps.getD 54 undef = .bool false := hdone _ (Array.mem_of_getElem? (i := 0) rfl) rfl _ rfl
      have s63 : a.tmps.getD 63 undef = .bool false := hdone _ (Array.mem_of_getElem? (i := 1) rfl) rfl _ rfl
      refine wpOp_val (v := .bool false) (w' := w) rfl rfl ?_ ⟨_, rfl, ?_, hS, fun _ _ _ h => h⟩
      · simp [execOp, Act.eval, s54, s63, go_sem]
      · rw [own_put rfl (by rw [hs]; omega)]; exact rfl
  case hq =>
    intro u9 w' hS hR9
    have f64 : u9 64 = .bool false := hR9 39 _ rfl
    clear hR9
    rw [show outs _ u9 = [(25, u9 25), (26, u9 26), (27, u9 27), (28, u9 28), (29, u9 29), (30, u9 30), (31, u9 31), (32, u9 32), (33, u9 33), (34, u9 34), (35, u9 35), (36, u9 36), (37, u9 37), (38, u9 38), (39, u9 39), (40, u9 40), (41, u9 41), (42, u9 42), (43, u9 43), (44, u9 44), (45, u9 45), (46, u9 46), (47, u9 47), (48, u9 48), (49, u9 49), (50, u9 50), (51, u9 51), (52, u9 52), (53, u9 53), (54, u9 54), (55, u9 55), (56, u9 56), (57, u9 57), (58, u9 58), (59, u9 59), (60, u9 60), (61, u9 61), (62, u9 62), (63, u9 63), (64, u9 64)] by kernel_rfl, f64]
    simp only [putAll, List.setIfInBounds_toArray, List.set_cons_zero, List.set_cons_succ]
    generalize u9 25 = x25
    generalize u9 26 = x26
    generalize u9 27 = x27
    generalize u9 28 = x28
    generalize u9 29 = x29
    generalize u9 30 = x30
    generalize u9 31 = x31
    generalize u9 32 = x32
    generalize u9 33 = x33
    generalize u9 34 = x34
    generalize u9 35 = x35
    generalize u9 36 = x36
    generalize u9 37 = x37
    generalize u9 38 = x38
    generalize u9 39 = x39
    generalize u9 40 = x40
    generalize u9 41 = x41
    generalize u9 42 = x42
    generalize u9 43 = x43
    generalize u9 44 = x44
    generalize u9 45 = x45
    generalize u9 46 = x46
    generalize u9 47 = x47
    generalize u9 48 = x48
    generalize u9 49 = x49
    generalize u9 50 = x50
    generalize u9 51 = x51
    generalize u9 52 = x52
    generalize u9 53 = x53
    generalize u9 54 = x54
    generalize u9 55 = x55
    generalize u9 56 = x56
    generalize u9 57 = x57
    generalize u9 58 = x58
    generalize u9 59 = x59
    generalize u9 60 = x60
    generalize u9 61 = x61
    generalize u9 62 = x62
    generalize u9 63 = x63
    clear f64 u9
    have B5 := Lib.hid (below_call BW.out hS)
    have X5 := Lib.hid (XA.out.below hS)
    clear hS LAA LAB LBA LBC LAC SAB HX HY HZ LAA0 LAB0 LBA0 LBC0 LAC0 SAB0 XA XB XC BW FEW F1 F2
    have CP := Lib.hid (fun w (h : Below w'.heap.size w' w) => copy_any x ca1 cc1 ta1 tc1 w (H1.out.below (below_call B5.out h)) hfew)
    go_wp2_with fail
    refine wp_region_invm (lst [[65], [66], [67], [66, 68], [9], [10], [9, 66], [10, 68]]) (fun w => Below w'.heap.size w' w) (TabM [fun u _ => u 65 = .agg #[.int .i8 x.kind, .int .u64 x.r0, .slice ca1 x.ctx.length cc1, .slice ta1 x.tr.length tc1, .int .i64 x.left], fun u w => ∃ B, B ≤ w.heap.size ∧ CpIn w'.heap.size B w x (u 66), fun u _ => u 67 = .agg #[.int .i8 x.kind, .int .u64 x.r0, .slice ca1 x.ctx.length cc1, .slice ta1 x.tr.length tc1, .int .i64 x.left], fun u w => ∃ B, CpIn w'.heap.size B w x (u 66) ∧ ∃ B2, CpIn B B2 w x (u 68), fun u w => ∃ p c, u 9 = .pointer (some ⟨p, 0, none⟩) ∧ w'.heap.size ≤ p ∧ w.heap[p]? = some (.cells c 76 (0, 0)) ∧ c.size = 5, fun u w => ∃ p c, u 10 = .pointer (some ⟨p, 0, none⟩) ∧ w'.heap.size ≤ p ∧ w.heap[p]? = some (.cells c 76 (0, 0)) ∧ c.size = 5, fun u w => ∃ p c, u 9 = .pointer (some ⟨p, 0, none⟩) ∧ u 66 = .agg c ∧ w.heap[p]? = some (.cells c 76 (0, 0)), fun u w => ∃ p c, u 10 = .pointer (some ⟨p, 0, none⟩) ∧ u 68 = .agg c ∧ w.heap[p]? = some (.cells c 76 (0, 0))]) (fun i j p q => (i = 4 ∧ j = 5 ∨ i = 5 ∧ j = 4) → p ≠ q) (by kernel_rfl) (back_of (by kernel_rfl)) (dst_of (by kernel_rfl)) (deps_of (by kernel_rfl)) (in_of (by kernel_rfl)) (Below.drew (Below.refl _ _)) ?hop ?hq
    case hop =>
      intro i o a w ho hS hdf hsz hrest hdone hpair
      have t4 : a.tmps.getD 4 undef = .pointer (some ⟨W.heap.size, 0, none⟩) := hrest 4 (not_of (by kernel_rfl))
      have hs : a.tmps.size = 141 := hsz.trans rfl
      have hi : i < 8 := (Array.getElem?_eq_some_iff.1 ho).1
      clear hrest hsz hdf
      obtain rfl | rfl | rfl | rfl | rfl | rfl | rfl | rfl : i = 0 ∨ i = 1 ∨ i = 2 ∨ i = 3 ∨ i = 4 ∨ i = 5 ∨ i = 6 ∨ i = 7 := by omega
      · obtain rfl := Option.some.inj (show some _ = some o from ho)
        refine wpOp_val (v := .agg #[.int .i8 x.kind, .int .u64 x.r0, .slice ca1 x.ctx.length cc1, .slice ta1 x.tr.length tc1, .int .i64 x.left]) (w' := w) rfl rfl ?_ ⟨_, rfl, (by show mskU _ (slots (a.put _ _)) 65 = _; show (a.put (some 65) _).tmps.getD 65 undef = _; rw [put_getD a 65 _ (by rw [hs]; omega)]; rfl), hS, fun _ _ h => h, (fun j oj hj hne h => ⟨fun hh => absurd hh (by omega), fun hh => absurd hh (by omega)⟩)⟩
        simp [execOp, Act.eval, t4, Instr.loadAt, Instr.sureAddr, load_out (X5.out.below hS).toBox5, Result.andThen_ok]
      · obtain rfl := Option.some.inj (show some _ = some o from ho)
        have s65 : a.tmps.getD 65 undef = .agg #[.int .i8 x.kind, .int .u64 x.r0, .slice ca1 x.ctx.length cc1, .slice ta1 x.tr.length tc1, .int .i64 x.left] := hdone _ (Array.mem_of_getElem? (i := 0) rfl) rfl _ rfl
        refine wpOp_call (f := 62) (args := #[.agg #[.int .i8 x.kind, .int .u64 x.r0, .slice ca1 x.ctx.length cc1, .slice ta1 x.tr.length tc1, .int .i64 x.left]]) rfl rfl ?_ ?_
        · simp [go_sem, execOp, Act.eval, Deferred.ofValue, callFunc, Try.func62, Try.f62, s65, resolve, invoke]
        · refine (CP.out w hS).mono ?_
          rintro e w9 ⟨cv, tv, ps, rfl, hm9, b9⟩
          have hcp := CpIn.of hm9
          generalize hvv : Value.agg #[.int .i8 x.kind, .int .u64 x.r0, cv, tv, .int .i64 x.left] = vv at hcp
          refine ⟨_, rfl, _, rfl, ?_, hS.trans (b9.mono hS.size), (by refine tabM_mono0 (us := fun j => mskU (lst [[65], [66], [67], [66, 68], [9], [10], [9, 66], [10, 68]] j) (slots a)) ?_ _; exact ⟨fun h => h, fun ⟨B, h1, h2⟩ => ⟨B, Nat.le_trans h1 b9.size, h2.below b9⟩, fun h => h, fun ⟨B, h1, B2, h2⟩ => ⟨B, h1.below b9, B2, h2.below b9⟩, fun ⟨p, c, h1, h2, h3, h4⟩ => ⟨p, c, h1, h2, (b9.block p (Array.getElem?_eq_some_iff.1 h3).1).trans h3, h4⟩, fun ⟨p, c, h1, h2, h3, h4⟩ => ⟨p, c, h1, h2, (b9.block p (Array.getElem?_eq_some_iff.1 h3).1).trans h3, h4⟩, fun ⟨p, c, h1, h2, h3⟩ => ⟨p, c, h1, h2, (b9.block p (Array.getElem?_eq_some_iff.1 h3).1).trans h3⟩, fun ⟨p, c, h1, h2, h3⟩ => ⟨p, c, h1, h2, (b9.block p (Array.getElem?_eq_some_iff.1 h3).1).trans h3⟩, trivial⟩), (fun j oj hj hne h => ⟨fun hh => absurd hh (by omega), fun hh => absurd hh (by omega)⟩)⟩
          have q66 : mskU [66] (slots (a.put (some 66) vv)) 66 = vv := by show (a.put (some 66) _).tmps.getD 66 undef = _; rw [put_getD a 66 _ (by rw [hs]; omega)]; rfl
          refine ⟨w9.heap.size, Nat.le_refl _, ?_⟩
          show CpIn w'.heap.size w9.heap.size w9 x (mskU [66] (slots (a.put (some 66) vv)) 66)
          rw [q66]
          obtain ⟨old, l, ca, cc, ta, tc, ps, h1, h2, h3⟩ := hcp
          exact ⟨old, l, ca, cc, ta, tc, ps, h1, Nat.le_trans hS.size h2, h3⟩
      · obtain rfl := Option.some.inj (show some _ = some o from ho)
        refine wpOp_val (v := .agg #[.int .i8 x.kind, .int .u64 x.r0, .slice ca1 x.ctx.length cc1, .slice ta1 x.tr.length tc1, .int .i64 x.left]) (w' := w) rfl rfl ?_ ⟨_, rfl, (by show mskU _ (slots (a.put _ _)) 67 = _; show (a.put (some 67) _).tmps.getD 67 undef = _; rw [put_getD a 67 _ (by rw [hs]; omega)]; rfl), hS, fun _ _ h => h, (fun j oj hj hne h => ⟨fun hh => absurd hh (by omega), fun hh => absurd hh (by omega)⟩)⟩
        simp [execOp, Act.eval, t4, Instr.loadAt, Instr.sureAddr, load_out (X5.out.below hS).toBox5, Result.andThen_ok]
      · obtain rfl := Option.some.inj (show some _ = some o from ho)
        have s67 : a.tmps.getD 67 undef = .agg #[.int .i8 x.kind, .int .u64 x.r0, .slice ca1 x.ctx.length cc1, .slice ta1 x.tr.length tc1, .int .i64 x.left] := hdone _ (Array.mem_of_getElem? (i := 0) rfl) rfl _ rfl
        obtain ⟨B, hB1, hB2⟩ : ∃ B, B ≤ w.heap.size ∧ CpIn w'.heap.size B w x (a.tmps.getD 66 undef) := hdone _ (Array.mem_of_getElem? (i := 1) rfl) rfl _ rfl
        refine wpOp_call (f := 62) (args := #[.agg #[.int .i8 x.kind, .int .u64 x.r0, .slice ca1 x.ctx.length cc1, .slice ta1 x.tr.length tc1, .int .i64 x.left]]) rfl rfl ?_ ?_
        · simp [go_sem, execOp, Act.eval, Deferred.ofValue, callFunc, Try.func62, Try.f62, s67, resolve, invoke]
        · refine (CP.out w hS).mono ?_
          rintro e w9 ⟨cv, tv, ps, rfl, hm9, b9⟩
          have hcp := CpIn.of hm9
          generalize hvv : Value.agg #[.int .i8 x.kind, .int .u64 x.r0, cv, tv, .int .i64 x.left] = vv at hcp
          refine ⟨_, rfl, _, rfl, ?_, hS.trans (b9.mono hS.size), (by refine tabM_mono0 (us := fun j => mskU (lst [[65], [66], [67], [66, 68], [9], [10], [9, 66], [10, 68]] j) (slots a)) ?_ _; exact ⟨fun h => h, fun ⟨B, h1, h2⟩ => ⟨B, Nat.le_trans h1 b9.size, h2.below b9⟩, fun h => h, fun ⟨B, h1, B2, h2⟩ => ⟨B, h1.below b9, B2, h2.below b9⟩, fun ⟨p, c, h1, h2, h3, h4⟩ => ⟨p, c, h1, h2, (b9.block p (Array.getElem?_eq_some_iff.1 h3).1).trans h3, h4⟩, fun ⟨p, c, h1, h2, h3, h4⟩ => ⟨p, c, h1, h2, (b9.block p (Array.getElem?_eq_some_iff.1 h3).1).trans h3, h4⟩, fun ⟨p, c, h1, h2, h3⟩ => ⟨p, c, h1, h2, (b9.block p (Array.getElem?_eq_some_iff.1 h3).1).trans h3⟩, fun ⟨p, c, h1, h2, h3⟩ => ⟨p, c, h1, h2, (b9.block p (Array.getElem?_eq_some_iff.1 h3).1).trans h3⟩, trivial⟩), (fun j oj hj hne h => ⟨fun hh => absurd hh (by omega), fun hh => absurd hh (by omega)⟩)⟩
          have q68 : mskU [66, 68] (slots (a.put (some 68) vv)) 68 = vv := by show (a.put (some 68) _).tmps.getD 68 undef = _; rw [put_getD a 68 _ (by rw [hs]; omega)]; rfl
          have q66 : mskU [66, 68] (slots (a.put (some 68) vv)) 66 = a.tmps.getD 66 undef := by show (a.put (some 68) _).tmps.getD 66 undef = _; rw [put_getD a 68 _ (by rw [hs]; omega)]; rfl
          refine ⟨B, ?_, w9.heap.size, ?_⟩
          · show CpIn w'.heap.size B w9 x (mskU [66, 68] (slots (a.put (some 68) vv)) 66)
            rw [q66]; exact hB2.below b9
          · show CpIn B w9.heap.size w9 x (mskU [66, 68] (slots (a.put (some 68) vv)) 68)
            rw [q68]
            obtain ⟨old, l, ca, cc, ta, tc, ps, h1, h2, h3⟩ := hcp
            exact ⟨old, l, ca, cc, ta, tc, ps, h1, Nat.le_trans hB1 h2, h3⟩
      · obtain rfl := Option.some.inj (show some _ = some o from ho)
        have ba := (below_new (Below.refl w.heap.size w) (.cells #[.int .i8 0, .int .u64 0, .slice none 0 0, .slice none 0 0, .int .i64 0] 76))
        refine wpOp_val (v := .pointer (some ⟨w.heap.size, 0, none⟩)) (w' := w.alloc (.cells #[.int .i8 0, .int .u64 0, .slice none 0 0, .slice none 0 0, .int .i64 0] 76)) rfl rfl ?_ ⟨_, rfl, ⟨w.heap.size, _, (by show mskU _ (slots (a.put _ _)) 9 = _; show (a.put (some 9) _).tmps.getD 9 undef = _; rw [put_getD a 9 _ (by rw [hs]; omega)]; rfl), hS.size, heap_last _ _ _ rfl, rfl⟩, hS.trans (ba.mono hS.size), (by refine tabM_mono0 (us := fun j => mskU (lst [[65], [66], [67], [66, 68], [9], [10], [9, 66], [10, 68]] j) (slots a)) ?_ _; exact ⟨fun h => h, fun ⟨B, h1, h2⟩ => ⟨B, Nat.le_trans h1 ba.size, h2.below ba⟩, fun h => h, fun ⟨B, h1, B2, h2⟩ => ⟨B, h1.below ba, B2, h2.below ba⟩, fun ⟨p, c, h1, h2, h3, h4⟩ => ⟨p, c, h1, h2, (ba.block p (Array.getElem?_eq_some_iff.1 h3).1).trans h3, h4⟩, fun ⟨p, c, h1, h2, h3, h4⟩ => ⟨p, c, h1, h2, (ba.block p (Array.getElem?_eq_some_iff.1 h3).1).trans h3, h4⟩, fun ⟨p, c, h1, h2, h3⟩ => ⟨p, c, h1, h2, (ba.block p (Array.getElem?_eq_some_iff.1 h3).1).trans h3⟩, fun ⟨p, c, h1, h2, h3⟩ => ⟨p, c, h1, h2, (ba.block p (Array.getElem?_eq_some_iff.1 h3).1).trans h3⟩, trivial⟩), ?_⟩
        · simp [execOp, Instr.alloc, (zero_of_info zero_out).1, newVar, newRow, Value.cells]
        · intro j oj hj hne h
          rw [own_put rfl (by rw [hs]; omega)]
          have key : j = 5 → own oj a ≠ .pointer (some ⟨w.heap.size, 0, none⟩) := by
            rintro rfl heq
            obtain rfl := Option.some.inj (show some _ = some oj from hj)
            obtain ⟨p, c, h1, h2, h3, h4⟩ := h
            have h5 : a.tmps.getD 10 undef = .pointer (some ⟨p, 0, none⟩) := h1
            have h6 : a.tmps.getD 10 undef = .pointer (some ⟨w.heap.size, 0, none⟩) := heq
            rw [h5] at h6
            injection h6 with h6; injection h6 with h6; injection h6 with h6
            have := (Array.getElem?_eq_some_iff.1 h3).1
            omega
          exact ⟨fun hh heq => key (by omega) heq.symm, fun hh heq => key (by omega) heq⟩
      · obtain rfl := Option.some.inj (show some _ = some o from ho)
        have ba := (below_new (Below.refl w.heap.size w) (.cells #[.int .i8 0, .int .u64 0, .slice none 0 0, .slice none 0 0, .int .i64 0] 76))
        refine wpOp_val (v := .pointer (some ⟨w.heap.size, 0, none⟩)) (w' := w.alloc (.cells #[.int .i8 0, .int .u64 0, .slice none 0 0, .slice none 0 0, .int .i64 0] 76)) rfl rfl ?_ ⟨_, rfl, ⟨w.heap.size, _, (by show mskU _ (slots (a.put _ _)) 10 = _; show (a.put (some 10) _).tmps.getD 10 undef = _; rw [put_getD a 10 _ (by rw [hs]; omega)]; rfl), hS.size, heap_last _ _ _ rfl, rfl⟩, hS.trans (ba.mono hS.size), (by refine tabM_mono0 (us := fun j => mskU (lst [[65], [66], [67], [66, 68], [9], [10], [9, 66], [10, 68]] j) (slots a)) ?_ _; exact ⟨fun h => h, fun ⟨B, h1, h2⟩ => ⟨B, Nat.le_trans h1 ba.size, h2.below ba⟩, fun h => h, fun ⟨B, h1, B2, h2⟩ => ⟨B, h1.below ba, B2, h2.below ba⟩, fun ⟨p, c, h1, h2, h3, h4⟩ => ⟨p, c, h1, h2, (ba.block p (Array.getElem?_eq_some_iff.1 h3).1).trans h3, h4⟩, fun ⟨p, c, h1, h2, h3, h4⟩ => ⟨p, c, h1, h2, (ba.block p (Array.getElem?_eq_some_iff.1 h3).1).trans h3, h4⟩, fun ⟨p, c, h1, h2, h3⟩ => ⟨p, c, h1, h2, (ba.block p (Array.getElem?_eq_some_iff.1 h3).1).trans h3⟩, fun ⟨p, c, h1, h2, h3⟩ => ⟨p, c, h1, h2, (ba.block p (Array.getElem?_eq_some_iff.1 h3).1).trans h3⟩, trivial⟩), ?_⟩
        · simp [execOp, Instr.alloc, (zero_of_info zero_out).1, newVar, newRow, Value.cells]
        · intro j oj hj hne h
          rw [own_put rfl (by rw [hs]; omega)]
          have key : j = 4 → own oj a ≠ .pointer (some ⟨w.heap.size, 0, none⟩) := by
            rintro rfl heq
            obtain rfl := Option.some.inj (show some _ = some oj from hj)
            obtain ⟨p, c, h1, h2, h3, h4⟩ := h
            have h5 : a.tmps.getD 9 undef = .pointer (some ⟨p, 0, none⟩) := h1
            have h6 : a.tmps.getD 9 undef = .pointer (some ⟨w.heap.size, 0, none⟩) := heq
            rw [h5] at h6
            injection h6 with h6; injection h6 with h6; injection h6 with h6
            have := (Array.getElem?_eq_some_iff.1 h3).1
            omega
          exact ⟨fun hh heq => key (by omega) heq.symm, fun hh heq => key (by omega) heq⟩
      · obtain rfl := Option.some.inj (show some _ = some o from ho)
        obtain ⟨p, c, hp, hp0, hc, hc5⟩ : ∃ p c, a.tmps.getD 9 undef = .pointer (some ⟨p, 0, none⟩) ∧ w'.heap.size ≤ p ∧ w.heap[p]? = some (.cells c 76 (0, 0)) ∧ c.size = 5 := hdone _ (Array.mem_of_getElem? (i := 0) rfl) rfl _ rfl
        obtain ⟨B, hB1, B2, hB2⟩ : ∃ B, CpIn w'.heap.size B w x (a.tmps.getD 66 undef) ∧ ∃ B2, CpIn B B2 w x (a.tmps.getD 68 undef) := hdone _ (Array.mem_of_getElem? (i := 2) rfl) rfl _ rfl
        obtain ⟨cs, hcs, hcp⟩ : ∃ cs, a.tmps.getD 66 undef = .agg cs ∧ ∃ lo hi, CpIn lo hi w x (.agg cs) := by
          have h := hB1
          obtain ⟨old, l, ca, cc, ta, tc, ps, h1, h2⟩ := h
          exact ⟨_, h1, _, _, old, l, ca, cc, ta, tc, ps, rfl, h2⟩
        obtain ⟨lo9, hi9, hcp9⟩ := hcp
        have hfs : c.size = cs.size := by rw [hc5, (agg_size hcp9).1]
        have hst : (storeVar 76 ⟨p, 0, none⟩ (.agg cs)).run Try.prog w = .ok () (w.setRow p cs) := run_storeVar_row w p _ _ c cs hc (info_out.trans (by rw [(agg_size hcp9).1])) hfs (agg_size hcp9).2
        have s9 := stored_setRow w p cs c _ hc
        have gr := stored_grown s9
        obtain ⟨p1, c1, hp1, hp10, hc1, hc15⟩ : ∃ p c, a.tmps.getD 10 undef = .pointer (some ⟨p, 0, none⟩) ∧ w'.heap.size ≤ p ∧ w.heap[p]? = some (.cells c 76 (0, 0)) ∧ c.size = 5 := hdone _ (Array.mem_of_getElem? (i := 8) rfl) rfl _ rfl
        have hne : p1 ≠ p := by
          have h := hpair _ (Array.mem_of_getElem? (i := 8) rfl) rfl _ (Array.mem_of_getElem? (i := 0) rfl) rfl (by decide) _ _ rfl rfl (by simp)
          intro e
          apply h
          show a.tmps.getD 10 undef = a.tmps.getD 9 undef
          rw [hp1, hp, e]
        refine wpOp_skp (w' := w.setRow p cs) rfl rfl ?_ ⟨undef, rfl, ⟨p, cs, hp, hcs, s9.row⟩, s9.below hS hp0, ?_, (fun j oj hj hne h => ⟨fun hh => absurd hh (by omega), fun hh => absurd hh (by omega)⟩)⟩
        · simp [execOp, Act.eval, hp, hcs, Instr.storeAt, Instr.sureAddr, hst, Sem.run_pure, Result.andThen_ok]
        · intro j hne9 h
          have hj : j < 8 ∨ 8 ≤ j := by omega
          rcases hj with hj | hj
          · obtain rfl | rfl | rfl | rfl | rfl | rfl | rfl | rfl : j = 0 ∨ j = 1 ∨ j = 2 ∨ j = 3 ∨ j = 4 ∨ j = 5 ∨ j = 6 ∨ j = 7 := by omega
            · exact h
            · obtain ⟨B, h1, h2⟩ := h
              exact ⟨B, by rw [s9.size]; exact h1, h2.other hc gr⟩
            · exact h
            · obtain ⟨B, h1, B2, h2⟩ := h
              exact ⟨B, h1.other hc gr, B2, h2.other hc gr⟩
            · exact (fun ⟨p', c', h1, h2, h3, h4⟩ => by
              have e1 : a.tmps.getD 9 undef = .pointer (some ⟨p', 0, none⟩) := h1
              rw [hp] at e1
              injection e1 with e1; injection e1 with e1; injection e1 with e1
              subst e1
              exact ⟨p, cs, h1, h2, s9.row, (agg_size hcp9).1⟩) h
            · exact (fun ⟨p', c', h1, h2, h3, h4⟩ => by
              by_cases e : p' = p
              · subst e; exact ⟨p', cs, h1, h2, s9.row, (agg_size hcp9).1⟩
              · exact ⟨p', c', h1, h2, (s9.other p' e).trans h3, h4⟩) h
            · exact absurd rfl hne9
            · exact (fun ⟨p', c', h1, h2, h3⟩ => by
              have e1 : a.tmps.getD 10 undef = .pointer (some ⟨p', 0, none⟩) := h1
              rw [hp1] at e1
              injection e1 with e1; injection e1 with e1; injection e1 with e1
              subst e1
              exact ⟨p1, c', h1, h2, (s9.other p1 hne).trans h3⟩) h
          · unfold TabM
            rw [List.getElem?_eq_none (by simp only [List.length_cons, List.length_nil]; omega)]; trivial
      · obtain rfl := Option.some.inj (show some _ = some o from ho)
        obtain ⟨p, c, hp, hp0, hc, hc5⟩ : ∃ p c, a.tmps.getD 10 undef = .pointer (some ⟨p, 0, none⟩) ∧ w'.heap.size ≤ p ∧ w.heap[p]? = some (.cells c 76 (0, 0)) ∧ c.size = 5 := hdone _ (Array.mem_of_getElem? (i := 0) rfl) rfl _ rfl
        obtain ⟨B, hB1, B2, hB2⟩ : ∃ B, CpIn w'.heap.size B w x (a.tmps.getD 66 undef) ∧ ∃ B2, CpIn B B2 w x (a.tmps.getD 68 undef) := hdone _ (Array.mem_of_getElem? (i := 1) rfl) rfl _ rfl
        obtain ⟨cs, hcs, hcp⟩ : ∃ cs, a.tmps.getD 68 undef = .agg cs ∧ ∃ lo hi, CpIn lo hi w x (.agg cs) := by
          have h := hB2
          obtain ⟨old, l, ca, cc, ta, tc, ps, h1, h2⟩ := h
          exact ⟨_, h1, _, _, old, l, ca, cc, ta, tc, ps, rfl, h2⟩
        obtain ⟨lo9, hi9, hcp9⟩ := hcp
        have hfs : c.size = cs.size := by rw [hc5, (agg_size hcp9).1]
        have hst : (storeVar 76 ⟨p, 0, none⟩ (.agg cs)).run Try.prog w = .ok () (w.setRow p cs) := run_storeVar_row w p _ _ c cs hc (info_out.trans (by rw [(agg_size hcp9).1])) hfs (agg_size hcp9).2
        have s9 := stored_setRow w p cs c _ hc
        have gr := stored_grown s9
        obtain ⟨p1, c1, hp1, hp10, hc1, hc15⟩ : ∃ p c, a.tmps.getD 9 undef = .pointer (some ⟨p, 0, none⟩) ∧ w'.heap.size ≤ p ∧ w.heap[p]? = some (.cells c 76 (0, 0)) ∧ c.size = 5 := hdone _ (Array.mem_of_getElem? (i := 7) rfl) rfl _ rfl
        have hne : p1 ≠ p := by
          have h := hpair _ (Array.mem_of_getElem? (i := 7) rfl) rfl _ (Array.mem_of_getElem? (i := 0) rfl) rfl (by decide) _ _ rfl rfl (by simp)
          intro e
          apply h
          show a.tmps.getD 9 undef = a.tmps.getD 10 undef
          rw [hp1, hp, e]
        refine wpOp_skp (w' := w.setRow p cs) rfl rfl ?_ ⟨undef, rfl, ⟨p, cs, hp, hcs, s9.row⟩, s9.below hS hp0, ?_, (fun j oj hj hne h => ⟨fun hh => absurd hh (by omega), fun hh => absurd hh (by omega)⟩)⟩
        · simp [execOp, Act.eval, hp, hcs, Instr.storeAt, Instr.sureAddr, hst, Sem.run_pure, Result.andThen_ok]
        · intro j hne9 h
          have hj : j < 8 ∨ 8 ≤ j := by omega
          rcases hj with hj | hj
          · obtain rfl | rfl | rfl | rfl | rfl | rfl | rfl | rfl : j = 0 ∨ j = 1 ∨ j = 2 ∨ j = 3 ∨ j = 4 ∨ j = 5 ∨ j = 6 ∨ j = 7 := by omega
            · exact h
            · obtain ⟨B, h1, h2⟩ := h
              exact ⟨B, by rw [s9.size]; exact h1, h2.other hc gr⟩
            · exact h
            · obtain ⟨B, h1, B2, h2⟩ := h
              exact ⟨B, h1.other hc gr, B2, h2.other hc gr⟩
            · exact (fun ⟨p', c', h1, h2, h3, h4⟩ => by
              by_cases e : p' = p
              · subst e; exact ⟨p', cs, h1, h2, s9.row, (agg_size hcp9).1⟩
              · exact ⟨p', c', h1, h2, (s9.other p' e).trans h3, h4⟩) h
            · exact (fun ⟨p', c', h1, h2, h3, h4⟩ => by
              have e1 : a.tmps.getD 10 undef = .pointer (some ⟨p', 0, none⟩) := h1
              rw [hp] at e1
              injection e1 with e1; injection e1 with e1; injection e1 with e1
              subst e1
              exact ⟨p, cs, h1, h2, s9.row, (agg_size hcp9).1⟩) h
            · exact (fun ⟨p', c', h1, h2, h3⟩ => by
              have e1 : a.tmps.getD 9 undef = .pointer (some ⟨p', 0, none⟩) := h1
              rw [hp1] at e1
              injection e1 with e1; injection e1 with e1; injection e1 with e1
              subst e1
              exact ⟨p1, c', h1, h2, (s9.other p1 hne).trans h3⟩) h
            · exact absurd rfl hne9
          · unfold TabM
            rw [List.getElem?_eq_none (by simp only [List.length_cons, List.length_nil]; omega)]; trivial
    case hq =>
      intro u9 w8 hS hR9 hP9
      obtain ⟨B, hc1, B2, hc2⟩ : ∃ B, CpIn w'.heap.size B w8 x (u9 66) ∧ ∃ B2, CpIn B B2 w8 x (u9 68) := hR9 3 _ rfl
      obtain ⟨P, cP, f9, hP0, hP1, hP2⟩ : ∃ p c, u9 9 = .pointer (some ⟨p, 0, none⟩) ∧ w'.heap.size ≤ p ∧ w8.heap[p]? = some (.cells c 76 (0, 0)) ∧ c.size = 5 := hR9 4 _ rfl
      obtain ⟨Q, cQ, f10, hQ0, hQ1, hQ2⟩ : ∃ p c, u9 10 = .pointer (some ⟨p, 0, none⟩) ∧ w'.heap.size ≤ p ∧ w8.heap[p]? = some (.cells c 76 (0, 0)) ∧ c.size = 5 := hR9 5 _ rfl
      obtain ⟨P', c1, f9', f66, hPP⟩ : ∃ p c, u9 9 = .pointer (some ⟨p, 0, none⟩) ∧ u9 66 = .agg c ∧ w8.heap[p]? = some (.cells c 76 (0, 0)) := hR9 6 _ rfl
      obtain ⟨Q', c2, f10', f68, hQQ⟩ : ∃ p c, u9 10 = .pointer (some ⟨p, 0, none⟩) ∧ u9 68 = .agg c ∧ w8.heap[p]? = some (.cells c 76 (0, 0)) := hR9 7 _ rfl
      have hPQ : P ≠ Q := fun e => hP9 4 5 _ _ rfl rfl (by decide) (.inl ⟨rfl, rfl⟩) (by show u9 9 = u9 10; rw [f9, f10, e])
      rw [f9] at f9'
      injection f9' with f9'; injection f9' with f9'; injection f9' with f9'
      rw [f10] at f10'
      injection f10' with f10'; injection f10' with f10'; injection f10' with f10'
      subst f9' f10'
      rw [f66] at hc1
      rw [f68] at hc2
      clear hP1 hP2 hQ1 hQ2 hR9 hP9
      rw [show outs _ u9 = [(65, u9 65), (66, u9 66), (67, u9 67), (68, u9 68), (9, u9 9), (10, u9 10)] by kernel_rfl, f9, f10]
      simp only [putAll, List.setIfInBounds_toArray, List.set_cons_zero, List.set_cons_succ]
      generalize u9 65 = x65; generalize u9 66 = x66; generalize u9 67 = x67; generalize u9 68 = x68
      obtain ⟨l, ca5, cc5, ta5, tc5, ca6, cc6, ta6, tc6, ar, hal, LK0⟩ := Lk.start hc1 hc2 (by have := lt_of_cell X5.out.c0; omega) (below_call B5.out hS) (X5.out.below hS) hPP hQQ
      have LK := Lib.hid LK0
      obtain ⟨p2, p3⟩ := LK0.pcell
      have hm1000 := hfew.2.1
      have hn100 : ar.length ≤ 100 := by rw [hal]; exact hfew.1
      have S9 := Lib.hid (fun w b => same_any x x ca1 ta1 ca6 ta6 cc1 tc1 cc6 tc6 w (H1.out.below (w := w) b))
      rw [sameB_iff.2 rfl] at S9
      clear hc1 hc2 hPP hQQ hP0 hQ0 hS f66 f68 hPQ LK0 B5 X5 hfew CP H1
      go_wp2_with fail
      go_loopw [72] (fun i wr => ∃ k : Nat, k ≤ x.ctx.length ∧ i = .int .i64 k ∧ Hid (Lk W x ca1 cc1 ta1 tc1 l B P Q (.slice ca5 x.ctx.length cc5) (.slice ta5 ar.length tc5) (.slice ca6 x.ctx.length cc6) (.slice ta6 x.tr.length tc6) ar wr)) (fun i _ => x.ctx.length - (intOf i).toNat)
      case atStart => exact ⟨0, by omega, rfl, LK⟩
      case round =>
        obtain ⟨k, hk, rfl, hR⟩ := hrel
        clear LK p2 p3
        obtain ⟨p2, p3⟩ := hR.out.pcell
        by_cases hlt : k < x.ctx.length
        · obtain ⟨zs, h1⟩ := hR.out.shp.ctx
          obtain ⟨b, rfl⟩ := own_some h1 (by omega)
          clear h1
          go_wp2_with fail
          refine wp_region_inv (fun _ => 100000) (fun w => Lk W x ca1 cc1 ta1 tc1 l B P Q (.slice (some ⟨b, 0, none⟩) x.ctx.length cc5) (.slice ta5 ar.length tc5) (.slice ca6 x.ctx.length cc6) (.slice ta6 x.tr.length tc6) ar w) (TabV [fun v => v = .pointer (some ⟨P, 2, none⟩), fun v => v = .slice (some ⟨b, 0, none⟩) x.ctx.length cc5, fun v => v = .int .i64 k, fun v => v = .pointer (some ⟨P, 2, none⟩), fun v => v = .slice (some ⟨b, 0, none⟩) x.ctx.length cc5, fun v => v = .int .i64 k, fun v => v = .pointer (some ⟨b, k, none⟩), fun v => ∃ z, v = .int .u8 z, fun v => v = .int .u8 by_, fun v => ∃ z, v = .int .u8 z, fun v => v = .pointer (some ⟨b, k, none⟩), fun _ => True]) (by kernel_rfl) (back_of (by kernel_rfl)) (dst_of (by kernel_rfl)) (dep_of (by kernel_rfl)) (in_of (by kernel_rfl)) hR.out.drew ?hop ?hq
          case hop =>
            intro i o a w ho hS hdf hsz hrest hdone
            have t3 : a.tmps.getD 3 undef = .int .u8 by_ := hrest 3 (not_of (by kernel_rfl))
            have t9 : a.tmps.getD 9 undef = .pointer (some ⟨P, 0, none⟩) := hrest 9 (not_of (by kernel_rfl))
            have t11 : a.tmps.getD 11 undef = .int .i64 k := hrest 11 (not_of (by kernel_rfl))
            have hs : a.tmps.size = 141 := hsz.trans rfl
            have hi : i < 12 := (Array.getElem?_eq_some_iff.1 ho).1
            clear hrest hsz hdf
            obtain rfl | rfl | rfl | rfl | rfl | rfl | rfl | rfl | rfl | rfl | rfl | rfl : i = 0 ∨ i = 1 ∨ i = 2 ∨ i = 3 ∨ i = 4 ∨ i = 5 ∨ i = 6 ∨ i = 7 ∨ i = 8 ∨ i = 9 ∨ i = 10 ∨ i = 11 := by omega
            · obtain rfl := Option.some.inj (show some _ = some o from ho)
              refine wpOp_val (v := .pointer (some ⟨P, 2, none⟩)) (w' := w) rfl rfl ?_ ⟨_, rfl, ?_, hS, fun _ _ _ h => h⟩
              · simp [execOp, Act.eval, t9, go_sem]
              · rw [own_put rfl (by rw [hs]; omega)]; exact rfl
            · obtain rfl := Option.some.inj (show some _ = some o from ho)
              have s75 : a.tmps.getD 75 undef = .pointer (some ⟨P, 2, none⟩) := hdone _ (Array.mem_of_getElem? (i := 0) rfl) rfl _ rfl
              refine wpOp_val (v := .slice (some ⟨b, 0, none⟩) x.ctx.length cc5) (w' := w) rfl rfl ?_ ⟨_, rfl, ?_, hS, fun _ _ _ h => h⟩
              · (have hc := hS.pcell.1; simp [execOp, Act.eval, s75, hc, go_sem])
              · rw [own_put rfl (by rw [hs]; omega)]; exact rfl
            · obtain rfl := Option.some.inj (show some _ = some o from ho)
              refine wpOp_val (v := .int .i64 k) (w' := w) rfl rfl ?_ ⟨_, rfl, ?_, hS, fun _ _ _ h => h⟩
              · simp [execOp, Act.eval, t11]
              · rw [own_put rfl (by rw [hs]; omega)]; exact rfl
            · obtain rfl := Option.some.inj (show some _ = some o from ho)
              refine wpOp_val (v := .pointer (some ⟨P, 2, none⟩)) (w' := w) rfl rfl ?_ ⟨_, rfl, ?_, hS, fun _ _ _ h => h⟩
              · simp [execOp, Act.eval, t9, go_sem]
              · rw [own_put rfl (by rw [hs]; omega)]; exact rfl
            · obtain rfl := Option.some.inj (show some _ = some o from ho)
              have s78 : a.tmps.getD 78 undef = .pointer (some ⟨P, 2, none⟩) := hdone _ (Array.mem_of_getElem? (i := 0) rfl) rfl _ rfl
              refine wpOp_val (v := .slice (some ⟨b, 0, none⟩) x.ctx.length cc5) (w' := w) rfl rfl ?_ ⟨_, rfl, ?_, hS, fun _ _ _ h => h⟩
              · (have hc := hS.pcell.1; simp [execOp, Act.eval, s78, hc, go_sem])
              · rw [own_put rfl (by rw [hs]; omega)]; exact rfl
            · obtain rfl := Option.some.inj (show some _ = some o from ho)
              refine wpOp_val (v := .int .i64 k) (w' := w) rfl rfl ?_ ⟨_, rfl, ?_, hS, fun _ _ _ h => h⟩
              · simp [execOp, Act.eval, t11]
              · rw [own_put rfl (by rw [hs]; omega)]; exact rfl
            · obtain rfl := Option.some.inj (show some _ = some o from ho)
              have s79 : a.tmps.getD 79 undef = .slice (some ⟨b, 0, none⟩) x.ctx.length cc5 := hdone _ (Array.mem_of_getElem? (i := 0) rfl) rfl _ rfl
              have s80 : a.tmps.getD 80 undef = .int .i64 k := hdone _ (Array.mem_of_getElem? (i := 1) rfl) rfl _ rfl
              refine wpOp_val (v := .pointer (some ⟨b, k, none⟩)) (w' := w) rfl rfl ?_ ⟨_, rfl, ?_, hS, fun _ _ _ h => h⟩
              · (simp [execOp, Act.eval, s79, s80, go_sem]; try exact fun h => absurd h (by omega))
              · rw [own_put rfl (by rw [hs]; omega)]; exact rfl
            · obtain rfl := Option.some.inj (show some _ = some o from ho)
              have s81 : a.tmps.getD 81 undef = .pointer (some ⟨b, k, none⟩) := hdone _ (Array.mem_of_getElem? (i := 0) rfl) rfl _ rfl
              obtain ⟨⟨z9, hz9⟩, hr9⟩ := hS.ctx1 hlt
              refine wpOp_val (v := .int .u8 z9) (w' := w) rfl rfl ?_ ⟨_, rfl, ?_, hS, fun _ _ _ h => h⟩
              · simp [execOp, Act.eval, s81, hz9, go_sem]
              · rw [own_put rfl (by rw [hs]; omega)]; exact ⟨z9, rfl⟩
            · obtain rfl := Option.some.inj (show some _ = some o from ho)
              refine wpOp_val (v := .int .u8 by_) (w' := w) rfl rfl ?_ ⟨_, rfl, ?_, hS, fun _ _ _ h => h⟩
              · simp [execOp, Act.eval, t3]
              · rw [own_put rfl (by rw [hs]; omega)]; exact rfl
            · obtain rfl := Option.some.inj (show some _ = some o from ho)
              have r82 := hdone _ (Array.mem_of_getElem? (i := 0) rfl) rfl _ rfl
              have s83 : a.tmps.getD 83 undef = .int .u8 by_ := hdone _ (Array.mem_of_getElem? (i := 1) rfl) rfl _ rfl
              obtain ⟨z9, hz9⟩ : ∃ z, a.tmps.getD 82 undef = .int .u8 z := r82
              refine wpOp_valE (k := .u8) rfl rfl ⟨_, by simp [execOp, Act.eval, hz9, s83, go_sem]; rfl⟩ (fun z7 => ⟨_, rfl, ?_, hS, fun _ _ _ h => h⟩)
              rw [own_put rfl (by rw [hs]; omega)]; exact ⟨z7, rfl⟩
            · obtain rfl := Option.some.inj (show some _ = some o from ho)
              have s76 : a.tmps.getD 76 undef = .slice (some ⟨b, 0, none⟩) x.ctx.length cc5 := hdone _ (Array.mem_of_getElem? (i := 0) rfl) rfl _ rfl
              have s77 : a.tmps.getD 77 undef = .int .i64 k := hdone _ (Array.mem_of_getElem? (i := 1) rfl) rfl _ rfl
              refine wpOp_val (v := .pointer (some ⟨b, k, none⟩)) (w' := w) rfl rfl ?_ ⟨_, rfl, ?_, hS, fun _ _ _ h => h⟩
              · (simp [execOp, Act.eval, s76, s77, go_sem]; try exact fun h => absurd h (by omega))
              · rw [own_put rfl (by rw [hs]; omega)]; exact rfl
            · obtain rfl := Option.some.inj (show some _ = some o from ho)
              have s85 : a.tmps.getD 85 undef = .pointer (some ⟨b, k, none⟩) := hdone _ (Array.mem_of_getElem? (i := 0) rfl) rfl _ rfl
              have r84 := hdone _ (Array.mem_of_getElem? (i := 1) rfl) rfl _ rfl
              obtain ⟨z9, hz9⟩ : ∃ z, a.tmps.getD 84 undef = .int .u8 z := r84
              obtain ⟨⟨z8, hz8⟩, hr9⟩ := hS.ctx1 hlt
              have hI := hr9.2
              have hf9 := hr9.1
              refine wpOp_skp (w' := w.setCell ⟨b, k, none⟩ (.int .u8 z9)) rfl rfl (exec_store1 5 _ _ rfl _ _ (.int .u8 z9) ?_ ?_ rfl rfl (by kernel_rfl) (by rw [hz8]; rfl) hf9) ⟨undef, rfl, trivial, hI z9, fun _ _ _ h => h⟩
              · simp [Act.eval, s85]
              · simp [Act.eval, hz9]
          case hq =>
            intro u9 w' hS hR9
            clear hR9
            rw [show outs _ u9 = [(75, u9 75), (76, u9 76), (77, u9 77), (78, u9 78), (79, u9 79), (80, u9 80), (81, u9 81), (82, u9 82), (83, u9 83), (84, u9 84), (85, u9 85)] by kernel_rfl]
            simp only [putAll, List.setIfInBounds_toArray, List.set_cons_zero, List.set_cons_succ]
            generalize u9 75 = x75
            generalize u9 76 = x76
            generalize u9 77 = x77
            generalize u9 78 = x78
            generalize u9 79 = x79
            generalize u9 80 = x80
            generalize u9 81 = x81
            generalize u9 82 = x82
            generalize u9 83 = x83
            generalize u9 84 = x84
            generalize u9 85 = x85
            clear u9
            have LK := Lib.hid hS; clear hS hR
            go_wp2_with fail
            go_roundw
            case rel => exact ⟨k + 1, by omega, by go_num, LK⟩
            case measure => simp [intOf]; omega
        · obtain rfl : k = x.ctx.length := by omega
          go_wp2_with fail
          go_loopw [90] (fun i wr => ∃ k : Nat, k ≤ ar.length ∧ i = .int .i64 k ∧ Hid (Lk W x ca1 cc1 ta1 tc1 l B P Q (.slice ca5 x.ctx.length cc5) (.slice ta5 ar.length tc5) (.slice ca6 x.ctx.length cc6) (.slice ta6 x.tr.length tc6) ar wr)) (fun i _ => ar.length - (intOf i).toNat)
          case atStart => exact ⟨0, by omega, rfl, hR⟩
          case round =>
            obtain ⟨k, hk, rfl, hR2⟩ := hrel
            clear hR p2 p3
            obtain ⟨p2, p3⟩ := hR2.out.pcell
            by_cases hlt : k < ar.length
            · obtain ⟨ps, h1, _⟩ := hR2.out.shp.row
              obtain ⟨g, rfl⟩ := own_some h1 (by omega)
              clear h1
              obtain ⟨q, hq⟩ : ∃ q, ar[k]? = some q := ⟨_, List.getElem?_eq_getElem hlt⟩
              obtain ⟨qa, qn, qc⟩ := q
              obtain ⟨hqm, hqs⟩ := hR2.out.argSome hq
              simp only at hqm hqs
              have hqm2 : qn ≤ 9223372036854775807 := by unfold maxLen at hqm; omega
              have HQ := Lib.hid hq
              have HS9 := Lib.hid hqs
              obtain ⟨_, n1, _, _⟩ := hR2.out.num1 hq
              clear hq hqs hqm
              go_wp2_with fail
              go_loopw [100] (fun i wr => ∃ j : Nat, j ≤ qn ∧ i = .int .i64 j ∧ Hid (Lk W x ca1 cc1 ta1 tc1 l B P Q (.slice ca5 x.ctx.length cc5) (.slice (some ⟨g, 0, none⟩) ar.length tc5) (.slice ca6 x.ctx.length cc6) (.slice ta6 x.tr.length tc6) ar wr)) (fun i _ => qn - (intOf i).toNat)
              case atStart => exact ⟨0, by omega, rfl, hR2⟩
              case round =>
                obtain ⟨j, hj, rfl, hR3⟩ := hrel
                clear hR2 p2 p3 n1
                obtain ⟨p2, p3⟩ := hR3.out.pcell
                obtain ⟨_, n1, _, _⟩ := hR3.out.num1 HQ.out
                by_cases hjl : j < qn
                · obtain ⟨b, rfl⟩ := HS9.out (by omega)
                  go_wp2_with fail
                  refine wp_region_inv (fun _ => 100000) (fun w => Lk W x ca1 cc1 ta1 tc1 l B P Q (.slice ca5 x.ctx.length cc5) (.slice (some ⟨g, 0, none⟩) ar.length tc5) (.slice ca6 x.ctx.length cc6) (.slice ta6 x.tr.length tc6) ar w) (TabV [fun v => v = .pointer (some ⟨P, 3, none⟩), fun v => v = .slice (some ⟨g, 0, none⟩) ar.length tc5, fun v => v = .int .i64 k, fun v => v = .pointer (some ⟨g, k * 3, none⟩), fun v => v = .pointer (some ⟨g, k * 3 + 1, none⟩), fun v => v = .slice (some ⟨b, 0, none⟩) qn qc, fun v => v = .int .i64 j, fun v => v = .pointer (some ⟨P, 3, none⟩), fun v => v = .slice (some ⟨g, 0, none⟩) ar.length tc5, fun v => v = .int .i64 k, fun v => v = .pointer (some ⟨g, k * 3, none⟩), fun v => v = .pointer (some ⟨g, k * 3 + 1, none⟩), fun v => v = .slice (some ⟨b, 0, none⟩) qn qc, fun v => v = .int .i64 j, fun v => v = .pointer (some ⟨b, j, none⟩), fun v => ∃ z, v = .int .u64 z, fun v => ∃ z, v = .int .u64 z, fun v => v = .pointer (some ⟨b, j, none⟩), fun _ => True]) (by kernel_rfl) (back_of (by kernel_rfl)) (dst_of (by kernel_rfl)) (dep_of (by kernel_rfl)) (in_of (by kernel_rfl)) hR3.out.drew ?hop ?hq
                  case hop =>
                    intro i o a w ho hS hdf hsz hrest hdone
                    have t9 : a.tmps.getD 9 undef = .pointer (some ⟨P, 0, none⟩) := hrest 9 (not_of (by kernel_rfl))
                    have t12 : a.tmps.getD 12 undef = .int .i64 k := hrest 12 (not_of (by kernel_rfl))
                    have t13 : a.tmps.getD 13 undef = .int .i64 j := hrest 13 (not_of (by kernel_rfl))
                    have hs : a.tmps.size = 141 := hsz.trans rfl
                    have hi : i < 19 := (Array.getElem?_eq_some_iff.1 ho).1
                    clear hrest hsz hdf
                    obtain rfl | rfl | rfl | rfl | rfl | rfl | rfl | rfl | rfl | rfl | rfl | rfl | rfl | rfl | rfl | rfl | rfl | rfl | rfl : i = 0 ∨ i = 1 ∨ i = 2 ∨ i = 3 ∨ i = 4 ∨ i = 5 ∨ i = 6 ∨ i = 7 ∨ i = 8 ∨ i = 9 ∨ i = 10 ∨ i = 11 ∨ i = 12 ∨ i = 13 ∨ i = 14 ∨ i = 15 ∨ i = 16 ∨ i = 17 ∨ i = 18 := by omega
                    · obtain rfl := Option.some.inj (show some _ = some o from ho)
                      refine wpOp_val (v := .pointer (some ⟨P, 3, none⟩)) (w' := w) rfl rfl ?_ ⟨_, rfl, ?_, hS, fun _ _ _ h => h⟩
                      · simp [execOp, Act.eval, t9, go_sem]
                      · rw [own_put rfl (by rw [hs]; omega)]; exact rfl
                    · obtain rfl := Option.some.inj (show some _ = some o from ho)
                      have s103 : a.tmps.getD 103 undef = .pointer (some ⟨P, 3, none⟩) := hdone _ (Array.mem_of_getElem? (i := 0) rfl) rfl _ rfl
                      refine wpOp_val (v := .slice (some ⟨g, 0, none⟩) ar.length tc5) (w' := w) rfl rfl ?_ ⟨_, rfl, ?_, hS, fun _ _ _ h => h⟩
                      · (have hc := hS.pcell.2; simp [execOp, Act.eval, s103, hc, go_sem])
                      · rw [own_put rfl (by rw [hs]; omega)]; exact rfl
                    · obtain rfl := Option.some.inj (show some _ = some o from ho)
                      refine wpOp_val (v := .int .i64 k) (w' := w) rfl rfl ?_ ⟨_, rfl, ?_, hS, fun _ _ _ h => h⟩
                      · simp [execOp, Act.eval, t12]
                      · rw [own_put rfl (by rw [hs]; omega)]; exact rfl
                    · obtain rfl := Option.some.inj (show some _ = some o from ho)
                      have s104 : a.tmps.getD 104 undef = .slice (some ⟨g, 0, none⟩) ar.length tc5 := hdone _ (Array.mem_of_getElem? (i := 0) rfl) rfl _ rfl
                      have s105 : a.tmps.getD 105 undef = .int .i64 k := hdone _ (Array.mem_of_getElem? (i := 1) rfl) rfl _ rfl
                      refine wpOp_val (v := .pointer (some ⟨g, k * 3, none⟩)) (w' := w) rfl rfl ?_ ⟨_, rfl, ?_, hS, fun _ _ _ h => h⟩
                      · (simp [execOp, Act.eval, s104, s105, go_sem]; try exact fun h => absurd h (by omega))
                      · rw [own_put rfl (by rw [hs]; omega)]; exact rfl
                    · obtain rfl := Option.some.inj (show some _ = some o from ho)
                      have s106 : a.tmps.getD 106 undef = .pointer (some ⟨g, k * 3, none⟩) := hdone _ (Array.mem_of_getElem? (i := 0) rfl) rfl _ rfl
                      refine wpOp_val (v := .pointer (some ⟨g, k * 3 + 1, none⟩)) (w' := w) rfl rfl ?_ ⟨_, rfl, ?_, hS, fun _ _ _ h => h⟩
                      · simp [execOp, Act.eval, s106, go_sem]
                      · rw [own_put rfl (by rw [hs]; omega)]; exact rfl
                    · obtain rfl := Option.some.inj (show some _ = some o from ho)
                      have s107 : a.tmps.getD 107 undef = .pointer (some ⟨g, k * 3 + 1, none⟩) := hdone _ (Array.mem_of_getElem? (i := 0) rfl) rfl _ rfl
                      refine wpOp_val (v := .slice (some ⟨b, 0, none⟩) qn qc) (w' := w) rfl rfl ?_ ⟨_, rfl, ?_, hS, fun _ _ _ h => h⟩
                      · (have hc := (hS.num1 HQ.out).2.1; simp [execOp, Act.eval, s107, hc, go_sem])
                      · rw [own_put rfl (by rw [hs]; omega)]; exact rfl
                    · obtain rfl := Option.some.inj (show some _ = some o from ho)
                      refine wpOp_val (v := .int .i64 j) (w' := w) rfl rfl ?_ ⟨_, rfl, ?_, hS, fun _ _ _ h => h⟩
                      · simp [execOp, Act.eval, t13]
                      · rw [own_put rfl (by rw [hs]; omega)]; exact rfl
                    · obtain rfl := Option.some.inj (show some _ = some o from ho)
                      refine wpOp_val (v := .pointer (some ⟨P, 3, none⟩)) (w' := w) rfl rfl ?_ ⟨_, rfl, ?_, hS, fun _ _ _ h => h⟩
                      · simp [execOp, Act.eval, t9, go_sem]
                      · rw [own_put rfl (by rw [hs]; omega)]; exact rfl
                    · obtain rfl := Option.some.inj (show some _ = some o from ho)
                      have s110 : a.tmps.getD 110 undef = .pointer (some ⟨P, 3, none⟩) := hdone _ (Array.mem_of_getElem? (i := 0) rfl) rfl _ rfl
                      refine wpOp_val (v := .slice (some ⟨g, 0, none⟩) ar.length tc5) (w' := w) rfl rfl ?_ ⟨_, rfl, ?_, hS, fun _ _ _ h => h⟩
                      · (have hc := hS.pcell.2; simp [execOp, Act.eval, s110, hc, go_sem])
                      · rw [own_put rfl (by rw [hs]; omega)]; exact rfl
                    · obtain rfl := Option.some.inj (show some _ = some o from ho)
                      refine wpOp_val (v := .int .i64 k) (w' := w) rfl rfl ?_ ⟨_, rfl, ?_, hS, fun _ _ _ h => h⟩
                      · simp [execOp, Act.eval, t12]
                      · rw [own_put rfl (by rw [hs]; omega)]; exact rfl
                    · obtain rfl := Option.some.inj (show some _ = some o from ho)
                      have s111 : a.tmps.getD 111 undef = .slice (some ⟨g, 0, none⟩) ar.length tc5 := hdone _ (Array.mem_of_getElem? (i := 0) rfl) rfl _ rfl
                      have s112 : a.tmps.getD 112 undef = .int .i64 k := hdone _ (Array.mem_of_getElem? (i := 1) rfl) rfl _ rfl
                      refine wpOp_val (v := .pointer (some ⟨g, k * 3, none⟩)) (w' := w) rfl rfl ?_ ⟨_, rfl, ?_, hS, fun _ _ _ h => h⟩
                      · (simp [execOp, Act.eval, s111, s112, go_sem]; try exact fun h => absurd h (by omega))
                      · rw [own_put rfl (by rw [hs]; omega)]; exact rfl
                    · obtain rfl := Option.some.inj (show some _ = some o from ho)
                      have s113 : a.tmps.getD 113 undef = .pointer (some ⟨g, k * 3, none⟩) := hdone _ (Array.mem_of_getElem? (i := 0) rfl) rfl _ rfl
                      refine wpOp_val (v := .pointer (some ⟨g, k * 3 + 1, none⟩)) (w' := w) rfl rfl ?_ ⟨_, rfl, ?_, hS, fun _ _ _ h => h⟩
                      · simp [execOp, Act.eval, s113, go_sem]
                      · rw [own_put rfl (by rw [hs]; omega)]; exact rfl
                    · obtain rfl := Option.some.inj (show some _ = some o from ho)
                      have s114 : a.tmps.getD 114 undef = .pointer (some ⟨g, k * 3 + 1, none⟩) := hdone _ (Array.mem_of_getElem? (i := 0) rfl) rfl _ rfl
                      refine wpOp_val (v := .slice (some ⟨b, 0, none⟩) qn qc) (w' := w) rfl rfl ?_ ⟨_, rfl, ?_, hS, fun _ _ _ h => h⟩
                      · (have hc := (hS.num1 HQ.out).2.1; simp [execOp, Act.eval, s114, hc, go_sem])
                      · rw [own_put rfl (by rw [hs]; omega)]; exact rfl
                    · obtain rfl := Option.some.inj (show some _ = some o from ho)
                      refine wpOp_val (v := .int .i64 j) (w' := w) rfl rfl ?_ ⟨_, rfl, ?_, hS, fun _ _ _ h => h⟩
                      · simp [execOp, Act.eval, t13]
                      · rw [own_put rfl (by rw [hs]; omega)]; exact rfl
                    · obtain rfl := Option.some.inj (show some _ = some o from ho)
                      have s115 : a.tmps.getD 115 undef = .slice (some ⟨b, 0, none⟩) qn qc := hdone _ (Array.mem_of_getElem? (i := 0) rfl) rfl _ rfl
                      have s116 : a.tmps.getD 116 undef = .int .i64 j := hdone _ (Array.mem_of_getElem? (i := 1) rfl) rfl _ rfl
                      refine wpOp_val (v := .pointer (some ⟨b, j, none⟩)) (w' := w) rfl rfl ?_ ⟨_, rfl, ?_, hS, fun _ _ _ h => h⟩
                      · (simp [execOp, Act.eval, s115, s116, go_sem]; try exact fun h => absurd h (by omega))
                      · rw [own_put rfl (by rw [hs]; omega)]; exact rfl
                    · obtain rfl := Option.some.inj (show some _ = some o from ho)
                      have s117 : a.tmps.getD 117 undef = .pointer (some ⟨b, j, none⟩) := hdone _ (Array.mem_of_getElem? (i := 0) rfl) rfl _ rfl
                      obtain ⟨⟨z9, hz9⟩, hr9⟩ := hS.arg1 HQ.out hjl
                      refine wpOp_val (v := .int .u64 z9) (w' := w) rfl rfl ?_ ⟨_, rfl, ?_, hS, fun _ _ _ h => h⟩
                      · simp [execOp, Act.eval, s117, hz9, go_sem]
                      · rw [own_put rfl (by rw [hs]; omega)]; exact ⟨z9, rfl⟩
                    · obtain rfl := Option.some.inj (show some _ = some o from ho)
                      have r118 := hdone _ (Array.mem_of_getElem? (i := 0) rfl) rfl _ rfl
                      obtain ⟨z9, hz9⟩ : ∃ z, a.tmps.getD 118 undef = .int .u64 z := r118
                      refine wpOp_valE (k := .u64) rfl rfl ⟨_, by simp [execOp, Act.eval, hz9, go_sem]; rfl⟩ (fun z7 => ⟨_, rfl, ?_, hS, fun _ _ _ h => h⟩)
                      rw [own_put rfl (by rw [hs]; omega)]; exact ⟨z7, rfl⟩
                    · obtain rfl := Option.some.inj (show some _ = some o from ho)
                      have s108 : a.tmps.getD 108 undef = .slice (some ⟨b, 0, none⟩) qn qc := hdone _ (Array.mem_of_getElem? (i := 0) rfl) rfl _ rfl
                      have s109 : a.tmps.getD 109 undef = .int .i64 j := hdone _ (Array.mem_of_getElem? (i := 1) rfl) rfl _ rfl
                      refine wpOp_val (v := .pointer (some ⟨b, j, none⟩)) (w' := w) rfl rfl ?_ ⟨_, rfl, ?_, hS, fun _ _ _ h => h⟩
                      · (simp [execOp, Act.eval, s108, s109, go_sem]; try exact fun h => absurd h (by omega))
                      · rw [own_put rfl (by rw [hs]; omega)]; exact rfl
                    · obtain rfl := Option.some.inj (show some _ = some o from ho)
                      have s120 : a.tmps.getD 120 undef = .pointer (some ⟨b, j, none⟩) := hdone _ (Array.mem_of_getElem? (i := 0) rfl) rfl _ rfl
                      have r119 := hdone _ (Array.mem_of_getElem? (i := 1) rfl) rfl _ rfl
                      obtain ⟨z9, hz9⟩ : ∃ z, a.tmps.getD 119 undef = .int .u64 z := r119
                      obtain ⟨⟨z8, hz8⟩, hr9⟩ := hS.arg1 HQ.out hjl
                      have hI := hr9.2
                      have hf9 := hr9.1
                      refine wpOp_skp (w' := w.setCell ⟨b, j, none⟩ (.int .u64 z9)) rfl rfl (exec_store1 33 _ _ rfl _ _ (.int .u64 z9) ?_ ?_ rfl rfl (by kernel_rfl) (by rw [hz8]; rfl) hf9) ⟨undef, rfl, trivial, hI z9, fun _ _ _ h => h⟩
                      · simp [Act.eval, s120]
                      · simp [Act.eval, hz9]
                  case hq =>
                    intro u9 w' hS hR9
                    clear hR9
                    rw [show outs _ u9 = [(103, u9 103), (104, u9 104), (105, u9 105), (106, u9 106), (107, u9 107), (108, u9 108), (109, u9 109), (110, u9 110), (111, u9 111), (112, u9 112), (113, u9 113), (114, u9 114), (115, u9 115), (116, u9 116), (117, u9 117), (118, u9 118), (119, u9 119), (120, u9 120)] by kernel_rfl]
                    simp only [putAll, List.setIfInBounds_toArray, List.set_cons_zero, List.set_cons_succ]
                    generalize u9 103 = x103
                    generalize u9 104 = x104
                    generalize u9 105 = x105
                    generalize u9 106 = x106
                    generalize u9 107 = x107
                    generalize u9 108 = x108
                    generalize u9 109 = x109
                    generalize u9 110 = x110
                    generalize u9 111 = x111
                    generalize u9 112 = x112
                    generalize u9 113 = x113
                    generalize u9 114 = x114
                    generalize u9 115 = x115
                    generalize u9 116 = x116
                    generalize u9 117 = x117
                    generalize u9 118 = x118
                    generalize u9 119 = x119
                    generalize u9 120 = x120
                    clear u9
                    have LK := Lib.hid hS; clear hS hR3
                    go_wp2_with fail
                    go_roundw
                    case rel => exact ⟨j + 1, by omega, by go_num, LK⟩
                    case measure => simp [intOf]; omega
                · obtain rfl : j = qn := by omega
                  go_wp2_with fail
                  refine wp_region_inv (fun _ => 100000) (fun w => Lk W x ca1 cc1 ta1 tc1 l B P Q (.slice ca5 x.ctx.length cc5) (.slice (some ⟨g, 0, none⟩) ar.length tc5) (.slice ca6 x.ctx.length cc6) (.slice ta6 x.tr.length tc6) ar w) (TabV [fun v => v = .pointer (some ⟨P, 3, none⟩), fun v => v = .slice (some ⟨g, 0, none⟩) ar.length tc5, fun v => v = .int .i64 k, fun v => v = .pointer (some ⟨P, 3, none⟩), fun v => v = .slice (some ⟨g, 0, none⟩) ar.length tc5, fun v => v = .int .i64 k, fun v => v = .pointer (some ⟨g, k * 3, none⟩), fun v => v = .pointer (some ⟨g, k * 3, none⟩), fun v => ∃ z, v = .int .i64 z, fun v => ∃ z, v = .int .i64 z, fun v => v = .pointer (some ⟨g, k * 3, none⟩), fun v => v = .pointer (some ⟨g, k * 3, none⟩), fun _ => True]) (by kernel_rfl) (back_of (by kernel_rfl)) (dst_of (by kernel_rfl)) (dep_of (by kernel_rfl)) (in_of (by kernel_rfl)) hR3.out.drew ?hop ?hq
                  case hop =>
                    intro i o a w ho hS hdf hsz hrest hdone
                    have t9 : a.tmps.getD 9 undef = .pointer (some ⟨P, 0, none⟩) := hrest 9 (not_of (by kernel_rfl))
                    have t12 : a.tmps.getD 12 undef = .int .i64 k := hrest 12 (not_of (by kernel_rfl))
                    have hs : a.tmps.size = 141 := hsz.trans rfl
                    have hi : i < 13 := (Array.getElem?_eq_some_iff.1 ho).1
                    clear hrest hsz hdf
                    obtain rfl | rfl | rfl | rfl | rfl | rfl | rfl | rfl | rfl | rfl | rfl | rfl | rfl : i = 0 ∨ i = 1 ∨ i = 2 ∨ i = 3 ∨ i = 4 ∨ i = 5 ∨ i = 6 ∨ i = 7 ∨ i = 8 ∨ i = 9 ∨ i = 10 ∨ i = 11 ∨ i = 12 := by omega
                    · obtain rfl := Option.some.inj (show some _ = some o from ho)
                      refine wpOp_val (v := .pointer (some ⟨P, 3, none⟩)) (w' := w) rfl rfl ?_ ⟨_, rfl, ?_, hS, fun _ _ _ h => h⟩
                      · simp [execOp, Act.eval, t9, go_sem]
                      · rw [own_put rfl (by rw [hs]; omega)]; exact rfl
                    · obtain rfl := Option.some.inj (show some _ = some o from ho)
                      have s122 : a.tmps.getD 122 undef = .pointer (some ⟨P, 3, none⟩) := hdone _ (Array.mem_of_getElem? (i := 0) rfl) rfl _ rfl
                      refine wpOp_val (v := .slice (some ⟨g, 0, none⟩) ar.length tc5) (w' := w) rfl rfl ?_ ⟨_, rfl, ?_, hS, fun _ _ _ h => h⟩
                      · (have hc := hS.pcell.2; simp [execOp, Act.eval, s122, hc, go_sem])
                      · rw [own_put rfl (by rw [hs]; omega)]; exact rfl
                    · obtain rfl := Option.some.inj (show some _ = some o from ho)
                      refine wpOp_val (v := .int .i64 k) (w' := w) rfl rfl ?_ ⟨_, rfl, ?_, hS, fun _ _ _ h => h⟩
                      · simp [execOp, Act.eval, t12]
                      · rw [own_put rfl (by rw [hs]; omega)]; exact rfl
                    · obtain rfl := Option.some.inj (show some _ = some o from ho)
                      refine wpOp_val (v := .pointer (some ⟨P, 3, none⟩)) (w' := w) rfl rfl ?_ ⟨_, rfl, ?_, hS, fun _ _ _ h => h⟩
                      · simp [execOp, Act.eval, t9, go_sem]
                      · rw [own_put rfl (by rw [hs]; omega)]; exact rfl
                    · obtain rfl := Option.some.inj (show some _ = some o from ho)
                      have s125 : a.tmps.getD 125 undef = .pointer (some ⟨P, 3, none⟩) := hdone _ (Array.mem_of_getElem? (i := 0) rfl) rfl _ rfl
                      refine wpOp_val (v := .slice (some ⟨g, 0, none⟩) ar.length tc5) (w' := w) rfl rfl ?_ ⟨_, rfl, ?_, hS, fun _ _ _ h => h⟩
                      · (have hc := hS.pcell.2; simp [execOp, Act.eval, s125, hc, go_sem])
                      · rw [own_put rfl (by rw [hs]; omega)]; exact rfl
                    · obtain rfl := Option.some.inj (show some _ = some o from ho)
                      refine wpOp_val (v := .int .i64 k) (w' := w) rfl rfl ?_ ⟨_, rfl, ?_, hS, fun _ _ _ h => h⟩
                      · simp [execOp, Act.eval, t12]
                      · rw [own_put rfl (by rw [hs]; omega)]; exact rfl
                    · obtain rfl := Option.some.inj (show some _ = some o from ho)
                      have s126 : a.tmps.getD 126 undef = .slice (some ⟨g, 0, none⟩) ar.length tc5 := hdone _ (Array.mem_of_getElem? (i := 0) rfl) rfl _ rfl
                      have s127 : a.tmps.getD 127 undef = .int .i64 k := hdone _ (Array.mem_of_getElem? (i := 1) rfl) rfl _ rfl
                      refine wpOp_val (v := .pointer (some ⟨g, k * 3, none⟩)) (w' := w) rfl rfl ?_ ⟨_, rfl, ?_, hS, fun _ _ _ h => h⟩
                      · (simp [execOp, Act.eval, s126, s127, go_sem]; try exact fun h => absurd h (by omega))
                      · rw [own_put rfl (by rw [hs]; omega)]; exact rfl
                    · obtain rfl := Option.some.inj (show some _ = some o from ho)
                      have s128 : a.tmps.getD 128 undef = .pointer (some ⟨g, k * 3, none⟩) := hdone _ (Array.mem_of_getElem? (i := 0) rfl) rfl _ rfl
                      refine wpOp_val (v := .pointer (some ⟨g, k * 3, none⟩)) (w' := w) rfl rfl ?_ ⟨_, rfl, ?_, hS, fun _ _ _ h => h⟩
                      · simp [execOp, Act.eval, s128, go_sem]
                      · rw [own_put rfl (by rw [hs]; omega)]; exact rfl
                    · obtain rfl := Option.some.inj (show some _ = some o from ho)
                      have s129 : a.tmps.getD 129 undef = .pointer (some ⟨g, k * 3, none⟩) := hdone _ (Array.mem_of_getElem? (i := 0) rfl) rfl _ rfl
                      obtain ⟨⟨z9, hz9⟩, hr9⟩ := hS.num1 HQ.out
                      refine wpOp_val (v := .int .i64 z9) (w' := w) rfl rfl ?_ ⟨_, rfl, ?_, hS, fun _ _ _ h => h⟩
                      · simp [execOp, Act.eval, s129, hz9, go_sem]
                      · rw [own_put rfl (by rw [hs]; omega)]; exact ⟨z9, rfl⟩
                    · obtain rfl := Option.some.inj (show some _ = some o from ho)
                      have r130 := hdone _ (Array.mem_of_getElem? (i := 0) rfl) rfl _ rfl
                      obtain ⟨z9, hz9⟩ : ∃ z, a.tmps.getD 130 undef = .int .i64 z := r130
                      refine wpOp_valE (k := .i64) rfl rfl ⟨_, by simp [execOp, Act.eval, hz9, go_sem]; rfl⟩ (fun z7 => ⟨_, rfl, ?_, hS, fun _ _ _ h => h⟩)
                      rw [own_put rfl (by rw [hs]; omega)]; exact ⟨z7, rfl⟩
                    · obtain rfl := Option.some.inj (show some _ = some o from ho)
                      have s123 : a.tmps.getD 123 undef = .slice (some ⟨g, 0, none⟩) ar.length tc5 := hdone _ (Array.mem_of_getElem? (i := 0) rfl) rfl _ rfl
                      have s124 : a.tmps.getD 124 undef = .int .i64 k := hdone _ (Array.mem_of_getElem? (i := 1) rfl) rfl _ rfl
                      refine wpOp_val (v := .pointer (some ⟨g, k * 3, none⟩)) (w' := w) rfl rfl ?_ ⟨_, rfl, ?_, hS, fun _ _ _ h => h⟩
                      · (simp [execOp, Act.eval, s123, s124, go_sem]; try exact fun h => absurd h (by omega))
                      · rw [own_put rfl (by rw [hs]; omega)]; exact rfl
                    · obtain rfl := Option.some.inj (show some _ = some o from ho)
                      have s132 : a.tmps.getD 132 undef = .pointer (some ⟨g, k * 3, none⟩) := hdone _ (Array.mem_of_getElem? (i := 0) rfl) rfl _ rfl
                      refine wpOp_val (v := .pointer (some ⟨g, k * 3, none⟩)) (w' := w) rfl rfl ?_ ⟨_, rfl, ?_, hS, fun _ _ _ h => h⟩
                      · simp [execOp, Act.eval, s132, go_sem]
                      · rw [own_put rfl (by rw [hs]; omega)]; exact rfl
                    · obtain rfl := Option.some.inj (show some _ = some o from ho)
                      have s133 : a.tmps.getD 133 undef = .pointer (some ⟨g, k * 3, none⟩) := hdone _ (Array.mem_of_getElem? (i := 0) rfl) rfl _ rfl
                      have r131 := hdone _ (Array.mem_of_getElem? (i := 1) rfl) rfl _ rfl
                      obtain ⟨z9, hz9⟩ : ∃ z, a.tmps.getD 131 undef = .int .i64 z := r131
                      obtain ⟨⟨z8, hz8⟩, hr9⟩ := hS.num1 HQ.out
                      have hI := hr9.2.2
                      have hf9 := hr9.2.1
                      refine wpOp_skp (w' := w.setCell ⟨g, k * 3, none⟩ (.int .i64 z9)) rfl rfl (exec_store1 3 _ _ rfl _ _ (.int .i64 z9) ?_ ?_ rfl rfl (by kernel_rfl) (by rw [hz8]; rfl) hf9) ⟨undef, rfl, trivial, hI z9, fun _ _ _ h => h⟩
                      · simp [Act.eval, s133]
                      · simp [Act.eval, hz9]
                  case hq =>
                    intro u9 w' hS hR9
                    clear hR9
                    rw [show outs _ u9 = [(122, u9 122), (123, u9 123), (124, u9 124), (125, u9 125), (126, u9 126), (127, u9 127), (128, u9 128), (129, u9 129), (130, u9 130), (131, u9 131), (132, u9 132), (133, u9 133)] by kernel_rfl]
                    simp only [putAll, List.setIfInBounds_toArray, List.set_cons_zero, List.set_cons_succ]
                    generalize u9 122 = x122
                    generalize u9 123 = x123
                    generalize u9 124 = x124
                    generalize u9 125 = x125
                    generalize u9 126 = x126
                    generalize u9 127 = x127
                    generalize u9 128 = x128
                    generalize u9 129 = x129
                    generalize u9 130 = x130
                    generalize u9 131 = x131
                    generalize u9 132 = x132
                    generalize u9 133 = x133
                    clear u9
                    have LK := Lib.hid hS; clear hS hR3
                    go_wp2_with fail
                    go_roundw
                    case rel => exact ⟨k + 1, by omega, by go_num, LK⟩
                    case measure => simp [intOf]; omega
            · obtain rfl : k = ar.length := by omega
              obtain ⟨a0, a1, a2, a3, a4⟩ := hR2.out.bn.toBox5.all
              obtain ⟨ho, hb5⟩ := hR2.out.keep HOK.out
              obtain ⟨k0, k1, k2, k3, k4⟩ := hb5.all
              have KO := Lib.hid ho
              clear ho hb5 p2 p3
              go_wp2_with fail
              refine (S9.out _ hR2.out.below KO.out).mono ?_
              rintro e w20 ⟨rfl, d20⟩
              have BW := Lib.hid (below_call hR2.out.below d20)
              clear d20 a0 a1 a2 a3 a4 k0 k1 k2 k3 k4 hR2
              go_wp2_with fail
              refine (wakes_any _).mono ?_
              rintro e w21 ⟨rfl, d21⟩
              go_wp2_with fail
              go_ret
              exact ⟨rfl, below_call BW.out d21⟩

theorem traceLike_law (x : Out) (ca1 : Option Addr) (cc1 : Nat) (ta1 : Option Addr) (tc1 : Nat) (y : Out) (ca2 : Option Addr) (cc2 : Nat) (ta2 : Option Addr) (tc2 : Nat) (z : Out) (ca3 : Option Addr) (cc3 : Nat) (ta3 : Option Addr) (tc3 : Nat) (by_ : Int) (W : World) (h1 : OutAt W x ca1 cc1 ta1 tc1) (h2 : OutAt W y ca2 cc2 ta2 tc2) (h3 : OutAt W z ca3 cc3 ta3 tc3) (hby : (Lit.int .u8 by_).wf = true) :
    Calls Try.prog 10 #[outV x ca1 cc1 ta1 tc1, outV y ca2 cc2 ta2 tc2, outV z ca3 cc3 ta3 tc3, .int .u8 by_] W fun e w' => e = .returned (.bool true) ∧ Below W.heap.size W w' :=
  traceLike_walk x ca1 cc1 ta1 tc1 y ca2 cc2 ta2 tc2 z ca3 cc3 ta3 tc3 by_ W h1 h2 h3 hby
end Go.Proofs.Ytpbnmbeedjhloaa.Trc
