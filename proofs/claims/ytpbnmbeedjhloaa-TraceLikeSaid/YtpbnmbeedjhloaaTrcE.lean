/-
  Package trace: Like, Becomes, May, Fuel, and the document's answers to them.
-/
import Derived.Test.YtpbnmbeedjhloaaTrcD
namespace Go.Proofs.Ytpbnmbeedjhloaa.Trc
open Go.RowKit
set_option linter.unusedVariables false

/-- An outcome in a block of its own. -/
structure Box5 (w : World) (b : Nat) (x : Out) (ca : Option Addr) (cc : Nat) (ta : Option Addr) (tc : Nat) : Prop where
  c0 : w.cell? ⟨b, 0, none⟩ = some (.int .i8 x.kind)
  c1 : w.cell? ⟨b, 1, none⟩ = some (.int .u64 x.r0)
  c2 : w.cell? ⟨b, 2, none⟩ = some (.slice ca x.ctx.length cc)
  c3 : w.cell? ⟨b, 3, none⟩ = some (.slice ta x.tr.length tc)
  c4 : w.cell? ⟨b, 4, none⟩ = some (.int .i64 x.left)
theorem Box5.below {w w' : World} {b : Nat} {x : Out} {ca ta : Option Addr} {cc tc : Nat} (h : Box5 w b x ca cc ta tc) (k : Below w.heap.size w w') : Box5 w' b x ca cc ta tc :=
  ⟨(k.cell (lt_of_cell h.c0)).trans h.c0, (k.cell (lt_of_cell h.c0)).trans h.c1, (k.cell (lt_of_cell h.c0)).trans h.c2, (k.cell (lt_of_cell h.c0)).trans h.c3, (k.cell (lt_of_cell h.c0)).trans h.c4⟩
theorem Box5.new (w : World) (x : Out) (ca ta : Option Addr) (cc tc : Nat) (t : TypeId) (b : Nat) (hb : b = w.heap.size) :
    Box5 (w.alloc (.cells #[.int .i8 x.kind, .int .u64 x.r0, .slice ca x.ctx.length cc, .slice ta x.tr.length tc, .int .i64 x.left] t)) b x ca cc ta tc := by
  have h := heap_last w (.cells #[.int .i8 x.kind, .int .u64 x.r0, .slice ca x.ctx.length cc, .slice ta x.tr.length tc, .int .i64 x.left] t) b hb
  constructor <;> (simp only [World.cell?]; rw [h]; rfl)
theorem Box5.past {w : World} {b : Nat} {x : Out} {ca ta : Option Addr} {cc tc : Nat} (h : Box5 w b x ca cc ta tc) (o : Obj) : Box5 (w.alloc o) b x ca cc ta tc := h.below (below_new (Below.refl _ _) _)
theorem Box5.all {w : World} {b : Nat} {x : Out} {ca ta : Option Addr} {cc tc : Nat} (h : Box5 w b x ca cc ta tc) : w.cell? ⟨b, 0, none⟩ = some (.int .i8 x.kind) ∧ w.cell? ⟨b, 1, none⟩ = some (.int .u64 x.r0) ∧ w.cell? ⟨b, 2, none⟩ = some (.slice ca x.ctx.length cc) ∧ w.cell? ⟨b, 3, none⟩ = some (.slice ta x.tr.length tc) ∧ w.cell? ⟨b, 4, none⟩ = some (.int .i64 x.left) := ⟨h.c0, h.c1, h.c2, h.c3, h.c4⟩

set_option maxHeartbeats 2000000 in
theorem like_any (x y : Out) (ca1 ta1 ca2 ta2 : Option Addr) (cc1 tc1 cc2 tc2 : Nat) (W : World) (h1 : OutAt W x ca1 cc1 ta1 tc1) (h2 : OutAt W y ca2 cc2 ta2 tc2) :
    Calls Try.prog 52 #[outV x ca1 cc1 ta1 tc1, outV y ca2 cc2 ta2 tc2] W fun e w' => e = .returned (.bool (likeB x y)) ∧ Below W.heap.size W w' := by
  have T := Lib.hid (fun w b => sameTrace_any x y ca1 ta1 ca2 ta2 cc1 tc1 cc2 tc2 w ((h1.below (w := w) b).tr) ((h2.below b).tr))
  have E := Lib.hid (fun w b => sameEnd_any x y ca1 ta1 ca2 ta2 cc1 tc1 cc2 tc2 w ((h1.below (w := w) b).ctx) ((h2.below b).ctx))
  have X1 := Lib.hid (Box5.new W x ca1 ta1 cc1 tc1 76 W.heap.size rfl)
  have X2 := Lib.hid (fun o => Box5.new (W.alloc o) y ca2 ta2 cc2 tc2 76 (W.heap.size + 1) (by simp))
  clear h1 h2
  generalize hs : likeB x y = s
  have HS := Lib.hid hs; clear hs
  generalize he : endB x y = d at E
  generalize ht : decide (x.tr = y.tr) = t at T
  have HD : s = (x.kind == y.kind && t && (x.kind != 1 || d)) := by rw [← HS.out, ← he, ← ht]; rfl
  clear HS he ht
  have XA := Lib.hid (fun w' b => (X1.out.past (.cells #[.int .i8 y.kind, .int .u64 y.r0, .slice ca2 y.ctx.length cc2, .slice ta2 y.tr.length tc2, .int .i64 y.left] 76)).below (w' := w') b |>.all)
  have XB := Lib.hid (fun w' b => ((X2.out (.cells #[.int .i8 x.kind, .int .u64 x.r0, .slice ca1 x.ctx.length cc1, .slice ta1 x.tr.length tc1, .int .i64 x.left] 76)).below (w' := w') b).all)
  clear X1 X2
  obtain ⟨xk, xr, xc, xt, xl⟩ := x
  obtain ⟨yk, yr, yc, yt, yl⟩ := y
  simp only [outV] at *
  generalize xt.length = tl1 at *
  generalize yt.length = tl2 at *
  generalize xc.length = cl1 at *
  generalize yc.length = cl2 at *
  by_cases ek : xk = yk
  case neg =>
    have e0 : (xk != yk) = true := by simpa using ek
    have HD2 := Lib.hid (show s = false by rw [HD, show (xk == yk) = false by simpa using ek]; rfl)
    clear ek HD
    go_enter Try.func52, Try.ntmps52
    go_wp2_with fail
    go_ret
    exact ⟨retB HD2.out.symm, bb2 W _ _⟩
  subst ek
  have HD2 := Lib.hid (show s = (t && (xk != 1 || d)) by rw [HD]; simp)
  clear HD
  go_enter Try.func52, Try.ntmps52
  go_wp2_with fail
  refine (T.out _ (bb2 W _ _)).mono ?_
  rintro e w1 ⟨rfl, b1⟩
  obtain ⟨c10, c11, c12, c13, c14⟩ := XA.out w1 b1
  obtain ⟨c20, c21, c22, c23, c24⟩ := XB.out w1 b1
  have B1 := Lib.hid (below_call (bb2 W _ _) b1)
  clear b1 XA XB
  cases t
  · go_wp2_with fail
    go_ret
    exact ⟨retB HD2.out.symm, B1.out⟩
  by_cases k1 : xk = 1
  case neg =>
    have e1 : (xk != 1) = true := by simpa using k1
    have HD3 := Lib.hid (show s = true by rw [HD2.out, e1]; rfl)
    clear k1
    go_wp2_with fail
    go_ret
    exact ⟨retB HD3.out.symm, B1.out⟩
  have e1 : (xk != 1) = false := by simpa using k1
  have HD3 := Lib.hid (show s = d by rw [HD2.out, e1]; rfl)
  clear k1
  go_wp2_with fail
  refine (E.out _ B1.out).mono ?_
  rintro e w2 ⟨rfl, b2⟩
  go_wp2_with fail
  go_ret
  exact ⟨retB HD3.out.symm, below_call B1.out b2⟩

set_option maxHeartbeats 1000000 in
theorem becomes_any (x y : Out) (ca1 ta1 ca2 ta2 : Option Addr) (cc1 tc1 cc2 tc2 : Nat) (W : World) (h1 : OutAt W x ca1 cc1 ta1 tc1) (h2 : OutAt W y ca2 cc2 ta2 tc2) :
    Calls Try.prog 56 #[outV x ca1 cc1 ta1 tc1, outV y ca2 cc2 ta2 tc2] W fun e w' => e = .returned (.bool (becB x y)) ∧ Below W.heap.size W w' := by
  have E := Lib.hid (fun o1 o2 => begins_any ta1 ta2 x.tr.length tc1 y.tr.length tc2 x.tr y.tr _ (h1.tr.below (bb2 W o1 o2)) (h2.tr.below (bb2 W o1 o2)))
  clear h1 h2
  unfold becB
  generalize preB x.tr y.tr = d at *
  obtain ⟨xk, xr, xc, xt, xl⟩ := x
  obtain ⟨yk, yr, yc, yt, yl⟩ := y
  simp only [outV] at *
  generalize xt.length = tl1 at *
  generalize yt.length = tl2 at *
  generalize xc.length = cl1 at *
  generalize yc.length = cl2 at *
  by_cases ek : xk = 0
  · subst ek
    rw [beq_self_eq_true, Bool.true_and]
    go_enter Try.func56, Try.ntmps56
    go_wp2_with fail
    refine (E.out _ _).mono ?_
    rintro e w1 ⟨rfl, b1⟩
    go_wp2_with fail
    go_ret
    exact ⟨rfl, below_call (bb2 W _ _) b1⟩
  · have e0 : (xk == 0) = false := by simpa using ek
    rw [e0, Bool.false_and]
    clear ek E
    go_enter Try.func56, Try.ntmps56
    go_wp2_with fail
    go_ret
    exact ⟨rfl, bb2 W _ _⟩
set_option maxHeartbeats 1000000 in
theorem r_becomes (x y : Out) (ca1 ta1 ca2 ta2 : Option Addr) (cc1 tc1 cc2 tc2 : Nat) (W : World) (h1 : OutAt W x ca1 cc1 ta1 tc1) (h2 : OutAt W y ca2 cc2 ta2 tc2) :
    Calls Try.prog 57 #[outV x ca1 cc1 ta1 tc1, outV y ca2 cc2 ta2 tc2] W fun e w' => e = .returned (.bool (becB x y)) ∧ Below W.heap.size W w' := by
  have E := Lib.hid (fun o1 o2 => r_begins ta1 ta2 x.tr.length tc1 y.tr.length tc2 x.tr y.tr _ (h1.tr.below (bb2 W o1 o2)) (h2.tr.below (bb2 W o1 o2)))
  clear h1 h2
  unfold becB
  generalize preB x.tr y.tr = d at *
  obtain ⟨xk, xr, xc, xt, xl⟩ := x
  obtain ⟨yk, yr, yc, yt, yl⟩ := y
  simp only [outV] at *
  generalize xt.length = tl1 at *
  generalize yt.length = tl2 at *
  generalize xc.length = cl1 at *
  generalize yc.length = cl2 at *
  by_cases ek : xk = 0
  · subst ek
    rw [beq_self_eq_true, Bool.true_and]
    go_enter Try.func57, Try.ntmps57
    go_wp2_with fail
    refine (E.out _ _).mono ?_
    rintro e w1 ⟨rfl, b1⟩
    go_wp2_with fail
    go_ret
    exact ⟨rfl, below_call (bb2 W _ _) b1⟩
  · have e0 : (xk == 0) = false := by simpa using ek
    rw [e0, Bool.false_and]
    clear ek E
    go_enter Try.func57, Try.ntmps57
    go_wp2_with fail
    go_ret
    exact ⟨rfl, bb2 W _ _⟩

/-- The fuel of n steps. -/
def fuelI (n : Int) : Int := 64 * (min (max n 0) 10000) + 64
theorem fuel_any (n : Int) (W : World) : Calls Try.prog 60 #[.int .i64 n] W fun e w' => e = .returned (.int .i64 (fuelI n)) ∧ W = w' := by
  have e0 : min (max n 0) 10000 = fuelI n / 64 - 1 := by unfold fuelI; omega
  have h0 : 64 ≤ fuelI n := by unfold fuelI; omega
  have h1 : fuelI n ≤ 640064 := by unfold fuelI; omega
  have h2 := Lib.hid (show 64 * (fuelI n / 64 - 1) + 64 = fuelI n by unfold fuelI; omega)
  generalize fuelI n = f at *
  go_enter Try.func60, Try.ntmps60
  go_wp2_with fail
  go_ret
  exact ⟨by first | (rw [h2.out]; rfl) | (congr 2; simp; exact h2.out), rfl⟩
theorem r_fuel (n : Int) (W : World) : Calls Try.prog 61 #[.int .i64 n] W fun e w' => e = .returned (.int .i64 (fuelI n)) ∧ W = w' := by
  have e0 : min (max n 0) 10000 = fuelI n / 64 - 1 := by unfold fuelI; omega
  have h0 : 64 ≤ fuelI n := by unfold fuelI; omega
  have h1 : fuelI n ≤ 640064 := by unfold fuelI; omega
  have h2 := Lib.hid (show 64 * (fuelI n / 64 - 1) + 64 = fuelI n by unfold fuelI; omega)
  generalize fuelI n = f at *
  go_enter Try.func61, Try.ntmps61
  go_wp2_with fail
  go_ret
  exact ⟨by first | (rw [h2.out]; rfl) | (congr 2; simp; exact h2.out), rfl⟩
end Go.Proofs.Ytpbnmbeedjhloaa.Trc
