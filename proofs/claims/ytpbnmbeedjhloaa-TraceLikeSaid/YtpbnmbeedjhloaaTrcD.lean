/-
  Package trace: outcomes compared: Same, Like, Becomes; May, Fuel.
-/
import Derived.Test.YtpbnmbeedjhloaaTrcC
import Derived.Test.YtpbnmbeedjhloaaRinCa
import Derived.Lib.MinMax
namespace Go.Proofs.Ytpbnmbeedjhloaa.Trc
open Go.RowKit
set_option linter.unusedVariables false

/-- An outcome. -/
structure Out where
  kind : Int
  r0 : Int
  ctx : List Int
  tr : List Ev
  left : Int
def outV (x : Out) (ca : Option Addr) (cc : Nat) (ta : Option Addr) (tc : Nat) : Value := .agg #[.int .i8 x.kind, .int .u64 x.r0, .slice ca x.ctx.length cc, .slice ta x.tr.length tc, .int .i64 x.left]
/-- Its rows can be read. -/
structure OutAt (W : World) (x : Out) (ca : Option Addr) (cc : Nat) (ta : Option Addr) (tc : Nat) : Prop where
  ctx : BytesAt W ca x.ctx.length cc x.ctx
  tr : EvsAt W ta x.tr.length tc x.tr
theorem OutAt.below {W w : World} {x : Out} {ca ta : Option Addr} {cc tc : Nat} (h : OutAt W x ca cc ta tc) (b : Below W.heap.size W w) : OutAt w x ca cc ta tc := ⟨h.ctx.below b, h.tr.below b⟩

def endB (x y : Out) : Bool := x.r0 == y.r0 && decide (x.ctx = y.ctx)
def sameB (x y : Out) : Bool := x.kind == y.kind && x.left == y.left && decide (x.tr = y.tr) && endB x y
def likeB (x y : Out) : Bool := x.kind == y.kind && decide (x.tr = y.tr) && (x.kind != 1 || endB x y)
def becB (x y : Out) : Bool := x.kind == 0 && preB x.tr y.tr

theorem bb2 (W : World) (o1 o2 : Obj) : Below W.heap.size W ((W.alloc o1).alloc o2) := below_new (below_new (Below.refl _ W) _) _

set_option maxHeartbeats 1000000 in
theorem sameTrace_any (x y : Out) (ca1 ta1 ca2 ta2 : Option Addr) (cc1 tc1 cc2 tc2 : Nat) (W : World) (h1 : EvsAt W ta1 x.tr.length tc1 x.tr) (h2 : EvsAt W ta2 y.tr.length tc2 y.tr) :
    Calls Try.prog 102 #[outV x ca1 cc1 ta1 tc1, outV y ca2 cc2 ta2 tc2] W fun e w' => e = .returned (.bool (decide (x.tr = y.tr))) ∧ Below W.heap.size W w' := by
  obtain ⟨xk, xr, xc, xt, xl⟩ := x
  obtain ⟨yk, yr, yc, yt, yl⟩ := y
  simp only [outV] at *
  have E := Lib.hid (fun o1 o2 => begins_any ta1 ta2 xt.length tc1 yt.length tc2 xt yt _ (h1.below (bb2 W o1 o2)) (h2.below (bb2 W o1 o2)))
  clear h1 h2
  by_cases el : xt.length = yt.length
  · rw [preB_same el] at E
    generalize decide (xt = yt) = d at *
    have e0 : ((xt.length : Int) == (yt.length : Int)) = true := by simp; omega
    clear el
    generalize xt.length = tl1 at *
    generalize yt.length = tl2 at *
    generalize xc.length = cl1 at *
    generalize yc.length = cl2 at *
    go_enter Try.func102, Try.ntmps102
    go_wp2_with fail
    refine (E.out _ _).mono ?_
    rintro e w1 ⟨rfl, b1⟩
    go_wp2_with fail
    go_ret
    exact ⟨rfl, below_call (bb2 W _ _) b1⟩
  · rw [decide_eq_false (fun e => el (by rw [e]))]
    have e0 : ((xt.length : Int) == (yt.length : Int)) = false := by simpa using (by omega : ¬ (xt.length : Int) = yt.length)
    clear el E
    generalize xt.length = tl1 at *
    generalize yt.length = tl2 at *
    generalize xc.length = cl1 at *
    generalize yc.length = cl2 at *
    go_enter Try.func102, Try.ntmps102
    go_wp2_with fail
    go_ret
    exact ⟨rfl, bb2 W _ _⟩

set_option maxHeartbeats 1000000 in
theorem sameEnd_any (x y : Out) (ca1 ta1 ca2 ta2 : Option Addr) (cc1 tc1 cc2 tc2 : Nat) (W : World) (h1 : BytesAt W ca1 x.ctx.length cc1 x.ctx) (h2 : BytesAt W ca2 y.ctx.length cc2 y.ctx) :
    Calls Try.prog 103 #[outV x ca1 cc1 ta1 tc1, outV y ca2 cc2 ta2 tc2] W fun e w' => e = .returned (.bool (endB x y)) ∧ Below W.heap.size W w' := by
  obtain ⟨xk, xr, xc, xt, xl⟩ := x
  obtain ⟨yk, yr, yc, yt, yl⟩ := y
  simp only [outV, endB] at *
  have E := Lib.hid (fun o1 o2 => bytesEqual_any ca1 ca2 xc.length cc1 yc.length cc2 xc yc _ (h1.below (bb2 W o1 o2)) (h2.below (bb2 W o1 o2)))
  clear h1 h2
  generalize decide (xc = yc) = d at *
  generalize xt.length = tl1 at *
  generalize yt.length = tl2 at *
  generalize xc.length = cl1 at *
  generalize yc.length = cl2 at *
  by_cases er : xr = yr
  · subst er
    rw [beq_self_eq_true, Bool.true_and]
    go_enter Try.func103, Try.ntmps103
    go_wp2_with fail
    refine (E.out _ _).mono ?_
    rintro e w1 ⟨rfl, rfl⟩
    go_wp2_with fail
    go_ret
    exact ⟨rfl, bb2 W _ _⟩
  · have e0 : (xr == yr) = false := by simpa using er
    rw [e0, Bool.false_and]
    clear er E
    go_enter Try.func103, Try.ntmps103
    go_wp2_with fail
    go_ret
    exact ⟨rfl, bb2 W _ _⟩

set_option maxHeartbeats 2000000 in
theorem same_any (x y : Out) (ca1 ta1 ca2 ta2 : Option Addr) (cc1 tc1 cc2 tc2 : Nat) (W : World) (h1 : OutAt W x ca1 cc1 ta1 tc1) (h2 : OutAt W y ca2 cc2 ta2 tc2) :
    Calls Try.prog 50 #[outV x ca1 cc1 ta1 tc1, outV y ca2 cc2 ta2 tc2] W fun e w' => e = .returned (.bool (sameB x y)) ∧ Below W.heap.size W w' := by
  have T := Lib.hid (fun w b => sameTrace_any x y ca1 ta1 ca2 ta2 cc1 tc1 cc2 tc2 w ((h1.below (w := w) b).tr) ((h2.below b).tr))
  have E := Lib.hid (fun w b => sameEnd_any x y ca1 ta1 ca2 ta2 cc1 tc1 cc2 tc2 w ((h1.below (w := w) b).ctx) ((h2.below b).ctx))
  clear h1 h2
  generalize hs : sameB x y = s
  have HS := Lib.hid hs; clear hs
  generalize he : endB x y = d at E
  generalize ht : decide (x.tr = y.tr) = t at T
  have HD : s = (x.kind == y.kind && x.left == y.left && t && d) := by rw [← HS.out, ← he, ← ht]; rfl
  clear HS he ht
  obtain ⟨xk, xr, xc, xt, xl⟩ := x
  obtain ⟨yk, yr, yc, yt, yl⟩ := y
  simp only [outV] at *
  generalize xt.length = tl1 at *
  generalize yt.length = tl2 at *
  generalize xc.length = cl1 at *
  generalize yc.length = cl2 at *
  by_cases ek : xk = yk
  case neg =>
    have e0 : (xk == yk) = false := by simpa using ek
    have HD2 := Lib.hid (show s = false by rw [HD, e0]; rfl)
    clear ek HD
    go_enter Try.func50, Try.ntmps50
    go_wp2_with fail
    go_ret
    exact ⟨retB HD2.out.symm, bb2 W _ _⟩
  subst ek
  by_cases ex : xl = yl
  case neg =>
    have e0 : (xl == yl) = false := by simpa using ex
    have HD2 := Lib.hid (show s = false by rw [HD, e0]; simp)
    clear ex HD
    go_enter Try.func50, Try.ntmps50
    go_wp2_with fail
    go_ret
    exact ⟨retB HD2.out.symm, bb2 W _ _⟩
  subst ex
  have HD2 := Lib.hid (show s = (t && d) by rw [HD]; simp)
  clear HD
  go_enter Try.func50, Try.ntmps50
  go_wp2_with fail
  refine (T.out _ (bb2 W _ _)).mono ?_
  rintro e w1 ⟨rfl, b1⟩
  have c10 : w1.cell? ⟨W.heap.size, 0, none⟩ = _ := (b1.cell (by simp; omega)).trans (by simp; rfl)
  have c11 : w1.cell? ⟨W.heap.size, 1, none⟩ = _ := (b1.cell (by simp; omega)).trans (by simp; rfl)
  have c12 : w1.cell? ⟨W.heap.size, 2, none⟩ = _ := (b1.cell (by simp; omega)).trans (by simp; rfl)
  have c13 : w1.cell? ⟨W.heap.size, 3, none⟩ = _ := (b1.cell (by simp; omega)).trans (by simp; rfl)
  have c14 : w1.cell? ⟨W.heap.size, 4, none⟩ = _ := (b1.cell (by simp; omega)).trans (by simp; rfl)
  have c20 : w1.cell? ⟨W.heap.size + 1, 0, none⟩ = _ := (b1.cell (by simp)).trans (by simp; rfl)
  have c21 : w1.cell? ⟨W.heap.size + 1, 1, none⟩ = _ := (b1.cell (by simp)).trans (by simp; rfl)
  have c22 : w1.cell? ⟨W.heap.size + 1, 2, none⟩ = _ := (b1.cell (by simp)).trans (by simp; rfl)
  have c23 : w1.cell? ⟨W.heap.size + 1, 3, none⟩ = _ := (b1.cell (by simp)).trans (by simp; rfl)
  have c24 : w1.cell? ⟨W.heap.size + 1, 4, none⟩ = _ := (b1.cell (by simp)).trans (by simp; rfl)
  have B1 := Lib.hid (below_call (bb2 W _ _) b1)
  clear b1
  cases t
  · go_wp2_with fail
    go_ret
    exact ⟨retB HD2.out.symm, B1.out⟩
  go_wp2_with fail
  refine (E.out _ B1.out).mono ?_
  rintro e w2 ⟨rfl, b2⟩
  have HD3 := Lib.hid (show s = d by rw [HD2.out]; rfl)
  go_wp2_with fail
  go_ret
  exact ⟨retB HD3.out.symm, below_call B1.out b2⟩
end Go.Proofs.Ytpbnmbeedjhloaa.Trc
