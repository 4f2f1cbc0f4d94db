/-
  The walk of the law TraceOrder.
-/
import Derived.Test.YtpbnmbeedjhloaaTrcL
import Derived.Test.YtpbnmbeedjhloaaTrcO
import Derived.Test.YtpbnmbeedjhloaaTrcP
namespace Go.Proofs.Ytpbnmbeedjhloaa.Trc
open Go.RowKit Go.Maps
set_option linter.unusedVariables false

theorem pre_self (l : List Ev) : preB l l = true := preB_iff.2 ⟨[], by simp⟩
theorem pre_nil (l : List Ev) : preB [] l = true := preB_iff.2 ⟨l, rfl⟩
theorem pre_app (l m : List Ev) : preB l (l ++ m) = true := preB_iff.2 ⟨m, rfl⟩
theorem pre_trans {l m n : List Ev} (h : preB l m = true) (k : preB m n = true) : preB l n = true := by
  rw [preB_iff] at *
  obtain ⟨r, rfl⟩ := h
  obtain ⟨s, rfl⟩ := k
  exact ⟨r ++ s, by simp⟩
theorem pre_anti (l m : List Ev) : sameB ⟨0, 0, [], l, 0⟩ ⟨0, 0, [], m, 0⟩ = (preB l m && preB m l) := by
  rw [Bool.eq_iff_iff, sameB_iff, Bool.and_eq_true, preB_iff, preB_iff]
  constructor
  · intro h
    injection h with _ _ _ h _
    subst h
    exact ⟨⟨[], by simp⟩, ⟨[], by simp⟩⟩
  · rintro ⟨⟨r, hr⟩, s, hs⟩
    have e : l = m := by
      have h1 := congrArg List.length hr
      have h2 := congrArg List.length hs
      simp at h1 h2
      have : r = [] := List.eq_nil_of_length_eq_zero (by omega)
      rw [this] at hr
      simpa using hr.symm
    rw [e]

theorem below_grown {B : Nat} {W w w' : World} {row : Option Nat} (h : Below B W w) (g : w.grownBy w' row) (hB : B ≤ w.heap.size) (hr : ∀ k, row = some k → B ≤ k) : Below B W w' := h.grown g hB hr

theorem own_new (w W : World) (b : Below W.heap.size W w) : OwnE W.heap.size (w.alloc (.cells #[] 79)) (.slice (some ⟨w.heap.size, 0, none⟩) 0 0) [] :=
  ⟨⟨rfl, .inr ⟨w.heap.size, 0, #[], rfl, b.size, heap_last _ _ _ rfl, Nat.le_refl _, by unfold maxLen; omega, rfl, rfl⟩⟩, (fun p hp => by cases hp), (fun p hp => by cases hp)⟩
set_option maxRecDepth 100000 in
set_option maxHeartbeats 16000000 in
theorem traceOrder_walk (x : List Ev) (a1 : Option Addr) (c1 : Nat) (y : List Ev) (a2 : Option Addr) (c2 : Nat) (z : List Ev) (a3 : Option Addr) (c3 : Nat) (W : World) (h1 : EvsAt W a1 x.length c1 x) (h2 : EvsAt W a2 y.length c2 y) (h3 : EvsAt W a3 z.length c3 z) :
    Calls Try.prog 9 #[.slice a1 x.length c1, .slice a2 y.length c2, .slice a3 z.length c3] W fun e w' => e = .returned (.bool true) ∧ Below W.heap.size W w' := by
  have GA := Lib.hid (fun w b => greatAll_any a1 c1 x w (h1.below (w := w) b))
  have GB := Lib.hid (fun w b => greatAll_any a2 c2 y w (h2.below (w := w) b))
  have GC := Lib.hid (fun w b => greatAll_any a3 c3 z w (h3.below (w := w) b))
  have LA := Lib.hid (fun (h : greatB ⟨0, 0, [], x, 0⟩ = false) => (great_few h).1)
  have LB := Lib.hid (fun (h : greatB ⟨0, 0, [], y, 0⟩ = false) => (great_few h).1)
  have AB := Lib.hid (fun w b => begins_any a1 a2 x.length c1 y.length c2 x y w (h1.below (w := w) b) (h2.below b))
  have BA := Lib.hid (fun w b => begins_any a2 a1 y.length c2 x.length c1 y x w (h2.below (w := w) b) (h1.below b))
  have BC := Lib.hid (fun w b => begins_any a2 a3 y.length c2 z.length c3 y z w (h2.below (w := w) b) (h3.below b))
  have AC := Lib.hid (fun w b => begins_any a1 a3 x.length c1 z.length c3 x z w (h1.below (w := w) b) (h3.below b))
  have AA := Lib.hid (fun w b => begins_any a1 a1 x.length c1 x.length c1 x x w (h1.below (w := w) b) (h1.below b))
  have NA := Lib.hid (fun w b => begins_any none a1 0 0 x.length c1 [] x w (EvsAt.nil w) (h1.below (w := w) b))
  have AD := Lib.hid (fun w a n c b k => begins_any a1 a x.length c1 n c x (x ++ y) w (h1.below (w := w) b) k)
  rw [pre_self] at AA
  rw [pre_nil] at NA
  rw [pre_app] at AD
  have SM : Hid (∀ w, Below W.heap.size W w → Calls Try.prog 50 #[.agg #[.int .i8 0, .int .u64 0, .slice none 0 0, .slice a1 x.length c1, .int .i64 0], .agg #[.int .i8 0, .int .u64 0, .slice none 0 0, .slice a2 y.length c2, .int .i64 0]] w fun e w' => e = .returned (.bool (sameB ⟨0, 0, [], x, 0⟩ ⟨0, 0, [], y, 0⟩)) ∧ Below w.heap.size w w') :=
    fun w b => same_any ⟨0, 0, [], x, 0⟩ ⟨0, 0, [], y, 0⟩ none a1 none a2 0 c1 0 c2 w ⟨BytesAt.nil w, h1.below b⟩ ⟨BytesAt.nil w, h2.below b⟩
  rw [pre_anti] at SM
  have TR := Lib.hid (fun (h : preB x y = true) (k : preB y z = true) => pre_trans h k)
  have H1 := Lib.hid h1
  have H2 := Lib.hid h2
  clear h1 h2 h3
  generalize preB x y = ab at *
  generalize preB y x = ba at *
  generalize preB y z = bc at *
  generalize preB x z = ac at *
  generalize greatB ⟨0, 0, [], x, 0⟩ = ga at *
  generalize greatB ⟨0, 0, [], y, 0⟩ = gb at *
  generalize greatB ⟨0, 0, [], z, 0⟩ = gc at *
  go_enter Try.func9, Try.ntmps9
  go_wp2_with fail
  refine (GA.out _ (Below.refl _ _)).mono ?_
  rintro e w1 ⟨rfl, b1⟩
  have BW := Lib.hid b1; clear b1
  cases ga
  case true =>
    go_wp2_with fail
    refine (wakes_any _).mono ?_
    rintro e w9 ⟨rfl, b9⟩
    go_wp2_with fail
    go_ret
    exact ⟨rfl, below_call BW.out b9⟩
  go_wp2_with fail
  refine (GB.out _ BW.out).mono ?_
  rintro e w2 ⟨rfl, b2⟩
  replace BW := Lib.hid (below_call BW.out b2); clear b2
  cases gb
  case true =>
    go_wp2_with fail
    refine (wakes_any _).mono ?_
    rintro e w9 ⟨rfl, b9⟩
    go_wp2_with fail
    go_ret
    exact ⟨rfl, below_call BW.out b9⟩
  go_wp2_with fail
  refine (GC.out _ BW.out).mono ?_
  rintro e w3 ⟨rfl, b3⟩
  replace BW := Lib.hid (below_call BW.out b3); clear b3
  cases gc
  case true =>
    go_wp2_with fail
    refine (wakes_any _).mono ?_
    rintro e w9 ⟨rfl, b9⟩
    go_wp2_with fail
    go_ret
    exact ⟨rfl, below_call BW.out b9⟩
  have hlx := Lib.hid (LA.out (by trivial))
  have hly := Lib.hid (LB.out (by trivial))
  clear GA GB GC LA LB
  go_wp2_with fail
  refine (AB.out _ BW.out).mono ?_
  rintro e w4 ⟨rfl, b4⟩
  replace BW := Lib.hid (below_call BW.out b4); clear b4
  go_wp2_with fail
  refine (BA.out _ BW.out).mono ?_
  rintro e w5 ⟨rfl, b5⟩
  replace BW := Lib.hid (below_call BW.out b5); clear b5
  go_wp2_with fail
  refine (BC.out _ BW.out).mono ?_
  rintro e w6 ⟨rfl, b6⟩
  replace BW := Lib.hid (below_call BW.out b6); clear b6
  go_wp2_with fail
  refine (AC.out _ BW.out).mono ?_
  rintro e w7 ⟨rfl, b7⟩
  replace BW := Lib.hid (below_call BW.out b7); clear b7
  go_wp2_with fail
  refine (SM.out _ BW.out).mono ?_
  rintro e w8 ⟨rfl, b8⟩
  replace BW := Lib.hid (below_call BW.out b8); clear b8
  clear AB BA BC AC SM
  have O1 := Lib.hid (own_new w8 W BW.out)
  go_wp2_with (at_builtin; refine wpList_append_evs rfl _ _ rfl _ [] rfl O1.out a1 c1 x rfl H1.out (below_new BW.out _) (by have := hlx.out; simp; omega) ?_)
  rintro v1 w10 q1 hq1 own1 g1 l1
  replace BW := Lib.hid ((below_new BW.out (.cells #[] 79)).grown g1 (below_new BW.out _).size l1)
  have O2 := Lib.hid own1
  have hqx := Lib.hid hq1
  clear own1 g1 l1 hq1 O1
  go_wp2_with (at_builtin; refine wpList_append_evs rfl _ _ rfl _ _ rfl O2.out a2 c2 y rfl H2.out BW.out (by have := hlx.out; have := hly.out; have := congrArg List.length hqx.out; simp at this ⊢; omega) ?_)
  rintro v2 w11 q2 hq2 own2 g2 l2
  replace BW := Lib.hid (BW.out.grown g2 BW.out.size l2)
  have hqy := Lib.hid hq2
  obtain ⟨a4, c4, rfl, he4⟩ := own2.evs
  have hlen : (q1 ++ q2).map (fun p : Ev × (Option Addr × Nat) => p.1) = x ++ y := by rw [List.map_append, hqx.out, hqy.out]
  rw [hlen] at he4
  have HE := Lib.hid he4
  generalize (q1 ++ q2).length = n4 at *
  clear own2 g2 l2 hq2 O2 hlen he4 hqx hqy hlx hly
  go_wp2_with fail
  refine (AA.out _ BW.out).mono ?_
  rintro e w12 ⟨rfl, b12⟩
  replace BW := Lib.hid (below_call BW.out b12)
  replace HE := Lib.hid (HE.out.below b12)
  clear b12
  cases ab
  case false =>
    clear TR
    go_wp2_with fail
    refine (NA.out _ BW.out).mono ?_
    rintro e w13 ⟨rfl, b13⟩
    replace BW := Lib.hid (below_call BW.out b13)
    replace HE := Lib.hid (HE.out.below b13)
    clear b13
    go_wp2_with fail
    refine (AD.out _ _ _ _ BW.out HE.out).mono ?_
    rintro e w14 ⟨rfl, b14⟩
    replace BW := Lib.hid (below_call BW.out b14)
    clear b14
    go_wp2_with fail
    refine (wakes_any _).mono ?_
    rintro e w15 ⟨rfl, b15⟩
    go_wp2_with fail
    go_ret
    exact ⟨rfl, below_call BW.out b15⟩
  cases ba <;> cases bc
  case false.false | true.false =>
    clear TR
    go_wp2_with fail
    refine (NA.out _ BW.out).mono ?_
    rintro e w13 ⟨rfl, b13⟩
    replace BW := Lib.hid (below_call BW.out b13)
    replace HE := Lib.hid (HE.out.below b13)
    clear b13
    go_wp2_with fail
    refine (AD.out _ _ _ _ BW.out HE.out).mono ?_
    rintro e w14 ⟨rfl, b14⟩
    replace BW := Lib.hid (below_call BW.out b14)
    clear b14
    go_wp2_with fail
    refine (wakes_any _).mono ?_
    rintro e w15 ⟨rfl, b15⟩
    go_wp2_with fail
    go_ret
    exact ⟨rfl, below_call BW.out b15⟩
  case false.true | true.true =>
    have hac := TR.out (by trivial) (by trivial)
    subst hac
    clear TR
    go_wp2_with fail
    refine (NA.out _ BW.out).mono ?_
    rintro e w13 ⟨rfl, b13⟩
    replace BW := Lib.hid (below_call BW.out b13)
    replace HE := Lib.hid (HE.out.below b13)
    clear b13
    go_wp2_with fail
    refine (AD.out _ _ _ _ BW.out HE.out).mono ?_
    rintro e w14 ⟨rfl, b14⟩
    replace BW := Lib.hid (below_call BW.out b14)
    clear b14
    go_wp2_with fail
    refine (wakes_any _).mono ?_
    rintro e w15 ⟨rfl, b15⟩
    go_wp2_with fail
    go_ret
    exact ⟨rfl, below_call BW.out b15⟩
theorem traceOrder_law (x : List Ev) (a1 : Option Addr) (c1 : Nat) (y : List Ev) (a2 : Option Addr) (c2 : Nat) (z : List Ev) (a3 : Option Addr) (c3 : Nat) (W : World) (h1 : EvsAt W a1 x.length c1 x) (h2 : EvsAt W a2 y.length c2 y) (h3 : EvsAt W a3 z.length c3 z) :
    Calls Try.prog 9 #[.slice a1 x.length c1, .slice a2 y.length c2, .slice a3 z.length c3] W fun e w' => e = .returned (.bool true) ∧ Below W.heap.size W w' := traceOrder_walk x a1 c1 y a2 c2 z a3 c3 W h1 h2 h3
end Go.Proofs.Ytpbnmbeedjhloaa.Trc
