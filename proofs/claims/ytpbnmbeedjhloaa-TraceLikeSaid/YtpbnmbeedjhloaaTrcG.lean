/-
  What the laws of layer 5 share: Great, GreatAll, wakes.
-/
import Derived.Test.YtpbnmbeedjhloaaTrcE
namespace Go.Proofs.Ytpbnmbeedjhloaa.Trc
open Go.RowKit
set_option linter.unusedVariables false

def greatB (x : Out) : Bool := decide (100 < x.tr.length) || decide (1000 < x.ctx.length) || x.tr.any (fun e => decide (20 < e.args.length))
theorem great_few {x : Out} (h : greatB x = false) : x.tr.length ≤ 100 ∧ x.ctx.length ≤ 1000 ∧ ∀ (i : Nat) (e : Ev), x.tr[i]? = some e → e.args.length ≤ 20 := by
  unfold greatB at h
  rw [Bool.or_eq_false_iff, Bool.or_eq_false_iff, decide_eq_false_iff_not, decide_eq_false_iff_not, List.any_eq_false] at h
  refine ⟨by omega, by omega, fun i e he => ?_⟩
  have := h.2 e (List.mem_of_getElem? he)
  simp at this
  exact this

set_option maxHeartbeats 4000000 in
theorem great_any (x : Out) (ca ta : Option Addr) (cc tc : Nat) (W : World) (h : OutAt W x ca cc ta tc) :
    Calls Try.prog 48 #[outV x ca cc ta tc] W fun e w' => e = .returned (.bool (greatB x)) ∧ Below W.heap.size W w' := by
  have hcf := h.ctx.fit
  have hcl := h.ctx.le
  have htf := h.tr.fit
  have htl := h.tr.le
  have H := Lib.hid (fun o => h.tr.below (below_new (Below.refl _ W) o))
  clear h
  generalize hs : greatB x = s
  have HS := Lib.hid hs; clear hs
  by_cases g1 : 100 < x.tr.length
  · have HD := Lib.hid (show s = true by rw [← HS.out]; unfold greatB; rw [decide_eq_true g1]; rfl)
    clear HS H
    obtain ⟨xk, xr, xc, xt, xl⟩ := x
    simp only [outV] at *
    generalize xt.length = tl at *
    generalize xc.length = cl at *
    have e0 : decide ((100 : Int) < (tl : Int)) = true := decide_eq_true (by omega)
    go_enter Try.func48, Try.ntmps48
    go_wp2_with fail
    go_ret
    exact ⟨retB HD.out.symm, below_new (Below.refl _ W) _⟩
  by_cases g2 : 1000 < x.ctx.length
  · have HD := Lib.hid (show s = true by rw [← HS.out]; unfold greatB; rw [decide_eq_true g2]; simp)
    clear HS H
    obtain ⟨xk, xr, xc, xt, xl⟩ := x
    simp only [outV] at *
    generalize xt.length = tl at *
    generalize xc.length = cl at *
    have e0 : decide ((100 : Int) < (tl : Int)) = false := decide_eq_false (by omega)
    have e1 : decide ((1000 : Int) < (cl : Int)) = true := decide_eq_true (by omega)
    go_enter Try.func48, Try.ntmps48
    go_wp2_with fail
    go_ret
    exact ⟨retB HD.out.symm, below_new (Below.refl _ W) _⟩
  have HD := Lib.hid (show s = x.tr.any (fun e => decide (20 < e.args.length)) by rw [← HS.out]; unfold greatB; rw [decide_eq_false g1, decide_eq_false g2]; rfl)
  clear HS
  obtain ⟨xk, xr, xc, xt, xl⟩ := x
  simp only [outV] at *
  have SL := Lib.hid (show xt.length = xt.length from rfl)
  generalize hgl : xt.length = tl at *
  have GL := Lib.hid hgl; clear hgl SL
  generalize xc.length = cl at *
  have e0 : decide ((100 : Int) < (tl : Int)) = false := decide_eq_false (by omega)
  have e1 : decide ((1000 : Int) < (cl : Int)) = false := decide_eq_false (by omega)
  go_enter Try.func48, Try.ntmps48
  go_wp2_with fail
  go_loop [3] (fun i => ∃ k : Nat, k ≤ tl ∧ i = .int .i64 k ∧ Hid (∀ j e, j < k → xt[j]? = some e → e.args.length ≤ 20)) (fun i => tl - (intOf i).toNat)
  case atStart => exact ⟨0, by omega, rfl, Lib.hid (fun j e h => by omega)⟩
  case round =>
    obtain ⟨k, hk, rfl, hR⟩ := hrel
    by_cases hlt : k < tl
    · obtain ⟨b1, o1, rfl, g⟩ := (H.out (.cells #[.int .i8 xk, .int .u64 xr, .slice ca cl cc, .slice ta tl tc, .int .i64 xl] 76)).here (by have := GL.out; show 0 < _; omega)
      obtain ⟨e, he⟩ : ∃ e, xt[k]? = some e := ⟨_, List.getElem?_eq_getElem (by have := GL.out; omega)⟩
      obtain ⟨na, nc, q, i1⟩ := g k e he
      obtain ⟨x0, x1, x2⟩ := ev_cells q
      have HE := Lib.hid he
      have fl := i1.fit
      have fl2 := i1.le
      clear g he q i1 x0 x2
      generalize hn : e.args.length = n at *
      have HN := Lib.hid hn; clear hn
      by_cases g3 : 20 < n
      · have e2 : decide ((20 : Int) < (n : Int)) = true := decide_eq_true (by omega)
        have HD2 := Lib.hid (show s = true by rw [HD.out, List.any_eq_true]; exact ⟨e, List.mem_of_getElem? HE.out, decide_eq_true (by rw [HN.out]; exact g3)⟩)
        go_wp2_with fail
        go_ret
        exact ⟨retB HD2.out.symm, below_new (Below.refl _ W) _⟩
      · have e2 : decide ((20 : Int) < (n : Int)) = false := decide_eq_false (by omega)
        go_wp2_with fail
        go_round
        case rel => exact ⟨k + 1, by omega, by go_num, Lib.hid (fun j e' hj he' => by
          by_cases hjk : j = k
          · subst hjk
            have := HE.out
            rw [he'] at this
            injection this with this
            subst this
            rw [HN.out]; omega
          · exact hR.out j e' (by omega) he')⟩
        case measure => simp [intOf]; omega
    · obtain rfl : k = tl := by omega
      have HD2 := Lib.hid (show s = false by
        rw [HD.out, List.any_eq_false]
        intro e he
        obtain ⟨j, hj⟩ := List.mem_iff_getElem?.1 he
        have := hR.out j e (by have := (List.getElem?_eq_some_iff.1 hj).1; have := GL.out; omega) hj
        simpa using this)
      go_wp2_with fail
      go_ret
      exact ⟨retB HD2.out.symm, below_new (Below.refl _ W) _⟩

theorem greatAll_any (ta : Option Addr) (tc : Nat) (es : List Ev) (W : World) (h : EvsAt W ta es.length tc es) :
    Calls Try.prog 63 #[.slice ta es.length tc] W fun e w' => e = .returned (.bool (greatB ⟨0, 0, [], es, 0⟩)) ∧ Below W.heap.size W w' := by
  have G : Hid (Calls Try.prog 48 #[.agg #[.int .i8 0, .int .u64 0, .slice none 0 0, .slice ta es.length tc, .int .i64 0]] W fun e w' => e = .returned (.bool (greatB ⟨0, 0, [], es, 0⟩)) ∧ Below W.heap.size W w') := great_any ⟨0, 0, [], es, 0⟩ none ta 0 tc W ⟨BytesAt.nil W, h⟩
  clear h
  generalize greatB _ = s at *
  generalize es.length = n at *
  go_enter Try.func63, Try.ntmps63
  go_wp2_with fail
  refine G.out.mono ?_
  rintro e w1 ⟨rfl, b1⟩
  go_wp2_with fail
  go_ret
  exact ⟨rfl, b1⟩

def wo (l : Int) : Value := .agg #[.int .i8 1, .int .u64 5, .slice none 0 0, .slice none 0 0, .int .i64 l]
def wk (k : Int) : Value := .agg #[.int .i8 k, .int .u64 0, .slice none 0 0, .slice none 0 0, .int .i64 0]
theorem empty_at (W : World) (k r l : Int) : OutAt W ⟨k, r, [], [], l⟩ none 0 none 0 := ⟨BytesAt.nil W, EvsAt.nil W⟩

set_option maxHeartbeats 4000000 in
theorem wakes_any (W : World) : Calls Try.prog 49 #[] W fun e w' => e = .returned (.bool true) ∧ Below W.heap.size W w' := by
  have T1 : Hid (∀ w, Calls Try.prog 52 #[.agg #[.int .i8 1, .int .u64 5, .slice none 0 0, .slice none 0 0, .int .i64 3], .agg #[.int .i8 1, .int .u64 5, .slice none 0 0, .slice none 0 0, .int .i64 9]] w fun e w' => e = .returned (.bool true) ∧ Below w.heap.size w w') := fun w => like_any ⟨1, 5, [], [], 3⟩ ⟨1, 5, [], [], 9⟩ none none none none 0 0 0 0 w (empty_at w 1 5 3) (empty_at w 1 5 9)
  have T2 : Hid (∀ w, Calls Try.prog 50 #[.agg #[.int .i8 1, .int .u64 5, .slice none 0 0, .slice none 0 0, .int .i64 3], .agg #[.int .i8 1, .int .u64 5, .slice none 0 0, .slice none 0 0, .int .i64 9]] w fun e w' => e = .returned (.bool false) ∧ Below w.heap.size w w') := fun w => same_any ⟨1, 5, [], [], 3⟩ ⟨1, 5, [], [], 9⟩ none none none none 0 0 0 0 w (empty_at w 1 5 3) (empty_at w 1 5 9)
  have T3 : Hid (∀ w, Calls Try.prog 52 #[.agg #[.int .i8 2, .int .u64 0, .slice none 0 0, .slice none 0 0, .int .i64 0], .agg #[.int .i8 3, .int .u64 0, .slice none 0 0, .slice none 0 0, .int .i64 0]] w fun e w' => e = .returned (.bool false) ∧ Below w.heap.size w w') := fun w => like_any ⟨2, 0, [], [], 0⟩ ⟨3, 0, [], [], 0⟩ none none none none 0 0 0 0 w (empty_at w 2 0 0) (empty_at w 3 0 0)
  have T4 : Hid (∀ w, Calls Try.prog 60 #[.int .i64 2] w fun e w' => e = .returned (.int .i64 192) ∧ w = w') := fun w => fuel_any 2 w
  go_enter Try.func49, Try.ntmps49
  go_wp2_with fail
  refine (T1.out _).mono ?_
  rintro e w1 ⟨rfl, b1⟩
  have X1 := ((Box5.new W ⟨1, 5, [], [], 3⟩ none none 0 0 76 W.heap.size rfl).past (.cells #[.int .i8 1, .int .u64 5, .slice none 0 0, .slice none 0 0, .int .i64 9] 76)).below b1 |>.all
  have X2 := ((Box5.new (W.alloc (.cells #[.int .i8 1, .int .u64 5, .slice none 0 0, .slice none 0 0, .int .i64 3] 76)) ⟨1, 5, [], [], 9⟩ none none 0 0 76 (W.heap.size + 1) (by simp))).below b1 |>.all
  simp only [List.length_nil] at X1 X2
  obtain ⟨c10, c11, c12, c13, c14⟩ := X1
  obtain ⟨c20, c21, c22, c23, c24⟩ := X2
  have B1 := Lib.hid (below_call (bb2 W _ _) b1)
  clear b1
  go_wp2_with fail
  refine (T2.out _).mono ?_
  rintro e w2 ⟨rfl, b2⟩
  have B2 := Lib.hid (below_call B1.out b2)
  clear b2 c10 c11 c12 c13 c14 c20 c21 c22 c23 c24
  go_wp2_with fail
  refine (T3.out _).mono ?_
  rintro e w3 ⟨rfl, b3⟩
  have B3 := Lib.hid (below_call B2.out b3)
  clear b3
  go_wp2_with fail
  refine (T4.out _).mono ?_
  rintro e w4 ⟨rfl, rfl⟩
  go_wp2_with fail
  go_ret
  exact ⟨rfl, B3.out⟩
end Go.Proofs.Ytpbnmbeedjhloaa.Trc
