/-
  May: the program's and the document's.
-/
import Derived.Test.YtbpefomjmjkciaaBlkF
import Derived.Deep.LoopGhost
namespace Go.Proofs.Ytbpefomjmjkciaa.Blk
open Go.RowKit Go.Maps Go.Sort Ins
set_option linter.unusedVariables false
set_option maxRecDepth 100000

/-- Has a block the form that is asked, the one ahead of it ending at 'at'? -/
def mayB (n : Nat) (at_ : Int) (x : Bk) : Bool := decide (x.fr = at_ ∧ at_ < x.to ∧ x.to ≤ 64 ∧ x.next.length ≤ 2) && x.next.all fun z => decide (0 ≤ z ∧ z < n)
/-- Where the block ahead of block k ends. -/
def endB (bs : List Bk) : Nat → Int
  | 0 => 0
  | k + 1 => ((bs[k]?).map (·.to)).getD 0
def mayL (bs : List Bk) : Bool := (List.range bs.length).all fun k => match bs[k]? with | some x => mayB bs.length (endB bs k) x | none => true
theorem mayL_yes {bs : List Bk} (h : ∀ k x, bs[k]? = some x → mayB bs.length (endB bs k) x = true) : mayL bs = true := by
  unfold mayL
  rw [List.all_eq_true]
  intro k _
  cases hx : bs[k]? with
  | none => rfl
  | some x => exact h k x hx
theorem mayL_all {bs : List Bk} (h : mayL bs = true) {k : Nat} {x : Bk} (hx : bs[k]? = some x) : mayB bs.length (endB bs k) x = true := by
  unfold mayL at h
  rw [List.all_eq_true] at h
  have := h k (by rw [List.mem_range]; exact (List.getElem?_eq_some_iff.1 hx).1)
  rw [hx] at this
  exact this
theorem mayL_no {bs : List Bk} {k : Nat} {x : Bk} (hx : bs[k]? = some x) (h : mayB bs.length (endB bs k) x = false) : mayL bs = false := by
  cases hm : mayL bs
  · rfl
  · have := mayL_all hm hx; rw [h] at this; cases this
theorem endB_succ {bs : List Bk} {k : Nat} {x : Bk} (hx : bs[k]? = some x) : endB bs (k + 1) = x.to := by
  show ((bs[k]?).map (·.to)).getD 0 = x.to
  rw [hx]; rfl
theorem mayB_no {n : Nat} {at_ : Int} {x : Bk} {j : Nat} {z : Int} (hz : x.next[j]? = some z) (h : ¬ (0 ≤ z ∧ z < n)) : mayB n at_ x = false := by
  unfold mayB
  rw [Bool.and_eq_false_iff]
  refine .inr ?_
  rw [List.all_eq_false]
  exact ⟨z, List.mem_of_getElem? hz, by simpa using h⟩
theorem mayB_head {n : Nat} {at_ : Int} {x : Bk} (h : ¬ (x.fr = at_ ∧ at_ < x.to ∧ x.to ≤ 64 ∧ x.next.length ≤ 2)) : mayB n at_ x = false := by
  unfold mayB
  rw [decide_eq_false h]; rfl
theorem mayB_yes {n : Nat} {at_ : Int} {x : Bk} (h : x.fr = at_ ∧ at_ < x.to ∧ x.to ≤ 64 ∧ x.next.length ≤ 2) (h2 : ∀ (j : Nat) (z : Int), x.next[j]? = some z → 0 ≤ z ∧ z < n) : mayB n at_ x = true := by
  unfold mayB
  rw [decide_eq_true h, Bool.true_and, List.all_eq_true]
  intro z hz
  obtain ⟨j, hj⟩ := List.mem_iff_getElem?.1 hz
  exact decide_eq_true (h2 j z hj)

set_option maxHeartbeats 4000000 in
theorem may_any (a : Option Addr) (n c : Nat) (bs : List Bk) (W : World) (h : Blks W a n c bs) :
    Calls Try.prog 24 #[.slice a n c] W fun e w' => e = .returned (.bool (mayL bs)) ∧ Below W.heap.size W w' := by
  have l1 := h.le
  have f1 := h.fit
  have S := Lib.hid h.size
  have H := Lib.hid (fun w b => Blks.below (w := w) h b)
  clear h
  generalize hr : mayL bs = r
  have HR := Lib.hid hr; clear hr
  go_enter Try.func24, Try.ntmps24
  go_wp2_with fail
  go_step3
  go_wp2_with fail
  go_step3
  go_wp2_with fail
  go_loopg [3, 4, 11] n (fun g at_ good i wr => ∃ k : Nat, k + g = n ∧ i = .int .i64 k ∧ good = .int .i64 k ∧ at_ = .int .i64 (endB bs k) ∧ Hid (Below W.heap.size W wr ∧ ∀ (j : Nat) (x : Bk), j < k → bs[j]? = some x → mayB bs.length (endB bs j) x = true))
  case atStart => exact ⟨0, by omega, rfl, rfl, rfl, Lib.hid ⟨Below.refl _ _, fun j x h => by omega⟩⟩
  case round =>
    obtain ⟨k, hkg, rfl, rfl, rfl, hR⟩ := hrel
    have BW := Lib.hid hR.out.1
    have AL := Lib.hid hR.out.2
    by_cases hlt : k < n
    · obtain ⟨b1, o1, rfl, g1⟩ := (H.out wr hR.out.1).here (by omega)
      obtain ⟨x, hx⟩ : ∃ x, bs[k]? = some x := ⟨_, List.getElem?_eq_getElem (by have := S.out; omega)⟩
      obtain ⟨na1, nc1, q1, i1⟩ := g1 k x hx
      obtain ⟨x0, x1, x2⟩ := blk_cells q1
      have HX := Lib.hid hx
      clear g1 hx q1 hR
      have NO := Lib.hid (show mayB bs.length (endB bs k) x = false → r = false from fun h => HR.out.symm.trans (mayL_no HX.out h))
      have MH := Lib.hid (show ¬ (x.fr = endB bs k ∧ endB bs k < x.to ∧ x.to ≤ 64 ∧ x.next.length ≤ 2) → r = false from fun h => NO.out (mayB_head h))
      have MZ := Lib.hid (show ∀ (j : Nat) (z : Int), x.next[j]? = some z → ¬ (0 ≤ z ∧ z < bs.length) → r = false from fun j z hz h => NO.out (mayB_no hz h))
      have MY := Lib.hid (show (x.fr = endB bs k ∧ endB bs k < x.to ∧ x.to ≤ 64 ∧ x.next.length ≤ 2) → (∀ (j : Nat) (z : Int), x.next[j]? = some z → 0 ≤ z ∧ z < bs.length) → mayB bs.length (endB bs k) x = true from fun h h2 => mayB_yes h h2)
      have ES := Lib.hid (endB_succ HX.out)
      have ekn : ((k : Int) == (n : Int)) = false := by simpa using (by omega : ¬ (k : Int) = (n : Int))
      have hb1 := lt_of_cell x0
      have IB := Lib.hid (fun w b => i1.below (w := w) b)
      have hnl := i1.le
      have hnf := i1.fit
      clear i1
      generalize hek : endB bs k = ek at *
      have HEK := Lib.hid hek; clear hek
      generalize x.fr = xf at *
      generalize x.to = xt at *
      generalize hnx : x.next = xn at *
      clear hnx
      by_cases c1 : xf = ek
      case neg =>
        have e0 : (xf != ek) = true := by simpa using c1
        have NN := Lib.hid (MH.out (fun h => c1 h.1))
        clear c1
        go_wp2_with fail
        try rw [Exit.noGoto_ret]
        go_ret
        exact ⟨by rw [NN.out]; rfl, below_new BW.out _⟩
      subst c1
      by_cases c2 : xf < xt
      case neg =>
        have c2' : xt ≤ xf := by omega
        have NN := Lib.hid (MH.out (fun h => c2 h.2.1))
        clear c2
        go_wp2_with fail
        try rw [Exit.noGoto_ret]
        go_ret
        exact ⟨by rw [NN.out]; rfl, below_new BW.out _⟩
      by_cases c3 : xt ≤ 64
      case neg =>
        have c3' : 64 < xt := by omega
        have NN := Lib.hid (MH.out (fun h => c3 h.2.2.1))
        clear c3
        go_wp2_with fail
        try rw [Exit.noGoto_ret]
        go_ret
        exact ⟨by rw [NN.out]; rfl, below_new BW.out _⟩
      by_cases c4 : xn.length ≤ 2
      case neg =>
        have c4' : (2 : Int) < (xn.length : Int) := by omega
        have NN := Lib.hid (MH.out (fun h => c4 h.2.2.2))
        clear c4
        go_wp2_with fail
        try rw [Exit.noGoto_ret]
        go_ret
        exact ⟨by rw [NN.out]; rfl, below_new BW.out _⟩
      have c4' : (xn.length : Int) ≤ 2 := by omega
      have MZ2 := Lib.hid (fun j z hz => MZ.out j z hz)
      go_wp2_with fail
      go_loopg [39] xn.length (fun g j wy => ∃ m : Nat, m + g = xn.length ∧ j = .int .i64 m ∧ wy = wr.alloc (.cells #[.int .i64 xf, .int .i64 xt, .slice na1 xn.length nc1] 55) ∧ Hid (∀ (t : Nat) (z : Int), t < m → xn[t]? = some z → 0 ≤ z ∧ z < bs.length))
      case atStart => exact ⟨0, by omega, rfl, rfl, Lib.hid (fun t z h => by omega)⟩
      case round =>
        obtain ⟨m, hmg, rfl, rfl, AZ⟩ := hrel
        have x0' : (wr.alloc (.cells #[.int .i64 xf, .int .i64 xt, .slice na1 xn.length nc1] 55)).cell? ⟨wr.heap.size, 1, none⟩ = some (.int .i64 xt) := by simp
        clear x0 x1 x2
        by_cases hm : m < xn.length
        · obtain ⟨bn, on, rfl, hc⟩ := (IB.out _ ((Below.refl wr.heap.size wr).alloc (Nat.le_refl _) (.cells #[.int .i64 xf, .int .i64 xt, .slice na1 xn.length nc1] 55))).here (by omega)
          obtain ⟨z, hz⟩ : ∃ z, xn[m]? = some z := ⟨_, List.getElem?_eq_getElem hm⟩
          have hcz := hc m z hz
          have HZ := Lib.hid hz
          clear hc hz x0'
          by_cases d1 : 0 ≤ z
          case neg =>
            have d1' : z < 0 := by omega
            have NN := Lib.hid (MZ2.out m z HZ.out (fun h => d1 h.1))
            clear d1
            go_wp2_with fail
            try rw [Exit.noGoto_ret]
            go_ret
            exact ⟨by rw [NN.out]; rfl, below_new BW.out _⟩
          by_cases d2 : z < n
          case neg =>
            have d2' : (n : Int) ≤ z := by omega
            have NN := Lib.hid (MZ2.out m z HZ.out (fun h => d2 (by have := S.out; omega)))
            clear d2
            go_wp2_with fail
            try rw [Exit.noGoto_ret]
            go_ret
            exact ⟨by rw [NN.out]; rfl, below_new BW.out _⟩
          go_wp2_with fail
          go_roundg (xn.length - (m + 1))
          case measure => omega
          case rel => exact ⟨m + 1, by omega, by go_num, rfl, Lib.hid (fun t y ht hy => by
            by_cases e : t = m
            · subst e; rw [HZ.out] at hy; injection hy with hy; subst hy; have := S.out; omega
            · exact AZ.out t y (by omega) hy)⟩
        · obtain rfl : m = xn.length := by omega
          have MB := Lib.hid (MY.out ⟨by trivial, c2, c3, c4⟩ (fun j z hz => AZ.out j z (List.getElem?_eq_some_iff.1 hz).1 hz))
          go_wp2_with fail
          go_roundg (n - (k + 1))
          case measure => omega
          case rel => exact ⟨k + 1, by omega, by go_num, by go_num, by rw [ES.out], Lib.hid ⟨below_new BW.out _, fun j y hj hy => by
            by_cases e : j = k
            · subst e; rw [HX.out] at hy; injection hy with hy; subst hy; rw [HEK.out]; exact MB.out
            · exact AL.out j y (by omega) hy⟩⟩
    · obtain rfl : k = n := by omega
      have E := Lib.hid (show r = true from HR.out.symm.trans (mayL_yes (fun j x hx => AL.out j x (by have := S.out; have := (List.getElem?_eq_some_iff.1 hx).1; omega) hx)))
      clear hR
      go_wp2_with fail
      try rw [Exit.noGoto_ret]
      go_ret
      exact ⟨by rw [E.out]; rfl, BW.out⟩
end Go.Proofs.Ytbpefomjmjkciaa.Blk
