/-
  The document's answer latheref04: May.
-/
import Derived.Test.YtbpefomjmjkciaaBlkG
namespace Go.Proofs.Ytbpefomjmjkciaa.Blk
open Go.RowKit Go.Maps Go.Sort Ins
set_option linter.unusedVariables false
set_option maxRecDepth 100000

set_option maxHeartbeats 4000000 in
theorem r_may (a : Option Addr) (n c : Nat) (bs : List Bk) (W : World) (h : Blks W a n c bs) :
    Calls Try.prog 25 #[.slice a n c] W (QB (mayL bs) W) := by
  have l1 := h.le
  have f1 := h.fit
  have S := Lib.hid h.size
  have H := Lib.hid (fun w b => Blks.below (w := w) h b)
  clear h
  generalize hr : mayL bs = r
  have HR := Lib.hid hr; clear hr
  go_enter Try.func25, Try.ntmps25
  go_wp2_with fail
  go_loopg [3, 4] n (fun g at_ i wr => ∃ k : Nat, k + g = n ∧ i = .int .i64 k ∧ at_ = .int .i64 (endB bs k) ∧ (∃ nd, W.drewN nd = wr) ∧ Hid (∀ (j : Nat) (x : Bk), j < k → bs[j]? = some x → mayB bs.length (endB bs j) x = true))
  case atStart => exact ⟨0, by omega, rfl, rfl, ⟨0, rfl⟩, Lib.hid (fun j x h => by omega)⟩
  case round =>
    obtain ⟨k, hkg, rfl, rfl, ⟨nd, rfl⟩, AL⟩ := hrel
    by_cases hlt : k < n
    · obtain ⟨b1, o1, rfl, g1⟩ := (H.out W (Below.refl _ _)).here (by omega)
      obtain ⟨x, hx⟩ : ∃ x, bs[k]? = some x := ⟨_, List.getElem?_eq_getElem (by have := S.out; omega)⟩
      obtain ⟨na1, nc1, q1, i1⟩ := g1 k x hx
      obtain ⟨x0, x1, x2⟩ := blk_cells q1
      have HX := Lib.hid hx
      clear g1 hx q1
      have NO := Lib.hid (show mayB bs.length (endB bs k) x = false → r = false from fun h => HR.out.symm.trans (mayL_no HX.out h))
      have MH := Lib.hid (show ¬ (x.fr = endB bs k ∧ endB bs k < x.to ∧ x.to ≤ 64 ∧ x.next.length ≤ 2) → r = false from fun h => NO.out (mayB_head h))
      have MZ := Lib.hid (show ∀ (j : Nat) (z : Int), x.next[j]? = some z → ¬ (0 ≤ z ∧ z < bs.length) → r = false from fun j z hz h => NO.out (mayB_no hz h))
      have MY := Lib.hid (show (x.fr = endB bs k ∧ endB bs k < x.to ∧ x.to ≤ 64 ∧ x.next.length ≤ 2) → (∀ (j : Nat) (z : Int), x.next[j]? = some z → 0 ≤ z ∧ z < bs.length) → mayB bs.length (endB bs k) x = true from fun h h2 => mayB_yes h h2)
      have ES := Lib.hid (endB_succ HX.out)
      have y3 : (0 : Int) ≤ (k : Int) := by omega
      have y4 : (k : Int) < (n : Int) := by omega
      have IB := Lib.hid i1.here
      have hnl := i1.le
      have hnf := i1.fit
      clear i1
      generalize hek : endB bs k = ek at *
      have HEK := Lib.hid hek; clear hek
      generalize x.fr = xf at *
      generalize x.to = xt at *
      generalize hnx : x.next = xn at *
      clear hnx
      by_cases c1 : xf = ek
      case neg =>
        have e0 : (xf != ek) = true := by simpa using c1
        have NN := Lib.hid (MH.out (fun h => c1 h.1))
        clear c1
        go_wp2_with fail
        go_quiet (fail)
        go_wp2_with fail
        go_ret
        exact ⟨by rw [NN.out]; rfl, nd + nq, by simp⟩
      subst c1
      by_cases c2 : xf < xt
      case neg =>
        have c2' : decide (xt ≤ xf) = true := decide_eq_true (by omega)
        have NN := Lib.hid (MH.out (fun h => c2 h.2.1))
        clear c2
        go_wp2_with fail
        go_quiet (fail)
        go_wp2_with fail
        go_ret
        exact ⟨by rw [NN.out]; rfl, nd + nq, by simp⟩
      have c2' : decide (xt ≤ xf) = false := decide_eq_false (by omega)
      by_cases c3 : xt ≤ 64
      case neg =>
        have c3' : decide (64 < xt) = true := decide_eq_true (by omega)
        have NN := Lib.hid (MH.out (fun h => c3 h.2.2.1))
        clear c3
        go_wp2_with fail
        go_quiet (fail)
        go_wp2_with fail
        go_ret
        exact ⟨by rw [NN.out]; rfl, nd + nq, by simp⟩
      have c3' : decide (64 < xt) = false := decide_eq_false (by omega)
      by_cases c4 : xn.length ≤ 2
      case neg =>
        have c4' : decide ((2 : Int) < (xn.length : Int)) = true := decide_eq_true (by omega)
        have NN := Lib.hid (MH.out (fun h => c4 h.2.2.2))
        clear c4
        go_wp2_with fail
        go_quiet (fail)
        go_wp2_with fail
        go_ret
        exact ⟨by rw [NN.out]; rfl, nd + nq, by simp⟩
      have c4' : decide ((2 : Int) < (xn.length : Int)) = false := decide_eq_false (by omega)
      go_wp2_with fail
      go_quiet (fail)
      go_wp2_with fail
      go_loopg [5] xn.length (fun g j wy => ∃ m : Nat, m + g = xn.length ∧ j = .int .i64 m ∧ wy = W.drewN (nd + nq) ∧ Hid (∀ (t : Nat) (z : Int), t < m → xn[t]? = some z → 0 ≤ z ∧ z < bs.length))
      case atStart => exact ⟨0, by omega, rfl, by simp, Lib.hid (fun t z h => by omega)⟩
      case round =>
        obtain ⟨m, hmg, rfl, rfl, AZ⟩ := hrel
        by_cases hm : m < xn.length
        · obtain ⟨bn, on, rfl, hc⟩ := IB.out (by omega)
          obtain ⟨z, hz⟩ : ∃ z, xn[m]? = some z := ⟨_, List.getElem?_eq_getElem hm⟩
          have hcz := hc m z hz
          have HZ := Lib.hid hz
          clear hc hz
          by_cases d1 : 0 ≤ z
          case neg =>
            have d1' : z < 0 := by omega
            have NN := Lib.hid (MZ.out m z HZ.out (fun h => d1 h.1))
            clear d1
            go_wp2_with fail
            go_ret
            exact ⟨by rw [NN.out]; rfl, nd + nq, by simp⟩
          by_cases d2 : z < n
          case neg =>
            have d2' : (n : Int) ≤ z := by omega
            have NN := Lib.hid (MZ.out m z HZ.out (fun h => d2 (by have := S.out; omega)))
            clear d2
            go_wp2_with fail
            go_ret
            exact ⟨by rw [NN.out]; rfl, nd + nq, by simp⟩
          go_wp2_with fail
          go_roundg (xn.length - (m + 1))
          case measure => omega
          case rel => exact ⟨m + 1, by omega, by go_num, rfl, Lib.hid (fun t y ht hy => by
            by_cases e : t = m
            · subst e; rw [HZ.out] at hy; injection hy with hy; subst hy; have := S.out; omega
            · exact AZ.out t y (by omega) hy)⟩
        · obtain rfl : m = xn.length := by omega
          have MB := Lib.hid (MY.out ⟨by trivial, c2, c3, c4⟩ (fun j z hz => AZ.out j z (List.getElem?_eq_some_iff.1 hz).1 hz))
          go_wp2_with fail
          go_roundg (n - (k + 1))
          case measure => omega
          case rel => exact ⟨k + 1, by omega, by go_num, by rw [ES.out], ⟨nd + nq, by simp⟩, Lib.hid (fun j y hj hy => by
            by_cases e : j = k
            · subst e; rw [HX.out] at hy; injection hy with hy; subst hy; rw [HEK.out]; exact MB.out
            · exact AL.out j y (by omega) hy)⟩
    · obtain rfl : k = n := by omega
      have E := Lib.hid (show r = true from HR.out.symm.trans (mayL_yes (fun j x hx => AL.out j x (by have := S.out; have := (List.getElem?_eq_some_iff.1 hx).1; omega) hx)))
      go_wp2_with fail
      go_ret
      exact ⟨by rw [E.out]; rfl, nd, rfl⟩
end Go.Proofs.Ytbpefomjmjkciaa.Blk
