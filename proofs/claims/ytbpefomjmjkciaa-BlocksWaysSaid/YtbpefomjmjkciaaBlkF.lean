/-
  Of: the program's and the document's.
-/
import Derived.Test.YtbpefomjmjkciaaRbA
namespace Go.Proofs.Ytbpefomjmjkciaa.Blk
open Go.RowKit Go.Maps Go.Sort Ins
set_option linter.unusedVariables false
set_option maxRecDepth 100000

set_option maxHeartbeats 2000000 in
theorem of_any (a : Option Addr) (n c : Nat) (bs : List Bk) (i : Int) (W : World) (h : Blks W a n c bs) :
    Calls Try.prog 22 #[.slice a n c, .int .i64 i] W fun e w' => e = .returned (.tuple #[.int .i64 (ofL bs i).1, .bool (ofL bs i).2]) ∧ Below W.heap.size W w' := by
  have l1 := h.le
  have f1 := h.fit
  have S := Lib.hid h.size
  have H := Lib.hid (fun w b => Blks.below (w := w) h b)
  clear h
  generalize hr : ofL bs i = r
  have HR := Lib.hid hr; clear hr
  go_enter Try.func22, Try.ntmps22
  go_wp2_with fail
  go_loopw [10] (fun v wr => ∃ k : Nat, k ≤ n ∧ v = .int .i64 k ∧ Hid (Below W.heap.size W wr ∧ ∀ (j : Nat) (x : Bk), j < k → bs[j]? = some x → ¬ (x.fr ≤ i ∧ i < x.to))) (fun v _ => n - (intOf v).toNat)
  case atStart => exact ⟨0, by omega, rfl, Lib.hid ⟨Below.refl _ _, fun j x h => by omega⟩⟩
  case round =>
    obtain ⟨k, hk, rfl, hR⟩ := hrel
    have BW := Lib.hid hR.out.1
    have AL := Lib.hid hR.out.2
    by_cases hlt : k < n
    · obtain ⟨b1, o1, rfl, g1⟩ := (H.out wr hR.out.1).here (by omega)
      obtain ⟨x, hx⟩ : ∃ x, bs[k]? = some x := ⟨_, List.getElem?_eq_getElem (by have := S.out; omega)⟩
      obtain ⟨na1, nc1, q1, i1⟩ := g1 k x hx
      obtain ⟨x0, x1, x2⟩ := blk_cells q1
      have HX := Lib.hid hx
      clear g1 hx q1 i1 hR
      have YES := Lib.hid (show x.fr ≤ i ∧ i < x.to → r = ((k : Int), true) from fun h => HR.out.symm.trans (ofL_some HX.out h (fun j y hj hy => AL.out j y hj hy)))
      have NO := Lib.hid (show ¬ (x.fr ≤ i ∧ i < x.to) → ∀ (j : Nat) (y : Bk), j < k + 1 → bs[j]? = some y → ¬ (y.fr ≤ i ∧ i < y.to) from fun h j y hj hy => by
        by_cases e : j = k
        · subst e; rw [HX.out] at hy; injection hy with hy; subst hy; exact h
        · exact AL.out j y (by omega) hy)
      clear HX
      generalize x.fr = xf at *
      generalize x.to = xt at *
      generalize x.next.length = xl at *
      by_cases c1 : xf ≤ i
      · by_cases c2 : i < xt
        · have Y := Lib.hid (YES.out ⟨c1, c2⟩)
          go_wp2_with fail
          go_ret2
          exact ⟨by rw [Y.out]; rfl, below_new BW.out _⟩
        · have N := Lib.hid (NO.out (fun h => c2 h.2))
          go_wp2_with fail
          go_roundw
          case rel => exact ⟨k + 1, by omega, by go_num, Lib.hid ⟨below_new BW.out _, N.out⟩⟩
          case measure => simp [intOf]; omega
      · have N := Lib.hid (NO.out (fun h => c1 h.1))
        go_wp2_with fail
        go_roundw
        case rel => exact ⟨k + 1, by omega, by go_num, Lib.hid ⟨below_new BW.out _, N.out⟩⟩
        case measure => simp [intOf]; omega
    · obtain rfl : k = n := by omega
      have E := Lib.hid (show r = (0, false) from HR.out.symm.trans (ofL_none (fun j x hx => AL.out j x (by have := S.out; have := (List.getElem?_eq_some_iff.1 hx).1; omega) hx)))
      clear hR
      go_wp2_with fail
      go_ret2
      exact ⟨by rw [E.out]; rfl, BW.out⟩

set_option maxHeartbeats 2000000 in
theorem r_of (a : Option Addr) (n c : Nat) (bs : List Bk) (i : Int) (W : World) (h : Blks W a n c bs) :
    Calls Try.prog 23 #[.slice a n c, .int .i64 i] W fun e w' => e = .returned (.tuple #[.int .i64 (ofL bs i).1, .bool (ofL bs i).2]) ∧ W = w' := by
  have l1 := h.le
  have f1 := h.fit
  have S := Lib.hid h.size
  have H := Lib.hid h.here
  clear h
  generalize hr : ofL bs i = r
  have HR := Lib.hid hr; clear hr
  go_enter Try.func23, Try.ntmps23
  go_wp2_with fail
  go_loop [6] (fun v => ∃ k : Nat, k ≤ n ∧ v = .int .i64 k ∧ Hid (∀ (j : Nat) (x : Bk), j < k → bs[j]? = some x → ¬ (x.fr ≤ i ∧ i < x.to))) (fun v => n - (intOf v).toNat)
  case atStart => exact ⟨0, by omega, rfl, Lib.hid (fun j x h => by omega)⟩
  case round =>
    obtain ⟨k, hk, rfl, AL⟩ := hrel
    by_cases hlt : k < n
    · obtain ⟨b1, o1, rfl, g1⟩ := H.out (by omega)
      obtain ⟨x, hx⟩ : ∃ x, bs[k]? = some x := ⟨_, List.getElem?_eq_getElem (by have := S.out; omega)⟩
      obtain ⟨na1, nc1, q1, i1⟩ := g1 k x hx
      obtain ⟨x0, x1, x2⟩ := blk_cells q1
      have HX := Lib.hid hx
      clear g1 hx q1 i1
      have YES := Lib.hid (show x.fr ≤ i ∧ i < x.to → r = ((k : Int), true) from fun h => HR.out.symm.trans (ofL_some HX.out h (fun j y hj hy => AL.out j y hj hy)))
      have NO := Lib.hid (show ¬ (x.fr ≤ i ∧ i < x.to) → ∀ (j : Nat) (y : Bk), j < k + 1 → bs[j]? = some y → ¬ (y.fr ≤ i ∧ i < y.to) from fun h j y hj hy => by
        by_cases e : j = k
        · subst e; rw [HX.out] at hy; injection hy with hy; subst hy; exact h
        · exact AL.out j y (by omega) hy)
      clear HX
      generalize x.fr = xf at *
      generalize x.to = xt at *
      generalize x.next.length = xl at *
      by_cases c1 : xf ≤ i
      · by_cases c2 : i < xt
        · have Y := Lib.hid (YES.out ⟨c1, c2⟩)
          go_wp2_with fail
          go_ret2
          exact ⟨by rw [Y.out]; rfl, rfl⟩
        · have N := Lib.hid (NO.out (fun h => c2 h.2))
          go_wp2_with fail
          go_round
          case rel => exact ⟨k + 1, by omega, by go_num, Lib.hid N.out⟩
          case measure => simp [intOf]; omega
      · have N := Lib.hid (NO.out (fun h => c1 h.1))
        go_wp2_with fail
        go_round
        case rel => exact ⟨k + 1, by omega, by go_num, Lib.hid N.out⟩
        case measure => simp [intOf]; omega
    · obtain rfl : k = n := by omega
      have E := Lib.hid (show r = (0, false) from HR.out.symm.trans (ofL_none (fun j x hx => AL.out j x (by have := S.out; have := (List.getElem?_eq_some_iff.1 hx).1; omega) hx)))
      go_wp2_with fail
      go_ret2
      exact ⟨by rw [E.out]; rfl, rfl⟩
end Go.Proofs.Ytbpefomjmjkciaa.Blk
