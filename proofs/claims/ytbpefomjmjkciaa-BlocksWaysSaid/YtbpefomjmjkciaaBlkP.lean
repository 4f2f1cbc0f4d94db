/-
  Is a number in a row: slices.Index, slices.Contains.
-/
import Derived.Test.YtbpefomjmjkciaaRbA
namespace Go.Proofs.Ytbpefomjmjkciaa.Blk
open Go.RowKit Go.Maps Go.Sort Ins
set_option linter.unusedVariables false
set_option maxRecDepth 100000

set_option maxHeartbeats 1000000 in
theorem index_any (a : Option Addr) (n c : Nat) (zs : List Int) (z : Int) (W : World) (h : IntsAt W a n c zs) :
    Calls Try.prog 90 #[.slice a n c, .int .i64 z] W fun e w' => ∃ r : Int, e = .returned (.int .i64 r) ∧ decide (0 ≤ r) = decide (z ∈ zs) ∧ ∃ m, W.drewN m = w' := by
  have l1 := h.le
  have f1 := h.fit
  have S1 := Lib.hid h.size
  have H1 := Lib.hid h.here
  clear h
  go_enter Try.func90, Try.ntmps90
  go_wp2_with fail
  go_loopw [8] (fun i wr => ∃ k : Nat, k ≤ n ∧ i = .int .i64 k ∧ (∃ m, W.drewN m = wr) ∧ Hid (∀ (j : Nat) (x : Int), j < k → zs[j]? = some x → x ≠ z)) (fun i _ => n - (intOf i).toNat)
  case atStart => exact ⟨0, by omega, rfl, ⟨0, rfl⟩, Lib.hid (fun j x h => by omega)⟩
  case round =>
    obtain ⟨k, hk, rfl, ⟨nd, rfl⟩, hR⟩ := hrel
    by_cases hlt : k < n
    · obtain ⟨b1, o1, rfl, g1⟩ := H1.out (by omega)
      obtain ⟨x, hx⟩ : ∃ x, zs[k]? = some x := ⟨_, List.getElem?_eq_getElem (by have := S1.out; omega)⟩
      have x1 := g1 k x hx
      have HX := Lib.hid hx
      clear g1 hx
      have y3 : (0 : Int) ≤ (k : Int) := by omega
      have y1 : (k : Int) < (n : Int) := by omega
      by_cases e : z = x
      · subst e
        have D := Lib.hid (show decide (0 ≤ (k : Int)) = decide (z ∈ zs) by
          rw [decide_eq_true y3, decide_eq_true (List.mem_of_getElem? HX.out)])
        go_wp2_with fail
        go_ret
        exact ⟨_, rfl, D.out, nd, rfl⟩
      · have e0 : (z == x) = false := by simpa using e
        have NE := Lib.hid (show x ≠ z from fun h => e h.symm)
        clear e
        go_wp2_with fail
        go_roundw
        case rel => exact ⟨k + 1, by omega, by go_num, ⟨nd, rfl⟩, Lib.hid (fun j y hj hy => by
          by_cases e : j = k
          · subst e
            have := HX.out
            rw [hy] at this
            injection this with this
            subst this
            exact NE.out
          · exact hR.out j y (by omega) hy)⟩
        case measure => simp [intOf]; omega
    · obtain rfl : k = n := by omega
      have D := Lib.hid (show decide ((0 : Int) ≤ -1) = decide (z ∈ zs) by
        rw [decide_eq_false (by omega : ¬ (0 : Int) ≤ -1), decide_eq_false (fun hm => by
          obtain ⟨j, hj⟩ := List.mem_iff_getElem?.1 hm
          exact hR.out j z (by have := (List.getElem?_eq_some_iff.1 hj).1; have := S1.out; omega) hj rfl)])
      go_wp2_with fail
      go_ret
      exact ⟨_, rfl, D.out, nd, rfl⟩

set_option maxHeartbeats 1000000 in
theorem contains_any (a : Option Addr) (n c : Nat) (zs : List Int) (z : Int) (W : World) (h : IntsAt W a n c zs) :
    Calls Try.prog 62 #[.slice a n c, .int .i64 z] W (QB (decide (z ∈ zs)) W) := by
  have I := Lib.hid (index_any a n c zs z W h)
  clear h
  generalize decide (z ∈ zs) = d at *
  go_enter Try.func62, Try.ntmps62
  go_wp2_with fail
  refine I.out.mono ?_
  rintro e w1 ⟨r, rfl, hd, m, rfl⟩
  have D := Lib.hid hd
  clear hd
  go_wp2_with fail
  go_ret
  exact ⟨by rw [← D.out]; rfl, m, rfl⟩
end Go.Proofs.Ytbpefomjmjkciaa.Blk
