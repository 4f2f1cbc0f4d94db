/-
  What Before says and what is reached, in plain words; latheref04.Great.
-/
import Derived.Test.YtbpefomjmjkciaaBlkS2
import Derived.Test.YtbpefomjmjkciaaRbG
namespace Go.Proofs.Ytbpefomjmjkciaa.Blk
open Go.RowKit Go.Maps Go.Sort Ins
set_option linter.unusedVariables false
set_option maxRecDepth 100000

theorem befL_mem {bs : List Bk} {b z : Int} : ∀ {k : Nat}, z ∈ befL bs b k → ∃ j, j < k ∧ z = (j : Int) ∧ hasB bs b j = true
  | 0, h => by cases h
  | k + 1, h => by
    cases hk : hasB bs b k
    · rw [befL_no hk] at h
      obtain ⟨j, h1, h2, h3⟩ := befL_mem h
      exact ⟨j, by omega, h2, h3⟩
    · rw [befL_yes hk] at h
      rcases List.mem_append.1 h with h | h
      · obtain ⟨j, h1, h2, h3⟩ := befL_mem h
        exact ⟨j, by omega, h2, h3⟩
      · exact ⟨k, by omega, by simpa using h, hk⟩
theorem mem_befL {bs : List Bk} {b : Int} {j : Nat} (h : hasB bs b j = true) : ∀ {k : Nat}, j < k → (j : Int) ∈ befL bs b k
  | 0, hk => by omega
  | k + 1, hk => by
    by_cases e : j = k
    · subst e; rw [befL_yes h]; simp
    · have := mem_befL h (k := k) (by omega)
      cases h2 : hasB bs b k
      · rw [befL_no h2]; exact this
      · rw [befL_yes h2]; exact List.mem_append_left _ this
theorem befL_pair (bs : List Bk) (b : Int) : ∀ k, (befL bs b k).Pairwise (· < ·)
  | 0 => List.Pairwise.nil
  | k + 1 => by
    cases h2 : hasB bs b k
    · rw [befL_no h2]; exact befL_pair bs b k
    · rw [befL_yes h2, List.pairwise_append]
      refine ⟨befL_pair bs b k, List.pairwise_singleton _ _, fun x hx y hy => ?_⟩
      obtain ⟨j, h1, rfl, _⟩ := befL_mem hx
      obtain rfl : y = (k : Int) := by simpa using hy
      omega
theorem befL_next {bs : List Bk} {b : Int} {k i : Nat} {z y : Int} (h1 : (befL bs b k)[i]? = some z) (h2 : (befL bs b k)[i + 1]? = some y) : z < y := by
  obtain ⟨a1, b1⟩ := List.getElem?_eq_some_iff.1 h1
  obtain ⟨a2, b2⟩ := List.getElem?_eq_some_iff.1 h2
  have := List.pairwise_iff_getElem.1 (befL_pair bs b k) i (i + 1) a1 a2 (by omega)
  rw [b1, b2] at this
  exact this

/-- Has one of the first k what is asked? -/
def anyT (p : Int → Bool) (zs : List Int) (k : Nat) : Bool := (zs.take k).any p
theorem anyT_zero (p : Int → Bool) (zs : List Int) : anyT p zs 0 = false := by simp [anyT]
theorem anyT_succ {p : Int → Bool} {zs : List Int} {k : Nat} {z : Int} (h : zs[k]? = some z) : anyT p zs (k + 1) = (anyT p zs k || p z) := by
  unfold anyT
  rw [List.take_add_one, h, List.any_append]
  simp
theorem anyT_all (p : Int → Bool) {zs : List Int} {k : Nat} (h : zs.length ≤ k) : anyT p zs k = zs.any p := by
  unfold anyT
  rw [List.take_of_length_le h]

/-- Every reached block but the first has a reached one ahead. -/
theorem Walked.ahead {bs : List Bk} {f : Nat → Bool} (h : Walked bs (· = 0) (fun _ => false) f) (h0 : f 0 = true) {x : Nat} (hx : f x = true) : x = 0 ∨ ∃ y, f y = true ∧ Succ bs y x := by
  have := h.sound (fun x => f x = true ∧ (x = 0 ∨ ∃ y, f y = true ∧ Succ bs y x)) (fun x y ⟨h1, _⟩ h3 => ⟨h.closed x y h1 rfl h3, .inr ⟨x, h1, h3⟩⟩) (fun x e => by subst e; exact ⟨h0, .inl rfl⟩) x hx
  rcases this with h | h
  · cases h
  · exact h.2
theorem succ_has {bs : List Bk} {y x : Nat} (h : Succ bs y x) : hasB bs (x : Int) y = true := by
  obtain ⟨k, h1, h2⟩ := h
  rw [hasB_eq h1]
  exact decide_eq_true h2
theorem succ_lt {bs : List Bk} {y x : Nat} (h : Succ bs y x) : y < bs.length := by
  obtain ⟨k, h1, h2⟩ := h
  exact (List.getElem?_eq_some_iff.1 h1).1
/-- So one of those that Before tells is reached. -/
theorem Walked.some_ahead {bs : List Bk} {f : Nat → Bool} (h : Walked bs (· = 0) (fun _ => false) f) (h0 : f 0 = true) {x n : Nat} (hn : bs.length = n) (hx : f x = true) : (decide ((x : Int) = 0) || anyT (fun z => f z.toNat) (befL bs (x : Int) n) (befL bs (x : Int) n).length) = true := by
  rw [Bool.or_eq_true]
  rcases h.ahead h0 hx with rfl | ⟨y, h1, h2⟩
  · exact .inl rfl
  · refine .inr ?_
    rw [anyT_all _ (Nat.le_refl _), List.any_eq_true]
    exact ⟨(y : Int), mem_befL (succ_has h2) (by have := succ_lt h2; omega), by simpa using h1⟩
theorem some_back {bs : List Bk} {b n : Nat} {x : Bk} {z : Int} (hn : bs.length = n) (hx : bs[b]? = some x) (hz : z ∈ x.next) : anyT (fun y => y == (b : Int)) (befL bs z n) (befL bs z n).length = true := by
  rw [anyT_all _ (Nat.le_refl _), List.any_eq_true]
  refine ⟨(b : Int), mem_befL (by rw [hasB_eq hx]; exact decide_eq_true hz) (by have := (List.getElem?_eq_some_iff.1 hx).1; omega), by simp⟩

set_option maxHeartbeats 1000000 in
theorem r_great (a : Option Addr) (n c : Nat) (bs : List Bk) (W : World) (h : Blks W a n c bs) :
    Calls Try.prog 20 #[.slice a n c] W fun e w' => ∃ b, QB b W e w' := by
  have l1 := h.le
  have f1 := h.fit
  have S := Lib.hid h.size
  have H := Lib.hid h.here
  clear h
  go_enter Try.func20, Try.ntmps20
  go_wp2_with fail
  go_loopw [3] (fun i wr => ∃ k : Nat, k ≤ n ∧ k ≤ 101 ∧ i = .int .i64 k ∧ wr = W) (fun i _ => n - (intOf i).toNat)
  case atStart => exact ⟨0, by omega, by omega, rfl, rfl⟩
  case round =>
    obtain ⟨k, hk, hk2, rfl, rfl⟩ := hrel
    by_cases hlt : k < n
    · by_cases h100 : k ≤ 100
      · obtain ⟨b1, o1, rfl, g1⟩ := H.out (by omega)
        obtain ⟨x, hx⟩ : ∃ x, bs[k]? = some x := ⟨_, List.getElem?_eq_getElem (by have := S.out; omega)⟩
        obtain ⟨na1, nc1, q1, i1⟩ := g1 k x hx
        obtain ⟨x0, x1, x2⟩ := blk_cells q1
        have hl := i1.le
        have hf := i1.fit
        clear g1 hx q1 i1 x0 x1
        generalize x.next.length = m at *
        by_cases h40 : m ≤ 40
        · have h40' : (m : Int) ≤ 40 := by omega
          go_wp2_with fail
          go_roundw
          case rel => exact ⟨k + 1, by omega, by omega, by go_num, trivial⟩
          case measure => simp [intOf]; omega
        · have h40' : (40 : Int) < (m : Int) := by omega
          go_wp2_with fail
          go_ret
          exact ⟨true, rfl, 0, rfl⟩
      · go_wp2_with fail
        go_ret
        exact ⟨_, rfl, 0, rfl⟩
    · obtain rfl : k = n := by omega
      go_wp2_with fail
      go_ret
      exact ⟨_, rfl, 0, rfl⟩
end Go.Proofs.Ytbpefomjmjkciaa.Blk
