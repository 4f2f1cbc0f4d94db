/-
  Package blocks in plain numbers: what a program's blocks are, for the law BlocksWhole.
-/
import Derived.Test.YtpbaofidjikdhaaBlkM
import Derived.Test.YtpbaofidjikdhaaBlkG
namespace Go.Proofs.Ytpbaofidjikdhaa.Blk
set_option linter.unusedVariables false
set_option linter.unusedSimpArgs false

theorem len_cnt {s : Sh} {n : Nat} (h : Fine s n) : (bksF s n n).length = cnt (beg s n) n := by
  have h1 := bksF_len s n n
  have h3 : cnt (beg s n) (n + 1) = cnt (beg s n) n + 1 := by rw [cnt_succ, if_pos (show beg s n n = true from h.ends)]
  omega
/-- What block b is: it ends at e, and goes on as e tells. -/
theorem blk_get {s : Sh} {n b : Nat} {x : Bk} (h : Fine s n) (hx : (bksF s n n)[b]? = some x) : ∃ e, e < n ∧ beg s n (e + 1) = true ∧ x = ⟨openF s n e, (e : Int) + 1, nextL s n e⟩ ∧ cnt (beg s n) (openF s n e) = b ∧ cnt (beg s n) (e + 1) = b + 1 := by
  obtain ⟨e, h1, h2, h3, h4⟩ := bksF_get s n n b x hx
  exact ⟨e, h1, h2, h3, h4, by rw [← cnt_open, h4]⟩
theorem stop_or {s : Sh} {n e : Nat} (h : Fine s n) (he : e < n) (hj : ¬ s.jumps e = true) (hx : ¬ s.exit e = true) : e + 1 < n := by
  by_cases e1 : e = n - 1
  · subst e1; rcases h.last with h | h
    · exact absurd h hj
    · exact absurd h hx
  · omega
theorem num_lt {s : Sh} {n : Nat} {z : Int} (h : Fine s n) (h0 : 0 ≤ z) (h1 : z < n) (hb : begB s n z = true) : 0 ≤ num s n z ∧ num s n z < (bksF s n n).length := by
  obtain ⟨i, rfl⟩ : ∃ i : Nat, z = i := ⟨z.toNat, by omega⟩
  have := cnt_lt (beg s n) (i := i) (j := n) (by omega) hb
  rw [len_cnt h]
  refine ⟨Int.natCast_nonneg _, ?_⟩
  show ((cnt (beg s n) i : Nat) : Int) < _
  omega
theorem next_mem {s : Sh} {n e : Nat} {z : Int} (h : Fine s n) (he : e < n) (hb : beg s n (e + 1) = true) (hz : z ∈ nextL s n e) : 0 ≤ z ∧ z < (bksF s n n).length := by
  have hb' : begB s n ((e : Int) + 1) = true := hb
  unfold nextL at hz
  by_cases hc : s.cond e = true
  · rw [if_pos hc] at hz
    obtain ⟨hj, hl⟩ := h.cond e he hc
    have ht := h.to e he hj
    rcases List.mem_cons.1 hz with rfl | hz
    · exact num_lt h ht.1 ht.2 (begB_to s he hj)
    · obtain rfl : z = _ := by simpa using hz
      exact num_lt h (by omega) (by omega) hb'
  rw [if_neg hc] at hz
  by_cases hj : s.jumps e = true
  · rw [if_pos hj] at hz
    have ht := h.to e he hj
    obtain rfl : z = _ := by simpa using hz
    exact num_lt h ht.1 ht.2 (begB_to s he hj)
  rw [if_neg hj] at hz
  by_cases hx : s.exit e = true
  · rw [if_pos hx] at hz; cases hz
  rw [if_neg hx] at hz
  obtain rfl : z = _ := by simpa using hz
  have := stop_or h he hj hx
  exact num_lt h (by omega) (by omega) hb'
theorem nextL_le (s : Sh) (n e : Nat) : (nextL s n e).length ≤ 2 := by
  unfold nextL
  split
  · simp
  · split
    · simp
    · split <;> simp
theorem may_bks {s : Sh} {n : Nat} (h : Fine s n) (h64 : n ≤ 64) : mayL (bksF s n n) = true := by
  refine mayL_yes (fun k x hx => ?_)
  obtain ⟨e, he, hb, rfl, h1, h2⟩ := blk_get h hx
  have hle := openF_le s n e
  have hend : endB (bksF s n n) k = (openF s n e : Int) := by
    cases k with
    | zero =>
      show (0 : Int) = _
      have : openF s n e = 0 := cnt_inj (beg s n) (openF_beg s n e) (beg_zero s n) (by rw [h1, cnt_zero])
      rw [this]; rfl
    | succ k =>
      have hk : k < (bksF s n n).length := by have := (List.getElem?_eq_some_iff.1 hx).1; omega
      obtain ⟨y, hy⟩ : ∃ y, (bksF s n n)[k]? = some y := ⟨_, List.getElem?_eq_getElem hk⟩
      obtain ⟨e', he', hb', rfl, h1', h2'⟩ := blk_get h hy
      rw [endB_succ hy]
      have : e' + 1 = openF s n e := cnt_inj (beg s n) hb' (openF_beg s n e) (by rw [h2', h1])
      show (e' : Int) + 1 = _
      omega
  refine mayB_yes ⟨hend.symm, ?_, ?_, nextL_le s n e⟩ (fun j z hz => next_mem h he hb (List.mem_of_getElem? hz))
  · rw [hend]; show ((openF s n e : Nat) : Int) < (e : Int) + 1; omega
  · show (e : Int) + 1 ≤ 64; omega
/-- The last block ends with the program. -/
theorem last_to {s : Sh} {n : Nat} {x : Bk} (h : Fine s n) (hx : (bksF s n n)[(bksF s n n).length - 1]? = some x) : x.to = n := by
  obtain ⟨e, he, hb, rfl, h1, h2⟩ := blk_get h hx
  have hp := bksF_pos h
  have hl := len_cnt h
  show (e : Int) + 1 = n
  by_cases e1 : e + 1 < n
  · have := cnt_lt (beg s n) e1 hb; omega
  · omega
/-- An instruction at which a block ends is its block's last one. -/
theorem of_end {s : Sh} {n i : Nat} (h : Fine s n) (hi : i < n) (hb : beg s n (i + 1) = true) : ofL (bksF s n n) i = ((cnt (beg s n) (openF s n i) : Int), true) ∧ (bksF s n n)[cnt (beg s n) (openF s n i)]? = some ⟨openF s n i, (i : Int) + 1, nextL s n i⟩ := by
  obtain ⟨e, h1, h2, h3, h4, h5, h6, h7⟩ := bksF_of h hi
  have he : e = i := by
    by_cases e1 : e = i
    · exact e1
    · have := openF_none s n e (i + 1) (by omega) (by omega)
      rw [hb] at this; cases this
  subst he
  exact ⟨h7, h5⟩
/-- A beginning's block begins there. -/
theorem of_begin {s : Sh} {n t : Nat} (h : Fine s n) (ht : t < n) (hb : beg s n t = true) : ∃ e, ofL (bksF s n n) t = ((cnt (beg s n) t : Int), true) ∧ (bksF s n n)[cnt (beg s n) t]? = some ⟨t, (e : Nat) + 1, nextL s n e⟩ := by
  obtain ⟨e, h1, h2, h3, h4, h5, h6, h7⟩ := bksF_of h ht
  have he : openF s n e = t := by
    by_cases e1 : openF s n e = t
    · exact e1
    · have := openF_none s n e t (by omega) h1
      rw [hb] at this; cases this
  rw [he] at h5 h7
  exact ⟨e, h7, h5⟩

/-- What the law asks of instruction k. -/
theorem whole_step {s : Sh} {n k : Nat} (h : Fine s n) (hk : k < n) : ∃ (nb : Nat) (x : Bk), ofL (bksF s n n) k = ((nb : Int), true) ∧ (bksF s n n)[nb]? = some x ∧ nb < (bksF s n n).length ∧ ((s.jumps k = true ∨ s.exit k = true) → x.to = (k : Int) + 1 ∧ x.next = nextL s n k) := by
  by_cases hs : s.jumps k = true ∨ s.exit k = true
  · obtain ⟨h1, h2⟩ := of_end h hk (begB_behind s hk hs)
    exact ⟨_, _, h1, h2, (List.getElem?_eq_some_iff.1 h2).1, fun _ => ⟨rfl, rfl⟩⟩
  · obtain ⟨e, h1, h2, h3, h4, h5, h6, h7⟩ := bksF_of h hk
    exact ⟨_, _, h7, h5, (List.getElem?_eq_some_iff.1 h5).1, fun h => absurd h hs⟩
theorem whole_jump {s : Sh} {n k : Nat} (h : Fine s n) (hk : k < n) (hj : s.jumps k = true) : ∃ (t kb : Nat) (y : Bk), s.to k = t ∧ t < n ∧ ofL (bksF s n n) t = ((kb : Int), true) ∧ (bksF s n n)[kb]? = some y ∧ kb < (bksF s n n).length ∧ y.fr = t ∧ (nextL s n k)[0]? = some (kb : Int) ∧ 0 < (nextL s n k).length := by
  have ht := h.to k hk hj
  obtain ⟨t, ht2⟩ : ∃ t : Nat, s.to k = t := ⟨(s.to k).toNat, by omega⟩
  have hb : beg s n t = true := by have := begB_to s hk hj; rw [ht2] at this; exact this
  obtain ⟨e, h1, h2⟩ := of_begin h (by omega) hb
  have hn : num s n (s.to k) = (cnt (beg s n) t : Int) := by rw [ht2]; rfl
  refine ⟨t, _, _, ht2, by omega, h1, h2, (List.getElem?_eq_some_iff.1 h2).1, rfl, ?_, ?_⟩
  · unfold nextL
    by_cases hc : s.cond k = true
    · rw [if_pos hc, hn]; rfl
    · rw [if_neg hc, if_pos hj, hn]; rfl
  · unfold nextL
    by_cases hc : s.cond k = true
    · rw [if_pos hc]; simp
    · rw [if_neg hc, if_pos hj]; simp
/-- What it asks of block b. -/
theorem whole_blk {s : Sh} {n b : Nat} {x : Bk} (h : Fine s n) (hx : (bksF s n n)[b]? = some x) : ∃ (e f : Nat), e < n ∧ x.to = (e : Int) + 1 ∧ x.fr = (f : Int) ∧ f < n ∧ begB s n f = true ∧ (0 < b → f ≠ 0) ∧
    ((s.jumps e = true ∧ s.cond e = false ∧ x.next.length ≠ 0) ∨ (s.exit e = true ∧ s.jumps e = false ∧ s.cond e = false ∧ x.next = []) ∨ ((s.cond e = true ∨ (s.jumps e = false ∧ s.exit e = false)) ∧ x.next.length ≠ 0 ∧ x.next[x.next.length - 1]? = some ((b : Int) + 1))) := by
  obtain ⟨e, he, hb, rfl, h1, h2⟩ := blk_get h hx
  have hle := openF_le s n e
  have hnum : num s n ((e : Int) + 1) = (b : Int) + 1 := by
    have : num s n ((e : Int) + 1) = ((cnt (beg s n) (e + 1) : Nat) : Int) := rfl
    rw [this, h2]; rfl
  refine ⟨e, openF s n e, he, rfl, rfl, by omega, openF_beg s n e, fun hb0 h0 => ?_, ?_⟩
  · rw [h0, cnt_zero] at h1; omega
  · show _ ∨ _ ∨ _
    by_cases hc : s.cond e = true
    · refine .inr (.inr ⟨.inl hc, ?_, ?_⟩)
      · show (nextL s n e).length ≠ 0; unfold nextL; rw [if_pos hc]; simp
      · show (nextL s n e)[(nextL s n e).length - 1]? = _; unfold nextL; rw [if_pos hc, hnum]; rfl
    have hc' : s.cond e = false := by simpa using hc
    by_cases hj : s.jumps e = true
    · refine .inl ⟨hj, hc', ?_⟩
      show (nextL s n e).length ≠ 0; unfold nextL; rw [if_neg hc, if_pos hj]; simp
    have hj' : s.jumps e = false := by simpa using hj
    by_cases hx : s.exit e = true
    · refine .inr (.inl ⟨hx, hj', hc', ?_⟩)
      show nextL s n e = []; unfold nextL; rw [if_neg hc, if_neg hj, if_pos hx]
    have hx' : s.exit e = false := by simpa using hx
    refine .inr (.inr ⟨.inr ⟨hj', hx'⟩, ?_, ?_⟩)
    · show (nextL s n e).length ≠ 0; unfold nextL; rw [if_neg hc, if_neg hj, if_neg hx]; simp
    · show (nextL s n e)[(nextL s n e).length - 1]? = _; unfold nextL; rw [if_neg hc, if_neg hj, if_neg hx, hnum]; rfl

/-- How often a place is led to, as far as k instructions. -/
def ledF (s : Sh) : Nat → Int → Int
  | 0, _ => 0
  | k + 1, z => ledF s k z + (if s.jumps k = true ∧ s.to k = z then 1 else 0) + (if (s.jumps k = true ∨ s.exit k = true) ∧ (k : Int) + 1 = z then 1 else 0)
theorem ledF_bd (s : Sh) : ∀ k z, 0 ≤ ledF s k z ∧ ledF s k z ≤ 2 * k
  | 0, z => ⟨Int.le_refl _, Int.le_refl _⟩
  | k + 1, z => by
    have := ledF_bd s k z
    show 0 ≤ ledF s k z + _ + _ ∧ ledF s k z + _ + _ ≤ 2 * ((k + 1 : Nat) : Int)
    split <;> split <;> omega
theorem ledF_mono (s : Sh) {k m : Nat} (h : k ≤ m) (z : Int) : ledF s k z ≤ ledF s m z := by
  induction h with
  | refl => exact Int.le_refl _
  | step h ih =>
    rename_i m
    show ledF s k z ≤ ledF s m z + _ + _
    split <;> split <;> omega
theorem led_beg {s : Sh} {n : Nat} {z : Int} (hz : begB s n z = true) (h0 : z ≠ 0) : 1 ≤ ledF s n z := by
  rcases begB_cases s hz with rfl | ⟨j, hj, h1, rfl⟩ | ⟨j, hj, h1, rfl⟩
  · exact absurd rfl h0
  · refine Int.le_trans ?_ (ledF_mono s (show j + 1 ≤ n from hj) _)
    have := ledF_bd s j (s.to j)
    show 1 ≤ ledF s j (s.to j) + (if s.jumps j = true ∧ s.to j = s.to j then 1 else 0) + _
    rw [if_pos ⟨h1, rfl⟩]
    split <;> omega
  · refine Int.le_trans ?_ (ledF_mono s (show j + 1 ≤ n from hj) _)
    have := ledF_bd s j ((j : Int) + 1)
    have e : (if (s.jumps j = true ∨ s.exit j = true) ∧ (j : Int) + 1 = (j : Int) + 1 then (1 : Int) else 0) = 1 := if_pos ⟨h1, rfl⟩
    show 1 ≤ ledF s j ((j : Int) + 1) + _ + (if (s.jumps j = true ∨ s.exit j = true) ∧ (j : Int) + 1 = (j : Int) + 1 then 1 else 0)
    rw [e]
    split <;> omega
theorem ledF_step (s : Sh) (k : Nat) (z : Int) : ledF s (k + 1) z = ledF s k z + (if s.jumps k = true ∧ s.to k = z then 1 else 0) + (if (s.jumps k = true ∨ s.exit k = true) ∧ (k : Int) + 1 = z then 1 else 0) := rfl
end Go.Proofs.Ytpbaofidjikdhaa.Blk
