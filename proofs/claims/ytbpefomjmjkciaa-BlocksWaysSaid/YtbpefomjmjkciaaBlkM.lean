/-
  Package blocks in plain numbers: where blocks begin, their numbers, the blocks of a program's shape.
-/
namespace Go.Proofs.Ytbpefomjmjkciaa.Blk
set_option linter.unusedVariables false
set_option linter.unusedSimpArgs false

/-- What of a program counts for its blocks. -/
structure Sh where
  cond : Nat → Bool
  jumps : Nat → Bool
  exit : Nat → Bool
  to : Nat → Int

/-- A block. -/
structure Bk where
  fr : Int
  to : Int
  next : List Int

/-- Where a block begins, as far as k instructions tell. -/
def begB (s : Sh) : Nat → Int → Bool
  | 0, z => decide (z = 0)
  | k + 1, z => begB s k z || (s.jumps k && decide (s.to k = z)) || ((s.jumps k || s.exit k) && decide ((k : Int) + 1 = z))

/-- How many of the first i. -/
def cnt (p : Nat → Bool) (i : Nat) : Nat := ((List.range i).filter p).length
theorem cnt_zero (p : Nat → Bool) : cnt p 0 = 0 := rfl
theorem cnt_succ (p : Nat → Bool) (i : Nat) : cnt p (i + 1) = cnt p i + if p i = true then 1 else 0 := by
  unfold cnt
  rw [List.range_succ, List.filter_append, List.length_append]
  cases h : p i <;> simp [h]
theorem cnt_le (p : Nat → Bool) {i j : Nat} (h : i ≤ j) : cnt p i ≤ cnt p j := by
  induction h with
  | refl => exact Nat.le_refl _
  | step h ih => rw [cnt_succ]; omega
theorem cnt_lt (p : Nat → Bool) {i j : Nat} (h : i < j) (hp : p i = true) : cnt p i < cnt p j := by
  have := cnt_le p (show i + 1 ≤ j from h)
  rw [cnt_succ, if_pos hp] at this; omega
theorem cnt_inj (p : Nat → Bool) {i j : Nat} (hi : p i = true) (hj : p j = true) (h : cnt p i = cnt p j) : i = j := by
  rcases Nat.lt_trichotomy i j with h1 | h1 | h1
  · have := cnt_lt p h1 hi; omega
  · exact h1
  · have := cnt_lt p h1 hj; omega
theorem cnt_le_self (p : Nat → Bool) (i : Nat) : cnt p i ≤ i := by
  unfold cnt
  have := List.length_filter_le p (List.range i)
  simpa using this
theorem cnt_congr {p q : Nat → Bool} : ∀ {i : Nat}, (∀ j, j < i → p j = q j) → cnt p i = cnt q i
  | 0, _ => rfl
  | i + 1, h => by rw [cnt_succ, cnt_succ, cnt_congr (fun j hj => h j (by omega)), h i (by omega)]

/-- The places at which p holds, in order. -/
def places (p : Nat → Bool) (n : Nat) : List Nat := (List.range n).filter p
theorem places_len (p : Nat → Bool) (n : Nat) : (places p n).length = cnt p n := rfl
theorem places_succ (p : Nat → Bool) (n : Nat) : places p (n + 1) = if p n = true then places p n ++ [n] else places p n := by
  unfold places
  rw [List.range_succ, List.filter_append]
  cases h : p n <;> simp [h]
theorem places_at (p : Nat → Bool) : ∀ (n i : Nat), i < n → p i = true → (places p n)[cnt p i]? = some i
  | 0, i, h, _ => by omega
  | n + 1, i, h, hp => by
    rw [places_succ]
    by_cases e : i = n
    · subst e
      rw [if_pos hp, List.getElem?_append_right (by rw [places_len]; exact Nat.le_refl _), places_len, Nat.sub_self]
      rfl
    · have ih := places_at p n i (by omega) hp
      have hl := cnt_lt p (show i < n by omega) hp
      split
      · rw [List.getElem?_append_left (by rw [places_len]; exact hl)]; exact ih
      · exact ih
theorem mem_places {p : Nat → Bool} {n i : Nat} : i ∈ places p n ↔ i < n ∧ p i = true := by
  unfold places; rw [List.mem_filter, List.mem_range]
theorem places_nodup (p : Nat → Bool) (n : Nat) : (places p n).Nodup := (List.nodup_range).filter _
theorem places_sorted (p : Nat → Bool) (n : Nat) : (places p n).Pairwise (· < ·) := (List.pairwise_lt_range).filter _
theorem places_get {p : Nat → Bool} {n j i : Nat} (h : (places p n)[j]? = some i) : i < n ∧ p i = true ∧ cnt p i = j := by
  have hm := mem_places.1 (List.mem_of_getElem? h)
  refine ⟨hm.1, hm.2, ?_⟩
  have h2 := places_at p n i hm.1 hm.2
  have hj : j < (places p n).length := (List.getElem?_eq_some_iff.1 h).1
  have hc : cnt p i < (places p n).length := (List.getElem?_eq_some_iff.1 h2).1
  exact (List.getElem?_inj hc (places_nodup p n)).1 (h2.trans h.symm)

/-- A program that may be. -/
structure Fine (s : Sh) (n : Nat) : Prop where
  pos : 0 < n
  to : ∀ j, j < n → s.jumps j = true → 0 ≤ s.to j ∧ s.to j < n
  last : s.jumps (n - 1) = true ∨ s.exit (n - 1) = true
  cond : ∀ j, j < n → s.cond j = true → s.jumps j = true ∧ j + 1 < n
  one : ∀ j, j < n → s.jumps j = true → s.exit j = false

theorem begB_step (s : Sh) (k : Nat) (z : Int) : begB s (k + 1) z = (begB s k z || (s.jumps k && decide (s.to k = z)) || ((s.jumps k || s.exit k) && decide ((k : Int) + 1 = z))) := rfl
theorem begB_zero (s : Sh) : ∀ k, begB s k 0 = true
  | 0 => rfl
  | k + 1 => by rw [begB_step, begB_zero s k]; rfl
theorem begB_mono (s : Sh) {k m : Nat} (h : k ≤ m) {z : Int} (hz : begB s k z = true) : begB s m z = true := by
  induction h with
  | refl => exact hz
  | step h ih => rw [begB_step, ih]; rfl
theorem begB_to (s : Sh) {k n : Nat} (h : k < n) (hj : s.jumps k = true) : begB s n (s.to k) = true :=
  begB_mono s (show k + 1 ≤ n from h) (by rw [begB_step, hj]; simp)
theorem begB_behind (s : Sh) {k n : Nat} (h : k < n) (hj : s.jumps k = true ∨ s.exit k = true) : begB s n ((k : Int) + 1) = true :=
  begB_mono s (show k + 1 ≤ n from h) (by rw [begB_step]; rcases hj with hj | hj <;> rw [hj] <;> simp)
theorem begB_cases (s : Sh) : ∀ {n : Nat} {z : Int}, begB s n z = true → z = 0 ∨ (∃ j, j < n ∧ s.jumps j = true ∧ s.to j = z) ∨ ∃ j, j < n ∧ (s.jumps j = true ∨ s.exit j = true) ∧ (j : Int) + 1 = z
  | 0, z, h => .inl (of_decide_eq_true h)
  | n + 1, z, h => by
    rw [begB_step, Bool.or_eq_true, Bool.or_eq_true, Bool.and_eq_true, Bool.and_eq_true, Bool.or_eq_true] at h
    rcases h with (h | ⟨h1, h2⟩) | ⟨h1, h2⟩
    · rcases begB_cases s h with h | ⟨j, hj, r⟩ | ⟨j, hj, r⟩
      · exact .inl h
      · exact .inr (.inl ⟨j, by omega, r⟩)
      · exact .inr (.inr ⟨j, by omega, r⟩)
    · exact .inr (.inl ⟨n, by omega, h1, of_decide_eq_true h2⟩)
    · exact .inr (.inr ⟨n, by omega, h1, of_decide_eq_true h2⟩)
theorem Fine.bound {s : Sh} {n : Nat} (h : Fine s n) {k : Nat} (hk : k ≤ n) {z : Int} (hz : begB s k z = true) : 0 ≤ z ∧ z ≤ n := by
  rcases begB_cases s hz with rfl | ⟨j, hj, h1, rfl⟩ | ⟨j, hj, _, rfl⟩
  · omega
  · have := h.to j (by omega) h1; omega
  · omega
theorem Fine.ends {s : Sh} {n : Nat} (h : Fine s n) : begB s n n = true := by
  have := begB_behind s (k := n - 1) (n := n) (by have := h.pos; omega) h.last
  rw [show ((n - 1 : Nat) : Int) + 1 = n by have := h.pos; omega] at this
  exact this

/-- Does a block begin at i? -/
def beg (s : Sh) (n : Nat) (i : Nat) : Bool := begB s n i
/-- A beginning's number. -/
def num (s : Sh) (n : Nat) (z : Int) : Int := cnt (beg s n) z.toNat

/-- Where a block goes on whose last instruction is i. -/
def nextL (s : Sh) (n i : Nat) : List Int :=
  if s.cond i = true then [num s n (s.to i), num s n ((i : Int) + 1)] else if s.jumps i = true then [num s n (s.to i)] else if s.exit i = true then [] else [num s n ((i : Int) + 1)]

/-- Where the block begins that is open ahead of instruction i. -/
def openF (s : Sh) (n : Nat) : Nat → Nat
  | 0 => 0
  | i + 1 => if beg s n (i + 1) = true then i + 1 else openF s n i
/-- The blocks that end ahead of instruction i. -/
def bksF (s : Sh) (n : Nat) : Nat → List Bk
  | 0 => []
  | i + 1 => if beg s n (i + 1) = true then bksF s n i ++ [⟨openF s n i, (i : Int) + 1, nextL s n i⟩] else bksF s n i

theorem beg_zero (s : Sh) (n : Nat) : beg s n 0 = true := begB_zero s n
theorem openF_le (s : Sh) (n : Nat) : ∀ i, openF s n i ≤ i
  | 0 => Nat.le_refl _
  | i + 1 => by unfold openF; split; exact Nat.le_refl _; exact Nat.le_succ_of_le (openF_le s n i)
theorem openF_beg (s : Sh) (n : Nat) : ∀ i, beg s n (openF s n i) = true
  | 0 => beg_zero s n
  | i + 1 => by unfold openF; split; assumption; exact openF_beg s n i
theorem openF_none (s : Sh) (n : Nat) : ∀ i j, openF s n i < j → j ≤ i → beg s n j = false
  | 0, j, h1, h2 => by omega
  | i + 1, j, h1, h2 => by
    unfold openF at h1
    split at h1
    · omega
    · rename_i hb
      by_cases e : j = i + 1
      · subst e; simpa using hb
      · exact openF_none s n i j h1 (by omega)
theorem cnt_open (s : Sh) (n i : Nat) : cnt (beg s n) (openF s n i) + 1 = cnt (beg s n) (i + 1) := by
  have h : ∀ j, openF s n i < j → j ≤ i + 1 → cnt (beg s n) j = cnt (beg s n) (openF s n i) + 1 := by
    intro j
    induction j with
    | zero => intro h; omega
    | succ j ih =>
      intro h1 h2
      rw [cnt_succ]
      by_cases e : j = openF s n i
      · subst e; rw [if_pos (openF_beg s n i)]
      · rw [openF_none s n i j (by omega) (by omega), ih (by omega) (by omega)]; simp
  have := openF_le s n i
  exact (h (i + 1) (by omega) (by omega)).symm
theorem bksF_succ (s : Sh) (n i : Nat) : bksF s n (i + 1) = if beg s n (i + 1) = true then bksF s n i ++ [⟨openF s n i, (i : Int) + 1, nextL s n i⟩] else bksF s n i := rfl
theorem bksF_len (s : Sh) (n : Nat) : ∀ i, (bksF s n i).length + 1 = cnt (beg s n) (i + 1)
  | 0 => by rw [cnt_succ, if_pos (beg_zero s n)]; rfl
  | i + 1 => by
    rw [cnt_succ, ← bksF_len s n i, bksF_succ]
    split <;> simp <;> omega

/-- What the b-th block is. -/
theorem bksF_get (s : Sh) (n : Nat) : ∀ i b x, (bksF s n i)[b]? = some x → ∃ e, e < i ∧ beg s n (e + 1) = true ∧ x = ⟨openF s n e, (e : Int) + 1, nextL s n e⟩ ∧ cnt (beg s n) (openF s n e) = b
  | 0, b, x, h => by simp [bksF] at h
  | i + 1, b, x, h => by
    rw [bksF_succ] at h
    split at h
    · rename_i hb
      by_cases hlt : b < (bksF s n i).length
      · rw [List.getElem?_append_left hlt] at h
        obtain ⟨e, h1, h2⟩ := bksF_get s n i b x h
        exact ⟨e, by omega, h2⟩
      · rw [List.getElem?_append_right (by omega)] at h
        have hb0 : b = (bksF s n i).length := by
          by_cases e : b - (bksF s n i).length = 0
          · omega
          · rw [List.getElem?_eq_none (by simp; omega)] at h; cases h
        subst hb0
        rw [Nat.sub_self] at h
        obtain rfl : _ = x := by simpa using h
        refine ⟨i, by omega, hb, rfl, ?_⟩
        have h1 := cnt_open s n i
        have h2 := bksF_len s n i
        omega
    · obtain ⟨e, h1, h2⟩ := bksF_get s n i b x h
      exact ⟨e, by omega, h2⟩
/-- .. and each block that begins is there. -/
theorem bksF_at (s : Sh) (n : Nat) : ∀ i e, e < i → beg s n (e + 1) = true → (bksF s n i)[cnt (beg s n) (openF s n e)]? = some ⟨openF s n e, (e : Int) + 1, nextL s n e⟩
  | 0, e, h, _ => by omega
  | i + 1, e, h, hb => by
    have h1 := cnt_open s n e
    have h2 := bksF_len s n i
    rw [bksF_succ]
    by_cases he : e = i
    · subst he
      rw [if_pos hb, List.getElem?_append_right (by omega), show cnt (beg s n) (openF s n e) - (bksF s n e).length = 0 by omega]
      rfl
    · have ih := bksF_at s n i e (by omega) hb
      split
      · rw [List.getElem?_append_left (List.getElem?_eq_some_iff.1 ih).1]; exact ih
      · exact ih

/-! ### How many there are -/
theorem cnt_or (p q : Nat → Bool) : ∀ i, cnt (fun j => p j || q j) i ≤ cnt p i + cnt q i
  | 0 => by simp [cnt_zero]
  | i + 1 => by
    have := cnt_or p q i
    rw [cnt_succ, cnt_succ, cnt_succ]
    cases p i <;> cases q i <;> simp <;> omega
theorem cnt_false : ∀ i, cnt (fun _ => false) i = 0
  | 0 => rfl
  | i + 1 => by rw [cnt_succ, cnt_false i]; rfl
theorem cnt_single (z : Int) : ∀ i : Nat, cnt (fun j => decide (z = j)) i = if 0 ≤ z ∧ z < i then 1 else 0
  | 0 => by rw [cnt_zero, if_neg (by omega)]
  | i + 1 => by
    rw [cnt_succ, cnt_single z i]
    by_cases h : z = i
    · subst h; rw [if_neg (by omega), decide_eq_true rfl, if_pos rfl, if_pos (by omega)]
    · rw [decide_eq_false h]
      by_cases h2 : 0 ≤ z ∧ z < i
      · rw [if_pos h2, if_pos (show 0 ≤ z ∧ z < ((i + 1 : Nat) : Int) by omega)]; rfl
      · rw [if_neg h2, if_neg (show ¬ (0 ≤ z ∧ z < ((i + 1 : Nat) : Int)) by omega)]; rfl
theorem cnt_single_le (z : Int) (i : Nat) : cnt (fun j => decide (z = j)) i ≤ 1 := by rw [cnt_single]; split <;> omega
theorem cnt_beg_le (s : Sh) (m : Nat) : ∀ k, cnt (fun i => begB s k i) m ≤ 1 + 2 * cnt s.jumps k + cnt s.exit k
  | 0 => by
    have h : cnt (fun i : Nat => begB s 0 i) m = cnt (fun j : Nat => decide ((0 : Int) = j)) m := cnt_congr fun j _ => by
      show decide ((j : Int) = 0) = decide ((0 : Int) = j)
      rw [decide_eq_decide]; omega
    have := cnt_single_le 0 m
    rw [h]; omega
  | k + 1 => by
    have ih := cnt_beg_le s m k
    have e : cnt (fun i : Nat => begB s (k + 1) i) m = cnt (fun i : Nat => (begB s k i || (s.jumps k && decide (s.to k = i))) || ((s.jumps k || s.exit k) && decide ((k : Int) + 1 = i))) m := rfl
    have h1 := cnt_or (fun i : Nat => begB s k i || (s.jumps k && decide (s.to k = i))) (fun i : Nat => (s.jumps k || s.exit k) && decide ((k : Int) + 1 = i)) m
    have h2 := cnt_or (fun i : Nat => begB s k i) (fun i : Nat => s.jumps k && decide (s.to k = i)) m
    have a1 := cnt_single_le (s.to k) m
    have a2 := cnt_single_le ((k : Int) + 1) m
    rw [e, cnt_succ, cnt_succ]
    cases hj : s.jumps k <;> cases hx : s.exit k <;> rw [hj] at h1 h2 <;> simp only [hj, hx, Bool.false_or, Bool.true_or, Bool.or_false, Bool.false_and, Bool.true_and, cnt_false, Bool.or_self] at h1 h2 ⊢ <;> simp <;> omega

theorem bksF_pos {s : Sh} {n : Nat} (h : Fine s n) : 1 ≤ (bksF s n n).length := by
  have h1 := bksF_len s n n
  have h2 := cnt_lt (beg s n) (i := 0) (j := n) h.pos (beg_zero s n)
  have h3 : cnt (beg s n) (n + 1) = cnt (beg s n) n + 1 := by rw [cnt_succ, if_pos (show beg s n n = true from h.ends)]
  omega
theorem bksF_few (s : Sh) (n : Nat) : (bksF s n n).length ≤ 2 * cnt s.jumps n + cnt s.exit n := by
  have h1 := bksF_len s n n
  have h2 := cnt_beg_le s (n + 1) n
  have e : cnt (beg s n) (n + 1) = cnt (fun i : Nat => begB s n i) (n + 1) := rfl
  omega

/-! ### Which block has an instruction -/
/-- The first block that has it. -/
def ofL : List Bk → Int → Int × Bool
  | [], _ => (0, false)
  | x :: l, i => if x.fr ≤ i ∧ i < x.to then (0, true) else if (ofL l i).2 = true then ((ofL l i).1 + 1, true) else (0, false)
theorem ofL_none : ∀ {l : List Bk} {i : Int}, (∀ (k : Nat) (x : Bk), l[k]? = some x → ¬ (x.fr ≤ i ∧ i < x.to)) → ofL l i = (0, false)
  | [], i, _ => rfl
  | x :: l, i, h => by
    unfold ofL
    rw [if_neg (h 0 x rfl), ofL_none (fun k y hy => h (k + 1) y (by simpa using hy))]
    rfl
theorem ofL_some : ∀ {l : List Bk} {i : Int} {k : Nat} {x : Bk}, l[k]? = some x → x.fr ≤ i ∧ i < x.to → (∀ j y, j < k → l[j]? = some y → ¬ (y.fr ≤ i ∧ i < y.to)) → ofL l i = ((k : Int), true)
  | [], i, k, x, h, _, _ => by simp at h
  | y :: l, i, 0, x, h, hx, _ => by
    obtain rfl : y = x := by simpa using h
    unfold ofL
    rw [if_pos hx]; rfl
  | y :: l, i, k + 1, x, h, hx, hn => by
    have ih := ofL_some (l := l) (k := k) (by simpa using h) hx (fun j z hj hz => hn (j + 1) z (by omega) (by simpa using hz))
    unfold ofL
    rw [if_neg (hn 0 y (by omega) rfl), ih]
    simp
theorem openF_end (s : Sh) (n : Nat) (h : beg s n n = true) : ∀ d i, i + d + 1 = n → ∃ e, i ≤ e ∧ e < n ∧ beg s n (e + 1) = true ∧ openF s n e ≤ i ∧ cnt (beg s n) (openF s n e) + 1 = cnt (beg s n) (i + 1)
  | 0, i, hd => by
    have e1 : i + 1 = n := by omega
    exact ⟨i, Nat.le_refl _, by omega, by rw [e1]; exact h, openF_le s n i, cnt_open s n i⟩
  | d + 1, i, hd => by
    by_cases hb : beg s n (i + 1) = true
    · exact ⟨i, Nat.le_refl _, by omega, hb, openF_le s n i, cnt_open s n i⟩
    · obtain ⟨e, h1, h2, h3, h4, h5⟩ := openF_end s n h d (i + 1) (by omega)
      have hle : openF s n e ≤ i := by
        by_cases hq : openF s n e = i + 1
        · have := openF_beg s n e; rw [hq] at this; exact absurd this hb
        · omega
      refine ⟨e, by omega, h2, h3, hle, ?_⟩
      rw [h5, cnt_succ _ (i + 1), if_neg hb]; rfl
/-- Each instruction is in the block whose number is how many begin ahead of it or at it, less one. -/
theorem bksF_of {s : Sh} {n : Nat} (h : Fine s n) {i : Nat} (hi : i < n) : ∃ e, i ≤ e ∧ e < n ∧ beg s n (e + 1) = true ∧ openF s n e ≤ i ∧ (bksF s n n)[cnt (beg s n) (openF s n e)]? = some ⟨openF s n e, (e : Int) + 1, nextL s n e⟩ ∧
    cnt (beg s n) (openF s n e) + 1 = cnt (beg s n) (i + 1) ∧ ofL (bksF s n n) i = ((cnt (beg s n) (openF s n e) : Int), true) := by
  obtain ⟨e, h1, h2, h3, h4, h5⟩ := openF_end s n h.ends (n - 1 - i) i (by omega)
  have hg := bksF_at s n n e h2 h3
  refine ⟨e, h1, h2, h3, h4, hg, h5, ofL_some hg ⟨?_, ?_⟩ ?_⟩
  · show ((openF s n e : Nat) : Int) ≤ i; omega
  · show (i : Int) < (e : Int) + 1; omega
  · intro j y hj hy hin
    obtain ⟨e', a1, a2, rfl, a4⟩ := bksF_get s n n j y hy
    have b1 : ((openF s n e' : Nat) : Int) ≤ i := hin.1
    have b2 : (i : Int) < (e' : Int) + 1 := hin.2
    have c1 := cnt_open s n e'
    have c2 := cnt_le (beg s n) (show i + 1 ≤ e' + 1 by omega)
    omega

/-! ### Numbers given one by one -/
theorem nums_step {s : Sh} {n : Nat} (h : Fine s n) {j p : Nat} (hp : (places (beg s n) (n + 1))[j]? = some p) (z : Int) (hz : begB s n z = true) :
    (if (p : Int) = z then (j : Int) else if num s n z < j then num s n z else 0) = if num s n z < ((j + 1 : Nat) : Int) then num s n z else 0 := by
  obtain ⟨h1, h2, h3⟩ := places_get hp
  have hb := h.bound (Nat.le_refl _) hz
  obtain ⟨i, rfl⟩ : ∃ i : Nat, z = i := ⟨z.toNat, by omega⟩
  have hn : num s n (i : Int) = (cnt (beg s n) i : Int) := rfl
  rw [hn]
  by_cases e : p = i
  · subst e
    rw [if_pos rfl, if_pos (by omega), h3]
  · rw [if_neg (by omega)]
    have hne : cnt (beg s n) i ≠ j := fun e2 => e (cnt_inj (beg s n) h2 hz (by rw [h3, e2]))
    by_cases h4 : cnt (beg s n) i < j
    · rw [if_pos (by omega), if_pos (by omega)]
    · rw [if_neg (by omega), if_neg (by omega)]
theorem nums_start (s : Sh) (n : Nat) (z : Int) : (0 : Int) = if num s n z < ((0 : Nat) : Int) then num s n z else 0 := by
  rw [if_neg]
  have : 0 ≤ num s n z := Int.natCast_nonneg _
  omega
theorem nums_end {s : Sh} {n : Nat} (h : Fine s n) (z : Int) (hz : begB s n z = true) :
    (if num s n z < ((cnt (beg s n) (n + 1) : Nat) : Int) then num s n z else 0) = num s n z := by
  have hb := h.bound (Nat.le_refl _) hz
  obtain ⟨i, rfl⟩ : ∃ i : Nat, z = i := ⟨z.toNat, by omega⟩
  have := cnt_lt (beg s n) (i := i) (j := n + 1) (by omega) hz
  rw [if_pos]
  show (cnt (beg s n) i : Int) < _
  omega
end Go.Proofs.Ytbpefomjmjkciaa.Blk
