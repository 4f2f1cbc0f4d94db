/-
  Package blocks: a program's instructions appended; an exit behind a program.
-/
import Derived.Test.YtpbaofidjikdhaaBlkD
import Derived.Test.YtpbaofidjikdhaaBlkN
import Derived.Test.YtpbaofidjikdhaaBlkW
namespace Go.Proofs.Ytpbaofidjikdhaa.Blk
open Go.RowKit Go.Maps Go.Sort Ins
set_option linter.unusedVariables false
set_option maxRecDepth 100000

theorem firstF_of (f : Nat → Int) : ∀ n k, (∀ i, k ≤ i → i < k + n → f i = 0) → firstF f n k = (0, 0)
  | 0, k, _ => rfl
  | n + 1, k, h => by
    unfold firstF
    rw [if_pos (h k (Nat.le_refl _) (by omega))]
    exact firstF_of f n (k + 1) (fun i h1 h2 => h i (by omega) (by omega))
theorem check_of {c : Int} {len : Nat} {xs : Nat → In} (hc : 0 ≤ c ∧ c ≤ 256) (h1 : 1 ≤ len ∧ len ≤ 64) (hf : ∀ k : Nat, k < len → faultI k (xs k) len = 0) (hl : (xs (len - 1)).kind = 4 ∨ (xs (len - 1)).kind = 6) : (checkI c len xs).2 = 0 := by
  unfold checkI
  rw [if_neg (by omega), if_neg (by omega), firstF_of (fun i => faultI i (xs i) len) len 0 (fun i _ hi => hf i (by omega)), if_neg (by simp), if_pos hl]
theorem check_facts {c : Int} {len : Nat} {xs : Nat → In} (h : (checkI c len xs).2 = 0) : (0 ≤ c ∧ c ≤ 256) ∧ (1 ≤ len ∧ len ≤ 64) ∧ (∀ k : Nat, k < len → faultI k (xs k) len = 0) ∧ ((xs (len - 1)).kind = 4 ∨ (xs (len - 1)).kind = 6) := by
  unfold checkI at h
  by_cases h1 : c < 0 ∨ 256 < c
  · rw [if_pos h1] at h; simp at h
  rw [if_neg h1] at h
  by_cases h2 : len < 1 ∨ 64 < len
  · rw [if_pos h2] at h; simp at h
  rw [if_neg h2] at h
  by_cases h3 : (firstF (fun i => faultI i (xs i) len) len 0).2 ≠ 0
  · rw [if_pos h3] at h; exact absurd h h3
  rw [if_neg h3] at h
  by_cases h4 : (xs (len - 1)).kind = 4 ∨ (xs (len - 1)).kind = 6
  case neg => rw [if_neg h4] at h; simp at h
  exact ⟨by omega, by omega, fun k hk => firstF_all (fun i => faultI i (xs i) len) len 0 (by omega) k (by omega) (by omega), h4⟩

/-- An exit behind the instructions. -/
def exitI : In := ⟨6, 0, 0, 0, false, 0, 0, 0, 0⟩
def moreI (xs : Nat → In) (len : Nat) (i : Nat) : In := if i < len then xs i else exitI
theorem moreI_lt {xs : Nat → In} {len i : Nat} (h : i < len) : moreI xs len i = xs i := if_pos h
theorem moreI_at (xs : Nat → In) (len : Nat) : moreI xs len len = exitI := if_neg (by omega)
theorem fault_more {i : Int} {x : In} {n : Nat} (h : faultI i x n = 0) : faultI i x ((n + 1 : Nat) : Int) = 0 := by
  unfold faultI at *
  by_cases h1 : mayI x = false
  · rw [if_pos h1] at h; omega
  rw [if_neg h1] at h ⊢
  by_cases h2 : jumpsI i x = true ∧ (targetI i x < 0 ∨ (n : Int) ≤ targetI i x)
  · rw [if_pos h2] at h; omega
  · rw [if_neg]
    intro h3
    exact h2 ⟨h3.1, by have := h3.2; omega⟩
theorem check_more {c : Int} {len : Nat} {xs : Nat → In} (h : (checkI c len xs).2 = 0) (hl : len < 64) : (checkI c (len + 1) (moreI xs len)).2 = 0 := by
  obtain ⟨hc, h1, hf, _⟩ := check_facts h
  refine check_of hc (by omega) (fun k hk => ?_) ?_
  · by_cases e : k < len
    · rw [moreI_lt e]; exact fault_more (hf k e)
    · obtain rfl : k = len := by omega
      rw [moreI_at]
      unfold faultI
      rw [if_neg (by decide), if_neg]
      intro h3
      have := h3.1
      unfold jumpsI at this
      simp [exitI] at this
  · rw [Nat.add_sub_cancel, moreI_at]; exact .inr rfl
theorem behind_more {xs : Nat → In} {len : Nat} : Behind (sh xs) (sh (moreI xs len)) len :=
  ⟨fun i hi => by show decide _ = decide _; rw [moreI_lt hi], fun i hi => by show jumpsI _ _ = jumpsI _ _; rw [moreI_lt hi], fun i hi => by show decide _ = decide _; rw [moreI_lt hi], fun i hi => by show targetI _ _ = targetI _ _; rw [moreI_lt hi],
    by show decide _ = true; rw [moreI_at]; rfl, by show jumpsI _ _ = false; rw [moreI_at]; rfl, by show decide _ = false; rw [moreI_at]; rfl⟩

/-- Instructions' cells, one behind the other. -/
def cellsI (xs : Nat → In) : Nat → List Value
  | 0 => []
  | n + 1 => cellsI xs n ++ (xs n).cells.toList
theorem cellsI_length (xs : Nat → In) : ∀ n, (cellsI xs n).length = n * 9
  | 0 => rfl
  | n + 1 => by
    show (cellsI xs n ++ (xs n).cells.toList).length = _
    rw [List.length_append, cellsI_length xs n]
    show n * 9 + 9 = _
    omega
theorem cellsI_get (xs : Nat → In) : ∀ {n i k : Nat}, i < n → k < 9 → (cellsI xs n)[i * 9 + k]? = (xs i).cells.toList[k]?
  | n + 1, i, k, hi, hk => by
    show (cellsI xs n ++ (xs n).cells.toList)[i * 9 + k]? = _
    by_cases e : i < n
    · rw [List.getElem?_append_left (by rw [cellsI_length]; omega)]
      exact cellsI_get xs e hk
    · obtain rfl : i = n := by omega
      rw [List.getElem?_append_right (by rw [cellsI_length]; omega), cellsI_length]
      congr 1; omega
theorem cellsI_one (xs : Nat → In) (n : Nat) : ∀ u ∈ cellsI xs n, u.oneCell' = true := by
  intro u hu
  obtain ⟨j, hj⟩ := List.mem_iff_getElem?.1 hu
  have hl : j < n * 9 := by have := (List.getElem?_eq_some_iff.1 hj).1; rw [cellsI_length] at this; exact this
  have h1 := cellsI_get xs (n := n) (i := j / 9) (k := j % 9) (by omega) (by omega)
  rw [show j / 9 * 9 + j % 9 = j by omega, hj] at h1
  have h2 : u ∈ (xs (j / 9)).cells.toList := List.mem_of_getElem? h1.symm
  have h3 := one_cells (xs (j / 9))
  rw [Array.all_eq_true_iff_forall_mem] at h3
  exact h3 u (by simpa using h2)
theorem cellsI_congr {xs ys : Nat → In} : ∀ {n : Nat}, (∀ i, i < n → xs i = ys i) → cellsI xs n = cellsI ys n
  | 0, _ => rfl
  | n + 1, h => by
    show cellsI xs n ++ (xs n).cells.toList = cellsI ys n ++ (ys n).cells.toList
    rw [cellsI_congr (fun i hi => h i (by omega)), h n (by omega)]
theorem insts_src {W : World} {b o len : Nat} {xs : Nat → In} (hc : ∀ i, i < len → W.rangeAt b (o + i * 9) (xs i).cells.toList) : ∀ j u, (cellsI xs len)[j]? = some u → W.cell? ((⟨b, o, none⟩ : Addr).add j) = some u := by
  intro j u hj
  have hl : j < len * 9 := by have := (List.getElem?_eq_some_iff.1 hj).1; rw [cellsI_length] at this; exact this
  have h1 := cellsI_get xs (n := len) (i := j / 9) (k := j % 9) (by omega) (by omega)
  rw [show j / 9 * 9 + j % 9 = j by omega, hj] at h1
  have h2 := hc (j / 9) (by omega) (j % 9) u h1.symm
  rw [Go.WideShapes.add_plain, show o + j = o + j / 9 * 9 + j % 9 by omega]
  exact h2
theorem own_insts {w : World} {base n : Nat} {v : Value} {xs : Nat → In} (h : w.ownsRow base 46 9 v n (cellsI xs n)) (hn : 0 < n) (hok : ∀ i, i < n → (xs i).Ok) :
    ∃ g cap, v = .slice (some ⟨g, 0, none⟩) n cap ∧ base ≤ g ∧ Insts w (some ⟨g, 0, none⟩) n cap xs := by
  rcases h.2 with ⟨_, h0⟩ | ⟨g, cap, cur, e1, e2, e3, e4, e5, e6, e7⟩
  · omega
  · refine ⟨g, cap, e1, e2, ⟨e4, by unfold maxLen at e5; omega, fun _ => ⟨g, 0, rfl, fun i hi k u hu => ?_⟩, hok⟩⟩
    have hk : k < 9 := (List.getElem?_eq_some_iff.1 hu).1
    have h1 := cellsI_get xs hi hk
    rw [← e7, List.getElem?_take_of_lt (by omega), Array.getElem?_toList] at h1
    simp only [World.cell?, e3, Nat.zero_add]
    rw [h1]; exact hu
theorem ok_more {xs : Nat → In} {len : Nat} (h : ∀ i, i < len → (xs i).Ok) : ∀ i, i < len + 1 → (moreI xs len i).Ok := by
  intro i hi
  by_cases e : i < len
  · rw [moreI_lt e]; exact h i e
  · obtain rfl : i = len := by omega
    rw [moreI_at]
    exact ⟨by decide, by decide, by decide, by decide, by decide, by decide, by decide, by decide⟩
theorem cellsI_more (xs : Nat → In) (len : Nat) : cellsI (moreI xs len) (len + 1) = cellsI xs len ++ exitI.cells.toList := by
  show cellsI (moreI xs len) len ++ (moreI xs len len).cells.toList = _
  rw [moreI_at, cellsI_congr (fun i hi => moreI_lt hi)]
theorem Blks.first {W : World} {a : Option Addr} {len cap n : Nat} {bs cs : List Bk} (h : Blks W a len cap (bs ++ cs)) (hn : n = bs.length) : Blks W a n cap bs := by
  have h1 := h.size
  rw [List.length_append] at h1
  refine ⟨hn, by have := h.le; omega, h.fit, fun hp => ?_⟩
  obtain ⟨b, o, e, hc⟩ := h.here (by omega)
  exact ⟨b, o, e, fun i x hx => hc i x (by rw [List.getElem?_append_left (List.getElem?_eq_some_iff.1 hx).1]; exact hx)⟩
end Go.Proofs.Ytpbaofidjikdhaa.Blk
