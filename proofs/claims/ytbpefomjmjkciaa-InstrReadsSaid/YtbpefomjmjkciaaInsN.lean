/-
  There and back, in numbers.
-/
import Derived.Test.YtbpefomjmjkciaaInsY
import Derived.Test.YtbpefomjmjkciaaInsP
import Derived.Test.YtbpefomjmjkciaaInsT
namespace Go.Proofs.Ytbpefomjmjkciaa.Ins
open Go.RowKit
set_option linter.unusedVariables false
set_option maxRecDepth 100000

theorem getI_congr {f g : Nat → Int} : ∀ {k : Nat}, (∀ i, i < k → f i = g i) → getI f k = getI g k
  | 0, _ => rfl
  | k + 1, h => by
    show getI f k + f k * 2 ^ (8 * k) = getI g k + g k * 2 ^ (8 * k)
    rw [getI_congr (fun i hi => h i (by omega)), h k (by omega)]
theorem get_back {v : Int} (h0 : 0 ≤ v) (h1 : v < 18446744073709551616) : getI (byteI v) 8 = v := by
  rw [bytes_back v h0 8]
  exact Int.emod_eq_of_lt h0 (by simpa using h1)
theorem readI_pack {x : In} (h : mayI x = true) : readI (packI x) = (x, 0) := by
  unfold readI
  rw [unpack_pack h, if_pos h]
theorem read_pack {x : In} (h : mayI x = true) : readI (getI (byteI (packI x)) 8) = (x, 0) := by
  rw [get_back (packI_bd h).1 (packI_bd h).2, readI_pack h]
theorem readI_ok {v : Int} (h : (readI v).2 = 0) : mayI (unpackI v) = true ∧ readI v = (unpackI v, 0) := by
  unfold readI at *
  by_cases hm : mayI (unpackI v) = true
  · exact ⟨hm, if_pos hm⟩
  · rw [if_neg hm] at h; cases h
/-- What reads has the bytes that it was read from. -/
theorem bytes_of_read {f : Nat → Int} (hf : ∀ i, i < 8 → 0 ≤ f i ∧ f i < 256) (h : (readI (getI f 8)).2 = 0) :
    mayI (readI (getI f 8)).1 = true ∧ ∀ i, i < 8 → byteI (packI (readI (getI f 8)).1) i = f i := by
  have hb := getI_bd f 8 hf
  obtain ⟨h1, h2⟩ := readI_ok h
  rw [h2]
  refine ⟨h1, fun i hi => ?_⟩
  show byteI (packI (unpackI (getI f 8))) i = f i
  rw [pack_unpack _ hb.1 (by have := hb.2; simpa using this) h1]
  exact byte_of f 8 hf i hi

/-- The bytes of a program as a function. -/
def encF (c : Int) (xs : Nat → In) (k : Nat) (j : Nat) : Int := ((encN c xs k)[j]?).getD 0
theorem encN_head (c : Int) (xs : Nat → In) : ∀ k, (encN c xs k)[0]? = some (byteI c 0) ∧ (encN c xs k)[1]? = some (byteI c 1)
  | 0 => ⟨rfl, rfl⟩
  | k + 1 => by
    have h := encN_head c xs k
    unfold encN
    rw [List.getElem?_append_left (by rw [encN_length]; omega), List.getElem?_append_left (by rw [encN_length]; omega)]
    exact h
theorem encN_at (c : Int) (xs : Nat → In) : ∀ {k i j : Nat}, i < k → j < 8 → (encN c xs k)[2 + (8 * i + j)]? = some (byteI (packI (xs i)) j)
  | k + 1, i, j, hi, hj => by
    unfold encN
    by_cases e : i < k
    · rw [List.getElem?_append_left (by rw [encN_length]; omega)]
      exact encN_at c xs e hj
    · obtain rfl : i = k := by omega
      rw [List.getElem?_append_right (by rw [encN_length]; omega), encN_length, show 2 + (8 * i + j) - (2 + 8 * i) = j by omega]
      simp [hj]
theorem firstF_none {g : Nat → Int} : ∀ {n k : Nat}, (∀ i, k ≤ i → i < k + n → g i = 0) → firstF g n k = (0, 0)
  | 0, k, _ => rfl
  | n + 1, k, h => by
    show (if g k = 0 then firstF g n (k + 1) else ((k : Int), g k)) = _
    rw [if_pos (h k (by omega) (by omega))]
    exact firstF_none (fun i h1 h2 => h i (by omega) (by omega))
theorem firstF_congr {f g : Nat → Int} : ∀ {n k : Nat}, (∀ i, k ≤ i → i < k + n → f i = g i) → firstF f n k = firstF g n k
  | 0, k, _ => rfl
  | n + 1, k, h => by
    show (if f k = 0 then firstF f n (k + 1) else ((k : Int), f k)) = (if g k = 0 then firstF g n (k + 1) else ((k : Int), g k))
    rw [h k (by omega) (by omega), firstF_congr (fun i h1 h2 => h i (by omega) (by omega))]
theorem checkI_congr {c : Int} {n : Nat} {xs ys : Nat → In} (h : ∀ i, i < n → xs i = ys i) : checkI c n xs = checkI c n ys := by
  unfold checkI
  rw [firstF_congr (f := fun i => faultI i (xs i) n) (g := fun i => faultI i (ys i) n) (fun i _ h2 => by show faultI i (xs i) n = faultI i (ys i) n; rw [h i (by omega)])]
  by_cases h1 : c < 0 ∨ 256 < c
  · rw [if_pos h1, if_pos h1]
  rw [if_neg h1, if_neg h1]
  by_cases h2 : n < 1 ∨ 64 < n
  · rw [if_pos h2, if_pos h2]
  rw [if_neg h2, if_neg h2, h (n - 1) (by omega)]
theorem limI_of_check {c : Int} {n : Nat} {xs : Nat → In} (h : (checkI c n xs).2 = 0) : limI c n = 0 := by
  unfold checkI at h
  unfold limI
  by_cases h1 : c < 0 ∨ 256 < c
  · rw [if_pos h1] at h; cases h
  rw [if_neg h1] at h ⊢
  by_cases h2 : n < 1 ∨ 64 < n
  · rw [if_pos h2] at h; cases h
  rw [if_neg (by omega)]
/-- What Encode has made reads as what it was made of. -/
theorem dec_enc {c : Int} {n : Nat} {xs : Nat → In} (h : (checkI c n xs).2 = 0) (hm : ∀ i, i < n → mayI (xs i) = true) (hc : 0 ≤ c ∧ c ≤ 256) :
    (decR (2 + 8 * n) (encF c xs n)).2 = 0 ∧ getI (encF c xs n) 2 = c ∧ ∀ i, i < n → xsI (tailF (encF c xs n)) i = xs i := by
  have f0 : encF c xs n 0 = byteI c 0 := by unfold encF; rw [(encN_head c xs n).1]; rfl
  have f1 : encF c xs n 1 = byteI c 1 := by unfold encF; rw [(encN_head c xs n).2]; rfl
  have hg : getI (encF c xs n) 2 = c := by
    rw [getI_congr (g := byteI c) (fun i hi => by rcases (by omega : i = 0 ∨ i = 1) with rfl | rfl; exact f0; exact f1), bytes_back c hc.1 2]
    exact Int.emod_eq_of_lt hc.1 (by have := hc.2; simp; omega)
  have hr : ∀ i, i < n → readI (numI (tailF (encF c xs n)) i) = (xs i, 0) := fun i hi => by
    unfold numI
    rw [getI_congr (g := byteI (packI (xs i))) (fun j hj => by show encF c xs n (2 + (8 * i + j)) = _; unfold encF; rw [encN_at c xs hi hj]; rfl), read_pack (hm i hi)]
  have hx : ∀ i, i < n → xsI (tailF (encF c xs n)) i = xs i := fun i hi => by unfold xsI; rw [hr i hi]
  refine ⟨?_, hg, hx⟩
  unfold decR
  rw [if_neg (by omega), show (2 + 8 * n - 2) / 8 = n by omega, hg, if_neg (by rw [limI_of_check h]; simp), if_neg (by
    rw [firstF_none (fun i _ h2 => by show (readI (numI (tailF (encF c xs n)) i)).2 = 0; rw [hr i (by omega)])]; simp), checkI_congr hx]
  exact h
/-- What reads is written so. -/
theorem enc_dec {len : Nat} {f : Nat → Int} (hf : ∀ j, j < len → 0 ≤ f j ∧ f j < 256) (h : (decR len f).2 = 0) :
    len = 2 + 8 * ((len - 2) / 8) ∧ (checkI (getI f 2) ((len - 2) / 8) (xsI (tailF f))).2 = 0 ∧ ∀ k, k ≤ (len - 2) / 8 → encN (getI f 2) (xsI (tailF f)) k = (List.range (2 + 8 * k)).map f := by
  unfold decR at h
  by_cases h0 : len < 2 ∨ (len - 2) % 8 ≠ 0
  · rw [if_pos h0] at h; cases h
  rw [if_neg h0] at h
  by_cases h1 : limI (getI f 2) ((len - 2) / 8) = 0
  case neg => rw [if_pos h1] at h; exact absurd h h1
  rw [if_neg (by rw [h1]; simp)] at h
  by_cases h2 : (firstF (rsI (tailF f)) ((len - 2) / 8) 0).2 = 0
  case neg => rw [if_pos h2] at h; exact absurd h h2
  rw [if_neg (by rw [h2]; simp)] at h
  refine ⟨by omega, h, ?_⟩
  intro k
  induction k with
  | zero =>
    intro _
    have b2 := byte_of f 2 (fun i hi => hf i (by omega))
    show [byteI (getI f 2) 0, byteI (getI f 2) 1] = [f 0, f 1]
    rw [b2 0 (by omega), b2 1 (by omega)]
  | succ k ih =>
    intro hk
    unfold encN
    have e8 : List.range (2 + 8 * (k + 1)) = List.range (2 + 8 * k) ++ (List.range 8).map (fun i => 2 + 8 * k + i) := List.range_add (n := 2 + 8 * k) (m := 8)
    rw [ih (by omega), e8, List.map_append]
    congr 1
    have hz := firstF_all _ _ _ h2 k (by omega) (by omega)
    have := bytes_of_read (f := fun i => tailF f (8 * k + i)) (fun i hi => hf (2 + (8 * k + i)) (by omega)) hz
    rw [List.map_map]
    refine List.map_congr_left (fun i hi => ?_)
    have h3 := this.2 i (by simpa using hi)
    show byteI (packI (readI (getI (fun i => tailF f (8 * k + i)) 8)).1) i = f (2 + 8 * k + i)
    rw [h3]
    show f (2 + (8 * k + i)) = _
    rw [Nat.add_assoc]
end Go.Proofs.Ytbpefomjmjkciaa.Ins
