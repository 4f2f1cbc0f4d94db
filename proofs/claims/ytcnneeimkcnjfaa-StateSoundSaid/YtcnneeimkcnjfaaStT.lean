/-
  The frame's bytes in plain words: loaded, stored. No program is named here.
-/
import Derived.Test.YtcnneeimkcnjfaaStR
namespace Go.Proofs.Ytcnneeimkcnjfaa.Sta
open Bnd Knw
set_option linter.unusedVariables false
set_option linter.unusedSimpArgs false
theorem getI_congr {f h : Nat → Int} : ∀ {n : Nat}, (∀ j, j < n → f j = h j) → getI f n = getI h n
  | 0, _ => rfl
  | n + 1, e => by
    show getI f n + f n * 2 ^ (8 * n) = getI h n + h n * 2 ^ (8 * n)
    rw [getI_congr (fun j hj => e j (by omega)), e n (by omega)]
theorem p2 (k : Nat) : (2 : Int) ^ (8 * (k + 1)) = 256 * 2 ^ (8 * k) := by
  rw [show 8 * (k + 1) = 8 * k + 8 by omega, Int.pow_add, Int.mul_comm]; rfl
theorem getI_cons (f : Nat → Int) : ∀ n : Nat, getI f (n + 1) = f 0 + 256 * getI (fun j => f (j + 1)) n
  | 0 => by
    show getI f 0 + f 0 * 2 ^ (8 * 0) = f 0 + 256 * 0
    show (0 : Int) + f 0 * 2 ^ (8 * 0) = f 0 + 256 * 0
    rw [show (2 : Int) ^ (8 * 0) = 1 from rfl]; omega
  | n + 1 => by
    show getI f (n + 1) + f (n + 1) * 2 ^ (8 * (n + 1)) = f 0 + 256 * (getI (fun j => f (j + 1)) n + f (n + 1) * 2 ^ (8 * n))
    rw [getI_cons f n, p2, Int.mul_add, ← Int.mul_assoc, ← Int.mul_assoc, Int.mul_comm (f (n + 1)) 256, Int.add_assoc]
/-- The number in m bytes, the top ones of n from a place on. -/
def topN (f : Nat → Int) (a n m : Nat) : B := Bk (getI (fun j => f (a + (n - m) + j)) m)
theorem top_bd {f : Nat → Int} {a n m : Nat} (hm : m ≤ n) (hn : n ≤ 8) (hf : ∀ j, j < n → 0 ≤ f (a + j) ∧ f (a + j) < 256) : 0 ≤ getI (fun j => f (a + (n - m) + j)) m ∧ getI (fun j => f (a + (n - m) + j)) m < 2 ^ (8 * m) :=
  getI_bd _ m (fun i hi => by have := hf (n - m + i) (by omega); rw [show a + (n - m + i) = a + (n - m) + i by omega] at this; exact this)
theorem pw8 {m : Nat} (hm : m ≤ 8) : (2 : Int) ^ (8 * m) ≤ 18446744073709551616 ∧ (m < 8 → 256 * (2 : Int) ^ (8 * m) ≤ 18446744073709551616) := by
  have p : ∀ k : Nat, (2 : Int) ^ k = ((2 ^ k : Nat) : Int) := pow_cast
  refine ⟨?_, fun h => ?_⟩
  · have : 2 ^ (8 * m) ≤ 2 ^ 64 := Nat.pow_le_pow_right (by decide) (by omega)
    rw [p]; omega
  · rw [← p2, p]
    have : 2 ^ (8 * (m + 1)) ≤ 2 ^ 64 := Nat.pow_le_pow_right (by decide) (by omega)
    omega
theorem top_V {f : Nat → Int} {a n m : Nat} (hm : m ≤ n) (hn : n ≤ 8) (hf : ∀ j, j < n → 0 ≤ f (a + j) ∧ f (a + j) < 256) : V (topN f a n m) = getI (fun j => f (a + (n - m) + j)) m := by
  have b := top_bd hm hn hf
  have p := (pw8 (show m ≤ 8 by omega)).1
  unfold topN
  exact V_Bk b.1 (by omega)
theorem top_0 (f : Nat → Int) (a n : Nat) : (0 : Int) = V (topN f a n 0) := by
  unfold topN
  show (0 : Int) = V (Bk 0)
  decide
theorem top_step {f : Nat → Int} {a n m : Nat} (hm : m < n) (hn : n ≤ 8) (hf : ∀ j, j < n → 0 ≤ f (a + j) ∧ f (a + j) < 256) : bits .or .u64 (V (topN f a n m) * 2 ^ Int.toNat 8 % 18446744073709551616) (f (a + (n - 1 - m))) = V (topN f a n (m + 1)) := by
  rw [top_V (by omega) hn hf, top_V (by omega) hn hf, getI_cons]
  have b := top_bd (m := m) (by omega) hn hf
  have p := (pw8 (show m ≤ 8 by omega)).2 (by omega)
  have y := hf (n - 1 - m) (by omega)
  have e : (fun j => f (a + (n - (m + 1)) + (j + 1))) = fun j => f (a + (n - m) + j) := by
    funext j; rw [show a + (n - (m + 1)) + (j + 1) = a + (n - m) + j by omega]
  rw [show (2 : Int) ^ Int.toNat 8 = 256 from rfl, show a + (n - (m + 1)) + 0 = a + (n - 1 - m) by omega, e]
  generalize getI (fun j => f (a + (n - m) + j)) m = X at *
  generalize f (a + (n - 1 - m)) = z at *
  rw [Int.emod_eq_of_lt (by omega) (by omega), u64_or _ _ (by omega) (by omega) y.1 (by omega)]
  have n1 : (X * 256).toNat = 2 ^ 8 * X.toNat := by omega
  have o := Nat.two_pow_add_eq_or_of_lt (i := 8) (b := z.toNat) (by omega) X.toNat
  rw [n1, ← o]; omega
theorem top_full (f : Nat → Int) (a n : Nat) : topN f a n n = Bk (getI (fun j => f (a + j)) n) := by
  unfold topN
  rw [show n - n = 0 by omega]; rfl
/-- Byte k of a number. -/
def byB (v : B) (k : Nat) : Int := V v / 2 ^ (8 * k) % 256
theorem byB_bd (v : B) (k : Nat) : 0 ≤ byB v k ∧ byB v k < 256 := by unfold byB; omega
theorem byB_get (v : B) : ∀ n : Nat, getI (byB v) n = V v % 2 ^ (8 * n)
  | 0 => by
    show (0 : Int) = V v % 2 ^ (8 * 0)
    rw [show (2 : Int) ^ (8 * 0) = 1 from rfl]; omega
  | n + 1 => by
    show getI (byB v) n + byB v n * 2 ^ (8 * n) = _
    rw [byB_get v n, p2]
    unfold byB V
    rw [show (2 : Int) ^ (8 * n) = ((2 ^ (8 * n) : Nat) : Int) from pow_cast _]
    have e := congrArg (fun m : Nat => (m : Int)) (Nat.mod_mul (x := v.toNat) (a := 2 ^ (8 * n)) (b := 256))
    simp only [Int.natCast_add, Int.natCast_mul, Int.natCast_emod, Int.natCast_ediv] at e
    rw [Int.mul_comm 256, Int.mul_comm (_ / _ % _)]
    exact e.symm
theorem byB_8 (v : B) : Bk (getI (byB v) 8) = v := by
  rw [byB_get, show (2 : Int) ^ (8 * 8) = 18446744073709551616 from rfl, Int.emod_eq_of_lt (V_nn v) (V_lt v), Bk_V]
/-- k bytes of a number laid from a place on. -/
def Snp.put (X : Snp) (a k : Nat) (v : B) : Snp := { X with f := fun j => if a ≤ j ∧ j < a + k then byB v (j - a) else X.f j }
theorem put_0 (X : Snp) (a : Nat) (v : B) : X.put a 0 v = X := by
  unfold Snp.put
  cases X with
  | mk r s f =>
    congr 1
    funext j
    rw [if_neg (by omega)]
theorem put_Ok {X : Snp} (h : X.Ok) (a k : Nat) (v : B) : (X.put a k v).Ok := ⟨h.1, fun i hi => by
  show 0 ≤ (if a ≤ i ∧ i < a + k then byB v (i - a) else X.f i) ∧ _
  split
  · rename_i c
    have := byB_bd v (i - a)
    refine ⟨this.1, ?_⟩
    show (if a ≤ i ∧ i < a + k then byB v (i - a) else X.f i) < 256
    rw [if_pos c]; exact this.2
  · rename_i c
    refine ⟨(h.2 i hi).1, ?_⟩
    show (if a ≤ i ∧ i < a + k then byB v (i - a) else X.f i) < 256
    rw [if_neg c]; exact (h.2 i hi).2⟩
theorem place_bd {S : St} {lo hi size : Int} (h : placeB S lo hi size = true) : okS S = true ∧ withinB lo hi size = true ∧ 0 ≤ lo ∧ lo ≤ hi ∧ hi ≤ 64 - size ∧ (size = 1 ∨ size = 2 ∨ size = 4 ∨ size = 8) := by
  unfold placeB at h
  rw [Bool.and_eq_true] at h
  exact ⟨h.1, h.2, within_bd h.2⟩
theorem load_has {S : St} {x : Snp} {lo hi size : Int} {a : Nat} (hx : x.Ok) (h : hasS S x = true) (hp : placeB S lo hi size = true) (h1 : lo ≤ a) (h2 : a ≤ hi) : (loadT S lo hi size).holdB (Bk (getI (fun j => x.f (a + j)) size.toNat)) = true := by
  obtain ⟨ok, _, b1, b2, b3, b4⟩ := place_bd hp
  unfold loadT
  cases e : exactB lo hi size with
  | true =>
    rw [if_pos rfl]
    obtain ⟨e1, e2, e3⟩ := exact_bd e
    have := (hasS_iff.1 h).2.2 (lo / 8).toNat (by omega)
    unfold Snp.slot at this
    rw [show 8 * (lo / 8).toNat = a by omega] at this
    rw [e1]; exact this
  | false =>
    rw [if_neg Bool.false_ne_true]
    refine hold_sc (bytesC_has ?_)
    have c : clampI size = size := by unfold clampI; omega
    have g := getI_bd (fun j => x.f (a + j)) size.toNat (fun i hi => hx.2 _ (by omega))
    have p := (pw8 (show size.toNat ≤ 8 by omega)).1
    rw [V_Bk g.1 (by omega), c, show (8 * size).toNat = 8 * size.toNat by omega]
    exact g.2
theorem store_has {S : St} {x : Snp} {lo hi size : Int} {t : Ty} {a : Nat} {v : B} (h : hasS S x = true) (hp : storeB S lo hi size t = true) (h1 : lo ≤ a) (h2 : a ≤ hi) (hv : t.holdB v = true) : hasS (storeS S lo hi size t) (x.put a size.toNat v) = true := by
  unfold storeB at hp
  rw [Bool.and_eq_true, Bool.and_eq_true, Bool.not_eq_true'] at hp
  obtain ⟨hp, tok, tun⟩ := hp
  obtain ⟨ok, _, b1, b2, b3, b4⟩ := place_bd hp
  obtain ⟨_, g1, g2⟩ := hasS_iff.1 h
  have ok' := okS_iff.1 ok
  have same : ∀ i, i < 8 → (8 * i + 7 < a ∨ a + size.toNat ≤ 8 * i) → (x.put a size.toNat v).slot i = x.slot i := by
    intro i hi hd
    unfold Snp.slot
    rw [getI_congr (h := fun j => x.f (8 * i + j)) (fun j hj => ?_)]
    show (if a ≤ 8 * i + j ∧ 8 * i + j < a + size.toNat then byB v (8 * i + j - a) else x.f (8 * i + j)) = _
    rw [if_neg (by omega)]
  unfold storeS
  cases e : exactB lo hi size with
  | true =>
    rw [if_pos rfl]
    obtain ⟨e1, e2, e3⟩ := exact_bd e
    rw [hasS_iff]
    refine ⟨okS_iff.2 ⟨fun i hi => ?_, fun i hi => ?_⟩, fun i hi => ?_, fun i hi => ?_⟩
    · rw [upS_ne S t (show i ≠ 11 + (lo / 8).toNat by omega)]; exact ok'.1 i hi
    · by_cases c : 11 + i = 11 + (lo / 8).toNat
      · rw [c, upS_at]; exact ⟨tok, tun⟩
      · rw [upS_ne S t c]; exact ok'.2 i hi
    · rw [upS_ne S t (show i ≠ 11 + (lo / 8).toNat by omega)]; exact g1 i hi
    · by_cases c : 11 + i = 11 + (lo / 8).toNat
      · rw [c, upS_at]
        have es : (x.put a size.toNat v).slot i = v := by
          unfold Snp.slot
          rw [getI_congr (h := byB v) (fun j hj => ?_), byB_8]
          show (if a ≤ 8 * i + j ∧ 8 * i + j < a + size.toNat then byB v (8 * i + j - a) else x.f (8 * i + j)) = _
          rw [if_pos (by omega), show 8 * i + j - a = j by omega]
        rw [es]; exact hv
      · rw [upS_ne S t c, same i hi (by omega)]
        exact g2 i hi
  | false =>
    rw [if_neg Bool.false_ne_true]
    rw [hasS_iff]
    have ne : ∀ i, i < 11 → fillS S (lo / 8).toNat ((hi + size - 1) / 8).toNat i = S i := fun i hi => by unfold fillS; rw [if_neg (by omega)]
    refine ⟨okS_iff.2 ⟨fun i hi => ?_, fun i hi => ?_⟩, fun i hi => ?_, fun i hi => ?_⟩
    · rw [ne i hi]; exact ok'.1 i hi
    · unfold fillS
      split
      · exact ⟨allT_okB, allT_unB⟩
      · exact ok'.2 i hi
    · rw [ne i hi]; exact g1 i hi
    · unfold fillS
      split
      · exact allT_hold _
      · rw [same i hi (by omega)]
        exact g2 i hi
end Go.Proofs.Ytcnneeimkcnjfaa.Sta
