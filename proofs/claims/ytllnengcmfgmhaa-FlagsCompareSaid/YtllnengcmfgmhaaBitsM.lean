/-
  Plain arithmetic of machine words, as functions on integers: what cutting, signs, operations and conditions come to. No program is named here.
-/
import Derived.WalkKit
namespace Go.Proofs.Ytllnengcmfgmhaa

/-- A number cut to a width. -/
def cutI (v w : Int) : Int := if w = 8 then v % 256 else if w = 16 then v % 65536 else if w = 32 then v % 4294967296 else v

/-- The number with the sign of a word of so many values. -/
def sgnI (v w : Int) : Int :=
  if w = 8 then (v + 128) % 256 - 128 else if w = 16 then (v + 32768) % 65536 - 32768 else if w = 32 then (v + 2147483648) % 4294967296 - 2147483648 else (v + 9223372036854775808) % 18446744073709551616 - 9223372036854775808

/-- A word with its sign's bit copied. -/
def signI (v w : Int) : Int :=
  if w = 8 then ((v + 128) % 256 - 128) % 18446744073709551616 else if w = 16 then ((v + 32768) % 65536 - 32768) % 18446744073709551616 else if w = 32 then ((v + 2147483648) % 4294967296 - 2147483648) % 18446744073709551616 else v

def longB (w : Int) : Bool := w == 32 || w == 64

/-- How far a shift by b goes, in a word of width w. -/
def cntI (w b : Int) : Nat := if w = 32 then (b % 32).toNat else (b % 64).toNat

/-- An operation of two cut words, ahead of the last cut. -/
def opI (op w a b : Int) : Int :=
  if op = 0 then (a + b) % 18446744073709551616
  else if op = 1 then (a - b) % 18446744073709551616
  else if op = 2 then (a * b) % 18446744073709551616
  else if op = 3 then (if b = 0 then 0 else a / b)
  else if op = 4 then ((a.toNat ||| b.toNat : Nat) : Int)
  else if op = 5 then ((a.toNat &&& b.toNat : Nat) : Int)
  else if op = 6 then (a * 2 ^ cntI w b) % 18446744073709551616
  else if op = 7 then a / 2 ^ cntI w b
  else if op = 8 then (-a) % 18446744073709551616
  else if op = 9 then (if b = 0 then a else a % b)
  else if op = 10 then ((a.toNat ^^^ b.toNat : Nat) : Int)
  else if op = 11 then b
  else (sgnI a w / 2 ^ cntI w b) % 18446744073709551616

theorem opI_0 (w a b : Int) : opI 0 w a b = (a + b) % 18446744073709551616 := rfl
theorem opI_1 (w a b : Int) : opI 1 w a b = (a - b) % 18446744073709551616 := rfl
theorem opI_2 (w a b : Int) : opI 2 w a b = (a * b) % 18446744073709551616 := rfl
theorem opI_3 (w a b : Int) : opI 3 w a b = if b = 0 then 0 else a / b := rfl
theorem opI_4 (w a b : Int) : opI 4 w a b = ((a.toNat ||| b.toNat : Nat) : Int) := rfl
theorem opI_5 (w a b : Int) : opI 5 w a b = ((a.toNat &&& b.toNat : Nat) : Int) := rfl
theorem opI_6 (w a b : Int) : opI 6 w a b = (a * 2 ^ cntI w b) % 18446744073709551616 := rfl
theorem opI_7 (w a b : Int) : opI 7 w a b = a / 2 ^ cntI w b := rfl
theorem opI_8 (w a b : Int) : opI 8 w a b = (-a) % 18446744073709551616 := rfl
theorem opI_9 (w a b : Int) : opI 9 w a b = if b = 0 then a else a % b := rfl
theorem opI_10 (w a b : Int) : opI 10 w a b = ((a.toNat ^^^ b.toNat : Nat) : Int) := rfl
theorem opI_11 (w a b : Int) : opI 11 w a b = b := rfl
theorem opI_12 (w a b : Int) : opI 12 w a b = (sgnI a w / 2 ^ cntI w b) % 18446744073709551616 := rfl

theorem and_31 (b : Int) (h0 : 0 ≤ b) (h1 : b < 18446744073709551616) : bits .and .u64 b 31 = b % 32 := by
  rw [u64_and b 31 h0 h1 (by omega) (by omega)]
  have : b.toNat &&& (31 : Int).toNat = b.toNat % 32 := Nat.and_two_pow_sub_one_eq_mod b.toNat 5
  rw [this]; omega
theorem and_63 (b : Int) (h0 : 0 ≤ b) (h1 : b < 18446744073709551616) : bits .and .u64 b 63 = b % 64 := by
  rw [u64_and b 63 h0 h1 (by omega) (by omega)]
  have : b.toNat &&& (63 : Int).toNat = b.toNat % 64 := Nat.and_two_pow_sub_one_eq_mod b.toNat 6
  rw [this]; omega

/-- Do's answer. -/
def doI (op w a b : Int) : Int := if 0 ≤ op ∧ op ≤ 12 ∧ longB w = true then cutI (opI op w (cutI a w) (cutI b w)) w else 0
/-- Do's error. -/
def doE (op w : Int) : Int := if 0 ≤ op ∧ op ≤ 12 ∧ longB w = true then 0 else 2

/-- A condition of two cut words. -/
def ccB (cc w a b : Int) : Bool :=
  if cc = 0 then a == b
  else if cc = 1 then a != b
  else if cc = 2 then decide (b < a)
  else if cc = 3 then decide (b ≤ a)
  else if cc = 4 then decide (a < b)
  else if cc = 5 then decide (a ≤ b)
  else if cc = 6 then decide (sgnI b w < sgnI a w)
  else if cc = 7 then decide (sgnI b w ≤ sgnI a w)
  else if cc = 8 then decide (sgnI a w < sgnI b w)
  else if cc = 9 then decide (sgnI a w ≤ sgnI b w)
  else ((a.toNat &&& b.toNat : Nat) : Int) != 0
def holdsB (cc w a b : Int) : Bool := if 0 ≤ cc ∧ cc ≤ 10 ∧ longB w = true then ccB cc w (cutI a w) (cutI b w) else false
def holdsE (cc w : Int) : Int := if 0 ≤ cc ∧ cc ≤ 10 ∧ longB w = true then 0 else 2

theorem cutI_8 (v : Int) : cutI v 8 = v % 256 := rfl
theorem cutI_16 (v : Int) : cutI v 16 = v % 65536 := rfl
theorem cutI_32 (v : Int) : cutI v 32 = v % 4294967296 := rfl
theorem cutI_64 (v : Int) : cutI v 64 = v := rfl
theorem wrap64_sign32 (v : Int) : IntKind.i64.wrap (signI v 32) = sgnI v 32 := by
  rw [IntKind.wrap_i64]; unfold signI sgnI; simp only [if_neg (show ¬ (32 : Int) = 8 by omega), if_neg (show ¬ (32 : Int) = 16 by omega), if_pos]; omega
theorem wrap64_sign64 (v : Int) : IntKind.i64.wrap (signI v 64) = sgnI v 64 := by
  rw [IntKind.wrap_i64]; unfold signI sgnI; simp only [if_neg (show ¬ (64 : Int) = 8 by omega), if_neg (show ¬ (64 : Int) = 16 by omega), if_neg (show ¬ (64 : Int) = 32 by omega)]
theorem longB_cases {w : Int} (h : longB w = true) : w = 32 ∨ w = 64 := by
  unfold longB at h; simpa using h
theorem longB_not {w : Int} (h : longB w = false) : ¬ w = 32 ∧ ¬ w = 64 := by
  unfold longB at h; simpa using h
theorem cutI_bd (v w : Int) (h0 : 0 ≤ v) (h1 : v < 18446744073709551616) : 0 ≤ cutI v w ∧ cutI v w < 18446744073709551616 := by
  unfold cutI; split
  · omega
  split
  · omega
  split
  · omega
  · omega
theorem or_bd (a b : Int) (ha1 : a < 18446744073709551616) (hb1 : b < 18446744073709551616) : ((a.toNat ||| b.toNat : Nat) : Int) < 18446744073709551616 := by
  have := @Nat.or_lt_two_pow a.toNat b.toNat 64 (by omega) (by omega)
  omega
theorem xor_bd (a b : Int) (ha1 : a < 18446744073709551616) (hb1 : b < 18446744073709551616) : ((a.toNat ^^^ b.toNat : Nat) : Int) < 18446744073709551616 := by
  have := @Nat.xor_lt_two_pow a.toNat b.toNat 64 (by omega) (by omega)
  omega
theorem and_bd (a b : Int) (ha1 : a < 18446744073709551616) : ((a.toNat &&& b.toNat : Nat) : Int) < 18446744073709551616 := by
  have := @Nat.and_le_left a.toNat b.toNat
  omega
theorem div_bd (a d : Int) (h0 : 0 ≤ a) (h1 : a < 18446744073709551616) (hd : 0 ≤ d) : 0 ≤ a / d ∧ a / d < 18446744073709551616 := by
  refine ⟨Int.ediv_nonneg h0 hd, ?_⟩
  have := Int.ediv_le_self d h0
  omega
theorem pow_nonneg' (n : Nat) : 0 ≤ (2 : Int) ^ n := Int.le_of_lt (Int.pow_pos (by omega))
theorem opI_bd (op w a b : Int) (ha0 : 0 ≤ a) (ha1 : a < 18446744073709551616) (hb0 : 0 ≤ b) (hb1 : b < 18446744073709551616) : 0 ≤ opI op w a b ∧ opI op w a b < 18446744073709551616 := by
  by_cases c0 : op = 0
  · rw [c0, opI_0]
    omega
  by_cases c1 : op = 1
  · rw [c1, opI_1]
    omega
  by_cases c2 : op = 2
  · rw [c2, opI_2]
    omega
  by_cases c3 : op = 3
  · rw [c3, opI_3]
    split
    · omega
    · exact div_bd a b ha0 ha1 hb0
  by_cases c4 : op = 4
  · rw [c4, opI_4]
    exact ⟨by omega, or_bd a b ha1 hb1⟩
  by_cases c5 : op = 5
  · rw [c5, opI_5]
    exact ⟨by omega, and_bd a b ha1⟩
  by_cases c6 : op = 6
  · rw [c6, opI_6]
    omega
  by_cases c7 : op = 7
  · rw [c7, opI_7]
    exact div_bd a _ ha0 ha1 (pow_nonneg' _)
  by_cases c8 : op = 8
  · rw [c8, opI_8]
    omega
  by_cases c9 : op = 9
  · rw [c9, opI_9]
    split
    · omega
    · have := Int.emod_nonneg a (show b ≠ 0 by assumption)
      have := Int.emod_lt_of_pos a (show 0 < b by omega)
      omega
  by_cases c10 : op = 10
  · rw [c10, opI_10]
    exact ⟨by omega, xor_bd a b ha1 hb1⟩
  by_cases c11 : op = 11
  · rw [c11, opI_11]
    omega
  have e : opI op w a b = (sgnI a w / 2 ^ cntI w b) % 18446744073709551616 := by
    unfold opI
    rw [if_neg c0, if_neg c1, if_neg c2, if_neg c3, if_neg c4, if_neg c5, if_neg c6, if_neg c7, if_neg c8, if_neg c9, if_neg c10, if_neg c11]
  rw [e]; omega
theorem doI_bd (op w a b : Int) (ha0 : 0 ≤ a) (ha1 : a < 18446744073709551616) (hb0 : 0 ≤ b) (hb1 : b < 18446744073709551616) : 0 ≤ doI op w a b ∧ doI op w a b < 18446744073709551616 := by
  unfold doI
  split
  · obtain ⟨c0, c1⟩ := cutI_bd a w ha0 ha1
    obtain ⟨d0, d1⟩ := cutI_bd b w hb0 hb1
    obtain ⟨e0, e1⟩ := opI_bd op w _ _ c0 c1 d0 d1
    exact cutI_bd _ w e0 e1
  · omega

theorem signI_8 (v : Int) : signI v 8 = ((v + 128) % 256 - 128) % 18446744073709551616 := rfl
theorem signI_16 (v : Int) : signI v 16 = ((v + 32768) % 65536 - 32768) % 18446744073709551616 := rfl
theorem signI_32 (v : Int) : signI v 32 = ((v + 2147483648) % 4294967296 - 2147483648) % 18446744073709551616 := rfl
theorem signI_64 (v : Int) : signI v 64 = v := rfl
end Go.Proofs.Ytllnengcmfgmhaa
