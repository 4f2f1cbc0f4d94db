/-
  Package mem: a memory as a function of addresses; reads, writes, fetches, regions told by it.
-/
import Derived.Test.YtpbnmbeedjhloaaMemF
namespace Go.Proofs.Ytpbnmbeedjhloaa
open Go.RowKit
set_option linter.unusedVariables false
set_option maxRecDepth 100000

theorem rdB_iff (a m st sz : Int) (ha0 : 0 ≤ a) (ha1 : a < 18446744073709551616) (hs0 : 0 ≤ st) (hs1 : st ≤ 4194304) (hz0 : 0 ≤ sz) (hz1 : sz ≤ 16384) (hm : 1 ≤ m) :
    rdB a m st sz = decide (st ≤ a ∧ a + m ≤ st + sz) := by
  unfold rdB offI
  rw [Bool.eq_iff_iff]
  simp only [Bool.and_eq_true, decide_eq_true_eq]
  omega
/-- In which region m bytes from an address on lie: 0 if in none. -/
def locI (cn n : Nat) (hs : Bool) (a m : Int) : Nat :=
  if 1048576 ≤ a ∧ a + m ≤ 1048576 + cn then 1 else if 2097152 ≤ a ∧ a + m ≤ 2097152 + n then 2 else if 3145728 ≤ a ∧ a + m ≤ 3145792 then 3
  else if 4194304 ≤ a ∧ a + m ≤ 4194304 + stkI hs then 4 else 0
theorem stkI_bd (hs : Bool) : 0 ≤ stkI hs ∧ stkI hs ≤ 264 := by unfold stkI; split <;> omega
theorem first_five (P : Nat → Bool) (h0 : P 0 = false) (k : Nat) (hk : k = if P 1 = true then 1 else if P 2 = true then 2 else if P 3 = true then 3 else if P 4 = true then 4 else 0) : firstI P = if k = 0 then -1 else (k : Int) := by
  unfold firstI
  rw [h0, if_neg (by simp)]
  subst hk
  split
  · rfl
  split
  · rfl
  split
  · rfl
  split
  · rfl
  · rfl
theorem rd_loc (cn n : Nat) (hs : Bool) (c k : Int) (hc : limI k 16384 = cn) (hn : limI c 256 = n) (a m : Int) (ha0 : 0 ≤ a) (ha1 : a < 18446744073709551616) (hm : 1 ≤ m) (h1 : cn ≤ 16384) (h2 : n ≤ 256) :
    (firstI fun j => rdB a m ((placeR c k (stkI hs)).st j) ((placeR c k (stkI hs)).sz j)) = if locI cn n hs a m = 0 then -1 else (locI cn n hs a m : Int) := by
  have hz := stkI_bd hs
  have e0 : rdB a m ((placeR c k (stkI hs)).st 0) ((placeR c k (stkI hs)).sz 0) = false := by
    show rdB a m 0 0 = false
    rw [rdB_iff a m 0 0 ha0 ha1 (by omega) (by omega) (by omega) (by omega) hm]
    exact decide_eq_false (by omega)
  have e1 : rdB a m ((placeR c k (stkI hs)).st 1) ((placeR c k (stkI hs)).sz 1) = decide (1048576 ≤ a ∧ a + m ≤ 1048576 + cn) := by
    show rdB a m 1048576 (limI k 16384) = _
    rw [hc]; exact rdB_iff a m _ _ ha0 ha1 (by omega) (by omega) (by omega) (by omega) hm
  have e2 : rdB a m ((placeR c k (stkI hs)).st 2) ((placeR c k (stkI hs)).sz 2) = decide (2097152 ≤ a ∧ a + m ≤ 2097152 + n) := by
    show rdB a m 2097152 (limI c 256) = _
    rw [hn]; exact rdB_iff a m _ _ ha0 ha1 (by omega) (by omega) (by omega) (by omega) hm
  have e3 : rdB a m ((placeR c k (stkI hs)).st 3) ((placeR c k (stkI hs)).sz 3) = decide (3145728 ≤ a ∧ a + m ≤ 3145792) := by
    show rdB a m 3145728 64 = _
    rw [rdB_iff a m _ _ ha0 ha1 (by omega) (by omega) (by omega) (by omega) hm]; rfl
  have e4 : rdB a m ((placeR c k (stkI hs)).st 4) ((placeR c k (stkI hs)).sz 4) = decide (4194304 ≤ a ∧ a + m ≤ 4194304 + stkI hs) := by
    show rdB a m 4194304 (stkI hs) = _
    exact rdB_iff a m _ _ ha0 ha1 (by omega) (by omega) (by omega) (by omega) hm
  refine first_five _ e0 _ ?_
  rw [e1, e2, e3, e4]
  unfold locI
  simp only [decide_eq_true_eq]

/-- Region's answer. -/
theorem regI_loc (cn n : Nat) (hs : Bool) (c k : Int) (hc : limI k 16384 = cn) (hn : limI c 256 = n) (a : Int) (ha0 : 0 ≤ a) (ha1 : a < 18446744073709551616) (h1 : cn ≤ 16384) (h2 : n ≤ 256) :
    regI a c k hs = (locI cn n hs a 1 : Int) := by
  unfold regI regF
  rw [rd_loc cn n hs c k hc hn a 1 ha0 ha1 (by omega) h1 h2]
  by_cases h : locI cn n hs a 1 = 0
  · rw [if_pos h, h]; rfl
  · rw [if_neg h, if_neg (by omega)]

theorem R_rd (S : MemS) (b : Nat) (h1 : S.cn ≤ 16384) (h2 : S.n ≤ 256) (a m : Int) (ha0 : 0 ≤ a) (ha1 : a < 18446744073709551616) (hm : 1 ≤ m) :
    (firstI fun j => rdB a m ((S.R b).st j) ((S.R b).sz j)) = if locI S.cn S.n S.hs a m = 0 then -1 else (locI S.cn S.n S.hs a m : Int) :=
  rd_loc S.cn S.n S.hs S.n S.cn (limI_in _ _ (by omega)) (limI_in _ _ (by omega)) a m ha0 ha1 hm h1 h2
theorem firstI_congr {P Q : Nat → Bool} (h : ∀ j, j < 5 → P j = Q j) : firstI P = firstI Q := by
  unfold firstI; rw [h 0 (by omega), h 1 (by omega), h 2 (by omega), h 3 (by omega), h 4 (by omega)]
theorem locI_le (cn n : Nat) (hs : Bool) (a m : Int) : locI cn n hs a m ≤ 4 := by
  unfold locI
  split
  · omega
  split
  · omega
  split
  · omega
  split <;> omega
theorem R_wr (S : MemS) (b : Nat) (h1 : S.cn ≤ 16384) (h2 : S.n ≤ 256) (a m : Int) (ha0 : 0 ≤ a) (ha1 : a < 18446744073709551616) (hm : 1 ≤ m) :
    (firstI fun j => wrB a m ((S.R b).st j) ((S.R b).sz j) ((S.R b).fx j)) = if locI S.cn S.n S.hs a m ≤ 1 then -1 else (locI S.cn S.n S.hs a m : Int) := by
  have hz := stkI_bd S.hs
  have e0 : wrB a m ((S.R b).st 0) ((S.R b).sz 0) ((S.R b).fx 0) = false := by
    show (true && rdB a m 0 0) = false
    rw [rdB_iff a m 0 0 ha0 ha1 (by omega) (by omega) (by omega) (by omega) hm, decide_eq_false (by omega)]; rfl
  have e2 : wrB a m ((S.R b).st 2) ((S.R b).sz 2) ((S.R b).fx 2) = decide (2097152 ≤ a ∧ a + m ≤ 2097152 + S.n) := by
    show (true && rdB a m 2097152 (limI S.n 256)) = _
    rw [limI_in _ _ (by omega), rdB_iff a m _ _ ha0 ha1 (by omega) (by omega) (by omega) (by omega) hm]; rfl
  have e3 : wrB a m ((S.R b).st 3) ((S.R b).sz 3) ((S.R b).fx 3) = decide (3145728 ≤ a ∧ a + m ≤ 3145792) := by
    show (true && rdB a m 3145728 64) = _
    rw [rdB_iff a m _ _ ha0 ha1 (by omega) (by omega) (by omega) (by omega) hm]; rfl
  have e4 : wrB a m ((S.R b).st 4) ((S.R b).sz 4) ((S.R b).fx 4) = decide (4194304 ≤ a ∧ a + m ≤ 4194304 + stkI S.hs) := by
    show (true && rdB a m 4194304 (stkI S.hs)) = _
    rw [rdB_iff a m _ _ ha0 ha1 (by omega) (by omega) (by omega) (by omega) hm]; rfl
  have e1 : wrB a m ((S.R b).st 1) ((S.R b).sz 1) ((S.R b).fx 1) = false := rfl
  have key := first_five (fun j => wrB a m ((S.R b).st j) ((S.R b).sz j) ((S.R b).fx j)) e0 (if locI S.cn S.n S.hs a m = 1 then 0 else locI S.cn S.n S.hs a m) (by
    simp only [e1, e2, e3, e4]
    unfold locI
    simp only [decide_eq_true_eq]
    split
    · simp only [if_pos]
      rw [if_neg (by simp), if_neg (by omega), if_neg (by omega), if_neg (by omega)]
    · rw [if_neg (show ¬ false = true by simp)]
      split
      · rfl
      split
      · rfl
      split <;> rfl)
  rw [key]
  by_cases h : locI S.cn S.n S.hs a m = 1
  · rw [h]; rfl
  · rw [if_neg h]
    by_cases h' : locI S.cn S.n S.hs a m = 0
    · rw [if_pos h', if_pos (by omega)]
    · rw [if_neg h', if_neg (by omega)]
end Go.Proofs.Ytpbnmbeedjhloaa
