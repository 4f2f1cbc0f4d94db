/-
  Bytes as strings: what is alike comes of what is alike.
-/
import Derived.Test.YtbpefomjmjkciaaInsJ
import Derived.Test.YtbpefomjmjkciaaBitsBytesM
namespace Go.Proofs.Ytbpefomjmjkciaa.Ins
open Go.RowKit
set_option linter.unusedVariables false

theorem u8_inj {a b : Int} (ha : 0 ≤ a ∧ a < 256) (hb : 0 ≤ b ∧ b < 256) (h : UInt8.ofNat a.toNat = UInt8.ofNat b.toNat) : a = b := by
  have := congrArg UInt8.toNat h
  simp at this
  omega
theorem map_inj : ∀ {l m : List Int}, (∀ n ∈ l, 0 ≤ n ∧ n < 256) → (∀ n ∈ m, 0 ≤ n ∧ n < 256) → (l.map fun n => UInt8.ofNat n.toNat) = (m.map fun n => UInt8.ofNat n.toNat) → l = m
  | [], [], _, _, _ => rfl
  | [], b :: m, _, _, h => by simp at h
  | a :: l, [], _, _, h => by simp at h
  | a :: l, b :: m, hl, hm, h => by
    simp only [List.map_cons, List.cons.injEq] at h
    rw [u8_inj (hl a (List.mem_cons_self ..)) (hm b (List.mem_cons_self ..)) h.1, map_inj (fun n hn => hl n (List.mem_cons_of_mem _ hn)) (fun n hn => hm n (List.mem_cons_of_mem _ hn)) h.2]
theorem str_beq {l m : List Int} (hl : ∀ n ∈ l, 0 ≤ n ∧ n < 256) (hm : ∀ n ∈ m, 0 ≤ n ∧ n < 256) {b : Bool} (h : l = m ↔ b = true) : ((strOfNums l).toList == (strOfNums m).toList) = b := by
  rw [Bool.eq_iff_iff, beq_iff_eq, ByteArray.toList_eq, ByteArray.toList_eq, strOfNums_data, strOfNums_data, ← h]
  exact ⟨map_inj hl hm, fun e => by rw [e]⟩
theorem byteI_bd (v : Int) (i : Nat) : 0 ≤ byteI v i ∧ byteI v i < 256 := by unfold byteI; omega
theorem bytes_inj {v u : Int} (hv : 0 ≤ v ∧ v < 18446744073709551616) (hu : 0 ≤ u ∧ u < 18446744073709551616) (h : ∀ i, i < 8 → byteI v i = byteI u i) : v = u := by
  have e1 := bytes_back v hv.1 8
  have e2 := bytes_back u hu.1 8
  have e3 : getI (byteI v) 8 = getI (byteI u) 8 := by
    unfold getI
    simp only [getI, h 0 (by omega), h 1 (by omega), h 2 (by omega), h 3 (by omega), h 4 (by omega), h 5 (by omega), h 6 (by omega), h 7 (by omega)]
  have p : (2 : Int) ^ (8 * 8) = 18446744073709551616 := rfl
  rw [e1, e2, p] at e3
  omega
theorem row8_inj {v u : Int} (h : (List.range 8).map (byteI v) = (List.range 8).map (byteI u)) : ∀ i, i < 8 → byteI v i = byteI u i := by
  intro i hi
  have := congrArg (fun l : List Int => l[i]?) h
  simpa [hi] using this
theorem pack_inj {x y : In} (hx : mayI x = true) (hy : mayI y = true) (h : (List.range 8).map (byteI (packI x)) = (List.range 8).map (byteI (packI y))) : x = y := by
  have := bytes_inj (packI_bd hx) (packI_bd hy) (row8_inj h)
  rw [← unpack_pack hx, ← unpack_pack hy, this]
theorem pack_str {x y : In} (hx : mayI x = true) (hy : mayI y = true) : ((strOf (byteI (packI x)) 8).toList == (strOf (byteI (packI y)) 8).toList) = eqI x y := by
  unfold strOf
  refine str_beq ?_ ?_ ⟨fun h => eqI_iff.2 (pack_inj hx hy h), fun h => by rw [eqI_iff.1 h]⟩
  · intro n hn
    obtain ⟨i, _, rfl⟩ := List.mem_map.1 hn
    exact byteI_bd _ _
  · intro n hn
    obtain ⟨i, _, rfl⟩ := List.mem_map.1 hn
    exact byteI_bd _ _
theorem encN_bd (c : Int) (xs : Nat → In) : ∀ k, ∀ n ∈ encN c xs k, 0 ≤ n ∧ n < 256
  | 0, n, h => by
    unfold encN at h
    simp only [List.mem_cons, List.mem_nil_iff, or_false] at h
    rcases h with rfl | rfl <;> exact byteI_bd _ _
  | k + 1, n, h => by
    unfold encN at h
    rcases List.mem_append.1 h with h | h
    · exact encN_bd c xs k n h
    · obtain ⟨i, _, rfl⟩ := List.mem_map.1 h
      exact byteI_bd _ _
theorem encN_inj {c d : Int} {xs ys : Nat → In} (hc : 0 ≤ c ∧ c < 65536) (hd : 0 ≤ d ∧ d < 65536) : ∀ k, (∀ i, i < k → mayI (xs i) = true) → (∀ i, i < k → mayI (ys i) = true) → encN c xs k = encN d ys k → c = d ∧ ∀ i, i < k → xs i = ys i
  | 0, _, _, h => by
    unfold encN at h
    simp only [List.cons.injEq, and_true] at h
    refine ⟨?_, fun i hi => by omega⟩
    obtain ⟨h1, h2⟩ := h
    unfold byteI at h1 h2
    have p0 : (2 : Int) ^ (8 * 0) = 1 := rfl
    have p1 : (2 : Int) ^ (8 * 1) = 256 := rfl
    rw [p0] at h1
    rw [p1] at h2
    omega
  | k + 1, hx, hy, h => by
    unfold encN at h
    have := List.append_inj h (by rw [encN_length, encN_length])
    obtain ⟨a, b⟩ := encN_inj hc hd k (fun i hi => hx i (by omega)) (fun i hi => hy i (by omega)) this.1
    refine ⟨a, fun i hi => ?_⟩
    by_cases e : i = k
    · subst e; exact pack_inj (hx i (by omega)) (hy i (by omega)) this.2
    · exact b i (by omega)
theorem encN_congr (c : Int) {xs ys : Nat → In} : ∀ k, (∀ i, i < k → xs i = ys i) → encN c xs k = encN c ys k
  | 0, _ => rfl
  | k + 1, h => by unfold encN; rw [encN_congr c k (fun i hi => h i (by omega)), h k (by omega)]
theorem enc_str {c d : Int} {l m : Nat} {xs ys : Nat → In} (hc : 0 ≤ c ∧ c < 65536) (hd : 0 ≤ d ∧ d < 65536) (hx : ∀ i, i < l → mayI (xs i) = true) (hy : ∀ i, i < m → mayI (ys i) = true) {b : Bool} (hb : b = true ↔ c = d ∧ l = m ∧ ∀ i, i < l → xs i = ys i) :
    ((strOfNums (encN c xs l)).toList == (strOfNums (encN d ys m)).toList) = b := by
  refine str_beq (encN_bd c xs l) (encN_bd d ys m) ?_
  rw [hb]
  constructor
  · intro h
    have e := congrArg List.length h
    rw [encN_length, encN_length] at e
    obtain rfl : l = m := by omega
    obtain ⟨a, b⟩ := encN_inj hc hd l hx hy h
    exact ⟨a, rfl, b⟩
  · rintro ⟨rfl, rfl, h⟩
    exact encN_congr c l h
end Go.Proofs.Ytbpefomjmjkciaa.Ins
