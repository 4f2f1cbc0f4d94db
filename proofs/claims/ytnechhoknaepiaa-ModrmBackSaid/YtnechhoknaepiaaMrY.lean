/-
  Plain numbers: what is made is read as it was, and the other way round.
-/
import Derived.Test.YtnechhoknaepiaaMrX
namespace Go.Proofs.Ytnechhoknaepiaa.Mrm
open Go.RowKit
set_option linter.unusedVariables false
set_option linter.unnecessarySimpa false
set_option linter.unusedSimpArgs false
set_option maxRecDepth 100000

theorem rexback_fin (w : Bool) : ∀ r m : Fin 16, rexB (rexI w (r.1 : Int) (m.1 : Int)) = true ∧ wB (rexI w (r.1 : Int) (m.1 : Int)) = w ∧ hiI (rexI w (r.1 : Int) (m.1 : Int)) 4 = bits .and .i8 (r.1 : Int) 8 ∧ hiI (rexI w (r.1 : Int) (m.1 : Int)) 1 = bits .and .i8 (m.1 : Int) 8 ∧ 0 ≤ rexI w (r.1 : Int) (m.1 : Int) ∧ rexI w (r.1 : Int) (m.1 : Int) < 256 ∧ needB (r.1 : Int) (m.1 : Int) = decide (0 < bits .and .i8 (r.1 : Int) 8 + bits .and .i8 (m.1 : Int) 8) := by
  cases w <;> decide +kernel
theorem rex_back (w : Bool) {r m : Int} (h : bothB r m = true) : rexB (rexI w r m) = true ∧ wB (rexI w r m) = w ∧ hiI (rexI w r m) 4 = bits .and .i8 r 8 ∧ hiI (rexI w r m) 1 = bits .and .i8 m 8 ∧ 0 ≤ rexI w r m ∧ rexI w r m < 256 ∧ needB r m = decide (0 < bits .and .i8 r 8 + bits .and .i8 m 8) := by
  obtain ⟨⟨h1, h2⟩, h3, h4⟩ := bothB_iff.1 h
  have := rexback_fin w ⟨r.toNat, by omega⟩ ⟨m.toNat, by omega⟩
  simp only [Int.toNat_of_nonneg h1, Int.toNat_of_nonneg h3] at this
  exact this
theorem and8_fin : ∀ r : Fin 16, bits .and .i8 (r.1 : Int) 8 = 0 ∨ bits .and .i8 (r.1 : Int) 8 = 8 := by decide +kernel
theorem and8 {r : Int} (h : 0 ≤ r ∧ r < 16) : bits .and .i8 r 8 = 0 ∨ bits .and .i8 r 8 = 8 := by
  have := and8_fin ⟨r.toNat, by omega⟩
  simp only [Int.toNat_of_nonneg h.1] at this
  exact this
theorem and7b_fin : ∀ r : Fin 16, bits .and .i8 (r.1 : Int) 7 = (r.1 : Int) % 8 := by decide +kernel
theorem and7b {r : Int} (h : 0 ≤ r ∧ r < 16) : bits .and .i8 r 7 = r % 8 := by
  have := and7b_fin ⟨r.toNat, by omega⟩
  simp only [Int.toNat_of_nonneg h.1] at this
  exact this
theorem reg_byte (r m : Int) : 192 ≤ opI 192 r m ∧ opI 192 r m < 256 ∧ opI 192 r m / 8 % 8 = r % 8 ∧ opI 192 r m % 8 = m % 8 := by unfold opI; omega
theorem mem_byte (r m : Int) : 128 ≤ opI 128 r m ∧ opI 128 r m < 192 ∧ opI 128 r m / 8 % 8 = r % 8 ∧ opI 128 r m % 8 = m % 8 := by unfold opI; omega
theorem read_reg_back (r m : Int) (zs : List Int) : readV (regL r m ++ zs) = rdV (r % 8) (m % 8) 0 false 1 0 := by
  have e : (regL r m ++ zs).getD 0 0 = opI 192 r m := rfl
  obtain ⟨h1, h2, h3, h4⟩ := reg_byte r m
  rw [rd_reg (by rw [e]; exact h1), e, h3, h4]
/-- Four bytes as a number of their own. -/
def u4 (l : List Int) : Int := l.getD 0 0 + l.getD 1 0 * 256 + l.getD 2 0 * 65536 + l.getD 3 0 * 16777216
theorem getI_4 (f : Nat → Int) : getI f 4 = f 0 + f 1 * 256 + f 2 * 65536 + f 3 * 16777216 := by
  show 0 + f 0 * 2 ^ (8 * 0) + f 1 * 2 ^ (8 * 1) + f 2 * 2 ^ (8 * 2) + f 3 * 2 ^ (8 * 3) = _
  rw [show (2 : Int) ^ (8 * 0) = 1 from rfl, show (2 : Int) ^ (8 * 1) = 256 from rfl, show (2 : Int) ^ (8 * 2) = 65536 from rfl, show (2 : Int) ^ (8 * 3) = 16777216 from rfl]
  omega
theorem sgn_4 {l : List Int} (h : 4 = l.length) : sgn l = if u4 l < 2147483648 then u4 l else u4 l - 4294967296 := by
  rw [sgn_few h (by omega), getI_4]
  unfold sgV
  rw [if_neg (by omega)]
  rfl
theorem fitB_iff4 {x : Int} : fitB x 4 = true ↔ -2147483648 ≤ x ∧ x < 2147483648 := by
  unfold fitB
  rw [← Bool.decide_and, decide_eq_true_iff]
  exact Iff.rfl
theorem numL_4 (v : Int) : numL v 4 = [v % 256, v / 256 % 256, v / 65536 % 256, v / 16777216 % 256] := by
  show [byS v 0, byS v 1, byS v 2, byS v 3] = _
  unfold byS
  rw [show (2 : Int) ^ (8 * 0) = 1 from rfl, show (2 : Int) ^ (8 * 1) = 256 from rfl, show (2 : Int) ^ (8 * 2) = 65536 from rfl, show (2 : Int) ^ (8 * 3) = 16777216 from rfl, Int.ediv_one]
theorem sgn_num4 {v : Int} (h : fitB v 4 = true) : sgn (numL v 4) = v := by
  have g := fitB_iff4.1 h
  rw [sgn_4 (numL_length v 4).symm, numL_4]
  show (if v % 256 + v / 256 % 256 * 256 + v / 65536 % 256 * 65536 + v / 16777216 % 256 * 16777216 < 2147483648 then _ else _ : Int) = v
  show (if v % 256 + v / 256 % 256 * 256 + v / 65536 % 256 * 65536 + v / 16777216 % 256 * 16777216 < 2147483648 then v % 256 + v / 256 % 256 * 256 + v / 65536 % 256 * 65536 + v / 16777216 % 256 * 16777216 else v % 256 + v / 256 % 256 * 256 + v / 65536 % 256 * 65536 + v / 16777216 % 256 * 16777216 - 4294967296 : Int) = v
  split <;> omega
theorem sgn_num1 {v : Int} (h : fitB v 1 = true) : sgn (numL v 1) = v := by
  have g : -128 ≤ v ∧ v < 128 := by
    unfold fitB at h
    rw [← Bool.decide_and, decide_eq_true_iff] at h
    exact h
  rw [sgn_few (n := 1) (numL_length v 1).symm (by omega)]
  show sgV 1 (0 + (v / 2 ^ (8 * 0) % 256) * 2 ^ (8 * 0)) = v
  rw [show (2 : Int) ^ (8 * 0) = 1 from rfl, Int.ediv_one, Int.mul_one, Int.zero_add]
  unfold sgV
  rw [if_neg (by omega)]
  show (if v % 256 < 128 then v % 256 else v % 256 - 256 : Int) = v
  split <;> omega
theorem sgn_num2 {v : Int} (h : fitB v 2 = true) : sgn (numL v 2) = v := by
  have g : -32768 ≤ v ∧ v < 32768 := by
    unfold fitB at h
    rw [← Bool.decide_and, decide_eq_true_iff] at h
    exact h
  rw [sgn_few (n := 2) (numL_length v 2).symm (by omega)]
  show sgV 2 (0 + (v / 2 ^ (8 * 0) % 256) * 2 ^ (8 * 0) + (v / 2 ^ (8 * 1) % 256) * 2 ^ (8 * 1)) = v
  rw [show (2 : Int) ^ (8 * 0) = 1 from rfl, show (2 : Int) ^ (8 * 1) = 256 from rfl, Int.ediv_one, Int.mul_one, Int.zero_add]
  unfold sgV
  rw [if_neg (by omega)]
  show (if v % 256 + v / 256 % 256 * 256 < 32768 then v % 256 + v / 256 % 256 * 256 else v % 256 + v / 256 % 256 * 256 - 65536 : Int) = v
  split <;> omega
theorem num_back {v n : Int} (h : numB v n = true) : ∃ N : Nat, n = (N : Int) ∧ N = n.toNat ∧ sgn (numL v N) = v := by
  unfold numB at h
  rw [Bool.and_eq_true] at h
  obtain ⟨h1, h2⟩ := h
  have h3 : n = 1 ∨ n = 2 ∨ n = 4 := by
    unfold wid at h1
    simp only [Bool.or_eq_true, beq_iff_eq] at h1
    omega
  rcases h3 with rfl | rfl | rfl
  · exact ⟨1, rfl, rfl, sgn_num1 h2⟩
  · exact ⟨2, rfl, rfl, sgn_num2 h2⟩
  · exact ⟨4, rfl, rfl, sgn_num4 h2⟩
theorem memN_is (r m : Int) : atN (opI 128 r m) + 4 = memN m := by
  unfold atN memN
  rw [(mem_byte r m).2.2.2]
  split <;> rfl
theorem mid_cut (r m : Int) (d : Int) (zs : List Int) : ((memL r m d ++ zs).drop (atN (opI 128 r m))).take 4 = numL d 4 := by
  have h4 := numL_length d 4
  unfold atN
  rw [(mem_byte r m).2.2.2]
  unfold memL midL
  split
  · show ((numL d 4) ++ zs).take 4 = numL d 4
    exact List.take_left' h4
  · show ((numL d 4) ++ zs).take 4 = numL d 4
    exact List.take_left' h4
theorem mid_36 (r m d : Int) (zs : List Int) (h : m % 8 = 4) : (memL r m d ++ zs).getD 1 0 = 36 := by
  unfold memL midL
  rw [if_pos h]
  rfl
theorem read_mem_back (r m d : Int) (zs : List Int) (h : fitB d 4 = true) : readV (memL r m d ++ zs) = rdV (r % 8) (m % 8) d true (memN m : Nat) 0 := by
  have e : (memL r m d ++ zs).getD 0 0 = opI 128 r m := rfl
  obtain ⟨h1, h2, h3, h4⟩ := mem_byte r m
  rw [rd_mem (by rw [e]; exact h2) (by rw [e]; exact h1) (memOk_iff.2 ⟨by rw [e]; exact h2, by rw [e, memN_is, List.length_append, memL_length]; omega, fun g => by
    rw [e, h4] at g
    exact mid_36 r m d zs g⟩), e, h3, h4, mid_cut, sgn_num4 h, memN_is]
theorem reg_again {z : Int} (h1 : 192 ≤ z) (h2 : z < 256) : bothB (z / 8 % 8) (z % 8) = true ∧ regL (z / 8 % 8) (z % 8) = [z] := by
  refine ⟨bothB_iff.2 (by omega), ?_⟩
  unfold regL opI
  rw [show 192 + z / 8 % 8 % 8 * 8 + z % 8 % 8 = z by omega]
theorem num_sgn {l : List Int} (h : 4 = l.length) (ok : Oks l) : fitB (sgn l) 4 = true ∧ numL (sgn l) 4 = l := by
  obtain ⟨a, b, c, d, rfl⟩ : ∃ a b c d, l = [a, b, c, d] := by
    match l, h with
    | [a, b, c, d], _ => exact ⟨a, b, c, d, rfl⟩
  have ga := ok a (by simp)
  have gb := ok b (by simp)
  have gc := ok c (by simp)
  have gd := ok d (by simp)
  have e : sgn [a, b, c, d] = if a + b * 256 + c * 65536 + d * 16777216 < 2147483648 then a + b * 256 + c * 65536 + d * 16777216 else a + b * 256 + c * 65536 + d * 16777216 - 4294967296 := sgn_4 rfl
  rw [numL_4]
  generalize sgn [a, b, c, d] = s at *
  refine ⟨fitB_iff4.2 ?_, ?_⟩
  · split at e <;> omega
  · split at e
    · rw [show s % 256 = a by omega, show s / 256 % 256 = b by omega, show s / 65536 % 256 = c by omega, show s / 16777216 % 256 = d by omega]
    · rw [show s % 256 = a by omega, show s / 256 % 256 = b by omega, show s / 65536 % 256 = c by omega, show s / 16777216 % 256 = d by omega]
theorem take_cons {l : List Int} {n : Nat} (h : 0 < l.length) : l.take (n + 1) = l.getD 0 0 :: (l.drop 1).take n := by
  cases l with
  | nil => cases h
  | cons a l => rfl
theorem mem_again {l : List Int} (h1 : 128 ≤ l.getD 0 0) (h : memOk l = true) (ok : Oks l) : memB (l.getD 0 0 / 8 % 8) (l.getD 0 0 % 8) (sgn ((l.drop (atN (l.getD 0 0))).take 4)) = true ∧ memL (l.getD 0 0 / 8 % 8) (l.getD 0 0 % 8) (sgn ((l.drop (atN (l.getD 0 0))).take 4)) = l.take (atN (l.getD 0 0) + 4) := by
  obtain ⟨h2, h3, h4⟩ := memOk_iff.1 h
  have hl : 4 = ((l.drop (atN (l.getD 0 0))).take 4).length := by simp only [List.length_take, List.length_drop]; omega
  obtain ⟨n1, n2⟩ := num_sgn hl (fun z hz => ok z (List.mem_of_mem_drop (List.mem_of_mem_take hz)))
  have hb : bothB (l.getD 0 0 / 8 % 8) (l.getD 0 0 % 8) = true := bothB_iff.2 (by omega)
  refine ⟨by unfold memB; rw [hb, n1]; rfl, ?_⟩
  unfold memL
  rw [n2]
  have e1 : opI 128 (l.getD 0 0 / 8 % 8) (l.getD 0 0 % 8) = l.getD 0 0 := by unfold opI; omega
  rw [e1]
  have hpos : 0 < l.length := by omega
  unfold midL atN at *
  by_cases g : l.getD 0 0 % 8 = 4
  · have g2 : l.getD 0 0 % 8 % 8 = 4 := by omega
    rw [if_pos g] at h3
    rw [if_pos g2, if_pos g]
    have e2 := h4 g
    have e3 : (l.drop 1).getD 0 0 = 36 := by
      rw [← e2]
      simp [List.getD_eq_getElem?_getD]
    have t1 : (l.drop 1).take 5 = (l.drop 1).getD 0 0 :: ((l.drop 1).drop 1).take 4 := take_cons (by rw [List.length_drop]; omega)
    rw [e3, List.drop_drop] at t1
    have t0 : l.take 6 = l.getD 0 0 :: (l.drop 1).take 5 := take_cons hpos
    rw [t1] at t0
    exact t0.symm
  · have g2 : ¬ l.getD 0 0 % 8 % 8 = 4 := by omega
    rw [if_neg g] at h3
    rw [if_neg g2, if_neg g]
    have t0 : l.take 5 = l.getD 0 0 :: (l.drop 1).take 4 := take_cons hpos
    exact t0.symm
end Go.Proofs.Ytnechhoknaepiaa.Mrm
