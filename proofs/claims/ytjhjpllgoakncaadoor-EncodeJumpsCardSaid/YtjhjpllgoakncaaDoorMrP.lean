/-
  Plain numbers: what layer 12 says.
-/
import Derived.Test.YtjhjpllgoakncaaDoorMrA
namespace Go.Proofs.YtjhjpllgoakncaaDoor.Mrm
open Go.RowKit
set_option maxRecDepth 100000
set_option linter.unusedVariables false
set_option linter.unnecessarySimpa false
set_option linter.unusedSimpArgs false

def regB (r : Int) : Bool := decide (0 ≤ r) && decide (r < 16)
def bothB (r m : Int) : Bool := regB r && regB m
def bitI (b : Bool) (v : Int) : Int := bif b then v else 0
def rexI (w : Bool) (r m : Int) : Int := 64 + bitI w 8 + bitI (decide (8 ≤ r)) 4 + bitI (decide (8 ≤ m)) 1
def needB (r m : Int) : Bool := bothB r m && (decide (8 ≤ r) || decide (8 ≤ m))
theorem regB_iff {r : Int} : regB r = true ↔ 0 ≤ r ∧ r < 16 := by unfold regB; simp
theorem bothB_iff {r m : Int} : bothB r m = true ↔ (0 ≤ r ∧ r < 16) ∧ 0 ≤ m ∧ m < 16 := by unfold bothB; rw [Bool.and_eq_true, regB_iff, regB_iff]
theorem rex_or (w b c : Bool) : bits .or .u8 (bits .or .u8 (bits .or .u8 64 (bitI w 8)) (bitI b 4)) (bitI c 1) = 64 + bitI w 8 + bitI b 4 + bitI c 1 := by
  cases w <;> cases b <;> cases c <;> decide +kernel
/-- An operand's first byte. -/
def opI (k r m : Int) : Int := k + r % 8 * 8 + m % 8
theorem op_fin (q : Bool) : ∀ r m : Fin 8, bits .or .u8 (bits .or .u8 (if q then 192 else 128) ((r.1 : Int) * 8)) (m.1 : Int) = (if q then 192 else 128) + (r.1 : Int) * 8 + (m.1 : Int) := by
  cases q <;> decide +kernel
theorem op_or (q : Bool) (r m : Int) : bits .or .u8 (bits .or .u8 (if q then 192 else 128) (r % 8 * 8)) (m % 8) = opI (if q then 192 else 128) r m := by
  have := op_fin q ⟨(r % 8).toNat, by omega⟩ ⟨(m % 8).toNat, by omega⟩
  simp only [Int.toNat_of_nonneg (show 0 ≤ r % 8 by omega), Int.toNat_of_nonneg (show 0 ≤ m % 8 by omega)] at this
  exact this
theorem low_fin : ∀ r : Fin 16, bits .and .u8 (IntKind.u8.wrap (r.1 : Int)) 7 = (r.1 : Int) % 8 := by decide +kernel
theorem low_and {r : Int} (h0 : 0 ≤ r) (h1 : r < 16) : bits .and .u8 (IntKind.u8.wrap r) 7 = r % 8 := by
  have := low_fin ⟨r.toNat, by omega⟩
  simp only [Int.toNat_of_nonneg h0] at this
  exact this
/-- Byte number i of a number. -/
def byS (v : Int) (i : Nat) : Int := v / 2 ^ (8 * i) % 256
def numL (v : Int) (n : Nat) : List Int := (List.range n).map (byS v)
def fitB (v : Int) (n : Nat) : Bool := decide (-2 ^ (8 * n - 1) ≤ v) && decide (v < 2 ^ (8 * n - 1))
def wid (n : Int) : Bool := n == 1 || n == 2 || n == 4
def numB (v n : Int) : Bool := wid n && fitB v n.toNat
def midL (m : Int) : List Int := if m % 8 = 4 then [36] else []
def regL (r m : Int) : List Int := [opI 192 r m]
def memL (r m d : Int) : List Int := [opI 128 r m] ++ (midL m ++ numL d 4)
def memB (r m d : Int) : Bool := bothB r m && fitB d 4
theorem numL_ok (v : Int) (n : Nat) : Oks (numL v n) := by
  intro z hz
  obtain ⟨i, _, rfl⟩ := List.mem_map.1 hz
  unfold byS; omega
theorem numL_length (v : Int) (n : Nat) : (numL v n).length = n := by simp [numL]
theorem numL_next (v : Int) (k : Nat) : numL v (k + 1) = numL v k ++ [byS v k] := by
  unfold numL
  rw [List.range_succ, List.map_append]; rfl
theorem midL_ok (m : Int) : Oks (midL m) := by
  intro z hz
  unfold midL at hz
  split at hz
  · obtain rfl : z = 36 := by simpa using hz
    omega
  · cases hz
theorem opI_bd {k r m : Int} (hk : k = 192 ∨ k = 128) : 0 ≤ opI k r m ∧ opI k r m < 256 := by unfold opI; omega
theorem one_ok {z : Int} (h : 0 ≤ z ∧ z < 256) : Oks [z] := by
  intro y hy
  obtain rfl : y = z := by simpa using hy
  exact h
theorem Oks.append {l m : List Int} (h : Oks l) (g : Oks m) : Oks (l ++ m) := fun z hz => (List.mem_append.1 hz).elim (h z) (g z)
theorem regL_ok (r m : Int) : Oks (regL r m) := one_ok (opI_bd (.inl rfl))
theorem memL_ok (r m d : Int) : Oks (memL r m d) := (one_ok (opI_bd (.inr rfl))).append ((midL_ok m).append (numL_ok d 4))
/-- A byte as a REX byte. -/
def rexB (c : Int) : Bool := decide (64 ≤ c) && decide (c ≤ 79) && (c / 2 % 2 == 0)
def hiI (c k : Int) : Int := if c / k % 2 = 1 then 8 else 0
def wB (c : Int) : Bool := c / 8 % 2 == 1
theorem rex_fin : ∀ c : Fin 256, (bits .and .u8 (c.1 : Int) 242 != 64) = !rexB c.1 ∧ bits .and .u8 (c.1 : Int) 2 = (c.1 : Int) / 2 % 2 * 2 ∧ bits .and .u8 (c.1 : Int) 4 = (c.1 : Int) / 4 % 2 * 4 ∧ bits .and .u8 (c.1 : Int) 1 = (c.1 : Int) / 1 % 2 ∧ bits .and .u8 (c.1 : Int) 8 = (c.1 : Int) / 8 % 2 * 8 := by decide +kernel
theorem rex_bits {c : Int} (h0 : 0 ≤ c) (h1 : c < 256) : (bits .and .u8 c 242 != 64) = !rexB c ∧ bits .and .u8 c 2 = c / 2 % 2 * 2 ∧ bits .and .u8 c 4 = c / 4 % 2 * 4 ∧ bits .and .u8 c 1 = c / 1 % 2 ∧ bits .and .u8 c 8 = c / 8 % 2 * 8 := by
  have := rex_fin ⟨c.toNat, by omega⟩
  simp only [Int.toNat_of_nonneg h0] at this
  exact this
end Go.Proofs.YtjhjpllgoakncaaDoor.Mrm
