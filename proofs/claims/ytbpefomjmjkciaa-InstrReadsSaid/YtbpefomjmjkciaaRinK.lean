/-
  The document's answer latheref03: Read.
-/
import Derived.Test.YtbpefomjmjkciaaRinJ
namespace Go.Proofs.Ytbpefomjmjkciaa.Ins
open Go.RowKit
set_option linter.unusedVariables false
set_option maxRecDepth 100000

theorem and15i : ∀ n : Nat, n < 256 → bits .and .i64 (n : Int) 15 = ((n % 16 : Nat) : Int) := by decide +kernel
theorem and16i : ∀ n : Nat, n < 256 → (bits .and .i64 (n : Int) 16 != 0) = decide (n / 16 % 2 = 1) := by decide +kernel
theorem and15u : ∀ n : Nat, n < 256 → bits .and .u8 (n : Int) 15 = ((n % 16 : Nat) : Int) := by decide +kernel
theorem and15I {c : Int} (h0 : 0 ≤ c) (h1 : c < 256) : bits .and .i64 c 15 = c % 16 := by
  obtain ⟨n, rfl⟩ : ∃ n : Nat, c = n := ⟨c.toNat, by omega⟩
  rw [and15i n (by omega)]; omega
theorem and15U {c : Int} (h0 : 0 ≤ c) (h1 : c < 256) : bits .and .u8 c 15 = c % 16 := by
  obtain ⟨n, rfl⟩ : ∃ n : Nat, c = n := ⟨c.toNat, by omega⟩
  rw [and15u n (by omega)]; omega
theorem and16J {c : Int} (h0 : 0 ≤ c) (h1 : c < 256) : (bits .and .i64 c 16 != 0) = decide (c / 16 % 2 = 1) := by
  obtain ⟨n, rfl⟩ : ∃ n : Nat, c = n := ⟨c.toNat, by omega⟩
  rw [and16i n (by omega)]
  exact decide_eq_decide.2 (by omega)
/-- What Read yields for an instruction that is put together. -/
def RdR (x : In) (W : World) (e : Ending) (w' : World) : Prop := ReadsAs (if mayI x = true then x else In.nil) (if mayI x = true then 0 else 31) W e w'
/-- What is known of the bytes behind the code. -/
structure Rest (b off cap : Nat) (y lo hi : Int) (W : World) : Prop where
  c1 : W.cell? ⟨b, off + 1, none⟩ = some (.int .u8 y)
  y0 : 0 ≤ y
  y1 : y < 256
  lo0 : 0 ≤ lo
  lo1 : lo < 65536
  hi0 : 0 ≤ hi
  hi1 : hi < 4294967296
  g2 : ∀ w, Below W.heap.size W w → Calls Try.prog 49 #[.slice (some ⟨b, off + 2, none⟩) 2 (cap - 2)] w fun e w' => e = .returned (.int .u64 lo) ∧ w = w'
  g4 : ∀ w, Below W.heap.size W w → Calls Try.prog 49 #[.slice (some ⟨b, off + 4, none⟩) 4 (cap - 4)] w fun e w' => e = .returned (.int .u64 hi) ∧ w = w'
theorem wsgn {p : Int} (h : -9223372036854775808 ≤ p ∧ p ≤ 9223372036854775807) : IntKind.i64.wrap (p % 18446744073709551616) = p := (IntWalk.i64_left _).trans (by unfold wrap64; omega)
theorem w_i8 {p : Int} (h : 0 ≤ p ∧ p ≤ 127) : IntKind.i8.wrap p = p := by unfold IntKind.wrap; simp [IntKind.bits, IntKind.signed]; omega
end Go.Proofs.Ytbpefomjmjkciaa.Ins
