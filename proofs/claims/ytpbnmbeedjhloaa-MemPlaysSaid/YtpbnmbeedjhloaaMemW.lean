/-
  Package mem: an access and a region, as contracts: the offset, whether it may be read or written, its size.
-/
import Derived.Test.YtpbnmbeedjhloaaRows
import Derived.WalkKit
import Derived.WalkSpells
import Derived.WalkLawsBesides
import Derived.Lib.Hide
import Derived.Handy
namespace Go.Proofs.Ytpbnmbeedjhloaa
open Go.RowKit
set_option linter.unusedVariables false
set_option maxRecDepth 100000

/-- How far an address lies behind a start. -/
def offI (a s : Int) : Int := (a - s) % 18446744073709551616

theorem ret_int {k : IntKind} {a b : Int} (h : a = b) : Ending.returned (.int k a) = .returned (.int k b) := by rw [h]
theorem bcell {W w1 : World} (hb : Below W.heap.size W w1) : (∀ b o, b < W.heap.size → w1.cell? ⟨b, o, none⟩ = W.cell? ⟨b, o, none⟩) ∧ (∀ b o, b < W.heap.size → w1.frozen? ⟨b, o, none⟩ = W.frozen? ⟨b, o, none⟩) :=
  ⟨fun b o h => hb.cell (p := ⟨b, o, none⟩) h, fun b o h => hb.frozen (p := ⟨b, o, none⟩) h⟩
theorem below_alloc {W w : World} {B : Nat} (h : Below B W w) (hB : B ≤ w.heap.size) (o : Obj) : Below B W (w.alloc o) := h.alloc hB o

set_option maxHeartbeats 400000 in
theorem offset_any (at_ n st sz : Int) (fx : Bool) (p : Option Addr) (ln cp : Nat) (W : World) :
    Calls Try.prog 74 #[.agg #[.int .u64 at_, .int .u64 n], .agg #[.int .u64 st, .int .u64 sz, .bool fx, .slice p ln cp]] W fun e w' => e = .returned (.int .u64 (offI at_ st)) ∧ Below W.heap.size W w' := by
  go_enter Try.func74, Try.ntmps74
  go_wp2
  go_ret
  exact ⟨rfl, ((Below.refl _ _).alloc (Nat.le_refl _) _).alloc (by simp) _⟩

/-- May n bytes from an address on be read in a region? -/
def rdB (a n st sz : Int) : Bool := decide (offI a st < sz) && decide (n ≤ sz - offI a st)
theorem offI_bd (a s : Int) : 0 ≤ offI a s ∧ offI a s < 18446744073709551616 := by unfold offI; omega

set_option maxHeartbeats 400000 in
theorem readable_any (at_ n st sz : Int) (fx : Bool) (p : Option Addr) (ln cp : Nat) (W : World) (hz0 : 0 ≤ sz) (hz1 : sz < 18446744073709551616) :
    Calls Try.prog 71 #[.agg #[.int .u64 at_, .int .u64 n], .agg #[.int .u64 st, .int .u64 sz, .bool fx, .slice p ln cp]] W fun e w' => e = .returned (.bool (rdB at_ n st sz)) ∧ Below W.heap.size W w' := by
  obtain ⟨o0, o1⟩ := offI_bd at_ st
  by_cases h : offI at_ st < sz
  · have e : rdB at_ n st sz = decide (n ≤ sz - offI at_ st) := by unfold rdB; rw [decide_eq_true h]; rfl
    rw [e]
    go_enter Try.func71, Try.ntmps71
    go_wp2_with fail
    refine (offset_any _ _ _ _ _ _ _ _ _).mono ?_
    rintro e w1 ⟨rfl, b1⟩
    obtain ⟨hc, hf⟩ := bcell b1
    go_wp2
    go_ret
    exact ⟨rfl, (((Below.refl _ _).alloc (Nat.le_refl _) _).alloc (by simp) _).trans (b1.mono (by simp; omega))⟩
  · have e : rdB at_ n st sz = false := by unfold rdB; rw [decide_eq_false h]; rfl
    rw [e]
    go_enter Try.func71, Try.ntmps71
    go_wp2_with fail
    refine (offset_any _ _ _ _ _ _ _ _ _).mono ?_
    rintro e w1 ⟨rfl, b1⟩
    obtain ⟨hc, hf⟩ := bcell b1
    go_wp2
    go_ret
    exact ⟨rfl, (((Below.refl _ _).alloc (Nat.le_refl _) _).alloc (by simp) _).trans (b1.mono (by simp; omega))⟩

/-- May they be written? -/
def wrB (a n st sz : Int) (fx : Bool) : Bool := !fx && rdB a n st sz
set_option maxHeartbeats 400000 in
theorem writable_any (at_ n st sz : Int) (fx : Bool) (p : Option Addr) (ln cp : Nat) (W : World) (hz0 : 0 ≤ sz) (hz1 : sz < 18446744073709551616) :
    Calls Try.prog 67 #[.agg #[.int .u64 at_, .int .u64 n], .agg #[.int .u64 st, .int .u64 sz, .bool fx, .slice p ln cp]] W fun e w' => e = .returned (.bool (wrB at_ n st sz fx)) ∧ Below W.heap.size W w' := by
  cases fx
  · go_enter Try.func67, Try.ntmps67
    go_wp2_with fail
    refine (readable_any _ _ _ _ _ _ _ _ _ hz0 hz1).mono ?_
    rintro e w1 ⟨rfl, b1⟩
    go_wp2
    go_ret
    exact ⟨rfl, (((Below.refl _ _).alloc (Nat.le_refl _) _).alloc (by simp) _).trans (b1.mono (by simp; omega))⟩
  · go_enter Try.func67, Try.ntmps67
    go_wp2
    go_ret
    exact ⟨rfl, ((Below.refl _ _).alloc (Nat.le_refl _) _).alloc (by simp) _⟩

/-- Is it a size? -/
def szB (n : Int) : Bool := n == 1 || n == 2 || n == 4 || n == 8
set_option maxHeartbeats 400000 in
theorem sized_any (at_ n : Int) (W : World) :
    Calls Try.prog 113 #[.agg #[.int .u64 at_, .int .u64 n]] W fun e w' => e = .returned (.bool (szB n)) ∧ Below W.heap.size W w' := by
  go_enter Try.func113, Try.ntmps113
  go_wp2
  all_goals
    go_ret
    exact ⟨by simp_all [szB], (Below.refl _ _).alloc (Nat.le_refl _) _⟩

/-- A number of bytes, brought to its range. -/
def limI (a m : Int) : Int := min (max a 0) m
set_option maxHeartbeats 400000 in
theorem limited_any (a m : Int) (h0 : 0 ≤ m) (h1 : m ≤ 9223372036854775807) (W : World) :
    Calls Try.prog 138 #[.int .i64 a, .int .i64 m] W fun e w' => e = .returned (.int .u64 (limI a m)) ∧ W = w' := by
  go_enter Try.func138, Try.ntmps138
  go_wp2
  all_goals
    go_ret
    exact ⟨ret_int (by unfold limI; omega), rfl⟩
end Go.Proofs.Ytpbnmbeedjhloaa
