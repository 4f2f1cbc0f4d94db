/-
  The document's own memory, latheref02: rows of its own, sizes, places.
-/
import Derived.Test.YtpbnmbeedjhloaaMemK
import Derived.Test.YtpbnmbeedjhloaaOrd
import Derived.Laws.AppendOwn
import Derived.Laws.AppendOwnNone
namespace Go.Proofs.Ytpbnmbeedjhloaa.Rm
open Go.RowKit
set_option linter.unusedVariables false
set_option maxRecDepth 100000
set_option linter.unnecessarySimpa false
set_option linter.unusedSimpArgs false

theorem owns_past {w w' : World} {base : Nat} {e : TypeId} {s n : Nat} {v : Value} {xs : List Value} (h : w.ownsRow base e s v n xs) (b : ∀ k, k < w.heap.size → w'.heap[k]? = w.heap[k]?) : w'.ownsRow base e s v n xs := by
  refine ⟨h.1, ?_⟩
  rcases h.2 with h | ⟨g, cap, cur, e1, e2, e3, r⟩
  · exact .inl h
  · exact .inr ⟨g, cap, cur, e1, e2, (b g (Array.getElem?_eq_some_iff.1 e3).1).trans e3, r⟩
theorem owns_below {w w' : World} {base : Nat} {e : TypeId} {s n : Nat} {v : Value} {xs : List Value} (h : w.ownsRow base e s v n xs) (b : Below w.heap.size w w') : w'.ownsRow base e s v n xs :=
  owns_past h fun k hk => b.block k hk
theorem owns_mono {w : World} {base base' : Nat} {e : TypeId} {s n : Nat} {v : Value} {xs : List Value} (hb : base' ≤ base) (h : w.ownsRow base e s v n xs) : w.ownsRow base' e s v n xs := by
  refine ⟨h.1, ?_⟩
  rcases h.2 with h | ⟨g, cap, cur, e1, e2, r⟩
  · exact .inl h
  · exact .inr ⟨g, cap, cur, e1, Nat.le_trans hb e2, r⟩
theorem below_grown {W w w' : World} {row : Option Nat} (h : Below W.heap.size W w) (g : w.grownBy w' row) (hr : ∀ k, row = some k → W.heap.size ≤ k) : Below W.heap.size W w' :=
  h.trans ⟨g.os, g.tape, g.output, g.size, fun k hk => g.block k (Nat.lt_of_lt_of_le hk h.size) (fun e => by have := hr k e.symm; omega)⟩
theorem info_u8a : ∃ i, Try.prog.info? 5 = some i ∧ i.zero = some (.int .u8 0) ∧ i.size = 1 ∧ i.bytes = 1 := by
  have h := info_u8
  cases hi : Try.prog.info? 5 with
  | none => rw [hi] at h; simp at h
  | some i => rw [hi] at h; simp at h; exact ⟨i, rfl, h.1, h.2.1, h.2.2⟩

/-- A row of bytes of its own. -/
def Own (w : World) (base : Nat) (v : Value) (n : Nat) (f : Nat → Int) : Prop := w.ownsRow base 5 1 v n (bytesOf f n)
theorem bytesOf_nil (f : Nat → Int) : bytesOf f 0 = [] := rfl

set_option maxHeartbeats 1000000 in
theorem r_same (a : Option Addr) (len cap : Nat) (f : Nat → Int) (W : World) (hs : Src W a len cap f) (hl : len ≤ 1000000) :
    Calls Try.prog 65 #[.slice a len cap] W fun e w' => ∃ v, e = .returned v ∧ Below W.heap.size W w' ∧ Own w' W.heap.size v len f := by
  obtain ⟨ti, hi1, hi2, hi3, hi4⟩ := info_u8a
  have TI := Lib.hid (And.intro hi1 (And.intro hi2 (And.intro hi3 hi4)))
  clear hi1 hi2 hi3 hi4
  by_cases h0 : 0 < len
  · obtain ⟨ad, rfl, hc⟩ := hs.cells len (Nat.le_refl _) h0
    have HC := Lib.hid hc
    have h2 := hs.max
    have h1 := hs.le
    clear hc hs
    go_enter Try.func65, Try.ntmps65
    go_wp2_with (at_builtin; refine wpList_append_own W rfl _ _ 22 rfl W.heap.size 5 ti (.int .u8 0) 1 1 Try.underlying22 TI.out.1 TI.out.2.1 TI.out.2.2.1 TI.out.2.2.2 rfl (by decide) _ 0 [] rfl (World.ownsRow_nil _ _ _ _) ad len cap (bytesOf f len) rfl (by rw [bytesOf_length]; omega) HC.out (bytesOf_one f len) (by unfold maxLen; omega) (by omega) (Nat.le_refl _) ?_)
    intro v w1 o1 g1 n1
    have B1 := below_grown (Below.refl _ W) g1 (fun k hk => by simp [Value.ownBlock] at hk)
    clear g1 n1
    go_wp2_with fail
    go_ret
    exact ⟨_, rfl, B1, o1⟩
  · obtain rfl : len = 0 := by omega
    have h2 := hs.max
    clear hs h0
    go_enter Try.func65, Try.ntmps65
    cases a with
    | none =>
      go_wp2
      go_ret
      exact ⟨_, rfl, Below.refl _ _, World.ownsRow_nil _ _ _ _⟩
    | some ad =>
      go_wp2_with (at_builtin; refine wpList_append_own W rfl _ _ 22 rfl W.heap.size 5 ti (.int .u8 0) 1 1 Try.underlying22 TI.out.1 TI.out.2.1 TI.out.2.2.1 TI.out.2.2.2 rfl (by decide) _ 0 [] rfl (World.ownsRow_nil _ _ _ _) ad 0 cap [] rfl rfl (by intro j u h; simp at h) (by simp) (by unfold maxLen; omega) (by omega) (Nat.le_refl _) ?_)
      intro v w1 o1 g1 n1
      have B1 := below_grown (Below.refl _ W) g1 (fun k hk => by simp [Value.ownBlock] at hk)
      clear g1 n1
      go_wp2_with fail
      go_ret
      exact ⟨_, rfl, B1, o1⟩

/-- The sizes that are let be. -/
def sizedB (n : Int) : Bool := n == 1 || n == 2 || n == 4 || n == 8
theorem r_sized (n : Int) (W : World) : Calls Try.prog 69 #[.int .i64 n] W fun e w' => e = .returned (.bool (sizedB n)) ∧ W = w' := by
  unfold sizedB
  by_cases h1 : n = 1
  · subst h1
    go_enter Try.func69, Try.ntmps69
    go_wp2
    go_ret
    exact ⟨by simp, rfl⟩
  by_cases h2 : n = 2
  · subst h2
    go_enter Try.func69, Try.ntmps69
    go_wp2
    go_ret
    exact ⟨by simp, rfl⟩
  by_cases h3 : n = 4
  · subst h3
    go_enter Try.func69, Try.ntmps69
    go_wp2
    go_ret
    exact ⟨by simp, rfl⟩
  by_cases h4 : n = 8
  · subst h4
    go_enter Try.func69, Try.ntmps69
    go_wp2
    go_ret
    exact ⟨by simp, rfl⟩
  have e1 : (n == 1) = false := by simpa using h1
  have e2 : (n == 2) = false := by simpa using h2
  have e3 : (n == 4) = false := by simpa using h3
  have e4 : (n == 8) = false := by simpa using h4
  clear h1 h2 h3 h4
  go_enter Try.func69, Try.ntmps69
  go_wp2
  go_ret
  exact ⟨by simp [e1, e2, e3, e4], rfl⟩

/-- The place of an access in a row of len bytes that begins at base. -/
def withinB (at_ n base : Int) (len : Nat) : Bool := decide (base ≤ at_ ∧ at_ - base < len ∧ n ≤ len - (at_ - base))
theorem r_within (at_ n base : Int) (a : Option Addr) (len cap : Nat) (W : World) (h0 : 0 ≤ at_) (h1 : at_ < 18446744073709551616) (b0 : 0 ≤ base) (b1 : base ≤ 4194304) (hl : len ≤ 1000000) :
    Calls Try.prog 75 #[.int .u64 at_, .int .i64 n, .int .u64 base, .slice a len cap] W fun e w' => (∃ k, e = .returned (.tuple #[.int .i64 k, .bool (withinB at_ n base len)]) ∧ (withinB at_ n base len = true → k = at_ - base)) ∧ W = w' := by
  by_cases c1 : at_ < base
  · have hw : withinB at_ n base len = false := by unfold withinB; exact decide_eq_false (by omega)
    rw [hw]; clear hw
    go_enter Try.func75, Try.ntmps75
    go_wp2
    go_ret2
    exact ⟨⟨0, rfl, fun h => by cases h⟩, rfl⟩
  by_cases c2 : (len : Int) ≤ at_ - base
  · have hw : withinB at_ n base len = false := by unfold withinB; exact decide_eq_false (by omega)
    rw [hw]; clear hw
    go_enter Try.func75, Try.ntmps75
    go_wp2
    go_ret2
    exact ⟨⟨0, rfl⟩, rfl⟩
  have hw : withinB at_ n base len = decide (n ≤ len - (at_ - base)) := by unfold withinB; exact decide_eq_decide.2 (by omega)
  rw [hw]; clear hw
  go_enter Try.func75, Try.ntmps75
  go_wp2
  go_ret2
  exact ⟨⟨_, rfl, fun _ => rfl⟩, rfl⟩
end Go.Proofs.Ytpbnmbeedjhloaa.Rm
