/-
  Rows of bools compared; what Reach yields, told once for both.
-/
import Derived.Test.YtbpefomjmjkciaaRbN
namespace Go.Proofs.Ytbpefomjmjkciaa.Blk
open Go.RowKit Go.Maps Go.Sort Ins
set_option linter.unusedVariables false
set_option maxRecDepth 100000

/-- A row of bools that can be read. -/
structure BoolsAt (W : World) (a : Option Addr) (m cp : Nat) (f : Nat → Bool) : Prop where
  le : m ≤ cp
  fit : cp ≤ 9223372036854775807
  here : 0 < m → ∃ b o, a = some ⟨b, o, none⟩ ∧ ∀ i, i < m → W.cell? ⟨b, o + i, none⟩ = some (.bool (f i))
theorem BoolsAt.below {W w : World} {a : Option Addr} {m cp : Nat} {f : Nat → Bool} (h : BoolsAt W a m cp f) (b : Below W.heap.size W w) : BoolsAt w a m cp f :=
  ⟨h.le, h.fit, fun h0 => by
    obtain ⟨b', o, e, hc⟩ := h.here h0
    exact ⟨b', o, e, fun i hi => (b.cell (p := ⟨b', o + i, none⟩) (lt_of_cell (hc i hi))).trans (hc i hi)⟩⟩
def ReachTo (bs : List Bk) (n : Nat) (W : World) (e : Ending) (w' : World) : Prop :=
  ∃ a m cp f, e = .returned (.slice a m cp) ∧ BoolsAt w' a m cp f ∧ m = (if mayL bs = true ∧ 0 < n then n else 0) ∧ (m ≠ 0 → Walked bs (· = 0) (fun _ => false) f ∧ f 0 = true) ∧ Below W.heap.size W w'
theorem reachTo_yes {bs : List Bk} {n : Nat} {W : World} {e : Ending} {w' : World} (hm : mayL bs = true) (h0 : 0 < n) (h : Reached bs W.heap.size n W e w') : ReachTo bs n W e w' := by
  obtain ⟨g, cp, f, rfl, o, K, f0, b⟩ := h
  refine ⟨_, n, cp, f, rfl, ⟨?_, ?_, fun _ => ⟨g, 0, rfl, fun i hi => ?_⟩⟩, by rw [if_pos ⟨hm, h0⟩], fun _ => ⟨K, f0⟩, b⟩
  · rcases o.2 with ⟨e, _⟩ | ⟨_, _, _, e, _, _, h4, _⟩
    · cases e
    · injection e with _ _ e; subst e; exact h4
  · rcases o.2 with ⟨e, _⟩ | ⟨_, _, _, e, _, _, _, h4, _⟩
    · cases e
    · injection e with _ _ e; subst e; unfold maxLen at h4; omega
  · rw [Nat.zero_add, o.cellAt i (by omega), marks_get f hi]
theorem reachTo_no {bs : List Bk} {n : Nat} {W : World} {e : Ending} {w' : World} (hm : mayL bs = false ∨ n = 0) (h : e = .returned (.slice none 0 0) ∧ Below W.heap.size W w') : ReachTo bs n W e w' := by
  refine ⟨none, 0, 0, fun _ => false, h.1, ⟨Nat.le_refl _, by omega, fun h => absurd h (by omega)⟩, ?_, fun h => absurd rfl h, h.2⟩
  rw [if_neg]
  intro h
  rcases hm with h1 | h1
  · rw [h.1] at h1; cases h1
  · omega
theorem reach_to (a : Option Addr) (n c : Nat) (bs : List Bk) (W : World) (h : Blks W a n c bs) : Calls Try.prog 27 #[.slice a n c] W (ReachTo bs n W) := by
  by_cases h0 : mayL bs = true ∧ 0 < n
  · exact (reach_yes a n c bs W h h0.1 h0.2).mono fun _ _ => reachTo_yes h0.1 h0.2
  · have h1 : mayL bs = false ∨ n = 0 := by
      cases hm : mayL bs
      · exact .inl rfl
      · exact .inr (by have : ¬ 0 < n := fun h => h0 ⟨hm, h⟩; omega)
    exact (reach_no a n c bs W h h1).mono fun _ _ => reachTo_no h1
theorem r_reach_to (a : Option Addr) (n c : Nat) (bs : List Bk) (W : World) (h : Blks W a n c bs) : Calls Try.prog 28 #[.slice a n c] W (ReachTo bs n W) := by
  by_cases h0 : mayL bs = true ∧ 0 < n
  · exact (r_reach_yes a n c bs W h h0.1 h0.2).mono fun _ _ => reachTo_yes h0.1 h0.2
  · have h1 : mayL bs = false ∨ n = 0 := by
      cases hm : mayL bs
      · exact .inl rfl
      · exact .inr (by have : ¬ 0 < n := fun h => h0 ⟨hm, h⟩; omega)
    exact (r_reach_no a n c bs W h h1).mono fun _ _ => reachTo_no h1

set_option maxHeartbeats 1000000 in
theorem bools_same (a1 a2 : Option Addr) (m c1 c2 : Nat) (f : Nat → Bool) (W : World) (h1 : BoolsAt W a1 m c1 f) (h2 : BoolsAt W a2 m c2 f) :
    Calls Try.prog 26 #[.slice a1 m c1, .slice a2 m c2] W (QB true W) := by
  have l1 := h1.le
  have f1 := h1.fit
  have l2 := h2.le
  have f2 := h2.fit
  have H1 := Lib.hid h1.here
  have H2 := Lib.hid h2.here
  clear h1 h2
  go_enter Try.func26, Try.ntmps26
  go_wp2_with fail
  go_loopw [5] (fun i wr => ∃ k : Nat, k ≤ m ∧ i = .int .i64 k ∧ (∃ n, W.drewN n = wr)) (fun i _ => m - (intOf i).toNat)
  case atStart => exact ⟨0, by omega, rfl, 0, rfl⟩
  case round =>
    obtain ⟨k, hk, rfl, nd, rfl⟩ := hrel
    by_cases hlt : k < m
    · obtain ⟨b1, o1, rfl, g1⟩ := H1.out (by omega)
      obtain ⟨b2, o2, rfl, g2⟩ := H2.out (by omega)
      have x1 := g1 k hlt
      have x2 := g2 k hlt
      have y3 : (0 : Int) ≤ (k : Int) := by omega
      have y1 : (k : Int) < (m : Int) := by omega
      have e0 : (f k != f k) = false := by simp
      clear g1 g2
      generalize f k = z at *
      go_wp2_with fail
      go_big_quiet (fail)
      go_wp2_with fail
      go_roundw
      case rel => exact ⟨k + 1, by omega, by go_num, nd + nq, by simp⟩
      case measure => simp [intOf]; omega
    · obtain rfl : k = m := by omega
      go_wp2_with fail
      go_ret
      exact ⟨rfl, nd, rfl⟩
end Go.Proofs.Ytbpefomjmjkciaa.Blk
