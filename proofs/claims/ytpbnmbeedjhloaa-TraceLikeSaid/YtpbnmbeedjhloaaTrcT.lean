/-
  Copies in memory: two copies apart; a copy whose numbers are written over.
-/
import Derived.Test.YtpbnmbeedjhloaaTraceTellsW
import Derived.Test.YtpbnmbeedjhloaaOrdM
import Derived.Deep.WholeRow
namespace Go.Proofs.Ytpbnmbeedjhloaa.Trc
open Go.RowKit Go.Maps
set_option linter.unusedVariables false
set_option maxRecDepth 100000

theorem own_type {w : World} {b : Nat} {e : TypeId} {s n : Nat} {v : Value} {xs : List Value} (h : w.ownsRow b e s v n xs) {g : Nat} (hg : v.ownBlock = some g) : b ≤ g ∧ ∃ cur, w.heap[g]? = some (.cells cur e (0, 0)) := by
  rcases h.2 with ⟨h1, _⟩ | ⟨g', cap, cur, e1, e2, e3, _⟩
  · rw [h1] at hg; cases hg
  · rw [e1] at hg
    injection hg with hg
    subst hg
    exact ⟨e2, cur, e3⟩
theorem own_ne {w : World} {b : Nat} {e t : TypeId} {s n q : Nat} {v : Value} {xs : List Value} {c : Array Value} (h : w.ownsRow b e s v n xs) (hq : w.heap[q]? = some (.cells c t (0, 0))) (het : e ≠ t) (j : Nat) (hj : v.ownBlock = some j) : some q ≠ some j := by
  intro hh
  injection hh with hh
  subst hh
  obtain ⟨_, cur, h2⟩ := own_type h hj
  rw [hq] at h2
  injection h2 with h2
  injection h2 with _ h2 _
  exact het h2.symm
theorem MidAt.other {old lo q : Nat} {w w' : World} {x : Out} {cv tv : Value} {ps : List (Ev × (Option Addr × Nat))} {c : Array Value} (h : MidAt old lo w x cv tv ps x.tr.length) (hq : w.heap[q]? = some (.cells c 76 (0, 0))) (g : w.grownBy w' (some q)) : MidAt old lo w' x cv tv ps x.tr.length :=
  ⟨own_grown h.ctx g (own_ne h.ctx hq (by decide)), own_grown h.row g (own_ne h.row hq (by decide)), h.evs, fun i p hp hi => own_grown (h.done i p hp hi) g (own_ne (h.done i p hp hi) hq (by decide)), fun i p hp hi => by
    have h1 := (List.getElem?_eq_some_iff.1 hp).1
    have h2 := congrArg List.length h.evs
    rw [List.length_map] at h2
    omega, h.apart1, h.apart2⟩

/-- A copy of x that lies between two blocks. -/
def CpIn (lo hi : Nat) (w : World) (x : Out) (v : Value) : Prop := ∃ (old l : Nat) (ca : Option Addr) (cc : Nat) (ta : Option Addr) (tc : Nat) (ps : List (Ev × (Option Addr × Nat))), v = .agg #[.int .i8 x.kind, .int .u64 x.r0, .slice ca x.ctx.length cc, .slice ta x.tr.length tc, .int .i64 x.left] ∧ lo ≤ l ∧ MidAt old l w x (.slice ca x.ctx.length cc) (.slice ta x.tr.length tc) ps x.tr.length ∧
  (∀ ad, ca = some ad → ad.block < hi) ∧ (∀ ad, ta = some ad → ad.block < hi) ∧ ∀ (i : Nat) (p : Ev × (Option Addr × Nat)), ps[i]? = some p → ∀ ad : Addr, p.2.1 = some ad → ad.block < hi
theorem CpIn.below {lo hi : Nat} {w w' : World} {x : Out} {v : Value} (h : CpIn lo hi w x v) (b : Below w.heap.size w w') : CpIn lo hi w' x v := by
  obtain ⟨old, l, ca, cc, ta, tc, ps, h1, h2, h3, h4⟩ := h
  exact ⟨old, l, ca, cc, ta, tc, ps, h1, h2, h3.below b, h4⟩
theorem CpIn.other {lo hi q : Nat} {w w' : World} {x : Out} {v : Value} {c : Array Value} (h : CpIn lo hi w x v) (hq : w.heap[q]? = some (.cells c 76 (0, 0))) (g : w.grownBy w' (some q)) : CpIn lo hi w' x v := by
  obtain ⟨old, l, ca, cc, ta, tc, ps, h1, h2, h3, h4⟩ := h
  exact ⟨old, l, ca, cc, ta, tc, ps, h1, h2, h3.other hq g, h4⟩
theorem CpIn.of {w w' : World} {x : Out} {cv tv : Value} {ps : List (Ev × (Option Addr × Nat))} (h : MidAt w.heap.size (w.heap.size + 2) w' x cv tv ps x.tr.length) : CpIn w.heap.size w'.heap.size w' x (.agg #[.int .i8 x.kind, .int .u64 x.r0, cv, tv, .int .i64 x.left]) := by
  obtain ⟨ca, cc, rfl⟩ := own_slice h.ctx
  obtain ⟨ta, tc, rfl⟩ := own_slice h.row
  refine ⟨_, _, ca, cc, ta, tc, ps, rfl, by omega, h, fun ad e => (World.ownsRow.lt h.ctx ad.block (by rw [e]; rfl)).2, fun ad e => (World.ownsRow.lt h.row ad.block (by rw [e]; rfl)).2, fun i p hp ad e => ?_⟩
  have h1 := (List.getElem?_eq_some_iff.1 hp).1
  have h2 := congrArg List.length h.evs
  rw [List.length_map] at h2
  exact (World.ownsRow.lt (h.done i p hp (by omega)) ad.block (by rw [e]; rfl)).2
theorem zero_out : (Try.prog.info? 76).map (fun i => (i.zero, i.size)) = some (some (.agg #[.int .i8 0, .int .u64 0, .slice none 0 0, .slice none 0 0, .int .i64 0]), 5) := by kernel_rfl
theorem stored_grown {w w' : World} {g : Nat} {cs : Array Value} {t : TypeId} (h : Stored w g cs t w') : w.grownBy w' (some g) := ⟨h.os, h.tape, h.output, by rw [h.size]; exact Nat.le_refl _, fun k hk hne => h.other k (fun e => hne (by rw [e]))⟩
theorem agg_size {x : Out} {lo hi : Nat} {w : World} {cs : Array Value} (h : CpIn lo hi w x (.agg cs)) : cs.size = 5 ∧ cs.all (·.oneCell') = true := by
  obtain ⟨old, l, ca, cc, ta, tc, ps, h1, _⟩ := h
  injection h1 with h1
  subst h1
  exact ⟨rfl, by simp [Value.oneCell']⟩
end Go.Proofs.Ytpbnmbeedjhloaa.Trc
