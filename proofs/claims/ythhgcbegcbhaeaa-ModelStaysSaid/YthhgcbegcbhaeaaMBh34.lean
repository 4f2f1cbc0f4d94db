/-
  Several texts in one: MdlQ.
-/
import Derived.Test.YthhgcbegcbhaeaaMBh32
import Derived.Test.YthhgcbegcbhaeaaMBh33
set_option linter.unusedVariables false
set_option linter.unusedSimpArgs false
set_option linter.unnecessarySimpa false
namespace Go.Proofs.Ythhgcbegcbhaeaa.Mdl
open Go.RowKit
set_option linter.unusedVariables false
set_option linter.unusedSimpArgs false
set_option maxRecDepth 100000

def Pl.ix (D : Pl) : Nat := D.at_.toNat
/-- So many rounds. -/
def its (E : Env) (D : Pl) : Nat → Pl
  | 0 => D
  | k + 1 => (its E D k).step E.kf (E.x (its E D k).ix)
/-- The places of the first rounds. -/
def ats (E : Env) (D : Pl) (k : Nat) : List Int := (List.range k).map (fun j => (its E D j).at_)
theorem ats_succ (E : Env) (D : Pl) (k : Nat) : ats E D (k + 1) = ats E D k ++ [(its E D k).at_] := by simp [ats, List.range_succ]
/-- So many rounds are done, and the run goes on. -/
def Goes (E : Env) (D : Pl) (k : Nat) : Prop := ∀ j, j < k → 0 < (its E D j).fuel ∧ (its E D (j + 1)).fin = 0
theorem Goes.zero (E : Env) (D : Pl) : Goes E D 0 := fun j h => absurd h (Nat.not_lt_zero j)
theorem Goes.succ {E : Env} {D : Pl} {k : Nat} (h : Goes E D k) (hf : 0 < (its E D k).fuel) (he : (its E D (k + 1)).fin = 0) : Goes E D (k + 1) := fun j hj => by
  by_cases e : j = k
  · subst e; exact ⟨hf, he⟩
  · exact h j (by omega)
/-- How it goes on being a run. -/
structure Runs (E : Env) (D : Pl) : Prop where
  lo : 0 ≤ D.at_
  hi : D.at_ < E.pl
  few : D.evs.length + D.fuel ≤ 10000
  fuel : 0 ≤ D.fuel
theorem Runs.ix {E : Env} {D : Pl} (h : Runs E D) : D.ix < E.pl ∧ D.at_ = D.ix := by
  have := h.lo; have := h.hi
  unfold Pl.ix; omega
theorem exe_fuel (D : Pl) (kf : Nat → Int) (x : Ins.In) : (D.exe kf x).1.fuel = D.fuel := by
  unfold Pl.exe
  (repeat' split) <;> rfl
theorem exe_evs (D : Pl) (kf : Nat → Int) (x : Ins.In) : (D.exe kf x).1.evs.length ≤ D.evs.length + 1 := by
  unfold Pl.exe
  (repeat' split) <;> first | exact Nat.le_succ _ | (show (D.evs ++ [_]).length ≤ _; rw [List.length_append]; exact Nat.le_refl _)
theorem exe_fin (D : Pl) (kf : Nat → Int) (x : Ins.In) : (D.exe kf x).2 = 0 ∨ (D.exe kf x).2 = 1 ∨ (D.exe kf x).2 = 2 ∨ (D.exe kf x).2 = 3 := by
  unfold Pl.exe
  (repeat' split) <;> simp
theorem step_fuel (D : Pl) (kf : Nat → Int) (x : Ins.In) : (D.step kf x).fuel = D.fuel - 1 := by
  unfold Pl.step
  split
  · exact exe_fuel D.adv kf x
  · rfl
theorem step_evs (D : Pl) (kf : Nat → Int) (x : Ins.In) : (D.step kf x).evs.length ≤ D.evs.length + 1 := by
  unfold Pl.step
  split
  · exact exe_evs D.adv kf x
  · exact Nat.le_succ _
theorem exe_at {E : Env} (F : Fine E) {D : Pl} {i : Nat} (hi : i < E.pl) (ha : D.at_ = (i : Int) + 1) (h : (D.exe E.kf (E.x i)).2 = 0) : 0 ≤ (D.exe E.kf (E.x i)).1.at_ ∧ (D.exe E.kf (E.x i)).1.at_ < E.pl := by
  have hk := F.on i hi
  have hj := F.into i hi
  obtain ⟨_, _, _, _, hc⟩ := Ins.mayI_cases (F.may i hi)
  generalize E.x i = x at *
  have e1 : (D.at_ - 1 : Int) = i := by omega
  have go : x.kind ≠ 4 → x.kind ≠ 6 → 0 ≤ D.at_ ∧ D.at_ < E.pl := fun a b => by have := hk a b; omega
  unfold Pl.exe at h ⊢
  by_cases k0 : x.kind = 0
  · rw [if_pos k0] at h ⊢; exact go (by omega) (by omega)
  rw [if_neg k0] at h ⊢
  by_cases k1 : x.kind = 1
  · rw [if_pos k1] at h ⊢
    split <;> exact go (by omega) (by omega)
  rw [if_neg k1] at h ⊢
  by_cases k2 : x.kind = 2
  · rw [if_pos k2] at h ⊢
    split <;> exact go (by omega) (by omega)
  rw [if_neg k2] at h ⊢
  by_cases k3 : x.kind = 3
  · rw [if_pos k3] at h ⊢
    show 0 ≤ (if _ then _ else _ : Pl).at_ ∧ _
    split
    · show 0 ≤ Ins.targetI (D.at_ - 1) x ∧ Ins.targetI (D.at_ - 1) x < E.pl
      rw [e1]; exact hj (.inl k3)
    · exact go (by omega) (by omega)
  rw [if_neg k3] at h ⊢
  by_cases k4 : x.kind = 4
  · rw [if_pos k4] at h ⊢
    show 0 ≤ Ins.targetI (D.at_ - 1) x ∧ Ins.targetI (D.at_ - 1) x < E.pl
    rw [e1]; exact hj (.inr k4)
  rw [if_neg k4] at h ⊢
  by_cases k5 : x.kind = 5
  · rw [if_pos k5] at h ⊢
    split <;> exact go (by omega) (by omega)
  rw [if_neg k5] at h
  simp at h
theorem Runs.step {E : Env} (F : Fine E) {D : Pl} (h : Runs E D) (hf : 0 < D.fuel) (he : (D.step E.kf (E.x D.ix)).fin = 0) : Runs E (D.step E.kf (E.x D.ix)) := by
  obtain ⟨i1, i2⟩ := h.ix
  have e1 := step_fuel D E.kf (E.x D.ix)
  have e2 := step_evs D E.kf (E.x D.ix)
  have := h.few
  have key : 0 ≤ (D.step E.kf (E.x D.ix)).at_ ∧ (D.step E.kf (E.x D.ix)).at_ < E.pl := by
    unfold Pl.step at he ⊢
    split
    · next hr =>
      rw [if_pos hr] at he
      exact exe_at F (D := D.adv) i1 (by show D.at_ + 1 = _; omega) he
    · next hr =>
      rw [if_neg hr] at he
      cases he
  exact ⟨key.1, key.2, by omega, by omega⟩
theorem Runs.its {E : Env} (F : Fine E) {D : Pl} (h : Runs E D) : ∀ k, Goes E D k → Runs E (its E D k)
  | 0, _ => h
  | k + 1, g => Runs.step F (Runs.its F h k (fun j hj => g j (by omega))) (g k (by omega)).1 (g k (by omega)).2

/-- What a body of the caller's leaves alone. -/
def σM (t : TypeId) : Bool := τM t || t == 30 || t == 55 || t == 5 || t == 80
theorem own_mv {w w' : World} {b n k : Nat} {e : TypeId} {v : Value} {xs : List Value} (h : w.ownsRow b e k v n xs) (mv : ∀ (g : Nat) (c : Array Value), w.heap[g]? = some (.cells c e (0, 0)) → w'.heap[g]? = some (.cells c e (0, 0))) : w'.ownsRow b e k v n xs := by
  refine ⟨h.1, ?_⟩
  rcases h.2 with h | ⟨g, cap, cur, e1, e2, e3, r⟩
  · exact .inl h
  · exact .inr ⟨g, cap, cur, e1, e2, mv _ _ e3, r⟩
theorem Rel.mv {E : Env} {D : Pl} {w w' : World} (R : Rel E D w) (sz : w.heap.size ≤ w'.heap.size) (mv : ∀ (g : Nat) (c : Array Value) (t : TypeId), w.heap[g]? = some (.cells c t (0, 0)) → σM t = true → w'.heap[g]? = some (.cells c t (0, 0))) : Rel E D w' := by
  obtain ⟨av, tv, hin, ⟨z0, aa, ca, e1, e2, e3⟩, ps, p1, p2, p3⟩ := R.st
  refine ⟨⟨av, tv, mv _ _ _ hin (by decide), ⟨z0, aa, ca, e1, e2, fun hz => ?_⟩, ps, p1, own_mv p2 (fun g c h => mv g c _ h (by decide)), fun p hp => own_mv (p3 p hp) (fun g c h => mv g c _ h (by decide))⟩, ?_, ?_, R.words, R.far.1, R.far.2.1, Nat.le_trans R.far.2.2 sz⟩
  · obtain ⟨ab, ao, ac, h1, h2, h3⟩ := e3 hz
    exact ⟨ab, ao, ac, h1, mv _ _ _ h2 (by decide), h3⟩
  · obtain ⟨c, h1, h2⟩ := R.pr
    exact ⟨c, mv _ _ _ h1 (by decide), h2⟩
  · obtain ⟨c1, r1, r2, r3⟩ := R.mm.at_.row
    obtain ⟨c2, q1, q2, q3⟩ := R.mm.code
    exact ⟨⟨⟨c1, mv _ _ _ r1 (by decide), r2, r3⟩, R.mm.at_.cn, R.mm.at_.n, R.mm.at_.far, R.mm.at_.bytes⟩, ⟨c2, mv _ _ _ q1 (by decide), q2, q3⟩, R.mm.kb⟩
theorem Rel.keep {E : Env} {D : Pl} {w w' : World} (R : Rel E D w) (k : KeepT σM w w') : Rel E D w' := R.mv k.size (fun g c t h ht => k.same g _ h ht)
theorem Rel.own (E : Env) (D : Pl) (B : Nat) {α : Type} : OwnFrom B (fun (_ : α) w => Rel E D w) := fun s w w' row h g hr => h.mv g.size (fun k c t hk _ => (g.block k (Array.getElem?_eq_some_iff.1 hk).1 (fun e => by
  obtain ⟨_, o, ho, hc⟩ := hr k e.symm
  rw [hk] at ho
  injection ho with ho
  subst ho
  simp [Obj.isCells] at hc)).trans hk)
end Go.Proofs.Ythhgcbegcbhaeaa.Mdl
