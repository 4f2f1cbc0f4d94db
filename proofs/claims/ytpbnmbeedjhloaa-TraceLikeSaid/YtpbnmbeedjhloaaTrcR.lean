/-
  Package trace: Copy, the memory of a copy.
-/
import Derived.Test.YtpbnmbeedjhloaaTrcQ
import Derived.Test.YtpbnmbeedjhloaaTrcL
import Derived.Test.YtpbnmbeedjhloaaOrdT
namespace Go.Proofs.Ytpbnmbeedjhloaa.Trc
open Go.RowKit Go.Maps
set_option linter.unusedVariables false
set_option maxRecDepth 100000

theorem own_base {w : World} {b b' : Nat} {e : TypeId} {s n : Nat} {v : Value} {xs : List Value} (h : w.ownsRow b e s v n xs) (hb : b' ≤ b) : w.ownsRow b' e s v n xs := by
  refine ⟨h.1, ?_⟩
  rcases h.2 with h | ⟨g, cap, cur, e1, e2, r⟩
  · exact .inl h
  · exact .inr ⟨g, cap, cur, e1, by omega, r⟩
theorem own_grown {w w' : World} {base : Nat} {e : TypeId} {s n : Nat} {v : Value} {xs : List Value} {row : Option Nat} (h : w.ownsRow base e s v n xs) (g : w.grownBy w' row) (hr : ∀ j, v.ownBlock = some j → row ≠ some j) : w'.ownsRow base e s v n xs := by
  refine ⟨h.1, ?_⟩
  rcases h.2 with h | ⟨k, cap, cur, e1, e2, e3, r⟩
  · exact .inl h
  · exact .inr ⟨k, cap, cur, e1, e2, (g.block k (Array.getElem?_eq_some_iff.1 e3).1 (fun e => hr k (by rw [e1]; rfl) e.symm)).trans e3, r⟩
theorem own_slice {w : World} {base : Nat} {e : TypeId} {s n : Nat} {v : Value} {xs : List Value} (h : w.ownsRow base e s v n xs) : ∃ a c, v = .slice a n c := by
  rcases h.2 with ⟨h1, h2⟩ | ⟨g, cap, cur, e1, _⟩
  · subst h2; exact ⟨none, 0, h1⟩
  · exact ⟨_, cap, e1⟩
theorem own_words {w : World} {base : Nat} {a : Option Addr} {n c : Nat} {zs : List Int} (h : w.ownsRow base 33 1 (.slice a n c) n (zs.map (.int .u64))) : WordsAt w a n c zs := by
  have hl : zs.length = n := by have := h.1; rw [List.length_map] at this; omega
  rcases h.2 with ⟨h1, h2⟩ | ⟨g, cap, cur, e1, e2, e3, e4, e5, e6, e7⟩
  · injection h1 with h1 _ h3
    subst h1 h2 h3
    exact ⟨hl.symm, Nat.le_refl _, by omega, fun h => absurd h (by omega), fun _ => rfl⟩
  · injection e1 with e1 _ e8
    subst e1 e8
    refine ⟨hl.symm, e4, by unfold maxLen at e5; omega, fun _ => ⟨g, 0, rfl, fun j z hz => ?_⟩, fun h => by cases h⟩
    have hj : j < n := by have := (List.getElem?_eq_some_iff.1 hz).1; omega
    have h1 : (cur.toList.take (n * 1))[j]? = some (.int .u64 z) := by rw [e7, List.getElem?_map, hz]; rfl
    rw [List.getElem?_take_of_lt (by omega), Array.getElem?_toList] at h1
    simp only [World.cell?, e3, Nat.zero_add]
    exact h1
theorem own_bytes {w : World} {base : Nat} {a : Option Addr} {n c : Nat} {zs : List Int} (h : w.ownsRow base 5 1 (.slice a n c) n (zs.map (.int .u8))) (ok : ∀ z ∈ zs, 0 ≤ z ∧ z < 256) : BytesAt w a n c zs := by
  have hl : zs.length = n := by have := h.1; rw [List.length_map] at this; omega
  rcases h.2 with ⟨h1, h2⟩ | ⟨g, cap, cur, e1, e2, e3, e4, e5, e6, e7⟩
  · injection h1 with h1 _ h3
    subst h1 h2 h3
    exact ⟨hl.symm, Nat.le_refl _, by omega, fun h => absurd h (by omega), ok, fun _ => rfl⟩
  · injection e1 with e1 _ e8
    subst e1 e8
    refine ⟨hl.symm, e4, by unfold maxLen at e5; omega, fun _ => ⟨g, 0, rfl, fun j z hz => ?_⟩, ok, fun h => by cases h⟩
    have hj : j < n := by have := (List.getElem?_eq_some_iff.1 hz).1; omega
    have h1 : (cur.toList.take (n * 1))[j]? = some (.int .u8 z) := by rw [e7, List.getElem?_map, hz]; rfl
    rw [List.getElem?_take_of_lt (by omega), Array.getElem?_toList] at h1
    simp only [World.cell?, e3, Nat.zero_add]
    exact h1

/-- An outcome half copied: the first k events' arguments are the call's own. -/
structure MidAt (old lo : Nat) (w : World) (x : Out) (cv tv : Value) (ps : List (Ev × (Option Addr × Nat))) (k : Nat) : Prop where
  ctx : w.ownsRow lo 5 1 cv x.ctx.length (x.ctx.map (.int .u8))
  row : w.ownsRow lo 79 3 tv x.tr.length (cellsE ps)
  evs : ps.map (·.1) = x.tr
  done : ∀ i p, ps[i]? = some p → i < k → w.ownsRow lo 33 1 (.slice p.2.1 p.1.args.length p.2.2) p.1.args.length (p.1.args.map (.int .u64))
  rest : ∀ i p, ps[i]? = some p → k ≤ i → WordsAt w p.2.1 p.1.args.length p.2.2 p.1.args ∧ (0 < p.1.args.length → ∀ ad, p.2.1 = some ad → ad.block < old)
  apart1 : ∀ b, cv.ownBlock = some b → tv.ownBlock ≠ some b
  apart2 : ∀ i p, ps[i]? = some p → i < k → ∀ ad, p.2.1 = some ad → cv.ownBlock ≠ some ad.block ∧ tv.ownBlock ≠ some ad.block
theorem MidAt.below {old lo : Nat} {w w' : World} {x : Out} {cv tv : Value} {ps : List (Ev × (Option Addr × Nat))} {k : Nat} (h : MidAt old lo w x cv tv ps k) (b : Below w.heap.size w w') : MidAt old lo w' x cv tv ps k :=
  ⟨own_below h.ctx b, own_below h.row b, h.evs, fun i p hp hi => own_below (h.done i p hp hi) b, fun i p hp hi => ⟨(h.rest i p hp hi).1.below b, (h.rest i p hp hi).2⟩, h.apart1, h.apart2⟩

theorem cellsE_setArgs : ∀ (l : List (Ev × (Option Addr × Nat))) (j : Nat) (p : Ev × (Option Addr × Nat)) (na : Option Addr) (nc : Nat), l[j]? = some p → (cellsE l).set (j * 3 + 1) (.slice na p.1.args.length nc) = cellsE (l.set j (p.1, (na, nc)))
  | [], j, p, na, nc, h => by simp at h
  | q :: l, 0, p, na, nc, h => by
    obtain rfl : q = p := by simpa using h
    rfl
  | q :: l, j + 1, p, na, nc, h => by
    have ih := cellsE_setArgs l j p na nc (by simpa using h)
    rw [show (j + 1) * 3 + 1 = j * 3 + 1 + 1 + 1 + 1 by omega]
    show cellE q.1 q.2.1 q.2.2 ++ _ = _
    rw [List.set_cons_succ]
    show _ = cellE q.1 q.2.1 q.2.2 ++ cellsE (l.set j (p.1, (na, nc)))
    rw [← ih]
    rfl

/-- One event more: its arguments have been copied into v, and v stored. -/
theorem MidAt.step {old lo g cap k : Nat} {w w' : World} {x : Out} {cv v : Value} {cur : Array Value} {ps : List (Ev × (Option Addr × Nat))} {p : Ev × (Option Addr × Nat)}
    (h : MidAt old lo w x cv (.slice (some ⟨g, 0, none⟩) x.tr.length cap) ps k) (hol : old ≤ lo) (hp : ps[k]? = some p) (hcur : w.heap[g]? = some (.cells cur 79 (0, 0)))
    (hg : w.grownBy w' (some g)) (hst : w'.heap[g]? = some (.cells (cur.setIfInBounds (k * 3 + 1) v) 79 (0, 0))) (hv : w'.ownsRow w.heap.size 33 1 v p.1.args.length (p.1.args.map (.int .u64))) :
    ∃ ps', MidAt old lo w' x cv (.slice (some ⟨g, 0, none⟩) x.tr.length cap) ps' (k + 1) := by
  obtain ⟨na, nc, rfl⟩ := own_slice hv
  have hk : k < ps.length := (List.getElem?_eq_some_iff.1 hp).1
  have hgl : lo ≤ g ∧ g < w.heap.size := World.ownsRow.lt h.row g rfl
  have hlo : lo ≤ w.heap.size := by omega
  have hna : ∀ ad, na = some ad → w.heap.size ≤ ad.block := fun ad e => (World.ownsRow.lt hv ad.block (by rw [e]; rfl)).1
  have get : ∀ i q, (ps.set k (p.1, (na, nc)))[i]? = some q → (i = k ∧ q = (p.1, (na, nc))) ∨ (i ≠ k ∧ ps[i]? = some q) := by
    intro i q hq
    by_cases e : i = k
    · subst e
      rw [List.getElem?_set_self hk] at hq
      injection hq with hq
      exact .inl ⟨rfl, hq.symm⟩
    · rw [List.getElem?_set_ne (Ne.symm e)] at hq
      exact .inr ⟨e, hq⟩
  refine ⟨ps.set k (p.1, (na, nc)), own_grown h.ctx hg (fun j hj e => by injection e with e; subst e; exact h.apart1 _ hj rfl), ?_, ?_, ?_, ?_, h.apart1, ?_⟩
  · rcases h.row.2 with ⟨h0, _⟩ | ⟨g', cap', cur', e1, e2, e3, e4, e5, e6, e7⟩
    · cases h0
    injection e1 with a1 a2 a3
    injection a1 with a1
    injection a1 with a1
    subst a1 a3
    rw [hcur] at e3
    injection e3 with e3
    injection e3 with e3 _ _
    subst e3
    rw [← cellsE_setArgs ps k p na nc hp]
    refine ⟨by rw [List.length_set]; exact h.row.1, .inr ⟨g, cap, _, rfl, hgl.1, hst, e4, e5, by simp [e6], ?_⟩⟩
    rw [Array.toList_setIfInBounds, ← e7, List.take_set]
  · rw [← h.evs]
    apply List.ext_getElem?
    intro i
    rw [List.getElem?_map, List.getElem?_map]
    by_cases e : i = k
    · subst e
      rw [List.getElem?_set_self hk, hp]; rfl
    · rw [List.getElem?_set_ne (Ne.symm e)]
  · intro i q hq hi
    rcases get i q hq with ⟨rfl, rfl⟩ | ⟨hne, hq⟩
    · exact own_base hv hlo
    · exact own_grown (h.done i q hq (by omega)) hg (fun j hj e => by
        injection e with e
        subst e
        cases hqa : q.2.1 with
        | none => rw [hqa] at hj; simp [Value.ownBlock] at hj
        | some ad =>
          rw [hqa] at hj
          simp [Value.ownBlock] at hj
          subst hj
          exact (h.apart2 i q hq (by omega) ad hqa).2 rfl)
  · intro i q hq hi
    rcases get i q hq with ⟨rfl, rfl⟩ | ⟨hne, hq⟩
    · omega
    · obtain ⟨r1, r2⟩ := h.rest i q hq (by omega)
      exact ⟨r1.grown hg (fun hp0 ad e eg => by injection eg with eg; have := r2 hp0 ad e; omega), r2⟩
  · intro i q hq hi ad e
    rcases get i q hq with ⟨rfl, rfl⟩ | ⟨hne, hq⟩
    · have h1 := hna ad e
      refine ⟨fun hc => ?_, fun hc => ?_⟩
      · have := (World.ownsRow.lt h.ctx _ hc).2; omega
      · simp [Value.ownBlock] at hc; omega
    · exact h.apart2 i q hq (by omega) ad e
end Go.Proofs.Ytpbnmbeedjhloaa.Trc
