/-
  Rows of events appended to a row of the call's own; slices.Clone of a row of events.
-/
import Derived.Test.YtpbnmbeedjhloaaTrcD
import Derived.Maps.AppendAt
import Derived.Laws.AppendOwnNone
import Derived.Great.BuildSlice
namespace Go.Proofs.Ytpbnmbeedjhloaa.Trc
open Go.RowKit Go.Maps
set_option linter.unusedVariables false

/-- Events, and where their arguments lie. -/
def cellsE : List (Ev × (Option Addr × Nat)) → List Value
  | [] => []
  | p :: l => cellE p.1 p.2.1 p.2.2 ++ cellsE l
theorem cellsE_append : ∀ l m, cellsE (l ++ m) = cellsE l ++ cellsE m
  | [], m => rfl
  | p :: l, m => by show cellE p.1 p.2.1 p.2.2 ++ cellsE (l ++ m) = _; rw [cellsE_append l m]; rfl
theorem cellsE_length : ∀ l, (cellsE l).length = l.length * 3
  | [] => rfl
  | p :: l => by
    show (cellE p.1 p.2.1 p.2.2 ++ cellsE l).length = _
    rw [List.length_append, cellsE_length l, List.length_cons]
    show 3 + l.length * 3 = (l.length + 1) * 3
    omega
theorem cellsE_get : ∀ {l : List (Ev × (Option Addr × Nat))} {i k : Nat} {p : Ev × (Option Addr × Nat)}, l[i]? = some p → k < 3 → (cellsE l)[i * 3 + k]? = (cellE p.1 p.2.1 p.2.2)[k]?
  | [], i, k, p, h, _ => by simp at h
  | q :: l, 0, k, p, h, hk => by
    obtain rfl : q = p := by simpa using h
    show (cellE q.1 q.2.1 q.2.2 ++ cellsE l)[0 * 3 + k]? = _
    rw [Nat.zero_mul, Nat.zero_add, List.getElem?_append_left (by show k < 3; exact hk)]
  | q :: l, i + 1, k, p, h, hk => by
    show (cellE q.1 q.2.1 q.2.2 ++ cellsE l)[(i + 1) * 3 + k]? = _
    rw [List.getElem?_append_right (by show 3 ≤ _; omega), show (i + 1) * 3 + k - (cellE q.1 q.2.1 q.2.2).length = i * 3 + k by show (i + 1) * 3 + k - 3 = _; omega]
    exact cellsE_get (by simpa using h) hk
theorem cellE_one (x : Ev) (na : Option Addr) (nc : Nat) : ∀ u ∈ cellE x na nc, u.oneCell' = true := by
  intro u hu
  simp [cellE] at hu
  rcases hu with rfl | rfl | rfl <;> rfl
theorem cellsE_one : ∀ l, ∀ u ∈ cellsE l, u.oneCell' = true
  | [], u, h => by cases h
  | p :: l, u, h => by
    rcases List.mem_append.1 h with h | h
    · exact cellE_one _ _ _ u h
    · exact cellsE_one l u h

theorem own_below {w w' : World} {base : Nat} {e : TypeId} {s n : Nat} {v : Value} {xs : List Value} (h : w.ownsRow base e s v n xs) (b : Below w.heap.size w w') : w'.ownsRow base e s v n xs := by
  refine ⟨h.1, ?_⟩
  rcases h.2 with h | ⟨g, cap, cur, e1, e2, e3, r⟩
  · exact .inl h
  · exact .inr ⟨g, cap, cur, e1, e2, (b.block g (Array.getElem?_eq_some_iff.1 e3).1).trans e3, r⟩
theorem WordsAt.grown {w w' : World} {row : Option Nat} {a : Option Addr} {len cap : Nat} {zs : List Int} (h : WordsAt w a len cap zs) (g : w.grownBy w' row) (hr : 0 < len → ∀ ad, a = some ad → row ≠ some ad.block) : WordsAt w' a len cap zs :=
  ⟨h.size, h.le, h.fit, fun hp => by
    obtain ⟨b', o, e, hc⟩ := h.here hp
    exact ⟨b', o, e, fun j z hz => g.cell (hc j z hz) (Ne.symm (by have := hr hp _ e; exact this))⟩, h.nilc⟩
theorem WordsAt.lt {w : World} {a : Option Addr} {len cap : Nat} {zs : List Int} (h : WordsAt w a len cap zs) (hp : 0 < len) (ad : Addr) (e : a = some ad) : ad.block < w.heap.size := by
  obtain ⟨b', o, e', hc⟩ := h.here hp
  rw [e] at e'
  injection e' with e'
  subst e'
  have : 0 < zs.length := by rw [← h.size]; exact hp
  exact lt_of_cell (hc 0 _ (List.getElem?_eq_getElem this))

/-- A slice of events that the call itself has made; their arguments lie in memory that was there. -/
structure OwnE (base : Nat) (w : World) (v : Value) (ps : List (Ev × (Option Addr × Nat))) : Prop where
  row : w.ownsRow base 79 3 v ps.length (cellsE ps)
  args : ∀ p ∈ ps, WordsAt w p.2.1 p.1.args.length p.2.2 p.1.args
  old : ∀ p ∈ ps, 0 < p.1.args.length → ∀ ad, p.2.1 = some ad → ad.block < base
theorem OwnE.below {base : Nat} {w w' : World} {v : Value} {ps : List (Ev × (Option Addr × Nat))} (h : OwnE base w v ps) (b : Below w.heap.size w w') : OwnE base w' v ps :=
  ⟨own_below h.row b, fun p hp => (h.args p hp).below b, h.old⟩
theorem OwnE.evs {base : Nat} {w : World} {v : Value} {ps : List (Ev × (Option Addr × Nat))} (h : OwnE base w v ps) : ∃ a cap, v = .slice a ps.length cap ∧ EvsAt w a ps.length cap (ps.map (·.1)) := by
  rcases h.row.2 with ⟨rfl, h0⟩ | ⟨g, cap, cur, rfl, e2, e3, e4, e5, e6, e7⟩
  · exact ⟨none, 0, by rw [h0], by rw [h0]; exact ⟨by simp [h0], Nat.le_refl _, by omega, fun h => absurd h (by omega), fun _ => rfl⟩⟩
  · refine ⟨_, cap, rfl, ⟨by simp, e4, by unfold maxLen at e5; omega, fun _ => ⟨g, 0, rfl, fun i x hx => ?_⟩, fun h => by cases h⟩⟩
    rw [List.getElem?_map] at hx
    cases hq : ps[i]? with
    | none => rw [hq] at hx; cases hx
    | some q =>
      rw [hq] at hx
      obtain rfl : q.1 = x := by simpa using hx
      refine ⟨q.2.1, q.2.2, ?_, h.args q (List.mem_of_getElem? hq)⟩
      intro k u hu
      have hk : k < 3 := (List.getElem?_eq_some_iff.1 hu).1
      have hi : i < ps.length := (List.getElem?_eq_some_iff.1 hq).1
      have h1 := cellsE_get hq hk
      rw [← e7, List.getElem?_take_of_lt (by omega), Array.getElem?_toList] at h1
      simp only [World.cell?, e3, Nat.zero_add]
      rw [h1]; exact hu

theorem with_choice {α β : Type} : ∀ (l : List α) (R : Nat → α → β → Prop), (∀ i x, l[i]? = some x → ∃ q, R i x q) → ∃ ps : List (α × β), ps.map (·.1) = l ∧ ∀ i p, ps[i]? = some p → l[i]? = some p.1 ∧ R i p.1 p.2
  | [], R, h => ⟨[], rfl, fun i p hp => by simp at hp⟩
  | x :: l, R, h => by
    obtain ⟨q, hq⟩ := h 0 x rfl
    obtain ⟨ps, h1, h2⟩ := with_choice l (fun i => R (i + 1)) (fun i y hy => h (i + 1) y (by simpa using hy))
    refine ⟨(x, q) :: ps, by rw [List.map_cons, h1], fun i p hp => ?_⟩
    cases i with
    | zero => obtain rfl : (x, q) = p := by simpa using hp
              exact ⟨rfl, hq⟩
    | succ i =>
      have := h2 i p (by simpa using hp)
      exact ⟨by simpa using this.1, this.2⟩
theorem EvsAt.parts {W : World} {b o len cap : Nat} {es : List Ev} (h : EvsAt W (some ⟨b, o, none⟩) len cap es) :
    ∃ ps : List (Ev × (Option Addr × Nat)), ps.map (·.1) = es ∧ (∀ j u, (cellsE ps)[j]? = some u → W.cell? ((⟨b, o, none⟩ : Addr).add j) = some u) ∧ ∀ p ∈ ps, WordsAt W p.2.1 p.1.args.length p.2.2 p.1.args := by
  obtain ⟨ps, hmap, hps⟩ := with_choice es (fun i x (q : Option Addr × Nat) => W.rangeAt b (o + i * 3) (cellE x q.1 q.2) ∧ WordsAt W q.1 x.args.length q.2 x.args) (fun i x hx => by
    obtain ⟨b', o', e, hc⟩ := h.here (by rw [h.size]; have := (List.getElem?_eq_some_iff.1 hx).1; omega)
    injection e with e
    injection e with e1 e2
    subst e1 e2
    obtain ⟨na, nc, h1, h2⟩ := hc i _ hx
    exact ⟨(na, nc), h1, h2⟩)
  refine ⟨ps, hmap, fun j u hu => ?_, fun p hp => ?_⟩
  · have hj : j < (cellsE ps).length := (List.getElem?_eq_some_iff.1 hu).1
    rw [cellsE_length] at hj
    have hi : j / 3 < ps.length := by omega
    have h3 := (hps (j / 3) _ (List.getElem?_eq_getElem hi)).2.1
    have h4 := cellsE_get (List.getElem?_eq_getElem hi) (show j % 3 < 3 by omega)
    rw [show j / 3 * 3 + j % 3 = j by omega, hu] at h4
    have h5 := h3 (j % 3) u h4.symm
    rw [Addr.add_mid]
    rw [show o + j = o + j / 3 * 3 + j % 3 by omega]
    exact h5
  · obtain ⟨i, hi⟩ := List.mem_iff_getElem?.1 hp
    exact (hps i p hi).2.2

theorem info_evt : ∃ i, Try.prog.info? 79 = some i ∧ i.zero = some (.agg #[.int .i64 0, .slice none 0 0, .int .u64 0]) ∧ i.size = 3 ∧ i.bytes = 40 := by
  have h : (Try.prog.info? 79).map (fun i => (i.zero, i.size, i.bytes)) = some (some (.agg #[.int .i64 0, .slice none 0 0, .int .u64 0]), 3, 40) := by kernel_rfl
  cases hi : Try.prog.info? 79 with
  | none => rw [hi] at h; simp at h
  | some i => rw [hi] at h; simp at h; exact ⟨i, rfl, h.1, h.2.1, h.2.2⟩

/-- append(s, x...): s the call's own, x a row that was there. -/
theorem wpList_append_evs {ops : Array Oper} {rest : List Oper} {o : Oper} {a : Act} {Q : Exit → Act → World → Prop} {w W0 : World} (hgd : o.guard = none) (s x : Operand)
    (ho : o.op = .call { callee := .builtin .append, args := #[s, x], argTypes := #[74, 74] })
    (v : Value) (ps : List (Ev × (Option Addr × Nat))) (hs : a.eval s = v) (hown : OwnE W0.heap.size w v ps) (ta : Option Addr) (tc : Nat) (es : List Ev) (hx : a.eval x = .slice ta es.length tc) (hE : EvsAt W0 ta es.length tc es) (hB : Below W0.heap.size W0 w)
    (hfew : ps.length + es.length ≤ 10000)
    (h : ∀ v' w' qs, qs.map (·.1) = es → OwnE W0.heap.size w' v' (ps ++ qs) → w.grownBy w' v.ownBlock → (∀ j, v.ownBlock = some j → W0.heap.size ≤ j) → wpList Try.prog ops Q rest (a.put o.dst v') w') : wpList Try.prog ops Q (o :: rest) a w := by
  obtain ⟨ti, i1, i2, i3, i4⟩ := info_evt
  have hlt : ∀ j, v.ownBlock = some j → W0.heap.size ≤ j := fun j hj => (World.ownsRow.lt hown.row j hj).1
  cases ta with
  | none =>
    have h0 := hE.nilc rfl
    have hl := hE.le
    have hl0 : es.length = 0 := by omega
    obtain rfl : es = [] := List.eq_nil_of_length_eq_zero hl0
    subst h0
    refine wpList_append_own_none hgd s x 74 ho W0.heap.size 79 ti 3 Try.underlying74 i1 v ps.length (cellsE ps) hs hown.row hx ?_
    exact h v w [] rfl (by rw [List.append_nil]; exact hown) ⟨rfl, rfl, rfl, Nat.le_refl _, fun _ _ _ => rfl⟩ hlt
  | some ad =>
    by_cases h0 : es.length = 0
    · obtain rfl : es = [] := List.eq_nil_of_length_eq_zero h0
      refine wpList_append_own_at _ hgd s x 74 ho W0.heap.size 79 ti _ 3 40 Try.underlying74 i1 i2 i3 i4 rfl (by decide) v ps.length (cellsE ps) hs hown.row ad 0 tc [] hx rfl (fun j u hu => by simp at hu) (fun u hu => by cases hu) (by unfold maxLen; simp at hfew; omega) (by simp at hfew; omega) hB.size ?_
      intro v' w' hr hg hn hat
      refine h v' w' [] rfl ⟨?_, fun p hp => ?_, fun p hp => ?_⟩ hg hlt
      · rw [List.append_nil] at hr ⊢; exact hr
      · rw [List.append_nil] at hp
        exact (hown.args p hp).grown hg (fun hp0 ad' e hb => by have := hlt _ hb; have := hown.old p hp hp0 ad' e; omega)
      · rw [List.append_nil] at hp; exact hown.old p hp
    · obtain ⟨b, off, e, _⟩ := hE.here (by omega)
      injection e with e
      subst e
      obtain ⟨qs, hq1, hq2, hq3⟩ := hE.parts
      have hql : qs.length = es.length := by rw [← hq1, List.length_map]
      refine wpList_append_own_at _ hgd s x 74 ho W0.heap.size 79 ti _ 3 40 Try.underlying74 i1 i2 i3 i4 rfl (by decide) v ps.length (cellsE ps) hs hown.row ⟨b, off, none⟩ es.length tc (cellsE qs) hx (by rw [cellsE_length, hql]) (fun j u hu => ?_) (cellsE_one qs) (by unfold maxLen; omega) (by omega) hB.size ?_
      · have := hq2 j u hu
        rw [Addr.add_mid] at this ⊢
        exact (hB.cell (p := ⟨b, off + j, none⟩) (lt_of_cell this)).trans this
      intro v' w' hr hg hn hat
      refine h v' w' qs hq1 ⟨?_, fun p hp => ?_, fun p hp hp0 ad' e => ?_⟩ hg hlt
      · rw [List.length_append, cellsE_append, hql]; exact hr
      · rcases List.mem_append.1 hp with hp | hp
        · exact (hown.args p hp).grown hg (fun hp0 ad' e hb => by have := hlt _ hb; have := hown.old p hp hp0 ad' e; omega)
        · exact ((hq3 p hp).below hB).grown hg (fun hp0 ad' e hb => by have := hlt _ hb; have := (hq3 p hp).lt hp0 ad' e; omega)
      · rcases List.mem_append.1 hp with hp | hp
        · exact hown.old p hp hp0 ad' e
        · exact (hq3 p hp).lt hp0 ad' e
end Go.Proofs.Ytpbnmbeedjhloaa.Trc
