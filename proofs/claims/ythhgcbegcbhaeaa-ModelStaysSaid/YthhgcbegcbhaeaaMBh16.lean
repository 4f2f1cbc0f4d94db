/-
  Several texts in one: OrdL, TrcAa, TrcP.
-/
import Derived.Test.YthhgcbegcbhaeaaMBh05
import Derived.Test.YthhgcbegcbhaeaaRows
import Derived.Test.YthhgcbegcbhaeaaMBh02
import Derived.WalkKit
import Derived.WalkSpells
import Derived.WalkLawsBesides
import Derived.Lib.Hide
import Derived.Handy
import Derived.BigQuiet
import Derived.Deep.QuietTactic
import Derived.Deep.RegionHeld3
import Derived.Deep.MidRow
import Derived.Maps.AppendAt
import Derived.Laws.AppendOwnNone
import Derived.Great.BuildSlice
set_option linter.unusedVariables false
set_option linter.unusedSimpArgs false
set_option linter.unnecessarySimpa false
namespace Go.Proofs.Ythhgcbegcbhaeaa
open Go
set_option linter.unusedVariables false
section
variable {P : Program} {ops : Array Oper} {Q : Exit → Act → World → Prop} {md : Region.Mode}

/-- What is known of a region on its way: the world is told by which operations are done. -/
structure InvL (ops : Array Oper) (a0 : Act) (S : (Nat → Bool) → World → Prop) (R : Nat → Value → Prop) (l : Array Bool) (a : Act) (w : World) : Prop where
  s : S (fun i => l.getD i true) w
  defers : a.defers = a0.defers
  size : a.tmps.size = a0.tmps.size
  rest : ∀ j, (∀ (i : Nat) (o : Oper), ops[i]? = some o → o.dst ≠ some j) → a.tmps.getD j undef = a0.tmps.getD j undef
  done : ∀ (i : Nat) (o : Oper), ops[i]? = some o → l.getD i true = true → R i (own o a)

theorem wp_region_invl {id : Nat} {a0 : Act} {w0 : World} (S : (Nat → Bool) → World → Prop) (R : Nat → Value → Prop) (hm : P.follows .mixedOrders = true)
    (hback : ∀ (i : Nat) (o : Oper), ops[i]? = some o → ∀ e ∈ o.after, Region.binds .any e = true → e.on < i)
    (hdst : ∀ (i j : Nat) (o o' : Oper) (d : Nat), ops[i]? = some o → ops[j]? = some o' → o.dst = some d → o'.dst = some d → i = j)
    (hin : ∀ (i : Nat) (o : Oper) (d : Nat), ops[i]? = some o → o.dst = some d → d < a0.tmps.size)
    (h0 : ∀ fl : Nat → Bool, (∀ i, i < ops.size → fl i = false) → S fl { w0 with drawn := w0.drawn + 1 })
    (hop : ∀ (i : Nat) (o : Oper) (a : Act) (w : World) (fl : Nat → Bool), ops[i]? = some o → S fl w → fl i = false → a.defers = a0.defers → a.tmps.size = a0.tmps.size → (∀ j, (∀ (i : Nat) (o : Oper), ops[i]? = some o → o.dst ≠ some j) → a.tmps.getD j undef = a0.tmps.getD j undef) →
      (∀ e ∈ o.after, Region.binds .any e = true → fl e.on = true ∧ ∀ (o' : Oper), ops[e.on]? = some o' → R e.on (own o' a)) →
      wpOp P ops Q i (fun a' w' => ∃ v, a' = a.put o.dst v ∧ R i (own o a') ∧ S (fun j => if j = i then true else fl j) w') a w)
    (hq : ∀ (u : Nat → Value) (w' : World) (fl : Nat → Bool), (∀ i, i < ops.size → fl i = true) → S fl w' → (∀ (i : Nat) (o : Oper), ops[i]? = some o → R i (ownU o u)) → Q .normal ⟨putAll a0.tmps (outs ops u), a0.defers⟩ w') :
    (Code.region id ops true).wp P Q a0 w0 := by
  refine wp_region_any hm ?_
  refine wpAny_inv (InvL ops a0 S R) hback ?_ ?_ ops.size _ _ _ (by simp) ⟨h0 _ (fun i hi => by simp [Array.getD_eq_getD_getElem?, hi]), rfl, rfl, fun _ _ => rfl, ?_⟩ ?_
  · intro l a w hI hl
    have e : a.tmps = putAll a0.tmps (outs ops fun d => a.tmps.getD d undef) := by
      apply Array.ext_getElem?
      intro j
      by_cases hj : j < a0.tmps.size
      · by_cases hd : ∃ (i : Nat) (o : Oper), ops[i]? = some o ∧ o.dst = some j
        · obtain ⟨i, o, ho, hd⟩ := hd
          rw [putAll_mem (fun d => a.tmps.getD d undef) _ _ j hj]
          · have hj' : j < a.tmps.size := by rw [hI.size]; exact hj
            rw [Array.getElem?_eq_getElem hj']
            simp [Array.getD_eq_getD_getElem?, Array.getElem?_eq_getElem hj']
          · intro p hp
            unfold outs at hp
            rw [List.mem_filterMap] at hp
            obtain ⟨i', _, he⟩ := hp
            rw [Option.map_eq_some_iff] at he
            obtain ⟨d, _, rfl⟩ := he
            rfl
          · refine ⟨(j, a.tmps.getD j undef), ?_, rfl⟩
            unfold outs
            rw [List.mem_filterMap]
            exact ⟨i, List.mem_range.2 (Array.getElem?_eq_some_iff.1 ho).1, by rw [ho]; simp [hd]⟩
        · have hr := hI.rest j (fun i o ho hd' => hd ⟨i, o, ho, hd'⟩)
          rw [putAll_other]
          · have hj' : j < a.tmps.size := by rw [hI.size]; exact hj
            rw [Array.getElem?_eq_getElem hj', Array.getElem?_eq_getElem hj]
            simp only [Array.getD_eq_getD_getElem?, Array.getElem?_eq_getElem hj', Array.getElem?_eq_getElem hj, Option.getD_some] at hr
            rw [hr]
          · intro p hp e
            unfold outs at hp
            rw [List.mem_filterMap] at hp
            obtain ⟨i', _, he⟩ := hp
            rw [Option.map_eq_some_iff] at he
            obtain ⟨d, hd', rfl⟩ := he
            rw [Option.bind_eq_some_iff] at hd'
            obtain ⟨o, ho, hd'⟩ := hd'
            exact hd ⟨i', o, ho, by rw [hd', ← e]⟩
      · rw [Array.getElem?_eq_none (by rw [hI.size]; omega), Array.getElem?_eq_none (by rw [putAll_size]; omega)]
    have ea : a = ⟨putAll a0.tmps (outs ops fun d => a.tmps.getD d undef), a0.defers⟩ := by
      rw [← e, ← hI.defers]
    have hu := hq (fun d => a.tmps.getD d undef) w _ hl hI.s (fun i o ho => hI.done i o ho (hl i (Array.getElem?_eq_some_iff.1 ho).1))
    rw [ea]
    exact hu
  · intro l a w i o hs hI ho hf ha
    have hi : i < l.size := by rw [hs]; exact (Array.getElem?_eq_some_iff.1 ho).1
    have hup : ∀ (e : Nat), l.getD e false = true → l.getD e true = true := fun e he => by
      by_cases hlt : e < l.size
      · simp only [Array.getD_eq_getD_getElem?, Array.getElem?_eq_getElem hlt, Option.getD_some] at he ⊢
        exact he
      · simp only [Array.getD_eq_getD_getElem?]
        rw [Array.getElem?_eq_none (by omega)]; rfl
    have hfi : l.getD i true = false := by
      simp only [Array.getD_eq_getD_getElem?, Array.getElem?_eq_getElem hi, Option.getD_some] at hf ⊢
      exact hf
    refine wpOp_mono ?_ (hop i o a w _ ho hI.s hfi hI.defers hI.size hI.rest (fun e he hb => ⟨hup _ (ha e he hb), fun o' ho' => hI.done e.on o' ho' (hup _ (ha e he hb))⟩))
    rintro a' w' ⟨v, rfl, hR, hS⟩
    have hS' : S (fun j => (l.setIfInBounds i true).getD j true) w' := by
      have e : (fun j => (l.setIfInBounds i true).getD j true) = fun j => if j = i then true else l.getD j true := by
        funext j
        rw [getD_set l i j hi]
      rw [e]; exact hS
    cases hod : o.dst with
    | none =>
      refine ⟨hS', hI.defers, hI.size, hI.rest, fun j oj hj hl => ?_⟩
      rw [hod] at hR
      by_cases hji : j = i
      · subst hji
        rw [ho] at hj; cases hj
        exact hR
      · rw [getD_set l i j hi, if_neg hji] at hl
        exact hI.done j oj hj hl
    | some d0 =>
      have hd0 : d0 < a.tmps.size := by rw [hI.size]; exact hin i o d0 ho hod
      have hput := put_getD a d0 v hd0
      refine ⟨hS', hI.defers, by show (a.tmps.setIfInBounds d0 v).size = _; simp [hI.size], fun j hj => ?_, fun j oj hj hl => ?_⟩
      · rw [hput j, if_neg (fun e => hj i o ho (by rw [hod, e]))]
        exact hI.rest j hj
      · rw [hod] at hR
        by_cases hji : j = i
        · subst hji
          rw [ho] at hj; cases hj
          exact hR
        · rw [getD_set l i j hi, if_neg hji] at hl
          have h1 : own oj (a.put (some d0) v) = own oj a := by
            unfold own
            cases hdj : oj.dst with
            | none => rfl
            | some d =>
              show (a.put (some d0) v).tmps.getD d undef = a.tmps.getD d undef
              rw [hput d, if_neg (fun e => hji (hdst j i oj o d hj ho hdj (by rw [hod, e])))]
          rw [h1]
          exact hI.done j oj hj hl
  · intro i o ho hl
    have hi := (Array.getElem?_eq_some_iff.1 ho).1
    simp [Array.getD_eq_getD_getElem?, hi] at hl
  · have : ∀ (l : Array Bool) n, unl l n ≤ n := fun l n => by
      induction n with
      | zero => exact Nat.le_refl _
      | succ n ih => unfold unl; split <;> omega
    exact this _ _
end
end Go.Proofs.Ythhgcbegcbhaeaa

namespace Go.Proofs.Ythhgcbegcbhaeaa.Trc
open Go.RowKit
set_option linter.unusedVariables false

theorem retB {a b : Bool} (h : a = b) : Ending.returned (.bool a) = .returned (.bool b) := by rw [h]
theorem below_drewN {B : Nat} {W w : World} (h : Below B W w) : ∀ n, Below B W (w.drewN n)
  | 0 => h
  | n + 1 => (below_drewN h n).drew
theorem lt_of_cell {w : World} {b o : Nat} {v : Value} (h : w.cell? ⟨b, o, none⟩ = some v) : b < w.heap.size := World.block_lt_of_cell? w _ h
theorem rangeAt_below {W w : World} {b o : Nat} {cs : List Value} (h : Below W.heap.size W w) (hc : W.rangeAt b o cs) : w.rangeAt b o cs := fun j v hv => by
  have := hc j v hv
  exact (h.cell (p := ⟨b, o + j, none⟩) (lt_of_cell this)).trans this

/-- A row of numbers of 64 bits that can be read. -/
structure WordsAt (W : World) (a : Option Addr) (len cap : Nat) (zs : List Int) : Prop where
  size : len = zs.length
  le : len ≤ cap
  fit : cap ≤ 9223372036854775807
  here : 0 < len → ∃ b o, a = some ⟨b, o, none⟩ ∧ ∀ j z, zs[j]? = some z → W.cell? ⟨b, o + j, none⟩ = some (.int .u64 z)
  nilc : a = none → cap = 0
theorem WordsAt.below {W w : World} {a : Option Addr} {len cap : Nat} {zs : List Int} (h : WordsAt W a len cap zs) (b : Below W.heap.size W w) : WordsAt w a len cap zs :=
  ⟨h.size, h.le, h.fit, fun hp => by
    obtain ⟨b', o, e, hc⟩ := h.here hp
    exact ⟨b', o, e, fun j z hz => (b.cell (p := ⟨b', o + j, none⟩) (lt_of_cell (hc j z hz))).trans (hc j z hz)⟩, h.nilc⟩
theorem WordsAt.take {W : World} {a : Option Addr} {len cap : Nat} {zs : List Int} (h : WordsAt W a len cap zs) {n : Nat} (hn : n ≤ len) : WordsAt W a n cap (zs.take n) :=
  ⟨by rw [List.length_take, ← h.size]; omega, Nat.le_trans hn h.le, h.fit, fun hp => by
    obtain ⟨b', o, e, hc⟩ := h.here (by omega)
    refine ⟨b', o, e, fun j z hz => hc j z ?_⟩
    rw [List.getElem?_take] at hz
    split at hz
    · exact hz
    · exact absurd hz (by simp), h.nilc⟩

/-- An event. -/
structure Ev where
  num : Int
  args : List Int
  ans : Int
instance instEv : DecidableEq Ev := fun x y => decidable_of_iff (x.num = y.num ∧ x.args = y.args ∧ x.ans = y.ans) ⟨fun ⟨a, b, c⟩ => by cases x; cases y; simp only at a b c; subst a b c; rfl, fun e => by subst e; exact ⟨rfl, rfl, rfl⟩⟩
/-- An event's three cells; where its arguments lie. -/
def cellE (x : Ev) (na : Option Addr) (nc : Nat) : List Value := [.int .i64 x.num, .slice na x.args.length nc, .int .u64 x.ans]
/-- A row of events that can be read. -/
structure EvsAt (W : World) (a : Option Addr) (len cap : Nat) (es : List Ev) : Prop where
  size : len = es.length
  le : len ≤ cap
  fit : cap ≤ 9223372036854775807
  here : 0 < len → ∃ b o, a = some ⟨b, o, none⟩ ∧ ∀ i x, es[i]? = some x → ∃ na nc, W.rangeAt b (o + i * 3) (cellE x na nc) ∧ WordsAt W na x.args.length nc x.args
  nilc : a = none → cap = 0
theorem EvsAt.below {W w : World} {a : Option Addr} {len cap : Nat} {es : List Ev} (h : EvsAt W a len cap es) (b : Below W.heap.size W w) : EvsAt w a len cap es :=
  ⟨h.size, h.le, h.fit, fun hp => by
    obtain ⟨b', o, e, hc⟩ := h.here hp
    refine ⟨b', o, e, fun i x hx => ?_⟩
    obtain ⟨na, nc, h1, h2⟩ := hc i x hx
    exact ⟨na, nc, rangeAt_below b h1, h2.below b⟩, h.nilc⟩
theorem EvsAt.take {W : World} {a : Option Addr} {len cap : Nat} {es : List Ev} (h : EvsAt W a len cap es) {n : Nat} (hn : n ≤ len) : EvsAt W a n cap (es.take n) :=
  ⟨by rw [List.length_take, ← h.size]; omega, Nat.le_trans hn h.le, h.fit, fun hp => by
    obtain ⟨b', o, e, hc⟩ := h.here (by omega)
    refine ⟨b', o, e, fun j z hz => hc j z ?_⟩
    rw [List.getElem?_take] at hz
    split at hz
    · exact hz
    · exact absurd hz (by simp), h.nilc⟩
theorem EvsAt.nil (W : World) : EvsAt W none 0 0 [] := ⟨rfl, Nat.le_refl _, by omega, fun h => absurd h (by decide), fun _ => rfl⟩
theorem ev_cells {W : World} {b o : Nat} {x : Ev} {na : Option Addr} {nc : Nat} (h : W.rangeAt b o (cellE x na nc)) :
    W.cell? ⟨b, o, none⟩ = some (.int .i64 x.num) ∧ W.cell? ⟨b, o + 1, none⟩ = some (.slice na x.args.length nc) ∧ W.cell? ⟨b, o + 2, none⟩ = some (.int .u64 x.ans) := ⟨h 0 _ rfl, h 1 _ rfl, h 2 _ rfl⟩

/-- Is a row the other one's beginning? -/
def preB {α : Type} [DecidableEq α] (l m : List α) : Bool := decide (l = m.take l.length)
theorem preB_iff {α : Type} [DecidableEq α] {l m : List α} : preB l m = true ↔ ∃ r, m = l ++ r := by
  unfold preB
  rw [decide_eq_true_iff]
  constructor
  · intro h
    exact ⟨m.drop l.length, by have := List.take_append_drop l.length m; rw [← h] at this; exact this.symm⟩
  · rintro ⟨r, rfl⟩
    simp
theorem preB_long {α : Type} [DecidableEq α] {l m : List α} (h : m.length < l.length) : preB l m = false := by
  cases hp : preB l m
  · rfl
  · obtain ⟨r, rfl⟩ := preB_iff.1 hp
    simp at h; omega
theorem preB_same {α : Type} [DecidableEq α] {l m : List α} (h : l.length = m.length) : preB l m = decide (l = m) := by
  unfold preB; rw [h, List.take_length]

end Go.Proofs.Ythhgcbegcbhaeaa.Trc

namespace Go.Proofs.Ythhgcbegcbhaeaa.Trc
open Go.RowKit Go.Maps
set_option linter.unusedVariables false

/-- Events, and where their arguments lie. -/
def cellsE : List (Ev × (Option Addr × Nat)) → List Value
  | [] => []
  | p :: l => cellE p.1 p.2.1 p.2.2 ++ cellsE l
theorem cellsE_append : ∀ l m, cellsE (l ++ m) = cellsE l ++ cellsE m
  | [], m => rfl
  | p :: l, m => by show cellE p.1 p.2.1 p.2.2 ++ cellsE (l ++ m) = _; rw [cellsE_append l m]; rfl
theorem cellsE_length : ∀ l, (cellsE l).length = l.length * 3
  | [] => rfl
  | p :: l => by
    show (cellE p.1 p.2.1 p.2.2 ++ cellsE l).length = _
    rw [List.length_append, cellsE_length l, List.length_cons]
    show 3 + l.length * 3 = (l.length + 1) * 3
    omega
theorem cellsE_get : ∀ {l : List (Ev × (Option Addr × Nat))} {i k : Nat} {p : Ev × (Option Addr × Nat)}, l[i]? = some p → k < 3 → (cellsE l)[i * 3 + k]? = (cellE p.1 p.2.1 p.2.2)[k]?
  | [], i, k, p, h, _ => by simp at h
  | q :: l, 0, k, p, h, hk => by
    obtain rfl : q = p := by simpa using h
    show (cellE q.1 q.2.1 q.2.2 ++ cellsE l)[0 * 3 + k]? = _
    rw [Nat.zero_mul, Nat.zero_add, List.getElem?_append_left (by show k < 3; exact hk)]
  | q :: l, i + 1, k, p, h, hk => by
    show (cellE q.1 q.2.1 q.2.2 ++ cellsE l)[(i + 1) * 3 + k]? = _
    rw [List.getElem?_append_right (by show 3 ≤ _; omega), show (i + 1) * 3 + k - (cellE q.1 q.2.1 q.2.2).length = i * 3 + k by show (i + 1) * 3 + k - 3 = _; omega]
    exact cellsE_get (by simpa using h) hk
theorem cellE_one (x : Ev) (na : Option Addr) (nc : Nat) : ∀ u ∈ cellE x na nc, u.oneCell' = true := by
  intro u hu
  simp [cellE] at hu
  rcases hu with rfl | rfl | rfl <;> rfl
theorem cellsE_one : ∀ l, ∀ u ∈ cellsE l, u.oneCell' = true
  | [], u, h => by cases h
  | p :: l, u, h => by
    rcases List.mem_append.1 h with h | h
    · exact cellE_one _ _ _ u h
    · exact cellsE_one l u h

theorem own_below {w w' : World} {base : Nat} {e : TypeId} {s n : Nat} {v : Value} {xs : List Value} (h : w.ownsRow base e s v n xs) (b : Below w.heap.size w w') : w'.ownsRow base e s v n xs := by
  refine ⟨h.1, ?_⟩
  rcases h.2 with h | ⟨g, cap, cur, e1, e2, e3, r⟩
  · exact .inl h
  · exact .inr ⟨g, cap, cur, e1, e2, (b.block g (Array.getElem?_eq_some_iff.1 e3).1).trans e3, r⟩
theorem WordsAt.grown {w w' : World} {row : Option Nat} {a : Option Addr} {len cap : Nat} {zs : List Int} (h : WordsAt w a len cap zs) (g : w.grownBy w' row) (hr : 0 < len → ∀ ad, a = some ad → row ≠ some ad.block) : WordsAt w' a len cap zs :=
  ⟨h.size, h.le, h.fit, fun hp => by
    obtain ⟨b', o, e, hc⟩ := h.here hp
    exact ⟨b', o, e, fun j z hz => g.cell (hc j z hz) (Ne.symm (by have := hr hp _ e; exact this))⟩, h.nilc⟩
theorem WordsAt.lt {w : World} {a : Option Addr} {len cap : Nat} {zs : List Int} (h : WordsAt w a len cap zs) (hp : 0 < len) (ad : Addr) (e : a = some ad) : ad.block < w.heap.size := by
  obtain ⟨b', o, e', hc⟩ := h.here hp
  rw [e] at e'
  injection e' with e'
  subst e'
  have : 0 < zs.length := by rw [← h.size]; exact hp
  exact lt_of_cell (hc 0 _ (List.getElem?_eq_getElem this))

/-- A slice of events that the call itself has made; their arguments lie in memory that was there. -/
structure OwnE (base : Nat) (w : World) (v : Value) (ps : List (Ev × (Option Addr × Nat))) : Prop where
  row : w.ownsRow base 39 3 v ps.length (cellsE ps)
  args : ∀ p ∈ ps, WordsAt w p.2.1 p.1.args.length p.2.2 p.1.args
  old : ∀ p ∈ ps, 0 < p.1.args.length → ∀ ad, p.2.1 = some ad → ad.block < base
theorem OwnE.below {base : Nat} {w w' : World} {v : Value} {ps : List (Ev × (Option Addr × Nat))} (h : OwnE base w v ps) (b : Below w.heap.size w w') : OwnE base w' v ps :=
  ⟨own_below h.row b, fun p hp => (h.args p hp).below b, h.old⟩
theorem OwnE.evs {base : Nat} {w : World} {v : Value} {ps : List (Ev × (Option Addr × Nat))} (h : OwnE base w v ps) : ∃ a cap, v = .slice a ps.length cap ∧ EvsAt w a ps.length cap (ps.map (·.1)) := by
  rcases h.row.2 with ⟨rfl, h0⟩ | ⟨g, cap, cur, rfl, e2, e3, e4, e5, e6, e7⟩
  · exact ⟨none, 0, by rw [h0], by rw [h0]; exact ⟨by simp [h0], Nat.le_refl _, by omega, fun h => absurd h (by omega), fun _ => rfl⟩⟩
  · refine ⟨_, cap, rfl, ⟨by simp, e4, by unfold maxLen at e5; omega, fun _ => ⟨g, 0, rfl, fun i x hx => ?_⟩, fun h => by cases h⟩⟩
    rw [List.getElem?_map] at hx
    cases hq : ps[i]? with
    | none => rw [hq] at hx; cases hx
    | some q =>
      rw [hq] at hx
      obtain rfl : q.1 = x := by simpa using hx
      refine ⟨q.2.1, q.2.2, ?_, h.args q (List.mem_of_getElem? hq)⟩
      intro k u hu
      have hk : k < 3 := (List.getElem?_eq_some_iff.1 hu).1
      have hi : i < ps.length := (List.getElem?_eq_some_iff.1 hq).1
      have h1 := cellsE_get hq hk
      rw [← e7, List.getElem?_take_of_lt (by omega), Array.getElem?_toList] at h1
      simp only [World.cell?, e3, Nat.zero_add]
      rw [h1]; exact hu

theorem with_choice {α β : Type} : ∀ (l : List α) (R : Nat → α → β → Prop), (∀ i x, l[i]? = some x → ∃ q, R i x q) → ∃ ps : List (α × β), ps.map (·.1) = l ∧ ∀ i p, ps[i]? = some p → l[i]? = some p.1 ∧ R i p.1 p.2
  | [], R, h => ⟨[], rfl, fun i p hp => by simp at hp⟩
  | x :: l, R, h => by
    obtain ⟨q, hq⟩ := h 0 x rfl
    obtain ⟨ps, h1, h2⟩ := with_choice l (fun i => R (i + 1)) (fun i y hy => h (i + 1) y (by simpa using hy))
    refine ⟨(x, q) :: ps, by rw [List.map_cons, h1], fun i p hp => ?_⟩
    cases i with
    | zero =>
      obtain rfl : (x, q) = p := by simpa using hp
      exact ⟨rfl, hq⟩
    | succ i =>
      have := h2 i p (by simpa using hp)
      exact ⟨by simpa using this.1, this.2⟩
theorem EvsAt.parts {W : World} {b o len cap : Nat} {es : List Ev} (h : EvsAt W (some ⟨b, o, none⟩) len cap es) :
    ∃ ps : List (Ev × (Option Addr × Nat)), ps.map (·.1) = es ∧ (∀ j u, (cellsE ps)[j]? = some u → W.cell? ((⟨b, o, none⟩ : Addr).add j) = some u) ∧ ∀ p ∈ ps, WordsAt W p.2.1 p.1.args.length p.2.2 p.1.args := by
  obtain ⟨ps, hmap, hps⟩ := with_choice es (fun i x (q : Option Addr × Nat) => W.rangeAt b (o + i * 3) (cellE x q.1 q.2) ∧ WordsAt W q.1 x.args.length q.2 x.args) (fun i x hx => by
    obtain ⟨b', o', e, hc⟩ := h.here (by rw [h.size]; have := (List.getElem?_eq_some_iff.1 hx).1; omega)
    injection e with e
    injection e with e1 e2
    subst e1 e2
    obtain ⟨na, nc, h1, h2⟩ := hc i _ hx
    exact ⟨(na, nc), h1, h2⟩)
  refine ⟨ps, hmap, fun j u hu => ?_, fun p hp => ?_⟩
  · have hj : j < (cellsE ps).length := (List.getElem?_eq_some_iff.1 hu).1
    rw [cellsE_length] at hj
    have hi : j / 3 < ps.length := by omega
    have h3 := (hps (j / 3) _ (List.getElem?_eq_getElem hi)).2.1
    have h4 := cellsE_get (List.getElem?_eq_getElem hi) (show j % 3 < 3 by omega)
    rw [show j / 3 * 3 + j % 3 = j by omega, hu] at h4
    have h5 := h3 (j % 3) u h4.symm
    rw [Addr.add_mid]
    rw [show o + j = o + j / 3 * 3 + j % 3 by omega]
    exact h5
  · obtain ⟨i, hi⟩ := List.mem_iff_getElem?.1 hp
    exact (hps i p hi).2.2

theorem info_evt : ∃ i, Try.prog.info? 39 = some i ∧ i.zero = some (.agg #[.int .i64 0, .slice none 0 0, .int .u64 0]) ∧ i.size = 3 ∧ i.bytes = 40 := by
  have h : (Try.prog.info? 39).map (fun i => (i.zero, i.size, i.bytes)) = some (some (.agg #[.int .i64 0, .slice none 0 0, .int .u64 0]), 3, 40) := by kernel_rfl
  cases hi : Try.prog.info? 39 with
  | none => rw [hi] at h; simp at h
  | some i => rw [hi] at h; simp at h; exact ⟨i, rfl, h.1, h.2.1, h.2.2⟩

/-- append(s, x...): s the call's own, x a row that was there. -/
theorem wpList_append_evs {ops : Array Oper} {rest : List Oper} {o : Oper} {a : Act} {Q : Exit → Act → World → Prop} {w W0 : World} (hgd : o.guard = none) (s x : Operand)
    (ho : o.op = .call { callee := .builtin .append, args := #[s, x], argTypes := #[31, 31] })
    (v : Value) (ps : List (Ev × (Option Addr × Nat))) (hs : a.eval s = v) (hown : OwnE W0.heap.size w v ps) (ta : Option Addr) (tc : Nat) (es : List Ev) (hx : a.eval x = .slice ta es.length tc) (hE : EvsAt W0 ta es.length tc es) (hB : Below W0.heap.size W0 w)
    (hfew : ps.length + es.length ≤ 10000)
    (h : ∀ v' w' qs, qs.map (·.1) = es → OwnE W0.heap.size w' v' (ps ++ qs) → w.grownBy w' v.ownBlock → (∀ j, v.ownBlock = some j → W0.heap.size ≤ j) → wpList Try.prog ops Q rest (a.put o.dst v') w') : wpList Try.prog ops Q (o :: rest) a w := by
  obtain ⟨ti, i1, i2, i3, i4⟩ := info_evt
  have hlt : ∀ j, v.ownBlock = some j → W0.heap.size ≤ j := fun j hj => (World.ownsRow.lt hown.row j hj).1
  cases ta with
  | none =>
    have h0 := hE.nilc rfl
    have hl := hE.le
    have hl0 : es.length = 0 := by omega
    obtain rfl : es = [] := List.eq_nil_of_length_eq_zero hl0
    subst h0
    refine wpList_append_own_none hgd s x 31 ho W0.heap.size 39 ti 3 Try.underlying31 i1 v ps.length (cellsE ps) hs hown.row hx ?_
    exact h v w [] rfl (by rw [List.append_nil]; exact hown) ⟨rfl, rfl, rfl, Nat.le_refl _, fun _ _ _ => rfl⟩ hlt
  | some ad =>
    by_cases h0 : es.length = 0
    · obtain rfl : es = [] := List.eq_nil_of_length_eq_zero h0
      refine wpList_append_own_at _ hgd s x 31 ho W0.heap.size 39 ti _ 3 40 Try.underlying31 i1 i2 i3 i4 rfl (by decide) v ps.length (cellsE ps) hs hown.row ad 0 tc [] hx rfl (fun j u hu => by simp at hu) (fun u hu => by cases hu) (by unfold maxLen; simp at hfew; omega) (by simp at hfew; omega) hB.size ?_
      intro v' w' hr hg hn hat
      refine h v' w' [] rfl ⟨?_, fun p hp => ?_, fun p hp => ?_⟩ hg hlt
      · rw [List.append_nil] at hr ⊢; exact hr
      · rw [List.append_nil] at hp
        exact (hown.args p hp).grown hg (fun hp0 ad' e hb => by have := hlt _ hb; have := hown.old p hp hp0 ad' e; omega)
      · rw [List.append_nil] at hp; exact hown.old p hp
    · obtain ⟨b, off, e, _⟩ := hE.here (by omega)
      injection e with e
      subst e
      obtain ⟨qs, hq1, hq2, hq3⟩ := hE.parts
      have hql : qs.length = es.length := by rw [← hq1, List.length_map]
      refine wpList_append_own_at _ hgd s x 31 ho W0.heap.size 39 ti _ 3 40 Try.underlying31 i1 i2 i3 i4 rfl (by decide) v ps.length (cellsE ps) hs hown.row ⟨b, off, none⟩ es.length tc (cellsE qs) hx (by rw [cellsE_length, hql]) (fun j u hu => ?_) (cellsE_one qs) (by unfold maxLen; omega) (by omega) hB.size ?_
      · have := hq2 j u hu
        rw [Addr.add_mid] at this ⊢
        exact (hB.cell (p := ⟨b, off + j, none⟩) (lt_of_cell this)).trans this
      intro v' w' hr hg hn hat
      refine h v' w' qs hq1 ⟨?_, fun p hp => ?_, fun p hp hp0 ad' e => ?_⟩ hg hlt
      · rw [List.length_append, cellsE_append, hql]; exact hr
      · rcases List.mem_append.1 hp with hp | hp
        · exact (hown.args p hp).grown hg (fun hp0 ad' e hb => by have := hlt _ hb; have := hown.old p hp hp0 ad' e; omega)
        · exact ((hq3 p hp).below hB).grown hg (fun hp0 ad' e hb => by have := hlt _ hb; have := (hq3 p hp).lt hp0 ad' e; omega)
      · rcases List.mem_append.1 hp with hp | hp
        · exact hown.old p hp hp0 ad' e
        · exact (hq3 p hp).lt hp0 ad' e
end Go.Proofs.Ythhgcbegcbhaeaa.Trc
