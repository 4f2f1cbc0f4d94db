/-
  A region that draws its order, by an invariant of the world that is told by which operations are done.
-/
import Derived.Test.YtpbnmbeedjhloaaOrd
namespace Go.Proofs.Ytpbnmbeedjhloaa
open Go
set_option linter.unusedVariables false
section
variable {P : Program} {ops : Array Oper} {Q : Exit → Act → World → Prop} {md : Region.Mode}

/-- What is known of a region on its way: the world is told by which operations are done. -/
structure InvL (ops : Array Oper) (a0 : Act) (S : (Nat → Bool) → World → Prop) (R : Nat → Value → Prop) (l : Array Bool) (a : Act) (w : World) : Prop where
  s : S (fun i => l.getD i true) w
  defers : a.defers = a0.defers
  size : a.tmps.size = a0.tmps.size
  rest : ∀ j, (∀ (i : Nat) (o : Oper), ops[i]? = some o → o.dst ≠ some j) → a.tmps.getD j undef = a0.tmps.getD j undef
  done : ∀ (i : Nat) (o : Oper), ops[i]? = some o → l.getD i true = true → R i (own o a)

theorem wp_region_invl {id : Nat} {a0 : Act} {w0 : World} (S : (Nat → Bool) → World → Prop) (R : Nat → Value → Prop) (hm : P.follows .mixedOrders = true)
    (hback : ∀ (i : Nat) (o : Oper), ops[i]? = some o → ∀ e ∈ o.after, Region.binds .any e = true → e.on < i)
    (hdst : ∀ (i j : Nat) (o o' : Oper) (d : Nat), ops[i]? = some o → ops[j]? = some o' → o.dst = some d → o'.dst = some d → i = j)
    (hin : ∀ (i : Nat) (o : Oper) (d : Nat), ops[i]? = some o → o.dst = some d → d < a0.tmps.size)
    (h0 : ∀ fl : Nat → Bool, (∀ i, i < ops.size → fl i = false) → S fl { w0 with drawn := w0.drawn + 1 })
    (hop : ∀ (i : Nat) (o : Oper) (a : Act) (w : World) (fl : Nat → Bool), ops[i]? = some o → S fl w → fl i = false → a.defers = a0.defers → a.tmps.size = a0.tmps.size → (∀ j, (∀ (i : Nat) (o : Oper), ops[i]? = some o → o.dst ≠ some j) → a.tmps.getD j undef = a0.tmps.getD j undef) →
      (∀ e ∈ o.after, Region.binds .any e = true → fl e.on = true ∧ ∀ (o' : Oper), ops[e.on]? = some o' → R e.on (own o' a)) →
      wpOp P ops Q i (fun a' w' => ∃ v, a' = a.put o.dst v ∧ R i (own o a') ∧ S (fun j => if j = i then true else fl j) w') a w)
    (hq : ∀ (u : Nat → Value) (w' : World) (fl : Nat → Bool), (∀ i, i < ops.size → fl i = true) → S fl w' → (∀ (i : Nat) (o : Oper), ops[i]? = some o → R i (ownU o u)) → Q .normal ⟨putAll a0.tmps (outs ops u), a0.defers⟩ w') :
    (Code.region id ops true).wp P Q a0 w0 := by
  refine wp_region_any hm ?_
  refine wpAny_inv (InvL ops a0 S R) hback ?_ ?_ ops.size _ _ _ (by simp) ⟨h0 _ (fun i hi => by simp [Array.getD_eq_getD_getElem?, hi]), rfl, rfl, fun _ _ => rfl, ?_⟩ ?_
  · intro l a w hI hl
    have e : a.tmps = putAll a0.tmps (outs ops fun d => a.tmps.getD d undef) := by
      apply Array.ext_getElem?
      intro j
      by_cases hj : j < a0.tmps.size
      · by_cases hd : ∃ (i : Nat) (o : Oper), ops[i]? = some o ∧ o.dst = some j
        · obtain ⟨i, o, ho, hd⟩ := hd
          rw [putAll_mem (fun d => a.tmps.getD d undef) _ _ j hj]
          · have hj' : j < a.tmps.size := by rw [hI.size]; exact hj
            rw [Array.getElem?_eq_getElem hj']
            simp [Array.getD_eq_getD_getElem?, Array.getElem?_eq_getElem hj']
          · intro p hp
            unfold outs at hp
            rw [List.mem_filterMap] at hp
            obtain ⟨i', _, he⟩ := hp
            rw [Option.map_eq_some_iff] at he
            obtain ⟨d, _, rfl⟩ := he
            rfl
          · refine ⟨(j, a.tmps.getD j undef), ?_, rfl⟩
            unfold outs
            rw [List.mem_filterMap]
            exact ⟨i, List.mem_range.2 (Array.getElem?_eq_some_iff.1 ho).1, by rw [ho]; simp [hd]⟩
        · have hr := hI.rest j (fun i o ho hd' => hd ⟨i, o, ho, hd'⟩)
          rw [putAll_other]
          · have hj' : j < a.tmps.size := by rw [hI.size]; exact hj
            rw [Array.getElem?_eq_getElem hj', Array.getElem?_eq_getElem hj]
            simp only [Array.getD_eq_getD_getElem?, Array.getElem?_eq_getElem hj', Array.getElem?_eq_getElem hj, Option.getD_some] at hr
            rw [hr]
          · intro p hp e
            unfold outs at hp
            rw [List.mem_filterMap] at hp
            obtain ⟨i', _, he⟩ := hp
            rw [Option.map_eq_some_iff] at he
            obtain ⟨d, hd', rfl⟩ := he
            rw [Option.bind_eq_some_iff] at hd'
            obtain ⟨o, ho, hd'⟩ := hd'
            exact hd ⟨i', o, ho, by rw [hd', ← e]⟩
      · rw [Array.getElem?_eq_none (by rw [hI.size]; omega), Array.getElem?_eq_none (by rw [putAll_size]; omega)]
    have ea : a = ⟨putAll a0.tmps (outs ops fun d => a.tmps.getD d undef), a0.defers⟩ := by
      rw [← e, ← hI.defers]
    have hu := hq (fun d => a.tmps.getD d undef) w _ hl hI.s (fun i o ho => hI.done i o ho (hl i (Array.getElem?_eq_some_iff.1 ho).1))
    rw [ea]
    exact hu
  · intro l a w i o hs hI ho hf ha
    have hi : i < l.size := by rw [hs]; exact (Array.getElem?_eq_some_iff.1 ho).1
    have hup : ∀ (e : Nat), l.getD e false = true → l.getD e true = true := fun e he => by
      by_cases hlt : e < l.size
      · simp only [Array.getD_eq_getD_getElem?, Array.getElem?_eq_getElem hlt, Option.getD_some] at he ⊢
        exact he
      · simp only [Array.getD_eq_getD_getElem?]
        rw [Array.getElem?_eq_none (by omega)]; rfl
    have hfi : l.getD i true = false := by
      simp only [Array.getD_eq_getD_getElem?, Array.getElem?_eq_getElem hi, Option.getD_some] at hf ⊢
      exact hf
    refine wpOp_mono ?_ (hop i o a w _ ho hI.s hfi hI.defers hI.size hI.rest (fun e he hb => ⟨hup _ (ha e he hb), fun o' ho' => hI.done e.on o' ho' (hup _ (ha e he hb))⟩))
    rintro a' w' ⟨v, rfl, hR, hS⟩
    have hS' : S (fun j => (l.setIfInBounds i true).getD j true) w' := by
      have e : (fun j => (l.setIfInBounds i true).getD j true) = fun j => if j = i then true else l.getD j true := by
        funext j
        rw [getD_set l i j hi]
      rw [e]; exact hS
    cases hod : o.dst with
    | none =>
      refine ⟨hS', hI.defers, hI.size, hI.rest, fun j oj hj hl => ?_⟩
      rw [hod] at hR
      by_cases hji : j = i
      · subst hji
        rw [ho] at hj; cases hj
        exact hR
      · rw [getD_set l i j hi, if_neg hji] at hl
        exact hI.done j oj hj hl
    | some d0 =>
      have hd0 : d0 < a.tmps.size := by rw [hI.size]; exact hin i o d0 ho hod
      have hput := put_getD a d0 v hd0
      refine ⟨hS', hI.defers, by show (a.tmps.setIfInBounds d0 v).size = _; simp [hI.size], fun j hj => ?_, fun j oj hj hl => ?_⟩
      · rw [hput j, if_neg (fun e => hj i o ho (by rw [hod, e]))]
        exact hI.rest j hj
      · rw [hod] at hR
        by_cases hji : j = i
        · subst hji
          rw [ho] at hj; cases hj
          exact hR
        · rw [getD_set l i j hi, if_neg hji] at hl
          have h1 : own oj (a.put (some d0) v) = own oj a := by
            unfold own
            cases hdj : oj.dst with
            | none => rfl
            | some d =>
              show (a.put (some d0) v).tmps.getD d undef = a.tmps.getD d undef
              rw [hput d, if_neg (fun e => hji (hdst j i oj o d hj ho hdj (by rw [hod, e])))]
          rw [h1]
          exact hI.done j oj hj hl
  · intro i o ho hl
    have hi := (Array.getElem?_eq_some_iff.1 ho).1
    simp [Array.getD_eq_getD_getElem?, hi] at hl
  · have : ∀ (l : Array Bool) n, unl l n ≤ n := fun l n => by
      induction n with
      | zero => exact Nat.le_refl _
      | succ n ih => unfold unl; split <;> omega
    exact this _ _
end
end Go.Proofs.Ytpbnmbeedjhloaa
