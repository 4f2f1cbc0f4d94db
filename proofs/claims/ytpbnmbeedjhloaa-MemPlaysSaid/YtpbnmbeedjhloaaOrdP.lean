/-
  A region that draws its order, by an invariant, with pairs: what two operations have yielded, whichever came first.
-/
import Derived.Test.YtpbnmbeedjhloaaOrd
namespace Go.Proofs.Ytpbnmbeedjhloaa
open Go
set_option linter.unusedVariables false
section
variable {P : Program} {ops : Array Oper} {Q : Exit → Act → World → Prop} {md : Region.Mode}

structure Inv2 (ops : Array Oper) (a0 : Act) (dep : Nat → Nat) (S : World → Prop) (R : Nat → Value → Value → World → Prop) (D : Nat → Nat → Value → Value → Prop) (l : Array Bool) (a : Act) (w : World) : Prop extends Inv ops a0 dep S R l a w where
  pairs : ∀ (i j : Nat) (o o' : Oper), ops[i]? = some o → ops[j]? = some o' → i ≠ j → l.getD i true = true → l.getD j true = true → D i j (own o a) (own o' a)

theorem wp_region_inv2 {id : Nat} {a0 : Act} {w0 : World} (dep : Nat → Nat) (S : World → Prop) (R : Nat → Value → Value → World → Prop) (D : Nat → Nat → Value → Value → Prop) (hm : P.follows .mixedOrders = true)
    (hback : ∀ (i : Nat) (o : Oper), ops[i]? = some o → ∀ e ∈ o.after, Region.binds .any e = true → e.on < i)
    (hdst : ∀ (i j : Nat) (o o' : Oper) (d : Nat), ops[i]? = some o → ops[j]? = some o' → o.dst = some d → o'.dst = some d → i = j)
    (hdep : ∀ (i j : Nat) (o o' : Oper), ops[i]? = some o → ops[j]? = some o' → o.dst = some (dep j) → i = j ∨ ∃ e ∈ o'.after, Region.binds .any e = true ∧ e.on = i)
    (hin : ∀ (i : Nat) (o : Oper) (d : Nat), ops[i]? = some o → o.dst = some d → d < a0.tmps.size)
    (h0 : S { w0 with drawn := w0.drawn + 1 })
    (hop : ∀ (i : Nat) (o : Oper) (a : Act) (w : World), ops[i]? = some o → S w → a.defers = a0.defers → a.tmps.size = a0.tmps.size → (∀ j, (∀ (i : Nat) (o : Oper), ops[i]? = some o → o.dst ≠ some j) → a.tmps.getD j undef = a0.tmps.getD j undef) →
      (∀ e ∈ o.after, Region.binds .any e = true → ∀ (o' : Oper), ops[e.on]? = some o' → R e.on (own o' a) (a.tmps.getD (dep e.on) undef) w) →
      (∀ e ∈ o.after, Region.binds .any e = true → ∀ e' ∈ o.after, Region.binds .any e' = true → e.on ≠ e'.on → ∀ (o' o'' : Oper), ops[e.on]? = some o' → ops[e'.on]? = some o'' → D e.on e'.on (own o' a) (own o'' a)) →
      wpOp P ops Q i (fun a' w' => ∃ v, a' = a.put o.dst v ∧ R i (own o a') (a'.tmps.getD (dep i) undef) w' ∧ S w' ∧ (∀ j x u, R j x u w → R j x u w') ∧ ∀ j x u, j ≠ i → R j x u w → D i j (own o a') x ∧ D j i x (own o a')) a w)
    (hq : ∀ (u : Nat → Value) (w' : World), S w' → (∀ (i : Nat) (o : Oper), ops[i]? = some o → R i (ownU o u) (u (dep i)) w') → (∀ (i j : Nat) (o o' : Oper), ops[i]? = some o → ops[j]? = some o' → i ≠ j → D i j (ownU o u) (ownU o' u)) → Q .normal ⟨putAll a0.tmps (outs ops u), a0.defers⟩ w') :
    (Code.region id ops true).wp P Q a0 w0 := by
  refine wp_region_any hm ?_
  refine wpAny_inv (Inv2 ops a0 dep S R D) hback ?_ ?_ ops.size _ _ _ (by simp) ⟨⟨h0, rfl, rfl, fun _ _ => rfl, ?_, ?_⟩, ?_⟩ ?_
  · intro l a w hI hl
    have e : a.tmps = putAll a0.tmps (outs ops fun d => a.tmps.getD d undef) := by
      apply Array.ext_getElem?
      intro j
      by_cases hj : j < a0.tmps.size
      · by_cases hd : ∃ (i : Nat) (o : Oper), ops[i]? = some o ∧ o.dst = some j
        · obtain ⟨i, o, ho, hd⟩ := hd
          rw [putAll_mem (fun d => a.tmps.getD d undef) _ _ j hj]
          · have hj' : j < a.tmps.size := by rw [hI.size]; exact hj
            rw [Array.getElem?_eq_getElem hj']
            simp [Array.getD_eq_getD_getElem?, Array.getElem?_eq_getElem hj']
          · intro p hp
            unfold outs at hp
            rw [List.mem_filterMap] at hp
            obtain ⟨i', _, he⟩ := hp
            rw [Option.map_eq_some_iff] at he
            obtain ⟨d, _, rfl⟩ := he
            rfl
          · refine ⟨(j, a.tmps.getD j undef), ?_, rfl⟩
            unfold outs
            rw [List.mem_filterMap]
            exact ⟨i, List.mem_range.2 (Array.getElem?_eq_some_iff.1 ho).1, by rw [ho]; simp [hd]⟩
        · have hr := hI.rest j (fun i o ho hd' => hd ⟨i, o, ho, hd'⟩)
          rw [putAll_other]
          · have hj' : j < a.tmps.size := by rw [hI.size]; exact hj
            rw [Array.getElem?_eq_getElem hj', Array.getElem?_eq_getElem hj]
            simp only [Array.getD_eq_getD_getElem?, Array.getElem?_eq_getElem hj', Array.getElem?_eq_getElem hj, Option.getD_some] at hr
            rw [hr]
          · intro p hp e
            unfold outs at hp
            rw [List.mem_filterMap] at hp
            obtain ⟨i', _, he⟩ := hp
            rw [Option.map_eq_some_iff] at he
            obtain ⟨d, hd', rfl⟩ := he
            rw [Option.bind_eq_some_iff] at hd'
            obtain ⟨o, ho, hd'⟩ := hd'
            exact hd ⟨i', o, ho, by rw [hd', ← e]⟩
      · rw [Array.getElem?_eq_none (by rw [hI.size]; omega), Array.getElem?_eq_none (by rw [putAll_size]; omega)]
    have ea : a = ⟨putAll a0.tmps (outs ops fun d => a.tmps.getD d undef), a0.defers⟩ := by
      rw [← e, ← hI.defers]
    have hu := hq (fun d => a.tmps.getD d undef) w hI.s (fun i o ho => hI.done i o ho (hl i (Array.getElem?_eq_some_iff.1 ho).1)) (fun i j o o' ho ho' hne => hI.pairs i j o o' ho ho' hne (hl i (Array.getElem?_eq_some_iff.1 ho).1) (hl j (Array.getElem?_eq_some_iff.1 ho').1))
    rw [ea]
    exact hu
  · intro l a w i o hs hI ho hf ha
    have hi : i < l.size := by rw [hs]; exact (Array.getElem?_eq_some_iff.1 ho).1
    have hup : ∀ (e : Nat), l.getD e false = true → l.getD e true = true := fun e he => by
      by_cases hlt : e < l.size
      · simp only [Array.getD_eq_getD_getElem?, Array.getElem?_eq_getElem hlt, Option.getD_some] at he ⊢
        exact he
      · simp only [Array.getD_eq_getD_getElem?]
        rw [Array.getElem?_eq_none (by omega)]; rfl
    refine wpOp_mono ?_ (hop i o a w ho hI.s hI.defers hI.size hI.rest (fun e he hb o' ho' => hI.done e.on o' ho' (hup _ (ha e he hb))) (fun e he hb e' he' hb' hne o' o'' ho' ho'' => hI.pairs e.on e'.on o' o'' ho' ho'' hne (hup _ (ha e he hb)) (hup _ (ha e' he' hb'))))
    rintro a' w' ⟨v, rfl, hR, hS, hmo, hD⟩
    have hown : ∀ (j : Nat) (oj : Oper), ops[j]? = some oj → j ≠ i → own oj (a.put o.dst v) = own oj a := by
      intro j oj hj hji
      unfold own
      cases hdj : oj.dst with
      | none => rfl
      | some d =>
        cases hod : o.dst with
        | none => rfl
        | some d0 =>
          have hd0 : d0 < a.tmps.size := by rw [hI.size]; exact hin i o d0 ho hod
          show (a.put (some d0) v).tmps.getD d undef = a.tmps.getD d undef
          rw [put_getD a d0 v hd0 d, if_neg (fun e => hji (hdst j i oj o d hj ho hdj (by rw [hod, e])))]
    have hpairs : ∀ (j k : Nat) (oj ok : Oper), ops[j]? = some oj → ops[k]? = some ok → j ≠ k → (l.setIfInBounds i true).getD j true = true → (l.setIfInBounds i true).getD k true = true → D j k (own oj (a.put o.dst v)) (own ok (a.put o.dst v)) := by
      intro j k oj ok hj hk hne hlj hlk
      by_cases hji : j = i
      · subst hji
        rw [ho] at hj; cases hj
        rw [getD_set l j k hi, if_neg (fun e => hne e.symm)] at hlk
        rw [hown k ok hk (fun e => hne e.symm)]
        exact (hD k _ _ (fun e => hne e.symm) (hI.done k ok hk hlk)).1
      · by_cases hki : k = i
        · subst hki
          rw [ho] at hk; cases hk
          rw [getD_set l k j hi, if_neg hne] at hlj
          rw [hown j oj hj hne]
          exact (hD j _ _ hne (hI.done j oj hj hlj)).2
        · rw [getD_set l i j hi, if_neg hji] at hlj
          rw [getD_set l i k hi, if_neg hki] at hlk
          rw [hown j oj hj hji, hown k ok hk hki]
          exact hI.pairs j k oj ok hj hk hne hlj hlk
    have hclosed : ∀ (j : Nat) (oj : Oper), ops[j]? = some oj → (l.setIfInBounds i true).getD j true = true → ∀ e ∈ oj.after, Region.binds .any e = true → (l.setIfInBounds i true).getD e.on true = true := by
      intro j oj hj hl e he hb
      rw [getD_set l i _ hi]
      by_cases hei : e.on = i
      · rw [if_pos hei]
      · rw [if_neg hei]
        rw [getD_set l i j hi] at hl
        by_cases hji : j = i
        · subst hji
          rw [ho] at hj; cases hj
          exact hup _ (ha e he hb)
        · rw [if_neg hji] at hl
          exact hI.closed j oj hj hl e he hb
    cases hod : o.dst with
    | none =>
      refine ⟨⟨hS, hI.defers, hI.size, hI.rest, fun j oj hj hl => ?_, hclosed⟩, by rw [hod] at hpairs; exact hpairs⟩
      rw [hod] at hR
      by_cases hji : j = i
      · subst hji
        rw [ho] at hj; cases hj
        exact hR
      · rw [getD_set l i j hi, if_neg hji] at hl
        exact hmo _ _ _ (hI.done j oj hj hl)
    | some d0 =>
      have hd0 : d0 < a.tmps.size := by rw [hI.size]; exact hin i o d0 ho hod
      have hput := put_getD a d0 v hd0
      refine ⟨⟨hS, hI.defers, by show (a.tmps.setIfInBounds d0 v).size = _; simp [hI.size], fun j hj => ?_, fun j oj hj hl => ?_, hclosed⟩, by rw [hod] at hpairs; exact hpairs⟩
      · rw [hput j, if_neg (fun e => hj i o ho (by rw [hod, e]))]
        exact hI.rest j hj
      · rw [hod] at hR
        by_cases hji : j = i
        · subst hji
          rw [ho] at hj; cases hj
          exact hR
        · rw [getD_set l i j hi, if_neg hji] at hl
          have h1 : own oj (a.put (some d0) v) = own oj a := by
            unfold own
            cases hdj : oj.dst with
            | none => rfl
            | some d =>
              show (a.put (some d0) v).tmps.getD d undef = a.tmps.getD d undef
              rw [hput d, if_neg (fun e => hji (hdst j i oj o d hj ho hdj (by rw [hod, e])))]
          have h2 : (a.put (some d0) v).tmps.getD (dep j) undef = a.tmps.getD (dep j) undef := by
            rw [hput (dep j), if_neg]
            intro e
            rcases hdep i j o oj ho hj (by rw [hod, e]) with h | ⟨e', he', hb', hei⟩
            · exact hji h.symm
            · have := hI.closed j oj hj hl e' he' hb'
              rw [hei, hf] at this; cases this
          rw [h1, h2]
          exact hmo _ _ _ (hI.done j oj hj hl)
  · intro i o ho hl
    have hi := (Array.getElem?_eq_some_iff.1 ho).1
    simp [Array.getD_eq_getD_getElem?, hi] at hl
  · intro i o ho hl
    have hi := (Array.getElem?_eq_some_iff.1 ho).1
    simp [Array.getD_eq_getD_getElem?, hi] at hl
  · intro i j o o' ho ho' hne hl
    have hi := (Array.getElem?_eq_some_iff.1 ho).1
    simp [Array.getD_eq_getD_getElem?, hi] at hl
  · have : ∀ (l : Array Bool) n, unl l n ≤ n := fun l n => by
      induction n with
      | zero => exact Nat.le_refl _
      | succ n ih => unfold unl; split <;> omega
    exact this _ _

end
end Go.Proofs.Ytpbnmbeedjhloaa
