/-
  A region that draws its order, by an invariant: what an operation has yielded is told of several slots at once; pairs.
-/
import Derived.Test.YtpbnmbeedjhloaaOrd
namespace Go.Proofs.Ytpbnmbeedjhloaa
open Go
set_option linter.unusedVariables false
section
variable {P : Program} {ops : Array Oper} {Q : Exit → Act → World → Prop} {md : Region.Mode}

/-- The slots of a list; no others. -/
def mskU (l : List Nat) (u : Nat → Value) (d : Nat) : Value := bif l.any (fun e => Nat.beq e d) then u d else undef
def slots (a : Act) (d : Nat) : Value := a.tmps.getD d undef
theorem mskU_put {l : List Nat} {a : Act} {d0 : Nat} {v : Value} (hlt : d0 < a.tmps.size) (h : ∀ d ∈ l, d ≠ d0) : mskU l (slots (a.put (some d0) v)) = mskU l (slots a) := by
  funext d
  unfold mskU
  cases hc : l.any (fun e => Nat.beq e d)
  · rfl
  · obtain ⟨e, he, hb⟩ := List.any_eq_true.1 hc
    have := Nat.eq_of_beq_eq_true hb
    subst this
    show slots (a.put (some d0) v) e = slots a e
    unfold slots
    rw [put_getD a d0 v hlt, if_neg (h e he)]

structure InvM (ops : Array Oper) (a0 : Act) (deps : Nat → List Nat) (S : World → Prop) (R : Nat → (Nat → Value) → World → Prop) (D : Nat → Nat → Value → Value → Prop) (l : Array Bool) (a : Act) (w : World) : Prop where
  s : S w
  defers : a.defers = a0.defers
  size : a.tmps.size = a0.tmps.size
  rest : ∀ j, (∀ (i : Nat) (o : Oper), ops[i]? = some o → o.dst ≠ some j) → a.tmps.getD j undef = a0.tmps.getD j undef
  done : ∀ (i : Nat) (o : Oper), ops[i]? = some o → l.getD i true = true → R i (mskU (deps i) (slots a)) w
  closed : ∀ (i : Nat) (o : Oper), ops[i]? = some o → l.getD i true = true → ∀ e ∈ o.after, Region.binds .any e = true → l.getD e.on true = true
  pairs : ∀ (i j : Nat) (o o' : Oper), ops[i]? = some o → ops[j]? = some o' → i ≠ j → l.getD i true = true → l.getD j true = true → D i j (own o a) (own o' a)

theorem wp_region_invm {id : Nat} {a0 : Act} {w0 : World} (deps : Nat → List Nat) (S : World → Prop) (R : Nat → (Nat → Value) → World → Prop) (D : Nat → Nat → Value → Value → Prop) (hm : P.follows .mixedOrders = true)
    (hback : ∀ (i : Nat) (o : Oper), ops[i]? = some o → ∀ e ∈ o.after, Region.binds .any e = true → e.on < i)
    (hdst : ∀ (i j : Nat) (o o' : Oper) (d : Nat), ops[i]? = some o → ops[j]? = some o' → o.dst = some d → o'.dst = some d → i = j)
    (hdep : ∀ (i j : Nat) (o o' : Oper) (d : Nat), ops[i]? = some o → ops[j]? = some o' → d ∈ deps j → o.dst = some d → i = j ∨ ∃ e ∈ o'.after, Region.binds .any e = true ∧ e.on = i)
    (hin : ∀ (i : Nat) (o : Oper) (d : Nat), ops[i]? = some o → o.dst = some d → d < a0.tmps.size)
    (h0 : S { w0 with drawn := w0.drawn + 1 })
    (hop : ∀ (i : Nat) (o : Oper) (a : Act) (w : World), ops[i]? = some o → S w → a.defers = a0.defers → a.tmps.size = a0.tmps.size → (∀ j, (∀ (i : Nat) (o : Oper), ops[i]? = some o → o.dst ≠ some j) → a.tmps.getD j undef = a0.tmps.getD j undef) →
      (∀ e ∈ o.after, Region.binds .any e = true → ∀ (o' : Oper), ops[e.on]? = some o' → R e.on (mskU (deps e.on) (slots a)) w) →
      (∀ e ∈ o.after, Region.binds .any e = true → ∀ e' ∈ o.after, Region.binds .any e' = true → e.on ≠ e'.on → ∀ (o' o'' : Oper), ops[e.on]? = some o' → ops[e'.on]? = some o'' → D e.on e'.on (own o' a) (own o'' a)) →
      wpOp P ops Q i (fun a' w' => ∃ v, a' = a.put o.dst v ∧ R i (mskU (deps i) (slots a')) w' ∧ S w' ∧ (∀ j, j ≠ i → R j (mskU (deps j) (slots a)) w → R j (mskU (deps j) (slots a)) w') ∧ ∀ (j : Nat) (oj : Oper), ops[j]? = some oj → j ≠ i → R j (mskU (deps j) (slots a)) w → D i j (own o a') (own oj a) ∧ D j i (own oj a) (own o a')) a w)
    (hq : ∀ (u : Nat → Value) (w' : World), S w' → (∀ (i : Nat) (o : Oper), ops[i]? = some o → R i (mskU (deps i) u) w') → (∀ (i j : Nat) (o o' : Oper), ops[i]? = some o → ops[j]? = some o' → i ≠ j → D i j (ownU o u) (ownU o' u)) → Q .normal ⟨putAll a0.tmps (outs ops u), a0.defers⟩ w') :
    (Code.region id ops true).wp P Q a0 w0 := by
  refine wp_region_any hm ?_
  refine wpAny_inv (InvM ops a0 deps S R D) hback ?_ ?_ ops.size _ _ _ (by simp) ⟨h0, rfl, rfl, fun _ _ => rfl, ?_, ?_, ?_⟩ ?_
  · intro l a w hI hl
    have e : a.tmps = putAll a0.tmps (outs ops fun d => a.tmps.getD d undef) := by
      apply Array.ext_getElem?
      intro j
      by_cases hj : j < a0.tmps.size
      · by_cases hd : ∃ (i : Nat) (o : Oper), ops[i]? = some o ∧ o.dst = some j
        · obtain ⟨i, o, ho, hd⟩ := hd
          rw [putAll_mem (fun d => a.tmps.getD d undef) _ _ j hj]
          · have hj' : j < a.tmps.size := by rw [hI.size]; exact hj
            rw [Array.getElem?_eq_getElem hj']
            simp [Array.getD_eq_getD_getElem?, Array.getElem?_eq_getElem hj']
          · intro p hp
            unfold outs at hp
            rw [List.mem_filterMap] at hp
            obtain ⟨i', _, he⟩ := hp
            rw [Option.map_eq_some_iff] at he
            obtain ⟨d, _, rfl⟩ := he
            rfl
          · refine ⟨(j, a.tmps.getD j undef), ?_, rfl⟩
            unfold outs
            rw [List.mem_filterMap]
            exact ⟨i, List.mem_range.2 (Array.getElem?_eq_some_iff.1 ho).1, by rw [ho]; simp [hd]⟩
        · have hr := hI.rest j (fun i o ho hd' => hd ⟨i, o, ho, hd'⟩)
          rw [putAll_other]
          · have hj' : j < a.tmps.size := by rw [hI.size]; exact hj
            rw [Array.getElem?_eq_getElem hj', Array.getElem?_eq_getElem hj]
            simp only [Array.getD_eq_getD_getElem?, Array.getElem?_eq_getElem hj', Array.getElem?_eq_getElem hj, Option.getD_some] at hr
            rw [hr]
          · intro p hp e
            unfold outs at hp
            rw [List.mem_filterMap] at hp
            obtain ⟨i', _, he⟩ := hp
            rw [Option.map_eq_some_iff] at he
            obtain ⟨d, hd', rfl⟩ := he
            rw [Option.bind_eq_some_iff] at hd'
            obtain ⟨o, ho, hd'⟩ := hd'
            exact hd ⟨i', o, ho, by rw [hd', ← e]⟩
      · rw [Array.getElem?_eq_none (by rw [hI.size]; omega), Array.getElem?_eq_none (by rw [putAll_size]; omega)]
    have ea : a = ⟨putAll a0.tmps (outs ops fun d => a.tmps.getD d undef), a0.defers⟩ := by
      rw [← e, ← hI.defers]
    have hu := hq (fun d => a.tmps.getD d undef) w hI.s (fun i o ho => hI.done i o ho (hl i (Array.getElem?_eq_some_iff.1 ho).1)) (fun i j o o' ho ho' hne => hI.pairs i j o o' ho ho' hne (hl i (Array.getElem?_eq_some_iff.1 ho).1) (hl j (Array.getElem?_eq_some_iff.1 ho').1))
    rw [ea]
    exact hu
  · intro l a w i o hs hI ho hf ha
    have hi : i < l.size := by rw [hs]; exact (Array.getElem?_eq_some_iff.1 ho).1
    have hup : ∀ (e : Nat), l.getD e false = true → l.getD e true = true := fun e he => by
      by_cases hlt : e < l.size
      · simp only [Array.getD_eq_getD_getElem?, Array.getElem?_eq_getElem hlt, Option.getD_some] at he ⊢
        exact he
      · simp only [Array.getD_eq_getD_getElem?]
        rw [Array.getElem?_eq_none (by omega)]; rfl
    refine wpOp_mono ?_ (hop i o a w ho hI.s hI.defers hI.size hI.rest (fun e he hb o' ho' => hI.done e.on o' ho' (hup _ (ha e he hb))) (fun e he hb e' he' hb' hne o' o'' ho' ho'' => hI.pairs e.on e'.on o' o'' ho' ho'' hne (hup _ (ha e he hb)) (hup _ (ha e' he' hb'))))
    rintro a' w' ⟨v, rfl, hR, hS, hmo, hD⟩
    have hown : ∀ (j : Nat) (oj : Oper), ops[j]? = some oj → j ≠ i → own oj (a.put o.dst v) = own oj a := by
      intro j oj hj hji
      unfold own
      cases hdj : oj.dst with
      | none => rfl
      | some d =>
        cases hod : o.dst with
        | none => rfl
        | some d0 =>
          have hd0 : d0 < a.tmps.size := by rw [hI.size]; exact hin i o d0 ho hod
          show (a.put (some d0) v).tmps.getD d undef = a.tmps.getD d undef
          rw [put_getD a d0 v hd0 d, if_neg (fun e => hji (hdst j i oj o d hj ho hdj (by rw [hod, e])))]
    have hpairs : ∀ (j k : Nat) (oj ok : Oper), ops[j]? = some oj → ops[k]? = some ok → j ≠ k → (l.setIfInBounds i true).getD j true = true → (l.setIfInBounds i true).getD k true = true → D j k (own oj (a.put o.dst v)) (own ok (a.put o.dst v)) := by
      intro j k oj ok hj hk hne hlj hlk
      by_cases hji : j = i
      · subst hji
        rw [ho] at hj; cases hj
        rw [getD_set l j k hi, if_neg (fun e => hne e.symm)] at hlk
        rw [hown k ok hk (fun e => hne e.symm)]
        exact (hD k ok hk (fun e => hne e.symm) (hI.done k ok hk hlk)).1
      · by_cases hki : k = i
        · subst hki
          rw [ho] at hk; cases hk
          rw [getD_set l k j hi, if_neg hne] at hlj
          rw [hown j oj hj hne]
          exact (hD j oj hj hne (hI.done j oj hj hlj)).2
        · rw [getD_set l i j hi, if_neg hji] at hlj
          rw [getD_set l i k hi, if_neg hki] at hlk
          rw [hown j oj hj hji, hown k ok hk hki]
          exact hI.pairs j k oj ok hj hk hne hlj hlk
    have hclosed : ∀ (j : Nat) (oj : Oper), ops[j]? = some oj → (l.setIfInBounds i true).getD j true = true → ∀ e ∈ oj.after, Region.binds .any e = true → (l.setIfInBounds i true).getD e.on true = true := by
      intro j oj hj hl e he hb
      rw [getD_set l i _ hi]
      by_cases hei : e.on = i
      · rw [if_pos hei]
      · rw [if_neg hei]
        rw [getD_set l i j hi] at hl
        by_cases hji : j = i
        · subst hji
          rw [ho] at hj; cases hj
          exact hup _ (ha e he hb)
        · rw [if_neg hji] at hl
          exact hI.closed j oj hj hl e he hb
    cases hod : o.dst with
    | none =>
      refine ⟨hS, hI.defers, hI.size, hI.rest, fun j oj hj hl => ?_, hclosed, by rw [hod] at hpairs; exact hpairs⟩
      rw [hod] at hR
      by_cases hji : j = i
      · subst hji
        rw [ho] at hj; cases hj
        exact hR
      · rw [getD_set l i j hi, if_neg hji] at hl
        exact hmo _ hji (hI.done j oj hj hl)
    | some d0 =>
      have hd0 : d0 < a.tmps.size := by rw [hI.size]; exact hin i o d0 ho hod
      have hput := put_getD a d0 v hd0
      refine ⟨hS, hI.defers, by show (a.tmps.setIfInBounds d0 v).size = _; simp [hI.size], fun j hj => ?_, fun j oj hj hl => ?_, hclosed, by rw [hod] at hpairs; exact hpairs⟩
      · rw [hput j, if_neg (fun e => hj i o ho (by rw [hod, e]))]
        exact hI.rest j hj
      · rw [hod] at hR
        by_cases hji : j = i
        · subst hji
          rw [ho] at hj; cases hj
          exact hR
        · rw [getD_set l i j hi, if_neg hji] at hl
          have h2 : mskU (deps j) (slots (a.put (some d0) v)) = mskU (deps j) (slots a) := mskU_put hd0 (fun d hd e => by
            rcases hdep i j o oj d ho hj hd (by rw [hod, e]) with h | ⟨e', he', hb', hei⟩
            · exact hji h.symm
            · have := hI.closed j oj hj hl e' he' hb'
              rw [hei, hf] at this; cases this)
          rw [h2]
          exact hmo _ hji (hI.done j oj hj hl)
  · intro i o ho hl
    have hi := (Array.getElem?_eq_some_iff.1 ho).1
    simp [Array.getD_eq_getD_getElem?, hi] at hl
  · intro i o ho hl
    have hi := (Array.getElem?_eq_some_iff.1 ho).1
    simp [Array.getD_eq_getD_getElem?, hi] at hl
  · intro i j o o' ho ho' hne hl
    have hi := (Array.getElem?_eq_some_iff.1 ho).1
    simp [Array.getD_eq_getD_getElem?, hi] at hl
  · have : ∀ (l : Array Bool) n, unl l n ≤ n := fun l n => by
      induction n with
      | zero => exact Nat.le_refl _
      | succ n ih => unfold unl; split <;> omega
    exact this _ _

theorem exec_pick {P : Program} {ρ : Operand → Value} {o : Oper} {w : World} {c x y : Operand} {b : Bool} {v : Value} (ho : o.op = .pick c x y) (hc : ρ c = .bool b) (h1 : b = true → ρ x = v) (h2 : b = false → ρ y = v) : (execOp ρ o).run P w = .ok (.value v) w := by
  unfold execOp
  cases b
  · simp [ho, hc, h2 rfl, asBool, Result.andThen]
  · simp [ho, hc, h1 rfl, asBool, Result.andThen]

/-- What the operations yield: one entry each. -/
def TabM (l : List ((Nat → Value) → World → Prop)) (i : Nat) (u : Nat → Value) (w : World) : Prop := match l[i]? with
  | some p => p u w
  | none => True
/-- Each entry goes on, at its own slots. -/
def AllMi (w w' : World) (us : Nat → Nat → Value) : Nat → List ((Nat → Value) → World → Prop) → Prop
  | _, [] => True
  | k, p :: l => (p (us k) w → p (us k) w') ∧ AllMi w w' us (k + 1) l
theorem tabM_mono {w w' : World} {us : Nat → Nat → Value} : ∀ {L : List ((Nat → Value) → World → Prop)} (k : Nat), AllMi w w' us k L → ∀ j, TabM L j (us (k + j)) w → TabM L j (us (k + j)) w'
  | [], _, _, j, h => by unfold TabM at *; simp at *
  | p :: l, k, hm, 0, h => hm.1 h
  | p :: l, k, hm, j + 1, h => by
    have := tabM_mono (k + 1) hm.2 j
    rw [show k + 1 + j = k + (j + 1) by omega] at this
    unfold TabM at *
    simp only [List.getElem?_cons_succ] at *
    exact this h
theorem tabM_mono0 {w w' : World} {us : Nat → Nat → Value} {L : List ((Nat → Value) → World → Prop)} (h : AllMi w w' us 0 L) (i : Nat) : ∀ j, j ≠ i → TabM L j (us j) w → TabM L j (us j) w' := fun j _ hj => by
  have := tabM_mono 0 h j
  rw [Nat.zero_add] at this
  exact this hj
def lst (l : List (List Nat)) (i : Nat) : List Nat := l.getD i []
def chkDeps (ops : Array Oper) (deps : Nat → List Nat) : Bool := (List.range ops.size).all fun i => (List.range ops.size).all fun j => match ops[i]?, ops[j]? with
  | some o, some o' => (deps j).all fun d => (match o.dst with | some d' => d' != d || i == j || o'.after.any (fun e => Region.binds .any e && e.on == i) | none => true)
  | _, _ => true
theorem deps_of {deps : Nat → List Nat} (h : chkDeps ops deps = true) : ∀ (i j : Nat) (o o' : Oper) (d : Nat), ops[i]? = some o → ops[j]? = some o' → d ∈ deps j → o.dst = some d → i = j ∨ ∃ e ∈ o'.after, Region.binds .any e = true ∧ e.on = i := fun i j o o' d ho ho' hmem hd => by
  have := of_range (of_range h ho) ho'
  rw [ho, ho'] at this
  have := List.all_eq_true.1 this d hmem
  simp only [hd, bne_self_eq_false, Bool.false_or, Bool.or_eq_true, beq_iff_eq] at this
  rcases this with h | h
  · exact Or.inl h
  · right
    rw [Array.any_eq_true] at h
    obtain ⟨x, hx, hb⟩ := h
    simp only [Bool.and_eq_true, beq_iff_eq] at hb
    exact ⟨_, Array.getElem_mem hx, hb⟩
end
end Go.Proofs.Ytpbnmbeedjhloaa
