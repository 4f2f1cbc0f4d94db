/-
  Several texts in one: Szj, MdlEs, MdlCn, MdlSb, RinA.
-/
import Derived.Test.YthhgcbegcbhaeaaMBh33
import Derived.Test.YthhgcbegcbhaeaaMSt01
import Derived.Test.YthhgcbegcbhaeaaMBh43
import Derived.Test.YthhgcbegcbhaeaaMBh06
set_option linter.unusedVariables false
set_option linter.unusedSimpArgs false
set_option linter.unnecessarySimpa false
namespace Go.Proofs.Ythhgcbegcbhaeaa
open Go Go.RowKit
set_option linter.unusedVariables false
set_option linter.unusedSimpArgs false

section
variable {F : Fence} {m : Nat} {P : Program} {ops : Array Oper} {Q : Exit → Act → World → Prop} {md : Region.Mode}
theorem wpAnyIn_inv (I : Array Bool → Act → World → Prop)
    (hback : ∀ (i : Nat) (o : Oper), ops[i]? = some o → ∀ e ∈ o.after, Region.binds md e = true → e.on < i)
    (hend : ∀ (l : Array Bool) (a : Act) (w : World), I l a w → (∀ i, i < ops.size → l.getD i true = true) → Q .normal a w)
    (hstep : ∀ (l : Array Bool) (a : Act) (w : World) (i : Nat) (o : Oper), l.size = ops.size → I l a w → ops[i]? = some o → l.getD i true = false → (∀ e ∈ o.after, Region.binds md e = true → l.getD e.on false = true) → wpOpIn F m P ops Q i (I (l.setIfInBounds i true)) a w) :
    ∀ fuel l a w, l.size = ops.size → I l a w → unl l ops.size ≤ fuel → wpAnyIn F m P md ops Q fuel l a w := by
  have hready : ∀ (l : Array Bool) (i : Nat), i ∈ Region.ready md ops l ↔ i < ops.size ∧ l.getD i true = false ∧ ∃ o : Oper, ops[i]? = some o ∧ ∀ e ∈ o.after, Region.binds md e = true → l.getD e.on false = true := by
    intro l i
    unfold Region.ready
    rw [List.mem_filter, List.mem_range]
    constructor
    · rintro ⟨hi, h⟩
      simp only [Bool.and_eq_true, Bool.not_eq_true'] at h
      refine ⟨hi, h.1, ops[i], Array.getElem?_eq_getElem hi, fun e he hb => ?_⟩
      have h2 := h.2
      rw [Array.getElem?_eq_getElem hi] at h2
      simp only [Option.map_some, Option.getD_some] at h2
      rw [Array.all_eq_true_iff_forall_mem] at h2
      have := h2 e he
      simpa [hb] using this
    · rintro ⟨hi, hf, o, ho, ha⟩
      refine ⟨hi, ?_⟩
      simp only [Bool.and_eq_true, Bool.not_eq_true']
      refine ⟨hf, ?_⟩
      rw [ho]
      simp only [Option.map_some, Option.getD_some]
      rw [Array.all_eq_true_iff_forall_mem]
      intro e he
      cases hb : Region.binds md e
      · rfl
      · simpa [hb] using ha e he hb
  have hnone : ∀ l : Array Bool, Region.ready md ops l = [] → ∀ i, i < ops.size → l.getD i true = true := by
    intro l hr i
    induction i using Nat.strongRecOn with
    | ind i ih =>
      intro hi
      cases hf : l.getD i true
      · exfalso
        have : i ∈ Region.ready md ops l := (hready l i).2 ⟨hi, hf, ops[i], Array.getElem?_eq_getElem hi, fun e he hb => by
          have hlt := hback i _ (Array.getElem?_eq_getElem hi) e he hb
          have := ih e.on hlt (by omega)
          by_cases hs : e.on < l.size
          · simp only [Array.getD_eq_getD_getElem?, Array.getElem?_eq_getElem hs, Option.getD_some] at this ⊢
            exact this
          · exfalso
            have hi' : l.getD i true = true := by
              simp only [Array.getD_eq_getD_getElem?]
              rw [Array.getElem?_eq_none (by omega)]; rfl
            rw [hi'] at hf; cases hf⟩
        rw [hr] at this; cases this
      · rfl
  intro fuel
  induction fuel with
  | zero =>
    intro l a w hs hI hu
    have hz := unl_zero (l := l) (n := ops.size) (by omega)
    have hr : Region.ready md ops l = [] := by
      apply List.eq_nil_iff_forall_not_mem.2
      intro i hi
      obtain ⟨h1, h2, _⟩ := (hready l i).1 hi
      rw [hz i h1] at h2; cases h2
    exact ⟨hr, hend l a w hI hz⟩
  | succ fuel ih =>
    intro l a w hs hI hu
    refine ⟨fun hr => hend l a w hI (hnone l hr), fun i hi => ?_⟩
    obtain ⟨h1, h2, o, ho, ha⟩ := (hready l i).1 hi
    refine wpOpIn_mono (fun a' w' hI' => ih _ a' w' (by simpa using hs) hI' ?_) (hstep l a w i o hs hI ho h2 ha)
    have := unl_set (l := l) (i := i) (by omega) h2 ops.size
    rw [if_pos h1] at this
    omega

theorem wpIn_regx {id : Nat} {a0 : Act} {w0 : World} (S : (Nat → Bool) → (Nat → Value) → World → Prop) (R : Nat → Value → Prop) (hm : P.follows .mixedOrders = true)
    (hback : ∀ (i : Nat) (o : Oper), ops[i]? = some o → ∀ e ∈ o.after, Region.binds .any e = true → e.on < i)
    (hdst : ∀ (i j : Nat) (o o' : Oper) (d : Nat), ops[i]? = some o → ops[j]? = some o' → o.dst = some d → o'.dst = some d → i = j)
    (hin : ∀ (i : Nat) (o : Oper) (d : Nat), ops[i]? = some o → o.dst = some d → d < a0.tmps.size)
    (h0 : ∀ (fl : Nat → Bool) (w1 : World), (∀ i, i < ops.size → fl i = false) → w1 = { w0 with drawn := w0.drawn + 1 } → S fl (slotOf a0) w1)
    (hop : ∀ (i : Nat) (o : Oper) (a : Act) (w : World) (fl : Nat → Bool), ops[i]? = some o → S fl (slotOf a) w → fl i = false →
      (∀ (k : Nat) (ok : Oper), ops[k]? = some ok → fl k = true → ∀ e ∈ ok.after, Region.binds .any e = true → fl e.on = true) →
      a.tmps.size = a0.tmps.size → (∀ j, (∀ (i : Nat) (o : Oper), ops[i]? = some o → o.dst ≠ some j) → a.tmps.getD j undef = a0.tmps.getD j undef) →
      (∀ (p : Nat) (e : _), o.after[p]? = some e → Region.binds .any e = true → fl e.on = true ∧ ∀ (o' : Oper), ops[e.on]? = some o' → R e.on (own o' a)) →
      (∀ (k : Nat) (ok : Oper) (d : Nat), ops[k]? = some ok → ok.dst = some d → fl k = false → a.tmps.getD d undef = a0.tmps.getD d undef) →
      wpOpIn F m P ops Q i (fun a' w' => ∃ v, a' = a.put o.dst v ∧ R i (own o a') ∧ S (upd fl i) (slotOf a') w') a w)
    (hq : ∀ (a : Act) (w' : World) (fl : Nat → Bool), a.defers = a0.defers → a.tmps.size = a0.tmps.size → (∀ j, (∀ (i : Nat) (o : Oper), ops[i]? = some o → o.dst ≠ some j) → a.tmps.getD j undef = a0.tmps.getD j undef) →
      (∀ (i : Nat) (o : Oper), ops[i]? = some o → R i (own o a)) → (∀ i, i < ops.size → fl i = true) → S fl (slotOf a) w' → Q .normal a w') :
    (Code.region id ops true).wpIn F m P Q a0 w0 := by
  have hfin : ∀ l a w, InvX ops a0 S R l a w → (∀ i, i < ops.size → l.getD i true = true) → Q .normal a w := by
    intro l a w hI hl
    exact hq a w _ hI.defers hI.size hI.rest (fun i o ho => hI.done i o ho (hl i (Array.getElem?_eq_some_iff.1 ho).1)) hl hI.s
  have hstep : ∀ (l : Array Bool) a w (i : Nat) o, l.size = ops.size → InvX ops a0 S R l a w → ops[i]? = some o → l.getD i true = false → (∀ e ∈ o.after, Region.binds .any e = true → l.getD e.on false = true) →
      wpOpIn F m P ops Q i (InvX ops a0 S R (l.setIfInBounds i true)) a w := by
    intro l a w i o hs hI ho hfi ha
    have hi : i < l.size := by rw [hs]; exact (Array.getElem?_eq_some_iff.1 ho).1
    have hup : ∀ (e : Nat), l.getD e false = true → l.getD e true = true := fun e he => by
      by_cases hlt : e < l.size
      · simp only [Array.getD_eq_getD_getElem?, Array.getElem?_eq_getElem hlt, Option.getD_some] at he ⊢
        exact he
      · simp only [Array.getD_eq_getD_getElem?]
        rw [Array.getElem?_eq_none (by omega)]; rfl
    refine wpOpIn_mono ?_ (hop i o a w _ ho hI.s hfi hI.closed hI.size hI.rest (fun p e hp hb => ⟨hup _ (ha e (Array.mem_of_getElem? hp) hb), fun o' ho' => hI.done e.on o' ho' (hup _ (ha e (Array.mem_of_getElem? hp) hb))⟩) hI.undone)
    rintro a' w' ⟨v, rfl, hR, hS⟩
    have hS' : S (fun j => (l.setIfInBounds i true).getD j true) (slotOf (a.put o.dst v)) w' := by
      have e : (fun j => (l.setIfInBounds i true).getD j true) = upd (fun j => l.getD j true) i := by
        funext j
        rw [getD_set l i j hi]; rfl
      rw [e]; exact hS
    have hclosed : ∀ (j : Nat) (oj : Oper), ops[j]? = some oj → (l.setIfInBounds i true).getD j true = true → ∀ e ∈ oj.after, Region.binds .any e = true → (l.setIfInBounds i true).getD e.on true = true := by
      intro j oj hj hl e he hb
      rw [getD_set l i e.on hi]
      by_cases hei : e.on = i
      · rw [if_pos hei]
      · rw [if_neg hei]
        rw [getD_set l i j hi] at hl
        by_cases hji : j = i
        · subst hji
          rw [ho] at hj; cases hj
          exact hup _ (ha e he hb)
        · rw [if_neg hji] at hl
          exact hI.closed j oj hj hl e he hb
    cases hod : o.dst with
    | none =>
      refine ⟨by rw [hod] at hS'; exact hS', hI.defers, hI.size, hI.rest, fun j oj hj hl => ?_, hclosed, fun j oj d hj hd hl => ?_⟩
      case refine_2 =>
        rw [getD_set l i j hi] at hl
        by_cases hji : j = i
        · rw [if_pos hji] at hl; cases hl
        · rw [if_neg hji] at hl; exact hI.undone j oj d hj hd hl
      rw [hod] at hR
      by_cases hji : j = i
      · subst hji
        rw [ho] at hj; cases hj
        exact hR
      · rw [getD_set l i j hi, if_neg hji] at hl
        exact hI.done j oj hj hl
    | some d0 =>
      have hd0 : d0 < a.tmps.size := by rw [hI.size]; exact hin i o d0 ho hod
      have hput := put_getD a d0 v hd0
      refine ⟨by rw [hod] at hS'; exact hS', hI.defers, by show (a.tmps.setIfInBounds d0 v).size = _; simp [hI.size], fun j hj => ?_, fun j oj hj hl => ?_, hclosed, fun j oj d hj hd hl => ?_⟩
      case refine_3 =>
        rw [getD_set l i j hi] at hl
        by_cases hji : j = i
        · rw [if_pos hji] at hl; cases hl
        · rw [if_neg hji] at hl
          rw [hput d, if_neg (fun e => hji (hdst j i oj o d hj ho hd (by rw [hod, e])))]
          exact hI.undone j oj d hj hd hl
      · rw [hput j, if_neg (fun e => hj i o ho (by rw [hod, e]))]
        exact hI.rest j hj
      · rw [hod] at hR
        by_cases hji : j = i
        · subst hji
          rw [ho] at hj; cases hj
          exact hR
        · rw [getD_set l i j hi, if_neg hji] at hl
          have h1 : own oj (a.put (some d0) v) = own oj a := by
            unfold own
            cases hdj : oj.dst with
            | none => rfl
            | some d =>
              show (a.put (some d0) v).tmps.getD d undef = a.tmps.getD d undef
              rw [hput d, if_neg (fun e => hji (hdst j i oj o d hj ho hdj (by rw [hod, e])))]
          rw [h1]
          exact hI.done j oj hj hl
  have hinit : ∀ w1, w1 = { w0 with drawn := w0.drawn + 1 } → InvX ops a0 S R (Array.replicate ops.size false) a0 w1 := by
    intro w1 hw
    have hf : ∀ i, i < ops.size → (Array.replicate ops.size false).getD i true = false := fun i hi => by simp [Array.getD_eq_getD_getElem?, hi]
    refine ⟨h0 _ _ hf hw, rfl, rfl, fun _ _ => rfl, fun i o ho hl => ?_, fun i o ho hl => ?_, fun _ _ _ _ _ _ => rfl⟩
    · rw [hf i (Array.getElem?_eq_some_iff.1 ho).1] at hl; cases hl
    · rw [hf i (Array.getElem?_eq_some_iff.1 ho).1] at hl; cases hl
  refine wpIn_region_any hm ?_
  refine wpAnyIn_inv (InvX ops a0 S R) hback (fun l a w hI hl => hfin l a w hI hl) ?_ ops.size _ _ _ (by simp) (hinit _ rfl) ?_
  · intro l a w i o hs hI ho hf ha
    have hi : i < l.size := by rw [hs]; exact (Array.getElem?_eq_some_iff.1 ho).1
    have hfi : l.getD i true = false := by
      simp only [Array.getD_eq_getD_getElem?, Array.getElem?_eq_getElem hi, Option.getD_some] at hf ⊢
      exact hf
    exact hstep l a w i o hs hI ho hfi ha
  · have : ∀ (l : Array Bool) n, unl l n ≤ n := fun l n => by
      induction n with
      | zero => exact Nat.le_refl _
      | succ n ih => unfold unl; split <;> omega
    exact this _ _
end
section
variable {F : Fence} {m : Nat} {P : Program} {ops : Array Oper} {Q : Exit → Act → World → Prop} {n : Nat} {a0 : Act} {w0 : World} {S : (Nat → Bool) → (Nat → Value) → World → Prop} {K D : List Nat} {l : List (Option Value)}
def HopD (F : Fence) (m : Nat) (P : Program) (ops : Array Oper) (Q : Exit → Act → World → Prop) (n : Nat) (a0 : Act) (S : (Nat → Bool) → (Nat → Value) → World → Prop) (K D : List Nat) (l : List (Option Value)) (i : Nat) (L : List Oper) : Prop :=
  ∀ j o, L[j]? = some o → ∀ fl a w, Cz ops n a0 S K D l (i + j) o fl a w → wpOpIn F m P ops Q (i + j) (PostZ S l (i + j) o fl a) a w
theorem yn {i : Nat} : HopD F m P ops Q n a0 S K D l i [] := fun j o h => by simp at h
theorem yc {i : Nat} {o : Oper} {L : List Oper} (h : ∀ {fl a w}, Cz ops n a0 S K D l i o fl a w → wpOpIn F m P ops Q i (PostZ S l i o fl a) a w) (t : HopD F m P ops Q n a0 S K D l (i + 1) L) : HopD F m P ops Q n a0 S K D l i (o :: L) := fun j o' hj => by
  cases j with
  | zero =>
    have e : o = o' := by simpa using hj
    subst e
    exact fun _ _ _ c => h c
  | succ j =>
    have := t j o' (by simpa using hj)
    rw [show i + 1 + j = i + (j + 1) by omega] at this
    exact this
theorem go_regd {id : Nat} (S : (Nat → Bool) → (Nat → Value) → World → Prop) (K D : List Nat) (l : List (Option Value)) (hm : P.follows .mixedOrders = true) (hl : Loc K D S) (hd0 : a0.defers = []) (hz : a0.tmps.size = n) (hk : (chkBack ops && chkDst ops && chkIn ops n) = true)
    (h0 : ∀ (fl : Nat → Bool) (w1 : World), (∀ i, i < ops.size → fl i = false) → Below w0.heap.size w0 w1 → w1.heap = w0.heap → S fl (slotOf a0) w1)
    (hop : HopD F m P ops Q n a0 S K D l 0 ops.toList) (hq : ∀ a w, BehZ ops n a0 S l a w → Q .normal a w) : (Code.region id ops true).wpIn F m P Q a0 w0 := by
  simp only [Bool.and_eq_true] at hk
  obtain ⟨⟨h1, h2⟩, h3⟩ := hk
  refine wpIn_regx S (TabO l) hm (back_of h1) (dst_of h2) (in_ofz h3 hz) (fun fl w1 hfl hw => ?_) ?_ ?_
  · subst hw
    exact h0 fl _ hfl (Below.drew (Below.refl _ _)) rfl
  · intro i o a w fl ho hS hfi clo hsz hrest hdone hund
    have := hop i o (by rw [Array.getElem?_toList]; exact ho) fl a w
    rw [Nat.zero_add] at this
    exact this ⟨hl, ho, hS, hfi, clo, hsz.trans hz, hrest, hdone, hund⟩
  · intro a w fl hd hs hrest hR hfl hS
    refine hq a w ⟨hd.trans hd0, hs.trans hz, fun j hj x hx => (hrest j (not_of hj)).trans hx, fun i o d x ho hod hl => ?_, fl, hfl, hS⟩
    have := hR i o ho
    unfold TabO at this
    rw [hl] at this
    unfold own at this
    rw [hod] at this
    exact this
end
/-- The frame behind a region, written out. -/
theorem frame_of {ops : Array Oper} {a0 a : Act} (hsz : a.tmps.size = a0.tmps.size) (hd' : a.defers = a0.defers) (rest : ∀ j, (∀ (i : Nat) (o : Oper), ops[i]? = some o → o.dst ≠ some j) → a.tmps.getD j undef = a0.tmps.getD j undef) :
    a = ⟨putAll a0.tmps (outs ops fun d => a.tmps.getD d undef), a0.defers⟩ := by
  have e : a.tmps = putAll a0.tmps (outs ops fun d => a.tmps.getD d undef) := by
    apply Array.ext_getElem?
    intro j
    by_cases hj : j < a0.tmps.size
    · by_cases hd : ∃ (i : Nat) (o : Oper), ops[i]? = some o ∧ o.dst = some j
      · obtain ⟨i, o, ho, hd⟩ := hd
        rw [putAll_mem (fun d => a.tmps.getD d undef) _ _ j hj]
        · have hj' : j < a.tmps.size := by rw [hsz]; exact hj
          rw [Array.getElem?_eq_getElem hj']
          simp [Array.getD_eq_getD_getElem?, Array.getElem?_eq_getElem hj']
        · intro p hp
          unfold outs at hp
          rw [List.mem_filterMap] at hp
          obtain ⟨i', _, he⟩ := hp
          rw [Option.map_eq_some_iff] at he
          obtain ⟨d, _, rfl⟩ := he
          rfl
        · refine ⟨(j, a.tmps.getD j undef), ?_, rfl⟩
          unfold outs
          rw [List.mem_filterMap]
          exact ⟨i, List.mem_range.2 (Array.getElem?_eq_some_iff.1 ho).1, by rw [ho]; simp [hd]⟩
      · have hr := rest j (fun i o ho hd' => hd ⟨i, o, ho, hd'⟩)
        rw [putAll_other]
        · have hj' : j < a.tmps.size := by rw [hsz]; exact hj
          rw [Array.getElem?_eq_getElem hj', Array.getElem?_eq_getElem hj]
          simp only [Array.getD_eq_getD_getElem?, Array.getElem?_eq_getElem hj', Array.getElem?_eq_getElem hj, Option.getD_some] at hr
          rw [hr]
        · intro p hp e
          unfold outs at hp
          rw [List.mem_filterMap] at hp
          obtain ⟨i', _, he⟩ := hp
          rw [Option.map_eq_some_iff] at he
          obtain ⟨d, hd', rfl⟩ := he
          rw [Option.bind_eq_some_iff] at hd'
          obtain ⟨o, ho, hd'⟩ := hd'
          exact hd ⟨i', o, ho, by rw [hd', ← e]⟩
    · rw [Array.getElem?_eq_none (by rw [hsz]; omega), Array.getElem?_eq_none (by rw [putAll_size]; omega)]
  have ea : a = ⟨putAll a0.tmps (outs ops fun d => a.tmps.getD d undef), a0.defers⟩ := by
    rw [← e, ← hd']
  exact ea
theorem not_chk {ops : Array Oper} {j : Nat} (h : ∀ (i : Nat) (o : Oper), ops[i]? = some o → o.dst ≠ some j) : chkNot ops j = true := by
  unfold chkNot
  rw [List.all_eq_true]
  intro i _
  cases ho : ops[i]? with
  | none => rfl
  | some o =>
    cases hd : o.dst with
    | none => simp [hd]
    | some d =>
      have := h i o ho
      rw [hd] at this
      simp only [hd]
      simpa using this
theorem BehZ.frame {ops : Array Oper} {n : Nat} {a0 : Act} {S : (Nat → Bool) → (Nat → Value) → World → Prop} {l : List (Option Value)} {a : Act} {w : World} (f : BehZ ops n a0 S l a w) (h0 : a0.tmps.size = n) (hd : a0.defers = []) : a = ⟨putAll a0.tmps (outs ops fun d => a.tmps.getD d undef), []⟩ := by
  have := frame_of (ops := ops) (a0 := a0) (a := a) (f.z.trans h0.symm) (f.d.trans hd.symm) (fun j hj => f.r j (not_chk hj) rfl)
  rw [hd] at this
  exact this
end Go.Proofs.Ythhgcbegcbhaeaa

namespace Go.Proofs.Ythhgcbegcbhaeaa.Mdl
open Go.RowKit Go.Maps Ins Trc
set_option linter.unusedVariables false
set_option linter.unusedSimpArgs false
set_option maxRecDepth 100000

theorem its_with {E E' : Env} (hk : E'.kf = E.kf) (hx : E'.x = E.x) (D : Pl) : ∀ k, its E' D k = its E D k
  | 0 => rfl
  | k + 1 => by
    show (its E' D k).step E'.kf (E'.x (its E' D k).ix) = (its E D k).step E.kf (E.x (its E D k).ix)
    rw [its_with hk hx D k, hk, hx]
theorem goes_with {E E' : Env} (hk : E'.kf = E.kf) (hx : E'.x = E.x) (D : Pl) (k : Nat) : Goes E' D k ↔ Goes E D k := by
  unfold Goes
  simp only [its_with hk hx]
theorem done_with {E E' : Env} (hk : E'.kf = E.kf) (hx : E'.x = E.x) (D : Pl) (m : Nat) : Done E' D m ↔ Done E D m := by
  unfold Done
  simp only [its_with hk hx, goes_with hk hx]
/-- The places of the first rounds, and what the state is ahead of each. -/
def snapsE (E : Env) (D : Pl) (k : Nat) : List (Int × List Value) := (List.range k).map (fun j => ((its E D j).at_, (its E D j).snap))
theorem snapsE_succ (E : Env) (D : Pl) (k : Nat) : snapsE E D (k + 1) = snapsE E D k ++ [((its E D k).at_, (its E D k).snap)] := by simp [snapsE, List.range_succ]
theorem snapsE_len (E : Env) (D : Pl) (k : Nat) : (snapsE E D k).length = k := by simp [snapsE]
def YE (E : Env) (D : Pl) (pre : List (Int × List Value)) (x : Int × List Value) (W : World) : Prop := ∃ k, Goes E D k ∧ 0 < (its E D k).fuel ∧ pre = snapsE E D k ∧ x = ((its E D k).at_, (its E D k).snap)
def SE (E : Env) (D : Pl) (xs : List (Int × List Value)) (W : World) : Prop := ∃ m, Done E D m ∧ xs = snapsE E D m
def SpE (E : Env) (D : Pl) (pre : List (Int × List Value)) (W : World) : Prop := ∃ k, Goes E D k ∧ 0 < (its E D k).fuel ∧ pre = snapsE E D (k + 1)
def encE (x : Int × List Value) : Array Value := #[.int .i64 x.1, .agg x.2.toArray]
/-- What a body leaves alone. -/
def σE (t : TypeId) : Bool := σM t || t == 66 || t == 59
theorem keepE {A B : World} (h : KeepT σE A B) : KeepT σM A B := ⟨h.size, fun k o hk ho => h.same k o hk (by
  cases o with
  | cells c t fr =>
    change σM t = true at ho
    show (σM t || _ || _) = true
    rw [ho]; rfl
  | _ => cases ho)⟩
theorem keepE_row {A B : World} (h : KeepT σE A B) {g : Nat} {c : Array Value} {t : TypeId} {fr : Nat × Nat} (hg : A.heap[g]? = some (.cells c t fr)) (ht : σE t = true) : B.heap[g]? = some (.cells c t fr) := h.same g _ hg ht

section
variable {F : Fence} {n m : Nat} {P : Program} {ops : Array Oper} {Q : Exit → Act → World → Prop} {i : Nat} {o : Oper} {K : Act → World → Prop} {a : Act} {w w' : World}
theorem wpOpIn_yield2 (hF : ∀ f, F.fn f) (hn : F.depth = none) (ho : ops[i]? = some o) (hw : Region.wanted o (yielded ops a.tmps) = true) {l : Nat} {x y z : Operand} {ts : Array TypeId} {v u : Value} (hop : o.op = .call ⟨.value x, #[y, z], ts⟩) (hx : a.eval x = .func (.yield l) #[] #[]) (hy : a.eval y = v) (hz : a.eval z = u)
    (h : YieldAt F (n - 1) P l #[v, u] w fun e w' => ∃ v, e = .returned v ∧ K (a.put o.dst v) w') : wpOpIn F n P ops Q i K a w := by
  unfold wpOpIn
  rw [ho]
  simp only [hw, if_true]
  refine ⟨fun f _ => hF f, ?_⟩
  obtain ⟨fn, tmps, assign, body, h1, h2⟩ := h
  have hr : (execOp a.eval o).run P w = .ok (.round l fn tmps assign body) w := by
    simp only [execOp, hop, List.map_toArray, List.map_cons, List.map_nil, resolve, hx, hy, hz, Deferred.ofValue, invoke, callFunc, Sem.run_bind, Sem.run_pure, Result.andThen_ok]
    simpa using h1
  rw [Oper.semAt_eq _ _ _ (fun c e => by rw [hop] at e; cases e), hr]
  refine ⟨fun h => (by rw [hn] at h; cases h), RoundIn.mono h2 ?_⟩
  rintro e w2 ⟨v, rfl, hk⟩
  exact hk
theorem yieldAt_in {l l' n m : Nat} {P : Program} {args : Array Value} {W : World} {R : Ending → World → Prop} (h : YieldAt Fence.wide n P l' args W R) : YieldAt (Fence.wide.inRound l) m P l' args W R := by
  obtain ⟨fn, tmps, assign, body, h1, h2⟩ := h
  exact ⟨fn, tmps, assign, body, h1, h2.1, fun c cs hroom => h2.2 c cs (room_wide _)⟩
end

/-- While a place is handed on: yield (4), whether it goes on (5). -/
def S9 (A B C : World → Prop) (fl : Nat → Bool) (u : Nat → Value) (w : World) : Prop := (fl 4 = false ∧ A w) ∨ (fl 4 = true ∧ ∃ bb : Bool, u 17 = .bool bb ∧ (fl 5 = true → u 18 = .bool (!bb)) ∧ (match bb with | true => B w | false => C w))
section
variable {A B C : World → Prop} {fl : Nat → Bool} {u : Nat → Value} {w : World}
theorem S9.loc : Loc [4, 5] [17, 18] (S9 A B C) := by
  intro fl fl' u u' w hK hD h
  unfold S9 at *
  simp only [hK 4 (by decide), hK 5 (by decide), hD 17 (by decide), hD 18 (by decide)]
  exact h
theorem S9.was (h : S9 A B C fl u w) (f : fl 4 = false) : A w := by
  rcases h with h | h
  · exact h.2
  · rw [f] at h; cases h.1
end
set_option maxHeartbeats 16000000 in
theorem each_seq (E : Env) (F : Fine E) (D : Pl) (H : Runs E D) (hfin : D.fin = 0) (he : D.evs = []) (eB gB n : Nat) (hn : 2 ≤ n) (w0 : World) (R0 : Rel E D w0) (h1 : w0.heap[eB]? = some (.cells #[.int .i64 0] 34 (0, 0))) (h2 : w0.heap[gB]? = some (.cells #[.pointer (some ⟨E.g, 0, none⟩)] 59 (0, 0))) :
    SeqG τM σE w0.heap.size n Try.prog 24 #[] #[.pointer (some ⟨eB, 0, none⟩), .pointer (some ⟨gB, 0, none⟩)] encE (YE E D) (SE E D) (SpE E D) w0 := by
  intro l J Jx W hB hJ hJx hY hJ0
  have mo : Try.prog.follows .mixedOrders = true := by kernel_rfl
  have R := (R0.still hB).1
  have hzW := hB.size
  have hmf : ∀ (fn : Fn) (first cap : Array Value) (w : World), (Instr.makeFunc fn first cap).run Try.prog w = .ok (.func fn first cap) w := fun _ _ _ _ => rfl
  have ce := brow hB h1
  have cg := brow hB h2
  have x1 : W.cell? ⟨eB, 0, none⟩ = some (.int .i64 0) := by simp only [World.cell?, ce]; rfl
  have x2 : W.cell? ⟨gB, 0, none⟩ = some (.pointer (some ⟨E.g, 0, none⟩)) := by simp only [World.cell?, cg]; rfl
  have l1 := lt_of_cell x1
  have l2 := lt_of_cell x2
  have b1 := below_new (Below.refl W.heap.size W) (.cells #[.func (.yield l) #[] #[]] 66)
  have R1 := Lib.hid (R.still b1).1
  have r1 := heap_last W (.cells #[.func (.yield l) #[] #[]] 66) _ rfl
  have J0 := Lib.hid hJ0
  have HJ := Lib.hid hJ
  have HJX := Lib.hid hJx
  have HY := Lib.hid hY
  clear hJ0 hJ hJx hY R0 R ce cg hB h1 h2
  show CallsIn Fence.wide n Try.prog 24 #[.func (.yield l) #[] #[], .pointer (some ⟨eB, 0, none⟩), .pointer (some ⟨gB, 0, none⟩)] W _
  refine callsIn_of_wp_marks Try.func24 rfl trivial ?_ rfl
  simp only [Try.ntmps24, List.size_toArray, List.length_cons, List.length_nil, Nat.reduceAdd, Nat.reduceSub, Array.replicate_succ, Array.replicate_zero, List.push_toArray, List.append_toArray, List.nil_append, List.cons_append]
  refine (wpIn_wide (n := n)).2 ?_
  go_wp2_with fail
  generalize W.alloc (.cells #[.func (.yield l) #[] #[]] 66) = w1 at *
  refine (again_any E D w1 R1.out he).mono ?_
  rintro e w2 ⟨g, b, rfl, hg, b2, R2⟩
  have hW1 := b1.size
  have r2 := brow b2 r1
  have b3 := below_new (Below.refl w2.heap.size w2) (.cells #[.pointer (some ⟨g, 0, none⟩)] 59)
  have r3 := brow b3 r2
  have q3 := heap_last w2 (.cells #[.pointer (some ⟨g, 0, none⟩)] 59) _ rfl
  have b13 := (b1.trans (b2.mono hW1)).trans (b3.mono (Nat.le_trans hW1 b2.size))
  obtain ⟨E2, hE2⟩ : ∃ E2 : Env, E2 = { E with g := g, b := b, β := w1.heap.size } := ⟨_, rfl⟩
  have R2' : Rel E2 D w2 := by rw [hE2]; exact R2
  have eg : E2.g = g := by rw [hE2]
  have eβ : E2.β = w1.heap.size := by rw [hE2]
  have ekf : E2.kf = E.kf := by rw [hE2]
  have ex : E2.x = E.x := by rw [hE2]
  have F2 : Fine E2 := by rw [hE2]; exact ⟨F.le, F.len, F.may, F.ok, F.jumps, F.into, F.on⟩
  have H2 : Runs E2 D := by rw [hE2]; exact ⟨H.lo, H.hi, H.few, H.fuel⟩
  have SEQ := Lib.hid (run_seq E2 F2 D H2 hfin (n - 1) w2 R2')
  have hz2 := b2.size
  have J3 := Lib.hid (HJ.out _ _ _ J0.out (.of_below b13))
  have HB3 := Lib.hid b3
  clear R1 R2 R2' J0 r2 b2 b1 r1 b13 hE2 x1 x2
  subst eg
  go_wp2_with fail
  generalize w2.alloc (.cells #[.pointer (some ⟨E2.g, 0, none⟩)] 59) = w3 at *
  have hz3 := b3.size
  clear b3
  refine (wpIn_wide (n := n)).1 ?_
  refine range_T (by omega) (gf := 19) (pa := #[.pointer (some ⟨E2.g, 0, none⟩)]) (lb := #[]) rfl (enters_of Try.func19 (by kernel_rfl) rfl) SEQ.out HB3.out (fun _ => rfl)
    (fun pre w => J (snapsE E D pre.length) w ∧ w.heap[W.heap.size]? = some (.cells #[.func (.yield l) #[] #[]] 66 (0, 0)) ∧ w.heap[w2.heap.size]? = some (.cells #[.pointer (some ⟨E2.g, 0, none⟩)] 59 (0, 0)))
    (fun cc pre w => cc = .ret ∧ Jx (snapsE E D pre.length) w)
    (OwnFrom.and (fun s X Y row hs hgr hr => HJ.out _ X Y hs (.of_grown hgr (fun j e => by have := (hr j e).1; omega))) (OwnFrom.and (row_own _ _ _ _) (row_own _ _ _ _))) (Yr.own E2 _ _)
    (fun cc s X Y row hs hgr hr => ⟨hs.1, HJX.out _ X Y hs.2 (.of_grown hgr (fun j e => by have := (hr j e).1; omega))⟩)
    (fun s A B h t => ⟨HJ.out _ A B h.1 (TurnG.of_T t (by omega)), Turn.row t h.2.1 (by decide), Turn.row t h.2.2 (by decide)⟩)
    (fun cc s A B h t => ⟨h.1, HJX.out _ A B h.2 (TurnG.of_T t (by omega))⟩) (Sr.own E2 _ _) (Spr.own E2 _ _) ⟨J3.out, r3, q3⟩ ?a1 ?assign ?body ?done ?stop
  case assign =>
    intro l x W K hK
    refine in_region (by decide) (fun _ _ h => h) ?_
    intro K2 hK2
    go_wp2_with fail
    exact hK
  case body =>
    rintro l9 pre x9 W9 ⟨j1, j2, j3⟩ ⟨k, y1, y2, rfl, rfl, y5⟩
    have hlen : (ats E2 D k).length = k := ats_len _ _ _
    rw [hlen] at j1
    have gk : Goes E D k := (goes_with ekf ex D k).1 y1
    have ei : its E2 D k = its E D k := its_with ekf ex D k
    rw [ei] at y2 y5
    have SN := Lib.hid (fun w (b : Below W9.heap.size W9 w) => snap_any E2 (its E D k) w (y5.still b).1)
    have YD := Lib.hid (fun w (b : Below W9.heap.size W9 w) => HY.out (snapsE E D k) ((its E D k).at_, (its E D k).snap) w (HJ.out _ W9 w j1 (.of_below b)) ⟨k, gk, y2, rfl, rfl⟩)
    rw [ei]
    refine wpIn_block ?_
    refine wpIn_seq ?_
    refine go_regd (F := Fence.wide.inRound l9) (m := n - 1 - 1) (S9 (fun w => Below W9.heap.size W9 w) (fun w => J (snapsE E D (k + 1)) w ∧ KeepT σE W9 w ∧ KeepsFrom W.heap.size W9 w) (fun w => Jx (snapsE E D (k + 1)) w ∧ KeepT σE W9 w ∧ KeepsFrom W.heap.size W9 w)) [4, 5] [17, 18] [some (.func (.yield l) #[] #[]), some (.int .i64 (its E D k).at_), some (.pointer (some ⟨E2.g, 0, none⟩)), some (.agg (its E D k).snap.toArray), none, none] mo S9.loc rfl rfl (by kernel_rfl) (fun fl w1 hfl b _ => .inl ⟨hfl 4 (by decide), b⟩) (
     yc (@fun fl ax wx cx => cx.iv (fun _ => trivial) (ex_ld rfl (cx.rq 3 rfl) (brow (cx.S.was (cx.later 4 (by kernel_rfl))) j2) rfl Try.isAgg66) rfl rfl rfl) <|
     yc (@fun fl ax wx cx => cx.iv (fun _ => trivial) (ex_mv rfl (cx.rq 5 rfl)) rfl rfl rfl) <|
     yc (@fun fl ax wx cx => cx.iv (fun _ => trivial) (ex_ld rfl (cx.rq 4 rfl) (brow (cx.S.was (not_yet (i := 3) (k := 4) cx.clo (cx.later 3 (by kernel_rfl)) (by kernel_rfl))) j3) rfl Try.isAgg59) rfl rfl rfl) <|
     yc (@fun fl ax wx cx => by
       have f4 := cx.later 4 (by kernel_rfl)
       have hb := cx.S.was f4
       refine wpOpIn_call (fun _ => trivial) rfl cx.ho (wn rfl) (noDefer_of rfl) (exec_call rfl rfl rfl (args1 (cx.u 0 rfl)) Try.func26 (by decide +kernel) (by decide +kernel)) ((callsIn_wide (n := n - 1 - 1 - 1)).2 ((SN.out wx hb).mono ?_))
       rintro e w' ⟨rfl, b9⟩
       exact ⟨_, rfl, _, rfl, own_some (n := 19) rfl cx.sz rfl, .inl ⟨(upd_old fl rfl).trans f4, hb.trans (b9.mono hb.size)⟩⟩) <|
     yc (@fun fl ax wx cx => by
       have f4 : fl 4 = false := cx.fi
       have hb := cx.S.was f4
       refine wpOpIn_yield2 (fun _ => trivial) rfl cx.ho (wn rfl) rfl (cx.u 0 rfl) (cx.u 1 rfl) (cx.u 2 rfl) (yieldAt_in (n := n - 1) ?_)
       refine YieldAt.mono (YD.out wx hb) ?_
       rw [← snapsE_succ]
       have kb : KeepT σE W9 wx := ⟨hb.size, fun q o hq _ => brow hb hq⟩
       have kf : KeepsFrom W.heap.size W9 wx := ⟨hb.size, fun q o _ hq _ => brow hb hq⟩
       rintro e w9 (⟨rfl, h1, h2, h3⟩ | ⟨rfl, h1, h2, h3⟩)
       · exact ⟨_, rfl, _, rfl, trivial, .inr ⟨upd_new _ _, true, slot_new cx.sz rfl, fun h => absurd ((upd_old fl rfl).symm.trans h) (by rw [cx.later 5 (by kernel_rfl)]; decide), h1, kb.trans h2, kf.trans h3⟩⟩
       · exact ⟨_, rfl, _, rfl, trivial, .inr ⟨upd_new _ _, false, slot_new cx.sz rfl, fun h => absurd ((upd_old fl rfl).symm.trans h) (by rw [cx.later 5 (by kernel_rfl)]; decide), h1, kb.trans h2, kf.trans h3⟩⟩) <|
     yc (@fun fl ax wx cx => by
       rcases cx.S with h | ⟨h, bb, h17, _, h2⟩
       · exact absurd h.1 (by rw [show fl 4 = true from cx.did 0 rfl rfl]; decide)
       · refine wpOpIn_v (fun _ => trivial) cx.ho (wn rfl) (noDefer_of rfl) (ex_not (x := .tmp 17) (c := bb) rfl (show ax.eval (.tmp 17) = _ from h17)) ⟨_, rfl, trivial, ?_⟩
         exact .inr ⟨(upd_old fl rfl).trans h, bb, (slot_old rfl).trans h17, fun _ => slot_new cx.sz rfl, h2⟩) <|
     yn) ?_
    intro a9 w9 f9
    obtain ⟨fl, hfl, hs⟩ := f9.s
    rcases hs with hs | ⟨_, bb, _, h18, hs⟩
    · exact absurd hs.1 (by rw [hfl 4 (by decide)]; decide)
    have h18 := h18 (hfl 5 (by decide))
    cases bb with
    | true =>
      obtain ⟨hj9, kp9, kf9⟩ := hs
      refine wpIn_cond_false (show a9.eval (.tmp 18) = .bool false from h18) ?_
      refine wpIn_skip ?_
      refine ⟨⟨kf9.size, fun q o hq h ho => kf9.same q o (by omega) h ho⟩, keepE kp9, ?_, keepE_row kp9 j2 (by decide), keepE_row kp9 j3 (by decide)⟩
      rw [List.length_append, hlen]; exact hj9
    | false =>
      obtain ⟨hj9, kp9, kf9⟩ := hs
      refine wpIn_cond_true (show a9.eval (.tmp 18) = .bool true from h18) ?_
      refine wpIn_ret ?_
      refine ⟨⟨kf9.size, fun q o hq h ho => kf9.same q o (by omega) h ho⟩, keepE kp9, rfl, ?_⟩
      rw [List.length_append, hlen]; exact hj9
  case stop =>
    rintro D9 c pre W9 hD ⟨k, s1, s2, rfl⟩ ⟨rfl, hx⟩ hK
    rw [ats_len] at hx
    have FO := Lib.hid (show ∃ pre, SpE E D pre (W9.putObj D9 (.deferred none)) ∧ Jx pre (W9.putObj D9 (.deferred none)) from
      ⟨_, ⟨k, (goes_with ekf ex D k).1 s1, by rw [← its_with ekf ex D k]; exact s2, rfl⟩, HJX.out _ W9 _ hx ⟨rfl, rfl, rfl, by simp [World.putObj], fun q o hq hg _ => (World.putObj_heap_other (by omega)).trans hq⟩⟩)
    clear hx s1 s2
    refine (wpIn_wide (n := n)).2 ?_
    go_wp2_with fail
    exact ⟨by simp, .inl ⟨_, _, rfl, run_takeDeferred hK, _, results_none rfl _ _ _, ⟨_, rfl⟩, .inr FO.out⟩⟩
  case done =>
    rintro D9 xs W9 hD ⟨m, hm, rfl, R9⟩ ⟨j9, _, _⟩ hK
    rw [ats_len] at j9
    have FO := Lib.hid (show ∃ xs, SE E D xs (W9.putObj D9 (.deferred none)) ∧ J xs (W9.putObj D9 (.deferred none)) from
      ⟨_, ⟨m, (done_with ekf ex D m).1 hm, rfl⟩, HJ.out _ W9 _ j9 ⟨rfl, rfl, rfl, by simp [World.putObj], fun q o hq hg _ => (World.putObj_heap_other (by omega)).trans hq⟩⟩)
    clear j9 hm R9
    go_wp2_with fail
    exact ⟨by simp, .inl ⟨_, _, rfl, run_takeDeferred hK, _, results_none rfl _ _ _, ⟨_, rfl⟩, .inl FO.out⟩⟩
end Go.Proofs.Ythhgcbegcbhaeaa.Mdl

namespace Go.Proofs.Ythhgcbegcbhaeaa.Mdl
open Go.RowKit Go.Maps Ins Trc
set_option linter.unusedVariables false
set_option linter.unusedSimpArgs false
set_option maxRecDepth 100000

theorem exe_next {D : Pl} {kf : Nat → Int} {x : In} (h : (D.exe kf x).2 = 0) :
    ((D.exe kf x).1.at_ = D.at_ ∨ ((x.kind = 3 ∨ x.kind = 4) ∧ (D.exe kf x).1.at_ = targetI (D.at_ - 1) x)) ∧ (x.kind = 4 → (D.exe kf x).1.at_ = targetI (D.at_ - 1) x) ∧ (0 ≤ x.kind → x.kind < 7 → ¬ x.kind = 6) := by
  unfold Pl.exe at h ⊢
  by_cases k0 : x.kind = 0
  · rw [if_pos k0] at h ⊢; exact ⟨.inl rfl, fun e => by omega, fun _ _ => by omega⟩
  rw [if_neg k0] at h ⊢
  by_cases k1 : x.kind = 1
  · rw [if_pos k1] at h ⊢
    refine ⟨.inl ?_, fun e => by omega, fun _ _ => by omega⟩
    split <;> rfl
  rw [if_neg k1] at h ⊢
  by_cases k2 : x.kind = 2
  · rw [if_pos k2] at h ⊢
    refine ⟨.inl ?_, fun e => by omega, fun _ _ => by omega⟩
    split <;> rfl
  rw [if_neg k2] at h ⊢
  by_cases k3 : x.kind = 3
  · rw [if_pos k3] at h ⊢
    refine ⟨?_, fun e => by omega, fun _ _ => by omega⟩
    show ((if holdsB x.op 64 (D.r x.dst.toNat) (D.opd x) = true then _ else _ : Pl)).at_ = _ ∨ _ ∧ ((if holdsB x.op 64 (D.r x.dst.toNat) (D.opd x) = true then _ else _ : Pl)).at_ = _
    by_cases hh : holdsB x.op 64 (D.r x.dst.toNat) (D.opd x) = true
    · rw [if_pos hh]; exact .inr ⟨.inl k3, rfl⟩
    · rw [if_neg hh]; exact .inl rfl
  rw [if_neg k3] at h ⊢
  by_cases k4 : x.kind = 4
  · rw [if_pos k4] at h ⊢
    exact ⟨.inr ⟨.inr k4, rfl⟩, fun _ => rfl, fun _ _ => by omega⟩
  rw [if_neg k4] at h ⊢
  by_cases k5 : x.kind = 5
  · rw [if_pos k5] at h ⊢
    refine ⟨.inl ?_, fun e => by omega, fun _ _ => by omega⟩
    cases D.ans <;> rfl
  rw [if_neg k5] at h
  exact absurd h (by show ¬ (1 : Int) = 0; decide)
/-- Where the next round stands. -/
theorem step_next {E : Env} (F : Fine E) {D : Pl} (R : Runs E D) (h : (D.step E.kf (E.x D.ix)).fin = 0) :
    ((D.step E.kf (E.x D.ix)).at_ = D.at_ + 1 ∨ (((E.x D.ix).kind = 3 ∨ (E.x D.ix).kind = 4) ∧ (D.step E.kf (E.x D.ix)).at_ = targetI D.at_ (E.x D.ix))) ∧ ((E.x D.ix).kind = 4 → (D.step E.kf (E.x D.ix)).at_ = targetI D.at_ (E.x D.ix)) ∧ ¬ (E.x D.ix).kind = 6 := by
  have hm := F.may _ R.ix.1
  obtain ⟨_, _, _, _, hc⟩ := mayI_cases hm
  cases hr : (andM D.set (readsM (E.x D.ix)) == readsM (E.x D.ix)) with
  | false => rw [step_no hr] at h; exact absurd h (by show ¬ (3 : Int) = 0; decide)
  | true =>
    rw [step_yes hr] at h ⊢
    have := exe_next (D := D.adv) (kf := E.kf) (x := E.x D.ix) h
    rw [show D.adv.at_ - 1 = D.at_ from by show D.at_ + 1 - 1 = _; omega] at this
    exact ⟨this.1, this.2.1, this.2.2 (by omega) (by omega)⟩

set_option maxHeartbeats 4000000 in
theorem visits_bad (r : Int) (hr : ¬ r = 0) (c : Int) (pa : Option Addr) (plen pcap : Nat) (ca : Option Addr) (cl cc : Nat) (aa : Option Addr) (al ac : Nat) (fuel : Int) (W : World)
    (ST : ∀ w, Below W.heap.size W w → Calls Try.prog 18 #[.agg #[.int .i64 c, .slice pa plen pcap], .slice ca cl cc, .slice aa al ac, .int .i64 fuel] w fun e w' => e = .returned (.tuple #[.pointer none, .int .i64 r]) ∧ Below w.heap.size w w') :
    Calls Try.prog 14 #[.agg #[.int .i64 c, .slice pa plen pcap], .slice ca cl cc, .slice aa al ac, .int .i64 fuel] W fun e w' => e = .returned (.slice none 0 0) ∧ Below W.heap.size W w' := by
  have ST := Lib.hid ST
  have e0 : (r != 0) = true := by simpa using hr
  have bx0 := below_new (Below.refl W.heap.size W) (.cells #[.int .i64 c, .slice pa plen pcap] 24)
  clear hr
  refine (callsIn_wide (n := 3)).1 (callsIn_of_wp_marks Try.func14 rfl trivial ?_ rfl)
  simp only [Try.ntmps14, List.size_toArray, List.length_cons, List.length_nil, Nat.reduceAdd, Nat.reduceSub, Array.replicate_succ, Array.replicate_zero, List.push_toArray, List.append_toArray, List.nil_append, List.cons_append]
  refine (wpIn_wide (n := 3)).2 ?_
  go_wp2_with fail
  generalize W.alloc (.cells #[.int .i64 c, .slice pa plen pcap] 24) = w0 at *
  refine (ST.out _ bx0).mono ?_
  rintro e w1 ⟨rfl, b1⟩
  have bx1 := Lib.hid (bx0.trans (b1.mono bx0.size))
  clear ST bx0 b1
  go_wp2_with fail
  exact ⟨_, res_t rfl rfl, rfl, bx1.out⟩

/-- The iterator where it may not run: nothing. -/
theorem each_none (r : Int) (hr : ¬ r = 0) (eB gB n : Nat) (w0 : World) (h1 : w0.heap[eB]? = some (.cells #[.int .i64 r] 34 (0, 0))) (Y : List (Int × List Value) → Int × List Value → World → Prop) :
    SeqG τM σE w0.heap.size n Try.prog 24 #[] #[.pointer (some ⟨eB, 0, none⟩), .pointer (some ⟨gB, 0, none⟩)] encE Y (fun xs _ => xs = []) (fun _ _ => False) w0 := by
  intro l J Jx W hB hJ hJx hY hJ0
  have ce := brow hB h1
  have x1 : W.cell? ⟨eB, 0, none⟩ = some (.int .i64 r) := by simp only [World.cell?, ce]; rfl
  have l1 := lt_of_cell x1
  have e0 : (r != 0) = true := by simpa using hr
  have b1 := below_new (Below.refl W.heap.size W) (.cells #[.func (.yield l) #[] #[]] 66)
  have J1 := Lib.hid (hJ _ _ _ hJ0 (.of_below b1))
  clear hJ0 hJ hJx hY ce hB h1 hr b1
  show CallsIn Fence.wide n Try.prog 24 #[.func (.yield l) #[] #[], .pointer (some ⟨eB, 0, none⟩), .pointer (some ⟨gB, 0, none⟩)] W _
  refine callsIn_of_wp_marks Try.func24 rfl trivial ?_ rfl
  simp only [Try.ntmps24, List.size_toArray, List.length_cons, List.length_nil, Nat.reduceAdd, Nat.reduceSub, Array.replicate_succ, Array.replicate_zero, List.push_toArray, List.append_toArray, List.nil_append, List.cons_append]
  refine (wpIn_wide (n := n)).2 ?_
  go_wp2_with fail
  exact ⟨_, results_none rfl _ _ _, ⟨_, rfl⟩, .inl ⟨[], rfl, J1.out⟩⟩

theorem done_le {E : Env} {D : Pl} {m : Nat} (h : Done E D m) (h0 : 0 ≤ D.fuel) : (m : Int) ≤ D.fuel := by
  rcases h with ⟨g, _⟩ | ⟨k, rfl, _, f, _⟩
  · cases m with
    | zero => exact h0
    | succ k =>
      have := (g k (by omega)).1
      rw [itsV_fuel] at this
      omega
  · rw [itsV_fuel] at f
    omega
/-! ### The laws that go over the places: what lies ahead of the loop, what a round's variable lies in -/
theorem ats_snaps (E : Env) (D : Pl) (k : Nat) : (snapsE E D k).map (·.1) = ats E D k := by simp [snapsE, ats]
def lastL (pre : List (Int × List Value)) : Int := (pre.getLast?.map (·.1)).getD (-1)
theorem lastL_zero (E : Env) (D : Pl) : lastL (snapsE E D 0) = -1 := rfl
theorem lastL_succ (E : Env) (D : Pl) (k : Nat) : lastL (snapsE E D (k + 1)) = (its E D k).at_ := by
  unfold lastL
  rw [snapsE_succ, List.getLast?_append]
  rfl
/-- What a round begins with: the variable's box. -/
def AxC (fr : Int → List Value → Nat → Act) (B : Nat) (I : List (Int × List Value) → World → Prop) (Yk : List (Int × List Value) → Int × List Value → World → Prop) (pre : List (Int × List Value)) (x : Int × List Value) (a' : Act) (W' : World) : Prop :=
  ∃ sb, a' = fr x.1 x.2 sb ∧ I pre W' ∧ Yk pre x W' ∧ W'.heap[sb]? = some (.cells x.2.toArray 51 (0, 0)) ∧ B ≤ sb
theorem AxC.own {fr : Int → List Value → Nat → Act} {B B' : Nat} {I : List (Int × List Value) → World → Prop} {Yk : List (Int × List Value) → Int × List Value → World → Prop} (hI : OwnFrom B I) (hY : ∀ x, OwnFrom B (fun pre => Yk pre x)) (pre : List (Int × List Value)) (x : Int × List Value) (a' : Act) : OwnFrom B (fun (_ : Unit) W => AxC fr B' I Yk pre x a' W) :=
  fun s X Y row ⟨sb, h1, h2, h3, h4, h5⟩ hg hr => ⟨sb, h1, hI _ X Y row h2 hg hr, hY x _ X Y row h3 hg hr, row_own B sb _ _ () X Y row h4 hg hr, h5⟩
theorem YE.own (E : Env) (D : Pl) (B : Nat) (x : Int × List Value) : OwnFrom B (fun pre => YE E D pre x) := fun _ _ _ _ h _ _ => h
theorem SE.own (E : Env) (D : Pl) (B : Nat) : OwnFrom B (SE E D) := fun _ _ _ _ h _ _ => h
theorem SpE.own (E : Env) (D : Pl) (B : Nat) : OwnFrom B (SpE E D) := fun _ _ _ _ h _ _ => h
/-- ModelCounts, while the places are gone over. -/
structure CW (W : World) (c : Int) (b o plen pcap g2 g4 V g6 : Nat) (oc : Array Value) (fm : List Int) (pre : List (Int × List Value)) (w : World) : Prop where
  bel : Below W.heap.size W w
  prog : w.heap[W.heap.size]? = some (.cells #[.int .i64 c, .slice (some ⟨b, o, none⟩) plen pcap] 24 (0, 0))
  res : w.heap[W.heap.size + 1]? = some (.cells #[.bool false] 4 (0, 0))
  out : w.heap[g2]? = some (.cells oc 33 (0, 0))
  vis : w.heap[g4]? = some (.cells #[.slice (some ⟨V, 0, none⟩) plen plen] 43 (0, 0))
  n : w.heap[g6]? = some (.cells #[.int .i64 pre.length] 3 (0, 0))
  last : w.heap[g6 + 1]? = some (.cells #[.int .i64 (lastL pre)] 3 (0, 0))
  row : w.rowIs V 3 plen (fun i => .int .i64 (cntP fm i - cntP (pre.map (·.1)) i))
theorem CW.mv {W : World} {c : Int} {b o plen pcap g2 g4 V g6 : Nat} {oc : Array Value} {fm : List Int} {pre : List (Int × List Value)} {w w' : World} (h : CW W c b o plen pcap g2 g4 V g6 oc fm pre w) (γ : Nat) (hg : W.heap.size + 1 < γ ∧ g2 < γ ∧ g4 < γ ∧ V < γ ∧ g6 + 1 < γ) (bel : Below W.heap.size W w')
    (mv : ∀ (g : Nat) (cs : Array Value) (t : TypeId), g < γ → τM t = false → w.heap[g]? = some (.cells cs t (0, 0)) → w'.heap[g]? = some (.cells cs t (0, 0))) : CW W c b o plen pcap g2 g4 V g6 oc fm pre w' := by
  obtain ⟨h1, h2, h3, h4, h5⟩ := hg
  refine ⟨bel, mv _ _ _ (by omega) (by decide) h.prog, mv _ _ _ (by omega) (by decide) h.res, mv _ _ _ (by omega) (by decide) h.out, mv _ _ _ (by omega) (by decide) h.vis, mv _ _ _ (by omega) (by decide) h.n, mv _ _ _ (by omega) (by decide) h.last, ?_⟩
  obtain ⟨cur, e1, e2, e3⟩ := id h.row
  exact h.row.of_block ((mv _ _ _ h4 (by decide) e1).trans e1.symm)
theorem CW.below {W : World} {c : Int} {b o plen pcap g2 g4 V g6 : Nat} {oc : Array Value} {fm : List Int} {pre : List (Int × List Value)} {w w' : World} (h : CW W c b o plen pcap g2 g4 V g6 oc fm pre w) (k : Below w.heap.size w w') : CW W c b o plen pcap g2 g4 V g6 oc fm pre w' := by
  refine h.mv (W.heap.size + 2 + g2 + 1 + g4 + 1 + V + 1 + g6 + 2) (by omega) (h.bel.trans (k.mono h.bel.size)) (fun g cs t _ _ hg => brow k hg)
theorem CW.ab {W : World} {c : Int} {b o plen pcap g2 g4 V g6 : Nat} {oc : Array Value} {fm : List Int} {β γ : Nat} (hg : W.heap.size + 1 < γ ∧ g2 < γ ∧ g4 < γ ∧ V < γ ∧ g6 + 1 < γ) (hβ : W.heap.size ≤ β) : AbG τM β γ (CW W c b o plen pcap g2 g4 V g6 oc fm) := fun pre A B h t =>
  h.mv γ hg (TurnG.below h.bel t hβ (by omega) (Nat.le_refl _)) (fun g cs ty h1 h2 h3 => TurnG.row t h3 h1 h2)
end Go.Proofs.Ythhgcbegcbhaeaa.Mdl

namespace Go.Proofs.Ythhgcbegcbhaeaa.Mdl
open Go.RowKit Go.Maps Ins Trc
set_option linter.unusedVariables false
set_option linter.unusedSimpArgs false
set_option maxRecDepth 100000

theorem bv_nat {a : Nat} (h : a < 9223372036854775808) : (BitVec.ofInt 64 (a : Int)).toNat = a := by
  rw [BitVec.toNat_ofInt]
  show ((a : Int) % 18446744073709551616).toNat = a
  omega
theorem or_nat {a b : Nat} (ha : a < 2048) (hb : b < 2048) : bits .or .i64 (a : Int) (b : Int) = ((a ||| b : Nat) : Int) := by
  have hl : a ||| b < 2 ^ 11 := Nat.or_lt_two_pow ha hb
  show IntKind.i64.wrap ((BitVec.ofInt 64 (a : Int) ||| BitVec.ofInt 64 (b : Int)).toNat : Int) = _
  rw [BitVec.toNat_or, bv_nat (by omega), bv_nat (by omega), IntKind.wrap_i64]
  omega
theorem andNot_nat {a b : Nat} (ha : a < 2048) (hb : b < 2048) : ∃ c : Nat, bits .andNot .i64 (a : Int) (b : Int) = (c : Int) ∧ c < 2048 ∧ ∀ r, c.testBit r = (a.testBit r && !b.testBit r) := by
  refine ⟨(BitVec.ofInt 64 (a : Int) &&& ~~~ BitVec.ofInt 64 (b : Int)).toNat, ?_, ?_, fun r => ?_⟩
  · show IntKind.i64.wrap ((BitVec.ofInt 64 (a : Int) &&& ~~~ BitVec.ofInt 64 (b : Int)).toNat : Int) = _
    have : (BitVec.ofInt 64 (a : Int) &&& ~~~ BitVec.ofInt 64 (b : Int)).toNat ≤ a := by
      rw [BitVec.toNat_and, bv_nat (by omega)]
      exact Nat.and_le_left
    rw [IntKind.wrap_i64]
    omega
  · have : (BitVec.ofInt 64 (a : Int) &&& ~~~ BitVec.ofInt 64 (b : Int)).toNat ≤ a := by
      rw [BitVec.toNat_and, bv_nat (by omega)]
      exact Nat.and_le_left
    omega
  · rw [BitVec.testBit_toNat, BitVec.getLsbD_and, BitVec.getLsbD_not, ← BitVec.testBit_toNat, ← BitVec.testBit_toNat, bv_nat (by omega), bv_nat (by omega)]
    by_cases hr : r < 64
    · simp [hr]
    · have : a.testBit r = false := Nat.testBit_lt_two_pow (Nat.lt_of_lt_of_le ha (Nat.pow_le_pow_right (n := 2) (by omega) (show 11 ≤ r by omega)))
      simp [this]
/-- One bit of a mask. -/
def sbI (n : Int) (r : Nat) : Int := bits .and .i64 (n / 2 ^ r) 1
theorem and_one {q : Nat} (h : q < 2048) : bits .and .i64 (q : Int) 1 = ((q % 2 : Nat) : Int) := by
  show IntKind.i64.wrap ((BitVec.ofInt 64 (q : Int) &&& BitVec.ofInt 64 1).toNat : Int) = _
  rw [BitVec.toNat_and, bv_nat (by omega), show (BitVec.ofInt 64 1).toNat = 1 from rfl, Nat.and_one_is_mod, IntKind.wrap_i64]
  omega
theorem sb_nat {a : Nat} (ha : a < 2048) (r : Nat) : sbI (a : Int) r = if a.testBit r then 1 else 0 := by
  unfold sbI
  have e : (a : Int) / 2 ^ r = ((a / 2 ^ r : Nat) : Int) := by simp
  have hl : a / 2 ^ r < 2048 := Nat.lt_of_le_of_lt (Nat.div_le_self _ _) ha
  rw [e, and_one hl, Nat.testBit_eq_decide_div_mod_eq]
  by_cases h : a / 2 ^ r % 2 = 1
  · rw [h]; simp
  · have : a / 2 ^ r % 2 = 0 := by omega
    rw [this]; simp
/-- What is set is a mask of 11 bits. -/
def SetOk (D : Pl) : Prop := ∃ a : Nat, D.set = a ∧ a < 2048
theorem put_set {D : Pl} (h : SetOk D) {d : Nat} (hd : d < 11) (v : Int) : SetOk (D.put d v) ∧ ∀ r, r ≠ d → sbI (D.put d v).set r = sbI D.set r := by
  obtain ⟨a, e, ha⟩ := h
  have hp : 2 ^ d < 2048 := Nat.lt_of_lt_of_le (Nat.pow_lt_pow_right (by omega) hd) (by decide)
  have e2 : (D.put d v).set = ((a ||| 2 ^ d : Nat) : Int) := by
    show orM D.set (onlyI d) = _
    unfold orM onlyI
    rw [e, Int.toNat_natCast]
    exact or_nat ha hp
  have hl : a ||| 2 ^ d < 2048 := Nat.or_lt_two_pow (n := 11) ha hp
  refine ⟨⟨_, e2, hl⟩, fun r hr => ?_⟩
  rw [e2, e, sb_nat hl, sb_nat ha, Nat.testBit_or, Nat.testBit_two_pow_of_ne (Ne.symm hr), Bool.or_false]
theorem called_set {D : Pl} (h : SetOk D) (imm av : Int) (l : List Int) : SetOk (D.called imm av l) ∧ ∀ r, 6 ≤ r → sbI (D.called imm av l).set r = sbI D.set r := by
  obtain ⟨a, e, ha⟩ := h
  obtain ⟨c, e1, hc, hb⟩ := andNot_nat ha (show 62 < 2048 by decide)
  have e2 : (D.called imm av l).set = ((c ||| 1 : Nat) : Int) := by
    show orM (bits .andNot .i64 D.set (argsM 5)) (onlyI 0) = _
    rw [show argsM 5 = ((62 : Nat) : Int) from rfl, e, e1]
    exact or_nat hc (by decide)
  have hl : c ||| 1 < 2048 := Nat.or_lt_two_pow (n := 11) hc (by decide)
  refine ⟨⟨_, e2, hl⟩, fun r hr => ?_⟩
  have h1 : (1 : Nat).testBit r = false := Nat.testBit_lt_two_pow (Nat.lt_of_lt_of_le (by decide : 1 < 2 ^ 6) (Nat.pow_le_pow_right (by omega) hr))
  have h62 : (62 : Nat).testBit r = false := Nat.testBit_lt_two_pow (Nat.lt_of_lt_of_le (by decide : 62 < 2 ^ 6) (Nat.pow_le_pow_right (by omega) hr))
  rw [e2, e, sb_nat hl, sb_nat ha, Nat.testBit_or, h1, Bool.or_false, hb, h62, Bool.not_false, Bool.and_true]
/-- The mask of what an instruction writes. -/
def writesI (x : In) : Int := if x.kind = 0 ∨ x.kind = 1 then ((2 ^ x.dst.toNat : Nat) : Int) else if x.kind = 5 then 63 else 0
theorem writes_nat {x : In} (h0 : 0 ≤ x.dst) (h1 : x.dst < 11) : ∃ a : Nat, writesI x = a ∧ a < 2048 := by
  unfold writesI
  split
  · exact ⟨_, rfl, Nat.lt_of_lt_of_le (Nat.pow_lt_pow_right (by omega) (show x.dst.toNat < 11 by omega)) (by decide)⟩
  · split
    · exact ⟨63, rfl, by decide⟩
    · exact ⟨0, rfl, by decide⟩
theorem exe_stays {D : Pl} (kf : Nat → Int) {x : In} (h0 : 0 ≤ x.dst) (h1 : x.dst < 11) (hs : SetOk D) :
    SetOk (D.exe kf x).1 ∧ (∀ r, r < 11 → sbI (writesI x) r = 0 → (D.exe kf x).1.r r = D.r r ∧ sbI (D.exe kf x).1.set r = sbI D.set r) ∧ (¬ x.kind = 2 → (D.exe kf x).1.mem = D.mem) := by
  have hd : x.dst.toNat < 11 := by omega
  have wr : ∀ r, (x.kind = 0 ∨ x.kind = 1) → sbI (writesI x) r = 0 → r ≠ x.dst.toNat := fun r hk hw e => by
    have hp : 2 ^ x.dst.toNat < 2048 := Nat.lt_of_lt_of_le (Nat.pow_lt_pow_right (by omega) hd) (by decide)
    unfold writesI at hw
    rw [if_pos hk, sb_nat hp, e, Nat.testBit_two_pow_self] at hw
    cases hw
  have putr : ∀ v, (x.kind = 0 ∨ x.kind = 1) → SetOk (D.put x.dst.toNat v) ∧ (∀ r, r < 11 → sbI (writesI x) r = 0 → (D.put x.dst.toNat v).r r = D.r r ∧ sbI (D.put x.dst.toNat v).set r = sbI D.set r) := fun v hk => by
    obtain ⟨p1, p2⟩ := put_set hs hd v
    exact ⟨p1, fun r _ hw => ⟨if_neg (wr r hk hw), p2 r (wr r hk hw)⟩⟩
  have same : ∀ D' : Pl, D'.r = D.r → D'.set = D.set → SetOk D' ∧ (∀ r, r < 11 → sbI (writesI x) r = 0 → D'.r r = D.r r ∧ sbI D'.set r = sbI D.set r) := fun D' e1 e2 => ⟨by unfold SetOk; rw [e2]; exact hs, fun r _ _ => by rw [e1, e2]; exact ⟨rfl, rfl⟩⟩
  unfold Pl.exe
  by_cases k0 : x.kind = 0
  · rw [if_pos k0]
    obtain ⟨p1, p2⟩ := putr (doI x.op x.width (D.r x.dst.toNat) (D.opd x)) (.inl k0)
    exact ⟨p1, p2, fun _ => rfl⟩
  rw [if_neg k0]
  by_cases k1 : x.kind = 1
  · rw [if_pos k1]
    split
    · obtain ⟨p1, p2⟩ := putr (readV D.mem kf (adI (D.r x.src.toNat) x.off) x.size.toNat) (.inr k1)
      exact ⟨p1, p2, fun _ => rfl⟩
    · exact ⟨(same D rfl rfl).1, (same D rfl rfl).2, fun _ => rfl⟩
  rw [if_neg k1]
  by_cases k2 : x.kind = 2
  · rw [if_pos k2]
    split
    · exact ⟨(same D rfl rfl).1, (same D rfl rfl).2, fun h => absurd k2 h⟩
    · exact ⟨(same _ rfl rfl).1, (same _ rfl rfl).2, fun h => absurd k2 h⟩
  rw [if_neg k2]
  by_cases k3 : x.kind = 3
  · rw [if_pos k3]
    by_cases hh : holdsB x.op 64 (D.r x.dst.toNat) (D.opd x) = true
    · simp only [if_pos hh]
      exact ⟨(same _ rfl rfl).1, fun _ _ _ => ⟨trivial, trivial⟩, fun _ => trivial⟩
    · simp only [if_neg hh]
      exact ⟨(same D rfl rfl).1, fun _ _ _ => ⟨trivial, trivial⟩, fun _ => trivial⟩
  rw [if_neg k3]
  by_cases k4 : x.kind = 4
  · rw [if_pos k4]
    exact ⟨(same _ rfl rfl).1, (same _ rfl rfl).2, fun _ => rfl⟩
  rw [if_neg k4]
  by_cases k5 : x.kind = 5
  · rw [if_pos k5]
    cases ha : D.ans with
    | nil => exact ⟨(same D rfl rfl).1, (same D rfl rfl).2, fun _ => rfl⟩
    | cons a l =>
      obtain ⟨p1, p2⟩ := called_set hs x.imm a l
      refine ⟨p1, fun r hr hw => ?_, fun _ => rfl⟩
      have h6 : 6 ≤ r := by
        unfold writesI at hw
        rw [if_neg (by omega), if_pos k5, show (63 : Int) = ((63 : Nat) : Int) from rfl, sb_nat (by decide)] at hw
        rcases Nat.lt_or_ge r 6 with h | h
        · have : r = 0 ∨ r = 1 ∨ r = 2 ∨ r = 3 ∨ r = 4 ∨ r = 5 := by omega
          rcases this with rfl | rfl | rfl | rfl | rfl | rfl <;> cases hw
        · exact h
      refine ⟨?_, p2 r h6⟩
      have : r = 6 ∨ r = 7 ∨ r = 8 ∨ r = 9 ∨ r = 10 := by omega
      rcases this with rfl | rfl | rfl | rfl | rfl <;> rfl
  rw [if_neg k5]
  exact ⟨(same D rfl rfl).1, (same D rfl rfl).2, fun _ => rfl⟩
theorem step_stays {D : Pl} (kf : Nat → Int) {x : In} (h0 : 0 ≤ x.dst) (h1 : x.dst < 11) (hs : SetOk D) :
    SetOk (D.step kf x) ∧ (∀ r, r < 11 → sbI (writesI x) r = 0 → (D.step kf x).r r = D.r r ∧ sbI (D.step kf x).set r = sbI D.set r) ∧ (¬ x.kind = 2 → (D.step kf x).mem = D.mem) := by
  cases hr : (andM D.set (readsM x) == readsM x) with
  | false =>
    rw [step_no hr]
    exact ⟨hs, fun _ _ _ => ⟨rfl, rfl⟩, fun _ => rfl⟩
  | true =>
    rw [step_yes hr]
    exact exe_stays (D := D.adv) kf h0 h1 hs
theorem setOk_its {E : Env} (F : Fine E) {D : Pl} (R : Runs E D) (h : SetOk D) : ∀ k, Goes E D k → SetOk (its E D k)
  | 0, _ => h
  | k + 1, g => by
    have g0 : Goes E D k := fun j hj => g j (by omega)
    obtain ⟨⟨d0, d1⟩, _⟩ := mayI_cases (F.may _ (R.its F k g0).ix.1)
    exact (step_stays E.kf d0 d1 (setOk_its F R h k g0)).1
theorem ini_set (cb cl : Nat) (cf : Nat → Int) (fuel : Int) (zs : List Int) : SetOk (ini cb cl cf fuel zs) := by
  have h : SetOk ({ r := fun _ => 0, set := 0, at_ := 0, fuel := fuel, fin := 0, ans := zs, evs := [], mem := newMem cb 0 cl false cf } : Pl) := ⟨0, rfl, by decide⟩
  exact (put_set (put_set h (show 1 < 11 by decide) 2097152).1 (show 10 < 11 by decide) 3145792).1
end Go.Proofs.Ythhgcbegcbhaeaa.Mdl

namespace Go.Proofs.Ythhgcbegcbhaeaa.Ins
open Go.RowKit
set_option linter.unusedVariables false

theorem r_sized (n : Int) (W : World) : Calls Try.prog 48 #[.int .i8 n] W fun e w' => e = .returned (.bool (sizedI n)) ∧ W = w' := by
  have E := Lib.hid (show (n == 1 || n == 2 || n == 4 || n == 8) = sizedI n by unfold sizedI; rw [Bool.eq_iff_iff, decide_eq_true_iff]; simp [or_assoc])
  go_enter Try.func48, Try.ntmps48
  go_wp2
  all_goals
    go_ret
    exact ⟨retB (by rw [← E.out]; try simp [*]), rfl⟩

set_option maxRecDepth 100000 in
set_option maxHeartbeats 2000000 in
theorem rf_0t (op width size : Int) (dst src off imm : Int) (W : World) (hk : ¬ op = 8) :
    Calls Try.prog 47 #[.agg (In.mk 0 op width size true dst src off imm).cells] W fun e w' => e = .returned (.agg #[.int .i8 0, .int .i8 op, .int .i8 width, .int .i8 0, .bool true, .int .i8 dst, .int .i8 src, .int .i64 0, .int .i64 0]) ∧ Below W.heap.size W w' := by
  unfold In.cells at *
  simp only at *
  have h8 : (op != 8) = true := by simpa using hk
  go_enter Try.func47, Try.ntmps47
  go_wp2
  refine bodyPost_ret (v := .agg #[.int .i8 0, .int .i8 op, .int .i8 width, .int .i8 0, .bool true, .int .i8 dst, .int .i8 src, .int .i64 0, .int .i64 0]) (by simp [results, Try.results47, go_sem]) rfl ⟨rfl, ?_⟩
  repeat (refine Below.setCell ?_ (by simp only; omega) _)
  repeat (first | exact Below.refl _ _ | refine below_new ?_ _)
set_option maxRecDepth 100000 in
set_option maxHeartbeats 2000000 in
theorem rf_0f (op width size : Int) (dst src off imm : Int) (W : World) (hk : ¬ op = 8) :
    Calls Try.prog 47 #[.agg (In.mk 0 op width size false dst src off imm).cells] W fun e w' => e = .returned (.agg #[.int .i8 0, .int .i8 op, .int .i8 width, .int .i8 0, .bool false, .int .i8 dst, .int .i8 0, .int .i64 0, .int .i64 imm]) ∧ Below W.heap.size W w' := by
  unfold In.cells at *
  simp only at *
  have h8 : (op != 8) = true := by simpa using hk
  go_enter Try.func47, Try.ntmps47
  go_wp2
  refine bodyPost_ret (v := .agg #[.int .i8 0, .int .i8 op, .int .i8 width, .int .i8 0, .bool false, .int .i8 dst, .int .i8 0, .int .i64 0, .int .i64 imm]) (by simp [results, Try.results47, go_sem]) rfl ⟨rfl, ?_⟩
  repeat (refine Below.setCell ?_ (by simp only; omega) _)
  repeat (first | exact Below.refl _ _ | refine below_new ?_ _)
set_option maxRecDepth 100000 in
set_option maxHeartbeats 2000000 in
theorem rf_8t (width size : Int) (dst src off imm : Int) (W : World) :
    Calls Try.prog 47 #[.agg (In.mk 0 8 width size true dst src off imm).cells] W fun e w' => e = .returned (.agg #[.int .i8 0, .int .i8 8, .int .i8 width, .int .i8 0, .bool false, .int .i8 dst, .int .i8 0, .int .i64 0, .int .i64 0]) ∧ Below W.heap.size W w' := by
  unfold In.cells at *
  simp only at *
  go_enter Try.func47, Try.ntmps47
  go_wp2
  refine bodyPost_ret (v := .agg #[.int .i8 0, .int .i8 8, .int .i8 width, .int .i8 0, .bool false, .int .i8 dst, .int .i8 0, .int .i64 0, .int .i64 0]) (by simp [results, Try.results47, go_sem]) rfl ⟨rfl, ?_⟩
  repeat (refine Below.setCell ?_ (by simp only; omega) _)
  repeat (first | exact Below.refl _ _ | refine below_new ?_ _)
set_option maxRecDepth 100000 in
set_option maxHeartbeats 2000000 in
theorem rf_8f (width size : Int) (dst src off imm : Int) (W : World) :
    Calls Try.prog 47 #[.agg (In.mk 0 8 width size false dst src off imm).cells] W fun e w' => e = .returned (.agg #[.int .i8 0, .int .i8 8, .int .i8 width, .int .i8 0, .bool false, .int .i8 dst, .int .i8 0, .int .i64 0, .int .i64 0]) ∧ Below W.heap.size W w' := by
  unfold In.cells at *
  simp only at *
  go_enter Try.func47, Try.ntmps47
  go_wp2
  refine bodyPost_ret (v := .agg #[.int .i8 0, .int .i8 8, .int .i8 width, .int .i8 0, .bool false, .int .i8 dst, .int .i8 0, .int .i64 0, .int .i64 0]) (by simp [results, Try.results47, go_sem]) rfl ⟨rfl, ?_⟩
  repeat (refine Below.setCell ?_ (by simp only; omega) _)
  repeat (first | exact Below.refl _ _ | refine below_new ?_ _)
set_option maxRecDepth 100000 in
set_option maxHeartbeats 2000000 in
theorem rf_1t (op width size : Int) (dst src off imm : Int) (W : World) :
    Calls Try.prog 47 #[.agg (In.mk 1 op width size true dst src off imm).cells] W fun e w' => e = .returned (.agg #[.int .i8 1, .int .i8 0, .int .i8 0, .int .i8 size, .bool false, .int .i8 dst, .int .i8 src, .int .i64 off, .int .i64 0]) ∧ Below W.heap.size W w' := by
  unfold In.cells at *
  simp only at *
  go_enter Try.func47, Try.ntmps47
  go_wp2
  refine bodyPost_ret (v := .agg #[.int .i8 1, .int .i8 0, .int .i8 0, .int .i8 size, .bool false, .int .i8 dst, .int .i8 src, .int .i64 off, .int .i64 0]) (by simp [results, Try.results47, go_sem]) rfl ⟨rfl, ?_⟩
  repeat (refine Below.setCell ?_ (by simp only; omega) _)
  repeat (first | exact Below.refl _ _ | refine below_new ?_ _)
set_option maxRecDepth 100000 in
set_option maxHeartbeats 2000000 in
theorem rf_1f (op width size : Int) (dst src off imm : Int) (W : World) :
    Calls Try.prog 47 #[.agg (In.mk 1 op width size false dst src off imm).cells] W fun e w' => e = .returned (.agg #[.int .i8 1, .int .i8 0, .int .i8 0, .int .i8 size, .bool false, .int .i8 dst, .int .i8 src, .int .i64 off, .int .i64 0]) ∧ Below W.heap.size W w' := by
  unfold In.cells at *
  simp only at *
  go_enter Try.func47, Try.ntmps47
  go_wp2
  refine bodyPost_ret (v := .agg #[.int .i8 1, .int .i8 0, .int .i8 0, .int .i8 size, .bool false, .int .i8 dst, .int .i8 src, .int .i64 off, .int .i64 0]) (by simp [results, Try.results47, go_sem]) rfl ⟨rfl, ?_⟩
  repeat (refine Below.setCell ?_ (by simp only; omega) _)
  repeat (first | exact Below.refl _ _ | refine below_new ?_ _)
set_option maxRecDepth 100000 in
set_option maxHeartbeats 2000000 in
theorem rf_2t (op width size : Int) (dst src off imm : Int) (W : World) :
    Calls Try.prog 47 #[.agg (In.mk 2 op width size true dst src off imm).cells] W fun e w' => e = .returned (.agg #[.int .i8 2, .int .i8 0, .int .i8 0, .int .i8 size, .bool false, .int .i8 dst, .int .i8 src, .int .i64 off, .int .i64 0]) ∧ Below W.heap.size W w' := by
  unfold In.cells at *
  simp only at *
  go_enter Try.func47, Try.ntmps47
  go_wp2
  refine bodyPost_ret (v := .agg #[.int .i8 2, .int .i8 0, .int .i8 0, .int .i8 size, .bool false, .int .i8 dst, .int .i8 src, .int .i64 off, .int .i64 0]) (by simp [results, Try.results47, go_sem]) rfl ⟨rfl, ?_⟩
  repeat (refine Below.setCell ?_ (by simp only; omega) _)
  repeat (first | exact Below.refl _ _ | refine below_new ?_ _)
set_option maxRecDepth 100000 in
set_option maxHeartbeats 2000000 in
theorem rf_2f (op width size : Int) (dst src off imm : Int) (W : World) :
    Calls Try.prog 47 #[.agg (In.mk 2 op width size false dst src off imm).cells] W fun e w' => e = .returned (.agg #[.int .i8 2, .int .i8 0, .int .i8 0, .int .i8 size, .bool false, .int .i8 dst, .int .i8 src, .int .i64 off, .int .i64 0]) ∧ Below W.heap.size W w' := by
  unfold In.cells at *
  simp only at *
  go_enter Try.func47, Try.ntmps47
  go_wp2
  refine bodyPost_ret (v := .agg #[.int .i8 2, .int .i8 0, .int .i8 0, .int .i8 size, .bool false, .int .i8 dst, .int .i8 src, .int .i64 off, .int .i64 0]) (by simp [results, Try.results47, go_sem]) rfl ⟨rfl, ?_⟩
  repeat (refine Below.setCell ?_ (by simp only; omega) _)
  repeat (first | exact Below.refl _ _ | refine below_new ?_ _)
set_option maxRecDepth 100000 in
set_option maxHeartbeats 2000000 in
theorem rf_3t (op width size : Int) (dst src off imm : Int) (W : World) :
    Calls Try.prog 47 #[.agg (In.mk 3 op width size true dst src off imm).cells] W fun e w' => e = .returned (.agg #[.int .i8 3, .int .i8 op, .int .i8 0, .int .i8 0, .bool true, .int .i8 dst, .int .i8 src, .int .i64 off, .int .i64 0]) ∧ Below W.heap.size W w' := by
  unfold In.cells at *
  simp only at *
  go_enter Try.func47, Try.ntmps47
  go_wp2
  refine bodyPost_ret (v := .agg #[.int .i8 3, .int .i8 op, .int .i8 0, .int .i8 0, .bool true, .int .i8 dst, .int .i8 src, .int .i64 off, .int .i64 0]) (by simp [results, Try.results47, go_sem]) rfl ⟨rfl, ?_⟩
  repeat (refine Below.setCell ?_ (by simp only; omega) _)
  repeat (first | exact Below.refl _ _ | refine below_new ?_ _)
set_option maxRecDepth 100000 in
set_option maxHeartbeats 2000000 in
theorem rf_3f (op width size : Int) (dst src off imm : Int) (W : World) :
    Calls Try.prog 47 #[.agg (In.mk 3 op width size false dst src off imm).cells] W fun e w' => e = .returned (.agg #[.int .i8 3, .int .i8 op, .int .i8 0, .int .i8 0, .bool false, .int .i8 dst, .int .i8 0, .int .i64 off, .int .i64 imm]) ∧ Below W.heap.size W w' := by
  unfold In.cells at *
  simp only at *
  go_enter Try.func47, Try.ntmps47
  go_wp2
  refine bodyPost_ret (v := .agg #[.int .i8 3, .int .i8 op, .int .i8 0, .int .i8 0, .bool false, .int .i8 dst, .int .i8 0, .int .i64 off, .int .i64 imm]) (by simp [results, Try.results47, go_sem]) rfl ⟨rfl, ?_⟩
  repeat (refine Below.setCell ?_ (by simp only; omega) _)
  repeat (first | exact Below.refl _ _ | refine below_new ?_ _)
set_option maxRecDepth 100000 in
set_option maxHeartbeats 2000000 in
theorem rf_4t (op width size : Int) (dst src off imm : Int) (W : World) :
    Calls Try.prog 47 #[.agg (In.mk 4 op width size true dst src off imm).cells] W fun e w' => e = .returned (.agg #[.int .i8 4, .int .i8 0, .int .i8 0, .int .i8 0, .bool false, .int .i8 0, .int .i8 0, .int .i64 off, .int .i64 0]) ∧ Below W.heap.size W w' := by
  unfold In.cells at *
  simp only at *
  go_enter Try.func47, Try.ntmps47
  go_wp2
  refine bodyPost_ret (v := .agg #[.int .i8 4, .int .i8 0, .int .i8 0, .int .i8 0, .bool false, .int .i8 0, .int .i8 0, .int .i64 off, .int .i64 0]) (by simp [results, Try.results47, go_sem]) rfl ⟨rfl, ?_⟩
  repeat (refine Below.setCell ?_ (by simp only; omega) _)
  repeat (first | exact Below.refl _ _ | refine below_new ?_ _)
set_option maxRecDepth 100000 in
set_option maxHeartbeats 2000000 in
theorem rf_5t (op width size : Int) (dst src off imm : Int) (W : World) :
    Calls Try.prog 47 #[.agg (In.mk 5 op width size true dst src off imm).cells] W fun e w' => e = .returned (.agg #[.int .i8 5, .int .i8 0, .int .i8 0, .int .i8 0, .bool false, .int .i8 0, .int .i8 0, .int .i64 0, .int .i64 imm]) ∧ Below W.heap.size W w' := by
  unfold In.cells at *
  simp only at *
  go_enter Try.func47, Try.ntmps47
  go_wp2
  refine bodyPost_ret (v := .agg #[.int .i8 5, .int .i8 0, .int .i8 0, .int .i8 0, .bool false, .int .i8 0, .int .i8 0, .int .i64 0, .int .i64 imm]) (by simp [results, Try.results47, go_sem]) rfl ⟨rfl, ?_⟩
  repeat (refine Below.setCell ?_ (by simp only; omega) _)
  repeat (first | exact Below.refl _ _ | refine below_new ?_ _)
set_option maxRecDepth 100000 in
set_option maxHeartbeats 2000000 in
theorem rf_xt (kind op width size : Int) (dst src off imm : Int) (W : World) (h0 : ¬ kind = 0) (h1 : ¬ kind = 1) (h2 : ¬ kind = 2) (h3 : ¬ kind = 3) (h4 : ¬ kind = 4) (h5 : ¬ kind = 5) :
    Calls Try.prog 47 #[.agg (In.mk kind op width size true dst src off imm).cells] W fun e w' => e = .returned (.agg #[.int .i8 kind, .int .i8 0, .int .i8 0, .int .i8 0, .bool false, .int .i8 0, .int .i8 0, .int .i64 0, .int .i64 0]) ∧ Below W.heap.size W w' := by
  unfold In.cells at *
  simp only at *
  go_enter Try.func47, Try.ntmps47
  go_wp2
  refine bodyPost_ret (v := .agg #[.int .i8 kind, .int .i8 0, .int .i8 0, .int .i8 0, .bool false, .int .i8 0, .int .i8 0, .int .i64 0, .int .i64 0]) (by simp [results, Try.results47, go_sem]) rfl ⟨rfl, ?_⟩
  repeat (refine Below.setCell ?_ (by simp only; omega) _)
  repeat (first | exact Below.refl _ _ | refine below_new ?_ _)
set_option maxRecDepth 100000 in
set_option maxHeartbeats 2000000 in
theorem rf_4f (op width size : Int) (dst src off imm : Int) (W : World) :
    Calls Try.prog 47 #[.agg (In.mk 4 op width size false dst src off imm).cells] W fun e w' => e = .returned (.agg #[.int .i8 4, .int .i8 0, .int .i8 0, .int .i8 0, .bool false, .int .i8 0, .int .i8 0, .int .i64 off, .int .i64 0]) ∧ Below W.heap.size W w' := by
  unfold In.cells at *
  simp only at *
  go_enter Try.func47, Try.ntmps47
  go_wp2
  refine bodyPost_ret (v := .agg #[.int .i8 4, .int .i8 0, .int .i8 0, .int .i8 0, .bool false, .int .i8 0, .int .i8 0, .int .i64 off, .int .i64 0]) (by simp [results, Try.results47, go_sem]) rfl ⟨rfl, ?_⟩
  repeat (refine Below.setCell ?_ (by simp only; omega) _)
  repeat (first | exact Below.refl _ _ | refine below_new ?_ _)
set_option maxRecDepth 100000 in
set_option maxHeartbeats 2000000 in
theorem rf_5f (op width size : Int) (dst src off imm : Int) (W : World) :
    Calls Try.prog 47 #[.agg (In.mk 5 op width size false dst src off imm).cells] W fun e w' => e = .returned (.agg #[.int .i8 5, .int .i8 0, .int .i8 0, .int .i8 0, .bool false, .int .i8 0, .int .i8 0, .int .i64 0, .int .i64 imm]) ∧ Below W.heap.size W w' := by
  unfold In.cells at *
  simp only at *
  go_enter Try.func47, Try.ntmps47
  go_wp2
  refine bodyPost_ret (v := .agg #[.int .i8 5, .int .i8 0, .int .i8 0, .int .i8 0, .bool false, .int .i8 0, .int .i8 0, .int .i64 0, .int .i64 imm]) (by simp [results, Try.results47, go_sem]) rfl ⟨rfl, ?_⟩
  repeat (refine Below.setCell ?_ (by simp only; omega) _)
  repeat (first | exact Below.refl _ _ | refine below_new ?_ _)
set_option maxRecDepth 100000 in
set_option maxHeartbeats 2000000 in
theorem rf_xf (kind op width size : Int) (dst src off imm : Int) (W : World) (h0 : ¬ kind = 0) (h1 : ¬ kind = 1) (h2 : ¬ kind = 2) (h3 : ¬ kind = 3) (h4 : ¬ kind = 4) (h5 : ¬ kind = 5) :
    Calls Try.prog 47 #[.agg (In.mk kind op width size false dst src off imm).cells] W fun e w' => e = .returned (.agg #[.int .i8 kind, .int .i8 0, .int .i8 0, .int .i8 0, .bool false, .int .i8 0, .int .i8 0, .int .i64 0, .int .i64 0]) ∧ Below W.heap.size W w' := by
  unfold In.cells at *
  simp only at *
  go_enter Try.func47, Try.ntmps47
  go_wp2
  refine bodyPost_ret (v := .agg #[.int .i8 kind, .int .i8 0, .int .i8 0, .int .i8 0, .bool false, .int .i8 0, .int .i8 0, .int .i64 0, .int .i64 0]) (by simp [results, Try.results47, go_sem]) rfl ⟨rfl, ?_⟩
  repeat (refine Below.setCell ?_ (by simp only; omega) _)
  repeat (first | exact Below.refl _ _ | refine below_new ?_ _)
theorem r_fields (x : In) (W : World) : Calls Try.prog 47 #[.agg x.cells] W fun e w' => e = .returned (.agg (usedI x).cells) ∧ Below W.heap.size W w' := by
  obtain ⟨kind, op, width, size, byReg, dst, src, off, imm⟩ := x
  by_cases h0 : kind = 0
  · subst h0
    by_cases h8 : op = 8
    · subst h8
      cases byReg
      · exact rf_8f width size dst src off imm W
      · exact rf_8t width size dst src off imm W
    · cases byReg
      · have e : usedI (In.mk 0 op width size false dst src off imm) = ⟨0, op, width, 0, false, dst, 0, 0, imm⟩ := by unfold usedI; rw [if_pos rfl, if_neg h8]; rfl
        rw [e]; exact rf_0f op width size dst src off imm W h8
      · have e : usedI (In.mk 0 op width size true dst src off imm) = ⟨0, op, width, 0, true, dst, src, 0, 0⟩ := by unfold usedI; rw [if_pos rfl, if_neg h8]; rfl
        rw [e]; exact rf_0t op width size dst src off imm W h8
  by_cases h1 : kind = 1
  · subst h1
    cases byReg
    · exact rf_1f op width size dst src off imm W
    · exact rf_1t op width size dst src off imm W
  by_cases h2 : kind = 2
  · subst h2
    cases byReg
    · exact rf_2f op width size dst src off imm W
    · exact rf_2t op width size dst src off imm W
  by_cases h3 : kind = 3
  · subst h3
    cases byReg
    · exact rf_3f op width size dst src off imm W
    · exact rf_3t op width size dst src off imm W
  by_cases h4 : kind = 4
  · subst h4
    cases byReg
    · exact rf_4f op width size dst src off imm W
    · exact rf_4t op width size dst src off imm W
  by_cases h5 : kind = 5
  · subst h5
    cases byReg
    · exact rf_5f op width size dst src off imm W
    · exact rf_5t op width size dst src off imm W
  have e : usedI (In.mk kind op width size byReg dst src off imm) = ⟨kind, 0, 0, 0, false, 0, 0, 0, 0⟩ := by
    unfold usedI; rw [if_neg h0, if_neg h1, if_neg h2, if_neg h3, if_neg h4, if_neg h5]
  rw [e]
  cases byReg
  · exact rf_xf kind op width size dst src off imm W h0 h1 h2 h3 h4 h5
  · exact rf_xt kind op width size dst src off imm W h0 h1 h2 h3 h4 h5
end Go.Proofs.Ythhgcbegcbhaeaa.Ins
