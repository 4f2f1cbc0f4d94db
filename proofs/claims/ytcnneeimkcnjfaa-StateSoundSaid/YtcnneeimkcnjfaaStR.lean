/-
  Types and states in plain words: joined, widened, within, loaded, stored. No program is named here.
-/
import Derived.Test.YtcnneeimkcnjfaaStQ
namespace Go.Proofs.Ytcnneeimkcnjfaa.Sta
open Bnd Knw
set_option linter.unusedVariables false
set_option linter.unusedSimpArgs false
theorem okB_sc {s : Sc} (h : s.mayB = true) : (scT s).okB = true := by
  unfold Ty.okB
  rw [if_neg (show ¬ ((scT s).kd == 0) = true from by show ¬ ((1 : Int) == 0) = true; decide), if_pos (show ((scT s).kd == 1) = true from rfl)]
  rw [Bool.and_eq_true]
  exact ⟨eqT_refl _, h⟩
theorem okB_pt {k l h : Int} (hk : k = 2 ∨ k = 3) (h1 : -1048576 ≤ l) (h2 : l ≤ h) (h3 : h ≤ 1048576) : (ptT k l h).okB = true := by
  unfold Ty.okB
  have e0 : ((ptT k l h).kd == 0) = false := by rcases hk with rfl | rfl <;> rfl
  have e1 : ((ptT k l h).kd == 1) = false := by rcases hk with rfl | rfl <;> rfl
  have e2 : ((ptT k l h).kd == 2 || (ptT k l h).kd == 3) = true := by rcases hk with rfl | rfl <;> rfl
  rw [e0, if_neg Bool.false_ne_true, e1, if_neg Bool.false_ne_true, e2, if_pos rfl]
  simp only [Bool.and_eq_true, decide_eq_true_eq]
  exact ⟨eqT_refl _, h1, h2, h3⟩
theorem hold_sc {s : Sc} {v : B} (h : s.hasB v = true) : (scT s).holdB v = true := by
  unfold Ty.holdB
  rw [okB_sc (hasC_may h)]
  show (true && s.hasB v) = true
  rw [h]; rfl
theorem hold_sc_iff {s : Sc} {v : B} : (scT s).holdB v = true ↔ s.hasB v = true := by
  refine ⟨fun h => ?_, hold_sc⟩
  unfold Ty.holdB at h
  rw [Bool.and_eq_true] at h
  exact h.2
/-- The offset of a number, from where a pointer's region begins. -/
def offB (k : Int) (v : B) : B := if (k == 2) = true then v - 2097152#64 else v - 3145728#64
theorem hold_pt {k l h : Int} {v : B} (hk : k = 2 ∨ k = 3) : (ptT k l h).holdB v = true ↔ (ptT k l h).okB = true ∧ l ≤ sg (V (offB k v)) ∧ sg (V (offB k v)) ≤ h := by
  unfold Ty.holdB
  rw [Bool.and_eq_true]
  refine and_congr_right fun _ => ?_
  unfold offB Ty.toB
  rcases hk with rfl | rfl
  · show (decide (l ≤ sg (V (v - 2097152#64))) && decide (sg (V (v - 2097152#64)) ≤ h)) = true ↔ _
    rw [Bool.and_eq_true, decide_eq_true_eq, decide_eq_true_eq]; rfl
  · show (decide (l ≤ sg (V (v - 3145728#64))) && decide (sg (V (v - 3145728#64)) ≤ h)) = true ↔ _
    rw [Bool.and_eq_true, decide_eq_true_eq, decide_eq_true_eq]; rfl
/-- What joining makes of two valid types. -/
inductive Arn (f : Sc → Sc → Sc) (lo hi : Int) (a b : Ty) : Ty → Prop
  | un (h : a.unB = true ∨ b.unB = true) : Arn f lo hi a b tZ
  | all (ha : a.unB = false) (hb : b.unB = false) : Arn f lo hi a b allT
  | sc (ha : a = scT a.s) (hb : b = scT b.s) (ma : a.s.mayB = true) (mb : b.s.mayB = true) : Arn f lo hi a b (scT (f a.s b.s))
  | pt (hk : a.kd = 2 ∨ a.kd = 3) (ha : a = ptT a.kd a.lo a.hi) (hb : b = ptT a.kd b.lo b.hi) (h1 : -1048576 ≤ a.lo) (h2 : a.lo ≤ a.hi) (h3 : a.hi ≤ 1048576) (h4 : -1048576 ≤ b.lo) (h5 : b.lo ≤ b.hi) (h6 : b.hi ≤ 1048576) : Arn f lo hi a b (ptT a.kd lo hi)
theorem arn {f : Sc → Sc → Sc} {lo hi : Int} {a b : Ty} (oa : a.okB = true) (ob : b.okB = true) : Arn f lo hi a b (arnd f lo hi a b) := by
  unfold arnd
  by_cases u : (a.unB || b.unB) = true
  · rw [if_pos u]
    rw [Bool.or_eq_true] at u
    exact .un u
  rw [if_neg u]
  have u' : a.unB = false ∧ b.unB = false := by simpa using u
  by_cases n : (a.kd != b.kd) = true
  · rw [if_pos n]
    exact .all u'.1 u'.2
  rw [if_neg n]
  have e : a.kd = b.kd := by simpa using n
  rcases ok_cases oa with ha | ⟨ha, ma⟩ | ⟨ha, pa, l1, l2, l3⟩
  · rw [ha] at u'; exact absurd u'.1 (by rw [tZ_unB]; decide)
  · have k1 : a.kd = 1 := by rw [ha]; rfl
    rcases ok_cases ob with hb | ⟨hb, mb⟩ | ⟨hb, _⟩
    · rw [hb] at u'; exact absurd u'.2 (by rw [tZ_unB]; decide)
    · rw [if_pos (by rw [k1]; rfl)]
      exact .sc ha hb ma mb
    · rw [← e, k1] at hb; omega
  · have k1 : (a.kd == 1) = false := by rcases ha with h | h <;> rw [h] <;> rfl
    rw [k1, if_neg Bool.false_ne_true]
    rcases ok_cases ob with hb | ⟨hb, mb⟩ | ⟨hb, pb, l4, l5, l6⟩
    · rw [hb] at u'; exact absurd u'.2 (by rw [tZ_unB]; decide)
    · rw [hb] at e
      have : a.kd = 1 := e
      omega
    · exact .pt ha pa (by rw [e]; exact pb) l1 l2 l3 l4 l5 l6
section
variable {a b : Ty}
/-- What joins and widenings have alike. -/
structure Sound (f : Ty → Ty → Ty) : Prop where
  ok : ∀ {a b : Ty}, a.okB = true → b.okB = true → (f a b).okB = true
  set : ∀ {a b : Ty}, a.okB = true → b.okB = true → a.unB = false → b.unB = false → (f a b).unB = false
  un : ∀ {a b : Ty}, a.okB = true → b.okB = true → a.unB = true ∨ b.unB = true → (f a b).unB = true
  hold : ∀ {a b : Ty} {v : B}, a.Ok → b.Ok → a.okB = true → b.okB = true → a.holdB v = true ∨ b.holdB v = true → (f a b).holdB v = true
theorem kd_un {k l h : Int} (hk : k = 2 ∨ k = 3) : (ptT k l h).unB = false := by rcases hk with rfl | rfl <;> rfl
theorem sound_of {f : Sc → Sc → Sc} {lo hi : Ty → Ty → Int} (hf : ∀ x y, (f x y).mayB = true) (hh : ∀ {x y : Sc} {v : B}, x.Ok → y.Ok → x.mayB = true → y.mayB = true → x.hasB v = true ∨ y.hasB v = true → (f x y).hasB v = true)
    (hb : ∀ {x y : Ty}, -1048576 ≤ x.lo → x.lo ≤ x.hi → x.hi ≤ 1048576 → -1048576 ≤ y.lo → y.lo ≤ y.hi → y.hi ≤ 1048576 → -1048576 ≤ lo x y ∧ lo x y ≤ x.lo ∧ lo x y ≤ y.lo ∧ x.hi ≤ hi x y ∧ y.hi ≤ hi x y ∧ hi x y ≤ 1048576) :
    Sound (fun x y => arnd f (lo x y) (hi x y) x y) := by
  refine ⟨fun {a b} oa ob => ?_, fun {a b} oa ob ua ub => ?_, fun {a b} oa ob u => ?_, fun {a b v} ka kb oa ob h => ?_⟩
  · show (arnd f (lo a b) (hi a b) a b).okB = true
    have R := arn (f := f) (lo := lo a b) (hi := hi a b) oa ob
    generalize arnd f (lo a b) (hi a b) a b = r at R ⊢
    cases R with
    | un h => exact tZ_okB
    | all => exact allT_okB
    | sc => exact okB_sc (hf _ _)
    | pt hk ha hb' h1 h2 h3 h4 h5 h6 =>
      have := hb h1 h2 h3 h4 h5 h6
      exact okB_pt hk (by omega) (by omega) (by omega)
  · show (arnd f (lo a b) (hi a b) a b).unB = false
    have R := arn (f := f) (lo := lo a b) (hi := hi a b) oa ob
    generalize arnd f (lo a b) (hi a b) a b = r at R ⊢
    cases R with
    | un h => rcases h with h | h <;> simp_all
    | all => exact allT_unB
    | sc => rfl
    | pt hk => exact kd_un hk
  · show (arnd f (lo a b) (hi a b) a b).unB = true
    unfold arnd
    rw [if_pos (by rw [Bool.or_eq_true]; exact u)]
    exact tZ_unB
  · show (arnd f (lo a b) (hi a b) a b).holdB v = true
    have R := arn (f := f) (lo := lo a b) (hi := hi a b) oa ob
    generalize arnd f (lo a b) (hi a b) a b = r at R ⊢
    cases R with
    | un => exact hold_un tZ_unB tZ_okB _
    | all => exact allT_hold _
    | sc ha hb' ma mb =>
      rw [ha, hb'] at h
      exact hold_sc (hh ka.2.1 kb.2.1 ma mb (h.imp hold_sc_iff.1 hold_sc_iff.1))
    | pt hk ha hb' h1 h2 h3 h4 h5 h6 =>
      have := hb h1 h2 h3 h4 h5 h6
      rw [hold_pt hk]
      refine ⟨okB_pt hk (by omega) (by omega) (by omega), ?_⟩
      rcases h with h | h
      · rw [ha, hold_pt hk] at h; omega
      · rw [hb', hold_pt hk] at h; omega
end
theorem jT_sound : Sound jT := sound_of (f := Sc.join) (lo := fun a b => min a.lo b.lo) (hi := fun a b => max a.hi b.hi) join_mayB (fun ox oy mx my h => joinC_has ox oy mx my h) (fun h1 h2 h3 h4 h5 h6 => by omega)
theorem wT_sound : Sound wT := sound_of (f := Sc.widen) (lo := fun a b => bif decide (b.lo < a.lo) then -1048576 else a.lo) (hi := fun a b => bif decide (a.hi < b.hi) then 1048576 else a.hi) widen_mayB (fun ox oy mx my h => widenC_has ox oy mx my h) (fun {x y} h1 h2 h3 h4 h5 h6 => by
  cases c : decide (y.lo < x.lo) <;> cases d : decide (x.hi < y.hi) <;> simp only [decide_eq_true_eq, decide_eq_false_iff_not] at c d <;> simp only [cond_true, cond_false] <;> omega)
theorem bothS_ok {f : Ty → Ty → Ty} (hf : Sound f) {a b : St} (oa : okS a = true) (ob : okS b = true) : okS (bothR f a b) = true := by
  unfold bothR
  rw [oa, ob, if_pos (by rfl)]
  rw [okS_iff] at oa ob ⊢
  exact ⟨fun i hi => hf.ok (oa.1 i hi) (ob.1 i hi), fun i hi => ⟨hf.ok (oa.2 i hi).1 (ob.2 i hi).1, hf.set (oa.2 i hi).1 (ob.2 i hi).1 (oa.2 i hi).2 (ob.2 i hi).2⟩⟩
theorem bothS_has {f : Ty → Ty → Ty} (hf : Sound f) {a b : St} {x : Snp} (ka : OkS a) (kb : OkS b) (oa : okS a = true) (ob : okS b = true) (h : hasS a x = true ∨ hasS b x = true) : hasS (bothR f a b) x = true := by
  have ok := bothS_ok hf oa ob
  have e : bothR f a b = bothS f a b := by unfold bothR; rw [oa, ob, if_pos (by rfl)]
  rw [e] at ok ⊢
  have oa' := okS_iff.1 oa; have ob' := okS_iff.1 ob
  rw [hasS_iff]
  refine ⟨ok, fun i hi => ⟨?_, ?_⟩, fun i hi => ?_⟩
  · cases ua : (a i).unB with
    | true => exact .inr (hf.un (oa'.1 i hi) (ob'.1 i hi) (.inl ua))
    | false =>
      cases ub : (b i).unB with
      | true => exact .inr (hf.un (oa'.1 i hi) (ob'.1 i hi) (.inr ub))
      | false =>
        rcases h with h | h
        · rcases ((hasS_iff.1 h).2.1 i hi).1 with h | h
          · exact .inl h
          · rw [ua] at h; cases h
        · rcases ((hasS_iff.1 h).2.1 i hi).1 with h | h
          · exact .inl h
          · rw [ub] at h; cases h
  · exact hf.hold (ka i (by omega)) (kb i (by omega)) (oa'.1 i hi) (ob'.1 i hi) (h.imp (fun h => ((hasS_iff.1 h).2.1 i hi).2) (fun h => ((hasS_iff.1 h).2.1 i hi).2))
  · exact hf.hold (ka _ (by omega)) (kb _ (by omega)) (oa'.2 i hi).1 (ob'.2 i hi).1 (h.imp (fun h => (hasS_iff.1 h).2.2 i hi) (fun h => (hasS_iff.1 h).2.2 i hi))
theorem inT_hold {a b : Ty} {v : B} (oa : a.okB = true) (ob : b.okB = true) (hi : a.inB b = true) (h : a.holdB v = true) : b.holdB v = true := by
  unfold Ty.inB at hi
  by_cases ub : b.unB = true
  · exact hold_un ub ob v
  rw [if_neg ub] at hi
  by_cases ua : a.unB = true
  · rw [if_pos ua] at hi; cases hi
  rw [if_neg ua] at hi
  by_cases e : eqT b allT = true
  · rw [(eqT_iff _ _).1 e]; exact allT_hold v
  rw [if_neg e] at hi
  by_cases n : (a.kd != b.kd) = true
  · rw [if_pos n] at hi; cases hi
  rw [if_neg n] at hi
  have ek : a.kd = b.kd := by simpa using n
  rcases ok_cases oa with ha | ⟨ha, ma⟩ | ⟨ha, pa, l1, l2, l3⟩
  · rw [ha] at ua; exact absurd tZ_unB ua
  · have k1 : a.kd = 1 := by rw [ha]; rfl
    rw [if_pos (by rw [k1]; rfl)] at hi
    rcases ok_cases ob with hb | ⟨hb, mb⟩ | ⟨hb, _⟩
    · rw [hb] at ub; exact absurd tZ_unB ub
    · rw [ha] at h
      rw [hb]
      exact hold_sc (inC_has hi (hold_sc_iff.1 h))
    · rw [← ek, k1] at hb; omega
  · have k1 : (a.kd == 1) = false := by rcases ha with h | h <;> rw [h] <;> rfl
    rw [k1, if_neg Bool.false_ne_true, Bool.and_eq_true, decide_eq_true_eq, decide_eq_true_eq] at hi
    rcases ok_cases ob with hb | ⟨hb, mb⟩ | ⟨hb, pb, l4, l5, l6⟩
    · rw [hb] at ub; exact absurd tZ_unB ub
    · rw [hb] at ek
      have : a.kd = 1 := ek
      omega
    · rw [pa, hold_pt ha] at h
      rw [← ek] at pb
      rw [pb, hold_pt ha]
      exact ⟨by rw [← pb]; exact ob, by omega⟩
theorem inS_has {a b : St} {x : Snp} (hi : inS a b = true) (h : hasS a x = true) : hasS b x = true := by
  obtain ⟨oa, ob, h1, h2⟩ := inS_iff.1 hi
  obtain ⟨_, g1, g2⟩ := hasS_iff.1 h
  have oa' := okS_iff.1 oa; have ob' := okS_iff.1 ob
  rw [hasS_iff]
  refine ⟨ob, fun i hi => ⟨?_, inT_hold (oa'.1 i hi) (ob'.1 i hi) (h1 i hi) (g1 i hi).2⟩, fun i hi => inT_hold (oa'.2 i hi).1 (ob'.2 i hi).1 (h2 i hi) (g2 i hi)⟩
  rcases (g1 i hi).1 with c | c
  · exact .inl c
  · cases ub : (b i).unB with
    | true => exact .inr rfl
    | false =>
      have := h1 i hi
      unfold Ty.inB at this
      rw [ub, if_neg Bool.false_ne_true, c, if_pos rfl] at this
      cases this
end Go.Proofs.Ytcnneeimkcnjfaa.Sta
