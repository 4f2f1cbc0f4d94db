/-
  Intervals in plain numbers: what operations and conditions leave holds each result. No program is named here.
-/
import Derived.Test.YtnmgehjccafegaaBndM
namespace Go.Proofs.Ytnmgehjccafegaa.Bnd
set_option linter.unusedVariables false
set_option linter.unnecessarySimpa false
set_option linter.unusedSimpArgs false

/-! ### The least 2^k - 1 -/

theorem lenN_spec (n : Nat) : n < 2 ^ lenN n ∧ (n ≠ 0 → 2 ^ (lenN n - 1) ≤ n) := by
  unfold lenN
  split
  · subst_vars; simp
  · rename_i h; exact ⟨Nat.lt_log2_self, fun _ => by simpa using Nat.log2_self_le h⟩
theorem pow_inj {a b : Nat} (h : 2 ^ a < 2 ^ b) : a < b := (Nat.pow_lt_pow_iff_right (by omega)).1 h
theorem lenN_zero : lenN 0 = 0 := rfl
theorem lenN_pos {n : Nat} (h : n ≠ 0) : 0 < lenN n := by unfold lenN; rw [if_neg h]; omega
theorem lenN_is {n L : Nat} (h : n ≠ 0) (h1 : n < 2 ^ L) (h2 : 2 ^ (L - 1) ≤ n) (hL : 0 < L) : lenN n = L := by
  obtain ⟨a, b⟩ := lenN_spec n
  have b' := b h
  have p := lenN_pos h
  have c := pow_inj (Nat.lt_of_le_of_lt b' h1)
  have d := pow_inj (Nat.lt_of_le_of_lt h2 a)
  omega
theorem lenN_or (a b : Nat) : lenN (a ||| b) = lenN (max a b) := by
  by_cases h : max a b = 0
  · have ha : a = 0 := by omega
    have hb : b = 0 := by omega
    subst ha hb; rfl
  · obtain ⟨c, d⟩ := lenN_spec (max a b)
    have la : a ≤ a ||| b := Nat.left_le_or
    have lb : b ≤ a ||| b := Nat.right_le_or
    exact lenN_is (by omega) (Nat.or_lt_two_pow (by omega) (by omega)) (by have := d h; omega) (lenN_pos h)
theorem lenN_64 {n : Nat} (h : n < 18446744073709551616) : lenN n ≤ 64 := by
  by_cases h0 : n = 0
  · subst h0; rw [lenN_zero]; omega
  · have := (lenN_spec n).2 h0
    have l := pow_inj (Nat.lt_of_le_of_lt this (show n < 2 ^ 64 from h))
    omega
theorem pow_cast (n : Nat) : (2 : Int) ^ n = ((2 ^ n : Nat) : Int) := by simp
theorem onesI_is (n : Nat) : onesI n = ((2 ^ lenN n : Nat) : Int) - 1 := by unfold onesI; rw [pow_cast]
theorem onesI_bd {n : Nat} (h : n < 18446744073709551616) : 0 ≤ onesI n ∧ onesI n < 18446744073709551616 := by
  rw [onesI_is]
  have p : 0 < 2 ^ lenN n := Nat.two_pow_pos _
  have q : 2 ^ lenN n ≤ 2 ^ 64 := Nat.pow_le_pow_right (by omega) (lenN_64 h)
  omega
theorem onesI_ge (n : Nat) : (n : Int) ≤ onesI n := by
  rw [onesI_is]
  have := (lenN_spec n).1
  omega

/-! ### Results of operations -/

theorem U_up (h : Int) (h0 : 0 ≤ h) (h1 : h < 18446744073709551616) : (⟨0, h⟩ : Pr).U := by simp only [Pr.U]; omega
theorem div_le' {a b c : Int} (h : a ≤ b) (hc : 0 < c) : a / c ≤ b / c := Int.ediv_le_ediv hc h
theorem div_anti {a c d : Int} (ha : 0 ≤ a) (hc : 0 < c) (h : c ≤ d) : a / d ≤ a / c := by
  refine (Int.le_ediv_iff_mul_le hc).2 ?_
  have e1 : a / d * d ≤ a := Int.ediv_mul_le a (by omega)
  have e2 : 0 ≤ a / d := Int.ediv_nonneg ha (by omega)
  have e3 : a / d * c ≤ a / d * d := Int.mul_le_mul_of_nonneg_left h e2
  omega
theorem pw (n : Nat) : 0 < (2 : Int) ^ n := Int.pow_pos (by omega)
theorem mulp_le {a b : Int} (h : a ≤ b) (n : Nat) : a * 2 ^ n ≤ b * 2 ^ n := Int.mul_le_mul_of_nonneg_right h (Int.le_of_lt (pw n))
theorem mulp_nn {a : Int} (h : 0 ≤ a) (n : Nat) : 0 ≤ a * 2 ^ n := Int.mul_nonneg h (Int.le_of_lt (pw n))

theorem plusU_ok {p q : Pr} (hp : p.U) (hq : q.U) : (plusU p q).U := by
  unfold plusU
  split
  · simp only [Pr.U] at *; omega
  · exact U_all
theorem plusS_ok {p q : Pr} (hp : p.S) (hq : q.S) : (plusS p q).S := by
  unfold plusS inS
  split
  · simp only [Pr.S] at *; omega
  · exact S_all
theorem minusU_ok {p q : Pr} (hp : p.U) (hq : q.U) : (minusU p q).U := by
  unfold minusU
  split
  · simp only [Pr.U] at *; omega
  · exact U_all
theorem minusS_ok {p q : Pr} (hp : p.S) (hq : q.S) : (minusS p q).S := by
  unfold minusS inS
  split
  · simp only [Pr.S] at *; omega
  · exact S_all
theorem or_nat {a b : Int} (ha0 : 0 ≤ a) (ha : a < 18446744073709551616) (hb : b < 18446744073709551616) : a.toNat ||| b.toNat < 18446744073709551616 :=
  @Nat.or_lt_two_pow a.toNat b.toNat 64 (by omega) (by omega)
theorem restU_ok (op : Int) {a b : Rg} (ha : a.u.U) (hb : b.u.U) (bm : b.u.lo ≤ b.u.hi) : (restU op a b).U := by
  have w := ha
  have x := hb
  simp only [Pr.U] at w x
  have o := onesI_bd (or_nat w.2.1 w.2.2 x.2.2)
  have lo1 := div_bd a.u.lo b.u.hi (by omega) (by omega) (by omega)
  have lo2 := div_bd a.u.hi b.u.lo (by omega) (by omega) (by omega)
  have s1 := div_bd a.u.lo (2 ^ byN b) (by omega) (by omega) (by have := pw (byN b); omega)
  have s2 := div_bd a.u.hi (2 ^ byN b) (by omega) (by omega) (by have := pw (byN b); omega)
  have s3 := mulp_nn w.2.1 (byN b)
  unfold restU
  split
  · simp only [Pr.U]; omega
  split
  · simp only [Pr.U]; omega
  split
  · simp only [Pr.U]; omega
  split
  · split <;> (simp only [Pr.U]; omega)
  split
  · split <;> (simp only [Pr.U]; omega)
  split
  · split
    · simp only [Pr.U]; omega
    · exact U_all
  split
  · split
    · rename_i hh
      simp only [Bool.and_eq_true, decide_eq_true_eq] at hh
      simp only [Pr.U]; omega
    · exact U_all
  · exact U_all
theorem doU_ok (op : Int) {a b : Rg} (ha : a.u.U) (hb : b.u.U) (bm : b.u.lo ≤ b.u.hi) : (doU op a b).U := by
  unfold doU
  split
  · exact hb
  split
  · exact plusU_ok ha hb
  split
  · exact minusU_ok ha hb
  · exact restU_ok op ha hb bm
theorem doS_ok (op : Int) {a b : Rg} (ha : a.s.S) (hb : b.s.S) : (doS op a b).S := by
  unfold doS
  split
  · exact hb
  split
  · exact plusS_ok ha hb
  split
  · exact minusS_ok ha hb
  · exact S_all
theorem do_ok (op : Int) {a b : Rg} (ha : a.Ok) (hb : b.Ok) (bm : b.mayB = true) : (⟨doU op a b, doS op a b⟩ : Rg).Ok := ⟨doU_ok op ha.1 hb.1 ((may_iff b).1 bm).1, doS_ok op ha.2 hb.2⟩

theorem one_iff (r : Rg) : r.oneB = true ↔ r.u.lo = r.u.hi ∧ r.hasB r.u.lo = true := by
  simp only [Rg.oneB, Bool.and_eq_true, beq_iff_eq]
theorem one_has {r : Rg} {v : Int} (h : r.oneB = true) (hv : r.hasB v = true) : v = r.oneV := by
  unfold Rg.oneV
  rw [if_pos h]
  rw [one_iff] at h
  rw [has_iff] at hv
  omega
theorem one_iff' {r : Rg} {v : Int} (h : r.oneB = true) : r.hasB v = (v == r.oneV) := by
  rw [Bool.eq_iff_iff, beq_iff_eq]
  refine ⟨one_has h, ?_⟩
  rintro rfl
  unfold Rg.oneV
  rw [if_pos h]
  rw [one_iff] at h
  exact h.2
theorem doI_64 {op v w : Int} (h0 : 0 ≤ op) (h1 : op ≤ 12) : doI op 64 v w = opI op 64 v w := by
  unfold doI
  rw [if_pos ⟨h0, h1, rfl⟩]
  rfl

/-- An unsigned result lies in the unsigned bounds. -/
theorem doU_has {op : Int} {a b : Rg} {v w : Int} (ha : a.Ok) (hb : b.Ok) (hv : a.hasB v = true) (hw : b.hasB w = true) (h0 : 0 ≤ op) (h1 : op ≤ 12) :
    (doU op a b).lo ≤ opI op 64 v w ∧ opI op 64 v w ≤ (doU op a b).hi := by
  have A := (has_iff _ _).1 hv
  have B := (has_iff _ _).1 hw
  obtain ⟨a1, a2, _, _⟩ := A
  obtain ⟨b1, b2, _, _⟩ := B
  have ua := ha.1
  have ub := hb.1
  simp only [Pr.U] at ua ub
  have bd := opI_bd op 64 v w (by omega) (by omega) (by omega) (by omega)
  have def_ : (allU).lo ≤ opI op 64 v w ∧ opI op 64 v w ≤ (allU).hi := by simp only [allU]; omega
  unfold doU
  split
  · rename_i e; subst e; rw [opI_11]; exact ⟨b1, b2⟩
  split
  · rename_i e; subst e
    unfold plusU
    split
    · rw [opI_0]; dsimp only; omega
    · exact def_
  split
  · rename_i e; subst e
    unfold minusU
    split
    · rw [opI_1]; dsimp only; omega
    · exact def_
  unfold restU
  split
  · rename_i e; subst e
    rw [opI_5]
    have l1 : v.toNat &&& w.toNat ≤ v.toNat := Nat.and_le_left
    have l2 : v.toNat &&& w.toNat ≤ w.toNat := Nat.and_le_right
    dsimp only; omega
  split
  · rename_i e; subst e
    rw [opI_4]
    have l1 : v.toNat ≤ v.toNat ||| w.toNat := Nat.left_le_or
    have l2 : w.toNat ≤ v.toNat ||| w.toNat := Nat.right_le_or
    have m1 : a.u.hi.toNat ≤ a.u.hi.toNat ||| b.u.hi.toNat := Nat.left_le_or
    have m2 : b.u.hi.toNat ≤ a.u.hi.toNat ||| b.u.hi.toNat := Nat.right_le_or
    have s := (lenN_spec (a.u.hi.toNat ||| b.u.hi.toNat)).1
    have l3 : v.toNat ||| w.toNat < 2 ^ lenN (a.u.hi.toNat ||| b.u.hi.toNat) := Nat.or_lt_two_pow (by omega) (by omega)
    dsimp only; rw [onesI_is]; omega
  split
  · rename_i e; subst e
    rw [opI_10]
    have m1 : a.u.hi.toNat ≤ a.u.hi.toNat ||| b.u.hi.toNat := Nat.left_le_or
    have m2 : b.u.hi.toNat ≤ a.u.hi.toNat ||| b.u.hi.toNat := Nat.right_le_or
    have s := (lenN_spec (a.u.hi.toNat ||| b.u.hi.toNat)).1
    have l3 : v.toNat ^^^ w.toNat < 2 ^ lenN (a.u.hi.toNat ||| b.u.hi.toNat) := Nat.xor_lt_two_pow (by omega) (by omega)
    dsimp only; rw [onesI_is]; omega
  split
  · rename_i e; subst e
    rw [opI_3] at bd ⊢
    split
    · split
      · dsimp only; omega
      · have := Int.ediv_le_self w (show 0 ≤ v by omega)
        have := div_anti (a := v) (c := 1) (d := w) (by omega) (by omega) (by omega)
        rw [Int.ediv_one] at this
        have := Int.ediv_nonneg (show 0 ≤ v by omega) (show 0 ≤ w by omega)
        dsimp only; omega
    · rw [if_neg (by omega)]
      have c1 := div_le' a1 (show 0 < b.u.hi by omega)
      have c2 := div_anti (a := v) (c := w) (d := b.u.hi) (by omega) (by omega) (by omega)
      have c3 := div_le' a2 (show 0 < b.u.lo by omega)
      have c4 := div_anti (a := v) (c := b.u.lo) (d := w) (by omega) (by omega) (by omega)
      dsimp only; omega
  split
  · rename_i e; subst e
    rw [opI_9] at bd ⊢
    have ml : w ≠ 0 → v % w ≤ v := fun h => by
      have e := Int.emod_add_mul_ediv v w
      have := Int.mul_nonneg (show 0 ≤ w by omega) (Int.ediv_nonneg (show 0 ≤ v by omega) (show 0 ≤ w by omega))
      omega
    have mw : w ≠ 0 → v % w < w := fun h => Int.emod_lt_of_pos v (by omega)
    split
    · split
      · dsimp only; omega
      · have := ml (by assumption)
        rw [if_neg (by assumption)] at bd
        dsimp only; omega
    · rw [if_neg (by omega)] at bd ⊢
      have := ml (by omega)
      have := mw (by omega)
      dsimp only; omega
  split
  · rename_i e; subst e
    split
    · rename_i o
      have ew := one_has o hw
      have ec : cntI 64 w = byN b := by unfold cntI byN; rw [if_neg (by omega), ew]
      rw [opI_7, ec]
      have c1 := div_le' a1 (pw (byN b))
      have c2 := div_le' a2 (pw (byN b))
      exact ⟨c1, c2⟩
    · exact def_
  split
  · rename_i e; subst e
    split
    · rename_i o
      simp only [Bool.and_eq_true, decide_eq_true_eq] at o
      obtain ⟨o, lt⟩ := o
      have ew := one_has o hw
      have ec : cntI 64 w = byN b := by unfold cntI byN; rw [if_neg (by omega), ew]
      rw [opI_6, ec]
      have c1 := mulp_le a1 (byN b)
      have c2 := mulp_le a2 (byN b)
      have c3 := mulp_nn (show 0 ≤ a.u.lo by omega) (byN b)
      dsimp only; omega
    · exact def_
  · exact def_
theorem doS_has {op : Int} {a b : Rg} {v w : Int} (ha : a.Ok) (hb : b.Ok) (hv : a.hasB v = true) (hw : b.hasB w = true) (h0 : 0 ≤ op) (h1 : op ≤ 12) :
    (doS op a b).lo ≤ sg (opI op 64 v w) ∧ sg (opI op 64 v w) ≤ (doS op a b).hi := by
  have A := (has_iff _ _).1 hv
  have B := (has_iff _ _).1 hw
  obtain ⟨a0, a0', a1, a2⟩ := A
  obtain ⟨b0, b0', b1, b2⟩ := B
  have ua := ha.1
  have ub := hb.1
  simp only [Pr.U] at ua ub
  have bd := sg_bd (opI op 64 v w)
  have def_ : (allS).lo ≤ sg (opI op 64 v w) ∧ sg (opI op 64 v w) ≤ (allS).hi := by simp only [allS]; omega
  unfold doS
  split
  · rename_i e; subst e; rw [opI_11]; exact ⟨b1, b2⟩
  split
  · rename_i e; subst e
    unfold plusS inS
    split
    · rw [opI_0]; dsimp only; simp only [sg] at *; omega
    · exact def_
  split
  · rename_i e; subst e
    unfold minusS inS
    split
    · rw [opI_1]; dsimp only; simp only [sg] at *; omega
    · exact def_
  exact def_
/-- Each result is held. -/
theorem do_has {op : Int} {a b : Rg} {v w : Int} (ha : a.Ok) (hb : b.Ok) (hv : a.hasB v = true) (hw : b.hasB w = true) (v0 : 0 ≤ v) (v1 : v < 18446744073709551616) (w0 : 0 ≤ w) (w1 : w < 18446744073709551616) (h0 : 0 ≤ op) (h1 : op ≤ 12) :
    (Rg.doR op a b).hasB (doI op 64 v w) = true := by
  have bd := doI_bd op 64 v w v0 v1 w0 w1
  unfold Rg.doR
  rw [if_pos (by rw [has_may hv, has_may hw]; rfl)]
  refine nar_keeps (do_ok op ha hb (has_may hw)) bd.1 bd.2 ?_
  rw [doI_64 h0 h1, has_iff]
  obtain ⟨a1, a2⟩ := doU_has ha hb hv hw h0 h1
  obtain ⟨b1, b2⟩ := doS_has ha hb hv hw h0 h1
  exact ⟨a1, a2, b1, b2⟩

/-! ### Joined, met, narrowed, cut -/

theorem join_l {a b : Rg} {v : Int} (hv : a.hasB v = true) (hb : b.mayB = true) : (a.joinR b).hasB v = true := by
  unfold Rg.joinR
  rw [if_pos (by rw [has_may hv, hb]; rfl)]
  rw [has_iff] at hv ⊢
  simp only [Pr.join]; omega
theorem join_r {a b : Rg} {v : Int} (hv : b.hasB v = true) (ha : a.mayB = true) : (a.joinR b).hasB v = true := by
  unfold Rg.joinR
  rw [if_pos (by rw [has_may hv, ha]; rfl)]
  rw [has_iff] at hv ⊢
  simp only [Pr.join]; omega
theorem in_iff (a b : Rg) : a.inB b = true ↔ a.mayB = true ∧ b.mayB = true ∧ b.u.lo ≤ a.u.lo ∧ a.u.hi ≤ b.u.hi ∧ b.s.lo ≤ a.s.lo ∧ a.s.hi ≤ b.s.hi := by
  simp only [Rg.inB, Pr.inB, Bool.and_eq_true, decide_eq_true_eq]
  constructor
  · rintro ⟨a, b, ⟨c, d⟩, e, f⟩; exact ⟨a, b, c, d, e, f⟩
  · rintro ⟨a, b, c, d, e, f⟩; exact ⟨a, b, ⟨c, d⟩, e, f⟩
theorem nar_in {a : Rg} (h : a.narB = true) : a.nar.inB a = true := by
  rw [in_iff]
  refine ⟨nar_may h, may_nS (may_nU (may_nS h)), ?_⟩
  unfold Rg.nar; rw [if_pos h]
  exact in_nar3 a
theorem low_has {a : Rg} {v : Int} (ok : a.Ok) (hv : a.hasB v = true) (v0 : 0 ≤ v) (v1 : v < 18446744073709551616) : a.low.hasB (v % 4294967296) = true := by
  unfold Rg.low
  split
  · rename_i h
    simp only [Bool.and_eq_true, decide_eq_true_eq] at h
    have := (has_iff _ _).1 hv
    rw [Int.emod_eq_of_lt v0 (by omega)]
    exact hv
  · rw [has_iff, sg_lo (by omega) (by omega)]
    simp only [low32]; omega
theorem meet_ok {a b : Rg} (ha : a.Ok) (hb : b.Ok) : (a.meet2 b).Ok := by
  simp only [Rg.Ok, Pr.U, Pr.S, Rg.meet2, Pr.meet] at *
  omega
theorem meet_has {a b : Rg} {w : Int} (ha : a.Ok) (hb : b.Ok) (hw : b.hasB w = true) (w0 : 0 ≤ w) (w1 : w < 18446744073709551616) (am : a.mayB = true) : a.hasB w = (a.meetB b && (a.meetR b).hasB w) := by
  have e : a.hasB w = (a.meet2 b).hasB w := by
    rw [Bool.eq_iff_iff]
    rw [has_iff] at hw ⊢
    rw [has_iff]
    simp only [Rg.meet2, Pr.meet]; omega
  unfold Rg.meetB Rg.meetR
  rw [am, has_may hw, Bool.true_and, Bool.true_and, if_pos (by rfl), e]
  cases n : (a.meet2 b).narB
  · rw [nar_no_has (meet_ok ha hb) w0 w1 n]; rfl
  · rw [nar_has (meet_ok ha hb) w0 w1 n, Bool.true_and]

/-! ### Conditions -/

theorem giv_ok (cc : Int) {a b : Rg} (ha : a.Ok) (hb : b.Ok) (am : a.mayB = true) : (givC cc a b).Ok := by
  have mm := (may_iff a).1 am
  have U1 : ∀ p : Pr, p.U → p.lo ≤ p.hi → ∀ v, (p.without v).U := fun p h hm v => by
    simp only [Pr.without]
    repeat' split
    all_goals (simp only [Pr.U, noneP] at *; omega)
  have S1 : ∀ p : Pr, p.S → p.lo ≤ p.hi → ∀ v, (p.without v).S := fun p h hm v => by
    simp only [Pr.without]
    repeat' split
    all_goals (simp only [Pr.S, noneP] at *; omega)
  obtain ⟨au, as⟩ := ha
  obtain ⟨bu, bs⟩ := hb
  unfold givC
  split
  · exact meet_ok ⟨au, as⟩ ⟨bu, bs⟩
  split
  · split
    · exact ⟨U1 _ au mm.1 _, S1 _ as mm.2 _⟩
    · exact ⟨au, as⟩
  split
  · refine ⟨?_, as⟩
    simp only [Pr.above, noneP]
    split <;> (simp only [Pr.U] at *; omega)
  split
  · refine ⟨?_, as⟩
    simp only [Pr.atLeast, Pr.U] at *; omega
  split
  · refine ⟨?_, as⟩
    simp only [Pr.below, noneP]
    split <;> (simp only [Pr.U] at *; omega)
  split
  · refine ⟨?_, as⟩
    simp only [Pr.atMost, Pr.U] at *; omega
  split
  · refine ⟨au, ?_⟩
    simp only [Pr.above, noneP]
    split <;> (simp only [Pr.S] at *; omega)
  split
  · refine ⟨au, ?_⟩
    simp only [Pr.atLeast, Pr.S] at *; omega
  split
  · refine ⟨au, ?_⟩
    simp only [Pr.below, noneP]
    split <;> (simp only [Pr.S] at *; omega)
  split
  · refine ⟨au, ?_⟩
    simp only [Pr.atMost, Pr.S] at *; omega
  · exact ⟨au, as⟩
theorem without_in {p : Pr} {v : Int} (h : (p.without v).lo ≤ (p.without v).hi) : p.lo ≤ (p.without v).lo ∧ (p.without v).hi ≤ p.hi := by
  revert h
  unfold Pr.without noneP
  repeat' split
  all_goals ((try dsimp only); omega)
theorem giv_in (cc : Int) {a b : Rg} (h : (givC cc a b).mayB = true) : a.u.lo ≤ (givC cc a b).u.lo ∧ (givC cc a b).u.hi ≤ a.u.hi ∧ a.s.lo ≤ (givC cc a b).s.lo ∧ (givC cc a b).s.hi ≤ a.s.hi := by
  rw [may_iff] at h
  revert h
  unfold givC
  split
  · simp only [Rg.meet2, Pr.meet]; omega
  split
  · split
    · rintro ⟨h1, h2⟩
      have x := without_in h1
      have y := without_in h2
      exact ⟨x.1, x.2, y.1, y.2⟩
    · omega
  split
  · simp only [Pr.above, noneP]; split <;> (dsimp only; omega)
  split
  · simp only [Pr.atLeast]; omega
  split
  · simp only [Pr.below, noneP]; split <;> (dsimp only; omega)
  split
  · simp only [Pr.atMost]; omega
  split
  · simp only [Pr.above, noneP]; split <;> (dsimp only; omega)
  split
  · simp only [Pr.atLeast]; omega
  split
  · simp only [Pr.below, noneP]; split <;> (dsimp only; omega)
  split
  · simp only [Pr.atMost]; omega
  · omega
theorem giv_in_a {cc : Int} {a b : Rg} (h : Rg.givB cc a b = true) : (Rg.giv cc a b).inB a = true := by
  unfold Rg.givB at h
  simp only [Bool.and_eq_true] at h
  obtain ⟨ha, hb, hc, hn⟩ := h
  unfold Rg.giv
  rw [ha, hb, hc, if_pos (by rfl)]
  rw [in_iff]
  refine ⟨nar_may hn, ha, ?_⟩
  unfold Rg.nar; rw [if_pos hn]
  have x := in_nar3 (givC cc a b)
  have y := giv_in cc (may_nS (may_nU (may_nS hn)))
  omega
theorem without_has {p : Pr} {v w : Int} (h0 : p.lo ≤ v) (h1 : v ≤ p.hi) (ne : v ≠ w) : (p.without w).lo ≤ v ∧ v ≤ (p.without w).hi := by
  unfold Pr.without noneP
  repeat' split
  all_goals ((try dsimp only); omega)
theorem sg_ne {v w : Int} (v0 : 0 ≤ v) (v1 : v < 18446744073709551616) (w0 : 0 ≤ w) (w1 : w < 18446744073709551616) (h : v ≠ w) : sg v ≠ sg w := by
  simp only [sg]; omega
theorem sg_sgnI (v : Int) : sgnI v 64 = sg v := by unfold sgnI sg; rw [if_neg (by omega), if_neg (by omega), if_neg (by omega)]
set_option maxHeartbeats 1000000 in
theorem giv_has {cc : Int} {a b : Rg} {v w : Int} (ha : a.Ok) (hb : b.Ok) (hv : a.hasB v = true) (hw : b.hasB w = true) (v0 : 0 ≤ v) (v1 : v < 18446744073709551616) (w0 : 0 ≤ w) (w1 : w < 18446744073709551616) (h0 : 0 ≤ cc) (h1 : cc ≤ 10) (h : ccB cc 64 v w = true) :
    (givC cc a b).hasB v = true := by
  have A := (has_iff _ _).1 hv
  have B := (has_iff _ _).1 hw
  rw [has_iff]
  revert h
  unfold ccB givC
  rw [sg_sgnI, sg_sgnI]
  split
  · intro h
    have : v = w := by simpa using h
    subst this
    simp only [Rg.meet2, Pr.meet]; omega
  split
  · intro h
    have ne : v ≠ w := by simpa using h
    split
    · rename_i o
      have e := one_has o hw
      rw [← e]
      have x := without_has A.1 A.2.1 ne
      have y := without_has A.2.2.1 A.2.2.2 (sg_ne v0 v1 w0 w1 ne)
      exact ⟨x.1, x.2, y.1, y.2⟩
    · exact A
  split
  · intro h
    have h := of_decide_eq_true h
    simp only [Pr.above, noneP]; split <;> (dsimp only; omega)
  split
  · intro h
    have h := of_decide_eq_true h
    simp only [Pr.atLeast]; omega
  split
  · intro h
    have h := of_decide_eq_true h
    simp only [Pr.below, noneP]; split <;> (dsimp only; omega)
  split
  · intro h
    have h := of_decide_eq_true h
    simp only [Pr.atMost]; omega
  split
  · intro h
    have h := of_decide_eq_true h
    simp only [Pr.above, noneP]; split <;> (dsimp only; omega)
  split
  · intro h
    have h := of_decide_eq_true h
    simp only [Pr.atLeast]; omega
  split
  · intro h
    have h := of_decide_eq_true h
    simp only [Pr.below, noneP]; split <;> (dsimp only; omega)
  split
  · intro h
    have h := of_decide_eq_true h
    simp only [Pr.atMost]; omega
  · intro _; exact A
/-- What stands to something of b as a condition says is held. -/
theorem given_has {cc : Int} {a b : Rg} {v w : Int} (ha : a.Ok) (hb : b.Ok) (hv : a.hasB v = true) (hw : b.hasB w = true) (v0 : 0 ≤ v) (v1 : v < 18446744073709551616) (w0 : 0 ≤ w) (w1 : w < 18446744073709551616) (h : holdsB cc 64 v w = true) :
    Rg.givB cc a b = true ∧ (Rg.giv cc a b).hasB v = true := by
  have hc : 0 ≤ cc ∧ cc ≤ 10 := by
    by_cases c : 0 ≤ cc ∧ cc ≤ 10
    · exact c
    · unfold holdsB at h
      rw [if_neg (fun x => c ⟨x.1, x.2.1⟩)] at h; cases h
  have h' : ccB cc 64 v w = true := by
    unfold holdsB at h
    rw [if_pos ⟨hc.1, hc.2, rfl⟩] at h
    exact h
  have ok : ccOk cc = true := by unfold ccOk; rw [decide_eq_true hc.1, decide_eq_true hc.2]; rfl
  have x := has_nar (giv_ok cc ha hb (has_may hv)) v0 v1 (giv_has ha hb hv hw v0 v1 w0 w1 hc.1 hc.2 h')
  unfold Rg.givB Rg.giv
  rw [has_may hv, has_may hw, ok, x.1, if_pos (by rfl)]
  exact ⟨rfl, x.2⟩
end Go.Proofs.Ytnmgehjccafegaa.Bnd
