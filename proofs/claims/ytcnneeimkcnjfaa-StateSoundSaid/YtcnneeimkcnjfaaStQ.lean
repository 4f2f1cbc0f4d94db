/-
  Scalars in plain words: what holds a number goes on holding it when it is narrowed, joined, widened, and where it is within. No program is named here.
-/
import Derived.Test.YtcnneeimkcnjfaaStP
namespace Go.Proofs.Ytcnneeimkcnjfaa.Sta
open Bnd Knw
set_option linter.unusedVariables false
set_option linter.unusedSimpArgs false
theorem le_nat {x y : B} (h : Knw.Le x y) : V x ≤ V y := by
  have e : x &&& y = x := ext fun i => by
    have := h i
    rw [g_and]
    revert this
    generalize g x i = a; generalize g y i = b
    revert a b; decide
  have : x.toNat ≤ y.toNat := by
    have n : (x &&& y).toNat = x.toNat := by rw [e]
    rw [BitVec.toNat_and] at n
    rw [← n]; exact Nat.and_le_right
  unfold V; omega
theorem rgK_has {k : Kn} {v : B} (ok : Knw.Ok k) (h : Mem v k) : (rgK k).hasB (V v) = true := by
  rw [Bnd.has_iff]
  have a := le_nat (le_lo ok h)
  have b := le_nat (le_hi ok h)
  have c := sg_bd (V v)
  show V k.v ≤ V v ∧ V v ≤ V (k.v ||| k.m) ∧ allS.lo ≤ sg (V v) ∧ sg (V v) ≤ allS.hi
  simp only [allS]; omega
theorem meet2_has {a b : Rg} {v : Int} (ha : a.hasB v = true) (hb : b.hasB v = true) : (a.meet2 b).hasB v = true := by
  rw [Bnd.has_iff] at ha hb ⊢
  simp only [Rg.meet2, Pr.meet]; omega
theorem meet_has {a b : Rg} {v : B} (oa : a.Ok) (ob : b.Ok) (ha : a.hasB (V v) = true) (hb : b.hasB (V v) = true) : a.meetB b = true ∧ (a.meetR b).hasB (V v) = true := by
  obtain ⟨h1, h2⟩ := has_nar (meet2_ok oa ob) (V_nn v) (V_lt v) (meet2_has ha hb)
  have ma := has_may ha; have mb := has_may hb
  refine ⟨by unfold Rg.meetB; rw [ma, mb, h1]; rfl, ?_⟩
  unfold Rg.meetR
  rw [ma, mb, if_pos (by rfl)]; exact h2
theorem com_mem {lo hi v : B} (h1 : V lo ≤ V v) (h2 : V v ≤ V hi) : Knw.Ok (comK lo hi) ∧ Mem v (comK lo hi) := by
  unfold comK
  rw [if_pos (by omega)]
  refine ⟨ok_msk _ _, fun i hi' => ?_⟩
  have hl : lenN (lo ^^^ hi).toNat ≤ 64 := lenN_64 (by have := (lo ^^^ hi).isLt; omega)
  have hm : g (comB lo hi) i = false := hi'
  rw [com_ones, g_ones hl, decide_eq_false_iff_not] at hm
  rw [g_msk, com_ones, g_ones hl, decide_eq_false hm, Bool.not_false, Bool.and_true]
  have hx := (lenN_spec (lo ^^^ hi).toNat).1
  generalize lenN (lo ^^^ hi).toNat = L at *
  have hlh : lo.toNat / 2 ^ L = hi.toNat / 2 ^ L := by
    refine Nat.eq_of_testBit_eq (fun j => ?_)
    rw [Nat.testBit_div_two_pow, Nat.testBit_div_two_pow]
    have : ((lo ^^^ hi).toNat).testBit (j + L) = false := Nat.testBit_lt_two_pow (Nat.lt_of_lt_of_le hx (Nat.pow_le_pow_right (by decide) (by omega)))
    rw [BitVec.toNat_xor, Nat.testBit_xor] at this
    revert this
    generalize lo.toNat.testBit (j + L) = a; generalize hi.toNat.testBit (j + L) = b
    revert a b; decide
  have n1 : lo.toNat ≤ v.toNat := by unfold V at h1; omega
  have n2 : v.toNat ≤ hi.toNat := by unfold V at h2; omega
  have e : v.toNat / 2 ^ L = lo.toNat / 2 ^ L := Nat.le_antisymm (by rw [hlh]; exact Nat.div_le_div_right n2) (Nat.div_le_div_right n1)
  have t := congrArg (fun n => n.testBit (i - L)) e
  simp only [Nat.testBit_div_two_pow, show i - L + L = i by omega] at t
  exact t
theorem meetK_has {a b : Kn} {v : B} (oa : Knw.Ok a) (ob : Knw.Ok b) (ha : Mem v a) (hb : Mem v b) : a.meetB b = true ∧ Knw.Ok (a.meetK b) ∧ Mem v (a.meetK b) := by
  have hm : a.meetB b = true := (meetB_iff a b).2 ⟨oa, ob, fun i p q => (ha i p).symm.trans (hb i q)⟩
  refine ⟨hm, ?_, (meet_mem hm v).2 ⟨ha, hb⟩⟩
  unfold Kn.meetK
  rw [if_pos hm]; exact ok_msk _ _
theorem hasC_iff {s : Sc} {v : B} : s.hasB v = true ↔ s.r.hasB (V v) = true ∧ Knw.Ok s.k ∧ Mem v s.k := by
  unfold Sc.hasB
  rw [Bool.and_eq_true, Knw.has_iff]
theorem on_has {s : Sc} {v : B} (ok : s.Ok) (h : s.hasB v = true) : s.onB = true ∧ s.on.hasB v = true := by
  obtain ⟨h1, h2, h3⟩ := hasC_iff.1 h
  obtain ⟨m1, m2⟩ := meet_has ok (rgK_ok s.k) h1 (rgK_has h2 h3)
  have oo : s.oR.Ok := oR_ok ok
  have b := (Bnd.has_iff _ _).1 (show s.oR.hasB (V v) = true from m2)
  have l := V_Bk oo.1.1.1 oo.1.1.2
  have u := V_Bk oo.1.2.1 oo.1.2.2
  obtain ⟨c1, c2⟩ := com_mem (lo := Bk s.oR.u.lo) (hi := Bk s.oR.u.hi) (v := v) (by rw [l]; exact b.1) (by rw [u]; exact b.2.1)
  obtain ⟨k1, k2, k3⟩ := meetK_has h2 c1 h3 c2
  have hB : s.onB = true := by unfold Sc.onB; rw [m1, k1]; rfl
  refine ⟨hB, ?_⟩
  unfold Sc.on
  rw [if_pos hB]
  exact hasC_iff.2 ⟨m2, k2, k3⟩
theorem narC_has {s : Sc} {v : B} (ok : s.Ok) (h : s.hasB v = true) : s.nar.hasB v = true := by
  obtain ⟨a1, a2⟩ := on_has ok h
  obtain ⟨b1, b2⟩ := on_has (on_ok ok) a2
  unfold Sc.nar Sc.narB
  rw [a1, b1, if_pos (by rfl)]
  exact b2
theorem on_mayB {s : Sc} (h : s.onB = true) : s.on.mayB = true := by
  have h0 := h
  unfold Sc.onB at h
  rw [Bool.and_eq_true] at h
  unfold Sc.on
  rw [if_pos h0]
  unfold Sc.mayB
  rw [Bool.and_eq_true]
  constructor
  · have m := h.1
    unfold Rg.meetB at m
    rw [Bool.and_eq_true, Bool.and_eq_true] at m
    show (s.r.meetR (rgK s.k)).mayB = true
    unfold Rg.meetR
    rw [m.1, m.2.1, if_pos (by rfl)]
    exact nar_may m.2.2
  · show (s.k.meetK (comK (Bk s.oR.u.lo) (Bk s.oR.u.hi))).mayB = true
    unfold Kn.meetK
    rw [if_pos h.2]
    exact may_msk _ _
theorem allC_may : allC.mayB = true := by decide +kernel
theorem narC_may (s : Sc) : s.nar.mayB = true := by
  unfold Sc.nar Sc.narB
  cases h : s.onB with
  | false => rw [if_neg (by simp)]; exact allC_may
  | true =>
    cases h2 : s.on.onB with
    | false => rw [if_neg (by simp)]; exact allC_may
    | true => rw [if_pos (by rfl)]; exact on_mayB h2
theorem join_mayB (a b : Sc) : (a.join b).mayB = true := by
  unfold Sc.join
  split
  · exact narC_may _
  · exact allC_may
theorem widen_mayB (a b : Sc) : (a.widen b).mayB = true := by
  unfold Sc.widen
  split
  · exact narC_may _
  · exact allC_may
theorem hasC_may {s : Sc} {v : B} (h : s.hasB v = true) : s.mayB = true := by
  obtain ⟨h1, h2, _⟩ := hasC_iff.1 h
  unfold Sc.mayB
  rw [has_may h1, (may_ok _).2 h2]; rfl
theorem joinR_has {a b : Rg} {v : Int} (ma : a.mayB = true) (mb : b.mayB = true) (h : a.hasB v = true ∨ b.hasB v = true) : (a.joinR b).hasB v = true := by
  unfold Rg.joinR
  rw [ma, mb, if_pos (by rfl), Bnd.has_iff]
  rw [Bnd.has_iff, Bnd.has_iff] at h
  simp only [Pr.join]
  rcases h with h | h <;> omega
theorem joinK_has {a b : Kn} {v : B} (oa : Knw.Ok a) (ob : Knw.Ok b) (h : Mem v a ∨ Mem v b) : Knw.Ok (a.joinK b) ∧ Mem v (a.joinK b) := by
  refine ⟨ok_join, ?_⟩
  rcases h with h | h
  · exact mem_sub h (sub_join_l oa ob)
  · exact mem_sub h (sub_join_r oa ob)
theorem mayC_iff {s : Sc} : s.mayB = true ↔ s.r.mayB = true ∧ Knw.Ok s.k := by
  unfold Sc.mayB
  rw [Bool.and_eq_true, may_ok]
theorem joinC_has {a b : Sc} {v : B} (oa : a.Ok) (ob : b.Ok) (ma : a.mayB = true) (mb : b.mayB = true) (h : a.hasB v = true ∨ b.hasB v = true) : (a.join b).hasB v = true := by
  have ma' := mayC_iff.1 ma; have mb' := mayC_iff.1 mb
  unfold Sc.join
  rw [ma, mb, if_pos (by rfl)]
  refine narC_has (s := ⟨_, _⟩) (joinR_ok oa ob) (hasC_iff.2 ⟨joinR_has ma'.1 mb'.1 ?_, joinK_has ma'.2 mb'.2 ?_⟩)
  · rcases h with h | h
    · exact .inl (hasC_iff.1 h).1
    · exact .inr (hasC_iff.1 h).1
  · rcases h with h | h
    · exact .inl (hasC_iff.1 h).2.2
    · exact .inr (hasC_iff.1 h).2.2
theorem widR_has {a b : Rg} {v : B} (h : (a.joinR b).hasB (V v) = true) : (widR a b).hasB (V v) = true := by
  rw [Bnd.has_iff] at h ⊢
  have p := V_nn v; have q := V_lt v; have r := sg_bd (V v)
  simp only [widR, wid1]
  refine ⟨?_, ?_, ?_, ?_⟩ <;> split <;> omega
theorem widenC_has {a b : Sc} {v : B} (oa : a.Ok) (ob : b.Ok) (ma : a.mayB = true) (mb : b.mayB = true) (h : a.hasB v = true ∨ b.hasB v = true) : (a.widen b).hasB v = true := by
  have ma' := mayC_iff.1 ma; have mb' := mayC_iff.1 mb
  unfold Sc.widen
  rw [ma, mb, if_pos (by rfl)]
  refine narC_has (s := ⟨_, _⟩) (widR_ok oa ob) (hasC_iff.2 ⟨widR_has (joinR_has ma'.1 mb'.1 ?_), joinK_has ma'.2 mb'.2 ?_⟩)
  · rcases h with h | h
    · exact .inl (hasC_iff.1 h).1
    · exact .inr (hasC_iff.1 h).1
  · rcases h with h | h
    · exact .inl (hasC_iff.1 h).2.2
    · exact .inr (hasC_iff.1 h).2.2
theorem inC_has {a b : Sc} {v : B} (hi : a.inB b = true) (h : a.hasB v = true) : b.hasB v = true := by
  unfold Sc.inB at hi
  rw [Bool.and_eq_true] at hi
  obtain ⟨h1, h2, h3⟩ := hasC_iff.1 h
  have k := (Knw.in_iff _ _).1 hi.2
  refine hasC_iff.2 ⟨?_, k.2.1, mem_sub h3 k.2.2⟩
  have r := hi.1
  unfold Rg.inB Pr.inB at r
  simp only [Bool.and_eq_true, decide_eq_true_eq] at r
  rw [Bnd.has_iff] at h1 ⊢
  omega
theorem bytesC_has {n : Int} {v : B} (h : V v < 2 ^ (8 * clampI n).toNat) : (bytesC n).hasB v = true := by
  unfold bytesC
  refine narC_has (s := ⟨_, _⟩) allR_ok (hasC_iff.2 ⟨all_has (V_nn v) (V_lt v), fun i => ?_, fun i hi => ?_⟩)
  · show (g (0#64) i && _) = false
    rw [g_0]; rfl
  · have b := clamp_bd n
    have hk : (8 * clampI n).toNat ≤ 64 := by omega
    have hm : g (onesB (8 * clampI n).toNat) i = false := hi
    rw [g_ones hk, decide_eq_false_iff_not] at hm
    show g v i = g (0#64) i
    rw [g_0]
    have p : (2 : Int) ^ (8 * clampI n).toNat = ((2 ^ (8 * clampI n).toNat : Nat) : Int) := pow_cast _
    rw [p] at h
    unfold V at h
    exact Nat.testBit_lt_two_pow (Nat.lt_of_lt_of_le (show v.toNat < 2 ^ (8 * clampI n).toNat by omega) (Nat.pow_le_pow_right (by decide) (by omega)))
end Go.Proofs.Ytcnneeimkcnjfaa.Sta
