/-
  What the document's own Given narrows, against what package bounds' narrows. No program is named here.
-/
import Derived.Test.YtnmgehjccafegaaBndA
import Derived.Test.YtnmgehjccafegaaBndN
namespace Go.Proofs.Ytnmgehjccafegaa.Bnd
set_option linter.unusedVariables false
set_option linter.unusedSimpArgs false

/-- z narrows to what Given says. -/
def GC (cc : Int) (x y z : Rg) : Prop := z.Ok ∧ (givC cc x y).nar = z.nar ∧ (givC cc x y).narB = z.narB
theorem gc_eq {cc : Int} {x y z : Rg} (h : givC cc x y = z) (ok : z.Ok) : GC cc x y z := ⟨ok, by rw [h], by rw [h]⟩
theorem gc_bad {cc : Int} {x y z : Rg} (h1 : (givC cc x y).mayB = false) (h2 : z.mayB = false) (ok : z.Ok) : GC cc x y z := by
  have e1 := nar_of_no h1
  have e2 := nar_of_no h2
  refine ⟨ok, ?_, by rw [e1, e2]⟩
  unfold Rg.nar
  rw [e1, e2]
  rfl
theorem not_may {r : Rg} (h : r.u.hi < r.u.lo ∨ r.s.hi < r.s.lo) : r.mayB = false := by
  cases e : r.mayB
  · rfl
  · rw [may_iff] at e; omega
section
variable {a b c d p q r t : Int}
theorem gd_2 : givC 2 (⟨⟨a, b⟩, ⟨c, d⟩⟩ : Rg) (⟨⟨p, q⟩, ⟨r, t⟩⟩ : Rg) = ⟨Pr.above ⟨a, b⟩ ⟨p, q⟩, ⟨c, d⟩⟩ := by
  unfold givC
  simp only [show ¬ ((2 : Int) = 0) by omega, show ¬ ((2 : Int) = 1) by omega, if_false, if_true]

theorem gd_3 : givC 3 (⟨⟨a, b⟩, ⟨c, d⟩⟩ : Rg) (⟨⟨p, q⟩, ⟨r, t⟩⟩ : Rg) = ⟨Pr.atLeast ⟨a, b⟩ ⟨p, q⟩, ⟨c, d⟩⟩ := by
  unfold givC
  simp only [show ¬ ((3 : Int) = 0) by omega, show ¬ ((3 : Int) = 1) by omega, show ¬ ((3 : Int) = 2) by omega, if_false, if_true]

theorem gd_4 : givC 4 (⟨⟨a, b⟩, ⟨c, d⟩⟩ : Rg) (⟨⟨p, q⟩, ⟨r, t⟩⟩ : Rg) = ⟨Pr.below ⟨a, b⟩ ⟨p, q⟩, ⟨c, d⟩⟩ := by
  unfold givC
  simp only [show ¬ ((4 : Int) = 0) by omega, show ¬ ((4 : Int) = 1) by omega, show ¬ ((4 : Int) = 2) by omega, show ¬ ((4 : Int) = 3) by omega, if_false, if_true]

theorem gd_5 : givC 5 (⟨⟨a, b⟩, ⟨c, d⟩⟩ : Rg) (⟨⟨p, q⟩, ⟨r, t⟩⟩ : Rg) = ⟨Pr.atMost ⟨a, b⟩ ⟨p, q⟩, ⟨c, d⟩⟩ := by
  unfold givC
  simp only [show ¬ ((5 : Int) = 0) by omega, show ¬ ((5 : Int) = 1) by omega, show ¬ ((5 : Int) = 2) by omega, show ¬ ((5 : Int) = 3) by omega, show ¬ ((5 : Int) = 4) by omega, if_false, if_true]

theorem gd_6 : givC 6 (⟨⟨a, b⟩, ⟨c, d⟩⟩ : Rg) (⟨⟨p, q⟩, ⟨r, t⟩⟩ : Rg) = ⟨⟨a, b⟩, Pr.above ⟨c, d⟩ ⟨r, t⟩⟩ := by
  unfold givC
  simp only [show ¬ ((6 : Int) = 0) by omega, show ¬ ((6 : Int) = 1) by omega, show ¬ ((6 : Int) = 2) by omega, show ¬ ((6 : Int) = 3) by omega, show ¬ ((6 : Int) = 4) by omega, show ¬ ((6 : Int) = 5) by omega, if_false, if_true]

theorem gd_7 : givC 7 (⟨⟨a, b⟩, ⟨c, d⟩⟩ : Rg) (⟨⟨p, q⟩, ⟨r, t⟩⟩ : Rg) = ⟨⟨a, b⟩, Pr.atLeast ⟨c, d⟩ ⟨r, t⟩⟩ := by
  unfold givC
  simp only [show ¬ ((7 : Int) = 0) by omega, show ¬ ((7 : Int) = 1) by omega, show ¬ ((7 : Int) = 2) by omega, show ¬ ((7 : Int) = 3) by omega, show ¬ ((7 : Int) = 4) by omega, show ¬ ((7 : Int) = 5) by omega, show ¬ ((7 : Int) = 6) by omega, if_false, if_true]

theorem gd_8 : givC 8 (⟨⟨a, b⟩, ⟨c, d⟩⟩ : Rg) (⟨⟨p, q⟩, ⟨r, t⟩⟩ : Rg) = ⟨⟨a, b⟩, Pr.below ⟨c, d⟩ ⟨r, t⟩⟩ := by
  unfold givC
  simp only [show ¬ ((8 : Int) = 0) by omega, show ¬ ((8 : Int) = 1) by omega, show ¬ ((8 : Int) = 2) by omega, show ¬ ((8 : Int) = 3) by omega, show ¬ ((8 : Int) = 4) by omega, show ¬ ((8 : Int) = 5) by omega, show ¬ ((8 : Int) = 6) by omega, show ¬ ((8 : Int) = 7) by omega, if_false, if_true]

theorem gd_9 : givC 9 (⟨⟨a, b⟩, ⟨c, d⟩⟩ : Rg) (⟨⟨p, q⟩, ⟨r, t⟩⟩ : Rg) = ⟨⟨a, b⟩, Pr.atMost ⟨c, d⟩ ⟨r, t⟩⟩ := by
  unfold givC
  simp only [show ¬ ((9 : Int) = 0) by omega, show ¬ ((9 : Int) = 1) by omega, show ¬ ((9 : Int) = 2) by omega, show ¬ ((9 : Int) = 3) by omega, show ¬ ((9 : Int) = 4) by omega, show ¬ ((9 : Int) = 5) by omega, show ¬ ((9 : Int) = 6) by omega, show ¬ ((9 : Int) = 7) by omega, show ¬ ((9 : Int) = 8) by omega, if_false, if_true]

theorem gd_10 : givC 10 (⟨⟨a, b⟩, ⟨c, d⟩⟩ : Rg) (⟨⟨p, q⟩, ⟨r, t⟩⟩ : Rg) = ⟨⟨a, b⟩, ⟨c, d⟩⟩ := by
  unfold givC
  simp only [show ¬ ((10 : Int) = 0) by omega, show ¬ ((10 : Int) = 1) by omega, show ¬ ((10 : Int) = 2) by omega, show ¬ ((10 : Int) = 3) by omega, show ¬ ((10 : Int) = 4) by omega, show ¬ ((10 : Int) = 5) by omega, show ¬ ((10 : Int) = 6) by omega, show ¬ ((10 : Int) = 7) by omega, show ¬ ((10 : Int) = 8) by omega, show ¬ ((10 : Int) = 9) by omega, if_false, if_true]

theorem gc_2 (ha : (⟨⟨a, b⟩, ⟨c, d⟩⟩ : Rg).Ok) (hb : (⟨⟨p, q⟩, ⟨r, t⟩⟩ : Rg).Ok) (hm : (⟨⟨a, b⟩, ⟨c, d⟩⟩ : Rg).mayB = true) (hn : (⟨⟨p, q⟩, ⟨r, t⟩⟩ : Rg).mayB = true) (h : (p == 18446744073709551615) = false) : GC 2 (⟨⟨a, b⟩, ⟨c, d⟩⟩ : Rg) (⟨⟨p, q⟩, ⟨r, t⟩⟩ : Rg) ⟨⟨max a (IntKind.u64.wrap (p + 1)), b⟩, ⟨c, d⟩⟩ := by
  have h0 : ¬ p = 18446744073709551615 := by simpa using h
  simp only [Rg.Ok, Pr.U, Pr.S] at ha hb
  rw [may_iff] at hm hn
  dsimp only at hm hn
  by_cases e : b ≤ p
  · refine gc_bad ?_ ?_ ?_
    · rw [gd_2]; exact not_may (by simp only [Pr.above]; rw [if_pos e]; simp only [noneP]; omega)
    · exact not_may (by dsimp only; rw [IntKind.wrap_u64]; omega)
    · simp only [Rg.Ok, Pr.U, Pr.S]; rw [IntKind.wrap_u64]; omega
  · refine gc_eq ?_ ?_
    · rw [gd_2]; simp only [Pr.above]; rw [if_neg e, show IntKind.u64.wrap (p + 1) = (p + 1) by rw [IntKind.wrap_u64]; omega]
    · simp only [Rg.Ok, Pr.U, Pr.S]; rw [IntKind.wrap_u64]; omega
theorem ga_2 (ha : (⟨⟨a, b⟩, ⟨c, d⟩⟩ : Rg).Ok) (hb : (⟨⟨p, q⟩, ⟨r, t⟩⟩ : Rg).Ok) (hm : (⟨⟨a, b⟩, ⟨c, d⟩⟩ : Rg).mayB = true) (hn : (⟨⟨p, q⟩, ⟨r, t⟩⟩ : Rg).mayB = true) (h : (p == 18446744073709551615) = true) : (givC 2 (⟨⟨a, b⟩, ⟨c, d⟩⟩ : Rg) (⟨⟨p, q⟩, ⟨r, t⟩⟩ : Rg)).narB = false := by
  have h0 : p = 18446744073709551615 := by simpa using h
  simp only [Rg.Ok, Pr.U, Pr.S] at ha hb
  rw [may_iff] at hm hn
  dsimp only at hm hn
  refine nar_of_no ?_
  rw [gd_2]
  exact not_may (by simp only [Pr.above]; rw [if_pos (by omega)]; simp only [noneP]; omega)
theorem gc_4 (ha : (⟨⟨a, b⟩, ⟨c, d⟩⟩ : Rg).Ok) (hb : (⟨⟨p, q⟩, ⟨r, t⟩⟩ : Rg).Ok) (hm : (⟨⟨a, b⟩, ⟨c, d⟩⟩ : Rg).mayB = true) (hn : (⟨⟨p, q⟩, ⟨r, t⟩⟩ : Rg).mayB = true) (h : (q == 0) = false) : GC 4 (⟨⟨a, b⟩, ⟨c, d⟩⟩ : Rg) (⟨⟨p, q⟩, ⟨r, t⟩⟩ : Rg) ⟨⟨a, min b (IntKind.u64.wrap (q - 1))⟩, ⟨c, d⟩⟩ := by
  have h0 : ¬ q = 0 := by simpa using h
  simp only [Rg.Ok, Pr.U, Pr.S] at ha hb
  rw [may_iff] at hm hn
  dsimp only at hm hn
  by_cases e : q ≤ a
  · refine gc_bad ?_ ?_ ?_
    · rw [gd_4]; exact not_may (by simp only [Pr.below]; rw [if_pos e]; simp only [noneP]; omega)
    · exact not_may (by dsimp only; rw [IntKind.wrap_u64]; omega)
    · simp only [Rg.Ok, Pr.U, Pr.S]; rw [IntKind.wrap_u64]; omega
  · refine gc_eq ?_ ?_
    · rw [gd_4]; simp only [Pr.below]; rw [if_neg e, show IntKind.u64.wrap (q - 1) = (q - 1) by rw [IntKind.wrap_u64]; omega]
    · simp only [Rg.Ok, Pr.U, Pr.S]; rw [IntKind.wrap_u64]; omega
theorem ga_4 (ha : (⟨⟨a, b⟩, ⟨c, d⟩⟩ : Rg).Ok) (hb : (⟨⟨p, q⟩, ⟨r, t⟩⟩ : Rg).Ok) (hm : (⟨⟨a, b⟩, ⟨c, d⟩⟩ : Rg).mayB = true) (hn : (⟨⟨p, q⟩, ⟨r, t⟩⟩ : Rg).mayB = true) (h : (q == 0) = true) : (givC 4 (⟨⟨a, b⟩, ⟨c, d⟩⟩ : Rg) (⟨⟨p, q⟩, ⟨r, t⟩⟩ : Rg)).narB = false := by
  have h0 : q = 0 := by simpa using h
  simp only [Rg.Ok, Pr.U, Pr.S] at ha hb
  rw [may_iff] at hm hn
  dsimp only at hm hn
  refine nar_of_no ?_
  rw [gd_4]
  exact not_may (by simp only [Pr.below]; rw [if_pos (by omega)]; simp only [noneP]; omega)
theorem gc_6 (ha : (⟨⟨a, b⟩, ⟨c, d⟩⟩ : Rg).Ok) (hb : (⟨⟨p, q⟩, ⟨r, t⟩⟩ : Rg).Ok) (hm : (⟨⟨a, b⟩, ⟨c, d⟩⟩ : Rg).mayB = true) (hn : (⟨⟨p, q⟩, ⟨r, t⟩⟩ : Rg).mayB = true) (h : (r == 9223372036854775807) = false) : GC 6 (⟨⟨a, b⟩, ⟨c, d⟩⟩ : Rg) (⟨⟨p, q⟩, ⟨r, t⟩⟩ : Rg) ⟨⟨a, b⟩, ⟨max c (IntKind.i64.wrap (r + 1)), d⟩⟩ := by
  have h0 : ¬ r = 9223372036854775807 := by simpa using h
  simp only [Rg.Ok, Pr.U, Pr.S] at ha hb
  rw [may_iff] at hm hn
  dsimp only at hm hn
  by_cases e : d ≤ r
  · refine gc_bad ?_ ?_ ?_
    · rw [gd_6]; exact not_may (by simp only [Pr.above]; rw [if_pos e]; simp only [noneP]; omega)
    · exact not_may (by dsimp only; rw [IntKind.wrap_i64]; omega)
    · simp only [Rg.Ok, Pr.U, Pr.S]; rw [IntKind.wrap_i64]; omega
  · refine gc_eq ?_ ?_
    · rw [gd_6]; simp only [Pr.above]; rw [if_neg e, show IntKind.i64.wrap (r + 1) = (r + 1) by rw [IntKind.wrap_i64]; omega]
    · simp only [Rg.Ok, Pr.U, Pr.S]; rw [IntKind.wrap_i64]; omega
theorem ga_6 (ha : (⟨⟨a, b⟩, ⟨c, d⟩⟩ : Rg).Ok) (hb : (⟨⟨p, q⟩, ⟨r, t⟩⟩ : Rg).Ok) (hm : (⟨⟨a, b⟩, ⟨c, d⟩⟩ : Rg).mayB = true) (hn : (⟨⟨p, q⟩, ⟨r, t⟩⟩ : Rg).mayB = true) (h : (r == 9223372036854775807) = true) : (givC 6 (⟨⟨a, b⟩, ⟨c, d⟩⟩ : Rg) (⟨⟨p, q⟩, ⟨r, t⟩⟩ : Rg)).narB = false := by
  have h0 : r = 9223372036854775807 := by simpa using h
  simp only [Rg.Ok, Pr.U, Pr.S] at ha hb
  rw [may_iff] at hm hn
  dsimp only at hm hn
  refine nar_of_no ?_
  rw [gd_6]
  exact not_may (by simp only [Pr.above]; rw [if_pos (by omega)]; simp only [noneP]; omega)
theorem gc_8 (ha : (⟨⟨a, b⟩, ⟨c, d⟩⟩ : Rg).Ok) (hb : (⟨⟨p, q⟩, ⟨r, t⟩⟩ : Rg).Ok) (hm : (⟨⟨a, b⟩, ⟨c, d⟩⟩ : Rg).mayB = true) (hn : (⟨⟨p, q⟩, ⟨r, t⟩⟩ : Rg).mayB = true) (h : (t == (-9223372036854775808)) = false) : GC 8 (⟨⟨a, b⟩, ⟨c, d⟩⟩ : Rg) (⟨⟨p, q⟩, ⟨r, t⟩⟩ : Rg) ⟨⟨a, b⟩, ⟨c, min d (IntKind.i64.wrap (t - 1))⟩⟩ := by
  have h0 : ¬ t = (-9223372036854775808) := by simpa using h
  simp only [Rg.Ok, Pr.U, Pr.S] at ha hb
  rw [may_iff] at hm hn
  dsimp only at hm hn
  by_cases e : t ≤ c
  · refine gc_bad ?_ ?_ ?_
    · rw [gd_8]; exact not_may (by simp only [Pr.below]; rw [if_pos e]; simp only [noneP]; omega)
    · exact not_may (by dsimp only; rw [IntKind.wrap_i64]; omega)
    · simp only [Rg.Ok, Pr.U, Pr.S]; rw [IntKind.wrap_i64]; omega
  · refine gc_eq ?_ ?_
    · rw [gd_8]; simp only [Pr.below]; rw [if_neg e, show IntKind.i64.wrap (t - 1) = (t - 1) by rw [IntKind.wrap_i64]; omega]
    · simp only [Rg.Ok, Pr.U, Pr.S]; rw [IntKind.wrap_i64]; omega
theorem ga_8 (ha : (⟨⟨a, b⟩, ⟨c, d⟩⟩ : Rg).Ok) (hb : (⟨⟨p, q⟩, ⟨r, t⟩⟩ : Rg).Ok) (hm : (⟨⟨a, b⟩, ⟨c, d⟩⟩ : Rg).mayB = true) (hn : (⟨⟨p, q⟩, ⟨r, t⟩⟩ : Rg).mayB = true) (h : (t == (-9223372036854775808)) = true) : (givC 8 (⟨⟨a, b⟩, ⟨c, d⟩⟩ : Rg) (⟨⟨p, q⟩, ⟨r, t⟩⟩ : Rg)).narB = false := by
  have h0 : t = (-9223372036854775808) := by simpa using h
  simp only [Rg.Ok, Pr.U, Pr.S] at ha hb
  rw [may_iff] at hm hn
  dsimp only at hm hn
  refine nar_of_no ?_
  rw [gd_8]
  exact not_may (by simp only [Pr.below]; rw [if_pos (by omega)]; simp only [noneP]; omega)
theorem gc_3 (ha : (⟨⟨a, b⟩, ⟨c, d⟩⟩ : Rg).Ok) (hb : (⟨⟨p, q⟩, ⟨r, t⟩⟩ : Rg).Ok) (hm : (⟨⟨a, b⟩, ⟨c, d⟩⟩ : Rg).mayB = true) (hn : (⟨⟨p, q⟩, ⟨r, t⟩⟩ : Rg).mayB = true) : GC 3 (⟨⟨a, b⟩, ⟨c, d⟩⟩ : Rg) (⟨⟨p, q⟩, ⟨r, t⟩⟩ : Rg) ⟨⟨max a p, b⟩, ⟨c, d⟩⟩ := gc_eq (gd_3.trans rfl) (by simp only [Rg.Ok, Pr.U, Pr.S] at *; omega)
theorem gc_5 (ha : (⟨⟨a, b⟩, ⟨c, d⟩⟩ : Rg).Ok) (hb : (⟨⟨p, q⟩, ⟨r, t⟩⟩ : Rg).Ok) (hm : (⟨⟨a, b⟩, ⟨c, d⟩⟩ : Rg).mayB = true) (hn : (⟨⟨p, q⟩, ⟨r, t⟩⟩ : Rg).mayB = true) : GC 5 (⟨⟨a, b⟩, ⟨c, d⟩⟩ : Rg) (⟨⟨p, q⟩, ⟨r, t⟩⟩ : Rg) ⟨⟨a, min b q⟩, ⟨c, d⟩⟩ := gc_eq (gd_5.trans rfl) (by simp only [Rg.Ok, Pr.U, Pr.S] at *; omega)
theorem gc_7 (ha : (⟨⟨a, b⟩, ⟨c, d⟩⟩ : Rg).Ok) (hb : (⟨⟨p, q⟩, ⟨r, t⟩⟩ : Rg).Ok) (hm : (⟨⟨a, b⟩, ⟨c, d⟩⟩ : Rg).mayB = true) (hn : (⟨⟨p, q⟩, ⟨r, t⟩⟩ : Rg).mayB = true) : GC 7 (⟨⟨a, b⟩, ⟨c, d⟩⟩ : Rg) (⟨⟨p, q⟩, ⟨r, t⟩⟩ : Rg) ⟨⟨a, b⟩, ⟨max c r, d⟩⟩ := gc_eq (gd_7.trans rfl) (by simp only [Rg.Ok, Pr.U, Pr.S] at *; omega)
theorem gc_9 (ha : (⟨⟨a, b⟩, ⟨c, d⟩⟩ : Rg).Ok) (hb : (⟨⟨p, q⟩, ⟨r, t⟩⟩ : Rg).Ok) (hm : (⟨⟨a, b⟩, ⟨c, d⟩⟩ : Rg).mayB = true) (hn : (⟨⟨p, q⟩, ⟨r, t⟩⟩ : Rg).mayB = true) : GC 9 (⟨⟨a, b⟩, ⟨c, d⟩⟩ : Rg) (⟨⟨p, q⟩, ⟨r, t⟩⟩ : Rg) ⟨⟨a, b⟩, ⟨c, min d t⟩⟩ := gc_eq (gd_9.trans rfl) (by simp only [Rg.Ok, Pr.U, Pr.S] at *; omega)
theorem gc_10 (ha : (⟨⟨a, b⟩, ⟨c, d⟩⟩ : Rg).Ok) (hb : (⟨⟨p, q⟩, ⟨r, t⟩⟩ : Rg).Ok) (hm : (⟨⟨a, b⟩, ⟨c, d⟩⟩ : Rg).mayB = true) (hn : (⟨⟨p, q⟩, ⟨r, t⟩⟩ : Rg).mayB = true) : GC 10 (⟨⟨a, b⟩, ⟨c, d⟩⟩ : Rg) (⟨⟨p, q⟩, ⟨r, t⟩⟩ : Rg) ⟨⟨a, b⟩, ⟨c, d⟩⟩ := gc_eq (gd_10.trans rfl) (by simp only [Rg.Ok, Pr.U, Pr.S] at *; omega)
theorem wu1 {v : Int} (h0 : 0 ≤ a ∧ a < 18446744073709551616) (hb0 : b < 18446744073709551616) (hm : a ≤ b) (h : (a == v) = true) (hn : ¬ (a = b)) : Pr.without ⟨a, b⟩ v = ⟨IntKind.u64.wrap (a + 1), b⟩ := by
  have := yb h
  unfold Pr.without
  rw [if_neg (by dsimp only; omega), if_pos (by dsimp only; omega), IntKind.wrap_u64, Int.emod_eq_of_lt (by omega) (by omega)]
theorem wu2 {v : Int} (h0 : 0 ≤ a) (hb0 : b < 18446744073709551616) (hm : a ≤ b) (h : (a == v) = false) (h2 : (b == v) = true) : Pr.without ⟨a, b⟩ v = ⟨a, IntKind.u64.wrap (b - 1)⟩ := by
  have := nb h
  have := yb h2
  unfold Pr.without
  rw [if_neg (by dsimp only; omega), if_neg (by dsimp only; omega), if_pos (by dsimp only; omega), IntKind.wrap_u64, Int.emod_eq_of_lt (by omega) (by omega)]
theorem wu3 {v : Int} (h : (a == v) = false) (h2 : (b == v) = false) : Pr.without ⟨a, b⟩ v = ⟨a, b⟩ := by
  have := nb h
  have := nb h2
  unfold Pr.without
  rw [if_neg (by dsimp only; omega), if_neg (by dsimp only; omega), if_neg (by dsimp only; omega)]
theorem ws1 {v : Int} (h0 : inS a) (hb0 : inS b) (hm : a ≤ b) (h : (a == v) = true) (hn : ¬ (a = b)) : Pr.without ⟨a, b⟩ v = ⟨IntKind.i64.wrap (a + 1), b⟩ := by
  have := yb h
  unfold inS at h0 hb0
  unfold Pr.without
  rw [if_neg (by dsimp only; omega), if_pos (by dsimp only; omega), show IntKind.i64.wrap (a + 1) = a + 1 by rw [IntKind.wrap_i64]; omega]
theorem ws2 {v : Int} (h0 : inS a) (hb0 : inS b) (hm : a ≤ b) (h : (a == v) = false) (h2 : (b == v) = true) : Pr.without ⟨a, b⟩ v = ⟨a, IntKind.i64.wrap (b - 1)⟩ := by
  have := nb h
  have := yb h2
  unfold inS at h0 hb0
  unfold Pr.without
  rw [if_neg (by dsimp only; omega), if_neg (by dsimp only; omega), if_pos (by dsimp only; omega), show IntKind.i64.wrap (b - 1) = b - 1 by rw [IntKind.wrap_i64]; omega]
theorem gd_1 (h : (⟨⟨p, q⟩, ⟨r, t⟩⟩ : Rg).oneB = true) : givC 1 (⟨⟨a, b⟩, ⟨c, d⟩⟩ : Rg) (⟨⟨p, q⟩, ⟨r, t⟩⟩ : Rg) = ⟨Pr.without ⟨a, b⟩ (⟨⟨p, q⟩, ⟨r, t⟩⟩ : Rg).oneV, Pr.without ⟨c, d⟩ (sg (⟨⟨p, q⟩, ⟨r, t⟩⟩ : Rg).oneV)⟩ := by
  unfold givC
  rw [if_neg (by omega), if_pos rfl, if_pos h]
theorem gc_1n (ha : (⟨⟨a, b⟩, ⟨c, d⟩⟩ : Rg).Ok) (hb : (⟨⟨p, q⟩, ⟨r, t⟩⟩ : Rg).Ok) (hm : (⟨⟨a, b⟩, ⟨c, d⟩⟩ : Rg).mayB = true) (hn : (⟨⟨p, q⟩, ⟨r, t⟩⟩ : Rg).mayB = true) (h : (⟨⟨p, q⟩, ⟨r, t⟩⟩ : Rg).oneB = false) : GC 1 (⟨⟨a, b⟩, ⟨c, d⟩⟩ : Rg) (⟨⟨p, q⟩, ⟨r, t⟩⟩ : Rg) ⟨⟨a, b⟩, ⟨c, d⟩⟩ := gc_eq (by unfold givC; rw [if_neg (by omega), if_pos rfl, if_neg (by rw [h]; decide)]) ha
theorem gc_1 {U S : Pr} (ha : (⟨⟨a, b⟩, ⟨c, d⟩⟩ : Rg).Ok) (hb : (⟨⟨p, q⟩, ⟨r, t⟩⟩ : Rg).Ok) (hm : (⟨⟨a, b⟩, ⟨c, d⟩⟩ : Rg).mayB = true) (hn : (⟨⟨p, q⟩, ⟨r, t⟩⟩ : Rg).mayB = true) (h : (⟨⟨p, q⟩, ⟨r, t⟩⟩ : Rg).oneB = true) (hu : Pr.without ⟨a, b⟩ (⟨⟨p, q⟩, ⟨r, t⟩⟩ : Rg).oneV = U) (hs : Pr.without ⟨c, d⟩ (sg (⟨⟨p, q⟩, ⟨r, t⟩⟩ : Rg).oneV) = S) : GC 1 (⟨⟨a, b⟩, ⟨c, d⟩⟩ : Rg) (⟨⟨p, q⟩, ⟨r, t⟩⟩ : Rg) ⟨U, S⟩ := by
  have e : givC 1 (⟨⟨a, b⟩, ⟨c, d⟩⟩ : Rg) (⟨⟨p, q⟩, ⟨r, t⟩⟩ : Rg) = ⟨U, S⟩ := by rw [gd_1 h, hu, hs]
  exact gc_eq e (by rw [← e]; exact giv_ok 1 ha hb hm)
theorem without_none {v : Int} (h1 : a = v) (h2 : b = v) : Pr.without ⟨a, b⟩ v = noneP := if_pos ⟨h1, h2⟩
theorem ga_1u (h : (⟨⟨p, q⟩, ⟨r, t⟩⟩ : Rg).oneB = true) (h1 : (a == b) = true) (h2 : (a == (⟨⟨p, q⟩, ⟨r, t⟩⟩ : Rg).oneV) = true) : (givC 1 (⟨⟨a, b⟩, ⟨c, d⟩⟩ : Rg) (⟨⟨p, q⟩, ⟨r, t⟩⟩ : Rg)).narB = false := by
  have e1 := yb h1
  have e2 := yb h2
  refine nar_of_no ?_
  rw [gd_1 h, without_none e2 (by omega)]
  exact not_may (.inl (by simp only [noneP]; omega))
theorem ga_1s (h : (⟨⟨p, q⟩, ⟨r, t⟩⟩ : Rg).oneB = true) (h1 : (c == d) = true) (h2 : (c == sg (⟨⟨p, q⟩, ⟨r, t⟩⟩ : Rg).oneV) = true) : (givC 1 (⟨⟨a, b⟩, ⟨c, d⟩⟩ : Rg) (⟨⟨p, q⟩, ⟨r, t⟩⟩ : Rg)).narB = false := by
  have e1 := yb h1
  have e2 := yb h2
  refine nar_of_no ?_
  rw [gd_1 h, without_none (a := c) (b := d) e2 (by omega)]
  exact not_may (.inr (by simp only [noneP]; omega))
end
end Go.Proofs.Ytnmgehjccafegaa.Bnd
