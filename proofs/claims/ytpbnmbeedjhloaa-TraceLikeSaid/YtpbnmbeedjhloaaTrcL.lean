/-
  The laws of layer 5: three outcomes in blocks of their own; what the comparisons are, in plain words.
-/
import Derived.Test.YtpbnmbeedjhloaaTrcG
namespace Go.Proofs.Ytpbnmbeedjhloaa.Trc
open Go.RowKit
set_option linter.unusedVariables false

def outC (x : Out) (ca : Option Addr) (cc : Nat) (ta : Option Addr) (tc : Nat) : Obj := .cells #[.int .i8 x.kind, .int .u64 x.r0, .slice ca x.ctx.length cc, .slice ta x.tr.length tc, .int .i64 x.left] 76
/-- A block that can be written. -/
structure BoxF (w : World) (b : Nat) (x : Out) (ca : Option Addr) (cc : Nat) (ta : Option Addr) (tc : Nat) : Prop extends Box5 w b x ca cc ta tc where
  fz : ∀ i, w.frozen? ⟨b, i, none⟩ = false
theorem BoxF.below {w w' : World} {b : Nat} {x : Out} {ca ta : Option Addr} {cc tc : Nat} (h : BoxF w b x ca cc ta tc) (k : Below w.heap.size w w') : BoxF w' b x ca cc ta tc :=
  ⟨h.toBox5.below k, fun i => (k.frozen (p := ⟨b, i, none⟩) (lt_of_cell h.c0)).trans (h.fz i)⟩
theorem BoxF.new (w : World) (x : Out) (ca ta : Option Addr) (cc tc : Nat) : BoxF (w.alloc (outC x ca cc ta tc)) w.heap.size x ca cc ta tc :=
  ⟨Box5.new w x ca ta cc tc _ _ rfl, fun i => by
    have h := heap_last w (outC x ca cc ta tc) w.heap.size rfl
    generalize w.alloc (outC x ca cc ta tc) = w' at *
    unfold World.frozen?
    simp only [h, outC]
    simp⟩
theorem BoxF.past {w : World} {b : Nat} {x : Out} {ca ta : Option Addr} {cc tc : Nat} (h : BoxF w b x ca cc ta tc) (o : Obj) : BoxF (w.alloc o) b x ca cc ta tc := h.below (below_new (Below.refl _ _) _)
theorem bx1 (W : World) (x : Out) (ca ta : Option Addr) (cc tc : Nat) (o1 o2 : Obj) : BoxF (((W.alloc (outC x ca cc ta tc)).alloc o1).alloc o2) W.heap.size x ca cc ta tc := ((BoxF.new W x ca ta cc tc).past o1).past o2
theorem bx2 (W : World) (x : Out) (ca ta : Option Addr) (cc tc : Nat) (o1 o2 : Obj) : BoxF (((W.alloc o1).alloc (outC x ca cc ta tc)).alloc o2) (W.heap.size + 1) x ca cc ta tc := by
  have h := (BoxF.new (W.alloc o1) x ca ta cc tc).past o2
  rwa [size_alloc] at h
theorem bx3 (W : World) (x : Out) (ca ta : Option Addr) (cc tc : Nat) (o1 o2 : Obj) : BoxF (((W.alloc o1).alloc o2).alloc (outC x ca cc ta tc)) (W.heap.size + 1 + 1) x ca cc ta tc := by
  have h := (BoxF.new ((W.alloc o1).alloc o2) x ca ta cc tc)
  rwa [size_alloc, size_alloc] at h
theorem bb3 (W : World) (o1 o2 o3 : Obj) : Below W.heap.size W (((W.alloc o1).alloc o2).alloc o3) := below_new (below_new (below_new (Below.refl _ W) _) _) _
theorem BoxF.setKind {w : World} {b : Nat} {x : Out} {ca ta : Option Addr} {cc tc : Nat} (h : BoxF w b x ca cc ta tc) (k : Int) : BoxF (w.setCell ⟨b, 0, none⟩ (.int .i8 k)) b { x with kind := k } ca cc ta tc :=
  ⟨⟨World.cell?_setCell_same' _ _ _ (by rw [h.c0]; rfl), (World.cell?_setCell_other _ _ _ _ (by simp)).trans h.c1, (World.cell?_setCell_other _ _ _ _ (by simp)).trans h.c2, (World.cell?_setCell_other _ _ _ _ (by simp)).trans h.c3, (World.cell?_setCell_other _ _ _ _ (by simp)).trans h.c4⟩, fun i => by simpa using h.fz i⟩
theorem BoxF.setFar {w : World} {b c : Nat} {x : Out} {ca ta : Option Addr} {cc tc : Nat} (h : BoxF w b x ca cc ta tc) (i : Nat) (v : Value) (hc : c ≠ b) : BoxF (w.setCell ⟨c, i, none⟩ v) b x ca cc ta tc :=
  ⟨⟨(World.cell?_setCell_far _ _ _ _ hc).trans h.c0, (World.cell?_setCell_far _ _ _ _ hc).trans h.c1, (World.cell?_setCell_far _ _ _ _ hc).trans h.c2, (World.cell?_setCell_far _ _ _ _ hc).trans h.c3, (World.cell?_setCell_far _ _ _ _ hc).trans h.c4⟩, fun j => by simpa using h.fz j⟩

theorem endB_iff {x y : Out} : endB x y = true ↔ x.r0 = y.r0 ∧ x.ctx = y.ctx := by unfold endB; simp
theorem endB_comm (x y : Out) : endB x y = endB y x := by
  rw [Bool.eq_iff_iff, endB_iff, endB_iff]; exact ⟨fun h => ⟨h.1.symm, h.2.symm⟩, fun h => ⟨h.1.symm, h.2.symm⟩⟩
theorem likeB_iff {x y : Out} : likeB x y = true ↔ x.kind = y.kind ∧ x.tr = y.tr ∧ (x.kind = 1 → endB x y = true) := by
  unfold likeB
  rw [Bool.and_eq_true, Bool.and_eq_true, decide_eq_true_iff, beq_iff_eq, Bool.or_eq_true, bne_iff_ne]
  constructor
  · rintro ⟨⟨h1, h2⟩, h3⟩
    exact ⟨h1, h2, fun h => h3.resolve_left (fun k => k h)⟩
  · rintro ⟨h1, h2, h3⟩
    refine ⟨⟨h1, h2⟩, ?_⟩
    by_cases h : x.kind = 1
    · exact .inr (h3 h)
    · exact .inl h
theorem likeB_self (x : Out) : likeB x x = true := likeB_iff.2 ⟨rfl, rfl, fun _ => endB_iff.2 ⟨rfl, rfl⟩⟩
theorem likeB_comm (x y : Out) : likeB x y = likeB y x := by
  rw [Bool.eq_iff_iff, likeB_iff, likeB_iff, endB_comm x y]
  exact ⟨fun h => ⟨h.1.symm, h.2.1.symm, fun k => h.2.2 (h.1.trans k)⟩, fun h => ⟨h.1.symm, h.2.1.symm, fun k => h.2.2 (h.1.trans k)⟩⟩
theorem likeB_trans {x y z : Out} (h1 : likeB x y = true) (h2 : likeB y z = true) : likeB x z = true := by
  rw [likeB_iff] at *
  refine ⟨h1.1.trans h2.1, h1.2.1.trans h2.2.1, fun k => ?_⟩
  have a := endB_iff.1 (h1.2.2 k)
  have b := endB_iff.1 (h2.2.2 (h1.1.symm.trans k))
  exact endB_iff.2 ⟨a.1.trans b.1, a.2.trans b.2⟩
theorem sameB_iff {x y : Out} : sameB x y = true ↔ x = y := by
  unfold sameB
  rw [Bool.and_eq_true, Bool.and_eq_true, Bool.and_eq_true, decide_eq_true_iff, beq_iff_eq, beq_iff_eq, endB_iff]
  constructor
  · rintro ⟨⟨⟨h1, h2⟩, h3⟩, h4, h5⟩
    cases x; cases y; simp only at *; subst h1 h2 h3 h4 h5; rfl
  · rintro rfl; exact ⟨⟨⟨rfl, rfl⟩, rfl⟩, rfl, rfl⟩
theorem becB_iff {x y : Out} : becB x y = true ↔ x.kind = 0 ∧ ∃ r, y.tr = x.tr ++ r := by
  unfold becB; rw [Bool.and_eq_true, beq_iff_eq, preB_iff]
theorem becB_trans {x y z : Out} (h1 : becB x y = true) (h2 : becB y z = true) : becB x z = true := by
  rw [becB_iff] at *
  obtain ⟨h, r, hr⟩ := h1
  obtain ⟨_, s, hs⟩ := h2
  exact ⟨h, r ++ s, by rw [hs, hr, List.append_assoc]⟩
theorem becB_like {x y z : Out} (h1 : becB x y = true) (h2 : likeB y z = true) : becB x z = true := by
  rw [becB_iff] at *
  exact ⟨h1.1, by rw [← (likeB_iff.1 h2).2.1]; exact h1.2⟩
theorem becB_self (x : Out) : becB { x with kind := 0 } { x with kind := 0 } = true := becB_iff.2 ⟨rfl, [], by simp⟩
theorem becB_of {x y : Out} (h : likeB { x with kind := 0 } y = true) : becB { x with kind := 0 } y = true := becB_iff.2 ⟨rfl, [], by simpa using ((likeB_iff.1 h).2.1).symm⟩
end Go.Proofs.Ytpbnmbeedjhloaa.Trc
