/-
  What the laws of layer 4 share: alu, wakes.
-/
import Derived.Test.YtbpefomjmjkciaaRbA
namespace Go.Proofs.Ytbpefomjmjkciaa.Blk
open Go.RowKit Go.Maps Go.Sort Ins
set_option linter.unusedVariables false
set_option maxRecDepth 100000

theorem alu_any (d n : Int) (W : World) : Calls Try.prog 60 #[.int .i8 d, .int .i64 n] W fun e w' => e = .returned (.agg (In.mk 0 11 64 0 false d 0 0 n).cells) ∧ Below W.heap.size W w' := by
  go_enter Try.func60, Try.ntmps60
  go_wp2
  refine bodyPost_ret (v := .agg (In.mk 0 11 64 0 false d 0 0 n).cells) (by simp [results, Try.results60, go_sem, In.cells]) rfl ⟨rfl, ?_⟩
  repeat (refine Below.setCell ?_ (by simp only; omega) _)
  repeat (first | exact Below.refl _ _ | refine Below.drew ?_ | refine below_new ?_ _)

/-- The document's program of four. -/
def wx : Nat → In
  | 0 => ⟨0, 11, 64, 0, false, 0, 0, 0, 0⟩
  | 1 => ⟨3, 0, 0, 0, false, 1, 0, 1, 0⟩
  | 2 => ⟨0, 11, 64, 0, false, 0, 0, 0, 1⟩
  | _ => ⟨6, 0, 0, 0, false, 0, 0, 0, 0⟩
def wcells : Array Value := (wx 0).cells ++ (wx 1).cells ++ (wx 2).cells ++ (wx 3).cells
def wbks : List Bk := [⟨0, 2, [2, 1]⟩, ⟨2, 3, [2]⟩, ⟨3, 4, []⟩]
theorem wx_check : (checkI 0 4 wx).2 = 0 := by decide +kernel
theorem wx_bks : bksF (sh wx) 4 4 = wbks := by decide +kernel
def WRan (W : World) (e : Ending) (w' : World) : Prop := ∃ a cap, e = .returned (.tuple #[.slice a 3 cap, .int .i64 0]) ∧ Blks w' a 3 cap wbks ∧ Below W.heap.size W w'
theorem wx_ran {W : World} {e : Ending} {w' : World} (h : Ran (sh wx) 4 W e w') : WRan W e w' := by
  unfold Ran at h
  rw [wx_bks] at h
  exact h
theorem wx_ok : ∀ i, i < 4 → (wx i).Ok := by
  intro i hi
  have h : i = 0 ∨ i = 1 ∨ i = 2 ∨ i = 3 := by omega
  rcases h with rfl | rfl | rfl | rfl <;> exact ⟨by decide, by decide, by decide, by decide, by decide, by decide, by decide, by decide⟩
theorem wx_insts {w : World} {b : Nat} (h : w.heap[b]? = some (.cells wcells 26 (0, 0))) : Insts w (some ⟨b, 0, none⟩) 4 4 wx := by
  refine ⟨Nat.le_refl _, by omega, fun _ => ⟨b, 0, rfl, fun i hi j v hv => ?_⟩, wx_ok⟩
  have hj : j < 9 := (List.getElem?_eq_some_iff.1 hv).1
  simp only [World.cell?, h]
  have h1 : i = 0 ∨ i = 1 ∨ i = 2 ∨ i = 3 := by omega
  have h2 : j = 0 ∨ j = 1 ∨ j = 2 ∨ j = 3 ∨ j = 4 ∨ j = 5 ∨ j = 6 ∨ j = 7 ∨ j = 8 := by omega
  rcases h1 with rfl | rfl | rfl | rfl <;> rcases h2 with rfl | rfl | rfl | rfl | rfl | rfl | rfl | rfl | rfl <;> exact hv
theorem info_insn : ∃ i, Try.prog.info? 26 = some i ∧ i.zero = some (.agg In.nil.cells) ∧ i.size = 9 := by
  have h : (Try.prog.info? 26).map (fun i => (i.zero, i.size)) = some (some (.agg In.nil.cells), 9) := by kernel_rfl
  cases hi : Try.prog.info? 26 with
  | none => rw [hi] at h; simp at h
  | some i => rw [hi] at h; simp at h; exact ⟨i, rfl, h.1, h.2⟩

theorem want_blks (w : World) : Blks (((w.alloc (.cells #[.int .i64 2, .int .i64 1] 3)).alloc (.cells #[.int .i64 2] 3)).alloc (.cells #[.int .i64 0, .int .i64 2, .slice (some ⟨w.heap.size, 0, none⟩) 2 2, .int .i64 2, .int .i64 3, .slice (some ⟨w.heap.size + 1, 0, none⟩) 1 1, .int .i64 3, .int .i64 4, .slice none 0 0] 55))
    (some ⟨w.heap.size + 1 + 1, 0, none⟩) 3 3 wbks := by
  have i0 := ints_alloc w [2, 1] 3 (by decide)
  have i1 := ints_alloc (w.alloc (.cells #[.int .i64 2, .int .i64 1] 3)) [2] 3 (by decide)
  have s1 : (w.alloc (.cells #[.int .i64 2, .int .i64 1] 3)).heap.size = w.heap.size + 1 := size_alloc _ _
  have s2 : ((w.alloc (.cells #[.int .i64 2, .int .i64 1] 3)).alloc (.cells #[.int .i64 2] 3)).heap.size = w.heap.size + 1 + 1 := by rw [size_alloc, s1]
  generalize hw1 : w.alloc (.cells #[.int .i64 2, .int .i64 1] 3) = w1 at *
  have e1 : w.alloc (.cells (List.map (Value.int .i64) [2, 1]).toArray 3) = w1 := hw1
  rw [e1] at i0
  rw [s1] at i1
  generalize hw2 : w1.alloc (.cells #[.int .i64 2] 3) = w2 at *
  have e2 : w1.alloc (.cells (List.map (Value.int .i64) [2]).toArray 3) = w2 := hw2
  rw [e2] at i1
  have j0 := (i0.below (w := w2) (by rw [← hw2]; exact (Below.refl _ _).alloc (Nat.le_refl _) _))
  have hl := fun o => heap_last w2 o (w.heap.size + 1 + 1) s2.symm
  have bl := fun o => (Below.refl w2.heap.size w2).alloc (Nat.le_refl _) o
  refine ⟨rfl, Nat.le_refl _, by omega, fun _ => ⟨_, 0, rfl, fun i x hx => ?_⟩⟩
  have hi : i < 3 := (List.getElem?_eq_some_iff.1 hx).1
  have h1 : i = 0 ∨ i = 1 ∨ i = 2 := by omega
  rcases h1 with rfl | rfl | rfl
  · obtain rfl : (⟨0, 2, [2, 1]⟩ : Bk) = x := by simpa [wbks] using hx
    refine ⟨_, _, fun j v hv => ?_, j0.below (bl _)⟩
    have hj : j < 3 := (List.getElem?_eq_some_iff.1 hv).1
    simp only [World.cell?, hl]
    have h2 : j = 0 ∨ j = 1 ∨ j = 2 := by omega
    rcases h2 with rfl | rfl | rfl <;> exact hv
  · obtain rfl : (⟨2, 3, [2]⟩ : Bk) = x := by simpa [wbks] using hx
    refine ⟨_, _, fun j v hv => ?_, i1.below (bl _)⟩
    have hj : j < 3 := (List.getElem?_eq_some_iff.1 hv).1
    simp only [World.cell?, hl]
    have h2 : j = 0 ∨ j = 1 ∨ j = 2 := by omega
    rcases h2 with rfl | rfl | rfl <;> exact hv
  · obtain rfl : (⟨3, 4, []⟩ : Bk) = x := by simpa [wbks] using hx
    refine ⟨none, 0, fun j v hv => ?_, ⟨rfl, Nat.le_refl _, by omega, fun h => absurd h (by decide)⟩⟩
    have hj : j < 3 := (List.getElem?_eq_some_iff.1 hv).1
    simp only [World.cell?, hl]
    have h2 : j = 0 ∨ j = 1 ∨ j = 2 := by omega
    rcases h2 with rfl | rfl | rfl <;> exact hv

set_option maxHeartbeats 4000000 in
theorem wakes_any (W : World) : Calls Try.prog 21 #[] W fun e w' => e = .returned (.bool true) ∧ Below W.heap.size W w' := by
  obtain ⟨ti, hi1, hi2, hi3⟩ := info_insn
  have TI := Lib.hid (And.intro hi1 (And.intro hi2 hi3))
  clear hi1 hi2 hi3
  have A0 := Lib.hid (fun W => alu_any 0 0 W)
  have A1 := Lib.hid (fun W => alu_any 0 1 W)
  have R := Lib.hid (fun b W h => (run_yes 0 (some ⟨b, 0, none⟩) 4 4 wx W (wx_insts h) wx_check).mono (fun _ _ => wx_ran))
  go_enter Try.func21, Try.ntmps21
  go_wp2_with fail
  refine (A0.out _).mono ?_
  rintro e w1 ⟨rfl, b1⟩
  have W1 := Lib.hid b1; clear b1
  go_wp2_with fail
  refine (A1.out _).mono ?_
  rintro e w2 ⟨rfl, b2⟩
  have W2 := Lib.hid (below_call W1.out b2); clear b2 W1
  go_wp2_with (refine wpList_buildSlice rfl 30 26 4 _ rfl wcells ti (.agg In.nil.cells) Try.underlying30 TI.out.1 TI.out.2.1 (by rw [TI.out.2.2]; decide) (by rw [TI.out.2.2]; decide) (by rw [TI.out.2.2]; kernel_rfl) ?_)
  refine (R.out w2.heap.size _ (heap_last _ _ _ rfl)).mono ?_
  rintro e w3 ⟨a, cap, rfl, hb, b3⟩
  have HB := Lib.hid hb
  have W3 := Lib.hid (below_call (below_new W2.out (.cells wcells 26)) b3)
  clear hb b3 W2 R A0 A1
  go_wp2_with fail
  have b4 := ((((Below.refl w3.heap.size w3).alloc (Nat.le_refl _) (.cells #[.int .i64 2, .int .i64 1] 3)).alloc (by simp) (.cells #[.int .i64 2] 3)).alloc (by simp; omega) (.cells #[.int .i64 0, .int .i64 2, .slice (some ⟨w3.heap.size, 0, none⟩) 2 2, .int .i64 2, .int .i64 3, .slice (some ⟨w3.heap.size + 1, 0, none⟩) 1 1, .int .i64 3, .int .i64 4, .slice none 0 0] 55))
  have SM := Lib.hid (r_same _ _ _ _ _ _ _ _ _ (HB.out.below b4) (want_blks w3))
  have W4 := Lib.hid (below_call W3.out b4)
  clear b4
  rw [decide_eq_true rfl] at SM
  refine SM.out.mono ?_
  rintro e w5 h5
  obtain ⟨rfl, b5⟩ := h5.below
  clear h5
  go_wp2_with fail
  go_ret
  exact ⟨rfl, below_call W4.out b5⟩
end Go.Proofs.Ytbpefomjmjkciaa.Blk
