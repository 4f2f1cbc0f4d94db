/-
  Package mem: what wakes asks; small facts for the laws.
-/
import Derived.Test.YtpbnmbeedjhloaaMemB
namespace Go.Proofs.Ytpbnmbeedjhloaa
open Go.RowKit
set_option linter.unusedVariables false
set_option maxRecDepth 100000

theorem Mem.chg {S : MemS} {kf : Nat → Int} {W w : World} {b : Nat} {a v : Int} {m : Nat} (h : Mem S kf W b) (hS : (S.putAt a m v).at w b) (hC : ChgAt b W w) : Mem (S.putAt a m v) kf w b :=
  ⟨hS, h.code.of_block (hC.block _ h.code.lt h.at_.far), h.kb⟩
theorem src_zeros {w : World} {g n : Nat} (h : w.heap[g]? = some (.cells (zeros n) 5 (0, 0))) (hn : n ≤ 1000) : Src w (some ⟨g, 0, none⟩) n n (fun _ => 0) :=
  ⟨Nat.le_refl _, by omega, fun _ => ⟨g, 0, rfl, fun i hi => by
    simp only [World.cell?, h, Nat.zero_add]
    show (zeros n)[i]? = _
    unfold zeros
    rw [List.getElem?_toArray]
    exact bytesOf_get _ _ _ hi⟩, fun i _ => ⟨by omega, by omega⟩⟩
/-- The memory that wakes makes, and behind its first write. -/
def wakeS (cb : Nat) : MemS := newMem cb 2 4 true fun _ => 0
theorem wake_l1 (cb : Nat) : 1 < locI (newMem cb 2 4 true fun _ => 0).cn (newMem cb 2 4 true fun _ => 0).n (newMem cb 2 4 true fun _ => 0).hs 3145784 (8 : Nat) := by
  show 1 < locI 2 4 true 3145784 8
  decide
theorem wake_l2 (cb : Nat) : locI ((newMem cb 2 4 true fun _ => 0).putAt 3145784 8 4386).cn ((newMem cb 2 4 true fun _ => 0).putAt 3145784 8 4386).n ((newMem cb 2 4 true fun _ => 0).putAt 3145784 8 4386).hs 3145785 (8 : Nat) ≤ 1 := by
  show locI 2 4 true 3145785 8 ≤ 1
  decide
theorem wake_l3 (cb : Nat) : locI ((newMem cb 2 4 true fun _ => 0).putAt 3145784 8 4386).cn ((newMem cb 2 4 true fun _ => 0).putAt 3145784 8 4386).n ((newMem cb 2 4 true fun _ => 0).putAt 3145784 8 4386).hs 1048576 (1 : Nat) ≤ 1 := by
  show locI 2 4 true 1048576 1 ≤ 1
  decide
theorem wake_e (cb : Nat) : readE ((newMem cb 2 4 true fun _ => 0).putAt 3145784 8 4386) 3145785 (1 : Nat) = 0 := by
  show (if locI 2 4 true 3145785 1 = 0 then _ else _ : Int) = 0
  decide
theorem wake_v (cb : Nat) : readV ((newMem cb 2 4 true fun _ => 0).putAt 3145784 8 4386) (fun _ => 0) 3145785 1 = 17 := by kernel_rfl

set_option maxRecDepth 100000 in
set_option maxHeartbeats 2000000 in
theorem wakes_any (W : World) : Calls Try.prog 14 #[] W fun e w' => e = .returned (.bool true) ∧ Below W.heap.size W w' := by
  have m4 : ∀ w, (Instr.makeSlice 22 (.int .i64 4) (.int .i64 4)).run Try.prog w = .ok (.slice (some ⟨w.heap.size, 0, none⟩) 4 4) (w.alloc (.cells (zeros 4) 5)) := fun _ => by kernel_rfl
  have m2 : ∀ w, (Instr.makeSlice 22 (.int .i64 2) (.int .i64 2)).run Try.prog w = .ok (.slice (some ⟨w.heap.size, 0, none⟩) 2 2) (w.alloc (.cells (zeros 2) 5)) := fun _ => by kernel_rfl
  go_enter Try.func14, Try.ntmps14
  go_wp2_with fail
  go_region_held3 (fun w' => Below W.heap.size W w' ∧ True)
    (((refine ⟨?_, trivial⟩); go_split_ands; repeat' (first | assumption | exact Below.refl _ _ | apply Below.drew | apply below_new | (refine below_call ?_ b1))))
    (first | (go_at_call 15; refine (new_any _ 4 4 (fun _ => 0) _ 2 2 (fun _ => 0) true _ ?_ ?_ (by omega) (by omega)).mono ?_; (focus (first | exact src_zeros (heap_last _ _ _ rfl) (by omega) | exact src_zeros ((heap_past _ _ _ (by simp)).trans (heap_last _ _ _ rfl)) (by omega) | exact src_zeros ((heap_drew _ _).trans (heap_last _ _ _ (by simp))) (by omega) | exact src_zeros ((heap_drew _ _).trans ((heap_past _ _ _ (by simp)).trans (heap_last _ _ _ (by simp)))) (by omega))); (focus (first | exact src_zeros (heap_last _ _ _ rfl) (by omega) | exact src_zeros ((heap_past _ _ _ (by simp)).trans (heap_last _ _ _ rfl)) (by omega) | exact src_zeros ((heap_drew _ _).trans (heap_last _ _ _ (by simp))) (by omega) | exact src_zeros ((heap_drew _ _).trans ((heap_past _ _ _ (by simp)).trans (heap_last _ _ _ (by simp)))) (by omega))); rintro e w1 ⟨b, cb, rfl, hb, hcb, b1, hN, hC⟩))
  all_goals
    obtain ⟨B1, _⟩ := (by assumption : Below W.heap.size W w1 ∧ True)
    have hWb : W.heap.size ≤ b := by simp at hb; omega
    have M := Lib.hid (show Mem (newMem cb 2 4 true fun x => 0) (fun _ => 0) w1 b from ⟨hN, hC, fun i _ => ⟨by omega, by omega⟩⟩)
    clear hb hcb b1 hN hC
    have HB := Lib.hid B1; clear B1
    go_wp2_with fail
    refine (write_yes _ b 3145784 4386 8 _ M.out.at_ rfl (by omega) (by omega) (wake_l1 cb) (by omega) (by omega)).mono ?_
    rintro e w2 ⟨rfl, hN2, hC2⟩
    have M2 := Lib.hid (M.out.chg hN2 hC2)
    have HB2 := Lib.hid (hC2.below HB.out hWb HB.out.size)
    clear hN2 hC2
    go_wp2_with fail
    refine (read_any _ _ b 3145785 1 _ M2.out rfl (by omega) (by omega)).mono ?_
    rw [wake_v cb, wake_e cb]
    rintro e w3 ⟨rfl, b3⟩
    have M3 := Lib.hid (M2.out.below b3)
    have HB3 := Lib.hid (below_call HB2.out b3)
    clear b3
    go_wp2_with fail
    refine (write_no _ b 3145785 1 8 _ M3.out.at_ rfl (by omega) (by omega) (wake_l2 cb)).mono ?_
    rintro e w4 ⟨rfl, b4⟩
    have M4 := Lib.hid (M3.out.below b4)
    have HB4 := Lib.hid (below_call HB3.out b4)
    clear b4
    go_wp2_with fail
    refine (write_no _ b 1048576 1 1 _ M4.out.at_ rfl (by omega) (by omega) (wake_l3 cb)).mono ?_
    rintro e w5 ⟨rfl, b5⟩
    go_wp2
    go_ret
    exact ⟨rfl, below_call HB4.out b5⟩
end Go.Proofs.Ytpbnmbeedjhloaa
