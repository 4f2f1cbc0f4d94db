/-
  Layer 12: the document's own operands, as contracts.
-/
import Derived.Test.YtnechhoknaepiaaMrE
namespace Go.Proofs.Ytnechhoknaepiaa.Mrm
open Go.RowKit
set_option linter.unusedVariables false
set_option linter.unnecessarySimpa false
set_option linter.unusedSimpArgs false
set_option maxRecDepth 100000

theorem qregs_n (r m : Int) (W : World) : Calls Try.prog 12 #[.int .i8 r, .int .i8 m] W (RetB (bif bothB r m then regL r m else []) (bif bothB r m then 0 else 2) W) := by
  have R := Lib.hid (fun W => qregister_n r W)
  have M := Lib.hid (fun W => qregister_n m W)
  unfold RetB
  cases h : bothB r m
  · cases g : regB r
    · rw [g] at R
      clear h g
      go_enter Try.func12, Try.ntmps12
      go_wp2_with fail
      refine (R.out _).mono ?_
      rintro e w1 ⟨rfl, rfl⟩
      go_wp2_with fail
      go_ret2
      exact ⟨_, rfl, Bts.nil _ _, Below.refl _ _⟩
    · have g2 : regB m = false := by unfold bothB at h; rw [g] at h; simpa using h
      rw [g] at R
      rw [g2] at M
      clear h g g2
      go_enter Try.func12, Try.ntmps12
      go_wp2_with fail
      refine (R.out _).mono ?_
      rintro e w1 ⟨rfl, rfl⟩
      go_wp2_with fail
      refine (M.out _).mono ?_
      rintro e w1 ⟨rfl, rfl⟩
      go_wp2_with fail
      go_ret2
      exact ⟨_, rfl, Bts.nil _ _, Below.refl _ _⟩
  · obtain ⟨⟨h1, h2⟩, h3, h4⟩ := bothB_iff.1 h
    rw [show regB r = true from regB_iff.2 ⟨h1, h2⟩] at R
    rw [show regB m = true from regB_iff.2 ⟨h3, h4⟩] at M
    clear h
    go_enter Try.func12, Try.ntmps12
    go_wp2_with fail
    refine (R.out _).mono ?_
    rintro e w1 ⟨rfl, rfl⟩
    go_wp2_with fail
    refine (M.out _).mono ?_
    rintro e w1 ⟨rfl, rfl⟩
    go_wp2_with fail
    go_ret2
    exact ⟨_, rfl, one_own W _ (Nat.le_refl _), below_new (Below.refl _ _) _⟩
set_option maxHeartbeats 2000000 in
theorem qmem_n (r m d : Int) (h0 : -9223372036854775808 ≤ d) (h1 : d ≤ 9223372036854775807) (W : World) : Calls Try.prog 14 #[.int .i8 r, .int .i8 m, .int .i64 d] W (MemB r m d W) := by
  have R := Lib.hid (fun W => qregister_n r W)
  have M := Lib.hid (fun W => qregister_n m W)
  have D := Lib.hid (fun W => qnum4_n d h0 h1 W)
  clear h0 h1
  unfold MemB memB
  cases g : fitB d 4
  · rw [g] at D
    rw [Bool.and_false]
    show Calls _ _ _ _ (RetB [] 2 W)
    unfold RetB
    go_enter Try.func14, Try.ntmps14
    go_wp2_with fail
    refine (D.out _).mono ?_
    rintro e w1 ⟨v1, rfl, o1, b1⟩
    go_wp2_with fail
    go_ret2
    exact ⟨_, rfl, Bts.nil _ _, b1⟩
  · rw [g] at D
    rw [Bool.and_true]
    unfold RetB
    cases h : bothB r m
    · cases g1 : regB r
      · rw [g1] at R
        clear h g1
        go_enter Try.func14, Try.ntmps14
        go_wp2_with fail
        refine (D.out _).mono ?_
        rintro e w1 ⟨v1, rfl, o1, b1⟩
        go_wp2_with fail
        refine (R.out _).mono ?_
        rintro e w2 ⟨rfl, rfl⟩
        go_wp2_with fail
        go_ret2
        exact ⟨_, rfl, Bts.nil _ _, b1⟩
      · have g2 : regB m = false := by unfold bothB at h; rw [g1] at h; simpa using h
        rw [g1] at R
        rw [g2] at M
        clear h g1 g2
        go_enter Try.func14, Try.ntmps14
        go_wp2_with fail
        refine (D.out _).mono ?_
        rintro e w1 ⟨v1, rfl, o1, b1⟩
        go_wp2_with fail
        refine (R.out _).mono ?_
        rintro e w2 ⟨rfl, rfl⟩
        go_wp2_with fail
        refine (M.out _).mono ?_
        rintro e w2 ⟨rfl, rfl⟩
        go_wp2_with fail
        go_ret2
        exact ⟨_, rfl, Bts.nil _ _, b1⟩
    · obtain ⟨⟨h1, h2⟩, h3, h4⟩ := bothB_iff.1 h
      rw [show regB r = true from regB_iff.2 ⟨h1, h2⟩] at R
      rw [show regB m = true from regB_iff.2 ⟨h3, h4⟩] at M
      have OK1 := Lib.hid (numL_ok d 4)
      have HL := Lib.hid (numL_length d 4)
      show Calls _ _ _ _ (fun e w' => ∃ v, e = .returned (.tuple #[v, .int .i64 0]) ∧ Bts W.heap.size w' v (memL r m d) ∧ Below W.heap.size W w')
      unfold memL midL
      clear h g
      generalize numL d 4 = nl at *
      by_cases c4 : m % 8 = 4
      · rw [if_pos c4, show opI 128 r m = 128 + r % 8 * 8 + 4 by unfold opI; omega]
        go_enter Try.func14, Try.ntmps14
        go_wp2_with fail
        refine (D.out _).mono ?_
        rintro e w1 ⟨v1, rfl, o1, b1⟩
        go_wp2_with fail
        obtain ⟨xa, c, rfl, E1⟩ := o1.at OK1.out
        have E1 := Lib.hid E1
        have B1 := Lib.hid b1
        clear o1 b1 D
        refine (R.out _).mono ?_
        rintro e w2 ⟨rfl, rfl⟩
        go_wp2_with fail
        refine (M.out _).mono ?_
        rintro e w2 ⟨rfl, rfl⟩
        have S1 := Lib.hid B1.out.size
        have O2 := Lib.hid (one_own (base := W.heap.size) w1 (128 + r % 8 * 8 + 4) S1.out)
        have E36 := Lib.hid (show BytesAt ((w1.alloc (.cells #[.int .u8 (128 + r % 8 * 8 + 4)] 5)).alloc (.cells #[.int .u8 36] 5)) (some ⟨w1.heap.size + 1, 0, none⟩) 1 1 [36] by
          have h := one_at (w1.alloc (.cells #[.int .u8 (128 + r % 8 * 8 + 4)] 5)) 36 (by decide)
          rw [show (w1.alloc (.cells #[.int .u8 (128 + r % 8 * 8 + 4)] 5)).heap.size = w1.heap.size + 1 by simp] at h
          exact h)
        go_wp2_with (at_builtin; refine wpList_append_b rfl _ _ rfl W.heap.size _ [128 + r % 8 * 8 + 4] rfl (O2.out.below (below_new (Below.refl _ _) _)) _ 1 1 [36] rfl E36.out (by simp) (by have := S1.out; simp; omega) ?_)
        intro v3 w3 o3 g3
        have BA := Lib.hid (below_new (below_new (Below.refl w1.heap.size w1) (.cells #[.int .u8 (128 + r % 8 * 8 + 4)] 5)) (.cells #[.int .u8 36] 5))
        have G3 := Lib.hid (below_grown BA.out g3 (fun j hj => by simp [Value.ownBlock] at hj; omega))
        have E3 := Lib.hid (E1.out.below G3.out)
        have B3 := Lib.hid (below_call B1.out G3.out)
        have O3 := Lib.hid o3
        clear o3 g3
        go_wp2_with (at_builtin; refine wpList_append_b rfl _ _ rfl W.heap.size _ _ rfl O3.out _ _ _ nl rfl E3.out (by have := HL.out; simp; omega) B3.out.size ?_)
        intro v4 w4 o4 g4
        have B4 := Lib.hid (below_grown B3.out g4 (fun j hj => O3.out.lt j hj))
        have O4 := Lib.hid o4
        clear o4 g4
        go_wp2_with fail
        go_ret2
        exact ⟨_, rfl, O4.out, B4.out⟩
      · rw [if_neg c4]
        have c5 : (m % 8 == 4) = false := by simpa using c4
        clear c4
        go_enter Try.func14, Try.ntmps14
        go_wp2_with fail
        refine (D.out _).mono ?_
        rintro e w1 ⟨v1, rfl, o1, b1⟩
        go_wp2_with fail
        obtain ⟨xa, c, rfl, E1⟩ := o1.at OK1.out
        have E1 := Lib.hid E1
        have B1 := Lib.hid b1
        clear o1 b1 D
        refine (R.out _).mono ?_
        rintro e w2 ⟨rfl, rfl⟩
        go_wp2_with fail
        refine (M.out _).mono ?_
        rintro e w2 ⟨rfl, rfl⟩
        have S1 := Lib.hid B1.out.size
        have O2 := Lib.hid (one_own (base := W.heap.size) w1 (opI 128 r m) S1.out)
        have G2 := Lib.hid (below_new (Below.refl w1.heap.size w1) (.cells #[.int .u8 (opI 128 r m)] 5))
        have E2 := Lib.hid (E1.out.below G2.out)
        have B2 := Lib.hid (below_call B1.out G2.out)
        go_wp2_with (at_builtin; refine wpList_append_b rfl _ _ rfl W.heap.size _ _ rfl O2.out _ _ _ nl rfl E2.out (by have := HL.out; simp; omega) B2.out.size ?_)
        intro v4 w4 o4 g4
        have B4 := Lib.hid (below_grown B2.out g4 (fun j hj => O2.out.lt j hj))
        have O4 := Lib.hid o4
        clear o4 g4
        go_wp2_with fail
        go_ret2
        exact ⟨_, rfl, O4.out, B4.out⟩
end Go.Proofs.Ytnechhoknaepiaa.Mrm
