/-
  The document's answer latheref03: Same.
-/
import Derived.Test.YtbpefomjmjkciaaInsKm
import Derived.Test.YtbpefomjmjkciaaRinB
namespace Go.Proofs.Ytbpefomjmjkciaa.Ins
open Go.RowKit
set_option linter.unusedVariables false

/-- What the operations of the comparing region yield. -/
def rcR (p1 p2 : Option Addr) (l1 c1 l2 c2 k : Nat) (b1 b2 : Nat) (a1 a2 : Addr) (x y : In) : Nat → Value → Value → World → Prop
  | 0, v, _, _ => v = .pointer (some ⟨b1, 1, none⟩)
  | 1, v, _, _ => v = .slice p1 l1 c1
  | 2, v, _, _ => v = .int .i64 k
  | 3, v, _, _ => v = .pointer (some a1)
  | 4, v, _, _ => v = .agg x.cells
  | 5, v, _, _ => v = .pointer (some ⟨b2, 1, none⟩)
  | 6, v, _, _ => v = .slice p2 l2 c2
  | 7, v, _, _ => v = .int .i64 k
  | 8, v, _, _ => v = .pointer (some a2)
  | 9, v, _, _ => v = .agg y.cells
  | 10, v, _, _ => v = .bool (!eqI x y)
  | _, _, _, _ => True

set_option maxRecDepth 100000 in
set_option maxHeartbeats 4000000 in
theorem r_same_yes (c : Int) (a1 : Option Addr) (c1 : Nat) (xs : Nat → In) (a2 : Option Addr) (len c2 : Nat) (ys : Nat → In) (W : World) (h1 : Insts W a1 len c1 xs) (h2 : Insts W a2 len c2 ys) :
    Calls Try.prog 16 #[.agg #[.int .i64 c, .slice a1 len c1], .agg #[.int .i64 c, .slice a2 len c2]] W fun e w' => e = .returned (.bool (sameL len len xs ys)) ∧ Below W.heap.size W w' := by
  have e1 := h1.le
  have e2 := h1.fit
  have e3 := h2.le
  have H1 := Lib.hid h1; have H2 := Lib.hid h2; clear h1 h2
  go_enter Try.func16, Try.ntmps16
  go_wp2_with fail
  go_loopw [5] (fun i wr => ∃ k : Nat, k ≤ len ∧ i = .int .i64 k ∧ Hid (Below W.heap.size W wr ∧ (wr.cell? ⟨W.heap.size, 1, none⟩ = some (.slice a1 len c1) ∧ wr.cell? ⟨W.heap.size + 1, 1, none⟩ = some (.slice a2 len c2)) ∧ W.heap.size + 1 < wr.heap.size ∧ ∀ j, j < k → eqI (xs j) (ys j) = true)) (fun i _ => len - (intOf i).toNat)
  case atStart => exact ⟨0, by omega, rfl, Lib.hid ⟨below_new (below_new (Below.refl _ _) _) _, ⟨by simp, by simp⟩, by simp, fun j hj => by omega⟩⟩
  case round =>
    obtain ⟨k, hk, rfl, hR⟩ := hrel
    obtain ⟨hP, hQ⟩ := hR.out.2.1
    by_cases hlt : k < len
    · obtain ⟨B1, q1, rfl, hc1⟩ := H1.out.here (by omega)
      obtain ⟨B2, q2, rfl, hc2⟩ := H2.out.here (by omega)
      have HA := Lib.hid (rangeAt_below hR.out.1 (hc1 k hlt))
      have HB := Lib.hid (rangeAt_below hR.out.1 (hc2 k hlt))
      have HP := Lib.hid (fun (w : World) (h : Below wr.heap.size wr w) => (And.intro ((h.cell (p := ⟨W.heap.size, 1, none⟩) (by have := hR.out.2.2.1; show W.heap.size < _; omega)).trans hP) ((h.cell (p := ⟨W.heap.size + 1, 1, none⟩) hR.out.2.2.1).trans hQ)))
      clear hc1 hc2
      go_wp2_with fail
      generalize hx : xs k = x at *
      generalize hy : ys k = y at *
      have HE := Lib.hid (And.intro hx hy); clear hx hy
      refine wp_region_inv (fun _ => 100000) (fun w => Below wr.heap.size wr w) (rcR (some ⟨B1, q1, none⟩) (some ⟨B2, q2, none⟩) len c1 len c2 k W.heap.size (W.heap.size + 1) ⟨B1, q1 + k * 9, none⟩ ⟨B2, q2 + k * 9, none⟩ x y) (by kernel_rfl) (back_of (by kernel_rfl)) (dst_of (by kernel_rfl)) (dep_of (by kernel_rfl)) (in_of (by kernel_rfl)) (Below.drew (Below.refl _ _)) ?hop ?hq
      case hop =>
        intro i o a w ho hS hdf hsz hrest hdone
        have t2 : a.tmps.getD 2 undef = .pointer (some ⟨W.heap.size, 0, none⟩) := hrest 2 (not_of (by kernel_rfl))
        have t3 : a.tmps.getD 3 undef = .pointer (some ⟨W.heap.size + 1, 0, none⟩) := hrest 3 (not_of (by kernel_rfl))
        have t5 : a.tmps.getD 5 undef = .int .i64 k := hrest 5 (not_of (by kernel_rfl))
        have hs : a.tmps.size = 38 := hsz.trans rfl
        have hi : i < 11 := (Array.getElem?_eq_some_iff.1 ho).1
        clear hrest hsz hdf
        obtain rfl | rfl | rfl | rfl | rfl | rfl | rfl | rfl | rfl | rfl | rfl : i = 0 ∨ i = 1 ∨ i = 2 ∨ i = 3 ∨ i = 4 ∨ i = 5 ∨ i = 6 ∨ i = 7 ∨ i = 8 ∨ i = 9 ∨ i = 10 := by omega
        · obtain rfl := Option.some.inj (show some _ = some o from ho)
          refine wpOp_val (v := .pointer (some ⟨W.heap.size, 1, none⟩)) (w' := w) rfl rfl ?_ ⟨_, rfl, ?_, hS, fun _ _ _ h => h⟩
          · simp [execOp, Act.eval, t2, go_sem]
          · rw [own_put rfl (by rw [hs]; omega)]; exact rfl
        · obtain rfl := Option.some.inj (show some _ = some o from ho)
          have s27 : a.tmps.getD 27 undef = .pointer (some ⟨W.heap.size, 1, none⟩) := hdone _ (Array.mem_of_getElem? (i := 0) rfl) rfl _ rfl
          have hc := (HP.out w hS).1
          refine wpOp_val (v := .slice (some ⟨B1, q1, none⟩) len c1) (w' := w) rfl rfl ?_ ⟨_, rfl, ?_, hS, fun _ _ _ h => h⟩
          · simp [execOp, Act.eval, s27, hc, go_sem]
          · rw [own_put rfl (by rw [hs]; omega)]; exact rfl
        · obtain rfl := Option.some.inj (show some _ = some o from ho)
          refine wpOp_val (v := .int .i64 k) (w' := w) rfl rfl ?_ ⟨_, rfl, ?_, hS, fun _ _ _ h => h⟩
          · simp [execOp, Act.eval, t5]
          · rw [own_put rfl (by rw [hs]; omega)]; exact rfl
        · obtain rfl := Option.some.inj (show some _ = some o from ho)
          have s28 : a.tmps.getD 28 undef = .slice (some ⟨B1, q1, none⟩) len c1 := hdone _ (Array.mem_of_getElem? (i := 0) rfl) rfl _ rfl
          have s29 : a.tmps.getD 29 undef = .int .i64 k := hdone _ (Array.mem_of_getElem? (i := 1) rfl) rfl _ rfl
          refine wpOp_val (v := .pointer (some ⟨B1, q1 + k * 9, none⟩)) (w' := w) rfl rfl ?_ ⟨_, rfl, ?_, hS, fun _ _ _ h => h⟩
          · (simp [execOp, Act.eval, s28, s29, go_sem]; exact fun h => absurd h (by omega))
          · rw [own_put rfl (by rw [hs]; omega)]; exact rfl
        · obtain rfl := Option.some.inj (show some _ = some o from ho)
          have s30 : a.tmps.getD 30 undef = .pointer (some ⟨B1, q1 + k * 9, none⟩) := hdone _ (Array.mem_of_getElem? (i := 0) rfl) rfl _ rfl
          have ld := load_mid x (rangeAt_below hS HA.out)
          refine wpOp_val (v := .agg x.cells) (w' := w) rfl rfl ?_ ⟨_, rfl, ?_, hS, fun _ _ _ h => h⟩
          · simp [execOp, Act.eval, s30, Instr.loadAt, Instr.sureAddr, ld, Result.andThen_ok]
          · rw [own_put rfl (by rw [hs]; omega)]; exact rfl
        · obtain rfl := Option.some.inj (show some _ = some o from ho)
          refine wpOp_val (v := .pointer (some ⟨W.heap.size + 1, 1, none⟩)) (w' := w) rfl rfl ?_ ⟨_, rfl, ?_, hS, fun _ _ _ h => h⟩
          · simp [execOp, Act.eval, t3, go_sem]
          · rw [own_put rfl (by rw [hs]; omega)]; exact rfl
        · obtain rfl := Option.some.inj (show some _ = some o from ho)
          have s32 : a.tmps.getD 32 undef = .pointer (some ⟨W.heap.size + 1, 1, none⟩) := hdone _ (Array.mem_of_getElem? (i := 0) rfl) rfl _ rfl
          have hc := (HP.out w hS).2
          refine wpOp_val (v := .slice (some ⟨B2, q2, none⟩) len c2) (w' := w) rfl rfl ?_ ⟨_, rfl, ?_, hS, fun _ _ _ h => h⟩
          · simp [execOp, Act.eval, s32, hc, go_sem]
          · rw [own_put rfl (by rw [hs]; omega)]; exact rfl
        · obtain rfl := Option.some.inj (show some _ = some o from ho)
          refine wpOp_val (v := .int .i64 k) (w' := w) rfl rfl ?_ ⟨_, rfl, ?_, hS, fun _ _ _ h => h⟩
          · simp [execOp, Act.eval, t5]
          · rw [own_put rfl (by rw [hs]; omega)]; exact rfl
        · obtain rfl := Option.some.inj (show some _ = some o from ho)
          have s33 : a.tmps.getD 33 undef = .slice (some ⟨B2, q2, none⟩) len c2 := hdone _ (Array.mem_of_getElem? (i := 0) rfl) rfl _ rfl
          have s34 : a.tmps.getD 34 undef = .int .i64 k := hdone _ (Array.mem_of_getElem? (i := 1) rfl) rfl _ rfl
          refine wpOp_val (v := .pointer (some ⟨B2, q2 + k * 9, none⟩)) (w' := w) rfl rfl ?_ ⟨_, rfl, ?_, hS, fun _ _ _ h => h⟩
          · (simp [execOp, Act.eval, s33, s34, go_sem]; exact fun h => absurd h (by omega))
          · rw [own_put rfl (by rw [hs]; omega)]; exact rfl
        · obtain rfl := Option.some.inj (show some _ = some o from ho)
          have s35 : a.tmps.getD 35 undef = .pointer (some ⟨B2, q2 + k * 9, none⟩) := hdone _ (Array.mem_of_getElem? (i := 0) rfl) rfl _ rfl
          have ld := load_mid y (rangeAt_below hS HB.out)
          refine wpOp_val (v := .agg y.cells) (w' := w) rfl rfl ?_ ⟨_, rfl, ?_, hS, fun _ _ _ h => h⟩
          · simp [execOp, Act.eval, s35, Instr.loadAt, Instr.sureAddr, ld, Result.andThen_ok]
          · rw [own_put rfl (by rw [hs]; omega)]; exact rfl
        · obtain rfl := Option.some.inj (show some _ = some o from ho)
          have s31 : a.tmps.getD 31 undef = .agg x.cells := hdone _ (Array.mem_of_getElem? (i := 0) rfl) rfl _ rfl
          have s36 : a.tmps.getD 36 undef = .agg y.cells := hdone _ (Array.mem_of_getElem? (i := 1) rfl) rfl _ rfl
          refine wpOp_val (v := .bool (!eqI x y)) (w' := w) rfl rfl ?_ ⟨_, rfl, ?_, hS, fun _ _ _ h => h⟩
          · exact exec_neq rfl s31 s36 (by kernel_rfl) (eq_run x y w)
          · rw [own_put rfl (by rw [hs]; omega)]; exact rfl
      case hq =>
        intro u9 w' hS hR9
        have f : u9 37 = .bool (!eqI x y) := hR9 10 _ rfl
        clear hR9
        rw [show outs _ u9 = [(27, u9 27), (28, u9 28), (29, u9 29), (30, u9 30), (31, u9 31), (32, u9 32), (33, u9 33), (34, u9 34), (35, u9 35), (36, u9 36), (37, u9 37)] by kernel_rfl, f]
        simp only [putAll, List.setIfInBounds_toArray, List.set_cons_zero, List.set_cons_succ]
        generalize u9 27 = x27; generalize u9 28 = x28; generalize u9 29 = x29; generalize u9 30 = x30; generalize u9 31 = x31; generalize u9 32 = x32; generalize u9 33 = x33; generalize u9 34 = x34; generalize u9 35 = x35; generalize u9 36 = x36
        clear f u9
        have hPQ := Lib.hid (HP.out w' hS)
        have W3 := Lib.hid (below_call hR.out.1 hS)
        have Z3 := Lib.hid (show W.heap.size + 1 < w'.heap.size by have := hR.out.2.2.1; have := hS.size; omega)
        clear hS hP hQ
        have HR := Lib.hid hR.out.2.2.2; clear hR
        cases he : eqI x y
        · have HQ := Lib.hid he; clear he
          go_wp2_with fail
          go_ret
          exact ⟨retB (sameL_no k hlt (by rw [HE.out.1, HE.out.2]; exact HQ.out)).symm, W3.out⟩
        · have HQ := Lib.hid he; clear he
          go_wp2_with fail
          go_roundw
          case rel => exact ⟨k + 1, by omega, by go_num, Lib.hid ⟨W3.out, hPQ.out, Z3.out, fun j hj => by
            by_cases e : j = k
            · subst e; rw [HE.out.1, HE.out.2]; exact HQ.out
            · exact HR.out j (by omega)⟩⟩
          case measure => simp [intOf]; omega
    · obtain rfl : k = len := by omega
      have HE := Lib.hid hR.out.2.2.2
      have W2 := Lib.hid hR.out.1
      clear hR
      go_wp2_with fail
      go_ret
      exact ⟨retB (sameL_yes HE.out).symm, W2.out⟩
set_option maxRecDepth 100000 in
set_option maxHeartbeats 1000000 in
theorem r_same (c : Int) (a1 : Option Addr) (l1 c1 : Nat) (xs : Nat → In) (d : Int) (a2 : Option Addr) (l2 c2 : Nat) (ys : Nat → In) (W : World) (h1 : Insts W a1 l1 c1 xs) (h2 : Insts W a2 l2 c2 ys) :
    Calls Try.prog 16 #[.agg #[.int .i64 c, .slice a1 l1 c1], .agg #[.int .i64 d, .slice a2 l2 c2]] W fun e w' => e = .returned (.bool (sameI c d l1 l2 xs ys)) ∧ Below W.heap.size W w' := by
  unfold sameI
  by_cases h : c = d
  · subst h
    rw [decide_eq_true rfl, Bool.true_and]
    by_cases hl : l1 = l2
    · subst hl; exact r_same_yes c a1 c1 xs a2 l1 c2 ys W h1 h2
    · have e0 : ((l1 : Int) != (l2 : Int)) = true := by simp; omega
      have r : sameL l1 l2 xs ys = false := by unfold sameL; rw [decide_eq_false hl]; rfl
      rw [r]
      clear h1 h2 r
      go_enter Try.func16, Try.ntmps16
      go_wp2_with fail
      go_ret
      exact ⟨rfl, below_new (below_new (Below.refl _ _) _) _⟩
  · rw [decide_eq_false h, Bool.false_and]
    have e0 : (c != d) = true := by simpa using h
    clear h1 h2
    go_enter Try.func16, Try.ntmps16
    go_wp2_with fail
    go_ret
    exact ⟨rfl, below_new (below_new (Below.refl _ _) _) _⟩
end Go.Proofs.Ytbpefomjmjkciaa.Ins
