/-
  Package instr: Same.
-/
import Derived.Test.YtbflanpfcbbblaaInsH
namespace Go.Proofs.Ytbflanpfcbbblaa.Ins
open Go.RowKit
set_option linter.unusedVariables false

/-- Are two rows of instructions the same? -/
def sameL (l1 l2 : Nat) (xs ys : Nat → In) : Bool := decide (l1 = l2) && (List.range l1).all fun i => eqI (xs i) (ys i)
theorem sameL_no {l1 l2 : Nat} {xs ys : Nat → In} (k : Nat) (hk : k < l1) (h : eqI (xs k) (ys k) = false) : sameL l1 l2 xs ys = false := by
  unfold sameL
  rw [Bool.and_eq_false_iff]
  right
  rw [List.all_eq_false]
  exact ⟨k, List.mem_range.2 hk, by simp [h]⟩
theorem sameL_yes {l : Nat} {xs ys : Nat → In} (h : ∀ i, i < l → eqI (xs i) (ys i) = true) : sameL l l xs ys = true := by
  unfold sameL
  rw [Bool.and_eq_true]
  exact ⟨decide_eq_true rfl, List.all_eq_true.2 (fun i hi => h i (List.mem_range.1 hi))⟩
theorem sameL_iff {l1 l2 : Nat} {xs ys : Nat → In} : sameL l1 l2 xs ys = true ↔ l1 = l2 ∧ ∀ i, i < l1 → xs i = ys i := by
  unfold sameL
  rw [Bool.and_eq_true, decide_eq_true_iff, List.all_eq_true]
  exact ⟨fun h => ⟨h.1, fun i hi => eqI_iff.1 (h.2 i (List.mem_range.2 hi))⟩, fun h => ⟨h.1, fun i hi => eqI_iff.2 (h.2 i (List.mem_range.1 hi))⟩⟩

/-- What the operations of the comparing region yield. -/
def cmpR (p1 p2 : Option Addr) (l1 c1 l2 c2 k : Nat) (a1 a2 : Addr) (x y : In) : Nat → Value → Value → World → Prop
  | 0, v, _, _ => v = .slice p1 l1 c1
  | 1, v, _, _ => v = .int .i64 k
  | 2, v, _, _ => v = .pointer (some a1)
  | 3, v, _, _ => v = .agg x.cells
  | 4, v, _, _ => v = .slice p2 l2 c2
  | 5, v, _, _ => v = .int .i64 k
  | 6, v, _, _ => v = .pointer (some a2)
  | 7, v, _, _ => v = .agg y.cells
  | 8, v, _, _ => v = .bool (!eqI x y)
  | _, _, _, _ => True
theorem cmpR_any {p1 p2 : Option Addr} {l1 c1 l2 c2 k : Nat} {a1 a2 : Addr} {x y : In} {w w' : World} {j : Nat} {a b : Value} (h : cmpR p1 p2 l1 c1 l2 c2 k a1 a2 x y j a b w) : cmpR p1 p2 l1 c1 l2 c2 k a1 a2 x y j a b w' := by
  unfold cmpR at *
  split at h <;> first | exact h | trivial
theorem load_mid {b o : Nat} (x : In) {w : World} (h : w.rangeAt b o x.cells.toList) : (loadVar 24 ⟨b, o, none⟩).run Try.prog w = .ok (.agg x.cells) w :=
  run_loadVar_mid w b o 24 x.cells.toList _ h Try.underlying24 rfl info_ins

set_option maxRecDepth 100000 in
set_option maxHeartbeats 4000000 in
theorem equal_same (a1 : Option Addr) (c1 : Nat) (xs : Nat → In) (a2 : Option Addr) (len c2 : Nat) (ys : Nat → In) (W : World) (h1 : Insts W a1 len c1 xs) (h2 : Insts W a2 len c2 ys) :
    Calls Try.prog 41 #[.slice a1 len c1, .slice a2 len c2] W fun e w' => e = .returned (.bool (sameL len len xs ys)) ∧ Below W.heap.size W w' := by
  have e1 := h1.le
  have e2 := h1.fit
  have e3 := h2.le
  have H1 := Lib.hid h1; have H2 := Lib.hid h2; clear h1 h2
  go_enter Try.func41, Try.ntmps41
  go_wp2_with fail
  go_loopw [13] (fun i wr => ∃ k : Nat, k ≤ len ∧ i = .int .i64 k ∧ Hid (Below W.heap.size W wr ∧ ∀ j, j < k → eqI (xs j) (ys j) = true)) (fun i _ => len - (intOf i).toNat)
  case atStart => exact ⟨0, by omega, rfl, Lib.hid ⟨Below.refl _ _, fun j hj => by omega⟩⟩
  case round =>
    obtain ⟨k, hk, rfl, hR⟩ := hrel
    by_cases hlt : k < len
    · obtain ⟨B1, q1, rfl, hc1⟩ := H1.out.here (by omega)
      obtain ⟨B2, q2, rfl, hc2⟩ := H2.out.here (by omega)
      have HA := Lib.hid (hc1 k hlt)
      have HB := Lib.hid (hc2 k hlt)
      clear hc1 hc2
      go_wp2_with fail
      generalize hx : xs k = x at *
      generalize hy : ys k = y at *
      have HE := Lib.hid (And.intro hx hy); clear hx hy
      refine wp_region_inv (fun _ => 100000) (fun w => Below W.heap.size W w) (cmpR (some ⟨B1, q1, none⟩) (some ⟨B2, q2, none⟩) len c1 len c2 k ⟨B1, q1 + k * 9, none⟩ ⟨B2, q2 + k * 9, none⟩ x y) (by kernel_rfl) (back_of (by kernel_rfl)) (dst_of (by kernel_rfl)) (dep_of (by kernel_rfl)) (in_of (by kernel_rfl)) (Below.drew hR.out.1) ?hop ?hq
      case hop =>
        intro i o a w ho hS hdf hsz hrest hdone
        have t0 : a.tmps.getD 0 undef = .slice (some ⟨B1, q1, none⟩) len c1 := hrest 0 (not_of (by kernel_rfl))
        have t1 : a.tmps.getD 1 undef = .slice (some ⟨B2, q2, none⟩) len c2 := hrest 1 (not_of (by kernel_rfl))
        have t5 : a.tmps.getD 5 undef = .int .i64 k := hrest 5 (not_of (by kernel_rfl))
        have hs : a.tmps.size = 26 := hsz.trans rfl
        have hi : i < 9 := (Array.getElem?_eq_some_iff.1 ho).1
        clear hrest
        obtain rfl | rfl | rfl | rfl | rfl | rfl | rfl | rfl | rfl : i = 0 ∨ i = 1 ∨ i = 2 ∨ i = 3 ∨ i = 4 ∨ i = 5 ∨ i = 6 ∨ i = 7 ∨ i = 8 := by omega
        · obtain rfl := Option.some.inj (show some _ = some o from ho)
          refine wpOp_val (v := .slice (some ⟨B1, q1, none⟩) len c1) (w' := w) rfl rfl ?_ ⟨_, rfl, ?_, hS, fun _ _ _ h => cmpR_any h⟩
          · simp [execOp, Act.eval, t0]
          · rw [own_put rfl (by rw [hs]; omega)]; rfl
        · obtain rfl := Option.some.inj (show some _ = some o from ho)
          refine wpOp_val (v := .int .i64 k) (w' := w) rfl rfl ?_ ⟨_, rfl, ?_, hS, fun _ _ _ h => cmpR_any h⟩
          · simp [execOp, Act.eval, t5]
          · rw [own_put rfl (by rw [hs]; omega)]; rfl
        · obtain rfl := Option.some.inj (show some _ = some o from ho)
          have s16 : a.tmps.getD 16 undef = .slice (some ⟨B1, q1, none⟩) len c1 := hdone _ (Array.mem_of_getElem? (i := 0) rfl) rfl _ rfl
          have s17 : a.tmps.getD 17 undef = .int .i64 k := hdone _ (Array.mem_of_getElem? (i := 1) rfl) rfl _ rfl
          refine wpOp_val (v := .pointer (some ⟨B1, q1 + k * 9, none⟩)) (w' := w) rfl rfl ?_ ⟨_, rfl, ?_, hS, fun _ _ _ h => cmpR_any h⟩
          · simp [execOp, Act.eval, s16, s17, go_sem]
            exact fun h => absurd h (by omega)
          · rw [own_put rfl (by rw [hs]; omega)]; rfl
        · obtain rfl := Option.some.inj (show some _ = some o from ho)
          have s18 : a.tmps.getD 18 undef = .pointer (some ⟨B1, q1 + k * 9, none⟩) := hdone _ (Array.mem_of_getElem? (i := 0) rfl) rfl _ rfl
          have ld := load_mid x (rangeAt_below hS HA.out)
          refine wpOp_val (v := .agg x.cells) (w' := w) rfl rfl ?_ ⟨_, rfl, ?_, hS, fun _ _ _ h => cmpR_any h⟩
          · simp [execOp, Act.eval, s18, Instr.loadAt, Instr.sureAddr, ld, Result.andThen_ok]
          · rw [own_put rfl (by rw [hs]; omega)]; rfl
        · obtain rfl := Option.some.inj (show some _ = some o from ho)
          refine wpOp_val (v := .slice (some ⟨B2, q2, none⟩) len c2) (w' := w) rfl rfl ?_ ⟨_, rfl, ?_, hS, fun _ _ _ h => cmpR_any h⟩
          · simp [execOp, Act.eval, t1]
          · rw [own_put rfl (by rw [hs]; omega)]; rfl
        · obtain rfl := Option.some.inj (show some _ = some o from ho)
          refine wpOp_val (v := .int .i64 k) (w' := w) rfl rfl ?_ ⟨_, rfl, ?_, hS, fun _ _ _ h => cmpR_any h⟩
          · simp [execOp, Act.eval, t5]
          · rw [own_put rfl (by rw [hs]; omega)]; rfl
        · obtain rfl := Option.some.inj (show some _ = some o from ho)
          have s20 : a.tmps.getD 20 undef = .slice (some ⟨B2, q2, none⟩) len c2 := hdone _ (Array.mem_of_getElem? (i := 0) rfl) rfl _ rfl
          have s21 : a.tmps.getD 21 undef = .int .i64 k := hdone _ (Array.mem_of_getElem? (i := 1) rfl) rfl _ rfl
          refine wpOp_val (v := .pointer (some ⟨B2, q2 + k * 9, none⟩)) (w' := w) rfl rfl ?_ ⟨_, rfl, ?_, hS, fun _ _ _ h => cmpR_any h⟩
          · simp [execOp, Act.eval, s20, s21, go_sem]
            exact fun h => absurd h (by omega)
          · rw [own_put rfl (by rw [hs]; omega)]; rfl
        · obtain rfl := Option.some.inj (show some _ = some o from ho)
          have s22 : a.tmps.getD 22 undef = .pointer (some ⟨B2, q2 + k * 9, none⟩) := hdone _ (Array.mem_of_getElem? (i := 0) rfl) rfl _ rfl
          have ld := load_mid y (rangeAt_below hS HB.out)
          refine wpOp_val (v := .agg y.cells) (w' := w) rfl rfl ?_ ⟨_, rfl, ?_, hS, fun _ _ _ h => cmpR_any h⟩
          · simp [execOp, Act.eval, s22, Instr.loadAt, Instr.sureAddr, ld, Result.andThen_ok]
          · rw [own_put rfl (by rw [hs]; omega)]; rfl
        · obtain rfl := Option.some.inj (show some _ = some o from ho)
          have s19 : a.tmps.getD 19 undef = .agg x.cells := hdone _ (Array.mem_of_getElem? (i := 0) rfl) rfl _ rfl
          have s23 : a.tmps.getD 23 undef = .agg y.cells := hdone _ (Array.mem_of_getElem? (i := 1) rfl) rfl _ rfl
          refine wpOp_val (v := .bool (!eqI x y)) (w' := w) rfl rfl ?_ ⟨_, rfl, ?_, hS, fun _ _ _ h => cmpR_any h⟩
          · exact exec_neq rfl s19 s23 (by kernel_rfl) (eq_run x y w)
          · rw [own_put rfl (by rw [hs]; omega)]; rfl
      case hq =>
        intro u9 w' hS hR9
        have f : u9 24 = .bool (!eqI x y) := hR9 8 _ rfl
        clear hR9
        rw [show outs _ u9 = [(16, u9 16), (17, u9 17), (18, u9 18), (19, u9 19), (20, u9 20), (21, u9 21), (22, u9 22), (23, u9 23), (24, u9 24)] by kernel_rfl, f]
        simp only [putAll, List.setIfInBounds_toArray, List.set_cons_zero, List.set_cons_succ]
        generalize u9 16 = x3; generalize u9 17 = x4; generalize u9 18 = x5; generalize u9 19 = x6; generalize u9 20 = x7; generalize u9 21 = x8; generalize u9 22 = x9; generalize u9 23 = x10
        clear f u9
        have W3 := Lib.hid hS; clear hS
        have HR := Lib.hid hR.out.2; clear hR
        cases he : eqI x y
        · have HQ := Lib.hid he; clear he
          go_wp2_with fail
          go_ret
          exact ⟨retB (sameL_no k hlt (by rw [HE.out.1, HE.out.2]; exact HQ.out)).symm, W3.out⟩
        · have HQ := Lib.hid he; clear he
          go_wp2_with fail
          go_roundw
          case rel => exact ⟨k + 1, by omega, by go_num, Lib.hid ⟨W3.out, fun j hj => by
            by_cases e : j = k
            · subst e; rw [HE.out.1, HE.out.2]; exact HQ.out
            · exact HR.out j (by omega)⟩⟩
          case measure => simp [intOf]; omega
    · obtain rfl : k = len := by omega
      have HE := Lib.hid hR.out.2
      have W2 := Lib.hid hR.out.1
      clear hR
      go_wp2_with fail
      go_ret
      exact ⟨retB (sameL_yes HE.out).symm, W2.out⟩

set_option maxRecDepth 100000 in
set_option maxHeartbeats 1000000 in
theorem equal_any (a1 : Option Addr) (l1 c1 : Nat) (xs : Nat → In) (a2 : Option Addr) (l2 c2 : Nat) (ys : Nat → In) (W : World) (h1 : Insts W a1 l1 c1 xs) (h2 : Insts W a2 l2 c2 ys) :
    Calls Try.prog 41 #[.slice a1 l1 c1, .slice a2 l2 c2] W fun e w' => e = .returned (.bool (sameL l1 l2 xs ys)) ∧ Below W.heap.size W w' := by
  by_cases h : l1 = l2
  · subst h; exact equal_same a1 c1 xs a2 l1 c2 ys W h1 h2
  · have e0 : ((l1 : Int) != (l2 : Int)) = true := by simp; omega
    have r : sameL l1 l2 xs ys = false := by unfold sameL; rw [decide_eq_false h]; rfl
    rw [r]
    clear h1 h2 r
    go_enter Try.func41, Try.ntmps41
    go_wp2_with fail
    go_ret
    exact ⟨rfl, Below.refl _ _⟩

def sameI (c d : Int) (l1 l2 : Nat) (xs ys : Nat → In) : Bool := decide (c = d) && sameL l1 l2 xs ys
theorem sameI_iff {c d : Int} {l1 l2 : Nat} {xs ys : Nat → In} : sameI c d l1 l2 xs ys = true ↔ c = d ∧ l1 = l2 ∧ ∀ i, i < l1 → xs i = ys i := by
  unfold sameI; rw [Bool.and_eq_true, decide_eq_true_iff, sameL_iff]
set_option maxHeartbeats 1000000 in
theorem same_any (c : Int) (a1 : Option Addr) (l1 c1 : Nat) (xs : Nat → In) (d : Int) (a2 : Option Addr) (l2 c2 : Nat) (ys : Nat → In) (W : World) (h1 : Insts W a1 l1 c1 xs) (h2 : Insts W a2 l2 c2 ys) :
    Calls Try.prog 20 #[.agg #[.int .i64 c, .slice a1 l1 c1], .agg #[.int .i64 d, .slice a2 l2 c2]] W fun e w' => e = .returned (.bool (sameI c d l1 l2 xs ys)) ∧ Below W.heap.size W w' := by
  unfold sameI
  by_cases h : c = d
  · subst h
    rw [decide_eq_true rfl, Bool.true_and]
    have E := Lib.hid (equal_any a1 l1 c1 xs a2 l2 c2 ys _ (h1.below (below_new (below_new (Below.refl _ W) (.cells #[.int .i64 c, .slice a1 l1 c1] 27)) (.cells #[.int .i64 c, .slice a2 l2 c2] 27))) (h2.below (below_new (below_new (Below.refl _ W) (.cells #[.int .i64 c, .slice a1 l1 c1] 27)) (.cells #[.int .i64 c, .slice a2 l2 c2] 27))))
    clear h1 h2
    go_enter Try.func20, Try.ntmps20
    go_wp2_with fail
    refine E.out.mono ?_
    rintro e w1 ⟨rfl, b1⟩
    go_wp2_with fail
    go_ret
    exact ⟨rfl, below_call (below_new (below_new (Below.refl _ _) _) _) b1⟩
  · rw [decide_eq_false h, Bool.false_and]
    have e0 : (c == d) = false := by simpa using h
    clear h1 h2
    go_enter Try.func20, Try.ntmps20
    go_wp2_with fail
    go_ret
    exact ⟨rfl, below_new (below_new (Below.refl _ _) _) _⟩
end Go.Proofs.Ytbflanpfcbbblaa.Ins
