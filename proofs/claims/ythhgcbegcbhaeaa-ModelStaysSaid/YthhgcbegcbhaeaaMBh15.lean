/-
  Several texts in one: MdlB, MdlC.
-/
import Derived.Test.YthhgcbegcbhaeaaMBh02
import Derived.Test.YthhgcbegcbhaeaaMBh06
import Derived.Test.YthhgcbegcbhaeaaMBh08
import Derived.Test.YthhgcbegcbhaeaaMBh13
import Derived.Test.YthhgcbegcbhaeaaMBh14
import Derived.WalkKit
import Derived.WalkSpells
import Derived.WalkLawsBesides
import Derived.Lib.Hide
set_option linter.unusedVariables false
set_option linter.unusedSimpArgs false
set_option linter.unnecessarySimpa false
namespace Go.Proofs.Ythhgcbegcbhaeaa.Mdl
open Go.RowKit
set_option linter.unusedVariables false
set_option maxRecDepth 100000

theorem reg_cases {r : Int} (h0 : 0 ≤ r) (h1 : r ≤ 10) : r = 0 ∨ r = 1 ∨ r = 2 ∨ r = 3 ∨ r = 4 ∨ r = 5 ∨ r = 6 ∨ r = 7 ∨ r = 8 ∨ r = 9 ∨ r = 10 := by omega

set_option maxHeartbeats 1000000 in
theorem only_any (r : Int) (W : World) (h0 : 0 ≤ r) (h1 : r ≤ 10) :
    Calls Try.prog 54 #[.int .i8 r] W fun e w' => e = .returned (.int .i64 (onlyI r)) ∧ W = w' := by
  rcases reg_cases h0 h1 with rfl | rfl | rfl | rfl | rfl | rfl | rfl | rfl | rfl | rfl | rfl
  all_goals
    go_enter Try.func54, Try.ntmps54
    go_wp2
    go_ret
    exact ⟨rfl, rfl⟩

set_option maxHeartbeats 1000000 in
theorem arguments_any (n : Int) (W : World) (h0 : 0 ≤ n) (h1 : n ≤ 5) :
    Calls Try.prog 63 #[.int .i64 n] W fun e w' => e = .returned (.int .i64 (argsM n)) ∧ W = w' := by
  have c : n = 0 ∨ n = 1 ∨ n = 2 ∨ n = 3 ∨ n = 4 ∨ n = 5 := by omega
  rcases c with rfl | rfl | rfl | rfl | rfl | rfl
  all_goals
    go_enter Try.func63, Try.ntmps63
    go_wp2
    go_ret
    exact ⟨rfl, rfl⟩

set_option maxHeartbeats 1000000 in
theorem address_any (b o : Int) (W : World) (hb0 : 0 ≤ b) (hb1 : b < 18446744073709551616) (ho0 : -9223372036854775808 ≤ o) (ho1 : o ≤ 9223372036854775807) :
    Calls Try.prog 58 #[.int .u64 b, .int .i64 o] W fun e w' => e = .returned (.int .u64 ((b + o) % 18446744073709551616)) ∧ W = w' := by
  go_enter Try.func58, Try.ntmps58
  go_wp2
  go_ret
  have e : IntKind.u64.wrap (b + IntKind.u64.wrap o) = (b + o) % 18446744073709551616 := by rw [IntKind.wrap_u64, IntKind.wrap_u64]; omega
  rw [← e]
  exact ⟨rfl, rfl⟩

set_option maxHeartbeats 1000000 in
theorem second_f (kind op width size dst src off imm : Int) (W : World) :
    Calls Try.prog 64 #[.agg (Ins.In.mk kind op width size false dst src off imm).cells] W fun e w' => e = .returned (.int .i64 0) ∧ Below W.heap.size W w' := by
  unfold Ins.In.cells
  simp only
  go_enter Try.func64, Try.ntmps64
  go_wp2
  go_ret
  exact ⟨rfl, below_new (Below.refl _ _) _⟩
set_option maxHeartbeats 1000000 in
theorem second_t (kind op width size dst src off imm : Int) (W : World) (h0 : 0 ≤ src) (h1 : src ≤ 10) :
    Calls Try.prog 64 #[.agg (Ins.In.mk kind op width size true dst src off imm).cells] W fun e w' => e = .returned (.int .i64 (onlyI src)) ∧ Below W.heap.size W w' := by
  have O := Lib.hid (fun W => only_any src W h0 h1)
  unfold Ins.In.cells
  simp only
  go_enter Try.func64, Try.ntmps64
  go_wp2_with fail
  refine (O.out _).mono ?_
  rintro e w1 ⟨rfl, rfl⟩
  go_wp2
  go_ret
  exact ⟨rfl, below_new (Below.refl _ _) _⟩

theorem second_any (x : Ins.In) (W : World) (h0 : 0 ≤ x.src) (h1 : x.src ≤ 10) :
    Calls Try.prog 64 #[.agg x.cells] W fun e w' => e = .returned (.int .i64 (secondI x)) ∧ Below W.heap.size W w' := by
  obtain ⟨kind, op, width, size, byReg, dst, src, off, imm⟩ := x
  cases byReg
  · exact second_f kind op width size dst src off imm W
  · exact second_t kind op width size dst src off imm W h0 h1

set_option maxHeartbeats 2000000 in
theorem reads_1 (op width size : Int) (byReg : Bool) (dst src off imm : Int) (W : World) (s0 : 0 ≤ src) (s1 : src ≤ 10) :
    Calls Try.prog 41 #[.agg (Ins.In.mk 1 op width size byReg dst src off imm).cells] W fun e w' => e = .returned (.int .i64 (onlyI src)) ∧ Below W.heap.size W w' := by
  have S := Lib.hid (fun W => only_any src W s0 s1)
  clear s0 s1
  unfold Ins.In.cells
  simp only
  go_enter Try.func41, Try.ntmps41
  go_wp2_with fail
  refine (S.out _).mono ?_
  rintro e w1 ⟨rfl, rfl⟩
  go_wp2
  go_ret
  exact ⟨rfl, below_new (Below.refl _ _) _⟩
set_option maxHeartbeats 2000000 in
theorem reads_2 (op width size : Int) (byReg : Bool) (dst src off imm : Int) (W : World) (d0 : 0 ≤ dst) (d1 : dst ≤ 10) (s0 : 0 ≤ src) (s1 : src ≤ 10) :
    Calls Try.prog 41 #[.agg (Ins.In.mk 2 op width size byReg dst src off imm).cells] W fun e w' => e = .returned (.int .i64 (orM (onlyI dst) (onlyI src))) ∧ Below W.heap.size W w' := by
  have D := Lib.hid (fun W => only_any dst W d0 d1)
  clear d0 d1
  have S := Lib.hid (fun W => only_any src W s0 s1)
  clear s0 s1
  unfold Ins.In.cells
  simp only
  go_enter Try.func41, Try.ntmps41
  go_wp2_with fail
  have BW0 : Below W.heap.size W (W.alloc (.cells (Ins.In.mk 2 op width size byReg dst src off imm).cells 55)) := below_new (Below.refl _ W) _
  have HH0 : (W.alloc (.cells (Ins.In.mk 2 op width size byReg dst src off imm).cells 55)).heap[W.heap.size]? = some (.cells (Ins.In.mk 2 op width size byReg dst src off imm).cells 55 (0, 0)) := heap_last W _ _ rfl
  unfold Ins.In.cells at BW0 HH0
  simp only at BW0 HH0
  generalize W.alloc (.cells #[.int .i8 2, .int .i8 op, .int .i8 width, .int .i8 size, .bool byReg, .int .i8 dst, .int .i8 src, .int .i64 off, .int .i64 imm] 55) = w0 at *
  have BW := Lib.hid BW0; clear BW0
  have HB : Hid (∀ w, Below w0.heap.size w0 w → w.heap[W.heap.size]? = some (.cells (Ins.In.mk 2 op width size byReg dst src off imm).cells 55 (0, 0))) := Lib.hid (fun w h => (h.block _ (Array.getElem?_eq_some_iff.1 HH0).1).trans HH0)
  clear HH0
  have H5 : Hid (∀ w, Below w0.heap.size w0 w → w.cell? ⟨W.heap.size, 5, none⟩ = some (.int .i8 dst)) := Lib.hid (fun w h => by simp only [World.cell?, HB.out w h]; rfl)
  have H6 : Hid (∀ w, Below w0.heap.size w0 w → w.cell? ⟨W.heap.size, 6, none⟩ = some (.int .i8 src)) := Lib.hid (fun w h => by simp only [World.cell?, HB.out w h]; rfl)
  refine wp_region_inv (fun _ => 100000) (fun w => Below w0.heap.size w0 w) (TabV [fun v => v = .pointer (some ⟨W.heap.size, 5, none⟩), fun v => v = .int .i8 dst, fun v => v = .int .i64 (onlyI dst), fun v => v = .pointer (some ⟨W.heap.size, 6, none⟩), fun v => v = .int .i8 src, fun v => v = .int .i64 (onlyI src), fun v => v = .int .i64 (orM (onlyI dst) (onlyI src)), fun v => v = .int .i64 (orM (onlyI dst) (onlyI src))]) (by kernel_rfl) (back_of (by kernel_rfl)) (dst_of (by kernel_rfl)) (dep_of (by kernel_rfl)) (in_of (by kernel_rfl)) (Below.drew (Below.refl _ _)) ?hop ?hq
  case hop =>
    intro i o a w ho hS hdf hsz hrest hdone
    have t1 : a.tmps.getD 1 undef = .pointer (some ⟨W.heap.size, 0, none⟩) := hrest 1 (not_of (by kernel_rfl))
    have hs : a.tmps.size = 49 := hsz.trans rfl
    have hi : i < 8 := (Array.getElem?_eq_some_iff.1 ho).1
    clear hrest hsz hdf
    obtain rfl | rfl | rfl | rfl | rfl | rfl | rfl | rfl : i = 0 ∨ i = 1 ∨ i = 2 ∨ i = 3 ∨ i = 4 ∨ i = 5 ∨ i = 6 ∨ i = 7 := by omega
    · obtain rfl := Option.some.inj (show some _ = some o from ho)
      refine wpOp_val (v := .pointer (some ⟨W.heap.size, 5, none⟩)) (w' := w) rfl rfl ?_ ⟨_, rfl, ?_, hS, fun _ _ _ h => h⟩
      · simp [execOp, Act.eval, t1, go_sem]
      · rw [own_put rfl (by rw [hs]; omega)]; exact rfl
    · obtain rfl := Option.some.inj (show some _ = some o from ho)
      have s25 : a.tmps.getD 25 undef = .pointer (some ⟨W.heap.size, 5, none⟩) := hdone _ (Array.mem_of_getElem? (i := 0) rfl) rfl _ rfl
      refine wpOp_val (v := .int .i8 dst) (w' := w) rfl rfl ?_ ⟨_, rfl, ?_, hS, fun _ _ _ h => h⟩
      · (have hc := (H5.out w hS); simp [execOp, Act.eval, s25, hc, go_sem])
      · rw [own_put rfl (by rw [hs]; omega)]; exact rfl
    · obtain rfl := Option.some.inj (show some _ = some o from ho)
      have s26 : a.tmps.getD 26 undef = .int .i8 dst := hdone _ (Array.mem_of_getElem? (i := 0) rfl) rfl _ rfl
      refine wpOp_call (f := 54) (args := #[.int .i8 dst]) rfl rfl ?_ ?_
      · simp [go_sem, execOp, Act.eval, Deferred.ofValue, callFunc, Try.func54, Try.f54, s26, resolve, invoke]
      · refine (D.out w).mono ?_
        rintro e w' ⟨rfl, rfl⟩
        refine ⟨_, rfl, _, rfl, ?_, hS, fun _ _ _ h => h⟩
        rw [own_put rfl (by rw [hs]; omega)]; exact rfl
    · obtain rfl := Option.some.inj (show some _ = some o from ho)
      refine wpOp_val (v := .pointer (some ⟨W.heap.size, 6, none⟩)) (w' := w) rfl rfl ?_ ⟨_, rfl, ?_, hS, fun _ _ _ h => h⟩
      · simp [execOp, Act.eval, t1, go_sem]
      · rw [own_put rfl (by rw [hs]; omega)]; exact rfl
    · obtain rfl := Option.some.inj (show some _ = some o from ho)
      have s28 : a.tmps.getD 28 undef = .pointer (some ⟨W.heap.size, 6, none⟩) := hdone _ (Array.mem_of_getElem? (i := 0) rfl) rfl _ rfl
      refine wpOp_val (v := .int .i8 src) (w' := w) rfl rfl ?_ ⟨_, rfl, ?_, hS, fun _ _ _ h => h⟩
      · (have hc := (H6.out w hS); simp [execOp, Act.eval, s28, hc, go_sem])
      · rw [own_put rfl (by rw [hs]; omega)]; exact rfl
    · obtain rfl := Option.some.inj (show some _ = some o from ho)
      have s29 : a.tmps.getD 29 undef = .int .i8 src := hdone _ (Array.mem_of_getElem? (i := 0) rfl) rfl _ rfl
      refine wpOp_call (f := 54) (args := #[.int .i8 src]) rfl rfl ?_ ?_
      · simp [go_sem, execOp, Act.eval, Deferred.ofValue, callFunc, Try.func54, Try.f54, s29, resolve, invoke]
      · refine (S.out w).mono ?_
        rintro e w' ⟨rfl, rfl⟩
        refine ⟨_, rfl, _, rfl, ?_, hS, fun _ _ _ h => h⟩
        rw [own_put rfl (by rw [hs]; omega)]; exact rfl
    · obtain rfl := Option.some.inj (show some _ = some o from ho)
      have s27 : a.tmps.getD 27 undef = .int .i64 (onlyI dst) := hdone _ (Array.mem_of_getElem? (i := 0) rfl) rfl _ rfl
      have s30 : a.tmps.getD 30 undef = .int .i64 (onlyI src) := hdone _ (Array.mem_of_getElem? (i := 1) rfl) rfl _ rfl
      refine wpOp_val (v := .int .i64 (orM (onlyI dst) (onlyI src))) (w' := w) rfl rfl ?_ ⟨_, rfl, ?_, hS, fun _ _ _ h => h⟩
      · simp [execOp, Act.eval, s27, s30, go_sem, orM]
      · rw [own_put rfl (by rw [hs]; omega)]; exact rfl
    · obtain rfl := Option.some.inj (show some _ = some o from ho)
      have s31 : a.tmps.getD 31 undef = .int .i64 (orM (onlyI dst) (onlyI src)) := hdone _ (Array.mem_of_getElem? (i := 0) rfl) rfl _ rfl
      refine wpOp_val (v := .int .i64 (orM (onlyI dst) (onlyI src))) (w' := w) rfl rfl ?_ ⟨_, rfl, ?_, hS, fun _ _ _ h => h⟩
      · simp [execOp, Act.eval, s31]
      · rw [own_put rfl (by rw [hs]; omega)]; exact rfl
  case hq =>
    intro u9 w' hS hR9
    have f2 : u9 2 = .int .i64 (orM (onlyI dst) (onlyI src)) := hR9 7 _ rfl
    clear hR9
    rw [show outs _ u9 = [(25, u9 25), (26, u9 26), (27, u9 27), (28, u9 28), (29, u9 29), (30, u9 30), (31, u9 31), (2, u9 2)] by kernel_rfl, f2]
    simp only [putAll, List.setIfInBounds_toArray, List.set_cons_zero, List.set_cons_succ]
    generalize u9 25 = x25
    generalize u9 26 = x26
    generalize u9 27 = x27
    generalize u9 28 = x28
    generalize u9 29 = x29
    generalize u9 30 = x30
    generalize u9 31 = x31
    clear f2 u9
    have W1 := Lib.hid (below_call BW.out hS); clear hS
    go_wp2_with fail
    go_ret
    exact ⟨rfl, W1.out⟩
set_option maxHeartbeats 2000000 in
theorem reads_3 (op width size : Int) (byReg : Bool) (dst src off imm : Int) (W : World) (d0 : 0 ≤ dst) (d1 : dst ≤ 10) (s0 : 0 ≤ src) (s1 : src ≤ 10) :
    Calls Try.prog 41 #[.agg (Ins.In.mk 3 op width size byReg dst src off imm).cells] W fun e w' => e = .returned (.int .i64 (orM (onlyI dst) (secondI (Ins.In.mk 3 op width size byReg dst src off imm)))) ∧ Below W.heap.size W w' := by
  have D := Lib.hid (fun W => only_any dst W d0 d1)
  clear d0 d1
  have T := Lib.hid (fun W => second_any (Ins.In.mk 3 op width size byReg dst src off imm) W s0 s1)
  clear s0 s1
  generalize secondI (Ins.In.mk 3 op width size byReg dst src off imm) = z at *
  unfold Ins.In.cells
  simp only
  go_enter Try.func41, Try.ntmps41
  go_wp2_with fail
  have BW0 : Below W.heap.size W (W.alloc (.cells (Ins.In.mk 3 op width size byReg dst src off imm).cells 55)) := below_new (Below.refl _ W) _
  have HH0 : (W.alloc (.cells (Ins.In.mk 3 op width size byReg dst src off imm).cells 55)).heap[W.heap.size]? = some (.cells (Ins.In.mk 3 op width size byReg dst src off imm).cells 55 (0, 0)) := heap_last W _ _ rfl
  unfold Ins.In.cells at BW0 HH0
  simp only at BW0 HH0
  generalize W.alloc (.cells #[.int .i8 3, .int .i8 op, .int .i8 width, .int .i8 size, .bool byReg, .int .i8 dst, .int .i8 src, .int .i64 off, .int .i64 imm] 55) = w0 at *
  have BW := Lib.hid BW0; clear BW0
  have HB : Hid (∀ w, Below w0.heap.size w0 w → w.heap[W.heap.size]? = some (.cells (Ins.In.mk 3 op width size byReg dst src off imm).cells 55 (0, 0))) := Lib.hid (fun w h => (h.block _ (Array.getElem?_eq_some_iff.1 HH0).1).trans HH0)
  clear HH0
  have H5 : Hid (∀ w, Below w0.heap.size w0 w → w.cell? ⟨W.heap.size, 5, none⟩ = some (.int .i8 dst)) := Lib.hid (fun w h => by simp only [World.cell?, HB.out w h]; rfl)
  have H6 : Hid (∀ w, Below w0.heap.size w0 w → w.cell? ⟨W.heap.size, 6, none⟩ = some (.int .i8 src)) := Lib.hid (fun w h => by simp only [World.cell?, HB.out w h]; rfl)
  refine wp_region_inv (fun _ => 100000) (fun w => Below w0.heap.size w0 w) (TabV [fun v => v = .pointer (some ⟨W.heap.size, 5, none⟩), fun v => v = .int .i8 dst, fun v => v = .int .i64 (onlyI dst), fun v => v = .agg (Ins.In.mk 3 op width size byReg dst src off imm).cells, fun v => v = .int .i64 z, fun v => v = .int .i64 (orM (onlyI dst) z), fun v => v = .int .i64 (orM (onlyI dst) z)]) (by kernel_rfl) (back_of (by kernel_rfl)) (dst_of (by kernel_rfl)) (dep_of (by kernel_rfl)) (in_of (by kernel_rfl)) (Below.drew (Below.refl _ _)) ?hop ?hq
  case hop =>
    intro i o a w ho hS hdf hsz hrest hdone
    have t1 : a.tmps.getD 1 undef = .pointer (some ⟨W.heap.size, 0, none⟩) := hrest 1 (not_of (by kernel_rfl))
    have hs : a.tmps.size = 49 := hsz.trans rfl
    have hi : i < 7 := (Array.getElem?_eq_some_iff.1 ho).1
    clear hrest hsz hdf
    obtain rfl | rfl | rfl | rfl | rfl | rfl | rfl : i = 0 ∨ i = 1 ∨ i = 2 ∨ i = 3 ∨ i = 4 ∨ i = 5 ∨ i = 6 := by omega
    · obtain rfl := Option.some.inj (show some _ = some o from ho)
      refine wpOp_val (v := .pointer (some ⟨W.heap.size, 5, none⟩)) (w' := w) rfl rfl ?_ ⟨_, rfl, ?_, hS, fun _ _ _ h => h⟩
      · simp [execOp, Act.eval, t1, go_sem]
      · rw [own_put rfl (by rw [hs]; omega)]; exact rfl
    · obtain rfl := Option.some.inj (show some _ = some o from ho)
      have s34 : a.tmps.getD 34 undef = .pointer (some ⟨W.heap.size, 5, none⟩) := hdone _ (Array.mem_of_getElem? (i := 0) rfl) rfl _ rfl
      refine wpOp_val (v := .int .i8 dst) (w' := w) rfl rfl ?_ ⟨_, rfl, ?_, hS, fun _ _ _ h => h⟩
      · (have hc := (H5.out w hS); simp [execOp, Act.eval, s34, hc, go_sem])
      · rw [own_put rfl (by rw [hs]; omega)]; exact rfl
    · obtain rfl := Option.some.inj (show some _ = some o from ho)
      have s35 : a.tmps.getD 35 undef = .int .i8 dst := hdone _ (Array.mem_of_getElem? (i := 0) rfl) rfl _ rfl
      refine wpOp_call (f := 54) (args := #[.int .i8 dst]) rfl rfl ?_ ?_
      · simp [go_sem, execOp, Act.eval, Deferred.ofValue, callFunc, Try.func54, Try.f54, s35, resolve, invoke]
      · refine (D.out w).mono ?_
        rintro e w' ⟨rfl, rfl⟩
        refine ⟨_, rfl, _, rfl, ?_, hS, fun _ _ _ h => h⟩
        rw [own_put rfl (by rw [hs]; omega)]; exact rfl
    · obtain rfl := Option.some.inj (show some _ = some o from ho)
      refine wpOp_val (v := .agg (Ins.In.mk 3 op width size byReg dst src off imm).cells) (w' := w) rfl rfl ?_ ⟨_, rfl, ?_, hS, fun _ _ _ h => h⟩
      · simp [execOp, Act.eval, t1, Instr.loadAt, Instr.sureAddr, Ins.load_boxed (Ins.In.mk 3 op width size byReg dst src off imm) (HB.out w hS), Result.andThen_ok]
      · rw [own_put rfl (by rw [hs]; omega)]; exact rfl
    · obtain rfl := Option.some.inj (show some _ = some o from ho)
      have s37 : a.tmps.getD 37 undef = .agg (Ins.In.mk 3 op width size byReg dst src off imm).cells := hdone _ (Array.mem_of_getElem? (i := 0) rfl) rfl _ rfl
      refine wpOp_call (f := 64) (args := #[.agg (Ins.In.mk 3 op width size byReg dst src off imm).cells]) rfl rfl ?_ ?_
      · simp [go_sem, execOp, Act.eval, Deferred.ofValue, callFunc, Try.func64, Try.f64, s37, resolve, invoke]
      · refine (T.out w).mono ?_
        rintro e w' ⟨rfl, b9⟩
        refine ⟨_, rfl, _, rfl, ?_, hS.trans (b9.mono hS.size), fun _ _ _ h => h⟩
        rw [own_put rfl (by rw [hs]; omega)]; exact rfl
    · obtain rfl := Option.some.inj (show some _ = some o from ho)
      have s36 : a.tmps.getD 36 undef = .int .i64 (onlyI dst) := hdone _ (Array.mem_of_getElem? (i := 0) rfl) rfl _ rfl
      have s38 : a.tmps.getD 38 undef = .int .i64 z := hdone _ (Array.mem_of_getElem? (i := 1) rfl) rfl _ rfl
      refine wpOp_val (v := .int .i64 (orM (onlyI dst) z)) (w' := w) rfl rfl ?_ ⟨_, rfl, ?_, hS, fun _ _ _ h => h⟩
      · simp [execOp, Act.eval, s36, s38, go_sem, orM]
      · rw [own_put rfl (by rw [hs]; omega)]; exact rfl
    · obtain rfl := Option.some.inj (show some _ = some o from ho)
      have s39 : a.tmps.getD 39 undef = .int .i64 (orM (onlyI dst) z) := hdone _ (Array.mem_of_getElem? (i := 0) rfl) rfl _ rfl
      refine wpOp_val (v := .int .i64 (orM (onlyI dst) z)) (w' := w) rfl rfl ?_ ⟨_, rfl, ?_, hS, fun _ _ _ h => h⟩
      · simp [execOp, Act.eval, s39]
      · rw [own_put rfl (by rw [hs]; omega)]; exact rfl
  case hq =>
    intro u9 w' hS hR9
    have f2 : u9 2 = .int .i64 (orM (onlyI dst) z) := hR9 6 _ rfl
    clear hR9
    rw [show outs _ u9 = [(34, u9 34), (35, u9 35), (36, u9 36), (37, u9 37), (38, u9 38), (39, u9 39), (2, u9 2)] by kernel_rfl, f2]
    simp only [putAll, List.setIfInBounds_toArray, List.set_cons_zero, List.set_cons_succ]
    generalize u9 34 = x34
    generalize u9 35 = x35
    generalize u9 36 = x36
    generalize u9 37 = x37
    generalize u9 38 = x38
    generalize u9 39 = x39
    clear f2 u9
    have W1 := Lib.hid (below_call BW.out hS); clear hS
    go_wp2_with fail
    go_ret
    exact ⟨rfl, W1.out⟩
set_option maxHeartbeats 2000000 in
theorem reads_0m (width size : Int) (byReg : Bool) (dst src off imm : Int) (W : World) (s0 : 0 ≤ src) (s1 : src ≤ 10) :
    Calls Try.prog 41 #[.agg (Ins.In.mk 0 11 width size byReg dst src off imm).cells] W fun e w' => e = .returned (.int .i64 (secondI (Ins.In.mk 0 11 width size byReg dst src off imm))) ∧ Below W.heap.size W w' := by
  have T := Lib.hid (fun W => second_any (Ins.In.mk 0 11 width size byReg dst src off imm) W s0 s1)
  have i9 : (Try.prog.info? 55).map (·.size) = some (Ins.In.mk 0 11 width size byReg dst src off imm).cells.size := Ins.info_ins
  have HI := Lib.hid i9
  clear i9 s0 s1
  generalize secondI (Ins.In.mk 0 11 width size byReg dst src off imm) = z at *
  unfold Ins.In.cells at T HI
  simp only at T
  unfold Ins.In.cells
  simp only
  go_enter Try.func41, Try.ntmps41
  go_wp2_with (refine (halt_load 55 _ rfl ?_))
  refine ⟨?_, trivial⟩
  refine wpList_load_row rfl 55 _ rfl W.heap.size rfl _ _ _ _ (heap_last _ _ _ rfl) Try.underlying55 rfl HI.out ?_
  go_wp2_with fail
  refine (T.out _).mono ?_
  rintro e w1 ⟨rfl, b1⟩
  go_wp2
  go_ret
  exact ⟨rfl, below_call (below_new (Below.refl _ _) _) b1⟩
set_option maxHeartbeats 2000000 in
theorem reads_0 (op width size : Int) (byReg : Bool) (dst src off imm : Int) (W : World) (d0 : 0 ≤ dst) (d1 : dst ≤ 10) (s0 : 0 ≤ src) (s1 : src ≤ 10) (hm : ¬ op = 11) :
    Calls Try.prog 41 #[.agg (Ins.In.mk 0 op width size byReg dst src off imm).cells] W fun e w' => e = .returned (.int .i64 (orM (onlyI dst) (secondI (Ins.In.mk 0 op width size byReg dst src off imm)))) ∧ Below W.heap.size W w' := by
  have D := Lib.hid (fun W => only_any dst W d0 d1)
  clear d0 d1
  have T := Lib.hid (fun W => second_any (Ins.In.mk 0 op width size byReg dst src off imm) W s0 s1)
  clear s0 s1
  generalize secondI (Ins.In.mk 0 op width size byReg dst src off imm) = z at *
  unfold Ins.In.cells
  simp only
  go_enter Try.func41, Try.ntmps41
  go_wp2_with fail
  have BW0 : Below W.heap.size W (W.alloc (.cells (Ins.In.mk 0 op width size byReg dst src off imm).cells 55)) := below_new (Below.refl _ W) _
  have HH0 : (W.alloc (.cells (Ins.In.mk 0 op width size byReg dst src off imm).cells 55)).heap[W.heap.size]? = some (.cells (Ins.In.mk 0 op width size byReg dst src off imm).cells 55 (0, 0)) := heap_last W _ _ rfl
  unfold Ins.In.cells at BW0 HH0
  simp only at BW0 HH0
  generalize W.alloc (.cells #[.int .i8 0, .int .i8 op, .int .i8 width, .int .i8 size, .bool byReg, .int .i8 dst, .int .i8 src, .int .i64 off, .int .i64 imm] 55) = w0 at *
  have BW := Lib.hid BW0; clear BW0
  have HB : Hid (∀ w, Below w0.heap.size w0 w → w.heap[W.heap.size]? = some (.cells (Ins.In.mk 0 op width size byReg dst src off imm).cells 55 (0, 0))) := Lib.hid (fun w h => (h.block _ (Array.getElem?_eq_some_iff.1 HH0).1).trans HH0)
  clear HH0
  have H5 : Hid (∀ w, Below w0.heap.size w0 w → w.cell? ⟨W.heap.size, 5, none⟩ = some (.int .i8 dst)) := Lib.hid (fun w h => by simp only [World.cell?, HB.out w h]; rfl)
  have H6 : Hid (∀ w, Below w0.heap.size w0 w → w.cell? ⟨W.heap.size, 6, none⟩ = some (.int .i8 src)) := Lib.hid (fun w h => by simp only [World.cell?, HB.out w h]; rfl)
  refine wp_region_inv (fun _ => 100000) (fun w => Below w0.heap.size w0 w) (TabV [fun v => v = .pointer (some ⟨W.heap.size, 5, none⟩), fun v => v = .int .i8 dst, fun v => v = .int .i64 (onlyI dst), fun v => v = .agg (Ins.In.mk 0 op width size byReg dst src off imm).cells, fun v => v = .int .i64 z, fun v => v = .int .i64 (orM (onlyI dst) z), fun v => v = .int .i64 (orM (onlyI dst) z)]) (by kernel_rfl) (back_of (by kernel_rfl)) (dst_of (by kernel_rfl)) (dep_of (by kernel_rfl)) (in_of (by kernel_rfl)) (Below.drew (Below.refl _ _)) ?hop ?hq
  case hop =>
    intro i o a w ho hS hdf hsz hrest hdone
    have t1 : a.tmps.getD 1 undef = .pointer (some ⟨W.heap.size, 0, none⟩) := hrest 1 (not_of (by kernel_rfl))
    have hs : a.tmps.size = 49 := hsz.trans rfl
    have hi : i < 7 := (Array.getElem?_eq_some_iff.1 ho).1
    clear hrest hsz hdf
    obtain rfl | rfl | rfl | rfl | rfl | rfl | rfl : i = 0 ∨ i = 1 ∨ i = 2 ∨ i = 3 ∨ i = 4 ∨ i = 5 ∨ i = 6 := by omega
    · obtain rfl := Option.some.inj (show some _ = some o from ho)
      refine wpOp_val (v := .pointer (some ⟨W.heap.size, 5, none⟩)) (w' := w) rfl rfl ?_ ⟨_, rfl, ?_, hS, fun _ _ _ h => h⟩
      · simp [execOp, Act.eval, t1, go_sem]
      · rw [own_put rfl (by rw [hs]; omega)]; exact rfl
    · obtain rfl := Option.some.inj (show some _ = some o from ho)
      have s12 : a.tmps.getD 12 undef = .pointer (some ⟨W.heap.size, 5, none⟩) := hdone _ (Array.mem_of_getElem? (i := 0) rfl) rfl _ rfl
      refine wpOp_val (v := .int .i8 dst) (w' := w) rfl rfl ?_ ⟨_, rfl, ?_, hS, fun _ _ _ h => h⟩
      · (have hc := (H5.out w hS); simp [execOp, Act.eval, s12, hc, go_sem])
      · rw [own_put rfl (by rw [hs]; omega)]; exact rfl
    · obtain rfl := Option.some.inj (show some _ = some o from ho)
      have s13 : a.tmps.getD 13 undef = .int .i8 dst := hdone _ (Array.mem_of_getElem? (i := 0) rfl) rfl _ rfl
      refine wpOp_call (f := 54) (args := #[.int .i8 dst]) rfl rfl ?_ ?_
      · simp [go_sem, execOp, Act.eval, Deferred.ofValue, callFunc, Try.func54, Try.f54, s13, resolve, invoke]
      · refine (D.out w).mono ?_
        rintro e w' ⟨rfl, rfl⟩
        refine ⟨_, rfl, _, rfl, ?_, hS, fun _ _ _ h => h⟩
        rw [own_put rfl (by rw [hs]; omega)]; exact rfl
    · obtain rfl := Option.some.inj (show some _ = some o from ho)
      refine wpOp_val (v := .agg (Ins.In.mk 0 op width size byReg dst src off imm).cells) (w' := w) rfl rfl ?_ ⟨_, rfl, ?_, hS, fun _ _ _ h => h⟩
      · simp [execOp, Act.eval, t1, Instr.loadAt, Instr.sureAddr, Ins.load_boxed (Ins.In.mk 0 op width size byReg dst src off imm) (HB.out w hS), Result.andThen_ok]
      · rw [own_put rfl (by rw [hs]; omega)]; exact rfl
    · obtain rfl := Option.some.inj (show some _ = some o from ho)
      have s15 : a.tmps.getD 15 undef = .agg (Ins.In.mk 0 op width size byReg dst src off imm).cells := hdone _ (Array.mem_of_getElem? (i := 0) rfl) rfl _ rfl
      refine wpOp_call (f := 64) (args := #[.agg (Ins.In.mk 0 op width size byReg dst src off imm).cells]) rfl rfl ?_ ?_
      · simp [go_sem, execOp, Act.eval, Deferred.ofValue, callFunc, Try.func64, Try.f64, s15, resolve, invoke]
      · refine (T.out w).mono ?_
        rintro e w' ⟨rfl, b9⟩
        refine ⟨_, rfl, _, rfl, ?_, hS.trans (b9.mono hS.size), fun _ _ _ h => h⟩
        rw [own_put rfl (by rw [hs]; omega)]; exact rfl
    · obtain rfl := Option.some.inj (show some _ = some o from ho)
      have s14 : a.tmps.getD 14 undef = .int .i64 (onlyI dst) := hdone _ (Array.mem_of_getElem? (i := 0) rfl) rfl _ rfl
      have s16 : a.tmps.getD 16 undef = .int .i64 z := hdone _ (Array.mem_of_getElem? (i := 1) rfl) rfl _ rfl
      refine wpOp_val (v := .int .i64 (orM (onlyI dst) z)) (w' := w) rfl rfl ?_ ⟨_, rfl, ?_, hS, fun _ _ _ h => h⟩
      · simp [execOp, Act.eval, s14, s16, go_sem, orM]
      · rw [own_put rfl (by rw [hs]; omega)]; exact rfl
    · obtain rfl := Option.some.inj (show some _ = some o from ho)
      have s17 : a.tmps.getD 17 undef = .int .i64 (orM (onlyI dst) z) := hdone _ (Array.mem_of_getElem? (i := 0) rfl) rfl _ rfl
      refine wpOp_val (v := .int .i64 (orM (onlyI dst) z)) (w' := w) rfl rfl ?_ ⟨_, rfl, ?_, hS, fun _ _ _ h => h⟩
      · simp [execOp, Act.eval, s17]
      · rw [own_put rfl (by rw [hs]; omega)]; exact rfl
  case hq =>
    intro u9 w' hS hR9
    have f2 : u9 2 = .int .i64 (orM (onlyI dst) z) := hR9 6 _ rfl
    clear hR9
    rw [show outs _ u9 = [(12, u9 12), (13, u9 13), (14, u9 14), (15, u9 15), (16, u9 16), (17, u9 17), (2, u9 2)] by kernel_rfl, f2]
    simp only [putAll, List.setIfInBounds_toArray, List.set_cons_zero, List.set_cons_succ]
    generalize u9 12 = x12
    generalize u9 13 = x13
    generalize u9 14 = x14
    generalize u9 15 = x15
    generalize u9 16 = x16
    generalize u9 17 = x17
    clear f2 u9
    have W1 := Lib.hid (below_call BW.out hS); clear hS
    go_wp2_with fail
    go_ret
    exact ⟨rfl, W1.out⟩
set_option maxHeartbeats 2000000 in
theorem reads_4 (op width size : Int) (byReg : Bool) (dst src off imm : Int) (W : World) :
    Calls Try.prog 41 #[.agg (Ins.In.mk 4 op width size byReg dst src off imm).cells] W fun e w' => e = .returned (.int .i64 (0)) ∧ Below W.heap.size W w' := by
  unfold Ins.In.cells
  simp only
  go_enter Try.func41, Try.ntmps41
  go_wp2
  go_ret
  exact ⟨rfl, below_new (Below.refl _ _) _⟩
set_option maxHeartbeats 2000000 in
theorem reads_6 (op width size : Int) (byReg : Bool) (dst src off imm : Int) (W : World) :
    Calls Try.prog 41 #[.agg (Ins.In.mk 6 op width size byReg dst src off imm).cells] W fun e w' => e = .returned (.int .i64 (onlyI 0)) ∧ Below W.heap.size W w' := by
  have D := Lib.hid (fun W => only_any 0 W (by omega) (by omega))
  unfold Ins.In.cells
  simp only
  go_enter Try.func41, Try.ntmps41
  go_wp2_with fail
  refine (D.out _).mono ?_
  rintro e w1 ⟨rfl, rfl⟩
  go_wp2
  go_ret
  exact ⟨rfl, below_new (Below.refl _ _) _⟩
set_option maxHeartbeats 2000000 in
theorem reads_5 (op width size : Int) (byReg : Bool) (dst src off imm : Int) (W : World) :
    Calls Try.prog 41 #[.agg (Ins.In.mk 5 op width size byReg dst src off imm).cells] W fun e w' => e = .returned (.int .i64 (argsM (Ins.argsI imm))) ∧ Below W.heap.size W w' := by
  have A := Lib.hid (fun W => Ins.args_any imm W)
  have b : 0 ≤ Ins.argsI imm ∧ Ins.argsI imm ≤ 5 := by unfold Ins.argsI; split <;> omega
  have M := Lib.hid (fun W => arguments_any (Ins.argsI imm) W b.1 b.2)
  clear b
  generalize Ins.argsI imm = m at *
  unfold Ins.In.cells
  simp only
  go_enter Try.func41, Try.ntmps41
  go_wp2_with fail
  refine (A.out _).mono ?_
  rintro e w1 ⟨rfl, rfl⟩
  go_wp2_with fail
  refine (M.out _).mono ?_
  rintro e w1 ⟨rfl, rfl⟩
  go_wp2
  go_ret
  exact ⟨rfl, below_new (Below.refl _ _) _⟩
/-- What an instruction that may be reads. -/
theorem reads_any (x : Ins.In) (W : World) (h : Ins.mayI x = true) :
    Calls Try.prog 41 #[.agg x.cells] W fun e w' => e = .returned (.int .i64 (readsM x)) ∧ Below W.heap.size W w' := by
  obtain ⟨⟨d0, d1⟩, ⟨s0, s1⟩, -, -, hk⟩ := Ins.mayI_cases h
  clear h
  obtain ⟨kind, op, width, size, byReg, dst, src, off, imm⟩ := x
  simp only at d0 d1 s0 s1 hk
  have hk' : kind = 0 ∨ kind = 1 ∨ kind = 2 ∨ kind = 3 ∨ kind = 4 ∨ kind = 5 ∨ kind = 6 := by
    rcases hk with h | h | h | h | h | h | h
    · exact .inl h.1
    · exact .inr (.inl h.1)
    · exact .inr (.inr (.inl h.1))
    · exact .inr (.inr (.inr (.inl h.1)))
    · exact .inr (.inr (.inr (.inr (.inl h.1))))
    · exact .inr (.inr (.inr (.inr (.inr (.inl h.1)))))
    · exact .inr (.inr (.inr (.inr (.inr (.inr h.1)))))
  clear hk
  rcases hk' with rfl | rfl | rfl | rfl | rfl | rfl | rfl
  · by_cases hm : op = 11
    · subst hm
      exact reads_0m width size byReg dst src off imm W s0 (by omega)
    · rw [show readsM (Ins.In.mk 0 op width size byReg dst src off imm) = orM (onlyI dst) (secondI (Ins.In.mk 0 op width size byReg dst src off imm)) from (if_pos rfl).trans (if_neg hm)]
      exact reads_0 op width size byReg dst src off imm W d0 (by omega) s0 (by omega) hm
  · exact reads_1 op width size byReg dst src off imm W s0 (by omega)
  · exact reads_2 op width size byReg dst src off imm W d0 (by omega) s0 (by omega)
  · exact reads_3 op width size byReg dst src off imm W d0 (by omega) s0 (by omega)
  · exact reads_4 op width size byReg dst src off imm W
  · exact reads_5 op width size byReg dst src off imm W
  · exact reads_6 op width size byReg dst src off imm W
end Go.Proofs.Ythhgcbegcbhaeaa.Mdl

namespace Go.Proofs.Ythhgcbegcbhaeaa.Mdl
open Go.RowKit
set_option linter.unusedVariables false
set_option maxRecDepth 100000

/-- A run between two instructions, in plain numbers; rows and pointers as values. -/
structure Mo where
  prog : Value
  memo : Value
  r : Nat → Int
  set : Int
  at_ : Int
  fuel : Int
  answers : Value
  trace : Value
  fin : Int
/-- Its cells. -/
def Mo.cells (s : Mo) : Array Value := #[s.prog, s.memo, .int .u64 (s.r 0), .int .u64 (s.r 1), .int .u64 (s.r 2), .int .u64 (s.r 3), .int .u64 (s.r 4), .int .u64 (s.r 5), .int .u64 (s.r 6), .int .u64 (s.r 7), .int .u64 (s.r 8), .int .u64 (s.r 9), .int .u64 (s.r 10), .int .i64 s.set, .int .i64 s.at_, .int .i64 s.fuel, s.answers, s.trace, .int .i8 s.fin]
/-- The state's block. -/
def Mo.in_ (s : Mo) (w : World) (g : Nat) : Prop := w.heap[g]? = some (.cells s.cells 76 (0, 0))
theorem Mo.below {s : Mo} {W w : World} {g : Nat} (h : s.in_ W g) (b : Below W.heap.size W w) : s.in_ w g := (b.block _ (Array.getElem?_eq_some_iff.1 h).1).trans h
theorem Mo.reg {s : Mo} {w : World} {g : Nat} (h : s.in_ w g) (k : Nat) (hk : k < 11) : w.cell? ⟨g, 2 + k, none⟩ = some (.int .u64 (s.r k)) := by
  unfold Mo.in_ at h
  simp only [World.cell?, h]
  have c : k = 0 ∨ k = 1 ∨ k = 2 ∨ k = 3 ∨ k = 4 ∨ k = 5 ∨ k = 6 ∨ k = 7 ∨ k = 8 ∨ k = 9 ∨ k = 10 := by omega
  rcases c with rfl | rfl | rfl | rfl | rfl | rfl | rfl | rfl | rfl | rfl | rfl <;> rfl
theorem Mo.c13 {s : Mo} {w : World} {g : Nat} (h : s.in_ w g) : w.cell? ⟨g, 13, none⟩ = some (.int .i64 s.set) := by
  unfold Mo.in_ at h
  simp only [World.cell?, h]; rfl
theorem Mo.c14 {s : Mo} {w : World} {g : Nat} (h : s.in_ w g) : w.cell? ⟨g, 14, none⟩ = some (.int .i64 s.at_) := by
  unfold Mo.in_ at h
  simp only [World.cell?, h]; rfl

set_option maxHeartbeats 1000000 in
theorem mayRead_any (s : Mo) (g : Nat) (m : Int) (W : World) (h : s.in_ W g) :
    Calls Try.prog 40 #[.pointer (some ⟨g, 0, none⟩), .int .i64 m] W fun e w' => e = .returned (.bool (andM s.set m == m)) ∧ W = w' := by
  have c := s.c13 h
  clear h
  go_enter Try.func40, Try.ntmps40
  go_wp2
  go_ret
  exact ⟨rfl, rfl⟩

/-- The second operand. -/
def operandI (s : Mo) (x : Ins.In) : Int := if x.byReg = true then s.r x.src.toNat else x.imm % 18446744073709551616
set_option maxHeartbeats 1000000 in
theorem operand_imm (s : Mo) (g : Nat) (kind op width size dst src off imm : Int) (W : World) (h : s.in_ W g) :
    Calls Try.prog 56 #[.pointer (some ⟨g, 0, none⟩), .agg (Ins.In.mk kind op width size false dst src off imm).cells] W fun e w' => e = .returned (.int .u64 (imm % 18446744073709551616)) ∧ Below W.heap.size W w' := by
  have e : IntKind.u64.wrap imm = imm % 18446744073709551616 := IntKind.wrap_u64 imm
  rw [← e]
  clear e h
  unfold Ins.In.cells
  simp only
  go_enter Try.func56, Try.ntmps56
  go_wp2
  go_ret
  exact ⟨rfl, below_new (Below.refl _ _) _⟩
set_option maxHeartbeats 2000000 in
theorem operand_reg (s : Mo) (g : Nat) (kind op width size dst off imm : Int) (n : Nat) (W : World) (h : s.in_ W g) (hn : n < 11) :
    Calls Try.prog 56 #[.pointer (some ⟨g, 0, none⟩), .agg (Ins.In.mk kind op width size true dst n off imm).cells] W fun e w' => e = .returned (.int .u64 (s.r n)) ∧ Below W.heap.size W w' := by
  have c := s.reg (s.below h (below_new (Below.refl _ W) (.cells (Ins.In.mk kind op width size true dst n off imm).cells 55))) n hn
  have c6 : (W.alloc (.cells (Ins.In.mk kind op width size true dst n off imm).cells 55)).cell? ⟨W.heap.size, 6, none⟩ = some (.int .i8 n) := by
    simp only [World.cell?, heap_last W (.cells (Ins.In.mk kind op width size true dst n off imm).cells 55) _ rfl]; rfl
  clear h
  unfold Ins.In.cells at c c6 ⊢
  simp only at c c6 ⊢
  generalize s.r n = v at *
  go_enter Try.func56, Try.ntmps56
  go_wp2_with fail
  go_quiet (fail)
  go_wp2_with fail
  go_ret
  exact ⟨rfl, below_drewN (below_new (Below.refl _ W) _) _⟩
end Go.Proofs.Ythhgcbegcbhaeaa.Mdl
