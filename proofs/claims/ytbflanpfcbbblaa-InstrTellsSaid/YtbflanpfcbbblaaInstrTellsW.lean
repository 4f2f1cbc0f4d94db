/-
  The walk of the law InstrTells.
-/
import Derived.Test.YtbflanpfcbbblaaRinI
import Derived.Test.YtbflanpfcbbblaaRinH
import Derived.Test.YtbflanpfcbbblaaInstrApartW
namespace Go.Proofs.Ytbflanpfcbbblaa.Ins
open Go.RowKit
set_option linter.unusedVariables false

/-- The bytes of an instruction as a string, none where it may not be. -/
def bytS (x : In) : ByteArray := if mayI x = true then strOf (byteI (packI x)) 8 else strOf (fun _ => 0) 0
/-- The bytes of a program as a string, none where it may not be. -/
def encS (c : Int) (len : Nat) (xs : Nat → In) : ByteArray := if (checkI c len xs).2 = 0 then strOfNums (encN c xs len) else strOf (fun _ => 0) 0
/-- What Bytes yields, told by its string. -/
def ByS (x : In) (W : World) (e : Ending) (w' : World) : Prop :=
  ∃ v, e = .returned (.tuple #[v, .int .i64 (errI (mayI x))]) ∧ Below W.heap.size W w' ∧ ∀ w, Below w'.heap.size w' w → (convert 30 9 v).run Try.prog w = .ok (.string (bytS x)) w
/-- What Encode yields, told by its string. -/
def EnS (c : Int) (len : Nat) (xs : Nat → In) (W : World) (e : Ending) (w' : World) : Prop :=
  ∃ v, e = .returned (.tuple #[v, .int .i64 (checkI c len xs).2]) ∧ Below W.heap.size W w' ∧ ∀ w, Below w'.heap.size w' w → (convert 30 9 v).run Try.prog w = .ok (.string (encS c len xs)) w
theorem bytes_s (x : In) (W : World) : Calls Try.prog 10 #[.agg x.cells] W (ByS x W) := by
  cases h : mayI x
  · refine (bytes_no x W h).mono ?_
    rintro e w ⟨rfl, b⟩
    exact ⟨_, by rw [h]; rfl, b, fun w _ => by rw [show bytS x = strOf (fun _ => 0) 0 from if_neg (by rw [h]; simp)]; exact conv_empty none 0 w⟩
  · refine (bytes_yes x W h).mono ?_
    rintro e w ⟨z, rfl, hz, b, r⟩
    exact ⟨_, by rw [h]; rfl, b, fun w k => by rw [show bytS x = strOf (byteI (packI x)) 8 from if_pos h]; exact conv_row (r.of_block (k.block z r.lt)) 8⟩
theorem r_bytes_s (x : In) (W : World) : Calls Try.prog 11 #[.agg x.cells] W (ByS x W) := by
  cases h : mayI x
  · refine (r_bytes_no x W h).mono ?_
    rintro e w ⟨rfl, b⟩
    exact ⟨_, by rw [h]; rfl, b, fun w _ => by rw [show bytS x = strOf (fun _ => 0) 0 from if_neg (by rw [h]; simp)]; exact conv_empty none 0 w⟩
  · refine (r_bytes_yes x W h).mono ?_
    rintro e w ⟨v, rfl, o, b⟩
    exact ⟨_, by rw [h]; rfl, b, fun w k => by rw [show bytS x = strOf (byteI (packI x)) 8 from if_pos h]; exact conv_own (owns_below o k) (by omega)⟩
theorem encode_s (c : Int) (a : Option Addr) (len cap : Nat) (xs : Nat → In) (W : World) (hx : Insts W a len cap xs) : Calls Try.prog 22 #[.agg #[.int .i64 c, .slice a len cap]] W (EnS c len xs W) := by
  by_cases h : (checkI c len xs).2 = 0
  · have hc := check_ctx h
    refine (encode_yes c a len cap xs W hx h hc.1 hc.2).mono ?_
    rintro e w ⟨v, rfl, o, b⟩
    exact ⟨v, by rw [h], b, fun w k => by rw [show encS c len xs = strOfNums (encN c xs len) from if_pos h]; exact conv_own (owns_below o k) (by omega)⟩
  · refine (encode_no c a len cap xs W hx h).mono ?_
    rintro e w ⟨rfl, b⟩
    exact ⟨_, rfl, b, fun w _ => by rw [show encS c len xs = strOf (fun _ => 0) 0 from if_neg h]; exact conv_empty none 0 w⟩
theorem r_encode_s (c : Int) (a : Option Addr) (len cap : Nat) (xs : Nat → In) (W : World) (hx : Insts W a len cap xs) : Calls Try.prog 23 #[.agg #[.int .i64 c, .slice a len cap]] W (EnS c len xs W) := by
  by_cases h : (checkI c len xs).2 = 0
  · have hc := check_ctx h
    refine (r_encode_yes c a len cap xs W hx h hc.1 hc.2).mono ?_
    rintro e w ⟨v, rfl, o, b⟩
    exact ⟨v, by rw [h], b, fun w k => by rw [show encS c len xs = strOfNums (encN c xs len) from if_pos h]; exact conv_own (owns_below o k) (by omega)⟩
  · refine (r_encode_no c a len cap xs W hx h).mono ?_
    rintro e w ⟨rfl, b⟩
    exact ⟨_, rfl, b, fun w _ => by rw [show encS c len xs = strOf (fun _ => 0) 0 from if_neg h]; exact conv_empty none 0 w⟩

def tlR5 (v1 v2 : Value) (s : ByteArray) (er : Int) (x : In) : Nat → Value → Value → World → Prop
  | 0, v, _, _ => v = v1
  | 1, v, _, _ => v = .string s
  | 2, v, _, _ => v = v2
  | 3, v, _, _ => v = .string s
  | 4, v, _, _ => v = .bool false
  | 5, v, _, _ => v = .bool false
  | 6, v, _, _ => v = .int .i64 er
  | 7, v, _, _ => v = .int .i64 er
  | 8, v, _, _ => v = .bool false
  | 9, v, _, _ => v = .bool false
  | 10, v, _, _ => v = .bool false
  | 11, v, _, _ => v = .agg x.cells
  | 12, v, _, _ => v = .bool (mayI x)
  | 13, v, _, _ => v = .agg x.cells
  | 14, v, _, _ => v = .bool (mayI x)
  | 15, v, _, _ => v = .bool false
  | 16, v, _, _ => v = .bool false
  | _, _, _, _ => True
def tlR11 (tt : Int) (jj : Bool) (ci cr num : Int) (sm : Bool) (c : Int) (a1 : Option Addr) (l1 c1 : Nat) (d : Int) (a2 : Option Addr) (l2 c2 : Nat) : Nat → Value → Value → World → Prop
  | 0, v, _, _ => v = .int .i64 tt
  | 1, v, _, _ => v = .int .i64 tt
  | 2, v, _, _ => v = .bool false
  | 3, v, _, _ => v = .bool false
  | 4, v, _, _ => v = .bool jj
  | 5, v, _, _ => v = .bool jj
  | 6, v, _, _ => v = .bool false
  | 7, v, _, _ => v = .bool false
  | 8, v, _, _ => v = .bool false
  | 9, v, _, _ => v = .int .i64 ci
  | 10, v, _, _ => v = .int .i64 ci
  | 11, v, _, _ => v = .bool false
  | 12, v, _, _ => v = .bool false
  | 13, v, _, _ => v = .bool false
  | 14, v, _, _ => v = .int .i64 cr
  | 15, v, _, _ => v = .int .i64 cr
  | 16, v, _, _ => v = .bool false
  | 17, v, _, _ => v = .bool false
  | 18, v, _, _ => v = .bool false
  | 19, v, _, _ => v = .int .i64 num
  | 20, v, _, _ => v = .int .i64 (argsI num)
  | 21, v, _, _ => v = .int .i64 num
  | 22, v, _, _ => v = .int .i64 (argsI num)
  | 23, v, _, _ => v = .bool false
  | 24, v, _, _ => v = .bool false
  | 25, v, _, _ => v = .bool false
  | 26, v, _, _ => v = .agg #[.int .i64 c, .slice a1 l1 c1]
  | 27, v, _, _ => v = .agg #[.int .i64 d, .slice a2 l2 c2]
  | 28, v, _, _ => v = .bool sm
  | 29, v, _, _ => v = .agg #[.int .i64 c, .slice a1 l1 c1]
  | 30, v, _, _ => v = .agg #[.int .i64 d, .slice a2 l2 c2]
  | 31, v, _, _ => v = .bool sm
  | 32, v, _, _ => v = .bool false
  | 33, v, _, _ => v = .bool false
  | _, _, _, _ => True

theorem tlR5_any {v1 v2 : Value} {s : ByteArray} {er : Int} {x : In} {w w' : World} {j : Nat} {a b : Value} (h : tlR5 v1 v2 s er x j a b w) : tlR5 v1 v2 s er x j a b w' := by
  unfold tlR5 at *
  split at h <;> first | exact h | trivial
theorem tlR11_any {tt : Int} {jj : Bool} {ci cr num : Int} {sm : Bool} {c : Int} {a1 : Option Addr} {l1 c1 : Nat} {d : Int} {a2 : Option Addr} {l2 c2 : Nat} {w w' : World} {j : Nat} {a b : Value} (h : tlR11 tt jj ci cr num sm c a1 l1 c1 d a2 l2 c2 j a b w) : tlR11 tt jj ci cr num sm c a1 l1 c1 d a2 l2 c2 j a b w' := by
  unfold tlR11 at *
  split at h <;> first | exact h | trivial
theorem boxes3 (W : World) (o1 o2 o3 : Obj) : (((W.alloc o1).alloc o2).alloc o3).heap[W.heap.size]? = some o1 ∧ (((W.alloc o1).alloc o2).alloc o3).heap[W.heap.size + 1]? = some o2 ∧ (((W.alloc o1).alloc o2).alloc o3).heap[W.heap.size + 1 + 1]? = some o3 := by
  refine ⟨?_, ?_, ?_⟩
  · rw [heap_past _ _ _ (by simp <;> omega), heap_past _ _ _ (by simp)]; exact heap_last _ _ _ rfl
  · rw [heap_past _ _ _ (by simp)]; exact heap_last _ _ _ (by simp)
  · exact heap_last _ _ _ (by simp)

set_option maxRecDepth 100000 in
set_option maxHeartbeats 16000000 in
theorem tells_main (x : In) (c : Int) (a1 : Option Addr) (l1 c1 : Nat) (xs : Nat → In) (d : Int) (a2 : Option Addr) (l2 c2 : Nat) (ys : Nat → In) (i num : Int) (W : World) (hx : Insts W a1 l1 c1 xs) (hy : Insts W a2 l2 c2 ys) (g1 : ¬ 100 < l1) (g2 : ¬ 100 < l2) :
    Calls Try.prog 3 #[.agg x.cells, .agg #[.int .i64 c, .slice a1 l1 c1], .agg #[.int .i64 d, .slice a2 l2 c2], .int .i64 i, .int .i64 num] W fun e w' => e = .returned (.bool true) ∧ Below W.heap.size W w' := by
  have G1 := great_any c a1 l1 c1
  have G2 := great_any d a2 l2 c2
  rw [decide_eq_false g1] at G1
  rw [decide_eq_false g2] at G2
  have BX := Lib.hid (bytes_s x)
  have BY := Lib.hid (r_bytes_s x)
  have EX := Lib.hid (fun W h => encode_s c a1 l1 c1 xs W h)
  have RX := Lib.hid (fun W h => r_encode_s c a1 l1 c1 xs W h)
  have HG1 := Lib.hid G1; have HG2 := Lib.hid G2
  have HX := Lib.hid hx; have HY := Lib.hid hy
  have i9 : (Try.prog.info? 24).map (·.size) = some x.cells.size := info_ins
  have HI := Lib.hid i9
  clear G1 G2 hx hy i9
  generalize hcx : x.cells = cx at *
  go_enter Try.func3, Try.ntmps3
  go_wp2_with fail
  have B0 := Lib.hid (below_new (below_new (below_new (Below.refl _ W) (.cells cx 24)) (.cells #[.int .i64 c, .slice a1 l1 c1] 27)) (.cells #[.int .i64 d, .slice a2 l2 c2] 27))
  generalize hB : ((W.alloc (.cells cx 24)).alloc (.cells #[.int .i64 c, .slice a1 l1 c1] 27)).alloc (.cells #[.int .i64 d, .slice a2 l2 c2] 27) = wB at *
  have HR := Lib.hid (show _ ∧ _ ∧ _ from hB ▸ boxes3 W (.cells cx 24) (.cells #[.int .i64 c, .slice a1 l1 c1] 27) (.cells #[.int .i64 d, .slice a2 l2 c2] 27))
  clear hB
  have HCX := Lib.hid hcx; clear hcx
  refine (HG1.out _).mono ?_
  rintro e w1 ⟨rfl, b1⟩
  obtain ⟨q0, q1⟩ := two_cells (row_keep HR.out.2.2 b1)
  have K1 := Lib.hid b1; clear b1
  go_wp2_with fail
  refine (HG2.out _).mono ?_
  rintro e w2 ⟨rfl, b2⟩
  have K2 := Lib.hid (below_call K1.out b2)
  clear b2 q0 q1 K1
  have RY := Lib.hid (row_keep HR.out.1 K2.out)
  go_wp2_with (refine (halt_load 24 _ rfl ?_))
  refine ⟨?_, trivial⟩
  refine wpList_load_row rfl 24 _ rfl W.heap.size rfl _ cx _ _ RY.out Try.underlying24 rfl HI.out ?_
  go_wp2_with fail
  refine (BX.out _).mono ?_
  rintro e w3 ⟨v1, rfl, b3, f1⟩
  have K3 := Lib.hid (below_call K2.out b3)
  have RZ := Lib.hid (row_keep RY.out b3)
  have F1 := Lib.hid f1
  clear b3 K2 RY f1
  go_wp2_with (refine (halt_load 24 _ rfl ?_))
  refine ⟨?_, trivial⟩
  refine wpList_load_row rfl 24 _ rfl W.heap.size rfl _ cx _ _ RZ.out Try.underlying24 rfl HI.out ?_
  go_wp2_with fail
  refine (BY.out _).mono ?_
  rintro e w4 ⟨v2, rfl, b4, f2⟩
  have K4 := Lib.hid (below_call K3.out b4)
  have HC := Lib.hid (show (∀ w, Below w4.heap.size w4 w → (convert 30 9 v1).run Try.prog w = .ok (.string (bytS x)) w) ∧ (∀ w, Below w4.heap.size w4 w → (convert 30 9 v2).run Try.prog w = .ok (.string (bytS x)) w) from ⟨fun w k => F1.out w (below_call b4 k), f2⟩)
  obtain rfl := HCX.out
  have HB := Lib.hid (show ∀ w, Below w4.heap.size w4 w → w.heap[W.heap.size]? = some (.cells x.cells 24 (0, 0)) from fun w h => row_keep (row_keep HR.out.1 K4.out) h)
  clear b4 f2 F1 K3 RZ BX BY HCX
  generalize bytS x = s at *
  generalize herr : errI (mayI x) = er at *
  go_wp2_with fail
  refine wp_region_inv (fun _ => 100000) (fun w => Below w4.heap.size w4 w) (tlR5 v1 v2 s er x) (by kernel_rfl) (back_of (by kernel_rfl)) (dst_of (by kernel_rfl)) (dep_of (by kernel_rfl)) (in_of (by kernel_rfl)) (Below.drew (Below.refl _ _)) ?hop ?hq
  case hop =>
    intro i o a w ho hS hdf hsz hrest hdone
    have t5 : a.tmps.getD 5 undef = .pointer (some ⟨W.heap.size, 0, none⟩) := hrest 5 (not_of (by kernel_rfl))
    have t11 : a.tmps.getD 11 undef = v1 := hrest 11 (not_of (by kernel_rfl))
    have t12 : a.tmps.getD 12 undef = .int .i64 er := hrest 12 (not_of (by kernel_rfl))
    have t13 : a.tmps.getD 13 undef = v2 := hrest 13 (not_of (by kernel_rfl))
    have t14 : a.tmps.getD 14 undef = .int .i64 er := hrest 14 (not_of (by kernel_rfl))
    have hs : a.tmps.size = 134 := hsz.trans rfl
    have hi : i < 17 := (Array.getElem?_eq_some_iff.1 ho).1
    clear hrest hsz hdf
    obtain rfl | rfl | rfl | rfl | rfl | rfl | rfl | rfl | rfl | rfl | rfl | rfl | rfl | rfl | rfl | rfl | rfl : i = 0 ∨ i = 1 ∨ i = 2 ∨ i = 3 ∨ i = 4 ∨ i = 5 ∨ i = 6 ∨ i = 7 ∨ i = 8 ∨ i = 9 ∨ i = 10 ∨ i = 11 ∨ i = 12 ∨ i = 13 ∨ i = 14 ∨ i = 15 ∨ i = 16 := by omega
    · obtain rfl := Option.some.inj (show some _ = some o from ho)
      refine wpOp_val (v := v1) (w' := w) rfl rfl ?_ ⟨_, rfl, ?_, hS, fun _ _ _ h => h⟩
      · simp [execOp, Act.eval, t11]
      · rw [own_put rfl (by rw [hs]; omega)]; exact rfl
    · obtain rfl := Option.some.inj (show some _ = some o from ho)
      have s38 : a.tmps.getD 38 undef = v1 := hdone _ (Array.mem_of_getElem? (i := 0) rfl) rfl _ rfl
      refine wpOp_val (v := .string s) (w' := w) rfl rfl ?_ ⟨_, rfl, ?_, hS, fun _ _ _ h => h⟩
      · (have hq := HC.out.1 w hS; simp [execOp, Act.eval, s38, hq])
      · rw [own_put rfl (by rw [hs]; omega)]; exact rfl
    · obtain rfl := Option.some.inj (show some _ = some o from ho)
      refine wpOp_val (v := v2) (w' := w) rfl rfl ?_ ⟨_, rfl, ?_, hS, fun _ _ _ h => h⟩
      · simp [execOp, Act.eval, t13]
      · rw [own_put rfl (by rw [hs]; omega)]; exact rfl
    · obtain rfl := Option.some.inj (show some _ = some o from ho)
      have s40 : a.tmps.getD 40 undef = v2 := hdone _ (Array.mem_of_getElem? (i := 0) rfl) rfl _ rfl
      refine wpOp_val (v := .string s) (w' := w) rfl rfl ?_ ⟨_, rfl, ?_, hS, fun _ _ _ h => h⟩
      · (have hq := HC.out.2 w hS; simp [execOp, Act.eval, s40, hq])
      · rw [own_put rfl (by rw [hs]; omega)]; exact rfl
    · obtain rfl := Option.some.inj (show some _ = some o from ho)
      have s39 : a.tmps.getD 39 undef = .string s := hdone _ (Array.mem_of_getElem? (i := 0) rfl) rfl _ rfl
      have s41 : a.tmps.getD 41 undef = .string s := hdone _ (Array.mem_of_getElem? (i := 1) rfl) rfl _ rfl
      refine wpOp_val (v := .bool false) (w' := w) rfl rfl ?_ ⟨_, rfl, ?_, hS, fun _ _ _ h => h⟩
      · simp [execOp, Act.eval, s39, s41, go_sem]
      · rw [own_put rfl (by rw [hs]; omega)]; exact rfl
    · obtain rfl := Option.some.inj (show some _ = some o from ho)
      have s42 : a.tmps.getD 42 undef = .bool false := hdone _ (Array.mem_of_getElem? (i := 0) rfl) rfl _ rfl
      refine wpOp_val (v := .bool false) (w' := w) rfl rfl ?_ ⟨_, rfl, ?_, hS, fun _ _ _ h => h⟩
      · simp [execOp, Act.eval, s42]
      · rw [own_put rfl (by rw [hs]; omega)]; exact rfl
    · obtain rfl := Option.some.inj (show some _ = some o from ho)
      have hg : a.tmps.getD 43 undef = .bool (false) := hdone _ (Array.mem_of_getElem? (i := 0) rfl) rfl _ rfl
      refine wpOp_valw (v := .int .i64 er) (w' := w) rfl (wanted_yes 5 43 false hg (by rw [hs]; omega) rfl rfl rfl rfl) ?_ ⟨_, rfl, ?_, hS, fun _ _ _ h => h⟩
      · simp [execOp, Act.eval, t12]
      · rw [own_put rfl (by rw [hs]; omega)]; exact rfl
    · obtain rfl := Option.some.inj (show some _ = some o from ho)
      have hg : a.tmps.getD 43 undef = .bool (false) := hdone _ (Array.mem_of_getElem? (i := 0) rfl) rfl _ rfl
      refine wpOp_valw (v := .int .i64 er) (w' := w) rfl (wanted_yes 5 43 false hg (by rw [hs]; omega) rfl rfl rfl rfl) ?_ ⟨_, rfl, ?_, hS, fun _ _ _ h => h⟩
      · simp [execOp, Act.eval, t14]
      · rw [own_put rfl (by rw [hs]; omega)]; exact rfl
    · obtain rfl := Option.some.inj (show some _ = some o from ho)
      have s44 : a.tmps.getD 44 undef = .int .i64 er := hdone _ (Array.mem_of_getElem? (i := 0) rfl) rfl _ rfl
      have s45 : a.tmps.getD 45 undef = .int .i64 er := hdone _ (Array.mem_of_getElem? (i := 1) rfl) rfl _ rfl
      have hg : a.tmps.getD 43 undef = .bool (false) := hdone _ (Array.mem_of_getElem? (i := 2) rfl) rfl _ rfl
      refine wpOp_valw (v := .bool false) (w' := w) rfl (wanted_yes 5 43 false hg (by rw [hs]; omega) rfl rfl rfl rfl) ?_ ⟨_, rfl, ?_, hS, fun _ _ _ h => h⟩
      · simp [execOp, Act.eval, s44, s45, go_sem]
      · rw [own_put rfl (by rw [hs]; omega)]; exact rfl
    · obtain rfl := Option.some.inj (show some _ = some o from ho)
      have s43 : a.tmps.getD 43 undef = .bool false := hdone _ (Array.mem_of_getElem? (i := 0) rfl) rfl _ rfl
      have s46 : a.tmps.getD 46 undef = .bool false := hdone _ (Array.mem_of_getElem? (i := 1) rfl) rfl _ rfl
      refine wpOp_val (v := .bool false) (w' := w) rfl rfl ?_ ⟨_, rfl, ?_, hS, fun _ _ _ h => h⟩
      · simp [execOp, Act.eval, s43, s46, go_sem]
      · rw [own_put rfl (by rw [hs]; omega)]; exact rfl
    · obtain rfl := Option.some.inj (show some _ = some o from ho)
      have s47 : a.tmps.getD 47 undef = .bool false := hdone _ (Array.mem_of_getElem? (i := 0) rfl) rfl _ rfl
      refine wpOp_val (v := .bool false) (w' := w) rfl rfl ?_ ⟨_, rfl, ?_, hS, fun _ _ _ h => h⟩
      · simp [execOp, Act.eval, s47]
      · rw [own_put rfl (by rw [hs]; omega)]; exact rfl
    · obtain rfl := Option.some.inj (show some _ = some o from ho)
      have hg : a.tmps.getD 48 undef = .bool (false) := hdone _ (Array.mem_of_getElem? (i := 0) rfl) rfl _ rfl
      refine wpOp_valw (v := .agg x.cells) (w' := w) rfl (wanted_yes 10 48 false hg (by rw [hs]; omega) rfl rfl rfl rfl) ?_ ⟨_, rfl, ?_, hS, fun _ _ _ h => h⟩
      · simp [execOp, Act.eval, t5, Instr.loadAt, Instr.sureAddr, load_boxed x (HB.out w hS), Result.andThen_ok]
      · rw [own_put rfl (by rw [hs]; omega)]; exact rfl
    · obtain rfl := Option.some.inj (show some _ = some o from ho)
      have s49 : a.tmps.getD 49 undef = .agg x.cells := hdone _ (Array.mem_of_getElem? (i := 0) rfl) rfl _ rfl
      have hg : a.tmps.getD 48 undef = .bool (false) := hdone _ (Array.mem_of_getElem? (i := 1) rfl) rfl _ rfl
      refine wpOp_callw (f := 12) (args := #[.agg x.cells]) rfl (wanted_yes 10 48 false hg (by rw [hs]; omega) rfl rfl rfl rfl) ?_ ?_
      · simp [go_sem, execOp, Act.eval, Deferred.ofValue, callFunc, Try.func12, Try.f12, s49, resolve, invoke]
      · refine (may_any x _).mono ?_
        rintro e w' ⟨rfl, b9⟩
        refine ⟨_, rfl, _, rfl, ?_, below_call hS b9, fun _ _ _ h => tlR5_any h⟩
        rw [own_put rfl (by rw [hs]; omega)]; exact rfl
    · obtain rfl := Option.some.inj (show some _ = some o from ho)
      have hg : a.tmps.getD 48 undef = .bool (false) := hdone _ (Array.mem_of_getElem? (i := 0) rfl) rfl _ rfl
      refine wpOp_valw (v := .agg x.cells) (w' := w) rfl (wanted_yes 10 48 false hg (by rw [hs]; omega) rfl rfl rfl rfl) ?_ ⟨_, rfl, ?_, hS, fun _ _ _ h => h⟩
      · simp [execOp, Act.eval, t5, Instr.loadAt, Instr.sureAddr, load_boxed x (HB.out w hS), Result.andThen_ok]
      · rw [own_put rfl (by rw [hs]; omega)]; exact rfl
    · obtain rfl := Option.some.inj (show some _ = some o from ho)
      have s51 : a.tmps.getD 51 undef = .agg x.cells := hdone _ (Array.mem_of_getElem? (i := 0) rfl) rfl _ rfl
      have hg : a.tmps.getD 48 undef = .bool (false) := hdone _ (Array.mem_of_getElem? (i := 2) rfl) rfl _ rfl
      refine wpOp_callw (f := 13) (args := #[.agg x.cells]) rfl (wanted_yes 10 48 false hg (by rw [hs]; omega) rfl rfl rfl rfl) ?_ ?_
      · simp [go_sem, execOp, Act.eval, Deferred.ofValue, callFunc, Try.func13, Try.f13, s51, resolve, invoke]
      · refine (r_may x _).mono ?_
        rintro e w' ⟨rfl, b9⟩
        refine ⟨_, rfl, _, rfl, ?_, below_call hS b9, fun _ _ _ h => tlR5_any h⟩
        rw [own_put rfl (by rw [hs]; omega)]; exact rfl
    · obtain rfl := Option.some.inj (show some _ = some o from ho)
      have s50 : a.tmps.getD 50 undef = .bool (mayI x) := hdone _ (Array.mem_of_getElem? (i := 0) rfl) rfl _ rfl
      have s52 : a.tmps.getD 52 undef = .bool (mayI x) := hdone _ (Array.mem_of_getElem? (i := 1) rfl) rfl _ rfl
      have hg : a.tmps.getD 48 undef = .bool (false) := hdone _ (Array.mem_of_getElem? (i := 2) rfl) rfl _ rfl
      refine wpOp_valw (v := .bool false) (w' := w) rfl (wanted_yes 10 48 false hg (by rw [hs]; omega) rfl rfl rfl rfl) ?_ ⟨_, rfl, ?_, hS, fun _ _ _ h => h⟩
      · simp [execOp, Act.eval, s50, s52, go_sem]
      · rw [own_put rfl (by rw [hs]; omega)]; exact rfl
    · obtain rfl := Option.some.inj (show some _ = some o from ho)
      have s48 : a.tmps.getD 48 undef = .bool false := hdone _ (Array.mem_of_getElem? (i := 0) rfl) rfl _ rfl
      have s53 : a.tmps.getD 53 undef = .bool false := hdone _ (Array.mem_of_getElem? (i := 1) rfl) rfl _ rfl
      refine wpOp_val (v := .bool false) (w' := w) rfl rfl ?_ ⟨_, rfl, ?_, hS, fun _ _ _ h => h⟩
      · simp [execOp, Act.eval, s48, s53, go_sem]
      · rw [own_put rfl (by rw [hs]; omega)]; exact rfl
  case hq =>
    intro u w' hS hR
    have f : u 54 = .bool false := hR 16 _ rfl
    clear hR
    rw [show outs _ u = [(38, u 38), (39, u 39), (40, u 40), (41, u 41), (42, u 42), (43, u 43), (44, u 44), (45, u 45), (46, u 46), (47, u 47), (48, u 48), (49, u 49), (50, u 50), (51, u 51), (52, u 52), (53, u 53), (54, u 54)] by kernel_rfl, f]
    simp only [putAll, List.setIfInBounds_toArray, List.set_cons_zero, List.set_cons_succ]
    generalize u 38 = x38; generalize u 39 = x39; generalize u 40 = x40; generalize u 41 = x41; generalize u 42 = x42; generalize u 43 = x43; generalize u 44 = x44; generalize u 45 = x45; generalize u 46 = x46; generalize u 47 = x47; generalize u 48 = x48; generalize u 49 = x49; generalize u 50 = x50; generalize u 51 = x51; generalize u 52 = x52; generalize u 53 = x53
    clear f u
    clear HC
    have K5 := Lib.hid (below_call K4.out hS)
    clear K4 hS
    have IC := Lib.hid (show (Try.prog.info? 24).map (·.size) = some x.cells.size from info_ins)
    have TG := Lib.hid (fun W => target_any i x W)
    have RT := Lib.hid (fun W => r_target i x W)
    have R5 := Lib.hid (row_keep HR.out.1 K5.out)
    have HR1 := Lib.hid HR.out.1
    have XC := Lib.hid (show x.cells = x.cells from rfl)
    generalize targetI i x = tt at *
    generalize jumpsI i x = jj at *
    clear HB
    go_wp2_with (refine (halt_load 24 _ rfl ?_))
    refine ⟨?_, trivial⟩
    refine wpList_load_row rfl 24 _ rfl W.heap.size rfl _ x.cells _ _ R5.out Try.underlying24 rfl IC.out ?_
    generalize x.cells = cx at *
    go_wp2_with fail
    refine (TG.out _).mono ?_
    rintro e w5 ⟨rfl, b5⟩
    have K6 := Lib.hid (below_call K5.out b5)
    have R6 := Lib.hid (row_keep R5.out b5)
    clear b5 R5 K5 TG
    go_wp2_with (refine (halt_load 24 _ rfl ?_))
    refine ⟨?_, trivial⟩
    refine wpList_load_row rfl 24 _ rfl W.heap.size rfl _ cx _ _ R6.out Try.underlying24 rfl IC.out ?_
    go_wp2_with fail
    refine (RT.out _).mono ?_
    rintro e w6 ⟨rfl, b6⟩
    have K7 := Lib.hid (below_call K6.out b6)
    clear b6 R6 K6 RT IC XC HR1
    obtain ⟨q0, q1⟩ := two_cells (row_keep HR.out.2.1 K7.out)
    have CK := Lib.hid (fun w h => check_any c a1 l1 c1 xs w h)
    have RK := Lib.hid (fun w h => r_check c a1 l1 c1 xs w h)
    generalize hcr : (checkI c l1 xs).2 = cr at *
    generalize (checkI c l1 xs).1 = ci at *
    go_wp2_with fail
    refine (CK.out _ (HX.out.below (below_call B0.out K7.out))).mono ?_
    rintro e w7 ⟨rfl, b7⟩
    have K7b := Lib.hid (below_call K7.out b7)
    clear b7 q0 q1 K7 CK
    obtain ⟨q0, q1⟩ := two_cells (row_keep HR.out.2.1 K7b.out)
    go_wp2_with fail
    refine (RK.out _ (HX.out.below (below_call B0.out K7b.out))).mono ?_
    rintro e w8 ⟨rfl, b8⟩
    have K8 := Lib.hid (below_call K7b.out b8)
    clear b8 q0 q1 K7b RK
    have W8 := Lib.hid (below_call B0.out K8.out)
    have HB := Lib.hid (show (∀ w, Below w8.heap.size w8 w → w.heap[W.heap.size + 1]? = some (.cells #[.int .i64 c, .slice a1 l1 c1] 27 (0, 0))) ∧ (∀ w, Below w8.heap.size w8 w → w.heap[W.heap.size + 1 + 1]? = some (.cells #[.int .i64 d, .slice a2 l2 c2] 27 (0, 0))) from ⟨fun w h => row_keep (row_keep HR.out.2.1 K8.out) h, fun w h => row_keep (row_keep HR.out.2.2 K8.out) h⟩)
    have SM := Lib.hid (fun (w : World) (h : Below w8.heap.size w8 w) => same_any c a1 l1 c1 xs d a2 l2 c2 ys w (HX.out.below (below_call W8.out h)) (HY.out.below (below_call W8.out h)))
    have RS := Lib.hid (fun (w : World) (h : Below w8.heap.size w8 w) => r_same c a1 l1 c1 xs d a2 l2 c2 ys w (HX.out.below (below_call W8.out h)) (HY.out.below (below_call W8.out h)))
    generalize sameI c d l1 l2 xs ys = sm at *
    have HC : Hid True := Lib.hid trivial
    go_wp2_with fail
    refine wp_region_inv (fun _ => 100000) (fun w => Below w8.heap.size w8 w) (tlR11 tt jj ci cr num sm c a1 l1 c1 d a2 l2 c2) (by kernel_rfl) (back_of (by kernel_rfl)) (dst_of (by kernel_rfl)) (dep_of (by kernel_rfl)) (in_of (by kernel_rfl)) (Below.drew (Below.refl _ _)) ?hop ?hq
    case hop =>
      intro i o a w ho hS hdf hsz hrest hdone
      have t4 : a.tmps.getD 4 undef = .int .i64 num := hrest 4 (not_of (by kernel_rfl))
      have t6 : a.tmps.getD 6 undef = .pointer (some ⟨W.heap.size + 1, 0, none⟩) := hrest 6 (not_of (by kernel_rfl))
      have t7 : a.tmps.getD 7 undef = .pointer (some ⟨W.heap.size + 1 + 1, 0, none⟩) := hrest 7 (not_of (by kernel_rfl))
      have t12 : a.tmps.getD 12 undef = .int .i64 cr := hrest 12 (not_of (by kernel_rfl))
      have t14 : a.tmps.getD 14 undef = .int .i64 cr := hrest 14 (not_of (by kernel_rfl))
      have t15 : a.tmps.getD 15 undef = .int .i64 tt := hrest 15 (not_of (by kernel_rfl))
      have t16 : a.tmps.getD 16 undef = .bool jj := hrest 16 (not_of (by kernel_rfl))
      have t17 : a.tmps.getD 17 undef = .int .i64 tt := hrest 17 (not_of (by kernel_rfl))
      have t18 : a.tmps.getD 18 undef = .bool jj := hrest 18 (not_of (by kernel_rfl))
      have t19 : a.tmps.getD 19 undef = .int .i64 ci := hrest 19 (not_of (by kernel_rfl))
      have t20 : a.tmps.getD 20 undef = .int .i64 ci := hrest 20 (not_of (by kernel_rfl))
      have hs : a.tmps.size = 134 := hsz.trans rfl
      have hi : i < 34 := (Array.getElem?_eq_some_iff.1 ho).1
      clear hrest hsz hdf
      obtain rfl | rfl | rfl | rfl | rfl | rfl | rfl | rfl | rfl | rfl | rfl | rfl | rfl | rfl | rfl | rfl | rfl | rfl | rfl | rfl | rfl | rfl | rfl | rfl | rfl | rfl | rfl | rfl | rfl | rfl | rfl | rfl | rfl | rfl : i = 0 ∨ i = 1 ∨ i = 2 ∨ i = 3 ∨ i = 4 ∨ i = 5 ∨ i = 6 ∨ i = 7 ∨ i = 8 ∨ i = 9 ∨ i = 10 ∨ i = 11 ∨ i = 12 ∨ i = 13 ∨ i = 14 ∨ i = 15 ∨ i = 16 ∨ i = 17 ∨ i = 18 ∨ i = 19 ∨ i = 20 ∨ i = 21 ∨ i = 22 ∨ i = 23 ∨ i = 24 ∨ i = 25 ∨ i = 26 ∨ i = 27 ∨ i = 28 ∨ i = 29 ∨ i = 30 ∨ i = 31 ∨ i = 32 ∨ i = 33 := by omega
      · obtain rfl := Option.some.inj (show some _ = some o from ho)
        refine wpOp_val (v := .int .i64 tt) (w' := w) rfl rfl ?_ ⟨_, rfl, ?_, hS, fun _ _ _ h => h⟩
        · simp [execOp, Act.eval, t15]
        · rw [own_put rfl (by rw [hs]; omega)]; exact rfl
      · obtain rfl := Option.some.inj (show some _ = some o from ho)
        refine wpOp_val (v := .int .i64 tt) (w' := w) rfl rfl ?_ ⟨_, rfl, ?_, hS, fun _ _ _ h => h⟩
        · simp [execOp, Act.eval, t17]
        · rw [own_put rfl (by rw [hs]; omega)]; exact rfl
      · obtain rfl := Option.some.inj (show some _ = some o from ho)
        have s77 : a.tmps.getD 77 undef = .int .i64 tt := hdone _ (Array.mem_of_getElem? (i := 0) rfl) rfl _ rfl
        have s78 : a.tmps.getD 78 undef = .int .i64 tt := hdone _ (Array.mem_of_getElem? (i := 1) rfl) rfl _ rfl
        refine wpOp_val (v := .bool false) (w' := w) rfl rfl ?_ ⟨_, rfl, ?_, hS, fun _ _ _ h => h⟩
        · simp [execOp, Act.eval, s77, s78, go_sem]
        · rw [own_put rfl (by rw [hs]; omega)]; exact rfl
      · obtain rfl := Option.some.inj (show some _ = some o from ho)
        have s79 : a.tmps.getD 79 undef = .bool false := hdone _ (Array.mem_of_getElem? (i := 0) rfl) rfl _ rfl
        refine wpOp_val (v := .bool false) (w' := w) rfl rfl ?_ ⟨_, rfl, ?_, hS, fun _ _ _ h => h⟩
        · simp [execOp, Act.eval, s79]
        · rw [own_put rfl (by rw [hs]; omega)]; exact rfl
      · obtain rfl := Option.some.inj (show some _ = some o from ho)
        have hg : a.tmps.getD 80 undef = .bool (false) := hdone _ (Array.mem_of_getElem? (i := 0) rfl) rfl _ rfl
        refine wpOp_valw (v := .bool jj) (w' := w) rfl (wanted_yes 3 80 false hg (by rw [hs]; omega) rfl rfl rfl rfl) ?_ ⟨_, rfl, ?_, hS, fun _ _ _ h => h⟩
        · simp [execOp, Act.eval, t16]
        · rw [own_put rfl (by rw [hs]; omega)]; exact rfl
      · obtain rfl := Option.some.inj (show some _ = some o from ho)
        have hg : a.tmps.getD 80 undef = .bool (false) := hdone _ (Array.mem_of_getElem? (i := 0) rfl) rfl _ rfl
        refine wpOp_valw (v := .bool jj) (w' := w) rfl (wanted_yes 3 80 false hg (by rw [hs]; omega) rfl rfl rfl rfl) ?_ ⟨_, rfl, ?_, hS, fun _ _ _ h => h⟩
        · simp [execOp, Act.eval, t18]
        · rw [own_put rfl (by rw [hs]; omega)]; exact rfl
      · obtain rfl := Option.some.inj (show some _ = some o from ho)
        have s81 : a.tmps.getD 81 undef = .bool jj := hdone _ (Array.mem_of_getElem? (i := 0) rfl) rfl _ rfl
        have s82 : a.tmps.getD 82 undef = .bool jj := hdone _ (Array.mem_of_getElem? (i := 1) rfl) rfl _ rfl
        have hg : a.tmps.getD 80 undef = .bool (false) := hdone _ (Array.mem_of_getElem? (i := 2) rfl) rfl _ rfl
        refine wpOp_valw (v := .bool false) (w' := w) rfl (wanted_yes 3 80 false hg (by rw [hs]; omega) rfl rfl rfl rfl) ?_ ⟨_, rfl, ?_, hS, fun _ _ _ h => h⟩
        · simp [execOp, Act.eval, s81, s82, go_sem]
        · rw [own_put rfl (by rw [hs]; omega)]; exact rfl
      · obtain rfl := Option.some.inj (show some _ = some o from ho)
        have s80 : a.tmps.getD 80 undef = .bool false := hdone _ (Array.mem_of_getElem? (i := 0) rfl) rfl _ rfl
        have s83 : a.tmps.getD 83 undef = .bool false := hdone _ (Array.mem_of_getElem? (i := 1) rfl) rfl _ rfl
        refine wpOp_val (v := .bool false) (w' := w) rfl rfl ?_ ⟨_, rfl, ?_, hS, fun _ _ _ h => h⟩
        · simp [execOp, Act.eval, s80, s83, go_sem]
        · rw [own_put rfl (by rw [hs]; omega)]; exact rfl
      · obtain rfl := Option.some.inj (show some _ = some o from ho)
        have s84 : a.tmps.getD 84 undef = .bool false := hdone _ (Array.mem_of_getElem? (i := 0) rfl) rfl _ rfl
        refine wpOp_val (v := .bool false) (w' := w) rfl rfl ?_ ⟨_, rfl, ?_, hS, fun _ _ _ h => h⟩
        · simp [execOp, Act.eval, s84]
        · rw [own_put rfl (by rw [hs]; omega)]; exact rfl
      · obtain rfl := Option.some.inj (show some _ = some o from ho)
        have hg : a.tmps.getD 85 undef = .bool (false) := hdone _ (Array.mem_of_getElem? (i := 0) rfl) rfl _ rfl
        refine wpOp_valw (v := .int .i64 ci) (w' := w) rfl (wanted_yes 8 85 false hg (by rw [hs]; omega) rfl rfl rfl rfl) ?_ ⟨_, rfl, ?_, hS, fun _ _ _ h => h⟩
        · simp [execOp, Act.eval, t19]
        · rw [own_put rfl (by rw [hs]; omega)]; exact rfl
      · obtain rfl := Option.some.inj (show some _ = some o from ho)
        have hg : a.tmps.getD 85 undef = .bool (false) := hdone _ (Array.mem_of_getElem? (i := 0) rfl) rfl _ rfl
        refine wpOp_valw (v := .int .i64 ci) (w' := w) rfl (wanted_yes 8 85 false hg (by rw [hs]; omega) rfl rfl rfl rfl) ?_ ⟨_, rfl, ?_, hS, fun _ _ _ h => h⟩
        · simp [execOp, Act.eval, t20]
        · rw [own_put rfl (by rw [hs]; omega)]; exact rfl
      · obtain rfl := Option.some.inj (show some _ = some o from ho)
        have s86 : a.tmps.getD 86 undef = .int .i64 ci := hdone _ (Array.mem_of_getElem? (i := 0) rfl) rfl _ rfl
        have s87 : a.tmps.getD 87 undef = .int .i64 ci := hdone _ (Array.mem_of_getElem? (i := 1) rfl) rfl _ rfl
        have hg : a.tmps.getD 85 undef = .bool (false) := hdone _ (Array.mem_of_getElem? (i := 2) rfl) rfl _ rfl
        refine wpOp_valw (v := .bool false) (w' := w) rfl (wanted_yes 8 85 false hg (by rw [hs]; omega) rfl rfl rfl rfl) ?_ ⟨_, rfl, ?_, hS, fun _ _ _ h => h⟩
        · simp [execOp, Act.eval, s86, s87, go_sem]
        · rw [own_put rfl (by rw [hs]; omega)]; exact rfl
      · obtain rfl := Option.some.inj (show some _ = some o from ho)
        have s85 : a.tmps.getD 85 undef = .bool false := hdone _ (Array.mem_of_getElem? (i := 0) rfl) rfl _ rfl
        have s88 : a.tmps.getD 88 undef = .bool false := hdone _ (Array.mem_of_getElem? (i := 1) rfl) rfl _ rfl
        refine wpOp_val (v := .bool false) (w' := w) rfl rfl ?_ ⟨_, rfl, ?_, hS, fun _ _ _ h => h⟩
        · simp [execOp, Act.eval, s85, s88, go_sem]
        · rw [own_put rfl (by rw [hs]; omega)]; exact rfl
      · obtain rfl := Option.some.inj (show some _ = some o from ho)
        have s89 : a.tmps.getD 89 undef = .bool false := hdone _ (Array.mem_of_getElem? (i := 0) rfl) rfl _ rfl
        refine wpOp_val (v := .bool false) (w' := w) rfl rfl ?_ ⟨_, rfl, ?_, hS, fun _ _ _ h => h⟩
        · simp [execOp, Act.eval, s89]
        · rw [own_put rfl (by rw [hs]; omega)]; exact rfl
      · obtain rfl := Option.some.inj (show some _ = some o from ho)
        have hg : a.tmps.getD 90 undef = .bool (false) := hdone _ (Array.mem_of_getElem? (i := 0) rfl) rfl _ rfl
        refine wpOp_valw (v := .int .i64 cr) (w' := w) rfl (wanted_yes 13 90 false hg (by rw [hs]; omega) rfl rfl rfl rfl) ?_ ⟨_, rfl, ?_, hS, fun _ _ _ h => h⟩
        · simp [execOp, Act.eval, t12]
        · rw [own_put rfl (by rw [hs]; omega)]; exact rfl
      · obtain rfl := Option.some.inj (show some _ = some o from ho)
        have hg : a.tmps.getD 90 undef = .bool (false) := hdone _ (Array.mem_of_getElem? (i := 0) rfl) rfl _ rfl
        refine wpOp_valw (v := .int .i64 cr) (w' := w) rfl (wanted_yes 13 90 false hg (by rw [hs]; omega) rfl rfl rfl rfl) ?_ ⟨_, rfl, ?_, hS, fun _ _ _ h => h⟩
        · simp [execOp, Act.eval, t14]
        · rw [own_put rfl (by rw [hs]; omega)]; exact rfl
      · obtain rfl := Option.some.inj (show some _ = some o from ho)
        have s91 : a.tmps.getD 91 undef = .int .i64 cr := hdone _ (Array.mem_of_getElem? (i := 0) rfl) rfl _ rfl
        have s92 : a.tmps.getD 92 undef = .int .i64 cr := hdone _ (Array.mem_of_getElem? (i := 1) rfl) rfl _ rfl
        have hg : a.tmps.getD 90 undef = .bool (false) := hdone _ (Array.mem_of_getElem? (i := 2) rfl) rfl _ rfl
        refine wpOp_valw (v := .bool false) (w' := w) rfl (wanted_yes 13 90 false hg (by rw [hs]; omega) rfl rfl rfl rfl) ?_ ⟨_, rfl, ?_, hS, fun _ _ _ h => h⟩
        · simp [execOp, Act.eval, s91, s92, go_sem]
        · rw [own_put rfl (by rw [hs]; omega)]; exact rfl
      · obtain rfl := Option.some.inj (show some _ = some o from ho)
        have s90 : a.tmps.getD 90 undef = .bool false := hdone _ (Array.mem_of_getElem? (i := 0) rfl) rfl _ rfl
        have s93 : a.tmps.getD 93 undef = .bool false := hdone _ (Array.mem_of_getElem? (i := 1) rfl) rfl _ rfl
        refine wpOp_val (v := .bool false) (w' := w) rfl rfl ?_ ⟨_, rfl, ?_, hS, fun _ _ _ h => h⟩
        · simp [execOp, Act.eval, s90, s93, go_sem]
        · rw [own_put rfl (by rw [hs]; omega)]; exact rfl
      · obtain rfl := Option.some.inj (show some _ = some o from ho)
        have s94 : a.tmps.getD 94 undef = .bool false := hdone _ (Array.mem_of_getElem? (i := 0) rfl) rfl _ rfl
        refine wpOp_val (v := .bool false) (w' := w) rfl rfl ?_ ⟨_, rfl, ?_, hS, fun _ _ _ h => h⟩
        · simp [execOp, Act.eval, s94]
        · rw [own_put rfl (by rw [hs]; omega)]; exact rfl
      · obtain rfl := Option.some.inj (show some _ = some o from ho)
        have hg : a.tmps.getD 95 undef = .bool (false) := hdone _ (Array.mem_of_getElem? (i := 0) rfl) rfl _ rfl
        refine wpOp_valw (v := .int .i64 num) (w' := w) rfl (wanted_yes 18 95 false hg (by rw [hs]; omega) rfl rfl rfl rfl) ?_ ⟨_, rfl, ?_, hS, fun _ _ _ h => h⟩
        · simp [execOp, Act.eval, t4]
        · rw [own_put rfl (by rw [hs]; omega)]; exact rfl
      · obtain rfl := Option.some.inj (show some _ = some o from ho)
        have s96 : a.tmps.getD 96 undef = .int .i64 num := hdone _ (Array.mem_of_getElem? (i := 0) rfl) rfl _ rfl
        have hg : a.tmps.getD 95 undef = .bool (false) := hdone _ (Array.mem_of_getElem? (i := 1) rfl) rfl _ rfl
        refine wpOp_callw (f := 18) (args := #[.int .i64 num]) rfl (wanted_yes 18 95 false hg (by rw [hs]; omega) rfl rfl rfl rfl) ?_ ?_
        · simp [go_sem, execOp, Act.eval, Deferred.ofValue, callFunc, Try.func18, Try.f18, s96, resolve, invoke]
        · refine (args_any num _).mono ?_
          rintro e w' ⟨rfl, rfl⟩
          refine ⟨_, rfl, _, rfl, ?_, hS, fun _ _ _ h => h⟩
          rw [own_put rfl (by rw [hs]; omega)]; exact rfl
      · obtain rfl := Option.some.inj (show some _ = some o from ho)
        have hg : a.tmps.getD 95 undef = .bool (false) := hdone _ (Array.mem_of_getElem? (i := 0) rfl) rfl _ rfl
        refine wpOp_valw (v := .int .i64 num) (w' := w) rfl (wanted_yes 18 95 false hg (by rw [hs]; omega) rfl rfl rfl rfl) ?_ ⟨_, rfl, ?_, hS, fun _ _ _ h => h⟩
        · simp [execOp, Act.eval, t4]
        · rw [own_put rfl (by rw [hs]; omega)]; exact rfl
      · obtain rfl := Option.some.inj (show some _ = some o from ho)
        have s98 : a.tmps.getD 98 undef = .int .i64 num := hdone _ (Array.mem_of_getElem? (i := 0) rfl) rfl _ rfl
        have hg : a.tmps.getD 95 undef = .bool (false) := hdone _ (Array.mem_of_getElem? (i := 2) rfl) rfl _ rfl
        refine wpOp_callw (f := 19) (args := #[.int .i64 num]) rfl (wanted_yes 18 95 false hg (by rw [hs]; omega) rfl rfl rfl rfl) ?_ ?_
        · simp [go_sem, execOp, Act.eval, Deferred.ofValue, callFunc, Try.func19, Try.f19, s98, resolve, invoke]
        · refine (r_args num _).mono ?_
          rintro e w' ⟨rfl, rfl⟩
          refine ⟨_, rfl, _, rfl, ?_, hS, fun _ _ _ h => h⟩
          rw [own_put rfl (by rw [hs]; omega)]; exact rfl
      · obtain rfl := Option.some.inj (show some _ = some o from ho)
        have s97 : a.tmps.getD 97 undef = .int .i64 (argsI num) := hdone _ (Array.mem_of_getElem? (i := 0) rfl) rfl _ rfl
        have s99 : a.tmps.getD 99 undef = .int .i64 (argsI num) := hdone _ (Array.mem_of_getElem? (i := 1) rfl) rfl _ rfl
        have hg : a.tmps.getD 95 undef = .bool (false) := hdone _ (Array.mem_of_getElem? (i := 2) rfl) rfl _ rfl
        refine wpOp_valw (v := .bool false) (w' := w) rfl (wanted_yes 18 95 false hg (by rw [hs]; omega) rfl rfl rfl rfl) ?_ ⟨_, rfl, ?_, hS, fun _ _ _ h => h⟩
        · simp [execOp, Act.eval, s97, s99, go_sem]
        · rw [own_put rfl (by rw [hs]; omega)]; exact rfl
      · obtain rfl := Option.some.inj (show some _ = some o from ho)
        have s95 : a.tmps.getD 95 undef = .bool false := hdone _ (Array.mem_of_getElem? (i := 0) rfl) rfl _ rfl
        have s100 : a.tmps.getD 100 undef = .bool false := hdone _ (Array.mem_of_getElem? (i := 1) rfl) rfl _ rfl
        refine wpOp_val (v := .bool false) (w' := w) rfl rfl ?_ ⟨_, rfl, ?_, hS, fun _ _ _ h => h⟩
        · simp [execOp, Act.eval, s95, s100, go_sem]
        · rw [own_put rfl (by rw [hs]; omega)]; exact rfl
      · obtain rfl := Option.some.inj (show some _ = some o from ho)
        have s101 : a.tmps.getD 101 undef = .bool false := hdone _ (Array.mem_of_getElem? (i := 0) rfl) rfl _ rfl
        refine wpOp_val (v := .bool false) (w' := w) rfl rfl ?_ ⟨_, rfl, ?_, hS, fun _ _ _ h => h⟩
        · simp [execOp, Act.eval, s101]
        · rw [own_put rfl (by rw [hs]; omega)]; exact rfl
      · obtain rfl := Option.some.inj (show some _ = some o from ho)
        have hg : a.tmps.getD 102 undef = .bool (false) := hdone _ (Array.mem_of_getElem? (i := 0) rfl) rfl _ rfl
        refine wpOp_valw (v := .agg #[.int .i64 c, .slice a1 l1 c1]) (w' := w) rfl (wanted_yes 25 102 false hg (by rw [hs]; omega) rfl rfl rfl rfl) ?_ ⟨_, rfl, ?_, hS, fun _ _ _ h => h⟩
        · simp [execOp, Act.eval, t6, Instr.loadAt, Instr.sureAddr, load_prog (HB.out.1 w hS), Result.andThen_ok]
        · rw [own_put rfl (by rw [hs]; omega)]; exact rfl
      · obtain rfl := Option.some.inj (show some _ = some o from ho)
        have hg : a.tmps.getD 102 undef = .bool (false) := hdone _ (Array.mem_of_getElem? (i := 0) rfl) rfl _ rfl
        refine wpOp_valw (v := .agg #[.int .i64 d, .slice a2 l2 c2]) (w' := w) rfl (wanted_yes 25 102 false hg (by rw [hs]; omega) rfl rfl rfl rfl) ?_ ⟨_, rfl, ?_, hS, fun _ _ _ h => h⟩
        · simp [execOp, Act.eval, t7, Instr.loadAt, Instr.sureAddr, load_prog (HB.out.2 w hS), Result.andThen_ok]
        · rw [own_put rfl (by rw [hs]; omega)]; exact rfl
      · obtain rfl := Option.some.inj (show some _ = some o from ho)
        have s103 : a.tmps.getD 103 undef = .agg #[.int .i64 c, .slice a1 l1 c1] := hdone _ (Array.mem_of_getElem? (i := 0) rfl) rfl _ rfl
        have s104 : a.tmps.getD 104 undef = .agg #[.int .i64 d, .slice a2 l2 c2] := hdone _ (Array.mem_of_getElem? (i := 1) rfl) rfl _ rfl
        have hg : a.tmps.getD 102 undef = .bool (false) := hdone _ (Array.mem_of_getElem? (i := 2) rfl) rfl _ rfl
        refine wpOp_callw (f := 20) (args := #[.agg #[.int .i64 c, .slice a1 l1 c1], .agg #[.int .i64 d, .slice a2 l2 c2]]) rfl (wanted_yes 25 102 false hg (by rw [hs]; omega) rfl rfl rfl rfl) ?_ ?_
        · simp [go_sem, execOp, Act.eval, Deferred.ofValue, callFunc, Try.func20, Try.f20, s103, s104, resolve, invoke]
        · refine (SM.out _ hS).mono ?_
          rintro e w' ⟨rfl, b9⟩
          refine ⟨_, rfl, _, rfl, ?_, below_call hS b9, fun _ _ _ h => tlR11_any h⟩
          rw [own_put rfl (by rw [hs]; omega)]; exact rfl
      · obtain rfl := Option.some.inj (show some _ = some o from ho)
        have hg : a.tmps.getD 102 undef = .bool (false) := hdone _ (Array.mem_of_getElem? (i := 0) rfl) rfl _ rfl
        refine wpOp_valw (v := .agg #[.int .i64 c, .slice a1 l1 c1]) (w' := w) rfl (wanted_yes 25 102 false hg (by rw [hs]; omega) rfl rfl rfl rfl) ?_ ⟨_, rfl, ?_, hS, fun _ _ _ h => h⟩
        · simp [execOp, Act.eval, t6, Instr.loadAt, Instr.sureAddr, load_prog (HB.out.1 w hS), Result.andThen_ok]
        · rw [own_put rfl (by rw [hs]; omega)]; exact rfl
      · obtain rfl := Option.some.inj (show some _ = some o from ho)
        have hg : a.tmps.getD 102 undef = .bool (false) := hdone _ (Array.mem_of_getElem? (i := 0) rfl) rfl _ rfl
        refine wpOp_valw (v := .agg #[.int .i64 d, .slice a2 l2 c2]) (w' := w) rfl (wanted_yes 25 102 false hg (by rw [hs]; omega) rfl rfl rfl rfl) ?_ ⟨_, rfl, ?_, hS, fun _ _ _ h => h⟩
        · simp [execOp, Act.eval, t7, Instr.loadAt, Instr.sureAddr, load_prog (HB.out.2 w hS), Result.andThen_ok]
        · rw [own_put rfl (by rw [hs]; omega)]; exact rfl
      · obtain rfl := Option.some.inj (show some _ = some o from ho)
        have s106 : a.tmps.getD 106 undef = .agg #[.int .i64 c, .slice a1 l1 c1] := hdone _ (Array.mem_of_getElem? (i := 0) rfl) rfl _ rfl
        have s107 : a.tmps.getD 107 undef = .agg #[.int .i64 d, .slice a2 l2 c2] := hdone _ (Array.mem_of_getElem? (i := 1) rfl) rfl _ rfl
        have hg : a.tmps.getD 102 undef = .bool (false) := hdone _ (Array.mem_of_getElem? (i := 3) rfl) rfl _ rfl
        refine wpOp_callw (f := 21) (args := #[.agg #[.int .i64 c, .slice a1 l1 c1], .agg #[.int .i64 d, .slice a2 l2 c2]]) rfl (wanted_yes 25 102 false hg (by rw [hs]; omega) rfl rfl rfl rfl) ?_ ?_
        · simp [go_sem, execOp, Act.eval, Deferred.ofValue, callFunc, Try.func21, Try.f21, s106, s107, resolve, invoke]
        · refine (RS.out _ hS).mono ?_
          rintro e w' ⟨rfl, b9⟩
          refine ⟨_, rfl, _, rfl, ?_, below_call hS b9, fun _ _ _ h => tlR11_any h⟩
          rw [own_put rfl (by rw [hs]; omega)]; exact rfl
      · obtain rfl := Option.some.inj (show some _ = some o from ho)
        have s105 : a.tmps.getD 105 undef = .bool sm := hdone _ (Array.mem_of_getElem? (i := 0) rfl) rfl _ rfl
        have s108 : a.tmps.getD 108 undef = .bool sm := hdone _ (Array.mem_of_getElem? (i := 1) rfl) rfl _ rfl
        have hg : a.tmps.getD 102 undef = .bool (false) := hdone _ (Array.mem_of_getElem? (i := 2) rfl) rfl _ rfl
        refine wpOp_valw (v := .bool false) (w' := w) rfl (wanted_yes 25 102 false hg (by rw [hs]; omega) rfl rfl rfl rfl) ?_ ⟨_, rfl, ?_, hS, fun _ _ _ h => h⟩
        · simp [execOp, Act.eval, s105, s108, go_sem]
        · rw [own_put rfl (by rw [hs]; omega)]; exact rfl
      · obtain rfl := Option.some.inj (show some _ = some o from ho)
        have s102 : a.tmps.getD 102 undef = .bool false := hdone _ (Array.mem_of_getElem? (i := 0) rfl) rfl _ rfl
        have s109 : a.tmps.getD 109 undef = .bool false := hdone _ (Array.mem_of_getElem? (i := 1) rfl) rfl _ rfl
        refine wpOp_val (v := .bool false) (w' := w) rfl rfl ?_ ⟨_, rfl, ?_, hS, fun _ _ _ h => h⟩
        · simp [execOp, Act.eval, s102, s109, go_sem]
        · rw [own_put rfl (by rw [hs]; omega)]; exact rfl
    case hq =>
      intro u w' hS hR
      have f : u 110 = .bool false := hR 33 _ rfl
      clear hR
      rw [show outs _ u = [(77, u 77), (78, u 78), (79, u 79), (80, u 80), (81, u 81), (82, u 82), (83, u 83), (84, u 84), (85, u 85), (86, u 86), (87, u 87), (88, u 88), (89, u 89), (90, u 90), (91, u 91), (92, u 92), (93, u 93), (94, u 94), (95, u 95), (96, u 96), (97, u 97), (98, u 98), (99, u 99), (100, u 100), (101, u 101), (102, u 102), (103, u 103), (104, u 104), (105, u 105), (106, u 106), (107, u 107), (108, u 108), (109, u 109), (110, u 110)] by kernel_rfl, f]
      simp only [putAll, List.setIfInBounds_toArray, List.set_cons_zero, List.set_cons_succ]
      generalize u 77 = y77; generalize u 78 = y78; generalize u 79 = y79; generalize u 80 = y80; generalize u 81 = y81; generalize u 82 = y82; generalize u 83 = y83; generalize u 84 = y84; generalize u 85 = y85; generalize u 86 = y86; generalize u 87 = y87; generalize u 88 = y88; generalize u 89 = y89; generalize u 90 = y90; generalize u 91 = y91; generalize u 92 = y92; generalize u 93 = y93; generalize u 94 = y94; generalize u 95 = y95; generalize u 96 = y96; generalize u 97 = y97; generalize u 98 = y98; generalize u 99 = y99; generalize u 100 = y100; generalize u 101 = y101; generalize u 102 = y102; generalize u 103 = y103; generalize u 104 = y104; generalize u 105 = y105; generalize u 106 = y106; generalize u 107 = y107; generalize u 108 = y108; generalize u 109 = y109
      clear f u
      clear HC HB SM RS
      have K9 := Lib.hid (below_call K8.out hS)
      clear K8 hS
      obtain ⟨q0, q1⟩ := two_cells (row_keep HR.out.2.1 K9.out)
      go_wp2_with fail
      refine (EX.out _ (HX.out.below (below_call B0.out K9.out))).mono ?_
      rintro e w9 ⟨v3, rfl, b9, f9⟩
      have K10 := Lib.hid (below_call K9.out b9)
      have F9 := Lib.hid f9
      clear b9 f9 q0 q1 K9
      obtain ⟨q0, q1⟩ := two_cells (row_keep HR.out.2.1 K10.out)
      go_wp2_with fail
      refine (RX.out _ (HX.out.below (below_call B0.out K10.out))).mono ?_
      rintro e w10 ⟨v4, rfl, b10, f10⟩
      have W10 := Lib.hid (below_call B0.out (below_call K10.out b10))
      have z1 := F9.out w10 b10
      have z2 := f10 w10 (Below.refl _ _)
      clear b10 f10 q0 q1 F9 K10
      generalize encS c l1 xs = es at *
      generalize (checkI c l1 xs).2 = er2 at *
      go_wp2_with fail
      refine (wakes_any _).mono ?_
      rintro e w11 ⟨rfl, b11⟩
      go_wp2_with fail
      go_ret
      exact ⟨rfl, below_call W10.out b11⟩

set_option maxRecDepth 100000 in
set_option maxHeartbeats 2000000 in
theorem tells_big1 (x : In) (c : Int) (a1 : Option Addr) (l1 c1 : Nat) (d : Int) (a2 : Option Addr) (l2 c2 : Nat) (i num : Int) (W : World) (g1 : 100 < l1) :
    Calls Try.prog 3 #[.agg x.cells, .agg #[.int .i64 c, .slice a1 l1 c1], .agg #[.int .i64 d, .slice a2 l2 c2], .int .i64 i, .int .i64 num] W fun e w' => e = .returned (.bool true) ∧ Below W.heap.size W w' := by
  have G1 := great_any c a1 l1 c1
  rw [decide_eq_true g1] at G1
  have HG1 := Lib.hid G1
  clear G1
  generalize x.cells = cx at *
  go_enter Try.func3, Try.ntmps3
  go_wp2_with fail
  refine (HG1.out _).mono ?_
  rintro e w1 ⟨rfl, b1⟩
  go_wp2_with fail
  refine (wakes_any _).mono ?_
  rintro e w2 ⟨rfl, b2⟩
  go_wp2_with fail
  go_ret
  exact ⟨rfl, below_call (below_call (below_new (below_new (below_new (Below.refl _ W) _) _) _) b1) b2⟩
set_option maxRecDepth 100000 in
set_option maxHeartbeats 2000000 in
theorem tells_big2 (x : In) (c : Int) (a1 : Option Addr) (l1 c1 : Nat) (d : Int) (a2 : Option Addr) (l2 c2 : Nat) (i num : Int) (W : World) (g1 : ¬ 100 < l1) (g2 : 100 < l2) :
    Calls Try.prog 3 #[.agg x.cells, .agg #[.int .i64 c, .slice a1 l1 c1], .agg #[.int .i64 d, .slice a2 l2 c2], .int .i64 i, .int .i64 num] W fun e w' => e = .returned (.bool true) ∧ Below W.heap.size W w' := by
  have G1 := great_any c a1 l1 c1
  have G2 := great_any d a2 l2 c2
  rw [decide_eq_false g1] at G1
  rw [decide_eq_true g2] at G2
  have HG1 := Lib.hid G1; have HG2 := Lib.hid G2
  clear G1 G2
  generalize x.cells = cx at *
  go_enter Try.func3, Try.ntmps3
  go_wp2_with fail
  refine (HG1.out _).mono ?_
  rintro e w1 ⟨rfl, b1⟩
  have q0 : w1.cell? ⟨W.heap.size + 1 + 1, 0, none⟩ = some (.int .i64 d) := (b1.cell (p := ⟨W.heap.size + 1 + 1, 0, none⟩) (by simp)).trans (two_cells (boxes3 W _ _ _).2.2).1
  have q1 : w1.cell? ⟨W.heap.size + 1 + 1, 1, none⟩ = some (.slice a2 l2 c2) := (b1.cell (p := ⟨W.heap.size + 1 + 1, 1, none⟩) (by simp)).trans (two_cells (boxes3 W _ _ _).2.2).2
  have B1 := Lib.hid (below_call (below_new (below_new (below_new (Below.refl _ W) _) _) _) b1)
  clear b1
  go_wp2_with fail
  refine (HG2.out _).mono ?_
  rintro e w2 ⟨rfl, b2⟩
  go_wp2_with fail
  refine (wakes_any _).mono ?_
  rintro e w3 ⟨rfl, b3⟩
  go_wp2_with fail
  go_ret
  exact ⟨rfl, below_call (below_call B1.out b2) b3⟩
theorem instrTells_law (x : In) (c : Int) (a1 : Option Addr) (l1 c1 : Nat) (xs : Nat → In) (d : Int) (a2 : Option Addr) (l2 c2 : Nat) (ys : Nat → In) (i num : Int) (W : World) (_ : x.Ok) (_ : (Lit.int .i64 c).wf = true) (hx : Insts W a1 l1 c1 xs) (_ : (Lit.int .i64 d).wf = true) (hy : Insts W a2 l2 c2 ys) (_ : (Lit.int .i64 i).wf = true) (_ : (Lit.int .i64 num).wf = true) :
    Calls Try.prog 3 #[.agg x.cells, .agg #[.int .i64 c, .slice a1 l1 c1], .agg #[.int .i64 d, .slice a2 l2 c2], .int .i64 i, .int .i64 num] W fun e w' => e = .returned (.bool true) ∧ Below W.heap.size W w' := by
  by_cases g1 : 100 < l1
  · exact tells_big1 x c a1 l1 c1 d a2 l2 c2 i num W g1
  by_cases g2 : 100 < l2
  · exact tells_big2 x c a1 l1 c1 d a2 l2 c2 i num W g1 g2
  exact tells_main x c a1 l1 c1 xs d a2 l2 c2 ys i num W hx hy g1 g2
end Go.Proofs.Ytbflanpfcbbblaa.Ins
