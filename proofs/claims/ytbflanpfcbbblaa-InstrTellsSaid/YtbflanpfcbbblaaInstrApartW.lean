/-
  The walk of the law InstrApart.
-/
import Derived.Test.YtbflanpfcbbblaaInsP
import Derived.Test.YtbflanpfcbbblaaInsK
namespace Go.Proofs.Ytbflanpfcbbblaa.Ins
open Go.RowKit
set_option linter.unusedVariables false

/-- The error of one that may be or not. -/
def errI (b : Bool) : Int := if b = true then 0 else 31
/-- Whatever Bytes yields. -/
def BytesAny (x : In) (W : World) (e : Ending) (w' : World) : Prop :=
  ∃ v, e = .returned (.tuple #[v, .int .i64 (errI (mayI x))]) ∧ Below W.heap.size W w' ∧ (mayI x = true → ∃ z, v = .slice (some ⟨z, 0, none⟩) 8 8 ∧ w'.rowIs z 5 8 (fun i => .int .u8 (byteI (packI x) i)))
theorem bytes_any (x : In) (W : World) : Calls Try.prog 10 #[.agg x.cells] W (BytesAny x W) := by
  cases h : mayI x
  · refine (bytes_no x W h).mono ?_
    rintro e w ⟨rfl, b⟩
    exact ⟨_, by rw [h]; rfl, b, fun h' => by rw [h] at h'; cases h'⟩
  · refine (bytes_yes x W h).mono ?_
    rintro e w ⟨z, rfl, hz, b, r⟩
    exact ⟨_, by rw [h]; rfl, b, fun _ => ⟨z, rfl, r⟩⟩
/-- Whatever Encode yields. -/
def EncodeAny (c : Int) (len : Nat) (xs : Nat → In) (W : World) (e : Ending) (w' : World) : Prop :=
  ∃ v, e = .returned (.tuple #[v, .int .i64 (checkI c len xs).2]) ∧ Below W.heap.size W w' ∧ ((checkI c len xs).2 = 0 → w'.ownsRow W.heap.size 5 1 v (2 + 8 * len) (u8s (encN c xs len)))
theorem check_ctx {c : Int} {len : Nat} {xs : Nat → In} (h : (checkI c len xs).2 = 0) : 0 ≤ c ∧ c ≤ 256 := by
  unfold checkI at h
  by_cases h1 : c < 0 ∨ 256 < c
  · rw [if_pos h1] at h; simp at h
  · omega
theorem encode_any (c : Int) (a : Option Addr) (len cap : Nat) (xs : Nat → In) (W : World) (hx : Insts W a len cap xs) : Calls Try.prog 22 #[.agg #[.int .i64 c, .slice a len cap]] W (EncodeAny c len xs W) := by
  by_cases h : (checkI c len xs).2 = 0
  · have hc := check_ctx h
    refine (encode_yes c a len cap xs W hx h hc.1 hc.2).mono ?_
    rintro e w ⟨v, rfl, o, b⟩
    exact ⟨v, by rw [h], b, fun _ => o⟩
  · refine (encode_no c a len cap xs W hx h).mono ?_
    rintro e w ⟨rfl, b⟩
    exact ⟨_, rfl, b, fun h' => absurd h' h⟩
theorem conv_own {w : World} {base n : Nat} {v : Value} {l : List Int} (h : w.ownsRow base 5 1 v n (u8s l)) (hn : 0 < n) : (convert 30 9 v).run Try.prog w = .ok (.string (strOfNums l)) w := by
  obtain ⟨hl, h⟩ := h
  have hl' : l.length = n := by simpa [u8s] using hl
  rcases h with ⟨_, h⟩ | ⟨g, cap, cur, rfl, _, hg, _, _, hs, ht⟩
  · omega
  · refine run_convert_bytes_arg (P := Try.prog) w 30 5 Try.underlying30 Try.underlying5 g 0 n cap l hl' (fun i hi => ?_) 9 Try.underlying9
    have hi' : i < n := hi
    have e := congrArg (fun l : List Value => l[i]?) ht
    simp only [List.getElem?_take_of_lt (show i < n * 1 by omega), Array.getElem?_toList, u8s, List.getElem?_map] at e
    rw [Nat.zero_add]
    simp only [World.cell?, hg, e]
    rw [List.getElem?_eq_getElem (by omega)]
    simp [List.getD, hl', hi']

/-- What the operations of the region that compares two instructions' bytes yield. -/
def apR (bx by_ : Bool) (v1 v2 : Value) (s1 s2 : ByteArray) (e12 : Bool) (x y : In) : Nat → Value → Value → World → Prop
  | 0, v, _, _ => v = .int .i64 (errI bx)
  | 1, v, _, _ => v = .bool bx
  | 2, v, _, _ => v = .bool bx
  | 3, v, _, _ => bx = true → v = .int .i64 (errI by_)
  | 4, v, _, _ => bx = true → v = .bool by_
  | 5, v, _, _ => v = .bool (bx && by_)
  | 6, v, _, _ => v = .bool (bx && by_)
  | 7, v, _, _ => (bx && by_) = true → v = v1
  | 8, v, _, _ => (bx && by_) = true → v = .string s1
  | 9, v, _, _ => (bx && by_) = true → v = v2
  | 10, v, _, _ => (bx && by_) = true → v = .string s2
  | 11, v, _, _ => (bx && by_) = true → v = .bool e12
  | 12, v, _, _ => (bx && by_) = true → v = .agg x.cells
  | 13, v, _, _ => (bx && by_) = true → v = .agg y.cells
  | 14, v, _, _ => (bx && by_) = true → v = .bool e12
  | 15, v, _, _ => (bx && by_) = true → v = .bool false
  | 16, v, _, _ => v = .bool false
  | _, _, _, _ => True
theorem apR_any {bx by_ : Bool} {v1 v2 : Value} {s1 s2 : ByteArray} {e12 : Bool} {x y : In} {w w' : World} {j : Nat} {a b : Value} (h : apR bx by_ v1 v2 s1 s2 e12 x y j a b w) : apR bx by_ v1 v2 s1 s2 e12 x y j a b w' := by
  unfold apR at *
  split at h <;> first | exact h | trivial
/-- What the operations of the region that compares two programs' bytes yield. -/
def epR (r1 r2 : Int) (v1 v2 : Value) (s1 s2 : ByteArray) (sm : Bool) (p q : Array Value) : Nat → Value → Value → World → Prop
  | 0, v, _, _ => v = .int .i64 r1
  | 1, v, _, _ => v = .bool (r1 != 0)
  | 2, v, _, _ => v = .bool (r1 != 0)
  | 3, v, _, _ => (r1 != 0) = false → v = .int .i64 r2
  | 4, v, _, _ => (r1 != 0) = false → v = .bool (r2 != 0)
  | 5, v, _, _ => v = .bool (r1 != 0 || r2 != 0)
  | 6, v, _, _ => v = .bool (r1 != 0 || r2 != 0)
  | 7, v, _, _ => (r1 != 0 || r2 != 0) = false → v = v1
  | 8, v, _, _ => (r1 != 0 || r2 != 0) = false → v = .string s1
  | 9, v, _, _ => (r1 != 0 || r2 != 0) = false → v = v2
  | 10, v, _, _ => (r1 != 0 || r2 != 0) = false → v = .string s2
  | 11, v, _, _ => (r1 != 0 || r2 != 0) = false → v = .bool sm
  | 12, v, _, _ => (r1 != 0 || r2 != 0) = false → v = .agg p
  | 13, v, _, _ => (r1 != 0 || r2 != 0) = false → v = .agg q
  | 14, v, _, _ => (r1 != 0 || r2 != 0) = false → v = .bool sm
  | 15, v, _, _ => (r1 != 0 || r2 != 0) = false → v = .bool true
  | 16, v, _, _ => v = .bool true
  | 17, v, _, _ => v = .bool true
  | 18, v, _, _ => true = true → v = .bool true
  | 19, v, _, _ => v = .bool true
  | 20, v, _, _ => v = .bool true
  | _, _, _, _ => True
theorem epR_any {r1 r2 : Int} {v1 v2 : Value} {s1 s2 : ByteArray} {sm : Bool} {p q : Array Value} {w w' : World} {j : Nat} {a b : Value} (h : epR r1 r2 v1 v2 s1 s2 sm p q j a b w) : epR r1 r2 v1 v2 s1 s2 sm p q j a b w' := by
  unfold epR at *
  split at h <;> first | exact h | trivial
theorem load_prog {b : Nat} {w : World} {p0 p1 : Value} (h : w.heap[b]? = some (.cells #[p0, p1] 27 (0, 0))) : (loadVar 27 ⟨b, 0, none⟩).run Try.prog w = .ok (.agg #[p0, p1]) w :=
  run_loadVar_row w b _ _ #[p0, p1] _ _ h Try.underlying27 rfl (show (Try.prog.info? 27).map (·.size) = some 2 by kernel_rfl)

theorem boxes4 (W : World) (o1 o2 o3 o4 : Obj) : ((((W.alloc o1).alloc o2).alloc o3).alloc o4).heap[W.heap.size]? = some o1 ∧ ((((W.alloc o1).alloc o2).alloc o3).alloc o4).heap[W.heap.size + 1]? = some o2 ∧ ((((W.alloc o1).alloc o2).alloc o3).alloc o4).heap[W.heap.size + 1 + 1]? = some o3 ∧ ((((W.alloc o1).alloc o2).alloc o3).alloc o4).heap[W.heap.size + 1 + 1 + 1]? = some o4 := by
  refine ⟨?_, ?_, ?_, ?_⟩
  · rw [heap_past _ _ _ (by simp <;> omega), heap_past _ _ _ (by simp <;> omega), heap_past _ _ _ (by simp)]; exact heap_last _ _ _ rfl
  · rw [heap_past _ _ _ (by simp <;> omega), heap_past _ _ _ (by simp)]; exact heap_last _ _ _ (by simp)
  · rw [heap_past _ _ _ (by simp)]; exact heap_last _ _ _ (by simp)
  · exact heap_last _ _ _ (by simp)
theorem two_cells {w : World} {b : Nat} {p0 p1 : Value} {t : TypeId} (h : w.heap[b]? = some (.cells #[p0, p1] t (0, 0))) : w.cell? ⟨b, 0, none⟩ = some p0 ∧ w.cell? ⟨b, 1, none⟩ = some p1 := by
  simp [World.cell?, h]
theorem row_keep {w w' : World} {b : Nat} {o : Obj} (h : w.heap[b]? = some o) (k : Below w.heap.size w w') : w'.heap[b]? = some o := (k.block b (Array.getElem?_eq_some_iff.1 h).1).trans h

set_option maxRecDepth 100000 in
set_option maxHeartbeats 8000000 in
theorem apart_main (x y : In) (c : Int) (a1 : Option Addr) (l1 c1 : Nat) (xs : Nat → In) (d : Int) (a2 : Option Addr) (l2 c2 : Nat) (ys : Nat → In) (W : World) (hx : Insts W a1 l1 c1 xs) (hy : Insts W a2 l2 c2 ys) (g1 : ¬ 100 < l1) (g2 : ¬ 100 < l2) :
    Calls Try.prog 7 #[.agg x.cells, .agg y.cells, .agg #[.int .i64 c, .slice a1 l1 c1], .agg #[.int .i64 d, .slice a2 l2 c2]] W fun e w' => e = .returned (.bool true) ∧ Below W.heap.size W w' := by
  have G1 := great_any c a1 l1 c1
  have G2 := great_any d a2 l2 c2
  rw [decide_eq_false g1] at G1
  rw [decide_eq_false g2] at G2
  have BX := Lib.hid (bytes_any x)
  have BY := Lib.hid (bytes_any y)
  have EX := Lib.hid (fun W h => encode_any c a1 l1 c1 xs W h)
  have EY := Lib.hid (fun W h => encode_any d a2 l2 c2 ys W h)
  have HG1 := Lib.hid G1; have HG2 := Lib.hid G2
  have HX := Lib.hid hx; have HY := Lib.hid hy
  have i9 : (Try.prog.info? 24).map (·.size) = some x.cells.size := info_ins
  have j9 : (Try.prog.info? 24).map (·.size) = some y.cells.size := info_ins
  have HI := Lib.hid i9; have HJ := Lib.hid j9
  clear G1 G2 hx hy i9 j9
  generalize hcx : x.cells = cx at *
  generalize hcy : y.cells = cy at *
  have HCX := Lib.hid hcx; have HCY := Lib.hid hcy
  clear hcx hcy
  go_enter Try.func7, Try.ntmps7
  go_wp2_with fail
  have B0 := Lib.hid (below_new (below_new (below_new (below_new (Below.refl _ W) (.cells cx 24)) (.cells cy 24)) (.cells #[.int .i64 c, .slice a1 l1 c1] 27)) (.cells #[.int .i64 d, .slice a2 l2 c2] 27))
  generalize hB : (((W.alloc (.cells cx 24)).alloc (.cells cy 24)).alloc (.cells #[.int .i64 c, .slice a1 l1 c1] 27)).alloc (.cells #[.int .i64 d, .slice a2 l2 c2] 27) = wB at *
  have HR := Lib.hid (show _ ∧ _ ∧ _ ∧ _ from hB ▸ boxes4 W (.cells cx 24) (.cells cy 24) (.cells #[.int .i64 c, .slice a1 l1 c1] 27) (.cells #[.int .i64 d, .slice a2 l2 c2] 27))
  clear hB
  refine (HG1.out _).mono ?_
  rintro e w1 ⟨rfl, b1⟩
  obtain ⟨q0, q1⟩ := two_cells (row_keep HR.out.2.2.2 b1)
  have K1 := Lib.hid b1; clear b1
  go_wp2_with fail
  refine (HG2.out _).mono ?_
  rintro e w2 ⟨rfl, b2⟩
  have K2 := Lib.hid (below_call K1.out b2)
  clear b2 q0 q1 K1
  have RX := Lib.hid (row_keep HR.out.1 K2.out)
  go_wp2_with (refine (halt_load 24 _ rfl ?_))
  refine ⟨?_, trivial⟩
  refine wpList_load_row rfl 24 _ rfl W.heap.size rfl _ cx _ _ RX.out Try.underlying24 rfl HI.out ?_
  go_wp2_with fail
  refine (BX.out _).mono ?_
  rintro e w3 ⟨v1, rfl, b3, f1⟩
  have K3 := Lib.hid (below_call K2.out b3)
  have F1 := Lib.hid f1
  clear b3 K2 RX f1
  have RY := Lib.hid (row_keep HR.out.2.1 K3.out)
  go_wp2_with (refine (halt_load 24 _ rfl ?_))
  refine ⟨?_, trivial⟩
  refine wpList_load_row rfl 24 _ rfl (W.heap.size + 1) rfl _ cy _ _ RY.out Try.underlying24 rfl HJ.out ?_
  go_wp2_with fail
  refine (BY.out _).mono ?_
  rintro e w4 ⟨v2, rfl, b4, f2⟩
  have K4 := Lib.hid (below_call K3.out b4)
  have HB := Lib.hid (show (∀ w, Below w4.heap.size w4 w → w.heap[W.heap.size]? = some (.cells x.cells 24 (0, 0))) ∧ (∀ w, Below w4.heap.size w4 w → w.heap[W.heap.size + 1]? = some (.cells y.cells 24 (0, 0))) from ⟨fun w h => by rw [HCX.out]; exact row_keep (row_keep HR.out.1 K4.out) h, fun w h => by rw [HCY.out]; exact row_keep (row_keep HR.out.2.1 K4.out) h⟩)
  have HC : Hid (((mayI x && mayI y) = true → ∀ w, Below w4.heap.size w4 w → (convert 30 9 v1).run Try.prog w = .ok (.string (strOf (byteI (packI x)) 8)) w) ∧ ((mayI x && mayI y) = true → ∀ w, Below w4.heap.size w4 w → (convert 30 9 v2).run Try.prog w = .ok (.string (strOf (byteI (packI y)) 8)) w) ∧ ((mayI x && mayI y) = true → ((strOf (byteI (packI x)) 8).toList == (strOf (byteI (packI y)) 8).toList) = eqI x y)) := by
    refine Lib.hid ⟨fun h w k => ?_, fun h w k => ?_, fun h => ?_⟩
    · obtain ⟨hx, hy⟩ := Bool.and_eq_true_iff.1 h
      obtain ⟨z, rfl, r⟩ := F1.out hx
      exact conv_row (r.of_block ((below_call b4 k).block z r.lt)) 8
    · obtain ⟨hx, hy⟩ := Bool.and_eq_true_iff.1 h
      obtain ⟨z, rfl, r⟩ := f2 hy
      exact conv_row (r.of_block (k.block z r.lt)) 8
    · obtain ⟨hx, hy⟩ := Bool.and_eq_true_iff.1 h
      exact pack_str hx hy
  clear b4 f2 F1 K3 RY BX BY
  generalize strOf (byteI (packI x)) 8 = s1 at *
  generalize strOf (byteI (packI y)) 8 = s2 at *
  generalize he : eqI x y = e12 at *
  have HE := Lib.hid he
  clear he
  generalize mayI x = bx at *
  generalize mayI y = by_ at *
  go_wp2_with fail
  refine wp_region_inv (fun _ => 100000) (fun w => Below w4.heap.size w4 w) (apR bx by_ v1 v2 s1 s2 e12 x y) (by kernel_rfl) (back_of (by kernel_rfl)) (dst_of (by kernel_rfl)) (dep_of (by kernel_rfl)) (in_of (by kernel_rfl)) (Below.drew (Below.refl _ _)) ?hop ?hq
  case hop =>
    intro i o a w ho hS hdf hsz hrest hdone
    have t4 : a.tmps.getD 4 undef = .pointer (some ⟨W.heap.size, 0, none⟩) := hrest 4 (not_of (by kernel_rfl))
    have t5 : a.tmps.getD 5 undef = .pointer (some ⟨W.heap.size + 1, 0, none⟩) := hrest 5 (not_of (by kernel_rfl))
    have t9 : a.tmps.getD 9 undef = v1 := hrest 9 (not_of (by kernel_rfl))
    have t10 : a.tmps.getD 10 undef = .int .i64 (errI bx) := hrest 10 (not_of (by kernel_rfl))
    have t11 : a.tmps.getD 11 undef = v2 := hrest 11 (not_of (by kernel_rfl))
    have t12 : a.tmps.getD 12 undef = .int .i64 (errI by_) := hrest 12 (not_of (by kernel_rfl))
    have hs : a.tmps.size = 77 := hsz.trans rfl
    have hi : i < 17 := (Array.getElem?_eq_some_iff.1 ho).1
    clear hrest hsz hdf
    obtain rfl | rfl | rfl | rfl | rfl | rfl | rfl | rfl | rfl | rfl | rfl | rfl | rfl | rfl | rfl | rfl | rfl : i = 0 ∨ i = 1 ∨ i = 2 ∨ i = 3 ∨ i = 4 ∨ i = 5 ∨ i = 6 ∨ i = 7 ∨ i = 8 ∨ i = 9 ∨ i = 10 ∨ i = 11 ∨ i = 12 ∨ i = 13 ∨ i = 14 ∨ i = 15 ∨ i = 16 := by omega
    · obtain rfl := Option.some.inj (show some _ = some o from ho)
      refine wpOp_val (v := .int .i64 (errI bx)) (w' := w) rfl rfl ?_ ⟨_, rfl, ?_, hS, fun _ _ _ h => apR_any h⟩
      · simp [execOp, Act.eval, t10]
      · rw [own_put rfl (by rw [hs]; omega)]; exact rfl
    · obtain rfl := Option.some.inj (show some _ = some o from ho)
      have s30 : a.tmps.getD 30 undef = .int .i64 (errI bx) := hdone _ (Array.mem_of_getElem? (i := 0) rfl) rfl _ rfl
      refine wpOp_val (v := .bool bx) (w' := w) rfl rfl ?_ ⟨_, rfl, ?_, hS, fun _ _ _ h => apR_any h⟩
      · cases bx <;> simp [execOp, Act.eval, s30, go_sem, errI]
      · rw [own_put rfl (by rw [hs]; omega)]; exact rfl
    · obtain rfl := Option.some.inj (show some _ = some o from ho)
      have s31 : a.tmps.getD 31 undef = .bool bx := hdone _ (Array.mem_of_getElem? (i := 0) rfl) rfl _ rfl
      refine wpOp_val (v := .bool bx) (w' := w) rfl rfl ?_ ⟨_, rfl, ?_, hS, fun _ _ _ h => apR_any h⟩
      · simp [execOp, Act.eval, s31]
      · rw [own_put rfl (by rw [hs]; omega)]; exact rfl
    · obtain rfl := Option.some.inj (show some _ = some o from ho)
      have hg : a.tmps.getD 32 undef = .bool (bx) := hdone _ (Array.mem_of_getElem? (i := 0) rfl) rfl _ rfl
      by_cases hb : (bx) = true
      case neg => exact wpOp_no rfl (wanted_no 2 32 (bx) hg (by rw [hs]; omega) rfl rfl rfl (by simpa using hb)) ⟨_, rfl, fun h => absurd h hb, hS, fun _ _ _ h => apR_any h⟩
      refine wpOp_valw (v := .int .i64 (errI by_)) (w' := w) rfl (wanted_yes 2 32 (bx) hg (by rw [hs]; omega) rfl rfl rfl (by simpa using hb)) ?_ ⟨_, rfl, ?_, hS, fun _ _ _ h => apR_any h⟩
      · simp [execOp, Act.eval, t12]
      · rw [own_put rfl (by rw [hs]; omega)]; exact fun _ => rfl
    · obtain rfl := Option.some.inj (show some _ = some o from ho)
      have s33 : bx = true → a.tmps.getD 33 undef = .int .i64 (errI by_) := hdone _ (Array.mem_of_getElem? (i := 0) rfl) rfl _ rfl
      have hg : a.tmps.getD 32 undef = .bool (bx) := hdone _ (Array.mem_of_getElem? (i := 1) rfl) rfl _ rfl
      by_cases hb : (bx) = true
      case neg => exact wpOp_no rfl (wanted_no 2 32 (bx) hg (by rw [hs]; omega) rfl rfl rfl (by simpa using hb)) ⟨_, rfl, fun h => absurd h hb, hS, fun _ _ _ h => apR_any h⟩
      refine wpOp_valw (v := .bool by_) (w' := w) rfl (wanted_yes 2 32 (bx) hg (by rw [hs]; omega) rfl rfl rfl (by simpa using hb)) ?_ ⟨_, rfl, ?_, hS, fun _ _ _ h => apR_any h⟩
      · (have s33' := s33 hb; cases by_ <;> simp [execOp, Act.eval, s33', go_sem, errI])
      · rw [own_put rfl (by rw [hs]; omega)]; exact fun _ => rfl
    · obtain rfl := Option.some.inj (show some _ = some o from ho)
      have s32 : a.tmps.getD 32 undef = .bool bx := hdone _ (Array.mem_of_getElem? (i := 0) rfl) rfl _ rfl
      have s34 : bx = true → a.tmps.getD 34 undef = .bool by_ := hdone _ (Array.mem_of_getElem? (i := 1) rfl) rfl _ rfl
      refine wpOp_val (v := .bool (bx && by_)) (w' := w) rfl rfl ?_ ⟨_, rfl, ?_, hS, fun _ _ _ h => apR_any h⟩
      · cases bx <;> simp [execOp, Act.eval, s32, s34, go_sem]
      · rw [own_put rfl (by rw [hs]; omega)]; exact rfl
    · obtain rfl := Option.some.inj (show some _ = some o from ho)
      have s35 : a.tmps.getD 35 undef = .bool (bx && by_) := hdone _ (Array.mem_of_getElem? (i := 0) rfl) rfl _ rfl
      refine wpOp_val (v := .bool (bx && by_)) (w' := w) rfl rfl ?_ ⟨_, rfl, ?_, hS, fun _ _ _ h => apR_any h⟩
      · simp [execOp, Act.eval, s35]
      · rw [own_put rfl (by rw [hs]; omega)]; exact rfl
    · obtain rfl := Option.some.inj (show some _ = some o from ho)
      have hg : a.tmps.getD 36 undef = .bool ((bx && by_)) := hdone _ (Array.mem_of_getElem? (i := 0) rfl) rfl _ rfl
      by_cases hb : ((bx && by_)) = true
      case neg => exact wpOp_no rfl (wanted_no 6 36 ((bx && by_)) hg (by rw [hs]; omega) rfl rfl rfl (by simpa using hb)) ⟨_, rfl, fun h => absurd h hb, hS, fun _ _ _ h => apR_any h⟩
      refine wpOp_valw (v := v1) (w' := w) rfl (wanted_yes 6 36 ((bx && by_)) hg (by rw [hs]; omega) rfl rfl rfl (by simpa using hb)) ?_ ⟨_, rfl, ?_, hS, fun _ _ _ h => apR_any h⟩
      · simp [execOp, Act.eval, t9]
      · rw [own_put rfl (by rw [hs]; omega)]; exact fun _ => rfl
    · obtain rfl := Option.some.inj (show some _ = some o from ho)
      have s37 : (bx && by_) = true → a.tmps.getD 37 undef = v1 := hdone _ (Array.mem_of_getElem? (i := 0) rfl) rfl _ rfl
      have hg : a.tmps.getD 36 undef = .bool ((bx && by_)) := hdone _ (Array.mem_of_getElem? (i := 1) rfl) rfl _ rfl
      by_cases hb : ((bx && by_)) = true
      case neg => exact wpOp_no rfl (wanted_no 6 36 ((bx && by_)) hg (by rw [hs]; omega) rfl rfl rfl (by simpa using hb)) ⟨_, rfl, fun h => absurd h hb, hS, fun _ _ _ h => apR_any h⟩
      refine wpOp_valw (v := .string s1) (w' := w) rfl (wanted_yes 6 36 ((bx && by_)) hg (by rw [hs]; omega) rfl rfl rfl (by simpa using hb)) ?_ ⟨_, rfl, ?_, hS, fun _ _ _ h => apR_any h⟩
      · simp [execOp, Act.eval, s37 hb, (HC.out.1 hb w hS)]
      · rw [own_put rfl (by rw [hs]; omega)]; exact fun _ => rfl
    · obtain rfl := Option.some.inj (show some _ = some o from ho)
      have hg : a.tmps.getD 36 undef = .bool ((bx && by_)) := hdone _ (Array.mem_of_getElem? (i := 0) rfl) rfl _ rfl
      by_cases hb : ((bx && by_)) = true
      case neg => exact wpOp_no rfl (wanted_no 6 36 ((bx && by_)) hg (by rw [hs]; omega) rfl rfl rfl (by simpa using hb)) ⟨_, rfl, fun h => absurd h hb, hS, fun _ _ _ h => apR_any h⟩
      refine wpOp_valw (v := v2) (w' := w) rfl (wanted_yes 6 36 ((bx && by_)) hg (by rw [hs]; omega) rfl rfl rfl (by simpa using hb)) ?_ ⟨_, rfl, ?_, hS, fun _ _ _ h => apR_any h⟩
      · simp [execOp, Act.eval, t11]
      · rw [own_put rfl (by rw [hs]; omega)]; exact fun _ => rfl
    · obtain rfl := Option.some.inj (show some _ = some o from ho)
      have s39 : (bx && by_) = true → a.tmps.getD 39 undef = v2 := hdone _ (Array.mem_of_getElem? (i := 0) rfl) rfl _ rfl
      have hg : a.tmps.getD 36 undef = .bool ((bx && by_)) := hdone _ (Array.mem_of_getElem? (i := 1) rfl) rfl _ rfl
      by_cases hb : ((bx && by_)) = true
      case neg => exact wpOp_no rfl (wanted_no 6 36 ((bx && by_)) hg (by rw [hs]; omega) rfl rfl rfl (by simpa using hb)) ⟨_, rfl, fun h => absurd h hb, hS, fun _ _ _ h => apR_any h⟩
      refine wpOp_valw (v := .string s2) (w' := w) rfl (wanted_yes 6 36 ((bx && by_)) hg (by rw [hs]; omega) rfl rfl rfl (by simpa using hb)) ?_ ⟨_, rfl, ?_, hS, fun _ _ _ h => apR_any h⟩
      · simp [execOp, Act.eval, s39 hb, (HC.out.2.1 hb w hS)]
      · rw [own_put rfl (by rw [hs]; omega)]; exact fun _ => rfl
    · obtain rfl := Option.some.inj (show some _ = some o from ho)
      have s38 : (bx && by_) = true → a.tmps.getD 38 undef = .string s1 := hdone _ (Array.mem_of_getElem? (i := 0) rfl) rfl _ rfl
      have s40 : (bx && by_) = true → a.tmps.getD 40 undef = .string s2 := hdone _ (Array.mem_of_getElem? (i := 1) rfl) rfl _ rfl
      have hg : a.tmps.getD 36 undef = .bool ((bx && by_)) := hdone _ (Array.mem_of_getElem? (i := 2) rfl) rfl _ rfl
      by_cases hb : ((bx && by_)) = true
      case neg => exact wpOp_no rfl (wanted_no 6 36 ((bx && by_)) hg (by rw [hs]; omega) rfl rfl rfl (by simpa using hb)) ⟨_, rfl, fun h => absurd h hb, hS, fun _ _ _ h => apR_any h⟩
      refine wpOp_valw (v := .bool e12) (w' := w) rfl (wanted_yes 6 36 ((bx && by_)) hg (by rw [hs]; omega) rfl rfl rfl (by simpa using hb)) ?_ ⟨_, rfl, ?_, hS, fun _ _ _ h => apR_any h⟩
      · (have hq := HC.out.2.2 hb; simp [execOp, Act.eval, s38 hb, s40 hb, go_sem, hq])
      · rw [own_put rfl (by rw [hs]; omega)]; exact fun _ => rfl
    · obtain rfl := Option.some.inj (show some _ = some o from ho)
      have hg : a.tmps.getD 36 undef = .bool ((bx && by_)) := hdone _ (Array.mem_of_getElem? (i := 0) rfl) rfl _ rfl
      by_cases hb : ((bx && by_)) = true
      case neg => exact wpOp_no rfl (wanted_no 6 36 ((bx && by_)) hg (by rw [hs]; omega) rfl rfl rfl (by simpa using hb)) ⟨_, rfl, fun h => absurd h hb, hS, fun _ _ _ h => apR_any h⟩
      refine wpOp_valw (v := .agg x.cells) (w' := w) rfl (wanted_yes 6 36 ((bx && by_)) hg (by rw [hs]; omega) rfl rfl rfl (by simpa using hb)) ?_ ⟨_, rfl, ?_, hS, fun _ _ _ h => apR_any h⟩
      · simp [execOp, Act.eval, t4, Instr.loadAt, Instr.sureAddr, load_boxed x (HB.out.1 w hS), Result.andThen_ok]
      · rw [own_put rfl (by rw [hs]; omega)]; exact fun _ => rfl
    · obtain rfl := Option.some.inj (show some _ = some o from ho)
      have hg : a.tmps.getD 36 undef = .bool ((bx && by_)) := hdone _ (Array.mem_of_getElem? (i := 0) rfl) rfl _ rfl
      by_cases hb : ((bx && by_)) = true
      case neg => exact wpOp_no rfl (wanted_no 6 36 ((bx && by_)) hg (by rw [hs]; omega) rfl rfl rfl (by simpa using hb)) ⟨_, rfl, fun h => absurd h hb, hS, fun _ _ _ h => apR_any h⟩
      refine wpOp_valw (v := .agg y.cells) (w' := w) rfl (wanted_yes 6 36 ((bx && by_)) hg (by rw [hs]; omega) rfl rfl rfl (by simpa using hb)) ?_ ⟨_, rfl, ?_, hS, fun _ _ _ h => apR_any h⟩
      · simp [execOp, Act.eval, t5, Instr.loadAt, Instr.sureAddr, load_boxed y (HB.out.2 w hS), Result.andThen_ok]
      · rw [own_put rfl (by rw [hs]; omega)]; exact fun _ => rfl
    · obtain rfl := Option.some.inj (show some _ = some o from ho)
      have s42 : (bx && by_) = true → a.tmps.getD 42 undef = .agg x.cells := hdone _ (Array.mem_of_getElem? (i := 0) rfl) rfl _ rfl
      have s43 : (bx && by_) = true → a.tmps.getD 43 undef = .agg y.cells := hdone _ (Array.mem_of_getElem? (i := 1) rfl) rfl _ rfl
      have hg : a.tmps.getD 36 undef = .bool ((bx && by_)) := hdone _ (Array.mem_of_getElem? (i := 2) rfl) rfl _ rfl
      by_cases hb : ((bx && by_)) = true
      case neg => exact wpOp_no rfl (wanted_no 6 36 ((bx && by_)) hg (by rw [hs]; omega) rfl rfl rfl (by simpa using hb)) ⟨_, rfl, fun h => absurd h hb, hS, fun _ _ _ h => apR_any h⟩
      refine wpOp_valw (v := .bool e12) (w' := w) rfl (wanted_yes 6 36 ((bx && by_)) hg (by rw [hs]; omega) rfl rfl rfl (by simpa using hb)) ?_ ⟨_, rfl, ?_, hS, fun _ _ _ h => apR_any h⟩
      · exact exec_eql rfl (s42 hb) (s43 hb) (by kernel_rfl) (by rw [eq_run x y w, HE.out])
      · rw [own_put rfl (by rw [hs]; omega)]; exact fun _ => rfl
    · obtain rfl := Option.some.inj (show some _ = some o from ho)
      have s41 : (bx && by_) = true → a.tmps.getD 41 undef = .bool e12 := hdone _ (Array.mem_of_getElem? (i := 0) rfl) rfl _ rfl
      have s44 : (bx && by_) = true → a.tmps.getD 44 undef = .bool e12 := hdone _ (Array.mem_of_getElem? (i := 1) rfl) rfl _ rfl
      have hg : a.tmps.getD 36 undef = .bool ((bx && by_)) := hdone _ (Array.mem_of_getElem? (i := 2) rfl) rfl _ rfl
      by_cases hb : ((bx && by_)) = true
      case neg => exact wpOp_no rfl (wanted_no 6 36 ((bx && by_)) hg (by rw [hs]; omega) rfl rfl rfl (by simpa using hb)) ⟨_, rfl, fun h => absurd h hb, hS, fun _ _ _ h => apR_any h⟩
      refine wpOp_valw (v := .bool false) (w' := w) rfl (wanted_yes 6 36 ((bx && by_)) hg (by rw [hs]; omega) rfl rfl rfl (by simpa using hb)) ?_ ⟨_, rfl, ?_, hS, fun _ _ _ h => apR_any h⟩
      · simp [execOp, Act.eval, s41 hb, s44 hb, go_sem]
      · rw [own_put rfl (by rw [hs]; omega)]; exact fun _ => rfl
    · obtain rfl := Option.some.inj (show some _ = some o from ho)
      have s36 : a.tmps.getD 36 undef = .bool (bx && by_) := hdone _ (Array.mem_of_getElem? (i := 0) rfl) rfl _ rfl
      have s45 : (bx && by_) = true → a.tmps.getD 45 undef = .bool false := hdone _ (Array.mem_of_getElem? (i := 1) rfl) rfl _ rfl
      refine wpOp_val (v := .bool false) (w' := w) rfl rfl ?_ ⟨_, rfl, ?_, hS, fun _ _ _ h => apR_any h⟩
      · (by_cases hb : (bx && by_) = true) <;> first | (simp [execOp, Act.eval, s36, s45 hb, go_sem]; done) | (simp [execOp, Act.eval, s36, hb, go_sem]; done)
      · rw [own_put rfl (by rw [hs]; omega)]; exact rfl
  case hq =>
    intro u w' hS hR
    have f : u 46 = .bool false := hR 16 _ rfl
    clear hR
    rw [show outs _ u = [(30, u 30), (31, u 31), (32, u 32), (33, u 33), (34, u 34), (35, u 35), (36, u 36), (37, u 37), (38, u 38), (39, u 39), (40, u 40), (41, u 41), (42, u 42), (43, u 43), (44, u 44), (45, u 45), (46, u 46)] by kernel_rfl, f]
    simp only [putAll, List.setIfInBounds_toArray, List.set_cons_zero, List.set_cons_succ]
    generalize u 30 = x30; generalize u 31 = x31; generalize u 32 = x32; generalize u 33 = x33; generalize u 34 = x34; generalize u 35 = x35; generalize u 36 = x36; generalize u 37 = x37; generalize u 38 = x38; generalize u 39 = x39; generalize u 40 = x40; generalize u 41 = x41; generalize u 42 = x42; generalize u 43 = x43; generalize u 44 = x44; generalize u 45 = x45
    clear f u
    clear HC HB HE
    have K5 := Lib.hid (below_call K4.out hS)
    clear K4 hS
    obtain ⟨q0, q1⟩ := two_cells (row_keep HR.out.2.2.1 K5.out)
    go_wp2_with fail
    refine (EX.out _ (HX.out.below (below_call B0.out K5.out))).mono ?_
    rintro e w5 ⟨v3, rfl, b5, f3⟩
    have K6 := Lib.hid (below_call K5.out b5)
    have F3 := Lib.hid f3
    clear b5 f3 q0 q1 K5
    obtain ⟨q0, q1⟩ := two_cells (row_keep HR.out.2.2.2 K6.out)
    go_wp2_with fail
    refine (EY.out _ (HY.out.below (below_call B0.out K6.out))).mono ?_
    rintro e w6 ⟨v4, rfl, b6, f4⟩
    have K7 := Lib.hid (below_call K6.out b6)
    have W6 := Lib.hid (below_call B0.out K7.out)
    have HB := Lib.hid (show (∀ w, Below w6.heap.size w6 w → w.heap[W.heap.size + 1 + 1]? = some (.cells #[.int .i64 c, .slice a1 l1 c1] 27 (0, 0))) ∧ (∀ w, Below w6.heap.size w6 w → w.heap[W.heap.size + 1 + 1 + 1]? = some (.cells #[.int .i64 d, .slice a2 l2 c2] 27 (0, 0))) from ⟨fun w h => row_keep (row_keep HR.out.2.2.1 K7.out) h, fun w h => row_keep (row_keep HR.out.2.2.2 K7.out) h⟩)
    have SM := Lib.hid (fun (w : World) (h : Below w6.heap.size w6 w) => same_any c a1 l1 c1 xs d a2 l2 c2 ys w (HX.out.below (below_call W6.out h)) (HY.out.below (below_call W6.out h)))
    have HC : Hid ((((checkI c l1 xs).2 != 0 || (checkI d l2 ys).2 != 0) = false → ∀ w, Below w6.heap.size w6 w → (convert 30 9 v3).run Try.prog w = .ok (.string (strOfNums (encN c xs l1))) w) ∧ (((checkI c l1 xs).2 != 0 || (checkI d l2 ys).2 != 0) = false → ∀ w, Below w6.heap.size w6 w → (convert 30 9 v4).run Try.prog w = .ok (.string (strOfNums (encN d ys l2))) w) ∧ (((checkI c l1 xs).2 != 0 || (checkI d l2 ys).2 != 0) = false → ((strOfNums (encN c xs l1)).toList == (strOfNums (encN d ys l2)).toList) = sameI c d l1 l2 xs ys)) := by
      refine Lib.hid ⟨fun h w k => ?_, fun h w k => ?_, fun h => ?_⟩
      · obtain ⟨h1, h2⟩ := Bool.or_eq_false_iff.1 h
        exact conv_own (owns_below (owns_below (F3.out (by simpa using h1)) b6) k) (by omega)
      · obtain ⟨h1, h2⟩ := Bool.or_eq_false_iff.1 h
        exact conv_own (owns_below (f4 (by simpa using h2)) k) (by omega)
      · obtain ⟨h1, h2⟩ := Bool.or_eq_false_iff.1 h
        have z1 : (checkI c l1 xs).2 = 0 := by simpa using h1
        have z2 : (checkI d l2 ys).2 = 0 := by simpa using h2
        have k1 := check_ctx z1
        have k2 := check_ctx z2
        exact enc_str (by omega) (by omega) (fun i hi => ((ends_facts z1).2.2 i hi).1) (fun i hi => ((ends_facts z2).2.2 i hi).1) sameI_iff
    clear b6 f4 F3 K6 q0 q1 EX EY
    generalize (checkI c l1 xs).2 = r1 at *
    generalize (checkI d l2 ys).2 = r2 at *
    generalize strOfNums (encN c xs l1) = s3 at *
    generalize strOfNums (encN d ys l2) = s4 at *
    generalize sameI c d l1 l2 xs ys = sm at *
    go_wp2_with fail
    refine wp_region_inv (fun _ => 100000) (fun w => Below w6.heap.size w6 w) (epR r1 r2 v3 v4 s3 s4 sm #[.int .i64 c, .slice a1 l1 c1] #[.int .i64 d, .slice a2 l2 c2]) (by kernel_rfl) (back_of (by kernel_rfl)) (dst_of (by kernel_rfl)) (dep_of (by kernel_rfl)) (in_of (by kernel_rfl)) (Below.drew (Below.refl _ _)) ?hop ?hq
    case hop =>
      intro i o a w ho hS hdf hsz hrest hdone
      have t6 : a.tmps.getD 6 undef = .pointer (some ⟨W.heap.size + 1 + 1, 0, none⟩) := hrest 6 (not_of (by kernel_rfl))
      have t7 : a.tmps.getD 7 undef = .pointer (some ⟨W.heap.size + 1 + 1 + 1, 0, none⟩) := hrest 7 (not_of (by kernel_rfl))
      have t9 : a.tmps.getD 9 undef = v3 := hrest 9 (not_of (by kernel_rfl))
      have t10 : a.tmps.getD 10 undef = .int .i64 r1 := hrest 10 (not_of (by kernel_rfl))
      have t11 : a.tmps.getD 11 undef = v4 := hrest 11 (not_of (by kernel_rfl))
      have t12 : a.tmps.getD 12 undef = .int .i64 r2 := hrest 12 (not_of (by kernel_rfl))
      have hs : a.tmps.size = 77 := hsz.trans rfl
      have hi : i < 21 := (Array.getElem?_eq_some_iff.1 ho).1
      clear hrest hsz hdf
      obtain rfl | rfl | rfl | rfl | rfl | rfl | rfl | rfl | rfl | rfl | rfl | rfl | rfl | rfl | rfl | rfl | rfl | rfl | rfl | rfl | rfl : i = 0 ∨ i = 1 ∨ i = 2 ∨ i = 3 ∨ i = 4 ∨ i = 5 ∨ i = 6 ∨ i = 7 ∨ i = 8 ∨ i = 9 ∨ i = 10 ∨ i = 11 ∨ i = 12 ∨ i = 13 ∨ i = 14 ∨ i = 15 ∨ i = 16 ∨ i = 17 ∨ i = 18 ∨ i = 19 ∨ i = 20 := by omega
      · obtain rfl := Option.some.inj (show some _ = some o from ho)
        refine wpOp_val (v := .int .i64 r1) (w' := w) rfl rfl ?_ ⟨_, rfl, ?_, hS, fun _ _ _ h => epR_any h⟩
        · simp [execOp, Act.eval, t10]
        · rw [own_put rfl (by rw [hs]; omega)]; exact rfl
      · obtain rfl := Option.some.inj (show some _ = some o from ho)
        have s57 : a.tmps.getD 57 undef = .int .i64 r1 := hdone _ (Array.mem_of_getElem? (i := 0) rfl) rfl _ rfl
        refine wpOp_val (v := .bool (r1 != 0)) (w' := w) rfl rfl ?_ ⟨_, rfl, ?_, hS, fun _ _ _ h => epR_any h⟩
        · simp [execOp, Act.eval, s57, go_sem]
        · rw [own_put rfl (by rw [hs]; omega)]; exact rfl
      · obtain rfl := Option.some.inj (show some _ = some o from ho)
        have s58 : a.tmps.getD 58 undef = .bool (r1 != 0) := hdone _ (Array.mem_of_getElem? (i := 0) rfl) rfl _ rfl
        refine wpOp_val (v := .bool (r1 != 0)) (w' := w) rfl rfl ?_ ⟨_, rfl, ?_, hS, fun _ _ _ h => epR_any h⟩
        · simp [execOp, Act.eval, s58]
        · rw [own_put rfl (by rw [hs]; omega)]; exact rfl
      · obtain rfl := Option.some.inj (show some _ = some o from ho)
        have hg : a.tmps.getD 59 undef = .bool (r1 != 0) := hdone _ (Array.mem_of_getElem? (i := 0) rfl) rfl _ rfl
        by_cases hb : (r1 != 0) = false
        case neg => exact wpOp_no rfl (wanted_no 2 59 (r1 != 0) hg (by rw [hs]; omega) rfl rfl rfl (by simpa using hb)) ⟨_, rfl, fun h => absurd h hb, hS, fun _ _ _ h => epR_any h⟩
        refine wpOp_valw (v := .int .i64 r2) (w' := w) rfl (wanted_yes 2 59 (r1 != 0) hg (by rw [hs]; omega) rfl rfl rfl (by simpa using hb)) ?_ ⟨_, rfl, ?_, hS, fun _ _ _ h => epR_any h⟩
        · simp [execOp, Act.eval, t12]
        · rw [own_put rfl (by rw [hs]; omega)]; exact fun _ => rfl
      · obtain rfl := Option.some.inj (show some _ = some o from ho)
        have s60 : (r1 != 0) = false → a.tmps.getD 60 undef = .int .i64 r2 := hdone _ (Array.mem_of_getElem? (i := 0) rfl) rfl _ rfl
        have hg : a.tmps.getD 59 undef = .bool (r1 != 0) := hdone _ (Array.mem_of_getElem? (i := 1) rfl) rfl _ rfl
        by_cases hb : (r1 != 0) = false
        case neg => exact wpOp_no rfl (wanted_no 2 59 (r1 != 0) hg (by rw [hs]; omega) rfl rfl rfl (by simpa using hb)) ⟨_, rfl, fun h => absurd h hb, hS, fun _ _ _ h => epR_any h⟩
        refine wpOp_valw (v := .bool (r2 != 0)) (w' := w) rfl (wanted_yes 2 59 (r1 != 0) hg (by rw [hs]; omega) rfl rfl rfl (by simpa using hb)) ?_ ⟨_, rfl, ?_, hS, fun _ _ _ h => epR_any h⟩
        · simp [execOp, Act.eval, s60 hb, go_sem]
        · rw [own_put rfl (by rw [hs]; omega)]; exact fun _ => rfl
      · obtain rfl := Option.some.inj (show some _ = some o from ho)
        have s59 : a.tmps.getD 59 undef = .bool (r1 != 0) := hdone _ (Array.mem_of_getElem? (i := 0) rfl) rfl _ rfl
        have s61 : (r1 != 0) = false → a.tmps.getD 61 undef = .bool (r2 != 0) := hdone _ (Array.mem_of_getElem? (i := 1) rfl) rfl _ rfl
        refine wpOp_val (v := .bool (r1 != 0 || r2 != 0)) (w' := w) rfl rfl ?_ ⟨_, rfl, ?_, hS, fun _ _ _ h => epR_any h⟩
        · (cases hb : (r1 != 0)) <;> first | (simp [execOp, Act.eval, s59, s61 hb, hb, go_sem]; done) | (simp [execOp, Act.eval, s59, hb, go_sem]; done)
        · rw [own_put rfl (by rw [hs]; omega)]; exact rfl
      · obtain rfl := Option.some.inj (show some _ = some o from ho)
        have s62 : a.tmps.getD 62 undef = .bool (r1 != 0 || r2 != 0) := hdone _ (Array.mem_of_getElem? (i := 0) rfl) rfl _ rfl
        refine wpOp_val (v := .bool (r1 != 0 || r2 != 0)) (w' := w) rfl rfl ?_ ⟨_, rfl, ?_, hS, fun _ _ _ h => epR_any h⟩
        · simp [execOp, Act.eval, s62]
        · rw [own_put rfl (by rw [hs]; omega)]; exact rfl
      · obtain rfl := Option.some.inj (show some _ = some o from ho)
        have hg : a.tmps.getD 63 undef = .bool ((r1 != 0 || r2 != 0)) := hdone _ (Array.mem_of_getElem? (i := 0) rfl) rfl _ rfl
        by_cases hb : ((r1 != 0 || r2 != 0)) = false
        case neg => exact wpOp_no rfl (wanted_no 6 63 ((r1 != 0 || r2 != 0)) hg (by rw [hs]; omega) rfl rfl rfl (by simpa using hb)) ⟨_, rfl, fun h => absurd h hb, hS, fun _ _ _ h => epR_any h⟩
        refine wpOp_valw (v := v3) (w' := w) rfl (wanted_yes 6 63 ((r1 != 0 || r2 != 0)) hg (by rw [hs]; omega) rfl rfl rfl (by simpa using hb)) ?_ ⟨_, rfl, ?_, hS, fun _ _ _ h => epR_any h⟩
        · simp [execOp, Act.eval, t9]
        · rw [own_put rfl (by rw [hs]; omega)]; exact fun _ => rfl
      · obtain rfl := Option.some.inj (show some _ = some o from ho)
        have s64 : (r1 != 0 || r2 != 0) = false → a.tmps.getD 64 undef = v3 := hdone _ (Array.mem_of_getElem? (i := 0) rfl) rfl _ rfl
        have hg : a.tmps.getD 63 undef = .bool ((r1 != 0 || r2 != 0)) := hdone _ (Array.mem_of_getElem? (i := 1) rfl) rfl _ rfl
        by_cases hb : ((r1 != 0 || r2 != 0)) = false
        case neg => exact wpOp_no rfl (wanted_no 6 63 ((r1 != 0 || r2 != 0)) hg (by rw [hs]; omega) rfl rfl rfl (by simpa using hb)) ⟨_, rfl, fun h => absurd h hb, hS, fun _ _ _ h => epR_any h⟩
        refine wpOp_valw (v := .string s3) (w' := w) rfl (wanted_yes 6 63 ((r1 != 0 || r2 != 0)) hg (by rw [hs]; omega) rfl rfl rfl (by simpa using hb)) ?_ ⟨_, rfl, ?_, hS, fun _ _ _ h => epR_any h⟩
        · simp [execOp, Act.eval, s64 hb, (HC.out.1 hb w hS)]
        · rw [own_put rfl (by rw [hs]; omega)]; exact fun _ => rfl
      · obtain rfl := Option.some.inj (show some _ = some o from ho)
        have hg : a.tmps.getD 63 undef = .bool ((r1 != 0 || r2 != 0)) := hdone _ (Array.mem_of_getElem? (i := 0) rfl) rfl _ rfl
        by_cases hb : ((r1 != 0 || r2 != 0)) = false
        case neg => exact wpOp_no rfl (wanted_no 6 63 ((r1 != 0 || r2 != 0)) hg (by rw [hs]; omega) rfl rfl rfl (by simpa using hb)) ⟨_, rfl, fun h => absurd h hb, hS, fun _ _ _ h => epR_any h⟩
        refine wpOp_valw (v := v4) (w' := w) rfl (wanted_yes 6 63 ((r1 != 0 || r2 != 0)) hg (by rw [hs]; omega) rfl rfl rfl (by simpa using hb)) ?_ ⟨_, rfl, ?_, hS, fun _ _ _ h => epR_any h⟩
        · simp [execOp, Act.eval, t11]
        · rw [own_put rfl (by rw [hs]; omega)]; exact fun _ => rfl
      · obtain rfl := Option.some.inj (show some _ = some o from ho)
        have s66 : (r1 != 0 || r2 != 0) = false → a.tmps.getD 66 undef = v4 := hdone _ (Array.mem_of_getElem? (i := 0) rfl) rfl _ rfl
        have hg : a.tmps.getD 63 undef = .bool ((r1 != 0 || r2 != 0)) := hdone _ (Array.mem_of_getElem? (i := 1) rfl) rfl _ rfl
        by_cases hb : ((r1 != 0 || r2 != 0)) = false
        case neg => exact wpOp_no rfl (wanted_no 6 63 ((r1 != 0 || r2 != 0)) hg (by rw [hs]; omega) rfl rfl rfl (by simpa using hb)) ⟨_, rfl, fun h => absurd h hb, hS, fun _ _ _ h => epR_any h⟩
        refine wpOp_valw (v := .string s4) (w' := w) rfl (wanted_yes 6 63 ((r1 != 0 || r2 != 0)) hg (by rw [hs]; omega) rfl rfl rfl (by simpa using hb)) ?_ ⟨_, rfl, ?_, hS, fun _ _ _ h => epR_any h⟩
        · simp [execOp, Act.eval, s66 hb, (HC.out.2.1 hb w hS)]
        · rw [own_put rfl (by rw [hs]; omega)]; exact fun _ => rfl
      · obtain rfl := Option.some.inj (show some _ = some o from ho)
        have s65 : (r1 != 0 || r2 != 0) = false → a.tmps.getD 65 undef = .string s3 := hdone _ (Array.mem_of_getElem? (i := 0) rfl) rfl _ rfl
        have s67 : (r1 != 0 || r2 != 0) = false → a.tmps.getD 67 undef = .string s4 := hdone _ (Array.mem_of_getElem? (i := 1) rfl) rfl _ rfl
        have hg : a.tmps.getD 63 undef = .bool ((r1 != 0 || r2 != 0)) := hdone _ (Array.mem_of_getElem? (i := 2) rfl) rfl _ rfl
        by_cases hb : ((r1 != 0 || r2 != 0)) = false
        case neg => exact wpOp_no rfl (wanted_no 6 63 ((r1 != 0 || r2 != 0)) hg (by rw [hs]; omega) rfl rfl rfl (by simpa using hb)) ⟨_, rfl, fun h => absurd h hb, hS, fun _ _ _ h => epR_any h⟩
        refine wpOp_valw (v := .bool sm) (w' := w) rfl (wanted_yes 6 63 ((r1 != 0 || r2 != 0)) hg (by rw [hs]; omega) rfl rfl rfl (by simpa using hb)) ?_ ⟨_, rfl, ?_, hS, fun _ _ _ h => epR_any h⟩
        · (have hq := HC.out.2.2 hb; simp [execOp, Act.eval, s65 hb, s67 hb, go_sem, hq])
        · rw [own_put rfl (by rw [hs]; omega)]; exact fun _ => rfl
      · obtain rfl := Option.some.inj (show some _ = some o from ho)
        have hg : a.tmps.getD 63 undef = .bool ((r1 != 0 || r2 != 0)) := hdone _ (Array.mem_of_getElem? (i := 0) rfl) rfl _ rfl
        by_cases hb : ((r1 != 0 || r2 != 0)) = false
        case neg => exact wpOp_no rfl (wanted_no 6 63 ((r1 != 0 || r2 != 0)) hg (by rw [hs]; omega) rfl rfl rfl (by simpa using hb)) ⟨_, rfl, fun h => absurd h hb, hS, fun _ _ _ h => epR_any h⟩
        refine wpOp_valw (v := .agg #[.int .i64 c, .slice a1 l1 c1]) (w' := w) rfl (wanted_yes 6 63 ((r1 != 0 || r2 != 0)) hg (by rw [hs]; omega) rfl rfl rfl (by simpa using hb)) ?_ ⟨_, rfl, ?_, hS, fun _ _ _ h => epR_any h⟩
        · simp [execOp, Act.eval, t6, Instr.loadAt, Instr.sureAddr, load_prog (HB.out.1 w hS), Result.andThen_ok]
        · rw [own_put rfl (by rw [hs]; omega)]; exact fun _ => rfl
      · obtain rfl := Option.some.inj (show some _ = some o from ho)
        have hg : a.tmps.getD 63 undef = .bool ((r1 != 0 || r2 != 0)) := hdone _ (Array.mem_of_getElem? (i := 0) rfl) rfl _ rfl
        by_cases hb : ((r1 != 0 || r2 != 0)) = false
        case neg => exact wpOp_no rfl (wanted_no 6 63 ((r1 != 0 || r2 != 0)) hg (by rw [hs]; omega) rfl rfl rfl (by simpa using hb)) ⟨_, rfl, fun h => absurd h hb, hS, fun _ _ _ h => epR_any h⟩
        refine wpOp_valw (v := .agg #[.int .i64 d, .slice a2 l2 c2]) (w' := w) rfl (wanted_yes 6 63 ((r1 != 0 || r2 != 0)) hg (by rw [hs]; omega) rfl rfl rfl (by simpa using hb)) ?_ ⟨_, rfl, ?_, hS, fun _ _ _ h => epR_any h⟩
        · simp [execOp, Act.eval, t7, Instr.loadAt, Instr.sureAddr, load_prog (HB.out.2 w hS), Result.andThen_ok]
        · rw [own_put rfl (by rw [hs]; omega)]; exact fun _ => rfl
      · obtain rfl := Option.some.inj (show some _ = some o from ho)
        have s69 : (r1 != 0 || r2 != 0) = false → a.tmps.getD 69 undef = .agg #[.int .i64 c, .slice a1 l1 c1] := hdone _ (Array.mem_of_getElem? (i := 0) rfl) rfl _ rfl
        have s70 : (r1 != 0 || r2 != 0) = false → a.tmps.getD 70 undef = .agg #[.int .i64 d, .slice a2 l2 c2] := hdone _ (Array.mem_of_getElem? (i := 1) rfl) rfl _ rfl
        have hg : a.tmps.getD 63 undef = .bool ((r1 != 0 || r2 != 0)) := hdone _ (Array.mem_of_getElem? (i := 2) rfl) rfl _ rfl
        by_cases hb : ((r1 != 0 || r2 != 0)) = false
        case neg => exact wpOp_no rfl (wanted_no 6 63 ((r1 != 0 || r2 != 0)) hg (by rw [hs]; omega) rfl rfl rfl (by simpa using hb)) ⟨_, rfl, fun h => absurd h hb, hS, fun _ _ _ h => epR_any h⟩
        refine wpOp_callw (f := 20) (args := #[.agg #[.int .i64 c, .slice a1 l1 c1], .agg #[.int .i64 d, .slice a2 l2 c2]]) rfl (wanted_yes 6 63 ((r1 != 0 || r2 != 0)) hg (by rw [hs]; omega) rfl rfl rfl (by simpa using hb)) ?_ ?_
        · simp [go_sem, execOp, Act.eval, Deferred.ofValue, callFunc, Try.func20, Try.f20, s69 hb, s70 hb, resolve, invoke]
        · refine (SM.out _ hS).mono ?_
          rintro e w' ⟨rfl, b9⟩
          refine ⟨_, rfl, _, rfl, ?_, below_call hS b9, fun _ _ _ h => epR_any h⟩
          rw [own_put rfl (by rw [hs]; omega)]; exact fun _ => rfl
      · obtain rfl := Option.some.inj (show some _ = some o from ho)
        have s68 : (r1 != 0 || r2 != 0) = false → a.tmps.getD 68 undef = .bool sm := hdone _ (Array.mem_of_getElem? (i := 0) rfl) rfl _ rfl
        have s71 : (r1 != 0 || r2 != 0) = false → a.tmps.getD 71 undef = .bool sm := hdone _ (Array.mem_of_getElem? (i := 1) rfl) rfl _ rfl
        have hg : a.tmps.getD 63 undef = .bool ((r1 != 0 || r2 != 0)) := hdone _ (Array.mem_of_getElem? (i := 2) rfl) rfl _ rfl
        by_cases hb : ((r1 != 0 || r2 != 0)) = false
        case neg => exact wpOp_no rfl (wanted_no 6 63 ((r1 != 0 || r2 != 0)) hg (by rw [hs]; omega) rfl rfl rfl (by simpa using hb)) ⟨_, rfl, fun h => absurd h hb, hS, fun _ _ _ h => epR_any h⟩
        refine wpOp_valw (v := .bool true) (w' := w) rfl (wanted_yes 6 63 ((r1 != 0 || r2 != 0)) hg (by rw [hs]; omega) rfl rfl rfl (by simpa using hb)) ?_ ⟨_, rfl, ?_, hS, fun _ _ _ h => epR_any h⟩
        · simp [execOp, Act.eval, s68 hb, s71 hb, go_sem]
        · rw [own_put rfl (by rw [hs]; omega)]; exact fun _ => rfl
      · obtain rfl := Option.some.inj (show some _ = some o from ho)
        have s63 : a.tmps.getD 63 undef = .bool (r1 != 0 || r2 != 0) := hdone _ (Array.mem_of_getElem? (i := 0) rfl) rfl _ rfl
        have s72 : (r1 != 0 || r2 != 0) = false → a.tmps.getD 72 undef = .bool true := hdone _ (Array.mem_of_getElem? (i := 1) rfl) rfl _ rfl
        refine wpOp_val (v := .bool true) (w' := w) rfl rfl ?_ ⟨_, rfl, ?_, hS, fun _ _ _ h => epR_any h⟩
        · (cases hb : (r1 != 0 || r2 != 0)) <;> first | (simp [execOp, Act.eval, s63, s72 hb, hb, go_sem]; done) | (simp [execOp, Act.eval, s63, hb, go_sem]; done)
        · rw [own_put rfl (by rw [hs]; omega)]; exact rfl
      · obtain rfl := Option.some.inj (show some _ = some o from ho)
        have s73 : a.tmps.getD 73 undef = .bool true := hdone _ (Array.mem_of_getElem? (i := 0) rfl) rfl _ rfl
        refine wpOp_val (v := .bool true) (w' := w) rfl rfl ?_ ⟨_, rfl, ?_, hS, fun _ _ _ h => epR_any h⟩
        · simp [execOp, Act.eval, s73]
        · rw [own_put rfl (by rw [hs]; omega)]; exact rfl
      · obtain rfl := Option.some.inj (show some _ = some o from ho)
        have hg : a.tmps.getD 74 undef = .bool (true) := hdone _ (Array.mem_of_getElem? (i := 0) rfl) rfl _ rfl
        refine wpOp_callw (f := 9) (args := #[]) rfl (wanted_yes 17 74 true hg (by rw [hs]; omega) rfl rfl rfl rfl) ?_ ?_
        · simp [go_sem, execOp, Act.eval, Deferred.ofValue, callFunc, Try.func9, Try.f9, resolve, invoke]
        · refine (wakes_any _).mono ?_
          rintro e w' ⟨rfl, b9⟩
          refine ⟨_, rfl, _, rfl, ?_, below_call hS b9, fun _ _ _ h => epR_any h⟩
          rw [own_put rfl (by rw [hs]; omega)]; exact fun _ => rfl
      · obtain rfl := Option.some.inj (show some _ = some o from ho)
        have s74 : a.tmps.getD 74 undef = .bool true := hdone _ (Array.mem_of_getElem? (i := 0) rfl) rfl _ rfl
        have s75 : true = true → a.tmps.getD 75 undef = .bool true := hdone _ (Array.mem_of_getElem? (i := 1) rfl) rfl _ rfl
        refine wpOp_val (v := .bool true) (w' := w) rfl rfl ?_ ⟨_, rfl, ?_, hS, fun _ _ _ h => epR_any h⟩
        · simp [execOp, Act.eval, s74, s75 rfl, go_sem]
        · rw [own_put rfl (by rw [hs]; omega)]; exact rfl
      · obtain rfl := Option.some.inj (show some _ = some o from ho)
        have s76 : a.tmps.getD 76 undef = .bool true := hdone _ (Array.mem_of_getElem? (i := 0) rfl) rfl _ rfl
        refine wpOp_val (v := .bool true) (w' := w) rfl rfl ?_ ⟨_, rfl, ?_, hS, fun _ _ _ h => epR_any h⟩
        · simp [execOp, Act.eval, s76]
        · rw [own_put rfl (by rw [hs]; omega)]; exact rfl
    case hq =>
      intro u w' hS hR
      have f : u 8 = .bool true := hR 20 _ rfl
      clear hR
      rw [show outs _ u = [(57, u 57), (58, u 58), (59, u 59), (60, u 60), (61, u 61), (62, u 62), (63, u 63), (64, u 64), (65, u 65), (66, u 66), (67, u 67), (68, u 68), (69, u 69), (70, u 70), (71, u 71), (72, u 72), (73, u 73), (74, u 74), (75, u 75), (76, u 76), (8, u 8)] by kernel_rfl, f]
      simp only [putAll, List.setIfInBounds_toArray, List.set_cons_zero, List.set_cons_succ]
      generalize u 57 = y57; generalize u 58 = y58; generalize u 59 = y59; generalize u 60 = y60; generalize u 61 = y61; generalize u 62 = y62; generalize u 63 = y63; generalize u 64 = y64; generalize u 65 = y65; generalize u 66 = y66; generalize u 67 = y67; generalize u 68 = y68; generalize u 69 = y69; generalize u 70 = y70; generalize u 71 = y71; generalize u 72 = y72; generalize u 73 = y73; generalize u 74 = y74; generalize u 75 = y75; generalize u 76 = y76
      clear f u
      go_wp2_with fail
      go_ret
      exact ⟨rfl, below_call W6.out hS⟩


set_option maxRecDepth 100000 in
set_option maxHeartbeats 2000000 in
theorem apart_big1 (x y : In) (c : Int) (a1 : Option Addr) (l1 c1 : Nat) (d : Int) (a2 : Option Addr) (l2 c2 : Nat) (W : World) (g1 : 100 < l1) :
    Calls Try.prog 7 #[.agg x.cells, .agg y.cells, .agg #[.int .i64 c, .slice a1 l1 c1], .agg #[.int .i64 d, .slice a2 l2 c2]] W fun e w' => e = .returned (.bool true) ∧ Below W.heap.size W w' := by
  have G1 := great_any c a1 l1 c1
  rw [decide_eq_true g1] at G1
  have HG1 := Lib.hid G1
  clear G1
  generalize x.cells = cx at *
  generalize y.cells = cy at *
  go_enter Try.func7, Try.ntmps7
  go_wp2_with fail
  refine (HG1.out _).mono ?_
  rintro e w1 ⟨rfl, b1⟩
  go_wp2_with fail
  refine (wakes_any _).mono ?_
  rintro e w2 ⟨rfl, b2⟩
  go_wp2_with fail
  go_ret
  exact ⟨rfl, below_call (below_call (below_new (below_new (below_new (below_new (Below.refl _ W) _) _) _) _) b1) b2⟩
set_option maxRecDepth 100000 in
set_option maxHeartbeats 2000000 in
theorem apart_big2 (x y : In) (c : Int) (a1 : Option Addr) (l1 c1 : Nat) (d : Int) (a2 : Option Addr) (l2 c2 : Nat) (W : World) (g1 : ¬ 100 < l1) (g2 : 100 < l2) :
    Calls Try.prog 7 #[.agg x.cells, .agg y.cells, .agg #[.int .i64 c, .slice a1 l1 c1], .agg #[.int .i64 d, .slice a2 l2 c2]] W fun e w' => e = .returned (.bool true) ∧ Below W.heap.size W w' := by
  have G1 := great_any c a1 l1 c1
  have G2 := great_any d a2 l2 c2
  rw [decide_eq_false g1] at G1
  rw [decide_eq_true g2] at G2
  have HG1 := Lib.hid G1; have HG2 := Lib.hid G2
  clear G1 G2
  generalize x.cells = cx at *
  generalize y.cells = cy at *
  go_enter Try.func7, Try.ntmps7
  go_wp2_with fail
  refine (HG1.out _).mono ?_
  rintro e w1 ⟨rfl, b1⟩
  have q0 : w1.cell? ⟨W.heap.size + 1 + 1 + 1, 0, none⟩ = some (.int .i64 d) := (b1.cell (p := ⟨W.heap.size + 1 + 1 + 1, 0, none⟩) (by simp)).trans (two_cells (boxes4 W _ _ _ _).2.2.2).1
  have q1 : w1.cell? ⟨W.heap.size + 1 + 1 + 1, 1, none⟩ = some (.slice a2 l2 c2) := (b1.cell (p := ⟨W.heap.size + 1 + 1 + 1, 1, none⟩) (by simp)).trans (two_cells (boxes4 W _ _ _ _).2.2.2).2
  have B1 := Lib.hid (below_call (below_new (below_new (below_new (below_new (Below.refl _ W) _) _) _) _) b1)
  clear b1
  go_wp2_with fail
  refine (HG2.out _).mono ?_
  rintro e w2 ⟨rfl, b2⟩
  go_wp2_with fail
  refine (wakes_any _).mono ?_
  rintro e w3 ⟨rfl, b3⟩
  go_wp2_with fail
  go_ret
  exact ⟨rfl, below_call (below_call B1.out b2) b3⟩
theorem instrApart_law (x y : In) (c : Int) (a1 : Option Addr) (l1 c1 : Nat) (xs : Nat → In) (d : Int) (a2 : Option Addr) (l2 c2 : Nat) (ys : Nat → In) (W : World) (_ : x.Ok) (_ : y.Ok) (_ : (Lit.int .i64 c).wf = true) (hx : Insts W a1 l1 c1 xs) (_ : (Lit.int .i64 d).wf = true) (hy : Insts W a2 l2 c2 ys) :
    Calls Try.prog 7 #[.agg x.cells, .agg y.cells, .agg #[.int .i64 c, .slice a1 l1 c1], .agg #[.int .i64 d, .slice a2 l2 c2]] W fun e w' => e = .returned (.bool true) ∧ Below W.heap.size W w' := by
  by_cases g1 : 100 < l1
  · exact apart_big1 x y c a1 l1 c1 d a2 l2 c2 W g1
  by_cases g2 : 100 < l2
  · exact apart_big2 x y c a1 l1 c1 d a2 l2 c2 W g1 g2
  exact apart_main x y c a1 l1 c1 xs d a2 l2 c2 ys W hx hy g1 g2
end Go.Proofs.Ytbflanpfcbbblaa.Ins
