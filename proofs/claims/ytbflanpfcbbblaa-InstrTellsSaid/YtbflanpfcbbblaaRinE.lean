/-
  The document's answer latheref03: Bytes.
-/
import Derived.Test.YtbflanpfcbbblaaRinD
import Derived.Great.BuildSlice
namespace Go.Proofs.Ytbflanpfcbbblaa.Ins
open Go.RowKit
set_option linter.unusedVariables false

/-- What the operations of the region yield. -/
def rbR (x : In) (W : World) : Nat → Value → Value → World → Prop
  | 0, v, _, _ => v = .agg x.cells
  | 1, v, _, _ => v = .int .i64 (codeI x)
  | 2, v, _, _ => v = .int .u8 (codeI x)
  | 3, v, _, _ => v = .pointer (some ⟨W.heap.size, 5, none⟩)
  | 4, v, _, _ => v = .int .i8 x.dst
  | 5, v, _, _ => v = .int .u8 x.dst
  | 6, v, _, _ => v = .pointer (some ⟨W.heap.size, 6, none⟩)
  | 7, v, _, _ => v = .int .i8 x.src
  | 8, v, _, _ => v = .int .u8 x.src
  | 9, v, _, _ => v = .int .u8 (16 * x.src)
  | 10, v, _, _ => v = .int .u8 (x.dst + 16 * x.src)
  | 11, v, _, w => w.ownsRow (W.heap.size + 1) 5 1 v 2 (u8s [codeI x, x.dst + 16 * x.src])
  | 12, v, _, w => w.ownsRow (W.heap.size + 1) 5 1 v 2 (u8s [codeI x, x.dst + 16 * x.src])
  | _, _, _, _ => True
theorem rbR_below {x : In} {W : World} {w w' : World} (b : Below w.heap.size w w') {j : Nat} {v u : Value} (h : rbR x W j v u w) : rbR x W j v u w' := by
  unfold rbR at *
  split at h <;> first | exact h | trivial | exact owns_below h b
theorem two_own {base : Nat} (w : World) (p q : Int) (hb : base ≤ w.heap.size) : (w.alloc (.cells #[.int .u8 p, .int .u8 q] 5)).ownsRow base 5 1 (.slice (some ⟨w.heap.size, 0, none⟩) 2 2) 2 (u8s [p, q]) :=
  ⟨rfl, .inr ⟨w.heap.size, 2, _, rfl, hb, heap_last w _ _ rfl, Nat.le_refl _, by decide, rfl, rfl⟩⟩

theorem exec_build2 {ρ : Operand → Value} {o : Oper} (p q : Int) (w : World) (ho : o.op = .buildSlice 30 2 #[(0, .tmp 10), (1, .tmp 18)]) (h1 : ρ (.tmp 10) = .int .u8 p) (h2 : ρ (.tmp 18) = .int .u8 q) :
    (execOp ρ o).run Try.prog w = .ok (.value (.slice (some ⟨w.heap.size, 0, none⟩) 2 2)) (w.alloc (.cells #[.int .u8 p, .int .u8 q] 5)) := by
  obtain ⟨ti, hi1, hi2, hi3, hi4⟩ := info_u8a
  have e : (#[(0, Operand.tmp 10), (1, Operand.tmp 18)].map fun (i, x) => (i, ρ x)) = #[(0, .int .u8 p), (1, .int .u8 q)] := by simp [h1, h2]
  have r := run_buildSlice (P := Try.prog) w 30 5 2 #[(0, .int .u8 p), (1, .int .u8 q)] #[.int .u8 p, .int .u8 q] ti (.int .u8 0) Try.underlying30 hi1 hi2 (by rw [hi3]; decide) (by rw [hi3]; decide) (by rw [hi3]; kernel_rfl)
  unfold execOp
  simp only [ho, e, Sem.run_bind, r, Result.andThen_ok, Sem.run_pure]

theorem own_src {w : World} {base n : Nat} {v : Value} {l : List Value} {e : TypeId} (h : w.ownsRow base e 1 v n l) (hn : 0 < n) : ∃ g cap, v = .slice (some ⟨g, 0, none⟩) n cap ∧ ∀ j u, l[j]? = some u → w.cell? ((⟨g, 0, none⟩ : Addr).add j) = some u := by
  obtain ⟨hl, h⟩ := h
  rcases h with ⟨_, h⟩ | ⟨g, cap, cur, rfl, _, hg, _, _, hs, ht⟩
  · omega
  · refine ⟨g, cap, rfl, fun j u hu => ?_⟩
    rw [← ht] at hu
    have hj : j < n * 1 := by
      by_cases hj : j < n * 1
      · exact hj
      · rw [List.getElem?_eq_none (by simp; omega)] at hu; cases hu
    rw [List.getElem?_take_of_lt hj, Array.getElem?_toList] at hu
    rw [Go.WideShapes.add_plain, Nat.zero_add]
    simpa [World.cell?, hg] using hu
theorem owns_mono {w : World} {b b' : Nat} {e : TypeId} {s n : Nat} {v : Value} {xs : List Value} (hb : b' ≤ b) (h : w.ownsRow b e s v n xs) : w.ownsRow b' e s v n xs := by
  refine ⟨h.1, ?_⟩
  rcases h.2 with h | ⟨g, cap, cur, e1, e2, r⟩
  · exact .inl h
  · exact .inr ⟨g, cap, cur, e1, Nat.le_trans hb e2, r⟩
theorem bytes_parts {x : In} (h : mayI x = true) : (List.range 8).map (byteI (packI x)) = [codeI x, x.dst + 16 * x.src] ++ (List.range 2).map (byteI (x.off % 18446744073709551616)) ++ (List.range 4).map (byteI (x.imm % 18446744073709551616)) := by
  have cb := codeI_bd h
  obtain ⟨_, _, _, _, _⟩ := mayI_cases h
  show [byteI _ 0, byteI _ 1, byteI _ 2, byteI _ 3, byteI _ 4, byteI _ 5, byteI _ 6, byteI _ 7] = [_, _, byteI _ 0, byteI _ 1, byteI _ 0, byteI _ 1, byteI _ 2, byteI _ 3]
  have p0 : (2 : Int) ^ (8 * 0) = 1 := rfl
  have p1 : (2 : Int) ^ (8 * 1) = 256 := rfl
  have p2 : (2 : Int) ^ (8 * 2) = 65536 := rfl
  have p3 : (2 : Int) ^ (8 * 3) = 16777216 := rfl
  have p4 : (2 : Int) ^ (8 * 4) = 4294967296 := rfl
  have p5 : (2 : Int) ^ (8 * 5) = 1099511627776 := rfl
  have p6 : (2 : Int) ^ (8 * 6) = 281474976710656 := rfl
  have p7 : (2 : Int) ^ (8 * 7) = 72057594037927936 := rfl
  unfold byteI packI
  rw [p0, p1, p2, p3, p4, p5, p6, p7]
  simp only [List.cons.injEq, and_true]
  refine ⟨by omega, by omega, by omega, by omega, by omega, by omega, by omega, by omega⟩

/-- What Bytes yields of one that may be. -/
def RBytes (x : In) (W : World) (e : Ending) (w' : World) : Prop :=
  ∃ v, e = .returned (.tuple #[v, .int .i64 0]) ∧ w'.ownsRow W.heap.size 5 1 v 8 (u8s ((List.range 8).map (byteI (packI x)))) ∧ Below W.heap.size W w'

set_option maxRecDepth 100000 in
set_option maxHeartbeats 8000000 in
theorem r_bytes_yes (x : In) (W : World) (h : mayI x = true) : Calls Try.prog 11 #[.agg x.cells] W (RBytes x W) := by
  have M := fun W => r_may x W
  rw [h] at M
  have HM := Lib.hid M; clear M
  have cb := codeI_bd h
  have hcas := mayI_cases h
  have H := Lib.hid (show mayI x = true ∧ IntKind.u8.wrap (codeI x) = codeI x ∧ IntKind.u8.wrap x.dst = x.dst ∧ IntKind.u8.wrap x.src = x.src ∧ IntKind.u8.wrap (16 * x.src) = 16 * x.src ∧ IntKind.u8.wrap (x.dst + 16 * x.src) = x.dst + 16 * x.src from
    ⟨h, by simp [IntKind.wrap, IntKind.signed, IntKind.bits]; omega, by simp [IntKind.wrap, IntKind.signed, IntKind.bits]; omega, by simp [IntKind.wrap, IntKind.signed, IntKind.bits]; omega, by simp [IntKind.wrap, IntKind.signed, IntKind.bits]; omega, by simp [IntKind.wrap, IntKind.signed, IntKind.bits]; omega⟩)
  clear h cb hcas
  have L0 : (W.alloc (.cells x.cells 24)).heap[W.heap.size]? = some (.cells x.cells 24 (0, 0)) := heap_last W _ _ rfl
  have i9 : (Try.prog.info? 24).map (·.size) = some x.cells.size := info_ins
  have HL := Lib.hid L0; have HI := Lib.hid i9
  clear L0 i9
  generalize hcc : x.cells = cc at *
  go_enter Try.func11, Try.ntmps11
  go_wp2_with (refine (halt_load 24 _ rfl ?_))
  refine ⟨?_, trivial⟩
  refine wpList_load_row rfl 24 _ rfl W.heap.size rfl _ cc _ _ HL.out Try.underlying24 rfl HI.out ?_
  go_wp2_with fail
  refine (HM.out _).mono ?_
  rintro e w1 ⟨rfl, b1⟩
  have X1 := Lib.hid (show Below W.heap.size W w1 ∧ w1.heap[W.heap.size]? = some (.cells cc 24 (0, 0)) from ⟨below_boxed b1, (b1.block _ (by simp)).trans HL.out⟩)
  clear b1
  go_wp2_with fail
  subst hcc
  refine wp_region_inv (fun _ => 100000) (fun w => Below W.heap.size W w ∧ w.heap[W.heap.size]? = some (.cells x.cells 24 (0, 0))) (rbR x W) (by kernel_rfl) (back_of (by kernel_rfl)) (dst_of (by kernel_rfl)) (dep_of (by kernel_rfl)) (in_of (by kernel_rfl)) ⟨Below.drew X1.out.1, X1.out.2⟩ ?hop ?hq
  case hop =>
    intro i o a w ho hS hdf hsz hrest hdone
    have t1 : a.tmps.getD 1 undef = .pointer (some ⟨W.heap.size, 0, none⟩) := hrest 1 (not_of (by kernel_rfl))
    have hs : a.tmps.size = 32 := hsz.trans rfl
    have hi : i < 13 := (Array.getElem?_eq_some_iff.1 ho).1
    clear hrest hsz hdf
    obtain rfl | rfl | rfl | rfl | rfl | rfl | rfl | rfl | rfl | rfl | rfl | rfl | rfl : i = 0 ∨ i = 1 ∨ i = 2 ∨ i = 3 ∨ i = 4 ∨ i = 5 ∨ i = 6 ∨ i = 7 ∨ i = 8 ∨ i = 9 ∨ i = 10 ∨ i = 11 ∨ i = 12 := by omega
    · obtain rfl := Option.some.inj (show some _ = some o from ho)
      refine wpOp_val (v := .agg x.cells) (w' := w) rfl rfl ?_ ⟨_, rfl, ?_, hS, fun _ _ _ h => h⟩
      · simp [execOp, Act.eval, t1, Instr.loadAt, Instr.sureAddr, load_boxed x hS.2, Result.andThen_ok]
      · rw [own_put rfl (by rw [hs]; omega)]; exact rfl
    · obtain rfl := Option.some.inj (show some _ = some o from ho)
      have s8 : a.tmps.getD 8 undef = .agg x.cells := hdone _ (Array.mem_of_getElem? (i := 0) rfl) rfl _ rfl
      refine wpOp_call (f := 30) (args := #[.agg x.cells]) rfl rfl ?_ ?_
      · simp [go_sem, execOp, Act.eval, Deferred.ofValue, callFunc, Try.func30, Try.f30, s8, resolve, invoke]
      · refine (r_code x _ H.out.1).mono ?_
        rintro e w' ⟨rfl, b9⟩
        refine ⟨_, rfl, _, rfl, ?_, box_keep hS b9, fun _ _ _ h => rbR_below b9 h⟩
        rw [own_put rfl (by rw [hs]; omega)]; exact rfl
    · obtain rfl := Option.some.inj (show some _ = some o from ho)
      have s9 : a.tmps.getD 9 undef = .int .i64 (codeI x) := hdone _ (Array.mem_of_getElem? (i := 0) rfl) rfl _ rfl
      refine wpOp_val (v := .int .u8 (codeI x)) (w' := w) rfl rfl ?_ ⟨_, rfl, ?_, hS, fun _ _ _ h => h⟩
      · (have hq := H.out.2.1; simp [execOp, Act.eval, s9, go_sem, hq])
      · rw [own_put rfl (by rw [hs]; omega)]; exact rfl
    · obtain rfl := Option.some.inj (show some _ = some o from ho)
      refine wpOp_val (v := .pointer (some ⟨W.heap.size, 5, none⟩)) (w' := w) rfl rfl ?_ ⟨_, rfl, ?_, hS, fun _ _ _ h => h⟩
      · simp [execOp, Act.eval, t1, go_sem]
      · rw [own_put rfl (by rw [hs]; omega)]; exact rfl
    · obtain rfl := Option.some.inj (show some _ = some o from ho)
      have s11 : a.tmps.getD 11 undef = .pointer (some ⟨W.heap.size, 5, none⟩) := hdone _ (Array.mem_of_getElem? (i := 0) rfl) rfl _ rfl
      have hc : w.cell? ⟨W.heap.size, 5, none⟩ = some (.int .i8 x.dst) := by simp only [World.cell?, hS.2]; rfl
      refine wpOp_val (v := .int .i8 x.dst) (w' := w) rfl rfl ?_ ⟨_, rfl, ?_, hS, fun _ _ _ h => h⟩
      · simp [execOp, Act.eval, s11, hc, go_sem]
      · rw [own_put rfl (by rw [hs]; omega)]; exact rfl
    · obtain rfl := Option.some.inj (show some _ = some o from ho)
      have s12 : a.tmps.getD 12 undef = .int .i8 x.dst := hdone _ (Array.mem_of_getElem? (i := 0) rfl) rfl _ rfl
      refine wpOp_val (v := .int .u8 x.dst) (w' := w) rfl rfl ?_ ⟨_, rfl, ?_, hS, fun _ _ _ h => h⟩
      · (have hq := H.out.2.2.1; simp [execOp, Act.eval, s12, go_sem, hq])
      · rw [own_put rfl (by rw [hs]; omega)]; exact rfl
    · obtain rfl := Option.some.inj (show some _ = some o from ho)
      refine wpOp_val (v := .pointer (some ⟨W.heap.size, 6, none⟩)) (w' := w) rfl rfl ?_ ⟨_, rfl, ?_, hS, fun _ _ _ h => h⟩
      · simp [execOp, Act.eval, t1, go_sem]
      · rw [own_put rfl (by rw [hs]; omega)]; exact rfl
    · obtain rfl := Option.some.inj (show some _ = some o from ho)
      have s14 : a.tmps.getD 14 undef = .pointer (some ⟨W.heap.size, 6, none⟩) := hdone _ (Array.mem_of_getElem? (i := 0) rfl) rfl _ rfl
      have hc : w.cell? ⟨W.heap.size, 6, none⟩ = some (.int .i8 x.src) := by simp only [World.cell?, hS.2]; rfl
      refine wpOp_val (v := .int .i8 x.src) (w' := w) rfl rfl ?_ ⟨_, rfl, ?_, hS, fun _ _ _ h => h⟩
      · simp [execOp, Act.eval, s14, hc, go_sem]
      · rw [own_put rfl (by rw [hs]; omega)]; exact rfl
    · obtain rfl := Option.some.inj (show some _ = some o from ho)
      have s15 : a.tmps.getD 15 undef = .int .i8 x.src := hdone _ (Array.mem_of_getElem? (i := 0) rfl) rfl _ rfl
      refine wpOp_val (v := .int .u8 x.src) (w' := w) rfl rfl ?_ ⟨_, rfl, ?_, hS, fun _ _ _ h => h⟩
      · (have hq := H.out.2.2.2.1; simp [execOp, Act.eval, s15, go_sem, hq])
      · rw [own_put rfl (by rw [hs]; omega)]; exact rfl
    · obtain rfl := Option.some.inj (show some _ = some o from ho)
      have s16 : a.tmps.getD 16 undef = .int .u8 x.src := hdone _ (Array.mem_of_getElem? (i := 0) rfl) rfl _ rfl
      refine wpOp_val (v := .int .u8 (16 * x.src)) (w' := w) rfl rfl ?_ ⟨_, rfl, ?_, hS, fun _ _ _ h => h⟩
      · (have hq := H.out.2.2.2.2.1; simp [execOp, Act.eval, s16, go_sem, hq])
      · rw [own_put rfl (by rw [hs]; omega)]; exact rfl
    · obtain rfl := Option.some.inj (show some _ = some o from ho)
      have s13 : a.tmps.getD 13 undef = .int .u8 x.dst := hdone _ (Array.mem_of_getElem? (i := 0) rfl) rfl _ rfl
      have s17 : a.tmps.getD 17 undef = .int .u8 (16 * x.src) := hdone _ (Array.mem_of_getElem? (i := 1) rfl) rfl _ rfl
      refine wpOp_val (v := .int .u8 (x.dst + 16 * x.src)) (w' := w) rfl rfl ?_ ⟨_, rfl, ?_, hS, fun _ _ _ h => h⟩
      · (have hq := H.out.2.2.2.2.2; simp [execOp, Act.eval, s13, s17, go_sem, hq])
      · rw [own_put rfl (by rw [hs]; omega)]; exact rfl
    · obtain rfl := Option.some.inj (show some _ = some o from ho)
      have s10 : a.tmps.getD 10 undef = .int .u8 (codeI x) := hdone _ (Array.mem_of_getElem? (i := 0) rfl) rfl _ rfl
      have s18 : a.tmps.getD 18 undef = .int .u8 (x.dst + 16 * x.src) := hdone _ (Array.mem_of_getElem? (i := 1) rfl) rfl _ rfl
      refine wpOp_val (v := .slice (some ⟨w.heap.size, 0, none⟩) 2 2) (w' := w.alloc (.cells #[.int .u8 (codeI x), .int .u8 (x.dst + 16 * x.src)] 5)) rfl rfl ?_ ⟨_, rfl, ?_, box_keep hS (below_new (Below.refl _ _) _), fun _ _ _ h => rbR_below (below_new (Below.refl _ _) _) h⟩
      · exact exec_build2 _ _ w rfl s10 s18
      · rw [own_put rfl (by rw [hs]; omega)]; exact two_own _ _ _ (Array.getElem?_eq_some_iff.1 hS.2).1
    · obtain rfl := Option.some.inj (show some _ = some o from ho)
      have s19 : w.ownsRow (W.heap.size + 1) 5 1 (a.tmps.getD 19 undef) 2 (u8s [codeI x, x.dst + 16 * x.src]) := hdone _ (Array.mem_of_getElem? (i := 0) rfl) rfl _ rfl
      refine wpOp_val (v := a.tmps.getD 19 undef) (w' := w) rfl rfl ?_ ⟨_, rfl, ?_, hS, fun _ _ _ h => h⟩
      · simp [execOp, Act.eval]
      · rw [own_put rfl (by rw [hs]; omega)]; exact s19
  case hq =>
    intro u w' hS hR
    have f : w'.ownsRow (W.heap.size + 1) 5 1 (u 4) 2 (u8s [codeI x, x.dst + 16 * x.src]) := hR 12 _ rfl
    clear hR
    rw [show outs _ u = [(8, u 8), (9, u 9), (10, u 10), (11, u 11), (12, u 12), (13, u 13), (14, u 14), (15, u 15), (16, u 16), (17, u 17), (18, u 18), (19, u 19), (4, u 4)] by kernel_rfl]
    simp only [putAll, List.setIfInBounds_toArray, List.set_cons_zero, List.set_cons_succ]
    generalize u 8 = y8 at *; generalize u 9 = y9 at *; generalize u 10 = y10 at *; generalize u 11 = y11 at *; generalize u 12 = y12 at *; generalize u 13 = y13 at *; generalize u 14 = y14 at *; generalize u 15 = y15 at *; generalize u 16 = y16 at *; generalize u 17 = y17 at *; generalize u 18 = y18 at *; generalize u 19 = y19 at *; generalize u 4 = y4 at *
    clear u
    have X2 := Lib.hid hS
    have OW := Lib.hid f
    clear hS f
    obtain ⟨n0, n1, n2, n3, n4, n5, n6, n7, n8⟩ := nine_of X2.out.2
    clear n0 n1 n2 n3 n4 n5 n6
    have PO := Lib.hid (fun W => r_put (x.off % 18446744073709551616) 2 (by omega) (by omega) (by omega) W)
    have PI := Lib.hid (fun W => r_put (x.imm % 18446744073709551616) 4 (by omega) (by omega) (by omega) W)
    obtain ⟨ti, hi1, hi2, hi3, hi4⟩ := info_u8a
    have TI := Lib.hid (And.intro hi1 (And.intro hi2 (And.intro hi3 hi4)))
    clear hi1 hi2 hi3 hi4 HL HI HM X1
    go_wp2_with fail
    refine (PO.out _).mono ?_
    rintro e w3 ⟨v3, rfl, o3, b3⟩
    obtain ⟨g3, p3, rfl, hs3⟩ := own_src o3 (by omega)
    have X3 := Lib.hid (box_keep X2.out b3)
    have O3 := Lib.hid (owns_below OW.out b3)
    have S3 := Lib.hid hs3
    clear b3 o3 hs3 n7 n8 OW X2
    have k3 := Lib.hid (show (u8s ((List.range 2).map (byteI (x.off % 18446744073709551616)))).length = 2 * 1 by simp [u8s])
    have k4 := Lib.hid (u8s_one ((List.range 2).map (byteI (x.off % 18446744073709551616))))
    have z3 := Lib.hid (show W.heap.size + 1 ≤ w3.heap.size from (Array.getElem?_eq_some_iff.1 X3.out.2).1)
    have HA := Lib.hid (u8s_append [codeI x, x.dst + 16 * x.src] ((List.range 2).map (byteI (x.off % 18446744073709551616))))
    generalize hl1 : u8s ((List.range 2).map (byteI (x.off % 18446744073709551616))) = nl1 at *
    generalize hl0 : u8s [codeI x, x.dst + 16 * x.src] = nl0 at *
    have HL1 := Lib.hid hl1; have HL0 := Lib.hid hl0; clear hl1 hl0
    go_wp2_with (at_builtin; refine wpList_append_own w3 rfl _ _ 30 rfl (W.heap.size + 1) 5 ti (.int .u8 0) 1 1 Try.underlying30 TI.out.1 TI.out.2.1 TI.out.2.2.1 TI.out.2.2.2 rfl (by decide) _ 2 _ rfl O3.out ⟨g3, 0, none⟩ 2 p3 nl1 rfl k3.out S3.out k4.out (by decide) (by decide) z3.out ?_)
    intro v4 w4 o4 g4 _
    have X4 := Lib.hid (show Below W.heap.size W w4 ∧ w4.heap[W.heap.size]? = some (.cells x.cells 24 (0, 0)) from ⟨below_grown X3.out.1 g4 (fun j hj => by have := (World.ownsRow.lt O3.out j hj).1; omega), (g4.block W.heap.size (Array.getElem?_eq_some_iff.1 X3.out.2).1 (fun e => by have := (World.ownsRow.lt O3.out _ e.symm).1; omega)).trans X3.out.2⟩)
    have O4 := Lib.hid o4
    clear o4 g4 O3 X3 S3 k3 k4 z3
    obtain ⟨n0, n1, n2, n3, n4, n5, n6, n7, n8⟩ := nine_of X4.out.2
    clear n0 n1 n2 n3 n4 n5 n6 n7
    go_wp2_with fail
    refine (PI.out _).mono ?_
    rintro e w5 ⟨v5, rfl, o5, b5⟩
    obtain ⟨g5, p5, rfl, hs5⟩ := own_src o5 (by omega)
    have X5 := Lib.hid (box_keep X4.out b5)
    have O5 := Lib.hid (owns_below O4.out b5)
    have S5 := Lib.hid hs5
    clear b5 o5 hs5 n8 O4 X4
    have k3 := Lib.hid (show (u8s ((List.range 4).map (byteI (x.imm % 18446744073709551616)))).length = 4 * 1 by simp [u8s])
    have k4 := Lib.hid (u8s_one ((List.range 4).map (byteI (x.imm % 18446744073709551616))))
    have z3 := Lib.hid (show W.heap.size + 1 ≤ w5.heap.size from (Array.getElem?_eq_some_iff.1 X5.out.2).1)
    generalize hl2 : u8s ((List.range 4).map (byteI (x.imm % 18446744073709551616))) = nl2 at *
    have HL2 := Lib.hid hl2; clear hl2
    generalize hl3 : nl0 ++ nl1 = nl3 at *
    have HL3 := Lib.hid hl3; clear hl3
    go_wp2_with (at_builtin; refine wpList_append_own w5 rfl _ _ 30 rfl (W.heap.size + 1) 5 ti (.int .u8 0) 1 1 Try.underlying30 TI.out.1 TI.out.2.1 TI.out.2.2.1 TI.out.2.2.2 rfl (by decide) _ (2 + 2) _ rfl O5.out ⟨g5, 0, none⟩ 4 p5 nl2 rfl k3.out S5.out k4.out (by decide) (by decide) z3.out ?_)
    intro v6 w6 o6 g6 _
    have W6 := Lib.hid (below_grown X5.out.1 g6 (fun j hj => by have := (World.ownsRow.lt O5.out j hj).1; omega))
    have O6 := Lib.hid (show w6.ownsRow W.heap.size 5 1 v6 8 (u8s ((List.range 8).map (byteI (packI x)))) by rw [bytes_parts H.out.1, u8s_append, u8s_append, HL0.out, HL1.out, HL2.out, HL3.out]; exact owns_mono (by omega) o6)
    clear o6 g6
    go_wp2_with fail
    go_ret2
    exact ⟨_, rfl, O6.out, W6.out⟩
end Go.Proofs.Ytbflanpfcbbblaa.Ins
