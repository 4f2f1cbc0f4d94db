/-
  The walk of the law BlocksBehind.
-/
import Derived.Test.YtpbaofidjikdhaaBlkE
namespace Go.Proofs.Ytpbaofidjikdhaa.Blk
open Go.RowKit Go.Maps Go.Sort Ins
set_option linter.unusedVariables false
set_option maxRecDepth 100000

theorem info_ins40 : ∃ i z, Try.prog.info? 46 = some i ∧ i.zero = some z ∧ z.cells.size = 9 ∧ i.size = 9 ∧ i.bytes ≤ 100 := by
  have h : (Try.prog.info? 46).map (fun i => (i.zero.map (·.cells.size), i.size, decide (i.bytes ≤ 100))) = some (some 9, 9, true) := by kernel_rfl
  cases hi : Try.prog.info? 46 with
  | none => rw [hi] at h; simp at h
  | some i =>
    rw [hi] at h
    simp at h
    obtain ⟨h1, h2, h3⟩ := h
    obtain ⟨z, hz, hz2⟩ := h1
    exact ⟨i, z, rfl, hz, hz2, h2, h3⟩

theorem halt_append {P : Program} {ops : Array Oper} {rest : List Oper} {o : Oper} {a : Act} {w : World} {Q : Exit → Act → World → Prop} (s x : Operand) (t : TypeId) (ho : o.op = .call { callee := .builtin .append, args := #[s, x], argTypes := #[t, t] })
    (h : wpList P ops Q (o :: rest) a w ∧ True) : wpList P ops Q (o :: rest) a w := h.1

/-- What Run yields, its length told. -/
def RanN (n : Nat) (bs : List Bk) (W : World) (e : Ending) (w' : World) : Prop :=
  ∃ a cap, e = .returned (.tuple #[.slice a n cap, .int .i64 0]) ∧ Blks w' a n cap bs ∧ Below W.heap.size W w'
theorem ran_n {s : Sh} {len n : Nat} {bs : List Bk} (h : bksF s len len = bs) (hn : bs.length = n) {W : World} {e : Ending} {w' : World} (hr : Ran s len W e w') : RanN n bs W e w' := by
  unfold Ran at hr
  rw [h, hn] at hr
  exact hr
theorem info_sl : (Try.prog.info? 49).map (·.size) = some 1 := by kernel_rfl

set_option maxHeartbeats 8000000 in
theorem blocksBehind_walk (c : Int) (a : Option Addr) (len cap : Nat) (xs : Nat → In) (W : World) (hx : Insts W a len cap xs) :
    Calls Try.prog 11 #[.agg #[.int .i64 c, .slice a len cap]] W fun e w' => e = .returned (.bool true) ∧ Below W.heap.size W w' := by
  have hfit := hx.fit
  have hle := hx.le
  have HX := Lib.hid hx; clear hx
  by_cases hg : 64 ≤ len
  · have hgI : (64 : Int) ≤ len := by omega
    go_enter Try.func11, Try.ntmps11
    go_wp2_with fail
    refine (wakes_any _).mono ?_
    rintro e w2 ⟨rfl, b2⟩
    go_wp2_with fail
    go_ret
    exact ⟨rfl, below_call (below_new (Below.refl _ _) _) b2⟩
  have hgI : (len : Int) < 64 := by omega
  by_cases hr : (checkI c len xs).2 = 0
  case neg =>
    have C := Lib.hid (fun W h => run_no c a len cap xs W h hr)
    generalize (checkI c len xs).2 = r at *
    have e0 : (r != 0) = true := by simpa using hr
    clear hr
    go_enter Try.func11, Try.ntmps11
    go_wp2_with fail
    refine (C.out _ (HX.out.below (below_new (Below.refl _ _) _))).mono ?_
    rintro e w2 ⟨rfl, b2⟩
    go_wp2_with fail
    refine (wakes_any _).mono ?_
    rintro e w3 ⟨rfl, b3⟩
    go_wp2_with fail
    go_ret
    exact ⟨rfl, below_call (below_call (below_new (Below.refl _ _) _) b2) b3⟩
  obtain ⟨bs, hbs⟩ : ∃ bs, bksF (sh xs) len len = bs := ⟨_, rfl⟩
  obtain ⟨L, hL⟩ : ∃ L, bs.length = L := ⟨_, rfl⟩
  have hL64 : L ≤ 64 := by
    have h1 := bksF_len (sh xs) len len
    have h2 := cnt_le_self (beg (sh xs) len) (len + 1)
    rw [hbs, hL] at h1
    omega
  have C := Lib.hid (fun W h => (run_yes c a len cap xs W h hr).mono (fun _ _ => ran_n hbs hL))
  have C2 := Lib.hid (fun a2 cap2 W h => (run_yes c a2 (len + 1) cap2 (moreI xs len) W h (check_more hr (by omega))).mono (fun _ _ => ran_n (n := L + 1) ((bksF_behind (fine_of hr).1 behind_more).trans (by rw [hbs])) (by rw [List.length_append, hL]; rfl)))
  have HL := Lib.hid hL
  have g1 := (check_facts hr).2.1.1
  obtain ⟨ti, tz, hi1, hi2, hi3, hi4, hi5⟩ := info_ins40
  have TI := Lib.hid (And.intro hi1 (And.intro hi2 (And.intro hi3 (And.intro hi4 hi5))))
  clear hi1 hi2 hi3 hi4 hi5 hr hbs hL
  go_enter Try.func11, Try.ntmps11
  go_wp2_with fail
  refine (C.out _ (HX.out.below (below_new (Below.refl _ _) _))).mono ?_
  rintro e w1 ⟨av, cv, rfl, hb1, b1⟩
  have hP1 : w1.cell? ⟨W.heap.size, 1, none⟩ = some (.slice a len cap) := (b1.cell (by simp)).trans (by simp)
  have hP0 : w1.cell? ⟨W.heap.size, 0, none⟩ = some (.int .i64 c) := (b1.cell (by simp)).trans (by simp)
  have B1 := Lib.hid (below_call (below_new (Below.refl _ W) _) b1)
  have hz : W.heap.size < w1.heap.size := by have := b1.size; simp at this; omega
  have HB := Lib.hid hb1
  clear b1 C hb1
  obtain ⟨B, q, rfl, hcells⟩ := HX.out.here (by omega)
  have HC := Lib.hid (fun i (hi : i < len) => rangeAt_below B1.out (hcells i hi))
  clear hcells
  go_wp2_with (refine (halt_append _ _ 49 rfl ?_))
  refine ⟨?_, trivial⟩
  have ball := Lib.hid ((Below.refl w1.heap.size w1).alloc (Nat.le_refl _) (.cells #[Value.int .i64 c, Value.slice none 0 0] 51))
  refine wpList_append_own _ rfl _ _ 49 rfl (w1.heap.size + 1) 46 ti tz 9 ti.bytes Try.underlying49 TI.out.1 TI.out.2.1 TI.out.2.2.2.1 rfl TI.out.2.2.1 (by decide) _ 0 [] rfl (World.ownsRow_nil _ _ _ _) ⟨B, q, none⟩ len cap (cellsI xs len) rfl (cellsI_length _ _) (insts_src (fun i hi => rangeAt_below ball.out (HC.out i hi))) (cellsI_one _ _) (by unfold maxLen; omega) (by have := Nat.mul_le_mul (show 0 + len ≤ 64 by omega) TI.out.2.2.2.2; omega) (by simp) ?_
  intro v1 w3 o3 g3a _
  have g3 : World.grownBy _ w3 none := g3a
  clear g3a
  have o3' : w3.ownsRow (w1.heap.size + 1) 46 9 v1 len (cellsI xs len) := by simpa using o3
  obtain ⟨gv, capv, rfl, hgv, _⟩ := own_insts o3' (by omega) HX.out.ok
  have O3 := Lib.hid o3'
  have X3 := Lib.hid (ball.out.trans ⟨g3.os, g3.tape, g3.output, g3.size, fun k hk => g3.block k (Nat.lt_of_lt_of_le hk ball.out.size) (fun e => by cases e)⟩)
  have M3 := Lib.hid (show w3.heap[w1.heap.size]? = some (.cells #[Value.int .i64 c, Value.slice none 0 0] 51 (0, 0)) from (g3.block _ (by simp) (fun e => by cases e)).trans (heap_last _ _ _ rfl))
  have hgv3 : gv < w3.heap.size := (World.ownsRow.lt o3' gv rfl).2
  clear o3 o3' g3 ball HC hP0
  generalize hm : w1.heap.size = m at *
  have Hm := Lib.hid hm; clear hm
  have HP1 := Lib.hid hP1; clear hP1
  go_wp2_with (refine (halt_store 49 _ _ rfl ?_))
  refine ⟨?_, trivial⟩
  refine wpList_store_cell rfl 49 _ _ rfl m 1 (.slice (some ⟨gv, 0, none⟩) len capv) rfl rfl rfl rfl 51 _ M3.out info_sl (by simp) ?_
  intro w4 s4
  have M4 := Lib.hid (show w4.heap[m]? = some (.cells #[Value.int .i64 c, Value.slice (some ⟨gv, 0, none⟩) len capv] 51 (0, 0)) from s4.row)
  have O4 := Lib.hid (O3.out.kept (grown_stored s4) (.inr (by simp [Value.ownBlock]; omega)))
  have X4 := Lib.hid (s4.below X3.out (by omega))
  have hgv4 : gv < w4.heap.size := by rw [s4.size]; exact hgv3
  have hm4 : m < w4.heap.size := (Array.getElem?_eq_some_iff.1 M4.out).1
  clear s4 M3 O3 X3 hgv3
  have hx1 : w4.cell? ⟨m, 1, none⟩ = some (.slice (some ⟨gv, 0, none⟩) len capv) := by simp [World.cell?, M4.out]
  go_wp2_with (refine (halt_append _ _ 49 rfl ?_))
  refine ⟨?_, trivial⟩
  clear hx1
  have b5 := Lib.hid ((Below.refl w4.heap.size w4).alloc (Nat.le_refl _) (.cells exitI.cells 46))
  have o5 := own_below O4.out b5.out
  refine wpList_append_own _ rfl _ _ 49 rfl (m + 1) 46 ti tz 9 ti.bytes Try.underlying49 TI.out.1 TI.out.2.1 TI.out.2.2.2.1 rfl TI.out.2.2.1 (by decide) _ len (cellsI xs len) rfl o5 ⟨w4.heap.size, 0, none⟩ 1 1 exitI.cells.toList rfl rfl (cells_new w4 _ _) (by have := one_cells exitI; rw [Array.all_eq_true_iff_forall_mem] at this; exact fun u hu => this u (by simpa using hu)) (by unfold maxLen; omega) (by have := Nat.mul_le_mul (show len + 1 ≤ 65 by omega) TI.out.2.2.2.2; omega) (by simp; omega) ?_
  intro v2 w6 o6 g6a _
  have g6 : World.grownBy _ w6 (some gv) := g6a
  have o6' : w6.ownsRow (m + 1) 46 9 v2 (len + 1) (cellsI (moreI xs len) (len + 1)) := by rw [cellsI_more]; exact o6
  obtain ⟨g2, cap2, rfl, hg2, _⟩ := own_insts o6' (by omega) (ok_more HX.out.ok)
  have O6 := Lib.hid o6'
  have M6 := Lib.hid (show w6.heap[m]? = some (.cells #[Value.int .i64 c, Value.slice (some ⟨gv, 0, none⟩) len capv] 51 (0, 0)) from (g6.block m (by simp; omega) (fun e => by injection e with e; omega)).trans ((heap_past w4 _ m hm4).trans M4.out))
  have X6 := Lib.hid ((X4.out.trans (b5.out.mono (Nat.le_of_lt hm4))).grown g6 (by have := X4.out.size; simp; omega) (fun j e => by injection e with e; omega))
  clear o6 o6' g6 g6a o5 b5 O4 M4 X4 hgv4
  go_wp2_with (refine (halt_store 49 _ _ rfl ?_))
  refine ⟨?_, trivial⟩
  refine wpList_store_cell rfl 49 _ _ rfl m 1 (.slice (some ⟨g2, 0, none⟩) (len + 1) cap2) rfl rfl rfl rfl 51 _ M6.out info_sl (by simp) ?_
  intro w7 s7
  have M7 := Lib.hid (show w7.heap[m]? = some (.cells #[Value.int .i64 c, Value.slice (some ⟨g2, 0, none⟩) (len + 1) cap2] 51 (0, 0)) from s7.row)
  have O7 := Lib.hid (O6.out.kept (grown_stored s7) (.inr (by simp [Value.ownBlock]; omega)))
  have X7 := Lib.hid (s7.below X6.out (by omega))
  clear s7 M6 O6 X6
  obtain ⟨g2', cap2', e2, _, hI7⟩ := own_insts O7.out (by omega) (ok_more HX.out.ok)
  injection e2 with e2 e3 e4
  injection e2 with e2
  injection e2 with e2
  subst e2 e4
  clear e3
  have I7 := Lib.hid hI7
  clear hI7
  have hx0 : w7.cell? ⟨m, 0, none⟩ = some (.int .i64 c) := by simp [World.cell?, M7.out]
  have hx1 : w7.cell? ⟨m, 1, none⟩ = some (.slice (some ⟨g2, 0, none⟩) (len + 1) cap2) := by simp [World.cell?, M7.out]
  go_wp2_with fail
  have LBl := Lib.hid (show Blks w7 av L cv bs from HB.out.below (by rw [Hm.out]; exact X7.out))
  have B7 := Lib.hid (below_call B1.out (show Below w1.heap.size w1 w7 by rw [Hm.out]; exact X7.out))
  have K7 := Lib.hid ((X7.out.cell (p := ⟨W.heap.size, 1, none⟩) hz).trans HP1.out)
  refine (C2.out _ _ _ I7.out).mono ?_
  rintro e w8 ⟨av2, cv2, rfl, hb8, b8⟩
  obtain ⟨bo, oo, rfl, hc8⟩ := hb8.here (by omega)
  obtain ⟨na, nc, q8, _⟩ := hc8 L _ (by rw [List.getElem?_append_right (by have := HL.out; omega), HL.out, Nat.sub_self]; rfl)
  obtain ⟨x0, x1, x2⟩ := blk_cells q8
  have hle8 := hb8.le
  have hfit8 := hb8.fit
  have S8 := Lib.hid (fun w b => sameBlk_any (some ⟨bo, oo, none⟩) av L cv2 L cv bs bs w ((hb8.first HL.out.symm).below (w := w) b) ((LBl.out.below b8).below b))
  rw [decide_eq_true rfl] at S8
  have hxm := (b8.cell (p := ⟨m, 1, none⟩) (lt_of_cell hx1)).trans hx1
  have hxp := (b8.cell (p := ⟨W.heap.size, 1, none⟩) (lt_of_cell K7.out)).trans K7.out
  have B8 := Lib.hid (below_call B7.out b8)
  clear q8 hc8 hb8 b8 hx0 hx1 C2 I7 B7 K7 M7 O7
  simp only [List.length_nil] at x2
  go_wp2_with fail
  refine (S8.out _ (Below.refl _ _)).mono ?_
  rintro e w9 ⟨rfl, b9⟩
  have y0 := (b9.cell (p := ⟨bo, oo + L * 3, none⟩) (lt_of_cell x0)).trans x0
  have y1 := (b9.cell (p := ⟨bo, oo + L * 3 + 1, none⟩) (lt_of_cell x1)).trans x1
  have y2 := (b9.cell (p := ⟨bo, oo + L * 3 + 2, none⟩) (lt_of_cell x2)).trans x2
  have ym := (b9.cell (p := ⟨m, 1, none⟩) (lt_of_cell hxm)).trans hxm
  have yp := (b9.cell (p := ⟨W.heap.size, 1, none⟩) (lt_of_cell hxp)).trans hxp
  have B9 := Lib.hid (below_call B8.out b9)
  have hl0 := lt_of_cell y0
  have hlm := lt_of_cell ym
  have hlp := lt_of_cell yp
  clear b9 x0 x1 x2 hxm hxp B8 S8
  go_wp2_with fail
  refine (wakes_any _).mono ?_
  rintro e w10 ⟨rfl, b10⟩
  go_wp2_with fail
  go_ret
  exact ⟨rfl, below_call (below_new B9.out _) b10⟩
theorem blocksBehind_law (c : Int) (a : Option Addr) (len cap : Nat) (xs : Nat → In) (W : World) (_ : (Lit.int .i64 c).wf = true) (hx : Insts W a len cap xs) :
    Calls Try.prog 11 #[.agg #[.int .i64 c, .slice a len cap]] W fun e w' => e = .returned (.bool true) ∧ Below W.heap.size W w' := blocksBehind_walk c a len cap xs W hx
end Go.Proofs.Ytpbaofidjikdhaa.Blk
