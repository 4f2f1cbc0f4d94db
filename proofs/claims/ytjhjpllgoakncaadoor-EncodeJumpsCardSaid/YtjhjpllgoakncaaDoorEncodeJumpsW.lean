/-
  The walk of the law EncodeJumps. (Written by gen_ejm.py.)
-/
import Derived.Test.YtjhjpllgoakncaaDoorEdB
import Derived.Deep.RegionHeld3
import Derived.LoopN
import Derived.Test.YtjhjpllgoakncaaDoorEzG
namespace Go.Proofs.YtjhjpllgoakncaaDoor.Mrm
open Go Go.RowKit
set_option linter.unusedVariables false
set_option linter.unnecessarySimpa false
set_option linter.unusedSimpArgs false
set_option maxRecDepth 100000

theorem jm_28_8 (n cc : Int) : mayX ⟨28, 8, 0, 0, 0, 0, n, 0⟩ = (fourB n && oneB n) := by
  show (true && (eqX ⟨28, 8, 0, 0, 0, 0, n, 0⟩ ⟨28, 8, 0, 0, 0, 0, n, 0⟩ && (true && (true && (true && (true && (fourB n && oneB n))))))) = _
  rw [eqX_refl]
  simp only [Bool.true_and]
theorem jm_28_32 (n cc : Int) : mayX ⟨28, 32, 0, 0, 0, 0, n, 0⟩ = (fourB n && true) := by
  show (true && (eqX ⟨28, 32, 0, 0, 0, 0, n, 0⟩ ⟨28, 32, 0, 0, 0, 0, n, 0⟩ && (true && (true && (true && (true && (fourB n && true))))))) = _
  rw [eqX_refl]
  simp only [Bool.true_and]
theorem jm_29_8 (n cc : Int) : mayX ⟨29, 8, 0, 0, 0, 0, n, cc⟩ = (fourB n && (oneB n && ccB cc)) := by
  show (true && (eqX ⟨29, 8, 0, 0, 0, 0, n, cc⟩ ⟨29, 8, 0, 0, 0, 0, n, cc⟩ && (true && (true && (true && (true && (fourB n && (oneB n && ccB cc)))))))) = _
  rw [eqX_refl]
  simp only [Bool.true_and]
theorem jm_29_32 (n cc : Int) : mayX ⟨29, 32, 0, 0, 0, 0, n, cc⟩ = (fourB n && ccB cc) := by
  show (true && (eqX ⟨29, 32, 0, 0, 0, 0, n, cc⟩ ⟨29, 32, 0, 0, 0, 0, n, cc⟩ && (true && (true && (true && (true && (fourB n && ccB cc))))))) = _
  rw [eqX_refl]
  simp only [Bool.true_and]
theorem jok {op w n cc : Int} (ho : op = 28 ∨ op = 29) (hw : w = 8 ∨ w = 32) (hn : -9223372036854775808 ≤ n ∧ n ≤ 9223372036854775807) (hc : -128 ≤ cc ∧ cc < 128) : XOk ⟨op, w, 0, 0, 0, 0, n, cc⟩ :=
  ⟨by show -128 ≤ op ∧ op < 128; rcases ho with rfl | rfl <;> decide, by show -128 ≤ w ∧ w < 128; rcases hw with rfl | rfl <;> decide, (⟨by decide, by decide⟩ : (-128 : Int) ≤ 0 ∧ (0 : Int) < 128), (⟨by decide, by decide⟩ : (-128 : Int) ≤ 0 ∧ (0 : Int) < 128), (⟨by decide, by decide⟩ : (-128 : Int) ≤ 0 ∧ (0 : Int) < 128), (⟨by decide, by decide⟩ : (-9223372036854775808 : Int) ≤ 0 ∧ (0 : Int) ≤ 9223372036854775807), hn, hc⟩
theorem jl_no {op w n cc : Int} (h : mayX ⟨op, w, 0, 0, 0, 0, n, cc⟩ = false) : ((bytL ⟨op, w, 0, 0, 0, 0, n, cc⟩).length : Int) = 0 := by rw [(bytL_no h).1]; rfl
theorem jl_yes {op w n cc : Int} (ho : op = 28 ∧ cc = 0 ∨ op = 29) (hw : w = 8 ∨ w = 32) (h : mayX ⟨op, w, 0, 0, 0, 0, n, cc⟩ = true) : ((bytL ⟨op, w, 0, 0, 0, 0, n, cc⟩).length : Int) = if w = 8 then 2 else if op = 28 then 5 else 6 := by
  rw [(bytL_yes h).1]
  rcases ho with ⟨rfl, rfl⟩ | rfl <;> rcases hw with rfl | rfl <;> rfl
theorem heap_cell {W w : World} {b o : Nat} {v : Value} (h : Below W.heap.size W w) (hc : W.cell? ⟨b, o, none⟩ = some v) : w.cell? ⟨b, o, none⟩ = some v := (h.cell (p := ⟨b, o, none⟩) (lt_cell hc)).trans hc
set_option maxHeartbeats 16000000 in
theorem jumps_law (cc n : Int) (w : World) (w0 : (Lit.int .i8 cc).wf = true) (w1 : (Lit.int .i64 n).wf = true) (hT : Tabs w) :
    Calls Tryd.prog 8 #[.int .i8 cc, .int .i64 n] w fun e w' => e = .returned (.bool true) ∧ Below w.heap.size w w' := by
  have hn : -9223372036854775808 ≤ n ∧ n ≤ 9223372036854775807 := by simpa [Lit.wf, IntKind.min, IntKind.max, IntKind.bits, IntKind.signed] using w1
  have hc : -128 ≤ cc ∧ cc < 128 := by
    have : -128 ≤ cc ∧ cc ≤ 127 := by simpa [Lit.wf, IntKind.min, IntKind.max, IntKind.bits, IntKind.signed] using w0
    omega
  have mo : Tryd.prog.follows .mixedOrders = true := by kernel_rfl
  have HT := Lib.hid hT
  have WK := Lib.hid (fun W hT => wakes_n W hT)
  obtain ⟨l28_8, e28_8⟩ : ∃ l : Int, ((bytL ⟨28, 8, 0, 0, 0, 0, n, 0⟩).length : Int) = l := ⟨_, rfl⟩
  have L28_8 := Lib.hid (fun W hT => show Calls Tryd.prog 13 #[.agg #[.int .i8 28, .int .i8 8, .int .i8 0, .int .i8 0, .int .i8 0, .int .i64 0, .int .i64 n, .int .i8 0]] W fun e w' => e = .returned (.int .i64 l28_8) ∧ Below W.heap.size W w' from by have q := len_n ⟨28, 8, 0, 0, 0, 0, n, 0⟩ (jok (.inl rfl) (.inl rfl) hn (by decide)) W hT; rw [e28_8] at q; exact q)
  have E28_8 := Lib.hid (show l28_8 = bif mayX ⟨28, 8, 0, 0, 0, 0, n, 0⟩ then 2 else 0 from by
    rw [← e28_8]
    cases hm : mayX ⟨28, 8, 0, 0, 0, 0, n, 0⟩
    · exact jl_no hm
    · exact (jl_yes (.inl ⟨rfl, rfl⟩) (.inl rfl) hm).trans (by decide))
  clear e28_8
  obtain ⟨l28_32, e28_32⟩ : ∃ l : Int, ((bytL ⟨28, 32, 0, 0, 0, 0, n, 0⟩).length : Int) = l := ⟨_, rfl⟩
  have L28_32 := Lib.hid (fun W hT => show Calls Tryd.prog 13 #[.agg #[.int .i8 28, .int .i8 32, .int .i8 0, .int .i8 0, .int .i8 0, .int .i64 0, .int .i64 n, .int .i8 0]] W fun e w' => e = .returned (.int .i64 l28_32) ∧ Below W.heap.size W w' from by have q := len_n ⟨28, 32, 0, 0, 0, 0, n, 0⟩ (jok (.inl rfl) (.inr rfl) hn (by decide)) W hT; rw [e28_32] at q; exact q)
  have E28_32 := Lib.hid (show l28_32 = bif mayX ⟨28, 32, 0, 0, 0, 0, n, 0⟩ then 5 else 0 from by
    rw [← e28_32]
    cases hm : mayX ⟨28, 32, 0, 0, 0, 0, n, 0⟩
    · exact jl_no hm
    · exact (jl_yes (.inl ⟨rfl, rfl⟩) (.inr rfl) hm).trans (by decide))
  clear e28_32
  have M28 := Lib.hid (fun W hT => show Calls Tryd.prog 11 #[.agg #[.int .i8 28, .int .i8 32, .int .i8 0, .int .i8 0, .int .i8 0, .int .i64 0, .int .i64 n, .int .i8 0]] W fun e w' => e = .returned (.bool (mayX ⟨28, 32, 0, 0, 0, 0, n, 0⟩)) ∧ Below W.heap.size W w' from may_n ⟨28, 32, 0, 0, 0, 0, n, 0⟩ (jok (.inl rfl) (.inr rfl) hn (by decide)) W hT)
  obtain ⟨l29_8, e29_8⟩ : ∃ l : Int, ((bytL ⟨29, 8, 0, 0, 0, 0, n, cc⟩).length : Int) = l := ⟨_, rfl⟩
  have L29_8 := Lib.hid (fun W hT => show Calls Tryd.prog 13 #[.agg #[.int .i8 29, .int .i8 8, .int .i8 0, .int .i8 0, .int .i8 0, .int .i64 0, .int .i64 n, .int .i8 cc]] W fun e w' => e = .returned (.int .i64 l29_8) ∧ Below W.heap.size W w' from by have q := len_n ⟨29, 8, 0, 0, 0, 0, n, cc⟩ (jok (.inr rfl) (.inl rfl) hn hc) W hT; rw [e29_8] at q; exact q)
  have E29_8 := Lib.hid (show l29_8 = bif mayX ⟨29, 8, 0, 0, 0, 0, n, cc⟩ then 2 else 0 from by
    rw [← e29_8]
    cases hm : mayX ⟨29, 8, 0, 0, 0, 0, n, cc⟩
    · exact jl_no hm
    · exact (jl_yes (.inr rfl) (.inl rfl) hm).trans (by decide))
  clear e29_8
  obtain ⟨l29_32, e29_32⟩ : ∃ l : Int, ((bytL ⟨29, 32, 0, 0, 0, 0, n, cc⟩).length : Int) = l := ⟨_, rfl⟩
  have L29_32 := Lib.hid (fun W hT => show Calls Tryd.prog 13 #[.agg #[.int .i8 29, .int .i8 32, .int .i8 0, .int .i8 0, .int .i8 0, .int .i64 0, .int .i64 n, .int .i8 cc]] W fun e w' => e = .returned (.int .i64 l29_32) ∧ Below W.heap.size W w' from by have q := len_n ⟨29, 32, 0, 0, 0, 0, n, cc⟩ (jok (.inr rfl) (.inr rfl) hn hc) W hT; rw [e29_32] at q; exact q)
  have E29_32 := Lib.hid (show l29_32 = bif mayX ⟨29, 32, 0, 0, 0, 0, n, cc⟩ then 6 else 0 from by
    rw [← e29_32]
    cases hm : mayX ⟨29, 32, 0, 0, 0, 0, n, cc⟩
    · exact jl_no hm
    · exact (jl_yes (.inr rfl) (.inr rfl) hm).trans (by decide))
  clear e29_32
  have M29 := Lib.hid (fun W hT => show Calls Tryd.prog 11 #[.agg #[.int .i8 29, .int .i8 32, .int .i8 0, .int .i8 0, .int .i8 0, .int .i64 0, .int .i64 n, .int .i8 cc]] W fun e w' => e = .returned (.bool (mayX ⟨29, 32, 0, 0, 0, 0, n, cc⟩)) ∧ Below W.heap.size W w' from may_n ⟨29, 32, 0, 0, 0, 0, n, cc⟩ (jok (.inr rfl) (.inr rfl) hn hc) W hT)
  clear hT hn hc w0 w1
  go_enter Tryd.func8, Tryd.ntmps8
  go_wp2_with fail
  go_loopw [14] (fun i wr => ∃ k : Nat, k ≤ 2 ∧ i = .int .i64 k ∧ Hid (Below w.heap.size w wr ∧ w.heap.size < wr.heap.size ∧ wr.cell? ⟨w.heap.size, 0, none⟩ = some (.int .i8 28) ∧ wr.cell? ⟨w.heap.size, 1, none⟩ = some (.int .i8 29))) (fun i _ => 2 - (intOf i).toNat)
  case atStart => exact ⟨0, by omega, rfl, Lib.hid ⟨below_new (Below.refl _ _) _, by rw [size_alloc]; omega, by simp only [World.cell?, heap_last w _ _ rfl]; rfl, by simp only [World.cell?, heap_last w _ _ rfl]; rfl⟩⟩
  case round =>
    obtain ⟨k, hk2, rfl, hk⟩ := hrel
    rcases (show k = 0 ∨ k = 1 ∨ k = 2 by omega) with rfl | rfl | rfl
    · have c0 := hk.out.2.2.1
      go_wp2_with fail
      have hx : ((wr.alloc (.cells #[.int .i8 28, .int .i8 8, .int .i8 0, .int .i8 0, .int .i8 0, .int .i64 0, .int .i64 n, .int .i8 0] 24)).alloc (.cells #[.int .i8 28, .int .i8 32, .int .i8 0, .int .i8 0, .int .i8 0, .int .i64 0, .int .i64 n, .int .i8 0] 24)).heap[wr.heap.size]? = some (.cells #[.int .i8 28, .int .i8 8, .int .i8 0, .int .i8 0, .int .i8 0, .int .i64 0, .int .i64 n, .int .i8 0] 24 (0, 0)) := (heap_past _ _ _ (by simp only [size_alloc]; omega)).trans (heap_last _ _ _ rfl)
      have hy : ((wr.alloc (.cells #[.int .i8 28, .int .i8 8, .int .i8 0, .int .i8 0, .int .i8 0, .int .i64 0, .int .i64 n, .int .i8 0] 24)).alloc (.cells #[.int .i8 28, .int .i8 32, .int .i8 0, .int .i8 0, .int .i8 0, .int .i64 0, .int .i64 n, .int .i8 0] 24)).heap[wr.heap.size + 1]? = some (.cells #[.int .i8 28, .int .i8 32, .int .i8 0, .int .i8 0, .int .i8 0, .int .i64 0, .int .i64 n, .int .i8 0] 24 (0, 0)) := heap_last _ _ _ (by simp only [size_alloc])
      have hs0 : ((wr.alloc (.cells #[.int .i8 28, .int .i8 8, .int .i8 0, .int .i8 0, .int .i8 0, .int .i64 0, .int .i64 n, .int .i8 0] 24)).alloc (.cells #[.int .i8 28, .int .i8 32, .int .i8 0, .int .i8 0, .int .i8 0, .int .i64 0, .int .i64 n, .int .i8 0] 24)).cell? ⟨w.heap.size, 0, none⟩ = some (.int .i8 28) := (heap_cell (below_new (below_new (Below.refl _ _) _) _) hk.out.2.2.1)
      have hs1 : ((wr.alloc (.cells #[.int .i8 28, .int .i8 8, .int .i8 0, .int .i8 0, .int .i8 0, .int .i64 0, .int .i64 n, .int .i8 0] 24)).alloc (.cells #[.int .i8 28, .int .i8 32, .int .i8 0, .int .i8 0, .int .i8 0, .int .i64 0, .int .i64 n, .int .i8 0] 24)).cell? ⟨w.heap.size, 1, none⟩ = some (.int .i8 29) := (heap_cell (below_new (below_new (Below.refl _ _) _) _) hk.out.2.2.2)
      have BB := Lib.hid (show Below w.heap.size w ((wr.alloc (.cells #[.int .i8 28, .int .i8 8, .int .i8 0, .int .i8 0, .int .i8 0, .int .i64 0, .int .i64 n, .int .i8 0] 24)).alloc (.cells #[.int .i8 28, .int .i8 32, .int .i8 0, .int .i8 0, .int .i8 0, .int .i64 0, .int .i64 n, .int .i8 0] 24)) from below_new (below_new hk.out.1 _) _)
      have LS := Lib.hid (show w.heap.size < ((wr.alloc (.cells #[.int .i8 28, .int .i8 8, .int .i8 0, .int .i8 0, .int .i8 0, .int .i64 0, .int .i64 n, .int .i8 0] 24)).alloc (.cells #[.int .i8 28, .int .i8 32, .int .i8 0, .int .i8 0, .int .i8 0, .int .i64 0, .int .i64 n, .int .i8 0] 24)).heap.size from by have := hk.out.2.1; simp only [size_alloc]; omega)
      generalize ((wr.alloc (.cells #[.int .i8 28, .int .i8 8, .int .i8 0, .int .i8 0, .int .i8 0, .int .i64 0, .int .i64 n, .int .i8 0] 24)).alloc (.cells #[.int .i8 28, .int .i8 32, .int .i8 0, .int .i8 0, .int .i8 0, .int .i64 0, .int .i64 n, .int .i8 0] 24)) = wq at *
      refine go_regz (belS wq) [] [] [some (.agg #[.int .i8 28, .int .i8 8, .int .i8 0, .int .i8 0, .int .i8 0, .int .i64 0, .int .i64 n, .int .i8 0]), some (.int .i64 l28_8), some (.agg #[.int .i8 28, .int .i8 32, .int .i8 0, .int .i8 0, .int .i8 0, .int .i64 0, .int .i64 n, .int .i8 0]), some (.int .i64 l28_32), some (.int .i64 l28_8), some (.int .i64 l28_32)] mo (fun fl fl' u u' w hK hD h => h) rfl rfl (by kernel_rfl) (fun fl w1 hfl b _ => b) (
       zc (@fun fl ax wx cx => cx.vg (wn rfl) (exec_loadR 24 _ rfl (wr.heap.size) 0 (cx.rq 7 rfl) (heap_below cx.S hx (Nat.le_refl _)) [.int .i8 28, .int .i8 8, .int .i8 0, .int .i8 0, .int .i8 0, .int .i64 0, .int .i64 n, .int .i8 0] rfl _ Tryd.underlying24 rfl (by kernel_rfl)) rfl rfl rfl rfl) <|
       zc (@fun fl ax wx cx => cx.cB (wn rfl) rfl (args1 (cx.u 0 rfl)) Tryd.func13 (by decide +kernel) rfl rfl (fun bx => L28_8.out wx (HT.out.below (below_call BB.out bx) (Nat.le_refl _))) rfl) <|
       zc (@fun fl ax wx cx => cx.vg (wn rfl) (exec_loadR 24 _ rfl (wr.heap.size + 1) 0 (cx.rq 8 rfl) (heap_below cx.S hy (Nat.le_refl _)) [.int .i8 28, .int .i8 32, .int .i8 0, .int .i8 0, .int .i8 0, .int .i64 0, .int .i64 n, .int .i8 0] rfl _ Tryd.underlying24 rfl (by kernel_rfl)) rfl rfl rfl rfl) <|
       zc (@fun fl ax wx cx => cx.cB (wn rfl) rfl (args1 (cx.u 0 rfl)) Tryd.func13 (by decide +kernel) rfl rfl (fun bx => L28_32.out wx (HT.out.below (below_call BB.out bx) (Nat.le_refl _))) rfl) <|
       zc (@fun fl ax wx cx => cx.vg (wn rfl) (ex_as rfl (cx.u 0 rfl)) rfl rfl rfl rfl) <|
       zc (@fun fl ax wx cx => cx.vg (wn rfl) (ex_as rfl (cx.u 0 rfl)) rfl rfl rfl rfl) <|
      zn) ?_
      intro ax1 wx1 fx1
      have Bx1 : Below wq.heap.size wq wx1 := by obtain ⟨_, _, hs⟩ := fx1.s; exact hs
      have gx1_30 : ax1.tmps.getD 30 undef = .agg #[.int .i8 28, .int .i8 8, .int .i8 0, .int .i8 0, .int .i8 0, .int .i64 0, .int .i64 n, .int .i8 0] := fx1.v 0 rfl rfl rfl
      have gx1_31 : ax1.tmps.getD 31 undef = .int .i64 l28_8 := fx1.v 1 rfl rfl rfl
      have gx1_32 : ax1.tmps.getD 32 undef = .agg #[.int .i8 28, .int .i8 32, .int .i8 0, .int .i8 0, .int .i8 0, .int .i64 0, .int .i64 n, .int .i8 0] := fx1.v 2 rfl rfl rfl
      have gx1_33 : ax1.tmps.getD 33 undef = .int .i64 l28_32 := fx1.v 3 rfl rfl rfl
      have gx1_9 : ax1.tmps.getD 9 undef = .int .i64 l28_8 := fx1.v 4 rfl rfl rfl
      have gx1_10 : ax1.tmps.getD 10 undef = .int .i64 l28_32 := fx1.v 5 rfl rfl rfl
      have RY := Lib.hid (heap_below Bx1 hy (Nat.le_refl _))
      have LZ := Lib.hid (Nat.lt_of_lt_of_le LS.out Bx1.size)
      have B3 := Lib.hid (below_call BB.out Bx1)
      have C3 := Lib.hid (And.intro (heap_cell Bx1 hs0) (heap_cell Bx1 hs1))
      clear hx hy hs0 hs1 Bx1
      rw [fx1.frame rfl rfl]
      clear fx1
      rw [show outs _ (fun d => ax1.tmps.getD d undef) = [(30, ax1.tmps.getD 30 undef), (31, ax1.tmps.getD 31 undef), (32, ax1.tmps.getD 32 undef), (33, ax1.tmps.getD 33 undef), (9, ax1.tmps.getD 9 undef), (10, ax1.tmps.getD 10 undef)] by kernel_rfl, gx1_30, gx1_31, gx1_32, gx1_33, gx1_9, gx1_10]
      simp only [putAll, List.setIfInBounds_toArray, List.set_cons_zero, List.set_cons_succ, Exit.then]
      clear gx1_30 gx1_31 gx1_32 gx1_33 gx1_9 gx1_10 ax1
      by_cases d1 : -128 ≤ n
      · by_cases d2 : n < 128
        · have o1 : oneB n = true := by unfold oneB; simp; omega
          have o4 : fourB n = true := by unfold fourB; simp; omega
          obtain rfl : l28_8 = 2 := by rw [E28_8.out, jm_28_8 n cc, o1, o4]; rfl
          obtain rfl : l28_32 = 5 := by rw [E28_32.out, jm_28_32 n cc, o4]; rfl
          clear o1 o4
          go_wp2_with fail
          go_roundw
          case rel => exact ⟨1, by omega, rfl, Lib.hid ⟨B3.out, LZ.out, C3.out.1, C3.out.2⟩⟩
          case measure => exact (show 1 < 2 by decide)
        · by_cases d3 : n < 2147483648
          · have o1 : oneB n = false := by unfold oneB; simp; omega
            have o4 : fourB n = true := by unfold fourB; simp; omega
            obtain rfl : l28_8 = 0 := by rw [E28_8.out, jm_28_8 n cc, o1, o4]; rfl
            obtain rfl : l28_32 = 5 := by rw [E28_32.out, jm_28_32 n cc, o4]; rfl
            clear o1 o4
            go_wp2_with fail
            go_roundw
            case rel => exact ⟨1, by omega, rfl, Lib.hid ⟨B3.out, LZ.out, C3.out.1, C3.out.2⟩⟩
            case measure => exact (show 1 < 2 by decide)
          · have o1 : oneB n = false := by unfold oneB; simp; omega
            have o4 : fourB n = false := by unfold fourB; simp; omega
            obtain rfl : l28_8 = 0 := by rw [E28_8.out, jm_28_8 n cc, o1, o4]; rfl
            obtain rfl : l28_32 = 0 := by rw [E28_32.out, jm_28_32 n cc, o4]; rfl
            rw [jm_28_32 n cc, o4] at M28
            have M28 := Lib.hid (fun W hT => M28.out W hT)
            clear o1 o4
            go_wp2_with (with_reducible refine (halt_load 24 _ rfl ?_))
            refine ⟨?_, trivial⟩
            refine wpList_gload_row rfl 24 _ rfl _ rfl _ _ _ _ RY.out Tryd.underlying24 rfl (by kernel_rfl) ?_
            go_wp2_with fail
            refine (M28.out _ (HT.out.below B3.out (Nat.le_refl _))).mono ?_
            rintro e wm ⟨rfl, bm⟩
            have B4 := Lib.hid (below_call B3.out bm)
            have C4 := Lib.hid (And.intro (heap_cell bm C3.out.1) (heap_cell bm C3.out.2))
            have Z4 := Lib.hid (Nat.lt_of_lt_of_le LZ.out bm.size)
            clear bm
            go_wp2_with fail
            go_roundw
            case rel => exact ⟨1, by omega, rfl, Lib.hid ⟨B4.out, Z4.out, C4.out.1, C4.out.2⟩⟩
            case measure => exact (show 1 < 2 by decide)
      · by_cases d3 : -2147483648 ≤ n
        · have o1 : oneB n = false := by unfold oneB; simp; omega
          have o4 : fourB n = true := by unfold fourB; simp; omega
          obtain rfl : l28_8 = 0 := by rw [E28_8.out, jm_28_8 n cc, o1, o4]; rfl
          obtain rfl : l28_32 = 5 := by rw [E28_32.out, jm_28_32 n cc, o4]; rfl
          clear o1 o4
          go_wp2_with fail
          go_roundw
          case rel => exact ⟨1, by omega, rfl, Lib.hid ⟨B3.out, LZ.out, C3.out.1, C3.out.2⟩⟩
          case measure => exact (show 1 < 2 by decide)
        · have o1 : oneB n = false := by unfold oneB; simp; omega
          have o4 : fourB n = false := by unfold fourB; simp; omega
          obtain rfl : l28_8 = 0 := by rw [E28_8.out, jm_28_8 n cc, o1, o4]; rfl
          obtain rfl : l28_32 = 0 := by rw [E28_32.out, jm_28_32 n cc, o4]; rfl
          rw [jm_28_32 n cc, o4] at M28
          have M28 := Lib.hid (fun W hT => M28.out W hT)
          clear o1 o4
          go_wp2_with (with_reducible refine (halt_load 24 _ rfl ?_))
          refine ⟨?_, trivial⟩
          refine wpList_gload_row rfl 24 _ rfl _ rfl _ _ _ _ RY.out Tryd.underlying24 rfl (by kernel_rfl) ?_
          go_wp2_with fail
          refine (M28.out _ (HT.out.below B3.out (Nat.le_refl _))).mono ?_
          rintro e wm ⟨rfl, bm⟩
          have B4 := Lib.hid (below_call B3.out bm)
          have C4 := Lib.hid (And.intro (heap_cell bm C3.out.1) (heap_cell bm C3.out.2))
          have Z4 := Lib.hid (Nat.lt_of_lt_of_le LZ.out bm.size)
          clear bm
          go_wp2_with fail
          go_roundw
          case rel => exact ⟨1, by omega, rfl, Lib.hid ⟨B4.out, Z4.out, C4.out.1, C4.out.2⟩⟩
          case measure => exact (show 1 < 2 by decide)
    · have c0 := hk.out.2.2.2
      go_wp2_with fail
      have hx : ((wr.alloc (.cells #[.int .i8 29, .int .i8 8, .int .i8 0, .int .i8 0, .int .i8 0, .int .i64 0, .int .i64 n, .int .i8 cc] 24)).alloc (.cells #[.int .i8 29, .int .i8 32, .int .i8 0, .int .i8 0, .int .i8 0, .int .i64 0, .int .i64 n, .int .i8 cc] 24)).heap[wr.heap.size]? = some (.cells #[.int .i8 29, .int .i8 8, .int .i8 0, .int .i8 0, .int .i8 0, .int .i64 0, .int .i64 n, .int .i8 cc] 24 (0, 0)) := (heap_past _ _ _ (by simp only [size_alloc]; omega)).trans (heap_last _ _ _ rfl)
      have hy : ((wr.alloc (.cells #[.int .i8 29, .int .i8 8, .int .i8 0, .int .i8 0, .int .i8 0, .int .i64 0, .int .i64 n, .int .i8 cc] 24)).alloc (.cells #[.int .i8 29, .int .i8 32, .int .i8 0, .int .i8 0, .int .i8 0, .int .i64 0, .int .i64 n, .int .i8 cc] 24)).heap[wr.heap.size + 1]? = some (.cells #[.int .i8 29, .int .i8 32, .int .i8 0, .int .i8 0, .int .i8 0, .int .i64 0, .int .i64 n, .int .i8 cc] 24 (0, 0)) := heap_last _ _ _ (by simp only [size_alloc])
      have hs0 : ((wr.alloc (.cells #[.int .i8 29, .int .i8 8, .int .i8 0, .int .i8 0, .int .i8 0, .int .i64 0, .int .i64 n, .int .i8 cc] 24)).alloc (.cells #[.int .i8 29, .int .i8 32, .int .i8 0, .int .i8 0, .int .i8 0, .int .i64 0, .int .i64 n, .int .i8 cc] 24)).cell? ⟨w.heap.size, 0, none⟩ = some (.int .i8 28) := (heap_cell (below_new (below_new (Below.refl _ _) _) _) hk.out.2.2.1)
      have hs1 : ((wr.alloc (.cells #[.int .i8 29, .int .i8 8, .int .i8 0, .int .i8 0, .int .i8 0, .int .i64 0, .int .i64 n, .int .i8 cc] 24)).alloc (.cells #[.int .i8 29, .int .i8 32, .int .i8 0, .int .i8 0, .int .i8 0, .int .i64 0, .int .i64 n, .int .i8 cc] 24)).cell? ⟨w.heap.size, 1, none⟩ = some (.int .i8 29) := (heap_cell (below_new (below_new (Below.refl _ _) _) _) hk.out.2.2.2)
      have BB := Lib.hid (show Below w.heap.size w ((wr.alloc (.cells #[.int .i8 29, .int .i8 8, .int .i8 0, .int .i8 0, .int .i8 0, .int .i64 0, .int .i64 n, .int .i8 cc] 24)).alloc (.cells #[.int .i8 29, .int .i8 32, .int .i8 0, .int .i8 0, .int .i8 0, .int .i64 0, .int .i64 n, .int .i8 cc] 24)) from below_new (below_new hk.out.1 _) _)
      have LS := Lib.hid (show w.heap.size < ((wr.alloc (.cells #[.int .i8 29, .int .i8 8, .int .i8 0, .int .i8 0, .int .i8 0, .int .i64 0, .int .i64 n, .int .i8 cc] 24)).alloc (.cells #[.int .i8 29, .int .i8 32, .int .i8 0, .int .i8 0, .int .i8 0, .int .i64 0, .int .i64 n, .int .i8 cc] 24)).heap.size from by have := hk.out.2.1; simp only [size_alloc]; omega)
      generalize ((wr.alloc (.cells #[.int .i8 29, .int .i8 8, .int .i8 0, .int .i8 0, .int .i8 0, .int .i64 0, .int .i64 n, .int .i8 cc] 24)).alloc (.cells #[.int .i8 29, .int .i8 32, .int .i8 0, .int .i8 0, .int .i8 0, .int .i64 0, .int .i64 n, .int .i8 cc] 24)) = wq at *
      refine go_regz (belS wq) [] [] [some (.agg #[.int .i8 29, .int .i8 8, .int .i8 0, .int .i8 0, .int .i8 0, .int .i64 0, .int .i64 n, .int .i8 cc]), some (.int .i64 l29_8), some (.agg #[.int .i8 29, .int .i8 32, .int .i8 0, .int .i8 0, .int .i8 0, .int .i64 0, .int .i64 n, .int .i8 cc]), some (.int .i64 l29_32), some (.int .i64 l29_8), some (.int .i64 l29_32)] mo (fun fl fl' u u' w hK hD h => h) rfl rfl (by kernel_rfl) (fun fl w1 hfl b _ => b) (
       zc (@fun fl ax wx cx => cx.vg (wn rfl) (exec_loadR 24 _ rfl (wr.heap.size) 0 (cx.rq 7 rfl) (heap_below cx.S hx (Nat.le_refl _)) [.int .i8 29, .int .i8 8, .int .i8 0, .int .i8 0, .int .i8 0, .int .i64 0, .int .i64 n, .int .i8 cc] rfl _ Tryd.underlying24 rfl (by kernel_rfl)) rfl rfl rfl rfl) <|
       zc (@fun fl ax wx cx => cx.cB (wn rfl) rfl (args1 (cx.u 0 rfl)) Tryd.func13 (by decide +kernel) rfl rfl (fun bx => L29_8.out wx (HT.out.below (below_call BB.out bx) (Nat.le_refl _))) rfl) <|
       zc (@fun fl ax wx cx => cx.vg (wn rfl) (exec_loadR 24 _ rfl (wr.heap.size + 1) 0 (cx.rq 8 rfl) (heap_below cx.S hy (Nat.le_refl _)) [.int .i8 29, .int .i8 32, .int .i8 0, .int .i8 0, .int .i8 0, .int .i64 0, .int .i64 n, .int .i8 cc] rfl _ Tryd.underlying24 rfl (by kernel_rfl)) rfl rfl rfl rfl) <|
       zc (@fun fl ax wx cx => cx.cB (wn rfl) rfl (args1 (cx.u 0 rfl)) Tryd.func13 (by decide +kernel) rfl rfl (fun bx => L29_32.out wx (HT.out.below (below_call BB.out bx) (Nat.le_refl _))) rfl) <|
       zc (@fun fl ax wx cx => cx.vg (wn rfl) (ex_as rfl (cx.u 0 rfl)) rfl rfl rfl rfl) <|
       zc (@fun fl ax wx cx => cx.vg (wn rfl) (ex_as rfl (cx.u 0 rfl)) rfl rfl rfl rfl) <|
      zn) ?_
      intro ax2 wx2 fx2
      have Bx2 : Below wq.heap.size wq wx2 := by obtain ⟨_, _, hs⟩ := fx2.s; exact hs
      have gx2_30 : ax2.tmps.getD 30 undef = .agg #[.int .i8 29, .int .i8 8, .int .i8 0, .int .i8 0, .int .i8 0, .int .i64 0, .int .i64 n, .int .i8 cc] := fx2.v 0 rfl rfl rfl
      have gx2_31 : ax2.tmps.getD 31 undef = .int .i64 l29_8 := fx2.v 1 rfl rfl rfl
      have gx2_32 : ax2.tmps.getD 32 undef = .agg #[.int .i8 29, .int .i8 32, .int .i8 0, .int .i8 0, .int .i8 0, .int .i64 0, .int .i64 n, .int .i8 cc] := fx2.v 2 rfl rfl rfl
      have gx2_33 : ax2.tmps.getD 33 undef = .int .i64 l29_32 := fx2.v 3 rfl rfl rfl
      have gx2_9 : ax2.tmps.getD 9 undef = .int .i64 l29_8 := fx2.v 4 rfl rfl rfl
      have gx2_10 : ax2.tmps.getD 10 undef = .int .i64 l29_32 := fx2.v 5 rfl rfl rfl
      have RY := Lib.hid (heap_below Bx2 hy (Nat.le_refl _))
      have LZ := Lib.hid (Nat.lt_of_lt_of_le LS.out Bx2.size)
      have B3 := Lib.hid (below_call BB.out Bx2)
      have C3 := Lib.hid (And.intro (heap_cell Bx2 hs0) (heap_cell Bx2 hs1))
      clear hx hy hs0 hs1 Bx2
      rw [fx2.frame rfl rfl]
      clear fx2
      rw [show outs _ (fun d => ax2.tmps.getD d undef) = [(30, ax2.tmps.getD 30 undef), (31, ax2.tmps.getD 31 undef), (32, ax2.tmps.getD 32 undef), (33, ax2.tmps.getD 33 undef), (9, ax2.tmps.getD 9 undef), (10, ax2.tmps.getD 10 undef)] by kernel_rfl, gx2_30, gx2_31, gx2_32, gx2_33, gx2_9, gx2_10]
      simp only [putAll, List.setIfInBounds_toArray, List.set_cons_zero, List.set_cons_succ, Exit.then]
      clear gx2_30 gx2_31 gx2_32 gx2_33 gx2_9 gx2_10 ax2
      cases hcc0 : ccB cc
      · have hcc := Lib.hid hcc0
        clear hcc0
        by_cases d1 : -128 ≤ n
        · by_cases d2 : n < 128
          · have o1 : oneB n = true := by unfold oneB; simp; omega
            have o4 : fourB n = true := by unfold fourB; simp; omega
            obtain rfl : l29_8 = 0 := by rw [E29_8.out, jm_29_8 n cc, o1, o4, hcc.out]; rfl
            obtain rfl : l29_32 = 0 := by rw [E29_32.out, jm_29_32 n cc, o4, hcc.out]; rfl
            rw [jm_29_32 n cc, o4, hcc.out] at M29
            have M29 := Lib.hid (fun W hT => M29.out W hT)
            clear o1 o4
            go_wp2_with (with_reducible refine (halt_load 24 _ rfl ?_))
            refine ⟨?_, trivial⟩
            refine wpList_gload_row rfl 24 _ rfl _ rfl _ _ _ _ RY.out Tryd.underlying24 rfl (by kernel_rfl) ?_
            go_wp2_with fail
            refine (M29.out _ (HT.out.below B3.out (Nat.le_refl _))).mono ?_
            rintro e wm ⟨rfl, bm⟩
            have B4 := Lib.hid (below_call B3.out bm)
            have C4 := Lib.hid (And.intro (heap_cell bm C3.out.1) (heap_cell bm C3.out.2))
            have Z4 := Lib.hid (Nat.lt_of_lt_of_le LZ.out bm.size)
            clear bm
            go_wp2_with fail
            go_roundw
            case rel => exact ⟨2, by omega, rfl, Lib.hid ⟨B4.out, Z4.out, C4.out.1, C4.out.2⟩⟩
            case measure => exact (show 0 < 1 by decide)
          · by_cases d3 : n < 2147483648
            · have o1 : oneB n = false := by unfold oneB; simp; omega
              have o4 : fourB n = true := by unfold fourB; simp; omega
              obtain rfl : l29_8 = 0 := by rw [E29_8.out, jm_29_8 n cc, o1, o4, hcc.out]; rfl
              obtain rfl : l29_32 = 0 := by rw [E29_32.out, jm_29_32 n cc, o4, hcc.out]; rfl
              rw [jm_29_32 n cc, o4, hcc.out] at M29
              have M29 := Lib.hid (fun W hT => M29.out W hT)
              clear o1 o4
              go_wp2_with (with_reducible refine (halt_load 24 _ rfl ?_))
              refine ⟨?_, trivial⟩
              refine wpList_gload_row rfl 24 _ rfl _ rfl _ _ _ _ RY.out Tryd.underlying24 rfl (by kernel_rfl) ?_
              go_wp2_with fail
              refine (M29.out _ (HT.out.below B3.out (Nat.le_refl _))).mono ?_
              rintro e wm ⟨rfl, bm⟩
              have B4 := Lib.hid (below_call B3.out bm)
              have C4 := Lib.hid (And.intro (heap_cell bm C3.out.1) (heap_cell bm C3.out.2))
              have Z4 := Lib.hid (Nat.lt_of_lt_of_le LZ.out bm.size)
              clear bm
              go_wp2_with fail
              go_roundw
              case rel => exact ⟨2, by omega, rfl, Lib.hid ⟨B4.out, Z4.out, C4.out.1, C4.out.2⟩⟩
              case measure => exact (show 0 < 1 by decide)
            · have o1 : oneB n = false := by unfold oneB; simp; omega
              have o4 : fourB n = false := by unfold fourB; simp; omega
              obtain rfl : l29_8 = 0 := by rw [E29_8.out, jm_29_8 n cc, o1, o4, hcc.out]; rfl
              obtain rfl : l29_32 = 0 := by rw [E29_32.out, jm_29_32 n cc, o4, hcc.out]; rfl
              rw [jm_29_32 n cc, o4, hcc.out] at M29
              have M29 := Lib.hid (fun W hT => M29.out W hT)
              clear o1 o4
              go_wp2_with (with_reducible refine (halt_load 24 _ rfl ?_))
              refine ⟨?_, trivial⟩
              refine wpList_gload_row rfl 24 _ rfl _ rfl _ _ _ _ RY.out Tryd.underlying24 rfl (by kernel_rfl) ?_
              go_wp2_with fail
              refine (M29.out _ (HT.out.below B3.out (Nat.le_refl _))).mono ?_
              rintro e wm ⟨rfl, bm⟩
              have B4 := Lib.hid (below_call B3.out bm)
              have C4 := Lib.hid (And.intro (heap_cell bm C3.out.1) (heap_cell bm C3.out.2))
              have Z4 := Lib.hid (Nat.lt_of_lt_of_le LZ.out bm.size)
              clear bm
              go_wp2_with fail
              go_roundw
              case rel => exact ⟨2, by omega, rfl, Lib.hid ⟨B4.out, Z4.out, C4.out.1, C4.out.2⟩⟩
              case measure => exact (show 0 < 1 by decide)
        · by_cases d3 : -2147483648 ≤ n
          · have o1 : oneB n = false := by unfold oneB; simp; omega
            have o4 : fourB n = true := by unfold fourB; simp; omega
            obtain rfl : l29_8 = 0 := by rw [E29_8.out, jm_29_8 n cc, o1, o4, hcc.out]; rfl
            obtain rfl : l29_32 = 0 := by rw [E29_32.out, jm_29_32 n cc, o4, hcc.out]; rfl
            rw [jm_29_32 n cc, o4, hcc.out] at M29
            have M29 := Lib.hid (fun W hT => M29.out W hT)
            clear o1 o4
            go_wp2_with (with_reducible refine (halt_load 24 _ rfl ?_))
            refine ⟨?_, trivial⟩
            refine wpList_gload_row rfl 24 _ rfl _ rfl _ _ _ _ RY.out Tryd.underlying24 rfl (by kernel_rfl) ?_
            go_wp2_with fail
            refine (M29.out _ (HT.out.below B3.out (Nat.le_refl _))).mono ?_
            rintro e wm ⟨rfl, bm⟩
            have B4 := Lib.hid (below_call B3.out bm)
            have C4 := Lib.hid (And.intro (heap_cell bm C3.out.1) (heap_cell bm C3.out.2))
            have Z4 := Lib.hid (Nat.lt_of_lt_of_le LZ.out bm.size)
            clear bm
            go_wp2_with fail
            go_roundw
            case rel => exact ⟨2, by omega, rfl, Lib.hid ⟨B4.out, Z4.out, C4.out.1, C4.out.2⟩⟩
            case measure => exact (show 0 < 1 by decide)
          · have o1 : oneB n = false := by unfold oneB; simp; omega
            have o4 : fourB n = false := by unfold fourB; simp; omega
            obtain rfl : l29_8 = 0 := by rw [E29_8.out, jm_29_8 n cc, o1, o4, hcc.out]; rfl
            obtain rfl : l29_32 = 0 := by rw [E29_32.out, jm_29_32 n cc, o4, hcc.out]; rfl
            rw [jm_29_32 n cc, o4, hcc.out] at M29
            have M29 := Lib.hid (fun W hT => M29.out W hT)
            clear o1 o4
            go_wp2_with (with_reducible refine (halt_load 24 _ rfl ?_))
            refine ⟨?_, trivial⟩
            refine wpList_gload_row rfl 24 _ rfl _ rfl _ _ _ _ RY.out Tryd.underlying24 rfl (by kernel_rfl) ?_
            go_wp2_with fail
            refine (M29.out _ (HT.out.below B3.out (Nat.le_refl _))).mono ?_
            rintro e wm ⟨rfl, bm⟩
            have B4 := Lib.hid (below_call B3.out bm)
            have C4 := Lib.hid (And.intro (heap_cell bm C3.out.1) (heap_cell bm C3.out.2))
            have Z4 := Lib.hid (Nat.lt_of_lt_of_le LZ.out bm.size)
            clear bm
            go_wp2_with fail
            go_roundw
            case rel => exact ⟨2, by omega, rfl, Lib.hid ⟨B4.out, Z4.out, C4.out.1, C4.out.2⟩⟩
            case measure => exact (show 0 < 1 by decide)
      · have hcc := Lib.hid hcc0
        clear hcc0
        by_cases d1 : -128 ≤ n
        · by_cases d2 : n < 128
          · have o1 : oneB n = true := by unfold oneB; simp; omega
            have o4 : fourB n = true := by unfold fourB; simp; omega
            obtain rfl : l29_8 = 2 := by rw [E29_8.out, jm_29_8 n cc, o1, o4, hcc.out]; rfl
            obtain rfl : l29_32 = 6 := by rw [E29_32.out, jm_29_32 n cc, o4, hcc.out]; rfl
            clear o1 o4
            go_wp2_with fail
            go_roundw
            case rel => exact ⟨2, by omega, rfl, Lib.hid ⟨B3.out, LZ.out, C3.out.1, C3.out.2⟩⟩
            case measure => exact (show 0 < 1 by decide)
          · by_cases d3 : n < 2147483648
            · have o1 : oneB n = false := by unfold oneB; simp; omega
              have o4 : fourB n = true := by unfold fourB; simp; omega
              obtain rfl : l29_8 = 0 := by rw [E29_8.out, jm_29_8 n cc, o1, o4, hcc.out]; rfl
              obtain rfl : l29_32 = 6 := by rw [E29_32.out, jm_29_32 n cc, o4, hcc.out]; rfl
              clear o1 o4
              go_wp2_with fail
              go_roundw
              case rel => exact ⟨2, by omega, rfl, Lib.hid ⟨B3.out, LZ.out, C3.out.1, C3.out.2⟩⟩
              case measure => exact (show 0 < 1 by decide)
            · have o1 : oneB n = false := by unfold oneB; simp; omega
              have o4 : fourB n = false := by unfold fourB; simp; omega
              obtain rfl : l29_8 = 0 := by rw [E29_8.out, jm_29_8 n cc, o1, o4, hcc.out]; rfl
              obtain rfl : l29_32 = 0 := by rw [E29_32.out, jm_29_32 n cc, o4, hcc.out]; rfl
              rw [jm_29_32 n cc, o4, hcc.out] at M29
              have M29 := Lib.hid (fun W hT => M29.out W hT)
              clear o1 o4
              go_wp2_with (with_reducible refine (halt_load 24 _ rfl ?_))
              refine ⟨?_, trivial⟩
              refine wpList_gload_row rfl 24 _ rfl _ rfl _ _ _ _ RY.out Tryd.underlying24 rfl (by kernel_rfl) ?_
              go_wp2_with fail
              refine (M29.out _ (HT.out.below B3.out (Nat.le_refl _))).mono ?_
              rintro e wm ⟨rfl, bm⟩
              have B4 := Lib.hid (below_call B3.out bm)
              have C4 := Lib.hid (And.intro (heap_cell bm C3.out.1) (heap_cell bm C3.out.2))
              have Z4 := Lib.hid (Nat.lt_of_lt_of_le LZ.out bm.size)
              clear bm
              go_wp2_with fail
              go_roundw
              case rel => exact ⟨2, by omega, rfl, Lib.hid ⟨B4.out, Z4.out, C4.out.1, C4.out.2⟩⟩
              case measure => exact (show 0 < 1 by decide)
        · by_cases d3 : -2147483648 ≤ n
          · have o1 : oneB n = false := by unfold oneB; simp; omega
            have o4 : fourB n = true := by unfold fourB; simp; omega
            obtain rfl : l29_8 = 0 := by rw [E29_8.out, jm_29_8 n cc, o1, o4, hcc.out]; rfl
            obtain rfl : l29_32 = 6 := by rw [E29_32.out, jm_29_32 n cc, o4, hcc.out]; rfl
            clear o1 o4
            go_wp2_with fail
            go_roundw
            case rel => exact ⟨2, by omega, rfl, Lib.hid ⟨B3.out, LZ.out, C3.out.1, C3.out.2⟩⟩
            case measure => exact (show 0 < 1 by decide)
          · have o1 : oneB n = false := by unfold oneB; simp; omega
            have o4 : fourB n = false := by unfold fourB; simp; omega
            obtain rfl : l29_8 = 0 := by rw [E29_8.out, jm_29_8 n cc, o1, o4, hcc.out]; rfl
            obtain rfl : l29_32 = 0 := by rw [E29_32.out, jm_29_32 n cc, o4, hcc.out]; rfl
            rw [jm_29_32 n cc, o4, hcc.out] at M29
            have M29 := Lib.hid (fun W hT => M29.out W hT)
            clear o1 o4
            go_wp2_with (with_reducible refine (halt_load 24 _ rfl ?_))
            refine ⟨?_, trivial⟩
            refine wpList_gload_row rfl 24 _ rfl _ rfl _ _ _ _ RY.out Tryd.underlying24 rfl (by kernel_rfl) ?_
            go_wp2_with fail
            refine (M29.out _ (HT.out.below B3.out (Nat.le_refl _))).mono ?_
            rintro e wm ⟨rfl, bm⟩
            have B4 := Lib.hid (below_call B3.out bm)
            have C4 := Lib.hid (And.intro (heap_cell bm C3.out.1) (heap_cell bm C3.out.2))
            have Z4 := Lib.hid (Nat.lt_of_lt_of_le LZ.out bm.size)
            clear bm
            go_wp2_with fail
            go_roundw
            case rel => exact ⟨2, by omega, rfl, Lib.hid ⟨B4.out, Z4.out, C4.out.1, C4.out.2⟩⟩
            case measure => exact (show 0 < 1 by decide)
    · go_wp2_with fail
      refine (WK.out _ (HT.out.below hk.out.1 (Nat.le_refl _))).mono ?_
      rintro e w3 ⟨rfl, b3⟩
      go_wp2_with fail
      go_ret
      exact ⟨rfl, below_call hk.out.1 b3⟩
end Go.Proofs.YtjhjpllgoakncaaDoor.Mrm
