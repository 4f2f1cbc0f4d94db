/-
  Package mem: a memory in the heap; its regions with their bytes in place.
-/
import Derived.Test.YtpbnmbeedjhloaaMemI
import Derived.Deep.RegionHeld3
import Derived.StillTailTactics
import Derived.RegionTactic
import Derived.ChangeAlike
namespace Go.Proofs.Ytpbnmbeedjhloaa
open Go.RowKit
set_option linter.unusedVariables false
set_option maxRecDepth 100000

theorem info_bs : (Try.prog.info? 22).map (·.size) = some 1 := by kernel_rfl
theorem heap_drew (w : World) (k : Nat) : w.drew.heap[k]? = w.heap[k]? := rfl

/-- A memory: where its code lies and how much, the context's size, whether it has a stack, its bytes by their places in the struct. -/
structure MemS where
  cb : Nat
  cn : Nat
  n : Nat
  hs : Bool
  g : Nat → Int
def MemS.val (S : MemS) (i : Nat) : Value :=
  if i = 0 then .slice (some ⟨S.cb, 0, none⟩) S.cn S.cn else if i = 257 then .int .i64 S.n else if i = 586 then .bool S.hs else .int .u8 (S.g i)
/-- It lies in block b. -/
structure MemS.at (S : MemS) (w : World) (b : Nat) : Prop where
  row : w.rowIs b 97 587 S.val
  cn : S.cn ≤ 16384
  n : S.n ≤ 256
  far : S.cb ≠ b
  bytes : ∀ i, 0 ≤ S.g i ∧ S.g i < 256
/-- Its regions. -/
def MemS.regs (S : MemS) (b : Nat) : Array Value :=
  #[.int .u64 0, .int .u64 0, .bool false, .slice none 0 0,
    .int .u64 1048576, .int .u64 (limI S.cn 16384), .bool true, .slice (some ⟨S.cb, 0, none⟩) S.cn S.cn,
    .int .u64 2097152, .int .u64 (limI S.n 256), .bool false, .slice (some ⟨b, 1, none⟩) S.n S.n,
    .int .u64 3145728, .int .u64 64, .bool false, .slice (some ⟨b, 258, none⟩) 64 64,
    .int .u64 4194304, .int .u64 (stkI S.hs), .bool false, .slice (some ⟨b, 322, none⟩) 264 264]

theorem regs_one (S : MemS) (b : Nat) : (S.regs b).all (·.oneCell') = true := by kernel_rfl
theorem MemS.keep {S : MemS} {W w : World} {b : Nat} (h : S.at W b) (hB : Below W.heap.size W w) : w.cell? ⟨b, 0, none⟩ = some (.slice (some ⟨S.cb, 0, none⟩) S.cn S.cn) ∧ w.cell? ⟨b, 257, none⟩ = some (.int .i64 S.n) ∧ w.cell? ⟨b, 586, none⟩ = some (.bool S.hs) ∧ Below W.heap.size W w :=
  ⟨(hB.cell (p := ⟨b, 0, none⟩) h.row.lt).trans (h.row.cell (i := 0) (by omega)), (hB.cell (p := ⟨b, 257, none⟩) h.row.lt).trans (h.row.cell (i := 257) (by omega)), (hB.cell (p := ⟨b, 586, none⟩) h.row.lt).trans (h.row.cell (i := 586) (by omega)), hB⟩

set_option maxRecDepth 100000 in
set_option maxHeartbeats 1000000 in
theorem regions_any (S : MemS) (b : Nat) (W : World) (hS : S.at W b) :
    Calls Try.prog 73 #[.pointer (some ⟨b, 0, none⟩)] W fun e w' => e = .returned (.agg (S.regs b)) ∧ Below W.heap.size W w' := by
  have c0 : W.cell? ⟨b, 0, none⟩ = some (.slice (some ⟨S.cb, 0, none⟩) S.cn S.cn) := hS.row.cell (i := 0) (by omega)
  have c257 : W.cell? ⟨b, 257, none⟩ = some (.int .i64 S.n) := hS.row.cell (i := 257) (by omega)
  have c586 : W.cell? ⟨b, 586, none⟩ = some (.bool S.hs) := hS.row.cell (i := 586) (by omega)
  have lb := hS.row.lt
  have hn : (S.n : Int) ≤ 256 := by have := hS.n; omega
  have hi := Lib.hid (show (Try.prog.info? 112).map (·.size) = some (placeCells S.n S.cn (stkI S.hs)).size from info_regs)
  have h1 := Lib.hid (places_one S.n S.cn (stkI S.hs))
  have HS := Lib.hid hS; clear hS
  go_enter Try.func73, Try.ntmps73
  go_wp2_with fail
  go_region_held3 (fun w' => w'.cell? ⟨b, 0, none⟩ = some (.slice (some ⟨S.cb, 0, none⟩) S.cn S.cn) ∧ w'.cell? ⟨b, 257, none⟩ = some (.int .i64 S.n) ∧ w'.cell? ⟨b, 586, none⟩ = some (.bool S.hs) ∧ Below W.heap.size W w')
    ((go_split_ands; refine MemS.keep HS.out ?_; repeat' (first | assumption | exact Below.refl _ _ | apply Below.drew | apply below_new | exact below_call (by assumption) b1 | (refine below_call ?_ b1) | (refine Stored.below s2 ?_ ?_) | (simp; done) | (have := b1.size; simp at this ⊢; omega))))
    (first | (go_at_call 115; refine (places_any _ _ _ _).mono ?_; rintro e w1 ⟨rfl, b1⟩) | (refine upon_store_is _ (placeCells S.n S.cn (stkI S.hs)) 112 zeroRegs ?_ rfl h1.out ?_; (focus (first | exact heap_last _ _ _ rfl | exact (b1.block _ (by simp)).trans ((heap_drew _ _).trans (heap_last _ _ _ (by simp))))); intro w2 s2))
  · obtain ⟨d0, d257, d586, b2⟩ := (by assumption : _ ∧ _ ∧ _ ∧ Below W.heap.size W w2)
    have hGW : W.heap.size < w1.heap.size := by have := b1.size; simp at this; omega
    have r6 : w2.heap[W.heap.size]? = some (.cells zeroRegs 112 (0, 0)) := (s2.other _ (by omega)).trans ((heap_past _ _ _ hGW).trans ((b1.block _ (by simp)).trans ((heap_drew _ _).trans (heap_last _ _ _ rfl))))
    generalize hG : w1.heap.size = G at *
    have hG' := Lib.hid hG; clear hG
    have R2 := Lib.hid s2.row; clear s2
    have B2 := Lib.hid b2; clear b2
    have B1 := Lib.hid b1; clear b1
    have R6 := Lib.hid r6; clear r6
    clear c0 c257 c586
    go_wp2_with (refine halt_store 22 _ _ rfl ?_)
    refine ⟨?_, trivial⟩
    refine wpList_store_cell rfl 22 _ _ rfl G 7 _ rfl rfl rfl rfl 112 _ R2.out info_bs (by show 7 < 20; omega) ?_
    intro w3 s3
    clear d0 d257 d586
    obtain ⟨d0, d257, d586, b3⟩ := MemS.keep HS.out (s3.below B2.out (by omega))
    have R3 := Lib.hid s3.row
    have R6' := Lib.hid ((s3.other _ (by omega)).trans R6.out)
    clear s3
    have B3 := Lib.hid b3; clear b3
    go_wp2_with fail
    go_still_tail 14, (by kernel_rfl)
    have D3 := Lib.hid R3.out
    go_wp2_with (refine halt_store 22 _ _ rfl ?_)
    refine ⟨?_, trivial⟩
    refine wpList_store_cell rfl 22 _ _ rfl G 11 _ rfl rfl rfl rfl 112 _ R3.out info_bs (by show 11 < 20; omega) ?_
    intro w4 s4
    clear d0 d257 d586
    obtain ⟨d0, d257, d586, b4⟩ := MemS.keep HS.out (s4.below (Below.drew B3.out) (by omega))
    have R4 := Lib.hid s4.row
    have R6'' := Lib.hid ((s4.other _ (by omega)).trans R6'.out)
    clear s4
    have B4 := Lib.hid b4; clear b4
    go_wp2_with (refine halt_store 22 _ _ rfl ?_)
    refine ⟨?_, trivial⟩
    refine wpList_store_cell rfl 22 _ _ rfl G 15 _ rfl rfl rfl rfl 112 _ R4.out info_bs (by show 15 < 20; omega) ?_
    intro w5 s5
    clear d0 d257 d586
    obtain ⟨d0, d257, d586, b5⟩ := MemS.keep HS.out (s5.below B4.out (by omega))
    have R5 := Lib.hid s5.row
    have R6a := Lib.hid ((s5.other _ (by omega)).trans R6''.out)
    clear s5
    have B5 := Lib.hid b5; clear b5
    go_wp2_with (refine halt_store 22 _ _ rfl ?_)
    refine ⟨?_, trivial⟩
    refine wpList_store_cell rfl 22 _ _ rfl G 19 _ rfl rfl rfl rfl 112 _ R5.out info_bs (by show 19 < 20; omega) ?_
    intro w6 s6
    have R7 := Lib.hid (show w6.heap[G]? = some (.cells (S.regs b) 112 (0, 0)) from s6.row)
    have R6b := Lib.hid ((s6.other _ (by omega)).trans R6a.out)
    have B6 := Lib.hid (s6.below B5.out (by omega))
    clear s6 d0 d257 d586
    have hi' := Lib.hid (show (Try.prog.info? 112).map (·.size) = some (S.regs b).size from info_regs)
    go_wp2_with (first | (refine wpList_load_row rfl 112 _ rfl G rfl 112 (S.regs b) (0, 0) _ R7.out Try.underlying112 rfl hi'.out ?_) | (refine halt_store 112 _ _ rfl ?_))
    refine ⟨?_, trivial⟩
    refine wpList_store_is rfl 112 _ _ rfl W.heap.size (S.regs b) rfl rfl 112 zeroRegs R6b.out hi'.out rfl (regs_one S b) ?_
    intro w7 s7
    have S7 := Lib.hid s7; clear s7
    go_wp2
    exact bodyPost_ret (v := .agg (S.regs b)) (results_cell_row rfl _ _ W.heap.size _ (S.regs b) _ _ rfl S7.out.row Try.underlying112 rfl hi'.out) rfl ⟨rfl, S7.out.below B6.out (Nat.le_refl _)⟩
  · obtain ⟨d0, d257, d586, b2⟩ := (by assumption : _ ∧ _ ∧ _ ∧ Below W.heap.size W w2)
    have r6 : w2.heap[W.heap.size]? = some (.cells zeroRegs 112 (0, 0)) := (s2.other _ (by omega)).trans ((b1.block _ (by simp; omega)).trans ((heap_drew _ _).trans ((heap_past _ _ _ (by simp)).trans (heap_last _ _ _ rfl))))
    have hGW : W.heap.size < W.heap.size + 1 := by omega
    generalize hG : W.heap.size + 1 = G at *
    have hG' := Lib.hid hG; clear hG
    have R2 := Lib.hid s2.row; clear s2
    have B2 := Lib.hid b2; clear b2
    have B1 := Lib.hid b1; clear b1
    have R6 := Lib.hid r6; clear r6
    clear c0 c257 c586
    go_wp2_with (refine halt_store 22 _ _ rfl ?_)
    refine ⟨?_, trivial⟩
    refine wpList_store_cell rfl 22 _ _ rfl G 7 _ rfl rfl rfl rfl 112 _ R2.out info_bs (by show 7 < 20; omega) ?_
    intro w3 s3
    clear d0 d257 d586
    obtain ⟨d0, d257, d586, b3⟩ := MemS.keep HS.out (s3.below B2.out (by omega))
    have R3 := Lib.hid s3.row
    have R6' := Lib.hid ((s3.other _ (by omega)).trans R6.out)
    clear s3
    have B3 := Lib.hid b3; clear b3
    go_wp2_with fail
    go_still_tail 14, (by kernel_rfl)
    have D3 := Lib.hid R3.out
    go_wp2_with (refine halt_store 22 _ _ rfl ?_)
    refine ⟨?_, trivial⟩
    refine wpList_store_cell rfl 22 _ _ rfl G 11 _ rfl rfl rfl rfl 112 _ R3.out info_bs (by show 11 < 20; omega) ?_
    intro w4 s4
    clear d0 d257 d586
    obtain ⟨d0, d257, d586, b4⟩ := MemS.keep HS.out (s4.below (Below.drew B3.out) (by omega))
    have R4 := Lib.hid s4.row
    have R6'' := Lib.hid ((s4.other _ (by omega)).trans R6'.out)
    clear s4
    have B4 := Lib.hid b4; clear b4
    go_wp2_with (refine halt_store 22 _ _ rfl ?_)
    refine ⟨?_, trivial⟩
    refine wpList_store_cell rfl 22 _ _ rfl G 15 _ rfl rfl rfl rfl 112 _ R4.out info_bs (by show 15 < 20; omega) ?_
    intro w5 s5
    clear d0 d257 d586
    obtain ⟨d0, d257, d586, b5⟩ := MemS.keep HS.out (s5.below B4.out (by omega))
    have R5 := Lib.hid s5.row
    have R6a := Lib.hid ((s5.other _ (by omega)).trans R6''.out)
    clear s5
    have B5 := Lib.hid b5; clear b5
    go_wp2_with (refine halt_store 22 _ _ rfl ?_)
    refine ⟨?_, trivial⟩
    refine wpList_store_cell rfl 22 _ _ rfl G 19 _ rfl rfl rfl rfl 112 _ R5.out info_bs (by show 19 < 20; omega) ?_
    intro w6 s6
    have R7 := Lib.hid (show w6.heap[G]? = some (.cells (S.regs b) 112 (0, 0)) from s6.row)
    have R6b := Lib.hid ((s6.other _ (by omega)).trans R6a.out)
    have B6 := Lib.hid (s6.below B5.out (by omega))
    clear s6 d0 d257 d586
    have hi' := Lib.hid (show (Try.prog.info? 112).map (·.size) = some (S.regs b).size from info_regs)
    go_wp2_with (first | (refine wpList_load_row rfl 112 _ rfl G rfl 112 (S.regs b) (0, 0) _ R7.out Try.underlying112 rfl hi'.out ?_) | (refine halt_store 112 _ _ rfl ?_))
    refine ⟨?_, trivial⟩
    refine wpList_store_is rfl 112 _ _ rfl W.heap.size (S.regs b) rfl rfl 112 zeroRegs R6b.out hi'.out rfl (regs_one S b) ?_
    intro w7 s7
    have S7 := Lib.hid s7; clear s7
    go_wp2
    exact bodyPost_ret (v := .agg (S.regs b)) (results_cell_row rfl _ _ W.heap.size _ (S.regs b) _ _ rfl S7.out.row Try.underlying112 rfl hi'.out) rfl ⟨rfl, S7.out.below B6.out (Nat.le_refl _)⟩
end Go.Proofs.Ytpbnmbeedjhloaa
