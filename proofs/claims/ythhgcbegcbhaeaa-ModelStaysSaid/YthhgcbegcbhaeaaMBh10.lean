/-
  Several texts in one: MemR, MemQ.
-/
import Derived.Test.YthhgcbegcbhaeaaMBh09
import Derived.Deep.RegionHeld3
import Derived.StillTailTactics
import Derived.RegionTactic
import Derived.ChangeAlike
set_option linter.unusedVariables false
set_option linter.unusedSimpArgs false
set_option linter.unnecessarySimpa false
namespace Go.Proofs.Ythhgcbegcbhaeaa
open Go.RowKit
set_option linter.unusedVariables false
set_option maxRecDepth 100000

theorem info_bs : (Try.prog.info? 25).map (·.size) = some 1 := by kernel_rfl
theorem heap_drew (w : World) (k : Nat) : w.drew.heap[k]? = w.heap[k]? := rfl

/-- A memory: where its code lies and how much, the context's size, whether it has a stack, its bytes by their places in the struct. -/
structure MemS where
  cb : Nat
  cn : Nat
  n : Nat
  hs : Bool
  g : Nat → Int
def MemS.val (S : MemS) (i : Nat) : Value :=
  if i = 0 then .slice (some ⟨S.cb, 0, none⟩) S.cn S.cn else if i = 257 then .int .i64 S.n else if i = 586 then .bool S.hs else .int .u8 (S.g i)
/-- It lies in block b. -/
structure MemS.at (S : MemS) (w : World) (b : Nat) : Prop where
  row : w.rowIs b 97 587 S.val
  cn : S.cn ≤ 16384
  n : S.n ≤ 256
  far : S.cb ≠ b
  bytes : ∀ i, 0 ≤ S.g i ∧ S.g i < 256
/-- Its regions. -/
def MemS.regs (S : MemS) (b : Nat) : Array Value :=
  #[.int .u64 0, .int .u64 0, .bool false, .slice none 0 0,
    .int .u64 1048576, .int .u64 (limI S.cn 16384), .bool true, .slice (some ⟨S.cb, 0, none⟩) S.cn S.cn,
    .int .u64 2097152, .int .u64 (limI S.n 256), .bool false, .slice (some ⟨b, 1, none⟩) S.n S.n,
    .int .u64 3145728, .int .u64 64, .bool false, .slice (some ⟨b, 258, none⟩) 64 64,
    .int .u64 4194304, .int .u64 (stkI S.hs), .bool false, .slice (some ⟨b, 322, none⟩) 264 264]

theorem regs_one (S : MemS) (b : Nat) : (S.regs b).all (·.oneCell') = true := by kernel_rfl
theorem MemS.keep {S : MemS} {W w : World} {b : Nat} (h : S.at W b) (hB : Below W.heap.size W w) : w.cell? ⟨b, 0, none⟩ = some (.slice (some ⟨S.cb, 0, none⟩) S.cn S.cn) ∧ w.cell? ⟨b, 257, none⟩ = some (.int .i64 S.n) ∧ w.cell? ⟨b, 586, none⟩ = some (.bool S.hs) ∧ Below W.heap.size W w :=
  ⟨(hB.cell (p := ⟨b, 0, none⟩) h.row.lt).trans (h.row.cell (i := 0) (by omega)), (hB.cell (p := ⟨b, 257, none⟩) h.row.lt).trans (h.row.cell (i := 257) (by omega)), (hB.cell (p := ⟨b, 586, none⟩) h.row.lt).trans (h.row.cell (i := 586) (by omega)), hB⟩

set_option maxRecDepth 100000 in
set_option maxHeartbeats 1000000 in
theorem regions_any (S : MemS) (b : Nat) (W : World) (hS : S.at W b) :
    Calls Try.prog 94 #[.pointer (some ⟨b, 0, none⟩)] W fun e w' => e = .returned (.agg (S.regs b)) ∧ Below W.heap.size W w' := by
  have c0 : W.cell? ⟨b, 0, none⟩ = some (.slice (some ⟨S.cb, 0, none⟩) S.cn S.cn) := hS.row.cell (i := 0) (by omega)
  have c257 : W.cell? ⟨b, 257, none⟩ = some (.int .i64 S.n) := hS.row.cell (i := 257) (by omega)
  have c586 : W.cell? ⟨b, 586, none⟩ = some (.bool S.hs) := hS.row.cell (i := 586) (by omega)
  have lb := hS.row.lt
  have hn : (S.n : Int) ≤ 256 := by have := hS.n; omega
  have hi := Lib.hid (show (Try.prog.info? 125).map (·.size) = some (placeCells S.n S.cn (stkI S.hs)).size from info_regs)
  have h1 := Lib.hid (places_one S.n S.cn (stkI S.hs))
  have HS := Lib.hid hS; clear hS
  go_enter Try.func94, Try.ntmps94
  go_wp2_with fail
  go_region_held3 (fun w' => w'.cell? ⟨b, 0, none⟩ = some (.slice (some ⟨S.cb, 0, none⟩) S.cn S.cn) ∧ w'.cell? ⟨b, 257, none⟩ = some (.int .i64 S.n) ∧ w'.cell? ⟨b, 586, none⟩ = some (.bool S.hs) ∧ Below W.heap.size W w')
    ((go_split_ands; refine MemS.keep HS.out ?_; repeat' (first | assumption | exact Below.refl _ _ | apply Below.drew | apply below_new | exact below_call (by assumption) b1 | (refine below_call ?_ b1) | (refine Stored.below s2 ?_ ?_) | (simp; done) | (have := b1.size; simp at this ⊢; omega))))
    (first | (go_at_call 100; refine (places_any _ _ _ _).mono ?_; rintro e w1 ⟨rfl, b1⟩) | (refine upon_store_is _ (placeCells S.n S.cn (stkI S.hs)) 125 zeroRegs ?_ rfl h1.out ?_; (focus (first | exact heap_last _ _ _ rfl | exact (b1.block _ (by simp)).trans ((heap_drew _ _).trans (heap_last _ _ _ (by simp))))); intro w2 s2))
  · obtain ⟨d0, d257, d586, b2⟩ := (by assumption : _ ∧ _ ∧ _ ∧ Below W.heap.size W w2)
    have hGW : W.heap.size < w1.heap.size := by have := b1.size; simp at this; omega
    have r6 : w2.heap[W.heap.size]? = some (.cells zeroRegs 125 (0, 0)) := (s2.other _ (by omega)).trans ((heap_past _ _ _ hGW).trans ((b1.block _ (by simp)).trans ((heap_drew _ _).trans (heap_last _ _ _ rfl))))
    generalize hG : w1.heap.size = G at *
    have hG' := Lib.hid hG; clear hG
    have R2 := Lib.hid s2.row; clear s2
    have B2 := Lib.hid b2; clear b2
    have B1 := Lib.hid b1; clear b1
    have R6 := Lib.hid r6; clear r6
    clear c0 c257 c586
    go_wp2_with (refine halt_store 25 _ _ rfl ?_)
    refine ⟨?_, trivial⟩
    refine wpList_store_cell rfl 25 _ _ rfl G 7 _ rfl rfl rfl rfl 125 _ R2.out info_bs (by show 7 < 20; omega) ?_
    intro w3 s3
    clear d0 d257 d586
    obtain ⟨d0, d257, d586, b3⟩ := MemS.keep HS.out (s3.below B2.out (by omega))
    have R3 := Lib.hid s3.row
    have R6' := Lib.hid ((s3.other _ (by omega)).trans R6.out)
    clear s3
    have B3 := Lib.hid b3; clear b3
    go_wp2_with fail
    go_still_tail 14, (by kernel_rfl)
    have D3 := Lib.hid R3.out
    go_wp2_with (refine halt_store 25 _ _ rfl ?_)
    refine ⟨?_, trivial⟩
    refine wpList_store_cell rfl 25 _ _ rfl G 11 _ rfl rfl rfl rfl 125 _ R3.out info_bs (by show 11 < 20; omega) ?_
    intro w4 s4
    clear d0 d257 d586
    obtain ⟨d0, d257, d586, b4⟩ := MemS.keep HS.out (s4.below (Below.drew B3.out) (by omega))
    have R4 := Lib.hid s4.row
    have R6'' := Lib.hid ((s4.other _ (by omega)).trans R6'.out)
    clear s4
    have B4 := Lib.hid b4; clear b4
    go_wp2_with (refine halt_store 25 _ _ rfl ?_)
    refine ⟨?_, trivial⟩
    refine wpList_store_cell rfl 25 _ _ rfl G 15 _ rfl rfl rfl rfl 125 _ R4.out info_bs (by show 15 < 20; omega) ?_
    intro w5 s5
    clear d0 d257 d586
    obtain ⟨d0, d257, d586, b5⟩ := MemS.keep HS.out (s5.below B4.out (by omega))
    have R5 := Lib.hid s5.row
    have R6a := Lib.hid ((s5.other _ (by omega)).trans R6''.out)
    clear s5
    have B5 := Lib.hid b5; clear b5
    go_wp2_with (refine halt_store 25 _ _ rfl ?_)
    refine ⟨?_, trivial⟩
    refine wpList_store_cell rfl 25 _ _ rfl G 19 _ rfl rfl rfl rfl 125 _ R5.out info_bs (by show 19 < 20; omega) ?_
    intro w6 s6
    have R7 := Lib.hid (show w6.heap[G]? = some (.cells (S.regs b) 125 (0, 0)) from s6.row)
    have R6b := Lib.hid ((s6.other _ (by omega)).trans R6a.out)
    have B6 := Lib.hid (s6.below B5.out (by omega))
    clear s6 d0 d257 d586
    have hi' := Lib.hid (show (Try.prog.info? 125).map (·.size) = some (S.regs b).size from info_regs)
    go_wp2_with (first | (refine wpList_load_row rfl 125 _ rfl G rfl 125 (S.regs b) (0, 0) _ R7.out Try.underlying125 rfl hi'.out ?_) | (refine halt_store 125 _ _ rfl ?_))
    refine ⟨?_, trivial⟩
    refine wpList_store_is rfl 125 _ _ rfl W.heap.size (S.regs b) rfl rfl 125 zeroRegs R6b.out hi'.out rfl (regs_one S b) ?_
    intro w7 s7
    have S7 := Lib.hid s7; clear s7
    go_wp2
    exact bodyPost_ret (v := .agg (S.regs b)) (results_cell_row rfl _ _ W.heap.size _ (S.regs b) _ _ rfl S7.out.row Try.underlying125 rfl hi'.out) rfl ⟨rfl, S7.out.below B6.out (Nat.le_refl _)⟩
  · obtain ⟨d0, d257, d586, b2⟩ := (by assumption : _ ∧ _ ∧ _ ∧ Below W.heap.size W w2)
    have r6 : w2.heap[W.heap.size]? = some (.cells zeroRegs 125 (0, 0)) := (s2.other _ (by omega)).trans ((b1.block _ (by simp; omega)).trans ((heap_drew _ _).trans ((heap_past _ _ _ (by simp)).trans (heap_last _ _ _ rfl))))
    have hGW : W.heap.size < W.heap.size + 1 := by omega
    generalize hG : W.heap.size + 1 = G at *
    have hG' := Lib.hid hG; clear hG
    have R2 := Lib.hid s2.row; clear s2
    have B2 := Lib.hid b2; clear b2
    have B1 := Lib.hid b1; clear b1
    have R6 := Lib.hid r6; clear r6
    clear c0 c257 c586
    go_wp2_with (refine halt_store 25 _ _ rfl ?_)
    refine ⟨?_, trivial⟩
    refine wpList_store_cell rfl 25 _ _ rfl G 7 _ rfl rfl rfl rfl 125 _ R2.out info_bs (by show 7 < 20; omega) ?_
    intro w3 s3
    clear d0 d257 d586
    obtain ⟨d0, d257, d586, b3⟩ := MemS.keep HS.out (s3.below B2.out (by omega))
    have R3 := Lib.hid s3.row
    have R6' := Lib.hid ((s3.other _ (by omega)).trans R6.out)
    clear s3
    have B3 := Lib.hid b3; clear b3
    go_wp2_with fail
    go_still_tail 14, (by kernel_rfl)
    have D3 := Lib.hid R3.out
    go_wp2_with (refine halt_store 25 _ _ rfl ?_)
    refine ⟨?_, trivial⟩
    refine wpList_store_cell rfl 25 _ _ rfl G 11 _ rfl rfl rfl rfl 125 _ R3.out info_bs (by show 11 < 20; omega) ?_
    intro w4 s4
    clear d0 d257 d586
    obtain ⟨d0, d257, d586, b4⟩ := MemS.keep HS.out (s4.below (Below.drew B3.out) (by omega))
    have R4 := Lib.hid s4.row
    have R6'' := Lib.hid ((s4.other _ (by omega)).trans R6'.out)
    clear s4
    have B4 := Lib.hid b4; clear b4
    go_wp2_with (refine halt_store 25 _ _ rfl ?_)
    refine ⟨?_, trivial⟩
    refine wpList_store_cell rfl 25 _ _ rfl G 15 _ rfl rfl rfl rfl 125 _ R4.out info_bs (by show 15 < 20; omega) ?_
    intro w5 s5
    clear d0 d257 d586
    obtain ⟨d0, d257, d586, b5⟩ := MemS.keep HS.out (s5.below B4.out (by omega))
    have R5 := Lib.hid s5.row
    have R6a := Lib.hid ((s5.other _ (by omega)).trans R6''.out)
    clear s5
    have B5 := Lib.hid b5; clear b5
    go_wp2_with (refine halt_store 25 _ _ rfl ?_)
    refine ⟨?_, trivial⟩
    refine wpList_store_cell rfl 25 _ _ rfl G 19 _ rfl rfl rfl rfl 125 _ R5.out info_bs (by show 19 < 20; omega) ?_
    intro w6 s6
    have R7 := Lib.hid (show w6.heap[G]? = some (.cells (S.regs b) 125 (0, 0)) from s6.row)
    have R6b := Lib.hid ((s6.other _ (by omega)).trans R6a.out)
    have B6 := Lib.hid (s6.below B5.out (by omega))
    clear s6 d0 d257 d586
    have hi' := Lib.hid (show (Try.prog.info? 125).map (·.size) = some (S.regs b).size from info_regs)
    go_wp2_with (first | (refine wpList_load_row rfl 125 _ rfl G rfl 125 (S.regs b) (0, 0) _ R7.out Try.underlying125 rfl hi'.out ?_) | (refine halt_store 125 _ _ rfl ?_))
    refine ⟨?_, trivial⟩
    refine wpList_store_is rfl 125 _ _ rfl W.heap.size (S.regs b) rfl rfl 125 zeroRegs R6b.out hi'.out rfl (regs_one S b) ?_
    intro w7 s7
    have S7 := Lib.hid s7; clear s7
    go_wp2
    exact bodyPost_ret (v := .agg (S.regs b)) (results_cell_row rfl _ _ W.heap.size _ (S.regs b) _ _ rfl S7.out.row Try.underlying125 rfl hi'.out) rfl ⟨rfl, S7.out.below B6.out (Nat.le_refl _)⟩
end Go.Proofs.Ythhgcbegcbhaeaa

namespace Go.Proofs.Ythhgcbegcbhaeaa
open Go.RowKit
set_option linter.unusedVariables false
set_option maxRecDepth 100000

theorem lt_of_cell {w : World} {b o : Nat} {v : Value} (h : w.cell? ⟨b, o, none⟩ = some v) : b < w.heap.size := World.block_lt_of_cell? w _ h
theorem below_drews {W w : World} {B : Nat} (h : Below B W w) : ∀ n, Below B W (w.drewN n) := fun n => ⟨h.os, h.tape, h.output, h.size, h.block⟩
theorem szB_le {m : Nat} (h : szB m = true) : m = 1 ∨ m = 2 ∨ m = 4 ∨ m = 8 := by
  have : ((m : Int) = 1 ∨ (m : Int) = 2) ∨ (m : Int) = 4 ∨ (m : Int) = 8 := by simpa [szB, or_assoc] using h
  omega
theorem limI_bd (a m : Int) (h : 0 ≤ m) : 0 ≤ limI a m ∧ limI a m ≤ m := by
  exact ⟨Int.le_min.2 ⟨Int.le_max_right _ _, h⟩, Int.min_le_right _ _⟩
/-- The regions of a memory, by their places. -/
def MemS.R (S : MemS) (b : Nat) : Regs where
  st k := if k = 1 then 1048576 else if k = 2 then 2097152 else if k = 3 then 3145728 else if k = 4 then 4194304 else 0
  sz k := if k = 1 then limI S.cn 16384 else if k = 2 then limI S.n 256 else if k = 3 then 64 else if k = 4 then stkI S.hs else 0
  fx k := if k = 1 then true else false
  bp k := if k = 1 then some ⟨S.cb, 0, none⟩ else if k = 2 then some ⟨b, 1, none⟩ else if k = 3 then some ⟨b, 258, none⟩ else if k = 4 then some ⟨b, 322, none⟩ else none
  bl k := if k = 1 then S.cn else if k = 2 then S.n else if k = 3 then 64 else if k = 4 then 264 else 0
theorem MemS.R_sz (S : MemS) (b : Nat) (k : Nat) : 0 ≤ (S.R b).sz k ∧ (S.R b).sz k < 18446744073709551616 := by
  show 0 ≤ (if _ then _ else _ : Int) ∧ (if _ then _ else _ : Int) < _
  have h1 := limI_bd S.cn 16384 (by omega)
  have h2 := limI_bd S.n 256 (by omega)
  split
  · omega
  split
  · omega
  split
  · omega
  split
  · unfold stkI; split <;> omega
  · omega
theorem MemS.R_bl (S : MemS) (b k : Nat) (h1 : S.cn ≤ 16384) (h2 : S.n ≤ 256) : (S.R b).bl k ≤ 16384 := by
  show (if _ then _ else _ : Nat) ≤ _
  split
  · omega
  split
  · omega
  split
  · omega
  split <;> omega
theorem MemS.R_at (S : MemS) (b : Nat) {w : World} {g : Nat} {t : TypeId} {fr : Nat × Nat} (h : w.heap[g]? = some (.cells (S.regs b) t fr)) : (S.R b).at w g := by
  intro k hk j v hv
  have e : w.cell? ⟨g, k * 4 + j, none⟩ = (S.regs b)[k * 4 + j]? := by simp [World.cell?, h]
  rw [e]
  have hj : j < 4 := (List.getElem?_eq_some_iff.1 hv).1
  have h5 : k = 0 ∨ k = 1 ∨ k = 2 ∨ k = 3 ∨ k = 4 := by omega
  have h4 : j = 0 ∨ j = 1 ∨ j = 2 ∨ j = 3 := by omega
  rcases h5 with rfl | rfl | rfl | rfl | rfl <;> rcases h4 with rfl | rfl | rfl | rfl <;> exact hv
theorem MemS.at.below {S : MemS} {W w : World} {b : Nat} (h : S.at W b) (hb : Below W.heap.size W w) : S.at w b :=
  ⟨h.row.of_block (hb.block _ h.row.lt), h.cn, h.n, h.far, h.bytes⟩

set_option maxRecDepth 100000 in
set_option maxHeartbeats 2000000 in
theorem part_rd_hit (S : MemS) (b : Nat) (a : Int) (m : Nat) (k q B o : Nat) (W : World) (hS : S.at W b) (hk : k < 5) (hm : szB m = true) (hq : offI a ((S.R b).st k) = q)
    (hidx : firstI (fun k => rdB a m ((S.R b).st k) ((S.R b).sz k)) = k) (hb : (S.R b).bp k = some ⟨B, o, none⟩) (hfit : q + m ≤ (S.R b).bl k) :
    Calls Try.prog 69 #[.pointer (some ⟨b, 0, none⟩), .agg #[.int .u64 a, .int .u64 m], .func (.func 70) #[.agg #[.int .u64 a, .int .u64 m]] #[]] W fun e w' => e = .returned (.tuple #[.slice (some ⟨B, o + q, none⟩) m m, .int .i64 0]) ∧ Below W.heap.size W w' := by
  have m8 := szB_le hm
  have k5 : (k : Int) < 5 := by omega
  have hbl := S.R_bl b k hS.cn hS.n
  have Z := fun W => sized_any a m W
  rw [hm] at Z
  have HZ := Lib.hid Z; clear Z
  have O := fun W => offset_any a m ((S.R b).st k) ((S.R b).sz k) ((S.R b).fx k) ((S.R b).bp k) ((S.R b).bl k) ((S.R b).bl k) W
  rw [hq, hb] at O
  have HO := Lib.hid O; clear O
  have HI := Lib.hid (fun g W hR hg => index_rd a m (S.R b) g W hR hg (S.R_sz b))
  have HX := Lib.hid hidx; clear hidx
  have HB := Lib.hid hb; clear hb
  have HQ := Lib.hid hq; clear hq
  have HS := Lib.hid hS; clear hS
  have HM := Lib.hid hm; clear hm
  have hi' := Lib.hid (show (Try.prog.info? 125).map (·.size) = some (S.regs b).size from info_regs)
  have h1 := Lib.hid (regs_one S b)
  go_enter Try.func69, Try.ntmps69
  go_wp2_with fail
  refine (HZ.out _).mono ?_
  rintro e w1 ⟨rfl, b1⟩
  have B1 := Lib.hid (below_call (below_new (Below.refl _ W) _) b1)
  have e0 : w1.cell? ⟨W.heap.size, 0, none⟩ = some (.int .u64 a) := (b1.cell (p := ⟨W.heap.size, 0, none⟩) (by simp)).trans (by simp)
  have e1 : w1.cell? ⟨W.heap.size, 1, none⟩ = some (.int .u64 m) := (b1.cell (p := ⟨W.heap.size, 1, none⟩) (by simp)).trans (by simp)
  clear b1
  go_wp2_with fail
  refine (regions_any S b _ (HS.out.below B1.out)).mono ?_
  rintro e w2 ⟨rfl, b2⟩
  have B2 := Lib.hid (below_call B1.out b2)
  have s1 : W.heap.size < w1.heap.size := lt_of_cell e0
  have f0 : w2.cell? ⟨W.heap.size, 0, none⟩ = some (.int .u64 a) := (b2.cell (p := ⟨W.heap.size, 0, none⟩) s1).trans e0
  have f1 : w2.cell? ⟨W.heap.size, 1, none⟩ = some (.int .u64 m) := (b2.cell (p := ⟨W.heap.size, 1, none⟩) s1).trans e1
  have s2 : W.heap.size < w2.heap.size := lt_of_cell f0
  clear b2 e0 e1 s1
  go_wp2_with (refine halt_store 125 _ _ rfl ?_)
  refine ⟨?_, trivial⟩
  refine wpList_store_is rfl 125 _ _ rfl w2.heap.size (S.regs b) rfl rfl 125 zeroRegs (heap_last _ _ _ rfl) hi'.out rfl h1.out ?_
  intro w3 s3
  have B3 := Lib.hid (s3.below (below_new B2.out _) (Nat.le_of_lt s2))
  have g0 : w3.cell? ⟨W.heap.size, 0, none⟩ = some (.int .u64 a) := (s3.cellOther (by omega) 0).trans ((World.cell?_alloc_lt _ _ _ s2).trans f0)
  have g1 : w3.cell? ⟨W.heap.size, 1, none⟩ = some (.int .u64 m) := (s3.cellOther (by omega) 1).trans ((World.cell?_alloc_lt _ _ _ s2).trans f1)
  have HR := Lib.hid (S.R_at b s3.row)
  have l3 : w2.heap.size < w3.heap.size := by rw [s3.size, size_alloc]; omega
  clear s3 f0 f1
  generalize w2.heap.size = g at *
  go_wp2_with fail
  refine (HI.out g _ HR.out l3).mono ?_
  rintro e w4 ⟨rfl, b4⟩
  rw [HX.out]
  have B4 := Lib.hid (below_call B3.out b4)
  have R4 := Regs.at_below HR.out b4 l3
  have j0 : w4.cell? ⟨W.heap.size, 0, none⟩ = some (.int .u64 a) := (b4.cell (p := ⟨W.heap.size, 0, none⟩) (by simp; omega)).trans g0
  have j1 : w4.cell? ⟨W.heap.size, 1, none⟩ = some (.int .u64 m) := (b4.cell (p := ⟨W.heap.size, 1, none⟩) (by simp; omega)).trans g1
  have c0 : w4.cell? ⟨g, k * 4, none⟩ = some (.int .u64 ((S.R b).st k)) := R4 k hk 0 _ rfl
  have c1 : w4.cell? ⟨g, k * 4 + 1, none⟩ = some (.int .u64 ((S.R b).sz k)) := R4 k hk 1 _ rfl
  have c2 : w4.cell? ⟨g, k * 4 + 2, none⟩ = some (.bool ((S.R b).fx k)) := R4 k hk 2 _ rfl
  have c3 : w4.cell? ⟨g, k * 4 + 3, none⟩ = some (.slice (some ⟨B, o, none⟩) ((S.R b).bl k) ((S.R b).bl k)) := by have := R4 k hk 3 _ rfl; rw [HB.out] at this; exact this
  have l4 : g < w4.heap.size := lt_of_cell c0
  clear g0 g1 R4 b4 l3
  go_wp2_with fail
  go_still_tail 4, (by kernel_rfl)
  go_wp2_with (with_reducible refine (HO.out _).mono ?_; rintro e w5 ⟨rfl, b5⟩)
  have n1 : w5.cell? ⟨W.heap.size, 1, none⟩ = some (.int .u64 m) := (b5.cell (p := ⟨W.heap.size, 1, none⟩) (Nat.lt_trans s2 l4)).trans j1
  have n3 : w5.cell? ⟨g, k * 4 + 3, none⟩ = some (.slice (some ⟨B, o, none⟩) ((S.R b).bl k) ((S.R b).bl k)) := (b5.cell (p := ⟨g, k * 4 + 3, none⟩) l4).trans c3
  have B5 := Lib.hid (below_call (Below.drew B4.out) b5)
  clear b5 c0 c1 c2 c3 j0 j1
  have q0 : (0 : Int) ≤ q := by omega
  have q1 : (0 : Int) ≤ (q : Int) + m := by omega
  have q2 : (q : Int) + m ≤ (S.R b).bl k := by omega
  have q3 : (q : Int) ≤ (q : Int) + m := by omega
  have q5 : (q : Int) + m < 18446744073709551616 := by omega
  have q4 : IntKind.u64.wrap ((q : Int) + m) = (q : Int) + m := by rw [IntKind.wrap_u64]; omega
  have q6 : ((q : Int) + m).toNat = q + m := by omega
  have q7 : ¬ q + m = q := by omega
  go_quiet (fail)
  go_wp2
  go_ret2
  exact ⟨rfl, below_drews B5.out nq⟩

set_option maxRecDepth 100000 in
set_option maxHeartbeats 2000000 in
theorem part_rd_miss (S : MemS) (b : Nat) (a : Int) (m : Nat) (W : World) (hS : S.at W b) (hm : szB m = true)
    (hidx : firstI (fun k => rdB a m ((S.R b).st k) ((S.R b).sz k)) = -1) :
    Calls Try.prog 69 #[.pointer (some ⟨b, 0, none⟩), .agg #[.int .u64 a, .int .u64 m], .func (.func 70) #[.agg #[.int .u64 a, .int .u64 m]] #[]] W fun e w' => e = .returned (.tuple #[.slice none 0 0, .int .i64 20]) ∧ Below W.heap.size W w' := by
  have Z := fun W => sized_any a m W
  rw [hm] at Z
  have HZ := Lib.hid Z; clear Z
  have HI := Lib.hid (fun g W hR hg => index_rd a m (S.R b) g W hR hg (S.R_sz b))
  have HX := Lib.hid hidx; clear hidx
  have HS := Lib.hid hS; clear hS
  have HM := Lib.hid hm; clear hm
  have hi' := Lib.hid (show (Try.prog.info? 125).map (·.size) = some (S.regs b).size from info_regs)
  have h1 := Lib.hid (regs_one S b)
  go_enter Try.func69, Try.ntmps69
  go_wp2_with fail
  refine (HZ.out _).mono ?_
  rintro e w1 ⟨rfl, b1⟩
  have B1 := Lib.hid (below_call (below_new (Below.refl _ W) _) b1)
  clear b1
  go_wp2_with fail
  refine (regions_any S b _ (HS.out.below B1.out)).mono ?_
  rintro e w2 ⟨rfl, b2⟩
  have B2 := Lib.hid (below_call B1.out b2)
  clear b2
  go_wp2_with (refine halt_store 125 _ _ rfl ?_)
  refine ⟨?_, trivial⟩
  refine wpList_store_is rfl 125 _ _ rfl w2.heap.size (S.regs b) rfl rfl 125 zeroRegs (heap_last _ _ _ rfl) hi'.out rfl h1.out ?_
  intro w3 s3
  have B3 := Lib.hid (s3.below (below_new B2.out _) B2.out.size)
  have HR := Lib.hid (S.R_at b s3.row)
  have l3 : w2.heap.size < w3.heap.size := by rw [s3.size, size_alloc]; omega
  clear s3
  generalize w2.heap.size = g at *
  go_wp2_with fail
  refine (HI.out g _ HR.out l3).mono ?_
  rintro e w4 ⟨rfl, b4⟩
  rw [HX.out]
  have B4 := Lib.hid (below_call B3.out b4)
  clear b4
  go_wp2
  go_ret2
  exact ⟨rfl, B4.out⟩

set_option maxHeartbeats 1000000 in
theorem part_rd_bad (b : Nat) (a m : Int) (W : World) (hm : szB m = false) :
    Calls Try.prog 69 #[.pointer (some ⟨b, 0, none⟩), .agg #[.int .u64 a, .int .u64 m], .func (.func 70) #[.agg #[.int .u64 a, .int .u64 m]] #[]] W fun e w' => e = .returned (.tuple #[.slice none 0 0, .int .i64 2]) ∧ Below W.heap.size W w' := by
  have Z := fun W => sized_any a m W
  rw [hm] at Z
  have HZ := Lib.hid Z; clear Z
  have HM := Lib.hid hm; clear hm
  go_enter Try.func69, Try.ntmps69
  go_wp2_with fail
  refine (HZ.out _).mono ?_
  rintro e w1 ⟨rfl, b1⟩
  have B1 := Lib.hid (below_call (below_new (Below.refl _ W) _) b1)
  clear b1
  go_wp2
  go_ret2
  exact ⟨rfl, B1.out⟩

set_option maxHeartbeats 1000000 in
theorem part_rd_nil (a m : Int) (W : World) :
    Calls Try.prog 69 #[.pointer none, .agg #[.int .u64 a, .int .u64 m], .func (.func 70) #[.agg #[.int .u64 a, .int .u64 m]] #[]] W fun e w' => e = .returned (.tuple #[.slice none 0 0, .int .i64 1]) ∧ Below W.heap.size W w' := by
  go_enter Try.func69, Try.ntmps69
  go_wp2
  go_ret2
  exact ⟨rfl, below_new (Below.refl _ _) _⟩

set_option maxRecDepth 100000 in
set_option maxHeartbeats 2000000 in
theorem part_wr_hit (S : MemS) (b : Nat) (a : Int) (m : Nat) (k q B o : Nat) (W : World) (hS : S.at W b) (hk : k < 5) (hm : szB m = true) (hq : offI a ((S.R b).st k) = q)
    (hidx : firstI (fun k => wrB a m ((S.R b).st k) ((S.R b).sz k) ((S.R b).fx k)) = k) (hb : (S.R b).bp k = some ⟨B, o, none⟩) (hfit : q + m ≤ (S.R b).bl k) :
    Calls Try.prog 69 #[.pointer (some ⟨b, 0, none⟩), .agg #[.int .u64 a, .int .u64 m], .func (.func 72) #[.agg #[.int .u64 a, .int .u64 m]] #[]] W fun e w' => e = .returned (.tuple #[.slice (some ⟨B, o + q, none⟩) m m, .int .i64 0]) ∧ Below W.heap.size W w' := by
  have m8 := szB_le hm
  have k5 : (k : Int) < 5 := by omega
  have hbl := S.R_bl b k hS.cn hS.n
  have Z := fun W => sized_any a m W
  rw [hm] at Z
  have HZ := Lib.hid Z; clear Z
  have O := fun W => offset_any a m ((S.R b).st k) ((S.R b).sz k) ((S.R b).fx k) ((S.R b).bp k) ((S.R b).bl k) ((S.R b).bl k) W
  rw [hq, hb] at O
  have HO := Lib.hid O; clear O
  have HI := Lib.hid (fun g W hR hg => index_wr a m (S.R b) g W hR hg (S.R_sz b))
  have HX := Lib.hid hidx; clear hidx
  have HB := Lib.hid hb; clear hb
  have HQ := Lib.hid hq; clear hq
  have HS := Lib.hid hS; clear hS
  have HM := Lib.hid hm; clear hm
  have hi' := Lib.hid (show (Try.prog.info? 125).map (·.size) = some (S.regs b).size from info_regs)
  have h1 := Lib.hid (regs_one S b)
  go_enter Try.func69, Try.ntmps69
  go_wp2_with fail
  refine (HZ.out _).mono ?_
  rintro e w1 ⟨rfl, b1⟩
  have B1 := Lib.hid (below_call (below_new (Below.refl _ W) _) b1)
  have e0 : w1.cell? ⟨W.heap.size, 0, none⟩ = some (.int .u64 a) := (b1.cell (p := ⟨W.heap.size, 0, none⟩) (by simp)).trans (by simp)
  have e1 : w1.cell? ⟨W.heap.size, 1, none⟩ = some (.int .u64 m) := (b1.cell (p := ⟨W.heap.size, 1, none⟩) (by simp)).trans (by simp)
  clear b1
  go_wp2_with fail
  refine (regions_any S b _ (HS.out.below B1.out)).mono ?_
  rintro e w2 ⟨rfl, b2⟩
  have B2 := Lib.hid (below_call B1.out b2)
  have s1 : W.heap.size < w1.heap.size := lt_of_cell e0
  have f0 : w2.cell? ⟨W.heap.size, 0, none⟩ = some (.int .u64 a) := (b2.cell (p := ⟨W.heap.size, 0, none⟩) s1).trans e0
  have f1 : w2.cell? ⟨W.heap.size, 1, none⟩ = some (.int .u64 m) := (b2.cell (p := ⟨W.heap.size, 1, none⟩) s1).trans e1
  have s2 : W.heap.size < w2.heap.size := lt_of_cell f0
  clear b2 e0 e1 s1
  go_wp2_with (refine halt_store 125 _ _ rfl ?_)
  refine ⟨?_, trivial⟩
  refine wpList_store_is rfl 125 _ _ rfl w2.heap.size (S.regs b) rfl rfl 125 zeroRegs (heap_last _ _ _ rfl) hi'.out rfl h1.out ?_
  intro w3 s3
  have B3 := Lib.hid (s3.below (below_new B2.out _) (Nat.le_of_lt s2))
  have g0 : w3.cell? ⟨W.heap.size, 0, none⟩ = some (.int .u64 a) := (s3.cellOther (by omega) 0).trans ((World.cell?_alloc_lt _ _ _ s2).trans f0)
  have g1 : w3.cell? ⟨W.heap.size, 1, none⟩ = some (.int .u64 m) := (s3.cellOther (by omega) 1).trans ((World.cell?_alloc_lt _ _ _ s2).trans f1)
  have HR := Lib.hid (S.R_at b s3.row)
  have l3 : w2.heap.size < w3.heap.size := by rw [s3.size, size_alloc]; omega
  clear s3 f0 f1
  generalize w2.heap.size = g at *
  go_wp2_with fail
  refine (HI.out g _ HR.out l3).mono ?_
  rintro e w4 ⟨rfl, b4⟩
  rw [HX.out]
  have B4 := Lib.hid (below_call B3.out b4)
  have R4 := Regs.at_below HR.out b4 l3
  have j0 : w4.cell? ⟨W.heap.size, 0, none⟩ = some (.int .u64 a) := (b4.cell (p := ⟨W.heap.size, 0, none⟩) (by simp; omega)).trans g0
  have j1 : w4.cell? ⟨W.heap.size, 1, none⟩ = some (.int .u64 m) := (b4.cell (p := ⟨W.heap.size, 1, none⟩) (by simp; omega)).trans g1
  have c0 : w4.cell? ⟨g, k * 4, none⟩ = some (.int .u64 ((S.R b).st k)) := R4 k hk 0 _ rfl
  have c1 : w4.cell? ⟨g, k * 4 + 1, none⟩ = some (.int .u64 ((S.R b).sz k)) := R4 k hk 1 _ rfl
  have c2 : w4.cell? ⟨g, k * 4 + 2, none⟩ = some (.bool ((S.R b).fx k)) := R4 k hk 2 _ rfl
  have c3 : w4.cell? ⟨g, k * 4 + 3, none⟩ = some (.slice (some ⟨B, o, none⟩) ((S.R b).bl k) ((S.R b).bl k)) := by have := R4 k hk 3 _ rfl; rw [HB.out] at this; exact this
  have l4 : g < w4.heap.size := lt_of_cell c0
  clear g0 g1 R4 b4 l3
  go_wp2_with fail
  go_still_tail 4, (by kernel_rfl)
  go_wp2_with (with_reducible refine (HO.out _).mono ?_; rintro e w5 ⟨rfl, b5⟩)
  have n1 : w5.cell? ⟨W.heap.size, 1, none⟩ = some (.int .u64 m) := (b5.cell (p := ⟨W.heap.size, 1, none⟩) (Nat.lt_trans s2 l4)).trans j1
  have n3 : w5.cell? ⟨g, k * 4 + 3, none⟩ = some (.slice (some ⟨B, o, none⟩) ((S.R b).bl k) ((S.R b).bl k)) := (b5.cell (p := ⟨g, k * 4 + 3, none⟩) l4).trans c3
  have B5 := Lib.hid (below_call (Below.drew B4.out) b5)
  clear b5 c0 c1 c2 c3 j0 j1
  have q0 : (0 : Int) ≤ q := by omega
  have q1 : (0 : Int) ≤ (q : Int) + m := by omega
  have q2 : (q : Int) + m ≤ (S.R b).bl k := by omega
  have q3 : (q : Int) ≤ (q : Int) + m := by omega
  have q5 : (q : Int) + m < 18446744073709551616 := by omega
  have q4 : IntKind.u64.wrap ((q : Int) + m) = (q : Int) + m := by rw [IntKind.wrap_u64]; omega
  have q6 : ((q : Int) + m).toNat = q + m := by omega
  have q7 : ¬ q + m = q := by omega
  go_quiet (fail)
  go_wp2
  go_ret2
  exact ⟨rfl, below_drews B5.out nq⟩

set_option maxRecDepth 100000 in
set_option maxHeartbeats 2000000 in
theorem part_wr_miss (S : MemS) (b : Nat) (a : Int) (m : Nat) (W : World) (hS : S.at W b) (hm : szB m = true)
    (hidx : firstI (fun k => wrB a m ((S.R b).st k) ((S.R b).sz k) ((S.R b).fx k)) = -1) :
    Calls Try.prog 69 #[.pointer (some ⟨b, 0, none⟩), .agg #[.int .u64 a, .int .u64 m], .func (.func 72) #[.agg #[.int .u64 a, .int .u64 m]] #[]] W fun e w' => e = .returned (.tuple #[.slice none 0 0, .int .i64 20]) ∧ Below W.heap.size W w' := by
  have Z := fun W => sized_any a m W
  rw [hm] at Z
  have HZ := Lib.hid Z; clear Z
  have HI := Lib.hid (fun g W hR hg => index_wr a m (S.R b) g W hR hg (S.R_sz b))
  have HX := Lib.hid hidx; clear hidx
  have HS := Lib.hid hS; clear hS
  have HM := Lib.hid hm; clear hm
  have hi' := Lib.hid (show (Try.prog.info? 125).map (·.size) = some (S.regs b).size from info_regs)
  have h1 := Lib.hid (regs_one S b)
  go_enter Try.func69, Try.ntmps69
  go_wp2_with fail
  refine (HZ.out _).mono ?_
  rintro e w1 ⟨rfl, b1⟩
  have B1 := Lib.hid (below_call (below_new (Below.refl _ W) _) b1)
  clear b1
  go_wp2_with fail
  refine (regions_any S b _ (HS.out.below B1.out)).mono ?_
  rintro e w2 ⟨rfl, b2⟩
  have B2 := Lib.hid (below_call B1.out b2)
  clear b2
  go_wp2_with (refine halt_store 125 _ _ rfl ?_)
  refine ⟨?_, trivial⟩
  refine wpList_store_is rfl 125 _ _ rfl w2.heap.size (S.regs b) rfl rfl 125 zeroRegs (heap_last _ _ _ rfl) hi'.out rfl h1.out ?_
  intro w3 s3
  have B3 := Lib.hid (s3.below (below_new B2.out _) B2.out.size)
  have HR := Lib.hid (S.R_at b s3.row)
  have l3 : w2.heap.size < w3.heap.size := by rw [s3.size, size_alloc]; omega
  clear s3
  generalize w2.heap.size = g at *
  go_wp2_with fail
  refine (HI.out g _ HR.out l3).mono ?_
  rintro e w4 ⟨rfl, b4⟩
  rw [HX.out]
  have B4 := Lib.hid (below_call B3.out b4)
  clear b4
  go_wp2
  go_ret2
  exact ⟨rfl, B4.out⟩

set_option maxHeartbeats 1000000 in
theorem part_wr_bad (b : Nat) (a m : Int) (W : World) (hm : szB m = false) :
    Calls Try.prog 69 #[.pointer (some ⟨b, 0, none⟩), .agg #[.int .u64 a, .int .u64 m], .func (.func 72) #[.agg #[.int .u64 a, .int .u64 m]] #[]] W fun e w' => e = .returned (.tuple #[.slice none 0 0, .int .i64 2]) ∧ Below W.heap.size W w' := by
  have Z := fun W => sized_any a m W
  rw [hm] at Z
  have HZ := Lib.hid Z; clear Z
  have HM := Lib.hid hm; clear hm
  go_enter Try.func69, Try.ntmps69
  go_wp2_with fail
  refine (HZ.out _).mono ?_
  rintro e w1 ⟨rfl, b1⟩
  have B1 := Lib.hid (below_call (below_new (Below.refl _ W) _) b1)
  clear b1
  go_wp2
  go_ret2
  exact ⟨rfl, B1.out⟩

set_option maxHeartbeats 1000000 in
theorem part_wr_nil (a m : Int) (W : World) :
    Calls Try.prog 69 #[.pointer none, .agg #[.int .u64 a, .int .u64 m], .func (.func 72) #[.agg #[.int .u64 a, .int .u64 m]] #[]] W fun e w' => e = .returned (.tuple #[.slice none 0 0, .int .i64 1]) ∧ Below W.heap.size W w' := by
  go_enter Try.func69, Try.ntmps69
  go_wp2
  go_ret2
  exact ⟨rfl, below_new (Below.refl _ _) _⟩
end Go.Proofs.Ythhgcbegcbhaeaa
