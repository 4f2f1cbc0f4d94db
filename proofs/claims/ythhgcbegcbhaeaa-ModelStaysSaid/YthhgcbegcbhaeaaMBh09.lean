/-
  Several texts in one: MemP, MemI.
-/
import Derived.Test.YthhgcbegcbhaeaaMBh08
import Derived.Test.YthhgcbegcbhaeaaMBh02
import Derived.Deep.QuietTactic
import Derived.BigQuiet
import Derived.Laws.EntriesVeiled
import Derived.Deep.OwnRows
import Derived.Laws.Rows
set_option linter.unusedVariables false
set_option linter.unusedSimpArgs false
set_option linter.unnecessarySimpa false
namespace Go.Proofs.Ythhgcbegcbhaeaa
open Go.RowKit
set_option linter.unusedVariables false
set_option maxRecDepth 100000

/-- The stack's size, where there is one. -/
def stkI (s : Bool) : Int := if s then 264 else 0
/-- The cells of the regions, without bytes. -/
def placeCells (c k : Int) (z : Int) : Array Value :=
  #[.int .u64 0, .int .u64 0, .bool false, .slice none 0 0,
    .int .u64 1048576, .int .u64 (limI k 16384), .bool true, .slice none 0 0,
    .int .u64 2097152, .int .u64 (limI c 256), .bool false, .slice none 0 0,
    .int .u64 3145728, .int .u64 64, .bool false, .slice none 0 0,
    .int .u64 4194304, .int .u64 z, .bool false, .slice none 0 0]

theorem info_regs : (Try.prog.info? 125).map (·.size) = some 20 := by kernel_rfl

theorem places_one (c k z : Int) : (placeCells c k z).all (·.oneCell') = true := by kernel_rfl
theorem places_size (c k z : Int) : (placeCells c k z).size = 20 := rfl
/-- A row of regions that was laid with zeros. -/
def zeroRegs : Array Value :=
  #[.int .u64 0, .int .u64 0, .bool false, .slice none 0 0, .int .u64 0, .int .u64 0, .bool false, .slice none 0 0, .int .u64 0, .int .u64 0, .bool false, .slice none 0 0,
    .int .u64 0, .int .u64 0, .bool false, .slice none 0 0, .int .u64 0, .int .u64 0, .bool false, .slice none 0 0]

set_option maxRecDepth 100000 in
set_option maxHeartbeats 1000000 in
theorem places_no (c k : Int) (W : World) :
    Calls Try.prog 100 #[.int .i64 c, .int .i64 k, .bool false] W fun e w' => e = .returned (.agg (placeCells c k 0)) ∧ Below W.heap.size W w' := by
  have hi := Lib.hid (show (Try.prog.info? 125).map (·.size) = some (placeCells c k 0).size from info_regs)
  have h1 := Lib.hid (places_one c k 0)
  go_enter Try.func100, Try.ntmps100
  go_wp2_with (first | (go_at_call 101; refine (limited_any _ _ (by omega) (by omega) _).mono ?_; rintro e w' ⟨rfl, rfl⟩) | (refine wpList_build_is rfl 125 _ rfl (placeCells c k 0) (by kernel_rfl) ?_) | (refine halt_store 125 _ _ rfl ?_))
  refine ⟨?_, trivial⟩
  refine wpList_store_is rfl 125 _ _ rfl (W.heap.size + 1) (placeCells c k 0) rfl rfl 125 zeroRegs (heap_last _ _ _ (by rw [size_alloc])) hi.out rfl h1.out ?_
  intro w1 s1
  have r6 : w1.heap[W.heap.size]? = some (.cells zeroRegs 125 (0, 0)) := (s1.other _ (by omega)).trans ((heap_past _ _ _ (by rw [size_alloc]; omega)).trans (heap_last _ _ _ rfl))
  have b1 : Below W.heap.size W w1 := s1.below (((Below.refl _ _).alloc (Nat.le_refl _) _).alloc (by simp) _) (by omega)
  have S1 := Lib.hid s1; clear s1
  have R6 := Lib.hid r6; clear r6
  have B1 := Lib.hid b1; clear b1
  go_wp2_with (first | (refine wpList_load_row rfl 125 _ rfl (W.heap.size + 1) rfl 125 (placeCells c k 0) (0, 0) _ S1.out.row Try.underlying125 rfl hi.out ?_) | (refine halt_store 125 _ _ rfl ?_))
  refine ⟨?_, trivial⟩
  refine wpList_store_is rfl 125 _ _ rfl W.heap.size (placeCells c k 0) rfl rfl 125 zeroRegs R6.out hi.out rfl h1.out ?_
  intro w2 s2
  have S2 := Lib.hid s2; clear s2
  go_wp2
  exact bodyPost_ret (v := .agg (placeCells c k 0)) (results_cell_row rfl _ _ W.heap.size _ (placeCells c k 0) _ _ rfl S2.out.row Try.underlying125 rfl hi.out) rfl ⟨rfl, S2.out.below B1.out (Nat.le_refl _)⟩

set_option maxRecDepth 100000 in
set_option maxHeartbeats 1000000 in
theorem places_yes (c k : Int) (W : World) :
    Calls Try.prog 100 #[.int .i64 c, .int .i64 k, .bool true] W fun e w' => e = .returned (.agg (placeCells c k 264)) ∧ Below W.heap.size W w' := by
  have hi := Lib.hid (show (Try.prog.info? 125).map (·.size) = some (placeCells c k 0).size from info_regs)
  have hi' := Lib.hid (show (Try.prog.info? 125).map (·.size) = some (placeCells c k 264).size from info_regs)
  have h1 := Lib.hid (places_one c k 0)
  have h1' := Lib.hid (places_one c k 264)
  go_enter Try.func100, Try.ntmps100
  go_wp2_with (first | (go_at_call 101; refine (limited_any _ _ (by omega) (by omega) _).mono ?_; rintro e w' ⟨rfl, rfl⟩) | (refine wpList_build_is rfl 125 _ rfl (placeCells c k 0) (by kernel_rfl) ?_) | (refine halt_store 125 _ _ rfl ?_))
  refine ⟨?_, trivial⟩
  refine wpList_store_is rfl 125 _ _ rfl (W.heap.size + 1) (placeCells c k 0) rfl rfl 125 zeroRegs (heap_last _ _ _ (by rw [size_alloc])) hi.out rfl h1.out ?_
  intro w1 s1
  have r6 : w1.heap[W.heap.size]? = some (.cells zeroRegs 125 (0, 0)) := (s1.other _ (by omega)).trans ((heap_past _ _ _ (by rw [size_alloc]; omega)).trans (heap_last _ _ _ rfl))
  have b1 : Below W.heap.size W w1 := s1.below (((Below.refl _ _).alloc (Nat.le_refl _) _).alloc (by simp) _) (by omega)
  have c17 : w1.cell? ⟨W.heap.size + 1, 17, none⟩ = some (.int .u64 0) := s1.cell 17
  have f17 := s1.frozen 17
  have S1 := Lib.hid s1; clear s1
  have R6 := Lib.hid r6; clear r6
  have B1 := Lib.hid b1; clear b1
  have R7 := Lib.hid (show (w1.setCell ⟨W.heap.size + 1, 17, none⟩ (.int .u64 264)).heap[W.heap.size + 1]? = some (.cells (placeCells c k 264) 125 (0, 0)) from setCell_row S1.out.row 17 _)
  have R8 := Lib.hid (show (w1.setCell ⟨W.heap.size + 1, 17, none⟩ (.int .u64 264)).heap[W.heap.size]? = some (.cells zeroRegs 125 (0, 0)) from (setCell_past _ _ _ _ (by show W.heap.size ≠ W.heap.size + 1; omega)).trans R6.out)
  go_wp2_with (first | (refine wpList_load_row rfl 125 _ rfl (W.heap.size + 1) rfl 125 (placeCells c k 264) (0, 0) _ R7.out Try.underlying125 rfl hi'.out ?_) | (refine halt_store 125 _ _ rfl ?_))
  refine ⟨?_, trivial⟩
  refine wpList_store_is rfl 125 _ _ rfl W.heap.size (placeCells c k 264) rfl rfl 125 zeroRegs R8.out hi'.out rfl h1'.out ?_
  intro w2 s2
  have S2 := Lib.hid s2; clear s2
  go_wp2
  exact bodyPost_ret (v := .agg (placeCells c k 264)) (results_cell_row rfl _ _ W.heap.size _ (placeCells c k 264) _ _ rfl S2.out.row Try.underlying125 rfl hi'.out) rfl ⟨rfl, S2.out.below (B1.out.setCell (by simp) _) (Nat.le_refl _)⟩

theorem places_any (c k : Int) (s : Bool) (W : World) :
    Calls Try.prog 100 #[.int .i64 c, .int .i64 k, .bool s] W fun e w' => e = .returned (.agg (placeCells c k (stkI s))) ∧ Below W.heap.size W w' := by
  cases s
  · exact places_no c k W
  · exact places_yes c k W
end Go.Proofs.Ythhgcbegcbhaeaa

namespace Go.Proofs.Ythhgcbegcbhaeaa
open Go.RowKit
set_option linter.unusedVariables false
set_option maxRecDepth 100000

/-- The cells of the regions: a function of the place. -/
structure Regs where
  st : Nat → Int
  sz : Nat → Int
  fx : Nat → Bool
  bp : Nat → Option Addr
  bl : Nat → Nat
def Regs.cells (R : Regs) (k : Nat) : List Value := [.int .u64 (R.st k), .int .u64 (R.sz k), .bool (R.fx k), .slice (R.bp k) (R.bl k) (R.bl k)]
/-- The regions lie in block g. -/
def Regs.at (R : Regs) (w : World) (g : Nat) : Prop := ∀ k, k < 5 → w.rangeAt g (k * 4) (R.cells k)


/-- The first of five. -/
def firstI (P : Nat → Bool) : Int := if P 0 = true then 0 else if P 1 = true then 1 else if P 2 = true then 2 else if P 3 = true then 3 else if P 4 = true then 4 else -1
theorem firstI_none {P : Nat → Bool} (h : ∀ j, j < 5 → P j = false) : firstI P = -1 := by
  unfold firstI; simp [h 0 (by omega), h 1 (by omega), h 2 (by omega), h 3 (by omega), h 4 (by omega)]
theorem firstI_some {P : Nat → Bool} {k : Nat} (hk : k < 5) (h : ∀ j, j < k → P j = false) (hP : P k = true) : firstI P = k := by
  have : k = 0 ∨ k = 1 ∨ k = 2 ∨ k = 3 ∨ k = 4 := by omega
  rcases this with rfl | rfl | rfl | rfl | rfl
  · simp [firstI, hP]
  · simp [firstI, hP, h 0 (by omega)]
  · simp [firstI, hP, h 0 (by omega), h 1 (by omega)]
  · simp [firstI, hP, h 0 (by omega), h 1 (by omega), h 2 (by omega)]
  · simp [firstI, hP, h 0 (by omega), h 1 (by omega), h 2 (by omega), h 3 (by omega)]
theorem Regs.at_below {R : Regs} {W w : World} {g : Nat} (h : R.at W g) (hb : Below W.heap.size W w) (hg : g < W.heap.size) : R.at w g := fun k hk j v hv =>
  (hb.cell (p := ⟨g, k * 4 + j, none⟩) hg).trans (h k hk j v hv)
theorem info_reg : (Try.prog.info? 124).map (·.size) = some 4 := by kernel_rfl

set_option maxHeartbeats 1000000 in
theorem index_rd (a n : Int) (R : Regs) (g : Nat) (W : World) (hR : R.at W g) (hg : g < W.heap.size) (hz : ∀ k, 0 ≤ R.sz k ∧ R.sz k < 18446744073709551616) :
    Calls Try.prog 95 #[.slice (some ⟨g, 0, none⟩) 5 5, .func (.func 70) #[.agg #[.int .u64 a, .int .u64 n]] #[]] W fun e w' => e = .returned (.int .i64 (firstI fun k => rdB a n (R.st k) (R.sz k))) ∧ Below W.heap.size W w' := by
  have HR := Lib.hid hR; clear hR
  have HZ := Lib.hid hz; clear hz
  go_enter Try.func95, Try.ntmps95
  go_wp2
  go_loopw [8] (fun i wr => ∃ k : Nat, k ≤ 5 ∧ i = .int .i64 k ∧ Below W.heap.size W wr ∧ Hid (∀ j, j < k → (fun k => rdB a n (R.st k) (R.sz k)) j = false)) (fun i _ => 5 - (intOf i).toNat)
  case atStart => exact ⟨0, by omega, rfl, Below.refl _ _, fun j hj => absurd hj (by omega)⟩
  case round =>
    obtain ⟨k, hk, rfl, hB, hF⟩ := hrel
    by_cases hlt : k < 5
    · have HA := Lib.hid (Regs.at_below HR.out hB hg k hlt)
      have HI := Lib.hid (show (Try.prog.info? 124).map (·.size) = some (R.cells k).length from info_reg)
      cases hP : rdB a n (R.st k) (R.sz k)
      · go_wp2_with (first | (refine wpList_load_mid rfl 124 _ rfl g (k * 4) rfl (R.cells k) _ HA.out Try.underlying124 rfl HI.out ?_) | (go_at_call 70; refine (readable_any _ _ _ _ _ _ _ _ _ (HZ.out k).1 (HZ.out k).2).mono ?_; rintro e w1 ⟨rfl, b1⟩))
        go_roundw
        case rel => exact ⟨k + 1, by omega, by go_num, hB.trans (b1.mono hB.size), fun j hj => by
          by_cases e : j < k
          · exact hF.out j e
          · obtain rfl : j = k := by omega
            exact hP⟩
        case measure => simp [intOf]; omega
      · have HE := Lib.hid (firstI_some (P := fun k => rdB a n (R.st k) (R.sz k)) hlt hF.out hP)
        go_wp2_with (first | (refine wpList_load_mid rfl 124 _ rfl g (k * 4) rfl (R.cells k) _ HA.out Try.underlying124 rfl HI.out ?_) | (go_at_call 70; refine (readable_any _ _ _ _ _ _ _ _ _ (HZ.out k).1 (HZ.out k).2).mono ?_; rintro e w1 ⟨rfl, b1⟩))
        go_ret
        exact ⟨by rw [HE.out]; rfl, hB.trans (b1.mono hB.size)⟩
    · obtain rfl : k = 5 := by omega
      have HE := Lib.hid (firstI_none hF.out)
      go_wp2
      go_ret
      exact ⟨by rw [HE.out]; rfl, hB⟩

set_option maxHeartbeats 1000000 in
theorem index_wr (a n : Int) (R : Regs) (g : Nat) (W : World) (hR : R.at W g) (hg : g < W.heap.size) (hz : ∀ k, 0 ≤ R.sz k ∧ R.sz k < 18446744073709551616) :
    Calls Try.prog 95 #[.slice (some ⟨g, 0, none⟩) 5 5, .func (.func 72) #[.agg #[.int .u64 a, .int .u64 n]] #[]] W fun e w' => e = .returned (.int .i64 (firstI fun k => wrB a n (R.st k) (R.sz k) (R.fx k))) ∧ Below W.heap.size W w' := by
  have HR := Lib.hid hR; clear hR
  have HZ := Lib.hid hz; clear hz
  go_enter Try.func95, Try.ntmps95
  go_wp2
  go_loopw [8] (fun i wr => ∃ k : Nat, k ≤ 5 ∧ i = .int .i64 k ∧ Below W.heap.size W wr ∧ Hid (∀ j, j < k → (fun k => wrB a n (R.st k) (R.sz k) (R.fx k)) j = false)) (fun i _ => 5 - (intOf i).toNat)
  case atStart => exact ⟨0, by omega, rfl, Below.refl _ _, fun j hj => absurd hj (by omega)⟩
  case round =>
    obtain ⟨k, hk, rfl, hB, hF⟩ := hrel
    by_cases hlt : k < 5
    · have HA := Lib.hid (Regs.at_below HR.out hB hg k hlt)
      have HI := Lib.hid (show (Try.prog.info? 124).map (·.size) = some (R.cells k).length from info_reg)
      cases hP : wrB a n (R.st k) (R.sz k) (R.fx k)
      · go_wp2_with (first | (refine wpList_load_mid rfl 124 _ rfl g (k * 4) rfl (R.cells k) _ HA.out Try.underlying124 rfl HI.out ?_) | (go_at_call 72; refine (writable_any _ _ _ _ _ _ _ _ _ (HZ.out k).1 (HZ.out k).2).mono ?_; rintro e w1 ⟨rfl, b1⟩))
        go_roundw
        case rel => exact ⟨k + 1, by omega, by go_num, hB.trans (b1.mono hB.size), fun j hj => by
          by_cases e : j < k
          · exact hF.out j e
          · obtain rfl : j = k := by omega
            exact hP⟩
        case measure => simp [intOf]; omega
      · have HE := Lib.hid (firstI_some (P := fun k => wrB a n (R.st k) (R.sz k) (R.fx k)) hlt hF.out hP)
        go_wp2_with (first | (refine wpList_load_mid rfl 124 _ rfl g (k * 4) rfl (R.cells k) _ HA.out Try.underlying124 rfl HI.out ?_) | (go_at_call 72; refine (writable_any _ _ _ _ _ _ _ _ _ (HZ.out k).1 (HZ.out k).2).mono ?_; rintro e w1 ⟨rfl, b1⟩))
        go_ret
        exact ⟨by rw [HE.out]; rfl, hB.trans (b1.mono hB.size)⟩
    · obtain rfl : k = 5 := by omega
      have HE := Lib.hid (firstI_none hF.out)
      go_wp2
      go_ret
      exact ⟨by rw [HE.out]; rfl, hB⟩
end Go.Proofs.Ythhgcbegcbhaeaa
