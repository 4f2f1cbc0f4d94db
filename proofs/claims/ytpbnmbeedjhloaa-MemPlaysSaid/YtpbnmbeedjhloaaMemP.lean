/-
  Package mem: the regions by their numbers (places), and the first that lets an access be (slices.IndexFunc over them).
-/
import Derived.Test.YtpbnmbeedjhloaaMemW
import Derived.Test.YtpbnmbeedjhloaaStore
import Derived.Deep.QuietTactic
import Derived.BigQuiet
import Derived.Laws.EntriesVeiled
import Derived.Deep.OwnRows
import Derived.Laws.Rows
namespace Go.Proofs.Ytpbnmbeedjhloaa
open Go.RowKit
set_option linter.unusedVariables false
set_option maxRecDepth 100000

/-- The stack's size, where there is one. -/
def stkI (s : Bool) : Int := if s then 264 else 0
/-- The cells of the regions, without bytes. -/
def placeCells (c k : Int) (z : Int) : Array Value :=
  #[.int .u64 0, .int .u64 0, .bool false, .slice none 0 0,
    .int .u64 1048576, .int .u64 (limI k 16384), .bool true, .slice none 0 0,
    .int .u64 2097152, .int .u64 (limI c 256), .bool false, .slice none 0 0,
    .int .u64 3145728, .int .u64 64, .bool false, .slice none 0 0,
    .int .u64 4194304, .int .u64 z, .bool false, .slice none 0 0]

theorem info_regs : (Try.prog.info? 112).map (·.size) = some 20 := by kernel_rfl

theorem places_one (c k z : Int) : (placeCells c k z).all (·.oneCell') = true := by kernel_rfl
theorem places_size (c k z : Int) : (placeCells c k z).size = 20 := rfl
/-- A row of regions that was laid with zeros. -/
def zeroRegs : Array Value :=
  #[.int .u64 0, .int .u64 0, .bool false, .slice none 0 0, .int .u64 0, .int .u64 0, .bool false, .slice none 0 0, .int .u64 0, .int .u64 0, .bool false, .slice none 0 0,
    .int .u64 0, .int .u64 0, .bool false, .slice none 0 0, .int .u64 0, .int .u64 0, .bool false, .slice none 0 0]

set_option maxRecDepth 100000 in
set_option maxHeartbeats 1000000 in
theorem places_no (c k : Int) (W : World) :
    Calls Try.prog 115 #[.int .i64 c, .int .i64 k, .bool false] W fun e w' => e = .returned (.agg (placeCells c k 0)) ∧ Below W.heap.size W w' := by
  have hi := Lib.hid (show (Try.prog.info? 112).map (·.size) = some (placeCells c k 0).size from info_regs)
  have h1 := Lib.hid (places_one c k 0)
  go_enter Try.func115, Try.ntmps115
  go_wp2_with (first | (go_at_call 138; refine (limited_any _ _ (by omega) (by omega) _).mono ?_; rintro e w' ⟨rfl, rfl⟩) | (refine wpList_build_is rfl 112 _ rfl (placeCells c k 0) (by kernel_rfl) ?_) | (refine halt_store 112 _ _ rfl ?_))
  refine ⟨?_, trivial⟩
  refine wpList_store_is rfl 112 _ _ rfl (W.heap.size + 1) (placeCells c k 0) rfl rfl 112 zeroRegs (heap_last _ _ _ (by rw [size_alloc])) hi.out rfl h1.out ?_
  intro w1 s1
  have r6 : w1.heap[W.heap.size]? = some (.cells zeroRegs 112 (0, 0)) := (s1.other _ (by omega)).trans ((heap_past _ _ _ (by rw [size_alloc]; omega)).trans (heap_last _ _ _ rfl))
  have b1 : Below W.heap.size W w1 := s1.below (((Below.refl _ _).alloc (Nat.le_refl _) _).alloc (by simp) _) (by omega)
  have S1 := Lib.hid s1; clear s1
  have R6 := Lib.hid r6; clear r6
  have B1 := Lib.hid b1; clear b1
  go_wp2_with (first | (refine wpList_load_row rfl 112 _ rfl (W.heap.size + 1) rfl 112 (placeCells c k 0) (0, 0) _ S1.out.row Try.underlying112 rfl hi.out ?_) | (refine halt_store 112 _ _ rfl ?_))
  refine ⟨?_, trivial⟩
  refine wpList_store_is rfl 112 _ _ rfl W.heap.size (placeCells c k 0) rfl rfl 112 zeroRegs R6.out hi.out rfl h1.out ?_
  intro w2 s2
  have S2 := Lib.hid s2; clear s2
  go_wp2
  exact bodyPost_ret (v := .agg (placeCells c k 0)) (results_cell_row rfl _ _ W.heap.size _ (placeCells c k 0) _ _ rfl S2.out.row Try.underlying112 rfl hi.out) rfl ⟨rfl, S2.out.below B1.out (Nat.le_refl _)⟩

set_option maxRecDepth 100000 in
set_option maxHeartbeats 1000000 in
theorem places_yes (c k : Int) (W : World) :
    Calls Try.prog 115 #[.int .i64 c, .int .i64 k, .bool true] W fun e w' => e = .returned (.agg (placeCells c k 264)) ∧ Below W.heap.size W w' := by
  have hi := Lib.hid (show (Try.prog.info? 112).map (·.size) = some (placeCells c k 0).size from info_regs)
  have hi' := Lib.hid (show (Try.prog.info? 112).map (·.size) = some (placeCells c k 264).size from info_regs)
  have h1 := Lib.hid (places_one c k 0)
  have h1' := Lib.hid (places_one c k 264)
  go_enter Try.func115, Try.ntmps115
  go_wp2_with (first | (go_at_call 138; refine (limited_any _ _ (by omega) (by omega) _).mono ?_; rintro e w' ⟨rfl, rfl⟩) | (refine wpList_build_is rfl 112 _ rfl (placeCells c k 0) (by kernel_rfl) ?_) | (refine halt_store 112 _ _ rfl ?_))
  refine ⟨?_, trivial⟩
  refine wpList_store_is rfl 112 _ _ rfl (W.heap.size + 1) (placeCells c k 0) rfl rfl 112 zeroRegs (heap_last _ _ _ (by rw [size_alloc])) hi.out rfl h1.out ?_
  intro w1 s1
  have r6 : w1.heap[W.heap.size]? = some (.cells zeroRegs 112 (0, 0)) := (s1.other _ (by omega)).trans ((heap_past _ _ _ (by rw [size_alloc]; omega)).trans (heap_last _ _ _ rfl))
  have b1 : Below W.heap.size W w1 := s1.below (((Below.refl _ _).alloc (Nat.le_refl _) _).alloc (by simp) _) (by omega)
  have c17 : w1.cell? ⟨W.heap.size + 1, 17, none⟩ = some (.int .u64 0) := s1.cell 17
  have f17 := s1.frozen 17
  have S1 := Lib.hid s1; clear s1
  have R6 := Lib.hid r6; clear r6
  have B1 := Lib.hid b1; clear b1
  have R7 := Lib.hid (show (w1.setCell ⟨W.heap.size + 1, 17, none⟩ (.int .u64 264)).heap[W.heap.size + 1]? = some (.cells (placeCells c k 264) 112 (0, 0)) from setCell_row S1.out.row 17 _)
  have R8 := Lib.hid (show (w1.setCell ⟨W.heap.size + 1, 17, none⟩ (.int .u64 264)).heap[W.heap.size]? = some (.cells zeroRegs 112 (0, 0)) from (setCell_past _ _ _ _ (by show W.heap.size ≠ W.heap.size + 1; omega)).trans R6.out)
  go_wp2_with (first | (refine wpList_load_row rfl 112 _ rfl (W.heap.size + 1) rfl 112 (placeCells c k 264) (0, 0) _ R7.out Try.underlying112 rfl hi'.out ?_) | (refine halt_store 112 _ _ rfl ?_))
  refine ⟨?_, trivial⟩
  refine wpList_store_is rfl 112 _ _ rfl W.heap.size (placeCells c k 264) rfl rfl 112 zeroRegs R8.out hi'.out rfl h1'.out ?_
  intro w2 s2
  have S2 := Lib.hid s2; clear s2
  go_wp2
  exact bodyPost_ret (v := .agg (placeCells c k 264)) (results_cell_row rfl _ _ W.heap.size _ (placeCells c k 264) _ _ rfl S2.out.row Try.underlying112 rfl hi'.out) rfl ⟨rfl, S2.out.below (B1.out.setCell (by simp) _) (Nat.le_refl _)⟩

theorem places_any (c k : Int) (s : Bool) (W : World) :
    Calls Try.prog 115 #[.int .i64 c, .int .i64 k, .bool s] W fun e w' => e = .returned (.agg (placeCells c k (stkI s))) ∧ Below W.heap.size W w' := by
  cases s
  · exact places_no c k W
  · exact places_yes c k W
end Go.Proofs.Ytpbnmbeedjhloaa
