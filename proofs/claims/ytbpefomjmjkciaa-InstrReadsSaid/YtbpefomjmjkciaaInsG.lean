/-
  Package instr: Target, fault, limits, and the function that Check hands on.
-/
import Derived.Test.YtbpefomjmjkciaaInsC
namespace Go.Proofs.Ytbpefomjmjkciaa.Ins
open Go.RowKit
set_option linter.unusedVariables false
set_option maxRecDepth 100000

theorem lt_of_cell {w : World} {b o : Nat} {v : Value} (h : w.cell? ⟨b, o, none⟩ = some v) : b < w.heap.size := by
  rcases Nat.lt_or_ge b w.heap.size with h' | h'
  · exact h'
  · have : w.heap[b]? = none := Array.getElem?_eq_none h'
    simp [World.cell?, this] at h
theorem near_t (r : Int) (W : World) (h : nearI r = true) : Calls Try.prog 127 #[.int .i64 r] W fun e w' => e = .returned (.bool true) ∧ W = w' := by
  have := near_any r W; rw [h] at this; exact this
theorem near_f (r : Int) (W : World) (h : nearI r = false) : Calls Try.prog 127 #[.int .i64 r] W fun e w' => e = .returned (.bool false) ∧ W = w' := by
  have := near_any r W; rw [h] at this; exact this

/-- Does one jump, and where to? -/
def jumpsI (i : Int) (x : In) : Bool := decide (x.kind = 3 ∨ x.kind = 4) && nearI i && nearI x.off
def targetI (i : Int) (x : In) : Int := if jumpsI i x = true then i + 1 + x.off else 0

set_option maxHeartbeats 1000000 in
theorem target_kind (i kind op width size : Int) (byReg : Bool) (dst src off imm : Int) (W : World) (h3 : ¬ kind = 3) (h4 : ¬ kind = 4) :
    Calls Try.prog 112 #[.int .i64 i, .agg (In.mk kind op width size byReg dst src off imm).cells] W fun e w' => e = .returned (.tuple #[.int .i64 0, .bool false]) ∧ Below W.heap.size W w' := by
  unfold In.cells
  simp only
  go_enter Try.func112, Try.ntmps112
  go_wp2
  go_ret2
  exact ⟨rfl, below_new (Below.refl _ _) _⟩
set_option maxHeartbeats 2000000 in
theorem target_far1 (i kind op width size : Int) (byReg : Bool) (dst src off imm : Int) (W : World) (h : kind = 3 ∨ kind = 4) (hn : nearI i = false) :
    Calls Try.prog 112 #[.int .i64 i, .agg (In.mk kind op width size byReg dst src off imm).cells] W fun e w' => e = .returned (.tuple #[.int .i64 0, .bool false]) ∧ Below W.heap.size W w' := by
  have HN := Lib.hid (fun W => near_f i W hn)
  clear hn
  unfold In.cells
  simp only
  rcases h with rfl | rfl
  all_goals
    go_enter Try.func112, Try.ntmps112
    go_wp2_with (go_at_call 127; refine (HN.out _).mono ?_; rintro e w' ⟨rfl, rfl⟩)
    go_ret2
    exact ⟨rfl, below_new (Below.refl _ _) _⟩
set_option maxHeartbeats 2000000 in
theorem target_far2 (i kind op width size : Int) (byReg : Bool) (dst src off imm : Int) (W : World) (h : kind = 3 ∨ kind = 4) (hn : nearI i = true) (ho : nearI off = false) :
    Calls Try.prog 112 #[.int .i64 i, .agg (In.mk kind op width size byReg dst src off imm).cells] W fun e w' => e = .returned (.tuple #[.int .i64 0, .bool false]) ∧ Below W.heap.size W w' := by
  have HN := Lib.hid (fun W => near_t i W hn)
  have HO := Lib.hid (fun W => near_f off W ho)
  clear hn ho
  unfold In.cells
  simp only
  rcases h with rfl | rfl
  all_goals
    go_enter Try.func112, Try.ntmps112
    go_wp2_with (first | (go_at_call 127; refine (HN.out _).mono ?_; rintro e w' ⟨rfl, rfl⟩) | (go_at_call 127; refine (HO.out _).mono ?_; rintro e w' ⟨rfl, rfl⟩))
    go_ret2
    exact ⟨rfl, below_new (Below.refl _ _) _⟩
set_option maxHeartbeats 2000000 in
theorem target_yes (i kind op width size : Int) (byReg : Bool) (dst src off imm : Int) (W : World) (h : kind = 3 ∨ kind = 4) (hn : nearI i = true) (ho : nearI off = true) :
    Calls Try.prog 112 #[.int .i64 i, .agg (In.mk kind op width size byReg dst src off imm).cells] W fun e w' => e = .returned (.tuple #[.int .i64 (i + 1 + off), .bool true]) ∧ Below W.heap.size W w' := by
  have HN := Lib.hid (fun W => near_t i W hn)
  have HO := Lib.hid (fun W => near_t off W ho)
  obtain ⟨b0, b1⟩ : -1099511627776 ≤ i ∧ i ≤ 1099511627776 := by simpa [nearI] using hn
  obtain ⟨b2, b3⟩ : -1099511627776 ≤ off ∧ off ≤ 1099511627776 := by simpa [nearI] using ho
  clear hn ho
  unfold In.cells
  simp only
  rcases h with rfl | rfl
  all_goals
    go_enter Try.func112, Try.ntmps112
    go_wp2_with (first | (go_at_call 127; refine (HN.out _).mono ?_; rintro e w' ⟨rfl, rfl⟩) | (go_at_call 127; refine (HO.out _).mono ?_; rintro e w' ⟨rfl, rfl⟩))
    go_ret2
    exact ⟨rfl, below_new (Below.refl _ _) _⟩
theorem target_any (i : Int) (x : In) (W : World) :
    Calls Try.prog 112 #[.int .i64 i, .agg x.cells] W fun e w' => e = .returned (.tuple #[.int .i64 (targetI i x), .bool (jumpsI i x)]) ∧ Below W.heap.size W w' := by
  obtain ⟨kind, op, width, size, byReg, dst, src, off, imm⟩ := x
  unfold targetI
  by_cases h : kind = 3 ∨ kind = 4
  · cases hn : nearI i
    · rw [show jumpsI i (In.mk kind op width size byReg dst src off imm) = false by simp [jumpsI, hn]]
      exact target_far1 i kind op width size byReg dst src off imm W h hn
    cases ho : nearI off
    · rw [show jumpsI i (In.mk kind op width size byReg dst src off imm) = false by simp [jumpsI, ho]]
      exact target_far2 i kind op width size byReg dst src off imm W h hn ho
    rw [show jumpsI i (In.mk kind op width size byReg dst src off imm) = true by simp [jumpsI, hn, ho]; simpa using h]
    exact target_yes i kind op width size byReg dst src off imm W h hn ho
  · rw [show jumpsI i (In.mk kind op width size byReg dst src off imm) = false by simp [jumpsI]; intro a; exact absurd a h]
    exact target_kind i kind op width size byReg dst src off imm W (by omega) (by omega)

theorem limits_any (c n : Int) (W : World) : Calls Try.prog 51 #[.int .i64 c, .int .i64 n] W fun e w' => e = .returned (.int .i64 (if c < 0 ∨ 256 < c then 2 else if n < 1 ∨ 64 < n then 3 else 0)) ∧ W = w' := by
  have E := Lib.hid (fun (r : Int) (h : r = if c < 0 ∨ 256 < c then 2 else if n < 1 ∨ 64 < n then 3 else 0) => h)
  by_cases h1 : c < 0
  · rw [if_pos (by omega)]
    go_enter Try.func51, Try.ntmps51
    go_wp2
    go_ret
    exact ⟨rfl, rfl⟩
  by_cases h2 : 256 < c
  · rw [if_pos (by omega)]
    go_enter Try.func51, Try.ntmps51
    go_wp2
    go_ret
    exact ⟨rfl, rfl⟩
  rw [if_neg (by omega)]
  by_cases h3 : n < 1
  · rw [if_pos (by omega)]
    go_enter Try.func51, Try.ntmps51
    go_wp2
    go_ret
    exact ⟨rfl, rfl⟩
  by_cases h4 : 64 < n
  · rw [if_pos (by omega)]
    go_enter Try.func51, Try.ntmps51
    go_wp2
    go_ret
    exact ⟨rfl, rfl⟩
  rw [if_neg (by omega)]
  go_enter Try.func51, Try.ntmps51
  go_wp2
  go_ret
  exact ⟨rfl, rfl⟩

/-- What is wrong with an instruction among n. -/
def faultI (i : Int) (x : In) (n : Int) : Int := if mayI x = false then 31 else if jumpsI i x = true ∧ (targetI i x < 0 ∨ n ≤ targetI i x) then 32 else 0

set_option maxHeartbeats 2000000 in
theorem fault_any (i : Int) (x : In) (n : Int) (W : World) : Calls Try.prog 86 #[.int .i64 i, .agg x.cells, .int .i64 n] W fun e w' => e = .returned (.int .i64 (faultI i x n)) ∧ Below W.heap.size W w' := by
  have M := Lib.hid (fun W => may_any x W)
  have T := Lib.hid (fun W => target_any i x W)
  have i9 : (Try.prog.info? 26).map (·.size) = some x.cells.size := info_ins
  unfold faultI
  generalize targetI i x = t at *
  generalize jumpsI i x = j at *
  generalize mayI x = m at *
  generalize x.cells = c at *
  have L0 : (W.alloc (.cells c 26)).heap[W.heap.size]? = some (.cells c 26 (0, 0)) := heap_last W _ _ rfl
  have HL := Lib.hid L0; have HI := Lib.hid i9
  clear L0 i9
  cases m
  · rw [if_pos rfl]
    go_enter Try.func86, Try.ntmps86
    go_wp2_with (refine (halt_load 26 _ rfl ?_))
    refine ⟨?_, trivial⟩
    refine wpList_load_row rfl 26 _ rfl W.heap.size rfl _ c _ _ HL.out Try.underlying26 rfl HI.out ?_
    go_wp2_with fail
    refine (M.out _).mono ?_
    rintro e w1 ⟨rfl, b1⟩
    go_wp2_with fail
    go_ret
    exact ⟨rfl, below_boxed b1⟩
  rw [if_neg (by simp)]
  have hc : (j = false) ∨ (j = true ∧ t < 0) ∨ (j = true ∧ ¬ t < 0 ∧ n ≤ t) ∨ (j = true ∧ ¬ t < 0 ∧ ¬ n ≤ t) := by cases j <;> simp <;> omega
  rcases hc with rfl | ⟨rfl, h1⟩ | ⟨rfl, h1, h2⟩ | ⟨rfl, h1, h2⟩
  rotate_left 1
  · rw [if_pos ⟨rfl, .inl h1⟩]
    go_enter Try.func86, Try.ntmps86
    go_wp2_with (refine (halt_load 26 _ rfl ?_))
    refine ⟨?_, trivial⟩
    refine wpList_load_row rfl 26 _ rfl W.heap.size rfl _ c _ _ HL.out Try.underlying26 rfl HI.out ?_
    go_wp2_with fail
    refine (M.out _).mono ?_
    rintro e w1 ⟨rfl, b1⟩
    have HL1 := Lib.hid ((b1.block _ (by simp)).trans HL.out)
    have B1 := Lib.hid b1; clear b1
    go_wp2_with (refine (halt_load 26 _ rfl ?_))
    refine ⟨?_, trivial⟩
    refine wpList_load_row rfl 26 _ rfl W.heap.size rfl _ c _ _ HL1.out Try.underlying26 rfl HI.out ?_
    go_wp2_with fail
    refine (T.out _).mono ?_
    rintro e w2 ⟨rfl, b2⟩
    go_wp2_with fail
    go_ret
    exact ⟨rfl, below_call (below_boxed B1.out) b2⟩
  · rw [if_pos ⟨rfl, .inr h2⟩]
    go_enter Try.func86, Try.ntmps86
    go_wp2_with (refine (halt_load 26 _ rfl ?_))
    refine ⟨?_, trivial⟩
    refine wpList_load_row rfl 26 _ rfl W.heap.size rfl _ c _ _ HL.out Try.underlying26 rfl HI.out ?_
    go_wp2_with fail
    refine (M.out _).mono ?_
    rintro e w1 ⟨rfl, b1⟩
    have HL1 := Lib.hid ((b1.block _ (by simp)).trans HL.out)
    have B1 := Lib.hid b1; clear b1
    go_wp2_with (refine (halt_load 26 _ rfl ?_))
    refine ⟨?_, trivial⟩
    refine wpList_load_row rfl 26 _ rfl W.heap.size rfl _ c _ _ HL1.out Try.underlying26 rfl HI.out ?_
    go_wp2_with fail
    refine (T.out _).mono ?_
    rintro e w2 ⟨rfl, b2⟩
    go_wp2_with fail
    go_ret
    exact ⟨rfl, below_call (below_boxed B1.out) b2⟩
  · rw [if_neg (by omega)]
    go_enter Try.func86, Try.ntmps86
    go_wp2_with (refine (halt_load 26 _ rfl ?_))
    refine ⟨?_, trivial⟩
    refine wpList_load_row rfl 26 _ rfl W.heap.size rfl _ c _ _ HL.out Try.underlying26 rfl HI.out ?_
    go_wp2_with fail
    refine (M.out _).mono ?_
    rintro e w1 ⟨rfl, b1⟩
    have HL1 := Lib.hid ((b1.block _ (by simp)).trans HL.out)
    have B1 := Lib.hid b1; clear b1
    go_wp2_with (refine (halt_load 26 _ rfl ?_))
    refine ⟨?_, trivial⟩
    refine wpList_load_row rfl 26 _ rfl W.heap.size rfl _ c _ _ HL1.out Try.underlying26 rfl HI.out ?_
    go_wp2_with fail
    refine (T.out _).mono ?_
    rintro e w2 ⟨rfl, b2⟩
    go_wp2_with fail
    go_ret
    exact ⟨rfl, below_call (below_boxed B1.out) b2⟩
  · rw [if_neg (by simp)]
    go_enter Try.func86, Try.ntmps86
    go_wp2_with (refine (halt_load 26 _ rfl ?_))
    refine ⟨?_, trivial⟩
    refine wpList_load_row rfl 26 _ rfl W.heap.size rfl _ c _ _ HL.out Try.underlying26 rfl HI.out ?_
    go_wp2_with fail
    refine (M.out _).mono ?_
    rintro e w1 ⟨rfl, b1⟩
    have HL1 := Lib.hid ((b1.block _ (by simp)).trans HL.out)
    have B1 := Lib.hid b1; clear b1
    go_wp2_with (refine (halt_load 26 _ rfl ?_))
    refine ⟨?_, trivial⟩
    refine wpList_load_row rfl 26 _ rfl W.heap.size rfl _ c _ _ HL1.out Try.underlying26 rfl HI.out ?_
    go_wp2_with fail
    refine (T.out _).mono ?_
    rintro e w2 ⟨rfl, b2⟩
    go_wp2_with fail
    go_ret
    exact ⟨rfl, below_call (below_boxed B1.out) b2⟩

set_option maxHeartbeats 1000000 in
theorem handed_any (i : Int) (x : In) (n : Int) (b o : Nat) (W : World) (hn : W.cell? ⟨b, o, none⟩ = some (.int .i64 n)) :
    Calls Try.prog 85 #[.int .i64 i, .agg x.cells, .pointer (some ⟨b, o, none⟩)] W fun e w' => e = .returned (.int .i64 (faultI i x n)) ∧ Below W.heap.size W w' := by
  have F := Lib.hid (fun W => fault_any i x n W)
  have i9 : (Try.prog.info? 26).map (·.size) = some x.cells.size := info_ins
  generalize faultI i x n = f at *
  generalize x.cells = c at *
  have L0 : (W.alloc (.cells c 26)).heap[W.heap.size]? = some (.cells c 26 (0, 0)) := heap_last W _ _ rfl
  have HL := Lib.hid L0; have HI := Lib.hid i9
  have hb : b < W.heap.size := lt_of_cell hn
  clear L0 i9
  go_enter Try.func85, Try.ntmps85
  go_wp2_with (refine (halt_load 26 _ rfl ?_))
  refine ⟨?_, trivial⟩
  refine wpList_load_row rfl 26 _ rfl W.heap.size rfl _ c _ _ HL.out Try.underlying26 rfl HI.out ?_
  go_wp2_with fail
  refine (F.out _).mono ?_
  rintro e w1 ⟨rfl, b1⟩
  go_wp2_with fail
  go_ret
  exact ⟨rfl, below_boxed b1⟩
end Go.Proofs.Ytbpefomjmjkciaa.Ins
