/-
  Several texts in one: InsA, InsB00, InsB0, InsB1.
-/
import Derived.Test.YthhgcbegcbhaeaaRows
import Derived.Test.YthhgcbegcbhaeaaMBh01
import Derived.Test.YthhgcbegcbhaeaaMBh02
import Derived.WalkKit
import Derived.WalkSpells
import Derived.WalkLawsBesides
import Derived.Lib.Hide
import Derived.Handy
import Derived.BigQuiet
import Derived.Deep.QuietTactic
import Derived.Deep.RegionHeld3
set_option linter.unusedVariables false
set_option linter.unusedSimpArgs false
set_option linter.unnecessarySimpa false
namespace Go.Proofs.Ythhgcbegcbhaeaa.Ins
open Go.RowKit
set_option linter.unusedVariables false

theorem retB {a b : Bool} (h : a = b) : Ending.returned (.bool a) = .returned (.bool b) := by rw [h]
theorem retI {k : IntKind} {a b : Int} (h : a = b) : Ending.returned (.int k a) = .returned (.int k b) := by rw [h]

theorem below_drewN {B : Nat} {W w : World} (h : Below B W w) : ∀ n, Below B W (w.drewN n)
  | 0 => h
  | n + 1 => (below_drewN h n).drew

theorem register_any (r : Int) (W : World) : Calls Try.prog 98 #[.int .i8 r] W fun e w' => e = .returned (.bool (regI r)) ∧ W = w' := by
  by_cases h0 : 0 ≤ r
  · by_cases h1 : r < 11
    · rw [show regI r = true from decide_eq_true ⟨h0, h1⟩]
      go_enter Try.func98, Try.ntmps98
      go_wp2
      go_ret
      exact ⟨rfl, rfl⟩
    · rw [show regI r = false from decide_eq_false (by omega)]
      go_enter Try.func98, Try.ntmps98
      go_wp2
      go_ret
      exact ⟨rfl, rfl⟩
  · rw [show regI r = false from decide_eq_false (by omega)]
    go_enter Try.func98, Try.ntmps98
    go_wp2
    go_ret
    exact ⟨rfl, rfl⟩
theorem near_any (r : Int) (W : World) : Calls Try.prog 75 #[.int .i64 r] W fun e w' => e = .returned (.bool (nearI r)) ∧ W = w' := by
  by_cases h0 : -1099511627776 ≤ r
  · by_cases h1 : r ≤ 1099511627776
    · rw [show nearI r = true from decide_eq_true ⟨h0, h1⟩]
      go_enter Try.func75, Try.ntmps75
      go_wp2
      go_ret
      exact ⟨rfl, rfl⟩
    · rw [show nearI r = false from decide_eq_false (by omega)]
      go_enter Try.func75, Try.ntmps75
      go_wp2
      go_ret
      exact ⟨rfl, rfl⟩
  · rw [show nearI r = false from decide_eq_false (by omega)]
    go_enter Try.func75, Try.ntmps75
    go_wp2
    go_ret
    exact ⟨rfl, rfl⟩
theorem sized_any (n : Int) (W : World) : Calls Try.prog 99 #[.int .i8 n] W fun e w' => e = .returned (.bool (sizedI n)) ∧ W = w' := by
  have E := Lib.hid (show (n == 1 || n == 2 || n == 4 || n == 8) = sizedI n by unfold sizedI; rw [Bool.eq_iff_iff, decide_eq_true_iff]; simp [or_assoc])
  go_enter Try.func99, Try.ntmps99
  go_wp2
  all_goals
    go_ret
    exact ⟨retB (by rw [← E.out]; try simp [*]), rfl⟩

theorem operand_any (x : In) (W : World) : Calls Try.prog 97 #[.agg x.cells] W fun e w' => e = .returned (.tuple #[.bool x.byReg, .int .i8 (srcI x), .int .i64 (immI x)]) ∧ Below W.heap.size W w' := by
  unfold In.cells srcI immI
  cases x.byReg
  · go_enter Try.func97, Try.ntmps97
    go_wp2
    go_quiet (fail)
    go_wp2
    go_ret3
    exact ⟨rfl, below_drewN ((Below.refl _ _).alloc (Nat.le_refl _) _) _⟩
  · go_enter Try.func97, Try.ntmps97
    go_wp2
    go_quiet (fail)
    go_wp2
    go_ret3
    exact ⟨rfl, below_drewN ((Below.refl _ _).alloc (Nat.le_refl _) _) _⟩

theorem bcell {W w1 : World} (hb : Below W.heap.size W w1) : (∀ b o, b < W.heap.size → w1.cell? ⟨b, o, none⟩ = W.cell? ⟨b, o, none⟩) ∧ (∀ b o, b < W.heap.size → w1.frozen? ⟨b, o, none⟩ = W.frozen? ⟨b, o, none⟩) :=
  ⟨fun b o h => hb.cell (p := ⟨b, o, none⟩) h, fun b o h => hb.frozen (p := ⟨b, o, none⟩) h⟩

set_option maxRecDepth 100000 in
set_option maxHeartbeats 1000000 in
theorem used_0 (op width size : Int) (byReg : Bool) (dst src off imm : Int) (W : World) (hk : ¬ op = 8) :
    Calls Try.prog 76 #[.agg (In.mk 0 op width size byReg dst src off imm).cells] W fun e w' => e = .returned (.agg #[.int .i8 0, .int .i8 op, .int .i8 width, .int .i8 0, .bool byReg, .int .i8 dst, .int .i8 (srcI (In.mk 0 op width size byReg dst src off imm)), .int .i64 0, .int .i64 (immI (In.mk 0 op width size byReg dst src off imm))]) ∧ Below W.heap.size W w' := by
  have OP := Lib.hid (operand_any (In.mk 0 op width size byReg dst src off imm))
  generalize hs : srcI (In.mk 0 op width size byReg dst src off imm) = s at *
  generalize hi : immI (In.mk 0 op width size byReg dst src off imm) = m at *
  clear hs hi
  have h8 : (op != 8) = true := by simpa using hk
  unfold In.cells at *
  simp only at *
  go_enter Try.func76, Try.ntmps76
  go_wp2
  go_region_held3 (fun w' => w'.cell? ⟨W.heap.size, 1, none⟩ = some (.int .i8 op) ∧ w'.cell? ⟨W.heap.size, 2, none⟩ = some (.int .i8 width) ∧ w'.cell? ⟨W.heap.size, 5, none⟩ = some (.int .i8 dst)) ((refine ⟨?_, ?_, ?_⟩ <;> go_simp)) (fail)
  go_wp2_with fail
  refine (OP.out _).mono ?_
  rintro e w1 ⟨rfl, b1⟩
  have hz := b1.size
  obtain ⟨hc, hf⟩ := bcell b1
  simp at hz
  have B1 := Lib.hid b1; clear b1
  go_wp2_with fail
  refine bodyPost_ret (v := .agg #[.int .i8 0, .int .i8 op, .int .i8 width, .int .i8 0, .bool byReg, .int .i8 dst, .int .i8 s, .int .i64 0, .int .i64 m]) (by simp [results, Try.results76, go_sem, hc]) rfl ⟨rfl, ?_⟩
  repeat (refine Below.setCell ?_ (by simp only; omega) _)
  refine below_call ?_ B1.out
  repeat (first | exact Below.refl _ _ | refine Below.drew ?_ | refine below_new ?_ _)

set_option maxRecDepth 100000 in
set_option maxHeartbeats 1000000 in
theorem used_0n (width size : Int) (byReg : Bool) (dst src off imm : Int) (W : World) :
    Calls Try.prog 76 #[.agg (In.mk 0 8 width size byReg dst src off imm).cells] W fun e w' => e = .returned (.agg #[.int .i8 0, .int .i8 8, .int .i8 width, .int .i8 0, .bool false, .int .i8 dst, .int .i8 0, .int .i64 0, .int .i64 0]) ∧ Below W.heap.size W w' := by
  unfold In.cells at *
  simp only at *
  go_enter Try.func76, Try.ntmps76
  go_wp2
  go_region_held3 (fun w' => w'.cell? ⟨W.heap.size, 1, none⟩ = some (.int .i8 8) ∧ w'.cell? ⟨W.heap.size, 2, none⟩ = some (.int .i8 width) ∧ w'.cell? ⟨W.heap.size, 5, none⟩ = some (.int .i8 dst)) ((refine ⟨?_, ?_, ?_⟩ <;> go_simp)) (fail)
  go_wp2_with fail
  refine bodyPost_ret (v := .agg #[.int .i8 0, .int .i8 8, .int .i8 width, .int .i8 0, .bool false, .int .i8 dst, .int .i8 0, .int .i64 0, .int .i64 0]) (by simp [results, Try.results76, go_sem]) rfl ⟨rfl, ?_⟩
  repeat (refine Below.setCell ?_ (by simp only; omega) _)
  repeat (first | exact Below.refl _ _ | refine Below.drew ?_ | refine below_new ?_ _)

set_option maxRecDepth 100000 in
set_option maxHeartbeats 1000000 in
theorem used_12 (kind op width size : Int) (byReg : Bool) (dst src off imm : Int) (W : World) (hk : kind = 1 ∨ kind = 2) :
    Calls Try.prog 76 #[.agg (In.mk kind op width size byReg dst src off imm).cells] W fun e w' => e = .returned (.agg #[.int .i8 kind, .int .i8 0, .int .i8 0, .int .i8 size, .bool false, .int .i8 dst, .int .i8 src, .int .i64 off, .int .i64 0]) ∧ Below W.heap.size W w' := by
  unfold In.cells at *
  simp only at *
  rcases hk with rfl | rfl
  · go_enter Try.func76, Try.ntmps76
    go_wp2
    go_region_held3 (fun w' => w'.cell? ⟨W.heap.size, 3, none⟩ = some (.int .i8 size) ∧ w'.cell? ⟨W.heap.size, 5, none⟩ = some (.int .i8 dst) ∧ w'.cell? ⟨W.heap.size, 6, none⟩ = some (.int .i8 src) ∧ w'.cell? ⟨W.heap.size, 7, none⟩ = some (.int .i64 off)) ((refine ⟨?_, ?_, ?_, ?_⟩ <;> go_simp)) (fail)
    go_wp2_with fail
    refine bodyPost_ret (v := .agg #[.int .i8 1, .int .i8 0, .int .i8 0, .int .i8 size, .bool false, .int .i8 dst, .int .i8 src, .int .i64 off, .int .i64 0]) (by simp [results, Try.results76, go_sem]) rfl ⟨rfl, ?_⟩
    repeat (refine Below.setCell ?_ (by simp only; omega) _)
    repeat (first | exact Below.refl _ _ | refine Below.drew ?_ | refine below_new ?_ _)
  · go_enter Try.func76, Try.ntmps76
    go_wp2
    go_region_held3 (fun w' => w'.cell? ⟨W.heap.size, 3, none⟩ = some (.int .i8 size) ∧ w'.cell? ⟨W.heap.size, 5, none⟩ = some (.int .i8 dst) ∧ w'.cell? ⟨W.heap.size, 6, none⟩ = some (.int .i8 src) ∧ w'.cell? ⟨W.heap.size, 7, none⟩ = some (.int .i64 off)) ((refine ⟨?_, ?_, ?_, ?_⟩ <;> go_simp)) (fail)
    go_wp2_with fail
    refine bodyPost_ret (v := .agg #[.int .i8 2, .int .i8 0, .int .i8 0, .int .i8 size, .bool false, .int .i8 dst, .int .i8 src, .int .i64 off, .int .i64 0]) (by simp [results, Try.results76, go_sem]) rfl ⟨rfl, ?_⟩
    repeat (refine Below.setCell ?_ (by simp only; omega) _)
    repeat (first | exact Below.refl _ _ | refine Below.drew ?_ | refine below_new ?_ _)

set_option maxRecDepth 100000 in
set_option maxHeartbeats 1000000 in
theorem used_3 (op width size : Int) (byReg : Bool) (dst src off imm : Int) (W : World) :
    Calls Try.prog 76 #[.agg (In.mk 3 op width size byReg dst src off imm).cells] W fun e w' => e = .returned (.agg #[.int .i8 3, .int .i8 op, .int .i8 0, .int .i8 0, .bool byReg, .int .i8 dst, .int .i8 (srcI (In.mk 3 op width size byReg dst src off imm)), .int .i64 off, .int .i64 (immI (In.mk 3 op width size byReg dst src off imm))]) ∧ Below W.heap.size W w' := by
  have OP := Lib.hid (operand_any (In.mk 3 op width size byReg dst src off imm))
  generalize hs : srcI (In.mk 3 op width size byReg dst src off imm) = s at *
  generalize hi : immI (In.mk 3 op width size byReg dst src off imm) = m at *
  clear hs hi
  unfold In.cells at *
  simp only at *
  go_enter Try.func76, Try.ntmps76
  go_wp2
  go_region_held3 (fun w' => w'.cell? ⟨W.heap.size, 1, none⟩ = some (.int .i8 op) ∧ w'.cell? ⟨W.heap.size, 7, none⟩ = some (.int .i64 off) ∧ w'.cell? ⟨W.heap.size, 5, none⟩ = some (.int .i8 dst)) ((refine ⟨?_, ?_, ?_⟩ <;> go_simp)) (fail)
  go_wp2_with fail
  refine (OP.out _).mono ?_
  rintro e w1 ⟨rfl, b1⟩
  have hz := b1.size
  obtain ⟨hc, hf⟩ := bcell b1
  simp at hz
  have B1 := Lib.hid b1; clear b1
  go_wp2_with fail
  refine bodyPost_ret (v := .agg #[.int .i8 3, .int .i8 op, .int .i8 0, .int .i8 0, .bool byReg, .int .i8 dst, .int .i8 s, .int .i64 off, .int .i64 m]) (by simp [results, Try.results76, go_sem, hc]) rfl ⟨rfl, ?_⟩
  repeat (refine Below.setCell ?_ (by simp only; omega) _)
  refine below_call ?_ B1.out
  repeat (first | exact Below.refl _ _ | refine Below.drew ?_ | refine below_new ?_ _)

set_option maxRecDepth 100000 in
set_option maxHeartbeats 1000000 in
theorem used_4 (op width size : Int) (byReg : Bool) (dst src off imm : Int) (W : World) :
    Calls Try.prog 76 #[.agg (In.mk 4 op width size byReg dst src off imm).cells] W fun e w' => e = .returned (.agg #[.int .i8 4, .int .i8 0, .int .i8 0, .int .i8 0, .bool false, .int .i8 0, .int .i8 0, .int .i64 off, .int .i64 0]) ∧ Below W.heap.size W w' := by
  unfold In.cells at *
  simp only at *
  go_enter Try.func76, Try.ntmps76
  go_wp2
  refine bodyPost_ret (v := .agg #[.int .i8 4, .int .i8 0, .int .i8 0, .int .i8 0, .bool false, .int .i8 0, .int .i8 0, .int .i64 off, .int .i64 0]) (by simp [results, Try.results76, go_sem]) rfl ⟨rfl, ?_⟩
  repeat (refine Below.setCell ?_ (by simp only; omega) _)
  repeat (first | exact Below.refl _ _ | refine Below.drew ?_ | refine below_new ?_ _)
set_option maxRecDepth 100000 in
set_option maxHeartbeats 1000000 in
theorem used_5 (op width size : Int) (byReg : Bool) (dst src off imm : Int) (W : World) :
    Calls Try.prog 76 #[.agg (In.mk 5 op width size byReg dst src off imm).cells] W fun e w' => e = .returned (.agg #[.int .i8 5, .int .i8 0, .int .i8 0, .int .i8 0, .bool false, .int .i8 0, .int .i8 0, .int .i64 0, .int .i64 imm]) ∧ Below W.heap.size W w' := by
  unfold In.cells at *
  simp only at *
  go_enter Try.func76, Try.ntmps76
  go_wp2
  refine bodyPost_ret (v := .agg #[.int .i8 5, .int .i8 0, .int .i8 0, .int .i8 0, .bool false, .int .i8 0, .int .i8 0, .int .i64 0, .int .i64 imm]) (by simp [results, Try.results76, go_sem]) rfl ⟨rfl, ?_⟩
  repeat (refine Below.setCell ?_ (by simp only; omega) _)
  repeat (first | exact Below.refl _ _ | refine Below.drew ?_ | refine below_new ?_ _)
set_option maxRecDepth 100000 in
set_option maxHeartbeats 1000000 in
theorem used_x (kind op width size : Int) (byReg : Bool) (dst src off imm : Int) (W : World) (h0 : ¬ kind = 0) (h1 : ¬ kind = 1) (h2 : ¬ kind = 2) (h3 : ¬ kind = 3) (h4 : ¬ kind = 4) (h5 : ¬ kind = 5) :
    Calls Try.prog 76 #[.agg (In.mk kind op width size byReg dst src off imm).cells] W fun e w' => e = .returned (.agg #[.int .i8 kind, .int .i8 0, .int .i8 0, .int .i8 0, .bool false, .int .i8 0, .int .i8 0, .int .i64 0, .int .i64 0]) ∧ Below W.heap.size W w' := by
  unfold In.cells at *
  simp only at *
  go_enter Try.func76, Try.ntmps76
  go_wp2
  refine bodyPost_ret (v := .agg #[.int .i8 kind, .int .i8 0, .int .i8 0, .int .i8 0, .bool false, .int .i8 0, .int .i8 0, .int .i64 0, .int .i64 0]) (by simp [results, Try.results76, go_sem]) rfl ⟨rfl, ?_⟩
  repeat (refine Below.setCell ?_ (by simp only; omega) _)
  repeat (first | exact Below.refl _ _ | refine Below.drew ?_ | refine below_new ?_ _)

theorem used_any (x : In) (W : World) : Calls Try.prog 76 #[.agg x.cells] W fun e w' => e = .returned (.agg (usedI x).cells) ∧ Below W.heap.size W w' := by
  obtain ⟨kind, op, width, size, byReg, dst, src, off, imm⟩ := x
  by_cases h0 : kind = 0
  · subst h0
    by_cases h8 : op = 8
    · subst h8; exact used_0n width size byReg dst src off imm W
    · have e : usedI (In.mk 0 op width size byReg dst src off imm) = ⟨0, op, width, 0, byReg, dst, srcI (In.mk 0 op width size byReg dst src off imm), 0, immI (In.mk 0 op width size byReg dst src off imm)⟩ := by
        unfold usedI; rw [if_pos rfl, if_neg h8]
      rw [e]; exact used_0 op width size byReg dst src off imm W h8
  by_cases h1 : kind = 1
  · subst h1; exact used_12 1 op width size byReg dst src off imm W (.inl rfl)
  by_cases h2 : kind = 2
  · subst h2; exact used_12 2 op width size byReg dst src off imm W (.inr rfl)
  by_cases h3 : kind = 3
  · subst h3; exact used_3 op width size byReg dst src off imm W
  by_cases h4 : kind = 4
  · subst h4; exact used_4 op width size byReg dst src off imm W
  by_cases h5 : kind = 5
  · subst h5; exact used_5 op width size byReg dst src off imm W
  have e : usedI (In.mk kind op width size byReg dst src off imm) = ⟨kind, 0, 0, 0, false, 0, 0, 0, 0⟩ := by
    unfold usedI; rw [if_neg h0, if_neg h1, if_neg h2, if_neg h3, if_neg h4, if_neg h5]
  rw [e]; exact used_x kind op width size byReg dst src off imm W h0 h1 h2 h3 h4 h5
end Go.Proofs.Ythhgcbegcbhaeaa.Ins

namespace Go.Proofs.Ythhgcbegcbhaeaa.Ins
open Go.RowKit
set_option linter.unusedVariables false

theorem reg_t (r : Int) (W : World) (h : regI r = true) : Calls Try.prog 98 #[.int .i8 r] W fun e w' => e = .returned (.bool true) ∧ W = w' := by
  have := register_any r W; rw [h] at this; exact this
theorem reg_f (r : Int) (W : World) (h : regI r = false) : Calls Try.prog 98 #[.int .i8 r] W fun e w' => e = .returned (.bool false) ∧ W = w' := by
  have := register_any r W; rw [h] at this; exact this
theorem sized_t (n : Int) (W : World) (h : n = 1 ∨ n = 2 ∨ n = 4 ∨ n = 8) : Calls Try.prog 99 #[.int .i8 n] W fun e w' => e = .returned (.bool true) ∧ W = w' := by
  have := sized_any n W; rw [show sizedI n = true from decide_eq_true h] at this; exact this
theorem sized_f (n : Int) (W : World) (h : ¬ (n = 1 ∨ n = 2 ∨ n = 4 ∨ n = 8)) : Calls Try.prog 99 #[.int .i8 n] W fun e w' => e = .returned (.bool false) ∧ W = w' := by
  have := sized_any n W; rw [show sizedI n = false from decide_eq_false h] at this; exact this
theorem i16_in {n : Int} (h : -32768 ≤ n ∧ n ≤ 32767) : wrap64 (IntKind.i16.wrap n) = n := by
  have e : IntKind.i16.wrap n = n := by simp [IntKind.wrap, IntKind.signed, IntKind.bits]; omega
  rw [e]; unfold wrap64; omega
theorem i16_out {n : Int} (h : ¬ (-32768 ≤ n ∧ n ≤ 32767)) : ¬ wrap64 (IntKind.i16.wrap n) = n := by
  have e : -32768 ≤ IntKind.i16.wrap n ∧ IntKind.i16.wrap n ≤ 32767 := by simp [IntKind.wrap, IntKind.signed, IntKind.bits]; omega
  intro h'
  have : wrap64 (IntKind.i16.wrap n) = IntKind.i16.wrap n := by unfold wrap64; omega
  omega
theorem i32_in {n : Int} (h : -2147483648 ≤ n ∧ n ≤ 2147483647) : wrap64 (wrap32 n) = n := by unfold wrap64 wrap32; omega
theorem i32_out {n : Int} (h : ¬ (-2147483648 ≤ n ∧ n ≤ 2147483647)) : ¬ wrap64 (wrap32 n) = n := by unfold wrap64 wrap32; omega

end Go.Proofs.Ythhgcbegcbhaeaa.Ins

namespace Go.Proofs.Ythhgcbegcbhaeaa.Ins
open Go.RowKit
set_option linter.unusedVariables false

set_option maxRecDepth 100000 in
set_option maxHeartbeats 4000000 in
theorem fits_d (kind op width size : Int) (byReg : Bool) (dst src off imm : Int) (W : World) (hd : regI dst = false) :
    Calls Try.prog 77 #[.agg (In.mk kind op width size byReg dst src off imm).cells] W fun e w' => e = .returned (.bool false) ∧ Below W.heap.size W w' := by
  have HD := Lib.hid (fun W => reg_f dst W hd)
  clear hd
  unfold In.cells
  simp only
  go_enter Try.func77, Try.ntmps77
  go_wp2_with (first | (go_at_call 98; refine (HD.out _).mono ?_; rintro e w' ⟨rfl, rfl⟩))
  go_ret
  exact ⟨rfl, below_new (Below.refl _ _) _⟩
set_option maxRecDepth 100000 in
set_option maxHeartbeats 4000000 in
theorem fits_s (kind op width size : Int) (byReg : Bool) (dst src off imm : Int) (W : World) (hd : regI dst = true) (hs : regI src = false) :
    Calls Try.prog 77 #[.agg (In.mk kind op width size byReg dst src off imm).cells] W fun e w' => e = .returned (.bool false) ∧ Below W.heap.size W w' := by
  have HD := Lib.hid (fun W => reg_t dst W hd)
  clear hd
  have HS := Lib.hid (fun W => reg_f src W hs)
  clear hs
  unfold In.cells
  simp only
  go_enter Try.func77, Try.ntmps77
  go_wp2_with (first | (go_at_call 98; refine (HD.out _).mono ?_; rintro e w' ⟨rfl, rfl⟩) | (go_at_call 98; refine (HS.out _).mono ?_; rintro e w' ⟨rfl, rfl⟩))
  go_ret
  exact ⟨rfl, below_new (Below.refl _ _) _⟩
set_option maxRecDepth 100000 in
set_option maxHeartbeats 4000000 in
theorem fits_o (kind op width size : Int) (byReg : Bool) (dst src off imm : Int) (W : World) (hd : regI dst = true) (hs : regI src = true) (ho : ¬ (-32768 ≤ off ∧ off ≤ 32767)) :
    Calls Try.prog 77 #[.agg (In.mk kind op width size byReg dst src off imm).cells] W fun e w' => e = .returned (.bool false) ∧ Below W.heap.size W w' := by
  have HD := Lib.hid (fun W => reg_t dst W hd)
  clear hd
  have HS := Lib.hid (fun W => reg_t src W hs)
  clear hs
  have ho' := i16_out ho
  clear ho
  unfold In.cells
  simp only
  go_enter Try.func77, Try.ntmps77
  go_wp2_with (first | (go_at_call 98; refine (HD.out _).mono ?_; rintro e w' ⟨rfl, rfl⟩) | (go_at_call 98; refine (HS.out _).mono ?_; rintro e w' ⟨rfl, rfl⟩))
  go_ret
  exact ⟨rfl, below_new (Below.refl _ _) _⟩
set_option maxRecDepth 100000 in
set_option maxHeartbeats 4000000 in
theorem fits_i (kind op width size : Int) (byReg : Bool) (dst src off imm : Int) (W : World) (hd : regI dst = true) (hs : regI src = true) (ho : -32768 ≤ off ∧ off ≤ 32767) (hi : ¬ (-2147483648 ≤ imm ∧ imm ≤ 2147483647)) :
    Calls Try.prog 77 #[.agg (In.mk kind op width size byReg dst src off imm).cells] W fun e w' => e = .returned (.bool false) ∧ Below W.heap.size W w' := by
  have HD := Lib.hid (fun W => reg_t dst W hd)
  clear hd
  have HS := Lib.hid (fun W => reg_t src W hs)
  clear hs
  have ho' := i16_in ho
  have hi' := i32_out hi
  clear ho hi
  unfold In.cells
  simp only
  go_enter Try.func77, Try.ntmps77
  go_wp2_with (first | (go_at_call 98; refine (HD.out _).mono ?_; rintro e w' ⟨rfl, rfl⟩) | (go_at_call 98; refine (HS.out _).mono ?_; rintro e w' ⟨rfl, rfl⟩))
  go_ret
  exact ⟨rfl, below_new (Below.refl _ _) _⟩
set_option maxRecDepth 100000 in
set_option maxHeartbeats 4000000 in
theorem fits_x (kind op width size : Int) (byReg : Bool) (dst src off imm : Int) (W : World) (hd : regI dst = true) (hs : regI src = true) (ho : -32768 ≤ off ∧ off ≤ 32767) (hi : -2147483648 ≤ imm ∧ imm ≤ 2147483647) (h0 : ¬ kind = 0) (h1 : ¬ kind = 1) (h2 : ¬ kind = 2) (h3 : ¬ kind = 3) (h4 : ¬ kind = 4) (h5 : ¬ kind = 5) (h6 : ¬ kind = 6) :
    Calls Try.prog 77 #[.agg (In.mk kind op width size byReg dst src off imm).cells] W fun e w' => e = .returned (.bool false) ∧ Below W.heap.size W w' := by
  have HD := Lib.hid (fun W => reg_t dst W hd)
  clear hd
  have HS := Lib.hid (fun W => reg_t src W hs)
  clear hs
  have ho' := i16_in ho
  have hi' := i32_in hi
  clear ho hi
  unfold In.cells
  simp only
  go_enter Try.func77, Try.ntmps77
  go_wp2_with (first | (go_at_call 98; refine (HD.out _).mono ?_; rintro e w' ⟨rfl, rfl⟩) | (go_at_call 98; refine (HS.out _).mono ?_; rintro e w' ⟨rfl, rfl⟩))
  all_goals
    go_ret
    exact ⟨retB (by simp [*]), below_new (Below.refl _ _) _⟩
end Go.Proofs.Ythhgcbegcbhaeaa.Ins

namespace Go.Proofs.Ythhgcbegcbhaeaa.Ins
open Go.RowKit
set_option linter.unusedVariables false

set_option maxRecDepth 100000 in
set_option maxHeartbeats 4000000 in
theorem fits_0 (op width size : Int) (byReg : Bool) (dst src off imm : Int) (W : World) (hd : regI dst = true) (hs : regI src = true) (ho : -32768 ≤ off ∧ off ≤ 32767) (hi : -2147483648 ≤ imm ∧ imm ≤ 2147483647) :
    Calls Try.prog 77 #[.agg (In.mk 0 op width size byReg dst src off imm).cells] W fun e w' => e = .returned (.bool (kindI (In.mk 0 op width size byReg dst src off imm))) ∧ Below W.heap.size W w' := by
  have HD := Lib.hid (fun W => reg_t dst W hd)
  clear hd
  have HS := Lib.hid (fun W => reg_t src W hs)
  clear hs
  have ho' := i16_in ho
  have hi' := i32_in hi
  clear ho hi
  unfold In.cells
  simp only
  go_enter Try.func77, Try.ntmps77
  go_wp2_with (first | (go_at_call 98; refine (HD.out _).mono ?_; rintro e w' ⟨rfl, rfl⟩) | (go_at_call 98; refine (HS.out _).mono ?_; rintro e w' ⟨rfl, rfl⟩))
  all_goals
    go_ret
    exact ⟨retB (by unfold kindI; rw [Bool.eq_iff_iff, decide_eq_true_iff]; simp <;> omega), below_new (Below.refl _ _) _⟩
set_option maxRecDepth 100000 in
set_option maxHeartbeats 4000000 in
theorem fits_3 (op width size : Int) (byReg : Bool) (dst src off imm : Int) (W : World) (hd : regI dst = true) (hs : regI src = true) (ho : -32768 ≤ off ∧ off ≤ 32767) (hi : -2147483648 ≤ imm ∧ imm ≤ 2147483647) :
    Calls Try.prog 77 #[.agg (In.mk 3 op width size byReg dst src off imm).cells] W fun e w' => e = .returned (.bool (kindI (In.mk 3 op width size byReg dst src off imm))) ∧ Below W.heap.size W w' := by
  have HD := Lib.hid (fun W => reg_t dst W hd)
  clear hd
  have HS := Lib.hid (fun W => reg_t src W hs)
  clear hs
  have ho' := i16_in ho
  have hi' := i32_in hi
  clear ho hi
  unfold In.cells
  simp only
  go_enter Try.func77, Try.ntmps77
  go_wp2_with (first | (go_at_call 98; refine (HD.out _).mono ?_; rintro e w' ⟨rfl, rfl⟩) | (go_at_call 98; refine (HS.out _).mono ?_; rintro e w' ⟨rfl, rfl⟩))
  all_goals
    go_ret
    exact ⟨retB (by unfold kindI; rw [Bool.eq_iff_iff, decide_eq_true_iff]; simp <;> omega), below_new (Below.refl _ _) _⟩
end Go.Proofs.Ythhgcbegcbhaeaa.Ins
