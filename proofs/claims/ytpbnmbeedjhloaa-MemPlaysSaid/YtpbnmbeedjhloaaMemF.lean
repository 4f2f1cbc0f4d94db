/-
  Package mem: Fetch.
-/
import Derived.Test.YtpbnmbeedjhloaaMemT
namespace Go.Proofs.Ytpbnmbeedjhloaa
open Go.RowKit
set_option linter.unusedVariables false
set_option maxRecDepth 100000

def MemS.reg1 (S : MemS) : Array Value := #[.int .u64 1048576, .int .u64 (limI S.cn 16384), .bool true, .slice (some ⟨S.cb, 0, none⟩) S.cn S.cn]
theorem index_regs (S : MemS) (b : Nat) : ∀ w, (Instr.index 112 (.agg (S.regs b)) (.int .i8 1)).run Try.prog w = .ok (.agg S.reg1) w := fun _ => by kernel_rfl
theorem limI_in (n : Nat) (m : Int) (h : (n : Int) ≤ m) : limI n m = n := by
  unfold limI
  rw [Int.max_eq_left (by omega), Int.min_eq_left h]

theorem six_keep {w2 w : World} {F G : Nat} {x0 x1 y0 y1 y2 y3 : Value} (c0 : w2.cell? ⟨F, 0, none⟩ = some x0) (c1 : w2.cell? ⟨F, 1, none⟩ = some x1) (d0 : w2.cell? ⟨G, 0, none⟩ = some y0) (d1 : w2.cell? ⟨G, 1, none⟩ = some y1) (d2 : w2.cell? ⟨G, 2, none⟩ = some y2) (d3 : w2.cell? ⟨G, 3, none⟩ = some y3) (h : Below w2.heap.size w2 w) :
    w.cell? ⟨F, 0, none⟩ = some x0 ∧ w.cell? ⟨F, 1, none⟩ = some x1 ∧ w.cell? ⟨G, 0, none⟩ = some y0 ∧ w.cell? ⟨G, 1, none⟩ = some y1 ∧ w.cell? ⟨G, 2, none⟩ = some y2 ∧ w.cell? ⟨G, 3, none⟩ = some y3 ∧ Below w2.heap.size w2 w :=
  ⟨(h.cell (p := ⟨F, 0, none⟩) (lt_of_cell c0)).trans c0, (h.cell (p := ⟨F, 1, none⟩) (lt_of_cell c0)).trans c1, (h.cell (p := ⟨G, 0, none⟩) (lt_of_cell d0)).trans d0, (h.cell (p := ⟨G, 1, none⟩) (lt_of_cell d0)).trans d1, (h.cell (p := ⟨G, 2, none⟩) (lt_of_cell d0)).trans d2, (h.cell (p := ⟨G, 3, none⟩) (lt_of_cell d0)).trans d3, h⟩
theorem src_of_row {w : World} {z n q : Nat} {t : TypeId} {f : Nat → Int} (h : w.rowIs z t n (fun i => .int .u8 (f i))) (hq : q ≤ n) (hn : n ≤ 1000000) (hb : ∀ i, i < n → 0 ≤ f i ∧ f i < 256) : Src w (some ⟨z, q, none⟩) (n - q) (n - q) (fun i => f (q + i)) :=
  ⟨Nat.le_refl _, by omega, fun _ => ⟨z, q, rfl, fun i hi => h.cell (by omega)⟩, fun i hi => hb _ (by omega)⟩

set_option maxRecDepth 100000 in
set_option maxHeartbeats 1000000 in
theorem fetch_miss (S : MemS) (b : Nat) (a : Int) (W : World) (hS : S.at W b) (hr : rdB a 1 1048576 S.cn = false) :
    Calls Try.prog 21 #[.pointer (some ⟨b, 0, none⟩), .int .u64 a] W fun e w' => e = .returned (.tuple #[.slice none 0 0, .int .i64 20]) ∧ Below W.heap.size W w' := by
  have hx : ∀ w, (Instr.index 112 (.agg (S.regs b)) (.int .i8 1)).run Try.prog w = .ok (.agg #[.int .u64 1048576, .int .u64 S.cn, .bool true, .slice (some ⟨S.cb, 0, none⟩) S.cn S.cn]) w := fun w => by
    have := index_regs S b w
    unfold MemS.reg1 at this
    rw [limI_in S.cn 16384 (by have := hS.cn; omega)] at this
    exact this
  have R := fun W => readable_any a 1 1048576 S.cn true (some ⟨S.cb, 0, none⟩) S.cn S.cn W (by omega) (by have := hS.cn; omega)
  rw [hr] at R
  have HR := Lib.hid R; clear R hr
  have HS := Lib.hid hS; clear hS
  go_enter Try.func21, Try.ntmps21
  go_wp2_with fail
  refine (regions_any S b _ HS.out).mono ?_
  rintro e w1 ⟨rfl, b1⟩
  have B1 := Lib.hid b1; clear b1
  go_wp2_with fail
  refine (HR.out _).mono ?_
  rintro e w2 ⟨rfl, b2⟩
  go_wp2
  go_ret2
  exact ⟨rfl, below_call (below_new (below_new B1.out _) _) b2⟩

set_option maxRecDepth 100000 in
set_option maxHeartbeats 2000000 in
theorem fetch_hit (S : MemS) (b : Nat) (a : Int) (q : Nat) (kf : Nat → Int) (W : World) (hS : S.at W b) (hq : offI a 1048576 = q) (hlt : q < S.cn)
    (hk : W.rowIs S.cb 5 S.cn (fun i => .int .u8 (kf i))) (hb : ∀ i, i < S.cn → 0 ≤ kf i ∧ kf i < 256) :
    Calls Try.prog 21 #[.pointer (some ⟨b, 0, none⟩), .int .u64 a] W fun e w' => ∃ z, e = .returned (.tuple #[.slice (some ⟨z, 0, none⟩) (S.cn - q) (S.cn - q), .int .i64 0]) ∧ W.heap.size ≤ z ∧ Below W.heap.size W w' ∧ w'.rowIs z 5 (S.cn - q) (fun i => .int .u8 (kf (q + i))) := by
  have hx : ∀ w, (Instr.index 112 (.agg (S.regs b)) (.int .i8 1)).run Try.prog w = .ok (.agg #[.int .u64 1048576, .int .u64 S.cn, .bool true, .slice (some ⟨S.cb, 0, none⟩) S.cn S.cn]) w := fun w => by
    have := index_regs S b w
    unfold MemS.reg1 at this
    rw [limI_in S.cn 16384 (by have := hS.cn; omega)] at this
    exact this
  have R := fun W => readable_any a 1 1048576 S.cn true (some ⟨S.cb, 0, none⟩) S.cn S.cn W (by omega) (by have := hS.cn; omega)
  rw [show rdB a 1 1048576 S.cn = true by unfold rdB; rw [hq]; simp; omega] at R
  have HR := Lib.hid R; clear R
  have O := fun W => offset_any a 1 1048576 S.cn true (some ⟨S.cb, 0, none⟩) S.cn S.cn W
  rw [hq] at O
  have HO := Lib.hid O; clear O
  have hcn := hS.cn
  have HS := Lib.hid hS; clear hS
  have HK := Lib.hid hk
  have HB := Lib.hid hb
  have lk := hk.lt
  clear hk hb hq
  go_enter Try.func21, Try.ntmps21
  go_wp2_with fail
  refine (regions_any S b _ HS.out).mono ?_
  rintro e w1 ⟨rfl, b1⟩
  have B1 := Lib.hid b1; clear b1
  go_wp2_with fail
  refine (HR.out _).mono ?_
  rintro e w2 ⟨rfl, b2⟩
  have B2 := Lib.hid (below_call (below_new (below_new B1.out _) _) b2)
  have c0 : w2.cell? ⟨w1.heap.size, 0, none⟩ = some (.int .u64 a) := (b2.cell (p := ⟨w1.heap.size, 0, none⟩) (by simp; omega)).trans (by simp)
  have c1 : w2.cell? ⟨w1.heap.size, 1, none⟩ = some (.int .u64 1) := (b2.cell (p := ⟨w1.heap.size, 1, none⟩) (by simp; omega)).trans (by simp)
  have d0 : w2.cell? ⟨w1.heap.size + 1, 0, none⟩ = some (.int .u64 1048576) := (b2.cell (p := ⟨w1.heap.size + 1, 0, none⟩) (by simp)).trans (by simp)
  have d1 : w2.cell? ⟨w1.heap.size + 1, 1, none⟩ = some (.int .u64 S.cn) := (b2.cell (p := ⟨w1.heap.size + 1, 1, none⟩) (by simp)).trans (by simp)
  have d2 : w2.cell? ⟨w1.heap.size + 1, 2, none⟩ = some (.bool true) := (b2.cell (p := ⟨w1.heap.size + 1, 2, none⟩) (by simp)).trans (by simp)
  have d3 : w2.cell? ⟨w1.heap.size + 1, 3, none⟩ = some (.slice (some ⟨S.cb, 0, none⟩) S.cn S.cn) := (b2.cell (p := ⟨w1.heap.size + 1, 3, none⟩) (by simp)).trans (by simp)
  clear b2
  have HC := Lib.hid (fun w => six_keep (w := w) c0 c1 d0 d1 d2 d3)
  have q0 : (0 : Int) ≤ q := by omega
  have q1 : (q : Int) ≤ S.cn := by omega
  have q2 : ¬ S.cn = q := by omega
  have l2 : W.heap.size ≤ w2.heap.size := B2.out.size
  go_wp2_with fail
  go_region_held3 (fun w' => w'.cell? ⟨w1.heap.size, 0, none⟩ = some (.int .u64 a) ∧ w'.cell? ⟨w1.heap.size, 1, none⟩ = some (.int .u64 1) ∧ w'.cell? ⟨w1.heap.size + 1, 0, none⟩ = some (.int .u64 1048576) ∧ w'.cell? ⟨w1.heap.size + 1, 1, none⟩ = some (.int .u64 S.cn) ∧ w'.cell? ⟨w1.heap.size + 1, 2, none⟩ = some (.bool true) ∧ w'.cell? ⟨w1.heap.size + 1, 3, none⟩ = some (.slice (some ⟨S.cb, 0, none⟩) S.cn S.cn) ∧ Below w2.heap.size w2 w')
    ((go_split_ands; refine HC.out _ ?_; repeat' (first | assumption | exact Below.refl _ _ | apply Below.drew | (refine below_call ?_ b4) | (refine below_call ?_ b3))))
    (first | (go_at_call 74; refine (HO.out _).mono ?_; rintro e w3 ⟨rfl, b3⟩) | (go_at_call 64; refine (fresh_any _ _ _ (fun i => kf (q + i)) _ (src_of_row (HK.out.of_block ((below_call B2.out (below_call (Below.drew (Below.refl _ w2)) b3)).block _ lk)) (Nat.le_of_lt hlt) (by omega) HB.out) (by omega)).mono ?_; rintro e w4 ⟨rfl, b4, r4⟩))
  go_wp2
  go_ret2
  obtain ⟨_, _, _, _, _, _, b9⟩ := (by assumption : _ ∧ _ ∧ _ ∧ _ ∧ _ ∧ _ ∧ Below w2.heap.size w2 w4)
  exact ⟨w3.heap.size, rfl, Nat.le_trans l2 b3.size, below_call B2.out b9, r4⟩
end Go.Proofs.Ytpbnmbeedjhloaa
