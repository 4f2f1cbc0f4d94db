/-
  Several texts in one: BitsWc, BitsWd, BitsVa, MemW.
-/
import Derived.Test.YthhgcbegcbhaeaaMBh07
import Derived.WalkKit
import Derived.WalkSpells
import Derived.WalkLawsBesides
import Derived.Laws.EntriesVeiled
import Derived.Lib.Hide
import Derived.Deep.QuietTactic
import Derived.BigQuiet
import Derived.Test.YthhgcbegcbhaeaaRows
import Derived.Handy
set_option linter.unusedVariables false
set_option linter.unusedSimpArgs false
set_option linter.unnecessarySimpa false
namespace Go.Proofs.Ythhgcbegcbhaeaa
open Go.RowKit


set_option maxHeartbeats 1000000 in
theorem compute_6_64 (a b : Int) (W : World) (hb0 : 0 ≤ b) (hb1 : b < 18446744073709551616) :
    Calls Try.prog 68 #[.int .i8 6, .int .i8 64, .int .u64 a, .int .u64 b] W fun e w' => e = .returned (.int .u64 (opI 6 64 a b)) ∧ Below W.heap.size W w' := by
  have hmf : ∀ (fn : Fn) (first cap : Array Value) (w : World), (Instr.makeFunc fn first cap).run Try.prog w = .ok (.func fn first cap) w := fun _ _ _ _ => rfl
  have e1 := and_63 b hb0 hb1
  have e2 : 0 ≤ b % 64 := by omega
  have e3 : min (b % 64).toNat 64 = (b % 64).toNat := by omega
  have e4 : cntI 64 b = (b % 64).toNat := rfl
  go_enter Try.func68, Try.ntmps68
  go_wp2
  go_ret
  refine ⟨retI ?_, ((((Below.refl _ _).alloc (Nat.le_refl _) _).alloc (by simp) _).alloc (by simp; omega) _)⟩
  rw [opI_6, IntKind.wrap_u64, e4]

set_option maxHeartbeats 1000000 in
theorem compute_7_64 (a b : Int) (W : World) (hb0 : 0 ≤ b) (hb1 : b < 18446744073709551616) :
    Calls Try.prog 68 #[.int .i8 7, .int .i8 64, .int .u64 a, .int .u64 b] W fun e w' => e = .returned (.int .u64 (opI 7 64 a b)) ∧ Below W.heap.size W w' := by
  have hmf : ∀ (fn : Fn) (first cap : Array Value) (w : World), (Instr.makeFunc fn first cap).run Try.prog w = .ok (.func fn first cap) w := fun _ _ _ _ => rfl
  have e1 := and_63 b hb0 hb1
  have e2 : 0 ≤ b % 64 := by omega
  have e3 : min (b % 64).toNat 64 = (b % 64).toNat := by omega
  have e4 : cntI 64 b = (b % 64).toNat := rfl
  go_enter Try.func68, Try.ntmps68
  go_wp2
  go_ret
  refine ⟨retI ?_, ((((Below.refl _ _).alloc (Nat.le_refl _) _).alloc (by simp) _).alloc (by simp; omega) _)⟩
  rw [opI_7, e4]

set_option maxHeartbeats 400000 in
theorem count_64 (b : Int) (p : Addr) (W : World) (h0 : 0 ≤ b) (h1 : b < 18446744073709551616) (hp : W.cell? p = some (.int .i8 64)) :
    Calls Try.prog 78 #[.int .u64 b, .pointer (some p)] W fun e w' => e = .returned (.int .u64 (b % 64)) ∧ W = w' := by
  go_enter Try.func78, Try.ntmps78
  go_wp2
  go_ret
  exact ⟨retI (by rw [and_63 b h0 h1]), rfl⟩
set_option maxHeartbeats 1000000 in
theorem arsh_64 (a b : Int) (p q : Addr) (W : World) (h0 : 0 ≤ b) (h1 : b < 18446744073709551616) (hq : W.cell? q = some (.int .i8 64))
    (hp : W.cell? p = some (.func (.func 78) #[] #[.pointer (some q)])) :
    Calls Try.prog 91 #[.int .u64 a, .int .u64 b, .pointer (some q), .pointer (some p)] W fun e w' => e = .returned (.int .u64 (opI 12 64 a b)) ∧ ∃ n, W.drewN n = w' := by
  have e2 : 0 ≤ b % 64 := by omega
  have e3 : min (b % 64).toNat 64 = (b % 64).toNat := by omega
  go_enter Try.func91, Try.ntmps91
  go_wp2
  go_quiet ((first | (go_at_call 92; exact quiet_left (sign_any _ _ _)) | (go_at_call 78; exact quiet_left (count_64 _ _ _ h0 h1 hq))))
  go_wp2
  go_ret
  refine ⟨retI ?_, _, rfl⟩
  rw [opI_12, IntKind.wrap_u64, show wrap64 (signI a 64) = sgnI a 64 from (IntWalk.i64_left _).symm.trans (wrap64_sign64 a)]; rfl
set_option maxHeartbeats 1000000 in
theorem compute_12_64 (a b : Int) (W : World) (hb0 : 0 ≤ b) (hb1 : b < 18446744073709551616) :
    Calls Try.prog 68 #[.int .i8 12, .int .i8 64, .int .u64 a, .int .u64 b] W fun e w' => e = .returned (.int .u64 (opI 12 64 a b)) ∧ Below W.heap.size W w' := by
  have hmf : ∀ (fn : Fn) (first cap : Array Value) (w : World), (Instr.makeFunc fn first cap).run Try.prog w = .ok (.func fn first cap) w := fun _ _ _ _ => rfl
  go_enter Try.func68, Try.ntmps68
  go_wp2_with (go_at_call 91; refine (arsh_64 a b ⟨W.heap.size + 1, 0, none⟩ ⟨W.heap.size, 0, none⟩ _ hb0 hb1 (by go_simp) (by go_simp)).mono ?_; rintro e w' ⟨rfl, n, rfl⟩)
  go_ret
  refine ⟨rfl, below_drewN ((((Below.refl _ _).alloc (Nat.le_refl _) _).alloc (by simp) _).alloc (by simp; omega) _) _⟩

end Go.Proofs.Ythhgcbegcbhaeaa

namespace Go.Proofs.Ythhgcbegcbhaeaa
open Go.RowKit


set_option maxHeartbeats 1000000 in
theorem compute_3 (w a b : Int) (W : World) (ha0 : 0 ≤ a) (ha1 : a < 18446744073709551616) (hb0 : 0 ≤ b) (hb1 : b < 18446744073709551616) :
    Calls Try.prog 68 #[.int .i8 3, .int .i8 w, .int .u64 a, .int .u64 b] W fun e w' => e = .returned (.int .u64 (opI 3 w a b)) ∧ Below W.heap.size W w' := by
  have hmf : ∀ (fn : Fn) (first cap : Array Value) (w : World), (Instr.makeFunc fn first cap).run Try.prog w = .ok (.func fn first cap) w := fun _ _ _ _ => rfl
  by_cases hz : b = 0
  · subst hz
    clear hb0 hb1
    go_enter Try.func68, Try.ntmps68
    go_wp2
    go_ret
    refine ⟨retI ?_, ((((Below.refl _ _).alloc (Nat.le_refl _) _).alloc (by simp) _).alloc (by simp; omega) _)⟩
    rw [opI_3, if_pos rfl]
  · have hz' := neq_of hz
    go_enter Try.func68, Try.ntmps68
    go_wp2
    go_ret
    refine ⟨retI ?_, ((((Below.refl _ _).alloc (Nat.le_refl _) _).alloc (by simp) _).alloc (by simp; omega) _)⟩
    rw [opI_3, if_neg hz]

set_option maxHeartbeats 1000000 in
theorem compute_9 (w a b : Int) (W : World) (ha0 : 0 ≤ a) (ha1 : a < 18446744073709551616) (hb0 : 0 ≤ b) (hb1 : b < 18446744073709551616) :
    Calls Try.prog 68 #[.int .i8 9, .int .i8 w, .int .u64 a, .int .u64 b] W fun e w' => e = .returned (.int .u64 (opI 9 w a b)) ∧ Below W.heap.size W w' := by
  have hmf : ∀ (fn : Fn) (first cap : Array Value) (w : World), (Instr.makeFunc fn first cap).run Try.prog w = .ok (.func fn first cap) w := fun _ _ _ _ => rfl
  by_cases hz : b = 0
  · subst hz
    clear hb0 hb1
    go_enter Try.func68, Try.ntmps68
    go_wp2
    go_ret
    refine ⟨retI ?_, ((((Below.refl _ _).alloc (Nat.le_refl _) _).alloc (by simp) _).alloc (by simp; omega) _)⟩
    rw [opI_9, if_pos rfl]
  · have hz' := neq_of hz
    go_enter Try.func68, Try.ntmps68
    go_wp2
    go_ret
    refine ⟨retI ?_, ((((Below.refl _ _).alloc (Nat.le_refl _) _).alloc (by simp) _).alloc (by simp; omega) _)⟩
    rw [opI_9, if_neg hz]

end Go.Proofs.Ythhgcbegcbhaeaa

namespace Go.Proofs.Ythhgcbegcbhaeaa
open Go.RowKit

def widthB (w : Int) : Bool := w == 8 || w == 16 || w == 32 || w == 64

theorem compute_any (op w a b : Int) (W : World) (h0 : 0 ≤ op) (h12 : op ≤ 12) (hl : longB w = true) (ha0 : 0 ≤ a) (ha1 : a < 18446744073709551616) (hb0 : 0 ≤ b) (hb1 : b < 18446744073709551616) :
    Calls Try.prog 68 #[.int .i8 op, .int .i8 w, .int .u64 a, .int .u64 b] W fun e w' => e = .returned (.int .u64 (opI op w a b)) ∧ Below W.heap.size W w' := by
  have hc : op = 0 ∨ op = 1 ∨ op = 2 ∨ op = 3 ∨ op = 4 ∨ op = 5 ∨ op = 6 ∨ op = 7 ∨ op = 8 ∨ op = 9 ∨ op = 10 ∨ op = 11 ∨ op = 12 := by omega
  rcases hc with rfl | rfl | rfl | rfl | rfl | rfl | rfl | rfl | rfl | rfl | rfl | rfl | rfl
  · exact compute_0 w a b W
  · exact compute_1 w a b W
  · exact compute_2 w a b W
  · exact compute_3 w a b W ha0 ha1 hb0 hb1
  · exact compute_4 w a b W ha0 ha1 hb0 hb1
  · exact compute_5 w a b W ha0 ha1 hb0 hb1
  · rcases longB_cases hl with rfl | rfl
    · exact compute_6_32 a b W hb0 hb1
    · exact compute_6_64 a b W hb0 hb1
  · rcases longB_cases hl with rfl | rfl
    · exact compute_7_32 a b W hb0 hb1
    · exact compute_7_64 a b W hb0 hb1
  · exact compute_8 w a b W
  · exact compute_9 w a b W ha0 ha1 hb0 hb1
  · exact compute_10 w a b W ha0 ha1 hb0 hb1
  · exact compute_11 w a b W
  · rcases longB_cases hl with rfl | rfl
    · exact compute_12_32 a b W hb0 hb1
    · exact compute_12_64 a b W hb0 hb1

theorem computes_t (w : Int) (W : World) (h : longB w = true) : Calls Try.prog 66 #[.int .i8 w] W fun e w' => e = .returned (.bool true) ∧ W = w' := by
  have := computes_any w W; rw [h] at this; exact this
theorem computes_f (w : Int) (W : World) (h : longB w = false) : Calls Try.prog 66 #[.int .i8 w] W fun e w' => e = .returned (.bool false) ∧ W = w' := by
  have := computes_any w W; rw [h] at this; exact this

set_option maxHeartbeats 1000000 in
theorem do_any (op w a b : Int) (W : World) (ha0 : 0 ≤ a) (ha1 : a < 18446744073709551616) (hb0 : 0 ≤ b) (hb1 : b < 18446744073709551616) :
    Calls Try.prog 55 #[.int .i8 op, .int .i8 w, .int .u64 a, .int .u64 b] W fun e w' => e = .returned (.tuple #[.int .u64 (doI op w a b), .int .i64 (doE op w)]) ∧ Below W.heap.size W w' := by
  by_cases h1 : op < 0
  · have e1 : doI op w a b = 0 := if_neg (by omega)
    have e2 : doE op w = 2 := if_neg (by omega)
    rw [e1, e2]; clear e1 e2
    go_enter Try.func55, Try.ntmps55
    go_wp2
    go_ret2
    exact ⟨rfl, Below.refl _ _⟩
  by_cases h2 : 12 < op
  · have e1 : doI op w a b = 0 := if_neg (by omega)
    have e2 : doE op w = 2 := if_neg (by omega)
    rw [e1, e2]; clear e1 e2
    go_enter Try.func55, Try.ntmps55
    go_wp2
    go_ret2
    exact ⟨rfl, Below.refl _ _⟩
  cases hl : longB w
  · have e1 : doI op w a b = 0 := if_neg (by simp [hl])
    have e2 : doE op w = 2 := if_neg (by simp [hl])
    rw [e1, e2]; clear e1 e2
    have HL := Lib.hid hl; clear hl
    go_enter Try.func55, Try.ntmps55
    go_wp2_with (go_at_call 66; refine (computes_f _ _ HL.out).mono ?_; rintro e w' ⟨rfl, rfl⟩)
    go_ret2
    exact ⟨rfl, Below.refl _ _⟩
  · have e1 : doI op w a b = cutI (opI op w (cutI a w) (cutI b w)) w := if_pos ⟨by omega, by omega, hl⟩
    have e2 : doE op w = 0 := if_pos ⟨by omega, by omega, hl⟩
    rw [e1, e2]; clear e1 e2
    have HL := Lib.hid hl; clear hl
    obtain ⟨c0, c1⟩ := cutI_bd a w ha0 ha1
    obtain ⟨d0, d1⟩ := cutI_bd b w hb0 hb1
    go_enter Try.func55, Try.ntmps55
    go_wp2_with (first | (go_at_call 66; refine (computes_t _ _ HL.out).mono ?_; rintro e w' ⟨rfl, rfl⟩) | (go_at_call 67; refine (cut_any _ _ _).mono ?_; rintro e w' ⟨rfl, rfl⟩) | (go_at_call 68; refine (compute_any op w (cutI a w) (cutI b w) _ (by omega) (by omega) HL.out c0 c1 d0 d1).mono ?_; rintro e w' ⟨rfl, hb⟩))
    go_ret2
    exact ⟨rfl, by assumption⟩

set_option maxHeartbeats 2000000 in
theorem holds_in (cc w a b : Int) (W : World) (h0 : 0 ≤ cc) (h10 : cc ≤ 10) (hl : longB w = true) (ha0 : 0 ≤ a) (ha1 : a < 18446744073709551616) (hb0 : 0 ≤ b) (hb1 : b < 18446744073709551616) :
    Calls Try.prog 74 #[.int .i8 cc, .int .i8 w, .int .u64 a, .int .u64 b] W fun e w' => e = .returned (.bool (ccB cc w a b)) ∧ W = w' := by
  have sa : wrap64 (signI a w) = sgnI a w := by
    rcases longB_cases hl with rfl | rfl
    · exact (IntWalk.i64_left _).symm.trans (wrap64_sign32 a)
    · exact (IntWalk.i64_left _).symm.trans (wrap64_sign64 a)
  have sb : wrap64 (signI b w) = sgnI b w := by
    rcases longB_cases hl with rfl | rfl
    · exact (IntWalk.i64_left _).symm.trans (wrap64_sign32 b)
    · exact (IntWalk.i64_left _).symm.trans (wrap64_sign64 b)
  have hc : cc = 0 ∨ cc = 1 ∨ cc = 2 ∨ cc = 3 ∨ cc = 4 ∨ cc = 5 ∨ cc = 6 ∨ cc = 7 ∨ cc = 8 ∨ cc = 9 ∨ cc = 10 := by omega
  clear h0 h10
  rcases hc with rfl | rfl | rfl | rfl | rfl | rfl | rfl | rfl | rfl | rfl | rfl
  all_goals
    go_enter Try.func74, Try.ntmps74
    go_wp2_with (go_at_call 92; refine (sign_any _ _ _).mono ?_; rintro e w' ⟨rfl, rfl⟩)
    go_ret
    refine ⟨retB ?_, rfl⟩
    first | rfl | (rw [u64_and a b ha0 ha1 hb0 hb1]; rfl)
set_option maxHeartbeats 1000000 in
theorem holds_any (cc w a b : Int) (W : World) (ha0 : 0 ≤ a) (ha1 : a < 18446744073709551616) (hb0 : 0 ≤ b) (hb1 : b < 18446744073709551616) :
    Calls Try.prog 60 #[.int .i8 cc, .int .i8 w, .int .u64 a, .int .u64 b] W fun e w' => e = .returned (.tuple #[.bool (holdsB cc w a b), .int .i64 (holdsE cc w)]) ∧ W = w' := by
  by_cases h1 : cc < 0
  · have e1 : holdsB cc w a b = false := if_neg (by omega)
    have e2 : holdsE cc w = 2 := if_neg (by omega)
    rw [e1, e2]; clear e1 e2
    go_enter Try.func60, Try.ntmps60
    go_wp2
    go_ret2
    exact ⟨rfl, rfl⟩
  by_cases h2 : 10 < cc
  · have e1 : holdsB cc w a b = false := if_neg (by omega)
    have e2 : holdsE cc w = 2 := if_neg (by omega)
    rw [e1, e2]; clear e1 e2
    go_enter Try.func60, Try.ntmps60
    go_wp2
    go_ret2
    exact ⟨rfl, rfl⟩
  cases hl : longB w
  · have e1 : holdsB cc w a b = false := if_neg (by simp [hl])
    have e2 : holdsE cc w = 2 := if_neg (by simp [hl])
    rw [e1, e2]; clear e1 e2
    have HL := Lib.hid hl; clear hl
    go_enter Try.func60, Try.ntmps60
    go_wp2_with (go_at_call 66; refine (computes_f _ _ HL.out).mono ?_; rintro e w' ⟨rfl, rfl⟩)
    go_ret2
    exact ⟨rfl, rfl⟩
  · have e1 : holdsB cc w a b = ccB cc w (cutI a w) (cutI b w) := if_pos ⟨by omega, by omega, hl⟩
    have e2 : holdsE cc w = 0 := if_pos ⟨by omega, by omega, hl⟩
    rw [e1, e2]; clear e1 e2
    have HL := Lib.hid hl; clear hl
    obtain ⟨c0, c1⟩ := cutI_bd a w ha0 ha1
    obtain ⟨d0, d1⟩ := cutI_bd b w hb0 hb1
    go_enter Try.func60, Try.ntmps60
    go_wp2_with (first | (go_at_call 66; refine (computes_t _ _ HL.out).mono ?_; rintro e w' ⟨rfl, rfl⟩) | (go_at_call 67; refine (cut_any _ _ _).mono ?_; rintro e w' ⟨rfl, rfl⟩) | (go_at_call 74; refine (holds_in cc w (cutI a w) (cutI b w) _ (by omega) (by omega) HL.out c0 c1 d0 d1).mono ?_; rintro e w' ⟨rfl, rfl⟩))
    go_ret2
    exact ⟨rfl, rfl⟩

end Go.Proofs.Ythhgcbegcbhaeaa

namespace Go.Proofs.Ythhgcbegcbhaeaa
open Go.RowKit
set_option linter.unusedVariables false
set_option maxRecDepth 100000

/-- How far an address lies behind a start. -/
def offI (a s : Int) : Int := (a - s) % 18446744073709551616

theorem ret_int {k : IntKind} {a b : Int} (h : a = b) : Ending.returned (.int k a) = .returned (.int k b) := by rw [h]
theorem bcell {W w1 : World} (hb : Below W.heap.size W w1) : (∀ b o, b < W.heap.size → w1.cell? ⟨b, o, none⟩ = W.cell? ⟨b, o, none⟩) ∧ (∀ b o, b < W.heap.size → w1.frozen? ⟨b, o, none⟩ = W.frozen? ⟨b, o, none⟩) :=
  ⟨fun b o h => hb.cell (p := ⟨b, o, none⟩) h, fun b o h => hb.frozen (p := ⟨b, o, none⟩) h⟩
theorem below_alloc {W w : World} {B : Nat} (h : Below B W w) (hB : B ≤ w.heap.size) (o : Obj) : Below B W (w.alloc o) := h.alloc hB o

set_option maxHeartbeats 400000 in
theorem offset_any (at_ n st sz : Int) (fx : Bool) (p : Option Addr) (ln cp : Nat) (W : World) :
    Calls Try.prog 96 #[.agg #[.int .u64 at_, .int .u64 n], .agg #[.int .u64 st, .int .u64 sz, .bool fx, .slice p ln cp]] W fun e w' => e = .returned (.int .u64 (offI at_ st)) ∧ Below W.heap.size W w' := by
  go_enter Try.func96, Try.ntmps96
  go_wp2
  go_ret
  exact ⟨rfl, ((Below.refl _ _).alloc (Nat.le_refl _) _).alloc (by simp) _⟩

/-- May n bytes from an address on be read in a region? -/
def rdB (a n st sz : Int) : Bool := decide (offI a st < sz) && decide (n ≤ sz - offI a st)
theorem offI_bd (a s : Int) : 0 ≤ offI a s ∧ offI a s < 18446744073709551616 := by unfold offI; omega

set_option maxHeartbeats 400000 in
theorem readable_any (at_ n st sz : Int) (fx : Bool) (p : Option Addr) (ln cp : Nat) (W : World) (hz0 : 0 ≤ sz) (hz1 : sz < 18446744073709551616) :
    Calls Try.prog 70 #[.agg #[.int .u64 at_, .int .u64 n], .agg #[.int .u64 st, .int .u64 sz, .bool fx, .slice p ln cp]] W fun e w' => e = .returned (.bool (rdB at_ n st sz)) ∧ Below W.heap.size W w' := by
  obtain ⟨o0, o1⟩ := offI_bd at_ st
  by_cases h : offI at_ st < sz
  · have e : rdB at_ n st sz = decide (n ≤ sz - offI at_ st) := by unfold rdB; rw [decide_eq_true h]; rfl
    rw [e]
    go_enter Try.func70, Try.ntmps70
    go_wp2_with fail
    refine (offset_any _ _ _ _ _ _ _ _ _).mono ?_
    rintro e w1 ⟨rfl, b1⟩
    obtain ⟨hc, hf⟩ := bcell b1
    go_wp2
    go_ret
    exact ⟨rfl, (((Below.refl _ _).alloc (Nat.le_refl _) _).alloc (by simp) _).trans (b1.mono (by simp; omega))⟩
  · have e : rdB at_ n st sz = false := by unfold rdB; rw [decide_eq_false h]; rfl
    rw [e]
    go_enter Try.func70, Try.ntmps70
    go_wp2_with fail
    refine (offset_any _ _ _ _ _ _ _ _ _).mono ?_
    rintro e w1 ⟨rfl, b1⟩
    obtain ⟨hc, hf⟩ := bcell b1
    go_wp2
    go_ret
    exact ⟨rfl, (((Below.refl _ _).alloc (Nat.le_refl _) _).alloc (by simp) _).trans (b1.mono (by simp; omega))⟩

/-- May they be written? -/
def wrB (a n st sz : Int) (fx : Bool) : Bool := !fx && rdB a n st sz
set_option maxHeartbeats 400000 in
theorem writable_any (at_ n st sz : Int) (fx : Bool) (p : Option Addr) (ln cp : Nat) (W : World) (hz0 : 0 ≤ sz) (hz1 : sz < 18446744073709551616) :
    Calls Try.prog 72 #[.agg #[.int .u64 at_, .int .u64 n], .agg #[.int .u64 st, .int .u64 sz, .bool fx, .slice p ln cp]] W fun e w' => e = .returned (.bool (wrB at_ n st sz fx)) ∧ Below W.heap.size W w' := by
  cases fx
  · go_enter Try.func72, Try.ntmps72
    go_wp2_with fail
    refine (readable_any _ _ _ _ _ _ _ _ _ hz0 hz1).mono ?_
    rintro e w1 ⟨rfl, b1⟩
    go_wp2
    go_ret
    exact ⟨rfl, (((Below.refl _ _).alloc (Nat.le_refl _) _).alloc (by simp) _).trans (b1.mono (by simp; omega))⟩
  · go_enter Try.func72, Try.ntmps72
    go_wp2
    go_ret
    exact ⟨rfl, ((Below.refl _ _).alloc (Nat.le_refl _) _).alloc (by simp) _⟩

/-- Is it a size? -/
def szB (n : Int) : Bool := n == 1 || n == 2 || n == 4 || n == 8
set_option maxHeartbeats 400000 in
theorem sized_any (at_ n : Int) (W : World) :
    Calls Try.prog 93 #[.agg #[.int .u64 at_, .int .u64 n]] W fun e w' => e = .returned (.bool (szB n)) ∧ Below W.heap.size W w' := by
  go_enter Try.func93, Try.ntmps93
  go_wp2
  all_goals
    go_ret
    exact ⟨by simp_all [szB], (Below.refl _ _).alloc (Nat.le_refl _) _⟩

/-- A number of bytes, brought to its range. -/
def limI (a m : Int) : Int := min (max a 0) m
set_option maxHeartbeats 400000 in
theorem limited_any (a m : Int) (h0 : 0 ≤ m) (h1 : m ≤ 9223372036854775807) (W : World) :
    Calls Try.prog 101 #[.int .i64 a, .int .i64 m] W fun e w' => e = .returned (.int .u64 (limI a m)) ∧ W = w' := by
  go_enter Try.func101, Try.ntmps101
  go_wp2
  all_goals
    go_ret
    exact ⟨ret_int (by unfold limI; omega), rfl⟩
end Go.Proofs.Ythhgcbegcbhaeaa
