/-
  Layer 14: the cells of flags; the small functions of package flags and of the document's own answer, as contracts.
-/
import Derived.Test.YtllnengcmfgmhaaFlM
import Derived.Test.YtllnengcmfgmhaaBitsVd
import Derived.Test.YtllnengcmfgmhaaRefA
import Derived.Test.YtllnengcmfgmhaaSv
import Derived.Laws.StructEq
namespace Go.Proofs.Ytllnengcmfgmhaa.Flg
open Go Go.RowKit
set_option linter.unusedVariables false
set_option linter.unusedSimpArgs false
set_option linter.unnecessarySimpa false
set_option maxRecDepth 100000

theorem mo : Try.prog.follows .mixedOrders = true := by kernel_rfl
theorem retV {a b : Value} (h : a = b) : Ending.returned a = .returned b := by rw [h]
theorem fC_one (f : Fl) : (fC f).all (·.oneCell') = true := by kernel_rfl
abbrev fL (f : Fl) : List Value := [.bool f.k, .bool f.c, .bool f.z, .bool f.s, .bool f.o]
abbrev cR (a b c d : Int) : Array Value := #[.int .u64 a, .int .u64 b, .int .i64 c, .int .i64 d]
def eqF (a b : Fl) : Bool := a.k == b.k && (a.c == b.c && (a.z == b.z && (a.s == b.s && a.o == b.o)))
theorem eqF_self (a : Fl) : eqF a a = true := by simp [eqF]
theorem eqF_known (f : Fl) : eqF f ⟨true, f.c, f.z, f.s, f.o⟩ = f.k := by simp [eqF]
section
variable {ρ : Operand → Value} {o : Oper} {w : World} {x y : Operand} {g : Nat} {fr : Nat × Nat} {T t u : TypeId} {k : IntKind} {a b : Int}
theorem ldF {X : Fl} (ho : o.op = .load 25 x) (hx : ρ x = .pointer (some ⟨g, 0, none⟩)) (hg : w.heap[g]? = some (.cells (fC X) T fr)) : (execOp ρ o).run Try.prog w = .ok (.value (.agg (fC X))) w :=
  exec_loadR 25 x ho g 0 hx hg (fL X) rfl _ Try.underlying25 rfl (by kernel_rfl)
theorem ex_box {v : Value} {c : Array Value} (ho : o.op = .box T x) (hx : ρ x = v) (hc : v.cells = c) : (execOp ρ o).run Try.prog w = .ok (.value (.pointer (some ⟨w.heap.size, 0, none⟩))) (w.alloc (.cells c T)) := by
  subst hc
  simp [execOp, ho, hx, go_sem]
theorem al_f (ho : o.op = .alloc 25) : (execOp ρ o).run Try.prog w = .ok (.value (.pointer (some ⟨w.heap.size, 0, none⟩))) (w.alloc (.cells (fC zF) 25)) := by
  simp [execOp, ho, go_sem]
theorem ex_z5 (ho : o.op = .build 25 #[]) : (execOp ρ o).run Try.prog w = .ok (.value (.agg (fC zF))) w := exec_build ho (vs := #[]) (by simp) (by kernel_rfl)
theorem ex_beq {a b : Bool} (ho : o.op = .binOp .eql 4 x y u) (hx : ρ x = .bool a) (hy : ρ y = .bool b) : (execOp ρ o).run Try.prog w = .ok (.value (.bool (a == b))) w := by
  cases a <;> cases b <;> simp [execOp, ho, hx, hy, go_sem]
theorem ex_bne {a b : Bool} (ho : o.op = .binOp .neq 4 x y u) (hx : ρ x = .bool a) (hy : ρ y = .bool b) : (execOp ρ o).run Try.prog w = .ok (.value (.bool (a != b))) w := by
  cases a <;> cases b <;> simp [execOp, ho, hx, hy, go_sem]
theorem ex_fn {n : FuncId} (ho : o.op = .binOp .eql 50 x y u) (hx : ρ x = .func (.func n) #[] #[]) (hy : ρ y = .nilFunc) : (execOp ρ o).run Try.prog w = .ok (.value (.bool false)) w := by
  simp [execOp, ho, hx, hy, go_sem]
  rfl
theorem ex_fz (ho : o.op = .binOp .eql 50 x y u) (hx : ρ x = .nilFunc) (hy : ρ y = .nilFunc) : (execOp ρ o).run Try.prog w = .ok (.value (.bool true)) w := by
  simp [execOp, ho, hx, hy, go_sem]
  rfl
theorem parts5 {ρ : Operand → Value} {i j k l m : Nat} {x y z t s : Operand} {a b c d e : Value} (h : ρ x = a) (h2 : ρ y = b) (h3 : ρ z = c) (h4 : ρ t = d) (h5 : ρ s = e) : (#[(i, x), (j, y), (k, z), (l, t), (m, s)] : Array (Nat × Operand)).map (fun p => (p.1, ρ p.2)) = #[(i, a), (j, b), (k, c), (l, d), (m, e)] := by simp [h, h2, h3, h4, h5]
theorem ex_an (ho : o.op = .binOp .andNot t x y u) (hx : ρ x = .int k a) (hy : ρ y = .int k b) : (execOp ρ o).run Try.prog w = .ok (.value (.int k (bits .andNot k a b))) w := by simp [execOp, ho, hx, hy, go_sem]
theorem ex_nn (ho : o.op = .unOp .not t x) {c : Bool} (hx : ρ x = .bool (!c)) : (execOp ρ o).run Try.prog w = .ok (.value (.bool c)) w := by simp [execOp, ho, hx, go_sem]
end
set_option maxHeartbeats 1000000 in
theorem eq_f (a b : Fl) (w : World) : (Op.equalIn 10000 25 (.agg (fC a)) (.agg (fC b))).run Try.prog w = .ok (eqF a b) w := by
  simp [go_sem]
  unfold eqF
  (repeat' split) <;> simp [*]
theorem negative_n (w v : Int) (W : World) (h : longB w = true) : Calls Try.prog 29 #[.int .i8 w, .int .u64 v] W fun e w' => e = .returned (.bool (negB w v)) ∧ W = w' := by
  rcases longB_cases h with rfl | rfl
  · have E := Lib.hid (neg_32 v)
    go_enter Try.func29, Try.ntmps29
    go_wp2
    go_ret
    refine ⟨retB ?_, rfl⟩
    exact E.out
  · have E := Lib.hid (neg_64 v)
    go_enter Try.func29, Try.ntmps29
    go_wp2
    go_ret
    refine ⟨retB ?_, rfl⟩
    exact E.out
theorem top_n (w v : Int) (W : World) (h : longB w = true) (h0 : 0 ≤ v) (h1 : v < 18446744073709551616) : Calls Try.prog 33 #[.int .u64 v, .int .i8 w] W fun e w' => e = .returned (.bool (negB w v)) ∧ W = w' := by
  rcases longB_cases h with rfl | rfl
  · have E := Lib.hid (top_32 v)
    have E1 := and_1 (v / 2147483648)
    go_enter Try.func33, Try.ntmps33
    go_wp2
    go_ret
    exact ⟨retB E.out, rfl⟩
  · have E := Lib.hid (top_64 v h0 h1)
    have E1 := and_1 (v / 9223372036854775808)
    go_enter Try.func33, Try.ntmps33
    go_wp2
    go_ret
    exact ⟨retB E.out, rfl⟩
theorem width_n (w : Int) (W : World) : Calls Try.prog 31 #[.int .i8 w] W fun e w' => e = .returned (.bool (longB w)) ∧ W = w' := by
  by_cases h : w = 32
  · subst h
    go_enter Try.func31, Try.ntmps31
    go_wp2
    go_ret
    exact ⟨rfl, rfl⟩
  · have h1 := neq_of h
    rw [show longB w = (w == 64) by unfold longB; rw [h1]; rfl]
    go_enter Try.func31, Try.ntmps31
    go_wp2
    go_ret
    exact ⟨rfl, rfl⟩
end Go.Proofs.Ytllnengcmfgmhaa.Flg
