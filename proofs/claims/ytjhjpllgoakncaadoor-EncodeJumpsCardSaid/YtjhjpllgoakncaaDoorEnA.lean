/-
  Layer 13: the cells of a target instruction; its class and code.
-/
import Derived.Test.YtjhjpllgoakncaaDoorEnM
import Derived.Test.YtjhjpllgoakncaaDoorSv
import Derived.Laws.StructEq
namespace Go.Proofs.YtjhjpllgoakncaaDoor.Mrm
open Go Go.RowKit
set_option linter.unusedVariables false
set_option linter.unusedSimpArgs false
set_option maxRecDepth 100000

theorem mo : Tryd.prog.follows .mixedOrders = true := by kernel_rfl
theorem xC_one (x : Xi) : (xC x).all (·.oneCell') = true := by kernel_rfl
abbrev cR (a b c d : Int) : Array Value := #[.int .u64 a, .int .u64 b, .int .i64 c, .int .i64 d]
section
variable {ρ : Operand → Value} {o : Oper} {w : World} {x y : Operand} {g : Nat} {fr : Nat × Nat} {T t u : TypeId} {k : IntKind} {a b : Int}
theorem ldX {X : Xi} (ho : o.op = .load 24 x) (hx : ρ x = .pointer (some ⟨g, 0, none⟩)) (hg : w.heap[g]? = some (.cells (xC X) T fr)) : (execOp ρ o).run Tryd.prog w = .ok (.value (.agg (xC X))) w :=
  exec_loadR 24 x ho g 0 hx hg (xL X) rfl _ Tryd.underlying24 rfl (by kernel_rfl)
theorem ex_box {v : Value} {c : Array Value} (ho : o.op = .box T x) (hx : ρ x = v) (hc : v.cells = c) : (execOp ρ o).run Tryd.prog w = .ok (.value (.pointer (some ⟨w.heap.size, 0, none⟩))) (w.alloc (.cells c T)) := by
  subst hc
  simp [execOp, ho, hx, go_sem]
theorem al_x (ho : o.op = .alloc 24) : (execOp ρ o).run Tryd.prog w = .ok (.value (.pointer (some ⟨w.heap.size, 0, none⟩))) (w.alloc (.cells (xC zX) 24)) := by
  simp [execOp, ho, go_sem]
  rfl
theorem ex_z8 (ho : o.op = .build 24 #[]) : (execOp ρ o).run Tryd.prog w = .ok (.value (.agg (xC zX))) w := exec_build ho (vs := #[]) (by simp) (by kernel_rfl)
theorem ex_an (ho : o.op = .binOp .andNot t x y u) (hx : ρ x = .int k a) (hy : ρ y = .int k b) : (execOp ρ o).run Tryd.prog w = .ok (.value (.int k (bits .andNot k a b))) w := by simp [execOp, ho, hx, hy, go_sem]
theorem ex_nn (ho : o.op = .unOp .not t x) {c : Bool} (hx : ρ x = .bool (!c)) : (execOp ρ o).run Tryd.prog w = .ok (.value (.bool c)) w := by simp [execOp, ho, hx, go_sem]
end
set_option maxHeartbeats 1000000 in
theorem eq_x (a b : Xi) (w : World) : (Op.equalIn 10000 24 (.agg (xC a)) (.agg (xC b))).run Tryd.prog w = .ok (eqX a b) w := by
  simp [go_sem]
  unfold eqX
  (repeat' split) <;> simp [*]
theorem lt32 {op : Int} (h : 0 ≤ op ∧ op < 32) : op = 0 ∨ op = 1 ∨ op = 2 ∨ op = 3 ∨ op = 4 ∨ op = 5 ∨ op = 6 ∨ op = 7 ∨ op = 8 ∨ op = 9 ∨ op = 10 ∨ op = 11 ∨ op = 12 ∨ op = 13 ∨ op = 14 ∨ op = 15 ∨ op = 16 ∨ op = 17 ∨ op = 18 ∨ op = 19 ∨ op = 20 ∨ op = 21 ∨ op = 22 ∨ op = 23 ∨ op = 24 ∨ op = 25 ∨ op = 26 ∨ op = 27 ∨ op = 28 ∨ op = 29 ∨ op = 30 ∨ op = 31 := by omega
theorem ne32 {op : Int} (h : ¬ (0 ≤ op ∧ op < 32)) (k : Int) (hk : 0 ≤ k ∧ k < 32) : (op == k) = false := by
  simp only [beq_eq_false_iff_ne]
  rintro rfl
  exact h hk
end Go.Proofs.YtjhjpllgoakncaaDoor.Mrm
