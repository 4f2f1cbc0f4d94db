/-
  Operations whose words the walk leaves open: shifts by what stands in a slot, quotients, rests. No program is named here.
-/
import Derived.Test.YtllnengcmfgmhaaSx
import Derived.Lib.MinMax
import Derived.WalkKit
import Derived.WalkSpells
import Derived.WalkLawsBesides
namespace Go.Proofs.Ytllnengcmfgmhaa
open Go Go.RowKit
set_option linter.unusedVariables false
set_option linter.unusedSimpArgs false
section
variable {P : Program} {ρ : Operand → Value} {o : Oper} {w : World}
theorem exec_shr {t z : TypeId} {x y : Operand} (ho : o.op = .binOp .shr t x y z) {k : IntKind} {a n : Int} (hx : ρ x = .int .u64 a) (hy : ρ y = .int k n) (h0 : 0 ≤ n) (h1 : n ≤ 64) : (execOp ρ o).run P w = .ok (.value (.int .u64 (a / 2 ^ n.toNat))) w := by
  have e1 : ¬ n < 0 := by omega
  have e2 : min n.toNat 64 = n.toNat := by omega
  simp [execOp, ho, hx, hy, go_sem, Op.shift, e1, e2]
theorem exec_shl {t z : TypeId} {x y : Operand} (ho : o.op = .binOp .shl t x y z) {k : IntKind} {a n : Int} (hx : ρ x = .int .u64 a) (hy : ρ y = .int k n) (h0 : 0 ≤ n) (h1 : n ≤ 64) : (execOp ρ o).run P w = .ok (.value (.int .u64 ((a * 2 ^ n.toNat) % 18446744073709551616))) w := by
  have e1 : ¬ n < 0 := by omega
  have e2 : min n.toNat 64 = n.toNat := by omega
  simp [execOp, ho, hx, hy, go_sem, Op.shift, e1, e2]
  rw [IntKind.wrap_u64]
theorem exec_quo {t z : TypeId} {x y : Operand} (ho : o.op = .binOp .quo t x y z) {a b : Int} (hx : ρ x = .int .u64 a) (hy : ρ y = .int .u64 b) (ha : 0 ≤ a) (hb : 0 < b) (hl : a < 18446744073709551616) : (execOp ρ o).run P w = .ok (.value (.int .u64 (a / b))) w := by
  have e1 : ¬ b = 0 := by omega
  simp [execOp, ho, hx, hy, go_sem, e1]
  rw [Int.tdiv_eq_ediv_of_nonneg ha, IntKind.wrap_u64, Int.emod_eq_of_lt (Int.ediv_nonneg ha (by omega))]
  have := Int.ediv_le_self b ha
  omega
theorem exec_rem {t z : TypeId} {x y : Operand} (ho : o.op = .binOp .rem t x y z) {a b : Int} (hx : ρ x = .int .u64 a) (hy : ρ y = .int .u64 b) (ha : 0 ≤ a) (hb : 0 < b) : (execOp ρ o).run P w = .ok (.value (.int .u64 (a % b))) w := by
  have e1 : ¬ b = 0 := by omega
  simp [execOp, ho, hx, hy, go_sem, e1]
  exact Int.tmod_eq_emod_of_nonneg ha
end
end Go.Proofs.Ytllnengcmfgmhaa
