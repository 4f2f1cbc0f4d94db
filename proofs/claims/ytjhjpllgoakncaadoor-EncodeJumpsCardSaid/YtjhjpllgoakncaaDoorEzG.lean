/-
  A drawn region inside a walk whose operations read or call, guards and all: the world behind it is told by Below. No program is named here.
-/
import Derived.Test.YtjhjpllgoakncaaDoorSzj
namespace Go.Proofs.YtjhjpllgoakncaaDoor
open Go Go.RowKit
set_option linter.unusedVariables false
set_option linter.unusedSimpArgs false

section
variable {P : Program} {ops : Array Oper} {Q : Exit → Act → World → Prop} {n : Nat} {a0 : Act} {S : (Nat → Bool) → (Nat → Value) → World → Prop} {K D : List Nat} {l : List (Option Value)} {i : Nat} {o : Oper} {fl : Nat → Bool} {a : Act} {w w' w0 : World}
def okK (K D : List Nat) (i d : Nat) : Bool := K.all (fun k => !Nat.beq k i) && D.all (fun k => !Nat.beq k d)
/-- A guarded operation that yields and leaves the world. -/
theorem Cz.vg (c : Cz ops n a0 S K D l i o fl a w) (hw : Region.wanted o (yielded ops a.tmps) = true) {v : Value} (hr : (execOp a.eval o).run P w = .ok (.value v) w) {d : Nat} (hd : o.dst = some d) (hlt : Nat.blt d n = true) (hk : okK K D i d = true) (ht : TabO l i v) : wpOp P ops Q i (PostZ S l i o fl a) a w :=
  wpOp_valw c.ho hw hr ⟨v, rfl, by rw [own_some hd c.sz hlt]; exact ht, by rw [hd]; exact c.keep hk⟩
/-- A guarded operation that is not wanted. -/
theorem Cz.ng (c : Cz ops n a0 S K D l i o fl a w) (hw : Region.wanted o (yielded ops a.tmps) = false) {d : Nat} (hd : o.dst = some d) (hlt : Nat.blt d n = true) (hk : okK K D i d = true) (ht : TabO l i undef) : wpOp P ops Q i (PostZ S l i o fl a) a w :=
  wpOp_no c.ho hw ⟨undef, rfl, by rw [own_some hd c.sz hlt]; exact ht, by rw [hd]; exact c.keep hk⟩
def belS (w0 : World) : (Nat → Bool) → (Nat → Value) → World → Prop := fun _ _ w => Below w0.heap.size w0 w
/-- A call that makes memory, guarded or not. -/
theorem Cz.cB (c : Cz ops n a0 (belS w0) [] [] l i o fl a w) (hw : Region.wanted o (yielded ops a.tmps) = true) {f : FuncId} {xs : Array Operand} {ts : Array TypeId} {fn : Func} {args : Array Value} (ho : o.op = .call ⟨.value (.func f), xs, ts⟩) (ha : xs.map a.eval = args) (hf : P.funcs[f]? = some fn)
    (hn : okF fn = true) {d : Nat} (hd : o.dst = some d) (hlt : Nat.blt d n = true) {v : Value} (K' : Below w0.heap.size w0 w → Calls P f args w fun e w' => e = .returned v ∧ Below w.heap.size w w') (ht : TabO l i v) : wpOp P ops Q i (PostZ (belS w0) l i o fl a) a w := by
  unfold okF at hn
  simp only [Bool.and_eq_true, Bool.not_eq_true'] at hn
  refine wpOp_callw c.ho hw (exec_call ho rfl rfl ha hf hn.1 hn.2) ((K' c.S).mono ?_)
  rintro e w' ⟨rfl, b⟩
  exact ⟨v, rfl, _, rfl, by rw [own_some hd c.sz hlt]; exact ht, by
    have h : Below w0.heap.size w0 w := c.S
    exact h.trans (b.mono h.size)⟩
end
end Go.Proofs.YtjhjpllgoakncaaDoor
