/-
  A region that draws its order: the table of what its operations yield, as a list; operations that are wanted under a condition.
-/
import Derived.Test.YtllnengcmfgmhaaOrd
namespace Go.Proofs.Ytllnengcmfgmhaa
open Go
set_option linter.unusedVariables false

/-- What the operations yield: one entry each. -/
def TabR (l : List (Value → World → Prop)) (i : Nat) (v u : Value) (w : World) : Prop := match l[i]? with
  | some p => p v w
  | none => True

/-- The same, of the values alone. -/
def TabV (l : List (Value → Prop)) (i : Nat) (v u : Value) (w : World) : Prop := match l[i]? with
  | some p => p v
  | none => True

theorem wanted_cond {ops : Array Oper} {a : Act} {o oj : Oper} (j d : Nat) (C b want : Bool) (h : a.tmps.getD d undef = (bif C then .bool b else undef)) (hlt : d < a.tmps.size) (hg : o.guard = some (j, want)) (hj : ops[j]? = some oj) (hd : oj.dst = some d) :
    Region.wanted o (yielded ops a.tmps) = (C && (b == want)) := by
  cases C
  · have e : a.tmps[d]? = some undef := by
      rw [Array.getElem?_eq_getElem hlt]
      simp only [Array.getD_eq_getD_getElem?, Array.getElem?_eq_getElem hlt, Option.getD_some] at h
      rw [h]; rfl
    have y : yielded ops a.tmps j = none := by
      unfold yielded
      rw [hj]
      simp only [Option.bind_some, hd, e]
      rfl
    unfold Region.wanted
    rw [hg]
    simp only [y]
    rfl
  · have e : a.tmps[d]? = some (.bool b) := by
      rw [Array.getElem?_eq_getElem hlt]
      simp only [Array.getD_eq_getD_getElem?, Array.getElem?_eq_getElem hlt, Option.getD_some] at h
      rw [h]; rfl
    have y : yielded ops a.tmps j = some b := by
      unfold yielded
      rw [hj]
      simp only [Option.bind_some, hd, e]
    unfold Region.wanted
    rw [hg]
    simp only [y]
    cases b <;> cases want <;> rfl
end Go.Proofs.Ytllnengcmfgmhaa
