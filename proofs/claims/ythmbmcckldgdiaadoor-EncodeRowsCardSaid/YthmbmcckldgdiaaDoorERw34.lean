import Derived.Test.YthmbmcckldgdiaaDoorRows
import Derived.RangeFuncWrites
import Derived.RangeFuncLeaves
import Derived.Shelf.Abstract
import Derived.WalkKit
import Derived.OwnWalkIn
import Derived.TacticsInMore
import Derived.LoopNIn
import Derived.LoopIn
set_option linter.unusedVariables false
set_option linter.unusedSimpArgs false
set_option linter.unnecessarySimpa false
namespace Go.Proofs.YthmbmcckldgdiaaDoor.Mdl
open Go.RowKit Go.Shelf
set_option linter.unusedVariables false
set_option maxRecDepth 100000
section
variable {P:Program} {τ σ:TypeId → Bool} {β n:Nat} {α:Type}
def isT (τ:TypeId → Bool):Obj → Bool
  | .cells _ t _=>τ t
  | _=>false
theorem isT_other {o:Obj} (h:o.isCells=false):isT τ o=false:=by
  cases o <;> first | rfl | (simp [Obj.isCells] at h)
structure TurnT (τ:TypeId → Bool) (β:Nat) (A B:World):Prop where
  os:B.os=A.os
  tape:B.tape=A.tape
  output:B.output=A.output
  size:A.heap.size ≤ B.heap.size
  same:∀ (k:Nat) (o:Obj),A.heap[k]?=some o → (k < β ∨ isT τ o=false) → B.heap[k]?=some o
structure KeepT (τ:TypeId → Bool) (A B:World):Prop where
  size:A.heap.size ≤ B.heap.size
  same:∀ (k:Nat) (o:Obj),A.heap[k]?=some o → isT τ o=true → B.heap[k]?=some o
theorem KeepT.refl (A:World):KeepT τ A A:=⟨Nat.le_refl _,fun _ _ h _=>h⟩
theorem KeepT.trans {A B C:World} (h:KeepT τ A B) (k:KeepT τ B C):KeepT τ A C:=⟨Nat.le_trans h.size k.size,fun i o hi ho=>k.same i o (h.same i o hi ho) ho⟩
theorem KeepT.putObj {W:World} {l:Nat} {o:Obj} (o':Obj) (hl:W.heap[l]?=some o) (ho:o.isCells=false):KeepT τ W (W.putObj l o'):=by
  have g:=grownBy_putObj' W l o'
  refine ⟨g.size,fun k x hk hx=>?_⟩
  by_cases e:k=l
  · subst e
    rw [hl] at hk
    injection hk with hk
    subst hk
    rw [isT_other ho] at hx;cases hx
  · exact (g.block k (Array.getElem?_eq_some_iff.1 hk).1 (fun h=>e (by injection h))).trans hk
structure Book (l D:Nat) (rec:Loop) (W:World):Prop where
  loop:W.heap[l]?=some (.loop rec)
  defers:W.heap[D]?=some (.deferred (some []))
theorem Book.turn {l D:Nat} {rec:Loop} {A B:World} (h:Book l D rec A) (t:TurnT τ β A B):Book l D rec B:=⟨t.same _ _ h.loop (.inr rfl),t.same _ _ h.defers (.inr rfl)⟩
theorem Book.put {l D:Nat} {rec:Loop} {W:World} (h:Book l D rec W) (ne:l ≠ D) (r:Loop):Book l D r (W.putObj l (.loop r)):=
  ⟨World.putObj_heap_same (Array.getElem?_eq_some_iff.1 h.loop).1,(World.putObj_heap_other (fun e=>ne (by first | exact e | exact e.symm))).trans h.defers⟩
theorem Book.keeps {B l D:Nat} {rec:Loop} {W W':World} (h:Book l D rec W) (k:KeepsFrom B W W') (hl:B ≤ l) (hD:B ≤ D):Book l D rec W':=⟨k.same _ _ hl h.loop rfl,k.same _ _ hD h.defers rfl⟩
end
end Go.Proofs.YthmbmcckldgdiaaDoor.Mdl
