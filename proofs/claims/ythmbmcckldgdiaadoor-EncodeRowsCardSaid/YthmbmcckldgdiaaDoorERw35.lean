import Derived.Test.YthmbmcckldgdiaaDoorERw34
set_option linter.unusedVariables false
set_option linter.unusedSimpArgs false
set_option linter.unnecessarySimpa false
namespace Go.Proofs.YthmbmcckldgdiaaDoor.Mdl
open Go.RowKit Go.Shelf
set_option linter.unusedVariables false
set_option maxRecDepth 100000
section
variable {P:Program} {τ σ:TypeId → Bool} {β n:Nat} {α:Type}
structure TurnG (τ:TypeId → Bool) (β γ:Nat) (A B:World):Prop where
  os:B.os=A.os
  tape:B.tape=A.tape
  output:B.output=A.output
  size:A.heap.size ≤ B.heap.size
  same:∀ (k:Nat) (o:Obj),A.heap[k]?=some o → k < γ → (k < β ∨ isT τ o=false) → B.heap[k]?=some o
def AbG (τ:TypeId → Bool) (β γ:Nat) (J:List α → World → Prop):Prop:=∀ s A B,J s A → TurnG τ β γ A B → J s B
theorem Book.turnG {l D γ:Nat} {rec:Loop} {A B:World} (h:Book l D rec A) (t:TurnG τ β γ A B) (hl:l < γ) (hD:D < γ):Book l D rec B:=⟨t.same _ _ h.loop hl (.inr rfl),t.same _ _ h.defers hD (.inr rfl)⟩
theorem TurnG.row {γ:Nat} {A B:World} (t:TurnG τ β γ A B) {g:Nat} {c:Array Value} {ty:TypeId} {fr:Nat × Nat} (h:A.heap[g]?=some (.cells c ty fr)) (hg:g < γ) (hn:τ ty=false):B.heap[g]?=some (.cells c ty fr):=t.same g _ h hg (.inr hn)
theorem TurnG.of_below {γ:Nat} {A B:World} (b:Below A.heap.size A B):TurnG τ β γ A B:=⟨b.os,b.tape,b.output,b.size,fun k o hk _ _=>(b.block k (Array.getElem?_eq_some_iff.1 hk).1).trans hk⟩
theorem TurnG.of_grown {γ:Nat} {A B:World} {row:Option Nat} (g:A.grownBy B row) (h:∀ j,row=some j → γ ≤ j):TurnG τ β γ A B:=⟨g.os,g.tape,g.output,g.size,fun k o hk hg _=>(g.block k (Array.getElem?_eq_some_iff.1 hk).1 (fun e=>by have:=h k e.symm;omega)).trans hk⟩
theorem AbG.own {γ B:Nat} {J:List α → World → Prop} (h:AbG τ β γ J) (hB:γ ≤ B):OwnFrom B J:=fun s X Y row hs hg hr=>h s X Y hs (.of_grown hg (fun j e=>Nat.le_trans hB (hr j e).1))
theorem TurnG.below {γ m:Nat} {w0 A B:World} (b:Below m w0 A) (t:TurnG τ β γ A B) (h:m ≤ β) (hg:m ≤ γ) (hn:m ≤ w0.heap.size):Below m w0 B:=
  ⟨t.os.trans b.os,t.tape.trans b.tape,t.output.trans b.output,Nat.le_trans b.size t.size,fun k hk=>by
    have e1:=b.block k hk
    have hlt:k < w0.heap.size:=by omega
    have e2:=Array.getElem?_eq_getElem hlt
    rw [e2] at e1 ⊢
    exact t.same k _ e1 (by omega) (.inl (by omega))⟩
end
end Go.Proofs.YthmbmcckldgdiaaDoor.Mdl
