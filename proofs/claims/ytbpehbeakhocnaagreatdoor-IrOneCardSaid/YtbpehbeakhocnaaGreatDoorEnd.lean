import Derived.Test.YtbpehbeakhocnaaGreatDoorRows
import Derived.ProofKit
import Derived.Below
namespace Go.Proofs.YtbpehbeakhocnaaGreatDoor
open Go.RowKit Go.WideShapes Go.ChangeShapes
set_option maxRecDepth 100000
variable {H:Type} {enc:TypeId × Value → H} {P:Program}
theorem post_calm {f:Func} {s:ChangeSpec} {apart fresh handsOn again:Bool} {W W':World} {args:Array Value} {v:Value} {ds gs:List (DataW H)} {before pa pv:List MemPlace}
    (whole:DataW.Whole enc P f.params.toList s.vars apart W args.toList ds gs before)
    (res:∀ (b:Nat) (sp:Nat → Bool) (hd:Bool),DataW.TrodAll enc P W' b sp hd f.resultTypes.toList (v.resultList f.resultTypes.size) (s.fn H (ds ++ gs)).results [])
    (arg:∀ sp:Nat → Bool,(∀ p ∈ before,sp p.block=true) → DataW.TrodAll enc P W' 0 sp true f.params.toList args.toList (s.fn H (ds ++ gs)).args pa)
    (var:∀ sp:Nat → Bool,(∀ p ∈ before,sp p.block=true) → DataW.TrodVars enc P W' sp s.vars (s.fn H (ds ++ gs)).vars pv)
    (parts:before=pa ++ pv) (calm:Below W.heap.size W W')
    (fine:∀ (j:Nat) (t:TypeId) (r:Value),f.resultTypes[j]?=some t → (v.resultList f.resultTypes.size)[j]?=some r → Value.okWide P W' .any 0 t r):
    s.post enc P f apart fresh handsOn again W args v W':=by
  have old:∀ p ∈ before,p.block < W.heap.size:=fun p hp=>whole.lt p hp
  have kept:W.keptBut W' (fun p=>p ∈ before ∧ p ∈ pa ++ pv ∨ False):=calm.frame _
  have all:∀ sp:Nat → Bool,(sp=fun _=>true) → ∀ p ∈ before,sp p.block=true:=fun sp e p _=>by rw [e]
  obtain ⟨w1,w2,w3,w4,w5,unfrozen,lone⟩:=id whole
  refine ⟨ds,gs,before,[],pa,pv,whole,res _ _ _,arg _ (fun p hp=>decide_eq_true (old p hp)),var _ (fun p hp=>decide_eq_true (old p hp)),World.keptBut_mono ?_ kept,fun _=>⟨fine,_,_,([] ++ pa) ++ pv,⟨[] ++ pa,pv,trodAll_append (arg _ (all _ rfl)) (res _ _ _),var _ (all _ rfl),rfl,?_,?_⟩,?_⟩⟩
  · intro p hp
    rcases hp with ⟨h,k⟩ | h
    · exact ⟨h,Or.inr (List.mem_append.mp k)⟩
    · exact h.elim
  · intro b off hp
    have here:MemPlace.cell b off ∈ before:=by rw [parts];simpa using hp
    rw [calm.frozen (old _ here)]
    exact unfrozen b off here
  · intro ha
    have:=lone ha
    rw [parts] at this
    simpa using this
  · intro p hp _
    rw [parts]
    simpa using hp
end Go.Proofs.YtbpehbeakhocnaaGreatDoor
