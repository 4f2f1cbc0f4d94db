import Derived.Orders
import Derived.Laws.StructEq
import Derived.WalkKit
namespace Go.Proofs.Ytcnneeimkcnjfaa
open Go
set_option linter.unusedVariables false
section
variable {P:Program} {ops:Array Oper} {Q:Exit → Act → World → Prop} {md:Region.Mode}
def unl (l:Array Bool):Nat → Nat
  | 0=>0
  | n + 1=>unl l n + if l.getD n true then 0 else 1
theorem unl_zero {l:Array Bool}:∀ {n:Nat},unl l n=0 → ∀ i,i < n → l.getD i true=true
  | n + 1,h,i,hi=>by
    unfold unl at h
    by_cases e:i=n
    · subst e
      cases hh:l.getD i true
      · simp [hh] at h
      · rfl
    · exact unl_zero (n:=n) (by omega) i (by omega)
theorem getD_set (l:Array Bool) (i j:Nat) (hi:i < l.size) (d:Bool):(l.setIfInBounds i true).getD j d=if j=i then true else l.getD j d:=by
  simp only [Array.getD_eq_getD_getElem?,Array.getElem?_setIfInBounds]
  by_cases e:i=j
  · subst e;simp [hi]
  · simp [e,Ne.symm e]
theorem unl_set {l:Array Bool} {i:Nat} (hi:i < l.size) (hf:l.getD i true=false):∀ n,unl (l.setIfInBounds i true) n + (if i < n then 1 else 0)=unl l n
  | 0=>by simp [unl]
  | n + 1=>by
    have ih:=unl_set hi hf n
    unfold unl
    rw [getD_set l i n hi]
    by_cases e:n=i
    · subst e
      rw [hf]
      simp at ih ⊢
      omega
    · rw [if_neg e]
      have:(i < n + 1) ↔ (i < n):=by omega
      simp only [this]
      omega
theorem wpAny_inv (I:Array Bool → Act → World → Prop)
    (hback:∀ (i:Nat) (o:Oper),ops[i]?=some o → ∀ e ∈ o.after,Region.binds md e=true → e.on < i)
    (hend:∀ (l:Array Bool) (a:Act) (w:World),I l a w → (∀ i,i < ops.size → l.getD i true=true) → Q .normal a w)
    (hstep:∀ (l:Array Bool) (a:Act) (w:World) (i:Nat) (o:Oper),l.size=ops.size → I l a w → ops[i]?=some o → l.getD i true=false → (∀ e ∈ o.after,Region.binds md e=true → l.getD e.on false=true) → wpOp P ops Q i (I (l.setIfInBounds i true)) a w):
    ∀ fuel l a w,l.size=ops.size → I l a w → unl l ops.size ≤ fuel → wpAny P md ops Q fuel l a w:=by
  have hready:∀ (l:Array Bool) (i:Nat),i ∈ Region.ready md ops l ↔ i < ops.size ∧ l.getD i true=false ∧ ∃ o:Oper,ops[i]?=some o ∧ ∀ e ∈ o.after,Region.binds md e=true → l.getD e.on false=true:=by
    intro l i
    unfold Region.ready
    rw [List.mem_filter,List.mem_range]
    constructor
    · rintro ⟨hi,h⟩
      simp only [Bool.and_eq_true,Bool.not_eq_true'] at h
      refine ⟨hi,h.1,ops[i],Array.getElem?_eq_getElem hi,fun e he hb=>?_⟩
      have h2:=h.2
      rw [Array.getElem?_eq_getElem hi] at h2
      simp only [Option.map_some,Option.getD_some] at h2
      rw [Array.all_eq_true_iff_forall_mem] at h2
      have:=h2 e he
      simpa [hb] using this
    · rintro ⟨hi,hf,o,ho,ha⟩
      refine ⟨hi,?_⟩
      simp only [Bool.and_eq_true,Bool.not_eq_true']
      refine ⟨hf,?_⟩
      rw [ho]
      simp only [Option.map_some,Option.getD_some]
      rw [Array.all_eq_true_iff_forall_mem]
      intro e he
      cases hb:Region.binds md e
      · rfl
      · simpa [hb] using ha e he hb
  have hnone:∀ l:Array Bool,Region.ready md ops l=[] → ∀ i,i < ops.size → l.getD i true=true:=by
    intro l hr i
    induction i using Nat.strongRecOn with
    | ind i ih=>
      intro hi
      cases hf:l.getD i true
      · exfalso
        have:i ∈ Region.ready md ops l:=(hready l i).2 ⟨hi,hf,ops[i],Array.getElem?_eq_getElem hi,fun e he hb=>by
          have hlt:=hback i _ (Array.getElem?_eq_getElem hi) e he hb
          have:=ih e.on hlt (by omega)
          by_cases hs:e.on < l.size
          · simp only [Array.getD_eq_getD_getElem?,Array.getElem?_eq_getElem hs,Option.getD_some] at this ⊢
            exact this
          · exfalso
            have hi':l.getD i true=true:=by
              simp only [Array.getD_eq_getD_getElem?]
              rw [Array.getElem?_eq_none (by omega)];rfl
            rw [hi'] at hf;cases hf⟩
        rw [hr] at this;cases this
      · rfl
  intro fuel
  induction fuel with
  | zero=>
    intro l a w hs hI hu
    have hz:=unl_zero (l:=l) (n:=ops.size) (by omega)
    have hr:Region.ready md ops l=[]:=by
      apply List.eq_nil_iff_forall_not_mem.2
      intro i hi
      obtain ⟨h1,h2,_⟩:=(hready l i).1 hi
      rw [hz i h1] at h2;cases h2
    exact ⟨hr,hend l a w hI hz⟩
  | succ fuel ih=>
    intro l a w hs hI hu
    refine ⟨fun hr=>hend l a w hI (hnone l hr),fun i hi=>?_⟩
    obtain ⟨h1,h2,o,ho,ha⟩:=(hready l i).1 hi
    refine wpOp_mono (fun a' w' hI'=>ih _ a' w' (by simpa using hs) hI' ?_) (hstep l a w i o hs hI ho h2 ha)
    have:=unl_set (l:=l) (i:=i) (by omega) h2 ops.size
    rw [if_pos h1] at this
    omega
def own (o:Oper) (a:Act):Value:=match o.dst with | some d=>a.tmps.getD d undef | none=>undef
theorem put_getD (a:Act) (d0:Nat) (v:Value) (h:d0 < a.tmps.size) (j:Nat):(a.put (some d0) v).tmps.getD j undef=if j=d0 then v else a.tmps.getD j undef:=by
  show (a.tmps.setIfInBounds d0 v).getD j undef=_
  simp only [Array.getD_eq_getD_getElem?,Array.getElem?_setIfInBounds]
  by_cases e:d0=j
  · subst e;simp [h]
  · simp [e,Ne.symm e]
def chkBack (ops:Array Oper):Bool:=(List.range ops.size).all fun i=>match ops[i]? with | some o=>o.after.all fun e=>!Region.binds .any e || decide (e.on < i) | none=>true
def chkDst (ops:Array Oper):Bool:=(List.range ops.size).all fun i=>(List.range ops.size).all fun j=>match ops[i]?,ops[j]? with
  | some o,some o'=>(match o.dst,o'.dst with | some d,some d'=>d != d' || i == j | _,_=>true)
  | _,_=>true
def chkIn (ops:Array Oper) (n:Nat):Bool:=(List.range ops.size).all fun i=>match ops[i]? with | some o=>(match o.dst with | some d=>decide (d < n) | none=>true) | none=>true
theorem of_range {ops:Array Oper} {f:Nat → Bool} (h:(List.range ops.size).all f=true) {i:Nat} {o:Oper} (ho:ops[i]?=some o):f i=true:=
  List.all_eq_true.1 h i (List.mem_range.2 (Array.getElem?_eq_some_iff.1 ho).1)
theorem back_of (h:chkBack ops=true):∀ (i:Nat) (o:Oper),ops[i]?=some o → ∀ e ∈ o.after,Region.binds .any e=true → e.on < i:=fun i o ho e he hb=>by
  have:=of_range h ho
  rw [ho] at this
  simp only [Array.all_eq_true_iff_forall_mem] at this
  simpa [hb] using this e he
theorem dst_of (h:chkDst ops=true):∀ (i j:Nat) (o o':Oper) (d:Nat),ops[i]?=some o → ops[j]?=some o' → o.dst=some d → o'.dst=some d → i=j:=fun i j o o' d ho ho' hd hd'=>by
  have:=of_range (of_range h ho) ho'
  rw [ho,ho'] at this
  simp only [hd,hd'] at this
  simpa using this
theorem in_of {n:Nat} (h:chkIn ops n=true):∀ (i:Nat) (o:Oper) (d:Nat),ops[i]?=some o → o.dst=some d → d < n:=fun i o d ho hd=>by
  have:=of_range h ho
  rw [ho] at this
  simpa [hd] using this
variable {a:Act} {w:World} {K:Act → World → Prop}
theorem exec_eql {ρ:Operand → Value} {o:Oper} {t z:TypeId} {x y:Operand} {xs ys:Array Value} {r:Bool} (ho:o.op=.binOp .eql t x y z) (hx:ρ x=.agg xs) (hy:ρ y=.agg ys) (hm:P.eqGuardType P.depth t=false)
    (he:(Op.equalIn 10000 t (.agg xs) (.agg ys)).run P w=.ok r w):(execOp ρ o).run P w=.ok (.value (.bool r)) w:=by
  unfold execOp
  simp only [ho,hx,hy,Sem.run_bind,run_eqGuard_agg w .eql t x y xs ys hm,run_eql_struct,he,Result.andThen_ok,Sem.run_pure]
theorem exec_neq {ρ:Operand → Value} {o:Oper} {t z:TypeId} {x y:Operand} {xs ys:Array Value} {r:Bool} (ho:o.op=.binOp .neq t x y z) (hx:ρ x=.agg xs) (hy:ρ y=.agg ys) (hm:P.eqGuardType P.depth t=false)
    (he:(Op.equalIn 10000 t (.agg xs) (.agg ys)).run P w=.ok r w):(execOp ρ o).run P w=.ok (.value (.bool (!r))) w:=by
  unfold execOp
  simp only [ho,hx,hy,Sem.run_bind,run_eqGuard_agg w .neq t x y xs ys hm,run_neq_struct,he,Result.andThen_ok,Sem.run_pure]
theorem wpOp_no {i:Nat} {o:Oper} (ho:ops[i]?=some o) (hw:Region.wanted o (yielded ops a.tmps)=false) (h:K (a.put o.dst undef) w):wpOp P ops Q i K a w:=by
  unfold wpOp
  rw [ho]
  simp only [hw]
  exact h
theorem wpOp_valw {i:Nat} {o:Oper} {v:Value} {w':World} (ho:ops[i]?=some o) (hw:Region.wanted o (yielded ops a.tmps)=true) (hr:(execOp a.eval o).run P w=.ok (.value v) w') (h:K (a.put o.dst v) w'):wpOp P ops Q i K a w:=by
  unfold wpOp
  rw [ho]
  simp only [hw,if_true]
  left
  unfold Oper.wp
  rw [hr]
  exact h
theorem wpOp_skpw {i:Nat} {o:Oper} {w':World} (ho:ops[i]?=some o) (hw:Region.wanted o (yielded ops a.tmps)=true) (hr:(execOp a.eval o).run P w=.ok .skip w') (h:K (a.put o.dst undef) w'):wpOp P ops Q i K a w:=by
  unfold wpOp
  rw [ho]
  simp only [hw,if_true]
  left
  unfold Oper.wp
  rw [hr]
  exact h
theorem wpOp_callw {i:Nat} {o:Oper} {f:FuncId} {args:Array Value} (ho:ops[i]?=some o) (hw:Region.wanted o (yielded ops a.tmps)=true) (hr:(execOp a.eval o).run P w=.ok (.enter f args) w)
    (h:Calls P f args w fun e w''=>∃ v,e=.returned v ∧ K (a.put o.dst v) w''):wpOp P ops Q i K a w:=by
  unfold wpOp
  rw [ho]
  simp only [hw,if_true]
  left
  unfold Oper.wp
  rw [hr]
  refine h.mono ?_
  rintro e w'' ⟨v,rfl,hk⟩
  exact hk
theorem wanted_of {o oj:Oper} {j d:Nat} {want b:Bool} (hg:o.guard=some (j,want)) (hj:ops[j]?=some oj) (hd:oj.dst=some d) (hlt:d < a.tmps.size) (h:a.tmps.getD d undef=.bool b):Region.wanted o (yielded ops a.tmps)=(b == want):=by
  have e:a.tmps[d]?=some (.bool b):=by
    rw [Array.getElem?_eq_getElem hlt]
    simp only [Array.getD_eq_getD_getElem?,Array.getElem?_eq_getElem hlt,Option.getD_some] at h
    rw [h]
  have y:yielded ops a.tmps j=some b:=by
    unfold yielded
    rw [hj]
    simp only [Option.bind_some,hd,e]
  unfold Region.wanted
  rw [hg]
  simp only [y]
  cases b <;> cases want <;> rfl
theorem wanted_no {o oj:Oper} {want:Bool} (j d:Nat) (b:Bool) (h:a.tmps.getD d undef=.bool b) (hlt:d < a.tmps.size) (hg:o.guard=some (j,want)) (hj:ops[j]?=some oj) (hd:oj.dst=some d) (hb:(b == want)=false):Region.wanted o (yielded ops a.tmps)=false:=
  (wanted_of hg hj hd hlt h).trans hb
theorem wanted_yes {o oj:Oper} {want:Bool} (j d:Nat) (b:Bool) (h:a.tmps.getD d undef=.bool b) (hlt:d < a.tmps.size) (hg:o.guard=some (j,want)) (hj:ops[j]?=some oj) (hd:oj.dst=some d) (hb:(b == want)=true):Region.wanted o (yielded ops a.tmps)=true:=
  (wanted_of hg hj hd hlt h).trans hb
def chkNot (ops:Array Oper) (j:Nat):Bool:=(List.range ops.size).all fun i=>match ops[i]? with | some o=>(match o.dst with | some d=>d != j | none=>true) | none=>true
theorem not_of {j:Nat} (h:chkNot ops j=true):∀ (i:Nat) (o:Oper),ops[i]?=some o → o.dst ≠ some j:=fun i o ho hd=>by
  have:=of_range h ho
  rw [ho] at this
  simp [hd] at this
theorem own_put {o:Oper} {d:Nat} {v:Value} (hd:o.dst=some d) (hlt:d < a.tmps.size):own o (a.put o.dst v)=v:=by
  unfold own
  rw [hd]
  show (a.put (some d) v).tmps.getD d undef=v
  rw [put_getD a d v hlt,if_pos rfl]
end
end Go.Proofs.Ytcnneeimkcnjfaa
