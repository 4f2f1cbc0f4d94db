import Derived.Test.YtjhedldplmhmjaaGreatDoorETe05
set_option linter.unusedVariables false
set_option linter.unusedSimpArgs false
set_option linter.unnecessarySimpa false
namespace Go.Proofs.YtjhedldplmhmjaaGreatDoor
open Go Go.RowKit
structure Trn (G:List Nat)(w w':World):Prop where
 os:w'.os=w.os
 tape:w'.tape=w.tape
 output:w'.output=w.output
 size:w.heap.size≤w'.heap.size
 block:∀ k,k<w.heap.size→k ∉ G→w'.heap[k]?=w.heap[k]?
section
variable {w w' w2:World} {G H:List Nat}
theorem Trn.refl (w:World):Trn G w w:=⟨rfl,rfl,rfl,Nat.le_refl _,fun _ _ _=>rfl⟩
theorem Trn.trans (h:Trn G w w')(b:Trn G w' w2):Trn G w w2:=⟨b.os.trans h.os,b.tape.trans h.tape,b.output.trans h.output,Nat.le_trans h.size b.size,fun k hk hne=>(b.block k (Nat.lt_of_lt_of_le hk h.size) hne).trans (h.block k hk hne)⟩
theorem Trn.below (h:Trn [] w w'):Below w.heap.size w w':=⟨h.os,h.tape,h.output,h.size,fun k hk=>h.block k hk (by simp)⟩
theorem Trn.row (h:Trn G w w'){g:Nat}{o:Obj}(hg:w.heap[g]?=some o)(n:g ∉ G):w'.heap[g]?=some o:=(h.block g (Array.getElem?_eq_some_iff.1 hg).1 n).trans hg
end
section
variable {W w w':World} {n0:Nat} {B:List EB} {A:List EA} {fl:Nat→Bool} {u:Nat→Value} {a:Act}
theorem SX.turnB (h:SX W n0 B A fl (slotOf a) w)(i g:Nat)(t:TypeId)(old new:Array Value)(B1 B2:List EB){dst:Option Nat}{v:Value}(hB:B=B1 ++ ⟨g,t,old,some i,new⟩ :: B2)(hW:W.heap.size≤g)
  (hc:chkX (B1 ++ B2) A i dst=true) (hne:AllL (fun e=>e.g≠g) (B1 ++ B2)) (row:w'.heap[g]?=some (.cells new t (0,0))) (bt:Trn [g] w w'):SX W n0 B A (upd fl i) (slotOf (a.put dst v)) w':=by
 unfold chkX at hc
 rw [Bool.and_eq_true,List.all_eq_true,List.all_eq_true] at hc
 obtain ⟨h1,h2,h3,h4,h5⟩:=h
 have hg:g<n0:=(allL.1 h3 ⟨g,t,old,some i,new⟩ (by rw [hB];simp)).1
 have key:∀ e∈A,upd fl i e.i=true→fl e.i=true∧slotOf (a.put dst v) e.d=slotOf a e.d:=fun e he hf=>by
  have c:=hc.2 e he
  rw [Bool.and_eq_true,Bool.and_eq_true] at c
  have hi:e.i≠i:=by
   intro ee;have:=c.2.1;rw [ee] at this;simp at this
  refine ⟨?_,slot_put c.2.2⟩
  unfold upd at hf
  rwa [if_neg hi] at hf
 refine ⟨⟨bt.os.trans h1.os,bt.tape.trans h1.tape,bt.output.trans h1.output,Nat.le_trans h1.size bt.size,fun k hk=>(bt.block k (Nat.lt_of_lt_of_le hk h1.size) (by simp;omega)).trans (h1.block k hk)⟩,Nat.le_trans h2 bt.size,allL.2 fun e he=>?_,allL.2 fun e he hf=>?_,
  h5.imp_of_mem (fun {e e'} he he' r hf hf'=>by rw [(key e he hf).2,(key e' he' hf').2];exact r (key e he hf).1 (key e' he' hf').1)⟩
 ·obtain ⟨p,q⟩:=allL.1 h3 e he
  rw [hB] at he
  simp only [List.mem_append,List.mem_cons] at he
  have ot:e∈B1 ++ B2→_:=fun hh=>(show e.g<n0∧w'.heap[e.g]?=some (.cells (curOf (upd fl i) e.k e.old e.new) e.t (0,0)) from by
   rw [kNot_ne (hc.1 e hh)]
   exact ⟨p,bt.row q (by have:=allL.1 hne e hh;simpa using this)⟩)
  rcases he with he | rfl | he
  ·exact ot (by simp [he])
  ·refine ⟨p,?_⟩
   show w'.heap[g]?=some (.cells (bif upd fl i i then new else old) t (0,0))
   unfold upd
   rw [if_pos rfl]
   exact row
  ·exact ot (by simp [he])
 ·have c:=hc.2 e he
  rw [Bool.and_eq_true,Bool.and_eq_true] at c
  obtain ⟨kf,ks⟩:=key e he hf
  obtain ⟨g',hu,hn,q⟩:=allL.1 h4 e he kf
  rw [kNot_ne c.1,ks]
  exact ⟨g',hu,hn,bt.row q (by simp;omega)⟩
end
section
variable {P:Program} {ops:Array Oper} {Q:Exit→Act→World→Prop} {n:Nat} {a0:Act} {w0 W:World} {B:List EB} {A:List EA} {l:List (Option Value)} {i:Nat} {o:Oper} {fl:Nat→Bool} {a:Act} {w w':World}
end
section
variable {P:Program} {ops:Array Oper} {Q:Exit→Act→World→Prop} {n:Nat} {a0:Act} {w0:World} {S:(Nat→Bool)→(Nat→Value)→World→Prop} {K D:List Nat} {l:List (Option Value)}
def Loc (K D:List Nat)(S:(Nat→Bool)→(Nat→Value)→World→Prop):Prop:=∀ (fl fl':Nat→Bool) (u u':Nat→Value) (w:World),(∀ k∈K,fl' k=fl k)→(∀ d∈D,u' d=u d)→S fl u w→S fl' u' w
structure Cz (ops:Array Oper)(n:Nat)(a0:Act)(S:(Nat→Bool)→(Nat→Value)→World→Prop)(K D:List Nat)(l:List (Option Value))(i:Nat)(o:Oper)(fl:Nat→Bool)(a:Act)(w:World):Prop where
 loc:Loc K D S
 ho:ops[i]?=some o
 S:S fl (slotOf a) w
 fi:fl i=false
 clo:∀ (k:Nat) (ok:Oper),ops[k]?=some ok→fl k=true→∀ e∈ok.after,Region.binds .any e=true→fl e.on=true
 sz:a.tmps.size=n
 rest:∀ j,(∀ (i:Nat) (o:Oper),ops[i]?=some o→o.dst≠some j)→a.tmps.getD j undef=a0.tmps.getD j undef
 done:∀ (p:Nat) (e:_),o.after[p]?=some e→Region.binds .any e=true→fl e.on=true∧∀ (o':Oper),ops[e.on]?=some o'→TabO l e.on (own o' a)
 und:∀ (k:Nat) (ok:Oper) (d:Nat),ops[k]?=some ok→ok.dst=some d→fl k=false→a.tmps.getD d undef=a0.tmps.getD d undef
def PostZ (S:(Nat→Bool)→(Nat→Value)→World→Prop)(l:List (Option Value))(i:Nat)(o:Oper)(fl:Nat→Bool)(a:Act):Act→World→Prop:=fun a' w'=>∃ v,a'=a.put o.dst v∧TabO l i (own o a')∧S (upd fl i) (slotOf a') w'
structure BehZ (ops:Array Oper)(n:Nat)(a0:Act)(S:(Nat→Bool)→(Nat→Value)→World→Prop)(l:List (Option Value))(a:Act)(w:World):Prop where
 d:a.defers=[]
 z:a.tmps.size=n
 r:∀ j,chkNot ops j=true→∀ {x:Value},a0.tmps.getD j undef=x→a.tmps.getD j undef=x
 v:∀ i:Nat,∀ {o:Oper} {d:Nat} {x:Value},ops[i]?=some o→o.dst=some d→l[i]?=some (some x)→a.tmps.getD d undef=x
 s:∃ fl:Nat→Bool,(∀ i,i<ops.size→fl i=true)∧S fl (slotOf a) w
theorem BehZ.q {a:Act}{w:World}(f:BehZ ops n a0 S l a w)(j:Nat){x:Value}(s:a0.tmps.getD j undef=x)(h:chkNot ops j=true:=by kernel_rfl):a.tmps.getD j undef=x:=f.r j h s
end
section
variable {P:Program} {ops:Array Oper} {Q:Exit→Act→World→Prop} {n:Nat} {a0:Act} {S:(Nat→Bool)→(Nat→Value)→World→Prop} {K D:List Nat} {l:List (Option Value)} {i:Nat} {o:Oper} {fl:Nat→Bool} {a:Act} {w w':World}
theorem Cz.u (c:Cz ops n a0 S K D l i o fl a w)(p:Nat){d:Nat}{x:Value}(h:look ops l o p=some (d,x)):a.tmps.getD d undef=x:=by
 unfold look at h
 cases h1:o.after[p]? with
 | none=>rw [h1] at h;cases h
 | some e=>
  rw [h1] at h
  simp only at h
  cases h2:Region.binds .any e with
  | false=>rw [h2] at h;cases h
  | true=>
   rw [h2,cond_true] at h
   cases h3:ops[e.on]? with
   | none=>rw [h3] at h;simp at h
   | some o'=>
    cases h5:l[e.on]? with
    | none=>rw [h3,h5] at h;simp at h
    | some y=>
     cases y with
     | none=>rw [h3,h5] at h;simp at h
     | some x'=>
      rw [h3,h5] at h
      simp only at h
      cases h4:o'.dst with
      | none=>rw [h4] at h;simp at h
      | some d'=>
       rw [h4] at h
       simp only [Option.some.injEq,Prod.mk.injEq] at h
       obtain ⟨rfl,rfl⟩:=h
       have:=(c.done p e h1 h2).2 o' h3
       unfold TabO at this
       rw [h5] at this
       unfold own at this
       rw [h4] at this
       exact this
theorem Cz.rq (c:Cz ops n a0 S K D l i o fl a w)(d:Nat){x}(s:a0.tmps.getD d undef=x)(h:chkNot ops d=true:=by kernel_rfl):a.tmps.getD d undef=x:=(c.rest d (not_of h)).trans s
theorem Cz.un (c:Cz ops n a0 S K D l i o fl a w)(k:Nat){ok d x}(h1:ops[k]?=some ok)(h2:ok.dst=some d)(h3:isLater ops k i=true)(s:a0.tmps.getD d undef=x):a.tmps.getD d undef=x:=(c.und k ok d h1 h2 (not_yet c.clo c.fi h3)).trans s
theorem Cz.later (c:Cz ops n a0 S K D l i o fl a w)(k:Nat)(h3:isLater ops k i=true):fl k=false:=not_yet c.clo c.fi h3
def okZ (o:Oper)(n i:Nat)(K D:List Nat):Bool:=match o.guard,o.dst with
 | none,some d=>Nat.blt d n && (K.all (fun k=>!Nat.beq k i) && D.all (fun k=>!Nat.beq k d))
 | _,_=>false
theorem Cz.keep (c:Cz ops n a0 S K D l i o fl a w){d:Nat}{v:Value}(hk:(K.all (fun k=>!Nat.beq k i) && D.all (fun k=>!Nat.beq k d))=true):S (upd fl i) (slotOf (a.put (some d) v)) w:=by
 rw [Bool.and_eq_true,List.all_eq_true,List.all_eq_true] at hk
 refine c.loc fl _ _ _ w (fun k hk'=>?_) (fun j hj=>?_) c.S
 ·have:=hk.1 k hk'
  unfold upd
  rw [if_neg (by intro e;subst e;simp at this)]
 ·have:=hk.2 j hj
  refine slot_put ?_
  show (!Nat.beq d j)=true
  cases hb:Nat.beq d j with
  | false=>rfl
  | true=>
   exfalso
   have:=Nat.eq_of_beq_eq_true hb
   subst this
   simp at *
theorem Cz.v (c:Cz ops n a0 S K D l i o fl a w){v:Value}(hr:(execOp a.eval o).run P w=.ok (.value v) w)(hk:okZ o n i K D=true)(ht:TabO l i v):wpOp P ops Q i (PostZ S l i o fl a) a w:=by
 unfold okZ at hk
 cases hg:o.guard with
 | some g=>rw [hg] at hk;cases hk
 | none=>
  cases hd:o.dst with
  | none=>rw [hg,hd] at hk;cases hk
  | some d=>
   rw [hg,hd] at hk
   simp only at hk
   rw [Bool.and_eq_true] at hk
   exact wpOp_valw c.ho (wn hg) hr ⟨v,rfl,by rw [own_some hd c.sz hk.1];exact ht,by rw [hd];exact c.keep hk.2⟩
theorem Cz.c (c:Cz ops n a0 S K D l i o fl a w){f:FuncId}{xs:Array Operand}{ts:Array TypeId}{fn:Func}{args:Array Value}(ho:o.op=.call ⟨.value (.func f),xs,ts⟩)(ha:xs.map a.eval=args)(hf:P.funcs[f]?=some fn)
  (hn:okF fn=true) {v:Value} (K':Calls P f args w fun e w'=>e=.returned v∧w=w') (hk:okZ o n i K D=true) (ht:TabO l i v):wpOp P ops Q i (PostZ S l i o fl a) a w:=by
 unfold okZ at hk
 unfold okF at hn
 simp only [Bool.and_eq_true,Bool.not_eq_true'] at hn
 cases hg:o.guard with
 | some g=>rw [hg] at hk;cases hk
 | none=>
  cases hd:o.dst with
  | none=>rw [hg,hd] at hk;cases hk
  | some d=>
   rw [hg,hd] at hk
   simp only at hk
   rw [Bool.and_eq_true] at hk
   refine wpOp_callw c.ho (wn hg) (exec_call ho rfl rfl ha hf hn.1 hn.2) (K'.mono ?_)
   rintro e w' ⟨rfl,rfl⟩
   exact ⟨v,rfl,_,rfl,by rw [own_some hd c.sz hk.1];exact ht,by rw [hd];exact c.keep hk.2⟩
end
def S1 (k g:Nat)(w0:World)(new:Array Value)(T:TypeId)(fl:Nat→Bool)(u:Nat→Value)(w:World):Prop:=(fl k=false∧Below w0.heap.size w0 w)∨(fl k=true∧Trn [g] w0 w∧w.heap[g]?=some (.cells new T (0,0)))
section
variable {k g:Nat} {w0 w w':World} {new:Array Value} {T:TypeId} {fl:Nat→Bool} {u u':Nat→Value}
theorem S1.loc:Loc [k] [] (S1 k g w0 new T):=by
 intro fl fl' u u' w hK hD h
 unfold S1 at *
 rw [hK k (by simp)]
 exact h
theorem S1.start (b:Below w0.heap.size w0 w)(h:fl k=false):S1 k g w0 new T fl u w:=.inl ⟨h,b⟩
end
end Go.Proofs.YtjhedldplmhmjaaGreatDoor
