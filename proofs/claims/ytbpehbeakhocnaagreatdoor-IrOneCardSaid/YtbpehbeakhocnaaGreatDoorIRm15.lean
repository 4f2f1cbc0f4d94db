import Derived.Test.YtbpehbeakhocnaaGreatDoorIRm06
set_option linter.unusedVariables false
set_option linter.unusedSimpArgs false
set_option linter.unnecessarySimpa false
namespace Go.Proofs.YtbpehbeakhocnaaGreatDoor
open Go Go.RowKit
theorem parts7 {ρ:Operand → Value} {i0 i1 i2 i3 i4 i5 i6:Nat} {x0 x1 x2 x3 x4 x5 x6:Operand} {v0 v1 v2 v3 v4 v5 v6:Value} (h0:ρ x0=v0) (h1:ρ x1=v1) (h2:ρ x2=v2) (h3:ρ x3=v3) (h4:ρ x4=v4) (h5:ρ x5=v5) (h6:ρ x6=v6):(#[(i0,x0),(i1,x1),(i2,x2),(i3,x3),(i4,x4),(i5,x5),(i6,x6)]:Array (Nat × Operand)).map (fun p=>(p.1,ρ p.2))=#[(i0,v0),(i1,v1),(i2,v2),(i3,v3),(i4,v4),(i5,v5),(i6,v6)]:=by simp [h0,h1,h2,h3,h4,h5,h6]
def bare (w:World):World:={ w with heap:=#[] }
theorem bare_below (w:World):Below (bare w).heap.size (bare w) w:=⟨rfl,rfl,rfl,Nat.zero_le _,fun k hk=>absurd hk (Nat.not_lt_zero k)⟩
structure Trn (G:List Nat) (w w':World):Prop where
  os:w'.os=w.os
  tape:w'.tape=w.tape
  output:w'.output=w.output
  size:w.heap.size ≤ w'.heap.size
  block:∀ k,k < w.heap.size → k ∉ G → w'.heap[k]?=w.heap[k]?
section
variable {w w' w2:World} {G H:List Nat}
theorem Trn.refl (w:World):Trn G w w:=⟨rfl,rfl,rfl,Nat.le_refl _,fun _ _ _=>rfl⟩
theorem Trn.trans (h:Trn G w w') (b:Trn G w' w2):Trn G w w2:=⟨b.os.trans h.os,b.tape.trans h.tape,b.output.trans h.output,Nat.le_trans h.size b.size,fun k hk hne=>(b.block k (Nat.lt_of_lt_of_le hk h.size) hne).trans (h.block k hk hne)⟩
theorem Trn.of_below (b:Below w.heap.size w w'):Trn G w w':=⟨b.os,b.tape,b.output,b.size,fun k hk _=>b.block k hk⟩
theorem Trn.weak (h:Trn G w w') (s:∀ k,k ∈ G → k ∈ H):Trn H w w':=⟨h.os,h.tape,h.output,h.size,fun k hk hn=>h.block k hk (fun hg=>hn (s k hg))⟩
theorem Trn.below (h:Trn [] w w'):Below w.heap.size w w':=⟨h.os,h.tape,h.output,h.size,fun k hk=>h.block k hk (by simp)⟩
theorem bare_of (h:Trn G w w'):Below (bare w).heap.size (bare w) w':=⟨h.os,h.tape,h.output,Nat.zero_le _,fun k hk=>absurd hk (Nat.not_lt_zero k)⟩
theorem Trn.row (h:Trn G w w') {g:Nat} {o:Obj} (hg:w.heap[g]?=some o) (n:g ∉ G):w'.heap[g]?=some o:=(h.block g (Array.getElem?_eq_some_iff.1 hg).1 n).trans hg
theorem brow (b:Below w.heap.size w w') {g:Nat} {o:Obj} (hg:w.heap[g]?=some o):w'.heap[g]?=some o:=(b.block g (Array.getElem?_eq_some_iff.1 hg).1).trans hg
end
section
variable {W w w':World} {n0:Nat} {B:List EB} {A:List EA} {fl:Nat → Bool} {u:Nat → Value} {a:Act}
theorem SX.turnB (h:SX W n0 B A fl (slotOf a) w) (i g:Nat) (t:TypeId) (old new:Array Value) (B1 B2:List EB) {dst:Option Nat} {v:Value} (hB:B=B1 ++ ⟨g,t,old,some i,new⟩ :: B2) (hW:W.heap.size ≤ g)
    (hc:chkX (B1 ++ B2) A i dst=true) (hne:AllL (fun e=>e.g ≠ g) (B1 ++ B2)) (row:w'.heap[g]?=some (.cells new t (0,0))) (bt:Trn [g] w w'):SX W n0 B A (upd fl i) (slotOf (a.put dst v)) w':=by
  unfold chkX at hc
  rw [Bool.and_eq_true,List.all_eq_true,List.all_eq_true] at hc
  obtain ⟨h1,h2,h3,h4,h5⟩:=h
  have hg:g < n0:=(allL.1 h3 ⟨g,t,old,some i,new⟩ (by rw [hB];simp)).1
  have key:∀ e ∈ A,upd fl i e.i=true → fl e.i=true ∧ slotOf (a.put dst v) e.d=slotOf a e.d:=fun e he hf=>by
    have c:=hc.2 e he
    rw [Bool.and_eq_true,Bool.and_eq_true] at c
    have hi:e.i ≠ i:=by
      intro ee;have:=c.2.1;rw [ee] at this;simp at this
    refine ⟨?_,slot_put c.2.2⟩
    unfold upd at hf
    rwa [if_neg hi] at hf
  refine ⟨⟨bt.os.trans h1.os,bt.tape.trans h1.tape,bt.output.trans h1.output,Nat.le_trans h1.size bt.size,fun k hk=>(bt.block k (Nat.lt_of_lt_of_le hk h1.size) (by simp;omega)).trans (h1.block k hk)⟩,Nat.le_trans h2 bt.size,allL.2 fun e he=>?_,allL.2 fun e he hf=>?_,
    h5.imp_of_mem (fun {e e'} he he' r hf hf'=>by rw [(key e he hf).2,(key e' he' hf').2];exact r (key e he hf).1 (key e' he' hf').1)⟩
  · obtain ⟨p,q⟩:=allL.1 h3 e he
    rw [hB] at he
    simp only [List.mem_append,List.mem_cons] at he
    have ot:e ∈ B1 ++ B2 → _:=fun hh=>(show e.g < n0 ∧ w'.heap[e.g]?=some (.cells (curOf (upd fl i) e.k e.old e.new) e.t (0,0)) from by
      rw [kNot_ne (hc.1 e hh)]
      exact ⟨p,bt.row q (by have:=allL.1 hne e hh;simpa using this)⟩)
    rcases he with he | rfl | he
    · exact ot (by simp [he])
    · refine ⟨p,?_⟩
      show w'.heap[g]?=some (.cells (bif upd fl i i then new else old) t (0,0))
      unfold upd
      rw [if_pos rfl]
      exact row
    · exact ot (by simp [he])
  · have c:=hc.2 e he
    rw [Bool.and_eq_true,Bool.and_eq_true] at c
    obtain ⟨kf,ks⟩:=key e he hf
    obtain ⟨g',hu,hn,q⟩:=allL.1 h4 e he kf
    rw [kNot_ne c.1,ks]
    exact ⟨g',hu,hn,bt.row q (by simp;omega)⟩
end
section
variable {P:Program} {ops:Array Oper} {Q:Exit → Act → World → Prop} {n:Nat} {a0:Act} {w0 W:World} {B:List EB} {A:List EA} {l:List (Option Value)} {i:Nat} {o:Oper} {fl:Nat → Bool} {a:Act} {w w':World}
theorem Cx.callT (c:Cx ops n a0 w0 W B A l i o fl a w) (hw:Region.wanted o (yielded ops a.tmps)=true) {cl:Call} {f:FuncId} {fn:Func} {args:Array Value} (ho:o.op=.call cl) (hc:cl.callee=.value (.func f)) (ha:cl.args.map a.eval=args) (hf:P.funcs[f]?=some fn)
    (hn:(fn.name == "runtime.NumGoroutine")=false) (hb:fn.body.isNone=false) (j:Nat) {g:Nat} {t:TypeId} {old cells:Array Value} (hj:B[j]?=some ⟨g,t,old,some i,cells⟩) (K:w.heap[g]?=some (.cells old t (0,0)) → Calls P f args w fun e w'=>(∃ v,e=.returned v ∧ TabO l i v) ∧ w'.heap[g]?=some (.cells cells t (0,0)) ∧ Trn [g] w w')
    {d:Nat} (hd:o.dst=some d) (hlt:Nat.blt d n=true) (hg:W.heap.size ≤ g) (hk:chkX (B.eraseIdx j) A i (some d)=true) (hne:AllL (fun e=>e.g ≠ g) (B.eraseIdx j)):wpOp P ops Q i (Post w0 W B A l i o fl a) a w:=by
  refine wpOp_callw c.ho hw (exec_call ho hc rfl ha hf hn hb) ((K (c.ri j hj)).mono ?_)
  rintro e w' ⟨⟨v,rfl,ht⟩,row,bt⟩
  rw [List.eraseIdx_eq_take_drop_succ] at hk hne
  refine ⟨_,rfl,_,rfl,by rw [own_some hd c.sz hlt];exact ht,?_,?_⟩
  · rw [hd];exact c.S.1.turnB i g t old cells _ _ (split_at hj) hg hk hne row bt
  · intro k hk1 hn
    refine (bt.block k (Nat.lt_of_lt_of_le hk1 c.S.1.2.1) ?_).trans (c.S.2 k hk1 hn)
    intro e
    simp at e
    exact hn ⟨_,List.mem_of_getElem? hj,rfl,e.symm⟩
theorem Beh.trn (f:Beh ops n a0 w0 W B A l a w) (b0:Below W.heap.size W w0) {G:List Nat} (h:AllL (fun e=>e.k=none ∨ e.g ∈ G) B):Trn G w0 w:=
  ⟨f.b.os.trans b0.os.symm,f.b.tape.trans b0.tape.symm,f.b.output.trans b0.output.symm,f.m,fun k hk hn=>f.un k hk (fun ⟨e,he,hk,eg⟩=>by
    rcases allL.1 h e he with h | h
    · rw [h] at hk;cases hk
    · rw [eg] at h;exact hn h)⟩
end
section
variable {P:Program} {ops:Array Oper} {Q:Exit → Act → World → Prop} {n:Nat} {a0:Act} {w0:World} {S:(Nat → Bool) → (Nat → Value) → World → Prop} {K D:List Nat} {l:List (Option Value)}
def Loc (K D:List Nat) (S:(Nat → Bool) → (Nat → Value) → World → Prop):Prop:=∀ (fl fl':Nat → Bool) (u u':Nat → Value) (w:World),(∀ k ∈ K,fl' k=fl k) → (∀ d ∈ D,u' d=u d) → S fl u w → S fl' u' w
structure Cz (ops:Array Oper) (n:Nat) (a0:Act) (S:(Nat → Bool) → (Nat → Value) → World → Prop) (K D:List Nat) (l:List (Option Value)) (i:Nat) (o:Oper) (fl:Nat → Bool) (a:Act) (w:World):Prop where
  loc:Loc K D S
  ho:ops[i]?=some o
  S:S fl (slotOf a) w
  fi:fl i=false
  clo:∀ (k:Nat) (ok:Oper),ops[k]?=some ok → fl k=true → ∀ e ∈ ok.after,Region.binds .any e=true → fl e.on=true
  sz:a.tmps.size=n
  rest:∀ j,(∀ (i:Nat) (o:Oper),ops[i]?=some o → o.dst ≠ some j) → a.tmps.getD j undef=a0.tmps.getD j undef
  done:∀ (p:Nat) (e:_),o.after[p]?=some e → Region.binds .any e=true → fl e.on=true ∧ ∀ (o':Oper),ops[e.on]?=some o' → TabO l e.on (own o' a)
  und:∀ (k:Nat) (ok:Oper) (d:Nat),ops[k]?=some ok → ok.dst=some d → fl k=false → a.tmps.getD d undef=a0.tmps.getD d undef
def PostZ (S:(Nat → Bool) → (Nat → Value) → World → Prop) (l:List (Option Value)) (i:Nat) (o:Oper) (fl:Nat → Bool) (a:Act):Act → World → Prop:=fun a' w'=>∃ v,a'=a.put o.dst v ∧ TabO l i (own o a') ∧ S (upd fl i) (slotOf a') w'
structure BehZ (ops:Array Oper) (n:Nat) (a0:Act) (S:(Nat → Bool) → (Nat → Value) → World → Prop) (l:List (Option Value)) (a:Act) (w:World):Prop where
  d:a.defers=[]
  z:a.tmps.size=n
  r:∀ j,chkNot ops j=true → ∀ {x:Value},a0.tmps.getD j undef=x → a.tmps.getD j undef=x
  v:∀ i:Nat,∀ {o:Oper} {d:Nat} {x:Value},ops[i]?=some o → o.dst=some d → l[i]?=some (some x) → a.tmps.getD d undef=x
  s:∃ fl:Nat → Bool,(∀ i,i < ops.size → fl i=true) ∧ S fl (slotOf a) w
theorem BehZ.q {a:Act} {w:World} (f:BehZ ops n a0 S l a w) (j:Nat) {x:Value} (s:a0.tmps.getD j undef=x) (h:chkNot ops j=true:=by kernel_rfl):a.tmps.getD j undef=x:=f.r j h s
def HopZ (P:Program) (ops:Array Oper) (Q:Exit → Act → World → Prop) (n:Nat) (a0:Act) (S:(Nat → Bool) → (Nat → Value) → World → Prop) (K D:List Nat) (l:List (Option Value)) (i:Nat) (L:List Oper):Prop:=
  ∀ j o,L[j]?=some o → ∀ fl a w,Cz ops n a0 S K D l (i + j) o fl a w → wpOp P ops Q (i + j) (PostZ S l (i + j) o fl a) a w
theorem zn {i:Nat}:HopZ P ops Q n a0 S K D l i []:=fun j o h=>by simp at h
theorem zc {i:Nat} {o:Oper} {L:List Oper} (h:∀ {fl a w},Cz ops n a0 S K D l i o fl a w → wpOp P ops Q i (PostZ S l i o fl a) a w) (t:HopZ P ops Q n a0 S K D l (i + 1) L):HopZ P ops Q n a0 S K D l i (o :: L):=fun j o' hj=>by
  cases j with
  | zero=>
    have e:o=o':=by simpa using hj
    subst e
    exact fun _ _ _ c=>h c
  | succ j=>
    have:=t j o' (by simpa using hj)
    rw [show i + 1 + j=i + (j + 1) by omega] at this
    exact this
theorem go_regz {b:Bool} {id:Nat} (S:(Nat → Bool) → (Nat → Value) → World → Prop) (K D:List Nat) (l:List (Option Value)) (hm:P.follows .mixedOrders=true) (hl:Loc K D S) (hd0:a0.defers=[]) (hz:a0.tmps.size=n) (hk:(chkBack ops && chkDst ops && chkIn ops n)=true)
    (h0:∀ (fl:Nat → Bool) (w1:World),(∀ i,i < ops.size → fl i=false) → Below w0.heap.size w0 w1 → w1.heap=w0.heap → S fl (slotOf a0) w1)
    (hop:HopZ P ops Q n a0 S K D l 0 ops.toList) (hq:∀ a w,BehZ ops n a0 S l a w → Q .normal a w):(Code.region id ops b).wp P Q a0 w0:=by
  simp only [Bool.and_eq_true] at hk
  obtain ⟨⟨h1,h2⟩,h3⟩:=hk
  refine wp_regx S (TabO l) hm (back_of h1) (dst_of h2) (in_ofz h3 hz) (fun fl w1 hfl hw=>?_) ?_ ?_
  · rcases hw with rfl | rfl
    · exact h0 fl _ hfl (Below.refl _ _) rfl
    · exact h0 fl _ hfl (Below.drew (Below.refl _ _)) rfl
  · intro i o a w fl ho hS hfi clo hsz hrest hdone hund
    have:=hop i o (by rw [Array.getElem?_toList];exact ho) fl a w
    rw [Nat.zero_add] at this
    exact this ⟨hl,ho,hS,hfi,clo,hsz.trans hz,hrest,hdone,hund⟩
  · intro a w fl hd hs hrest hR hfl hS
    refine hq a w ⟨hd.trans hd0,hs.trans hz,fun j hj x hx=>(hrest j (not_of hj)).trans hx,fun i o d x ho hod hl=>?_,fl,hfl,hS⟩
    have:=hR i o ho
    unfold TabO at this
    rw [hl] at this
    unfold own at this
    rw [hod] at this
    exact this
end
section
variable {P:Program} {ops:Array Oper} {Q:Exit → Act → World → Prop} {n:Nat} {a0:Act} {S:(Nat → Bool) → (Nat → Value) → World → Prop} {K D:List Nat} {l:List (Option Value)} {i:Nat} {o:Oper} {fl:Nat → Bool} {a:Act} {w w':World}
theorem Cz.u (c:Cz ops n a0 S K D l i o fl a w) (p:Nat) {d:Nat} {x:Value} (h:look ops l o p=some (d,x)):a.tmps.getD d undef=x:=by
  unfold look at h
  cases h1:o.after[p]? with
  | none=>rw [h1] at h;cases h
  | some e=>
    rw [h1] at h
    simp only at h
    cases h2:Region.binds .any e with
    | false=>rw [h2] at h;cases h
    | true=>
      rw [h2,cond_true] at h
      cases h3:ops[e.on]? with
      | none=>rw [h3] at h;simp at h
      | some o'=>
        cases h5:l[e.on]? with
        | none=>rw [h3,h5] at h;simp at h
        | some y=>
          cases y with
          | none=>rw [h3,h5] at h;simp at h
          | some x'=>
            rw [h3,h5] at h
            simp only at h
            cases h4:o'.dst with
            | none=>rw [h4] at h;simp at h
            | some d'=>
              rw [h4] at h
              simp only [Option.some.injEq,Prod.mk.injEq] at h
              obtain ⟨rfl,rfl⟩:=h
              have:=(c.done p e h1 h2).2 o' h3
              unfold TabO at this
              rw [h5] at this
              unfold own at this
              rw [h4] at this
              exact this
theorem Cz.rq (c:Cz ops n a0 S K D l i o fl a w) (d:Nat) {x} (s:a0.tmps.getD d undef=x) (h:chkNot ops d=true:=by kernel_rfl):a.tmps.getD d undef=x:=(c.rest d (not_of h)).trans s
theorem Cz.un (c:Cz ops n a0 S K D l i o fl a w) (k:Nat) {ok d x} (h1:ops[k]?=some ok) (h2:ok.dst=some d) (h3:isLater ops k i=true) (s:a0.tmps.getD d undef=x):a.tmps.getD d undef=x:=(c.und k ok d h1 h2 (not_yet c.clo c.fi h3)).trans s
theorem Cz.is (c:Cz ops n a0 S K D l i o fl a w) {p:Op} (h:o.op=p):o.op=p:=h
theorem Cz.later (c:Cz ops n a0 S K D l i o fl a w) (k:Nat) (h3:isLater ops k i=true):fl k=false:=not_yet c.clo c.fi h3
theorem Cz.did (c:Cz ops n a0 S K D l i o fl a w) (p:Nat) {e} (h1:o.after[p]?=some e) (h2:Region.binds .any e=true):fl e.on=true:=(c.done p e h1 h2).1
def okZ (o:Oper) (n i:Nat) (K D:List Nat):Bool:=match o.guard,o.dst with
  | none,some d=>Nat.blt d n && (K.all (fun k=>!Nat.beq k i) && D.all (fun k=>!Nat.beq k d))
  | _,_=>false
theorem Cz.keep (c:Cz ops n a0 S K D l i o fl a w) {d:Nat} {v:Value} (hk:(K.all (fun k=>!Nat.beq k i) && D.all (fun k=>!Nat.beq k d))=true):S (upd fl i) (slotOf (a.put (some d) v)) w:=by
  rw [Bool.and_eq_true,List.all_eq_true,List.all_eq_true] at hk
  refine c.loc fl _ _ _ w (fun k hk'=>?_) (fun j hj=>?_) c.S
  · have:=hk.1 k hk'
    unfold upd
    rw [if_neg (by intro e;subst e;simp at this)]
  · have:=hk.2 j hj
    refine slot_put ?_
    show (!Nat.beq d j)=true
    cases hb:Nat.beq d j with
    | false=>rfl
    | true=>
      exfalso
      have:=Nat.eq_of_beq_eq_true hb
      subst this
      simp at *
theorem Cz.v (c:Cz ops n a0 S K D l i o fl a w) {v:Value} (hr:(execOp a.eval o).run P w=.ok (.value v) w) (hk:okZ o n i K D=true) (ht:TabO l i v):wpOp P ops Q i (PostZ S l i o fl a) a w:=by
  unfold okZ at hk
  cases hg:o.guard with
  | some g=>rw [hg] at hk;cases hk
  | none=>
    cases hd:o.dst with
    | none=>rw [hg,hd] at hk;cases hk
    | some d=>
      rw [hg,hd] at hk
      simp only at hk
      rw [Bool.and_eq_true] at hk
      exact wpOp_valw c.ho (wn hg) hr ⟨v,rfl,by rw [own_some hd c.sz hk.1];exact ht,by rw [hd];exact c.keep hk.2⟩
theorem Cz.c (c:Cz ops n a0 S K D l i o fl a w) {f:FuncId} {xs:Array Operand} {ts:Array TypeId} {fn:Func} {args:Array Value} (ho:o.op=.call ⟨.value (.func f),xs,ts⟩) (ha:xs.map a.eval=args) (hf:P.funcs[f]?=some fn)
    (hn:okF fn=true) {v:Value} (K':Calls P f args w fun e w'=>e=.returned v ∧ w=w') (hk:okZ o n i K D=true) (ht:TabO l i v):wpOp P ops Q i (PostZ S l i o fl a) a w:=by
  unfold okZ at hk
  unfold okF at hn
  simp only [Bool.and_eq_true,Bool.not_eq_true'] at hn
  cases hg:o.guard with
  | some g=>rw [hg] at hk;cases hk
  | none=>
    cases hd:o.dst with
    | none=>rw [hg,hd] at hk;cases hk
    | some d=>
      rw [hg,hd] at hk
      simp only at hk
      rw [Bool.and_eq_true] at hk
      refine wpOp_callw c.ho (wn hg) (exec_call ho rfl rfl ha hf hn.1 hn.2) (K'.mono ?_)
      rintro e w' ⟨rfl,rfl⟩
      exact ⟨v,rfl,_,rfl,by rw [own_some hd c.sz hk.1];exact ht,by rw [hd];exact c.keep hk.2⟩
theorem Cz.ct (c:Cz ops n a0 S K D l i o fl a w) {f:FuncId} {xs:Array Operand} {ts:Array TypeId} {fn:Func} {args:Array Value} (ho:o.op=.call ⟨.value (.func f),xs,ts⟩) (hg:o.guard=none) (ha:xs.map a.eval=args) (hf:P.funcs[f]?=some fn)
    (hn:okF fn=true) {d:Nat} (hd:o.dst=some d) (hlt:Nat.blt d n=true) (K':Calls P f args w fun e w'=>∃ v,e=.returned v ∧ TabO l i v ∧ S (upd fl i) (slotOf (a.put (some d) v)) w'):wpOp P ops Q i (PostZ S l i o fl a) a w:=by
  unfold okF at hn
  simp only [Bool.and_eq_true,Bool.not_eq_true'] at hn
  refine wpOp_callw c.ho (wn hg) (exec_call ho rfl rfl ha hf hn.1 hn.2) (K'.mono ?_)
  rintro e w' ⟨v,rfl,ht,hs⟩
  exact ⟨v,rfl,_,rfl,by rw [own_some hd c.sz hlt];exact ht,by rw [hd];exact hs⟩
theorem Cz.vt (c:Cz ops n a0 S K D l i o fl a w) (hg:o.guard=none) {v:Value} {w':World} (hr:(execOp a.eval o).run P w=.ok (.value v) w') {d:Nat} (hd:o.dst=some d) (hlt:Nat.blt d n=true) (ht:TabO l i v) (hs:S (upd fl i) (slotOf (a.put (some d) v)) w'):wpOp P ops Q i (PostZ S l i o fl a) a w:=
  wpOp_valw c.ho (wn hg) hr ⟨v,rfl,by rw [own_some hd c.sz hlt];exact ht,by rw [hd];exact hs⟩
theorem Cz.st (c:Cz ops n a0 S K D l i o fl a w) (hg:o.guard=none) {w':World} (hr:(execOp a.eval o).run P w=.ok .skip w') (hd:o.dst=none) (ht:TabO l i undef) (hs:S (upd fl i) (slotOf a) w'):wpOp P ops Q i (PostZ S l i o fl a) a w:=by
  refine wpOp_skpw c.ho (wn hg) hr ⟨undef,rfl,?_,by rw [hd];exact hs⟩
  unfold own;rw [hd];exact ht
theorem slot_new {d:Nat} {v:Value} (hs:a.tmps.size=n) (hlt:Nat.blt d n=true):slotOf (a.put (some d) v) d=v:=by
  unfold slotOf
  rw [put_getD a d v (by rw [hs];exact Nat.le_of_ble_eq_true hlt),if_pos rfl]
theorem slot_old {d e:Nat} {v:Value} (h:Nat.beq d e=false):slotOf (a.put (some d) v) e=slotOf a e:=slot_put (by show (!Nat.beq d e)=true;rw [h];rfl)
theorem upd_new (fl:Nat → Bool) (i:Nat):upd fl i i=true:=by unfold upd;rw [if_pos rfl]
theorem upd_old (fl:Nat → Bool) {i j:Nat} (h:Nat.beq j i=false):upd fl i j=fl j:=by unfold upd;rw [if_neg (by intro e;subst e;simp at h)]
end
def S1 (k g:Nat) (w0:World) (new:Array Value) (T:TypeId) (fl:Nat → Bool) (u:Nat → Value) (w:World):Prop:=(fl k=false ∧ Below w0.heap.size w0 w) ∨ (fl k=true ∧ Trn [g] w0 w ∧ w.heap[g]?=some (.cells new T (0,0)))
section
variable {k g:Nat} {w0 w w':World} {new:Array Value} {T:TypeId} {fl:Nat → Bool} {u u':Nat → Value}
theorem S1.loc:Loc [k] [] (S1 k g w0 new T):=by
  intro fl fl' u u' w hK hD h
  unfold S1 at *
  rw [hK k (by simp)]
  exact h
theorem S1.start (b:Below w0.heap.size w0 w) (h:fl k=false):S1 k g w0 new T fl u w:=.inl ⟨h,b⟩
theorem S1.was (h:S1 k g w0 new T fl u w) (f:fl k=false):Below w0.heap.size w0 w:=by
  rcases h with h | h
  · exact h.2
  · rw [f] at h;cases h.1
theorem S1.turn (h:S1 k g w0 new T fl u w) (f:fl k=false) (t:Trn [g] w w') (r:w'.heap[g]?=some (.cells new T (0,0))):S1 k g w0 new T (upd fl k) u' w':=.inr ⟨upd_new _ _,(Trn.of_below (h.was f)).trans t,r⟩
theorem S1.fin (h:S1 k g w0 new T fl u w) (f:fl k=true):Trn [g] w0 w ∧ w.heap[g]?=some (.cells new T (0,0)):=by
  rcases h with h | h
  · rw [f] at h;cases h.1
  · exact h.2
end
end Go.Proofs.YtbpehbeakhocnaaGreatDoor
