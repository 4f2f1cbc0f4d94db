import Derived.Test.YtjhjpllgoakncaaDoorETl03
set_option linter.unusedVariables false
set_option linter.unusedSimpArgs false
set_option linter.unnecessarySimpa false
namespace Go.Proofs.YtjhjpllgoakncaaDoor
open Go Go.RowKit
set_option linter.unusedVariables false
set_option linter.unusedSimpArgs false
structure Trn (G:List Nat) (w w':World):Prop where
  os:w'.os=w.os
  tape:w'.tape=w.tape
  output:w'.output=w.output
  size:w.heap.size ≤ w'.heap.size
  block:∀ k,k < w.heap.size → k ∉ G → w'.heap[k]?=w.heap[k]?
section
variable {w w' w2:World} {G H:List Nat}
theorem Trn.refl (w:World):Trn G w w:=⟨rfl,rfl,rfl,Nat.le_refl _,fun _ _ _=>rfl⟩
theorem Trn.trans (h:Trn G w w') (b:Trn G w' w2):Trn G w w2:=⟨b.os.trans h.os,b.tape.trans h.tape,b.output.trans h.output,Nat.le_trans h.size b.size,fun k hk hne=>(b.block k (Nat.lt_of_lt_of_le hk h.size) hne).trans (h.block k hk hne)⟩
theorem Trn.below (h:Trn [] w w'):Below w.heap.size w w':=⟨h.os,h.tape,h.output,h.size,fun k hk=>h.block k hk (by simp)⟩
theorem Trn.row (h:Trn G w w') {g:Nat} {o:Obj} (hg:w.heap[g]?=some o) (n:g ∉ G):w'.heap[g]?=some o:=(h.block g (Array.getElem?_eq_some_iff.1 hg).1 n).trans hg
end
section
variable {W w w':World} {n0:Nat} {B:List EB} {A:List EA} {fl:Nat → Bool} {u:Nat → Value} {a:Act}
end
section
variable {P:Program} {ops:Array Oper} {Q:Exit → Act → World → Prop} {n:Nat} {a0:Act} {w0 W:World} {B:List EB} {A:List EA} {l:List (Option Value)} {i:Nat} {o:Oper} {fl:Nat → Bool} {a:Act} {w w':World}
end
section
variable {P:Program} {ops:Array Oper} {Q:Exit → Act → World → Prop} {n:Nat} {a0:Act} {w0:World} {S:(Nat → Bool) → (Nat → Value) → World → Prop} {K D:List Nat} {l:List (Option Value)}
def Loc (K D:List Nat) (S:(Nat → Bool) → (Nat → Value) → World → Prop):Prop:=∀ (fl fl':Nat → Bool) (u u':Nat → Value) (w:World),(∀ k ∈ K,fl' k=fl k) → (∀ d ∈ D,u' d=u d) → S fl u w → S fl' u' w
structure Cz (ops:Array Oper) (n:Nat) (a0:Act) (S:(Nat → Bool) → (Nat → Value) → World → Prop) (K D:List Nat) (l:List (Option Value)) (i:Nat) (o:Oper) (fl:Nat → Bool) (a:Act) (w:World):Prop where
  loc:Loc K D S
  ho:ops[i]?=some o
  S:S fl (slotOf a) w
  fi:fl i=false
  clo:∀ (k:Nat) (ok:Oper),ops[k]?=some ok → fl k=true → ∀ e ∈ ok.after,Region.binds .any e=true → fl e.on=true
  sz:a.tmps.size=n
  rest:∀ j,(∀ (i:Nat) (o:Oper),ops[i]?=some o → o.dst ≠ some j) → a.tmps.getD j undef=a0.tmps.getD j undef
  done:∀ (p:Nat) (e:_),o.after[p]?=some e → Region.binds .any e=true → fl e.on=true ∧ ∀ (o':Oper),ops[e.on]?=some o' → TabO l e.on (own o' a)
  und:∀ (k:Nat) (ok:Oper) (d:Nat),ops[k]?=some ok → ok.dst=some d → fl k=false → a.tmps.getD d undef=a0.tmps.getD d undef
def PostZ (S:(Nat → Bool) → (Nat → Value) → World → Prop) (l:List (Option Value)) (i:Nat) (o:Oper) (fl:Nat → Bool) (a:Act):Act → World → Prop:=fun a' w'=>∃ v,a'=a.put o.dst v ∧ TabO l i (own o a') ∧ S (upd fl i) (slotOf a') w'
structure BehZ (ops:Array Oper) (n:Nat) (a0:Act) (S:(Nat → Bool) → (Nat → Value) → World → Prop) (l:List (Option Value)) (a:Act) (w:World):Prop where
  d:a.defers=[]
  z:a.tmps.size=n
  r:∀ j,chkNot ops j=true → ∀ {x:Value},a0.tmps.getD j undef=x → a.tmps.getD j undef=x
  v:∀ i:Nat,∀ {o:Oper} {d:Nat} {x:Value},ops[i]?=some o → o.dst=some d → l[i]?=some (some x) → a.tmps.getD d undef=x
  s:∃ fl:Nat → Bool,(∀ i,i < ops.size → fl i=true) ∧ S fl (slotOf a) w
theorem BehZ.q {a:Act} {w:World} (f:BehZ ops n a0 S l a w) (j:Nat) {x:Value} (s:a0.tmps.getD j undef=x) (h:chkNot ops j=true:=by kernel_rfl):a.tmps.getD j undef=x:=f.r j h s
def HopZ (P:Program) (ops:Array Oper) (Q:Exit → Act → World → Prop) (n:Nat) (a0:Act) (S:(Nat → Bool) → (Nat → Value) → World → Prop) (K D:List Nat) (l:List (Option Value)) (i:Nat) (L:List Oper):Prop:=
  ∀ j o,L[j]?=some o → ∀ fl a w,Cz ops n a0 S K D l (i + j) o fl a w → wpOp P ops Q (i + j) (PostZ S l (i + j) o fl a) a w
theorem zn {i:Nat}:HopZ P ops Q n a0 S K D l i []:=fun j o h=>by simp at h
theorem zc {i:Nat} {o:Oper} {L:List Oper} (h:∀ {fl a w},Cz ops n a0 S K D l i o fl a w → wpOp P ops Q i (PostZ S l i o fl a) a w) (t:HopZ P ops Q n a0 S K D l (i + 1) L):HopZ P ops Q n a0 S K D l i (o :: L):=fun j o' hj=>by
  cases j with
  | zero=>
    have e:o=o':=by simpa using hj
    subst e
    exact fun _ _ _ c=>h c
  | succ j=>
    have:=t j o' (by simpa using hj)
    rw [show i + 1 + j=i + (j + 1) by omega] at this
    exact this
theorem go_regz {b:Bool} {id:Nat} (S:(Nat → Bool) → (Nat → Value) → World → Prop) (K D:List Nat) (l:List (Option Value)) (hm:P.follows .mixedOrders=true) (hl:Loc K D S) (hd0:a0.defers=[]) (hz:a0.tmps.size=n) (hk:(chkBack ops && chkDst ops && chkIn ops n)=true)
    (h0:∀ (fl:Nat → Bool) (w1:World),(∀ i,i < ops.size → fl i=false) → Below w0.heap.size w0 w1 → w1.heap=w0.heap → S fl (slotOf a0) w1)
    (hop:HopZ P ops Q n a0 S K D l 0 ops.toList) (hq:∀ a w,BehZ ops n a0 S l a w → Q .normal a w):(Code.region id ops b).wp P Q a0 w0:=by
  simp only [Bool.and_eq_true] at hk
  obtain ⟨⟨h1,h2⟩,h3⟩:=hk
  refine wp_regx S (TabO l) hm (back_of h1) (dst_of h2) (in_ofz h3 hz) (fun fl w1 hfl hw=>?_) ?_ ?_
  · rcases hw with rfl | rfl
    · exact h0 fl _ hfl (Below.refl _ _) rfl
    · exact h0 fl _ hfl (Below.drew (Below.refl _ _)) rfl
  · intro i o a w fl ho hS hfi clo hsz hrest hdone hund
    have:=hop i o (by rw [Array.getElem?_toList];exact ho) fl a w
    rw [Nat.zero_add] at this
    exact this ⟨hl,ho,hS,hfi,clo,hsz.trans hz,hrest,hdone,hund⟩
  · intro a w fl hd hs hrest hR hfl hS
    refine hq a w ⟨hd.trans hd0,hs.trans hz,fun j hj x hx=>(hrest j (not_of hj)).trans hx,fun i o d x ho hod hl=>?_,fl,hfl,hS⟩
    have:=hR i o ho
    unfold TabO at this
    rw [hl] at this
    unfold own at this
    rw [hod] at this
    exact this
end
section
variable {P:Program} {ops:Array Oper} {Q:Exit → Act → World → Prop} {n:Nat} {a0:Act} {S:(Nat → Bool) → (Nat → Value) → World → Prop} {K D:List Nat} {l:List (Option Value)} {i:Nat} {o:Oper} {fl:Nat → Bool} {a:Act} {w w':World}
theorem Cz.u (c:Cz ops n a0 S K D l i o fl a w) (p:Nat) {d:Nat} {x:Value} (h:look ops l o p=some (d,x)):a.tmps.getD d undef=x:=by
  unfold look at h
  cases h1:o.after[p]? with
  | none=>rw [h1] at h;cases h
  | some e=>
    rw [h1] at h
    simp only at h
    cases h2:Region.binds .any e with
    | false=>rw [h2] at h;cases h
    | true=>
      rw [h2,cond_true] at h
      cases h3:ops[e.on]? with
      | none=>rw [h3] at h;simp at h
      | some o'=>
        cases h5:l[e.on]? with
        | none=>rw [h3,h5] at h;simp at h
        | some y=>
          cases y with
          | none=>rw [h3,h5] at h;simp at h
          | some x'=>
            rw [h3,h5] at h
            simp only at h
            cases h4:o'.dst with
            | none=>rw [h4] at h;simp at h
            | some d'=>
              rw [h4] at h
              simp only [Option.some.injEq,Prod.mk.injEq] at h
              obtain ⟨rfl,rfl⟩:=h
              have:=(c.done p e h1 h2).2 o' h3
              unfold TabO at this
              rw [h5] at this
              unfold own at this
              rw [h4] at this
              exact this
theorem Cz.rq (c:Cz ops n a0 S K D l i o fl a w) (d:Nat) {x} (s:a0.tmps.getD d undef=x) (h:chkNot ops d=true:=by kernel_rfl):a.tmps.getD d undef=x:=(c.rest d (not_of h)).trans s
theorem Cz.later (c:Cz ops n a0 S K D l i o fl a w) (k:Nat) (h3:isLater ops k i=true):fl k=false:=not_yet c.clo c.fi h3
def okZ (o:Oper) (n i:Nat) (K D:List Nat):Bool:=match o.guard,o.dst with
  | none,some d=>Nat.blt d n && (K.all (fun k=>!Nat.beq k i) && D.all (fun k=>!Nat.beq k d))
  | _,_=>false
theorem Cz.keep (c:Cz ops n a0 S K D l i o fl a w) {d:Nat} {v:Value} (hk:(K.all (fun k=>!Nat.beq k i) && D.all (fun k=>!Nat.beq k d))=true):S (upd fl i) (slotOf (a.put (some d) v)) w:=by
  rw [Bool.and_eq_true,List.all_eq_true,List.all_eq_true] at hk
  refine c.loc fl _ _ _ w (fun k hk'=>?_) (fun j hj=>?_) c.S
  · have:=hk.1 k hk'
    unfold upd
    rw [if_neg (by intro e;subst e;simp at this)]
  · have:=hk.2 j hj
    refine slot_put ?_
    show (!Nat.beq d j)=true
    cases hb:Nat.beq d j with
    | false=>rfl
    | true=>
      exfalso
      have:=Nat.eq_of_beq_eq_true hb
      subst this
      simp at *
theorem Cz.v (c:Cz ops n a0 S K D l i o fl a w) {v:Value} (hr:(execOp a.eval o).run P w=.ok (.value v) w) (hk:okZ o n i K D=true) (ht:TabO l i v):wpOp P ops Q i (PostZ S l i o fl a) a w:=by
  unfold okZ at hk
  cases hg:o.guard with
  | some g=>rw [hg] at hk;cases hk
  | none=>
    cases hd:o.dst with
    | none=>rw [hg,hd] at hk;cases hk
    | some d=>
      rw [hg,hd] at hk
      simp only at hk
      rw [Bool.and_eq_true] at hk
      exact wpOp_valw c.ho (wn hg) hr ⟨v,rfl,by rw [own_some hd c.sz hk.1];exact ht,by rw [hd];exact c.keep hk.2⟩
theorem Cz.c (c:Cz ops n a0 S K D l i o fl a w) {f:FuncId} {xs:Array Operand} {ts:Array TypeId} {fn:Func} {args:Array Value} (ho:o.op=.call ⟨.value (.func f),xs,ts⟩) (ha:xs.map a.eval=args) (hf:P.funcs[f]?=some fn)
    (hn:okF fn=true) {v:Value} (K':Calls P f args w fun e w'=>e=.returned v ∧ w=w') (hk:okZ o n i K D=true) (ht:TabO l i v):wpOp P ops Q i (PostZ S l i o fl a) a w:=by
  unfold okZ at hk
  unfold okF at hn
  simp only [Bool.and_eq_true,Bool.not_eq_true'] at hn
  cases hg:o.guard with
  | some g=>rw [hg] at hk;cases hk
  | none=>
    cases hd:o.dst with
    | none=>rw [hg,hd] at hk;cases hk
    | some d=>
      rw [hg,hd] at hk
      simp only at hk
      rw [Bool.and_eq_true] at hk
      refine wpOp_callw c.ho (wn hg) (exec_call ho rfl rfl ha hf hn.1 hn.2) (K'.mono ?_)
      rintro e w' ⟨rfl,rfl⟩
      exact ⟨v,rfl,_,rfl,by rw [own_some hd c.sz hk.1];exact ht,by rw [hd];exact c.keep hk.2⟩
end
def S1 (k g:Nat) (w0:World) (new:Array Value) (T:TypeId) (fl:Nat → Bool) (u:Nat → Value) (w:World):Prop:=(fl k=false ∧ Below w0.heap.size w0 w) ∨ (fl k=true ∧ Trn [g] w0 w ∧ w.heap[g]?=some (.cells new T (0,0)))
section
variable {k g:Nat} {w0 w w':World} {new:Array Value} {T:TypeId} {fl:Nat → Bool} {u u':Nat → Value}
theorem S1.loc:Loc [k] [] (S1 k g w0 new T):=by
  intro fl fl' u u' w hK hD h
  unfold S1 at *
  rw [hK k (by simp)]
  exact h
theorem S1.start (b:Below w0.heap.size w0 w) (h:fl k=false):S1 k g w0 new T fl u w:=.inl ⟨h,b⟩
end
end Go.Proofs.YtjhjpllgoakncaaDoor
