import Derived.Test.YtbpehbeakhocnaaGreatDoorIRm04
import Derived.Test.YtbpehbeakhocnaaGreatDoorIRm01
import Derived.Deep.MidRow
import Derived.Deep.WholeRow
import Derived.Tactics
import Derived.Laws.Tables
import Derived.Lib.MinMax
import Derived.WalkKit
import Derived.WalkSpells
import Derived.WalkLawsBesides
set_option linter.unusedVariables false
set_option linter.unusedSimpArgs false
set_option linter.unnecessarySimpa false
namespace Go.Proofs.YtbpehbeakhocnaaGreatDoor
open Go Go.RowKit
def slotOf (a:Act) (d:Nat):Value:=a.tmps.getD d undef
def upd (fl:Nat → Bool) (i:Nat):Nat → Bool:=fun j=>if j=i then true else fl j
def TabX (l:List (Value → Prop)) (i:Nat) (v:Value):Prop:=match l[i]? with
  | some p=>p v
  | none=>True
section law
variable {P:Program} {ops:Array Oper} {Q:Exit → Act → World → Prop} {md:Region.Mode}
structure InvX (ops:Array Oper) (a0:Act) (S:(Nat → Bool) → (Nat → Value) → World → Prop) (R:Nat → Value → Prop) (l:Array Bool) (a:Act) (w:World):Prop where
  s:S (fun i=>l.getD i true) (slotOf a) w
  defers:a.defers=a0.defers
  size:a.tmps.size=a0.tmps.size
  rest:∀ j,(∀ (i:Nat) (o:Oper),ops[i]?=some o → o.dst ≠ some j) → a.tmps.getD j undef=a0.tmps.getD j undef
  done:∀ (i:Nat) (o:Oper),ops[i]?=some o → l.getD i true=true → R i (own o a)
  closed:∀ (i:Nat) (o:Oper),ops[i]?=some o → l.getD i true=true → ∀ e ∈ o.after,Region.binds .any e=true → l.getD e.on true=true
  undone:∀ (i:Nat) (o:Oper) (d:Nat),ops[i]?=some o → o.dst=some d → l.getD i true=false → a.tmps.getD d undef=a0.tmps.getD d undef
theorem wp_regx {b:Bool} {id:Nat} {a0:Act} {w0:World} (S:(Nat → Bool) → (Nat → Value) → World → Prop) (R:Nat → Value → Prop) (hm:P.follows .mixedOrders=true)
    (hback:∀ (i:Nat) (o:Oper),ops[i]?=some o → ∀ e ∈ o.after,Region.binds .any e=true → e.on < i)
    (hdst:∀ (i j:Nat) (o o':Oper) (d:Nat),ops[i]?=some o → ops[j]?=some o' → o.dst=some d → o'.dst=some d → i=j)
    (hin:∀ (i:Nat) (o:Oper) (d:Nat),ops[i]?=some o → o.dst=some d → d < a0.tmps.size)
    (h0:∀ (fl:Nat → Bool) (w1:World),(∀ i,i < ops.size → fl i=false) → (w1=w0 ∨ w1={ w0 with drawn:=w0.drawn + 1 }) → S fl (slotOf a0) w1)
    (hop:∀ (i:Nat) (o:Oper) (a:Act) (w:World) (fl:Nat → Bool),ops[i]?=some o → S fl (slotOf a) w → fl i=false →
      (∀ (k:Nat) (ok:Oper),ops[k]?=some ok → fl k=true → ∀ e ∈ ok.after,Region.binds .any e=true → fl e.on=true) →
      a.tmps.size=a0.tmps.size → (∀ j,(∀ (i:Nat) (o:Oper),ops[i]?=some o → o.dst ≠ some j) → a.tmps.getD j undef=a0.tmps.getD j undef) →
      (∀ (p:Nat) (e:_),o.after[p]?=some e → Region.binds .any e=true → fl e.on=true ∧ ∀ (o':Oper),ops[e.on]?=some o' → R e.on (own o' a)) →
      (∀ (k:Nat) (ok:Oper) (d:Nat),ops[k]?=some ok → ok.dst=some d → fl k=false → a.tmps.getD d undef=a0.tmps.getD d undef) →
      wpOp P ops Q i (fun a' w'=>∃ v,a'=a.put o.dst v ∧ R i (own o a') ∧ S (upd fl i) (slotOf a') w') a w)
    (hq:∀ (a:Act) (w':World) (fl:Nat → Bool),a.defers=a0.defers → a.tmps.size=a0.tmps.size → (∀ j,(∀ (i:Nat) (o:Oper),ops[i]?=some o → o.dst ≠ some j) → a.tmps.getD j undef=a0.tmps.getD j undef) →
      (∀ (i:Nat) (o:Oper),ops[i]?=some o → R i (own o a)) → (∀ i,i < ops.size → fl i=true) → S fl (slotOf a) w' → Q .normal a w'):
    (Code.region id ops b).wp P Q a0 w0:=by
  have hfin:∀ l a w,InvX ops a0 S R l a w → (∀ i,i < ops.size → l.getD i true=true) → Q .normal a w:=by
    intro l a w hI hl
    exact hq a w _ hI.defers hI.size hI.rest (fun i o ho=>hI.done i o ho (hl i (Array.getElem?_eq_some_iff.1 ho).1)) hl hI.s
  have hstep:∀ (l:Array Bool) a w (i:Nat) o,l.size=ops.size → InvX ops a0 S R l a w → ops[i]?=some o → l.getD i true=false → (∀ e ∈ o.after,Region.binds .any e=true → l.getD e.on false=true) →
      wpOp P ops Q i (InvX ops a0 S R (l.setIfInBounds i true)) a w:=by
    intro l a w i o hs hI ho hfi ha
    have hi:i < l.size:=by rw [hs];exact (Array.getElem?_eq_some_iff.1 ho).1
    have hup:∀ (e:Nat),l.getD e false=true → l.getD e true=true:=fun e he=>by
      by_cases hlt:e < l.size
      · simp only [Array.getD_eq_getD_getElem?,Array.getElem?_eq_getElem hlt,Option.getD_some] at he ⊢
        exact he
      · simp only [Array.getD_eq_getD_getElem?]
        rw [Array.getElem?_eq_none (by omega)];rfl
    refine wpOp_mono ?_ (hop i o a w _ ho hI.s hfi hI.closed hI.size hI.rest (fun p e hp hb=>⟨hup _ (ha e (Array.mem_of_getElem? hp) hb),fun o' ho'=>hI.done e.on o' ho' (hup _ (ha e (Array.mem_of_getElem? hp) hb))⟩) hI.undone)
    rintro a' w' ⟨v,rfl,hR,hS⟩
    have hS':S (fun j=>(l.setIfInBounds i true).getD j true) (slotOf (a.put o.dst v)) w':=by
      have e:(fun j=>(l.setIfInBounds i true).getD j true)=upd (fun j=>l.getD j true) i:=by
        funext j
        rw [getD_set l i j hi];rfl
      rw [e];exact hS
    have hclosed:∀ (j:Nat) (oj:Oper),ops[j]?=some oj → (l.setIfInBounds i true).getD j true=true → ∀ e ∈ oj.after,Region.binds .any e=true → (l.setIfInBounds i true).getD e.on true=true:=by
      intro j oj hj hl e he hb
      rw [getD_set l i e.on hi]
      by_cases hei:e.on=i
      · rw [if_pos hei]
      · rw [if_neg hei]
        rw [getD_set l i j hi] at hl
        by_cases hji:j=i
        · subst hji
          rw [ho] at hj;cases hj
          exact hup _ (ha e he hb)
        · rw [if_neg hji] at hl
          exact hI.closed j oj hj hl e he hb
    cases hod:o.dst with
    | none=>
      refine ⟨by rw [hod] at hS';exact hS',hI.defers,hI.size,hI.rest,fun j oj hj hl=>?_,hclosed,fun j oj d hj hd hl=>?_⟩
      case refine_2=>
        rw [getD_set l i j hi] at hl
        by_cases hji:j=i
        · rw [if_pos hji] at hl;cases hl
        · rw [if_neg hji] at hl;exact hI.undone j oj d hj hd hl
      rw [hod] at hR
      by_cases hji:j=i
      · subst hji
        rw [ho] at hj;cases hj
        exact hR
      · rw [getD_set l i j hi,if_neg hji] at hl
        exact hI.done j oj hj hl
    | some d0=>
      have hd0:d0 < a.tmps.size:=by rw [hI.size];exact hin i o d0 ho hod
      have hput:=put_getD a d0 v hd0
      refine ⟨by rw [hod] at hS';exact hS',hI.defers,by show (a.tmps.setIfInBounds d0 v).size=_;simp [hI.size],fun j hj=>?_,fun j oj hj hl=>?_,hclosed,fun j oj d hj hd hl=>?_⟩
      case refine_3=>
        rw [getD_set l i j hi] at hl
        by_cases hji:j=i
        · rw [if_pos hji] at hl;cases hl
        · rw [if_neg hji] at hl
          rw [hput d,if_neg (fun e=>hji (hdst j i oj o d hj ho hd (by rw [hod,e])))]
          exact hI.undone j oj d hj hd hl
      · rw [hput j,if_neg (fun e=>hj i o ho (by rw [hod,e]))]
        exact hI.rest j hj
      · rw [hod] at hR
        by_cases hji:j=i
        · subst hji
          rw [ho] at hj;cases hj
          exact hR
        · rw [getD_set l i j hi,if_neg hji] at hl
          have h1:own oj (a.put (some d0) v)=own oj a:=by
            unfold own
            cases hdj:oj.dst with
            | none=>rfl
            | some d=>
              show (a.put (some d0) v).tmps.getD d undef=a.tmps.getD d undef
              rw [hput d,if_neg (fun e=>hji (hdst j i oj o d hj ho hdj (by rw [hod,e])))]
          rw [h1]
          exact hI.done j oj hj hl
  have hinit:∀ w1,(w1=w0 ∨ w1={ w0 with drawn:=w0.drawn + 1 }) → InvX ops a0 S R (Array.replicate ops.size false) a0 w1:=by
    intro w1 hw
    have hf:∀ i,i < ops.size → (Array.replicate ops.size false).getD i true=false:=fun i hi=>by simp [Array.getD_eq_getD_getElem?,hi]
    refine ⟨h0 _ _ hf hw,rfl,rfl,fun _ _=>rfl,fun i o ho hl=>?_,fun i o ho hl=>?_,fun _ _ _ _ _ _=>rfl⟩
    · rw [hf i (Array.getElem?_eq_some_iff.1 ho).1] at hl;cases hl
    · rw [hf i (Array.getElem?_eq_some_iff.1 ho).1] at hl;cases hl
  cases b with
  | true=>
    refine wp_region_any hm ?_
    refine wpAny_inv (InvX ops a0 S R) hback (fun l a w hI hl=>hfin l a w hI hl) ?_ ops.size _ _ _ (by simp) (hinit _ (.inr rfl)) ?_
    · intro l a w i o hs hI ho hf ha
      have hi:i < l.size:=by rw [hs];exact (Array.getElem?_eq_some_iff.1 ho).1
      have hfi:l.getD i true=false:=by
        simp only [Array.getD_eq_getD_getElem?,Array.getElem?_eq_getElem hi,Option.getD_some] at hf ⊢
        exact hf
      exact hstep l a w i o hs hI ho hfi ha
    · have:∀ (l:Array Bool) n,unl l n ≤ n:=fun l n=>by
        induction n with
        | zero=>exact Nat.le_refl _
        | succ n ih=>unfold unl;split <;> omega
      exact this _ _
  | false=>
    refine wp_region ?_
    have key:∀ (m k:Nat) (l:Array Bool) a w,k + m=ops.size → l.size=ops.size → (∀ j,j < ops.size → l.getD j true=decide (j < k)) → InvX ops a0 S R l a w → wpOps P ops Q (List.range' k m) a w:=by
      intro m
      induction m with
      | zero=>
        intro k l a w hk hs hl hI
        exact hfin l a w hI (fun i hi=>by rw [hl i hi];exact decide_eq_true (by omega))
      | succ m ih=>
        intro k l a w hk hs hl hI
        rw [List.range'_succ,wpOps_cons]
        have hkl:k < ops.size:=by omega
        have ho:ops[k]?=some ops[k]:=Array.getElem?_eq_getElem hkl
        refine wpOp_mono (fun a' w' h=>ih (k + 1) (l.setIfInBounds k true) a' w' (by omega) (by simpa using hs) (fun j hj=>?_) h) (hstep l a w k _ hs hI ho (by rw [hl k hkl];simp) (fun e he hb=>?_))
        · rw [getD_set l k j (by omega)]
          by_cases hjk:j=k
          · rw [if_pos hjk];exact (decide_eq_true (by omega)).symm
          · rw [if_neg hjk,hl j hj]
            by_cases c:j < k
            · rw [decide_eq_true c,decide_eq_true (by omega)]
            · rw [decide_eq_false c,decide_eq_false (by omega)]
        · have h1:=hback k _ ho e he hb
          have h2:=hl e.on (by omega)
          rw [decide_eq_true h1] at h2
          have hlt:e.on < l.size:=by omega
          simp only [Array.getD_eq_getD_getElem?,Array.getElem?_eq_getElem hlt,Option.getD_some] at h2 ⊢
          exact h2
    have:=key ops.size 0 _ a0 w0 (by omega) (by simp) (fun j hj=>by simp [Array.getD_eq_getD_getElem?,hj]) (hinit _ (.inl rfl))
    rwa [← List.range_eq_range'] at this
end law
theorem in_ofz {ops:Array Oper} {n:Nat} {a:Act} (h:chkIn ops n=true) (z:a.tmps.size=n):∀ (i:Nat) (o:Oper) (d:Nat),ops[i]?=some o → o.dst=some d → d < a.tmps.size:=fun i o d ho hd=>by rw [z];exact in_of h i o d ho hd
theorem tab_put {l:List (Value → Prop)} {i n d:Nat} {a:Act} {o:Oper} {v:Value} (hd:o.dst=some d) (hs:a.tmps.size=n) (hlt:Nat.blt d n=true) (h:TabX l i v):TabX l i (own o (a.put o.dst v)):=by
  rw [own_put hd (by rw [hs];exact Nat.le_of_ble_eq_true hlt)];exact h
def AllL {α:Type} (p:α → Prop):List α → Prop
  | []=>True
  | e :: l=>p e ∧ AllL p l
theorem allL {α:Type} {p:α → Prop}:∀ {l:List α},AllL p l ↔ ∀ e ∈ l,p e
  | []=>⟨fun _ _ h=>by simp at h,fun _=>trivial⟩
  | e :: l=>by simp only [AllL,allL (l:=l),List.mem_cons,forall_eq_or_imp]
structure EB where
  g:Nat
  t:TypeId
  old:Array Value
  k:Option Nat
  new:Array Value
structure EA where
  i:Nat
  d:Nat
  t:TypeId
  old:Array Value
  k:Option Nat
  new:Array Value
def curOf (fl:Nat → Bool) (k:Option Nat) (old new:Array Value):Array Value:=match k with
  | none=>old
  | some k=>bif fl k then new else old
def endOf (k:Option Nat) (old new:Array Value):Array Value:=match k with
  | none=>old
  | some _=>new
def SX (W:World) (n0:Nat) (B:List EB) (A:List EA) (fl:Nat → Bool) (u:Nat → Value) (w:World):Prop:=
  Below W.heap.size W w ∧ n0 ≤ w.heap.size ∧ AllL (fun e=>e.g < n0 ∧ w.heap[e.g]?=some (.cells (curOf fl e.k e.old e.new) e.t (0,0))) B ∧
  AllL (fun e=>fl e.i=true → ∃ g,u e.d=.pointer (some ⟨g,0,none⟩) ∧ n0 ≤ g ∧ w.heap[g]?=some (.cells (curOf fl e.k e.old e.new) e.t (0,0))) A ∧
  A.Pairwise (fun e e'=>fl e.i=true → fl e'.i=true → u e.d ≠ u e'.d)
def kNot (k:Option Nat) (i:Nat):Bool:=match k with
  | none=>true
  | some k=>!Nat.beq k i
def dNot (dst:Option Nat) (d:Nat):Bool:=match dst with
  | none=>true
  | some x=>!Nat.beq x d
def kIn (k:Option Nat) (n:Nat):Bool:=match k with
  | none=>true
  | some k=>Nat.blt k n
def chkX (B:List EB) (A:List EA) (i:Nat) (dst:Option Nat):Bool:=B.all (fun e=>kNot e.k i) && A.all (fun e=>kNot e.k i && (!Nat.beq e.i i && dNot dst e.d))
theorem kNot_ne {k:Option Nat} {i:Nat} (h:kNot k i=true) (fl:Nat → Bool) (old new:Array Value):curOf (upd fl i) k old new=curOf fl k old new:=by
  cases k with
  | none=>rfl
  | some k=>
    have hk:k ≠ i:=by
      intro e;subst e;simp [kNot] at h
    show (bif upd fl i k then new else old)=bif fl k then new else old
    unfold upd
    rw [if_neg hk]
theorem curOf_end {n:Nat} {k:Option Nat} {fl:Nat → Bool} (hfl:∀ i,i < n → fl i=true) (h:kIn k n=true) (old new:Array Value):curOf fl k old new=endOf k old new:=by
  cases k with
  | none=>rfl
  | some k=>
    show (bif fl k then new else old)=new
    rw [hfl k (by simpa [kIn] using h)];rfl
theorem curOf_start {n:Nat} {k:Option Nat} {fl:Nat → Bool} (hfl:∀ i,i < n → fl i=false) (h:kIn k n=true) (old new:Array Value):curOf fl k old new=old:=by
  cases k with
  | none=>rfl
  | some k=>
    show (bif fl k then new else old)=old
    rw [hfl k (by simpa [kIn] using h)];rfl
theorem slot_put {a:Act} {dst:Option Nat} {v:Value} {d:Nat} (h:dNot dst d=true):slotOf (a.put dst v) d=slotOf a d:=by
  cases dst with
  | none=>rfl
  | some x=>
    have hx:x ≠ d:=by
      intro e;subst e;simp [dNot] at h
    unfold slotOf Act.put
    simp only [Array.getD_eq_getD_getElem?,Array.getElem?_setIfInBounds_ne hx]
section
variable {W w w':World} {n0:Nat} {B:List EB} {A:List EA} {fl:Nat → Bool} {u:Nat → Value} {a:Act}
theorem SX.start {n:Nat} (hB:Below W.heap.size W w) (hfl:∀ i,i < n → fl i=false) (hk:(B.all (fun e=>kIn e.k n) && A.all (fun e=>Nat.blt e.i n))=true)
    (h:AllL (fun e=>w.heap[e.g]?=some (.cells e.old e.t (0,0))) B):SX W w.heap.size B A fl u w:=by
  rw [Bool.and_eq_true,List.all_eq_true,List.all_eq_true] at hk
  have hA:∀ e ∈ A,fl e.i=false:=fun e he=>hfl e.i (by simpa using hk.2 e he)
  refine ⟨hB,Nat.le_refl _,allL.2 fun e he=>?_,allL.2 fun e he hf=>?_,List.Pairwise.imp_of_mem (fun {e e'} he _ _ hf=>?_) (List.pairwise_of_forall (R:=fun _ _=>True) (fun _ _=>trivial))⟩
  · have:=allL.1 h e he
    rw [curOf_start hfl (hk.1 e he)]
    exact ⟨(Array.getElem?_eq_some_iff.1 this).1,this⟩
  · rw [hA e he] at hf;cases hf
  · rw [hA e he] at hf;cases hf
theorem SX.start' {n:Nat} {w1:World} (hw:w1=w ∨ w1={ w with drawn:=w.drawn + 1 }) (hB:Below W.heap.size W w) (hfl:∀ i,i < n → fl i=false) (hk:(B.all (fun e=>kIn e.k n) && A.all (fun e=>Nat.blt e.i n))=true)
    (h:AllL (fun e=>w.heap[e.g]?=some (.cells e.old e.t (0,0))) B):SX W w.heap.size B A fl u w1:=by
  rcases hw with rfl | rfl
  · exact SX.start hB hfl hk h
  · exact SX.start (w:={ w with drawn:=w.drawn + 1 }) hB.drew hfl hk h
theorem SX.quiet (h:SX W n0 B A fl (slotOf a) w) (i:Nat) {dst:Option Nat} {v:Value} (hc:chkX B A i dst=true) (b:Below w.heap.size w w'):SX W n0 B A (upd fl i) (slotOf (a.put dst v)) w':=by
  unfold chkX at hc
  rw [Bool.and_eq_true,List.all_eq_true,List.all_eq_true] at hc
  obtain ⟨h1,h2,h3,h4,h5⟩:=h
  have key:∀ e ∈ A,upd fl i e.i=true → fl e.i=true ∧ slotOf (a.put dst v) e.d=slotOf a e.d:=fun e he hf=>by
    have c:=hc.2 e he
    rw [Bool.and_eq_true,Bool.and_eq_true] at c
    have hi:e.i ≠ i:=by
      intro ee;have:=c.2.1;rw [ee] at this;simp at this
    refine ⟨?_,slot_put c.2.2⟩
    unfold upd at hf
    rwa [if_neg hi] at hf
  refine ⟨h1.trans (b.mono h1.size),Nat.le_trans h2 b.size,allL.2 fun e he=>?_,allL.2 fun e he hf=>?_,h5.imp_of_mem (fun {e e'} he he' r hf hf'=>by rw [(key e he hf).2,(key e' he' hf').2];exact r (key e he hf).1 (key e' he' hf').1)⟩
  · obtain ⟨p,q⟩:=allL.1 h3 e he
    rw [kNot_ne (hc.1 e he)]
    exact ⟨p,(b.block _ (Array.getElem?_eq_some_iff.1 q).1).trans q⟩
  · have c:=hc.2 e he
    rw [Bool.and_eq_true,Bool.and_eq_true] at c
    have hi:e.i ≠ i:=by
      intro ee;have:=c.2.1;rw [ee] at this;simp at this
    have hf':fl e.i=true:=by
      unfold upd at hf
      rwa [if_neg hi] at hf
    obtain ⟨g,hu,hn,q⟩:=allL.1 h4 e he hf'
    rw [kNot_ne c.1,slot_put c.2.2]
    exact ⟨g,hu,hn,(b.block _ (Array.getElem?_eq_some_iff.1 q).1).trans q⟩
theorem SX.same (h:SX W n0 B A fl (slotOf a) w) (i:Nat) {dst:Option Nat} {v:Value} (hc:chkX B A i dst=true):SX W n0 B A (upd fl i) (slotOf (a.put dst v)) w:=h.quiet i hc (Below.refl _ _)
theorem SX.alloc (h:SX W n0 B A fl (slotOf a) w) (i d:Nat) (t:TypeId) (old:Array Value) (A1 A2:List EA) (k:Option Nat) (new:Array Value) (hA:A=A1 ++ ⟨i,d,t,old,k,new⟩ :: A2)
    (hc:chkX B (A1 ++ A2) i (some d)=true) (hk:kNot k i=true) (hd:d < a.tmps.size) (hf:match k with | none=>True | some k=>fl k=false):
    SX W n0 B A (upd fl i) (slotOf (a.put (some d) (.pointer (some ⟨w.heap.size,0,none⟩)))) (w.alloc (.cells old t)):=by
  have h':SX W n0 B (A1 ++ A2) fl (slotOf a) w:=⟨h.1,h.2.1,h.2.2.1,allL.2 fun e he=>allL.1 h.2.2.2.1 e (by rw [hA];simp at he ⊢;rcases he with he | he <;> simp [he]),by
    have h5:=h.2.2.2.2
    rw [hA] at h5
    exact h5.sublist (List.Sublist.append (List.Sublist.refl _) (List.sublist_cons_self _ _))⟩
  have r:=h'.quiet (w':=w.alloc (.cells old t)) i (v:=.pointer (some ⟨w.heap.size,0,none⟩)) hc (below_new (Below.refl _ _) _)
  have new_:slotOf (a.put (some d) (.pointer (some ⟨w.heap.size,0,none⟩))) d=.pointer (some ⟨w.heap.size,0,none⟩):=by
    unfold slotOf
    rw [put_getD a d _ hd,if_pos rfl]
  have less:∀ e ∈ A1 ++ A2,upd fl i e.i=true → slotOf (a.put (some d) (.pointer (some ⟨w.heap.size,0,none⟩))) e.d ≠ .pointer (some ⟨w.heap.size,0,none⟩):=fun e he hf=>by
    unfold chkX at hc
    rw [Bool.and_eq_true,List.all_eq_true,List.all_eq_true] at hc
    have c:=hc.2 e he
    rw [Bool.and_eq_true,Bool.and_eq_true] at c
    have hi:e.i ≠ i:=by
      intro ee;have:=c.2.1;rw [ee] at this;simp at this
    have hf':fl e.i=true:=by
      unfold upd at hf
      rwa [if_neg hi] at hf
    obtain ⟨g,hu,_,hg⟩:=allL.1 h'.2.2.2.1 e he hf'
    rw [slot_put c.2.2,hu]
    intro ee
    simp at ee
    have:=(Array.getElem?_eq_some_iff.1 hg).1
    omega
  refine ⟨r.1,r.2.1,r.2.2.1,allL.2 fun e he hfe=>?_,?_⟩
  case refine_2=>
    have h5:=r.2.2.2.2
    rw [hA,List.pairwise_append,List.pairwise_cons]
    rw [List.pairwise_append] at h5
    refine ⟨h5.1,⟨fun e he _ hf=>?_,h5.2.1⟩,fun e he e' he' hf hf'=>?_⟩
    · rw [new_];exact (less e (by simp [he]) hf).symm
    · simp only [List.mem_cons] at he'
      rcases he' with rfl | he'
      · rw [new_];exact less e (by simp [he]) hf
      · exact h5.2.2 e he e' he' hf hf'
  rw [hA] at he
  simp only [List.mem_append,List.mem_cons] at he
  have ot:e ∈ A1 ++ A2 → _:=fun hh=>allL.1 r.2.2.2.1 e hh hfe
  rcases he with he | rfl | he
  · exact ot (by simp [he])
  · refine ⟨w.heap.size,?_,h.2.1,?_⟩
    · exact new_
    · show (w.alloc (.cells old t)).heap[w.heap.size]?=some (.cells (curOf (upd fl i) k old new) t (0,0))
      rw [kNot_ne hk,heap_last w _ _ rfl]
      cases k with
      | none=>rfl
      | some k=>
        show _=some (Obj.cells (bif fl k then new else old) t (0,0))
        rw [show fl k=false from hf];rfl
  · exact ot (by simp [he])
theorem SX.storeB (h:SX W n0 B A fl (slotOf a) w) (i g:Nat) (t:TypeId) (old new:Array Value) (B1 B2:List EB) (hB:B=B1 ++ ⟨g,t,old,some i,new⟩ :: B2) (hW:W.heap.size ≤ g)
    (hc:chkX (B1 ++ B2) A i none=true) (hne:AllL (fun e=>e.g ≠ g) (B1 ++ B2)) (st:Stored w g new t w'):SX W n0 B A (upd fl i) (slotOf (a.put none undef)) w':=by
  unfold chkX at hc
  rw [Bool.and_eq_true,List.all_eq_true,List.all_eq_true] at hc
  obtain ⟨h1,h2,h3,h4,h5⟩:=h
  have hg:g < n0:=(allL.1 h3 ⟨g,t,old,some i,new⟩ (by rw [hB];simp)).1
  have hsz:w'.heap.size=w.heap.size:=st.size
  have keep:∀ k,k ≠ g → w'.heap[k]?=w.heap[k]?:=fun k hk=>st.other k hk
  refine ⟨st.below h1 hW,by rw [hsz];exact h2,allL.2 fun e he=>?_,allL.2 fun e he hf=>?_,?_⟩
  case refine_3=>
    refine h5.imp_of_mem (fun {e e'} he he' r hf hf'=>?_)
    have nn:∀ e ∈ A,upd fl i e.i=true → fl e.i=true:=fun e he hf=>by
      have c:=hc.2 e he
      rw [Bool.and_eq_true,Bool.and_eq_true] at c
      have hi:e.i ≠ i:=by
        intro ee;have:=c.2.1;rw [ee] at this;simp at this
      unfold upd at hf
      rwa [if_neg hi] at hf
    exact r (nn e he hf) (nn e' he' hf')
  · obtain ⟨p,q⟩:=allL.1 h3 e he
    rw [hB] at he
    simp only [List.mem_append,List.mem_cons] at he
    have ot:e ∈ B1 ++ B2 → _:=fun hh=>(show e.g < n0 ∧ w'.heap[e.g]?=some (.cells (curOf (upd fl i) e.k e.old e.new) e.t (0,0)) from by
      rw [kNot_ne (hc.1 e hh),keep _ (allL.1 hne e hh)];exact ⟨p,q⟩)
    rcases he with he | rfl | he
    · exact ot (by simp [he])
    · refine ⟨p,?_⟩
      show w'.heap[g]?=some (.cells (bif upd fl i i then new else old) t (0,0))
      unfold upd
      rw [if_pos rfl]
      exact st.row
    · exact ot (by simp [he])
  · have c:=hc.2 e he
    rw [Bool.and_eq_true,Bool.and_eq_true] at c
    have hi:e.i ≠ i:=by
      intro ee;have:=c.2.1;rw [ee] at this;simp at this
    have hf':fl e.i=true:=by
      unfold upd at hf
      rwa [if_neg hi] at hf
    obtain ⟨g',hu,hn,q⟩:=allL.1 h4 e he hf'
    rw [kNot_ne c.1]
    refine ⟨g',hu,hn,?_⟩
    rw [keep _ (by omega)];exact q
theorem SX.storeA (h:SX W n0 B A fl (slotOf a) w) (i j d:Nat) (t:TypeId) (old new:Array Value) (A1 A2:List EA) (hA:A=A1 ++ ⟨j,d,t,old,some i,new⟩ :: A2) (hW:W.heap.size ≤ n0) (hj:fl j=true) (g:Nat) (hu:slotOf a d=.pointer (some ⟨g,0,none⟩)) (hji:j ≠ i)
    (hc:chkX B (A1 ++ A2) i none=true) (st:Stored w g new t w'):SX W n0 B A (upd fl i) (slotOf (a.put none undef)) w':=by
  unfold chkX at hc
  rw [Bool.and_eq_true,List.all_eq_true,List.all_eq_true] at hc
  obtain ⟨h1,h2,h3,h4,h5⟩:=h
  obtain ⟨g0,hu0,hn0,hg0⟩:=allL.1 h4 ⟨j,d,t,old,some i,new⟩ (by rw [hA];simp) hj
  have eg:g0=g:=by
    have:=hu0.symm.trans hu
    simpa using this
  subst eg
  have nn:∀ e ∈ A,upd fl i e.i=true → fl e.i=true:=fun e he hf=>by
    rw [hA] at he
    simp only [List.mem_append,List.mem_cons] at he
    have ot:e ∈ A1 ++ A2 → fl e.i=true:=fun hh=>by
      have c:=hc.2 e hh
      rw [Bool.and_eq_true,Bool.and_eq_true] at c
      have hi:e.i ≠ i:=by
        intro ee;have:=c.2.1;rw [ee] at this;simp at this
      unfold upd at hf
      rwa [if_neg hi] at hf
    rcases he with he | rfl | he
    · exact ot (by simp [he])
    · exact hj
    · exact ot (by simp [he])
  have hsz:w'.heap.size=w.heap.size:=st.size
  have keep:∀ k,k ≠ g0 → w'.heap[k]?=w.heap[k]?:=fun k hk=>st.other k hk
  refine ⟨st.below h1 (Nat.le_trans hW hn0),by rw [hsz];exact h2,allL.2 fun e he=>?_,allL.2 fun e he hf=>?_,?_⟩
  case refine_3=>
    refine h5.imp_of_mem (fun {e e'} he he' r hf hf'=>?_)
    exact r (nn e he hf) (nn e' he' hf')
  · obtain ⟨p,q⟩:=allL.1 h3 e he
    rw [kNot_ne (hc.1 e he),keep _ (by omega)];exact ⟨p,q⟩
  · rw [hA] at he
    simp only [List.mem_append,List.mem_cons] at he
    have ot:e ∈ A1 ++ A2 → ∃ g,slotOf (a.put none undef) e.d=.pointer (some ⟨g,0,none⟩) ∧ n0 ≤ g ∧ w'.heap[g]?=some (.cells (curOf (upd fl i) e.k e.old e.new) e.t (0,0)):=fun hh=>by
      have c:=hc.2 e hh
      rw [Bool.and_eq_true,Bool.and_eq_true] at c
      have hi:e.i ≠ i:=by
        intro ee;have:=c.2.1;rw [ee] at this;simp at this
      have hf':fl e.i=true:=by
        unfold upd at hf
        rwa [if_neg hi] at hf
      obtain ⟨g',hu',hn,q⟩:=allL.1 h4 e (by rw [hA];simp at hh ⊢;rcases hh with hh | hh <;> simp [hh]) hf'
      rw [kNot_ne c.1]
      refine ⟨g',hu',hn,?_⟩
      rw [keep _ (fun ee=>?_)];exact q
      subst ee
      rw [hA] at h5
      rw [List.pairwise_append,List.pairwise_cons] at h5
      simp only [List.mem_append] at hh
      rcases hh with hh | hh
      · exact h5.2.2 e hh ⟨j,d,t,old,some i,new⟩ (by simp) hf' hj (hu'.trans hu.symm)
      · exact h5.2.1.1 e hh hj hf' (hu.trans hu'.symm)
    rcases he with he | rfl | he
    · exact ot (by simp [he])
    · refine ⟨g0,hu0,hn0,?_⟩
      show w'.heap[g0]?=some (.cells (bif upd fl i i then new else old) t (0,0))
      unfold upd
      rw [if_pos rfl]
      exact st.row
    · exact ot (by simp [he])
theorem SX.finish {n:Nat} (h:SX W n0 B A fl u w) (hfl:∀ i,i < n → fl i=true) (hk:(B.all (fun e=>kIn e.k n) && A.all (fun e=>kIn e.k n && Nat.blt e.i n))=true):
    Below W.heap.size W w ∧ n0 ≤ w.heap.size ∧ AllL (fun e=>e.g < n0 ∧ w.heap[e.g]?=some (.cells (endOf e.k e.old e.new) e.t (0,0))) B ∧
    AllL (fun e=>∃ g,u e.d=.pointer (some ⟨g,0,none⟩) ∧ n0 ≤ g ∧ w.heap[g]?=some (.cells (endOf e.k e.old e.new) e.t (0,0))) A ∧ A.Pairwise (fun e e'=>u e.d ≠ u e'.d):=by
  rw [Bool.and_eq_true,List.all_eq_true,List.all_eq_true] at hk
  obtain ⟨h1,h2,h3,h4,h5⟩:=h
  have fi:∀ e ∈ A,fl e.i=true:=fun e he=>by
    have c:=hk.2 e he
    rw [Bool.and_eq_true] at c
    exact hfl _ (by simpa using c.2)
  refine ⟨h1,h2,allL.2 fun e he=>?_,allL.2 fun e he=>?_,h5.imp_of_mem (fun {e e'} he he' r=>r (fi e he) (fi e' he'))⟩
  · have:=allL.1 h3 e he
    rwa [curOf_end hfl (hk.1 e he)] at this
  · have c:=hk.2 e he
    rw [Bool.and_eq_true] at c
    obtain ⟨g,hg⟩:=allL.1 h4 e he (hfl _ (by simpa using c.2))
    rw [curOf_end hfl c.1] at hg
    exact ⟨g,hg⟩
theorem SX.rowN (h:SX W n0 B A fl u w) (B1 B2:List EB) (g:Nat) (t:TypeId) (old new:Array Value) (hB:B=B1 ++ ⟨g,t,old,none,new⟩ :: B2):w.heap[g]?=some (.cells old t (0,0)):=
  (allL.1 h.2.2.1 ⟨g,t,old,none,new⟩ (by rw [hB];simp)).2
theorem SX.rowF (h:SX W n0 B A fl u w) (B1 B2:List EB) (g:Nat) (t:TypeId) (old new:Array Value) (k:Nat) (hB:B=B1 ++ ⟨g,t,old,some k,new⟩ :: B2) (hk:fl k=false):w.heap[g]?=some (.cells old t (0,0)):=by
  have:=(allL.1 h.2.2.1 ⟨g,t,old,some k,new⟩ (by rw [hB];simp)).2
  rw [this]
  show some (Obj.cells (bif fl k then new else old) t (0,0))=_
  rw [hk];rfl
theorem split_at {α:Type} {l:List α} {j:Nat} {e:α} (h:l[j]?=some e):l=l.take j ++ e :: l.drop (j + 1):=by
  obtain ⟨hj,rfl⟩:=List.getElem?_eq_some_iff.1 h
  simp
theorem SX.rowNi (h:SX W n0 B A fl u w) (j:Nat) {g:Nat} {t:TypeId} {old new:Array Value} (hj:B[j]?=some ⟨g,t,old,none,new⟩):w.heap[g]?=some (.cells old t (0,0)):=h.rowN _ _ g t old new (split_at hj)
theorem SX.rowFi (h:SX W n0 B A fl u w) (j:Nat) {g:Nat} {t:TypeId} {old new:Array Value} {k:Nat} (hj:B[j]?=some ⟨g,t,old,some k,new⟩) (hk:fl k=false):w.heap[g]?=some (.cells old t (0,0)):=h.rowF _ _ g t old new k (split_at hj) hk
theorem SX.storeBi (h:SX W n0 B A fl (slotOf a) w) (i j:Nat) {g:Nat} {t:TypeId} {old new:Array Value} (hj:B[j]?=some ⟨g,t,old,some i,new⟩) (hW:W.heap.size ≤ g)
    (hc:chkX (B.eraseIdx j) A i none=true) (hne:AllL (fun e=>e.g ≠ g) (B.eraseIdx j)) (st:Stored w g new t w'):SX W n0 B A (upd fl i) (slotOf (a.put none undef)) w':=by
  rw [List.eraseIdx_eq_take_drop_succ] at hc hne
  exact h.storeB i g t old new _ _ (split_at hj) hW hc hne st
theorem SX.rowA (h:SX W n0 B A fl u w) (A1 A2:List EA) (i d:Nat) (t:TypeId) (old new:Array Value) (k:Nat) (hA:A=A1 ++ ⟨i,d,t,old,some k,new⟩ :: A2) (hi:fl i=true) (hk:fl k=false):
    ∃ g,u d=.pointer (some ⟨g,0,none⟩) ∧ n0 ≤ g ∧ w.heap[g]?=some (.cells old t (0,0)):=by
  obtain ⟨g,hu,hn,q⟩:=allL.1 h.2.2.2.1 ⟨i,d,t,old,some k,new⟩ (by rw [hA];simp) hi
  refine ⟨g,hu,hn,?_⟩
  rw [q]
  show some (Obj.cells (bif fl k then new else old) t (0,0))=_
  rw [hk];rfl
theorem SX.row (h:SX W n0 B A fl u w) (B1 B2:List EB) (e:EB) (hB:B=B1 ++ e :: B2):w.heap[e.g]?=some (.cells (curOf fl e.k e.old e.new) e.t (0,0)):=(allL.1 h.2.2.1 e (by rw [hB];simp)).2
end
theorem not_yet {ops:Array Oper} {fl:Nat → Bool} (clo:∀ (k:Nat) (ok:Oper),ops[k]?=some ok → fl k=true → ∀ e ∈ ok.after,Region.binds .any e=true → fl e.on=true) {i k:Nat} (hf:fl i=false)
    (h:(match ops[k]? with | some ok=>ok.after.any (fun e=>Nat.beq e.on i && Region.binds .any e) | none=>false)=true):fl k=false:=by
  cases e:fl k
  · rfl
  · cases ho:ops[k]? with
    | none=>rw [ho] at h;cases h
    | some ok=>
      rw [ho] at h
      simp only at h
      obtain ⟨j,hj,hx⟩:=Array.any_eq_true.1 h
      rw [Bool.and_eq_true] at hx
      have e1:=Nat.eq_of_beq_eq_true hx.1
      have:=clo k ok ho e _ (Array.getElem_mem hj) hx.2
      rw [e1,hf] at this
      cases this
section
variable {P:Program} {ρ:Operand → Value} {o:Oper} {w:World}
theorem exec_load1 {g i:Nat} {c:Array Value} {T:TypeId} {fr:Nat × Nat} (hg:w.heap[g]?=some (.cells c T fr)) {v:Value} (hv:c[i]?=some v):w.cell? ⟨g,i,none⟩=some v:=by
  simp only [World.cell?,hg]
  exact hv
theorem exec_loadR (ty:TypeId) (x:Operand) (ho:o.op=.load ty x) (g off:Nat) (hx:ρ x=.pointer (some ⟨g,off,none⟩)) {C:Array Value} {T:TypeId} {fr:Nat × Nat} (hg:w.heap[g]?=some (.cells C T fr))
    (cs:List Value) (hcs:(C.toList.drop off).take cs.length=cs) (d:TypeDesc) (hu:P.underlying ty=some d) (hd:d.isRow=true) (hi:(P.info? ty).map (·.size)=some cs.length):(execOp ρ o).run P w=.ok (.value (.agg cs.toArray)) w:=by
  have hc:w.rangeAt g off cs:=fun j v hj=>by
    refine exec_load1 hg ?_
    have:cs[j]?=((C.toList.drop off).take cs.length)[j]?:=by rw [hcs]
    rw [this] at hj
    have hlt:j < cs.length:=by
      have:=(List.getElem?_eq_some_iff.1 hj).1
      simp at this;omega
    rw [List.getElem?_take_of_lt hlt,List.getElem?_drop] at hj
    simpa using hj
  unfold execOp
  simp only [ho,hx,run_loadAt_mid w g off ty cs d hc hu hd hi,Sem.run_bind,Result.andThen_ok]
  rfl
theorem exec_storeR (ty:TypeId) (x y:Operand) (ho:o.op=.store ty x y) (g:Nat) (cells:Array Value) (hx:ρ x=.pointer (some ⟨g,0,none⟩)) (hy:ρ y=.agg cells)
    {t:TypeId} {old:Array Value} (hg:w.heap[g]?=some (.cells old t (0,0))) (hi:(P.info? ty).map (·.size)=some cells.size) (hold:old.size=cells.size) (h1:cells.all (·.oneCell')=true):
    (execOp ρ o).run P w=.ok .skip (w.setRow g cells):=by
  unfold execOp
  simp only [ho,hx,hy,Instr.storeAt,Instr.sureAddr,Sem.run_bind,Sem.run_pure,Result.andThen_ok,run_storeVar_row w g t ty old cells hg hi hold h1]
theorem exec_storeC (ty:TypeId) (x y:Operand) (ho:o.op=.store ty x y) (g i:Nat) (v:Value) (hx:ρ x=.pointer (some ⟨g,i,none⟩)) (hy:ρ y=v) (hv:v.cells=#[v]) (h1:v.oneCell'=true)
    (hi:(P.info? ty).map (·.size)=some 1) {t:TypeId} {old:Array Value} (hg:w.heap[g]?=some (.cells old t (0,0))) (hlt:i < old.size):(execOp ρ o).run P w=.ok .skip (w.setCell ⟨g,i,none⟩ v):=by
  have e:∀ p,storeVar ty p v=storeVar ty p (.agg #[v]):=fun p=>by unfold storeVar;rw [hv];rfl
  have ht:w.there g i (#[v]:Array Value).size:=fun j hj=>by
    have:j=0:=by simpa using hj
    subst this
    refine ⟨?_,?_⟩
    · rw [exec_load1 hg (v:=old[i]) (by simp [hlt])];rfl
    · simp [World.frozen?,hg]
  unfold execOp
  simp only [ho,hx,hy,Instr.storeAt,Instr.sureAddr,Sem.run_bind,Sem.run_pure,Result.andThen_ok,e,run_storeVar_mid w g i ty #[v] ht hi (by simp [h1])]
  rfl
end
theorem exec_build {P:Program} {ρ:Operand → Value} {o:Oper} {w:World} {t:TypeId} {parts:Array (Nat × Operand)} {vs:Array (Nat × Value)} {cells:Array Value} (ho:o.op=.build t parts) (hp:parts.map (fun p=>(p.1,ρ p.2))=vs) (hf:P.built t vs.toList=some cells):
    (execOp ρ o).run P w=.ok (.value (.agg cells)) w:=by
  have e:(parts.map fun x=>match x with | (i,y)=>(i,ρ y))=vs:=hp
  unfold execOp
  simp only [ho,Sem.run_bind]
  rw [show (parts.map fun x=>match x with | (i,y)=>(i,ρ y))=vs from hp,run_build w t vs cells hf]
  rfl
theorem parts1 {ρ:Operand → Value} {i:Nat} {x:Operand} {a:Value} (h:ρ x=a):(#[(i,x)]:Array (Nat × Operand)).map (fun p=>(p.1,ρ p.2))=#[(i,a)]:=by simp [h]
theorem parts2 {ρ:Operand → Value} {i j:Nat} {x y:Operand} {a b:Value} (h:ρ x=a) (h2:ρ y=b):(#[(i,x),(j,y)]:Array (Nat × Operand)).map (fun p=>(p.1,ρ p.2))=#[(i,a),(j,b)]:=by simp [h,h2]
theorem parts3 {ρ:Operand → Value} {i j k:Nat} {x y z:Operand} {a b c:Value} (h:ρ x=a) (h2:ρ y=b) (h3:ρ z=c):(#[(i,x),(j,y),(k,z)]:Array (Nat × Operand)).map (fun p=>(p.1,ρ p.2))=#[(i,a),(j,b),(k,c)]:=by simp [h,h2,h3]
theorem parts4 {ρ:Operand → Value} {i j k l:Nat} {x y z t:Operand} {a b c d:Value} (h:ρ x=a) (h2:ρ y=b) (h3:ρ z=c) (h4:ρ t=d):(#[(i,x),(j,y),(k,z),(l,t)]:Array (Nat × Operand)).map (fun p=>(p.1,ρ p.2))=#[(i,a),(j,b),(k,c),(l,d)]:=by simp [h,h2,h3,h4]
section
variable {P:Program} {ρ:Operand → Value} {o:Oper} {w:World}
theorem exec_call {c:Call} {f:FuncId} {fn:Func} {args:Array Value} (ho:o.op=.call c) (hc:c.callee=.value (.func f)) (hr:ρ (.func f)=.func (.func f) #[] #[]) (ha:c.args.map ρ=args) (hf:P.funcs[f]?=some fn)
    (hn:(fn.name == "runtime.NumGoroutine")=false) (hb:fn.body.isNone=false):(execOp ρ o).run P w=.ok (.enter f args) w:=by
  have hb':¬ fn.body=none:=by
    intro e;rw [e] at hb;cases hb
  have hn':¬ fn.name = "runtime.NumGoroutine" := by simpa using hn
  simp [execOp,ho,resolve,hc,hr,ha,Deferred.ofValue,invoke,callFunc,hf,hb',hn',go_sem]
theorem args0:(#[]:Array Operand).map ρ=#[]:=by simp
theorem args1 {x:Operand} {a:Value} (h:ρ x=a):(#[x]).map ρ=#[a]:=by simp [h]
theorem args2 {x y:Operand} {a b:Value} (h:ρ x=a) (h2:ρ y=b):(#[x,y]).map ρ=#[a,b]:=by simp [h,h2]
theorem args3 {x y z:Operand} {a b c:Value} (h:ρ x=a) (h2:ρ y=b) (h3:ρ z=c):(#[x,y,z]).map ρ=#[a,b,c]:=by simp [h,h2,h3]
theorem args4 {x y z t:Operand} {a b c d:Value} (h:ρ x=a) (h2:ρ y=b) (h3:ρ z=c) (h4:ρ t=d):(#[x,y,z,t]).map ρ=#[a,b,c,d]:=by simp [h,h2,h3,h4]
theorem args5 {x y z t s:Operand} {a b c d e:Value} (h:ρ x=a) (h2:ρ y=b) (h3:ρ z=c) (h4:ρ t=d) (h5:ρ s=e):(#[x,y,z,t,s]).map ρ=#[a,b,c,d,e]:=by simp [h,h2,h3,h4,h5]
end
theorem calls_abs {P:Program} {f:FuncId} {fn:Func} {c:Code} {args:Array Value} {w:World} {R:Ending → World → Prop} (hf:P.funcs[f]?=some fn) (hb:fn.body=some c) (hn:args.size ≤ fn.ntmps)
    (h:∀ a:Act,a.defers=[] → a.tmps.size=fn.ntmps → (∀ j,j < args.size → a.tmps.getD j undef=args.getD j undef) → c.wp P (bodyPost P fn R) a w):Calls P f args w R:=by
  refine calls_of_wp hf hb (h _ rfl (by simp;omega) fun j hj=>?_)
  simp only [Array.getD_eq_getD_getElem?]
  rw [Array.getElem?_append_left hj]
section
variable {P:Program} {fn:Func} {w:World} {tmps:Array Value}
theorem load_row {g:Nat} {c:Array Value} {T:TypeId} (t:TypeId) (hg:w.heap[g]?=some (.cells c T (0,0))) {d:TypeDesc} (hu:P.underlying t=some d) (hd:(match d with | .struct _ | .array _ _=>true | _=>false)=true) (hi:(P.info? t).map (·.size)=some c.size):(loadVar t ⟨g,0,none⟩).run P w=.ok (.agg c) w:=
  run_loadVar_row w g T t c (0,0) d hg hu hd hi
theorem as_addr {v:Value} {p:Addr} (h:v=.pointer (some p)):(asAddr v).run P w=.ok p w:=by subst h;rfl
theorem res_c {d:Tmp} {t:TypeId} {p:Addr} {v:Value} (h:fn.results=#[.cell d t]) (hs:tmps.getD d undef=.pointer (some p)) (hl:(loadVar t p).run P w=.ok v w):(results fn tmps).run P w=.ok v w:=by
  have hs':tmps[d]?.getD undef=.pointer (some p):=by rw [← hs,Array.getD_eq_getD_getElem?]
  simp [results,h,hs',asAddr,hl]
theorem res_ct {d:Tmp} {t:TypeId} {p:Addr} {v x:Value} {e:Tmp} (h:fn.results=#[.cell d t,.tmp e]) (hs:tmps.getD d undef=.pointer (some p)) (hl:(loadVar t p).run P w=.ok v w) (hx:tmps.getD e undef=x):(results fn tmps).run P w=.ok (.tuple #[v,x]) w:=by
  have hs':tmps[d]?.getD undef=.pointer (some p):=by rw [← hs,Array.getD_eq_getD_getElem?]
  have hx':tmps[e]?.getD undef=x:=by rw [← hx,Array.getD_eq_getD_getElem?]
  simp [results,h,hs',asAddr,hl,hx']
theorem res_t {d:Tmp} {v:Value} (h:fn.results=#[.tmp d]) (hs:tmps.getD d undef=v):(results fn tmps).run P w=.ok v w:=by
  rw [results_tmp h,hs]
theorem res_tt {d e:Tmp} {v x:Value} (h:fn.results=#[.tmp d,.tmp e]) (hs:tmps.getD d undef=v) (hx:tmps.getD e undef=x):(results fn tmps).run P w=.ok (.tuple #[v,x]) w:=by
  rw [results_tmp2 h,hs,hx]
end
section
variable {P:Program} {ρ:Operand → Value} {o:Oper} {w:World}
theorem exec_shr {t z:TypeId} {x y:Operand} (ho:o.op=.binOp .shr t x y z) {k:IntKind} {a n:Int} (hx:ρ x=.int .u64 a) (hy:ρ y=.int k n) (h0:0 ≤ n) (h1:n ≤ 64):(execOp ρ o).run P w=.ok (.value (.int .u64 (a / 2 ^ n.toNat))) w:=by
  have e1:¬ n < 0:=by omega
  have e2:min n.toNat 64=n.toNat:=by omega
  simp [execOp,ho,hx,hy,go_sem,Op.shift,e1,e2]
theorem exec_shl {t z:TypeId} {x y:Operand} (ho:o.op=.binOp .shl t x y z) {k:IntKind} {a n:Int} (hx:ρ x=.int .u64 a) (hy:ρ y=.int k n) (h0:0 ≤ n) (h1:n ≤ 64):(execOp ρ o).run P w=.ok (.value (.int .u64 ((a * 2 ^ n.toNat) % 18446744073709551616))) w:=by
  have e1:¬ n < 0:=by omega
  have e2:min n.toNat 64=n.toNat:=by omega
  simp [execOp,ho,hx,hy,go_sem,Op.shift,e1,e2]
  rw [IntKind.wrap_u64]
theorem exec_quo {t z:TypeId} {x y:Operand} (ho:o.op=.binOp .quo t x y z) {a b:Int} (hx:ρ x=.int .u64 a) (hy:ρ y=.int .u64 b) (ha:0 ≤ a) (hb:0 < b) (hl:a < 18446744073709551616):(execOp ρ o).run P w=.ok (.value (.int .u64 (a / b))) w:=by
  have e1:¬ b=0:=by omega
  simp [execOp,ho,hx,hy,go_sem,e1]
  rw [Int.tdiv_eq_ediv_of_nonneg ha,IntKind.wrap_u64,Int.emod_eq_of_lt (Int.ediv_nonneg ha (by omega))]
  have:=Int.ediv_le_self b ha
  omega
theorem exec_rem {t z:TypeId} {x y:Operand} (ho:o.op=.binOp .rem t x y z) {a b:Int} (hx:ρ x=.int .u64 a) (hy:ρ y=.int .u64 b) (ha:0 ≤ a) (hb:0 < b):(execOp ρ o).run P w=.ok (.value (.int .u64 (a % b))) w:=by
  have e1:¬ b=0:=by omega
  simp [execOp,ho,hx,hy,go_sem,e1]
  exact Int.tmod_eq_emod_of_nonneg ha
end
open Go
def TabR (l:List (Value → World → Prop)) (i:Nat) (v u:Value) (w:World):Prop:=match l[i]? with
  | some p=>p v w
  | none=>True
def TabV (l:List (Value → Prop)) (i:Nat) (v u:Value) (w:World):Prop:=match l[i]? with
  | some p=>p v
  | none=>True
theorem wanted_cond {ops:Array Oper} {a:Act} {o oj:Oper} (j d:Nat) (C b want:Bool) (h:a.tmps.getD d undef=(bif C then .bool b else undef)) (hlt:d < a.tmps.size) (hg:o.guard=some (j,want)) (hj:ops[j]?=some oj) (hd:oj.dst=some d):
    Region.wanted o (yielded ops a.tmps)=(C && (b == want)):=by
  cases C
  · have e:a.tmps[d]?=some undef:=by
      rw [Array.getElem?_eq_getElem hlt]
      simp only [Array.getD_eq_getD_getElem?,Array.getElem?_eq_getElem hlt,Option.getD_some] at h
      rw [h];rfl
    have y:yielded ops a.tmps j=none:=by
      unfold yielded
      rw [hj]
      simp only [Option.bind_some,hd,e]
      rfl
    unfold Region.wanted
    rw [hg]
    simp only [y]
    rfl
  · have e:a.tmps[d]?=some (.bool b):=by
      rw [Array.getElem?_eq_getElem hlt]
      simp only [Array.getD_eq_getD_getElem?,Array.getElem?_eq_getElem hlt,Option.getD_some] at h
      rw [h];rfl
    have y:yielded ops a.tmps j=some b:=by
      unfold yielded
      rw [hj]
      simp only [Option.bind_some,hd,e]
    unfold Region.wanted
    rw [hg]
    simp only [y]
    cases b <;> cases want <;> rfl
end Go.Proofs.YtbpehbeakhocnaaGreatDoor
