import Derived.Test.YtjhedldplmhmjaaDoorERd04
import Derived.Lib.MinMax
import Derived.WalkKit
import Derived.WalkSpells
import Derived.WalkLawsBesides
set_option linter.unusedVariables false
set_option linter.unusedSimpArgs false
set_option linter.unnecessarySimpa false
namespace Go.Proofs.YtjhedldplmhmjaaDoor
open Go Go.RowKit
set_option linter.unusedVariables false
set_option linter.unusedSimpArgs false
section
variable {P:Program} {ρ:Operand → Value} {o:Oper} {w:World}
end
end Go.Proofs.YtjhedldplmhmjaaDoor
namespace Go.Proofs.YtjhedldplmhmjaaDoor
open Go
set_option linter.unusedVariables false
def TabV (l:List (Value → Prop)) (i:Nat) (v u:Value) (w:World):Prop:=match l[i]? with
  | some p=>p v
  | none=>True
theorem wanted_cond {ops:Array Oper} {a:Act} {o oj:Oper} (j d:Nat) (C b want:Bool) (h:a.tmps.getD d undef=(bif C then .bool b else undef)) (hlt:d < a.tmps.size) (hg:o.guard=some (j,want)) (hj:ops[j]?=some oj) (hd:oj.dst=some d):
    Region.wanted o (yielded ops a.tmps)=(C && (b == want)):=by
  cases C
  · have e:a.tmps[d]?=some undef:=by
      rw [Array.getElem?_eq_getElem hlt]
      simp only [Array.getD_eq_getD_getElem?,Array.getElem?_eq_getElem hlt,Option.getD_some] at h
      rw [h];rfl
    have y:yielded ops a.tmps j=none:=by
      unfold yielded
      rw [hj]
      simp only [Option.bind_some,hd,e]
      rfl
    unfold Region.wanted
    rw [hg]
    simp only [y]
    rfl
  · have e:a.tmps[d]?=some (.bool b):=by
      rw [Array.getElem?_eq_getElem hlt]
      simp only [Array.getD_eq_getD_getElem?,Array.getElem?_eq_getElem hlt,Option.getD_some] at h
      rw [h];rfl
    have y:yielded ops a.tmps j=some b:=by
      unfold yielded
      rw [hj]
      simp only [Option.bind_some,hd,e]
    unfold Region.wanted
    rw [hg]
    simp only [y]
    cases b <;> cases want <;> rfl
end Go.Proofs.YtjhedldplmhmjaaDoor
namespace Go.Proofs.YtjhedldplmhmjaaDoor
open Go Go.RowKit
set_option linter.unusedVariables false
set_option linter.unusedSimpArgs false
def TabO (l:List (Option Value)) (i:Nat) (v:Value):Prop:=match l[i]? with
  | some (some x)=>v=x
  | _=>True
abbrev tabs (a b:List (Option Value)):List (Option Value):=List.append a b
abbrev pt (g o:Nat):Value:=.pointer (some ⟨g,o,none⟩)
abbrev bx (g:Nat) (t:TypeId) (c:Array Value):EB:=⟨g,t,c,none,#[]⟩
def stored (B:List EB) (g:Nat):Prop:=∃ e ∈ B,e.k.isSome=true ∧ e.g=g
def SY (W w0:World) (B:List EB) (A:List EA) (fl:Nat → Bool) (u:Nat → Value) (w:World):Prop:=
  SX W w0.heap.size B A fl u w ∧ ∀ g,g < w0.heap.size → ¬ stored B g → w.heap[g]?=w0.heap[g]?
section
variable {P:Program} {ops:Array Oper} {Q:Exit → Act → World → Prop} {n:Nat} {a0:Act} {w0 W:World} {B:List EB} {A:List EA} {l:List (Option Value)}
structure Cx (ops:Array Oper) (n:Nat) (a0:Act) (w0 W:World) (B:List EB) (A:List EA) (l:List (Option Value)) (i:Nat) (o:Oper) (fl:Nat → Bool) (a:Act) (w:World):Prop where
  ho:ops[i]?=some o
  S:SY W w0 B A fl (slotOf a) w
  fi:fl i=false
  clo:∀ (k:Nat) (ok:Oper),ops[k]?=some ok → fl k=true → ∀ e ∈ ok.after,Region.binds .any e=true → fl e.on=true
  sz:a.tmps.size=n
  rest:∀ j,(∀ (i:Nat) (o:Oper),ops[i]?=some o → o.dst ≠ some j) → a.tmps.getD j undef=a0.tmps.getD j undef
  done:∀ (p:Nat) (e:_),o.after[p]?=some e → Region.binds .any e=true → fl e.on=true ∧ ∀ (o':Oper),ops[e.on]?=some o' → TabO l e.on (own o' a)
  und:∀ (k:Nat) (ok:Oper) (d:Nat),ops[k]?=some ok → ok.dst=some d → fl k=false → a.tmps.getD d undef=a0.tmps.getD d undef
def Post (w0 W:World) (B:List EB) (A:List EA) (l:List (Option Value)) (i:Nat) (o:Oper) (fl:Nat → Bool) (a:Act):Act → World → Prop:=fun a' w'=>∃ v,a'=a.put o.dst v ∧ TabO l i (own o a') ∧ SY W w0 B A (upd fl i) (slotOf a') w'
structure Beh (ops:Array Oper) (n:Nat) (a0:Act) (w0 W:World) (B:List EB) (A:List EA) (l:List (Option Value)) (a:Act) (w:World):Prop where
  d:a.defers=[]
  z:a.tmps.size=n
  r:∀ j,chkNot ops j=true → ∀ {x:Value},a0.tmps.getD j undef=x → a.tmps.getD j undef=x
  v:∀ i:Nat,∀ {o:Oper} {d:Nat} {x:Value},ops[i]?=some o → o.dst=some d → l[i]?=some (some x) → a.tmps.getD d undef=x
  b:Below W.heap.size W w
  m:w0.heap.size ≤ w.heap.size
  rows:AllL (fun e=>w.heap[e.g]?=some (.cells (endOf e.k e.old e.new) e.t (0,0))) B
  al:AllL (fun e=>∃ g,a.tmps.getD e.d undef=.pointer (some ⟨g,0,none⟩) ∧ w0.heap.size ≤ g ∧ w.heap[g]?=some (.cells (endOf e.k e.old e.new) e.t (0,0))) A
  ps:A.Pairwise (fun e e'=>a.tmps.getD e.d undef ≠ a.tmps.getD e'.d undef)
  kp:∀ {g:Nat} {c:Array Value} {t:TypeId},w0.heap[g]?=some (.cells c t (0,0)) → AllL (fun e=>e.k=none ∨ g ≠ e.g) B → w.heap[g]?=some (.cells c t (0,0))
  un:∀ g,g < w0.heap.size → ¬ stored B g → w.heap[g]?=w0.heap[g]?
def Hops (P:Program) (ops:Array Oper) (Q:Exit → Act → World → Prop) (n:Nat) (a0:Act) (w0 W:World) (B:List EB) (A:List EA) (l:List (Option Value)) (i:Nat) (L:List Oper):Prop:=
  ∀ j o,L[j]?=some o → ∀ fl a w,Cx ops n a0 w0 W B A l (i + j) o fl a w → wpOp P ops Q (i + j) (Post w0 W B A l (i + j) o fl a) a w
theorem hn {i:Nat}:Hops P ops Q n a0 w0 W B A l i []:=fun j o h=>by simp at h
theorem hc {i:Nat} {o:Oper} {L:List Oper} (h:∀ fl a w,Cx ops n a0 w0 W B A l i o fl a w → wpOp P ops Q i (Post w0 W B A l i o fl a) a w) (t:Hops P ops Q n a0 w0 W B A l (i + 1) L):Hops P ops Q n a0 w0 W B A l i (o :: L):=fun j o' hj=>by
  cases j with
  | zero=>
    have e:o=o':=by simpa using hj
    subst e
    exact h
  | succ j=>
    have:=t j o' (by simpa using hj)
    rw [show i + 1 + j=i + (j + 1) by omega] at this
    exact this
theorem hk {i:Nat} {o:Oper} {L:List Oper} (h:∀ {fl a w},Cx ops n a0 w0 W B A l i o fl a w → wpOp P ops Q i (Post w0 W B A l i o fl a) a w) (t:Hops P ops Q n a0 w0 W B A l (i + 1) L):Hops P ops Q n a0 w0 W B A l i (o :: L):=hc (fun _ _ _ c=>h c) t
def chkReg (ops:Array Oper) (n:Nat) (B:List EB) (A:List EA):Bool:=(chkBack ops && chkDst ops && chkIn ops n) && (B.all (fun e=>kIn e.k ops.size) && A.all (fun e=>kIn e.k ops.size && Nat.blt e.i ops.size))
theorem go_reg {b:Bool} {id:Nat} (B:List EB) (A:List EA) (l:List (Option Value)) (hm:P.follows .mixedOrders=true) (hd0:a0.defers=[]) (hz:a0.tmps.size=n) (hB:Below W.heap.size W w0) (hk:chkReg ops n B A=true)
    (hrow:AllL (fun e=>w0.heap[e.g]?=some (.cells e.old e.t (0,0))) B)
    (hop:Hops P ops Q n a0 w0 W B A l 0 ops.toList) (hq:∀ a w,Beh ops n a0 w0 W B A l a w → Q .normal a w):(Code.region id ops b).wp P Q a0 w0:=by
  unfold chkReg at hk
  simp only [Bool.and_eq_true] at hk
  obtain ⟨⟨⟨h1,h2⟩,h3⟩,h4,h5⟩:=hk
  refine wp_regx (SY W w0 B A) (TabO l) hm (back_of h1) (dst_of h2) (in_ofz h3 hz) (fun fl w1 hfl hw=>⟨SX.start' hw hB hfl ?_ hrow,?_⟩) ?_ ?_
  · rw [Bool.and_eq_true]
    refine ⟨h4,?_⟩
    rw [List.all_eq_true] at h5 ⊢
    intro e he
    have:=h5 e he
    rw [Bool.and_eq_true] at this
    exact this.2
  · intro g _ _
    rcases hw with rfl | rfl <;> rfl
  · intro i o a w fl ho hS hfi clo hsz hrest hdone hund
    have:=hop i o (by rw [Array.getElem?_toList];exact ho) fl a w
    rw [Nat.zero_add] at this
    exact this ⟨ho,hS,hfi,clo,hsz.trans hz,hrest,hdone,hund⟩
  · intro a w fl hd hs hrest hR hfl hS
    obtain ⟨b1,b2,b3,b4,b5⟩:=hS.1.finish hfl (by rw [Bool.and_eq_true];exact ⟨h4,h5⟩)
    refine hq a w ⟨hd.trans hd0,hs.trans hz,fun j hj x hx=>(hrest j (not_of hj)).trans hx,fun i o d x ho hod hl=>?_,b1,b2,allL.2 fun e he=>(allL.1 b3 e he).2,b4,b5,fun {g c t} hg hn=>?_,hS.2⟩
    · have:=hR i o ho
      unfold TabO at this
      rw [hl] at this
      unfold own at this
      rw [hod] at this
      exact this
    · rw [hS.2 g (Array.getElem?_eq_some_iff.1 hg).1 ?_]
      · exact hg
      · rintro ⟨e,he,hk,eg⟩
        rcases allL.1 hn e he with h | h
        · rw [h] at hk;cases hk
        · exact h eg.symm
section
variable {i:Nat} {o:Oper} {fl:Nat → Bool} {a:Act} {w w':World}
theorem Cx.dn (c:Cx ops n a0 w0 W B A l i o fl a w) (p:Nat) {e o' d x} (h1:o.after[p]?=some e) (h2:Region.binds .any e=true) (h3:ops[e.on]?=some o') (h4:o'.dst=some d) (h5:l[e.on]?=some (some x)):a.tmps.getD d undef=x:=by
  have:=(c.done p e h1 h2).2 o' h3
  unfold TabO at this
  rw [h5] at this
  unfold own at this
  rw [h4] at this
  exact this
theorem Cx.ro (c:Cx ops n a0 w0 W B A l i o fl a w) (d:Nat) (h:chkNot ops d=true) {x} (s:a0.tmps.getD d undef=x):a.tmps.getD d undef=x:=(c.rest d (not_of h)).trans s
def isLater (ops:Array Oper) (k i:Nat):Bool:=match ops[k]? with | some ok=>ok.after.any (fun e=>Nat.beq e.on i && Region.binds .any e) | none=>false
theorem Cx.rn (c:Cx ops n a0 w0 W B A l i o fl a w) (j:Nat) {g t old new} (hj:B[j]?=some ⟨g,t,old,none,new⟩):w.heap[g]?=some (.cells old t (0,0)):=c.S.1.rowNi j hj
theorem wn (h:o.guard=none):Region.wanted o (yielded ops a.tmps)=true:=by unfold Region.wanted;rw [h]
theorem SY.quiet (h:SY W w0 B A fl (slotOf a) w) (i:Nat) {dst:Option Nat} {v:Value} (hc:chkX B A i dst=true) (b:Below w.heap.size w w'):SY W w0 B A (upd fl i) (slotOf (a.put dst v)) w':=
  ⟨h.1.quiet i hc b,fun g hg hn=>(b.block g (by have:=h.1.2.1;omega)).trans (h.2 g hg hn)⟩
theorem own_some {d:Nat} {v:Value} (hd:o.dst=some d) (hs:a.tmps.size=n) (hlt:Nat.blt d n=true):own o (a.put o.dst v)=v:=own_put hd (by rw [hs];exact Nat.le_of_ble_eq_true hlt)
theorem Cx.val (c:Cx ops n a0 w0 W B A l i o fl a w) (hw:Region.wanted o (yielded ops a.tmps)=true) {v:Value} (hr:(execOp a.eval o).run P w=.ok (.value v) w) {d:Nat} (hd:o.dst=some d) (hlt:Nat.blt d n=true) (ht:TabO l i v) (hk:chkX B A i o.dst=true):
    wpOp P ops Q i (Post w0 W B A l i o fl a) a w:=
  wpOp_valw c.ho hw hr ⟨_,rfl,by rw [own_some hd c.sz hlt];exact ht,c.S.quiet i hk (Below.refl _ _)⟩
theorem Cx.no (c:Cx ops n a0 w0 W B A l i o fl a w) (hw:Region.wanted o (yielded ops a.tmps)=false) {d:Nat} (hd:o.dst=some d) (hlt:Nat.blt d n=true) (ht:TabO l i undef) (hk:chkX B A i o.dst=true):
    wpOp P ops Q i (Post w0 W B A l i o fl a) a w:=
  wpOp_no c.ho hw ⟨_,rfl,by rw [own_some hd c.sz hlt];exact ht,c.S.quiet i hk (Below.refl _ _)⟩
theorem Cx.call (c:Cx ops n a0 w0 W B A l i o fl a w) (hw:Region.wanted o (yielded ops a.tmps)=true) {cl:Call} {f:FuncId} {fn:Func} {args:Array Value} (ho:o.op=.call cl) (hc:cl.callee=.value (.func f)) (ha:cl.args.map a.eval=args) (hf:P.funcs[f]?=some fn)
    (hn:(fn.name == "runtime.NumGoroutine")=false) (hb:fn.body.isNone=false) {v:Value} (K:Calls P f args w fun e w'=>e=.returned v ∧ Below w.heap.size w w') {d:Nat} (hd:o.dst=some d) (hlt:Nat.blt d n=true) (ht:TabO l i v) (hk:chkX B A i o.dst=true):
    wpOp P ops Q i (Post w0 W B A l i o fl a) a w:=by
  refine wpOp_callw c.ho hw (exec_call ho hc rfl ha hf hn hb) (K.mono ?_)
  rintro e w' ⟨rfl,b⟩
  exact ⟨_,rfl,_,rfl,by rw [own_some hd c.sz hlt];exact ht,c.S.quiet i hk b⟩
theorem Cx.al (c:Cx ops n a0 w0 W B A l i o fl a w) (hw:Region.wanted o (yielded ops a.tmps)=true) (j:Nat) {d t old k new} (hA:A[j]?=some ⟨i,d,t,old,k,new⟩) (hr:(execOp a.eval o).run P w=.ok (.value (.pointer (some ⟨w.heap.size,0,none⟩))) (w.alloc (.cells old t)))
    (hd:o.dst=some d) (hlt:Nat.blt d n=true) (hc:chkX B (A.eraseIdx j) i (some d)=true) (hk:kNot k i=true) (hl:(match k with | none=>true | some k=>isLater ops k i)=true) (ht:TabO l i (.pointer (some ⟨w.heap.size,0,none⟩))):
    wpOp P ops Q i (Post w0 W B A l i o fl a) a w:=by
  rw [List.eraseIdx_eq_take_drop_succ] at hc
  refine wpOp_valw c.ho hw hr ⟨_,rfl,by rw [own_some hd c.sz hlt];exact ht,?_,fun g hg hn=>?_⟩
  · rw [hd]
    refine c.S.1.alloc i d t old _ _ k new (split_at hA) hc hk (by rw [c.sz];exact Nat.le_of_ble_eq_true hlt) ?_
    cases k with
    | none=>trivial
    | some k=>exact not_yet c.clo c.fi hl
  · exact (heap_past w _ g (by have:=c.S.1.2.1;omega)).trans (c.S.2 g hg hn)
theorem Cx.stA (c:Cx ops n a0 w0 W B A l i o fl a w) (hw:Region.wanted o (yielded ops a.tmps)=true) {ty y d} (ho:o.op=.store ty (.tmp d) y) (hd:o.dst=none) (j p:Nat) {ja t old cells e} (hA:A[j]?=some ⟨ja,d,t,old,some i,cells⟩) (hp:o.after[p]?=some e) (hb:Region.binds .any e=true) (he:e.on=ja) (hy:a.eval y=.agg cells)
    (hi:(P.info? ty).map (·.size)=some cells.size) (hs:old.size=cells.size) (h1:cells.all (·.oneCell')=true) (hW:W.heap.size ≤ w0.heap.size) (hji:Nat.beq ja i=false) (hk:chkX B (A.eraseIdx j) i none=true) (ht:TabO l i undef):
    wpOp P ops Q i (Post w0 W B A l i o fl a) a w:=by
  rw [List.eraseIdx_eq_take_drop_succ] at hk
  have hf:fl ja=true:=by rw [← he];exact (c.done p e hp hb).1
  obtain ⟨g,hu,hn,hr⟩:=c.S.1.rowA _ _ ja d t old cells i (split_at hA) hf c.fi
  have st:=stored_setRow w g cells old t hr
  refine wpOp_skpw c.ho hw (exec_storeR ty (.tmp d) y ho g cells hu hy hr hi hs h1) ⟨undef,rfl,?_,?_,?_⟩
  · unfold own;rw [hd];exact ht
  · rw [hd];exact c.S.1.storeA i ja d t old cells _ _ (split_at hA) hW hf g hu (fun e=>by rw [e] at hji;simp at hji) hk st
  · intro k hk1 hn2
    exact (st.other k (by omega)).trans (c.S.2 k hk1 hn2)
end
end
section
variable {ops:Array Oper} {n:Nat} {a0:Act} {w0 W:World} {B:List EB} {A:List EA} {l:List (Option Value)} {i:Nat} {o:Oper} {fl:Nat → Bool} {a:Act} {w:World}
theorem Cx.wy (c:Cx ops n a0 w0 W B A l i o fl a w) {j:Nat} {want:Bool} {oj:Oper} {d:Nat} (hg:o.guard=some (j,want)) (hj:ops[j]?=some oj) (hd:oj.dst=some d) (hlt:Nat.blt d n=true) (h:a.tmps.getD d undef=.bool want):Region.wanted o (yielded ops a.tmps)=true:=
  wanted_yes j d want h (by rw [c.sz];exact Nat.le_of_ble_eq_true hlt) hg hj hd (by simp)
theorem Cx.wu (c:Cx ops n a0 w0 W B A l i o fl a w) {j:Nat} {want:Bool} {oj:Oper} {d:Nat} (hg:o.guard=some (j,want)) (hj:ops[j]?=some oj) (hd:oj.dst=some d) (hlt:Nat.blt d n=true) (h:a.tmps.getD d undef=undef):Region.wanted o (yielded ops a.tmps)=false:=
  Eq.trans (wanted_cond j d false false want (by rw [h];rfl) (by rw [c.sz];exact Nat.le_of_ble_eq_true hlt) hg hj hd) rfl
end
section
variable {P:Program} {ops:Array Oper} {Q:Exit → Act → World → Prop} {n:Nat} {a0:Act} {w0 W:World} {B:List EB} {A:List EA} {l:List (Option Value)} {i:Nat} {o:Oper} {fl:Nat → Bool} {a:Act} {w:World}
def look (ops:Array Oper) (l:List (Option Value)) (o:Oper) (p:Nat):Option (Nat × Value):=match o.after[p]? with
  | some e=>bif Region.binds .any e then (match ops[e.on]?,l[e.on]? with
    | some o',some (some x)=>(match o'.dst with | some d=>some (d,x) | none=>none)
    | _,_=>none) else none
  | none=>none
theorem Cx.u (c:Cx ops n a0 w0 W B A l i o fl a w) (p:Nat) {d:Nat} {x:Value} (h:look ops l o p=some (d,x)):a.tmps.getD d undef=x:=by
  unfold look at h
  cases h1:o.after[p]? with
  | none=>rw [h1] at h;cases h
  | some e=>
    rw [h1] at h
    simp only at h
    cases h2:Region.binds .any e with
    | false=>rw [h2] at h;cases h
    | true=>
      rw [h2,cond_true] at h
      cases h3:ops[e.on]? with
      | none=>rw [h3] at h;simp at h
      | some o'=>
        cases h5:l[e.on]? with
        | none=>rw [h3,h5] at h;simp at h
        | some y=>
          cases y with
          | none=>rw [h3,h5] at h;simp at h
          | some x'=>
            rw [h3,h5] at h
            simp only at h
            cases h4:o'.dst with
            | none=>rw [h4] at h;simp at h
            | some d'=>
              rw [h4] at h
              simp only [Option.some.injEq,Prod.mk.injEq] at h
              obtain ⟨rfl,rfl⟩:=h
              exact c.dn p h1 h2 h3 h4 h5
def okV (o:Oper) (n i:Nat) (B:List EB) (A:List EA):Bool:=match o.guard,o.dst with
  | none,some d=>Nat.blt d n && chkX B A i (some d)
  | _,_=>false
theorem Cx.v (c:Cx ops n a0 w0 W B A l i o fl a w) {v:Value} (hr:(execOp a.eval o).run P w=.ok (.value v) w) (hk:okV o n i B A=true) (ht:TabO l i v):wpOp P ops Q i (Post w0 W B A l i o fl a) a w:=by
  unfold okV at hk
  cases hg:o.guard with
  | some g=>rw [hg] at hk;cases hk
  | none=>
    cases hd:o.dst with
    | none=>rw [hg,hd] at hk;cases hk
    | some d=>
      rw [hg,hd] at hk
      simp only [Bool.and_eq_true] at hk
      exact c.val (wn hg) hr hd hk.1 ht (by rw [hd];exact hk.2)
def okF (fn:Func):Bool:=!(fn.name == "runtime.NumGoroutine") && !fn.body.isNone
theorem Cx.c (c:Cx ops n a0 w0 W B A l i o fl a w) {f:FuncId} {xs:Array Operand} {ts:Array TypeId} {fn:Func} {args:Array Value} (ho:o.op=.call ⟨.value (.func f),xs,ts⟩) (ha:xs.map a.eval=args) (hf:P.funcs[f]?=some fn)
    (hn:okF fn=true) {v:Value} (K:Calls P f args w fun e w'=>e=.returned v ∧ Below w.heap.size w w') (hk:okV o n i B A=true) (ht:TabO l i v):wpOp P ops Q i (Post w0 W B A l i o fl a) a w:=by
  unfold okV at hk
  unfold okF at hn
  simp only [Bool.and_eq_true,Bool.not_eq_true'] at hn
  cases hg:o.guard with
  | some g=>rw [hg] at hk;cases hk
  | none=>
    cases hd:o.dst with
    | none=>rw [hg,hd] at hk;cases hk
    | some d=>
      rw [hg,hd] at hk
      simp only [Bool.and_eq_true] at hk
      exact c.call (wn hg) ho rfl ha hf hn.1 hn.2 K hd hk.1 ht (by rw [hd];exact hk.2)
end
section
variable {P:Program} {ops:Array Oper} {n:Nat} {a0:Act} {w0 W:World} {B:List EB} {A:List EA} {l:List (Option Value)} {i:Nat} {o:Oper} {fl:Nat → Bool} {a:Act} {w:World}
theorem Cx.rq (c:Cx ops n a0 w0 W B A l i o fl a w) (d:Nat) {x} (s:a0.tmps.getD d undef=x) (h:chkNot ops d=true:=by kernel_rfl):a.tmps.getD d undef=x:=c.ro d h s
theorem Beh.q (f:Beh ops n a0 w0 W B A l a w) (j:Nat) {x:Value} (s:a0.tmps.getD j undef=x) (h:chkNot ops j=true:=by kernel_rfl):a.tmps.getD j undef=x:=f.r j h s
def stillB (B:List EB):Bool:=B.all (fun e=>e.k.isNone)
theorem Beh.k (f:Beh ops n a0 w0 W B A l a w) {g:Nat} {c:Array Value} {t:TypeId} (h:w0.heap[g]?=some (.cells c t (0,0))) (e:stillB B=true:=by rfl):w.heap[g]?=some (.cells c t (0,0)):=f.kp h (allL.2 fun x hx=>.inl (by
  have:=List.all_eq_true.1 e x hx
  simpa using this))
end
section
variable {P:Program} {ρ:Operand → Value} {o:Oper} {w:World} {x y z:Operand} {t u:TypeId} {k:IntKind} {a b:Int} {v:Value}
theorem ex_mv (ho:o.op=.move x) (hx:ρ x=v):(execOp ρ o).run P w=.ok (.value v) w:=by simp [execOp,ho,hx]
theorem ex_as (ho:o.op=.assign x) (hx:ρ x=v):(execOp ρ o).run P w=.ok (.value v) w:=by simp [execOp,ho,hx]
theorem ex_not (ho:o.op=.unOp .not t x) {c:Bool} (hx:ρ x=.bool c):(execOp ρ o).run P w=.ok (.value (.bool (!c))) w:=by simp [execOp,ho,hx,go_sem]
theorem ex_ext {j:Nat} (ho:o.op=.extract x j) {vs:Array Value} (hx:ρ x=.tuple vs) (hv:vs[j]?=some v):(execOp ρ o).run P w=.ok (.value v) w:=by simp [execOp,ho,hx,hv,go_sem,Instr.extract]
theorem ex_pt (ho:o.op=.pick x y z) (hx:ρ x=.bool true) (hy:ρ y=v):(execOp ρ o).run P w=.ok (.value v) w:=by simp [execOp,ho,hx,hy,go_sem]
theorem ex_pf (ho:o.op=.pick x y z) (hx:ρ x=.bool false) (hz:ρ z=v):(execOp ρ o).run P w=.ok (.value v) w:=by simp [execOp,ho,hx,hz,go_sem]
theorem ex_ld {g i:Nat} {c:Array Value} {T:TypeId} {fr:Nat × Nat} (ho:o.op=.load t x) (hx:ρ x=.pointer (some ⟨g,i,none⟩)) (hg:w.heap[g]?=some (.cells c T fr)) (hv:c[i]?=some v) (ha:∀ w,(isAgg t).run P w=.ok false w):(execOp ρ o).run P w=.ok (.value v) w:=by
  have hc:=exec_load1 hg hv
  simp [execOp,ho,hx,go_sem,ha,hc]
theorem ex_eq (ho:o.op=.binOp .eql t x y u) (hx:ρ x=.int k a) (hy:ρ y=.int k b):(execOp ρ o).run P w=.ok (.value (.bool (a == b))) w:=by simp [execOp,ho,hx,hy,go_sem]
theorem ex_ne (ho:o.op=.binOp .neq t x y u) (hx:ρ x=.int k a) (hy:ρ y=.int k b):(execOp ρ o).run P w=.ok (.value (.bool (a != b))) w:=by simp [execOp,ho,hx,hy,go_sem]
theorem ex_le (ho:o.op=.binOp .leq t x y u) (hx:ρ x=.int k a) (hy:ρ y=.int k b):(execOp ρ o).run P w=.ok (.value (.bool (decide (a ≤ b)))) w:=by simp [execOp,ho,hx,hy,go_sem]
theorem ex_lt (ho:o.op=.binOp .lss t x y u) (hx:ρ x=.int k a) (hy:ρ y=.int k b):(execOp ρ o).run P w=.ok (.value (.bool (decide (a < b)))) w:=by simp [execOp,ho,hx,hy,go_sem]
theorem ex_ge (ho:o.op=.binOp .geq t x y u) (hx:ρ x=.int k a) (hy:ρ y=.int k b):(execOp ρ o).run P w=.ok (.value (.bool (decide (b ≤ a)))) w:=by simp [execOp,ho,hx,hy,go_sem]
theorem ex_and (ho:o.op=.binOp .and t x y u) (hx:ρ x=.int k a) (hy:ρ y=.int k b):(execOp ρ o).run P w=.ok (.value (.int k (bits .and k a b))) w:=by simp [execOp,ho,hx,hy,go_sem]
theorem ex_conv {d:IntKind} (ho:o.op=.convert t u x) (hx:ρ x=.int k a) (h1:P.underlying t=some (.int k)) (h2:P.underlying u=some (.int d)):(execOp ρ o).run P w=.ok (.value (.int d (d.wrap a))) w:=by
  simp [execOp,ho,hx,convert,run_underlying h1,run_underlying h2,go_sem]
theorem ex_fa {j:Nat} {p q:Addr} (ho:o.op=.fieldAddr t x j) (hx:ρ x=.pointer (some p)) (hf:(Instr.fieldAt t (.pointer (some p)) j).run P w=.ok (.pointer (some q)) w):(execOp ρ o).run P w=.ok (.value (.pointer (some q))) w:=by
  unfold execOp
  simp only [ho,hx,hf,Sem.run_bind,Result.andThen_ok]
  rfl
end
end Go.Proofs.YtjhedldplmhmjaaDoor
