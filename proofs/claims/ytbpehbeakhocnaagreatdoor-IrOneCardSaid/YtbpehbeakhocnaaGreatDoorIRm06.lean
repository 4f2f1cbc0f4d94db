import Derived.Test.YtbpehbeakhocnaaGreatDoorIRm05
import Derived.Deep.LoopGhost
import Derived.Test.YtbpehbeakhocnaaGreatDoorIRm03
import Derived.Laws.StructEq
set_option maxHeartbeats 2000000
set_option linter.unusedVariables false
set_option linter.unusedSimpArgs false
set_option linter.unnecessarySimpa false
namespace Go.Proofs.YtbpehbeakhocnaaGreatDoor
open Go Go.RowKit
def TabO (l:List (Option Value)) (i:Nat) (v:Value):Prop:=match l[i]? with
  | some (some x)=>v=x
  | _=>True
abbrev tabs (a b:List (Option Value)):List (Option Value):=List.append a b
abbrev pt (g o:Nat):Value:=.pointer (some ⟨g,o,none⟩)
abbrev bx (g:Nat) (t:TypeId) (c:Array Value):EB:=⟨g,t,c,none,#[]⟩
def stored (B:List EB) (g:Nat):Prop:=∃ e ∈ B,e.k.isSome=true ∧ e.g=g
def SY (W w0:World) (B:List EB) (A:List EA) (fl:Nat → Bool) (u:Nat → Value) (w:World):Prop:=
  SX W w0.heap.size B A fl u w ∧ ∀ g,g < w0.heap.size → ¬ stored B g → w.heap[g]?=w0.heap[g]?
section
variable {P:Program} {ops:Array Oper} {Q:Exit → Act → World → Prop} {n:Nat} {a0:Act} {w0 W:World} {B:List EB} {A:List EA} {l:List (Option Value)}
structure Cx (ops:Array Oper) (n:Nat) (a0:Act) (w0 W:World) (B:List EB) (A:List EA) (l:List (Option Value)) (i:Nat) (o:Oper) (fl:Nat → Bool) (a:Act) (w:World):Prop where
  ho:ops[i]?=some o
  S:SY W w0 B A fl (slotOf a) w
  fi:fl i=false
  clo:∀ (k:Nat) (ok:Oper),ops[k]?=some ok → fl k=true → ∀ e ∈ ok.after,Region.binds .any e=true → fl e.on=true
  sz:a.tmps.size=n
  rest:∀ j,(∀ (i:Nat) (o:Oper),ops[i]?=some o → o.dst ≠ some j) → a.tmps.getD j undef=a0.tmps.getD j undef
  done:∀ (p:Nat) (e:_),o.after[p]?=some e → Region.binds .any e=true → fl e.on=true ∧ ∀ (o':Oper),ops[e.on]?=some o' → TabO l e.on (own o' a)
  und:∀ (k:Nat) (ok:Oper) (d:Nat),ops[k]?=some ok → ok.dst=some d → fl k=false → a.tmps.getD d undef=a0.tmps.getD d undef
def Post (w0 W:World) (B:List EB) (A:List EA) (l:List (Option Value)) (i:Nat) (o:Oper) (fl:Nat → Bool) (a:Act):Act → World → Prop:=fun a' w'=>∃ v,a'=a.put o.dst v ∧ TabO l i (own o a') ∧ SY W w0 B A (upd fl i) (slotOf a') w'
structure Beh (ops:Array Oper) (n:Nat) (a0:Act) (w0 W:World) (B:List EB) (A:List EA) (l:List (Option Value)) (a:Act) (w:World):Prop where
  d:a.defers=[]
  z:a.tmps.size=n
  r:∀ j,chkNot ops j=true → ∀ {x:Value},a0.tmps.getD j undef=x → a.tmps.getD j undef=x
  v:∀ i:Nat,∀ {o:Oper} {d:Nat} {x:Value},ops[i]?=some o → o.dst=some d → l[i]?=some (some x) → a.tmps.getD d undef=x
  b:Below W.heap.size W w
  m:w0.heap.size ≤ w.heap.size
  rows:AllL (fun e=>w.heap[e.g]?=some (.cells (endOf e.k e.old e.new) e.t (0,0))) B
  al:AllL (fun e=>∃ g,a.tmps.getD e.d undef=.pointer (some ⟨g,0,none⟩) ∧ w0.heap.size ≤ g ∧ w.heap[g]?=some (.cells (endOf e.k e.old e.new) e.t (0,0))) A
  ps:A.Pairwise (fun e e'=>a.tmps.getD e.d undef ≠ a.tmps.getD e'.d undef)
  kp:∀ {g:Nat} {c:Array Value} {t:TypeId},w0.heap[g]?=some (.cells c t (0,0)) → AllL (fun e=>e.k=none ∨ g ≠ e.g) B → w.heap[g]?=some (.cells c t (0,0))
  un:∀ g,g < w0.heap.size → ¬ stored B g → w.heap[g]?=w0.heap[g]?
def Hops (P:Program) (ops:Array Oper) (Q:Exit → Act → World → Prop) (n:Nat) (a0:Act) (w0 W:World) (B:List EB) (A:List EA) (l:List (Option Value)) (i:Nat) (L:List Oper):Prop:=
  ∀ j o,L[j]?=some o → ∀ fl a w,Cx ops n a0 w0 W B A l (i + j) o fl a w → wpOp P ops Q (i + j) (Post w0 W B A l (i + j) o fl a) a w
theorem hn {i:Nat}:Hops P ops Q n a0 w0 W B A l i []:=fun j o h=>by simp at h
theorem hc {i:Nat} {o:Oper} {L:List Oper} (h:∀ fl a w,Cx ops n a0 w0 W B A l i o fl a w → wpOp P ops Q i (Post w0 W B A l i o fl a) a w) (t:Hops P ops Q n a0 w0 W B A l (i + 1) L):Hops P ops Q n a0 w0 W B A l i (o :: L):=fun j o' hj=>by
  cases j with
  | zero=>
    have e:o=o':=by simpa using hj
    subst e
    exact h
  | succ j=>
    have:=t j o' (by simpa using hj)
    rw [show i + 1 + j=i + (j + 1) by omega] at this
    exact this
theorem hk {i:Nat} {o:Oper} {L:List Oper} (h:∀ {fl a w},Cx ops n a0 w0 W B A l i o fl a w → wpOp P ops Q i (Post w0 W B A l i o fl a) a w) (t:Hops P ops Q n a0 w0 W B A l (i + 1) L):Hops P ops Q n a0 w0 W B A l i (o :: L):=hc (fun _ _ _ c=>h c) t
def chkReg (ops:Array Oper) (n:Nat) (B:List EB) (A:List EA):Bool:=(chkBack ops && chkDst ops && chkIn ops n) && (B.all (fun e=>kIn e.k ops.size) && A.all (fun e=>kIn e.k ops.size && Nat.blt e.i ops.size))
theorem go_reg {b:Bool} {id:Nat} (B:List EB) (A:List EA) (l:List (Option Value)) (hm:P.follows .mixedOrders=true) (hd0:a0.defers=[]) (hz:a0.tmps.size=n) (hB:Below W.heap.size W w0) (hk:chkReg ops n B A=true)
    (hrow:AllL (fun e=>w0.heap[e.g]?=some (.cells e.old e.t (0,0))) B)
    (hop:Hops P ops Q n a0 w0 W B A l 0 ops.toList) (hq:∀ a w,Beh ops n a0 w0 W B A l a w → Q .normal a w):(Code.region id ops b).wp P Q a0 w0:=by
  unfold chkReg at hk
  simp only [Bool.and_eq_true] at hk
  obtain ⟨⟨⟨h1,h2⟩,h3⟩,h4,h5⟩:=hk
  refine wp_regx (SY W w0 B A) (TabO l) hm (back_of h1) (dst_of h2) (in_ofz h3 hz) (fun fl w1 hfl hw=>⟨SX.start' hw hB hfl ?_ hrow,?_⟩) ?_ ?_
  · rw [Bool.and_eq_true]
    refine ⟨h4,?_⟩
    rw [List.all_eq_true] at h5 ⊢
    intro e he
    have:=h5 e he
    rw [Bool.and_eq_true] at this
    exact this.2
  · intro g _ _
    rcases hw with rfl | rfl <;> rfl
  · intro i o a w fl ho hS hfi clo hsz hrest hdone hund
    have:=hop i o (by rw [Array.getElem?_toList];exact ho) fl a w
    rw [Nat.zero_add] at this
    exact this ⟨ho,hS,hfi,clo,hsz.trans hz,hrest,hdone,hund⟩
  · intro a w fl hd hs hrest hR hfl hS
    obtain ⟨b1,b2,b3,b4,b5⟩:=hS.1.finish hfl (by rw [Bool.and_eq_true];exact ⟨h4,h5⟩)
    refine hq a w ⟨hd.trans hd0,hs.trans hz,fun j hj x hx=>(hrest j (not_of hj)).trans hx,fun i o d x ho hod hl=>?_,b1,b2,allL.2 fun e he=>(allL.1 b3 e he).2,b4,b5,fun {g c t} hg hn=>?_,hS.2⟩
    · have:=hR i o ho
      unfold TabO at this
      rw [hl] at this
      unfold own at this
      rw [hod] at this
      exact this
    · rw [hS.2 g (Array.getElem?_eq_some_iff.1 hg).1 ?_]
      · exact hg
      · rintro ⟨e,he,hk,eg⟩
        rcases allL.1 hn e he with h | h
        · rw [h] at hk;cases hk
        · exact h eg.symm
section
variable {i:Nat} {o:Oper} {fl:Nat → Bool} {a:Act} {w w':World}
theorem Cx.dn (c:Cx ops n a0 w0 W B A l i o fl a w) (p:Nat) {e o' d x} (h1:o.after[p]?=some e) (h2:Region.binds .any e=true) (h3:ops[e.on]?=some o') (h4:o'.dst=some d) (h5:l[e.on]?=some (some x)):a.tmps.getD d undef=x:=by
  have:=(c.done p e h1 h2).2 o' h3
  unfold TabO at this
  rw [h5] at this
  unfold own at this
  rw [h4] at this
  exact this
theorem Cx.ro (c:Cx ops n a0 w0 W B A l i o fl a w) (d:Nat) (h:chkNot ops d=true) {x} (s:a0.tmps.getD d undef=x):a.tmps.getD d undef=x:=(c.rest d (not_of h)).trans s
def isLater (ops:Array Oper) (k i:Nat):Bool:=match ops[k]? with | some ok=>ok.after.any (fun e=>Nat.beq e.on i && Region.binds .any e) | none=>false
theorem Cx.un (c:Cx ops n a0 w0 W B A l i o fl a w) (k:Nat) {ok d x} (h1:ops[k]?=some ok) (h2:ok.dst=some d) (h3:isLater ops k i=true) (s:a0.tmps.getD d undef=x):a.tmps.getD d undef=x:=(c.und k ok d h1 h2 (not_yet c.clo c.fi h3)).trans s
theorem Cx.rn (c:Cx ops n a0 w0 W B A l i o fl a w) (j:Nat) {g t old new} (hj:B[j]?=some ⟨g,t,old,none,new⟩):w.heap[g]?=some (.cells old t (0,0)):=c.S.1.rowNi j hj
theorem Cx.rf (c:Cx ops n a0 w0 W B A l i o fl a w) (j:Nat) {g t old k new} (hj:B[j]?=some ⟨g,t,old,some k,new⟩) (h:isLater ops k i=true):w.heap[g]?=some (.cells old t (0,0)):=c.S.1.rowFi j hj (not_yet c.clo c.fi h)
theorem Cx.ri (c:Cx ops n a0 w0 W B A l i o fl a w) (j:Nat) {g t old new} (hj:B[j]?=some ⟨g,t,old,some i,new⟩):w.heap[g]?=some (.cells old t (0,0)):=c.S.1.rowFi j hj c.fi
theorem wn (h:o.guard=none):Region.wanted o (yielded ops a.tmps)=true:=by unfold Region.wanted;rw [h]
theorem SY.quiet (h:SY W w0 B A fl (slotOf a) w) (i:Nat) {dst:Option Nat} {v:Value} (hc:chkX B A i dst=true) (b:Below w.heap.size w w'):SY W w0 B A (upd fl i) (slotOf (a.put dst v)) w':=
  ⟨h.1.quiet i hc b,fun g hg hn=>(b.block g (by have:=h.1.2.1;omega)).trans (h.2 g hg hn)⟩
theorem own_some {d:Nat} {v:Value} (hd:o.dst=some d) (hs:a.tmps.size=n) (hlt:Nat.blt d n=true):own o (a.put o.dst v)=v:=own_put hd (by rw [hs];exact Nat.le_of_ble_eq_true hlt)
theorem Cx.val (c:Cx ops n a0 w0 W B A l i o fl a w) (hw:Region.wanted o (yielded ops a.tmps)=true) {v:Value} (hr:(execOp a.eval o).run P w=.ok (.value v) w) {d:Nat} (hd:o.dst=some d) (hlt:Nat.blt d n=true) (ht:TabO l i v) (hk:chkX B A i o.dst=true):
    wpOp P ops Q i (Post w0 W B A l i o fl a) a w:=
  wpOp_valw c.ho hw hr ⟨_,rfl,by rw [own_some hd c.sz hlt];exact ht,c.S.quiet i hk (Below.refl _ _)⟩
theorem Cx.no (c:Cx ops n a0 w0 W B A l i o fl a w) (hw:Region.wanted o (yielded ops a.tmps)=false) {d:Nat} (hd:o.dst=some d) (hlt:Nat.blt d n=true) (ht:TabO l i undef) (hk:chkX B A i o.dst=true):
    wpOp P ops Q i (Post w0 W B A l i o fl a) a w:=
  wpOp_no c.ho hw ⟨_,rfl,by rw [own_some hd c.sz hlt];exact ht,c.S.quiet i hk (Below.refl _ _)⟩
theorem Cx.call (c:Cx ops n a0 w0 W B A l i o fl a w) (hw:Region.wanted o (yielded ops a.tmps)=true) {cl:Call} {f:FuncId} {fn:Func} {args:Array Value} (ho:o.op=.call cl) (hc:cl.callee=.value (.func f)) (ha:cl.args.map a.eval=args) (hf:P.funcs[f]?=some fn)
    (hn:(fn.name == "runtime.NumGoroutine")=false) (hb:fn.body.isNone=false) {v:Value} (K:Calls P f args w fun e w'=>e=.returned v ∧ Below w.heap.size w w') {d:Nat} (hd:o.dst=some d) (hlt:Nat.blt d n=true) (ht:TabO l i v) (hk:chkX B A i o.dst=true):
    wpOp P ops Q i (Post w0 W B A l i o fl a) a w:=by
  refine wpOp_callw c.ho hw (exec_call ho hc rfl ha hf hn hb) (K.mono ?_)
  rintro e w' ⟨rfl,b⟩
  exact ⟨_,rfl,_,rfl,by rw [own_some hd c.sz hlt];exact ht,c.S.quiet i hk b⟩
theorem Cx.stR (c:Cx ops n a0 w0 W B A l i o fl a w) (hw:Region.wanted o (yielded ops a.tmps)=true) {ty x y} (ho:o.op=.store ty x y) (hd:o.dst=none) (j:Nat) {g t old cells} (hj:B[j]?=some ⟨g,t,old,some i,cells⟩) (hx:a.eval x=.pointer (some ⟨g,0,none⟩)) (hy:a.eval y=.agg cells)
    (hi:(P.info? ty).map (·.size)=some cells.size) (hs:old.size=cells.size) (h1:cells.all (·.oneCell')=true) (hg:W.heap.size ≤ g) (hk:chkX (B.eraseIdx j) A i none=true) (hne:AllL (fun e=>e.g ≠ g) (B.eraseIdx j)) (ht:TabO l i undef):
    wpOp P ops Q i (Post w0 W B A l i o fl a) a w:=by
  have hr:=c.ri j hj
  have st:=stored_setRow w g cells old t hr
  refine wpOp_skpw c.ho hw (exec_storeR ty x y ho g cells hx hy hr hi hs h1) ⟨undef,rfl,?_,?_,?_⟩
  · unfold own;rw [hd];exact ht
  · rw [hd];exact c.S.1.storeBi i j hj hg hk hne st
  · intro k hk1 hn
    refine (st.other k ?_).trans (c.S.2 k hk1 hn)
    intro e
    exact hn ⟨_,List.mem_of_getElem? hj,rfl,e.symm⟩
theorem Cx.stC (c:Cx ops n a0 w0 W B A l i o fl a w) (hw:Region.wanted o (yielded ops a.tmps)=true) {ty x y} (ho:o.op=.store ty x y) (hd:o.dst=none) (j:Nat) {g off t old v new} (hj:B[j]?=some ⟨g,t,old,some i,new⟩) (hx:a.eval x=.pointer (some ⟨g,off,none⟩)) (hy:a.eval y=v)
    (hv:v.cells=#[v]) (h1:v.oneCell'=true) (hi:(P.info? ty).map (·.size)=some 1) (hlt:Nat.blt off old.size=true) (hnew:old.setIfInBounds off v=new) (hg:W.heap.size ≤ g) (hk:chkX (B.eraseIdx j) A i none=true) (hne:AllL (fun e=>e.g ≠ g) (B.eraseIdx j)) (ht:TabO l i undef):
    wpOp P ops Q i (Post w0 W B A l i o fl a) a w:=by
  have hr:=c.ri j hj
  subst hnew
  have st:=stored_setCell hr off v
  refine wpOp_skpw c.ho hw (exec_storeC ty x y ho g off v hx hy hv h1 hi hr (Nat.le_of_ble_eq_true hlt)) ⟨undef,rfl,?_,?_,?_⟩
  · unfold own;rw [hd];exact ht
  · rw [hd];exact c.S.1.storeBi i j hj hg hk hne st
  · intro k hk1 hn
    refine (st.other k ?_).trans (c.S.2 k hk1 hn)
    intro e
    exact hn ⟨_,List.mem_of_getElem? hj,rfl,e.symm⟩
theorem Cx.al (c:Cx ops n a0 w0 W B A l i o fl a w) (hw:Region.wanted o (yielded ops a.tmps)=true) (j:Nat) {d t old k new} (hA:A[j]?=some ⟨i,d,t,old,k,new⟩) (hr:(execOp a.eval o).run P w=.ok (.value (.pointer (some ⟨w.heap.size,0,none⟩))) (w.alloc (.cells old t)))
    (hd:o.dst=some d) (hlt:Nat.blt d n=true) (hc:chkX B (A.eraseIdx j) i (some d)=true) (hk:kNot k i=true) (hl:(match k with | none=>true | some k=>isLater ops k i)=true) (ht:TabO l i (.pointer (some ⟨w.heap.size,0,none⟩))):
    wpOp P ops Q i (Post w0 W B A l i o fl a) a w:=by
  rw [List.eraseIdx_eq_take_drop_succ] at hc
  refine wpOp_valw c.ho hw hr ⟨_,rfl,by rw [own_some hd c.sz hlt];exact ht,?_,fun g hg hn=>?_⟩
  · rw [hd]
    refine c.S.1.alloc i d t old _ _ k new (split_at hA) hc hk (by rw [c.sz];exact Nat.le_of_ble_eq_true hlt) ?_
    cases k with
    | none=>trivial
    | some k=>exact not_yet c.clo c.fi hl
  · exact (heap_past w _ g (by have:=c.S.1.2.1;omega)).trans (c.S.2 g hg hn)
theorem Cx.stA (c:Cx ops n a0 w0 W B A l i o fl a w) (hw:Region.wanted o (yielded ops a.tmps)=true) {ty y d} (ho:o.op=.store ty (.tmp d) y) (hd:o.dst=none) (j p:Nat) {ja t old cells e} (hA:A[j]?=some ⟨ja,d,t,old,some i,cells⟩) (hp:o.after[p]?=some e) (hb:Region.binds .any e=true) (he:e.on=ja) (hy:a.eval y=.agg cells)
    (hi:(P.info? ty).map (·.size)=some cells.size) (hs:old.size=cells.size) (h1:cells.all (·.oneCell')=true) (hW:W.heap.size ≤ w0.heap.size) (hji:Nat.beq ja i=false) (hk:chkX B (A.eraseIdx j) i none=true) (ht:TabO l i undef):
    wpOp P ops Q i (Post w0 W B A l i o fl a) a w:=by
  rw [List.eraseIdx_eq_take_drop_succ] at hk
  have hf:fl ja=true:=by rw [← he];exact (c.done p e hp hb).1
  obtain ⟨g,hu,hn,hr⟩:=c.S.1.rowA _ _ ja d t old cells i (split_at hA) hf c.fi
  have st:=stored_setRow w g cells old t hr
  refine wpOp_skpw c.ho hw (exec_storeR ty (.tmp d) y ho g cells hu hy hr hi hs h1) ⟨undef,rfl,?_,?_,?_⟩
  · unfold own;rw [hd];exact ht
  · rw [hd];exact c.S.1.storeA i ja d t old cells _ _ (split_at hA) hW hf g hu (fun e=>by rw [e] at hji;simp at hji) hk st
  · intro k hk1 hn2
    exact (st.other k (by omega)).trans (c.S.2 k hk1 hn2)
end
end
theorem pairAt {α:Type} {R:α → α → Prop} {l:List α} (h:l.Pairwise R) (i j:Nat) {x y:α} (hij:i < j) (hi:l[i]?=some x) (hj:l[j]?=some y):R x y:=by
  obtain ⟨h1,rfl⟩:=List.getElem?_eq_some_iff.1 hi
  obtain ⟨h2,rfl⟩:=List.getElem?_eq_some_iff.1 hj
  exact List.pairwise_iff_getElem.1 h i j h1 h2 hij
theorem ne_ptr {x y:Value} {g h:Nat} (hn:x ≠ y) (hx:x=.pointer (some ⟨g,0,none⟩)) (hy:y=.pointer (some ⟨h,0,none⟩)):g ≠ h:=fun e=>hn (by rw [hx,hy,e])
theorem ne_row {w:World} {g h:Nat} {o:Obj} (hg:w.heap[g]?=some o) (hh:w.heap.size ≤ h):g ≠ h:=by
  have:=(Array.getElem?_eq_some_iff.1 hg).1
  omega
section
variable {ops:Array Oper} {n:Nat} {a0:Act} {w0 W:World} {B:List EB} {A:List EA} {l:List (Option Value)} {i:Nat} {o:Oper} {fl:Nat → Bool} {a:Act} {w:World}
theorem Cx.wy (c:Cx ops n a0 w0 W B A l i o fl a w) {j:Nat} {want:Bool} {oj:Oper} {d:Nat} (hg:o.guard=some (j,want)) (hj:ops[j]?=some oj) (hd:oj.dst=some d) (hlt:Nat.blt d n=true) (h:a.tmps.getD d undef=.bool want):Region.wanted o (yielded ops a.tmps)=true:=
  wanted_yes j d want h (by rw [c.sz];exact Nat.le_of_ble_eq_true hlt) hg hj hd (by simp)
theorem Cx.wo (c:Cx ops n a0 w0 W B A l i o fl a w) {j:Nat} {want b:Bool} {oj:Oper} {d:Nat} (hg:o.guard=some (j,want)) (hj:ops[j]?=some oj) (hd:oj.dst=some d) (hlt:Nat.blt d n=true) (h:a.tmps.getD d undef=.bool b) (hb:(b == want)=false):Region.wanted o (yielded ops a.tmps)=false:=
  wanted_no j d b h (by rw [c.sz];exact Nat.le_of_ble_eq_true hlt) hg hj hd hb
theorem Cx.wu (c:Cx ops n a0 w0 W B A l i o fl a w) {j:Nat} {want:Bool} {oj:Oper} {d:Nat} (hg:o.guard=some (j,want)) (hj:ops[j]?=some oj) (hd:oj.dst=some d) (hlt:Nat.blt d n=true) (h:a.tmps.getD d undef=undef):Region.wanted o (yielded ops a.tmps)=false:=
  Eq.trans (wanted_cond j d false false want (by rw [h];rfl) (by rw [c.sz];exact Nat.le_of_ble_eq_true hlt) hg hj hd) rfl
end
theorem wp_cut {P:Program} {Q:Exit → Act → World → Prop} {a:Act} {w:World} {x y:Code} (I:Act → World → Prop) (hx:x.wp P (Exit.then I Q) a w) (hy:∀ a w,I a w → y.wp P Q a w):(Code.seq x y).wp P Q a w:=
  wp_seq (Code.wp_mono (fun e a w h=>by cases e <;> first | exact hy _ _ h | exact h) hx)
def Mid (n:Nat) (W:World) (S:List (Nat × Value)) (R:List (Nat × TypeId × Array Value)) (a:Act) (w:World):Prop:=
  a.defers=[] ∧ a.tmps.size=n ∧ Below W.heap.size W w ∧ AllL (fun p=>a.tmps.getD p.1 undef=p.2) S ∧ AllL (fun r=>w.heap[r.1]?=some (.cells r.2.2 r.2.1 (0,0))) R
section
variable {P:Program} {ops:Array Oper} {Q:Exit → Act → World → Prop} {n:Nat} {a0:Act} {w0 W:World} {B:List EB} {A:List EA} {l:List (Option Value)} {i:Nat} {o:Oper} {fl:Nat → Bool} {a:Act} {w:World}
def look (ops:Array Oper) (l:List (Option Value)) (o:Oper) (p:Nat):Option (Nat × Value):=match o.after[p]? with
  | some e=>bif Region.binds .any e then (match ops[e.on]?,l[e.on]? with
    | some o',some (some x)=>(match o'.dst with | some d=>some (d,x) | none=>none)
    | _,_=>none) else none
  | none=>none
theorem Cx.u (c:Cx ops n a0 w0 W B A l i o fl a w) (p:Nat) {d:Nat} {x:Value} (h:look ops l o p=some (d,x)):a.tmps.getD d undef=x:=by
  unfold look at h
  cases h1:o.after[p]? with
  | none=>rw [h1] at h;cases h
  | some e=>
    rw [h1] at h
    simp only at h
    cases h2:Region.binds .any e with
    | false=>rw [h2] at h;cases h
    | true=>
      rw [h2,cond_true] at h
      cases h3:ops[e.on]? with
      | none=>rw [h3] at h;simp at h
      | some o'=>
        cases h5:l[e.on]? with
        | none=>rw [h3,h5] at h;simp at h
        | some y=>
          cases y with
          | none=>rw [h3,h5] at h;simp at h
          | some x'=>
            rw [h3,h5] at h
            simp only at h
            cases h4:o'.dst with
            | none=>rw [h4] at h;simp at h
            | some d'=>
              rw [h4] at h
              simp only [Option.some.injEq,Prod.mk.injEq] at h
              obtain ⟨rfl,rfl⟩:=h
              exact c.dn p h1 h2 h3 h4 h5
def okV (o:Oper) (n i:Nat) (B:List EB) (A:List EA):Bool:=match o.guard,o.dst with
  | none,some d=>Nat.blt d n && chkX B A i (some d)
  | _,_=>false
theorem Cx.v (c:Cx ops n a0 w0 W B A l i o fl a w) {v:Value} (hr:(execOp a.eval o).run P w=.ok (.value v) w) (hk:okV o n i B A=true) (ht:TabO l i v):wpOp P ops Q i (Post w0 W B A l i o fl a) a w:=by
  unfold okV at hk
  cases hg:o.guard with
  | some g=>rw [hg] at hk;cases hk
  | none=>
    cases hd:o.dst with
    | none=>rw [hg,hd] at hk;cases hk
    | some d=>
      rw [hg,hd] at hk
      simp only [Bool.and_eq_true] at hk
      exact c.val (wn hg) hr hd hk.1 ht (by rw [hd];exact hk.2)
def okF (fn:Func):Bool:=!(fn.name == "runtime.NumGoroutine") && !fn.body.isNone
theorem Cx.c (c:Cx ops n a0 w0 W B A l i o fl a w) {f:FuncId} {xs:Array Operand} {ts:Array TypeId} {fn:Func} {args:Array Value} (ho:o.op=.call ⟨.value (.func f),xs,ts⟩) (ha:xs.map a.eval=args) (hf:P.funcs[f]?=some fn)
    (hn:okF fn=true) {v:Value} (K:Calls P f args w fun e w'=>e=.returned v ∧ Below w.heap.size w w') (hk:okV o n i B A=true) (ht:TabO l i v):wpOp P ops Q i (Post w0 W B A l i o fl a) a w:=by
  unfold okV at hk
  unfold okF at hn
  simp only [Bool.and_eq_true,Bool.not_eq_true'] at hn
  cases hg:o.guard with
  | some g=>rw [hg] at hk;cases hk
  | none=>
    cases hd:o.dst with
    | none=>rw [hg,hd] at hk;cases hk
    | some d=>
      rw [hg,hd] at hk
      simp only [Bool.and_eq_true] at hk
      exact c.call (wn hg) ho rfl ha hf hn.1 hn.2 K hd hk.1 ht (by rw [hd];exact hk.2)
end
section
variable {P:Program} {ops:Array Oper} {n:Nat} {a0:Act} {w0 W:World} {B:List EB} {A:List EA} {l:List (Option Value)} {i:Nat} {o:Oper} {fl:Nat → Bool} {a:Act} {w:World}
theorem Cx.rq (c:Cx ops n a0 w0 W B A l i o fl a w) (d:Nat) {x} (s:a0.tmps.getD d undef=x) (h:chkNot ops d=true:=by kernel_rfl):a.tmps.getD d undef=x:=c.ro d h s
theorem Beh.q (f:Beh ops n a0 w0 W B A l a w) (j:Nat) {x:Value} (s:a0.tmps.getD j undef=x) (h:chkNot ops j=true:=by kernel_rfl):a.tmps.getD j undef=x:=f.r j h s
def stillB (B:List EB):Bool:=B.all (fun e=>e.k.isNone)
theorem Beh.k (f:Beh ops n a0 w0 W B A l a w) {g:Nat} {c:Array Value} {t:TypeId} (h:w0.heap[g]?=some (.cells c t (0,0))) (e:stillB B=true:=by rfl):w.heap[g]?=some (.cells c t (0,0)):=f.kp h (allL.2 fun x hx=>.inl (by
  have:=List.all_eq_true.1 e x hx
  simpa using this))
end
section
variable {P:Program} {ρ:Operand → Value} {o:Oper} {w:World} {x y z:Operand} {t u:TypeId} {k:IntKind} {a b:Int} {v:Value}
theorem ex_mv (ho:o.op=.move x) (hx:ρ x=v):(execOp ρ o).run P w=.ok (.value v) w:=by simp [execOp,ho,hx]
theorem ex_as (ho:o.op=.assign x) (hx:ρ x=v):(execOp ρ o).run P w=.ok (.value v) w:=by simp [execOp,ho,hx]
theorem ex_nc {p:Addr} (ho:o.op=.nilCheck x) (hx:ρ x=.pointer (some p)):(execOp ρ o).run P w=.ok (.value (.pointer (some p))) w:=by simp [execOp,ho,hx,go_sem]
theorem ex_not (ho:o.op=.unOp .not t x) {c:Bool} (hx:ρ x=.bool c):(execOp ρ o).run P w=.ok (.value (.bool (!c))) w:=by simp [execOp,ho,hx,go_sem]
theorem ex_ext {j:Nat} (ho:o.op=.extract x j) {vs:Array Value} (hx:ρ x=.tuple vs) (hv:vs[j]?=some v):(execOp ρ o).run P w=.ok (.value v) w:=by simp [execOp,ho,hx,hv,go_sem,Instr.extract]
theorem ex_pt (ho:o.op=.pick x y z) (hx:ρ x=.bool true) (hy:ρ y=v):(execOp ρ o).run P w=.ok (.value v) w:=by simp [execOp,ho,hx,hy,go_sem]
theorem ex_pf (ho:o.op=.pick x y z) (hx:ρ x=.bool false) (hz:ρ z=v):(execOp ρ o).run P w=.ok (.value v) w:=by simp [execOp,ho,hx,hz,go_sem]
theorem ex_ld {g i:Nat} {c:Array Value} {T:TypeId} {fr:Nat × Nat} (ho:o.op=.load t x) (hx:ρ x=.pointer (some ⟨g,i,none⟩)) (hg:w.heap[g]?=some (.cells c T fr)) (hv:c[i]?=some v) (ha:∀ w,(isAgg t).run P w=.ok false w):(execOp ρ o).run P w=.ok (.value v) w:=by
  have hc:=exec_load1 hg hv
  simp [execOp,ho,hx,go_sem,ha,hc]
theorem ex_eq (ho:o.op=.binOp .eql t x y u) (hx:ρ x=.int k a) (hy:ρ y=.int k b):(execOp ρ o).run P w=.ok (.value (.bool (a == b))) w:=by simp [execOp,ho,hx,hy,go_sem]
theorem ex_ne (ho:o.op=.binOp .neq t x y u) (hx:ρ x=.int k a) (hy:ρ y=.int k b):(execOp ρ o).run P w=.ok (.value (.bool (a != b))) w:=by simp [execOp,ho,hx,hy,go_sem]
theorem ex_le (ho:o.op=.binOp .leq t x y u) (hx:ρ x=.int k a) (hy:ρ y=.int k b):(execOp ρ o).run P w=.ok (.value (.bool (decide (a ≤ b)))) w:=by simp [execOp,ho,hx,hy,go_sem]
theorem ex_lt (ho:o.op=.binOp .lss t x y u) (hx:ρ x=.int k a) (hy:ρ y=.int k b):(execOp ρ o).run P w=.ok (.value (.bool (decide (a < b)))) w:=by simp [execOp,ho,hx,hy,go_sem]
theorem ex_ge (ho:o.op=.binOp .geq t x y u) (hx:ρ x=.int k a) (hy:ρ y=.int k b):(execOp ρ o).run P w=.ok (.value (.bool (decide (b ≤ a)))) w:=by simp [execOp,ho,hx,hy,go_sem]
theorem ex_gt (ho:o.op=.binOp .gtr t x y u) (hx:ρ x=.int k a) (hy:ρ y=.int k b):(execOp ρ o).run P w=.ok (.value (.bool (decide (b < a)))) w:=by simp [execOp,ho,hx,hy,go_sem]
theorem ex_add (ho:o.op=.binOp .add t x y u) (hx:ρ x=.int k a) (hy:ρ y=.int k b):(execOp ρ o).run P w=.ok (.value (.int k (k.wrap (a + b)))) w:=by simp [execOp,ho,hx,hy,go_sem]
theorem ex_sub (ho:o.op=.binOp .sub t x y u) (hx:ρ x=.int k a) (hy:ρ y=.int k b):(execOp ρ o).run P w=.ok (.value (.int k (k.wrap (a - b)))) w:=by simp [execOp,ho,hx,hy,go_sem]
theorem ex_mul (ho:o.op=.binOp .mul t x y u) (hx:ρ x=.int k a) (hy:ρ y=.int k b):(execOp ρ o).run P w=.ok (.value (.int k (k.wrap (a * b)))) w:=by simp [execOp,ho,hx,hy,go_sem]
theorem ex_and (ho:o.op=.binOp .and t x y u) (hx:ρ x=.int k a) (hy:ρ y=.int k b):(execOp ρ o).run P w=.ok (.value (.int k (bits .and k a b))) w:=by simp [execOp,ho,hx,hy,go_sem]
theorem ex_or (ho:o.op=.binOp .or t x y u) (hx:ρ x=.int k a) (hy:ρ y=.int k b):(execOp ρ o).run P w=.ok (.value (.int k (bits .or k a b))) w:=by simp [execOp,ho,hx,hy,go_sem]
theorem ex_xor (ho:o.op=.binOp .xor t x y u) (hx:ρ x=.int k a) (hy:ρ y=.int k b):(execOp ρ o).run P w=.ok (.value (.int k (bits .xor k a b))) w:=by simp [execOp,ho,hx,hy,go_sem]
theorem ex_max {ts:Array TypeId} (ho:o.op=.call ⟨.builtin .max,#[x,y],ts⟩) (hx:ρ x=.int k a) (hy:ρ y=.int k b):(execOp ρ o).run P w=.ok (.value (.int k (max a b))) w:=by simp [execOp,ho,hx,hy,go_sem]
theorem ex_min {ts:Array TypeId} (ho:o.op=.call ⟨.builtin .min,#[x,y],ts⟩) (hx:ρ x=.int k a) (hy:ρ y=.int k b):(execOp ρ o).run P w=.ok (.value (.int k (min a b))) w:=by simp [execOp,ho,hx,hy,go_sem]
theorem ex_conv {d:IntKind} (ho:o.op=.convert t u x) (hx:ρ x=.int k a) (h1:P.underlying t=some (.int k)) (h2:P.underlying u=some (.int d)):(execOp ρ o).run P w=.ok (.value (.int d (d.wrap a))) w:=by
  simp [execOp,ho,hx,convert,run_underlying h1,run_underlying h2,go_sem]
theorem ex_fa {j:Nat} {p q:Addr} (ho:o.op=.fieldAddr t x j) (hx:ρ x=.pointer (some p)) (hf:(Instr.fieldAt t (.pointer (some p)) j).run P w=.ok (.pointer (some q)) w):(execOp ρ o).run P w=.ok (.value (.pointer (some q))) w:=by
  unfold execOp
  simp only [ho,hx,hf,Sem.run_bind,Result.andThen_ok]
  rfl
end
def setL (c:Array Value):Nat → List Value → Array Value
  | _,[]=>c
  | o,v :: vs=>setL (c.setIfInBounds o v) (o + 1) vs
theorem setL_size (vs:List Value):∀ (c:Array Value) (o:Nat),(setL c o vs).size=c.size:=by
  induction vs with
  | nil=>intro c o;rfl
  | cons v vs ih=>intro c o;show (setL (c.setIfInBounds o v) (o + 1) vs).size=_;rw [ih];simp
theorem setL_get (vs:List Value):∀ (c:Array Value) (o j:Nat),o + vs.length ≤ c.size → (setL c o vs)[j]?=if o ≤ j ∧ j < o + vs.length then vs[j - o]? else c[j]?:=by
  induction vs with
  | nil=>intro c o j h;rw [if_neg (by simp only [List.length_nil];omega)];rfl
  | cons v vs ih=>
    intro c o j h
    show (setL (c.setIfInBounds o v) (o + 1) vs)[j]?=_
    simp only [List.length_cons] at h
    rw [ih _ _ _ (by simpa using (by omega:o + 1 + vs.length ≤ c.size))]
    by_cases e:j=o
    · subst e
      rw [if_neg (by omega),if_pos (by simp)]
      simp [show j < c.size by omega]
    · by_cases h1:o + 1 ≤ j ∧ j < o + 1 + vs.length
      · rw [if_pos h1,if_pos (by simp only [List.length_cons];omega)]
        rw [show j - o=(j - (o + 1)) + 1 by omega,List.getElem?_cons_succ]
      · rw [if_neg h1,if_neg (by simp only [List.length_cons];omega)]
        rw [Array.getElem?_setIfInBounds_ne (by omega)]
theorem stored_trans {w w1 w2:World} {g:Nat} {c1 c2:Array Value} {t:TypeId} (h:Stored w g c1 t w1) (k:Stored w1 g c2 t w2):Stored w g c2 t w2:=
  ⟨k.os.trans h.os,k.tape.trans h.tape,k.output.trans h.output,k.size.trans h.size,k.row,fun j hj=>(k.other j hj).trans (h.other j hj)⟩
theorem stored_setCells {g:Nat} {t:TypeId} (vs:List Value):∀ (w:World) (cs:Array Value) (o:Nat),w.heap[g]?=some (.cells cs t (0,0)) → Stored w g (setL cs o vs) t (w.setCells g o vs):=by
  induction vs with
  | nil=>intro w cs o h;exact ⟨rfl,rfl,rfl,rfl,h,fun _ _=>rfl⟩
  | cons v vs ih=>
    intro w cs o h
    have s:=stored_setCell h o v
    exact stored_trans s (ih _ _ _ s.row)
section
variable {P:Program} {ρ:Operand → Value} {o:Oper} {w:World}
theorem exec_storeP (ty:TypeId) (x y:Operand) (ho:o.op=.store ty x y) (g i:Nat) (cells:Array Value) (hx:ρ x=.pointer (some ⟨g,i,none⟩)) (hy:ρ y=.agg cells) (h1:cells.all (·.oneCell')=true)
    (hi:(P.info? ty).map (·.size)=some cells.size) {t:TypeId} {old:Array Value} (hg:w.heap[g]?=some (.cells old t (0,0))) (hlt:i + cells.size ≤ old.size):(execOp ρ o).run P w=.ok .skip (w.setCells g i cells.toList):=by
  have ht:w.there g i cells.size:=fun j hj=>by
    have hl:i + j < old.size:=by omega
    refine ⟨?_,?_⟩
    · rw [exec_load1 hg (v:=old[i + j]) (by simp [hl])];rfl
    · simp [World.frozen?,hg]
  unfold execOp
  simp only [ho,hx,hy,Instr.storeAt,Instr.sureAddr,Sem.run_bind,Sem.run_pure,Result.andThen_ok,run_storeVar_mid w g i ty cells ht hi h1]
theorem ex_ia {t e:TypeId} {x y:Operand} {g off n sz q:Nat} {k:IntKind} {i:Int} (ho:o.op=.indexAddr t x y) (hx:ρ x=.pointer (some ⟨g,off,none⟩)) (hy:ρ y=.int k i) (hu:P.underlying t=some (.array n e)) (hs:(P.info? e).map (·.size)=some sz)
    (h0:0 ≤ i) (h1:i < n) (hq:off + i.toNat * sz=q):(execOp ρ o).run P w=.ok (.value (.pointer (some ⟨g,q,none⟩))) w:=by
  subst hq
  cases hi:P.info? e with
  | none=>rw [hi] at hs;cases hs
  | some f=>
    rw [hi] at hs
    have hs:f.size=sz:=by simpa using hs
    subst hs
    simp [execOp,ho,hx,hy,Instr.indexAt,Instr.sureAddr,run_underlying hu,asIntOf,sizeOf,typeInfo,hi,h0,h1,Addr.add,go_sem]
theorem exec_callv {c:Call} {f:FuncId} {fn:Func} {args:Array Value} {x:Operand} (ho:o.op=.call c) (hc:c.callee=.value x) (hr:ρ x=.func (.func f) #[] #[]) (ha:c.args.map ρ=args) (hf:P.funcs[f]?=some fn)
    (hn:(fn.name == "runtime.NumGoroutine")=false) (hb:fn.body.isNone=false):(execOp ρ o).run P w=.ok (.enter f args) w:=by
  have hb':¬ fn.body=none:=by
    intro e;rw [e] at hb;cases hb
  have hn':¬ fn.name = "runtime.NumGoroutine" := by simpa using hn
  simp [execOp,ho,resolve,hc,hr,ha,Deferred.ofValue,invoke,callFunc,hf,hb',hn',go_sem]
end
section
variable {P:Program} {ops:Array Oper} {Q:Exit → Act → World → Prop} {n:Nat} {a0:Act} {w0 W:World} {B:List EB} {A:List EA} {l:List (Option Value)} {i:Nat} {o:Oper} {fl:Nat → Bool} {a:Act} {w:World}
theorem Cx.stP (c:Cx ops n a0 w0 W B A l i o fl a w) (hw:Region.wanted o (yielded ops a.tmps)=true) {ty x y} (ho:o.op=.store ty x y) (hd:o.dst=none) (j:Nat) {g off t old cells new} (hj:B[j]?=some ⟨g,t,old,some i,new⟩) (hx:a.eval x=.pointer (some ⟨g,off,none⟩)) (hy:a.eval y=.agg cells)
    (h1:cells.all (·.oneCell')=true) (hi:(P.info? ty).map (·.size)=some cells.size) (hlt:off + cells.size ≤ old.size) (hnew:setL old off cells.toList=new) (hg:W.heap.size ≤ g) (hk:chkX (B.eraseIdx j) A i none=true) (hne:AllL (fun e=>e.g ≠ g) (B.eraseIdx j)) (ht:TabO l i undef):
    wpOp P ops Q i (Post w0 W B A l i o fl a) a w:=by
  have hr:=c.ri j hj
  subst hnew
  have st:=stored_setCells cells.toList w old off hr
  refine wpOp_skpw c.ho hw (exec_storeP ty x y ho g off cells hx hy h1 hi hr hlt) ⟨undef,rfl,?_,?_,?_⟩
  · unfold own;rw [hd];exact ht
  · rw [hd];exact c.S.1.storeBi i j hj hg hk hne st
  · intro k hk1 hn
    refine (st.other k ?_).trans (c.S.2 k hk1 hn)
    intro e
    exact hn ⟨_,List.mem_of_getElem? hj,rfl,e.symm⟩
theorem Cx.callv (c:Cx ops n a0 w0 W B A l i o fl a w) (hw:Region.wanted o (yielded ops a.tmps)=true) {cl:Call} {f:FuncId} {fn:Func} {args:Array Value} {x:Operand} (ho:o.op=.call cl) (hc:cl.callee=.value x) (hr:a.eval x=.func (.func f) #[] #[]) (ha:cl.args.map a.eval=args) (hf:P.funcs[f]?=some fn)
    (hn:okF fn=true) {v:Value} (K:Calls P f args w fun e w'=>e=.returned v ∧ Below w.heap.size w w') {d:Nat} (hd:o.dst=some d) (hlt:Nat.blt d n=true) (ht:TabO l i v) (hk:chkX B A i o.dst=true):
    wpOp P ops Q i (Post w0 W B A l i o fl a) a w:=by
  unfold okF at hn
  simp only [Bool.and_eq_true,Bool.not_eq_true'] at hn
  refine wpOp_callw c.ho hw (exec_callv ho hc hr ha hf hn.1 hn.2) (K.mono ?_)
  rintro e w' ⟨rfl,b⟩
  exact ⟨_,rfl,_,rfl,by rw [own_some hd c.sz hlt];exact ht,c.S.quiet i hk b⟩
end
theorem res_cc {P:Program} {fn:Func} {w:World} {tmps:Array Value} {d e:Tmp} {t u:TypeId} {p q:Addr} {v x:Value} (h:fn.results=#[.cell d t,.cell e u]) (hs:tmps.getD d undef=.pointer (some p)) (hl:(loadVar t p).run P w=.ok v w) (hx:tmps.getD e undef=.pointer (some q)) (hm:(loadVar u q).run P w=.ok x w):(results fn tmps).run P w=.ok (.tuple #[v,x]) w:=by
  have hs':tmps[d]?.getD undef=.pointer (some p):=by rw [← hs,Array.getD_eq_getD_getElem?]
  have hx':tmps[e]?.getD undef=.pointer (some q):=by rw [← hx,Array.getD_eq_getD_getElem?]
  simp [results,h,hs',asAddr,hl,hx',hm]
abbrev oU:Option Value:=some undef
abbrev oT:Option Value:=some (.bool true)
abbrev oF:Option Value:=some (.bool false)
def isUndef (v:Value):Bool:=match v with
  | .tuple a=>a.size == 0
  | _=>false
theorem undef_of {v:Value} (h:isUndef v=true):v=undef:=by
  cases v <;> simp [isUndef] at h
  subst h;rfl
def wantP (ops:Array Oper) (n:Nat) (l:List (Option Value)) (o:Oper) (p:Nat):Option Bool:=match o.guard,look ops l o p with
  | some (j,want),some (dj,v)=>(match ops[j]? with
    | some oj=>(match oj.dst with
      | some d=>if d=dj ∧ Nat.blt dj n=true then (match v with | .bool b=>some (b == want) | v=>if isUndef v=true then some false else none) else none
      | none=>none)
    | none=>none)
  | _,_=>none
def okD (o:Oper) (n i:Nat) (B:List EB) (A:List EA):Bool:=match o.dst with
  | some d=>Nat.blt d n && chkX B A i (some d)
  | none=>false
def isU (l:List (Option Value)) (i:Nat):Bool:=match l[i]? with
  | some (some v)=>isUndef v
  | _=>false
def mvd (o:Oper):Option Nat:=match o.op with
  | .move (.tmp d) | .assign (.tmp d)=>some d
  | _=>none
section
variable {P:Program} {ops:Array Oper} {Q:Exit → Act → World → Prop} {n:Nat} {a0:Act} {w0 W:World} {B:List EB} {A:List EA} {l:List (Option Value)} {i:Nat} {o:Oper} {fl:Nat → Bool} {a:Act} {w:World}
theorem Cx.want (c:Cx ops n a0 w0 W B A l i o fl a w) {p:Nat} {r:Bool} (h:wantP ops n l o p=some r):Region.wanted o (yielded ops a.tmps)=r:=by
  unfold wantP at h
  cases hg:o.guard with
  | none=>rw [hg] at h;cases h
  | some q=>
    obtain ⟨j,want⟩:=q
    cases hu:look ops l o p with
    | none=>rw [hg,hu] at h;cases h
    | some q=>
      obtain ⟨dj,v⟩:=q
      rw [hg,hu] at h
      simp only at h
      have hv:=c.u p hu
      cases hj:ops[j]? with
      | none=>rw [hj] at h;cases h
      | some oj=>
        rw [hj] at h
        simp only at h
        cases hd:oj.dst with
        | none=>rw [hd] at h;cases h
        | some d=>
          rw [hd] at h
          simp only at h
          split at h
          · rename_i hlt
            obtain ⟨rfl,hlt⟩:=hlt
            split at h
            · cases h
              exact wanted_of hg hj hd (by rw [c.sz];exact Nat.le_of_ble_eq_true hlt) hv
            · split at h
              · rename_i hx
                cases h
                exact c.wu hg hj hd hlt (hv.trans (undef_of hx))
              · cases h
          · cases h
theorem kno {L:List Oper} (p:Nat) (t:Hops P ops Q n a0 w0 W B A l (i + 1) L) (h:(wantP ops n l o p=some false):=by exact rfl) (h2:(okD o n i B A && isU l i)=true:=by exact rfl):Hops P ops Q n a0 w0 W B A l i (o :: L):=hk (fun c=>by
  rw [Bool.and_eq_true] at h2
  unfold okD isU at h2
  cases hd:o.dst with
  | none=>rw [hd] at h2;cases h2.1
  | some d=>
    rw [hd] at h2
    simp only [Bool.and_eq_true] at h2
    refine c.no (c.want h) hd h2.1.1 ?_ (by rw [hd];exact h2.1.2)
    have h3:=h2.2
    unfold TabO
    cases hl:l[i]? with
    | none=>trivial
    | some q=>
      cases q with
      | none=>trivial
      | some v=>rw [hl] at h3;exact (undef_of h3).symm) t
theorem Cx.vy (c:Cx ops n a0 w0 W B A l i o fl a w) (p:Nat) {v:Value} (hr:(execOp a.eval o).run P w=.ok (.value v) w) (ht:TabO l i v:=by exact rfl) (h:wantP ops n l o p=some true:=by exact rfl) (h2:okD o n i B A=true:=by exact rfl):wpOp P ops Q i (Post w0 W B A l i o fl a) a w:=by
  unfold okD at h2
  cases hd:o.dst with
  | none=>rw [hd] at h2;cases h2
  | some d=>
    rw [hd] at h2
    simp only [Bool.and_eq_true] at h2
    exact c.val (c.want h) hr hd h2.1 ht (by rw [hd];exact h2.2)
theorem Cx.q (c:Cx ops n a0 w0 W B A l i o fl a w) {v:Value} (hr:(execOp a.eval o).run P w=.ok (.value v) w) (hk:okV o n i B A=true:=by exact rfl) (ht:TabO l i v:=by exact rfl):wpOp P ops Q i (Post w0 W B A l i o fl a) a w:=c.v hr hk ht
theorem kmu {L:List Oper} (p:Nat) (t:Hops P ops Q n a0 w0 W B A l (i + 1) L) (h1:okV o n i B A=true:=by exact rfl) (h2:mvd o=(look ops l o p).map (·.1):=by exact rfl) (h3:l[i]?=(look ops l o p).map (fun q=>some q.2):=by exact rfl) (h4:(look ops l o p).isSome=true:=by exact rfl):Hops P ops Q n a0 w0 W B A l i (o :: L):=hk (fun {fl a w} c=>by
  cases hu:look ops l o p with
  | none=>rw [hu] at h4;cases h4
  | some q=>
    obtain ⟨d,v⟩:=q
    rw [hu] at h2 h3
    have hv:=c.u p hu
    have hr:(execOp a.eval o).run P w=.ok (.value v) w:=by
      unfold mvd at h2
      split at h2
      · rename_i d' ho
        cases h2
        exact ex_mv ho hv
      · rename_i d' ho
        cases h2
        exact ex_as ho hv
      · cases h2
    refine c.v hr h1 ?_
    unfold TabO
    rw [h3];rfl) t
end
theorem row_eq {w:World} {g:Nat} {c c':Array Value} {t:TypeId} {fr:Nat × Nat} (h:w.heap[g]?=some (.cells c t fr)) (e:c=c'):w.heap[g]?=some (.cells c' t fr):=by rw [← e];exact h
theorem wp_count {P:Program} {Q:Exit → Act → World → Prop} {a:Act} {w:World} {c:Code} (N:Nat) (I:Nat → Act → World → Prop) (h0:I 0 a w)
    (round:∀ k a w,k ≤ N → I k a w → c.wp P (Exit.then (fun a' w'=>k < N ∧ I (k + 1) a' w') Q) a w):(Code.loop c).wp P Q a w:=by
  refine wp_loop_ghost (fun n a w=>∃ k,k ≤ N ∧ n + k=N ∧ I k a w) N ⟨0,Nat.zero_le _,by omega,h0⟩ ?_
  rintro n a w ⟨k,h1,h2,h3⟩
  refine Code.wp_mono ?_ (round k a w h1 h3)
  intro e a' w' hq
  cases e with
  | normal=>exact ⟨n - 1,by have:=hq.1;omega,k + 1,hq.1,by have:=hq.1;omega,hq.2⟩
  | exit id=>exact hq
  | goto l=>exact hq
  | ret=>exact hq
  | panic ch=>exact hq
  | outgrown=>exact hq
theorem exit_block {Q:Exit → Act → World → Prop} {a:Act} {w:World} {id:Nat} (h:Q .normal a w):Exit.inBlock id Q (.exit id) a w:=by
  simp only [Exit.inBlock,if_true];exact h
theorem wrapk {k N:Nat} (h:k < N) (hN:N ≤ 9223372036854775807):IntKind.i64.wrap ((k:Int) + 1)=((k + 1:Nat):Int):=by rw [IntKind.wrap_i64];omega
end Go.Proofs.YtbpehbeakhocnaaGreatDoor
namespace Go.Proofs.YtbpehbeakhocnaaGreatDoor.Mrm
open Go Go.RowKit
set_option maxRecDepth 100000
theorem mo:Tryz.prog.follows .mixedOrders=true:=by kernel_rfl
theorem xC_one (x:Xi):(xC x).all (·.oneCell')=true:=by kernel_rfl
abbrev cR (a b c d:Int):Array Value:=#[.int .u64 a,.int .u64 b,.int .i64 c,.int .i64 d]
section
variable {ρ:Operand → Value} {o:Oper} {w:World} {x y:Operand} {g:Nat} {fr:Nat × Nat} {T t u:TypeId} {k:IntKind} {a b:Int}
theorem ldX {X:Xi} (ho:o.op=.load 38 x) (hx:ρ x=.pointer (some ⟨g,0,none⟩)) (hg:w.heap[g]?=some (.cells (xC X) T fr)):(execOp ρ o).run Tryz.prog w=.ok (.value (.agg (xC X))) w:=
  exec_loadR 38 x ho g 0 hx hg (xL X) rfl _ Tryz.underlying38 rfl (by kernel_rfl)
theorem ex_box {v:Value} {c:Array Value} (ho:o.op=.box T x) (hx:ρ x=v) (hc:v.cells=c):(execOp ρ o).run Tryz.prog w=.ok (.value (.pointer (some ⟨w.heap.size,0,none⟩))) (w.alloc (.cells c T)):=by
  subst hc
  simp [execOp,ho,hx,go_sem]
theorem al_x (ho:o.op=.alloc 38):(execOp ρ o).run Tryz.prog w=.ok (.value (.pointer (some ⟨w.heap.size,0,none⟩))) (w.alloc (.cells (xC zX) 38)):=by
  simp [execOp,ho,go_sem]
  rfl
theorem ex_z8 (ho:o.op=.build 38 #[]):(execOp ρ o).run Tryz.prog w=.ok (.value (.agg (xC zX))) w:=exec_build ho (vs:=#[]) (by simp) (by kernel_rfl)
theorem ex_an (ho:o.op=.binOp .andNot t x y u) (hx:ρ x=.int k a) (hy:ρ y=.int k b):(execOp ρ o).run Tryz.prog w=.ok (.value (.int k (bits .andNot k a b))) w:=by simp [execOp,ho,hx,hy,go_sem]
theorem ex_nn (ho:o.op=.unOp .not t x) {c:Bool} (hx:ρ x=.bool (!c)):(execOp ρ o).run Tryz.prog w=.ok (.value (.bool c)) w:=by simp [execOp,ho,hx,go_sem]
end
theorem eq_x (a b:Xi) (w:World):(Op.equalIn 10000 38 (.agg (xC a)) (.agg (xC b))).run Tryz.prog w=.ok (eqX a b) w:=by
  simp [go_sem]
  unfold eqX
  (repeat' split) <;> simp [*]
theorem lt32 {op:Int} (h:0 ≤ op ∧ op < 32):op=0 ∨ op=1 ∨ op=2 ∨ op=3 ∨ op=4 ∨ op=5 ∨ op=6 ∨ op=7 ∨ op=8 ∨ op=9 ∨ op=10 ∨ op=11 ∨ op=12 ∨ op=13 ∨ op=14 ∨ op=15 ∨ op=16 ∨ op=17 ∨ op=18 ∨ op=19 ∨ op=20 ∨ op=21 ∨ op=22 ∨ op=23 ∨ op=24 ∨ op=25 ∨ op=26 ∨ op=27 ∨ op=28 ∨ op=29 ∨ op=30 ∨ op=31:=by omega
theorem ne32 {op:Int} (h:¬ (0 ≤ op ∧ op < 32)) (k:Int) (hk:0 ≤ k ∧ k < 32):(op == k)=false:=by
  simp only [beq_eq_false_iff_ne]
  rintro rfl
  exact h hk
end Go.Proofs.YtbpehbeakhocnaaGreatDoor.Mrm
