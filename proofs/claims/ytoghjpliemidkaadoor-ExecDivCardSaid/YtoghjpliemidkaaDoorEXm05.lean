import Derived.Test.YtoghjpliemidkaaDoorEXm04
import Derived.Deep.LoopGhost
import Derived.Test.YtoghjpliemidkaaDoorEXm03
import Derived.Laws.StructEq
set_option linter.unusedVariables false
set_option linter.unusedSimpArgs false
set_option linter.unnecessarySimpa false
namespace Go.Proofs.YtoghjpliemidkaaDoor
open Go Go.RowKit
set_option linter.unusedVariables false
set_option linter.unusedSimpArgs false
def setL (c:Array Value):Nat → List Value → Array Value
  | _,[]=>c
  | o,v :: vs=>setL (c.setIfInBounds o v) (o + 1) vs
theorem stored_trans {w w1 w2:World} {g:Nat} {c1 c2:Array Value} {t:TypeId} (h:Stored w g c1 t w1) (k:Stored w1 g c2 t w2):Stored w g c2 t w2:=
  ⟨k.os.trans h.os,k.tape.trans h.tape,k.output.trans h.output,k.size.trans h.size,k.row,fun j hj=>(k.other j hj).trans (h.other j hj)⟩
theorem stored_setCells {g:Nat} {t:TypeId} (vs:List Value):∀ (w:World) (cs:Array Value) (o:Nat),w.heap[g]?=some (.cells cs t (0,0)) → Stored w g (setL cs o vs) t (w.setCells g o vs):=by
  induction vs with
  | nil=>intro w cs o h;exact ⟨rfl,rfl,rfl,rfl,h,fun _ _=>rfl⟩
  | cons v vs ih=>
    intro w cs o h
    have s:=stored_setCell h o v
    exact stored_trans s (ih _ _ _ s.row)
section
variable {P:Program} {ρ:Operand → Value} {o:Oper} {w:World}
theorem exec_storeP (ty:TypeId) (x y:Operand) (ho:o.op=.store ty x y) (g i:Nat) (cells:Array Value) (hx:ρ x=.pointer (some ⟨g,i,none⟩)) (hy:ρ y=.agg cells) (h1:cells.all (·.oneCell')=true)
    (hi:(P.info? ty).map (·.size)=some cells.size) {t:TypeId} {old:Array Value} (hg:w.heap[g]?=some (.cells old t (0,0))) (hlt:i + cells.size ≤ old.size):(execOp ρ o).run P w=.ok .skip (w.setCells g i cells.toList):=by
  have ht:w.there g i cells.size:=fun j hj=>by
    have hl:i + j < old.size:=by omega
    refine ⟨?_,?_⟩
    · rw [exec_load1 hg (v:=old[i + j]) (by simp [hl])];rfl
    · simp [World.frozen?,hg]
  unfold execOp
  simp only [ho,hx,hy,Instr.storeAt,Instr.sureAddr,Sem.run_bind,Sem.run_pure,Result.andThen_ok,run_storeVar_mid w g i ty cells ht hi h1]
theorem ex_ia {t e:TypeId} {x y:Operand} {g off n sz q:Nat} {k:IntKind} {i:Int} (ho:o.op=.indexAddr t x y) (hx:ρ x=.pointer (some ⟨g,off,none⟩)) (hy:ρ y=.int k i) (hu:P.underlying t=some (.array n e)) (hs:(P.info? e).map (·.size)=some sz)
    (h0:0 ≤ i) (h1:i < n) (hq:off + i.toNat * sz=q):(execOp ρ o).run P w=.ok (.value (.pointer (some ⟨g,q,none⟩))) w:=by
  subst hq
  cases hi:P.info? e with
  | none=>rw [hi] at hs;cases hs
  | some f=>
    rw [hi] at hs
    have hs:f.size=sz:=by simpa using hs
    subst hs
    simp [execOp,ho,hx,hy,Instr.indexAt,Instr.sureAddr,run_underlying hu,asIntOf,sizeOf,typeInfo,hi,h0,h1,Addr.add,go_sem]
theorem exec_callv {c:Call} {f:FuncId} {fn:Func} {args:Array Value} {x:Operand} (ho:o.op=.call c) (hc:c.callee=.value x) (hr:ρ x=.func (.func f) #[] #[]) (ha:c.args.map ρ=args) (hf:P.funcs[f]?=some fn)
    (hn:(fn.name == "runtime.NumGoroutine")=false) (hb:fn.body.isNone=false):(execOp ρ o).run P w=.ok (.enter f args) w:=by
  have hb':¬ fn.body=none:=by
    intro e;rw [e] at hb;cases hb
  have hn':¬ fn.name = "runtime.NumGoroutine" := by simpa using hn
  simp [execOp,ho,resolve,hc,hr,ha,Deferred.ofValue,invoke,callFunc,hf,hb',hn',go_sem]
end
section
variable {P:Program} {ops:Array Oper} {Q:Exit → Act → World → Prop} {n:Nat} {a0:Act} {w0 W:World} {B:List EB} {A:List EA} {l:List (Option Value)} {i:Nat} {o:Oper} {fl:Nat → Bool} {a:Act} {w:World}
theorem Cx.stP (c:Cx ops n a0 w0 W B A l i o fl a w) (hw:Region.wanted o (yielded ops a.tmps)=true) {ty x y} (ho:o.op=.store ty x y) (hd:o.dst=none) (j:Nat) {g off t old cells new} (hj:B[j]?=some ⟨g,t,old,some i,new⟩) (hx:a.eval x=.pointer (some ⟨g,off,none⟩)) (hy:a.eval y=.agg cells)
    (h1:cells.all (·.oneCell')=true) (hi:(P.info? ty).map (·.size)=some cells.size) (hlt:off + cells.size ≤ old.size) (hnew:setL old off cells.toList=new) (hg:W.heap.size ≤ g) (hk:chkX (B.eraseIdx j) A i none=true) (hne:AllL (fun e=>e.g ≠ g) (B.eraseIdx j)) (ht:TabO l i undef):
    wpOp P ops Q i (Post w0 W B A l i o fl a) a w:=by
  have hr:=c.ri j hj
  subst hnew
  have st:=stored_setCells cells.toList w old off hr
  refine wpOp_skpw c.ho hw (exec_storeP ty x y ho g off cells hx hy h1 hi hr hlt) ⟨undef,rfl,?_,?_,?_⟩
  · unfold own;rw [hd];exact ht
  · rw [hd];exact c.S.1.storeBi i j hj hg hk hne st
  · intro k hk1 hn
    refine (st.other k ?_).trans (c.S.2 k hk1 hn)
    intro e
    exact hn ⟨_,List.mem_of_getElem? hj,rfl,e.symm⟩
theorem Cx.callv (c:Cx ops n a0 w0 W B A l i o fl a w) (hw:Region.wanted o (yielded ops a.tmps)=true) {cl:Call} {f:FuncId} {fn:Func} {args:Array Value} {x:Operand} (ho:o.op=.call cl) (hc:cl.callee=.value x) (hr:a.eval x=.func (.func f) #[] #[]) (ha:cl.args.map a.eval=args) (hf:P.funcs[f]?=some fn)
    (hn:okF fn=true) {v:Value} (K:Calls P f args w fun e w'=>e=.returned v ∧ Below w.heap.size w w') {d:Nat} (hd:o.dst=some d) (hlt:Nat.blt d n=true) (ht:TabO l i v) (hk:chkX B A i o.dst=true):
    wpOp P ops Q i (Post w0 W B A l i o fl a) a w:=by
  unfold okF at hn
  simp only [Bool.and_eq_true,Bool.not_eq_true'] at hn
  refine wpOp_callw c.ho hw (exec_callv ho hc hr ha hf hn.1 hn.2) (K.mono ?_)
  rintro e w' ⟨rfl,b⟩
  exact ⟨_,rfl,_,rfl,by rw [own_some hd c.sz hlt];exact ht,c.S.quiet i hk b⟩
end
abbrev oU:Option Value:=some undef
abbrev oT:Option Value:=some (.bool true)
abbrev oF:Option Value:=some (.bool false)
def isUndef (v:Value):Bool:=match v with
  | .tuple a=>a.size == 0
  | _=>false
theorem undef_of {v:Value} (h:isUndef v=true):v=undef:=by
  cases v <;> simp [isUndef] at h
  subst h;rfl
def wantP (ops:Array Oper) (n:Nat) (l:List (Option Value)) (o:Oper) (p:Nat):Option Bool:=match o.guard,look ops l o p with
  | some (j,want),some (dj,v)=>(match ops[j]? with
    | some oj=>(match oj.dst with
      | some d=>if d=dj ∧ Nat.blt dj n=true then (match v with | .bool b=>some (b == want) | v=>if isUndef v=true then some false else none) else none
      | none=>none)
    | none=>none)
  | _,_=>none
def okD (o:Oper) (n i:Nat) (B:List EB) (A:List EA):Bool:=match o.dst with
  | some d=>Nat.blt d n && chkX B A i (some d)
  | none=>false
def isU (l:List (Option Value)) (i:Nat):Bool:=match l[i]? with
  | some (some v)=>isUndef v
  | _=>false
def mvd (o:Oper):Option Nat:=match o.op with
  | .move (.tmp d) | .assign (.tmp d)=>some d
  | _=>none
section
variable {P:Program} {ops:Array Oper} {Q:Exit → Act → World → Prop} {n:Nat} {a0:Act} {w0 W:World} {B:List EB} {A:List EA} {l:List (Option Value)} {i:Nat} {o:Oper} {fl:Nat → Bool} {a:Act} {w:World}
theorem Cx.want (c:Cx ops n a0 w0 W B A l i o fl a w) {p:Nat} {r:Bool} (h:wantP ops n l o p=some r):Region.wanted o (yielded ops a.tmps)=r:=by
  unfold wantP at h
  cases hg:o.guard with
  | none=>rw [hg] at h;cases h
  | some q=>
    obtain ⟨j,want⟩:=q
    cases hu:look ops l o p with
    | none=>rw [hg,hu] at h;cases h
    | some q=>
      obtain ⟨dj,v⟩:=q
      rw [hg,hu] at h
      simp only at h
      have hv:=c.u p hu
      cases hj:ops[j]? with
      | none=>rw [hj] at h;cases h
      | some oj=>
        rw [hj] at h
        simp only at h
        cases hd:oj.dst with
        | none=>rw [hd] at h;cases h
        | some d=>
          rw [hd] at h
          simp only at h
          split at h
          · rename_i hlt
            obtain ⟨rfl,hlt⟩:=hlt
            split at h
            · cases h
              exact wanted_of hg hj hd (by rw [c.sz];exact Nat.le_of_ble_eq_true hlt) hv
            · split at h
              · rename_i hx
                cases h
                exact c.wu hg hj hd hlt (hv.trans (undef_of hx))
              · cases h
          · cases h
theorem kno {L:List Oper} (p:Nat) (t:Hops P ops Q n a0 w0 W B A l (i + 1) L) (h:(wantP ops n l o p=some false):=by exact rfl) (h2:(okD o n i B A && isU l i)=true:=by exact rfl):Hops P ops Q n a0 w0 W B A l i (o :: L):=hk (fun c=>by
  rw [Bool.and_eq_true] at h2
  unfold okD isU at h2
  cases hd:o.dst with
  | none=>rw [hd] at h2;cases h2.1
  | some d=>
    rw [hd] at h2
    simp only [Bool.and_eq_true] at h2
    refine c.no (c.want h) hd h2.1.1 ?_ (by rw [hd];exact h2.1.2)
    have h3:=h2.2
    unfold TabO
    cases hl:l[i]? with
    | none=>trivial
    | some q=>
      cases q with
      | none=>trivial
      | some v=>rw [hl] at h3;exact (undef_of h3).symm) t
theorem Cx.vy (c:Cx ops n a0 w0 W B A l i o fl a w) (p:Nat) {v:Value} (hr:(execOp a.eval o).run P w=.ok (.value v) w) (ht:TabO l i v:=by exact rfl) (h:wantP ops n l o p=some true:=by exact rfl) (h2:okD o n i B A=true:=by exact rfl):wpOp P ops Q i (Post w0 W B A l i o fl a) a w:=by
  unfold okD at h2
  cases hd:o.dst with
  | none=>rw [hd] at h2;cases h2
  | some d=>
    rw [hd] at h2
    simp only [Bool.and_eq_true] at h2
    exact c.val (c.want h) hr hd h2.1 ht (by rw [hd];exact h2.2)
theorem Cx.q (c:Cx ops n a0 w0 W B A l i o fl a w) {v:Value} (hr:(execOp a.eval o).run P w=.ok (.value v) w) (hk:okV o n i B A=true:=by exact rfl) (ht:TabO l i v:=by exact rfl):wpOp P ops Q i (Post w0 W B A l i o fl a) a w:=c.v hr hk ht
theorem kmu {L:List Oper} (p:Nat) (t:Hops P ops Q n a0 w0 W B A l (i + 1) L) (h1:okV o n i B A=true:=by exact rfl) (h2:mvd o=(look ops l o p).map (·.1):=by exact rfl) (h3:l[i]?=(look ops l o p).map (fun q=>some q.2):=by exact rfl) (h4:(look ops l o p).isSome=true:=by exact rfl):Hops P ops Q n a0 w0 W B A l i (o :: L):=hk (fun {fl a w} c=>by
  cases hu:look ops l o p with
  | none=>rw [hu] at h4;cases h4
  | some q=>
    obtain ⟨d,v⟩:=q
    rw [hu] at h2 h3
    have hv:=c.u p hu
    have hr:(execOp a.eval o).run P w=.ok (.value v) w:=by
      unfold mvd at h2
      split at h2
      · rename_i d' ho
        cases h2
        exact ex_mv ho hv
      · rename_i d' ho
        cases h2
        exact ex_as ho hv
      · cases h2
    refine c.v hr h1 ?_
    unfold TabO
    rw [h3];rfl) t
end
theorem row_eq {w:World} {g:Nat} {c c':Array Value} {t:TypeId} {fr:Nat × Nat} (h:w.heap[g]?=some (.cells c t fr)) (e:c=c'):w.heap[g]?=some (.cells c' t fr):=by rw [← e];exact h
theorem wp_count {P:Program} {Q:Exit → Act → World → Prop} {a:Act} {w:World} {c:Code} (N:Nat) (I:Nat → Act → World → Prop) (h0:I 0 a w)
    (round:∀ k a w,k ≤ N → I k a w → c.wp P (Exit.then (fun a' w'=>k < N ∧ I (k + 1) a' w') Q) a w):(Code.loop c).wp P Q a w:=by
  refine wp_loop_ghost (fun n a w=>∃ k,k ≤ N ∧ n + k=N ∧ I k a w) N ⟨0,Nat.zero_le _,by omega,h0⟩ ?_
  rintro n a w ⟨k,h1,h2,h3⟩
  refine Code.wp_mono ?_ (round k a w h1 h3)
  intro e a' w' hq
  cases e with
  | normal=>exact ⟨n - 1,by have:=hq.1;omega,k + 1,hq.1,by have:=hq.1;omega,hq.2⟩
  | exit id=>exact hq
  | goto l=>exact hq
  | ret=>exact hq
  | panic ch=>exact hq
  | outgrown=>exact hq
theorem wrapk {k N:Nat} (h:k < N) (hN:N ≤ 9223372036854775807):IntKind.i64.wrap ((k:Int) + 1)=((k + 1:Nat):Int):=by rw [IntKind.wrap_i64];omega
end Go.Proofs.YtoghjpliemidkaaDoor
namespace Go.Proofs.YtoghjpliemidkaaDoor.Mrm
open Go Go.RowKit
set_option linter.unusedVariables false
set_option linter.unusedSimpArgs false
set_option maxRecDepth 100000
theorem mo:Tryd.prog.follows .mixedOrders=true:=by kernel_rfl
section
variable {ρ:Operand → Value} {o:Oper} {w:World} {x y:Operand} {g:Nat} {fr:Nat × Nat} {T t u:TypeId} {k:IntKind} {a b:Int}
theorem ldX {X:Xi} (ho:o.op=.load 26 x) (hx:ρ x=.pointer (some ⟨g,0,none⟩)) (hg:w.heap[g]?=some (.cells (xC X) T fr)):(execOp ρ o).run Tryd.prog w=.ok (.value (.agg (xC X))) w:=
  exec_loadR 26 x ho g 0 hx hg (xL X) rfl _ Tryd.underlying26 rfl (by kernel_rfl)
theorem ex_box {v:Value} {c:Array Value} (ho:o.op=.box T x) (hx:ρ x=v) (hc:v.cells=c):(execOp ρ o).run Tryd.prog w=.ok (.value (.pointer (some ⟨w.heap.size,0,none⟩))) (w.alloc (.cells c T)):=by
  subst hc
  simp [execOp,ho,hx,go_sem]
theorem al_x (ho:o.op=.alloc 26):(execOp ρ o).run Tryd.prog w=.ok (.value (.pointer (some ⟨w.heap.size,0,none⟩))) (w.alloc (.cells (xC zX) 26)):=by
  simp [execOp,ho,go_sem]
  rfl
end
set_option maxHeartbeats 1000000 in
theorem eq_x (a b:Xi) (w:World):(Op.equalIn 10000 26 (.agg (xC a)) (.agg (xC b))).run Tryd.prog w=.ok (eqX a b) w:=by
  simp [go_sem]
  unfold eqX
  (repeat' split) <;> simp [*]
theorem lt32 {op:Int} (h:0 ≤ op ∧ op < 32):op=0 ∨ op=1 ∨ op=2 ∨ op=3 ∨ op=4 ∨ op=5 ∨ op=6 ∨ op=7 ∨ op=8 ∨ op=9 ∨ op=10 ∨ op=11 ∨ op=12 ∨ op=13 ∨ op=14 ∨ op=15 ∨ op=16 ∨ op=17 ∨ op=18 ∨ op=19 ∨ op=20 ∨ op=21 ∨ op=22 ∨ op=23 ∨ op=24 ∨ op=25 ∨ op=26 ∨ op=27 ∨ op=28 ∨ op=29 ∨ op=30 ∨ op=31:=by omega
end Go.Proofs.YtoghjpliemidkaaDoor.Mrm
namespace Go.Proofs.YtoghjpliemidkaaDoor.Mrm
open Go Go.RowKit
set_option linter.unusedVariables false
set_option linter.unusedSimpArgs false
set_option maxRecDepth 100000
end Go.Proofs.YtoghjpliemidkaaDoor.Mrm
namespace Go.Proofs.YtoghjpliemidkaaDoor.Mrm
open Go Go.RowKit
set_option linter.unusedVariables false
set_option linter.unusedSimpArgs false
set_option linter.unnecessarySimpa false
set_option maxRecDepth 100000
end Go.Proofs.YtoghjpliemidkaaDoor.Mrm
namespace Go.Proofs.YtoghjpliemidkaaDoor.Mrm
open Go Go.RowKit
set_option linter.unusedVariables false
set_option linter.unusedSimpArgs false
set_option linter.unnecessarySimpa false
set_option maxRecDepth 100000
theorem nb {b c:Bool} (h:(!b)=c):b=!c:=by rw [← h,Bool.not_not]
theorem wrap_w {n:Int} (h:-128 ≤ n ∧ n < 128):IntKind.i64.wrap n=n:=by rw [IntKind.wrap_i64];omega
end Go.Proofs.YtoghjpliemidkaaDoor.Mrm
namespace Go.Proofs.YtoghjpliemidkaaDoor.Mrm
open Go Go.RowKit
set_option linter.unusedVariables false
set_option linter.unnecessarySimpa false
set_option linter.unusedSimpArgs false
set_option maxRecDepth 100000
def rexN (wide:Bool) (r m:Int):Int:=(bif wide then 8 else 0) + (bif decide (7 < r) then 4 else 0) + (bif decide (7 < m) then 1 else 0)
def rexL (wide:Bool) (r m:Int) (al:Bool):List Int:=if rexN wide r m=0 ∧ al=false then [] else [64 + rexN wide r m]
end Go.Proofs.YtoghjpliemidkaaDoor.Mrm
namespace Go.Proofs.YtoghjpliemidkaaDoor.Mrm
open Go Go.RowKit
set_option linter.unusedVariables false
set_option linter.unnecessarySimpa false
set_option linter.unusedSimpArgs false
set_option maxRecDepth 100000
end Go.Proofs.YtoghjpliemidkaaDoor.Mrm
namespace Go.Proofs.YtoghjpliemidkaaDoor.Mrm
open Go Go.RowKit
set_option linter.unusedVariables false
set_option linter.unnecessarySimpa false
set_option linter.unusedSimpArgs false
set_option maxRecDepth 100000
def bareX (x:Xi):List Int:=
  if x.op=28 then (if x.w=8 then [235,x.imm % 256] else [233] ++ numL x.imm 4) else
  if x.op=29 then (if x.w=8 then [112 + x.cc,x.imm % 256] else [15,128 + x.cc] ++ numL x.imm 4) else
  if x.op=30 then [195] else [15,5]
def bytesX (x:Xi):List Int:=
  if x.op=16 then rexL (x.w == 64) x.dst x.src false ++ [15,175,opI 192 x.dst x.src] else
  if clsI x.op=1 then rexL (x.w == 64) x.src x.dst false ++ [codI x.op,opI 192 x.src x.dst] else
  if x.op=1 then (rexL (x.w == 64) 0 x.dst false ++ (if x.w=64 then [199,opI 192 0 x.dst] else [184 + x.dst % 8])) ++ numL x.imm 4 else
  if clsI x.op=2 then ((rexL (x.w == 64) 0 x.dst false ++ [if x.op=15 then 247 else 129]) ++ [opI 192 (codI x.op) x.dst]) ++ numL x.imm 4 else
  if clsI x.op=3 then rexL (x.w == 64) 0 x.dst false ++ [193,opI 192 (codI x.op) x.dst,x.imm] else
  if clsI x.op=4 then rexL (x.w == 64) 0 x.dst false ++ [if x.op=23 ∨ x.op=24 then 247 else 211,opI 192 (codI x.op) x.dst] else
  if x.op=25 then rexL (x.w == 64) x.dst x.src false ++ [15,64 + x.cc,opI 192 x.dst x.src] else
  if x.op=26 then (rexL (x.w == 64) x.dst x.base false ++ (if x.w=8 then [15,182] else if x.w=16 then [15,183] else [139])) ++ memL x.dst x.base x.disp else
  if x.op=27 then (((if x.w=16 then [102] else []) ++ rexL (x.w == 64) x.src x.base (x.w == 8)) ++ [if x.w=8 then 136 else 137]) ++ memL x.src x.base x.disp
  else bareX x
theorem below_boxed {W w':World} {o:Obj} (h:Below (W.alloc o).heap.size (W.alloc o) w'):Below W.heap.size W w':=below_call (below_new (Below.refl _ _) _) h
theorem xcells {W w:World} {op wd dst src base disp imm cc:Int} (b:Below (W.alloc (.cells #[.int .i8 op,.int .i8 wd,.int .i8 dst,.int .i8 src,.int .i8 base,.int .i64 disp,.int .i64 imm,.int .i8 cc] 26)).heap.size (W.alloc (.cells #[.int .i8 op,.int .i8 wd,.int .i8 dst,.int .i8 src,.int .i8 base,.int .i64 disp,.int .i64 imm,.int .i8 cc] 26)) w):
    w.cell? ⟨W.heap.size,0,none⟩=some (.int .i8 op) ∧ w.cell? ⟨W.heap.size,1,none⟩=some (.int .i8 wd) ∧ w.cell? ⟨W.heap.size,2,none⟩=some (.int .i8 dst) ∧ w.cell? ⟨W.heap.size,3,none⟩=some (.int .i8 src) ∧
    w.cell? ⟨W.heap.size,4,none⟩=some (.int .i8 base) ∧ w.cell? ⟨W.heap.size,5,none⟩=some (.int .i64 disp) ∧ w.cell? ⟨W.heap.size,6,none⟩=some (.int .i64 imm) ∧ w.cell? ⟨W.heap.size,7,none⟩=some (.int .i8 cc):=by
  have h:=(b.block W.heap.size (by simp)).trans (heap_last W _ _ rfl)
  simp only [World.cell?,h]
  exact ⟨rfl,rfl,rfl,rfl,rfl,rfl,rfl,rfl⟩
theorem memL_few (r m d:Int):(memL r m d).length ≤ 6:=by
  unfold memL midL
  split <;> simp [numL_length]
def RetX (l:List Int) (c:Int) (W:World) (e:Ending) (w':World):Prop:=∃ v,e=.returned (.tuple #[v,.int .i64 c]) ∧ Bts W.heap.size w' v l ∧ Below W.heap.size W w'
end Go.Proofs.YtoghjpliemidkaaDoor.Mrm
namespace Go.Proofs.YtoghjpliemidkaaDoor.Exe
open Go Go.RowKit
open Mrm (Xi zX mayX bytesX)
open Flg (Fl zF addF subF ofF holF holE)
set_option linter.unusedVariables false
set_option linter.unnecessarySimpa false
set_option linter.unusedSimpArgs false
structure Mc where
  r:Nat → Int
  f:Fl
  a:Int
def Mc.setR (m:Mc) (j:Nat) (v:Int):Mc:={ m with r:=fun k=>if k=j then v else m.r k }
def zM:Mc:=⟨fun _=>0,zF,0⟩
def mcC (m:Mc):Array Value:=#[.int .u64 (m.r 0),.int .u64 (m.r 1),.int .u64 (m.r 2),.int .u64 (m.r 3),.int .u64 (m.r 4),.int .u64 (m.r 5),.int .u64 (m.r 6),.int .u64 (m.r 7),.int .u64 (m.r 8),.int .u64 (m.r 9),.int .u64 (m.r 10),.int .u64 (m.r 11),.int .u64 (m.r 12),.int .u64 (m.r 13),.int .u64 (m.r 14),.int .u64 (m.r 15),.bool m.f.k,.bool m.f.c,.bool m.f.z,.bool m.f.s,.bool m.f.o,.int .u64 m.a]
structure Ex where
  m:Mc
  x:Xi
  l:Int
def exC (s:Ex):Array Value:=#[.int .u64 (s.m.r 0),.int .u64 (s.m.r 1),.int .u64 (s.m.r 2),.int .u64 (s.m.r 3),.int .u64 (s.m.r 4),.int .u64 (s.m.r 5),.int .u64 (s.m.r 6),.int .u64 (s.m.r 7),.int .u64 (s.m.r 8),.int .u64 (s.m.r 9),.int .u64 (s.m.r 10),.int .u64 (s.m.r 11),.int .u64 (s.m.r 12),.int .u64 (s.m.r 13),.int .u64 (s.m.r 14),.int .u64 (s.m.r 15),.bool s.m.f.k,.bool s.m.f.c,.bool s.m.f.z,.bool s.m.f.s,.bool s.m.f.o,.int .u64 s.m.a,
  .int .i8 s.x.op,.int .i8 s.x.w,.int .i8 s.x.dst,.int .i8 s.x.src,.int .i8 s.x.base,.int .i64 s.x.disp,.int .i64 s.x.imm,.int .i8 s.x.cc,.int .u64 s.l]
def Ex.upR (s:Ex) (j:Nat) (v:Int):Ex:=⟨s.m.setR j v,s.x,s.l⟩
def Ex.upF (s:Ex) (f:Fl):Ex:=⟨⟨s.m.r,f,s.m.a⟩,s.x,s.l⟩
def Ex.upA (s:Ex) (v:Int):Ex:=⟨⟨s.m.r,s.m.f,v⟩,s.x,s.l⟩
def Mc.upF (m:Mc) (f:Fl):Mc:=⟨m.r,f,m.a⟩
def Mc.upA (m:Mc) (v:Int):Mc:=⟨m.r,m.f,v⟩
theorem lt16 {j:Nat} (h:j < 16):j=0 ∨ j=1 ∨ j=2 ∨ j=3 ∨ j=4 ∨ j=5 ∨ j=6 ∨ j=7 ∨ j=8 ∨ j=9 ∨ j=10 ∨ j=11 ∨ j=12 ∨ j=13 ∨ j=14 ∨ j=15:=by omega
theorem exC_size (s:Ex):(exC s).size=31:=rfl
theorem mcC_size (m:Mc):(mcC m).size=22:=rfl
theorem exC_reg (s:Ex) {j:Nat} (h:j < 16):(exC s)[j]?=some (.int .u64 (s.m.r j)):=by
  rcases lt16 h with rfl | rfl | rfl | rfl | rfl | rfl | rfl | rfl | rfl | rfl | rfl | rfl | rfl | rfl | rfl | rfl <;> rfl
theorem mcC_reg (s:Mc) {j:Nat} (h:j < 16):(mcC s)[j]?=some (.int .u64 (s.r j)):=by
  rcases lt16 h with rfl | rfl | rfl | rfl | rfl | rfl | rfl | rfl | rfl | rfl | rfl | rfl | rfl | rfl | rfl | rfl <;> rfl
theorem exC_set (s:Ex) {j:Nat} (h:j < 16) (v:Int):(exC s).setIfInBounds j (.int .u64 v)=exC (s.upR j v):=by
  rcases lt16 h with rfl | rfl | rfl | rfl | rfl | rfl | rfl | rfl | rfl | rfl | rfl | rfl | rfl | rfl | rfl | rfl <;> rfl
theorem mcC_set (s:Mc) {j:Nat} (h:j < 16) (v:Int):(mcC s).setIfInBounds j (.int .u64 v)=mcC (s.setR j v):=by
  rcases lt16 h with rfl | rfl | rfl | rfl | rfl | rfl | rfl | rfl | rfl | rfl | rfl | rfl | rfl | rfl | rfl | rfl <;> rfl
theorem upR_self (s:Ex) (j:Nat) (v:Int):(s.upR j v).m.r j=v:=if_pos rfl
theorem setR_self (s:Mc) (j:Nat) (v:Int):(s.setR j v).r j=v:=if_pos rfl
theorem setR_other (s:Mc) {j k:Nat} (v:Int) (h:k ≠ j):(s.setR j v).r k=s.r k:=if_neg h
abbrev U64 (v:Int):Prop:=0 ≤ v ∧ v < 18446744073709551616
structure MOk (m:Mc):Prop where
  r:∀ j,U64 (m.r j)
  a:U64 m.a
theorem MOk.setR {m:Mc} (h:MOk m) (j:Nat) {v:Int} (hv:U64 v):MOk (m.setR j v):=⟨fun k=>by
  show U64 (if k=j then v else m.r k)
  by_cases e:k=j
  · rw [if_pos e];exact hv
  · rw [if_neg e];exact h.r k,h.a⟩
theorem MOk.upF {m:Mc} (h:MOk m) (f:Fl):MOk (m.upF f):=⟨h.r,h.a⟩
theorem MOk.upA {m:Mc} (h:MOk m) {v:Int} (hv:U64 v):MOk (m.upA v):=⟨h.r,hv⟩
theorem U64.wrap (v:Int):U64 (IntKind.u64.wrap v):=by rw [IntKind.wrap_u64];unfold U64;omega
theorem U64.cut {v:Int} (h:U64 v) (w:Int):U64 (cutI v w):=cutI_bd v w h.1 h.2
theorem U64.do_ (op w:Int) {a b:Int} (ha:U64 a) (hb:U64 b):U64 (doI op w a b):=doI_bd op w a b ha.1 ha.2 hb.1 hb.2
theorem U64.and {a b:Int} (ha:U64 a) (hb:U64 b):U64 (((a.toNat &&& b.toNat:Nat):Int)):=⟨Int.natCast_nonneg _,and_bd a b ha.2⟩
def srcX (m:Mc) (x:Xi) (l:Int):Int:=
  if x.op=20 ∨ x.op=21 ∨ x.op=22 then m.r 1
  else if x.op=26 ∨ x.op=30 ∨ x.op=31 then l
  else if x.op=0 ∨ x.op=2 ∨ x.op=3 ∨ x.op=4 ∨ x.op=5 ∨ x.op=6 ∨ x.op=7 ∨ x.op=8 ∨ x.op=16 ∨ x.op=25 then m.r x.src.toNat
  else IntKind.u64.wrap x.imm
def putX (op:Int) (fl:Fl) (m:Mc) (x:Xi) (b:Int):Mc:=(m.upF fl).setR x.dst.toNat (doI op x.w (m.r x.dst.toNat) b)
def divB (m:Mc) (x:Xi):Bool:=cutI (m.r 2) x.w == 0 && cutI (m.r x.dst.toNat) x.w != 0
def divM (m:Mc) (x:Xi):Mc:=((m.setR 0 (doI 3 x.w (m.r 0) (m.r x.dst.toNat))).setR 2 (doI 9 x.w (m.r 0) (m.r x.dst.toNat))).upF zF
def cmvM (m:Mc) (x:Xi):Mc:=m.setR x.dst.toNat (cutI (bif holF x.cc m.f then m.r x.src.toNat else m.r x.dst.toNat) x.w)
def jccM (m:Mc) (x:Xi):Mc:=bif holF x.cc m.f then m.upA (IntKind.u64.wrap (m.a + IntKind.u64.wrap x.imm)) else m
def effX (m:Mc) (x:Xi) (l:Int):Option Mc:=
  let d:=x.dst.toNat;let a:=m.r d;let b:=srcX m x l;let w:=x.w
  if x.op=0 ∨ x.op=1 ∨ x.op=26 then some (m.setR d (cutI b w))
  else if x.op=2 ∨ x.op=9 then some (putX 0 (addF w a b) m x b)
  else if x.op=3 ∨ x.op=10 then some (putX 4 (ofF w (doI 4 w a b)) m x b)
  else if x.op=4 ∨ x.op=11 then some (putX 5 (ofF w (doI 5 w a b)) m x b)
  else if x.op=5 ∨ x.op=12 then some (putX 1 (subF w a b) m x b)
  else if x.op=6 ∨ x.op=13 then some (putX 10 (ofF w (doI 10 w a b)) m x b)
  else if x.op=7 ∨ x.op=14 then some (m.upF (subF w a b))
  else if x.op=8 ∨ x.op=15 then some (m.upF (ofF w (doI 5 w a b)))
  else if x.op=16 then some (putX 2 zF m x b)
  else if x.op=17 ∨ x.op=20 then some (putX 6 zF m x b)
  else if x.op=18 ∨ x.op=21 then some (putX 7 zF m x b)
  else if x.op=19 ∨ x.op=22 then some (putX 12 zF m x b)
  else if x.op=23 then some ((m.upF (subF w 0 a)).setR d (doI 8 w a 0))
  else if x.op=24 then (bif divB m x then some (divM m x) else none)
  else if x.op=25 then (bif m.f.k then some (cmvM m x) else none)
  else if x.op=27 then some m
  else if x.op=28 then some (m.upA (IntKind.u64.wrap (m.a + b)))
  else if x.op=29 then (bif m.f.k then some (jccM m x) else none)
  else if x.op=30 then some ((m.upA l).setR 4 (IntKind.u64.wrap (m.r 4 + 8)))
  else some (((m.setR 0 l).setR 1 0).setR 11 0)
def lenX (x:Xi):Int:=((bytesX x).length:Int)
def goX (m:Mc) (x:Xi) (l:Int):Option Mc:=effX (m.upA (IntKind.u64.wrap (m.a + IntKind.u64.wrap (lenX x)))) x l
def doX (m:Mc) (x:Xi) (l:Int):Mc:=if mayX x=true then (goX m x l).getD zM else zM
def doXe (m:Mc) (x:Xi) (l:Int):Int:=if mayX x=true then (if (goX m x l).isSome=true then 0 else 20) else 2
theorem ofF_and (w:Int) {a b:Int} (ha:U64 a) (hb:U64 b):ofF w (((a.toNat &&& b.toNat:Nat):Int))=ofF w (doI 5 w a b):=by
  unfold ofF
  cases h:longB w
  · rfl
  · show Flg.aftF w (cutI _ w) false false=Flg.aftF w (cutI _ w) false false
    have e:cutI (((a.toNat &&& b.toNat:Nat):Int)) w=cutI (doI 5 w a b) w:=by
      rw [show doI 5 w a b=cutI (opI 5 w (cutI a w) (cutI b w)) w from if_pos ⟨by omega,by omega,h⟩,Flg.cut_cut h,opI_5]
      rcases longB_cases h with rfl | rfl
      · simp only [cutI_32]
        have e1:(a % 4294967296).toNat=a.toNat % 2 ^ 32:=by have:=ha.1;omega
        have e2:(b % 4294967296).toNat=b.toNat % 2 ^ 32:=by have:=hb.1;omega
        rw [e1,e2,← Nat.and_mod_two_pow]
        omega
      · simp only [cutI_64]
    rw [e]
theorem eff_0 (m:Mc) {x:Xi} (l:Int) (h:x.op=0):effX m x l=some (m.setR x.dst.toNat (cutI (m.r x.src.toNat) x.w)):=by
  unfold effX srcX;simp only [h];rfl
theorem eff_1 (m:Mc) {x:Xi} (l:Int) (h:x.op=1):effX m x l=some (m.setR x.dst.toNat (cutI (IntKind.u64.wrap x.imm) x.w)):=by
  unfold effX srcX;simp only [h];rfl
theorem eff_2 (m:Mc) {x:Xi} (l:Int) (h:x.op=2):effX m x l=some ((m.upF (addF x.w (m.r x.dst.toNat) (m.r x.src.toNat))).setR x.dst.toNat (doI 0 x.w (m.r x.dst.toNat) (m.r x.src.toNat))):=by
  unfold effX srcX;simp only [h];rfl
theorem eff_3 (m:Mc) {x:Xi} (l:Int) (h:x.op=3):effX m x l=some ((m.upF (ofF x.w (doI 4 x.w (m.r x.dst.toNat) (m.r x.src.toNat)))).setR x.dst.toNat (doI 4 x.w (m.r x.dst.toNat) (m.r x.src.toNat))):=by
  unfold effX srcX;simp only [h];rfl
theorem eff_4 (m:Mc) {x:Xi} (l:Int) (h:x.op=4):effX m x l=some ((m.upF (ofF x.w (doI 5 x.w (m.r x.dst.toNat) (m.r x.src.toNat)))).setR x.dst.toNat (doI 5 x.w (m.r x.dst.toNat) (m.r x.src.toNat))):=by
  unfold effX srcX;simp only [h];rfl
theorem eff_5 (m:Mc) {x:Xi} (l:Int) (h:x.op=5):effX m x l=some ((m.upF (subF x.w (m.r x.dst.toNat) (m.r x.src.toNat))).setR x.dst.toNat (doI 1 x.w (m.r x.dst.toNat) (m.r x.src.toNat))):=by
  unfold effX srcX;simp only [h];rfl
theorem eff_6 (m:Mc) {x:Xi} (l:Int) (h:x.op=6):effX m x l=some ((m.upF (ofF x.w (doI 10 x.w (m.r x.dst.toNat) (m.r x.src.toNat)))).setR x.dst.toNat (doI 10 x.w (m.r x.dst.toNat) (m.r x.src.toNat))):=by
  unfold effX srcX;simp only [h];rfl
theorem eff_7 (m:Mc) {x:Xi} (l:Int) (h:x.op=7):effX m x l=some (m.upF (subF x.w (m.r x.dst.toNat) (m.r x.src.toNat))):=by
  unfold effX srcX;simp only [h];rfl
theorem eff_8 (m:Mc) {x:Xi} (l:Int) (h:x.op=8):effX m x l=some (m.upF (ofF x.w (doI 5 x.w (m.r x.dst.toNat) (m.r x.src.toNat)))):=by
  unfold effX srcX;simp only [h];rfl
theorem eff_9 (m:Mc) {x:Xi} (l:Int) (h:x.op=9):effX m x l=some ((m.upF (addF x.w (m.r x.dst.toNat) (IntKind.u64.wrap x.imm))).setR x.dst.toNat (doI 0 x.w (m.r x.dst.toNat) (IntKind.u64.wrap x.imm))):=by
  unfold effX srcX;simp only [h];rfl
theorem eff_10 (m:Mc) {x:Xi} (l:Int) (h:x.op=10):effX m x l=some ((m.upF (ofF x.w (doI 4 x.w (m.r x.dst.toNat) (IntKind.u64.wrap x.imm)))).setR x.dst.toNat (doI 4 x.w (m.r x.dst.toNat) (IntKind.u64.wrap x.imm))):=by
  unfold effX srcX;simp only [h];rfl
theorem eff_11 (m:Mc) {x:Xi} (l:Int) (h:x.op=11):effX m x l=some ((m.upF (ofF x.w (doI 5 x.w (m.r x.dst.toNat) (IntKind.u64.wrap x.imm)))).setR x.dst.toNat (doI 5 x.w (m.r x.dst.toNat) (IntKind.u64.wrap x.imm))):=by
  unfold effX srcX;simp only [h];rfl
theorem eff_12 (m:Mc) {x:Xi} (l:Int) (h:x.op=12):effX m x l=some ((m.upF (subF x.w (m.r x.dst.toNat) (IntKind.u64.wrap x.imm))).setR x.dst.toNat (doI 1 x.w (m.r x.dst.toNat) (IntKind.u64.wrap x.imm))):=by
  unfold effX srcX;simp only [h];rfl
theorem eff_13 (m:Mc) {x:Xi} (l:Int) (h:x.op=13):effX m x l=some ((m.upF (ofF x.w (doI 10 x.w (m.r x.dst.toNat) (IntKind.u64.wrap x.imm)))).setR x.dst.toNat (doI 10 x.w (m.r x.dst.toNat) (IntKind.u64.wrap x.imm))):=by
  unfold effX srcX;simp only [h];rfl
theorem eff_14 (m:Mc) {x:Xi} (l:Int) (h:x.op=14):effX m x l=some (m.upF (subF x.w (m.r x.dst.toNat) (IntKind.u64.wrap x.imm))):=by
  unfold effX srcX;simp only [h];rfl
theorem eff_15 (m:Mc) {x:Xi} (l:Int) (h:x.op=15):effX m x l=some (m.upF (ofF x.w (doI 5 x.w (m.r x.dst.toNat) (IntKind.u64.wrap x.imm)))):=by
  unfold effX srcX;simp only [h];rfl
theorem eff_16 (m:Mc) {x:Xi} (l:Int) (h:x.op=16):effX m x l=some ((m.upF (zF)).setR x.dst.toNat (doI 2 x.w (m.r x.dst.toNat) (m.r x.src.toNat))):=by
  unfold effX srcX;simp only [h];rfl
theorem eff_17 (m:Mc) {x:Xi} (l:Int) (h:x.op=17):effX m x l=some ((m.upF (zF)).setR x.dst.toNat (doI 6 x.w (m.r x.dst.toNat) (IntKind.u64.wrap x.imm))):=by
  unfold effX srcX;simp only [h];rfl
theorem eff_18 (m:Mc) {x:Xi} (l:Int) (h:x.op=18):effX m x l=some ((m.upF (zF)).setR x.dst.toNat (doI 7 x.w (m.r x.dst.toNat) (IntKind.u64.wrap x.imm))):=by
  unfold effX srcX;simp only [h];rfl
theorem eff_19 (m:Mc) {x:Xi} (l:Int) (h:x.op=19):effX m x l=some ((m.upF (zF)).setR x.dst.toNat (doI 12 x.w (m.r x.dst.toNat) (IntKind.u64.wrap x.imm))):=by
  unfold effX srcX;simp only [h];rfl
theorem eff_20 (m:Mc) {x:Xi} (l:Int) (h:x.op=20):effX m x l=some ((m.upF (zF)).setR x.dst.toNat (doI 6 x.w (m.r x.dst.toNat) (m.r 1))):=by
  unfold effX srcX;simp only [h];rfl
theorem eff_21 (m:Mc) {x:Xi} (l:Int) (h:x.op=21):effX m x l=some ((m.upF (zF)).setR x.dst.toNat (doI 7 x.w (m.r x.dst.toNat) (m.r 1))):=by
  unfold effX srcX;simp only [h];rfl
theorem eff_22 (m:Mc) {x:Xi} (l:Int) (h:x.op=22):effX m x l=some ((m.upF (zF)).setR x.dst.toNat (doI 12 x.w (m.r x.dst.toNat) (m.r 1))):=by
  unfold effX srcX;simp only [h];rfl
theorem eff_23 (m:Mc) {x:Xi} (l:Int) (h:x.op=23):effX m x l=some ((m.upF (subF x.w 0 (m.r x.dst.toNat))).setR x.dst.toNat (doI 8 x.w (m.r x.dst.toNat) 0)):=by
  unfold effX srcX;simp only [h];rfl
theorem eff_24 (m:Mc) {x:Xi} (l:Int) (h:x.op=24):effX m x l=(bif divB m x then some (divM m x) else none):=by
  unfold effX srcX;simp only [h];rfl
theorem eff_25 (m:Mc) {x:Xi} (l:Int) (h:x.op=25):effX m x l=(bif m.f.k then some (cmvM m x) else none):=by
  unfold effX srcX;simp only [h];rfl
theorem eff_26 (m:Mc) {x:Xi} (l:Int) (h:x.op=26):effX m x l=some (m.setR x.dst.toNat (cutI l x.w)):=by
  unfold effX srcX;simp only [h];rfl
theorem eff_27 (m:Mc) {x:Xi} (l:Int) (h:x.op=27):effX m x l=some m:=by
  unfold effX srcX;simp only [h];rfl
theorem eff_28 (m:Mc) {x:Xi} (l:Int) (h:x.op=28):effX m x l=some (m.upA (IntKind.u64.wrap (m.a + (IntKind.u64.wrap x.imm)))):=by
  unfold effX srcX;simp only [h];rfl
theorem eff_29 (m:Mc) {x:Xi} (l:Int) (h:x.op=29):effX m x l=(bif m.f.k then some (jccM m x) else none):=by
  unfold effX srcX;simp only [h];rfl
theorem eff_30 (m:Mc) {x:Xi} (l:Int) (h:x.op=30):effX m x l=some ((m.upA l).setR 4 (IntKind.u64.wrap (m.r 4 + 8))):=by
  unfold effX srcX;simp only [h];rfl
theorem eff_31 (m:Mc) {x:Xi} (l:Int) (h:x.op=31):effX m x l=some (((m.setR 0 l).setR 1 0).setR 11 0):=by
  unfold effX srcX;simp only [h];rfl
end Go.Proofs.YtoghjpliemidkaaDoor.Exe
