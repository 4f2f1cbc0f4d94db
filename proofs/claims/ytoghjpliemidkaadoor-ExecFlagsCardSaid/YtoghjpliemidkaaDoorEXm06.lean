import Derived.Test.YtoghjpliemidkaaDoorEXm03
import Derived.Test.YtoghjpliemidkaaDoorEXm02
import Derived.Test.YtoghjpliemidkaaDoorEXm05
import Derived.Laws.StructEq
set_option linter.unusedVariables false
set_option linter.unusedSimpArgs false
set_option linter.unnecessarySimpa false
namespace Go.Proofs.YtoghjpliemidkaaDoor.Flg
open Go Go.RowKit
set_option linter.unusedVariables false
set_option linter.unusedSimpArgs false
set_option linter.unnecessarySimpa false
set_option maxRecDepth 100000
theorem mo:Tryd.prog.follows .mixedOrders=true:=by kernel_rfl
theorem retV {a b:Value} (h:a=b):Ending.returned a=.returned b:=by rw [h]
theorem fC_one (f:Fl):(fC f).all (·.oneCell')=true:=by kernel_rfl
abbrev fL (f:Fl):List Value:=[.bool f.k,.bool f.c,.bool f.z,.bool f.s,.bool f.o]
def eqF (a b:Fl):Bool:=a.k == b.k && (a.c == b.c && (a.z == b.z && (a.s == b.s && a.o == b.o)))
theorem eqF_self (a:Fl):eqF a a=true:=by simp [eqF]
theorem eqF_known (f:Fl):eqF f ⟨true,f.c,f.z,f.s,f.o⟩=f.k:=by simp [eqF]
section
variable {ρ:Operand → Value} {o:Oper} {w:World} {x y:Operand} {g:Nat} {fr:Nat × Nat} {T t u:TypeId} {k:IntKind} {a b:Int}
theorem ldF {X:Fl} (ho:o.op=.load 34 x) (hx:ρ x=.pointer (some ⟨g,0,none⟩)) (hg:w.heap[g]?=some (.cells (fC X) T fr)):(execOp ρ o).run Tryd.prog w=.ok (.value (.agg (fC X))) w:=
  exec_loadR 34 x ho g 0 hx hg (fL X) rfl _ Tryd.underlying34 rfl (by kernel_rfl)
theorem ex_box {v:Value} {c:Array Value} (ho:o.op=.box T x) (hx:ρ x=v) (hc:v.cells=c):(execOp ρ o).run Tryd.prog w=.ok (.value (.pointer (some ⟨w.heap.size,0,none⟩))) (w.alloc (.cells c T)):=by
  subst hc
  simp [execOp,ho,hx,go_sem]
theorem al_f (ho:o.op=.alloc 34):(execOp ρ o).run Tryd.prog w=.ok (.value (.pointer (some ⟨w.heap.size,0,none⟩))) (w.alloc (.cells (fC zF) 34)):=by
  simp [execOp,ho,go_sem]
theorem ex_z5 (ho:o.op=.build 34 #[]):(execOp ρ o).run Tryd.prog w=.ok (.value (.agg (fC zF))) w:=exec_build ho (vs:=#[]) (by simp) (by kernel_rfl)
theorem ex_beq {a b:Bool} (ho:o.op=.binOp .eql 4 x y u) (hx:ρ x=.bool a) (hy:ρ y=.bool b):(execOp ρ o).run Tryd.prog w=.ok (.value (.bool (a == b))) w:=by
  cases a <;> cases b <;> simp [execOp,ho,hx,hy,go_sem]
theorem ex_bne {a b:Bool} (ho:o.op=.binOp .neq 4 x y u) (hx:ρ x=.bool a) (hy:ρ y=.bool b):(execOp ρ o).run Tryd.prog w=.ok (.value (.bool (a != b))) w:=by
  cases a <;> cases b <;> simp [execOp,ho,hx,hy,go_sem]
theorem ex_fn {n:FuncId} (ho:o.op=.binOp .eql 150 x y u) (hx:ρ x=.func (.func n) #[] #[]) (hy:ρ y=.nilFunc):(execOp ρ o).run Tryd.prog w=.ok (.value (.bool false)) w:=by
  simp [execOp,ho,hx,hy,go_sem]
  rfl
theorem ex_fz (ho:o.op=.binOp .eql 150 x y u) (hx:ρ x=.nilFunc) (hy:ρ y=.nilFunc):(execOp ρ o).run Tryd.prog w=.ok (.value (.bool true)) w:=by
  simp [execOp,ho,hx,hy,go_sem]
  rfl
theorem parts5 {ρ:Operand → Value} {i j k l m:Nat} {x y z t s:Operand} {a b c d e:Value} (h:ρ x=a) (h2:ρ y=b) (h3:ρ z=c) (h4:ρ t=d) (h5:ρ s=e):(#[(i,x),(j,y),(k,z),(l,t),(m,s)]:Array (Nat × Operand)).map (fun p=>(p.1,ρ p.2))=#[(i,a),(j,b),(k,c),(l,d),(m,e)]:=by simp [h,h2,h3,h4,h5]
end
set_option maxHeartbeats 1000000 in
theorem eq_f (a b:Fl) (w:World):(Op.equalIn 10000 34 (.agg (fC a)) (.agg (fC b))).run Tryd.prog w=.ok (eqF a b) w:=by
  simp [go_sem]
  unfold eqF
  (repeat' split) <;> simp [*]
theorem negative_n (w v:Int) (W:World) (h:longB w=true):Calls Tryd.prog 131 #[.int .i8 w,.int .u64 v] W fun e w'=>e=.returned (.bool (negB w v)) ∧ W=w':=by
  rcases longB_cases h with rfl | rfl
  · have E:=Lib.hid (neg_32 v)
    go_enter Tryd.func131,Tryd.ntmps131
    go_wp2
    go_ret
    refine ⟨retB ?_,rfl⟩
    exact E.out
  · have E:=Lib.hid (neg_64 v)
    go_enter Tryd.func131,Tryd.ntmps131
    go_wp2
    go_ret
    refine ⟨retB ?_,rfl⟩
    exact E.out
end Go.Proofs.YtoghjpliemidkaaDoor.Flg
namespace Go.Proofs.YtoghjpliemidkaaDoor.Exe
open Go Go.RowKit
open Mrm (Xi xC xL zX mayX bytesX)
open Flg (Fl fC fL zF addF subF ofF holF holE)
set_option linter.unusedVariables false
set_option linter.unusedSimpArgs false
set_option linter.unnecessarySimpa false
set_option maxRecDepth 100000
theorem mo:Tryd.prog.follows .mixedOrders=true:=by kernel_rfl
theorem retV {a b:Value} (h:a=b):Ending.returned a=.returned b:=by rw [h]
structure But (g:Nat) (w w':World):Prop where
  os:w'.os=w.os
  tape:w'.tape=w.tape
  output:w'.output=w.output
  size:w.heap.size ≤ w'.heap.size
  block:∀ k,k < w.heap.size → k ≠ g → w'.heap[k]?=w.heap[k]?
theorem But.refl (g:Nat) (w:World):But g w w:=⟨rfl,rfl,rfl,Nat.le_refl _,fun _ _ _=>rfl⟩
theorem But.trans {g:Nat} {w w' w2:World} (h:But g w w') (b:But g w' w2):But g w w2:=⟨b.os.trans h.os,b.tape.trans h.tape,b.output.trans h.output,Nat.le_trans h.size b.size,fun k hk hne=>(b.block k (by have:=h.size;omega) hne).trans (h.block k hk hne)⟩
theorem But.below {g:Nat} {w w':World} {n:Nat} (h:But g w w') (hn:n ≤ g) (hs:n ≤ w.heap.size):Below n w w':=⟨h.os,h.tape,h.output,h.size,fun k hk=>h.block k (by omega) (by omega)⟩
def cutW (W:World) (g:Nat):World:={ W with heap:=W.heap.extract 0 g }
theorem cutW_size {W:World} {g:Nat} {o:Obj} (h:W.heap[g]?=some o):(cutW W g).heap.size ≤ g:=by
  show (W.heap.extract 0 g).size ≤ g
  simp only [Array.size_extract];omega
theorem cutW_below (W:World) (g:Nat):Below (cutW W g).heap.size (cutW W g) W:=by
  refine ⟨rfl,rfl,rfl,?_,fun k hk=>?_⟩
  · show (W.heap.extract 0 g).size ≤ _
    simp only [Array.size_extract];omega
  · have hk':k < (W.heap.extract 0 g).size:=hk
    show W.heap[k]?=(W.heap.extract 0 g)[k]?
    rw [Array.getElem?_extract]
    simp only [Array.size_extract] at hk'
    rw [if_pos (by omega),Nat.zero_add]
section
variable {P:Program} {ops:Array Oper} {Q:Exit → Act → World → Prop} {n:Nat} {a0:Act} {w0 W V:World} {B:List EB} {A:List EA} {l:List (Option Value)} {i:Nat} {o:Oper} {fl:Nat → Bool} {a:Act} {w w':World} {g:Nat}
theorem But.step (f:Beh ops n a0 w0 V B A l a w) (h:But g W w0) (hb:Below V.heap.size V w0) (hs:AllL (fun e=>e.k=none ∨ e.g=g) B):But g W w:=
  h.trans ⟨f.b.os.trans hb.os.symm,f.b.tape.trans hb.tape.symm,f.b.output.trans hb.output.symm,f.m,fun k hk hne=>f.un k hk (by
    rintro ⟨e,he,hk1,eg⟩
    rcases allL.1 hs e he with h1 | h1
    · rw [h1] at hk1;cases hk1
    · exact hne (eg.symm.trans h1))⟩
theorem SX.turnB {n0:Nat} {u u':Nat → Value} (h:SX V n0 B [] fl u w) (i j:Nat) {t:TypeId} {old new:Array Value} (hj:B[j]?=some ⟨g,t,old,some i,new⟩) (hV:V.heap.size ≤ g)
    (hc:(B.eraseIdx j).all (fun e=>kNot e.k i)=true) (hne:AllL (fun e=>e.g ≠ g) (B.eraseIdx j)) (b:But g w w') (row:w'.heap[g]?=some (.cells new t (0,0))):SX V n0 B [] (upd fl i) u' w':=by
  obtain ⟨h1,h2,h3,h4,h5⟩:=h
  rw [List.eraseIdx_eq_take_drop_succ] at hc hne
  have hB:=split_at hj
  rw [List.all_eq_true] at hc
  refine ⟨⟨b.os.trans h1.os,b.tape.trans h1.tape,b.output.trans h1.output,Nat.le_trans h1.size b.size,fun k hk=>(b.block k (by have:=h1.size;omega) (by omega)).trans (h1.block k hk)⟩,Nat.le_trans h2 b.size,allL.2 fun e he=>?_,trivial,List.Pairwise.nil⟩
  obtain ⟨p,q⟩:=allL.1 h3 e he
  have ot:e ∈ B.take j ++ B.drop (j + 1) → e.g < n0 ∧ w'.heap[e.g]?=some (.cells (curOf (upd fl i) e.k e.old e.new) e.t (0,0)):=fun hh=>⟨p,by
    rw [kNot_ne (hc e hh)]
    exact (b.block _ (Array.getElem?_eq_some_iff.1 q).1 (allL.1 hne e hh)).trans q⟩
  rw [hB] at he
  simp only [List.mem_append,List.mem_cons] at he
  rcases he with he | he | he
  · exact ot (List.mem_append.2 (.inl he))
  · subst he
    refine ⟨p,?_⟩
    rw [show curOf (upd fl i) (some i) old new=new from by unfold curOf upd;simp]
    exact row
  · exact ot (List.mem_append.2 (.inr he))
def reach (ops:Array Oper):Nat → Nat → Nat → Bool
  | 0,_,_=>false
  | n + 1,k,i=>match ops[k]? with
    | some ok=>ok.after.any (fun e=>Region.binds .any e && (Nat.beq e.on i || reach ops n e.on i))
    | none=>false
theorem not_yetT (clo:∀ (k:Nat) (ok:Oper),ops[k]?=some ok → fl k=true → ∀ e ∈ ok.after,Region.binds .any e=true → fl e.on=true) (hf:fl i=false):∀ (n k:Nat),reach ops n k i=true → fl k=false:=by
  intro n
  induction n with
  | zero=>intro k h;cases h
  | succ n ih=>
    intro k h
    cases e:fl k
    · rfl
    · unfold reach at h
      cases ho:ops[k]? with
      | none=>rw [ho] at h;cases h
      | some ok=>
        rw [ho] at h
        simp only at h
        obtain ⟨j,hj,hx⟩:=Array.any_eq_true.1 h
        rw [Bool.and_eq_true,Bool.or_eq_true] at hx
        have t:=clo k ok ho e _ (Array.getElem_mem hj) hx.1
        rcases hx.2 with h2 | h2
        · rw [Nat.eq_of_beq_eq_true h2,hf] at t;cases t
        · rw [ih _ h2] at t;cases t
theorem rft (c:Cx ops n a0 w0 V B A l i o fl a w) (j:Nat) {t:TypeId} {old new:Array Value} {k:Nat} (hj:B[j]?=some ⟨g,t,old,some k,new⟩) (h:reach ops 8 k i=true):w.heap[g]?=some (.cells old t (0,0)):=c.S.1.rowFi j hj (not_yetT c.clo c.fi 8 k h)
def RetT (v:Value) (c:Array Value) (t:TypeId) (g:Nat) (W:World):Ending → World → Prop:=fun e w'=>e=.returned v ∧ But g W w' ∧ w'.heap[g]?=some (.cells c t (0,0))
theorem callT (c:Cx ops n a0 w0 V B [] l i o fl a w) (hw:Region.wanted o (yielded ops a.tmps)=true) {f:FuncId} {xs:Array Operand} {ts:Array TypeId} {fn:Func} {args:Array Value} (ho:o.op=.call ⟨.value (.func f),xs,ts⟩) (ha:xs.map a.eval=args) (hf:P.funcs[f]?=some fn)
    (hn:okF fn=true) {v:Value} {t:TypeId} {new:Array Value} (K:Calls P f args w (RetT v new t g w)) {d:Nat} (hd:o.dst=some d) (hlt:Nat.blt d n=true) (j:Nat) {old:Array Value} (hj:B[j]?=some ⟨g,t,old,some i,new⟩) (hV:V.heap.size ≤ g)
    (hc:(B.eraseIdx j).all (fun e=>kNot e.k i)=true) (hne:AllL (fun e=>e.g ≠ g) (B.eraseIdx j)) (ht:TabO l i v):wpOp P ops Q i (Post w0 V B [] l i o fl a) a w:=by
  unfold okF at hn
  simp only [Bool.and_eq_true,Bool.not_eq_true'] at hn
  refine wpOp_callw c.ho hw (exec_call ho rfl rfl ha hf hn.1 hn.2) (K.mono ?_)
  rintro e w' ⟨rfl,b,row⟩
  refine ⟨_,rfl,_,rfl,by rw [own_some hd c.sz hlt];exact ht,SX.turnB c.S.1 i j hj hV hc hne b row,fun k hk1 hn2=>?_⟩
  refine (b.block k (by have:=c.S.1.2.1;omega) ?_).trans (c.S.2 k hk1 hn2)
  intro e
  exact hn2 ⟨_,List.mem_of_getElem? hj,rfl,e.symm⟩
theorem exec_callb {ρ:Operand → Value} {c:Call} {f:FuncId} {fn:Func} {bs args xs:Array Value} {x:Operand} (ho:o.op=.call c) (hc:c.callee=.value x) (hr:ρ x=.func (.func f) bs #[]) (ha:c.args.map ρ=args) (hx:bs ++ args=xs) (hf:P.funcs[f]?=some fn)
    (hn:(fn.name == "runtime.NumGoroutine")=false) (hb:fn.body.isNone=false):(execOp ρ o).run P w=.ok (.enter f xs) w:=by
  subst hx
  have hb':¬ fn.body=none:=by
    intro e;rw [e] at hb;cases hb
  have hn':¬ fn.name = "runtime.NumGoroutine" := by simpa using hn
  simp [execOp,ho,resolve,hc,hr,ha,Deferred.ofValue,invoke,callFunc,hf,hb',hn',go_sem]
theorem callTb (c:Cx ops n a0 w0 V B [] l i o fl a w) (hw:Region.wanted o (yielded ops a.tmps)=true) {f:FuncId} {x:Operand} {xs:Array Operand} {ts:Array TypeId} {fn:Func} {bs args all:Array Value} (ho:o.op=.call ⟨.value x,xs,ts⟩) (hr:a.eval x=.func (.func f) bs #[]) (ha:xs.map a.eval=args) (hx:bs ++ args=all) (hf:P.funcs[f]?=some fn)
    (hn:okF fn=true) {v:Value} {t:TypeId} {new:Array Value} (K:Calls P f all w (RetT v new t g w)) {d:Nat} (hd:o.dst=some d) (hlt:Nat.blt d n=true) (j:Nat) {old:Array Value} (hj:B[j]?=some ⟨g,t,old,some i,new⟩) (hV:V.heap.size ≤ g)
    (hc:(B.eraseIdx j).all (fun e=>kNot e.k i)=true) (hne:AllL (fun e=>e.g ≠ g) (B.eraseIdx j)) (ht:TabO l i v):wpOp P ops Q i (Post w0 V B [] l i o fl a) a w:=by
  unfold okF at hn
  simp only [Bool.and_eq_true,Bool.not_eq_true'] at hn
  refine wpOp_callw c.ho hw (exec_callb ho rfl hr ha hx hf hn.1 hn.2) (K.mono ?_)
  rintro e w' ⟨rfl,b,row⟩
  refine ⟨_,rfl,_,rfl,by rw [own_some hd c.sz hlt];exact ht,SX.turnB c.S.1 i j hj hV hc hne b row,fun k hk1 hn2=>?_⟩
  refine (b.block k (by have:=c.S.1.2.1;omega) ?_).trans (c.S.2 k hk1 hn2)
  intro e
  exact hn2 ⟨_,List.mem_of_getElem? hj,rfl,e.symm⟩
end
section
variable {ρ:Operand → Value} {o:Oper} {w:World} {x y:Operand} {g:Nat} {fr:Nat × Nat} {T t u:TypeId} {k:IntKind} {a b:Int}
theorem ex_box {v:Value} {c:Array Value} (ho:o.op=.box T x) (hx:ρ x=v) (hc:v.cells=c):(execOp ρ o).run Tryd.prog w=.ok (.value (.pointer (some ⟨w.heap.size,0,none⟩))) (w.alloc (.cells c T)):=by
  subst hc
  simp [execOp,ho,hx,go_sem]
theorem ldExF {s:Ex} (ho:o.op=.load 34 x) (hx:ρ x=.pointer (some ⟨g,16,none⟩)) (hg:w.heap[g]?=some (.cells (exC s) T fr)):(execOp ρ o).run Tryd.prog w=.ok (.value (.agg (fC s.m.f))) w:=
  exec_loadR 34 x ho g 16 hx hg (fL s.m.f) rfl _ Tryd.underlying34 rfl (by kernel_rfl)
theorem ldExR {s:Ex} {i:Nat} (h:i < 16) (ho:o.op=.load 31 x) (hx:ρ x=.pointer (some ⟨g,i,none⟩)) (hg:w.heap[g]?=some (.cells (exC s) T fr)):(execOp ρ o).run Tryd.prog w=.ok (.value (.int .u64 (s.m.r i))) w:=
  ex_ld ho hx hg (exC_reg s h) Tryd.isAgg31
theorem ldMcF {s:Mc} (ho:o.op=.load 34 x) (hx:ρ x=.pointer (some ⟨g,16,none⟩)) (hg:w.heap[g]?=some (.cells (mcC s) T fr)):(execOp ρ o).run Tryd.prog w=.ok (.value (.agg (fC s.f))) w:=
  exec_loadR 34 x ho g 16 hx hg (fL s.f) rfl _ Tryd.underlying34 rfl (by kernel_rfl)
theorem ldMcR {s:Mc} {i:Nat} (h:i < 16) (ho:o.op=.load 31 x) (hx:ρ x=.pointer (some ⟨g,i,none⟩)) (hg:w.heap[g]?=some (.cells (mcC s) T fr)):(execOp ρ o).run Tryd.prog w=.ok (.value (.int .u64 (s.r i))) w:=
  ex_ld ho hx hg (mcC_reg s h) Tryd.isAgg31
end
end Go.Proofs.YtoghjpliemidkaaDoor.Exe
