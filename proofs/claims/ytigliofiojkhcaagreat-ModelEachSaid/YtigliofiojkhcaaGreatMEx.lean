import Derived.Test.YtigliofiojkhcaaGreatMRn01
import Derived.Test.YtigliofiojkhcaaGreatMRn02
import Derived.Test.YtigliofiojkhcaaGreatMRn03
import Derived.Test.YtigliofiojkhcaaGreatMRn04
import Derived.Test.YtigliofiojkhcaaGreatMRn05
import Derived.Test.YtigliofiojkhcaaGreatMRn06
import Derived.Test.YtigliofiojkhcaaGreatMRn07
import Derived.Test.YtigliofiojkhcaaGreatMRn08
import Derived.Test.YtigliofiojkhcaaGreatMRn09
import Derived.Test.YtigliofiojkhcaaGreatMRn10
import Derived.Test.YtigliofiojkhcaaGreatMRn11
import Derived.Test.YtigliofiojkhcaaGreatMRn12
import Derived.Test.YtigliofiojkhcaaGreatMRn13
import Derived.Test.YtigliofiojkhcaaGreatMRn14
import Derived.Test.YtigliofiojkhcaaGreatMRn15
import Derived.Test.YtigliofiojkhcaaGreatMRn16
import Derived.Test.YtigliofiojkhcaaGreatMRn17
import Derived.Test.YtigliofiojkhcaaGreatMRn18
import Derived.Test.YtigliofiojkhcaaGreatMRn19
import Derived.Test.YtigliofiojkhcaaGreatMRn20
import Derived.Test.YtigliofiojkhcaaGreatMRn21
import Derived.Test.YtigliofiojkhcaaGreatMRn22
import Derived.Test.YtigliofiojkhcaaGreatMRn23
import Derived.Test.YtigliofiojkhcaaGreatMRn24
import Derived.Test.YtigliofiojkhcaaGreatMRn25
import Derived.Test.YtigliofiojkhcaaGreatMRn26
import Derived.Test.YtigliofiojkhcaaGreatMRn27
import Derived.Test.YtigliofiojkhcaaGreatMRn28
import Derived.Deep.WholeRow
import Derived.Maps.AppendAt
import Derived.Laws.AppendOwnNone
import Derived.Great.BuildSlice
import Derived.Laws.Cover3
import Derived.OrdersIn
import Derived.RangeFuncSeq
set_option linter.unusedVariables false
set_option linter.unusedSimpArgs false
namespace Go.Proofs.YtigliofiojkhcaaGreat
open Go.RowKit
set_option maxRecDepth 100000
theorem blank_one (S:MemS):S.list.toArray.all (·.oneCell')=true:=all_oneCell_toArray (by
 intro v hv
 simp only [MemS.list,List.mem_map] at hv
 obtain ⟨i,_,rfl⟩:=hv
 unfold MemS.val
 split
 ·rfl
 split
 ·rfl
 split <;> rfl)
theorem info_mem:(Tryz.prog.info? 111).map (·.size)=some 587:=by kernel_rfl
end Go.Proofs.YtigliofiojkhcaaGreat
namespace Go.Proofs.YtigliofiojkhcaaGreat
open Go.RowKit
set_option maxRecDepth 100000
def MemS.frm (S:MemS):Array Value:=(bytesOf (fun i=>S.g (258+i)) 64).toArray
set_option maxRecDepth 100000 in
set_option maxHeartbeats 1000000 in
theorem frame_any (S:MemS)(b:Nat)(W:World)(hS:S.at W b):Calls Tryz.prog 56 #[.pointer (some ⟨b,0,none⟩)] W fun e w'=>e=.returned (.agg S.frm)∧Below W.heap.size W w':=by
 have hz:=(zero_of_info zero_frame).1
 have hi:=Lib.hid (show (Tryz.prog.info? 47).map (·.size)=some S.frm.size from info_frame.trans (by unfold MemS.frm;rw [List.size_toArray,bytesOf_length]))
 have hi':=Lib.hid (show (Tryz.prog.info? 47).map (·.size)=some (bytesOf (fun i=>S.g (258+i)) 64).length from info_frame.trans (by rw [bytesOf_length]))
 have hr:=Lib.hid (MemS.range hS)
 have lb:=hS.row.lt
 clear hS
 go_enter Tryz.func56,Tryz.ntmps56
 go_wp2_with (first | (refine wpList_load_mid rfl 47 _ rfl b 258 rfl (bytesOf (fun i=>S.g (258+i)) 64) _ (World.rangeAt_alloc hr.out _) Tryz.underlying47 rfl hi'.out ?_) | (refine halt_store 47 _ _ rfl ?_))
 refine ⟨?_,trivial⟩
 refine wpList_store_is rfl 47 _ _ rfl W.heap.size S.frm rfl rfl 47 _ (heap_last _ _ _ rfl) hi.out ?_ (bytes_one _ 64) ?_
 ·show (zeros 64).size=_
  unfold MemS.frm zeros;rw [List.size_toArray,bytesOf_length,List.size_toArray,bytesOf_length]
 intro w1 s1
 have S1:=Lib.hid s1;clear s1
 go_wp2
 exact bodyPost_ret (v:=.agg S.frm) (results_cell_row rfl _ _ W.heap.size _ S.frm _ _ rfl S1.out.row Tryz.underlying47 rfl hi.out) rfl ⟨rfl,S1.out.below (below_new (Below.refl _ _) _) (Nat.le_refl _)⟩
def memZero:List Value:=(List.range 587).map fun i=>if i=0 then .slice none 0 0 else if i=257 then .int .i64 0 else if i=586 then .bool false else .int .u8 0
theorem memZero_length:memZero.length=587:=by simp [memZero]
set_option maxRecDepth 100000 in
theorem zero_mem:(Tryz.prog.info? 111).map (fun i=>(i.zero,i.size))=some (some (.agg memZero.toArray),587):=by kernel_rfl
def CopyIs (W:World)(S:MemS)(e:Ending)(w':World):Prop:=
 ∃ b,e=.returned (.pointer (some ⟨b,0,none⟩))∧W.heap.size≤b∧Below W.heap.size W w'∧S.at w' b
set_option maxRecDepth 100000 in
set_option maxHeartbeats 1000000 in
theorem copy_any (S:MemS)(b:Nat)(W:World)(hS:S.at W b)(hcb:S.cb<W.heap.size):Calls Tryz.prog 54 #[.pointer (some ⟨b,0,none⟩)] W (CopyIs W S):=by
 have hz:=(zero_of_info zero_mem).1
 have hi:=Lib.hid (show (Tryz.prog.info? 111).map (·.size)=some S.list.toArray.size from info_mem.trans (by rw [List.size_toArray,S.list_length]))
 have HS:=Lib.hid hS;clear hS
 go_enter Tryz.func54,Tryz.ntmps54
 go_wp2_with (first | (refine wpList_load_row rfl 111 _ rfl b rfl 111 S.list.toArray (0,0) _ (MemS.heap HS.out) Tryz.underlying111 rfl hi.out ?_) | (refine halt_store 111 _ _ rfl ?_))
 refine ⟨?_,trivial⟩
 refine wpList_store_is rfl 111 _ _ rfl W.heap.size S.list.toArray rfl rfl 111 _ (heap_last _ _ _ rfl) hi.out ?_ (blank_one S) ?_
 ·rw [List.size_toArray,List.size_toArray,S.list_length];exact memZero_length
 intro w1 s1
 have S1:=Lib.hid s1;clear s1
 go_wp2
 go_ret
 exact ⟨W.heap.size,rfl,Nat.le_refl _,S1.out.below (below_new (Below.refl _ _) _) (Nat.le_refl _),
  ⟨_,S1.out.row,by rw [List.size_toArray,S.list_length],fun i hi=>by rw [List.getElem?_toArray];exact S.list_get i hi⟩,HS.out.cn,HS.out.n,by omega,HS.out.bytes⟩
end Go.Proofs.YtigliofiojkhcaaGreat
namespace Go.Proofs.YtigliofiojkhcaaGreat.Trc
open Go.RowKit Go.Maps
theorem cellsE_length:∀ l,(cellsE l).length=l.length * 3
 | []=>rfl
 | p :: l=>by
  show (cellE p.1 p.2.1 p.2.2 ++ cellsE l).length=_
  rw [List.length_append,cellsE_length l,List.length_cons]
  show 3+l.length * 3=(l.length+1) * 3
  omega
theorem cellE_one (x:Ev)(na:Option Addr)(nc:Nat):∀ u∈cellE x na nc,u.oneCell'=true:=by
 intro u hu
 simp [cellE] at hu
 rcases hu with rfl | rfl | rfl <;> rfl
theorem cellsE_one:∀ l,∀ u∈cellsE l,u.oneCell'=true
 | [],u,h=>by cases h
 | p :: l,u,h=>by
  rcases List.mem_append.1 h with h | h
  ·exact cellE_one _ _ _ u h
  ·exact cellsE_one l u h
theorem with_choice {α β:Type}:∀ (l:List α) (R:Nat→α→β→Prop),(∀ i x,l[i]?=some x→∃ q,R i x q)→∃ ps:List (α × β),ps.map (·.1)=l∧∀ i p,ps[i]?=some p→l[i]?=some p.1∧R i p.1 p.2
 | [],R,h=>⟨[],rfl,fun i p hp=>by simp at hp⟩
 | x :: l,R,h=>by
  obtain ⟨q,hq⟩:=h 0 x rfl
  obtain ⟨ps,h1,h2⟩:=with_choice l (fun i=>R (i+1)) (fun i y hy=>h (i+1) y (by simpa using hy))
  refine ⟨(x,q) :: ps,by rw [List.map_cons,h1],fun i p hp=>?_⟩
  cases i with
  | zero=>
   obtain rfl:(x,q)=p:=by simpa using hp
   exact ⟨rfl,hq⟩
  | succ i=>
   have:=h2 i p (by simpa using hp)
   exact ⟨by simpa using this.1,this.2⟩
theorem EvsAt.parts {W:World}{b o len cap:Nat}{es:List Ev}(h:EvsAt W (some ⟨b,o,none⟩) len cap es):
  ∃ ps:List (Ev × (Option Addr × Nat)),ps.map (·.1)=es∧(∀ j u,(cellsE ps)[j]?=some u→W.cell? ((⟨b,o,none⟩:Addr).add j)=some u)∧∀ p∈ps,WordsAt W p.2.1 p.1.args.length p.2.2 p.1.args:=by
 obtain ⟨ps,hmap,hps⟩:=with_choice es (fun i x (q:Option Addr × Nat)=>W.rangeAt b (o+i * 3) (cellE x q.1 q.2)∧WordsAt W q.1 x.args.length q.2 x.args) (fun i x hx=>by
  obtain ⟨b',o',e,hc⟩:=h.here (by rw [h.size];have:=(List.getElem?_eq_some_iff.1 hx).1;omega)
  injection e with e
  injection e with e1 e2
  subst e1 e2
  obtain ⟨na,nc,h1,h2⟩:=hc i _ hx
  exact ⟨(na,nc),h1,h2⟩)
 refine ⟨ps,hmap,fun j u hu=>?_,fun p hp=>?_⟩
 ·have hj:j<(cellsE ps).length:=(List.getElem?_eq_some_iff.1 hu).1
  rw [cellsE_length] at hj
  have hi:j / 3<ps.length:=by omega
  have h3:=(hps (j / 3) _ (List.getElem?_eq_getElem hi)).2.1
  have h4:=cellsE_get (List.getElem?_eq_getElem hi) (show j % 3<3 by omega)
  rw [show j / 3 * 3+j % 3=j by omega,hu] at h4
  have h5:=h3 (j % 3) u h4.symm
  rw [Addr.add_mid]
  rw [show o+j=o+j / 3 * 3+j % 3 by omega]
  exact h5
 ·obtain ⟨i,hi⟩:=List.mem_iff_getElem?.1 hp
  exact (hps i p hi).2.2
end Go.Proofs.YtigliofiojkhcaaGreat.Trc
namespace Go.Proofs.YtigliofiojkhcaaGreat.Trc
open Go.RowKit Go.Maps
set_option maxRecDepth 100000
theorem below_new2 {W w:World}(h:Below W.heap.size W w)(o:Obj):Below W.heap.size W (w.alloc o):=h.alloc h.size o
theorem wpList_append_new {ops:Array Oper}{rest:List Oper}{o:Oper}{a:Act}{Q:Exit→Act→World→Prop}{w W0:World}{base:Nat}(hgd:o.guard=none)(s x:Operand)
  (ho:o.op=.call { callee:=.builtin .append,args:=#[s,x],argTypes:=#[31,31] })
  (v:Value) (hs:a.eval s=v) (hown:w.ownsRow base 103 3 v 0 []) (ad:Addr) (tc:Nat) (es:List Ev) (hx:a.eval x=.slice (some ad) es.length tc) (hE:EvsAt W0 (some ad) es.length tc es) (hB:Below W0.heap.size W0 w)
  (hfew:es.length≤10000) (hbase:base≤w.heap.size)
  (h:∀ v' w' qs,qs.map (·.1)=es→w'.ownsRow base 103 3 v' es.length (cellsE qs)→(∀ p∈qs,WordsAt W0 p.2.1 p.1.args.length p.2.2 p.1.args)→w.grownBy w' v.ownBlock→(∀ j,v.ownBlock=some j→base≤j)→wpList Tryz.prog ops Q rest (a.put o.dst v') w'):wpList Tryz.prog ops Q (o :: rest) a w:=by
 obtain ⟨ti,i1,i2,i3,i4⟩:=info_evt
 have hlt:∀ j,v.ownBlock=some j→base≤j:=fun j hj=>(World.ownsRow.lt hown j hj).1
 by_cases h0:es.length=0
 ·obtain rfl:es=[]:=List.eq_nil_of_length_eq_zero h0
  refine wpList_append_own_at _ hgd s x 31 ho base 103 ti _ 3 40 Tryz.underlying31 i1 i2 i3 i4 rfl (by decide) v 0 [] hs hown ad 0 tc [] hx rfl (fun j u hu=>by simp at hu) (fun u hu=>by cases hu) (by unfold maxLen;omega) (by omega) hbase ?_
  intro v' w' hr hg hn hat
  exact h v' w' [] rfl hr (fun p hp=>by cases hp) hg hlt
 ·obtain ⟨b,off,e,_⟩:=hE.here (by omega)
  injection e with e
  subst e
  obtain ⟨qs,hq1,hq2,hq3⟩:=hE.parts
  have hql:qs.length=es.length:=by rw [← hq1,List.length_map]
  refine wpList_append_own_at _ hgd s x 31 ho base 103 ti _ 3 40 Tryz.underlying31 i1 i2 i3 i4 rfl (by decide) v 0 [] hs hown ⟨b,off,none⟩ es.length tc (cellsE qs) hx (by rw [cellsE_length,hql]) (fun j u hu=>?_) (cellsE_one qs) (by unfold maxLen;omega) (by omega) hbase ?_
  ·have:=hq2 j u hu
   rw [Addr.add_mid] at this ⊢
   exact (hB.cell (p:=⟨b,off+j,none⟩) (lt_of_cell this)).trans this
  intro v' w' hr hg hn hat
  rw [Nat.zero_add,List.nil_append] at hr
  exact h v' w' qs hq1 hr hq3 hg hlt
set_option maxHeartbeats 2000000 in
theorem cloneE_any (a:Option Addr)(cap:Nat)(es:List Ev)(W0 W:World)(h:EvsAt W0 a es.length cap es)(hB:Below W0.heap.size W0 W)(hfew:es.length≤1000):
  Calls Tryz.prog 55 #[.slice a es.length cap] W fun e w'=>∃ v qs,e=.returned v∧qs.map (·.1)=es∧w'.ownsRow W.heap.size 103 3 v es.length (cellsE qs)∧(∀ p∈qs,WordsAt W0 p.2.1 p.1.args.length p.2.2 p.1.args)∧Below W.heap.size W w':=by
 cases a with
 | none=>
  obtain rfl:cap=0:=h.nilc rfl
  have h0:es.length=0:=by have:=h.le;omega
  obtain rfl:es=[]:=List.eq_nil_of_length_eq_zero h0
  clear h
  simp only [List.length_nil]
  have en:=fun w=>eql_nil (P:=Tryz.prog) 31 103 none 0 0 Tryz.underlying31 w
  simp only [Option.isNone_none] at en
  go_enter Tryz.func55,Tryz.ntmps55
  go_wp2_with fail
  go_ret
  exact ⟨_,[],rfl,rfl,World.ownsRow_nil _ _ _ _,(fun p hp=>by cases hp),Below.refl _ _⟩
 | some ad=>
  have H:=Lib.hid h
  have HB:=Lib.hid (below_new2 hB (.cells #[] 103))
  clear h hB
  have en:=fun w=>eql_nil (P:=Tryz.prog) 31 103 (some ad) es.length cap Tryz.underlying31 w
  simp only [Option.isNone_some] at en
  go_enter Tryz.func55,Tryz.ntmps55
  go_wp2_with (at_builtin;refine wpList_append_new rfl _ _ rfl _ rfl (own_empty W W.heap.size _ _ (Nat.le_refl _)) ad cap es rfl H.out HB.out (by omega) (by simp) ?_)
  intro v' w' qs hq hown hargs hg hl
  have B:=Lib.hid (((Below.refl W.heap.size W).alloc (Nat.le_refl _) (.cells #[] 103)).grown hg (by simp) hl)
  have R:=Lib.hid hown
  have HA:=Lib.hid hargs
  have HQ:=Lib.hid hq
  clear hown hg hl hq hargs
  go_wp2_with fail
  go_ret
  exact ⟨_,qs,rfl,HQ.out,R.out,(fun ⟨a1,a2,a3⟩ hp=>HA.out a1 a2 a3 hp),B.out⟩
end Go.Proofs.YtigliofiojkhcaaGreat.Trc
namespace Go.Proofs.YtigliofiojkhcaaGreat
open Go Go.RowKit
section
variable {P:Program} {ops:Array Oper} {Q:Exit→Act→World→Prop} {n:Nat} {a0:Act} {w0 W:World} {B:List EB} {A:List EA} {l:List (Option Value)}
section
variable {i:Nat} {o:Oper} {fl:Nat→Bool} {a:Act} {w w':World}
end
end
section
variable {ops:Array Oper} {n:Nat} {a0:Act} {w0 W:World} {B:List EB} {A:List EA} {l:List (Option Value)} {i:Nat} {o:Oper} {fl:Nat→Bool} {a:Act} {w:World}
end
section
variable {P:Program} {ops:Array Oper} {Q:Exit→Act→World→Prop} {n:Nat} {a0:Act} {w0 W:World} {B:List EB} {A:List EA} {l:List (Option Value)} {i:Nat} {o:Oper} {fl:Nat→Bool} {a:Act} {w:World}
end
section
variable {P:Program} {ops:Array Oper} {n:Nat} {a0:Act} {w0 W:World} {B:List EB} {A:List EA} {l:List (Option Value)} {i:Nat} {o:Oper} {fl:Nat→Bool} {a:Act} {w:World}
end
section
variable {P:Program} {ρ:Operand→Value} {o:Oper} {w:World} {x y z:Operand} {t u:TypeId} {k:IntKind} {a b:Int} {v:Value}
theorem ex_not (ho:o.op=.unOp .not t x){c:Bool}(hx:ρ x=.bool c):(execOp ρ o).run P w=.ok (.value (.bool (!c))) w:=by simp [execOp,ho,hx,go_sem]
theorem ex_ge (ho:o.op=.binOp .geq t x y u)(hx:ρ x=.int k a)(hy:ρ y=.int k b):(execOp ρ o).run P w=.ok (.value (.bool (decide (b≤a)))) w:=by simp [execOp,ho,hx,hy,go_sem]
end
end Go.Proofs.YtigliofiojkhcaaGreat
namespace Go.Proofs.YtigliofiojkhcaaGreat
open Go Go.RowKit
section
variable {F:Fence} {n m:Nat} {P:Program} {ops:Array Oper} {Q:Exit→Act→World→Prop} {i:Nat} {o:Oper} {K:Act→World→Prop} {a:Act} {w w':World}
theorem wpOpIn_call (hF:∀ f,F.fn f)(hn:F.depth=none)(ho:ops[i]?=some o)(hw:Region.wanted o (yielded ops a.tmps)=true)(hd:∀ c,o.op≠.defer c){f:FuncId}{args:Array Value}(hr:(execOp a.eval o).run P w=.ok (.enter f args) w)
  (h:CallsIn F (n - 1) P f args w fun e w'=>∃ v,e=.returned v∧K (a.put o.dst v) w'):wpOpIn F n P ops Q i K a w:=by
 unfold wpOpIn
 rw [ho]
 simp only [hw,if_true]
 refine ⟨fun f _=>hF f,?_⟩
 rw [Oper.semAt_eq _ _ _ hd,hr]
 refine ⟨fun h=>(by rw [hn] at h;cases h),CallsIn.mono h ?_⟩
 rintro e w2 ⟨v,rfl,hk⟩
 exact hk
end
section law
variable {F:Fence} {m:Nat} {P:Program} {ops:Array Oper} {Q:Exit→Act→World→Prop} {n:Nat} {a0:Act} {w0:World} {S:(Nat→Bool)→(Nat→Value)→World→Prop} {K D:List Nat} {l:List (Option Value)}
end law
section
variable {F:Fence} {m:Nat} {P:Program} {ops:Array Oper} {Q:Exit→Act→World→Prop} {n:Nat} {a0:Act} {S:(Nat→Bool)→(Nat→Value)→World→Prop} {K D:List Nat} {l:List (Option Value)} {i:Nat} {o:Oper} {fl:Nat→Bool} {a:Act} {w w':World}
end
end Go.Proofs.YtigliofiojkhcaaGreat
namespace Go.Proofs.YtigliofiojkhcaaGreat.Mdl
open Go.RowKit Go.Maps Ins Trc
set_option maxRecDepth 100000
theorem info_regsS:(Tryz.prog.info? 46).map (·.size)=some 11:=by kernel_rfl
theorem zero_snap:(Tryz.prog.info? 49).map (fun i=>(i.zero,i.size))=some (some (.agg snapZ),76):=by kernel_rfl
theorem built_snap (r:Nat→Int)(s:Int)(g:Nat→Int):Tryz.prog.built 49 [(0,.agg (regsC r).toArray),(1,.int .i64 s),(2,.agg (frmL g).toArray)]=some (snapC r s g).toArray:=by kernel_rfl
theorem load_regs {g:Nat}{s:Mo}{w:World}(h:s.in_ w g):(loadVar 46 ⟨g,2,none⟩).run Tryz.prog w=.ok (.agg (regsC s.r).toArray) w:=by
 refine run_loadVar_mid w g 2 46 (regsC s.r) _ (fun j v hj=>?_) Tryz.underlying46 rfl info_regsS
 have h2:w.heap[g]?=some (.cells s.cells 78 (0,0)):=h
 simp only [World.cell?,h2]
 have hl:j<11:=(List.getElem?_eq_some_iff.1 hj).1
 have:j=0∨j=1∨j=2∨j=3∨j=4∨j=5∨j=6∨j=7∨j=8∨j=9∨j=10:=by omega
 rcases this with rfl | rfl | rfl | rfl | rfl | rfl | rfl | rfl | rfl | rfl | rfl <;> exact hj
theorem below_trn2 {W w w':World}{ge:Nat}(b:Below ge W w)(t:Trn [ge] w w')(h:ge≤w.heap.size):Below ge W w':=
 ⟨t.os.trans b.os,t.tape.trans b.tape,t.output.trans b.output,Nat.le_trans b.size t.size,fun k hk=>(t.block k (by omega) (by simp;omega)).trans (b.block k hk)⟩
set_option maxHeartbeats 8000000 in
theorem snap_any (E:Env)(D:Pl)(W:World)(R:Rel E D W):
  Calls Tryz.prog 24 #[.pointer (some ⟨E.g,0,none⟩)] W fun e w'=>e=.returned (.agg D.snap.toArray)∧Below W.heap.size W w':=by
 have hz:=(zero_of_info zero_snap).1
 obtain ⟨av,tv,hin,hA,hT⟩:=R.st
 have hM:=R.mm.at_
 clear hA hT R
 have FR:=Lib.hid (fun w h=>frame_any D.mem E.b w h)
 have Z0:=below_new (Below.refl W.heap.size W) (.cells snapZ 49)
 have r0:=heap_last W (.cells snapZ 49) _ rfl
 have hin0:=Mo.below hin Z0
 have hM0:=hM.below Z0
 clear hin hM
 go_enter Tryz.func24,Tryz.ntmps24
 go_wp2_with fail
 generalize W.alloc (.cells snapZ 49)=w1 at *
 have hlW:=Z0.size
 generalize hge:W.heap.size=ge at *
 have HI:=Lib.hid (fun w (b:Below w1.heap.size w1 w)=>Mo.below hin0 b)
 have HM:=Lib.hid (fun w (b:Below w1.heap.size w1 w)=>hM0.below b)
 have H0:=Lib.hid (fun w (b:Below w1.heap.size w1 w)=>brow b r0)
 have HL:=Lib.hid (fun w (b:Below w1.heap.size w1 w)=>load_regs (Mo.below hin0 b))
 have HS:=Lib.hid (fun w (b:Below w1.heap.size w1 w)=>(show w.cell? ⟨E.g,13,none⟩=some (.int .i64 D.set) by
  have h2:w.heap[E.g]?=some (.cells (E.mo D av tv).cells 78 (0,0)):=Mo.below hin0 b
  simp only [World.cell?,h2];rfl))
 have HP:=Lib.hid (fun w (b:Below w1.heap.size w1 w)=>(show w.cell? ⟨E.g,1,none⟩=some (.pointer (some ⟨E.b,0,none⟩)) by
  have h2:w.heap[E.g]?=some (.cells (E.mo D av tv).cells 78 (0,0)):=Mo.below hin0 b
  simp only [World.cell?,h2];rfl))
 have ZZ:=Lib.hid Z0
 clear hin0 hM0 r0 Z0
 refine wp_region_invl (SL [3,7,11,12] 14 (fun w=>Below w1.heap.size w1 w) (fun w=>w.heap[ge]?=some (.cells D.snap.toArray 49 (0,0))∧Trn [ge] w1 w)) (TabQ [fun v=>v=.pointer (some ⟨E.g,0,none⟩),fun v=>v=.pointer (some ⟨E.g,0,none⟩),fun v=>v=.pointer (some ⟨E.g,2,none⟩),fun v=>v=.agg (regsC D.r).toArray,fun v=>v=.pointer (some ⟨E.g,0,none⟩),fun v=>v=.pointer (some ⟨E.g,0,none⟩),fun v=>v=.pointer (some ⟨E.g,13,none⟩),fun v=>v=.int .i64 D.set,fun v=>v=.pointer (some ⟨E.g,0,none⟩),fun v=>v=.pointer (some ⟨E.g,0,none⟩),fun v=>v=.pointer (some ⟨E.g,1,none⟩),fun v=>v=.pointer (some ⟨E.b,0,none⟩),fun v=>v=.agg (frmL D.mem.g).toArray,fun v=>v=.agg D.snap.toArray,fun _=>True]) (by kernel_rfl) (back_of (by kernel_rfl)) (dst_of (by kernel_rfl)) (in_of (by kernel_rfl)) (fun fl h=>SL.start (h 14 (by decide)) (Below.drew (Below.refl _ _))) ?hop ?hq
 case hop=>
  intro i o a w fl ho hS hfi hdf hsz hrest hdone
  have t0:a.tmps.getD 0 undef=.pointer (some ⟨E.g,0,none⟩):=hrest 0 (not_of (by kernel_rfl))
  have t2:a.tmps.getD 2 undef=.pointer (some ⟨ge,0,none⟩):=hrest 2 (not_of (by kernel_rfl))
  have hs:a.tmps.size=17:=hsz.trans rfl
  have hi:i<15:=(Array.getElem?_eq_some_iff.1 ho).1
  clear hrest hsz hdf
  obtain rfl | rfl | rfl | rfl | rfl | rfl | rfl | rfl | rfl | rfl | rfl | rfl | rfl | rfl | rfl:i=0∨i=1∨i=2∨i=3∨i=4∨i=5∨i=6∨i=7∨i=8∨i=9∨i=10∨i=11∨i=12∨i=13∨i=14:=by omega
  ·obtain rfl:=Option.some.inj (show some _=some o from ho)
   refine wpOp_val (v:=.pointer (some ⟨E.g,0,none⟩)) (w':=w) rfl rfl ?_ ⟨_,rfl,?_,hS.other (by decide)⟩
   ·simp [execOp,Act.eval,t0]
   ·rw [own_put rfl (by rw [hs];omega)];exact rfl
  ·obtain rfl:=Option.some.inj (show some _=some o from ho)
   have s3:a.tmps.getD 3 undef=.pointer (some ⟨E.g,0,none⟩):=(hdone _ (Array.mem_of_getElem? (i:=0) rfl) rfl).2 _ rfl
   refine wpOp_val (v:=.pointer (some ⟨E.g,0,none⟩)) (w':=w) rfl rfl ?_ ⟨_,rfl,?_,hS.other (by decide)⟩
   ·simp [execOp,Act.eval,s3,go_sem]
   ·rw [own_put rfl (by rw [hs];omega)];exact rfl
  ·obtain rfl:=Option.some.inj (show some _=some o from ho)
   have s4:a.tmps.getD 4 undef=.pointer (some ⟨E.g,0,none⟩):=(hdone _ (Array.mem_of_getElem? (i:=0) rfl) rfl).2 _ rfl
   refine wpOp_val (v:=.pointer (some ⟨E.g,2,none⟩)) (w':=w) rfl rfl ?_ ⟨_,rfl,?_,hS.other (by decide)⟩
   ·simp [execOp,Act.eval,s4,go_sem]
   ·rw [own_put rfl (by rw [hs];omega)];exact rfl
  ·obtain rfl:=Option.some.inj (show some _=some o from ho)
   have s5:a.tmps.getD 5 undef=.pointer (some ⟨E.g,2,none⟩):=(hdone _ (Array.mem_of_getElem? (i:=0) rfl) rfl).2 _ rfl
   refine wpOp_val (v:=.agg (regsC D.r).toArray) (w':=w) rfl rfl ?_ ⟨_,rfl,?_,hS.other (by decide)⟩
   ·simp [execOp,Act.eval,s5,Instr.loadAt,Instr.sureAddr,HL.out w (hS.was (i:=3) (by simp) hfi).2,Result.andThen_ok];rfl
   ·rw [own_put rfl (by rw [hs];omega)];exact rfl
  ·obtain rfl:=Option.some.inj (show some _=some o from ho)
   refine wpOp_val (v:=.pointer (some ⟨E.g,0,none⟩)) (w':=w) rfl rfl ?_ ⟨_,rfl,?_,hS.other (by decide)⟩
   ·simp [execOp,Act.eval,t0]
   ·rw [own_put rfl (by rw [hs];omega)];exact rfl
  ·obtain rfl:=Option.some.inj (show some _=some o from ho)
   have s7:a.tmps.getD 7 undef=.pointer (some ⟨E.g,0,none⟩):=(hdone _ (Array.mem_of_getElem? (i:=0) rfl) rfl).2 _ rfl
   refine wpOp_val (v:=.pointer (some ⟨E.g,0,none⟩)) (w':=w) rfl rfl ?_ ⟨_,rfl,?_,hS.other (by decide)⟩
   ·simp [execOp,Act.eval,s7,go_sem]
   ·rw [own_put rfl (by rw [hs];omega)];exact rfl
  ·obtain rfl:=Option.some.inj (show some _=some o from ho)
   have s8:a.tmps.getD 8 undef=.pointer (some ⟨E.g,0,none⟩):=(hdone _ (Array.mem_of_getElem? (i:=0) rfl) rfl).2 _ rfl
   refine wpOp_val (v:=.pointer (some ⟨E.g,13,none⟩)) (w':=w) rfl rfl ?_ ⟨_,rfl,?_,hS.other (by decide)⟩
   ·simp [execOp,Act.eval,s8,go_sem]
   ·rw [own_put rfl (by rw [hs];omega)];exact rfl
  ·obtain rfl:=Option.some.inj (show some _=some o from ho)
   have s9:a.tmps.getD 9 undef=.pointer (some ⟨E.g,13,none⟩):=(hdone _ (Array.mem_of_getElem? (i:=0) rfl) rfl).2 _ rfl
   refine wpOp_val (v:=.int .i64 D.set) (w':=w) rfl rfl ?_ ⟨_,rfl,?_,hS.other (by decide)⟩
   ·(have hc:=HS.out w (hS.was (i:=7) (by simp) hfi).2;simp [execOp,Act.eval,s9,hc,go_sem])
   ·rw [own_put rfl (by rw [hs];omega)];exact rfl
  ·obtain rfl:=Option.some.inj (show some _=some o from ho)
   refine wpOp_val (v:=.pointer (some ⟨E.g,0,none⟩)) (w':=w) rfl rfl ?_ ⟨_,rfl,?_,hS.other (by decide)⟩
   ·simp [execOp,Act.eval,t0]
   ·rw [own_put rfl (by rw [hs];omega)];exact rfl
  ·obtain rfl:=Option.some.inj (show some _=some o from ho)
   have s11:a.tmps.getD 11 undef=.pointer (some ⟨E.g,0,none⟩):=(hdone _ (Array.mem_of_getElem? (i:=0) rfl) rfl).2 _ rfl
   refine wpOp_val (v:=.pointer (some ⟨E.g,0,none⟩)) (w':=w) rfl rfl ?_ ⟨_,rfl,?_,hS.other (by decide)⟩
   ·simp [execOp,Act.eval,s11,go_sem]
   ·rw [own_put rfl (by rw [hs];omega)];exact rfl
  ·obtain rfl:=Option.some.inj (show some _=some o from ho)
   have s12:a.tmps.getD 12 undef=.pointer (some ⟨E.g,0,none⟩):=(hdone _ (Array.mem_of_getElem? (i:=0) rfl) rfl).2 _ rfl
   refine wpOp_val (v:=.pointer (some ⟨E.g,1,none⟩)) (w':=w) rfl rfl ?_ ⟨_,rfl,?_,hS.other (by decide)⟩
   ·simp [execOp,Act.eval,s12,go_sem]
   ·rw [own_put rfl (by rw [hs];omega)];exact rfl
  ·obtain rfl:=Option.some.inj (show some _=some o from ho)
   have s13:a.tmps.getD 13 undef=.pointer (some ⟨E.g,1,none⟩):=(hdone _ (Array.mem_of_getElem? (i:=0) rfl) rfl).2 _ rfl
   refine wpOp_val (v:=.pointer (some ⟨E.b,0,none⟩)) (w':=w) rfl rfl ?_ ⟨_,rfl,?_,hS.other (by decide)⟩
   ·(have hc:=HP.out w (hS.was (i:=11) (by simp) hfi).2;simp [execOp,Act.eval,s13,hc,go_sem])
   ·rw [own_put rfl (by rw [hs];omega)];exact rfl
  ·obtain rfl:=Option.some.inj (show some _=some o from ho)
   have s14:a.tmps.getD 14 undef=.pointer (some ⟨E.b,0,none⟩):=(hdone _ (Array.mem_of_getElem? (i:=0) rfl) rfl).2 _ rfl
   have h0:=hS.was (i:=12) (by simp) hfi
   refine wpOp_call (f:=56) (args:=#[.pointer (some ⟨E.b,0,none⟩)]) rfl rfl ?_ ?_
   ·simp [go_sem,execOp,Act.eval,Deferred.ofValue,callFunc,Tryz.func56,Tryz.f56,s14,resolve,invoke]
   ·refine (FR.out w (HM.out w h0.2)).mono ?_
    rintro e w' ⟨rfl,b9⟩
    refine ⟨_,rfl,_,rfl,?_,SL.moved h0.1 (by decide) (h0.2.trans (b9.mono h0.2.size))⟩
    rw [own_put rfl (by rw [hs];omega)];exact rfl
  ·obtain rfl:=Option.some.inj (show some _=some o from ho)
   have s6:a.tmps.getD 6 undef=.agg (regsC D.r).toArray:=(hdone _ (Array.mem_of_getElem? (i:=0) rfl) rfl).2 _ rfl
   have s10:a.tmps.getD 10 undef=.int .i64 D.set:=(hdone _ (Array.mem_of_getElem? (i:=1) rfl) rfl).2 _ rfl
   have s15:a.tmps.getD 15 undef=.agg (frmL D.mem.g).toArray:=(hdone _ (Array.mem_of_getElem? (i:=2) rfl) rfl).2 _ rfl
   refine wpOp_val (v:=.agg D.snap.toArray) (w':=w) rfl rfl ?_ ⟨_,rfl,?_,hS.other (by decide)⟩
   ·exact exec_build rfl (parts3 (show a.eval _=_ from s6) (show a.eval _=_ from s10) (show a.eval _=_ from s15)) (built_snap _ _ _)
   ·rw [own_put rfl (by rw [hs];omega)];exact rfl
  ·obtain rfl:=Option.some.inj (show some _=some o from ho)
   have s16:a.tmps.getD 16 undef=.agg D.snap.toArray:=(hdone _ (Array.mem_of_getElem? (i:=0) rfl) rfl).2 _ rfl
   have h0:=hS.atK hfi
   have hL:∀ l∈[3,7,11,12],fl l=true:=by
    intro l hl
    simp only [List.mem_cons,List.not_mem_nil,or_false] at hl
    rcases hl with rfl | rfl | rfl | rfl
    ·exact (hdone _ (Array.mem_of_getElem? (i:=5) rfl) rfl).1
    ·exact (hdone _ (Array.mem_of_getElem? (i:=9) rfl) rfl).1
    ·exact (hdone _ (Array.mem_of_getElem? (i:=13) rfl) rfl).1
    ·exact (hdone _ (Array.mem_of_getElem? (i:=1) rfl) rfl).1
   refine wpOp_skp (w':=w.setRow ge D.snap.toArray) rfl rfl (exec_storeR 49 _ _ rfl ge D.snap.toArray ?_ ?_ (H0.out w h0) info_snap (by kernel_rfl) (snap_one _ _ _)) ⟨undef,rfl,trivial,SL.to hL ⟨(stored_setRow _ _ _ _ _ (H0.out w h0)).row,Trn.trans (Trn.of_below h0) ?_⟩⟩
   ·simp [Act.eval,t2]
   ·simp [Act.eval,s16]
   ·have s:=stored_setRow w ge D.snap.toArray _ _ (H0.out w h0)
    exact ⟨s.os,s.tape,s.output,by rw [s.size];exact Nat.le_refl _,fun k _ hn=>s.other k (by simpa using hn)⟩
 case hq=>
  intro u9 w9 fl hfl hS hR9
  have h2:=hS.done (hfl 14 (by decide))
  clear hR9 hS hfl
  rw [show outs _ u9=[(3,u9 3),(4,u9 4),(5,u9 5),(6,u9 6),(7,u9 7),(8,u9 8),(9,u9 9),(10,u9 10),(11,u9 11),(12,u9 12),(13,u9 13),(14,u9 14),(15,u9 15),(16,u9 16)] by kernel_rfl]
  simp only [putAll,List.setIfInBounds_toArray,List.set_cons_zero,List.set_cons_succ]
  generalize u9 3=x3
  generalize u9 4=x4
  generalize u9 5=x5
  generalize u9 6=x6
  generalize u9 7=x7
  generalize u9 8=x8
  generalize u9 9=x9
  generalize u9 10=x10
  generalize u9 11=x11
  generalize u9 12=x12
  generalize u9 13=x13
  generalize u9 14=x14
  generalize u9 15=x15
  generalize u9 16=x16
  clear  u9
  have H2:=Lib.hid h2;clear h2
  go_wp2_with fail
  exact bodyPost_ret (v:=.agg D.snap.toArray) (results_cell_row rfl _ _ ge _ D.snap.toArray _ _ rfl H2.out.1 Tryz.underlying49 rfl info_snap) rfl ⟨rfl,by rw [hge];exact below_trn2 ZZ.out H2.out.2 hlW⟩
end Go.Proofs.YtigliofiojkhcaaGreat.Mdl
namespace Go.Proofs.YtigliofiojkhcaaGreat
open Go Go.RowKit
section
variable {F:Fence} {m:Nat} {P:Program} {ops:Array Oper} {Q:Exit→Act→World→Prop} {md:Region.Mode}
theorem wpAnyIn_inv (I:Array Bool→Act→World→Prop)
  (hback:∀ (i:Nat) (o:Oper),ops[i]?=some o→∀ e∈o.after,Region.binds md e=true→e.on<i)
  (hend:∀ (l:Array Bool) (a:Act) (w:World),I l a w→(∀ i,i<ops.size→l.getD i true=true)→Q .normal a w)
  (hstep:∀ (l:Array Bool) (a:Act) (w:World) (i:Nat) (o:Oper),l.size=ops.size→I l a w→ops[i]?=some o→l.getD i true=false→(∀ e∈o.after,Region.binds md e=true→l.getD e.on false=true)→wpOpIn F m P ops Q i (I (l.setIfInBounds i true)) a w):
  ∀ fuel l a w,l.size=ops.size→I l a w→unl l ops.size≤fuel→wpAnyIn F m P md ops Q fuel l a w:=by
 have hready:∀ (l:Array Bool) (i:Nat),i∈Region.ready md ops l↔i<ops.size∧l.getD i true=false∧∃ o:Oper,ops[i]?=some o∧∀ e∈o.after,Region.binds md e=true→l.getD e.on false=true:=by
  intro l i
  unfold Region.ready
  rw [List.mem_filter,List.mem_range]
  constructor
  ·rintro ⟨hi,h⟩
   simp only [Bool.and_eq_true,Bool.not_eq_true'] at h
   refine ⟨hi,h.1,ops[i],Array.getElem?_eq_getElem hi,fun e he hb=>?_⟩
   have h2:=h.2
   rw [Array.getElem?_eq_getElem hi] at h2
   simp only [Option.map_some,Option.getD_some] at h2
   rw [Array.all_eq_true_iff_forall_mem] at h2
   have:=h2 e he
   simpa [hb] using this
  ·rintro ⟨hi,hf,o,ho,ha⟩
   refine ⟨hi,?_⟩
   simp only [Bool.and_eq_true,Bool.not_eq_true']
   refine ⟨hf,?_⟩
   rw [ho]
   simp only [Option.map_some,Option.getD_some]
   rw [Array.all_eq_true_iff_forall_mem]
   intro e he
   cases hb:Region.binds md e
   ·rfl
   ·simpa [hb] using ha e he hb
 have hnone:∀ l:Array Bool,Region.ready md ops l=[]→∀ i,i<ops.size→l.getD i true=true:=by
  intro l hr i
  induction i using Nat.strongRecOn with
  | ind i ih=>
   intro hi
   cases hf:l.getD i true
   ·exfalso
    have:i∈Region.ready md ops l:=(hready l i).2 ⟨hi,hf,ops[i],Array.getElem?_eq_getElem hi,fun e he hb=>by
     have hlt:=hback i _ (Array.getElem?_eq_getElem hi) e he hb
     have:=ih e.on hlt (by omega)
     by_cases hs:e.on<l.size
     ·simp only [Array.getD_eq_getD_getElem?,Array.getElem?_eq_getElem hs,Option.getD_some] at this ⊢
      exact this
     ·exfalso
      have hi':l.getD i true=true:=by
       simp only [Array.getD_eq_getD_getElem?]
       rw [Array.getElem?_eq_none (by omega)];rfl
      rw [hi'] at hf;cases hf⟩
    rw [hr] at this;cases this
   ·rfl
 intro fuel
 induction fuel with
 | zero=>
  intro l a w hs hI hu
  have hz:=unl_zero (l:=l) (n:=ops.size) (by omega)
  have hr:Region.ready md ops l=[]:=by
   apply List.eq_nil_iff_forall_not_mem.2
   intro i hi
   obtain ⟨h1,h2,_⟩:=(hready l i).1 hi
   rw [hz i h1] at h2;cases h2
  exact ⟨hr,hend l a w hI hz⟩
 | succ fuel ih=>
  intro l a w hs hI hu
  refine ⟨fun hr=>hend l a w hI (hnone l hr),fun i hi=>?_⟩
  obtain ⟨h1,h2,o,ho,ha⟩:=(hready l i).1 hi
  refine wpOpIn_mono (fun a' w' hI'=>ih _ a' w' (by simpa using hs) hI' ?_) (hstep l a w i o hs hI ho h2 ha)
  have:=unl_set (l:=l) (i:=i) (by omega) h2 ops.size
  rw [if_pos h1] at this
  omega
theorem wpIn_regx {id:Nat}{a0:Act}{w0:World}(S:(Nat→Bool)→(Nat→Value)→World→Prop)(R:Nat→Value→Prop)(hm:P.follows .mixedOrders=true)
  (hback:∀ (i:Nat) (o:Oper),ops[i]?=some o→∀ e∈o.after,Region.binds .any e=true→e.on<i)
  (hdst:∀ (i j:Nat) (o o':Oper) (d:Nat),ops[i]?=some o→ops[j]?=some o'→o.dst=some d→o'.dst=some d→i=j)
  (hin:∀ (i:Nat) (o:Oper) (d:Nat),ops[i]?=some o→o.dst=some d→d<a0.tmps.size)
  (h0:∀ (fl:Nat→Bool) (w1:World),(∀ i,i<ops.size→fl i=false)→w1={ w0 with drawn:=w0.drawn+1 }→S fl (slotOf a0) w1)
  (hop:∀ (i:Nat) (o:Oper) (a:Act) (w:World) (fl:Nat→Bool),ops[i]?=some o→S fl (slotOf a) w→fl i=false →
   (∀ (k:Nat) (ok:Oper),ops[k]?=some ok→fl k=true→∀ e∈ok.after,Region.binds .any e=true→fl e.on=true) →
   a.tmps.size=a0.tmps.size→(∀ j,(∀ (i:Nat) (o:Oper),ops[i]?=some o→o.dst≠some j)→a.tmps.getD j undef=a0.tmps.getD j undef) →
   (∀ (p:Nat) (e:_),o.after[p]?=some e→Region.binds .any e=true→fl e.on=true∧∀ (o':Oper),ops[e.on]?=some o'→R e.on (own o' a)) →
   (∀ (k:Nat) (ok:Oper) (d:Nat),ops[k]?=some ok→ok.dst=some d→fl k=false→a.tmps.getD d undef=a0.tmps.getD d undef) →
   wpOpIn F m P ops Q i (fun a' w'=>∃ v,a'=a.put o.dst v∧R i (own o a')∧S (upd fl i) (slotOf a') w') a w)
  (hq:∀ (a:Act) (w':World) (fl:Nat→Bool),a.defers=a0.defers→a.tmps.size=a0.tmps.size→(∀ j,(∀ (i:Nat) (o:Oper),ops[i]?=some o→o.dst≠some j)→a.tmps.getD j undef=a0.tmps.getD j undef) →
   (∀ (i:Nat) (o:Oper),ops[i]?=some o→R i (own o a))→(∀ i,i<ops.size→fl i=true)→S fl (slotOf a) w'→Q .normal a w'):
  (Code.region id ops true).wpIn F m P Q a0 w0:=by
 have hfin:∀ l a w,InvX ops a0 S R l a w→(∀ i,i<ops.size→l.getD i true=true)→Q .normal a w:=by
  intro l a w hI hl
  exact hq a w _ hI.defers hI.size hI.rest (fun i o ho=>hI.done i o ho (hl i (Array.getElem?_eq_some_iff.1 ho).1)) hl hI.s
 have hstep:∀ (l:Array Bool) a w (i:Nat) o,l.size=ops.size→InvX ops a0 S R l a w→ops[i]?=some o→l.getD i true=false→(∀ e∈o.after,Region.binds .any e=true→l.getD e.on false=true) →
   wpOpIn F m P ops Q i (InvX ops a0 S R (l.setIfInBounds i true)) a w:=by
  intro l a w i o hs hI ho hfi ha
  have hi:i<l.size:=by rw [hs];exact (Array.getElem?_eq_some_iff.1 ho).1
  have hup:∀ (e:Nat),l.getD e false=true→l.getD e true=true:=fun e he=>by
   by_cases hlt:e<l.size
   ·simp only [Array.getD_eq_getD_getElem?,Array.getElem?_eq_getElem hlt,Option.getD_some] at he ⊢
    exact he
   ·simp only [Array.getD_eq_getD_getElem?]
    rw [Array.getElem?_eq_none (by omega)];rfl
  refine wpOpIn_mono ?_ (hop i o a w _ ho hI.s hfi hI.closed hI.size hI.rest (fun p e hp hb=>⟨hup _ (ha e (Array.mem_of_getElem? hp) hb),fun o' ho'=>hI.done e.on o' ho' (hup _ (ha e (Array.mem_of_getElem? hp) hb))⟩) hI.undone)
  rintro a' w' ⟨v,rfl,hR,hS⟩
  have hS':S (fun j=>(l.setIfInBounds i true).getD j true) (slotOf (a.put o.dst v)) w':=by
   have e:(fun j=>(l.setIfInBounds i true).getD j true)=upd (fun j=>l.getD j true) i:=by
    funext j
    rw [getD_set l i j hi];rfl
   rw [e];exact hS
  have hclosed:∀ (j:Nat) (oj:Oper),ops[j]?=some oj→(l.setIfInBounds i true).getD j true=true→∀ e∈oj.after,Region.binds .any e=true→(l.setIfInBounds i true).getD e.on true=true:=by
   intro j oj hj hl e he hb
   rw [getD_set l i e.on hi]
   by_cases hei:e.on=i
   ·rw [if_pos hei]
   ·rw [if_neg hei]
    rw [getD_set l i j hi] at hl
    by_cases hji:j=i
    ·subst hji
     rw [ho] at hj;cases hj
     exact hup _ (ha e he hb)
    ·rw [if_neg hji] at hl
     exact hI.closed j oj hj hl e he hb
  cases hod:o.dst with
  | none=>
   refine ⟨by rw [hod] at hS';exact hS',hI.defers,hI.size,hI.rest,fun j oj hj hl=>?_,hclosed,fun j oj d hj hd hl=>?_⟩
   case refine_2=>
    rw [getD_set l i j hi] at hl
    by_cases hji:j=i
    ·rw [if_pos hji] at hl;cases hl
    ·rw [if_neg hji] at hl;exact hI.undone j oj d hj hd hl
   rw [hod] at hR
   by_cases hji:j=i
   ·subst hji
    rw [ho] at hj;cases hj
    exact hR
   ·rw [getD_set l i j hi,if_neg hji] at hl
    exact hI.done j oj hj hl
  | some d0=>
   have hd0:d0<a.tmps.size:=by rw [hI.size];exact hin i o d0 ho hod
   have hput:=put_getD a d0 v hd0
   refine ⟨by rw [hod] at hS';exact hS',hI.defers,by show (a.tmps.setIfInBounds d0 v).size=_;simp [hI.size],fun j hj=>?_,fun j oj hj hl=>?_,hclosed,fun j oj d hj hd hl=>?_⟩
   case refine_3=>
    rw [getD_set l i j hi] at hl
    by_cases hji:j=i
    ·rw [if_pos hji] at hl;cases hl
    ·rw [if_neg hji] at hl
     rw [hput d,if_neg (fun e=>hji (hdst j i oj o d hj ho hd (by rw [hod,e])))]
     exact hI.undone j oj d hj hd hl
   ·rw [hput j,if_neg (fun e=>hj i o ho (by rw [hod,e]))]
    exact hI.rest j hj
   ·rw [hod] at hR
    by_cases hji:j=i
    ·subst hji
     rw [ho] at hj;cases hj
     exact hR
    ·rw [getD_set l i j hi,if_neg hji] at hl
     have h1:own oj (a.put (some d0) v)=own oj a:=by
      unfold own
      cases hdj:oj.dst with
      | none=>rfl
      | some d=>
       show (a.put (some d0) v).tmps.getD d undef=a.tmps.getD d undef
       rw [hput d,if_neg (fun e=>hji (hdst j i oj o d hj ho hdj (by rw [hod,e])))]
     rw [h1]
     exact hI.done j oj hj hl
 have hinit:∀ w1,w1={ w0 with drawn:=w0.drawn+1 }→InvX ops a0 S R (Array.replicate ops.size false) a0 w1:=by
  intro w1 hw
  have hf:∀ i,i<ops.size→(Array.replicate ops.size false).getD i true=false:=fun i hi=>by simp [Array.getD_eq_getD_getElem?,hi]
  refine ⟨h0 _ _ hf hw,rfl,rfl,fun _ _=>rfl,fun i o ho hl=>?_,fun i o ho hl=>?_,fun _ _ _ _ _ _=>rfl⟩
  ·rw [hf i (Array.getElem?_eq_some_iff.1 ho).1] at hl;cases hl
  ·rw [hf i (Array.getElem?_eq_some_iff.1 ho).1] at hl;cases hl
 refine wpIn_region_any hm ?_
 refine wpAnyIn_inv (InvX ops a0 S R) hback (fun l a w hI hl=>hfin l a w hI hl) ?_ ops.size _ _ _ (by simp) (hinit _ rfl) ?_
 ·intro l a w i o hs hI ho hf ha
  have hi:i<l.size:=by rw [hs];exact (Array.getElem?_eq_some_iff.1 ho).1
  have hfi:l.getD i true=false:=by
   simp only [Array.getD_eq_getD_getElem?,Array.getElem?_eq_getElem hi,Option.getD_some] at hf ⊢
   exact hf
  exact hstep l a w i o hs hI ho hfi ha
 ·have:∀ (l:Array Bool) n,unl l n≤n:=fun l n=>by
   induction n with
   | zero=>exact Nat.le_refl _
   | succ n ih=>unfold unl;split <;> omega
  exact this _ _
end
section
variable {F:Fence} {m:Nat} {P:Program} {ops:Array Oper} {Q:Exit→Act→World→Prop} {n:Nat} {a0:Act} {w0:World} {S:(Nat→Bool)→(Nat→Value)→World→Prop} {K D:List Nat} {l:List (Option Value)}
theorem go_regd {id:Nat}(S:(Nat→Bool)→(Nat→Value)→World→Prop)(K D:List Nat)(l:List (Option Value))(hm:P.follows .mixedOrders=true)(hl:Loc K D S)(hd0:a0.defers=[])(hz:a0.tmps.size=n)(hk:(chkBack ops && chkDst ops && chkIn ops n)=true)
  (h0:∀ (fl:Nat→Bool) (w1:World),(∀ i,i<ops.size→fl i=false)→Below w0.heap.size w0 w1→w1.heap=w0.heap→S fl (slotOf a0) w1)
  (hop:HopD F m P ops Q n a0 S K D l 0 ops.toList) (hq:∀ a w,BehZ ops n a0 S l a w→Q .normal a w):(Code.region id ops true).wpIn F m P Q a0 w0:=by
 simp only [Bool.and_eq_true] at hk
 obtain ⟨⟨h1,h2⟩,h3⟩:=hk
 refine wpIn_regx S (TabO l) hm (back_of h1) (dst_of h2) (in_ofz h3 hz) (fun fl w1 hfl hw=>?_) ?_ ?_
 ·subst hw
  exact h0 fl _ hfl (Below.drew (Below.refl _ _)) rfl
 ·intro i o a w fl ho hS hfi clo hsz hrest hdone hund
  have:=hop i o (by rw [Array.getElem?_toList];exact ho) fl a w
  rw [Nat.zero_add] at this
  exact this ⟨hl,ho,hS,hfi,clo,hsz.trans hz,hrest,hdone,hund⟩
 ·intro a w fl hd hs hrest hR hfl hS
  refine hq a w ⟨hd.trans hd0,hs.trans hz,fun j hj x hx=>(hrest j (not_of hj)).trans hx,fun i o d x ho hod hl=>?_,fl,hfl,hS⟩
  have:=hR i o ho
  unfold TabO at this
  rw [hl] at this
  unfold own at this
  rw [hod] at this
  exact this
end
end Go.Proofs.YtigliofiojkhcaaGreat
