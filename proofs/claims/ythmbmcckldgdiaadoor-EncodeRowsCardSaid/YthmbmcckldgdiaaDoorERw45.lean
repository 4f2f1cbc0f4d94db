import Derived.Test.YthmbmcckldgdiaaDoorERw44
import Derived.Test.YthmbmcckldgdiaaDoorERw28
set_option linter.unusedVariables false
set_option linter.unusedSimpArgs false
set_option linter.unnecessarySimpa false
namespace Go.Proofs.YthmbmcckldgdiaaDoor.Mrm
open Go Go.RowKit Mdl
set_option linter.unusedVariables false
set_option linter.unnecessarySimpa false
set_option linter.unusedSimpArgs false
set_option maxRecDepth 100000
theorem readX_nil:readX []=none:=by
  cases h:readX [] with
  | none=>rfl
  | some x=>
    obtain ⟨hX,hm,e⟩:=readX_some (fun z hz=>by cases hz) h
    have:=bytes_some x hX hm
    rw [List.take_nil] at e
    rw [← e] at this
    exact absurd this (by decide)
set_option maxHeartbeats 4000000 in
theorem all_seq0 (gi gr n:Nat) (bB:Nat) (w0:World) (hT:Tab3 w0) (hb:w0.heap[bB]?=some (.cells #[.slice none 0 0] 25 (0,0))):
    SeqK (fun _=>false) (kI gi gr) 0 n Tryd.prog 17 #[] #[.pointer (some ⟨bB,0,none⟩)] encA (YA []) (SA []) (SpA []) w0:=by
  intro l J Jx W hW hJ hJx hY hJ0
  have J0:=Lib.hid hJ0
  have HJ:=Lib.hid hJ
  have T0:=Lib.hid (hT.below hW (Nat.le_refl _))
  have cb:=row_cell (row_heap hb hW) 0 _ rfl
  have CR:=Lib.hid (cread_any W (BytesAt.nil W) T0.out T0.out.size none readX_nil)
  simp only [readA] at CR
  have SE:=Lib.hid (fun (w:World)=>show SA [] [] w from ⟨0,.nil,readX_nil⟩)
  clear hJ0 hJ hJx hY hT hb hW
  show CallsIn Fence.wide n Tryd.prog 17 #[.func (.yield l) #[] #[],.pointer (some ⟨bB,0,none⟩)] W _
  refine callsIn_of_wp Tryd.func17 rfl trivial ?_ rfl
  simp only [Tryd.ntmps17,List.size_toArray,List.length_cons,List.length_nil,Nat.reduceAdd,Nat.reduceSub,Array.replicate_succ,Array.replicate_zero,List.push_toArray,List.append_toArray,List.nil_append,List.cons_append]
  refine (wpIn_wide (n:=n)).2 ?_
  go_wp2_with fail
  go_loopw [3] (fun i wr=>i=.int .i64 0 ∧ W=wr) (fun i _=>0)
  case atStart=>exact ⟨rfl,rfl⟩
  case round=>
    obtain ⟨rfl,rfl⟩:=hrel
    go_wp2_with fail
    refine CR.out.mono ?_
    rintro e w2 ⟨rfl,c2⟩
    have B2:=Lib.hid c2
    clear c2
    go_wp2_with (with_reducible refine (halt_store 24 _ _ rfl ?_))
    refine ⟨?_,trivial⟩
    refine wpList_store_is rfl 24 _ _ rfl _ _ rfl rfl _ _ (heap_last _ _ _ rfl) (by kernel_rfl) rfl (by kernel_rfl) ?_
    intro w3 S3
    have B3:=Lib.hid (S3.below (below_new B2.out _) B2.out.size)
    clear S3
    go_wp2_with fail
    refine bodyPost_ret (results_none rfl _ _ _) rfl ?_
    exact ⟨⟨_,rfl⟩,.inl ⟨[],SE.out _,HJ.out _ _ _ J0.out (.of_below B3.out)⟩⟩
theorem all_seqV (gi n:Nat) (m:Nat) (h1:3 ≤ gi) (bB:Nat) (v:Value) (zs:List Int) (w0:World) (b1:bB ≠ gi) (hfew:zs.length ≤ 100000) (hT:Tab3 w0) (hb:w0.heap[bB]?=some (.cells #[v] 25 (0,0))) (hz:Bts m w0 v zs) (ok:Oks zs) (hgi:∀ c,w0.heap[gi]? ≠ some (.cells c 5 (0,0))) (hn:1 ≤ n):
    SeqK (fun _=>false) (kI gi gi) 0 n Tryd.prog 17 #[] #[.pointer (some ⟨bB,0,none⟩)] encA (YA zs) (SA zs) (SpA zs) w0:=by
  have hz0:=hz
  rcases hz.2 with ⟨rfl,h0⟩ | ⟨g,cap,cur,rfl,hg,hh,_⟩
  · obtain rfl:zs=[]:=List.eq_nil_of_length_eq_zero h0
    exact all_seq0 gi gi n bB w0 hT hb
  · obtain ⟨a',c',e,hat⟩:=hz0.at ok
    injection e with e1 e2 e3
    subst e1 e3
    have hne:g ≠ gi:=fun e=>hgi cur (by rw [← e];exact hh)
    exact all_seq gi gi n h1 h1 bB g 0 zs.length cap zs w0 b1 b1 hne hne hfew hT hb hat hn
structure RQ (w4:World) (gi:Nat) (pre:List (Int × Xi)) (w:World):Prop where
  os:w.os=w4.os
  tape:w.tape=w4.tape
  output:w.output=w4.output
  size:w4.heap.size ≤ w.heap.size
  same:∀ k,k < w4.heap.size → k ≠ gi → w.heap[k]?=w4.heap[k]?
  i:w.heap[gi]?=some (.cells #[.int .i64 (pre.length:Int)] 3 (0,0))
theorem RQ.turn {w4:World} {gi β γ:Nat} {pre:List (Int × Xi)} {A B:World} (h:RQ w4 gi pre A) (t:TurnG (fun _=>false) β γ A B) (hg:w4.heap.size ≤ γ) (hi:gi < w4.heap.size):RQ w4 gi pre B:=
  ⟨t.os.trans h.os,t.tape.trans h.tape,t.output.trans h.output,Nat.le_trans h.size t.size,fun k hk hne=>by
    have hlt:k < A.heap.size:=Nat.lt_of_lt_of_le hk h.size
    have e:=t.same k _ (Array.getElem?_eq_getElem hlt) (by omega) (.inr (by cases A.heap[k] <;> rfl))
    rw [e,← h.same k hk hne,Array.getElem?_eq_getElem hlt],t.row h.i (by omega) rfl⟩
theorem RQ.below {w4:World} {gi:Nat} {pre:List (Int × Xi)} {A B:World} (h:RQ w4 gi pre A) (b:Below A.heap.size A B):RQ w4 gi pre B:=
  ⟨b.os.trans h.os,b.tape.trans h.tape,b.output.trans h.output,Nat.le_trans h.size b.size,fun k hk hne=>(b.block k (Nat.lt_of_lt_of_le hk h.size)).trans (h.same k hk hne),row_heap h.i b⟩
theorem RQ.row {w4:World} {gi:Nat} {pre:List (Int × Xi)} {A:World} (h:RQ w4 gi pre A) {k:Nat} {c:Array Value} {T:TypeId} (hr:w4.heap[k]?=some (.cells c T (0,0))) (hne:k ≠ gi):A.heap[k]?=some (.cells c T (0,0)):=
  (h.same k (Array.getElem?_eq_some_iff.1 hr).1 hne).trans hr
theorem RQ.count {w4:World} {gi:Nat} {pre:List (Int × Xi)} {q:Int × Xi} {A B:World} (h:RQ w4 gi pre A) (s:Stored A gi #[.int .i64 (((pre.length + 1:Nat)):Int)] 3 B):RQ w4 gi (pre ++ [q]) B:=
  ⟨s.os.trans h.os,s.tape.trans h.tape,s.output.trans h.output,by rw [s.size];exact h.size,fun k hk hne=>(s.other k hne).trans (h.same k hk hne),by rw [List.length_append];exact s.row⟩
theorem RQ.outer {W w4:World} {gi:Nat} {pre:List (Int × Xi)} {A:World} (h:RQ w4 gi pre A) (b:Below W.heap.size W w4) (hg:W.heap.size ≤ gi):Below W.heap.size W A:=
  ⟨h.os.trans b.os,h.tape.trans b.tape,h.output.trans b.output,Nat.le_trans b.size h.size,fun k hk=>(h.same k (Nat.lt_of_lt_of_le hk b.size) (by omega)).trans (b.block k hk)⟩
def AxP (fr:Int → Xi → Nat → Act) (B0:Nat) (I:List (Int × Xi) → World → Prop) (Yk:List (Int × Xi) → (Int × Xi) → World → Prop) (pre:List (Int × Xi)) (q:Int × Xi) (a':Act) (W':World):Prop:=
  ∃ xB,a'=fr q.1 q.2 xB ∧ I pre W' ∧ Yk pre q W' ∧ W'.heap[xB]?=some (.cells (xC q.2) 24 (0,0)) ∧ B0 ≤ xB
theorem AxP.own {fr:Int → Xi → Nat → Act} {B B':Nat} {I:List (Int × Xi) → World → Prop} {zs:List Int} (hI:OwnFrom B I) (pre:List (Int × Xi)) (q:Int × Xi) (a':Act):OwnFrom B (fun (_:Unit) W=>AxP fr B' I (YA zs) pre q a' W):=
  fun s X Y row ⟨sb,h1,h2,h3,h4,h5⟩ hg hr=>⟨sb,h1,hI _ X Y row h2 hg hr,h3,row_ownM B sb _ _ () X Y row h4 hg hr,h5⟩
section
variable {ρ:Operand → Value} {o:Oper} {w:World} {x y:Operand}
theorem ex_lenP {a:Option Addr} {m c:Nat} {ts:Array TypeId} (ho:o.op=.call ⟨.builtin .len,#[x],ts⟩) (ht:ts=#[34]) (hx:ρ x=.slice a m c):(execOp ρ o).run Tryd.prog w=.ok (.value (.int .i64 (m:Int))) w:=by
  subst ht
  simp [execOp,ho,hx,go_sem]
theorem ex_ixP {g m c k:Nat} (ho:o.op=.indexAddr 35 x y) (hx:ρ x=.slice (some ⟨g,0,none⟩) m c) (hy:ρ y=.int .i64 (k:Int)) (hk:k < m):(execOp ρ o).run Tryd.prog w=.ok (.value (.pointer (some ⟨g,k,none⟩))) w:=by
  simp [execOp,ho,hx,hy,go_sem]
  omega
theorem ex_ixX {g m c k:Nat} (ho:o.op=.indexAddr 34 x y) (hx:ρ x=.slice (some ⟨g,0,none⟩) m c) (hy:ρ y=.int .i64 (k:Int)) (hk:k < m):(execOp ρ o).run Tryd.prog w=.ok (.value (.pointer (some ⟨g,k * 8,none⟩))) w:=by
  simp [execOp,ho,hx,hy,go_sem]
  omega
theorem ex_neP {k:IntKind} {n:Int} {t u:TypeId} (ho:o.op=.binOp .neq t x y u) (hx:ρ x=.int k n) (hy:ρ y=.int k n):(execOp ρ o).run Tryd.prog w=.ok (.value (.bool false)) w:=by
  simp [execOp,ho,hx,hy,go_sem]
theorem ex_ltP {a b:Int} {r:Bool} {t u:TypeId} (ho:o.op=.binOp .lss t x y u) (hx:ρ x=.int .i64 a) (hy:ρ y=.int .i64 b) (hr:decide (a < b)=r):(execOp ρ o).run Tryd.prog w=.ok (.value (.bool r)) w:=by
  simp [execOp,ho,hx,hy,go_sem,hr]
end
section
variable {P:Program} {ops:Array Oper} {n:Nat} {a0:Act} {S:(Nat → Bool) → (Nat → Value) → World → Prop} {K D:List Nat} {l:List (Option Value)} {i:Nat} {o:Oper} {fl:Nat → Bool} {a:Act} {w:World}
theorem czwu (c:Cz ops n a0 S K D l i o fl a w) {j:Nat} {want:Bool} {oj:Oper} {d:Nat} (hg:o.guard=some (j,want)) (hj:ops[j]?=some oj) (hd:oj.dst=some d) (hlt:Nat.blt d n=true) (h:a.tmps.getD d undef=undef):Region.wanted o (yielded ops a.tmps)=false:=
  Eq.trans (wanted_cond j d false false want (by rw [h];rfl) (by rw [c.sz];exact Nat.le_of_ble_eq_true hlt) hg hj hd) rfl
end
theorem xs_at (l:List Xi) (k:Nat) (y:Xi) (h:l[k]?=some y):((xsC l).drop (k * 8)).take 8=xL y:=by
  induction l generalizing k with
  | nil=>cases h
  | cons x l ih=>
    cases k with
    | zero=>
      injection h with h
      subst h
      rfl
    | succ k=>
      have e:xsC (x :: l)=xL x ++ xsC l:=rfl
      rw [e,show (k + 1) * 8=8 + k * 8 by omega,← List.drop_drop]
      exact ih k h
theorem pl_at (l:List Xi) (k:Nat) (h:k < l.length):(plcs l)[k]?=some (.int .i64 (plc l k)):=by
  unfold plcs
  rw [List.getElem?_map,List.getElem?_range h]
  rfl
end Go.Proofs.YthmbmcckldgdiaaDoor.Mrm
namespace Go.Proofs.YthmbmcckldgdiaaDoor.Mrm
open Go Go.RowKit Go.ChangeShapes Go.WideShapes Go.Deep
set_option linter.unusedVariables false
set_option maxRecDepth 100000
section
variable {H:Type} {enc:TypeId × Value → H} {w:World} {base:Nat} {held:Bool}
structure Xis (W:World) (a:Option Addr) (len cap:Nat) (xs:Nat → Xi):Prop where
  le:len ≤ cap
  fit:cap ≤ 9223372036854775807
  here:0 < len → ∃ b o,a=some ⟨b,o,none⟩ ∧ ∀ i,i < len → W.rangeAt b (o + i * 8) (xL (xs i))
  ok:∀ i,i < len → XOk (xs i)
theorem xis_open {fuel:Nat} {cs:List Value} {x:DataW H × List MemPlace} (h:DataW.trod enc Tryd.prog w base (fun _=>true) held fuel 34 cs=some x):
    ∃ (a:Option Addr) (len cap:Nat) (xs:Nat → Xi),cs=[.slice a len cap] ∧ Xis w a len cap xs:=by
  rcases open_slice Tryd.underlying34 h with ⟨rfl,_⟩ | ⟨a,len,cap,m,n,D,Pl,rfl,_,hl,hm,hmm,_,hi⟩
  · exact ⟨none,0,0,fun _=>zX,rfl,Nat.le_refl _,by omega,fun h=>absurd h (by omega),fun i h=>absurd h (by omega)⟩
  · have hm':len ≤ m:=by rw [hmm];split <;> omega
    have k8:Tryd.prog.cellsOf 24=8:=by kernel_rfl
    have spotless:0 < len → a.spot=none:=fun h0=>by
      obtain ⟨cs',hc,ht'⟩:=hi 0 (by omega)
      rw [k8] at hc
      obtain ⟨_,hcl,hat⟩:=World.cells?_some hc
      obtain ⟨y,rfl,_⟩:=xi_cells ht'
      obtain ⟨b,off,spot⟩:=a
      have c0:=hat 0 (by omega)
      simpa [Addr.add] using World.cell?_spot c0
    have key:∀ i,∃ y:Xi,i < len → w.rangeAt a.block (a.off + i * 8) (xL y) ∧ a.spot=none ∧ XOk y:=by
      intro i
      by_cases hlt:i < len
      · obtain ⟨cs',hc,ht'⟩:=hi i (by omega)
        rw [k8] at hc
        obtain ⟨_,hcl,hat⟩:=World.cells?_some hc
        obtain ⟨y,rfl,ok⟩:=xi_cells ht'
        refine ⟨y,fun _=>?_⟩
        have hs:=spotless (by omega)
        obtain ⟨b,off,spot⟩:=a
        simp only at hs
        subst hs
        refine ⟨fun j u hu=>?_,rfl,ok⟩
        have hj:j < 8:=(List.getElem?_eq_some_iff.1 hu).1
        have:=hat j hj
        rw [Addr.add_mid,Addr.add_mid] at this
        exact this.trans hu
      · exact ⟨zX,fun h=>absurd h hlt⟩
    refine ⟨some a,len,cap,fun i=>(key i).choose,rfl,hl,by unfold maxLen at hm;omega,fun h0=>?_,fun i hlt=>((key i).choose_spec hlt).2.2⟩
    obtain ⟨_,hs,_⟩:=(key 0).choose_spec h0
    refine ⟨a.block,a.off,?_,fun i hlt=>((key i).choose_spec hlt).1⟩
    obtain ⟨b,off,spot⟩:=a
    simp at hs
    rw [hs]
theorem xis_arg {r:Reach} {b0:Nat} {v:Value} {d:DataW H} {p:List MemPlace} (hv:Value.okWide Tryd.prog w r b0 34 v) (h:DataW.Trod enc Tryd.prog w base (fun _=>true) held 34 v d p):∃ (a:Option Addr) (len cap:Nat) (xs:Nat → Xi),v=.slice a len cap ∧ Xis w a len cap xs:=by
  obtain ⟨a,len,cap,rfl⟩:=okWide_slice Tryd.underlying34 hv
  obtain ⟨fuel,hf⟩:=h
  obtain ⟨a',len',cap',xs,hcs,hx⟩:=xis_open hf
  simp [Value.cells] at hcs
  obtain ⟨rfl,rfl,rfl⟩:=hcs
  exact ⟨_,_,_,xs,rfl,hx⟩
end
end Go.Proofs.YthmbmcckldgdiaaDoor.Mrm
