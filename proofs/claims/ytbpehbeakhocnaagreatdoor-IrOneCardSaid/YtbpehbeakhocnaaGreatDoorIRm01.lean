import Derived.WalkKit
import Derived.ProofKit
import Derived.Deep.MidRow
import Derived.Laws.CopyOwn
import Derived.Lib.Hide
import Derived.Deep.OwnRows
import Derived.Laws.Rows
import Derived.Test.YtbpehbeakhocnaaGreatDoorRows
import Derived.WalkSpells
import Derived.WalkLawsBesides
import Derived.Deep.LoopGhost
import Derived.Handy
import Derived.Laws.AppendOwn
import Derived.Laws.AppendOwnNone
import Derived.Laws.BytesArg
import Derived.Deep.QuietTactic
import Derived.BigQuiet
import Derived.Deep.RegionHeld3
import Derived.StillTailTactics
import Derived.RegionTactic
set_option linter.unusedVariables false
set_option linter.unusedSimpArgs false
set_option linter.unnecessarySimpa false
namespace Go.Proofs.YtbpehbeakhocnaaGreatDoor
open Go.RowKit
set_option maxRecDepth 100000
def IsRow (k:IntKind) (w:World) (a:Option Addr) (len cap:Nat) (zs:List Int):Prop:=
  (a=none ∧ len=0 ∧ cap=0 ∧ zs=[]) ∨
  ∃ x,a=some x ∧ len ≤ cap ∧ cap ≤ maxLen ∧ zs.length=cap ∧ (∀ i,i < zs.length → w.cell? (x.add i)=some (.int k (zs.getD i 0))) ∧ ∀ n ∈ zs,(Lit.int k n).wf=true
open Go Go.RowKit
variable {P:Program}
structure Stored (w:World) (g:Nat) (cells:Array Value) (t:TypeId) (w':World):Prop where
  os:w'.os=w.os
  tape:w'.tape=w.tape
  output:w'.output=w.output
  size:w'.heap.size=w.heap.size
  row:w'.heap[g]?=some (.cells cells t (0,0))
  other:∀ k,k ≠ g → w'.heap[k]?=w.heap[k]?
theorem stored_setRow (w:World) (g:Nat) (cs old:Array Value) (t:TypeId) (hg:w.heap[g]?=some (.cells old t (0,0))):Stored w g cs t (w.setRow g cs):=
  ⟨rfl,rfl,rfl,by simp [World.setRow],setRow_heap w g _ _ t _ hg,fun k hk=>setRow_other w g k cs hk⟩
theorem Stored.below {w w0 w':World} {g:Nat} {cells:Array Value} {t:TypeId} (h:Stored w g cells t w') {B:Nat} (hb:Below B w0 w) (hB:B ≤ g):Below B w0 w':=
  hb.trans ⟨h.os,h.tape,h.output,by rw [h.size];exact Nat.le_refl _,fun k hk=>h.other k (by omega)⟩
theorem Stored.cell {w w':World} {g:Nat} {cells:Array Value} {t:TypeId} (h:Stored w g cells t w') (i:Nat):w'.cell? ⟨g,i,none⟩=cells[i]?:=by
  simp [World.cell?,h.row]
theorem Stored.frozen {w w':World} {g:Nat} {cells:Array Value} {t:TypeId} (h:Stored w g cells t w') (i:Nat):w'.frozen? ⟨g,i,none⟩=false:=by
  simp [World.frozen?,h.row]
theorem Stored.cellOther {w w':World} {g:Nat} {cells:Array Value} {t:TypeId} (h:Stored w g cells t w') {k:Nat} (hk:k ≠ g) (i:Nat):w'.cell? ⟨k,i,none⟩=w.cell? ⟨k,i,none⟩:=by
  simp [World.cell?,h.other k hk]
theorem wpList_store_is {ops:Array Oper} {rest:List Oper} {o:Oper} {a:Act} {w:World} {Q:Exit → Act → World → Prop} (hgd:o.guard=none) (ty:TypeId) (x y:Operand) (ho:o.op=.store ty x y)
    (g:Nat) (cells:Array Value) (hx:a.eval x=.pointer (some ⟨g,0,none⟩)) (hy:a.eval y=.agg cells)
    (t:TypeId) (old:Array Value) (hg:w.heap[g]?=some (.cells old t (0,0))) (hi:(P.info? ty).map (·.size)=some cells.size)
    (hold:old.size=cells.size) (h1:cells.all (·.oneCell')=true)
    (h:∀ w',Stored w g cells t w' → wpList P ops Q rest (a.put o.dst undef) w'):wpList P ops Q (o :: rest) a w:=
  wpList_store_row hgd ty x y ho g cells hx hy t old hg hi hold h1 (h _ (stored_setRow w g cells old t hg))
theorem step_store_is {ops:Array Oper} {o:Oper} {a:Act} {w:World} {K:Act → World → Prop} {Q:Exit → Act → World → Prop} {E:Prop} (hgd:o.guard=none) (ty:TypeId) (x y:Operand) (ho:o.op=.store ty x y)
    (g:Nat) (cells:Array Value) (hx:a.eval x=.pointer (some ⟨g,0,none⟩)) (hy:a.eval y=.agg cells)
    (t:TypeId) (old:Array Value) (hg:w.heap[g]?=some (.cells old t (0,0))) (hi:(P.info? ty).map (·.size)=some cells.size)
    (hold:old.size=cells.size) (h1:cells.all (·.oneCell')=true)
    (h:∀ w',Stored w g cells t w' → K (a.put o.dst undef) w'):if Region.wanted o (yielded ops a.tmps)=true then Oper.wp P o a w K Q else E:=by
  have hw:Region.wanted o (yielded ops a.tmps)=true:=by simp [Region.wanted,hgd]
  rw [if_pos hw]
  exact wp_store_row ty x y ho g cells hx hy t old hg hi hold h1 (h _ (stored_setRow w g cells old t hg))
theorem upon_store_is {o:Oper} {a:Act} {w:World} {K:Act → World → Prop} {Q:Exit → Act → World → Prop} (g:Nat) (cells:Array Value) (t:TypeId) (old:Array Value)
    (hg:w.heap[g]?=some (.cells old t (0,0))) (hold:old.size=cells.size) (h1:cells.all (·.oneCell')=true)
    (h:∀ w',Stored w g cells t w' → K (a.put o.dst undef) w'):o.upon P a K Q (((storeCells ⟨g,0,none⟩ cells.toList).run P w).andThen fun _ w'=>.ok Next.skip w'):=by
  have:=run_storeCells_from (P:=P) g t cells.toList 0 old w hg (by simp;omega) (fun v hv=>(Array.all_eq_true_iff_forall_mem.1 h1) v (by simpa using hv))
  rw [this]
  have e:((old.toList.take 0) ++ cells.toList).toArray=cells:=by simp
  rw [e,Result.andThen_ok,Oper.upon_skip]
  exact h _ (stored_setRow w g cells old t hg)
theorem below_new {W w:World} (h:Below W.heap.size W w) (o:Obj):Below W.heap.size W (w.alloc o):=h.alloc h.size o
theorem below_call {W w w1:World} (h:Below W.heap.size W w) (b:Below w.heap.size w w1):Below W.heap.size W w1:=h.trans (b.mono h.size)
theorem wpList_build_is {ops:Array Oper} {rest:List Oper} {o:Oper} {a:Act} {w:World} {Q:Exit → Act → World → Prop} (hg:o.guard=none) (t:TypeId) (parts:Array (Nat × Operand)) (ho:o.op=.build t parts)
    (cells:Array Value) (hf:P.built t (parts.map fun (i,x)=>(i,a.eval x)).toList=some cells)
    (h:wpList P ops Q rest (a.put o.dst (.agg cells)) w):wpList P ops Q (o :: rest) a w:=
  wpList_build hg t parts ho (by rw [hf];rfl) (by rw [hf];exact h)
theorem heap_last (w:World) (o:Obj) (k:Nat) (h:k=w.heap.size):(w.alloc o).heap[k]?=some o:=by subst h;exact heap_alloc_new w o
theorem heap_past (w:World) (o:Obj) (k:Nat) (h:k < w.heap.size):(w.alloc o).heap[k]?=w.heap[k]?:=Deep.blk_alloc_lt w o k h
theorem size_alloc (w:World) (o:Obj):(w.alloc o).heap.size=w.heap.size + 1:=Deep.nblk_alloc w o
theorem setCell_row {w:World} {g:Nat} {cs:Array Value} {t:TypeId} {fr:Nat × Nat} (h:w.heap[g]?=some (.cells cs t fr)) (i:Nat) (v:Value):
    (w.setCell ⟨g,i,none⟩ v).heap[g]?=some (.cells (cs.setIfInBounds i v) t fr):=by
  simp [World.setCell,Array.getElem?_modify,h]
theorem setCell_past (w:World) (a:Addr) (v:Value) (k:Nat) (h:k ≠ a.block):(w.setCell a v).heap[k]?=w.heap[k]?:=Deep.blk_setCell_other w a v k h
theorem stored_setCell {w:World} {g:Nat} {cs:Array Value} {t:TypeId} (h:w.heap[g]?=some (.cells cs t (0,0))) (i:Nat) (v:Value):Stored w g (cs.setIfInBounds i v) t (w.setCell ⟨g,i,none⟩ v):=
  ⟨rfl,rfl,rfl,Deep.nblk_setCell _ _ _,setCell_row h i v,fun k hk=>setCell_past _ _ _ _ hk⟩
theorem wpList_store_cell {ops:Array Oper} {rest:List Oper} {o:Oper} {a:Act} {w:World} {Q:Exit → Act → World → Prop} (hgd:o.guard=none) (ty:TypeId) (x y:Operand) (ho:o.op=.store ty x y)
    (g i:Nat) (v:Value) (hx:a.eval x=.pointer (some ⟨g,i,none⟩)) (hy:a.eval y=v) (hv:v.cells=#[v]) (h1:v.oneCell'=true)
    (t:TypeId) (cells:Array Value) (hg:w.heap[g]?=some (.cells cells t (0,0))) (hi:(P.info? ty).map (·.size)=some 1) (hlt:i < cells.size)
    (h:∀ w',Stored w g (cells.setIfInBounds i v) t w' → wpList P ops Q rest (a.put o.dst undef) w'):wpList P ops Q (o :: rest) a w:=by
  refine wpList_plain hgd fun _ hK=>?_
  unfold Oper.wp execOp
  have e:∀ p,storeVar ty p v=storeVar ty p (.agg #[v]):=fun p=>by unfold storeVar;rw [hv];rfl
  have ht:w.there g i (#[v]:Array Value).size:=fun j hj=>by
    have:j=0:=by simpa using hj
    subst this
    exact ⟨by simp [World.cell?,hg,hlt],by simp [World.frozen?,hg]⟩
  simp only [ho,hx,hy,Instr.storeAt,Instr.sureAddr,Sem.run_bind,Sem.run_pure,Result.andThen_ok,e,run_storeVar_mid w g i ty #[v] ht hi (by simp [h1])]
  exact hK _ _ (h _ (stored_setCell hg i v))
theorem stored_self {w:World} {g:Nat} {cs:Array Value} {t:TypeId} (h:w.heap[g]?=some (.cells cs t (0,0))):Stored w g cs t w:=⟨rfl,rfl,rfl,rfl,h,fun _ _=>rfl⟩
theorem splice_get {α:Type} (L:List α) (off:Nat) (cs:List α) (h:off + cs.length ≤ L.length) (i:Nat):(splice L off cs)[i]?=if i < off then L[i]? else if i < off + cs.length then cs[i - off]? else L[i]?:=by
  unfold splice
  by_cases h1:i < off
  · rw [if_pos h1,List.getElem?_append_left (by simp;omega),List.getElem?_take_of_lt h1]
  · rw [if_neg h1,List.getElem?_append_right (by simp;omega)]
    have e:(L.take off).length=off:=by simp;omega
    rw [e]
    by_cases h2:i < off + cs.length
    · rw [if_pos h2,List.getElem?_append_left (by omega)]
    · rw [if_neg h2,List.getElem?_append_right (by omega),List.getElem?_drop]
      congr 1;omega
theorem wpList_copy_is {w:World} {ops:Array Oper} {rest:List Oper} {o:Oper} {a:Act} {Q:Exit → Act → World → Prop} (hgd:o.guard=none) (d s:Operand) (dT sT:TypeId)
    (ho:o.op=.call { callee:=.builtin .copy,args:=#[d,s],argTypes:=#[dT,sT] }) (elem:TypeId) (hu:P.underlying dT=some (.slice elem)) (hsz:(P.info? elem).map (·.size)=some 1)
    (dp sp:Option Addr) (dLen dCap sLen sCap:Nat) (hd:a.eval d=.slice dp dLen dCap) (hs:a.eval s=.slice sp sLen sCap)
    (g off:Nat) (cur:List Value) (t:TypeId) (hg:w.heap[g]?=some (.cells cur.toArray t (0,0))) (cs:List Value) (hn:cs.length=Nat.min sLen dLen)
    (hpos:0 < cs.length → dp=some ⟨g,off,none⟩ ∧ ∃ ad,sp=some ad ∧ ∀ j v,cs[j]?=some v → w.cell? (ad.add j)=some v)
    (hfit:off + cs.length ≤ cur.length) (h1:∀ v ∈ cs,v.oneCell'=true)
    (h:∀ w',Stored w g (splice cur off cs).toArray t w' → wpList P ops Q rest (a.put o.dst (goInt cs.length)) w'):
    wpList P ops Q (o :: rest) a w:=by
  by_cases h0:cs.length=0
  · obtain rfl:cs=[]:=List.eq_nil_of_length_eq_zero h0
    refine wpList_copy_nothing hgd d s dT sT ho elem hu hsz dp sp dLen dCap sLen sCap hd hs (by simpa using hn.symm) ?_
    exact h w (by have e:splice cur off []=cur:=by simp [splice]
                  rw [e];exact stored_self hg)
  · obtain ⟨rfl,ad,rfl,hsrc⟩:=hpos (by omega)
    refine wpList_copy_own hgd d s dT sT ho elem hu hsz g off dLen dCap ad sLen sCap hd hs cur.toArray t hg cs hn hsrc (by simpa using hfit) h1 ?_
    exact h _ (stored_setRow w g _ _ t hg)
theorem halt_store {ops:Array Oper} {rest:List Oper} {o:Oper} {a:Act} {w:World} {Q:Exit → Act → World → Prop} (ty:TypeId) (x y:Operand) (ho:o.op=.store ty x y)
    (h:wpList P ops Q (o :: rest) a w ∧ True):wpList P ops Q (o :: rest) a w:=h.1
theorem halt_load {ops:Array Oper} {rest:List Oper} {o:Oper} {a:Act} {w:World} {Q:Exit → Act → World → Prop} (ty:TypeId) (x:Operand) (ho:o.op=.load ty x)
    (h:wpList P ops Q (o :: rest) a w ∧ True):wpList P ops Q (o :: rest) a w:=h.1
theorem halt_build {ops:Array Oper} {rest:List Oper} {o:Oper} {a:Act} {w:World} {Q:Exit → Act → World → Prop} (ty:TypeId) (x:Array (Nat × Operand)) (ho:o.op=.build ty x)
    (h:wpList P ops Q (o :: rest) a w ∧ True):wpList P ops Q (o :: rest) a w:=h.1
end Go.Proofs.YtbpehbeakhocnaaGreatDoor
namespace Go.Proofs.YtbpehbeakhocnaaGreatDoor.Mrm
open Go.RowKit
set_option maxRecDepth 100000
theorem results_tmp4 {fn:Func} {t u v x:Tmp} (h:fn.results=#[.tmp t,.tmp u,.tmp v,.tmp x]) (tmps:Array Value) (P:Program) (w:World):
    (results fn tmps).run P w=.ok (.tuple #[tmps.getD t undef,tmps.getD u undef,tmps.getD v undef,tmps.getD x undef]) w:=by
  simp [results,h]
theorem results_tmp6 {fn:Func} {t u v x y z:Tmp} (h:fn.results=#[.tmp t,.tmp u,.tmp v,.tmp x,.tmp y,.tmp z]) (tmps:Array Value) (P:Program) (w:World):
    (results fn tmps).run P w=.ok (.tuple #[tmps.getD t undef,tmps.getD u undef,tmps.getD v undef,tmps.getD x undef,tmps.getD y undef,tmps.getD z undef]) w:=by
  simp [results,h]
def u8s (l:List Int):List Value:=l.map (.int .u8)
theorem u8s_one (l:List Int):∀ u ∈ u8s l,u.oneCell'=true:=by
  intro u hu
  obtain ⟨n,_,rfl⟩:=List.mem_map.1 hu
  rfl
theorem u8s_append (l m:List Int):u8s (l ++ m)=u8s l ++ u8s m:=List.map_append
theorem lt_cell {w:World} {b o:Nat} {v:Value} (h:w.cell? ⟨b,o,none⟩=some v):b < w.heap.size:=by
  rcases Nat.lt_or_ge b w.heap.size with h' | h'
  · exact h'
  · have:w.heap[b]?=none:=Array.getElem?_eq_none h'
    simp [World.cell?,this] at h
def Oks (l:List Int):Prop:=∀ z ∈ l,0 ≤ z ∧ z < 256
structure BytesAt (W:World) (a:Option Addr) (len cap:Nat) (zs:List Int):Prop where
  size:len=zs.length
  le:len ≤ cap
  fit:cap ≤ 9223372036854775807
  here:0 < len → ∃ b o,a=some ⟨b,o,none⟩ ∧ ∀ j z,zs[j]?=some z → W.cell? ⟨b,o + j,none⟩=some (.int .u8 z)
  ok:Oks zs
  nilc:a=none → cap=0
theorem BytesAt.below {W w:World} {a:Option Addr} {len cap:Nat} {zs:List Int} (h:BytesAt W a len cap zs) (b:Below W.heap.size W w):BytesAt w a len cap zs:=
  ⟨h.size,h.le,h.fit,fun hp=>by
    obtain ⟨b',o,e,hc⟩:=h.here hp
    exact ⟨b',o,e,fun j z hz=>(b.cell (p:=⟨b',o + j,none⟩) (lt_cell (hc j z hz))).trans (hc j z hz)⟩,h.ok,h.nilc⟩
theorem BytesAt.nil (W:World):BytesAt W none 0 0 []:=⟨rfl,Nat.le_refl _,by omega,fun h=>absurd h (by decide),fun z hz=>(by cases hz),fun _=>rfl⟩
theorem BytesAt.row {W:World} {a:Option Addr} {len cap:Nat} {zs:List Int} (h:IsRow .u8 W a len cap zs):BytesAt W a len cap (zs.take len):=by
  rcases h with ⟨rfl,rfl,rfl,rfl⟩ | ⟨x,rfl,h1,h2,h3,h4,h5⟩
  · exact BytesAt.nil W
  · refine ⟨by simp;omega,h1,by unfold maxLen at h2;omega,fun h0=>?_,fun z hz=>?_,fun h=>by cases h⟩
    · have c0:=h4 0 (by omega)
      obtain ⟨b,off,spot⟩:=x
      obtain rfl:spot=none:=by simpa [Addr.add] using World.cell?_spot c0
      refine ⟨b,off,rfl,fun j z hz=>?_⟩
      have hj:j < len:=by have:=(List.getElem?_eq_some_iff.1 hz).1;simp at this;omega
      rw [List.getElem?_take_of_lt hj] at hz
      have:=h4 j (by omega)
      rw [Addr.add_mid] at this
      rw [this,List.getD_eq_getElem?_getD,hz];rfl
    · have:=h5 z (List.mem_of_mem_take hz)
      have:0 ≤ z ∧ z ≤ 255:=by simpa [Lit.wf,IntKind.min,IntKind.max,IntKind.bits,IntKind.signed] using this
      omega
theorem str_inj {zs ys:List Int} (h1:Oks zs) (h2:Oks ys) (h:strOfNums zs=strOfNums ys):zs=ys:=by
  have e:=congrArg (fun s:ByteArray=>s.data.toList) h
  simp only [strOfNums_data] at e
  have el:=congrArg List.length e
  simp at el
  apply List.ext_getElem?
  intro j
  by_cases hj:j < zs.length
  · have e2:=congrArg (fun l=>l[j]?) e
    simp only [List.getElem?_map,List.getElem?_eq_getElem hj,List.getElem?_eq_getElem (show j < ys.length by omega),Option.map_some] at e2 ⊢
    injection e2 with e2
    have a1:=h1 _ (List.getElem_mem hj)
    have a2:=h2 _ (List.getElem_mem (show j < ys.length by omega))
    have e3:=congrArg UInt8.toNat e2
    simp only [UInt8.toNat_ofNat'] at e3
    congr 1
    omega
  · rw [List.getElem?_eq_none (by omega),List.getElem?_eq_none (by omega)]
theorem conv_bytes {W:World} {a:Option Addr} {len cap:Nat} {zs:List Int} (h:BytesAt W a len cap zs):
    (convert 84 9 (.slice a len cap)).run Tryz.prog W=.ok (.string (strOfNums zs)) W:=by
  by_cases h0:0 < len
  · obtain ⟨b,o,rfl,hc⟩:=h.here h0
    exact run_convert_bytes_arg (P:=Tryz.prog) W 84 5 Tryz.underlying84 Tryz.underlying5 b o len cap zs h.size.symm (fun i hi=>by
      rw [hc i (zs.getD i 0) (by rw [List.getD_eq_getElem?_getD,List.getElem?_eq_getElem (by rw [← h.size];exact hi)];rfl)]) 9 Tryz.underlying9
  · obtain rfl:len=0:=by omega
    obtain rfl:zs=[]:=List.eq_nil_of_length_eq_zero h.size.symm
    cases a with
    | none=>exact run_convert_bytes_nil (P:=Tryz.prog) W 84 5 Tryz.underlying84 Tryz.underlying5 0 cap 9 Tryz.underlying9
    | some x=>
      rw [run_convert_bytes_string W 84 9 5 (some x) 0 cap Tryz.underlying84 Tryz.underlying5 Tryz.underlying9,run_bytesToString W x 0 cap [] (by simp [loadCells,loadCellsFrom])]
      rfl
theorem retV {a b:Value} (h:a=b):Ending.returned a=.returned b:=by rw [h]
def Bts (base:Nat) (w:World) (v:Value) (l:List Int):Prop:=w.ownsRow base 5 1 v l.length (u8s l)
theorem Bts.below {base:Nat} {w w':World} {v:Value} {l:List Int} (h:Bts base w v l) (b:Below w.heap.size w w'):Bts base w' v l:=by
  refine ⟨h.1,?_⟩
  rcases h.2 with h | ⟨g,cap,cur,e1,e2,e3,r⟩
  · exact .inl h
  · exact .inr ⟨g,cap,cur,e1,e2,(b.block g (Array.getElem?_eq_some_iff.1 e3).1).trans e3,r⟩
theorem Bts.mono {b b':Nat} {w:World} {v:Value} {l:List Int} (h:Bts b w v l) (hb:b' ≤ b):Bts b' w v l:=by
  refine ⟨h.1,?_⟩
  rcases h.2 with h | ⟨g,cap,cur,e1,e2,r⟩
  · exact .inl h
  · exact .inr ⟨g,cap,cur,e1,by omega,r⟩
theorem Bts.nil (base:Nat) (w:World):Bts base w (.slice none 0 0) []:=World.ownsRow_nil _ _ _ _
theorem Bts.at {base:Nat} {w:World} {v:Value} {l:List Int} (h:Bts base w v l) (ok:Oks l):∃ a c,v=.slice a l.length c ∧ BytesAt w a l.length c l:=by
  rcases h.2 with ⟨h1,h2⟩ | ⟨g,cap,cur,e1,e2,e3,e4,e5,e6,e7⟩
  · obtain rfl:l=[]:=List.eq_nil_of_length_eq_zero h2
    exact ⟨none,0,h1,BytesAt.nil w⟩
  · refine ⟨_,cap,e1,rfl,e4,by unfold maxLen at e5;omega,fun _=>⟨g,0,rfl,fun j z hz=>?_⟩,ok,fun h=>by cases h⟩
    have hj:j < l.length:=(List.getElem?_eq_some_iff.1 hz).1
    have h1:(cur.toList.take (l.length * 1))[j]?=some (.int .u8 z):=by rw [e7];unfold u8s;rw [List.getElem?_map,hz];rfl
    rw [List.getElem?_take_of_lt (by omega),Array.getElem?_toList] at h1
    simp only [World.cell?,e3,Nat.zero_add]
    exact h1
theorem conv_own {base:Nat} {w:World} {v:Value} {l:List Int} (h:Bts base w v l) (ok:Oks l):(convert 84 9 v).run Tryz.prog w=.ok (.string (strOfNums l)) w:=by
  obtain ⟨a,c,rfl,hb⟩:=h.at ok
  exact conv_bytes hb
theorem one_own {base:Nat} (w:World) (p:Int) (hb:base ≤ w.heap.size):Bts base (w.alloc (.cells #[.int .u8 p] 5)) (.slice (some ⟨w.heap.size,0,none⟩) 1 1) [p]:=
  ⟨rfl,.inr ⟨w.heap.size,1,_,rfl,hb,heap_last w _ _ rfl,Nat.le_refl _,by decide,rfl,rfl⟩⟩
theorem one_at (w:World) (p:Int) (hp:0 ≤ p ∧ p < 256):BytesAt (w.alloc (.cells #[.int .u8 p] 5)) (some ⟨w.heap.size,0,none⟩) 1 1 [p]:=by
  obtain ⟨a,c,e,h⟩:=(one_own (base:=0) w p (Nat.zero_le _)).at (fun z hz=>by
    obtain rfl:z=p:=by simpa using hz
    exact hp)
  injection e with e1 e2 e3
  subst e1 e3
  exact h
theorem row_own {w:World} {z n base:Nat} {f:Nat → Int} (h:w.rowIs z 5 n (fun i=>.int .u8 (f i))) (hb:base ≤ z) (hm:n ≤ maxLen):Bts base w (.slice (some ⟨z,0,none⟩) n n) ((List.range n).map f):=by
  obtain ⟨cur,h1,h2,h3⟩:=h
  refine ⟨by simp [u8s],.inr ⟨z,n,cur,by simp,hb,h1,by simp,hm,by omega,?_⟩⟩
  apply List.ext_getElem?
  intro i
  simp only [List.length_map,List.length_range]
  by_cases hi:i < n
  · have:=h3 i hi
    rw [List.getElem?_take_of_lt (by omega),Array.getElem?_toList,this]
    simp [u8s,hi]
  · rw [List.getElem?_eq_none (by simp;omega),List.getElem?_eq_none (by simp [u8s];omega)]
theorem below_grown {W w w':World} {row:Option Nat} (h:Below W.heap.size W w) (g:w.grownBy w' row) (hr:∀ k,row=some k → W.heap.size ≤ k):Below W.heap.size W w':=
  h.trans ⟨g.os,g.tape,g.output,g.size,fun k hk=>g.block k (Nat.lt_of_lt_of_le hk h.size) (fun e=>by have:=hr k e.symm;omega)⟩
theorem Bts.lt {base:Nat} {w:World} {v:Value} {l:List Int} (h:Bts base w v l):∀ k,v.ownBlock=some k → base ≤ k:=fun k hk=>(World.ownsRow.lt h k hk).1
theorem below_drews {W w:World} {m:Nat} (h:Below m W w):∀ n,Below m W (w.drewN n)
  | 0=>h
  | n + 1=>(below_drews h n).drew
theorem info_u8a:∃ i,Tryz.prog.info? 5=some i ∧ i.zero=some (.int .u8 0) ∧ i.size=1 ∧ i.bytes=1:=by
  have h:(Tryz.prog.info? 5).map (fun i=>(i.zero,i.size,i.bytes))=some (some (.int .u8 0),1,1):=by kernel_rfl
  cases hi:Tryz.prog.info? 5 with
  | none=>rw [hi] at h;simp at h
  | some i=>rw [hi] at h;simp at h;exact ⟨i,rfl,h.1,h.2.1,h.2.2⟩
theorem wpList_append_b {ops:Array Oper} {rest:List Oper} {o:Oper} {a:Act} {Q:Exit → Act → World → Prop} {w:World} (hgd:o.guard=none) (s x:Operand)
    (ho:o.op=.call { callee:=.builtin .append,args:=#[s,x],argTypes:=#[84,84] })
    (base:Nat) (v:Value) (l:List Int) (hs:a.eval s=v) (hown:Bts base w v l) (xa:Option Addr) (m c:Nat) (zs:List Int) (hx:a.eval x=.slice xa m c) (hE:BytesAt w xa m c zs)
    (hfew:l.length + m ≤ 100000) (hb:base ≤ w.heap.size)
    (h:∀ v' w',Bts base w' v' (l ++ zs) → w.grownBy w' v.ownBlock → wpList Tryz.prog ops Q rest (a.put o.dst v') w'):wpList Tryz.prog ops Q (o :: rest) a w:=by
  obtain ⟨ti,i1,i2,i3,i4⟩:=info_u8a
  have hl:=hE.size
  cases xa with
  | none=>
    have h0:=hE.nilc rfl
    have h1:=hE.le
    obtain rfl:zs=[]:=List.eq_nil_of_length_eq_zero (by omega)
    obtain rfl:m=0:=by omega
    subst h0
    refine wpList_append_own_none hgd s x 84 ho base 5 ti 1 Tryz.underlying84 i1 v l.length (u8s l) hs hown hx ?_
    exact h v w (by rw [List.append_nil];exact hown) ⟨rfl,rfl,rfl,Nat.le_refl _,fun _ _ _=>rfl⟩
  | some ad=>
    refine wpList_append_own w hgd s x 84 ho base 5 ti (.int .u8 0) 1 1 Tryz.underlying84 i1 i2 i3 i4 rfl (by decide) v l.length (u8s l) hs hown ad m c (u8s zs) hx (by simp [u8s];omega) (fun j u hu=>?_) (u8s_one zs) (by unfold maxLen;omega) (by omega) hb (fun v' w' o g _=>h v' w' ?_ g)
    · unfold u8s at hu
      rw [List.getElem?_map] at hu
      cases hz:zs[j]? with
      | none=>rw [hz] at hu;cases hu
      | some z=>
        rw [hz] at hu
        obtain rfl:Value.int .u8 z=u:=by simpa using hu
        have hj:j < zs.length:=(List.getElem?_eq_some_iff.1 hz).1
        obtain ⟨b',o',e,hc⟩:=hE.here (by omega)
        injection e with e
        subst e
        rw [Addr.add_mid]
        exact hc j z hz
    · unfold Bts
      rw [u8s_append,List.length_append,← hl]
      exact o
def RetB (l:List Int) (c:Int) (W:World) (e:Ending) (w':World):Prop:=∃ v,e=.returned (.tuple #[v,.int .i64 c]) ∧ Bts W.heap.size w' v l ∧ Below W.heap.size W w'
def RetV (l:List Int) (W:World) (e:Ending) (w':World):Prop:=∃ v,e=.returned v ∧ Bts W.heap.size w' v l ∧ Below W.heap.size W w'
def regB (r:Int):Bool:=decide (0 ≤ r) && decide (r < 16)
def bothB (r m:Int):Bool:=regB r && regB m
def bitI (b:Bool) (v:Int):Int:=bif b then v else 0
def rexI (w:Bool) (r m:Int):Int:=64 + bitI w 8 + bitI (decide (8 ≤ r)) 4 + bitI (decide (8 ≤ m)) 1
def needB (r m:Int):Bool:=bothB r m && (decide (8 ≤ r) || decide (8 ≤ m))
theorem regB_iff {r:Int}:regB r=true ↔ 0 ≤ r ∧ r < 16:=by unfold regB;simp
theorem bothB_iff {r m:Int}:bothB r m=true ↔ (0 ≤ r ∧ r < 16) ∧ 0 ≤ m ∧ m < 16:=by unfold bothB;rw [Bool.and_eq_true,regB_iff,regB_iff]
theorem rex_or (w b c:Bool):bits .or .u8 (bits .or .u8 (bits .or .u8 64 (bitI w 8)) (bitI b 4)) (bitI c 1)=64 + bitI w 8 + bitI b 4 + bitI c 1:=by
  cases w <;> cases b <;> cases c <;> decide +kernel
def opI (k r m:Int):Int:=k + r % 8 * 8 + m % 8
theorem op_fin (q:Bool):∀ r m:Fin 8,bits .or .u8 (bits .or .u8 (if q then 192 else 128) ((r.1:Int) * 8)) (m.1:Int)=(if q then 192 else 128) + (r.1:Int) * 8 + (m.1:Int):=by
  cases q <;> decide +kernel
theorem op_or (q:Bool) (r m:Int):bits .or .u8 (bits .or .u8 (if q then 192 else 128) (r % 8 * 8)) (m % 8)=opI (if q then 192 else 128) r m:=by
  have:=op_fin q ⟨(r % 8).toNat,by omega⟩ ⟨(m % 8).toNat,by omega⟩
  simp only [Int.toNat_of_nonneg (show 0 ≤ r % 8 by omega),Int.toNat_of_nonneg (show 0 ≤ m % 8 by omega)] at this
  exact this
theorem low_fin:∀ r:Fin 16,bits .and .u8 (IntKind.u8.wrap (r.1:Int)) 7=(r.1:Int) % 8:=by decide +kernel
theorem low_and {r:Int} (h0:0 ≤ r) (h1:r < 16):bits .and .u8 (IntKind.u8.wrap r) 7=r % 8:=by
  have:=low_fin ⟨r.toNat,by omega⟩
  simp only [Int.toNat_of_nonneg h0] at this
  exact this
def byS (v:Int) (i:Nat):Int:=v / 2 ^ (8 * i) % 256
def numL (v:Int) (n:Nat):List Int:=(List.range n).map (byS v)
def fitB (v:Int) (n:Nat):Bool:=decide (-2 ^ (8 * n - 1) ≤ v) && decide (v < 2 ^ (8 * n - 1))
def wid (n:Int):Bool:=n == 1 || n == 2 || n == 4
def numB (v n:Int):Bool:=wid n && fitB v n.toNat
def midL (m:Int):List Int:=if m % 8=4 then [36] else []
def regL (r m:Int):List Int:=[opI 192 r m]
def memL (r m d:Int):List Int:=[opI 128 r m] ++ (midL m ++ numL d 4)
def memB (r m d:Int):Bool:=bothB r m && fitB d 4
theorem numL_ok (v:Int) (n:Nat):Oks (numL v n):=by
  intro z hz
  obtain ⟨i,_,rfl⟩:=List.mem_map.1 hz
  unfold byS;omega
theorem numL_length (v:Int) (n:Nat):(numL v n).length=n:=by simp [numL]
theorem numL_next (v:Int) (k:Nat):numL v (k + 1)=numL v k ++ [byS v k]:=by
  unfold numL
  rw [List.range_succ,List.map_append];rfl
theorem midL_ok (m:Int):Oks (midL m):=by
  intro z hz
  unfold midL at hz
  split at hz
  · obtain rfl:z=36:=by simpa using hz
    omega
  · cases hz
theorem opI_bd {k r m:Int} (hk:k=192 ∨ k=128):0 ≤ opI k r m ∧ opI k r m < 256:=by unfold opI;omega
theorem one_ok {z:Int} (h:0 ≤ z ∧ z < 256):Oks [z]:=by
  intro y hy
  obtain rfl:y=z:=by simpa using hy
  exact h
theorem Oks.append {l m:List Int} (h:Oks l) (g:Oks m):Oks (l ++ m):=fun z hz=>(List.mem_append.1 hz).elim (h z) (g z)
theorem regL_ok (r m:Int):Oks (regL r m):=one_ok (opI_bd (.inl rfl))
theorem memL_ok (r m d:Int):Oks (memL r m d):=(one_ok (opI_bd (.inr rfl))).append ((midL_ok m).append (numL_ok d 4))
def rexB (c:Int):Bool:=decide (64 ≤ c) && decide (c ≤ 79) && (c / 2 % 2 == 0)
def hiI (c k:Int):Int:=if c / k % 2=1 then 8 else 0
def wB (c:Int):Bool:=c / 8 % 2 == 1
theorem rex_fin:∀ c:Fin 256,(bits .and .u8 (c.1:Int) 242 != 64)=!rexB c.1 ∧ bits .and .u8 (c.1:Int) 2=(c.1:Int) / 2 % 2 * 2 ∧ bits .and .u8 (c.1:Int) 4=(c.1:Int) / 4 % 2 * 4 ∧ bits .and .u8 (c.1:Int) 1=(c.1:Int) / 1 % 2 ∧ bits .and .u8 (c.1:Int) 8=(c.1:Int) / 8 % 2 * 8:=by decide +kernel
theorem rex_bits {c:Int} (h0:0 ≤ c) (h1:c < 256):(bits .and .u8 c 242 != 64)=!rexB c ∧ bits .and .u8 c 2=c / 2 % 2 * 2 ∧ bits .and .u8 c 4=c / 4 % 2 * 4 ∧ bits .and .u8 c 1=c / 1 % 2 ∧ bits .and .u8 c 8=c / 8 % 2 * 8:=by
  have:=rex_fin ⟨c.toNat,by omega⟩
  simp only [Int.toNat_of_nonneg h0] at this
  exact this
theorem register_n (r:Int) (W:World):Calls Tryz.prog 175 #[.int .i8 r] W fun e w'=>e=.returned (.bool (regB r)) ∧ W=w':=by
  by_cases h0:0 ≤ r
  · go_enter Tryz.func175,Tryz.ntmps175
    go_wp2
    go_ret
    exact ⟨retV (by unfold regB;simp [h0]),rfl⟩
  · have e:regB r=false:=by unfold regB;simp [h0]
    rw [e]
    have h1:r < 0:=by omega
    clear h0 e
    go_enter Tryz.func175,Tryz.ntmps175
    go_wp2
    go_ret
    exact ⟨rfl,rfl⟩
theorem both_n (r m:Int) (W:World):Calls Tryz.prog 154 #[.int .i8 r,.int .i8 m] W fun e w'=>e=.returned (.bool (bothB r m)) ∧ W=w':=by
  have R:=Lib.hid (fun W=>register_n r W)
  have M:=Lib.hid (fun W=>register_n m W)
  unfold bothB
  generalize regB r=b at *
  generalize regB m=c at *
  cases b
  · go_enter Tryz.func154,Tryz.ntmps154
    go_wp2_with (first | (refine (R.out _).mono ?_;rintro e w1 ⟨rfl,rfl⟩))
    go_ret
    exact ⟨rfl,rfl⟩
  · go_enter Tryz.func154,Tryz.ntmps154
    go_wp2_with fail
    refine (R.out _).mono ?_
    rintro e w1 ⟨rfl,rfl⟩
    go_wp2_with fail
    refine (M.out _).mono ?_
    rintro e w1 ⟨rfl,rfl⟩
    go_wp2
    go_ret
    exact ⟨rfl,rfl⟩
theorem bit_n (b:Bool) (v:Int) (W:World):Calls Tryz.prog 174 #[.bool b,.int .u8 v] W fun e w'=>e=.returned (.int .u8 (bitI b v)) ∧ W=w':=by
  cases b
  · go_enter Tryz.func174,Tryz.ntmps174
    go_wp2
    go_ret
    exact ⟨rfl,rfl⟩
  · go_enter Tryz.func174,Tryz.ntmps174
    go_wp2
    go_ret
    exact ⟨rfl,rfl⟩
theorem rex_n (w:Bool) (r m:Int) (W:World):Calls Tryz.prog 153 #[.bool w,.int .i8 r,.int .i8 m] W fun e w'=>e=.returned (.tuple #[.int .u8 (bif bothB r m then rexI w r m else 0),.int .i64 (bif bothB r m then 0 else 2)]) ∧ W=w':=by
  have B:=Lib.hid (fun W=>both_n r m W)
  cases h:bothB r m
  · rw [h] at B
    go_enter Tryz.func153,Tryz.ntmps153
    go_wp2_with fail
    refine (B.out _).mono ?_
    rintro e w1 ⟨rfl,rfl⟩
    go_wp2
    go_ret2
    exact ⟨rfl,rfl⟩
  · rw [h] at B
    have T1:=Lib.hid (fun W=>bit_n w 8 W)
    have T2:=Lib.hid (fun W=>bit_n (decide (8 ≤ r)) 4 W)
    have T3:=Lib.hid (fun W=>bit_n (decide (8 ≤ m)) 1 W)
    have HE:=Lib.hid (rex_or w (decide (8 ≤ r)) (decide (8 ≤ m)))
    clear h
    unfold rexI
    generalize bitI w 8=x1 at *
    generalize bitI (decide (8 ≤ r)) 4=x2 at *
    generalize bitI (decide (8 ≤ m)) 1=x3 at *
    go_enter Tryz.func153,Tryz.ntmps153
    go_wp2_with fail
    refine (B.out _).mono ?_
    rintro e w1 ⟨rfl,rfl⟩
    go_wp2_with fail
    refine (T1.out _).mono ?_
    rintro e w1 ⟨rfl,rfl⟩
    go_wp2_with fail
    refine (T2.out _).mono ?_
    rintro e w1 ⟨rfl,rfl⟩
    go_wp2_with fail
    refine (T3.out _).mono ?_
    rintro e w1 ⟨rfl,rfl⟩
    go_wp2
    go_ret2
    exact ⟨by rw [HE.out];rfl,rfl⟩
theorem needs_n (r m:Int) (W:World):Calls Tryz.prog 152 #[.int .i8 r,.int .i8 m] W fun e w'=>e=.returned (.bool (needB r m)) ∧ W=w':=by
  have B:=Lib.hid (fun W=>both_n r m W)
  unfold needB
  cases h:bothB r m
  · rw [h] at B
    go_enter Tryz.func152,Tryz.ntmps152
    go_wp2_with fail
    refine (B.out _).mono ?_
    rintro e w1 ⟨rfl,rfl⟩
    go_wp2
    go_ret
    exact ⟨rfl,rfl⟩
  · rw [h] at B
    clear h
    by_cases h8:8 ≤ r
    · go_enter Tryz.func152,Tryz.ntmps152
      go_wp2_with fail
      refine (B.out _).mono ?_
      rintro e w1 ⟨rfl,rfl⟩
      go_wp2
      go_ret
      exact ⟨retV (by simp [h8]),rfl⟩
    · have h7:r < 8:=by omega
      go_enter Tryz.func152,Tryz.ntmps152
      go_wp2_with fail
      refine (B.out _).mono ?_
      rintro e w1 ⟨rfl,rfl⟩
      go_wp2
      go_ret
      exact ⟨retV (by simp [h8]),rfl⟩
theorem hi_bif (c k:Int) (h:c / k % 2=0 ∨ c / k % 2=1):(bif (c / k % 2 != 0) then (8:Int) else 0)=hiI c k:=by
  unfold hiI
  rcases h with h | h <;> rw [h] <;> rfl
def rrV (c:Int):Value:=.tuple #[.bool (rexB c && wB c),.int .i8 (bif rexB c then hiI c 4 else 0),.int .i8 (bif rexB c then hiI c 1 else 0),.bool (rexB c)]
theorem and_ne {x y k:Int} (hk:0 < k) (h:x=y * k) (hy:y=0 ∨ y=1):(x != 0)=(y == 1):=by
  rcases hy with rfl | rfl
  · subst h;rw [Int.zero_mul];rfl
  · subst h;rw [Int.one_mul]
    have:¬ k=0:=by omega
    simp [this]
end Go.Proofs.YtbpehbeakhocnaaGreatDoor.Mrm
