import Derived.WalkKit
import Derived.Lib.Hide
import Derived.Deep.MidRow
import Derived.Laws.CopyOwn
import Derived.Deep.OwnRows
import Derived.Laws.Rows
import Derived.Test.YtigliofiojkhcaaGreatRows
import Derived.WalkSpells
import Derived.WalkLawsBesides
import Derived.Handy
import Derived.BigQuiet
import Derived.Deep.QuietTactic
import Derived.Deep.RegionHeld3
set_option linter.unusedVariables false
set_option linter.unusedSimpArgs false
set_option linter.unnecessarySimpa false
namespace Go.Proofs.YtigliofiojkhcaaGreat.Ins
open Go.RowKit
set_option linter.unusedVariables false
structure In where
  kind:Int
  op:Int
  width:Int
  size:Int
  byReg:Bool
  dst:Int
  src:Int
  off:Int
  imm:Int
def In.cells (x:In):Array Value:=#[.int .i8 x.kind,.int .i8 x.op,.int .i8 x.width,.int .i8 x.size,.bool x.byReg,.int .i8 x.dst,.int .i8 x.src,.int .i64 x.off,.int .i64 x.imm]
structure In.Ok (x:In):Prop where
  kind:-128 ≤ x.kind ∧ x.kind ≤ 127
  op:-128 ≤ x.op ∧ x.op ≤ 127
  width:-128 ≤ x.width ∧ x.width ≤ 127
  size:-128 ≤ x.size ∧ x.size ≤ 127
  dst:-128 ≤ x.dst ∧ x.dst ≤ 127
  src:-128 ≤ x.src ∧ x.src ≤ 127
  off:-9223372036854775808 ≤ x.off ∧ x.off ≤ 9223372036854775807
  imm:-9223372036854775808 ≤ x.imm ∧ x.imm ≤ 9223372036854775807
def In.nil:In:=⟨0,0,0,0,false,0,0,0,0⟩
def srcI (x:In):Int:=if x.byReg=true then x.src else 0
def immI (x:In):Int:=if x.byReg=true then 0 else x.imm
def usedI (x:In):In:=
  if x.kind=0 then (if x.op=8 then ⟨0,8,x.width,0,false,x.dst,0,0,0⟩ else ⟨0,x.op,x.width,0,x.byReg,x.dst,srcI x,0,immI x⟩)
  else if x.kind=1 then ⟨1,0,0,x.size,false,x.dst,x.src,x.off,0⟩
  else if x.kind=2 then ⟨2,0,0,x.size,false,x.dst,x.src,x.off,0⟩
  else if x.kind=3 then ⟨3,x.op,0,0,x.byReg,x.dst,srcI x,x.off,immI x⟩
  else if x.kind=4 then ⟨4,0,0,0,false,0,0,x.off,0⟩
  else if x.kind=5 then ⟨5,0,0,0,false,0,0,0,x.imm⟩
  else ⟨x.kind,0,0,0,false,0,0,0,0⟩
def eqI (x y:In):Bool:=decide (x.kind=y.kind ∧ x.op=y.op ∧ x.width=y.width ∧ x.size=y.size ∧ x.byReg=y.byReg ∧ x.dst=y.dst ∧ x.src=y.src ∧ x.off=y.off ∧ x.imm=y.imm)
theorem eqI_iff {x y:In}:eqI x y=true ↔ x=y:=by
  unfold eqI
  rw [decide_eq_true_iff]
  constructor
  · rintro ⟨a,b,c,d,e,f,g,h,i⟩
    cases x;cases y
    simp only at a b c d e f g h i
    subst a b c d e f g h i;rfl
  · rintro rfl;exact ⟨rfl,rfl,rfl,rfl,rfl,rfl,rfl,rfl,rfl⟩
def sizedI (n:Int):Bool:=decide (n=1 ∨ n=2 ∨ n=4 ∨ n=8)
def regI (r:Int):Bool:=decide (0 ≤ r ∧ r < 11)
def nearI (n:Int):Bool:=decide (-1099511627776 ≤ n ∧ n ≤ 1099511627776)
def kindI (x:In):Bool:=decide (
  (x.kind=0 ∧ 0 ≤ x.op ∧ x.op ≤ 12 ∧ (x.width=32 ∨ x.width=64) ∧ x.dst ≠ 10) ∨
  (x.kind=1 ∧ (x.size=1 ∨ x.size=2 ∨ x.size=4 ∨ x.size=8) ∧ x.dst ≠ 10) ∨
  (x.kind=2 ∧ (x.size=1 ∨ x.size=2 ∨ x.size=4 ∨ x.size=8)) ∨
  (x.kind=3 ∧ 0 ≤ x.op ∧ x.op ≤ 10) ∨
  (x.kind=5 ∧ 0 ≤ x.imm ∧ x.imm < 16) ∨ x.kind=4 ∨ x.kind=6)
def rangeI (x:In):Bool:=decide ((0 ≤ x.dst ∧ x.dst < 11) ∧ (0 ≤ x.src ∧ x.src < 11) ∧ (-32768 ≤ x.off ∧ x.off ≤ 32767) ∧ (-2147483648 ≤ x.imm ∧ x.imm ≤ 2147483647))
def fitsI (x:In):Bool:=rangeI x && kindI x
def mayI (x:In):Bool:=eqI x (usedI x) && fitsI x
theorem mayI_cases {x:In} (h:mayI x=true):
    (0 ≤ x.dst ∧ x.dst < 11) ∧ (0 ≤ x.src ∧ x.src < 11) ∧ (-32768 ≤ x.off ∧ x.off ≤ 32767) ∧ (-2147483648 ≤ x.imm ∧ x.imm ≤ 2147483647) ∧
    ((x.kind=0 ∧ (0 ≤ x.op ∧ x.op ≤ 12) ∧ (x.width=32 ∨ x.width=64) ∧ x.size=0 ∧ x.dst ≠ 10 ∧ x.off=0 ∧ ((x.byReg=true ∧ x.op ≠ 8 ∧ x.imm=0) ∨ (x.byReg=false ∧ x.src=0 ∧ (x.op=8 → x.imm=0)))) ∨
     (x.kind=1 ∧ x.op=0 ∧ x.width=0 ∧ (x.size=1 ∨ x.size=2 ∨ x.size=4 ∨ x.size=8) ∧ x.byReg=false ∧ x.dst ≠ 10 ∧ x.imm=0) ∨
     (x.kind=2 ∧ x.op=0 ∧ x.width=0 ∧ (x.size=1 ∨ x.size=2 ∨ x.size=4 ∨ x.size=8) ∧ x.byReg=false ∧ x.imm=0) ∨
     (x.kind=3 ∧ (0 ≤ x.op ∧ x.op ≤ 10) ∧ x.width=0 ∧ x.size=0 ∧ ((x.byReg=true ∧ x.imm=0) ∨ (x.byReg=false ∧ x.src=0))) ∨
     (x.kind=4 ∧ x.op=0 ∧ x.width=0 ∧ x.size=0 ∧ x.byReg=false ∧ x.dst=0 ∧ x.src=0 ∧ x.imm=0) ∨
     (x.kind=5 ∧ x.op=0 ∧ x.width=0 ∧ x.size=0 ∧ x.byReg=false ∧ x.dst=0 ∧ x.src=0 ∧ x.off=0 ∧ (0 ≤ x.imm ∧ x.imm < 16)) ∨
     (x.kind=6 ∧ x.op=0 ∧ x.width=0 ∧ x.size=0 ∧ x.byReg=false ∧ x.dst=0 ∧ x.src=0 ∧ x.off=0 ∧ x.imm=0)):=by
  unfold mayI fitsI rangeI kindI at h
  rw [Bool.and_eq_true,Bool.and_eq_true,decide_eq_true_iff,decide_eq_true_iff] at h
  obtain ⟨h1,h2,h3⟩:=h
  refine ⟨h2.1,h2.2.1,h2.2.2.1,h2.2.2.2,?_⟩
  unfold eqI at h1
  rw [decide_eq_true_iff] at h1
  unfold usedI srcI immI at h1
  rcases h3 with ⟨k,h3⟩ | ⟨k,h3⟩ | ⟨k,h3⟩ | ⟨k,h3⟩ | ⟨k,h3⟩ | k | k
  · left
    rw [if_pos k] at h1
    by_cases h8:x.op=8
    · rw [if_pos h8] at h1
      obtain ⟨a,b,c,d,e,f,g,i,j⟩:=h1
      exact ⟨k,⟨by omega,by omega⟩,h3.2.2.1,d,h3.2.2.2,i,.inr ⟨e,g,fun _=>j⟩⟩
    · rw [if_neg h8] at h1
      obtain ⟨a,b,c,d,e,f,g,i,j⟩:=h1
      refine ⟨k,⟨by omega,by omega⟩,h3.2.2.1,d,h3.2.2.2,i,?_⟩
      cases hb:x.byReg
      · rw [hb] at g;exact .inr ⟨rfl,g,fun h=>absurd h h8⟩
      · rw [hb] at j;exact .inl ⟨rfl,h8,j⟩
  · right;left
    rw [if_neg (by omega),if_pos k] at h1
    obtain ⟨a,b,c,d,e,f,g,i,j⟩:=h1
    exact ⟨k,b,c,h3.1,e,h3.2,j⟩
  · right;right;left
    rw [if_neg (by omega),if_neg (by omega),if_pos k] at h1
    obtain ⟨a,b,c,d,e,f,g,i,j⟩:=h1
    exact ⟨k,b,c,h3,e,j⟩
  · right;right;right;left
    rw [if_neg (by omega),if_neg (by omega),if_neg (by omega),if_pos k] at h1
    obtain ⟨a,b,c,d,e,f,g,i,j⟩:=h1
    refine ⟨k,h3,c,d,?_⟩
    cases hb:x.byReg
    · rw [hb] at g;exact .inr ⟨rfl,g⟩
    · rw [hb] at j;exact .inl ⟨rfl,j⟩
  · right;right;right;right;right;left
    rw [if_neg (by omega),if_neg (by omega),if_neg (by omega),if_neg (by omega),if_neg (by omega),if_pos k] at h1
    obtain ⟨a,b,c,d,e,f,g,i,j⟩:=h1
    exact ⟨k,b,c,d,e,f,g,i,h3⟩
  · right;right;right;right;left
    rw [if_neg (by omega),if_neg (by omega),if_neg (by omega),if_neg (by omega),if_pos k] at h1
    obtain ⟨a,b,c,d,e,f,g,i,j⟩:=h1
    exact ⟨k,b,c,d,e,f,g,j⟩
  · right;right;right;right;right;right
    rw [if_neg (by omega),if_neg (by omega),if_neg (by omega),if_neg (by omega),if_neg (by omega),if_neg (by omega)] at h1
    obtain ⟨a,b,c,d,e,f,g,i,j⟩:=h1
    exact ⟨k,b,c,d,e,f,g,i,j⟩
end Go.Proofs.YtigliofiojkhcaaGreat.Ins
namespace Go.Proofs.YtigliofiojkhcaaGreat
open Go Go.RowKit
set_option linter.unusedVariables false
variable {P:Program}
structure Stored (w:World) (g:Nat) (cells:Array Value) (t:TypeId) (w':World):Prop where
  os:w'.os=w.os
  tape:w'.tape=w.tape
  output:w'.output=w.output
  size:w'.heap.size=w.heap.size
  row:w'.heap[g]?=some (.cells cells t (0,0))
  other:∀ k,k ≠ g → w'.heap[k]?=w.heap[k]?
theorem stored_setRow (w:World) (g:Nat) (cs old:Array Value) (t:TypeId) (hg:w.heap[g]?=some (.cells old t (0,0))):Stored w g cs t (w.setRow g cs):=
  ⟨rfl,rfl,rfl,by simp [World.setRow],setRow_heap w g _ _ t _ hg,fun k hk=>setRow_other w g k cs hk⟩
theorem Stored.below {w w0 w':World} {g:Nat} {cells:Array Value} {t:TypeId} (h:Stored w g cells t w') {B:Nat} (hb:Below B w0 w) (hB:B ≤ g):Below B w0 w':=
  hb.trans ⟨h.os,h.tape,h.output,by rw [h.size];exact Nat.le_refl _,fun k hk=>h.other k (by omega)⟩
theorem Stored.cell {w w':World} {g:Nat} {cells:Array Value} {t:TypeId} (h:Stored w g cells t w') (i:Nat):w'.cell? ⟨g,i,none⟩=cells[i]?:=by
  simp [World.cell?,h.row]
theorem Stored.frozen {w w':World} {g:Nat} {cells:Array Value} {t:TypeId} (h:Stored w g cells t w') (i:Nat):w'.frozen? ⟨g,i,none⟩=false:=by
  simp [World.frozen?,h.row]
theorem Stored.cellOther {w w':World} {g:Nat} {cells:Array Value} {t:TypeId} (h:Stored w g cells t w') {k:Nat} (hk:k ≠ g) (i:Nat):w'.cell? ⟨k,i,none⟩=w.cell? ⟨k,i,none⟩:=by
  simp [World.cell?,h.other k hk]
theorem wpList_store_is {ops:Array Oper} {rest:List Oper} {o:Oper} {a:Act} {w:World} {Q:Exit → Act → World → Prop} (hgd:o.guard=none) (ty:TypeId) (x y:Operand) (ho:o.op=.store ty x y)
    (g:Nat) (cells:Array Value) (hx:a.eval x=.pointer (some ⟨g,0,none⟩)) (hy:a.eval y=.agg cells)
    (t:TypeId) (old:Array Value) (hg:w.heap[g]?=some (.cells old t (0,0))) (hi:(P.info? ty).map (·.size)=some cells.size)
    (hold:old.size=cells.size) (h1:cells.all (·.oneCell')=true)
    (h:∀ w',Stored w g cells t w' → wpList P ops Q rest (a.put o.dst undef) w'):wpList P ops Q (o :: rest) a w:=
  wpList_store_row hgd ty x y ho g cells hx hy t old hg hi hold h1 (h _ (stored_setRow w g cells old t hg))
theorem upon_store_is {o:Oper} {a:Act} {w:World} {K:Act → World → Prop} {Q:Exit → Act → World → Prop} (g:Nat) (cells:Array Value) (t:TypeId) (old:Array Value)
    (hg:w.heap[g]?=some (.cells old t (0,0))) (hold:old.size=cells.size) (h1:cells.all (·.oneCell')=true)
    (h:∀ w',Stored w g cells t w' → K (a.put o.dst undef) w'):o.upon P a K Q (((storeCells ⟨g,0,none⟩ cells.toList).run P w).andThen fun _ w'=>.ok Next.skip w'):=by
  have:=run_storeCells_from (P:=P) g t cells.toList 0 old w hg (by simp;omega) (fun v hv=>(Array.all_eq_true_iff_forall_mem.1 h1) v (by simpa using hv))
  rw [this]
  have e:((old.toList.take 0) ++ cells.toList).toArray=cells:=by simp
  rw [e,Result.andThen_ok,Oper.upon_skip]
  exact h _ (stored_setRow w g cells old t hg)
theorem below_new {W w:World} (h:Below W.heap.size W w) (o:Obj):Below W.heap.size W (w.alloc o):=h.alloc h.size o
theorem below_call {W w w1:World} (h:Below W.heap.size W w) (b:Below w.heap.size w w1):Below W.heap.size W w1:=h.trans (b.mono h.size)
theorem wpList_build_is {ops:Array Oper} {rest:List Oper} {o:Oper} {a:Act} {w:World} {Q:Exit → Act → World → Prop} (hg:o.guard=none) (t:TypeId) (parts:Array (Nat × Operand)) (ho:o.op=.build t parts)
    (cells:Array Value) (hf:P.built t (parts.map fun (i,x)=>(i,a.eval x)).toList=some cells)
    (h:wpList P ops Q rest (a.put o.dst (.agg cells)) w):wpList P ops Q (o :: rest) a w:=
  wpList_build hg t parts ho (by rw [hf];rfl) (by rw [hf];exact h)
theorem heap_last (w:World) (o:Obj) (k:Nat) (h:k=w.heap.size):(w.alloc o).heap[k]?=some o:=by subst h;exact heap_alloc_new w o
theorem heap_past (w:World) (o:Obj) (k:Nat) (h:k < w.heap.size):(w.alloc o).heap[k]?=w.heap[k]?:=Deep.blk_alloc_lt w o k h
theorem size_alloc (w:World) (o:Obj):(w.alloc o).heap.size=w.heap.size + 1:=Deep.nblk_alloc w o
theorem setCell_row {w:World} {g:Nat} {cs:Array Value} {t:TypeId} {fr:Nat × Nat} (h:w.heap[g]?=some (.cells cs t fr)) (i:Nat) (v:Value):
    (w.setCell ⟨g,i,none⟩ v).heap[g]?=some (.cells (cs.setIfInBounds i v) t fr):=by
  simp [World.setCell,Array.getElem?_modify,h]
theorem setCell_past (w:World) (a:Addr) (v:Value) (k:Nat) (h:k ≠ a.block):(w.setCell a v).heap[k]?=w.heap[k]?:=Deep.blk_setCell_other w a v k h
theorem stored_setCell {w:World} {g:Nat} {cs:Array Value} {t:TypeId} (h:w.heap[g]?=some (.cells cs t (0,0))) (i:Nat) (v:Value):Stored w g (cs.setIfInBounds i v) t (w.setCell ⟨g,i,none⟩ v):=
  ⟨rfl,rfl,rfl,Deep.nblk_setCell _ _ _,setCell_row h i v,fun k hk=>setCell_past _ _ _ _ hk⟩
theorem wpList_store_cell {ops:Array Oper} {rest:List Oper} {o:Oper} {a:Act} {w:World} {Q:Exit → Act → World → Prop} (hgd:o.guard=none) (ty:TypeId) (x y:Operand) (ho:o.op=.store ty x y)
    (g i:Nat) (v:Value) (hx:a.eval x=.pointer (some ⟨g,i,none⟩)) (hy:a.eval y=v) (hv:v.cells=#[v]) (h1:v.oneCell'=true)
    (t:TypeId) (cells:Array Value) (hg:w.heap[g]?=some (.cells cells t (0,0))) (hi:(P.info? ty).map (·.size)=some 1) (hlt:i < cells.size)
    (h:∀ w',Stored w g (cells.setIfInBounds i v) t w' → wpList P ops Q rest (a.put o.dst undef) w'):wpList P ops Q (o :: rest) a w:=by
  refine wpList_plain hgd fun _ hK=>?_
  unfold Oper.wp execOp
  have e:∀ p,storeVar ty p v=storeVar ty p (.agg #[v]):=fun p=>by unfold storeVar;rw [hv];rfl
  have ht:w.there g i (#[v]:Array Value).size:=fun j hj=>by
    have:j=0:=by simpa using hj
    subst this
    exact ⟨by simp [World.cell?,hg,hlt],by simp [World.frozen?,hg]⟩
  simp only [ho,hx,hy,Instr.storeAt,Instr.sureAddr,Sem.run_bind,Sem.run_pure,Result.andThen_ok,e,run_storeVar_mid w g i ty #[v] ht hi (by simp [h1])]
  exact hK _ _ (h _ (stored_setCell hg i v))
theorem stored_self {w:World} {g:Nat} {cs:Array Value} {t:TypeId} (h:w.heap[g]?=some (.cells cs t (0,0))):Stored w g cs t w:=⟨rfl,rfl,rfl,rfl,h,fun _ _=>rfl⟩
theorem splice_get {α:Type} (L:List α) (off:Nat) (cs:List α) (h:off + cs.length ≤ L.length) (i:Nat):(splice L off cs)[i]?=if i < off then L[i]? else if i < off + cs.length then cs[i - off]? else L[i]?:=by
  unfold splice
  by_cases h1:i < off
  · rw [if_pos h1,List.getElem?_append_left (by simp;omega),List.getElem?_take_of_lt h1]
  · rw [if_neg h1,List.getElem?_append_right (by simp;omega)]
    have e:(L.take off).length=off:=by simp;omega
    rw [e]
    by_cases h2:i < off + cs.length
    · rw [if_pos h2,List.getElem?_append_left (by omega)]
    · rw [if_neg h2,List.getElem?_append_right (by omega),List.getElem?_drop]
      congr 1;omega
theorem wpList_copy_is {w:World} {ops:Array Oper} {rest:List Oper} {o:Oper} {a:Act} {Q:Exit → Act → World → Prop} (hgd:o.guard=none) (d s:Operand) (dT sT:TypeId)
    (ho:o.op=.call { callee:=.builtin .copy,args:=#[d,s],argTypes:=#[dT,sT] }) (elem:TypeId) (hu:P.underlying dT=some (.slice elem)) (hsz:(P.info? elem).map (·.size)=some 1)
    (dp sp:Option Addr) (dLen dCap sLen sCap:Nat) (hd:a.eval d=.slice dp dLen dCap) (hs:a.eval s=.slice sp sLen sCap)
    (g off:Nat) (cur:List Value) (t:TypeId) (hg:w.heap[g]?=some (.cells cur.toArray t (0,0))) (cs:List Value) (hn:cs.length=Nat.min sLen dLen)
    (hpos:0 < cs.length → dp=some ⟨g,off,none⟩ ∧ ∃ ad,sp=some ad ∧ ∀ j v,cs[j]?=some v → w.cell? (ad.add j)=some v)
    (hfit:off + cs.length ≤ cur.length) (h1:∀ v ∈ cs,v.oneCell'=true)
    (h:∀ w',Stored w g (splice cur off cs).toArray t w' → wpList P ops Q rest (a.put o.dst (goInt cs.length)) w'):
    wpList P ops Q (o :: rest) a w:=by
  by_cases h0:cs.length=0
  · obtain rfl:cs=[]:=List.eq_nil_of_length_eq_zero h0
    refine wpList_copy_nothing hgd d s dT sT ho elem hu hsz dp sp dLen dCap sLen sCap hd hs (by simpa using hn.symm) ?_
    exact h w (by have e:splice cur off []=cur:=by simp [splice]
                  rw [e];exact stored_self hg)
  · obtain ⟨rfl,ad,rfl,hsrc⟩:=hpos (by omega)
    refine wpList_copy_own hgd d s dT sT ho elem hu hsz g off dLen dCap ad sLen sCap hd hs cur.toArray t hg cs hn hsrc (by simpa using hfit) h1 ?_
    exact h _ (stored_setRow w g _ _ t hg)
theorem halt_store {ops:Array Oper} {rest:List Oper} {o:Oper} {a:Act} {w:World} {Q:Exit → Act → World → Prop} (ty:TypeId) (x y:Operand) (ho:o.op=.store ty x y)
    (h:wpList P ops Q (o :: rest) a w ∧ True):wpList P ops Q (o :: rest) a w:=h.1
theorem halt_load {ops:Array Oper} {rest:List Oper} {o:Oper} {a:Act} {w:World} {Q:Exit → Act → World → Prop} (ty:TypeId) (x:Operand) (ho:o.op=.load ty x)
    (h:wpList P ops Q (o :: rest) a w ∧ True):wpList P ops Q (o :: rest) a w:=h.1
theorem halt_build {ops:Array Oper} {rest:List Oper} {o:Oper} {a:Act} {w:World} {Q:Exit → Act → World → Prop} (ty:TypeId) (x:Array (Nat × Operand)) (ho:o.op=.build ty x)
    (h:wpList P ops Q (o :: rest) a w ∧ True):wpList P ops Q (o :: rest) a w:=h.1
end Go.Proofs.YtigliofiojkhcaaGreat
namespace Go.Proofs.YtigliofiojkhcaaGreat.Ins
open Go.RowKit
set_option linter.unusedVariables false
theorem retB {a b:Bool} (h:a=b):Ending.returned (.bool a)=.returned (.bool b):=by rw [h]
theorem retI {k:IntKind} {a b:Int} (h:a=b):Ending.returned (.int k a)=.returned (.int k b):=by rw [h]
theorem below_drewN {B:Nat} {W w:World} (h:Below B W w):∀ n,Below B W (w.drewN n)
  | 0=>h
  | n + 1=>(below_drewN h n).drew
theorem register_any (r:Int) (W:World):Calls Tryz.prog 118 #[.int .i8 r] W fun e w'=>e=.returned (.bool (regI r)) ∧ W=w':=by
  by_cases h0:0 ≤ r
  · by_cases h1:r < 11
    · rw [show regI r=true from decide_eq_true ⟨h0,h1⟩]
      go_enter Tryz.func118,Tryz.ntmps118
      go_wp2
      go_ret
      exact ⟨rfl,rfl⟩
    · rw [show regI r=false from decide_eq_false (by omega)]
      go_enter Tryz.func118,Tryz.ntmps118
      go_wp2
      go_ret
      exact ⟨rfl,rfl⟩
  · rw [show regI r=false from decide_eq_false (by omega)]
    go_enter Tryz.func118,Tryz.ntmps118
    go_wp2
    go_ret
    exact ⟨rfl,rfl⟩
theorem near_any (r:Int) (W:World):Calls Tryz.prog 92 #[.int .i64 r] W fun e w'=>e=.returned (.bool (nearI r)) ∧ W=w':=by
  by_cases h0:-1099511627776 ≤ r
  · by_cases h1:r ≤ 1099511627776
    · rw [show nearI r=true from decide_eq_true ⟨h0,h1⟩]
      go_enter Tryz.func92,Tryz.ntmps92
      go_wp2
      go_ret
      exact ⟨rfl,rfl⟩
    · rw [show nearI r=false from decide_eq_false (by omega)]
      go_enter Tryz.func92,Tryz.ntmps92
      go_wp2
      go_ret
      exact ⟨rfl,rfl⟩
  · rw [show nearI r=false from decide_eq_false (by omega)]
    go_enter Tryz.func92,Tryz.ntmps92
    go_wp2
    go_ret
    exact ⟨rfl,rfl⟩
theorem sized_any (n:Int) (W:World):Calls Tryz.prog 119 #[.int .i8 n] W fun e w'=>e=.returned (.bool (sizedI n)) ∧ W=w':=by
  have E:=Lib.hid (show (n == 1 || n == 2 || n == 4 || n == 8)=sizedI n by unfold sizedI;rw [Bool.eq_iff_iff,decide_eq_true_iff];simp [or_assoc])
  go_enter Tryz.func119,Tryz.ntmps119
  go_wp2
  all_goals
    go_ret
    exact ⟨retB (by rw [← E.out];try simp [*]),rfl⟩
theorem operand_any (x:In) (W:World):Calls Tryz.prog 117 #[.agg x.cells] W fun e w'=>e=.returned (.tuple #[.bool x.byReg,.int .i8 (srcI x),.int .i64 (immI x)]) ∧ Below W.heap.size W w':=by
  unfold In.cells srcI immI
  cases x.byReg
  · go_enter Tryz.func117,Tryz.ntmps117
    go_wp2
    go_quiet (fail)
    go_wp2
    go_ret3
    exact ⟨rfl,below_drewN ((Below.refl _ _).alloc (Nat.le_refl _) _) _⟩
  · go_enter Tryz.func117,Tryz.ntmps117
    go_wp2
    go_quiet (fail)
    go_wp2
    go_ret3
    exact ⟨rfl,below_drewN ((Below.refl _ _).alloc (Nat.le_refl _) _) _⟩
theorem bcell {W w1:World} (hb:Below W.heap.size W w1):(∀ b o,b < W.heap.size → w1.cell? ⟨b,o,none⟩=W.cell? ⟨b,o,none⟩) ∧ (∀ b o,b < W.heap.size → w1.frozen? ⟨b,o,none⟩=W.frozen? ⟨b,o,none⟩):=
  ⟨fun b o h=>hb.cell (p:=⟨b,o,none⟩) h,fun b o h=>hb.frozen (p:=⟨b,o,none⟩) h⟩
set_option maxRecDepth 100000 in
set_option maxHeartbeats 1000000 in
theorem used_0 (op width size:Int) (byReg:Bool) (dst src off imm:Int) (W:World) (hk:¬ op=8):
    Calls Tryz.prog 96 #[.agg (In.mk 0 op width size byReg dst src off imm).cells] W fun e w'=>e=.returned (.agg #[.int .i8 0,.int .i8 op,.int .i8 width,.int .i8 0,.bool byReg,.int .i8 dst,.int .i8 (srcI (In.mk 0 op width size byReg dst src off imm)),.int .i64 0,.int .i64 (immI (In.mk 0 op width size byReg dst src off imm))]) ∧ Below W.heap.size W w':=by
  have OP:=Lib.hid (operand_any (In.mk 0 op width size byReg dst src off imm))
  generalize hs:srcI (In.mk 0 op width size byReg dst src off imm)=s at *
  generalize hi:immI (In.mk 0 op width size byReg dst src off imm)=m at *
  clear hs hi
  have h8:(op != 8)=true:=by simpa using hk
  unfold In.cells at *
  simp only at *
  go_enter Tryz.func96,Tryz.ntmps96
  go_wp2
  go_region_held3 (fun w'=>w'.cell? ⟨W.heap.size,1,none⟩=some (.int .i8 op) ∧ w'.cell? ⟨W.heap.size,2,none⟩=some (.int .i8 width) ∧ w'.cell? ⟨W.heap.size,5,none⟩=some (.int .i8 dst)) ((refine ⟨?_,?_,?_⟩ <;> go_simp)) (fail)
  go_wp2_with fail
  refine (OP.out _).mono ?_
  rintro e w1 ⟨rfl,b1⟩
  have hz:=b1.size
  obtain ⟨hc,hf⟩:=bcell b1
  simp at hz
  have B1:=Lib.hid b1;clear b1
  go_wp2_with fail
  refine bodyPost_ret (v:=.agg #[.int .i8 0,.int .i8 op,.int .i8 width,.int .i8 0,.bool byReg,.int .i8 dst,.int .i8 s,.int .i64 0,.int .i64 m]) (by simp [results,Tryz.results96,go_sem,hc]) rfl ⟨rfl,?_⟩
  repeat (refine Below.setCell ?_ (by simp only;omega) _)
  refine below_call ?_ B1.out
  repeat (first | exact Below.refl _ _ | refine Below.drew ?_ | refine below_new ?_ _)
set_option maxRecDepth 100000 in
set_option maxHeartbeats 1000000 in
theorem used_0n (width size:Int) (byReg:Bool) (dst src off imm:Int) (W:World):
    Calls Tryz.prog 96 #[.agg (In.mk 0 8 width size byReg dst src off imm).cells] W fun e w'=>e=.returned (.agg #[.int .i8 0,.int .i8 8,.int .i8 width,.int .i8 0,.bool false,.int .i8 dst,.int .i8 0,.int .i64 0,.int .i64 0]) ∧ Below W.heap.size W w':=by
  unfold In.cells at *
  simp only at *
  go_enter Tryz.func96,Tryz.ntmps96
  go_wp2
  go_region_held3 (fun w'=>w'.cell? ⟨W.heap.size,1,none⟩=some (.int .i8 8) ∧ w'.cell? ⟨W.heap.size,2,none⟩=some (.int .i8 width) ∧ w'.cell? ⟨W.heap.size,5,none⟩=some (.int .i8 dst)) ((refine ⟨?_,?_,?_⟩ <;> go_simp)) (fail)
  go_wp2_with fail
  refine bodyPost_ret (v:=.agg #[.int .i8 0,.int .i8 8,.int .i8 width,.int .i8 0,.bool false,.int .i8 dst,.int .i8 0,.int .i64 0,.int .i64 0]) (by simp [results,Tryz.results96,go_sem]) rfl ⟨rfl,?_⟩
  repeat (refine Below.setCell ?_ (by simp only;omega) _)
  repeat (first | exact Below.refl _ _ | refine Below.drew ?_ | refine below_new ?_ _)
set_option maxRecDepth 100000 in
set_option maxHeartbeats 1000000 in
theorem used_12 (kind op width size:Int) (byReg:Bool) (dst src off imm:Int) (W:World) (hk:kind=1 ∨ kind=2):
    Calls Tryz.prog 96 #[.agg (In.mk kind op width size byReg dst src off imm).cells] W fun e w'=>e=.returned (.agg #[.int .i8 kind,.int .i8 0,.int .i8 0,.int .i8 size,.bool false,.int .i8 dst,.int .i8 src,.int .i64 off,.int .i64 0]) ∧ Below W.heap.size W w':=by
  unfold In.cells at *
  simp only at *
  rcases hk with rfl | rfl
  · go_enter Tryz.func96,Tryz.ntmps96
    go_wp2
    go_region_held3 (fun w'=>w'.cell? ⟨W.heap.size,3,none⟩=some (.int .i8 size) ∧ w'.cell? ⟨W.heap.size,5,none⟩=some (.int .i8 dst) ∧ w'.cell? ⟨W.heap.size,6,none⟩=some (.int .i8 src) ∧ w'.cell? ⟨W.heap.size,7,none⟩=some (.int .i64 off)) ((refine ⟨?_,?_,?_,?_⟩ <;> go_simp)) (fail)
    go_wp2_with fail
    refine bodyPost_ret (v:=.agg #[.int .i8 1,.int .i8 0,.int .i8 0,.int .i8 size,.bool false,.int .i8 dst,.int .i8 src,.int .i64 off,.int .i64 0]) (by simp [results,Tryz.results96,go_sem]) rfl ⟨rfl,?_⟩
    repeat (refine Below.setCell ?_ (by simp only;omega) _)
    repeat (first | exact Below.refl _ _ | refine Below.drew ?_ | refine below_new ?_ _)
  · go_enter Tryz.func96,Tryz.ntmps96
    go_wp2
    go_region_held3 (fun w'=>w'.cell? ⟨W.heap.size,3,none⟩=some (.int .i8 size) ∧ w'.cell? ⟨W.heap.size,5,none⟩=some (.int .i8 dst) ∧ w'.cell? ⟨W.heap.size,6,none⟩=some (.int .i8 src) ∧ w'.cell? ⟨W.heap.size,7,none⟩=some (.int .i64 off)) ((refine ⟨?_,?_,?_,?_⟩ <;> go_simp)) (fail)
    go_wp2_with fail
    refine bodyPost_ret (v:=.agg #[.int .i8 2,.int .i8 0,.int .i8 0,.int .i8 size,.bool false,.int .i8 dst,.int .i8 src,.int .i64 off,.int .i64 0]) (by simp [results,Tryz.results96,go_sem]) rfl ⟨rfl,?_⟩
    repeat (refine Below.setCell ?_ (by simp only;omega) _)
    repeat (first | exact Below.refl _ _ | refine Below.drew ?_ | refine below_new ?_ _)
set_option maxRecDepth 100000 in
set_option maxHeartbeats 1000000 in
theorem used_3 (op width size:Int) (byReg:Bool) (dst src off imm:Int) (W:World):
    Calls Tryz.prog 96 #[.agg (In.mk 3 op width size byReg dst src off imm).cells] W fun e w'=>e=.returned (.agg #[.int .i8 3,.int .i8 op,.int .i8 0,.int .i8 0,.bool byReg,.int .i8 dst,.int .i8 (srcI (In.mk 3 op width size byReg dst src off imm)),.int .i64 off,.int .i64 (immI (In.mk 3 op width size byReg dst src off imm))]) ∧ Below W.heap.size W w':=by
  have OP:=Lib.hid (operand_any (In.mk 3 op width size byReg dst src off imm))
  generalize hs:srcI (In.mk 3 op width size byReg dst src off imm)=s at *
  generalize hi:immI (In.mk 3 op width size byReg dst src off imm)=m at *
  clear hs hi
  unfold In.cells at *
  simp only at *
  go_enter Tryz.func96,Tryz.ntmps96
  go_wp2
  go_region_held3 (fun w'=>w'.cell? ⟨W.heap.size,1,none⟩=some (.int .i8 op) ∧ w'.cell? ⟨W.heap.size,7,none⟩=some (.int .i64 off) ∧ w'.cell? ⟨W.heap.size,5,none⟩=some (.int .i8 dst)) ((refine ⟨?_,?_,?_⟩ <;> go_simp)) (fail)
  go_wp2_with fail
  refine (OP.out _).mono ?_
  rintro e w1 ⟨rfl,b1⟩
  have hz:=b1.size
  obtain ⟨hc,hf⟩:=bcell b1
  simp at hz
  have B1:=Lib.hid b1;clear b1
  go_wp2_with fail
  refine bodyPost_ret (v:=.agg #[.int .i8 3,.int .i8 op,.int .i8 0,.int .i8 0,.bool byReg,.int .i8 dst,.int .i8 s,.int .i64 off,.int .i64 m]) (by simp [results,Tryz.results96,go_sem,hc]) rfl ⟨rfl,?_⟩
  repeat (refine Below.setCell ?_ (by simp only;omega) _)
  refine below_call ?_ B1.out
  repeat (first | exact Below.refl _ _ | refine Below.drew ?_ | refine below_new ?_ _)
set_option maxRecDepth 100000 in
set_option maxHeartbeats 1000000 in
theorem used_4 (op width size:Int) (byReg:Bool) (dst src off imm:Int) (W:World):
    Calls Tryz.prog 96 #[.agg (In.mk 4 op width size byReg dst src off imm).cells] W fun e w'=>e=.returned (.agg #[.int .i8 4,.int .i8 0,.int .i8 0,.int .i8 0,.bool false,.int .i8 0,.int .i8 0,.int .i64 off,.int .i64 0]) ∧ Below W.heap.size W w':=by
  unfold In.cells at *
  simp only at *
  go_enter Tryz.func96,Tryz.ntmps96
  go_wp2
  refine bodyPost_ret (v:=.agg #[.int .i8 4,.int .i8 0,.int .i8 0,.int .i8 0,.bool false,.int .i8 0,.int .i8 0,.int .i64 off,.int .i64 0]) (by simp [results,Tryz.results96,go_sem]) rfl ⟨rfl,?_⟩
  repeat (refine Below.setCell ?_ (by simp only;omega) _)
  repeat (first | exact Below.refl _ _ | refine Below.drew ?_ | refine below_new ?_ _)
set_option maxRecDepth 100000 in
set_option maxHeartbeats 1000000 in
theorem used_5 (op width size:Int) (byReg:Bool) (dst src off imm:Int) (W:World):
    Calls Tryz.prog 96 #[.agg (In.mk 5 op width size byReg dst src off imm).cells] W fun e w'=>e=.returned (.agg #[.int .i8 5,.int .i8 0,.int .i8 0,.int .i8 0,.bool false,.int .i8 0,.int .i8 0,.int .i64 0,.int .i64 imm]) ∧ Below W.heap.size W w':=by
  unfold In.cells at *
  simp only at *
  go_enter Tryz.func96,Tryz.ntmps96
  go_wp2
  refine bodyPost_ret (v:=.agg #[.int .i8 5,.int .i8 0,.int .i8 0,.int .i8 0,.bool false,.int .i8 0,.int .i8 0,.int .i64 0,.int .i64 imm]) (by simp [results,Tryz.results96,go_sem]) rfl ⟨rfl,?_⟩
  repeat (refine Below.setCell ?_ (by simp only;omega) _)
  repeat (first | exact Below.refl _ _ | refine Below.drew ?_ | refine below_new ?_ _)
set_option maxRecDepth 100000 in
set_option maxHeartbeats 1000000 in
theorem used_x (kind op width size:Int) (byReg:Bool) (dst src off imm:Int) (W:World) (h0:¬ kind=0) (h1:¬ kind=1) (h2:¬ kind=2) (h3:¬ kind=3) (h4:¬ kind=4) (h5:¬ kind=5):
    Calls Tryz.prog 96 #[.agg (In.mk kind op width size byReg dst src off imm).cells] W fun e w'=>e=.returned (.agg #[.int .i8 kind,.int .i8 0,.int .i8 0,.int .i8 0,.bool false,.int .i8 0,.int .i8 0,.int .i64 0,.int .i64 0]) ∧ Below W.heap.size W w':=by
  unfold In.cells at *
  simp only at *
  go_enter Tryz.func96,Tryz.ntmps96
  go_wp2
  refine bodyPost_ret (v:=.agg #[.int .i8 kind,.int .i8 0,.int .i8 0,.int .i8 0,.bool false,.int .i8 0,.int .i8 0,.int .i64 0,.int .i64 0]) (by simp [results,Tryz.results96,go_sem]) rfl ⟨rfl,?_⟩
  repeat (refine Below.setCell ?_ (by simp only;omega) _)
  repeat (first | exact Below.refl _ _ | refine Below.drew ?_ | refine below_new ?_ _)
theorem used_any (x:In) (W:World):Calls Tryz.prog 96 #[.agg x.cells] W fun e w'=>e=.returned (.agg (usedI x).cells) ∧ Below W.heap.size W w':=by
  obtain ⟨kind,op,width,size,byReg,dst,src,off,imm⟩:=x
  by_cases h0:kind=0
  · subst h0
    by_cases h8:op=8
    · subst h8;exact used_0n width size byReg dst src off imm W
    · have e:usedI (In.mk 0 op width size byReg dst src off imm)=⟨0,op,width,0,byReg,dst,srcI (In.mk 0 op width size byReg dst src off imm),0,immI (In.mk 0 op width size byReg dst src off imm)⟩:=by
        unfold usedI;rw [if_pos rfl,if_neg h8]
      rw [e];exact used_0 op width size byReg dst src off imm W h8
  by_cases h1:kind=1
  · subst h1;exact used_12 1 op width size byReg dst src off imm W (.inl rfl)
  by_cases h2:kind=2
  · subst h2;exact used_12 2 op width size byReg dst src off imm W (.inr rfl)
  by_cases h3:kind=3
  · subst h3;exact used_3 op width size byReg dst src off imm W
  by_cases h4:kind=4
  · subst h4;exact used_4 op width size byReg dst src off imm W
  by_cases h5:kind=5
  · subst h5;exact used_5 op width size byReg dst src off imm W
  have e:usedI (In.mk kind op width size byReg dst src off imm)=⟨kind,0,0,0,false,0,0,0,0⟩:=by
    unfold usedI;rw [if_neg h0,if_neg h1,if_neg h2,if_neg h3,if_neg h4,if_neg h5]
  rw [e];exact used_x kind op width size byReg dst src off imm W h0 h1 h2 h3 h4 h5
end Go.Proofs.YtigliofiojkhcaaGreat.Ins
namespace Go.Proofs.YtigliofiojkhcaaGreat.Ins
open Go.RowKit
set_option linter.unusedVariables false
theorem reg_t (r:Int) (W:World) (h:regI r=true):Calls Tryz.prog 118 #[.int .i8 r] W fun e w'=>e=.returned (.bool true) ∧ W=w':=by
  have:=register_any r W;rw [h] at this;exact this
theorem reg_f (r:Int) (W:World) (h:regI r=false):Calls Tryz.prog 118 #[.int .i8 r] W fun e w'=>e=.returned (.bool false) ∧ W=w':=by
  have:=register_any r W;rw [h] at this;exact this
theorem sized_t (n:Int) (W:World) (h:n=1 ∨ n=2 ∨ n=4 ∨ n=8):Calls Tryz.prog 119 #[.int .i8 n] W fun e w'=>e=.returned (.bool true) ∧ W=w':=by
  have:=sized_any n W;rw [show sizedI n=true from decide_eq_true h] at this;exact this
theorem sized_f (n:Int) (W:World) (h:¬ (n=1 ∨ n=2 ∨ n=4 ∨ n=8)):Calls Tryz.prog 119 #[.int .i8 n] W fun e w'=>e=.returned (.bool false) ∧ W=w':=by
  have:=sized_any n W;rw [show sizedI n=false from decide_eq_false h] at this;exact this
theorem i16_in {n:Int} (h:-32768 ≤ n ∧ n ≤ 32767):wrap64 (IntKind.i16.wrap n)=n:=by
  have e:IntKind.i16.wrap n=n:=by simp [IntKind.wrap,IntKind.signed,IntKind.bits];omega
  rw [e];unfold wrap64;omega
theorem i16_out {n:Int} (h:¬ (-32768 ≤ n ∧ n ≤ 32767)):¬ wrap64 (IntKind.i16.wrap n)=n:=by
  have e:-32768 ≤ IntKind.i16.wrap n ∧ IntKind.i16.wrap n ≤ 32767:=by simp [IntKind.wrap,IntKind.signed,IntKind.bits];omega
  intro h'
  have:wrap64 (IntKind.i16.wrap n)=IntKind.i16.wrap n:=by unfold wrap64;omega
  omega
theorem i32_in {n:Int} (h:-2147483648 ≤ n ∧ n ≤ 2147483647):wrap64 (wrap32 n)=n:=by unfold wrap64 wrap32;omega
theorem i32_out {n:Int} (h:¬ (-2147483648 ≤ n ∧ n ≤ 2147483647)):¬ wrap64 (wrap32 n)=n:=by unfold wrap64 wrap32;omega
end Go.Proofs.YtigliofiojkhcaaGreat.Ins
