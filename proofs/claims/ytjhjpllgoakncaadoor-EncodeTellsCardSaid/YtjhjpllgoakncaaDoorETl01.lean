import Derived.WalkKit
import Derived.ProofKit
import Derived.Deep.MidRow
import Derived.Laws.CopyOwn
import Derived.Lib.Hide
import Derived.Deep.OwnRows
import Derived.Laws.Rows
import Derived.Test.YtjhjpllgoakncaaDoorRows
import Derived.WalkSpells
import Derived.WalkLawsBesides
import Derived.Deep.LoopGhost
import Derived.Handy
import Derived.Laws.AppendOwn
import Derived.Laws.AppendOwnNone
import Derived.Laws.BytesArg
import Derived.Deep.QuietTactic
import Derived.BigQuiet
import Derived.Deep.RegionHeld3
import Derived.StillTailTactics
import Derived.RegionTactic
import Derived.Orders
import Derived.Laws.StructEq
set_option linter.unusedVariables false
set_option linter.unusedSimpArgs false
set_option linter.unnecessarySimpa false
namespace Go.Proofs.YtjhjpllgoakncaaDoor
open Go.RowKit
set_option maxRecDepth 100000
def IsRow (k:IntKind) (w:World) (a:Option Addr) (len cap:Nat) (zs:List Int):Prop:=
  (a=none ∧ len=0 ∧ cap=0 ∧ zs=[]) ∨
  ∃ x,a=some x ∧ len ≤ cap ∧ cap ≤ maxLen ∧ zs.length=cap ∧ (∀ i,i < zs.length → w.cell? (x.add i)=some (.int k (zs.getD i 0))) ∧ ∀ n ∈ zs,(Lit.int k n).wf=true
end Go.Proofs.YtjhjpllgoakncaaDoor
namespace Go.Proofs.YtjhjpllgoakncaaDoor
open Go Go.RowKit
set_option maxRecDepth 100000
set_option linter.unusedVariables false
variable {P:Program}
structure Stored (w:World) (g:Nat) (cells:Array Value) (t:TypeId) (w':World):Prop where
  os:w'.os=w.os
  tape:w'.tape=w.tape
  output:w'.output=w.output
  size:w'.heap.size=w.heap.size
  row:w'.heap[g]?=some (.cells cells t (0,0))
  other:∀ k,k ≠ g → w'.heap[k]?=w.heap[k]?
theorem stored_setRow (w:World) (g:Nat) (cs old:Array Value) (t:TypeId) (hg:w.heap[g]?=some (.cells old t (0,0))):Stored w g cs t (w.setRow g cs):=
  ⟨rfl,rfl,rfl,by simp [World.setRow],setRow_heap w g _ _ t _ hg,fun k hk=>setRow_other w g k cs hk⟩
theorem Stored.below {w w0 w':World} {g:Nat} {cells:Array Value} {t:TypeId} (h:Stored w g cells t w') {B:Nat} (hb:Below B w0 w) (hB:B ≤ g):Below B w0 w':=
  hb.trans ⟨h.os,h.tape,h.output,by rw [h.size];exact Nat.le_refl _,fun k hk=>h.other k (by omega)⟩
theorem Stored.cell {w w':World} {g:Nat} {cells:Array Value} {t:TypeId} (h:Stored w g cells t w') (i:Nat):w'.cell? ⟨g,i,none⟩=cells[i]?:=by
  simp [World.cell?,h.row]
theorem Stored.frozen {w w':World} {g:Nat} {cells:Array Value} {t:TypeId} (h:Stored w g cells t w') (i:Nat):w'.frozen? ⟨g,i,none⟩=false:=by
  simp [World.frozen?,h.row]
theorem wpList_store_is {ops:Array Oper} {rest:List Oper} {o:Oper} {a:Act} {w:World} {Q:Exit → Act → World → Prop} (hgd:o.guard=none) (ty:TypeId) (x y:Operand) (ho:o.op=.store ty x y)
    (g:Nat) (cells:Array Value) (hx:a.eval x=.pointer (some ⟨g,0,none⟩)) (hy:a.eval y=.agg cells)
    (t:TypeId) (old:Array Value) (hg:w.heap[g]?=some (.cells old t (0,0))) (hi:(P.info? ty).map (·.size)=some cells.size)
    (hold:old.size=cells.size) (h1:cells.all (·.oneCell')=true)
    (h:∀ w',Stored w g cells t w' → wpList P ops Q rest (a.put o.dst undef) w'):wpList P ops Q (o :: rest) a w:=
  wpList_store_row hgd ty x y ho g cells hx hy t old hg hi hold h1 (h _ (stored_setRow w g cells old t hg))
theorem below_new {W w:World} (h:Below W.heap.size W w) (o:Obj):Below W.heap.size W (w.alloc o):=h.alloc h.size o
theorem below_call {W w w1:World} (h:Below W.heap.size W w) (b:Below w.heap.size w w1):Below W.heap.size W w1:=h.trans (b.mono h.size)
theorem heap_last (w:World) (o:Obj) (k:Nat) (h:k=w.heap.size):(w.alloc o).heap[k]?=some o:=by subst h;exact heap_alloc_new w o
theorem heap_past (w:World) (o:Obj) (k:Nat) (h:k < w.heap.size):(w.alloc o).heap[k]?=w.heap[k]?:=Deep.blk_alloc_lt w o k h
theorem size_alloc (w:World) (o:Obj):(w.alloc o).heap.size=w.heap.size + 1:=Deep.nblk_alloc w o
theorem setCell_row {w:World} {g:Nat} {cs:Array Value} {t:TypeId} {fr:Nat × Nat} (h:w.heap[g]?=some (.cells cs t fr)) (i:Nat) (v:Value):
    (w.setCell ⟨g,i,none⟩ v).heap[g]?=some (.cells (cs.setIfInBounds i v) t fr):=by
  simp [World.setCell,Array.getElem?_modify,h]
theorem setCell_past (w:World) (a:Addr) (v:Value) (k:Nat) (h:k ≠ a.block):(w.setCell a v).heap[k]?=w.heap[k]?:=Deep.blk_setCell_other w a v k h
theorem stored_setCell {w:World} {g:Nat} {cs:Array Value} {t:TypeId} (h:w.heap[g]?=some (.cells cs t (0,0))) (i:Nat) (v:Value):Stored w g (cs.setIfInBounds i v) t (w.setCell ⟨g,i,none⟩ v):=
  ⟨rfl,rfl,rfl,Deep.nblk_setCell _ _ _,setCell_row h i v,fun k hk=>setCell_past _ _ _ _ hk⟩
theorem halt_store {ops:Array Oper} {rest:List Oper} {o:Oper} {a:Act} {w:World} {Q:Exit → Act → World → Prop} (ty:TypeId) (x y:Operand) (ho:o.op=.store ty x y)
    (h:wpList P ops Q (o :: rest) a w ∧ True):wpList P ops Q (o :: rest) a w:=h.1
theorem halt_load {ops:Array Oper} {rest:List Oper} {o:Oper} {a:Act} {w:World} {Q:Exit → Act → World → Prop} (ty:TypeId) (x:Operand) (ho:o.op=.load ty x)
    (h:wpList P ops Q (o :: rest) a w ∧ True):wpList P ops Q (o :: rest) a w:=h.1
end Go.Proofs.YtjhjpllgoakncaaDoor
namespace Go.Proofs.YtjhjpllgoakncaaDoor.Mrm
open Go.RowKit
set_option maxRecDepth 100000
set_option linter.unusedVariables false
set_option linter.unnecessarySimpa false
set_option linter.unusedSimpArgs false
def u8s (l:List Int):List Value:=l.map (.int .u8)
theorem u8s_one (l:List Int):∀ u ∈ u8s l,u.oneCell'=true:=by
  intro u hu
  obtain ⟨n,_,rfl⟩:=List.mem_map.1 hu
  rfl
theorem u8s_append (l m:List Int):u8s (l ++ m)=u8s l ++ u8s m:=List.map_append
theorem lt_cell {w:World} {b o:Nat} {v:Value} (h:w.cell? ⟨b,o,none⟩=some v):b < w.heap.size:=by
  rcases Nat.lt_or_ge b w.heap.size with h' | h'
  · exact h'
  · have:w.heap[b]?=none:=Array.getElem?_eq_none h'
    simp [World.cell?,this] at h
def Oks (l:List Int):Prop:=∀ z ∈ l,0 ≤ z ∧ z < 256
structure BytesAt (W:World) (a:Option Addr) (len cap:Nat) (zs:List Int):Prop where
  size:len=zs.length
  le:len ≤ cap
  fit:cap ≤ 9223372036854775807
  here:0 < len → ∃ b o,a=some ⟨b,o,none⟩ ∧ ∀ j z,zs[j]?=some z → W.cell? ⟨b,o + j,none⟩=some (.int .u8 z)
  ok:Oks zs
  nilc:a=none → cap=0
theorem BytesAt.below {W w:World} {a:Option Addr} {len cap:Nat} {zs:List Int} (h:BytesAt W a len cap zs) (b:Below W.heap.size W w):BytesAt w a len cap zs:=
  ⟨h.size,h.le,h.fit,fun hp=>by
    obtain ⟨b',o,e,hc⟩:=h.here hp
    exact ⟨b',o,e,fun j z hz=>(b.cell (p:=⟨b',o + j,none⟩) (lt_cell (hc j z hz))).trans (hc j z hz)⟩,h.ok,h.nilc⟩
theorem BytesAt.nil (W:World):BytesAt W none 0 0 []:=⟨rfl,Nat.le_refl _,by omega,fun h=>absurd h (by decide),fun z hz=>(by cases hz),fun _=>rfl⟩
theorem BytesAt.row {W:World} {a:Option Addr} {len cap:Nat} {zs:List Int} (h:IsRow .u8 W a len cap zs):BytesAt W a len cap (zs.take len):=by
  rcases h with ⟨rfl,rfl,rfl,rfl⟩ | ⟨x,rfl,h1,h2,h3,h4,h5⟩
  · exact BytesAt.nil W
  · refine ⟨by simp;omega,h1,by unfold maxLen at h2;omega,fun h0=>?_,fun z hz=>?_,fun h=>by cases h⟩
    · have c0:=h4 0 (by omega)
      obtain ⟨b,off,spot⟩:=x
      obtain rfl:spot=none:=by simpa [Addr.add] using World.cell?_spot c0
      refine ⟨b,off,rfl,fun j z hz=>?_⟩
      have hj:j < len:=by have:=(List.getElem?_eq_some_iff.1 hz).1;simp at this;omega
      rw [List.getElem?_take_of_lt hj] at hz
      have:=h4 j (by omega)
      rw [Addr.add_mid] at this
      rw [this,List.getD_eq_getElem?_getD,hz];rfl
    · have:=h5 z (List.mem_of_mem_take hz)
      have:0 ≤ z ∧ z ≤ 255:=by simpa [Lit.wf,IntKind.min,IntKind.max,IntKind.bits,IntKind.signed] using this
      omega
theorem conv_bytes {W:World} {a:Option Addr} {len cap:Nat} {zs:List Int} (h:BytesAt W a len cap zs):
    (convert 25 9 (.slice a len cap)).run Tryd.prog W=.ok (.string (strOfNums zs)) W:=by
  by_cases h0:0 < len
  · obtain ⟨b,o,rfl,hc⟩:=h.here h0
    exact run_convert_bytes_arg (P:=Tryd.prog) W 25 5 Tryd.underlying25 Tryd.underlying5 b o len cap zs h.size.symm (fun i hi=>by
      rw [hc i (zs.getD i 0) (by rw [List.getD_eq_getElem?_getD,List.getElem?_eq_getElem (by rw [← h.size];exact hi)];rfl)]) 9 Tryd.underlying9
  · obtain rfl:len=0:=by omega
    obtain rfl:zs=[]:=List.eq_nil_of_length_eq_zero h.size.symm
    cases a with
    | none=>exact run_convert_bytes_nil (P:=Tryd.prog) W 25 5 Tryd.underlying25 Tryd.underlying5 0 cap 9 Tryd.underlying9
    | some x=>
      rw [run_convert_bytes_string W 25 9 5 (some x) 0 cap Tryd.underlying25 Tryd.underlying5 Tryd.underlying9,run_bytesToString W x 0 cap [] (by simp [loadCells,loadCellsFrom])]
      rfl
theorem retV {a b:Value} (h:a=b):Ending.returned a=.returned b:=by rw [h]
def Bts (base:Nat) (w:World) (v:Value) (l:List Int):Prop:=w.ownsRow base 5 1 v l.length (u8s l)
theorem Bts.below {base:Nat} {w w':World} {v:Value} {l:List Int} (h:Bts base w v l) (b:Below w.heap.size w w'):Bts base w' v l:=by
  refine ⟨h.1,?_⟩
  rcases h.2 with h | ⟨g,cap,cur,e1,e2,e3,r⟩
  · exact .inl h
  · exact .inr ⟨g,cap,cur,e1,e2,(b.block g (Array.getElem?_eq_some_iff.1 e3).1).trans e3,r⟩
theorem Bts.mono {b b':Nat} {w:World} {v:Value} {l:List Int} (h:Bts b w v l) (hb:b' ≤ b):Bts b' w v l:=by
  refine ⟨h.1,?_⟩
  rcases h.2 with h | ⟨g,cap,cur,e1,e2,r⟩
  · exact .inl h
  · exact .inr ⟨g,cap,cur,e1,by omega,r⟩
theorem Bts.nil (base:Nat) (w:World):Bts base w (.slice none 0 0) []:=World.ownsRow_nil _ _ _ _
theorem Bts.at {base:Nat} {w:World} {v:Value} {l:List Int} (h:Bts base w v l) (ok:Oks l):∃ a c,v=.slice a l.length c ∧ BytesAt w a l.length c l:=by
  rcases h.2 with ⟨h1,h2⟩ | ⟨g,cap,cur,e1,e2,e3,e4,e5,e6,e7⟩
  · obtain rfl:l=[]:=List.eq_nil_of_length_eq_zero h2
    exact ⟨none,0,h1,BytesAt.nil w⟩
  · refine ⟨_,cap,e1,rfl,e4,by unfold maxLen at e5;omega,fun _=>⟨g,0,rfl,fun j z hz=>?_⟩,ok,fun h=>by cases h⟩
    have hj:j < l.length:=(List.getElem?_eq_some_iff.1 hz).1
    have h1:(cur.toList.take (l.length * 1))[j]?=some (.int .u8 z):=by rw [e7];unfold u8s;rw [List.getElem?_map,hz];rfl
    rw [List.getElem?_take_of_lt (by omega),Array.getElem?_toList] at h1
    simp only [World.cell?,e3,Nat.zero_add]
    exact h1
theorem conv_own {base:Nat} {w:World} {v:Value} {l:List Int} (h:Bts base w v l) (ok:Oks l):(convert 25 9 v).run Tryd.prog w=.ok (.string (strOfNums l)) w:=by
  obtain ⟨a,c,rfl,hb⟩:=h.at ok
  exact conv_bytes hb
theorem one_own {base:Nat} (w:World) (p:Int) (hb:base ≤ w.heap.size):Bts base (w.alloc (.cells #[.int .u8 p] 5)) (.slice (some ⟨w.heap.size,0,none⟩) 1 1) [p]:=
  ⟨rfl,.inr ⟨w.heap.size,1,_,rfl,hb,heap_last w _ _ rfl,Nat.le_refl _,by decide,rfl,rfl⟩⟩
theorem one_at (w:World) (p:Int) (hp:0 ≤ p ∧ p < 256):BytesAt (w.alloc (.cells #[.int .u8 p] 5)) (some ⟨w.heap.size,0,none⟩) 1 1 [p]:=by
  obtain ⟨a,c,e,h⟩:=(one_own (base:=0) w p (Nat.zero_le _)).at (fun z hz=>by
    obtain rfl:z=p:=by simpa using hz
    exact hp)
  injection e with e1 e2 e3
  subst e1 e3
  exact h
theorem row_own {w:World} {z n base:Nat} {f:Nat → Int} (h:w.rowIs z 5 n (fun i=>.int .u8 (f i))) (hb:base ≤ z) (hm:n ≤ maxLen):Bts base w (.slice (some ⟨z,0,none⟩) n n) ((List.range n).map f):=by
  obtain ⟨cur,h1,h2,h3⟩:=h
  refine ⟨by simp [u8s],.inr ⟨z,n,cur,by simp,hb,h1,by simp,hm,by omega,?_⟩⟩
  apply List.ext_getElem?
  intro i
  simp only [List.length_map,List.length_range]
  by_cases hi:i < n
  · have:=h3 i hi
    rw [List.getElem?_take_of_lt (by omega),Array.getElem?_toList,this]
    simp [u8s,hi]
  · rw [List.getElem?_eq_none (by simp;omega),List.getElem?_eq_none (by simp [u8s];omega)]
theorem below_grown {W w w':World} {row:Option Nat} (h:Below W.heap.size W w) (g:w.grownBy w' row) (hr:∀ k,row=some k → W.heap.size ≤ k):Below W.heap.size W w':=
  h.trans ⟨g.os,g.tape,g.output,g.size,fun k hk=>g.block k (Nat.lt_of_lt_of_le hk h.size) (fun e=>by have:=hr k e.symm;omega)⟩
theorem Bts.lt {base:Nat} {w:World} {v:Value} {l:List Int} (h:Bts base w v l):∀ k,v.ownBlock=some k → base ≤ k:=fun k hk=>(World.ownsRow.lt h k hk).1
theorem info_u8a:∃ i,Tryd.prog.info? 5=some i ∧ i.zero=some (.int .u8 0) ∧ i.size=1 ∧ i.bytes=1:=by
  have h:(Tryd.prog.info? 5).map (fun i=>(i.zero,i.size,i.bytes))=some (some (.int .u8 0),1,1):=by kernel_rfl
  cases hi:Tryd.prog.info? 5 with
  | none=>rw [hi] at h;simp at h
  | some i=>rw [hi] at h;simp at h;exact ⟨i,rfl,h.1,h.2.1,h.2.2⟩
theorem wpList_append_b {ops:Array Oper} {rest:List Oper} {o:Oper} {a:Act} {Q:Exit → Act → World → Prop} {w:World} (hgd:o.guard=none) (s x:Operand)
    (ho:o.op=.call { callee:=.builtin .append,args:=#[s,x],argTypes:=#[25,25] })
    (base:Nat) (v:Value) (l:List Int) (hs:a.eval s=v) (hown:Bts base w v l) (xa:Option Addr) (m c:Nat) (zs:List Int) (hx:a.eval x=.slice xa m c) (hE:BytesAt w xa m c zs)
    (hfew:l.length + m ≤ 100000) (hb:base ≤ w.heap.size)
    (h:∀ v' w',Bts base w' v' (l ++ zs) → w.grownBy w' v.ownBlock → wpList Tryd.prog ops Q rest (a.put o.dst v') w'):wpList Tryd.prog ops Q (o :: rest) a w:=by
  obtain ⟨ti,i1,i2,i3,i4⟩:=info_u8a
  have hl:=hE.size
  cases xa with
  | none=>
    have h0:=hE.nilc rfl
    have h1:=hE.le
    obtain rfl:zs=[]:=List.eq_nil_of_length_eq_zero (by omega)
    obtain rfl:m=0:=by omega
    subst h0
    refine wpList_append_own_none hgd s x 25 ho base 5 ti 1 Tryd.underlying25 i1 v l.length (u8s l) hs hown hx ?_
    exact h v w (by rw [List.append_nil];exact hown) ⟨rfl,rfl,rfl,Nat.le_refl _,fun _ _ _=>rfl⟩
  | some ad=>
    refine wpList_append_own w hgd s x 25 ho base 5 ti (.int .u8 0) 1 1 Tryd.underlying25 i1 i2 i3 i4 rfl (by decide) v l.length (u8s l) hs hown ad m c (u8s zs) hx (by simp [u8s];omega) (fun j u hu=>?_) (u8s_one zs) (by unfold maxLen;omega) (by omega) hb (fun v' w' o g _=>h v' w' ?_ g)
    · unfold u8s at hu
      rw [List.getElem?_map] at hu
      cases hz:zs[j]? with
      | none=>rw [hz] at hu;cases hu
      | some z=>
        rw [hz] at hu
        obtain rfl:Value.int .u8 z=u:=by simpa using hu
        have hj:j < zs.length:=(List.getElem?_eq_some_iff.1 hz).1
        obtain ⟨b',o',e,hc⟩:=hE.here (by omega)
        injection e with e
        subst e
        rw [Addr.add_mid]
        exact hc j z hz
    · unfold Bts
      rw [u8s_append,List.length_append,← hl]
      exact o
def RetB (l:List Int) (c:Int) (W:World) (e:Ending) (w':World):Prop:=∃ v,e=.returned (.tuple #[v,.int .i64 c]) ∧ Bts W.heap.size w' v l ∧ Below W.heap.size W w'
def RetV (l:List Int) (W:World) (e:Ending) (w':World):Prop:=∃ v,e=.returned v ∧ Bts W.heap.size w' v l ∧ Below W.heap.size W w'
end Go.Proofs.YtjhjpllgoakncaaDoor.Mrm
namespace Go.Proofs.YtjhjpllgoakncaaDoor.Mrm
open Go.RowKit
set_option maxRecDepth 100000
set_option linter.unusedVariables false
set_option linter.unnecessarySimpa false
set_option linter.unusedSimpArgs false
def regB (r:Int):Bool:=decide (0 ≤ r) && decide (r < 16)
def bothB (r m:Int):Bool:=regB r && regB m
def bitI (b:Bool) (v:Int):Int:=bif b then v else 0
def rexI (w:Bool) (r m:Int):Int:=64 + bitI w 8 + bitI (decide (8 ≤ r)) 4 + bitI (decide (8 ≤ m)) 1
def needB (r m:Int):Bool:=bothB r m && (decide (8 ≤ r) || decide (8 ≤ m))
theorem regB_iff {r:Int}:regB r=true ↔ 0 ≤ r ∧ r < 16:=by unfold regB;simp
theorem bothB_iff {r m:Int}:bothB r m=true ↔ (0 ≤ r ∧ r < 16) ∧ 0 ≤ m ∧ m < 16:=by unfold bothB;rw [Bool.and_eq_true,regB_iff,regB_iff]
theorem rex_or (w b c:Bool):bits .or .u8 (bits .or .u8 (bits .or .u8 64 (bitI w 8)) (bitI b 4)) (bitI c 1)=64 + bitI w 8 + bitI b 4 + bitI c 1:=by
  cases w <;> cases b <;> cases c <;> decide +kernel
def opI (k r m:Int):Int:=k + r % 8 * 8 + m % 8
theorem op_fin (q:Bool):∀ r m:Fin 8,bits .or .u8 (bits .or .u8 (if q then 192 else 128) ((r.1:Int) * 8)) (m.1:Int)=(if q then 192 else 128) + (r.1:Int) * 8 + (m.1:Int):=by
  cases q <;> decide +kernel
theorem op_or (q:Bool) (r m:Int):bits .or .u8 (bits .or .u8 (if q then 192 else 128) (r % 8 * 8)) (m % 8)=opI (if q then 192 else 128) r m:=by
  have:=op_fin q ⟨(r % 8).toNat,by omega⟩ ⟨(m % 8).toNat,by omega⟩
  simp only [Int.toNat_of_nonneg (show 0 ≤ r % 8 by omega),Int.toNat_of_nonneg (show 0 ≤ m % 8 by omega)] at this
  exact this
def byS (v:Int) (i:Nat):Int:=v / 2 ^ (8 * i) % 256
def numL (v:Int) (n:Nat):List Int:=(List.range n).map (byS v)
def fitB (v:Int) (n:Nat):Bool:=decide (-2 ^ (8 * n - 1) ≤ v) && decide (v < 2 ^ (8 * n - 1))
def wid (n:Int):Bool:=n == 1 || n == 2 || n == 4
def numB (v n:Int):Bool:=wid n && fitB v n.toNat
def midL (m:Int):List Int:=if m % 8=4 then [36] else []
def regL (r m:Int):List Int:=[opI 192 r m]
def memL (r m d:Int):List Int:=[opI 128 r m] ++ (midL m ++ numL d 4)
def memB (r m d:Int):Bool:=bothB r m && fitB d 4
theorem numL_ok (v:Int) (n:Nat):Oks (numL v n):=by
  intro z hz
  obtain ⟨i,_,rfl⟩:=List.mem_map.1 hz
  unfold byS;omega
theorem numL_length (v:Int) (n:Nat):(numL v n).length=n:=by simp [numL]
theorem numL_next (v:Int) (k:Nat):numL v (k + 1)=numL v k ++ [byS v k]:=by
  unfold numL
  rw [List.range_succ,List.map_append];rfl
theorem midL_ok (m:Int):Oks (midL m):=by
  intro z hz
  unfold midL at hz
  split at hz
  · obtain rfl:z=36:=by simpa using hz
    omega
  · cases hz
theorem opI_bd {k r m:Int} (hk:k=192 ∨ k=128):0 ≤ opI k r m ∧ opI k r m < 256:=by unfold opI;omega
theorem one_ok {z:Int} (h:0 ≤ z ∧ z < 256):Oks [z]:=by
  intro y hy
  obtain rfl:y=z:=by simpa using hy
  exact h
theorem Oks.append {l m:List Int} (h:Oks l) (g:Oks m):Oks (l ++ m):=fun z hz=>(List.mem_append.1 hz).elim (h z) (g z)
theorem regL_ok (r m:Int):Oks (regL r m):=one_ok (opI_bd (.inl rfl))
theorem memL_ok (r m d:Int):Oks (memL r m d):=(one_ok (opI_bd (.inr rfl))).append ((midL_ok m).append (numL_ok d 4))
end Go.Proofs.YtjhjpllgoakncaaDoor.Mrm
namespace Go.Proofs.YtjhjpllgoakncaaDoor.Mrm
open Go Go.RowKit
set_option maxRecDepth 100000
set_option linter.unusedVariables false
set_option linter.unusedSimpArgs false
structure Xi where
  op:Int
  w:Int
  dst:Int
  src:Int
  base:Int
  disp:Int
  imm:Int
  cc:Int
deriving DecidableEq
abbrev xC (x:Xi):Array Value:=#[.int .i8 x.op,.int .i8 x.w,.int .i8 x.dst,.int .i8 x.src,.int .i8 x.base,.int .i64 x.disp,.int .i64 x.imm,.int .i8 x.cc]
abbrev xL (x:Xi):List Value:=[.int .i8 x.op,.int .i8 x.w,.int .i8 x.dst,.int .i8 x.src,.int .i8 x.base,.int .i64 x.disp,.int .i64 x.imm,.int .i8 x.cc]
def zX:Xi:=⟨0,0,0,0,0,0,0,0⟩
def eqX (a b:Xi):Bool:=a.op == b.op && a.w == b.w && a.dst == b.dst && a.src == b.src && a.base == b.base && a.disp == b.disp && a.imm == b.imm && a.cc == b.cc
theorem eqX_iff {a b:Xi}:eqX a b=true ↔ a=b:=by
  unfold eqX
  cases a;cases b
  simp [and_assoc]
def clsT:List Int:=[1,2,1,1,1,1,1,1,1,2,2,2,2,2,2,2,1,3,3,3,4,4,4,4,4,5,6,7,8,9,10,10]
def clsI (op:Int):Int:=if 0 ≤ op ∧ op < 32 then clsT.getD op.toNat 0 else 0
def codT:List Int:=[137,0,1,9,33,41,49,57,133,0,1,4,5,6,7,0,0,4,5,7,4,5,7,3,6,0,0,0,0,0,0,0]
def codI (op:Int):Int:=if 0 ≤ op ∧ op < 32 then codT.getD op.toNat 0 else 0
theorem clsI_fin:∀ k:Fin 32,1 ≤ clsI (k.1:Int) ∧ clsI (k.1:Int) ≤ 10:=by decide +kernel
theorem clsI_cases (op:Int):clsI op=0 ∨ clsI op=1 ∨ clsI op=2 ∨ clsI op=3 ∨ clsI op=4 ∨ clsI op=5 ∨ clsI op=6 ∨ clsI op=7 ∨ clsI op=8 ∨ clsI op=9 ∨ clsI op=10:=by
  by_cases h:0 ≤ op ∧ op < 32
  · have:=clsI_fin ⟨op.toNat,by omega⟩
    simp only [Int.toNat_of_nonneg h.1] at this
    omega
  · left;unfold clsI;rw [if_neg h]
def fldX (k:Int) (x:Xi):Xi:=⟨x.op,if k < 10 then x.w else 0,if k ≤ 6 then x.dst else 0,if k=1 ∨ k=5 ∨ k=7 then x.src else 0,if k=6 ∨ k=7 then x.base else 0,if k=6 ∨ k=7 then x.disp else 0,if k=2 ∨ k=3 ∨ k=8 ∨ k=9 then x.imm else 0,if k=5 ∨ k=9 then x.cc else 0⟩
def longB (w:Int):Bool:=w == 32 || w == 64
def fourB (n:Int):Bool:=decide (-2147483648 ≤ n) && decide (n < 2147483648)
def oneB (n:Int):Bool:=decide (-128 ≤ n) && decide (n < 128)
def ccB (c:Int):Bool:=(decide (2 ≤ c) && decide (c ≤ 7)) || (decide (12 ≤ c) && decide (c ≤ 15))
def widB (w:Int):Bool:=w == 8 || w == 16 || w == 32 || w == 64
def jmpB (x:Xi):Bool:=x.w == 32 || (x.w == 8 && oneB x.imm)
def clsB (k:Int) (x:Xi):Bool:=
  if k=1 ∨ k=2 ∨ k=4 then longB x.w else
  if k=3 then longB x.w && (decide (0 ≤ x.imm) && decide (x.imm < x.w)) else
  if k=5 then longB x.w && ccB x.cc else
  if k=6 ∨ k=7 then widB x.w else
  if k=8 then jmpB x else
  if k=9 then jmpB x && ccB x.cc else true
def mayX (x:Xi):Bool:=clsI x.op != 0 && (eqX x (fldX (clsI x.op) x) && (regB x.dst && (regB x.src && (regB x.base && (fourB x.disp && (fourB x.imm && clsB (clsI x.op) x))))))
end Go.Proofs.YtjhjpllgoakncaaDoor.Mrm
namespace Go.Proofs.YtjhjpllgoakncaaDoor
open Go
set_option linter.unusedVariables false
section
variable {P:Program} {ops:Array Oper} {Q:Exit → Act → World → Prop} {md:Region.Mode}
def unl (l:Array Bool):Nat → Nat
  | 0=>0
  | n + 1=>unl l n + if l.getD n true then 0 else 1
theorem unl_zero {l:Array Bool}:∀ {n:Nat},unl l n=0 → ∀ i,i < n → l.getD i true=true
  | n + 1,h,i,hi=>by
    unfold unl at h
    by_cases e:i=n
    · subst e
      cases hh:l.getD i true
      · simp [hh] at h
      · rfl
    · exact unl_zero (n:=n) (by omega) i (by omega)
theorem getD_set (l:Array Bool) (i j:Nat) (hi:i < l.size) (d:Bool):(l.setIfInBounds i true).getD j d=if j=i then true else l.getD j d:=by
  simp only [Array.getD_eq_getD_getElem?,Array.getElem?_setIfInBounds]
  by_cases e:i=j
  · subst e;simp [hi]
  · simp [e,Ne.symm e]
theorem unl_set {l:Array Bool} {i:Nat} (hi:i < l.size) (hf:l.getD i true=false):∀ n,unl (l.setIfInBounds i true) n + (if i < n then 1 else 0)=unl l n
  | 0=>by simp [unl]
  | n + 1=>by
    have ih:=unl_set hi hf n
    unfold unl
    rw [getD_set l i n hi]
    by_cases e:n=i
    · subst e
      rw [hf]
      simp at ih ⊢
      omega
    · rw [if_neg e]
      have:(i < n + 1) ↔ (i < n):=by omega
      simp only [this]
      omega
theorem wpAny_inv (I:Array Bool → Act → World → Prop)
    (hback:∀ (i:Nat) (o:Oper),ops[i]?=some o → ∀ e ∈ o.after,Region.binds md e=true → e.on < i)
    (hend:∀ (l:Array Bool) (a:Act) (w:World),I l a w → (∀ i,i < ops.size → l.getD i true=true) → Q .normal a w)
    (hstep:∀ (l:Array Bool) (a:Act) (w:World) (i:Nat) (o:Oper),l.size=ops.size → I l a w → ops[i]?=some o → l.getD i true=false → (∀ e ∈ o.after,Region.binds md e=true → l.getD e.on false=true) → wpOp P ops Q i (I (l.setIfInBounds i true)) a w):
    ∀ fuel l a w,l.size=ops.size → I l a w → unl l ops.size ≤ fuel → wpAny P md ops Q fuel l a w:=by
  have hready:∀ (l:Array Bool) (i:Nat),i ∈ Region.ready md ops l ↔ i < ops.size ∧ l.getD i true=false ∧ ∃ o:Oper,ops[i]?=some o ∧ ∀ e ∈ o.after,Region.binds md e=true → l.getD e.on false=true:=by
    intro l i
    unfold Region.ready
    rw [List.mem_filter,List.mem_range]
    constructor
    · rintro ⟨hi,h⟩
      simp only [Bool.and_eq_true,Bool.not_eq_true'] at h
      refine ⟨hi,h.1,ops[i],Array.getElem?_eq_getElem hi,fun e he hb=>?_⟩
      have h2:=h.2
      rw [Array.getElem?_eq_getElem hi] at h2
      simp only [Option.map_some,Option.getD_some] at h2
      rw [Array.all_eq_true_iff_forall_mem] at h2
      have:=h2 e he
      simpa [hb] using this
    · rintro ⟨hi,hf,o,ho,ha⟩
      refine ⟨hi,?_⟩
      simp only [Bool.and_eq_true,Bool.not_eq_true']
      refine ⟨hf,?_⟩
      rw [ho]
      simp only [Option.map_some,Option.getD_some]
      rw [Array.all_eq_true_iff_forall_mem]
      intro e he
      cases hb:Region.binds md e
      · rfl
      · simpa [hb] using ha e he hb
  have hnone:∀ l:Array Bool,Region.ready md ops l=[] → ∀ i,i < ops.size → l.getD i true=true:=by
    intro l hr i
    induction i using Nat.strongRecOn with
    | ind i ih=>
      intro hi
      cases hf:l.getD i true
      · exfalso
        have:i ∈ Region.ready md ops l:=(hready l i).2 ⟨hi,hf,ops[i],Array.getElem?_eq_getElem hi,fun e he hb=>by
          have hlt:=hback i _ (Array.getElem?_eq_getElem hi) e he hb
          have:=ih e.on hlt (by omega)
          by_cases hs:e.on < l.size
          · simp only [Array.getD_eq_getD_getElem?,Array.getElem?_eq_getElem hs,Option.getD_some] at this ⊢
            exact this
          · exfalso
            have hi':l.getD i true=true:=by
              simp only [Array.getD_eq_getD_getElem?]
              rw [Array.getElem?_eq_none (by omega)];rfl
            rw [hi'] at hf;cases hf⟩
        rw [hr] at this;cases this
      · rfl
  intro fuel
  induction fuel with
  | zero=>
    intro l a w hs hI hu
    have hz:=unl_zero (l:=l) (n:=ops.size) (by omega)
    have hr:Region.ready md ops l=[]:=by
      apply List.eq_nil_iff_forall_not_mem.2
      intro i hi
      obtain ⟨h1,h2,_⟩:=(hready l i).1 hi
      rw [hz i h1] at h2;cases h2
    exact ⟨hr,hend l a w hI hz⟩
  | succ fuel ih=>
    intro l a w hs hI hu
    refine ⟨fun hr=>hend l a w hI (hnone l hr),fun i hi=>?_⟩
    obtain ⟨h1,h2,o,ho,ha⟩:=(hready l i).1 hi
    refine wpOp_mono (fun a' w' hI'=>ih _ a' w' (by simpa using hs) hI' ?_) (hstep l a w i o hs hI ho h2 ha)
    have:=unl_set (l:=l) (i:=i) (by omega) h2 ops.size
    rw [if_pos h1] at this
    omega
def putAll (t:Array Value):List (Nat × Value) → Array Value
  | []=>t
  | p :: r=>putAll (t.setIfInBounds p.1 p.2) r
theorem putAll_size:∀ (l:List (Nat × Value)) (t:Array Value),(putAll t l).size=t.size
  | [],t=>rfl
  | p :: r,t=>by unfold putAll;rw [putAll_size r];simp
theorem putAll_other:∀ (l:List (Nat × Value)) (t:Array Value) (j:Nat),(∀ p ∈ l,p.1 ≠ j) → (putAll t l)[j]?=t[j]?
  | [],t,j,_=>rfl
  | p :: r,t,j,h=>by
    unfold putAll
    rw [putAll_other r _ j (fun q hq=>h q (List.mem_cons_of_mem _ hq)),Array.getElem?_setIfInBounds,if_neg (h p (List.mem_cons_self ..))]
theorem putAll_mem (f:Nat → Value):∀ (l:List (Nat × Value)) (t:Array Value) (j:Nat),j < t.size → (∀ p ∈ l,p.2=f p.1) → (∃ p ∈ l,p.1=j) → (putAll t l)[j]?=some (f j)
  | [],t,j,_,_,h=>by obtain ⟨p,hp,_⟩:=h;cases hp
  | p :: r,t,j,hj,hf,h=>by
    unfold putAll
    by_cases hr:∃ q ∈ r,q.1=j
    · exact putAll_mem f r _ j (by simpa using hj) (fun q hq=>hf q (List.mem_cons_of_mem _ hq)) hr
    · have hp:p.1=j:=by
        obtain ⟨q,hq,e⟩:=h
        rcases List.mem_cons.1 hq with rfl | hq'
        · exact e
        · exact absurd ⟨q,hq',e⟩ hr
      rw [putAll_other r _ j (fun q hq e=>hr ⟨q,hq,e⟩),Array.getElem?_setIfInBounds,if_pos hp]
      have:=hf p (List.mem_cons_self ..)
      rw [this,hp];simp [hj]
def outs (ops:Array Oper) (u:Nat → Value):List (Nat × Value):=(List.range ops.size).filterMap fun i=>((ops[i]?).bind (·.dst)).map fun d=>(d,u d)
def own (o:Oper) (a:Act):Value:=match o.dst with | some d=>a.tmps.getD d undef | none=>undef
theorem put_getD (a:Act) (d0:Nat) (v:Value) (h:d0 < a.tmps.size) (j:Nat):(a.put (some d0) v).tmps.getD j undef=if j=d0 then v else a.tmps.getD j undef:=by
  show (a.tmps.setIfInBounds d0 v).getD j undef=_
  simp only [Array.getD_eq_getD_getElem?,Array.getElem?_setIfInBounds]
  by_cases e:d0=j
  · subst e;simp [h]
  · simp [e,Ne.symm e]
def chkBack (ops:Array Oper):Bool:=(List.range ops.size).all fun i=>match ops[i]? with | some o=>o.after.all fun e=>!Region.binds .any e || decide (e.on < i) | none=>true
def chkDst (ops:Array Oper):Bool:=(List.range ops.size).all fun i=>(List.range ops.size).all fun j=>match ops[i]?,ops[j]? with
  | some o,some o'=>(match o.dst,o'.dst with | some d,some d'=>d != d' || i == j | _,_=>true)
  | _,_=>true
def chkIn (ops:Array Oper) (n:Nat):Bool:=(List.range ops.size).all fun i=>match ops[i]? with | some o=>(match o.dst with | some d=>decide (d < n) | none=>true) | none=>true
theorem of_range {ops:Array Oper} {f:Nat → Bool} (h:(List.range ops.size).all f=true) {i:Nat} {o:Oper} (ho:ops[i]?=some o):f i=true:=
  List.all_eq_true.1 h i (List.mem_range.2 (Array.getElem?_eq_some_iff.1 ho).1)
theorem back_of (h:chkBack ops=true):∀ (i:Nat) (o:Oper),ops[i]?=some o → ∀ e ∈ o.after,Region.binds .any e=true → e.on < i:=fun i o ho e he hb=>by
  have:=of_range h ho
  rw [ho] at this
  simp only [Array.all_eq_true_iff_forall_mem] at this
  simpa [hb] using this e he
theorem dst_of (h:chkDst ops=true):∀ (i j:Nat) (o o':Oper) (d:Nat),ops[i]?=some o → ops[j]?=some o' → o.dst=some d → o'.dst=some d → i=j:=fun i j o o' d ho ho' hd hd'=>by
  have:=of_range (of_range h ho) ho'
  rw [ho,ho'] at this
  simp only [hd,hd'] at this
  simpa using this
theorem in_of {n:Nat} (h:chkIn ops n=true):∀ (i:Nat) (o:Oper) (d:Nat),ops[i]?=some o → o.dst=some d → d < n:=fun i o d ho hd=>by
  have:=of_range h ho
  rw [ho] at this
  simpa [hd] using this
variable {a:Act} {w:World} {K:Act → World → Prop}
theorem exec_eql {ρ:Operand → Value} {o:Oper} {t z:TypeId} {x y:Operand} {xs ys:Array Value} {r:Bool} (ho:o.op=.binOp .eql t x y z) (hx:ρ x=.agg xs) (hy:ρ y=.agg ys) (hm:P.eqGuardType P.depth t=false)
    (he:(Op.equalIn 10000 t (.agg xs) (.agg ys)).run P w=.ok r w):(execOp ρ o).run P w=.ok (.value (.bool r)) w:=by
  unfold execOp
  simp only [ho,hx,hy,Sem.run_bind,run_eqGuard_agg w .eql t x y xs ys hm,run_eql_struct,he,Result.andThen_ok,Sem.run_pure]
theorem exec_neq {ρ:Operand → Value} {o:Oper} {t z:TypeId} {x y:Operand} {xs ys:Array Value} {r:Bool} (ho:o.op=.binOp .neq t x y z) (hx:ρ x=.agg xs) (hy:ρ y=.agg ys) (hm:P.eqGuardType P.depth t=false)
    (he:(Op.equalIn 10000 t (.agg xs) (.agg ys)).run P w=.ok r w):(execOp ρ o).run P w=.ok (.value (.bool (!r))) w:=by
  unfold execOp
  simp only [ho,hx,hy,Sem.run_bind,run_eqGuard_agg w .neq t x y xs ys hm,run_neq_struct,he,Result.andThen_ok,Sem.run_pure]
theorem wpOp_no {i:Nat} {o:Oper} (ho:ops[i]?=some o) (hw:Region.wanted o (yielded ops a.tmps)=false) (h:K (a.put o.dst undef) w):wpOp P ops Q i K a w:=by
  unfold wpOp
  rw [ho]
  simp only [hw]
  exact h
theorem wpOp_valw {i:Nat} {o:Oper} {v:Value} {w':World} (ho:ops[i]?=some o) (hw:Region.wanted o (yielded ops a.tmps)=true) (hr:(execOp a.eval o).run P w=.ok (.value v) w') (h:K (a.put o.dst v) w'):wpOp P ops Q i K a w:=by
  unfold wpOp
  rw [ho]
  simp only [hw,if_true]
  left
  unfold Oper.wp
  rw [hr]
  exact h
theorem wpOp_skpw {i:Nat} {o:Oper} {w':World} (ho:ops[i]?=some o) (hw:Region.wanted o (yielded ops a.tmps)=true) (hr:(execOp a.eval o).run P w=.ok .skip w') (h:K (a.put o.dst undef) w'):wpOp P ops Q i K a w:=by
  unfold wpOp
  rw [ho]
  simp only [hw,if_true]
  left
  unfold Oper.wp
  rw [hr]
  exact h
theorem wpOp_callw {i:Nat} {o:Oper} {f:FuncId} {args:Array Value} (ho:ops[i]?=some o) (hw:Region.wanted o (yielded ops a.tmps)=true) (hr:(execOp a.eval o).run P w=.ok (.enter f args) w)
    (h:Calls P f args w fun e w''=>∃ v,e=.returned v ∧ K (a.put o.dst v) w''):wpOp P ops Q i K a w:=by
  unfold wpOp
  rw [ho]
  simp only [hw,if_true]
  left
  unfold Oper.wp
  rw [hr]
  refine h.mono ?_
  rintro e w'' ⟨v,rfl,hk⟩
  exact hk
theorem wanted_of {o oj:Oper} {j d:Nat} {want b:Bool} (hg:o.guard=some (j,want)) (hj:ops[j]?=some oj) (hd:oj.dst=some d) (hlt:d < a.tmps.size) (h:a.tmps.getD d undef=.bool b):Region.wanted o (yielded ops a.tmps)=(b == want):=by
  have e:a.tmps[d]?=some (.bool b):=by
    rw [Array.getElem?_eq_getElem hlt]
    simp only [Array.getD_eq_getD_getElem?,Array.getElem?_eq_getElem hlt,Option.getD_some] at h
    rw [h]
  have y:yielded ops a.tmps j=some b:=by
    unfold yielded
    rw [hj]
    simp only [Option.bind_some,hd,e]
  unfold Region.wanted
  rw [hg]
  simp only [y]
  cases b <;> cases want <;> rfl
theorem wanted_yes {o oj:Oper} {want:Bool} (j d:Nat) (b:Bool) (h:a.tmps.getD d undef=.bool b) (hlt:d < a.tmps.size) (hg:o.guard=some (j,want)) (hj:ops[j]?=some oj) (hd:oj.dst=some d) (hb:(b == want)=true):Region.wanted o (yielded ops a.tmps)=true:=
  (wanted_of hg hj hd hlt h).trans hb
def chkNot (ops:Array Oper) (j:Nat):Bool:=(List.range ops.size).all fun i=>match ops[i]? with | some o=>(match o.dst with | some d=>d != j | none=>true) | none=>true
theorem not_of {j:Nat} (h:chkNot ops j=true):∀ (i:Nat) (o:Oper),ops[i]?=some o → o.dst ≠ some j:=fun i o ho hd=>by
  have:=of_range h ho
  rw [ho] at this
  simp [hd] at this
theorem own_put {o:Oper} {d:Nat} {v:Value} (hd:o.dst=some d) (hlt:d < a.tmps.size):own o (a.put o.dst v)=v:=by
  unfold own
  rw [hd]
  show (a.put (some d) v).tmps.getD d undef=v
  rw [put_getD a d v hlt,if_pos rfl]
end
end Go.Proofs.YtjhjpllgoakncaaDoor
