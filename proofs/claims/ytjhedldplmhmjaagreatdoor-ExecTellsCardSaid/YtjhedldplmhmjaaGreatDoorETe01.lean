import Derived.WalkKit
import Derived.ProofKit
import Derived.Deep.MidRow
import Derived.Laws.CopyOwn
import Derived.Lib.Hide
import Derived.Deep.OwnRows
import Derived.Laws.Rows
import Derived.Test.YtjhedldplmhmjaaGreatDoorRows
import Derived.WalkSpells
import Derived.WalkLawsBesides
import Derived.Deep.LoopGhost
import Derived.Handy
import Derived.Laws.AppendOwn
import Derived.Laws.AppendOwnNone
import Derived.Laws.BytesArg
import Derived.Deep.QuietTactic
import Derived.BigQuiet
import Derived.Deep.RegionHeld3
import Derived.StillTailTactics
import Derived.RegionTactic
set_option maxHeartbeats 2000000
set_option linter.unusedVariables false
set_option linter.unusedSimpArgs false
set_option linter.unnecessarySimpa false
namespace Go.Proofs.YtjhedldplmhmjaaGreatDoor
open Go.RowKit
set_option maxRecDepth 100000
def IsRow (k:IntKind)(w:World)(a:Option Addr)(len cap:Nat)(zs:List Int):Prop:=
 (a=none∧len=0∧cap=0∧zs=[]) ∨
 ∃ x,a=some x∧len≤cap∧cap≤maxLen∧zs.length=cap∧(∀ i,i<zs.length→w.cell? (x.add i)=some (.int k (zs.getD i 0)))∧∀ n∈zs,(Lit.int k n).wf=true
open Go Go.RowKit
variable {P:Program}
structure Stored (w:World)(g:Nat)(cells:Array Value)(t:TypeId)(w':World):Prop where
 os:w'.os=w.os
 tape:w'.tape=w.tape
 output:w'.output=w.output
 size:w'.heap.size=w.heap.size
 row:w'.heap[g]?=some (.cells cells t (0,0))
 other:∀ k,k≠g→w'.heap[k]?=w.heap[k]?
theorem stored_setRow (w:World)(g:Nat)(cs old:Array Value)(t:TypeId)(hg:w.heap[g]?=some (.cells old t (0,0))):Stored w g cs t (w.setRow g cs):=
 ⟨rfl,rfl,rfl,by simp [World.setRow],setRow_heap w g _ _ t _ hg,fun k hk=>setRow_other w g k cs hk⟩
theorem Stored.below {w w0 w':World}{g:Nat}{cells:Array Value}{t:TypeId}(h:Stored w g cells t w'){B:Nat}(hb:Below B w0 w)(hB:B≤g):Below B w0 w':=
 hb.trans ⟨h.os,h.tape,h.output,by rw [h.size];exact Nat.le_refl _,fun k hk=>h.other k (by omega)⟩
theorem Stored.cell {w w':World}{g:Nat}{cells:Array Value}{t:TypeId}(h:Stored w g cells t w')(i:Nat):w'.cell? ⟨g,i,none⟩=cells[i]?:=by
 simp [World.cell?,h.row]
theorem Stored.frozen {w w':World}{g:Nat}{cells:Array Value}{t:TypeId}(h:Stored w g cells t w')(i:Nat):w'.frozen? ⟨g,i,none⟩=false:=by
 simp [World.frozen?,h.row]
theorem wpList_store_is {ops:Array Oper}{rest:List Oper}{o:Oper}{a:Act}{w:World}{Q:Exit→Act→World→Prop}(hgd:o.guard=none)(ty:TypeId)(x y:Operand)(ho:o.op=.store ty x y)
  (g:Nat) (cells:Array Value) (hx:a.eval x=.pointer (some ⟨g,0,none⟩)) (hy:a.eval y=.agg cells)
  (t:TypeId) (old:Array Value) (hg:w.heap[g]?=some (.cells old t (0,0))) (hi:(P.info? ty).map (·.size)=some cells.size)
  (hold:old.size=cells.size) (h1:cells.all (·.oneCell')=true)
  (h:∀ w',Stored w g cells t w'→wpList P ops Q rest (a.put o.dst undef) w'):wpList P ops Q (o :: rest) a w:=
 wpList_store_row hgd ty x y ho g cells hx hy t old hg hi hold h1 (h _ (stored_setRow w g cells old t hg))
theorem below_new {W w:World}(h:Below W.heap.size W w)(o:Obj):Below W.heap.size W (w.alloc o):=h.alloc h.size o
theorem below_call {W w w1:World}(h:Below W.heap.size W w)(b:Below w.heap.size w w1):Below W.heap.size W w1:=h.trans (b.mono h.size)
theorem heap_last (w:World)(o:Obj)(k:Nat)(h:k=w.heap.size):(w.alloc o).heap[k]?=some o:=by subst h;exact heap_alloc_new w o
theorem heap_past (w:World)(o:Obj)(k:Nat)(h:k<w.heap.size):(w.alloc o).heap[k]?=w.heap[k]?:=Deep.blk_alloc_lt w o k h
theorem size_alloc (w:World)(o:Obj):(w.alloc o).heap.size=w.heap.size+1:=Deep.nblk_alloc w o
theorem setCell_row {w:World}{g:Nat}{cs:Array Value}{t:TypeId}{fr:Nat × Nat}(h:w.heap[g]?=some (.cells cs t fr))(i:Nat)(v:Value):
  (w.setCell ⟨g,i,none⟩ v).heap[g]?=some (.cells (cs.setIfInBounds i v) t fr):=by
 simp [World.setCell,Array.getElem?_modify,h]
theorem setCell_past (w:World)(a:Addr)(v:Value)(k:Nat)(h:k≠a.block):(w.setCell a v).heap[k]?=w.heap[k]?:=Deep.blk_setCell_other w a v k h
theorem stored_setCell {w:World}{g:Nat}{cs:Array Value}{t:TypeId}(h:w.heap[g]?=some (.cells cs t (0,0)))(i:Nat)(v:Value):Stored w g (cs.setIfInBounds i v) t (w.setCell ⟨g,i,none⟩ v):=
 ⟨rfl,rfl,rfl,Deep.nblk_setCell _ _ _,setCell_row h i v,fun k hk=>setCell_past _ _ _ _ hk⟩
theorem halt_store {ops:Array Oper}{rest:List Oper}{o:Oper}{a:Act}{w:World}{Q:Exit→Act→World→Prop}(ty:TypeId)(x y:Operand)(ho:o.op=.store ty x y)
 (h:wpList P ops Q (o :: rest) a w∧True):wpList P ops Q (o :: rest) a w:=h.1
theorem halt_load {ops:Array Oper}{rest:List Oper}{o:Oper}{a:Act}{w:World}{Q:Exit→Act→World→Prop}(ty:TypeId)(x:Operand)(ho:o.op=.load ty x)
 (h:wpList P ops Q (o :: rest) a w∧True):wpList P ops Q (o :: rest) a w:=h.1
end Go.Proofs.YtjhedldplmhmjaaGreatDoor
namespace Go.Proofs.YtjhedldplmhmjaaGreatDoor.Mrm
open Go.RowKit
set_option maxRecDepth 100000
def u8s (l:List Int):List Value:=l.map (.int .u8)
theorem u8s_one (l:List Int):∀ u∈u8s l,u.oneCell'=true:=by
 intro u hu
 obtain ⟨n,_,rfl⟩:=List.mem_map.1 hu
 rfl
theorem u8s_append (l m:List Int):u8s (l ++ m)=u8s l ++ u8s m:=List.map_append
theorem lt_cell {w:World}{b o:Nat}{v:Value}(h:w.cell? ⟨b,o,none⟩=some v):b<w.heap.size:=by
 rcases Nat.lt_or_ge b w.heap.size with h' | h'
 ·exact h'
 ·have:w.heap[b]?=none:=Array.getElem?_eq_none h'
  simp [World.cell?,this] at h
def Oks (l:List Int):Prop:=∀ z∈l,0≤z∧z<256
structure BytesAt (W:World)(a:Option Addr)(len cap:Nat)(zs:List Int):Prop where
 size:len=zs.length
 le:len≤cap
 fit:cap≤9223372036854775807
 here:0<len→∃ b o,a=some ⟨b,o,none⟩∧∀ j z,zs[j]?=some z→W.cell? ⟨b,o+j,none⟩=some (.int .u8 z)
 ok:Oks zs
 nilc:a=none→cap=0
theorem BytesAt.below {W w:World}{a:Option Addr}{len cap:Nat}{zs:List Int}(h:BytesAt W a len cap zs)(b:Below W.heap.size W w):BytesAt w a len cap zs:=
 ⟨h.size,h.le,h.fit,fun hp=>by
  obtain ⟨b',o,e,hc⟩:=h.here hp
  exact ⟨b',o,e,fun j z hz=>(b.cell (p:=⟨b',o+j,none⟩) (lt_cell (hc j z hz))).trans (hc j z hz)⟩,h.ok,h.nilc⟩
theorem BytesAt.nil (W:World):BytesAt W none 0 0 []:=⟨rfl,Nat.le_refl _,by omega,fun h=>absurd h (by decide),fun z hz=>(by cases hz),fun _=>rfl⟩
theorem BytesAt.row {W:World}{a:Option Addr}{len cap:Nat}{zs:List Int}(h:IsRow .u8 W a len cap zs):BytesAt W a len cap (zs.take len):=by
 rcases h with ⟨rfl,rfl,rfl,rfl⟩ | ⟨x,rfl,h1,h2,h3,h4,h5⟩
 ·exact BytesAt.nil W
 ·refine ⟨by simp;omega,h1,by unfold maxLen at h2;omega,fun h0=>?_,fun z hz=>?_,fun h=>by cases h⟩
  ·have c0:=h4 0 (by omega)
   obtain ⟨b,off,spot⟩:=x
   obtain rfl:spot=none:=by simpa [Addr.add] using World.cell?_spot c0
   refine ⟨b,off,rfl,fun j z hz=>?_⟩
   have hj:j<len:=by have:=(List.getElem?_eq_some_iff.1 hz).1;simp at this;omega
   rw [List.getElem?_take_of_lt hj] at hz
   have:=h4 j (by omega)
   rw [Addr.add_mid] at this
   rw [this,List.getD_eq_getElem?_getD,hz];rfl
  ·have:=h5 z (List.mem_of_mem_take hz)
   have:0≤z∧z≤255:=by simpa [Lit.wf,IntKind.min,IntKind.max,IntKind.bits,IntKind.signed] using this
   omega
theorem retV {a b:Value}(h:a=b):Ending.returned a=.returned b:=by rw [h]
def Bts (base:Nat)(w:World)(v:Value)(l:List Int):Prop:=w.ownsRow base 5 1 v l.length (u8s l)
theorem Bts.below {base:Nat}{w w':World}{v:Value}{l:List Int}(h:Bts base w v l)(b:Below w.heap.size w w'):Bts base w' v l:=by
 refine ⟨h.1,?_⟩
 rcases h.2 with h | ⟨g,cap,cur,e1,e2,e3,r⟩
 ·exact .inl h
 ·exact .inr ⟨g,cap,cur,e1,e2,(b.block g (Array.getElem?_eq_some_iff.1 e3).1).trans e3,r⟩
theorem Bts.mono {b b':Nat}{w:World}{v:Value}{l:List Int}(h:Bts b w v l)(hb:b'≤b):Bts b' w v l:=by
 refine ⟨h.1,?_⟩
 rcases h.2 with h | ⟨g,cap,cur,e1,e2,r⟩
 ·exact .inl h
 ·exact .inr ⟨g,cap,cur,e1,by omega,r⟩
theorem Bts.nil (base:Nat)(w:World):Bts base w (.slice none 0 0) []:=World.ownsRow_nil _ _ _ _
theorem Bts.at {base:Nat}{w:World}{v:Value}{l:List Int}(h:Bts base w v l)(ok:Oks l):∃ a c,v=.slice a l.length c∧BytesAt w a l.length c l:=by
 rcases h.2 with ⟨h1,h2⟩ | ⟨g,cap,cur,e1,e2,e3,e4,e5,e6,e7⟩
 ·obtain rfl:l=[]:=List.eq_nil_of_length_eq_zero h2
  exact ⟨none,0,h1,BytesAt.nil w⟩
 ·refine ⟨_,cap,e1,rfl,e4,by unfold maxLen at e5;omega,fun _=>⟨g,0,rfl,fun j z hz=>?_⟩,ok,fun h=>by cases h⟩
  have hj:j<l.length:=(List.getElem?_eq_some_iff.1 hz).1
  have h1:(cur.toList.take (l.length * 1))[j]?=some (.int .u8 z):=by rw [e7];unfold u8s;rw [List.getElem?_map,hz];rfl
  rw [List.getElem?_take_of_lt (by omega),Array.getElem?_toList] at h1
  simp only [World.cell?,e3,Nat.zero_add]
  exact h1
theorem one_own {base:Nat}(w:World)(p:Int)(hb:base≤w.heap.size):Bts base (w.alloc (.cells #[.int .u8 p] 5)) (.slice (some ⟨w.heap.size,0,none⟩) 1 1) [p]:=
 ⟨rfl,.inr ⟨w.heap.size,1,_,rfl,hb,heap_last w _ _ rfl,Nat.le_refl _,by decide,rfl,rfl⟩⟩
theorem one_at (w:World)(p:Int)(hp:0≤p∧p<256):BytesAt (w.alloc (.cells #[.int .u8 p] 5)) (some ⟨w.heap.size,0,none⟩) 1 1 [p]:=by
 obtain ⟨a,c,e,h⟩:=(one_own (base:=0) w p (Nat.zero_le _)).at (fun z hz=>by
  obtain rfl:z=p:=by simpa using hz
  exact hp)
 injection e with e1 e2 e3
 subst e1 e3
 exact h
theorem row_own {w:World}{z n base:Nat}{f:Nat→Int}(h:w.rowIs z 5 n (fun i=>.int .u8 (f i)))(hb:base≤z)(hm:n≤maxLen):Bts base w (.slice (some ⟨z,0,none⟩) n n) ((List.range n).map f):=by
 obtain ⟨cur,h1,h2,h3⟩:=h
 refine ⟨by simp [u8s],.inr ⟨z,n,cur,by simp,hb,h1,by simp,hm,by omega,?_⟩⟩
 apply List.ext_getElem?
 intro i
 simp only [List.length_map,List.length_range]
 by_cases hi:i<n
 ·have:=h3 i hi
  rw [List.getElem?_take_of_lt (by omega),Array.getElem?_toList,this]
  simp [u8s,hi]
 ·rw [List.getElem?_eq_none (by simp;omega),List.getElem?_eq_none (by simp [u8s];omega)]
theorem below_grown {W w w':World}{row:Option Nat}(h:Below W.heap.size W w)(g:w.grownBy w' row)(hr:∀ k,row=some k→W.heap.size≤k):Below W.heap.size W w':=
 h.trans ⟨g.os,g.tape,g.output,g.size,fun k hk=>g.block k (Nat.lt_of_lt_of_le hk h.size) (fun e=>by have:=hr k e.symm;omega)⟩
theorem Bts.lt {base:Nat}{w:World}{v:Value}{l:List Int}(h:Bts base w v l):∀ k,v.ownBlock=some k→base≤k:=fun k hk=>(World.ownsRow.lt h k hk).1
theorem info_u8a:∃ i,Tryz.prog.info? 5=some i∧i.zero=some (.int .u8 0)∧i.size=1∧i.bytes=1:=by
 have h:(Tryz.prog.info? 5).map (fun i=>(i.zero,i.size,i.bytes))=some (some (.int .u8 0),1,1):=by kernel_rfl
 cases hi:Tryz.prog.info? 5 with
 | none=>rw [hi] at h;simp at h
 | some i=>rw [hi] at h;simp at h;exact ⟨i,rfl,h.1,h.2.1,h.2.2⟩
theorem wpList_append_b {ops:Array Oper}{rest:List Oper}{o:Oper}{a:Act}{Q:Exit→Act→World→Prop}{w:World}(hgd:o.guard=none)(s x:Operand)
  (ho:o.op=.call { callee:=.builtin .append,args:=#[s,x],argTypes:=#[64,64] })
  (base:Nat) (v:Value) (l:List Int) (hs:a.eval s=v) (hown:Bts base w v l) (xa:Option Addr) (m c:Nat) (zs:List Int) (hx:a.eval x=.slice xa m c) (hE:BytesAt w xa m c zs)
  (hfew:l.length+m≤100000) (hb:base≤w.heap.size)
  (h:∀ v' w',Bts base w' v' (l ++ zs)→w.grownBy w' v.ownBlock→wpList Tryz.prog ops Q rest (a.put o.dst v') w'):wpList Tryz.prog ops Q (o :: rest) a w:=by
 obtain ⟨ti,i1,i2,i3,i4⟩:=info_u8a
 have hl:=hE.size
 cases xa with
 | none=>
  have h0:=hE.nilc rfl
  have h1:=hE.le
  obtain rfl:zs=[]:=List.eq_nil_of_length_eq_zero (by omega)
  obtain rfl:m=0:=by omega
  subst h0
  refine wpList_append_own_none hgd s x 64 ho base 5 ti 1 Tryz.underlying64 i1 v l.length (u8s l) hs hown hx ?_
  exact h v w (by rw [List.append_nil];exact hown) ⟨rfl,rfl,rfl,Nat.le_refl _,fun _ _ _=>rfl⟩
 | some ad=>
  refine wpList_append_own w hgd s x 64 ho base 5 ti (.int .u8 0) 1 1 Tryz.underlying64 i1 i2 i3 i4 rfl (by decide) v l.length (u8s l) hs hown ad m c (u8s zs) hx (by simp [u8s];omega) (fun j u hu=>?_) (u8s_one zs) (by unfold maxLen;omega) (by omega) hb (fun v' w' o g _=>h v' w' ?_ g)
  ·unfold u8s at hu
   rw [List.getElem?_map] at hu
   cases hz:zs[j]? with
   | none=>rw [hz] at hu;cases hu
   | some z=>
    rw [hz] at hu
    obtain rfl:Value.int .u8 z=u:=by simpa using hu
    have hj:j<zs.length:=(List.getElem?_eq_some_iff.1 hz).1
    obtain ⟨b',o',e,hc⟩:=hE.here (by omega)
    injection e with e
    subst e
    rw [Addr.add_mid]
    exact hc j z hz
  ·unfold Bts
   rw [u8s_append,List.length_append,← hl]
   exact o
def RetB (l:List Int)(c:Int)(W:World)(e:Ending)(w':World):Prop:=∃ v,e=.returned (.tuple #[v,.int .i64 c])∧Bts W.heap.size w' v l∧Below W.heap.size W w'
def RetV (l:List Int)(W:World)(e:Ending)(w':World):Prop:=∃ v,e=.returned v∧Bts W.heap.size w' v l∧Below W.heap.size W w'
def regB (r:Int):Bool:=decide (0≤r) && decide (r<16)
def bothB (r m:Int):Bool:=regB r && regB m
def bitI (b:Bool)(v:Int):Int:=bif b then v else 0
def rexI (w:Bool)(r m:Int):Int:=64+bitI w 8+bitI (decide (8≤r)) 4+bitI (decide (8≤m)) 1
def needB (r m:Int):Bool:=bothB r m && (decide (8≤r) || decide (8≤m))
theorem regB_iff {r:Int}:regB r=true↔0≤r∧r<16:=by unfold regB;simp
theorem bothB_iff {r m:Int}:bothB r m=true↔(0≤r∧r<16)∧0≤m∧m<16:=by unfold bothB;rw [Bool.and_eq_true,regB_iff,regB_iff]
theorem rex_or (w b c:Bool):bits .or .u8 (bits .or .u8 (bits .or .u8 64 (bitI w 8)) (bitI b 4)) (bitI c 1)=64+bitI w 8+bitI b 4+bitI c 1:=by
 cases w <;> cases b <;> cases c <;> decide +kernel
def opI (k r m:Int):Int:=k+r % 8 * 8+m % 8
theorem op_fin (q:Bool):∀ r m:Fin 8,bits .or .u8 (bits .or .u8 (if q then 192 else 128) ((r.1:Int) * 8)) (m.1:Int)=(if q then 192 else 128)+(r.1:Int) * 8+(m.1:Int):=by
 cases q <;> decide +kernel
theorem op_or (q:Bool)(r m:Int):bits .or .u8 (bits .or .u8 (if q then 192 else 128) (r % 8 * 8)) (m % 8)=opI (if q then 192 else 128) r m:=by
 have:=op_fin q ⟨(r % 8).toNat,by omega⟩ ⟨(m % 8).toNat,by omega⟩
 simp only [Int.toNat_of_nonneg (show 0≤r % 8 by omega),Int.toNat_of_nonneg (show 0≤m % 8 by omega)] at this
 exact this
def byS (v:Int)(i:Nat):Int:=v / 2 ^ (8 * i) % 256
def numL (v:Int)(n:Nat):List Int:=(List.range n).map (byS v)
def fitB (v:Int)(n:Nat):Bool:=decide (-2 ^ (8 * n - 1)≤v) && decide (v<2 ^ (8 * n - 1))
def wid (n:Int):Bool:=n == 1 || n == 2 || n == 4
def numB (v n:Int):Bool:=wid n && fitB v n.toNat
def midL (m:Int):List Int:=if m % 8=4 then [36] else []
def regL (r m:Int):List Int:=[opI 192 r m]
def memL (r m d:Int):List Int:=[opI 128 r m] ++ (midL m ++ numL d 4)
def memB (r m d:Int):Bool:=bothB r m && fitB d 4
theorem numL_ok (v:Int)(n:Nat):Oks (numL v n):=by
 intro z hz
 obtain ⟨i,_,rfl⟩:=List.mem_map.1 hz
 unfold byS;omega
theorem numL_length (v:Int)(n:Nat):(numL v n).length=n:=by simp [numL]
theorem numL_next (v:Int)(k:Nat):numL v (k+1)=numL v k ++ [byS v k]:=by
 unfold numL
 rw [List.range_succ,List.map_append];rfl
theorem midL_ok (m:Int):Oks (midL m):=by
 intro z hz
 unfold midL at hz
 split at hz
 ·obtain rfl:z=36:=by simpa using hz
  omega
 ·cases hz
theorem opI_bd {k r m:Int}(hk:k=192∨k=128):0≤opI k r m∧opI k r m<256:=by unfold opI;omega
theorem one_ok {z:Int}(h:0≤z∧z<256):Oks [z]:=by
 intro y hy
 obtain rfl:y=z:=by simpa using hy
 exact h
theorem Oks.append {l m:List Int}(h:Oks l)(g:Oks m):Oks (l ++ m):=fun z hz=>(List.mem_append.1 hz).elim (h z) (g z)
theorem regL_ok (r m:Int):Oks (regL r m):=one_ok (opI_bd (.inl rfl))
theorem memL_ok (r m d:Int):Oks (memL r m d):=(one_ok (opI_bd (.inr rfl))).append ((midL_ok m).append (numL_ok d 4))
theorem register_n (r:Int)(W:World):Calls Tryz.prog 145 #[.int .i8 r] W fun e w'=>e=.returned (.bool (regB r))∧W=w':=by
 by_cases h0:0≤r
 ·go_enter Tryz.func145,Tryz.ntmps145
  go_wp2
  go_ret
  exact ⟨retV (by unfold regB;simp [h0]),rfl⟩
 ·have e:regB r=false:=by unfold regB;simp [h0]
  rw [e]
  have h1:r<0:=by omega
  clear h0 e
  go_enter Tryz.func145,Tryz.ntmps145
  go_wp2
  go_ret
  exact ⟨rfl,rfl⟩
theorem both_n (r m:Int)(W:World):Calls Tryz.prog 115 #[.int .i8 r,.int .i8 m] W fun e w'=>e=.returned (.bool (bothB r m))∧W=w':=by
 have R:=Lib.hid (fun W=>register_n r W)
 have M:=Lib.hid (fun W=>register_n m W)
 unfold bothB
 generalize regB r=b at *
 generalize regB m=c at *
 cases b
 ·go_enter Tryz.func115,Tryz.ntmps115
  go_wp2_with (first | (refine (R.out _).mono ?_;rintro e w1 ⟨rfl,rfl⟩))
  go_ret
  exact ⟨rfl,rfl⟩
 ·go_enter Tryz.func115,Tryz.ntmps115
  go_wp2_with fail
  refine (R.out _).mono ?_
  rintro e w1 ⟨rfl,rfl⟩
  go_wp2_with fail
  refine (M.out _).mono ?_
  rintro e w1 ⟨rfl,rfl⟩
  go_wp2
  go_ret
  exact ⟨rfl,rfl⟩
theorem bit_n (b:Bool)(v:Int)(W:World):Calls Tryz.prog 144 #[.bool b,.int .u8 v] W fun e w'=>e=.returned (.int .u8 (bitI b v))∧W=w':=by
 cases b
 ·go_enter Tryz.func144,Tryz.ntmps144
  go_wp2
  go_ret
  exact ⟨rfl,rfl⟩
 ·go_enter Tryz.func144,Tryz.ntmps144
  go_wp2
  go_ret
  exact ⟨rfl,rfl⟩
theorem rex_n (w:Bool)(r m:Int)(W:World):Calls Tryz.prog 114 #[.bool w,.int .i8 r,.int .i8 m] W fun e w'=>e=.returned (.tuple #[.int .u8 (bif bothB r m then rexI w r m else 0),.int .i64 (bif bothB r m then 0 else 2)])∧W=w':=by
 have B:=Lib.hid (fun W=>both_n r m W)
 cases h:bothB r m
 ·rw [h] at B
  go_enter Tryz.func114,Tryz.ntmps114
  go_wp2_with fail
  refine (B.out _).mono ?_
  rintro e w1 ⟨rfl,rfl⟩
  go_wp2
  go_ret2
  exact ⟨rfl,rfl⟩
 ·rw [h] at B
  have T1:=Lib.hid (fun W=>bit_n w 8 W)
  have T2:=Lib.hid (fun W=>bit_n (decide (8≤r)) 4 W)
  have T3:=Lib.hid (fun W=>bit_n (decide (8≤m)) 1 W)
  have HE:=Lib.hid (rex_or w (decide (8≤r)) (decide (8≤m)))
  clear h
  unfold rexI
  generalize bitI w 8=x1 at *
  generalize bitI (decide (8≤r)) 4=x2 at *
  generalize bitI (decide (8≤m)) 1=x3 at *
  go_enter Tryz.func114,Tryz.ntmps114
  go_wp2_with fail
  refine (B.out _).mono ?_
  rintro e w1 ⟨rfl,rfl⟩
  go_wp2_with fail
  refine (T1.out _).mono ?_
  rintro e w1 ⟨rfl,rfl⟩
  go_wp2_with fail
  refine (T2.out _).mono ?_
  rintro e w1 ⟨rfl,rfl⟩
  go_wp2_with fail
  refine (T3.out _).mono ?_
  rintro e w1 ⟨rfl,rfl⟩
  go_wp2
  go_ret2
  exact ⟨by rw [HE.out];rfl,rfl⟩
theorem needs_n (r m:Int)(W:World):Calls Tryz.prog 113 #[.int .i8 r,.int .i8 m] W fun e w'=>e=.returned (.bool (needB r m))∧W=w':=by
 have B:=Lib.hid (fun W=>both_n r m W)
 unfold needB
 cases h:bothB r m
 ·rw [h] at B
  go_enter Tryz.func113,Tryz.ntmps113
  go_wp2_with fail
  refine (B.out _).mono ?_
  rintro e w1 ⟨rfl,rfl⟩
  go_wp2
  go_ret
  exact ⟨rfl,rfl⟩
 ·rw [h] at B
  clear h
  by_cases h8:8≤r
  ·go_enter Tryz.func113,Tryz.ntmps113
   go_wp2_with fail
   refine (B.out _).mono ?_
   rintro e w1 ⟨rfl,rfl⟩
   go_wp2
   go_ret
   exact ⟨retV (by simp [h8]),rfl⟩
  ·have h7:r<8:=by omega
   go_enter Tryz.func113,Tryz.ntmps113
   go_wp2_with fail
   refine (B.out _).mono ?_
   rintro e w1 ⟨rfl,rfl⟩
   go_wp2
   go_ret
   exact ⟨retV (by simp [h8]),rfl⟩
theorem unused_n (n:Nat)(h:n≤8)(W:World):Calls Tryz.prog 146 #[.int .i64 n] W fun e w'=>e=.returned (.int .u64 ((64 - 8 * n:Nat):Int))∧W=w':=by
 go_enter Tryz.func146,Tryz.ntmps146
 go_wp2
 go_ret
 exact ⟨retV (show Value.int .u64 _=_ by congr 1;omega),rfl⟩
theorem fits_n (v:Int)(n k:Nat)(h:n≤8)(hk:64 - 8 * n=k)(hk1:k≤63)(W:World)(b:Bool)(hb:(wrap64 (v * 2 ^ k) / 2 ^ k == v)=b):Calls Tryz.prog 118 #[.int .i64 v,.int .i64 n] W fun e w'=>e=.returned (.bool b)∧W=w':=by
 have U:=Lib.hid (fun W=>unused_n n h W)
 rw [hk] at U
 go_enter Tryz.func118,Tryz.ntmps118
 go_wp2_with fail
 refine (U.out _).mono ?_
 rintro e w1 ⟨rfl,rfl⟩
 go_wp2
 go_ret
 exact ⟨retV rfl,rfl⟩
theorem fit_is (v:Int)(m k:Nat)(h0:-9223372036854775808≤v)(h1:v≤9223372036854775807)(h:m=1∧k=56∨m=2∧k=48∨m=4∧k=32):(wrap64 (v * 2 ^ k) / 2 ^ k == v)=fitB v m:=by
 unfold fitB
 unfold wrap64
 rw [← Bool.decide_and,Bool.beq_eq_decide_eq]
 apply decide_eq_decide.2
 rcases h with ⟨rfl,rfl⟩ | ⟨rfl,rfl⟩ | ⟨rfl,rfl⟩
 ·show _=v↔(-128≤v∧v<128)
  omega
 ·show _=v↔(-32768≤v∧v<32768)
  omega
 ·show _=v↔(-2147483648≤v∧v<2147483648)
  omega
theorem info_u8:(Tryz.prog.info? 5).map (fun i=>(i.zero,i.size,i.bytes))=some (some (.int .u8 0),1,1):=by kernel_rfl
theorem by_next (v:Int)(k i:Nat):(if i=k then Value.int .u8 (v / 2 ^ (8 * k) % 256) else Value.int .u8 (if i<k then byS v i else 0))=Value.int .u8 (if i<k+1 then byS v i else 0):=by
 by_cases h:i=k
 ·subst h;rw [if_pos rfl,if_pos (by omega)];rfl
 ·rw [if_neg h]
  by_cases h':i<k
  ·rw [if_pos h',if_pos (by omega)]
  ·rw [if_neg h',if_neg (by omega)]
theorem wid_no {n:Int}(h:wid n=false):¬ n=1∧¬ n=2∧¬ n=4:=by
 unfold wid at h
 simp only [Bool.or_eq_false_iff,beq_eq_false_iff_ne] at h
 omega
theorem num_wid (v n:Int)(h:wid n=false)(W:World):Calls Tryz.prog 104 #[.int .i64 v,.int .i64 n] W (RetB [] 2 W):=by
 obtain ⟨h1,h2,h3⟩:=wid_no h
 have e1:(n != 1)=true:=by simpa using h1
 have e2:(n != 2)=true:=by simpa using h2
 have e3:(n != 4)=true:=by simpa using h3
 clear h h1 h2 h3
 unfold RetB
 go_enter Tryz.func104,Tryz.ntmps104
 go_wp2_with fail
 go_ret2
 exact ⟨_,rfl,Bts.nil _ _,Below.refl _ _⟩
theorem num_no1 (v:Int)(h0:-9223372036854775808≤v)(h1:v≤9223372036854775807)(h:fitB v 1=false)(W:World):Calls Tryz.prog 104 #[.int .i64 v,.int .i64 1] W (RetB [] 2 W):=by
 have F:=Lib.hid (fun W=>fits_n v 1 56 (by decide) rfl (by decide) W _ ((fit_is v 1 56 h0 h1 (by decide)).trans h))
 clear h0 h1 h
 unfold RetB
 go_enter Tryz.func104,Tryz.ntmps104
 go_wp2_with fail
 refine (F.out _).mono ?_
 rintro e w1 ⟨rfl,rfl⟩
 go_wp2_with fail
 go_ret2
 exact ⟨_,rfl,Bts.nil _ _,Below.refl _ _⟩
theorem num_yes1 (v:Int)(h0:-9223372036854775808≤v)(h1:v≤9223372036854775807)(h:fitB v 1=true)(W:World):Calls Tryz.prog 104 #[.int .i64 v,.int .i64 1] W (RetB (numL v 1) 0 W):=by
 have F:=Lib.hid (fun W=>fits_n v 1 56 (by decide) rfl (by decide) W _ ((fit_is v 1 56 h0 h1 (by decide)).trans h))
 have hmk:∀ w,(Instr.makeSlice 64 (.int .i64 1) (.int .i64 1)).run Tryz.prog w=.ok (.slice (some ⟨w.heap.size,0,none⟩) 1 1) (w.alloc (.cells (madeCells #[.int .u8 0] 1) 5)):=fun w=>run_make_row' (P:=Tryz.prog) 64 5 (.int .u8 0) 1 Tryz.underlying64 info_u8 rfl .i64 .i64 1 (by omega) (by omega) w
 clear h
 unfold RetB
 go_enter Tryz.func104,Tryz.ntmps104
 go_wp2_with fail
 refine (F.out _).mono ?_
 rintro e w1 ⟨rfl,rfl⟩
 go_wp2
 go_loopw [28] (fun i wr=>∃ k:Nat,k≤1∧i=.int .i64 k∧Below W.heap.size W wr∧wr.rowIs W.heap.size 5 1 (fun i=>.int .u8 (if i<k then byS v i else 0))) (fun i _=>1 - (intOf i).toNat)
 case atStart=>exact ⟨0,by omega,rfl,(Below.refl _ _).alloc (Nat.le_refl _) _,(World.rowIs_made _ _ _ _).congr (fun i hi=>rfl)⟩
 case round=>
  obtain ⟨k,hk,rfl,hB,hR⟩:=hrel
  by_cases hlt:k<1
  ·have hc:=hR.cell hlt
   have hf:=hR.frozen k
   have e1:min (8 * k) 64=8 * k:=by omega
   have e2:8 * k≤63:=by omega
   go_wp2
   go_roundw
   case rel=>
    refine ⟨k+1,by omega,by go_num,hB.setCell (Nat.le_refl _) _,?_⟩
    exact (hR.set k _).congr (fun i hi=>by_next v k i)
   case measure=>simp [intOf];omega
  ·obtain rfl:k=1:=by omega
   go_wp2
   go_ret2
   exact ⟨_,rfl,row_own (hR.congr (g:=fun i=>.int .u8 (byS v i)) (fun i hi=>by rw [if_pos hi])) (Nat.le_refl _) (by decide),hB⟩
theorem num_no2 (v:Int)(h0:-9223372036854775808≤v)(h1:v≤9223372036854775807)(h:fitB v 2=false)(W:World):Calls Tryz.prog 104 #[.int .i64 v,.int .i64 2] W (RetB [] 2 W):=by
 have F:=Lib.hid (fun W=>fits_n v 2 48 (by decide) rfl (by decide) W _ ((fit_is v 2 48 h0 h1 (by decide)).trans h))
 clear h0 h1 h
 unfold RetB
 go_enter Tryz.func104,Tryz.ntmps104
 go_wp2_with fail
 refine (F.out _).mono ?_
 rintro e w1 ⟨rfl,rfl⟩
 go_wp2_with fail
 go_ret2
 exact ⟨_,rfl,Bts.nil _ _,Below.refl _ _⟩
theorem num_yes2 (v:Int)(h0:-9223372036854775808≤v)(h1:v≤9223372036854775807)(h:fitB v 2=true)(W:World):Calls Tryz.prog 104 #[.int .i64 v,.int .i64 2] W (RetB (numL v 2) 0 W):=by
 have F:=Lib.hid (fun W=>fits_n v 2 48 (by decide) rfl (by decide) W _ ((fit_is v 2 48 h0 h1 (by decide)).trans h))
 have hmk:∀ w,(Instr.makeSlice 64 (.int .i64 2) (.int .i64 2)).run Tryz.prog w=.ok (.slice (some ⟨w.heap.size,0,none⟩) 2 2) (w.alloc (.cells (madeCells #[.int .u8 0] 2) 5)):=fun w=>run_make_row' (P:=Tryz.prog) 64 5 (.int .u8 0) 1 Tryz.underlying64 info_u8 rfl .i64 .i64 2 (by omega) (by omega) w
 clear h
 unfold RetB
 go_enter Tryz.func104,Tryz.ntmps104
 go_wp2_with fail
 refine (F.out _).mono ?_
 rintro e w1 ⟨rfl,rfl⟩
 go_wp2
 go_loopw [28] (fun i wr=>∃ k:Nat,k≤2∧i=.int .i64 k∧Below W.heap.size W wr∧wr.rowIs W.heap.size 5 2 (fun i=>.int .u8 (if i<k then byS v i else 0))) (fun i _=>2 - (intOf i).toNat)
 case atStart=>exact ⟨0,by omega,rfl,(Below.refl _ _).alloc (Nat.le_refl _) _,(World.rowIs_made _ _ _ _).congr (fun i hi=>rfl)⟩
 case round=>
  obtain ⟨k,hk,rfl,hB,hR⟩:=hrel
  by_cases hlt:k<2
  ·have hc:=hR.cell hlt
   have hf:=hR.frozen k
   have e1:min (8 * k) 64=8 * k:=by omega
   have e2:8 * k≤63:=by omega
   go_wp2
   go_roundw
   case rel=>
    refine ⟨k+1,by omega,by go_num,hB.setCell (Nat.le_refl _) _,?_⟩
    exact (hR.set k _).congr (fun i hi=>by_next v k i)
   case measure=>simp [intOf];omega
  ·obtain rfl:k=2:=by omega
   go_wp2
   go_ret2
   exact ⟨_,rfl,row_own (hR.congr (g:=fun i=>.int .u8 (byS v i)) (fun i hi=>by rw [if_pos hi])) (Nat.le_refl _) (by decide),hB⟩
theorem num_no4 (v:Int)(h0:-9223372036854775808≤v)(h1:v≤9223372036854775807)(h:fitB v 4=false)(W:World):Calls Tryz.prog 104 #[.int .i64 v,.int .i64 4] W (RetB [] 2 W):=by
 have F:=Lib.hid (fun W=>fits_n v 4 32 (by decide) rfl (by decide) W _ ((fit_is v 4 32 h0 h1 (by decide)).trans h))
 clear h0 h1 h
 unfold RetB
 go_enter Tryz.func104,Tryz.ntmps104
 go_wp2_with fail
 refine (F.out _).mono ?_
 rintro e w1 ⟨rfl,rfl⟩
 go_wp2_with fail
 go_ret2
 exact ⟨_,rfl,Bts.nil _ _,Below.refl _ _⟩
theorem num_yes4 (v:Int)(h0:-9223372036854775808≤v)(h1:v≤9223372036854775807)(h:fitB v 4=true)(W:World):Calls Tryz.prog 104 #[.int .i64 v,.int .i64 4] W (RetB (numL v 4) 0 W):=by
 have F:=Lib.hid (fun W=>fits_n v 4 32 (by decide) rfl (by decide) W _ ((fit_is v 4 32 h0 h1 (by decide)).trans h))
 have hmk:∀ w,(Instr.makeSlice 64 (.int .i64 4) (.int .i64 4)).run Tryz.prog w=.ok (.slice (some ⟨w.heap.size,0,none⟩) 4 4) (w.alloc (.cells (madeCells #[.int .u8 0] 4) 5)):=fun w=>run_make_row' (P:=Tryz.prog) 64 5 (.int .u8 0) 1 Tryz.underlying64 info_u8 rfl .i64 .i64 4 (by omega) (by omega) w
 clear h
 unfold RetB
 go_enter Tryz.func104,Tryz.ntmps104
 go_wp2_with fail
 refine (F.out _).mono ?_
 rintro e w1 ⟨rfl,rfl⟩
 go_wp2
 go_loopw [28] (fun i wr=>∃ k:Nat,k≤4∧i=.int .i64 k∧Below W.heap.size W wr∧wr.rowIs W.heap.size 5 4 (fun i=>.int .u8 (if i<k then byS v i else 0))) (fun i _=>4 - (intOf i).toNat)
 case atStart=>exact ⟨0,by omega,rfl,(Below.refl _ _).alloc (Nat.le_refl _) _,(World.rowIs_made _ _ _ _).congr (fun i hi=>rfl)⟩
 case round=>
  obtain ⟨k,hk,rfl,hB,hR⟩:=hrel
  by_cases hlt:k<4
  ·have hc:=hR.cell hlt
   have hf:=hR.frozen k
   have e1:min (8 * k) 64=8 * k:=by omega
   have e2:8 * k≤63:=by omega
   go_wp2
   go_roundw
   case rel=>
    refine ⟨k+1,by omega,by go_num,hB.setCell (Nat.le_refl _) _,?_⟩
    exact (hR.set k _).congr (fun i hi=>by_next v k i)
   case measure=>simp [intOf];omega
  ·obtain rfl:k=4:=by omega
   go_wp2
   go_ret2
   exact ⟨_,rfl,row_own (hR.congr (g:=fun i=>.int .u8 (byS v i)) (fun i hi=>by rw [if_pos hi])) (Nat.le_refl _) (by decide),hB⟩
theorem num_n (v n:Int)(h0:-9223372036854775808≤v)(h1:v≤9223372036854775807)(W:World):Calls Tryz.prog 104 #[.int .i64 v,.int .i64 n] W (RetB (bif numB v n then numL v n.toNat else []) (bif numB v n then 0 else 2) W):=by
 unfold numB
 cases h:wid n
 ·exact num_wid v n h W
 ·have h3:n=1∨n=2∨n=4:=by
   unfold wid at h
   simp only [Bool.or_eq_true,beq_iff_eq] at h
   omega
  rcases h3 with rfl | rfl | rfl
  ·show Calls _ _ _ _ (RetB (bif fitB v 1 then numL v 1 else []) (bif fitB v 1 then 0 else 2) W)
   cases g:fitB v 1
   ·exact num_no1 v h0 h1 g W
   ·exact num_yes1 v h0 h1 g W
  ·show Calls _ _ _ _ (RetB (bif fitB v 2 then numL v 2 else []) (bif fitB v 2 then 0 else 2) W)
   cases g:fitB v 2
   ·exact num_no2 v h0 h1 g W
   ·exact num_yes2 v h0 h1 g W
  ·show Calls _ _ _ _ (RetB (bif fitB v 4 then numL v 4 else []) (bif fitB v 4 then 0 else 2) W)
   cases g:fitB v 4
   ·exact num_no4 v h0 h1 g W
   ·exact num_yes4 v h0 h1 g W
end Go.Proofs.YtjhedldplmhmjaaGreatDoor.Mrm
