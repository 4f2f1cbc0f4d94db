import Derived.Test.YtbpehbeakhocnaaGreatDoorIRm09
import Derived.Test.YtbpehbeakhocnaaGreatDoorIRm08
import Derived.Test.YtbpehbeakhocnaaGreatDoorIRm02
set_option maxHeartbeats 2000000
set_option linter.unusedVariables false
set_option linter.unusedSimpArgs false
set_option linter.unnecessarySimpa false
namespace Go.Proofs.YtbpehbeakhocnaaGreatDoor.Mrm
open Go Go.RowKit
set_option maxRecDepth 100000
theorem put4_at (v:Int) (W:World):Calls Tryz.prog 118 #[.int .u64 (IntKind.u64.wrap v),.int .i64 4] W fun e w'=>∃ a c,e=.returned (.slice a 4 c) ∧ BytesAt w' a 4 c (numL v 4) ∧ Below W.heap.size W w':=by
  refine (put4_n v W).mono ?_
  rintro e w' ⟨u,rfl,o,b⟩
  obtain ⟨a,c,rfl,h⟩:=o.at (numL_ok v 4)
  exact ⟨a,c,rfl,h,b⟩
theorem ememory_n (r m d:Int) (hr:0 ≤ r ∧ r < 16) (hm:0 ≤ m ∧ m < 16) (W:World):Calls Tryz.prog 119 #[.int .i8 r,.int .i8 m,.int .i64 d] W (RetV (memL r m d) W):=by
  have e1:=and7c hr
  have e2:=and7c hm
  have PT:=Lib.hid (fun W=>put4_at d W)
  have HL:=Lib.hid (numL_length d 4)
  unfold RetV memL midL opI
  generalize numL d 4=nl at *
  generalize hA:r % 8=a at *
  generalize hB:m % 8=b at *
  have a0:0 ≤ a ∧ a < 8:=by omega
  have b0:0 ≤ b ∧ b < 8:=by omega
  obtain ⟨a1,a2⟩:=a0
  obtain ⟨b1,b2⟩:=b0
  clear hA hB hr hm
  by_cases c4:b=4
  · rw [if_pos c4,show (128 + a * 8 + b:Int)=128 + 8 * a + 4 by omega]
    subst c4
    have O2:=Lib.hid (one_own (base:=W.heap.size) W (128 + 8 * a + 4) (Nat.le_refl _))
    have E36:=Lib.hid (show BytesAt ((W.alloc (.cells #[.int .u8 (128 + 8 * a + 4)] 5)).alloc (.cells #[.int .u8 36] 5)) (some ⟨W.heap.size + 1,0,none⟩) 1 1 [36] by
      have h:=one_at (W.alloc (.cells #[.int .u8 (128 + 8 * a + 4)] 5)) 36 (by decide)
      rw [show (W.alloc (.cells #[.int .u8 (128 + 8 * a + 4)] 5)).heap.size=W.heap.size + 1 by simp] at h
      exact h)
    go_enter Tryz.func119,Tryz.ntmps119
    go_wp2_with (at_builtin;refine wpList_append_b rfl _ _ rfl W.heap.size _ [128 + 8 * a + 4] rfl (O2.out.below (below_new (Below.refl _ _) _)) _ 1 1 [36] rfl E36.out (by simp) (by simp;omega) ?_)
    intro v3 w3 o3 g3
    have BA:=Lib.hid (below_new (below_new (Below.refl W.heap.size W) (.cells #[.int .u8 (128 + 8 * a + 4)] 5)) (.cells #[.int .u8 36] 5))
    have B3:=Lib.hid (below_grown BA.out g3 (fun j hj=>by simp [Value.ownBlock] at hj;omega))
    have O3:=Lib.hid o3
    clear o3 g3 BA E36 O2
    go_wp2_with fail
    refine (PT.out _).mono ?_
    rintro e w4 ⟨xa,xc,rfl,e4,b4⟩
    have B4:=Lib.hid (below_call B3.out b4)
    have O4:=Lib.hid (O3.out.below b4)
    have E4:=Lib.hid e4
    clear e4 b4 O3
    go_wp2_with (at_builtin;refine wpList_append_b rfl _ _ rfl W.heap.size _ _ rfl O4.out _ _ _ nl rfl E4.out (by simp) B4.out.size ?_)
    intro v5 w5 o5 g5
    have B5:=Lib.hid (below_grown B4.out g5 (fun j hj=>O4.out.lt j hj))
    have O5:=Lib.hid o5
    clear o5 g5
    go_wp2_with fail
    go_ret
    exact ⟨_,rfl,O5.out,B5.out⟩
  · rw [if_neg c4,show (128 + a * 8 + b:Int)=128 + 8 * a + b by omega]
    have c5:(b == 4)=false:=by simpa using c4
    have O2:=Lib.hid (one_own (base:=W.heap.size) W (128 + 8 * a + b) (Nat.le_refl _))
    have B2:=Lib.hid (below_new (Below.refl W.heap.size W) (.cells #[.int .u8 (128 + 8 * a + b)] 5))
    clear c4
    go_enter Tryz.func119,Tryz.ntmps119
    go_wp2_with fail
    refine (PT.out _).mono ?_
    rintro e w4 ⟨xa,xc,rfl,e4,b4⟩
    have B4:=Lib.hid (below_call B2.out b4)
    have O4:=Lib.hid (O2.out.below b4)
    have E4:=Lib.hid e4
    clear e4 b4 O2
    go_wp2_with (at_builtin;refine wpList_append_b rfl _ _ rfl W.heap.size _ _ rfl O4.out _ _ _ nl rfl E4.out (by simp) B4.out.size ?_)
    intro v5 w5 o5 g5
    have B5:=Lib.hid (below_grown B4.out g5 (fun j hj=>O4.out.lt j hj))
    have O5:=Lib.hid o5
    clear o5 g5
    go_wp2_with fail
    go_ret
    exact ⟨_,rfl,O5.out,B5.out⟩
def bareX (x:Xi):List Int:=
  if x.op=28 then (if x.w=8 then [235,x.imm % 256] else [233] ++ numL x.imm 4) else
  if x.op=29 then (if x.w=8 then [112 + x.cc,x.imm % 256] else [15,128 + x.cc] ++ numL x.imm 4) else
  if x.op=30 then [195] else [15,5]
def bytesX (x:Xi):List Int:=
  if x.op=16 then rexL (x.w == 64) x.dst x.src false ++ [15,175,opI 192 x.dst x.src] else
  if clsI x.op=1 then rexL (x.w == 64) x.src x.dst false ++ [codI x.op,opI 192 x.src x.dst] else
  if x.op=1 then (rexL (x.w == 64) 0 x.dst false ++ (if x.w=64 then [199,opI 192 0 x.dst] else [184 + x.dst % 8])) ++ numL x.imm 4 else
  if clsI x.op=2 then ((rexL (x.w == 64) 0 x.dst false ++ [if x.op=15 then 247 else 129]) ++ [opI 192 (codI x.op) x.dst]) ++ numL x.imm 4 else
  if clsI x.op=3 then rexL (x.w == 64) 0 x.dst false ++ [193,opI 192 (codI x.op) x.dst,x.imm] else
  if clsI x.op=4 then rexL (x.w == 64) 0 x.dst false ++ [if x.op=23 ∨ x.op=24 then 247 else 211,opI 192 (codI x.op) x.dst] else
  if x.op=25 then rexL (x.w == 64) x.dst x.src false ++ [15,64 + x.cc,opI 192 x.dst x.src] else
  if x.op=26 then (rexL (x.w == 64) x.dst x.base false ++ (if x.w=8 then [15,182] else if x.w=16 then [15,183] else [139])) ++ memL x.dst x.base x.disp else
  if x.op=27 then (((if x.w=16 then [102] else []) ++ rexL (x.w == 64) x.src x.base (x.w == 8)) ++ [if x.w=8 then 136 else 137]) ++ memL x.src x.base x.disp
  else bareX x
theorem made_at (w:World) (l:List Int) (ok:Oks l) (h:l.length ≤ 100):BytesAt (w.alloc (.cells (l.map (Value.int .u8)).toArray 5)) (some ⟨w.heap.size,0,none⟩) l.length l.length l:=by
  have hh:Bts 0 (w.alloc (.cells (l.map (Value.int .u8)).toArray 5)) (.slice (some ⟨w.heap.size,0,none⟩) l.length l.length) l:=
    ⟨by simp [u8s],.inr ⟨w.heap.size,l.length,_,rfl,Nat.zero_le _,heap_last w _ _ rfl,Nat.le_refl _,by unfold maxLen;omega,by simp,by simp [u8s,List.take_of_length_le]⟩⟩
  obtain ⟨a,c,e,h⟩:=hh.at ok
  injection e with e1 e2 e3
  subst e1 e3
  exact h
theorem made_own {base:Nat} (w:World) (l:List Int) (h:l.length ≤ 100) (hb:base ≤ w.heap.size):Bts base (w.alloc (.cells (l.map (Value.int .u8)).toArray 5)) (.slice (some ⟨w.heap.size,0,none⟩) l.length l.length) l:=
  ⟨by simp [u8s],.inr ⟨w.heap.size,l.length,_,rfl,hb,heap_last w _ _ rfl,Nat.le_refl _,by unfold maxLen;omega,by simp,by simp [u8s,List.take_of_length_le]⟩⟩
theorem below_boxed {W w':World} {o:Obj} (h:Below (W.alloc o).heap.size (W.alloc o) w'):Below W.heap.size W w':=below_call (below_new (Below.refl _ _) _) h
theorem size1 {W w:World} {o:Obj} (b:Below (W.alloc o).heap.size (W.alloc o) w):W.heap.size + 1 ≤ w.heap.size:=by have:=b.size;simpa using this
theorem grown1 {W w w':World} {o:Obj} {row:Option Nat} (h:Below (W.alloc o).heap.size (W.alloc o) w) (g:w.grownBy w' row) (hr:∀ k,row=some k → W.heap.size + 1 ≤ k):Below (W.alloc o).heap.size (W.alloc o) w':=below_grown h g (fun k hk=>by simpa using hr k hk)
theorem xcells {W w:World} {op wd dst src base disp imm cc:Int} (b:Below (W.alloc (.cells #[.int .i8 op,.int .i8 wd,.int .i8 dst,.int .i8 src,.int .i8 base,.int .i64 disp,.int .i64 imm,.int .i8 cc] 38)).heap.size (W.alloc (.cells #[.int .i8 op,.int .i8 wd,.int .i8 dst,.int .i8 src,.int .i8 base,.int .i64 disp,.int .i64 imm,.int .i8 cc] 38)) w):
    w.cell? ⟨W.heap.size,0,none⟩=some (.int .i8 op) ∧ w.cell? ⟨W.heap.size,1,none⟩=some (.int .i8 wd) ∧ w.cell? ⟨W.heap.size,2,none⟩=some (.int .i8 dst) ∧ w.cell? ⟨W.heap.size,3,none⟩=some (.int .i8 src) ∧
    w.cell? ⟨W.heap.size,4,none⟩=some (.int .i8 base) ∧ w.cell? ⟨W.heap.size,5,none⟩=some (.int .i64 disp) ∧ w.cell? ⟨W.heap.size,6,none⟩=some (.int .i64 imm) ∧ w.cell? ⟨W.heap.size,7,none⟩=some (.int .i8 cc):=by
  have h:=(b.block W.heap.size (by simp)).trans (heap_last W _ _ rfl)
  simp only [World.cell?,h]
  exact ⟨rfl,rfl,rfl,rfl,rfl,rfl,rfl,rfl⟩
theorem cls_is {op k:Int} (h:clsI op=k) (W:World):Calls Tryz.prog 29 #[.int .i8 op] W fun e w'=>e=.returned (.int .i64 k) ∧ W=w':=by rw [← h];exact cls_n op W
theorem cod_is {op k:Int} (h:codI op=k) (W:World):Calls Tryz.prog 115 #[.int .i8 op] W fun e w'=>e=.returned (.int .u8 k) ∧ W=w':=by rw [← h];exact cod_n op W
theorem codI_fin:∀ k:Fin 32,0 ≤ codI (k.1:Int) ∧ codI (k.1:Int) < 256 ∧ (clsI (k.1:Int) ≠ 1 → codI (k.1:Int) < 16):=by decide +kernel
theorem codI_bd (op:Int):0 ≤ codI op ∧ codI op < 256 ∧ (clsI op ≠ 1 → codI op < 16):=by
  by_cases h:0 ≤ op ∧ op < 32
  · have:=codI_fin ⟨op.toNat,by omega⟩
    simp only [Int.toNat_of_nonneg h.1] at this
    exact this
  · unfold codI;rw [if_neg h];exact ⟨by omega,by omega,fun _=>by omega⟩
theorem rexL_ok (wd:Bool) (r m:Int) (al:Bool):Oks (rexL wd r m al):=by
  unfold rexL
  split
  · intro z hz;cases hz
  · refine one_ok ?_
    unfold rexN
    cases wd <;> cases decide (7 < r) <;> cases decide (7 < m) <;> decide
theorem rexL_length (wd:Bool) (r m:Int) (al:Bool):(rexL wd r m al).length ≤ 1:=by unfold rexL;split <;> simp
theorem memL_few (r m d:Int):(memL r m d).length ≤ 6:=by
  unfold memL midL
  split <;> simp [numL_length]
def RetX (l:List Int) (c:Int) (W:World) (e:Ending) (w':World):Prop:=∃ v,e=.returned (.tuple #[v,.int .i64 c]) ∧ Bts W.heap.size w' v l ∧ Below W.heap.size W w'
structure Cd where
  sh:Int
  wd:Int
  va:Int
  dg:Int
  lo:Int
deriving DecidableEq
structure Pt where
  reg:Int
  rm:Int
  disp:Int
  imm:Int
  cc:Int
deriving DecidableEq
def zCd:Cd:=⟨0,0,0,0,0⟩
def codesL:List Cd:=[⟨1,96,137,0,0⟩,⟨3,64,199,0,0⟩,⟨1,96,1,0,0⟩,⟨1,96,9,0,0⟩,⟨1,96,33,0,0⟩,⟨1,96,41,0,0⟩,⟨1,96,49,0,0⟩,⟨1,96,57,0,0⟩,⟨1,96,133,0,0⟩,⟨3,96,129,0,0⟩,⟨3,96,129,1,0⟩,⟨3,96,129,4,0⟩,⟨3,96,129,5,0⟩,⟨3,96,129,6,0⟩,⟨3,96,129,7,0⟩,⟨3,96,247,0,0⟩,⟨2,96,4015,0,0⟩,⟨4,96,193,4,0⟩,⟨4,96,193,5,0⟩,⟨4,96,193,7,0⟩,⟨5,96,211,4,0⟩,⟨5,96,211,5,0⟩,⟨5,96,211,7,0⟩,⟨5,96,247,3,0⟩,⟨5,96,247,6,0⟩,⟨2,96,3904,0,15⟩,⟨7,96,139,0,0⟩,⟨8,112,137,0,0⟩,⟨9,32,233,0,0⟩,⟨9,32,3968,0,15⟩,⟨0,0,195,0,0⟩,⟨0,0,3845,0,0⟩]
def othersL:List (Int × Cd):=[(1,⟨6,32,184,0,7⟩),(26,⟨7,8,4022,0,0⟩),(26,⟨7,16,4023,0,0⟩),(27,⟨8,8,136,0,0⟩),(28,⟨10,8,235,0,0⟩),(29,⟨10,8,112,0,15⟩)]
def codeA (op:Int):Cd:=codesL.getD op.toNat zCd
def hasB (c:Cd) (w:Int):Bool:=bif c.wd == 0 then w == 0 else (widB w && (bits .and .i8 c.wd w != 0))
def ofO:Option (Int × Cd) → Cd × Bool
  | some o=>(o.2,true)
  | none=>(zCd,false)
def codeOfP (op w:Int):Cd × Bool:=
  if op < 0 ∨ 32 ≤ op then (zCd,false) else
  if hasB (codeA op) w then (codeA op,true) else
  ofO (othersL.find? (fun o=>o.1 == op && hasB o.2 w))
def partsP (x:Xi) (c:Cd):Pt:=
  bif c.sh == 1 then ⟨x.src,x.dst,x.disp,x.imm,x.cc⟩ else
  bif c.sh == 2 then ⟨x.dst,x.src,x.disp,x.imm,x.cc⟩ else
  bif c.sh == 3 then ⟨c.dg,x.dst,x.disp,x.imm,x.cc⟩ else
  bif c.sh == 4 then ⟨c.dg,x.dst,x.disp,x.imm,x.cc⟩ else
  bif c.sh == 5 then ⟨c.dg,x.dst,x.disp,x.imm,x.cc⟩ else
  bif c.sh == 6 then ⟨c.dg,x.dst,x.disp,x.imm,x.cc⟩ else
  bif c.sh == 7 then ⟨x.dst,x.base,x.disp,x.imm,x.cc⟩ else
  bif c.sh == 8 then ⟨x.src,x.base,x.disp,x.imm,x.cc⟩ else ⟨0,0,x.disp,x.imm,x.cc⟩
def fillCc (c:Cd) (p:Pt):Int:=bif c.lo == 15 then p.cc else 0
def filledP (op w:Int) (c:Cd) (p:Pt):Xi:=
  bif c.sh == 1 then ⟨op,w,p.rm,p.reg,0,0,0,fillCc c p⟩ else
  bif c.sh == 2 then ⟨op,w,p.reg,p.rm,0,0,0,fillCc c p⟩ else
  bif c.sh == 3 then ⟨op,w,p.rm,0,0,0,p.imm,fillCc c p⟩ else
  bif c.sh == 4 then ⟨op,w,p.rm,0,0,0,p.imm,fillCc c p⟩ else
  bif c.sh == 6 then ⟨op,w,p.rm,0,0,0,p.imm,fillCc c p⟩ else
  bif c.sh == 5 then ⟨op,w,p.rm,0,0,0,0,fillCc c p⟩ else
  bif c.sh == 7 then ⟨op,w,p.reg,0,p.rm,p.disp,0,fillCc c p⟩ else
  bif c.sh == 8 then ⟨op,w,0,p.reg,p.rm,p.disp,0,fillCc c p⟩ else
  bif c.sh == 9 then ⟨op,w,0,0,0,0,p.imm,fillCc c p⟩ else
  bif c.sh == 10 then ⟨op,w,0,0,0,0,p.imm,fillCc c p⟩ else ⟨op,w,0,0,0,0,0,fillCc c p⟩
def fitsP (x:Xi) (c:Cd):Bool:=
  regB x.dst && (regB x.src && (regB x.base && (!(c.lo == 15 && !(ccB x.cc)) &&
  (bif c.sh == 4 then (decide (0 ≤ x.imm) && decide (x.imm < x.w)) else bif c.sh == 10 then oneB x.imm else (fourB x.imm && fourB x.disp)))))
def mayP (x:Xi):Bool:=(codeOfP x.op x.w).2 && (eqX x (filledP x.op x.w (codeOfP x.op x.w).1 (partsP x (codeOfP x.op x.w).1)) && fitsP x (codeOfP x.op x.w).1)
def valP (c:Cd) (p:Pt):Int:=bif c.lo == 15 then c.va + p.cc else bif c.sh == 6 then c.va + p.rm % 8 else c.va
def halfP (w:Int) (c:Cd):Bool:=c.sh == 8 && w == 16
def rexP (w:Int) (c:Cd) (p:Pt):Bool:=(c.sh == 8 && w == 8) || (w == 64 || needB p.reg p.rm)
def aheadP (w:Int) (c:Cd) (p:Pt):List Int:=
  (bif halfP w c then [102] else []) ++ ((bif rexP w c p then [rexI (w == 64) p.reg p.rm] else []) ++ ((bif valP c p / 256 % 256 != 0 then [valP c p / 256 % 256] else []) ++ [valP c p % 256]))
def inMemB (s:Int):Bool:=s == 7 || s == 8
def inOpB (s:Int):Bool:=s == 1 || (s == 2 || (s == 3 || (s == 4 || (s == 5 || (s == 7 || s == 8)))))
def immN (s:Int):Int:=bif (s == 3 || (s == 6 || s == 9)) then 4 else bif (s == 4 || s == 10) then 1 else 0
def operandP (c:Cd) (p:Pt):List Int:=bif inMemB c.sh then memL p.reg p.rm p.disp else bif inOpB c.sh then regL p.reg p.rm else []
def immP (c:Cd) (p:Pt):List Int:=numL p.imm (immN c.sh).toNat
def encP (w:Int) (c:Cd) (p:Pt):List Int:=(aheadP w c p ++ operandP c p) ++ immP c p
def encX (x:Xi):List Int:=encP x.w (codeOfP x.op x.w).1 (partsP x (codeOfP x.op x.w).1)
end Go.Proofs.YtbpehbeakhocnaaGreatDoor.Mrm
