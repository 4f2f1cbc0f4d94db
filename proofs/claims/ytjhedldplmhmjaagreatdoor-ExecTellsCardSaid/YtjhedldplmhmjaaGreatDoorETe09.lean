import Derived.Test.YtjhedldplmhmjaaGreatDoorETe08
import Derived.Test.YtjhedldplmhmjaaGreatDoorETe07
import Derived.Test.YtjhedldplmhmjaaGreatDoorETe02
import Derived.Test.YtjhedldplmhmjaaGreatDoorETe06
set_option maxHeartbeats 2000000
set_option linter.unusedVariables false
set_option linter.unusedSimpArgs false
set_option linter.unnecessarySimpa false
namespace Go.Proofs.YtjhedldplmhmjaaGreatDoor.Mrm
open Go Go.RowKit
set_option maxRecDepth 100000
theorem put4_at (v:Int)(W:World):Calls Tryz.prog 92 #[.int .u64 (IntKind.u64.wrap v),.int .i64 4] W fun e w'=>∃ a c,e=.returned (.slice a 4 c)∧BytesAt w' a 4 c (numL v 4)∧Below W.heap.size W w':=by
 refine (put4_n v W).mono ?_
 rintro e w' ⟨u,rfl,o,b⟩
 obtain ⟨a,c,rfl,h⟩:=o.at (numL_ok v 4)
 exact ⟨a,c,rfl,h,b⟩
theorem ememory_n (r m d:Int)(hr:0≤r∧r<16)(hm:0≤m∧m<16)(W:World):Calls Tryz.prog 93 #[.int .i8 r,.int .i8 m,.int .i64 d] W (RetV (memL r m d) W):=by
 have e1:=and7c hr
 have e2:=and7c hm
 have PT:=Lib.hid (fun W=>put4_at d W)
 have HL:=Lib.hid (numL_length d 4)
 unfold RetV memL midL opI
 generalize numL d 4=nl at *
 generalize hA:r % 8=a at *
 generalize hB:m % 8=b at *
 have a0:0≤a∧a<8:=by omega
 have b0:0≤b∧b<8:=by omega
 obtain ⟨a1,a2⟩:=a0
 obtain ⟨b1,b2⟩:=b0
 clear hA hB hr hm
 by_cases c4:b=4
 ·rw [if_pos c4,show (128+a * 8+b:Int)=128+8 * a+4 by omega]
  subst c4
  have O2:=Lib.hid (one_own (base:=W.heap.size) W (128+8 * a+4) (Nat.le_refl _))
  have E36:=Lib.hid (show BytesAt ((W.alloc (.cells #[.int .u8 (128+8 * a+4)] 5)).alloc (.cells #[.int .u8 36] 5)) (some ⟨W.heap.size+1,0,none⟩) 1 1 [36] by
   have h:=one_at (W.alloc (.cells #[.int .u8 (128+8 * a+4)] 5)) 36 (by decide)
   rw [show (W.alloc (.cells #[.int .u8 (128+8 * a+4)] 5)).heap.size=W.heap.size+1 by simp] at h
   exact h)
  go_enter Tryz.func93,Tryz.ntmps93
  go_wp2_with (at_builtin;refine wpList_append_b rfl _ _ rfl W.heap.size _ [128+8 * a+4] rfl (O2.out.below (below_new (Below.refl _ _) _)) _ 1 1 [36] rfl E36.out (by simp) (by simp;omega) ?_)
  intro v3 w3 o3 g3
  have BA:=Lib.hid (below_new (below_new (Below.refl W.heap.size W) (.cells #[.int .u8 (128+8 * a+4)] 5)) (.cells #[.int .u8 36] 5))
  have B3:=Lib.hid (below_grown BA.out g3 (fun j hj=>by simp [Value.ownBlock] at hj;omega))
  have O3:=Lib.hid o3
  clear o3 g3 BA E36 O2
  go_wp2_with fail
  refine (PT.out _).mono ?_
  rintro e w4 ⟨xa,xc,rfl,e4,b4⟩
  have B4:=Lib.hid (below_call B3.out b4)
  have O4:=Lib.hid (O3.out.below b4)
  have E4:=Lib.hid e4
  clear e4 b4 O3
  go_wp2_with (at_builtin;refine wpList_append_b rfl _ _ rfl W.heap.size _ _ rfl O4.out _ _ _ nl rfl E4.out (by simp) B4.out.size ?_)
  intro v5 w5 o5 g5
  have B5:=Lib.hid (below_grown B4.out g5 (fun j hj=>O4.out.lt j hj))
  have O5:=Lib.hid o5
  clear o5 g5
  go_wp2_with fail
  go_ret
  exact ⟨_,rfl,O5.out,B5.out⟩
 ·rw [if_neg c4,show (128+a * 8+b:Int)=128+8 * a+b by omega]
  have c5:(b == 4)=false:=by simpa using c4
  have O2:=Lib.hid (one_own (base:=W.heap.size) W (128+8 * a+b) (Nat.le_refl _))
  have B2:=Lib.hid (below_new (Below.refl W.heap.size W) (.cells #[.int .u8 (128+8 * a+b)] 5))
  clear c4
  go_enter Tryz.func93,Tryz.ntmps93
  go_wp2_with fail
  refine (PT.out _).mono ?_
  rintro e w4 ⟨xa,xc,rfl,e4,b4⟩
  have B4:=Lib.hid (below_call B2.out b4)
  have O4:=Lib.hid (O2.out.below b4)
  have E4:=Lib.hid e4
  clear e4 b4 O2
  go_wp2_with (at_builtin;refine wpList_append_b rfl _ _ rfl W.heap.size _ _ rfl O4.out _ _ _ nl rfl E4.out (by simp) B4.out.size ?_)
  intro v5 w5 o5 g5
  have B5:=Lib.hid (below_grown B4.out g5 (fun j hj=>O4.out.lt j hj))
  have O5:=Lib.hid o5
  clear o5 g5
  go_wp2_with fail
  go_ret
  exact ⟨_,rfl,O5.out,B5.out⟩
def bareX (x:Xi):List Int:=
 if x.op=28 then (if x.w=8 then [235,x.imm % 256] else [233] ++ numL x.imm 4) else
 if x.op=29 then (if x.w=8 then [112+x.cc,x.imm % 256] else [15,128+x.cc] ++ numL x.imm 4) else
 if x.op=30 then [195] else [15,5]
def bytesX (x:Xi):List Int:=
 if x.op=16 then rexL (x.w == 64) x.dst x.src false ++ [15,175,opI 192 x.dst x.src] else
 if clsI x.op=1 then rexL (x.w == 64) x.src x.dst false ++ [codI x.op,opI 192 x.src x.dst] else
 if x.op=1 then (rexL (x.w == 64) 0 x.dst false ++ (if x.w=64 then [199,opI 192 0 x.dst] else [184+x.dst % 8])) ++ numL x.imm 4 else
 if clsI x.op=2 then ((rexL (x.w == 64) 0 x.dst false ++ [if x.op=15 then 247 else 129]) ++ [opI 192 (codI x.op) x.dst]) ++ numL x.imm 4 else
 if clsI x.op=3 then rexL (x.w == 64) 0 x.dst false ++ [193,opI 192 (codI x.op) x.dst,x.imm] else
 if clsI x.op=4 then rexL (x.w == 64) 0 x.dst false ++ [if x.op=23∨x.op=24 then 247 else 211,opI 192 (codI x.op) x.dst] else
 if x.op=25 then rexL (x.w == 64) x.dst x.src false ++ [15,64+x.cc,opI 192 x.dst x.src] else
 if x.op=26 then (rexL (x.w == 64) x.dst x.base false ++ (if x.w=8 then [15,182] else if x.w=16 then [15,183] else [139])) ++ memL x.dst x.base x.disp else
 if x.op=27 then (((if x.w=16 then [102] else []) ++ rexL (x.w == 64) x.src x.base (x.w == 8)) ++ [if x.w=8 then 136 else 137]) ++ memL x.src x.base x.disp
 else bareX x
theorem made_at (w:World)(l:List Int)(ok:Oks l)(h:l.length≤100):BytesAt (w.alloc (.cells (l.map (Value.int .u8)).toArray 5)) (some ⟨w.heap.size,0,none⟩) l.length l.length l:=by
 have hh:Bts 0 (w.alloc (.cells (l.map (Value.int .u8)).toArray 5)) (.slice (some ⟨w.heap.size,0,none⟩) l.length l.length) l:=
  ⟨by simp [u8s],.inr ⟨w.heap.size,l.length,_,rfl,Nat.zero_le _,heap_last w _ _ rfl,Nat.le_refl _,by unfold maxLen;omega,by simp,by simp [u8s,List.take_of_length_le]⟩⟩
 obtain ⟨a,c,e,h⟩:=hh.at ok
 injection e with e1 e2 e3
 subst e1 e3
 exact h
theorem made_own {base:Nat}(w:World)(l:List Int)(h:l.length≤100)(hb:base≤w.heap.size):Bts base (w.alloc (.cells (l.map (Value.int .u8)).toArray 5)) (.slice (some ⟨w.heap.size,0,none⟩) l.length l.length) l:=
 ⟨by simp [u8s],.inr ⟨w.heap.size,l.length,_,rfl,hb,heap_last w _ _ rfl,Nat.le_refl _,by unfold maxLen;omega,by simp,by simp [u8s,List.take_of_length_le]⟩⟩
theorem below_boxed {W w':World}{o:Obj}(h:Below (W.alloc o).heap.size (W.alloc o) w'):Below W.heap.size W w':=below_call (below_new (Below.refl _ _) _) h
theorem size1 {W w:World}{o:Obj}(b:Below (W.alloc o).heap.size (W.alloc o) w):W.heap.size+1≤w.heap.size:=by have:=b.size;simpa using this
theorem grown1 {W w w':World}{o:Obj}{row:Option Nat}(h:Below (W.alloc o).heap.size (W.alloc o) w)(g:w.grownBy w' row)(hr:∀ k,row=some k→W.heap.size+1≤k):Below (W.alloc o).heap.size (W.alloc o) w':=below_grown h g (fun k hk=>by simpa using hr k hk)
theorem xcells {W w:World}{op wd dst src base disp imm cc:Int}(b:Below (W.alloc (.cells #[.int .i8 op,.int .i8 wd,.int .i8 dst,.int .i8 src,.int .i8 base,.int .i64 disp,.int .i64 imm,.int .i8 cc] 30)).heap.size (W.alloc (.cells #[.int .i8 op,.int .i8 wd,.int .i8 dst,.int .i8 src,.int .i8 base,.int .i64 disp,.int .i64 imm,.int .i8 cc] 30)) w):
  w.cell? ⟨W.heap.size,0,none⟩=some (.int .i8 op)∧w.cell? ⟨W.heap.size,1,none⟩=some (.int .i8 wd)∧w.cell? ⟨W.heap.size,2,none⟩=some (.int .i8 dst)∧w.cell? ⟨W.heap.size,3,none⟩=some (.int .i8 src) ∧
  w.cell? ⟨W.heap.size,4,none⟩=some (.int .i8 base)∧w.cell? ⟨W.heap.size,5,none⟩=some (.int .i64 disp)∧w.cell? ⟨W.heap.size,6,none⟩=some (.int .i64 imm)∧w.cell? ⟨W.heap.size,7,none⟩=some (.int .i8 cc):=by
 have h:=(b.block W.heap.size (by simp)).trans (heap_last W _ _ rfl)
 simp only [World.cell?,h]
 exact ⟨rfl,rfl,rfl,rfl,rfl,rfl,rfl,rfl⟩
theorem cls_is {op k:Int}(h:clsI op=k)(W:World):Calls Tryz.prog 59 #[.int .i8 op] W fun e w'=>e=.returned (.int .i64 k)∧W=w':=by rw [← h];exact cls_n op W
theorem cod_is {op k:Int}(h:codI op=k)(W:World):Calls Tryz.prog 89 #[.int .i8 op] W fun e w'=>e=.returned (.int .u8 k)∧W=w':=by rw [← h];exact cod_n op W
theorem codI_fin:∀ k:Fin 32,0≤codI (k.1:Int)∧codI (k.1:Int)<256∧(clsI (k.1:Int)≠1→codI (k.1:Int)<16):=by decide +kernel
theorem codI_bd (op:Int):0≤codI op∧codI op<256∧(clsI op≠1→codI op<16):=by
 by_cases h:0≤op∧op<32
 ·have:=codI_fin ⟨op.toNat,by omega⟩
  simp only [Int.toNat_of_nonneg h.1] at this
  exact this
 ·unfold codI;rw [if_neg h];exact ⟨by omega,by omega,fun _=>by omega⟩
theorem rexL_ok (wd:Bool)(r m:Int)(al:Bool):Oks (rexL wd r m al):=by
 unfold rexL
 split
 ·intro z hz;cases hz
 ·refine one_ok ?_
  unfold rexN
  cases wd <;> cases decide (7<r) <;> cases decide (7<m) <;> decide
theorem rexL_length (wd:Bool)(r m:Int)(al:Bool):(rexL wd r m al).length≤1:=by unfold rexL;split <;> simp
theorem memL_few (r m d:Int):(memL r m d).length≤6:=by
 unfold memL midL
 split <;> simp [numL_length]
def RetX (l:List Int)(c:Int)(W:World)(e:Ending)(w':World):Prop:=∃ v,e=.returned (.tuple #[v,.int .i64 c])∧Bts W.heap.size w' v l∧Below W.heap.size W w'
structure Cd where
 sh:Int
 wd:Int
 va:Int
 dg:Int
 lo:Int
deriving DecidableEq
structure Pt where
 reg:Int
 rm:Int
 disp:Int
 imm:Int
 cc:Int
deriving DecidableEq
def zCd:Cd:=⟨0,0,0,0,0⟩
def codesL:List Cd:=[⟨1,96,137,0,0⟩,⟨3,64,199,0,0⟩,⟨1,96,1,0,0⟩,⟨1,96,9,0,0⟩,⟨1,96,33,0,0⟩,⟨1,96,41,0,0⟩,⟨1,96,49,0,0⟩,⟨1,96,57,0,0⟩,⟨1,96,133,0,0⟩,⟨3,96,129,0,0⟩,⟨3,96,129,1,0⟩,⟨3,96,129,4,0⟩,⟨3,96,129,5,0⟩,⟨3,96,129,6,0⟩,⟨3,96,129,7,0⟩,⟨3,96,247,0,0⟩,⟨2,96,4015,0,0⟩,⟨4,96,193,4,0⟩,⟨4,96,193,5,0⟩,⟨4,96,193,7,0⟩,⟨5,96,211,4,0⟩,⟨5,96,211,5,0⟩,⟨5,96,211,7,0⟩,⟨5,96,247,3,0⟩,⟨5,96,247,6,0⟩,⟨2,96,3904,0,15⟩,⟨7,96,139,0,0⟩,⟨8,112,137,0,0⟩,⟨9,32,233,0,0⟩,⟨9,32,3968,0,15⟩,⟨0,0,195,0,0⟩,⟨0,0,3845,0,0⟩]
def othersL:List (Int × Cd):=[(1,⟨6,32,184,0,7⟩),(26,⟨7,8,4022,0,0⟩),(26,⟨7,16,4023,0,0⟩),(27,⟨8,8,136,0,0⟩),(28,⟨10,8,235,0,0⟩),(29,⟨10,8,112,0,15⟩)]
def codeA (op:Int):Cd:=codesL.getD op.toNat zCd
def hasB (c:Cd)(w:Int):Bool:=bif c.wd == 0 then w == 0 else (widB w && (bits .and .i8 c.wd w != 0))
def ofO:Option (Int × Cd)→Cd × Bool
 | some o=>(o.2,true)
 | none=>(zCd,false)
def codeOfP (op w:Int):Cd × Bool:=
 if op<0∨32≤op then (zCd,false) else
 if hasB (codeA op) w then (codeA op,true) else
 ofO (othersL.find? (fun o=>o.1 == op && hasB o.2 w))
def partsP (x:Xi)(c:Cd):Pt:=
 bif c.sh == 1 then ⟨x.src,x.dst,x.disp,x.imm,x.cc⟩ else
 bif c.sh == 2 then ⟨x.dst,x.src,x.disp,x.imm,x.cc⟩ else
 bif c.sh == 3 then ⟨c.dg,x.dst,x.disp,x.imm,x.cc⟩ else
 bif c.sh == 4 then ⟨c.dg,x.dst,x.disp,x.imm,x.cc⟩ else
 bif c.sh == 5 then ⟨c.dg,x.dst,x.disp,x.imm,x.cc⟩ else
 bif c.sh == 6 then ⟨c.dg,x.dst,x.disp,x.imm,x.cc⟩ else
 bif c.sh == 7 then ⟨x.dst,x.base,x.disp,x.imm,x.cc⟩ else
 bif c.sh == 8 then ⟨x.src,x.base,x.disp,x.imm,x.cc⟩ else ⟨0,0,x.disp,x.imm,x.cc⟩
def fillCc (c:Cd)(p:Pt):Int:=bif c.lo == 15 then p.cc else 0
def filledP (op w:Int)(c:Cd)(p:Pt):Xi:=
 bif c.sh == 1 then ⟨op,w,p.rm,p.reg,0,0,0,fillCc c p⟩ else
 bif c.sh == 2 then ⟨op,w,p.reg,p.rm,0,0,0,fillCc c p⟩ else
 bif c.sh == 3 then ⟨op,w,p.rm,0,0,0,p.imm,fillCc c p⟩ else
 bif c.sh == 4 then ⟨op,w,p.rm,0,0,0,p.imm,fillCc c p⟩ else
 bif c.sh == 6 then ⟨op,w,p.rm,0,0,0,p.imm,fillCc c p⟩ else
 bif c.sh == 5 then ⟨op,w,p.rm,0,0,0,0,fillCc c p⟩ else
 bif c.sh == 7 then ⟨op,w,p.reg,0,p.rm,p.disp,0,fillCc c p⟩ else
 bif c.sh == 8 then ⟨op,w,0,p.reg,p.rm,p.disp,0,fillCc c p⟩ else
 bif c.sh == 9 then ⟨op,w,0,0,0,0,p.imm,fillCc c p⟩ else
 bif c.sh == 10 then ⟨op,w,0,0,0,0,p.imm,fillCc c p⟩ else ⟨op,w,0,0,0,0,0,fillCc c p⟩
def fitsP (x:Xi)(c:Cd):Bool:=
 regB x.dst && (regB x.src && (regB x.base && (!(c.lo == 15 && !(ccB x.cc)) &&
 (bif c.sh == 4 then (decide (0≤x.imm) && decide (x.imm<x.w)) else bif c.sh == 10 then oneB x.imm else (fourB x.imm && fourB x.disp)))))
def mayP (x:Xi):Bool:=(codeOfP x.op x.w).2 && (eqX x (filledP x.op x.w (codeOfP x.op x.w).1 (partsP x (codeOfP x.op x.w).1)) && fitsP x (codeOfP x.op x.w).1)
def valP (c:Cd)(p:Pt):Int:=bif c.lo == 15 then c.va+p.cc else bif c.sh == 6 then c.va+p.rm % 8 else c.va
def halfP (w:Int)(c:Cd):Bool:=c.sh == 8 && w == 16
def rexP (w:Int)(c:Cd)(p:Pt):Bool:=(c.sh == 8 && w == 8) || (w == 64 || needB p.reg p.rm)
def aheadP (w:Int)(c:Cd)(p:Pt):List Int:=
 (bif halfP w c then [102] else []) ++ ((bif rexP w c p then [rexI (w == 64) p.reg p.rm] else []) ++ ((bif valP c p / 256 % 256 != 0 then [valP c p / 256 % 256] else []) ++ [valP c p % 256]))
def inMemB (s:Int):Bool:=s == 7 || s == 8
def inOpB (s:Int):Bool:=s == 1 || (s == 2 || (s == 3 || (s == 4 || (s == 5 || (s == 7 || s == 8)))))
def immN (s:Int):Int:=bif (s == 3 || (s == 6 || s == 9)) then 4 else bif (s == 4 || s == 10) then 1 else 0
def operandP (c:Cd)(p:Pt):List Int:=bif inMemB c.sh then memL p.reg p.rm p.disp else bif inOpB c.sh then regL p.reg p.rm else []
def immP (c:Cd)(p:Pt):List Int:=numL p.imm (immN c.sh).toNat
def encP (w:Int)(c:Cd)(p:Pt):List Int:=(aheadP w c p ++ operandP c p) ++ immP c p
def encX (x:Xi):List Int:=encP x.w (codeOfP x.op x.w).1 (partsP x (codeOfP x.op x.w).1)
theorem four_of_one {n:Int}(h:oneB n=true):fourB n=true:=by
 unfold oneB at h;unfold fourB
 simp only [Bool.and_eq_true,decide_eq_true_eq] at h ⊢
 omega
theorem bool_a (e a b c d i:Bool):(e && (a && (b && (c && (true && (i && d))))))=(true && (e && (a && (b && (c && (d && (i && true))))))):=by cases e <;> cases a <;> cases b <;> cases c <;> cases d <;> cases i <;> rfl
theorem bool_c (e a b c d i k:Bool):(e && (a && (b && (c && (!(true && !k) && (i && d))))))=(true && (e && (a && (b && (c && (d && (i && k))))))):=by cases e <;> cases a <;> cases b <;> cases c <;> cases d <;> cases i <;> cases k <;> rfl
theorem bool_n (e a b c d i k m:Bool)(h:e=true→d=true)(h2:m=true→i=true)(hk:k=m):(e && (a && (b && (c && (true && k)))))=(true && (e && (a && (b && (c && (d && (i && m))))))):=by
 subst hk
 cases e <;> cases a <;> cases b <;> cases c <;> cases d <;> cases i <;> cases k <;> first | rfl | (exact absurd (h rfl) (by decide)) | (exact absurd (h2 rfl) (by decide))
theorem bool_nc (e a b c d i k m:Bool)(h:e=true→d=true)(h2:m=true→i=true):(e && (a && (b && (c && (!(true && !k) && m)))))=(true && (e && (a && (b && (c && (d && (i && (m && k)))))))):=by
 cases e <;> cases a <;> cases b <;> cases c <;> cases d <;> cases i <;> cases k <;> cases m <;> first | rfl | (exact absurd (h rfl) (by decide)) | (exact absurd (h2 rfl) (by decide))
theorem mp_yes {x:Xi}{c:Cd}(e:codeOfP x.op x.w=(c,true))(hf:filledP x.op x.w c (partsP x c)=fldX (clsI x.op) x):mayP x=(eqX x (fldX (clsI x.op) x) && fitsP x c):=by
 unfold mayP;rw [e];simp only [hf,Bool.true_and]
section
variable {x:Xi} {c:Cd} (e:codeOfP x.op x.w=(c,true)) (hk:(clsI x.op != 0)=true) (hf:filledP x.op x.w c (partsP x c)=fldX (clsI x.op) x)
include e hk hf
theorem mp_a (h1:(c.lo == 15)=false)(h4:(c.sh == 4)=false)(h10:(c.sh == 10)=false)(hb:clsB (clsI x.op) x=true):mayP x=mayX x:=by
 rw [mp_yes e hf];unfold fitsP mayX;rw [h1,h4,h10,hk,hb]
 simp only [Bool.false_and,Bool.not_false,cond_false]
 exact bool_a _ _ _ _ _ _
theorem mp_c (h1:(c.lo == 15)=true)(h4:(c.sh == 4)=false)(h10:(c.sh == 10)=false)(hb:clsB (clsI x.op) x=ccB x.cc):mayP x=mayX x:=by
 rw [mp_yes e hf];unfold fitsP mayX;rw [h1,h4,h10,hk,hb]
 simp only [cond_false]
 exact bool_c _ _ _ _ _ _ _
theorem mp_4 (hd:(fldX (clsI x.op) x).disp=0)(h1:(c.lo == 15)=false)(h4:(c.sh == 4)=true)(hw:x.w≤64)(hb:clsB (clsI x.op) x=(decide (0≤x.imm) && decide (x.imm<x.w))):mayP x=mayX x:=by
 rw [mp_yes e hf];unfold fitsP mayX;rw [h1,h4,hk,hb]
 simp only [Bool.false_and,Bool.not_false,cond_true]
 exact bool_n _ _ _ _ _ _ _ _ (fun h=>by rw [eqX_iff] at h;rw [h,hd];rfl) (fun h=>by unfold fourB;simp only [Bool.and_eq_true,decide_eq_true_eq] at h ⊢;omega) rfl
theorem mp_10 (hd:(fldX (clsI x.op) x).disp=0)(h1:(c.lo == 15)=false)(h4:(c.sh == 4)=false)(h10:(c.sh == 10)=true)(hb:clsB (clsI x.op) x=oneB x.imm):mayP x=mayX x:=by
 rw [mp_yes e hf];unfold fitsP mayX;rw [h1,h4,h10,hk,hb]
 simp only [Bool.false_and,Bool.not_false,cond_false,cond_true]
 exact bool_n _ _ _ _ _ _ _ _ (fun h=>by rw [eqX_iff] at h;rw [h,hd];rfl) four_of_one rfl
theorem mp_nc (hd:(fldX (clsI x.op) x).disp=0)(h1:(c.lo == 15)=true)(h4:(c.sh == 4)=false)(h10:(c.sh == 10)=true)(hb:clsB (clsI x.op) x=(oneB x.imm && ccB x.cc)):mayP x=mayX x:=by
 rw [mp_yes e hf];unfold fitsP mayX;rw [h1,h4,h10,hk,hb]
 simp only [cond_false,cond_true]
 exact bool_nc _ _ _ _ _ _ _ _ (fun h=>by rw [eqX_iff] at h;rw [h,hd];rfl) four_of_one
end
theorem mp_no {x:Xi}(e:codeOfP x.op x.w=(zCd,false))(hb:clsB (clsI x.op) x=false):mayP x=mayX x:=by
 unfold mayP mayX;rw [e,hb];simp only [Bool.false_and,Bool.and_false]
theorem mp_none {x:Xi}(e:codeOfP x.op x.w=(zCd,false))(hb:eqX x (fldX (clsI x.op) x)=false):mayP x=mayX x:=by
 unfold mayP mayX;rw [e,hb];simp only [Bool.false_and,Bool.and_false]
theorem has_out (c:Cd)(w:Int)(h:widB w=false)(h0:w≠0):hasB c w=false:=by
 unfold hasB
 rw [h]
 cases c.wd == 0
 ·rfl
 ·exact beq_eq_false_iff_ne.2 h0
theorem code_out (op w:Int)(h:widB w=false)(h0:w≠0):codeOfP op w=(zCd,false):=by
 unfold codeOfP
 split
 ·rfl
 ·rw [if_neg (by rw [has_out _ _ h h0];decide)]
  have e:(fun o:Int × Cd=>o.1 == op && hasB o.2 w)=fun _=>false:=by funext o;rw [has_out _ _ h h0,Bool.and_false]
  rw [e]
  rfl
theorem may_out (x:Xi)(h:widB x.w=false)(h0:x.w≠0):mayX x=false:=by
 have hl:longB x.w=false:=by unfold longB;unfold widB at h;revert h;cases x.w == 8 <;> cases x.w == 16 <;> cases x.w == 32 <;> cases x.w == 64 <;> simp
 have hj:jmpB x=false:=by unfold jmpB;unfold widB at h;revert h;cases x.w == 8 <;> cases x.w == 16 <;> cases x.w == 32 <;> cases x.w == 64 <;> simp
 unfold mayX
 rcases clsI_cases x.op with e | e | e | e | e | e | e | e | e | e | e <;> rw [e]
 ·rfl
 case inr.inr.inr.inr.inr.inr.inr.inr.inr.inr=>
  rw [show eqX x (fldX 10 x)=false from by unfold eqX fldX;simp [h0]]
  simp only [Bool.and_false,Bool.false_and]
 all_goals (rw [show clsB _ x=false from by unfold clsB;simp [hl,hj,h]];simp only [Bool.and_false])
theorem w_cases (w:Int):w=0∨w=8∨w=16∨w=32∨w=64∨(widB w=false∧w≠0):=by
 by_cases h0:w=0
 ·exact .inl h0
 by_cases h1:w=8
 ·exact .inr (.inl h1)
 by_cases h2:w=16
 ·exact .inr (.inr (.inl h2))
 by_cases h3:w=32
 ·exact .inr (.inr (.inr (.inl h3)))
 by_cases h4:w=64
 ·exact .inr (.inr (.inr (.inr (.inl h4))))
 refine .inr (.inr (.inr (.inr (.inr ⟨?_,h0⟩))))
 unfold widB
 rw [beq_eq_false_iff_ne.2 h1,beq_eq_false_iff_ne.2 h2,beq_eq_false_iff_ne.2 h3,beq_eq_false_iff_ne.2 h4]
 rfl
theorem mayP_is (x:Xi):mayP x=mayX x:=by
 rcases w_cases x.w with h | h | h | h | h | h
 case inr.inr.inr.inr.inr=>
  rw [may_out x h.1 h.2]
  unfold mayP
  rw [code_out _ _ h.1 h.2]
  rfl
 case inl=>
  by_cases ho:0≤x.op∧x.op<32
  ·obtain ⟨op,wd,dst,src,base,disp,imm,cc⟩:=x
   simp only at h ho
   subst h
   obtain rfl | rfl | rfl | rfl | rfl | rfl | rfl | rfl | rfl | rfl | rfl | rfl | rfl | rfl | rfl | rfl | rfl | rfl | rfl | rfl | rfl | rfl | rfl | rfl | rfl | rfl | rfl | rfl | rfl | rfl | rfl | rfl:=lt32 ho
   ·exact mp_no (show codeOfP 0 0=(zCd,false) by decide +kernel) rfl
   ·exact mp_no (show codeOfP 1 0=(zCd,false) by decide +kernel) rfl
   ·exact mp_no (show codeOfP 2 0=(zCd,false) by decide +kernel) rfl
   ·exact mp_no (show codeOfP 3 0=(zCd,false) by decide +kernel) rfl
   ·exact mp_no (show codeOfP 4 0=(zCd,false) by decide +kernel) rfl
   ·exact mp_no (show codeOfP 5 0=(zCd,false) by decide +kernel) rfl
   ·exact mp_no (show codeOfP 6 0=(zCd,false) by decide +kernel) rfl
   ·exact mp_no (show codeOfP 7 0=(zCd,false) by decide +kernel) rfl
   ·exact mp_no (show codeOfP 8 0=(zCd,false) by decide +kernel) rfl
   ·exact mp_no (show codeOfP 9 0=(zCd,false) by decide +kernel) rfl
   ·exact mp_no (show codeOfP 10 0=(zCd,false) by decide +kernel) rfl
   ·exact mp_no (show codeOfP 11 0=(zCd,false) by decide +kernel) rfl
   ·exact mp_no (show codeOfP 12 0=(zCd,false) by decide +kernel) rfl
   ·exact mp_no (show codeOfP 13 0=(zCd,false) by decide +kernel) rfl
   ·exact mp_no (show codeOfP 14 0=(zCd,false) by decide +kernel) rfl
   ·exact mp_no (show codeOfP 15 0=(zCd,false) by decide +kernel) rfl
   ·exact mp_no (show codeOfP 16 0=(zCd,false) by decide +kernel) rfl
   ·exact mp_no (show codeOfP 17 0=(zCd,false) by decide +kernel) (by simp [clsB,longB,jmpB,clsI,clsT])
   ·exact mp_no (show codeOfP 18 0=(zCd,false) by decide +kernel) (by simp [clsB,longB,jmpB,clsI,clsT])
   ·exact mp_no (show codeOfP 19 0=(zCd,false) by decide +kernel) (by simp [clsB,longB,jmpB,clsI,clsT])
   ·exact mp_no (show codeOfP 20 0=(zCd,false) by decide +kernel) rfl
   ·exact mp_no (show codeOfP 21 0=(zCd,false) by decide +kernel) rfl
   ·exact mp_no (show codeOfP 22 0=(zCd,false) by decide +kernel) rfl
   ·exact mp_no (show codeOfP 23 0=(zCd,false) by decide +kernel) rfl
   ·exact mp_no (show codeOfP 24 0=(zCd,false) by decide +kernel) rfl
   ·exact mp_no (show codeOfP 25 0=(zCd,false) by decide +kernel) (by simp [clsB,longB,jmpB,clsI,clsT])
   ·exact mp_no (show codeOfP 26 0=(zCd,false) by decide +kernel) rfl
   ·exact mp_no (show codeOfP 27 0=(zCd,false) by decide +kernel) rfl
   ·exact mp_no (show codeOfP 28 0=(zCd,false) by decide +kernel) rfl
   ·exact mp_no (show codeOfP 29 0=(zCd,false) by decide +kernel) (by simp [clsB,longB,jmpB,clsI,clsT])
   ·exact mp_a (c:=⟨0,0,195,0,0⟩) (show codeOfP 30 0=(⟨0,0,195,0,0⟩,true) by decide +kernel) rfl rfl rfl rfl rfl rfl
   ·exact mp_a (c:=⟨0,0,3845,0,0⟩) (show codeOfP 31 0=(⟨0,0,3845,0,0⟩,true) by decide +kernel) rfl rfl rfl rfl rfl rfl
  ·have e1:codeOfP x.op x.w=(zCd,false):=by unfold codeOfP;rw [if_pos (by omega)]
   have e2:clsI x.op=0:=by unfold clsI;rw [if_neg ho]
   unfold mayP mayX
   rw [e1,e2]
   rfl
 case inr.inl=>
  by_cases ho:0≤x.op∧x.op<32
  ·obtain ⟨op,wd,dst,src,base,disp,imm,cc⟩:=x
   simp only at h ho
   subst h
   obtain rfl | rfl | rfl | rfl | rfl | rfl | rfl | rfl | rfl | rfl | rfl | rfl | rfl | rfl | rfl | rfl | rfl | rfl | rfl | rfl | rfl | rfl | rfl | rfl | rfl | rfl | rfl | rfl | rfl | rfl | rfl | rfl:=lt32 ho
   ·exact mp_no (show codeOfP 0 8=(zCd,false) by decide +kernel) rfl
   ·exact mp_no (show codeOfP 1 8=(zCd,false) by decide +kernel) rfl
   ·exact mp_no (show codeOfP 2 8=(zCd,false) by decide +kernel) rfl
   ·exact mp_no (show codeOfP 3 8=(zCd,false) by decide +kernel) rfl
   ·exact mp_no (show codeOfP 4 8=(zCd,false) by decide +kernel) rfl
   ·exact mp_no (show codeOfP 5 8=(zCd,false) by decide +kernel) rfl
   ·exact mp_no (show codeOfP 6 8=(zCd,false) by decide +kernel) rfl
   ·exact mp_no (show codeOfP 7 8=(zCd,false) by decide +kernel) rfl
   ·exact mp_no (show codeOfP 8 8=(zCd,false) by decide +kernel) rfl
   ·exact mp_no (show codeOfP 9 8=(zCd,false) by decide +kernel) rfl
   ·exact mp_no (show codeOfP 10 8=(zCd,false) by decide +kernel) rfl
   ·exact mp_no (show codeOfP 11 8=(zCd,false) by decide +kernel) rfl
   ·exact mp_no (show codeOfP 12 8=(zCd,false) by decide +kernel) rfl
   ·exact mp_no (show codeOfP 13 8=(zCd,false) by decide +kernel) rfl
   ·exact mp_no (show codeOfP 14 8=(zCd,false) by decide +kernel) rfl
   ·exact mp_no (show codeOfP 15 8=(zCd,false) by decide +kernel) rfl
   ·exact mp_no (show codeOfP 16 8=(zCd,false) by decide +kernel) rfl
   ·exact mp_no (show codeOfP 17 8=(zCd,false) by decide +kernel) (by simp [clsB,longB,jmpB,clsI,clsT])
   ·exact mp_no (show codeOfP 18 8=(zCd,false) by decide +kernel) (by simp [clsB,longB,jmpB,clsI,clsT])
   ·exact mp_no (show codeOfP 19 8=(zCd,false) by decide +kernel) (by simp [clsB,longB,jmpB,clsI,clsT])
   ·exact mp_no (show codeOfP 20 8=(zCd,false) by decide +kernel) rfl
   ·exact mp_no (show codeOfP 21 8=(zCd,false) by decide +kernel) rfl
   ·exact mp_no (show codeOfP 22 8=(zCd,false) by decide +kernel) rfl
   ·exact mp_no (show codeOfP 23 8=(zCd,false) by decide +kernel) rfl
   ·exact mp_no (show codeOfP 24 8=(zCd,false) by decide +kernel) rfl
   ·exact mp_no (show codeOfP 25 8=(zCd,false) by decide +kernel) (by simp [clsB,longB,jmpB,clsI,clsT])
   ·exact mp_a (c:=⟨7,8,4022,0,0⟩) (show codeOfP 26 8=(⟨7,8,4022,0,0⟩,true) by decide +kernel) rfl rfl rfl rfl rfl rfl
   ·exact mp_a (c:=⟨8,8,136,0,0⟩) (show codeOfP 27 8=(⟨8,8,136,0,0⟩,true) by decide +kernel) rfl rfl rfl rfl rfl rfl
   ·exact mp_10 (c:=⟨10,8,235,0,0⟩) (show codeOfP 28 8=(⟨10,8,235,0,0⟩,true) by decide +kernel) rfl rfl rfl rfl rfl rfl rfl
   ·exact mp_nc (c:=⟨10,8,112,0,15⟩) (show codeOfP 29 8=(⟨10,8,112,0,15⟩,true) by decide +kernel) rfl rfl rfl rfl rfl rfl rfl
   ·exact mp_none (show codeOfP 30 8=(zCd,false) by decide +kernel) (by simp [eqX,fldX,clsI,clsT])
   ·exact mp_none (show codeOfP 31 8=(zCd,false) by decide +kernel) (by simp [eqX,fldX,clsI,clsT])
  ·have e1:codeOfP x.op x.w=(zCd,false):=by unfold codeOfP;rw [if_pos (by omega)]
   have e2:clsI x.op=0:=by unfold clsI;rw [if_neg ho]
   unfold mayP mayX
   rw [e1,e2]
   rfl
 case inr.inr.inl=>
  by_cases ho:0≤x.op∧x.op<32
  ·obtain ⟨op,wd,dst,src,base,disp,imm,cc⟩:=x
   simp only at h ho
   subst h
   obtain rfl | rfl | rfl | rfl | rfl | rfl | rfl | rfl | rfl | rfl | rfl | rfl | rfl | rfl | rfl | rfl | rfl | rfl | rfl | rfl | rfl | rfl | rfl | rfl | rfl | rfl | rfl | rfl | rfl | rfl | rfl | rfl:=lt32 ho
   ·exact mp_no (show codeOfP 0 16=(zCd,false) by decide +kernel) rfl
   ·exact mp_no (show codeOfP 1 16=(zCd,false) by decide +kernel) rfl
   ·exact mp_no (show codeOfP 2 16=(zCd,false) by decide +kernel) rfl
   ·exact mp_no (show codeOfP 3 16=(zCd,false) by decide +kernel) rfl
   ·exact mp_no (show codeOfP 4 16=(zCd,false) by decide +kernel) rfl
   ·exact mp_no (show codeOfP 5 16=(zCd,false) by decide +kernel) rfl
   ·exact mp_no (show codeOfP 6 16=(zCd,false) by decide +kernel) rfl
   ·exact mp_no (show codeOfP 7 16=(zCd,false) by decide +kernel) rfl
   ·exact mp_no (show codeOfP 8 16=(zCd,false) by decide +kernel) rfl
   ·exact mp_no (show codeOfP 9 16=(zCd,false) by decide +kernel) rfl
   ·exact mp_no (show codeOfP 10 16=(zCd,false) by decide +kernel) rfl
   ·exact mp_no (show codeOfP 11 16=(zCd,false) by decide +kernel) rfl
   ·exact mp_no (show codeOfP 12 16=(zCd,false) by decide +kernel) rfl
   ·exact mp_no (show codeOfP 13 16=(zCd,false) by decide +kernel) rfl
   ·exact mp_no (show codeOfP 14 16=(zCd,false) by decide +kernel) rfl
   ·exact mp_no (show codeOfP 15 16=(zCd,false) by decide +kernel) rfl
   ·exact mp_no (show codeOfP 16 16=(zCd,false) by decide +kernel) rfl
   ·exact mp_no (show codeOfP 17 16=(zCd,false) by decide +kernel) (by simp [clsB,longB,jmpB,clsI,clsT])
   ·exact mp_no (show codeOfP 18 16=(zCd,false) by decide +kernel) (by simp [clsB,longB,jmpB,clsI,clsT])
   ·exact mp_no (show codeOfP 19 16=(zCd,false) by decide +kernel) (by simp [clsB,longB,jmpB,clsI,clsT])
   ·exact mp_no (show codeOfP 20 16=(zCd,false) by decide +kernel) rfl
   ·exact mp_no (show codeOfP 21 16=(zCd,false) by decide +kernel) rfl
   ·exact mp_no (show codeOfP 22 16=(zCd,false) by decide +kernel) rfl
   ·exact mp_no (show codeOfP 23 16=(zCd,false) by decide +kernel) rfl
   ·exact mp_no (show codeOfP 24 16=(zCd,false) by decide +kernel) rfl
   ·exact mp_no (show codeOfP 25 16=(zCd,false) by decide +kernel) (by simp [clsB,longB,jmpB,clsI,clsT])
   ·exact mp_a (c:=⟨7,16,4023,0,0⟩) (show codeOfP 26 16=(⟨7,16,4023,0,0⟩,true) by decide +kernel) rfl rfl rfl rfl rfl rfl
   ·exact mp_a (c:=⟨8,112,137,0,0⟩) (show codeOfP 27 16=(⟨8,112,137,0,0⟩,true) by decide +kernel) rfl rfl rfl rfl rfl rfl
   ·exact mp_no (show codeOfP 28 16=(zCd,false) by decide +kernel) rfl
   ·exact mp_no (show codeOfP 29 16=(zCd,false) by decide +kernel) (by simp [clsB,longB,jmpB,clsI,clsT])
   ·exact mp_none (show codeOfP 30 16=(zCd,false) by decide +kernel) (by simp [eqX,fldX,clsI,clsT])
   ·exact mp_none (show codeOfP 31 16=(zCd,false) by decide +kernel) (by simp [eqX,fldX,clsI,clsT])
  ·have e1:codeOfP x.op x.w=(zCd,false):=by unfold codeOfP;rw [if_pos (by omega)]
   have e2:clsI x.op=0:=by unfold clsI;rw [if_neg ho]
   unfold mayP mayX
   rw [e1,e2]
   rfl
 case inr.inr.inr.inl=>
  by_cases ho:0≤x.op∧x.op<32
  ·obtain ⟨op,wd,dst,src,base,disp,imm,cc⟩:=x
   simp only at h ho
   subst h
   obtain rfl | rfl | rfl | rfl | rfl | rfl | rfl | rfl | rfl | rfl | rfl | rfl | rfl | rfl | rfl | rfl | rfl | rfl | rfl | rfl | rfl | rfl | rfl | rfl | rfl | rfl | rfl | rfl | rfl | rfl | rfl | rfl:=lt32 ho
   ·exact mp_a (c:=⟨1,96,137,0,0⟩) (show codeOfP 0 32=(⟨1,96,137,0,0⟩,true) by decide +kernel) rfl rfl rfl rfl rfl rfl
   ·exact mp_a (c:=⟨6,32,184,0,7⟩) (show codeOfP 1 32=(⟨6,32,184,0,7⟩,true) by decide +kernel) rfl rfl rfl rfl rfl rfl
   ·exact mp_a (c:=⟨1,96,1,0,0⟩) (show codeOfP 2 32=(⟨1,96,1,0,0⟩,true) by decide +kernel) rfl rfl rfl rfl rfl rfl
   ·exact mp_a (c:=⟨1,96,9,0,0⟩) (show codeOfP 3 32=(⟨1,96,9,0,0⟩,true) by decide +kernel) rfl rfl rfl rfl rfl rfl
   ·exact mp_a (c:=⟨1,96,33,0,0⟩) (show codeOfP 4 32=(⟨1,96,33,0,0⟩,true) by decide +kernel) rfl rfl rfl rfl rfl rfl
   ·exact mp_a (c:=⟨1,96,41,0,0⟩) (show codeOfP 5 32=(⟨1,96,41,0,0⟩,true) by decide +kernel) rfl rfl rfl rfl rfl rfl
   ·exact mp_a (c:=⟨1,96,49,0,0⟩) (show codeOfP 6 32=(⟨1,96,49,0,0⟩,true) by decide +kernel) rfl rfl rfl rfl rfl rfl
   ·exact mp_a (c:=⟨1,96,57,0,0⟩) (show codeOfP 7 32=(⟨1,96,57,0,0⟩,true) by decide +kernel) rfl rfl rfl rfl rfl rfl
   ·exact mp_a (c:=⟨1,96,133,0,0⟩) (show codeOfP 8 32=(⟨1,96,133,0,0⟩,true) by decide +kernel) rfl rfl rfl rfl rfl rfl
   ·exact mp_a (c:=⟨3,96,129,0,0⟩) (show codeOfP 9 32=(⟨3,96,129,0,0⟩,true) by decide +kernel) rfl rfl rfl rfl rfl rfl
   ·exact mp_a (c:=⟨3,96,129,1,0⟩) (show codeOfP 10 32=(⟨3,96,129,1,0⟩,true) by decide +kernel) rfl rfl rfl rfl rfl rfl
   ·exact mp_a (c:=⟨3,96,129,4,0⟩) (show codeOfP 11 32=(⟨3,96,129,4,0⟩,true) by decide +kernel) rfl rfl rfl rfl rfl rfl
   ·exact mp_a (c:=⟨3,96,129,5,0⟩) (show codeOfP 12 32=(⟨3,96,129,5,0⟩,true) by decide +kernel) rfl rfl rfl rfl rfl rfl
   ·exact mp_a (c:=⟨3,96,129,6,0⟩) (show codeOfP 13 32=(⟨3,96,129,6,0⟩,true) by decide +kernel) rfl rfl rfl rfl rfl rfl
   ·exact mp_a (c:=⟨3,96,129,7,0⟩) (show codeOfP 14 32=(⟨3,96,129,7,0⟩,true) by decide +kernel) rfl rfl rfl rfl rfl rfl
   ·exact mp_a (c:=⟨3,96,247,0,0⟩) (show codeOfP 15 32=(⟨3,96,247,0,0⟩,true) by decide +kernel) rfl rfl rfl rfl rfl rfl
   ·exact mp_a (c:=⟨2,96,4015,0,0⟩) (show codeOfP 16 32=(⟨2,96,4015,0,0⟩,true) by decide +kernel) rfl rfl rfl rfl rfl rfl
   ·exact mp_4 (c:=⟨4,96,193,4,0⟩) (show codeOfP 17 32=(⟨4,96,193,4,0⟩,true) by decide +kernel) rfl rfl rfl rfl rfl (show (32:Int)≤64 by decide) rfl
   ·exact mp_4 (c:=⟨4,96,193,5,0⟩) (show codeOfP 18 32=(⟨4,96,193,5,0⟩,true) by decide +kernel) rfl rfl rfl rfl rfl (show (32:Int)≤64 by decide) rfl
   ·exact mp_4 (c:=⟨4,96,193,7,0⟩) (show codeOfP 19 32=(⟨4,96,193,7,0⟩,true) by decide +kernel) rfl rfl rfl rfl rfl (show (32:Int)≤64 by decide) rfl
   ·exact mp_a (c:=⟨5,96,211,4,0⟩) (show codeOfP 20 32=(⟨5,96,211,4,0⟩,true) by decide +kernel) rfl rfl rfl rfl rfl rfl
   ·exact mp_a (c:=⟨5,96,211,5,0⟩) (show codeOfP 21 32=(⟨5,96,211,5,0⟩,true) by decide +kernel) rfl rfl rfl rfl rfl rfl
   ·exact mp_a (c:=⟨5,96,211,7,0⟩) (show codeOfP 22 32=(⟨5,96,211,7,0⟩,true) by decide +kernel) rfl rfl rfl rfl rfl rfl
   ·exact mp_a (c:=⟨5,96,247,3,0⟩) (show codeOfP 23 32=(⟨5,96,247,3,0⟩,true) by decide +kernel) rfl rfl rfl rfl rfl rfl
   ·exact mp_a (c:=⟨5,96,247,6,0⟩) (show codeOfP 24 32=(⟨5,96,247,6,0⟩,true) by decide +kernel) rfl rfl rfl rfl rfl rfl
   ·exact mp_c (c:=⟨2,96,3904,0,15⟩) (show codeOfP 25 32=(⟨2,96,3904,0,15⟩,true) by decide +kernel) rfl rfl rfl rfl rfl rfl
   ·exact mp_a (c:=⟨7,96,139,0,0⟩) (show codeOfP 26 32=(⟨7,96,139,0,0⟩,true) by decide +kernel) rfl rfl rfl rfl rfl rfl
   ·exact mp_a (c:=⟨8,112,137,0,0⟩) (show codeOfP 27 32=(⟨8,112,137,0,0⟩,true) by decide +kernel) rfl rfl rfl rfl rfl rfl
   ·exact mp_a (c:=⟨9,32,233,0,0⟩) (show codeOfP 28 32=(⟨9,32,233,0,0⟩,true) by decide +kernel) rfl rfl rfl rfl rfl rfl
   ·exact mp_c (c:=⟨9,32,3968,0,15⟩) (show codeOfP 29 32=(⟨9,32,3968,0,15⟩,true) by decide +kernel) rfl rfl rfl rfl rfl rfl
   ·exact mp_none (show codeOfP 30 32=(zCd,false) by decide +kernel) (by simp [eqX,fldX,clsI,clsT])
   ·exact mp_none (show codeOfP 31 32=(zCd,false) by decide +kernel) (by simp [eqX,fldX,clsI,clsT])
  ·have e1:codeOfP x.op x.w=(zCd,false):=by unfold codeOfP;rw [if_pos (by omega)]
   have e2:clsI x.op=0:=by unfold clsI;rw [if_neg ho]
   unfold mayP mayX
   rw [e1,e2]
   rfl
 case inr.inr.inr.inr.inl=>
  by_cases ho:0≤x.op∧x.op<32
  ·obtain ⟨op,wd,dst,src,base,disp,imm,cc⟩:=x
   simp only at h ho
   subst h
   obtain rfl | rfl | rfl | rfl | rfl | rfl | rfl | rfl | rfl | rfl | rfl | rfl | rfl | rfl | rfl | rfl | rfl | rfl | rfl | rfl | rfl | rfl | rfl | rfl | rfl | rfl | rfl | rfl | rfl | rfl | rfl | rfl:=lt32 ho
   ·exact mp_a (c:=⟨1,96,137,0,0⟩) (show codeOfP 0 64=(⟨1,96,137,0,0⟩,true) by decide +kernel) rfl rfl rfl rfl rfl rfl
   ·exact mp_a (c:=⟨3,64,199,0,0⟩) (show codeOfP 1 64=(⟨3,64,199,0,0⟩,true) by decide +kernel) rfl rfl rfl rfl rfl rfl
   ·exact mp_a (c:=⟨1,96,1,0,0⟩) (show codeOfP 2 64=(⟨1,96,1,0,0⟩,true) by decide +kernel) rfl rfl rfl rfl rfl rfl
   ·exact mp_a (c:=⟨1,96,9,0,0⟩) (show codeOfP 3 64=(⟨1,96,9,0,0⟩,true) by decide +kernel) rfl rfl rfl rfl rfl rfl
   ·exact mp_a (c:=⟨1,96,33,0,0⟩) (show codeOfP 4 64=(⟨1,96,33,0,0⟩,true) by decide +kernel) rfl rfl rfl rfl rfl rfl
   ·exact mp_a (c:=⟨1,96,41,0,0⟩) (show codeOfP 5 64=(⟨1,96,41,0,0⟩,true) by decide +kernel) rfl rfl rfl rfl rfl rfl
   ·exact mp_a (c:=⟨1,96,49,0,0⟩) (show codeOfP 6 64=(⟨1,96,49,0,0⟩,true) by decide +kernel) rfl rfl rfl rfl rfl rfl
   ·exact mp_a (c:=⟨1,96,57,0,0⟩) (show codeOfP 7 64=(⟨1,96,57,0,0⟩,true) by decide +kernel) rfl rfl rfl rfl rfl rfl
   ·exact mp_a (c:=⟨1,96,133,0,0⟩) (show codeOfP 8 64=(⟨1,96,133,0,0⟩,true) by decide +kernel) rfl rfl rfl rfl rfl rfl
   ·exact mp_a (c:=⟨3,96,129,0,0⟩) (show codeOfP 9 64=(⟨3,96,129,0,0⟩,true) by decide +kernel) rfl rfl rfl rfl rfl rfl
   ·exact mp_a (c:=⟨3,96,129,1,0⟩) (show codeOfP 10 64=(⟨3,96,129,1,0⟩,true) by decide +kernel) rfl rfl rfl rfl rfl rfl
   ·exact mp_a (c:=⟨3,96,129,4,0⟩) (show codeOfP 11 64=(⟨3,96,129,4,0⟩,true) by decide +kernel) rfl rfl rfl rfl rfl rfl
   ·exact mp_a (c:=⟨3,96,129,5,0⟩) (show codeOfP 12 64=(⟨3,96,129,5,0⟩,true) by decide +kernel) rfl rfl rfl rfl rfl rfl
   ·exact mp_a (c:=⟨3,96,129,6,0⟩) (show codeOfP 13 64=(⟨3,96,129,6,0⟩,true) by decide +kernel) rfl rfl rfl rfl rfl rfl
   ·exact mp_a (c:=⟨3,96,129,7,0⟩) (show codeOfP 14 64=(⟨3,96,129,7,0⟩,true) by decide +kernel) rfl rfl rfl rfl rfl rfl
   ·exact mp_a (c:=⟨3,96,247,0,0⟩) (show codeOfP 15 64=(⟨3,96,247,0,0⟩,true) by decide +kernel) rfl rfl rfl rfl rfl rfl
   ·exact mp_a (c:=⟨2,96,4015,0,0⟩) (show codeOfP 16 64=(⟨2,96,4015,0,0⟩,true) by decide +kernel) rfl rfl rfl rfl rfl rfl
   ·exact mp_4 (c:=⟨4,96,193,4,0⟩) (show codeOfP 17 64=(⟨4,96,193,4,0⟩,true) by decide +kernel) rfl rfl rfl rfl rfl (show (64:Int)≤64 by decide) rfl
   ·exact mp_4 (c:=⟨4,96,193,5,0⟩) (show codeOfP 18 64=(⟨4,96,193,5,0⟩,true) by decide +kernel) rfl rfl rfl rfl rfl (show (64:Int)≤64 by decide) rfl
   ·exact mp_4 (c:=⟨4,96,193,7,0⟩) (show codeOfP 19 64=(⟨4,96,193,7,0⟩,true) by decide +kernel) rfl rfl rfl rfl rfl (show (64:Int)≤64 by decide) rfl
   ·exact mp_a (c:=⟨5,96,211,4,0⟩) (show codeOfP 20 64=(⟨5,96,211,4,0⟩,true) by decide +kernel) rfl rfl rfl rfl rfl rfl
   ·exact mp_a (c:=⟨5,96,211,5,0⟩) (show codeOfP 21 64=(⟨5,96,211,5,0⟩,true) by decide +kernel) rfl rfl rfl rfl rfl rfl
   ·exact mp_a (c:=⟨5,96,211,7,0⟩) (show codeOfP 22 64=(⟨5,96,211,7,0⟩,true) by decide +kernel) rfl rfl rfl rfl rfl rfl
   ·exact mp_a (c:=⟨5,96,247,3,0⟩) (show codeOfP 23 64=(⟨5,96,247,3,0⟩,true) by decide +kernel) rfl rfl rfl rfl rfl rfl
   ·exact mp_a (c:=⟨5,96,247,6,0⟩) (show codeOfP 24 64=(⟨5,96,247,6,0⟩,true) by decide +kernel) rfl rfl rfl rfl rfl rfl
   ·exact mp_c (c:=⟨2,96,3904,0,15⟩) (show codeOfP 25 64=(⟨2,96,3904,0,15⟩,true) by decide +kernel) rfl rfl rfl rfl rfl rfl
   ·exact mp_a (c:=⟨7,96,139,0,0⟩) (show codeOfP 26 64=(⟨7,96,139,0,0⟩,true) by decide +kernel) rfl rfl rfl rfl rfl rfl
   ·exact mp_a (c:=⟨8,112,137,0,0⟩) (show codeOfP 27 64=(⟨8,112,137,0,0⟩,true) by decide +kernel) rfl rfl rfl rfl rfl rfl
   ·exact mp_no (show codeOfP 28 64=(zCd,false) by decide +kernel) rfl
   ·exact mp_no (show codeOfP 29 64=(zCd,false) by decide +kernel) (by simp [clsB,longB,jmpB,clsI,clsT])
   ·exact mp_none (show codeOfP 30 64=(zCd,false) by decide +kernel) (by simp [eqX,fldX,clsI,clsT])
   ·exact mp_none (show codeOfP 31 64=(zCd,false) by decide +kernel) (by simp [eqX,fldX,clsI,clsT])
  ·have e1:codeOfP x.op x.w=(zCd,false):=by unfold codeOfP;rw [if_pos (by omega)]
   have e2:clsI x.op=0:=by unfold clsI;rw [if_neg ho]
   unfold mayP mayX
   rw [e1,e2]
   rfl
end Go.Proofs.YtjhedldplmhmjaaGreatDoor.Mrm
