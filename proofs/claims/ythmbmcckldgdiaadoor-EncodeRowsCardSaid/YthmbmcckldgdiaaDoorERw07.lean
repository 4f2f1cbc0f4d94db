import Derived.Test.YthmbmcckldgdiaaDoorERw04
import Derived.Test.YthmbmcckldgdiaaDoorERw06
import Derived.Laws.StructEq
import Derived.Test.YthmbmcckldgdiaaDoorERw02
set_option linter.unusedVariables false
set_option linter.unusedSimpArgs false
set_option linter.unnecessarySimpa false
namespace Go.Proofs.YthmbmcckldgdiaaDoor.Mrm
open Go Go.RowKit
set_option linter.unusedVariables false
set_option linter.unusedSimpArgs false
set_option maxRecDepth 100000
theorem mo:Tryd.prog.follows .mixedOrders=true:=by kernel_rfl
section
variable {ρ:Operand → Value} {o:Oper} {w:World} {x y:Operand} {g:Nat} {fr:Nat × Nat} {T t u:TypeId} {k:IntKind} {a b:Int}
theorem ldX {X:Xi} (ho:o.op=.load 24 x) (hx:ρ x=.pointer (some ⟨g,0,none⟩)) (hg:w.heap[g]?=some (.cells (xC X) T fr)):(execOp ρ o).run Tryd.prog w=.ok (.value (.agg (xC X))) w:=
  exec_loadR 24 x ho g 0 hx hg (xL X) rfl _ Tryd.underlying24 rfl (by kernel_rfl)
theorem ex_box {v:Value} {c:Array Value} (ho:o.op=.box T x) (hx:ρ x=v) (hc:v.cells=c):(execOp ρ o).run Tryd.prog w=.ok (.value (.pointer (some ⟨w.heap.size,0,none⟩))) (w.alloc (.cells c T)):=by
  subst hc
  simp [execOp,ho,hx,go_sem]
end
set_option maxHeartbeats 1000000 in
theorem eq_x (a b:Xi) (w:World):(Op.equalIn 10000 24 (.agg (xC a)) (.agg (xC b))).run Tryd.prog w=.ok (eqX a b) w:=by
  simp [go_sem]
  unfold eqX
  (repeat' split) <;> simp [*]
theorem lt32 {op:Int} (h:0 ≤ op ∧ op < 32):op=0 ∨ op=1 ∨ op=2 ∨ op=3 ∨ op=4 ∨ op=5 ∨ op=6 ∨ op=7 ∨ op=8 ∨ op=9 ∨ op=10 ∨ op=11 ∨ op=12 ∨ op=13 ∨ op=14 ∨ op=15 ∨ op=16 ∨ op=17 ∨ op=18 ∨ op=19 ∨ op=20 ∨ op=21 ∨ op=22 ∨ op=23 ∨ op=24 ∨ op=25 ∨ op=26 ∨ op=27 ∨ op=28 ∨ op=29 ∨ op=30 ∨ op=31:=by omega
end Go.Proofs.YthmbmcckldgdiaaDoor.Mrm
namespace Go.Proofs.YthmbmcckldgdiaaDoor.Mrm
open Go Go.RowKit
set_option linter.unusedVariables false
set_option linter.unusedSimpArgs false
set_option maxRecDepth 100000
end Go.Proofs.YthmbmcckldgdiaaDoor.Mrm
namespace Go.Proofs.YthmbmcckldgdiaaDoor.Mrm
open Go Go.RowKit
set_option linter.unusedVariables false
set_option linter.unusedSimpArgs false
set_option linter.unnecessarySimpa false
set_option maxRecDepth 100000
end Go.Proofs.YthmbmcckldgdiaaDoor.Mrm
namespace Go.Proofs.YthmbmcckldgdiaaDoor.Mrm
open Go Go.RowKit
set_option linter.unusedVariables false
set_option linter.unusedSimpArgs false
set_option linter.unnecessarySimpa false
set_option maxRecDepth 100000
theorem nb {b c:Bool} (h:(!b)=c):b=!c:=by rw [← h,Bool.not_not]
theorem wrap_w {n:Int} (h:-128 ≤ n ∧ n < 128):IntKind.i64.wrap n=n:=by rw [IntKind.wrap_i64];omega
end Go.Proofs.YthmbmcckldgdiaaDoor.Mrm
namespace Go.Proofs.YthmbmcckldgdiaaDoor.Mrm
open Go Go.RowKit
set_option linter.unusedVariables false
set_option linter.unnecessarySimpa false
set_option linter.unusedSimpArgs false
set_option maxRecDepth 100000
def rexN (wide:Bool) (r m:Int):Int:=(bif wide then 8 else 0) + (bif decide (7 < r) then 4 else 0) + (bif decide (7 < m) then 1 else 0)
def rexL (wide:Bool) (r m:Int) (al:Bool):List Int:=if rexN wide r m=0 ∧ al=false then [] else [64 + rexN wide r m]
end Go.Proofs.YthmbmcckldgdiaaDoor.Mrm
namespace Go.Proofs.YthmbmcckldgdiaaDoor.Mrm
open Go Go.RowKit
set_option linter.unusedVariables false
set_option linter.unnecessarySimpa false
set_option linter.unusedSimpArgs false
set_option maxRecDepth 100000
end Go.Proofs.YthmbmcckldgdiaaDoor.Mrm
namespace Go.Proofs.YthmbmcckldgdiaaDoor.Mrm
open Go Go.RowKit
set_option linter.unusedVariables false
set_option linter.unnecessarySimpa false
set_option linter.unusedSimpArgs false
set_option maxRecDepth 100000
def bareX (x:Xi):List Int:=
  if x.op=28 then (if x.w=8 then [235,x.imm % 256] else [233] ++ numL x.imm 4) else
  if x.op=29 then (if x.w=8 then [112 + x.cc,x.imm % 256] else [15,128 + x.cc] ++ numL x.imm 4) else
  if x.op=30 then [195] else [15,5]
def bytesX (x:Xi):List Int:=
  if x.op=16 then rexL (x.w == 64) x.dst x.src false ++ [15,175,opI 192 x.dst x.src] else
  if clsI x.op=1 then rexL (x.w == 64) x.src x.dst false ++ [codI x.op,opI 192 x.src x.dst] else
  if x.op=1 then (rexL (x.w == 64) 0 x.dst false ++ (if x.w=64 then [199,opI 192 0 x.dst] else [184 + x.dst % 8])) ++ numL x.imm 4 else
  if clsI x.op=2 then ((rexL (x.w == 64) 0 x.dst false ++ [if x.op=15 then 247 else 129]) ++ [opI 192 (codI x.op) x.dst]) ++ numL x.imm 4 else
  if clsI x.op=3 then rexL (x.w == 64) 0 x.dst false ++ [193,opI 192 (codI x.op) x.dst,x.imm] else
  if clsI x.op=4 then rexL (x.w == 64) 0 x.dst false ++ [if x.op=23 ∨ x.op=24 then 247 else 211,opI 192 (codI x.op) x.dst] else
  if x.op=25 then rexL (x.w == 64) x.dst x.src false ++ [15,64 + x.cc,opI 192 x.dst x.src] else
  if x.op=26 then (rexL (x.w == 64) x.dst x.base false ++ (if x.w=8 then [15,182] else if x.w=16 then [15,183] else [139])) ++ memL x.dst x.base x.disp else
  if x.op=27 then (((if x.w=16 then [102] else []) ++ rexL (x.w == 64) x.src x.base (x.w == 8)) ++ [if x.w=8 then 136 else 137]) ++ memL x.src x.base x.disp
  else bareX x
theorem made_own {base:Nat} (w:World) (l:List Int) (h:l.length ≤ 100) (hb:base ≤ w.heap.size):Bts base (w.alloc (.cells (l.map (Value.int .u8)).toArray 5)) (.slice (some ⟨w.heap.size,0,none⟩) l.length l.length) l:=
  ⟨by simp [u8s],.inr ⟨w.heap.size,l.length,_,rfl,hb,heap_last w _ _ rfl,Nat.le_refl _,by unfold maxLen;omega,by simp,by simp [u8s,List.take_of_length_le]⟩⟩
theorem below_boxed {W w':World} {o:Obj} (h:Below (W.alloc o).heap.size (W.alloc o) w'):Below W.heap.size W w':=below_call (below_new (Below.refl _ _) _) h
theorem memL_few (r m d:Int):(memL r m d).length ≤ 6:=by
  unfold memL midL
  split <;> simp [numL_length]
def RetX (l:List Int) (c:Int) (W:World) (e:Ending) (w':World):Prop:=∃ v,e=.returned (.tuple #[v,.int .i64 c]) ∧ Bts W.heap.size w' v l ∧ Below W.heap.size W w'
end Go.Proofs.YthmbmcckldgdiaaDoor.Mrm
namespace Go.Proofs.YthmbmcckldgdiaaDoor.Mrm
open Go Go.RowKit
set_option linter.unusedVariables false
set_option linter.unusedSimpArgs false
set_option linter.unnecessarySimpa false
set_option maxRecDepth 100000
structure Cd where
  sh:Int
  wd:Int
  va:Int
  dg:Int
  lo:Int
deriving DecidableEq
structure Pt where
  reg:Int
  rm:Int
  disp:Int
  imm:Int
  cc:Int
deriving DecidableEq
def zCd:Cd:=⟨0,0,0,0,0⟩
def codesL:List Cd:=[⟨1,96,137,0,0⟩,⟨3,64,199,0,0⟩,⟨1,96,1,0,0⟩,⟨1,96,9,0,0⟩,⟨1,96,33,0,0⟩,⟨1,96,41,0,0⟩,⟨1,96,49,0,0⟩,⟨1,96,57,0,0⟩,⟨1,96,133,0,0⟩,⟨3,96,129,0,0⟩,⟨3,96,129,1,0⟩,⟨3,96,129,4,0⟩,⟨3,96,129,5,0⟩,⟨3,96,129,6,0⟩,⟨3,96,129,7,0⟩,⟨3,96,247,0,0⟩,⟨2,96,4015,0,0⟩,⟨4,96,193,4,0⟩,⟨4,96,193,5,0⟩,⟨4,96,193,7,0⟩,⟨5,96,211,4,0⟩,⟨5,96,211,5,0⟩,⟨5,96,211,7,0⟩,⟨5,96,247,3,0⟩,⟨5,96,247,6,0⟩,⟨2,96,3904,0,15⟩,⟨7,96,139,0,0⟩,⟨8,112,137,0,0⟩,⟨9,32,233,0,0⟩,⟨9,32,3968,0,15⟩,⟨0,0,195,0,0⟩,⟨0,0,3845,0,0⟩]
def othersL:List (Int × Cd):=[(1,⟨6,32,184,0,7⟩),(26,⟨7,8,4022,0,0⟩),(26,⟨7,16,4023,0,0⟩),(27,⟨8,8,136,0,0⟩),(28,⟨10,8,235,0,0⟩),(29,⟨10,8,112,0,15⟩)]
def codeA (op:Int):Cd:=codesL.getD op.toNat zCd
def hasB (c:Cd) (w:Int):Bool:=bif c.wd == 0 then w == 0 else (widB w && (bits .and .i8 c.wd w != 0))
def ofO:Option (Int × Cd) → Cd × Bool
  | some o=>(o.2,true)
  | none=>(zCd,false)
def codeOfP (op w:Int):Cd × Bool:=
  if op < 0 ∨ 32 ≤ op then (zCd,false) else
  if hasB (codeA op) w then (codeA op,true) else
  ofO (othersL.find? (fun o=>o.1 == op && hasB o.2 w))
def partsP (x:Xi) (c:Cd):Pt:=
  bif c.sh == 1 then ⟨x.src,x.dst,x.disp,x.imm,x.cc⟩ else
  bif c.sh == 2 then ⟨x.dst,x.src,x.disp,x.imm,x.cc⟩ else
  bif c.sh == 3 then ⟨c.dg,x.dst,x.disp,x.imm,x.cc⟩ else
  bif c.sh == 4 then ⟨c.dg,x.dst,x.disp,x.imm,x.cc⟩ else
  bif c.sh == 5 then ⟨c.dg,x.dst,x.disp,x.imm,x.cc⟩ else
  bif c.sh == 6 then ⟨c.dg,x.dst,x.disp,x.imm,x.cc⟩ else
  bif c.sh == 7 then ⟨x.dst,x.base,x.disp,x.imm,x.cc⟩ else
  bif c.sh == 8 then ⟨x.src,x.base,x.disp,x.imm,x.cc⟩ else ⟨0,0,x.disp,x.imm,x.cc⟩
def fillCc (c:Cd) (p:Pt):Int:=bif c.lo == 15 then p.cc else 0
def filledP (op w:Int) (c:Cd) (p:Pt):Xi:=
  bif c.sh == 1 then ⟨op,w,p.rm,p.reg,0,0,0,fillCc c p⟩ else
  bif c.sh == 2 then ⟨op,w,p.reg,p.rm,0,0,0,fillCc c p⟩ else
  bif c.sh == 3 then ⟨op,w,p.rm,0,0,0,p.imm,fillCc c p⟩ else
  bif c.sh == 4 then ⟨op,w,p.rm,0,0,0,p.imm,fillCc c p⟩ else
  bif c.sh == 6 then ⟨op,w,p.rm,0,0,0,p.imm,fillCc c p⟩ else
  bif c.sh == 5 then ⟨op,w,p.rm,0,0,0,0,fillCc c p⟩ else
  bif c.sh == 7 then ⟨op,w,p.reg,0,p.rm,p.disp,0,fillCc c p⟩ else
  bif c.sh == 8 then ⟨op,w,0,p.reg,p.rm,p.disp,0,fillCc c p⟩ else
  bif c.sh == 9 then ⟨op,w,0,0,0,0,p.imm,fillCc c p⟩ else
  bif c.sh == 10 then ⟨op,w,0,0,0,0,p.imm,fillCc c p⟩ else ⟨op,w,0,0,0,0,0,fillCc c p⟩
def fitsP (x:Xi) (c:Cd):Bool:=
  regB x.dst && (regB x.src && (regB x.base && (!(c.lo == 15 && !(ccB x.cc)) &&
  (bif c.sh == 4 then (decide (0 ≤ x.imm) && decide (x.imm < x.w)) else bif c.sh == 10 then oneB x.imm else (fourB x.imm && fourB x.disp)))))
def mayP (x:Xi):Bool:=(codeOfP x.op x.w).2 && (eqX x (filledP x.op x.w (codeOfP x.op x.w).1 (partsP x (codeOfP x.op x.w).1)) && fitsP x (codeOfP x.op x.w).1)
def valP (c:Cd) (p:Pt):Int:=bif c.lo == 15 then c.va + p.cc else bif c.sh == 6 then c.va + p.rm % 8 else c.va
def halfP (w:Int) (c:Cd):Bool:=c.sh == 8 && w == 16
def rexP (w:Int) (c:Cd) (p:Pt):Bool:=(c.sh == 8 && w == 8) || (w == 64 || needB p.reg p.rm)
def aheadP (w:Int) (c:Cd) (p:Pt):List Int:=
  (bif halfP w c then [102] else []) ++ ((bif rexP w c p then [rexI (w == 64) p.reg p.rm] else []) ++ ((bif valP c p / 256 % 256 != 0 then [valP c p / 256 % 256] else []) ++ [valP c p % 256]))
def inMemB (s:Int):Bool:=s == 7 || s == 8
def inOpB (s:Int):Bool:=s == 1 || (s == 2 || (s == 3 || (s == 4 || (s == 5 || (s == 7 || s == 8)))))
def immN (s:Int):Int:=bif (s == 3 || (s == 6 || s == 9)) then 4 else bif (s == 4 || s == 10) then 1 else 0
def operandP (c:Cd) (p:Pt):List Int:=bif inMemB c.sh then memL p.reg p.rm p.disp else bif inOpB c.sh then regL p.reg p.rm else []
def immP (c:Cd) (p:Pt):List Int:=numL p.imm (immN c.sh).toNat
def encP (w:Int) (c:Cd) (p:Pt):List Int:=(aheadP w c p ++ operandP c p) ++ immP c p
def encX (x:Xi):List Int:=encP x.w (codeOfP x.op x.w).1 (partsP x (codeOfP x.op x.w).1)
end Go.Proofs.YthmbmcckldgdiaaDoor.Mrm
