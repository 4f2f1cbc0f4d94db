import Derived.Test.YtbpehbeakhocnaaGreatDoorIRm02
import Derived.Test.YtbpehbeakhocnaaGreatDoorIRm10
import Derived.Test.YtbpehbeakhocnaaGreatDoorIRm03
import Derived.Test.YtbpehbeakhocnaaGreatDoorIRm06
import Derived.Laws.StructEq
set_option maxHeartbeats 2000000
set_option linter.unusedVariables false
set_option linter.unusedSimpArgs false
set_option linter.unnecessarySimpa false
namespace Go.Proofs.YtbpehbeakhocnaaGreatDoor.Flg
open Go Go.RowKit
structure Fl where
  k:Bool
  c:Bool
  z:Bool
  s:Bool
  o:Bool
abbrev fC (f:Fl):Array Value:=#[.bool f.k,.bool f.c,.bool f.z,.bool f.s,.bool f.o]
abbrev fV (f:Fl):Value:=.agg #[.bool f.k,.bool f.c,.bool f.z,.bool f.s,.bool f.o]
abbrev zF:Fl:=⟨false,false,false,false,false⟩
def negB (w v:Int):Bool:=decide (sgnI v w < 0)
def overA (w a b s:Int):Bool:=(negB w a == negB w b) && (negB w s != negB w a)
def overS (w a b s:Int):Bool:=(negB w a != negB w b) && (negB w s != negB w a)
def aftF (w v:Int) (c o:Bool):Fl:=⟨true,c,v == 0,negB w v,o⟩
def addV (w a b:Int):Int:=cutI (opI 0 w (cutI a w) (cutI b w)) w
def subV (w a b:Int):Int:=cutI (opI 1 w (cutI a w) (cutI b w)) w
def addF (w a b:Int):Fl:=if longB w=true then aftF w (addV w a b) (decide (addV w a b < cutI a w)) (overA w a b (addV w a b)) else zF
def subF (w a b:Int):Fl:=if longB w=true then aftF w (subV w a b) (decide (cutI a w < cutI b w)) (overS w a b (subV w a b)) else zF
def ofF (w v:Int):Fl:=if longB w=true then aftF w (cutI v w) false false else zF
def errW (w:Int):Int:=if longB w=true then 0 else 2
def mayC (cc:Int):Bool:=cc == 2 || cc == 3 || cc == 4 || cc == 5 || cc == 6 || cc == 7 || cc == 12 || cc == 13 || cc == 14 || cc == 15
def ccF (cc:Int) (f:Fl):Bool:=
  if cc=2 then f.c else if cc=3 then !f.c else if cc=4 then f.z else if cc=5 then !f.z
  else if cc=6 then f.c || f.z else if cc=7 then !f.c && !f.z
  else if cc=12 then f.s != f.o else if cc=13 then f.s == f.o
  else if cc=14 then f.z || f.s != f.o else !f.z && f.s == f.o
def holF (cc:Int) (f:Fl):Bool:=if mayC cc=true ∧ f.k=true then ccF cc f else false
def holE (cc:Int) (f:Fl):Int:=if mayC cc=true then (if f.k=true then 0 else 20) else 2
def turnC (cc:Int):Int:=if mayC cc=true then (if cc % 2=0 then cc + 1 else cc - 1) else 0
theorem may_cases {cc:Int} (h:mayC cc=true):cc=2 ∨ cc=3 ∨ cc=4 ∨ cc=5 ∨ cc=6 ∨ cc=7 ∨ cc=12 ∨ cc=13 ∨ cc=14 ∨ cc=15:=by
  unfold mayC at h;simpa [or_assoc] using h
theorem may_not {cc:Int} (h:mayC cc=false):cc ≠ 2 ∧ cc ≠ 3 ∧ cc ≠ 4 ∧ cc ≠ 5 ∧ cc ≠ 6 ∧ cc ≠ 7 ∧ cc ≠ 12 ∧ cc ≠ 13 ∧ cc ≠ 14 ∧ cc ≠ 15:=by
  unfold mayC at h;simpa [and_assoc] using h
theorem neg_cut {w:Int} (h:longB w=true) (v:Int):negB w (cutI v w)=negB w v:=by
  unfold negB
  rcases longB_cases h with rfl | rfl
  · rw [cutI_32];unfold sgnI;simp only [if_neg (show ¬ (32:Int)=8 by omega),if_neg (show ¬ (32:Int)=16 by omega),if_pos]
    congr 1;rw [show v % 4294967296 + 2147483648=v + 2147483648 - 4294967296 * (v / 4294967296) by omega];apply propext;omega
  · rw [cutI_64]
theorem sgn_32 (v:Int):sgnI v 32=(v + 2147483648) % 4294967296 - 2147483648:=rfl
theorem sgn_64 (v:Int):sgnI v 64=(v + 9223372036854775808) % 18446744073709551616 - 9223372036854775808:=rfl
theorem top_32 (v:Int):(v / 2147483648 % 2 == 1)=negB 32 v:=by
  unfold negB;rw [sgn_32,Bool.eq_iff_iff,decide_eq_true_iff,beq_iff_eq];omega
theorem top_64 (v:Int) (h0:0 ≤ v) (h1:v < 18446744073709551616):(v / 9223372036854775808 % 2 == 1)=negB 64 v:=by
  unfold negB;rw [sgn_64,Bool.eq_iff_iff,decide_eq_true_iff,beq_iff_eq];omega
theorem neg_32 (v:Int):decide (wrap64 (IntKind.u64.wrap (v * 4294967296)) < 0)=negB 32 v:=by
  rw [IntKind.wrap_u64];unfold negB wrap64;rw [sgn_32,Bool.eq_iff_iff,decide_eq_true_iff,decide_eq_true_iff];omega
theorem neg_64 (v:Int):decide (wrap64 (IntKind.u64.wrap v) < 0)=negB 64 v:=by
  rw [IntKind.wrap_u64];unfold negB wrap64;rw [sgn_64,Bool.eq_iff_iff,decide_eq_true_iff,decide_eq_true_iff];omega
theorem cut_long {w:Int} (h:longB w=true) (v:Int) (h0:0 ≤ v) (h1:v < 18446744073709551616):0 ≤ cutI v w ∧ cutI v w < 18446744073709551616 ∧ cutI v w ≤ v:=by
  rcases longB_cases h with rfl | rfl
  · rw [cutI_32];omega
  · rw [cutI_64];omega
theorem cut_cut {w:Int} (h:longB w=true) (v:Int):cutI (cutI v w) w=cutI v w:=by
  rcases longB_cases h with rfl | rfl
  · rw [cutI_32,cutI_32];omega
  · rw [cutI_64,cutI_64]
theorem addV_bd {w:Int} (h:longB w=true) (a b:Int):0 ≤ addV w a b ∧ addV w a b < 18446744073709551616 ∧ cutI (addV w a b) w=addV w a b:=by
  unfold addV
  rw [opI_0,cut_cut h]
  have:=cut_long h ((cutI a w + cutI b w) % 18446744073709551616) (by omega) (by omega)
  exact ⟨this.1,this.2.1,rfl⟩
theorem subV_bd {w:Int} (h:longB w=true) (a b:Int):0 ≤ subV w a b ∧ subV w a b < 18446744073709551616 ∧ cutI (subV w a b) w=subV w a b:=by
  unfold subV
  rw [opI_1,cut_cut h]
  have:=cut_long h ((cutI a w - cutI b w) % 18446744073709551616) (by omega) (by omega)
  exact ⟨this.1,this.2.1,rfl⟩
end Go.Proofs.YtbpehbeakhocnaaGreatDoor.Flg
namespace Go.Proofs.YtbpehbeakhocnaaGreatDoor.Exe
open Go Go.RowKit
open Mrm (Xi zX mayX bytesX)
open Flg (Fl zF addF subF ofF holF holE)
structure Mc where
  r:Nat → Int
  f:Fl
  a:Int
def Mc.setR (m:Mc) (j:Nat) (v:Int):Mc:={ m with r:=fun k=>if k=j then v else m.r k }
def zM:Mc:=⟨fun _=>0,zF,0⟩
def mcC (m:Mc):Array Value:=#[.int .u64 (m.r 0),.int .u64 (m.r 1),.int .u64 (m.r 2),.int .u64 (m.r 3),.int .u64 (m.r 4),.int .u64 (m.r 5),.int .u64 (m.r 6),.int .u64 (m.r 7),.int .u64 (m.r 8),.int .u64 (m.r 9),.int .u64 (m.r 10),.int .u64 (m.r 11),.int .u64 (m.r 12),.int .u64 (m.r 13),.int .u64 (m.r 14),.int .u64 (m.r 15),.bool m.f.k,.bool m.f.c,.bool m.f.z,.bool m.f.s,.bool m.f.o,.int .u64 m.a]
structure Ex where
  m:Mc
  x:Xi
  l:Int
def exC (s:Ex):Array Value:=#[.int .u64 (s.m.r 0),.int .u64 (s.m.r 1),.int .u64 (s.m.r 2),.int .u64 (s.m.r 3),.int .u64 (s.m.r 4),.int .u64 (s.m.r 5),.int .u64 (s.m.r 6),.int .u64 (s.m.r 7),.int .u64 (s.m.r 8),.int .u64 (s.m.r 9),.int .u64 (s.m.r 10),.int .u64 (s.m.r 11),.int .u64 (s.m.r 12),.int .u64 (s.m.r 13),.int .u64 (s.m.r 14),.int .u64 (s.m.r 15),.bool s.m.f.k,.bool s.m.f.c,.bool s.m.f.z,.bool s.m.f.s,.bool s.m.f.o,.int .u64 s.m.a,
  .int .i8 s.x.op,.int .i8 s.x.w,.int .i8 s.x.dst,.int .i8 s.x.src,.int .i8 s.x.base,.int .i64 s.x.disp,.int .i64 s.x.imm,.int .i8 s.x.cc,.int .u64 s.l]
def Ex.upR (s:Ex) (j:Nat) (v:Int):Ex:=⟨s.m.setR j v,s.x,s.l⟩
def Ex.upF (s:Ex) (f:Fl):Ex:=⟨⟨s.m.r,f,s.m.a⟩,s.x,s.l⟩
def Ex.upA (s:Ex) (v:Int):Ex:=⟨⟨s.m.r,s.m.f,v⟩,s.x,s.l⟩
def Mc.upF (m:Mc) (f:Fl):Mc:=⟨m.r,f,m.a⟩
def Mc.upA (m:Mc) (v:Int):Mc:=⟨m.r,m.f,v⟩
theorem lt16 {j:Nat} (h:j < 16):j=0 ∨ j=1 ∨ j=2 ∨ j=3 ∨ j=4 ∨ j=5 ∨ j=6 ∨ j=7 ∨ j=8 ∨ j=9 ∨ j=10 ∨ j=11 ∨ j=12 ∨ j=13 ∨ j=14 ∨ j=15:=by omega
theorem exC_size (s:Ex):(exC s).size=31:=rfl
theorem mcC_size (m:Mc):(mcC m).size=22:=rfl
theorem exC_reg (s:Ex) {j:Nat} (h:j < 16):(exC s)[j]?=some (.int .u64 (s.m.r j)):=by
  rcases lt16 h with rfl | rfl | rfl | rfl | rfl | rfl | rfl | rfl | rfl | rfl | rfl | rfl | rfl | rfl | rfl | rfl <;> rfl
theorem mcC_reg (s:Mc) {j:Nat} (h:j < 16):(mcC s)[j]?=some (.int .u64 (s.r j)):=by
  rcases lt16 h with rfl | rfl | rfl | rfl | rfl | rfl | rfl | rfl | rfl | rfl | rfl | rfl | rfl | rfl | rfl | rfl <;> rfl
theorem exC_set (s:Ex) {j:Nat} (h:j < 16) (v:Int):(exC s).setIfInBounds j (.int .u64 v)=exC (s.upR j v):=by
  rcases lt16 h with rfl | rfl | rfl | rfl | rfl | rfl | rfl | rfl | rfl | rfl | rfl | rfl | rfl | rfl | rfl | rfl <;> rfl
theorem mcC_set (s:Mc) {j:Nat} (h:j < 16) (v:Int):(mcC s).setIfInBounds j (.int .u64 v)=mcC (s.setR j v):=by
  rcases lt16 h with rfl | rfl | rfl | rfl | rfl | rfl | rfl | rfl | rfl | rfl | rfl | rfl | rfl | rfl | rfl | rfl <;> rfl
theorem upR_self (s:Ex) (j:Nat) (v:Int):(s.upR j v).m.r j=v:=if_pos rfl
theorem setR_self (s:Mc) (j:Nat) (v:Int):(s.setR j v).r j=v:=if_pos rfl
theorem setR_other (s:Mc) {j k:Nat} (v:Int) (h:k ≠ j):(s.setR j v).r k=s.r k:=if_neg h
abbrev U64 (v:Int):Prop:=0 ≤ v ∧ v < 18446744073709551616
structure MOk (m:Mc):Prop where
  r:∀ j,U64 (m.r j)
  a:U64 m.a
theorem MOk.setR {m:Mc} (h:MOk m) (j:Nat) {v:Int} (hv:U64 v):MOk (m.setR j v):=⟨fun k=>by
  show U64 (if k=j then v else m.r k)
  by_cases e:k=j
  · rw [if_pos e];exact hv
  · rw [if_neg e];exact h.r k,h.a⟩
theorem MOk.upF {m:Mc} (h:MOk m) (f:Fl):MOk (m.upF f):=⟨h.r,h.a⟩
theorem MOk.upA {m:Mc} (h:MOk m) {v:Int} (hv:U64 v):MOk (m.upA v):=⟨h.r,hv⟩
theorem U64.wrap (v:Int):U64 (IntKind.u64.wrap v):=by rw [IntKind.wrap_u64];unfold U64;omega
theorem U64.mod (v:Int):U64 (v % 18446744073709551616):=by unfold U64;omega
theorem U64.cut {v:Int} (h:U64 v) (w:Int):U64 (cutI v w):=cutI_bd v w h.1 h.2
theorem U64.do_ (op w:Int) {a b:Int} (ha:U64 a) (hb:U64 b):U64 (doI op w a b):=doI_bd op w a b ha.1 ha.2 hb.1 hb.2
theorem U64.and {a b:Int} (ha:U64 a) (hb:U64 b):U64 (((a.toNat &&& b.toNat:Nat):Int)):=⟨Int.natCast_nonneg _,and_bd a b ha.2⟩
def srcX (m:Mc) (x:Xi) (l:Int):Int:=
  if x.op=20 ∨ x.op=21 ∨ x.op=22 then m.r 1
  else if x.op=26 ∨ x.op=30 ∨ x.op=31 then l
  else if x.op=0 ∨ x.op=2 ∨ x.op=3 ∨ x.op=4 ∨ x.op=5 ∨ x.op=6 ∨ x.op=7 ∨ x.op=8 ∨ x.op=16 ∨ x.op=25 then m.r x.src.toNat
  else IntKind.u64.wrap x.imm
def putX (op:Int) (fl:Fl) (m:Mc) (x:Xi) (b:Int):Mc:=(m.upF fl).setR x.dst.toNat (doI op x.w (m.r x.dst.toNat) b)
def divB (m:Mc) (x:Xi):Bool:=cutI (m.r 2) x.w == 0 && cutI (m.r x.dst.toNat) x.w != 0
def divM (m:Mc) (x:Xi):Mc:=((m.setR 0 (doI 3 x.w (m.r 0) (m.r x.dst.toNat))).setR 2 (doI 9 x.w (m.r 0) (m.r x.dst.toNat))).upF zF
def cmvM (m:Mc) (x:Xi):Mc:=m.setR x.dst.toNat (cutI (bif holF x.cc m.f then m.r x.src.toNat else m.r x.dst.toNat) x.w)
def jccM (m:Mc) (x:Xi):Mc:=bif holF x.cc m.f then m.upA (IntKind.u64.wrap (m.a + IntKind.u64.wrap x.imm)) else m
def effX (m:Mc) (x:Xi) (l:Int):Option Mc:=
  let d:=x.dst.toNat;let a:=m.r d;let b:=srcX m x l;let w:=x.w
  if x.op=0 ∨ x.op=1 ∨ x.op=26 then some (m.setR d (cutI b w))
  else if x.op=2 ∨ x.op=9 then some (putX 0 (addF w a b) m x b)
  else if x.op=3 ∨ x.op=10 then some (putX 4 (ofF w (doI 4 w a b)) m x b)
  else if x.op=4 ∨ x.op=11 then some (putX 5 (ofF w (doI 5 w a b)) m x b)
  else if x.op=5 ∨ x.op=12 then some (putX 1 (subF w a b) m x b)
  else if x.op=6 ∨ x.op=13 then some (putX 10 (ofF w (doI 10 w a b)) m x b)
  else if x.op=7 ∨ x.op=14 then some (m.upF (subF w a b))
  else if x.op=8 ∨ x.op=15 then some (m.upF (ofF w (doI 5 w a b)))
  else if x.op=16 then some (putX 2 zF m x b)
  else if x.op=17 ∨ x.op=20 then some (putX 6 zF m x b)
  else if x.op=18 ∨ x.op=21 then some (putX 7 zF m x b)
  else if x.op=19 ∨ x.op=22 then some (putX 12 zF m x b)
  else if x.op=23 then some ((m.upF (subF w 0 a)).setR d (doI 8 w a 0))
  else if x.op=24 then (bif divB m x then some (divM m x) else none)
  else if x.op=25 then (bif m.f.k then some (cmvM m x) else none)
  else if x.op=27 then some m
  else if x.op=28 then some (m.upA (IntKind.u64.wrap (m.a + b)))
  else if x.op=29 then (bif m.f.k then some (jccM m x) else none)
  else if x.op=30 then some ((m.upA l).setR 4 (IntKind.u64.wrap (m.r 4 + 8)))
  else some (((m.setR 0 l).setR 1 0).setR 11 0)
def lenX (x:Xi):Int:=((bytesX x).length:Int)
def goX (m:Mc) (x:Xi) (l:Int):Option Mc:=effX (m.upA (IntKind.u64.wrap (m.a + IntKind.u64.wrap (lenX x)))) x l
def doX (m:Mc) (x:Xi) (l:Int):Mc:=if mayX x=true then (goX m x l).getD zM else zM
def doXe (m:Mc) (x:Xi) (l:Int):Int:=if mayX x=true then (if (goX m x l).isSome=true then 0 else 20) else 2
theorem ofF_and (w:Int) {a b:Int} (ha:U64 a) (hb:U64 b):ofF w (((a.toNat &&& b.toNat:Nat):Int))=ofF w (doI 5 w a b):=by
  unfold ofF
  cases h:longB w
  · rfl
  · show Flg.aftF w (cutI _ w) false false=Flg.aftF w (cutI _ w) false false
    have e:cutI (((a.toNat &&& b.toNat:Nat):Int)) w=cutI (doI 5 w a b) w:=by
      rw [show doI 5 w a b=cutI (opI 5 w (cutI a w) (cutI b w)) w from if_pos ⟨by omega,by omega,h⟩,Flg.cut_cut h,opI_5]
      rcases longB_cases h with rfl | rfl
      · simp only [cutI_32]
        have e1:(a % 4294967296).toNat=a.toNat % 2 ^ 32:=by have:=ha.1;omega
        have e2:(b % 4294967296).toNat=b.toNat % 2 ^ 32:=by have:=hb.1;omega
        rw [e1,e2,← Nat.and_mod_two_pow]
        omega
      · simp only [cutI_64]
    rw [e]
theorem eff_0 (m:Mc) {x:Xi} (l:Int) (h:x.op=0):effX m x l=some (m.setR x.dst.toNat (cutI (m.r x.src.toNat) x.w)):=by
  unfold effX srcX;simp only [h];rfl
theorem eff_1 (m:Mc) {x:Xi} (l:Int) (h:x.op=1):effX m x l=some (m.setR x.dst.toNat (cutI (IntKind.u64.wrap x.imm) x.w)):=by
  unfold effX srcX;simp only [h];rfl
theorem eff_2 (m:Mc) {x:Xi} (l:Int) (h:x.op=2):effX m x l=some ((m.upF (addF x.w (m.r x.dst.toNat) (m.r x.src.toNat))).setR x.dst.toNat (doI 0 x.w (m.r x.dst.toNat) (m.r x.src.toNat))):=by
  unfold effX srcX;simp only [h];rfl
theorem eff_3 (m:Mc) {x:Xi} (l:Int) (h:x.op=3):effX m x l=some ((m.upF (ofF x.w (doI 4 x.w (m.r x.dst.toNat) (m.r x.src.toNat)))).setR x.dst.toNat (doI 4 x.w (m.r x.dst.toNat) (m.r x.src.toNat))):=by
  unfold effX srcX;simp only [h];rfl
theorem eff_4 (m:Mc) {x:Xi} (l:Int) (h:x.op=4):effX m x l=some ((m.upF (ofF x.w (doI 5 x.w (m.r x.dst.toNat) (m.r x.src.toNat)))).setR x.dst.toNat (doI 5 x.w (m.r x.dst.toNat) (m.r x.src.toNat))):=by
  unfold effX srcX;simp only [h];rfl
theorem eff_5 (m:Mc) {x:Xi} (l:Int) (h:x.op=5):effX m x l=some ((m.upF (subF x.w (m.r x.dst.toNat) (m.r x.src.toNat))).setR x.dst.toNat (doI 1 x.w (m.r x.dst.toNat) (m.r x.src.toNat))):=by
  unfold effX srcX;simp only [h];rfl
theorem eff_6 (m:Mc) {x:Xi} (l:Int) (h:x.op=6):effX m x l=some ((m.upF (ofF x.w (doI 10 x.w (m.r x.dst.toNat) (m.r x.src.toNat)))).setR x.dst.toNat (doI 10 x.w (m.r x.dst.toNat) (m.r x.src.toNat))):=by
  unfold effX srcX;simp only [h];rfl
theorem eff_7 (m:Mc) {x:Xi} (l:Int) (h:x.op=7):effX m x l=some (m.upF (subF x.w (m.r x.dst.toNat) (m.r x.src.toNat))):=by
  unfold effX srcX;simp only [h];rfl
theorem eff_8 (m:Mc) {x:Xi} (l:Int) (h:x.op=8):effX m x l=some (m.upF (ofF x.w (doI 5 x.w (m.r x.dst.toNat) (m.r x.src.toNat)))):=by
  unfold effX srcX;simp only [h];rfl
theorem eff_9 (m:Mc) {x:Xi} (l:Int) (h:x.op=9):effX m x l=some ((m.upF (addF x.w (m.r x.dst.toNat) (IntKind.u64.wrap x.imm))).setR x.dst.toNat (doI 0 x.w (m.r x.dst.toNat) (IntKind.u64.wrap x.imm))):=by
  unfold effX srcX;simp only [h];rfl
theorem eff_10 (m:Mc) {x:Xi} (l:Int) (h:x.op=10):effX m x l=some ((m.upF (ofF x.w (doI 4 x.w (m.r x.dst.toNat) (IntKind.u64.wrap x.imm)))).setR x.dst.toNat (doI 4 x.w (m.r x.dst.toNat) (IntKind.u64.wrap x.imm))):=by
  unfold effX srcX;simp only [h];rfl
theorem eff_11 (m:Mc) {x:Xi} (l:Int) (h:x.op=11):effX m x l=some ((m.upF (ofF x.w (doI 5 x.w (m.r x.dst.toNat) (IntKind.u64.wrap x.imm)))).setR x.dst.toNat (doI 5 x.w (m.r x.dst.toNat) (IntKind.u64.wrap x.imm))):=by
  unfold effX srcX;simp only [h];rfl
theorem eff_12 (m:Mc) {x:Xi} (l:Int) (h:x.op=12):effX m x l=some ((m.upF (subF x.w (m.r x.dst.toNat) (IntKind.u64.wrap x.imm))).setR x.dst.toNat (doI 1 x.w (m.r x.dst.toNat) (IntKind.u64.wrap x.imm))):=by
  unfold effX srcX;simp only [h];rfl
theorem eff_13 (m:Mc) {x:Xi} (l:Int) (h:x.op=13):effX m x l=some ((m.upF (ofF x.w (doI 10 x.w (m.r x.dst.toNat) (IntKind.u64.wrap x.imm)))).setR x.dst.toNat (doI 10 x.w (m.r x.dst.toNat) (IntKind.u64.wrap x.imm))):=by
  unfold effX srcX;simp only [h];rfl
theorem eff_14 (m:Mc) {x:Xi} (l:Int) (h:x.op=14):effX m x l=some (m.upF (subF x.w (m.r x.dst.toNat) (IntKind.u64.wrap x.imm))):=by
  unfold effX srcX;simp only [h];rfl
theorem eff_15 (m:Mc) {x:Xi} (l:Int) (h:x.op=15):effX m x l=some (m.upF (ofF x.w (doI 5 x.w (m.r x.dst.toNat) (IntKind.u64.wrap x.imm)))):=by
  unfold effX srcX;simp only [h];rfl
theorem eff_16 (m:Mc) {x:Xi} (l:Int) (h:x.op=16):effX m x l=some ((m.upF (zF)).setR x.dst.toNat (doI 2 x.w (m.r x.dst.toNat) (m.r x.src.toNat))):=by
  unfold effX srcX;simp only [h];rfl
theorem eff_17 (m:Mc) {x:Xi} (l:Int) (h:x.op=17):effX m x l=some ((m.upF (zF)).setR x.dst.toNat (doI 6 x.w (m.r x.dst.toNat) (IntKind.u64.wrap x.imm))):=by
  unfold effX srcX;simp only [h];rfl
theorem eff_18 (m:Mc) {x:Xi} (l:Int) (h:x.op=18):effX m x l=some ((m.upF (zF)).setR x.dst.toNat (doI 7 x.w (m.r x.dst.toNat) (IntKind.u64.wrap x.imm))):=by
  unfold effX srcX;simp only [h];rfl
theorem eff_19 (m:Mc) {x:Xi} (l:Int) (h:x.op=19):effX m x l=some ((m.upF (zF)).setR x.dst.toNat (doI 12 x.w (m.r x.dst.toNat) (IntKind.u64.wrap x.imm))):=by
  unfold effX srcX;simp only [h];rfl
theorem eff_20 (m:Mc) {x:Xi} (l:Int) (h:x.op=20):effX m x l=some ((m.upF (zF)).setR x.dst.toNat (doI 6 x.w (m.r x.dst.toNat) (m.r 1))):=by
  unfold effX srcX;simp only [h];rfl
theorem eff_21 (m:Mc) {x:Xi} (l:Int) (h:x.op=21):effX m x l=some ((m.upF (zF)).setR x.dst.toNat (doI 7 x.w (m.r x.dst.toNat) (m.r 1))):=by
  unfold effX srcX;simp only [h];rfl
theorem eff_22 (m:Mc) {x:Xi} (l:Int) (h:x.op=22):effX m x l=some ((m.upF (zF)).setR x.dst.toNat (doI 12 x.w (m.r x.dst.toNat) (m.r 1))):=by
  unfold effX srcX;simp only [h];rfl
theorem eff_23 (m:Mc) {x:Xi} (l:Int) (h:x.op=23):effX m x l=some ((m.upF (subF x.w 0 (m.r x.dst.toNat))).setR x.dst.toNat (doI 8 x.w (m.r x.dst.toNat) 0)):=by
  unfold effX srcX;simp only [h];rfl
theorem eff_24 (m:Mc) {x:Xi} (l:Int) (h:x.op=24):effX m x l=(bif divB m x then some (divM m x) else none):=by
  unfold effX srcX;simp only [h];rfl
theorem eff_25 (m:Mc) {x:Xi} (l:Int) (h:x.op=25):effX m x l=(bif m.f.k then some (cmvM m x) else none):=by
  unfold effX srcX;simp only [h];rfl
theorem eff_26 (m:Mc) {x:Xi} (l:Int) (h:x.op=26):effX m x l=some (m.setR x.dst.toNat (cutI l x.w)):=by
  unfold effX srcX;simp only [h];rfl
theorem eff_27 (m:Mc) {x:Xi} (l:Int) (h:x.op=27):effX m x l=some m:=by
  unfold effX srcX;simp only [h];rfl
theorem eff_28 (m:Mc) {x:Xi} (l:Int) (h:x.op=28):effX m x l=some (m.upA (IntKind.u64.wrap (m.a + (IntKind.u64.wrap x.imm)))):=by
  unfold effX srcX;simp only [h];rfl
theorem eff_29 (m:Mc) {x:Xi} (l:Int) (h:x.op=29):effX m x l=(bif m.f.k then some (jccM m x) else none):=by
  unfold effX srcX;simp only [h];rfl
theorem eff_30 (m:Mc) {x:Xi} (l:Int) (h:x.op=30):effX m x l=some ((m.upA l).setR 4 (IntKind.u64.wrap (m.r 4 + 8))):=by
  unfold effX srcX;simp only [h];rfl
theorem eff_31 (m:Mc) {x:Xi} (l:Int) (h:x.op=31):effX m x l=some (((m.setR 0 l).setR 1 0).setR 11 0):=by
  unfold effX srcX;simp only [h];rfl
end Go.Proofs.YtbpehbeakhocnaaGreatDoor.Exe
namespace Go.Proofs.YtbpehbeakhocnaaGreatDoor.Flg
open Go Go.RowKit
set_option maxRecDepth 100000
theorem mo:Tryz.prog.follows .mixedOrders=true:=by kernel_rfl
theorem retV {a b:Value} (h:a=b):Ending.returned a=.returned b:=by rw [h]
theorem fC_one (f:Fl):(fC f).all (·.oneCell')=true:=by kernel_rfl
abbrev fL (f:Fl):List Value:=[.bool f.k,.bool f.c,.bool f.z,.bool f.s,.bool f.o]
abbrev cR (a b c d:Int):Array Value:=#[.int .u64 a,.int .u64 b,.int .i64 c,.int .i64 d]
def eqF (a b:Fl):Bool:=a.k == b.k && (a.c == b.c && (a.z == b.z && (a.s == b.s && a.o == b.o)))
theorem eqF_self (a:Fl):eqF a a=true:=by simp [eqF]
theorem eqF_known (f:Fl):eqF f ⟨true,f.c,f.z,f.s,f.o⟩=f.k:=by simp [eqF]
section
variable {ρ:Operand → Value} {o:Oper} {w:World} {x y:Operand} {g:Nat} {fr:Nat × Nat} {T t u:TypeId} {k:IntKind} {a b:Int}
theorem ldF {X:Fl} (ho:o.op=.load 28 x) (hx:ρ x=.pointer (some ⟨g,0,none⟩)) (hg:w.heap[g]?=some (.cells (fC X) T fr)):(execOp ρ o).run Tryz.prog w=.ok (.value (.agg (fC X))) w:=
  exec_loadR 28 x ho g 0 hx hg (fL X) rfl _ Tryz.underlying28 rfl (by kernel_rfl)
theorem ex_box {v:Value} {c:Array Value} (ho:o.op=.box T x) (hx:ρ x=v) (hc:v.cells=c):(execOp ρ o).run Tryz.prog w=.ok (.value (.pointer (some ⟨w.heap.size,0,none⟩))) (w.alloc (.cells c T)):=by
  subst hc
  simp [execOp,ho,hx,go_sem]
theorem al_f (ho:o.op=.alloc 28):(execOp ρ o).run Tryz.prog w=.ok (.value (.pointer (some ⟨w.heap.size,0,none⟩))) (w.alloc (.cells (fC zF) 28)):=by
  simp [execOp,ho,go_sem]
theorem ex_z5 (ho:o.op=.build 28 #[]):(execOp ρ o).run Tryz.prog w=.ok (.value (.agg (fC zF))) w:=exec_build ho (vs:=#[]) (by simp) (by kernel_rfl)
theorem ex_beq {a b:Bool} (ho:o.op=.binOp .eql 4 x y u) (hx:ρ x=.bool a) (hy:ρ y=.bool b):(execOp ρ o).run Tryz.prog w=.ok (.value (.bool (a == b))) w:=by
  cases a <;> cases b <;> simp [execOp,ho,hx,hy,go_sem]
theorem ex_bne {a b:Bool} (ho:o.op=.binOp .neq 4 x y u) (hx:ρ x=.bool a) (hy:ρ y=.bool b):(execOp ρ o).run Tryz.prog w=.ok (.value (.bool (a != b))) w:=by
  cases a <;> cases b <;> simp [execOp,ho,hx,hy,go_sem]
theorem ex_fn {n:FuncId} (ho:o.op=.binOp .eql 95 x y u) (hx:ρ x=.func (.func n) #[] #[]) (hy:ρ y=.nilFunc):(execOp ρ o).run Tryz.prog w=.ok (.value (.bool false)) w:=by
  simp [execOp,ho,hx,hy,go_sem]
  rfl
theorem ex_fz (ho:o.op=.binOp .eql 95 x y u) (hx:ρ x=.nilFunc) (hy:ρ y=.nilFunc):(execOp ρ o).run Tryz.prog w=.ok (.value (.bool true)) w:=by
  simp [execOp,ho,hx,hy,go_sem]
  rfl
theorem parts5 {ρ:Operand → Value} {i j k l m:Nat} {x y z t s:Operand} {a b c d e:Value} (h:ρ x=a) (h2:ρ y=b) (h3:ρ z=c) (h4:ρ t=d) (h5:ρ s=e):(#[(i,x),(j,y),(k,z),(l,t),(m,s)]:Array (Nat × Operand)).map (fun p=>(p.1,ρ p.2))=#[(i,a),(j,b),(k,c),(l,d),(m,e)]:=by simp [h,h2,h3,h4,h5]
theorem ex_an (ho:o.op=.binOp .andNot t x y u) (hx:ρ x=.int k a) (hy:ρ y=.int k b):(execOp ρ o).run Tryz.prog w=.ok (.value (.int k (bits .andNot k a b))) w:=by simp [execOp,ho,hx,hy,go_sem]
theorem ex_nn (ho:o.op=.unOp .not t x) {c:Bool} (hx:ρ x=.bool (!c)):(execOp ρ o).run Tryz.prog w=.ok (.value (.bool c)) w:=by simp [execOp,ho,hx,go_sem]
end
theorem eq_f (a b:Fl) (w:World):(Op.equalIn 10000 28 (.agg (fC a)) (.agg (fC b))).run Tryz.prog w=.ok (eqF a b) w:=by
  simp [go_sem]
  unfold eqF
  (repeat' split) <;> simp [*]
theorem negative_n (w v:Int) (W:World) (h:longB w=true):Calls Tryz.prog 143 #[.int .i8 w,.int .u64 v] W fun e w'=>e=.returned (.bool (negB w v)) ∧ W=w':=by
  rcases longB_cases h with rfl | rfl
  · have E:=Lib.hid (neg_32 v)
    go_enter Tryz.func143,Tryz.ntmps143
    go_wp2
    go_ret
    refine ⟨retB ?_,rfl⟩
    exact E.out
  · have E:=Lib.hid (neg_64 v)
    go_enter Tryz.func143,Tryz.ntmps143
    go_wp2
    go_ret
    refine ⟨retB ?_,rfl⟩
    exact E.out
end Go.Proofs.YtbpehbeakhocnaaGreatDoor.Flg
namespace Go.Proofs.YtbpehbeakhocnaaGreatDoor.Exe
open Go Go.RowKit
open Mrm (Xi xC xL zX mayX bytesX)
open Flg (Fl fC fL zF addF subF ofF holF holE)
set_option maxRecDepth 100000
theorem mo:Tryz.prog.follows .mixedOrders=true:=by kernel_rfl
theorem retV {a b:Value} (h:a=b):Ending.returned a=.returned b:=by rw [h]
structure But (g:Nat) (w w':World):Prop where
  os:w'.os=w.os
  tape:w'.tape=w.tape
  output:w'.output=w.output
  size:w.heap.size ≤ w'.heap.size
  block:∀ k,k < w.heap.size → k ≠ g → w'.heap[k]?=w.heap[k]?
theorem But.refl (g:Nat) (w:World):But g w w:=⟨rfl,rfl,rfl,Nat.le_refl _,fun _ _ _=>rfl⟩
theorem But.of_below {g:Nat} {w w':World} (b:Below w.heap.size w w'):But g w w':=⟨b.os,b.tape,b.output,b.size,fun k hk _=>b.block k hk⟩
theorem But.trans {g:Nat} {w w' w2:World} (h:But g w w') (b:But g w' w2):But g w w2:=⟨b.os.trans h.os,b.tape.trans h.tape,b.output.trans h.output,Nat.le_trans h.size b.size,fun k hk hne=>(b.block k (by have:=h.size;omega) hne).trans (h.block k hk hne)⟩
theorem But.below {g:Nat} {w w':World} {n:Nat} (h:But g w w') (hn:n ≤ g) (hs:n ≤ w.heap.size):Below n w w':=⟨h.os,h.tape,h.output,h.size,fun k hk=>h.block k (by omega) (by omega)⟩
def cutW (W:World) (g:Nat):World:={ W with heap:=W.heap.extract 0 g }
theorem cutW_size {W:World} {g:Nat} {o:Obj} (h:W.heap[g]?=some o):(cutW W g).heap.size ≤ g:=by
  show (W.heap.extract 0 g).size ≤ g
  simp only [Array.size_extract];omega
theorem cutW_below (W:World) (g:Nat):Below (cutW W g).heap.size (cutW W g) W:=by
  refine ⟨rfl,rfl,rfl,?_,fun k hk=>?_⟩
  · show (W.heap.extract 0 g).size ≤ _
    simp only [Array.size_extract];omega
  · have hk':k < (W.heap.extract 0 g).size:=hk
    show W.heap[k]?=(W.heap.extract 0 g)[k]?
    rw [Array.getElem?_extract]
    simp only [Array.size_extract] at hk'
    rw [if_pos (by omega),Nat.zero_add]
section
variable {P:Program} {ops:Array Oper} {Q:Exit → Act → World → Prop} {n:Nat} {a0:Act} {w0 W V:World} {B:List EB} {A:List EA} {l:List (Option Value)} {i:Nat} {o:Oper} {fl:Nat → Bool} {a:Act} {w w':World} {g:Nat}
theorem But.step (f:Beh ops n a0 w0 V B A l a w) (h:But g W w0) (hb:Below V.heap.size V w0) (hs:AllL (fun e=>e.k=none ∨ e.g=g) B):But g W w:=
  h.trans ⟨f.b.os.trans hb.os.symm,f.b.tape.trans hb.tape.symm,f.b.output.trans hb.output.symm,f.m,fun k hk hne=>f.un k hk (by
    rintro ⟨e,he,hk1,eg⟩
    rcases allL.1 hs e he with h1 | h1
    · rw [h1] at hk1;cases hk1
    · exact hne (eg.symm.trans h1))⟩
theorem SX.turnB {n0:Nat} {u u':Nat → Value} (h:SX V n0 B [] fl u w) (i j:Nat) {t:TypeId} {old new:Array Value} (hj:B[j]?=some ⟨g,t,old,some i,new⟩) (hV:V.heap.size ≤ g)
    (hc:(B.eraseIdx j).all (fun e=>kNot e.k i)=true) (hne:AllL (fun e=>e.g ≠ g) (B.eraseIdx j)) (b:But g w w') (row:w'.heap[g]?=some (.cells new t (0,0))):SX V n0 B [] (upd fl i) u' w':=by
  obtain ⟨h1,h2,h3,h4,h5⟩:=h
  rw [List.eraseIdx_eq_take_drop_succ] at hc hne
  have hB:=split_at hj
  rw [List.all_eq_true] at hc
  refine ⟨⟨b.os.trans h1.os,b.tape.trans h1.tape,b.output.trans h1.output,Nat.le_trans h1.size b.size,fun k hk=>(b.block k (by have:=h1.size;omega) (by omega)).trans (h1.block k hk)⟩,Nat.le_trans h2 b.size,allL.2 fun e he=>?_,trivial,List.Pairwise.nil⟩
  obtain ⟨p,q⟩:=allL.1 h3 e he
  have ot:e ∈ B.take j ++ B.drop (j + 1) → e.g < n0 ∧ w'.heap[e.g]?=some (.cells (curOf (upd fl i) e.k e.old e.new) e.t (0,0)):=fun hh=>⟨p,by
    rw [kNot_ne (hc e hh)]
    exact (b.block _ (Array.getElem?_eq_some_iff.1 q).1 (allL.1 hne e hh)).trans q⟩
  rw [hB] at he
  simp only [List.mem_append,List.mem_cons] at he
  rcases he with he | he | he
  · exact ot (List.mem_append.2 (.inl he))
  · subst he
    refine ⟨p,?_⟩
    rw [show curOf (upd fl i) (some i) old new=new from by unfold curOf upd;simp]
    exact row
  · exact ot (List.mem_append.2 (.inr he))
def reach (ops:Array Oper):Nat → Nat → Nat → Bool
  | 0,_,_=>false
  | n + 1,k,i=>match ops[k]? with
    | some ok=>ok.after.any (fun e=>Region.binds .any e && (Nat.beq e.on i || reach ops n e.on i))
    | none=>false
theorem not_yetT (clo:∀ (k:Nat) (ok:Oper),ops[k]?=some ok → fl k=true → ∀ e ∈ ok.after,Region.binds .any e=true → fl e.on=true) (hf:fl i=false):∀ (n k:Nat),reach ops n k i=true → fl k=false:=by
  intro n
  induction n with
  | zero=>intro k h;cases h
  | succ n ih=>
    intro k h
    cases e:fl k
    · rfl
    · unfold reach at h
      cases ho:ops[k]? with
      | none=>rw [ho] at h;cases h
      | some ok=>
        rw [ho] at h
        simp only at h
        obtain ⟨j,hj,hx⟩:=Array.any_eq_true.1 h
        rw [Bool.and_eq_true,Bool.or_eq_true] at hx
        have t:=clo k ok ho e _ (Array.getElem_mem hj) hx.1
        rcases hx.2 with h2 | h2
        · rw [Nat.eq_of_beq_eq_true h2,hf] at t;cases t
        · rw [ih _ h2] at t;cases t
theorem rft (c:Cx ops n a0 w0 V B A l i o fl a w) (j:Nat) {t:TypeId} {old new:Array Value} {k:Nat} (hj:B[j]?=some ⟨g,t,old,some k,new⟩) (h:reach ops 8 k i=true):w.heap[g]?=some (.cells old t (0,0)):=c.S.1.rowFi j hj (not_yetT c.clo c.fi 8 k h)
def RetT (v:Value) (c:Array Value) (t:TypeId) (g:Nat) (W:World):Ending → World → Prop:=fun e w'=>e=.returned v ∧ But g W w' ∧ w'.heap[g]?=some (.cells c t (0,0))
theorem callT (c:Cx ops n a0 w0 V B [] l i o fl a w) (hw:Region.wanted o (yielded ops a.tmps)=true) {f:FuncId} {xs:Array Operand} {ts:Array TypeId} {fn:Func} {args:Array Value} (ho:o.op=.call ⟨.value (.func f),xs,ts⟩) (ha:xs.map a.eval=args) (hf:P.funcs[f]?=some fn)
    (hn:okF fn=true) {v:Value} {t:TypeId} {new:Array Value} (K:Calls P f args w (RetT v new t g w)) {d:Nat} (hd:o.dst=some d) (hlt:Nat.blt d n=true) (j:Nat) {old:Array Value} (hj:B[j]?=some ⟨g,t,old,some i,new⟩) (hV:V.heap.size ≤ g)
    (hc:(B.eraseIdx j).all (fun e=>kNot e.k i)=true) (hne:AllL (fun e=>e.g ≠ g) (B.eraseIdx j)) (ht:TabO l i v):wpOp P ops Q i (Post w0 V B [] l i o fl a) a w:=by
  unfold okF at hn
  simp only [Bool.and_eq_true,Bool.not_eq_true'] at hn
  refine wpOp_callw c.ho hw (exec_call ho rfl rfl ha hf hn.1 hn.2) (K.mono ?_)
  rintro e w' ⟨rfl,b,row⟩
  refine ⟨_,rfl,_,rfl,by rw [own_some hd c.sz hlt];exact ht,SX.turnB c.S.1 i j hj hV hc hne b row,fun k hk1 hn2=>?_⟩
  refine (b.block k (by have:=c.S.1.2.1;omega) ?_).trans (c.S.2 k hk1 hn2)
  intro e
  exact hn2 ⟨_,List.mem_of_getElem? hj,rfl,e.symm⟩
theorem exec_callb {ρ:Operand → Value} {c:Call} {f:FuncId} {fn:Func} {bs args xs:Array Value} {x:Operand} (ho:o.op=.call c) (hc:c.callee=.value x) (hr:ρ x=.func (.func f) bs #[]) (ha:c.args.map ρ=args) (hx:bs ++ args=xs) (hf:P.funcs[f]?=some fn)
    (hn:(fn.name == "runtime.NumGoroutine")=false) (hb:fn.body.isNone=false):(execOp ρ o).run P w=.ok (.enter f xs) w:=by
  subst hx
  have hb':¬ fn.body=none:=by
    intro e;rw [e] at hb;cases hb
  have hn':¬ fn.name = "runtime.NumGoroutine" := by simpa using hn
  simp [execOp,ho,resolve,hc,hr,ha,Deferred.ofValue,invoke,callFunc,hf,hb',hn',go_sem]
theorem callTb (c:Cx ops n a0 w0 V B [] l i o fl a w) (hw:Region.wanted o (yielded ops a.tmps)=true) {f:FuncId} {x:Operand} {xs:Array Operand} {ts:Array TypeId} {fn:Func} {bs args all:Array Value} (ho:o.op=.call ⟨.value x,xs,ts⟩) (hr:a.eval x=.func (.func f) bs #[]) (ha:xs.map a.eval=args) (hx:bs ++ args=all) (hf:P.funcs[f]?=some fn)
    (hn:okF fn=true) {v:Value} {t:TypeId} {new:Array Value} (K:Calls P f all w (RetT v new t g w)) {d:Nat} (hd:o.dst=some d) (hlt:Nat.blt d n=true) (j:Nat) {old:Array Value} (hj:B[j]?=some ⟨g,t,old,some i,new⟩) (hV:V.heap.size ≤ g)
    (hc:(B.eraseIdx j).all (fun e=>kNot e.k i)=true) (hne:AllL (fun e=>e.g ≠ g) (B.eraseIdx j)) (ht:TabO l i v):wpOp P ops Q i (Post w0 V B [] l i o fl a) a w:=by
  unfold okF at hn
  simp only [Bool.and_eq_true,Bool.not_eq_true'] at hn
  refine wpOp_callw c.ho hw (exec_callb ho rfl hr ha hx hf hn.1 hn.2) (K.mono ?_)
  rintro e w' ⟨rfl,b,row⟩
  refine ⟨_,rfl,_,rfl,by rw [own_some hd c.sz hlt];exact ht,SX.turnB c.S.1 i j hj hV hc hne b row,fun k hk1 hn2=>?_⟩
  refine (b.block k (by have:=c.S.1.2.1;omega) ?_).trans (c.S.2 k hk1 hn2)
  intro e
  exact hn2 ⟨_,List.mem_of_getElem? hj,rfl,e.symm⟩
end
section
variable {ρ:Operand → Value} {o:Oper} {w:World} {x y:Operand} {g:Nat} {fr:Nat × Nat} {T t u:TypeId} {k:IntKind} {a b:Int}
theorem ex_box {v:Value} {c:Array Value} (ho:o.op=.box T x) (hx:ρ x=v) (hc:v.cells=c):(execOp ρ o).run Tryz.prog w=.ok (.value (.pointer (some ⟨w.heap.size,0,none⟩))) (w.alloc (.cells c T)):=by
  subst hc
  simp [execOp,ho,hx,go_sem]
theorem ex_an (ho:o.op=.binOp .andNot t x y u) (hx:ρ x=.int k a) (hy:ρ y=.int k b):(execOp ρ o).run Tryz.prog w=.ok (.value (.int k (bits .andNot k a b))) w:=by simp [execOp,ho,hx,hy,go_sem]
theorem ex_nn (ho:o.op=.unOp .not t x) {c:Bool} (hx:ρ x=.bool (!c)):(execOp ρ o).run Tryz.prog w=.ok (.value (.bool c)) w:=by simp [execOp,ho,hx,go_sem]
theorem ldExF {s:Ex} (ho:o.op=.load 28 x) (hx:ρ x=.pointer (some ⟨g,16,none⟩)) (hg:w.heap[g]?=some (.cells (exC s) T fr)):(execOp ρ o).run Tryz.prog w=.ok (.value (.agg (fC s.m.f))) w:=
  exec_loadR 28 x ho g 16 hx hg (fL s.m.f) rfl _ Tryz.underlying28 rfl (by kernel_rfl)
theorem ldExR {s:Ex} {i:Nat} (h:i < 16) (ho:o.op=.load 23 x) (hx:ρ x=.pointer (some ⟨g,i,none⟩)) (hg:w.heap[g]?=some (.cells (exC s) T fr)):(execOp ρ o).run Tryz.prog w=.ok (.value (.int .u64 (s.m.r i))) w:=
  ex_ld ho hx hg (exC_reg s h) Tryz.isAgg23
theorem ldMcF {s:Mc} (ho:o.op=.load 28 x) (hx:ρ x=.pointer (some ⟨g,16,none⟩)) (hg:w.heap[g]?=some (.cells (mcC s) T fr)):(execOp ρ o).run Tryz.prog w=.ok (.value (.agg (fC s.f))) w:=
  exec_loadR 28 x ho g 16 hx hg (fL s.f) rfl _ Tryz.underlying28 rfl (by kernel_rfl)
theorem ldMcR {s:Mc} {i:Nat} (h:i < 16) (ho:o.op=.load 23 x) (hx:ρ x=.pointer (some ⟨g,i,none⟩)) (hg:w.heap[g]?=some (.cells (mcC s) T fr)):(execOp ρ o).run Tryz.prog w=.ok (.value (.int .u64 (s.r i))) w:=
  ex_ld ho hx hg (mcC_reg s h) Tryz.isAgg23
end
end Go.Proofs.YtbpehbeakhocnaaGreatDoor.Exe
