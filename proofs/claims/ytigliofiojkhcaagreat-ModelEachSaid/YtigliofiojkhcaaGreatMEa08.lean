import Derived.Test.YtigliofiojkhcaaGreatMEx
import Derived.Test.YtigliofiojkhcaaGreatMRn21
import Derived.Test.YtigliofiojkhcaaGreatMRn04
import Derived.Test.YtigliofiojkhcaaGreatMRn23
import Derived.Test.YtigliofiojkhcaaGreatMEa03
import Derived.Test.YtigliofiojkhcaaGreatMEa04
import Derived.Test.YtigliofiojkhcaaGreatMEa05
import Derived.Test.YtigliofiojkhcaaGreatMEa06
import Derived.Test.YtigliofiojkhcaaGreatMEa07
set_option linter.unusedVariables false
set_option linter.unusedSimpArgs false
set_option linter.unnecessarySimpa false
namespace Go.Proofs.YtigliofiojkhcaaGreat.Trc
open Go.RowKit
def mayB (x:Ev):Bool:=decide (0≤x.num) && decide (x.num<16) && ((x.args.length:Int) == Ins.argsI x.num)
set_option maxHeartbeats 4000000 in
theorem r_same (x y:Out)(ca1 ta1 ca2 ta2:Option Addr)(cc1 tc1 cc2 tc2:Nat)(W:World)(h1:OutAt W x ca1 cc1 ta1 tc1)(h2:OutAt W y ca2 cc2 ta2 tc2):
  Calls Tryz.prog 11 #[outV x ca1 cc1 ta1 tc1,outV y ca2 cc2 ta2 tc2] W fun e w'=>e=.returned (.bool (sameB x y))∧Below W.heap.size W w':=by
 have T:=Lib.hid (fun w b=>r_traces ta1 ta2 x.tr.length tc1 y.tr.length tc2 x.tr y.tr w ((h1.below (w:=w) b).tr) ((h2.below b).tr))
 have q1:=fun o1 o2=>conv_bytes (h1.below (bb2 W o1 o2)).ctx
 have q2:=fun o1 o2=>conv_bytes (h2.below (bb2 W o1 o2)).ctx
 have SI:=Lib.hid (str_inj h1.ctx.ok h2.ctx.ok)
 have X1:=Lib.hid (Box5.new W x ca1 ta1 cc1 tc1 33 W.heap.size rfl)
 have X2:=Lib.hid (fun o=>Box5.new (W.alloc o) y ca2 ta2 cc2 tc2 33 (W.heap.size+1) (by simp))
 clear h1 h2
 generalize hs:sameB x y=s
 have HS:=Lib.hid hs;clear hs
 generalize ht:decide (x.tr=y.tr)=t at T
 have HD:s=(x.kind == y.kind && x.left == y.left && t && (x.r0 == y.r0 && decide (x.ctx=y.ctx))):=by rw [← HS.out,← ht];rfl
 clear HS ht
 have XA:=Lib.hid (fun w' b=>(X1.out.past (.cells #[.int .i8 y.kind,.int .u64 y.r0,.slice ca2 y.ctx.length cc2,.slice ta2 y.tr.length tc2,.int .i64 y.left] 33)).below (w':=w') b |>.all)
 have XB:=Lib.hid (fun w' b=>((X2.out (.cells #[.int .i8 x.kind,.int .u64 x.r0,.slice ca1 x.ctx.length cc1,.slice ta1 x.tr.length tc1,.int .i64 x.left] 33)).below (w':=w') b).all)
 clear X1 X2
 obtain ⟨xk,xr,xc,xt,xl⟩:=x
 obtain ⟨yk,yr,yc,yt,yl⟩:=y
 simp only [outV] at *
 generalize xt.length=tl1 at *
 generalize yt.length=tl2 at *
 generalize xc.length=cl1 at *
 generalize yc.length=cl2 at *
 by_cases ek:xk=yk
 case neg=>
  have e0:(xk == yk)=false:=by simpa using ek
  have HD2:=Lib.hid (show s=false by rw [HD,e0];rfl)
  clear ek HD q1 q2
  go_enter Tryz.func11,Tryz.ntmps11
  go_wp2_with fail
  go_ret
  exact ⟨retB HD2.out.symm,bb2 W _ _⟩
 subst ek
 by_cases er:xr=yr
 case neg=>
  have e0:(xr == yr)=false:=by simpa using er
  have HD2:=Lib.hid (show s=false by rw [HD,e0];simp)
  clear er HD q1 q2
  go_enter Tryz.func11,Tryz.ntmps11
  go_wp2_with fail
  go_ret
  exact ⟨retB HD2.out.symm,bb2 W _ _⟩
 subst er
 by_cases ec:xc=yc
 case neg=>
  have e0:((strOfNums xc).toList == (strOfNums yc).toList)=false:=by
   rw [beq_eq_false_iff_ne]
   exact fun h=>ec (SI.out (by
    rw [ByteArray.toList_eq,ByteArray.toList_eq] at h
    exact ByteArray.ext (Array.toList_inj.1 h)))
  have HD2:=Lib.hid (show s=false by rw [HD,decide_eq_false ec];simp)
  clear ec HD SI
  generalize strOfNums xc=s1 at *
  generalize strOfNums yc=s2 at *
  go_enter Tryz.func11,Tryz.ntmps11
  go_wp2_with fail
  go_ret
  exact ⟨retB HD2.out.symm,bb2 W _ _⟩
 subst ec
 have HD2:=Lib.hid (show s=(xl == yl && t) by rw [HD];simp)
 clear HD SI
 generalize strOfNums xc=s1 at *
 go_enter Tryz.func11,Tryz.ntmps11
 go_wp2_with fail
 refine (T.out _ (bb2 W _ _)).mono ?_
 rintro e w1 ⟨rfl,b1⟩
 obtain ⟨c10,c11,c12,c13,c14⟩:=XA.out w1 b1
 obtain ⟨c20,c21,c22,c23,c24⟩:=XB.out w1 b1
 have B1:=Lib.hid (below_call (bb2 W _ _) b1)
 clear b1 XA XB q1 q2
 cases t
 ·have HD3:=Lib.hid (show s=false by rw [HD2.out];simp)
  go_wp2_with fail
  go_ret
  exact ⟨retB HD3.out.symm,B1.out⟩
 have HD3:=Lib.hid (show s=(xl == yl) by rw [HD2.out];simp)
 go_wp2_with fail
 go_ret
 exact ⟨retB HD3.out.symm,B1.out⟩
end Go.Proofs.YtigliofiojkhcaaGreat.Trc
namespace Go.Proofs.YtigliofiojkhcaaGreat.Mdl
open Go.RowKit Go.Maps Ins Trc
set_option maxRecDepth 100000
def Pl.sw (D:Pl)(k:Int)(l:List Int):Pl:={ D with fuel:=D.fuel+k,ans:=l }
theorem adv_sw (D:Pl)(k:Int)(l:List Int):(D.sw k l).adv=D.adv.sw k l:=by
 unfold Pl.sw Pl.adv
 simp only
 rw [show D.fuel+k - 1=D.fuel - 1+k by omega]
theorem exe_call (D:Pl)(kf:Nat→Int)(x:In)(h:x.kind=5):D.exe kf x=(match D.ans with | []=>(D,2) | a :: l=>(D.called x.imm a l,0)):=by
 unfold Pl.exe
 rw [if_neg (by omega),if_neg (by omega),if_neg (by omega),if_neg (by omega),if_neg (by omega),if_pos h]
 cases D.ans <;> rfl
theorem exe_no5 (D:Pl)(kf:Nat→Int)(x:In)(h:¬ x.kind=5):(D.exe kf x).1.ans=D.ans∧(D.exe kf x).1.evs=D.evs∧(D.exe kf x).2≠2:=by
 unfold Pl.exe
 by_cases k0:x.kind=0
 ·rw [if_pos k0];exact ⟨rfl,rfl,by simp⟩
 rw [if_neg k0]
 by_cases k1:x.kind=1
 ·rw [if_pos k1]
  split <;> exact ⟨rfl,rfl,by simp⟩
 rw [if_neg k1]
 by_cases k2:x.kind=2
 ·rw [if_pos k2]
  split <;> exact ⟨rfl,rfl,by simp⟩
 rw [if_neg k2]
 by_cases k3:x.kind=3
 ·rw [if_pos k3]
  show (if _ then _ else _:Pl).ans=_∧(if _ then _ else _:Pl).evs=_∧_
  split <;> exact ⟨rfl,rfl,by simp⟩
 rw [if_neg k3]
 by_cases k4:x.kind=4
 ·rw [if_pos k4];exact ⟨rfl,rfl,by simp⟩
 rw [if_neg k4,if_neg h]
 exact ⟨rfl,rfl,by simp⟩
theorem exe_sw (D:Pl)(k:Int)(l:List Int)(kf:Nat→Int)(x:In)(h:¬ x.kind=5):(D.sw k l).exe kf x=((D.exe kf x).1.sw k l,(D.exe kf x).2):=by
 unfold Pl.exe
 by_cases k0:x.kind=0
 ·rw [if_pos k0,if_pos k0];rfl
 rw [if_neg k0,if_neg k0]
 by_cases k1:x.kind=1
 ·rw [if_pos k1,if_pos k1]
  show (if readE D.mem (adI (D.r x.src.toNat) x.off) x.size.toNat=0 then _ else _)=_
  by_cases h:readE D.mem (adI (D.r x.src.toNat) x.off) x.size.toNat=0
  ·rw [if_pos h,if_pos h];rfl
  ·rw [if_neg h,if_neg h]
 rw [if_neg k1,if_neg k1]
 by_cases k2:x.kind=2
 ·rw [if_pos k2,if_pos k2]
  show (if locI D.mem.cn D.mem.n D.mem.hs (adI (D.r x.dst.toNat) x.off) x.size.toNat≤1 then _ else _)=_
  by_cases h:locI D.mem.cn D.mem.n D.mem.hs (adI (D.r x.dst.toNat) x.off) x.size.toNat≤1
  ·rw [if_pos h,if_pos h]
  ·rw [if_neg h,if_neg h];rfl
 rw [if_neg k2,if_neg k2]
 by_cases k3:x.kind=3
 ·rw [if_pos k3,if_pos k3]
  show ((if holdsB x.op 64 (D.r x.dst.toNat) (D.opd x)=true then _ else _:Pl),(0:Int))=_
  by_cases h:holdsB x.op 64 (D.r x.dst.toNat) (D.opd x)=true
  ·rw [if_pos h,if_pos h];rfl
  ·rw [if_neg h,if_neg h]
 rw [if_neg k3,if_neg k3]
 by_cases k4:x.kind=4
 ·rw [if_pos k4,if_pos k4];rfl
 rw [if_neg k4,if_neg k4,if_neg h,if_neg h]
def Pl.can (D:Pl)(x:In):Bool:=andM D.set (readsM x) == readsM x
theorem step_can {D:Pl}{kf:Nat→Int}{x:In}(h:D.can x=true):D.step kf x={ (D.adv.exe kf x).1 with fin:=(D.adv.exe kf x).2 }:=if_pos h
theorem step_not {D:Pl}{kf:Nat→Int}{x:In}(h:D.can x=false):D.step kf x=D.adv:=if_neg (by rw [show (andM D.set (readsM x) == readsM x)=false from h];decide)
theorem step_sw {D:Pl}{k:Int}{l l':List Int}{kf:Nat→Int}{x:In}(h:D.can x=true)(e:(D.adv.sw k l).exe kf x=((D.adv.exe kf x).1.sw k l',(D.adv.exe kf x).2)):(D.sw k l).step kf x=(D.step kf x).sw k l':=by
 rw [step_can h,step_can (D:=D.sw k l) h,adv_sw,e]
 rfl
theorem step_sw_not {D:Pl}{k:Int}{l:List Int}{kf:Nat→Int}{x:In}(h:D.can x=false):(D.sw k l).step kf x=(D.step kf x).sw k l:=by
 rw [step_not h,step_not (D:=D.sw k l) h,adv_sw]
theorem step_cases (D:Pl)(kf:Nat→Int)(x:In):
  (D.can x=false∧D.step kf x=D.adv) ∨
  (D.can x=true∧x.kind=5∧D.ans=[]∧D.step kf x={ D.adv with fin:=2 }) ∨
  (D.can x=true∧x.kind=5∧∃ a r,D.ans=a :: r∧D.step kf x={ D.adv.called x.imm a r with fin:=0 }) ∨
  (D.can x=true∧¬ x.kind=5∧(D.step kf x).ans=D.ans∧(D.step kf x).evs=D.evs∧(D.step kf x).fin≠2):=by
 cases hr:D.can x with
 | false=>exact .inl ⟨rfl,step_not hr⟩
 | true=>
  refine .inr ?_
  by_cases k5:x.kind=5
  ·have e:=step_can (kf:=kf) hr
   rw [exe_call D.adv kf x k5] at e
   change D.step kf x={ (match D.ans with | []=>((D.adv,2):Pl × Int) | a :: l=>(D.adv.called x.imm a l,0)).1 with fin:=(match D.ans with | []=>((D.adv,2):Pl × Int) | a :: l=>(D.adv.called x.imm a l,0)).2 } at e
   cases ha:D.ans with
   | nil=>
    rw [ha] at e
    exact .inl ⟨rfl,k5,rfl,e⟩
   | cons a r=>
    rw [ha] at e
    exact .inr (.inl ⟨rfl,k5,a,r,rfl,e⟩)
  ·obtain ⟨h1,h2,h3⟩:=exe_no5 D.adv kf x k5
   rw [step_can hr]
   exact .inr (.inr ⟨rfl,k5,h1,h2,h3⟩)
structure AnsOk (zs:List Int)(D:Pl):Prop where
 all:D.evs.map (·.ans) ++ D.ans=zs
 may:∀ e∈D.evs,mayB e=true
theorem argsI_nat {n:Int}:0≤argsI n:=by
 unfold argsI
 split <;> omega
theorem AnsOk.step {zs:List Int}{D:Pl}(h:AnsOk zs D)(kf:Nat→Int){x:In}(m:mayI x=true):AnsOk zs (D.step kf x):=by
 rcases step_cases D kf x with ⟨_,e⟩ | ⟨_,_,_,e⟩ | ⟨_,k5,a,r,ha,e⟩ | ⟨_,_,e1,e2,_⟩
 ·rw [e];exact ⟨h.all,h.may⟩
 ·rw [e];exact ⟨h.all,h.may⟩
 ·rw [e]
  refine ⟨?_,fun v hv=>?_⟩
  ·have:=h.all
   rw [ha] at this
   show ((D.evs ++ [_]).map Ev.ans) ++ r=zs
   rw [List.map_append,List.append_assoc]
   exact this
  ·rcases List.mem_append.1 (show v∈D.evs ++ [_] from hv) with hv | hv
   ·exact h.may v hv
   ·rw [List.mem_singleton] at hv
    subst hv
    have hi:0≤x.imm∧x.imm<16:=by
     obtain ⟨_,_,_,_,hc⟩:=mayI_cases m
     omega
    have hn:=argsI_nat (n:=x.imm)
    unfold mayB Pl.args
    simp only [List.length_map,List.length_range]
    rw [decide_eq_true hi.1,decide_eq_true hi.2,Int.toNat_of_nonneg hn]
    simp
 ·exact ⟨by rw [e1,e2];exact h.all,fun v hv=>h.may v (by rw [e2] at hv;exact hv)⟩
theorem AnsOk.its {zs:List Int}{E:Env}(F:Fine E){D:Pl}(R:Runs E D)(h:AnsOk zs D):∀ k,Goes E D k→AnsOk zs (its E D k)∧AnsOk zs (its E D (k+1))
 | 0,_=>⟨h,h.step E.kf (F.may _ R.ix.1)⟩
 | k+1,g=>by
  have h1:=(AnsOk.its F R h k (fun j hj=>g j (by omega))).2
  exact ⟨h1,h1.step E.kf (F.may _ (R.its F (k+1) g).ix.1)⟩
theorem its_fuel (E:Env)(D:Pl):∀ k:Nat,(its E D k).fuel=D.fuel - k
 | 0=>by show D.fuel=D.fuel - (0:Nat);omega
 | k+1=>by
  show ((its E D k).step E.kf (E.x (its E D k).ix)).fuel=_
  rw [step_fuel,its_fuel E D k];omega
theorem its_few (E:Env)(D:Pl):∀ k:Nat,(its E D k).evs.length≤D.evs.length+k
 | 0=>Nat.le_refl _
 | k+1=>by
  have:=its_few E D k
  have:=step_evs (its E D k) E.kf (E.x (its E D k).ix)
  show ((its E D k).step E.kf (E.x (its E D k).ix)).evs.length≤_
  omega
theorem its_sw {E:Env}{D:Pl}{k:Int}{l:List Int}(Q:Pl→List Int→Prop)(m:Nat)(h0:Q D l)
  (hs:∀ j,j<m→∀ l,Q (its E D j) l→∃ l',((its E D j).sw k l).step E.kf (E.x (its E D j).ix)=(its E D (j+1)).sw k l'∧Q (its E D (j+1)) l'):∀ j,j≤m→∃ l',its E (D.sw k l) j=(its E D j).sw k l'∧Q (its E D j) l'
 | 0,_=>⟨l,rfl,h0⟩
 | j+1,hj=>by
  obtain ⟨l1,e1,q1⟩:=its_sw Q m h0 hs j (by omega)
  obtain ⟨l2,e2,q2⟩:=hs j (by omega) l1 q1
  refine ⟨l2,?_,q2⟩
  rw [← e2]
  show (its E (D.sw k l) j).step E.kf (E.x (its E (D.sw k l) j).ix)=_
  rw [e1];rfl
def MoreQ (D:Pl)(l:List Int):Prop:=∃ ext,l=D.ans ++ ext∧(ext=[]∨D.fuel≤D.ans.length)
theorem more_step {D:Pl}(k:Int)(kf:Nat→Int)(x:In)(hf:0<D.fuel){l:List Int}(h:MoreQ D l):∃ l',(D.sw k l).step kf x=(D.step kf x).sw k l'∧MoreQ (D.step kf x) l':=by
 obtain ⟨ext,rfl,hx⟩:=h
 have sf:=step_fuel D kf x
 rcases step_cases D kf x with ⟨c,e⟩ | ⟨c,k5,ha,e⟩ | ⟨c,k5,a,r,ha,e⟩ | ⟨c,k5,e,_,_⟩
 ·exact ⟨_,step_sw_not c,ext,by rw [e];rfl,hx.imp id (fun h=>by rw [sf,e];show D.fuel - 1≤D.ans.length;omega)⟩
 ·have hx0:ext=[]:=by
   rcases hx with h | h
   ·exact h
   ·rw [ha] at h;simp at h;omega
  subst hx0
  refine ⟨[],?_,[],?_,.inl rfl⟩
  ·rw [ha]
   refine step_sw c ?_
   rw [exe_call _ _ _ k5,exe_call _ _ _ k5]
   show (_,_)=_
   rw [show D.adv.ans=[] from ha]
   rfl
  ·rw [e]
   show []=D.ans ++ []
   rw [ha];rfl
 ·refine ⟨r ++ ext,?_,ext,?_,hx.imp id (fun h=>by rw [sf,e];rw [ha] at h;show D.fuel - 1≤r.length;simp at h;omega)⟩
  ·rw [ha]
   refine step_sw c ?_
   rw [exe_call _ _ _ k5,exe_call _ _ _ k5]
   show (_,_)=_
   rw [show D.adv.ans=a :: r from ha]
   rfl
  ·rw [e];rfl
 ·exact ⟨_,step_sw c (exe_sw _ _ _ _ _ k5),ext,by rw [e],hx.imp id (fun h=>by rw [sf,e];omega)⟩
section
variable {x:Nat→In} {n cl:Nat} {cf:Nat→Int} {fuel:Int} {zs:List Int} {al tk:Nat}
theorem fin_its {E:Env}{D:Pl}(h0:D.fin=0):∀ {k},Goes E D k→(its E D k).fin=0
 | 0,_=>h0
 | k+1,g=>(g k (by omega)).2
theorem step_fin4 (D:Pl)(kf:Nat→Int)(x:In):(D.step kf x).fin=0∨(D.step kf x).fin=1∨(D.step kf x).fin=2∨(D.step kf x).fin=3:=by
 cases h:D.can x with
 | false=>rw [step_not h];exact .inr (.inr (.inr rfl))
 | true=>rw [step_can h];exact exe_fin D.adv kf x
theorem Goes.of_fuel {E:Env}{D:Pl}{m:Nat}(g:Goes E D m):∀ j,j<m→0<(its E D j).fuel:=fun j hj=>(g j hj).1
end
end Go.Proofs.YtigliofiojkhcaaGreat.Mdl
namespace Go.Proofs.YtigliofiojkhcaaGreat.Mdl
open Go.RowKit Go.Maps Ins Trc
set_option maxRecDepth 100000
def Pl.step6 (D:Pl)(kf:Nat→Int)(x:Ins.In):Pl:={ D.step kf x with at_:=if (D.step kf x).fin=0 then (D.step kf x).at_ else D.at_ }
theorem step6_of {E:Env}{D D':Pl}{g r β:Nat}{W:World}{f:Int}{b:Bool}{x:Ins.In}
  (h:Calls Tryz.prog 20 #[.pointer (some ⟨g,0,none⟩)] W fun e w'=>e=.returned (.tuple #[.int .i8 f,.bool b])∧R6 E g r β D' w'∧TurnT τ6 β W w')
  (hf:(D.step E.kf x).fin=f) (hb:b=decide (f=0)) (hd:(D.step6 E.kf x).r=D'.r∧(D.step6 E.kf x).set=D'.set∧(D.step6 E.kf x).at_=D'.at_∧(D.step6 E.kf x).ans=D'.ans∧(D.step6 E.kf x).evs=D'.evs∧(D.step6 E.kf x).mem=D'.mem):
  Calls Tryz.prog 20 #[.pointer (some ⟨g,0,none⟩)] W fun e w'=>e=.returned (.tuple #[.int .i8 (D.step E.kf x).fin,.bool (decide ((D.step E.kf x).fin=0))])∧R6 E g r β (D.step6 E.kf x) w'∧TurnT τ6 β W w':=by
 refine h.mono ?_
 rintro e w' ⟨rfl,R,t⟩
 rw [hf,← hb]
 exact ⟨rfl,R.like hd.1 hd.2.1 hd.2.2.1 hd.2.2.2.1 hd.2.2.2.2.1 hd.2.2.2.2.2,t⟩
theorem step_go {D:Pl}{kf:Nat→Int}{x:Ins.In}{D1:Pl}{f:Int}(h:(andM D.set (readsM x) == readsM x)=true)(e:D.adv.exe kf x=(D1,f)):D.step kf x={ D1 with fin:=f }:=by rw [step_yes h,e]
theorem size_nat {z:Int}(h:z=1∨z=2∨z=4∨z=8):∃ m:Nat,z=m∧szB m=true:=⟨z.toNat,by omega,by rcases h with h | h | h | h <;> (rw [h];rfl)⟩
theorem r6_step (E:Env)(F:Fine E)(D:Pl)(H:Runs E D)(g r β:Nat)(W:World)(R:R6 E g r β D W)(hfew:D.evs.length≤10000):
  Calls Tryz.prog 20 #[.pointer (some ⟨g,0,none⟩)] W fun e w'=>e=.returned (.tuple #[.int .i8 (D.step E.kf (E.x D.ix)).fin,.bool (decide ((D.step E.kf (E.x D.ix)).fin=0))])∧R6 E g r β (D.step6 E.kf (E.x D.ix)) w'∧TurnT τ6 β W w':=by
 obtain ⟨i1,i2⟩:=H.ix
 obtain ⟨⟨d0,d1⟩,⟨s0,s1⟩,-,-,hc⟩:=mayI_cases (F.may D.ix i1)
 obtain ⟨x,hx⟩:∃ x,x=E.x D.ix:=⟨_,rfl⟩
 rw [← hx] at d0 d1 s0 s1 hc ⊢
 have hk:0≤x.kind∧x.kind≤6:=by omega
 cases ht:(andM D.set (readsM x) == readsM x)
 ·obtain ⟨kind,op,width,size,byReg,dst,src,off,imm⟩:=x
  have e:=step_no (kf:=E.kf) ht
  refine step6_of (r6_step_no E F D H g r β W R kind op width hk.1 hk.2 size byReg off imm dst src d0 d1 s0 s1 hx.symm (by rw [← hx];exact ht)) (by rw [e];rfl) (by decide) ?_
  unfold Pl.step6
  rw [e]
  exact ⟨rfl,rfl,rfl,rfl,rfl,rfl⟩
 obtain ⟨kind,op,width,size,byReg,dst,src,off,imm⟩:=x
 simp only at hc d0 d1 s0 s1
 obtain ⟨d,rfl,hd⟩:=nat_of d0 d1
 obtain ⟨n,rfl,hn⟩:=nat_of s0 s1
 have ht':(andM D.set (readsM (E.x D.ix)) == readsM (E.x D.ix))=true:=by rw [← hx];exact ht
 have a1:D.adv.at_ - 1=D.at_:=by show D.at_+1 - 1=D.at_;omega
 rcases hc with ⟨rfl,_⟩ | ⟨rfl,_,_,hs,_⟩ | ⟨rfl,_,_,hs,_⟩ | ⟨rfl,_⟩ | ⟨rfl,_⟩ | ⟨rfl,_⟩ | ⟨rfl,_⟩
 ·have e:=step_go (kf:=E.kf) ht (D1:=D.adv.put d (doI op width (D.r d) (D.opd ⟨0,op,width,size,byReg,d,n,off,imm⟩))) (f:=0) rfl
  refine step6_of (r6_step_0 E F D H g r β W R op width size byReg off imm d n hd hn hx.symm ht') (by rw [e]) rfl ?_
  unfold Pl.step6
  rw [e]
  exact ⟨rfl,rfl,rfl,rfl,rfl,rfl⟩
 ·obtain ⟨m,rfl,hm⟩:=size_nat hs
  by_cases hr:readE D.mem (adI (D.r n) off) m=0
  ·have e:=step_go (kf:=E.kf) ht (D1:=D.adv.put d (readV D.mem E.kf (adI (D.r n) off) m)) (f:=0) (by show (if readE D.mem (adI (D.r n) off) m=0 then _ else _)=_;rw [if_pos hr];rfl)
   refine step6_of (r6_step_1y E F D H g r β W R op width m byReg off imm d n hd hn hx.symm ht' hm hr) (by rw [e]) rfl ?_
   unfold Pl.step6
   rw [e]
   exact ⟨rfl,rfl,rfl,rfl,rfl,rfl⟩
  ·have e:=step_go (kf:=E.kf) ht (D1:=D.adv) (f:=3) (by show (if readE D.mem (adI (D.r n) off) m=0 then _ else _)=_;rw [if_neg hr])
   refine step6_of (r6_step_1n E F D H g r β W R op width m byReg off imm d n hd hn hx.symm ht' hm hr) (by rw [e]) (by decide) ?_
   unfold Pl.step6
   rw [e]
   exact ⟨rfl,rfl,rfl,rfl,rfl,rfl⟩
 ·obtain ⟨m,rfl,hm⟩:=size_nat hs
  by_cases hl:locI D.mem.cn D.mem.n D.mem.hs (adI (D.r d) off) m≤1
  ·have e:=step_go (kf:=E.kf) ht (D1:=D.adv) (f:=3) (by show (if locI D.mem.cn D.mem.n D.mem.hs (adI (D.r d) off) m≤1 then _ else _)=_;rw [if_pos hl])
   refine step6_of (r6_step_2n E F D H g r β W R op width m byReg off imm d n hd hn hx.symm ht' hm hl) (by rw [e]) (by decide) ?_
   unfold Pl.step6
   rw [e]
   exact ⟨rfl,rfl,rfl,rfl,rfl,rfl⟩
  ·have e:=step_go (kf:=E.kf) ht (D1:={ D.adv with mem:=D.mem.putAt (adI (D.r d) off) m (D.r n) }) (f:=0) (by show (if locI D.mem.cn D.mem.n D.mem.hs (adI (D.r d) off) m≤1 then _ else _)=_;rw [if_neg hl];rfl)
   refine step6_of (r6_step_2y E F D H g r β W R op width m byReg off imm d n hd hn hx.symm ht' hm hl) (by rw [e]) rfl ?_
   unfold Pl.step6
   rw [e]
   exact ⟨rfl,rfl,rfl,rfl,rfl,rfl⟩
 ·cases hb:holdsB op 64 (D.r d) (D.opd ⟨3,op,width,size,byReg,d,n,off,imm⟩)
  ·have e:=step_go (kf:=E.kf) ht (D1:=D.adv) (f:=0) (by show ((if holdsB op 64 (D.r d) (D.opd ⟨3,op,width,size,byReg,d,n,off,imm⟩)=true then _ else _),(0:Int))=_;rw [if_neg (by rw [hb];decide)])
   refine step6_of (r6_step_3f E F D H g r β W R op width size byReg off imm d n hd hn hx.symm ht' hb) (by rw [e]) rfl ?_
   unfold Pl.step6
   rw [e]
   exact ⟨rfl,rfl,rfl,rfl,rfl,rfl⟩
  ·have e:=step_go (kf:=E.kf) ht (D1:={ D.adv with at_:=targetI D.at_ ⟨3,op,width,size,byReg,d,n,off,imm⟩ }) (f:=0) (by show ((if holdsB op 64 (D.r d) (D.opd ⟨3,op,width,size,byReg,d,n,off,imm⟩)=true then ({ D.adv with at_:=targetI (D.adv.at_ - 1) ⟨3,op,width,size,byReg,d,n,off,imm⟩ }:Pl) else _),(0:Int))=_;rw [if_pos hb,a1])
   refine step6_of (r6_step_3t E F D H g r β W R op width size byReg off imm d n hd hn hx.symm ht' hb) (by rw [e]) rfl ?_
   unfold Pl.step6
   rw [e]
   exact ⟨rfl,rfl,rfl,rfl,rfl,rfl⟩
 ·have e:=step_go (kf:=E.kf) ht (D1:={ D.adv with at_:=targetI D.at_ ⟨4,op,width,size,byReg,d,n,off,imm⟩ }) (f:=0) (by show (({ D.adv with at_:=targetI (D.adv.at_ - 1) ⟨4,op,width,size,byReg,d,n,off,imm⟩ }:Pl),(0:Int))=_;rw [a1])
  refine step6_of (r6_step_4 E F D H g r β W R op width size byReg off imm d n d0 d1 s0 s1 hx.symm ht') (by rw [e]) rfl ?_
  unfold Pl.step6
  rw [e]
  exact ⟨rfl,rfl,rfl,rfl,rfl,rfl⟩
 ·cases ha:D.ans with
  | nil=>
   have e:=step_go (kf:=E.kf) ht (D1:=D.adv) (f:=2) (by rw [exe_call D.adv E.kf _ rfl,show D.adv.ans=[] from ha])
   refine step6_of (r6_step_5n E F D H g r β W R op width size byReg off imm d n d0 d1 s0 s1 hx.symm ht' ha) (by rw [e]) (by decide) ?_
   unfold Pl.step6
   rw [e]
   exact ⟨rfl,rfl,rfl,rfl,rfl,rfl⟩
  | cons a l=>
   have e:=step_go (kf:=E.kf) ht (D1:=D.adv.called imm a l) (f:=0) (by rw [exe_call D.adv E.kf _ rfl,show D.adv.ans=a :: l from ha])
   refine step6_of (r6_step_5y E F D H g r β W R op width size byReg off imm d n d0 d1 s0 s1 hx.symm ht' a l ha hfew) (by rw [e]) rfl ?_
   unfold Pl.step6
   rw [e]
   exact ⟨rfl,rfl,rfl,rfl,rfl,rfl⟩
 ·have e:=step_go (kf:=E.kf) ht (D1:=D.adv) (f:=1) rfl
  refine step6_of (r6_step_6 E F D H g r β W R op width size byReg off imm d n d0 d1 s0 s1 hx.symm ht') (by rw [e]) (by decide) ?_
  unfold Pl.step6
  rw [e]
  exact ⟨rfl,rfl,rfl,rfl,rfl,rfl⟩
end Go.Proofs.YtigliofiojkhcaaGreat.Mdl
