import Derived.Test.YtigliofiojkhcaaGreatMRn21
import Derived.Test.YtigliofiojkhcaaGreatMRn04
set_option linter.unusedVariables false
set_option linter.unusedSimpArgs false
set_option linter.unnecessarySimpa false
namespace Go.Proofs.YtigliofiojkhcaaGreat.Trc
open Go.RowKit
set_option linter.unusedVariables false
def mayB (x:Ev):Bool:=decide (0 ≤ x.num) && decide (x.num < 16) && ((x.args.length:Int) == Ins.argsI x.num)
set_option maxHeartbeats 4000000 in
theorem r_same (x y:Out) (ca1 ta1 ca2 ta2:Option Addr) (cc1 tc1 cc2 tc2:Nat) (W:World) (h1:OutAt W x ca1 cc1 ta1 tc1) (h2:OutAt W y ca2 cc2 ta2 tc2):
    Calls Tryz.prog 11 #[outV x ca1 cc1 ta1 tc1,outV y ca2 cc2 ta2 tc2] W fun e w'=>e=.returned (.bool (sameB x y)) ∧ Below W.heap.size W w':=by
  have T:=Lib.hid (fun w b=>r_traces ta1 ta2 x.tr.length tc1 y.tr.length tc2 x.tr y.tr w ((h1.below (w:=w) b).tr) ((h2.below b).tr))
  have q1:=fun o1 o2=>conv_bytes (h1.below (bb2 W o1 o2)).ctx
  have q2:=fun o1 o2=>conv_bytes (h2.below (bb2 W o1 o2)).ctx
  have SI:=Lib.hid (str_inj h1.ctx.ok h2.ctx.ok)
  have X1:=Lib.hid (Box5.new W x ca1 ta1 cc1 tc1 33 W.heap.size rfl)
  have X2:=Lib.hid (fun o=>Box5.new (W.alloc o) y ca2 ta2 cc2 tc2 33 (W.heap.size + 1) (by simp))
  clear h1 h2
  generalize hs:sameB x y=s
  have HS:=Lib.hid hs;clear hs
  generalize ht:decide (x.tr=y.tr)=t at T
  have HD:s=(x.kind == y.kind && x.left == y.left && t && (x.r0 == y.r0 && decide (x.ctx=y.ctx))):=by rw [← HS.out,← ht];rfl
  clear HS ht
  have XA:=Lib.hid (fun w' b=>(X1.out.past (.cells #[.int .i8 y.kind,.int .u64 y.r0,.slice ca2 y.ctx.length cc2,.slice ta2 y.tr.length tc2,.int .i64 y.left] 33)).below (w':=w') b |>.all)
  have XB:=Lib.hid (fun w' b=>((X2.out (.cells #[.int .i8 x.kind,.int .u64 x.r0,.slice ca1 x.ctx.length cc1,.slice ta1 x.tr.length tc1,.int .i64 x.left] 33)).below (w':=w') b).all)
  clear X1 X2
  obtain ⟨xk,xr,xc,xt,xl⟩:=x
  obtain ⟨yk,yr,yc,yt,yl⟩:=y
  simp only [outV] at *
  generalize xt.length=tl1 at *
  generalize yt.length=tl2 at *
  generalize xc.length=cl1 at *
  generalize yc.length=cl2 at *
  by_cases ek:xk=yk
  case neg=>
    have e0:(xk == yk)=false:=by simpa using ek
    have HD2:=Lib.hid (show s=false by rw [HD,e0];rfl)
    clear ek HD q1 q2
    go_enter Tryz.func11,Tryz.ntmps11
    go_wp2_with fail
    go_ret
    exact ⟨retB HD2.out.symm,bb2 W _ _⟩
  subst ek
  by_cases er:xr=yr
  case neg=>
    have e0:(xr == yr)=false:=by simpa using er
    have HD2:=Lib.hid (show s=false by rw [HD,e0];simp)
    clear er HD q1 q2
    go_enter Tryz.func11,Tryz.ntmps11
    go_wp2_with fail
    go_ret
    exact ⟨retB HD2.out.symm,bb2 W _ _⟩
  subst er
  by_cases ec:xc=yc
  case neg=>
    have e0:((strOfNums xc).toList == (strOfNums yc).toList)=false:=by
      rw [beq_eq_false_iff_ne]
      exact fun h=>ec (SI.out (by
        rw [ByteArray.toList_eq,ByteArray.toList_eq] at h
        exact ByteArray.ext (Array.toList_inj.1 h)))
    have HD2:=Lib.hid (show s=false by rw [HD,decide_eq_false ec];simp)
    clear ec HD SI
    generalize strOfNums xc=s1 at *
    generalize strOfNums yc=s2 at *
    go_enter Tryz.func11,Tryz.ntmps11
    go_wp2_with fail
    go_ret
    exact ⟨retB HD2.out.symm,bb2 W _ _⟩
  subst ec
  have HD2:=Lib.hid (show s=(xl == yl && t) by rw [HD];simp)
  clear HD SI
  generalize strOfNums xc=s1 at *
  go_enter Tryz.func11,Tryz.ntmps11
  go_wp2_with fail
  refine (T.out _ (bb2 W _ _)).mono ?_
  rintro e w1 ⟨rfl,b1⟩
  obtain ⟨c10,c11,c12,c13,c14⟩:=XA.out w1 b1
  obtain ⟨c20,c21,c22,c23,c24⟩:=XB.out w1 b1
  have B1:=Lib.hid (below_call (bb2 W _ _) b1)
  clear b1 XA XB q1 q2
  cases t
  · have HD3:=Lib.hid (show s=false by rw [HD2.out];simp)
    go_wp2_with fail
    go_ret
    exact ⟨retB HD3.out.symm,B1.out⟩
  have HD3:=Lib.hid (show s=(xl == yl) by rw [HD2.out];simp)
  go_wp2_with fail
  go_ret
  exact ⟨retB HD3.out.symm,B1.out⟩
end Go.Proofs.YtigliofiojkhcaaGreat.Trc
