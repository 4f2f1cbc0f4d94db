import Derived.Test.YtjhedldplmhmjaaDoorERd43
import Derived.Test.YtjhedldplmhmjaaDoorERd35
import Derived.Test.YtjhedldplmhmjaaDoorERd22
import Derived.Test.YtjhedldplmhmjaaDoorRows
import Derived.ProofKit
import Derived.LaidMore
import Derived.MakeChecks
import Derived.Lib.LaidTab
import Derived.Stop.LaidErr
import Derived.Deep.Slices
import Derived.Deep.Fields
import Derived.ChangeSame
import Derived.Test.YtjhedldplmhmjaaDoorERd41
import Derived.Test.YtjhedldplmhmjaaDoorERd31
import Derived.Test.YtjhedldplmhmjaaDoorERd32
import Derived.Test.YtjhedldplmhmjaaDoorERd42
set_option linter.unusedVariables false
set_option linter.unusedSimpArgs false
set_option linter.unnecessarySimpa false
namespace Go.Proofs.YtjhedldplmhmjaaDoor.Mrm
open Go Go.RowKit Mdl
set_option linter.unusedVariables false
set_option linter.unusedSimpArgs false
set_option linter.unnecessarySimpa false
set_option maxRecDepth 100000
theorem has_width {c:Cd} {w:Int} (h:hasB c w=true):w ∈ widthsL:=by
  unfold hasB at h
  cases hc:c.wd == 0
  · rw [hc,cond_false,Bool.and_eq_true] at h
    have h1:=h.1
    unfold widB at h1
    simp only [Bool.or_eq_true,beq_iff_eq] at h1
    simp only [widthsL,List.mem_cons,List.not_mem_nil,or_false]
    omega
  · rw [hc,cond_true,beq_iff_eq] at h
    rw [h]
    exact List.mem_cons_self ..
theorem va_bd:∀ y ∈ allOps,0 ≤ y.2.va ∧ y.2.va < 65000:=by decide +kernel
theorem valQ_bd {y:Int × Cd} (h:y ∈ allOps) {cc r:Int} (c0:0 ≤ cc) (c1:cc < 16) (r0:0 ≤ r) (r1:r < 8):0 ≤ valQ y.2 cc r ∧ valQ y.2 cc r < 65536:=by
  have:=va_bd y h
  unfold valQ
  cases y.2.lo == 15 <;> cases y.2.sh == 6 <;> simp only [cond_true,cond_false] <;> omega
theorem front_more {y:Int × Cd} (h:y ∈ allOps) {cc r:Int} (c0:0 ≤ cc) (c1:cc < 16) (r0:0 ≤ r) (r1:r < 8):isF (valQ y.2 cc r) y.2=true ∧ (y.2.lo=15 → valQ y.2 cc r % 16=cc) ∧ (y.2.sh=6 → valQ y.2 cc r % 8=r):=by
  have f:=front_is h c0 c1 r0 r1
  unfold frontB at f
  rw [Bool.and_eq_true] at f
  have f2:=f.2
  rw [Bool.and_eq_true,Bool.and_eq_true] at f2
  refine ⟨f2.1,fun e=>?_,fun e=>?_⟩
  · have:=f2.2.1
    rw [show (y.2.lo == 15)=true from by rw [e];rfl] at this
    simpa using this
  · have:=f2.2.2
    rw [show (y.2.sh == 6)=true from by rw [e];rfl] at this
    simpa using this
theorem cand_of {x:Xi} {c:Cd} (t:List Int) (hmem:(x.op,c) ∈ allOps) (hhas:hasB c x.w=true) (hx:x=filledP x.op x.w c (partsP x c)) (g0:0 ≤ (partsP x c).reg) (g1:(partsP x c).reg < 16) (m0:0 ≤ (partsP x c).rm) (m1:(partsP x c).rm < 16) (c0:0 ≤ (partsP x c).cc) (c1:(partsP x c).cc < 16)
    (key:partsF ⟨x.w == 64,(partsP x c).reg / 8 * 8,(partsP x c).rm / 8 * 8,valQ c (partsP x c).cc ((partsP x c).rm % 8),operandP c (partsP x c) ++ (immP c (partsP x c) ++ t)⟩ c=partsP x c):x ∈ cands (encP x.w c (partsP x c) ++ t):=by
  have hf:=find_enc (w:=x.w) hmem g0 g1 m0 m1 c0 c1 t
  have hi:=(front_more hmem c0 c1 (show 0 ≤ (partsP x c).rm % 8 by omega) (by omega)).1
  unfold cands
  rw [hf]
  refine List.mem_flatMap.2 ⟨(x.op,c),hmem,?_⟩
  unfold candC
  rw [if_pos hi]
  refine List.mem_flatMap.2 ⟨x.w,has_width hhas,?_⟩
  unfold candW
  simp only [key]
  rw [if_pos ⟨hhas,trivial,by rw [← hx]⟩,← hx]
  exact List.mem_singleton.2 rfl
theorem cand_mem {x:Xi} (hX:XOk x) (hm:mayX x=true) (t:List Int):x ∈ cands (bytesX x ++ t):=by
  have e:=encX_is x hX hm
  have hmp:mayP x=true:=by rw [mayP_is];exact hm
  unfold mayP at hmp
  rw [Bool.and_eq_true,Bool.and_eq_true] at hmp
  obtain ⟨h1,h2,h3⟩:=hmp
  obtain ⟨hmem,hhas⟩:=code_mem h1
  rw [← e]
  unfold encX
  clear e h1 hX hm
  generalize (codeOfP x.op x.w).1=c at *
  have hx:=eqX_iff.1 h2
  clear h2
  have hwd:=has_width hhas
  have hall:=allC_cases c (allOps_in hmem)
  obtain ⟨dgl,dgh,dg6⟩:=dg_bd _ hmem
  unfold fitsP at h3
  simp only [Bool.and_eq_true] at h3
  obtain ⟨r1,r2,r3,r4,r5⟩:=h3
  rw [regB_iff] at r1 r2 r3
  obtain ⟨op,w,dst,src,base,disp,imm,cc⟩:=x
  obtain ⟨sh,at_,va,dg,lo⟩:=c
  simp only at hall r1 r2 r3 dgl dgh dg6
  simp only [widthsL,List.mem_cons,List.not_mem_nil,or_false] at hwd
  rcases hall with ⟨rfl,rfl⟩ | ⟨rfl,rfl⟩ | ⟨rfl,rfl⟩ | ⟨rfl,rfl⟩ | ⟨rfl,rfl⟩ | ⟨rfl,rfl⟩ | ⟨rfl,rfl⟩ | ⟨rfl,rfl⟩ | ⟨rfl,rfl⟩ | ⟨rfl,rfl⟩ | ⟨rfl,rfl⟩ | ⟨rfl,rfl⟩ | ⟨rfl,rfl⟩ | ⟨rfl,rfl⟩
  · have hx:(⟨op,w,dst,src,base,disp,imm,cc⟩:Xi)=⟨op,w,dst,src,0,0,0,0⟩:=hx
    have hx0:=hx
    simp only [Xi.mk.injEq,true_and,and_true] at hx
    have hcc:0 ≤ cc ∧ cc < 16:=by omega
    have r5:(fourB imm && fourB disp)=true:=r5
    rw [Bool.and_eq_true] at r5
    have vb:=valQ_bd hmem hcc.1 hcc.2 (show 0 ≤ dst % 8 by omega) (by omega)
    have vm:=front_more hmem hcc.1 hcc.2 (show 0 ≤ dst % 8 by omega) (by omega)
    exact cand_of t hmem hhas hx0 (show 0 ≤ src by omega) (show src < 16 by omega) (show 0 ≤ dst by omega) (show dst < 16 by omega) hcc.1 hcc.2 (key_1_0 op w dst src base disp imm cc at_ va dg t (w == 64) (by omega) (by omega) (by omega) (by omega) (by omega) (by omega) (by omega) vb.1 vb.2)
  · have hx:(⟨op,w,dst,src,base,disp,imm,cc⟩:Xi)=⟨op,w,dst,0,0,0,imm,0⟩:=hx
    have hx0:=hx
    simp only [Xi.mk.injEq,true_and,and_true] at hx
    have hcc:0 ≤ cc ∧ cc < 16:=by omega
    have r5:(fourB imm && fourB disp)=true:=r5
    rw [Bool.and_eq_true] at r5
    have vb:=valQ_bd hmem hcc.1 hcc.2 (show 0 ≤ dst % 8 by omega) (by omega)
    have vm:=front_more hmem hcc.1 hcc.2 (show 0 ≤ dst % 8 by omega) (by omega)
    exact cand_of t hmem hhas hx0 (show 0 ≤ dg by omega) (show dg < 16 by omega) (show 0 ≤ dst by omega) (show dst < 16 by omega) hcc.1 hcc.2 (key_3_0 op w dst src base disp imm cc at_ va dg t (w == 64) (by omega) (by omega) dgl dgh (by omega) r5.1 (by omega) vb.1 vb.2)
  · have hx:(⟨op,w,dst,src,base,disp,imm,cc⟩:Xi)=⟨op,w,dst,src,0,0,0,0⟩:=hx
    have hx0:=hx
    simp only [Xi.mk.injEq,true_and,and_true] at hx
    have hcc:0 ≤ cc ∧ cc < 16:=by omega
    have r5:(fourB imm && fourB disp)=true:=r5
    rw [Bool.and_eq_true] at r5
    have vb:=valQ_bd hmem hcc.1 hcc.2 (show 0 ≤ src % 8 by omega) (by omega)
    have vm:=front_more hmem hcc.1 hcc.2 (show 0 ≤ src % 8 by omega) (by omega)
    exact cand_of t hmem hhas hx0 (show 0 ≤ dst by omega) (show dst < 16 by omega) (show 0 ≤ src by omega) (show src < 16 by omega) hcc.1 hcc.2 (key_2_0 op w dst src base disp imm cc at_ va dg t (w == 64) (by omega) (by omega) (by omega) (by omega) (by omega) (by omega) (by omega) vb.1 vb.2)
  · have hx:(⟨op,w,dst,src,base,disp,imm,cc⟩:Xi)=⟨op,w,dst,0,0,0,imm,0⟩:=hx
    have hx0:=hx
    simp only [Xi.mk.injEq,true_and,and_true] at hx
    have hcc:0 ≤ cc ∧ cc < 16:=by omega
    have r5:(decide (0 ≤ imm) && decide (imm < w))=true:=r5
    simp only [Bool.and_eq_true,decide_eq_true_eq] at r5
    have vb:=valQ_bd hmem hcc.1 hcc.2 (show 0 ≤ dst % 8 by omega) (by omega)
    have vm:=front_more hmem hcc.1 hcc.2 (show 0 ≤ dst % 8 by omega) (by omega)
    exact cand_of t hmem hhas hx0 (show 0 ≤ dg by omega) (show dg < 16 by omega) (show 0 ≤ dst by omega) (show dst < 16 by omega) hcc.1 hcc.2 (key_4_0 op w dst src base disp imm cc at_ va dg t (w == 64) (by omega) (by omega) dgl dgh (by omega) (by omega) (by omega) vb.1 vb.2)
  · have hx:(⟨op,w,dst,src,base,disp,imm,cc⟩:Xi)=⟨op,w,dst,0,0,0,0,0⟩:=hx
    have hx0:=hx
    simp only [Xi.mk.injEq,true_and,and_true] at hx
    have hcc:0 ≤ cc ∧ cc < 16:=by omega
    have r5:(fourB imm && fourB disp)=true:=r5
    rw [Bool.and_eq_true] at r5
    have vb:=valQ_bd hmem hcc.1 hcc.2 (show 0 ≤ dst % 8 by omega) (by omega)
    have vm:=front_more hmem hcc.1 hcc.2 (show 0 ≤ dst % 8 by omega) (by omega)
    exact cand_of t hmem hhas hx0 (show 0 ≤ dg by omega) (show dg < 16 by omega) (show 0 ≤ dst by omega) (show dst < 16 by omega) hcc.1 hcc.2 (key_5_0 op w dst src base disp imm cc at_ va dg t (w == 64) (by omega) (by omega) dgl dgh (by omega) (by omega) (by omega) vb.1 vb.2)
  · have hx:(⟨op,w,dst,src,base,disp,imm,cc⟩:Xi)=⟨op,w,dst,src,0,0,0,cc⟩:=hx
    have hx0:=hx
    simp only [Xi.mk.injEq,true_and,and_true] at hx
    have hcc:0 ≤ cc ∧ cc < 16:=by
      have r4:(!(true && !(ccB cc)))=true:=r4
      simp only [Bool.true_and,Bool.not_not] at r4
      unfold ccB at r4
      simp only [Bool.or_eq_true,Bool.and_eq_true,decide_eq_true_eq] at r4
      omega
    have r5:(fourB imm && fourB disp)=true:=r5
    rw [Bool.and_eq_true] at r5
    have vb:=valQ_bd hmem hcc.1 hcc.2 (show 0 ≤ src % 8 by omega) (by omega)
    have vm:=front_more hmem hcc.1 hcc.2 (show 0 ≤ src % 8 by omega) (by omega)
    exact cand_of t hmem hhas hx0 (show 0 ≤ dst by omega) (show dst < 16 by omega) (show 0 ≤ src by omega) (show src < 16 by omega) hcc.1 hcc.2 (key_2_15 op w dst src base disp imm cc at_ va dg t (w == 64) (by omega) (by omega) (by omega) (by omega) (by omega) (by omega) vb.1 vb.2 (vm.2.1 rfl))
  · have hx:(⟨op,w,dst,src,base,disp,imm,cc⟩:Xi)=⟨op,w,dst,0,base,disp,0,0⟩:=hx
    have hx0:=hx
    simp only [Xi.mk.injEq,true_and,and_true] at hx
    have hcc:0 ≤ cc ∧ cc < 16:=by omega
    have r5:(fourB imm && fourB disp)=true:=r5
    rw [Bool.and_eq_true] at r5
    have vb:=valQ_bd hmem hcc.1 hcc.2 (show 0 ≤ base % 8 by omega) (by omega)
    have vm:=front_more hmem hcc.1 hcc.2 (show 0 ≤ base % 8 by omega) (by omega)
    exact cand_of t hmem hhas hx0 (show 0 ≤ dst by omega) (show dst < 16 by omega) (show 0 ≤ base by omega) (show base < 16 by omega) hcc.1 hcc.2 (key_7_0 op w dst src base disp imm cc at_ va dg t (w == 64) (by omega) (by omega) (by omega) (by omega) r5.2 (by omega) (by omega) vb.1 vb.2)
  · have hx:(⟨op,w,dst,src,base,disp,imm,cc⟩:Xi)=⟨op,w,0,src,base,disp,0,0⟩:=hx
    have hx0:=hx
    simp only [Xi.mk.injEq,true_and,and_true] at hx
    have hcc:0 ≤ cc ∧ cc < 16:=by omega
    have r5:(fourB imm && fourB disp)=true:=r5
    rw [Bool.and_eq_true] at r5
    have vb:=valQ_bd hmem hcc.1 hcc.2 (show 0 ≤ base % 8 by omega) (by omega)
    have vm:=front_more hmem hcc.1 hcc.2 (show 0 ≤ base % 8 by omega) (by omega)
    exact cand_of t hmem hhas hx0 (show 0 ≤ src by omega) (show src < 16 by omega) (show 0 ≤ base by omega) (show base < 16 by omega) hcc.1 hcc.2 (key_8_0 op w dst src base disp imm cc at_ va dg t (w == 64) (by omega) (by omega) (by omega) (by omega) r5.2 (by omega) (by omega) vb.1 vb.2)
  · have hx:(⟨op,w,dst,src,base,disp,imm,cc⟩:Xi)=⟨op,w,0,0,0,0,imm,0⟩:=hx
    have hx0:=hx
    simp only [Xi.mk.injEq,true_and,and_true] at hx
    have hcc:0 ≤ cc ∧ cc < 16:=by omega
    have r5:(fourB imm && fourB disp)=true:=r5
    rw [Bool.and_eq_true] at r5
    have vb:=valQ_bd hmem hcc.1 hcc.2 (show 0 ≤ 0 % 8 by omega) (by omega)
    have vm:=front_more hmem hcc.1 hcc.2 (show 0 ≤ 0 % 8 by omega) (by omega)
    exact cand_of t hmem hhas hx0 (show 0 ≤ 0 by omega) (show 0 < 16 by omega) (show 0 ≤ 0 by omega) (show 0 < 16 by omega) hcc.1 hcc.2 (key_9_0 op w dst src base disp imm cc at_ va dg t (w == 64) (by omega) r5.1 (by omega) vb.1 vb.2)
  · have hx:(⟨op,w,dst,src,base,disp,imm,cc⟩:Xi)=⟨op,w,0,0,0,0,imm,cc⟩:=hx
    have hx0:=hx
    simp only [Xi.mk.injEq,true_and,and_true] at hx
    have hcc:0 ≤ cc ∧ cc < 16:=by
      have r4:(!(true && !(ccB cc)))=true:=r4
      simp only [Bool.true_and,Bool.not_not] at r4
      unfold ccB at r4
      simp only [Bool.or_eq_true,Bool.and_eq_true,decide_eq_true_eq] at r4
      omega
    have r5:(fourB imm && fourB disp)=true:=r5
    rw [Bool.and_eq_true] at r5
    have vb:=valQ_bd hmem hcc.1 hcc.2 (show 0 ≤ 0 % 8 by omega) (by omega)
    have vm:=front_more hmem hcc.1 hcc.2 (show 0 ≤ 0 % 8 by omega) (by omega)
    exact cand_of t hmem hhas hx0 (show 0 ≤ 0 by omega) (show 0 < 16 by omega) (show 0 ≤ 0 by omega) (show 0 < 16 by omega) hcc.1 hcc.2 (key_9_15 op w dst src base disp imm cc at_ va dg t (w == 64) (by omega) r5.1 vb.1 vb.2 (vm.2.1 rfl))
  · have hx:(⟨op,w,dst,src,base,disp,imm,cc⟩:Xi)=⟨op,w,0,0,0,0,0,0⟩:=hx
    have hx0:=hx
    simp only [Xi.mk.injEq,true_and,and_true] at hx
    have hcc:0 ≤ cc ∧ cc < 16:=by omega
    have r5:(fourB imm && fourB disp)=true:=r5
    rw [Bool.and_eq_true] at r5
    have vb:=valQ_bd hmem hcc.1 hcc.2 (show 0 ≤ 0 % 8 by omega) (by omega)
    have vm:=front_more hmem hcc.1 hcc.2 (show 0 ≤ 0 % 8 by omega) (by omega)
    exact cand_of t hmem hhas hx0 (show 0 ≤ 0 by omega) (show 0 < 16 by omega) (show 0 ≤ 0 by omega) (show 0 < 16 by omega) hcc.1 hcc.2 (key_0_0 op w dst src base disp imm cc at_ va dg t (w == 64) (by omega) (by omega) (by omega) vb.1 vb.2)
  · have hx:(⟨op,w,dst,src,base,disp,imm,cc⟩:Xi)=⟨op,w,dst,0,0,0,imm,0⟩:=hx
    have hx0:=hx
    simp only [Xi.mk.injEq,true_and,and_true] at hx
    have hcc:0 ≤ cc ∧ cc < 16:=by omega
    have r5:(fourB imm && fourB disp)=true:=r5
    rw [Bool.and_eq_true] at r5
    have vb:=valQ_bd hmem hcc.1 hcc.2 (show 0 ≤ dst % 8 by omega) (by omega)
    have vm:=front_more hmem hcc.1 hcc.2 (show 0 ≤ dst % 8 by omega) (by omega)
    exact cand_of t hmem hhas hx0 (show 0 ≤ dg by omega) (show dg < 16 by omega) (show 0 ≤ dst by omega) (show dst < 16 by omega) hcc.1 hcc.2 (key_6_7 op w dst src base disp imm cc at_ va dg t (w == 64) (by omega) (by omega) dgl dgh (by omega) r5.1 (by omega) vb.1 vb.2 (vm.2.2 rfl) (dg6 rfl))
  · have hx:(⟨op,w,dst,src,base,disp,imm,cc⟩:Xi)=⟨op,w,0,0,0,0,imm,0⟩:=hx
    have hx0:=hx
    simp only [Xi.mk.injEq,true_and,and_true] at hx
    have hcc:0 ≤ cc ∧ cc < 16:=by omega
    have r5:oneB imm=true:=r5
    unfold oneB at r5
    simp only [Bool.and_eq_true,decide_eq_true_eq] at r5
    have vb:=valQ_bd hmem hcc.1 hcc.2 (show 0 ≤ 0 % 8 by omega) (by omega)
    have vm:=front_more hmem hcc.1 hcc.2 (show 0 ≤ 0 % 8 by omega) (by omega)
    exact cand_of t hmem hhas hx0 (show 0 ≤ 0 by omega) (show 0 < 16 by omega) (show 0 ≤ 0 by omega) (show 0 < 16 by omega) hcc.1 hcc.2 (key_10_0 op w dst src base disp imm cc at_ va dg t (w == 64) (by omega) r5 (by omega) vb.1 vb.2)
  · have hx:(⟨op,w,dst,src,base,disp,imm,cc⟩:Xi)=⟨op,w,0,0,0,0,imm,cc⟩:=hx
    have hx0:=hx
    simp only [Xi.mk.injEq,true_and,and_true] at hx
    have hcc:0 ≤ cc ∧ cc < 16:=by
      have r4:(!(true && !(ccB cc)))=true:=r4
      simp only [Bool.true_and,Bool.not_not] at r4
      unfold ccB at r4
      simp only [Bool.or_eq_true,Bool.and_eq_true,decide_eq_true_eq] at r4
      omega
    have r5:oneB imm=true:=r5
    unfold oneB at r5
    simp only [Bool.and_eq_true,decide_eq_true_eq] at r5
    have vb:=valQ_bd hmem hcc.1 hcc.2 (show 0 ≤ 0 % 8 by omega) (by omega)
    have vm:=front_more hmem hcc.1 hcc.2 (show 0 ≤ 0 % 8 by omega) (by omega)
    exact cand_of t hmem hhas hx0 (show 0 ≤ 0 by omega) (show 0 < 16 by omega) (show 0 ≤ 0 by omega) (show 0 < 16 by omega) hcc.1 hcc.2 (key_10_15 op w dst src base disp imm cc at_ va dg t (w == 64) (by omega) r5 vb.1 vb.2 (vm.2.1 rfl))
theorem readX_own {x:Xi} (hX:XOk x) (hm:mayX x=true) {t:List Int} (hz:Oks (bytesX x ++ t)):readX (bytesX x ++ t)=some x:=by
  have hc:=cand_mem hX hm t
  have hok:okX (bytesX x ++ t) x=true:=by
    unfold okX
    rw [hm,Bool.true_and,decide_eq_true_eq]
    exact List.take_left
  unfold readX
  cases hf:(cands (bytesX x ++ t)).find? (okX (bytesX x ++ t)) with
  | none=>exact absurd hok (by rw [List.find?_eq_none] at hf;exact hf x hc)
  | some y=>
    have h1:=List.find?_some hf
    have h2:=cands_ok hz y (List.mem_of_find?_eq_some hf)
    unfold okX at h1
    rw [Bool.and_eq_true,decide_eq_true_eq] at h1
    have e:bytesX y ++ (bytesX x ++ t).drop (bytesX y).length=bytesX x ++ t:=by
      conv=>lhs;lhs;rw [← h1.2]
      exact List.take_append_drop _ _
    rw [bytes_apart h2 hX h1.1 hm e]
theorem readX_some {zs:List Int} {x:Xi} (hz:Oks zs) (h:readX zs=some x):XOk x ∧ mayX x=true ∧ zs.take (bytesX x).length=bytesX x:=by
  have h1:=List.find?_some h
  unfold okX at h1
  rw [Bool.and_eq_true,decide_eq_true_eq] at h1
  exact ⟨cands_ok hz x (List.mem_of_find?_eq_some h),h1.1,h1.2⟩
end Go.Proofs.YtjhedldplmhmjaaDoor.Mrm
namespace Go.Proofs.YtjhedldplmhmjaaDoor.Mrm
open Go Go.RowKit
set_option linter.unusedVariables false
set_option linter.unusedSimpArgs false
set_option maxRecDepth 100000
theorem docA_some {l:List Int} (hz:Oks l) {x:Xi} (h:readX l=some x):docA l=some (x,((bytesX x).length:Int)):=by
  obtain ⟨hX,hm,ht⟩:=readX_some hz h
  have hd:=doc_is x hX hm (l.drop (bytesX x).length)
  have e:bytesX x ++ l.drop (bytesX x).length=l:=by
    have:=List.take_append_drop (bytesX x).length l
    rw [ht] at this
    exact this
  unfold DocIs at hd
  rw [e] at hd
  unfold docA
  simp only [hd.1,hd.2.1,hd.2.2,hm,Int.toNat_natCast,ht]
  simp
theorem docA_none {l:List Int} (hz:Oks l) (hO:∀ x,mayX x=true → XOk x) (h:readX l=none):docA l=none:=by
  unfold docA
  simp only
  split
  · rfl
  · rename_i hb
    split
    · rename_i hq
      exfalso
      have hm:mayX (docR l).1=true:=by
        rcases Bool.eq_false_or_eq_true (mayX (docR l).1) with e | e
        · exact e
        · exact absurd (.inr e) hb
      have e:bytesX (docR l).1 ++ l.drop (docR l).2.pos.toNat=l:=by
        rw [hq];exact List.take_append_drop _ _
      have:=readX_own (hO _ hm) hm (t:=l.drop (docR l).2.pos.toNat) (by rw [e];exact hz)
      rw [e,h] at this
      cases this
    · rfl
end Go.Proofs.YtjhedldplmhmjaaDoor.Mrm
namespace Go.Proofs.YtjhedldplmhmjaaDoor.Mrm
open Go Go.RowKit
set_option linter.unusedVariables false
set_option linter.unusedSimpArgs false
set_option maxRecDepth 100000
theorem docA_is {l:List Int} (hz:Oks l):docA l=(readX l).map fun x=>(x,((bytesX x).length:Int)):=by
  cases h:readX l with
  | none=>exact docA_none hz (fun _=>may_ok) h
  | some x=>exact docA_some hz h
end Go.Proofs.YtjhedldplmhmjaaDoor.Mrm
namespace Go.Proofs.YtjhedldplmhmjaaDoor.Mrm
open Go Go.RowKit Go.ChangeShapes Go.WideShapes Go.Deep
set_option linter.unusedVariables false
set_option maxRecDepth 100000
section
variable {H:Type} {enc:TypeId × Value → H} {w:World} {base:Nat} {held:Bool}
def cdD (c:Cd):DataW H:=.agg [.lit (.int .i8 c.sh),.lit (.int .i8 c.wd),.lit (.int .u16 c.va),.lit (.int .i8 c.dg),.lit (.int .u16 c.lo)]
def otD (o:Int × Cd):DataW H:=.agg [.lit (.int .i8 o.1),cdD o.2]
theorem cd_cells {n:Nat} {cs:List Value} {x:DataW H × List MemPlace} {spare:Nat → Bool} (h:DataW.trod enc Tryd.prog w base spare held n 61 cs=some x):∃ c:Cd,cs=cdL c ∧ x.1=cdD c:=by
  obtain ⟨xs,n',_,hx,hlen,hxl,hf⟩:=DataW.trod_struct Tryd.underlying61 h
  have hl:cs.length=5:=hlen.trans (by kernel_rfl)
  match cs,hl with
  | [c0,c1,c2,c3,c4],_=>
    have hxn:xs.length=5:=hxl
    have k_i8:Tryd.prog.cellsOf 24=1:=by kernel_rfl
    have k_u16:Tryd.prog.cellsOf 54=1:=by kernel_rfl
    have f0:=hf 0 _ rfl
    change DataW.trod enc Tryd.prog w base spare held n' 24 (([c0,c1,c2,c3,c4].drop 0).take (Tryd.prog.cellsOf 24))=_ at f0
    rw [k_i8,List.getElem?_eq_getElem (by omega)] at f0
    obtain ⟨v0,e0,g0,w0⟩:=DataW.trod_int Tryd.underlying24 f0
    have f1:=hf 1 _ rfl
    change DataW.trod enc Tryd.prog w base spare held n' 24 (([c0,c1,c2,c3,c4].drop 1).take (Tryd.prog.cellsOf 24))=_ at f1
    rw [k_i8,List.getElem?_eq_getElem (by omega)] at f1
    obtain ⟨v1,e1,g1,w1⟩:=DataW.trod_int Tryd.underlying24 f1
    have f2:=hf 2 _ rfl
    change DataW.trod enc Tryd.prog w base spare held n' 54 (([c0,c1,c2,c3,c4].drop 2).take (Tryd.prog.cellsOf 54))=_ at f2
    rw [k_u16,List.getElem?_eq_getElem (by omega)] at f2
    obtain ⟨v2,e2,g2,w2⟩:=DataW.trod_int Tryd.underlying54 f2
    have f3:=hf 3 _ rfl
    change DataW.trod enc Tryd.prog w base spare held n' 24 (([c0,c1,c2,c3,c4].drop 3).take (Tryd.prog.cellsOf 24))=_ at f3
    rw [k_i8,List.getElem?_eq_getElem (by omega)] at f3
    obtain ⟨v3,e3,g3,w3⟩:=DataW.trod_int Tryd.underlying24 f3
    have f4:=hf 4 _ rfl
    change DataW.trod enc Tryd.prog w base spare held n' 54 (([c0,c1,c2,c3,c4].drop 4).take (Tryd.prog.cellsOf 54))=_ at f4
    rw [k_u16,List.getElem?_eq_getElem (by omega)] at f4
    obtain ⟨v4,e4,g4,w4⟩:=DataW.trod_int Tryd.underlying54 f4
    simp at e0 e1 e2 e3 e4
    subst e0 e1 e2 e3 e4
    refine ⟨⟨v0,v1,v2,v3,v4⟩,rfl,?_⟩
    rw [hx]
    match xs,hxn with
    | [y0,y1,y2,y3,y4],_=>
      simp only [List.getElem_cons_zero,List.getElem_cons_succ] at g0 g1 g2 g3 g4
      show DataW.agg [y0.1,y1.1,y2.1,y3.1,y4.1]=_
      rw [g0,g1,g2,g3,g4]
      rfl
theorem ot_cells {n:Nat} {cs:List Value} {x:DataW H × List MemPlace} {spare:Nat → Bool} (h:DataW.trod enc Tryd.prog w base spare held n 93 cs=some x):∃ o:Int × Cd,cs=otL o ∧ x.1=otD o:=by
  obtain ⟨xs,n',_,hx,hlen,hxl,hf⟩:=DataW.trod_struct Tryd.underlying93 h
  have hl:cs.length=6:=hlen.trans (by kernel_rfl)
  match cs,hl with
  | [c0,c1,c2,c3,c4,c5],_=>
    have hxn:xs.length=2:=hxl
    have k_i8:Tryd.prog.cellsOf 24=1:=by kernel_rfl
    have k_cd:Tryd.prog.cellsOf 61=5:=by kernel_rfl
    have f0:=hf 0 _ rfl
    change DataW.trod enc Tryd.prog w base spare held n' 24 (([c0,c1,c2,c3,c4,c5].drop 0).take (Tryd.prog.cellsOf 24))=_ at f0
    rw [k_i8,List.getElem?_eq_getElem (by omega)] at f0
    obtain ⟨v0,e0,g0,w0⟩:=DataW.trod_int Tryd.underlying24 f0
    have f1:=hf 1 _ rfl
    change DataW.trod enc Tryd.prog w base spare held n' 61 (([c0,c1,c2,c3,c4,c5].drop 1).take (Tryd.prog.cellsOf 61))=_ at f1
    rw [k_cd,List.getElem?_eq_getElem (by omega)] at f1
    obtain ⟨c,e1,g1⟩:=cd_cells f1
    simp at e0 e1
    obtain ⟨rfl,rfl,rfl,rfl,rfl⟩:=e1
    subst e0
    refine ⟨(v0,c),rfl,?_⟩
    rw [hx]
    match xs,hxn with
    | [y0,y1],_=>
      simp only [List.getElem_cons_zero,List.getElem_cons_succ] at g0 g1
      show DataW.agg [y0.1,y1.1]=_
      rw [g0,g1]
      rfl
theorem flat_of {α:Type} (f:α → List Value) (n:Nat):∀ (L:List α) (cs:List Value),cs.length=L.length * n → (∀ i (hi:i < L.length),(cs.drop (i * n)).take n=f L[i]) → cs=L.flatMap f
  | [],cs,hl,_=>List.eq_nil_of_length_eq_zero (by simpa using hl)
  | a :: L,cs,hl,h=>by
    have h0:=h 0 (by simp)
    have ih:=flat_of f n L (cs.drop n) (by rw [List.length_drop,hl,List.length_cons,Nat.add_mul];omega) (fun i hi=>by
      have:=h (i + 1) (by simpa using hi)
      rw [List.drop_drop,show n + i * n=(i + 1) * n by rw [Nat.add_mul];omega]
      exact this)
    simp only [Nat.zero_mul,List.drop_zero,List.getElem_cons_zero] at h0
    rw [List.flatMap_cons,← h0,← ih]
    exact (List.take_append_drop _ _).symm
theorem cdD_inj {c d:Cd} (h:(cdD c:DataW H)=cdD d):c=d:=by
  obtain ⟨a0,a1,a2,a3,a4⟩:=c
  obtain ⟨b0,b1,b2,b3,b4⟩:=d
  simp [cdD] at h
  obtain ⟨rfl,rfl,rfl,rfl,rfl⟩:=h
  rfl
theorem otD_inj {c d:Int × Cd} (h:(otD c:DataW H)=otD d):c=d:=by
  obtain ⟨a,c⟩:=c
  obtain ⟨b,d⟩:=d
  have h1:a=b:=by simp [otD] at h;exact h.1
  have h2:c=d:=cdD_inj (H:=H) (by simp only [otD,DataW.agg.injEq,List.cons.injEq] at h;exact h.2.1)
  rw [h1,h2]
theorem codes_cells {fuel:Nat} {cs:List Value} {p:List MemPlace} {spare:Nat → Bool} (h:DataW.trod enc Tryd.prog w base spare held fuel 92 cs=some (Rows.laid_lathe_encode_codes,p)):cs=codesC.toList:=by
  obtain ⟨xs,m,_,hx,hl,hn,hi⟩:=DataW.trod_array Tryd.underlying92 h
  have k1:Tryd.prog.cellsOf 61=5:=by kernel_rfl
  have k2:Tryd.prog.cellsOf 92=160:=by kernel_rfl
  rw [k2] at hl
  have hd:(Rows.laid_lathe_encode_codes:DataW H)=.agg (codesL.map cdD):=rfl
  rw [hd] at hx
  have hm:codesL.map cdD=xs.map (·.1):=by
    injection hx with h1 _
    injection h1
  have hL:codesL.length=32:=rfl
  show cs=codesL.flatMap cdL
  refine flat_of cdL 5 codesL cs (by rw [hl,hL]) (fun i hi'=>?_)
  have q:=hi i (by rw [hL] at hi';exact hi')
  rw [k1,List.getElem?_eq_getElem (by rw [hn];rw [hL] at hi';exact hi')] at q
  obtain ⟨c,e1,e2⟩:=cd_cells q
  rw [e1]
  congr 1
  have e3:(codesL.map (cdD:_ → DataW H))[i]?=(xs.map (·.1))[i]?:=by rw [hm]
  rw [List.getElem?_map,List.getElem?_map,List.getElem?_eq_getElem hi',List.getElem?_eq_getElem (by rw [hn];rw [hL] at hi';exact hi')] at e3
  simp only [Option.map_some,Option.some.injEq] at e3
  rw [e2] at e3
  exact (cdD_inj e3).symm
theorem others_cells {fuel:Nat} {cs:List Value} {p:List MemPlace} {spare:Nat → Bool} (h:DataW.trod enc Tryd.prog w base spare held fuel 94 cs=some (Rows.laid_lathe_encode_others,p)):cs=othersC.toList:=by
  obtain ⟨xs,m,_,hx,hl,hn,hi⟩:=DataW.trod_array Tryd.underlying94 h
  have k1:Tryd.prog.cellsOf 93=6:=by kernel_rfl
  have k2:Tryd.prog.cellsOf 94=36:=by kernel_rfl
  rw [k2] at hl
  have hd:(Rows.laid_lathe_encode_others:DataW H)=.agg (othersL.map otD):=rfl
  rw [hd] at hx
  have hm:othersL.map otD=xs.map (·.1):=by
    injection hx with h1 _
    injection h1
  have hL:othersL.length=6:=rfl
  show cs=othersL.flatMap otL
  refine flat_of otL 6 othersL cs (by rw [hl,hL]) (fun i hi'=>?_)
  have q:=hi i (by rw [hL] at hi';exact hi')
  rw [k1,List.getElem?_eq_getElem (by rw [hn];rw [hL] at hi';exact hi')] at q
  obtain ⟨c,e1,e2⟩:=ot_cells q
  rw [e1]
  congr 1
  have e3:(othersL.map (otD:_ → DataW H))[i]?=(xs.map (·.1))[i]?:=by rw [hm]
  rw [List.getElem?_map,List.getElem?_map,List.getElem?_eq_getElem hi',List.getElem?_eq_getElem (by rw [hn];rw [hL] at hi';exact hi')] at e3
  simp only [Option.map_some,Option.some.injEq] at e3
  rw [e2] at e3
  exact (otD_inj e3).symm
end
theorem gCodes:Tryd.prog.globalNamed "lathe/encode.codes" = some 1:=by kernel_rfl
theorem gOthers:Tryd.prog.globalNamed "lathe/encode.others" = some 2:=by kernel_rfl
theorem tCodes:(Tryd.prog.globals[(1:Nat)]?).map (·.type)=some 92:=by kernel_rfl
theorem tOthers:(Tryd.prog.globals[(2:Nat)]?).map (·.type)=some 94:=by kernel_rfl
theorem var_row {P:Program} {W:World} {name:String} {g:Nat} {cs:Array Value} (hg:P.globalNamed name=some g) (h:W.var? P name=some cs):∃ T fr,W.heap[g]?=some (.cells cs T fr):=by
  unfold World.var? at h
  rw [hg] at h
  simp only [Option.bind_some] at h
  split at h
  · rename_i cs' T fr e
    obtain rfl:=Option.some.inj h
    exact ⟨T,fr,e⟩
  · cases h
theorem codes_row {W:World} {rest:List (String × DataW Unit)} (h:laidMet Tryd.prog (("lathe/encode.codes", Rows.laid_lathe_encode_codes) :: rest) W):∃ T fr,W.heap[(1:Nat)]?=some (.cells codesC T fr):=by
  obtain ⟨ps,⟨g',t',cs,fuel,p,q,hg',ht',hvar,hd,_,_⟩,_⟩:=h
  obtain rfl:=Option.some.inj (gCodes.symm.trans hg')
  obtain rfl:=Option.some.inj (tCodes.symm.trans ht')
  have:=Array.toList_inj.1 (codes_cells hd)
  obtain ⟨T,fr,e⟩:=var_row gCodes hvar
  refine ⟨T,fr,?_⟩
  rw [e,this]
theorem others_row {W:World} {rest:List (String × DataW Unit)} (h:laidMet Tryd.prog (("lathe/encode.others", Rows.laid_lathe_encode_others) :: rest) W):∃ T fr,W.heap[(2:Nat)]?=some (.cells othersC T fr):=by
  obtain ⟨ps,⟨g',t',cs,fuel,p,q,hg',ht',hvar,hd,_,_⟩,_⟩:=h
  obtain rfl:=Option.some.inj (gOthers.symm.trans hg')
  obtain rfl:=Option.some.inj (tOthers.symm.trans ht')
  have:=Array.toList_inj.1 (others_cells hd)
  obtain ⟨T,fr,e⟩:=var_row gOthers hvar
  refine ⟨T,fr,?_⟩
  rw [e,this]
end Go.Proofs.YtjhedldplmhmjaaDoor.Mrm
namespace Go.Proofs.YtjhedldplmhmjaaDoor.Mrm
open Go Go.RowKit Go.ChangeShapes Go.WideShapes Go.Deep
set_option linter.unusedVariables false
set_option maxRecDepth 100000
section
variable {H:Type} {enc:TypeId × Value → H} {w:World} {base:Nat} {held:Bool}
def wdD (v:Int):DataW H:=.lit (.int .i8 v)
theorem widths_cells {fuel:Nat} {cs:List Value} {p:List MemPlace} {spare:Nat → Bool} (h:DataW.trod enc Tryd.prog w base spare held fuel 66 cs=some (Rows.laid_lathe_encode_widths,p)):cs=widthsC.toList:=by
  obtain ⟨xs,m,_,hx,hl,hn,hi⟩:=DataW.trod_array Tryd.underlying66 h
  have k1:Tryd.prog.cellsOf 24=1:=by kernel_rfl
  have k2:Tryd.prog.cellsOf 66=5:=by kernel_rfl
  rw [k2] at hl
  have hd:(Rows.laid_lathe_encode_widths:DataW H)=.agg (widthsL.map wdD):=rfl
  rw [hd] at hx
  have hm:widthsL.map wdD=xs.map (·.1):=by
    injection hx with h1 _
    injection h1
  have hL:widthsL.length=5:=rfl
  show cs=widthsL.flatMap (fun v=>[Value.int .i8 v])
  refine flat_of (fun v=>[Value.int .i8 v]) 1 widthsL cs (by rw [hl,hL]) (fun i hi'=>?_)
  have q:=hi i (by rw [hL] at hi';exact hi')
  rw [k1,List.getElem?_eq_getElem (by rw [hn];rw [hL] at hi';exact hi')] at q
  obtain ⟨v,e1,e2,_⟩:=DataW.trod_int Tryd.underlying24 q
  rw [e1]
  have e3:(widthsL.map (wdD:_ → DataW H))[i]?=(xs.map (·.1))[i]?:=by rw [hm]
  rw [List.getElem?_map,List.getElem?_map,List.getElem?_eq_getElem hi',List.getElem?_eq_getElem (by rw [hn];rw [hL] at hi';exact hi')] at e3
  simp only [Option.map_some,Option.some.injEq] at e3
  have e4:(wdD widthsL[i]:DataW H)=.lit (.int .i8 v):=by rw [e3,e2]
  unfold wdD at e4
  injection e4 with e4
  injection e4 with _ e4
  rw [e4]
end
theorem gWidths:Tryd.prog.globalNamed "lathe/encode.widths" = some 0:=by kernel_rfl
theorem tWidths:(Tryd.prog.globals[(0:Nat)]?).map (·.type)=some 66:=by kernel_rfl
theorem widths_row {W:World} {rest:List (String × DataW Unit)} (h:laidMet Tryd.prog (("lathe/encode.widths", Rows.laid_lathe_encode_widths) :: rest) W):∃ T fr,W.heap[(0:Nat)]?=some (.cells widthsC T fr):=by
  obtain ⟨ps,⟨g',t',cs,fuel,p,q,hg',ht',hvar,hd,_,_⟩,_⟩:=h
  obtain rfl:=Option.some.inj (gWidths.symm.trans hg')
  obtain rfl:=Option.some.inj (tWidths.symm.trans ht')
  have:=Array.toList_inj.1 (widths_cells hd)
  obtain ⟨T,fr,e⟩:=var_row gWidths hvar
  refine ⟨T,fr,?_⟩
  rw [e,this]
theorem tabs_of3 {W:World} (h:laidMetH Tryd.prog [("lathe/encode.codes", Rows.laid_lathe_encode_codes),("lathe/encode.others", Rows.laid_lathe_encode_others),("lathe/encode.widths", Rows.laid_lathe_encode_widths)] W):Tab3 W:=by
  rw [MakeChecks.laidMetH_plain _ _ _ (by kernel_rfl)] at h
  exact ⟨codes_row h,others_row (laidMet.tail h),widths_row (laidMet.tail (laidMet.tail h))⟩
theorem Tab3.size {W:World} (h:Tab3 W):3 ≤ W.heap.size:=by
  obtain ⟨⟨_,_,e1⟩,⟨_,_,e2⟩,⟨_,_,e3⟩⟩:=h
  have h1:=(Array.getElem?_eq_some_iff.1 e1).1
  have h2:=(Array.getElem?_eq_some_iff.1 e2).1
  have h3:=(Array.getElem?_eq_some_iff.1 e3).1
  omega
end Go.Proofs.YtjhedldplmhmjaaDoor.Mrm
namespace Go.Proofs.YtjhedldplmhmjaaDoor.Mrm
open Go Go.RowKit
set_option linter.unusedVariables false
set_option linter.unnecessarySimpa false
set_option linter.unusedSimpArgs false
set_option maxRecDepth 100000
theorem xok_a:XOk ⟨0,64,0,3,0,0,0,0⟩:=⟨by decide,by decide,by decide,by decide,by decide,by decide,by decide,by decide⟩
theorem xok_b:XOk ⟨26,8,1,0,4,16,0,0⟩:=⟨by decide,by decide,by decide,by decide,by decide,by decide,by decide,by decide⟩
theorem xok_c:XOk ⟨30,0,0,0,0,0,0,0⟩:=⟨by decide,by decide,by decide,by decide,by decide,by decide,by decide,by decide⟩
theorem wk_a:bytL ⟨0,64,0,3,0,0,0,0⟩=[72,137,216] ∧ bytC ⟨0,64,0,3,0,0,0,0⟩=0:=by decide +kernel
theorem wk_b:bytL ⟨26,8,1,0,4,16,0,0⟩=[15,182,140,36,16,0,0,0] ∧ bytC ⟨26,8,1,0,4,16,0,0⟩=0:=by decide +kernel
theorem wk_c:bytL ⟨30,0,0,0,0,0,0,0⟩=[195] ∧ bytC ⟨30,0,0,0,0,0,0,0⟩=0:=by decide +kernel
theorem ws_a:strOfNums [72,137,216]=(⟨#[72,137,216]⟩:ByteArray):=by decide
theorem ws_b:strOfNums [15,182,140,36,16,0,0,0]=(⟨#[15,182,140,36,16,0,0,0]⟩:ByteArray):=by decide
theorem ws_c:strOfNums [195]=(⟨#[195]⟩:ByteArray):=by decide
set_option maxHeartbeats 2000000 in
theorem wakes_n (W:World) (hT:Tabs W):Calls Tryd.prog 4 #[] W fun e w'=>e=.returned (.bool true) ∧ Below W.heap.size W w':=by
  have HT:=Lib.hid hT
  have BA:=Lib.hid (fun W hT=>bytes_n ⟨0,64,0,3,0,0,0,0⟩ xok_a W hT)
  have BB:=Lib.hid (fun W hT=>bytes_n ⟨26,8,1,0,4,16,0,0⟩ xok_b W hT)
  have BC:=Lib.hid (fun W hT=>bytes_n ⟨30,0,0,0,0,0,0,0⟩ xok_c W hT)
  rw [wk_a.1,wk_a.2] at BA
  rw [wk_b.1,wk_b.2] at BB
  rw [wk_c.1,wk_c.2] at BC
  unfold RetX at BA BB BC
  clear hT
  go_enter Tryd.func4,Tryd.ntmps4
  go_wp2_with fail
  refine (BA.out _ HT.out).mono ?_
  rintro e w1 ⟨v1,rfl,o1,b1⟩
  have O1:=Lib.hid o1
  have B1:=Lib.hid b1
  clear o1 b1
  go_wp2_with fail
  refine (BB.out _ (HT.out.below B1.out (Nat.le_refl _))).mono ?_
  rintro e w2 ⟨v2,rfl,o2,b2⟩
  have O1:=Lib.hid (O1.out.below b2)
  have O2:=Lib.hid o2
  have B2:=Lib.hid (below_call B1.out b2)
  clear o2 b2
  go_wp2_with fail
  refine (BC.out _ (HT.out.below B2.out (Nat.le_refl _))).mono ?_
  rintro e w3 ⟨v3,rfl,o3,b3⟩
  have c1:=conv_own (O1.out.below b3) (by intro z hz;simp at hz;omega)
  have c2:=conv_own (O2.out.below b3) (by intro z hz;simp at hz;omega)
  have c3:=conv_own o3 (by intro z hz;simp at hz;omega)
  rw [ws_a] at c1
  rw [ws_b] at c2
  rw [ws_c] at c3
  have B3:=Lib.hid (below_call B2.out b3)
  clear o3 b3 BA BB BC
  go_wp2_with fail
  go_ret
  exact ⟨rfl,B3.out⟩
end Go.Proofs.YtjhedldplmhmjaaDoor.Mrm
namespace Go.Proofs.YtjhedldplmhmjaaDoor.Mrm
open Go Go.RowKit
set_option linter.unusedVariables false
set_option linter.unnecessarySimpa false
set_option linter.unusedSimpArgs false
set_option maxRecDepth 100000
theorem halt_ld0 {P:Program} {ops:Array Oper} {rest:List Oper} {o:Oper} {a:Act} {w:World} {Q:Exit → Act → World → Prop} (ty:TypeId) (x:Operand) (ho:o.op=.load ty x) (hg:o.guard=none)
    (h:wpList P ops Q (o :: rest) a w ∧ True):wpList P ops Q (o :: rest) a w:=h.1
theorem info_X8 {X:Array Value} (h:X.size=8):(Tryd.prog.info? 26).map (·.size)=some X.size:=by rw [h];kernel_rfl
set_option maxHeartbeats 4000000 in
theorem reads_in (x:Xi) (N E:Int) (a:Option Addr) (len cap:Nat) (zs:List Int) (w:World) (hT:Tab3 w) (hz:BytesAt w a len cap zs) (hl:len ≤ 100)
    (RB0:∀ W,BytesAt W a len cap zs → Tab3 W → 3 ≤ W.heap.size → Calls Tryd.prog 5 #[.slice a len cap] W fun e w'=>e=.returned (.tuple #[.agg (xC x),.int .i64 N,.int .i64 E]) ∧ Below W.heap.size W w')
    (DB0:∀ W,BytesAt W a len cap zs → Calls Tryd.prog 6 #[.slice a len cap] W fun e w'=>e=.returned (.tuple #[.agg (xC x),.int .i64 N,.int .i64 E]) ∧ Below W.heap.size W w'):
    Calls Tryd.prog 3 #[.slice a len cap] w fun e w'=>e=.returned (.bool true) ∧ Below w.heap.size w w':=by
  have HT:=Lib.hid hT
  have H3:=Lib.hid hT.size
  have HZ:=Lib.hid hz
  have RB:=Lib.hid RB0
  have DB:=Lib.hid DB0
  have WK:=Lib.hid (fun W (hT:Tab3 W)=>wakes_n W hT.two)
  have SX:=Lib.hid (show (xC x).size=8 from rfl)
  have g0:decide ((100:Int) < (len:Int))=false:=by simp;omega
  have EQ:=fun w=>eq_x x x w
  rw [show eqX x x=true from eqX_iff.2 rfl] at EQ
  have ON:=Lib.hid (xC_one x)
  clear RB0 DB0 hT hz
  generalize xC x=X at *
  have BA:=Lib.hid (fun w' (b:Below w.heap.size w w')=>show BytesAt w' a len cap zs from HZ.out.below b)
  go_enter Tryd.func3,Tryd.ntmps3
  go_wp2_with fail
  refine (RB.out _ HZ.out HT.out H3.out).mono ?_
  rintro e w1 ⟨rfl,b1⟩
  have B1:=Lib.hid b1
  clear b1
  go_wp2_with (with_reducible refine (halt_store 26 _ _ rfl ?_))
  refine ⟨?_,trivial⟩
  refine wpList_store_is rfl 26 _ _ rfl _ _ rfl rfl _ _ (heap_last _ _ _ rfl) (info_X8 SX.out) (by rw [SX.out];rfl) ON.out ?_
  intro w2 S2
  have B2:=Lib.hid (S2.below (below_new B1.out _) B1.out.size)
  have R2:=Lib.hid S2.row
  clear S2
  go_wp2_with fail
  refine (DB.out _ (BA.out _ B2.out)).mono ?_
  rintro e w3 ⟨rfl,b3⟩
  have B3:=Lib.hid (below_call B2.out b3)
  have C3:=Lib.hid b3
  clear b3
  go_wp2_with (with_reducible refine (halt_store 26 _ _ rfl ?_))
  refine ⟨?_,trivial⟩
  refine wpList_store_is rfl 26 _ _ rfl _ _ rfl rfl _ _ (heap_last _ _ _ rfl) (info_X8 SX.out) (by rw [SX.out];rfl) ON.out ?_
  intro w4 S4
  have B4:=Lib.hid (S4.below (below_new B3.out _) B3.out.size)
  have R4:=Lib.hid S4.row
  have R5:=Lib.hid (heap_below (S4.below (below_new C3.out _) C3.out.size) R2.out (Nat.le_refl _))
  clear S4 C3 R2
  go_wp2_with (with_reducible refine (halt_ld0 26 _ rfl rfl ?_))
  refine ⟨?_,trivial⟩
  refine wpList_load_row rfl 26 _ rfl _ rfl _ _ _ _ R5.out Tryd.underlying26 rfl (info_X8 SX.out) ?_
  go_wp2_with (with_reducible refine (halt_ld0 26 _ rfl rfl ?_))
  refine ⟨?_,trivial⟩
  refine wpList_load_row rfl 26 _ rfl _ rfl _ _ _ _ R4.out Tryd.underlying26 rfl (info_X8 SX.out) ?_
  go_wp2_with fail
  refine (WK.out _ (HT.out.below B4.out (Nat.le_refl _))).mono ?_
  rintro e w5 ⟨rfl,b5⟩
  go_wp2_with fail
  go_ret
  exact ⟨rfl,below_call B4.out b5⟩
set_option maxHeartbeats 1000000 in
theorem reads_long (a:Option Addr) (len cap:Nat) (w:World) (hT:Tab3 w) (hl:100 < len):
    Calls Tryd.prog 3 #[.slice a len cap] w fun e w'=>e=.returned (.bool true) ∧ Below w.heap.size w w':=by
  have HT:=Lib.hid hT
  have WK:=Lib.hid (fun W (hT:Tab3 W)=>wakes_n W hT.two)
  have g0:decide ((100:Int) < (len:Int))=true:=by simp;omega
  clear hT
  go_enter Tryd.func3,Tryd.ntmps3
  go_wp2_with fail
  refine (WK.out _ HT.out).mono ?_
  rintro e w1 ⟨rfl,b1⟩
  go_wp2_with fail
  go_ret
  exact ⟨rfl,b1⟩
theorem reads_law (a:Option Addr) (len cap:Nat) (zs:List Int) (w:World) (hr:IsRow .u8 w a len cap zs) (hT:Tab3 w):
    Calls Tryd.prog 3 #[.slice a len cap] w fun e w'=>e=.returned (.bool true) ∧ Below w.heap.size w w':=by
  have hz:=BytesAt.row hr
  by_cases hl:len ≤ 100
  · have R:=fun W h hT h3=>cread_n a len cap (zs.take len) W h hT h3 (cands_ok hz.ok)
    have D:=fun W h=>dread_n a len cap (zs.take len) W h
    rw [docA_is hz.ok] at D
    cases hq:readX (zs.take len) with
    | none=>
      rw [hq] at R D
      exact reads_in zX 0 30 a len cap _ w hT hz hl R D
    | some y=>
      rw [hq] at R D
      exact reads_in y _ 0 a len cap _ w hT hz hl R D
  · exact reads_long a len cap w hT (by omega)
end Go.Proofs.YtjhedldplmhmjaaDoor.Mrm
