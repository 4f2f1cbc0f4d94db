import Derived.Test.YthmbmcckldgdiaaDoorEBk44
import Derived.Test.YthmbmcckldgdiaaDoorEBk27
import Derived.Test.YthmbmcckldgdiaaDoorEBk42
import Derived.Test.YthmbmcckldgdiaaDoorEBk43
set_option linter.unusedVariables false
set_option linter.unusedSimpArgs false
set_option linter.unnecessarySimpa false
namespace Go.Proofs.YthmbmcckldgdiaaDoor.Mrm
open Go Go.RowKit Mdl
set_option linter.unusedVariables false
set_option linter.unusedSimpArgs false
set_option linter.unnecessarySimpa false
set_option maxRecDepth 100000
theorem has_width {c:Cd} {w:Int} (h:hasB c w=true):w ∈ widthsL:=by
  unfold hasB at h
  cases hc:c.wd == 0
  · rw [hc,cond_false,Bool.and_eq_true] at h
    have h1:=h.1
    unfold widB at h1
    simp only [Bool.or_eq_true,beq_iff_eq] at h1
    simp only [widthsL,List.mem_cons,List.not_mem_nil,or_false]
    omega
  · rw [hc,cond_true,beq_iff_eq] at h
    rw [h]
    exact List.mem_cons_self ..
theorem va_bd:∀ y ∈ allOps,0 ≤ y.2.va ∧ y.2.va < 65000:=by decide +kernel
theorem valQ_bd {y:Int × Cd} (h:y ∈ allOps) {cc r:Int} (c0:0 ≤ cc) (c1:cc < 16) (r0:0 ≤ r) (r1:r < 8):0 ≤ valQ y.2 cc r ∧ valQ y.2 cc r < 65536:=by
  have:=va_bd y h
  unfold valQ
  cases y.2.lo == 15 <;> cases y.2.sh == 6 <;> simp only [cond_true,cond_false] <;> omega
theorem front_more {y:Int × Cd} (h:y ∈ allOps) {cc r:Int} (c0:0 ≤ cc) (c1:cc < 16) (r0:0 ≤ r) (r1:r < 8):isF (valQ y.2 cc r) y.2=true ∧ (y.2.lo=15 → valQ y.2 cc r % 16=cc) ∧ (y.2.sh=6 → valQ y.2 cc r % 8=r):=by
  have f:=front_is h c0 c1 r0 r1
  unfold frontB at f
  rw [Bool.and_eq_true] at f
  have f2:=f.2
  rw [Bool.and_eq_true,Bool.and_eq_true] at f2
  refine ⟨f2.1,fun e=>?_,fun e=>?_⟩
  · have:=f2.2.1
    rw [show (y.2.lo == 15)=true from by rw [e];rfl] at this
    simpa using this
  · have:=f2.2.2
    rw [show (y.2.sh == 6)=true from by rw [e];rfl] at this
    simpa using this
theorem cand_of {x:Xi} {c:Cd} (t:List Int) (hmem:(x.op,c) ∈ allOps) (hhas:hasB c x.w=true) (hx:x=filledP x.op x.w c (partsP x c)) (g0:0 ≤ (partsP x c).reg) (g1:(partsP x c).reg < 16) (m0:0 ≤ (partsP x c).rm) (m1:(partsP x c).rm < 16) (c0:0 ≤ (partsP x c).cc) (c1:(partsP x c).cc < 16)
    (key:partsF ⟨x.w == 64,(partsP x c).reg / 8 * 8,(partsP x c).rm / 8 * 8,valQ c (partsP x c).cc ((partsP x c).rm % 8),operandP c (partsP x c) ++ (immP c (partsP x c) ++ t)⟩ c=partsP x c):x ∈ cands (encP x.w c (partsP x c) ++ t):=by
  have hf:=find_enc (w:=x.w) hmem g0 g1 m0 m1 c0 c1 t
  have hi:=(front_more hmem c0 c1 (show 0 ≤ (partsP x c).rm % 8 by omega) (by omega)).1
  unfold cands
  rw [hf]
  refine List.mem_flatMap.2 ⟨(x.op,c),hmem,?_⟩
  unfold candC
  rw [if_pos hi]
  refine List.mem_flatMap.2 ⟨x.w,has_width hhas,?_⟩
  unfold candW
  simp only [key]
  rw [if_pos ⟨hhas,trivial,by rw [← hx]⟩,← hx]
  exact List.mem_singleton.2 rfl
theorem cand_mem {x:Xi} (hX:XOk x) (hm:mayX x=true) (t:List Int):x ∈ cands (bytesX x ++ t):=by
  have e:=encX_is x hX hm
  have hmp:mayP x=true:=by rw [mayP_is];exact hm
  unfold mayP at hmp
  rw [Bool.and_eq_true,Bool.and_eq_true] at hmp
  obtain ⟨h1,h2,h3⟩:=hmp
  obtain ⟨hmem,hhas⟩:=code_mem h1
  rw [← e]
  unfold encX
  clear e h1 hX hm
  generalize (codeOfP x.op x.w).1=c at *
  have hx:=eqX_iff.1 h2
  clear h2
  have hwd:=has_width hhas
  have hall:=allC_cases c (allOps_in hmem)
  obtain ⟨dgl,dgh,dg6⟩:=dg_bd _ hmem
  unfold fitsP at h3
  simp only [Bool.and_eq_true] at h3
  obtain ⟨r1,r2,r3,r4,r5⟩:=h3
  rw [regB_iff] at r1 r2 r3
  obtain ⟨op,w,dst,src,base,disp,imm,cc⟩:=x
  obtain ⟨sh,at_,va,dg,lo⟩:=c
  simp only at hall r1 r2 r3 dgl dgh dg6
  simp only [widthsL,List.mem_cons,List.not_mem_nil,or_false] at hwd
  rcases hall with ⟨rfl,rfl⟩ | ⟨rfl,rfl⟩ | ⟨rfl,rfl⟩ | ⟨rfl,rfl⟩ | ⟨rfl,rfl⟩ | ⟨rfl,rfl⟩ | ⟨rfl,rfl⟩ | ⟨rfl,rfl⟩ | ⟨rfl,rfl⟩ | ⟨rfl,rfl⟩ | ⟨rfl,rfl⟩ | ⟨rfl,rfl⟩ | ⟨rfl,rfl⟩ | ⟨rfl,rfl⟩
  · have hx:(⟨op,w,dst,src,base,disp,imm,cc⟩:Xi)=⟨op,w,dst,src,0,0,0,0⟩:=hx
    have hx0:=hx
    simp only [Xi.mk.injEq,true_and,and_true] at hx
    have hcc:0 ≤ cc ∧ cc < 16:=by omega
    have r5:(fourB imm && fourB disp)=true:=r5
    rw [Bool.and_eq_true] at r5
    have vb:=valQ_bd hmem hcc.1 hcc.2 (show 0 ≤ dst % 8 by omega) (by omega)
    have vm:=front_more hmem hcc.1 hcc.2 (show 0 ≤ dst % 8 by omega) (by omega)
    exact cand_of t hmem hhas hx0 (show 0 ≤ src by omega) (show src < 16 by omega) (show 0 ≤ dst by omega) (show dst < 16 by omega) hcc.1 hcc.2 (key_1_0 op w dst src base disp imm cc at_ va dg t (w == 64) (by omega) (by omega) (by omega) (by omega) (by omega) (by omega) (by omega) vb.1 vb.2)
  · have hx:(⟨op,w,dst,src,base,disp,imm,cc⟩:Xi)=⟨op,w,dst,0,0,0,imm,0⟩:=hx
    have hx0:=hx
    simp only [Xi.mk.injEq,true_and,and_true] at hx
    have hcc:0 ≤ cc ∧ cc < 16:=by omega
    have r5:(fourB imm && fourB disp)=true:=r5
    rw [Bool.and_eq_true] at r5
    have vb:=valQ_bd hmem hcc.1 hcc.2 (show 0 ≤ dst % 8 by omega) (by omega)
    have vm:=front_more hmem hcc.1 hcc.2 (show 0 ≤ dst % 8 by omega) (by omega)
    exact cand_of t hmem hhas hx0 (show 0 ≤ dg by omega) (show dg < 16 by omega) (show 0 ≤ dst by omega) (show dst < 16 by omega) hcc.1 hcc.2 (key_3_0 op w dst src base disp imm cc at_ va dg t (w == 64) (by omega) (by omega) dgl dgh (by omega) r5.1 (by omega) vb.1 vb.2)
  · have hx:(⟨op,w,dst,src,base,disp,imm,cc⟩:Xi)=⟨op,w,dst,src,0,0,0,0⟩:=hx
    have hx0:=hx
    simp only [Xi.mk.injEq,true_and,and_true] at hx
    have hcc:0 ≤ cc ∧ cc < 16:=by omega
    have r5:(fourB imm && fourB disp)=true:=r5
    rw [Bool.and_eq_true] at r5
    have vb:=valQ_bd hmem hcc.1 hcc.2 (show 0 ≤ src % 8 by omega) (by omega)
    have vm:=front_more hmem hcc.1 hcc.2 (show 0 ≤ src % 8 by omega) (by omega)
    exact cand_of t hmem hhas hx0 (show 0 ≤ dst by omega) (show dst < 16 by omega) (show 0 ≤ src by omega) (show src < 16 by omega) hcc.1 hcc.2 (key_2_0 op w dst src base disp imm cc at_ va dg t (w == 64) (by omega) (by omega) (by omega) (by omega) (by omega) (by omega) (by omega) vb.1 vb.2)
  · have hx:(⟨op,w,dst,src,base,disp,imm,cc⟩:Xi)=⟨op,w,dst,0,0,0,imm,0⟩:=hx
    have hx0:=hx
    simp only [Xi.mk.injEq,true_and,and_true] at hx
    have hcc:0 ≤ cc ∧ cc < 16:=by omega
    have r5:(decide (0 ≤ imm) && decide (imm < w))=true:=r5
    simp only [Bool.and_eq_true,decide_eq_true_eq] at r5
    have vb:=valQ_bd hmem hcc.1 hcc.2 (show 0 ≤ dst % 8 by omega) (by omega)
    have vm:=front_more hmem hcc.1 hcc.2 (show 0 ≤ dst % 8 by omega) (by omega)
    exact cand_of t hmem hhas hx0 (show 0 ≤ dg by omega) (show dg < 16 by omega) (show 0 ≤ dst by omega) (show dst < 16 by omega) hcc.1 hcc.2 (key_4_0 op w dst src base disp imm cc at_ va dg t (w == 64) (by omega) (by omega) dgl dgh (by omega) (by omega) (by omega) vb.1 vb.2)
  · have hx:(⟨op,w,dst,src,base,disp,imm,cc⟩:Xi)=⟨op,w,dst,0,0,0,0,0⟩:=hx
    have hx0:=hx
    simp only [Xi.mk.injEq,true_and,and_true] at hx
    have hcc:0 ≤ cc ∧ cc < 16:=by omega
    have r5:(fourB imm && fourB disp)=true:=r5
    rw [Bool.and_eq_true] at r5
    have vb:=valQ_bd hmem hcc.1 hcc.2 (show 0 ≤ dst % 8 by omega) (by omega)
    have vm:=front_more hmem hcc.1 hcc.2 (show 0 ≤ dst % 8 by omega) (by omega)
    exact cand_of t hmem hhas hx0 (show 0 ≤ dg by omega) (show dg < 16 by omega) (show 0 ≤ dst by omega) (show dst < 16 by omega) hcc.1 hcc.2 (key_5_0 op w dst src base disp imm cc at_ va dg t (w == 64) (by omega) (by omega) dgl dgh (by omega) (by omega) (by omega) vb.1 vb.2)
  · have hx:(⟨op,w,dst,src,base,disp,imm,cc⟩:Xi)=⟨op,w,dst,src,0,0,0,cc⟩:=hx
    have hx0:=hx
    simp only [Xi.mk.injEq,true_and,and_true] at hx
    have hcc:0 ≤ cc ∧ cc < 16:=by
      have r4:(!(true && !(ccB cc)))=true:=r4
      simp only [Bool.true_and,Bool.not_not] at r4
      unfold ccB at r4
      simp only [Bool.or_eq_true,Bool.and_eq_true,decide_eq_true_eq] at r4
      omega
    have r5:(fourB imm && fourB disp)=true:=r5
    rw [Bool.and_eq_true] at r5
    have vb:=valQ_bd hmem hcc.1 hcc.2 (show 0 ≤ src % 8 by omega) (by omega)
    have vm:=front_more hmem hcc.1 hcc.2 (show 0 ≤ src % 8 by omega) (by omega)
    exact cand_of t hmem hhas hx0 (show 0 ≤ dst by omega) (show dst < 16 by omega) (show 0 ≤ src by omega) (show src < 16 by omega) hcc.1 hcc.2 (key_2_15 op w dst src base disp imm cc at_ va dg t (w == 64) (by omega) (by omega) (by omega) (by omega) (by omega) (by omega) vb.1 vb.2 (vm.2.1 rfl))
  · have hx:(⟨op,w,dst,src,base,disp,imm,cc⟩:Xi)=⟨op,w,dst,0,base,disp,0,0⟩:=hx
    have hx0:=hx
    simp only [Xi.mk.injEq,true_and,and_true] at hx
    have hcc:0 ≤ cc ∧ cc < 16:=by omega
    have r5:(fourB imm && fourB disp)=true:=r5
    rw [Bool.and_eq_true] at r5
    have vb:=valQ_bd hmem hcc.1 hcc.2 (show 0 ≤ base % 8 by omega) (by omega)
    have vm:=front_more hmem hcc.1 hcc.2 (show 0 ≤ base % 8 by omega) (by omega)
    exact cand_of t hmem hhas hx0 (show 0 ≤ dst by omega) (show dst < 16 by omega) (show 0 ≤ base by omega) (show base < 16 by omega) hcc.1 hcc.2 (key_7_0 op w dst src base disp imm cc at_ va dg t (w == 64) (by omega) (by omega) (by omega) (by omega) r5.2 (by omega) (by omega) vb.1 vb.2)
  · have hx:(⟨op,w,dst,src,base,disp,imm,cc⟩:Xi)=⟨op,w,0,src,base,disp,0,0⟩:=hx
    have hx0:=hx
    simp only [Xi.mk.injEq,true_and,and_true] at hx
    have hcc:0 ≤ cc ∧ cc < 16:=by omega
    have r5:(fourB imm && fourB disp)=true:=r5
    rw [Bool.and_eq_true] at r5
    have vb:=valQ_bd hmem hcc.1 hcc.2 (show 0 ≤ base % 8 by omega) (by omega)
    have vm:=front_more hmem hcc.1 hcc.2 (show 0 ≤ base % 8 by omega) (by omega)
    exact cand_of t hmem hhas hx0 (show 0 ≤ src by omega) (show src < 16 by omega) (show 0 ≤ base by omega) (show base < 16 by omega) hcc.1 hcc.2 (key_8_0 op w dst src base disp imm cc at_ va dg t (w == 64) (by omega) (by omega) (by omega) (by omega) r5.2 (by omega) (by omega) vb.1 vb.2)
  · have hx:(⟨op,w,dst,src,base,disp,imm,cc⟩:Xi)=⟨op,w,0,0,0,0,imm,0⟩:=hx
    have hx0:=hx
    simp only [Xi.mk.injEq,true_and,and_true] at hx
    have hcc:0 ≤ cc ∧ cc < 16:=by omega
    have r5:(fourB imm && fourB disp)=true:=r5
    rw [Bool.and_eq_true] at r5
    have vb:=valQ_bd hmem hcc.1 hcc.2 (show 0 ≤ 0 % 8 by omega) (by omega)
    have vm:=front_more hmem hcc.1 hcc.2 (show 0 ≤ 0 % 8 by omega) (by omega)
    exact cand_of t hmem hhas hx0 (show 0 ≤ 0 by omega) (show 0 < 16 by omega) (show 0 ≤ 0 by omega) (show 0 < 16 by omega) hcc.1 hcc.2 (key_9_0 op w dst src base disp imm cc at_ va dg t (w == 64) (by omega) r5.1 (by omega) vb.1 vb.2)
  · have hx:(⟨op,w,dst,src,base,disp,imm,cc⟩:Xi)=⟨op,w,0,0,0,0,imm,cc⟩:=hx
    have hx0:=hx
    simp only [Xi.mk.injEq,true_and,and_true] at hx
    have hcc:0 ≤ cc ∧ cc < 16:=by
      have r4:(!(true && !(ccB cc)))=true:=r4
      simp only [Bool.true_and,Bool.not_not] at r4
      unfold ccB at r4
      simp only [Bool.or_eq_true,Bool.and_eq_true,decide_eq_true_eq] at r4
      omega
    have r5:(fourB imm && fourB disp)=true:=r5
    rw [Bool.and_eq_true] at r5
    have vb:=valQ_bd hmem hcc.1 hcc.2 (show 0 ≤ 0 % 8 by omega) (by omega)
    have vm:=front_more hmem hcc.1 hcc.2 (show 0 ≤ 0 % 8 by omega) (by omega)
    exact cand_of t hmem hhas hx0 (show 0 ≤ 0 by omega) (show 0 < 16 by omega) (show 0 ≤ 0 by omega) (show 0 < 16 by omega) hcc.1 hcc.2 (key_9_15 op w dst src base disp imm cc at_ va dg t (w == 64) (by omega) r5.1 vb.1 vb.2 (vm.2.1 rfl))
  · have hx:(⟨op,w,dst,src,base,disp,imm,cc⟩:Xi)=⟨op,w,0,0,0,0,0,0⟩:=hx
    have hx0:=hx
    simp only [Xi.mk.injEq,true_and,and_true] at hx
    have hcc:0 ≤ cc ∧ cc < 16:=by omega
    have r5:(fourB imm && fourB disp)=true:=r5
    rw [Bool.and_eq_true] at r5
    have vb:=valQ_bd hmem hcc.1 hcc.2 (show 0 ≤ 0 % 8 by omega) (by omega)
    have vm:=front_more hmem hcc.1 hcc.2 (show 0 ≤ 0 % 8 by omega) (by omega)
    exact cand_of t hmem hhas hx0 (show 0 ≤ 0 by omega) (show 0 < 16 by omega) (show 0 ≤ 0 by omega) (show 0 < 16 by omega) hcc.1 hcc.2 (key_0_0 op w dst src base disp imm cc at_ va dg t (w == 64) (by omega) (by omega) (by omega) vb.1 vb.2)
  · have hx:(⟨op,w,dst,src,base,disp,imm,cc⟩:Xi)=⟨op,w,dst,0,0,0,imm,0⟩:=hx
    have hx0:=hx
    simp only [Xi.mk.injEq,true_and,and_true] at hx
    have hcc:0 ≤ cc ∧ cc < 16:=by omega
    have r5:(fourB imm && fourB disp)=true:=r5
    rw [Bool.and_eq_true] at r5
    have vb:=valQ_bd hmem hcc.1 hcc.2 (show 0 ≤ dst % 8 by omega) (by omega)
    have vm:=front_more hmem hcc.1 hcc.2 (show 0 ≤ dst % 8 by omega) (by omega)
    exact cand_of t hmem hhas hx0 (show 0 ≤ dg by omega) (show dg < 16 by omega) (show 0 ≤ dst by omega) (show dst < 16 by omega) hcc.1 hcc.2 (key_6_7 op w dst src base disp imm cc at_ va dg t (w == 64) (by omega) (by omega) dgl dgh (by omega) r5.1 (by omega) vb.1 vb.2 (vm.2.2 rfl) (dg6 rfl))
  · have hx:(⟨op,w,dst,src,base,disp,imm,cc⟩:Xi)=⟨op,w,0,0,0,0,imm,0⟩:=hx
    have hx0:=hx
    simp only [Xi.mk.injEq,true_and,and_true] at hx
    have hcc:0 ≤ cc ∧ cc < 16:=by omega
    have r5:oneB imm=true:=r5
    unfold oneB at r5
    simp only [Bool.and_eq_true,decide_eq_true_eq] at r5
    have vb:=valQ_bd hmem hcc.1 hcc.2 (show 0 ≤ 0 % 8 by omega) (by omega)
    have vm:=front_more hmem hcc.1 hcc.2 (show 0 ≤ 0 % 8 by omega) (by omega)
    exact cand_of t hmem hhas hx0 (show 0 ≤ 0 by omega) (show 0 < 16 by omega) (show 0 ≤ 0 by omega) (show 0 < 16 by omega) hcc.1 hcc.2 (key_10_0 op w dst src base disp imm cc at_ va dg t (w == 64) (by omega) r5 (by omega) vb.1 vb.2)
  · have hx:(⟨op,w,dst,src,base,disp,imm,cc⟩:Xi)=⟨op,w,0,0,0,0,imm,cc⟩:=hx
    have hx0:=hx
    simp only [Xi.mk.injEq,true_and,and_true] at hx
    have hcc:0 ≤ cc ∧ cc < 16:=by
      have r4:(!(true && !(ccB cc)))=true:=r4
      simp only [Bool.true_and,Bool.not_not] at r4
      unfold ccB at r4
      simp only [Bool.or_eq_true,Bool.and_eq_true,decide_eq_true_eq] at r4
      omega
    have r5:oneB imm=true:=r5
    unfold oneB at r5
    simp only [Bool.and_eq_true,decide_eq_true_eq] at r5
    have vb:=valQ_bd hmem hcc.1 hcc.2 (show 0 ≤ 0 % 8 by omega) (by omega)
    have vm:=front_more hmem hcc.1 hcc.2 (show 0 ≤ 0 % 8 by omega) (by omega)
    exact cand_of t hmem hhas hx0 (show 0 ≤ 0 by omega) (show 0 < 16 by omega) (show 0 ≤ 0 by omega) (show 0 < 16 by omega) hcc.1 hcc.2 (key_10_15 op w dst src base disp imm cc at_ va dg t (w == 64) (by omega) r5 vb.1 vb.2 (vm.2.1 rfl))
theorem readX_own {x:Xi} (hX:XOk x) (hm:mayX x=true) {t:List Int} (hz:Oks (bytesX x ++ t)):readX (bytesX x ++ t)=some x:=by
  have hc:=cand_mem hX hm t
  have hok:okX (bytesX x ++ t) x=true:=by
    unfold okX
    rw [hm,Bool.true_and,decide_eq_true_eq]
    exact List.take_left
  unfold readX
  cases hf:(cands (bytesX x ++ t)).find? (okX (bytesX x ++ t)) with
  | none=>exact absurd hok (by rw [List.find?_eq_none] at hf;exact hf x hc)
  | some y=>
    have h1:=List.find?_some hf
    have h2:=cands_ok hz y (List.mem_of_find?_eq_some hf)
    unfold okX at h1
    rw [Bool.and_eq_true,decide_eq_true_eq] at h1
    have e:bytesX y ++ (bytesX x ++ t).drop (bytesX y).length=bytesX x ++ t:=by
      conv=>lhs;lhs;rw [← h1.2]
      exact List.take_append_drop _ _
    rw [bytes_apart h2 hX h1.1 hm e]
theorem readX_some {zs:List Int} {x:Xi} (hz:Oks zs) (h:readX zs=some x):XOk x ∧ mayX x=true ∧ zs.take (bytesX x).length=bytesX x:=by
  have h1:=List.find?_some h
  unfold okX at h1
  rw [Bool.and_eq_true,decide_eq_true_eq] at h1
  exact ⟨cands_ok hz x (List.mem_of_find?_eq_some h),h1.1,h1.2⟩
end Go.Proofs.YthmbmcckldgdiaaDoor.Mrm
namespace Go.Proofs.YthmbmcckldgdiaaDoor.Mrm
open Go Go.RowKit
set_option linter.unusedVariables false
set_option linter.unnecessarySimpa false
set_option linter.unusedSimpArgs false
set_option maxRecDepth 100000
theorem cread_own {x:Xi} (hX:XOk x) (hm:mayX x=true) {zs:List Int} (W:World) {a:Option Addr} {n c:Nat} (h:BytesAt W a n c (bytesX x ++ zs)) (hT:Tab3 W) (h3:3 ≤ W.heap.size):
    Calls Tryd.prog 8 #[.slice a n c] W fun e w'=>e=.returned (.tuple #[.agg (xC x),.int .i64 ((bytesX x).length:Int),.int .i64 0]) ∧ Below W.heap.size W w':=by
  have r:=cread_n a n c (bytesX x ++ zs) W h hT h3 (cands_ok h.ok)
  rw [readX_own hX hm h.ok] at r
  exact r
theorem readX_short {x:Xi} (hX:XOk x) (hm:mayX x=true) {k:Nat} (hk:k < (bytesX x).length) (ok:Oks ((bytesX x).take k)):readX ((bytesX x).take k)=none:=by
  cases h:readX ((bytesX x).take k) with
  | none=>rfl
  | some y=>
    obtain ⟨hY,hy,e⟩:=readX_some ok h
    have hl:=congrArg List.length e
    simp only [List.take_take,List.length_take] at hl
    have e2:bytesX y ++ (bytesX x).drop (bytesX y).length=bytesX x ++ []:=by
      rw [List.append_nil]
      have e3:(bytesX x).take (bytesX y).length=bytesX y:=by
        rw [List.take_take,Nat.min_eq_left (by omega)] at e
        exact e
      conv=>lhs;lhs;rw [← e3]
      exact List.take_append_drop _ _
    have:=bytes_apart hY hX hy hm e2
    subst this
    omega
theorem cread_short {x:Xi} (hX:XOk x) (hm:mayX x=true) {k:Nat} (hk:k < (bytesX x).length) (W:World) {a:Option Addr} {c:Nat} (h:BytesAt W a k c ((bytesX x).take k)) (hT:Tab3 W) (h3:3 ≤ W.heap.size):
    Calls Tryd.prog 8 #[.slice a k c] W fun e w'=>e=.returned (.tuple #[.agg (xC zX),.int .i64 0,.int .i64 30]) ∧ Below W.heap.size W w':=by
  have r:=cread_n a k c ((bytesX x).take k) W h hT h3 (cands_ok h.ok)
  rw [readX_short hX hm hk h.ok] at r
  exact r
theorem cread_any {zs:List Int} (W:World) {a:Option Addr} {n c:Nat} (h:BytesAt W a n c zs) (hT:Tab3 W) (h3:3 ≤ W.heap.size) (r:Option Xi) (hr:readX zs=r):
    Calls Tryd.prog 8 #[.slice a n c] W fun e w'=>e=.returned (readA r) ∧ Below W.heap.size W w':=by
  have q:=cread_n a n c zs W h hT h3 (cands_ok h.ok)
  rw [hr] at q
  exact q
end Go.Proofs.YthmbmcckldgdiaaDoor.Mrm
