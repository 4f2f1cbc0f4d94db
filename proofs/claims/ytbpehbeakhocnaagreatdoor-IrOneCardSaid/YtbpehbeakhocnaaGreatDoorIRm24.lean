import Derived.Test.YtbpehbeakhocnaaGreatDoorIRm23
set_option maxHeartbeats 2000000
set_option linter.unusedVariables false
set_option linter.unusedSimpArgs false
set_option linter.unnecessarySimpa false
namespace Go.Proofs.YtbpehbeakhocnaaGreatDoor.Mrm
open Go Go.RowKit
set_option maxRecDepth 100000
theorem parts_cc (x:Xi) (c:Cd):(partsP x c).cc=x.cc ∧ (partsP x c).imm=x.imm ∧ (partsP x c).disp=x.disp:=by
  unfold partsP
  cases c.sh == 1 <;> cases c.sh == 2 <;> cases c.sh == 3 <;> cases c.sh == 4 <;> cases c.sh == 5 <;> cases c.sh == 6 <;> cases c.sh == 7 <;> cases c.sh == 8 <;> exact ⟨rfl,rfl,rfl⟩
theorem allC_dg:∀ c ∈ allC,0 ≤ c.dg ∧ c.dg < 16:=by decide +kernel
theorem parts_both (x:Xi) (c:Cd) (hc:c ∈ allC) (hd:regB x.dst=true) (hs:regB x.src=true) (hb:regB x.base=true):bothB (partsP x c).reg (partsP x c).rm=true:=by
  have g:regB c.dg=true:=regB_iff.2 (allC_dg c hc)
  have z:regB 0=true:=rfl
  unfold partsP bothB
  cases c.sh == 1 <;> cases c.sh == 2 <;> cases c.sh == 3 <;> cases c.sh == 4 <;> cases c.sh == 5 <;> cases c.sh == 6 <;> cases c.sh == 7 <;> cases c.sh == 8 <;> simp [g,z,hd,hs,hb]
theorem fit4 (v:Int):fitB v 4=fourB v:=rfl
theorem fit1_one {v:Int} (h:oneB v=true):fitB v 1=true:=h
theorem fit1_cnt {v w:Int} (h:(decide (0 ≤ v) && decide (v < w))=true) (hw:w ≤ 127):fitB v 1=true:=by
  show (decide (-128 ≤ v) && decide (v < 128))=true
  simp only [Bool.and_eq_true,decide_eq_true_eq] at h ⊢
  omega
theorem enc_any (x:Xi) (hX:XOk x) (hm:mayP x=true) (W:World) (hT:Tabs W):Calls Tryz.prog 106 #[.agg (xC x)] W (RetV (encX x) W):=by
  have mc:=codeOf_mem x.op x.w
  unfold mayP at hm
  unfold encX
  cases hr:codeOfP x.op x.w with
  | mk c ok=>
    rw [hr] at hm mc
    simp only [Bool.and_eq_true] at hm mc ⊢
    obtain ⟨hok,_,hf⟩:=hm
    subst hok
    unfold fitsP at hf
    simp only [Bool.and_eq_true] at hf
    obtain ⟨hd,hs,hb,hc,hn⟩:=hf
    obtain ⟨p1,p2,p3⟩:=parts_cc x c
    have pb:=parts_both x c mc hd hs hb
    have hcc:c.lo=15 → 0 ≤ (partsP x c).cc ∧ (partsP x c).cc < 16:=fun h=>by
      rw [h] at hc
      simp only [beq_self_eq_true,Bool.true_and,Bool.not_not] at hc
      rw [p1]
      unfold ccB at hc
      simp only [Bool.or_eq_true,Bool.and_eq_true,decide_eq_true_eq] at hc
      omega
    have k:=allC_cases c mc
    obtain ⟨op,wd,dst,src,base,disp,imm,cc⟩:=x
    cases hp:partsP ⟨op,wd,dst,src,base,disp,imm,cc⟩ c with
    | mk reg rm pd pi pc=>
      rw [hp] at p1 p2 p3 pb hcc
      simp only at p1 p2 p3 pb hcc hr
      obtain rfl:=p1.symm
      obtain rfl:=p2.symm
      obtain rfl:=p3.symm
      obtain ⟨sh,at_,va,dg,lo⟩:=c
      simp only at k hn hcc
      have ho:=hX.op
      have hdi:=hX.disp
      have hii:=hX.imm
      simp only at ho hdi hii
      have hw:=hX.w
      simp only at hw
      unfold encP operandP immP
      rcases k with ⟨rfl,rfl⟩ | ⟨rfl,rfl⟩ | ⟨rfl,rfl⟩ | ⟨rfl,rfl⟩ | ⟨rfl,rfl⟩ | ⟨rfl,rfl⟩ | ⟨rfl,rfl⟩ | ⟨rfl,rfl⟩ | ⟨rfl,rfl⟩ | ⟨rfl,rfl⟩ | ⟨rfl,rfl⟩ | ⟨rfl,rfl⟩ | ⟨rfl,rfl⟩ | ⟨rfl,rfl⟩
      · have hn2:fourB imm=true ∧ fourB disp=true:=(Bool.and_eq_true _ _).mp hn
        have L:=enc_010 op wd dst src base disp imm cc 1 at_ va dg 0 reg rm disp imm cc W rfl rfl rfl hr hp pb hcc ho hdi hii hT
        rw [show numL imm (immN 1).toNat=[] from rfl,List.append_nil]
        skip
        exact L
      · have hn2:fourB imm=true ∧ fourB disp=true:=(Bool.and_eq_true _ _).mp hn
        have L:=enc_014 op wd dst src base disp imm cc 3 at_ va dg 0 reg rm disp imm cc W rfl rfl rfl hr hp pb hcc ho hdi hii (show fourB imm=true from hn2.1) hT
        skip
        skip
        exact L
      · have hn2:fourB imm=true ∧ fourB disp=true:=(Bool.and_eq_true _ _).mp hn
        have L:=enc_010 op wd dst src base disp imm cc 2 at_ va dg 0 reg rm disp imm cc W rfl rfl rfl hr hp pb hcc ho hdi hii hT
        rw [show numL imm (immN 2).toNat=[] from rfl,List.append_nil]
        skip
        exact L
      · skip
        have L:=enc_011 op wd dst src base disp imm cc 4 at_ va dg 0 reg rm disp imm cc W rfl rfl rfl hr hp pb hcc ho hdi hii (fit1_cnt hn (by omega)) hT
        skip
        skip
        exact L
      · have hn2:fourB imm=true ∧ fourB disp=true:=(Bool.and_eq_true _ _).mp hn
        have L:=enc_010 op wd dst src base disp imm cc 5 at_ va dg 0 reg rm disp imm cc W rfl rfl rfl hr hp pb hcc ho hdi hii hT
        rw [show numL imm (immN 5).toNat=[] from rfl,List.append_nil]
        skip
        exact L
      · have hn2:fourB imm=true ∧ fourB disp=true:=(Bool.and_eq_true _ _).mp hn
        have L:=enc_010 op wd dst src base disp imm cc 2 at_ va dg 15 reg rm disp imm cc W rfl rfl rfl hr hp pb hcc ho hdi hii hT
        rw [show numL imm (immN 2).toNat=[] from rfl,List.append_nil]
        skip
        exact L
      · have hn2:fourB imm=true ∧ fourB disp=true:=(Bool.and_eq_true _ _).mp hn
        have L:=enc_110 op wd dst src base disp imm cc 7 at_ va dg 0 reg rm disp imm cc W rfl rfl hr hp pb hcc ho hdi hii (show fourB disp=true from hn2.2) hT
        rw [show numL imm (immN 7).toNat=[] from rfl,List.append_nil]
        skip
        exact L
      · have hn2:fourB imm=true ∧ fourB disp=true:=(Bool.and_eq_true _ _).mp hn
        have L:=enc_110 op wd dst src base disp imm cc 8 at_ va dg 0 reg rm disp imm cc W rfl rfl hr hp pb hcc ho hdi hii (show fourB disp=true from hn2.2) hT
        rw [show numL imm (immN 8).toNat=[] from rfl,List.append_nil]
        skip
        exact L
      · have hn2:fourB imm=true ∧ fourB disp=true:=(Bool.and_eq_true _ _).mp hn
        have L:=enc_004 op wd dst src base disp imm cc 9 at_ va dg 0 reg rm disp imm cc W rfl rfl rfl hr hp pb hcc ho hdi hii (show fourB imm=true from hn2.1) hT
        skip
        rw [show (bif inMemB 9 then memL reg rm disp else bif inOpB 9 then regL reg rm else [])=[] from rfl,List.append_nil]
        exact L
      · have hn2:fourB imm=true ∧ fourB disp=true:=(Bool.and_eq_true _ _).mp hn
        have L:=enc_004 op wd dst src base disp imm cc 9 at_ va dg 15 reg rm disp imm cc W rfl rfl rfl hr hp pb hcc ho hdi hii (show fourB imm=true from hn2.1) hT
        skip
        rw [show (bif inMemB 9 then memL reg rm disp else bif inOpB 9 then regL reg rm else [])=[] from rfl,List.append_nil]
        exact L
      · have hn2:fourB imm=true ∧ fourB disp=true:=(Bool.and_eq_true _ _).mp hn
        have L:=enc_000 op wd dst src base disp imm cc 0 at_ va dg 0 reg rm disp imm cc W rfl rfl rfl hr hp pb hcc ho hdi hii hT
        rw [show numL imm (immN 0).toNat=[] from rfl,List.append_nil]
        rw [show (bif inMemB 0 then memL reg rm disp else bif inOpB 0 then regL reg rm else [])=[] from rfl,List.append_nil]
        exact L
      · have hn2:fourB imm=true ∧ fourB disp=true:=(Bool.and_eq_true _ _).mp hn
        have L:=enc_004 op wd dst src base disp imm cc 6 at_ va dg 7 reg rm disp imm cc W rfl rfl rfl hr hp pb hcc ho hdi hii (show fourB imm=true from hn2.1) hT
        skip
        rw [show (bif inMemB 6 then memL reg rm disp else bif inOpB 6 then regL reg rm else [])=[] from rfl,List.append_nil]
        exact L
      · skip
        have L:=enc_001 op wd dst src base disp imm cc 10 at_ va dg 0 reg rm disp imm cc W rfl rfl rfl hr hp pb hcc ho hdi hii (fit1_one hn) hT
        skip
        rw [show (bif inMemB 10 then memL reg rm disp else bif inOpB 10 then regL reg rm else [])=[] from rfl,List.append_nil]
        exact L
      · skip
        have L:=enc_001 op wd dst src base disp imm cc 10 at_ va dg 15 reg rm disp imm cc W rfl rfl rfl hr hp pb hcc ho hdi hii (fit1_one hn) hT
        skip
        rw [show (bif inMemB 10 then memL reg rm disp else bif inOpB 10 then regL reg rm else [])=[] from rfl,List.append_nil]
        exact L
theorem may_parts' {x:Xi} (h:mayX x=true):(0 ≤ x.op ∧ x.op < 32) ∧ (0 ≤ x.dst ∧ x.dst < 16) ∧ (0 ≤ x.src ∧ x.src < 16) ∧ (0 ≤ x.base ∧ x.base < 16):=by
  unfold mayX regB at h
  simp only [Bool.and_eq_true,bne_iff_ne,ne_eq,decide_eq_true_eq] at h
  obtain ⟨h0,h1,h2,h3,h4,h5,h6,h7⟩:=h
  refine ⟨?_,by omega,by omega,by omega⟩
  by_cases hh:0 ≤ x.op ∧ x.op < 32
  · exact hh
  · exact absurd (by unfold clsI;rw [if_neg hh]) h0
theorem may_rng {x:Xi} (hX:XOk x) (h:mayX x=true):(0 ≤ x.op ∧ x.op < 32) ∧ (0 ≤ x.dst ∧ x.dst < 16) ∧ (0 ≤ x.src ∧ x.src < 16) ∧ (0 ≤ x.base ∧ x.base < 16) ∧ ((clsI x.op=5 ∨ clsI x.op=9) → 0 ≤ x.cc ∧ x.cc < 16) ∧ (clsI x.op=3 → 0 ≤ x.imm ∧ x.imm < x.w):=by
  obtain ⟨h0,h1,h2,h3⟩:=may_parts' h
  refine ⟨h0,h1,h2,h3,fun hk=>?_,fun hk=>?_⟩
  · unfold mayX at h
    simp only [Bool.and_eq_true] at h
    have hb:=h.2.2.2.2.2.2.2
    have hc:ccB x.cc=true:=by
      rcases hk with hk | hk <;> rw [hk] at hb <;> unfold clsB at hb <;> simp at hb <;> exact hb.2
    unfold ccB at hc
    simp only [Bool.or_eq_true,Bool.and_eq_true,decide_eq_true_eq] at hc
    omega
  · unfold mayX at h
    simp only [Bool.and_eq_true] at h
    have hb:=h.2.2.2.2.2.2.2
    rw [hk] at hb
    unfold clsB at hb
    simp at hb
    exact hb.2
theorem encX_is (x:Xi) (hX:XOk x) (h:mayX x=true):encX x=bytesX x:=by
  obtain ⟨ho,hd,hs,hb,hc,hi⟩:=may_rng hX h
  have hok:(codeOfP x.op x.w).2=true:=by
    rw [← mayP_is] at h
    unfold mayP at h
    simp only [Bool.and_eq_true] at h
    exact h.1
  rcases w_cases x.w with hw | hw | hw | hw | hw | hw
  case inr.inr.inr.inr.inr=>rw [code_out _ _ hw.1 hw.2] at hok;exact absurd hok (by decide)
  case inl=>
    obtain ⟨op,wd,dst,src,base,disp,imm,cc⟩:=x
    simp only at hw ho hd hs hb hc hi hok
    subst hw
    obtain rfl | rfl | rfl | rfl | rfl | rfl | rfl | rfl | rfl | rfl | rfl | rfl | rfl | rfl | rfl | rfl | rfl | rfl | rfl | rfl | rfl | rfl | rfl | rfl | rfl | rfl | rfl | rfl | rfl | rfl | rfl | rfl:=lt32 ho
    · exact absurd hok (by decide +kernel)
    · exact absurd hok (by decide +kernel)
    · exact absurd hok (by decide +kernel)
    · exact absurd hok (by decide +kernel)
    · exact absurd hok (by decide +kernel)
    · exact absurd hok (by decide +kernel)
    · exact absurd hok (by decide +kernel)
    · exact absurd hok (by decide +kernel)
    · exact absurd hok (by decide +kernel)
    · exact absurd hok (by decide +kernel)
    · exact absurd hok (by decide +kernel)
    · exact absurd hok (by decide +kernel)
    · exact absurd hok (by decide +kernel)
    · exact absurd hok (by decide +kernel)
    · exact absurd hok (by decide +kernel)
    · exact absurd hok (by decide +kernel)
    · exact absurd hok (by decide +kernel)
    · exact absurd hok (by decide +kernel)
    · exact absurd hok (by decide +kernel)
    · exact absurd hok (by decide +kernel)
    · exact absurd hok (by decide +kernel)
    · exact absurd hok (by decide +kernel)
    · exact absurd hok (by decide +kernel)
    · exact absurd hok (by decide +kernel)
    · exact absurd hok (by decide +kernel)
    · exact absurd hok (by decide +kernel)
    · exact absurd hok (by decide +kernel)
    · exact absurd hok (by decide +kernel)
    · exact absurd hok (by decide +kernel)
    · exact absurd hok (by decide +kernel)
    · exact en_30_0 dst src base disp imm cc hd hs hb
    · exact en_31_0 dst src base disp imm cc hd hs hb
  case inr.inl=>
    obtain ⟨op,wd,dst,src,base,disp,imm,cc⟩:=x
    simp only at hw ho hd hs hb hc hi hok
    subst hw
    obtain rfl | rfl | rfl | rfl | rfl | rfl | rfl | rfl | rfl | rfl | rfl | rfl | rfl | rfl | rfl | rfl | rfl | rfl | rfl | rfl | rfl | rfl | rfl | rfl | rfl | rfl | rfl | rfl | rfl | rfl | rfl | rfl:=lt32 ho
    · exact absurd hok (by decide +kernel)
    · exact absurd hok (by decide +kernel)
    · exact absurd hok (by decide +kernel)
    · exact absurd hok (by decide +kernel)
    · exact absurd hok (by decide +kernel)
    · exact absurd hok (by decide +kernel)
    · exact absurd hok (by decide +kernel)
    · exact absurd hok (by decide +kernel)
    · exact absurd hok (by decide +kernel)
    · exact absurd hok (by decide +kernel)
    · exact absurd hok (by decide +kernel)
    · exact absurd hok (by decide +kernel)
    · exact absurd hok (by decide +kernel)
    · exact absurd hok (by decide +kernel)
    · exact absurd hok (by decide +kernel)
    · exact absurd hok (by decide +kernel)
    · exact absurd hok (by decide +kernel)
    · exact absurd hok (by decide +kernel)
    · exact absurd hok (by decide +kernel)
    · exact absurd hok (by decide +kernel)
    · exact absurd hok (by decide +kernel)
    · exact absurd hok (by decide +kernel)
    · exact absurd hok (by decide +kernel)
    · exact absurd hok (by decide +kernel)
    · exact absurd hok (by decide +kernel)
    · exact absurd hok (by decide +kernel)
    · exact en_26_8 dst src base disp imm cc hd hs hb
    · exact en_27_8 dst src base disp imm cc hd hs hb
    · exact en_28_8 dst src base disp imm cc hd hs hb
    · exact en_29_8 dst src base disp imm cc hd hs hb (hc (.inr (by decide)))
    · exact absurd hok (by decide +kernel)
    · exact absurd hok (by decide +kernel)
  case inr.inr.inl=>
    obtain ⟨op,wd,dst,src,base,disp,imm,cc⟩:=x
    simp only at hw ho hd hs hb hc hi hok
    subst hw
    obtain rfl | rfl | rfl | rfl | rfl | rfl | rfl | rfl | rfl | rfl | rfl | rfl | rfl | rfl | rfl | rfl | rfl | rfl | rfl | rfl | rfl | rfl | rfl | rfl | rfl | rfl | rfl | rfl | rfl | rfl | rfl | rfl:=lt32 ho
    · exact absurd hok (by decide +kernel)
    · exact absurd hok (by decide +kernel)
    · exact absurd hok (by decide +kernel)
    · exact absurd hok (by decide +kernel)
    · exact absurd hok (by decide +kernel)
    · exact absurd hok (by decide +kernel)
    · exact absurd hok (by decide +kernel)
    · exact absurd hok (by decide +kernel)
    · exact absurd hok (by decide +kernel)
    · exact absurd hok (by decide +kernel)
    · exact absurd hok (by decide +kernel)
    · exact absurd hok (by decide +kernel)
    · exact absurd hok (by decide +kernel)
    · exact absurd hok (by decide +kernel)
    · exact absurd hok (by decide +kernel)
    · exact absurd hok (by decide +kernel)
    · exact absurd hok (by decide +kernel)
    · exact absurd hok (by decide +kernel)
    · exact absurd hok (by decide +kernel)
    · exact absurd hok (by decide +kernel)
    · exact absurd hok (by decide +kernel)
    · exact absurd hok (by decide +kernel)
    · exact absurd hok (by decide +kernel)
    · exact absurd hok (by decide +kernel)
    · exact absurd hok (by decide +kernel)
    · exact absurd hok (by decide +kernel)
    · exact en_26_16 dst src base disp imm cc hd hs hb
    · exact en_27_16 dst src base disp imm cc hd hs hb
    · exact absurd hok (by decide +kernel)
    · exact absurd hok (by decide +kernel)
    · exact absurd hok (by decide +kernel)
    · exact absurd hok (by decide +kernel)
  case inr.inr.inr.inl=>
    obtain ⟨op,wd,dst,src,base,disp,imm,cc⟩:=x
    simp only at hw ho hd hs hb hc hi hok
    subst hw
    obtain rfl | rfl | rfl | rfl | rfl | rfl | rfl | rfl | rfl | rfl | rfl | rfl | rfl | rfl | rfl | rfl | rfl | rfl | rfl | rfl | rfl | rfl | rfl | rfl | rfl | rfl | rfl | rfl | rfl | rfl | rfl | rfl:=lt32 ho
    · exact en_0_32 dst src base disp imm cc hd hs hb
    · exact en_1_32 dst src base disp imm cc hd hs hb
    · exact en_2_32 dst src base disp imm cc hd hs hb
    · exact en_3_32 dst src base disp imm cc hd hs hb
    · exact en_4_32 dst src base disp imm cc hd hs hb
    · exact en_5_32 dst src base disp imm cc hd hs hb
    · exact en_6_32 dst src base disp imm cc hd hs hb
    · exact en_7_32 dst src base disp imm cc hd hs hb
    · exact en_8_32 dst src base disp imm cc hd hs hb
    · exact en_9_32 dst src base disp imm cc hd hs hb
    · exact en_10_32 dst src base disp imm cc hd hs hb
    · exact en_11_32 dst src base disp imm cc hd hs hb
    · exact en_12_32 dst src base disp imm cc hd hs hb
    · exact en_13_32 dst src base disp imm cc hd hs hb
    · exact en_14_32 dst src base disp imm cc hd hs hb
    · exact en_15_32 dst src base disp imm cc hd hs hb
    · exact en_16_32 dst src base disp imm cc hd hs hb
    · exact en_17_32 dst src base disp imm cc hd hs hb (hi (by decide))
    · exact en_18_32 dst src base disp imm cc hd hs hb (hi (by decide))
    · exact en_19_32 dst src base disp imm cc hd hs hb (hi (by decide))
    · exact en_20_32 dst src base disp imm cc hd hs hb
    · exact en_21_32 dst src base disp imm cc hd hs hb
    · exact en_22_32 dst src base disp imm cc hd hs hb
    · exact en_23_32 dst src base disp imm cc hd hs hb
    · exact en_24_32 dst src base disp imm cc hd hs hb
    · exact en_25_32 dst src base disp imm cc hd hs hb (hc (.inl (by decide)))
    · exact en_26_32 dst src base disp imm cc hd hs hb
    · exact en_27_32 dst src base disp imm cc hd hs hb
    · exact en_28_32 dst src base disp imm cc hd hs hb
    · exact en_29_32 dst src base disp imm cc hd hs hb (hc (.inr (by decide)))
    · exact absurd hok (by decide +kernel)
    · exact absurd hok (by decide +kernel)
  case inr.inr.inr.inr.inl=>
    obtain ⟨op,wd,dst,src,base,disp,imm,cc⟩:=x
    simp only at hw ho hd hs hb hc hi hok
    subst hw
    obtain rfl | rfl | rfl | rfl | rfl | rfl | rfl | rfl | rfl | rfl | rfl | rfl | rfl | rfl | rfl | rfl | rfl | rfl | rfl | rfl | rfl | rfl | rfl | rfl | rfl | rfl | rfl | rfl | rfl | rfl | rfl | rfl:=lt32 ho
    · exact en_0_64 dst src base disp imm cc hd hs hb
    · exact en_1_64 dst src base disp imm cc hd hs hb
    · exact en_2_64 dst src base disp imm cc hd hs hb
    · exact en_3_64 dst src base disp imm cc hd hs hb
    · exact en_4_64 dst src base disp imm cc hd hs hb
    · exact en_5_64 dst src base disp imm cc hd hs hb
    · exact en_6_64 dst src base disp imm cc hd hs hb
    · exact en_7_64 dst src base disp imm cc hd hs hb
    · exact en_8_64 dst src base disp imm cc hd hs hb
    · exact en_9_64 dst src base disp imm cc hd hs hb
    · exact en_10_64 dst src base disp imm cc hd hs hb
    · exact en_11_64 dst src base disp imm cc hd hs hb
    · exact en_12_64 dst src base disp imm cc hd hs hb
    · exact en_13_64 dst src base disp imm cc hd hs hb
    · exact en_14_64 dst src base disp imm cc hd hs hb
    · exact en_15_64 dst src base disp imm cc hd hs hb
    · exact en_16_64 dst src base disp imm cc hd hs hb
    · exact en_17_64 dst src base disp imm cc hd hs hb (hi (by decide))
    · exact en_18_64 dst src base disp imm cc hd hs hb (hi (by decide))
    · exact en_19_64 dst src base disp imm cc hd hs hb (hi (by decide))
    · exact en_20_64 dst src base disp imm cc hd hs hb
    · exact en_21_64 dst src base disp imm cc hd hs hb
    · exact en_22_64 dst src base disp imm cc hd hs hb
    · exact en_23_64 dst src base disp imm cc hd hs hb
    · exact en_24_64 dst src base disp imm cc hd hs hb
    · exact en_25_64 dst src base disp imm cc hd hs hb (hc (.inl (by decide)))
    · exact en_26_64 dst src base disp imm cc hd hs hb
    · exact en_27_64 dst src base disp imm cc hd hs hb
    · exact absurd hok (by decide +kernel)
    · exact absurd hok (by decide +kernel)
    · exact absurd hok (by decide +kernel)
    · exact absurd hok (by decide +kernel)
theorem encoded_n (x:Xi) (hX:XOk x) (hm:mayX x=true) (W:World) (hT:Tabs W):Calls Tryz.prog 106 #[.agg (xC x)] W (RetV (bytesX x) W):=by
  have h:=enc_any x hX (by rw [mayP_is];exact hm) W hT
  rw [encX_is x hX hm] at h
  exact h
theorem may_n (x:Xi) (hX:XOk x) (W:World) (hT:Tabs W):Calls Tryz.prog 102 #[.agg (xC x)] W fun e w'=>e=.returned (.bool (mayX x)) ∧ Below W.heap.size W w':=by
  have h:=cmay_n x W hX hT
  rw [mayP_is] at h
  exact h
def bytC (x:Xi):Int:=bif mayX x then 0 else 2
def bytL (x:Xi):List Int:=bif mayX x then bytesX x else []
theorem bytes_n (x:Xi) (hX:XOk x) (W:World) (hT:Tabs W):Calls Tryz.prog 72 #[.agg (xC x)] W (RetX (bytL x) (bytC x) W):=by
  have HT:=Lib.hid hT
  have MY:=Lib.hid (fun W (hT:Tabs W)=>may_n x hX W hT)
  unfold RetX bytC bytL
  cases hm:mayX x
  · rw [hm] at MY
    clear hm hX hT
    go_enter Tryz.func72,Tryz.ntmps72
    go_wp2_with fail
    refine (MY.out _ (HT.out.below (below_new (Below.refl _ _) _) (Nat.le_refl _))).mono ?_
    rintro e w1 ⟨rfl,b1⟩
    go_wp2_with fail
    go_ret2
    exact ⟨_,rfl,Bts.nil _ _,below_boxed b1⟩
  · have EN:=Lib.hid (fun W (hT:Tabs W)=>encoded_n x hX hm W hT)
    rw [hm] at MY
    clear hm hX hT
    generalize bytesX x=bl at *
    unfold RetV at EN
    go_enter Tryz.func72,Tryz.ntmps72
    go_wp2_with fail
    refine (MY.out _ (HT.out.below (below_new (Below.refl _ _) _) (Nat.le_refl _))).mono ?_
    rintro e w1 ⟨rfl,b1⟩
    have r1:=Lib.hid (heap_below b1 (heap_last W _ _ rfl) (Nat.le_refl _))
    have B1:=Lib.hid (below_boxed b1)
    clear b1
    go_wp2_with (with_reducible refine (halt_load 38 _ rfl ?_))
    refine ⟨?_,trivial⟩
    refine wpList_load_row rfl 38 _ rfl _ rfl _ _ _ _ r1.out Tryz.underlying38 rfl (by kernel_rfl) ?_
    go_wp2_with fail
    refine (EN.out _ (HT.out.below B1.out (Nat.le_refl _))).mono ?_
    rintro e w2 ⟨v2,rfl,o2,b2⟩
    have O2:=Lib.hid (o2.mono B1.out.size)
    have B2:=Lib.hid (below_call B1.out b2)
    clear o2 b2
    go_wp2_with fail
    go_ret2
    exact ⟨_,rfl,O2.out,B2.out⟩
theorem len_n (x:Xi) (hX:XOk x) (W:World) (hT:Tabs W):Calls Tryz.prog 37 #[.agg (xC x)] W fun e w'=>e=.returned (.int .i64 ((bytL x).length:Int)) ∧ Below W.heap.size W w':=by
  have BY:=Lib.hid (fun W (hT:Tabs W)=>bytes_n x hX W hT)
  have HT:=Lib.hid hT
  clear hX hT
  unfold RetX at BY
  generalize bytL x=bl at *
  generalize bytC x=bc at *
  go_enter Tryz.func37,Tryz.ntmps37
  go_wp2_with fail
  refine (BY.out _ (HT.out.below (below_new (Below.refl _ _) _) (Nat.le_refl _))).mono ?_
  rintro e w2 ⟨v2,rfl,o2,b2⟩
  obtain ⟨p,c2,rfl⟩:∃ p c2,v2=.slice p bl.length c2:=by
    rcases o2.2 with ⟨h1,h2⟩ | ⟨g,cap,cur,e1,h⟩
    · obtain rfl:bl=[]:=List.eq_nil_of_length_eq_zero h2
      exact ⟨none,0,h1⟩
    · exact ⟨_,_,e1⟩
  have B2:=Lib.hid (below_boxed b2)
  clear o2 b2
  go_wp2_with fail
  go_ret
  exact ⟨rfl,B2.out⟩
end Go.Proofs.YtbpehbeakhocnaaGreatDoor.Mrm
