import Derived.Test.YthmbmcckldgdiaaDoorERw16
import Derived.Test.YthmbmcckldgdiaaDoorERw17
import Derived.Test.YthmbmcckldgdiaaDoorERw18
set_option linter.unusedVariables false
set_option linter.unusedSimpArgs false
set_option linter.unnecessarySimpa false
namespace Go.Proofs.YthmbmcckldgdiaaDoor.Mrm
open Go Go.RowKit
set_option linter.unusedVariables false
set_option linter.unusedSimpArgs false
set_option linter.unnecessarySimpa false
set_option maxRecDepth 100000
abbrev ptC (p:Pt):Array Value:=#[.int .i8 p.reg,.int .i8 p.rm,.int .i64 p.disp,.int .i64 p.imm,.int .i8 p.cc]
theorem allC_va:∀ c ∈ allC,(0 ≤ c.va ∧ c.va < 65536) ∧ (c.lo=15 → (c.va=3904 ∨ c.va=3968 ∨ c.va=112) ∧ c.sh ≠ 8 ∧ c.sh ≠ 6) ∧ (c.sh=6 → c.va=184) ∧ (c.sh=8 → c.va / 256 % 256=0):=by decide +kernel
theorem u8_wrap (n:Int):IntKind.u8.wrap n=n % 256:=by simp [IntKind.wrap,IntKind.signed,IntKind.bits]
theorem cc_fin:∀ k:Fin 16,bits .or .u16 3904 (IntKind.u16.wrap (k.1:Int))=3904 + (k.1:Int) ∧ bits .or .u16 3968 (IntKind.u16.wrap (k.1:Int))=3968 + (k.1:Int) ∧ bits .or .u16 112 (IntKind.u16.wrap (k.1:Int))=112 + (k.1:Int):=by decide +kernel
theorem ic_fin:∀ k:Fin 16,bits .or .u16 184 (bits .and .u16 (IntKind.u16.wrap (k.1:Int)) 7)=184 + (k.1:Int) % 8:=by decide +kernel
theorem cc_or {va pcc:Int} (h:va=3904 ∨ va=3968 ∨ va=112) (h0:0 ≤ pcc) (h1:pcc < 16):bits .or .u16 va (IntKind.u16.wrap pcc)=va + pcc:=by
  have:=cc_fin ⟨pcc.toNat,by omega⟩
  simp only [Int.toNat_of_nonneg h0] at this
  rcases h with rfl | rfl | rfl
  · exact this.1
  · exact this.2.1
  · exact this.2.2
theorem ic_or {va rm:Int} (h:va=184) (h0:0 ≤ rm) (h1:rm < 16):bits .or .u16 va (bits .and .u16 (IntKind.u16.wrap rm) 7)=va + rm % 8:=by
  have:=ic_fin ⟨rm.toNat,by omega⟩
  simp only [Int.toNat_of_nonneg h0] at this
  subst h
  exact this
set_option maxHeartbeats 2000000 in
theorem cahead_n (x:Xi) (c:Cd) (p:Pt) (hc:c ∈ allC) (hb:bothB p.reg p.rm=true) (hcc:c.lo=15 → 0 ≤ p.cc ∧ p.cc < 16) (W:World):
    Calls Tryd.prog 33 #[.agg (xC x),.agg #[.int .i8 c.sh,.int .i8 c.wd,.int .u16 c.va,.int .i8 c.dg,.int .u16 c.lo],.agg (ptC p)] W (RetV (aheadP x.w c p) W):=by
  obtain ⟨op,wd,dst,src,base,disp,imm,cc⟩:=x
  obtain ⟨reg,rm,pdisp,pimm,pcc⟩:=p
  have va_:=allC_va c hc
  obtain ⟨sh,at_,va,dg,lo⟩:=c
  simp only at va_ hb hcc
  obtain ⟨v0,v1,v2,v3⟩:=va_
  have hm:=(bothB_iff.1 hb).2
  cases es:(sh == 8)
  · cases el:(lo == 15)
    · cases e6:(sh == 6)
      · cases ef:(va / 256 % 256 != 0)
        · cases e64:(wd == 64)
          · cases nd:needB reg rm
            · have L:=ah_0_0_n_p0 op wd dst src base disp imm cc sh at_ va dg lo reg rm pdisp pimm pcc (va / 256 % 256) (va % 256) W es e64 nd hb el e6 (u8_wrap _) (u8_wrap _) ef (by omega) (by omega)
              have E:aheadP wd ⟨sh,at_,va,dg,lo⟩ ⟨reg,rm,pdisp,pimm,pcc⟩=[va % 256]:=by
                unfold aheadP halfP rexP valP
                simp only [es,e64,el,e6,ef,nd,Bool.true_and,Bool.and_true,Bool.false_and,Bool.and_false,Bool.or_false,Bool.false_or,Bool.true_or,Bool.or_true,cond_true,cond_false,List.nil_append,List.append_assoc,List.cons_append]
              rw [E]
              exact L
            · have L:=ah_0_0_r_p0 op wd dst src base disp imm cc sh at_ va dg lo reg rm pdisp pimm pcc (va / 256 % 256) (va % 256) W es e64 nd hb el e6 (u8_wrap _) (u8_wrap _) ef (by omega) (by omega)
              have E:aheadP wd ⟨sh,at_,va,dg,lo⟩ ⟨reg,rm,pdisp,pimm,pcc⟩=([rexI false reg rm] ++ [va % 256]):=by
                unfold aheadP halfP rexP valP
                simp only [es,e64,el,e6,ef,nd,Bool.true_and,Bool.and_true,Bool.false_and,Bool.and_false,Bool.or_false,Bool.false_or,Bool.true_or,Bool.or_true,cond_true,cond_false,List.nil_append,List.append_assoc,List.cons_append]
              rw [E]
              exact L
          · have L:=ah_0_64_x_p0 op wd dst src base disp imm cc sh at_ va dg lo reg rm pdisp pimm pcc (va / 256 % 256) (va % 256) W es e64 hb el e6 (u8_wrap _) (u8_wrap _) ef (by omega) (by omega)
            have E:aheadP wd ⟨sh,at_,va,dg,lo⟩ ⟨reg,rm,pdisp,pimm,pcc⟩=([rexI true reg rm] ++ [va % 256]):=by
              unfold aheadP halfP rexP valP
              simp only [es,e64,el,e6,ef,Bool.true_and,Bool.and_true,Bool.false_and,Bool.and_false,Bool.or_false,Bool.false_or,Bool.true_or,Bool.or_true,cond_true,cond_false,List.nil_append,List.append_assoc,List.cons_append]
            rw [E]
            exact L
        · cases e64:(wd == 64)
          · cases nd:needB reg rm
            · have L:=ah_0_0_n_p1 op wd dst src base disp imm cc sh at_ va dg lo reg rm pdisp pimm pcc (va / 256 % 256) (va % 256) W es e64 nd hb el e6 (u8_wrap _) (u8_wrap _) ef (by omega) (by omega)
              have E:aheadP wd ⟨sh,at_,va,dg,lo⟩ ⟨reg,rm,pdisp,pimm,pcc⟩=([va / 256 % 256] ++ [va % 256]):=by
                unfold aheadP halfP rexP valP
                simp only [es,e64,el,e6,ef,nd,Bool.true_and,Bool.and_true,Bool.false_and,Bool.and_false,Bool.or_false,Bool.false_or,Bool.true_or,Bool.or_true,cond_true,cond_false,List.nil_append,List.append_assoc,List.cons_append]
              rw [E]
              exact L
            · have L:=ah_0_0_r_p1 op wd dst src base disp imm cc sh at_ va dg lo reg rm pdisp pimm pcc (va / 256 % 256) (va % 256) W es e64 nd hb el e6 (u8_wrap _) (u8_wrap _) ef (by omega) (by omega)
              have E:aheadP wd ⟨sh,at_,va,dg,lo⟩ ⟨reg,rm,pdisp,pimm,pcc⟩=(([rexI false reg rm] ++ [va / 256 % 256]) ++ [va % 256]):=by
                unfold aheadP halfP rexP valP
                simp only [es,e64,el,e6,ef,nd,Bool.true_and,Bool.and_true,Bool.false_and,Bool.and_false,Bool.or_false,Bool.false_or,Bool.true_or,Bool.or_true,cond_true,cond_false,List.nil_append,List.append_assoc,List.cons_append]
              rw [E]
              exact L
          · have L:=ah_0_64_x_p1 op wd dst src base disp imm cc sh at_ va dg lo reg rm pdisp pimm pcc (va / 256 % 256) (va % 256) W es e64 hb el e6 (u8_wrap _) (u8_wrap _) ef (by omega) (by omega)
            have E:aheadP wd ⟨sh,at_,va,dg,lo⟩ ⟨reg,rm,pdisp,pimm,pcc⟩=(([rexI true reg rm] ++ [va / 256 % 256]) ++ [va % 256]):=by
              unfold aheadP halfP rexP valP
              simp only [es,e64,el,e6,ef,Bool.true_and,Bool.and_true,Bool.false_and,Bool.and_false,Bool.or_false,Bool.false_or,Bool.true_or,Bool.or_true,cond_true,cond_false,List.nil_append,List.append_assoc,List.cons_append]
            rw [E]
            exact L
      · have z:=v2 (eq_of_beq e6)
        have ez:=ic_or z hm.1 hm.2
        have ef:((va + rm % 8) / 256 % 256 != 0)=false:=by rw [bne_eq_false_iff_eq];omega
        cases e64:(wd == 64)
        · cases nd:needB reg rm
          · have L:=ah_0_0_n_ic0 op wd dst src base disp imm cc sh at_ va dg lo reg rm pdisp pimm pcc (va + rm % 8) ((va + rm % 8) / 256 % 256) ((va + rm % 8) % 256) W es e64 nd hb el e6 ez (u8_wrap _) (u8_wrap _) ef (by omega) (by omega)
            have E:aheadP wd ⟨sh,at_,va,dg,lo⟩ ⟨reg,rm,pdisp,pimm,pcc⟩=[(va + rm % 8) % 256]:=by
              unfold aheadP halfP rexP valP
              simp only [es,e64,el,e6,ef,nd,Bool.true_and,Bool.and_true,Bool.false_and,Bool.and_false,Bool.or_false,Bool.false_or,Bool.true_or,Bool.or_true,cond_true,cond_false,List.nil_append,List.append_assoc,List.cons_append]
            rw [E]
            exact L
          · have L:=ah_0_0_r_ic0 op wd dst src base disp imm cc sh at_ va dg lo reg rm pdisp pimm pcc (va + rm % 8) ((va + rm % 8) / 256 % 256) ((va + rm % 8) % 256) W es e64 nd hb el e6 ez (u8_wrap _) (u8_wrap _) ef (by omega) (by omega)
            have E:aheadP wd ⟨sh,at_,va,dg,lo⟩ ⟨reg,rm,pdisp,pimm,pcc⟩=([rexI false reg rm] ++ [(va + rm % 8) % 256]):=by
              unfold aheadP halfP rexP valP
              simp only [es,e64,el,e6,ef,nd,Bool.true_and,Bool.and_true,Bool.false_and,Bool.and_false,Bool.or_false,Bool.false_or,Bool.true_or,Bool.or_true,cond_true,cond_false,List.nil_append,List.append_assoc,List.cons_append]
            rw [E]
            exact L
        · have L:=ah_0_64_x_ic0 op wd dst src base disp imm cc sh at_ va dg lo reg rm pdisp pimm pcc (va + rm % 8) ((va + rm % 8) / 256 % 256) ((va + rm % 8) % 256) W es e64 hb el e6 ez (u8_wrap _) (u8_wrap _) ef (by omega) (by omega)
          have E:aheadP wd ⟨sh,at_,va,dg,lo⟩ ⟨reg,rm,pdisp,pimm,pcc⟩=([rexI true reg rm] ++ [(va + rm % 8) % 256]):=by
            unfold aheadP halfP rexP valP
            simp only [es,e64,el,e6,ef,Bool.true_and,Bool.and_true,Bool.false_and,Bool.and_false,Bool.or_false,Bool.false_or,Bool.true_or,Bool.or_true,cond_true,cond_false,List.nil_append,List.append_assoc,List.cons_append]
          rw [E]
          exact L
    · have l15:=v1 (eq_of_beq el)
      have e6:(sh == 6)=false:=beq_eq_false_iff_ne.2 l15.2.2
      have hp:=hcc (eq_of_beq el)
      have ez:=cc_or l15.1 hp.1 hp.2
      cases ef:((va + pcc) / 256 % 256 != 0)
      · cases e64:(wd == 64)
        · cases nd:needB reg rm
          · have L:=ah_0_0_n_cc0 op wd dst src base disp imm cc sh at_ va dg lo reg rm pdisp pimm pcc (va + pcc) ((va + pcc) / 256 % 256) ((va + pcc) % 256) W es e64 nd hb el e6 ez (u8_wrap _) (u8_wrap _) ef (by omega) (by omega)
            have E:aheadP wd ⟨sh,at_,va,dg,lo⟩ ⟨reg,rm,pdisp,pimm,pcc⟩=[(va + pcc) % 256]:=by
              unfold aheadP halfP rexP valP
              simp only [es,e64,el,e6,ef,nd,Bool.true_and,Bool.and_true,Bool.false_and,Bool.and_false,Bool.or_false,Bool.false_or,Bool.true_or,Bool.or_true,cond_true,cond_false,List.nil_append,List.append_assoc,List.cons_append]
            rw [E]
            exact L
          · have L:=ah_0_0_r_cc0 op wd dst src base disp imm cc sh at_ va dg lo reg rm pdisp pimm pcc (va + pcc) ((va + pcc) / 256 % 256) ((va + pcc) % 256) W es e64 nd hb el e6 ez (u8_wrap _) (u8_wrap _) ef (by omega) (by omega)
            have E:aheadP wd ⟨sh,at_,va,dg,lo⟩ ⟨reg,rm,pdisp,pimm,pcc⟩=([rexI false reg rm] ++ [(va + pcc) % 256]):=by
              unfold aheadP halfP rexP valP
              simp only [es,e64,el,e6,ef,nd,Bool.true_and,Bool.and_true,Bool.false_and,Bool.and_false,Bool.or_false,Bool.false_or,Bool.true_or,Bool.or_true,cond_true,cond_false,List.nil_append,List.append_assoc,List.cons_append]
            rw [E]
            exact L
        · have L:=ah_0_64_x_cc0 op wd dst src base disp imm cc sh at_ va dg lo reg rm pdisp pimm pcc (va + pcc) ((va + pcc) / 256 % 256) ((va + pcc) % 256) W es e64 hb el e6 ez (u8_wrap _) (u8_wrap _) ef (by omega) (by omega)
          have E:aheadP wd ⟨sh,at_,va,dg,lo⟩ ⟨reg,rm,pdisp,pimm,pcc⟩=([rexI true reg rm] ++ [(va + pcc) % 256]):=by
            unfold aheadP halfP rexP valP
            simp only [es,e64,el,e6,ef,Bool.true_and,Bool.and_true,Bool.false_and,Bool.and_false,Bool.or_false,Bool.false_or,Bool.true_or,Bool.or_true,cond_true,cond_false,List.nil_append,List.append_assoc,List.cons_append]
          rw [E]
          exact L
      · cases e64:(wd == 64)
        · cases nd:needB reg rm
          · have L:=ah_0_0_n_cc1 op wd dst src base disp imm cc sh at_ va dg lo reg rm pdisp pimm pcc (va + pcc) ((va + pcc) / 256 % 256) ((va + pcc) % 256) W es e64 nd hb el e6 ez (u8_wrap _) (u8_wrap _) ef (by omega) (by omega)
            have E:aheadP wd ⟨sh,at_,va,dg,lo⟩ ⟨reg,rm,pdisp,pimm,pcc⟩=([(va + pcc) / 256 % 256] ++ [(va + pcc) % 256]):=by
              unfold aheadP halfP rexP valP
              simp only [es,e64,el,e6,ef,nd,Bool.true_and,Bool.and_true,Bool.false_and,Bool.and_false,Bool.or_false,Bool.false_or,Bool.true_or,Bool.or_true,cond_true,cond_false,List.nil_append,List.append_assoc,List.cons_append]
            rw [E]
            exact L
          · have L:=ah_0_0_r_cc1 op wd dst src base disp imm cc sh at_ va dg lo reg rm pdisp pimm pcc (va + pcc) ((va + pcc) / 256 % 256) ((va + pcc) % 256) W es e64 nd hb el e6 ez (u8_wrap _) (u8_wrap _) ef (by omega) (by omega)
            have E:aheadP wd ⟨sh,at_,va,dg,lo⟩ ⟨reg,rm,pdisp,pimm,pcc⟩=(([rexI false reg rm] ++ [(va + pcc) / 256 % 256]) ++ [(va + pcc) % 256]):=by
              unfold aheadP halfP rexP valP
              simp only [es,e64,el,e6,ef,nd,Bool.true_and,Bool.and_true,Bool.false_and,Bool.and_false,Bool.or_false,Bool.false_or,Bool.true_or,Bool.or_true,cond_true,cond_false,List.nil_append,List.append_assoc,List.cons_append]
            rw [E]
            exact L
        · have L:=ah_0_64_x_cc1 op wd dst src base disp imm cc sh at_ va dg lo reg rm pdisp pimm pcc (va + pcc) ((va + pcc) / 256 % 256) ((va + pcc) % 256) W es e64 hb el e6 ez (u8_wrap _) (u8_wrap _) ef (by omega) (by omega)
          have E:aheadP wd ⟨sh,at_,va,dg,lo⟩ ⟨reg,rm,pdisp,pimm,pcc⟩=(([rexI true reg rm] ++ [(va + pcc) / 256 % 256]) ++ [(va + pcc) % 256]):=by
            unfold aheadP halfP rexP valP
            simp only [es,e64,el,e6,ef,Bool.true_and,Bool.and_true,Bool.false_and,Bool.and_false,Bool.or_false,Bool.false_or,Bool.true_or,Bool.or_true,cond_true,cond_false,List.nil_append,List.append_assoc,List.cons_append]
          rw [E]
          exact L
  · have s8:=eq_of_beq es
    have el:(lo == 15)=false:=beq_eq_false_iff_ne.2 (fun h=>(v1 h).2.1 s8)
    have e6:(sh == 6)=false:=by rw [s8];rfl
    have ef:(va / 256 % 256 != 0)=false:=by rw [v3 s8];rfl
    cases e8:(wd == 8)
    · cases e16:(wd == 16)
      · cases e64:(wd == 64)
        · cases nd:needB reg rm
          · have L:=ah_1_0_n_p0 op wd dst src base disp imm cc sh at_ va dg lo reg rm pdisp pimm pcc (va / 256 % 256) (va % 256) W es e8 e16 e64 nd hb el e6 (u8_wrap _) (u8_wrap _) ef (by omega) (by omega)
            have E:aheadP wd ⟨sh,at_,va,dg,lo⟩ ⟨reg,rm,pdisp,pimm,pcc⟩=[va % 256]:=by
              unfold aheadP halfP rexP valP
              simp only [es,e64,el,e6,ef,e8,e16,nd,Bool.true_and,Bool.and_true,Bool.false_and,Bool.and_false,Bool.or_false,Bool.false_or,Bool.true_or,Bool.or_true,cond_true,cond_false,List.nil_append,List.append_assoc,List.cons_append]
            rw [E]
            exact L
          · have L:=ah_1_0_r_p0 op wd dst src base disp imm cc sh at_ va dg lo reg rm pdisp pimm pcc (va / 256 % 256) (va % 256) W es e8 e16 e64 nd hb el e6 (u8_wrap _) (u8_wrap _) ef (by omega) (by omega)
            have E:aheadP wd ⟨sh,at_,va,dg,lo⟩ ⟨reg,rm,pdisp,pimm,pcc⟩=([rexI false reg rm] ++ [va % 256]):=by
              unfold aheadP halfP rexP valP
              simp only [es,e64,el,e6,ef,e8,e16,nd,Bool.true_and,Bool.and_true,Bool.false_and,Bool.and_false,Bool.or_false,Bool.false_or,Bool.true_or,Bool.or_true,cond_true,cond_false,List.nil_append,List.append_assoc,List.cons_append]
            rw [E]
            exact L
        · have L:=ah_1_64_x_p0 op wd dst src base disp imm cc sh at_ va dg lo reg rm pdisp pimm pcc (va / 256 % 256) (va % 256) W es e8 e16 e64 hb el e6 (u8_wrap _) (u8_wrap _) ef (by omega) (by omega)
          have E:aheadP wd ⟨sh,at_,va,dg,lo⟩ ⟨reg,rm,pdisp,pimm,pcc⟩=([rexI true reg rm] ++ [va % 256]):=by
            unfold aheadP halfP rexP valP
            simp only [es,e64,el,e6,ef,e8,e16,Bool.true_and,Bool.and_true,Bool.false_and,Bool.and_false,Bool.or_false,Bool.false_or,Bool.true_or,Bool.or_true,cond_true,cond_false,List.nil_append,List.append_assoc,List.cons_append]
          rw [E]
          exact L
      · have e64:(wd == 64)=false:=by rw [eq_of_beq e16];rfl
        cases nd:needB reg rm
        · have L:=ah_1_16_n_p0 op wd dst src base disp imm cc sh at_ va dg lo reg rm pdisp pimm pcc (va / 256 % 256) (va % 256) W es e8 e16 e64 nd hb el e6 (u8_wrap _) (u8_wrap _) ef (by omega) (by omega)
          have E:aheadP wd ⟨sh,at_,va,dg,lo⟩ ⟨reg,rm,pdisp,pimm,pcc⟩=([102] ++ [va % 256]):=by
            unfold aheadP halfP rexP valP
            simp only [es,e64,el,e6,ef,e8,e16,nd,Bool.true_and,Bool.and_true,Bool.false_and,Bool.and_false,Bool.or_false,Bool.false_or,Bool.true_or,Bool.or_true,cond_true,cond_false,List.nil_append,List.append_assoc,List.cons_append]
          rw [E]
          exact L
        · have L:=ah_1_16_r_p0 op wd dst src base disp imm cc sh at_ va dg lo reg rm pdisp pimm pcc (va / 256 % 256) (va % 256) W es e8 e16 e64 nd hb el e6 (u8_wrap _) (u8_wrap _) ef (by omega) (by omega)
          have E:aheadP wd ⟨sh,at_,va,dg,lo⟩ ⟨reg,rm,pdisp,pimm,pcc⟩=(([102] ++ [rexI false reg rm]) ++ [va % 256]):=by
            unfold aheadP halfP rexP valP
            simp only [es,e64,el,e6,ef,e8,e16,nd,Bool.true_and,Bool.and_true,Bool.false_and,Bool.and_false,Bool.or_false,Bool.false_or,Bool.true_or,Bool.or_true,cond_true,cond_false,List.nil_append,List.append_assoc,List.cons_append]
          rw [E]
          exact L
    · have e16:(wd == 16)=false:=by rw [eq_of_beq e8];rfl
      have e64:(wd == 64)=false:=by rw [eq_of_beq e8];rfl
      have L:=ah_1_8_x_p0 op wd dst src base disp imm cc sh at_ va dg lo reg rm pdisp pimm pcc (va / 256 % 256) (va % 256) W es e8 e16 e64 hb el e6 (u8_wrap _) (u8_wrap _) ef (by omega) (by omega)
      have E:aheadP wd ⟨sh,at_,va,dg,lo⟩ ⟨reg,rm,pdisp,pimm,pcc⟩=([rexI false reg rm] ++ [va % 256]):=by
        unfold aheadP halfP rexP valP
        simp only [es,e64,el,e6,ef,e8,e16,Bool.true_and,Bool.and_true,Bool.false_and,Bool.and_false,Bool.or_false,Bool.false_or,Bool.true_or,Bool.or_true,cond_true,cond_false,List.nil_append,List.append_assoc,List.cons_append]
      rw [E]
      exact L
end Go.Proofs.YthmbmcckldgdiaaDoor.Mrm
