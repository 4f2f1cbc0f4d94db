import Derived.Test.YtjhedldplmhmjaaGreatDoorETe15
import Derived.Test.YtjhedldplmhmjaaGreatDoorETe16
set_option maxHeartbeats 4000000
set_option linter.unusedVariables false
set_option linter.unusedSimpArgs false
set_option linter.unnecessarySimpa false
namespace Go.Proofs.YtjhedldplmhmjaaGreatDoor.Mrm
open Go Go.RowKit
set_option maxRecDepth 100000
abbrev ptC (p:Pt):Array Value:=#[.int .i8 p.reg,.int .i8 p.rm,.int .i64 p.disp,.int .i64 p.imm,.int .i8 p.cc]
theorem allC_va:∀ c∈allC,(0≤c.va∧c.va<65536)∧(c.lo=15→(c.va=3904∨c.va=3968∨c.va=112)∧c.sh≠8∧c.sh≠6)∧(c.sh=6→c.va=184)∧(c.sh=8→c.va / 256 % 256=0):=by decide +kernel
theorem u8_wrap (n:Int):IntKind.u8.wrap n=n % 256:=by simp [IntKind.wrap,IntKind.signed,IntKind.bits]
theorem cc_fin:∀ k:Fin 16,bits .or .u16 3904 (IntKind.u16.wrap (k.1:Int))=3904+(k.1:Int)∧bits .or .u16 3968 (IntKind.u16.wrap (k.1:Int))=3968+(k.1:Int)∧bits .or .u16 112 (IntKind.u16.wrap (k.1:Int))=112+(k.1:Int):=by decide +kernel
theorem ic_fin:∀ k:Fin 16,bits .or .u16 184 (bits .and .u16 (IntKind.u16.wrap (k.1:Int)) 7)=184+(k.1:Int) % 8:=by decide +kernel
theorem cc_or {va pcc:Int}(h:va=3904∨va=3968∨va=112)(h0:0≤pcc)(h1:pcc<16):bits .or .u16 va (IntKind.u16.wrap pcc)=va+pcc:=by
 have:=cc_fin ⟨pcc.toNat,by omega⟩
 simp only [Int.toNat_of_nonneg h0] at this
 rcases h with rfl | rfl | rfl
 ·exact this.1
 ·exact this.2.1
 ·exact this.2.2
theorem ic_or {va rm:Int}(h:va=184)(h0:0≤rm)(h1:rm<16):bits .or .u16 va (bits .and .u16 (IntKind.u16.wrap rm) 7)=va+rm % 8:=by
 have:=ic_fin ⟨rm.toNat,by omega⟩
 simp only [Int.toNat_of_nonneg h0] at this
 subst h
 exact this
theorem cahead_n (x:Xi)(c:Cd)(p:Pt)(hc:c∈allC)(hb:bothB p.reg p.rm=true)(hcc:c.lo=15→0≤p.cc∧p.cc<16)(W:World):
  Calls Tryz.prog 98 #[.agg (xC x),.agg #[.int .i8 c.sh,.int .i8 c.wd,.int .u16 c.va,.int .i8 c.dg,.int .u16 c.lo],.agg (ptC p)] W (RetV (aheadP x.w c p) W):=by
 obtain ⟨op,wd,dst,src,base,disp,imm,cc⟩:=x
 obtain ⟨reg,rm,pdisp,pimm,pcc⟩:=p
 have va_:=allC_va c hc
 obtain ⟨sh,at_,va,dg,lo⟩:=c
 simp only at va_ hb hcc
 obtain ⟨v0,v1,v2,v3⟩:=va_
 have hm:=(bothB_iff.1 hb).2
 cases es:(sh == 8)
 ·cases el:(lo == 15)
  ·cases e6:(sh == 6)
   ·cases ef:(va / 256 % 256 != 0)
    ·cases e64:(wd == 64)
     ·cases nd:needB reg rm
      ·have L:=ah_0_0_n_p0 op wd dst src base disp imm cc sh at_ va dg lo reg rm pdisp pimm pcc (va / 256 % 256) (va % 256) W es e64 nd hb el e6 (u8_wrap _) (u8_wrap _) ef (by omega) (by omega)
       have E:aheadP wd ⟨sh,at_,va,dg,lo⟩ ⟨reg,rm,pdisp,pimm,pcc⟩=[va % 256]:=by
        unfold aheadP halfP rexP valP
        simp only [es,e64,el,e6,ef,nd,Bool.true_and,Bool.and_true,Bool.false_and,Bool.and_false,Bool.or_false,Bool.false_or,Bool.true_or,Bool.or_true,cond_true,cond_false,List.nil_append,List.append_assoc,List.cons_append]
       rw [E]
       exact L
      ·have L:=ah_0_0_r_p0 op wd dst src base disp imm cc sh at_ va dg lo reg rm pdisp pimm pcc (va / 256 % 256) (va % 256) W es e64 nd hb el e6 (u8_wrap _) (u8_wrap _) ef (by omega) (by omega)
       have E:aheadP wd ⟨sh,at_,va,dg,lo⟩ ⟨reg,rm,pdisp,pimm,pcc⟩=([rexI false reg rm] ++ [va % 256]):=by
        unfold aheadP halfP rexP valP
        simp only [es,e64,el,e6,ef,nd,Bool.true_and,Bool.and_true,Bool.false_and,Bool.and_false,Bool.or_false,Bool.false_or,Bool.true_or,Bool.or_true,cond_true,cond_false,List.nil_append,List.append_assoc,List.cons_append]
       rw [E]
       exact L
     ·have L:=ah_0_64_x_p0 op wd dst src base disp imm cc sh at_ va dg lo reg rm pdisp pimm pcc (va / 256 % 256) (va % 256) W es e64 hb el e6 (u8_wrap _) (u8_wrap _) ef (by omega) (by omega)
      have E:aheadP wd ⟨sh,at_,va,dg,lo⟩ ⟨reg,rm,pdisp,pimm,pcc⟩=([rexI true reg rm] ++ [va % 256]):=by
       unfold aheadP halfP rexP valP
       simp only [es,e64,el,e6,ef,Bool.true_and,Bool.and_true,Bool.false_and,Bool.and_false,Bool.or_false,Bool.false_or,Bool.true_or,Bool.or_true,cond_true,cond_false,List.nil_append,List.append_assoc,List.cons_append]
      rw [E]
      exact L
    ·cases e64:(wd == 64)
     ·cases nd:needB reg rm
      ·have L:=ah_0_0_n_p1 op wd dst src base disp imm cc sh at_ va dg lo reg rm pdisp pimm pcc (va / 256 % 256) (va % 256) W es e64 nd hb el e6 (u8_wrap _) (u8_wrap _) ef (by omega) (by omega)
       have E:aheadP wd ⟨sh,at_,va,dg,lo⟩ ⟨reg,rm,pdisp,pimm,pcc⟩=([va / 256 % 256] ++ [va % 256]):=by
        unfold aheadP halfP rexP valP
        simp only [es,e64,el,e6,ef,nd,Bool.true_and,Bool.and_true,Bool.false_and,Bool.and_false,Bool.or_false,Bool.false_or,Bool.true_or,Bool.or_true,cond_true,cond_false,List.nil_append,List.append_assoc,List.cons_append]
       rw [E]
       exact L
      ·have L:=ah_0_0_r_p1 op wd dst src base disp imm cc sh at_ va dg lo reg rm pdisp pimm pcc (va / 256 % 256) (va % 256) W es e64 nd hb el e6 (u8_wrap _) (u8_wrap _) ef (by omega) (by omega)
       have E:aheadP wd ⟨sh,at_,va,dg,lo⟩ ⟨reg,rm,pdisp,pimm,pcc⟩=(([rexI false reg rm] ++ [va / 256 % 256]) ++ [va % 256]):=by
        unfold aheadP halfP rexP valP
        simp only [es,e64,el,e6,ef,nd,Bool.true_and,Bool.and_true,Bool.false_and,Bool.and_false,Bool.or_false,Bool.false_or,Bool.true_or,Bool.or_true,cond_true,cond_false,List.nil_append,List.append_assoc,List.cons_append]
       rw [E]
       exact L
     ·have L:=ah_0_64_x_p1 op wd dst src base disp imm cc sh at_ va dg lo reg rm pdisp pimm pcc (va / 256 % 256) (va % 256) W es e64 hb el e6 (u8_wrap _) (u8_wrap _) ef (by omega) (by omega)
      have E:aheadP wd ⟨sh,at_,va,dg,lo⟩ ⟨reg,rm,pdisp,pimm,pcc⟩=(([rexI true reg rm] ++ [va / 256 % 256]) ++ [va % 256]):=by
       unfold aheadP halfP rexP valP
       simp only [es,e64,el,e6,ef,Bool.true_and,Bool.and_true,Bool.false_and,Bool.and_false,Bool.or_false,Bool.false_or,Bool.true_or,Bool.or_true,cond_true,cond_false,List.nil_append,List.append_assoc,List.cons_append]
      rw [E]
      exact L
   ·have z:=v2 (eq_of_beq e6)
    have ez:=ic_or z hm.1 hm.2
    have ef:((va+rm % 8) / 256 % 256 != 0)=false:=by rw [bne_eq_false_iff_eq];omega
    cases e64:(wd == 64)
    ·cases nd:needB reg rm
     ·have L:=ah_0_0_n_ic0 op wd dst src base disp imm cc sh at_ va dg lo reg rm pdisp pimm pcc (va+rm % 8) ((va+rm % 8) / 256 % 256) ((va+rm % 8) % 256) W es e64 nd hb el e6 ez (u8_wrap _) (u8_wrap _) ef (by omega) (by omega)
      have E:aheadP wd ⟨sh,at_,va,dg,lo⟩ ⟨reg,rm,pdisp,pimm,pcc⟩=[(va+rm % 8) % 256]:=by
       unfold aheadP halfP rexP valP
       simp only [es,e64,el,e6,ef,nd,Bool.true_and,Bool.and_true,Bool.false_and,Bool.and_false,Bool.or_false,Bool.false_or,Bool.true_or,Bool.or_true,cond_true,cond_false,List.nil_append,List.append_assoc,List.cons_append]
      rw [E]
      exact L
     ·have L:=ah_0_0_r_ic0 op wd dst src base disp imm cc sh at_ va dg lo reg rm pdisp pimm pcc (va+rm % 8) ((va+rm % 8) / 256 % 256) ((va+rm % 8) % 256) W es e64 nd hb el e6 ez (u8_wrap _) (u8_wrap _) ef (by omega) (by omega)
      have E:aheadP wd ⟨sh,at_,va,dg,lo⟩ ⟨reg,rm,pdisp,pimm,pcc⟩=([rexI false reg rm] ++ [(va+rm % 8) % 256]):=by
       unfold aheadP halfP rexP valP
       simp only [es,e64,el,e6,ef,nd,Bool.true_and,Bool.and_true,Bool.false_and,Bool.and_false,Bool.or_false,Bool.false_or,Bool.true_or,Bool.or_true,cond_true,cond_false,List.nil_append,List.append_assoc,List.cons_append]
      rw [E]
      exact L
    ·have L:=ah_0_64_x_ic0 op wd dst src base disp imm cc sh at_ va dg lo reg rm pdisp pimm pcc (va+rm % 8) ((va+rm % 8) / 256 % 256) ((va+rm % 8) % 256) W es e64 hb el e6 ez (u8_wrap _) (u8_wrap _) ef (by omega) (by omega)
     have E:aheadP wd ⟨sh,at_,va,dg,lo⟩ ⟨reg,rm,pdisp,pimm,pcc⟩=([rexI true reg rm] ++ [(va+rm % 8) % 256]):=by
      unfold aheadP halfP rexP valP
      simp only [es,e64,el,e6,ef,Bool.true_and,Bool.and_true,Bool.false_and,Bool.and_false,Bool.or_false,Bool.false_or,Bool.true_or,Bool.or_true,cond_true,cond_false,List.nil_append,List.append_assoc,List.cons_append]
     rw [E]
     exact L
  ·have l15:=v1 (eq_of_beq el)
   have e6:(sh == 6)=false:=beq_eq_false_iff_ne.2 l15.2.2
   have hp:=hcc (eq_of_beq el)
   have ez:=cc_or l15.1 hp.1 hp.2
   cases ef:((va+pcc) / 256 % 256 != 0)
   ·cases e64:(wd == 64)
    ·cases nd:needB reg rm
     ·have L:=ah_0_0_n_cc0 op wd dst src base disp imm cc sh at_ va dg lo reg rm pdisp pimm pcc (va+pcc) ((va+pcc) / 256 % 256) ((va+pcc) % 256) W es e64 nd hb el e6 ez (u8_wrap _) (u8_wrap _) ef (by omega) (by omega)
      have E:aheadP wd ⟨sh,at_,va,dg,lo⟩ ⟨reg,rm,pdisp,pimm,pcc⟩=[(va+pcc) % 256]:=by
       unfold aheadP halfP rexP valP
       simp only [es,e64,el,e6,ef,nd,Bool.true_and,Bool.and_true,Bool.false_and,Bool.and_false,Bool.or_false,Bool.false_or,Bool.true_or,Bool.or_true,cond_true,cond_false,List.nil_append,List.append_assoc,List.cons_append]
      rw [E]
      exact L
     ·have L:=ah_0_0_r_cc0 op wd dst src base disp imm cc sh at_ va dg lo reg rm pdisp pimm pcc (va+pcc) ((va+pcc) / 256 % 256) ((va+pcc) % 256) W es e64 nd hb el e6 ez (u8_wrap _) (u8_wrap _) ef (by omega) (by omega)
      have E:aheadP wd ⟨sh,at_,va,dg,lo⟩ ⟨reg,rm,pdisp,pimm,pcc⟩=([rexI false reg rm] ++ [(va+pcc) % 256]):=by
       unfold aheadP halfP rexP valP
       simp only [es,e64,el,e6,ef,nd,Bool.true_and,Bool.and_true,Bool.false_and,Bool.and_false,Bool.or_false,Bool.false_or,Bool.true_or,Bool.or_true,cond_true,cond_false,List.nil_append,List.append_assoc,List.cons_append]
      rw [E]
      exact L
    ·have L:=ah_0_64_x_cc0 op wd dst src base disp imm cc sh at_ va dg lo reg rm pdisp pimm pcc (va+pcc) ((va+pcc) / 256 % 256) ((va+pcc) % 256) W es e64 hb el e6 ez (u8_wrap _) (u8_wrap _) ef (by omega) (by omega)
     have E:aheadP wd ⟨sh,at_,va,dg,lo⟩ ⟨reg,rm,pdisp,pimm,pcc⟩=([rexI true reg rm] ++ [(va+pcc) % 256]):=by
      unfold aheadP halfP rexP valP
      simp only [es,e64,el,e6,ef,Bool.true_and,Bool.and_true,Bool.false_and,Bool.and_false,Bool.or_false,Bool.false_or,Bool.true_or,Bool.or_true,cond_true,cond_false,List.nil_append,List.append_assoc,List.cons_append]
     rw [E]
     exact L
   ·cases e64:(wd == 64)
    ·cases nd:needB reg rm
     ·have L:=ah_0_0_n_cc1 op wd dst src base disp imm cc sh at_ va dg lo reg rm pdisp pimm pcc (va+pcc) ((va+pcc) / 256 % 256) ((va+pcc) % 256) W es e64 nd hb el e6 ez (u8_wrap _) (u8_wrap _) ef (by omega) (by omega)
      have E:aheadP wd ⟨sh,at_,va,dg,lo⟩ ⟨reg,rm,pdisp,pimm,pcc⟩=([(va+pcc) / 256 % 256] ++ [(va+pcc) % 256]):=by
       unfold aheadP halfP rexP valP
       simp only [es,e64,el,e6,ef,nd,Bool.true_and,Bool.and_true,Bool.false_and,Bool.and_false,Bool.or_false,Bool.false_or,Bool.true_or,Bool.or_true,cond_true,cond_false,List.nil_append,List.append_assoc,List.cons_append]
      rw [E]
      exact L
     ·have L:=ah_0_0_r_cc1 op wd dst src base disp imm cc sh at_ va dg lo reg rm pdisp pimm pcc (va+pcc) ((va+pcc) / 256 % 256) ((va+pcc) % 256) W es e64 nd hb el e6 ez (u8_wrap _) (u8_wrap _) ef (by omega) (by omega)
      have E:aheadP wd ⟨sh,at_,va,dg,lo⟩ ⟨reg,rm,pdisp,pimm,pcc⟩=(([rexI false reg rm] ++ [(va+pcc) / 256 % 256]) ++ [(va+pcc) % 256]):=by
       unfold aheadP halfP rexP valP
       simp only [es,e64,el,e6,ef,nd,Bool.true_and,Bool.and_true,Bool.false_and,Bool.and_false,Bool.or_false,Bool.false_or,Bool.true_or,Bool.or_true,cond_true,cond_false,List.nil_append,List.append_assoc,List.cons_append]
      rw [E]
      exact L
    ·have L:=ah_0_64_x_cc1 op wd dst src base disp imm cc sh at_ va dg lo reg rm pdisp pimm pcc (va+pcc) ((va+pcc) / 256 % 256) ((va+pcc) % 256) W es e64 hb el e6 ez (u8_wrap _) (u8_wrap _) ef (by omega) (by omega)
     have E:aheadP wd ⟨sh,at_,va,dg,lo⟩ ⟨reg,rm,pdisp,pimm,pcc⟩=(([rexI true reg rm] ++ [(va+pcc) / 256 % 256]) ++ [(va+pcc) % 256]):=by
      unfold aheadP halfP rexP valP
      simp only [es,e64,el,e6,ef,Bool.true_and,Bool.and_true,Bool.false_and,Bool.and_false,Bool.or_false,Bool.false_or,Bool.true_or,Bool.or_true,cond_true,cond_false,List.nil_append,List.append_assoc,List.cons_append]
     rw [E]
     exact L
 ·have s8:=eq_of_beq es
  have el:(lo == 15)=false:=beq_eq_false_iff_ne.2 (fun h=>(v1 h).2.1 s8)
  have e6:(sh == 6)=false:=by rw [s8];rfl
  have ef:(va / 256 % 256 != 0)=false:=by rw [v3 s8];rfl
  cases e8:(wd == 8)
  ·cases e16:(wd == 16)
   ·cases e64:(wd == 64)
    ·cases nd:needB reg rm
     ·have L:=ah_1_0_n_p0 op wd dst src base disp imm cc sh at_ va dg lo reg rm pdisp pimm pcc (va / 256 % 256) (va % 256) W es e8 e16 e64 nd hb el e6 (u8_wrap _) (u8_wrap _) ef (by omega) (by omega)
      have E:aheadP wd ⟨sh,at_,va,dg,lo⟩ ⟨reg,rm,pdisp,pimm,pcc⟩=[va % 256]:=by
       unfold aheadP halfP rexP valP
       simp only [es,e64,el,e6,ef,e8,e16,nd,Bool.true_and,Bool.and_true,Bool.false_and,Bool.and_false,Bool.or_false,Bool.false_or,Bool.true_or,Bool.or_true,cond_true,cond_false,List.nil_append,List.append_assoc,List.cons_append]
      rw [E]
      exact L
     ·have L:=ah_1_0_r_p0 op wd dst src base disp imm cc sh at_ va dg lo reg rm pdisp pimm pcc (va / 256 % 256) (va % 256) W es e8 e16 e64 nd hb el e6 (u8_wrap _) (u8_wrap _) ef (by omega) (by omega)
      have E:aheadP wd ⟨sh,at_,va,dg,lo⟩ ⟨reg,rm,pdisp,pimm,pcc⟩=([rexI false reg rm] ++ [va % 256]):=by
       unfold aheadP halfP rexP valP
       simp only [es,e64,el,e6,ef,e8,e16,nd,Bool.true_and,Bool.and_true,Bool.false_and,Bool.and_false,Bool.or_false,Bool.false_or,Bool.true_or,Bool.or_true,cond_true,cond_false,List.nil_append,List.append_assoc,List.cons_append]
      rw [E]
      exact L
    ·have L:=ah_1_64_x_p0 op wd dst src base disp imm cc sh at_ va dg lo reg rm pdisp pimm pcc (va / 256 % 256) (va % 256) W es e8 e16 e64 hb el e6 (u8_wrap _) (u8_wrap _) ef (by omega) (by omega)
     have E:aheadP wd ⟨sh,at_,va,dg,lo⟩ ⟨reg,rm,pdisp,pimm,pcc⟩=([rexI true reg rm] ++ [va % 256]):=by
      unfold aheadP halfP rexP valP
      simp only [es,e64,el,e6,ef,e8,e16,Bool.true_and,Bool.and_true,Bool.false_and,Bool.and_false,Bool.or_false,Bool.false_or,Bool.true_or,Bool.or_true,cond_true,cond_false,List.nil_append,List.append_assoc,List.cons_append]
     rw [E]
     exact L
   ·have e64:(wd == 64)=false:=by rw [eq_of_beq e16];rfl
    cases nd:needB reg rm
    ·have L:=ah_1_16_n_p0 op wd dst src base disp imm cc sh at_ va dg lo reg rm pdisp pimm pcc (va / 256 % 256) (va % 256) W es e8 e16 e64 nd hb el e6 (u8_wrap _) (u8_wrap _) ef (by omega) (by omega)
     have E:aheadP wd ⟨sh,at_,va,dg,lo⟩ ⟨reg,rm,pdisp,pimm,pcc⟩=([102] ++ [va % 256]):=by
      unfold aheadP halfP rexP valP
      simp only [es,e64,el,e6,ef,e8,e16,nd,Bool.true_and,Bool.and_true,Bool.false_and,Bool.and_false,Bool.or_false,Bool.false_or,Bool.true_or,Bool.or_true,cond_true,cond_false,List.nil_append,List.append_assoc,List.cons_append]
     rw [E]
     exact L
    ·have L:=ah_1_16_r_p0 op wd dst src base disp imm cc sh at_ va dg lo reg rm pdisp pimm pcc (va / 256 % 256) (va % 256) W es e8 e16 e64 nd hb el e6 (u8_wrap _) (u8_wrap _) ef (by omega) (by omega)
     have E:aheadP wd ⟨sh,at_,va,dg,lo⟩ ⟨reg,rm,pdisp,pimm,pcc⟩=(([102] ++ [rexI false reg rm]) ++ [va % 256]):=by
      unfold aheadP halfP rexP valP
      simp only [es,e64,el,e6,ef,e8,e16,nd,Bool.true_and,Bool.and_true,Bool.false_and,Bool.and_false,Bool.or_false,Bool.false_or,Bool.true_or,Bool.or_true,cond_true,cond_false,List.nil_append,List.append_assoc,List.cons_append]
     rw [E]
     exact L
  ·have e16:(wd == 16)=false:=by rw [eq_of_beq e8];rfl
   have e64:(wd == 64)=false:=by rw [eq_of_beq e8];rfl
   have L:=ah_1_8_x_p0 op wd dst src base disp imm cc sh at_ va dg lo reg rm pdisp pimm pcc (va / 256 % 256) (va % 256) W es e8 e16 e64 hb el e6 (u8_wrap _) (u8_wrap _) ef (by omega) (by omega)
   have E:aheadP wd ⟨sh,at_,va,dg,lo⟩ ⟨reg,rm,pdisp,pimm,pcc⟩=([rexI false reg rm] ++ [va % 256]):=by
    unfold aheadP halfP rexP valP
    simp only [es,e64,el,e6,ef,e8,e16,Bool.true_and,Bool.and_true,Bool.false_and,Bool.and_false,Bool.or_false,Bool.false_or,Bool.true_or,Bool.or_true,cond_true,cond_false,List.nil_append,List.append_assoc,List.cons_append]
   rw [E]
   exact L
theorem cinMem_n (n:Int)(W:World):Calls Tryz.prog 99 #[.int .i8 n] W fun e w'=>e=.returned (.bool (inMemB n))∧Below W.heap.size W w':=by
 refine calls_abs Tryz.func99 rfl (Nat.le_of_ble_eq_true rfl) ?_
 intro a0 d0 z0 h0
 replace z0:a0.tmps.size=9:=z0
 have s0_0:a0.tmps.getD 0 undef=.int .i8 n:=h0 0 (Nat.le_of_ble_eq_true rfl)
 refine wp_seq ?_
 refine go_reg [] [] [oF] mo d0 z0 (Below.refl _ _) (by kernel_rfl) trivial (
  kq (fun cx=>ex_as rfl rfl) <|
  hn) ?_
 intro a1 w1 f1
 refine wp_seq ?_
 cases fk1:n == 7
 case true=>
  have Ffk1:=Lib.hid fk1;clear fk1
  have s0_1:=f1.q 0 s0_0
  refine go_reg [] [] [some (.int .i8 n),oT,oT,oU,oU,oT,oT] mo f1.d f1.z f1.b (by kernel_rfl) trivial (
   kq (fun cx=>ex_mv rfl (cx.rq 0 s0_1)) <|
   hk (fun cx=>cx.v (ex_eq (x:=.tmp 3) rfl cx.u0 rfl) rfl (congrArg Value.bool Ffk1.out)) <|
   kmu 0 <|
   kno 0 <|
   kno 1 <|
   kq (fun cx=>ex_pt rfl cx.u0 rfl) <|
   kmu 0 <|
   hn) ?_
  intro a2 w2 f2
  refine wp_ret ?_
  try simp only [Exit.inBlock,Exit.then]
  refine bodyPost_ret (res_t (fn:=Tryz.f99) rfl (f2.vv 6)) f2.d ?_
  have HE:(.bool true:Value)=.bool (inMemB n):=by unfold inMemB;simp only [Ffk1.out,zbs,if_true,if_false,Bool.false_eq_true,Bool.true_eq_false,reduceCtorEq];try rfl
  exact ⟨retV HE,f2.b⟩
 have Ffk1:=Lib.hid fk1;clear fk1
 cases fk2:n == 8
 case true=>
  have Ffk2:=Lib.hid fk2;clear fk2
  have s0_2:=f1.q 0 s0_0
  refine go_reg [] [] [some (.int .i8 n),oF,oF,some (.int .i8 n),oT,oT,oT] mo f1.d f1.z f1.b (by kernel_rfl) trivial (
   kq (fun cx=>ex_mv rfl (cx.rq 0 s0_2)) <|
   hk (fun cx=>cx.v (ex_eq (x:=.tmp 3) rfl cx.u0 rfl) rfl (congrArg Value.bool Ffk1.out)) <|
   kmu 0 <|
   hk (fun cx=>cx.vy 0 (ex_mv rfl (cx.rq 0 s0_2))) <|
   hk (fun cx=>cx.vy 1 (ex_eq (x:=.tmp 6) rfl cx.u0 rfl) (congrArg Value.bool Ffk2.out)) <|
   kq (fun cx=>ex_pf rfl cx.u0 cx.u1) <|
   kmu 0 <|
   hn) ?_
  intro a3 w3 f3
  refine wp_ret ?_
  try simp only [Exit.inBlock,Exit.then]
  refine bodyPost_ret (res_t (fn:=Tryz.f99) rfl (f3.vv 6)) f3.d ?_
  have HE:(.bool true:Value)=.bool (inMemB n):=by unfold inMemB;simp only [Ffk1.out,Ffk2.out,zbs,if_true,if_false,Bool.false_eq_true,Bool.true_eq_false,reduceCtorEq];try rfl
  exact ⟨retV HE,f3.b⟩
 have Ffk2:=Lib.hid fk2;clear fk2
 have s0_3:=f1.q 0 s0_0
 refine go_reg [] [] [some (.int .i8 n),oF,oF,some (.int .i8 n),oF,oF,oF] mo f1.d f1.z f1.b (by kernel_rfl) trivial (
  kq (fun cx=>ex_mv rfl (cx.rq 0 s0_3)) <|
  hk (fun cx=>cx.v (ex_eq (x:=.tmp 3) rfl cx.u0 rfl) rfl (congrArg Value.bool Ffk1.out)) <|
  kmu 0 <|
  hk (fun cx=>cx.vy 0 (ex_mv rfl (cx.rq 0 s0_3))) <|
  hk (fun cx=>cx.vy 1 (ex_eq (x:=.tmp 6) rfl cx.u0 rfl) (congrArg Value.bool Ffk2.out)) <|
  kq (fun cx=>ex_pf rfl cx.u0 cx.u1) <|
  kmu 0 <|
  hn) ?_
 intro a4 w4 f4
 refine wp_ret ?_
 try simp only [Exit.inBlock,Exit.then]
 refine bodyPost_ret (res_t (fn:=Tryz.f99) rfl (f4.vv 6)) f4.d ?_
 have HE:(.bool false:Value)=.bool (inMemB n):=by unfold inMemB;simp only [Ffk1.out,Ffk2.out,zbs,if_true,if_false,Bool.false_eq_true,Bool.true_eq_false,reduceCtorEq];try rfl
 exact ⟨retV HE,f4.b⟩
theorem cinOp_n (n:Int)(W:World):Calls Tryz.prog 101 #[.int .i8 n] W fun e w'=>e=.returned (.bool (inOpB n))∧Below W.heap.size W w':=by
 refine calls_abs Tryz.func101 rfl (Nat.le_of_ble_eq_true rfl) ?_
 intro a0 d0 z0 h0
 replace z0:a0.tmps.size=12:=z0
 have s0_0:a0.tmps.getD 0 undef=.int .i8 n:=h0 0 (Nat.le_of_ble_eq_true rfl)
 refine wp_seq ?_
 refine go_reg [] [] [oF] mo d0 z0 (Below.refl _ _) (by kernel_rfl) trivial (
  kq (fun cx=>ex_as rfl rfl) <|
  hn) ?_
 intro a1 w1 f1
 refine wp_seq ?_
 refine wp_seq ?_
 have s0_1:=f1.q 0 s0_0
 refine go_reg [] [] [some (.int .i8 n)] mo f1.d f1.z f1.b (by kernel_rfl) trivial (
  kq (fun cx=>ex_mv rfl (cx.rq 0 s0_1)) <|
  hn) ?_
 intro a2 w2 f2
 refine wp_block ?_
 refine wp_seq ?_
 refine wp_seq ?_
 cases fk1:n == 1
 case true=>
  have Ffk1:=Lib.hid fk1;clear fk1
  refine go_reg [] [] [oT,oT] mo f2.d f2.z f2.b (by kernel_rfl) trivial (
   hk (fun cx=>cx.v (ex_eq (x:=.tmp 3) rfl (cx.rq 3 (f2.vv 0)) rfl) rfl (congrArg Value.bool Ffk1.out)) <|
   kmu 0 <|
   hn) ?_
  intro a3 w3 f3
  refine wp_cond_true (f3.vv 1) ?_
  refine wp_skip ?_
  refine wp_cond_true (f3.vv 1) ?_
  refine wp_seq ?_
  refine go_reg [] [] [oT] mo f3.d f3.z f3.b (by kernel_rfl) trivial (
   kq (fun cx=>ex_as rfl rfl) <|
   hn) ?_
  intro a4 w4 f4
  refine wp_ret ?_
  try simp only [Exit.inBlock,Exit.then]
  refine bodyPost_ret (res_t (fn:=Tryz.f101) rfl (f4.vv 0)) f4.d ?_
  have HE:(.bool true:Value)=.bool (inOpB n):=by unfold inOpB;simp only [Ffk1.out,zbs,if_true,if_false,Bool.false_eq_true,Bool.true_eq_false,reduceCtorEq];try rfl
  exact ⟨retV HE,f4.b⟩
 have Ffk1:=Lib.hid fk1;clear fk1
 refine go_reg [] [] [oF,oF] mo f2.d f2.z f2.b (by kernel_rfl) trivial (
  hk (fun cx=>cx.v (ex_eq (x:=.tmp 3) rfl (cx.rq 3 (f2.vv 0)) rfl) rfl (congrArg Value.bool Ffk1.out)) <|
  kmu 0 <|
  hn) ?_
 intro a5 w5 f5
 refine wp_cond_false (f5.vv 1) ?_
 refine wp_seq ?_
 cases fk2:n == 2
 case true=>
  have Ffk2:=Lib.hid fk2;clear fk2
  have s3_2:=f5.q 3 (f2.vv 0)
  refine go_reg [] [] [oT,oT] mo f5.d f5.z f5.b (by kernel_rfl) trivial (
   hk (fun cx=>cx.v (ex_eq (x:=.tmp 3) rfl (cx.rq 3 s3_2) rfl) rfl (congrArg Value.bool Ffk2.out)) <|
   kmu 0 <|
   hn) ?_
  intro a6 w6 f6
  refine wp_cond_true (f6.vv 1) ?_
  refine wp_skip ?_
  refine wp_cond_true (f6.vv 1) ?_
  refine wp_seq ?_
  refine go_reg [] [] [oT] mo f6.d f6.z f6.b (by kernel_rfl) trivial (
   kq (fun cx=>ex_as rfl rfl) <|
   hn) ?_
  intro a7 w7 f7
  refine wp_ret ?_
  try simp only [Exit.inBlock,Exit.then]
  refine bodyPost_ret (res_t (fn:=Tryz.f101) rfl (f7.vv 0)) f7.d ?_
  have HE:(.bool true:Value)=.bool (inOpB n):=by unfold inOpB;simp only [Ffk1.out,Ffk2.out,zbs,if_true,if_false,Bool.false_eq_true,Bool.true_eq_false,reduceCtorEq];try rfl
  exact ⟨retV HE,f7.b⟩
 have Ffk2:=Lib.hid fk2;clear fk2
 have s3_3:=f5.q 3 (f2.vv 0)
 refine go_reg [] [] [oF,oF] mo f5.d f5.z f5.b (by kernel_rfl) trivial (
  hk (fun cx=>cx.v (ex_eq (x:=.tmp 3) rfl (cx.rq 3 s3_3) rfl) rfl (congrArg Value.bool Ffk2.out)) <|
  kmu 0 <|
  hn) ?_
 intro a8 w8 f8
 refine wp_cond_false (f8.vv 1) ?_
 refine wp_seq ?_
 cases fk3:n == 3
 case true=>
  have Ffk3:=Lib.hid fk3;clear fk3
  have s3_4:=f8.q 3 s3_3
  refine go_reg [] [] [oT,oT] mo f8.d f8.z f8.b (by kernel_rfl) trivial (
   hk (fun cx=>cx.v (ex_eq (x:=.tmp 3) rfl (cx.rq 3 s3_4) rfl) rfl (congrArg Value.bool Ffk3.out)) <|
   kmu 0 <|
   hn) ?_
  intro a9 w9 f9
  refine wp_cond_true (f9.vv 1) ?_
  refine wp_skip ?_
  refine wp_cond_true (f9.vv 1) ?_
  refine wp_seq ?_
  refine go_reg [] [] [oT] mo f9.d f9.z f9.b (by kernel_rfl) trivial (
   kq (fun cx=>ex_as rfl rfl) <|
   hn) ?_
  intro a10 w10 f10
  refine wp_ret ?_
  try simp only [Exit.inBlock,Exit.then]
  refine bodyPost_ret (res_t (fn:=Tryz.f101) rfl (f10.vv 0)) f10.d ?_
  have HE:(.bool true:Value)=.bool (inOpB n):=by unfold inOpB;simp only [Ffk1.out,Ffk2.out,Ffk3.out,zbs,if_true,if_false,Bool.false_eq_true,Bool.true_eq_false,reduceCtorEq];try rfl
  exact ⟨retV HE,f10.b⟩
 have Ffk3:=Lib.hid fk3;clear fk3
 have s3_5:=f8.q 3 s3_3
 refine go_reg [] [] [oF,oF] mo f8.d f8.z f8.b (by kernel_rfl) trivial (
  hk (fun cx=>cx.v (ex_eq (x:=.tmp 3) rfl (cx.rq 3 s3_5) rfl) rfl (congrArg Value.bool Ffk3.out)) <|
  kmu 0 <|
  hn) ?_
 intro a11 w11 f11
 refine wp_cond_false (f11.vv 1) ?_
 refine wp_seq ?_
 cases fk4:n == 4
 case true=>
  have Ffk4:=Lib.hid fk4;clear fk4
  have s3_6:=f11.q 3 s3_5
  refine go_reg [] [] [oT,oT] mo f11.d f11.z f11.b (by kernel_rfl) trivial (
   hk (fun cx=>cx.v (ex_eq (x:=.tmp 3) rfl (cx.rq 3 s3_6) rfl) rfl (congrArg Value.bool Ffk4.out)) <|
   kmu 0 <|
   hn) ?_
  intro a12 w12 f12
  refine wp_cond_true (f12.vv 1) ?_
  refine wp_skip ?_
  refine wp_cond_true (f12.vv 1) ?_
  refine wp_seq ?_
  refine go_reg [] [] [oT] mo f12.d f12.z f12.b (by kernel_rfl) trivial (
   kq (fun cx=>ex_as rfl rfl) <|
   hn) ?_
  intro a13 w13 f13
  refine wp_ret ?_
  try simp only [Exit.inBlock,Exit.then]
  refine bodyPost_ret (res_t (fn:=Tryz.f101) rfl (f13.vv 0)) f13.d ?_
  have HE:(.bool true:Value)=.bool (inOpB n):=by unfold inOpB;simp only [Ffk1.out,Ffk2.out,Ffk3.out,Ffk4.out,zbs,if_true,if_false,Bool.false_eq_true,Bool.true_eq_false,reduceCtorEq];try rfl
  exact ⟨retV HE,f13.b⟩
 have Ffk4:=Lib.hid fk4;clear fk4
 have s3_7:=f11.q 3 s3_5
 refine go_reg [] [] [oF,oF] mo f11.d f11.z f11.b (by kernel_rfl) trivial (
  hk (fun cx=>cx.v (ex_eq (x:=.tmp 3) rfl (cx.rq 3 s3_7) rfl) rfl (congrArg Value.bool Ffk4.out)) <|
  kmu 0 <|
  hn) ?_
 intro a14 w14 f14
 refine wp_cond_false (f14.vv 1) ?_
 refine wp_seq ?_
 cases fk5:n == 5
 case true=>
  have Ffk5:=Lib.hid fk5;clear fk5
  have s3_8:=f14.q 3 s3_7
  refine go_reg [] [] [oT,oT] mo f14.d f14.z f14.b (by kernel_rfl) trivial (
   hk (fun cx=>cx.v (ex_eq (x:=.tmp 3) rfl (cx.rq 3 s3_8) rfl) rfl (congrArg Value.bool Ffk5.out)) <|
   kmu 0 <|
   hn) ?_
  intro a15 w15 f15
  refine wp_cond_true (f15.vv 1) ?_
  refine wp_skip ?_
  refine wp_cond_true (f15.vv 1) ?_
  refine wp_seq ?_
  refine go_reg [] [] [oT] mo f15.d f15.z f15.b (by kernel_rfl) trivial (
   kq (fun cx=>ex_as rfl rfl) <|
   hn) ?_
  intro a16 w16 f16
  refine wp_ret ?_
  try simp only [Exit.inBlock,Exit.then]
  refine bodyPost_ret (res_t (fn:=Tryz.f101) rfl (f16.vv 0)) f16.d ?_
  have HE:(.bool true:Value)=.bool (inOpB n):=by unfold inOpB;simp only [Ffk1.out,Ffk2.out,Ffk3.out,Ffk4.out,Ffk5.out,zbs,if_true,if_false,Bool.false_eq_true,Bool.true_eq_false,reduceCtorEq];try rfl
  exact ⟨retV HE,f16.b⟩
 have Ffk5:=Lib.hid fk5;clear fk5
 have s3_9:=f14.q 3 s3_7
 refine go_reg [] [] [oF,oF] mo f14.d f14.z f14.b (by kernel_rfl) trivial (
  hk (fun cx=>cx.v (ex_eq (x:=.tmp 3) rfl (cx.rq 3 s3_9) rfl) rfl (congrArg Value.bool Ffk5.out)) <|
  kmu 0 <|
  hn) ?_
 intro a17 w17 f17
 refine wp_cond_false (f17.vv 1) ?_
 refine wp_seq ?_
 cases fk6:n == 7
 case true=>
  have Ffk6:=Lib.hid fk6;clear fk6
  have s3_10:=f17.q 3 s3_9
  refine go_reg [] [] [oT,oT] mo f17.d f17.z f17.b (by kernel_rfl) trivial (
   hk (fun cx=>cx.v (ex_eq (x:=.tmp 3) rfl (cx.rq 3 s3_10) rfl) rfl (congrArg Value.bool Ffk6.out)) <|
   kmu 0 <|
   hn) ?_
  intro a18 w18 f18
  refine wp_cond_true (f18.vv 1) ?_
  refine wp_skip ?_
  refine wp_cond_true (f18.vv 1) ?_
  refine wp_seq ?_
  refine go_reg [] [] [oT] mo f18.d f18.z f18.b (by kernel_rfl) trivial (
   kq (fun cx=>ex_as rfl rfl) <|
   hn) ?_
  intro a19 w19 f19
  refine wp_ret ?_
  try simp only [Exit.inBlock,Exit.then]
  refine bodyPost_ret (res_t (fn:=Tryz.f101) rfl (f19.vv 0)) f19.d ?_
  have HE:(.bool true:Value)=.bool (inOpB n):=by unfold inOpB;simp only [Ffk1.out,Ffk2.out,Ffk3.out,Ffk4.out,Ffk5.out,Ffk6.out,zbs,if_true,if_false,Bool.false_eq_true,Bool.true_eq_false,reduceCtorEq];try rfl
  exact ⟨retV HE,f19.b⟩
 have Ffk6:=Lib.hid fk6;clear fk6
 have s3_11:=f17.q 3 s3_9
 refine go_reg [] [] [oF,oF] mo f17.d f17.z f17.b (by kernel_rfl) trivial (
  hk (fun cx=>cx.v (ex_eq (x:=.tmp 3) rfl (cx.rq 3 s3_11) rfl) rfl (congrArg Value.bool Ffk6.out)) <|
  kmu 0 <|
  hn) ?_
 intro a20 w20 f20
 refine wp_cond_false (f20.vv 1) ?_
 cases fk7:n == 8
 case true=>
  have Ffk7:=Lib.hid fk7;clear fk7
  have s3_12:=f20.q 3 s3_11
  refine go_reg [] [] [oT,oT] mo f20.d f20.z f20.b (by kernel_rfl) trivial (
   hk (fun cx=>cx.v (ex_eq (x:=.tmp 3) rfl (cx.rq 3 s3_12) rfl) rfl (congrArg Value.bool Ffk7.out)) <|
   kmu 0 <|
   hn) ?_
  intro a21 w21 f21
  refine wp_cond_true (f21.vv 1) ?_
  refine wp_seq ?_
  refine go_reg [] [] [oT] mo f21.d f21.z f21.b (by kernel_rfl) trivial (
   kq (fun cx=>ex_as rfl rfl) <|
   hn) ?_
  intro a22 w22 f22
  refine wp_ret ?_
  try simp only [Exit.inBlock,Exit.then]
  refine bodyPost_ret (res_t (fn:=Tryz.f101) rfl (f22.vv 0)) f22.d ?_
  have HE:(.bool true:Value)=.bool (inOpB n):=by unfold inOpB;simp only [Ffk1.out,Ffk2.out,Ffk3.out,Ffk4.out,Ffk5.out,Ffk6.out,Ffk7.out,zbs,if_true,if_false,Bool.false_eq_true,Bool.true_eq_false,reduceCtorEq];try rfl
  exact ⟨retV HE,f22.b⟩
 have Ffk7:=Lib.hid fk7;clear fk7
 have s3_13:=f20.q 3 s3_11
 refine go_reg [] [] [oF,oF] mo f20.d f20.z f20.b (by kernel_rfl) trivial (
  hk (fun cx=>cx.v (ex_eq (x:=.tmp 3) rfl (cx.rq 3 s3_13) rfl) rfl (congrArg Value.bool Ffk7.out)) <|
  kmu 0 <|
  hn) ?_
 intro a23 w23 f23
 refine wp_cond_false (f23.vv 1) ?_
 refine wp_skip ?_
 refine wp_seq ?_
 refine go_reg [] [] [oF] mo f23.d f23.z f23.b (by kernel_rfl) trivial (
  kq (fun cx=>ex_as rfl rfl) <|
  hn) ?_
 intro a24 w24 f24
 refine wp_ret ?_
 try simp only [Exit.inBlock,Exit.then]
 refine bodyPost_ret (res_t (fn:=Tryz.f101) rfl (f24.vv 0)) f24.d ?_
 have HE:(.bool false:Value)=.bool (inOpB n):=by unfold inOpB;simp only [Ffk1.out,Ffk2.out,Ffk3.out,Ffk4.out,Ffk5.out,Ffk6.out,Ffk7.out,zbs,if_true,if_false,Bool.false_eq_true,Bool.true_eq_false,reduceCtorEq];try rfl
 exact ⟨retV HE,f24.b⟩
theorem cimm_n (n:Int)(W:World):Calls Tryz.prog 103 #[.int .i8 n] W fun e w'=>e=.returned (.int .i64 (immN n))∧Below W.heap.size W w':=by
 refine calls_abs Tryz.func103 rfl (Nat.le_of_ble_eq_true rfl) ?_
 intro a0 d0 z0 h0
 replace z0:a0.tmps.size=11:=z0
 have s0_0:a0.tmps.getD 0 undef=.int .i8 n:=h0 0 (Nat.le_of_ble_eq_true rfl)
 refine wp_seq ?_
 refine go_reg [] [] [some (.int .i64 0)] mo d0 z0 (Below.refl _ _) (by kernel_rfl) trivial (
  kq (fun cx=>ex_as rfl rfl) <|
  hn) ?_
 intro a1 w1 f1
 refine wp_seq ?_
 refine wp_seq ?_
 have s0_1:=f1.q 0 s0_0
 refine go_reg [] [] [some (.int .i8 n)] mo f1.d f1.z f1.b (by kernel_rfl) trivial (
  kq (fun cx=>ex_mv rfl (cx.rq 0 s0_1)) <|
  hn) ?_
 intro a2 w2 f2
 refine wp_block ?_
 refine wp_seq ?_
 refine wp_seq ?_
 cases fk1:n == 3
 case true=>
  have Ffk1:=Lib.hid fk1;clear fk1
  refine go_reg [] [] [oT,oT] mo f2.d f2.z f2.b (by kernel_rfl) trivial (
   hk (fun cx=>cx.v (ex_eq (x:=.tmp 3) rfl (cx.rq 3 (f2.vv 0)) rfl) rfl (congrArg Value.bool Ffk1.out)) <|
   kmu 0 <|
   hn) ?_
  intro a3 w3 f3
  refine wp_cond_true (f3.vv 1) ?_
  refine wp_skip ?_
  refine wp_cond_true (f3.vv 1) ?_
  refine wp_seq ?_
  refine go_reg [] [] [some (.int .i64 4)] mo f3.d f3.z f3.b (by kernel_rfl) trivial (
   kq (fun cx=>ex_as rfl rfl) <|
   hn) ?_
  intro a4 w4 f4
  refine wp_ret ?_
  try simp only [Exit.inBlock,Exit.then]
  refine bodyPost_ret (res_t (fn:=Tryz.f103) rfl (f4.vv 0)) f4.d ?_
  have HE:(.int .i64 4:Value)=.int .i64 (immN n):=by unfold immN;simp only [Ffk1.out,cond_true,cond_false,zbs,if_true,if_false,Bool.false_eq_true,Bool.true_eq_false,reduceCtorEq];try rfl
  exact ⟨retV HE,f4.b⟩
 have Ffk1:=Lib.hid fk1;clear fk1
 refine go_reg [] [] [oF,oF] mo f2.d f2.z f2.b (by kernel_rfl) trivial (
  hk (fun cx=>cx.v (ex_eq (x:=.tmp 3) rfl (cx.rq 3 (f2.vv 0)) rfl) rfl (congrArg Value.bool Ffk1.out)) <|
  kmu 0 <|
  hn) ?_
 intro a5 w5 f5
 refine wp_cond_false (f5.vv 1) ?_
 refine wp_seq ?_
 cases fk2:n == 6
 case true=>
  have Ffk2:=Lib.hid fk2;clear fk2
  have s3_2:=f5.q 3 (f2.vv 0)
  refine go_reg [] [] [oT,oT] mo f5.d f5.z f5.b (by kernel_rfl) trivial (
   hk (fun cx=>cx.v (ex_eq (x:=.tmp 3) rfl (cx.rq 3 s3_2) rfl) rfl (congrArg Value.bool Ffk2.out)) <|
   kmu 0 <|
   hn) ?_
  intro a6 w6 f6
  refine wp_cond_true (f6.vv 1) ?_
  refine wp_skip ?_
  refine wp_cond_true (f6.vv 1) ?_
  refine wp_seq ?_
  refine go_reg [] [] [some (.int .i64 4)] mo f6.d f6.z f6.b (by kernel_rfl) trivial (
   kq (fun cx=>ex_as rfl rfl) <|
   hn) ?_
  intro a7 w7 f7
  refine wp_ret ?_
  try simp only [Exit.inBlock,Exit.then]
  refine bodyPost_ret (res_t (fn:=Tryz.f103) rfl (f7.vv 0)) f7.d ?_
  have HE:(.int .i64 4:Value)=.int .i64 (immN n):=by unfold immN;simp only [Ffk1.out,Ffk2.out,cond_true,cond_false,zbs,if_true,if_false,Bool.false_eq_true,Bool.true_eq_false,reduceCtorEq];try rfl
  exact ⟨retV HE,f7.b⟩
 have Ffk2:=Lib.hid fk2;clear fk2
 have s3_3:=f5.q 3 (f2.vv 0)
 refine go_reg [] [] [oF,oF] mo f5.d f5.z f5.b (by kernel_rfl) trivial (
  hk (fun cx=>cx.v (ex_eq (x:=.tmp 3) rfl (cx.rq 3 s3_3) rfl) rfl (congrArg Value.bool Ffk2.out)) <|
  kmu 0 <|
  hn) ?_
 intro a8 w8 f8
 refine wp_cond_false (f8.vv 1) ?_
 cases fk3:n == 9
 case true=>
  have Ffk3:=Lib.hid fk3;clear fk3
  have s3_4:=f8.q 3 s3_3
  refine go_reg [] [] [oT,oT] mo f8.d f8.z f8.b (by kernel_rfl) trivial (
   hk (fun cx=>cx.v (ex_eq (x:=.tmp 3) rfl (cx.rq 3 s3_4) rfl) rfl (congrArg Value.bool Ffk3.out)) <|
   kmu 0 <|
   hn) ?_
  intro a9 w9 f9
  refine wp_cond_true (f9.vv 1) ?_
  refine wp_seq ?_
  refine go_reg [] [] [some (.int .i64 4)] mo f9.d f9.z f9.b (by kernel_rfl) trivial (
   kq (fun cx=>ex_as rfl rfl) <|
   hn) ?_
  intro a10 w10 f10
  refine wp_ret ?_
  try simp only [Exit.inBlock,Exit.then]
  refine bodyPost_ret (res_t (fn:=Tryz.f103) rfl (f10.vv 0)) f10.d ?_
  have HE:(.int .i64 4:Value)=.int .i64 (immN n):=by unfold immN;simp only [Ffk1.out,Ffk2.out,Ffk3.out,cond_true,cond_false,zbs,if_true,if_false,Bool.false_eq_true,Bool.true_eq_false,reduceCtorEq];try rfl
  exact ⟨retV HE,f10.b⟩
 have Ffk3:=Lib.hid fk3;clear fk3
 have s3_5:=f8.q 3 s3_3
 refine go_reg [] [] [oF,oF] mo f8.d f8.z f8.b (by kernel_rfl) trivial (
  hk (fun cx=>cx.v (ex_eq (x:=.tmp 3) rfl (cx.rq 3 s3_5) rfl) rfl (congrArg Value.bool Ffk3.out)) <|
  kmu 0 <|
  hn) ?_
 intro a11 w11 f11
 refine wp_cond_false (f11.vv 1) ?_
 refine wp_seq ?_
 refine wp_seq ?_
 cases fk4:n == 4
 case true=>
  have Ffk4:=Lib.hid fk4;clear fk4
  have s3_6:=f11.q 3 s3_5
  refine go_reg [] [] [oT,oT] mo f11.d f11.z f11.b (by kernel_rfl) trivial (
   hk (fun cx=>cx.v (ex_eq (x:=.tmp 3) rfl (cx.rq 3 s3_6) rfl) rfl (congrArg Value.bool Ffk4.out)) <|
   kmu 0 <|
   hn) ?_
  intro a12 w12 f12
  refine wp_cond_true (f12.vv 1) ?_
  refine wp_skip ?_
  refine wp_cond_true (f12.vv 1) ?_
  refine wp_seq ?_
  refine go_reg [] [] [some (.int .i64 1)] mo f12.d f12.z f12.b (by kernel_rfl) trivial (
   kq (fun cx=>ex_as rfl rfl) <|
   hn) ?_
  intro a13 w13 f13
  refine wp_ret ?_
  try simp only [Exit.inBlock,Exit.then]
  refine bodyPost_ret (res_t (fn:=Tryz.f103) rfl (f13.vv 0)) f13.d ?_
  have HE:(.int .i64 1:Value)=.int .i64 (immN n):=by unfold immN;simp only [Ffk1.out,Ffk4.out,Ffk2.out,Ffk3.out,cond_true,cond_false,zbs,if_true,if_false,Bool.false_eq_true,Bool.true_eq_false,reduceCtorEq];try rfl
  exact ⟨retV HE,f13.b⟩
 have Ffk4:=Lib.hid fk4;clear fk4
 have s3_7:=f11.q 3 s3_5
 refine go_reg [] [] [oF,oF] mo f11.d f11.z f11.b (by kernel_rfl) trivial (
  hk (fun cx=>cx.v (ex_eq (x:=.tmp 3) rfl (cx.rq 3 s3_7) rfl) rfl (congrArg Value.bool Ffk4.out)) <|
  kmu 0 <|
  hn) ?_
 intro a14 w14 f14
 refine wp_cond_false (f14.vv 1) ?_
 cases fk5:n == 10
 case true=>
  have Ffk5:=Lib.hid fk5;clear fk5
  have s3_8:=f14.q 3 s3_7
  refine go_reg [] [] [oT,oT] mo f14.d f14.z f14.b (by kernel_rfl) trivial (
   hk (fun cx=>cx.v (ex_eq (x:=.tmp 3) rfl (cx.rq 3 s3_8) rfl) rfl (congrArg Value.bool Ffk5.out)) <|
   kmu 0 <|
   hn) ?_
  intro a15 w15 f15
  refine wp_cond_true (f15.vv 1) ?_
  refine wp_seq ?_
  refine go_reg [] [] [some (.int .i64 1)] mo f15.d f15.z f15.b (by kernel_rfl) trivial (
   kq (fun cx=>ex_as rfl rfl) <|
   hn) ?_
  intro a16 w16 f16
  refine wp_ret ?_
  try simp only [Exit.inBlock,Exit.then]
  refine bodyPost_ret (res_t (fn:=Tryz.f103) rfl (f16.vv 0)) f16.d ?_
  have HE:(.int .i64 1:Value)=.int .i64 (immN n):=by unfold immN;simp only [Ffk1.out,Ffk4.out,Ffk2.out,Ffk3.out,Ffk5.out,cond_true,cond_false,zbs,if_true,if_false,Bool.false_eq_true,Bool.true_eq_false,reduceCtorEq];try rfl
  exact ⟨retV HE,f16.b⟩
 have Ffk5:=Lib.hid fk5;clear fk5
 have s3_9:=f14.q 3 s3_7
 refine go_reg [] [] [oF,oF] mo f14.d f14.z f14.b (by kernel_rfl) trivial (
  hk (fun cx=>cx.v (ex_eq (x:=.tmp 3) rfl (cx.rq 3 s3_9) rfl) rfl (congrArg Value.bool Ffk5.out)) <|
  kmu 0 <|
  hn) ?_
 intro a17 w17 f17
 refine wp_cond_false (f17.vv 1) ?_
 refine wp_skip ?_
 refine wp_seq ?_
 refine go_reg [] [] [some (.int .i64 0)] mo f17.d f17.z f17.b (by kernel_rfl) trivial (
  kq (fun cx=>ex_as rfl rfl) <|
  hn) ?_
 intro a18 w18 f18
 refine wp_ret ?_
 try simp only [Exit.inBlock,Exit.then]
 refine bodyPost_ret (res_t (fn:=Tryz.f103) rfl (f18.vv 0)) f18.d ?_
 have HE:(.int .i64 0:Value)=.int .i64 (immN n):=by unfold immN;simp only [Ffk1.out,Ffk4.out,Ffk2.out,Ffk3.out,Ffk5.out,cond_true,cond_false,zbs,if_true,if_false,Bool.false_eq_true,Bool.true_eq_false,reduceCtorEq];try rfl
 exact ⟨retV HE,f18.b⟩
end Go.Proofs.YtjhedldplmhmjaaGreatDoor.Mrm
