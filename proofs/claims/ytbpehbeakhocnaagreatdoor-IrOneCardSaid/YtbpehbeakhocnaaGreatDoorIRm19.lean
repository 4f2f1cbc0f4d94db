import Derived.Test.YtbpehbeakhocnaaGreatDoorIRm16
import Derived.Test.YtbpehbeakhocnaaGreatDoorIRm02
import Derived.BigRegion
import Derived.Deep.QuietTactic
import Derived.BigQuiet
import Derived.Test.YtbpehbeakhocnaaGreatDoorIRm17
import Derived.Test.YtbpehbeakhocnaaGreatDoorIRm18
set_option maxHeartbeats 4000000
set_option linter.unusedVariables false
set_option linter.unusedSimpArgs false
set_option linter.unnecessarySimpa false
namespace Go.Proofs.YtbpehbeakhocnaaGreatDoor.Mrm
open Go Go.RowKit
set_option maxRecDepth 100000
theorem ah_0_64_x_ic0 (op wd dst src base disp imm cc sh at_ va dg lo reg rm pdisp pimm pcc z q r:Int) (W:World) (es:(sh == 8)=false) (e64:(wd == 64)=true) (hb:bothB reg rm=true) (el:(lo == 15)=false) (e6:(sh == 6)=true) (ez:bits .or .u16 va (bits .and .u16 (IntKind.u16.wrap rm) 7)=z) (eq:IntKind.u8.wrap (z / 256)=q) (er:IntKind.u8.wrap z=r) (ef:(q != 0)=false) (hq:0 ≤ q ∧ q < 256) (hr:0 ≤ r ∧ r < 256):
    Calls Tryz.prog 136 #[.agg #[.int .i8 op,.int .i8 wd,.int .i8 dst,.int .i8 src,.int .i8 base,.int .i64 disp,.int .i64 imm,.int .i8 cc],.agg #[.int .i8 sh,.int .i8 at_,.int .u16 va,.int .i8 dg,.int .u16 lo],.agg #[.int .i8 reg,.int .i8 rm,.int .i64 pdisp,.int .i64 pimm,.int .i8 pcc]] W (RetV ([rexI true reg rm] ++ [r]) W):=by
  have RX:=Lib.hid (fun W=>rex_n true reg rm W)
  rw [hb] at RX
  simp only [cond_true] at RX
  have hk:=Lib.hid (rexI_bd true reg rm)
  generalize rexI true reg rm=k at *
  clear hb
  have hq1:=Lib.hid hq
  have hr1:=Lib.hid hr
  clear hq hr
  unfold RetV
  go_enter Tryz.func136,Tryz.ntmps136
  go_wp2_with fail
  go_region
  have B0:=Lib.hid (show Below (W.heap.size + 3) (((W.alloc (.cells #[.int .i8 op,.int .i8 wd,.int .i8 dst,.int .i8 src,.int .i8 base,.int .i64 disp,.int .i64 imm,.int .i8 cc] 38)).alloc (.cells #[.int .i8 sh,.int .i8 at_,.int .u16 va,.int .i8 dg,.int .u16 lo] 106)).alloc (.cells #[.int .i8 reg,.int .i8 rm,.int .i64 pdisp,.int .i64 pimm,.int .i8 pcc] 111)) ((((W.alloc (.cells #[.int .i8 op,.int .i8 wd,.int .i8 dst,.int .i8 src,.int .i8 base,.int .i64 disp,.int .i64 imm,.int .i8 cc] 38)).alloc (.cells #[.int .i8 sh,.int .i8 at_,.int .u16 va,.int .i8 dg,.int .u16 lo] 106)).alloc (.cells #[.int .i8 reg,.int .i8 rm,.int .i64 pdisp,.int .i64 pimm,.int .i8 pcc] 111)).drew) from (Below.refl _ _).drew)
  have O0:=Lib.hid (show Bts (W.heap.size + 3) ((((W.alloc (.cells #[.int .i8 op,.int .i8 wd,.int .i8 dst,.int .i8 src,.int .i8 base,.int .i64 disp,.int .i64 imm,.int .i8 cc] 38)).alloc (.cells #[.int .i8 sh,.int .i8 at_,.int .u16 va,.int .i8 dg,.int .u16 lo] 106)).alloc (.cells #[.int .i8 reg,.int .i8 rm,.int .i64 pdisp,.int .i64 pimm,.int .i8 pcc] 111)).drew) (.slice none 0 0) [] from Bts.nil _ _)
  obtain ⟨c0_0,c1_0,c2_0,c3_0,c4_0,c5_0,c6_0⟩:=acells B0.out
  generalize (((W.alloc (.cells #[.int .i8 op,.int .i8 wd,.int .i8 dst,.int .i8 src,.int .i8 base,.int .i64 disp,.int .i64 imm,.int .i8 cc] 38)).alloc (.cells #[.int .i8 sh,.int .i8 at_,.int .u16 va,.int .i8 dg,.int .u16 lo] 106)).alloc (.cells #[.int .i8 reg,.int .i8 rm,.int .i64 pdisp,.int .i64 pimm,.int .i8 pcc] 111)).drew=w0 at *
  generalize Value.slice none 0 0=v0 at *
  go_wp2_with fail
  refine (RX.out _).mono ?_
  rintro e y ⟨rfl,rfl⟩
  go_wp2_with (at_builtin;refine wpList_append_b rfl _ _ rfl (W.heap.size + 3) _ [] rfl (O0.out.below (below_new (Below.refl _ _) _)) _ 1 1 [k] rfl (one_at _ k hk.out) (by simp) (Nat.le_trans (size3 B0.out) (by rw [size_alloc];omega)) ?_)
  intro v1 w1 o1 g1
  have O1:=Lib.hid (show Bts (W.heap.size + 3) w1 v1 [k] from o1)
  have B1:=Lib.hid (below_grownN (below_new3 B0.out _) (size3 (below_new3 B0.out _)) g1 (fun j hj=>O0.out.lt j hj))
  clear o1 g1
  obtain ⟨c0_1,c1_1,c2_1,c3_1,c4_1,c5_1,c6_1⟩:=acells B1.out
  clear c0_0 c1_0 c2_0 c3_0 c4_0 c5_0 c6_0
  go_wp2_with (at_builtin;refine wpList_append_b rfl _ _ rfl (W.heap.size + 3) _ [k] rfl (O1.out.below (below_new (Below.refl _ _) _)) _ 1 1 [r] rfl (one_at _ r hr1.out) (by simp) (Nat.le_trans (size3 B1.out) (by rw [size_alloc];omega)) ?_)
  intro v2 w2 o2 g2
  have O2:=Lib.hid (show Bts (W.heap.size + 3) w2 v2 ([k] ++ [r]) from o2)
  have B2:=Lib.hid (below_grownN (below_new3 B1.out _) (size3 (below_new3 B1.out _)) g2 (fun j hj=>O1.out.lt j hj))
  clear o2 g2
  obtain ⟨c0_2,c1_2,c2_2,c3_2,c4_2,c5_2,c6_2⟩:=acells B2.out
  clear c0_1 c1_1 c2_1 c3_1 c4_1 c5_1 c6_1
  go_wp2_with fail
  go_ret
  exact ⟨_,rfl,O2.out.mono (Nat.le_add_right _ _),below3 B2.out⟩
theorem ah_0_0_r_ic0 (op wd dst src base disp imm cc sh at_ va dg lo reg rm pdisp pimm pcc z q r:Int) (W:World) (es:(sh == 8)=false) (e64:(wd == 64)=false) (nd:needB reg rm=true) (hb:bothB reg rm=true) (el:(lo == 15)=false) (e6:(sh == 6)=true) (ez:bits .or .u16 va (bits .and .u16 (IntKind.u16.wrap rm) 7)=z) (eq:IntKind.u8.wrap (z / 256)=q) (er:IntKind.u8.wrap z=r) (ef:(q != 0)=false) (hq:0 ≤ q ∧ q < 256) (hr:0 ≤ r ∧ r < 256):
    Calls Tryz.prog 136 #[.agg #[.int .i8 op,.int .i8 wd,.int .i8 dst,.int .i8 src,.int .i8 base,.int .i64 disp,.int .i64 imm,.int .i8 cc],.agg #[.int .i8 sh,.int .i8 at_,.int .u16 va,.int .i8 dg,.int .u16 lo],.agg #[.int .i8 reg,.int .i8 rm,.int .i64 pdisp,.int .i64 pimm,.int .i8 pcc]] W (RetV ([rexI false reg rm] ++ [r]) W):=by
  have ND:=Lib.hid (fun W=>needs_n reg rm W)
  rw [nd] at ND
  have RX:=Lib.hid (fun W=>rex_n false reg rm W)
  rw [hb] at RX
  simp only [cond_true] at RX
  have hk:=Lib.hid (rexI_bd false reg rm)
  generalize rexI false reg rm=k at *
  clear hb nd
  have hq1:=Lib.hid hq
  have hr1:=Lib.hid hr
  clear hq hr
  unfold RetV
  go_enter Tryz.func136,Tryz.ntmps136
  go_wp2_with fail
  go_region
  have B0:=Lib.hid (show Below (W.heap.size + 3) (((W.alloc (.cells #[.int .i8 op,.int .i8 wd,.int .i8 dst,.int .i8 src,.int .i8 base,.int .i64 disp,.int .i64 imm,.int .i8 cc] 38)).alloc (.cells #[.int .i8 sh,.int .i8 at_,.int .u16 va,.int .i8 dg,.int .u16 lo] 106)).alloc (.cells #[.int .i8 reg,.int .i8 rm,.int .i64 pdisp,.int .i64 pimm,.int .i8 pcc] 111)) ((((W.alloc (.cells #[.int .i8 op,.int .i8 wd,.int .i8 dst,.int .i8 src,.int .i8 base,.int .i64 disp,.int .i64 imm,.int .i8 cc] 38)).alloc (.cells #[.int .i8 sh,.int .i8 at_,.int .u16 va,.int .i8 dg,.int .u16 lo] 106)).alloc (.cells #[.int .i8 reg,.int .i8 rm,.int .i64 pdisp,.int .i64 pimm,.int .i8 pcc] 111)).drew) from (Below.refl _ _).drew)
  have O0:=Lib.hid (show Bts (W.heap.size + 3) ((((W.alloc (.cells #[.int .i8 op,.int .i8 wd,.int .i8 dst,.int .i8 src,.int .i8 base,.int .i64 disp,.int .i64 imm,.int .i8 cc] 38)).alloc (.cells #[.int .i8 sh,.int .i8 at_,.int .u16 va,.int .i8 dg,.int .u16 lo] 106)).alloc (.cells #[.int .i8 reg,.int .i8 rm,.int .i64 pdisp,.int .i64 pimm,.int .i8 pcc] 111)).drew) (.slice none 0 0) [] from Bts.nil _ _)
  obtain ⟨c0_0,c1_0,c2_0,c3_0,c4_0,c5_0,c6_0⟩:=acells B0.out
  generalize (((W.alloc (.cells #[.int .i8 op,.int .i8 wd,.int .i8 dst,.int .i8 src,.int .i8 base,.int .i64 disp,.int .i64 imm,.int .i8 cc] 38)).alloc (.cells #[.int .i8 sh,.int .i8 at_,.int .u16 va,.int .i8 dg,.int .u16 lo] 106)).alloc (.cells #[.int .i8 reg,.int .i8 rm,.int .i64 pdisp,.int .i64 pimm,.int .i8 pcc] 111)).drew=w0 at *
  generalize Value.slice none 0 0=v0 at *
  go_wp2_with fail
  refine (ND.out _).mono ?_
  rintro e y ⟨rfl,rfl⟩
  go_wp2_with fail
  refine (RX.out _).mono ?_
  rintro e y ⟨rfl,rfl⟩
  go_wp2_with (at_builtin;refine wpList_append_b rfl _ _ rfl (W.heap.size + 3) _ [] rfl (O0.out.below (below_new (Below.refl _ _) _)) _ 1 1 [k] rfl (one_at _ k hk.out) (by simp) (Nat.le_trans (size3 B0.out) (by rw [size_alloc];omega)) ?_)
  intro v1 w1 o1 g1
  have O1:=Lib.hid (show Bts (W.heap.size + 3) w1 v1 [k] from o1)
  have B1:=Lib.hid (below_grownN (below_new3 B0.out _) (size3 (below_new3 B0.out _)) g1 (fun j hj=>O0.out.lt j hj))
  clear o1 g1
  obtain ⟨c0_1,c1_1,c2_1,c3_1,c4_1,c5_1,c6_1⟩:=acells B1.out
  clear c0_0 c1_0 c2_0 c3_0 c4_0 c5_0 c6_0
  go_wp2_with (at_builtin;refine wpList_append_b rfl _ _ rfl (W.heap.size + 3) _ [k] rfl (O1.out.below (below_new (Below.refl _ _) _)) _ 1 1 [r] rfl (one_at _ r hr1.out) (by simp) (Nat.le_trans (size3 B1.out) (by rw [size_alloc];omega)) ?_)
  intro v2 w2 o2 g2
  have O2:=Lib.hid (show Bts (W.heap.size + 3) w2 v2 ([k] ++ [r]) from o2)
  have B2:=Lib.hid (below_grownN (below_new3 B1.out _) (size3 (below_new3 B1.out _)) g2 (fun j hj=>O1.out.lt j hj))
  clear o2 g2
  obtain ⟨c0_2,c1_2,c2_2,c3_2,c4_2,c5_2,c6_2⟩:=acells B2.out
  clear c0_1 c1_1 c2_1 c3_1 c4_1 c5_1 c6_1
  go_wp2_with fail
  go_ret
  exact ⟨_,rfl,O2.out.mono (Nat.le_add_right _ _),below3 B2.out⟩
theorem ah_0_0_n_ic0 (op wd dst src base disp imm cc sh at_ va dg lo reg rm pdisp pimm pcc z q r:Int) (W:World) (es:(sh == 8)=false) (e64:(wd == 64)=false) (nd:needB reg rm=false) (hb:bothB reg rm=true) (el:(lo == 15)=false) (e6:(sh == 6)=true) (ez:bits .or .u16 va (bits .and .u16 (IntKind.u16.wrap rm) 7)=z) (eq:IntKind.u8.wrap (z / 256)=q) (er:IntKind.u8.wrap z=r) (ef:(q != 0)=false) (hq:0 ≤ q ∧ q < 256) (hr:0 ≤ r ∧ r < 256):
    Calls Tryz.prog 136 #[.agg #[.int .i8 op,.int .i8 wd,.int .i8 dst,.int .i8 src,.int .i8 base,.int .i64 disp,.int .i64 imm,.int .i8 cc],.agg #[.int .i8 sh,.int .i8 at_,.int .u16 va,.int .i8 dg,.int .u16 lo],.agg #[.int .i8 reg,.int .i8 rm,.int .i64 pdisp,.int .i64 pimm,.int .i8 pcc]] W (RetV [r] W):=by
  have ND:=Lib.hid (fun W=>needs_n reg rm W)
  rw [nd] at ND
  clear hb nd
  have hq1:=Lib.hid hq
  have hr1:=Lib.hid hr
  clear hq hr
  unfold RetV
  go_enter Tryz.func136,Tryz.ntmps136
  go_wp2_with fail
  go_region
  have B0:=Lib.hid (show Below (W.heap.size + 3) (((W.alloc (.cells #[.int .i8 op,.int .i8 wd,.int .i8 dst,.int .i8 src,.int .i8 base,.int .i64 disp,.int .i64 imm,.int .i8 cc] 38)).alloc (.cells #[.int .i8 sh,.int .i8 at_,.int .u16 va,.int .i8 dg,.int .u16 lo] 106)).alloc (.cells #[.int .i8 reg,.int .i8 rm,.int .i64 pdisp,.int .i64 pimm,.int .i8 pcc] 111)) ((((W.alloc (.cells #[.int .i8 op,.int .i8 wd,.int .i8 dst,.int .i8 src,.int .i8 base,.int .i64 disp,.int .i64 imm,.int .i8 cc] 38)).alloc (.cells #[.int .i8 sh,.int .i8 at_,.int .u16 va,.int .i8 dg,.int .u16 lo] 106)).alloc (.cells #[.int .i8 reg,.int .i8 rm,.int .i64 pdisp,.int .i64 pimm,.int .i8 pcc] 111)).drew) from (Below.refl _ _).drew)
  have O0:=Lib.hid (show Bts (W.heap.size + 3) ((((W.alloc (.cells #[.int .i8 op,.int .i8 wd,.int .i8 dst,.int .i8 src,.int .i8 base,.int .i64 disp,.int .i64 imm,.int .i8 cc] 38)).alloc (.cells #[.int .i8 sh,.int .i8 at_,.int .u16 va,.int .i8 dg,.int .u16 lo] 106)).alloc (.cells #[.int .i8 reg,.int .i8 rm,.int .i64 pdisp,.int .i64 pimm,.int .i8 pcc] 111)).drew) (.slice none 0 0) [] from Bts.nil _ _)
  obtain ⟨c0_0,c1_0,c2_0,c3_0,c4_0,c5_0,c6_0⟩:=acells B0.out
  generalize (((W.alloc (.cells #[.int .i8 op,.int .i8 wd,.int .i8 dst,.int .i8 src,.int .i8 base,.int .i64 disp,.int .i64 imm,.int .i8 cc] 38)).alloc (.cells #[.int .i8 sh,.int .i8 at_,.int .u16 va,.int .i8 dg,.int .u16 lo] 106)).alloc (.cells #[.int .i8 reg,.int .i8 rm,.int .i64 pdisp,.int .i64 pimm,.int .i8 pcc] 111)).drew=w0 at *
  generalize Value.slice none 0 0=v0 at *
  go_wp2_with fail
  refine (ND.out _).mono ?_
  rintro e y ⟨rfl,rfl⟩
  go_wp2_with (at_builtin;refine wpList_append_b rfl _ _ rfl (W.heap.size + 3) _ [] rfl (O0.out.below (below_new (Below.refl _ _) _)) _ 1 1 [r] rfl (one_at _ r hr1.out) (by simp) (Nat.le_trans (size3 B0.out) (by rw [size_alloc];omega)) ?_)
  intro v1 w1 o1 g1
  have O1:=Lib.hid (show Bts (W.heap.size + 3) w1 v1 [r] from o1)
  have B1:=Lib.hid (below_grownN (below_new3 B0.out _) (size3 (below_new3 B0.out _)) g1 (fun j hj=>O0.out.lt j hj))
  clear o1 g1
  obtain ⟨c0_1,c1_1,c2_1,c3_1,c4_1,c5_1,c6_1⟩:=acells B1.out
  clear c0_0 c1_0 c2_0 c3_0 c4_0 c5_0 c6_0
  go_wp2_with fail
  go_ret
  exact ⟨_,rfl,O1.out.mono (Nat.le_add_right _ _),below3 B1.out⟩
abbrev ptC (p:Pt):Array Value:=#[.int .i8 p.reg,.int .i8 p.rm,.int .i64 p.disp,.int .i64 p.imm,.int .i8 p.cc]
theorem allC_va:∀ c ∈ allC,(0 ≤ c.va ∧ c.va < 65536) ∧ (c.lo=15 → (c.va=3904 ∨ c.va=3968 ∨ c.va=112) ∧ c.sh ≠ 8 ∧ c.sh ≠ 6) ∧ (c.sh=6 → c.va=184) ∧ (c.sh=8 → c.va / 256 % 256=0):=by decide +kernel
theorem u8_wrap (n:Int):IntKind.u8.wrap n=n % 256:=by simp [IntKind.wrap,IntKind.signed,IntKind.bits]
theorem u16_wrap (n:Int):IntKind.u16.wrap n=n % 65536:=by simp [IntKind.wrap,IntKind.signed,IntKind.bits]
theorem cc_fin:∀ k:Fin 16,bits .or .u16 3904 (IntKind.u16.wrap (k.1:Int))=3904 + (k.1:Int) ∧ bits .or .u16 3968 (IntKind.u16.wrap (k.1:Int))=3968 + (k.1:Int) ∧ bits .or .u16 112 (IntKind.u16.wrap (k.1:Int))=112 + (k.1:Int):=by decide +kernel
theorem ic_fin:∀ k:Fin 16,bits .or .u16 184 (bits .and .u16 (IntKind.u16.wrap (k.1:Int)) 7)=184 + (k.1:Int) % 8:=by decide +kernel
theorem cc_or {va pcc:Int} (h:va=3904 ∨ va=3968 ∨ va=112) (h0:0 ≤ pcc) (h1:pcc < 16):bits .or .u16 va (IntKind.u16.wrap pcc)=va + pcc:=by
  have:=cc_fin ⟨pcc.toNat,by omega⟩
  simp only [Int.toNat_of_nonneg h0] at this
  rcases h with rfl | rfl | rfl
  · exact this.1
  · exact this.2.1
  · exact this.2.2
theorem ic_or {va rm:Int} (h:va=184) (h0:0 ≤ rm) (h1:rm < 16):bits .or .u16 va (bits .and .u16 (IntKind.u16.wrap rm) 7)=va + rm % 8:=by
  have:=ic_fin ⟨rm.toNat,by omega⟩
  simp only [Int.toNat_of_nonneg h0] at this
  subst h
  exact this
theorem cahead_n (x:Xi) (c:Cd) (p:Pt) (hc:c ∈ allC) (hb:bothB p.reg p.rm=true) (hcc:c.lo=15 → 0 ≤ p.cc ∧ p.cc < 16) (W:World):
    Calls Tryz.prog 136 #[.agg (xC x),.agg #[.int .i8 c.sh,.int .i8 c.wd,.int .u16 c.va,.int .i8 c.dg,.int .u16 c.lo],.agg (ptC p)] W (RetV (aheadP x.w c p) W):=by
  obtain ⟨op,wd,dst,src,base,disp,imm,cc⟩:=x
  obtain ⟨reg,rm,pdisp,pimm,pcc⟩:=p
  have va_:=allC_va c hc
  obtain ⟨sh,at_,va,dg,lo⟩:=c
  simp only at va_ hb hcc
  obtain ⟨v0,v1,v2,v3⟩:=va_
  have hm:=(bothB_iff.1 hb).2
  cases es:(sh == 8)
  · cases el:(lo == 15)
    · cases e6:(sh == 6)
      · cases ef:(va / 256 % 256 != 0)
        · cases e64:(wd == 64)
          · cases nd:needB reg rm
            · have L:=ah_0_0_n_p0 op wd dst src base disp imm cc sh at_ va dg lo reg rm pdisp pimm pcc (va / 256 % 256) (va % 256) W es e64 nd hb el e6 (u8_wrap _) (u8_wrap _) ef (by omega) (by omega)
              have E:aheadP wd ⟨sh,at_,va,dg,lo⟩ ⟨reg,rm,pdisp,pimm,pcc⟩=[va % 256]:=by
                unfold aheadP halfP rexP valP
                simp only [es,e64,el,e6,ef,nd,Bool.true_and,Bool.and_true,Bool.false_and,Bool.and_false,Bool.or_false,Bool.false_or,Bool.true_or,Bool.or_true,cond_true,cond_false,List.nil_append,List.append_assoc,List.cons_append]
              rw [E]
              exact L
            · have L:=ah_0_0_r_p0 op wd dst src base disp imm cc sh at_ va dg lo reg rm pdisp pimm pcc (va / 256 % 256) (va % 256) W es e64 nd hb el e6 (u8_wrap _) (u8_wrap _) ef (by omega) (by omega)
              have E:aheadP wd ⟨sh,at_,va,dg,lo⟩ ⟨reg,rm,pdisp,pimm,pcc⟩=([rexI false reg rm] ++ [va % 256]):=by
                unfold aheadP halfP rexP valP
                simp only [es,e64,el,e6,ef,nd,Bool.true_and,Bool.and_true,Bool.false_and,Bool.and_false,Bool.or_false,Bool.false_or,Bool.true_or,Bool.or_true,cond_true,cond_false,List.nil_append,List.append_assoc,List.cons_append]
              rw [E]
              exact L
          · have L:=ah_0_64_x_p0 op wd dst src base disp imm cc sh at_ va dg lo reg rm pdisp pimm pcc (va / 256 % 256) (va % 256) W es e64 hb el e6 (u8_wrap _) (u8_wrap _) ef (by omega) (by omega)
            have E:aheadP wd ⟨sh,at_,va,dg,lo⟩ ⟨reg,rm,pdisp,pimm,pcc⟩=([rexI true reg rm] ++ [va % 256]):=by
              unfold aheadP halfP rexP valP
              simp only [es,e64,el,e6,ef,Bool.true_and,Bool.and_true,Bool.false_and,Bool.and_false,Bool.or_false,Bool.false_or,Bool.true_or,Bool.or_true,cond_true,cond_false,List.nil_append,List.append_assoc,List.cons_append]
            rw [E]
            exact L
        · cases e64:(wd == 64)
          · cases nd:needB reg rm
            · have L:=ah_0_0_n_p1 op wd dst src base disp imm cc sh at_ va dg lo reg rm pdisp pimm pcc (va / 256 % 256) (va % 256) W es e64 nd hb el e6 (u8_wrap _) (u8_wrap _) ef (by omega) (by omega)
              have E:aheadP wd ⟨sh,at_,va,dg,lo⟩ ⟨reg,rm,pdisp,pimm,pcc⟩=([va / 256 % 256] ++ [va % 256]):=by
                unfold aheadP halfP rexP valP
                simp only [es,e64,el,e6,ef,nd,Bool.true_and,Bool.and_true,Bool.false_and,Bool.and_false,Bool.or_false,Bool.false_or,Bool.true_or,Bool.or_true,cond_true,cond_false,List.nil_append,List.append_assoc,List.cons_append]
              rw [E]
              exact L
            · have L:=ah_0_0_r_p1 op wd dst src base disp imm cc sh at_ va dg lo reg rm pdisp pimm pcc (va / 256 % 256) (va % 256) W es e64 nd hb el e6 (u8_wrap _) (u8_wrap _) ef (by omega) (by omega)
              have E:aheadP wd ⟨sh,at_,va,dg,lo⟩ ⟨reg,rm,pdisp,pimm,pcc⟩=(([rexI false reg rm] ++ [va / 256 % 256]) ++ [va % 256]):=by
                unfold aheadP halfP rexP valP
                simp only [es,e64,el,e6,ef,nd,Bool.true_and,Bool.and_true,Bool.false_and,Bool.and_false,Bool.or_false,Bool.false_or,Bool.true_or,Bool.or_true,cond_true,cond_false,List.nil_append,List.append_assoc,List.cons_append]
              rw [E]
              exact L
          · have L:=ah_0_64_x_p1 op wd dst src base disp imm cc sh at_ va dg lo reg rm pdisp pimm pcc (va / 256 % 256) (va % 256) W es e64 hb el e6 (u8_wrap _) (u8_wrap _) ef (by omega) (by omega)
            have E:aheadP wd ⟨sh,at_,va,dg,lo⟩ ⟨reg,rm,pdisp,pimm,pcc⟩=(([rexI true reg rm] ++ [va / 256 % 256]) ++ [va % 256]):=by
              unfold aheadP halfP rexP valP
              simp only [es,e64,el,e6,ef,Bool.true_and,Bool.and_true,Bool.false_and,Bool.and_false,Bool.or_false,Bool.false_or,Bool.true_or,Bool.or_true,cond_true,cond_false,List.nil_append,List.append_assoc,List.cons_append]
            rw [E]
            exact L
      · have z:=v2 (eq_of_beq e6)
        have ez:=ic_or z hm.1 hm.2
        have ef:((va + rm % 8) / 256 % 256 != 0)=false:=by rw [bne_eq_false_iff_eq];omega
        cases e64:(wd == 64)
        · cases nd:needB reg rm
          · have L:=ah_0_0_n_ic0 op wd dst src base disp imm cc sh at_ va dg lo reg rm pdisp pimm pcc (va + rm % 8) ((va + rm % 8) / 256 % 256) ((va + rm % 8) % 256) W es e64 nd hb el e6 ez (u8_wrap _) (u8_wrap _) ef (by omega) (by omega)
            have E:aheadP wd ⟨sh,at_,va,dg,lo⟩ ⟨reg,rm,pdisp,pimm,pcc⟩=[(va + rm % 8) % 256]:=by
              unfold aheadP halfP rexP valP
              simp only [es,e64,el,e6,ef,nd,Bool.true_and,Bool.and_true,Bool.false_and,Bool.and_false,Bool.or_false,Bool.false_or,Bool.true_or,Bool.or_true,cond_true,cond_false,List.nil_append,List.append_assoc,List.cons_append]
            rw [E]
            exact L
          · have L:=ah_0_0_r_ic0 op wd dst src base disp imm cc sh at_ va dg lo reg rm pdisp pimm pcc (va + rm % 8) ((va + rm % 8) / 256 % 256) ((va + rm % 8) % 256) W es e64 nd hb el e6 ez (u8_wrap _) (u8_wrap _) ef (by omega) (by omega)
            have E:aheadP wd ⟨sh,at_,va,dg,lo⟩ ⟨reg,rm,pdisp,pimm,pcc⟩=([rexI false reg rm] ++ [(va + rm % 8) % 256]):=by
              unfold aheadP halfP rexP valP
              simp only [es,e64,el,e6,ef,nd,Bool.true_and,Bool.and_true,Bool.false_and,Bool.and_false,Bool.or_false,Bool.false_or,Bool.true_or,Bool.or_true,cond_true,cond_false,List.nil_append,List.append_assoc,List.cons_append]
            rw [E]
            exact L
        · have L:=ah_0_64_x_ic0 op wd dst src base disp imm cc sh at_ va dg lo reg rm pdisp pimm pcc (va + rm % 8) ((va + rm % 8) / 256 % 256) ((va + rm % 8) % 256) W es e64 hb el e6 ez (u8_wrap _) (u8_wrap _) ef (by omega) (by omega)
          have E:aheadP wd ⟨sh,at_,va,dg,lo⟩ ⟨reg,rm,pdisp,pimm,pcc⟩=([rexI true reg rm] ++ [(va + rm % 8) % 256]):=by
            unfold aheadP halfP rexP valP
            simp only [es,e64,el,e6,ef,Bool.true_and,Bool.and_true,Bool.false_and,Bool.and_false,Bool.or_false,Bool.false_or,Bool.true_or,Bool.or_true,cond_true,cond_false,List.nil_append,List.append_assoc,List.cons_append]
          rw [E]
          exact L
    · have l15:=v1 (eq_of_beq el)
      have e6:(sh == 6)=false:=beq_eq_false_iff_ne.2 l15.2.2
      have hp:=hcc (eq_of_beq el)
      have ez:=cc_or l15.1 hp.1 hp.2
      cases ef:((va + pcc) / 256 % 256 != 0)
      · cases e64:(wd == 64)
        · cases nd:needB reg rm
          · have L:=ah_0_0_n_cc0 op wd dst src base disp imm cc sh at_ va dg lo reg rm pdisp pimm pcc (va + pcc) ((va + pcc) / 256 % 256) ((va + pcc) % 256) W es e64 nd hb el e6 ez (u8_wrap _) (u8_wrap _) ef (by omega) (by omega)
            have E:aheadP wd ⟨sh,at_,va,dg,lo⟩ ⟨reg,rm,pdisp,pimm,pcc⟩=[(va + pcc) % 256]:=by
              unfold aheadP halfP rexP valP
              simp only [es,e64,el,e6,ef,nd,Bool.true_and,Bool.and_true,Bool.false_and,Bool.and_false,Bool.or_false,Bool.false_or,Bool.true_or,Bool.or_true,cond_true,cond_false,List.nil_append,List.append_assoc,List.cons_append]
            rw [E]
            exact L
          · have L:=ah_0_0_r_cc0 op wd dst src base disp imm cc sh at_ va dg lo reg rm pdisp pimm pcc (va + pcc) ((va + pcc) / 256 % 256) ((va + pcc) % 256) W es e64 nd hb el e6 ez (u8_wrap _) (u8_wrap _) ef (by omega) (by omega)
            have E:aheadP wd ⟨sh,at_,va,dg,lo⟩ ⟨reg,rm,pdisp,pimm,pcc⟩=([rexI false reg rm] ++ [(va + pcc) % 256]):=by
              unfold aheadP halfP rexP valP
              simp only [es,e64,el,e6,ef,nd,Bool.true_and,Bool.and_true,Bool.false_and,Bool.and_false,Bool.or_false,Bool.false_or,Bool.true_or,Bool.or_true,cond_true,cond_false,List.nil_append,List.append_assoc,List.cons_append]
            rw [E]
            exact L
        · have L:=ah_0_64_x_cc0 op wd dst src base disp imm cc sh at_ va dg lo reg rm pdisp pimm pcc (va + pcc) ((va + pcc) / 256 % 256) ((va + pcc) % 256) W es e64 hb el e6 ez (u8_wrap _) (u8_wrap _) ef (by omega) (by omega)
          have E:aheadP wd ⟨sh,at_,va,dg,lo⟩ ⟨reg,rm,pdisp,pimm,pcc⟩=([rexI true reg rm] ++ [(va + pcc) % 256]):=by
            unfold aheadP halfP rexP valP
            simp only [es,e64,el,e6,ef,Bool.true_and,Bool.and_true,Bool.false_and,Bool.and_false,Bool.or_false,Bool.false_or,Bool.true_or,Bool.or_true,cond_true,cond_false,List.nil_append,List.append_assoc,List.cons_append]
          rw [E]
          exact L
      · cases e64:(wd == 64)
        · cases nd:needB reg rm
          · have L:=ah_0_0_n_cc1 op wd dst src base disp imm cc sh at_ va dg lo reg rm pdisp pimm pcc (va + pcc) ((va + pcc) / 256 % 256) ((va + pcc) % 256) W es e64 nd hb el e6 ez (u8_wrap _) (u8_wrap _) ef (by omega) (by omega)
            have E:aheadP wd ⟨sh,at_,va,dg,lo⟩ ⟨reg,rm,pdisp,pimm,pcc⟩=([(va + pcc) / 256 % 256] ++ [(va + pcc) % 256]):=by
              unfold aheadP halfP rexP valP
              simp only [es,e64,el,e6,ef,nd,Bool.true_and,Bool.and_true,Bool.false_and,Bool.and_false,Bool.or_false,Bool.false_or,Bool.true_or,Bool.or_true,cond_true,cond_false,List.nil_append,List.append_assoc,List.cons_append]
            rw [E]
            exact L
          · have L:=ah_0_0_r_cc1 op wd dst src base disp imm cc sh at_ va dg lo reg rm pdisp pimm pcc (va + pcc) ((va + pcc) / 256 % 256) ((va + pcc) % 256) W es e64 nd hb el e6 ez (u8_wrap _) (u8_wrap _) ef (by omega) (by omega)
            have E:aheadP wd ⟨sh,at_,va,dg,lo⟩ ⟨reg,rm,pdisp,pimm,pcc⟩=(([rexI false reg rm] ++ [(va + pcc) / 256 % 256]) ++ [(va + pcc) % 256]):=by
              unfold aheadP halfP rexP valP
              simp only [es,e64,el,e6,ef,nd,Bool.true_and,Bool.and_true,Bool.false_and,Bool.and_false,Bool.or_false,Bool.false_or,Bool.true_or,Bool.or_true,cond_true,cond_false,List.nil_append,List.append_assoc,List.cons_append]
            rw [E]
            exact L
        · have L:=ah_0_64_x_cc1 op wd dst src base disp imm cc sh at_ va dg lo reg rm pdisp pimm pcc (va + pcc) ((va + pcc) / 256 % 256) ((va + pcc) % 256) W es e64 hb el e6 ez (u8_wrap _) (u8_wrap _) ef (by omega) (by omega)
          have E:aheadP wd ⟨sh,at_,va,dg,lo⟩ ⟨reg,rm,pdisp,pimm,pcc⟩=(([rexI true reg rm] ++ [(va + pcc) / 256 % 256]) ++ [(va + pcc) % 256]):=by
            unfold aheadP halfP rexP valP
            simp only [es,e64,el,e6,ef,Bool.true_and,Bool.and_true,Bool.false_and,Bool.and_false,Bool.or_false,Bool.false_or,Bool.true_or,Bool.or_true,cond_true,cond_false,List.nil_append,List.append_assoc,List.cons_append]
          rw [E]
          exact L
  · have s8:=eq_of_beq es
    have el:(lo == 15)=false:=beq_eq_false_iff_ne.2 (fun h=>(v1 h).2.1 s8)
    have e6:(sh == 6)=false:=by rw [s8];rfl
    have ef:(va / 256 % 256 != 0)=false:=by rw [v3 s8];rfl
    cases e8:(wd == 8)
    · cases e16:(wd == 16)
      · cases e64:(wd == 64)
        · cases nd:needB reg rm
          · have L:=ah_1_0_n_p0 op wd dst src base disp imm cc sh at_ va dg lo reg rm pdisp pimm pcc (va / 256 % 256) (va % 256) W es e8 e16 e64 nd hb el e6 (u8_wrap _) (u8_wrap _) ef (by omega) (by omega)
            have E:aheadP wd ⟨sh,at_,va,dg,lo⟩ ⟨reg,rm,pdisp,pimm,pcc⟩=[va % 256]:=by
              unfold aheadP halfP rexP valP
              simp only [es,e64,el,e6,ef,e8,e16,nd,Bool.true_and,Bool.and_true,Bool.false_and,Bool.and_false,Bool.or_false,Bool.false_or,Bool.true_or,Bool.or_true,cond_true,cond_false,List.nil_append,List.append_assoc,List.cons_append]
            rw [E]
            exact L
          · have L:=ah_1_0_r_p0 op wd dst src base disp imm cc sh at_ va dg lo reg rm pdisp pimm pcc (va / 256 % 256) (va % 256) W es e8 e16 e64 nd hb el e6 (u8_wrap _) (u8_wrap _) ef (by omega) (by omega)
            have E:aheadP wd ⟨sh,at_,va,dg,lo⟩ ⟨reg,rm,pdisp,pimm,pcc⟩=([rexI false reg rm] ++ [va % 256]):=by
              unfold aheadP halfP rexP valP
              simp only [es,e64,el,e6,ef,e8,e16,nd,Bool.true_and,Bool.and_true,Bool.false_and,Bool.and_false,Bool.or_false,Bool.false_or,Bool.true_or,Bool.or_true,cond_true,cond_false,List.nil_append,List.append_assoc,List.cons_append]
            rw [E]
            exact L
        · have L:=ah_1_64_x_p0 op wd dst src base disp imm cc sh at_ va dg lo reg rm pdisp pimm pcc (va / 256 % 256) (va % 256) W es e8 e16 e64 hb el e6 (u8_wrap _) (u8_wrap _) ef (by omega) (by omega)
          have E:aheadP wd ⟨sh,at_,va,dg,lo⟩ ⟨reg,rm,pdisp,pimm,pcc⟩=([rexI true reg rm] ++ [va % 256]):=by
            unfold aheadP halfP rexP valP
            simp only [es,e64,el,e6,ef,e8,e16,Bool.true_and,Bool.and_true,Bool.false_and,Bool.and_false,Bool.or_false,Bool.false_or,Bool.true_or,Bool.or_true,cond_true,cond_false,List.nil_append,List.append_assoc,List.cons_append]
          rw [E]
          exact L
      · have e64:(wd == 64)=false:=by rw [eq_of_beq e16];rfl
        cases nd:needB reg rm
        · have L:=ah_1_16_n_p0 op wd dst src base disp imm cc sh at_ va dg lo reg rm pdisp pimm pcc (va / 256 % 256) (va % 256) W es e8 e16 e64 nd hb el e6 (u8_wrap _) (u8_wrap _) ef (by omega) (by omega)
          have E:aheadP wd ⟨sh,at_,va,dg,lo⟩ ⟨reg,rm,pdisp,pimm,pcc⟩=([102] ++ [va % 256]):=by
            unfold aheadP halfP rexP valP
            simp only [es,e64,el,e6,ef,e8,e16,nd,Bool.true_and,Bool.and_true,Bool.false_and,Bool.and_false,Bool.or_false,Bool.false_or,Bool.true_or,Bool.or_true,cond_true,cond_false,List.nil_append,List.append_assoc,List.cons_append]
          rw [E]
          exact L
        · have L:=ah_1_16_r_p0 op wd dst src base disp imm cc sh at_ va dg lo reg rm pdisp pimm pcc (va / 256 % 256) (va % 256) W es e8 e16 e64 nd hb el e6 (u8_wrap _) (u8_wrap _) ef (by omega) (by omega)
          have E:aheadP wd ⟨sh,at_,va,dg,lo⟩ ⟨reg,rm,pdisp,pimm,pcc⟩=(([102] ++ [rexI false reg rm]) ++ [va % 256]):=by
            unfold aheadP halfP rexP valP
            simp only [es,e64,el,e6,ef,e8,e16,nd,Bool.true_and,Bool.and_true,Bool.false_and,Bool.and_false,Bool.or_false,Bool.false_or,Bool.true_or,Bool.or_true,cond_true,cond_false,List.nil_append,List.append_assoc,List.cons_append]
          rw [E]
          exact L
    · have e16:(wd == 16)=false:=by rw [eq_of_beq e8];rfl
      have e64:(wd == 64)=false:=by rw [eq_of_beq e8];rfl
      have L:=ah_1_8_x_p0 op wd dst src base disp imm cc sh at_ va dg lo reg rm pdisp pimm pcc (va / 256 % 256) (va % 256) W es e8 e16 e64 hb el e6 (u8_wrap _) (u8_wrap _) ef (by omega) (by omega)
      have E:aheadP wd ⟨sh,at_,va,dg,lo⟩ ⟨reg,rm,pdisp,pimm,pcc⟩=([rexI false reg rm] ++ [va % 256]):=by
        unfold aheadP halfP rexP valP
        simp only [es,e64,el,e6,ef,e8,e16,Bool.true_and,Bool.and_true,Bool.false_and,Bool.and_false,Bool.or_false,Bool.false_or,Bool.true_or,Bool.or_true,cond_true,cond_false,List.nil_append,List.append_assoc,List.cons_append]
      rw [E]
      exact L
end Go.Proofs.YtbpehbeakhocnaaGreatDoor.Mrm
