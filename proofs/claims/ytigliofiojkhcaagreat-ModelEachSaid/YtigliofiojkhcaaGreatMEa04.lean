import Derived.Test.YtigliofiojkhcaaGreatMEx
import Derived.Test.YtigliofiojkhcaaGreatMRn28
import Derived.Test.YtigliofiojkhcaaGreatMEa02
import Derived.Test.YtigliofiojkhcaaGreatMRn19
set_option linter.unusedVariables false
set_option linter.unusedSimpArgs false
set_option linter.unnecessarySimpa false
namespace Go.Proofs.YtigliofiojkhcaaGreat.Mdl
open Go.RowKit Go.Maps Ins Trc
set_option maxRecDepth 100000
theorem faQL6S265_2_0 (g:Nat)(w:World):(Instr.fieldAt 65 (.pointer (some ⟨g,0,none⟩)) 2).run Tryz.prog w=.ok (.pointer (some ⟨g,3,none⟩)) w:=by simp [go_sem]
theorem faQL6S249_0_3 (g:Nat)(w:World):(Instr.fieldAt 49 (.pointer (some ⟨g,3,none⟩)) 0).run Tryz.prog w=.ok (.pointer (some ⟨g,3,none⟩)) w:=by simp [go_sem]
theorem faQL6S265_3_0 (g:Nat)(w:World):(Instr.fieldAt 65 (.pointer (some ⟨g,0,none⟩)) 3).run Tryz.prog w=.ok (.pointer (some ⟨g,79,none⟩)) w:=by simp [go_sem]
theorem faQL6S265_1_0 (g:Nat)(w:World):(Instr.fieldAt 65 (.pointer (some ⟨g,0,none⟩)) 1).run Tryz.prog w=.ok (.pointer (some ⟨g,2,none⟩)) w:=by simp [go_sem]
theorem faQL6S252_6_0 (g:Nat)(w:World):(Instr.fieldAt 52 (.pointer (some ⟨g,0,none⟩)) 6).run Tryz.prog w=.ok (.pointer (some ⟨g,6,none⟩)) w:=by simp [go_sem]
theorem faQL6S252_7_0 (g:Nat)(w:World):(Instr.fieldAt 52 (.pointer (some ⟨g,0,none⟩)) 7).run Tryz.prog w=.ok (.pointer (some ⟨g,7,none⟩)) w:=by simp [go_sem]
theorem faQL6S252_3_0 (g:Nat)(w:World):(Instr.fieldAt 52 (.pointer (some ⟨g,0,none⟩)) 3).run Tryz.prog w=.ok (.pointer (some ⟨g,3,none⟩)) w:=by simp [go_sem]
theorem faQL6S265_0_0 (g:Nat)(w:World):(Instr.fieldAt 65 (.pointer (some ⟨g,0,none⟩)) 0).run Tryz.prog w=.ok (.pointer (some ⟨g,0,none⟩)) w:=by simp [go_sem]
theorem faQL6S224_1_0 (g:Nat)(w:World):(Instr.fieldAt 24 (.pointer (some ⟨g,0,none⟩)) 1).run Tryz.prog w=.ok (.pointer (some ⟨g,1,none⟩)) w:=by simp [go_sem]
theorem faQL6S249_1_3 (g:Nat)(w:World):(Instr.fieldAt 49 (.pointer (some ⟨g,3,none⟩)) 1).run Tryz.prog w=.ok (.pointer (some ⟨g,14,none⟩)) w:=by simp [go_sem]
set_option maxHeartbeats 16000000 in
theorem r6_step_1y (E:Env)(F:Fine E)(D:Pl)(H:Runs E D)(g r β:Nat)(W:World)(R:R6 E g r β D W)(op width:Int)(m:Nat)(byReg:Bool)(off imm:Int)(d n:Nat)(hd:d<11)(hn11:n<11)(hx:E.x D.ix=(Ins.In.mk 1 op width (m:Int) byReg (d:Int) (n:Int) off imm))(hc:(andM D.set (readsM (E.x D.ix)) == readsM (E.x D.ix))=true)(hm:szB m=true)(hr:readE D.mem (adI (D.r n) off) m=0):
  Calls Tryz.prog 20 #[.pointer (some ⟨g,0,none⟩)] W fun e w'=>e=.returned (.tuple #[.int .i8 0,.bool true])∧R6 E g r β { D.put d (readV D.mem E.kf (adI (D.r n) off) m) with at_:=D.at_+1 } w'∧TurnT τ6 β W w':=by
 have mo:Tryz.prog.follows .mixedOrders=true:=by kernel_rfl
 obtain ⟨i1,i2⟩:=H.ix
 obtain ⟨i,hi⟩:∃ i,i=D.ix:=⟨_,rfl⟩
 rw [← hi] at hx i1 i2 hc
 have hil:i<E.pl:=i1
 obtain ⟨ctx,av,tv,hin,hA,hT,hn⟩:=R.st
 have p2:W.rangeAt E.pa (E.po+i * 9) (Ins.In.mk 1 op width (m:Int) byReg (d:Int) (n:Int) off imm).cells.toList:=by have:=R.pr.2 i hil;rwa [hx] at this
 have hpl:(i:Int)<64:=by have:=F.len.2;omega
 obtain ⟨s,hs⟩:∃ s,s=md6 E r D ctx av tv:=⟨_,rfl⟩
 rw [← hs] at hin
 have hin0:W.heap[g]?=some (.cells s.cells 65 (0,0)):=hin
 have c1:s.cells[1]?=some (.slice (some ⟨E.pa,E.po,none⟩) E.pl E.pc):=by rw [hs];exact (md6 E r D ctx av tv).get 1 (by decide)
 have c2:s.cells[2]?=some (.pointer (some ⟨r,0,none⟩)):=by rw [hs];exact (md6 E r D ctx av tv).get 2 (by decide)
 have c14:s.cells[14]?=some (.int .i64 D.set):=by rw [hs];exact (md6 E r D ctx av tv).get 14 (by decide)
 have c79:s.cells[79]?=some (.int .i64 (i:Int)):=by rw [← i2,hs];exact (md6 E r D ctx av tv).get 79 (by decide)
 have I2:=Lib.hid i2
 have HS:=Lib.hid hs
 clear i2 hi hs
 have creg:∀ k,k<11→s.cells[3+k]?=some (.int .u64 (D.r k)):=fun k hk=>by rw [s.get _ (by omega),HS.out];unfold Md.cell;rw [if_neg (by omega),if_neg (by omega),if_neg (by omega),if_pos (by omega),show 3+k - 3=k by omega];rfl
 obtain ⟨m0,hm0⟩:∃ m0,m0=readsM (Ins.In.mk 1 op width (m:Int) byReg (d:Int) (n:Int) off imm):=⟨_,rfl⟩
 have hz:=rd_test (x:=(Ins.In.mk 1 op width (m:Int) byReg (d:Int) (n:Int) off imm)) (show (0:Int)≤(d:Int) by omega) (show (d:Int)<11 by omega) (show (0:Int)≤(n:Int) by omega) (show (n:Int)<11 by omega) (by rw [← hx];exact hc)
 rw [← hm0] at hz
 have RD:Hid (∀ w,Calls Tryz.prog 44 #[.agg #[.int .i8 1,.int .i8 op,.int .i8 width,.int .i8 (m:Int),.bool byReg,.int .i8 (d:Int),.int .i8 (n:Int),.int .i64 off,.int .i64 imm]] w fun e w'=>e=.returned (.int .i64 m0)∧Below w.heap.size w w'):=Lib.hid (fun w=>by rw [hm0];exact r6_reads (Ins.In.mk 1 op width (m:Int) byReg (d:Int) (n:Int) off imm) w (show (0:Int)≤1 by decide) (show (1:Int)≤6 by decide) (show (0:Int)≤(d:Int) by omega) (show (d:Int)<11 by omega) (show (0:Int)≤(n:Int) by omega) (show (n:Int)<11 by omega))
 clear hm0 hc
 go_enter Tryz.func20,Tryz.ntmps20
 go_wp2_with fail
 refine go_regz (SB 11 12 4 W #[.int .i8 0,.int .i8 0,.int .i8 0,.int .i8 0,.bool false,.int .i8 0,.int .i8 0,.int .i64 0,.int .i64 0] (Ins.In.mk 1 op width (m:Int) byReg (d:Int) (n:Int) off imm).cells 52) [11,12] [4] [some (.pointer (some ⟨g,0,none⟩)),some (.pointer (some ⟨g,0,none⟩)),some (.pointer (some ⟨g,0,none⟩)),some (.pointer (some ⟨g,1,none⟩)),some (.slice (some ⟨E.pa,E.po,none⟩) E.pl E.pc),some (.pointer (some ⟨g,0,none⟩)),some (.pointer (some ⟨g,0,none⟩)),some (.pointer (some ⟨g,79,none⟩)),some (.int .i64 (i:Int)),some (.pointer (some ⟨E.pa,E.po+i * 9,none⟩)),some (.agg (Ins.In.mk 1 op width (m:Int) byReg (d:Int) (n:Int) off imm).cells),none,none] mo SB.loc rfl rfl (by kernel_rfl) (fun fl w1 hfl b _=>SB.start b (hfl 11 (by decide))) (
  zc (@fun fl ax wx cx=>cx.v (ex_mv rfl (cx.rq 0 rfl)) rfl rfl) <|
  zc (@fun fl ax wx cx=>cx.v (ex_nc rfl (cx.u 0 rfl)) rfl rfl) <|
  zc (@fun fl ax wx cx=>cx.v (ex_fa rfl (cx.u 0 rfl) (faQL6S265_0_0 _ _)) rfl rfl) <|
  zc (@fun fl ax wx cx=>cx.v (ex_fa rfl (cx.u 0 rfl) (faQL6S224_1_0 _ _)) rfl rfl) <|
  zc (@fun fl ax wx cx=>cx.v (ex_ld rfl (cx.u 0 rfl) (brow cx.S.1 hin0) c1 Tryz.isAgg22) rfl rfl) <|
  zc (@fun fl ax wx cx=>cx.v (ex_mv rfl (cx.rq 0 rfl)) rfl rfl) <|
  zc (@fun fl ax wx cx=>cx.v (ex_nc rfl (cx.u 0 rfl)) rfl rfl) <|
  zc (@fun fl ax wx cx=>cx.v (ex_fa rfl (cx.u 0 rfl) (faQL6S265_3_0 _ _)) rfl rfl) <|
  zc (@fun fl ax wx cx=>cx.v (ex_ld rfl (cx.u 0 rfl) (brow cx.S.1 hin0) c79 Tryz.isAgg3) rfl rfl) <|
  zc (@fun fl ax wx cx=>cx.v (ex_ixI rfl (cx.u 0 rfl) (cx.u 1 rfl) hil) rfl rfl) <|
  zc (@fun fl ax wx cx=>cx.v (ex_ldw6 rfl (cx.u 0 rfl) (load_mid6 (Ins.In.mk 1 op width (m:Int) byReg (d:Int) (n:Int) off imm) (Ins.rangeAt_below cx.S.1 p2))) rfl rfl) <|
  zc (@fun fl ax wx cx=>cx.vt rfl (by simp [execOp,Act.eval,go_sem]) rfl rfl trivial (SB.alloc cx.S (cx.later 12 (by kernel_rfl)) (by decide) (slot_new cx.sz rfl))) <|
  zc (@fun fl ax wx cx=>(by
    obtain ⟨gx,e1,e2,e3⟩:=cx.S.at_ (cx.did 0 rfl rfl) cx.fi
    exact cx.st rfl (exec_storeR 52 (.tmp 4) (.tmp 23) rfl gx (Ins.In.mk 1 op width (m:Int) byReg (d:Int) (n:Int) off imm).cells e1 (cx.u 1 rfl) e3 (by kernel_rfl) rfl (by simp [Ins.In.cells,Value.oneCell'])) rfl trivial (SB.store cx.S (cx.did 0 rfl rfl) (by decide) e1 (stored_setRow wx gx (Ins.In.mk 1 op width (m:Int) byReg (d:Int) (n:Int) off imm).cells _ _ e3)))) <|
  zn) ?_
 intro aq1 wq1 fq1
 obtain ⟨flq1,hfq1,hsq1⟩:=fq1.s
 obtain ⟨B1,gx,g4,lx,rx⟩:=SB.fin hsq1 (hfq1 11 (by decide)) (hfq1 12 (by decide))
 replace g4:aq1.tmps.getD 4 undef=.pointer (some ⟨gx,0,none⟩):=g4
 replace rx:wq1.heap[gx]?=some (.cells #[.int .i8 1,.int .i8 op,.int .i8 width,.int .i8 (m:Int),.bool byReg,.int .i8 (d:Int),.int .i8 (n:Int),.int .i64 off,.int .i64 imm] 52 (0,0)):=rx
 have hin1:=brow B1 hin0
 clear hsq1 hfq1 flq1
 rw [fq1.frame rfl rfl]
 clear fq1
 rw [show outs _ (fun d=>aq1.tmps.getD d undef)=[(13,aq1.tmps.getD 13 undef),(14,aq1.tmps.getD 14 undef),(15,aq1.tmps.getD 15 undef),(16,aq1.tmps.getD 16 undef),(17,aq1.tmps.getD 17 undef),(18,aq1.tmps.getD 18 undef),(19,aq1.tmps.getD 19 undef),(20,aq1.tmps.getD 20 undef),(21,aq1.tmps.getD 21 undef),(22,aq1.tmps.getD 22 undef),(23,aq1.tmps.getD 23 undef),(4,aq1.tmps.getD 4 undef)] by kernel_rfl,g4]
 simp only [putAll,List.setIfInBounds_toArray,List.set_cons_zero,List.set_cons_succ,Exit.then]
 generalize aq1.tmps.getD 13 undef=yq1_13
 generalize aq1.tmps.getD 14 undef=yq1_14
 generalize aq1.tmps.getD 15 undef=yq1_15
 generalize aq1.tmps.getD 16 undef=yq1_16
 generalize aq1.tmps.getD 17 undef=yq1_17
 generalize aq1.tmps.getD 18 undef=yq1_18
 generalize aq1.tmps.getD 19 undef=yq1_19
 generalize aq1.tmps.getD 20 undef=yq1_20
 generalize aq1.tmps.getD 21 undef=yq1_21
 generalize aq1.tmps.getD 22 undef=yq1_22
 generalize aq1.tmps.getD 23 undef=yq1_23
 clear g4 aq1
 clear p2
 go_wp2_with fail
 refine go_regz (fun fl u w=>Below wq1.heap.size wq1 w) [] [] [some (.agg #[.int .i8 1,.int .i8 op,.int .i8 width,.int .i8 (m:Int),.bool byReg,.int .i8 (d:Int),.int .i8 (n:Int),.int .i64 off,.int .i64 imm]),some (.int .i64 m0),some (.pointer (some ⟨g,0,none⟩)),some (.pointer (some ⟨g,0,none⟩)),some (.pointer (some ⟨g,3,none⟩)),some (.pointer (some ⟨g,14,none⟩)),some (.int .i64 D.set),some (.int .i64 (bits .andNot .i64 m0 D.set)),some (.bool (bits .andNot .i64 m0 D.set != 0))] mo (fun fl fl' u u' w hK hD h=>h) rfl rfl (by kernel_rfl) (fun fl w1 hfl b _=>b) (
  zc (@fun fl ax wx cx=>cx.v (exec_loadR 52 _ rfl gx 0 (cx.rq 4 rfl) (brow cx.S rx) [.int .i8 1,.int .i8 op,.int .i8 width,.int .i8 (m:Int),.bool byReg,.int .i8 (d:Int),.int .i8 (n:Int),.int .i64 off,.int .i64 imm] rfl _ Tryz.underlying52 rfl (by kernel_rfl)) rfl rfl) <|
  zc (@fun fl ax wx cx=>cx.ct rfl rfl (args1 (cx.u 0 rfl)) Tryz.func44 (by decide +kernel) rfl rfl ((RD.out wx).mono (by
    rintro e w' ⟨rfl,b9⟩
    exact ⟨_,rfl,rfl,cx.S.trans (b9.mono cx.S.size)⟩))) <|
  zc (@fun fl ax wx cx=>cx.v (ex_mv rfl (cx.rq 0 rfl)) rfl rfl) <|
  zc (@fun fl ax wx cx=>cx.v (ex_nc rfl (cx.u 0 rfl)) rfl rfl) <|
  zc (@fun fl ax wx cx=>cx.v (ex_fa rfl (cx.u 0 rfl) (faQL6S265_2_0 _ _)) rfl rfl) <|
  zc (@fun fl ax wx cx=>cx.v (ex_fa rfl (cx.u 0 rfl) (faQL6S249_1_3 _ _)) rfl rfl) <|
  zc (@fun fl ax wx cx=>cx.v (ex_ld rfl (cx.u 0 rfl) (brow cx.S hin1) c14 Tryz.isAgg3) rfl rfl) <|
  zc (@fun fl ax wx cx=>cx.v (by simp [execOp,Act.eval,(show ax.tmps.getD 25 undef=.int .i64 m0 from (cx.u 0 rfl)),(show ax.tmps.getD 30 undef=.int .i64 D.set from (cx.u 1 rfl)),go_sem]) rfl rfl) <|
  zc (@fun fl ax wx cx=>cx.v (ex_ne (x:=.tmp 31) rfl (cx.u 0 rfl) rfl) rfl rfl) <|
  zn) ?_
 intro aq2 wq2 fq2
 obtain ⟨flq2,hfq2,hsq2⟩:=fq2.s
 have gq2_32:aq2.tmps.getD 32 undef=.bool (bits .andNot .i64 m0 D.set != 0):=fq2.v 8 rfl rfl rfl
 have B2:=hsq2
 have rx:=brow B2 rx
 have hin2:=brow B2 hin1
 have B:=B1.trans (B2.mono B1.size)
 clear hsq2 hfq2 flq2 B1 B2 hin1
 rw [fq2.frame rfl rfl]
 clear fq2
 rw [show outs _ (fun d=>aq2.tmps.getD d undef)=[(24,aq2.tmps.getD 24 undef),(25,aq2.tmps.getD 25 undef),(26,aq2.tmps.getD 26 undef),(27,aq2.tmps.getD 27 undef),(28,aq2.tmps.getD 28 undef),(29,aq2.tmps.getD 29 undef),(30,aq2.tmps.getD 30 undef),(31,aq2.tmps.getD 31 undef),(32,aq2.tmps.getD 32 undef)] by kernel_rfl,gq2_32]
 simp only [putAll,List.setIfInBounds_toArray,List.set_cons_zero,List.set_cons_succ,Exit.then]
 generalize aq2.tmps.getD 24 undef=yq2_24
 generalize aq2.tmps.getD 25 undef=yq2_25
 generalize aq2.tmps.getD 26 undef=yq2_26
 generalize aq2.tmps.getD 27 undef=yq2_27
 generalize aq2.tmps.getD 28 undef=yq2_28
 generalize aq2.tmps.getD 29 undef=yq2_29
 generalize aq2.tmps.getD 30 undef=yq2_30
 generalize aq2.tmps.getD 31 undef=yq2_31
 clear gq2_32 aq2
 simp only [hz]
 generalize wq2=wB at *
 obtain ⟨A,hA0⟩:∃ A,Hid (A=adI (D.r n) off):=⟨_,Lib.hid rfl⟩
 have hAd:Hid (A=IntKind.u64.wrap (D.r n+IntKind.u64.wrap off)):=Lib.hid (by rw [hA0.out,IntKind.wrap_u64,IntKind.wrap_u64];unfold adI;omega)
 have hAb:0≤A∧A<18446744073709551616:=by rw [hA0.out];unfold adI;omega
 have hm8:=szB_le hm
 have hmw:Hid (IntKind.i64.wrap (m:Int)=(m:Int)):=Lib.hid (by rw [IntKind.wrap_i64];omega)
 have hm1:=szB_pos hm
 have hms:Rm.sizedB m=true:=by rw [← hm];simp [szB,Rm.sizedB]
 obtain ⟨M,m1,m2,m3⟩:=R.mm
 obtain ⟨vv,hvv⟩:∃ vv,Hid (vv=readV D.mem E.kf A m):=⟨_,Lib.hid rfl⟩
 have RDM:Hid (∀ w,Below wB.heap.size wB w→Calls Tryz.prog 48 #[.pointer (some ⟨r,0,none⟩),.int .u64 A,.int .i64 (m:Int)] w fun e w'=>e=.returned (.tuple #[.int .u64 vv,.int .i64 0])∧w=w'):=Lib.hid (fun w b=>(Rm.r_read M r β A m w ((m1.below B).below b) hAb.1 hAb.2).mono (by
   rintro e w' ⟨h,rfl⟩
   refine ⟨?_,rfl⟩
   rw [Rm.read_rel m3 R.cn R.n hm1 hms h,hvv.out,show readE D.mem A m=0 by rw [hA0.out];exact hr]))
 have hvw:0≤vv∧vv<18446744073709551616:=by rw [hvv.out];exact readV_word m1 m3 R.cn R.n A hm
 have HG2:=Lib.hid hin2
 have RX:=Lib.hid rx
 have BB:=Lib.hid B
 have HI0:=Lib.hid hin
 clear hin hin0
 have d79:wB.cell? ⟨g,79,none⟩=some (.int .i64 (i:Int)):=by simp only [World.cell?,hin2];exact c79
 have x0:wB.cell? ⟨gx,0,none⟩=some (.int .i8 1):=by simp only [World.cell?,rx];rfl
 have x1:wB.cell? ⟨gx,1,none⟩=some (.int .i8 op):=by simp only [World.cell?,rx];rfl
 have x2:wB.cell? ⟨gx,2,none⟩=some (.int .i8 width):=by simp only [World.cell?,rx];rfl
 have x3:wB.cell? ⟨gx,3,none⟩=some (.int .i8 (m:Int)):=by simp only [World.cell?,rx];rfl
 have x4:wB.cell? ⟨gx,4,none⟩=some (.bool byReg):=by simp only [World.cell?,rx];rfl
 have x5:wB.cell? ⟨gx,5,none⟩=some (.int .i8 (d:Int)):=by simp only [World.cell?,rx];rfl
 have x6:wB.cell? ⟨gx,6,none⟩=some (.int .i8 (n:Int)):=by simp only [World.cell?,rx];rfl
 have x7:wB.cell? ⟨gx,7,none⟩=some (.int .i64 off):=by simp only [World.cell?,rx];rfl
 have x8:wB.cell? ⟨gx,8,none⟩=some (.int .i64 imm):=by simp only [World.cell?,rx];rfl
 have ei:wrap64 ((i:Int)+1)=(i:Int)+1:=IntWalk.wrap64_in _ (by omega)
 clear hr m1 m2 m3
 go_wp2_with fail
 clear d79 x0 x1 x2 x3 x4 x5 x6 x7 x8 B
 refine go_regz (fun fl u w=>Below wB.heap.size wB w) [] [] (tabs [some (.pointer (some ⟨g,0,none⟩)),some (.pointer (some ⟨g,0,none⟩)),some (.pointer (some ⟨g,2,none⟩)),some (.pointer (some ⟨r,0,none⟩)),some (.pointer (some ⟨g,0,none⟩)),some (.pointer (some ⟨gx,6,none⟩)),some (.int .i8 (n:Int)),some (.pointer (some ⟨g,0,none⟩)),some (.pointer (some ⟨g,3,none⟩)),some (.pointer (some ⟨g,3,none⟩)),some (.pointer (some ⟨g,3+n,none⟩)),some (.int .u64 (D.r n)),some (.pointer (some ⟨gx,7,none⟩)),some (.int .i64 off),some (.int .u64 (IntKind.u64.wrap off)),some (.int .u64 A),some (.pointer (some ⟨gx,3,none⟩)),some (.int .i8 (m:Int)),some (.int .i64 (m:Int)),some (.tuple #[.int .u64 vv,.int .i64 0])] [some (.tuple #[.int .u64 vv,.int .i64 0]),some (.int .u64 vv),some (.int .i64 0),some (.int .u64 vv),some (.int .i64 0)]) mo (fun fl fl' u u' w hK hD h=>h) rfl rfl (by kernel_rfl) (fun fl w1 hfl b _=>b) (
  zc (@fun fl ax wx cx=>cx.v (ex_mv rfl (cx.rq 0 rfl)) rfl rfl) <|
  zc (@fun fl ax wx cx=>cx.v (ex_nc rfl (cx.u 0 rfl)) rfl rfl) <|
  zc (@fun fl ax wx cx=>cx.v (ex_fa rfl (cx.u 0 rfl) (faQL6S265_1_0 _ _)) rfl rfl) <|
  zc (@fun fl ax wx cx=>cx.v (ex_ld rfl (cx.u 0 rfl) (brow cx.S hin2) c2 Tryz.isAgg63) rfl rfl) <|
  zc (@fun fl ax wx cx=>cx.v (ex_mv rfl (cx.rq 0 rfl)) rfl rfl) <|
  zc (@fun fl ax wx cx=>cx.v (ex_fa rfl (cx.rq 4 rfl) (faQL6S252_6_0 _ _)) rfl rfl) <|
  zc (@fun fl ax wx cx=>cx.v (ex_ld rfl (cx.u 0 rfl) (brow cx.S rx) rfl Tryz.isAgg29) rfl rfl) <|
  zc (@fun fl ax wx cx=>cx.v (ex_nc rfl (cx.u 0 rfl)) rfl rfl) <|
  zc (@fun fl ax wx cx=>cx.v (ex_fa rfl (cx.u 0 rfl) (faQL6S265_2_0 _ _)) rfl rfl) <|
  zc (@fun fl ax wx cx=>cx.v (ex_fa rfl (cx.u 0 rfl) (faQL6S249_0_3 _ _)) rfl rfl) <|
  zc (@fun fl ax wx cx=>cx.v (ex_ixR rfl (cx.u 0 rfl) (cx.u 1 rfl) hn11) rfl rfl) <|
  zc (@fun fl ax wx cx=>cx.v (ex_ld rfl (cx.u 0 rfl) (brow cx.S hin2) (creg n hn11) Tryz.isAgg30) rfl rfl) <|
  zc (@fun fl ax wx cx=>cx.v (ex_fa rfl (cx.rq 4 rfl) (faQL6S252_7_0 _ _)) rfl rfl) <|
  zc (@fun fl ax wx cx=>cx.v (ex_ld rfl (cx.u 0 rfl) (brow cx.S rx) rfl Tryz.isAgg3) rfl rfl) <|
  zc (@fun fl ax wx cx=>cx.v (ex_conv (x:=.tmp 82) rfl (cx.u 0 rfl) Tryz.underlying2 Tryz.underlying30) rfl rfl) <|
  zc (@fun fl ax wx cx=>cx.v (by rw [hAd.out];exact ex_add (x:=.tmp 80) (y:=.tmp 83) rfl (cx.u 0 rfl) (cx.u 1 rfl)) rfl rfl) <|
  zc (@fun fl ax wx cx=>cx.v (ex_fa rfl (cx.rq 4 rfl) (faQL6S252_3_0 _ _)) rfl rfl) <|
  zc (@fun fl ax wx cx=>cx.v (ex_ld rfl (cx.u 0 rfl) (brow cx.S rx) rfl Tryz.isAgg29) rfl rfl) <|
  zc (@fun fl ax wx cx=>cx.v (by rw [← hmw.out];exact ex_conv (x:=.tmp 86) rfl (cx.u 0 rfl) Tryz.underlying29 Tryz.underlying3) rfl rfl) <|
  zc (@fun fl ax wx cx=>cx.c rfl (args3 (cx.u 0 rfl) (cx.u 1 rfl) (cx.u 2 rfl)) Tryz.func48 (by decide +kernel) ((RDM.out wx cx.S)) rfl rfl) <|
  zc (@fun fl ax wx cx=>cx.v (ex_mv rfl (cx.u 0 rfl)) rfl rfl) <|
  zc (@fun fl ax wx cx=>cx.v (ex_ext (x:=.tmp 68) rfl (cx.u 0 rfl) rfl) rfl rfl) <|
  zc (@fun fl ax wx cx=>cx.v (ex_ext (x:=.tmp 68) rfl (cx.u 0 rfl) rfl) rfl rfl) <|
  zc (@fun fl ax wx cx=>cx.v (ex_as rfl (cx.u 0 rfl)) rfl rfl) <|
  zc (@fun fl ax wx cx=>cx.v (ex_as rfl (cx.u 0 rfl)) rfl rfl) <|
  zn) ?_
 intro aq3 wq3 fq3
 obtain ⟨flq3,hfq3,hsq3⟩:=fq3.s
 have gq3_8:aq3.tmps.getD 8 undef=.int .u64 vv:=fq3.v 23 rfl rfl rfl
 have gq3_9:aq3.tmps.getD 9 undef=.int .i64 0:=fq3.v 24 rfl rfl rfl
 have B7:=Lib.hid hsq3
 have hin3:=brow B7.out hin2
 have rx3:=brow B7.out rx
 clear hsq3 hfq3 flq3
 rw [fq3.frame rfl rfl]
 clear fq3
 rw [show outs _ (fun d=>aq3.tmps.getD d undef)=[(69,aq3.tmps.getD 69 undef),(70,aq3.tmps.getD 70 undef),(71,aq3.tmps.getD 71 undef),(72,aq3.tmps.getD 72 undef),(73,aq3.tmps.getD 73 undef),(74,aq3.tmps.getD 74 undef),(75,aq3.tmps.getD 75 undef),(76,aq3.tmps.getD 76 undef),(77,aq3.tmps.getD 77 undef),(78,aq3.tmps.getD 78 undef),(79,aq3.tmps.getD 79 undef),(80,aq3.tmps.getD 80 undef),(81,aq3.tmps.getD 81 undef),(82,aq3.tmps.getD 82 undef),(83,aq3.tmps.getD 83 undef),(84,aq3.tmps.getD 84 undef),(85,aq3.tmps.getD 85 undef),(86,aq3.tmps.getD 86 undef),(87,aq3.tmps.getD 87 undef),(88,aq3.tmps.getD 88 undef),(68,aq3.tmps.getD 68 undef),(89,aq3.tmps.getD 89 undef),(90,aq3.tmps.getD 90 undef),(8,aq3.tmps.getD 8 undef),(9,aq3.tmps.getD 9 undef)] by kernel_rfl,gq3_8,gq3_9]
 simp only [putAll,List.setIfInBounds_toArray,List.set_cons_zero,List.set_cons_succ,Exit.then]
 generalize aq3.tmps.getD 69 undef=yq3_69
 generalize aq3.tmps.getD 70 undef=yq3_70
 generalize aq3.tmps.getD 71 undef=yq3_71
 generalize aq3.tmps.getD 72 undef=yq3_72
 generalize aq3.tmps.getD 73 undef=yq3_73
 generalize aq3.tmps.getD 74 undef=yq3_74
 generalize aq3.tmps.getD 75 undef=yq3_75
 generalize aq3.tmps.getD 76 undef=yq3_76
 generalize aq3.tmps.getD 77 undef=yq3_77
 generalize aq3.tmps.getD 78 undef=yq3_78
 generalize aq3.tmps.getD 79 undef=yq3_79
 generalize aq3.tmps.getD 80 undef=yq3_80
 generalize aq3.tmps.getD 81 undef=yq3_81
 generalize aq3.tmps.getD 82 undef=yq3_82
 generalize aq3.tmps.getD 83 undef=yq3_83
 generalize aq3.tmps.getD 84 undef=yq3_84
 generalize aq3.tmps.getD 85 undef=yq3_85
 generalize aq3.tmps.getD 86 undef=yq3_86
 generalize aq3.tmps.getD 87 undef=yq3_87
 generalize aq3.tmps.getD 88 undef=yq3_88
 generalize aq3.tmps.getD 68 undef=yq3_68
 generalize aq3.tmps.getD 89 undef=yq3_89
 generalize aq3.tmps.getD 90 undef=yq3_90
 clear gq3_8 gq3_9 aq3
 have HG3:=Lib.hid hin3
 have x5:wq3.cell? ⟨gx,5,none⟩=some (.int .i8 (d:Int)):=by simp only [World.cell?,rx3];rfl
 clear rx3 hin3 rx hin2
 go_wp2_with fail
 refine (r6_set s g d vv _ HG3.out hd).mono ?_
 rintro e w5 ⟨⟨ux,rfl⟩,i5,t5⟩
 have I5:=Lib.hid i5
 have T5:=Lib.hid t5
 clear i5 t5 x5
 have f79:=Md.unfrozen (s:=s.put d vv) I5.out 79
 have e79:=Md.c79 (s:=s.put d vv) I5.out
 go_wp2_with fail
 go_ret2
 have TT:Trn [g] W (w5.setCell ⟨g,79,none⟩ (.int .i64 ((i:Int)+1))):=(Trn.of_below (BB.out.trans (B7.out.mono BB.out.size))).trans ((But.trn T5.out).trans (But.trn (But.set w5 g 79 _)))
 have IN:=Md.at_in (s:=s.put d vv) I5.out ((i:Int)+1)
 rw [HS.out] at IN
 have RR:=R.turnG (ctx:=ctx) (av:=av) (tv:=tv) (D':={ D.put d vv with at_:=D.at_+1 }) (by rw [← HS.out];exact HI0.out) hA hT hn (by rw [I2.out];exact IN) TT rfl rfl rfl (Pl.put_words R.words d hvw)
 rw [hvv.out,hA0.out] at RR
 exact ⟨rfl,RR.1,RR.2⟩
set_option maxHeartbeats 16000000 in
theorem r6_step_1n (E:Env)(F:Fine E)(D:Pl)(H:Runs E D)(g r β:Nat)(W:World)(R:R6 E g r β D W)(op width:Int)(m:Nat)(byReg:Bool)(off imm:Int)(d n:Nat)(hd:d<11)(hn11:n<11)(hx:E.x D.ix=(Ins.In.mk 1 op width (m:Int) byReg (d:Int) (n:Int) off imm))(hc:(andM D.set (readsM (E.x D.ix)) == readsM (E.x D.ix))=true)(hm:szB m=true)(hr:¬ readE D.mem (adI (D.r n) off) m=0):
  Calls Tryz.prog 20 #[.pointer (some ⟨g,0,none⟩)] W fun e w'=>e=.returned (.tuple #[.int .i8 3,.bool false])∧R6 E g r β D w'∧TurnT τ6 β W w':=by
 have mo:Tryz.prog.follows .mixedOrders=true:=by kernel_rfl
 obtain ⟨i1,i2⟩:=H.ix
 obtain ⟨i,hi⟩:∃ i,i=D.ix:=⟨_,rfl⟩
 rw [← hi] at hx i1 i2 hc
 have hil:i<E.pl:=i1
 obtain ⟨ctx,av,tv,hin,hA,hT,hn⟩:=R.st
 have p2:W.rangeAt E.pa (E.po+i * 9) (Ins.In.mk 1 op width (m:Int) byReg (d:Int) (n:Int) off imm).cells.toList:=by have:=R.pr.2 i hil;rwa [hx] at this
 have hpl:(i:Int)<64:=by have:=F.len.2;omega
 obtain ⟨s,hs⟩:∃ s,s=md6 E r D ctx av tv:=⟨_,rfl⟩
 rw [← hs] at hin
 have hin0:W.heap[g]?=some (.cells s.cells 65 (0,0)):=hin
 have c1:s.cells[1]?=some (.slice (some ⟨E.pa,E.po,none⟩) E.pl E.pc):=by rw [hs];exact (md6 E r D ctx av tv).get 1 (by decide)
 have c2:s.cells[2]?=some (.pointer (some ⟨r,0,none⟩)):=by rw [hs];exact (md6 E r D ctx av tv).get 2 (by decide)
 have c14:s.cells[14]?=some (.int .i64 D.set):=by rw [hs];exact (md6 E r D ctx av tv).get 14 (by decide)
 have c79:s.cells[79]?=some (.int .i64 (i:Int)):=by rw [← i2,hs];exact (md6 E r D ctx av tv).get 79 (by decide)
 have I2:=Lib.hid i2
 have HS:=Lib.hid hs
 clear i2 hi hs
 have creg:∀ k,k<11→s.cells[3+k]?=some (.int .u64 (D.r k)):=fun k hk=>by rw [s.get _ (by omega),HS.out];unfold Md.cell;rw [if_neg (by omega),if_neg (by omega),if_neg (by omega),if_pos (by omega),show 3+k - 3=k by omega];rfl
 obtain ⟨m0,hm0⟩:∃ m0,m0=readsM (Ins.In.mk 1 op width (m:Int) byReg (d:Int) (n:Int) off imm):=⟨_,rfl⟩
 have hz:=rd_test (x:=(Ins.In.mk 1 op width (m:Int) byReg (d:Int) (n:Int) off imm)) (show (0:Int)≤(d:Int) by omega) (show (d:Int)<11 by omega) (show (0:Int)≤(n:Int) by omega) (show (n:Int)<11 by omega) (by rw [← hx];exact hc)
 rw [← hm0] at hz
 have RD:Hid (∀ w,Calls Tryz.prog 44 #[.agg #[.int .i8 1,.int .i8 op,.int .i8 width,.int .i8 (m:Int),.bool byReg,.int .i8 (d:Int),.int .i8 (n:Int),.int .i64 off,.int .i64 imm]] w fun e w'=>e=.returned (.int .i64 m0)∧Below w.heap.size w w'):=Lib.hid (fun w=>by rw [hm0];exact r6_reads (Ins.In.mk 1 op width (m:Int) byReg (d:Int) (n:Int) off imm) w (show (0:Int)≤1 by decide) (show (1:Int)≤6 by decide) (show (0:Int)≤(d:Int) by omega) (show (d:Int)<11 by omega) (show (0:Int)≤(n:Int) by omega) (show (n:Int)<11 by omega))
 clear hm0 hc
 go_enter Tryz.func20,Tryz.ntmps20
 go_wp2_with fail
 refine go_regz (SB 11 12 4 W #[.int .i8 0,.int .i8 0,.int .i8 0,.int .i8 0,.bool false,.int .i8 0,.int .i8 0,.int .i64 0,.int .i64 0] (Ins.In.mk 1 op width (m:Int) byReg (d:Int) (n:Int) off imm).cells 52) [11,12] [4] [some (.pointer (some ⟨g,0,none⟩)),some (.pointer (some ⟨g,0,none⟩)),some (.pointer (some ⟨g,0,none⟩)),some (.pointer (some ⟨g,1,none⟩)),some (.slice (some ⟨E.pa,E.po,none⟩) E.pl E.pc),some (.pointer (some ⟨g,0,none⟩)),some (.pointer (some ⟨g,0,none⟩)),some (.pointer (some ⟨g,79,none⟩)),some (.int .i64 (i:Int)),some (.pointer (some ⟨E.pa,E.po+i * 9,none⟩)),some (.agg (Ins.In.mk 1 op width (m:Int) byReg (d:Int) (n:Int) off imm).cells),none,none] mo SB.loc rfl rfl (by kernel_rfl) (fun fl w1 hfl b _=>SB.start b (hfl 11 (by decide))) (
  zc (@fun fl ax wx cx=>cx.v (ex_mv rfl (cx.rq 0 rfl)) rfl rfl) <|
  zc (@fun fl ax wx cx=>cx.v (ex_nc rfl (cx.u 0 rfl)) rfl rfl) <|
  zc (@fun fl ax wx cx=>cx.v (ex_fa rfl (cx.u 0 rfl) (faQL6S265_0_0 _ _)) rfl rfl) <|
  zc (@fun fl ax wx cx=>cx.v (ex_fa rfl (cx.u 0 rfl) (faQL6S224_1_0 _ _)) rfl rfl) <|
  zc (@fun fl ax wx cx=>cx.v (ex_ld rfl (cx.u 0 rfl) (brow cx.S.1 hin0) c1 Tryz.isAgg22) rfl rfl) <|
  zc (@fun fl ax wx cx=>cx.v (ex_mv rfl (cx.rq 0 rfl)) rfl rfl) <|
  zc (@fun fl ax wx cx=>cx.v (ex_nc rfl (cx.u 0 rfl)) rfl rfl) <|
  zc (@fun fl ax wx cx=>cx.v (ex_fa rfl (cx.u 0 rfl) (faQL6S265_3_0 _ _)) rfl rfl) <|
  zc (@fun fl ax wx cx=>cx.v (ex_ld rfl (cx.u 0 rfl) (brow cx.S.1 hin0) c79 Tryz.isAgg3) rfl rfl) <|
  zc (@fun fl ax wx cx=>cx.v (ex_ixI rfl (cx.u 0 rfl) (cx.u 1 rfl) hil) rfl rfl) <|
  zc (@fun fl ax wx cx=>cx.v (ex_ldw6 rfl (cx.u 0 rfl) (load_mid6 (Ins.In.mk 1 op width (m:Int) byReg (d:Int) (n:Int) off imm) (Ins.rangeAt_below cx.S.1 p2))) rfl rfl) <|
  zc (@fun fl ax wx cx=>cx.vt rfl (by simp [execOp,Act.eval,go_sem]) rfl rfl trivial (SB.alloc cx.S (cx.later 12 (by kernel_rfl)) (by decide) (slot_new cx.sz rfl))) <|
  zc (@fun fl ax wx cx=>(by
    obtain ⟨gx,e1,e2,e3⟩:=cx.S.at_ (cx.did 0 rfl rfl) cx.fi
    exact cx.st rfl (exec_storeR 52 (.tmp 4) (.tmp 23) rfl gx (Ins.In.mk 1 op width (m:Int) byReg (d:Int) (n:Int) off imm).cells e1 (cx.u 1 rfl) e3 (by kernel_rfl) rfl (by simp [Ins.In.cells,Value.oneCell'])) rfl trivial (SB.store cx.S (cx.did 0 rfl rfl) (by decide) e1 (stored_setRow wx gx (Ins.In.mk 1 op width (m:Int) byReg (d:Int) (n:Int) off imm).cells _ _ e3)))) <|
  zn) ?_
 intro aq1 wq1 fq1
 obtain ⟨flq1,hfq1,hsq1⟩:=fq1.s
 obtain ⟨B1,gx,g4,lx,rx⟩:=SB.fin hsq1 (hfq1 11 (by decide)) (hfq1 12 (by decide))
 replace g4:aq1.tmps.getD 4 undef=.pointer (some ⟨gx,0,none⟩):=g4
 replace rx:wq1.heap[gx]?=some (.cells #[.int .i8 1,.int .i8 op,.int .i8 width,.int .i8 (m:Int),.bool byReg,.int .i8 (d:Int),.int .i8 (n:Int),.int .i64 off,.int .i64 imm] 52 (0,0)):=rx
 have hin1:=brow B1 hin0
 clear hsq1 hfq1 flq1
 rw [fq1.frame rfl rfl]
 clear fq1
 rw [show outs _ (fun d=>aq1.tmps.getD d undef)=[(13,aq1.tmps.getD 13 undef),(14,aq1.tmps.getD 14 undef),(15,aq1.tmps.getD 15 undef),(16,aq1.tmps.getD 16 undef),(17,aq1.tmps.getD 17 undef),(18,aq1.tmps.getD 18 undef),(19,aq1.tmps.getD 19 undef),(20,aq1.tmps.getD 20 undef),(21,aq1.tmps.getD 21 undef),(22,aq1.tmps.getD 22 undef),(23,aq1.tmps.getD 23 undef),(4,aq1.tmps.getD 4 undef)] by kernel_rfl,g4]
 simp only [putAll,List.setIfInBounds_toArray,List.set_cons_zero,List.set_cons_succ,Exit.then]
 generalize aq1.tmps.getD 13 undef=yq1_13
 generalize aq1.tmps.getD 14 undef=yq1_14
 generalize aq1.tmps.getD 15 undef=yq1_15
 generalize aq1.tmps.getD 16 undef=yq1_16
 generalize aq1.tmps.getD 17 undef=yq1_17
 generalize aq1.tmps.getD 18 undef=yq1_18
 generalize aq1.tmps.getD 19 undef=yq1_19
 generalize aq1.tmps.getD 20 undef=yq1_20
 generalize aq1.tmps.getD 21 undef=yq1_21
 generalize aq1.tmps.getD 22 undef=yq1_22
 generalize aq1.tmps.getD 23 undef=yq1_23
 clear g4 aq1
 clear p2
 go_wp2_with fail
 refine go_regz (fun fl u w=>Below wq1.heap.size wq1 w) [] [] [some (.agg #[.int .i8 1,.int .i8 op,.int .i8 width,.int .i8 (m:Int),.bool byReg,.int .i8 (d:Int),.int .i8 (n:Int),.int .i64 off,.int .i64 imm]),some (.int .i64 m0),some (.pointer (some ⟨g,0,none⟩)),some (.pointer (some ⟨g,0,none⟩)),some (.pointer (some ⟨g,3,none⟩)),some (.pointer (some ⟨g,14,none⟩)),some (.int .i64 D.set),some (.int .i64 (bits .andNot .i64 m0 D.set)),some (.bool (bits .andNot .i64 m0 D.set != 0))] mo (fun fl fl' u u' w hK hD h=>h) rfl rfl (by kernel_rfl) (fun fl w1 hfl b _=>b) (
  zc (@fun fl ax wx cx=>cx.v (exec_loadR 52 _ rfl gx 0 (cx.rq 4 rfl) (brow cx.S rx) [.int .i8 1,.int .i8 op,.int .i8 width,.int .i8 (m:Int),.bool byReg,.int .i8 (d:Int),.int .i8 (n:Int),.int .i64 off,.int .i64 imm] rfl _ Tryz.underlying52 rfl (by kernel_rfl)) rfl rfl) <|
  zc (@fun fl ax wx cx=>cx.ct rfl rfl (args1 (cx.u 0 rfl)) Tryz.func44 (by decide +kernel) rfl rfl ((RD.out wx).mono (by
    rintro e w' ⟨rfl,b9⟩
    exact ⟨_,rfl,rfl,cx.S.trans (b9.mono cx.S.size)⟩))) <|
  zc (@fun fl ax wx cx=>cx.v (ex_mv rfl (cx.rq 0 rfl)) rfl rfl) <|
  zc (@fun fl ax wx cx=>cx.v (ex_nc rfl (cx.u 0 rfl)) rfl rfl) <|
  zc (@fun fl ax wx cx=>cx.v (ex_fa rfl (cx.u 0 rfl) (faQL6S265_2_0 _ _)) rfl rfl) <|
  zc (@fun fl ax wx cx=>cx.v (ex_fa rfl (cx.u 0 rfl) (faQL6S249_1_3 _ _)) rfl rfl) <|
  zc (@fun fl ax wx cx=>cx.v (ex_ld rfl (cx.u 0 rfl) (brow cx.S hin1) c14 Tryz.isAgg3) rfl rfl) <|
  zc (@fun fl ax wx cx=>cx.v (by simp [execOp,Act.eval,(show ax.tmps.getD 25 undef=.int .i64 m0 from (cx.u 0 rfl)),(show ax.tmps.getD 30 undef=.int .i64 D.set from (cx.u 1 rfl)),go_sem]) rfl rfl) <|
  zc (@fun fl ax wx cx=>cx.v (ex_ne (x:=.tmp 31) rfl (cx.u 0 rfl) rfl) rfl rfl) <|
  zn) ?_
 intro aq2 wq2 fq2
 obtain ⟨flq2,hfq2,hsq2⟩:=fq2.s
 have gq2_32:aq2.tmps.getD 32 undef=.bool (bits .andNot .i64 m0 D.set != 0):=fq2.v 8 rfl rfl rfl
 have B2:=hsq2
 have rx:=brow B2 rx
 have hin2:=brow B2 hin1
 have B:=B1.trans (B2.mono B1.size)
 clear hsq2 hfq2 flq2 B1 B2 hin1
 rw [fq2.frame rfl rfl]
 clear fq2
 rw [show outs _ (fun d=>aq2.tmps.getD d undef)=[(24,aq2.tmps.getD 24 undef),(25,aq2.tmps.getD 25 undef),(26,aq2.tmps.getD 26 undef),(27,aq2.tmps.getD 27 undef),(28,aq2.tmps.getD 28 undef),(29,aq2.tmps.getD 29 undef),(30,aq2.tmps.getD 30 undef),(31,aq2.tmps.getD 31 undef),(32,aq2.tmps.getD 32 undef)] by kernel_rfl,gq2_32]
 simp only [putAll,List.setIfInBounds_toArray,List.set_cons_zero,List.set_cons_succ,Exit.then]
 generalize aq2.tmps.getD 24 undef=yq2_24
 generalize aq2.tmps.getD 25 undef=yq2_25
 generalize aq2.tmps.getD 26 undef=yq2_26
 generalize aq2.tmps.getD 27 undef=yq2_27
 generalize aq2.tmps.getD 28 undef=yq2_28
 generalize aq2.tmps.getD 29 undef=yq2_29
 generalize aq2.tmps.getD 30 undef=yq2_30
 generalize aq2.tmps.getD 31 undef=yq2_31
 clear gq2_32 aq2
 simp only [hz]
 generalize wq2=wB at *
 obtain ⟨A,hA0⟩:∃ A,Hid (A=adI (D.r n) off):=⟨_,Lib.hid rfl⟩
 have hAd:Hid (A=IntKind.u64.wrap (D.r n+IntKind.u64.wrap off)):=Lib.hid (by rw [hA0.out,IntKind.wrap_u64,IntKind.wrap_u64];unfold adI;omega)
 have hAb:0≤A∧A<18446744073709551616:=by rw [hA0.out];unfold adI;omega
 have hm8:=szB_le hm
 have hmw:Hid (IntKind.i64.wrap (m:Int)=(m:Int)):=Lib.hid (by rw [IntKind.wrap_i64];omega)
 have hm1:=szB_pos hm
 have hms:Rm.sizedB m=true:=by rw [← hm];simp [szB,Rm.sizedB]
 obtain ⟨M,m1,m2,m3⟩:=R.mm
 have RDM:Hid (∀ w,Below wB.heap.size wB w→Calls Tryz.prog 48 #[.pointer (some ⟨r,0,none⟩),.int .u64 A,.int .i64 (m:Int)] w fun e w'=>e=.returned (.tuple #[.int .u64 0,.int .i64 20])∧w=w'):=Lib.hid (fun w b=>(Rm.r_read M r β A m w ((m1.below B).below b) hAb.1 hAb.2).mono (by
   rintro e w' ⟨h,rfl⟩
   refine ⟨?_,rfl⟩
   have hr':¬ readE D.mem A m=0:=by rw [hA0.out];exact hr
   rw [Rm.read_rel m3 R.cn R.n hm1 hms h]
   unfold readE at hr' ⊢
   unfold readV
   by_cases hl:locI D.mem.cn D.mem.n D.mem.hs A m=0
   ·rw [if_pos hl,if_pos hl]
   ·rw [if_neg hl] at hr';exact absurd rfl hr'))
 have HG2:=Lib.hid hin2
 have RX:=Lib.hid rx
 have BB:=Lib.hid B
 have HI0:=Lib.hid hin
 clear hin hin0
 have d79:wB.cell? ⟨g,79,none⟩=some (.int .i64 (i:Int)):=by simp only [World.cell?,hin2];exact c79
 have x0:wB.cell? ⟨gx,0,none⟩=some (.int .i8 1):=by simp only [World.cell?,rx];rfl
 have x1:wB.cell? ⟨gx,1,none⟩=some (.int .i8 op):=by simp only [World.cell?,rx];rfl
 have x2:wB.cell? ⟨gx,2,none⟩=some (.int .i8 width):=by simp only [World.cell?,rx];rfl
 have x3:wB.cell? ⟨gx,3,none⟩=some (.int .i8 (m:Int)):=by simp only [World.cell?,rx];rfl
 have x4:wB.cell? ⟨gx,4,none⟩=some (.bool byReg):=by simp only [World.cell?,rx];rfl
 have x5:wB.cell? ⟨gx,5,none⟩=some (.int .i8 (d:Int)):=by simp only [World.cell?,rx];rfl
 have x6:wB.cell? ⟨gx,6,none⟩=some (.int .i8 (n:Int)):=by simp only [World.cell?,rx];rfl
 have x7:wB.cell? ⟨gx,7,none⟩=some (.int .i64 off):=by simp only [World.cell?,rx];rfl
 have x8:wB.cell? ⟨gx,8,none⟩=some (.int .i64 imm):=by simp only [World.cell?,rx];rfl
 have ei:wrap64 ((i:Int)+1)=(i:Int)+1:=IntWalk.wrap64_in _ (by omega)
 clear hr m1 m2 m3
 go_wp2_with fail
 clear d79 x0 x1 x2 x3 x4 x5 x6 x7 x8 B
 refine go_regz (fun fl u w=>Below wB.heap.size wB w) [] [] (tabs [some (.pointer (some ⟨g,0,none⟩)),some (.pointer (some ⟨g,0,none⟩)),some (.pointer (some ⟨g,2,none⟩)),some (.pointer (some ⟨r,0,none⟩)),some (.pointer (some ⟨g,0,none⟩)),some (.pointer (some ⟨gx,6,none⟩)),some (.int .i8 (n:Int)),some (.pointer (some ⟨g,0,none⟩)),some (.pointer (some ⟨g,3,none⟩)),some (.pointer (some ⟨g,3,none⟩)),some (.pointer (some ⟨g,3+n,none⟩)),some (.int .u64 (D.r n)),some (.pointer (some ⟨gx,7,none⟩)),some (.int .i64 off),some (.int .u64 (IntKind.u64.wrap off)),some (.int .u64 A),some (.pointer (some ⟨gx,3,none⟩)),some (.int .i8 (m:Int)),some (.int .i64 (m:Int)),some (.tuple #[.int .u64 0,.int .i64 20])] [some (.tuple #[.int .u64 0,.int .i64 20]),some (.int .u64 0),some (.int .i64 20),some (.int .u64 0),some (.int .i64 20)]) mo (fun fl fl' u u' w hK hD h=>h) rfl rfl (by kernel_rfl) (fun fl w1 hfl b _=>b) (
  zc (@fun fl ax wx cx=>cx.v (ex_mv rfl (cx.rq 0 rfl)) rfl rfl) <|
  zc (@fun fl ax wx cx=>cx.v (ex_nc rfl (cx.u 0 rfl)) rfl rfl) <|
  zc (@fun fl ax wx cx=>cx.v (ex_fa rfl (cx.u 0 rfl) (faQL6S265_1_0 _ _)) rfl rfl) <|
  zc (@fun fl ax wx cx=>cx.v (ex_ld rfl (cx.u 0 rfl) (brow cx.S hin2) c2 Tryz.isAgg63) rfl rfl) <|
  zc (@fun fl ax wx cx=>cx.v (ex_mv rfl (cx.rq 0 rfl)) rfl rfl) <|
  zc (@fun fl ax wx cx=>cx.v (ex_fa rfl (cx.rq 4 rfl) (faQL6S252_6_0 _ _)) rfl rfl) <|
  zc (@fun fl ax wx cx=>cx.v (ex_ld rfl (cx.u 0 rfl) (brow cx.S rx) rfl Tryz.isAgg29) rfl rfl) <|
  zc (@fun fl ax wx cx=>cx.v (ex_nc rfl (cx.u 0 rfl)) rfl rfl) <|
  zc (@fun fl ax wx cx=>cx.v (ex_fa rfl (cx.u 0 rfl) (faQL6S265_2_0 _ _)) rfl rfl) <|
  zc (@fun fl ax wx cx=>cx.v (ex_fa rfl (cx.u 0 rfl) (faQL6S249_0_3 _ _)) rfl rfl) <|
  zc (@fun fl ax wx cx=>cx.v (ex_ixR rfl (cx.u 0 rfl) (cx.u 1 rfl) hn11) rfl rfl) <|
  zc (@fun fl ax wx cx=>cx.v (ex_ld rfl (cx.u 0 rfl) (brow cx.S hin2) (creg n hn11) Tryz.isAgg30) rfl rfl) <|
  zc (@fun fl ax wx cx=>cx.v (ex_fa rfl (cx.rq 4 rfl) (faQL6S252_7_0 _ _)) rfl rfl) <|
  zc (@fun fl ax wx cx=>cx.v (ex_ld rfl (cx.u 0 rfl) (brow cx.S rx) rfl Tryz.isAgg3) rfl rfl) <|
  zc (@fun fl ax wx cx=>cx.v (ex_conv (x:=.tmp 82) rfl (cx.u 0 rfl) Tryz.underlying2 Tryz.underlying30) rfl rfl) <|
  zc (@fun fl ax wx cx=>cx.v (by rw [hAd.out];exact ex_add (x:=.tmp 80) (y:=.tmp 83) rfl (cx.u 0 rfl) (cx.u 1 rfl)) rfl rfl) <|
  zc (@fun fl ax wx cx=>cx.v (ex_fa rfl (cx.rq 4 rfl) (faQL6S252_3_0 _ _)) rfl rfl) <|
  zc (@fun fl ax wx cx=>cx.v (ex_ld rfl (cx.u 0 rfl) (brow cx.S rx) rfl Tryz.isAgg29) rfl rfl) <|
  zc (@fun fl ax wx cx=>cx.v (by rw [← hmw.out];exact ex_conv (x:=.tmp 86) rfl (cx.u 0 rfl) Tryz.underlying29 Tryz.underlying3) rfl rfl) <|
  zc (@fun fl ax wx cx=>cx.c rfl (args3 (cx.u 0 rfl) (cx.u 1 rfl) (cx.u 2 rfl)) Tryz.func48 (by decide +kernel) ((RDM.out wx cx.S)) rfl rfl) <|
  zc (@fun fl ax wx cx=>cx.v (ex_mv rfl (cx.u 0 rfl)) rfl rfl) <|
  zc (@fun fl ax wx cx=>cx.v (ex_ext (x:=.tmp 68) rfl (cx.u 0 rfl) rfl) rfl rfl) <|
  zc (@fun fl ax wx cx=>cx.v (ex_ext (x:=.tmp 68) rfl (cx.u 0 rfl) rfl) rfl rfl) <|
  zc (@fun fl ax wx cx=>cx.v (ex_as rfl (cx.u 0 rfl)) rfl rfl) <|
  zc (@fun fl ax wx cx=>cx.v (ex_as rfl (cx.u 0 rfl)) rfl rfl) <|
  zn) ?_
 intro aq3 wq3 fq3
 obtain ⟨flq3,hfq3,hsq3⟩:=fq3.s
 have gq3_8:aq3.tmps.getD 8 undef=.int .u64 0:=fq3.v 23 rfl rfl rfl
 have gq3_9:aq3.tmps.getD 9 undef=.int .i64 20:=fq3.v 24 rfl rfl rfl
 have B7:=Lib.hid hsq3
 have hin3:=brow B7.out hin2
 have rx3:=brow B7.out rx
 clear hsq3 hfq3 flq3
 rw [fq3.frame rfl rfl]
 clear fq3
 rw [show outs _ (fun d=>aq3.tmps.getD d undef)=[(69,aq3.tmps.getD 69 undef),(70,aq3.tmps.getD 70 undef),(71,aq3.tmps.getD 71 undef),(72,aq3.tmps.getD 72 undef),(73,aq3.tmps.getD 73 undef),(74,aq3.tmps.getD 74 undef),(75,aq3.tmps.getD 75 undef),(76,aq3.tmps.getD 76 undef),(77,aq3.tmps.getD 77 undef),(78,aq3.tmps.getD 78 undef),(79,aq3.tmps.getD 79 undef),(80,aq3.tmps.getD 80 undef),(81,aq3.tmps.getD 81 undef),(82,aq3.tmps.getD 82 undef),(83,aq3.tmps.getD 83 undef),(84,aq3.tmps.getD 84 undef),(85,aq3.tmps.getD 85 undef),(86,aq3.tmps.getD 86 undef),(87,aq3.tmps.getD 87 undef),(88,aq3.tmps.getD 88 undef),(68,aq3.tmps.getD 68 undef),(89,aq3.tmps.getD 89 undef),(90,aq3.tmps.getD 90 undef),(8,aq3.tmps.getD 8 undef),(9,aq3.tmps.getD 9 undef)] by kernel_rfl,gq3_8,gq3_9]
 simp only [putAll,List.setIfInBounds_toArray,List.set_cons_zero,List.set_cons_succ,Exit.then]
 generalize aq3.tmps.getD 69 undef=yq3_69
 generalize aq3.tmps.getD 70 undef=yq3_70
 generalize aq3.tmps.getD 71 undef=yq3_71
 generalize aq3.tmps.getD 72 undef=yq3_72
 generalize aq3.tmps.getD 73 undef=yq3_73
 generalize aq3.tmps.getD 74 undef=yq3_74
 generalize aq3.tmps.getD 75 undef=yq3_75
 generalize aq3.tmps.getD 76 undef=yq3_76
 generalize aq3.tmps.getD 77 undef=yq3_77
 generalize aq3.tmps.getD 78 undef=yq3_78
 generalize aq3.tmps.getD 79 undef=yq3_79
 generalize aq3.tmps.getD 80 undef=yq3_80
 generalize aq3.tmps.getD 81 undef=yq3_81
 generalize aq3.tmps.getD 82 undef=yq3_82
 generalize aq3.tmps.getD 83 undef=yq3_83
 generalize aq3.tmps.getD 84 undef=yq3_84
 generalize aq3.tmps.getD 85 undef=yq3_85
 generalize aq3.tmps.getD 86 undef=yq3_86
 generalize aq3.tmps.getD 87 undef=yq3_87
 generalize aq3.tmps.getD 88 undef=yq3_88
 generalize aq3.tmps.getD 68 undef=yq3_68
 generalize aq3.tmps.getD 89 undef=yq3_89
 generalize aq3.tmps.getD 90 undef=yq3_90
 clear gq3_8 gq3_9 aq3
 clear hin3 rx3
 go_wp2_with fail
 go_ret2
 have RR:=R.still (BB.out.trans (B7.out.mono BB.out.size))
 exact ⟨rfl,RR.1,RR.2⟩
end Go.Proofs.YtigliofiojkhcaaGreat.Mdl
