import Derived.Test.YtigliofiojkhcaaGreatMEx
import Derived.Test.YtigliofiojkhcaaGreatMRn28
import Derived.Test.YtigliofiojkhcaaGreatMEa02
import Derived.Test.YtigliofiojkhcaaGreatMRn19
set_option linter.unusedVariables false
set_option linter.unusedSimpArgs false
set_option linter.unnecessarySimpa false
namespace Go.Proofs.YtigliofiojkhcaaGreat.Mdl
open Go.RowKit Go.Maps Ins Trc
set_option maxRecDepth 100000
theorem faQL6S352_5_0 (g:Nat)(w:World):(Instr.fieldAt 52 (.pointer (some ⟨g,0,none⟩)) 5).run Tryz.prog w=.ok (.pointer (some ⟨g,5,none⟩)) w:=by simp [go_sem]
theorem faQL6S365_2_0 (g:Nat)(w:World):(Instr.fieldAt 65 (.pointer (some ⟨g,0,none⟩)) 2).run Tryz.prog w=.ok (.pointer (some ⟨g,3,none⟩)) w:=by simp [go_sem]
theorem faQL6S349_0_3 (g:Nat)(w:World):(Instr.fieldAt 49 (.pointer (some ⟨g,3,none⟩)) 0).run Tryz.prog w=.ok (.pointer (some ⟨g,3,none⟩)) w:=by simp [go_sem]
theorem faQL6S365_3_0 (g:Nat)(w:World):(Instr.fieldAt 65 (.pointer (some ⟨g,0,none⟩)) 3).run Tryz.prog w=.ok (.pointer (some ⟨g,79,none⟩)) w:=by simp [go_sem]
theorem faQL6S365_1_0 (g:Nat)(w:World):(Instr.fieldAt 65 (.pointer (some ⟨g,0,none⟩)) 1).run Tryz.prog w=.ok (.pointer (some ⟨g,2,none⟩)) w:=by simp [go_sem]
theorem faQL6S352_6_0 (g:Nat)(w:World):(Instr.fieldAt 52 (.pointer (some ⟨g,0,none⟩)) 6).run Tryz.prog w=.ok (.pointer (some ⟨g,6,none⟩)) w:=by simp [go_sem]
theorem faQL6S352_7_0 (g:Nat)(w:World):(Instr.fieldAt 52 (.pointer (some ⟨g,0,none⟩)) 7).run Tryz.prog w=.ok (.pointer (some ⟨g,7,none⟩)) w:=by simp [go_sem]
theorem faQL6S352_3_0 (g:Nat)(w:World):(Instr.fieldAt 52 (.pointer (some ⟨g,0,none⟩)) 3).run Tryz.prog w=.ok (.pointer (some ⟨g,3,none⟩)) w:=by simp [go_sem]
theorem faQL6S365_0_0 (g:Nat)(w:World):(Instr.fieldAt 65 (.pointer (some ⟨g,0,none⟩)) 0).run Tryz.prog w=.ok (.pointer (some ⟨g,0,none⟩)) w:=by simp [go_sem]
theorem faQL6S324_1_0 (g:Nat)(w:World):(Instr.fieldAt 24 (.pointer (some ⟨g,0,none⟩)) 1).run Tryz.prog w=.ok (.pointer (some ⟨g,1,none⟩)) w:=by simp [go_sem]
theorem faQL6S349_1_3 (g:Nat)(w:World):(Instr.fieldAt 49 (.pointer (some ⟨g,3,none⟩)) 1).run Tryz.prog w=.ok (.pointer (some ⟨g,14,none⟩)) w:=by simp [go_sem]
set_option maxHeartbeats 16000000 in
theorem r6_step_2y (E:Env)(F:Fine E)(D:Pl)(H:Runs E D)(g r β:Nat)(W:World)(R:R6 E g r β D W)(op width:Int)(m:Nat)(byReg:Bool)(off imm:Int)(d n:Nat)(hd:d<11)(hn11:n<11)(hx:E.x D.ix=(Ins.In.mk 2 op width (m:Int) byReg (d:Int) (n:Int) off imm))(hc:(andM D.set (readsM (E.x D.ix)) == readsM (E.x D.ix))=true)(hm:szB m=true)(hl:¬ locI D.mem.cn D.mem.n D.mem.hs (adI (D.r d) off) m≤1):
  Calls Tryz.prog 20 #[.pointer (some ⟨g,0,none⟩)] W fun e w'=>e=.returned (.tuple #[.int .i8 0,.bool true])∧R6 E g r β { D with mem:=D.mem.putAt (adI (D.r d) off) m (D.r n),at_:=D.at_+1 } w'∧TurnT τ6 β W w':=by
 have mo:Tryz.prog.follows .mixedOrders=true:=by kernel_rfl
 obtain ⟨i1,i2⟩:=H.ix
 obtain ⟨i,hi⟩:∃ i,i=D.ix:=⟨_,rfl⟩
 rw [← hi] at hx i1 i2 hc
 have hil:i<E.pl:=i1
 obtain ⟨ctx,av,tv,hin,hA,hT,hn⟩:=R.st
 have p2:W.rangeAt E.pa (E.po+i * 9) (Ins.In.mk 2 op width (m:Int) byReg (d:Int) (n:Int) off imm).cells.toList:=by have:=R.pr.2 i hil;rwa [hx] at this
 have hpl:(i:Int)<64:=by have:=F.len.2;omega
 obtain ⟨s,hs⟩:∃ s,s=md6 E r D ctx av tv:=⟨_,rfl⟩
 rw [← hs] at hin
 have hin0:W.heap[g]?=some (.cells s.cells 65 (0,0)):=hin
 have c1:s.cells[1]?=some (.slice (some ⟨E.pa,E.po,none⟩) E.pl E.pc):=by rw [hs];exact (md6 E r D ctx av tv).get 1 (by decide)
 have c2:s.cells[2]?=some (.pointer (some ⟨r,0,none⟩)):=by rw [hs];exact (md6 E r D ctx av tv).get 2 (by decide)
 have c14:s.cells[14]?=some (.int .i64 D.set):=by rw [hs];exact (md6 E r D ctx av tv).get 14 (by decide)
 have c79:s.cells[79]?=some (.int .i64 (i:Int)):=by rw [← i2,hs];exact (md6 E r D ctx av tv).get 79 (by decide)
 have I2:=Lib.hid i2
 have HS:=Lib.hid hs
 clear i2 hi hs
 have creg:∀ k,k<11→s.cells[3+k]?=some (.int .u64 (D.r k)):=fun k hk=>by rw [s.get _ (by omega),HS.out];unfold Md.cell;rw [if_neg (by omega),if_neg (by omega),if_neg (by omega),if_pos (by omega),show 3+k - 3=k by omega];rfl
 obtain ⟨m0,hm0⟩:∃ m0,m0=readsM (Ins.In.mk 2 op width (m:Int) byReg (d:Int) (n:Int) off imm):=⟨_,rfl⟩
 have hz:=rd_test (x:=(Ins.In.mk 2 op width (m:Int) byReg (d:Int) (n:Int) off imm)) (show (0:Int)≤(d:Int) by omega) (show (d:Int)<11 by omega) (show (0:Int)≤(n:Int) by omega) (show (n:Int)<11 by omega) (by rw [← hx];exact hc)
 rw [← hm0] at hz
 have RD:Hid (∀ w,Calls Tryz.prog 44 #[.agg #[.int .i8 2,.int .i8 op,.int .i8 width,.int .i8 (m:Int),.bool byReg,.int .i8 (d:Int),.int .i8 (n:Int),.int .i64 off,.int .i64 imm]] w fun e w'=>e=.returned (.int .i64 m0)∧Below w.heap.size w w'):=Lib.hid (fun w=>by rw [hm0];exact r6_reads (Ins.In.mk 2 op width (m:Int) byReg (d:Int) (n:Int) off imm) w (show (0:Int)≤2 by decide) (show (2:Int)≤6 by decide) (show (0:Int)≤(d:Int) by omega) (show (d:Int)<11 by omega) (show (0:Int)≤(n:Int) by omega) (show (n:Int)<11 by omega))
 clear hm0 hc
 go_enter Tryz.func20,Tryz.ntmps20
 go_wp2_with fail
 refine go_regz (SB 11 12 4 W #[.int .i8 0,.int .i8 0,.int .i8 0,.int .i8 0,.bool false,.int .i8 0,.int .i8 0,.int .i64 0,.int .i64 0] (Ins.In.mk 2 op width (m:Int) byReg (d:Int) (n:Int) off imm).cells 52) [11,12] [4] [some (.pointer (some ⟨g,0,none⟩)),some (.pointer (some ⟨g,0,none⟩)),some (.pointer (some ⟨g,0,none⟩)),some (.pointer (some ⟨g,1,none⟩)),some (.slice (some ⟨E.pa,E.po,none⟩) E.pl E.pc),some (.pointer (some ⟨g,0,none⟩)),some (.pointer (some ⟨g,0,none⟩)),some (.pointer (some ⟨g,79,none⟩)),some (.int .i64 (i:Int)),some (.pointer (some ⟨E.pa,E.po+i * 9,none⟩)),some (.agg (Ins.In.mk 2 op width (m:Int) byReg (d:Int) (n:Int) off imm).cells),none,none] mo SB.loc rfl rfl (by kernel_rfl) (fun fl w1 hfl b _=>SB.start b (hfl 11 (by decide))) (
  zc (@fun fl ax wx cx=>cx.v (ex_mv rfl (cx.rq 0 rfl)) rfl rfl) <|
  zc (@fun fl ax wx cx=>cx.v (ex_nc rfl (cx.u 0 rfl)) rfl rfl) <|
  zc (@fun fl ax wx cx=>cx.v (ex_fa rfl (cx.u 0 rfl) (faQL6S365_0_0 _ _)) rfl rfl) <|
  zc (@fun fl ax wx cx=>cx.v (ex_fa rfl (cx.u 0 rfl) (faQL6S324_1_0 _ _)) rfl rfl) <|
  zc (@fun fl ax wx cx=>cx.v (ex_ld rfl (cx.u 0 rfl) (brow cx.S.1 hin0) c1 Tryz.isAgg22) rfl rfl) <|
  zc (@fun fl ax wx cx=>cx.v (ex_mv rfl (cx.rq 0 rfl)) rfl rfl) <|
  zc (@fun fl ax wx cx=>cx.v (ex_nc rfl (cx.u 0 rfl)) rfl rfl) <|
  zc (@fun fl ax wx cx=>cx.v (ex_fa rfl (cx.u 0 rfl) (faQL6S365_3_0 _ _)) rfl rfl) <|
  zc (@fun fl ax wx cx=>cx.v (ex_ld rfl (cx.u 0 rfl) (brow cx.S.1 hin0) c79 Tryz.isAgg3) rfl rfl) <|
  zc (@fun fl ax wx cx=>cx.v (ex_ixI rfl (cx.u 0 rfl) (cx.u 1 rfl) hil) rfl rfl) <|
  zc (@fun fl ax wx cx=>cx.v (ex_ldw6 rfl (cx.u 0 rfl) (load_mid6 (Ins.In.mk 2 op width (m:Int) byReg (d:Int) (n:Int) off imm) (Ins.rangeAt_below cx.S.1 p2))) rfl rfl) <|
  zc (@fun fl ax wx cx=>cx.vt rfl (by simp [execOp,Act.eval,go_sem]) rfl rfl trivial (SB.alloc cx.S (cx.later 12 (by kernel_rfl)) (by decide) (slot_new cx.sz rfl))) <|
  zc (@fun fl ax wx cx=>(by
    obtain ⟨gx,e1,e2,e3⟩:=cx.S.at_ (cx.did 0 rfl rfl) cx.fi
    exact cx.st rfl (exec_storeR 52 (.tmp 4) (.tmp 23) rfl gx (Ins.In.mk 2 op width (m:Int) byReg (d:Int) (n:Int) off imm).cells e1 (cx.u 1 rfl) e3 (by kernel_rfl) rfl (by simp [Ins.In.cells,Value.oneCell'])) rfl trivial (SB.store cx.S (cx.did 0 rfl rfl) (by decide) e1 (stored_setRow wx gx (Ins.In.mk 2 op width (m:Int) byReg (d:Int) (n:Int) off imm).cells _ _ e3)))) <|
  zn) ?_
 intro aq1 wq1 fq1
 obtain ⟨flq1,hfq1,hsq1⟩:=fq1.s
 obtain ⟨B1,gx,g4,lx,rx⟩:=SB.fin hsq1 (hfq1 11 (by decide)) (hfq1 12 (by decide))
 replace g4:aq1.tmps.getD 4 undef=.pointer (some ⟨gx,0,none⟩):=g4
 replace rx:wq1.heap[gx]?=some (.cells #[.int .i8 2,.int .i8 op,.int .i8 width,.int .i8 (m:Int),.bool byReg,.int .i8 (d:Int),.int .i8 (n:Int),.int .i64 off,.int .i64 imm] 52 (0,0)):=rx
 have hin1:=brow B1 hin0
 clear hsq1 hfq1 flq1
 rw [fq1.frame rfl rfl]
 clear fq1
 rw [show outs _ (fun d=>aq1.tmps.getD d undef)=[(13,aq1.tmps.getD 13 undef),(14,aq1.tmps.getD 14 undef),(15,aq1.tmps.getD 15 undef),(16,aq1.tmps.getD 16 undef),(17,aq1.tmps.getD 17 undef),(18,aq1.tmps.getD 18 undef),(19,aq1.tmps.getD 19 undef),(20,aq1.tmps.getD 20 undef),(21,aq1.tmps.getD 21 undef),(22,aq1.tmps.getD 22 undef),(23,aq1.tmps.getD 23 undef),(4,aq1.tmps.getD 4 undef)] by kernel_rfl,g4]
 simp only [putAll,List.setIfInBounds_toArray,List.set_cons_zero,List.set_cons_succ,Exit.then]
 generalize aq1.tmps.getD 13 undef=yq1_13
 generalize aq1.tmps.getD 14 undef=yq1_14
 generalize aq1.tmps.getD 15 undef=yq1_15
 generalize aq1.tmps.getD 16 undef=yq1_16
 generalize aq1.tmps.getD 17 undef=yq1_17
 generalize aq1.tmps.getD 18 undef=yq1_18
 generalize aq1.tmps.getD 19 undef=yq1_19
 generalize aq1.tmps.getD 20 undef=yq1_20
 generalize aq1.tmps.getD 21 undef=yq1_21
 generalize aq1.tmps.getD 22 undef=yq1_22
 generalize aq1.tmps.getD 23 undef=yq1_23
 clear g4 aq1
 clear p2
 go_wp2_with fail
 refine go_regz (fun fl u w=>Below wq1.heap.size wq1 w) [] [] [some (.agg #[.int .i8 2,.int .i8 op,.int .i8 width,.int .i8 (m:Int),.bool byReg,.int .i8 (d:Int),.int .i8 (n:Int),.int .i64 off,.int .i64 imm]),some (.int .i64 m0),some (.pointer (some ⟨g,0,none⟩)),some (.pointer (some ⟨g,0,none⟩)),some (.pointer (some ⟨g,3,none⟩)),some (.pointer (some ⟨g,14,none⟩)),some (.int .i64 D.set),some (.int .i64 (bits .andNot .i64 m0 D.set)),some (.bool (bits .andNot .i64 m0 D.set != 0))] mo (fun fl fl' u u' w hK hD h=>h) rfl rfl (by kernel_rfl) (fun fl w1 hfl b _=>b) (
  zc (@fun fl ax wx cx=>cx.v (exec_loadR 52 _ rfl gx 0 (cx.rq 4 rfl) (brow cx.S rx) [.int .i8 2,.int .i8 op,.int .i8 width,.int .i8 (m:Int),.bool byReg,.int .i8 (d:Int),.int .i8 (n:Int),.int .i64 off,.int .i64 imm] rfl _ Tryz.underlying52 rfl (by kernel_rfl)) rfl rfl) <|
  zc (@fun fl ax wx cx=>cx.ct rfl rfl (args1 (cx.u 0 rfl)) Tryz.func44 (by decide +kernel) rfl rfl ((RD.out wx).mono (by
    rintro e w' ⟨rfl,b9⟩
    exact ⟨_,rfl,rfl,cx.S.trans (b9.mono cx.S.size)⟩))) <|
  zc (@fun fl ax wx cx=>cx.v (ex_mv rfl (cx.rq 0 rfl)) rfl rfl) <|
  zc (@fun fl ax wx cx=>cx.v (ex_nc rfl (cx.u 0 rfl)) rfl rfl) <|
  zc (@fun fl ax wx cx=>cx.v (ex_fa rfl (cx.u 0 rfl) (faQL6S365_2_0 _ _)) rfl rfl) <|
  zc (@fun fl ax wx cx=>cx.v (ex_fa rfl (cx.u 0 rfl) (faQL6S349_1_3 _ _)) rfl rfl) <|
  zc (@fun fl ax wx cx=>cx.v (ex_ld rfl (cx.u 0 rfl) (brow cx.S hin1) c14 Tryz.isAgg3) rfl rfl) <|
  zc (@fun fl ax wx cx=>cx.v (by simp [execOp,Act.eval,(show ax.tmps.getD 25 undef=.int .i64 m0 from (cx.u 0 rfl)),(show ax.tmps.getD 30 undef=.int .i64 D.set from (cx.u 1 rfl)),go_sem]) rfl rfl) <|
  zc (@fun fl ax wx cx=>cx.v (ex_ne (x:=.tmp 31) rfl (cx.u 0 rfl) rfl) rfl rfl) <|
  zn) ?_
 intro aq2 wq2 fq2
 obtain ⟨flq2,hfq2,hsq2⟩:=fq2.s
 have gq2_32:aq2.tmps.getD 32 undef=.bool (bits .andNot .i64 m0 D.set != 0):=fq2.v 8 rfl rfl rfl
 have B2:=hsq2
 have rx:=brow B2 rx
 have hin2:=brow B2 hin1
 have B:=B1.trans (B2.mono B1.size)
 clear hsq2 hfq2 flq2 B1 B2 hin1
 rw [fq2.frame rfl rfl]
 clear fq2
 rw [show outs _ (fun d=>aq2.tmps.getD d undef)=[(24,aq2.tmps.getD 24 undef),(25,aq2.tmps.getD 25 undef),(26,aq2.tmps.getD 26 undef),(27,aq2.tmps.getD 27 undef),(28,aq2.tmps.getD 28 undef),(29,aq2.tmps.getD 29 undef),(30,aq2.tmps.getD 30 undef),(31,aq2.tmps.getD 31 undef),(32,aq2.tmps.getD 32 undef)] by kernel_rfl,gq2_32]
 simp only [putAll,List.setIfInBounds_toArray,List.set_cons_zero,List.set_cons_succ,Exit.then]
 generalize aq2.tmps.getD 24 undef=yq2_24
 generalize aq2.tmps.getD 25 undef=yq2_25
 generalize aq2.tmps.getD 26 undef=yq2_26
 generalize aq2.tmps.getD 27 undef=yq2_27
 generalize aq2.tmps.getD 28 undef=yq2_28
 generalize aq2.tmps.getD 29 undef=yq2_29
 generalize aq2.tmps.getD 30 undef=yq2_30
 generalize aq2.tmps.getD 31 undef=yq2_31
 clear gq2_32 aq2
 simp only [hz]
 generalize wq2=wB at *
 obtain ⟨A,hA0⟩:∃ A,Hid (A=adI (D.r d) off):=⟨_,Lib.hid rfl⟩
 have hAd:Hid (A=IntKind.u64.wrap (D.r d+IntKind.u64.wrap off)):=Lib.hid (by rw [hA0.out,IntKind.wrap_u64,IntKind.wrap_u64];unfold adI;omega)
 have hAb:0≤A∧A<18446744073709551616:=by rw [hA0.out];unfold adI;omega
 have hm8:=szB_le hm
 have hmw:Hid (IntKind.i64.wrap (m:Int)=(m:Int)):=Lib.hid (by rw [IntKind.wrap_i64];omega)
 have hm1:=szB_pos hm
 have hms:Rm.sizedB m=true:=by rw [← hm];simp [szB,Rm.sizedB]
 obtain ⟨M,m1,m2,m3⟩:=R.mm
 have WRT:Hid (∀ w,Below wB.heap.size wB w→Calls Tryz.prog 49 #[.pointer (some ⟨r,0,none⟩),.int .u64 A,.int .i64 (m:Int),.int .u64 (D.r n)] w fun e w'=>e=.returned (.int .i64 0)∧(∃ wx,Below wB.heap.size wB wx∧∃ (M':Rm.RefM) (g':Nat),Rm.RefAt M' w' r β∧Rm.Sep M'∧Rm.Rel (D.mem.putAt A m (D.r n)) E.kf M'∧β≤g'∧ChgAt g' wx w'∧∃ c:Array Value,wx.heap[g']?=some (.cells c 5 (0,0)))):=Lib.hid (fun w b=>(Rm.r_write M r β A m (D.r n) w ((m1.below B).below b) hAb.1 hAb.2 (R.words n).1 (R.words n).2).mono (by
   intro e w' h
   rcases Rm.write_rel m3 m2 R.cn R.n hm1 hms ((m1.below B).below b) h with ⟨l1,rfl,rfl⟩ | ⟨l1,rfl,M',g',q1,q2,q3,q4,q5,q6⟩
   ·exact absurd l1 (by rw [hA0.out];exact hl)
   ·exact ⟨rfl,w,b,M',g',q1,q2,q3,q4,q5,q6⟩))
 have HG2:=Lib.hid hin2
 have RX:=Lib.hid rx
 have BB:=Lib.hid B
 have HI0:=Lib.hid hin
 clear hin hin0
 have d79:wB.cell? ⟨g,79,none⟩=some (.int .i64 (i:Int)):=by simp only [World.cell?,hin2];exact c79
 have x0:wB.cell? ⟨gx,0,none⟩=some (.int .i8 2):=by simp only [World.cell?,rx];rfl
 have x1:wB.cell? ⟨gx,1,none⟩=some (.int .i8 op):=by simp only [World.cell?,rx];rfl
 have x2:wB.cell? ⟨gx,2,none⟩=some (.int .i8 width):=by simp only [World.cell?,rx];rfl
 have x3:wB.cell? ⟨gx,3,none⟩=some (.int .i8 (m:Int)):=by simp only [World.cell?,rx];rfl
 have x4:wB.cell? ⟨gx,4,none⟩=some (.bool byReg):=by simp only [World.cell?,rx];rfl
 have x5:wB.cell? ⟨gx,5,none⟩=some (.int .i8 (d:Int)):=by simp only [World.cell?,rx];rfl
 have x6:wB.cell? ⟨gx,6,none⟩=some (.int .i8 (n:Int)):=by simp only [World.cell?,rx];rfl
 have x7:wB.cell? ⟨gx,7,none⟩=some (.int .i64 off):=by simp only [World.cell?,rx];rfl
 have x8:wB.cell? ⟨gx,8,none⟩=some (.int .i64 imm):=by simp only [World.cell?,rx];rfl
 have ei:wrap64 ((i:Int)+1)=(i:Int)+1:=IntWalk.wrap64_in _ (by omega)
 clear hl m1 m2 m3
 go_wp2_with fail
 clear d79 x0 x1 x2 x3 x4 x5 x6 x7 x8 B
 refine go_regz (SC 27 (fun w=>Below wB.heap.size wB w) (fun w'=>∃ wx,Below wB.heap.size wB wx∧∃ (M':Rm.RefM) (g':Nat),Rm.RefAt M' w' r β∧Rm.Sep M'∧Rm.Rel (D.mem.putAt A m (D.r n)) E.kf M'∧β≤g'∧ChgAt g' wx w'∧∃ c:Array Value,wx.heap[g']?=some (.cells c 5 (0,0)))) [27] [] (tabs [some (.pointer (some ⟨g,0,none⟩)),some (.pointer (some ⟨g,0,none⟩)),some (.pointer (some ⟨g,2,none⟩)),some (.pointer (some ⟨r,0,none⟩)),some (.pointer (some ⟨g,0,none⟩)),some (.pointer (some ⟨gx,5,none⟩)),some (.int .i8 (d:Int)),some (.pointer (some ⟨g,0,none⟩)),some (.pointer (some ⟨g,3,none⟩)),some (.pointer (some ⟨g,3,none⟩)),some (.pointer (some ⟨g,3+d,none⟩)),some (.int .u64 (D.r d)),some (.pointer (some ⟨gx,7,none⟩)),some (.int .i64 off),some (.int .u64 (IntKind.u64.wrap off)),some (.int .u64 A),some (.pointer (some ⟨gx,3,none⟩)),some (.int .i8 (m:Int)),some (.int .i64 (m:Int)),some (.pointer (some ⟨g,0,none⟩))] [some (.pointer (some ⟨gx,6,none⟩)),some (.int .i8 (n:Int)),some (.pointer (some ⟨g,0,none⟩)),some (.pointer (some ⟨g,3,none⟩)),some (.pointer (some ⟨g,3,none⟩)),some (.pointer (some ⟨g,3+n,none⟩)),some (.int .u64 (D.r n)),some (.int .i64 0),some (.int .i64 0)]) mo SC.loc rfl rfl (by kernel_rfl) (fun fl w1 hfl b _=>SC.start (hfl 27 (by decide)) b) (
  zc (@fun fl ax wx cx=>cx.v (ex_mv rfl (cx.rq 0 rfl)) rfl rfl) <|
  zc (@fun fl ax wx cx=>cx.v (ex_nc rfl (cx.u 0 rfl)) rfl rfl) <|
  zc (@fun fl ax wx cx=>cx.v (ex_fa rfl (cx.u 0 rfl) (faQL6S365_1_0 _ _)) rfl rfl) <|
  zc (@fun fl ax wx cx=>cx.v (ex_ld rfl (cx.u 0 rfl) (brow (cx.S.was (cx.later 27 (by kernel_rfl))) hin2) c2 Tryz.isAgg63) rfl rfl) <|
  zc (@fun fl ax wx cx=>cx.v (ex_mv rfl (cx.rq 0 rfl)) rfl rfl) <|
  zc (@fun fl ax wx cx=>cx.v (ex_fa rfl (cx.rq 4 rfl) (faQL6S352_5_0 _ _)) rfl rfl) <|
  zc (@fun fl ax wx cx=>cx.v (ex_ld rfl (cx.u 0 rfl) (brow (cx.S.was (not_yet (i:=15) (k:=27) cx.clo (not_yet (i:=11) (k:=15) cx.clo (not_yet (i:=10) (k:=11) cx.clo (cx.later 10 (by kernel_rfl)) (by kernel_rfl)) (by kernel_rfl)) (by kernel_rfl))) rx) rfl Tryz.isAgg29) rfl rfl) <|
  zc (@fun fl ax wx cx=>cx.v (ex_nc rfl (cx.u 0 rfl)) rfl rfl) <|
  zc (@fun fl ax wx cx=>cx.v (ex_fa rfl (cx.u 0 rfl) (faQL6S365_2_0 _ _)) rfl rfl) <|
  zc (@fun fl ax wx cx=>cx.v (ex_fa rfl (cx.u 0 rfl) (faQL6S349_0_3 _ _)) rfl rfl) <|
  zc (@fun fl ax wx cx=>cx.v (ex_ixR rfl (cx.u 0 rfl) (cx.u 1 rfl) hd) rfl rfl) <|
  zc (@fun fl ax wx cx=>cx.v (ex_ld rfl (cx.u 0 rfl) (brow (cx.S.was (not_yet (i:=15) (k:=27) cx.clo (cx.later 15 (by kernel_rfl)) (by kernel_rfl))) hin2) (creg d hd) Tryz.isAgg30) rfl rfl) <|
  zc (@fun fl ax wx cx=>cx.v (ex_fa rfl (cx.rq 4 rfl) (faQL6S352_7_0 _ _)) rfl rfl) <|
  zc (@fun fl ax wx cx=>cx.v (ex_ld rfl (cx.u 0 rfl) (brow (cx.S.was (not_yet (i:=15) (k:=27) cx.clo (not_yet (i:=14) (k:=15) cx.clo (cx.later 14 (by kernel_rfl)) (by kernel_rfl)) (by kernel_rfl))) rx) rfl Tryz.isAgg3) rfl rfl) <|
  zc (@fun fl ax wx cx=>cx.v (ex_conv (x:=.tmp 113) rfl (cx.u 0 rfl) Tryz.underlying2 Tryz.underlying30) rfl rfl) <|
  zc (@fun fl ax wx cx=>cx.v (by rw [hAd.out];exact ex_add (x:=.tmp 111) (y:=.tmp 114) rfl (cx.u 0 rfl) (cx.u 1 rfl)) rfl rfl) <|
  zc (@fun fl ax wx cx=>cx.v (ex_fa rfl (cx.rq 4 rfl) (faQL6S352_3_0 _ _)) rfl rfl) <|
  zc (@fun fl ax wx cx=>cx.v (ex_ld rfl (cx.u 0 rfl) (brow (cx.S.was (not_yet (i:=18) (k:=27) cx.clo (cx.later 18 (by kernel_rfl)) (by kernel_rfl))) rx) rfl Tryz.isAgg29) rfl rfl) <|
  zc (@fun fl ax wx cx=>cx.v (by rw [← hmw.out];exact ex_conv (x:=.tmp 117) rfl (cx.u 0 rfl) Tryz.underlying29 Tryz.underlying3) rfl rfl) <|
  zc (@fun fl ax wx cx=>cx.v (ex_mv rfl (cx.rq 0 rfl)) rfl rfl) <|
  zc (@fun fl ax wx cx=>cx.v (ex_fa rfl (cx.rq 4 rfl) (faQL6S352_6_0 _ _)) rfl rfl) <|
  zc (@fun fl ax wx cx=>cx.v (ex_ld rfl (cx.u 0 rfl) (brow (cx.S.was (not_yet (i:=26) (k:=27) cx.clo (not_yet (i:=25) (k:=26) cx.clo (cx.later 25 (by kernel_rfl)) (by kernel_rfl)) (by kernel_rfl))) rx) rfl Tryz.isAgg29) rfl rfl) <|
  zc (@fun fl ax wx cx=>cx.v (ex_nc rfl (cx.u 0 rfl)) rfl rfl) <|
  zc (@fun fl ax wx cx=>cx.v (ex_fa rfl (cx.u 0 rfl) (faQL6S365_2_0 _ _)) rfl rfl) <|
  zc (@fun fl ax wx cx=>cx.v (ex_fa rfl (cx.u 0 rfl) (faQL6S349_0_3 _ _)) rfl rfl) <|
  zc (@fun fl ax wx cx=>cx.v (ex_ixR rfl (cx.u 0 rfl) (cx.u 1 rfl) hn11) rfl rfl) <|
  zc (@fun fl ax wx cx=>cx.v (ex_ld rfl (cx.u 0 rfl) (brow (cx.S.was (cx.later 27 (by kernel_rfl))) hin2) (creg n hn11) Tryz.isAgg30) rfl rfl) <|
  zc (@fun fl ax wx cx=>cx.ct rfl rfl (args4 (cx.u 0 rfl) (cx.u 1 rfl) (cx.u 2 rfl) (cx.u 3 rfl)) Tryz.func49 (by decide +kernel) rfl rfl ((WRT.out wx (cx.S.was cx.fi)).mono (by
    rintro e w' ⟨rfl,b9⟩
    exact ⟨_,rfl,rfl,SC.to b9⟩))) <|
  zc (@fun fl ax wx cx=>cx.v (ex_as rfl (cx.u 0 rfl)) rfl rfl) <|
  zn) ?_
 intro aq3 wq3 fq3
 obtain ⟨flq3,hfq3,hsq3⟩:=fq3.s
 have gq3_10:aq3.tmps.getD 10 undef=.int .i64 0:=fq3.v 28 rfl rfl rfl
 have P9:=SC.fin hsq3 (hfq3 27 (by decide))
 clear hsq3 hfq3 flq3
 rw [fq3.frame rfl rfl]
 clear fq3
 rw [show outs _ (fun d=>aq3.tmps.getD d undef)=[(100,aq3.tmps.getD 100 undef),(101,aq3.tmps.getD 101 undef),(102,aq3.tmps.getD 102 undef),(103,aq3.tmps.getD 103 undef),(104,aq3.tmps.getD 104 undef),(105,aq3.tmps.getD 105 undef),(106,aq3.tmps.getD 106 undef),(107,aq3.tmps.getD 107 undef),(108,aq3.tmps.getD 108 undef),(109,aq3.tmps.getD 109 undef),(110,aq3.tmps.getD 110 undef),(111,aq3.tmps.getD 111 undef),(112,aq3.tmps.getD 112 undef),(113,aq3.tmps.getD 113 undef),(114,aq3.tmps.getD 114 undef),(115,aq3.tmps.getD 115 undef),(116,aq3.tmps.getD 116 undef),(117,aq3.tmps.getD 117 undef),(118,aq3.tmps.getD 118 undef),(119,aq3.tmps.getD 119 undef),(120,aq3.tmps.getD 120 undef),(121,aq3.tmps.getD 121 undef),(122,aq3.tmps.getD 122 undef),(123,aq3.tmps.getD 123 undef),(124,aq3.tmps.getD 124 undef),(125,aq3.tmps.getD 125 undef),(126,aq3.tmps.getD 126 undef),(127,aq3.tmps.getD 127 undef),(10,aq3.tmps.getD 10 undef)] by kernel_rfl,gq3_10]
 simp only [putAll,List.setIfInBounds_toArray,List.set_cons_zero,List.set_cons_succ,Exit.then]
 generalize aq3.tmps.getD 100 undef=yq3_100
 generalize aq3.tmps.getD 101 undef=yq3_101
 generalize aq3.tmps.getD 102 undef=yq3_102
 generalize aq3.tmps.getD 103 undef=yq3_103
 generalize aq3.tmps.getD 104 undef=yq3_104
 generalize aq3.tmps.getD 105 undef=yq3_105
 generalize aq3.tmps.getD 106 undef=yq3_106
 generalize aq3.tmps.getD 107 undef=yq3_107
 generalize aq3.tmps.getD 108 undef=yq3_108
 generalize aq3.tmps.getD 109 undef=yq3_109
 generalize aq3.tmps.getD 110 undef=yq3_110
 generalize aq3.tmps.getD 111 undef=yq3_111
 generalize aq3.tmps.getD 112 undef=yq3_112
 generalize aq3.tmps.getD 113 undef=yq3_113
 generalize aq3.tmps.getD 114 undef=yq3_114
 generalize aq3.tmps.getD 115 undef=yq3_115
 generalize aq3.tmps.getD 116 undef=yq3_116
 generalize aq3.tmps.getD 117 undef=yq3_117
 generalize aq3.tmps.getD 118 undef=yq3_118
 generalize aq3.tmps.getD 119 undef=yq3_119
 generalize aq3.tmps.getD 120 undef=yq3_120
 generalize aq3.tmps.getD 121 undef=yq3_121
 generalize aq3.tmps.getD 122 undef=yq3_122
 generalize aq3.tmps.getD 123 undef=yq3_123
 generalize aq3.tmps.getD 124 undef=yq3_124
 generalize aq3.tmps.getD 125 undef=yq3_125
 generalize aq3.tmps.getD 126 undef=yq3_126
 generalize aq3.tmps.getD 127 undef=yq3_127
 clear gq3_10 aq3
 obtain ⟨wx,bx,M',g',m1',m2',m3',hg',hch,cr,hcr⟩:=P9
 have NE:g≠g':=fun e=>by have:=brow bx hin2;rw [e,hcr] at this;simp at this
 have hin3:wq3.heap[g]?=some (.cells s.cells 65 (0,0)):=(hch.block g (Array.getElem?_eq_some_iff.1 (brow bx hin2)).1 NE).trans (brow bx hin2)
 have BX:=Lib.hid (BB.out.trans (bx.mono BB.out.size))
 have CH:=Lib.hid hch
 have CR:=Lib.hid hcr
 have M1:=Lib.hid m1'
 have M2:=Lib.hid m2'
 have M3:=Lib.hid m3'
 have HG3:=Lib.hid (show s.in_ wq3 g from hin3)
 clear hch hcr m1' m2' m3' bx hin2 rx NE WRT hin3
 have d2:wq3.cell? ⟨g,2,none⟩=some (.pointer (some ⟨r,0,none⟩)):=(Md.c2 HG3.out).trans (by rw [HS.out];rfl)
 go_wp2_with fail
 refine (Rm.r_frame M' r β _ M1.out M3.out.fl).mono ?_
 rintro e w5 ⟨rfl,b5⟩
 have hfr:Hid (bytesOf M'.fr.f 64=bytesOf (fun i=>(D.mem.putAt A m (D.r n)).g (258+i)) 64):=Lib.hid (Rm.bytesOf_eq (fun i hi=>M3.out.fv i hi))
 rw [hfr.out]
 have B5:=Lib.hid b5
 have HG5:=Lib.hid (Md.below HG3.out b5)
 clear b5 d2 hfr
 obtain ⟨ff,hff⟩:∃ ff,Hid (ff=fun i=>(D.mem.putAt A m (D.r n)).g (258+i)):=⟨_,Lib.hid rfl⟩
 rw [← hff.out]
 go_wp2_with (with_reducible refine (halt_store 47 _ _ rfl ?_))
 refine ⟨?_,trivial⟩
 refine wpList_store_mid rfl 47 _ _ rfl g 15 (bytesOf ff 64).toArray rfl rfl (by rw [List.size_toArray,bytesOf_length];exact Md.there HG5.out 15 64 (by decide)) (info_frame.trans (by rw [List.size_toArray,bytesOf_length])) (bytes_one ff 64) ?_
 have HG6:=Lib.hid (Md.fr_in HG5.out ff)
 have T6:=Lib.hid (setCells_but g (bytesOf ff 64) 15 w5)
 clear HG3 HG5
 generalize w5.setCells g 15 (bytesOf ff 64).toArray.toList=w6 at *
 have e79:=Md.c79 HG6.out
 have f79:=Md.unfrozen HG6.out 79
 rw [show ({ s with fr:=ff }:Md).at_=(i:Int) by rw [HS.out];exact I2.out] at e79
 go_wp2_with fail
 go_ret2
 have TT:Trn [g] wq3 (w6.setCell ⟨g,79,none⟩ (.int .i64 ((i:Int)+1))):=(Trn.of_below B5.out).trans ((But.trn T6.out).trans (But.trn (But.set w6 g 79 _)))
 have IN:=Md.at_in HG6.out ((i:Int)+1)
 rw [HS.out,hff.out] at IN
 have RR:=R.wrote (ctx:=ctx) (av:=av) (tv:=tv) (a':=D.at_+1) (by rw [← HS.out];exact HI0.out) hA hT hn BX.out CH.out ⟨_,CR.out⟩ hg' M1.out M2.out M3.out rfl rfl (by rw [I2.out];exact IN) TT
 rw [hA0.out] at RR
 exact ⟨rfl,RR.1,RR.2⟩
set_option maxHeartbeats 16000000 in
theorem r6_step_2n (E:Env)(F:Fine E)(D:Pl)(H:Runs E D)(g r β:Nat)(W:World)(R:R6 E g r β D W)(op width:Int)(m:Nat)(byReg:Bool)(off imm:Int)(d n:Nat)(hd:d<11)(hn11:n<11)(hx:E.x D.ix=(Ins.In.mk 2 op width (m:Int) byReg (d:Int) (n:Int) off imm))(hc:(andM D.set (readsM (E.x D.ix)) == readsM (E.x D.ix))=true)(hm:szB m=true)(hl:locI D.mem.cn D.mem.n D.mem.hs (adI (D.r d) off) m≤1):
  Calls Tryz.prog 20 #[.pointer (some ⟨g,0,none⟩)] W fun e w'=>e=.returned (.tuple #[.int .i8 3,.bool false])∧R6 E g r β D w'∧TurnT τ6 β W w':=by
 have mo:Tryz.prog.follows .mixedOrders=true:=by kernel_rfl
 obtain ⟨i1,i2⟩:=H.ix
 obtain ⟨i,hi⟩:∃ i,i=D.ix:=⟨_,rfl⟩
 rw [← hi] at hx i1 i2 hc
 have hil:i<E.pl:=i1
 obtain ⟨ctx,av,tv,hin,hA,hT,hn⟩:=R.st
 have p2:W.rangeAt E.pa (E.po+i * 9) (Ins.In.mk 2 op width (m:Int) byReg (d:Int) (n:Int) off imm).cells.toList:=by have:=R.pr.2 i hil;rwa [hx] at this
 have hpl:(i:Int)<64:=by have:=F.len.2;omega
 obtain ⟨s,hs⟩:∃ s,s=md6 E r D ctx av tv:=⟨_,rfl⟩
 rw [← hs] at hin
 have hin0:W.heap[g]?=some (.cells s.cells 65 (0,0)):=hin
 have c1:s.cells[1]?=some (.slice (some ⟨E.pa,E.po,none⟩) E.pl E.pc):=by rw [hs];exact (md6 E r D ctx av tv).get 1 (by decide)
 have c2:s.cells[2]?=some (.pointer (some ⟨r,0,none⟩)):=by rw [hs];exact (md6 E r D ctx av tv).get 2 (by decide)
 have c14:s.cells[14]?=some (.int .i64 D.set):=by rw [hs];exact (md6 E r D ctx av tv).get 14 (by decide)
 have c79:s.cells[79]?=some (.int .i64 (i:Int)):=by rw [← i2,hs];exact (md6 E r D ctx av tv).get 79 (by decide)
 have I2:=Lib.hid i2
 have HS:=Lib.hid hs
 clear i2 hi hs
 have creg:∀ k,k<11→s.cells[3+k]?=some (.int .u64 (D.r k)):=fun k hk=>by rw [s.get _ (by omega),HS.out];unfold Md.cell;rw [if_neg (by omega),if_neg (by omega),if_neg (by omega),if_pos (by omega),show 3+k - 3=k by omega];rfl
 obtain ⟨m0,hm0⟩:∃ m0,m0=readsM (Ins.In.mk 2 op width (m:Int) byReg (d:Int) (n:Int) off imm):=⟨_,rfl⟩
 have hz:=rd_test (x:=(Ins.In.mk 2 op width (m:Int) byReg (d:Int) (n:Int) off imm)) (show (0:Int)≤(d:Int) by omega) (show (d:Int)<11 by omega) (show (0:Int)≤(n:Int) by omega) (show (n:Int)<11 by omega) (by rw [← hx];exact hc)
 rw [← hm0] at hz
 have RD:Hid (∀ w,Calls Tryz.prog 44 #[.agg #[.int .i8 2,.int .i8 op,.int .i8 width,.int .i8 (m:Int),.bool byReg,.int .i8 (d:Int),.int .i8 (n:Int),.int .i64 off,.int .i64 imm]] w fun e w'=>e=.returned (.int .i64 m0)∧Below w.heap.size w w'):=Lib.hid (fun w=>by rw [hm0];exact r6_reads (Ins.In.mk 2 op width (m:Int) byReg (d:Int) (n:Int) off imm) w (show (0:Int)≤2 by decide) (show (2:Int)≤6 by decide) (show (0:Int)≤(d:Int) by omega) (show (d:Int)<11 by omega) (show (0:Int)≤(n:Int) by omega) (show (n:Int)<11 by omega))
 clear hm0 hc
 go_enter Tryz.func20,Tryz.ntmps20
 go_wp2_with fail
 refine go_regz (SB 11 12 4 W #[.int .i8 0,.int .i8 0,.int .i8 0,.int .i8 0,.bool false,.int .i8 0,.int .i8 0,.int .i64 0,.int .i64 0] (Ins.In.mk 2 op width (m:Int) byReg (d:Int) (n:Int) off imm).cells 52) [11,12] [4] [some (.pointer (some ⟨g,0,none⟩)),some (.pointer (some ⟨g,0,none⟩)),some (.pointer (some ⟨g,0,none⟩)),some (.pointer (some ⟨g,1,none⟩)),some (.slice (some ⟨E.pa,E.po,none⟩) E.pl E.pc),some (.pointer (some ⟨g,0,none⟩)),some (.pointer (some ⟨g,0,none⟩)),some (.pointer (some ⟨g,79,none⟩)),some (.int .i64 (i:Int)),some (.pointer (some ⟨E.pa,E.po+i * 9,none⟩)),some (.agg (Ins.In.mk 2 op width (m:Int) byReg (d:Int) (n:Int) off imm).cells),none,none] mo SB.loc rfl rfl (by kernel_rfl) (fun fl w1 hfl b _=>SB.start b (hfl 11 (by decide))) (
  zc (@fun fl ax wx cx=>cx.v (ex_mv rfl (cx.rq 0 rfl)) rfl rfl) <|
  zc (@fun fl ax wx cx=>cx.v (ex_nc rfl (cx.u 0 rfl)) rfl rfl) <|
  zc (@fun fl ax wx cx=>cx.v (ex_fa rfl (cx.u 0 rfl) (faQL6S365_0_0 _ _)) rfl rfl) <|
  zc (@fun fl ax wx cx=>cx.v (ex_fa rfl (cx.u 0 rfl) (faQL6S324_1_0 _ _)) rfl rfl) <|
  zc (@fun fl ax wx cx=>cx.v (ex_ld rfl (cx.u 0 rfl) (brow cx.S.1 hin0) c1 Tryz.isAgg22) rfl rfl) <|
  zc (@fun fl ax wx cx=>cx.v (ex_mv rfl (cx.rq 0 rfl)) rfl rfl) <|
  zc (@fun fl ax wx cx=>cx.v (ex_nc rfl (cx.u 0 rfl)) rfl rfl) <|
  zc (@fun fl ax wx cx=>cx.v (ex_fa rfl (cx.u 0 rfl) (faQL6S365_3_0 _ _)) rfl rfl) <|
  zc (@fun fl ax wx cx=>cx.v (ex_ld rfl (cx.u 0 rfl) (brow cx.S.1 hin0) c79 Tryz.isAgg3) rfl rfl) <|
  zc (@fun fl ax wx cx=>cx.v (ex_ixI rfl (cx.u 0 rfl) (cx.u 1 rfl) hil) rfl rfl) <|
  zc (@fun fl ax wx cx=>cx.v (ex_ldw6 rfl (cx.u 0 rfl) (load_mid6 (Ins.In.mk 2 op width (m:Int) byReg (d:Int) (n:Int) off imm) (Ins.rangeAt_below cx.S.1 p2))) rfl rfl) <|
  zc (@fun fl ax wx cx=>cx.vt rfl (by simp [execOp,Act.eval,go_sem]) rfl rfl trivial (SB.alloc cx.S (cx.later 12 (by kernel_rfl)) (by decide) (slot_new cx.sz rfl))) <|
  zc (@fun fl ax wx cx=>(by
    obtain ⟨gx,e1,e2,e3⟩:=cx.S.at_ (cx.did 0 rfl rfl) cx.fi
    exact cx.st rfl (exec_storeR 52 (.tmp 4) (.tmp 23) rfl gx (Ins.In.mk 2 op width (m:Int) byReg (d:Int) (n:Int) off imm).cells e1 (cx.u 1 rfl) e3 (by kernel_rfl) rfl (by simp [Ins.In.cells,Value.oneCell'])) rfl trivial (SB.store cx.S (cx.did 0 rfl rfl) (by decide) e1 (stored_setRow wx gx (Ins.In.mk 2 op width (m:Int) byReg (d:Int) (n:Int) off imm).cells _ _ e3)))) <|
  zn) ?_
 intro aq1 wq1 fq1
 obtain ⟨flq1,hfq1,hsq1⟩:=fq1.s
 obtain ⟨B1,gx,g4,lx,rx⟩:=SB.fin hsq1 (hfq1 11 (by decide)) (hfq1 12 (by decide))
 replace g4:aq1.tmps.getD 4 undef=.pointer (some ⟨gx,0,none⟩):=g4
 replace rx:wq1.heap[gx]?=some (.cells #[.int .i8 2,.int .i8 op,.int .i8 width,.int .i8 (m:Int),.bool byReg,.int .i8 (d:Int),.int .i8 (n:Int),.int .i64 off,.int .i64 imm] 52 (0,0)):=rx
 have hin1:=brow B1 hin0
 clear hsq1 hfq1 flq1
 rw [fq1.frame rfl rfl]
 clear fq1
 rw [show outs _ (fun d=>aq1.tmps.getD d undef)=[(13,aq1.tmps.getD 13 undef),(14,aq1.tmps.getD 14 undef),(15,aq1.tmps.getD 15 undef),(16,aq1.tmps.getD 16 undef),(17,aq1.tmps.getD 17 undef),(18,aq1.tmps.getD 18 undef),(19,aq1.tmps.getD 19 undef),(20,aq1.tmps.getD 20 undef),(21,aq1.tmps.getD 21 undef),(22,aq1.tmps.getD 22 undef),(23,aq1.tmps.getD 23 undef),(4,aq1.tmps.getD 4 undef)] by kernel_rfl,g4]
 simp only [putAll,List.setIfInBounds_toArray,List.set_cons_zero,List.set_cons_succ,Exit.then]
 generalize aq1.tmps.getD 13 undef=yq1_13
 generalize aq1.tmps.getD 14 undef=yq1_14
 generalize aq1.tmps.getD 15 undef=yq1_15
 generalize aq1.tmps.getD 16 undef=yq1_16
 generalize aq1.tmps.getD 17 undef=yq1_17
 generalize aq1.tmps.getD 18 undef=yq1_18
 generalize aq1.tmps.getD 19 undef=yq1_19
 generalize aq1.tmps.getD 20 undef=yq1_20
 generalize aq1.tmps.getD 21 undef=yq1_21
 generalize aq1.tmps.getD 22 undef=yq1_22
 generalize aq1.tmps.getD 23 undef=yq1_23
 clear g4 aq1
 clear p2
 go_wp2_with fail
 refine go_regz (fun fl u w=>Below wq1.heap.size wq1 w) [] [] [some (.agg #[.int .i8 2,.int .i8 op,.int .i8 width,.int .i8 (m:Int),.bool byReg,.int .i8 (d:Int),.int .i8 (n:Int),.int .i64 off,.int .i64 imm]),some (.int .i64 m0),some (.pointer (some ⟨g,0,none⟩)),some (.pointer (some ⟨g,0,none⟩)),some (.pointer (some ⟨g,3,none⟩)),some (.pointer (some ⟨g,14,none⟩)),some (.int .i64 D.set),some (.int .i64 (bits .andNot .i64 m0 D.set)),some (.bool (bits .andNot .i64 m0 D.set != 0))] mo (fun fl fl' u u' w hK hD h=>h) rfl rfl (by kernel_rfl) (fun fl w1 hfl b _=>b) (
  zc (@fun fl ax wx cx=>cx.v (exec_loadR 52 _ rfl gx 0 (cx.rq 4 rfl) (brow cx.S rx) [.int .i8 2,.int .i8 op,.int .i8 width,.int .i8 (m:Int),.bool byReg,.int .i8 (d:Int),.int .i8 (n:Int),.int .i64 off,.int .i64 imm] rfl _ Tryz.underlying52 rfl (by kernel_rfl)) rfl rfl) <|
  zc (@fun fl ax wx cx=>cx.ct rfl rfl (args1 (cx.u 0 rfl)) Tryz.func44 (by decide +kernel) rfl rfl ((RD.out wx).mono (by
    rintro e w' ⟨rfl,b9⟩
    exact ⟨_,rfl,rfl,cx.S.trans (b9.mono cx.S.size)⟩))) <|
  zc (@fun fl ax wx cx=>cx.v (ex_mv rfl (cx.rq 0 rfl)) rfl rfl) <|
  zc (@fun fl ax wx cx=>cx.v (ex_nc rfl (cx.u 0 rfl)) rfl rfl) <|
  zc (@fun fl ax wx cx=>cx.v (ex_fa rfl (cx.u 0 rfl) (faQL6S365_2_0 _ _)) rfl rfl) <|
  zc (@fun fl ax wx cx=>cx.v (ex_fa rfl (cx.u 0 rfl) (faQL6S349_1_3 _ _)) rfl rfl) <|
  zc (@fun fl ax wx cx=>cx.v (ex_ld rfl (cx.u 0 rfl) (brow cx.S hin1) c14 Tryz.isAgg3) rfl rfl) <|
  zc (@fun fl ax wx cx=>cx.v (by simp [execOp,Act.eval,(show ax.tmps.getD 25 undef=.int .i64 m0 from (cx.u 0 rfl)),(show ax.tmps.getD 30 undef=.int .i64 D.set from (cx.u 1 rfl)),go_sem]) rfl rfl) <|
  zc (@fun fl ax wx cx=>cx.v (ex_ne (x:=.tmp 31) rfl (cx.u 0 rfl) rfl) rfl rfl) <|
  zn) ?_
 intro aq2 wq2 fq2
 obtain ⟨flq2,hfq2,hsq2⟩:=fq2.s
 have gq2_32:aq2.tmps.getD 32 undef=.bool (bits .andNot .i64 m0 D.set != 0):=fq2.v 8 rfl rfl rfl
 have B2:=hsq2
 have rx:=brow B2 rx
 have hin2:=brow B2 hin1
 have B:=B1.trans (B2.mono B1.size)
 clear hsq2 hfq2 flq2 B1 B2 hin1
 rw [fq2.frame rfl rfl]
 clear fq2
 rw [show outs _ (fun d=>aq2.tmps.getD d undef)=[(24,aq2.tmps.getD 24 undef),(25,aq2.tmps.getD 25 undef),(26,aq2.tmps.getD 26 undef),(27,aq2.tmps.getD 27 undef),(28,aq2.tmps.getD 28 undef),(29,aq2.tmps.getD 29 undef),(30,aq2.tmps.getD 30 undef),(31,aq2.tmps.getD 31 undef),(32,aq2.tmps.getD 32 undef)] by kernel_rfl,gq2_32]
 simp only [putAll,List.setIfInBounds_toArray,List.set_cons_zero,List.set_cons_succ,Exit.then]
 generalize aq2.tmps.getD 24 undef=yq2_24
 generalize aq2.tmps.getD 25 undef=yq2_25
 generalize aq2.tmps.getD 26 undef=yq2_26
 generalize aq2.tmps.getD 27 undef=yq2_27
 generalize aq2.tmps.getD 28 undef=yq2_28
 generalize aq2.tmps.getD 29 undef=yq2_29
 generalize aq2.tmps.getD 30 undef=yq2_30
 generalize aq2.tmps.getD 31 undef=yq2_31
 clear gq2_32 aq2
 simp only [hz]
 generalize wq2=wB at *
 obtain ⟨A,hA0⟩:∃ A,Hid (A=adI (D.r d) off):=⟨_,Lib.hid rfl⟩
 have hAd:Hid (A=IntKind.u64.wrap (D.r d+IntKind.u64.wrap off)):=Lib.hid (by rw [hA0.out,IntKind.wrap_u64,IntKind.wrap_u64];unfold adI;omega)
 have hAb:0≤A∧A<18446744073709551616:=by rw [hA0.out];unfold adI;omega
 have hm8:=szB_le hm
 have hmw:Hid (IntKind.i64.wrap (m:Int)=(m:Int)):=Lib.hid (by rw [IntKind.wrap_i64];omega)
 have hm1:=szB_pos hm
 have hms:Rm.sizedB m=true:=by rw [← hm];simp [szB,Rm.sizedB]
 obtain ⟨M,m1,m2,m3⟩:=R.mm
 have WRT:Hid (∀ w,Below wB.heap.size wB w→Calls Tryz.prog 49 #[.pointer (some ⟨r,0,none⟩),.int .u64 A,.int .i64 (m:Int),.int .u64 (D.r n)] w fun e w'=>e=.returned (.int .i64 20)∧Below wB.heap.size wB w'):=Lib.hid (fun w b=>(Rm.r_write M r β A m (D.r n) w ((m1.below B).below b) hAb.1 hAb.2 (R.words n).1 (R.words n).2).mono (by
   intro e w' h
   rcases Rm.write_rel m3 m2 R.cn R.n hm1 hms ((m1.below B).below b) h with ⟨l1,rfl,rfl⟩ | ⟨l1,rfl,M',g',q1,q2,q3,q4,q5,q6⟩
   ·exact ⟨rfl,b⟩
   ·exact absurd l1 (by rw [hA0.out];omega)))
 have HG2:=Lib.hid hin2
 have RX:=Lib.hid rx
 have BB:=Lib.hid B
 have HI0:=Lib.hid hin
 clear hin hin0
 have d79:wB.cell? ⟨g,79,none⟩=some (.int .i64 (i:Int)):=by simp only [World.cell?,hin2];exact c79
 have x0:wB.cell? ⟨gx,0,none⟩=some (.int .i8 2):=by simp only [World.cell?,rx];rfl
 have x1:wB.cell? ⟨gx,1,none⟩=some (.int .i8 op):=by simp only [World.cell?,rx];rfl
 have x2:wB.cell? ⟨gx,2,none⟩=some (.int .i8 width):=by simp only [World.cell?,rx];rfl
 have x3:wB.cell? ⟨gx,3,none⟩=some (.int .i8 (m:Int)):=by simp only [World.cell?,rx];rfl
 have x4:wB.cell? ⟨gx,4,none⟩=some (.bool byReg):=by simp only [World.cell?,rx];rfl
 have x5:wB.cell? ⟨gx,5,none⟩=some (.int .i8 (d:Int)):=by simp only [World.cell?,rx];rfl
 have x6:wB.cell? ⟨gx,6,none⟩=some (.int .i8 (n:Int)):=by simp only [World.cell?,rx];rfl
 have x7:wB.cell? ⟨gx,7,none⟩=some (.int .i64 off):=by simp only [World.cell?,rx];rfl
 have x8:wB.cell? ⟨gx,8,none⟩=some (.int .i64 imm):=by simp only [World.cell?,rx];rfl
 have ei:wrap64 ((i:Int)+1)=(i:Int)+1:=IntWalk.wrap64_in _ (by omega)
 clear hl m1 m2 m3
 go_wp2_with fail
 clear d79 x0 x1 x2 x3 x4 x5 x6 x7 x8 B
 refine go_regz (SC 27 (fun w=>Below wB.heap.size wB w) (fun w=>Below wB.heap.size wB w)) [27] [] (tabs [some (.pointer (some ⟨g,0,none⟩)),some (.pointer (some ⟨g,0,none⟩)),some (.pointer (some ⟨g,2,none⟩)),some (.pointer (some ⟨r,0,none⟩)),some (.pointer (some ⟨g,0,none⟩)),some (.pointer (some ⟨gx,5,none⟩)),some (.int .i8 (d:Int)),some (.pointer (some ⟨g,0,none⟩)),some (.pointer (some ⟨g,3,none⟩)),some (.pointer (some ⟨g,3,none⟩)),some (.pointer (some ⟨g,3+d,none⟩)),some (.int .u64 (D.r d)),some (.pointer (some ⟨gx,7,none⟩)),some (.int .i64 off),some (.int .u64 (IntKind.u64.wrap off)),some (.int .u64 A),some (.pointer (some ⟨gx,3,none⟩)),some (.int .i8 (m:Int)),some (.int .i64 (m:Int)),some (.pointer (some ⟨g,0,none⟩))] [some (.pointer (some ⟨gx,6,none⟩)),some (.int .i8 (n:Int)),some (.pointer (some ⟨g,0,none⟩)),some (.pointer (some ⟨g,3,none⟩)),some (.pointer (some ⟨g,3,none⟩)),some (.pointer (some ⟨g,3+n,none⟩)),some (.int .u64 (D.r n)),some (.int .i64 20),some (.int .i64 20)]) mo SC.loc rfl rfl (by kernel_rfl) (fun fl w1 hfl b _=>SC.start (hfl 27 (by decide)) b) (
  zc (@fun fl ax wx cx=>cx.v (ex_mv rfl (cx.rq 0 rfl)) rfl rfl) <|
  zc (@fun fl ax wx cx=>cx.v (ex_nc rfl (cx.u 0 rfl)) rfl rfl) <|
  zc (@fun fl ax wx cx=>cx.v (ex_fa rfl (cx.u 0 rfl) (faQL6S365_1_0 _ _)) rfl rfl) <|
  zc (@fun fl ax wx cx=>cx.v (ex_ld rfl (cx.u 0 rfl) (brow (cx.S.was (cx.later 27 (by kernel_rfl))) hin2) c2 Tryz.isAgg63) rfl rfl) <|
  zc (@fun fl ax wx cx=>cx.v (ex_mv rfl (cx.rq 0 rfl)) rfl rfl) <|
  zc (@fun fl ax wx cx=>cx.v (ex_fa rfl (cx.rq 4 rfl) (faQL6S352_5_0 _ _)) rfl rfl) <|
  zc (@fun fl ax wx cx=>cx.v (ex_ld rfl (cx.u 0 rfl) (brow (cx.S.was (not_yet (i:=15) (k:=27) cx.clo (not_yet (i:=11) (k:=15) cx.clo (not_yet (i:=10) (k:=11) cx.clo (cx.later 10 (by kernel_rfl)) (by kernel_rfl)) (by kernel_rfl)) (by kernel_rfl))) rx) rfl Tryz.isAgg29) rfl rfl) <|
  zc (@fun fl ax wx cx=>cx.v (ex_nc rfl (cx.u 0 rfl)) rfl rfl) <|
  zc (@fun fl ax wx cx=>cx.v (ex_fa rfl (cx.u 0 rfl) (faQL6S365_2_0 _ _)) rfl rfl) <|
  zc (@fun fl ax wx cx=>cx.v (ex_fa rfl (cx.u 0 rfl) (faQL6S349_0_3 _ _)) rfl rfl) <|
  zc (@fun fl ax wx cx=>cx.v (ex_ixR rfl (cx.u 0 rfl) (cx.u 1 rfl) hd) rfl rfl) <|
  zc (@fun fl ax wx cx=>cx.v (ex_ld rfl (cx.u 0 rfl) (brow (cx.S.was (not_yet (i:=15) (k:=27) cx.clo (cx.later 15 (by kernel_rfl)) (by kernel_rfl))) hin2) (creg d hd) Tryz.isAgg30) rfl rfl) <|
  zc (@fun fl ax wx cx=>cx.v (ex_fa rfl (cx.rq 4 rfl) (faQL6S352_7_0 _ _)) rfl rfl) <|
  zc (@fun fl ax wx cx=>cx.v (ex_ld rfl (cx.u 0 rfl) (brow (cx.S.was (not_yet (i:=15) (k:=27) cx.clo (not_yet (i:=14) (k:=15) cx.clo (cx.later 14 (by kernel_rfl)) (by kernel_rfl)) (by kernel_rfl))) rx) rfl Tryz.isAgg3) rfl rfl) <|
  zc (@fun fl ax wx cx=>cx.v (ex_conv (x:=.tmp 113) rfl (cx.u 0 rfl) Tryz.underlying2 Tryz.underlying30) rfl rfl) <|
  zc (@fun fl ax wx cx=>cx.v (by rw [hAd.out];exact ex_add (x:=.tmp 111) (y:=.tmp 114) rfl (cx.u 0 rfl) (cx.u 1 rfl)) rfl rfl) <|
  zc (@fun fl ax wx cx=>cx.v (ex_fa rfl (cx.rq 4 rfl) (faQL6S352_3_0 _ _)) rfl rfl) <|
  zc (@fun fl ax wx cx=>cx.v (ex_ld rfl (cx.u 0 rfl) (brow (cx.S.was (not_yet (i:=18) (k:=27) cx.clo (cx.later 18 (by kernel_rfl)) (by kernel_rfl))) rx) rfl Tryz.isAgg29) rfl rfl) <|
  zc (@fun fl ax wx cx=>cx.v (by rw [← hmw.out];exact ex_conv (x:=.tmp 117) rfl (cx.u 0 rfl) Tryz.underlying29 Tryz.underlying3) rfl rfl) <|
  zc (@fun fl ax wx cx=>cx.v (ex_mv rfl (cx.rq 0 rfl)) rfl rfl) <|
  zc (@fun fl ax wx cx=>cx.v (ex_fa rfl (cx.rq 4 rfl) (faQL6S352_6_0 _ _)) rfl rfl) <|
  zc (@fun fl ax wx cx=>cx.v (ex_ld rfl (cx.u 0 rfl) (brow (cx.S.was (not_yet (i:=26) (k:=27) cx.clo (not_yet (i:=25) (k:=26) cx.clo (cx.later 25 (by kernel_rfl)) (by kernel_rfl)) (by kernel_rfl))) rx) rfl Tryz.isAgg29) rfl rfl) <|
  zc (@fun fl ax wx cx=>cx.v (ex_nc rfl (cx.u 0 rfl)) rfl rfl) <|
  zc (@fun fl ax wx cx=>cx.v (ex_fa rfl (cx.u 0 rfl) (faQL6S365_2_0 _ _)) rfl rfl) <|
  zc (@fun fl ax wx cx=>cx.v (ex_fa rfl (cx.u 0 rfl) (faQL6S349_0_3 _ _)) rfl rfl) <|
  zc (@fun fl ax wx cx=>cx.v (ex_ixR rfl (cx.u 0 rfl) (cx.u 1 rfl) hn11) rfl rfl) <|
  zc (@fun fl ax wx cx=>cx.v (ex_ld rfl (cx.u 0 rfl) (brow (cx.S.was (cx.later 27 (by kernel_rfl))) hin2) (creg n hn11) Tryz.isAgg30) rfl rfl) <|
  zc (@fun fl ax wx cx=>cx.ct rfl rfl (args4 (cx.u 0 rfl) (cx.u 1 rfl) (cx.u 2 rfl) (cx.u 3 rfl)) Tryz.func49 (by decide +kernel) rfl rfl ((WRT.out wx (cx.S.was cx.fi)).mono (by
    rintro e w' ⟨rfl,b9⟩
    exact ⟨_,rfl,rfl,SC.to b9⟩))) <|
  zc (@fun fl ax wx cx=>cx.v (ex_as rfl (cx.u 0 rfl)) rfl rfl) <|
  zn) ?_
 intro aq3 wq3 fq3
 obtain ⟨flq3,hfq3,hsq3⟩:=fq3.s
 have gq3_10:aq3.tmps.getD 10 undef=.int .i64 20:=fq3.v 28 rfl rfl rfl
 have B9:=Lib.hid (BB.out.trans ((SC.fin hsq3 (hfq3 27 (by decide))).mono BB.out.size))
 clear hsq3 hfq3 flq3
 rw [fq3.frame rfl rfl]
 clear fq3
 rw [show outs _ (fun d=>aq3.tmps.getD d undef)=[(100,aq3.tmps.getD 100 undef),(101,aq3.tmps.getD 101 undef),(102,aq3.tmps.getD 102 undef),(103,aq3.tmps.getD 103 undef),(104,aq3.tmps.getD 104 undef),(105,aq3.tmps.getD 105 undef),(106,aq3.tmps.getD 106 undef),(107,aq3.tmps.getD 107 undef),(108,aq3.tmps.getD 108 undef),(109,aq3.tmps.getD 109 undef),(110,aq3.tmps.getD 110 undef),(111,aq3.tmps.getD 111 undef),(112,aq3.tmps.getD 112 undef),(113,aq3.tmps.getD 113 undef),(114,aq3.tmps.getD 114 undef),(115,aq3.tmps.getD 115 undef),(116,aq3.tmps.getD 116 undef),(117,aq3.tmps.getD 117 undef),(118,aq3.tmps.getD 118 undef),(119,aq3.tmps.getD 119 undef),(120,aq3.tmps.getD 120 undef),(121,aq3.tmps.getD 121 undef),(122,aq3.tmps.getD 122 undef),(123,aq3.tmps.getD 123 undef),(124,aq3.tmps.getD 124 undef),(125,aq3.tmps.getD 125 undef),(126,aq3.tmps.getD 126 undef),(127,aq3.tmps.getD 127 undef),(10,aq3.tmps.getD 10 undef)] by kernel_rfl,gq3_10]
 simp only [putAll,List.setIfInBounds_toArray,List.set_cons_zero,List.set_cons_succ,Exit.then]
 generalize aq3.tmps.getD 100 undef=yq3_100
 generalize aq3.tmps.getD 101 undef=yq3_101
 generalize aq3.tmps.getD 102 undef=yq3_102
 generalize aq3.tmps.getD 103 undef=yq3_103
 generalize aq3.tmps.getD 104 undef=yq3_104
 generalize aq3.tmps.getD 105 undef=yq3_105
 generalize aq3.tmps.getD 106 undef=yq3_106
 generalize aq3.tmps.getD 107 undef=yq3_107
 generalize aq3.tmps.getD 108 undef=yq3_108
 generalize aq3.tmps.getD 109 undef=yq3_109
 generalize aq3.tmps.getD 110 undef=yq3_110
 generalize aq3.tmps.getD 111 undef=yq3_111
 generalize aq3.tmps.getD 112 undef=yq3_112
 generalize aq3.tmps.getD 113 undef=yq3_113
 generalize aq3.tmps.getD 114 undef=yq3_114
 generalize aq3.tmps.getD 115 undef=yq3_115
 generalize aq3.tmps.getD 116 undef=yq3_116
 generalize aq3.tmps.getD 117 undef=yq3_117
 generalize aq3.tmps.getD 118 undef=yq3_118
 generalize aq3.tmps.getD 119 undef=yq3_119
 generalize aq3.tmps.getD 120 undef=yq3_120
 generalize aq3.tmps.getD 121 undef=yq3_121
 generalize aq3.tmps.getD 122 undef=yq3_122
 generalize aq3.tmps.getD 123 undef=yq3_123
 generalize aq3.tmps.getD 124 undef=yq3_124
 generalize aq3.tmps.getD 125 undef=yq3_125
 generalize aq3.tmps.getD 126 undef=yq3_126
 generalize aq3.tmps.getD 127 undef=yq3_127
 clear gq3_10 aq3
 clear hin2 rx
 go_wp2_with fail
 go_ret2
 have RR:=R.still B9.out
 exact ⟨rfl,RR.1,RR.2⟩
end Go.Proofs.YtigliofiojkhcaaGreat.Mdl
