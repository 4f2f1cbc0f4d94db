import Derived.Test.YtigliofiojkhcaaGreatMEx
import Derived.Test.YtigliofiojkhcaaGreatMRn28
import Derived.Test.YtigliofiojkhcaaGreatMEa02
import Derived.Test.YtigliofiojkhcaaGreatMRn19
set_option linter.unusedVariables false
set_option linter.unusedSimpArgs false
set_option linter.unnecessarySimpa false
namespace Go.Proofs.YtigliofiojkhcaaGreat.Mdl
open Go.RowKit Go.Maps Ins Trc
set_option maxRecDepth 100000
theorem faQL6S52_1_0 (g:Nat)(w:World):(Instr.fieldAt 52 (.pointer (some ⟨g,0,none⟩)) 1).run Tryz.prog w=.ok (.pointer (some ⟨g,1,none⟩)) w:=by simp [go_sem]
theorem faQL6S52_5_0 (g:Nat)(w:World):(Instr.fieldAt 52 (.pointer (some ⟨g,0,none⟩)) 5).run Tryz.prog w=.ok (.pointer (some ⟨g,5,none⟩)) w:=by simp [go_sem]
theorem faQL6S65_2_0 (g:Nat)(w:World):(Instr.fieldAt 65 (.pointer (some ⟨g,0,none⟩)) 2).run Tryz.prog w=.ok (.pointer (some ⟨g,3,none⟩)) w:=by simp [go_sem]
theorem faQL6S49_0_3 (g:Nat)(w:World):(Instr.fieldAt 49 (.pointer (some ⟨g,3,none⟩)) 0).run Tryz.prog w=.ok (.pointer (some ⟨g,3,none⟩)) w:=by simp [go_sem]
theorem faQL6S65_3_0 (g:Nat)(w:World):(Instr.fieldAt 65 (.pointer (some ⟨g,0,none⟩)) 3).run Tryz.prog w=.ok (.pointer (some ⟨g,79,none⟩)) w:=by simp [go_sem]
theorem faQL6S65_0_0 (g:Nat)(w:World):(Instr.fieldAt 65 (.pointer (some ⟨g,0,none⟩)) 0).run Tryz.prog w=.ok (.pointer (some ⟨g,0,none⟩)) w:=by simp [go_sem]
theorem faQL6S24_1_0 (g:Nat)(w:World):(Instr.fieldAt 24 (.pointer (some ⟨g,0,none⟩)) 1).run Tryz.prog w=.ok (.pointer (some ⟨g,1,none⟩)) w:=by simp [go_sem]
theorem faQL6S49_1_3 (g:Nat)(w:World):(Instr.fieldAt 49 (.pointer (some ⟨g,3,none⟩)) 1).run Tryz.prog w=.ok (.pointer (some ⟨g,14,none⟩)) w:=by simp [go_sem]
set_option maxHeartbeats 16000000 in
theorem r6_step_3t (E:Env)(F:Fine E)(D:Pl)(H:Runs E D)(g r β:Nat)(W:World)(R:R6 E g r β D W)(op width:Int)(size:Int)(byReg:Bool)(off imm:Int)(d n:Nat)(hd:d<11)(hn11:n<11)(hx:E.x D.ix=(Ins.In.mk 3 op width size byReg (d:Int) (n:Int) off imm))(hc:(andM D.set (readsM (E.x D.ix)) == readsM (E.x D.ix))=true)(hb:holdsB op 64 (D.r d) (D.opd (Ins.In.mk 3 op width size byReg (d:Int) (n:Int) off imm))=true):
  Calls Tryz.prog 20 #[.pointer (some ⟨g,0,none⟩)] W fun e w'=>e=.returned (.tuple #[.int .i8 0,.bool true])∧R6 E g r β { D with at_:=Ins.targetI D.at_ (Ins.In.mk 3 op width size byReg (d:Int) (n:Int) off imm) } w'∧TurnT τ6 β W w':=by
 have mo:Tryz.prog.follows .mixedOrders=true:=by kernel_rfl
 obtain ⟨i1,i2⟩:=H.ix
 obtain ⟨i,hi⟩:∃ i,i=D.ix:=⟨_,rfl⟩
 rw [← hi] at hx i1 i2 hc
 have hil:i<E.pl:=i1
 obtain ⟨ctx,av,tv,hin,hA,hT,hn⟩:=R.st
 have p2:W.rangeAt E.pa (E.po+i * 9) (Ins.In.mk 3 op width size byReg (d:Int) (n:Int) off imm).cells.toList:=by have:=R.pr.2 i hil;rwa [hx] at this
 have hpl:(i:Int)<64:=by have:=F.len.2;omega
 obtain ⟨s,hs⟩:∃ s,s=md6 E r D ctx av tv:=⟨_,rfl⟩
 rw [← hs] at hin
 have hin0:W.heap[g]?=some (.cells s.cells 65 (0,0)):=hin
 have c1:s.cells[1]?=some (.slice (some ⟨E.pa,E.po,none⟩) E.pl E.pc):=by rw [hs];exact (md6 E r D ctx av tv).get 1 (by decide)
 have c2:s.cells[2]?=some (.pointer (some ⟨r,0,none⟩)):=by rw [hs];exact (md6 E r D ctx av tv).get 2 (by decide)
 have c14:s.cells[14]?=some (.int .i64 D.set):=by rw [hs];exact (md6 E r D ctx av tv).get 14 (by decide)
 have c79:s.cells[79]?=some (.int .i64 (i:Int)):=by rw [← i2,hs];exact (md6 E r D ctx av tv).get 79 (by decide)
 have I2:=Lib.hid i2
 have HS:=Lib.hid hs
 clear i2 hi hs
 have creg:∀ k,k<11→s.cells[3+k]?=some (.int .u64 (D.r k)):=fun k hk=>by rw [s.get _ (by omega),HS.out];unfold Md.cell;rw [if_neg (by omega),if_neg (by omega),if_neg (by omega),if_pos (by omega),show 3+k - 3=k by omega];rfl
 obtain ⟨m0,hm0⟩:∃ m0,m0=readsM (Ins.In.mk 3 op width size byReg (d:Int) (n:Int) off imm):=⟨_,rfl⟩
 have hz:=rd_test (x:=(Ins.In.mk 3 op width size byReg (d:Int) (n:Int) off imm)) (show (0:Int)≤(d:Int) by omega) (show (d:Int)<11 by omega) (show (0:Int)≤(n:Int) by omega) (show (n:Int)<11 by omega) (by rw [← hx];exact hc)
 rw [← hm0] at hz
 have RD:Hid (∀ w,Calls Tryz.prog 44 #[.agg #[.int .i8 3,.int .i8 op,.int .i8 width,.int .i8 size,.bool byReg,.int .i8 (d:Int),.int .i8 (n:Int),.int .i64 off,.int .i64 imm]] w fun e w'=>e=.returned (.int .i64 m0)∧Below w.heap.size w w'):=Lib.hid (fun w=>by rw [hm0];exact r6_reads (Ins.In.mk 3 op width size byReg (d:Int) (n:Int) off imm) w (show (0:Int)≤3 by decide) (show (3:Int)≤6 by decide) (show (0:Int)≤(d:Int) by omega) (show (d:Int)<11 by omega) (show (0:Int)≤(n:Int) by omega) (show (n:Int)<11 by omega))
 clear hm0 hc
 go_enter Tryz.func20,Tryz.ntmps20
 go_wp2_with fail
 refine go_regz (SB 11 12 4 W #[.int .i8 0,.int .i8 0,.int .i8 0,.int .i8 0,.bool false,.int .i8 0,.int .i8 0,.int .i64 0,.int .i64 0] (Ins.In.mk 3 op width size byReg (d:Int) (n:Int) off imm).cells 52) [11,12] [4] [some (.pointer (some ⟨g,0,none⟩)),some (.pointer (some ⟨g,0,none⟩)),some (.pointer (some ⟨g,0,none⟩)),some (.pointer (some ⟨g,1,none⟩)),some (.slice (some ⟨E.pa,E.po,none⟩) E.pl E.pc),some (.pointer (some ⟨g,0,none⟩)),some (.pointer (some ⟨g,0,none⟩)),some (.pointer (some ⟨g,79,none⟩)),some (.int .i64 (i:Int)),some (.pointer (some ⟨E.pa,E.po+i * 9,none⟩)),some (.agg (Ins.In.mk 3 op width size byReg (d:Int) (n:Int) off imm).cells),none,none] mo SB.loc rfl rfl (by kernel_rfl) (fun fl w1 hfl b _=>SB.start b (hfl 11 (by decide))) (
  zc (@fun fl ax wx cx=>cx.v (ex_mv rfl (cx.rq 0 rfl)) rfl rfl) <|
  zc (@fun fl ax wx cx=>cx.v (ex_nc rfl (cx.u 0 rfl)) rfl rfl) <|
  zc (@fun fl ax wx cx=>cx.v (ex_fa rfl (cx.u 0 rfl) (faQL6S65_0_0 _ _)) rfl rfl) <|
  zc (@fun fl ax wx cx=>cx.v (ex_fa rfl (cx.u 0 rfl) (faQL6S24_1_0 _ _)) rfl rfl) <|
  zc (@fun fl ax wx cx=>cx.v (ex_ld rfl (cx.u 0 rfl) (brow cx.S.1 hin0) c1 Tryz.isAgg22) rfl rfl) <|
  zc (@fun fl ax wx cx=>cx.v (ex_mv rfl (cx.rq 0 rfl)) rfl rfl) <|
  zc (@fun fl ax wx cx=>cx.v (ex_nc rfl (cx.u 0 rfl)) rfl rfl) <|
  zc (@fun fl ax wx cx=>cx.v (ex_fa rfl (cx.u 0 rfl) (faQL6S65_3_0 _ _)) rfl rfl) <|
  zc (@fun fl ax wx cx=>cx.v (ex_ld rfl (cx.u 0 rfl) (brow cx.S.1 hin0) c79 Tryz.isAgg3) rfl rfl) <|
  zc (@fun fl ax wx cx=>cx.v (ex_ixI rfl (cx.u 0 rfl) (cx.u 1 rfl) hil) rfl rfl) <|
  zc (@fun fl ax wx cx=>cx.v (ex_ldw6 rfl (cx.u 0 rfl) (load_mid6 (Ins.In.mk 3 op width size byReg (d:Int) (n:Int) off imm) (Ins.rangeAt_below cx.S.1 p2))) rfl rfl) <|
  zc (@fun fl ax wx cx=>cx.vt rfl (by simp [execOp,Act.eval,go_sem]) rfl rfl trivial (SB.alloc cx.S (cx.later 12 (by kernel_rfl)) (by decide) (slot_new cx.sz rfl))) <|
  zc (@fun fl ax wx cx=>(by
    obtain ⟨gx,e1,e2,e3⟩:=cx.S.at_ (cx.did 0 rfl rfl) cx.fi
    exact cx.st rfl (exec_storeR 52 (.tmp 4) (.tmp 23) rfl gx (Ins.In.mk 3 op width size byReg (d:Int) (n:Int) off imm).cells e1 (cx.u 1 rfl) e3 (by kernel_rfl) rfl (by simp [Ins.In.cells,Value.oneCell'])) rfl trivial (SB.store cx.S (cx.did 0 rfl rfl) (by decide) e1 (stored_setRow wx gx (Ins.In.mk 3 op width size byReg (d:Int) (n:Int) off imm).cells _ _ e3)))) <|
  zn) ?_
 intro aq1 wq1 fq1
 obtain ⟨flq1,hfq1,hsq1⟩:=fq1.s
 obtain ⟨B1,gx,g4,lx,rx⟩:=SB.fin hsq1 (hfq1 11 (by decide)) (hfq1 12 (by decide))
 replace g4:aq1.tmps.getD 4 undef=.pointer (some ⟨gx,0,none⟩):=g4
 replace rx:wq1.heap[gx]?=some (.cells #[.int .i8 3,.int .i8 op,.int .i8 width,.int .i8 size,.bool byReg,.int .i8 (d:Int),.int .i8 (n:Int),.int .i64 off,.int .i64 imm] 52 (0,0)):=rx
 have hin1:=brow B1 hin0
 clear hsq1 hfq1 flq1
 rw [fq1.frame rfl rfl]
 clear fq1
 rw [show outs _ (fun d=>aq1.tmps.getD d undef)=[(13,aq1.tmps.getD 13 undef),(14,aq1.tmps.getD 14 undef),(15,aq1.tmps.getD 15 undef),(16,aq1.tmps.getD 16 undef),(17,aq1.tmps.getD 17 undef),(18,aq1.tmps.getD 18 undef),(19,aq1.tmps.getD 19 undef),(20,aq1.tmps.getD 20 undef),(21,aq1.tmps.getD 21 undef),(22,aq1.tmps.getD 22 undef),(23,aq1.tmps.getD 23 undef),(4,aq1.tmps.getD 4 undef)] by kernel_rfl,g4]
 simp only [putAll,List.setIfInBounds_toArray,List.set_cons_zero,List.set_cons_succ,Exit.then]
 generalize aq1.tmps.getD 13 undef=yq1_13
 generalize aq1.tmps.getD 14 undef=yq1_14
 generalize aq1.tmps.getD 15 undef=yq1_15
 generalize aq1.tmps.getD 16 undef=yq1_16
 generalize aq1.tmps.getD 17 undef=yq1_17
 generalize aq1.tmps.getD 18 undef=yq1_18
 generalize aq1.tmps.getD 19 undef=yq1_19
 generalize aq1.tmps.getD 20 undef=yq1_20
 generalize aq1.tmps.getD 21 undef=yq1_21
 generalize aq1.tmps.getD 22 undef=yq1_22
 generalize aq1.tmps.getD 23 undef=yq1_23
 clear g4 aq1
 clear p2
 go_wp2_with fail
 refine go_regz (fun fl u w=>Below wq1.heap.size wq1 w) [] [] [some (.agg #[.int .i8 3,.int .i8 op,.int .i8 width,.int .i8 size,.bool byReg,.int .i8 (d:Int),.int .i8 (n:Int),.int .i64 off,.int .i64 imm]),some (.int .i64 m0),some (.pointer (some ⟨g,0,none⟩)),some (.pointer (some ⟨g,0,none⟩)),some (.pointer (some ⟨g,3,none⟩)),some (.pointer (some ⟨g,14,none⟩)),some (.int .i64 D.set),some (.int .i64 (bits .andNot .i64 m0 D.set)),some (.bool (bits .andNot .i64 m0 D.set != 0))] mo (fun fl fl' u u' w hK hD h=>h) rfl rfl (by kernel_rfl) (fun fl w1 hfl b _=>b) (
  zc (@fun fl ax wx cx=>cx.v (exec_loadR 52 _ rfl gx 0 (cx.rq 4 rfl) (brow cx.S rx) [.int .i8 3,.int .i8 op,.int .i8 width,.int .i8 size,.bool byReg,.int .i8 (d:Int),.int .i8 (n:Int),.int .i64 off,.int .i64 imm] rfl _ Tryz.underlying52 rfl (by kernel_rfl)) rfl rfl) <|
  zc (@fun fl ax wx cx=>cx.ct rfl rfl (args1 (cx.u 0 rfl)) Tryz.func44 (by decide +kernel) rfl rfl ((RD.out wx).mono (by
    rintro e w' ⟨rfl,b9⟩
    exact ⟨_,rfl,rfl,cx.S.trans (b9.mono cx.S.size)⟩))) <|
  zc (@fun fl ax wx cx=>cx.v (ex_mv rfl (cx.rq 0 rfl)) rfl rfl) <|
  zc (@fun fl ax wx cx=>cx.v (ex_nc rfl (cx.u 0 rfl)) rfl rfl) <|
  zc (@fun fl ax wx cx=>cx.v (ex_fa rfl (cx.u 0 rfl) (faQL6S65_2_0 _ _)) rfl rfl) <|
  zc (@fun fl ax wx cx=>cx.v (ex_fa rfl (cx.u 0 rfl) (faQL6S49_1_3 _ _)) rfl rfl) <|
  zc (@fun fl ax wx cx=>cx.v (ex_ld rfl (cx.u 0 rfl) (brow cx.S hin1) c14 Tryz.isAgg3) rfl rfl) <|
  zc (@fun fl ax wx cx=>cx.v (by simp [execOp,Act.eval,(show ax.tmps.getD 25 undef=.int .i64 m0 from (cx.u 0 rfl)),(show ax.tmps.getD 30 undef=.int .i64 D.set from (cx.u 1 rfl)),go_sem]) rfl rfl) <|
  zc (@fun fl ax wx cx=>cx.v (ex_ne (x:=.tmp 31) rfl (cx.u 0 rfl) rfl) rfl rfl) <|
  zn) ?_
 intro aq2 wq2 fq2
 obtain ⟨flq2,hfq2,hsq2⟩:=fq2.s
 have gq2_32:aq2.tmps.getD 32 undef=.bool (bits .andNot .i64 m0 D.set != 0):=fq2.v 8 rfl rfl rfl
 have B2:=hsq2
 have rx:=brow B2 rx
 have hin2:=brow B2 hin1
 have B:=B1.trans (B2.mono B1.size)
 clear hsq2 hfq2 flq2 B1 B2 hin1
 rw [fq2.frame rfl rfl]
 clear fq2
 rw [show outs _ (fun d=>aq2.tmps.getD d undef)=[(24,aq2.tmps.getD 24 undef),(25,aq2.tmps.getD 25 undef),(26,aq2.tmps.getD 26 undef),(27,aq2.tmps.getD 27 undef),(28,aq2.tmps.getD 28 undef),(29,aq2.tmps.getD 29 undef),(30,aq2.tmps.getD 30 undef),(31,aq2.tmps.getD 31 undef),(32,aq2.tmps.getD 32 undef)] by kernel_rfl,gq2_32]
 simp only [putAll,List.setIfInBounds_toArray,List.set_cons_zero,List.set_cons_succ,Exit.then]
 generalize aq2.tmps.getD 24 undef=yq2_24
 generalize aq2.tmps.getD 25 undef=yq2_25
 generalize aq2.tmps.getD 26 undef=yq2_26
 generalize aq2.tmps.getD 27 undef=yq2_27
 generalize aq2.tmps.getD 28 undef=yq2_28
 generalize aq2.tmps.getD 29 undef=yq2_29
 generalize aq2.tmps.getD 30 undef=yq2_30
 generalize aq2.tmps.getD 31 undef=yq2_31
 clear gq2_32 aq2
 simp only [hz]
 generalize wq2=wB at *
 obtain ⟨tt,htt⟩:∃ tt,Hid (tt=Ins.targetI (i:Int) (Ins.In.mk 3 op width size byReg (d:Int) (n:Int) off imm)):=⟨_,Lib.hid rfl⟩
 obtain ⟨jj,hjj⟩:∃ jj,Hid (jj=Ins.jumpsI (i:Int) (Ins.In.mk 3 op width size byReg (d:Int) (n:Int) off imm)):=⟨_,Lib.hid rfl⟩
 have TG:Hid (∀ w,Calls Tryz.prog 42 #[.int .i64 (i:Int),.agg #[.int .i8 3,.int .i8 op,.int .i8 width,.int .i8 size,.bool byReg,.int .i8 (d:Int),.int .i8 (n:Int),.int .i64 off,.int .i64 imm]] w fun e w'=>e=.returned (.tuple #[.int .i64 tt,.bool jj])∧Below w.heap.size w w'):=Lib.hid (fun w=>by rw [htt.out,hjj.out];exact Ins.r_target (i:Int) (Ins.In.mk 3 op width size byReg (d:Int) (n:Int) off imm) w)
 clear hjj
 obtain ⟨o2,ho2⟩:∃ o2,Hid (o2=D.opd (Ins.In.mk 3 op width size byReg (d:Int) (n:Int) off imm)):=⟨_,Lib.hid rfl⟩
 have SEC:Hid (∀ w,w.heap[g]?=some (.cells s.cells 65 (0,0))→Calls Tryz.prog 46 #[.pointer (some ⟨g,0,none⟩),.agg #[.int .i8 3,.int .i8 op,.int .i8 width,.int .i8 size,.bool byReg,.int .i8 (d:Int),.int .i8 (n:Int),.int .i64 off,.int .i64 imm]] w fun e w'=>e=.returned (.int .u64 o2)∧Below w.heap.size w w'):=Lib.hid (fun w h=>by rw [ho2.out];have:=r6_second s g (Ins.In.mk 3 op width size byReg (d:Int) (n:Int) off imm) w h (show (0:Int)≤(n:Int) by omega) (show (n:Int)<11 by omega);rw [show s.opd (Ins.In.mk 3 op width size byReg (d:Int) (n:Int) off imm)=D.opd (Ins.In.mk 3 op width size byReg (d:Int) (n:Int) off imm) by rw [HS.out];rfl] at this;exact this)
 have hw2:=Pl.opd_word R.words (Ins.In.mk 3 op width size byReg (d:Int) (n:Int) off imm)
 rw [← ho2.out] at hw2
 obtain ⟨ee,hee⟩:∃ ee,Hid (ee=holdsE op 64):=⟨_,Lib.hid rfl⟩
 have HO:=Lib.hid (fun w=>refholds_any op 64 (D.r d) o2 w (R.words d).1 (R.words d).2 hw2.1 hw2.2)
 rw [show holdsB op 64 (D.r d) o2=true by rw [ho2.out];exact hb,← hee.out] at HO
 have HG2:=Lib.hid hin2
 have RX:=Lib.hid rx
 have BB:=Lib.hid B
 have HI0:=Lib.hid hin
 clear hin hin0
 have d79:wB.cell? ⟨g,79,none⟩=some (.int .i64 (i:Int)):=by simp only [World.cell?,hin2];exact c79
 have x0:wB.cell? ⟨gx,0,none⟩=some (.int .i8 3):=by simp only [World.cell?,rx];rfl
 have x1:wB.cell? ⟨gx,1,none⟩=some (.int .i8 op):=by simp only [World.cell?,rx];rfl
 have x2:wB.cell? ⟨gx,2,none⟩=some (.int .i8 width):=by simp only [World.cell?,rx];rfl
 have x3:wB.cell? ⟨gx,3,none⟩=some (.int .i8 size):=by simp only [World.cell?,rx];rfl
 have x4:wB.cell? ⟨gx,4,none⟩=some (.bool byReg):=by simp only [World.cell?,rx];rfl
 have x5:wB.cell? ⟨gx,5,none⟩=some (.int .i8 (d:Int)):=by simp only [World.cell?,rx];rfl
 have x6:wB.cell? ⟨gx,6,none⟩=some (.int .i8 (n:Int)):=by simp only [World.cell?,rx];rfl
 have x7:wB.cell? ⟨gx,7,none⟩=some (.int .i64 off):=by simp only [World.cell?,rx];rfl
 have x8:wB.cell? ⟨gx,8,none⟩=some (.int .i64 imm):=by simp only [World.cell?,rx];rfl
 have ei:wrap64 ((i:Int)+1)=(i:Int)+1:=IntWalk.wrap64_in _ (by omega)
 clear hee ho2 hb
 go_wp2_with fail
 clear d79 x0 x1 x2 x3 x4 x5 x6 x7 x8 B
 refine go_regz (fun fl u w=>Below wB.heap.size wB w) [] [] [some (.pointer (some ⟨gx,1,none⟩)),some (.int .i8 op),some (.pointer (some ⟨g,0,none⟩)),some (.pointer (some ⟨gx,5,none⟩)),some (.int .i8 (d:Int)),some (.pointer (some ⟨g,0,none⟩)),some (.pointer (some ⟨g,3,none⟩)),some (.pointer (some ⟨g,3,none⟩)),some (.pointer (some ⟨g,3+d,none⟩)),some (.int .u64 (D.r d)),some (.pointer (some ⟨g,0,none⟩)),some (.agg #[.int .i8 3,.int .i8 op,.int .i8 width,.int .i8 size,.bool byReg,.int .i8 (d:Int),.int .i8 (n:Int),.int .i64 off,.int .i64 imm]),some (.int .u64 o2),some (.tuple #[.bool true,.int .i64 ee]),some (.tuple #[.bool true,.int .i64 ee]),some (.bool true),some (.int .i64 ee),some (.bool true),some (.int .i64 ee)] mo (fun fl fl' u u' w hK hD h=>h) rfl rfl (by kernel_rfl) (fun fl w1 hfl b _=>b) (
  zc (@fun fl ax wx cx=>cx.v (ex_fa rfl (cx.rq 4 rfl) (faQL6S52_1_0 _ _)) rfl rfl) <|
  zc (@fun fl ax wx cx=>cx.v (ex_ld rfl (cx.u 0 rfl) (brow cx.S rx) rfl Tryz.isAgg29) rfl rfl) <|
  zc (@fun fl ax wx cx=>cx.v (ex_mv rfl (cx.rq 0 rfl)) rfl rfl) <|
  zc (@fun fl ax wx cx=>cx.v (ex_fa rfl (cx.rq 4 rfl) (faQL6S52_5_0 _ _)) rfl rfl) <|
  zc (@fun fl ax wx cx=>cx.v (ex_ld rfl (cx.u 0 rfl) (brow cx.S rx) rfl Tryz.isAgg29) rfl rfl) <|
  zc (@fun fl ax wx cx=>cx.v (ex_nc rfl (cx.u 0 rfl)) rfl rfl) <|
  zc (@fun fl ax wx cx=>cx.v (ex_fa rfl (cx.u 0 rfl) (faQL6S65_2_0 _ _)) rfl rfl) <|
  zc (@fun fl ax wx cx=>cx.v (ex_fa rfl (cx.u 0 rfl) (faQL6S49_0_3 _ _)) rfl rfl) <|
  zc (@fun fl ax wx cx=>cx.v (ex_ixR rfl (cx.u 0 rfl) (cx.u 1 rfl) hd) rfl rfl) <|
  zc (@fun fl ax wx cx=>cx.v (ex_ld rfl (cx.u 0 rfl) (brow cx.S hin2) (creg d hd) Tryz.isAgg30) rfl rfl) <|
  zc (@fun fl ax wx cx=>cx.v (ex_mv rfl (cx.rq 0 rfl)) rfl rfl) <|
  zc (@fun fl ax wx cx=>cx.v (exec_loadR 52 _ rfl gx 0 (cx.rq 4 rfl) (brow cx.S rx) [.int .i8 3,.int .i8 op,.int .i8 width,.int .i8 size,.bool byReg,.int .i8 (d:Int),.int .i8 (n:Int),.int .i64 off,.int .i64 imm] rfl _ Tryz.underlying52 rfl (by kernel_rfl)) rfl rfl) <|
  zc (@fun fl ax wx cx=>cx.ct rfl rfl (args2 (cx.u 0 rfl) (cx.u 1 rfl)) Tryz.func46 (by decide +kernel) rfl rfl ((SEC.out wx (brow cx.S hin2)).mono (by
    rintro e w' ⟨rfl,b9⟩
    exact ⟨_,rfl,rfl,cx.S.trans (b9.mono cx.S.size)⟩))) <|
  zc (@fun fl ax wx cx=>cx.c rfl (args4 (cx.u 0 rfl) rfl (cx.u 1 rfl) (cx.u 2 rfl)) Tryz.func51 (by decide +kernel) (HO.out wx) rfl rfl) <|
  zc (@fun fl ax wx cx=>cx.v (ex_mv rfl (cx.u 0 rfl)) rfl rfl) <|
  zc (@fun fl ax wx cx=>cx.v (ex_ext (x:=.tmp 141) rfl (cx.u 0 rfl) rfl) rfl rfl) <|
  zc (@fun fl ax wx cx=>cx.v (ex_ext (x:=.tmp 141) rfl (cx.u 0 rfl) rfl) rfl rfl) <|
  zc (@fun fl ax wx cx=>cx.v (ex_as rfl (cx.u 0 rfl)) rfl rfl) <|
  zc (@fun fl ax wx cx=>cx.v (ex_as rfl (cx.u 0 rfl)) rfl rfl) <|
  zn) ?_
 intro aq3 wq3 fq3
 obtain ⟨flq3,hfq3,hsq3⟩:=fq3.s
 have gq3_11:aq3.tmps.getD 11 undef=.bool true:=fq3.v 17 rfl rfl rfl
 have B7:=Lib.hid hsq3
 have hin3:=brow B7.out hin2
 have rx3:=brow B7.out rx
 clear hsq3 hfq3 flq3
 rw [fq3.frame rfl rfl]
 clear fq3
 rw [show outs _ (fun d=>aq3.tmps.getD d undef)=[(142,aq3.tmps.getD 142 undef),(143,aq3.tmps.getD 143 undef),(144,aq3.tmps.getD 144 undef),(145,aq3.tmps.getD 145 undef),(146,aq3.tmps.getD 146 undef),(147,aq3.tmps.getD 147 undef),(148,aq3.tmps.getD 148 undef),(149,aq3.tmps.getD 149 undef),(150,aq3.tmps.getD 150 undef),(151,aq3.tmps.getD 151 undef),(152,aq3.tmps.getD 152 undef),(153,aq3.tmps.getD 153 undef),(154,aq3.tmps.getD 154 undef),(155,aq3.tmps.getD 155 undef),(141,aq3.tmps.getD 141 undef),(156,aq3.tmps.getD 156 undef),(157,aq3.tmps.getD 157 undef),(11,aq3.tmps.getD 11 undef),(12,aq3.tmps.getD 12 undef)] by kernel_rfl,gq3_11]
 simp only [putAll,List.setIfInBounds_toArray,List.set_cons_zero,List.set_cons_succ,Exit.then]
 generalize aq3.tmps.getD 142 undef=yq3_142
 generalize aq3.tmps.getD 143 undef=yq3_143
 generalize aq3.tmps.getD 144 undef=yq3_144
 generalize aq3.tmps.getD 145 undef=yq3_145
 generalize aq3.tmps.getD 146 undef=yq3_146
 generalize aq3.tmps.getD 147 undef=yq3_147
 generalize aq3.tmps.getD 148 undef=yq3_148
 generalize aq3.tmps.getD 149 undef=yq3_149
 generalize aq3.tmps.getD 150 undef=yq3_150
 generalize aq3.tmps.getD 151 undef=yq3_151
 generalize aq3.tmps.getD 152 undef=yq3_152
 generalize aq3.tmps.getD 153 undef=yq3_153
 generalize aq3.tmps.getD 154 undef=yq3_154
 generalize aq3.tmps.getD 155 undef=yq3_155
 generalize aq3.tmps.getD 141 undef=yq3_141
 generalize aq3.tmps.getD 156 undef=yq3_156
 generalize aq3.tmps.getD 157 undef=yq3_157
 generalize aq3.tmps.getD 12 undef=yq3_12
 clear gq3_11 aq3
 have B8:=Lib.hid (BB.out.trans (B7.out.mono BB.out.size))
 have hin2:=hin3
 have rx:=rx3
 clear hin3 rx3
 go_wp2_with fail
 refine go_regz (fun fl u w=>Below wq3.heap.size wq3 w) [] [] [some (.pointer (some ⟨g,0,none⟩)),some (.pointer (some ⟨g,0,none⟩)),some (.pointer (some ⟨g,79,none⟩)),some (.int .i64 (i:Int)),some (.agg #[.int .i8 3,.int .i8 op,.int .i8 width,.int .i8 size,.bool byReg,.int .i8 (d:Int),.int .i8 (n:Int),.int .i64 off,.int .i64 imm]),some (.tuple #[.int .i64 tt,.bool jj]),some (.tuple #[.int .i64 tt,.bool jj]),some (.int .i64 tt),some (.bool jj),some (.int .i64 tt)] mo (fun fl fl' u u' w hK hD h=>h) rfl rfl (by kernel_rfl) (fun fl w1 hfl b _=>b) (
  zc (@fun fl ax wx cx=>cx.v (ex_mv rfl (cx.rq 0 rfl)) rfl rfl) <|
  zc (@fun fl ax wx cx=>cx.v (ex_nc rfl (cx.u 0 rfl)) rfl rfl) <|
  zc (@fun fl ax wx cx=>cx.v (ex_fa rfl (cx.u 0 rfl) (faQL6S65_3_0 _ _)) rfl rfl) <|
  zc (@fun fl ax wx cx=>cx.v (ex_ld rfl (cx.u 0 rfl) (brow cx.S hin2) c79 Tryz.isAgg3) rfl rfl) <|
  zc (@fun fl ax wx cx=>cx.v (exec_loadR 52 _ rfl gx 0 (cx.rq 4 rfl) (brow cx.S rx) [.int .i8 3,.int .i8 op,.int .i8 width,.int .i8 size,.bool byReg,.int .i8 (d:Int),.int .i8 (n:Int),.int .i64 off,.int .i64 imm] rfl _ Tryz.underlying52 rfl (by kernel_rfl)) rfl rfl) <|
  zc (@fun fl ax wx cx=>cx.ct rfl rfl (args2 (cx.u 0 rfl) (cx.u 1 rfl)) Tryz.func42 (by decide +kernel) rfl rfl ((TG.out wx).mono (by
    rintro e w' ⟨rfl,b9⟩
    exact ⟨_,rfl,rfl,cx.S.trans (b9.mono cx.S.size)⟩))) <|
  zc (@fun fl ax wx cx=>cx.v (ex_mv rfl (cx.u 0 rfl)) rfl rfl) <|
  zc (@fun fl ax wx cx=>cx.v (ex_ext (x:=.tmp 159) rfl (cx.u 0 rfl) rfl) rfl rfl) <|
  zc (@fun fl ax wx cx=>cx.v (ex_ext (x:=.tmp 159) rfl (cx.u 0 rfl) rfl) rfl rfl) <|
  zc (@fun fl ax wx cx=>cx.v (ex_as rfl (cx.u 0 rfl)) rfl rfl) <|
  zn) ?_
 intro aq4 wq4 fq4
 obtain ⟨flq4,hfq4,hsq4⟩:=fq4.s
 have gq4_5:aq4.tmps.getD 5 undef=.int .i64 tt:=fq4.v 9 rfl rfl rfl
 have B9:=Lib.hid (B8.out.trans (hsq4.mono B8.out.size))
 have hin3:=brow hsq4 hin2
 clear hsq4 hfq4 flq4
 rw [fq4.frame rfl rfl]
 clear fq4
 rw [show outs _ (fun d=>aq4.tmps.getD d undef)=[(160,aq4.tmps.getD 160 undef),(161,aq4.tmps.getD 161 undef),(162,aq4.tmps.getD 162 undef),(163,aq4.tmps.getD 163 undef),(164,aq4.tmps.getD 164 undef),(165,aq4.tmps.getD 165 undef),(159,aq4.tmps.getD 159 undef),(166,aq4.tmps.getD 166 undef),(167,aq4.tmps.getD 167 undef),(5,aq4.tmps.getD 5 undef)] by kernel_rfl,gq4_5]
 simp only [putAll,List.setIfInBounds_toArray,List.set_cons_zero,List.set_cons_succ,Exit.then]
 generalize aq4.tmps.getD 160 undef=yq4_160
 generalize aq4.tmps.getD 161 undef=yq4_161
 generalize aq4.tmps.getD 162 undef=yq4_162
 generalize aq4.tmps.getD 163 undef=yq4_163
 generalize aq4.tmps.getD 164 undef=yq4_164
 generalize aq4.tmps.getD 165 undef=yq4_165
 generalize aq4.tmps.getD 159 undef=yq4_159
 generalize aq4.tmps.getD 166 undef=yq4_166
 generalize aq4.tmps.getD 167 undef=yq4_167
 clear gq4_5 aq4
 have HG3:=Lib.hid (show s.in_ wq4 g from hin3)
 clear hin3
 have f79:=Md.unfrozen HG3.out 79
 have e79:=Md.c79 HG3.out
 rw [show s.at_=(i:Int) by rw [HS.out];exact I2.out] at e79
 go_wp2_with fail
 go_ret2
 have TT:Trn [g] W (wq4.setCell ⟨g,79,none⟩ (.int .i64 tt)):=(Trn.of_below B9.out).trans (But.trn (But.set wq4 g 79 _))
 have IN:=Md.at_in HG3.out tt
 rw [HS.out] at IN
 have RR:=R.turnG (ctx:=ctx) (av:=av) (tv:=tv) (D':={ D with at_:=Ins.targetI D.at_ (Ins.In.mk 3 op width size byReg (d:Int) (n:Int) off imm) }) (by rw [← HS.out];exact HI0.out) hA hT hn (by rw [I2.out,← htt.out];exact IN) TT rfl rfl rfl R.words
 exact ⟨rfl,RR.1,RR.2⟩
set_option maxHeartbeats 16000000 in
theorem r6_step_3f (E:Env)(F:Fine E)(D:Pl)(H:Runs E D)(g r β:Nat)(W:World)(R:R6 E g r β D W)(op width:Int)(size:Int)(byReg:Bool)(off imm:Int)(d n:Nat)(hd:d<11)(hn11:n<11)(hx:E.x D.ix=(Ins.In.mk 3 op width size byReg (d:Int) (n:Int) off imm))(hc:(andM D.set (readsM (E.x D.ix)) == readsM (E.x D.ix))=true)(hb:holdsB op 64 (D.r d) (D.opd (Ins.In.mk 3 op width size byReg (d:Int) (n:Int) off imm))=false):
  Calls Tryz.prog 20 #[.pointer (some ⟨g,0,none⟩)] W fun e w'=>e=.returned (.tuple #[.int .i8 0,.bool true])∧R6 E g r β { D with at_:=D.at_+1 } w'∧TurnT τ6 β W w':=by
 have mo:Tryz.prog.follows .mixedOrders=true:=by kernel_rfl
 obtain ⟨i1,i2⟩:=H.ix
 obtain ⟨i,hi⟩:∃ i,i=D.ix:=⟨_,rfl⟩
 rw [← hi] at hx i1 i2 hc
 have hil:i<E.pl:=i1
 obtain ⟨ctx,av,tv,hin,hA,hT,hn⟩:=R.st
 have p2:W.rangeAt E.pa (E.po+i * 9) (Ins.In.mk 3 op width size byReg (d:Int) (n:Int) off imm).cells.toList:=by have:=R.pr.2 i hil;rwa [hx] at this
 have hpl:(i:Int)<64:=by have:=F.len.2;omega
 obtain ⟨s,hs⟩:∃ s,s=md6 E r D ctx av tv:=⟨_,rfl⟩
 rw [← hs] at hin
 have hin0:W.heap[g]?=some (.cells s.cells 65 (0,0)):=hin
 have c1:s.cells[1]?=some (.slice (some ⟨E.pa,E.po,none⟩) E.pl E.pc):=by rw [hs];exact (md6 E r D ctx av tv).get 1 (by decide)
 have c2:s.cells[2]?=some (.pointer (some ⟨r,0,none⟩)):=by rw [hs];exact (md6 E r D ctx av tv).get 2 (by decide)
 have c14:s.cells[14]?=some (.int .i64 D.set):=by rw [hs];exact (md6 E r D ctx av tv).get 14 (by decide)
 have c79:s.cells[79]?=some (.int .i64 (i:Int)):=by rw [← i2,hs];exact (md6 E r D ctx av tv).get 79 (by decide)
 have I2:=Lib.hid i2
 have HS:=Lib.hid hs
 clear i2 hi hs
 have creg:∀ k,k<11→s.cells[3+k]?=some (.int .u64 (D.r k)):=fun k hk=>by rw [s.get _ (by omega),HS.out];unfold Md.cell;rw [if_neg (by omega),if_neg (by omega),if_neg (by omega),if_pos (by omega),show 3+k - 3=k by omega];rfl
 obtain ⟨m0,hm0⟩:∃ m0,m0=readsM (Ins.In.mk 3 op width size byReg (d:Int) (n:Int) off imm):=⟨_,rfl⟩
 have hz:=rd_test (x:=(Ins.In.mk 3 op width size byReg (d:Int) (n:Int) off imm)) (show (0:Int)≤(d:Int) by omega) (show (d:Int)<11 by omega) (show (0:Int)≤(n:Int) by omega) (show (n:Int)<11 by omega) (by rw [← hx];exact hc)
 rw [← hm0] at hz
 have RD:Hid (∀ w,Calls Tryz.prog 44 #[.agg #[.int .i8 3,.int .i8 op,.int .i8 width,.int .i8 size,.bool byReg,.int .i8 (d:Int),.int .i8 (n:Int),.int .i64 off,.int .i64 imm]] w fun e w'=>e=.returned (.int .i64 m0)∧Below w.heap.size w w'):=Lib.hid (fun w=>by rw [hm0];exact r6_reads (Ins.In.mk 3 op width size byReg (d:Int) (n:Int) off imm) w (show (0:Int)≤3 by decide) (show (3:Int)≤6 by decide) (show (0:Int)≤(d:Int) by omega) (show (d:Int)<11 by omega) (show (0:Int)≤(n:Int) by omega) (show (n:Int)<11 by omega))
 clear hm0 hc
 go_enter Tryz.func20,Tryz.ntmps20
 go_wp2_with fail
 refine go_regz (SB 11 12 4 W #[.int .i8 0,.int .i8 0,.int .i8 0,.int .i8 0,.bool false,.int .i8 0,.int .i8 0,.int .i64 0,.int .i64 0] (Ins.In.mk 3 op width size byReg (d:Int) (n:Int) off imm).cells 52) [11,12] [4] [some (.pointer (some ⟨g,0,none⟩)),some (.pointer (some ⟨g,0,none⟩)),some (.pointer (some ⟨g,0,none⟩)),some (.pointer (some ⟨g,1,none⟩)),some (.slice (some ⟨E.pa,E.po,none⟩) E.pl E.pc),some (.pointer (some ⟨g,0,none⟩)),some (.pointer (some ⟨g,0,none⟩)),some (.pointer (some ⟨g,79,none⟩)),some (.int .i64 (i:Int)),some (.pointer (some ⟨E.pa,E.po+i * 9,none⟩)),some (.agg (Ins.In.mk 3 op width size byReg (d:Int) (n:Int) off imm).cells),none,none] mo SB.loc rfl rfl (by kernel_rfl) (fun fl w1 hfl b _=>SB.start b (hfl 11 (by decide))) (
  zc (@fun fl ax wx cx=>cx.v (ex_mv rfl (cx.rq 0 rfl)) rfl rfl) <|
  zc (@fun fl ax wx cx=>cx.v (ex_nc rfl (cx.u 0 rfl)) rfl rfl) <|
  zc (@fun fl ax wx cx=>cx.v (ex_fa rfl (cx.u 0 rfl) (faQL6S65_0_0 _ _)) rfl rfl) <|
  zc (@fun fl ax wx cx=>cx.v (ex_fa rfl (cx.u 0 rfl) (faQL6S24_1_0 _ _)) rfl rfl) <|
  zc (@fun fl ax wx cx=>cx.v (ex_ld rfl (cx.u 0 rfl) (brow cx.S.1 hin0) c1 Tryz.isAgg22) rfl rfl) <|
  zc (@fun fl ax wx cx=>cx.v (ex_mv rfl (cx.rq 0 rfl)) rfl rfl) <|
  zc (@fun fl ax wx cx=>cx.v (ex_nc rfl (cx.u 0 rfl)) rfl rfl) <|
  zc (@fun fl ax wx cx=>cx.v (ex_fa rfl (cx.u 0 rfl) (faQL6S65_3_0 _ _)) rfl rfl) <|
  zc (@fun fl ax wx cx=>cx.v (ex_ld rfl (cx.u 0 rfl) (brow cx.S.1 hin0) c79 Tryz.isAgg3) rfl rfl) <|
  zc (@fun fl ax wx cx=>cx.v (ex_ixI rfl (cx.u 0 rfl) (cx.u 1 rfl) hil) rfl rfl) <|
  zc (@fun fl ax wx cx=>cx.v (ex_ldw6 rfl (cx.u 0 rfl) (load_mid6 (Ins.In.mk 3 op width size byReg (d:Int) (n:Int) off imm) (Ins.rangeAt_below cx.S.1 p2))) rfl rfl) <|
  zc (@fun fl ax wx cx=>cx.vt rfl (by simp [execOp,Act.eval,go_sem]) rfl rfl trivial (SB.alloc cx.S (cx.later 12 (by kernel_rfl)) (by decide) (slot_new cx.sz rfl))) <|
  zc (@fun fl ax wx cx=>(by
    obtain ⟨gx,e1,e2,e3⟩:=cx.S.at_ (cx.did 0 rfl rfl) cx.fi
    exact cx.st rfl (exec_storeR 52 (.tmp 4) (.tmp 23) rfl gx (Ins.In.mk 3 op width size byReg (d:Int) (n:Int) off imm).cells e1 (cx.u 1 rfl) e3 (by kernel_rfl) rfl (by simp [Ins.In.cells,Value.oneCell'])) rfl trivial (SB.store cx.S (cx.did 0 rfl rfl) (by decide) e1 (stored_setRow wx gx (Ins.In.mk 3 op width size byReg (d:Int) (n:Int) off imm).cells _ _ e3)))) <|
  zn) ?_
 intro aq1 wq1 fq1
 obtain ⟨flq1,hfq1,hsq1⟩:=fq1.s
 obtain ⟨B1,gx,g4,lx,rx⟩:=SB.fin hsq1 (hfq1 11 (by decide)) (hfq1 12 (by decide))
 replace g4:aq1.tmps.getD 4 undef=.pointer (some ⟨gx,0,none⟩):=g4
 replace rx:wq1.heap[gx]?=some (.cells #[.int .i8 3,.int .i8 op,.int .i8 width,.int .i8 size,.bool byReg,.int .i8 (d:Int),.int .i8 (n:Int),.int .i64 off,.int .i64 imm] 52 (0,0)):=rx
 have hin1:=brow B1 hin0
 clear hsq1 hfq1 flq1
 rw [fq1.frame rfl rfl]
 clear fq1
 rw [show outs _ (fun d=>aq1.tmps.getD d undef)=[(13,aq1.tmps.getD 13 undef),(14,aq1.tmps.getD 14 undef),(15,aq1.tmps.getD 15 undef),(16,aq1.tmps.getD 16 undef),(17,aq1.tmps.getD 17 undef),(18,aq1.tmps.getD 18 undef),(19,aq1.tmps.getD 19 undef),(20,aq1.tmps.getD 20 undef),(21,aq1.tmps.getD 21 undef),(22,aq1.tmps.getD 22 undef),(23,aq1.tmps.getD 23 undef),(4,aq1.tmps.getD 4 undef)] by kernel_rfl,g4]
 simp only [putAll,List.setIfInBounds_toArray,List.set_cons_zero,List.set_cons_succ,Exit.then]
 generalize aq1.tmps.getD 13 undef=yq1_13
 generalize aq1.tmps.getD 14 undef=yq1_14
 generalize aq1.tmps.getD 15 undef=yq1_15
 generalize aq1.tmps.getD 16 undef=yq1_16
 generalize aq1.tmps.getD 17 undef=yq1_17
 generalize aq1.tmps.getD 18 undef=yq1_18
 generalize aq1.tmps.getD 19 undef=yq1_19
 generalize aq1.tmps.getD 20 undef=yq1_20
 generalize aq1.tmps.getD 21 undef=yq1_21
 generalize aq1.tmps.getD 22 undef=yq1_22
 generalize aq1.tmps.getD 23 undef=yq1_23
 clear g4 aq1
 clear p2
 go_wp2_with fail
 refine go_regz (fun fl u w=>Below wq1.heap.size wq1 w) [] [] [some (.agg #[.int .i8 3,.int .i8 op,.int .i8 width,.int .i8 size,.bool byReg,.int .i8 (d:Int),.int .i8 (n:Int),.int .i64 off,.int .i64 imm]),some (.int .i64 m0),some (.pointer (some ⟨g,0,none⟩)),some (.pointer (some ⟨g,0,none⟩)),some (.pointer (some ⟨g,3,none⟩)),some (.pointer (some ⟨g,14,none⟩)),some (.int .i64 D.set),some (.int .i64 (bits .andNot .i64 m0 D.set)),some (.bool (bits .andNot .i64 m0 D.set != 0))] mo (fun fl fl' u u' w hK hD h=>h) rfl rfl (by kernel_rfl) (fun fl w1 hfl b _=>b) (
  zc (@fun fl ax wx cx=>cx.v (exec_loadR 52 _ rfl gx 0 (cx.rq 4 rfl) (brow cx.S rx) [.int .i8 3,.int .i8 op,.int .i8 width,.int .i8 size,.bool byReg,.int .i8 (d:Int),.int .i8 (n:Int),.int .i64 off,.int .i64 imm] rfl _ Tryz.underlying52 rfl (by kernel_rfl)) rfl rfl) <|
  zc (@fun fl ax wx cx=>cx.ct rfl rfl (args1 (cx.u 0 rfl)) Tryz.func44 (by decide +kernel) rfl rfl ((RD.out wx).mono (by
    rintro e w' ⟨rfl,b9⟩
    exact ⟨_,rfl,rfl,cx.S.trans (b9.mono cx.S.size)⟩))) <|
  zc (@fun fl ax wx cx=>cx.v (ex_mv rfl (cx.rq 0 rfl)) rfl rfl) <|
  zc (@fun fl ax wx cx=>cx.v (ex_nc rfl (cx.u 0 rfl)) rfl rfl) <|
  zc (@fun fl ax wx cx=>cx.v (ex_fa rfl (cx.u 0 rfl) (faQL6S65_2_0 _ _)) rfl rfl) <|
  zc (@fun fl ax wx cx=>cx.v (ex_fa rfl (cx.u 0 rfl) (faQL6S49_1_3 _ _)) rfl rfl) <|
  zc (@fun fl ax wx cx=>cx.v (ex_ld rfl (cx.u 0 rfl) (brow cx.S hin1) c14 Tryz.isAgg3) rfl rfl) <|
  zc (@fun fl ax wx cx=>cx.v (by simp [execOp,Act.eval,(show ax.tmps.getD 25 undef=.int .i64 m0 from (cx.u 0 rfl)),(show ax.tmps.getD 30 undef=.int .i64 D.set from (cx.u 1 rfl)),go_sem]) rfl rfl) <|
  zc (@fun fl ax wx cx=>cx.v (ex_ne (x:=.tmp 31) rfl (cx.u 0 rfl) rfl) rfl rfl) <|
  zn) ?_
 intro aq2 wq2 fq2
 obtain ⟨flq2,hfq2,hsq2⟩:=fq2.s
 have gq2_32:aq2.tmps.getD 32 undef=.bool (bits .andNot .i64 m0 D.set != 0):=fq2.v 8 rfl rfl rfl
 have B2:=hsq2
 have rx:=brow B2 rx
 have hin2:=brow B2 hin1
 have B:=B1.trans (B2.mono B1.size)
 clear hsq2 hfq2 flq2 B1 B2 hin1
 rw [fq2.frame rfl rfl]
 clear fq2
 rw [show outs _ (fun d=>aq2.tmps.getD d undef)=[(24,aq2.tmps.getD 24 undef),(25,aq2.tmps.getD 25 undef),(26,aq2.tmps.getD 26 undef),(27,aq2.tmps.getD 27 undef),(28,aq2.tmps.getD 28 undef),(29,aq2.tmps.getD 29 undef),(30,aq2.tmps.getD 30 undef),(31,aq2.tmps.getD 31 undef),(32,aq2.tmps.getD 32 undef)] by kernel_rfl,gq2_32]
 simp only [putAll,List.setIfInBounds_toArray,List.set_cons_zero,List.set_cons_succ,Exit.then]
 generalize aq2.tmps.getD 24 undef=yq2_24
 generalize aq2.tmps.getD 25 undef=yq2_25
 generalize aq2.tmps.getD 26 undef=yq2_26
 generalize aq2.tmps.getD 27 undef=yq2_27
 generalize aq2.tmps.getD 28 undef=yq2_28
 generalize aq2.tmps.getD 29 undef=yq2_29
 generalize aq2.tmps.getD 30 undef=yq2_30
 generalize aq2.tmps.getD 31 undef=yq2_31
 clear gq2_32 aq2
 simp only [hz]
 generalize wq2=wB at *
 obtain ⟨o2,ho2⟩:∃ o2,Hid (o2=D.opd (Ins.In.mk 3 op width size byReg (d:Int) (n:Int) off imm)):=⟨_,Lib.hid rfl⟩
 have SEC:Hid (∀ w,w.heap[g]?=some (.cells s.cells 65 (0,0))→Calls Tryz.prog 46 #[.pointer (some ⟨g,0,none⟩),.agg #[.int .i8 3,.int .i8 op,.int .i8 width,.int .i8 size,.bool byReg,.int .i8 (d:Int),.int .i8 (n:Int),.int .i64 off,.int .i64 imm]] w fun e w'=>e=.returned (.int .u64 o2)∧Below w.heap.size w w'):=Lib.hid (fun w h=>by rw [ho2.out];have:=r6_second s g (Ins.In.mk 3 op width size byReg (d:Int) (n:Int) off imm) w h (show (0:Int)≤(n:Int) by omega) (show (n:Int)<11 by omega);rw [show s.opd (Ins.In.mk 3 op width size byReg (d:Int) (n:Int) off imm)=D.opd (Ins.In.mk 3 op width size byReg (d:Int) (n:Int) off imm) by rw [HS.out];rfl] at this;exact this)
 have hw2:=Pl.opd_word R.words (Ins.In.mk 3 op width size byReg (d:Int) (n:Int) off imm)
 rw [← ho2.out] at hw2
 obtain ⟨ee,hee⟩:∃ ee,Hid (ee=holdsE op 64):=⟨_,Lib.hid rfl⟩
 have HO:=Lib.hid (fun w=>refholds_any op 64 (D.r d) o2 w (R.words d).1 (R.words d).2 hw2.1 hw2.2)
 rw [show holdsB op 64 (D.r d) o2=false by rw [ho2.out];exact hb,← hee.out] at HO
 have HG2:=Lib.hid hin2
 have RX:=Lib.hid rx
 have BB:=Lib.hid B
 have HI0:=Lib.hid hin
 clear hin hin0
 have d79:wB.cell? ⟨g,79,none⟩=some (.int .i64 (i:Int)):=by simp only [World.cell?,hin2];exact c79
 have x0:wB.cell? ⟨gx,0,none⟩=some (.int .i8 3):=by simp only [World.cell?,rx];rfl
 have x1:wB.cell? ⟨gx,1,none⟩=some (.int .i8 op):=by simp only [World.cell?,rx];rfl
 have x2:wB.cell? ⟨gx,2,none⟩=some (.int .i8 width):=by simp only [World.cell?,rx];rfl
 have x3:wB.cell? ⟨gx,3,none⟩=some (.int .i8 size):=by simp only [World.cell?,rx];rfl
 have x4:wB.cell? ⟨gx,4,none⟩=some (.bool byReg):=by simp only [World.cell?,rx];rfl
 have x5:wB.cell? ⟨gx,5,none⟩=some (.int .i8 (d:Int)):=by simp only [World.cell?,rx];rfl
 have x6:wB.cell? ⟨gx,6,none⟩=some (.int .i8 (n:Int)):=by simp only [World.cell?,rx];rfl
 have x7:wB.cell? ⟨gx,7,none⟩=some (.int .i64 off):=by simp only [World.cell?,rx];rfl
 have x8:wB.cell? ⟨gx,8,none⟩=some (.int .i64 imm):=by simp only [World.cell?,rx];rfl
 have ei:wrap64 ((i:Int)+1)=(i:Int)+1:=IntWalk.wrap64_in _ (by omega)
 clear hee ho2 hb
 go_wp2_with fail
 clear d79 x0 x1 x2 x3 x4 x5 x6 x7 x8 B
 refine go_regz (fun fl u w=>Below wB.heap.size wB w) [] [] [some (.pointer (some ⟨gx,1,none⟩)),some (.int .i8 op),some (.pointer (some ⟨g,0,none⟩)),some (.pointer (some ⟨gx,5,none⟩)),some (.int .i8 (d:Int)),some (.pointer (some ⟨g,0,none⟩)),some (.pointer (some ⟨g,3,none⟩)),some (.pointer (some ⟨g,3,none⟩)),some (.pointer (some ⟨g,3+d,none⟩)),some (.int .u64 (D.r d)),some (.pointer (some ⟨g,0,none⟩)),some (.agg #[.int .i8 3,.int .i8 op,.int .i8 width,.int .i8 size,.bool byReg,.int .i8 (d:Int),.int .i8 (n:Int),.int .i64 off,.int .i64 imm]),some (.int .u64 o2),some (.tuple #[.bool false,.int .i64 ee]),some (.tuple #[.bool false,.int .i64 ee]),some (.bool false),some (.int .i64 ee),some (.bool false),some (.int .i64 ee)] mo (fun fl fl' u u' w hK hD h=>h) rfl rfl (by kernel_rfl) (fun fl w1 hfl b _=>b) (
  zc (@fun fl ax wx cx=>cx.v (ex_fa rfl (cx.rq 4 rfl) (faQL6S52_1_0 _ _)) rfl rfl) <|
  zc (@fun fl ax wx cx=>cx.v (ex_ld rfl (cx.u 0 rfl) (brow cx.S rx) rfl Tryz.isAgg29) rfl rfl) <|
  zc (@fun fl ax wx cx=>cx.v (ex_mv rfl (cx.rq 0 rfl)) rfl rfl) <|
  zc (@fun fl ax wx cx=>cx.v (ex_fa rfl (cx.rq 4 rfl) (faQL6S52_5_0 _ _)) rfl rfl) <|
  zc (@fun fl ax wx cx=>cx.v (ex_ld rfl (cx.u 0 rfl) (brow cx.S rx) rfl Tryz.isAgg29) rfl rfl) <|
  zc (@fun fl ax wx cx=>cx.v (ex_nc rfl (cx.u 0 rfl)) rfl rfl) <|
  zc (@fun fl ax wx cx=>cx.v (ex_fa rfl (cx.u 0 rfl) (faQL6S65_2_0 _ _)) rfl rfl) <|
  zc (@fun fl ax wx cx=>cx.v (ex_fa rfl (cx.u 0 rfl) (faQL6S49_0_3 _ _)) rfl rfl) <|
  zc (@fun fl ax wx cx=>cx.v (ex_ixR rfl (cx.u 0 rfl) (cx.u 1 rfl) hd) rfl rfl) <|
  zc (@fun fl ax wx cx=>cx.v (ex_ld rfl (cx.u 0 rfl) (brow cx.S hin2) (creg d hd) Tryz.isAgg30) rfl rfl) <|
  zc (@fun fl ax wx cx=>cx.v (ex_mv rfl (cx.rq 0 rfl)) rfl rfl) <|
  zc (@fun fl ax wx cx=>cx.v (exec_loadR 52 _ rfl gx 0 (cx.rq 4 rfl) (brow cx.S rx) [.int .i8 3,.int .i8 op,.int .i8 width,.int .i8 size,.bool byReg,.int .i8 (d:Int),.int .i8 (n:Int),.int .i64 off,.int .i64 imm] rfl _ Tryz.underlying52 rfl (by kernel_rfl)) rfl rfl) <|
  zc (@fun fl ax wx cx=>cx.ct rfl rfl (args2 (cx.u 0 rfl) (cx.u 1 rfl)) Tryz.func46 (by decide +kernel) rfl rfl ((SEC.out wx (brow cx.S hin2)).mono (by
    rintro e w' ⟨rfl,b9⟩
    exact ⟨_,rfl,rfl,cx.S.trans (b9.mono cx.S.size)⟩))) <|
  zc (@fun fl ax wx cx=>cx.c rfl (args4 (cx.u 0 rfl) rfl (cx.u 1 rfl) (cx.u 2 rfl)) Tryz.func51 (by decide +kernel) (HO.out wx) rfl rfl) <|
  zc (@fun fl ax wx cx=>cx.v (ex_mv rfl (cx.u 0 rfl)) rfl rfl) <|
  zc (@fun fl ax wx cx=>cx.v (ex_ext (x:=.tmp 141) rfl (cx.u 0 rfl) rfl) rfl rfl) <|
  zc (@fun fl ax wx cx=>cx.v (ex_ext (x:=.tmp 141) rfl (cx.u 0 rfl) rfl) rfl rfl) <|
  zc (@fun fl ax wx cx=>cx.v (ex_as rfl (cx.u 0 rfl)) rfl rfl) <|
  zc (@fun fl ax wx cx=>cx.v (ex_as rfl (cx.u 0 rfl)) rfl rfl) <|
  zn) ?_
 intro aq3 wq3 fq3
 obtain ⟨flq3,hfq3,hsq3⟩:=fq3.s
 have gq3_11:aq3.tmps.getD 11 undef=.bool false:=fq3.v 17 rfl rfl rfl
 have B7:=Lib.hid hsq3
 have hin3:=brow B7.out hin2
 have rx3:=brow B7.out rx
 clear hsq3 hfq3 flq3
 rw [fq3.frame rfl rfl]
 clear fq3
 rw [show outs _ (fun d=>aq3.tmps.getD d undef)=[(142,aq3.tmps.getD 142 undef),(143,aq3.tmps.getD 143 undef),(144,aq3.tmps.getD 144 undef),(145,aq3.tmps.getD 145 undef),(146,aq3.tmps.getD 146 undef),(147,aq3.tmps.getD 147 undef),(148,aq3.tmps.getD 148 undef),(149,aq3.tmps.getD 149 undef),(150,aq3.tmps.getD 150 undef),(151,aq3.tmps.getD 151 undef),(152,aq3.tmps.getD 152 undef),(153,aq3.tmps.getD 153 undef),(154,aq3.tmps.getD 154 undef),(155,aq3.tmps.getD 155 undef),(141,aq3.tmps.getD 141 undef),(156,aq3.tmps.getD 156 undef),(157,aq3.tmps.getD 157 undef),(11,aq3.tmps.getD 11 undef),(12,aq3.tmps.getD 12 undef)] by kernel_rfl,gq3_11]
 simp only [putAll,List.setIfInBounds_toArray,List.set_cons_zero,List.set_cons_succ,Exit.then]
 generalize aq3.tmps.getD 142 undef=yq3_142
 generalize aq3.tmps.getD 143 undef=yq3_143
 generalize aq3.tmps.getD 144 undef=yq3_144
 generalize aq3.tmps.getD 145 undef=yq3_145
 generalize aq3.tmps.getD 146 undef=yq3_146
 generalize aq3.tmps.getD 147 undef=yq3_147
 generalize aq3.tmps.getD 148 undef=yq3_148
 generalize aq3.tmps.getD 149 undef=yq3_149
 generalize aq3.tmps.getD 150 undef=yq3_150
 generalize aq3.tmps.getD 151 undef=yq3_151
 generalize aq3.tmps.getD 152 undef=yq3_152
 generalize aq3.tmps.getD 153 undef=yq3_153
 generalize aq3.tmps.getD 154 undef=yq3_154
 generalize aq3.tmps.getD 155 undef=yq3_155
 generalize aq3.tmps.getD 141 undef=yq3_141
 generalize aq3.tmps.getD 156 undef=yq3_156
 generalize aq3.tmps.getD 157 undef=yq3_157
 generalize aq3.tmps.getD 12 undef=yq3_12
 clear gq3_11 aq3
 have B9:=Lib.hid (BB.out.trans (B7.out.mono BB.out.size))
 clear rx3
 have HG3:=Lib.hid (show s.in_ wq3 g from hin3)
 clear hin3
 have f79:=Md.unfrozen HG3.out 79
 have e79:=Md.c79 HG3.out
 rw [show s.at_=(i:Int) by rw [HS.out];exact I2.out] at e79
 go_wp2_with fail
 go_ret2
 have TT:Trn [g] W (wq3.setCell ⟨g,79,none⟩ (.int .i64 ((i:Int)+1))):=(Trn.of_below B9.out).trans (But.trn (But.set wq3 g 79 _))
 have IN:=Md.at_in HG3.out ((i:Int)+1)
 rw [HS.out] at IN
 have RR:=R.turnG (ctx:=ctx) (av:=av) (tv:=tv) (D':={ D with at_:=D.at_+1 }) (by rw [← HS.out];exact HI0.out) hA hT hn (by rw [I2.out];exact IN) TT rfl rfl rfl R.words
 exact ⟨rfl,RR.1,RR.2⟩
set_option maxHeartbeats 16000000 in
theorem r6_step_4 (E:Env)(F:Fine E)(D:Pl)(H:Runs E D)(g r β:Nat)(W:World)(R:R6 E g r β D W)(op width:Int)(size:Int)(byReg:Bool)(off imm:Int)(dst src:Int)(d0:0≤dst)(d1:dst<11)(s0:0≤src)(s1:src<11)(hx:E.x D.ix=(Ins.In.mk 4 op width size byReg dst src off imm))(hc:(andM D.set (readsM (E.x D.ix)) == readsM (E.x D.ix))=true):
  Calls Tryz.prog 20 #[.pointer (some ⟨g,0,none⟩)] W fun e w'=>e=.returned (.tuple #[.int .i8 0,.bool true])∧R6 E g r β { D with at_:=Ins.targetI D.at_ (Ins.In.mk 4 op width size byReg dst src off imm) } w'∧TurnT τ6 β W w':=by
 have mo:Tryz.prog.follows .mixedOrders=true:=by kernel_rfl
 obtain ⟨i1,i2⟩:=H.ix
 obtain ⟨i,hi⟩:∃ i,i=D.ix:=⟨_,rfl⟩
 rw [← hi] at hx i1 i2 hc
 have hil:i<E.pl:=i1
 obtain ⟨ctx,av,tv,hin,hA,hT,hn⟩:=R.st
 have p2:W.rangeAt E.pa (E.po+i * 9) (Ins.In.mk 4 op width size byReg dst src off imm).cells.toList:=by have:=R.pr.2 i hil;rwa [hx] at this
 have hpl:(i:Int)<64:=by have:=F.len.2;omega
 obtain ⟨s,hs⟩:∃ s,s=md6 E r D ctx av tv:=⟨_,rfl⟩
 rw [← hs] at hin
 have hin0:W.heap[g]?=some (.cells s.cells 65 (0,0)):=hin
 have c1:s.cells[1]?=some (.slice (some ⟨E.pa,E.po,none⟩) E.pl E.pc):=by rw [hs];exact (md6 E r D ctx av tv).get 1 (by decide)
 have c2:s.cells[2]?=some (.pointer (some ⟨r,0,none⟩)):=by rw [hs];exact (md6 E r D ctx av tv).get 2 (by decide)
 have c14:s.cells[14]?=some (.int .i64 D.set):=by rw [hs];exact (md6 E r D ctx av tv).get 14 (by decide)
 have c79:s.cells[79]?=some (.int .i64 (i:Int)):=by rw [← i2,hs];exact (md6 E r D ctx av tv).get 79 (by decide)
 have I2:=Lib.hid i2
 have HS:=Lib.hid hs
 clear i2 hi hs
 have creg:∀ k,k<11→s.cells[3+k]?=some (.int .u64 (D.r k)):=fun k hk=>by rw [s.get _ (by omega),HS.out];unfold Md.cell;rw [if_neg (by omega),if_neg (by omega),if_neg (by omega),if_pos (by omega),show 3+k - 3=k by omega];rfl
 obtain ⟨m0,hm0⟩:∃ m0,m0=readsM (Ins.In.mk 4 op width size byReg dst src off imm):=⟨_,rfl⟩
 have hz:=rd_test (x:=(Ins.In.mk 4 op width size byReg dst src off imm)) d0 d1 s0 s1 (by rw [← hx];exact hc)
 rw [← hm0] at hz
 have RD:Hid (∀ w,Calls Tryz.prog 44 #[.agg #[.int .i8 4,.int .i8 op,.int .i8 width,.int .i8 size,.bool byReg,.int .i8 dst,.int .i8 src,.int .i64 off,.int .i64 imm]] w fun e w'=>e=.returned (.int .i64 m0)∧Below w.heap.size w w'):=Lib.hid (fun w=>by rw [hm0];exact r6_reads (Ins.In.mk 4 op width size byReg dst src off imm) w (show (0:Int)≤4 by decide) (show (4:Int)≤6 by decide) d0 d1 s0 s1)
 clear hm0 hc
 go_enter Tryz.func20,Tryz.ntmps20
 go_wp2_with fail
 refine go_regz (SB 11 12 4 W #[.int .i8 0,.int .i8 0,.int .i8 0,.int .i8 0,.bool false,.int .i8 0,.int .i8 0,.int .i64 0,.int .i64 0] (Ins.In.mk 4 op width size byReg dst src off imm).cells 52) [11,12] [4] [some (.pointer (some ⟨g,0,none⟩)),some (.pointer (some ⟨g,0,none⟩)),some (.pointer (some ⟨g,0,none⟩)),some (.pointer (some ⟨g,1,none⟩)),some (.slice (some ⟨E.pa,E.po,none⟩) E.pl E.pc),some (.pointer (some ⟨g,0,none⟩)),some (.pointer (some ⟨g,0,none⟩)),some (.pointer (some ⟨g,79,none⟩)),some (.int .i64 (i:Int)),some (.pointer (some ⟨E.pa,E.po+i * 9,none⟩)),some (.agg (Ins.In.mk 4 op width size byReg dst src off imm).cells),none,none] mo SB.loc rfl rfl (by kernel_rfl) (fun fl w1 hfl b _=>SB.start b (hfl 11 (by decide))) (
  zc (@fun fl ax wx cx=>cx.v (ex_mv rfl (cx.rq 0 rfl)) rfl rfl) <|
  zc (@fun fl ax wx cx=>cx.v (ex_nc rfl (cx.u 0 rfl)) rfl rfl) <|
  zc (@fun fl ax wx cx=>cx.v (ex_fa rfl (cx.u 0 rfl) (faQL6S65_0_0 _ _)) rfl rfl) <|
  zc (@fun fl ax wx cx=>cx.v (ex_fa rfl (cx.u 0 rfl) (faQL6S24_1_0 _ _)) rfl rfl) <|
  zc (@fun fl ax wx cx=>cx.v (ex_ld rfl (cx.u 0 rfl) (brow cx.S.1 hin0) c1 Tryz.isAgg22) rfl rfl) <|
  zc (@fun fl ax wx cx=>cx.v (ex_mv rfl (cx.rq 0 rfl)) rfl rfl) <|
  zc (@fun fl ax wx cx=>cx.v (ex_nc rfl (cx.u 0 rfl)) rfl rfl) <|
  zc (@fun fl ax wx cx=>cx.v (ex_fa rfl (cx.u 0 rfl) (faQL6S65_3_0 _ _)) rfl rfl) <|
  zc (@fun fl ax wx cx=>cx.v (ex_ld rfl (cx.u 0 rfl) (brow cx.S.1 hin0) c79 Tryz.isAgg3) rfl rfl) <|
  zc (@fun fl ax wx cx=>cx.v (ex_ixI rfl (cx.u 0 rfl) (cx.u 1 rfl) hil) rfl rfl) <|
  zc (@fun fl ax wx cx=>cx.v (ex_ldw6 rfl (cx.u 0 rfl) (load_mid6 (Ins.In.mk 4 op width size byReg dst src off imm) (Ins.rangeAt_below cx.S.1 p2))) rfl rfl) <|
  zc (@fun fl ax wx cx=>cx.vt rfl (by simp [execOp,Act.eval,go_sem]) rfl rfl trivial (SB.alloc cx.S (cx.later 12 (by kernel_rfl)) (by decide) (slot_new cx.sz rfl))) <|
  zc (@fun fl ax wx cx=>(by
    obtain ⟨gx,e1,e2,e3⟩:=cx.S.at_ (cx.did 0 rfl rfl) cx.fi
    exact cx.st rfl (exec_storeR 52 (.tmp 4) (.tmp 23) rfl gx (Ins.In.mk 4 op width size byReg dst src off imm).cells e1 (cx.u 1 rfl) e3 (by kernel_rfl) rfl (by simp [Ins.In.cells,Value.oneCell'])) rfl trivial (SB.store cx.S (cx.did 0 rfl rfl) (by decide) e1 (stored_setRow wx gx (Ins.In.mk 4 op width size byReg dst src off imm).cells _ _ e3)))) <|
  zn) ?_
 intro aq1 wq1 fq1
 obtain ⟨flq1,hfq1,hsq1⟩:=fq1.s
 obtain ⟨B1,gx,g4,lx,rx⟩:=SB.fin hsq1 (hfq1 11 (by decide)) (hfq1 12 (by decide))
 replace g4:aq1.tmps.getD 4 undef=.pointer (some ⟨gx,0,none⟩):=g4
 replace rx:wq1.heap[gx]?=some (.cells #[.int .i8 4,.int .i8 op,.int .i8 width,.int .i8 size,.bool byReg,.int .i8 dst,.int .i8 src,.int .i64 off,.int .i64 imm] 52 (0,0)):=rx
 have hin1:=brow B1 hin0
 clear hsq1 hfq1 flq1
 rw [fq1.frame rfl rfl]
 clear fq1
 rw [show outs _ (fun d=>aq1.tmps.getD d undef)=[(13,aq1.tmps.getD 13 undef),(14,aq1.tmps.getD 14 undef),(15,aq1.tmps.getD 15 undef),(16,aq1.tmps.getD 16 undef),(17,aq1.tmps.getD 17 undef),(18,aq1.tmps.getD 18 undef),(19,aq1.tmps.getD 19 undef),(20,aq1.tmps.getD 20 undef),(21,aq1.tmps.getD 21 undef),(22,aq1.tmps.getD 22 undef),(23,aq1.tmps.getD 23 undef),(4,aq1.tmps.getD 4 undef)] by kernel_rfl,g4]
 simp only [putAll,List.setIfInBounds_toArray,List.set_cons_zero,List.set_cons_succ,Exit.then]
 generalize aq1.tmps.getD 13 undef=yq1_13
 generalize aq1.tmps.getD 14 undef=yq1_14
 generalize aq1.tmps.getD 15 undef=yq1_15
 generalize aq1.tmps.getD 16 undef=yq1_16
 generalize aq1.tmps.getD 17 undef=yq1_17
 generalize aq1.tmps.getD 18 undef=yq1_18
 generalize aq1.tmps.getD 19 undef=yq1_19
 generalize aq1.tmps.getD 20 undef=yq1_20
 generalize aq1.tmps.getD 21 undef=yq1_21
 generalize aq1.tmps.getD 22 undef=yq1_22
 generalize aq1.tmps.getD 23 undef=yq1_23
 clear g4 aq1
 clear p2
 go_wp2_with fail
 refine go_regz (fun fl u w=>Below wq1.heap.size wq1 w) [] [] [some (.agg #[.int .i8 4,.int .i8 op,.int .i8 width,.int .i8 size,.bool byReg,.int .i8 dst,.int .i8 src,.int .i64 off,.int .i64 imm]),some (.int .i64 m0),some (.pointer (some ⟨g,0,none⟩)),some (.pointer (some ⟨g,0,none⟩)),some (.pointer (some ⟨g,3,none⟩)),some (.pointer (some ⟨g,14,none⟩)),some (.int .i64 D.set),some (.int .i64 (bits .andNot .i64 m0 D.set)),some (.bool (bits .andNot .i64 m0 D.set != 0))] mo (fun fl fl' u u' w hK hD h=>h) rfl rfl (by kernel_rfl) (fun fl w1 hfl b _=>b) (
  zc (@fun fl ax wx cx=>cx.v (exec_loadR 52 _ rfl gx 0 (cx.rq 4 rfl) (brow cx.S rx) [.int .i8 4,.int .i8 op,.int .i8 width,.int .i8 size,.bool byReg,.int .i8 dst,.int .i8 src,.int .i64 off,.int .i64 imm] rfl _ Tryz.underlying52 rfl (by kernel_rfl)) rfl rfl) <|
  zc (@fun fl ax wx cx=>cx.ct rfl rfl (args1 (cx.u 0 rfl)) Tryz.func44 (by decide +kernel) rfl rfl ((RD.out wx).mono (by
    rintro e w' ⟨rfl,b9⟩
    exact ⟨_,rfl,rfl,cx.S.trans (b9.mono cx.S.size)⟩))) <|
  zc (@fun fl ax wx cx=>cx.v (ex_mv rfl (cx.rq 0 rfl)) rfl rfl) <|
  zc (@fun fl ax wx cx=>cx.v (ex_nc rfl (cx.u 0 rfl)) rfl rfl) <|
  zc (@fun fl ax wx cx=>cx.v (ex_fa rfl (cx.u 0 rfl) (faQL6S65_2_0 _ _)) rfl rfl) <|
  zc (@fun fl ax wx cx=>cx.v (ex_fa rfl (cx.u 0 rfl) (faQL6S49_1_3 _ _)) rfl rfl) <|
  zc (@fun fl ax wx cx=>cx.v (ex_ld rfl (cx.u 0 rfl) (brow cx.S hin1) c14 Tryz.isAgg3) rfl rfl) <|
  zc (@fun fl ax wx cx=>cx.v (by simp [execOp,Act.eval,(show ax.tmps.getD 25 undef=.int .i64 m0 from (cx.u 0 rfl)),(show ax.tmps.getD 30 undef=.int .i64 D.set from (cx.u 1 rfl)),go_sem]) rfl rfl) <|
  zc (@fun fl ax wx cx=>cx.v (ex_ne (x:=.tmp 31) rfl (cx.u 0 rfl) rfl) rfl rfl) <|
  zn) ?_
 intro aq2 wq2 fq2
 obtain ⟨flq2,hfq2,hsq2⟩:=fq2.s
 have gq2_32:aq2.tmps.getD 32 undef=.bool (bits .andNot .i64 m0 D.set != 0):=fq2.v 8 rfl rfl rfl
 have B2:=hsq2
 have rx:=brow B2 rx
 have hin2:=brow B2 hin1
 have B:=B1.trans (B2.mono B1.size)
 clear hsq2 hfq2 flq2 B1 B2 hin1
 rw [fq2.frame rfl rfl]
 clear fq2
 rw [show outs _ (fun d=>aq2.tmps.getD d undef)=[(24,aq2.tmps.getD 24 undef),(25,aq2.tmps.getD 25 undef),(26,aq2.tmps.getD 26 undef),(27,aq2.tmps.getD 27 undef),(28,aq2.tmps.getD 28 undef),(29,aq2.tmps.getD 29 undef),(30,aq2.tmps.getD 30 undef),(31,aq2.tmps.getD 31 undef),(32,aq2.tmps.getD 32 undef)] by kernel_rfl,gq2_32]
 simp only [putAll,List.setIfInBounds_toArray,List.set_cons_zero,List.set_cons_succ,Exit.then]
 generalize aq2.tmps.getD 24 undef=yq2_24
 generalize aq2.tmps.getD 25 undef=yq2_25
 generalize aq2.tmps.getD 26 undef=yq2_26
 generalize aq2.tmps.getD 27 undef=yq2_27
 generalize aq2.tmps.getD 28 undef=yq2_28
 generalize aq2.tmps.getD 29 undef=yq2_29
 generalize aq2.tmps.getD 30 undef=yq2_30
 generalize aq2.tmps.getD 31 undef=yq2_31
 clear gq2_32 aq2
 simp only [hz]
 generalize wq2=wB at *
 obtain ⟨tt,htt⟩:∃ tt,Hid (tt=Ins.targetI (i:Int) (Ins.In.mk 4 op width size byReg dst src off imm)):=⟨_,Lib.hid rfl⟩
 obtain ⟨jj,hjj⟩:∃ jj,Hid (jj=Ins.jumpsI (i:Int) (Ins.In.mk 4 op width size byReg dst src off imm)):=⟨_,Lib.hid rfl⟩
 have TG:Hid (∀ w,Calls Tryz.prog 42 #[.int .i64 (i:Int),.agg #[.int .i8 4,.int .i8 op,.int .i8 width,.int .i8 size,.bool byReg,.int .i8 dst,.int .i8 src,.int .i64 off,.int .i64 imm]] w fun e w'=>e=.returned (.tuple #[.int .i64 tt,.bool jj])∧Below w.heap.size w w'):=Lib.hid (fun w=>by rw [htt.out,hjj.out];exact Ins.r_target (i:Int) (Ins.In.mk 4 op width size byReg dst src off imm) w)
 clear hjj
 have HG2:=Lib.hid hin2
 have RX:=Lib.hid rx
 have BB:=Lib.hid B
 have HI0:=Lib.hid hin
 clear hin hin0
 have d79:wB.cell? ⟨g,79,none⟩=some (.int .i64 (i:Int)):=by simp only [World.cell?,hin2];exact c79
 have x0:wB.cell? ⟨gx,0,none⟩=some (.int .i8 4):=by simp only [World.cell?,rx];rfl
 have x1:wB.cell? ⟨gx,1,none⟩=some (.int .i8 op):=by simp only [World.cell?,rx];rfl
 have x2:wB.cell? ⟨gx,2,none⟩=some (.int .i8 width):=by simp only [World.cell?,rx];rfl
 have x3:wB.cell? ⟨gx,3,none⟩=some (.int .i8 size):=by simp only [World.cell?,rx];rfl
 have x4:wB.cell? ⟨gx,4,none⟩=some (.bool byReg):=by simp only [World.cell?,rx];rfl
 have x5:wB.cell? ⟨gx,5,none⟩=some (.int .i8 dst):=by simp only [World.cell?,rx];rfl
 have x6:wB.cell? ⟨gx,6,none⟩=some (.int .i8 src):=by simp only [World.cell?,rx];rfl
 have x7:wB.cell? ⟨gx,7,none⟩=some (.int .i64 off):=by simp only [World.cell?,rx];rfl
 have x8:wB.cell? ⟨gx,8,none⟩=some (.int .i64 imm):=by simp only [World.cell?,rx];rfl
 have ei:wrap64 ((i:Int)+1)=(i:Int)+1:=IntWalk.wrap64_in _ (by omega)
 go_wp2_with fail
 clear d79 x0 x1 x2 x3 x4 x5 x6 x7 x8 B
 refine go_regz (fun fl u w=>Below wB.heap.size wB w) [] [] [some (.pointer (some ⟨g,0,none⟩)),some (.pointer (some ⟨g,0,none⟩)),some (.pointer (some ⟨g,79,none⟩)),some (.int .i64 (i:Int)),some (.agg #[.int .i8 4,.int .i8 op,.int .i8 width,.int .i8 size,.bool byReg,.int .i8 dst,.int .i8 src,.int .i64 off,.int .i64 imm]),some (.tuple #[.int .i64 tt,.bool jj]),some (.tuple #[.int .i64 tt,.bool jj]),some (.int .i64 tt),some (.bool jj),some (.int .i64 tt)] mo (fun fl fl' u u' w hK hD h=>h) rfl rfl (by kernel_rfl) (fun fl w1 hfl b _=>b) (
  zc (@fun fl ax wx cx=>cx.v (ex_mv rfl (cx.rq 0 rfl)) rfl rfl) <|
  zc (@fun fl ax wx cx=>cx.v (ex_nc rfl (cx.u 0 rfl)) rfl rfl) <|
  zc (@fun fl ax wx cx=>cx.v (ex_fa rfl (cx.u 0 rfl) (faQL6S65_3_0 _ _)) rfl rfl) <|
  zc (@fun fl ax wx cx=>cx.v (ex_ld rfl (cx.u 0 rfl) (brow cx.S hin2) c79 Tryz.isAgg3) rfl rfl) <|
  zc (@fun fl ax wx cx=>cx.v (exec_loadR 52 _ rfl gx 0 (cx.rq 4 rfl) (brow cx.S rx) [.int .i8 4,.int .i8 op,.int .i8 width,.int .i8 size,.bool byReg,.int .i8 dst,.int .i8 src,.int .i64 off,.int .i64 imm] rfl _ Tryz.underlying52 rfl (by kernel_rfl)) rfl rfl) <|
  zc (@fun fl ax wx cx=>cx.ct rfl rfl (args2 (cx.u 0 rfl) (cx.u 1 rfl)) Tryz.func42 (by decide +kernel) rfl rfl ((TG.out wx).mono (by
    rintro e w' ⟨rfl,b9⟩
    exact ⟨_,rfl,rfl,cx.S.trans (b9.mono cx.S.size)⟩))) <|
  zc (@fun fl ax wx cx=>cx.v (ex_mv rfl (cx.u 0 rfl)) rfl rfl) <|
  zc (@fun fl ax wx cx=>cx.v (ex_ext (x:=.tmp 170) rfl (cx.u 0 rfl) rfl) rfl rfl) <|
  zc (@fun fl ax wx cx=>cx.v (ex_ext (x:=.tmp 170) rfl (cx.u 0 rfl) rfl) rfl rfl) <|
  zc (@fun fl ax wx cx=>cx.v (ex_as rfl (cx.u 0 rfl)) rfl rfl) <|
  zn) ?_
 intro aq3 wq3 fq3
 obtain ⟨flq3,hfq3,hsq3⟩:=fq3.s
 have gq3_5:aq3.tmps.getD 5 undef=.int .i64 tt:=fq3.v 9 rfl rfl rfl
 have B9:=Lib.hid (BB.out.trans (hsq3.mono BB.out.size))
 have hin3:=brow hsq3 hin2
 clear hsq3 hfq3 flq3
 rw [fq3.frame rfl rfl]
 clear fq3
 rw [show outs _ (fun d=>aq3.tmps.getD d undef)=[(171,aq3.tmps.getD 171 undef),(172,aq3.tmps.getD 172 undef),(173,aq3.tmps.getD 173 undef),(174,aq3.tmps.getD 174 undef),(175,aq3.tmps.getD 175 undef),(176,aq3.tmps.getD 176 undef),(170,aq3.tmps.getD 170 undef),(177,aq3.tmps.getD 177 undef),(178,aq3.tmps.getD 178 undef),(5,aq3.tmps.getD 5 undef)] by kernel_rfl,gq3_5]
 simp only [putAll,List.setIfInBounds_toArray,List.set_cons_zero,List.set_cons_succ,Exit.then]
 generalize aq3.tmps.getD 171 undef=yq3_171
 generalize aq3.tmps.getD 172 undef=yq3_172
 generalize aq3.tmps.getD 173 undef=yq3_173
 generalize aq3.tmps.getD 174 undef=yq3_174
 generalize aq3.tmps.getD 175 undef=yq3_175
 generalize aq3.tmps.getD 176 undef=yq3_176
 generalize aq3.tmps.getD 170 undef=yq3_170
 generalize aq3.tmps.getD 177 undef=yq3_177
 generalize aq3.tmps.getD 178 undef=yq3_178
 clear gq3_5 aq3
 have HG3:=Lib.hid (show s.in_ wq3 g from hin3)
 clear hin3
 have f79:=Md.unfrozen HG3.out 79
 have e79:=Md.c79 HG3.out
 rw [show s.at_=(i:Int) by rw [HS.out];exact I2.out] at e79
 go_wp2_with fail
 go_ret2
 have TT:Trn [g] W (wq3.setCell ⟨g,79,none⟩ (.int .i64 tt)):=(Trn.of_below B9.out).trans (But.trn (But.set wq3 g 79 _))
 have IN:=Md.at_in HG3.out tt
 rw [HS.out] at IN
 have RR:=R.turnG (ctx:=ctx) (av:=av) (tv:=tv) (D':={ D with at_:=Ins.targetI D.at_ (Ins.In.mk 4 op width size byReg dst src off imm) }) (by rw [← HS.out];exact HI0.out) hA hT hn (by rw [I2.out,← htt.out];exact IN) TT rfl rfl rfl R.words
 exact ⟨rfl,RR.1,RR.2⟩
set_option maxHeartbeats 16000000 in
theorem r6_step_6 (E:Env)(F:Fine E)(D:Pl)(H:Runs E D)(g r β:Nat)(W:World)(R:R6 E g r β D W)(op width:Int)(size:Int)(byReg:Bool)(off imm:Int)(dst src:Int)(d0:0≤dst)(d1:dst<11)(s0:0≤src)(s1:src<11)(hx:E.x D.ix=(Ins.In.mk 6 op width size byReg dst src off imm))(hc:(andM D.set (readsM (E.x D.ix)) == readsM (E.x D.ix))=true):
  Calls Tryz.prog 20 #[.pointer (some ⟨g,0,none⟩)] W fun e w'=>e=.returned (.tuple #[.int .i8 1,.bool false])∧R6 E g r β D w'∧TurnT τ6 β W w':=by
 have mo:Tryz.prog.follows .mixedOrders=true:=by kernel_rfl
 obtain ⟨i1,i2⟩:=H.ix
 obtain ⟨i,hi⟩:∃ i,i=D.ix:=⟨_,rfl⟩
 rw [← hi] at hx i1 i2 hc
 have hil:i<E.pl:=i1
 obtain ⟨ctx,av,tv,hin,hA,hT,hn⟩:=R.st
 have p2:W.rangeAt E.pa (E.po+i * 9) (Ins.In.mk 6 op width size byReg dst src off imm).cells.toList:=by have:=R.pr.2 i hil;rwa [hx] at this
 have hpl:(i:Int)<64:=by have:=F.len.2;omega
 obtain ⟨s,hs⟩:∃ s,s=md6 E r D ctx av tv:=⟨_,rfl⟩
 rw [← hs] at hin
 have hin0:W.heap[g]?=some (.cells s.cells 65 (0,0)):=hin
 have c1:s.cells[1]?=some (.slice (some ⟨E.pa,E.po,none⟩) E.pl E.pc):=by rw [hs];exact (md6 E r D ctx av tv).get 1 (by decide)
 have c2:s.cells[2]?=some (.pointer (some ⟨r,0,none⟩)):=by rw [hs];exact (md6 E r D ctx av tv).get 2 (by decide)
 have c14:s.cells[14]?=some (.int .i64 D.set):=by rw [hs];exact (md6 E r D ctx av tv).get 14 (by decide)
 have c79:s.cells[79]?=some (.int .i64 (i:Int)):=by rw [← i2,hs];exact (md6 E r D ctx av tv).get 79 (by decide)
 have I2:=Lib.hid i2
 have HS:=Lib.hid hs
 clear i2 hi hs
 have creg:∀ k,k<11→s.cells[3+k]?=some (.int .u64 (D.r k)):=fun k hk=>by rw [s.get _ (by omega),HS.out];unfold Md.cell;rw [if_neg (by omega),if_neg (by omega),if_neg (by omega),if_pos (by omega),show 3+k - 3=k by omega];rfl
 obtain ⟨m0,hm0⟩:∃ m0,m0=readsM (Ins.In.mk 6 op width size byReg dst src off imm):=⟨_,rfl⟩
 have hz:=rd_test (x:=(Ins.In.mk 6 op width size byReg dst src off imm)) d0 d1 s0 s1 (by rw [← hx];exact hc)
 rw [← hm0] at hz
 have RD:Hid (∀ w,Calls Tryz.prog 44 #[.agg #[.int .i8 6,.int .i8 op,.int .i8 width,.int .i8 size,.bool byReg,.int .i8 dst,.int .i8 src,.int .i64 off,.int .i64 imm]] w fun e w'=>e=.returned (.int .i64 m0)∧Below w.heap.size w w'):=Lib.hid (fun w=>by rw [hm0];exact r6_reads (Ins.In.mk 6 op width size byReg dst src off imm) w (show (0:Int)≤6 by decide) (show (6:Int)≤6 by decide) d0 d1 s0 s1)
 clear hm0 hc
 go_enter Tryz.func20,Tryz.ntmps20
 go_wp2_with fail
 refine go_regz (SB 11 12 4 W #[.int .i8 0,.int .i8 0,.int .i8 0,.int .i8 0,.bool false,.int .i8 0,.int .i8 0,.int .i64 0,.int .i64 0] (Ins.In.mk 6 op width size byReg dst src off imm).cells 52) [11,12] [4] [some (.pointer (some ⟨g,0,none⟩)),some (.pointer (some ⟨g,0,none⟩)),some (.pointer (some ⟨g,0,none⟩)),some (.pointer (some ⟨g,1,none⟩)),some (.slice (some ⟨E.pa,E.po,none⟩) E.pl E.pc),some (.pointer (some ⟨g,0,none⟩)),some (.pointer (some ⟨g,0,none⟩)),some (.pointer (some ⟨g,79,none⟩)),some (.int .i64 (i:Int)),some (.pointer (some ⟨E.pa,E.po+i * 9,none⟩)),some (.agg (Ins.In.mk 6 op width size byReg dst src off imm).cells),none,none] mo SB.loc rfl rfl (by kernel_rfl) (fun fl w1 hfl b _=>SB.start b (hfl 11 (by decide))) (
  zc (@fun fl ax wx cx=>cx.v (ex_mv rfl (cx.rq 0 rfl)) rfl rfl) <|
  zc (@fun fl ax wx cx=>cx.v (ex_nc rfl (cx.u 0 rfl)) rfl rfl) <|
  zc (@fun fl ax wx cx=>cx.v (ex_fa rfl (cx.u 0 rfl) (faQL6S65_0_0 _ _)) rfl rfl) <|
  zc (@fun fl ax wx cx=>cx.v (ex_fa rfl (cx.u 0 rfl) (faQL6S24_1_0 _ _)) rfl rfl) <|
  zc (@fun fl ax wx cx=>cx.v (ex_ld rfl (cx.u 0 rfl) (brow cx.S.1 hin0) c1 Tryz.isAgg22) rfl rfl) <|
  zc (@fun fl ax wx cx=>cx.v (ex_mv rfl (cx.rq 0 rfl)) rfl rfl) <|
  zc (@fun fl ax wx cx=>cx.v (ex_nc rfl (cx.u 0 rfl)) rfl rfl) <|
  zc (@fun fl ax wx cx=>cx.v (ex_fa rfl (cx.u 0 rfl) (faQL6S65_3_0 _ _)) rfl rfl) <|
  zc (@fun fl ax wx cx=>cx.v (ex_ld rfl (cx.u 0 rfl) (brow cx.S.1 hin0) c79 Tryz.isAgg3) rfl rfl) <|
  zc (@fun fl ax wx cx=>cx.v (ex_ixI rfl (cx.u 0 rfl) (cx.u 1 rfl) hil) rfl rfl) <|
  zc (@fun fl ax wx cx=>cx.v (ex_ldw6 rfl (cx.u 0 rfl) (load_mid6 (Ins.In.mk 6 op width size byReg dst src off imm) (Ins.rangeAt_below cx.S.1 p2))) rfl rfl) <|
  zc (@fun fl ax wx cx=>cx.vt rfl (by simp [execOp,Act.eval,go_sem]) rfl rfl trivial (SB.alloc cx.S (cx.later 12 (by kernel_rfl)) (by decide) (slot_new cx.sz rfl))) <|
  zc (@fun fl ax wx cx=>(by
    obtain ⟨gx,e1,e2,e3⟩:=cx.S.at_ (cx.did 0 rfl rfl) cx.fi
    exact cx.st rfl (exec_storeR 52 (.tmp 4) (.tmp 23) rfl gx (Ins.In.mk 6 op width size byReg dst src off imm).cells e1 (cx.u 1 rfl) e3 (by kernel_rfl) rfl (by simp [Ins.In.cells,Value.oneCell'])) rfl trivial (SB.store cx.S (cx.did 0 rfl rfl) (by decide) e1 (stored_setRow wx gx (Ins.In.mk 6 op width size byReg dst src off imm).cells _ _ e3)))) <|
  zn) ?_
 intro aq1 wq1 fq1
 obtain ⟨flq1,hfq1,hsq1⟩:=fq1.s
 obtain ⟨B1,gx,g4,lx,rx⟩:=SB.fin hsq1 (hfq1 11 (by decide)) (hfq1 12 (by decide))
 replace g4:aq1.tmps.getD 4 undef=.pointer (some ⟨gx,0,none⟩):=g4
 replace rx:wq1.heap[gx]?=some (.cells #[.int .i8 6,.int .i8 op,.int .i8 width,.int .i8 size,.bool byReg,.int .i8 dst,.int .i8 src,.int .i64 off,.int .i64 imm] 52 (0,0)):=rx
 have hin1:=brow B1 hin0
 clear hsq1 hfq1 flq1
 rw [fq1.frame rfl rfl]
 clear fq1
 rw [show outs _ (fun d=>aq1.tmps.getD d undef)=[(13,aq1.tmps.getD 13 undef),(14,aq1.tmps.getD 14 undef),(15,aq1.tmps.getD 15 undef),(16,aq1.tmps.getD 16 undef),(17,aq1.tmps.getD 17 undef),(18,aq1.tmps.getD 18 undef),(19,aq1.tmps.getD 19 undef),(20,aq1.tmps.getD 20 undef),(21,aq1.tmps.getD 21 undef),(22,aq1.tmps.getD 22 undef),(23,aq1.tmps.getD 23 undef),(4,aq1.tmps.getD 4 undef)] by kernel_rfl,g4]
 simp only [putAll,List.setIfInBounds_toArray,List.set_cons_zero,List.set_cons_succ,Exit.then]
 generalize aq1.tmps.getD 13 undef=yq1_13
 generalize aq1.tmps.getD 14 undef=yq1_14
 generalize aq1.tmps.getD 15 undef=yq1_15
 generalize aq1.tmps.getD 16 undef=yq1_16
 generalize aq1.tmps.getD 17 undef=yq1_17
 generalize aq1.tmps.getD 18 undef=yq1_18
 generalize aq1.tmps.getD 19 undef=yq1_19
 generalize aq1.tmps.getD 20 undef=yq1_20
 generalize aq1.tmps.getD 21 undef=yq1_21
 generalize aq1.tmps.getD 22 undef=yq1_22
 generalize aq1.tmps.getD 23 undef=yq1_23
 clear g4 aq1
 clear p2
 go_wp2_with fail
 refine go_regz (fun fl u w=>Below wq1.heap.size wq1 w) [] [] [some (.agg #[.int .i8 6,.int .i8 op,.int .i8 width,.int .i8 size,.bool byReg,.int .i8 dst,.int .i8 src,.int .i64 off,.int .i64 imm]),some (.int .i64 m0),some (.pointer (some ⟨g,0,none⟩)),some (.pointer (some ⟨g,0,none⟩)),some (.pointer (some ⟨g,3,none⟩)),some (.pointer (some ⟨g,14,none⟩)),some (.int .i64 D.set),some (.int .i64 (bits .andNot .i64 m0 D.set)),some (.bool (bits .andNot .i64 m0 D.set != 0))] mo (fun fl fl' u u' w hK hD h=>h) rfl rfl (by kernel_rfl) (fun fl w1 hfl b _=>b) (
  zc (@fun fl ax wx cx=>cx.v (exec_loadR 52 _ rfl gx 0 (cx.rq 4 rfl) (brow cx.S rx) [.int .i8 6,.int .i8 op,.int .i8 width,.int .i8 size,.bool byReg,.int .i8 dst,.int .i8 src,.int .i64 off,.int .i64 imm] rfl _ Tryz.underlying52 rfl (by kernel_rfl)) rfl rfl) <|
  zc (@fun fl ax wx cx=>cx.ct rfl rfl (args1 (cx.u 0 rfl)) Tryz.func44 (by decide +kernel) rfl rfl ((RD.out wx).mono (by
    rintro e w' ⟨rfl,b9⟩
    exact ⟨_,rfl,rfl,cx.S.trans (b9.mono cx.S.size)⟩))) <|
  zc (@fun fl ax wx cx=>cx.v (ex_mv rfl (cx.rq 0 rfl)) rfl rfl) <|
  zc (@fun fl ax wx cx=>cx.v (ex_nc rfl (cx.u 0 rfl)) rfl rfl) <|
  zc (@fun fl ax wx cx=>cx.v (ex_fa rfl (cx.u 0 rfl) (faQL6S65_2_0 _ _)) rfl rfl) <|
  zc (@fun fl ax wx cx=>cx.v (ex_fa rfl (cx.u 0 rfl) (faQL6S49_1_3 _ _)) rfl rfl) <|
  zc (@fun fl ax wx cx=>cx.v (ex_ld rfl (cx.u 0 rfl) (brow cx.S hin1) c14 Tryz.isAgg3) rfl rfl) <|
  zc (@fun fl ax wx cx=>cx.v (by simp [execOp,Act.eval,(show ax.tmps.getD 25 undef=.int .i64 m0 from (cx.u 0 rfl)),(show ax.tmps.getD 30 undef=.int .i64 D.set from (cx.u 1 rfl)),go_sem]) rfl rfl) <|
  zc (@fun fl ax wx cx=>cx.v (ex_ne (x:=.tmp 31) rfl (cx.u 0 rfl) rfl) rfl rfl) <|
  zn) ?_
 intro aq2 wq2 fq2
 obtain ⟨flq2,hfq2,hsq2⟩:=fq2.s
 have gq2_32:aq2.tmps.getD 32 undef=.bool (bits .andNot .i64 m0 D.set != 0):=fq2.v 8 rfl rfl rfl
 have B2:=hsq2
 have rx:=brow B2 rx
 have hin2:=brow B2 hin1
 have B:=B1.trans (B2.mono B1.size)
 clear hsq2 hfq2 flq2 B1 B2 hin1
 rw [fq2.frame rfl rfl]
 clear fq2
 rw [show outs _ (fun d=>aq2.tmps.getD d undef)=[(24,aq2.tmps.getD 24 undef),(25,aq2.tmps.getD 25 undef),(26,aq2.tmps.getD 26 undef),(27,aq2.tmps.getD 27 undef),(28,aq2.tmps.getD 28 undef),(29,aq2.tmps.getD 29 undef),(30,aq2.tmps.getD 30 undef),(31,aq2.tmps.getD 31 undef),(32,aq2.tmps.getD 32 undef)] by kernel_rfl,gq2_32]
 simp only [putAll,List.setIfInBounds_toArray,List.set_cons_zero,List.set_cons_succ,Exit.then]
 generalize aq2.tmps.getD 24 undef=yq2_24
 generalize aq2.tmps.getD 25 undef=yq2_25
 generalize aq2.tmps.getD 26 undef=yq2_26
 generalize aq2.tmps.getD 27 undef=yq2_27
 generalize aq2.tmps.getD 28 undef=yq2_28
 generalize aq2.tmps.getD 29 undef=yq2_29
 generalize aq2.tmps.getD 30 undef=yq2_30
 generalize aq2.tmps.getD 31 undef=yq2_31
 clear gq2_32 aq2
 simp only [hz]
 generalize wq2=wB at *
 have HG2:=Lib.hid hin2
 have RX:=Lib.hid rx
 have BB:=Lib.hid B
 have HI0:=Lib.hid hin
 clear hin hin0
 have d79:wB.cell? ⟨g,79,none⟩=some (.int .i64 (i:Int)):=by simp only [World.cell?,hin2];exact c79
 have x0:wB.cell? ⟨gx,0,none⟩=some (.int .i8 6):=by simp only [World.cell?,rx];rfl
 have x1:wB.cell? ⟨gx,1,none⟩=some (.int .i8 op):=by simp only [World.cell?,rx];rfl
 have x2:wB.cell? ⟨gx,2,none⟩=some (.int .i8 width):=by simp only [World.cell?,rx];rfl
 have x3:wB.cell? ⟨gx,3,none⟩=some (.int .i8 size):=by simp only [World.cell?,rx];rfl
 have x4:wB.cell? ⟨gx,4,none⟩=some (.bool byReg):=by simp only [World.cell?,rx];rfl
 have x5:wB.cell? ⟨gx,5,none⟩=some (.int .i8 dst):=by simp only [World.cell?,rx];rfl
 have x6:wB.cell? ⟨gx,6,none⟩=some (.int .i8 src):=by simp only [World.cell?,rx];rfl
 have x7:wB.cell? ⟨gx,7,none⟩=some (.int .i64 off):=by simp only [World.cell?,rx];rfl
 have x8:wB.cell? ⟨gx,8,none⟩=some (.int .i64 imm):=by simp only [World.cell?,rx];rfl
 have ei:wrap64 ((i:Int)+1)=(i:Int)+1:=IntWalk.wrap64_in _ (by omega)
 clear rx hin2 B
 go_wp2_with fail
 go_ret2
 exact ⟨rfl,(R.still BB.out).1,(R.still BB.out).2⟩
end Go.Proofs.YtigliofiojkhcaaGreat.Mdl
