import Derived.Test.YtigliofiojkhcaaGreatMEx
import Derived.Test.YtigliofiojkhcaaGreatMRn28
import Derived.Test.YtigliofiojkhcaaGreatMEa02
import Derived.Test.YtigliofiojkhcaaGreatMRn19
set_option linter.unusedVariables false
set_option linter.unusedSimpArgs false
set_option linter.unnecessarySimpa false
namespace Go.Proofs.YtigliofiojkhcaaGreat.Mdl
open Go.RowKit Go.Maps Ins Trc
set_option maxRecDepth 100000
theorem faQL6S452_1_0 (g:Nat)(w:World):(Instr.fieldAt 52 (.pointer (some ⟨g,0,none⟩)) 1).run Tryz.prog w=.ok (.pointer (some ⟨g,1,none⟩)) w:=by simp [go_sem]
theorem faQL6S452_2_0 (g:Nat)(w:World):(Instr.fieldAt 52 (.pointer (some ⟨g,0,none⟩)) 2).run Tryz.prog w=.ok (.pointer (some ⟨g,2,none⟩)) w:=by simp [go_sem]
theorem faQL6S452_5_0 (g:Nat)(w:World):(Instr.fieldAt 52 (.pointer (some ⟨g,0,none⟩)) 5).run Tryz.prog w=.ok (.pointer (some ⟨g,5,none⟩)) w:=by simp [go_sem]
theorem faQL6S465_2_0 (g:Nat)(w:World):(Instr.fieldAt 65 (.pointer (some ⟨g,0,none⟩)) 2).run Tryz.prog w=.ok (.pointer (some ⟨g,3,none⟩)) w:=by simp [go_sem]
theorem faQL6S449_0_3 (g:Nat)(w:World):(Instr.fieldAt 49 (.pointer (some ⟨g,3,none⟩)) 0).run Tryz.prog w=.ok (.pointer (some ⟨g,3,none⟩)) w:=by simp [go_sem]
theorem faQL6S465_3_0 (g:Nat)(w:World):(Instr.fieldAt 65 (.pointer (some ⟨g,0,none⟩)) 3).run Tryz.prog w=.ok (.pointer (some ⟨g,79,none⟩)) w:=by simp [go_sem]
theorem faQL6S465_0_0 (g:Nat)(w:World):(Instr.fieldAt 65 (.pointer (some ⟨g,0,none⟩)) 0).run Tryz.prog w=.ok (.pointer (some ⟨g,0,none⟩)) w:=by simp [go_sem]
theorem faQL6S424_1_0 (g:Nat)(w:World):(Instr.fieldAt 24 (.pointer (some ⟨g,0,none⟩)) 1).run Tryz.prog w=.ok (.pointer (some ⟨g,1,none⟩)) w:=by simp [go_sem]
theorem faQL6S449_1_3 (g:Nat)(w:World):(Instr.fieldAt 49 (.pointer (some ⟨g,3,none⟩)) 1).run Tryz.prog w=.ok (.pointer (some ⟨g,14,none⟩)) w:=by simp [go_sem]
set_option maxHeartbeats 16000000 in
theorem r6_step_5n (E:Env)(F:Fine E)(D:Pl)(H:Runs E D)(g r β:Nat)(W:World)(R:R6 E g r β D W)(op width:Int)(size:Int)(byReg:Bool)(off imm:Int)(dst src:Int)(d0:0≤dst)(d1:dst<11)(s0:0≤src)(s1:src<11)(hx:E.x D.ix=(Ins.In.mk 5 op width size byReg dst src off imm))(hc:(andM D.set (readsM (E.x D.ix)) == readsM (E.x D.ix))=true)(hnil:D.ans=[]):
  Calls Tryz.prog 20 #[.pointer (some ⟨g,0,none⟩)] W fun e w'=>e=.returned (.tuple #[.int .i8 2,.bool false])∧R6 E g r β D w'∧TurnT τ6 β W w':=by
 have mo:Tryz.prog.follows .mixedOrders=true:=by kernel_rfl
 obtain ⟨i1,i2⟩:=H.ix
 obtain ⟨i,hi⟩:∃ i,i=D.ix:=⟨_,rfl⟩
 rw [← hi] at hx i1 i2 hc
 have hil:i<E.pl:=i1
 obtain ⟨ctx,av,tv,hin,hA,hT,hn⟩:=R.st
 have p2:W.rangeAt E.pa (E.po+i * 9) (Ins.In.mk 5 op width size byReg dst src off imm).cells.toList:=by have:=R.pr.2 i hil;rwa [hx] at this
 have hpl:(i:Int)<64:=by have:=F.len.2;omega
 obtain ⟨s,hs⟩:∃ s,s=md6 E r D ctx av tv:=⟨_,rfl⟩
 rw [← hs] at hin
 have hin0:W.heap[g]?=some (.cells s.cells 65 (0,0)):=hin
 have c1:s.cells[1]?=some (.slice (some ⟨E.pa,E.po,none⟩) E.pl E.pc):=by rw [hs];exact (md6 E r D ctx av tv).get 1 (by decide)
 have c2:s.cells[2]?=some (.pointer (some ⟨r,0,none⟩)):=by rw [hs];exact (md6 E r D ctx av tv).get 2 (by decide)
 have c14:s.cells[14]?=some (.int .i64 D.set):=by rw [hs];exact (md6 E r D ctx av tv).get 14 (by decide)
 have c79:s.cells[79]?=some (.int .i64 (i:Int)):=by rw [← i2,hs];exact (md6 E r D ctx av tv).get 79 (by decide)
 have I2:=Lib.hid i2
 have HS:=Lib.hid hs
 clear i2 hi hs
 have creg:∀ k,k<11→s.cells[3+k]?=some (.int .u64 (D.r k)):=fun k hk=>by rw [s.get _ (by omega),HS.out];unfold Md.cell;rw [if_neg (by omega),if_neg (by omega),if_neg (by omega),if_pos (by omega),show 3+k - 3=k by omega];rfl
 obtain ⟨m0,hm0⟩:∃ m0,m0=readsM (Ins.In.mk 5 op width size byReg dst src off imm):=⟨_,rfl⟩
 have hz:=rd_test (x:=(Ins.In.mk 5 op width size byReg dst src off imm)) d0 d1 s0 s1 (by rw [← hx];exact hc)
 rw [← hm0] at hz
 have RD:Hid (∀ w,Calls Tryz.prog 44 #[.agg #[.int .i8 5,.int .i8 op,.int .i8 width,.int .i8 size,.bool byReg,.int .i8 dst,.int .i8 src,.int .i64 off,.int .i64 imm]] w fun e w'=>e=.returned (.int .i64 m0)∧Below w.heap.size w w'):=Lib.hid (fun w=>by rw [hm0];exact r6_reads (Ins.In.mk 5 op width size byReg dst src off imm) w (show (0:Int)≤5 by decide) (show (5:Int)≤6 by decide) d0 d1 s0 s1)
 clear hm0 hc
 go_enter Tryz.func20,Tryz.ntmps20
 go_wp2_with fail
 refine go_regz (SB 11 12 4 W #[.int .i8 0,.int .i8 0,.int .i8 0,.int .i8 0,.bool false,.int .i8 0,.int .i8 0,.int .i64 0,.int .i64 0] (Ins.In.mk 5 op width size byReg dst src off imm).cells 52) [11,12] [4] [some (.pointer (some ⟨g,0,none⟩)),some (.pointer (some ⟨g,0,none⟩)),some (.pointer (some ⟨g,0,none⟩)),some (.pointer (some ⟨g,1,none⟩)),some (.slice (some ⟨E.pa,E.po,none⟩) E.pl E.pc),some (.pointer (some ⟨g,0,none⟩)),some (.pointer (some ⟨g,0,none⟩)),some (.pointer (some ⟨g,79,none⟩)),some (.int .i64 (i:Int)),some (.pointer (some ⟨E.pa,E.po+i * 9,none⟩)),some (.agg (Ins.In.mk 5 op width size byReg dst src off imm).cells),none,none] mo SB.loc rfl rfl (by kernel_rfl) (fun fl w1 hfl b _=>SB.start b (hfl 11 (by decide))) (
  zc (@fun fl ax wx cx=>cx.v (ex_mv rfl (cx.rq 0 rfl)) rfl rfl) <|
  zc (@fun fl ax wx cx=>cx.v (ex_nc rfl (cx.u 0 rfl)) rfl rfl) <|
  zc (@fun fl ax wx cx=>cx.v (ex_fa rfl (cx.u 0 rfl) (faQL6S465_0_0 _ _)) rfl rfl) <|
  zc (@fun fl ax wx cx=>cx.v (ex_fa rfl (cx.u 0 rfl) (faQL6S424_1_0 _ _)) rfl rfl) <|
  zc (@fun fl ax wx cx=>cx.v (ex_ld rfl (cx.u 0 rfl) (brow cx.S.1 hin0) c1 Tryz.isAgg22) rfl rfl) <|
  zc (@fun fl ax wx cx=>cx.v (ex_mv rfl (cx.rq 0 rfl)) rfl rfl) <|
  zc (@fun fl ax wx cx=>cx.v (ex_nc rfl (cx.u 0 rfl)) rfl rfl) <|
  zc (@fun fl ax wx cx=>cx.v (ex_fa rfl (cx.u 0 rfl) (faQL6S465_3_0 _ _)) rfl rfl) <|
  zc (@fun fl ax wx cx=>cx.v (ex_ld rfl (cx.u 0 rfl) (brow cx.S.1 hin0) c79 Tryz.isAgg3) rfl rfl) <|
  zc (@fun fl ax wx cx=>cx.v (ex_ixI rfl (cx.u 0 rfl) (cx.u 1 rfl) hil) rfl rfl) <|
  zc (@fun fl ax wx cx=>cx.v (ex_ldw6 rfl (cx.u 0 rfl) (load_mid6 (Ins.In.mk 5 op width size byReg dst src off imm) (Ins.rangeAt_below cx.S.1 p2))) rfl rfl) <|
  zc (@fun fl ax wx cx=>cx.vt rfl (by simp [execOp,Act.eval,go_sem]) rfl rfl trivial (SB.alloc cx.S (cx.later 12 (by kernel_rfl)) (by decide) (slot_new cx.sz rfl))) <|
  zc (@fun fl ax wx cx=>(by
    obtain ⟨gx,e1,e2,e3⟩:=cx.S.at_ (cx.did 0 rfl rfl) cx.fi
    exact cx.st rfl (exec_storeR 52 (.tmp 4) (.tmp 23) rfl gx (Ins.In.mk 5 op width size byReg dst src off imm).cells e1 (cx.u 1 rfl) e3 (by kernel_rfl) rfl (by simp [Ins.In.cells,Value.oneCell'])) rfl trivial (SB.store cx.S (cx.did 0 rfl rfl) (by decide) e1 (stored_setRow wx gx (Ins.In.mk 5 op width size byReg dst src off imm).cells _ _ e3)))) <|
  zn) ?_
 intro aq1 wq1 fq1
 obtain ⟨flq1,hfq1,hsq1⟩:=fq1.s
 obtain ⟨B1,gx,g4,lx,rx⟩:=SB.fin hsq1 (hfq1 11 (by decide)) (hfq1 12 (by decide))
 replace g4:aq1.tmps.getD 4 undef=.pointer (some ⟨gx,0,none⟩):=g4
 replace rx:wq1.heap[gx]?=some (.cells #[.int .i8 5,.int .i8 op,.int .i8 width,.int .i8 size,.bool byReg,.int .i8 dst,.int .i8 src,.int .i64 off,.int .i64 imm] 52 (0,0)):=rx
 have hin1:=brow B1 hin0
 clear hsq1 hfq1 flq1
 rw [fq1.frame rfl rfl]
 clear fq1
 rw [show outs _ (fun d=>aq1.tmps.getD d undef)=[(13,aq1.tmps.getD 13 undef),(14,aq1.tmps.getD 14 undef),(15,aq1.tmps.getD 15 undef),(16,aq1.tmps.getD 16 undef),(17,aq1.tmps.getD 17 undef),(18,aq1.tmps.getD 18 undef),(19,aq1.tmps.getD 19 undef),(20,aq1.tmps.getD 20 undef),(21,aq1.tmps.getD 21 undef),(22,aq1.tmps.getD 22 undef),(23,aq1.tmps.getD 23 undef),(4,aq1.tmps.getD 4 undef)] by kernel_rfl,g4]
 simp only [putAll,List.setIfInBounds_toArray,List.set_cons_zero,List.set_cons_succ,Exit.then]
 generalize aq1.tmps.getD 13 undef=yq1_13
 generalize aq1.tmps.getD 14 undef=yq1_14
 generalize aq1.tmps.getD 15 undef=yq1_15
 generalize aq1.tmps.getD 16 undef=yq1_16
 generalize aq1.tmps.getD 17 undef=yq1_17
 generalize aq1.tmps.getD 18 undef=yq1_18
 generalize aq1.tmps.getD 19 undef=yq1_19
 generalize aq1.tmps.getD 20 undef=yq1_20
 generalize aq1.tmps.getD 21 undef=yq1_21
 generalize aq1.tmps.getD 22 undef=yq1_22
 generalize aq1.tmps.getD 23 undef=yq1_23
 clear g4 aq1
 clear p2
 go_wp2_with fail
 refine go_regz (fun fl u w=>Below wq1.heap.size wq1 w) [] [] [some (.agg #[.int .i8 5,.int .i8 op,.int .i8 width,.int .i8 size,.bool byReg,.int .i8 dst,.int .i8 src,.int .i64 off,.int .i64 imm]),some (.int .i64 m0),some (.pointer (some ⟨g,0,none⟩)),some (.pointer (some ⟨g,0,none⟩)),some (.pointer (some ⟨g,3,none⟩)),some (.pointer (some ⟨g,14,none⟩)),some (.int .i64 D.set),some (.int .i64 (bits .andNot .i64 m0 D.set)),some (.bool (bits .andNot .i64 m0 D.set != 0))] mo (fun fl fl' u u' w hK hD h=>h) rfl rfl (by kernel_rfl) (fun fl w1 hfl b _=>b) (
  zc (@fun fl ax wx cx=>cx.v (exec_loadR 52 _ rfl gx 0 (cx.rq 4 rfl) (brow cx.S rx) [.int .i8 5,.int .i8 op,.int .i8 width,.int .i8 size,.bool byReg,.int .i8 dst,.int .i8 src,.int .i64 off,.int .i64 imm] rfl _ Tryz.underlying52 rfl (by kernel_rfl)) rfl rfl) <|
  zc (@fun fl ax wx cx=>cx.ct rfl rfl (args1 (cx.u 0 rfl)) Tryz.func44 (by decide +kernel) rfl rfl ((RD.out wx).mono (by
    rintro e w' ⟨rfl,b9⟩
    exact ⟨_,rfl,rfl,cx.S.trans (b9.mono cx.S.size)⟩))) <|
  zc (@fun fl ax wx cx=>cx.v (ex_mv rfl (cx.rq 0 rfl)) rfl rfl) <|
  zc (@fun fl ax wx cx=>cx.v (ex_nc rfl (cx.u 0 rfl)) rfl rfl) <|
  zc (@fun fl ax wx cx=>cx.v (ex_fa rfl (cx.u 0 rfl) (faQL6S465_2_0 _ _)) rfl rfl) <|
  zc (@fun fl ax wx cx=>cx.v (ex_fa rfl (cx.u 0 rfl) (faQL6S449_1_3 _ _)) rfl rfl) <|
  zc (@fun fl ax wx cx=>cx.v (ex_ld rfl (cx.u 0 rfl) (brow cx.S hin1) c14 Tryz.isAgg3) rfl rfl) <|
  zc (@fun fl ax wx cx=>cx.v (by simp [execOp,Act.eval,(show ax.tmps.getD 25 undef=.int .i64 m0 from (cx.u 0 rfl)),(show ax.tmps.getD 30 undef=.int .i64 D.set from (cx.u 1 rfl)),go_sem]) rfl rfl) <|
  zc (@fun fl ax wx cx=>cx.v (ex_ne (x:=.tmp 31) rfl (cx.u 0 rfl) rfl) rfl rfl) <|
  zn) ?_
 intro aq2 wq2 fq2
 obtain ⟨flq2,hfq2,hsq2⟩:=fq2.s
 have gq2_32:aq2.tmps.getD 32 undef=.bool (bits .andNot .i64 m0 D.set != 0):=fq2.v 8 rfl rfl rfl
 have B2:=hsq2
 have rx:=brow B2 rx
 have hin2:=brow B2 hin1
 have B:=B1.trans (B2.mono B1.size)
 clear hsq2 hfq2 flq2 B1 B2 hin1
 rw [fq2.frame rfl rfl]
 clear fq2
 rw [show outs _ (fun d=>aq2.tmps.getD d undef)=[(24,aq2.tmps.getD 24 undef),(25,aq2.tmps.getD 25 undef),(26,aq2.tmps.getD 26 undef),(27,aq2.tmps.getD 27 undef),(28,aq2.tmps.getD 28 undef),(29,aq2.tmps.getD 29 undef),(30,aq2.tmps.getD 30 undef),(31,aq2.tmps.getD 31 undef),(32,aq2.tmps.getD 32 undef)] by kernel_rfl,gq2_32]
 simp only [putAll,List.setIfInBounds_toArray,List.set_cons_zero,List.set_cons_succ,Exit.then]
 generalize aq2.tmps.getD 24 undef=yq2_24
 generalize aq2.tmps.getD 25 undef=yq2_25
 generalize aq2.tmps.getD 26 undef=yq2_26
 generalize aq2.tmps.getD 27 undef=yq2_27
 generalize aq2.tmps.getD 28 undef=yq2_28
 generalize aq2.tmps.getD 29 undef=yq2_29
 generalize aq2.tmps.getD 30 undef=yq2_30
 generalize aq2.tmps.getD 31 undef=yq2_31
 clear gq2_32 aq2
 simp only [hz]
 generalize wq2=wB at *
 have HG2:=Lib.hid hin2
 have RX:=Lib.hid rx
 have BB:=Lib.hid B
 have HI0:=Lib.hid hin
 clear hin hin0
 have d79:wB.cell? ⟨g,79,none⟩=some (.int .i64 (i:Int)):=by simp only [World.cell?,hin2];exact c79
 have x0:wB.cell? ⟨gx,0,none⟩=some (.int .i8 5):=by simp only [World.cell?,rx];rfl
 have x1:wB.cell? ⟨gx,1,none⟩=some (.int .i8 op):=by simp only [World.cell?,rx];rfl
 have x2:wB.cell? ⟨gx,2,none⟩=some (.int .i8 width):=by simp only [World.cell?,rx];rfl
 have x3:wB.cell? ⟨gx,3,none⟩=some (.int .i8 size):=by simp only [World.cell?,rx];rfl
 have x4:wB.cell? ⟨gx,4,none⟩=some (.bool byReg):=by simp only [World.cell?,rx];rfl
 have x5:wB.cell? ⟨gx,5,none⟩=some (.int .i8 dst):=by simp only [World.cell?,rx];rfl
 have x6:wB.cell? ⟨gx,6,none⟩=some (.int .i8 src):=by simp only [World.cell?,rx];rfl
 have x7:wB.cell? ⟨gx,7,none⟩=some (.int .i64 off):=by simp only [World.cell?,rx];rfl
 have x8:wB.cell? ⟨gx,8,none⟩=some (.int .i64 imm):=by simp only [World.cell?,rx];rfl
 have ei:wrap64 ((i:Int)+1)=(i:Int)+1:=IntWalk.wrap64_in _ (by omega)
 clear rx hin2
 obtain ⟨z0,aa,ca,q1,q2,q3⟩:=hA
 rw [hnil] at q1
 go_wp2_with fail
 refine (r6_call_no s g ca aa imm wB HG2.out (by rw [HS.out];exact q1)).mono ?_
 rintro e w5 ⟨rfl,rfl⟩
 go_wp2_with fail
 go_ret2
 have RR:=R.still BB.out
 exact ⟨rfl,RR.1,RR.2⟩
set_option maxHeartbeats 16000000 in
theorem r6_step_5y (E:Env)(F:Fine E)(D:Pl)(H:Runs E D)(g r β:Nat)(W:World)(R:R6 E g r β D W)(op width:Int)(size:Int)(byReg:Bool)(off imm:Int)(dst src:Int)(d0:0≤dst)(d1:dst<11)(s0:0≤src)(s1:src<11)(hx:E.x D.ix=(Ins.In.mk 5 op width size byReg dst src off imm))(hc:(andM D.set (readsM (E.x D.ix)) == readsM (E.x D.ix))=true)(a0:Int)(l0:List Int)(hcons:D.ans=a0 :: l0)(hfew:D.evs.length≤10000):
  Calls Tryz.prog 20 #[.pointer (some ⟨g,0,none⟩)] W fun e w'=>e=.returned (.tuple #[.int .i8 0,.bool true])∧R6 E g r β { D.called imm a0 l0 with at_:=D.at_+1 } w'∧TurnT τ6 β W w':=by
 have mo:Tryz.prog.follows .mixedOrders=true:=by kernel_rfl
 obtain ⟨i1,i2⟩:=H.ix
 obtain ⟨i,hi⟩:∃ i,i=D.ix:=⟨_,rfl⟩
 rw [← hi] at hx i1 i2 hc
 have hil:i<E.pl:=i1
 obtain ⟨ctx,av,tv,hin,hA,hT,hn⟩:=R.st
 have p2:W.rangeAt E.pa (E.po+i * 9) (Ins.In.mk 5 op width size byReg dst src off imm).cells.toList:=by have:=R.pr.2 i hil;rwa [hx] at this
 have hpl:(i:Int)<64:=by have:=F.len.2;omega
 obtain ⟨s,hs⟩:∃ s,s=md6 E r D ctx av tv:=⟨_,rfl⟩
 rw [← hs] at hin
 have hin0:W.heap[g]?=some (.cells s.cells 65 (0,0)):=hin
 have c1:s.cells[1]?=some (.slice (some ⟨E.pa,E.po,none⟩) E.pl E.pc):=by rw [hs];exact (md6 E r D ctx av tv).get 1 (by decide)
 have c2:s.cells[2]?=some (.pointer (some ⟨r,0,none⟩)):=by rw [hs];exact (md6 E r D ctx av tv).get 2 (by decide)
 have c14:s.cells[14]?=some (.int .i64 D.set):=by rw [hs];exact (md6 E r D ctx av tv).get 14 (by decide)
 have c79:s.cells[79]?=some (.int .i64 (i:Int)):=by rw [← i2,hs];exact (md6 E r D ctx av tv).get 79 (by decide)
 have I2:=Lib.hid i2
 have HS:=Lib.hid hs
 clear i2 hi hs
 have creg:∀ k,k<11→s.cells[3+k]?=some (.int .u64 (D.r k)):=fun k hk=>by rw [s.get _ (by omega),HS.out];unfold Md.cell;rw [if_neg (by omega),if_neg (by omega),if_neg (by omega),if_pos (by omega),show 3+k - 3=k by omega];rfl
 obtain ⟨m0,hm0⟩:∃ m0,m0=readsM (Ins.In.mk 5 op width size byReg dst src off imm):=⟨_,rfl⟩
 have hz:=rd_test (x:=(Ins.In.mk 5 op width size byReg dst src off imm)) d0 d1 s0 s1 (by rw [← hx];exact hc)
 rw [← hm0] at hz
 have RD:Hid (∀ w,Calls Tryz.prog 44 #[.agg #[.int .i8 5,.int .i8 op,.int .i8 width,.int .i8 size,.bool byReg,.int .i8 dst,.int .i8 src,.int .i64 off,.int .i64 imm]] w fun e w'=>e=.returned (.int .i64 m0)∧Below w.heap.size w w'):=Lib.hid (fun w=>by rw [hm0];exact r6_reads (Ins.In.mk 5 op width size byReg dst src off imm) w (show (0:Int)≤5 by decide) (show (5:Int)≤6 by decide) d0 d1 s0 s1)
 clear hm0 hc
 go_enter Tryz.func20,Tryz.ntmps20
 go_wp2_with fail
 refine go_regz (SB 11 12 4 W #[.int .i8 0,.int .i8 0,.int .i8 0,.int .i8 0,.bool false,.int .i8 0,.int .i8 0,.int .i64 0,.int .i64 0] (Ins.In.mk 5 op width size byReg dst src off imm).cells 52) [11,12] [4] [some (.pointer (some ⟨g,0,none⟩)),some (.pointer (some ⟨g,0,none⟩)),some (.pointer (some ⟨g,0,none⟩)),some (.pointer (some ⟨g,1,none⟩)),some (.slice (some ⟨E.pa,E.po,none⟩) E.pl E.pc),some (.pointer (some ⟨g,0,none⟩)),some (.pointer (some ⟨g,0,none⟩)),some (.pointer (some ⟨g,79,none⟩)),some (.int .i64 (i:Int)),some (.pointer (some ⟨E.pa,E.po+i * 9,none⟩)),some (.agg (Ins.In.mk 5 op width size byReg dst src off imm).cells),none,none] mo SB.loc rfl rfl (by kernel_rfl) (fun fl w1 hfl b _=>SB.start b (hfl 11 (by decide))) (
  zc (@fun fl ax wx cx=>cx.v (ex_mv rfl (cx.rq 0 rfl)) rfl rfl) <|
  zc (@fun fl ax wx cx=>cx.v (ex_nc rfl (cx.u 0 rfl)) rfl rfl) <|
  zc (@fun fl ax wx cx=>cx.v (ex_fa rfl (cx.u 0 rfl) (faQL6S465_0_0 _ _)) rfl rfl) <|
  zc (@fun fl ax wx cx=>cx.v (ex_fa rfl (cx.u 0 rfl) (faQL6S424_1_0 _ _)) rfl rfl) <|
  zc (@fun fl ax wx cx=>cx.v (ex_ld rfl (cx.u 0 rfl) (brow cx.S.1 hin0) c1 Tryz.isAgg22) rfl rfl) <|
  zc (@fun fl ax wx cx=>cx.v (ex_mv rfl (cx.rq 0 rfl)) rfl rfl) <|
  zc (@fun fl ax wx cx=>cx.v (ex_nc rfl (cx.u 0 rfl)) rfl rfl) <|
  zc (@fun fl ax wx cx=>cx.v (ex_fa rfl (cx.u 0 rfl) (faQL6S465_3_0 _ _)) rfl rfl) <|
  zc (@fun fl ax wx cx=>cx.v (ex_ld rfl (cx.u 0 rfl) (brow cx.S.1 hin0) c79 Tryz.isAgg3) rfl rfl) <|
  zc (@fun fl ax wx cx=>cx.v (ex_ixI rfl (cx.u 0 rfl) (cx.u 1 rfl) hil) rfl rfl) <|
  zc (@fun fl ax wx cx=>cx.v (ex_ldw6 rfl (cx.u 0 rfl) (load_mid6 (Ins.In.mk 5 op width size byReg dst src off imm) (Ins.rangeAt_below cx.S.1 p2))) rfl rfl) <|
  zc (@fun fl ax wx cx=>cx.vt rfl (by simp [execOp,Act.eval,go_sem]) rfl rfl trivial (SB.alloc cx.S (cx.later 12 (by kernel_rfl)) (by decide) (slot_new cx.sz rfl))) <|
  zc (@fun fl ax wx cx=>(by
    obtain ⟨gx,e1,e2,e3⟩:=cx.S.at_ (cx.did 0 rfl rfl) cx.fi
    exact cx.st rfl (exec_storeR 52 (.tmp 4) (.tmp 23) rfl gx (Ins.In.mk 5 op width size byReg dst src off imm).cells e1 (cx.u 1 rfl) e3 (by kernel_rfl) rfl (by simp [Ins.In.cells,Value.oneCell'])) rfl trivial (SB.store cx.S (cx.did 0 rfl rfl) (by decide) e1 (stored_setRow wx gx (Ins.In.mk 5 op width size byReg dst src off imm).cells _ _ e3)))) <|
  zn) ?_
 intro aq1 wq1 fq1
 obtain ⟨flq1,hfq1,hsq1⟩:=fq1.s
 obtain ⟨B1,gx,g4,lx,rx⟩:=SB.fin hsq1 (hfq1 11 (by decide)) (hfq1 12 (by decide))
 replace g4:aq1.tmps.getD 4 undef=.pointer (some ⟨gx,0,none⟩):=g4
 replace rx:wq1.heap[gx]?=some (.cells #[.int .i8 5,.int .i8 op,.int .i8 width,.int .i8 size,.bool byReg,.int .i8 dst,.int .i8 src,.int .i64 off,.int .i64 imm] 52 (0,0)):=rx
 have hin1:=brow B1 hin0
 clear hsq1 hfq1 flq1
 rw [fq1.frame rfl rfl]
 clear fq1
 rw [show outs _ (fun d=>aq1.tmps.getD d undef)=[(13,aq1.tmps.getD 13 undef),(14,aq1.tmps.getD 14 undef),(15,aq1.tmps.getD 15 undef),(16,aq1.tmps.getD 16 undef),(17,aq1.tmps.getD 17 undef),(18,aq1.tmps.getD 18 undef),(19,aq1.tmps.getD 19 undef),(20,aq1.tmps.getD 20 undef),(21,aq1.tmps.getD 21 undef),(22,aq1.tmps.getD 22 undef),(23,aq1.tmps.getD 23 undef),(4,aq1.tmps.getD 4 undef)] by kernel_rfl,g4]
 simp only [putAll,List.setIfInBounds_toArray,List.set_cons_zero,List.set_cons_succ,Exit.then]
 generalize aq1.tmps.getD 13 undef=yq1_13
 generalize aq1.tmps.getD 14 undef=yq1_14
 generalize aq1.tmps.getD 15 undef=yq1_15
 generalize aq1.tmps.getD 16 undef=yq1_16
 generalize aq1.tmps.getD 17 undef=yq1_17
 generalize aq1.tmps.getD 18 undef=yq1_18
 generalize aq1.tmps.getD 19 undef=yq1_19
 generalize aq1.tmps.getD 20 undef=yq1_20
 generalize aq1.tmps.getD 21 undef=yq1_21
 generalize aq1.tmps.getD 22 undef=yq1_22
 generalize aq1.tmps.getD 23 undef=yq1_23
 clear g4 aq1
 clear p2
 go_wp2_with fail
 refine go_regz (fun fl u w=>Below wq1.heap.size wq1 w) [] [] [some (.agg #[.int .i8 5,.int .i8 op,.int .i8 width,.int .i8 size,.bool byReg,.int .i8 dst,.int .i8 src,.int .i64 off,.int .i64 imm]),some (.int .i64 m0),some (.pointer (some ⟨g,0,none⟩)),some (.pointer (some ⟨g,0,none⟩)),some (.pointer (some ⟨g,3,none⟩)),some (.pointer (some ⟨g,14,none⟩)),some (.int .i64 D.set),some (.int .i64 (bits .andNot .i64 m0 D.set)),some (.bool (bits .andNot .i64 m0 D.set != 0))] mo (fun fl fl' u u' w hK hD h=>h) rfl rfl (by kernel_rfl) (fun fl w1 hfl b _=>b) (
  zc (@fun fl ax wx cx=>cx.v (exec_loadR 52 _ rfl gx 0 (cx.rq 4 rfl) (brow cx.S rx) [.int .i8 5,.int .i8 op,.int .i8 width,.int .i8 size,.bool byReg,.int .i8 dst,.int .i8 src,.int .i64 off,.int .i64 imm] rfl _ Tryz.underlying52 rfl (by kernel_rfl)) rfl rfl) <|
  zc (@fun fl ax wx cx=>cx.ct rfl rfl (args1 (cx.u 0 rfl)) Tryz.func44 (by decide +kernel) rfl rfl ((RD.out wx).mono (by
    rintro e w' ⟨rfl,b9⟩
    exact ⟨_,rfl,rfl,cx.S.trans (b9.mono cx.S.size)⟩))) <|
  zc (@fun fl ax wx cx=>cx.v (ex_mv rfl (cx.rq 0 rfl)) rfl rfl) <|
  zc (@fun fl ax wx cx=>cx.v (ex_nc rfl (cx.u 0 rfl)) rfl rfl) <|
  zc (@fun fl ax wx cx=>cx.v (ex_fa rfl (cx.u 0 rfl) (faQL6S465_2_0 _ _)) rfl rfl) <|
  zc (@fun fl ax wx cx=>cx.v (ex_fa rfl (cx.u 0 rfl) (faQL6S449_1_3 _ _)) rfl rfl) <|
  zc (@fun fl ax wx cx=>cx.v (ex_ld rfl (cx.u 0 rfl) (brow cx.S hin1) c14 Tryz.isAgg3) rfl rfl) <|
  zc (@fun fl ax wx cx=>cx.v (by simp [execOp,Act.eval,(show ax.tmps.getD 25 undef=.int .i64 m0 from (cx.u 0 rfl)),(show ax.tmps.getD 30 undef=.int .i64 D.set from (cx.u 1 rfl)),go_sem]) rfl rfl) <|
  zc (@fun fl ax wx cx=>cx.v (ex_ne (x:=.tmp 31) rfl (cx.u 0 rfl) rfl) rfl rfl) <|
  zn) ?_
 intro aq2 wq2 fq2
 obtain ⟨flq2,hfq2,hsq2⟩:=fq2.s
 have gq2_32:aq2.tmps.getD 32 undef=.bool (bits .andNot .i64 m0 D.set != 0):=fq2.v 8 rfl rfl rfl
 have B2:=hsq2
 have rx:=brow B2 rx
 have hin2:=brow B2 hin1
 have B:=B1.trans (B2.mono B1.size)
 clear hsq2 hfq2 flq2 B1 B2 hin1
 rw [fq2.frame rfl rfl]
 clear fq2
 rw [show outs _ (fun d=>aq2.tmps.getD d undef)=[(24,aq2.tmps.getD 24 undef),(25,aq2.tmps.getD 25 undef),(26,aq2.tmps.getD 26 undef),(27,aq2.tmps.getD 27 undef),(28,aq2.tmps.getD 28 undef),(29,aq2.tmps.getD 29 undef),(30,aq2.tmps.getD 30 undef),(31,aq2.tmps.getD 31 undef),(32,aq2.tmps.getD 32 undef)] by kernel_rfl,gq2_32]
 simp only [putAll,List.setIfInBounds_toArray,List.set_cons_zero,List.set_cons_succ,Exit.then]
 generalize aq2.tmps.getD 24 undef=yq2_24
 generalize aq2.tmps.getD 25 undef=yq2_25
 generalize aq2.tmps.getD 26 undef=yq2_26
 generalize aq2.tmps.getD 27 undef=yq2_27
 generalize aq2.tmps.getD 28 undef=yq2_28
 generalize aq2.tmps.getD 29 undef=yq2_29
 generalize aq2.tmps.getD 30 undef=yq2_30
 generalize aq2.tmps.getD 31 undef=yq2_31
 clear gq2_32 aq2
 simp only [hz]
 generalize wq2=wB at *
 have HG2:=Lib.hid hin2
 have RX:=Lib.hid rx
 have BB:=Lib.hid B
 have HI0:=Lib.hid hin
 clear hin hin0
 have d79:wB.cell? ⟨g,79,none⟩=some (.int .i64 (i:Int)):=by simp only [World.cell?,hin2];exact c79
 have x0:wB.cell? ⟨gx,0,none⟩=some (.int .i8 5):=by simp only [World.cell?,rx];rfl
 have x1:wB.cell? ⟨gx,1,none⟩=some (.int .i8 op):=by simp only [World.cell?,rx];rfl
 have x2:wB.cell? ⟨gx,2,none⟩=some (.int .i8 width):=by simp only [World.cell?,rx];rfl
 have x3:wB.cell? ⟨gx,3,none⟩=some (.int .i8 size):=by simp only [World.cell?,rx];rfl
 have x4:wB.cell? ⟨gx,4,none⟩=some (.bool byReg):=by simp only [World.cell?,rx];rfl
 have x5:wB.cell? ⟨gx,5,none⟩=some (.int .i8 dst):=by simp only [World.cell?,rx];rfl
 have x6:wB.cell? ⟨gx,6,none⟩=some (.int .i8 src):=by simp only [World.cell?,rx];rfl
 have x7:wB.cell? ⟨gx,7,none⟩=some (.int .i64 off):=by simp only [World.cell?,rx];rfl
 have x8:wB.cell? ⟨gx,8,none⟩=some (.int .i64 imm):=by simp only [World.cell?,rx];rfl
 have ei:wrap64 ((i:Int)+1)=(i:Int)+1:=IntWalk.wrap64_in _ (by omega)
 clear rx hin2
 obtain ⟨RB,TB⟩:=R.still B
 obtain ⟨ctx2,av2,tv2,hin2,hA2,hT2,hn2⟩:=RB.st
 obtain ⟨z0,aa,ca,q1,q2,q3⟩:=hA2
 obtain ⟨ps,p1,p2,p3⟩:=hT2
 obtain ⟨ab,ao,rfl,hlt,hac⟩:=q3 (by rw [hcons];simp)
 rw [hcons] at q1 q2 hac z0
 have E9:Hid (s=md6 E r D ctx2 av2 tv2):=Lib.hid (by have h1:=HG2.out;have h2:wB.heap[g]?=some (.cells (md6 E r D ctx2 av2 tv2).cells 65 (0,0)):=hin2;rw [h1] at h2;exact md6_inj HS.out (by simpa using h2))
 have CAL:=r6_call_yes (md6 E r D ctx2 av2 tv2) g ab ao (a0 :: l0).length ca β D.evs.length imm a0 (cellsV ps) wB hin2 (by simp) q1 (by simpa using hac 0 a0 rfl) p2 RB.far.2 hfew
 have CAL:=Lib.hid CAL
 have Z0:=Lib.hid z0
 have Q2:=Lib.hid q2
 have HR:=Lib.hid hlt
 have HAC:=Lib.hid hac
 have P1:=Lib.hid p1
 have P2:=Lib.hid p2
 have P3:=Lib.hid p3
 have HI2:=Lib.hid hin2
 have RB2:=Lib.hid RB
 have TB2:=Lib.hid TB
 have HN2:=Lib.hid hn2
 have HC:=Lib.hid hcons
 clear q1 q2 q3 hlt hac p1 p2 p3 z0 hin2 RB TB hn2 hcons hA hT
 go_wp2_with fail
 refine CAL.out.mono ?_
 rintro e w5 ⟨rfl,va,tv',o1,o2,i5,t5⟩
 have I5:=Lib.hid i5
 have T5:=Lib.hid t5
 have O1:=Lib.hid o1
 have O2:=Lib.hid o2
 clear i5 t5 o1 o2 CAL
 obtain ⟨s5,hs5⟩:∃ s5,Hid (s5=(md6 E r D ctx2 av2 tv2).called (.slice (some ⟨ab,if ca=1 then ao else ao+1,none⟩) ((a0 :: l0).length - 1) (ca - 1)) tv' a0):=⟨_,Lib.hid rfl⟩
 rw [← hs5.out] at I5
 have e79:=Md.c79 I5.out
 have f79:=Md.unfrozen I5.out 79
 rw [show s5.at_=(i:Int) by rw [hs5.out];exact (Md.clr_rest _).2.2.2.2.1.trans I2.out] at e79
 go_wp2_with fail
 go_ret2
 have TT:Trn (g :: tv2.ownBlock.toList) wB (w5.setCell ⟨g,79,none⟩ (.int .i64 ((i:Int)+1))):=T5.out.trans ((But.trn (But.set w5 g 79 _)).weak (fun k hk=>by simp at hk;simp [hk]))
 have tg:Trn [g] w5 (w5.setCell ⟨g,79,none⟩ (.int .i64 ((i:Int)+1))):=But.trn (But.set w5 g 79 _)
 have G5:w5.heap[g]?=some (.cells s5.cells 65 (0,0)):=I5.out
 have IN:=Md.at_in I5.out ((i:Int)+1)
 have EQ:({ s5 with at_:=(i:Int)+1 }:Md)=md6 E r { D.called imm a0 l0 with at_:=D.at_+1 } ctx2 (.slice (some ⟨ab,if ca=1 then ao else ao+1,none⟩) ((a0 :: l0).length - 1) (ca - 1)) tv':=by rw [hs5.out,← I2.out];exact called_md _ _ _ _ _ _ _ _ _ _ _
 rw [EQ] at IN
 have RR:=R6.rang RB2.out HC.out HI2.out Z0.out Q2.out HR.out HAC.out P1.out P2.out P3.out (own_trn O1.out tg (fun j hj=>by simpa using own_ne O1.out G5 (show 30≠65 by decide) j hj)) (own_trn O2.out tg (fun j hj=>by simpa using own_ne O2.out G5 (show 103≠65 by decide) j hj)) IN TT HN2.out
 exact ⟨rfl,RR.1,TB2.out.trans RR.2⟩
set_option maxHeartbeats 16000000 in
theorem r6_step_0 (E:Env)(F:Fine E)(D:Pl)(H:Runs E D)(g r β:Nat)(W:World)(R:R6 E g r β D W)(op width:Int)(size:Int)(byReg:Bool)(off imm:Int)(d n:Nat)(hd:d<11)(hn11:n<11)(hx:E.x D.ix=(Ins.In.mk 0 op width size byReg (d:Int) (n:Int) off imm))(hc:(andM D.set (readsM (E.x D.ix)) == readsM (E.x D.ix))=true):
  Calls Tryz.prog 20 #[.pointer (some ⟨g,0,none⟩)] W fun e w'=>e=.returned (.tuple #[.int .i8 0,.bool true])∧R6 E g r β { D.put d (doI op width (D.r d) (D.opd (Ins.In.mk 0 op width size byReg (d:Int) (n:Int) off imm))) with at_:=D.at_+1 } w'∧TurnT τ6 β W w':=by
 have mo:Tryz.prog.follows .mixedOrders=true:=by kernel_rfl
 obtain ⟨i1,i2⟩:=H.ix
 obtain ⟨i,hi⟩:∃ i,i=D.ix:=⟨_,rfl⟩
 rw [← hi] at hx i1 i2 hc
 have hil:i<E.pl:=i1
 obtain ⟨ctx,av,tv,hin,hA,hT,hn⟩:=R.st
 have p2:W.rangeAt E.pa (E.po+i * 9) (Ins.In.mk 0 op width size byReg (d:Int) (n:Int) off imm).cells.toList:=by have:=R.pr.2 i hil;rwa [hx] at this
 have hpl:(i:Int)<64:=by have:=F.len.2;omega
 obtain ⟨s,hs⟩:∃ s,s=md6 E r D ctx av tv:=⟨_,rfl⟩
 rw [← hs] at hin
 have hin0:W.heap[g]?=some (.cells s.cells 65 (0,0)):=hin
 have c1:s.cells[1]?=some (.slice (some ⟨E.pa,E.po,none⟩) E.pl E.pc):=by rw [hs];exact (md6 E r D ctx av tv).get 1 (by decide)
 have c2:s.cells[2]?=some (.pointer (some ⟨r,0,none⟩)):=by rw [hs];exact (md6 E r D ctx av tv).get 2 (by decide)
 have c14:s.cells[14]?=some (.int .i64 D.set):=by rw [hs];exact (md6 E r D ctx av tv).get 14 (by decide)
 have c79:s.cells[79]?=some (.int .i64 (i:Int)):=by rw [← i2,hs];exact (md6 E r D ctx av tv).get 79 (by decide)
 have I2:=Lib.hid i2
 have HS:=Lib.hid hs
 clear i2 hi hs
 have creg:∀ k,k<11→s.cells[3+k]?=some (.int .u64 (D.r k)):=fun k hk=>by rw [s.get _ (by omega),HS.out];unfold Md.cell;rw [if_neg (by omega),if_neg (by omega),if_neg (by omega),if_pos (by omega),show 3+k - 3=k by omega];rfl
 obtain ⟨m0,hm0⟩:∃ m0,m0=readsM (Ins.In.mk 0 op width size byReg (d:Int) (n:Int) off imm):=⟨_,rfl⟩
 have hz:=rd_test (x:=(Ins.In.mk 0 op width size byReg (d:Int) (n:Int) off imm)) (show (0:Int)≤(d:Int) by omega) (show (d:Int)<11 by omega) (show (0:Int)≤(n:Int) by omega) (show (n:Int)<11 by omega) (by rw [← hx];exact hc)
 rw [← hm0] at hz
 have RD:Hid (∀ w,Calls Tryz.prog 44 #[.agg #[.int .i8 0,.int .i8 op,.int .i8 width,.int .i8 size,.bool byReg,.int .i8 (d:Int),.int .i8 (n:Int),.int .i64 off,.int .i64 imm]] w fun e w'=>e=.returned (.int .i64 m0)∧Below w.heap.size w w'):=Lib.hid (fun w=>by rw [hm0];exact r6_reads (Ins.In.mk 0 op width size byReg (d:Int) (n:Int) off imm) w (show (0:Int)≤0 by decide) (show (0:Int)≤6 by decide) (show (0:Int)≤(d:Int) by omega) (show (d:Int)<11 by omega) (show (0:Int)≤(n:Int) by omega) (show (n:Int)<11 by omega))
 clear hm0 hc
 go_enter Tryz.func20,Tryz.ntmps20
 go_wp2_with fail
 refine go_regz (SB 11 12 4 W #[.int .i8 0,.int .i8 0,.int .i8 0,.int .i8 0,.bool false,.int .i8 0,.int .i8 0,.int .i64 0,.int .i64 0] (Ins.In.mk 0 op width size byReg (d:Int) (n:Int) off imm).cells 52) [11,12] [4] [some (.pointer (some ⟨g,0,none⟩)),some (.pointer (some ⟨g,0,none⟩)),some (.pointer (some ⟨g,0,none⟩)),some (.pointer (some ⟨g,1,none⟩)),some (.slice (some ⟨E.pa,E.po,none⟩) E.pl E.pc),some (.pointer (some ⟨g,0,none⟩)),some (.pointer (some ⟨g,0,none⟩)),some (.pointer (some ⟨g,79,none⟩)),some (.int .i64 (i:Int)),some (.pointer (some ⟨E.pa,E.po+i * 9,none⟩)),some (.agg (Ins.In.mk 0 op width size byReg (d:Int) (n:Int) off imm).cells),none,none] mo SB.loc rfl rfl (by kernel_rfl) (fun fl w1 hfl b _=>SB.start b (hfl 11 (by decide))) (
  zc (@fun fl ax wx cx=>cx.v (ex_mv rfl (cx.rq 0 rfl)) rfl rfl) <|
  zc (@fun fl ax wx cx=>cx.v (ex_nc rfl (cx.u 0 rfl)) rfl rfl) <|
  zc (@fun fl ax wx cx=>cx.v (ex_fa rfl (cx.u 0 rfl) (faQL6S465_0_0 _ _)) rfl rfl) <|
  zc (@fun fl ax wx cx=>cx.v (ex_fa rfl (cx.u 0 rfl) (faQL6S424_1_0 _ _)) rfl rfl) <|
  zc (@fun fl ax wx cx=>cx.v (ex_ld rfl (cx.u 0 rfl) (brow cx.S.1 hin0) c1 Tryz.isAgg22) rfl rfl) <|
  zc (@fun fl ax wx cx=>cx.v (ex_mv rfl (cx.rq 0 rfl)) rfl rfl) <|
  zc (@fun fl ax wx cx=>cx.v (ex_nc rfl (cx.u 0 rfl)) rfl rfl) <|
  zc (@fun fl ax wx cx=>cx.v (ex_fa rfl (cx.u 0 rfl) (faQL6S465_3_0 _ _)) rfl rfl) <|
  zc (@fun fl ax wx cx=>cx.v (ex_ld rfl (cx.u 0 rfl) (brow cx.S.1 hin0) c79 Tryz.isAgg3) rfl rfl) <|
  zc (@fun fl ax wx cx=>cx.v (ex_ixI rfl (cx.u 0 rfl) (cx.u 1 rfl) hil) rfl rfl) <|
  zc (@fun fl ax wx cx=>cx.v (ex_ldw6 rfl (cx.u 0 rfl) (load_mid6 (Ins.In.mk 0 op width size byReg (d:Int) (n:Int) off imm) (Ins.rangeAt_below cx.S.1 p2))) rfl rfl) <|
  zc (@fun fl ax wx cx=>cx.vt rfl (by simp [execOp,Act.eval,go_sem]) rfl rfl trivial (SB.alloc cx.S (cx.later 12 (by kernel_rfl)) (by decide) (slot_new cx.sz rfl))) <|
  zc (@fun fl ax wx cx=>(by
    obtain ⟨gx,e1,e2,e3⟩:=cx.S.at_ (cx.did 0 rfl rfl) cx.fi
    exact cx.st rfl (exec_storeR 52 (.tmp 4) (.tmp 23) rfl gx (Ins.In.mk 0 op width size byReg (d:Int) (n:Int) off imm).cells e1 (cx.u 1 rfl) e3 (by kernel_rfl) rfl (by simp [Ins.In.cells,Value.oneCell'])) rfl trivial (SB.store cx.S (cx.did 0 rfl rfl) (by decide) e1 (stored_setRow wx gx (Ins.In.mk 0 op width size byReg (d:Int) (n:Int) off imm).cells _ _ e3)))) <|
  zn) ?_
 intro aq1 wq1 fq1
 obtain ⟨flq1,hfq1,hsq1⟩:=fq1.s
 obtain ⟨B1,gx,g4,lx,rx⟩:=SB.fin hsq1 (hfq1 11 (by decide)) (hfq1 12 (by decide))
 replace g4:aq1.tmps.getD 4 undef=.pointer (some ⟨gx,0,none⟩):=g4
 replace rx:wq1.heap[gx]?=some (.cells #[.int .i8 0,.int .i8 op,.int .i8 width,.int .i8 size,.bool byReg,.int .i8 (d:Int),.int .i8 (n:Int),.int .i64 off,.int .i64 imm] 52 (0,0)):=rx
 have hin1:=brow B1 hin0
 clear hsq1 hfq1 flq1
 rw [fq1.frame rfl rfl]
 clear fq1
 rw [show outs _ (fun d=>aq1.tmps.getD d undef)=[(13,aq1.tmps.getD 13 undef),(14,aq1.tmps.getD 14 undef),(15,aq1.tmps.getD 15 undef),(16,aq1.tmps.getD 16 undef),(17,aq1.tmps.getD 17 undef),(18,aq1.tmps.getD 18 undef),(19,aq1.tmps.getD 19 undef),(20,aq1.tmps.getD 20 undef),(21,aq1.tmps.getD 21 undef),(22,aq1.tmps.getD 22 undef),(23,aq1.tmps.getD 23 undef),(4,aq1.tmps.getD 4 undef)] by kernel_rfl,g4]
 simp only [putAll,List.setIfInBounds_toArray,List.set_cons_zero,List.set_cons_succ,Exit.then]
 generalize aq1.tmps.getD 13 undef=yq1_13
 generalize aq1.tmps.getD 14 undef=yq1_14
 generalize aq1.tmps.getD 15 undef=yq1_15
 generalize aq1.tmps.getD 16 undef=yq1_16
 generalize aq1.tmps.getD 17 undef=yq1_17
 generalize aq1.tmps.getD 18 undef=yq1_18
 generalize aq1.tmps.getD 19 undef=yq1_19
 generalize aq1.tmps.getD 20 undef=yq1_20
 generalize aq1.tmps.getD 21 undef=yq1_21
 generalize aq1.tmps.getD 22 undef=yq1_22
 generalize aq1.tmps.getD 23 undef=yq1_23
 clear g4 aq1
 clear p2
 go_wp2_with fail
 refine go_regz (fun fl u w=>Below wq1.heap.size wq1 w) [] [] [some (.agg #[.int .i8 0,.int .i8 op,.int .i8 width,.int .i8 size,.bool byReg,.int .i8 (d:Int),.int .i8 (n:Int),.int .i64 off,.int .i64 imm]),some (.int .i64 m0),some (.pointer (some ⟨g,0,none⟩)),some (.pointer (some ⟨g,0,none⟩)),some (.pointer (some ⟨g,3,none⟩)),some (.pointer (some ⟨g,14,none⟩)),some (.int .i64 D.set),some (.int .i64 (bits .andNot .i64 m0 D.set)),some (.bool (bits .andNot .i64 m0 D.set != 0))] mo (fun fl fl' u u' w hK hD h=>h) rfl rfl (by kernel_rfl) (fun fl w1 hfl b _=>b) (
  zc (@fun fl ax wx cx=>cx.v (exec_loadR 52 _ rfl gx 0 (cx.rq 4 rfl) (brow cx.S rx) [.int .i8 0,.int .i8 op,.int .i8 width,.int .i8 size,.bool byReg,.int .i8 (d:Int),.int .i8 (n:Int),.int .i64 off,.int .i64 imm] rfl _ Tryz.underlying52 rfl (by kernel_rfl)) rfl rfl) <|
  zc (@fun fl ax wx cx=>cx.ct rfl rfl (args1 (cx.u 0 rfl)) Tryz.func44 (by decide +kernel) rfl rfl ((RD.out wx).mono (by
    rintro e w' ⟨rfl,b9⟩
    exact ⟨_,rfl,rfl,cx.S.trans (b9.mono cx.S.size)⟩))) <|
  zc (@fun fl ax wx cx=>cx.v (ex_mv rfl (cx.rq 0 rfl)) rfl rfl) <|
  zc (@fun fl ax wx cx=>cx.v (ex_nc rfl (cx.u 0 rfl)) rfl rfl) <|
  zc (@fun fl ax wx cx=>cx.v (ex_fa rfl (cx.u 0 rfl) (faQL6S465_2_0 _ _)) rfl rfl) <|
  zc (@fun fl ax wx cx=>cx.v (ex_fa rfl (cx.u 0 rfl) (faQL6S449_1_3 _ _)) rfl rfl) <|
  zc (@fun fl ax wx cx=>cx.v (ex_ld rfl (cx.u 0 rfl) (brow cx.S hin1) c14 Tryz.isAgg3) rfl rfl) <|
  zc (@fun fl ax wx cx=>cx.v (by simp [execOp,Act.eval,(show ax.tmps.getD 25 undef=.int .i64 m0 from (cx.u 0 rfl)),(show ax.tmps.getD 30 undef=.int .i64 D.set from (cx.u 1 rfl)),go_sem]) rfl rfl) <|
  zc (@fun fl ax wx cx=>cx.v (ex_ne (x:=.tmp 31) rfl (cx.u 0 rfl) rfl) rfl rfl) <|
  zn) ?_
 intro aq2 wq2 fq2
 obtain ⟨flq2,hfq2,hsq2⟩:=fq2.s
 have gq2_32:aq2.tmps.getD 32 undef=.bool (bits .andNot .i64 m0 D.set != 0):=fq2.v 8 rfl rfl rfl
 have B2:=hsq2
 have rx:=brow B2 rx
 have hin2:=brow B2 hin1
 have B:=B1.trans (B2.mono B1.size)
 clear hsq2 hfq2 flq2 B1 B2 hin1
 rw [fq2.frame rfl rfl]
 clear fq2
 rw [show outs _ (fun d=>aq2.tmps.getD d undef)=[(24,aq2.tmps.getD 24 undef),(25,aq2.tmps.getD 25 undef),(26,aq2.tmps.getD 26 undef),(27,aq2.tmps.getD 27 undef),(28,aq2.tmps.getD 28 undef),(29,aq2.tmps.getD 29 undef),(30,aq2.tmps.getD 30 undef),(31,aq2.tmps.getD 31 undef),(32,aq2.tmps.getD 32 undef)] by kernel_rfl,gq2_32]
 simp only [putAll,List.setIfInBounds_toArray,List.set_cons_zero,List.set_cons_succ,Exit.then]
 generalize aq2.tmps.getD 24 undef=yq2_24
 generalize aq2.tmps.getD 25 undef=yq2_25
 generalize aq2.tmps.getD 26 undef=yq2_26
 generalize aq2.tmps.getD 27 undef=yq2_27
 generalize aq2.tmps.getD 28 undef=yq2_28
 generalize aq2.tmps.getD 29 undef=yq2_29
 generalize aq2.tmps.getD 30 undef=yq2_30
 generalize aq2.tmps.getD 31 undef=yq2_31
 clear gq2_32 aq2
 simp only [hz]
 generalize wq2=wB at *
 obtain ⟨o2,ho2⟩:∃ o2,Hid (o2=D.opd (Ins.In.mk 0 op width size byReg (d:Int) (n:Int) off imm)):=⟨_,Lib.hid rfl⟩
 have SEC:Hid (∀ w,w.heap[g]?=some (.cells s.cells 65 (0,0))→Calls Tryz.prog 46 #[.pointer (some ⟨g,0,none⟩),.agg #[.int .i8 0,.int .i8 op,.int .i8 width,.int .i8 size,.bool byReg,.int .i8 (d:Int),.int .i8 (n:Int),.int .i64 off,.int .i64 imm]] w fun e w'=>e=.returned (.int .u64 o2)∧Below w.heap.size w w'):=Lib.hid (fun w h=>by rw [ho2.out];have:=r6_second s g (Ins.In.mk 0 op width size byReg (d:Int) (n:Int) off imm) w h (show (0:Int)≤(n:Int) by omega) (show (n:Int)<11 by omega);rw [show s.opd (Ins.In.mk 0 op width size byReg (d:Int) (n:Int) off imm)=D.opd (Ins.In.mk 0 op width size byReg (d:Int) (n:Int) off imm) by rw [HS.out];rfl] at this;exact this)
 have hw2:=Pl.opd_word R.words (Ins.In.mk 0 op width size byReg (d:Int) (n:Int) off imm)
 rw [← ho2.out] at hw2
 obtain ⟨vv,hvv⟩:∃ vv,Hid (vv=doI op width (D.r d) o2):=⟨_,Lib.hid rfl⟩
 obtain ⟨ee,hee⟩:∃ ee,Hid (ee=doE op width):=⟨_,Lib.hid rfl⟩
 have DO:=Lib.hid (fun w=>refdo_any op width (D.r d) o2 w (R.words d).1 (R.words d).2 hw2.1 hw2.2)
 rw [← hvv.out,← hee.out] at DO
 have hvw:0≤vv∧vv<18446744073709551616:=by rw [hvv.out];exact doI_word op width (R.words d) hw2
 have HG2:=Lib.hid hin2
 have RX:=Lib.hid rx
 have BB:=Lib.hid B
 have HI0:=Lib.hid hin
 clear hin hin0
 have d79:wB.cell? ⟨g,79,none⟩=some (.int .i64 (i:Int)):=by simp only [World.cell?,hin2];exact c79
 have x0:wB.cell? ⟨gx,0,none⟩=some (.int .i8 0):=by simp only [World.cell?,rx];rfl
 have x1:wB.cell? ⟨gx,1,none⟩=some (.int .i8 op):=by simp only [World.cell?,rx];rfl
 have x2:wB.cell? ⟨gx,2,none⟩=some (.int .i8 width):=by simp only [World.cell?,rx];rfl
 have x3:wB.cell? ⟨gx,3,none⟩=some (.int .i8 size):=by simp only [World.cell?,rx];rfl
 have x4:wB.cell? ⟨gx,4,none⟩=some (.bool byReg):=by simp only [World.cell?,rx];rfl
 have x5:wB.cell? ⟨gx,5,none⟩=some (.int .i8 (d:Int)):=by simp only [World.cell?,rx];rfl
 have x6:wB.cell? ⟨gx,6,none⟩=some (.int .i8 (n:Int)):=by simp only [World.cell?,rx];rfl
 have x7:wB.cell? ⟨gx,7,none⟩=some (.int .i64 off):=by simp only [World.cell?,rx];rfl
 have x8:wB.cell? ⟨gx,8,none⟩=some (.int .i64 imm):=by simp only [World.cell?,rx];rfl
 have ei:wrap64 ((i:Int)+1)=(i:Int)+1:=IntWalk.wrap64_in _ (by omega)
 clear hee
 go_wp2_with fail
 clear d79 x0 x1 x2 x3 x4 x5 x6 x7 x8 B
 refine go_regz (fun fl u w=>Below wB.heap.size wB w) [] [] (tabs [some (.pointer (some ⟨gx,1,none⟩)),some (.int .i8 op),some (.pointer (some ⟨gx,2,none⟩)),some (.int .i8 width),some (.pointer (some ⟨g,0,none⟩)),some (.pointer (some ⟨gx,5,none⟩)),some (.int .i8 (d:Int)),some (.pointer (some ⟨g,0,none⟩)),some (.pointer (some ⟨g,3,none⟩)),some (.pointer (some ⟨g,3,none⟩)),some (.pointer (some ⟨g,3+d,none⟩)),some (.int .u64 (D.r d)),some (.pointer (some ⟨g,0,none⟩)),some (.agg #[.int .i8 0,.int .i8 op,.int .i8 width,.int .i8 size,.bool byReg,.int .i8 (d:Int),.int .i8 (n:Int),.int .i64 off,.int .i64 imm]),some (.int .u64 o2),some (.tuple #[.int .u64 vv,.int .i64 ee]),some (.tuple #[.int .u64 vv,.int .i64 ee]),some (.int .u64 vv),some (.int .i64 ee),some (.int .u64 vv)] [some (.int .i64 ee)]) mo (fun fl fl' u u' w hK hD h=>h) rfl rfl (by kernel_rfl) (fun fl w1 hfl b _=>b) (
  zc (@fun fl ax wx cx=>cx.v (ex_fa rfl (cx.rq 4 rfl) (faQL6S452_1_0 _ _)) rfl rfl) <|
  zc (@fun fl ax wx cx=>cx.v (ex_ld rfl (cx.u 0 rfl) (brow cx.S rx) rfl Tryz.isAgg29) rfl rfl) <|
  zc (@fun fl ax wx cx=>cx.v (ex_fa rfl (cx.rq 4 rfl) (faQL6S452_2_0 _ _)) rfl rfl) <|
  zc (@fun fl ax wx cx=>cx.v (ex_ld rfl (cx.u 0 rfl) (brow cx.S rx) rfl Tryz.isAgg29) rfl rfl) <|
  zc (@fun fl ax wx cx=>cx.v (ex_mv rfl (cx.rq 0 rfl)) rfl rfl) <|
  zc (@fun fl ax wx cx=>cx.v (ex_fa rfl (cx.rq 4 rfl) (faQL6S452_5_0 _ _)) rfl rfl) <|
  zc (@fun fl ax wx cx=>cx.v (ex_ld rfl (cx.u 0 rfl) (brow cx.S rx) rfl Tryz.isAgg29) rfl rfl) <|
  zc (@fun fl ax wx cx=>cx.v (ex_nc rfl (cx.u 0 rfl)) rfl rfl) <|
  zc (@fun fl ax wx cx=>cx.v (ex_fa rfl (cx.u 0 rfl) (faQL6S465_2_0 _ _)) rfl rfl) <|
  zc (@fun fl ax wx cx=>cx.v (ex_fa rfl (cx.u 0 rfl) (faQL6S449_0_3 _ _)) rfl rfl) <|
  zc (@fun fl ax wx cx=>cx.v (ex_ixR rfl (cx.u 0 rfl) (cx.u 1 rfl) hd) rfl rfl) <|
  zc (@fun fl ax wx cx=>cx.v (ex_ld rfl (cx.u 0 rfl) (brow cx.S hin2) (creg d hd) Tryz.isAgg30) rfl rfl) <|
  zc (@fun fl ax wx cx=>cx.v (ex_mv rfl (cx.rq 0 rfl)) rfl rfl) <|
  zc (@fun fl ax wx cx=>cx.v (exec_loadR 52 _ rfl gx 0 (cx.rq 4 rfl) (brow cx.S rx) [.int .i8 0,.int .i8 op,.int .i8 width,.int .i8 size,.bool byReg,.int .i8 (d:Int),.int .i8 (n:Int),.int .i64 off,.int .i64 imm] rfl _ Tryz.underlying52 rfl (by kernel_rfl)) rfl rfl) <|
  zc (@fun fl ax wx cx=>cx.ct rfl rfl (args2 (cx.u 0 rfl) (cx.u 1 rfl)) Tryz.func46 (by decide +kernel) rfl rfl ((SEC.out wx (brow cx.S hin2)).mono (by
    rintro e w' ⟨rfl,b9⟩
    exact ⟨_,rfl,rfl,cx.S.trans (b9.mono cx.S.size)⟩))) <|
  zc (@fun fl ax wx cx=>cx.c rfl (args4 (cx.u 0 rfl) (cx.u 1 rfl) (cx.u 2 rfl) (cx.u 3 rfl)) Tryz.func45 (by decide +kernel) (DO.out wx) rfl rfl) <|
  zc (@fun fl ax wx cx=>cx.v (ex_mv rfl (cx.u 0 rfl)) rfl rfl) <|
  zc (@fun fl ax wx cx=>cx.v (ex_ext (x:=.tmp 42) rfl (cx.u 0 rfl) rfl) rfl rfl) <|
  zc (@fun fl ax wx cx=>cx.v (ex_ext (x:=.tmp 42) rfl (cx.u 0 rfl) rfl) rfl rfl) <|
  zc (@fun fl ax wx cx=>cx.v (ex_as rfl (cx.u 0 rfl)) rfl rfl) <|
  zc (@fun fl ax wx cx=>cx.v (ex_as rfl (cx.u 0 rfl)) rfl rfl) <|
  zn) ?_
 intro aq3 wq3 fq3
 obtain ⟨flq3,hfq3,hsq3⟩:=fq3.s
 have gq3_6:aq3.tmps.getD 6 undef=.int .u64 vv:=fq3.v 19 rfl rfl rfl
 have B7:=Lib.hid hsq3
 have hin3:=brow B7.out hin2
 have rx3:=brow B7.out rx
 clear hsq3 hfq3 flq3
 rw [fq3.frame rfl rfl]
 clear fq3
 rw [show outs _ (fun d=>aq3.tmps.getD d undef)=[(43,aq3.tmps.getD 43 undef),(44,aq3.tmps.getD 44 undef),(45,aq3.tmps.getD 45 undef),(46,aq3.tmps.getD 46 undef),(47,aq3.tmps.getD 47 undef),(48,aq3.tmps.getD 48 undef),(49,aq3.tmps.getD 49 undef),(50,aq3.tmps.getD 50 undef),(51,aq3.tmps.getD 51 undef),(52,aq3.tmps.getD 52 undef),(53,aq3.tmps.getD 53 undef),(54,aq3.tmps.getD 54 undef),(55,aq3.tmps.getD 55 undef),(56,aq3.tmps.getD 56 undef),(57,aq3.tmps.getD 57 undef),(58,aq3.tmps.getD 58 undef),(42,aq3.tmps.getD 42 undef),(59,aq3.tmps.getD 59 undef),(60,aq3.tmps.getD 60 undef),(6,aq3.tmps.getD 6 undef),(7,aq3.tmps.getD 7 undef)] by kernel_rfl,gq3_6]
 simp only [putAll,List.setIfInBounds_toArray,List.set_cons_zero,List.set_cons_succ,Exit.then]
 generalize aq3.tmps.getD 43 undef=yq3_43
 generalize aq3.tmps.getD 44 undef=yq3_44
 generalize aq3.tmps.getD 45 undef=yq3_45
 generalize aq3.tmps.getD 46 undef=yq3_46
 generalize aq3.tmps.getD 47 undef=yq3_47
 generalize aq3.tmps.getD 48 undef=yq3_48
 generalize aq3.tmps.getD 49 undef=yq3_49
 generalize aq3.tmps.getD 50 undef=yq3_50
 generalize aq3.tmps.getD 51 undef=yq3_51
 generalize aq3.tmps.getD 52 undef=yq3_52
 generalize aq3.tmps.getD 53 undef=yq3_53
 generalize aq3.tmps.getD 54 undef=yq3_54
 generalize aq3.tmps.getD 55 undef=yq3_55
 generalize aq3.tmps.getD 56 undef=yq3_56
 generalize aq3.tmps.getD 57 undef=yq3_57
 generalize aq3.tmps.getD 58 undef=yq3_58
 generalize aq3.tmps.getD 42 undef=yq3_42
 generalize aq3.tmps.getD 59 undef=yq3_59
 generalize aq3.tmps.getD 60 undef=yq3_60
 generalize aq3.tmps.getD 7 undef=yq3_7
 clear gq3_6 aq3
 have HG3:=Lib.hid hin3
 have x5:wq3.cell? ⟨gx,5,none⟩=some (.int .i8 (d:Int)):=by simp only [World.cell?,rx3];rfl
 clear rx3 hin3 rx hin2
 go_wp2_with fail
 refine (r6_set s g d vv _ HG3.out hd).mono ?_
 rintro e w5 ⟨⟨ux,rfl⟩,i5,t5⟩
 have I5:=Lib.hid i5
 have T5:=Lib.hid t5
 clear i5 t5 x5
 have f79:=Md.unfrozen (s:=s.put d vv) I5.out 79
 have e79:=Md.c79 (s:=s.put d vv) I5.out
 go_wp2_with fail
 go_ret2
 have TT:Trn [g] W (w5.setCell ⟨g,79,none⟩ (.int .i64 ((i:Int)+1))):=(Trn.of_below (BB.out.trans (B7.out.mono BB.out.size))).trans ((But.trn T5.out).trans (But.trn (But.set w5 g 79 _)))
 have IN:=Md.at_in (s:=s.put d vv) I5.out ((i:Int)+1)
 rw [HS.out] at IN
 have RR:=R.turnG (ctx:=ctx) (av:=av) (tv:=tv) (D':={ D.put d vv with at_:=D.at_+1 }) (by rw [← HS.out];exact HI0.out) hA hT hn (by rw [I2.out];exact IN) TT rfl rfl rfl (Pl.put_words R.words d hvw)
 rw [hvv.out,ho2.out] at RR
 exact ⟨rfl,RR.1,RR.2⟩
end Go.Proofs.YtigliofiojkhcaaGreat.Mdl
