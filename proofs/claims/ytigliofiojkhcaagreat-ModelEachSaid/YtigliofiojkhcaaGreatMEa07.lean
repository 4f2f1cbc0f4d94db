import Derived.Test.YtigliofiojkhcaaGreatMEx
import Derived.Test.YtigliofiojkhcaaGreatMRn28
import Derived.Test.YtigliofiojkhcaaGreatMEa02
import Derived.Test.YtigliofiojkhcaaGreatMRn19
set_option linter.unusedVariables false
set_option linter.unusedSimpArgs false
set_option linter.unnecessarySimpa false
namespace Go.Proofs.YtigliofiojkhcaaGreat.Mdl
open Go.RowKit Go.Maps Ins Trc
set_option maxRecDepth 100000
theorem faQL6S565_2_0 (g:Nat)(w:World):(Instr.fieldAt 65 (.pointer (some ⟨g,0,none⟩)) 2).run Tryz.prog w=.ok (.pointer (some ⟨g,3,none⟩)) w:=by simp [go_sem]
theorem faQL6S565_3_0 (g:Nat)(w:World):(Instr.fieldAt 65 (.pointer (some ⟨g,0,none⟩)) 3).run Tryz.prog w=.ok (.pointer (some ⟨g,79,none⟩)) w:=by simp [go_sem]
theorem faQL6S565_0_0 (g:Nat)(w:World):(Instr.fieldAt 65 (.pointer (some ⟨g,0,none⟩)) 0).run Tryz.prog w=.ok (.pointer (some ⟨g,0,none⟩)) w:=by simp [go_sem]
theorem faQL6S524_1_0 (g:Nat)(w:World):(Instr.fieldAt 24 (.pointer (some ⟨g,0,none⟩)) 1).run Tryz.prog w=.ok (.pointer (some ⟨g,1,none⟩)) w:=by simp [go_sem]
theorem faQL6S549_1_3 (g:Nat)(w:World):(Instr.fieldAt 49 (.pointer (some ⟨g,3,none⟩)) 1).run Tryz.prog w=.ok (.pointer (some ⟨g,14,none⟩)) w:=by simp [go_sem]
set_option maxHeartbeats 16000000 in
theorem r6_step_no (E:Env)(F:Fine E)(D:Pl)(H:Runs E D)(g r β:Nat)(W:World)(R:R6 E g r β D W)(kind op width:Int)(k0:0≤kind)(k6:kind≤6)(size:Int)(byReg:Bool)(off imm:Int)(dst src:Int)(d0:0≤dst)(d1:dst<11)(s0:0≤src)(s1:src<11)(hx:E.x D.ix=(Ins.In.mk kind op width size byReg dst src off imm))(hc:(andM D.set (readsM (E.x D.ix)) == readsM (E.x D.ix))=false):
  Calls Tryz.prog 20 #[.pointer (some ⟨g,0,none⟩)] W fun e w'=>e=.returned (.tuple #[.int .i8 3,.bool false])∧R6 E g r β D w'∧TurnT τ6 β W w':=by
 have mo:Tryz.prog.follows .mixedOrders=true:=by kernel_rfl
 obtain ⟨i1,i2⟩:=H.ix
 obtain ⟨i,hi⟩:∃ i,i=D.ix:=⟨_,rfl⟩
 rw [← hi] at hx i1 i2 hc
 have hil:i<E.pl:=i1
 obtain ⟨ctx,av,tv,hin,hA,hT,hn⟩:=R.st
 have p2:W.rangeAt E.pa (E.po+i * 9) (Ins.In.mk kind op width size byReg dst src off imm).cells.toList:=by have:=R.pr.2 i hil;rwa [hx] at this
 have hpl:(i:Int)<64:=by have:=F.len.2;omega
 obtain ⟨s,hs⟩:∃ s,s=md6 E r D ctx av tv:=⟨_,rfl⟩
 rw [← hs] at hin
 have hin0:W.heap[g]?=some (.cells s.cells 65 (0,0)):=hin
 have c1:s.cells[1]?=some (.slice (some ⟨E.pa,E.po,none⟩) E.pl E.pc):=by rw [hs];exact (md6 E r D ctx av tv).get 1 (by decide)
 have c2:s.cells[2]?=some (.pointer (some ⟨r,0,none⟩)):=by rw [hs];exact (md6 E r D ctx av tv).get 2 (by decide)
 have c14:s.cells[14]?=some (.int .i64 D.set):=by rw [hs];exact (md6 E r D ctx av tv).get 14 (by decide)
 have c79:s.cells[79]?=some (.int .i64 (i:Int)):=by rw [← i2,hs];exact (md6 E r D ctx av tv).get 79 (by decide)
 have I2:=Lib.hid i2
 have HS:=Lib.hid hs
 clear i2 hi hs
 have creg:∀ k,k<11→s.cells[3+k]?=some (.int .u64 (D.r k)):=fun k hk=>by rw [s.get _ (by omega),HS.out];unfold Md.cell;rw [if_neg (by omega),if_neg (by omega),if_neg (by omega),if_pos (by omega),show 3+k - 3=k by omega];rfl
 obtain ⟨m0,hm0⟩:∃ m0,m0=readsM (Ins.In.mk kind op width size byReg dst src off imm):=⟨_,rfl⟩
 have hz:=rd_fail (x:=(Ins.In.mk kind op width size byReg dst src off imm)) d0 d1 s0 s1 (by rw [← hx];exact hc)
 rw [← hm0] at hz
 have RD:Hid (∀ w,Calls Tryz.prog 44 #[.agg #[.int .i8 kind,.int .i8 op,.int .i8 width,.int .i8 size,.bool byReg,.int .i8 dst,.int .i8 src,.int .i64 off,.int .i64 imm]] w fun e w'=>e=.returned (.int .i64 m0)∧Below w.heap.size w w'):=Lib.hid (fun w=>by rw [hm0];exact r6_reads (Ins.In.mk kind op width size byReg dst src off imm) w k0 k6 d0 d1 s0 s1)
 clear hm0 hc
 go_enter Tryz.func20,Tryz.ntmps20
 go_wp2_with fail
 refine go_regz (SB 11 12 4 W #[.int .i8 0,.int .i8 0,.int .i8 0,.int .i8 0,.bool false,.int .i8 0,.int .i8 0,.int .i64 0,.int .i64 0] (Ins.In.mk kind op width size byReg dst src off imm).cells 52) [11,12] [4] [some (.pointer (some ⟨g,0,none⟩)),some (.pointer (some ⟨g,0,none⟩)),some (.pointer (some ⟨g,0,none⟩)),some (.pointer (some ⟨g,1,none⟩)),some (.slice (some ⟨E.pa,E.po,none⟩) E.pl E.pc),some (.pointer (some ⟨g,0,none⟩)),some (.pointer (some ⟨g,0,none⟩)),some (.pointer (some ⟨g,79,none⟩)),some (.int .i64 (i:Int)),some (.pointer (some ⟨E.pa,E.po+i * 9,none⟩)),some (.agg (Ins.In.mk kind op width size byReg dst src off imm).cells),none,none] mo SB.loc rfl rfl (by kernel_rfl) (fun fl w1 hfl b _=>SB.start b (hfl 11 (by decide))) (
  zc (@fun fl ax wx cx=>cx.v (ex_mv rfl (cx.rq 0 rfl)) rfl rfl) <|
  zc (@fun fl ax wx cx=>cx.v (ex_nc rfl (cx.u 0 rfl)) rfl rfl) <|
  zc (@fun fl ax wx cx=>cx.v (ex_fa rfl (cx.u 0 rfl) (faQL6S565_0_0 _ _)) rfl rfl) <|
  zc (@fun fl ax wx cx=>cx.v (ex_fa rfl (cx.u 0 rfl) (faQL6S524_1_0 _ _)) rfl rfl) <|
  zc (@fun fl ax wx cx=>cx.v (ex_ld rfl (cx.u 0 rfl) (brow cx.S.1 hin0) c1 Tryz.isAgg22) rfl rfl) <|
  zc (@fun fl ax wx cx=>cx.v (ex_mv rfl (cx.rq 0 rfl)) rfl rfl) <|
  zc (@fun fl ax wx cx=>cx.v (ex_nc rfl (cx.u 0 rfl)) rfl rfl) <|
  zc (@fun fl ax wx cx=>cx.v (ex_fa rfl (cx.u 0 rfl) (faQL6S565_3_0 _ _)) rfl rfl) <|
  zc (@fun fl ax wx cx=>cx.v (ex_ld rfl (cx.u 0 rfl) (brow cx.S.1 hin0) c79 Tryz.isAgg3) rfl rfl) <|
  zc (@fun fl ax wx cx=>cx.v (ex_ixI rfl (cx.u 0 rfl) (cx.u 1 rfl) hil) rfl rfl) <|
  zc (@fun fl ax wx cx=>cx.v (ex_ldw6 rfl (cx.u 0 rfl) (load_mid6 (Ins.In.mk kind op width size byReg dst src off imm) (Ins.rangeAt_below cx.S.1 p2))) rfl rfl) <|
  zc (@fun fl ax wx cx=>cx.vt rfl (by simp [execOp,Act.eval,go_sem]) rfl rfl trivial (SB.alloc cx.S (cx.later 12 (by kernel_rfl)) (by decide) (slot_new cx.sz rfl))) <|
  zc (@fun fl ax wx cx=>(by
    obtain ⟨gx,e1,e2,e3⟩:=cx.S.at_ (cx.did 0 rfl rfl) cx.fi
    exact cx.st rfl (exec_storeR 52 (.tmp 4) (.tmp 23) rfl gx (Ins.In.mk kind op width size byReg dst src off imm).cells e1 (cx.u 1 rfl) e3 (by kernel_rfl) rfl (by simp [Ins.In.cells,Value.oneCell'])) rfl trivial (SB.store cx.S (cx.did 0 rfl rfl) (by decide) e1 (stored_setRow wx gx (Ins.In.mk kind op width size byReg dst src off imm).cells _ _ e3)))) <|
  zn) ?_
 intro aq1 wq1 fq1
 obtain ⟨flq1,hfq1,hsq1⟩:=fq1.s
 obtain ⟨B1,gx,g4,lx,rx⟩:=SB.fin hsq1 (hfq1 11 (by decide)) (hfq1 12 (by decide))
 replace g4:aq1.tmps.getD 4 undef=.pointer (some ⟨gx,0,none⟩):=g4
 replace rx:wq1.heap[gx]?=some (.cells #[.int .i8 kind,.int .i8 op,.int .i8 width,.int .i8 size,.bool byReg,.int .i8 dst,.int .i8 src,.int .i64 off,.int .i64 imm] 52 (0,0)):=rx
 have hin1:=brow B1 hin0
 clear hsq1 hfq1 flq1
 rw [fq1.frame rfl rfl]
 clear fq1
 rw [show outs _ (fun d=>aq1.tmps.getD d undef)=[(13,aq1.tmps.getD 13 undef),(14,aq1.tmps.getD 14 undef),(15,aq1.tmps.getD 15 undef),(16,aq1.tmps.getD 16 undef),(17,aq1.tmps.getD 17 undef),(18,aq1.tmps.getD 18 undef),(19,aq1.tmps.getD 19 undef),(20,aq1.tmps.getD 20 undef),(21,aq1.tmps.getD 21 undef),(22,aq1.tmps.getD 22 undef),(23,aq1.tmps.getD 23 undef),(4,aq1.tmps.getD 4 undef)] by kernel_rfl,g4]
 simp only [putAll,List.setIfInBounds_toArray,List.set_cons_zero,List.set_cons_succ,Exit.then]
 generalize aq1.tmps.getD 13 undef=yq1_13
 generalize aq1.tmps.getD 14 undef=yq1_14
 generalize aq1.tmps.getD 15 undef=yq1_15
 generalize aq1.tmps.getD 16 undef=yq1_16
 generalize aq1.tmps.getD 17 undef=yq1_17
 generalize aq1.tmps.getD 18 undef=yq1_18
 generalize aq1.tmps.getD 19 undef=yq1_19
 generalize aq1.tmps.getD 20 undef=yq1_20
 generalize aq1.tmps.getD 21 undef=yq1_21
 generalize aq1.tmps.getD 22 undef=yq1_22
 generalize aq1.tmps.getD 23 undef=yq1_23
 clear g4 aq1
 clear p2
 go_wp2_with fail
 refine go_regz (fun fl u w=>Below wq1.heap.size wq1 w) [] [] [some (.agg #[.int .i8 kind,.int .i8 op,.int .i8 width,.int .i8 size,.bool byReg,.int .i8 dst,.int .i8 src,.int .i64 off,.int .i64 imm]),some (.int .i64 m0),some (.pointer (some ⟨g,0,none⟩)),some (.pointer (some ⟨g,0,none⟩)),some (.pointer (some ⟨g,3,none⟩)),some (.pointer (some ⟨g,14,none⟩)),some (.int .i64 D.set),some (.int .i64 (bits .andNot .i64 m0 D.set)),some (.bool (bits .andNot .i64 m0 D.set != 0))] mo (fun fl fl' u u' w hK hD h=>h) rfl rfl (by kernel_rfl) (fun fl w1 hfl b _=>b) (
  zc (@fun fl ax wx cx=>cx.v (exec_loadR 52 _ rfl gx 0 (cx.rq 4 rfl) (brow cx.S rx) [.int .i8 kind,.int .i8 op,.int .i8 width,.int .i8 size,.bool byReg,.int .i8 dst,.int .i8 src,.int .i64 off,.int .i64 imm] rfl _ Tryz.underlying52 rfl (by kernel_rfl)) rfl rfl) <|
  zc (@fun fl ax wx cx=>cx.ct rfl rfl (args1 (cx.u 0 rfl)) Tryz.func44 (by decide +kernel) rfl rfl ((RD.out wx).mono (by
    rintro e w' ⟨rfl,b9⟩
    exact ⟨_,rfl,rfl,cx.S.trans (b9.mono cx.S.size)⟩))) <|
  zc (@fun fl ax wx cx=>cx.v (ex_mv rfl (cx.rq 0 rfl)) rfl rfl) <|
  zc (@fun fl ax wx cx=>cx.v (ex_nc rfl (cx.u 0 rfl)) rfl rfl) <|
  zc (@fun fl ax wx cx=>cx.v (ex_fa rfl (cx.u 0 rfl) (faQL6S565_2_0 _ _)) rfl rfl) <|
  zc (@fun fl ax wx cx=>cx.v (ex_fa rfl (cx.u 0 rfl) (faQL6S549_1_3 _ _)) rfl rfl) <|
  zc (@fun fl ax wx cx=>cx.v (ex_ld rfl (cx.u 0 rfl) (brow cx.S hin1) c14 Tryz.isAgg3) rfl rfl) <|
  zc (@fun fl ax wx cx=>cx.v (by simp [execOp,Act.eval,(show ax.tmps.getD 25 undef=.int .i64 m0 from (cx.u 0 rfl)),(show ax.tmps.getD 30 undef=.int .i64 D.set from (cx.u 1 rfl)),go_sem]) rfl rfl) <|
  zc (@fun fl ax wx cx=>cx.v (ex_ne (x:=.tmp 31) rfl (cx.u 0 rfl) rfl) rfl rfl) <|
  zn) ?_
 intro aq2 wq2 fq2
 obtain ⟨flq2,hfq2,hsq2⟩:=fq2.s
 have gq2_32:aq2.tmps.getD 32 undef=.bool (bits .andNot .i64 m0 D.set != 0):=fq2.v 8 rfl rfl rfl
 have B2:=hsq2
 have rx:=brow B2 rx
 have hin2:=brow B2 hin1
 have B:=B1.trans (B2.mono B1.size)
 clear hsq2 hfq2 flq2 B1 B2 hin1
 rw [fq2.frame rfl rfl]
 clear fq2
 rw [show outs _ (fun d=>aq2.tmps.getD d undef)=[(24,aq2.tmps.getD 24 undef),(25,aq2.tmps.getD 25 undef),(26,aq2.tmps.getD 26 undef),(27,aq2.tmps.getD 27 undef),(28,aq2.tmps.getD 28 undef),(29,aq2.tmps.getD 29 undef),(30,aq2.tmps.getD 30 undef),(31,aq2.tmps.getD 31 undef),(32,aq2.tmps.getD 32 undef)] by kernel_rfl,gq2_32]
 simp only [putAll,List.setIfInBounds_toArray,List.set_cons_zero,List.set_cons_succ,Exit.then]
 generalize aq2.tmps.getD 24 undef=yq2_24
 generalize aq2.tmps.getD 25 undef=yq2_25
 generalize aq2.tmps.getD 26 undef=yq2_26
 generalize aq2.tmps.getD 27 undef=yq2_27
 generalize aq2.tmps.getD 28 undef=yq2_28
 generalize aq2.tmps.getD 29 undef=yq2_29
 generalize aq2.tmps.getD 30 undef=yq2_30
 generalize aq2.tmps.getD 31 undef=yq2_31
 clear gq2_32 aq2
 simp only [hz]
 generalize wq2=wB at *
 have HG2:=Lib.hid hin2
 have RX:=Lib.hid rx
 have BB:=Lib.hid B
 have HI0:=Lib.hid hin
 clear hin hin0
 clear rx hin2 B
 go_wp2_with fail
 go_ret2
 exact ⟨rfl,(R.still BB.out).1,(R.still BB.out).2⟩
end Go.Proofs.YtigliofiojkhcaaGreat.Mdl
