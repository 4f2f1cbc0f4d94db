import Derived.Test.YtigliofiojkhcaaGreatMRn11
set_option linter.unusedVariables false
set_option linter.unusedSimpArgs false
set_option linter.unnecessarySimpa false
namespace Go.Proofs.YtigliofiojkhcaaGreat.Mdl
open Go.RowKit
set_option linter.unusedVariables false
set_option linter.unusedSimpArgs false
set_option maxRecDepth 100000
def Mo.jump (s:Mo) (x:Ins.In):Mo:=if holdsB x.op 64 (s.r x.dst.toNat) (operandI s x)=true then { s with at_:=Ins.targetI (s.at_ - 1) x } else s
set_option maxHeartbeats 4000000 in
theorem jump_any (s:Mo) (g d:Nat) (kind op width size:Int) (byReg:Bool) (src off imm:Int) (W:World) (h:s.in_ W g) (hw:s.Words) (hd:d < 11) (s0:0 ≤ src) (s1:src < 11) (t1:1 ≤ s.at_) (t2:s.at_ ≤ 64):
    Calls Tryz.prog 33 #[.pointer (some ⟨g,0,none⟩),.agg (Ins.In.mk kind op width size byReg d src off imm).cells] W fun e w'=>e=.returned (.int .i8 0) ∧ (s.jump (Ins.In.mk kind op width size byReg d src off imm)).in_ w' g ∧ But g W w':=by
  have OP:=Lib.hid (fun W h=>operand_any s g (Ins.In.mk kind op width size byReg d src off imm) W h s0 s1)
  have DO:=Lib.hid (fun W=>holds_any op 64 (s.r d) (operandI s (Ins.In.mk kind op width size byReg d src off imm)) W (hw d).1 (hw d).2 (operandI_word hw _).1 (operandI_word hw _).2)
  have CT:=Lib.hid (fun W h=>continueAt_any s g (Ins.In.mk kind op width size byReg d src off imm) W h t1 t2)
  have HJ:Hid (s.jump (Ins.In.mk kind op width size byReg d src off imm)=if holdsB op 64 (s.r d) (operandI s (Ins.In.mk kind op width size byReg d src off imm))=true then { s with at_:=Ins.targetI (s.at_ - 1) (Ins.In.mk kind op width size byReg d src off imm) } else s):=Lib.hid rfl
  have HR0:∀ w,s.in_ w g → w.cell? ⟨g,2 + d,none⟩=some (.int .u64 (s.r d)):=fun w h=>s.reg h d hd
  have i9:(Tryz.prog.info? 52).map (·.size)=some (Ins.In.mk kind op width size byReg d src off imm).cells.size:=Ins.info_ins
  have HI9:=Lib.hid i9;clear i9
  generalize operandI s (Ins.In.mk kind op width size byReg d src off imm)=y at *
  generalize s.r d=rd at *
  generalize holdsB op 64 rd y=hb at *
  generalize holdsE op 64=q at *
  generalize s.jump (Ins.In.mk kind op width size byReg d src off imm)=sj at *
  generalize Ins.targetI (s.at_ - 1) (Ins.In.mk kind op width size byReg d src off imm)=tg at *
  clear hw s0 s1 t1 t2
  have HR:=Lib.hid HR0;clear HR0
  have hin0:=s.below h (below_new (Below.refl _ W) (.cells (Ins.In.mk kind op width size byReg d src off imm).cells 52))
  have BW0:But g W (W.alloc (.cells (Ins.In.mk kind op width size byReg d src off imm).cells 52)):=But.of_below (below_new (Below.refl _ W) _)
  have HH0:(W.alloc (.cells (Ins.In.mk kind op width size byReg d src off imm).cells 52)).heap[W.heap.size]?=some (.cells (Ins.In.mk kind op width size byReg d src off imm).cells 52 (0,0)):=heap_last W _ _ rfl
  clear h
  unfold Ins.In.cells at BW0 HH0 hin0 ⊢
  simp only at BW0 HH0 hin0 ⊢
  go_enter Tryz.func33,Tryz.ntmps33
  go_wp2_with fail
  generalize W.alloc (.cells #[.int .i8 kind,.int .i8 op,.int .i8 width,.int .i8 size,.bool byReg,.int .i8 d,.int .i8 src,.int .i64 off,.int .i64 imm] 52)=w0 at *
  have BW:=Lib.hid BW0;clear BW0
  have HI:Hid (∀ w,Below w0.heap.size w0 w → s.in_ w g):=Lib.hid (fun w h=>s.below hin0 h)
  have HB:Hid (∀ w,Below w0.heap.size w0 w → w.heap[W.heap.size]?=some (.cells (Ins.In.mk kind op width size byReg d src off imm).cells 52 (0,0))):=Lib.hid (fun w h=>(h.block _ (Array.getElem?_eq_some_iff.1 HH0).1).trans HH0)
  clear HH0 hin0
  have H0:Hid (∀ w,Below w0.heap.size w0 w → w.cell? ⟨W.heap.size,0,none⟩=some (.int .i8 kind)):=Lib.hid (fun w h=>by simp only [World.cell?,HB.out w h];rfl)
  have H1:Hid (∀ w,Below w0.heap.size w0 w → w.cell? ⟨W.heap.size,1,none⟩=some (.int .i8 op)):=Lib.hid (fun w h=>by simp only [World.cell?,HB.out w h];rfl)
  have H2:Hid (∀ w,Below w0.heap.size w0 w → w.cell? ⟨W.heap.size,2,none⟩=some (.int .i8 width)):=Lib.hid (fun w h=>by simp only [World.cell?,HB.out w h];rfl)
  have H3:Hid (∀ w,Below w0.heap.size w0 w → w.cell? ⟨W.heap.size,3,none⟩=some (.int .i8 size)):=Lib.hid (fun w h=>by simp only [World.cell?,HB.out w h];rfl)
  have H4:Hid (∀ w,Below w0.heap.size w0 w → w.cell? ⟨W.heap.size,4,none⟩=some (.bool byReg)):=Lib.hid (fun w h=>by simp only [World.cell?,HB.out w h];rfl)
  have H5:Hid (∀ w,Below w0.heap.size w0 w → w.cell? ⟨W.heap.size,5,none⟩=some (.int .i8 d)):=Lib.hid (fun w h=>by simp only [World.cell?,HB.out w h];rfl)
  have H6:Hid (∀ w,Below w0.heap.size w0 w → w.cell? ⟨W.heap.size,6,none⟩=some (.int .i8 src)):=Lib.hid (fun w h=>by simp only [World.cell?,HB.out w h];rfl)
  have H7:Hid (∀ w,Below w0.heap.size w0 w → w.cell? ⟨W.heap.size,7,none⟩=some (.int .i64 off)):=Lib.hid (fun w h=>by simp only [World.cell?,HB.out w h];rfl)
  have H8:Hid (∀ w,Below w0.heap.size w0 w → w.cell? ⟨W.heap.size,8,none⟩=some (.int .i64 imm)):=Lib.hid (fun w h=>by simp only [World.cell?,HB.out w h];rfl)
  refine wp_region_inv (fun _=>100000) (fun w=>Below w0.heap.size w0 w) (TabV [fun v=>v=.pointer (some ⟨W.heap.size,1,none⟩),fun v=>v=.int .i8 op,fun v=>v=.pointer (some ⟨g,0,none⟩),fun v=>v=.pointer (some ⟨W.heap.size,5,none⟩),fun v=>v=.int .i8 d,fun v=>v=.pointer (some ⟨g,0,none⟩),fun v=>v=.pointer (some ⟨g,2,none⟩),fun v=>v=.pointer (some ⟨g,2 + d,none⟩),fun v=>v=.int .u64 rd,fun v=>v=.pointer (some ⟨g,0,none⟩),fun v=>v=.agg (Ins.In.mk kind op width size byReg d src off imm).cells,fun v=>v=.int .u64 y,fun v=>v=.tuple #[.bool hb,.int .i64 q],fun v=>v=.tuple #[.bool hb,.int .i64 q],fun v=>v=.bool hb,fun v=>v=.int .i64 q,fun v=>v=.bool hb,fun v=>v=.int .i64 q]) (by kernel_rfl) (back_of (by kernel_rfl)) (dst_of (by kernel_rfl)) (dep_of (by kernel_rfl)) (in_of (by kernel_rfl)) (Below.drew (Below.refl _ _)) ?hop ?hq
  case hop=>
    intro i o a w ho hS hdf hsz hrest hdone
    have t0:a.tmps.getD 0 undef=.pointer (some ⟨g,0,none⟩):=hrest 0 (not_of (by kernel_rfl))
    have t3:a.tmps.getD 3 undef=.pointer (some ⟨W.heap.size,0,none⟩):=hrest 3 (not_of (by kernel_rfl))
    have hs:a.tmps.size=27:=hsz.trans rfl
    have hi:i < 18:=(Array.getElem?_eq_some_iff.1 ho).1
    clear hrest hsz hdf
    obtain rfl | rfl | rfl | rfl | rfl | rfl | rfl | rfl | rfl | rfl | rfl | rfl | rfl | rfl | rfl | rfl | rfl | rfl:i=0 ∨ i=1 ∨ i=2 ∨ i=3 ∨ i=4 ∨ i=5 ∨ i=6 ∨ i=7 ∨ i=8 ∨ i=9 ∨ i=10 ∨ i=11 ∨ i=12 ∨ i=13 ∨ i=14 ∨ i=15 ∨ i=16 ∨ i=17:=by omega
    · obtain rfl:=Option.some.inj (show some _=some o from ho)
      refine wpOp_val (v:=.pointer (some ⟨W.heap.size,1,none⟩)) (w':=w) rfl rfl ?_ ⟨_,rfl,?_,hS,fun _ _ _ h=>h⟩
      · simp [execOp,Act.eval,t3,go_sem]
      · rw [own_put rfl (by rw [hs];omega)];exact rfl
    · obtain rfl:=Option.some.inj (show some _=some o from ho)
      have s8:a.tmps.getD 8 undef=.pointer (some ⟨W.heap.size,1,none⟩):=hdone _ (Array.mem_of_getElem? (i:=0) rfl) rfl _ rfl
      refine wpOp_val (v:=.int .i8 op) (w':=w) rfl rfl ?_ ⟨_,rfl,?_,hS,fun _ _ _ h=>h⟩
      · (have hc:=(H1.out w hS);simp [execOp,Act.eval,s8,hc,go_sem])
      · rw [own_put rfl (by rw [hs];omega)];exact rfl
    · obtain rfl:=Option.some.inj (show some _=some o from ho)
      refine wpOp_val (v:=.pointer (some ⟨g,0,none⟩)) (w':=w) rfl rfl ?_ ⟨_,rfl,?_,hS,fun _ _ _ h=>h⟩
      · simp [execOp,Act.eval,t0]
      · rw [own_put rfl (by rw [hs];omega)];exact rfl
    · obtain rfl:=Option.some.inj (show some _=some o from ho)
      refine wpOp_val (v:=.pointer (some ⟨W.heap.size,5,none⟩)) (w':=w) rfl rfl ?_ ⟨_,rfl,?_,hS,fun _ _ _ h=>h⟩
      · simp [execOp,Act.eval,t3,go_sem]
      · rw [own_put rfl (by rw [hs];omega)];exact rfl
    · obtain rfl:=Option.some.inj (show some _=some o from ho)
      have s11:a.tmps.getD 11 undef=.pointer (some ⟨W.heap.size,5,none⟩):=hdone _ (Array.mem_of_getElem? (i:=0) rfl) rfl _ rfl
      refine wpOp_val (v:=.int .i8 d) (w':=w) rfl rfl ?_ ⟨_,rfl,?_,hS,fun _ _ _ h=>h⟩
      · (have hc:=(H5.out w hS);simp [execOp,Act.eval,s11,hc,go_sem])
      · rw [own_put rfl (by rw [hs];omega)];exact rfl
    · obtain rfl:=Option.some.inj (show some _=some o from ho)
      have s10:a.tmps.getD 10 undef=.pointer (some ⟨g,0,none⟩):=hdone _ (Array.mem_of_getElem? (i:=0) rfl) rfl _ rfl
      refine wpOp_val (v:=.pointer (some ⟨g,0,none⟩)) (w':=w) rfl rfl ?_ ⟨_,rfl,?_,hS,fun _ _ _ h=>h⟩
      · simp [execOp,Act.eval,s10,go_sem]
      · rw [own_put rfl (by rw [hs];omega)];exact rfl
    · obtain rfl:=Option.some.inj (show some _=some o from ho)
      have s13:a.tmps.getD 13 undef=.pointer (some ⟨g,0,none⟩):=hdone _ (Array.mem_of_getElem? (i:=0) rfl) rfl _ rfl
      refine wpOp_val (v:=.pointer (some ⟨g,2,none⟩)) (w':=w) rfl rfl ?_ ⟨_,rfl,?_,hS,fun _ _ _ h=>h⟩
      · simp [execOp,Act.eval,s13,go_sem]
      · rw [own_put rfl (by rw [hs];omega)];exact rfl
    · obtain rfl:=Option.some.inj (show some _=some o from ho)
      have s14:a.tmps.getD 14 undef=.pointer (some ⟨g,2,none⟩):=hdone _ (Array.mem_of_getElem? (i:=0) rfl) rfl _ rfl
      have s12:a.tmps.getD 12 undef=.int .i8 d:=hdone _ (Array.mem_of_getElem? (i:=1) rfl) rfl _ rfl
      refine wpOp_val (v:=.pointer (some ⟨g,2 + d,none⟩)) (w':=w) rfl rfl ?_ ⟨_,rfl,?_,hS,fun _ _ _ h=>h⟩
      · (simp [execOp,Act.eval,s14,s12,go_sem];try exact fun h=>absurd h (by omega))
      · rw [own_put rfl (by rw [hs];omega)];exact rfl
    · obtain rfl:=Option.some.inj (show some _=some o from ho)
      have s15:a.tmps.getD 15 undef=.pointer (some ⟨g,2 + d,none⟩):=hdone _ (Array.mem_of_getElem? (i:=0) rfl) rfl _ rfl
      refine wpOp_val (v:=.int .u64 rd) (w':=w) rfl rfl ?_ ⟨_,rfl,?_,hS,fun _ _ _ h=>h⟩
      · (have hc:=(HR.out w (HI.out w hS));simp [execOp,Act.eval,s15,hc,go_sem])
      · rw [own_put rfl (by rw [hs];omega)];exact rfl
    · obtain rfl:=Option.some.inj (show some _=some o from ho)
      refine wpOp_val (v:=.pointer (some ⟨g,0,none⟩)) (w':=w) rfl rfl ?_ ⟨_,rfl,?_,hS,fun _ _ _ h=>h⟩
      · simp [execOp,Act.eval,t0]
      · rw [own_put rfl (by rw [hs];omega)];exact rfl
    · obtain rfl:=Option.some.inj (show some _=some o from ho)
      refine wpOp_val (v:=.agg (Ins.In.mk kind op width size byReg d src off imm).cells) (w':=w) rfl rfl ?_ ⟨_,rfl,?_,hS,fun _ _ _ h=>h⟩
      · simp [execOp,Act.eval,t3,Instr.loadAt,Instr.sureAddr,Ins.load_boxed (Ins.In.mk kind op width size byReg d src off imm) (HB.out w hS),Result.andThen_ok]
      · rw [own_put rfl (by rw [hs];omega)];exact rfl
    · obtain rfl:=Option.some.inj (show some _=some o from ho)
      have s17:a.tmps.getD 17 undef=.pointer (some ⟨g,0,none⟩):=hdone _ (Array.mem_of_getElem? (i:=0) rfl) rfl _ rfl
      have s18:a.tmps.getD 18 undef=.agg (Ins.In.mk kind op width size byReg d src off imm).cells:=hdone _ (Array.mem_of_getElem? (i:=1) rfl) rfl _ rfl
      refine wpOp_call (f:=64) (args:=#[.pointer (some ⟨g,0,none⟩),.agg (Ins.In.mk kind op width size byReg d src off imm).cells]) rfl rfl ?_ ?_
      · simp [go_sem,execOp,Act.eval,Deferred.ofValue,callFunc,Tryz.func64,Tryz.f64,s17,s18,resolve,invoke]
      · refine (OP.out w (HI.out w hS)).mono ?_
        rintro e w' ⟨rfl,b9⟩
        refine ⟨_,rfl,_,rfl,?_,hS.trans (b9.mono hS.size),fun _ _ _ h=>h⟩
        rw [own_put rfl (by rw [hs];omega)];exact rfl
    · obtain rfl:=Option.some.inj (show some _=some o from ho)
      have s9:a.tmps.getD 9 undef=.int .i8 op:=hdone _ (Array.mem_of_getElem? (i:=0) rfl) rfl _ rfl
      have s16:a.tmps.getD 16 undef=.int .u64 rd:=hdone _ (Array.mem_of_getElem? (i:=1) rfl) rfl _ rfl
      have s19:a.tmps.getD 19 undef=.int .u64 y:=hdone _ (Array.mem_of_getElem? (i:=2) rfl) rfl _ rfl
      refine wpOp_call (f:=68) (args:=#[.int .i8 op,.int .i8 64,.int .u64 rd,.int .u64 y]) rfl rfl ?_ ?_
      · simp [go_sem,execOp,Act.eval,Deferred.ofValue,callFunc,Tryz.func68,Tryz.f68,s9,s16,s19,resolve,invoke]
      · refine (DO.out w).mono ?_
        rintro e w' ⟨rfl,rfl⟩
        refine ⟨_,rfl,_,rfl,?_,hS,fun _ _ _ h=>h⟩
        rw [own_put rfl (by rw [hs];omega)];exact rfl
    · obtain rfl:=Option.some.inj (show some _=some o from ho)
      have s20:a.tmps.getD 20 undef=.tuple #[.bool hb,.int .i64 q]:=hdone _ (Array.mem_of_getElem? (i:=0) rfl) rfl _ rfl
      refine wpOp_val (v:=.tuple #[.bool hb,.int .i64 q]) (w':=w) rfl rfl ?_ ⟨_,rfl,?_,hS,fun _ _ _ h=>h⟩
      · simp [execOp,Act.eval,s20]
      · rw [own_put rfl (by rw [hs];omega)];exact rfl
    · obtain rfl:=Option.some.inj (show some _=some o from ho)
      have s7:a.tmps.getD 7 undef=.tuple #[.bool hb,.int .i64 q]:=hdone _ (Array.mem_of_getElem? (i:=0) rfl) rfl _ rfl
      refine wpOp_val (v:=.bool hb) (w':=w) rfl rfl ?_ ⟨_,rfl,?_,hS,fun _ _ _ h=>h⟩
      · simp [execOp,Act.eval,s7,go_sem]
      · rw [own_put rfl (by rw [hs];omega)];exact rfl
    · obtain rfl:=Option.some.inj (show some _=some o from ho)
      have s7:a.tmps.getD 7 undef=.tuple #[.bool hb,.int .i64 q]:=hdone _ (Array.mem_of_getElem? (i:=0) rfl) rfl _ rfl
      refine wpOp_val (v:=.int .i64 q) (w':=w) rfl rfl ?_ ⟨_,rfl,?_,hS,fun _ _ _ h=>h⟩
      · simp [execOp,Act.eval,s7,go_sem]
      · rw [own_put rfl (by rw [hs];omega)];exact rfl
    · obtain rfl:=Option.some.inj (show some _=some o from ho)
      have s21:a.tmps.getD 21 undef=.bool hb:=hdone _ (Array.mem_of_getElem? (i:=0) rfl) rfl _ rfl
      refine wpOp_val (v:=.bool hb) (w':=w) rfl rfl ?_ ⟨_,rfl,?_,hS,fun _ _ _ h=>h⟩
      · simp [execOp,Act.eval,s21]
      · rw [own_put rfl (by rw [hs];omega)];exact rfl
    · obtain rfl:=Option.some.inj (show some _=some o from ho)
      have s22:a.tmps.getD 22 undef=.int .i64 q:=hdone _ (Array.mem_of_getElem? (i:=0) rfl) rfl _ rfl
      refine wpOp_val (v:=.int .i64 q) (w':=w) rfl rfl ?_ ⟨_,rfl,?_,hS,fun _ _ _ h=>h⟩
      · simp [execOp,Act.eval,s22]
      · rw [own_put rfl (by rw [hs];omega)];exact rfl
  case hq=>
    intro u9 w' hS hR9
    have f5:u9 5=.bool hb:=hR9 16 _ rfl
    clear hR9
    rw [show outs _ u9=[(8,u9 8),(9,u9 9),(10,u9 10),(11,u9 11),(12,u9 12),(13,u9 13),(14,u9 14),(15,u9 15),(16,u9 16),(17,u9 17),(18,u9 18),(19,u9 19),(20,u9 20),(7,u9 7),(21,u9 21),(22,u9 22),(5,u9 5),(6,u9 6)] by kernel_rfl,f5]
    simp only [putAll,List.setIfInBounds_toArray,List.set_cons_zero,List.set_cons_succ]
    generalize u9 8=x8
    generalize u9 9=x9
    generalize u9 10=x10
    generalize u9 11=x11
    generalize u9 12=x12
    generalize u9 13=x13
    generalize u9 14=x14
    generalize u9 15=x15
    generalize u9 16=x16
    generalize u9 17=x17
    generalize u9 18=x18
    generalize u9 19=x19
    generalize u9 20=x20
    generalize u9 7=x7
    generalize u9 21=x21
    generalize u9 22=x22
    generalize u9 6=x6
    clear f5 u9
    have HS:=Lib.hid hS
    clear hS
    cases hb
    · have e:=HJ.out
      simp only [Bool.false_eq_true,if_false] at e
      subst e
      go_wp2_with fail
      go_ret
      exact ⟨rfl,HI.out _ HS.out,BW.out.trans (But.of_below HS.out)⟩
    · have e:=HJ.out
      simp only [if_true] at e
      rw [← e] at CT
      clear e
      go_wp2_with (refine (halt_load 52 _ rfl ?_))
      refine ⟨?_,trivial⟩
      refine wpList_load_row rfl 52 _ rfl W.heap.size rfl _ _ _ _ (HB.out _ HS.out) Tryz.underlying52 rfl HI9.out ?_
      go_wp2_with fail
      refine (CT.out _ (HI.out _ HS.out)).mono ?_
      rintro e w2 ⟨rfl,p2,b2⟩
      have P2:=Lib.hid p2
      have B2:=Lib.hid b2
      clear p2 b2
      go_wp2_with fail
      go_ret
      exact ⟨rfl,P2.out,BW.out.trans ((But.of_below HS.out).trans B2.out)⟩
end Go.Proofs.YtigliofiojkhcaaGreat.Mdl
