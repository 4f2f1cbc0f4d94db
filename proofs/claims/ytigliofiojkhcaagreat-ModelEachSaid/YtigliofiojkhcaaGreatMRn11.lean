import Derived.Test.YtigliofiojkhcaaGreatMRn10
set_option linter.unusedVariables false
set_option linter.unusedSimpArgs false
set_option linter.unnecessarySimpa false
namespace Go.Proofs.YtigliofiojkhcaaGreat.Mdl
open Go.RowKit
set_option linter.unusedVariables false
set_option linter.unusedSimpArgs false
set_option maxRecDepth 100000
theorem operand_any (s:Mo) (g:Nat) (x:Ins.In) (W:World) (h:s.in_ W g) (h0:0 ≤ x.src) (h1:x.src < 11):
    Calls Tryz.prog 64 #[.pointer (some ⟨g,0,none⟩),.agg x.cells] W fun e w'=>e=.returned (.int .u64 (operandI s x)) ∧ Below W.heap.size W w':=by
  obtain ⟨kind,op,width,size,byReg,dst,src,off,imm⟩:=x
  simp only at h0 h1
  cases byReg
  · exact operand_imm s g kind op width size dst src off imm W h
  · obtain ⟨n,rfl⟩:=Int.eq_ofNat_of_zero_le h0
    exact operand_reg s g kind op width size dst off imm n W h (by omega)
def Mo.Words (s:Mo):Prop:=∀ k,0 ≤ s.r k ∧ s.r k < 18446744073709551616
theorem operandI_word {s:Mo} (h:s.Words) (x:Ins.In):0 ≤ operandI s x ∧ operandI s x < 18446744073709551616:=by
  unfold operandI
  split
  · exact h _
  · omega
set_option maxHeartbeats 4000000 in
theorem alu_any (s:Mo) (g d:Nat) (kind op width size:Int) (byReg:Bool) (src off imm:Int) (W:World) (h:s.in_ W g) (hw:s.Words) (hd:d < 11) (s0:0 ≤ src) (s1:src < 11):
    Calls Tryz.prog 30 #[.pointer (some ⟨g,0,none⟩),.agg (Ins.In.mk kind op width size byReg d src off imm).cells] W fun e w'=>e=.returned (.int .i8 0) ∧ (s.put d (doI op width (s.r d) (operandI s (Ins.In.mk kind op width size byReg d src off imm)))).in_ w' g ∧ But g W w':=by
  have OP:=Lib.hid (fun W h=>operand_any s g (Ins.In.mk kind op width size byReg d src off imm) W h s0 s1)
  have DO:=Lib.hid (fun W=>do_any op width (s.r d) (operandI s (Ins.In.mk kind op width size byReg d src off imm)) W (hw d).1 (hw d).2 (operandI_word hw _).1 (operandI_word hw _).2)
  have HR0:∀ w,s.in_ w g → w.cell? ⟨g,2 + d,none⟩=some (.int .u64 (s.r d)):=fun w h=>s.reg h d hd
  generalize operandI s (Ins.In.mk kind op width size byReg d src off imm)=y at *
  generalize s.r d=rd at *
  generalize doI op width rd y=vv at *
  generalize doE op width=q at *
  clear hw s0 s1
  have HR:=Lib.hid HR0;clear HR0
  have hin0:=s.below h (below_new (Below.refl _ W) (.cells (Ins.In.mk kind op width size byReg d src off imm).cells 52))
  have BW0:But g W (W.alloc (.cells (Ins.In.mk kind op width size byReg d src off imm).cells 52)):=But.of_below (below_new (Below.refl _ W) _)
  have HH0:(W.alloc (.cells (Ins.In.mk kind op width size byReg d src off imm).cells 52)).heap[W.heap.size]?=some (.cells (Ins.In.mk kind op width size byReg d src off imm).cells 52 (0,0)):=heap_last W _ _ rfl
  clear h
  unfold Ins.In.cells at BW0 HH0 hin0 ⊢
  simp only at BW0 HH0 hin0 ⊢
  go_enter Tryz.func30,Tryz.ntmps30
  go_wp2_with fail
  generalize W.alloc (.cells #[.int .i8 kind,.int .i8 op,.int .i8 width,.int .i8 size,.bool byReg,.int .i8 d,.int .i8 src,.int .i64 off,.int .i64 imm] 52)=w0 at *
  have BW:=Lib.hid BW0;clear BW0
  have HI:Hid (∀ w,Below w0.heap.size w0 w → s.in_ w g):=Lib.hid (fun w h=>s.below hin0 h)
  have HB:Hid (∀ w,Below w0.heap.size w0 w → w.heap[W.heap.size]?=some (.cells (Ins.In.mk kind op width size byReg d src off imm).cells 52 (0,0))):=Lib.hid (fun w h=>(h.block _ (Array.getElem?_eq_some_iff.1 HH0).1).trans HH0)
  clear HH0 hin0
  have H0:Hid (∀ w,Below w0.heap.size w0 w → w.cell? ⟨W.heap.size,0,none⟩=some (.int .i8 kind)):=Lib.hid (fun w h=>by simp only [World.cell?,HB.out w h];rfl)
  have H1:Hid (∀ w,Below w0.heap.size w0 w → w.cell? ⟨W.heap.size,1,none⟩=some (.int .i8 op)):=Lib.hid (fun w h=>by simp only [World.cell?,HB.out w h];rfl)
  have H2:Hid (∀ w,Below w0.heap.size w0 w → w.cell? ⟨W.heap.size,2,none⟩=some (.int .i8 width)):=Lib.hid (fun w h=>by simp only [World.cell?,HB.out w h];rfl)
  have H3:Hid (∀ w,Below w0.heap.size w0 w → w.cell? ⟨W.heap.size,3,none⟩=some (.int .i8 size)):=Lib.hid (fun w h=>by simp only [World.cell?,HB.out w h];rfl)
  have H4:Hid (∀ w,Below w0.heap.size w0 w → w.cell? ⟨W.heap.size,4,none⟩=some (.bool byReg)):=Lib.hid (fun w h=>by simp only [World.cell?,HB.out w h];rfl)
  have H5:Hid (∀ w,Below w0.heap.size w0 w → w.cell? ⟨W.heap.size,5,none⟩=some (.int .i8 d)):=Lib.hid (fun w h=>by simp only [World.cell?,HB.out w h];rfl)
  have H6:Hid (∀ w,Below w0.heap.size w0 w → w.cell? ⟨W.heap.size,6,none⟩=some (.int .i8 src)):=Lib.hid (fun w h=>by simp only [World.cell?,HB.out w h];rfl)
  have H7:Hid (∀ w,Below w0.heap.size w0 w → w.cell? ⟨W.heap.size,7,none⟩=some (.int .i64 off)):=Lib.hid (fun w h=>by simp only [World.cell?,HB.out w h];rfl)
  have H8:Hid (∀ w,Below w0.heap.size w0 w → w.cell? ⟨W.heap.size,8,none⟩=some (.int .i64 imm)):=Lib.hid (fun w h=>by simp only [World.cell?,HB.out w h];rfl)
  refine wp_region_inv (fun _=>100000) (fun w=>Below w0.heap.size w0 w) (TabV [fun v=>v=.pointer (some ⟨W.heap.size,1,none⟩),fun v=>v=.int .i8 op,fun v=>v=.pointer (some ⟨W.heap.size,2,none⟩),fun v=>v=.int .i8 width,fun v=>v=.pointer (some ⟨g,0,none⟩),fun v=>v=.pointer (some ⟨W.heap.size,5,none⟩),fun v=>v=.int .i8 d,fun v=>v=.pointer (some ⟨g,0,none⟩),fun v=>v=.pointer (some ⟨g,2,none⟩),fun v=>v=.pointer (some ⟨g,2 + d,none⟩),fun v=>v=.int .u64 rd,fun v=>v=.pointer (some ⟨g,0,none⟩),fun v=>v=.agg (Ins.In.mk kind op width size byReg d src off imm).cells,fun v=>v=.int .u64 y,fun v=>v=.tuple #[.int .u64 vv,.int .i64 q],fun v=>v=.tuple #[.int .u64 vv,.int .i64 q],fun v=>v=.int .u64 vv,fun v=>v=.int .i64 q,fun v=>v=.int .u64 vv,fun v=>v=.int .i64 q]) (by kernel_rfl) (back_of (by kernel_rfl)) (dst_of (by kernel_rfl)) (dep_of (by kernel_rfl)) (in_of (by kernel_rfl)) (Below.drew (Below.refl _ _)) ?hop ?hq
  case hop=>
    intro i o a w ho hS hdf hsz hrest hdone
    have t0:a.tmps.getD 0 undef=.pointer (some ⟨g,0,none⟩):=hrest 0 (not_of (by kernel_rfl))
    have t3:a.tmps.getD 3 undef=.pointer (some ⟨W.heap.size,0,none⟩):=hrest 3 (not_of (by kernel_rfl))
    have hs:a.tmps.size=30:=hsz.trans rfl
    have hi:i < 20:=(Array.getElem?_eq_some_iff.1 ho).1
    clear hrest hsz hdf
    obtain rfl | rfl | rfl | rfl | rfl | rfl | rfl | rfl | rfl | rfl | rfl | rfl | rfl | rfl | rfl | rfl | rfl | rfl | rfl | rfl:i=0 ∨ i=1 ∨ i=2 ∨ i=3 ∨ i=4 ∨ i=5 ∨ i=6 ∨ i=7 ∨ i=8 ∨ i=9 ∨ i=10 ∨ i=11 ∨ i=12 ∨ i=13 ∨ i=14 ∨ i=15 ∨ i=16 ∨ i=17 ∨ i=18 ∨ i=19:=by omega
    · obtain rfl:=Option.some.inj (show some _=some o from ho)
      refine wpOp_val (v:=.pointer (some ⟨W.heap.size,1,none⟩)) (w':=w) rfl rfl ?_ ⟨_,rfl,?_,hS,fun _ _ _ h=>h⟩
      · simp [execOp,Act.eval,t3,go_sem]
      · rw [own_put rfl (by rw [hs];omega)];exact rfl
    · obtain rfl:=Option.some.inj (show some _=some o from ho)
      have s8:a.tmps.getD 8 undef=.pointer (some ⟨W.heap.size,1,none⟩):=hdone _ (Array.mem_of_getElem? (i:=0) rfl) rfl _ rfl
      refine wpOp_val (v:=.int .i8 op) (w':=w) rfl rfl ?_ ⟨_,rfl,?_,hS,fun _ _ _ h=>h⟩
      · (have hc:=(H1.out w hS);simp [execOp,Act.eval,s8,hc,go_sem])
      · rw [own_put rfl (by rw [hs];omega)];exact rfl
    · obtain rfl:=Option.some.inj (show some _=some o from ho)
      refine wpOp_val (v:=.pointer (some ⟨W.heap.size,2,none⟩)) (w':=w) rfl rfl ?_ ⟨_,rfl,?_,hS,fun _ _ _ h=>h⟩
      · simp [execOp,Act.eval,t3,go_sem]
      · rw [own_put rfl (by rw [hs];omega)];exact rfl
    · obtain rfl:=Option.some.inj (show some _=some o from ho)
      have s10:a.tmps.getD 10 undef=.pointer (some ⟨W.heap.size,2,none⟩):=hdone _ (Array.mem_of_getElem? (i:=0) rfl) rfl _ rfl
      refine wpOp_val (v:=.int .i8 width) (w':=w) rfl rfl ?_ ⟨_,rfl,?_,hS,fun _ _ _ h=>h⟩
      · (have hc:=(H2.out w hS);simp [execOp,Act.eval,s10,hc,go_sem])
      · rw [own_put rfl (by rw [hs];omega)];exact rfl
    · obtain rfl:=Option.some.inj (show some _=some o from ho)
      refine wpOp_val (v:=.pointer (some ⟨g,0,none⟩)) (w':=w) rfl rfl ?_ ⟨_,rfl,?_,hS,fun _ _ _ h=>h⟩
      · simp [execOp,Act.eval,t0]
      · rw [own_put rfl (by rw [hs];omega)];exact rfl
    · obtain rfl:=Option.some.inj (show some _=some o from ho)
      refine wpOp_val (v:=.pointer (some ⟨W.heap.size,5,none⟩)) (w':=w) rfl rfl ?_ ⟨_,rfl,?_,hS,fun _ _ _ h=>h⟩
      · simp [execOp,Act.eval,t3,go_sem]
      · rw [own_put rfl (by rw [hs];omega)];exact rfl
    · obtain rfl:=Option.some.inj (show some _=some o from ho)
      have s13:a.tmps.getD 13 undef=.pointer (some ⟨W.heap.size,5,none⟩):=hdone _ (Array.mem_of_getElem? (i:=0) rfl) rfl _ rfl
      refine wpOp_val (v:=.int .i8 d) (w':=w) rfl rfl ?_ ⟨_,rfl,?_,hS,fun _ _ _ h=>h⟩
      · (have hc:=(H5.out w hS);simp [execOp,Act.eval,s13,hc,go_sem])
      · rw [own_put rfl (by rw [hs];omega)];exact rfl
    · obtain rfl:=Option.some.inj (show some _=some o from ho)
      have s12:a.tmps.getD 12 undef=.pointer (some ⟨g,0,none⟩):=hdone _ (Array.mem_of_getElem? (i:=0) rfl) rfl _ rfl
      refine wpOp_val (v:=.pointer (some ⟨g,0,none⟩)) (w':=w) rfl rfl ?_ ⟨_,rfl,?_,hS,fun _ _ _ h=>h⟩
      · simp [execOp,Act.eval,s12,go_sem]
      · rw [own_put rfl (by rw [hs];omega)];exact rfl
    · obtain rfl:=Option.some.inj (show some _=some o from ho)
      have s15:a.tmps.getD 15 undef=.pointer (some ⟨g,0,none⟩):=hdone _ (Array.mem_of_getElem? (i:=0) rfl) rfl _ rfl
      refine wpOp_val (v:=.pointer (some ⟨g,2,none⟩)) (w':=w) rfl rfl ?_ ⟨_,rfl,?_,hS,fun _ _ _ h=>h⟩
      · simp [execOp,Act.eval,s15,go_sem]
      · rw [own_put rfl (by rw [hs];omega)];exact rfl
    · obtain rfl:=Option.some.inj (show some _=some o from ho)
      have s16:a.tmps.getD 16 undef=.pointer (some ⟨g,2,none⟩):=hdone _ (Array.mem_of_getElem? (i:=0) rfl) rfl _ rfl
      have s14:a.tmps.getD 14 undef=.int .i8 d:=hdone _ (Array.mem_of_getElem? (i:=1) rfl) rfl _ rfl
      refine wpOp_val (v:=.pointer (some ⟨g,2 + d,none⟩)) (w':=w) rfl rfl ?_ ⟨_,rfl,?_,hS,fun _ _ _ h=>h⟩
      · (simp [execOp,Act.eval,s16,s14,go_sem];try exact fun h=>absurd h (by omega))
      · rw [own_put rfl (by rw [hs];omega)];exact rfl
    · obtain rfl:=Option.some.inj (show some _=some o from ho)
      have s17:a.tmps.getD 17 undef=.pointer (some ⟨g,2 + d,none⟩):=hdone _ (Array.mem_of_getElem? (i:=0) rfl) rfl _ rfl
      refine wpOp_val (v:=.int .u64 rd) (w':=w) rfl rfl ?_ ⟨_,rfl,?_,hS,fun _ _ _ h=>h⟩
      · (have hc:=(HR.out w (HI.out w hS));simp [execOp,Act.eval,s17,hc,go_sem])
      · rw [own_put rfl (by rw [hs];omega)];exact rfl
    · obtain rfl:=Option.some.inj (show some _=some o from ho)
      refine wpOp_val (v:=.pointer (some ⟨g,0,none⟩)) (w':=w) rfl rfl ?_ ⟨_,rfl,?_,hS,fun _ _ _ h=>h⟩
      · simp [execOp,Act.eval,t0]
      · rw [own_put rfl (by rw [hs];omega)];exact rfl
    · obtain rfl:=Option.some.inj (show some _=some o from ho)
      refine wpOp_val (v:=.agg (Ins.In.mk kind op width size byReg d src off imm).cells) (w':=w) rfl rfl ?_ ⟨_,rfl,?_,hS,fun _ _ _ h=>h⟩
      · simp [execOp,Act.eval,t3,Instr.loadAt,Instr.sureAddr,Ins.load_boxed (Ins.In.mk kind op width size byReg d src off imm) (HB.out w hS),Result.andThen_ok]
      · rw [own_put rfl (by rw [hs];omega)];exact rfl
    · obtain rfl:=Option.some.inj (show some _=some o from ho)
      have s19:a.tmps.getD 19 undef=.pointer (some ⟨g,0,none⟩):=hdone _ (Array.mem_of_getElem? (i:=0) rfl) rfl _ rfl
      have s20:a.tmps.getD 20 undef=.agg (Ins.In.mk kind op width size byReg d src off imm).cells:=hdone _ (Array.mem_of_getElem? (i:=1) rfl) rfl _ rfl
      refine wpOp_call (f:=64) (args:=#[.pointer (some ⟨g,0,none⟩),.agg (Ins.In.mk kind op width size byReg d src off imm).cells]) rfl rfl ?_ ?_
      · simp [go_sem,execOp,Act.eval,Deferred.ofValue,callFunc,Tryz.func64,Tryz.f64,s19,s20,resolve,invoke]
      · refine (OP.out w (HI.out w hS)).mono ?_
        rintro e w' ⟨rfl,b9⟩
        refine ⟨_,rfl,_,rfl,?_,hS.trans (b9.mono hS.size),fun _ _ _ h=>h⟩
        rw [own_put rfl (by rw [hs];omega)];exact rfl
    · obtain rfl:=Option.some.inj (show some _=some o from ho)
      have s9:a.tmps.getD 9 undef=.int .i8 op:=hdone _ (Array.mem_of_getElem? (i:=0) rfl) rfl _ rfl
      have s11:a.tmps.getD 11 undef=.int .i8 width:=hdone _ (Array.mem_of_getElem? (i:=1) rfl) rfl _ rfl
      have s18:a.tmps.getD 18 undef=.int .u64 rd:=hdone _ (Array.mem_of_getElem? (i:=2) rfl) rfl _ rfl
      have s21:a.tmps.getD 21 undef=.int .u64 y:=hdone _ (Array.mem_of_getElem? (i:=3) rfl) rfl _ rfl
      refine wpOp_call (f:=63) (args:=#[.int .i8 op,.int .i8 width,.int .u64 rd,.int .u64 y]) rfl rfl ?_ ?_
      · simp [go_sem,execOp,Act.eval,Deferred.ofValue,callFunc,Tryz.func63,Tryz.f63,s9,s11,s18,s21,resolve,invoke]
      · refine (DO.out w).mono ?_
        rintro e w' ⟨rfl,b9⟩
        refine ⟨_,rfl,_,rfl,?_,hS.trans (b9.mono hS.size),fun _ _ _ h=>h⟩
        rw [own_put rfl (by rw [hs];omega)];exact rfl
    · obtain rfl:=Option.some.inj (show some _=some o from ho)
      have s22:a.tmps.getD 22 undef=.tuple #[.int .u64 vv,.int .i64 q]:=hdone _ (Array.mem_of_getElem? (i:=0) rfl) rfl _ rfl
      refine wpOp_val (v:=.tuple #[.int .u64 vv,.int .i64 q]) (w':=w) rfl rfl ?_ ⟨_,rfl,?_,hS,fun _ _ _ h=>h⟩
      · simp [execOp,Act.eval,s22]
      · rw [own_put rfl (by rw [hs];omega)];exact rfl
    · obtain rfl:=Option.some.inj (show some _=some o from ho)
      have s7:a.tmps.getD 7 undef=.tuple #[.int .u64 vv,.int .i64 q]:=hdone _ (Array.mem_of_getElem? (i:=0) rfl) rfl _ rfl
      refine wpOp_val (v:=.int .u64 vv) (w':=w) rfl rfl ?_ ⟨_,rfl,?_,hS,fun _ _ _ h=>h⟩
      · simp [execOp,Act.eval,s7,go_sem]
      · rw [own_put rfl (by rw [hs];omega)];exact rfl
    · obtain rfl:=Option.some.inj (show some _=some o from ho)
      have s7:a.tmps.getD 7 undef=.tuple #[.int .u64 vv,.int .i64 q]:=hdone _ (Array.mem_of_getElem? (i:=0) rfl) rfl _ rfl
      refine wpOp_val (v:=.int .i64 q) (w':=w) rfl rfl ?_ ⟨_,rfl,?_,hS,fun _ _ _ h=>h⟩
      · simp [execOp,Act.eval,s7,go_sem]
      · rw [own_put rfl (by rw [hs];omega)];exact rfl
    · obtain rfl:=Option.some.inj (show some _=some o from ho)
      have s23:a.tmps.getD 23 undef=.int .u64 vv:=hdone _ (Array.mem_of_getElem? (i:=0) rfl) rfl _ rfl
      refine wpOp_val (v:=.int .u64 vv) (w':=w) rfl rfl ?_ ⟨_,rfl,?_,hS,fun _ _ _ h=>h⟩
      · simp [execOp,Act.eval,s23]
      · rw [own_put rfl (by rw [hs];omega)];exact rfl
    · obtain rfl:=Option.some.inj (show some _=some o from ho)
      have s24:a.tmps.getD 24 undef=.int .i64 q:=hdone _ (Array.mem_of_getElem? (i:=0) rfl) rfl _ rfl
      refine wpOp_val (v:=.int .i64 q) (w':=w) rfl rfl ?_ ⟨_,rfl,?_,hS,fun _ _ _ h=>h⟩
      · simp [execOp,Act.eval,s24]
      · rw [own_put rfl (by rw [hs];omega)];exact rfl
  case hq=>
    intro u9 w' hS hR9
    have f5:u9 5=.int .u64 vv:=hR9 18 _ rfl
    clear hR9
    rw [show outs _ u9=[(8,u9 8),(9,u9 9),(10,u9 10),(11,u9 11),(12,u9 12),(13,u9 13),(14,u9 14),(15,u9 15),(16,u9 16),(17,u9 17),(18,u9 18),(19,u9 19),(20,u9 20),(21,u9 21),(22,u9 22),(7,u9 7),(23,u9 23),(24,u9 24),(5,u9 5),(6,u9 6)] by kernel_rfl,f5]
    simp only [putAll,List.setIfInBounds_toArray,List.set_cons_zero,List.set_cons_succ]
    generalize u9 8=x8
    generalize u9 9=x9
    generalize u9 10=x10
    generalize u9 11=x11
    generalize u9 12=x12
    generalize u9 13=x13
    generalize u9 14=x14
    generalize u9 15=x15
    generalize u9 16=x16
    generalize u9 17=x17
    generalize u9 18=x18
    generalize u9 19=x19
    generalize u9 20=x20
    generalize u9 21=x21
    generalize u9 22=x22
    generalize u9 7=x7
    generalize u9 23=x23
    generalize u9 24=x24
    generalize u9 6=x6
    clear f5 u9
    have HS:=Lib.hid hS
    have c5:=H5.out _ hS
    clear hS
    go_wp2_with fail
    refine (put_any s g d vv _ (HI.out _ HS.out) hd).mono ?_
    rintro e w2 ⟨⟨u,rfl⟩,p2,b2⟩
    have P2:=Lib.hid p2
    have B2:=Lib.hid b2
    clear p2 b2
    go_wp2_with fail
    go_ret
    exact ⟨rfl,P2.out,BW.out.trans ((But.of_below HS.out).trans B2.out)⟩
end Go.Proofs.YtigliofiojkhcaaGreat.Mdl
namespace Go.Proofs.YtigliofiojkhcaaGreat.Mdl
open Go.RowKit
set_option linter.unusedVariables false
set_option linter.unusedSimpArgs false
set_option maxRecDepth 100000
theorem Mo.c1 {s:Mo} {w:World} {g:Nat} (h:s.in_ w g):w.cell? ⟨g,1,none⟩=some s.memo:=by
  unfold Mo.in_ at h
  simp only [World.cell?,h];rfl
def adI (r off:Int):Int:=(r + off) % 18446744073709551616
set_option maxHeartbeats 4000000 in
theorem load_any (s:Mo) (g d n m b:Nat) (S:MemS) (kf:Nat → Int) (kind op width:Int) (byReg:Bool) (off imm:Int) (W:World) (h:s.in_ W g) (hw:s.Words) (hd:d < 11) (hn:n < 11) (hm:szB m=true) (o0:-9223372036854775808 ≤ off) (o1:off ≤ 9223372036854775807) (hp:s.memo=.pointer (some ⟨b,0,none⟩)) (M:Mem S kf W b):
    Calls Tryz.prog 31 #[.pointer (some ⟨g,0,none⟩),.agg (Ins.In.mk kind op width m byReg d n off imm).cells] W fun e w'=>e=.returned (.int .i8 (if readE S (adI (s.r n) off) m=0 then 0 else 3)) ∧ (if readE S (adI (s.r n) off) m=0 then s.put d (readV S kf (adI (s.r n) off) m) else s).in_ w' g ∧ But g W w':=by
  have AD:=Lib.hid (fun W=>address_any (s.r n) off W (hw n).1 (hw n).2 o0 o1)
  have hab:0 ≤ adI (s.r n) off ∧ adI (s.r n) off < 18446744073709551616:=by unfold adI;omega
  have RD:=Lib.hid (fun W h=>read_any S kf b (adI (s.r n) off) m W h hm hab.1 hab.2)
  have hE:readE S (adI (s.r n) off) m=20 ∨ readE S (adI (s.r n) off) m=0:=by unfold readE;split <;> simp
  have HE:=Lib.hid hE;clear hE hab o0 o1
  have HR0:∀ w,s.in_ w g → w.cell? ⟨g,2 + n,none⟩=some (.int .u64 (s.r n)):=fun w h=>s.reg h n hn
  have HP0:∀ w,s.in_ w g → w.cell? ⟨g,1,none⟩=some (.pointer (some ⟨b,0,none⟩)):=fun w h=>by rw [s.c1 h,hp]
  have HMW:Hid (IntKind.i64.wrap (m:Int)=m):=Lib.hid (by rw [IntKind.wrap_i64];have:=szB_le hm;omega)
  rw [show (s.r n + off) % 18446744073709551616=adI (s.r n) off from rfl] at AD
  have M0:=M.below (below_new (Below.refl _ W) (.cells (Ins.In.mk kind op width m byReg d n off imm).cells 52))
  generalize adI (s.r n) off=ad at *
  generalize s.r n=rn at *
  generalize readV S kf ad m=vv at *
  generalize readE S ad m=er at *
  clear hw hm hp M
  have HR:=Lib.hid HR0;clear HR0
  have HP:=Lib.hid HP0;clear HP0
  have hin0:=s.below h (below_new (Below.refl _ W) (.cells (Ins.In.mk kind op width m byReg d n off imm).cells 52))
  have BW0:But g W (W.alloc (.cells (Ins.In.mk kind op width m byReg d n off imm).cells 52)):=But.of_below (below_new (Below.refl _ W) _)
  have HH0:(W.alloc (.cells (Ins.In.mk kind op width m byReg d n off imm).cells 52)).heap[W.heap.size]?=some (.cells (Ins.In.mk kind op width m byReg d n off imm).cells 52 (0,0)):=heap_last W _ _ rfl
  clear h
  unfold Ins.In.cells at BW0 HH0 hin0 M0 ⊢
  simp only at BW0 HH0 hin0 M0 ⊢
  go_enter Tryz.func31,Tryz.ntmps31
  go_wp2_with fail
  generalize W.alloc (.cells #[.int .i8 kind,.int .i8 op,.int .i8 width,.int .i8 m,.bool byReg,.int .i8 d,.int .i8 n,.int .i64 off,.int .i64 imm] 52)=w0 at *
  have BW:=Lib.hid BW0;clear BW0
  have HI:Hid (∀ w,Below w0.heap.size w0 w → s.in_ w g):=Lib.hid (fun w h=>s.below hin0 h)
  have HB:Hid (∀ w,Below w0.heap.size w0 w → w.heap[W.heap.size]?=some (.cells (Ins.In.mk kind op width m byReg d n off imm).cells 52 (0,0))):=Lib.hid (fun w h=>(h.block _ (Array.getElem?_eq_some_iff.1 HH0).1).trans HH0)
  clear HH0 hin0
  have H0:Hid (∀ w,Below w0.heap.size w0 w → w.cell? ⟨W.heap.size,0,none⟩=some (.int .i8 kind)):=Lib.hid (fun w h=>by simp only [World.cell?,HB.out w h];rfl)
  have H1:Hid (∀ w,Below w0.heap.size w0 w → w.cell? ⟨W.heap.size,1,none⟩=some (.int .i8 op)):=Lib.hid (fun w h=>by simp only [World.cell?,HB.out w h];rfl)
  have H2:Hid (∀ w,Below w0.heap.size w0 w → w.cell? ⟨W.heap.size,2,none⟩=some (.int .i8 width)):=Lib.hid (fun w h=>by simp only [World.cell?,HB.out w h];rfl)
  have H3:Hid (∀ w,Below w0.heap.size w0 w → w.cell? ⟨W.heap.size,3,none⟩=some (.int .i8 m)):=Lib.hid (fun w h=>by simp only [World.cell?,HB.out w h];rfl)
  have H4:Hid (∀ w,Below w0.heap.size w0 w → w.cell? ⟨W.heap.size,4,none⟩=some (.bool byReg)):=Lib.hid (fun w h=>by simp only [World.cell?,HB.out w h];rfl)
  have H5:Hid (∀ w,Below w0.heap.size w0 w → w.cell? ⟨W.heap.size,5,none⟩=some (.int .i8 d)):=Lib.hid (fun w h=>by simp only [World.cell?,HB.out w h];rfl)
  have H6:Hid (∀ w,Below w0.heap.size w0 w → w.cell? ⟨W.heap.size,6,none⟩=some (.int .i8 n)):=Lib.hid (fun w h=>by simp only [World.cell?,HB.out w h];rfl)
  have H7:Hid (∀ w,Below w0.heap.size w0 w → w.cell? ⟨W.heap.size,7,none⟩=some (.int .i64 off)):=Lib.hid (fun w h=>by simp only [World.cell?,HB.out w h];rfl)
  have H8:Hid (∀ w,Below w0.heap.size w0 w → w.cell? ⟨W.heap.size,8,none⟩=some (.int .i64 imm)):=Lib.hid (fun w h=>by simp only [World.cell?,HB.out w h];rfl)
  have MB:Hid (∀ w,Below w0.heap.size w0 w → Mem S kf w b):=Lib.hid (fun w h=>M0.below h)
  clear M0
  refine wp_region_inv (fun _=>100000) (fun w=>Below w0.heap.size w0 w) (TabV [fun v=>v=.pointer (some ⟨g,0,none⟩),fun v=>v=.pointer (some ⟨g,0,none⟩),fun v=>v=.pointer (some ⟨g,1,none⟩),fun v=>v=.pointer (some ⟨b,0,none⟩),fun v=>v=.pointer (some ⟨g,0,none⟩),fun v=>v=.pointer (some ⟨W.heap.size,6,none⟩),fun v=>v=.int .i8 n,fun v=>v=.pointer (some ⟨g,0,none⟩),fun v=>v=.pointer (some ⟨g,2,none⟩),fun v=>v=.pointer (some ⟨g,2 + n,none⟩),fun v=>v=.int .u64 rn,fun v=>v=.pointer (some ⟨W.heap.size,7,none⟩),fun v=>v=.int .i64 off,fun v=>v=.int .u64 ad,fun v=>v=.pointer (some ⟨W.heap.size,3,none⟩),fun v=>v=.int .i8 m,fun v=>v=.int .i64 m,fun v=>v=.tuple #[.int .u64 vv,.int .i64 er],fun v=>v=.tuple #[.int .u64 vv,.int .i64 er],fun v=>v=.int .u64 vv,fun v=>v=.int .i64 er,fun v=>v=.int .u64 vv,fun v=>v=.int .i64 er]) (by kernel_rfl) (back_of (by kernel_rfl)) (dst_of (by kernel_rfl)) (dep_of (by kernel_rfl)) (in_of (by kernel_rfl)) (Below.drew (Below.refl _ _)) ?hop ?hq
  case hop=>
    intro i o a w ho hS hdf hsz hrest hdone
    have t0:a.tmps.getD 0 undef=.pointer (some ⟨g,0,none⟩):=hrest 0 (not_of (by kernel_rfl))
    have t3:a.tmps.getD 3 undef=.pointer (some ⟨W.heap.size,0,none⟩):=hrest 3 (not_of (by kernel_rfl))
    have hs:a.tmps.size=35:=hsz.trans rfl
    have hi:i < 23:=(Array.getElem?_eq_some_iff.1 ho).1
    clear hrest hsz hdf
    obtain rfl | rfl | rfl | rfl | rfl | rfl | rfl | rfl | rfl | rfl | rfl | rfl | rfl | rfl | rfl | rfl | rfl | rfl | rfl | rfl | rfl | rfl | rfl:i=0 ∨ i=1 ∨ i=2 ∨ i=3 ∨ i=4 ∨ i=5 ∨ i=6 ∨ i=7 ∨ i=8 ∨ i=9 ∨ i=10 ∨ i=11 ∨ i=12 ∨ i=13 ∨ i=14 ∨ i=15 ∨ i=16 ∨ i=17 ∨ i=18 ∨ i=19 ∨ i=20 ∨ i=21 ∨ i=22:=by omega
    · obtain rfl:=Option.some.inj (show some _=some o from ho)
      refine wpOp_val (v:=.pointer (some ⟨g,0,none⟩)) (w':=w) rfl rfl ?_ ⟨_,rfl,?_,hS,fun _ _ _ h=>h⟩
      · simp [execOp,Act.eval,t0]
      · rw [own_put rfl (by rw [hs];omega)];exact rfl
    · obtain rfl:=Option.some.inj (show some _=some o from ho)
      have s8:a.tmps.getD 8 undef=.pointer (some ⟨g,0,none⟩):=hdone _ (Array.mem_of_getElem? (i:=0) rfl) rfl _ rfl
      refine wpOp_val (v:=.pointer (some ⟨g,0,none⟩)) (w':=w) rfl rfl ?_ ⟨_,rfl,?_,hS,fun _ _ _ h=>h⟩
      · simp [execOp,Act.eval,s8,go_sem]
      · rw [own_put rfl (by rw [hs];omega)];exact rfl
    · obtain rfl:=Option.some.inj (show some _=some o from ho)
      have s9:a.tmps.getD 9 undef=.pointer (some ⟨g,0,none⟩):=hdone _ (Array.mem_of_getElem? (i:=0) rfl) rfl _ rfl
      refine wpOp_val (v:=.pointer (some ⟨g,1,none⟩)) (w':=w) rfl rfl ?_ ⟨_,rfl,?_,hS,fun _ _ _ h=>h⟩
      · simp [execOp,Act.eval,s9,go_sem]
      · rw [own_put rfl (by rw [hs];omega)];exact rfl
    · obtain rfl:=Option.some.inj (show some _=some o from ho)
      have s10:a.tmps.getD 10 undef=.pointer (some ⟨g,1,none⟩):=hdone _ (Array.mem_of_getElem? (i:=0) rfl) rfl _ rfl
      refine wpOp_val (v:=.pointer (some ⟨b,0,none⟩)) (w':=w) rfl rfl ?_ ⟨_,rfl,?_,hS,fun _ _ _ h=>h⟩
      · (have hc:=(HP.out w (HI.out w hS));simp [execOp,Act.eval,s10,hc,go_sem])
      · rw [own_put rfl (by rw [hs];omega)];exact rfl
    · obtain rfl:=Option.some.inj (show some _=some o from ho)
      refine wpOp_val (v:=.pointer (some ⟨g,0,none⟩)) (w':=w) rfl rfl ?_ ⟨_,rfl,?_,hS,fun _ _ _ h=>h⟩
      · simp [execOp,Act.eval,t0]
      · rw [own_put rfl (by rw [hs];omega)];exact rfl
    · obtain rfl:=Option.some.inj (show some _=some o from ho)
      refine wpOp_val (v:=.pointer (some ⟨W.heap.size,6,none⟩)) (w':=w) rfl rfl ?_ ⟨_,rfl,?_,hS,fun _ _ _ h=>h⟩
      · simp [execOp,Act.eval,t3,go_sem]
      · rw [own_put rfl (by rw [hs];omega)];exact rfl
    · obtain rfl:=Option.some.inj (show some _=some o from ho)
      have s13:a.tmps.getD 13 undef=.pointer (some ⟨W.heap.size,6,none⟩):=hdone _ (Array.mem_of_getElem? (i:=0) rfl) rfl _ rfl
      refine wpOp_val (v:=.int .i8 n) (w':=w) rfl rfl ?_ ⟨_,rfl,?_,hS,fun _ _ _ h=>h⟩
      · (have hc:=(H6.out w hS);simp [execOp,Act.eval,s13,hc,go_sem])
      · rw [own_put rfl (by rw [hs];omega)];exact rfl
    · obtain rfl:=Option.some.inj (show some _=some o from ho)
      have s12:a.tmps.getD 12 undef=.pointer (some ⟨g,0,none⟩):=hdone _ (Array.mem_of_getElem? (i:=0) rfl) rfl _ rfl
      refine wpOp_val (v:=.pointer (some ⟨g,0,none⟩)) (w':=w) rfl rfl ?_ ⟨_,rfl,?_,hS,fun _ _ _ h=>h⟩
      · simp [execOp,Act.eval,s12,go_sem]
      · rw [own_put rfl (by rw [hs];omega)];exact rfl
    · obtain rfl:=Option.some.inj (show some _=some o from ho)
      have s15:a.tmps.getD 15 undef=.pointer (some ⟨g,0,none⟩):=hdone _ (Array.mem_of_getElem? (i:=0) rfl) rfl _ rfl
      refine wpOp_val (v:=.pointer (some ⟨g,2,none⟩)) (w':=w) rfl rfl ?_ ⟨_,rfl,?_,hS,fun _ _ _ h=>h⟩
      · simp [execOp,Act.eval,s15,go_sem]
      · rw [own_put rfl (by rw [hs];omega)];exact rfl
    · obtain rfl:=Option.some.inj (show some _=some o from ho)
      have s16:a.tmps.getD 16 undef=.pointer (some ⟨g,2,none⟩):=hdone _ (Array.mem_of_getElem? (i:=0) rfl) rfl _ rfl
      have s14:a.tmps.getD 14 undef=.int .i8 n:=hdone _ (Array.mem_of_getElem? (i:=1) rfl) rfl _ rfl
      refine wpOp_val (v:=.pointer (some ⟨g,2 + n,none⟩)) (w':=w) rfl rfl ?_ ⟨_,rfl,?_,hS,fun _ _ _ h=>h⟩
      · (simp [execOp,Act.eval,s16,s14,go_sem];try exact fun h=>absurd h (by omega))
      · rw [own_put rfl (by rw [hs];omega)];exact rfl
    · obtain rfl:=Option.some.inj (show some _=some o from ho)
      have s17:a.tmps.getD 17 undef=.pointer (some ⟨g,2 + n,none⟩):=hdone _ (Array.mem_of_getElem? (i:=0) rfl) rfl _ rfl
      refine wpOp_val (v:=.int .u64 rn) (w':=w) rfl rfl ?_ ⟨_,rfl,?_,hS,fun _ _ _ h=>h⟩
      · (have hc:=(HR.out w (HI.out w hS));simp [execOp,Act.eval,s17,hc,go_sem])
      · rw [own_put rfl (by rw [hs];omega)];exact rfl
    · obtain rfl:=Option.some.inj (show some _=some o from ho)
      refine wpOp_val (v:=.pointer (some ⟨W.heap.size,7,none⟩)) (w':=w) rfl rfl ?_ ⟨_,rfl,?_,hS,fun _ _ _ h=>h⟩
      · simp [execOp,Act.eval,t3,go_sem]
      · rw [own_put rfl (by rw [hs];omega)];exact rfl
    · obtain rfl:=Option.some.inj (show some _=some o from ho)
      have s19:a.tmps.getD 19 undef=.pointer (some ⟨W.heap.size,7,none⟩):=hdone _ (Array.mem_of_getElem? (i:=0) rfl) rfl _ rfl
      refine wpOp_val (v:=.int .i64 off) (w':=w) rfl rfl ?_ ⟨_,rfl,?_,hS,fun _ _ _ h=>h⟩
      · (have hc:=(H7.out w hS);simp [execOp,Act.eval,s19,hc,go_sem])
      · rw [own_put rfl (by rw [hs];omega)];exact rfl
    · obtain rfl:=Option.some.inj (show some _=some o from ho)
      have s18:a.tmps.getD 18 undef=.int .u64 rn:=hdone _ (Array.mem_of_getElem? (i:=0) rfl) rfl _ rfl
      have s20:a.tmps.getD 20 undef=.int .i64 off:=hdone _ (Array.mem_of_getElem? (i:=1) rfl) rfl _ rfl
      refine wpOp_call (f:=66) (args:=#[.int .u64 rn,.int .i64 off]) rfl rfl ?_ ?_
      · simp [go_sem,execOp,Act.eval,Deferred.ofValue,callFunc,Tryz.func66,Tryz.f66,s18,s20,resolve,invoke]
      · refine (AD.out w).mono ?_
        rintro e w' ⟨rfl,rfl⟩
        refine ⟨_,rfl,_,rfl,?_,hS,fun _ _ _ h=>h⟩
        rw [own_put rfl (by rw [hs];omega)];exact rfl
    · obtain rfl:=Option.some.inj (show some _=some o from ho)
      refine wpOp_val (v:=.pointer (some ⟨W.heap.size,3,none⟩)) (w':=w) rfl rfl ?_ ⟨_,rfl,?_,hS,fun _ _ _ h=>h⟩
      · simp [execOp,Act.eval,t3,go_sem]
      · rw [own_put rfl (by rw [hs];omega)];exact rfl
    · obtain rfl:=Option.some.inj (show some _=some o from ho)
      have s22:a.tmps.getD 22 undef=.pointer (some ⟨W.heap.size,3,none⟩):=hdone _ (Array.mem_of_getElem? (i:=0) rfl) rfl _ rfl
      refine wpOp_val (v:=.int .i8 m) (w':=w) rfl rfl ?_ ⟨_,rfl,?_,hS,fun _ _ _ h=>h⟩
      · (have hc:=(H3.out w hS);simp [execOp,Act.eval,s22,hc,go_sem])
      · rw [own_put rfl (by rw [hs];omega)];exact rfl
    · obtain rfl:=Option.some.inj (show some _=some o from ho)
      have s23:a.tmps.getD 23 undef=.int .i8 m:=hdone _ (Array.mem_of_getElem? (i:=0) rfl) rfl _ rfl
      refine wpOp_val (v:=.int .i64 m) (w':=w) rfl rfl ?_ ⟨_,rfl,?_,hS,fun _ _ _ h=>h⟩
      · simp [execOp,Act.eval,s23,go_sem,HMW.out]
      · rw [own_put rfl (by rw [hs];omega)];exact rfl
    · obtain rfl:=Option.some.inj (show some _=some o from ho)
      have s11:a.tmps.getD 11 undef=.pointer (some ⟨b,0,none⟩):=hdone _ (Array.mem_of_getElem? (i:=0) rfl) rfl _ rfl
      have s21:a.tmps.getD 21 undef=.int .u64 ad:=hdone _ (Array.mem_of_getElem? (i:=1) rfl) rfl _ rfl
      have s24:a.tmps.getD 24 undef=.int .i64 m:=hdone _ (Array.mem_of_getElem? (i:=2) rfl) rfl _ rfl
      refine wpOp_call (f:=65) (args:=#[.pointer (some ⟨b,0,none⟩),.int .u64 ad,.int .i64 m]) rfl rfl ?_ ?_
      · simp [go_sem,execOp,Act.eval,Deferred.ofValue,callFunc,Tryz.func65,Tryz.f65,s11,s21,s24,resolve,invoke]
      · refine (RD.out w (MB.out w hS)).mono ?_
        rintro e w' ⟨rfl,b9⟩
        refine ⟨_,rfl,_,rfl,?_,hS.trans (b9.mono hS.size),fun _ _ _ h=>h⟩
        rw [own_put rfl (by rw [hs];omega)];exact rfl
    · obtain rfl:=Option.some.inj (show some _=some o from ho)
      have s25:a.tmps.getD 25 undef=.tuple #[.int .u64 vv,.int .i64 er]:=hdone _ (Array.mem_of_getElem? (i:=0) rfl) rfl _ rfl
      refine wpOp_val (v:=.tuple #[.int .u64 vv,.int .i64 er]) (w':=w) rfl rfl ?_ ⟨_,rfl,?_,hS,fun _ _ _ h=>h⟩
      · simp [execOp,Act.eval,s25]
      · rw [own_put rfl (by rw [hs];omega)];exact rfl
    · obtain rfl:=Option.some.inj (show some _=some o from ho)
      have s7:a.tmps.getD 7 undef=.tuple #[.int .u64 vv,.int .i64 er]:=hdone _ (Array.mem_of_getElem? (i:=0) rfl) rfl _ rfl
      refine wpOp_val (v:=.int .u64 vv) (w':=w) rfl rfl ?_ ⟨_,rfl,?_,hS,fun _ _ _ h=>h⟩
      · simp [execOp,Act.eval,s7,go_sem]
      · rw [own_put rfl (by rw [hs];omega)];exact rfl
    · obtain rfl:=Option.some.inj (show some _=some o from ho)
      have s7:a.tmps.getD 7 undef=.tuple #[.int .u64 vv,.int .i64 er]:=hdone _ (Array.mem_of_getElem? (i:=0) rfl) rfl _ rfl
      refine wpOp_val (v:=.int .i64 er) (w':=w) rfl rfl ?_ ⟨_,rfl,?_,hS,fun _ _ _ h=>h⟩
      · simp [execOp,Act.eval,s7,go_sem]
      · rw [own_put rfl (by rw [hs];omega)];exact rfl
    · obtain rfl:=Option.some.inj (show some _=some o from ho)
      have s26:a.tmps.getD 26 undef=.int .u64 vv:=hdone _ (Array.mem_of_getElem? (i:=0) rfl) rfl _ rfl
      refine wpOp_val (v:=.int .u64 vv) (w':=w) rfl rfl ?_ ⟨_,rfl,?_,hS,fun _ _ _ h=>h⟩
      · simp [execOp,Act.eval,s26]
      · rw [own_put rfl (by rw [hs];omega)];exact rfl
    · obtain rfl:=Option.some.inj (show some _=some o from ho)
      have s27:a.tmps.getD 27 undef=.int .i64 er:=hdone _ (Array.mem_of_getElem? (i:=0) rfl) rfl _ rfl
      refine wpOp_val (v:=.int .i64 er) (w':=w) rfl rfl ?_ ⟨_,rfl,?_,hS,fun _ _ _ h=>h⟩
      · simp [execOp,Act.eval,s27]
      · rw [own_put rfl (by rw [hs];omega)];exact rfl
  case hq=>
    intro u9 w' hS hR9
    have f5:u9 5=.int .u64 vv:=hR9 21 _ rfl
    have f6:u9 6=.int .i64 er:=hR9 22 _ rfl
    clear hR9
    rw [show outs _ u9=[(8,u9 8),(9,u9 9),(10,u9 10),(11,u9 11),(12,u9 12),(13,u9 13),(14,u9 14),(15,u9 15),(16,u9 16),(17,u9 17),(18,u9 18),(19,u9 19),(20,u9 20),(21,u9 21),(22,u9 22),(23,u9 23),(24,u9 24),(25,u9 25),(7,u9 7),(26,u9 26),(27,u9 27),(5,u9 5),(6,u9 6)] by kernel_rfl,f5,f6]
    simp only [putAll,List.setIfInBounds_toArray,List.set_cons_zero,List.set_cons_succ]
    generalize u9 8=x8
    generalize u9 9=x9
    generalize u9 10=x10
    generalize u9 11=x11
    generalize u9 12=x12
    generalize u9 13=x13
    generalize u9 14=x14
    generalize u9 15=x15
    generalize u9 16=x16
    generalize u9 17=x17
    generalize u9 18=x18
    generalize u9 19=x19
    generalize u9 20=x20
    generalize u9 21=x21
    generalize u9 22=x22
    generalize u9 23=x23
    generalize u9 24=x24
    generalize u9 25=x25
    generalize u9 7=x7
    generalize u9 26=x26
    generalize u9 27=x27
    clear f5 f6 u9
    have HS:=Lib.hid hS
    have c5:=H5.out _ hS
    clear hS
    rcases HE.out with rfl | rfl
    · go_wp2_with fail
      go_ret
      exact ⟨rfl,HI.out _ HS.out,BW.out.trans (But.of_below HS.out)⟩
    · go_wp2_with fail
      refine (put_any s g d vv _ (HI.out _ HS.out) hd).mono ?_
      rintro e w2 ⟨⟨u,rfl⟩,p2,b2⟩
      have P2:=Lib.hid p2
      have B2:=Lib.hid b2
      clear p2 b2
      go_wp2_with fail
      go_ret
      exact ⟨rfl,P2.out,BW.out.trans ((But.of_below HS.out).trans B2.out)⟩
end Go.Proofs.YtigliofiojkhcaaGreat.Mdl
