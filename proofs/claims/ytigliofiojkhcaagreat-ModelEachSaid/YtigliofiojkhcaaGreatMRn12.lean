import Derived.Test.YtigliofiojkhcaaGreatMRn11
set_option linter.unusedVariables false
set_option linter.unusedSimpArgs false
set_option linter.unnecessarySimpa false
namespace Go.Proofs.YtigliofiojkhcaaGreat.Mdl
open Go.RowKit
set_option linter.unusedVariables false
set_option linter.unusedSimpArgs false
set_option maxRecDepth 100000
set_option maxHeartbeats 4000000 in
theorem store_no (s:Mo) (g d n m b:Nat) (S:MemS) (kf:Nat → Int) (kind op width:Int) (byReg:Bool) (off imm:Int) (W:World) (h:s.in_ W g) (hw:s.Words) (hd:d < 11) (hn:n < 11) (hm:szB m=true) (o0:-9223372036854775808 ≤ off) (o1:off ≤ 9223372036854775807) (hp:s.memo=.pointer (some ⟨b,0,none⟩)) (M:Mem S kf W b) (hl:locI S.cn S.n S.hs (adI (s.r d) off) m ≤ 1):
    Calls Tryz.prog 32 #[.pointer (some ⟨g,0,none⟩),.agg (Ins.In.mk kind op width m byReg d n off imm).cells] W fun e w'=>e=.returned (.int .i8 3) ∧ Below W.heap.size W w':=by
  have AD:=Lib.hid (fun W=>address_any (s.r d) off W (hw d).1 (hw d).2 o0 o1)
  have hab:0 ≤ adI (s.r d) off ∧ adI (s.r d) off < 18446744073709551616:=by unfold adI;omega
  have RD:=Lib.hid (fun W (h:Mem S kf W b)=>write_no S b (adI (s.r d) off) (s.r n) m W h.at_ hm hab.1 hab.2 hl)
  clear hab o0 o1 hl
  have HR0:∀ w,s.in_ w g → w.cell? ⟨g,2 + d,none⟩=some (.int .u64 (s.r d)):=fun w h=>s.reg h d hd
  have HN0:∀ w,s.in_ w g → w.cell? ⟨g,2 + n,none⟩=some (.int .u64 (s.r n)):=fun w h=>s.reg h n hn
  have HP0:∀ w,s.in_ w g → w.cell? ⟨g,1,none⟩=some (.pointer (some ⟨b,0,none⟩)):=fun w h=>by rw [s.c1 h,hp]
  have HMW:Hid (IntKind.i64.wrap (m:Int)=m):=Lib.hid (by rw [IntKind.wrap_i64];have:=szB_le hm;omega)
  rw [show (s.r d + off) % 18446744073709551616=adI (s.r d) off from rfl] at AD
  have M0:=M.below (below_new (Below.refl _ W) (.cells (Ins.In.mk kind op width m byReg d n off imm).cells 52))
  have BZ0:=below_new (Below.refl W.heap.size W) (.cells (Ins.In.mk kind op width m byReg d n off imm).cells 52)
  generalize adI (s.r d) off=ad at *
  generalize s.r d=rd at *
  generalize s.r n=rn at *
  clear hw hm hp M
  have HR:=Lib.hid HR0;clear HR0
  have HN:=Lib.hid HN0;clear HN0
  have HP:=Lib.hid HP0;clear HP0
  have hin0:=s.below h (below_new (Below.refl _ W) (.cells (Ins.In.mk kind op width m byReg d n off imm).cells 52))
  have BW0:But g W (W.alloc (.cells (Ins.In.mk kind op width m byReg d n off imm).cells 52)):=But.of_below (below_new (Below.refl _ W) _)
  have HH0:(W.alloc (.cells (Ins.In.mk kind op width m byReg d n off imm).cells 52)).heap[W.heap.size]?=some (.cells (Ins.In.mk kind op width m byReg d n off imm).cells 52 (0,0)):=heap_last W _ _ rfl
  clear h
  unfold Ins.In.cells at BW0 HH0 hin0 M0 BZ0 ⊢
  simp only at BW0 HH0 hin0 M0 BZ0 ⊢
  go_enter Tryz.func32,Tryz.ntmps32
  go_wp2_with fail
  generalize W.alloc (.cells #[.int .i8 kind,.int .i8 op,.int .i8 width,.int .i8 m,.bool byReg,.int .i8 d,.int .i8 n,.int .i64 off,.int .i64 imm] 52)=w0 at *
  have BW:=Lib.hid BW0;clear BW0
  have HI:Hid (∀ w,Below w0.heap.size w0 w → s.in_ w g):=Lib.hid (fun w h=>s.below hin0 h)
  have HB:Hid (∀ w,Below w0.heap.size w0 w → w.heap[W.heap.size]?=some (.cells (Ins.In.mk kind op width m byReg d n off imm).cells 52 (0,0))):=Lib.hid (fun w h=>(h.block _ (Array.getElem?_eq_some_iff.1 HH0).1).trans HH0)
  clear HH0 hin0
  have H0:Hid (∀ w,Below w0.heap.size w0 w → w.cell? ⟨W.heap.size,0,none⟩=some (.int .i8 kind)):=Lib.hid (fun w h=>by simp only [World.cell?,HB.out w h];rfl)
  have H1:Hid (∀ w,Below w0.heap.size w0 w → w.cell? ⟨W.heap.size,1,none⟩=some (.int .i8 op)):=Lib.hid (fun w h=>by simp only [World.cell?,HB.out w h];rfl)
  have H2:Hid (∀ w,Below w0.heap.size w0 w → w.cell? ⟨W.heap.size,2,none⟩=some (.int .i8 width)):=Lib.hid (fun w h=>by simp only [World.cell?,HB.out w h];rfl)
  have H3:Hid (∀ w,Below w0.heap.size w0 w → w.cell? ⟨W.heap.size,3,none⟩=some (.int .i8 m)):=Lib.hid (fun w h=>by simp only [World.cell?,HB.out w h];rfl)
  have H4:Hid (∀ w,Below w0.heap.size w0 w → w.cell? ⟨W.heap.size,4,none⟩=some (.bool byReg)):=Lib.hid (fun w h=>by simp only [World.cell?,HB.out w h];rfl)
  have H5:Hid (∀ w,Below w0.heap.size w0 w → w.cell? ⟨W.heap.size,5,none⟩=some (.int .i8 d)):=Lib.hid (fun w h=>by simp only [World.cell?,HB.out w h];rfl)
  have H6:Hid (∀ w,Below w0.heap.size w0 w → w.cell? ⟨W.heap.size,6,none⟩=some (.int .i8 n)):=Lib.hid (fun w h=>by simp only [World.cell?,HB.out w h];rfl)
  have H7:Hid (∀ w,Below w0.heap.size w0 w → w.cell? ⟨W.heap.size,7,none⟩=some (.int .i64 off)):=Lib.hid (fun w h=>by simp only [World.cell?,HB.out w h];rfl)
  have H8:Hid (∀ w,Below w0.heap.size w0 w → w.cell? ⟨W.heap.size,8,none⟩=some (.int .i64 imm)):=Lib.hid (fun w h=>by simp only [World.cell?,HB.out w h];rfl)
  have MB:Hid (∀ w,Below w0.heap.size w0 w → Mem S kf w b):=Lib.hid (fun w h=>M0.below h)
  clear M0
  have BZ:=Lib.hid BZ0;clear BZ0
  refine wp_region_inv (fun _=>100000) (fun w=>Below w0.heap.size w0 w) (TabV [fun v=>v=.pointer (some ⟨g,0,none⟩),fun v=>v=.pointer (some ⟨g,0,none⟩),fun v=>v=.pointer (some ⟨g,1,none⟩),fun v=>v=.pointer (some ⟨b,0,none⟩),fun v=>v=.pointer (some ⟨g,0,none⟩),fun v=>v=.pointer (some ⟨W.heap.size,5,none⟩),fun v=>v=.int .i8 d,fun v=>v=.pointer (some ⟨g,0,none⟩),fun v=>v=.pointer (some ⟨g,2,none⟩),fun v=>v=.pointer (some ⟨g,2 + d,none⟩),fun v=>v=.int .u64 rd,fun v=>v=.pointer (some ⟨W.heap.size,7,none⟩),fun v=>v=.int .i64 off,fun v=>v=.int .u64 ad,fun v=>v=.pointer (some ⟨W.heap.size,3,none⟩),fun v=>v=.int .i8 m,fun v=>v=.int .i64 m,fun v=>v=.pointer (some ⟨g,0,none⟩),fun v=>v=.pointer (some ⟨W.heap.size,6,none⟩),fun v=>v=.int .i8 n,fun v=>v=.pointer (some ⟨g,0,none⟩),fun v=>v=.pointer (some ⟨g,2,none⟩),fun v=>v=.pointer (some ⟨g,2 + n,none⟩),fun v=>v=.int .u64 rn,fun v=>v=.int .i64 20,fun v=>v=.int .i64 20]) (by kernel_rfl) (back_of (by kernel_rfl)) (dst_of (by kernel_rfl)) (dep_of (by kernel_rfl)) (in_of (by kernel_rfl)) (Below.drew (Below.refl _ _)) ?hop ?hq
  case hop=>
    intro i o a w ho hS hdf hsz hrest hdone
    have t0:a.tmps.getD 0 undef=.pointer (some ⟨g,0,none⟩):=hrest 0 (not_of (by kernel_rfl))
    have t3:a.tmps.getD 3 undef=.pointer (some ⟨W.heap.size,0,none⟩):=hrest 3 (not_of (by kernel_rfl))
    have hs:a.tmps.size=33:=hsz.trans rfl
    have hi:i < 26:=(Array.getElem?_eq_some_iff.1 ho).1
    clear hrest hsz hdf
    obtain rfl | rfl | rfl | rfl | rfl | rfl | rfl | rfl | rfl | rfl | rfl | rfl | rfl | rfl | rfl | rfl | rfl | rfl | rfl | rfl | rfl | rfl | rfl | rfl | rfl | rfl:i=0 ∨ i=1 ∨ i=2 ∨ i=3 ∨ i=4 ∨ i=5 ∨ i=6 ∨ i=7 ∨ i=8 ∨ i=9 ∨ i=10 ∨ i=11 ∨ i=12 ∨ i=13 ∨ i=14 ∨ i=15 ∨ i=16 ∨ i=17 ∨ i=18 ∨ i=19 ∨ i=20 ∨ i=21 ∨ i=22 ∨ i=23 ∨ i=24 ∨ i=25:=by omega
    · obtain rfl:=Option.some.inj (show some _=some o from ho)
      refine wpOp_val (v:=.pointer (some ⟨g,0,none⟩)) (w':=w) rfl rfl ?_ ⟨_,rfl,?_,hS,fun _ _ _ h=>h⟩
      · simp [execOp,Act.eval,t0]
      · rw [own_put rfl (by rw [hs];omega)];exact rfl
    · obtain rfl:=Option.some.inj (show some _=some o from ho)
      have s6:a.tmps.getD 6 undef=.pointer (some ⟨g,0,none⟩):=hdone _ (Array.mem_of_getElem? (i:=0) rfl) rfl _ rfl
      refine wpOp_val (v:=.pointer (some ⟨g,0,none⟩)) (w':=w) rfl rfl ?_ ⟨_,rfl,?_,hS,fun _ _ _ h=>h⟩
      · simp [execOp,Act.eval,s6,go_sem]
      · rw [own_put rfl (by rw [hs];omega)];exact rfl
    · obtain rfl:=Option.some.inj (show some _=some o from ho)
      have s7:a.tmps.getD 7 undef=.pointer (some ⟨g,0,none⟩):=hdone _ (Array.mem_of_getElem? (i:=0) rfl) rfl _ rfl
      refine wpOp_val (v:=.pointer (some ⟨g,1,none⟩)) (w':=w) rfl rfl ?_ ⟨_,rfl,?_,hS,fun _ _ _ h=>h⟩
      · simp [execOp,Act.eval,s7,go_sem]
      · rw [own_put rfl (by rw [hs];omega)];exact rfl
    · obtain rfl:=Option.some.inj (show some _=some o from ho)
      have s8:a.tmps.getD 8 undef=.pointer (some ⟨g,1,none⟩):=hdone _ (Array.mem_of_getElem? (i:=0) rfl) rfl _ rfl
      refine wpOp_val (v:=.pointer (some ⟨b,0,none⟩)) (w':=w) rfl rfl ?_ ⟨_,rfl,?_,hS,fun _ _ _ h=>h⟩
      · (have hc:=(HP.out w (HI.out w hS));simp [execOp,Act.eval,s8,hc,go_sem])
      · rw [own_put rfl (by rw [hs];omega)];exact rfl
    · obtain rfl:=Option.some.inj (show some _=some o from ho)
      refine wpOp_val (v:=.pointer (some ⟨g,0,none⟩)) (w':=w) rfl rfl ?_ ⟨_,rfl,?_,hS,fun _ _ _ h=>h⟩
      · simp [execOp,Act.eval,t0]
      · rw [own_put rfl (by rw [hs];omega)];exact rfl
    · obtain rfl:=Option.some.inj (show some _=some o from ho)
      refine wpOp_val (v:=.pointer (some ⟨W.heap.size,5,none⟩)) (w':=w) rfl rfl ?_ ⟨_,rfl,?_,hS,fun _ _ _ h=>h⟩
      · simp [execOp,Act.eval,t3,go_sem]
      · rw [own_put rfl (by rw [hs];omega)];exact rfl
    · obtain rfl:=Option.some.inj (show some _=some o from ho)
      have s11:a.tmps.getD 11 undef=.pointer (some ⟨W.heap.size,5,none⟩):=hdone _ (Array.mem_of_getElem? (i:=0) rfl) rfl _ rfl
      refine wpOp_val (v:=.int .i8 d) (w':=w) rfl rfl ?_ ⟨_,rfl,?_,hS,fun _ _ _ h=>h⟩
      · (have hc:=(H5.out w hS);simp [execOp,Act.eval,s11,hc,go_sem])
      · rw [own_put rfl (by rw [hs];omega)];exact rfl
    · obtain rfl:=Option.some.inj (show some _=some o from ho)
      have s10:a.tmps.getD 10 undef=.pointer (some ⟨g,0,none⟩):=hdone _ (Array.mem_of_getElem? (i:=0) rfl) rfl _ rfl
      refine wpOp_val (v:=.pointer (some ⟨g,0,none⟩)) (w':=w) rfl rfl ?_ ⟨_,rfl,?_,hS,fun _ _ _ h=>h⟩
      · simp [execOp,Act.eval,s10,go_sem]
      · rw [own_put rfl (by rw [hs];omega)];exact rfl
    · obtain rfl:=Option.some.inj (show some _=some o from ho)
      have s13:a.tmps.getD 13 undef=.pointer (some ⟨g,0,none⟩):=hdone _ (Array.mem_of_getElem? (i:=0) rfl) rfl _ rfl
      refine wpOp_val (v:=.pointer (some ⟨g,2,none⟩)) (w':=w) rfl rfl ?_ ⟨_,rfl,?_,hS,fun _ _ _ h=>h⟩
      · simp [execOp,Act.eval,s13,go_sem]
      · rw [own_put rfl (by rw [hs];omega)];exact rfl
    · obtain rfl:=Option.some.inj (show some _=some o from ho)
      have s14:a.tmps.getD 14 undef=.pointer (some ⟨g,2,none⟩):=hdone _ (Array.mem_of_getElem? (i:=0) rfl) rfl _ rfl
      have s12:a.tmps.getD 12 undef=.int .i8 d:=hdone _ (Array.mem_of_getElem? (i:=1) rfl) rfl _ rfl
      refine wpOp_val (v:=.pointer (some ⟨g,2 + d,none⟩)) (w':=w) rfl rfl ?_ ⟨_,rfl,?_,hS,fun _ _ _ h=>h⟩
      · (simp [execOp,Act.eval,s14,s12,go_sem];try exact fun h=>absurd h (by omega))
      · rw [own_put rfl (by rw [hs];omega)];exact rfl
    · obtain rfl:=Option.some.inj (show some _=some o from ho)
      have s15:a.tmps.getD 15 undef=.pointer (some ⟨g,2 + d,none⟩):=hdone _ (Array.mem_of_getElem? (i:=0) rfl) rfl _ rfl
      refine wpOp_val (v:=.int .u64 rd) (w':=w) rfl rfl ?_ ⟨_,rfl,?_,hS,fun _ _ _ h=>h⟩
      · (have hc:=(HR.out w (HI.out w hS));simp [execOp,Act.eval,s15,hc,go_sem])
      · rw [own_put rfl (by rw [hs];omega)];exact rfl
    · obtain rfl:=Option.some.inj (show some _=some o from ho)
      refine wpOp_val (v:=.pointer (some ⟨W.heap.size,7,none⟩)) (w':=w) rfl rfl ?_ ⟨_,rfl,?_,hS,fun _ _ _ h=>h⟩
      · simp [execOp,Act.eval,t3,go_sem]
      · rw [own_put rfl (by rw [hs];omega)];exact rfl
    · obtain rfl:=Option.some.inj (show some _=some o from ho)
      have s17:a.tmps.getD 17 undef=.pointer (some ⟨W.heap.size,7,none⟩):=hdone _ (Array.mem_of_getElem? (i:=0) rfl) rfl _ rfl
      refine wpOp_val (v:=.int .i64 off) (w':=w) rfl rfl ?_ ⟨_,rfl,?_,hS,fun _ _ _ h=>h⟩
      · (have hc:=(H7.out w hS);simp [execOp,Act.eval,s17,hc,go_sem])
      · rw [own_put rfl (by rw [hs];omega)];exact rfl
    · obtain rfl:=Option.some.inj (show some _=some o from ho)
      have s16:a.tmps.getD 16 undef=.int .u64 rd:=hdone _ (Array.mem_of_getElem? (i:=0) rfl) rfl _ rfl
      have s18:a.tmps.getD 18 undef=.int .i64 off:=hdone _ (Array.mem_of_getElem? (i:=1) rfl) rfl _ rfl
      refine wpOp_call (f:=66) (args:=#[.int .u64 rd,.int .i64 off]) rfl rfl ?_ ?_
      · simp [go_sem,execOp,Act.eval,Deferred.ofValue,callFunc,Tryz.func66,Tryz.f66,s16,s18,resolve,invoke]
      · refine (AD.out w).mono ?_
        rintro e w' ⟨rfl,rfl⟩
        refine ⟨_,rfl,_,rfl,?_,hS,fun _ _ _ h=>h⟩
        rw [own_put rfl (by rw [hs];omega)];exact rfl
    · obtain rfl:=Option.some.inj (show some _=some o from ho)
      refine wpOp_val (v:=.pointer (some ⟨W.heap.size,3,none⟩)) (w':=w) rfl rfl ?_ ⟨_,rfl,?_,hS,fun _ _ _ h=>h⟩
      · simp [execOp,Act.eval,t3,go_sem]
      · rw [own_put rfl (by rw [hs];omega)];exact rfl
    · obtain rfl:=Option.some.inj (show some _=some o from ho)
      have s20:a.tmps.getD 20 undef=.pointer (some ⟨W.heap.size,3,none⟩):=hdone _ (Array.mem_of_getElem? (i:=0) rfl) rfl _ rfl
      refine wpOp_val (v:=.int .i8 m) (w':=w) rfl rfl ?_ ⟨_,rfl,?_,hS,fun _ _ _ h=>h⟩
      · (have hc:=(H3.out w hS);simp [execOp,Act.eval,s20,hc,go_sem])
      · rw [own_put rfl (by rw [hs];omega)];exact rfl
    · obtain rfl:=Option.some.inj (show some _=some o from ho)
      have s21:a.tmps.getD 21 undef=.int .i8 m:=hdone _ (Array.mem_of_getElem? (i:=0) rfl) rfl _ rfl
      refine wpOp_val (v:=.int .i64 m) (w':=w) rfl rfl ?_ ⟨_,rfl,?_,hS,fun _ _ _ h=>h⟩
      · simp [execOp,Act.eval,s21,go_sem,HMW.out]
      · rw [own_put rfl (by rw [hs];omega)];exact rfl
    · obtain rfl:=Option.some.inj (show some _=some o from ho)
      refine wpOp_val (v:=.pointer (some ⟨g,0,none⟩)) (w':=w) rfl rfl ?_ ⟨_,rfl,?_,hS,fun _ _ _ h=>h⟩
      · simp [execOp,Act.eval,t0]
      · rw [own_put rfl (by rw [hs];omega)];exact rfl
    · obtain rfl:=Option.some.inj (show some _=some o from ho)
      refine wpOp_val (v:=.pointer (some ⟨W.heap.size,6,none⟩)) (w':=w) rfl rfl ?_ ⟨_,rfl,?_,hS,fun _ _ _ h=>h⟩
      · simp [execOp,Act.eval,t3,go_sem]
      · rw [own_put rfl (by rw [hs];omega)];exact rfl
    · obtain rfl:=Option.some.inj (show some _=some o from ho)
      have s24:a.tmps.getD 24 undef=.pointer (some ⟨W.heap.size,6,none⟩):=hdone _ (Array.mem_of_getElem? (i:=0) rfl) rfl _ rfl
      refine wpOp_val (v:=.int .i8 n) (w':=w) rfl rfl ?_ ⟨_,rfl,?_,hS,fun _ _ _ h=>h⟩
      · (have hc:=(H6.out w hS);simp [execOp,Act.eval,s24,hc,go_sem])
      · rw [own_put rfl (by rw [hs];omega)];exact rfl
    · obtain rfl:=Option.some.inj (show some _=some o from ho)
      have s23:a.tmps.getD 23 undef=.pointer (some ⟨g,0,none⟩):=hdone _ (Array.mem_of_getElem? (i:=0) rfl) rfl _ rfl
      refine wpOp_val (v:=.pointer (some ⟨g,0,none⟩)) (w':=w) rfl rfl ?_ ⟨_,rfl,?_,hS,fun _ _ _ h=>h⟩
      · simp [execOp,Act.eval,s23,go_sem]
      · rw [own_put rfl (by rw [hs];omega)];exact rfl
    · obtain rfl:=Option.some.inj (show some _=some o from ho)
      have s26:a.tmps.getD 26 undef=.pointer (some ⟨g,0,none⟩):=hdone _ (Array.mem_of_getElem? (i:=0) rfl) rfl _ rfl
      refine wpOp_val (v:=.pointer (some ⟨g,2,none⟩)) (w':=w) rfl rfl ?_ ⟨_,rfl,?_,hS,fun _ _ _ h=>h⟩
      · simp [execOp,Act.eval,s26,go_sem]
      · rw [own_put rfl (by rw [hs];omega)];exact rfl
    · obtain rfl:=Option.some.inj (show some _=some o from ho)
      have s27:a.tmps.getD 27 undef=.pointer (some ⟨g,2,none⟩):=hdone _ (Array.mem_of_getElem? (i:=0) rfl) rfl _ rfl
      have s25:a.tmps.getD 25 undef=.int .i8 n:=hdone _ (Array.mem_of_getElem? (i:=1) rfl) rfl _ rfl
      refine wpOp_val (v:=.pointer (some ⟨g,2 + n,none⟩)) (w':=w) rfl rfl ?_ ⟨_,rfl,?_,hS,fun _ _ _ h=>h⟩
      · (simp [execOp,Act.eval,s27,s25,go_sem];try exact fun h=>absurd h (by omega))
      · rw [own_put rfl (by rw [hs];omega)];exact rfl
    · obtain rfl:=Option.some.inj (show some _=some o from ho)
      have s28:a.tmps.getD 28 undef=.pointer (some ⟨g,2 + n,none⟩):=hdone _ (Array.mem_of_getElem? (i:=0) rfl) rfl _ rfl
      refine wpOp_val (v:=.int .u64 rn) (w':=w) rfl rfl ?_ ⟨_,rfl,?_,hS,fun _ _ _ h=>h⟩
      · (have hc:=(HN.out w (HI.out w hS));simp [execOp,Act.eval,s28,hc,go_sem])
      · rw [own_put rfl (by rw [hs];omega)];exact rfl
    · obtain rfl:=Option.some.inj (show some _=some o from ho)
      have s9:a.tmps.getD 9 undef=.pointer (some ⟨b,0,none⟩):=hdone _ (Array.mem_of_getElem? (i:=0) rfl) rfl _ rfl
      have s19:a.tmps.getD 19 undef=.int .u64 ad:=hdone _ (Array.mem_of_getElem? (i:=1) rfl) rfl _ rfl
      have s22:a.tmps.getD 22 undef=.int .i64 m:=hdone _ (Array.mem_of_getElem? (i:=2) rfl) rfl _ rfl
      have s29:a.tmps.getD 29 undef=.int .u64 rn:=hdone _ (Array.mem_of_getElem? (i:=3) rfl) rfl _ rfl
      refine wpOp_call (f:=67) (args:=#[.pointer (some ⟨b,0,none⟩),.int .u64 ad,.int .i64 m,.int .u64 rn]) rfl rfl ?_ ?_
      · simp [go_sem,execOp,Act.eval,Deferred.ofValue,callFunc,Tryz.func67,Tryz.f67,s9,s19,s22,s29,resolve,invoke]
      · refine (RD.out w (MB.out w hS)).mono ?_
        rintro e w' ⟨rfl,b9⟩
        refine ⟨_,rfl,_,rfl,?_,hS.trans (b9.mono hS.size),fun _ _ _ h=>h⟩
        rw [own_put rfl (by rw [hs];omega)];exact rfl
    · obtain rfl:=Option.some.inj (show some _=some o from ho)
      have s30:a.tmps.getD 30 undef=.int .i64 20:=hdone _ (Array.mem_of_getElem? (i:=0) rfl) rfl _ rfl
      refine wpOp_val (v:=.int .i64 20) (w':=w) rfl rfl ?_ ⟨_,rfl,?_,hS,fun _ _ _ h=>h⟩
      · simp [execOp,Act.eval,s30]
      · rw [own_put rfl (by rw [hs];omega)];exact rfl
  case hq=>
    intro u9 w' hS hR9
    have f5:u9 5=.int .i64 20:=hR9 25 _ rfl
    clear hR9
    rw [show outs _ u9=[(6,u9 6),(7,u9 7),(8,u9 8),(9,u9 9),(10,u9 10),(11,u9 11),(12,u9 12),(13,u9 13),(14,u9 14),(15,u9 15),(16,u9 16),(17,u9 17),(18,u9 18),(19,u9 19),(20,u9 20),(21,u9 21),(22,u9 22),(23,u9 23),(24,u9 24),(25,u9 25),(26,u9 26),(27,u9 27),(28,u9 28),(29,u9 29),(30,u9 30),(5,u9 5)] by kernel_rfl,f5]
    simp only [putAll,List.setIfInBounds_toArray,List.set_cons_zero,List.set_cons_succ]
    generalize u9 6=x6
    generalize u9 7=x7
    generalize u9 8=x8
    generalize u9 9=x9
    generalize u9 10=x10
    generalize u9 11=x11
    generalize u9 12=x12
    generalize u9 13=x13
    generalize u9 14=x14
    generalize u9 15=x15
    generalize u9 16=x16
    generalize u9 17=x17
    generalize u9 18=x18
    generalize u9 19=x19
    generalize u9 20=x20
    generalize u9 21=x21
    generalize u9 22=x22
    generalize u9 23=x23
    generalize u9 24=x24
    generalize u9 25=x25
    generalize u9 26=x26
    generalize u9 27=x27
    generalize u9 28=x28
    generalize u9 29=x29
    generalize u9 30=x30
    clear f5 u9
    have HS:=Lib.hid hS
    clear hS
    go_wp2_with fail
    go_ret
    exact ⟨rfl,below_call BZ.out HS.out⟩
end Go.Proofs.YtigliofiojkhcaaGreat.Mdl
namespace Go.Proofs.YtigliofiojkhcaaGreat.Mdl
open Go.RowKit
set_option linter.unusedVariables false
set_option linter.unusedSimpArgs false
set_option maxRecDepth 100000
set_option maxHeartbeats 4000000 in
theorem store_yes (s:Mo) (g d n m b:Nat) (S:MemS) (kf:Nat → Int) (kind op width:Int) (byReg:Bool) (off imm:Int) (W:World) (h:s.in_ W g) (hw:s.Words) (hd:d < 11) (hn:n < 11) (hm:szB m=true) (o0:-9223372036854775808 ≤ off) (o1:off ≤ 9223372036854775807) (hp:s.memo=.pointer (some ⟨b,0,none⟩)) (M:Mem S kf W b) (hl:locI S.cn S.n S.hs (adI (s.r d) off) m > 1) (hgb:g ≠ b):
    Calls Tryz.prog 32 #[.pointer (some ⟨g,0,none⟩),.agg (Ins.In.mk kind op width m byReg d n off imm).cells] W fun e w'=>e=.returned (.int .i8 0) ∧ (S.putAt (adI (s.r d) off) m (s.r n)).at w' b ∧ But b W w':=by
  have AD:=Lib.hid (fun W=>address_any (s.r d) off W (hw d).1 (hw d).2 o0 o1)
  have hab:0 ≤ adI (s.r d) off ∧ adI (s.r d) off < 18446744073709551616:=by unfold adI;omega
  have RD:=Lib.hid (fun W (h:Mem S kf W b)=>write_yes S b (adI (s.r d) off) (s.r n) m W h.at_ hm hab.1 hab.2 hl (hw n).1 (hw n).2)
  have hbl:b < W.heap.size:=Trc.lt_of_cell (M.at_.row.cell (i:=586) (by omega))
  have hgl:g < W.heap.size:=(Array.getElem?_eq_some_iff.1 h).1
  clear hab o0 o1 hl
  have HR0:∀ w,s.in_ w g → w.cell? ⟨g,2 + d,none⟩=some (.int .u64 (s.r d)):=fun w h=>s.reg h d hd
  have HN0:∀ w,s.in_ w g → w.cell? ⟨g,2 + n,none⟩=some (.int .u64 (s.r n)):=fun w h=>s.reg h n hn
  have HP0:∀ w,s.in_ w g → w.cell? ⟨g,1,none⟩=some (.pointer (some ⟨b,0,none⟩)):=fun w h=>by rw [s.c1 h,hp]
  have HMW:Hid (IntKind.i64.wrap (m:Int)=m):=Lib.hid (by rw [IntKind.wrap_i64];have:=szB_le hm;omega)
  rw [show (s.r d + off) % 18446744073709551616=adI (s.r d) off from rfl] at AD
  have M0:=M.below (below_new (Below.refl _ W) (.cells (Ins.In.mk kind op width m byReg d n off imm).cells 52))
  have BZ0:=below_new (Below.refl W.heap.size W) (.cells (Ins.In.mk kind op width m byReg d n off imm).cells 52)
  generalize adI (s.r d) off=ad at *
  generalize s.r d=rd at *
  generalize s.r n=rn at *
  clear hw hm hp M
  have HR:=Lib.hid HR0;clear HR0
  have HN:=Lib.hid HN0;clear HN0
  have HP:=Lib.hid HP0;clear HP0
  have hin0:=s.below h (below_new (Below.refl _ W) (.cells (Ins.In.mk kind op width m byReg d n off imm).cells 52))
  have BW0:But g W (W.alloc (.cells (Ins.In.mk kind op width m byReg d n off imm).cells 52)):=But.of_below (below_new (Below.refl _ W) _)
  have HH0:(W.alloc (.cells (Ins.In.mk kind op width m byReg d n off imm).cells 52)).heap[W.heap.size]?=some (.cells (Ins.In.mk kind op width m byReg d n off imm).cells 52 (0,0)):=heap_last W _ _ rfl
  clear h
  unfold Ins.In.cells at BW0 HH0 hin0 M0 BZ0 ⊢
  simp only at BW0 HH0 hin0 M0 BZ0 ⊢
  go_enter Tryz.func32,Tryz.ntmps32
  go_wp2_with fail
  generalize W.alloc (.cells #[.int .i8 kind,.int .i8 op,.int .i8 width,.int .i8 m,.bool byReg,.int .i8 d,.int .i8 n,.int .i64 off,.int .i64 imm] 52)=w0 at *
  have BW:=Lib.hid BW0;clear BW0
  have HI:Hid (∀ w,Below w0.heap.size w0 w → s.in_ w g):=Lib.hid (fun w h=>s.below hin0 h)
  have HB:Hid (∀ w,Below w0.heap.size w0 w → w.heap[W.heap.size]?=some (.cells (Ins.In.mk kind op width m byReg d n off imm).cells 52 (0,0))):=Lib.hid (fun w h=>(h.block _ (Array.getElem?_eq_some_iff.1 HH0).1).trans HH0)
  have HC:Hid (∀ fl w,SL [] 24 (fun w=>Below w0.heap.size w0 w) (fun w=>ChgAt b w0 w ∧ (S.putAt ad m rn).at w b) fl w → s.in_ w g ∧ w.heap[W.heap.size]?=some (.cells (Ins.In.mk kind op width m byReg d n off imm).cells 52 (0,0))):=Lib.hid (fun fl w h=>by
    rcases h with ⟨_,h⟩ | ⟨_,_,h⟩
    · exact ⟨HI.out w h,HB.out w h⟩
    · exact ⟨(h.1.block g (Array.getElem?_eq_some_iff.1 hin0).1 hgb).trans hin0,(h.1.block _ (Array.getElem?_eq_some_iff.1 HH0).1 (by omega)).trans HH0⟩)
  clear HH0 hin0
  have H0:Hid (∀ w,Below w0.heap.size w0 w → w.cell? ⟨W.heap.size,0,none⟩=some (.int .i8 kind)):=Lib.hid (fun w h=>by simp only [World.cell?,HB.out w h];rfl)
  have H1:Hid (∀ w,Below w0.heap.size w0 w → w.cell? ⟨W.heap.size,1,none⟩=some (.int .i8 op)):=Lib.hid (fun w h=>by simp only [World.cell?,HB.out w h];rfl)
  have H2:Hid (∀ w,Below w0.heap.size w0 w → w.cell? ⟨W.heap.size,2,none⟩=some (.int .i8 width)):=Lib.hid (fun w h=>by simp only [World.cell?,HB.out w h];rfl)
  have H3:Hid (∀ w,Below w0.heap.size w0 w → w.cell? ⟨W.heap.size,3,none⟩=some (.int .i8 m)):=Lib.hid (fun w h=>by simp only [World.cell?,HB.out w h];rfl)
  have H4:Hid (∀ w,Below w0.heap.size w0 w → w.cell? ⟨W.heap.size,4,none⟩=some (.bool byReg)):=Lib.hid (fun w h=>by simp only [World.cell?,HB.out w h];rfl)
  have H5:Hid (∀ w,Below w0.heap.size w0 w → w.cell? ⟨W.heap.size,5,none⟩=some (.int .i8 d)):=Lib.hid (fun w h=>by simp only [World.cell?,HB.out w h];rfl)
  have H6:Hid (∀ w,Below w0.heap.size w0 w → w.cell? ⟨W.heap.size,6,none⟩=some (.int .i8 n)):=Lib.hid (fun w h=>by simp only [World.cell?,HB.out w h];rfl)
  have H7:Hid (∀ w,Below w0.heap.size w0 w → w.cell? ⟨W.heap.size,7,none⟩=some (.int .i64 off)):=Lib.hid (fun w h=>by simp only [World.cell?,HB.out w h];rfl)
  have H8:Hid (∀ w,Below w0.heap.size w0 w → w.cell? ⟨W.heap.size,8,none⟩=some (.int .i64 imm)):=Lib.hid (fun w h=>by simp only [World.cell?,HB.out w h];rfl)
  have MB:Hid (∀ w,Below w0.heap.size w0 w → Mem S kf w b):=Lib.hid (fun w h=>M0.below h)
  clear M0
  have BZ:=Lib.hid BZ0;clear BZ0
  refine wp_region_invl (SL [] 24 (fun w=>Below w0.heap.size w0 w) (fun w=>ChgAt b w0 w ∧ (S.putAt ad m rn).at w b)) (TabQ [fun v=>v=.pointer (some ⟨g,0,none⟩),fun v=>v=.pointer (some ⟨g,0,none⟩),fun v=>v=.pointer (some ⟨g,1,none⟩),fun v=>v=.pointer (some ⟨b,0,none⟩),fun v=>v=.pointer (some ⟨g,0,none⟩),fun v=>v=.pointer (some ⟨W.heap.size,5,none⟩),fun v=>v=.int .i8 d,fun v=>v=.pointer (some ⟨g,0,none⟩),fun v=>v=.pointer (some ⟨g,2,none⟩),fun v=>v=.pointer (some ⟨g,2 + d,none⟩),fun v=>v=.int .u64 rd,fun v=>v=.pointer (some ⟨W.heap.size,7,none⟩),fun v=>v=.int .i64 off,fun v=>v=.int .u64 ad,fun v=>v=.pointer (some ⟨W.heap.size,3,none⟩),fun v=>v=.int .i8 m,fun v=>v=.int .i64 m,fun v=>v=.pointer (some ⟨g,0,none⟩),fun v=>v=.pointer (some ⟨W.heap.size,6,none⟩),fun v=>v=.int .i8 n,fun v=>v=.pointer (some ⟨g,0,none⟩),fun v=>v=.pointer (some ⟨g,2,none⟩),fun v=>v=.pointer (some ⟨g,2 + n,none⟩),fun v=>v=.int .u64 rn,fun v=>v=.int .i64 0,fun v=>v=.int .i64 0]) (by kernel_rfl) (back_of (by kernel_rfl)) (dst_of (by kernel_rfl)) (in_of (by kernel_rfl)) (fun fl h=>SL.start (h 24 (by decide)) (Below.drew (Below.refl _ _))) ?hop ?hq
  case hop=>
    intro i o a w fl ho hS hfi hdf hsz hrest hdone
    have t0:a.tmps.getD 0 undef=.pointer (some ⟨g,0,none⟩):=hrest 0 (not_of (by kernel_rfl))
    have t3:a.tmps.getD 3 undef=.pointer (some ⟨W.heap.size,0,none⟩):=hrest 3 (not_of (by kernel_rfl))
    have hs:a.tmps.size=33:=hsz.trans rfl
    have hi:i < 26:=(Array.getElem?_eq_some_iff.1 ho).1
    clear hrest hsz hdf
    obtain rfl | rfl | rfl | rfl | rfl | rfl | rfl | rfl | rfl | rfl | rfl | rfl | rfl | rfl | rfl | rfl | rfl | rfl | rfl | rfl | rfl | rfl | rfl | rfl | rfl | rfl:i=0 ∨ i=1 ∨ i=2 ∨ i=3 ∨ i=4 ∨ i=5 ∨ i=6 ∨ i=7 ∨ i=8 ∨ i=9 ∨ i=10 ∨ i=11 ∨ i=12 ∨ i=13 ∨ i=14 ∨ i=15 ∨ i=16 ∨ i=17 ∨ i=18 ∨ i=19 ∨ i=20 ∨ i=21 ∨ i=22 ∨ i=23 ∨ i=24 ∨ i=25:=by omega
    · obtain rfl:=Option.some.inj (show some _=some o from ho)
      refine wpOp_val (v:=.pointer (some ⟨g,0,none⟩)) (w':=w) rfl rfl ?_ ⟨_,rfl,?_,hS.other (by decide)⟩
      · simp [execOp,Act.eval,t0]
      · rw [own_put rfl (by rw [hs];omega)];exact rfl
    · obtain rfl:=Option.some.inj (show some _=some o from ho)
      have s6:a.tmps.getD 6 undef=.pointer (some ⟨g,0,none⟩):=(hdone _ (Array.mem_of_getElem? (i:=0) rfl) rfl).2 _ rfl
      refine wpOp_val (v:=.pointer (some ⟨g,0,none⟩)) (w':=w) rfl rfl ?_ ⟨_,rfl,?_,hS.other (by decide)⟩
      · simp [execOp,Act.eval,s6,go_sem]
      · rw [own_put rfl (by rw [hs];omega)];exact rfl
    · obtain rfl:=Option.some.inj (show some _=some o from ho)
      have s7:a.tmps.getD 7 undef=.pointer (some ⟨g,0,none⟩):=(hdone _ (Array.mem_of_getElem? (i:=0) rfl) rfl).2 _ rfl
      refine wpOp_val (v:=.pointer (some ⟨g,1,none⟩)) (w':=w) rfl rfl ?_ ⟨_,rfl,?_,hS.other (by decide)⟩
      · simp [execOp,Act.eval,s7,go_sem]
      · rw [own_put rfl (by rw [hs];omega)];exact rfl
    · obtain rfl:=Option.some.inj (show some _=some o from ho)
      have s8:a.tmps.getD 8 undef=.pointer (some ⟨g,1,none⟩):=(hdone _ (Array.mem_of_getElem? (i:=0) rfl) rfl).2 _ rfl
      refine wpOp_val (v:=.pointer (some ⟨b,0,none⟩)) (w':=w) rfl rfl ?_ ⟨_,rfl,?_,hS.other (by decide)⟩
      · (have hc:=(HP.out w (HC.out fl w hS).1);simp [execOp,Act.eval,s8,hc,go_sem])
      · rw [own_put rfl (by rw [hs];omega)];exact rfl
    · obtain rfl:=Option.some.inj (show some _=some o from ho)
      refine wpOp_val (v:=.pointer (some ⟨g,0,none⟩)) (w':=w) rfl rfl ?_ ⟨_,rfl,?_,hS.other (by decide)⟩
      · simp [execOp,Act.eval,t0]
      · rw [own_put rfl (by rw [hs];omega)];exact rfl
    · obtain rfl:=Option.some.inj (show some _=some o from ho)
      refine wpOp_val (v:=.pointer (some ⟨W.heap.size,5,none⟩)) (w':=w) rfl rfl ?_ ⟨_,rfl,?_,hS.other (by decide)⟩
      · simp [execOp,Act.eval,t3,go_sem]
      · rw [own_put rfl (by rw [hs];omega)];exact rfl
    · obtain rfl:=Option.some.inj (show some _=some o from ho)
      have s11:a.tmps.getD 11 undef=.pointer (some ⟨W.heap.size,5,none⟩):=(hdone _ (Array.mem_of_getElem? (i:=0) rfl) rfl).2 _ rfl
      refine wpOp_val (v:=.int .i8 d) (w':=w) rfl rfl ?_ ⟨_,rfl,?_,hS.other (by decide)⟩
      · (have hq:=(HC.out fl w hS).2;have hc:w.cell? ⟨W.heap.size,5,none⟩=some (.int .i8 d):=(by simp only [World.cell?,hq];rfl);simp [execOp,Act.eval,s11,hc,go_sem])
      · rw [own_put rfl (by rw [hs];omega)];exact rfl
    · obtain rfl:=Option.some.inj (show some _=some o from ho)
      have s10:a.tmps.getD 10 undef=.pointer (some ⟨g,0,none⟩):=(hdone _ (Array.mem_of_getElem? (i:=0) rfl) rfl).2 _ rfl
      refine wpOp_val (v:=.pointer (some ⟨g,0,none⟩)) (w':=w) rfl rfl ?_ ⟨_,rfl,?_,hS.other (by decide)⟩
      · simp [execOp,Act.eval,s10,go_sem]
      · rw [own_put rfl (by rw [hs];omega)];exact rfl
    · obtain rfl:=Option.some.inj (show some _=some o from ho)
      have s13:a.tmps.getD 13 undef=.pointer (some ⟨g,0,none⟩):=(hdone _ (Array.mem_of_getElem? (i:=0) rfl) rfl).2 _ rfl
      refine wpOp_val (v:=.pointer (some ⟨g,2,none⟩)) (w':=w) rfl rfl ?_ ⟨_,rfl,?_,hS.other (by decide)⟩
      · simp [execOp,Act.eval,s13,go_sem]
      · rw [own_put rfl (by rw [hs];omega)];exact rfl
    · obtain rfl:=Option.some.inj (show some _=some o from ho)
      have s14:a.tmps.getD 14 undef=.pointer (some ⟨g,2,none⟩):=(hdone _ (Array.mem_of_getElem? (i:=0) rfl) rfl).2 _ rfl
      have s12:a.tmps.getD 12 undef=.int .i8 d:=(hdone _ (Array.mem_of_getElem? (i:=1) rfl) rfl).2 _ rfl
      refine wpOp_val (v:=.pointer (some ⟨g,2 + d,none⟩)) (w':=w) rfl rfl ?_ ⟨_,rfl,?_,hS.other (by decide)⟩
      · (simp [execOp,Act.eval,s14,s12,go_sem];try exact fun h=>absurd h (by omega))
      · rw [own_put rfl (by rw [hs];omega)];exact rfl
    · obtain rfl:=Option.some.inj (show some _=some o from ho)
      have s15:a.tmps.getD 15 undef=.pointer (some ⟨g,2 + d,none⟩):=(hdone _ (Array.mem_of_getElem? (i:=0) rfl) rfl).2 _ rfl
      refine wpOp_val (v:=.int .u64 rd) (w':=w) rfl rfl ?_ ⟨_,rfl,?_,hS.other (by decide)⟩
      · (have hc:=(HR.out w (HC.out fl w hS).1);simp [execOp,Act.eval,s15,hc,go_sem])
      · rw [own_put rfl (by rw [hs];omega)];exact rfl
    · obtain rfl:=Option.some.inj (show some _=some o from ho)
      refine wpOp_val (v:=.pointer (some ⟨W.heap.size,7,none⟩)) (w':=w) rfl rfl ?_ ⟨_,rfl,?_,hS.other (by decide)⟩
      · simp [execOp,Act.eval,t3,go_sem]
      · rw [own_put rfl (by rw [hs];omega)];exact rfl
    · obtain rfl:=Option.some.inj (show some _=some o from ho)
      have s17:a.tmps.getD 17 undef=.pointer (some ⟨W.heap.size,7,none⟩):=(hdone _ (Array.mem_of_getElem? (i:=0) rfl) rfl).2 _ rfl
      refine wpOp_val (v:=.int .i64 off) (w':=w) rfl rfl ?_ ⟨_,rfl,?_,hS.other (by decide)⟩
      · (have hq:=(HC.out fl w hS).2;have hc:w.cell? ⟨W.heap.size,7,none⟩=some (.int .i64 off):=(by simp only [World.cell?,hq];rfl);simp [execOp,Act.eval,s17,hc,go_sem])
      · rw [own_put rfl (by rw [hs];omega)];exact rfl
    · obtain rfl:=Option.some.inj (show some _=some o from ho)
      have s16:a.tmps.getD 16 undef=.int .u64 rd:=(hdone _ (Array.mem_of_getElem? (i:=0) rfl) rfl).2 _ rfl
      have s18:a.tmps.getD 18 undef=.int .i64 off:=(hdone _ (Array.mem_of_getElem? (i:=1) rfl) rfl).2 _ rfl
      refine wpOp_call (f:=66) (args:=#[.int .u64 rd,.int .i64 off]) rfl rfl ?_ ?_
      · simp [go_sem,execOp,Act.eval,Deferred.ofValue,callFunc,Tryz.func66,Tryz.f66,s16,s18,resolve,invoke]
      · refine (AD.out w).mono ?_
        rintro e w' ⟨rfl,rfl⟩
        refine ⟨_,rfl,_,rfl,?_,hS.other (by decide)⟩
        rw [own_put rfl (by rw [hs];omega)];exact rfl
    · obtain rfl:=Option.some.inj (show some _=some o from ho)
      refine wpOp_val (v:=.pointer (some ⟨W.heap.size,3,none⟩)) (w':=w) rfl rfl ?_ ⟨_,rfl,?_,hS.other (by decide)⟩
      · simp [execOp,Act.eval,t3,go_sem]
      · rw [own_put rfl (by rw [hs];omega)];exact rfl
    · obtain rfl:=Option.some.inj (show some _=some o from ho)
      have s20:a.tmps.getD 20 undef=.pointer (some ⟨W.heap.size,3,none⟩):=(hdone _ (Array.mem_of_getElem? (i:=0) rfl) rfl).2 _ rfl
      refine wpOp_val (v:=.int .i8 m) (w':=w) rfl rfl ?_ ⟨_,rfl,?_,hS.other (by decide)⟩
      · (have hq:=(HC.out fl w hS).2;have hc:w.cell? ⟨W.heap.size,3,none⟩=some (.int .i8 m):=(by simp only [World.cell?,hq];rfl);simp [execOp,Act.eval,s20,hc,go_sem])
      · rw [own_put rfl (by rw [hs];omega)];exact rfl
    · obtain rfl:=Option.some.inj (show some _=some o from ho)
      have s21:a.tmps.getD 21 undef=.int .i8 m:=(hdone _ (Array.mem_of_getElem? (i:=0) rfl) rfl).2 _ rfl
      refine wpOp_val (v:=.int .i64 m) (w':=w) rfl rfl ?_ ⟨_,rfl,?_,hS.other (by decide)⟩
      · simp [execOp,Act.eval,s21,go_sem,HMW.out]
      · rw [own_put rfl (by rw [hs];omega)];exact rfl
    · obtain rfl:=Option.some.inj (show some _=some o from ho)
      refine wpOp_val (v:=.pointer (some ⟨g,0,none⟩)) (w':=w) rfl rfl ?_ ⟨_,rfl,?_,hS.other (by decide)⟩
      · simp [execOp,Act.eval,t0]
      · rw [own_put rfl (by rw [hs];omega)];exact rfl
    · obtain rfl:=Option.some.inj (show some _=some o from ho)
      refine wpOp_val (v:=.pointer (some ⟨W.heap.size,6,none⟩)) (w':=w) rfl rfl ?_ ⟨_,rfl,?_,hS.other (by decide)⟩
      · simp [execOp,Act.eval,t3,go_sem]
      · rw [own_put rfl (by rw [hs];omega)];exact rfl
    · obtain rfl:=Option.some.inj (show some _=some o from ho)
      have s24:a.tmps.getD 24 undef=.pointer (some ⟨W.heap.size,6,none⟩):=(hdone _ (Array.mem_of_getElem? (i:=0) rfl) rfl).2 _ rfl
      refine wpOp_val (v:=.int .i8 n) (w':=w) rfl rfl ?_ ⟨_,rfl,?_,hS.other (by decide)⟩
      · (have hq:=(HC.out fl w hS).2;have hc:w.cell? ⟨W.heap.size,6,none⟩=some (.int .i8 n):=(by simp only [World.cell?,hq];rfl);simp [execOp,Act.eval,s24,hc,go_sem])
      · rw [own_put rfl (by rw [hs];omega)];exact rfl
    · obtain rfl:=Option.some.inj (show some _=some o from ho)
      have s23:a.tmps.getD 23 undef=.pointer (some ⟨g,0,none⟩):=(hdone _ (Array.mem_of_getElem? (i:=0) rfl) rfl).2 _ rfl
      refine wpOp_val (v:=.pointer (some ⟨g,0,none⟩)) (w':=w) rfl rfl ?_ ⟨_,rfl,?_,hS.other (by decide)⟩
      · simp [execOp,Act.eval,s23,go_sem]
      · rw [own_put rfl (by rw [hs];omega)];exact rfl
    · obtain rfl:=Option.some.inj (show some _=some o from ho)
      have s26:a.tmps.getD 26 undef=.pointer (some ⟨g,0,none⟩):=(hdone _ (Array.mem_of_getElem? (i:=0) rfl) rfl).2 _ rfl
      refine wpOp_val (v:=.pointer (some ⟨g,2,none⟩)) (w':=w) rfl rfl ?_ ⟨_,rfl,?_,hS.other (by decide)⟩
      · simp [execOp,Act.eval,s26,go_sem]
      · rw [own_put rfl (by rw [hs];omega)];exact rfl
    · obtain rfl:=Option.some.inj (show some _=some o from ho)
      have s27:a.tmps.getD 27 undef=.pointer (some ⟨g,2,none⟩):=(hdone _ (Array.mem_of_getElem? (i:=0) rfl) rfl).2 _ rfl
      have s25:a.tmps.getD 25 undef=.int .i8 n:=(hdone _ (Array.mem_of_getElem? (i:=1) rfl) rfl).2 _ rfl
      refine wpOp_val (v:=.pointer (some ⟨g,2 + n,none⟩)) (w':=w) rfl rfl ?_ ⟨_,rfl,?_,hS.other (by decide)⟩
      · (simp [execOp,Act.eval,s27,s25,go_sem];try exact fun h=>absurd h (by omega))
      · rw [own_put rfl (by rw [hs];omega)];exact rfl
    · obtain rfl:=Option.some.inj (show some _=some o from ho)
      have s28:a.tmps.getD 28 undef=.pointer (some ⟨g,2 + n,none⟩):=(hdone _ (Array.mem_of_getElem? (i:=0) rfl) rfl).2 _ rfl
      refine wpOp_val (v:=.int .u64 rn) (w':=w) rfl rfl ?_ ⟨_,rfl,?_,hS.other (by decide)⟩
      · (have hc:=(HN.out w (HC.out fl w hS).1);simp [execOp,Act.eval,s28,hc,go_sem])
      · rw [own_put rfl (by rw [hs];omega)];exact rfl
    · obtain rfl:=Option.some.inj (show some _=some o from ho)
      have s9:a.tmps.getD 9 undef=.pointer (some ⟨b,0,none⟩):=(hdone _ (Array.mem_of_getElem? (i:=0) rfl) rfl).2 _ rfl
      have s19:a.tmps.getD 19 undef=.int .u64 ad:=(hdone _ (Array.mem_of_getElem? (i:=1) rfl) rfl).2 _ rfl
      have s22:a.tmps.getD 22 undef=.int .i64 m:=(hdone _ (Array.mem_of_getElem? (i:=2) rfl) rfl).2 _ rfl
      have s29:a.tmps.getD 29 undef=.int .u64 rn:=(hdone _ (Array.mem_of_getElem? (i:=3) rfl) rfl).2 _ rfl
      have h0:=hS.atK hfi
      have hL:∀ l ∈ ([]:List Nat),fl l=true:=fun l hl=>absurd hl (by simp)
      refine wpOp_call (f:=67) (args:=#[.pointer (some ⟨b,0,none⟩),.int .u64 ad,.int .i64 m,.int .u64 rn]) rfl rfl ?_ ?_
      · simp [go_sem,execOp,Act.eval,Deferred.ofValue,callFunc,Tryz.func67,Tryz.f67,s9,s19,s22,s29,resolve,invoke]
      · refine (RD.out w (MB.out w h0)).mono ?_
        rintro e w' ⟨rfl,p9,c9⟩
        refine ⟨_,rfl,_,rfl,?_,SL.to hL ⟨⟨c9.os.trans h0.os,c9.tape.trans h0.tape,c9.output.trans h0.output,Nat.le_trans h0.size c9.size,fun k hk hne=>(c9.block k (by have:=h0.size;omega) hne).trans (h0.block k hk)⟩,p9⟩⟩
        rw [own_put rfl (by rw [hs];omega)];exact rfl
    · obtain rfl:=Option.some.inj (show some _=some o from ho)
      have s30:a.tmps.getD 30 undef=.int .i64 0:=(hdone _ (Array.mem_of_getElem? (i:=0) rfl) rfl).2 _ rfl
      refine wpOp_val (v:=.int .i64 0) (w':=w) rfl rfl ?_ ⟨_,rfl,?_,hS.other (by decide)⟩
      · simp [execOp,Act.eval,s30]
      · rw [own_put rfl (by rw [hs];omega)];exact rfl
  case hq=>
    intro u9 w9 fl hfl hS hR9
    have h2:=hS.done (hfl 24 (by decide))
    have f5:u9 5=.int .i64 0:=hR9 25 _ rfl
    clear hR9 hS hfl
    rw [show outs _ u9=[(6,u9 6),(7,u9 7),(8,u9 8),(9,u9 9),(10,u9 10),(11,u9 11),(12,u9 12),(13,u9 13),(14,u9 14),(15,u9 15),(16,u9 16),(17,u9 17),(18,u9 18),(19,u9 19),(20,u9 20),(21,u9 21),(22,u9 22),(23,u9 23),(24,u9 24),(25,u9 25),(26,u9 26),(27,u9 27),(28,u9 28),(29,u9 29),(30,u9 30),(5,u9 5)] by kernel_rfl,f5]
    simp only [putAll,List.setIfInBounds_toArray,List.set_cons_zero,List.set_cons_succ]
    generalize u9 6=x6
    generalize u9 7=x7
    generalize u9 8=x8
    generalize u9 9=x9
    generalize u9 10=x10
    generalize u9 11=x11
    generalize u9 12=x12
    generalize u9 13=x13
    generalize u9 14=x14
    generalize u9 15=x15
    generalize u9 16=x16
    generalize u9 17=x17
    generalize u9 18=x18
    generalize u9 19=x19
    generalize u9 20=x20
    generalize u9 21=x21
    generalize u9 22=x22
    generalize u9 23=x23
    generalize u9 24=x24
    generalize u9 25=x25
    generalize u9 26=x26
    generalize u9 27=x27
    generalize u9 28=x28
    generalize u9 29=x29
    generalize u9 30=x30
    clear f5 u9
    have H2:=Lib.hid h2;clear h2
    go_wp2_with fail
    go_ret
    exact ⟨rfl,H2.out.2,(But.of_below BZ.out).trans ⟨H2.out.1.os,H2.out.1.tape,H2.out.1.output,H2.out.1.size,H2.out.1.block⟩⟩
end Go.Proofs.YtigliofiojkhcaaGreat.Mdl
