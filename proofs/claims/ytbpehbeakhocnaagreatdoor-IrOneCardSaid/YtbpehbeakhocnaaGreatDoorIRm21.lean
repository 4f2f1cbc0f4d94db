import Derived.Test.YtbpehbeakhocnaaGreatDoorIRm20
set_option maxHeartbeats 4000000
set_option linter.unusedVariables false
set_option linter.unusedSimpArgs false
set_option linter.unnecessarySimpa false
namespace Go.Proofs.YtbpehbeakhocnaaGreatDoor.Mrm
open Go Go.RowKit
set_option maxRecDepth 100000
theorem g_row {w w':World} {row:Option Nat} {n g:Nat} {o:Obj} (h:w.grownBy w' row) (hr:∀ k,row=some k → n ≤ k) (hg:w.heap[g]?=some o) (hn:g < n):w'.heap[g]?=some o:=
  (h.block g (Array.getElem?_eq_some_iff.1 hg).1 (fun e=>by have:=hr g e.symm;omega)).trans hg
theorem mod_ok (z:Int):Oks [z % 256]:=one_ok (by omega)
theorem aheadP_ok (w:Int) (c:Cd) (p:Pt):Oks (aheadP w c p):=by
  unfold aheadP
  refine Oks.append ?_ (Oks.append ?_ (Oks.append ?_ (mod_ok _)))
  · cases halfP w c
    · intro z hz;cases hz
    · exact one_ok (by omega)
  · cases rexP w c p
    · intro z hz;cases hz
    · exact one_ok (rexI_bd _ _ _)
  · cases (valP c p / 256 % 256 != 0)
    · intro z hz;cases hz
    · exact mod_ok _
theorem aheadP_len (w:Int) (c:Cd) (p:Pt):(aheadP w c p).length ≤ 4:=by
  unfold aheadP
  cases halfP w c <;> cases rexP w c p <;> cases (valP c p / 256 % 256 != 0) <;> simp
theorem enc_110 (op wd dst src base disp imm cc sh at_ va dg lo reg rm pdisp pimm pcc:Int) (W:World) (im:inMemB sh=true) (en:immN sh=0) (eC:codeOfP op wd=(⟨sh,at_,va,dg,lo⟩,true)) (eP:partsP ⟨op,wd,dst,src,base,disp,imm,cc⟩ ⟨sh,at_,va,dg,lo⟩=⟨reg,rm,pdisp,pimm,pcc⟩) (hb:bothB reg rm=true) (hcc:lo=15 → 0 ≤ pcc ∧ pcc < 16) (ho:-128 ≤ op ∧ op < 128) (hd:-9223372036854775808 ≤ pdisp ∧ pdisp ≤ 9223372036854775807) (hi:-9223372036854775808 ≤ pimm ∧ pimm ≤ 9223372036854775807) (fd:fitB pdisp 4=true) (hT:Tabs W):Calls Tryz.prog 106 #[.agg #[.int .i8 op,.int .i8 wd,.int .i8 dst,.int .i8 src,.int .i8 base,.int .i64 disp,.int .i64 imm,.int .i8 cc]] W (RetV ((aheadP wd ⟨sh,at_,va,dg,lo⟩ ⟨reg,rm,pdisp,pimm,pcc⟩ ++ memL reg rm pdisp)) W):=by
  have mc:=codeOf_mem op wd
  rw [eC] at mc
  have HT:=Lib.hid hT
  have CO:=Lib.hid (fun W (hT:Tabs W)=>show Calls Tryz.prog 121 #[.int .i8 op,.int .i8 wd] W fun e w'=>e=.returned (.tuple #[.agg #[.int .i8 sh,.int .i8 at_,.int .u16 va,.int .i8 dg,.int .u16 lo],.bool true]) ∧ Below W.heap.size W w' by have q:=codeOf_n op wd ho W hT;rw [eC] at q;exact q)
  have PA:=Lib.hid (fun W=>show Calls Tryz.prog 123 #[.agg #[.int .i8 op,.int .i8 wd,.int .i8 dst,.int .i8 src,.int .i8 base,.int .i64 disp,.int .i64 imm,.int .i8 cc],.agg #[.int .i8 sh,.int .i8 at_,.int .u16 va,.int .i8 dg,.int .u16 lo]] W fun e w'=>e=.returned (.agg #[.int .i8 reg,.int .i8 rm,.int .i64 pdisp,.int .i64 pimm,.int .i8 pcc]) ∧ Below W.heap.size W w' by have q:=cparts_n ⟨op,wd,dst,src,base,disp,imm,cc⟩ ⟨sh,at_,va,dg,lo⟩ mc W;rw [eP] at q;exact q)
  have AH:=Lib.hid (fun W=>cahead_n ⟨op,wd,dst,src,base,disp,imm,cc⟩ ⟨sh,at_,va,dg,lo⟩ ⟨reg,rm,pdisp,pimm,pcc⟩ mc hb hcc W)
  have AO:=Lib.hid (aheadP_ok wd ⟨sh,at_,va,dg,lo⟩ ⟨reg,rm,pdisp,pimm,pcc⟩)
  have AN:=aheadP_len wd ⟨sh,at_,va,dg,lo⟩ ⟨reg,rm,pdisp,pimm,pcc⟩
  have IM:=Lib.hid (fun W=>cinMem_n sh W)
  have IO:=Lib.hid (fun W=>cinOp_n sh W)
  have IB:=Lib.hid (fun W=>cimm_n sh W)
  rw [im] at IM
  rw [en] at IB
  have OP:=Lib.hid (fun W=>mem_n reg rm pdisp hd.1 hd.2 W)
  have OO:=Lib.hid (memL_ok reg rm pdisp)
  have ON:=memL_few reg rm pdisp
  unfold MemB memB at OP
  rw [hb,fd] at OP
  simp only [Bool.true_and,cond_true] at OP
  clear mc hb hcc ho hd hi fd im en eC eP hT
  generalize aheadP wd ⟨sh,at_,va,dg,lo⟩ ⟨reg,rm,pdisp,pimm,pcc⟩=al at *
  generalize memL reg rm pdisp=ol at *
  unfold RetV at *
  try unfold RetB at *
  go_enter Tryz.func106,Tryz.ntmps106
  go_wp2_with fail
  refine (CO.out _ (HT.out.below (below_new (Below.refl _ _) _) (Nat.le_refl _))).mono ?_
  rintro e w1 ⟨rfl,b1⟩
  have r1:=Lib.hid (heap_below b1 (heap_last W _ _ rfl) (Nat.le_refl _))
  have B1:=Lib.hid (below_call (below_new (Below.refl _ _) _) b1)
  clear b1
  go_wp2_with (with_reducible refine (halt_load 38 _ rfl ?_))
  refine ⟨?_,trivial⟩
  refine wpList_load_row rfl 38 _ rfl _ rfl _ _ _ _ ((heap_past _ _ _ (Array.getElem?_eq_some_iff.1 r1.out).1).trans r1.out) Tryz.underlying38 rfl (by kernel_rfl) ?_
  go_wp2_with fail
  refine (PA.out _).mono ?_
  rintro e w2 ⟨rfl,b2⟩
  have r2:=Lib.hid (heap_below b2 ((heap_past _ _ _ (Array.getElem?_eq_some_iff.1 r1.out).1).trans r1.out) (Nat.le_refl _))
  have s2:=Lib.hid (heap_below b2 (heap_last w1 _ _ rfl) (Nat.le_refl _))
  have B2:=Lib.hid (below_call (below_new B1.out _) b2)
  clear b2
  go_wp2_with (with_reducible refine (halt_load 38 _ rfl ?_))
  refine ⟨?_,trivial⟩
  refine wpList_load_row rfl 38 _ rfl _ rfl _ _ _ _ ((heap_past _ _ _ (Array.getElem?_eq_some_iff.1 r2.out).1).trans r2.out) Tryz.underlying38 rfl (by kernel_rfl) ?_
  go_wp2_with (with_reducible refine (halt_load 106 _ rfl ?_))
  refine ⟨?_,trivial⟩
  refine wpList_load_row rfl 106 _ rfl _ rfl _ _ _ _ ((heap_past _ _ _ (Array.getElem?_eq_some_iff.1 s2.out).1).trans s2.out) Tryz.underlying106 rfl (by kernel_rfl) ?_
  go_wp2_with fail
  refine (AH.out _).mono ?_
  rintro e w3 ⟨v3,rfl,o3,b3⟩
  have s3:=Lib.hid (heap_below b3 ((heap_past _ _ _ (Array.getElem?_eq_some_iff.1 s2.out).1).trans s2.out) (Nat.le_refl _))
  have t3:=Lib.hid (heap_below b3 (heap_last w2 _ _ rfl) (Nat.le_refl _))
  have B3:=Lib.hid (below_call (below_new B2.out _) b3)
  have S3:=Lib.hid b3.size
  have O3:=Lib.hid (show Bts (w2.heap.size + 1) w3 v3 al from o3.mono (by rw [size_alloc];exact Nat.le_refl _))
  have L3:=Lib.hid (show w2.heap.size + 1 ≤ w3.heap.size from by have:=b3.size;rw [size_alloc] at this;exact this)
  have LC:=Lib.hid (show w1.heap.size < w2.heap.size + 1 from by have:=(Array.getElem?_eq_some_iff.1 s2.out).1;omega)
  have LX:=Lib.hid (show W.heap.size ≤ w2.heap.size from B2.out.size)
  clear b3 o3
  generalize w2.heap.size=gp at *
  generalize w1.heap.size=gc at *
  obtain ⟨c3_0,c3_1,c3_2,c3_3,c3_4⟩:w3.cell? ⟨gc,0,none⟩=some (.int .i8 sh) ∧ w3.cell? ⟨gc,1,none⟩=some (.int .i8 at_) ∧ w3.cell? ⟨gc,2,none⟩=some (.int .u16 va) ∧ w3.cell? ⟨gc,3,none⟩=some (.int .i8 dg) ∧ w3.cell? ⟨gc,4,none⟩=some (.int .u16 lo):=by
    have h:=s3.out
    simp only [World.cell?,h]
    exact ⟨rfl,rfl,rfl,rfl,rfl⟩
  obtain ⟨p3_0,p3_1,p3_2,p3_3,p3_4⟩:w3.cell? ⟨gp,0,none⟩=some (.int .i8 reg) ∧ w3.cell? ⟨gp,1,none⟩=some (.int .i8 rm) ∧ w3.cell? ⟨gp,2,none⟩=some (.int .i64 pdisp) ∧ w3.cell? ⟨gp,3,none⟩=some (.int .i64 pimm) ∧ w3.cell? ⟨gp,4,none⟩=some (.int .i8 pcc):=by
    have h:=t3.out
    simp only [World.cell?,h]
    exact ⟨rfl,rfl,rfl,rfl,rfl⟩
  go_wp2_with fail
  refine (IM.out _).mono ?_
  rintro e w4 ⟨rfl,b4⟩
  have s4:=Lib.hid (heap_below b4 s3.out (Nat.le_refl _))
  have t4:=Lib.hid (heap_below b4 t3.out (Nat.le_refl _))
  have B4:=Lib.hid (below_call B3.out b4)
  have O4:=Lib.hid (O3.out.below b4)
  have L4:=Lib.hid (Nat.le_trans L3.out b4.size)
  clear b4
  clear c3_0 c3_1 c3_2 c3_3 c3_4 p3_0 p3_1 p3_2 p3_3 p3_4
  obtain ⟨c4_0,c4_1,c4_2,c4_3,c4_4⟩:w4.cell? ⟨gc,0,none⟩=some (.int .i8 sh) ∧ w4.cell? ⟨gc,1,none⟩=some (.int .i8 at_) ∧ w4.cell? ⟨gc,2,none⟩=some (.int .u16 va) ∧ w4.cell? ⟨gc,3,none⟩=some (.int .i8 dg) ∧ w4.cell? ⟨gc,4,none⟩=some (.int .u16 lo):=by
    have h:=s4.out
    simp only [World.cell?,h]
    exact ⟨rfl,rfl,rfl,rfl,rfl⟩
  obtain ⟨p4_0,p4_1,p4_2,p4_3,p4_4⟩:w4.cell? ⟨gp,0,none⟩=some (.int .i8 reg) ∧ w4.cell? ⟨gp,1,none⟩=some (.int .i8 rm) ∧ w4.cell? ⟨gp,2,none⟩=some (.int .i64 pdisp) ∧ w4.cell? ⟨gp,3,none⟩=some (.int .i64 pimm) ∧ w4.cell? ⟨gp,4,none⟩=some (.int .i8 pcc):=by
    have h:=t4.out
    simp only [World.cell?,h]
    exact ⟨rfl,rfl,rfl,rfl,rfl⟩
  go_wp2_with fail
  refine (OP.out _).mono ?_
  rintro e w5 ⟨u5,rfl,o5,b5⟩
  have s5:=Lib.hid (heap_below b5 s4.out (Nat.le_refl _))
  have t5:=Lib.hid (heap_below b5 t4.out (Nat.le_refl _))
  have B5:=Lib.hid (below_call B4.out b5)
  have O5:=Lib.hid (O4.out.below b5)
  have L5:=Lib.hid (Nat.le_trans L4.out b5.size)
  obtain ⟨xa5,xc5,rfl,at5⟩:=o5.at OO.out
  have A5:=Lib.hid at5
  clear b5 o5 at5
  clear c4_0 c4_1 c4_2 c4_3 c4_4 p4_0 p4_1 p4_2 p4_3 p4_4
  obtain ⟨c5_0,c5_1,c5_2,c5_3,c5_4⟩:w5.cell? ⟨gc,0,none⟩=some (.int .i8 sh) ∧ w5.cell? ⟨gc,1,none⟩=some (.int .i8 at_) ∧ w5.cell? ⟨gc,2,none⟩=some (.int .u16 va) ∧ w5.cell? ⟨gc,3,none⟩=some (.int .i8 dg) ∧ w5.cell? ⟨gc,4,none⟩=some (.int .u16 lo):=by
    have h:=s5.out
    simp only [World.cell?,h]
    exact ⟨rfl,rfl,rfl,rfl,rfl⟩
  obtain ⟨p5_0,p5_1,p5_2,p5_3,p5_4⟩:w5.cell? ⟨gp,0,none⟩=some (.int .i8 reg) ∧ w5.cell? ⟨gp,1,none⟩=some (.int .i8 rm) ∧ w5.cell? ⟨gp,2,none⟩=some (.int .i64 pdisp) ∧ w5.cell? ⟨gp,3,none⟩=some (.int .i64 pimm) ∧ w5.cell? ⟨gp,4,none⟩=some (.int .i8 pcc):=by
    have h:=t5.out
    simp only [World.cell?,h]
    exact ⟨rfl,rfl,rfl,rfl,rfl⟩
  go_wp2_with (at_builtin;refine wpList_append_b rfl _ _ rfl (gp + 1) _ al rfl O5.out _ _ _ ol rfl A5.out (by (try simp only [List.length_append]);omega) L5.out ?_)
  intro v6 w6 o6 g6
  have s6:=Lib.hid (g_row g6 (fun j hj=>O5.out.lt j hj) s5.out LC.out)
  have t6:=Lib.hid (g_row g6 (fun j hj=>O5.out.lt j hj) t5.out (Nat.lt_succ_self _))
  have B6:=Lib.hid (below_grown B5.out g6 (fun j hj=>Nat.le_trans (Nat.le_succ_of_le LX.out) (O5.out.lt j hj)))
  have L6:=Lib.hid (Nat.le_trans L5.out g6.size)
  have O6:=Lib.hid (show Bts (gp + 1) w6 v6 (al ++ ol) from by first | exact o6 | (simp only [List.append_assoc] at o6 ⊢;exact o6))
  clear g6 o6
  clear c5_0 c5_1 c5_2 c5_3 c5_4 p5_0 p5_1 p5_2 p5_3 p5_4
  obtain ⟨c6_0,c6_1,c6_2,c6_3,c6_4⟩:w6.cell? ⟨gc,0,none⟩=some (.int .i8 sh) ∧ w6.cell? ⟨gc,1,none⟩=some (.int .i8 at_) ∧ w6.cell? ⟨gc,2,none⟩=some (.int .u16 va) ∧ w6.cell? ⟨gc,3,none⟩=some (.int .i8 dg) ∧ w6.cell? ⟨gc,4,none⟩=some (.int .u16 lo):=by
    have h:=s6.out
    simp only [World.cell?,h]
    exact ⟨rfl,rfl,rfl,rfl,rfl⟩
  obtain ⟨p6_0,p6_1,p6_2,p6_3,p6_4⟩:w6.cell? ⟨gp,0,none⟩=some (.int .i8 reg) ∧ w6.cell? ⟨gp,1,none⟩=some (.int .i8 rm) ∧ w6.cell? ⟨gp,2,none⟩=some (.int .i64 pdisp) ∧ w6.cell? ⟨gp,3,none⟩=some (.int .i64 pimm) ∧ w6.cell? ⟨gp,4,none⟩=some (.int .i8 pcc):=by
    have h:=t6.out
    simp only [World.cell?,h]
    exact ⟨rfl,rfl,rfl,rfl,rfl⟩
  go_wp2_with fail
  refine (IB.out _).mono ?_
  rintro e w7 ⟨rfl,b7⟩
  have s7:=Lib.hid (heap_below b7 s6.out (Nat.le_refl _))
  have t7:=Lib.hid (heap_below b7 t6.out (Nat.le_refl _))
  have B7:=Lib.hid (below_call B6.out b7)
  have O7:=Lib.hid (O6.out.below b7)
  have L7:=Lib.hid (Nat.le_trans L6.out b7.size)
  clear b7
  clear c6_0 c6_1 c6_2 c6_3 c6_4 p6_0 p6_1 p6_2 p6_3 p6_4
  obtain ⟨c7_0,c7_1,c7_2,c7_3,c7_4⟩:w7.cell? ⟨gc,0,none⟩=some (.int .i8 sh) ∧ w7.cell? ⟨gc,1,none⟩=some (.int .i8 at_) ∧ w7.cell? ⟨gc,2,none⟩=some (.int .u16 va) ∧ w7.cell? ⟨gc,3,none⟩=some (.int .i8 dg) ∧ w7.cell? ⟨gc,4,none⟩=some (.int .u16 lo):=by
    have h:=s7.out
    simp only [World.cell?,h]
    exact ⟨rfl,rfl,rfl,rfl,rfl⟩
  obtain ⟨p7_0,p7_1,p7_2,p7_3,p7_4⟩:w7.cell? ⟨gp,0,none⟩=some (.int .i8 reg) ∧ w7.cell? ⟨gp,1,none⟩=some (.int .i8 rm) ∧ w7.cell? ⟨gp,2,none⟩=some (.int .i64 pdisp) ∧ w7.cell? ⟨gp,3,none⟩=some (.int .i64 pimm) ∧ w7.cell? ⟨gp,4,none⟩=some (.int .i8 pcc):=by
    have h:=t7.out
    simp only [World.cell?,h]
    exact ⟨rfl,rfl,rfl,rfl,rfl⟩
  go_wp2_with fail
  go_ret
  exact ⟨_,rfl,O7.out.mono (Nat.le_succ_of_le LX.out),B7.out⟩
theorem enc_010 (op wd dst src base disp imm cc sh at_ va dg lo reg rm pdisp pimm pcc:Int) (W:World) (im:inMemB sh=false) (io:inOpB sh=true) (en:immN sh=0) (eC:codeOfP op wd=(⟨sh,at_,va,dg,lo⟩,true)) (eP:partsP ⟨op,wd,dst,src,base,disp,imm,cc⟩ ⟨sh,at_,va,dg,lo⟩=⟨reg,rm,pdisp,pimm,pcc⟩) (hb:bothB reg rm=true) (hcc:lo=15 → 0 ≤ pcc ∧ pcc < 16) (ho:-128 ≤ op ∧ op < 128) (hd:-9223372036854775808 ≤ pdisp ∧ pdisp ≤ 9223372036854775807) (hi:-9223372036854775808 ≤ pimm ∧ pimm ≤ 9223372036854775807) (hT:Tabs W):Calls Tryz.prog 106 #[.agg #[.int .i8 op,.int .i8 wd,.int .i8 dst,.int .i8 src,.int .i8 base,.int .i64 disp,.int .i64 imm,.int .i8 cc]] W (RetV ((aheadP wd ⟨sh,at_,va,dg,lo⟩ ⟨reg,rm,pdisp,pimm,pcc⟩ ++ regL reg rm)) W):=by
  have mc:=codeOf_mem op wd
  rw [eC] at mc
  have HT:=Lib.hid hT
  have CO:=Lib.hid (fun W (hT:Tabs W)=>show Calls Tryz.prog 121 #[.int .i8 op,.int .i8 wd] W fun e w'=>e=.returned (.tuple #[.agg #[.int .i8 sh,.int .i8 at_,.int .u16 va,.int .i8 dg,.int .u16 lo],.bool true]) ∧ Below W.heap.size W w' by have q:=codeOf_n op wd ho W hT;rw [eC] at q;exact q)
  have PA:=Lib.hid (fun W=>show Calls Tryz.prog 123 #[.agg #[.int .i8 op,.int .i8 wd,.int .i8 dst,.int .i8 src,.int .i8 base,.int .i64 disp,.int .i64 imm,.int .i8 cc],.agg #[.int .i8 sh,.int .i8 at_,.int .u16 va,.int .i8 dg,.int .u16 lo]] W fun e w'=>e=.returned (.agg #[.int .i8 reg,.int .i8 rm,.int .i64 pdisp,.int .i64 pimm,.int .i8 pcc]) ∧ Below W.heap.size W w' by have q:=cparts_n ⟨op,wd,dst,src,base,disp,imm,cc⟩ ⟨sh,at_,va,dg,lo⟩ mc W;rw [eP] at q;exact q)
  have AH:=Lib.hid (fun W=>cahead_n ⟨op,wd,dst,src,base,disp,imm,cc⟩ ⟨sh,at_,va,dg,lo⟩ ⟨reg,rm,pdisp,pimm,pcc⟩ mc hb hcc W)
  have AO:=Lib.hid (aheadP_ok wd ⟨sh,at_,va,dg,lo⟩ ⟨reg,rm,pdisp,pimm,pcc⟩)
  have AN:=aheadP_len wd ⟨sh,at_,va,dg,lo⟩ ⟨reg,rm,pdisp,pimm,pcc⟩
  have IM:=Lib.hid (fun W=>cinMem_n sh W)
  have IO:=Lib.hid (fun W=>cinOp_n sh W)
  have IB:=Lib.hid (fun W=>cimm_n sh W)
  rw [im] at IM
  rw [en] at IB
  rw [io] at IO
  have OP:=Lib.hid (fun W=>regs_n reg rm W)
  have OO:=Lib.hid (regL_ok reg rm)
  have ON:(regL reg rm).length ≤ 6:=by simp [regL]
  rw [hb] at OP
  simp only [cond_true] at OP
  clear mc hb hcc ho hd hi im io en eC eP hT
  generalize aheadP wd ⟨sh,at_,va,dg,lo⟩ ⟨reg,rm,pdisp,pimm,pcc⟩=al at *
  generalize regL reg rm=ol at *
  unfold RetV at *
  try unfold RetB at *
  go_enter Tryz.func106,Tryz.ntmps106
  go_wp2_with fail
  refine (CO.out _ (HT.out.below (below_new (Below.refl _ _) _) (Nat.le_refl _))).mono ?_
  rintro e w1 ⟨rfl,b1⟩
  have r1:=Lib.hid (heap_below b1 (heap_last W _ _ rfl) (Nat.le_refl _))
  have B1:=Lib.hid (below_call (below_new (Below.refl _ _) _) b1)
  clear b1
  go_wp2_with (with_reducible refine (halt_load 38 _ rfl ?_))
  refine ⟨?_,trivial⟩
  refine wpList_load_row rfl 38 _ rfl _ rfl _ _ _ _ ((heap_past _ _ _ (Array.getElem?_eq_some_iff.1 r1.out).1).trans r1.out) Tryz.underlying38 rfl (by kernel_rfl) ?_
  go_wp2_with fail
  refine (PA.out _).mono ?_
  rintro e w2 ⟨rfl,b2⟩
  have r2:=Lib.hid (heap_below b2 ((heap_past _ _ _ (Array.getElem?_eq_some_iff.1 r1.out).1).trans r1.out) (Nat.le_refl _))
  have s2:=Lib.hid (heap_below b2 (heap_last w1 _ _ rfl) (Nat.le_refl _))
  have B2:=Lib.hid (below_call (below_new B1.out _) b2)
  clear b2
  go_wp2_with (with_reducible refine (halt_load 38 _ rfl ?_))
  refine ⟨?_,trivial⟩
  refine wpList_load_row rfl 38 _ rfl _ rfl _ _ _ _ ((heap_past _ _ _ (Array.getElem?_eq_some_iff.1 r2.out).1).trans r2.out) Tryz.underlying38 rfl (by kernel_rfl) ?_
  go_wp2_with (with_reducible refine (halt_load 106 _ rfl ?_))
  refine ⟨?_,trivial⟩
  refine wpList_load_row rfl 106 _ rfl _ rfl _ _ _ _ ((heap_past _ _ _ (Array.getElem?_eq_some_iff.1 s2.out).1).trans s2.out) Tryz.underlying106 rfl (by kernel_rfl) ?_
  go_wp2_with fail
  refine (AH.out _).mono ?_
  rintro e w3 ⟨v3,rfl,o3,b3⟩
  have s3:=Lib.hid (heap_below b3 ((heap_past _ _ _ (Array.getElem?_eq_some_iff.1 s2.out).1).trans s2.out) (Nat.le_refl _))
  have t3:=Lib.hid (heap_below b3 (heap_last w2 _ _ rfl) (Nat.le_refl _))
  have B3:=Lib.hid (below_call (below_new B2.out _) b3)
  have S3:=Lib.hid b3.size
  have O3:=Lib.hid (show Bts (w2.heap.size + 1) w3 v3 al from o3.mono (by rw [size_alloc];exact Nat.le_refl _))
  have L3:=Lib.hid (show w2.heap.size + 1 ≤ w3.heap.size from by have:=b3.size;rw [size_alloc] at this;exact this)
  have LC:=Lib.hid (show w1.heap.size < w2.heap.size + 1 from by have:=(Array.getElem?_eq_some_iff.1 s2.out).1;omega)
  have LX:=Lib.hid (show W.heap.size ≤ w2.heap.size from B2.out.size)
  clear b3 o3
  generalize w2.heap.size=gp at *
  generalize w1.heap.size=gc at *
  obtain ⟨c3_0,c3_1,c3_2,c3_3,c3_4⟩:w3.cell? ⟨gc,0,none⟩=some (.int .i8 sh) ∧ w3.cell? ⟨gc,1,none⟩=some (.int .i8 at_) ∧ w3.cell? ⟨gc,2,none⟩=some (.int .u16 va) ∧ w3.cell? ⟨gc,3,none⟩=some (.int .i8 dg) ∧ w3.cell? ⟨gc,4,none⟩=some (.int .u16 lo):=by
    have h:=s3.out
    simp only [World.cell?,h]
    exact ⟨rfl,rfl,rfl,rfl,rfl⟩
  obtain ⟨p3_0,p3_1,p3_2,p3_3,p3_4⟩:w3.cell? ⟨gp,0,none⟩=some (.int .i8 reg) ∧ w3.cell? ⟨gp,1,none⟩=some (.int .i8 rm) ∧ w3.cell? ⟨gp,2,none⟩=some (.int .i64 pdisp) ∧ w3.cell? ⟨gp,3,none⟩=some (.int .i64 pimm) ∧ w3.cell? ⟨gp,4,none⟩=some (.int .i8 pcc):=by
    have h:=t3.out
    simp only [World.cell?,h]
    exact ⟨rfl,rfl,rfl,rfl,rfl⟩
  go_wp2_with fail
  refine (IM.out _).mono ?_
  rintro e w4 ⟨rfl,b4⟩
  have s4:=Lib.hid (heap_below b4 s3.out (Nat.le_refl _))
  have t4:=Lib.hid (heap_below b4 t3.out (Nat.le_refl _))
  have B4:=Lib.hid (below_call B3.out b4)
  have O4:=Lib.hid (O3.out.below b4)
  have L4:=Lib.hid (Nat.le_trans L3.out b4.size)
  clear b4
  clear c3_0 c3_1 c3_2 c3_3 c3_4 p3_0 p3_1 p3_2 p3_3 p3_4
  obtain ⟨c4_0,c4_1,c4_2,c4_3,c4_4⟩:w4.cell? ⟨gc,0,none⟩=some (.int .i8 sh) ∧ w4.cell? ⟨gc,1,none⟩=some (.int .i8 at_) ∧ w4.cell? ⟨gc,2,none⟩=some (.int .u16 va) ∧ w4.cell? ⟨gc,3,none⟩=some (.int .i8 dg) ∧ w4.cell? ⟨gc,4,none⟩=some (.int .u16 lo):=by
    have h:=s4.out
    simp only [World.cell?,h]
    exact ⟨rfl,rfl,rfl,rfl,rfl⟩
  obtain ⟨p4_0,p4_1,p4_2,p4_3,p4_4⟩:w4.cell? ⟨gp,0,none⟩=some (.int .i8 reg) ∧ w4.cell? ⟨gp,1,none⟩=some (.int .i8 rm) ∧ w4.cell? ⟨gp,2,none⟩=some (.int .i64 pdisp) ∧ w4.cell? ⟨gp,3,none⟩=some (.int .i64 pimm) ∧ w4.cell? ⟨gp,4,none⟩=some (.int .i8 pcc):=by
    have h:=t4.out
    simp only [World.cell?,h]
    exact ⟨rfl,rfl,rfl,rfl,rfl⟩
  go_wp2_with fail
  refine (IO.out _).mono ?_
  rintro e w5 ⟨rfl,b5⟩
  have s5:=Lib.hid (heap_below b5 s4.out (Nat.le_refl _))
  have t5:=Lib.hid (heap_below b5 t4.out (Nat.le_refl _))
  have B5:=Lib.hid (below_call B4.out b5)
  have O5:=Lib.hid (O4.out.below b5)
  have L5:=Lib.hid (Nat.le_trans L4.out b5.size)
  clear b5
  clear c4_0 c4_1 c4_2 c4_3 c4_4 p4_0 p4_1 p4_2 p4_3 p4_4
  obtain ⟨c5_0,c5_1,c5_2,c5_3,c5_4⟩:w5.cell? ⟨gc,0,none⟩=some (.int .i8 sh) ∧ w5.cell? ⟨gc,1,none⟩=some (.int .i8 at_) ∧ w5.cell? ⟨gc,2,none⟩=some (.int .u16 va) ∧ w5.cell? ⟨gc,3,none⟩=some (.int .i8 dg) ∧ w5.cell? ⟨gc,4,none⟩=some (.int .u16 lo):=by
    have h:=s5.out
    simp only [World.cell?,h]
    exact ⟨rfl,rfl,rfl,rfl,rfl⟩
  obtain ⟨p5_0,p5_1,p5_2,p5_3,p5_4⟩:w5.cell? ⟨gp,0,none⟩=some (.int .i8 reg) ∧ w5.cell? ⟨gp,1,none⟩=some (.int .i8 rm) ∧ w5.cell? ⟨gp,2,none⟩=some (.int .i64 pdisp) ∧ w5.cell? ⟨gp,3,none⟩=some (.int .i64 pimm) ∧ w5.cell? ⟨gp,4,none⟩=some (.int .i8 pcc):=by
    have h:=t5.out
    simp only [World.cell?,h]
    exact ⟨rfl,rfl,rfl,rfl,rfl⟩
  go_wp2_with fail
  refine (OP.out _).mono ?_
  rintro e w6 ⟨u6,rfl,o6,b6⟩
  have s6:=Lib.hid (heap_below b6 s5.out (Nat.le_refl _))
  have t6:=Lib.hid (heap_below b6 t5.out (Nat.le_refl _))
  have B6:=Lib.hid (below_call B5.out b6)
  have O6:=Lib.hid (O5.out.below b6)
  have L6:=Lib.hid (Nat.le_trans L5.out b6.size)
  obtain ⟨xa6,xc6,rfl,at6⟩:=o6.at OO.out
  have A6:=Lib.hid at6
  clear b6 o6 at6
  clear c5_0 c5_1 c5_2 c5_3 c5_4 p5_0 p5_1 p5_2 p5_3 p5_4
  obtain ⟨c6_0,c6_1,c6_2,c6_3,c6_4⟩:w6.cell? ⟨gc,0,none⟩=some (.int .i8 sh) ∧ w6.cell? ⟨gc,1,none⟩=some (.int .i8 at_) ∧ w6.cell? ⟨gc,2,none⟩=some (.int .u16 va) ∧ w6.cell? ⟨gc,3,none⟩=some (.int .i8 dg) ∧ w6.cell? ⟨gc,4,none⟩=some (.int .u16 lo):=by
    have h:=s6.out
    simp only [World.cell?,h]
    exact ⟨rfl,rfl,rfl,rfl,rfl⟩
  obtain ⟨p6_0,p6_1,p6_2,p6_3,p6_4⟩:w6.cell? ⟨gp,0,none⟩=some (.int .i8 reg) ∧ w6.cell? ⟨gp,1,none⟩=some (.int .i8 rm) ∧ w6.cell? ⟨gp,2,none⟩=some (.int .i64 pdisp) ∧ w6.cell? ⟨gp,3,none⟩=some (.int .i64 pimm) ∧ w6.cell? ⟨gp,4,none⟩=some (.int .i8 pcc):=by
    have h:=t6.out
    simp only [World.cell?,h]
    exact ⟨rfl,rfl,rfl,rfl,rfl⟩
  go_wp2_with (at_builtin;refine wpList_append_b rfl _ _ rfl (gp + 1) _ al rfl O6.out _ _ _ ol rfl A6.out (by (try simp only [List.length_append]);omega) L6.out ?_)
  intro v7 w7 o7 g7
  have s7:=Lib.hid (g_row g7 (fun j hj=>O6.out.lt j hj) s6.out LC.out)
  have t7:=Lib.hid (g_row g7 (fun j hj=>O6.out.lt j hj) t6.out (Nat.lt_succ_self _))
  have B7:=Lib.hid (below_grown B6.out g7 (fun j hj=>Nat.le_trans (Nat.le_succ_of_le LX.out) (O6.out.lt j hj)))
  have L7:=Lib.hid (Nat.le_trans L6.out g7.size)
  have O7:=Lib.hid (show Bts (gp + 1) w7 v7 (al ++ ol) from by first | exact o7 | (simp only [List.append_assoc] at o7 ⊢;exact o7))
  clear g7 o7
  clear c6_0 c6_1 c6_2 c6_3 c6_4 p6_0 p6_1 p6_2 p6_3 p6_4
  obtain ⟨c7_0,c7_1,c7_2,c7_3,c7_4⟩:w7.cell? ⟨gc,0,none⟩=some (.int .i8 sh) ∧ w7.cell? ⟨gc,1,none⟩=some (.int .i8 at_) ∧ w7.cell? ⟨gc,2,none⟩=some (.int .u16 va) ∧ w7.cell? ⟨gc,3,none⟩=some (.int .i8 dg) ∧ w7.cell? ⟨gc,4,none⟩=some (.int .u16 lo):=by
    have h:=s7.out
    simp only [World.cell?,h]
    exact ⟨rfl,rfl,rfl,rfl,rfl⟩
  obtain ⟨p7_0,p7_1,p7_2,p7_3,p7_4⟩:w7.cell? ⟨gp,0,none⟩=some (.int .i8 reg) ∧ w7.cell? ⟨gp,1,none⟩=some (.int .i8 rm) ∧ w7.cell? ⟨gp,2,none⟩=some (.int .i64 pdisp) ∧ w7.cell? ⟨gp,3,none⟩=some (.int .i64 pimm) ∧ w7.cell? ⟨gp,4,none⟩=some (.int .i8 pcc):=by
    have h:=t7.out
    simp only [World.cell?,h]
    exact ⟨rfl,rfl,rfl,rfl,rfl⟩
  go_wp2_with fail
  refine (IB.out _).mono ?_
  rintro e w8 ⟨rfl,b8⟩
  have s8:=Lib.hid (heap_below b8 s7.out (Nat.le_refl _))
  have t8:=Lib.hid (heap_below b8 t7.out (Nat.le_refl _))
  have B8:=Lib.hid (below_call B7.out b8)
  have O8:=Lib.hid (O7.out.below b8)
  have L8:=Lib.hid (Nat.le_trans L7.out b8.size)
  clear b8
  clear c7_0 c7_1 c7_2 c7_3 c7_4 p7_0 p7_1 p7_2 p7_3 p7_4
  obtain ⟨c8_0,c8_1,c8_2,c8_3,c8_4⟩:w8.cell? ⟨gc,0,none⟩=some (.int .i8 sh) ∧ w8.cell? ⟨gc,1,none⟩=some (.int .i8 at_) ∧ w8.cell? ⟨gc,2,none⟩=some (.int .u16 va) ∧ w8.cell? ⟨gc,3,none⟩=some (.int .i8 dg) ∧ w8.cell? ⟨gc,4,none⟩=some (.int .u16 lo):=by
    have h:=s8.out
    simp only [World.cell?,h]
    exact ⟨rfl,rfl,rfl,rfl,rfl⟩
  obtain ⟨p8_0,p8_1,p8_2,p8_3,p8_4⟩:w8.cell? ⟨gp,0,none⟩=some (.int .i8 reg) ∧ w8.cell? ⟨gp,1,none⟩=some (.int .i8 rm) ∧ w8.cell? ⟨gp,2,none⟩=some (.int .i64 pdisp) ∧ w8.cell? ⟨gp,3,none⟩=some (.int .i64 pimm) ∧ w8.cell? ⟨gp,4,none⟩=some (.int .i8 pcc):=by
    have h:=t8.out
    simp only [World.cell?,h]
    exact ⟨rfl,rfl,rfl,rfl,rfl⟩
  go_wp2_with fail
  go_ret
  exact ⟨_,rfl,O8.out.mono (Nat.le_succ_of_le LX.out),B8.out⟩
theorem enc_014 (op wd dst src base disp imm cc sh at_ va dg lo reg rm pdisp pimm pcc:Int) (W:World) (im:inMemB sh=false) (io:inOpB sh=true) (en:immN sh=4) (eC:codeOfP op wd=(⟨sh,at_,va,dg,lo⟩,true)) (eP:partsP ⟨op,wd,dst,src,base,disp,imm,cc⟩ ⟨sh,at_,va,dg,lo⟩=⟨reg,rm,pdisp,pimm,pcc⟩) (hb:bothB reg rm=true) (hcc:lo=15 → 0 ≤ pcc ∧ pcc < 16) (ho:-128 ≤ op ∧ op < 128) (hd:-9223372036854775808 ≤ pdisp ∧ pdisp ≤ 9223372036854775807) (hi:-9223372036854775808 ≤ pimm ∧ pimm ≤ 9223372036854775807) (fi:fitB pimm 4=true) (hT:Tabs W):Calls Tryz.prog 106 #[.agg #[.int .i8 op,.int .i8 wd,.int .i8 dst,.int .i8 src,.int .i8 base,.int .i64 disp,.int .i64 imm,.int .i8 cc]] W (RetV (((aheadP wd ⟨sh,at_,va,dg,lo⟩ ⟨reg,rm,pdisp,pimm,pcc⟩ ++ regL reg rm) ++ numL pimm 4)) W):=by
  have mc:=codeOf_mem op wd
  rw [eC] at mc
  have HT:=Lib.hid hT
  have CO:=Lib.hid (fun W (hT:Tabs W)=>show Calls Tryz.prog 121 #[.int .i8 op,.int .i8 wd] W fun e w'=>e=.returned (.tuple #[.agg #[.int .i8 sh,.int .i8 at_,.int .u16 va,.int .i8 dg,.int .u16 lo],.bool true]) ∧ Below W.heap.size W w' by have q:=codeOf_n op wd ho W hT;rw [eC] at q;exact q)
  have PA:=Lib.hid (fun W=>show Calls Tryz.prog 123 #[.agg #[.int .i8 op,.int .i8 wd,.int .i8 dst,.int .i8 src,.int .i8 base,.int .i64 disp,.int .i64 imm,.int .i8 cc],.agg #[.int .i8 sh,.int .i8 at_,.int .u16 va,.int .i8 dg,.int .u16 lo]] W fun e w'=>e=.returned (.agg #[.int .i8 reg,.int .i8 rm,.int .i64 pdisp,.int .i64 pimm,.int .i8 pcc]) ∧ Below W.heap.size W w' by have q:=cparts_n ⟨op,wd,dst,src,base,disp,imm,cc⟩ ⟨sh,at_,va,dg,lo⟩ mc W;rw [eP] at q;exact q)
  have AH:=Lib.hid (fun W=>cahead_n ⟨op,wd,dst,src,base,disp,imm,cc⟩ ⟨sh,at_,va,dg,lo⟩ ⟨reg,rm,pdisp,pimm,pcc⟩ mc hb hcc W)
  have AO:=Lib.hid (aheadP_ok wd ⟨sh,at_,va,dg,lo⟩ ⟨reg,rm,pdisp,pimm,pcc⟩)
  have AN:=aheadP_len wd ⟨sh,at_,va,dg,lo⟩ ⟨reg,rm,pdisp,pimm,pcc⟩
  have IM:=Lib.hid (fun W=>cinMem_n sh W)
  have IO:=Lib.hid (fun W=>cinOp_n sh W)
  have IB:=Lib.hid (fun W=>cimm_n sh W)
  rw [im] at IM
  rw [en] at IB
  rw [io] at IO
  have OP:=Lib.hid (fun W=>regs_n reg rm W)
  have OO:=Lib.hid (regL_ok reg rm)
  have ON:(regL reg rm).length ≤ 6:=by simp [regL]
  rw [hb] at OP
  simp only [cond_true] at OP
  have NU:=Lib.hid (fun W=>num_n pimm 4 hi.1 hi.2 W)
  have NO:=Lib.hid (numL_ok pimm 4)
  have NN:=Lib.hid (numL_length pimm 4)
  have nb:numB pimm 4=true:=by unfold numB;rw [show ((4:Int)).toNat=4 from rfl,fi];rfl
  rw [nb,show ((4:Int)).toNat=4 from rfl] at NU
  simp only [cond_true] at NU
  clear nb
  clear mc hb hcc ho hd hi fi im io en eC eP hT
  generalize aheadP wd ⟨sh,at_,va,dg,lo⟩ ⟨reg,rm,pdisp,pimm,pcc⟩=al at *
  generalize regL reg rm=ol at *
  generalize numL pimm 4=il at *
  unfold RetV at *
  try unfold RetB at *
  go_enter Tryz.func106,Tryz.ntmps106
  go_wp2_with fail
  refine (CO.out _ (HT.out.below (below_new (Below.refl _ _) _) (Nat.le_refl _))).mono ?_
  rintro e w1 ⟨rfl,b1⟩
  have r1:=Lib.hid (heap_below b1 (heap_last W _ _ rfl) (Nat.le_refl _))
  have B1:=Lib.hid (below_call (below_new (Below.refl _ _) _) b1)
  clear b1
  go_wp2_with (with_reducible refine (halt_load 38 _ rfl ?_))
  refine ⟨?_,trivial⟩
  refine wpList_load_row rfl 38 _ rfl _ rfl _ _ _ _ ((heap_past _ _ _ (Array.getElem?_eq_some_iff.1 r1.out).1).trans r1.out) Tryz.underlying38 rfl (by kernel_rfl) ?_
  go_wp2_with fail
  refine (PA.out _).mono ?_
  rintro e w2 ⟨rfl,b2⟩
  have r2:=Lib.hid (heap_below b2 ((heap_past _ _ _ (Array.getElem?_eq_some_iff.1 r1.out).1).trans r1.out) (Nat.le_refl _))
  have s2:=Lib.hid (heap_below b2 (heap_last w1 _ _ rfl) (Nat.le_refl _))
  have B2:=Lib.hid (below_call (below_new B1.out _) b2)
  clear b2
  go_wp2_with (with_reducible refine (halt_load 38 _ rfl ?_))
  refine ⟨?_,trivial⟩
  refine wpList_load_row rfl 38 _ rfl _ rfl _ _ _ _ ((heap_past _ _ _ (Array.getElem?_eq_some_iff.1 r2.out).1).trans r2.out) Tryz.underlying38 rfl (by kernel_rfl) ?_
  go_wp2_with (with_reducible refine (halt_load 106 _ rfl ?_))
  refine ⟨?_,trivial⟩
  refine wpList_load_row rfl 106 _ rfl _ rfl _ _ _ _ ((heap_past _ _ _ (Array.getElem?_eq_some_iff.1 s2.out).1).trans s2.out) Tryz.underlying106 rfl (by kernel_rfl) ?_
  go_wp2_with fail
  refine (AH.out _).mono ?_
  rintro e w3 ⟨v3,rfl,o3,b3⟩
  have s3:=Lib.hid (heap_below b3 ((heap_past _ _ _ (Array.getElem?_eq_some_iff.1 s2.out).1).trans s2.out) (Nat.le_refl _))
  have t3:=Lib.hid (heap_below b3 (heap_last w2 _ _ rfl) (Nat.le_refl _))
  have B3:=Lib.hid (below_call (below_new B2.out _) b3)
  have S3:=Lib.hid b3.size
  have O3:=Lib.hid (show Bts (w2.heap.size + 1) w3 v3 al from o3.mono (by rw [size_alloc];exact Nat.le_refl _))
  have L3:=Lib.hid (show w2.heap.size + 1 ≤ w3.heap.size from by have:=b3.size;rw [size_alloc] at this;exact this)
  have LC:=Lib.hid (show w1.heap.size < w2.heap.size + 1 from by have:=(Array.getElem?_eq_some_iff.1 s2.out).1;omega)
  have LX:=Lib.hid (show W.heap.size ≤ w2.heap.size from B2.out.size)
  clear b3 o3
  generalize w2.heap.size=gp at *
  generalize w1.heap.size=gc at *
  obtain ⟨c3_0,c3_1,c3_2,c3_3,c3_4⟩:w3.cell? ⟨gc,0,none⟩=some (.int .i8 sh) ∧ w3.cell? ⟨gc,1,none⟩=some (.int .i8 at_) ∧ w3.cell? ⟨gc,2,none⟩=some (.int .u16 va) ∧ w3.cell? ⟨gc,3,none⟩=some (.int .i8 dg) ∧ w3.cell? ⟨gc,4,none⟩=some (.int .u16 lo):=by
    have h:=s3.out
    simp only [World.cell?,h]
    exact ⟨rfl,rfl,rfl,rfl,rfl⟩
  obtain ⟨p3_0,p3_1,p3_2,p3_3,p3_4⟩:w3.cell? ⟨gp,0,none⟩=some (.int .i8 reg) ∧ w3.cell? ⟨gp,1,none⟩=some (.int .i8 rm) ∧ w3.cell? ⟨gp,2,none⟩=some (.int .i64 pdisp) ∧ w3.cell? ⟨gp,3,none⟩=some (.int .i64 pimm) ∧ w3.cell? ⟨gp,4,none⟩=some (.int .i8 pcc):=by
    have h:=t3.out
    simp only [World.cell?,h]
    exact ⟨rfl,rfl,rfl,rfl,rfl⟩
  go_wp2_with fail
  refine (IM.out _).mono ?_
  rintro e w4 ⟨rfl,b4⟩
  have s4:=Lib.hid (heap_below b4 s3.out (Nat.le_refl _))
  have t4:=Lib.hid (heap_below b4 t3.out (Nat.le_refl _))
  have B4:=Lib.hid (below_call B3.out b4)
  have O4:=Lib.hid (O3.out.below b4)
  have L4:=Lib.hid (Nat.le_trans L3.out b4.size)
  clear b4
  clear c3_0 c3_1 c3_2 c3_3 c3_4 p3_0 p3_1 p3_2 p3_3 p3_4
  obtain ⟨c4_0,c4_1,c4_2,c4_3,c4_4⟩:w4.cell? ⟨gc,0,none⟩=some (.int .i8 sh) ∧ w4.cell? ⟨gc,1,none⟩=some (.int .i8 at_) ∧ w4.cell? ⟨gc,2,none⟩=some (.int .u16 va) ∧ w4.cell? ⟨gc,3,none⟩=some (.int .i8 dg) ∧ w4.cell? ⟨gc,4,none⟩=some (.int .u16 lo):=by
    have h:=s4.out
    simp only [World.cell?,h]
    exact ⟨rfl,rfl,rfl,rfl,rfl⟩
  obtain ⟨p4_0,p4_1,p4_2,p4_3,p4_4⟩:w4.cell? ⟨gp,0,none⟩=some (.int .i8 reg) ∧ w4.cell? ⟨gp,1,none⟩=some (.int .i8 rm) ∧ w4.cell? ⟨gp,2,none⟩=some (.int .i64 pdisp) ∧ w4.cell? ⟨gp,3,none⟩=some (.int .i64 pimm) ∧ w4.cell? ⟨gp,4,none⟩=some (.int .i8 pcc):=by
    have h:=t4.out
    simp only [World.cell?,h]
    exact ⟨rfl,rfl,rfl,rfl,rfl⟩
  go_wp2_with fail
  refine (IO.out _).mono ?_
  rintro e w5 ⟨rfl,b5⟩
  have s5:=Lib.hid (heap_below b5 s4.out (Nat.le_refl _))
  have t5:=Lib.hid (heap_below b5 t4.out (Nat.le_refl _))
  have B5:=Lib.hid (below_call B4.out b5)
  have O5:=Lib.hid (O4.out.below b5)
  have L5:=Lib.hid (Nat.le_trans L4.out b5.size)
  clear b5
  clear c4_0 c4_1 c4_2 c4_3 c4_4 p4_0 p4_1 p4_2 p4_3 p4_4
  obtain ⟨c5_0,c5_1,c5_2,c5_3,c5_4⟩:w5.cell? ⟨gc,0,none⟩=some (.int .i8 sh) ∧ w5.cell? ⟨gc,1,none⟩=some (.int .i8 at_) ∧ w5.cell? ⟨gc,2,none⟩=some (.int .u16 va) ∧ w5.cell? ⟨gc,3,none⟩=some (.int .i8 dg) ∧ w5.cell? ⟨gc,4,none⟩=some (.int .u16 lo):=by
    have h:=s5.out
    simp only [World.cell?,h]
    exact ⟨rfl,rfl,rfl,rfl,rfl⟩
  obtain ⟨p5_0,p5_1,p5_2,p5_3,p5_4⟩:w5.cell? ⟨gp,0,none⟩=some (.int .i8 reg) ∧ w5.cell? ⟨gp,1,none⟩=some (.int .i8 rm) ∧ w5.cell? ⟨gp,2,none⟩=some (.int .i64 pdisp) ∧ w5.cell? ⟨gp,3,none⟩=some (.int .i64 pimm) ∧ w5.cell? ⟨gp,4,none⟩=some (.int .i8 pcc):=by
    have h:=t5.out
    simp only [World.cell?,h]
    exact ⟨rfl,rfl,rfl,rfl,rfl⟩
  go_wp2_with fail
  refine (OP.out _).mono ?_
  rintro e w6 ⟨u6,rfl,o6,b6⟩
  have s6:=Lib.hid (heap_below b6 s5.out (Nat.le_refl _))
  have t6:=Lib.hid (heap_below b6 t5.out (Nat.le_refl _))
  have B6:=Lib.hid (below_call B5.out b6)
  have O6:=Lib.hid (O5.out.below b6)
  have L6:=Lib.hid (Nat.le_trans L5.out b6.size)
  obtain ⟨xa6,xc6,rfl,at6⟩:=o6.at OO.out
  have A6:=Lib.hid at6
  clear b6 o6 at6
  clear c5_0 c5_1 c5_2 c5_3 c5_4 p5_0 p5_1 p5_2 p5_3 p5_4
  obtain ⟨c6_0,c6_1,c6_2,c6_3,c6_4⟩:w6.cell? ⟨gc,0,none⟩=some (.int .i8 sh) ∧ w6.cell? ⟨gc,1,none⟩=some (.int .i8 at_) ∧ w6.cell? ⟨gc,2,none⟩=some (.int .u16 va) ∧ w6.cell? ⟨gc,3,none⟩=some (.int .i8 dg) ∧ w6.cell? ⟨gc,4,none⟩=some (.int .u16 lo):=by
    have h:=s6.out
    simp only [World.cell?,h]
    exact ⟨rfl,rfl,rfl,rfl,rfl⟩
  obtain ⟨p6_0,p6_1,p6_2,p6_3,p6_4⟩:w6.cell? ⟨gp,0,none⟩=some (.int .i8 reg) ∧ w6.cell? ⟨gp,1,none⟩=some (.int .i8 rm) ∧ w6.cell? ⟨gp,2,none⟩=some (.int .i64 pdisp) ∧ w6.cell? ⟨gp,3,none⟩=some (.int .i64 pimm) ∧ w6.cell? ⟨gp,4,none⟩=some (.int .i8 pcc):=by
    have h:=t6.out
    simp only [World.cell?,h]
    exact ⟨rfl,rfl,rfl,rfl,rfl⟩
  go_wp2_with (at_builtin;refine wpList_append_b rfl _ _ rfl (gp + 1) _ al rfl O6.out _ _ _ ol rfl A6.out (by (try simp only [List.length_append]);omega) L6.out ?_)
  intro v7 w7 o7 g7
  have s7:=Lib.hid (g_row g7 (fun j hj=>O6.out.lt j hj) s6.out LC.out)
  have t7:=Lib.hid (g_row g7 (fun j hj=>O6.out.lt j hj) t6.out (Nat.lt_succ_self _))
  have B7:=Lib.hid (below_grown B6.out g7 (fun j hj=>Nat.le_trans (Nat.le_succ_of_le LX.out) (O6.out.lt j hj)))
  have L7:=Lib.hid (Nat.le_trans L6.out g7.size)
  have O7:=Lib.hid (show Bts (gp + 1) w7 v7 (al ++ ol) from by first | exact o7 | (simp only [List.append_assoc] at o7 ⊢;exact o7))
  clear g7 o7
  clear c6_0 c6_1 c6_2 c6_3 c6_4 p6_0 p6_1 p6_2 p6_3 p6_4
  obtain ⟨c7_0,c7_1,c7_2,c7_3,c7_4⟩:w7.cell? ⟨gc,0,none⟩=some (.int .i8 sh) ∧ w7.cell? ⟨gc,1,none⟩=some (.int .i8 at_) ∧ w7.cell? ⟨gc,2,none⟩=some (.int .u16 va) ∧ w7.cell? ⟨gc,3,none⟩=some (.int .i8 dg) ∧ w7.cell? ⟨gc,4,none⟩=some (.int .u16 lo):=by
    have h:=s7.out
    simp only [World.cell?,h]
    exact ⟨rfl,rfl,rfl,rfl,rfl⟩
  obtain ⟨p7_0,p7_1,p7_2,p7_3,p7_4⟩:w7.cell? ⟨gp,0,none⟩=some (.int .i8 reg) ∧ w7.cell? ⟨gp,1,none⟩=some (.int .i8 rm) ∧ w7.cell? ⟨gp,2,none⟩=some (.int .i64 pdisp) ∧ w7.cell? ⟨gp,3,none⟩=some (.int .i64 pimm) ∧ w7.cell? ⟨gp,4,none⟩=some (.int .i8 pcc):=by
    have h:=t7.out
    simp only [World.cell?,h]
    exact ⟨rfl,rfl,rfl,rfl,rfl⟩
  go_wp2_with fail
  refine (IB.out _).mono ?_
  rintro e w8 ⟨rfl,b8⟩
  have s8:=Lib.hid (heap_below b8 s7.out (Nat.le_refl _))
  have t8:=Lib.hid (heap_below b8 t7.out (Nat.le_refl _))
  have B8:=Lib.hid (below_call B7.out b8)
  have O8:=Lib.hid (O7.out.below b8)
  have L8:=Lib.hid (Nat.le_trans L7.out b8.size)
  clear b8
  clear c7_0 c7_1 c7_2 c7_3 c7_4 p7_0 p7_1 p7_2 p7_3 p7_4
  obtain ⟨c8_0,c8_1,c8_2,c8_3,c8_4⟩:w8.cell? ⟨gc,0,none⟩=some (.int .i8 sh) ∧ w8.cell? ⟨gc,1,none⟩=some (.int .i8 at_) ∧ w8.cell? ⟨gc,2,none⟩=some (.int .u16 va) ∧ w8.cell? ⟨gc,3,none⟩=some (.int .i8 dg) ∧ w8.cell? ⟨gc,4,none⟩=some (.int .u16 lo):=by
    have h:=s8.out
    simp only [World.cell?,h]
    exact ⟨rfl,rfl,rfl,rfl,rfl⟩
  obtain ⟨p8_0,p8_1,p8_2,p8_3,p8_4⟩:w8.cell? ⟨gp,0,none⟩=some (.int .i8 reg) ∧ w8.cell? ⟨gp,1,none⟩=some (.int .i8 rm) ∧ w8.cell? ⟨gp,2,none⟩=some (.int .i64 pdisp) ∧ w8.cell? ⟨gp,3,none⟩=some (.int .i64 pimm) ∧ w8.cell? ⟨gp,4,none⟩=some (.int .i8 pcc):=by
    have h:=t8.out
    simp only [World.cell?,h]
    exact ⟨rfl,rfl,rfl,rfl,rfl⟩
  go_wp2_with fail
  refine (NU.out _).mono ?_
  rintro e w9 ⟨u9,rfl,o9,b9⟩
  have s9:=Lib.hid (heap_below b9 s8.out (Nat.le_refl _))
  have t9:=Lib.hid (heap_below b9 t8.out (Nat.le_refl _))
  have B9:=Lib.hid (below_call B8.out b9)
  have O9:=Lib.hid (O8.out.below b9)
  have L9:=Lib.hid (Nat.le_trans L8.out b9.size)
  obtain ⟨xa9,xc9,rfl,at9⟩:=o9.at NO.out
  have A9:=Lib.hid at9
  clear b9 o9 at9
  clear c8_0 c8_1 c8_2 c8_3 c8_4 p8_0 p8_1 p8_2 p8_3 p8_4
  obtain ⟨c9_0,c9_1,c9_2,c9_3,c9_4⟩:w9.cell? ⟨gc,0,none⟩=some (.int .i8 sh) ∧ w9.cell? ⟨gc,1,none⟩=some (.int .i8 at_) ∧ w9.cell? ⟨gc,2,none⟩=some (.int .u16 va) ∧ w9.cell? ⟨gc,3,none⟩=some (.int .i8 dg) ∧ w9.cell? ⟨gc,4,none⟩=some (.int .u16 lo):=by
    have h:=s9.out
    simp only [World.cell?,h]
    exact ⟨rfl,rfl,rfl,rfl,rfl⟩
  obtain ⟨p9_0,p9_1,p9_2,p9_3,p9_4⟩:w9.cell? ⟨gp,0,none⟩=some (.int .i8 reg) ∧ w9.cell? ⟨gp,1,none⟩=some (.int .i8 rm) ∧ w9.cell? ⟨gp,2,none⟩=some (.int .i64 pdisp) ∧ w9.cell? ⟨gp,3,none⟩=some (.int .i64 pimm) ∧ w9.cell? ⟨gp,4,none⟩=some (.int .i8 pcc):=by
    have h:=t9.out
    simp only [World.cell?,h]
    exact ⟨rfl,rfl,rfl,rfl,rfl⟩
  go_wp2_with (at_builtin;refine wpList_append_b rfl _ _ rfl (gp + 1) _ (al ++ ol) rfl O9.out _ _ _ il rfl A9.out (by have:=NN.out;(try simp only [List.length_append]);omega) L9.out ?_)
  intro v10 w10 o10 g10
  have s10:=Lib.hid (g_row g10 (fun j hj=>O9.out.lt j hj) s9.out LC.out)
  have t10:=Lib.hid (g_row g10 (fun j hj=>O9.out.lt j hj) t9.out (Nat.lt_succ_self _))
  have B10:=Lib.hid (below_grown B9.out g10 (fun j hj=>Nat.le_trans (Nat.le_succ_of_le LX.out) (O9.out.lt j hj)))
  have L10:=Lib.hid (Nat.le_trans L9.out g10.size)
  have O10:=Lib.hid (show Bts (gp + 1) w10 v10 ((al ++ ol) ++ il) from by first | exact o10 | (simp only [List.append_assoc] at o10 ⊢;exact o10))
  clear g10 o10
  clear c9_0 c9_1 c9_2 c9_3 c9_4 p9_0 p9_1 p9_2 p9_3 p9_4
  obtain ⟨c10_0,c10_1,c10_2,c10_3,c10_4⟩:w10.cell? ⟨gc,0,none⟩=some (.int .i8 sh) ∧ w10.cell? ⟨gc,1,none⟩=some (.int .i8 at_) ∧ w10.cell? ⟨gc,2,none⟩=some (.int .u16 va) ∧ w10.cell? ⟨gc,3,none⟩=some (.int .i8 dg) ∧ w10.cell? ⟨gc,4,none⟩=some (.int .u16 lo):=by
    have h:=s10.out
    simp only [World.cell?,h]
    exact ⟨rfl,rfl,rfl,rfl,rfl⟩
  obtain ⟨p10_0,p10_1,p10_2,p10_3,p10_4⟩:w10.cell? ⟨gp,0,none⟩=some (.int .i8 reg) ∧ w10.cell? ⟨gp,1,none⟩=some (.int .i8 rm) ∧ w10.cell? ⟨gp,2,none⟩=some (.int .i64 pdisp) ∧ w10.cell? ⟨gp,3,none⟩=some (.int .i64 pimm) ∧ w10.cell? ⟨gp,4,none⟩=some (.int .i8 pcc):=by
    have h:=t10.out
    simp only [World.cell?,h]
    exact ⟨rfl,rfl,rfl,rfl,rfl⟩
  go_wp2_with fail
  go_ret
  exact ⟨_,rfl,O10.out.mono (Nat.le_succ_of_le LX.out),B10.out⟩
end Go.Proofs.YtbpehbeakhocnaaGreatDoor.Mrm
