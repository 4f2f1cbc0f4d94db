import Derived.Test.YtoghjpliemidkaaDoorEXm36
set_option linter.unusedVariables false
set_option linter.unusedSimpArgs false
set_option linter.unnecessarySimpa false
namespace Go.Proofs.YtoghjpliemidkaaDoor.Exe
open Go Go.RowKit
open Mrm (Xi xC zX mayX bytesX)
open Flg (Fl fC zF addF subF ofF holF holE mayC parts5 ex_beq ex_bne)
set_option linter.unusedVariables false
set_option linter.unusedSimpArgs false
set_option linter.unnecessarySimpa false
set_option maxRecDepth 100000
theorem faExecFlagsW36_1_0 (g:Nat) (w:World):(Instr.fieldAt 36 (.pointer (some ⟨g,0,none⟩)) 1).run Tryd.prog w=.ok (.pointer (some ⟨g,16,none⟩)) w:=by simp [go_sem]
theorem faExecFlagsW36_0_0 (g:Nat) (w:World):(Instr.fieldAt 36 (.pointer (some ⟨g,0,none⟩)) 0).run Tryd.prog w=.ok (.pointer (some ⟨g,0,none⟩)) w:=by simp [go_sem]
theorem faExecFlagsW34_0_16 (g:Nat) (w:World):(Instr.fieldAt 34 (.pointer (some ⟨g,16,none⟩)) 0).run Tryd.prog w=.ok (.pointer (some ⟨g,16,none⟩)) w:=by simp [go_sem]
section
variable {m:Mc} {w d s:Int}
theorem cls_same (h:mayX ⟨5,w,d,s,0,0,0,0⟩=true):mayX ⟨7,w,d,s,0,0,0,0⟩=true ∧ mayX ⟨8,w,d,s,0,0,0,0⟩=true ∧ mayX ⟨4,w,d,s,0,0,0,0⟩=true:=⟨h,h,h⟩
theorem cls_no (h:mayX ⟨5,w,d,s,0,0,0,0⟩=false):mayX ⟨7,w,d,s,0,0,0,0⟩=false ∧ mayX ⟨8,w,d,s,0,0,0,0⟩=false ∧ mayX ⟨4,w,d,s,0,0,0,0⟩=false:=⟨h,h,h⟩
theorem no_all {x:Xi} (h:mayX x=false):doX m x 0=zM ∧ doXe m x 0=2:=⟨if_neg (by rw [h];exact Bool.false_ne_true),if_neg (by rw [h];exact Bool.false_ne_true)⟩
theorem go_all {x:Xi} {m':Mc} {l:Int} (h:mayX x=true) (E:goX m x l=some m'):doX m x l=m' ∧ doXe m x l=0:=⟨(if_pos h).trans (by rw [E];rfl),(if_pos h).trans (by rw [E];rfl)⟩
theorem fl_7:goX m ⟨7,w,d,s,0,0,0,0⟩ 0=some ((m.upA (IntKind.u64.wrap (m.a + IntKind.u64.wrap (lenX ⟨7,w,d,s,0,0,0,0⟩)))).upF (subF w (m.r d.toNat) (m.r s.toNat))):=eff_7 _ _ rfl
theorem fl_5:goX m ⟨5,w,d,s,0,0,0,0⟩ 0=some (((m.upA (IntKind.u64.wrap (m.a + IntKind.u64.wrap (lenX ⟨5,w,d,s,0,0,0,0⟩)))).upF (subF w (m.r d.toNat) (m.r s.toNat))).setR d.toNat (doI 1 w (m.r d.toNat) (m.r s.toNat))):=eff_5 _ _ rfl
theorem fl_8:goX m ⟨8,w,d,s,0,0,0,0⟩ 0=some ((m.upA (IntKind.u64.wrap (m.a + IntKind.u64.wrap (lenX ⟨8,w,d,s,0,0,0,0⟩)))).upF (ofF w (doI 5 w (m.r d.toNat) (m.r s.toNat)))):=eff_8 _ _ rfl
theorem fl_4:goX m ⟨4,w,d,s,0,0,0,0⟩ 0=some (((m.upA (IntKind.u64.wrap (m.a + IntKind.u64.wrap (lenX ⟨4,w,d,s,0,0,0,0⟩)))).upF (ofF w (doI 5 w (m.r d.toNat) (m.r s.toNat)))).setR d.toNat (doI 5 w (m.r d.toNat) (m.r s.toNat))):=eff_4 _ _ rfl
theorem e_75:(doXe m ⟨7,w,d,s,0,0,0,0⟩ 0 != doXe m ⟨5,w,d,s,0,0,0,0⟩ 0)=false:=by
  cases h:mayX ⟨5,w,d,s,0,0,0,0⟩
  · rw [(no_all h).2,(no_all (cls_no h).1).2];rfl
  · rw [(go_all h fl_5).2,(go_all (cls_same h).1 fl_7).2];rfl
theorem e_84:(doXe m ⟨8,w,d,s,0,0,0,0⟩ 0 != doXe m ⟨4,w,d,s,0,0,0,0⟩ 0)=false:=by
  cases h:mayX ⟨5,w,d,s,0,0,0,0⟩
  · rw [(no_all (cls_no h).2.1).2,(no_all (cls_no h).2.2).2];rfl
  · rw [(go_all (cls_same h).2.1 fl_8).2,(go_all (cls_same h).2.2 fl_4).2];rfl
theorem f_75:(!(Flg.eqF (doX m ⟨7,w,d,s,0,0,0,0⟩ 0).f (doX m ⟨5,w,d,s,0,0,0,0⟩ 0).f))=false:=by
  cases h:mayX ⟨5,w,d,s,0,0,0,0⟩
  · rw [(no_all h).1,(no_all (cls_no h).1).1];rfl
  · rw [(go_all h fl_5).1,(go_all (cls_same h).1 fl_7).1]
    exact congrArg not (Flg.eqF_self _)
theorem f_84:(!(Flg.eqF (doX m ⟨8,w,d,s,0,0,0,0⟩ 0).f (doX m ⟨4,w,d,s,0,0,0,0⟩ 0).f))=false:=by
  cases h:mayX ⟨5,w,d,s,0,0,0,0⟩
  · rw [(no_all (cls_no h).2.1).1,(no_all (cls_no h).2.2).1];rfl
  · rw [(go_all (cls_same h).2.1 fl_8).1,(go_all (cls_same h).2.2 fl_4).1]
    exact congrArg not (Flg.eqF_self _)
theorem may_e {x:Xi} (h:(doXe m x 0 == 0)=true):mayX x=true:=by
  cases hm:mayX x
  · rw [(no_all hm).2] at h;cases h
  · rfl
theorem long_of {k:Int} (hk:Mrm.clsI k=1) (h:mayX ⟨k,w,d,s,0,0,0,0⟩=true):longB w=true:=by
  have c:Mrm.clsB (Mrm.clsI k) ⟨k,w,d,s,0,0,0,0⟩=true:=by
    unfold mayX at h
    simp only [Bool.and_eq_true] at h
    exact h.2.2.2.2.2.2.2
  rw [hk] at c
  have c2:Mrm.longB w=true:=c
  unfold Mrm.longB at c2
  unfold longB
  exact c2
theorem r_7 (h:(doXe m ⟨7,w,d,s,0,0,0,0⟩ 0 == 0)=true):∀ j,j < 16 → (doX m ⟨7,w,d,s,0,0,0,0⟩ 0).r j=m.r j:=by rw [(go_all (may_e h) fl_7).1];exact fun _ _=>rfl
theorem r_8 (h:(doXe m ⟨8,w,d,s,0,0,0,0⟩ 0 == 0)=true):∀ j,j < 16 → (doX m ⟨8,w,d,s,0,0,0,0⟩ 0).r j=m.r j:=by rw [(go_all (may_e h) fl_8).1];exact fun _ _=>rfl
theorem k_7 (h:(doXe m ⟨7,w,d,s,0,0,0,0⟩ 0 == 0)=true):(doX m ⟨7,w,d,s,0,0,0,0⟩ 0).f.k=true:=by
  rw [(go_all (may_e h) fl_7).1]
  show (subF w (m.r d.toNat) (m.r s.toNat)).k=true
  rw [show subF w (m.r d.toNat) (m.r s.toNat)=_ from if_pos (long_of rfl (may_e h))];rfl
theorem k_8 (h:(doXe m ⟨8,w,d,s,0,0,0,0⟩ 0 == 0)=true):(doX m ⟨8,w,d,s,0,0,0,0⟩ 0).f.k=true:=by
  rw [(go_all (may_e h) fl_8).1]
  show (ofF w (doI 5 w (m.r d.toNat) (m.r s.toNat))).k=true
  rw [show ofF w (doI 5 w (m.r d.toNat) (m.r s.toNat))=_ from if_pos (long_of rfl (may_e h))];rfl
end
set_option maxHeartbeats 4000000 in
theorem flags_n (m:Mc) (w d s:Int) (W:World) (hT:Mrm.Tabs W) (hM:MOk m) (hw:-128 ≤ w ∧ w < 128) (hd:-128 ≤ d ∧ d < 128) (hs:-128 ≤ s ∧ s < 128):Calls Tryd.prog 5 #[.agg (mcC m),.int .i8 w,.int .i8 d,.int .i8 s] W fun e w'=>e=.returned (.bool true) ∧ Below W.heap.size W w':=by
  generalize hcc:mcC m=c
  go_enter Tryd.func5,Tryd.ntmps5
  go_wp2_with fail
  rename_i Q' K hK
  obtain ⟨gA,eA⟩:∃ g,g=W.heap.size:=⟨_,rfl⟩
  obtain ⟨gB,eB⟩:∃ g,g=W.heap.size + 1:=⟨_,rfl⟩
  have neAB:gA ≠ gB:=by omega
  have hBel:Below W.heap.size W ((W.alloc (.cells c 36)).alloc (.cells #[.int .i8 7,.int .i8 5,.int .i8 8,.int .i8 4] 41)):=((Below.refl _ _).alloc (Nat.le_refl _) _).alloc (by show W.heap.size ≤ (W.heap.push _).size;simp) _
  have rA:((W.alloc (.cells c 36)).alloc (.cells #[.int .i8 7,.int .i8 5,.int .i8 8,.int .i8 4] 41)).heap[gA]?=some (.cells (mcC m) 36 (0,0)):=by
    rw [eA,hcc]
    show ((W.heap.push _).push _)[W.heap.size]?=_
    rw [Array.getElem?_push,if_neg (by simp only [Array.size_push];omega),Array.getElem?_push,if_pos rfl]
  have rB:((W.alloc (.cells c 36)).alloc (.cells #[.int .i8 7,.int .i8 5,.int .i8 8,.int .i8 4] 41)).heap[gB]?=some (.cells #[.int .i8 7,.int .i8 5,.int .i8 8,.int .i8 4] 41 (0,0)):=by
    rw [eB]
    show ((W.heap.push _).push _)[W.heap.size + 1]?=_
    rw [Array.getElem?_push,if_pos (by simp only [Array.size_push])]
  refine wp_count 2 (fun k aI wI=>Mid 74 W [(1,.int .i8 w),(2,.int .i8 d),(3,.int .i8 s),(4,.pointer (some ⟨gA,0,none⟩)),(17,.slice (some ⟨gB,0,none⟩) 2 2),(18,.int .i64 2),(19,.int .i64 (k:Int))] [(gA,36,mcC m),(gB,41,#[.int .i8 7,.int .i8 5,.int .i8 8,.int .i8 4])] aI wI) ⟨rfl,rfl,hBel,⟨rfl,rfl,rfl,(by rw [eA];rfl),(by rw [eB];rfl),rfl,rfl,trivial⟩,⟨rA,rB,trivial⟩⟩ ?_
  rintro k aL wL hk2 ⟨dL,zL,BL,⟨s1,s2,s3,s4,s17,s18,s19,-⟩,⟨bA,bB,-⟩⟩
  replace s1:aL.tmps.getD 1 undef=.int .i8 w:=s1
  replace s2:aL.tmps.getD 2 undef=.int .i8 d:=s2
  replace s3:aL.tmps.getD 3 undef=.int .i8 s:=s3
  replace s4:aL.tmps.getD 4 undef=.pointer (some ⟨gA,0,none⟩):=s4
  replace s17:aL.tmps.getD 17 undef=.slice (some ⟨gB,0,none⟩) 2 2:=s17
  replace s18:aL.tmps.getD 18 undef=.int .i64 2:=s18
  replace bA:wL.heap[gA]?=some (.cells (mcC m) 36 (0,0)):=bA
  replace bB:wL.heap[gB]?=some (.cells #[.int .i8 7,.int .i8 5,.int .i8 8,.int .i8 4] 41 (0,0)):=bB
  rcases (show k=0 ∨ k=1 ∨ k=2 by omega) with rfl | rfl | rfl
  · skip
    replace s19:aL.tmps.getD 19 undef=.int .i64 0:=s19
    refine wp_seq ?_
    refine go_reg [] [] [oT] mo dL zL BL (by kernel_rfl) trivial (
     hk (fun cx=>cx.v (ex_lt (x:=.tmp 19) (y:=.tmp 18) rfl (cx.rq 19 s19) (cx.rq 18 s18)) rfl (congrArg Value.bool (by decide))) <|
     hn) ?_
    intro a1 w1 f1
    refine wp_seq ?_
    refine wp_cond_true (f1.v 0 rfl rfl rfl) ?_
    refine wp_skip ?_
    refine wp_seq ?_
    refine wp_block ?_
    refine wp_seq ?_
    have b_gB_1:=f1.k bB
    have s17_2:=f1.q 17 s17
    have s19_3:=f1.q 19 s19
    refine go_reg [bx gB 41 #[.int .i8 7,.int .i8 5,.int .i8 8,.int .i8 4]] [⟨2,10,41,#[.int .i8 0,.int .i8 0],some 3,#[.int .i8 7,.int .i8 5]⟩] [some (pt gB 0),some (.agg #[.int .i8 7,.int .i8 5]),none,none] mo f1.d f1.z f1.b (by kernel_rfl) ⟨b_gB_1,trivial⟩ (
     hc (fun _ ax _ cx=>cx.q (v:=.pointer (some ⟨gB,0,none⟩)) (by simp [execOp,Act.eval,(show ax.tmps.getD 17 undef=.slice (some ⟨gB,0,none⟩) 2 2 from (cx.rq 17 s17_2)),(show ax.tmps.getD 19 undef=.int .i64 0 from (cx.rq 19 s19_3)),go_sem])) <|
     hk (fun cx=>cx.q (exec_loadR 41 _ rfl gB 0 (cx.u 0 rfl) (cx.rn 0 rfl) [.int .i8 7,.int .i8 5] rfl _ Tryd.underlying41 rfl (by kernel_rfl))) <|
     hk (fun cx=>cx.al (wn rfl) 0 rfl (by simp [execOp,Act.eval,go_sem]) rfl rfl rfl rfl (by kernel_rfl) trivial) <|
     hk (fun cx=>cx.stA (wn rfl) rfl rfl 0 0 rfl rfl rfl rfl (cx.u 1 rfl) (by kernel_rfl) (Eq.refl 2) (by simp [Value.oneCell']) f1.b.size rfl rfl trivial) <|
     hn) ?_
    intro a2 w2 f2
    obtain ⟨g11,u_g11,q_g11,b_g11⟩:=f2.al.1
    refine wp_seq ?_
    have b_gA_4:=f2.k (f1.k bA)
    have s4_5:=f2.q 4 (f1.q 4 s4)
    have s1_6:=f2.q 1 (f1.q 1 s1)
    have s2_7:=f2.q 2 (f1.q 2 s2)
    have s3_8:=f2.q 3 (f1.q 3 s3)
    refine go_reg [bx gA 36 (mcC m),bx g11 41 #[.int .i8 7,.int .i8 5]] [⟨11,11,36,(mcC zM),some 12,(mcC (doX m ⟨7,w,d,s,0,0,0,0⟩ 0))⟩] [some (.agg (mcC m)),some (pt g11 0),some (.int .i8 7),some (.int .i8 w),some (.int .i8 d),some (.int .i8 s),some (.agg (xC ⟨7,w,d,s,0,0,0,0⟩)),some (.tuple #[.agg (mcC (doX m ⟨7,w,d,s,0,0,0,0⟩ 0)),.int .i64 (doXe m ⟨7,w,d,s,0,0,0,0⟩ 0)]),some (.tuple #[.agg (mcC (doX m ⟨7,w,d,s,0,0,0,0⟩ 0)),.int .i64 (doXe m ⟨7,w,d,s,0,0,0,0⟩ 0)]),some (.agg (mcC (doX m ⟨7,w,d,s,0,0,0,0⟩ 0))),some (.int .i64 (doXe m ⟨7,w,d,s,0,0,0,0⟩ 0)),none,none,some (.int .i64 (doXe m ⟨7,w,d,s,0,0,0,0⟩ 0))] mo f2.d f2.z f2.b (by kernel_rfl) ⟨b_gA_4,b_g11,trivial⟩ (
     hk (fun cx=>cx.q (ldMc rfl (cx.rq 4 s4_5) (cx.rn 0 rfl))) <|
     hk (fun cx=>cx.v (ex_ia (n:=2) (sz:=1) rfl (cx.rq 10 u_g11) rfl Tryd.underlying41 (by kernel_rfl) (by omega) (by omega) (by omega)) rfl rfl) <|
     hk (fun cx=>cx.q (ex_ld rfl (cx.u 0 rfl) (cx.rn 1 rfl) rfl Tryd.isAgg24)) <|
     hk (fun cx=>cx.q (ex_mv rfl (cx.rq 1 s1_6))) <|
     hk (fun cx=>cx.q (ex_mv rfl (cx.rq 2 s2_7))) <|
     hk (fun cx=>cx.q (ex_mv rfl (cx.rq 3 s3_8))) <|
     hk (fun cx=>cx.q (exec_build rfl (parts4 (cx.u 0 rfl) (cx.u 1 rfl) (cx.u 2 rfl) (cx.u 3 rfl)) (by kernel_rfl))) <|
     hc (fun _ _ wx cx=>cx.c rfl (args3 (cx.u 0 rfl) (cx.u 1 rfl) rfl) Tryd.func11 (by decide +kernel) (do_n m ⟨7,w,d,s,0,0,0,0⟩ 0 wx (hT.below cx.S.1.1 (Nat.le_refl _)) (xok ⟨by decide,by decide⟩ hw hd hs ⟨by decide,by decide⟩ ⟨by decide,by decide⟩ ⟨by decide,by decide⟩ ⟨by decide,by decide⟩) hM (⟨by omega,by omega⟩:U64 0)) rfl rfl) <|
     kmu 0 <|
     hk (fun cx=>cx.q (ex_ext (x:=.tmp 23) rfl (cx.u 0 rfl) rfl)) <|
     hk (fun cx=>cx.q (ex_ext (x:=.tmp 23) rfl (cx.u 0 rfl) rfl)) <|
     hk (fun cx=>cx.al (wn rfl) 0 rfl (al_mc rfl) rfl rfl rfl rfl (by kernel_rfl) trivial) <|
     hk (fun cx=>cx.stA (wn rfl) rfl rfl 0 0 rfl rfl rfl rfl (cx.u 1 rfl) (by kernel_rfl) (Eq.refl 22) (mcC_one _) f2.b.size rfl rfl trivial) <|
     kmu 0 <|
     hn) ?_
    intro a3 w3 f3
    obtain ⟨g12,u_g12,q_g12,b_g12⟩:=f3.al.1
    refine wp_seq ?_
    have b_gA_9:=f3.k b_gA_4
    have b_g11_10:=f3.k b_g11
    have s4_11:=f3.q 4 s4_5
    have s10_12:=f3.q 10 u_g11
    have s1_13:=f3.q 1 s1_6
    have s2_14:=f3.q 2 s2_7
    have s3_15:=f3.q 3 s3_8
    refine go_reg [bx gA 36 (mcC m),bx g11 41 #[.int .i8 7,.int .i8 5]] [⟨11,13,36,(mcC zM),some 12,(mcC (doX m ⟨5,w,d,s,0,0,0,0⟩ 0))⟩] [some (.agg (mcC m)),some (pt g11 1),some (.int .i8 5),some (.int .i8 w),some (.int .i8 d),some (.int .i8 s),some (.agg (xC ⟨5,w,d,s,0,0,0,0⟩)),some (.tuple #[.agg (mcC (doX m ⟨5,w,d,s,0,0,0,0⟩ 0)),.int .i64 (doXe m ⟨5,w,d,s,0,0,0,0⟩ 0)]),some (.tuple #[.agg (mcC (doX m ⟨5,w,d,s,0,0,0,0⟩ 0)),.int .i64 (doXe m ⟨5,w,d,s,0,0,0,0⟩ 0)]),some (.agg (mcC (doX m ⟨5,w,d,s,0,0,0,0⟩ 0))),some (.int .i64 (doXe m ⟨5,w,d,s,0,0,0,0⟩ 0)),none,none,some (.int .i64 (doXe m ⟨5,w,d,s,0,0,0,0⟩ 0))] mo f3.d f3.z f3.b (by kernel_rfl) ⟨b_gA_9,b_g11_10,trivial⟩ (
     hk (fun cx=>cx.q (ldMc rfl (cx.rq 4 s4_11) (cx.rn 0 rfl))) <|
     hk (fun cx=>cx.v (ex_ia (n:=2) (sz:=1) rfl (cx.rq 10 s10_12) rfl Tryd.underlying41 (by kernel_rfl) (by omega) (by omega) (by omega)) rfl rfl) <|
     hk (fun cx=>cx.q (ex_ld rfl (cx.u 0 rfl) (cx.rn 1 rfl) rfl Tryd.isAgg24)) <|
     hk (fun cx=>cx.q (ex_mv rfl (cx.rq 1 s1_13))) <|
     hk (fun cx=>cx.q (ex_mv rfl (cx.rq 2 s2_14))) <|
     hk (fun cx=>cx.q (ex_mv rfl (cx.rq 3 s3_15))) <|
     hk (fun cx=>cx.q (exec_build rfl (parts4 (cx.u 0 rfl) (cx.u 1 rfl) (cx.u 2 rfl) (cx.u 3 rfl)) (by kernel_rfl))) <|
     hc (fun _ _ wx cx=>cx.c rfl (args3 (cx.u 0 rfl) (cx.u 1 rfl) rfl) Tryd.func11 (by decide +kernel) (do_n m ⟨5,w,d,s,0,0,0,0⟩ 0 wx (hT.below cx.S.1.1 (Nat.le_refl _)) (xok ⟨by decide,by decide⟩ hw hd hs ⟨by decide,by decide⟩ ⟨by decide,by decide⟩ ⟨by decide,by decide⟩ ⟨by decide,by decide⟩) hM (⟨by omega,by omega⟩:U64 0)) rfl rfl) <|
     kmu 0 <|
     hk (fun cx=>cx.q (ex_ext (x:=.tmp 34) rfl (cx.u 0 rfl) rfl)) <|
     hk (fun cx=>cx.q (ex_ext (x:=.tmp 34) rfl (cx.u 0 rfl) rfl)) <|
     hk (fun cx=>cx.al (wn rfl) 0 rfl (al_mc rfl) rfl rfl rfl rfl (by kernel_rfl) trivial) <|
     hk (fun cx=>cx.stA (wn rfl) rfl rfl 0 0 rfl rfl rfl rfl (cx.u 1 rfl) (by kernel_rfl) (Eq.refl 22) (mcC_one _) f3.b.size rfl rfl trivial) <|
     kmu 0 <|
     hn) ?_
    intro a4 w4 f4
    obtain ⟨g13,u_g13,q_g13,b_g13⟩:=f4.al.1
    refine wp_seq ?_
    cases fk1:(doXe m ⟨7,w,d,s,0,0,0,0⟩ 0) == 0
    case false=>
     have Ffk1:=Lib.hid fk1;clear fk1
     have b_g12_16:=f4.k b_g12
     have s12_17:=f4.q 12 (f3.v 13 rfl rfl rfl)
     have s11_18:=f4.q 11 u_g12
     refine go_reg [bx g12 36 (mcC (doX m ⟨7,w,d,s,0,0,0,0⟩ 0)),bx g13 36 (mcC (doX m ⟨5,w,d,s,0,0,0,0⟩ 0))] [] (tabs [some (.int .i64 (doXe m ⟨7,w,d,s,0,0,0,0⟩ 0)),some (.int .i64 (doXe m ⟨5,w,d,s,0,0,0,0⟩ 0)),oF,oF,some (pt g12 16),some (.agg (fC (doX m ⟨7,w,d,s,0,0,0,0⟩ 0).f)),some (pt g13 16),some (.agg (fC (doX m ⟨5,w,d,s,0,0,0,0⟩ 0).f)),oF,oF,oF,some (.int .i64 (doXe m ⟨7,w,d,s,0,0,0,0⟩ 0)),oF,oF,oU,oU,oU,oU,oU,oU] [oU,oU,oU,oU,oU,oF,oF]) mo f4.d f4.z f4.b (by kernel_rfl) ⟨b_g12_16,b_g13,trivial⟩ (
      hk (fun cx=>cx.q (ex_mv rfl (cx.rq 12 s12_17))) <|
      hk (fun cx=>cx.q (ex_mv rfl (cx.rq 14 (f4.v 13 rfl rfl rfl)))) <|
      hk (fun cx=>cx.v (ex_ne (x:=.tmp 45) (y:=.tmp 46) rfl (cx.u 0 rfl) (cx.u 1 rfl)) rfl (congrArg Value.bool e_75)) <|
      kmu 0 <|
      hk (fun cx=>cx.vy 0 (ex_fa rfl (cx.rq 11 s11_18) (faExecFlagsW36_1_0 _ _))) <|
      hk (fun cx=>cx.vy 1 (ldMcF rfl (cx.u 0 rfl) (cx.rn 0 rfl))) <|
      hk (fun cx=>cx.vy 0 (ex_fa rfl (cx.rq 13 u_g13) (faExecFlagsW36_1_0 _ _))) <|
      hk (fun cx=>cx.vy 1 (ldMcF rfl (cx.u 0 rfl) (cx.rn 1 rfl))) <|
      hk (fun cx=>cx.vy (v:=.bool (!(Flg.eqF (doX m ⟨7,w,d,s,0,0,0,0⟩ 0).f (doX m ⟨5,w,d,s,0,0,0,0⟩ 0).f))) 2 (exec_neq (x:=.tmp 50) (y:=.tmp 52) rfl (cx.u 0 rfl) (cx.u 1 rfl) (by kernel_rfl) (Flg.eq_f (doX m ⟨7,w,d,s,0,0,0,0⟩ 0).f (doX m ⟨5,w,d,s,0,0,0,0⟩ 0).f _)) (congrArg Value.bool f_75)) <|
      hk (fun cx=>cx.q (ex_pf rfl (cx.u 0 rfl) (cx.u 1 rfl))) <|
      kmu 0 <|
      hk (fun cx=>cx.vy 0 (ex_mv rfl (cx.rq 12 s12_17))) <|
      hk (fun cx=>cx.vy 1 (ex_eq (x:=.tmp 56) rfl (cx.u 0 rfl) rfl) (congrArg Value.bool Ffk1.out)) <|
      hk (fun cx=>cx.vy 1 (ex_mv rfl (cx.u 0 rfl))) <|
      kno 0 <|
      kno 1 <|
      kno 0 <|
      kno 1 <|
      kno 2 <|
      kno 1 <|
      kno 0 <|
      kno 1 <|
      kno 1 <|
      kno 1 <|
      kno 2 <|
      hk (fun cx=>cx.vy 2 (ex_pf rfl (cx.u 0 rfl) rfl)) <|
      hk (fun cx=>cx.q (ex_pf rfl (cx.u 0 rfl) (cx.u 1 rfl))) <|
      hn) ?_
     intro a5 w5 f5
     refine wp_cond_false (f5.v 26 rfl rfl rfl) ?_
     refine wp_skip ?_
     have s19_19:=f5.q 19 (f4.q 19 (f3.q 19 (f2.q 19 s19_3)))
     refine go_reg [] [] [some (.int .i64 1),some (.int .i64 1)] mo f5.d f5.z f5.b (by kernel_rfl) trivial (
      hk (fun cx=>cx.v (ex_add (x:=.tmp 19) rfl (cx.un 1 rfl rfl (by kernel_rfl) s19_19) rfl) rfl (congrArg (Value.int .i64) rfl)) <|
      kmu 0 <|
      hn) ?_
     intro a6 w6 f6
     have s1_20:=f6.q 1 (f5.q 1 (f4.q 1 s1_13))
     have s2_21:=f6.q 2 (f5.q 2 (f4.q 2 s2_14))
     have s3_22:=f6.q 3 (f5.q 3 (f4.q 3 s3_15))
     have s4_23:=f6.q 4 (f5.q 4 (f4.q 4 s4_11))
     have s17_24:=f6.q 17 (f5.q 17 (f4.q 17 (f3.q 17 (f2.q 17 s17_2))))
     have s18_25:=f6.q 18 (f5.q 18 (f4.q 18 (f3.q 18 (f2.q 18 (f1.q 18 s18)))))
     have b_gA_26:=f6.k (f5.k (f4.k b_gA_9))
     have b_gB_27:=f6.k (f5.k (f4.k (f3.k (f2.k b_gB_1))))
     exact ⟨by omega,f6.d,f6.z,f6.b,⟨s1_20,s2_21,s3_22,s4_23,s17_24,s18_25,(f6.v 1 rfl rfl rfl),trivial⟩,⟨b_gA_26,b_gB_27,trivial⟩⟩
    have Ffk1:=Lib.hid fk1;clear fk1
    have hz:=Ffk1.out
    have b_g12_28:=f4.k b_g12
    have b_gA_29:=f4.k b_gA_9
    have s12_30:=f4.q 12 (f3.v 13 rfl rfl rfl)
    have s11_31:=f4.q 11 u_g12
    have s4_32:=f4.q 4 s4_11
    refine go_reg [bx g12 36 (mcC (doX m ⟨7,w,d,s,0,0,0,0⟩ 0)),bx g13 36 (mcC (doX m ⟨5,w,d,s,0,0,0,0⟩ 0)),bx gA 36 (mcC m)] [] (tabs [some (.int .i64 (doXe m ⟨7,w,d,s,0,0,0,0⟩ 0)),some (.int .i64 (doXe m ⟨5,w,d,s,0,0,0,0⟩ 0)),oF,oF,some (pt g12 16),some (.agg (fC (doX m ⟨7,w,d,s,0,0,0,0⟩ 0).f)),some (pt g13 16),some (.agg (fC (doX m ⟨5,w,d,s,0,0,0,0⟩ 0).f)),oF,oF,oF,some (.int .i64 (doXe m ⟨7,w,d,s,0,0,0,0⟩ 0)),oT,oT,some (pt g12 0),some (.agg (rgC (doX m ⟨7,w,d,s,0,0,0,0⟩ 0))),some (pt gA 0),some (.agg (rgC m)),oF,oF] [some (pt g12 16),some (pt g12 16),oT,oF,oF,oF,oF]) mo f4.d f4.z f4.b (by kernel_rfl) ⟨b_g12_28,b_g13,b_gA_29,trivial⟩ (
     hk (fun cx=>cx.q (ex_mv rfl (cx.rq 12 s12_30))) <|
     hk (fun cx=>cx.q (ex_mv rfl (cx.rq 14 (f4.v 13 rfl rfl rfl)))) <|
     hk (fun cx=>cx.v (ex_ne (x:=.tmp 45) (y:=.tmp 46) rfl (cx.u 0 rfl) (cx.u 1 rfl)) rfl (congrArg Value.bool e_75)) <|
     kmu 0 <|
     hk (fun cx=>cx.vy 0 (ex_fa rfl (cx.rq 11 s11_31) (faExecFlagsW36_1_0 _ _))) <|
     hk (fun cx=>cx.vy 1 (ldMcF rfl (cx.u 0 rfl) (cx.rn 0 rfl))) <|
     hk (fun cx=>cx.vy 0 (ex_fa rfl (cx.rq 13 u_g13) (faExecFlagsW36_1_0 _ _))) <|
     hk (fun cx=>cx.vy 1 (ldMcF rfl (cx.u 0 rfl) (cx.rn 1 rfl))) <|
     hk (fun cx=>cx.vy (v:=.bool (!(Flg.eqF (doX m ⟨7,w,d,s,0,0,0,0⟩ 0).f (doX m ⟨5,w,d,s,0,0,0,0⟩ 0).f))) 2 (exec_neq (x:=.tmp 50) (y:=.tmp 52) rfl (cx.u 0 rfl) (cx.u 1 rfl) (by kernel_rfl) (Flg.eq_f (doX m ⟨7,w,d,s,0,0,0,0⟩ 0).f (doX m ⟨5,w,d,s,0,0,0,0⟩ 0).f _)) (congrArg Value.bool f_75)) <|
     hk (fun cx=>cx.q (ex_pf rfl (cx.u 0 rfl) (cx.u 1 rfl))) <|
     kmu 0 <|
     hk (fun cx=>cx.vy 0 (ex_mv rfl (cx.rq 12 s12_30))) <|
     hk (fun cx=>cx.vy 1 (ex_eq (x:=.tmp 56) rfl (cx.u 0 rfl) rfl) (congrArg Value.bool Ffk1.out)) <|
     hk (fun cx=>cx.vy 1 (ex_mv rfl (cx.u 0 rfl))) <|
     hk (fun cx=>cx.vy 0 (ex_fa rfl (cx.rq 11 s11_31) (faExecFlagsW36_0_0 _ _))) <|
     hk (fun cx=>cx.vy 1 (ldMcRg rfl (cx.u 0 rfl) (cx.rn 0 rfl))) <|
     hk (fun cx=>cx.vy 0 (ex_fa rfl (cx.rq 4 s4_32) (faExecFlagsW36_0_0 _ _))) <|
     hk (fun cx=>cx.vy 1 (ldMcRg rfl (cx.u 0 rfl) (cx.rn 2 rfl))) <|
     hk (fun cx=>cx.vy 2 (exec_neq (x:=.tmp 60) (y:=.tmp 62) rfl (cx.u 0 rfl) (cx.u 1 rfl) (by kernel_rfl) (eq_rg (doX m ⟨7,w,d,s,0,0,0,0⟩ 0) m (r_7 hz) _))) <|
     hk (fun cx=>cx.vy 1 (ex_mv rfl (cx.u 0 rfl))) <|
     hk (fun cx=>cx.vy 0 (ex_fa rfl (cx.rq 11 s11_31) (faExecFlagsW36_1_0 _ _))) <|
     hk (fun cx=>cx.vy 1 (ex_fa rfl (cx.u 0 rfl) (faExecFlagsW34_0_16 _ _))) <|
     hk (fun cx=>cx.vy 1 (ex_ld rfl (cx.u 0 rfl) (cx.rn 0 rfl) rfl Tryd.isAgg4) (congrArg Value.bool (k_7 hz))) <|
     hk (fun cx=>cx.vy 1 (ex_not (x:=.tmp 67) rfl (cx.u 0 rfl))) <|
     hk (fun cx=>cx.vy 2 (ex_pf rfl (cx.u 0 rfl) (cx.u 1 rfl))) <|
     hk (fun cx=>cx.vy 2 (ex_pt rfl (cx.u 0 rfl) (cx.u 1 rfl))) <|
     hk (fun cx=>cx.q (ex_pf rfl (cx.u 0 rfl) (cx.u 1 rfl))) <|
     hn) ?_
    intro a7 w7 f7
    refine wp_cond_false (f7.v 26 rfl rfl rfl) ?_
    refine wp_skip ?_
    have s19_33:=f7.q 19 (f4.q 19 (f3.q 19 (f2.q 19 s19_3)))
    refine go_reg [] [] [some (.int .i64 1),some (.int .i64 1)] mo f7.d f7.z f7.b (by kernel_rfl) trivial (
     hk (fun cx=>cx.v (ex_add (x:=.tmp 19) rfl (cx.un 1 rfl rfl (by kernel_rfl) s19_33) rfl) rfl (congrArg (Value.int .i64) rfl)) <|
     kmu 0 <|
     hn) ?_
    intro a8 w8 f8
    have s1_34:=f8.q 1 (f7.q 1 (f4.q 1 s1_13))
    have s2_35:=f8.q 2 (f7.q 2 (f4.q 2 s2_14))
    have s3_36:=f8.q 3 (f7.q 3 (f4.q 3 s3_15))
    have s4_37:=f8.q 4 (f7.q 4 s4_32)
    have s17_38:=f8.q 17 (f7.q 17 (f4.q 17 (f3.q 17 (f2.q 17 s17_2))))
    have s18_39:=f8.q 18 (f7.q 18 (f4.q 18 (f3.q 18 (f2.q 18 (f1.q 18 s18)))))
    have b_gA_40:=f8.k (f7.k b_gA_29)
    have b_gB_41:=f8.k (f7.k (f4.k (f3.k (f2.k b_gB_1))))
    exact ⟨by omega,f8.d,f8.z,f8.b,⟨s1_34,s2_35,s3_36,s4_37,s17_38,s18_39,(f8.v 1 rfl rfl rfl),trivial⟩,⟨b_gA_40,b_gB_41,trivial⟩⟩
  · skip
    replace s19:aL.tmps.getD 19 undef=.int .i64 1:=s19
    refine wp_seq ?_
    refine go_reg [] [] [oT] mo dL zL BL (by kernel_rfl) trivial (
     hk (fun cx=>cx.v (ex_lt (x:=.tmp 19) (y:=.tmp 18) rfl (cx.rq 19 s19) (cx.rq 18 s18)) rfl (congrArg Value.bool (by decide))) <|
     hn) ?_
    intro a9 w9 f9
    refine wp_seq ?_
    refine wp_cond_true (f9.v 0 rfl rfl rfl) ?_
    refine wp_skip ?_
    refine wp_seq ?_
    refine wp_block ?_
    refine wp_seq ?_
    have b_gB_42:=f9.k bB
    have s17_43:=f9.q 17 s17
    have s19_44:=f9.q 19 s19
    refine go_reg [bx gB 41 #[.int .i8 7,.int .i8 5,.int .i8 8,.int .i8 4]] [⟨2,10,41,#[.int .i8 0,.int .i8 0],some 3,#[.int .i8 8,.int .i8 4]⟩] [some (pt gB 2),some (.agg #[.int .i8 8,.int .i8 4]),none,none] mo f9.d f9.z f9.b (by kernel_rfl) ⟨b_gB_42,trivial⟩ (
     hc (fun _ ax _ cx=>cx.q (v:=.pointer (some ⟨gB,2,none⟩)) (by simp [execOp,Act.eval,(show ax.tmps.getD 17 undef=.slice (some ⟨gB,0,none⟩) 2 2 from (cx.rq 17 s17_43)),(show ax.tmps.getD 19 undef=.int .i64 1 from (cx.rq 19 s19_44)),go_sem])) <|
     hk (fun cx=>cx.q (exec_loadR 41 _ rfl gB 2 (cx.u 0 rfl) (cx.rn 0 rfl) [.int .i8 8,.int .i8 4] rfl _ Tryd.underlying41 rfl (by kernel_rfl))) <|
     hk (fun cx=>cx.al (wn rfl) 0 rfl (by simp [execOp,Act.eval,go_sem]) rfl rfl rfl rfl (by kernel_rfl) trivial) <|
     hk (fun cx=>cx.stA (wn rfl) rfl rfl 0 0 rfl rfl rfl rfl (cx.u 1 rfl) (by kernel_rfl) (Eq.refl 2) (by simp [Value.oneCell']) f9.b.size rfl rfl trivial) <|
     hn) ?_
    intro a10 w10 f10
    obtain ⟨g11,u_g11,q_g11,b_g11⟩:=f10.al.1
    refine wp_seq ?_
    have b_gA_45:=f10.k (f9.k bA)
    have s4_46:=f10.q 4 (f9.q 4 s4)
    have s1_47:=f10.q 1 (f9.q 1 s1)
    have s2_48:=f10.q 2 (f9.q 2 s2)
    have s3_49:=f10.q 3 (f9.q 3 s3)
    refine go_reg [bx gA 36 (mcC m),bx g11 41 #[.int .i8 8,.int .i8 4]] [⟨11,11,36,(mcC zM),some 12,(mcC (doX m ⟨8,w,d,s,0,0,0,0⟩ 0))⟩] [some (.agg (mcC m)),some (pt g11 0),some (.int .i8 8),some (.int .i8 w),some (.int .i8 d),some (.int .i8 s),some (.agg (xC ⟨8,w,d,s,0,0,0,0⟩)),some (.tuple #[.agg (mcC (doX m ⟨8,w,d,s,0,0,0,0⟩ 0)),.int .i64 (doXe m ⟨8,w,d,s,0,0,0,0⟩ 0)]),some (.tuple #[.agg (mcC (doX m ⟨8,w,d,s,0,0,0,0⟩ 0)),.int .i64 (doXe m ⟨8,w,d,s,0,0,0,0⟩ 0)]),some (.agg (mcC (doX m ⟨8,w,d,s,0,0,0,0⟩ 0))),some (.int .i64 (doXe m ⟨8,w,d,s,0,0,0,0⟩ 0)),none,none,some (.int .i64 (doXe m ⟨8,w,d,s,0,0,0,0⟩ 0))] mo f10.d f10.z f10.b (by kernel_rfl) ⟨b_gA_45,b_g11,trivial⟩ (
     hk (fun cx=>cx.q (ldMc rfl (cx.rq 4 s4_46) (cx.rn 0 rfl))) <|
     hk (fun cx=>cx.v (ex_ia (n:=2) (sz:=1) rfl (cx.rq 10 u_g11) rfl Tryd.underlying41 (by kernel_rfl) (by omega) (by omega) (by omega)) rfl rfl) <|
     hk (fun cx=>cx.q (ex_ld rfl (cx.u 0 rfl) (cx.rn 1 rfl) rfl Tryd.isAgg24)) <|
     hk (fun cx=>cx.q (ex_mv rfl (cx.rq 1 s1_47))) <|
     hk (fun cx=>cx.q (ex_mv rfl (cx.rq 2 s2_48))) <|
     hk (fun cx=>cx.q (ex_mv rfl (cx.rq 3 s3_49))) <|
     hk (fun cx=>cx.q (exec_build rfl (parts4 (cx.u 0 rfl) (cx.u 1 rfl) (cx.u 2 rfl) (cx.u 3 rfl)) (by kernel_rfl))) <|
     hc (fun _ _ wx cx=>cx.c rfl (args3 (cx.u 0 rfl) (cx.u 1 rfl) rfl) Tryd.func11 (by decide +kernel) (do_n m ⟨8,w,d,s,0,0,0,0⟩ 0 wx (hT.below cx.S.1.1 (Nat.le_refl _)) (xok ⟨by decide,by decide⟩ hw hd hs ⟨by decide,by decide⟩ ⟨by decide,by decide⟩ ⟨by decide,by decide⟩ ⟨by decide,by decide⟩) hM (⟨by omega,by omega⟩:U64 0)) rfl rfl) <|
     kmu 0 <|
     hk (fun cx=>cx.q (ex_ext (x:=.tmp 23) rfl (cx.u 0 rfl) rfl)) <|
     hk (fun cx=>cx.q (ex_ext (x:=.tmp 23) rfl (cx.u 0 rfl) rfl)) <|
     hk (fun cx=>cx.al (wn rfl) 0 rfl (al_mc rfl) rfl rfl rfl rfl (by kernel_rfl) trivial) <|
     hk (fun cx=>cx.stA (wn rfl) rfl rfl 0 0 rfl rfl rfl rfl (cx.u 1 rfl) (by kernel_rfl) (Eq.refl 22) (mcC_one _) f10.b.size rfl rfl trivial) <|
     kmu 0 <|
     hn) ?_
    intro a11 w11 f11
    obtain ⟨g12,u_g12,q_g12,b_g12⟩:=f11.al.1
    refine wp_seq ?_
    have b_gA_50:=f11.k b_gA_45
    have b_g11_51:=f11.k b_g11
    have s4_52:=f11.q 4 s4_46
    have s10_53:=f11.q 10 u_g11
    have s1_54:=f11.q 1 s1_47
    have s2_55:=f11.q 2 s2_48
    have s3_56:=f11.q 3 s3_49
    refine go_reg [bx gA 36 (mcC m),bx g11 41 #[.int .i8 8,.int .i8 4]] [⟨11,13,36,(mcC zM),some 12,(mcC (doX m ⟨4,w,d,s,0,0,0,0⟩ 0))⟩] [some (.agg (mcC m)),some (pt g11 1),some (.int .i8 4),some (.int .i8 w),some (.int .i8 d),some (.int .i8 s),some (.agg (xC ⟨4,w,d,s,0,0,0,0⟩)),some (.tuple #[.agg (mcC (doX m ⟨4,w,d,s,0,0,0,0⟩ 0)),.int .i64 (doXe m ⟨4,w,d,s,0,0,0,0⟩ 0)]),some (.tuple #[.agg (mcC (doX m ⟨4,w,d,s,0,0,0,0⟩ 0)),.int .i64 (doXe m ⟨4,w,d,s,0,0,0,0⟩ 0)]),some (.agg (mcC (doX m ⟨4,w,d,s,0,0,0,0⟩ 0))),some (.int .i64 (doXe m ⟨4,w,d,s,0,0,0,0⟩ 0)),none,none,some (.int .i64 (doXe m ⟨4,w,d,s,0,0,0,0⟩ 0))] mo f11.d f11.z f11.b (by kernel_rfl) ⟨b_gA_50,b_g11_51,trivial⟩ (
     hk (fun cx=>cx.q (ldMc rfl (cx.rq 4 s4_52) (cx.rn 0 rfl))) <|
     hk (fun cx=>cx.v (ex_ia (n:=2) (sz:=1) rfl (cx.rq 10 s10_53) rfl Tryd.underlying41 (by kernel_rfl) (by omega) (by omega) (by omega)) rfl rfl) <|
     hk (fun cx=>cx.q (ex_ld rfl (cx.u 0 rfl) (cx.rn 1 rfl) rfl Tryd.isAgg24)) <|
     hk (fun cx=>cx.q (ex_mv rfl (cx.rq 1 s1_54))) <|
     hk (fun cx=>cx.q (ex_mv rfl (cx.rq 2 s2_55))) <|
     hk (fun cx=>cx.q (ex_mv rfl (cx.rq 3 s3_56))) <|
     hk (fun cx=>cx.q (exec_build rfl (parts4 (cx.u 0 rfl) (cx.u 1 rfl) (cx.u 2 rfl) (cx.u 3 rfl)) (by kernel_rfl))) <|
     hc (fun _ _ wx cx=>cx.c rfl (args3 (cx.u 0 rfl) (cx.u 1 rfl) rfl) Tryd.func11 (by decide +kernel) (do_n m ⟨4,w,d,s,0,0,0,0⟩ 0 wx (hT.below cx.S.1.1 (Nat.le_refl _)) (xok ⟨by decide,by decide⟩ hw hd hs ⟨by decide,by decide⟩ ⟨by decide,by decide⟩ ⟨by decide,by decide⟩ ⟨by decide,by decide⟩) hM (⟨by omega,by omega⟩:U64 0)) rfl rfl) <|
     kmu 0 <|
     hk (fun cx=>cx.q (ex_ext (x:=.tmp 34) rfl (cx.u 0 rfl) rfl)) <|
     hk (fun cx=>cx.q (ex_ext (x:=.tmp 34) rfl (cx.u 0 rfl) rfl)) <|
     hk (fun cx=>cx.al (wn rfl) 0 rfl (al_mc rfl) rfl rfl rfl rfl (by kernel_rfl) trivial) <|
     hk (fun cx=>cx.stA (wn rfl) rfl rfl 0 0 rfl rfl rfl rfl (cx.u 1 rfl) (by kernel_rfl) (Eq.refl 22) (mcC_one _) f11.b.size rfl rfl trivial) <|
     kmu 0 <|
     hn) ?_
    intro a12 w12 f12
    obtain ⟨g13,u_g13,q_g13,b_g13⟩:=f12.al.1
    refine wp_seq ?_
    cases fk2:(doXe m ⟨8,w,d,s,0,0,0,0⟩ 0) == 0
    case false=>
     have Ffk2:=Lib.hid fk2;clear fk2
     have b_g12_57:=f12.k b_g12
     have s12_58:=f12.q 12 (f11.v 13 rfl rfl rfl)
     have s11_59:=f12.q 11 u_g12
     refine go_reg [bx g12 36 (mcC (doX m ⟨8,w,d,s,0,0,0,0⟩ 0)),bx g13 36 (mcC (doX m ⟨4,w,d,s,0,0,0,0⟩ 0))] [] (tabs [some (.int .i64 (doXe m ⟨8,w,d,s,0,0,0,0⟩ 0)),some (.int .i64 (doXe m ⟨4,w,d,s,0,0,0,0⟩ 0)),oF,oF,some (pt g12 16),some (.agg (fC (doX m ⟨8,w,d,s,0,0,0,0⟩ 0).f)),some (pt g13 16),some (.agg (fC (doX m ⟨4,w,d,s,0,0,0,0⟩ 0).f)),oF,oF,oF,some (.int .i64 (doXe m ⟨8,w,d,s,0,0,0,0⟩ 0)),oF,oF,oU,oU,oU,oU,oU,oU] [oU,oU,oU,oU,oU,oF,oF]) mo f12.d f12.z f12.b (by kernel_rfl) ⟨b_g12_57,b_g13,trivial⟩ (
      hk (fun cx=>cx.q (ex_mv rfl (cx.rq 12 s12_58))) <|
      hk (fun cx=>cx.q (ex_mv rfl (cx.rq 14 (f12.v 13 rfl rfl rfl)))) <|
      hk (fun cx=>cx.v (ex_ne (x:=.tmp 45) (y:=.tmp 46) rfl (cx.u 0 rfl) (cx.u 1 rfl)) rfl (congrArg Value.bool e_84)) <|
      kmu 0 <|
      hk (fun cx=>cx.vy 0 (ex_fa rfl (cx.rq 11 s11_59) (faExecFlagsW36_1_0 _ _))) <|
      hk (fun cx=>cx.vy 1 (ldMcF rfl (cx.u 0 rfl) (cx.rn 0 rfl))) <|
      hk (fun cx=>cx.vy 0 (ex_fa rfl (cx.rq 13 u_g13) (faExecFlagsW36_1_0 _ _))) <|
      hk (fun cx=>cx.vy 1 (ldMcF rfl (cx.u 0 rfl) (cx.rn 1 rfl))) <|
      hk (fun cx=>cx.vy (v:=.bool (!(Flg.eqF (doX m ⟨8,w,d,s,0,0,0,0⟩ 0).f (doX m ⟨4,w,d,s,0,0,0,0⟩ 0).f))) 2 (exec_neq (x:=.tmp 50) (y:=.tmp 52) rfl (cx.u 0 rfl) (cx.u 1 rfl) (by kernel_rfl) (Flg.eq_f (doX m ⟨8,w,d,s,0,0,0,0⟩ 0).f (doX m ⟨4,w,d,s,0,0,0,0⟩ 0).f _)) (congrArg Value.bool f_84)) <|
      hk (fun cx=>cx.q (ex_pf rfl (cx.u 0 rfl) (cx.u 1 rfl))) <|
      kmu 0 <|
      hk (fun cx=>cx.vy 0 (ex_mv rfl (cx.rq 12 s12_58))) <|
      hk (fun cx=>cx.vy 1 (ex_eq (x:=.tmp 56) rfl (cx.u 0 rfl) rfl) (congrArg Value.bool Ffk2.out)) <|
      hk (fun cx=>cx.vy 1 (ex_mv rfl (cx.u 0 rfl))) <|
      kno 0 <|
      kno 1 <|
      kno 0 <|
      kno 1 <|
      kno 2 <|
      kno 1 <|
      kno 0 <|
      kno 1 <|
      kno 1 <|
      kno 1 <|
      kno 2 <|
      hk (fun cx=>cx.vy 2 (ex_pf rfl (cx.u 0 rfl) rfl)) <|
      hk (fun cx=>cx.q (ex_pf rfl (cx.u 0 rfl) (cx.u 1 rfl))) <|
      hn) ?_
     intro a13 w13 f13
     refine wp_cond_false (f13.v 26 rfl rfl rfl) ?_
     refine wp_skip ?_
     have s19_60:=f13.q 19 (f12.q 19 (f11.q 19 (f10.q 19 s19_44)))
     refine go_reg [] [] [some (.int .i64 2),some (.int .i64 2)] mo f13.d f13.z f13.b (by kernel_rfl) trivial (
      hk (fun cx=>cx.v (ex_add (x:=.tmp 19) rfl (cx.un 1 rfl rfl (by kernel_rfl) s19_60) rfl) rfl (congrArg (Value.int .i64) rfl)) <|
      kmu 0 <|
      hn) ?_
     intro a14 w14 f14
     have s1_61:=f14.q 1 (f13.q 1 (f12.q 1 s1_54))
     have s2_62:=f14.q 2 (f13.q 2 (f12.q 2 s2_55))
     have s3_63:=f14.q 3 (f13.q 3 (f12.q 3 s3_56))
     have s4_64:=f14.q 4 (f13.q 4 (f12.q 4 s4_52))
     have s17_65:=f14.q 17 (f13.q 17 (f12.q 17 (f11.q 17 (f10.q 17 s17_43))))
     have s18_66:=f14.q 18 (f13.q 18 (f12.q 18 (f11.q 18 (f10.q 18 (f9.q 18 s18)))))
     have b_gA_67:=f14.k (f13.k (f12.k b_gA_50))
     have b_gB_68:=f14.k (f13.k (f12.k (f11.k (f10.k b_gB_42))))
     exact ⟨by omega,f14.d,f14.z,f14.b,⟨s1_61,s2_62,s3_63,s4_64,s17_65,s18_66,(f14.v 1 rfl rfl rfl),trivial⟩,⟨b_gA_67,b_gB_68,trivial⟩⟩
    have Ffk2:=Lib.hid fk2;clear fk2
    have hz:=Ffk2.out
    have b_g12_69:=f12.k b_g12
    have b_gA_70:=f12.k b_gA_50
    have s12_71:=f12.q 12 (f11.v 13 rfl rfl rfl)
    have s11_72:=f12.q 11 u_g12
    have s4_73:=f12.q 4 s4_52
    refine go_reg [bx g12 36 (mcC (doX m ⟨8,w,d,s,0,0,0,0⟩ 0)),bx g13 36 (mcC (doX m ⟨4,w,d,s,0,0,0,0⟩ 0)),bx gA 36 (mcC m)] [] (tabs [some (.int .i64 (doXe m ⟨8,w,d,s,0,0,0,0⟩ 0)),some (.int .i64 (doXe m ⟨4,w,d,s,0,0,0,0⟩ 0)),oF,oF,some (pt g12 16),some (.agg (fC (doX m ⟨8,w,d,s,0,0,0,0⟩ 0).f)),some (pt g13 16),some (.agg (fC (doX m ⟨4,w,d,s,0,0,0,0⟩ 0).f)),oF,oF,oF,some (.int .i64 (doXe m ⟨8,w,d,s,0,0,0,0⟩ 0)),oT,oT,some (pt g12 0),some (.agg (rgC (doX m ⟨8,w,d,s,0,0,0,0⟩ 0))),some (pt gA 0),some (.agg (rgC m)),oF,oF] [some (pt g12 16),some (pt g12 16),oT,oF,oF,oF,oF]) mo f12.d f12.z f12.b (by kernel_rfl) ⟨b_g12_69,b_g13,b_gA_70,trivial⟩ (
     hk (fun cx=>cx.q (ex_mv rfl (cx.rq 12 s12_71))) <|
     hk (fun cx=>cx.q (ex_mv rfl (cx.rq 14 (f12.v 13 rfl rfl rfl)))) <|
     hk (fun cx=>cx.v (ex_ne (x:=.tmp 45) (y:=.tmp 46) rfl (cx.u 0 rfl) (cx.u 1 rfl)) rfl (congrArg Value.bool e_84)) <|
     kmu 0 <|
     hk (fun cx=>cx.vy 0 (ex_fa rfl (cx.rq 11 s11_72) (faExecFlagsW36_1_0 _ _))) <|
     hk (fun cx=>cx.vy 1 (ldMcF rfl (cx.u 0 rfl) (cx.rn 0 rfl))) <|
     hk (fun cx=>cx.vy 0 (ex_fa rfl (cx.rq 13 u_g13) (faExecFlagsW36_1_0 _ _))) <|
     hk (fun cx=>cx.vy 1 (ldMcF rfl (cx.u 0 rfl) (cx.rn 1 rfl))) <|
     hk (fun cx=>cx.vy (v:=.bool (!(Flg.eqF (doX m ⟨8,w,d,s,0,0,0,0⟩ 0).f (doX m ⟨4,w,d,s,0,0,0,0⟩ 0).f))) 2 (exec_neq (x:=.tmp 50) (y:=.tmp 52) rfl (cx.u 0 rfl) (cx.u 1 rfl) (by kernel_rfl) (Flg.eq_f (doX m ⟨8,w,d,s,0,0,0,0⟩ 0).f (doX m ⟨4,w,d,s,0,0,0,0⟩ 0).f _)) (congrArg Value.bool f_84)) <|
     hk (fun cx=>cx.q (ex_pf rfl (cx.u 0 rfl) (cx.u 1 rfl))) <|
     kmu 0 <|
     hk (fun cx=>cx.vy 0 (ex_mv rfl (cx.rq 12 s12_71))) <|
     hk (fun cx=>cx.vy 1 (ex_eq (x:=.tmp 56) rfl (cx.u 0 rfl) rfl) (congrArg Value.bool Ffk2.out)) <|
     hk (fun cx=>cx.vy 1 (ex_mv rfl (cx.u 0 rfl))) <|
     hk (fun cx=>cx.vy 0 (ex_fa rfl (cx.rq 11 s11_72) (faExecFlagsW36_0_0 _ _))) <|
     hk (fun cx=>cx.vy 1 (ldMcRg rfl (cx.u 0 rfl) (cx.rn 0 rfl))) <|
     hk (fun cx=>cx.vy 0 (ex_fa rfl (cx.rq 4 s4_73) (faExecFlagsW36_0_0 _ _))) <|
     hk (fun cx=>cx.vy 1 (ldMcRg rfl (cx.u 0 rfl) (cx.rn 2 rfl))) <|
     hk (fun cx=>cx.vy 2 (exec_neq (x:=.tmp 60) (y:=.tmp 62) rfl (cx.u 0 rfl) (cx.u 1 rfl) (by kernel_rfl) (eq_rg (doX m ⟨8,w,d,s,0,0,0,0⟩ 0) m (r_8 hz) _))) <|
     hk (fun cx=>cx.vy 1 (ex_mv rfl (cx.u 0 rfl))) <|
     hk (fun cx=>cx.vy 0 (ex_fa rfl (cx.rq 11 s11_72) (faExecFlagsW36_1_0 _ _))) <|
     hk (fun cx=>cx.vy 1 (ex_fa rfl (cx.u 0 rfl) (faExecFlagsW34_0_16 _ _))) <|
     hk (fun cx=>cx.vy 1 (ex_ld rfl (cx.u 0 rfl) (cx.rn 0 rfl) rfl Tryd.isAgg4) (congrArg Value.bool (k_8 hz))) <|
     hk (fun cx=>cx.vy 1 (ex_not (x:=.tmp 67) rfl (cx.u 0 rfl))) <|
     hk (fun cx=>cx.vy 2 (ex_pf rfl (cx.u 0 rfl) (cx.u 1 rfl))) <|
     hk (fun cx=>cx.vy 2 (ex_pt rfl (cx.u 0 rfl) (cx.u 1 rfl))) <|
     hk (fun cx=>cx.q (ex_pf rfl (cx.u 0 rfl) (cx.u 1 rfl))) <|
     hn) ?_
    intro a15 w15 f15
    refine wp_cond_false (f15.v 26 rfl rfl rfl) ?_
    refine wp_skip ?_
    have s19_74:=f15.q 19 (f12.q 19 (f11.q 19 (f10.q 19 s19_44)))
    refine go_reg [] [] [some (.int .i64 2),some (.int .i64 2)] mo f15.d f15.z f15.b (by kernel_rfl) trivial (
     hk (fun cx=>cx.v (ex_add (x:=.tmp 19) rfl (cx.un 1 rfl rfl (by kernel_rfl) s19_74) rfl) rfl (congrArg (Value.int .i64) rfl)) <|
     kmu 0 <|
     hn) ?_
    intro a16 w16 f16
    have s1_75:=f16.q 1 (f15.q 1 (f12.q 1 s1_54))
    have s2_76:=f16.q 2 (f15.q 2 (f12.q 2 s2_55))
    have s3_77:=f16.q 3 (f15.q 3 (f12.q 3 s3_56))
    have s4_78:=f16.q 4 (f15.q 4 s4_73)
    have s17_79:=f16.q 17 (f15.q 17 (f12.q 17 (f11.q 17 (f10.q 17 s17_43))))
    have s18_80:=f16.q 18 (f15.q 18 (f12.q 18 (f11.q 18 (f10.q 18 (f9.q 18 s18)))))
    have b_gA_81:=f16.k (f15.k b_gA_70)
    have b_gB_82:=f16.k (f15.k (f12.k (f11.k (f10.k b_gB_42))))
    exact ⟨by omega,f16.d,f16.z,f16.b,⟨s1_75,s2_76,s3_77,s4_78,s17_79,s18_80,(f16.v 1 rfl rfl rfl),trivial⟩,⟨b_gA_81,b_gB_82,trivial⟩⟩
  · skip
    replace s19:aL.tmps.getD 19 undef=.int .i64 2:=s19
    refine wp_seq ?_
    refine go_reg [] [] [oF] mo dL zL BL (by kernel_rfl) trivial (
     hk (fun cx=>cx.v (ex_lt (x:=.tmp 19) (y:=.tmp 18) rfl (cx.rq 19 s19) (cx.rq 18 s18)) rfl (congrArg Value.bool (by decide))) <|
     hn) ?_
    intro a17 w17 f17
    refine wp_seq ?_
    refine wp_cond_false (f17.v 0 rfl rfl rfl) ?_
    refine wp_exit ?_
    simp only [Exit.then,Exit.inBlock,if_true]
    refine hK _ _ ?_
    refine wp_seq ?_
    refine go_reg [] [] [oT,oT] mo f17.d f17.z f17.b (by kernel_rfl) trivial (
     hc (fun _ _ wx cx=>cx.c rfl (args0 ) Tryd.func12 (by decide +kernel) (wakes_n wx (hT.below cx.S.1.1 (Nat.le_refl _))) rfl rfl) <|
     kmu 0 <|
     hn) ?_
    intro a18 w18 f18
    refine wp_ret ?_
    try simp only [Exit.inBlock,Exit.then]
    refine bodyPost_ret (res_t (fn:=Tryd.f5) rfl (f18.v 1 rfl rfl rfl)) f18.d ?_
    exact ⟨rfl,f18.b⟩
theorem flags_law (m:Mc) (w d s:Int) (W:World) (hM:MOk m) (h1:(Lit.int .i8 w).wf=true) (h2:(Lit.int .i8 d).wf=true) (h3:(Lit.int .i8 s).wf=true) (hT:Mrm.Tabs W):Calls Tryd.prog 5 #[.agg (mcC m),.int .i8 w,.int .i8 d,.int .i8 s] W fun e w'=>e=.returned (.bool true) ∧ Below W.heap.size W w':=
  flags_n m w d s W hT hM (bd_i8 h1) (bd_i8 h2) (bd_i8 h3)
end Go.Proofs.YtoghjpliemidkaaDoor.Exe
