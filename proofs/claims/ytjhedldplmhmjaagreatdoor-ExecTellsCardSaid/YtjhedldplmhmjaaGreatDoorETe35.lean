import Derived.Test.YtjhedldplmhmjaaGreatDoorETe34
import Derived.Test.YtjhedldplmhmjaaGreatDoorETe33
set_option maxHeartbeats 4000000
set_option linter.unusedVariables false
set_option linter.unusedSimpArgs false
set_option linter.unnecessarySimpa false
namespace Go.Proofs.YtjhedldplmhmjaaGreatDoor.Mrm
open Go Go.RowKit
set_option maxRecDepth 100000
theorem eb_c3 (op wd dst src base disp imm cc:Int)(W:World)(hm:mayX ⟨op,wd,dst,src,base,disp,imm,cc⟩=true)(hw:-128≤wd∧wd<128)(hd:0≤dst∧dst<16)(hs:0≤src∧src<16)(hb:0≤base∧base<16)(hc:clsI op=3)(h16:(op == 16)=false)(h1:(op == 1)=false)(hi0:0≤imm)(hi1:imm<64):
  Calls Tryz.prog 67 #[.agg #[.int .i8 op,.int .i8 wd,.int .i8 dst,.int .i8 src,.int .i8 base,.int .i64 disp,.int .i64 imm,.int .i8 cc]] W (RetX (rexL (wd == 64) 0 dst false ++ [193,opI 192 (codI op) dst,imm]) 0 W):=by
 have MY:=Lib.hid (fun W=>show Calls Tryz.prog 22 #[.agg #[.int .i8 op,.int .i8 wd,.int .i8 dst,.int .i8 src,.int .i8 base,.int .i64 disp,.int .i64 imm,.int .i8 cc]] W fun e w'=>e=.returned (.bool true)∧Below W.heap.size W w' by have h:=emay_n ⟨op,wd,dst,src,base,disp,imm,cc⟩ W hw;rw [hm] at h;exact h)
 have CD:=Lib.hid (fun W=>cod_n op W)
 have CL:=Lib.hid (fun W=>cls_is hc W)
 have RX:=Lib.hid (fun W=>erex_n (wd == 64) 0 dst false W)
 have rl:=rexL_length (wd == 64) 0 dst false
 have RO:=Lib.hid (rexL_ok (wd == 64) 0 dst false)
 have cb:=codI_bd op
 have c0:=cb.1
 have c1:codI op<16:=cb.2.2 (by rw [hc];decide)
 clear cb
 have DR:=Lib.hid (fun W=>edirect_n (codI op) dst ⟨c0,c1⟩ hd W)
 have ob:=opI_bd (k:=192) (r:=codI op) (m:=dst) (.inl rfl)
 clear hm hw hd hs hb hc
 generalize opI 192 (codI op) dst=d at *
 generalize codI op=c at *
 generalize rexL (wd == 64) 0 dst false=rl0 at *
 have ei:IntKind.u8.wrap imm=imm:=add_u8 ⟨hi0,by omega⟩
 have ec:IntKind.i8.wrap c=c:=by simp [IntKind.wrap,IntKind.signed,IntKind.bits];omega
 unfold RetX
 go_enter Tryz.func67,Tryz.ntmps67
 go_wp2_with fail
 refine (MY.out _).mono ?_
 rintro e w1 ⟨rfl,b1⟩
 have B1:=Lib.hid b1
 clear b1
 obtain ⟨c0_1,c1_1,c2_1,c3_1,c4_1,c5_1,c6_1,c7_1⟩:=xcells B1.out
 go_wp2_with fail
 refine (CD.out _).mono ?_
 rintro e y ⟨rfl,rfl⟩
 go_wp2_with fail
 refine (CL.out _).mono ?_
 rintro e y ⟨rfl,rfl⟩
 go_wp2_with fail
 refine (CL.out _).mono ?_
 rintro e y ⟨rfl,rfl⟩
 go_wp2_with fail
 refine (CL.out _).mono ?_
 rintro e y ⟨rfl,rfl⟩
 go_wp2_with fail
 refine (RX.out _).mono ?_
 rintro e w2 ⟨u2,rfl,o2,b2⟩
 have B2:=Lib.hid (below_call B1.out b2)
 have O2:=Lib.hid (o2.mono (size1 B1.out))
 clear o2 b2
 obtain ⟨c0_2,c1_2,c2_2,c3_2,c4_2,c5_2,c6_2,c7_2⟩:=xcells B2.out
 clear c0_1 c1_1 c2_1 c3_1 c4_1 c5_1 c6_1 c7_1
 go_wp2_with fail
 have KS:=Lib.hid (fun w' (b:Below (W.alloc (.cells #[.int .i8 op,.int .i8 wd,.int .i8 dst,.int .i8 src,.int .i8 base,.int .i64 disp,.int .i64 imm,.int .i8 cc] 30)).heap.size (W.alloc (.cells #[.int .i8 op,.int .i8 wd,.int .i8 dst,.int .i8 src,.int .i8 base,.int .i64 disp,.int .i64 imm,.int .i8 cc] 30)) w')=>show w'.cell? ⟨W.heap.size,2,none⟩=some (.int .i8 dst)∧w'.cell? ⟨W.heap.size,6,none⟩=some (.int .i64 imm)∧Below (W.alloc (.cells #[.int .i8 op,.int .i8 wd,.int .i8 dst,.int .i8 src,.int .i8 base,.int .i64 disp,.int .i64 imm,.int .i8 cc] 30)).heap.size (W.alloc (.cells #[.int .i8 op,.int .i8 wd,.int .i8 dst,.int .i8 src,.int .i8 base,.int .i64 disp,.int .i64 imm,.int .i8 cc] 30)) w' from by obtain ⟨h0,h1,h2,h3,h4,h5,h6,h7⟩:=xcells b;exact ⟨h2,h6,b⟩)
 go_region_held3 (fun w'=>w'.cell? ⟨W.heap.size,2,none⟩=some (.int .i8 dst)∧w'.cell? ⟨W.heap.size,6,none⟩=some (.int .i64 imm)∧Below (W.alloc (.cells #[.int .i8 op,.int .i8 wd,.int .i8 dst,.int .i8 src,.int .i8 base,.int .i64 disp,.int .i64 imm,.int .i8 cc] 30)).heap.size (W.alloc (.cells #[.int .i8 op,.int .i8 wd,.int .i8 dst,.int .i8 src,.int .i8 base,.int .i64 disp,.int .i64 imm,.int .i8 cc] 30)) w') ((go_split_ands;refine KS.out _ ?_;repeat' (first | assumption | exact B2.out | exact Below.refl _ _ | apply Below.drew | apply below_new))) (first | (go_at_call 91;refine (DR.out _).mono ?_;rintro e y ⟨rfl,rfl⟩) | (refine step_append_b rfl _ _ rfl (W.heap.size+1) _ rl0 rfl ((O2.out.below (below_new (Below.refl _ _) _)).below (Below.drew (Below.refl _ _))) _ 3 3 [193,d,imm] rfl ((made_at _ [193,d,imm] (by intro z hz;simp at hz;omega) (by simp)).below (Below.drew (Below.refl _ _))) (by simp;omega) (Nat.le_trans (size1 B2.out) (by simp)) ?_;intro u3 w3 o3 g3;have b3:=grown1 (Below.drew (below_new B2.out _)) g3 (fun j hj=>O2.out.lt j hj)))
 all_goals (
 have O3:=Lib.hid o3
 clear o3 g3
 go_wp2_with fail
 go_ret2
 have hh:Bts W.heap.size w3 u3 (rl0 ++ [193,d,imm]):=by have h:=O3.out.mono (Nat.le_succ _);simpa only [List.append_assoc,List.cons_append,List.nil_append] using h
 exact ⟨_,rfl,hh,below_boxed b3⟩)
theorem eb_cmov (wd dst src base disp imm cc:Int)(W:World)(hm:mayX ⟨25,wd,dst,src,base,disp,imm,cc⟩=true)(hw:-128≤wd∧wd<128)(hd:0≤dst∧dst<16)(hs:0≤src∧src<16)(hb:0≤base∧base<16)(hk0:0≤cc)(hk1:cc<16):
  Calls Tryz.prog 67 #[.agg #[.int .i8 25,.int .i8 wd,.int .i8 dst,.int .i8 src,.int .i8 base,.int .i64 disp,.int .i64 imm,.int .i8 cc]] W (RetX (rexL (wd == 64) dst src false ++ [15,64+cc,opI 192 dst src]) 0 W):=by
 have MY:=Lib.hid (fun W=>show Calls Tryz.prog 22 #[.agg #[.int .i8 25,.int .i8 wd,.int .i8 dst,.int .i8 src,.int .i8 base,.int .i64 disp,.int .i64 imm,.int .i8 cc]] W fun e w'=>e=.returned (.bool true)∧Below W.heap.size W w' by have h:=emay_n ⟨25,wd,dst,src,base,disp,imm,cc⟩ W hw;rw [hm] at h;exact h)
 have CD:=Lib.hid (fun W=>cod_is (show codI 25=0 by decide) W)
 have CL:=Lib.hid (fun W=>cls_is (show clsI 25=5 by decide) W)
 have RX:=Lib.hid (fun W=>erex_n (wd == 64) dst src false W)
 have rl:=rexL_length (wd == 64) dst src false
 have RO:=Lib.hid (rexL_ok (wd == 64) dst src false)
 have DR:=Lib.hid (fun W=>edirect_n dst src hd hs W)
 have ob:=opI_bd (k:=192) (r:=dst) (m:=src) (.inl rfl)
 clear hm hw hd hs hb
 generalize opI 192 dst src=d at *
 generalize rexL (wd == 64) dst src false=rl0 at *
 have e1:IntKind.i64.wrap cc=cc:=by rw [IntKind.wrap_i64];omega
 have e2:IntKind.i64.wrap (64+cc)=64+cc:=by rw [IntKind.wrap_i64];omega
 have e3:IntKind.u8.wrap (64+cc)=64+cc:=add_u8 ⟨by omega,by omega⟩
 unfold RetX
 go_enter Tryz.func67,Tryz.ntmps67
 go_wp2_with fail
 refine (MY.out _).mono ?_
 rintro e w1 ⟨rfl,b1⟩
 have B1:=Lib.hid b1
 clear b1
 obtain ⟨c0_1,c1_1,c2_1,c3_1,c4_1,c5_1,c6_1,c7_1⟩:=xcells B1.out
 go_wp2_with fail
 refine (CD.out _).mono ?_
 rintro e y ⟨rfl,rfl⟩
 go_wp2_with fail
 refine (CL.out _).mono ?_
 rintro e y ⟨rfl,rfl⟩
 go_wp2_with fail
 refine (CL.out _).mono ?_
 rintro e y ⟨rfl,rfl⟩
 go_wp2_with fail
 refine (CL.out _).mono ?_
 rintro e y ⟨rfl,rfl⟩
 go_wp2_with fail
 refine (CL.out _).mono ?_
 rintro e y ⟨rfl,rfl⟩
 go_wp2_with fail
 refine (RX.out _).mono ?_
 rintro e w2 ⟨u2,rfl,o2,b2⟩
 have B2:=Lib.hid (below_call B1.out b2)
 have O2:=Lib.hid (o2.mono (size1 B1.out))
 clear o2 b2
 obtain ⟨c0_2,c1_2,c2_2,c3_2,c4_2,c5_2,c6_2,c7_2⟩:=xcells B2.out
 clear c0_1 c1_1 c2_1 c3_1 c4_1 c5_1 c6_1 c7_1
 go_wp2_with fail
 have KS:=Lib.hid (fun w' (b:Below (W.alloc (.cells #[.int .i8 25,.int .i8 wd,.int .i8 dst,.int .i8 src,.int .i8 base,.int .i64 disp,.int .i64 imm,.int .i8 cc] 30)).heap.size (W.alloc (.cells #[.int .i8 25,.int .i8 wd,.int .i8 dst,.int .i8 src,.int .i8 base,.int .i64 disp,.int .i64 imm,.int .i8 cc] 30)) w')=>show w'.cell? ⟨W.heap.size,2,none⟩=some (.int .i8 dst)∧w'.cell? ⟨W.heap.size,3,none⟩=some (.int .i8 src)∧w'.cell? ⟨W.heap.size,7,none⟩=some (.int .i8 cc)∧Below (W.alloc (.cells #[.int .i8 25,.int .i8 wd,.int .i8 dst,.int .i8 src,.int .i8 base,.int .i64 disp,.int .i64 imm,.int .i8 cc] 30)).heap.size (W.alloc (.cells #[.int .i8 25,.int .i8 wd,.int .i8 dst,.int .i8 src,.int .i8 base,.int .i64 disp,.int .i64 imm,.int .i8 cc] 30)) w' from by obtain ⟨h0,h1,h2,h3,h4,h5,h6,h7⟩:=xcells b;exact ⟨h2,h3,h7,b⟩)
 go_region_held3 (fun w'=>w'.cell? ⟨W.heap.size,2,none⟩=some (.int .i8 dst)∧w'.cell? ⟨W.heap.size,3,none⟩=some (.int .i8 src)∧w'.cell? ⟨W.heap.size,7,none⟩=some (.int .i8 cc)∧Below (W.alloc (.cells #[.int .i8 25,.int .i8 wd,.int .i8 dst,.int .i8 src,.int .i8 base,.int .i64 disp,.int .i64 imm,.int .i8 cc] 30)).heap.size (W.alloc (.cells #[.int .i8 25,.int .i8 wd,.int .i8 dst,.int .i8 src,.int .i8 base,.int .i64 disp,.int .i64 imm,.int .i8 cc] 30)) w') ((go_split_ands;refine KS.out _ ?_;repeat' (first | assumption | exact B2.out | exact Below.refl _ _ | apply Below.drew | apply below_new))) (first | (go_at_call 91;refine (DR.out _).mono ?_;rintro e y ⟨rfl,rfl⟩) | (refine step_append_b rfl _ _ rfl (W.heap.size+1) _ rl0 rfl ((O2.out.below (below_new (Below.refl _ _) _)).below (Below.drew (Below.refl _ _))) _ 3 3 [15,64+cc,d] rfl ((made_at _ [15,64+cc,d] (by intro z hz;simp at hz;omega) (by simp)).below (Below.drew (Below.refl _ _))) (by simp;omega) (Nat.le_trans (size1 B2.out) (by simp)) ?_;intro u3 w3 o3 g3;have b3:=grown1 (Below.drew (below_new B2.out _)) g3 (fun j hj=>O2.out.lt j hj)))
 all_goals (
 have O3:=Lib.hid o3
 clear o3 g3
 go_wp2_with fail
 go_ret2
 have hh:Bts W.heap.size w3 u3 (rl0 ++ [15,64+cc,d]):=by have h:=O3.out.mono (Nat.le_succ _);simpa only [List.append_assoc,List.cons_append,List.nil_append] using h
 exact ⟨_,rfl,hh,below_boxed b3⟩)
theorem ebr_j8 (dst src base disp imm cc:Int)(W:World):
  Calls Tryz.prog 94 #[.agg #[.int .i8 28,.int .i8 8,.int .i8 dst,.int .i8 src,.int .i8 base,.int .i64 disp,.int .i64 imm,.int .i8 cc]] W (RetV ([235,imm % 256]) W):=by
 have eu:IntKind.u8.wrap imm=imm % 256:=by simp [IntKind.wrap,IntKind.signed,IntKind.bits]
 have H1:=Lib.hid (show Bts (W.heap.size+1) ((W.alloc (.cells #[.int .i8 28,.int .i8 8,.int .i8 dst,.int .i8 src,.int .i8 base,.int .i64 disp,.int .i64 imm,.int .i8 cc] 30)).alloc (.cells #[.int .u8 (235),.int .u8 (imm % 256)] 5)) (.slice (some ⟨W.heap.size+1,0,none⟩) 2 2) [235,imm % 256] by
  have h:=made_own (base:=W.heap.size+1) (W.alloc (.cells #[.int .i8 28,.int .i8 8,.int .i8 dst,.int .i8 src,.int .i8 base,.int .i64 disp,.int .i64 imm,.int .i8 cc] 30)) [235,imm % 256] (by simp) (by simp)
  rw [show (W.alloc (.cells #[.int .i8 28,.int .i8 8,.int .i8 dst,.int .i8 src,.int .i8 base,.int .i64 disp,.int .i64 imm,.int .i8 cc] 30)).heap.size=W.heap.size+1 by simp] at h
  exact h)
 have H2:=Lib.hid (below_new (Below.refl (W.alloc (.cells #[.int .i8 28,.int .i8 8,.int .i8 dst,.int .i8 src,.int .i8 base,.int .i64 disp,.int .i64 imm,.int .i8 cc] 30)).heap.size (W.alloc (.cells #[.int .i8 28,.int .i8 8,.int .i8 dst,.int .i8 src,.int .i8 base,.int .i64 disp,.int .i64 imm,.int .i8 cc] 30))) (.cells #[.int .u8 (235),.int .u8 (imm % 256)] 5))
 unfold RetV
 go_enter Tryz.func94,Tryz.ntmps94
 go_wp2_with fail
 go_ret
 exact ⟨_,rfl,H1.out.mono (Nat.le_succ _),below_boxed H2.out⟩
theorem ebr_j (wd dst src base disp imm cc:Int)(W:World)(h8:(wd == 8)=false):
  Calls Tryz.prog 94 #[.agg #[.int .i8 28,.int .i8 wd,.int .i8 dst,.int .i8 src,.int .i8 base,.int .i64 disp,.int .i64 imm,.int .i8 cc]] W (RetV ([233] ++ numL imm 4) W):=by
 have H1:=Lib.hid (show Bts (W.heap.size+1) ((W.alloc (.cells #[.int .i8 28,.int .i8 wd,.int .i8 dst,.int .i8 src,.int .i8 base,.int .i64 disp,.int .i64 imm,.int .i8 cc] 30)).alloc (.cells #[.int .u8 (233)] 5)) (.slice (some ⟨W.heap.size+1,0,none⟩) 1 1) [233] by
  have h:=made_own (base:=W.heap.size+1) (W.alloc (.cells #[.int .i8 28,.int .i8 wd,.int .i8 dst,.int .i8 src,.int .i8 base,.int .i64 disp,.int .i64 imm,.int .i8 cc] 30)) [233] (by simp) (by simp)
  rw [show (W.alloc (.cells #[.int .i8 28,.int .i8 wd,.int .i8 dst,.int .i8 src,.int .i8 base,.int .i64 disp,.int .i64 imm,.int .i8 cc] 30)).heap.size=W.heap.size+1 by simp] at h
  exact h)
 have H2:=Lib.hid (below_new (Below.refl (W.alloc (.cells #[.int .i8 28,.int .i8 wd,.int .i8 dst,.int .i8 src,.int .i8 base,.int .i64 disp,.int .i64 imm,.int .i8 cc] 30)).heap.size (W.alloc (.cells #[.int .i8 28,.int .i8 wd,.int .i8 dst,.int .i8 src,.int .i8 base,.int .i64 disp,.int .i64 imm,.int .i8 cc] 30))) (.cells #[.int .u8 (233)] 5))
 unfold RetV
 have PT:=Lib.hid (fun W=>put4_n imm W)
 have NO:=Lib.hid (numL_ok imm 4)
 have NL:=Lib.hid (numL_length imm 4)
 generalize numL imm 4=nl at *
 go_enter Tryz.func94,Tryz.ntmps94
 go_wp2_with fail
 refine (PT.out _).mono ?_
 rintro e w3 ⟨u3,rfl,o3,b3⟩
 have B3:=Lib.hid (below_call H2.out b3)
 have K3:=Lib.hid (H1.out.below b3)
 obtain ⟨xa,xc,rfl,e3⟩:=o3.at NO.out
 have E3:=Lib.hid e3
 clear e3 o3 b3 H1 H2
 go_wp2_with (at_builtin;refine wpList_append_b rfl _ _ rfl (W.heap.size+1) _ _ rfl K3.out _ _ _ _ rfl E3.out (by have:=NL.out;simp;omega) (size1 B3.out) ?_)
 intro u4 w4 o4 g4
 have B4:=Lib.hid (grown1 B3.out g4 (fun j hj=>K3.out.lt j hj))
 have O4:=Lib.hid o4
 clear o4 g4
 go_wp2_with fail
 go_ret
 exact ⟨_,rfl,O4.out.mono (Nat.le_succ _),below_boxed B4.out⟩
theorem ebr_c8 (dst src base disp imm cc:Int)(W:World)(hk0:0≤cc)(hk1:cc<16):
  Calls Tryz.prog 94 #[.agg #[.int .i8 29,.int .i8 8,.int .i8 dst,.int .i8 src,.int .i8 base,.int .i64 disp,.int .i64 imm,.int .i8 cc]] W (RetV ([112+cc,imm % 256]) W):=by
 have eu:IntKind.u8.wrap imm=imm % 256:=by simp [IntKind.wrap,IntKind.signed,IntKind.bits]
 have e1:IntKind.i64.wrap cc=cc:=by rw [IntKind.wrap_i64];omega
 have e2:IntKind.i64.wrap (112+cc)=112+cc:=by rw [IntKind.wrap_i64];omega
 have e3:IntKind.u8.wrap (112+cc)=112+cc:=add_u8 ⟨by omega,by omega⟩
 have H1:=Lib.hid (show Bts (W.heap.size+1) ((W.alloc (.cells #[.int .i8 29,.int .i8 8,.int .i8 dst,.int .i8 src,.int .i8 base,.int .i64 disp,.int .i64 imm,.int .i8 cc] 30)).alloc (.cells #[.int .u8 (112+cc),.int .u8 (imm % 256)] 5)) (.slice (some ⟨W.heap.size+1,0,none⟩) 2 2) [112+cc,imm % 256] by
  have h:=made_own (base:=W.heap.size+1) (W.alloc (.cells #[.int .i8 29,.int .i8 8,.int .i8 dst,.int .i8 src,.int .i8 base,.int .i64 disp,.int .i64 imm,.int .i8 cc] 30)) [112+cc,imm % 256] (by simp) (by simp)
  rw [show (W.alloc (.cells #[.int .i8 29,.int .i8 8,.int .i8 dst,.int .i8 src,.int .i8 base,.int .i64 disp,.int .i64 imm,.int .i8 cc] 30)).heap.size=W.heap.size+1 by simp] at h
  exact h)
 have H2:=Lib.hid (below_new (Below.refl (W.alloc (.cells #[.int .i8 29,.int .i8 8,.int .i8 dst,.int .i8 src,.int .i8 base,.int .i64 disp,.int .i64 imm,.int .i8 cc] 30)).heap.size (W.alloc (.cells #[.int .i8 29,.int .i8 8,.int .i8 dst,.int .i8 src,.int .i8 base,.int .i64 disp,.int .i64 imm,.int .i8 cc] 30))) (.cells #[.int .u8 (112+cc),.int .u8 (imm % 256)] 5))
 unfold RetV
 go_enter Tryz.func94,Tryz.ntmps94
 go_wp2_with fail
 go_ret
 exact ⟨_,rfl,H1.out.mono (Nat.le_succ _),below_boxed H2.out⟩
theorem ebr_ret (wd dst src base disp imm cc:Int)(W:World):
  Calls Tryz.prog 94 #[.agg #[.int .i8 30,.int .i8 wd,.int .i8 dst,.int .i8 src,.int .i8 base,.int .i64 disp,.int .i64 imm,.int .i8 cc]] W (RetV ([195]) W):=by
 have H1:=Lib.hid (show Bts (W.heap.size+1) ((W.alloc (.cells #[.int .i8 30,.int .i8 wd,.int .i8 dst,.int .i8 src,.int .i8 base,.int .i64 disp,.int .i64 imm,.int .i8 cc] 30)).alloc (.cells #[.int .u8 (195)] 5)) (.slice (some ⟨W.heap.size+1,0,none⟩) 1 1) [195] by
  have h:=made_own (base:=W.heap.size+1) (W.alloc (.cells #[.int .i8 30,.int .i8 wd,.int .i8 dst,.int .i8 src,.int .i8 base,.int .i64 disp,.int .i64 imm,.int .i8 cc] 30)) [195] (by simp) (by simp)
  rw [show (W.alloc (.cells #[.int .i8 30,.int .i8 wd,.int .i8 dst,.int .i8 src,.int .i8 base,.int .i64 disp,.int .i64 imm,.int .i8 cc] 30)).heap.size=W.heap.size+1 by simp] at h
  exact h)
 have H2:=Lib.hid (below_new (Below.refl (W.alloc (.cells #[.int .i8 30,.int .i8 wd,.int .i8 dst,.int .i8 src,.int .i8 base,.int .i64 disp,.int .i64 imm,.int .i8 cc] 30)).heap.size (W.alloc (.cells #[.int .i8 30,.int .i8 wd,.int .i8 dst,.int .i8 src,.int .i8 base,.int .i64 disp,.int .i64 imm,.int .i8 cc] 30))) (.cells #[.int .u8 (195)] 5))
 unfold RetV
 go_enter Tryz.func94,Tryz.ntmps94
 go_wp2_with fail
 go_ret
 exact ⟨_,rfl,H1.out.mono (Nat.le_succ _),below_boxed H2.out⟩
theorem ebr_host (wd dst src base disp imm cc:Int)(W:World):
  Calls Tryz.prog 94 #[.agg #[.int .i8 31,.int .i8 wd,.int .i8 dst,.int .i8 src,.int .i8 base,.int .i64 disp,.int .i64 imm,.int .i8 cc]] W (RetV ([15,5]) W):=by
 have H1:=Lib.hid (show Bts (W.heap.size+1) ((W.alloc (.cells #[.int .i8 31,.int .i8 wd,.int .i8 dst,.int .i8 src,.int .i8 base,.int .i64 disp,.int .i64 imm,.int .i8 cc] 30)).alloc (.cells #[.int .u8 (15),.int .u8 (5)] 5)) (.slice (some ⟨W.heap.size+1,0,none⟩) 2 2) [15,5] by
  have h:=made_own (base:=W.heap.size+1) (W.alloc (.cells #[.int .i8 31,.int .i8 wd,.int .i8 dst,.int .i8 src,.int .i8 base,.int .i64 disp,.int .i64 imm,.int .i8 cc] 30)) [15,5] (by simp) (by simp)
  rw [show (W.alloc (.cells #[.int .i8 31,.int .i8 wd,.int .i8 dst,.int .i8 src,.int .i8 base,.int .i64 disp,.int .i64 imm,.int .i8 cc] 30)).heap.size=W.heap.size+1 by simp] at h
  exact h)
 have H2:=Lib.hid (below_new (Below.refl (W.alloc (.cells #[.int .i8 31,.int .i8 wd,.int .i8 dst,.int .i8 src,.int .i8 base,.int .i64 disp,.int .i64 imm,.int .i8 cc] 30)).heap.size (W.alloc (.cells #[.int .i8 31,.int .i8 wd,.int .i8 dst,.int .i8 src,.int .i8 base,.int .i64 disp,.int .i64 imm,.int .i8 cc] 30))) (.cells #[.int .u8 (15),.int .u8 (5)] 5))
 unfold RetV
 go_enter Tryz.func94,Tryz.ntmps94
 go_wp2_with fail
 go_ret
 exact ⟨_,rfl,H1.out.mono (Nat.le_succ _),below_boxed H2.out⟩
theorem ebr_c (wd dst src base disp imm cc:Int)(W:World)(h8:(wd == 8)=false)(hk0:0≤cc)(hk1:cc<16):
  Calls Tryz.prog 94 #[.agg #[.int .i8 29,.int .i8 wd,.int .i8 dst,.int .i8 src,.int .i8 base,.int .i64 disp,.int .i64 imm,.int .i8 cc]] W (RetV ([15,128+cc] ++ numL imm 4) W):=by
 have e1:IntKind.i64.wrap cc=cc:=by rw [IntKind.wrap_i64];omega
 have e2:IntKind.i64.wrap (128+cc)=128+cc:=by rw [IntKind.wrap_i64];omega
 have e3:IntKind.u8.wrap (128+cc)=128+cc:=add_u8 ⟨by omega,by omega⟩
 have H1:=Lib.hid (show Bts (W.heap.size+1) ((W.alloc (.cells #[.int .i8 29,.int .i8 wd,.int .i8 dst,.int .i8 src,.int .i8 base,.int .i64 disp,.int .i64 imm,.int .i8 cc] 30)).alloc (.cells #[.int .u8 (15),.int .u8 (128+cc)] 5)) (.slice (some ⟨W.heap.size+1,0,none⟩) 2 2) [15,128+cc] by
  have h:=made_own (base:=W.heap.size+1) (W.alloc (.cells #[.int .i8 29,.int .i8 wd,.int .i8 dst,.int .i8 src,.int .i8 base,.int .i64 disp,.int .i64 imm,.int .i8 cc] 30)) [15,128+cc] (by simp) (by simp)
  rw [show (W.alloc (.cells #[.int .i8 29,.int .i8 wd,.int .i8 dst,.int .i8 src,.int .i8 base,.int .i64 disp,.int .i64 imm,.int .i8 cc] 30)).heap.size=W.heap.size+1 by simp] at h
  exact h)
 have H2:=Lib.hid (below_new (Below.refl (W.alloc (.cells #[.int .i8 29,.int .i8 wd,.int .i8 dst,.int .i8 src,.int .i8 base,.int .i64 disp,.int .i64 imm,.int .i8 cc] 30)).heap.size (W.alloc (.cells #[.int .i8 29,.int .i8 wd,.int .i8 dst,.int .i8 src,.int .i8 base,.int .i64 disp,.int .i64 imm,.int .i8 cc] 30))) (.cells #[.int .u8 (15),.int .u8 (128+cc)] 5))
 unfold RetV
 have PT:=Lib.hid (fun W=>put4_n imm W)
 have NO:=Lib.hid (numL_ok imm 4)
 have NL:=Lib.hid (numL_length imm 4)
 generalize numL imm 4=nl at *
 go_enter Tryz.func94,Tryz.ntmps94
 go_wp2_with fail
 have KS:=Lib.hid (fun w' (b:Below (W.alloc (.cells #[.int .i8 29,.int .i8 wd,.int .i8 dst,.int .i8 src,.int .i8 base,.int .i64 disp,.int .i64 imm,.int .i8 cc] 30)).heap.size (W.alloc (.cells #[.int .i8 29,.int .i8 wd,.int .i8 dst,.int .i8 src,.int .i8 base,.int .i64 disp,.int .i64 imm,.int .i8 cc] 30)) w')=>show w'.cell? ⟨W.heap.size,7,none⟩=some (.int .i8 cc)∧w'.cell? ⟨W.heap.size,6,none⟩=some (.int .i64 imm)∧Below (W.alloc (.cells #[.int .i8 29,.int .i8 wd,.int .i8 dst,.int .i8 src,.int .i8 base,.int .i64 disp,.int .i64 imm,.int .i8 cc] 30)).heap.size (W.alloc (.cells #[.int .i8 29,.int .i8 wd,.int .i8 dst,.int .i8 src,.int .i8 base,.int .i64 disp,.int .i64 imm,.int .i8 cc] 30)) w' from by obtain ⟨h0,h1,h2,h3,h4,h5,h6,h7⟩:=xcells b;exact ⟨h7,h6,b⟩)
 go_region_held3 (fun w'=>w'.cell? ⟨W.heap.size,7,none⟩=some (.int .i8 cc)∧w'.cell? ⟨W.heap.size,6,none⟩=some (.int .i64 imm)∧Below (W.alloc (.cells #[.int .i8 29,.int .i8 wd,.int .i8 dst,.int .i8 src,.int .i8 base,.int .i64 disp,.int .i64 imm,.int .i8 cc] 30)).heap.size (W.alloc (.cells #[.int .i8 29,.int .i8 wd,.int .i8 dst,.int .i8 src,.int .i8 base,.int .i64 disp,.int .i64 imm,.int .i8 cc] 30)) w') ((go_split_ands;refine KS.out _ ?_;repeat' (first | assumption | exact Below.refl _ _ | apply Below.drew | apply below_new | (refine below_call ?_ b3)))) (first
  | (go_at_call 92;refine (PT.out _).mono ?_;rintro e w3 ⟨u3,rfl,o3,b3⟩;obtain ⟨xa,xc,rfl,e3⟩:=o3.at NO.out;obtain ⟨q1,q2,rfl,_⟩:=e3.here (by rw [NL.out];omega))
  | (refine step_append_b rfl _ _ rfl (W.heap.size+1) _ [15,128+cc] rfl ((H1.out.below (Below.drew (Below.refl _ _))).below b3) _ _ _ _ rfl e3 (by have:=NL.out;simp;omega) (size1 (below_call (Below.drew H2.out) b3)) ?_;intro u4 w4 o4 g4;have b4:=grown1 (below_call (Below.drew H2.out) b3) g4 (fun j hj=>((H1.out.below (Below.drew (Below.refl _ _))).below b3).lt j hj))
  | (refine step_append_b rfl _ _ rfl (W.heap.size+1) _ [15,128+cc] rfl (made_own w3 [15,128+cc] (by simp) (size1 (below_call (Below.drew (Below.refl _ _)) b3))) _ _ _ _ rfl (e3.below (below_new (Below.refl _ _) _)) (by have:=NL.out;simp;omega) (Nat.le_trans (size1 (below_call (Below.drew (Below.refl _ _)) b3)) (by simp)) ?_;intro u4 w4 o4 g4;have b4:=grown1 (below_new (below_call (Below.drew (Below.refl _ _)) b3) _) g4 (fun j hj=>(made_own w3 [15,128+cc] (by simp) (size1 (below_call (Below.drew (Below.refl _ _)) b3))).lt j hj)))
 all_goals (
  go_wp2_with fail
  go_ret
  exact ⟨_,rfl,o4.mono (Nat.le_succ _),below_boxed b4⟩)
theorem eb_no (op wd dst src base disp imm cc:Int)(W:World)(hm:mayX ⟨op,wd,dst,src,base,disp,imm,cc⟩=false)(hw:-128≤wd∧wd<128):
  Calls Tryz.prog 67 #[.agg #[.int .i8 op,.int .i8 wd,.int .i8 dst,.int .i8 src,.int .i8 base,.int .i64 disp,.int .i64 imm,.int .i8 cc]] W (RetX [] 2 W):=by
 have MY:=Lib.hid (fun W=>show Calls Tryz.prog 22 #[.agg #[.int .i8 op,.int .i8 wd,.int .i8 dst,.int .i8 src,.int .i8 base,.int .i64 disp,.int .i64 imm,.int .i8 cc]] W fun e w'=>e=.returned (.bool false)∧Below W.heap.size W w' by have h:=emay_n ⟨op,wd,dst,src,base,disp,imm,cc⟩ W hw;rw [hm] at h;exact h)
 clear hm hw
 unfold RetX
 go_enter Tryz.func67,Tryz.ntmps67
 go_wp2_with fail
 refine (MY.out _).mono ?_
 rintro e w1 ⟨rfl,b1⟩
 go_wp2_with fail
 go_ret2
 exact ⟨_,rfl,Bts.nil _ _,below_boxed b1⟩
theorem eb_bare8 (op wd dst src base disp imm cc:Int)(l:List Int)(W:World)(hm:mayX ⟨op,wd,dst,src,base,disp,imm,cc⟩=true)(hw:-128≤wd∧wd<128)(hc:clsI op=8)(h16:(op == 16)=false)(h1:(op == 1)=false)(h25:(op == 25)=false)(h26:(op == 26)=false)(h27:(op == 27)=false)
  (BR:∀ W,Calls Tryz.prog 94 #[.agg #[.int .i8 op,.int .i8 wd,.int .i8 dst,.int .i8 src,.int .i8 base,.int .i64 disp,.int .i64 imm,.int .i8 cc]] W (RetV l W)):
  Calls Tryz.prog 67 #[.agg #[.int .i8 op,.int .i8 wd,.int .i8 dst,.int .i8 src,.int .i8 base,.int .i64 disp,.int .i64 imm,.int .i8 cc]] W (RetX l 0 W):=by
 have MY:=Lib.hid (fun W=>show Calls Tryz.prog 22 #[.agg #[.int .i8 op,.int .i8 wd,.int .i8 dst,.int .i8 src,.int .i8 base,.int .i64 disp,.int .i64 imm,.int .i8 cc]] W fun e w'=>e=.returned (.bool true)∧Below W.heap.size W w' by have h:=emay_n ⟨op,wd,dst,src,base,disp,imm,cc⟩ W hw;rw [hm] at h;exact h)
 have CD:=Lib.hid (fun W=>cod_n op W)
 have CL:=Lib.hid (fun W=>cls_is hc W)
 have BR:=Lib.hid BR
 clear hm hw hc
 unfold RetX
 go_enter Tryz.func67,Tryz.ntmps67
 go_wp2_with fail
 refine (MY.out _).mono ?_
 rintro e w1 ⟨rfl,b1⟩
 have B1:=Lib.hid b1
 clear b1
 obtain ⟨c0_1,c1_1,c2_1,c3_1,c4_1,c5_1,c6_1,c7_1⟩:=xcells B1.out
 go_wp2_with fail
 refine (CD.out _).mono ?_
 rintro e y ⟨rfl,rfl⟩
 go_wp2_with fail
 refine (CL.out _).mono ?_
 rintro e y ⟨rfl,rfl⟩
 go_wp2_with fail
 refine (CL.out _).mono ?_
 rintro e y ⟨rfl,rfl⟩
 go_wp2_with fail
 refine (CL.out _).mono ?_
 rintro e y ⟨rfl,rfl⟩
 go_wp2_with fail
 refine (CL.out _).mono ?_
 rintro e y ⟨rfl,rfl⟩
 go_wp2_with fail
 refine (BR.out _).mono ?_
 rintro e w2 ⟨u2,rfl,o2,b2⟩
 have B2:=Lib.hid (below_call B1.out b2)
 have O2:=Lib.hid (o2.mono (Nat.le_trans (Nat.le_succ _) (size1 B1.out)))
 clear o2 b2
 go_wp2_with fail
 go_ret2
 exact ⟨_,rfl,O2.out,below_boxed B2.out⟩
theorem eb_bare9 (op wd dst src base disp imm cc:Int)(l:List Int)(W:World)(hm:mayX ⟨op,wd,dst,src,base,disp,imm,cc⟩=true)(hw:-128≤wd∧wd<128)(hc:clsI op=9)(h16:(op == 16)=false)(h1:(op == 1)=false)(h25:(op == 25)=false)(h26:(op == 26)=false)(h27:(op == 27)=false)
  (BR:∀ W,Calls Tryz.prog 94 #[.agg #[.int .i8 op,.int .i8 wd,.int .i8 dst,.int .i8 src,.int .i8 base,.int .i64 disp,.int .i64 imm,.int .i8 cc]] W (RetV l W)):
  Calls Tryz.prog 67 #[.agg #[.int .i8 op,.int .i8 wd,.int .i8 dst,.int .i8 src,.int .i8 base,.int .i64 disp,.int .i64 imm,.int .i8 cc]] W (RetX l 0 W):=by
 have MY:=Lib.hid (fun W=>show Calls Tryz.prog 22 #[.agg #[.int .i8 op,.int .i8 wd,.int .i8 dst,.int .i8 src,.int .i8 base,.int .i64 disp,.int .i64 imm,.int .i8 cc]] W fun e w'=>e=.returned (.bool true)∧Below W.heap.size W w' by have h:=emay_n ⟨op,wd,dst,src,base,disp,imm,cc⟩ W hw;rw [hm] at h;exact h)
 have CD:=Lib.hid (fun W=>cod_n op W)
 have CL:=Lib.hid (fun W=>cls_is hc W)
 have BR:=Lib.hid BR
 clear hm hw hc
 unfold RetX
 go_enter Tryz.func67,Tryz.ntmps67
 go_wp2_with fail
 refine (MY.out _).mono ?_
 rintro e w1 ⟨rfl,b1⟩
 have B1:=Lib.hid b1
 clear b1
 obtain ⟨c0_1,c1_1,c2_1,c3_1,c4_1,c5_1,c6_1,c7_1⟩:=xcells B1.out
 go_wp2_with fail
 refine (CD.out _).mono ?_
 rintro e y ⟨rfl,rfl⟩
 go_wp2_with fail
 refine (CL.out _).mono ?_
 rintro e y ⟨rfl,rfl⟩
 go_wp2_with fail
 refine (CL.out _).mono ?_
 rintro e y ⟨rfl,rfl⟩
 go_wp2_with fail
 refine (CL.out _).mono ?_
 rintro e y ⟨rfl,rfl⟩
 go_wp2_with fail
 refine (CL.out _).mono ?_
 rintro e y ⟨rfl,rfl⟩
 go_wp2_with fail
 refine (BR.out _).mono ?_
 rintro e w2 ⟨u2,rfl,o2,b2⟩
 have B2:=Lib.hid (below_call B1.out b2)
 have O2:=Lib.hid (o2.mono (Nat.le_trans (Nat.le_succ _) (size1 B1.out)))
 clear o2 b2
 go_wp2_with fail
 go_ret2
 exact ⟨_,rfl,O2.out,below_boxed B2.out⟩
theorem eb_bare10 (op wd dst src base disp imm cc:Int)(l:List Int)(W:World)(hm:mayX ⟨op,wd,dst,src,base,disp,imm,cc⟩=true)(hw:-128≤wd∧wd<128)(hc:clsI op=10)(h16:(op == 16)=false)(h1:(op == 1)=false)(h25:(op == 25)=false)(h26:(op == 26)=false)(h27:(op == 27)=false)
  (BR:∀ W,Calls Tryz.prog 94 #[.agg #[.int .i8 op,.int .i8 wd,.int .i8 dst,.int .i8 src,.int .i8 base,.int .i64 disp,.int .i64 imm,.int .i8 cc]] W (RetV l W)):
  Calls Tryz.prog 67 #[.agg #[.int .i8 op,.int .i8 wd,.int .i8 dst,.int .i8 src,.int .i8 base,.int .i64 disp,.int .i64 imm,.int .i8 cc]] W (RetX l 0 W):=by
 have MY:=Lib.hid (fun W=>show Calls Tryz.prog 22 #[.agg #[.int .i8 op,.int .i8 wd,.int .i8 dst,.int .i8 src,.int .i8 base,.int .i64 disp,.int .i64 imm,.int .i8 cc]] W fun e w'=>e=.returned (.bool true)∧Below W.heap.size W w' by have h:=emay_n ⟨op,wd,dst,src,base,disp,imm,cc⟩ W hw;rw [hm] at h;exact h)
 have CD:=Lib.hid (fun W=>cod_n op W)
 have CL:=Lib.hid (fun W=>cls_is hc W)
 have BR:=Lib.hid BR
 clear hm hw hc
 unfold RetX
 go_enter Tryz.func67,Tryz.ntmps67
 go_wp2_with fail
 refine (MY.out _).mono ?_
 rintro e w1 ⟨rfl,b1⟩
 have B1:=Lib.hid b1
 clear b1
 obtain ⟨c0_1,c1_1,c2_1,c3_1,c4_1,c5_1,c6_1,c7_1⟩:=xcells B1.out
 go_wp2_with fail
 refine (CD.out _).mono ?_
 rintro e y ⟨rfl,rfl⟩
 go_wp2_with fail
 refine (CL.out _).mono ?_
 rintro e y ⟨rfl,rfl⟩
 go_wp2_with fail
 refine (CL.out _).mono ?_
 rintro e y ⟨rfl,rfl⟩
 go_wp2_with fail
 refine (CL.out _).mono ?_
 rintro e y ⟨rfl,rfl⟩
 go_wp2_with fail
 refine (CL.out _).mono ?_
 rintro e y ⟨rfl,rfl⟩
 go_wp2_with fail
 refine (BR.out _).mono ?_
 rintro e w2 ⟨u2,rfl,o2,b2⟩
 have B2:=Lib.hid (below_call B1.out b2)
 have O2:=Lib.hid (o2.mono (Nat.le_trans (Nat.le_succ _) (size1 B1.out)))
 clear o2 b2
 go_wp2_with fail
 go_ret2
 exact ⟨_,rfl,O2.out,below_boxed B2.out⟩
theorem cls_fin:∀ k:Fin 32,(clsI (k.1:Int)=5→(k.1:Int)=25)∧(clsI (k.1:Int)=6→(k.1:Int)=26)∧(clsI (k.1:Int)=7→(k.1:Int)=27)∧(clsI (k.1:Int)=8→(k.1:Int)=28)∧(clsI (k.1:Int)=9→(k.1:Int)=29)∧(clsI (k.1:Int)=10→(k.1:Int)=30∨(k.1:Int)=31):=by decide +kernel
theorem cls_op {op k:Int}(h:clsI op=k)(hk:k≠0):(k=5→op=25)∧(k=6→op=26)∧(k=7→op=27)∧(k=8→op=28)∧(k=9→op=29)∧(k=10→op=30∨op=31):=by
 by_cases g:0≤op∧op<32
 ·have:=cls_fin ⟨op.toNat,by omega⟩
  simp only [Int.toNat_of_nonneg g.1,h] at this
  exact this
 ·exfalso;apply hk;rw [← h];unfold clsI;rw [if_neg g]
theorem may_facts {x:Xi}(h:mayX x=true):clsI x.op≠0∧(0≤x.dst∧x.dst<16)∧(0≤x.src∧x.src<16)∧(0≤x.base∧x.base<16)∧clsB (clsI x.op) x=true:=by
 unfold mayX at h
 simp only [Bool.and_eq_true,bne_iff_ne,ne_eq] at h
 obtain ⟨h1,h2,h3,h4,h5,h6,h7,h8⟩:=h
 exact ⟨h1,regB_iff.1 h3,regB_iff.1 h4,regB_iff.1 h5,h8⟩
theorem long_iff {w:Int}(h:longB w=true):w=32∨w=64:=by unfold longB at h;simpa using h
theorem cc_iff {c:Int}(h:ccB c=true):0≤c∧c<16:=by unfold ccB at h;simp at h;omega
theorem beq_no {a b:Int}(h:¬ a=b):(a == b)=false:=by simpa using h
theorem ebytes_yes (op wd dst src base disp imm cc:Int)(W:World)(hm:mayX ⟨op,wd,dst,src,base,disp,imm,cc⟩=true)(hw:-128≤wd∧wd<128):
  Calls Tryz.prog 67 #[.agg #[.int .i8 op,.int .i8 wd,.int .i8 dst,.int .i8 src,.int .i8 base,.int .i64 disp,.int .i64 imm,.int .i8 cc]] W (RetX (bytesX ⟨op,wd,dst,src,base,disp,imm,cc⟩) 0 W):=by
 obtain ⟨f0,hd,hs,hb,fb⟩:=may_facts hm
 dsimp only at f0 hd hs hb fb
 unfold bytesX
 dsimp only
 by_cases o16:op=16
 ·subst o16
  rw [if_pos rfl]
  exact eb_mul wd dst src base disp imm cc W hm hw hd hs hb
 rw [if_neg o16]
 by_cases c1:clsI op=1
 ·rw [if_pos c1]
  exact eb_c1 op wd dst src base disp imm cc W hm hw hd hs hb c1 (beq_no o16)
 rw [if_neg c1]
 by_cases o1:op=1
 ·subst o1
  rw [if_pos rfl]
  have hl:longB wd=true:=fb
  rcases long_iff hl with rfl | rfl
  ·rw [if_neg (by decide)]
   exact eb_movi32 dst src base disp imm cc W hm trivial hd hs hb
  ·rw [if_pos rfl]
   exact eb_movi64 dst src base disp imm cc W hm trivial hd hs hb
 rw [if_neg o1]
 by_cases c2:clsI op=2
 ·rw [if_pos c2]
  by_cases o15:op=15
  ·subst o15
   rw [if_pos rfl]
   exact eb_testi wd dst src base disp imm cc W hm hw hd hs hb
  ·rw [if_neg o15]
   exact eb_c2 op wd dst src base disp imm cc W hm hw hd hs hb c2 (beq_no o16) (beq_no o1) (beq_no o15)
 rw [if_neg c2]
 by_cases c3:clsI op=3
 ·rw [if_pos c3]
  rw [c3] at fb
  unfold clsB at fb
  simp at fb
  have hl:=long_iff fb.1
  exact eb_c3 op wd dst src base disp imm cc W hm hw hd hs hb c3 (beq_no o16) (beq_no o1) (by omega) (by omega)
 rw [if_neg c3]
 by_cases c4:clsI op=4
 ·rw [if_pos c4]
  by_cases o23:op=23
  ·subst o23
   rw [if_pos (.inl rfl)]
   exact eb_n23 wd dst src base disp imm cc W hm hw hd hs hb
  by_cases o24:op=24
  ·subst o24
   rw [if_pos (.inr rfl)]
   exact eb_n24 wd dst src base disp imm cc W hm hw hd hs hb
  rw [if_neg (by omega)]
  exact eb_c4 op wd dst src base disp imm cc W hm hw hd hs hb c4 (beq_no o16) (beq_no o1) (beq_no o23) (beq_no o24)
 rw [if_neg c4]
 by_cases o25:op=25
 ·subst o25
  rw [if_pos rfl]
  have hl:(longB wd && ccB cc)=true:=fb
  have hcc:=cc_iff (Bool.and_eq_true_iff.1 hl).2
  exact eb_cmov wd dst src base disp imm cc W hm hw hd hs hb hcc.1 hcc.2
 rw [if_neg o25]
 by_cases o26:op=26
 ·subst o26
  rw [if_pos rfl]
  by_cases w8:wd=8
  ·subst w8;rw [if_pos rfl];exact eb_load8 dst src base disp imm cc W hm trivial hd hs hb
  rw [if_neg w8]
  by_cases w16:wd=16
  ·subst w16;rw [if_pos rfl];exact eb_load16 dst src base disp imm cc W hm trivial hd hs hb
  rw [if_neg w16]
  exact eb_loadw wd dst src base disp imm cc W hm hw hd hs hb (beq_no w8) (beq_no w16)
 rw [if_neg o26]
 by_cases o27:op=27
 ·subst o27
  rw [if_pos rfl]
  by_cases w8:wd=8
  ·subst w8;exact eb_store8 dst src base disp imm cc W hm trivial hd hs hb
  by_cases w16:wd=16
  ·subst w16;exact eb_store16 dst src base disp imm cc W hm trivial hd hs hb
  rw [if_neg w8,if_neg w16,beq_no w8]
  exact eb_storew wd dst src base disp imm cc W hm hw hd hs hb (beq_no w8) (beq_no w16)
 rw [if_neg o27]
 have hop:=cls_op (op:=op) rfl f0
 unfold bareX
 dsimp only
 by_cases o28:op=28
 ·subst o28
  rw [if_pos rfl]
  by_cases w8:wd=8
  ·subst w8
   rw [if_pos rfl]
   exact eb_bare8 28 8 dst src base disp imm cc _ W hm hw rfl rfl rfl rfl rfl rfl (fun W=>ebr_j8 dst src base disp imm cc W)
  ·rw [if_neg w8]
   exact eb_bare8 28 wd dst src base disp imm cc _ W hm hw rfl rfl rfl rfl rfl rfl (fun W=>ebr_j wd dst src base disp imm cc W (beq_no w8))
 rw [if_neg o28]
 by_cases o29:op=29
 ·subst o29
  rw [if_pos rfl]
  have hl:(jmpB ⟨29,wd,dst,src,base,disp,imm,cc⟩ && ccB cc)=true:=fb
  have hcc:=cc_iff (Bool.and_eq_true_iff.1 hl).2
  by_cases w8:wd=8
  ·subst w8
   rw [if_pos rfl]
   exact eb_bare9 29 8 dst src base disp imm cc _ W hm hw rfl rfl rfl rfl rfl rfl (fun W=>ebr_c8 dst src base disp imm cc W hcc.1 hcc.2)
  ·rw [if_neg w8]
   exact eb_bare9 29 wd dst src base disp imm cc _ W hm hw rfl rfl rfl rfl rfl rfl (fun W=>ebr_c wd dst src base disp imm cc W (beq_no w8) hcc.1 hcc.2)
 rw [if_neg o29]
 have h10:op=30∨op=31:=by
  rcases clsI_cases op with h | h | h | h | h | h | h | h | h | h | h
  ·exact absurd h f0
  ·exact absurd h c1
  ·exact absurd h c2
  ·exact absurd h c3
  ·exact absurd h c4
  ·exact absurd (hop.1 h) o25
  ·exact absurd (hop.2.1 h) o26
  ·exact absurd (hop.2.2.1 h) o27
  ·exact absurd (hop.2.2.2.1 h) o28
  ·exact absurd (hop.2.2.2.2.1 h) o29
  ·exact hop.2.2.2.2.2 h
 rcases h10 with rfl | rfl
 ·rw [if_pos rfl]
  exact eb_bare10 30 wd dst src base disp imm cc _ W hm hw rfl rfl rfl rfl rfl rfl (fun W=>ebr_ret wd dst src base disp imm cc W)
 ·rw [if_neg (by decide)]
  exact eb_bare10 31 wd dst src base disp imm cc _ W hm hw rfl rfl rfl rfl rfl rfl (fun W=>ebr_host wd dst src base disp imm cc W)
theorem ebytes_n (x:Xi)(W:World)(hw:-128≤x.w∧x.w<128):Calls Tryz.prog 67 #[.agg (xC x)] W (RetX (bif mayX x then bytesX x else []) (bif mayX x then 0 else 2) W):=by
 cases h:mayX x
 ·exact eb_no x.op x.w x.dst x.src x.base x.disp x.imm x.cc W h hw
 ·exact ebytes_yes x.op x.w x.dst x.src x.base x.disp x.imm x.cc W h hw
end Go.Proofs.YtjhedldplmhmjaaGreatDoor.Mrm
