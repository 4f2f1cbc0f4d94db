import Derived.Test.YtjhedldplmhmjaaGreatDoorETe09
set_option maxHeartbeats 4000000
set_option linter.unusedVariables false
set_option linter.unusedSimpArgs false
set_option linter.unnecessarySimpa false
namespace Go.Proofs.YtjhedldplmhmjaaGreatDoor.Mrm
open Go Go.RowKit
set_option maxRecDepth 100000
theorem eb_c1 (op wd dst src base disp imm cc:Int)(W:World)(hm:mayX ⟨op,wd,dst,src,base,disp,imm,cc⟩=true)(hw:-128≤wd∧wd<128)(hd:0≤dst∧dst<16)(hs:0≤src∧src<16)(hb:0≤base∧base<16)(hc:clsI op=1)(h16:(op == 16)=false):
  Calls Tryz.prog 67 #[.agg #[.int .i8 op,.int .i8 wd,.int .i8 dst,.int .i8 src,.int .i8 base,.int .i64 disp,.int .i64 imm,.int .i8 cc]] W (RetX (rexL (wd == 64) src dst false ++ [codI op,opI 192 src dst]) 0 W):=by
 have MY:=Lib.hid (fun W=>show Calls Tryz.prog 22 #[.agg #[.int .i8 op,.int .i8 wd,.int .i8 dst,.int .i8 src,.int .i8 base,.int .i64 disp,.int .i64 imm,.int .i8 cc]] W fun e w'=>e=.returned (.bool true)∧Below W.heap.size W w' by have h:=emay_n ⟨op,wd,dst,src,base,disp,imm,cc⟩ W hw;rw [hm] at h;exact h)
 have CD:=Lib.hid (fun W=>cod_n op W)
 have CL:=Lib.hid (fun W=>cls_is hc W)
 have RX:=Lib.hid (fun W=>erex_n (wd == 64) src dst false W)
 have rl:=rexL_length (wd == 64) src dst false
 have RO:=Lib.hid (rexL_ok (wd == 64) src dst false)
 have DR:=Lib.hid (fun W=>edirect_n src dst hs hd W)
 have ob:=opI_bd (k:=192) (r:=src) (m:=dst) (.inl rfl)
 have cb:=codI_bd op
 clear hm hw hd hs hb hc
 generalize codI op=c at *
 generalize opI 192 src dst=d at *
 generalize rexL (wd == 64) src dst false=rl0 at *
 unfold RetX
 go_enter Tryz.func67,Tryz.ntmps67
 go_wp2_with fail
 refine (MY.out _).mono ?_
 rintro e w1 ⟨rfl,b1⟩
 have B1:=Lib.hid b1
 clear b1
 obtain ⟨c0_1,c1_1,c2_1,c3_1,c4_1,c5_1,c6_1,c7_1⟩:=xcells B1.out
 go_wp2_with fail
 refine (CD.out _).mono ?_
 rintro e y ⟨rfl,rfl⟩
 go_wp2_with fail
 refine (CL.out _).mono ?_
 rintro e y ⟨rfl,rfl⟩
 go_wp2_with fail
 refine (RX.out _).mono ?_
 rintro e w2 ⟨u2,rfl,o2,b2⟩
 have B2:=Lib.hid (below_call B1.out b2)
 have O2:=Lib.hid (o2.mono (size1 B1.out))
 clear o2 b2
 obtain ⟨c0_2,c1_2,c2_2,c3_2,c4_2,c5_2,c6_2,c7_2⟩:=xcells B2.out
 clear c0_1 c1_1 c2_1 c3_1 c4_1 c5_1 c6_1 c7_1
 go_wp2_with fail
 refine (DR.out _).mono ?_
 rintro e y ⟨rfl,rfl⟩
 go_wp2_with (at_builtin;refine wpList_append_b rfl _ _ rfl (W.heap.size+1) _ _ rfl (O2.out.below (below_new (Below.refl _ _) _)) _ 2 2 [c,d] rfl (made_at _ [c,d] (by intro z hz;simp at hz;omega) (by simp)) (by simp;omega) (Nat.le_trans (size1 B2.out) (by simp)) ?_)
 intro u3 w3 o3 g3
 have B3:=Lib.hid (grown1 (below_new B2.out _) g3 (fun j hj=>O2.out.lt j hj))
 have O3:=Lib.hid o3
 clear o3 g3
 obtain ⟨c0_3,c1_3,c2_3,c3_3,c4_3,c5_3,c6_3,c7_3⟩:=xcells B3.out
 clear c0_2 c1_2 c2_2 c3_2 c4_2 c5_2 c6_2 c7_2
 go_wp2_with fail
 go_ret2
 have hh:Bts W.heap.size w3 u3 (rl0 ++ [c,d]):=by have h:=O3.out.mono (Nat.le_succ _);simpa only [List.append_assoc,List.cons_append,List.nil_append] using h
 exact ⟨_,rfl,hh,below_boxed B3.out⟩
theorem eb_mul (wd dst src base disp imm cc:Int)(W:World)(hm:mayX ⟨16,wd,dst,src,base,disp,imm,cc⟩=true)(hw:-128≤wd∧wd<128)(hd:0≤dst∧dst<16)(hs:0≤src∧src<16)(hb:0≤base∧base<16):
  Calls Tryz.prog 67 #[.agg #[.int .i8 16,.int .i8 wd,.int .i8 dst,.int .i8 src,.int .i8 base,.int .i64 disp,.int .i64 imm,.int .i8 cc]] W (RetX (rexL (wd == 64) dst src false ++ [15,175,opI 192 dst src]) 0 W):=by
 have MY:=Lib.hid (fun W=>show Calls Tryz.prog 22 #[.agg #[.int .i8 16,.int .i8 wd,.int .i8 dst,.int .i8 src,.int .i8 base,.int .i64 disp,.int .i64 imm,.int .i8 cc]] W fun e w'=>e=.returned (.bool true)∧Below W.heap.size W w' by have h:=emay_n ⟨16,wd,dst,src,base,disp,imm,cc⟩ W hw;rw [hm] at h;exact h)
 have CD:=Lib.hid (fun W=>cod_is (show codI 16=0 by decide) W)
 have RX:=Lib.hid (fun W=>erex_n (wd == 64) dst src false W)
 have rl:=rexL_length (wd == 64) dst src false
 have RO:=Lib.hid (rexL_ok (wd == 64) dst src false)
 have DR:=Lib.hid (fun W=>edirect_n dst src hd hs W)
 have ob:=opI_bd (k:=192) (r:=dst) (m:=src) (.inl rfl)
 clear hm hw hd hs hb
 generalize opI 192 dst src=d at *
 generalize rexL (wd == 64) dst src false=rl0 at *
 unfold RetX
 go_enter Tryz.func67,Tryz.ntmps67
 go_wp2_with fail
 refine (MY.out _).mono ?_
 rintro e w1 ⟨rfl,b1⟩
 have B1:=Lib.hid b1
 clear b1
 obtain ⟨c0_1,c1_1,c2_1,c3_1,c4_1,c5_1,c6_1,c7_1⟩:=xcells B1.out
 go_wp2_with fail
 refine (CD.out _).mono ?_
 rintro e y ⟨rfl,rfl⟩
 go_wp2_with fail
 refine (RX.out _).mono ?_
 rintro e w2 ⟨u2,rfl,o2,b2⟩
 have B2:=Lib.hid (below_call B1.out b2)
 have O2:=Lib.hid (o2.mono (size1 B1.out))
 clear o2 b2
 obtain ⟨c0_2,c1_2,c2_2,c3_2,c4_2,c5_2,c6_2,c7_2⟩:=xcells B2.out
 clear c0_1 c1_1 c2_1 c3_1 c4_1 c5_1 c6_1 c7_1
 go_wp2_with fail
 refine (DR.out _).mono ?_
 rintro e y ⟨rfl,rfl⟩
 go_wp2_with (at_builtin;refine wpList_append_b rfl _ _ rfl (W.heap.size+1) _ _ rfl (O2.out.below (below_new (Below.refl _ _) _)) _ 3 3 [15,175,d] rfl (made_at _ [15,175,d] (by intro z hz;simp at hz;omega) (by simp)) (by simp;omega) (Nat.le_trans (size1 B2.out) (by simp)) ?_)
 intro u3 w3 o3 g3
 have B3:=Lib.hid (grown1 (below_new B2.out _) g3 (fun j hj=>O2.out.lt j hj))
 have O3:=Lib.hid o3
 clear o3 g3
 obtain ⟨c0_3,c1_3,c2_3,c3_3,c4_3,c5_3,c6_3,c7_3⟩:=xcells B3.out
 clear c0_2 c1_2 c2_2 c3_2 c4_2 c5_2 c6_2 c7_2
 go_wp2_with fail
 go_ret2
 have hh:Bts W.heap.size w3 u3 (rl0 ++ [15,175,d]):=by have h:=O3.out.mono (Nat.le_succ _);simpa only [List.append_assoc,List.cons_append,List.nil_append] using h
 exact ⟨_,rfl,hh,below_boxed B3.out⟩
theorem eb_movi64 (dst src base disp imm cc:Int)(W:World)(hm:mayX ⟨1,64,dst,src,base,disp,imm,cc⟩=true)(hw:True)(hd:0≤dst∧dst<16)(hs:0≤src∧src<16)(hb:0≤base∧base<16):
  Calls Tryz.prog 67 #[.agg #[.int .i8 1,.int .i8 64,.int .i8 dst,.int .i8 src,.int .i8 base,.int .i64 disp,.int .i64 imm,.int .i8 cc]] W (RetX ((rexL true 0 dst false ++ [199,opI 192 0 dst]) ++ numL imm 4) 0 W):=by
 have MY:=Lib.hid (fun W=>show Calls Tryz.prog 22 #[.agg #[.int .i8 1,.int .i8 64,.int .i8 dst,.int .i8 src,.int .i8 base,.int .i64 disp,.int .i64 imm,.int .i8 cc]] W fun e w'=>e=.returned (.bool true)∧Below W.heap.size W w' by have h:=emay_n ⟨1,64,dst,src,base,disp,imm,cc⟩ W ⟨by show (-128:Int)≤64;decide,by show (64:Int)<128;decide⟩;rw [hm] at h;exact h)
 have CD:=Lib.hid (fun W=>cod_is (show codI 1=0 by decide) W)
 have CL:=Lib.hid (fun W=>cls_is (show clsI 1=2 by decide) W)
 have RX:=Lib.hid (fun W=>erex_n true 0 dst false W)
 have rl:=rexL_length true 0 dst false
 have RO:=Lib.hid (rexL_ok true 0 dst false)
 have DR:=Lib.hid (fun W=>edirect_n 0 dst (by decide) hd W)
 have ob:=opI_bd (k:=192) (r:=0) (m:=dst) (.inl rfl)
 have PT:=Lib.hid (fun W=>put4_n imm W)
 have NO:=Lib.hid (numL_ok imm 4)
 have NL:=Lib.hid (numL_length imm 4)
 clear hm hw hd hs hb
 generalize opI 192 0 dst=d at *
 generalize numL imm 4=nl at *
 generalize rexL true 0 dst false=rl0 at *
 unfold RetX
 go_enter Tryz.func67,Tryz.ntmps67
 go_wp2_with fail
 refine (MY.out _).mono ?_
 rintro e w1 ⟨rfl,b1⟩
 have B1:=Lib.hid b1
 clear b1
 obtain ⟨c0_1,c1_1,c2_1,c3_1,c4_1,c5_1,c6_1,c7_1⟩:=xcells B1.out
 go_wp2_with fail
 refine (CD.out _).mono ?_
 rintro e y ⟨rfl,rfl⟩
 go_wp2_with fail
 refine (CL.out _).mono ?_
 rintro e y ⟨rfl,rfl⟩
 go_wp2_with fail
 refine (RX.out _).mono ?_
 rintro e w2 ⟨u2,rfl,o2,b2⟩
 have B2:=Lib.hid (below_call B1.out b2)
 have O2:=Lib.hid (o2.mono (size1 B1.out))
 clear o2 b2
 obtain ⟨c0_2,c1_2,c2_2,c3_2,c4_2,c5_2,c6_2,c7_2⟩:=xcells B2.out
 clear c0_1 c1_1 c2_1 c3_1 c4_1 c5_1 c6_1 c7_1
 go_wp2_with fail
 refine (DR.out _).mono ?_
 rintro e y ⟨rfl,rfl⟩
 go_wp2_with (at_builtin;refine wpList_append_b rfl _ _ rfl (W.heap.size+1) _ _ rfl (O2.out.below (below_new (Below.refl _ _) _)) _ 2 2 [199,d] rfl (made_at _ [199,d] (by intro z hz;simp at hz;omega) (by simp)) (by simp;omega) (Nat.le_trans (size1 B2.out) (by simp)) ?_)
 intro u3 w3 o3 g3
 have B3:=Lib.hid (grown1 (below_new B2.out _) g3 (fun j hj=>O2.out.lt j hj))
 have O3:=Lib.hid o3
 clear o3 g3
 obtain ⟨c0_3,c1_3,c2_3,c3_3,c4_3,c5_3,c6_3,c7_3⟩:=xcells B3.out
 clear c0_2 c1_2 c2_2 c3_2 c4_2 c5_2 c6_2 c7_2
 go_wp2_with fail
 refine (PT.out _).mono ?_
 rintro e w4 ⟨u4,rfl,o4,b4⟩
 have B4:=Lib.hid (below_call B3.out b4)
 have K4:=Lib.hid (O3.out.below b4)
 have O4:=Lib.hid (o4.mono (size1 B3.out))
 clear o4 b4
 obtain ⟨c0_4,c1_4,c2_4,c3_4,c4_4,c5_4,c6_4,c7_4⟩:=xcells B4.out
 clear c0_3 c1_3 c2_3 c3_3 c4_3 c5_3 c6_3 c7_3
 obtain ⟨xa4,xc4,rfl,e4⟩:=O4.out.at NO.out
 have E4:=Lib.hid e4
 clear e4
 go_wp2_with (at_builtin;refine wpList_append_b rfl _ _ rfl (W.heap.size+1) _ _ rfl (K4.out) _ _ _ _ rfl E4.out (by have:=NL.out;simp;omega) (size1 B4.out) ?_)
 intro u5 w5 o5 g5
 have B5:=Lib.hid (grown1 (B4.out) g5 (fun j hj=>K4.out.lt j hj))
 have O5:=Lib.hid o5
 clear o5 g5
 obtain ⟨c0_5,c1_5,c2_5,c3_5,c4_5,c5_5,c6_5,c7_5⟩:=xcells B5.out
 clear c0_4 c1_4 c2_4 c3_4 c4_4 c5_4 c6_4 c7_4
 go_wp2_with fail
 go_ret2
 have hh:Bts W.heap.size w5 u5 ((rl0 ++ [199,d]) ++ nl):=by have h:=O5.out.mono (Nat.le_succ _);simpa only [List.append_assoc,List.cons_append,List.nil_append] using h
 exact ⟨_,rfl,hh,below_boxed B5.out⟩
theorem eb_movi32 (dst src base disp imm cc:Int)(W:World)(hm:mayX ⟨1,32,dst,src,base,disp,imm,cc⟩=true)(hw:True)(hd:0≤dst∧dst<16)(hs:0≤src∧src<16)(hb:0≤base∧base<16):
  Calls Tryz.prog 67 #[.agg #[.int .i8 1,.int .i8 32,.int .i8 dst,.int .i8 src,.int .i8 base,.int .i64 disp,.int .i64 imm,.int .i8 cc]] W (RetX ((rexL false 0 dst false ++ [184+dst % 8]) ++ numL imm 4) 0 W):=by
 have MY:=Lib.hid (fun W=>show Calls Tryz.prog 22 #[.agg #[.int .i8 1,.int .i8 32,.int .i8 dst,.int .i8 src,.int .i8 base,.int .i64 disp,.int .i64 imm,.int .i8 cc]] W fun e w'=>e=.returned (.bool true)∧Below W.heap.size W w' by have h:=emay_n ⟨1,32,dst,src,base,disp,imm,cc⟩ W ⟨by show (-128:Int)≤32;decide,by show (32:Int)<128;decide⟩;rw [hm] at h;exact h)
 have CD:=Lib.hid (fun W=>cod_is (show codI 1=0 by decide) W)
 have CL:=Lib.hid (fun W=>cls_is (show clsI 1=2 by decide) W)
 have RX:=Lib.hid (fun W=>erex_n false 0 dst false W)
 have rl:=rexL_length false 0 dst false
 have RO:=Lib.hid (rexL_ok false 0 dst false)
 have PT:=Lib.hid (fun W=>put4_n imm W)
 have NO:=Lib.hid (numL_ok imm 4)
 have NL:=Lib.hid (numL_length imm 4)
 have e7:=and7c hd
 clear hm hw hs hb
 generalize numL imm 4=nl at *
 generalize rexL false 0 dst false=rl0 at *
 generalize hD:dst % 8=d8 at *
 have d81:0≤d8:=by omega
 have d82:d8<8:=by omega
 clear hD hd
 unfold RetX
 go_enter Tryz.func67,Tryz.ntmps67
 go_wp2_with fail
 refine (MY.out _).mono ?_
 rintro e w1 ⟨rfl,b1⟩
 have B1:=Lib.hid b1
 clear b1
 obtain ⟨c0_1,c1_1,c2_1,c3_1,c4_1,c5_1,c6_1,c7_1⟩:=xcells B1.out
 go_wp2_with fail
 refine (CD.out _).mono ?_
 rintro e y ⟨rfl,rfl⟩
 go_wp2_with fail
 refine (CL.out _).mono ?_
 rintro e y ⟨rfl,rfl⟩
 go_wp2_with fail
 refine (RX.out _).mono ?_
 rintro e w2 ⟨u2,rfl,o2,b2⟩
 have B2:=Lib.hid (below_call B1.out b2)
 have O2:=Lib.hid (o2.mono (size1 B1.out))
 clear o2 b2
 obtain ⟨c0_2,c1_2,c2_2,c3_2,c4_2,c5_2,c6_2,c7_2⟩:=xcells B2.out
 clear c0_1 c1_1 c2_1 c3_1 c4_1 c5_1 c6_1 c7_1
 go_wp2_with (at_builtin;refine wpList_append_b rfl _ _ rfl (W.heap.size+1) _ _ rfl (O2.out.below (below_new (Below.refl _ _) _)) _ 1 1 [184+d8] rfl (made_at _ [184+d8] (by intro z hz;simp at hz;omega) (by simp)) (by simp;omega) (Nat.le_trans (size1 B2.out) (by simp)) ?_)
 intro u3 w3 o3 g3
 have B3:=Lib.hid (grown1 (below_new B2.out _) g3 (fun j hj=>O2.out.lt j hj))
 have O3:=Lib.hid o3
 clear o3 g3
 obtain ⟨c0_3,c1_3,c2_3,c3_3,c4_3,c5_3,c6_3,c7_3⟩:=xcells B3.out
 clear c0_2 c1_2 c2_2 c3_2 c4_2 c5_2 c6_2 c7_2
 go_wp2_with fail
 refine (PT.out _).mono ?_
 rintro e w4 ⟨u4,rfl,o4,b4⟩
 have B4:=Lib.hid (below_call B3.out b4)
 have K4:=Lib.hid (O3.out.below b4)
 have O4:=Lib.hid (o4.mono (size1 B3.out))
 clear o4 b4
 obtain ⟨c0_4,c1_4,c2_4,c3_4,c4_4,c5_4,c6_4,c7_4⟩:=xcells B4.out
 clear c0_3 c1_3 c2_3 c3_3 c4_3 c5_3 c6_3 c7_3
 obtain ⟨xa4,xc4,rfl,e4⟩:=O4.out.at NO.out
 have E4:=Lib.hid e4
 clear e4
 go_wp2_with (at_builtin;refine wpList_append_b rfl _ _ rfl (W.heap.size+1) _ _ rfl (K4.out) _ _ _ _ rfl E4.out (by have:=NL.out;simp;omega) (size1 B4.out) ?_)
 intro u5 w5 o5 g5
 have B5:=Lib.hid (grown1 (B4.out) g5 (fun j hj=>K4.out.lt j hj))
 have O5:=Lib.hid o5
 clear o5 g5
 obtain ⟨c0_5,c1_5,c2_5,c3_5,c4_5,c5_5,c6_5,c7_5⟩:=xcells B5.out
 clear c0_4 c1_4 c2_4 c3_4 c4_4 c5_4 c6_4 c7_4
 go_wp2_with fail
 go_ret2
 have hh:Bts W.heap.size w5 u5 ((rl0 ++ [184+d8]) ++ nl):=by have h:=O5.out.mono (Nat.le_succ _);simpa only [List.append_assoc,List.cons_append,List.nil_append] using h
 exact ⟨_,rfl,hh,below_boxed B5.out⟩
theorem eb_testi (wd dst src base disp imm cc:Int)(W:World)(hm:mayX ⟨15,wd,dst,src,base,disp,imm,cc⟩=true)(hw:-128≤wd∧wd<128)(hd:0≤dst∧dst<16)(hs:0≤src∧src<16)(hb:0≤base∧base<16):
  Calls Tryz.prog 67 #[.agg #[.int .i8 15,.int .i8 wd,.int .i8 dst,.int .i8 src,.int .i8 base,.int .i64 disp,.int .i64 imm,.int .i8 cc]] W (RetX (((rexL (wd == 64) 0 dst false ++ [247]) ++ [opI 192 0 dst]) ++ numL imm 4) 0 W):=by
 have MY:=Lib.hid (fun W=>show Calls Tryz.prog 22 #[.agg #[.int .i8 15,.int .i8 wd,.int .i8 dst,.int .i8 src,.int .i8 base,.int .i64 disp,.int .i64 imm,.int .i8 cc]] W fun e w'=>e=.returned (.bool true)∧Below W.heap.size W w' by have h:=emay_n ⟨15,wd,dst,src,base,disp,imm,cc⟩ W hw;rw [hm] at h;exact h)
 have CD:=Lib.hid (fun W=>cod_is (show codI 15=0 by decide) W)
 have CL:=Lib.hid (fun W=>cls_is (show clsI 15=2 by decide) W)
 have RX:=Lib.hid (fun W=>erex_n (wd == 64) 0 dst false W)
 have rl:=rexL_length (wd == 64) 0 dst false
 have RO:=Lib.hid (rexL_ok (wd == 64) 0 dst false)
 have DR:=Lib.hid (fun W=>edirect_n 0 dst (by decide) hd W)
 have ob:=opI_bd (k:=192) (r:=0) (m:=dst) (.inl rfl)
 have PT:=Lib.hid (fun W=>put4_n imm W)
 have NO:=Lib.hid (numL_ok imm 4)
 have NL:=Lib.hid (numL_length imm 4)
 clear hm hw hd hs hb
 generalize opI 192 0 dst=d at *
 generalize numL imm 4=nl at *
 generalize rexL (wd == 64) 0 dst false=rl0 at *
 unfold RetX
 go_enter Tryz.func67,Tryz.ntmps67
 go_wp2_with fail
 refine (MY.out _).mono ?_
 rintro e w1 ⟨rfl,b1⟩
 have B1:=Lib.hid b1
 clear b1
 obtain ⟨c0_1,c1_1,c2_1,c3_1,c4_1,c5_1,c6_1,c7_1⟩:=xcells B1.out
 go_wp2_with fail
 refine (CD.out _).mono ?_
 rintro e y ⟨rfl,rfl⟩
 go_wp2_with fail
 refine (CL.out _).mono ?_
 rintro e y ⟨rfl,rfl⟩
 go_wp2_with fail
 refine (CL.out _).mono ?_
 rintro e y ⟨rfl,rfl⟩
 go_wp2_with fail
 refine (RX.out _).mono ?_
 rintro e w2 ⟨u2,rfl,o2,b2⟩
 have B2:=Lib.hid (below_call B1.out b2)
 have O2:=Lib.hid (o2.mono (size1 B1.out))
 clear o2 b2
 obtain ⟨c0_2,c1_2,c2_2,c3_2,c4_2,c5_2,c6_2,c7_2⟩:=xcells B2.out
 clear c0_1 c1_1 c2_1 c3_1 c4_1 c5_1 c6_1 c7_1
 go_wp2_with (at_builtin;refine wpList_append_b rfl _ _ rfl (W.heap.size+1) _ _ rfl (O2.out.below (below_new (Below.refl _ _) _)) _ 1 1 [247] rfl (made_at _ [247] (by intro z hz;simp at hz;omega) (by simp)) (by simp;omega) (Nat.le_trans (size1 B2.out) (by simp)) ?_)
 intro u3 w3 o3 g3
 have B3:=Lib.hid (grown1 (below_new B2.out _) g3 (fun j hj=>O2.out.lt j hj))
 have O3:=Lib.hid o3
 clear o3 g3
 obtain ⟨c0_3,c1_3,c2_3,c3_3,c4_3,c5_3,c6_3,c7_3⟩:=xcells B3.out
 clear c0_2 c1_2 c2_2 c3_2 c4_2 c5_2 c6_2 c7_2
 go_wp2_with fail
 refine (DR.out _).mono ?_
 rintro e y ⟨rfl,rfl⟩
 go_wp2_with (at_builtin;refine wpList_append_b rfl _ _ rfl (W.heap.size+1) _ _ rfl (O3.out.below (below_new (Below.refl _ _) _)) _ 1 1 [d] rfl (made_at _ [d] (by intro z hz;simp at hz;omega) (by simp)) (by simp;omega) (Nat.le_trans (size1 B3.out) (by simp)) ?_)
 intro u4 w4 o4 g4
 have B4:=Lib.hid (grown1 (below_new B3.out _) g4 (fun j hj=>O3.out.lt j hj))
 have O4:=Lib.hid o4
 clear o4 g4
 obtain ⟨c0_4,c1_4,c2_4,c3_4,c4_4,c5_4,c6_4,c7_4⟩:=xcells B4.out
 clear c0_3 c1_3 c2_3 c3_3 c4_3 c5_3 c6_3 c7_3
 go_wp2_with fail
 refine (PT.out _).mono ?_
 rintro e w5 ⟨u5,rfl,o5,b5⟩
 have B5:=Lib.hid (below_call B4.out b5)
 have K5:=Lib.hid (O4.out.below b5)
 have O5:=Lib.hid (o5.mono (size1 B4.out))
 clear o5 b5
 obtain ⟨c0_5,c1_5,c2_5,c3_5,c4_5,c5_5,c6_5,c7_5⟩:=xcells B5.out
 clear c0_4 c1_4 c2_4 c3_4 c4_4 c5_4 c6_4 c7_4
 obtain ⟨xa5,xc5,rfl,e5⟩:=O5.out.at NO.out
 have E5:=Lib.hid e5
 clear e5
 go_wp2_with (at_builtin;refine wpList_append_b rfl _ _ rfl (W.heap.size+1) _ _ rfl (K5.out) _ _ _ _ rfl E5.out (by have:=NL.out;simp;omega) (size1 B5.out) ?_)
 intro u6 w6 o6 g6
 have B6:=Lib.hid (grown1 (B5.out) g6 (fun j hj=>K5.out.lt j hj))
 have O6:=Lib.hid o6
 clear o6 g6
 obtain ⟨c0_6,c1_6,c2_6,c3_6,c4_6,c5_6,c6_6,c7_6⟩:=xcells B6.out
 clear c0_5 c1_5 c2_5 c3_5 c4_5 c5_5 c6_5 c7_5
 go_wp2_with fail
 go_ret2
 have hh:Bts W.heap.size w6 u6 (((rl0 ++ [247]) ++ [d]) ++ nl):=by have h:=O6.out.mono (Nat.le_succ _);simpa only [List.append_assoc,List.cons_append,List.nil_append] using h
 exact ⟨_,rfl,hh,below_boxed B6.out⟩
theorem eb_c2 (op wd dst src base disp imm cc:Int)(W:World)(hm:mayX ⟨op,wd,dst,src,base,disp,imm,cc⟩=true)(hw:-128≤wd∧wd<128)(hd:0≤dst∧dst<16)(hs:0≤src∧src<16)(hb:0≤base∧base<16)(hc:clsI op=2)(h16:(op == 16)=false)(h1:(op == 1)=false)(h15:(op == 15)=false):
  Calls Tryz.prog 67 #[.agg #[.int .i8 op,.int .i8 wd,.int .i8 dst,.int .i8 src,.int .i8 base,.int .i64 disp,.int .i64 imm,.int .i8 cc]] W (RetX (((rexL (wd == 64) 0 dst false ++ [129]) ++ [opI 192 (codI op) dst]) ++ numL imm 4) 0 W):=by
 have MY:=Lib.hid (fun W=>show Calls Tryz.prog 22 #[.agg #[.int .i8 op,.int .i8 wd,.int .i8 dst,.int .i8 src,.int .i8 base,.int .i64 disp,.int .i64 imm,.int .i8 cc]] W fun e w'=>e=.returned (.bool true)∧Below W.heap.size W w' by have h:=emay_n ⟨op,wd,dst,src,base,disp,imm,cc⟩ W hw;rw [hm] at h;exact h)
 have CD:=Lib.hid (fun W=>cod_n op W)
 have CL:=Lib.hid (fun W=>cls_is hc W)
 have RX:=Lib.hid (fun W=>erex_n (wd == 64) 0 dst false W)
 have rl:=rexL_length (wd == 64) 0 dst false
 have RO:=Lib.hid (rexL_ok (wd == 64) 0 dst false)
 have PT:=Lib.hid (fun W=>put4_n imm W)
 have NO:=Lib.hid (numL_ok imm 4)
 have NL:=Lib.hid (numL_length imm 4)
 have cb:=codI_bd op
 have c0:=cb.1
 have c1:codI op<16:=cb.2.2 (by rw [hc];decide)
 clear cb
 have DR:=Lib.hid (fun W=>edirect_n (codI op) dst ⟨c0,c1⟩ hd W)
 have ob:=opI_bd (k:=192) (r:=codI op) (m:=dst) (.inl rfl)
 clear hm hw hd hs hb hc
 generalize opI 192 (codI op) dst=d at *
 generalize codI op=c at *
 generalize numL imm 4=nl at *
 generalize rexL (wd == 64) 0 dst false=rl0 at *
 unfold RetX
 go_enter Tryz.func67,Tryz.ntmps67
 go_wp2_with fail
 refine (MY.out _).mono ?_
 rintro e w1 ⟨rfl,b1⟩
 have B1:=Lib.hid b1
 clear b1
 obtain ⟨c0_1,c1_1,c2_1,c3_1,c4_1,c5_1,c6_1,c7_1⟩:=xcells B1.out
 go_wp2_with fail
 refine (CD.out _).mono ?_
 rintro e y ⟨rfl,rfl⟩
 go_wp2_with fail
 refine (CL.out _).mono ?_
 rintro e y ⟨rfl,rfl⟩
 go_wp2_with fail
 refine (CL.out _).mono ?_
 rintro e y ⟨rfl,rfl⟩
 go_wp2_with fail
 refine (RX.out _).mono ?_
 rintro e w2 ⟨u2,rfl,o2,b2⟩
 have B2:=Lib.hid (below_call B1.out b2)
 have O2:=Lib.hid (o2.mono (size1 B1.out))
 clear o2 b2
 obtain ⟨c0_2,c1_2,c2_2,c3_2,c4_2,c5_2,c6_2,c7_2⟩:=xcells B2.out
 clear c0_1 c1_1 c2_1 c3_1 c4_1 c5_1 c6_1 c7_1
 go_wp2_with (at_builtin;refine wpList_append_b rfl _ _ rfl (W.heap.size+1) _ _ rfl (O2.out.below (below_new (Below.refl _ _) _)) _ 1 1 [129] rfl (made_at _ [129] (by intro z hz;simp at hz;omega) (by simp)) (by simp;omega) (Nat.le_trans (size1 B2.out) (by simp)) ?_)
 intro u3 w3 o3 g3
 have B3:=Lib.hid (grown1 (below_new B2.out _) g3 (fun j hj=>O2.out.lt j hj))
 have O3:=Lib.hid o3
 clear o3 g3
 obtain ⟨c0_3,c1_3,c2_3,c3_3,c4_3,c5_3,c6_3,c7_3⟩:=xcells B3.out
 clear c0_2 c1_2 c2_2 c3_2 c4_2 c5_2 c6_2 c7_2
 go_wp2_with fail
 refine (DR.out _).mono ?_
 rintro e y ⟨rfl,rfl⟩
 go_wp2_with (at_builtin;refine wpList_append_b rfl _ _ rfl (W.heap.size+1) _ _ rfl (O3.out.below (below_new (Below.refl _ _) _)) _ 1 1 [d] rfl (made_at _ [d] (by intro z hz;simp at hz;omega) (by simp)) (by simp;omega) (Nat.le_trans (size1 B3.out) (by simp)) ?_)
 intro u4 w4 o4 g4
 have B4:=Lib.hid (grown1 (below_new B3.out _) g4 (fun j hj=>O3.out.lt j hj))
 have O4:=Lib.hid o4
 clear o4 g4
 obtain ⟨c0_4,c1_4,c2_4,c3_4,c4_4,c5_4,c6_4,c7_4⟩:=xcells B4.out
 clear c0_3 c1_3 c2_3 c3_3 c4_3 c5_3 c6_3 c7_3
 go_wp2_with fail
 refine (PT.out _).mono ?_
 rintro e w5 ⟨u5,rfl,o5,b5⟩
 have B5:=Lib.hid (below_call B4.out b5)
 have K5:=Lib.hid (O4.out.below b5)
 have O5:=Lib.hid (o5.mono (size1 B4.out))
 clear o5 b5
 obtain ⟨c0_5,c1_5,c2_5,c3_5,c4_5,c5_5,c6_5,c7_5⟩:=xcells B5.out
 clear c0_4 c1_4 c2_4 c3_4 c4_4 c5_4 c6_4 c7_4
 obtain ⟨xa5,xc5,rfl,e5⟩:=O5.out.at NO.out
 have E5:=Lib.hid e5
 clear e5
 go_wp2_with (at_builtin;refine wpList_append_b rfl _ _ rfl (W.heap.size+1) _ _ rfl (K5.out) _ _ _ _ rfl E5.out (by have:=NL.out;simp;omega) (size1 B5.out) ?_)
 intro u6 w6 o6 g6
 have B6:=Lib.hid (grown1 (B5.out) g6 (fun j hj=>K5.out.lt j hj))
 have O6:=Lib.hid o6
 clear o6 g6
 obtain ⟨c0_6,c1_6,c2_6,c3_6,c4_6,c5_6,c6_6,c7_6⟩:=xcells B6.out
 clear c0_5 c1_5 c2_5 c3_5 c4_5 c5_5 c6_5 c7_5
 go_wp2_with fail
 go_ret2
 have hh:Bts W.heap.size w6 u6 (((rl0 ++ [129]) ++ [d]) ++ nl):=by have h:=O6.out.mono (Nat.le_succ _);simpa only [List.append_assoc,List.cons_append,List.nil_append] using h
 exact ⟨_,rfl,hh,below_boxed B6.out⟩
theorem eb_n23 (wd dst src base disp imm cc:Int)(W:World)(hm:mayX ⟨23,wd,dst,src,base,disp,imm,cc⟩=true)(hw:-128≤wd∧wd<128)(hd:0≤dst∧dst<16)(hs:0≤src∧src<16)(hb:0≤base∧base<16):
  Calls Tryz.prog 67 #[.agg #[.int .i8 23,.int .i8 wd,.int .i8 dst,.int .i8 src,.int .i8 base,.int .i64 disp,.int .i64 imm,.int .i8 cc]] W (RetX (rexL (wd == 64) 0 dst false ++ [247,opI 192 3 dst]) 0 W):=by
 have MY:=Lib.hid (fun W=>show Calls Tryz.prog 22 #[.agg #[.int .i8 23,.int .i8 wd,.int .i8 dst,.int .i8 src,.int .i8 base,.int .i64 disp,.int .i64 imm,.int .i8 cc]] W fun e w'=>e=.returned (.bool true)∧Below W.heap.size W w' by have h:=emay_n ⟨23,wd,dst,src,base,disp,imm,cc⟩ W hw;rw [hm] at h;exact h)
 have CD:=Lib.hid (fun W=>cod_is (show codI 23=3 by decide) W)
 have CL:=Lib.hid (fun W=>cls_is (show clsI 23=4 by decide) W)
 have RX:=Lib.hid (fun W=>erex_n (wd == 64) 0 dst false W)
 have rl:=rexL_length (wd == 64) 0 dst false
 have RO:=Lib.hid (rexL_ok (wd == 64) 0 dst false)
 have DR:=Lib.hid (fun W=>edirect_n 3 dst (by decide) hd W)
 have ob:=opI_bd (k:=192) (r:=3) (m:=dst) (.inl rfl)
 clear hm hw hd hs hb
 generalize opI 192 3 dst=d at *
 generalize rexL (wd == 64) 0 dst false=rl0 at *
 unfold RetX
 go_enter Tryz.func67,Tryz.ntmps67
 go_wp2_with fail
 refine (MY.out _).mono ?_
 rintro e w1 ⟨rfl,b1⟩
 have B1:=Lib.hid b1
 clear b1
 obtain ⟨c0_1,c1_1,c2_1,c3_1,c4_1,c5_1,c6_1,c7_1⟩:=xcells B1.out
 go_wp2_with fail
 refine (CD.out _).mono ?_
 rintro e y ⟨rfl,rfl⟩
 go_wp2_with fail
 refine (CL.out _).mono ?_
 rintro e y ⟨rfl,rfl⟩
 go_wp2_with fail
 refine (CL.out _).mono ?_
 rintro e y ⟨rfl,rfl⟩
 go_wp2_with fail
 refine (CL.out _).mono ?_
 rintro e y ⟨rfl,rfl⟩
 go_wp2_with fail
 refine (CL.out _).mono ?_
 rintro e y ⟨rfl,rfl⟩
 go_wp2_with fail
 refine (RX.out _).mono ?_
 rintro e w2 ⟨u2,rfl,o2,b2⟩
 have B2:=Lib.hid (below_call B1.out b2)
 have O2:=Lib.hid (o2.mono (size1 B1.out))
 clear o2 b2
 obtain ⟨c0_2,c1_2,c2_2,c3_2,c4_2,c5_2,c6_2,c7_2⟩:=xcells B2.out
 clear c0_1 c1_1 c2_1 c3_1 c4_1 c5_1 c6_1 c7_1
 go_wp2_with fail
 refine (DR.out _).mono ?_
 rintro e y ⟨rfl,rfl⟩
 go_wp2_with (at_builtin;refine wpList_append_b rfl _ _ rfl (W.heap.size+1) _ _ rfl (O2.out.below (below_new (Below.refl _ _) _)) _ 2 2 [247,d] rfl (made_at _ [247,d] (by intro z hz;simp at hz;omega) (by simp)) (by simp;omega) (Nat.le_trans (size1 B2.out) (by simp)) ?_)
 intro u3 w3 o3 g3
 have B3:=Lib.hid (grown1 (below_new B2.out _) g3 (fun j hj=>O2.out.lt j hj))
 have O3:=Lib.hid o3
 clear o3 g3
 obtain ⟨c0_3,c1_3,c2_3,c3_3,c4_3,c5_3,c6_3,c7_3⟩:=xcells B3.out
 clear c0_2 c1_2 c2_2 c3_2 c4_2 c5_2 c6_2 c7_2
 go_wp2_with fail
 go_ret2
 have hh:Bts W.heap.size w3 u3 (rl0 ++ [247,d]):=by have h:=O3.out.mono (Nat.le_succ _);simpa only [List.append_assoc,List.cons_append,List.nil_append] using h
 exact ⟨_,rfl,hh,below_boxed B3.out⟩
theorem eb_n24 (wd dst src base disp imm cc:Int)(W:World)(hm:mayX ⟨24,wd,dst,src,base,disp,imm,cc⟩=true)(hw:-128≤wd∧wd<128)(hd:0≤dst∧dst<16)(hs:0≤src∧src<16)(hb:0≤base∧base<16):
  Calls Tryz.prog 67 #[.agg #[.int .i8 24,.int .i8 wd,.int .i8 dst,.int .i8 src,.int .i8 base,.int .i64 disp,.int .i64 imm,.int .i8 cc]] W (RetX (rexL (wd == 64) 0 dst false ++ [247,opI 192 6 dst]) 0 W):=by
 have MY:=Lib.hid (fun W=>show Calls Tryz.prog 22 #[.agg #[.int .i8 24,.int .i8 wd,.int .i8 dst,.int .i8 src,.int .i8 base,.int .i64 disp,.int .i64 imm,.int .i8 cc]] W fun e w'=>e=.returned (.bool true)∧Below W.heap.size W w' by have h:=emay_n ⟨24,wd,dst,src,base,disp,imm,cc⟩ W hw;rw [hm] at h;exact h)
 have CD:=Lib.hid (fun W=>cod_is (show codI 24=6 by decide) W)
 have CL:=Lib.hid (fun W=>cls_is (show clsI 24=4 by decide) W)
 have RX:=Lib.hid (fun W=>erex_n (wd == 64) 0 dst false W)
 have rl:=rexL_length (wd == 64) 0 dst false
 have RO:=Lib.hid (rexL_ok (wd == 64) 0 dst false)
 have DR:=Lib.hid (fun W=>edirect_n 6 dst (by decide) hd W)
 have ob:=opI_bd (k:=192) (r:=6) (m:=dst) (.inl rfl)
 clear hm hw hd hs hb
 generalize opI 192 6 dst=d at *
 generalize rexL (wd == 64) 0 dst false=rl0 at *
 unfold RetX
 go_enter Tryz.func67,Tryz.ntmps67
 go_wp2_with fail
 refine (MY.out _).mono ?_
 rintro e w1 ⟨rfl,b1⟩
 have B1:=Lib.hid b1
 clear b1
 obtain ⟨c0_1,c1_1,c2_1,c3_1,c4_1,c5_1,c6_1,c7_1⟩:=xcells B1.out
 go_wp2_with fail
 refine (CD.out _).mono ?_
 rintro e y ⟨rfl,rfl⟩
 go_wp2_with fail
 refine (CL.out _).mono ?_
 rintro e y ⟨rfl,rfl⟩
 go_wp2_with fail
 refine (CL.out _).mono ?_
 rintro e y ⟨rfl,rfl⟩
 go_wp2_with fail
 refine (CL.out _).mono ?_
 rintro e y ⟨rfl,rfl⟩
 go_wp2_with fail
 refine (CL.out _).mono ?_
 rintro e y ⟨rfl,rfl⟩
 go_wp2_with fail
 refine (RX.out _).mono ?_
 rintro e w2 ⟨u2,rfl,o2,b2⟩
 have B2:=Lib.hid (below_call B1.out b2)
 have O2:=Lib.hid (o2.mono (size1 B1.out))
 clear o2 b2
 obtain ⟨c0_2,c1_2,c2_2,c3_2,c4_2,c5_2,c6_2,c7_2⟩:=xcells B2.out
 clear c0_1 c1_1 c2_1 c3_1 c4_1 c5_1 c6_1 c7_1
 go_wp2_with fail
 refine (DR.out _).mono ?_
 rintro e y ⟨rfl,rfl⟩
 go_wp2_with (at_builtin;refine wpList_append_b rfl _ _ rfl (W.heap.size+1) _ _ rfl (O2.out.below (below_new (Below.refl _ _) _)) _ 2 2 [247,d] rfl (made_at _ [247,d] (by intro z hz;simp at hz;omega) (by simp)) (by simp;omega) (Nat.le_trans (size1 B2.out) (by simp)) ?_)
 intro u3 w3 o3 g3
 have B3:=Lib.hid (grown1 (below_new B2.out _) g3 (fun j hj=>O2.out.lt j hj))
 have O3:=Lib.hid o3
 clear o3 g3
 obtain ⟨c0_3,c1_3,c2_3,c3_3,c4_3,c5_3,c6_3,c7_3⟩:=xcells B3.out
 clear c0_2 c1_2 c2_2 c3_2 c4_2 c5_2 c6_2 c7_2
 go_wp2_with fail
 go_ret2
 have hh:Bts W.heap.size w3 u3 (rl0 ++ [247,d]):=by have h:=O3.out.mono (Nat.le_succ _);simpa only [List.append_assoc,List.cons_append,List.nil_append] using h
 exact ⟨_,rfl,hh,below_boxed B3.out⟩
end Go.Proofs.YtjhedldplmhmjaaGreatDoor.Mrm
