import Derived.Test.YtjhedldplmhmjaaGreatDoorETe09
import Derived.Deep.RegionLaw
set_option maxHeartbeats 4000000
set_option linter.unusedVariables false
set_option linter.unusedSimpArgs false
set_option linter.unnecessarySimpa false
namespace Go.Proofs.YtjhedldplmhmjaaGreatDoor.Mrm
open Go Go.RowKit
set_option maxRecDepth 100000
theorem eb_c4 (op wd dst src base disp imm cc:Int)(W:World)(hm:mayX ⟨op,wd,dst,src,base,disp,imm,cc⟩=true)(hw:-128≤wd∧wd<128)(hd:0≤dst∧dst<16)(hs:0≤src∧src<16)(hb:0≤base∧base<16)(hc:clsI op=4)(h16:(op == 16)=false)(h1:(op == 1)=false)(h23:(op == 23)=false)(h24:(op == 24)=false):
  Calls Tryz.prog 67 #[.agg #[.int .i8 op,.int .i8 wd,.int .i8 dst,.int .i8 src,.int .i8 base,.int .i64 disp,.int .i64 imm,.int .i8 cc]] W (RetX (rexL (wd == 64) 0 dst false ++ [211,opI 192 (codI op) dst]) 0 W):=by
 have MY:=Lib.hid (fun W=>show Calls Tryz.prog 22 #[.agg #[.int .i8 op,.int .i8 wd,.int .i8 dst,.int .i8 src,.int .i8 base,.int .i64 disp,.int .i64 imm,.int .i8 cc]] W fun e w'=>e=.returned (.bool true)∧Below W.heap.size W w' by have h:=emay_n ⟨op,wd,dst,src,base,disp,imm,cc⟩ W hw;rw [hm] at h;exact h)
 have CD:=Lib.hid (fun W=>cod_n op W)
 have CL:=Lib.hid (fun W=>cls_is hc W)
 have RX:=Lib.hid (fun W=>erex_n (wd == 64) 0 dst false W)
 have rl:=rexL_length (wd == 64) 0 dst false
 have RO:=Lib.hid (rexL_ok (wd == 64) 0 dst false)
 have cb:=codI_bd op
 have c0:=cb.1
 have c1:codI op<16:=cb.2.2 (by rw [hc];decide)
 clear cb
 have DR:=Lib.hid (fun W=>edirect_n (codI op) dst ⟨c0,c1⟩ hd W)
 have ob:=opI_bd (k:=192) (r:=codI op) (m:=dst) (.inl rfl)
 clear hm hw hd hs hb hc
 generalize opI 192 (codI op) dst=d at *
 generalize codI op=c at *
 generalize rexL (wd == 64) 0 dst false=rl0 at *
 unfold RetX
 go_enter Tryz.func67,Tryz.ntmps67
 go_wp2_with fail
 refine (MY.out _).mono ?_
 rintro e w1 ⟨rfl,b1⟩
 have B1:=Lib.hid b1
 clear b1
 obtain ⟨c0_1,c1_1,c2_1,c3_1,c4_1,c5_1,c6_1,c7_1⟩:=xcells B1.out
 go_wp2_with fail
 refine (CD.out _).mono ?_
 rintro e y ⟨rfl,rfl⟩
 go_wp2_with fail
 refine (CL.out _).mono ?_
 rintro e y ⟨rfl,rfl⟩
 go_wp2_with fail
 refine (CL.out _).mono ?_
 rintro e y ⟨rfl,rfl⟩
 go_wp2_with fail
 refine (CL.out _).mono ?_
 rintro e y ⟨rfl,rfl⟩
 go_wp2_with fail
 refine (CL.out _).mono ?_
 rintro e y ⟨rfl,rfl⟩
 go_wp2_with fail
 refine (RX.out _).mono ?_
 rintro e w2 ⟨u2,rfl,o2,b2⟩
 have B2:=Lib.hid (below_call B1.out b2)
 have O2:=Lib.hid (o2.mono (size1 B1.out))
 clear o2 b2
 obtain ⟨c0_2,c1_2,c2_2,c3_2,c4_2,c5_2,c6_2,c7_2⟩:=xcells B2.out
 clear c0_1 c1_1 c2_1 c3_1 c4_1 c5_1 c6_1 c7_1
 go_wp2_with fail
 refine (DR.out _).mono ?_
 rintro e y ⟨rfl,rfl⟩
 go_wp2_with (at_builtin;refine wpList_append_b rfl _ _ rfl (W.heap.size+1) _ _ rfl (O2.out.below (below_new (Below.refl _ _) _)) _ 2 2 [211,d] rfl (made_at _ [211,d] (by intro z hz;simp at hz;omega) (by simp)) (by simp;omega) (Nat.le_trans (size1 B2.out) (by simp)) ?_)
 intro u3 w3 o3 g3
 have B3:=Lib.hid (grown1 (below_new B2.out _) g3 (fun j hj=>O2.out.lt j hj))
 have O3:=Lib.hid o3
 clear o3 g3
 obtain ⟨c0_3,c1_3,c2_3,c3_3,c4_3,c5_3,c6_3,c7_3⟩:=xcells B3.out
 clear c0_2 c1_2 c2_2 c3_2 c4_2 c5_2 c6_2 c7_2
 go_wp2_with fail
 go_ret2
 have hh:Bts W.heap.size w3 u3 (rl0 ++ [211,d]):=by have h:=O3.out.mono (Nat.le_succ _);simpa only [List.append_assoc,List.cons_append,List.nil_append] using h
 exact ⟨_,rfl,hh,below_boxed B3.out⟩
theorem eb_load8 (dst src base disp imm cc:Int)(W:World)(hm:mayX ⟨26,8,dst,src,base,disp,imm,cc⟩=true)(hw:True)(hd:0≤dst∧dst<16)(hs:0≤src∧src<16)(hb:0≤base∧base<16):
  Calls Tryz.prog 67 #[.agg #[.int .i8 26,.int .i8 8,.int .i8 dst,.int .i8 src,.int .i8 base,.int .i64 disp,.int .i64 imm,.int .i8 cc]] W (RetX ((rexL false dst base false ++ [15,182]) ++ memL dst base disp) 0 W):=by
 have MY:=Lib.hid (fun W=>show Calls Tryz.prog 22 #[.agg #[.int .i8 26,.int .i8 8,.int .i8 dst,.int .i8 src,.int .i8 base,.int .i64 disp,.int .i64 imm,.int .i8 cc]] W fun e w'=>e=.returned (.bool true)∧Below W.heap.size W w' by have h:=emay_n ⟨26,8,dst,src,base,disp,imm,cc⟩ W ⟨by show (-128:Int)≤8;decide,by show (8:Int)<128;decide⟩;rw [hm] at h;exact h)
 have CD:=Lib.hid (fun W=>cod_is (show codI 26=0 by decide) W)
 have CL:=Lib.hid (fun W=>cls_is (show clsI 26=6 by decide) W)
 have RX:=Lib.hid (fun W=>erex_n false dst base false W)
 have rl:=rexL_length false dst base false
 have RO:=Lib.hid (rexL_ok false dst base false)
 have MM:=Lib.hid (fun W=>ememory_n dst base disp hd hb W)
 have MO:=Lib.hid (memL_ok dst base disp)
 have ML:=Lib.hid (memL_few dst base disp)
 clear hm hw hs
 generalize memL dst base disp=ml at *
 generalize rexL false dst base false=rl0 at *
 clear hd hb
 unfold RetX
 go_enter Tryz.func67,Tryz.ntmps67
 go_wp2_with fail
 refine (MY.out _).mono ?_
 rintro e w1 ⟨rfl,b1⟩
 have B1:=Lib.hid b1
 clear b1
 obtain ⟨c0_1,c1_1,c2_1,c3_1,c4_1,c5_1,c6_1,c7_1⟩:=xcells B1.out
 go_wp2_with fail
 refine (CD.out _).mono ?_
 rintro e y ⟨rfl,rfl⟩
 go_wp2_with fail
 refine (CL.out _).mono ?_
 rintro e y ⟨rfl,rfl⟩
 go_wp2_with fail
 refine (CL.out _).mono ?_
 rintro e y ⟨rfl,rfl⟩
 go_wp2_with fail
 refine (CL.out _).mono ?_
 rintro e y ⟨rfl,rfl⟩
 go_wp2_with fail
 refine (CL.out _).mono ?_
 rintro e y ⟨rfl,rfl⟩
 go_wp2_with fail
 refine (RX.out _).mono ?_
 rintro e w2 ⟨u2,rfl,o2,b2⟩
 have B2:=Lib.hid (below_call B1.out b2)
 have O2:=Lib.hid (o2.mono (size1 B1.out))
 clear o2 b2
 obtain ⟨c0_2,c1_2,c2_2,c3_2,c4_2,c5_2,c6_2,c7_2⟩:=xcells B2.out
 clear c0_1 c1_1 c2_1 c3_1 c4_1 c5_1 c6_1 c7_1
 go_wp2_with (at_builtin;refine wpList_append_b rfl _ _ rfl (W.heap.size+1) _ _ rfl (O2.out.below (below_new (Below.refl _ _) _)) _ 2 2 [15,182] rfl (made_at _ [15,182] (by intro z hz;simp at hz;omega) (by simp)) (by simp;omega) (Nat.le_trans (size1 B2.out) (by simp)) ?_)
 intro u3 w3 o3 g3
 have B3:=Lib.hid (grown1 (below_new B2.out _) g3 (fun j hj=>O2.out.lt j hj))
 have O3:=Lib.hid o3
 clear o3 g3
 obtain ⟨c0_3,c1_3,c2_3,c3_3,c4_3,c5_3,c6_3,c7_3⟩:=xcells B3.out
 clear c0_2 c1_2 c2_2 c3_2 c4_2 c5_2 c6_2 c7_2
 go_wp2_with fail
 refine (MM.out _).mono ?_
 rintro e w4 ⟨u4,rfl,o4,b4⟩
 have B4:=Lib.hid (below_call B3.out b4)
 have K4:=Lib.hid (O3.out.below b4)
 have O4:=Lib.hid (o4.mono (size1 B3.out))
 clear o4 b4
 obtain ⟨c0_4,c1_4,c2_4,c3_4,c4_4,c5_4,c6_4,c7_4⟩:=xcells B4.out
 clear c0_3 c1_3 c2_3 c3_3 c4_3 c5_3 c6_3 c7_3
 obtain ⟨xa4,xc4,rfl,e4⟩:=O4.out.at MO.out
 have E4:=Lib.hid e4
 clear e4
 go_wp2_with (at_builtin;refine wpList_append_b rfl _ _ rfl (W.heap.size+1) _ _ rfl (K4.out) _ _ _ _ rfl E4.out (by have:=ML.out;simp;omega) (size1 B4.out) ?_)
 intro u5 w5 o5 g5
 have B5:=Lib.hid (grown1 (B4.out) g5 (fun j hj=>K4.out.lt j hj))
 have O5:=Lib.hid o5
 clear o5 g5
 obtain ⟨c0_5,c1_5,c2_5,c3_5,c4_5,c5_5,c6_5,c7_5⟩:=xcells B5.out
 clear c0_4 c1_4 c2_4 c3_4 c4_4 c5_4 c6_4 c7_4
 go_wp2_with fail
 go_ret2
 have hh:Bts W.heap.size w5 u5 ((rl0 ++ [15,182]) ++ ml):=by have h:=O5.out.mono (Nat.le_succ _);simpa only [List.append_assoc,List.cons_append,List.nil_append] using h
 exact ⟨_,rfl,hh,below_boxed B5.out⟩
theorem eb_load16 (dst src base disp imm cc:Int)(W:World)(hm:mayX ⟨26,16,dst,src,base,disp,imm,cc⟩=true)(hw:True)(hd:0≤dst∧dst<16)(hs:0≤src∧src<16)(hb:0≤base∧base<16):
  Calls Tryz.prog 67 #[.agg #[.int .i8 26,.int .i8 16,.int .i8 dst,.int .i8 src,.int .i8 base,.int .i64 disp,.int .i64 imm,.int .i8 cc]] W (RetX ((rexL false dst base false ++ [15,183]) ++ memL dst base disp) 0 W):=by
 have MY:=Lib.hid (fun W=>show Calls Tryz.prog 22 #[.agg #[.int .i8 26,.int .i8 16,.int .i8 dst,.int .i8 src,.int .i8 base,.int .i64 disp,.int .i64 imm,.int .i8 cc]] W fun e w'=>e=.returned (.bool true)∧Below W.heap.size W w' by have h:=emay_n ⟨26,16,dst,src,base,disp,imm,cc⟩ W ⟨by show (-128:Int)≤16;decide,by show (16:Int)<128;decide⟩;rw [hm] at h;exact h)
 have CD:=Lib.hid (fun W=>cod_is (show codI 26=0 by decide) W)
 have CL:=Lib.hid (fun W=>cls_is (show clsI 26=6 by decide) W)
 have RX:=Lib.hid (fun W=>erex_n false dst base false W)
 have rl:=rexL_length false dst base false
 have RO:=Lib.hid (rexL_ok false dst base false)
 have MM:=Lib.hid (fun W=>ememory_n dst base disp hd hb W)
 have MO:=Lib.hid (memL_ok dst base disp)
 have ML:=Lib.hid (memL_few dst base disp)
 clear hm hw hs
 generalize memL dst base disp=ml at *
 generalize rexL false dst base false=rl0 at *
 clear hd hb
 unfold RetX
 go_enter Tryz.func67,Tryz.ntmps67
 go_wp2_with fail
 refine (MY.out _).mono ?_
 rintro e w1 ⟨rfl,b1⟩
 have B1:=Lib.hid b1
 clear b1
 obtain ⟨c0_1,c1_1,c2_1,c3_1,c4_1,c5_1,c6_1,c7_1⟩:=xcells B1.out
 go_wp2_with fail
 refine (CD.out _).mono ?_
 rintro e y ⟨rfl,rfl⟩
 go_wp2_with fail
 refine (CL.out _).mono ?_
 rintro e y ⟨rfl,rfl⟩
 go_wp2_with fail
 refine (CL.out _).mono ?_
 rintro e y ⟨rfl,rfl⟩
 go_wp2_with fail
 refine (CL.out _).mono ?_
 rintro e y ⟨rfl,rfl⟩
 go_wp2_with fail
 refine (CL.out _).mono ?_
 rintro e y ⟨rfl,rfl⟩
 go_wp2_with fail
 refine (RX.out _).mono ?_
 rintro e w2 ⟨u2,rfl,o2,b2⟩
 have B2:=Lib.hid (below_call B1.out b2)
 have O2:=Lib.hid (o2.mono (size1 B1.out))
 clear o2 b2
 obtain ⟨c0_2,c1_2,c2_2,c3_2,c4_2,c5_2,c6_2,c7_2⟩:=xcells B2.out
 clear c0_1 c1_1 c2_1 c3_1 c4_1 c5_1 c6_1 c7_1
 go_wp2_with (at_builtin;refine wpList_append_b rfl _ _ rfl (W.heap.size+1) _ _ rfl (O2.out.below (below_new (Below.refl _ _) _)) _ 2 2 [15,183] rfl (made_at _ [15,183] (by intro z hz;simp at hz;omega) (by simp)) (by simp;omega) (Nat.le_trans (size1 B2.out) (by simp)) ?_)
 intro u3 w3 o3 g3
 have B3:=Lib.hid (grown1 (below_new B2.out _) g3 (fun j hj=>O2.out.lt j hj))
 have O3:=Lib.hid o3
 clear o3 g3
 obtain ⟨c0_3,c1_3,c2_3,c3_3,c4_3,c5_3,c6_3,c7_3⟩:=xcells B3.out
 clear c0_2 c1_2 c2_2 c3_2 c4_2 c5_2 c6_2 c7_2
 go_wp2_with fail
 refine (MM.out _).mono ?_
 rintro e w4 ⟨u4,rfl,o4,b4⟩
 have B4:=Lib.hid (below_call B3.out b4)
 have K4:=Lib.hid (O3.out.below b4)
 have O4:=Lib.hid (o4.mono (size1 B3.out))
 clear o4 b4
 obtain ⟨c0_4,c1_4,c2_4,c3_4,c4_4,c5_4,c6_4,c7_4⟩:=xcells B4.out
 clear c0_3 c1_3 c2_3 c3_3 c4_3 c5_3 c6_3 c7_3
 obtain ⟨xa4,xc4,rfl,e4⟩:=O4.out.at MO.out
 have E4:=Lib.hid e4
 clear e4
 go_wp2_with (at_builtin;refine wpList_append_b rfl _ _ rfl (W.heap.size+1) _ _ rfl (K4.out) _ _ _ _ rfl E4.out (by have:=ML.out;simp;omega) (size1 B4.out) ?_)
 intro u5 w5 o5 g5
 have B5:=Lib.hid (grown1 (B4.out) g5 (fun j hj=>K4.out.lt j hj))
 have O5:=Lib.hid o5
 clear o5 g5
 obtain ⟨c0_5,c1_5,c2_5,c3_5,c4_5,c5_5,c6_5,c7_5⟩:=xcells B5.out
 clear c0_4 c1_4 c2_4 c3_4 c4_4 c5_4 c6_4 c7_4
 go_wp2_with fail
 go_ret2
 have hh:Bts W.heap.size w5 u5 ((rl0 ++ [15,183]) ++ ml):=by have h:=O5.out.mono (Nat.le_succ _);simpa only [List.append_assoc,List.cons_append,List.nil_append] using h
 exact ⟨_,rfl,hh,below_boxed B5.out⟩
theorem eb_loadw (wd dst src base disp imm cc:Int)(W:World)(hm:mayX ⟨26,wd,dst,src,base,disp,imm,cc⟩=true)(hw:-128≤wd∧wd<128)(hd:0≤dst∧dst<16)(hs:0≤src∧src<16)(hb:0≤base∧base<16)(h8:(wd == 8)=false)(h16:(wd == 16)=false):
  Calls Tryz.prog 67 #[.agg #[.int .i8 26,.int .i8 wd,.int .i8 dst,.int .i8 src,.int .i8 base,.int .i64 disp,.int .i64 imm,.int .i8 cc]] W (RetX ((rexL (wd == 64) dst base false ++ [139]) ++ memL dst base disp) 0 W):=by
 have MY:=Lib.hid (fun W=>show Calls Tryz.prog 22 #[.agg #[.int .i8 26,.int .i8 wd,.int .i8 dst,.int .i8 src,.int .i8 base,.int .i64 disp,.int .i64 imm,.int .i8 cc]] W fun e w'=>e=.returned (.bool true)∧Below W.heap.size W w' by have h:=emay_n ⟨26,wd,dst,src,base,disp,imm,cc⟩ W hw;rw [hm] at h;exact h)
 have CD:=Lib.hid (fun W=>cod_is (show codI 26=0 by decide) W)
 have CL:=Lib.hid (fun W=>cls_is (show clsI 26=6 by decide) W)
 have RX:=Lib.hid (fun W=>erex_n (wd == 64) dst base false W)
 have rl:=rexL_length (wd == 64) dst base false
 have RO:=Lib.hid (rexL_ok (wd == 64) dst base false)
 have MM:=Lib.hid (fun W=>ememory_n dst base disp hd hb W)
 have MO:=Lib.hid (memL_ok dst base disp)
 have ML:=Lib.hid (memL_few dst base disp)
 clear hm hw hs
 generalize memL dst base disp=ml at *
 generalize rexL (wd == 64) dst base false=rl0 at *
 clear hd hb
 unfold RetX
 go_enter Tryz.func67,Tryz.ntmps67
 go_wp2_with fail
 refine (MY.out _).mono ?_
 rintro e w1 ⟨rfl,b1⟩
 have B1:=Lib.hid b1
 clear b1
 obtain ⟨c0_1,c1_1,c2_1,c3_1,c4_1,c5_1,c6_1,c7_1⟩:=xcells B1.out
 go_wp2_with fail
 refine (CD.out _).mono ?_
 rintro e y ⟨rfl,rfl⟩
 go_wp2_with fail
 refine (CL.out _).mono ?_
 rintro e y ⟨rfl,rfl⟩
 go_wp2_with fail
 refine (CL.out _).mono ?_
 rintro e y ⟨rfl,rfl⟩
 go_wp2_with fail
 refine (CL.out _).mono ?_
 rintro e y ⟨rfl,rfl⟩
 go_wp2_with fail
 refine (CL.out _).mono ?_
 rintro e y ⟨rfl,rfl⟩
 go_wp2_with fail
 refine (RX.out _).mono ?_
 rintro e w2 ⟨u2,rfl,o2,b2⟩
 have B2:=Lib.hid (below_call B1.out b2)
 have O2:=Lib.hid (o2.mono (size1 B1.out))
 clear o2 b2
 obtain ⟨c0_2,c1_2,c2_2,c3_2,c4_2,c5_2,c6_2,c7_2⟩:=xcells B2.out
 clear c0_1 c1_1 c2_1 c3_1 c4_1 c5_1 c6_1 c7_1
 go_wp2_with (at_builtin;refine wpList_append_b rfl _ _ rfl (W.heap.size+1) _ _ rfl (O2.out.below (below_new (Below.refl _ _) _)) _ 1 1 [139] rfl (made_at _ [139] (by intro z hz;simp at hz;omega) (by simp)) (by simp;omega) (Nat.le_trans (size1 B2.out) (by simp)) ?_)
 intro u3 w3 o3 g3
 have B3:=Lib.hid (grown1 (below_new B2.out _) g3 (fun j hj=>O2.out.lt j hj))
 have O3:=Lib.hid o3
 clear o3 g3
 obtain ⟨c0_3,c1_3,c2_3,c3_3,c4_3,c5_3,c6_3,c7_3⟩:=xcells B3.out
 clear c0_2 c1_2 c2_2 c3_2 c4_2 c5_2 c6_2 c7_2
 go_wp2_with fail
 refine (MM.out _).mono ?_
 rintro e w4 ⟨u4,rfl,o4,b4⟩
 have B4:=Lib.hid (below_call B3.out b4)
 have K4:=Lib.hid (O3.out.below b4)
 have O4:=Lib.hid (o4.mono (size1 B3.out))
 clear o4 b4
 obtain ⟨c0_4,c1_4,c2_4,c3_4,c4_4,c5_4,c6_4,c7_4⟩:=xcells B4.out
 clear c0_3 c1_3 c2_3 c3_3 c4_3 c5_3 c6_3 c7_3
 obtain ⟨xa4,xc4,rfl,e4⟩:=O4.out.at MO.out
 have E4:=Lib.hid e4
 clear e4
 go_wp2_with (at_builtin;refine wpList_append_b rfl _ _ rfl (W.heap.size+1) _ _ rfl (K4.out) _ _ _ _ rfl E4.out (by have:=ML.out;simp;omega) (size1 B4.out) ?_)
 intro u5 w5 o5 g5
 have B5:=Lib.hid (grown1 (B4.out) g5 (fun j hj=>K4.out.lt j hj))
 have O5:=Lib.hid o5
 clear o5 g5
 obtain ⟨c0_5,c1_5,c2_5,c3_5,c4_5,c5_5,c6_5,c7_5⟩:=xcells B5.out
 clear c0_4 c1_4 c2_4 c3_4 c4_4 c5_4 c6_4 c7_4
 go_wp2_with fail
 go_ret2
 have hh:Bts W.heap.size w5 u5 ((rl0 ++ [139]) ++ ml):=by have h:=O5.out.mono (Nat.le_succ _);simpa only [List.append_assoc,List.cons_append,List.nil_append] using h
 exact ⟨_,rfl,hh,below_boxed B5.out⟩
theorem eb_store8 (dst src base disp imm cc:Int)(W:World)(hm:mayX ⟨27,8,dst,src,base,disp,imm,cc⟩=true)(hw:True)(hd:0≤dst∧dst<16)(hs:0≤src∧src<16)(hb:0≤base∧base<16):
  Calls Tryz.prog 67 #[.agg #[.int .i8 27,.int .i8 8,.int .i8 dst,.int .i8 src,.int .i8 base,.int .i64 disp,.int .i64 imm,.int .i8 cc]] W (RetX ((([] ++ rexL false src base true) ++ [136]) ++ memL src base disp) 0 W):=by
 have MY:=Lib.hid (fun W=>show Calls Tryz.prog 22 #[.agg #[.int .i8 27,.int .i8 8,.int .i8 dst,.int .i8 src,.int .i8 base,.int .i64 disp,.int .i64 imm,.int .i8 cc]] W fun e w'=>e=.returned (.bool true)∧Below W.heap.size W w' by have h:=emay_n ⟨27,8,dst,src,base,disp,imm,cc⟩ W ⟨by show (-128:Int)≤8;decide,by show (8:Int)<128;decide⟩;rw [hm] at h;exact h)
 have CD:=Lib.hid (fun W=>cod_is (show codI 27=0 by decide) W)
 have CL:=Lib.hid (fun W=>cls_is (show clsI 27=7 by decide) W)
 have RX:=Lib.hid (fun W=>erex_n false src base true W)
 have rl:=rexL_length false src base true
 have RO:=Lib.hid (rexL_ok false src base true)
 have MM:=Lib.hid (fun W=>ememory_n src base disp hs hb W)
 have MO:=Lib.hid (memL_ok src base disp)
 have ML:=Lib.hid (memL_few src base disp)
 clear hm hw hd
 generalize memL src base disp=ml at *
 generalize rexL false src base true=rl0 at *
 clear hs hb
 unfold RetX
 go_enter Tryz.func67,Tryz.ntmps67
 go_wp2_with fail
 refine (MY.out _).mono ?_
 rintro e w1 ⟨rfl,b1⟩
 have B1:=Lib.hid b1
 clear b1
 obtain ⟨c0_1,c1_1,c2_1,c3_1,c4_1,c5_1,c6_1,c7_1⟩:=xcells B1.out
 go_wp2_with fail
 refine (CD.out _).mono ?_
 rintro e y ⟨rfl,rfl⟩
 go_wp2_with fail
 refine (CL.out _).mono ?_
 rintro e y ⟨rfl,rfl⟩
 go_wp2_with fail
 refine (CL.out _).mono ?_
 rintro e y ⟨rfl,rfl⟩
 go_wp2_with fail
 refine (CL.out _).mono ?_
 rintro e y ⟨rfl,rfl⟩
 go_wp2_with fail
 refine (CL.out _).mono ?_
 rintro e y ⟨rfl,rfl⟩
 go_wp2_with fail
 refine (RX.out _).mono ?_
 rintro e w2 ⟨u2,rfl,o2,b2⟩
 have B2:=Lib.hid (below_call B1.out b2)
 have O2:=Lib.hid (o2.mono (size1 B1.out))
 clear o2 b2
 obtain ⟨c0_2,c1_2,c2_2,c3_2,c4_2,c5_2,c6_2,c7_2⟩:=xcells B2.out
 clear c0_1 c1_1 c2_1 c3_1 c4_1 c5_1 c6_1 c7_1
 obtain ⟨xa2,xc2,rfl,e2⟩:=O2.out.at RO.out
 have E2:=Lib.hid e2
 clear e2
 go_wp2_with (at_builtin;refine wpList_append_b rfl _ _ rfl (W.heap.size+1) _ _ rfl (Bts.nil _ _) _ _ _ _ rfl E2.out (by simp;omega) (size1 B2.out) ?_)
 intro u3 w3 o3 g3
 have B3:=Lib.hid (grown1 B2.out g3 (fun j hj=>by simp [Value.ownBlock] at hj))
 have O3:=Lib.hid o3
 clear o3 g3
 obtain ⟨c0_3,c1_3,c2_3,c3_3,c4_3,c5_3,c6_3,c7_3⟩:=xcells B3.out
 clear c0_2 c1_2 c2_2 c3_2 c4_2 c5_2 c6_2 c7_2
 go_wp2_with (at_builtin;refine wpList_append_b rfl _ _ rfl (W.heap.size+1) _ _ rfl (O3.out.below (below_new (Below.refl _ _) _)) _ 1 1 [136] rfl (made_at _ [136] (by intro z hz;simp at hz;omega) (by simp)) (by simp;omega) (Nat.le_trans (size1 B3.out) (by simp)) ?_)
 intro u4 w4 o4 g4
 have B4:=Lib.hid (grown1 (below_new B3.out _) g4 (fun j hj=>O3.out.lt j hj))
 have O4:=Lib.hid o4
 clear o4 g4
 obtain ⟨c0_4,c1_4,c2_4,c3_4,c4_4,c5_4,c6_4,c7_4⟩:=xcells B4.out
 clear c0_3 c1_3 c2_3 c3_3 c4_3 c5_3 c6_3 c7_3
 go_wp2_with fail
 refine (MM.out _).mono ?_
 rintro e w5 ⟨u5,rfl,o5,b5⟩
 have B5:=Lib.hid (below_call B4.out b5)
 have K5:=Lib.hid (O4.out.below b5)
 have O5:=Lib.hid (o5.mono (size1 B4.out))
 clear o5 b5
 obtain ⟨c0_5,c1_5,c2_5,c3_5,c4_5,c5_5,c6_5,c7_5⟩:=xcells B5.out
 clear c0_4 c1_4 c2_4 c3_4 c4_4 c5_4 c6_4 c7_4
 obtain ⟨xa5,xc5,rfl,e5⟩:=O5.out.at MO.out
 have E5:=Lib.hid e5
 clear e5
 go_wp2_with (at_builtin;refine wpList_append_b rfl _ _ rfl (W.heap.size+1) _ _ rfl (K5.out) _ _ _ _ rfl E5.out (by have:=ML.out;simp;omega) (size1 B5.out) ?_)
 intro u6 w6 o6 g6
 have B6:=Lib.hid (grown1 (B5.out) g6 (fun j hj=>K5.out.lt j hj))
 have O6:=Lib.hid o6
 clear o6 g6
 obtain ⟨c0_6,c1_6,c2_6,c3_6,c4_6,c5_6,c6_6,c7_6⟩:=xcells B6.out
 clear c0_5 c1_5 c2_5 c3_5 c4_5 c5_5 c6_5 c7_5
 go_wp2_with fail
 go_ret2
 have hh:Bts W.heap.size w6 u6 ((([] ++ rl0) ++ [136]) ++ ml):=by have h:=O6.out.mono (Nat.le_succ _);simpa only [List.append_assoc,List.cons_append,List.nil_append] using h
 exact ⟨_,rfl,hh,below_boxed B6.out⟩
theorem eb_store16 (dst src base disp imm cc:Int)(W:World)(hm:mayX ⟨27,16,dst,src,base,disp,imm,cc⟩=true)(hw:True)(hd:0≤dst∧dst<16)(hs:0≤src∧src<16)(hb:0≤base∧base<16):
  Calls Tryz.prog 67 #[.agg #[.int .i8 27,.int .i8 16,.int .i8 dst,.int .i8 src,.int .i8 base,.int .i64 disp,.int .i64 imm,.int .i8 cc]] W (RetX ((([102] ++ rexL false src base false) ++ [137]) ++ memL src base disp) 0 W):=by
 have MY:=Lib.hid (fun W=>show Calls Tryz.prog 22 #[.agg #[.int .i8 27,.int .i8 16,.int .i8 dst,.int .i8 src,.int .i8 base,.int .i64 disp,.int .i64 imm,.int .i8 cc]] W fun e w'=>e=.returned (.bool true)∧Below W.heap.size W w' by have h:=emay_n ⟨27,16,dst,src,base,disp,imm,cc⟩ W ⟨by show (-128:Int)≤16;decide,by show (16:Int)<128;decide⟩;rw [hm] at h;exact h)
 have CD:=Lib.hid (fun W=>cod_is (show codI 27=0 by decide) W)
 have CL:=Lib.hid (fun W=>cls_is (show clsI 27=7 by decide) W)
 have RX:=Lib.hid (fun W=>erex_n false src base false W)
 have rl:=rexL_length false src base false
 have RO:=Lib.hid (rexL_ok false src base false)
 have MM:=Lib.hid (fun W=>ememory_n src base disp hs hb W)
 have MO:=Lib.hid (memL_ok src base disp)
 have ML:=Lib.hid (memL_few src base disp)
 clear hm hw hd
 generalize memL src base disp=ml at *
 generalize rexL false src base false=rl0 at *
 clear hs hb
 unfold RetX
 go_enter Tryz.func67,Tryz.ntmps67
 go_wp2_with fail
 refine (MY.out _).mono ?_
 rintro e w1 ⟨rfl,b1⟩
 have B1:=Lib.hid b1
 clear b1
 obtain ⟨c0_1,c1_1,c2_1,c3_1,c4_1,c5_1,c6_1,c7_1⟩:=xcells B1.out
 go_wp2_with fail
 refine (CD.out _).mono ?_
 rintro e y ⟨rfl,rfl⟩
 go_wp2_with fail
 refine (CL.out _).mono ?_
 rintro e y ⟨rfl,rfl⟩
 go_wp2_with fail
 refine (CL.out _).mono ?_
 rintro e y ⟨rfl,rfl⟩
 go_wp2_with fail
 refine (CL.out _).mono ?_
 rintro e y ⟨rfl,rfl⟩
 go_wp2_with fail
 refine (CL.out _).mono ?_
 rintro e y ⟨rfl,rfl⟩
 go_wp2_with (at_builtin;refine wpList_append_b rfl _ _ rfl (W.heap.size+1) _ _ rfl (Bts.nil _ _) _ 1 1 [102] rfl (made_at _ [102] (by intro z hz;simp at hz;omega) (by simp)) (by simp) (Nat.le_trans (size1 B1.out) (by simp)) ?_)
 intro u2 w2 o2 g2
 have B2:=Lib.hid (grown1 (below_new B1.out _) g2 (fun j hj=>by simp [Value.ownBlock] at hj))
 have O2:=Lib.hid o2
 clear o2 g2
 obtain ⟨c0_2,c1_2,c2_2,c3_2,c4_2,c5_2,c6_2,c7_2⟩:=xcells B2.out
 clear c0_1 c1_1 c2_1 c3_1 c4_1 c5_1 c6_1 c7_1
 go_wp2_with fail
 refine (RX.out _).mono ?_
 rintro e w3 ⟨u3,rfl,o3,b3⟩
 have B3:=Lib.hid (below_call B2.out b3)
 have K3:=Lib.hid (O2.out.below b3)
 have O3:=Lib.hid (o3.mono (size1 B2.out))
 clear o3 b3
 obtain ⟨c0_3,c1_3,c2_3,c3_3,c4_3,c5_3,c6_3,c7_3⟩:=xcells B3.out
 clear c0_2 c1_2 c2_2 c3_2 c4_2 c5_2 c6_2 c7_2
 obtain ⟨xa3,xc3,rfl,e3⟩:=O3.out.at RO.out
 have E3:=Lib.hid e3
 clear e3
 go_wp2_with (at_builtin;refine wpList_append_b rfl _ _ rfl (W.heap.size+1) _ _ rfl (K3.out) _ _ _ _ rfl E3.out (by simp;omega) (size1 B3.out) ?_)
 intro u4 w4 o4 g4
 have B4:=Lib.hid (grown1 (B3.out) g4 (fun j hj=>K3.out.lt j hj))
 have O4:=Lib.hid o4
 clear o4 g4
 obtain ⟨c0_4,c1_4,c2_4,c3_4,c4_4,c5_4,c6_4,c7_4⟩:=xcells B4.out
 clear c0_3 c1_3 c2_3 c3_3 c4_3 c5_3 c6_3 c7_3
 go_wp2_with (at_builtin;refine wpList_append_b rfl _ _ rfl (W.heap.size+1) _ _ rfl (O4.out.below (below_new (Below.refl _ _) _)) _ 1 1 [137] rfl (made_at _ [137] (by intro z hz;simp at hz;omega) (by simp)) (by simp;omega) (Nat.le_trans (size1 B4.out) (by simp)) ?_)
 intro u5 w5 o5 g5
 have B5:=Lib.hid (grown1 (below_new B4.out _) g5 (fun j hj=>O4.out.lt j hj))
 have O5:=Lib.hid o5
 clear o5 g5
 obtain ⟨c0_5,c1_5,c2_5,c3_5,c4_5,c5_5,c6_5,c7_5⟩:=xcells B5.out
 clear c0_4 c1_4 c2_4 c3_4 c4_4 c5_4 c6_4 c7_4
 go_wp2_with fail
 refine (MM.out _).mono ?_
 rintro e w6 ⟨u6,rfl,o6,b6⟩
 have B6:=Lib.hid (below_call B5.out b6)
 have K6:=Lib.hid (O5.out.below b6)
 have O6:=Lib.hid (o6.mono (size1 B5.out))
 clear o6 b6
 obtain ⟨c0_6,c1_6,c2_6,c3_6,c4_6,c5_6,c6_6,c7_6⟩:=xcells B6.out
 clear c0_5 c1_5 c2_5 c3_5 c4_5 c5_5 c6_5 c7_5
 obtain ⟨xa6,xc6,rfl,e6⟩:=O6.out.at MO.out
 have E6:=Lib.hid e6
 clear e6
 go_wp2_with (at_builtin;refine wpList_append_b rfl _ _ rfl (W.heap.size+1) _ _ rfl (K6.out) _ _ _ _ rfl E6.out (by have:=ML.out;simp;omega) (size1 B6.out) ?_)
 intro u7 w7 o7 g7
 have B7:=Lib.hid (grown1 (B6.out) g7 (fun j hj=>K6.out.lt j hj))
 have O7:=Lib.hid o7
 clear o7 g7
 obtain ⟨c0_7,c1_7,c2_7,c3_7,c4_7,c5_7,c6_7,c7_7⟩:=xcells B7.out
 clear c0_6 c1_6 c2_6 c3_6 c4_6 c5_6 c6_6 c7_6
 go_wp2_with fail
 go_ret2
 have hh:Bts W.heap.size w7 u7 ((([102] ++ rl0) ++ [137]) ++ ml):=by have h:=O7.out.mono (Nat.le_succ _);simpa only [List.append_assoc,List.cons_append,List.nil_append] using h
 exact ⟨_,rfl,hh,below_boxed B7.out⟩
theorem eb_storew (wd dst src base disp imm cc:Int)(W:World)(hm:mayX ⟨27,wd,dst,src,base,disp,imm,cc⟩=true)(hw:-128≤wd∧wd<128)(hd:0≤dst∧dst<16)(hs:0≤src∧src<16)(hb:0≤base∧base<16)(h8:(wd == 8)=false)(h16:(wd == 16)=false):
  Calls Tryz.prog 67 #[.agg #[.int .i8 27,.int .i8 wd,.int .i8 dst,.int .i8 src,.int .i8 base,.int .i64 disp,.int .i64 imm,.int .i8 cc]] W (RetX ((([] ++ rexL (wd == 64) src base false) ++ [137]) ++ memL src base disp) 0 W):=by
 have MY:=Lib.hid (fun W=>show Calls Tryz.prog 22 #[.agg #[.int .i8 27,.int .i8 wd,.int .i8 dst,.int .i8 src,.int .i8 base,.int .i64 disp,.int .i64 imm,.int .i8 cc]] W fun e w'=>e=.returned (.bool true)∧Below W.heap.size W w' by have h:=emay_n ⟨27,wd,dst,src,base,disp,imm,cc⟩ W hw;rw [hm] at h;exact h)
 have CD:=Lib.hid (fun W=>cod_is (show codI 27=0 by decide) W)
 have CL:=Lib.hid (fun W=>cls_is (show clsI 27=7 by decide) W)
 have RX:=Lib.hid (fun W=>erex_n (wd == 64) src base false W)
 have rl:=rexL_length (wd == 64) src base false
 have RO:=Lib.hid (rexL_ok (wd == 64) src base false)
 have MM:=Lib.hid (fun W=>ememory_n src base disp hs hb W)
 have MO:=Lib.hid (memL_ok src base disp)
 have ML:=Lib.hid (memL_few src base disp)
 clear hm hw hd
 generalize memL src base disp=ml at *
 generalize rexL (wd == 64) src base false=rl0 at *
 clear hs hb
 unfold RetX
 go_enter Tryz.func67,Tryz.ntmps67
 go_wp2_with fail
 refine (MY.out _).mono ?_
 rintro e w1 ⟨rfl,b1⟩
 have B1:=Lib.hid b1
 clear b1
 obtain ⟨c0_1,c1_1,c2_1,c3_1,c4_1,c5_1,c6_1,c7_1⟩:=xcells B1.out
 go_wp2_with fail
 refine (CD.out _).mono ?_
 rintro e y ⟨rfl,rfl⟩
 go_wp2_with fail
 refine (CL.out _).mono ?_
 rintro e y ⟨rfl,rfl⟩
 go_wp2_with fail
 refine (CL.out _).mono ?_
 rintro e y ⟨rfl,rfl⟩
 go_wp2_with fail
 refine (CL.out _).mono ?_
 rintro e y ⟨rfl,rfl⟩
 go_wp2_with fail
 refine (CL.out _).mono ?_
 rintro e y ⟨rfl,rfl⟩
 go_wp2_with fail
 refine (RX.out _).mono ?_
 rintro e w2 ⟨u2,rfl,o2,b2⟩
 have B2:=Lib.hid (below_call B1.out b2)
 have O2:=Lib.hid (o2.mono (size1 B1.out))
 clear o2 b2
 obtain ⟨c0_2,c1_2,c2_2,c3_2,c4_2,c5_2,c6_2,c7_2⟩:=xcells B2.out
 clear c0_1 c1_1 c2_1 c3_1 c4_1 c5_1 c6_1 c7_1
 obtain ⟨xa2,xc2,rfl,e2⟩:=O2.out.at RO.out
 have E2:=Lib.hid e2
 clear e2
 go_wp2_with (at_builtin;refine wpList_append_b rfl _ _ rfl (W.heap.size+1) _ _ rfl (Bts.nil _ _) _ _ _ _ rfl E2.out (by simp;omega) (size1 B2.out) ?_)
 intro u3 w3 o3 g3
 have B3:=Lib.hid (grown1 B2.out g3 (fun j hj=>by simp [Value.ownBlock] at hj))
 have O3:=Lib.hid o3
 clear o3 g3
 obtain ⟨c0_3,c1_3,c2_3,c3_3,c4_3,c5_3,c6_3,c7_3⟩:=xcells B3.out
 clear c0_2 c1_2 c2_2 c3_2 c4_2 c5_2 c6_2 c7_2
 go_wp2_with (at_builtin;refine wpList_append_b rfl _ _ rfl (W.heap.size+1) _ _ rfl (O3.out.below (below_new (Below.refl _ _) _)) _ 1 1 [137] rfl (made_at _ [137] (by intro z hz;simp at hz;omega) (by simp)) (by simp;omega) (Nat.le_trans (size1 B3.out) (by simp)) ?_)
 intro u4 w4 o4 g4
 have B4:=Lib.hid (grown1 (below_new B3.out _) g4 (fun j hj=>O3.out.lt j hj))
 have O4:=Lib.hid o4
 clear o4 g4
 obtain ⟨c0_4,c1_4,c2_4,c3_4,c4_4,c5_4,c6_4,c7_4⟩:=xcells B4.out
 clear c0_3 c1_3 c2_3 c3_3 c4_3 c5_3 c6_3 c7_3
 go_wp2_with fail
 refine (MM.out _).mono ?_
 rintro e w5 ⟨u5,rfl,o5,b5⟩
 have B5:=Lib.hid (below_call B4.out b5)
 have K5:=Lib.hid (O4.out.below b5)
 have O5:=Lib.hid (o5.mono (size1 B4.out))
 clear o5 b5
 obtain ⟨c0_5,c1_5,c2_5,c3_5,c4_5,c5_5,c6_5,c7_5⟩:=xcells B5.out
 clear c0_4 c1_4 c2_4 c3_4 c4_4 c5_4 c6_4 c7_4
 obtain ⟨xa5,xc5,rfl,e5⟩:=O5.out.at MO.out
 have E5:=Lib.hid e5
 clear e5
 go_wp2_with (at_builtin;refine wpList_append_b rfl _ _ rfl (W.heap.size+1) _ _ rfl (K5.out) _ _ _ _ rfl E5.out (by have:=ML.out;simp;omega) (size1 B5.out) ?_)
 intro u6 w6 o6 g6
 have B6:=Lib.hid (grown1 (B5.out) g6 (fun j hj=>K5.out.lt j hj))
 have O6:=Lib.hid o6
 clear o6 g6
 obtain ⟨c0_6,c1_6,c2_6,c3_6,c4_6,c5_6,c6_6,c7_6⟩:=xcells B6.out
 clear c0_5 c1_5 c2_5 c3_5 c4_5 c5_5 c6_5 c7_5
 go_wp2_with fail
 go_ret2
 have hh:Bts W.heap.size w6 u6 ((([] ++ rl0) ++ [137]) ++ ml):=by have h:=O6.out.mono (Nat.le_succ _);simpa only [List.append_assoc,List.cons_append,List.nil_append] using h
 exact ⟨_,rfl,hh,below_boxed B6.out⟩
theorem step_append_b {ops:Array Oper}{o:Oper}{a:Act}{w:World}{K:Act→World→Prop}{Q:Exit→Act→World→Prop}{E:Prop}(hgd:o.guard=none)(s x:Operand)
  (ho:o.op=.call { callee:=.builtin .append,args:=#[s,x],argTypes:=#[64,64] })
  (base:Nat) (v:Value) (l:List Int) (hs:a.eval s=v) (hown:Bts base w v l) (ad:Addr) (m c:Nat) (zs:List Int) (hx:a.eval x=.slice (some ad) m c) (hE:BytesAt w (some ad) m c zs)
  (hfew:l.length+m≤100000) (hb:base≤w.heap.size)
  (h:∀ v' w',Bts base w' v' (l ++ zs)→w.grownBy w' v.ownBlock→K (a.put o.dst v') w'):if Region.wanted o (yielded ops a.tmps)=true then Oper.wp Tryz.prog o a w K Q else E:=by
 have hw:Region.wanted o (yielded ops a.tmps)=true:=by simp [Region.wanted,hgd]
 rw [if_pos hw]
 obtain ⟨ti,i1,i2,i3,i4⟩:=info_u8a
 have hl:=hE.size
 refine wp_append_own w s x 64 ho base 5 ti (.int .u8 0) 1 1 Tryz.underlying64 i1 i2 i3 i4 rfl (by decide) v l.length (u8s l) hs hown ad m c (u8s zs) hx (by simp [u8s];omega) (fun j u hu=>?_) (u8s_one zs) (by unfold maxLen;omega) (by omega) hb (fun v' w' o g _=>h v' w' ?_ g)
 ·unfold u8s at hu
  rw [List.getElem?_map] at hu
  cases hz:zs[j]? with
  | none=>rw [hz] at hu;cases hu
  | some z=>
   rw [hz] at hu
   obtain rfl:Value.int .u8 z=u:=by simpa using hu
   have hj:j<zs.length:=(List.getElem?_eq_some_iff.1 hz).1
   obtain ⟨b',o',e,hc⟩:=hE.here (by omega)
   injection e with e
   subst e
   rw [Addr.add_mid]
   exact hc j z hz
 ·unfold Bts
  rw [u8s_append,List.length_append,← hl]
  exact o
end Go.Proofs.YtjhedldplmhmjaaGreatDoor.Mrm
