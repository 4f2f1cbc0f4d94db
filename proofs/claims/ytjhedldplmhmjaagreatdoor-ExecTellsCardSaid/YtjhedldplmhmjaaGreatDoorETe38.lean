import Derived.Test.YtjhedldplmhmjaaGreatDoorETe24
import Derived.Test.YtjhedldplmhmjaaGreatDoorETe32
import Derived.Lib.Hide
import Derived.Test.YtjhedldplmhmjaaGreatDoorETe25
set_option maxHeartbeats 4000000
set_option linter.unusedVariables false
set_option linter.unusedSimpArgs false
set_option linter.unnecessarySimpa false
namespace Go.Proofs.YtjhedldplmhmjaaGreatDoor.Flg
open Go Go.RowKit
set_option maxRecDepth 100000
theorem qmay_2 (W:World):Calls Tryz.prog 75 #[.int .i8 2] W fun e w'=>e=.returned (.bool true)∧W=w':=by
 go_enter Tryz.func75,Tryz.ntmps75
 go_wp2
 go_ret
 exact ⟨rfl,rfl⟩
theorem qmay_3 (W:World):Calls Tryz.prog 75 #[.int .i8 3] W fun e w'=>e=.returned (.bool true)∧W=w':=by
 go_enter Tryz.func75,Tryz.ntmps75
 go_wp2
 go_ret
 exact ⟨rfl,rfl⟩
theorem qmay_4 (W:World):Calls Tryz.prog 75 #[.int .i8 4] W fun e w'=>e=.returned (.bool true)∧W=w':=by
 go_enter Tryz.func75,Tryz.ntmps75
 go_wp2
 go_ret
 exact ⟨rfl,rfl⟩
theorem qmay_5 (W:World):Calls Tryz.prog 75 #[.int .i8 5] W fun e w'=>e=.returned (.bool true)∧W=w':=by
 go_enter Tryz.func75,Tryz.ntmps75
 go_wp2
 go_ret
 exact ⟨rfl,rfl⟩
theorem qmay_6 (W:World):Calls Tryz.prog 75 #[.int .i8 6] W fun e w'=>e=.returned (.bool true)∧W=w':=by
 go_enter Tryz.func75,Tryz.ntmps75
 go_wp2
 go_ret
 exact ⟨rfl,rfl⟩
theorem qmay_7 (W:World):Calls Tryz.prog 75 #[.int .i8 7] W fun e w'=>e=.returned (.bool true)∧W=w':=by
 go_enter Tryz.func75,Tryz.ntmps75
 go_wp2
 go_ret
 exact ⟨rfl,rfl⟩
theorem qmay_12 (W:World):Calls Tryz.prog 75 #[.int .i8 12] W fun e w'=>e=.returned (.bool true)∧W=w':=by
 go_enter Tryz.func75,Tryz.ntmps75
 go_wp2
 go_ret
 exact ⟨rfl,rfl⟩
theorem qmay_13 (W:World):Calls Tryz.prog 75 #[.int .i8 13] W fun e w'=>e=.returned (.bool true)∧W=w':=by
 go_enter Tryz.func75,Tryz.ntmps75
 go_wp2
 go_ret
 exact ⟨rfl,rfl⟩
theorem qmay_14 (W:World):Calls Tryz.prog 75 #[.int .i8 14] W fun e w'=>e=.returned (.bool true)∧W=w':=by
 go_enter Tryz.func75,Tryz.ntmps75
 go_wp2
 go_ret
 exact ⟨rfl,rfl⟩
theorem qmay_15 (W:World):Calls Tryz.prog 75 #[.int .i8 15] W fun e w'=>e=.returned (.bool true)∧W=w':=by
 go_enter Tryz.func75,Tryz.ntmps75
 go_wp2
 go_ret
 exact ⟨rfl,rfl⟩
theorem qmay_no (cc:Int)(h:mayC cc=false)(W:World):Calls Tryz.prog 75 #[.int .i8 cc] W fun e w'=>e=.returned (.bool false)∧W=w':=by
 obtain ⟨n2,n3,n4,n5,n6,n7,n12,n13,n14,n15⟩:=may_not h
 replace n2:=neq_of n2
 replace n3:=neq_of n3
 replace n4:=neq_of n4
 replace n5:=neq_of n5
 replace n6:=neq_of n6
 replace n7:=neq_of n7
 replace n12:=neq_of n12
 replace n13:=neq_of n13
 replace n14:=neq_of n14
 replace n15:=neq_of n15
 clear h
 go_enter Tryz.func75,Tryz.ntmps75
 go_wp2
 go_ret
 exact ⟨rfl,rfl⟩
theorem qmay_n (cc:Int)(W:World):Calls Tryz.prog 75 #[.int .i8 cc] W fun e w'=>e=.returned (.bool (mayC cc))∧W=w':=by
 cases h:mayC cc
 ·exact qmay_no cc h W
 ·rcases may_cases h with rfl | rfl | rfl | rfl | rfl | rfl | rfl | rfl | rfl | rfl
  ·exact qmay_2 W
  ·exact qmay_3 W
  ·exact qmay_4 W
  ·exact qmay_5 W
  ·exact qmay_6 W
  ·exact qmay_7 W
  ·exact qmay_12 W
  ·exact qmay_13 W
  ·exact qmay_14 W
  ·exact qmay_15 W
theorem qhol_2 (f:Fl)(W:World):Calls Tryz.prog 31 #[.int .i8 2,.agg (fC f)] W fun e w'=>e=.returned (.tuple #[.bool (holF 2 f),.int .i64 (holE 2 f)])∧Below W.heap.size W w':=by
 obtain ⟨k,c,z,s,o⟩:=f
 have MY:=Lib.hid (fun W=>qmay_n 2 W)
 have BN:=Lib.hid (below_new (Below.refl W.heap.size W))
 cases k
 case' true=>cases c
 all_goals (
  go_enter Tryz.func31,Tryz.ntmps31
  go_wp2_with (with_reducible (refine (MY.out _).mono ?_);rintro e w1 ⟨rfl,rfl⟩)
  go_ret2
  exact ⟨rfl,by repeat (first | exact BN.out _ | apply Below.drew)⟩)
theorem qhol_3 (f:Fl)(W:World):Calls Tryz.prog 31 #[.int .i8 3,.agg (fC f)] W fun e w'=>e=.returned (.tuple #[.bool (holF 3 f),.int .i64 (holE 3 f)])∧Below W.heap.size W w':=by
 obtain ⟨k,c,z,s,o⟩:=f
 have MY:=Lib.hid (fun W=>qmay_n 3 W)
 have BN:=Lib.hid (below_new (Below.refl W.heap.size W))
 cases k
 case' true=>cases c
 all_goals (
  go_enter Tryz.func31,Tryz.ntmps31
  go_wp2_with (with_reducible (refine (MY.out _).mono ?_);rintro e w1 ⟨rfl,rfl⟩)
  go_ret2
  exact ⟨rfl,by repeat (first | exact BN.out _ | apply Below.drew)⟩)
theorem qhol_4 (f:Fl)(W:World):Calls Tryz.prog 31 #[.int .i8 4,.agg (fC f)] W fun e w'=>e=.returned (.tuple #[.bool (holF 4 f),.int .i64 (holE 4 f)])∧Below W.heap.size W w':=by
 obtain ⟨k,c,z,s,o⟩:=f
 have MY:=Lib.hid (fun W=>qmay_n 4 W)
 have BN:=Lib.hid (below_new (Below.refl W.heap.size W))
 cases k
 case' true=>cases z
 all_goals (
  go_enter Tryz.func31,Tryz.ntmps31
  go_wp2_with (with_reducible (refine (MY.out _).mono ?_);rintro e w1 ⟨rfl,rfl⟩)
  go_ret2
  exact ⟨rfl,by repeat (first | exact BN.out _ | apply Below.drew)⟩)
theorem qhol_5 (f:Fl)(W:World):Calls Tryz.prog 31 #[.int .i8 5,.agg (fC f)] W fun e w'=>e=.returned (.tuple #[.bool (holF 5 f),.int .i64 (holE 5 f)])∧Below W.heap.size W w':=by
 obtain ⟨k,c,z,s,o⟩:=f
 have MY:=Lib.hid (fun W=>qmay_n 5 W)
 have BN:=Lib.hid (below_new (Below.refl W.heap.size W))
 cases k
 case' true=>cases z
 all_goals (
  go_enter Tryz.func31,Tryz.ntmps31
  go_wp2_with (with_reducible (refine (MY.out _).mono ?_);rintro e w1 ⟨rfl,rfl⟩)
  go_ret2
  exact ⟨rfl,by repeat (first | exact BN.out _ | apply Below.drew)⟩)
theorem qhol_6 (f:Fl)(W:World):Calls Tryz.prog 31 #[.int .i8 6,.agg (fC f)] W fun e w'=>e=.returned (.tuple #[.bool (holF 6 f),.int .i64 (holE 6 f)])∧Below W.heap.size W w':=by
 obtain ⟨k,c,z,s,o⟩:=f
 have MY:=Lib.hid (fun W=>qmay_n 6 W)
 have BN:=Lib.hid (below_new (Below.refl W.heap.size W))
 cases k
 case' true=>cases c <;> cases z
 all_goals (
  go_enter Tryz.func31,Tryz.ntmps31
  go_wp2_with (with_reducible (refine (MY.out _).mono ?_);rintro e w1 ⟨rfl,rfl⟩)
  go_ret2
  exact ⟨rfl,by repeat (first | exact BN.out _ | apply Below.drew)⟩)
theorem qhol_7 (f:Fl)(W:World):Calls Tryz.prog 31 #[.int .i8 7,.agg (fC f)] W fun e w'=>e=.returned (.tuple #[.bool (holF 7 f),.int .i64 (holE 7 f)])∧Below W.heap.size W w':=by
 obtain ⟨k,c,z,s,o⟩:=f
 have MY:=Lib.hid (fun W=>qmay_n 7 W)
 have BN:=Lib.hid (below_new (Below.refl W.heap.size W))
 cases k
 case' true=>cases c <;> cases z
 all_goals (
  go_enter Tryz.func31,Tryz.ntmps31
  go_wp2_with (with_reducible (refine (MY.out _).mono ?_);rintro e w1 ⟨rfl,rfl⟩)
  go_ret2
  exact ⟨rfl,by repeat (first | exact BN.out _ | apply Below.drew)⟩)
theorem qhol_12 (f:Fl)(W:World):Calls Tryz.prog 31 #[.int .i8 12,.agg (fC f)] W fun e w'=>e=.returned (.tuple #[.bool (holF 12 f),.int .i64 (holE 12 f)])∧Below W.heap.size W w':=by
 obtain ⟨k,c,z,s,o⟩:=f
 have MY:=Lib.hid (fun W=>qmay_n 12 W)
 have BN:=Lib.hid (below_new (Below.refl W.heap.size W))
 cases k
 case' true=>cases s <;> cases o
 all_goals (
  go_enter Tryz.func31,Tryz.ntmps31
  go_wp2_with (with_reducible (refine (MY.out _).mono ?_);rintro e w1 ⟨rfl,rfl⟩)
  go_ret2
  exact ⟨rfl,by repeat (first | exact BN.out _ | apply Below.drew)⟩)
theorem qhol_13 (f:Fl)(W:World):Calls Tryz.prog 31 #[.int .i8 13,.agg (fC f)] W fun e w'=>e=.returned (.tuple #[.bool (holF 13 f),.int .i64 (holE 13 f)])∧Below W.heap.size W w':=by
 obtain ⟨k,c,z,s,o⟩:=f
 have MY:=Lib.hid (fun W=>qmay_n 13 W)
 have BN:=Lib.hid (below_new (Below.refl W.heap.size W))
 cases k
 case' true=>cases s <;> cases o
 all_goals (
  go_enter Tryz.func31,Tryz.ntmps31
  go_wp2_with (with_reducible (refine (MY.out _).mono ?_);rintro e w1 ⟨rfl,rfl⟩)
  go_ret2
  exact ⟨rfl,by repeat (first | exact BN.out _ | apply Below.drew)⟩)
theorem qhol_14 (f:Fl)(W:World):Calls Tryz.prog 31 #[.int .i8 14,.agg (fC f)] W fun e w'=>e=.returned (.tuple #[.bool (holF 14 f),.int .i64 (holE 14 f)])∧Below W.heap.size W w':=by
 obtain ⟨k,c,z,s,o⟩:=f
 have MY:=Lib.hid (fun W=>qmay_n 14 W)
 have BN:=Lib.hid (below_new (Below.refl W.heap.size W))
 cases k
 case' true=>cases z <;> cases s <;> cases o
 all_goals (
  go_enter Tryz.func31,Tryz.ntmps31
  go_wp2_with (with_reducible (refine (MY.out _).mono ?_);rintro e w1 ⟨rfl,rfl⟩)
  go_ret2
  exact ⟨rfl,by repeat (first | exact BN.out _ | apply Below.drew)⟩)
theorem qhol_15 (f:Fl)(W:World):Calls Tryz.prog 31 #[.int .i8 15,.agg (fC f)] W fun e w'=>e=.returned (.tuple #[.bool (holF 15 f),.int .i64 (holE 15 f)])∧Below W.heap.size W w':=by
 obtain ⟨k,c,z,s,o⟩:=f
 have MY:=Lib.hid (fun W=>qmay_n 15 W)
 have BN:=Lib.hid (below_new (Below.refl W.heap.size W))
 cases k
 case' true=>cases z <;> cases s <;> cases o
 all_goals (
  go_enter Tryz.func31,Tryz.ntmps31
  go_wp2_with (with_reducible (refine (MY.out _).mono ?_);rintro e w1 ⟨rfl,rfl⟩)
  go_ret2
  exact ⟨rfl,by repeat (first | exact BN.out _ | apply Below.drew)⟩)
theorem qhol_no (cc:Int)(f:Fl)(W:World)(h:mayC cc=false)(h1:cc≤127):Calls Tryz.prog 31 #[.int .i8 cc,.agg (fC f)] W fun e w'=>e=.returned (.tuple #[.bool false,.int .i64 2])∧Below W.heap.size W w':=by
 refine calls_abs Tryz.func31 rfl (Nat.le_of_ble_eq_true rfl) ?_
 intro a0 d0 z0 h0
 replace z0:a0.tmps.size=52:=z0
 have s0_0:a0.tmps.getD 0 undef=.int .i8 cc:=h0 0 (Nat.le_of_ble_eq_true rfl)
 have s1_0:a0.tmps.getD 1 undef=.agg (fC f):=h0 1 (Nat.le_of_ble_eq_true rfl)
 refine wp_seq ?_
 refine go_reg [] [⟨0,3,25,(fC f),none,#[]⟩] [none,oF,some (.int .i64 0)] mo d0 z0 (Below.refl _ _) (by kernel_rfl) trivial (
  hk (fun cx=>cx.al (wn rfl) 0 rfl (ex_box rfl (cx.rq 1 s1_0) rfl) rfl rfl rfl rfl rfl trivial) <|
  kq (fun cx=>ex_as rfl rfl) <|
  kq (fun cx=>ex_as rfl rfl) <|
  hn) ?_
 intro a1 w1 f1
 obtain ⟨g1,u_g1,q_g1,b_g1⟩:=f1.al.1
 refine wp_seq ?_
 refine wp_seq ?_
 have s0_1:=f1.q 0 s0_0
 refine go_reg [] [] [some (.int .i8 cc),oF,oT] mo f1.d f1.z f1.b (by kernel_rfl) trivial (
  kq (fun cx=>ex_mv rfl (cx.rq 0 s0_1)) <|
  hc (fun _ _ wx cx=>cx.c rfl (args1 cx.u0) Tryz.func75 (by decide +kernel) (((qmay_no cc h wx).mono (by rintro e w' ⟨rfl,rfl⟩;exact ⟨rfl,Below.refl _ _⟩))) rfl rfl) <|
  kq (fun cx=>ex_not (x:=.tmp 8) rfl cx.u0) <|
  hn) ?_
 intro a2 w2 f2
 refine wp_cond_true (f2.vv 2) ?_
 refine wp_seq ?_
 refine go_reg [] [] [oF,some (.int .i64 2)] mo f2.d f2.z f2.b (by kernel_rfl) trivial (
  kq (fun cx=>ex_as rfl rfl) <|
  kq (fun cx=>ex_as rfl rfl) <|
  hn) ?_
 intro a3 w3 f3
 refine wp_ret ?_
 try simp only [Exit.inBlock,Exit.then]
 refine bodyPost_ret (res_tt (fn:=Tryz.f31) rfl (f3.vv 0) (f3.vv 1)) f3.d ?_
 exact ⟨rfl,f3.b⟩
theorem qholds_n (cc:Int)(f:Fl)(W:World)(h1:cc≤127):Calls Tryz.prog 31 #[.int .i8 cc,.agg (fC f)] W fun e w'=>e=.returned (.tuple #[.bool (holF cc f),.int .i64 (holE cc f)])∧Below W.heap.size W w':=by
 cases h:mayC cc
 ·rw [show holF cc f=false from if_neg (by simp [h]),show holE cc f=2 from if_neg (by simp [h])]
  exact qhol_no cc f W h h1
 ·rcases may_cases h with rfl | rfl | rfl | rfl | rfl | rfl | rfl | rfl | rfl | rfl
  ·exact qhol_2 f W
  ·exact qhol_3 f W
  ·exact qhol_4 f W
  ·exact qhol_5 f W
  ·exact qhol_6 f W
  ·exact qhol_7 f W
  ·exact qhol_12 f W
  ·exact qhol_13 f W
  ·exact qhol_14 f W
  ·exact qhol_15 f W
end Go.Proofs.YtjhedldplmhmjaaGreatDoor.Flg
