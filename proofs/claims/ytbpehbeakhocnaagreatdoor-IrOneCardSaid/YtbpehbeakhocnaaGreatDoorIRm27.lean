import Derived.Test.YtbpehbeakhocnaaGreatDoorIRm26
import Derived.Lib.Hide
set_option maxHeartbeats 4000000
set_option linter.unusedVariables false
set_option linter.unusedSimpArgs false
set_option linter.unnecessarySimpa false
namespace Go.Proofs.YtbpehbeakhocnaaGreatDoor.Flg
open Go Go.RowKit
set_option maxRecDepth 100000
theorem cond_2 (W:World):Calls Tryz.prog 105 #[.int .i8 2] W fun e w'=>e=.returned (.func (.func 126) #[] #[]) ∧ Below W.heap.size W w':=by
  go_enter Tryz.func105,Tryz.ntmps105
  go_wp2
  go_ret
  refine ⟨rfl,?_⟩
  repeat (first | exact Below.refl _ _ | refine below_new ?_ _)
theorem cond_3 (W:World):Calls Tryz.prog 105 #[.int .i8 3] W fun e w'=>e=.returned (.func (.func 127) #[] #[]) ∧ Below W.heap.size W w':=by
  go_enter Tryz.func105,Tryz.ntmps105
  go_wp2
  go_ret
  refine ⟨rfl,?_⟩
  repeat (first | exact Below.refl _ _ | refine below_new ?_ _)
theorem cond_4 (W:World):Calls Tryz.prog 105 #[.int .i8 4] W fun e w'=>e=.returned (.func (.func 128) #[] #[]) ∧ Below W.heap.size W w':=by
  go_enter Tryz.func105,Tryz.ntmps105
  go_wp2
  go_ret
  refine ⟨rfl,?_⟩
  repeat (first | exact Below.refl _ _ | refine below_new ?_ _)
theorem cond_5 (W:World):Calls Tryz.prog 105 #[.int .i8 5] W fun e w'=>e=.returned (.func (.func 129) #[] #[]) ∧ Below W.heap.size W w':=by
  go_enter Tryz.func105,Tryz.ntmps105
  go_wp2
  go_ret
  refine ⟨rfl,?_⟩
  repeat (first | exact Below.refl _ _ | refine below_new ?_ _)
theorem cond_6 (W:World):Calls Tryz.prog 105 #[.int .i8 6] W fun e w'=>e=.returned (.func (.func 130) #[] #[]) ∧ Below W.heap.size W w':=by
  go_enter Tryz.func105,Tryz.ntmps105
  go_wp2
  go_ret
  refine ⟨rfl,?_⟩
  repeat (first | exact Below.refl _ _ | refine below_new ?_ _)
theorem cond_7 (W:World):Calls Tryz.prog 105 #[.int .i8 7] W fun e w'=>e=.returned (.func (.func 131) #[] #[]) ∧ Below W.heap.size W w':=by
  go_enter Tryz.func105,Tryz.ntmps105
  go_wp2
  go_ret
  refine ⟨rfl,?_⟩
  repeat (first | exact Below.refl _ _ | refine below_new ?_ _)
theorem cond_12 (W:World):Calls Tryz.prog 105 #[.int .i8 12] W fun e w'=>e=.returned (.func (.func 132) #[] #[]) ∧ Below W.heap.size W w':=by
  go_enter Tryz.func105,Tryz.ntmps105
  go_wp2
  go_ret
  refine ⟨rfl,?_⟩
  repeat (first | exact Below.refl _ _ | refine below_new ?_ _)
theorem cond_13 (W:World):Calls Tryz.prog 105 #[.int .i8 13] W fun e w'=>e=.returned (.func (.func 133) #[] #[]) ∧ Below W.heap.size W w':=by
  go_enter Tryz.func105,Tryz.ntmps105
  go_wp2
  go_ret
  refine ⟨rfl,?_⟩
  repeat (first | exact Below.refl _ _ | refine below_new ?_ _)
theorem cond_14 (W:World):Calls Tryz.prog 105 #[.int .i8 14] W fun e w'=>e=.returned (.func (.func 134) #[] #[]) ∧ Below W.heap.size W w':=by
  go_enter Tryz.func105,Tryz.ntmps105
  go_wp2
  go_ret
  refine ⟨rfl,?_⟩
  repeat (first | exact Below.refl _ _ | refine below_new ?_ _)
theorem cond_15 (W:World):Calls Tryz.prog 105 #[.int .i8 15] W fun e w'=>e=.returned (.func (.func 135) #[] #[]) ∧ Below W.heap.size W w':=by
  go_enter Tryz.func105,Tryz.ntmps105
  go_wp2
  go_ret
  refine ⟨rfl,?_⟩
  repeat (first | exact Below.refl _ _ | refine below_new ?_ _)
theorem cond_neg (cc:Int) (h:cc < 0) (W:World):Calls Tryz.prog 105 #[.int .i8 cc] W fun e w'=>e=.returned (.nilFunc) ∧ Below W.heap.size W w':=by
  go_enter Tryz.func105,Tryz.ntmps105
  go_wp2
  go_ret
  refine ⟨rfl,?_⟩
  repeat (first | exact Below.refl _ _ | refine below_new ?_ _)
theorem cond_big (cc:Int) (h:16 ≤ cc) (h1:cc ≤ 127) (W:World):Calls Tryz.prog 105 #[.int .i8 cc] W fun e w'=>e=.returned (.nilFunc) ∧ Below W.heap.size W w':=by
  have h2:¬ cc < 0:=by omega
  have h3:wrap64 cc=cc:=by unfold wrap64;omega
  go_enter Tryz.func105,Tryz.ntmps105
  go_wp2
  go_ret
  refine ⟨rfl,?_⟩
  repeat (first | exact Below.refl _ _ | refine below_new ?_ _)
theorem cond_no0 (W:World):Calls Tryz.prog 105 #[.int .i8 0] W fun e w'=>e=.returned (.nilFunc) ∧ Below W.heap.size W w':=by
  go_enter Tryz.func105,Tryz.ntmps105
  go_wp2
  go_ret
  refine ⟨rfl,?_⟩
  repeat (first | exact Below.refl _ _ | refine below_new ?_ _)
theorem cond_no1 (W:World):Calls Tryz.prog 105 #[.int .i8 1] W fun e w'=>e=.returned (.nilFunc) ∧ Below W.heap.size W w':=by
  go_enter Tryz.func105,Tryz.ntmps105
  go_wp2
  go_ret
  refine ⟨rfl,?_⟩
  repeat (first | exact Below.refl _ _ | refine below_new ?_ _)
theorem cond_no8 (W:World):Calls Tryz.prog 105 #[.int .i8 8] W fun e w'=>e=.returned (.nilFunc) ∧ Below W.heap.size W w':=by
  go_enter Tryz.func105,Tryz.ntmps105
  go_wp2
  go_ret
  refine ⟨rfl,?_⟩
  repeat (first | exact Below.refl _ _ | refine below_new ?_ _)
theorem cond_no9 (W:World):Calls Tryz.prog 105 #[.int .i8 9] W fun e w'=>e=.returned (.nilFunc) ∧ Below W.heap.size W w':=by
  go_enter Tryz.func105,Tryz.ntmps105
  go_wp2
  go_ret
  refine ⟨rfl,?_⟩
  repeat (first | exact Below.refl _ _ | refine below_new ?_ _)
theorem cond_no10 (W:World):Calls Tryz.prog 105 #[.int .i8 10] W fun e w'=>e=.returned (.nilFunc) ∧ Below W.heap.size W w':=by
  go_enter Tryz.func105,Tryz.ntmps105
  go_wp2
  go_ret
  refine ⟨rfl,?_⟩
  repeat (first | exact Below.refl _ _ | refine below_new ?_ _)
theorem cond_no11 (W:World):Calls Tryz.prog 105 #[.int .i8 11] W fun e w'=>e=.returned (.nilFunc) ∧ Below W.heap.size W w':=by
  go_enter Tryz.func105,Tryz.ntmps105
  go_wp2
  go_ret
  refine ⟨rfl,?_⟩
  repeat (first | exact Below.refl _ _ | refine below_new ?_ _)
theorem faFlE25_1_0 (g:Nat) (w:World):(Instr.fieldAt 28 (.pointer (some ⟨g,0,none⟩)) 1).run Tryz.prog w=.ok (.pointer (some ⟨g,1,none⟩)) w:=by simp [go_sem]
theorem faFlE25_2_0 (g:Nat) (w:World):(Instr.fieldAt 28 (.pointer (some ⟨g,0,none⟩)) 2).run Tryz.prog w=.ok (.pointer (some ⟨g,2,none⟩)) w:=by simp [go_sem]
theorem faFlE25_3_0 (g:Nat) (w:World):(Instr.fieldAt 28 (.pointer (some ⟨g,0,none⟩)) 3).run Tryz.prog w=.ok (.pointer (some ⟨g,3,none⟩)) w:=by simp [go_sem]
theorem faFlE25_4_0 (g:Nat) (w:World):(Instr.fieldAt 28 (.pointer (some ⟨g,0,none⟩)) 4).run Tryz.prog w=.ok (.pointer (some ⟨g,4,none⟩)) w:=by simp [go_sem]
theorem ccF_2 (f:Fl):ccF 2 f=f.c:=rfl
theorem holF_2 (f:Fl):holF 2 f=(f.k && ccF 2 f):=by obtain ⟨k,c,z,s,o⟩:=f;cases k <;> rfl
theorem holE_2 (f:Fl):holE 2 f=(if f.k=true then 0 else 20):=rfl
theorem ccF_3 (f:Fl):ccF 3 f=!f.c:=rfl
theorem holF_3 (f:Fl):holF 3 f=(f.k && ccF 3 f):=by obtain ⟨k,c,z,s,o⟩:=f;cases k <;> rfl
theorem holE_3 (f:Fl):holE 3 f=(if f.k=true then 0 else 20):=rfl
theorem ccF_4 (f:Fl):ccF 4 f=f.z:=rfl
theorem holF_4 (f:Fl):holF 4 f=(f.k && ccF 4 f):=by obtain ⟨k,c,z,s,o⟩:=f;cases k <;> rfl
theorem holE_4 (f:Fl):holE 4 f=(if f.k=true then 0 else 20):=rfl
theorem ccF_5 (f:Fl):ccF 5 f=!f.z:=rfl
theorem holF_5 (f:Fl):holF 5 f=(f.k && ccF 5 f):=by obtain ⟨k,c,z,s,o⟩:=f;cases k <;> rfl
theorem holE_5 (f:Fl):holE 5 f=(if f.k=true then 0 else 20):=rfl
theorem ccF_6 (f:Fl):ccF 6 f=(f.c || f.z):=rfl
theorem holF_6 (f:Fl):holF 6 f=(f.k && ccF 6 f):=by obtain ⟨k,c,z,s,o⟩:=f;cases k <;> rfl
theorem holE_6 (f:Fl):holE 6 f=(if f.k=true then 0 else 20):=rfl
theorem ccF_7 (f:Fl):ccF 7 f=(!f.c && !f.z):=rfl
theorem holF_7 (f:Fl):holF 7 f=(f.k && ccF 7 f):=by obtain ⟨k,c,z,s,o⟩:=f;cases k <;> rfl
theorem holE_7 (f:Fl):holE 7 f=(if f.k=true then 0 else 20):=rfl
theorem ccF_12 (f:Fl):ccF 12 f=(f.s != f.o):=rfl
theorem holF_12 (f:Fl):holF 12 f=(f.k && ccF 12 f):=by obtain ⟨k,c,z,s,o⟩:=f;cases k <;> rfl
theorem holE_12 (f:Fl):holE 12 f=(if f.k=true then 0 else 20):=rfl
theorem ccF_13 (f:Fl):ccF 13 f=(f.s == f.o):=rfl
theorem holF_13 (f:Fl):holF 13 f=(f.k && ccF 13 f):=by obtain ⟨k,c,z,s,o⟩:=f;cases k <;> rfl
theorem holE_13 (f:Fl):holE 13 f=(if f.k=true then 0 else 20):=rfl
theorem ccF_14 (f:Fl):ccF 14 f=(f.z || f.s != f.o):=rfl
theorem holF_14 (f:Fl):holF 14 f=(f.k && ccF 14 f):=by obtain ⟨k,c,z,s,o⟩:=f;cases k <;> rfl
theorem holE_14 (f:Fl):holE 14 f=(if f.k=true then 0 else 20):=rfl
theorem ccF_15 (f:Fl):ccF 15 f=(!f.z && f.s == f.o):=rfl
theorem holF_15 (f:Fl):holF 15 f=(f.k && ccF 15 f):=by obtain ⟨k,c,z,s,o⟩:=f;cases k <;> rfl
theorem holE_15 (f:Fl):holE 15 f=(if f.k=true then 0 else 20):=rfl
theorem kn_of {f:Fl} {b:Bool} (h:(!(eqF f ⟨true,f.c,f.z,f.s,f.o⟩))=b):f.k=!b:=by
  rw [eqF_known] at h
  rw [← h];simp
theorem bn_f (b:Bool):(b != false)=b:=by cases b <;> rfl
theorem bn_t (b:Bool):(b != true)=!b:=by cases b <;> rfl
theorem bn_n (a b:Bool):(!(a != b))=(a == b):=by cases a <;> cases b <;> rfl
theorem bang {a b:Bool} (h:(!a)=b):a=!b:=by rw [← h];simp
theorem clo_2 (f:Fl) (W:World):Calls Tryz.prog 126 #[.agg (fC f)] W fun e w'=>e=.returned (.bool (ccF 2 f)) ∧ Below W.heap.size W w':=by
  obtain ⟨k,c,z,s,o⟩:=f
  cases c <;> (
    go_enter Tryz.func126,Tryz.ntmps126
    go_wp2
    go_ret
    exact ⟨rfl,by repeat (first | exact below_new (Below.refl _ _) _ | exact Below.refl _ _ | apply Below.drew)⟩)
theorem clo_3 (f:Fl) (W:World):Calls Tryz.prog 127 #[.agg (fC f)] W fun e w'=>e=.returned (.bool (ccF 3 f)) ∧ Below W.heap.size W w':=by
  obtain ⟨k,c,z,s,o⟩:=f
  cases c <;> (
    go_enter Tryz.func127,Tryz.ntmps127
    go_wp2
    go_ret
    exact ⟨rfl,by repeat (first | exact below_new (Below.refl _ _) _ | exact Below.refl _ _ | apply Below.drew)⟩)
theorem clo_4 (f:Fl) (W:World):Calls Tryz.prog 128 #[.agg (fC f)] W fun e w'=>e=.returned (.bool (ccF 4 f)) ∧ Below W.heap.size W w':=by
  obtain ⟨k,c,z,s,o⟩:=f
  cases z <;> (
    go_enter Tryz.func128,Tryz.ntmps128
    go_wp2
    go_ret
    exact ⟨rfl,by repeat (first | exact below_new (Below.refl _ _) _ | exact Below.refl _ _ | apply Below.drew)⟩)
theorem clo_5 (f:Fl) (W:World):Calls Tryz.prog 129 #[.agg (fC f)] W fun e w'=>e=.returned (.bool (ccF 5 f)) ∧ Below W.heap.size W w':=by
  obtain ⟨k,c,z,s,o⟩:=f
  cases z <;> (
    go_enter Tryz.func129,Tryz.ntmps129
    go_wp2
    go_ret
    exact ⟨rfl,by repeat (first | exact below_new (Below.refl _ _) _ | exact Below.refl _ _ | apply Below.drew)⟩)
theorem clo_6 (f:Fl) (W:World):Calls Tryz.prog 130 #[.agg (fC f)] W fun e w'=>e=.returned (.bool (ccF 6 f)) ∧ Below W.heap.size W w':=by
  obtain ⟨k,c,z,s,o⟩:=f
  cases c <;> cases z <;> (
    go_enter Tryz.func130,Tryz.ntmps130
    go_wp2
    go_ret
    exact ⟨rfl,by repeat (first | exact below_new (Below.refl _ _) _ | exact Below.refl _ _ | apply Below.drew)⟩)
theorem clo_7 (f:Fl) (W:World):Calls Tryz.prog 131 #[.agg (fC f)] W fun e w'=>e=.returned (.bool (ccF 7 f)) ∧ Below W.heap.size W w':=by
  obtain ⟨k,c,z,s,o⟩:=f
  cases c <;> cases z <;> (
    go_enter Tryz.func131,Tryz.ntmps131
    go_wp2
    go_ret
    exact ⟨rfl,by repeat (first | exact below_new (Below.refl _ _) _ | exact Below.refl _ _ | apply Below.drew)⟩)
theorem clo_12 (f:Fl) (W:World):Calls Tryz.prog 132 #[.agg (fC f)] W fun e w'=>e=.returned (.bool (ccF 12 f)) ∧ Below W.heap.size W w':=by
  obtain ⟨k,c,z,s,o⟩:=f
  cases s <;> cases o <;> (
    go_enter Tryz.func132,Tryz.ntmps132
    go_wp2
    go_ret
    exact ⟨rfl,by repeat (first | exact below_new (Below.refl _ _) _ | exact Below.refl _ _ | apply Below.drew)⟩)
theorem clo_13 (f:Fl) (W:World):Calls Tryz.prog 133 #[.agg (fC f)] W fun e w'=>e=.returned (.bool (ccF 13 f)) ∧ Below W.heap.size W w':=by
  obtain ⟨k,c,z,s,o⟩:=f
  cases s <;> cases o <;> (
    go_enter Tryz.func133,Tryz.ntmps133
    go_wp2
    go_ret
    exact ⟨rfl,by repeat (first | exact below_new (Below.refl _ _) _ | exact Below.refl _ _ | apply Below.drew)⟩)
theorem clo_14 (f:Fl) (W:World):Calls Tryz.prog 134 #[.agg (fC f)] W fun e w'=>e=.returned (.bool (ccF 14 f)) ∧ Below W.heap.size W w':=by
  obtain ⟨k,c,z,s,o⟩:=f
  cases z <;> cases s <;> cases o <;> (
    go_enter Tryz.func134,Tryz.ntmps134
    go_wp2
    go_ret
    exact ⟨rfl,by repeat (first | exact below_new (Below.refl _ _) _ | exact Below.refl _ _ | apply Below.drew)⟩)
theorem clo_15 (f:Fl) (W:World):Calls Tryz.prog 135 #[.agg (fC f)] W fun e w'=>e=.returned (.bool (ccF 15 f)) ∧ Below W.heap.size W w':=by
  obtain ⟨k,c,z,s,o⟩:=f
  cases z <;> cases s <;> cases o <;> (
    go_enter Tryz.func135,Tryz.ntmps135
    go_wp2
    go_ret
    exact ⟨rfl,by repeat (first | exact below_new (Below.refl _ _) _ | exact Below.refl _ _ | apply Below.drew)⟩)
theorem hol_gen (k:Int) (F:FuncId) (fn:Func) (f:Fl) (W:World) (hcn:∀ wx,Calls Tryz.prog 105 #[.int .i8 k] wx fun e w'=>e=.returned (.func (.func F) #[] #[]) ∧ Below wx.heap.size wx w') (hf:Tryz.prog.funcs[F]?=some fn) (hok:okF fn=true) (clo:∀ wx,Calls Tryz.prog F #[.agg (fC f)] wx fun e w'=>e=.returned (.bool (ccF k f)) ∧ Below wx.heap.size wx w') (hm:holF k f=(f.k && ccF k f)) (hE:holE k f=(if f.k=true then 0 else 20)):Calls Tryz.prog 114 #[.int .i8 k,.agg (fC f)] W fun e w'=>e=.returned (.tuple #[.bool (holF k f),.int .i64 (holE k f)]) ∧ Below W.heap.size W w':=by
  refine calls_abs Tryz.func114 rfl (Nat.le_of_ble_eq_true rfl) ?_
  intro a0 d0 z0 h0
  replace z0:a0.tmps.size=25:=z0
  have s0_0:a0.tmps.getD 0 undef=.int .i8 k:=h0 0 (Nat.le_of_ble_eq_true rfl)
  have s1_0:a0.tmps.getD 1 undef=.agg (fC f):=h0 1 (Nat.le_of_ble_eq_true rfl)
  refine wp_seq ?_
  refine go_reg [] [⟨0,3,28,(fC f),none,#[]⟩] [none,oF,some (.int .i64 0)] mo d0 z0 (Below.refl _ _) (by kernel_rfl) trivial (
   hk (fun cx=>cx.al (wn rfl) 0 rfl (ex_box rfl (cx.rq 1 s1_0) rfl) rfl rfl rfl rfl rfl trivial) <|
   hk (fun cx=>cx.q (ex_as rfl rfl)) <|
   hk (fun cx=>cx.q (ex_as rfl rfl)) <|
   hn) ?_
  intro a1 w1 f1
  obtain ⟨g1,u_g1,q_g1,b_g1⟩:=f1.al.1
  refine wp_seq ?_
  have s0_1:=f1.q 0 s0_0
  refine go_reg [] [] [some (.int .i8 k),some (.func (.func F) #[] #[]),some (.func (.func F) #[] #[])] mo f1.d f1.z f1.b (by kernel_rfl) trivial (
   hk (fun cx=>cx.q (ex_mv rfl (cx.rq 0 s0_1))) <|
   hc (fun _ _ wx cx=>cx.c rfl (args1 (cx.u 0 rfl)) Tryz.func105 (by decide +kernel) (hcn wx) rfl rfl) <|
   kmu 0 <|
   hn) ?_
  intro a2 w2 f2
  refine wp_seq ?_
  refine wp_seq ?_
  refine go_reg [] [] [some (.func (.func F) #[] #[]),oF] mo f2.d f2.z f2.b (by kernel_rfl) trivial (
   hk (fun cx=>cx.q (ex_mv rfl (cx.rq 6 (f2.v 2 rfl rfl rfl)))) <|
   hk (fun cx=>cx.q (ex_fn (x:=.tmp 9) rfl (cx.u 0 rfl) rfl)) <|
   hn) ?_
  intro a3 w3 f3
  refine wp_cond_false (f3.v 1 rfl rfl rfl) ?_
  refine wp_skip ?_
  refine wp_seq ?_
  refine wp_seq ?_
  cases fk1:!(eqF f ⟨true,f.c,f.z,f.s,f.o⟩)
  case false=>
   have Ffk1:=Lib.hid fk1;clear fk1
   have b_g1_2:=f3.k (f2.k b_g1)
   have s3_3:=f3.q 3 (f2.q 3 u_g1)
   refine go_reg [bx g1 28 (fC f)] [] [some (.agg (fC f)),some (pt g1 1),some (.bool f.c),some (pt g1 2),some (.bool f.z),some (pt g1 3),some (.bool f.s),some (pt g1 4),some (.bool f.o),some (.agg (fC ⟨true,f.c,f.z,f.s,f.o⟩)),oF] mo f3.d f3.z f3.b (by kernel_rfl) ⟨b_g1_2,trivial⟩ (
    hk (fun cx=>cx.q (ldF rfl (cx.rq 3 s3_3) (cx.rn 0 rfl))) <|
    hk (fun cx=>cx.q (ex_fa rfl (cx.rq 3 s3_3) (faFlE25_1_0 _ _))) <|
    hk (fun cx=>cx.q (ex_ld rfl (cx.u 0 rfl) (cx.rn 0 rfl) rfl Tryz.isAgg4)) <|
    hk (fun cx=>cx.q (ex_fa rfl (cx.rq 3 s3_3) (faFlE25_2_0 _ _))) <|
    hk (fun cx=>cx.q (ex_ld rfl (cx.u 0 rfl) (cx.rn 0 rfl) rfl Tryz.isAgg4)) <|
    hk (fun cx=>cx.q (ex_fa rfl (cx.rq 3 s3_3) (faFlE25_3_0 _ _))) <|
    hk (fun cx=>cx.q (ex_ld rfl (cx.u 0 rfl) (cx.rn 0 rfl) rfl Tryz.isAgg4)) <|
    hk (fun cx=>cx.q (ex_fa rfl (cx.rq 3 s3_3) (faFlE25_4_0 _ _))) <|
    hk (fun cx=>cx.q (ex_ld rfl (cx.u 0 rfl) (cx.rn 0 rfl) rfl Tryz.isAgg4)) <|
    hc (fun _ _ wx cx=>cx.c rfl (args4 (cx.u 0 rfl) (cx.u 1 rfl) (cx.u 2 rfl) (cx.u 3 rfl)) Tryz.func148 (by decide +kernel) (known_n f.c f.z f.s f.o wx) rfl rfl) <|
    hk (fun cx=>cx.v (v:=.bool (!(eqF f ⟨true,f.c,f.z,f.s,f.o⟩))) (exec_neq (x:=.tmp 11) (y:=.tmp 20) rfl (cx.u 0 rfl) (cx.u 1 rfl) (by kernel_rfl) (eq_f f ⟨true,f.c,f.z,f.s,f.o⟩ _)) rfl (congrArg Value.bool Ffk1.out)) <|
    hn) ?_
   intro a4 w4 f4
   refine wp_cond_false (f4.v 10 rfl rfl rfl) ?_
   refine wp_skip ?_
   refine wp_seq ?_
   have b_g1_4:=f4.k b_g1_2
   have s6_5:=f4.q 6 (f3.q 6 (f2.v 2 rfl rfl rfl))
   have s3_6:=f4.q 3 s3_3
   refine go_reg [bx g1 28 (fC f)] [] [some (.func (.func F) #[] #[]),some (.agg (fC f)),some (.bool (ccF k f)),some (.bool (ccF k f)),some (.int .i64 0)] mo f4.d f4.z f4.b (by kernel_rfl) ⟨b_g1_4,trivial⟩ (
    hk (fun cx=>cx.q (ex_mv rfl (cx.rq 6 s6_5))) <|
    hk (fun cx=>cx.q (ldF rfl (cx.rq 3 s3_6) (cx.rn 0 rfl))) <|
    hc (fun _ _ wx cx=>cx.callv (wn rfl) rfl rfl (cx.u 0 rfl) (args1 (cx.u 1 rfl)) hf hok (clo wx) rfl rfl rfl rfl) <|
    kmu 0 <|
    hk (fun cx=>cx.q (ex_as rfl rfl)) <|
    hn) ?_
   intro a5 w5 f5
   refine wp_ret ?_
   try simp only [Exit.inBlock,Exit.then]
   refine bodyPost_ret (res_tt (fn:=Tryz.f114) rfl (f5.v 3 rfl rfl rfl) (f5.v 4 rfl rfl rfl)) f5.d ?_
   have HE:(.tuple #[.bool (ccF k f),.int .i64 0]:Value)=.tuple #[.bool (holF k f),.int .i64 (holE k f)]:=by simp only [kn_of Ffk1.out,hm,hE,Bool.true_and,Bool.and_true,Bool.false_and,Bool.and_false,Bool.or_false,Bool.false_or,Bool.true_or,Bool.or_true,Bool.not_true,Bool.not_false,if_true,if_false,Bool.false_eq_true,Bool.true_eq_false,reduceCtorEq];try rfl
   exact ⟨retV HE,f5.b⟩
  have Ffk1:=Lib.hid fk1;clear fk1
  have b_g1_7:=f3.k (f2.k b_g1)
  have s3_8:=f3.q 3 (f2.q 3 u_g1)
  refine go_reg [bx g1 28 (fC f)] [] [some (.agg (fC f)),some (pt g1 1),some (.bool f.c),some (pt g1 2),some (.bool f.z),some (pt g1 3),some (.bool f.s),some (pt g1 4),some (.bool f.o),some (.agg (fC ⟨true,f.c,f.z,f.s,f.o⟩)),oT] mo f3.d f3.z f3.b (by kernel_rfl) ⟨b_g1_7,trivial⟩ (
   hk (fun cx=>cx.q (ldF rfl (cx.rq 3 s3_8) (cx.rn 0 rfl))) <|
   hk (fun cx=>cx.q (ex_fa rfl (cx.rq 3 s3_8) (faFlE25_1_0 _ _))) <|
   hk (fun cx=>cx.q (ex_ld rfl (cx.u 0 rfl) (cx.rn 0 rfl) rfl Tryz.isAgg4)) <|
   hk (fun cx=>cx.q (ex_fa rfl (cx.rq 3 s3_8) (faFlE25_2_0 _ _))) <|
   hk (fun cx=>cx.q (ex_ld rfl (cx.u 0 rfl) (cx.rn 0 rfl) rfl Tryz.isAgg4)) <|
   hk (fun cx=>cx.q (ex_fa rfl (cx.rq 3 s3_8) (faFlE25_3_0 _ _))) <|
   hk (fun cx=>cx.q (ex_ld rfl (cx.u 0 rfl) (cx.rn 0 rfl) rfl Tryz.isAgg4)) <|
   hk (fun cx=>cx.q (ex_fa rfl (cx.rq 3 s3_8) (faFlE25_4_0 _ _))) <|
   hk (fun cx=>cx.q (ex_ld rfl (cx.u 0 rfl) (cx.rn 0 rfl) rfl Tryz.isAgg4)) <|
   hc (fun _ _ wx cx=>cx.c rfl (args4 (cx.u 0 rfl) (cx.u 1 rfl) (cx.u 2 rfl) (cx.u 3 rfl)) Tryz.func148 (by decide +kernel) (known_n f.c f.z f.s f.o wx) rfl rfl) <|
   hk (fun cx=>cx.v (v:=.bool (!(eqF f ⟨true,f.c,f.z,f.s,f.o⟩))) (exec_neq (x:=.tmp 11) (y:=.tmp 20) rfl (cx.u 0 rfl) (cx.u 1 rfl) (by kernel_rfl) (eq_f f ⟨true,f.c,f.z,f.s,f.o⟩ _)) rfl (congrArg Value.bool Ffk1.out)) <|
   hn) ?_
  intro a6 w6 f6
  refine wp_cond_true (f6.v 10 rfl rfl rfl) ?_
  refine wp_seq ?_
  refine go_reg [] [] [oF,some (.int .i64 20)] mo f6.d f6.z f6.b (by kernel_rfl) trivial (
   hk (fun cx=>cx.q (ex_as rfl rfl)) <|
   hk (fun cx=>cx.q (ex_as rfl rfl)) <|
   hn) ?_
  intro a7 w7 f7
  refine wp_ret ?_
  try simp only [Exit.inBlock,Exit.then]
  refine bodyPost_ret (res_tt (fn:=Tryz.f114) rfl (f7.v 0 rfl rfl rfl) (f7.v 1 rfl rfl rfl)) f7.d ?_
  have HE:(.tuple #[.bool false,.int .i64 20]:Value)=.tuple #[.bool (holF k f),.int .i64 (holE k f)]:=by simp only [kn_of Ffk1.out,hm,hE,Bool.true_and,Bool.and_true,Bool.false_and,Bool.and_false,Bool.or_false,Bool.false_or,Bool.true_or,Bool.or_true,Bool.not_true,Bool.not_false,if_true,if_false,Bool.false_eq_true,Bool.true_eq_false,reduceCtorEq];try rfl
  exact ⟨retV HE,f7.b⟩
theorem hol_2 (f:Fl) (W:World):Calls Tryz.prog 114 #[.int .i8 2,.agg (fC f)] W fun e w'=>e=.returned (.tuple #[.bool (holF 2 f),.int .i64 (holE 2 f)]) ∧ Below W.heap.size W w':=
  hol_gen 2 _ _ f W (cond_2 ·) Tryz.func126 (by decide +kernel) (clo_2 f ·) (holF_2 f) (holE_2 f)
theorem hol_3 (f:Fl) (W:World):Calls Tryz.prog 114 #[.int .i8 3,.agg (fC f)] W fun e w'=>e=.returned (.tuple #[.bool (holF 3 f),.int .i64 (holE 3 f)]) ∧ Below W.heap.size W w':=
  hol_gen 3 _ _ f W (cond_3 ·) Tryz.func127 (by decide +kernel) (clo_3 f ·) (holF_3 f) (holE_3 f)
theorem hol_4 (f:Fl) (W:World):Calls Tryz.prog 114 #[.int .i8 4,.agg (fC f)] W fun e w'=>e=.returned (.tuple #[.bool (holF 4 f),.int .i64 (holE 4 f)]) ∧ Below W.heap.size W w':=
  hol_gen 4 _ _ f W (cond_4 ·) Tryz.func128 (by decide +kernel) (clo_4 f ·) (holF_4 f) (holE_4 f)
theorem hol_5 (f:Fl) (W:World):Calls Tryz.prog 114 #[.int .i8 5,.agg (fC f)] W fun e w'=>e=.returned (.tuple #[.bool (holF 5 f),.int .i64 (holE 5 f)]) ∧ Below W.heap.size W w':=
  hol_gen 5 _ _ f W (cond_5 ·) Tryz.func129 (by decide +kernel) (clo_5 f ·) (holF_5 f) (holE_5 f)
theorem hol_6 (f:Fl) (W:World):Calls Tryz.prog 114 #[.int .i8 6,.agg (fC f)] W fun e w'=>e=.returned (.tuple #[.bool (holF 6 f),.int .i64 (holE 6 f)]) ∧ Below W.heap.size W w':=
  hol_gen 6 _ _ f W (cond_6 ·) Tryz.func130 (by decide +kernel) (clo_6 f ·) (holF_6 f) (holE_6 f)
theorem hol_7 (f:Fl) (W:World):Calls Tryz.prog 114 #[.int .i8 7,.agg (fC f)] W fun e w'=>e=.returned (.tuple #[.bool (holF 7 f),.int .i64 (holE 7 f)]) ∧ Below W.heap.size W w':=
  hol_gen 7 _ _ f W (cond_7 ·) Tryz.func131 (by decide +kernel) (clo_7 f ·) (holF_7 f) (holE_7 f)
theorem hol_12 (f:Fl) (W:World):Calls Tryz.prog 114 #[.int .i8 12,.agg (fC f)] W fun e w'=>e=.returned (.tuple #[.bool (holF 12 f),.int .i64 (holE 12 f)]) ∧ Below W.heap.size W w':=
  hol_gen 12 _ _ f W (cond_12 ·) Tryz.func132 (by decide +kernel) (clo_12 f ·) (holF_12 f) (holE_12 f)
theorem hol_13 (f:Fl) (W:World):Calls Tryz.prog 114 #[.int .i8 13,.agg (fC f)] W fun e w'=>e=.returned (.tuple #[.bool (holF 13 f),.int .i64 (holE 13 f)]) ∧ Below W.heap.size W w':=
  hol_gen 13 _ _ f W (cond_13 ·) Tryz.func133 (by decide +kernel) (clo_13 f ·) (holF_13 f) (holE_13 f)
theorem hol_14 (f:Fl) (W:World):Calls Tryz.prog 114 #[.int .i8 14,.agg (fC f)] W fun e w'=>e=.returned (.tuple #[.bool (holF 14 f),.int .i64 (holE 14 f)]) ∧ Below W.heap.size W w':=
  hol_gen 14 _ _ f W (cond_14 ·) Tryz.func134 (by decide +kernel) (clo_14 f ·) (holF_14 f) (holE_14 f)
theorem hol_15 (f:Fl) (W:World):Calls Tryz.prog 114 #[.int .i8 15,.agg (fC f)] W fun e w'=>e=.returned (.tuple #[.bool (holF 15 f),.int .i64 (holE 15 f)]) ∧ Below W.heap.size W w':=
  hol_gen 15 _ _ f W (cond_15 ·) Tryz.func135 (by decide +kernel) (clo_15 f ·) (holF_15 f) (holE_15 f)
end Go.Proofs.YtbpehbeakhocnaaGreatDoor.Flg
