import Derived.Test.YtoghjpliemidkaaDoorEXm08
import Derived.Test.YtoghjpliemidkaaDoorEXm09
set_option linter.unusedVariables false
set_option linter.unusedSimpArgs false
set_option linter.unnecessarySimpa false
namespace Go.Proofs.YtoghjpliemidkaaDoor.Flg
open Go Go.RowKit
set_option linter.unusedVariables false
set_option linter.unusedSimpArgs false
set_option linter.unnecessarySimpa false
set_option maxRecDepth 100000
set_option maxHeartbeats 4000000 in
theorem hol_no (cc:Int) (f:Fl) (W:World) (h:mayC cc=false) (h1:cc ≤ 127):Calls Tryd.prog 122 #[.int .i8 cc,.agg (fC f)] W fun e w'=>e=.returned (.tuple #[.bool false,.int .i64 2]) ∧ Below W.heap.size W w':=by
  refine calls_abs Tryd.func122 rfl (Nat.le_of_ble_eq_true rfl) ?_
  intro a0 d0 z0 h0
  replace z0:a0.tmps.size=25:=z0
  have s0_0:a0.tmps.getD 0 undef=.int .i8 cc:=h0 0 (Nat.le_of_ble_eq_true rfl)
  have s1_0:a0.tmps.getD 1 undef=.agg (fC f):=h0 1 (Nat.le_of_ble_eq_true rfl)
  refine wp_seq ?_
  refine go_reg [] [⟨0,3,34,(fC f),none,#[]⟩] [none,oF,some (.int .i64 0)] mo d0 z0 (Below.refl _ _) (by kernel_rfl) trivial (
   hk (fun cx=>cx.al (wn rfl) 0 rfl (ex_box rfl (cx.rq 1 s1_0) rfl) rfl rfl rfl rfl rfl trivial) <|
   hk (fun cx=>cx.q (ex_as rfl rfl)) <|
   hk (fun cx=>cx.q (ex_as rfl rfl)) <|
   hn) ?_
  intro a1 w1 f1
  obtain ⟨g1,u_g1,q_g1,b_g1⟩:=f1.al.1
  refine wp_seq ?_
  have s0_1:=f1.q 0 s0_0
  refine go_reg [] [] [some (.int .i8 cc),some (.nilFunc),some (.nilFunc)] mo f1.d f1.z f1.b (by kernel_rfl) trivial (
   hk (fun cx=>cx.q (ex_mv rfl (cx.rq 0 s0_1))) <|
   hc (fun _ _ wx cx=>cx.c rfl (args1 (cx.u 0 rfl)) Tryd.func134 (by decide +kernel) (cond_none cc h h1 wx) rfl rfl) <|
   kmu 0 <|
   hn) ?_
  intro a2 w2 f2
  refine wp_seq ?_
  refine wp_seq ?_
  refine go_reg [] [] [some (.nilFunc),oT] mo f2.d f2.z f2.b (by kernel_rfl) trivial (
   hk (fun cx=>cx.q (ex_mv rfl (cx.rq 6 (f2.v 2 rfl rfl rfl)))) <|
   hk (fun cx=>cx.q (ex_fz (x:=.tmp 9) rfl (cx.u 0 rfl) rfl)) <|
   hn) ?_
  intro a3 w3 f3
  refine wp_cond_true (f3.v 1 rfl rfl rfl) ?_
  refine wp_seq ?_
  refine go_reg [] [] [oF,some (.int .i64 2)] mo f3.d f3.z f3.b (by kernel_rfl) trivial (
   hk (fun cx=>cx.q (ex_as rfl rfl)) <|
   hk (fun cx=>cx.q (ex_as rfl rfl)) <|
   hn) ?_
  intro a4 w4 f4
  refine wp_ret ?_
  try simp only [Exit.inBlock,Exit.then]
  refine bodyPost_ret (res_tt (fn:=Tryd.f122) rfl (f4.v 0 rfl rfl rfl) (f4.v 1 rfl rfl rfl)) f4.d ?_
  exact ⟨rfl,f4.b⟩
theorem holds_n (cc:Int) (f:Fl) (W:World) (h1:cc ≤ 127):Calls Tryd.prog 122 #[.int .i8 cc,.agg (fC f)] W fun e w'=>e=.returned (.tuple #[.bool (holF cc f),.int .i64 (holE cc f)]) ∧ Below W.heap.size W w':=by
  cases h:mayC cc
  · rw [show holF cc f=false from if_neg (by simp [h]),show holE cc f=2 from if_neg (by simp [h])]
    exact hol_no cc f W h h1
  · rcases may_cases h with rfl | rfl | rfl | rfl | rfl | rfl | rfl | rfl | rfl | rfl
    · exact hol_2 f W
    · exact hol_3 f W
    · exact hol_4 f W
    · exact hol_5 f W
    · exact hol_6 f W
    · exact hol_7 f W
    · exact hol_12 f W
    · exact hol_13 f W
    · exact hol_14 f W
    · exact hol_15 f W
end Go.Proofs.YtoghjpliemidkaaDoor.Flg
