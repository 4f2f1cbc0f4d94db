import Derived.Test.YtoghjpliemidkaaDoorEXm36
import Derived.Test.YtoghjpliemidkaaDoorEXa03
set_option linter.unusedVariables false
set_option linter.unusedSimpArgs false
set_option linter.unnecessarySimpa false
namespace Go.Proofs.YtoghjpliemidkaaDoor.Exe
open Go Go.RowKit
open Mrm (Xi xC zX mayX bytesX)
open Flg (Fl fC zF addF subF ofF holF holE mayC parts5 ex_beq ex_bne)
set_option linter.unusedVariables false
set_option linter.unusedSimpArgs false
set_option linter.unnecessarySimpa false
set_option maxRecDepth 100000
theorem faExecApartW26_0_0 (g:Nat) (w:World):(Instr.fieldAt 26 (.pointer (some ⟨g,0,none⟩)) 0).run Tryd.prog w=.ok (.pointer (some ⟨g,0,none⟩)) w:=by simp [go_sem]
theorem faExecApartW36_2_0 (g:Nat) (w:World):(Instr.fieldAt 36 (.pointer (some ⟨g,0,none⟩)) 2).run Tryd.prog w=.ok (.pointer (some ⟨g,21,none⟩)) w:=by simp [go_sem]
theorem faExecApartW36_0_0 (g:Nat) (w:World):(Instr.fieldAt 36 (.pointer (some ⟨g,0,none⟩)) 0).run Tryd.prog w=.ok (.pointer (some ⟨g,0,none⟩)) w:=by simp [go_sem]
theorem faExecApartW36_1_0 (g:Nat) (w:World):(Instr.fieldAt 36 (.pointer (some ⟨g,0,none⟩)) 1).run Tryd.prog w=.ok (.pointer (some ⟨g,16,none⟩)) w:=by simp [go_sem]
theorem eq_mc2 (a b:Mc) (h:a=b) (w:World):(Op.equalIn 10000 36 (.agg (mcC a)) (.agg (mcC b))).run Tryd.prog w=.ok true w:=by
  subst h;exact eq_mc a w
theorem i8_fin:∀ j:Fin 16,IntKind.i8.wrap (j.1:Int)=(j.1:Int):=by decide +kernel
theorem i8_k {k:Nat} (h:k < 16):IntKind.i8.wrap (k:Int)=(k:Int):=i8_fin ⟨k,h⟩
section
variable {ρ:Operand → Value} {q:Oper} {w:World} {P:Program}
theorem ex_shri {t z:TypeId} {x y:Operand} (ho:q.op=.binOp .shr t x y z) {k:IntKind} {a n:Int} (hx:ρ x=.int .i64 a) (hy:ρ y=.int k n) (h0:0 ≤ n) (h1:n ≤ 64):(execOp ρ q).run P w=.ok (.value (.int .i64 (a / 2 ^ n.toNat))) w:=by
  have e1:¬ n < 0:=by omega
  have e2:min n.toNat 64=n.toNat:=by omega
  simp [execOp,ho,hx,hy,go_sem,Op.shift,e1,e2]
end
section
variable {m:Mc} {x:Xi} {l:Int}
theorem bad_zero (h:(doXe m x l != 0)=true):(doX m x l)=zM:=by
  unfold doXe at h
  unfold doX
  cases hm:mayX x
  · rw [if_neg Bool.false_ne_true]
  · rw [hm,if_pos rfl] at h
    rw [if_pos rfl]
    cases hg:goX m x l with
    | none=>rfl
    | some n=>rw [hg] at h;exact absurd h (by simp)
theorem ok_of (h:(doXe m x l != 0)=false):mayX x=true ∧ ∃ n,effX (m.upA (IntKind.u64.wrap (m.a + IntKind.u64.wrap (lenX x)))) x l=some n ∧ (doX m x l)=n:=by
  unfold doXe at h
  cases hm:mayX x
  · rw [hm,if_neg Bool.false_ne_true] at h;cases h
  · rw [hm,if_pos rfl] at h
    refine ⟨rfl,?_⟩
    cases hg:goX m x l with
    | none=>rw [hg] at h;cases h
    | some n=>exact ⟨n,hg,by unfold doX;rw [hm,if_pos rfl,hg];rfl⟩
theorem goes {n:Mc} (hm:mayX x=true) (E:effX (m.upA (IntKind.u64.wrap (m.a + IntKind.u64.wrap (lenX x)))) x l=some n):(doX m x l)=n ∧ doXe m x l=0:=
  ⟨(if_pos hm).trans (by rw [show goX m x l=some n from E];rfl),(if_pos hm).trans (by rw [show goX m x l=some n from E];rfl)⟩
theorem at_stays {n:Mc} (hO:0 ≤ x.op ∧ x.op < 32) (n28:(x.op != 28)=true) (n29:(x.op != 29)=true) (n30:(x.op != 30)=true) (E:effX m x l=some n):n.a=m.a:=by
  simp only [bne_iff_ne,ne_eq] at n28 n29 n30
  rcases Mrm.lt32 hO with h | h | h | h | h | h | h | h | h | h | h | h | h | h | h | h | h | h | h | h | h | h | h | h | h | h | h | h | h | h | h | h
  · rw [eff_0 m l h] at E;cases E;rfl
  · rw [eff_1 m l h] at E;cases E;rfl
  · rw [eff_2 m l h] at E;cases E;rfl
  · rw [eff_3 m l h] at E;cases E;rfl
  · rw [eff_4 m l h] at E;cases E;rfl
  · rw [eff_5 m l h] at E;cases E;rfl
  · rw [eff_6 m l h] at E;cases E;rfl
  · rw [eff_7 m l h] at E;cases E;rfl
  · rw [eff_8 m l h] at E;cases E;rfl
  · rw [eff_9 m l h] at E;cases E;rfl
  · rw [eff_10 m l h] at E;cases E;rfl
  · rw [eff_11 m l h] at E;cases E;rfl
  · rw [eff_12 m l h] at E;cases E;rfl
  · rw [eff_13 m l h] at E;cases E;rfl
  · rw [eff_14 m l h] at E;cases E;rfl
  · rw [eff_15 m l h] at E;cases E;rfl
  · rw [eff_16 m l h] at E;cases E;rfl
  · rw [eff_17 m l h] at E;cases E;rfl
  · rw [eff_18 m l h] at E;cases E;rfl
  · rw [eff_19 m l h] at E;cases E;rfl
  · rw [eff_20 m l h] at E;cases E;rfl
  · rw [eff_21 m l h] at E;cases E;rfl
  · rw [eff_22 m l h] at E;cases E;rfl
  · rw [eff_23 m l h] at E;cases E;rfl
  · rw [eff_24 m l h] at E;cases hb:divB m x <;> rw [hb] at E <;> cases E;rfl
  · rw [eff_25 m l h] at E;cases hb:m.f.k <;> rw [hb] at E <;> cases E;rfl
  · rw [eff_26 m l h] at E;cases E;rfl
  · rw [eff_27 m l h] at E;cases E;rfl
  · exact absurd h n28
  · exact absurd h n29
  · exact absurd h n30
  · rw [show effX m x l=some (((m.setR 0 l).setR 1 0).setR 11 0) from eff_31 m l h] at E;cases E;rfl
end
set_option maxHeartbeats 4000000 in
theorem apart_n (m:Mc) (x:Xi) (l o b:Int) (W:World) (hT:Mrm.Tabs W) (hM:MOk m) (hX:Mrm.XOk x) (hl:U64 l) (ho:-128 ≤ o ∧ o < 128) (hb:U64 b):Calls Tryd.prog 4 #[.agg (mcC m),.agg (xC x),.int .u64 l,.int .i8 o,.int .u64 b] W fun e w'=>e=.returned (.bool true) ∧ Below W.heap.size W w':=by
  refine calls_abs Tryd.func4 rfl (Nat.le_of_ble_eq_true rfl) ?_
  intro a0 d0 z0 h0
  replace z0:a0.tmps.size=158:=z0
  have s0_0:a0.tmps.getD 0 undef=.agg (mcC m):=h0 0 (Nat.le_of_ble_eq_true rfl)
  have s1_0:a0.tmps.getD 1 undef=.agg (xC x):=h0 1 (Nat.le_of_ble_eq_true rfl)
  have s2_0:a0.tmps.getD 2 undef=.int .u64 l:=h0 2 (Nat.le_of_ble_eq_true rfl)
  have s3_0:a0.tmps.getD 3 undef=.int .i8 o:=h0 3 (Nat.le_of_ble_eq_true rfl)
  have s4_0:a0.tmps.getD 4 undef=.int .u64 b:=h0 4 (Nat.le_of_ble_eq_true rfl)
  refine wp_seq ?_
  refine go_reg [] [⟨0,5,36,(mcC m),none,#[]⟩,⟨1,6,26,(xC x),none,#[]⟩] [none,none,oF] mo d0 z0 (Below.refl _ _) (by kernel_rfl) trivial (
   hk (fun cx=>cx.al (wn rfl) 0 rfl (ex_box rfl (cx.rq 0 s0_0) rfl) rfl rfl rfl rfl rfl trivial) <|
   hk (fun cx=>cx.al (wn rfl) 1 rfl (ex_box rfl (cx.rq 1 s1_0) rfl) rfl rfl rfl rfl rfl trivial) <|
   hk (fun cx=>cx.q (ex_as rfl rfl)) <|
   hn) ?_
  intro a1 w1 f1
  obtain ⟨g1,u_g1,q_g1,b_g1⟩:=f1.al.1
  obtain ⟨g2,u_g2,q_g2,b_g2⟩:=f1.al.2.1
  refine wp_seq ?_
  have s2_1:=f1.q 2 s2_0
  refine go_reg [bx g1 36 (mcC m),bx g2 26 (xC x)] [⟨7,11,36,(mcC zM),some 8,(mcC (doX m x l))⟩] [some (.agg (mcC m)),some (.agg (xC x)),some (.int .u64 l),some (.tuple #[.agg (mcC (doX m x l)),.int .i64 (doXe m x l)]),some (.tuple #[.agg (mcC (doX m x l)),.int .i64 (doXe m x l)]),some (.agg (mcC (doX m x l))),some (.int .i64 (doXe m x l)),none,none,some (.int .i64 (doXe m x l))] mo f1.d f1.z f1.b (by kernel_rfl) ⟨b_g1,b_g2,trivial⟩ (
   hk (fun cx=>cx.q (ldMc rfl (cx.rq 5 u_g1) (cx.rn 0 rfl))) <|
   hk (fun cx=>cx.q (Mrm.ldX rfl (cx.rq 6 u_g2) (cx.rn 1 rfl))) <|
   hk (fun cx=>cx.q (ex_mv rfl (cx.rq 2 s2_1))) <|
   hc (fun _ _ wx cx=>cx.c rfl (args3 (cx.u 0 rfl) (cx.u 1 rfl) (cx.u 2 rfl)) Tryd.func11 (by decide +kernel) (do_n m x l wx (hT.below cx.S.1.1 (Nat.le_refl _)) hX hM hl) rfl rfl) <|
   kmu 0 <|
   hk (fun cx=>cx.q (ex_ext (x:=.tmp 19) rfl (cx.u 0 rfl) rfl)) <|
   hk (fun cx=>cx.q (ex_ext (x:=.tmp 19) rfl (cx.u 0 rfl) rfl)) <|
   hk (fun cx=>cx.al (wn rfl) 0 rfl (al_mc rfl) rfl rfl rfl rfl (by kernel_rfl) trivial) <|
   hk (fun cx=>cx.stA (wn rfl) rfl rfl 0 0 rfl rfl rfl rfl (cx.u 1 rfl) (by kernel_rfl) (Eq.refl 22) (mcC_one _) f1.b.size rfl rfl trivial) <|
   kmu 0 <|
   hn) ?_
  intro a2 w2 f2
  obtain ⟨g3,u_g3,q_g3,b_g3⟩:=f2.al.1
  refine wp_seq ?_
  refine wp_seq ?_
  cases fk1:(doXe m x l) != 0
  case false=>
   have Ffk1:=Lib.hid fk1;clear fk1
   obtain ⟨hm,n,hG,hD⟩:=ok_of Ffk1.out
   refine go_reg [] [] [some (.int .i64 (doXe m x l)),oF] mo f2.d f2.z f2.b (by kernel_rfl) trivial (
    hk (fun cx=>cx.q (ex_mv rfl (cx.rq 12 (f2.v 9 rfl rfl rfl)))) <|
    hk (fun cx=>cx.v (ex_ne (x:=.tmp 26) rfl (cx.u 0 rfl) rfl) rfl (congrArg Value.bool Ffk1.out)) <|
    hn) ?_
   intro a3 w3 f3
   refine wp_cond_false (f3.v 1 rfl rfl rfl) ?_
   refine wp_skip ?_
   refine wp_seq ?_
   have b_g2_2:=f3.k (f2.k b_g2)
   have s6_3:=f3.q 6 (f2.q 6 u_g2)
   refine go_reg [bx g2 26 (xC x)] [] [some (.agg (xC x)),some (.int .i64 (Mrm.writesX x)),some (.agg (xC x)),some (.int .i64 (Mrm.readsX x)),some (.int .i64 (Mrm.writesX x)),some (.int .i64 (Mrm.readsX x))] mo f3.d f3.z f3.b (by kernel_rfl) ⟨b_g2_2,trivial⟩ (
    hk (fun cx=>cx.q (Mrm.ldX rfl (cx.rq 6 s6_3) (cx.rn 0 rfl))) <|
    hc (fun _ _ wx cx=>cx.c rfl (args1 (cx.u 0 rfl)) Tryd.func13 (by decide +kernel) (Mrm.cwrites_n x hX wx (hT.below cx.S.1.1 (Nat.le_refl _))) rfl (congrArg (Value.int .i64) (by rw [hm];rfl))) <|
    hk (fun cx=>cx.q (Mrm.ldX rfl (cx.rq 6 s6_3) (cx.rn 0 rfl))) <|
    hc (fun _ _ wx cx=>cx.c rfl (args1 (cx.u 0 rfl)) Tryd.func14 (by decide +kernel) (Mrm.creads_n x hX wx (hT.below cx.S.1.1 (Nat.le_refl _))) rfl (congrArg (Value.int .i64) (by rw [hm];rfl))) <|
    kmu 0 <|
    kmu 0 <|
    hn) ?_
   intro a4 w4 f4
   refine wp_seq ?_
   refine wp_seq ?_
   refine go_reg [] [] [some (.int .i64 0)] mo f4.d f4.z f4.b (by kernel_rfl) trivial (
    hk (fun cx=>cx.q (ex_mv rfl rfl)) <|
    hn) ?_
   intro a5 w5 f5
   refine wp_block ?_
   have neL1_0_1:=(ne_ptr (pairAt f1.ps 0 1 (by decide) rfl rfl) u_g1 u_g2)
   have neL1_0_2:=(ne_row b_g1 q_g3)
   have neL1_1_2:=(ne_row b_g2 q_g3)
   have s2_4:=f5.q 2 (f4.q 2 (f3.q 2 (f2.q 2 s2_1)))
   have s3_5:=f5.q 3 (f4.q 3 (f3.q 3 (f2.q 3 (f1.q 3 s3_0))))
   have s4_6:=f5.q 4 (f4.q 4 (f3.q 4 (f2.q 4 (f1.q 4 s4_0))))
   have s5_7:=f5.q 5 (f4.q 5 (f3.q 5 (f2.q 5 u_g1)))
   have s6_8:=f5.q 6 (f4.q 6 s6_3)
   have s11_9:=f5.q 11 (f4.q 11 (f3.q 11 u_g3))
   have s13_10:=f5.q 13 (f4.v 4 rfl rfl rfl)
   have s14_11:=f5.q 14 (f4.v 5 rfl rfl rfl)
   have b_g1_12:=f5.k (f4.k (f3.k (f2.k b_g1)))
   have b_g2_13:=f5.k (f4.k b_g2_2)
   have b_g3_14:=f5.k (f4.k (f3.k b_g3))
   refine wp_count 16 (fun k1 aI wI=>True ∧ Mid 158 W [(2,.int .u64 l),(3,.int .i8 o),(4,.int .u64 b),(5,.pointer (some ⟨g1,0,none⟩)),(6,.pointer (some ⟨g2,0,none⟩)),(11,.pointer (some ⟨g3,0,none⟩)),(13,.int .i64 (Mrm.writesX x)),(14,.int .i64 (Mrm.readsX x)),(38,.int .i64 (k1:Int))] [(g1,36,(mcC m)),(g2,26,(xC x)),(g3,36,(mcC (doX m x l)))] aI wI) ⟨trivial,f5.d,f5.z,f5.b,⟨s2_4,s3_5,s4_6,s5_7,s6_8,s11_9,s13_10,s14_11,(f5.v 0 rfl rfl rfl),trivial⟩,⟨b_g1_12,b_g2_13,b_g3_14,trivial⟩⟩ ?_
   intro k1 aL1 wL1 hlek1 hI1
   obtain ⟨-,dL1,zL1,BL1,⟨sL1_2,sL1_3,sL1_4,sL1_5,sL1_6,sL1_11,sL1_13,sL1_14,sL1_38,-⟩,⟨bL1_g1,bL1_g2,bL1_g3,-⟩⟩:=hI1
   replace sL1_2:aL1.tmps.getD 2 undef=.int .u64 l:=sL1_2
   replace sL1_3:aL1.tmps.getD 3 undef=.int .i8 o:=sL1_3
   replace sL1_4:aL1.tmps.getD 4 undef=.int .u64 b:=sL1_4
   replace sL1_5:aL1.tmps.getD 5 undef=.pointer (some ⟨g1,0,none⟩):=sL1_5
   replace sL1_6:aL1.tmps.getD 6 undef=.pointer (some ⟨g2,0,none⟩):=sL1_6
   replace sL1_11:aL1.tmps.getD 11 undef=.pointer (some ⟨g3,0,none⟩):=sL1_11
   replace sL1_13:aL1.tmps.getD 13 undef=.int .i64 (Mrm.writesX x):=sL1_13
   replace sL1_14:aL1.tmps.getD 14 undef=.int .i64 (Mrm.readsX x):=sL1_14
   replace sL1_38:aL1.tmps.getD 38 undef=.int .i64 (k1:Int):=sL1_38
   replace bL1_g1:wL1.heap[g1]?=some (.cells (mcC m) 36 (0,0)):=bL1_g1
   replace bL1_g2:wL1.heap[g2]?=some (.cells (xC x) 26 (0,0)):=bL1_g2
   replace bL1_g3:wL1.heap[g3]?=some (.cells (mcC (doX m x l)) 36 (0,0)):=bL1_g3
   refine wp_seq ?_
   cases fk2:decide ((k1:Int) < 16)
   case false=>
    have Ffk2:=Lib.hid fk2;clear fk2
    refine go_reg [] [] [oF] mo dL1 zL1 BL1 (by kernel_rfl) trivial (
     hk (fun cx=>cx.v (ex_lt (x:=.tmp 38) rfl (cx.rq 38 sL1_38) rfl) rfl (congrArg Value.bool Ffk2.out)) <|
     hn) ?_
    intro a6 w6 f6
    refine wp_seq ?_
    refine wp_cond_false (f6.v 0 rfl rfl rfl) ?_
    refine wp_exit ?_
    simp only [Exit.then,Exit.inBlock,if_true]
    refine wp_seq ?_
    have neL2_0_1:=neL1_0_1
    have neL2_0_2:=neL1_0_2
    have neL2_1_2:=neL1_1_2
    refine wp_cut (fun aI wI=>∃ bI:Bool,(false)=bI ∧ Mid 158 W [(81,.bool bI),(2,.int .u64 l),(3,.int .i8 o),(4,.int .u64 b),(5,.pointer (some ⟨g1,0,none⟩)),(6,.pointer (some ⟨g2,0,none⟩)),(11,.pointer (some ⟨g3,0,none⟩)),(13,.int .i64 (Mrm.writesX x)),(14,.int .i64 (Mrm.readsX x))] [(g1,36,(mcC m)),(g2,26,(xC x)),(g3,36,(mcC (doX m x l)))] aI wI) ?_ ?_
    ·
      cases fk3:x.op != 28
      case false=>
       have Ffk3:=Lib.hid fk3;clear fk3
       have b_g2_15:=f6.k bL1_g2
       have s6_16:=f6.q 6 sL1_6
       refine go_reg [bx g2 26 (xC x)] [] (tabs [some (pt g2 0),some (.int .i8 x.op),oF,oF,oU,oU,oU,oF,oF,oU,oU,oU,oF,oF,oU,oU,oU,oU,oU,oU] [oU,oU,oU,oF]) mo f6.d f6.z f6.b (by kernel_rfl) ⟨b_g2_15,trivial⟩ (
        hk (fun cx=>cx.q (ex_fa rfl (cx.rq 6 s6_16) (faExecApartW26_0_0 _ _))) <|
        hk (fun cx=>cx.q (ex_ld rfl (cx.u 0 rfl) (cx.rn 0 rfl) rfl Tryd.isAgg24)) <|
        hk (fun cx=>cx.v (ex_ne (x:=.tmp 59) rfl (cx.u 0 rfl) rfl) rfl (congrArg Value.bool Ffk3.out)) <|
        kmu 0 <|
        kno 0 <|
        kno 1 <|
        kno 1 <|
        hk (fun cx=>cx.q (ex_pf rfl (cx.u 0 rfl) rfl)) <|
        kmu 0 <|
        kno 0 <|
        kno 1 <|
        kno 1 <|
        hk (fun cx=>cx.q (ex_pf rfl (cx.u 0 rfl) rfl)) <|
        kmu 0 <|
        kno 0 <|
        kno 1 <|
        kno 0 <|
        kno 1 <|
        kno 0 <|
        kno 1 <|
        kno 1 <|
        kno 2 <|
        kno 2 <|
        hk (fun cx=>cx.q (ex_pf rfl (cx.u 0 rfl) rfl)) <|
        hn) ?_
       intro a7 w7 f7
       have s2_17:=f7.q 2 (f6.q 2 sL1_2)
       have s3_18:=f7.q 3 (f6.q 3 sL1_3)
       have s4_19:=f7.q 4 (f6.q 4 sL1_4)
       have s5_20:=f7.q 5 (f6.q 5 sL1_5)
       have s6_21:=f7.q 6 s6_16
       have s11_22:=f7.q 11 (f6.q 11 sL1_11)
       have s13_23:=f7.q 13 (f6.q 13 sL1_13)
       have s14_24:=f7.q 14 (f6.q 14 sL1_14)
       have b_g1_25:=f7.k (f6.k bL1_g1)
       have b_g2_26:=f7.k b_g2_15
       have b_g3_27:=f7.k (f6.k bL1_g3)
       exact ⟨false,rfl,f7.d,f7.z,f7.b,⟨(f7.v 23 rfl rfl rfl),s2_17,s3_18,s4_19,s5_20,s6_21,s11_22,s13_23,s14_24,trivial⟩,⟨b_g1_25,b_g2_26,b_g3_27,trivial⟩⟩
      have Ffk3:=Lib.hid fk3;clear fk3
      have h28:=Ffk3.out
      cases fk4:x.op != 29
      case false=>
       have Ffk4:=Lib.hid fk4;clear fk4
       have b_g2_28:=f6.k bL1_g2
       have s6_29:=f6.q 6 sL1_6
       refine go_reg [bx g2 26 (xC x)] [] (tabs [some (pt g2 0),some (.int .i8 x.op),oT,oT,some (pt g2 0),some (.int .i8 x.op),oF,oF,oF,oU,oU,oU,oF,oF,oU,oU,oU,oU,oU,oU] [oU,oU,oU,oF]) mo f6.d f6.z f6.b (by kernel_rfl) ⟨b_g2_28,trivial⟩ (
        hk (fun cx=>cx.q (ex_fa rfl (cx.rq 6 s6_29) (faExecApartW26_0_0 _ _))) <|
        hk (fun cx=>cx.q (ex_ld rfl (cx.u 0 rfl) (cx.rn 0 rfl) rfl Tryd.isAgg24)) <|
        hk (fun cx=>cx.v (ex_ne (x:=.tmp 59) rfl (cx.u 0 rfl) rfl) rfl (congrArg Value.bool Ffk3.out)) <|
        kmu 0 <|
        hk (fun cx=>cx.vy 0 (ex_fa rfl (cx.rq 6 s6_29) (faExecApartW26_0_0 _ _))) <|
        hk (fun cx=>cx.vy 1 (ex_ld rfl (cx.u 0 rfl) (cx.rn 0 rfl) rfl Tryd.isAgg24)) <|
        hk (fun cx=>cx.vy 1 (ex_ne (x:=.tmp 63) rfl (cx.u 0 rfl) rfl) (congrArg Value.bool Ffk4.out)) <|
        hk (fun cx=>cx.q (ex_pt rfl (cx.u 0 rfl) (cx.u 1 rfl))) <|
        kmu 0 <|
        kno 0 <|
        kno 1 <|
        kno 1 <|
        hk (fun cx=>cx.q (ex_pf rfl (cx.u 0 rfl) rfl)) <|
        kmu 0 <|
        kno 0 <|
        kno 1 <|
        kno 0 <|
        kno 1 <|
        kno 0 <|
        kno 1 <|
        kno 1 <|
        kno 2 <|
        kno 2 <|
        hk (fun cx=>cx.q (ex_pf rfl (cx.u 0 rfl) rfl)) <|
        hn) ?_
       intro a8 w8 f8
       have s2_30:=f8.q 2 (f6.q 2 sL1_2)
       have s3_31:=f8.q 3 (f6.q 3 sL1_3)
       have s4_32:=f8.q 4 (f6.q 4 sL1_4)
       have s5_33:=f8.q 5 (f6.q 5 sL1_5)
       have s6_34:=f8.q 6 s6_29
       have s11_35:=f8.q 11 (f6.q 11 sL1_11)
       have s13_36:=f8.q 13 (f6.q 13 sL1_13)
       have s14_37:=f8.q 14 (f6.q 14 sL1_14)
       have b_g1_38:=f8.k (f6.k bL1_g1)
       have b_g2_39:=f8.k b_g2_28
       have b_g3_40:=f8.k (f6.k bL1_g3)
       exact ⟨false,rfl,f8.d,f8.z,f8.b,⟨(f8.v 23 rfl rfl rfl),s2_30,s3_31,s4_32,s5_33,s6_34,s11_35,s13_36,s14_37,trivial⟩,⟨b_g1_38,b_g2_39,b_g3_40,trivial⟩⟩
      have Ffk4:=Lib.hid fk4;clear fk4
      have h29:=Ffk4.out
      cases fk5:x.op != 30
      case false=>
       have Ffk5:=Lib.hid fk5;clear fk5
       have b_g2_41:=f6.k bL1_g2
       have s6_42:=f6.q 6 sL1_6
       refine go_reg [bx g2 26 (xC x)] [] (tabs [some (pt g2 0),some (.int .i8 x.op),oT,oT,some (pt g2 0),some (.int .i8 x.op),oT,oT,oT,some (pt g2 0),some (.int .i8 x.op),oF,oF,oF,oU,oU,oU,oU,oU,oU] [oU,oU,oU,oF]) mo f6.d f6.z f6.b (by kernel_rfl) ⟨b_g2_41,trivial⟩ (
        hk (fun cx=>cx.q (ex_fa rfl (cx.rq 6 s6_42) (faExecApartW26_0_0 _ _))) <|
        hk (fun cx=>cx.q (ex_ld rfl (cx.u 0 rfl) (cx.rn 0 rfl) rfl Tryd.isAgg24)) <|
        hk (fun cx=>cx.v (ex_ne (x:=.tmp 59) rfl (cx.u 0 rfl) rfl) rfl (congrArg Value.bool Ffk3.out)) <|
        kmu 0 <|
        hk (fun cx=>cx.vy 0 (ex_fa rfl (cx.rq 6 s6_42) (faExecApartW26_0_0 _ _))) <|
        hk (fun cx=>cx.vy 1 (ex_ld rfl (cx.u 0 rfl) (cx.rn 0 rfl) rfl Tryd.isAgg24)) <|
        hk (fun cx=>cx.vy 1 (ex_ne (x:=.tmp 63) rfl (cx.u 0 rfl) rfl) (congrArg Value.bool Ffk4.out)) <|
        hk (fun cx=>cx.q (ex_pt rfl (cx.u 0 rfl) (cx.u 1 rfl))) <|
        kmu 0 <|
        hk (fun cx=>cx.vy 0 (ex_fa rfl (cx.rq 6 s6_42) (faExecApartW26_0_0 _ _))) <|
        hk (fun cx=>cx.vy 1 (ex_ld rfl (cx.u 0 rfl) (cx.rn 0 rfl) rfl Tryd.isAgg24)) <|
        hk (fun cx=>cx.vy 1 (ex_ne (x:=.tmp 68) rfl (cx.u 0 rfl) rfl) (congrArg Value.bool Ffk5.out)) <|
        hk (fun cx=>cx.q (ex_pt rfl (cx.u 0 rfl) (cx.u 1 rfl))) <|
        kmu 0 <|
        kno 0 <|
        kno 1 <|
        kno 0 <|
        kno 1 <|
        kno 0 <|
        kno 1 <|
        kno 1 <|
        kno 2 <|
        kno 2 <|
        hk (fun cx=>cx.q (ex_pf rfl (cx.u 0 rfl) rfl)) <|
        hn) ?_
       intro a9 w9 f9
       have s2_43:=f9.q 2 (f6.q 2 sL1_2)
       have s3_44:=f9.q 3 (f6.q 3 sL1_3)
       have s4_45:=f9.q 4 (f6.q 4 sL1_4)
       have s5_46:=f9.q 5 (f6.q 5 sL1_5)
       have s6_47:=f9.q 6 s6_42
       have s11_48:=f9.q 11 (f6.q 11 sL1_11)
       have s13_49:=f9.q 13 (f6.q 13 sL1_13)
       have s14_50:=f9.q 14 (f6.q 14 sL1_14)
       have b_g1_51:=f9.k (f6.k bL1_g1)
       have b_g2_52:=f9.k b_g2_41
       have b_g3_53:=f9.k (f6.k bL1_g3)
       exact ⟨false,rfl,f9.d,f9.z,f9.b,⟨(f9.v 23 rfl rfl rfl),s2_43,s3_44,s4_45,s5_46,s6_47,s11_48,s13_49,s14_50,trivial⟩,⟨b_g1_51,b_g2_52,b_g3_53,trivial⟩⟩
      have Ffk5:=Lib.hid fk5;clear fk5
      have h30:=Ffk5.out
      have b_g2_54:=f6.k bL1_g2
      have b_g3_55:=f6.k bL1_g3
      have b_g1_56:=f6.k bL1_g1
      have s6_57:=f6.q 6 sL1_6
      have s11_58:=f6.q 11 sL1_11
      have s5_59:=f6.q 5 sL1_5
      refine go_reg [bx g2 26 (xC x),bx g3 36 (mcC (doX m x l)),bx g1 36 (mcC m)] [] (tabs [some (pt g2 0),some (.int .i8 x.op),oT,oT,some (pt g2 0),some (.int .i8 x.op),oT,oT,oT,some (pt g2 0),some (.int .i8 x.op),oT,oT,oT,some (pt g3 21),some (.int .u64 (doX m x l).a),some (pt g1 21),some (.int .u64 m.a),some (.agg (xC x)),some (.int .i64 (lenX x))] [some (.int .u64 (IntKind.u64.wrap (lenX x))),some (.int .u64 (IntKind.u64.wrap (m.a + (IntKind.u64.wrap (lenX x))))),oF,oF]) mo f6.d f6.z f6.b (by kernel_rfl) ⟨b_g2_54,b_g3_55,b_g1_56,trivial⟩ (
       hk (fun cx=>cx.q (ex_fa rfl (cx.rq 6 s6_57) (faExecApartW26_0_0 _ _))) <|
       hk (fun cx=>cx.q (ex_ld rfl (cx.u 0 rfl) (cx.rn 0 rfl) rfl Tryd.isAgg24)) <|
       hk (fun cx=>cx.v (ex_ne (x:=.tmp 59) rfl (cx.u 0 rfl) rfl) rfl (congrArg Value.bool Ffk3.out)) <|
       kmu 0 <|
       hk (fun cx=>cx.vy 0 (ex_fa rfl (cx.rq 6 s6_57) (faExecApartW26_0_0 _ _))) <|
       hk (fun cx=>cx.vy 1 (ex_ld rfl (cx.u 0 rfl) (cx.rn 0 rfl) rfl Tryd.isAgg24)) <|
       hk (fun cx=>cx.vy 1 (ex_ne (x:=.tmp 63) rfl (cx.u 0 rfl) rfl) (congrArg Value.bool Ffk4.out)) <|
       hk (fun cx=>cx.q (ex_pt rfl (cx.u 0 rfl) (cx.u 1 rfl))) <|
       kmu 0 <|
       hk (fun cx=>cx.vy 0 (ex_fa rfl (cx.rq 6 s6_57) (faExecApartW26_0_0 _ _))) <|
       hk (fun cx=>cx.vy 1 (ex_ld rfl (cx.u 0 rfl) (cx.rn 0 rfl) rfl Tryd.isAgg24)) <|
       hk (fun cx=>cx.vy 1 (ex_ne (x:=.tmp 68) rfl (cx.u 0 rfl) rfl) (congrArg Value.bool Ffk5.out)) <|
       hk (fun cx=>cx.q (ex_pt rfl (cx.u 0 rfl) (cx.u 1 rfl))) <|
       kmu 0 <|
       hk (fun cx=>cx.vy 0 (ex_fa rfl (cx.rq 11 s11_58) (faExecApartW36_2_0 _ _))) <|
       hk (fun cx=>cx.vy 1 (ex_ld rfl (cx.u 0 rfl) (cx.rn 1 rfl) rfl Tryd.isAgg31)) <|
       hk (fun cx=>cx.vy 0 (ex_fa rfl (cx.rq 5 s5_59) (faExecApartW36_2_0 _ _))) <|
       hk (fun cx=>cx.vy 1 (ex_ld rfl (cx.u 0 rfl) (cx.rn 2 rfl) rfl Tryd.isAgg31)) <|
       hk (fun cx=>cx.vy 0 (Mrm.ldX rfl (cx.rq 6 s6_57) (cx.rn 0 rfl))) <|
       hc (fun _ _ wx cx=>cx.call (cx.wy rfl rfl rfl rfl (cx.u 1 rfl)) rfl rfl (args1 (cx.u 0 rfl)) Tryd.func15 (by decide +kernel) rfl (len_yes x hX wx (hT.below cx.S.1.1 (Nat.le_refl _)) hm) rfl rfl rfl rfl) <|
       hk (fun cx=>cx.vy 1 (ex_conv (x:=.tmp 77) rfl (cx.u 0 rfl) Tryd.underlying3 Tryd.underlying31)) <|
       hk (fun cx=>cx.vy 2 (ex_add (x:=.tmp 75) (y:=.tmp 78) rfl (cx.u 0 rfl) (cx.u 1 rfl))) <|
       hk (fun cx=>cx.vy 2 (ex_ne (x:=.tmp 73) (y:=.tmp 79) rfl (cx.u 0 rfl) (cx.u 1 rfl)) (congrArg Value.bool (by rw [hD,at_stays (Mrm.may_parts' hm).1 h28 h29 h30 hG];exact bne_self_eq_false _))) <|
       hk (fun cx=>cx.q (ex_pt rfl (cx.u 0 rfl) (cx.u 1 rfl))) <|
       hn) ?_
      intro a10 w10 f10
      have s2_60:=f10.q 2 (f6.q 2 sL1_2)
      have s3_61:=f10.q 3 (f6.q 3 sL1_3)
      have s4_62:=f10.q 4 (f6.q 4 sL1_4)
      have s5_63:=f10.q 5 s5_59
      have s6_64:=f10.q 6 s6_57
      have s11_65:=f10.q 11 s11_58
      have s13_66:=f10.q 13 (f6.q 13 sL1_13)
      have s14_67:=f10.q 14 (f6.q 14 sL1_14)
      have b_g1_68:=f10.k b_g1_56
      have b_g2_69:=f10.k b_g2_54
      have b_g3_70:=f10.k b_g3_55
      exact ⟨false,rfl,f10.d,f10.z,f10.b,⟨(f10.v 23 rfl rfl rfl),s2_60,s3_61,s4_62,s5_63,s6_64,s11_65,s13_66,s14_67,trivial⟩,⟨b_g1_68,b_g2_69,b_g3_70,trivial⟩⟩
    rintro aL2 wL2 ⟨bI,hbI,dL2,zL2,BL2,⟨sL2_81,sL2_2,sL2_3,sL2_4,sL2_5,sL2_6,sL2_11,sL2_13,sL2_14,-⟩,⟨bL2_g1,bL2_g2,bL2_g3,-⟩⟩
    replace sL2_2:aL2.tmps.getD 2 undef=.int .u64 l:=sL2_2
    replace sL2_3:aL2.tmps.getD 3 undef=.int .i8 o:=sL2_3
    replace sL2_4:aL2.tmps.getD 4 undef=.int .u64 b:=sL2_4
    replace sL2_5:aL2.tmps.getD 5 undef=.pointer (some ⟨g1,0,none⟩):=sL2_5
    replace sL2_6:aL2.tmps.getD 6 undef=.pointer (some ⟨g2,0,none⟩):=sL2_6
    replace sL2_11:aL2.tmps.getD 11 undef=.pointer (some ⟨g3,0,none⟩):=sL2_11
    replace sL2_13:aL2.tmps.getD 13 undef=.int .i64 (Mrm.writesX x):=sL2_13
    replace sL2_14:aL2.tmps.getD 14 undef=.int .i64 (Mrm.readsX x):=sL2_14
    replace bL2_g1:wL2.heap[g1]?=some (.cells (mcC m) 36 (0,0)):=bL2_g1
    replace bL2_g2:wL2.heap[g2]?=some (.cells (xC x) 26 (0,0)):=bL2_g2
    replace bL2_g3:wL2.heap[g3]?=some (.cells (mcC (doX m x l)) 36 (0,0)):=bL2_g3
    cases bI
    case true=>
      exact absurd hbI (by decide)
    replace sL2_81:aL2.tmps.getD 81 undef=.bool false:=sL2_81
    refine wp_cond_false sL2_81 ?_
    refine wp_skip ?_
    refine wp_seq ?_
    refine wp_seq ?_
    cases fk6:decide (o < 0)
    case false=>
     have Ffk6:=Lib.hid fk6;clear fk6
     have ho0:0 ≤ o:=by have:=Ffk6.out;simp only [decide_eq_false_iff_not] at this;omega
     cases fk7:decide (16 ≤ o)
     case false=>
      have Ffk7:=Lib.hid fk7;clear fk7
      have ho16:o < 16:=by have:=Ffk7.out;simp only [decide_eq_false_iff_not] at this;omega
      have hon:o.toNat < 16:=by omega
      cases fk8:(bits .and .i64 ((Mrm.readsX x) / 2 ^ o.toNat) 1) == 1
      case false=>
       have Ffk8:=Lib.hid fk8;clear fk8
       have hbr:=Ffk8.out
       obtain ⟨n2,hG2,hA⟩:=apart_of (b:=b) hon hm hbr hG
       obtain ⟨hD2,hE2⟩:=goes (m:=m.setR o.toNat b) hm hG2
       refine go_reg [] [] [some (.int .i8 o),oF,oF,some (.int .i8 o),oF,oF,oF,some (.int .i64 (Mrm.readsX x)),some (.int .i8 o),some (.int .i64 ((Mrm.readsX x) / 2 ^ o.toNat)),some (.int .i64 (bits .and .i64 ((Mrm.readsX x) / 2 ^ o.toNat) 1)),oF,oF] mo dL2 zL2 BL2 (by kernel_rfl) trivial (
        hk (fun cx=>cx.q (ex_mv rfl (cx.rq 3 sL2_3))) <|
        hk (fun cx=>cx.v (ex_lt (x:=.tmp 82) rfl (cx.u 0 rfl) rfl) rfl (congrArg Value.bool Ffk6.out)) <|
        hk (fun cx=>cx.v (ex_mv rfl (cx.u 0 rfl)) rfl (congrArg Value.bool hbI)) <|
        hk (fun cx=>cx.vy 0 (ex_mv rfl (cx.rq 3 sL2_3))) <|
        hk (fun cx=>cx.vy 1 (ex_ge (x:=.tmp 85) rfl (cx.u 0 rfl) rfl) (congrArg Value.bool Ffk7.out)) <|
        hk (fun cx=>cx.v (ex_pf rfl (cx.u 0 rfl) (cx.u 1 rfl)) rfl (congrArg Value.bool hbI)) <|
        hk (fun cx=>cx.v (ex_mv rfl (cx.u 0 rfl)) rfl (congrArg Value.bool hbI)) <|
        hk (fun cx=>cx.vy 0 (ex_mv rfl (cx.rq 14 sL2_14))) <|
        hk (fun cx=>cx.vy 0 (ex_mv rfl (cx.rq 3 sL2_3))) <|
        hk (fun cx=>cx.vy 2 (ex_shri (x:=.tmp 89) (y:=.tmp 90) rfl (cx.u 0 rfl) (cx.u 1 rfl) (by omega) (by omega)) rfl) <|
        hk (fun cx=>cx.vy 1 (ex_and (x:=.tmp 91) rfl (cx.u 0 rfl) rfl)) <|
        hk (fun cx=>cx.vy 1 (ex_eq (x:=.tmp 92) rfl (cx.u 0 rfl) rfl) (congrArg Value.bool Ffk8.out)) <|
        hk (fun cx=>cx.v (ex_pf rfl (cx.u 0 rfl) (cx.u 1 rfl)) rfl (congrArg Value.bool hbI)) <|
        hn) ?_
       intro a11 w11 f11
       refine wp_cond_false (f11.v 12 rfl rfl rfl) ?_
       refine wp_skip ?_
       refine wp_seq ?_
       have b_g1_71:=f11.k bL2_g1
       have s3_72:=f11.q 3 sL2_3
       have s4_73:=f11.q 4 sL2_4
       have s5_74:=f11.q 5 sL2_5
       refine go_reg [⟨g1,36,(mcC m),some 4,(mcC (m.setR o.toNat b))⟩] [] [some (.int .i8 o),some (.int .u64 b),some (pt g1 0),some (pt g1 (o.toNat)),none] mo f11.d f11.z f11.b (by kernel_rfl) ⟨b_g1_71,trivial⟩ (
        hk (fun cx=>cx.q (ex_mv rfl (cx.rq 3 s3_72))) <|
        hk (fun cx=>cx.q (ex_mv rfl (cx.rq 4 s4_73))) <|
        hk (fun cx=>cx.q (ex_fa rfl (cx.rq 5 s5_74) (faExecApartW36_0_0 _ _))) <|
        hk (fun cx=>cx.v (ex_ia (n:=16) (sz:=1) rfl (cx.u 0 rfl) (cx.u 1 rfl) Tryd.underlying32 (by kernel_rfl) (by omega) (by omega) (by omega)) rfl rfl) <|
        hk (fun cx=>cx.stC (wn rfl) rfl rfl 0 rfl (cx.u 0 rfl) (cx.u 1 rfl) rfl rfl (by kernel_rfl) (by rw [mcC_size];simp only [Nat.blt_eq];omega) (mcC_set _ (by omega) _) q_g1 rfl trivial trivial) <|
        hn) ?_
       intro a12 w12 f12
       refine wp_seq ?_
       have b_g2_75:=f12.kp (f11.k bL2_g2) ⟨.inr neL2_0_1.symm,trivial⟩
       have s5_76:=f12.q 5 s5_74
       have s6_77:=f12.q 6 (f11.q 6 sL2_6)
       have s2_78:=f12.q 2 (f11.q 2 sL2_2)
       refine go_reg [bx g1 36 (mcC (m.setR o.toNat b)),bx g2 26 (xC x)] [⟨7,16,36,(mcC zM),some 8,(mcC (doX (m.setR o.toNat b) x l))⟩] [some (.agg (mcC (m.setR o.toNat b))),some (.agg (xC x)),some (.int .u64 l),some (.tuple #[.agg (mcC (doX (m.setR o.toNat b) x l)),.int .i64 (doXe (m.setR o.toNat b) x l)]),some (.tuple #[.agg (mcC (doX (m.setR o.toNat b) x l)),.int .i64 (doXe (m.setR o.toNat b) x l)]),some (.agg (mcC (doX (m.setR o.toNat b) x l))),some (.int .i64 (doXe (m.setR o.toNat b) x l)),none,none,some (.int .i64 (doXe (m.setR o.toNat b) x l))] mo f12.d f12.z f12.b (by kernel_rfl) ⟨f12.rows.1,b_g2_75,trivial⟩ (
        hk (fun cx=>cx.q (ldMc rfl (cx.rq 5 s5_76) (cx.rn 0 rfl))) <|
        hk (fun cx=>cx.q (Mrm.ldX rfl (cx.rq 6 s6_77) (cx.rn 1 rfl))) <|
        hk (fun cx=>cx.q (ex_mv rfl (cx.rq 2 s2_78))) <|
        hc (fun _ _ wx cx=>cx.c rfl (args3 (cx.u 0 rfl) (cx.u 1 rfl) (cx.u 2 rfl)) Tryd.func11 (by decide +kernel) (do_n (m.setR o.toNat b) x l wx (hT.below cx.S.1.1 (Nat.le_refl _)) hX (hM.setR _ hb) hl) rfl rfl) <|
        kmu 0 <|
        hk (fun cx=>cx.q (ex_ext (x:=.tmp 100) rfl (cx.u 0 rfl) rfl)) <|
        hk (fun cx=>cx.q (ex_ext (x:=.tmp 100) rfl (cx.u 0 rfl) rfl)) <|
        hk (fun cx=>cx.al (wn rfl) 0 rfl (al_mc rfl) rfl rfl rfl rfl (by kernel_rfl) trivial) <|
        hk (fun cx=>cx.stA (wn rfl) rfl rfl 0 0 rfl rfl rfl rfl (cx.u 1 rfl) (by kernel_rfl) (Eq.refl 22) (mcC_one _) f12.b.size rfl rfl trivial) <|
        kmu 0 <|
        hn) ?_
       intro a13 w13 f13
       obtain ⟨g4,u_g4,q_g4,b_g4⟩:=f13.al.1
       refine wp_seq ?_
       refine wp_seq ?_
       have b_g3_79:=f13.k (f12.kp (f11.k bL2_g3) ⟨.inr neL2_0_2.symm,trivial⟩)
       have s11_80:=f13.q 11 (f12.q 11 (f11.q 11 sL2_11))
       refine go_reg [bx g4 36 (mcC (doX (m.setR o.toNat b) x l)),bx g3 36 (mcC (doX m x l))] [] [some (.int .i64 (doXe (m.setR o.toNat b) x l)),oF,oF,some (pt g4 16),some (.agg (fC (doX (m.setR o.toNat b) x l).f)),some (pt g3 16),some (.agg (fC (doX m x l).f)),oF,oF,oF,some (pt g4 21),some (.int .u64 (doX (m.setR o.toNat b) x l).a),some (pt g3 21),some (.int .u64 (doX m x l).a),oF,oF] mo f13.d f13.z f13.b (by kernel_rfl) ⟨b_g4,b_g3_79,trivial⟩ (
        hk (fun cx=>cx.q (ex_mv rfl (cx.rq 17 (f13.v 9 rfl rfl rfl)))) <|
        hk (fun cx=>cx.v (ex_ne (x:=.tmp 107) rfl (cx.u 0 rfl) rfl) rfl (congrArg Value.bool (by rw [hE2];rfl))) <|
        hk (fun cx=>cx.v (ex_mv rfl (cx.u 0 rfl)) rfl (congrArg Value.bool hbI)) <|
        hk (fun cx=>cx.vy 0 (ex_fa rfl (cx.rq 16 u_g4) (faExecApartW36_1_0 _ _))) <|
        hk (fun cx=>cx.vy 1 (ldMcF rfl (cx.u 0 rfl) (cx.rn 0 rfl))) <|
        hk (fun cx=>cx.vy 0 (ex_fa rfl (cx.rq 11 s11_80) (faExecApartW36_1_0 _ _))) <|
        hk (fun cx=>cx.vy 1 (ldMcF rfl (cx.u 0 rfl) (cx.rn 1 rfl))) <|
        hk (fun cx=>cx.vy (v:=.bool (!(Flg.eqF (doX (m.setR o.toNat b) x l).f (doX m x l).f))) 2 (exec_neq (x:=.tmp 111) (y:=.tmp 113) rfl (cx.u 0 rfl) (cx.u 1 rfl) (by kernel_rfl) (Flg.eq_f (doX (m.setR o.toNat b) x l).f (doX m x l).f _)) (congrArg Value.bool (by rw [hD2,hD,hA.1];exact congrArg not (Flg.eqF_self _)))) <|
        hk (fun cx=>cx.v (ex_pf rfl (cx.u 0 rfl) (cx.u 1 rfl)) rfl (congrArg Value.bool hbI)) <|
        hk (fun cx=>cx.v (ex_mv rfl (cx.u 0 rfl)) rfl (congrArg Value.bool hbI)) <|
        hk (fun cx=>cx.vy 0 (ex_fa rfl (cx.rq 16 u_g4) (faExecApartW36_2_0 _ _))) <|
        hk (fun cx=>cx.vy 1 (ex_ld rfl (cx.u 0 rfl) (cx.rn 0 rfl) rfl Tryd.isAgg31)) <|
        hk (fun cx=>cx.vy 0 (ex_fa rfl (cx.rq 11 s11_80) (faExecApartW36_2_0 _ _))) <|
        hk (fun cx=>cx.vy 1 (ex_ld rfl (cx.u 0 rfl) (cx.rn 1 rfl) rfl Tryd.isAgg31)) <|
        hk (fun cx=>cx.vy 2 (ex_ne (x:=.tmp 118) (y:=.tmp 120) rfl (cx.u 0 rfl) (cx.u 1 rfl)) (congrArg Value.bool (by rw [hD2,hD,hA.2.1];exact bne_self_eq_false _))) <|
        hk (fun cx=>cx.v (ex_pf rfl (cx.u 0 rfl) (cx.u 1 rfl)) rfl (congrArg Value.bool hbI)) <|
        hn) ?_
       intro a14 w14 f14
       refine wp_cond_false (f14.v 15 rfl rfl rfl) ?_
       refine wp_skip ?_
       refine wp_seq ?_
       refine wp_seq ?_
       refine go_reg [] [] [some (.int .i64 0)] mo f14.d f14.z f14.b (by kernel_rfl) trivial (
        hk (fun cx=>cx.q (ex_mv rfl rfl)) <|
        hn) ?_
       intro a15 w15 f15
       refine wp_block ?_
       have neL3_0_1:=neL2_0_1
       have neL3_0_2:=neL2_0_2
       have neL3_0_3:=(ne_row f12.rows.1 q_g4)
       have neL3_1_2:=neL2_1_2
       have neL3_1_3:=(ne_row b_g2_75 q_g4)
       have neL3_2_3:=(ne_row (f12.kp (f11.k bL2_g3) ⟨.inr neL2_0_2.symm,trivial⟩) q_g4)
       have s3_81:=f15.q 3 (f14.q 3 (f13.q 3 (f12.q 3 s3_72)))
       have s4_82:=f15.q 4 (f14.q 4 (f13.q 4 (f12.q 4 s4_73)))
       have s11_83:=f15.q 11 (f14.q 11 s11_80)
       have s13_84:=f15.q 13 (f14.q 13 (f13.q 13 (f12.q 13 (f11.q 13 sL2_13))))
       have s16_85:=f15.q 16 (f14.q 16 u_g4)
       have b_g1_86:=f15.k (f14.k (f13.k f12.rows.1))
       have b_g2_87:=f15.k (f14.k (f13.k b_g2_75))
       have b_g3_88:=f15.k (f14.k b_g3_79)
       have b_g4_89:=f15.k (f14.k b_g4)
       refine wp_count 16 (fun k2 aI wI=>True ∧ Mid 158 W [(3,.int .i8 o),(4,.int .u64 b),(11,.pointer (some ⟨g3,0,none⟩)),(13,.int .i64 (Mrm.writesX x)),(16,.pointer (some ⟨g4,0,none⟩)),(123,.int .i64 (k2:Int))] [(g1,36,(mcC (m.setR o.toNat b))),(g2,26,(xC x)),(g3,36,(mcC (doX m x l))),(g4,36,(mcC (doX (m.setR o.toNat b) x l)))] aI wI) ⟨trivial,f15.d,f15.z,f15.b,⟨s3_81,s4_82,s11_83,s13_84,s16_85,(f15.v 0 rfl rfl rfl),trivial⟩,⟨b_g1_86,b_g2_87,b_g3_88,b_g4_89,trivial⟩⟩ ?_
       intro k2 aL3 wL3 hlek2 hI3
       obtain ⟨-,dL3,zL3,BL3,⟨sL3_3,sL3_4,sL3_11,sL3_13,sL3_16,sL3_123,-⟩,⟨bL3_g1,bL3_g2,bL3_g3,bL3_g4,-⟩⟩:=hI3
       replace sL3_3:aL3.tmps.getD 3 undef=.int .i8 o:=sL3_3
       replace sL3_4:aL3.tmps.getD 4 undef=.int .u64 b:=sL3_4
       replace sL3_11:aL3.tmps.getD 11 undef=.pointer (some ⟨g3,0,none⟩):=sL3_11
       replace sL3_13:aL3.tmps.getD 13 undef=.int .i64 (Mrm.writesX x):=sL3_13
       replace sL3_16:aL3.tmps.getD 16 undef=.pointer (some ⟨g4,0,none⟩):=sL3_16
       replace sL3_123:aL3.tmps.getD 123 undef=.int .i64 (k2:Int):=sL3_123
       replace bL3_g1:wL3.heap[g1]?=some (.cells (mcC (m.setR o.toNat b)) 36 (0,0)):=bL3_g1
       replace bL3_g2:wL3.heap[g2]?=some (.cells (xC x) 26 (0,0)):=bL3_g2
       replace bL3_g3:wL3.heap[g3]?=some (.cells (mcC (doX m x l)) 36 (0,0)):=bL3_g3
       replace bL3_g4:wL3.heap[g4]?=some (.cells (mcC (doX (m.setR o.toNat b) x l)) 36 (0,0)):=bL3_g4
       refine wp_seq ?_
       cases fk9:decide ((k2:Int) < 16)
       case false=>
        have Ffk9:=Lib.hid fk9;clear fk9
        refine go_reg [] [] [oF] mo dL3 zL3 BL3 (by kernel_rfl) trivial (
         hk (fun cx=>cx.v (ex_lt (x:=.tmp 123) rfl (cx.rq 123 sL3_123) rfl) rfl (congrArg Value.bool Ffk9.out)) <|
         hn) ?_
        intro a16 w16 f16
        refine wp_seq ?_
        refine wp_cond_false (f16.v 0 rfl rfl rfl) ?_
        refine wp_exit ?_
        simp only [Exit.then,Exit.inBlock,if_true]
        refine wp_seq ?_
        cases fk10:(bits .and .i64 ((Mrm.writesX x) / 2 ^ o.toNat) 1) == 1
        case false=>
         have Ffk10:=Lib.hid fk10;clear fk10
         have hbw:=Ffk10.out
         have b_g4_90:=f16.k bL3_g4
         have s13_91:=f16.q 13 sL3_13
         have s3_92:=f16.q 3 sL3_3
         have s16_93:=f16.q 16 sL3_16
         have s4_94:=f16.q 4 sL3_4
         refine go_reg [bx g4 36 (mcC (doX (m.setR o.toNat b) x l))] [] [some (.int .i64 (Mrm.writesX x)),some (.int .i8 o),some (.int .i64 ((Mrm.writesX x) / 2 ^ o.toNat)),some (.int .i64 (bits .and .i64 ((Mrm.writesX x) / 2 ^ o.toNat) 1)),oF,oF,some (.int .i8 o),some (pt g4 0),some (pt g4 (o.toNat)),some (.int .u64 ((doX (m.setR o.toNat b) x l).r o.toNat)),some (.int .u64 b),oT,oT,oT,oT,oT,oT] mo f16.d f16.z f16.b (by kernel_rfl) ⟨b_g4_90,trivial⟩ (
          hk (fun cx=>cx.q (ex_mv rfl (cx.rq 13 s13_91))) <|
          hk (fun cx=>cx.q (ex_mv rfl (cx.rq 3 s3_92))) <|
          hk (fun cx=>cx.v (ex_shri (x:=.tmp 142) (y:=.tmp 143) rfl (cx.u 0 rfl) (cx.u 1 rfl) (by omega) (by omega)) rfl rfl) <|
          hk (fun cx=>cx.q (ex_and (x:=.tmp 144) rfl (cx.u 0 rfl) rfl)) <|
          hk (fun cx=>cx.v (ex_eq (x:=.tmp 145) rfl (cx.u 0 rfl) rfl) rfl (congrArg Value.bool Ffk10.out)) <|
          hk (fun cx=>cx.v (ex_mv rfl (cx.u 0 rfl)) rfl (congrArg Value.bool hbI)) <|
          hk (fun cx=>cx.vy 0 (ex_mv rfl (cx.rq 3 s3_92))) <|
          hk (fun cx=>cx.vy 0 (ex_fa rfl (cx.rq 16 s16_93) (faExecApartW36_0_0 _ _))) <|
          hk (fun cx=>cx.vy 2 (ex_ia (n:=16) (sz:=1) rfl (cx.u 0 rfl) (cx.u 1 rfl) Tryd.underlying32 (by kernel_rfl) (by omega) (by omega) (by omega)) rfl) <|
          hk (fun cx=>cx.vy 1 (ldMcR (by omega) rfl (cx.u 0 rfl) (cx.rn 0 rfl)) rfl) <|
          hk (fun cx=>cx.vy 0 (ex_mv rfl (cx.rq 4 s4_94))) <|
          hk (fun cx=>cx.vy 2 (ex_eq (x:=.tmp 151) (y:=.tmp 152) rfl (cx.u 0 rfl) (cx.u 1 rfl)) (congrArg Value.bool (by rw [hD2,hA.2.2.2.resolve_left (by rw [show (bitB (Mrm.writesX x) o.toNat == 1)=false from hbw];exact Bool.false_ne_true)];exact beq_self_eq_true _))) <|
          hk (fun cx=>cx.q (ex_pf rfl (cx.u 0 rfl) (cx.u 1 rfl))) <|
          kmu 0 <|
          hc (fun _ _ wx cx=>cx.call (cx.wy rfl rfl rfl rfl (cx.u 0 rfl)) rfl rfl (args0 ) Tryd.func12 (by decide +kernel) rfl (wakes_n wx (hT.below cx.S.1.1 (Nat.le_refl _))) rfl rfl rfl rfl) <|
          hk (fun cx=>cx.q (ex_pt rfl (cx.u 0 rfl) (cx.u 1 rfl))) <|
          kmu 0 <|
          hn) ?_
         intro a17 w17 f17
         refine wp_ret ?_
         try simp only [Exit.inBlock,Exit.then]
         refine bodyPost_ret (res_t (fn:=Tryd.f4) rfl (f17.v 16 rfl rfl rfl)) f17.d ?_
         exact ⟨rfl,f17.b⟩
        have Ffk10:=Lib.hid fk10;clear fk10
        have s13_95:=f16.q 13 sL3_13
        have s3_96:=f16.q 3 sL3_3
        refine go_reg [] [] [some (.int .i64 (Mrm.writesX x)),some (.int .i8 o),some (.int .i64 ((Mrm.writesX x) / 2 ^ o.toNat)),some (.int .i64 (bits .and .i64 ((Mrm.writesX x) / 2 ^ o.toNat) 1)),oT,oT,oU,oU,oU,oU,oU,oU,oT,oT,oT,oT,oT] mo f16.d f16.z f16.b (by kernel_rfl) trivial (
         hk (fun cx=>cx.q (ex_mv rfl (cx.rq 13 s13_95))) <|
         hk (fun cx=>cx.q (ex_mv rfl (cx.rq 3 s3_96))) <|
         hk (fun cx=>cx.v (ex_shri (x:=.tmp 142) (y:=.tmp 143) rfl (cx.u 0 rfl) (cx.u 1 rfl) (by omega) (by omega)) rfl rfl) <|
         hk (fun cx=>cx.q (ex_and (x:=.tmp 144) rfl (cx.u 0 rfl) rfl)) <|
         hk (fun cx=>cx.v (ex_eq (x:=.tmp 145) rfl (cx.u 0 rfl) rfl) rfl (congrArg Value.bool Ffk10.out)) <|
         kmu 0 <|
         kno 0 <|
         kno 0 <|
         kno 2 <|
         kno 1 <|
         kno 0 <|
         kno 2 <|
         hk (fun cx=>cx.q (ex_pt rfl (cx.u 0 rfl) rfl)) <|
         kmu 0 <|
         hc (fun _ _ wx cx=>cx.call (cx.wy rfl rfl rfl rfl (cx.u 0 rfl)) rfl rfl (args0 ) Tryd.func12 (by decide +kernel) rfl (wakes_n wx (hT.below cx.S.1.1 (Nat.le_refl _))) rfl rfl rfl rfl) <|
         hk (fun cx=>cx.q (ex_pt rfl (cx.u 0 rfl) (cx.u 1 rfl))) <|
         kmu 0 <|
         hn) ?_
        intro a18 w18 f18
        refine wp_ret ?_
        try simp only [Exit.inBlock,Exit.then]
        refine bodyPost_ret (res_t (fn:=Tryd.f4) rfl (f18.v 16 rfl rfl rfl)) f18.d ?_
        exact ⟨rfl,f18.b⟩
       have Ffk9:=Lib.hid fk9;clear fk9
       have hlt2:k2 < 16:=by have:=Ffk9.out;simp only [decide_eq_true_eq] at this;omega
       refine go_reg [] [] [oT] mo dL3 zL3 BL3 (by kernel_rfl) trivial (
        hk (fun cx=>cx.v (ex_lt (x:=.tmp 123) rfl (cx.rq 123 sL3_123) rfl) rfl (congrArg Value.bool Ffk9.out)) <|
        hn) ?_
       intro a19 w19 f19
       refine wp_seq ?_
       refine wp_cond_true (f19.v 0 rfl rfl rfl) ?_
       refine wp_skip ?_
       refine wp_seq ?_
       refine wp_block ?_
       refine wp_seq ?_
       have s123_97:=f19.q 123 sL3_123
       refine go_reg [] [] [some (.int .i64 (k2:Int)),some (.int .i64 (k2:Int))] mo f19.d f19.z f19.b (by kernel_rfl) trivial (
        hk (fun cx=>cx.q (ex_mv rfl (cx.rq 123 s123_97))) <|
        kmu 0 <|
        hn) ?_
       intro a20 w20 f20
       refine wp_seq ?_
       cases fk11:(IntKind.i8.wrap (k2:Int)) != o
       case false=>
        have Ffk11:=Lib.hid fk11;clear fk11
        have s3_98:=f20.q 3 (f19.q 3 sL3_3)
        refine go_reg [] [] [some (.int .i64 (k2:Int)),some (.int .i8 (IntKind.i8.wrap (k2:Int))),some (.int .i8 o),oF,oF,oU,oU,oU,oU,oU,oU,oU,oU,oU,oF] mo f20.d f20.z f20.b (by kernel_rfl) trivial (
         hk (fun cx=>cx.q (ex_mv rfl (cx.rq 18 (f20.v 1 rfl rfl rfl)))) <|
         hk (fun cx=>cx.q (ex_conv (x:=.tmp 126) rfl (cx.u 0 rfl) Tryd.underlying3 Tryd.underlying24)) <|
         hk (fun cx=>cx.q (ex_mv rfl (cx.rq 3 s3_98))) <|
         hk (fun cx=>cx.v (ex_ne (x:=.tmp 127) (y:=.tmp 128) rfl (cx.u 0 rfl) (cx.u 1 rfl)) rfl (congrArg Value.bool Ffk11.out)) <|
         hk (fun cx=>cx.v (ex_mv rfl (cx.u 0 rfl)) rfl (congrArg Value.bool hbI)) <|
         kno 0 <|
         kno 0 <|
         kno 2 <|
         kno 1 <|
         kno 0 <|
         kno 0 <|
         kno 2 <|
         kno 1 <|
         kno 2 <|
         hk (fun cx=>cx.v (ex_pf rfl (cx.u 0 rfl) rfl) rfl (congrArg Value.bool hbI)) <|
         hn) ?_
        intro a21 w21 f21
        refine wp_cond_false (f21.v 14 rfl rfl rfl) ?_
        refine wp_skip ?_
        have s123_99:=f21.q 123 (f20.q 123 s123_97)
        refine go_reg [] [] [some (.int .i64 ((k2 + 1:Nat):Int)),some (.int .i64 ((k2 + 1:Nat):Int))] mo f21.d f21.z f21.b (by kernel_rfl) trivial (
         hk (fun cx=>cx.v (ex_add (x:=.tmp 123) rfl (cx.un 1 rfl rfl (by kernel_rfl) s123_99) rfl) rfl (congrArg (Value.int .i64) (wrapk hlt2 (by decide)))) <|
         kmu 0 <|
         hn) ?_
        intro a22 w22 f22
        have s3_100:=f22.q 3 (f21.q 3 s3_98)
        have s4_101:=f22.q 4 (f21.q 4 (f20.q 4 (f19.q 4 sL3_4)))
        have s11_102:=f22.q 11 (f21.q 11 (f20.q 11 (f19.q 11 sL3_11)))
        have s13_103:=f22.q 13 (f21.q 13 (f20.q 13 (f19.q 13 sL3_13)))
        have s16_104:=f22.q 16 (f21.q 16 (f20.q 16 (f19.q 16 sL3_16)))
        have b_g1_105:=f22.k (f21.k (f20.k (f19.k bL3_g1)))
        have b_g2_106:=f22.k (f21.k (f20.k (f19.k bL3_g2)))
        have b_g3_107:=f22.k (f21.k (f20.k (f19.k bL3_g3)))
        have b_g4_108:=f22.k (f21.k (f20.k (f19.k bL3_g4)))
        exact ⟨hlt2,trivial,f22.d,f22.z,f22.b,⟨s3_100,s4_101,s11_102,s13_103,s16_104,(f22.v 1 rfl rfl rfl),trivial⟩,⟨b_g1_105,b_g2_106,b_g3_107,b_g4_108,trivial⟩⟩
       have Ffk11:=Lib.hid fk11;clear fk11
       have hne:=Ffk11.out
       have b_g4_109:=f20.k (f19.k bL3_g4)
       have b_g3_110:=f20.k (f19.k bL3_g3)
       have s3_111:=f20.q 3 (f19.q 3 sL3_3)
       have s16_112:=f20.q 16 (f19.q 16 sL3_16)
       have s11_113:=f20.q 11 (f19.q 11 sL3_11)
       refine go_reg [bx g4 36 (mcC (doX (m.setR o.toNat b) x l)),bx g3 36 (mcC (doX m x l))] [] [some (.int .i64 (k2:Int)),some (.int .i8 (IntKind.i8.wrap (k2:Int))),some (.int .i8 o),oT,oT,some (.int .i64 (k2:Int)),some (pt g4 0),some (pt g4 (k2)),some (.int .u64 ((doX (m.setR o.toNat b) x l).r k2)),some (.int .i64 (k2:Int)),some (pt g3 0),some (pt g3 (k2)),some (.int .u64 ((doX m x l).r k2)),oF,oF] mo f20.d f20.z f20.b (by kernel_rfl) ⟨b_g4_109,b_g3_110,trivial⟩ (
        hk (fun cx=>cx.q (ex_mv rfl (cx.rq 18 (f20.v 1 rfl rfl rfl)))) <|
        hk (fun cx=>cx.q (ex_conv (x:=.tmp 126) rfl (cx.u 0 rfl) Tryd.underlying3 Tryd.underlying24)) <|
        hk (fun cx=>cx.q (ex_mv rfl (cx.rq 3 s3_111))) <|
        hk (fun cx=>cx.v (ex_ne (x:=.tmp 127) (y:=.tmp 128) rfl (cx.u 0 rfl) (cx.u 1 rfl)) rfl (congrArg Value.bool Ffk11.out)) <|
        kmu 0 <|
        hk (fun cx=>cx.vy 0 (ex_mv rfl (cx.rq 18 (f20.v 1 rfl rfl rfl)))) <|
        hk (fun cx=>cx.vy 0 (ex_fa rfl (cx.rq 16 s16_112) (faExecApartW36_0_0 _ _))) <|
        hk (fun cx=>cx.vy 2 (ex_ia (n:=16) (sz:=1) rfl (cx.u 0 rfl) (cx.u 1 rfl) Tryd.underlying32 (by kernel_rfl) (by omega) (by omega) (by omega)) rfl) <|
        hk (fun cx=>cx.vy 1 (ldMcR (by omega) rfl (cx.u 0 rfl) (cx.rn 0 rfl)) rfl) <|
        hk (fun cx=>cx.vy 0 (ex_mv rfl (cx.rq 18 (f20.v 1 rfl rfl rfl)))) <|
        hk (fun cx=>cx.vy 0 (ex_fa rfl (cx.rq 11 s11_113) (faExecApartW36_0_0 _ _))) <|
        hk (fun cx=>cx.vy 2 (ex_ia (n:=16) (sz:=1) rfl (cx.u 0 rfl) (cx.u 1 rfl) Tryd.underlying32 (by kernel_rfl) (by omega) (by omega) (by omega)) rfl) <|
        hk (fun cx=>cx.vy 1 (ldMcR (by omega) rfl (cx.u 0 rfl) (cx.rn 1 rfl)) rfl) <|
        hk (fun cx=>cx.vy 2 (ex_ne (x:=.tmp 134) (y:=.tmp 138) rfl (cx.u 0 rfl) (cx.u 1 rfl)) (congrArg Value.bool (by rw [hD2,hD,hA.2.2.1 k2 (by rw [bne_iff_ne,i8_k hlt2] at hne;omega)];exact bne_self_eq_false _))) <|
        hk (fun cx=>cx.v (ex_pt rfl (cx.u 0 rfl) (cx.u 1 rfl)) rfl (congrArg Value.bool hbI)) <|
        hn) ?_
       intro a23 w23 f23
       refine wp_cond_false (f23.v 14 rfl rfl rfl) ?_
       refine wp_skip ?_
       have s123_114:=f23.q 123 (f20.q 123 s123_97)
       refine go_reg [] [] [some (.int .i64 ((k2 + 1:Nat):Int)),some (.int .i64 ((k2 + 1:Nat):Int))] mo f23.d f23.z f23.b (by kernel_rfl) trivial (
        hk (fun cx=>cx.v (ex_add (x:=.tmp 123) rfl (cx.un 1 rfl rfl (by kernel_rfl) s123_114) rfl) rfl (congrArg (Value.int .i64) (wrapk hlt2 (by decide)))) <|
        kmu 0 <|
        hn) ?_
       intro a24 w24 f24
       have s3_115:=f24.q 3 (f23.q 3 s3_111)
       have s4_116:=f24.q 4 (f23.q 4 (f20.q 4 (f19.q 4 sL3_4)))
       have s11_117:=f24.q 11 (f23.q 11 s11_113)
       have s13_118:=f24.q 13 (f23.q 13 (f20.q 13 (f19.q 13 sL3_13)))
       have s16_119:=f24.q 16 (f23.q 16 s16_112)
       have b_g1_120:=f24.k (f23.k (f20.k (f19.k bL3_g1)))
       have b_g2_121:=f24.k (f23.k (f20.k (f19.k bL3_g2)))
       have b_g3_122:=f24.k (f23.k b_g3_110)
       have b_g4_123:=f24.k (f23.k b_g4_109)
       exact ⟨hlt2,trivial,f24.d,f24.z,f24.b,⟨s3_115,s4_116,s11_117,s13_118,s16_119,(f24.v 1 rfl rfl rfl),trivial⟩,⟨b_g1_120,b_g2_121,b_g3_122,b_g4_123,trivial⟩⟩
      have Ffk8:=Lib.hid fk8;clear fk8
      refine go_reg [] [] [some (.int .i8 o),oF,oF,some (.int .i8 o),oF,oF,oF,some (.int .i64 (Mrm.readsX x)),some (.int .i8 o),some (.int .i64 ((Mrm.readsX x) / 2 ^ o.toNat)),some (.int .i64 (bits .and .i64 ((Mrm.readsX x) / 2 ^ o.toNat) 1)),oT,oT] mo dL2 zL2 BL2 (by kernel_rfl) trivial (
       hk (fun cx=>cx.q (ex_mv rfl (cx.rq 3 sL2_3))) <|
       hk (fun cx=>cx.v (ex_lt (x:=.tmp 82) rfl (cx.u 0 rfl) rfl) rfl (congrArg Value.bool Ffk6.out)) <|
       hk (fun cx=>cx.v (ex_mv rfl (cx.u 0 rfl)) rfl (congrArg Value.bool hbI)) <|
       hk (fun cx=>cx.vy 0 (ex_mv rfl (cx.rq 3 sL2_3))) <|
       hk (fun cx=>cx.vy 1 (ex_ge (x:=.tmp 85) rfl (cx.u 0 rfl) rfl) (congrArg Value.bool Ffk7.out)) <|
       hk (fun cx=>cx.v (ex_pf rfl (cx.u 0 rfl) (cx.u 1 rfl)) rfl (congrArg Value.bool hbI)) <|
       hk (fun cx=>cx.v (ex_mv rfl (cx.u 0 rfl)) rfl (congrArg Value.bool hbI)) <|
       hk (fun cx=>cx.vy 0 (ex_mv rfl (cx.rq 14 sL2_14))) <|
       hk (fun cx=>cx.vy 0 (ex_mv rfl (cx.rq 3 sL2_3))) <|
       hk (fun cx=>cx.vy 2 (ex_shri (x:=.tmp 89) (y:=.tmp 90) rfl (cx.u 0 rfl) (cx.u 1 rfl) (by omega) (by omega)) rfl) <|
       hk (fun cx=>cx.vy 1 (ex_and (x:=.tmp 91) rfl (cx.u 0 rfl) rfl)) <|
       hk (fun cx=>cx.vy 1 (ex_eq (x:=.tmp 92) rfl (cx.u 0 rfl) rfl) (congrArg Value.bool Ffk8.out)) <|
       hk (fun cx=>cx.q (ex_pf rfl (cx.u 0 rfl) (cx.u 1 rfl))) <|
       hn) ?_
      intro a25 w25 f25
      refine wp_cond_true (f25.v 12 rfl rfl rfl) ?_
      refine wp_seq ?_
      refine go_reg [] [] [oT,oT] mo f25.d f25.z f25.b (by kernel_rfl) trivial (
       hc (fun _ _ wx cx=>cx.c rfl (args0 ) Tryd.func12 (by decide +kernel) (wakes_n wx (hT.below cx.S.1.1 (Nat.le_refl _))) rfl rfl) <|
       kmu 0 <|
       hn) ?_
      intro a26 w26 f26
      refine wp_ret ?_
      try simp only [Exit.inBlock,Exit.then]
      refine bodyPost_ret (res_t (fn:=Tryd.f4) rfl (f26.v 1 rfl rfl rfl)) f26.d ?_
      exact ⟨rfl,f26.b⟩
     have Ffk7:=Lib.hid fk7;clear fk7
     refine go_reg [] [] [some (.int .i8 o),oF,oF,some (.int .i8 o),oT,oT,oT,oU,oU,oU,oU,oU,oT] mo dL2 zL2 BL2 (by kernel_rfl) trivial (
      hk (fun cx=>cx.q (ex_mv rfl (cx.rq 3 sL2_3))) <|
      hk (fun cx=>cx.v (ex_lt (x:=.tmp 82) rfl (cx.u 0 rfl) rfl) rfl (congrArg Value.bool Ffk6.out)) <|
      hk (fun cx=>cx.v (ex_mv rfl (cx.u 0 rfl)) rfl (congrArg Value.bool hbI)) <|
      hk (fun cx=>cx.vy 0 (ex_mv rfl (cx.rq 3 sL2_3))) <|
      hk (fun cx=>cx.vy 1 (ex_ge (x:=.tmp 85) rfl (cx.u 0 rfl) rfl) (congrArg Value.bool Ffk7.out)) <|
      hk (fun cx=>cx.q (ex_pf rfl (cx.u 0 rfl) (cx.u 1 rfl))) <|
      kmu 0 <|
      kno 0 <|
      kno 0 <|
      kno 2 <|
      kno 1 <|
      kno 1 <|
      hk (fun cx=>cx.q (ex_pt rfl (cx.u 0 rfl) rfl)) <|
      hn) ?_
     intro a27 w27 f27
     refine wp_cond_true (f27.v 12 rfl rfl rfl) ?_
     refine wp_seq ?_
     refine go_reg [] [] [oT,oT] mo f27.d f27.z f27.b (by kernel_rfl) trivial (
      hc (fun _ _ wx cx=>cx.c rfl (args0 ) Tryd.func12 (by decide +kernel) (wakes_n wx (hT.below cx.S.1.1 (Nat.le_refl _))) rfl rfl) <|
      kmu 0 <|
      hn) ?_
     intro a28 w28 f28
     refine wp_ret ?_
     try simp only [Exit.inBlock,Exit.then]
     refine bodyPost_ret (res_t (fn:=Tryd.f4) rfl (f28.v 1 rfl rfl rfl)) f28.d ?_
     exact ⟨rfl,f28.b⟩
    have Ffk6:=Lib.hid fk6;clear fk6
    refine go_reg [] [] [some (.int .i8 o),oT,oT,oU,oU,oT,oT,oU,oU,oU,oU,oU,oT] mo dL2 zL2 BL2 (by kernel_rfl) trivial (
     hk (fun cx=>cx.q (ex_mv rfl (cx.rq 3 sL2_3))) <|
     hk (fun cx=>cx.v (ex_lt (x:=.tmp 82) rfl (cx.u 0 rfl) rfl) rfl (congrArg Value.bool Ffk6.out)) <|
     kmu 0 <|
     kno 0 <|
     kno 1 <|
     hk (fun cx=>cx.q (ex_pt rfl (cx.u 0 rfl) rfl)) <|
     kmu 0 <|
     kno 0 <|
     kno 0 <|
     kno 2 <|
     kno 1 <|
     kno 1 <|
     hk (fun cx=>cx.q (ex_pt rfl (cx.u 0 rfl) rfl)) <|
     hn) ?_
    intro a29 w29 f29
    refine wp_cond_true (f29.v 12 rfl rfl rfl) ?_
    refine wp_seq ?_
    refine go_reg [] [] [oT,oT] mo f29.d f29.z f29.b (by kernel_rfl) trivial (
     hc (fun _ _ wx cx=>cx.c rfl (args0 ) Tryd.func12 (by decide +kernel) (wakes_n wx (hT.below cx.S.1.1 (Nat.le_refl _))) rfl rfl) <|
     kmu 0 <|
     hn) ?_
    intro a30 w30 f30
    refine wp_ret ?_
    try simp only [Exit.inBlock,Exit.then]
    refine bodyPost_ret (res_t (fn:=Tryd.f4) rfl (f30.v 1 rfl rfl rfl)) f30.d ?_
    exact ⟨rfl,f30.b⟩
   have Ffk2:=Lib.hid fk2;clear fk2
   have hlt1:k1 < 16:=by have:=Ffk2.out;simp only [decide_eq_true_eq] at this;omega
   refine go_reg [] [] [oT] mo dL1 zL1 BL1 (by kernel_rfl) trivial (
    hk (fun cx=>cx.v (ex_lt (x:=.tmp 38) rfl (cx.rq 38 sL1_38) rfl) rfl (congrArg Value.bool Ffk2.out)) <|
    hn) ?_
   intro a31 w31 f31
   refine wp_seq ?_
   refine wp_cond_true (f31.v 0 rfl rfl rfl) ?_
   refine wp_skip ?_
   refine wp_seq ?_
   refine wp_block ?_
   refine wp_seq ?_
   have s38_124:=f31.q 38 sL1_38
   refine go_reg [] [] [some (.int .i64 (k1:Int)),some (.int .i64 (k1:Int))] mo f31.d f31.z f31.b (by kernel_rfl) trivial (
    hk (fun cx=>cx.q (ex_mv rfl (cx.rq 38 s38_124))) <|
    kmu 0 <|
    hn) ?_
   intro a32 w32 f32
   refine wp_seq ?_
   cases fk12:(bits .and .i64 ((Mrm.writesX x) / 2 ^ k1) 1) == 0
   case false=>
    have Ffk12:=Lib.hid fk12;clear fk12
    have s13_125:=f32.q 13 (f31.q 13 sL1_13)
    refine go_reg [] [] [some (.int .i64 (Mrm.writesX x)),some (.int .i64 (k1:Int)),some (.int .i64 ((Mrm.writesX x) / 2 ^ k1)),some (.int .i64 (bits .and .i64 ((Mrm.writesX x) / 2 ^ k1) 1)),oF,oF,oU,oU,oU,oU,oU,oU,oU,oU,oU,oF] mo f32.d f32.z f32.b (by kernel_rfl) trivial (
     hk (fun cx=>cx.q (ex_mv rfl (cx.rq 13 s13_125))) <|
     hk (fun cx=>cx.q (ex_mv rfl (cx.rq 15 (f32.v 1 rfl rfl rfl)))) <|
     hk (fun cx=>cx.v (ex_shri (x:=.tmp 41) (y:=.tmp 42) (a:=Mrm.writesX x) (n:=(k1:Int)) rfl (cx.u 0 rfl) (cx.u 1 rfl) (by omega) (by omega)) rfl rfl) <|
     hk (fun cx=>cx.q (ex_and (x:=.tmp 43) rfl (cx.u 0 rfl) rfl)) <|
     hk (fun cx=>cx.v (ex_eq (x:=.tmp 44) rfl (cx.u 0 rfl) rfl) rfl (congrArg Value.bool Ffk12.out)) <|
     kmu 0 <|
     kno 0 <|
     kno 0 <|
     kno 2 <|
     kno 1 <|
     kno 0 <|
     kno 0 <|
     kno 2 <|
     kno 1 <|
     kno 2 <|
     hk (fun cx=>cx.q (ex_pf rfl (cx.u 0 rfl) rfl)) <|
     hn) ?_
    intro a33 w33 f33
    refine wp_cond_false (f33.v 15 rfl rfl rfl) ?_
    refine wp_skip ?_
    have s38_126:=f33.q 38 (f32.q 38 s38_124)
    refine go_reg [] [] [some (.int .i64 ((k1 + 1:Nat):Int)),some (.int .i64 ((k1 + 1:Nat):Int))] mo f33.d f33.z f33.b (by kernel_rfl) trivial (
     hk (fun cx=>cx.v (ex_add (x:=.tmp 38) rfl (cx.un 1 rfl rfl (by kernel_rfl) s38_126) rfl) rfl (congrArg (Value.int .i64) (wrapk hlt1 (by decide)))) <|
     kmu 0 <|
     hn) ?_
    intro a34 w34 f34
    have s2_127:=f34.q 2 (f33.q 2 (f32.q 2 (f31.q 2 sL1_2)))
    have s3_128:=f34.q 3 (f33.q 3 (f32.q 3 (f31.q 3 sL1_3)))
    have s4_129:=f34.q 4 (f33.q 4 (f32.q 4 (f31.q 4 sL1_4)))
    have s5_130:=f34.q 5 (f33.q 5 (f32.q 5 (f31.q 5 sL1_5)))
    have s6_131:=f34.q 6 (f33.q 6 (f32.q 6 (f31.q 6 sL1_6)))
    have s11_132:=f34.q 11 (f33.q 11 (f32.q 11 (f31.q 11 sL1_11)))
    have s13_133:=f34.q 13 (f33.q 13 s13_125)
    have s14_134:=f34.q 14 (f33.q 14 (f32.q 14 (f31.q 14 sL1_14)))
    have b_g1_135:=f34.k (f33.k (f32.k (f31.k bL1_g1)))
    have b_g2_136:=f34.k (f33.k (f32.k (f31.k bL1_g2)))
    have b_g3_137:=f34.k (f33.k (f32.k (f31.k bL1_g3)))
    exact ⟨hlt1,trivial,f34.d,f34.z,f34.b,⟨s2_127,s3_128,s4_129,s5_130,s6_131,s11_132,s13_133,s14_134,(f34.v 1 rfl rfl rfl),trivial⟩,⟨b_g1_135,b_g2_136,b_g3_137,trivial⟩⟩
   have Ffk12:=Lib.hid fk12;clear fk12
   have hb1:=Ffk12.out
   have b_g3_138:=f32.k (f31.k bL1_g3)
   have b_g1_139:=f32.k (f31.k bL1_g1)
   have s13_140:=f32.q 13 (f31.q 13 sL1_13)
   have s11_141:=f32.q 11 (f31.q 11 sL1_11)
   have s5_142:=f32.q 5 (f31.q 5 sL1_5)
   refine go_reg [bx g3 36 (mcC (doX m x l)),bx g1 36 (mcC m)] [] [some (.int .i64 (Mrm.writesX x)),some (.int .i64 (k1:Int)),some (.int .i64 ((Mrm.writesX x) / 2 ^ k1)),some (.int .i64 (bits .and .i64 ((Mrm.writesX x) / 2 ^ k1) 1)),oT,oT,some (.int .i64 (k1:Int)),some (pt g3 0),some (pt g3 (k1)),some (.int .u64 ((doX m x l).r k1)),some (.int .i64 (k1:Int)),some (pt g1 0),some (pt g1 (k1)),some (.int .u64 (m.r k1)),oF,oF] mo f32.d f32.z f32.b (by kernel_rfl) ⟨b_g3_138,b_g1_139,trivial⟩ (
    hk (fun cx=>cx.q (ex_mv rfl (cx.rq 13 s13_140))) <|
    hk (fun cx=>cx.q (ex_mv rfl (cx.rq 15 (f32.v 1 rfl rfl rfl)))) <|
    hk (fun cx=>cx.v (ex_shri (x:=.tmp 41) (y:=.tmp 42) (a:=Mrm.writesX x) (n:=(k1:Int)) rfl (cx.u 0 rfl) (cx.u 1 rfl) (by omega) (by omega)) rfl rfl) <|
    hk (fun cx=>cx.q (ex_and (x:=.tmp 43) rfl (cx.u 0 rfl) rfl)) <|
    hk (fun cx=>cx.v (ex_eq (x:=.tmp 44) rfl (cx.u 0 rfl) rfl) rfl (congrArg Value.bool Ffk12.out)) <|
    kmu 0 <|
    hk (fun cx=>cx.vy 0 (ex_mv rfl (cx.rq 15 (f32.v 1 rfl rfl rfl)))) <|
    hk (fun cx=>cx.vy 0 (ex_fa rfl (cx.rq 11 s11_141) (faExecApartW36_0_0 _ _))) <|
    hk (fun cx=>cx.vy 2 (ex_ia (n:=16) (sz:=1) rfl (cx.u 0 rfl) (cx.u 1 rfl) Tryd.underlying32 (by kernel_rfl) (by omega) (by omega) (by omega)) rfl) <|
    hk (fun cx=>cx.vy 1 (ldMcR (by omega) rfl (cx.u 0 rfl) (cx.rn 0 rfl)) rfl) <|
    hk (fun cx=>cx.vy 0 (ex_mv rfl (cx.rq 15 (f32.v 1 rfl rfl rfl)))) <|
    hk (fun cx=>cx.vy 0 (ex_fa rfl (cx.rq 5 s5_142) (faExecApartW36_0_0 _ _))) <|
    hk (fun cx=>cx.vy 2 (ex_ia (n:=16) (sz:=1) rfl (cx.u 0 rfl) (cx.u 1 rfl) Tryd.underlying32 (by kernel_rfl) (by omega) (by omega) (by omega)) rfl) <|
    hk (fun cx=>cx.vy 1 (ldMcR (by omega) rfl (cx.u 0 rfl) (cx.rn 1 rfl)) rfl) <|
    hk (fun cx=>cx.vy 2 (ex_ne (x:=.tmp 50) (y:=.tmp 54) rfl (cx.u 0 rfl) (cx.u 1 rfl)) (congrArg Value.bool (by rw [hD,stays hm hG hlt1 hb1];exact bne_self_eq_false _))) <|
    hk (fun cx=>cx.q (ex_pt rfl (cx.u 0 rfl) (cx.u 1 rfl))) <|
    hn) ?_
   intro a35 w35 f35
   refine wp_cond_false (f35.v 15 rfl rfl rfl) ?_
   refine wp_skip ?_
   have s38_143:=f35.q 38 (f32.q 38 s38_124)
   refine go_reg [] [] [some (.int .i64 ((k1 + 1:Nat):Int)),some (.int .i64 ((k1 + 1:Nat):Int))] mo f35.d f35.z f35.b (by kernel_rfl) trivial (
    hk (fun cx=>cx.v (ex_add (x:=.tmp 38) rfl (cx.un 1 rfl rfl (by kernel_rfl) s38_143) rfl) rfl (congrArg (Value.int .i64) (wrapk hlt1 (by decide)))) <|
    kmu 0 <|
    hn) ?_
   intro a36 w36 f36
   have s2_144:=f36.q 2 (f35.q 2 (f32.q 2 (f31.q 2 sL1_2)))
   have s3_145:=f36.q 3 (f35.q 3 (f32.q 3 (f31.q 3 sL1_3)))
   have s4_146:=f36.q 4 (f35.q 4 (f32.q 4 (f31.q 4 sL1_4)))
   have s5_147:=f36.q 5 (f35.q 5 s5_142)
   have s6_148:=f36.q 6 (f35.q 6 (f32.q 6 (f31.q 6 sL1_6)))
   have s11_149:=f36.q 11 (f35.q 11 s11_141)
   have s13_150:=f36.q 13 (f35.q 13 s13_140)
   have s14_151:=f36.q 14 (f35.q 14 (f32.q 14 (f31.q 14 sL1_14)))
   have b_g1_152:=f36.k (f35.k b_g1_139)
   have b_g2_153:=f36.k (f35.k (f32.k (f31.k bL1_g2)))
   have b_g3_154:=f36.k (f35.k b_g3_138)
   exact ⟨hlt1,trivial,f36.d,f36.z,f36.b,⟨s2_144,s3_145,s4_146,s5_147,s6_148,s11_149,s13_150,s14_151,(f36.v 1 rfl rfl rfl),trivial⟩,⟨b_g1_152,b_g2_153,b_g3_154,trivial⟩⟩
  have Ffk1:=Lib.hid fk1;clear fk1
  have hbad:=bad_zero Ffk1.out
  refine go_reg [] [] [some (.int .i64 (doXe m x l)),oT] mo f2.d f2.z f2.b (by kernel_rfl) trivial (
   hk (fun cx=>cx.q (ex_mv rfl (cx.rq 12 (f2.v 9 rfl rfl rfl)))) <|
   hk (fun cx=>cx.v (ex_ne (x:=.tmp 26) rfl (cx.u 0 rfl) rfl) rfl (congrArg Value.bool Ffk1.out)) <|
   hn) ?_
  intro a37 w37 f37
  refine wp_cond_true (f37.v 1 rfl rfl rfl) ?_
  refine wp_seq ?_
  have b_g3_155:=f37.k b_g3
  have s11_156:=f37.q 11 u_g3
  refine go_reg [bx g3 36 (mcC (doX m x l))] [] [some (.agg (mcC (doX m x l))),some (.agg (mcC zM)),oT,oT,oT,oT,oT] mo f37.d f37.z f37.b (by kernel_rfl) ⟨b_g3_155,trivial⟩ (
   hk (fun cx=>cx.q (ldMc rfl (cx.rq 11 s11_156) (cx.rn 0 rfl))) <|
   hk (fun cx=>cx.q (ex_zmc rfl)) <|
   hk (fun cx=>cx.q (exec_eql (x:=.tmp 28) (y:=.tmp 29) rfl (cx.u 0 rfl) (cx.u 1 rfl) (by kernel_rfl) (eq_mc2 (doX m x l) zM hbad _))) <|
   kmu 0 <|
   hc (fun _ _ wx cx=>cx.call (cx.wy rfl rfl rfl rfl (cx.u 0 rfl)) rfl rfl (args0 ) Tryd.func12 (by decide +kernel) rfl (wakes_n wx (hT.below cx.S.1.1 (Nat.le_refl _))) rfl rfl rfl rfl) <|
   hk (fun cx=>cx.q (ex_pt rfl (cx.u 0 rfl) (cx.u 1 rfl))) <|
   kmu 0 <|
   hn) ?_
  intro a38 w38 f38
  refine wp_ret ?_
  try simp only [Exit.inBlock,Exit.then]
  refine bodyPost_ret (res_t (fn:=Tryd.f4) rfl (f38.v 6 rfl rfl rfl)) f38.d ?_
  exact ⟨rfl,f38.b⟩
theorem apart_law (m:Mc) (x:Xi) (l o b:Int) (W:World) (hM:MOk m) (hX:Mrm.XOk x) (h1:(Lit.int .u64 l).wf=true) (h2:(Lit.int .i8 o).wf=true) (h3:(Lit.int .u64 b).wf=true) (hT:Mrm.Tabs W):Calls Tryd.prog 4 #[.agg (mcC m),.agg (xC x),.int .u64 l,.int .i8 o,.int .u64 b] W fun e w'=>e=.returned (.bool true) ∧ Below W.heap.size W w':=
  apart_n m x l o b W hT hM hX (bd_u64 h1) (bd_i8 h2) (bd_u64 h3)
end Go.Proofs.YtoghjpliemidkaaDoor.Exe
