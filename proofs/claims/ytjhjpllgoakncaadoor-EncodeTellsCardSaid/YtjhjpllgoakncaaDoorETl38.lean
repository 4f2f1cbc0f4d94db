import Derived.Test.YtjhjpllgoakncaaDoorETl34
import Derived.Test.YtjhjpllgoakncaaDoorETl35
import Derived.Test.YtjhjpllgoakncaaDoorETl36
import Derived.Test.YtjhjpllgoakncaaDoorETl37
set_option linter.unusedVariables false
set_option linter.unusedSimpArgs false
set_option linter.unnecessarySimpa false
namespace Go.Proofs.YtjhjpllgoakncaaDoor.Mrm
open Go Go.RowKit
set_option linter.unusedVariables false
set_option linter.unnecessarySimpa false
set_option linter.unusedSimpArgs false
set_option maxRecDepth 100000
set_option maxHeartbeats 2000000 in
theorem eb_no (op wd dst src base disp imm cc:Int) (W:World) (hm:mayX ⟨op,wd,dst,src,base,disp,imm,cc⟩=false) (hw:-128 ≤ wd ∧ wd < 128):
    Calls Tryd.prog 10 #[.agg #[.int .i8 op,.int .i8 wd,.int .i8 dst,.int .i8 src,.int .i8 base,.int .i64 disp,.int .i64 imm,.int .i8 cc]] W (RetX [] 2 W):=by
  have MY:=Lib.hid (fun W=>show Calls Tryd.prog 12 #[.agg #[.int .i8 op,.int .i8 wd,.int .i8 dst,.int .i8 src,.int .i8 base,.int .i64 disp,.int .i64 imm,.int .i8 cc]] W fun e w'=>e=.returned (.bool false) ∧ Below W.heap.size W w' by have h:=emay_n ⟨op,wd,dst,src,base,disp,imm,cc⟩ W hw;rw [hm] at h;exact h)
  clear hm hw
  unfold RetX
  go_enter Tryd.func10,Tryd.ntmps10
  go_wp2_with fail
  refine (MY.out _).mono ?_
  rintro e w1 ⟨rfl,b1⟩
  go_wp2_with fail
  go_ret2
  exact ⟨_,rfl,Bts.nil _ _,below_boxed b1⟩
set_option maxHeartbeats 4000000 in
theorem eb_bare8 (op wd dst src base disp imm cc:Int) (l:List Int) (W:World) (hm:mayX ⟨op,wd,dst,src,base,disp,imm,cc⟩=true) (hw:-128 ≤ wd ∧ wd < 128) (hc:clsI op=8) (h16:(op == 16)=false) (h1:(op == 1)=false) (h25:(op == 25)=false) (h26:(op == 26)=false) (h27:(op == 27)=false)
    (BR:∀ W,Calls Tryd.prog 30 #[.agg #[.int .i8 op,.int .i8 wd,.int .i8 dst,.int .i8 src,.int .i8 base,.int .i64 disp,.int .i64 imm,.int .i8 cc]] W (RetV l W)):
    Calls Tryd.prog 10 #[.agg #[.int .i8 op,.int .i8 wd,.int .i8 dst,.int .i8 src,.int .i8 base,.int .i64 disp,.int .i64 imm,.int .i8 cc]] W (RetX l 0 W):=by
  have MY:=Lib.hid (fun W=>show Calls Tryd.prog 12 #[.agg #[.int .i8 op,.int .i8 wd,.int .i8 dst,.int .i8 src,.int .i8 base,.int .i64 disp,.int .i64 imm,.int .i8 cc]] W fun e w'=>e=.returned (.bool true) ∧ Below W.heap.size W w' by have h:=emay_n ⟨op,wd,dst,src,base,disp,imm,cc⟩ W hw;rw [hm] at h;exact h)
  have CD:=Lib.hid (fun W=>cod_n op W)
  have CL:=Lib.hid (fun W=>cls_is hc W)
  have BR:=Lib.hid BR
  clear hm hw hc
  unfold RetX
  go_enter Tryd.func10,Tryd.ntmps10
  go_wp2_with fail
  refine (MY.out _).mono ?_
  rintro e w1 ⟨rfl,b1⟩
  have B1:=Lib.hid b1
  clear b1
  obtain ⟨c0_1,c1_1,c2_1,c3_1,c4_1,c5_1,c6_1,c7_1⟩:=xcells B1.out
  go_wp2_with fail
  refine (CD.out _).mono ?_
  rintro e y ⟨rfl,rfl⟩
  go_wp2_with fail
  refine (CL.out _).mono ?_
  rintro e y ⟨rfl,rfl⟩
  go_wp2_with fail
  refine (CL.out _).mono ?_
  rintro e y ⟨rfl,rfl⟩
  go_wp2_with fail
  refine (CL.out _).mono ?_
  rintro e y ⟨rfl,rfl⟩
  go_wp2_with fail
  refine (CL.out _).mono ?_
  rintro e y ⟨rfl,rfl⟩
  go_wp2_with fail
  refine (BR.out _).mono ?_
  rintro e w2 ⟨u2,rfl,o2,b2⟩
  have B2:=Lib.hid (below_call B1.out b2)
  have O2:=Lib.hid (o2.mono (Nat.le_trans (Nat.le_succ _) (size1 B1.out)))
  clear o2 b2
  go_wp2_with fail
  go_ret2
  exact ⟨_,rfl,O2.out,below_boxed B2.out⟩
set_option maxHeartbeats 4000000 in
theorem eb_bare9 (op wd dst src base disp imm cc:Int) (l:List Int) (W:World) (hm:mayX ⟨op,wd,dst,src,base,disp,imm,cc⟩=true) (hw:-128 ≤ wd ∧ wd < 128) (hc:clsI op=9) (h16:(op == 16)=false) (h1:(op == 1)=false) (h25:(op == 25)=false) (h26:(op == 26)=false) (h27:(op == 27)=false)
    (BR:∀ W,Calls Tryd.prog 30 #[.agg #[.int .i8 op,.int .i8 wd,.int .i8 dst,.int .i8 src,.int .i8 base,.int .i64 disp,.int .i64 imm,.int .i8 cc]] W (RetV l W)):
    Calls Tryd.prog 10 #[.agg #[.int .i8 op,.int .i8 wd,.int .i8 dst,.int .i8 src,.int .i8 base,.int .i64 disp,.int .i64 imm,.int .i8 cc]] W (RetX l 0 W):=by
  have MY:=Lib.hid (fun W=>show Calls Tryd.prog 12 #[.agg #[.int .i8 op,.int .i8 wd,.int .i8 dst,.int .i8 src,.int .i8 base,.int .i64 disp,.int .i64 imm,.int .i8 cc]] W fun e w'=>e=.returned (.bool true) ∧ Below W.heap.size W w' by have h:=emay_n ⟨op,wd,dst,src,base,disp,imm,cc⟩ W hw;rw [hm] at h;exact h)
  have CD:=Lib.hid (fun W=>cod_n op W)
  have CL:=Lib.hid (fun W=>cls_is hc W)
  have BR:=Lib.hid BR
  clear hm hw hc
  unfold RetX
  go_enter Tryd.func10,Tryd.ntmps10
  go_wp2_with fail
  refine (MY.out _).mono ?_
  rintro e w1 ⟨rfl,b1⟩
  have B1:=Lib.hid b1
  clear b1
  obtain ⟨c0_1,c1_1,c2_1,c3_1,c4_1,c5_1,c6_1,c7_1⟩:=xcells B1.out
  go_wp2_with fail
  refine (CD.out _).mono ?_
  rintro e y ⟨rfl,rfl⟩
  go_wp2_with fail
  refine (CL.out _).mono ?_
  rintro e y ⟨rfl,rfl⟩
  go_wp2_with fail
  refine (CL.out _).mono ?_
  rintro e y ⟨rfl,rfl⟩
  go_wp2_with fail
  refine (CL.out _).mono ?_
  rintro e y ⟨rfl,rfl⟩
  go_wp2_with fail
  refine (CL.out _).mono ?_
  rintro e y ⟨rfl,rfl⟩
  go_wp2_with fail
  refine (BR.out _).mono ?_
  rintro e w2 ⟨u2,rfl,o2,b2⟩
  have B2:=Lib.hid (below_call B1.out b2)
  have O2:=Lib.hid (o2.mono (Nat.le_trans (Nat.le_succ _) (size1 B1.out)))
  clear o2 b2
  go_wp2_with fail
  go_ret2
  exact ⟨_,rfl,O2.out,below_boxed B2.out⟩
set_option maxHeartbeats 4000000 in
theorem eb_bare10 (op wd dst src base disp imm cc:Int) (l:List Int) (W:World) (hm:mayX ⟨op,wd,dst,src,base,disp,imm,cc⟩=true) (hw:-128 ≤ wd ∧ wd < 128) (hc:clsI op=10) (h16:(op == 16)=false) (h1:(op == 1)=false) (h25:(op == 25)=false) (h26:(op == 26)=false) (h27:(op == 27)=false)
    (BR:∀ W,Calls Tryd.prog 30 #[.agg #[.int .i8 op,.int .i8 wd,.int .i8 dst,.int .i8 src,.int .i8 base,.int .i64 disp,.int .i64 imm,.int .i8 cc]] W (RetV l W)):
    Calls Tryd.prog 10 #[.agg #[.int .i8 op,.int .i8 wd,.int .i8 dst,.int .i8 src,.int .i8 base,.int .i64 disp,.int .i64 imm,.int .i8 cc]] W (RetX l 0 W):=by
  have MY:=Lib.hid (fun W=>show Calls Tryd.prog 12 #[.agg #[.int .i8 op,.int .i8 wd,.int .i8 dst,.int .i8 src,.int .i8 base,.int .i64 disp,.int .i64 imm,.int .i8 cc]] W fun e w'=>e=.returned (.bool true) ∧ Below W.heap.size W w' by have h:=emay_n ⟨op,wd,dst,src,base,disp,imm,cc⟩ W hw;rw [hm] at h;exact h)
  have CD:=Lib.hid (fun W=>cod_n op W)
  have CL:=Lib.hid (fun W=>cls_is hc W)
  have BR:=Lib.hid BR
  clear hm hw hc
  unfold RetX
  go_enter Tryd.func10,Tryd.ntmps10
  go_wp2_with fail
  refine (MY.out _).mono ?_
  rintro e w1 ⟨rfl,b1⟩
  have B1:=Lib.hid b1
  clear b1
  obtain ⟨c0_1,c1_1,c2_1,c3_1,c4_1,c5_1,c6_1,c7_1⟩:=xcells B1.out
  go_wp2_with fail
  refine (CD.out _).mono ?_
  rintro e y ⟨rfl,rfl⟩
  go_wp2_with fail
  refine (CL.out _).mono ?_
  rintro e y ⟨rfl,rfl⟩
  go_wp2_with fail
  refine (CL.out _).mono ?_
  rintro e y ⟨rfl,rfl⟩
  go_wp2_with fail
  refine (CL.out _).mono ?_
  rintro e y ⟨rfl,rfl⟩
  go_wp2_with fail
  refine (CL.out _).mono ?_
  rintro e y ⟨rfl,rfl⟩
  go_wp2_with fail
  refine (BR.out _).mono ?_
  rintro e w2 ⟨u2,rfl,o2,b2⟩
  have B2:=Lib.hid (below_call B1.out b2)
  have O2:=Lib.hid (o2.mono (Nat.le_trans (Nat.le_succ _) (size1 B1.out)))
  clear o2 b2
  go_wp2_with fail
  go_ret2
  exact ⟨_,rfl,O2.out,below_boxed B2.out⟩
theorem cls_fin:∀ k:Fin 32,(clsI (k.1:Int)=5 → (k.1:Int)=25) ∧ (clsI (k.1:Int)=6 → (k.1:Int)=26) ∧ (clsI (k.1:Int)=7 → (k.1:Int)=27) ∧ (clsI (k.1:Int)=8 → (k.1:Int)=28) ∧ (clsI (k.1:Int)=9 → (k.1:Int)=29) ∧ (clsI (k.1:Int)=10 → (k.1:Int)=30 ∨ (k.1:Int)=31):=by decide +kernel
theorem cls_op {op k:Int} (h:clsI op=k) (hk:k ≠ 0):(k=5 → op=25) ∧ (k=6 → op=26) ∧ (k=7 → op=27) ∧ (k=8 → op=28) ∧ (k=9 → op=29) ∧ (k=10 → op=30 ∨ op=31):=by
  by_cases g:0 ≤ op ∧ op < 32
  · have:=cls_fin ⟨op.toNat,by omega⟩
    simp only [Int.toNat_of_nonneg g.1,h] at this
    exact this
  · exfalso;apply hk;rw [← h];unfold clsI;rw [if_neg g]
theorem may_facts {x:Xi} (h:mayX x=true):clsI x.op ≠ 0 ∧ (0 ≤ x.dst ∧ x.dst < 16) ∧ (0 ≤ x.src ∧ x.src < 16) ∧ (0 ≤ x.base ∧ x.base < 16) ∧ clsB (clsI x.op) x=true:=by
  unfold mayX at h
  simp only [Bool.and_eq_true,bne_iff_ne,ne_eq] at h
  obtain ⟨h1,h2,h3,h4,h5,h6,h7,h8⟩:=h
  exact ⟨h1,regB_iff.1 h3,regB_iff.1 h4,regB_iff.1 h5,h8⟩
theorem long_iff {w:Int} (h:longB w=true):w=32 ∨ w=64:=by unfold longB at h;simpa using h
theorem cc_iff {c:Int} (h:ccB c=true):0 ≤ c ∧ c < 16:=by unfold ccB at h;simp at h;omega
theorem beq_no {a b:Int} (h:¬ a=b):(a == b)=false:=by simpa using h
theorem ebytes_yes (op wd dst src base disp imm cc:Int) (W:World) (hm:mayX ⟨op,wd,dst,src,base,disp,imm,cc⟩=true) (hw:-128 ≤ wd ∧ wd < 128):
    Calls Tryd.prog 10 #[.agg #[.int .i8 op,.int .i8 wd,.int .i8 dst,.int .i8 src,.int .i8 base,.int .i64 disp,.int .i64 imm,.int .i8 cc]] W (RetX (bytesX ⟨op,wd,dst,src,base,disp,imm,cc⟩) 0 W):=by
  obtain ⟨f0,hd,hs,hb,fb⟩:=may_facts hm
  dsimp only at f0 hd hs hb fb
  unfold bytesX
  dsimp only
  by_cases o16:op=16
  · subst o16
    rw [if_pos rfl]
    exact eb_mul wd dst src base disp imm cc W hm hw hd hs hb
  rw [if_neg o16]
  by_cases c1:clsI op=1
  · rw [if_pos c1]
    exact eb_c1 op wd dst src base disp imm cc W hm hw hd hs hb c1 (beq_no o16)
  rw [if_neg c1]
  by_cases o1:op=1
  · subst o1
    rw [if_pos rfl]
    have hl:longB wd=true:=fb
    rcases long_iff hl with rfl | rfl
    · rw [if_neg (by decide)]
      exact eb_movi32 dst src base disp imm cc W hm trivial hd hs hb
    · rw [if_pos rfl]
      exact eb_movi64 dst src base disp imm cc W hm trivial hd hs hb
  rw [if_neg o1]
  by_cases c2:clsI op=2
  · rw [if_pos c2]
    by_cases o15:op=15
    · subst o15
      rw [if_pos rfl]
      exact eb_testi wd dst src base disp imm cc W hm hw hd hs hb
    · rw [if_neg o15]
      exact eb_c2 op wd dst src base disp imm cc W hm hw hd hs hb c2 (beq_no o16) (beq_no o1) (beq_no o15)
  rw [if_neg c2]
  by_cases c3:clsI op=3
  · rw [if_pos c3]
    rw [c3] at fb
    unfold clsB at fb
    simp at fb
    have hl:=long_iff fb.1
    exact eb_c3 op wd dst src base disp imm cc W hm hw hd hs hb c3 (beq_no o16) (beq_no o1) (by omega) (by omega)
  rw [if_neg c3]
  by_cases c4:clsI op=4
  · rw [if_pos c4]
    by_cases o23:op=23
    · subst o23
      rw [if_pos (.inl rfl)]
      exact eb_n23 wd dst src base disp imm cc W hm hw hd hs hb
    by_cases o24:op=24
    · subst o24
      rw [if_pos (.inr rfl)]
      exact eb_n24 wd dst src base disp imm cc W hm hw hd hs hb
    rw [if_neg (by omega)]
    exact eb_c4 op wd dst src base disp imm cc W hm hw hd hs hb c4 (beq_no o16) (beq_no o1) (beq_no o23) (beq_no o24)
  rw [if_neg c4]
  by_cases o25:op=25
  · subst o25
    rw [if_pos rfl]
    have hl:(longB wd && ccB cc)=true:=fb
    have hcc:=cc_iff (Bool.and_eq_true_iff.1 hl).2
    exact eb_cmov wd dst src base disp imm cc W hm hw hd hs hb hcc.1 hcc.2
  rw [if_neg o25]
  by_cases o26:op=26
  · subst o26
    rw [if_pos rfl]
    by_cases w8:wd=8
    · subst w8;rw [if_pos rfl];exact eb_load8 dst src base disp imm cc W hm trivial hd hs hb
    rw [if_neg w8]
    by_cases w16:wd=16
    · subst w16;rw [if_pos rfl];exact eb_load16 dst src base disp imm cc W hm trivial hd hs hb
    rw [if_neg w16]
    exact eb_loadw wd dst src base disp imm cc W hm hw hd hs hb (beq_no w8) (beq_no w16)
  rw [if_neg o26]
  by_cases o27:op=27
  · subst o27
    rw [if_pos rfl]
    by_cases w8:wd=8
    · subst w8;exact eb_store8 dst src base disp imm cc W hm trivial hd hs hb
    by_cases w16:wd=16
    · subst w16;exact eb_store16 dst src base disp imm cc W hm trivial hd hs hb
    rw [if_neg w8,if_neg w16,beq_no w8]
    exact eb_storew wd dst src base disp imm cc W hm hw hd hs hb (beq_no w8) (beq_no w16)
  rw [if_neg o27]
  have hop:=cls_op (op:=op) rfl f0
  unfold bareX
  dsimp only
  by_cases o28:op=28
  · subst o28
    rw [if_pos rfl]
    by_cases w8:wd=8
    · subst w8
      rw [if_pos rfl]
      exact eb_bare8 28 8 dst src base disp imm cc _ W hm hw rfl rfl rfl rfl rfl rfl (fun W=>ebr_j8 dst src base disp imm cc W)
    · rw [if_neg w8]
      exact eb_bare8 28 wd dst src base disp imm cc _ W hm hw rfl rfl rfl rfl rfl rfl (fun W=>ebr_j wd dst src base disp imm cc W (beq_no w8))
  rw [if_neg o28]
  by_cases o29:op=29
  · subst o29
    rw [if_pos rfl]
    have hl:(jmpB ⟨29,wd,dst,src,base,disp,imm,cc⟩ && ccB cc)=true:=fb
    have hcc:=cc_iff (Bool.and_eq_true_iff.1 hl).2
    by_cases w8:wd=8
    · subst w8
      rw [if_pos rfl]
      exact eb_bare9 29 8 dst src base disp imm cc _ W hm hw rfl rfl rfl rfl rfl rfl (fun W=>ebr_c8 dst src base disp imm cc W hcc.1 hcc.2)
    · rw [if_neg w8]
      exact eb_bare9 29 wd dst src base disp imm cc _ W hm hw rfl rfl rfl rfl rfl rfl (fun W=>ebr_c wd dst src base disp imm cc W (beq_no w8) hcc.1 hcc.2)
  rw [if_neg o29]
  have h10:op=30 ∨ op=31:=by
    rcases clsI_cases op with h | h | h | h | h | h | h | h | h | h | h
    · exact absurd h f0
    · exact absurd h c1
    · exact absurd h c2
    · exact absurd h c3
    · exact absurd h c4
    · exact absurd (hop.1 h) o25
    · exact absurd (hop.2.1 h) o26
    · exact absurd (hop.2.2.1 h) o27
    · exact absurd (hop.2.2.2.1 h) o28
    · exact absurd (hop.2.2.2.2.1 h) o29
    · exact hop.2.2.2.2.2 h
  rcases h10 with rfl | rfl
  · rw [if_pos rfl]
    exact eb_bare10 30 wd dst src base disp imm cc _ W hm hw rfl rfl rfl rfl rfl rfl (fun W=>ebr_ret wd dst src base disp imm cc W)
  · rw [if_neg (by decide)]
    exact eb_bare10 31 wd dst src base disp imm cc _ W hm hw rfl rfl rfl rfl rfl rfl (fun W=>ebr_host wd dst src base disp imm cc W)
theorem ebytes_n (x:Xi) (W:World) (hw:-128 ≤ x.w ∧ x.w < 128):Calls Tryd.prog 10 #[.agg (xC x)] W (RetX (bif mayX x then bytesX x else []) (bif mayX x then 0 else 2) W):=by
  cases h:mayX x
  · exact eb_no x.op x.w x.dst x.src x.base x.disp x.imm x.cc W h hw
  · exact ebytes_yes x.op x.w x.dst x.src x.base x.disp x.imm x.cc W h hw
end Go.Proofs.YtjhjpllgoakncaaDoor.Mrm
