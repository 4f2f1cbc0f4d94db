import Derived.Test.YtjhedldplmhmjaaDoorERd11
import Derived.Test.YtjhedldplmhmjaaDoorERd12
set_option linter.unusedVariables false
set_option linter.unusedSimpArgs false
set_option linter.unnecessarySimpa false
namespace Go.Proofs.YtjhedldplmhmjaaDoor.Mrm
open Go Go.RowKit
set_option linter.unusedVariables false
set_option linter.unnecessarySimpa false
set_option linter.unusedSimpArgs false
set_option maxRecDepth 100000
set_option maxHeartbeats 2000000 in
theorem eb_no (op wd dst src base disp imm cc:Int) (W:World) (hm:mayX ⟨op,wd,dst,src,base,disp,imm,cc⟩=false) (hw:-128 ≤ wd ∧ wd < 128):
    Calls Tryd.prog 20 #[.agg #[.int .i8 op,.int .i8 wd,.int .i8 dst,.int .i8 src,.int .i8 base,.int .i64 disp,.int .i64 imm,.int .i8 cc]] W (RetX [] 2 W):=by
  have MY:=Lib.hid (fun W=>show Calls Tryd.prog 19 #[.agg #[.int .i8 op,.int .i8 wd,.int .i8 dst,.int .i8 src,.int .i8 base,.int .i64 disp,.int .i64 imm,.int .i8 cc]] W fun e w'=>e=.returned (.bool false) ∧ Below W.heap.size W w' by have h:=emay_n ⟨op,wd,dst,src,base,disp,imm,cc⟩ W hw;rw [hm] at h;exact h)
  clear hm hw
  unfold RetX
  go_enter Tryd.func20,Tryd.ntmps20
  go_wp2_with fail
  refine (MY.out _).mono ?_
  rintro e w1 ⟨rfl,b1⟩
  go_wp2_with fail
  go_ret2
  exact ⟨_,rfl,Bts.nil _ _,below_boxed b1⟩
set_option maxHeartbeats 4000000 in
theorem eb_bare8 (op wd dst src base disp imm cc:Int) (l:List Int) (W:World) (hm:mayX ⟨op,wd,dst,src,base,disp,imm,cc⟩=true) (hw:-128 ≤ wd ∧ wd < 128) (hc:clsI op=8) (h16:(op == 16)=false) (h1:(op == 1)=false) (h25:(op == 25)=false) (h26:(op == 26)=false) (h27:(op == 27)=false)
    (BR:∀ W,Calls Tryd.prog 45 #[.agg #[.int .i8 op,.int .i8 wd,.int .i8 dst,.int .i8 src,.int .i8 base,.int .i64 disp,.int .i64 imm,.int .i8 cc]] W (RetV l W)):
    Calls Tryd.prog 20 #[.agg #[.int .i8 op,.int .i8 wd,.int .i8 dst,.int .i8 src,.int .i8 base,.int .i64 disp,.int .i64 imm,.int .i8 cc]] W (RetX l 0 W):=by
  have MY:=Lib.hid (fun W=>show Calls Tryd.prog 19 #[.agg #[.int .i8 op,.int .i8 wd,.int .i8 dst,.int .i8 src,.int .i8 base,.int .i64 disp,.int .i64 imm,.int .i8 cc]] W fun e w'=>e=.returned (.bool true) ∧ Below W.heap.size W w' by have h:=emay_n ⟨op,wd,dst,src,base,disp,imm,cc⟩ W hw;rw [hm] at h;exact h)
  have CD:=Lib.hid (fun W=>cod_n op W)
  have CL:=Lib.hid (fun W=>cls_is hc W)
  have BR:=Lib.hid BR
  clear hm hw hc
  unfold RetX
  go_enter Tryd.func20,Tryd.ntmps20
  go_wp2_with fail
  refine (MY.out _).mono ?_
  rintro e w1 ⟨rfl,b1⟩
  have B1:=Lib.hid b1
  clear b1
  obtain ⟨c0_1,c1_1,c2_1,c3_1,c4_1,c5_1,c6_1,c7_1⟩:=xcells B1.out
  go_wp2_with fail
  refine (CD.out _).mono ?_
  rintro e y ⟨rfl,rfl⟩
  go_wp2_with fail
  refine (CL.out _).mono ?_
  rintro e y ⟨rfl,rfl⟩
  go_wp2_with fail
  refine (CL.out _).mono ?_
  rintro e y ⟨rfl,rfl⟩
  go_wp2_with fail
  refine (CL.out _).mono ?_
  rintro e y ⟨rfl,rfl⟩
  go_wp2_with fail
  refine (CL.out _).mono ?_
  rintro e y ⟨rfl,rfl⟩
  go_wp2_with fail
  refine (BR.out _).mono ?_
  rintro e w2 ⟨u2,rfl,o2,b2⟩
  have B2:=Lib.hid (below_call B1.out b2)
  have O2:=Lib.hid (o2.mono (Nat.le_trans (Nat.le_succ _) (size1 B1.out)))
  clear o2 b2
  go_wp2_with fail
  go_ret2
  exact ⟨_,rfl,O2.out,below_boxed B2.out⟩
set_option maxHeartbeats 4000000 in
theorem eb_bare9 (op wd dst src base disp imm cc:Int) (l:List Int) (W:World) (hm:mayX ⟨op,wd,dst,src,base,disp,imm,cc⟩=true) (hw:-128 ≤ wd ∧ wd < 128) (hc:clsI op=9) (h16:(op == 16)=false) (h1:(op == 1)=false) (h25:(op == 25)=false) (h26:(op == 26)=false) (h27:(op == 27)=false)
    (BR:∀ W,Calls Tryd.prog 45 #[.agg #[.int .i8 op,.int .i8 wd,.int .i8 dst,.int .i8 src,.int .i8 base,.int .i64 disp,.int .i64 imm,.int .i8 cc]] W (RetV l W)):
    Calls Tryd.prog 20 #[.agg #[.int .i8 op,.int .i8 wd,.int .i8 dst,.int .i8 src,.int .i8 base,.int .i64 disp,.int .i64 imm,.int .i8 cc]] W (RetX l 0 W):=by
  have MY:=Lib.hid (fun W=>show Calls Tryd.prog 19 #[.agg #[.int .i8 op,.int .i8 wd,.int .i8 dst,.int .i8 src,.int .i8 base,.int .i64 disp,.int .i64 imm,.int .i8 cc]] W fun e w'=>e=.returned (.bool true) ∧ Below W.heap.size W w' by have h:=emay_n ⟨op,wd,dst,src,base,disp,imm,cc⟩ W hw;rw [hm] at h;exact h)
  have CD:=Lib.hid (fun W=>cod_n op W)
  have CL:=Lib.hid (fun W=>cls_is hc W)
  have BR:=Lib.hid BR
  clear hm hw hc
  unfold RetX
  go_enter Tryd.func20,Tryd.ntmps20
  go_wp2_with fail
  refine (MY.out _).mono ?_
  rintro e w1 ⟨rfl,b1⟩
  have B1:=Lib.hid b1
  clear b1
  obtain ⟨c0_1,c1_1,c2_1,c3_1,c4_1,c5_1,c6_1,c7_1⟩:=xcells B1.out
  go_wp2_with fail
  refine (CD.out _).mono ?_
  rintro e y ⟨rfl,rfl⟩
  go_wp2_with fail
  refine (CL.out _).mono ?_
  rintro e y ⟨rfl,rfl⟩
  go_wp2_with fail
  refine (CL.out _).mono ?_
  rintro e y ⟨rfl,rfl⟩
  go_wp2_with fail
  refine (CL.out _).mono ?_
  rintro e y ⟨rfl,rfl⟩
  go_wp2_with fail
  refine (CL.out _).mono ?_
  rintro e y ⟨rfl,rfl⟩
  go_wp2_with fail
  refine (BR.out _).mono ?_
  rintro e w2 ⟨u2,rfl,o2,b2⟩
  have B2:=Lib.hid (below_call B1.out b2)
  have O2:=Lib.hid (o2.mono (Nat.le_trans (Nat.le_succ _) (size1 B1.out)))
  clear o2 b2
  go_wp2_with fail
  go_ret2
  exact ⟨_,rfl,O2.out,below_boxed B2.out⟩
set_option maxHeartbeats 4000000 in
theorem eb_bare10 (op wd dst src base disp imm cc:Int) (l:List Int) (W:World) (hm:mayX ⟨op,wd,dst,src,base,disp,imm,cc⟩=true) (hw:-128 ≤ wd ∧ wd < 128) (hc:clsI op=10) (h16:(op == 16)=false) (h1:(op == 1)=false) (h25:(op == 25)=false) (h26:(op == 26)=false) (h27:(op == 27)=false)
    (BR:∀ W,Calls Tryd.prog 45 #[.agg #[.int .i8 op,.int .i8 wd,.int .i8 dst,.int .i8 src,.int .i8 base,.int .i64 disp,.int .i64 imm,.int .i8 cc]] W (RetV l W)):
    Calls Tryd.prog 20 #[.agg #[.int .i8 op,.int .i8 wd,.int .i8 dst,.int .i8 src,.int .i8 base,.int .i64 disp,.int .i64 imm,.int .i8 cc]] W (RetX l 0 W):=by
  have MY:=Lib.hid (fun W=>show Calls Tryd.prog 19 #[.agg #[.int .i8 op,.int .i8 wd,.int .i8 dst,.int .i8 src,.int .i8 base,.int .i64 disp,.int .i64 imm,.int .i8 cc]] W fun e w'=>e=.returned (.bool true) ∧ Below W.heap.size W w' by have h:=emay_n ⟨op,wd,dst,src,base,disp,imm,cc⟩ W hw;rw [hm] at h;exact h)
  have CD:=Lib.hid (fun W=>cod_n op W)
  have CL:=Lib.hid (fun W=>cls_is hc W)
  have BR:=Lib.hid BR
  clear hm hw hc
  unfold RetX
  go_enter Tryd.func20,Tryd.ntmps20
  go_wp2_with fail
  refine (MY.out _).mono ?_
  rintro e w1 ⟨rfl,b1⟩
  have B1:=Lib.hid b1
  clear b1
  obtain ⟨c0_1,c1_1,c2_1,c3_1,c4_1,c5_1,c6_1,c7_1⟩:=xcells B1.out
  go_wp2_with fail
  refine (CD.out _).mono ?_
  rintro e y ⟨rfl,rfl⟩
  go_wp2_with fail
  refine (CL.out _).mono ?_
  rintro e y ⟨rfl,rfl⟩
  go_wp2_with fail
  refine (CL.out _).mono ?_
  rintro e y ⟨rfl,rfl⟩
  go_wp2_with fail
  refine (CL.out _).mono ?_
  rintro e y ⟨rfl,rfl⟩
  go_wp2_with fail
  refine (CL.out _).mono ?_
  rintro e y ⟨rfl,rfl⟩
  go_wp2_with fail
  refine (BR.out _).mono ?_
  rintro e w2 ⟨u2,rfl,o2,b2⟩
  have B2:=Lib.hid (below_call B1.out b2)
  have O2:=Lib.hid (o2.mono (Nat.le_trans (Nat.le_succ _) (size1 B1.out)))
  clear o2 b2
  go_wp2_with fail
  go_ret2
  exact ⟨_,rfl,O2.out,below_boxed B2.out⟩
theorem cls_fin:∀ k:Fin 32,(clsI (k.1:Int)=5 → (k.1:Int)=25) ∧ (clsI (k.1:Int)=6 → (k.1:Int)=26) ∧ (clsI (k.1:Int)=7 → (k.1:Int)=27) ∧ (clsI (k.1:Int)=8 → (k.1:Int)=28) ∧ (clsI (k.1:Int)=9 → (k.1:Int)=29) ∧ (clsI (k.1:Int)=10 → (k.1:Int)=30 ∨ (k.1:Int)=31):=by decide +kernel
theorem cls_op {op k:Int} (h:clsI op=k) (hk:k ≠ 0):(k=5 → op=25) ∧ (k=6 → op=26) ∧ (k=7 → op=27) ∧ (k=8 → op=28) ∧ (k=9 → op=29) ∧ (k=10 → op=30 ∨ op=31):=by
  by_cases g:0 ≤ op ∧ op < 32
  · have:=cls_fin ⟨op.toNat,by omega⟩
    simp only [Int.toNat_of_nonneg g.1,h] at this
    exact this
  · exfalso;apply hk;rw [← h];unfold clsI;rw [if_neg g]
theorem may_facts {x:Xi} (h:mayX x=true):clsI x.op ≠ 0 ∧ (0 ≤ x.dst ∧ x.dst < 16) ∧ (0 ≤ x.src ∧ x.src < 16) ∧ (0 ≤ x.base ∧ x.base < 16) ∧ clsB (clsI x.op) x=true:=by
  unfold mayX at h
  simp only [Bool.and_eq_true,bne_iff_ne,ne_eq] at h
  obtain ⟨h1,h2,h3,h4,h5,h6,h7,h8⟩:=h
  exact ⟨h1,regB_iff.1 h3,regB_iff.1 h4,regB_iff.1 h5,h8⟩
theorem long_iff {w:Int} (h:longB w=true):w=32 ∨ w=64:=by unfold longB at h;simpa using h
theorem cc_iff {c:Int} (h:ccB c=true):0 ≤ c ∧ c < 16:=by unfold ccB at h;simp at h;omega
theorem beq_no {a b:Int} (h:¬ a=b):(a == b)=false:=by simpa using h
theorem ebytes_yes (op wd dst src base disp imm cc:Int) (W:World) (hm:mayX ⟨op,wd,dst,src,base,disp,imm,cc⟩=true) (hw:-128 ≤ wd ∧ wd < 128):
    Calls Tryd.prog 20 #[.agg #[.int .i8 op,.int .i8 wd,.int .i8 dst,.int .i8 src,.int .i8 base,.int .i64 disp,.int .i64 imm,.int .i8 cc]] W (RetX (bytesX ⟨op,wd,dst,src,base,disp,imm,cc⟩) 0 W):=by
  obtain ⟨f0,hd,hs,hb,fb⟩:=may_facts hm
  dsimp only at f0 hd hs hb fb
  unfold bytesX
  dsimp only
  by_cases o16:op=16
  · subst o16
    rw [if_pos rfl]
    exact eb_mul wd dst src base disp imm cc W hm hw hd hs hb
  rw [if_neg o16]
  by_cases c1:clsI op=1
  · rw [if_pos c1]
    exact eb_c1 op wd dst src base disp imm cc W hm hw hd hs hb c1 (beq_no o16)
  rw [if_neg c1]
  by_cases o1:op=1
  · subst o1
    rw [if_pos rfl]
    have hl:longB wd=true:=fb
    rcases long_iff hl with rfl | rfl
    · rw [if_neg (by decide)]
      exact eb_movi32 dst src base disp imm cc W hm trivial hd hs hb
    · rw [if_pos rfl]
      exact eb_movi64 dst src base disp imm cc W hm trivial hd hs hb
  rw [if_neg o1]
  by_cases c2:clsI op=2
  · rw [if_pos c2]
    by_cases o15:op=15
    · subst o15
      rw [if_pos rfl]
      exact eb_testi wd dst src base disp imm cc W hm hw hd hs hb
    · rw [if_neg o15]
      exact eb_c2 op wd dst src base disp imm cc W hm hw hd hs hb c2 (beq_no o16) (beq_no o1) (beq_no o15)
  rw [if_neg c2]
  by_cases c3:clsI op=3
  · rw [if_pos c3]
    rw [c3] at fb
    unfold clsB at fb
    simp at fb
    have hl:=long_iff fb.1
    exact eb_c3 op wd dst src base disp imm cc W hm hw hd hs hb c3 (beq_no o16) (beq_no o1) (by omega) (by omega)
  rw [if_neg c3]
  by_cases c4:clsI op=4
  · rw [if_pos c4]
    by_cases o23:op=23
    · subst o23
      rw [if_pos (.inl rfl)]
      exact eb_n23 wd dst src base disp imm cc W hm hw hd hs hb
    by_cases o24:op=24
    · subst o24
      rw [if_pos (.inr rfl)]
      exact eb_n24 wd dst src base disp imm cc W hm hw hd hs hb
    rw [if_neg (by omega)]
    exact eb_c4 op wd dst src base disp imm cc W hm hw hd hs hb c4 (beq_no o16) (beq_no o1) (beq_no o23) (beq_no o24)
  rw [if_neg c4]
  by_cases o25:op=25
  · subst o25
    rw [if_pos rfl]
    have hl:(longB wd && ccB cc)=true:=fb
    have hcc:=cc_iff (Bool.and_eq_true_iff.1 hl).2
    exact eb_cmov wd dst src base disp imm cc W hm hw hd hs hb hcc.1 hcc.2
  rw [if_neg o25]
  by_cases o26:op=26
  · subst o26
    rw [if_pos rfl]
    by_cases w8:wd=8
    · subst w8;rw [if_pos rfl];exact eb_load8 dst src base disp imm cc W hm trivial hd hs hb
    rw [if_neg w8]
    by_cases w16:wd=16
    · subst w16;rw [if_pos rfl];exact eb_load16 dst src base disp imm cc W hm trivial hd hs hb
    rw [if_neg w16]
    exact eb_loadw wd dst src base disp imm cc W hm hw hd hs hb (beq_no w8) (beq_no w16)
  rw [if_neg o26]
  by_cases o27:op=27
  · subst o27
    rw [if_pos rfl]
    by_cases w8:wd=8
    · subst w8;exact eb_store8 dst src base disp imm cc W hm trivial hd hs hb
    by_cases w16:wd=16
    · subst w16;exact eb_store16 dst src base disp imm cc W hm trivial hd hs hb
    rw [if_neg w8,if_neg w16,beq_no w8]
    exact eb_storew wd dst src base disp imm cc W hm hw hd hs hb (beq_no w8) (beq_no w16)
  rw [if_neg o27]
  have hop:=cls_op (op:=op) rfl f0
  unfold bareX
  dsimp only
  by_cases o28:op=28
  · subst o28
    rw [if_pos rfl]
    by_cases w8:wd=8
    · subst w8
      rw [if_pos rfl]
      exact eb_bare8 28 8 dst src base disp imm cc _ W hm hw rfl rfl rfl rfl rfl rfl (fun W=>ebr_j8 dst src base disp imm cc W)
    · rw [if_neg w8]
      exact eb_bare8 28 wd dst src base disp imm cc _ W hm hw rfl rfl rfl rfl rfl rfl (fun W=>ebr_j wd dst src base disp imm cc W (beq_no w8))
  rw [if_neg o28]
  by_cases o29:op=29
  · subst o29
    rw [if_pos rfl]
    have hl:(jmpB ⟨29,wd,dst,src,base,disp,imm,cc⟩ && ccB cc)=true:=fb
    have hcc:=cc_iff (Bool.and_eq_true_iff.1 hl).2
    by_cases w8:wd=8
    · subst w8
      rw [if_pos rfl]
      exact eb_bare9 29 8 dst src base disp imm cc _ W hm hw rfl rfl rfl rfl rfl rfl (fun W=>ebr_c8 dst src base disp imm cc W hcc.1 hcc.2)
    · rw [if_neg w8]
      exact eb_bare9 29 wd dst src base disp imm cc _ W hm hw rfl rfl rfl rfl rfl rfl (fun W=>ebr_c wd dst src base disp imm cc W (beq_no w8) hcc.1 hcc.2)
  rw [if_neg o29]
  have h10:op=30 ∨ op=31:=by
    rcases clsI_cases op with h | h | h | h | h | h | h | h | h | h | h
    · exact absurd h f0
    · exact absurd h c1
    · exact absurd h c2
    · exact absurd h c3
    · exact absurd h c4
    · exact absurd (hop.1 h) o25
    · exact absurd (hop.2.1 h) o26
    · exact absurd (hop.2.2.1 h) o27
    · exact absurd (hop.2.2.2.1 h) o28
    · exact absurd (hop.2.2.2.2.1 h) o29
    · exact hop.2.2.2.2.2 h
  rcases h10 with rfl | rfl
  · rw [if_pos rfl]
    exact eb_bare10 30 wd dst src base disp imm cc _ W hm hw rfl rfl rfl rfl rfl rfl (fun W=>ebr_ret wd dst src base disp imm cc W)
  · rw [if_neg (by decide)]
    exact eb_bare10 31 wd dst src base disp imm cc _ W hm hw rfl rfl rfl rfl rfl rfl (fun W=>ebr_host wd dst src base disp imm cc W)
theorem ebytes_n (x:Xi) (W:World) (hw:-128 ≤ x.w ∧ x.w < 128):Calls Tryd.prog 20 #[.agg (xC x)] W (RetX (bif mayX x then bytesX x else []) (bif mayX x then 0 else 2) W):=by
  cases h:mayX x
  · exact eb_no x.op x.w x.dst x.src x.base x.disp x.imm x.cc W h hw
  · exact ebytes_yes x.op x.w x.dst x.src x.base x.disp x.imm x.cc W h hw
end Go.Proofs.YtjhedldplmhmjaaDoor.Mrm
namespace Go.Proofs.YtjhedldplmhmjaaDoor.Mrm
open Go Go.RowKit
set_option linter.unusedVariables false
set_option linter.unnecessarySimpa false
set_option linter.unusedSimpArgs false
set_option maxRecDepth 100000
structure Rdr where
  pos:Int
  bad:Bool
  wide:Bool
  r:Int
  m:Int
abbrev rC (v:Value) (s:Rdr):Array Value:=#[v,.int .i64 s.pos,.bool s.bad,.bool s.wide,.int .i8 s.r,.int .i8 s.m]
structure RdAt (g:Nat) (a:Option Addr) (n c:Nat) (l:List Int) (s:Rdr) (w:World):Prop where
  blk:w.heap[g]?=some (.cells (rC (.slice a n c) s) 39 (0,0))
  bytes:BytesAt w a n c l
  apart:∀ ad,a=some ad → 0 < n → ad.block ≠ g
  lo:0 ≤ s.pos
  hi:s.pos ≤ n
structure Gx (g:Nat) (w w':World):Prop where
  os:w'.os=w.os
  tape:w'.tape=w.tape
  output:w'.output=w.output
  size:w.heap.size ≤ w'.heap.size
  block:∀ k,k < w.heap.size → k ≠ g → w'.heap[k]?=w.heap[k]?
theorem Gx.refl (g:Nat) (w:World):Gx g w w:=⟨rfl,rfl,rfl,Nat.le_refl _,fun _ _ _=>rfl⟩
theorem Gx.trans {g:Nat} {w w' w2:World} (h:Gx g w w') (b:Gx g w' w2):Gx g w w2:=⟨b.os.trans h.os,b.tape.trans h.tape,b.output.trans h.output,Nat.le_trans h.size b.size,fun k hk hne=>(b.block k (by have:=h.size;omega) hne).trans (h.block k hk hne)⟩
theorem Gx.of {g:Nat} {w w':World} (b:Below w.heap.size w w'):Gx g w w':=⟨b.os,b.tape,b.output,b.size,fun k hk _=>b.block k hk⟩
theorem Gx.set {w w':World} (g:Nat) (h:Gx g w w') (i:Nat) (v:Value):Gx g w (w'.setCell ⟨g,i,none⟩ v):=
  ⟨h.os,h.tape,h.output,by have:=h.size;rw [Deep.nblk_setCell];exact this,fun k hk hne=>(setCell_past _ _ _ _ hne).trans (h.block k hk hne)⟩
theorem Gx.cell {g:Nat} {w w':World} (h:Gx g w w') {b i:Nat} {v:Value} (hc:w.cell? ⟨b,i,none⟩=some v) (hb:b ≠ g):w'.cell? ⟨b,i,none⟩=some v:=by
  have hl:=lt_cell hc
  simp only [World.cell?] at hc ⊢
  rw [h.block b hl hb];exact hc
theorem below_gx {W w w':World} {B g:Nat} (h:Below B W w) (k:Gx g w w') (hB:B ≤ w.heap.size) (hg:B ≤ g):Below B W w':=h.trans ⟨k.os,k.tape,k.output,k.size,fun j hj=>k.block j (by omega) (by omega)⟩
theorem BytesAt.gx {W w:World} {g:Nat} {a:Option Addr} {len cap:Nat} {zs:List Int} (h:BytesAt W a len cap zs) (k:Gx g W w) (ap:∀ ad,a=some ad → 0 < len → ad.block ≠ g):BytesAt w a len cap zs:=
  ⟨h.size,h.le,h.fit,fun hp=>by
    obtain ⟨b',o,e,hc⟩:=h.here hp
    exact ⟨b',o,e,fun j z hz=>k.cell (hc j z hz) (ap _ e hp)⟩,h.ok,h.nilc⟩
section
variable {g:Nat} {a:Option Addr} {n c:Nat} {l:List Int} {s:Rdr} {w w':World}
theorem RdAt.cells (h:RdAt g a n c l s w):w.cell? ⟨g,0,none⟩=some (.slice a n c) ∧ w.cell? ⟨g,1,none⟩=some (.int .i64 s.pos) ∧ w.cell? ⟨g,2,none⟩=some (.bool s.bad) ∧ w.cell? ⟨g,3,none⟩=some (.bool s.wide) ∧ w.cell? ⟨g,4,none⟩=some (.int .i8 s.r) ∧ w.cell? ⟨g,5,none⟩=some (.int .i8 s.m) ∧ ∀ i,w.frozen? ⟨g,i,none⟩=false:=by
  have hb:=h.blk
  refine ⟨?_,?_,?_,?_,?_,?_,fun i=>?_⟩
  · simp only [World.cell?,hb];rfl
  · simp only [World.cell?,hb];rfl
  · simp only [World.cell?,hb];rfl
  · simp only [World.cell?,hb];rfl
  · simp only [World.cell?,hb];rfl
  · simp only [World.cell?,hb];rfl
  · simp only [World.frozen?,hb];simp
theorem RdAt.below (h:RdAt g a n c l s w) (b:Below w.heap.size w w'):RdAt g a n c l s w':=
  ⟨(b.block g (Array.getElem?_eq_some_iff.1 h.blk).1).trans h.blk,h.bytes.below b,h.apart,h.lo,h.hi⟩
theorem RdAt.setBad (h:RdAt g a n c l s w) (b:Bool):RdAt g a n c l { s with bad:=b } (w.setCell ⟨g,2,none⟩ (.bool b)):=
  ⟨setCell_row h.blk 2 (.bool b),h.bytes.gx ((Gx.refl g w).set g 2 _) h.apart,h.apart,h.lo,h.hi⟩
theorem RdAt.setPos (h:RdAt g a n c l s w) (p:Int) (h0:0 ≤ p) (h1:p ≤ n):RdAt g a n c l { s with pos:=p } (w.setCell ⟨g,1,none⟩ (.int .i64 p)):=
  ⟨setCell_row h.blk 1 (.int .i64 p),h.bytes.gx ((Gx.refl g w).set g 1 _) h.apart,h.apart,h0,h1⟩
theorem RdAt.setWide (h:RdAt g a n c l s w) (b:Bool):RdAt g a n c l { s with wide:=b } (w.setCell ⟨g,3,none⟩ (.bool b)):=
  ⟨setCell_row h.blk 3 (.bool b),h.bytes.gx ((Gx.refl g w).set g 3 _) h.apart,h.apart,h.lo,h.hi⟩
theorem RdAt.setR (h:RdAt g a n c l s w) (p:Int):RdAt g a n c l { s with r:=p } (w.setCell ⟨g,4,none⟩ (.int .i8 p)):=
  ⟨setCell_row h.blk 4 (.int .i8 p),h.bytes.gx ((Gx.refl g w).set g 4 _) h.apart,h.apart,h.lo,h.hi⟩
theorem RdAt.setM (h:RdAt g a n c l s w) (p:Int):RdAt g a n c l { s with m:=p } (w.setCell ⟨g,5,none⟩ (.int .i8 p)):=
  ⟨setCell_row h.blk 5 (.int .i8 p),h.bytes.gx ((Gx.refl g w).set g 5 _) h.apart,h.apart,h.lo,h.hi⟩
end
def byteV (l:List Int) (s:Rdr):Int:=l.getD s.pos.toNat 0
def byteS (l:List Int) (s:Rdr):Rdr:=if s.pos < l.length then { s with pos:=s.pos + 1 } else { s with bad:=true }
theorem byteV_bd {l:List Int} (ok:Oks l) (s:Rdr):0 ≤ byteV l s ∧ byteV l s < 256:=by
  unfold byteV
  rw [List.getD_eq_getElem?_getD]
  cases h:l[s.pos.toNat]? with
  | none=>exact ⟨Int.le_refl _,by show (0:Int) < 256;decide⟩
  | some z=>exact ok z (List.mem_of_getElem? h)
def Red (g:Nat) (a:Option Addr) (n c:Nat) (l:List Int) (s:Rdr) (W w':World):Prop:=RdAt g a n c l s w' ∧ Gx g W w'
section
variable {g:Nat} {a:Option Addr} {n c:Nat} {l:List Int} {s:Rdr} {W w w':World}
theorem Red.refl (h:RdAt g a n c l s W):Red g a n c l s W W:=⟨h,Gx.refl g W⟩
theorem Red.on (h:Red g a n c l s W w) (b:Below w.heap.size w w'):Red g a n c l s W w':=⟨h.1.below b,h.2.trans (.of b)⟩
theorem Red.drawn (h:Red g a n c l s W w) (k:Nat):Red g a n c l s W (w.drewN k):=h.on (below_drewN (Below.refl _ _) k)
theorem Red.trans {t:Rdr} (h:Red g a n c l s W w) (k:Red g a n c l t w w'):Red g a n c l t W w':=⟨k.1,h.2.trans k.2⟩
theorem Red.bad (h:Red g a n c l s W w) (b:Bool):Red g a n c l { s with bad:=b } W (w.setCell ⟨g,2,none⟩ (.bool b)):=⟨h.1.setBad b,h.2.set g 2 _⟩
theorem Red.wide (h:Red g a n c l s W w) (b:Bool):Red g a n c l { s with wide:=b } W (w.setCell ⟨g,3,none⟩ (.bool b)):=⟨h.1.setWide b,h.2.set g 3 _⟩
theorem Red.pos (h:Red g a n c l s W w) (p:Int) (h0:0 ≤ p) (h1:p ≤ n):Red g a n c l { s with pos:=p } W (w.setCell ⟨g,1,none⟩ (.int .i64 p)):=⟨h.1.setPos p h0 h1,h.2.set g 1 _⟩
theorem Red.r (h:Red g a n c l s W w) (p:Int):Red g a n c l { s with r:=p } W (w.setCell ⟨g,4,none⟩ (.int .i8 p)):=⟨h.1.setR p,h.2.set g 4 _⟩
theorem Red.m (h:Red g a n c l s W w) (p:Int):Red g a n c l { s with m:=p } W (w.setCell ⟨g,5,none⟩ (.int .i8 p)):=⟨h.1.setM p,h.2.set g 5 _⟩
end
set_option maxHeartbeats 1000000 in
theorem rbyte_n (g:Nat) (a:Option Addr) (n c:Nat) (l:List Int) (s:Rdr) (W:World) (h:RdAt g a n c l s W):
    Calls Tryd.prog 16 #[.pointer (some ⟨g,0,none⟩)] W fun e w'=>e=.returned (.int .i64 (byteV l s)) ∧ Red g a n c l (byteS l s) W w':=by
  obtain ⟨c0,c1,c2,c3,c4,c5,fz⟩:=h.cells
  have F1:=fz 1
  have F2:=fz 2
  have hlo:=h.lo
  have hhi:=h.hi
  have hsz:=h.bytes.size
  have hle:=h.bytes.le
  have hfit:=h.bytes.fit
  have HH:=Lib.hid h
  obtain ⟨pos,bad,wide,r,m⟩:=s
  simp only at c1 c2 c3 c4 c5 hlo hhi
  clear h fz
  by_cases hp:pos < (n:Int)
  · have t1:decide ((n:Int) ≤ pos)=false:=by simp;omega
    obtain ⟨b,o,rfl,hc⟩:=HH.out.bytes.here (by omega)
    have hne:b ≠ g:=HH.out.apart _ rfl (by omega)
    obtain ⟨z,hz⟩:∃ z,l[pos.toNat]?=some z:=⟨l[pos.toNat]'(by omega),List.getElem?_eq_getElem (by omega)⟩
    have hc1:=hc pos.toNat z hz
    have zb:=HH.out.bytes.ok z (List.mem_of_getElem? hz)
    have hv:byteV l ⟨pos,bad,wide,r,m⟩=z:=by unfold byteV;rw [List.getD_eq_getElem?_getD,hz];rfl
    have hs:byteS l ⟨pos,bad,wide,r,m⟩=⟨pos + 1,bad,wide,r,m⟩:=by unfold byteS;rw [if_pos (show pos < (l.length:Int) by omega)]
    rw [hv,hs]
    have e1:IntKind.i64.wrap (pos + 1)=pos + 1:=by rw [IntKind.wrap_i64];omega
    have e2:IntKind.i64.wrap (pos + 1 - 1)=pos:=by rw [IntKind.wrap_i64];omega
    have hh:=Lib.hid (HH.out.setPos (pos + 1) (by omega) (by omega))
    have GG:=Lib.hid ((Gx.refl g W).set g 1 (.int .i64 (pos + 1)))
    have d1:=Lib.hid (hh.out.cells)
    have k0:=d1.out.1
    have k1:=d1.out.2.1
    have kb:(W.setCell ⟨g,1,none⟩ (.int .i64 (pos + 1))).cell? ⟨b,o + pos.toNat,none⟩=some (.int .u8 z):=GG.out.cell hc1 hne
    clear hv hs hc hz hsz d1
    go_enter Tryd.func16,Tryd.ntmps16
    go_wp2_with fail
    go_quiet (fail)
    go_wp2_with fail
    go_quiet (fail)
    go_wp2_with fail
    go_ret
    exact ⟨rfl,(((Red.refl HH.out).drawn _).pos (pos + 1) (by omega) (by omega)).drawn _⟩
  · have t1:decide ((n:Int) ≤ pos)=true:=by simp;omega
    have hv:byteV l ⟨pos,bad,wide,r,m⟩=0:=by unfold byteV;rw [List.getD_eq_getElem?_getD,List.getElem?_eq_none (by simp only;omega)];rfl
    have hs:byteS l ⟨pos,bad,wide,r,m⟩=⟨pos,true,wide,r,m⟩:=by unfold byteS;rw [if_neg (show ¬ pos < (l.length:Int) by omega)]
    rw [hv,hs]
    have hh:=Lib.hid (HH.out.setBad true)
    have GG:=Lib.hid ((Gx.refl g W).set g 2 (.bool true))
    clear hv hs hsz
    go_enter Tryd.func16,Tryd.ntmps16
    go_wp2_with fail
    go_quiet (fail)
    go_wp2_with fail
    go_ret
    exact ⟨rfl,((Red.refl HH.out).drawn _).bad true⟩
end Go.Proofs.YtjhedldplmhmjaaDoor.Mrm
namespace Go.Proofs.YtjhedldplmhmjaaDoor.Mrm
open Go Go.RowKit
set_option linter.unusedVariables false
set_option linter.unnecessarySimpa false
set_option linter.unusedSimpArgs false
set_option maxRecDepth 100000
theorem and7_fin:∀ k:Fin 256,bits .and .i64 (k.1:Int) 7=(k.1:Int) % 8:=by decide +kernel
theorem and7r {n r:Int} (h:0 ≤ n ∧ n < 256) (hr:0 ≤ r ∧ r ≤ 1):IntKind.i8.wrap (IntKind.i8.wrap (bits .and .i64 n 7) + 8 * r)=n % 8 + 8 * r:=by
  have:=and7_fin ⟨n.toNat,by omega⟩
  simp only [Int.toNat_of_nonneg h.1] at this
  rw [this]
  simp only [IntKind.wrap,IntKind.signed,IntKind.bits]
  simp
  omega
def twoS (l:List Int) (s:Rdr):Rdr:={ byteS l s with bad:=(byteS l s).bad || decide (byteV l s < 192) }
theorem byteS_r (l:List Int) (s:Rdr):(byteS l s).r=s.r ∧ (byteS l s).m=s.m ∧ (byteS l s).wide=s.wide:=by
  unfold byteS;split <;> exact ⟨rfl,rfl,rfl⟩
set_option maxHeartbeats 1000000 in
theorem rtwo_n (g:Nat) (a:Option Addr) (n c:Nat) (l:List Int) (s:Rdr) (W:World) (h:RdAt g a n c l s W) (hr:0 ≤ s.r ∧ s.r ≤ 1) (hm:0 ≤ s.m ∧ s.m ≤ 1):
    Calls Tryd.prog 12 #[.pointer (some ⟨g,0,none⟩)] W fun e w'=>e=.returned (.tuple #[.int .i8 (byteV l s / 8 % 8 + 8 * s.r),.int .i8 (byteV l s % 8 + 8 * s.m)]) ∧ Red g a n c l (twoS l s) W w':=by
  have BY:=Lib.hid (rbyte_n g a n c l s W h)
  have hv:=byteV_bd h.bytes.ok s
  obtain ⟨er,em,ew⟩:=byteS_r l s
  unfold twoS
  rw [← er,← em]
  rw [← er] at hr
  rw [← em] at hm
  clear er em ew h
  generalize byteV l s=v at *
  generalize byteS l s=s1 at *
  clear s
  obtain ⟨pos,bad,wide,r,m⟩:=s1
  simp only at hr hm ⊢
  obtain ⟨v0,v1⟩:=hv
  have E1:=and7r (n:=v / 8) ⟨by omega,by omega⟩ hr
  have E2:=and7r ⟨v0,v1⟩ hm
  generalize hb:decide (v < 192)=lt
  cases bad <;> cases lt <;> (
    go_enter Tryd.func12,Tryd.ntmps12
    go_wp2_with fail
    refine BY.out.mono ?_
    rintro e w1 ⟨rfl,rd⟩
    have RD:=Lib.hid rd
    clear rd BY
    obtain ⟨c0,c1,c2,c3,c4,c5,fz⟩:=RD.out.1.cells
    simp only at c1 c2 c3 c4 c5
    have F2:=fz 2
    clear fz
    go_wp2_with fail
    go_quiet (fail)
    go_wp2_with fail
    go_ret2
    exact ⟨rfl,(RD.out.bad _).drawn _⟩)
end Go.Proofs.YtjhedldplmhmjaaDoor.Mrm
namespace Go.Proofs.YtjhedldplmhmjaaDoor.Mrm
open Go Go.RowKit
set_option linter.unusedVariables false
set_option linter.unnecessarySimpa false
set_option linter.unusedSimpArgs false
set_option maxRecDepth 100000
theorem ofInt_modE (v:Int):(BitVec.ofInt 64 v).toNat=(v % 18446744073709551616).toNat:=by
  rw [BitVec.toNat_ofInt];rfl
theorem and_maskE (v:Int) (i:Nat) (hi:i ≤ 63) (m:Int) (hm:m=2 ^ i - 1):bits .and .u64 v m=v % 2 ^ i:=by
  have q:(2:Nat) ^ i ≤ 2 ^ 63:=Nat.pow_le_pow_right (by omega) hi
  have p:0 < (2:Nat) ^ i:=Nat.two_pow_pos i
  have e:(2:Int) ^ i=((2 ^ i:Nat):Int):=by simp
  have q':((2:Nat) ^ 63)=9223372036854775808:=rfl
  show IntKind.u64.wrap ((BitVec.ofInt 64 v &&& BitVec.ofInt 64 m).toNat:Int)=_
  have h2:(BitVec.ofInt 64 m).toNat=2 ^ i - 1:=by
    rw [ofInt_modE,hm,e];omega
  rw [BitVec.toNat_and,ofInt_modE,h2,Nat.and_two_pow_sub_one_eq_mod,IntKind.wrap_u64]
  have h3:(((v % 18446744073709551616).toNat % 2 ^ i:Nat):Int)=(v % 18446744073709551616) % ((2 ^ i:Nat):Int):=by
    rw [Int.natCast_emod,Int.toNat_of_nonneg (by omega)]
  have h4:((2 ^ i:Nat):Int) ∣ 18446744073709551616:=by
    refine ⟨((2 ^ (64 - i):Nat):Int),?_⟩
    rw [← Int.natCast_mul,← Nat.pow_add,show i + (64 - i)=64 by omega];rfl
  have h5:(v % ((2 ^ i:Nat):Int)) < ((2 ^ i:Nat):Int):=Int.emod_lt_of_pos _ (by omega)
  have h6:0 ≤ (v % ((2 ^ i:Nat):Int)):=Int.emod_nonneg _ (by omega)
  rw [h3,Int.emod_emod_of_dvd v h4,e,Int.emod_eq_of_lt h6 (by omega)]
def sg8 (v:Int):Int:=if v < 128 then v else v - 256
theorem ewidth_8 (W:World):Calls Tryd.prog 39 #[.int .i8 8] W fun e w'=>e=.returned (.bool true) ∧ W=w':=by
  go_enter Tryd.func39,Tryd.ntmps39
  go_wp2
  go_ret
  exact ⟨rfl,rfl⟩
theorem ecut_8 (v:Int) (W:World):Calls Tryd.prog 60 #[.int .u64 v,.int .i8 8] W fun e w'=>e=.returned (.int .u64 (v % 256)) ∧ W=w':=by
  have e1:bits .and .u64 v 255=v % 256:=and_maskE v 8 (by omega) 255 rfl
  go_enter Tryd.func60,Tryd.ntmps60
  go_wp2_with (go_at_call 39;refine (ewidth_8 _).mono ?_;rintro e w' ⟨rfl,rfl⟩)
  go_ret
  exact ⟨rfl,rfl⟩
set_option maxHeartbeats 400000 in
theorem esign_8 (v:Int) (h0:0 ≤ v) (h1:v < 256) (W:World):Calls Tryd.prog 33 #[.int .u64 v,.int .i8 8] W fun e w'=>e=.returned (.int .u64 (sg8 v % 18446744073709551616)) ∧ W=w':=by
  have e0:v % 256=v:=Int.emod_eq_of_lt h0 h1
  have e1:bits .and .u64 (v / 128) 1=v / 128 % 2:=and_maskE (v / 128) 1 (by omega) 1 rfl
  by_cases hb:v / 128 % 2=1
  · have h2:(v / 128 % 2 == 1)=true:=by simpa using hb
    have HB:=Lib.hid hb;clear hb
    go_enter Tryd.func33,Tryd.ntmps33
    go_wp2_with (first | (go_at_call 39;refine (ewidth_8 _).mono ?_;rintro e w' ⟨rfl,rfl⟩) | (go_at_call 60;refine (ecut_8 _ _).mono ?_;rw [e0];rintro e w' ⟨rfl,rfl⟩))
    go_ret
    refine ⟨retV (congrArg (Value.int .u64) ?_),rfl⟩
    have hb:=HB.out
    rw [IntKind.wrap_u64];unfold sg8;split <;> omega
  · have h2:(v / 128 % 2 == 1)=false:=by simpa using hb
    have HB:=Lib.hid hb;clear hb
    go_enter Tryd.func33,Tryd.ntmps33
    go_wp2_with (first | (go_at_call 39;refine (ewidth_8 _).mono ?_;rintro e w' ⟨rfl,rfl⟩) | (go_at_call 60;refine (ecut_8 _ _).mono ?_;rw [e0];rintro e w' ⟨rfl,rfl⟩))
    go_ret
    refine ⟨retV (congrArg (Value.int .u64) ?_),rfl⟩
    have hb:=HB.out
    unfold sg8;split <;> omega
def sg32 (v:Int):Int:=if v < 2147483648 then v else v - 4294967296
theorem ewidth_32 (W:World):Calls Tryd.prog 39 #[.int .i8 32] W fun e w'=>e=.returned (.bool true) ∧ W=w':=by
  go_enter Tryd.func39,Tryd.ntmps39
  go_wp2
  go_ret
  exact ⟨rfl,rfl⟩
theorem ecut_32 (v:Int) (W:World):Calls Tryd.prog 60 #[.int .u64 v,.int .i8 32] W fun e w'=>e=.returned (.int .u64 (v % 4294967296)) ∧ W=w':=by
  have e1:bits .and .u64 v 4294967295=v % 4294967296:=and_maskE v 32 (by omega) 4294967295 rfl
  go_enter Tryd.func60,Tryd.ntmps60
  go_wp2_with (go_at_call 39;refine (ewidth_32 _).mono ?_;rintro e w' ⟨rfl,rfl⟩)
  go_ret
  exact ⟨rfl,rfl⟩
set_option maxHeartbeats 400000 in
theorem esign_32 (v:Int) (h0:0 ≤ v) (h1:v < 4294967296) (W:World):Calls Tryd.prog 33 #[.int .u64 v,.int .i8 32] W fun e w'=>e=.returned (.int .u64 (sg32 v % 18446744073709551616)) ∧ W=w':=by
  have e0:v % 4294967296=v:=Int.emod_eq_of_lt h0 h1
  have e1:bits .and .u64 (v / 2147483648) 1=v / 2147483648 % 2:=and_maskE (v / 2147483648) 1 (by omega) 1 rfl
  by_cases hb:v / 2147483648 % 2=1
  · have h2:(v / 2147483648 % 2 == 1)=true:=by simpa using hb
    have HB:=Lib.hid hb;clear hb
    go_enter Tryd.func33,Tryd.ntmps33
    go_wp2_with (first | (go_at_call 39;refine (ewidth_32 _).mono ?_;rintro e w' ⟨rfl,rfl⟩) | (go_at_call 60;refine (ecut_32 _ _).mono ?_;rw [e0];rintro e w' ⟨rfl,rfl⟩))
    go_ret
    refine ⟨retV (congrArg (Value.int .u64) ?_),rfl⟩
    have hb:=HB.out
    rw [IntKind.wrap_u64];unfold sg32;split <;> omega
  · have h2:(v / 2147483648 % 2 == 1)=false:=by simpa using hb
    have HB:=Lib.hid hb;clear hb
    go_enter Tryd.func33,Tryd.ntmps33
    go_wp2_with (first | (go_at_call 39;refine (ewidth_32 _).mono ?_;rintro e w' ⟨rfl,rfl⟩) | (go_at_call 60;refine (ecut_32 _ _).mono ?_;rw [e0];rintro e w' ⟨rfl,rfl⟩))
    go_ret
    refine ⟨retV (congrArg (Value.int .u64) ?_),rfl⟩
    have hb:=HB.out
    unfold sg32;split <;> omega
end Go.Proofs.YtjhedldplmhmjaaDoor.Mrm
