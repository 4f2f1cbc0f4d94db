import Derived.Test.YtjhedldplmhmjaaDoorERd10
import Derived.Deep.RegionLaw
set_option linter.unusedVariables false
set_option linter.unusedSimpArgs false
set_option linter.unnecessarySimpa false
namespace Go.Proofs.YtjhedldplmhmjaaDoor.Mrm
open Go Go.RowKit
set_option maxRecDepth 100000
set_option linter.unusedVariables false
theorem step_append_b {ops:Array Oper} {o:Oper} {a:Act} {w:World} {K:Act → World → Prop} {Q:Exit → Act → World → Prop} {E:Prop} (hgd:o.guard=none) (s x:Operand)
    (ho:o.op=.call { callee:=.builtin .append,args:=#[s,x],argTypes:=#[22,22] })
    (base:Nat) (v:Value) (l:List Int) (hs:a.eval s=v) (hown:Bts base w v l) (ad:Addr) (m c:Nat) (zs:List Int) (hx:a.eval x=.slice (some ad) m c) (hE:BytesAt w (some ad) m c zs)
    (hfew:l.length + m ≤ 100000) (hb:base ≤ w.heap.size)
    (h:∀ v' w',Bts base w' v' (l ++ zs) → w.grownBy w' v.ownBlock → K (a.put o.dst v') w'):if Region.wanted o (yielded ops a.tmps)=true then Oper.wp Tryd.prog o a w K Q else E:=by
  have hw:Region.wanted o (yielded ops a.tmps)=true:=by simp [Region.wanted,hgd]
  rw [if_pos hw]
  obtain ⟨ti,i1,i2,i3,i4⟩:=info_u8a
  have hl:=hE.size
  refine wp_append_own w s x 22 ho base 5 ti (.int .u8 0) 1 1 Tryd.underlying22 i1 i2 i3 i4 rfl (by decide) v l.length (u8s l) hs hown ad m c (u8s zs) hx (by simp [u8s];omega) (fun j u hu=>?_) (u8s_one zs) (by unfold maxLen;omega) (by omega) hb (fun v' w' o g _=>h v' w' ?_ g)
  · unfold u8s at hu
    rw [List.getElem?_map] at hu
    cases hz:zs[j]? with
    | none=>rw [hz] at hu;cases hu
    | some z=>
      rw [hz] at hu
      obtain rfl:Value.int .u8 z=u:=by simpa using hu
      have hj:j < zs.length:=(List.getElem?_eq_some_iff.1 hz).1
      obtain ⟨b',o',e,hc⟩:=hE.here (by omega)
      injection e with e
      subst e
      rw [Addr.add_mid]
      exact hc j z hz
  · unfold Bts
    rw [u8s_append,List.length_append,← hl]
    exact o
end Go.Proofs.YtjhedldplmhmjaaDoor.Mrm
namespace Go.Proofs.YtjhedldplmhmjaaDoor.Mrm
open Go Go.RowKit
set_option linter.unusedVariables false
set_option linter.unnecessarySimpa false
set_option linter.unusedSimpArgs false
set_option maxRecDepth 100000
set_option maxHeartbeats 4000000 in
theorem eb_c3 (op wd dst src base disp imm cc:Int) (W:World) (hm:mayX ⟨op,wd,dst,src,base,disp,imm,cc⟩=true) (hw:-128 ≤ wd ∧ wd < 128) (hd:0 ≤ dst ∧ dst < 16) (hs:0 ≤ src ∧ src < 16) (hb:0 ≤ base ∧ base < 16) (hc:clsI op=3) (h16:(op == 16)=false) (h1:(op == 1)=false) (hi0:0 ≤ imm) (hi1:imm < 64):
    Calls Tryd.prog 20 #[.agg #[.int .i8 op,.int .i8 wd,.int .i8 dst,.int .i8 src,.int .i8 base,.int .i64 disp,.int .i64 imm,.int .i8 cc]] W (RetX (rexL (wd == 64) 0 dst false ++ [193,opI 192 (codI op) dst,imm]) 0 W):=by
  have MY:=Lib.hid (fun W=>show Calls Tryd.prog 19 #[.agg #[.int .i8 op,.int .i8 wd,.int .i8 dst,.int .i8 src,.int .i8 base,.int .i64 disp,.int .i64 imm,.int .i8 cc]] W fun e w'=>e=.returned (.bool true) ∧ Below W.heap.size W w' by have h:=emay_n ⟨op,wd,dst,src,base,disp,imm,cc⟩ W hw;rw [hm] at h;exact h)
  have CD:=Lib.hid (fun W=>cod_n op W)
  have CL:=Lib.hid (fun W=>cls_is hc W)
  have RX:=Lib.hid (fun W=>erex_n (wd == 64) 0 dst false W)
  have rl:=rexL_length (wd == 64) 0 dst false
  have RO:=Lib.hid (rexL_ok (wd == 64) 0 dst false)
  have cb:=codI_bd op
  have c0:=cb.1
  have c1:codI op < 16:=cb.2.2 (by rw [hc];decide)
  clear cb
  have DR:=Lib.hid (fun W=>edirect_n (codI op) dst ⟨c0,c1⟩ hd W)
  have ob:=opI_bd (k:=192) (r:=codI op) (m:=dst) (.inl rfl)
  clear hm hw hd hs hb hc
  generalize opI 192 (codI op) dst=d at *
  generalize codI op=c at *
  generalize rexL (wd == 64) 0 dst false=rl0 at *
  have ei:IntKind.u8.wrap imm=imm:=add_u8 ⟨hi0,by omega⟩
  have ec:IntKind.i8.wrap c=c:=by simp [IntKind.wrap,IntKind.signed,IntKind.bits];omega
  unfold RetX
  go_enter Tryd.func20,Tryd.ntmps20
  go_wp2_with fail
  refine (MY.out _).mono ?_
  rintro e w1 ⟨rfl,b1⟩
  have B1:=Lib.hid b1
  clear b1
  obtain ⟨c0_1,c1_1,c2_1,c3_1,c4_1,c5_1,c6_1,c7_1⟩:=xcells B1.out
  go_wp2_with fail
  refine (CD.out _).mono ?_
  rintro e y ⟨rfl,rfl⟩
  go_wp2_with fail
  refine (CL.out _).mono ?_
  rintro e y ⟨rfl,rfl⟩
  go_wp2_with fail
  refine (CL.out _).mono ?_
  rintro e y ⟨rfl,rfl⟩
  go_wp2_with fail
  refine (CL.out _).mono ?_
  rintro e y ⟨rfl,rfl⟩
  go_wp2_with fail
  refine (RX.out _).mono ?_
  rintro e w2 ⟨u2,rfl,o2,b2⟩
  have B2:=Lib.hid (below_call B1.out b2)
  have O2:=Lib.hid (o2.mono (size1 B1.out))
  clear o2 b2
  obtain ⟨c0_2,c1_2,c2_2,c3_2,c4_2,c5_2,c6_2,c7_2⟩:=xcells B2.out
  clear c0_1 c1_1 c2_1 c3_1 c4_1 c5_1 c6_1 c7_1
  go_wp2_with fail
  have KS:=Lib.hid (fun w' (b:Below (W.alloc (.cells #[.int .i8 op,.int .i8 wd,.int .i8 dst,.int .i8 src,.int .i8 base,.int .i64 disp,.int .i64 imm,.int .i8 cc] 26)).heap.size (W.alloc (.cells #[.int .i8 op,.int .i8 wd,.int .i8 dst,.int .i8 src,.int .i8 base,.int .i64 disp,.int .i64 imm,.int .i8 cc] 26)) w')=>show w'.cell? ⟨W.heap.size,2,none⟩=some (.int .i8 dst) ∧ w'.cell? ⟨W.heap.size,6,none⟩=some (.int .i64 imm) ∧ Below (W.alloc (.cells #[.int .i8 op,.int .i8 wd,.int .i8 dst,.int .i8 src,.int .i8 base,.int .i64 disp,.int .i64 imm,.int .i8 cc] 26)).heap.size (W.alloc (.cells #[.int .i8 op,.int .i8 wd,.int .i8 dst,.int .i8 src,.int .i8 base,.int .i64 disp,.int .i64 imm,.int .i8 cc] 26)) w' from by obtain ⟨h0,h1,h2,h3,h4,h5,h6,h7⟩:=xcells b;exact ⟨h2,h6,b⟩)
  go_region_held3 (fun w'=>w'.cell? ⟨W.heap.size,2,none⟩=some (.int .i8 dst) ∧ w'.cell? ⟨W.heap.size,6,none⟩=some (.int .i64 imm) ∧ Below (W.alloc (.cells #[.int .i8 op,.int .i8 wd,.int .i8 dst,.int .i8 src,.int .i8 base,.int .i64 disp,.int .i64 imm,.int .i8 cc] 26)).heap.size (W.alloc (.cells #[.int .i8 op,.int .i8 wd,.int .i8 dst,.int .i8 src,.int .i8 base,.int .i64 disp,.int .i64 imm,.int .i8 cc] 26)) w') ((go_split_ands;refine KS.out _ ?_;repeat' (first | assumption | exact B2.out | exact Below.refl _ _ | apply Below.drew | apply below_new))) (first | (go_at_call 42;refine (DR.out _).mono ?_;rintro e y ⟨rfl,rfl⟩) | (refine step_append_b rfl _ _ rfl (W.heap.size + 1) _ rl0 rfl ((O2.out.below (below_new (Below.refl _ _) _)).below (Below.drew (Below.refl _ _))) _ 3 3 [193,d,imm] rfl ((made_at _ [193,d,imm] (by intro z hz;simp at hz;omega) (by simp)).below (Below.drew (Below.refl _ _))) (by simp;omega) (Nat.le_trans (size1 B2.out) (by simp)) ?_;intro u3 w3 o3 g3;have b3:=grown1 (Below.drew (below_new B2.out _)) g3 (fun j hj=>O2.out.lt j hj)))
  all_goals (
  have O3:=Lib.hid o3
  clear o3 g3
  go_wp2_with fail
  go_ret2
  have hh:Bts W.heap.size w3 u3 (rl0 ++ [193,d,imm]):=by have h:=O3.out.mono (Nat.le_succ _);simpa only [List.append_assoc,List.cons_append,List.nil_append] using h
  exact ⟨_,rfl,hh,below_boxed b3⟩)
set_option maxHeartbeats 4000000 in
theorem eb_cmov (wd dst src base disp imm cc:Int) (W:World) (hm:mayX ⟨25,wd,dst,src,base,disp,imm,cc⟩=true) (hw:-128 ≤ wd ∧ wd < 128) (hd:0 ≤ dst ∧ dst < 16) (hs:0 ≤ src ∧ src < 16) (hb:0 ≤ base ∧ base < 16) (hk0:0 ≤ cc) (hk1:cc < 16):
    Calls Tryd.prog 20 #[.agg #[.int .i8 25,.int .i8 wd,.int .i8 dst,.int .i8 src,.int .i8 base,.int .i64 disp,.int .i64 imm,.int .i8 cc]] W (RetX (rexL (wd == 64) dst src false ++ [15,64 + cc,opI 192 dst src]) 0 W):=by
  have MY:=Lib.hid (fun W=>show Calls Tryd.prog 19 #[.agg #[.int .i8 25,.int .i8 wd,.int .i8 dst,.int .i8 src,.int .i8 base,.int .i64 disp,.int .i64 imm,.int .i8 cc]] W fun e w'=>e=.returned (.bool true) ∧ Below W.heap.size W w' by have h:=emay_n ⟨25,wd,dst,src,base,disp,imm,cc⟩ W hw;rw [hm] at h;exact h)
  have CD:=Lib.hid (fun W=>cod_is (show codI 25=0 by decide) W)
  have CL:=Lib.hid (fun W=>cls_is (show clsI 25=5 by decide) W)
  have RX:=Lib.hid (fun W=>erex_n (wd == 64) dst src false W)
  have rl:=rexL_length (wd == 64) dst src false
  have RO:=Lib.hid (rexL_ok (wd == 64) dst src false)
  have DR:=Lib.hid (fun W=>edirect_n dst src hd hs W)
  have ob:=opI_bd (k:=192) (r:=dst) (m:=src) (.inl rfl)
  clear hm hw hd hs hb
  generalize opI 192 dst src=d at *
  generalize rexL (wd == 64) dst src false=rl0 at *
  have e1:IntKind.i64.wrap cc=cc:=by rw [IntKind.wrap_i64];omega
  have e2:IntKind.i64.wrap (64 + cc)=64 + cc:=by rw [IntKind.wrap_i64];omega
  have e3:IntKind.u8.wrap (64 + cc)=64 + cc:=add_u8 ⟨by omega,by omega⟩
  unfold RetX
  go_enter Tryd.func20,Tryd.ntmps20
  go_wp2_with fail
  refine (MY.out _).mono ?_
  rintro e w1 ⟨rfl,b1⟩
  have B1:=Lib.hid b1
  clear b1
  obtain ⟨c0_1,c1_1,c2_1,c3_1,c4_1,c5_1,c6_1,c7_1⟩:=xcells B1.out
  go_wp2_with fail
  refine (CD.out _).mono ?_
  rintro e y ⟨rfl,rfl⟩
  go_wp2_with fail
  refine (CL.out _).mono ?_
  rintro e y ⟨rfl,rfl⟩
  go_wp2_with fail
  refine (CL.out _).mono ?_
  rintro e y ⟨rfl,rfl⟩
  go_wp2_with fail
  refine (CL.out _).mono ?_
  rintro e y ⟨rfl,rfl⟩
  go_wp2_with fail
  refine (CL.out _).mono ?_
  rintro e y ⟨rfl,rfl⟩
  go_wp2_with fail
  refine (RX.out _).mono ?_
  rintro e w2 ⟨u2,rfl,o2,b2⟩
  have B2:=Lib.hid (below_call B1.out b2)
  have O2:=Lib.hid (o2.mono (size1 B1.out))
  clear o2 b2
  obtain ⟨c0_2,c1_2,c2_2,c3_2,c4_2,c5_2,c6_2,c7_2⟩:=xcells B2.out
  clear c0_1 c1_1 c2_1 c3_1 c4_1 c5_1 c6_1 c7_1
  go_wp2_with fail
  have KS:=Lib.hid (fun w' (b:Below (W.alloc (.cells #[.int .i8 25,.int .i8 wd,.int .i8 dst,.int .i8 src,.int .i8 base,.int .i64 disp,.int .i64 imm,.int .i8 cc] 26)).heap.size (W.alloc (.cells #[.int .i8 25,.int .i8 wd,.int .i8 dst,.int .i8 src,.int .i8 base,.int .i64 disp,.int .i64 imm,.int .i8 cc] 26)) w')=>show w'.cell? ⟨W.heap.size,2,none⟩=some (.int .i8 dst) ∧ w'.cell? ⟨W.heap.size,3,none⟩=some (.int .i8 src) ∧ w'.cell? ⟨W.heap.size,7,none⟩=some (.int .i8 cc) ∧ Below (W.alloc (.cells #[.int .i8 25,.int .i8 wd,.int .i8 dst,.int .i8 src,.int .i8 base,.int .i64 disp,.int .i64 imm,.int .i8 cc] 26)).heap.size (W.alloc (.cells #[.int .i8 25,.int .i8 wd,.int .i8 dst,.int .i8 src,.int .i8 base,.int .i64 disp,.int .i64 imm,.int .i8 cc] 26)) w' from by obtain ⟨h0,h1,h2,h3,h4,h5,h6,h7⟩:=xcells b;exact ⟨h2,h3,h7,b⟩)
  go_region_held3 (fun w'=>w'.cell? ⟨W.heap.size,2,none⟩=some (.int .i8 dst) ∧ w'.cell? ⟨W.heap.size,3,none⟩=some (.int .i8 src) ∧ w'.cell? ⟨W.heap.size,7,none⟩=some (.int .i8 cc) ∧ Below (W.alloc (.cells #[.int .i8 25,.int .i8 wd,.int .i8 dst,.int .i8 src,.int .i8 base,.int .i64 disp,.int .i64 imm,.int .i8 cc] 26)).heap.size (W.alloc (.cells #[.int .i8 25,.int .i8 wd,.int .i8 dst,.int .i8 src,.int .i8 base,.int .i64 disp,.int .i64 imm,.int .i8 cc] 26)) w') ((go_split_ands;refine KS.out _ ?_;repeat' (first | assumption | exact B2.out | exact Below.refl _ _ | apply Below.drew | apply below_new))) (first | (go_at_call 42;refine (DR.out _).mono ?_;rintro e y ⟨rfl,rfl⟩) | (refine step_append_b rfl _ _ rfl (W.heap.size + 1) _ rl0 rfl ((O2.out.below (below_new (Below.refl _ _) _)).below (Below.drew (Below.refl _ _))) _ 3 3 [15,64 + cc,d] rfl ((made_at _ [15,64 + cc,d] (by intro z hz;simp at hz;omega) (by simp)).below (Below.drew (Below.refl _ _))) (by simp;omega) (Nat.le_trans (size1 B2.out) (by simp)) ?_;intro u3 w3 o3 g3;have b3:=grown1 (Below.drew (below_new B2.out _)) g3 (fun j hj=>O2.out.lt j hj)))
  all_goals (
  have O3:=Lib.hid o3
  clear o3 g3
  go_wp2_with fail
  go_ret2
  have hh:Bts W.heap.size w3 u3 (rl0 ++ [15,64 + cc,d]):=by have h:=O3.out.mono (Nat.le_succ _);simpa only [List.append_assoc,List.cons_append,List.nil_append] using h
  exact ⟨_,rfl,hh,below_boxed b3⟩)
end Go.Proofs.YtjhedldplmhmjaaDoor.Mrm
namespace Go.Proofs.YtjhedldplmhmjaaDoor.Mrm
open Go Go.RowKit
set_option linter.unusedVariables false
set_option linter.unnecessarySimpa false
set_option linter.unusedSimpArgs false
set_option maxRecDepth 100000
set_option maxHeartbeats 4000000 in
theorem ebr_j8 (dst src base disp imm cc:Int) (W:World):
    Calls Tryd.prog 45 #[.agg #[.int .i8 28,.int .i8 8,.int .i8 dst,.int .i8 src,.int .i8 base,.int .i64 disp,.int .i64 imm,.int .i8 cc]] W (RetV ([235,imm % 256]) W):=by
  have eu:IntKind.u8.wrap imm=imm % 256:=by simp [IntKind.wrap,IntKind.signed,IntKind.bits]
  have H1:=Lib.hid (show Bts (W.heap.size + 1) ((W.alloc (.cells #[.int .i8 28,.int .i8 8,.int .i8 dst,.int .i8 src,.int .i8 base,.int .i64 disp,.int .i64 imm,.int .i8 cc] 26)).alloc (.cells #[.int .u8 (235),.int .u8 (imm % 256)] 5)) (.slice (some ⟨W.heap.size + 1,0,none⟩) 2 2) [235,imm % 256] by
    have h:=made_own (base:=W.heap.size + 1) (W.alloc (.cells #[.int .i8 28,.int .i8 8,.int .i8 dst,.int .i8 src,.int .i8 base,.int .i64 disp,.int .i64 imm,.int .i8 cc] 26)) [235,imm % 256] (by simp) (by simp)
    rw [show (W.alloc (.cells #[.int .i8 28,.int .i8 8,.int .i8 dst,.int .i8 src,.int .i8 base,.int .i64 disp,.int .i64 imm,.int .i8 cc] 26)).heap.size=W.heap.size + 1 by simp] at h
    exact h)
  have H2:=Lib.hid (below_new (Below.refl (W.alloc (.cells #[.int .i8 28,.int .i8 8,.int .i8 dst,.int .i8 src,.int .i8 base,.int .i64 disp,.int .i64 imm,.int .i8 cc] 26)).heap.size (W.alloc (.cells #[.int .i8 28,.int .i8 8,.int .i8 dst,.int .i8 src,.int .i8 base,.int .i64 disp,.int .i64 imm,.int .i8 cc] 26))) (.cells #[.int .u8 (235),.int .u8 (imm % 256)] 5))
  unfold RetV
  go_enter Tryd.func45,Tryd.ntmps45
  go_wp2_with fail
  go_ret
  exact ⟨_,rfl,H1.out.mono (Nat.le_succ _),below_boxed H2.out⟩
set_option maxHeartbeats 4000000 in
theorem ebr_j (wd dst src base disp imm cc:Int) (W:World) (h8:(wd == 8)=false):
    Calls Tryd.prog 45 #[.agg #[.int .i8 28,.int .i8 wd,.int .i8 dst,.int .i8 src,.int .i8 base,.int .i64 disp,.int .i64 imm,.int .i8 cc]] W (RetV ([233] ++ numL imm 4) W):=by
  have H1:=Lib.hid (show Bts (W.heap.size + 1) ((W.alloc (.cells #[.int .i8 28,.int .i8 wd,.int .i8 dst,.int .i8 src,.int .i8 base,.int .i64 disp,.int .i64 imm,.int .i8 cc] 26)).alloc (.cells #[.int .u8 (233)] 5)) (.slice (some ⟨W.heap.size + 1,0,none⟩) 1 1) [233] by
    have h:=made_own (base:=W.heap.size + 1) (W.alloc (.cells #[.int .i8 28,.int .i8 wd,.int .i8 dst,.int .i8 src,.int .i8 base,.int .i64 disp,.int .i64 imm,.int .i8 cc] 26)) [233] (by simp) (by simp)
    rw [show (W.alloc (.cells #[.int .i8 28,.int .i8 wd,.int .i8 dst,.int .i8 src,.int .i8 base,.int .i64 disp,.int .i64 imm,.int .i8 cc] 26)).heap.size=W.heap.size + 1 by simp] at h
    exact h)
  have H2:=Lib.hid (below_new (Below.refl (W.alloc (.cells #[.int .i8 28,.int .i8 wd,.int .i8 dst,.int .i8 src,.int .i8 base,.int .i64 disp,.int .i64 imm,.int .i8 cc] 26)).heap.size (W.alloc (.cells #[.int .i8 28,.int .i8 wd,.int .i8 dst,.int .i8 src,.int .i8 base,.int .i64 disp,.int .i64 imm,.int .i8 cc] 26))) (.cells #[.int .u8 (233)] 5))
  unfold RetV
  have PT:=Lib.hid (fun W=>put4_n imm W)
  have NO:=Lib.hid (numL_ok imm 4)
  have NL:=Lib.hid (numL_length imm 4)
  generalize numL imm 4=nl at *
  go_enter Tryd.func45,Tryd.ntmps45
  go_wp2_with fail
  refine (PT.out _).mono ?_
  rintro e w3 ⟨u3,rfl,o3,b3⟩
  have B3:=Lib.hid (below_call H2.out b3)
  have K3:=Lib.hid (H1.out.below b3)
  obtain ⟨xa,xc,rfl,e3⟩:=o3.at NO.out
  have E3:=Lib.hid e3
  clear e3 o3 b3 H1 H2
  go_wp2_with (at_builtin;refine wpList_append_b rfl _ _ rfl (W.heap.size + 1) _ _ rfl K3.out _ _ _ _ rfl E3.out (by have:=NL.out;simp;omega) (size1 B3.out) ?_)
  intro u4 w4 o4 g4
  have B4:=Lib.hid (grown1 B3.out g4 (fun j hj=>K3.out.lt j hj))
  have O4:=Lib.hid o4
  clear o4 g4
  go_wp2_with fail
  go_ret
  exact ⟨_,rfl,O4.out.mono (Nat.le_succ _),below_boxed B4.out⟩
set_option maxHeartbeats 4000000 in
theorem ebr_c8 (dst src base disp imm cc:Int) (W:World) (hk0:0 ≤ cc) (hk1:cc < 16):
    Calls Tryd.prog 45 #[.agg #[.int .i8 29,.int .i8 8,.int .i8 dst,.int .i8 src,.int .i8 base,.int .i64 disp,.int .i64 imm,.int .i8 cc]] W (RetV ([112 + cc,imm % 256]) W):=by
  have eu:IntKind.u8.wrap imm=imm % 256:=by simp [IntKind.wrap,IntKind.signed,IntKind.bits]
  have e1:IntKind.i64.wrap cc=cc:=by rw [IntKind.wrap_i64];omega
  have e2:IntKind.i64.wrap (112 + cc)=112 + cc:=by rw [IntKind.wrap_i64];omega
  have e3:IntKind.u8.wrap (112 + cc)=112 + cc:=add_u8 ⟨by omega,by omega⟩
  have H1:=Lib.hid (show Bts (W.heap.size + 1) ((W.alloc (.cells #[.int .i8 29,.int .i8 8,.int .i8 dst,.int .i8 src,.int .i8 base,.int .i64 disp,.int .i64 imm,.int .i8 cc] 26)).alloc (.cells #[.int .u8 (112 + cc),.int .u8 (imm % 256)] 5)) (.slice (some ⟨W.heap.size + 1,0,none⟩) 2 2) [112 + cc,imm % 256] by
    have h:=made_own (base:=W.heap.size + 1) (W.alloc (.cells #[.int .i8 29,.int .i8 8,.int .i8 dst,.int .i8 src,.int .i8 base,.int .i64 disp,.int .i64 imm,.int .i8 cc] 26)) [112 + cc,imm % 256] (by simp) (by simp)
    rw [show (W.alloc (.cells #[.int .i8 29,.int .i8 8,.int .i8 dst,.int .i8 src,.int .i8 base,.int .i64 disp,.int .i64 imm,.int .i8 cc] 26)).heap.size=W.heap.size + 1 by simp] at h
    exact h)
  have H2:=Lib.hid (below_new (Below.refl (W.alloc (.cells #[.int .i8 29,.int .i8 8,.int .i8 dst,.int .i8 src,.int .i8 base,.int .i64 disp,.int .i64 imm,.int .i8 cc] 26)).heap.size (W.alloc (.cells #[.int .i8 29,.int .i8 8,.int .i8 dst,.int .i8 src,.int .i8 base,.int .i64 disp,.int .i64 imm,.int .i8 cc] 26))) (.cells #[.int .u8 (112 + cc),.int .u8 (imm % 256)] 5))
  unfold RetV
  go_enter Tryd.func45,Tryd.ntmps45
  go_wp2_with fail
  go_ret
  exact ⟨_,rfl,H1.out.mono (Nat.le_succ _),below_boxed H2.out⟩
set_option maxHeartbeats 4000000 in
theorem ebr_ret (wd dst src base disp imm cc:Int) (W:World):
    Calls Tryd.prog 45 #[.agg #[.int .i8 30,.int .i8 wd,.int .i8 dst,.int .i8 src,.int .i8 base,.int .i64 disp,.int .i64 imm,.int .i8 cc]] W (RetV ([195]) W):=by
  have H1:=Lib.hid (show Bts (W.heap.size + 1) ((W.alloc (.cells #[.int .i8 30,.int .i8 wd,.int .i8 dst,.int .i8 src,.int .i8 base,.int .i64 disp,.int .i64 imm,.int .i8 cc] 26)).alloc (.cells #[.int .u8 (195)] 5)) (.slice (some ⟨W.heap.size + 1,0,none⟩) 1 1) [195] by
    have h:=made_own (base:=W.heap.size + 1) (W.alloc (.cells #[.int .i8 30,.int .i8 wd,.int .i8 dst,.int .i8 src,.int .i8 base,.int .i64 disp,.int .i64 imm,.int .i8 cc] 26)) [195] (by simp) (by simp)
    rw [show (W.alloc (.cells #[.int .i8 30,.int .i8 wd,.int .i8 dst,.int .i8 src,.int .i8 base,.int .i64 disp,.int .i64 imm,.int .i8 cc] 26)).heap.size=W.heap.size + 1 by simp] at h
    exact h)
  have H2:=Lib.hid (below_new (Below.refl (W.alloc (.cells #[.int .i8 30,.int .i8 wd,.int .i8 dst,.int .i8 src,.int .i8 base,.int .i64 disp,.int .i64 imm,.int .i8 cc] 26)).heap.size (W.alloc (.cells #[.int .i8 30,.int .i8 wd,.int .i8 dst,.int .i8 src,.int .i8 base,.int .i64 disp,.int .i64 imm,.int .i8 cc] 26))) (.cells #[.int .u8 (195)] 5))
  unfold RetV
  go_enter Tryd.func45,Tryd.ntmps45
  go_wp2_with fail
  go_ret
  exact ⟨_,rfl,H1.out.mono (Nat.le_succ _),below_boxed H2.out⟩
set_option maxHeartbeats 4000000 in
theorem ebr_host (wd dst src base disp imm cc:Int) (W:World):
    Calls Tryd.prog 45 #[.agg #[.int .i8 31,.int .i8 wd,.int .i8 dst,.int .i8 src,.int .i8 base,.int .i64 disp,.int .i64 imm,.int .i8 cc]] W (RetV ([15,5]) W):=by
  have H1:=Lib.hid (show Bts (W.heap.size + 1) ((W.alloc (.cells #[.int .i8 31,.int .i8 wd,.int .i8 dst,.int .i8 src,.int .i8 base,.int .i64 disp,.int .i64 imm,.int .i8 cc] 26)).alloc (.cells #[.int .u8 (15),.int .u8 (5)] 5)) (.slice (some ⟨W.heap.size + 1,0,none⟩) 2 2) [15,5] by
    have h:=made_own (base:=W.heap.size + 1) (W.alloc (.cells #[.int .i8 31,.int .i8 wd,.int .i8 dst,.int .i8 src,.int .i8 base,.int .i64 disp,.int .i64 imm,.int .i8 cc] 26)) [15,5] (by simp) (by simp)
    rw [show (W.alloc (.cells #[.int .i8 31,.int .i8 wd,.int .i8 dst,.int .i8 src,.int .i8 base,.int .i64 disp,.int .i64 imm,.int .i8 cc] 26)).heap.size=W.heap.size + 1 by simp] at h
    exact h)
  have H2:=Lib.hid (below_new (Below.refl (W.alloc (.cells #[.int .i8 31,.int .i8 wd,.int .i8 dst,.int .i8 src,.int .i8 base,.int .i64 disp,.int .i64 imm,.int .i8 cc] 26)).heap.size (W.alloc (.cells #[.int .i8 31,.int .i8 wd,.int .i8 dst,.int .i8 src,.int .i8 base,.int .i64 disp,.int .i64 imm,.int .i8 cc] 26))) (.cells #[.int .u8 (15),.int .u8 (5)] 5))
  unfold RetV
  go_enter Tryd.func45,Tryd.ntmps45
  go_wp2_with fail
  go_ret
  exact ⟨_,rfl,H1.out.mono (Nat.le_succ _),below_boxed H2.out⟩
set_option maxHeartbeats 4000000 in
theorem ebr_c (wd dst src base disp imm cc:Int) (W:World) (h8:(wd == 8)=false) (hk0:0 ≤ cc) (hk1:cc < 16):
    Calls Tryd.prog 45 #[.agg #[.int .i8 29,.int .i8 wd,.int .i8 dst,.int .i8 src,.int .i8 base,.int .i64 disp,.int .i64 imm,.int .i8 cc]] W (RetV ([15,128 + cc] ++ numL imm 4) W):=by
  have e1:IntKind.i64.wrap cc=cc:=by rw [IntKind.wrap_i64];omega
  have e2:IntKind.i64.wrap (128 + cc)=128 + cc:=by rw [IntKind.wrap_i64];omega
  have e3:IntKind.u8.wrap (128 + cc)=128 + cc:=add_u8 ⟨by omega,by omega⟩
  have H1:=Lib.hid (show Bts (W.heap.size + 1) ((W.alloc (.cells #[.int .i8 29,.int .i8 wd,.int .i8 dst,.int .i8 src,.int .i8 base,.int .i64 disp,.int .i64 imm,.int .i8 cc] 26)).alloc (.cells #[.int .u8 (15),.int .u8 (128 + cc)] 5)) (.slice (some ⟨W.heap.size + 1,0,none⟩) 2 2) [15,128 + cc] by
    have h:=made_own (base:=W.heap.size + 1) (W.alloc (.cells #[.int .i8 29,.int .i8 wd,.int .i8 dst,.int .i8 src,.int .i8 base,.int .i64 disp,.int .i64 imm,.int .i8 cc] 26)) [15,128 + cc] (by simp) (by simp)
    rw [show (W.alloc (.cells #[.int .i8 29,.int .i8 wd,.int .i8 dst,.int .i8 src,.int .i8 base,.int .i64 disp,.int .i64 imm,.int .i8 cc] 26)).heap.size=W.heap.size + 1 by simp] at h
    exact h)
  have H2:=Lib.hid (below_new (Below.refl (W.alloc (.cells #[.int .i8 29,.int .i8 wd,.int .i8 dst,.int .i8 src,.int .i8 base,.int .i64 disp,.int .i64 imm,.int .i8 cc] 26)).heap.size (W.alloc (.cells #[.int .i8 29,.int .i8 wd,.int .i8 dst,.int .i8 src,.int .i8 base,.int .i64 disp,.int .i64 imm,.int .i8 cc] 26))) (.cells #[.int .u8 (15),.int .u8 (128 + cc)] 5))
  unfold RetV
  have PT:=Lib.hid (fun W=>put4_n imm W)
  have NO:=Lib.hid (numL_ok imm 4)
  have NL:=Lib.hid (numL_length imm 4)
  generalize numL imm 4=nl at *
  go_enter Tryd.func45,Tryd.ntmps45
  go_wp2_with fail
  have KS:=Lib.hid (fun w' (b:Below (W.alloc (.cells #[.int .i8 29,.int .i8 wd,.int .i8 dst,.int .i8 src,.int .i8 base,.int .i64 disp,.int .i64 imm,.int .i8 cc] 26)).heap.size (W.alloc (.cells #[.int .i8 29,.int .i8 wd,.int .i8 dst,.int .i8 src,.int .i8 base,.int .i64 disp,.int .i64 imm,.int .i8 cc] 26)) w')=>show w'.cell? ⟨W.heap.size,7,none⟩=some (.int .i8 cc) ∧ w'.cell? ⟨W.heap.size,6,none⟩=some (.int .i64 imm) ∧ Below (W.alloc (.cells #[.int .i8 29,.int .i8 wd,.int .i8 dst,.int .i8 src,.int .i8 base,.int .i64 disp,.int .i64 imm,.int .i8 cc] 26)).heap.size (W.alloc (.cells #[.int .i8 29,.int .i8 wd,.int .i8 dst,.int .i8 src,.int .i8 base,.int .i64 disp,.int .i64 imm,.int .i8 cc] 26)) w' from by obtain ⟨h0,h1,h2,h3,h4,h5,h6,h7⟩:=xcells b;exact ⟨h7,h6,b⟩)
  go_region_held3 (fun w'=>w'.cell? ⟨W.heap.size,7,none⟩=some (.int .i8 cc) ∧ w'.cell? ⟨W.heap.size,6,none⟩=some (.int .i64 imm) ∧ Below (W.alloc (.cells #[.int .i8 29,.int .i8 wd,.int .i8 dst,.int .i8 src,.int .i8 base,.int .i64 disp,.int .i64 imm,.int .i8 cc] 26)).heap.size (W.alloc (.cells #[.int .i8 29,.int .i8 wd,.int .i8 dst,.int .i8 src,.int .i8 base,.int .i64 disp,.int .i64 imm,.int .i8 cc] 26)) w') ((go_split_ands;refine KS.out _ ?_;repeat' (first | assumption | exact Below.refl _ _ | apply Below.drew | apply below_new | (refine below_call ?_ b3)))) (first
    | (go_at_call 43;refine (PT.out _).mono ?_;rintro e w3 ⟨u3,rfl,o3,b3⟩;obtain ⟨xa,xc,rfl,e3⟩:=o3.at NO.out;obtain ⟨q1,q2,rfl,_⟩:=e3.here (by rw [NL.out];omega))
    | (refine step_append_b rfl _ _ rfl (W.heap.size + 1) _ [15,128 + cc] rfl ((H1.out.below (Below.drew (Below.refl _ _))).below b3) _ _ _ _ rfl e3 (by have:=NL.out;simp;omega) (size1 (below_call (Below.drew H2.out) b3)) ?_;intro u4 w4 o4 g4;have b4:=grown1 (below_call (Below.drew H2.out) b3) g4 (fun j hj=>((H1.out.below (Below.drew (Below.refl _ _))).below b3).lt j hj))
    | (refine step_append_b rfl _ _ rfl (W.heap.size + 1) _ [15,128 + cc] rfl (made_own w3 [15,128 + cc] (by simp) (size1 (below_call (Below.drew (Below.refl _ _)) b3))) _ _ _ _ rfl (e3.below (below_new (Below.refl _ _) _)) (by have:=NL.out;simp;omega) (Nat.le_trans (size1 (below_call (Below.drew (Below.refl _ _)) b3)) (by simp)) ?_;intro u4 w4 o4 g4;have b4:=grown1 (below_new (below_call (Below.drew (Below.refl _ _)) b3) _) g4 (fun j hj=>(made_own w3 [15,128 + cc] (by simp) (size1 (below_call (Below.drew (Below.refl _ _)) b3))).lt j hj)))
  all_goals (
    go_wp2_with fail
    go_ret
    exact ⟨_,rfl,o4.mono (Nat.le_succ _),below_boxed b4⟩)
end Go.Proofs.YtjhedldplmhmjaaDoor.Mrm
