import Derived.Test.YtjhjpllgoakncaaDoorETl36
set_option linter.unusedVariables false
set_option linter.unusedSimpArgs false
set_option linter.unnecessarySimpa false
namespace Go.Proofs.YtjhjpllgoakncaaDoor.Mrm
open Go Go.RowKit
set_option linter.unusedVariables false
set_option linter.unnecessarySimpa false
set_option linter.unusedSimpArgs false
set_option maxRecDepth 100000
set_option maxHeartbeats 4000000 in
theorem ebr_j8 (dst src base disp imm cc:Int) (W:World):
    Calls Tryd.prog 30 #[.agg #[.int .i8 28,.int .i8 8,.int .i8 dst,.int .i8 src,.int .i8 base,.int .i64 disp,.int .i64 imm,.int .i8 cc]] W (RetV ([235,imm % 256]) W):=by
  have eu:IntKind.u8.wrap imm=imm % 256:=by simp [IntKind.wrap,IntKind.signed,IntKind.bits]
  have H1:=Lib.hid (show Bts (W.heap.size + 1) ((W.alloc (.cells #[.int .i8 28,.int .i8 8,.int .i8 dst,.int .i8 src,.int .i8 base,.int .i64 disp,.int .i64 imm,.int .i8 cc] 24)).alloc (.cells #[.int .u8 (235),.int .u8 (imm % 256)] 5)) (.slice (some ⟨W.heap.size + 1,0,none⟩) 2 2) [235,imm % 256] by
    have h:=made_own (base:=W.heap.size + 1) (W.alloc (.cells #[.int .i8 28,.int .i8 8,.int .i8 dst,.int .i8 src,.int .i8 base,.int .i64 disp,.int .i64 imm,.int .i8 cc] 24)) [235,imm % 256] (by simp) (by simp)
    rw [show (W.alloc (.cells #[.int .i8 28,.int .i8 8,.int .i8 dst,.int .i8 src,.int .i8 base,.int .i64 disp,.int .i64 imm,.int .i8 cc] 24)).heap.size=W.heap.size + 1 by simp] at h
    exact h)
  have H2:=Lib.hid (below_new (Below.refl (W.alloc (.cells #[.int .i8 28,.int .i8 8,.int .i8 dst,.int .i8 src,.int .i8 base,.int .i64 disp,.int .i64 imm,.int .i8 cc] 24)).heap.size (W.alloc (.cells #[.int .i8 28,.int .i8 8,.int .i8 dst,.int .i8 src,.int .i8 base,.int .i64 disp,.int .i64 imm,.int .i8 cc] 24))) (.cells #[.int .u8 (235),.int .u8 (imm % 256)] 5))
  unfold RetV
  go_enter Tryd.func30,Tryd.ntmps30
  go_wp2_with fail
  go_ret
  exact ⟨_,rfl,H1.out.mono (Nat.le_succ _),below_boxed H2.out⟩
set_option maxHeartbeats 4000000 in
theorem ebr_j (wd dst src base disp imm cc:Int) (W:World) (h8:(wd == 8)=false):
    Calls Tryd.prog 30 #[.agg #[.int .i8 28,.int .i8 wd,.int .i8 dst,.int .i8 src,.int .i8 base,.int .i64 disp,.int .i64 imm,.int .i8 cc]] W (RetV ([233] ++ numL imm 4) W):=by
  have H1:=Lib.hid (show Bts (W.heap.size + 1) ((W.alloc (.cells #[.int .i8 28,.int .i8 wd,.int .i8 dst,.int .i8 src,.int .i8 base,.int .i64 disp,.int .i64 imm,.int .i8 cc] 24)).alloc (.cells #[.int .u8 (233)] 5)) (.slice (some ⟨W.heap.size + 1,0,none⟩) 1 1) [233] by
    have h:=made_own (base:=W.heap.size + 1) (W.alloc (.cells #[.int .i8 28,.int .i8 wd,.int .i8 dst,.int .i8 src,.int .i8 base,.int .i64 disp,.int .i64 imm,.int .i8 cc] 24)) [233] (by simp) (by simp)
    rw [show (W.alloc (.cells #[.int .i8 28,.int .i8 wd,.int .i8 dst,.int .i8 src,.int .i8 base,.int .i64 disp,.int .i64 imm,.int .i8 cc] 24)).heap.size=W.heap.size + 1 by simp] at h
    exact h)
  have H2:=Lib.hid (below_new (Below.refl (W.alloc (.cells #[.int .i8 28,.int .i8 wd,.int .i8 dst,.int .i8 src,.int .i8 base,.int .i64 disp,.int .i64 imm,.int .i8 cc] 24)).heap.size (W.alloc (.cells #[.int .i8 28,.int .i8 wd,.int .i8 dst,.int .i8 src,.int .i8 base,.int .i64 disp,.int .i64 imm,.int .i8 cc] 24))) (.cells #[.int .u8 (233)] 5))
  unfold RetV
  have PT:=Lib.hid (fun W=>put4_n imm W)
  have NO:=Lib.hid (numL_ok imm 4)
  have NL:=Lib.hid (numL_length imm 4)
  generalize numL imm 4=nl at *
  go_enter Tryd.func30,Tryd.ntmps30
  go_wp2_with fail
  refine (PT.out _).mono ?_
  rintro e w3 ⟨u3,rfl,o3,b3⟩
  have B3:=Lib.hid (below_call H2.out b3)
  have K3:=Lib.hid (H1.out.below b3)
  obtain ⟨xa,xc,rfl,e3⟩:=o3.at NO.out
  have E3:=Lib.hid e3
  clear e3 o3 b3 H1 H2
  go_wp2_with (at_builtin;refine wpList_append_b rfl _ _ rfl (W.heap.size + 1) _ _ rfl K3.out _ _ _ _ rfl E3.out (by have:=NL.out;simp;omega) (size1 B3.out) ?_)
  intro u4 w4 o4 g4
  have B4:=Lib.hid (grown1 B3.out g4 (fun j hj=>K3.out.lt j hj))
  have O4:=Lib.hid o4
  clear o4 g4
  go_wp2_with fail
  go_ret
  exact ⟨_,rfl,O4.out.mono (Nat.le_succ _),below_boxed B4.out⟩
set_option maxHeartbeats 4000000 in
theorem ebr_c8 (dst src base disp imm cc:Int) (W:World) (hk0:0 ≤ cc) (hk1:cc < 16):
    Calls Tryd.prog 30 #[.agg #[.int .i8 29,.int .i8 8,.int .i8 dst,.int .i8 src,.int .i8 base,.int .i64 disp,.int .i64 imm,.int .i8 cc]] W (RetV ([112 + cc,imm % 256]) W):=by
  have eu:IntKind.u8.wrap imm=imm % 256:=by simp [IntKind.wrap,IntKind.signed,IntKind.bits]
  have e1:IntKind.i64.wrap cc=cc:=by rw [IntKind.wrap_i64];omega
  have e2:IntKind.i64.wrap (112 + cc)=112 + cc:=by rw [IntKind.wrap_i64];omega
  have e3:IntKind.u8.wrap (112 + cc)=112 + cc:=add_u8 ⟨by omega,by omega⟩
  have H1:=Lib.hid (show Bts (W.heap.size + 1) ((W.alloc (.cells #[.int .i8 29,.int .i8 8,.int .i8 dst,.int .i8 src,.int .i8 base,.int .i64 disp,.int .i64 imm,.int .i8 cc] 24)).alloc (.cells #[.int .u8 (112 + cc),.int .u8 (imm % 256)] 5)) (.slice (some ⟨W.heap.size + 1,0,none⟩) 2 2) [112 + cc,imm % 256] by
    have h:=made_own (base:=W.heap.size + 1) (W.alloc (.cells #[.int .i8 29,.int .i8 8,.int .i8 dst,.int .i8 src,.int .i8 base,.int .i64 disp,.int .i64 imm,.int .i8 cc] 24)) [112 + cc,imm % 256] (by simp) (by simp)
    rw [show (W.alloc (.cells #[.int .i8 29,.int .i8 8,.int .i8 dst,.int .i8 src,.int .i8 base,.int .i64 disp,.int .i64 imm,.int .i8 cc] 24)).heap.size=W.heap.size + 1 by simp] at h
    exact h)
  have H2:=Lib.hid (below_new (Below.refl (W.alloc (.cells #[.int .i8 29,.int .i8 8,.int .i8 dst,.int .i8 src,.int .i8 base,.int .i64 disp,.int .i64 imm,.int .i8 cc] 24)).heap.size (W.alloc (.cells #[.int .i8 29,.int .i8 8,.int .i8 dst,.int .i8 src,.int .i8 base,.int .i64 disp,.int .i64 imm,.int .i8 cc] 24))) (.cells #[.int .u8 (112 + cc),.int .u8 (imm % 256)] 5))
  unfold RetV
  go_enter Tryd.func30,Tryd.ntmps30
  go_wp2_with fail
  go_ret
  exact ⟨_,rfl,H1.out.mono (Nat.le_succ _),below_boxed H2.out⟩
set_option maxHeartbeats 4000000 in
theorem ebr_ret (wd dst src base disp imm cc:Int) (W:World):
    Calls Tryd.prog 30 #[.agg #[.int .i8 30,.int .i8 wd,.int .i8 dst,.int .i8 src,.int .i8 base,.int .i64 disp,.int .i64 imm,.int .i8 cc]] W (RetV ([195]) W):=by
  have H1:=Lib.hid (show Bts (W.heap.size + 1) ((W.alloc (.cells #[.int .i8 30,.int .i8 wd,.int .i8 dst,.int .i8 src,.int .i8 base,.int .i64 disp,.int .i64 imm,.int .i8 cc] 24)).alloc (.cells #[.int .u8 (195)] 5)) (.slice (some ⟨W.heap.size + 1,0,none⟩) 1 1) [195] by
    have h:=made_own (base:=W.heap.size + 1) (W.alloc (.cells #[.int .i8 30,.int .i8 wd,.int .i8 dst,.int .i8 src,.int .i8 base,.int .i64 disp,.int .i64 imm,.int .i8 cc] 24)) [195] (by simp) (by simp)
    rw [show (W.alloc (.cells #[.int .i8 30,.int .i8 wd,.int .i8 dst,.int .i8 src,.int .i8 base,.int .i64 disp,.int .i64 imm,.int .i8 cc] 24)).heap.size=W.heap.size + 1 by simp] at h
    exact h)
  have H2:=Lib.hid (below_new (Below.refl (W.alloc (.cells #[.int .i8 30,.int .i8 wd,.int .i8 dst,.int .i8 src,.int .i8 base,.int .i64 disp,.int .i64 imm,.int .i8 cc] 24)).heap.size (W.alloc (.cells #[.int .i8 30,.int .i8 wd,.int .i8 dst,.int .i8 src,.int .i8 base,.int .i64 disp,.int .i64 imm,.int .i8 cc] 24))) (.cells #[.int .u8 (195)] 5))
  unfold RetV
  go_enter Tryd.func30,Tryd.ntmps30
  go_wp2_with fail
  go_ret
  exact ⟨_,rfl,H1.out.mono (Nat.le_succ _),below_boxed H2.out⟩
set_option maxHeartbeats 4000000 in
theorem ebr_host (wd dst src base disp imm cc:Int) (W:World):
    Calls Tryd.prog 30 #[.agg #[.int .i8 31,.int .i8 wd,.int .i8 dst,.int .i8 src,.int .i8 base,.int .i64 disp,.int .i64 imm,.int .i8 cc]] W (RetV ([15,5]) W):=by
  have H1:=Lib.hid (show Bts (W.heap.size + 1) ((W.alloc (.cells #[.int .i8 31,.int .i8 wd,.int .i8 dst,.int .i8 src,.int .i8 base,.int .i64 disp,.int .i64 imm,.int .i8 cc] 24)).alloc (.cells #[.int .u8 (15),.int .u8 (5)] 5)) (.slice (some ⟨W.heap.size + 1,0,none⟩) 2 2) [15,5] by
    have h:=made_own (base:=W.heap.size + 1) (W.alloc (.cells #[.int .i8 31,.int .i8 wd,.int .i8 dst,.int .i8 src,.int .i8 base,.int .i64 disp,.int .i64 imm,.int .i8 cc] 24)) [15,5] (by simp) (by simp)
    rw [show (W.alloc (.cells #[.int .i8 31,.int .i8 wd,.int .i8 dst,.int .i8 src,.int .i8 base,.int .i64 disp,.int .i64 imm,.int .i8 cc] 24)).heap.size=W.heap.size + 1 by simp] at h
    exact h)
  have H2:=Lib.hid (below_new (Below.refl (W.alloc (.cells #[.int .i8 31,.int .i8 wd,.int .i8 dst,.int .i8 src,.int .i8 base,.int .i64 disp,.int .i64 imm,.int .i8 cc] 24)).heap.size (W.alloc (.cells #[.int .i8 31,.int .i8 wd,.int .i8 dst,.int .i8 src,.int .i8 base,.int .i64 disp,.int .i64 imm,.int .i8 cc] 24))) (.cells #[.int .u8 (15),.int .u8 (5)] 5))
  unfold RetV
  go_enter Tryd.func30,Tryd.ntmps30
  go_wp2_with fail
  go_ret
  exact ⟨_,rfl,H1.out.mono (Nat.le_succ _),below_boxed H2.out⟩
set_option maxHeartbeats 4000000 in
theorem ebr_c (wd dst src base disp imm cc:Int) (W:World) (h8:(wd == 8)=false) (hk0:0 ≤ cc) (hk1:cc < 16):
    Calls Tryd.prog 30 #[.agg #[.int .i8 29,.int .i8 wd,.int .i8 dst,.int .i8 src,.int .i8 base,.int .i64 disp,.int .i64 imm,.int .i8 cc]] W (RetV ([15,128 + cc] ++ numL imm 4) W):=by
  have e1:IntKind.i64.wrap cc=cc:=by rw [IntKind.wrap_i64];omega
  have e2:IntKind.i64.wrap (128 + cc)=128 + cc:=by rw [IntKind.wrap_i64];omega
  have e3:IntKind.u8.wrap (128 + cc)=128 + cc:=add_u8 ⟨by omega,by omega⟩
  have H1:=Lib.hid (show Bts (W.heap.size + 1) ((W.alloc (.cells #[.int .i8 29,.int .i8 wd,.int .i8 dst,.int .i8 src,.int .i8 base,.int .i64 disp,.int .i64 imm,.int .i8 cc] 24)).alloc (.cells #[.int .u8 (15),.int .u8 (128 + cc)] 5)) (.slice (some ⟨W.heap.size + 1,0,none⟩) 2 2) [15,128 + cc] by
    have h:=made_own (base:=W.heap.size + 1) (W.alloc (.cells #[.int .i8 29,.int .i8 wd,.int .i8 dst,.int .i8 src,.int .i8 base,.int .i64 disp,.int .i64 imm,.int .i8 cc] 24)) [15,128 + cc] (by simp) (by simp)
    rw [show (W.alloc (.cells #[.int .i8 29,.int .i8 wd,.int .i8 dst,.int .i8 src,.int .i8 base,.int .i64 disp,.int .i64 imm,.int .i8 cc] 24)).heap.size=W.heap.size + 1 by simp] at h
    exact h)
  have H2:=Lib.hid (below_new (Below.refl (W.alloc (.cells #[.int .i8 29,.int .i8 wd,.int .i8 dst,.int .i8 src,.int .i8 base,.int .i64 disp,.int .i64 imm,.int .i8 cc] 24)).heap.size (W.alloc (.cells #[.int .i8 29,.int .i8 wd,.int .i8 dst,.int .i8 src,.int .i8 base,.int .i64 disp,.int .i64 imm,.int .i8 cc] 24))) (.cells #[.int .u8 (15),.int .u8 (128 + cc)] 5))
  unfold RetV
  have PT:=Lib.hid (fun W=>put4_n imm W)
  have NO:=Lib.hid (numL_ok imm 4)
  have NL:=Lib.hid (numL_length imm 4)
  generalize numL imm 4=nl at *
  go_enter Tryd.func30,Tryd.ntmps30
  go_wp2_with fail
  have KS:=Lib.hid (fun w' (b:Below (W.alloc (.cells #[.int .i8 29,.int .i8 wd,.int .i8 dst,.int .i8 src,.int .i8 base,.int .i64 disp,.int .i64 imm,.int .i8 cc] 24)).heap.size (W.alloc (.cells #[.int .i8 29,.int .i8 wd,.int .i8 dst,.int .i8 src,.int .i8 base,.int .i64 disp,.int .i64 imm,.int .i8 cc] 24)) w')=>show w'.cell? ⟨W.heap.size,7,none⟩=some (.int .i8 cc) ∧ w'.cell? ⟨W.heap.size,6,none⟩=some (.int .i64 imm) ∧ Below (W.alloc (.cells #[.int .i8 29,.int .i8 wd,.int .i8 dst,.int .i8 src,.int .i8 base,.int .i64 disp,.int .i64 imm,.int .i8 cc] 24)).heap.size (W.alloc (.cells #[.int .i8 29,.int .i8 wd,.int .i8 dst,.int .i8 src,.int .i8 base,.int .i64 disp,.int .i64 imm,.int .i8 cc] 24)) w' from by obtain ⟨h0,h1,h2,h3,h4,h5,h6,h7⟩:=xcells b;exact ⟨h7,h6,b⟩)
  go_region_held3 (fun w'=>w'.cell? ⟨W.heap.size,7,none⟩=some (.int .i8 cc) ∧ w'.cell? ⟨W.heap.size,6,none⟩=some (.int .i64 imm) ∧ Below (W.alloc (.cells #[.int .i8 29,.int .i8 wd,.int .i8 dst,.int .i8 src,.int .i8 base,.int .i64 disp,.int .i64 imm,.int .i8 cc] 24)).heap.size (W.alloc (.cells #[.int .i8 29,.int .i8 wd,.int .i8 dst,.int .i8 src,.int .i8 base,.int .i64 disp,.int .i64 imm,.int .i8 cc] 24)) w') ((go_split_ands;refine KS.out _ ?_;repeat' (first | assumption | exact Below.refl _ _ | apply Below.drew | apply below_new | (refine below_call ?_ b3)))) (first
    | (go_at_call 28;refine (PT.out _).mono ?_;rintro e w3 ⟨u3,rfl,o3,b3⟩;obtain ⟨xa,xc,rfl,e3⟩:=o3.at NO.out;obtain ⟨q1,q2,rfl,_⟩:=e3.here (by rw [NL.out];omega))
    | (refine step_append_b rfl _ _ rfl (W.heap.size + 1) _ [15,128 + cc] rfl ((H1.out.below (Below.drew (Below.refl _ _))).below b3) _ _ _ _ rfl e3 (by have:=NL.out;simp;omega) (size1 (below_call (Below.drew H2.out) b3)) ?_;intro u4 w4 o4 g4;have b4:=grown1 (below_call (Below.drew H2.out) b3) g4 (fun j hj=>((H1.out.below (Below.drew (Below.refl _ _))).below b3).lt j hj))
    | (refine step_append_b rfl _ _ rfl (W.heap.size + 1) _ [15,128 + cc] rfl (made_own w3 [15,128 + cc] (by simp) (size1 (below_call (Below.drew (Below.refl _ _)) b3))) _ _ _ _ rfl (e3.below (below_new (Below.refl _ _) _)) (by have:=NL.out;simp;omega) (Nat.le_trans (size1 (below_call (Below.drew (Below.refl _ _)) b3)) (by simp)) ?_;intro u4 w4 o4 g4;have b4:=grown1 (below_new (below_call (Below.drew (Below.refl _ _)) b3) _) g4 (fun j hj=>(made_own w3 [15,128 + cc] (by simp) (size1 (below_call (Below.drew (Below.refl _ _)) b3))).lt j hj)))
  all_goals (
    go_wp2_with fail
    go_ret
    exact ⟨_,rfl,o4.mono (Nat.le_succ _),below_boxed b4⟩)
end Go.Proofs.YtjhjpllgoakncaaDoor.Mrm
