import Derived.Test.YtigliofiojkhcaaGreatMRn03
set_option linter.unusedVariables false
set_option linter.unusedSimpArgs false
set_option linter.unnecessarySimpa false
namespace Go.Proofs.YtigliofiojkhcaaGreat.Ins
open Go.RowKit
set_option linter.unusedVariables false
theorem r_sized (n:Int) (W:World):Calls Tryz.prog 75 #[.int .i8 n] W fun e w'=>e=.returned (.bool (sizedI n)) ∧ W=w':=by
  have E:=Lib.hid (show (n == 1 || n == 2 || n == 4 || n == 8)=sizedI n by unfold sizedI;rw [Bool.eq_iff_iff,decide_eq_true_iff];simp [or_assoc])
  go_enter Tryz.func75,Tryz.ntmps75
  go_wp2
  all_goals
    go_ret
    exact ⟨retB (by rw [← E.out];try simp [*]),rfl⟩
set_option maxRecDepth 100000 in
set_option maxHeartbeats 2000000 in
theorem rf_0t (op width size:Int) (dst src off imm:Int) (W:World) (hk:¬ op=8):
    Calls Tryz.prog 74 #[.agg (In.mk 0 op width size true dst src off imm).cells] W fun e w'=>e=.returned (.agg #[.int .i8 0,.int .i8 op,.int .i8 width,.int .i8 0,.bool true,.int .i8 dst,.int .i8 src,.int .i64 0,.int .i64 0]) ∧ Below W.heap.size W w':=by
  unfold In.cells at *
  simp only at *
  have h8:(op != 8)=true:=by simpa using hk
  go_enter Tryz.func74,Tryz.ntmps74
  go_wp2
  refine bodyPost_ret (v:=.agg #[.int .i8 0,.int .i8 op,.int .i8 width,.int .i8 0,.bool true,.int .i8 dst,.int .i8 src,.int .i64 0,.int .i64 0]) (by simp [results,Tryz.results74,go_sem]) rfl ⟨rfl,?_⟩
  repeat (refine Below.setCell ?_ (by simp only;omega) _)
  repeat (first | exact Below.refl _ _ | refine below_new ?_ _)
set_option maxRecDepth 100000 in
set_option maxHeartbeats 2000000 in
theorem rf_0f (op width size:Int) (dst src off imm:Int) (W:World) (hk:¬ op=8):
    Calls Tryz.prog 74 #[.agg (In.mk 0 op width size false dst src off imm).cells] W fun e w'=>e=.returned (.agg #[.int .i8 0,.int .i8 op,.int .i8 width,.int .i8 0,.bool false,.int .i8 dst,.int .i8 0,.int .i64 0,.int .i64 imm]) ∧ Below W.heap.size W w':=by
  unfold In.cells at *
  simp only at *
  have h8:(op != 8)=true:=by simpa using hk
  go_enter Tryz.func74,Tryz.ntmps74
  go_wp2
  refine bodyPost_ret (v:=.agg #[.int .i8 0,.int .i8 op,.int .i8 width,.int .i8 0,.bool false,.int .i8 dst,.int .i8 0,.int .i64 0,.int .i64 imm]) (by simp [results,Tryz.results74,go_sem]) rfl ⟨rfl,?_⟩
  repeat (refine Below.setCell ?_ (by simp only;omega) _)
  repeat (first | exact Below.refl _ _ | refine below_new ?_ _)
set_option maxRecDepth 100000 in
set_option maxHeartbeats 2000000 in
theorem rf_8t (width size:Int) (dst src off imm:Int) (W:World):
    Calls Tryz.prog 74 #[.agg (In.mk 0 8 width size true dst src off imm).cells] W fun e w'=>e=.returned (.agg #[.int .i8 0,.int .i8 8,.int .i8 width,.int .i8 0,.bool false,.int .i8 dst,.int .i8 0,.int .i64 0,.int .i64 0]) ∧ Below W.heap.size W w':=by
  unfold In.cells at *
  simp only at *
  go_enter Tryz.func74,Tryz.ntmps74
  go_wp2
  refine bodyPost_ret (v:=.agg #[.int .i8 0,.int .i8 8,.int .i8 width,.int .i8 0,.bool false,.int .i8 dst,.int .i8 0,.int .i64 0,.int .i64 0]) (by simp [results,Tryz.results74,go_sem]) rfl ⟨rfl,?_⟩
  repeat (refine Below.setCell ?_ (by simp only;omega) _)
  repeat (first | exact Below.refl _ _ | refine below_new ?_ _)
set_option maxRecDepth 100000 in
set_option maxHeartbeats 2000000 in
theorem rf_8f (width size:Int) (dst src off imm:Int) (W:World):
    Calls Tryz.prog 74 #[.agg (In.mk 0 8 width size false dst src off imm).cells] W fun e w'=>e=.returned (.agg #[.int .i8 0,.int .i8 8,.int .i8 width,.int .i8 0,.bool false,.int .i8 dst,.int .i8 0,.int .i64 0,.int .i64 0]) ∧ Below W.heap.size W w':=by
  unfold In.cells at *
  simp only at *
  go_enter Tryz.func74,Tryz.ntmps74
  go_wp2
  refine bodyPost_ret (v:=.agg #[.int .i8 0,.int .i8 8,.int .i8 width,.int .i8 0,.bool false,.int .i8 dst,.int .i8 0,.int .i64 0,.int .i64 0]) (by simp [results,Tryz.results74,go_sem]) rfl ⟨rfl,?_⟩
  repeat (refine Below.setCell ?_ (by simp only;omega) _)
  repeat (first | exact Below.refl _ _ | refine below_new ?_ _)
set_option maxRecDepth 100000 in
set_option maxHeartbeats 2000000 in
theorem rf_1t (op width size:Int) (dst src off imm:Int) (W:World):
    Calls Tryz.prog 74 #[.agg (In.mk 1 op width size true dst src off imm).cells] W fun e w'=>e=.returned (.agg #[.int .i8 1,.int .i8 0,.int .i8 0,.int .i8 size,.bool false,.int .i8 dst,.int .i8 src,.int .i64 off,.int .i64 0]) ∧ Below W.heap.size W w':=by
  unfold In.cells at *
  simp only at *
  go_enter Tryz.func74,Tryz.ntmps74
  go_wp2
  refine bodyPost_ret (v:=.agg #[.int .i8 1,.int .i8 0,.int .i8 0,.int .i8 size,.bool false,.int .i8 dst,.int .i8 src,.int .i64 off,.int .i64 0]) (by simp [results,Tryz.results74,go_sem]) rfl ⟨rfl,?_⟩
  repeat (refine Below.setCell ?_ (by simp only;omega) _)
  repeat (first | exact Below.refl _ _ | refine below_new ?_ _)
set_option maxRecDepth 100000 in
set_option maxHeartbeats 2000000 in
theorem rf_1f (op width size:Int) (dst src off imm:Int) (W:World):
    Calls Tryz.prog 74 #[.agg (In.mk 1 op width size false dst src off imm).cells] W fun e w'=>e=.returned (.agg #[.int .i8 1,.int .i8 0,.int .i8 0,.int .i8 size,.bool false,.int .i8 dst,.int .i8 src,.int .i64 off,.int .i64 0]) ∧ Below W.heap.size W w':=by
  unfold In.cells at *
  simp only at *
  go_enter Tryz.func74,Tryz.ntmps74
  go_wp2
  refine bodyPost_ret (v:=.agg #[.int .i8 1,.int .i8 0,.int .i8 0,.int .i8 size,.bool false,.int .i8 dst,.int .i8 src,.int .i64 off,.int .i64 0]) (by simp [results,Tryz.results74,go_sem]) rfl ⟨rfl,?_⟩
  repeat (refine Below.setCell ?_ (by simp only;omega) _)
  repeat (first | exact Below.refl _ _ | refine below_new ?_ _)
set_option maxRecDepth 100000 in
set_option maxHeartbeats 2000000 in
theorem rf_2t (op width size:Int) (dst src off imm:Int) (W:World):
    Calls Tryz.prog 74 #[.agg (In.mk 2 op width size true dst src off imm).cells] W fun e w'=>e=.returned (.agg #[.int .i8 2,.int .i8 0,.int .i8 0,.int .i8 size,.bool false,.int .i8 dst,.int .i8 src,.int .i64 off,.int .i64 0]) ∧ Below W.heap.size W w':=by
  unfold In.cells at *
  simp only at *
  go_enter Tryz.func74,Tryz.ntmps74
  go_wp2
  refine bodyPost_ret (v:=.agg #[.int .i8 2,.int .i8 0,.int .i8 0,.int .i8 size,.bool false,.int .i8 dst,.int .i8 src,.int .i64 off,.int .i64 0]) (by simp [results,Tryz.results74,go_sem]) rfl ⟨rfl,?_⟩
  repeat (refine Below.setCell ?_ (by simp only;omega) _)
  repeat (first | exact Below.refl _ _ | refine below_new ?_ _)
set_option maxRecDepth 100000 in
set_option maxHeartbeats 2000000 in
theorem rf_2f (op width size:Int) (dst src off imm:Int) (W:World):
    Calls Tryz.prog 74 #[.agg (In.mk 2 op width size false dst src off imm).cells] W fun e w'=>e=.returned (.agg #[.int .i8 2,.int .i8 0,.int .i8 0,.int .i8 size,.bool false,.int .i8 dst,.int .i8 src,.int .i64 off,.int .i64 0]) ∧ Below W.heap.size W w':=by
  unfold In.cells at *
  simp only at *
  go_enter Tryz.func74,Tryz.ntmps74
  go_wp2
  refine bodyPost_ret (v:=.agg #[.int .i8 2,.int .i8 0,.int .i8 0,.int .i8 size,.bool false,.int .i8 dst,.int .i8 src,.int .i64 off,.int .i64 0]) (by simp [results,Tryz.results74,go_sem]) rfl ⟨rfl,?_⟩
  repeat (refine Below.setCell ?_ (by simp only;omega) _)
  repeat (first | exact Below.refl _ _ | refine below_new ?_ _)
set_option maxRecDepth 100000 in
set_option maxHeartbeats 2000000 in
theorem rf_3t (op width size:Int) (dst src off imm:Int) (W:World):
    Calls Tryz.prog 74 #[.agg (In.mk 3 op width size true dst src off imm).cells] W fun e w'=>e=.returned (.agg #[.int .i8 3,.int .i8 op,.int .i8 0,.int .i8 0,.bool true,.int .i8 dst,.int .i8 src,.int .i64 off,.int .i64 0]) ∧ Below W.heap.size W w':=by
  unfold In.cells at *
  simp only at *
  go_enter Tryz.func74,Tryz.ntmps74
  go_wp2
  refine bodyPost_ret (v:=.agg #[.int .i8 3,.int .i8 op,.int .i8 0,.int .i8 0,.bool true,.int .i8 dst,.int .i8 src,.int .i64 off,.int .i64 0]) (by simp [results,Tryz.results74,go_sem]) rfl ⟨rfl,?_⟩
  repeat (refine Below.setCell ?_ (by simp only;omega) _)
  repeat (first | exact Below.refl _ _ | refine below_new ?_ _)
set_option maxRecDepth 100000 in
set_option maxHeartbeats 2000000 in
theorem rf_3f (op width size:Int) (dst src off imm:Int) (W:World):
    Calls Tryz.prog 74 #[.agg (In.mk 3 op width size false dst src off imm).cells] W fun e w'=>e=.returned (.agg #[.int .i8 3,.int .i8 op,.int .i8 0,.int .i8 0,.bool false,.int .i8 dst,.int .i8 0,.int .i64 off,.int .i64 imm]) ∧ Below W.heap.size W w':=by
  unfold In.cells at *
  simp only at *
  go_enter Tryz.func74,Tryz.ntmps74
  go_wp2
  refine bodyPost_ret (v:=.agg #[.int .i8 3,.int .i8 op,.int .i8 0,.int .i8 0,.bool false,.int .i8 dst,.int .i8 0,.int .i64 off,.int .i64 imm]) (by simp [results,Tryz.results74,go_sem]) rfl ⟨rfl,?_⟩
  repeat (refine Below.setCell ?_ (by simp only;omega) _)
  repeat (first | exact Below.refl _ _ | refine below_new ?_ _)
set_option maxRecDepth 100000 in
set_option maxHeartbeats 2000000 in
theorem rf_4t (op width size:Int) (dst src off imm:Int) (W:World):
    Calls Tryz.prog 74 #[.agg (In.mk 4 op width size true dst src off imm).cells] W fun e w'=>e=.returned (.agg #[.int .i8 4,.int .i8 0,.int .i8 0,.int .i8 0,.bool false,.int .i8 0,.int .i8 0,.int .i64 off,.int .i64 0]) ∧ Below W.heap.size W w':=by
  unfold In.cells at *
  simp only at *
  go_enter Tryz.func74,Tryz.ntmps74
  go_wp2
  refine bodyPost_ret (v:=.agg #[.int .i8 4,.int .i8 0,.int .i8 0,.int .i8 0,.bool false,.int .i8 0,.int .i8 0,.int .i64 off,.int .i64 0]) (by simp [results,Tryz.results74,go_sem]) rfl ⟨rfl,?_⟩
  repeat (refine Below.setCell ?_ (by simp only;omega) _)
  repeat (first | exact Below.refl _ _ | refine below_new ?_ _)
set_option maxRecDepth 100000 in
set_option maxHeartbeats 2000000 in
theorem rf_5t (op width size:Int) (dst src off imm:Int) (W:World):
    Calls Tryz.prog 74 #[.agg (In.mk 5 op width size true dst src off imm).cells] W fun e w'=>e=.returned (.agg #[.int .i8 5,.int .i8 0,.int .i8 0,.int .i8 0,.bool false,.int .i8 0,.int .i8 0,.int .i64 0,.int .i64 imm]) ∧ Below W.heap.size W w':=by
  unfold In.cells at *
  simp only at *
  go_enter Tryz.func74,Tryz.ntmps74
  go_wp2
  refine bodyPost_ret (v:=.agg #[.int .i8 5,.int .i8 0,.int .i8 0,.int .i8 0,.bool false,.int .i8 0,.int .i8 0,.int .i64 0,.int .i64 imm]) (by simp [results,Tryz.results74,go_sem]) rfl ⟨rfl,?_⟩
  repeat (refine Below.setCell ?_ (by simp only;omega) _)
  repeat (first | exact Below.refl _ _ | refine below_new ?_ _)
set_option maxRecDepth 100000 in
set_option maxHeartbeats 2000000 in
theorem rf_xt (kind op width size:Int) (dst src off imm:Int) (W:World) (h0:¬ kind=0) (h1:¬ kind=1) (h2:¬ kind=2) (h3:¬ kind=3) (h4:¬ kind=4) (h5:¬ kind=5):
    Calls Tryz.prog 74 #[.agg (In.mk kind op width size true dst src off imm).cells] W fun e w'=>e=.returned (.agg #[.int .i8 kind,.int .i8 0,.int .i8 0,.int .i8 0,.bool false,.int .i8 0,.int .i8 0,.int .i64 0,.int .i64 0]) ∧ Below W.heap.size W w':=by
  unfold In.cells at *
  simp only at *
  go_enter Tryz.func74,Tryz.ntmps74
  go_wp2
  refine bodyPost_ret (v:=.agg #[.int .i8 kind,.int .i8 0,.int .i8 0,.int .i8 0,.bool false,.int .i8 0,.int .i8 0,.int .i64 0,.int .i64 0]) (by simp [results,Tryz.results74,go_sem]) rfl ⟨rfl,?_⟩
  repeat (refine Below.setCell ?_ (by simp only;omega) _)
  repeat (first | exact Below.refl _ _ | refine below_new ?_ _)
set_option maxRecDepth 100000 in
set_option maxHeartbeats 2000000 in
theorem rf_4f (op width size:Int) (dst src off imm:Int) (W:World):
    Calls Tryz.prog 74 #[.agg (In.mk 4 op width size false dst src off imm).cells] W fun e w'=>e=.returned (.agg #[.int .i8 4,.int .i8 0,.int .i8 0,.int .i8 0,.bool false,.int .i8 0,.int .i8 0,.int .i64 off,.int .i64 0]) ∧ Below W.heap.size W w':=by
  unfold In.cells at *
  simp only at *
  go_enter Tryz.func74,Tryz.ntmps74
  go_wp2
  refine bodyPost_ret (v:=.agg #[.int .i8 4,.int .i8 0,.int .i8 0,.int .i8 0,.bool false,.int .i8 0,.int .i8 0,.int .i64 off,.int .i64 0]) (by simp [results,Tryz.results74,go_sem]) rfl ⟨rfl,?_⟩
  repeat (refine Below.setCell ?_ (by simp only;omega) _)
  repeat (first | exact Below.refl _ _ | refine below_new ?_ _)
set_option maxRecDepth 100000 in
set_option maxHeartbeats 2000000 in
theorem rf_5f (op width size:Int) (dst src off imm:Int) (W:World):
    Calls Tryz.prog 74 #[.agg (In.mk 5 op width size false dst src off imm).cells] W fun e w'=>e=.returned (.agg #[.int .i8 5,.int .i8 0,.int .i8 0,.int .i8 0,.bool false,.int .i8 0,.int .i8 0,.int .i64 0,.int .i64 imm]) ∧ Below W.heap.size W w':=by
  unfold In.cells at *
  simp only at *
  go_enter Tryz.func74,Tryz.ntmps74
  go_wp2
  refine bodyPost_ret (v:=.agg #[.int .i8 5,.int .i8 0,.int .i8 0,.int .i8 0,.bool false,.int .i8 0,.int .i8 0,.int .i64 0,.int .i64 imm]) (by simp [results,Tryz.results74,go_sem]) rfl ⟨rfl,?_⟩
  repeat (refine Below.setCell ?_ (by simp only;omega) _)
  repeat (first | exact Below.refl _ _ | refine below_new ?_ _)
set_option maxRecDepth 100000 in
set_option maxHeartbeats 2000000 in
theorem rf_xf (kind op width size:Int) (dst src off imm:Int) (W:World) (h0:¬ kind=0) (h1:¬ kind=1) (h2:¬ kind=2) (h3:¬ kind=3) (h4:¬ kind=4) (h5:¬ kind=5):
    Calls Tryz.prog 74 #[.agg (In.mk kind op width size false dst src off imm).cells] W fun e w'=>e=.returned (.agg #[.int .i8 kind,.int .i8 0,.int .i8 0,.int .i8 0,.bool false,.int .i8 0,.int .i8 0,.int .i64 0,.int .i64 0]) ∧ Below W.heap.size W w':=by
  unfold In.cells at *
  simp only at *
  go_enter Tryz.func74,Tryz.ntmps74
  go_wp2
  refine bodyPost_ret (v:=.agg #[.int .i8 kind,.int .i8 0,.int .i8 0,.int .i8 0,.bool false,.int .i8 0,.int .i8 0,.int .i64 0,.int .i64 0]) (by simp [results,Tryz.results74,go_sem]) rfl ⟨rfl,?_⟩
  repeat (refine Below.setCell ?_ (by simp only;omega) _)
  repeat (first | exact Below.refl _ _ | refine below_new ?_ _)
theorem r_fields (x:In) (W:World):Calls Tryz.prog 74 #[.agg x.cells] W fun e w'=>e=.returned (.agg (usedI x).cells) ∧ Below W.heap.size W w':=by
  obtain ⟨kind,op,width,size,byReg,dst,src,off,imm⟩:=x
  by_cases h0:kind=0
  · subst h0
    by_cases h8:op=8
    · subst h8
      cases byReg
      · exact rf_8f width size dst src off imm W
      · exact rf_8t width size dst src off imm W
    · cases byReg
      · have e:usedI (In.mk 0 op width size false dst src off imm)=⟨0,op,width,0,false,dst,0,0,imm⟩:=by unfold usedI;rw [if_pos rfl,if_neg h8];rfl
        rw [e];exact rf_0f op width size dst src off imm W h8
      · have e:usedI (In.mk 0 op width size true dst src off imm)=⟨0,op,width,0,true,dst,src,0,0⟩:=by unfold usedI;rw [if_pos rfl,if_neg h8];rfl
        rw [e];exact rf_0t op width size dst src off imm W h8
  by_cases h1:kind=1
  · subst h1
    cases byReg
    · exact rf_1f op width size dst src off imm W
    · exact rf_1t op width size dst src off imm W
  by_cases h2:kind=2
  · subst h2
    cases byReg
    · exact rf_2f op width size dst src off imm W
    · exact rf_2t op width size dst src off imm W
  by_cases h3:kind=3
  · subst h3
    cases byReg
    · exact rf_3f op width size dst src off imm W
    · exact rf_3t op width size dst src off imm W
  by_cases h4:kind=4
  · subst h4
    cases byReg
    · exact rf_4f op width size dst src off imm W
    · exact rf_4t op width size dst src off imm W
  by_cases h5:kind=5
  · subst h5
    cases byReg
    · exact rf_5f op width size dst src off imm W
    · exact rf_5t op width size dst src off imm W
  have e:usedI (In.mk kind op width size byReg dst src off imm)=⟨kind,0,0,0,false,0,0,0,0⟩:=by
    unfold usedI;rw [if_neg h0,if_neg h1,if_neg h2,if_neg h3,if_neg h4,if_neg h5]
  rw [e]
  cases byReg
  · exact rf_xf kind op width size dst src off imm W h0 h1 h2 h3 h4 h5
  · exact rf_xt kind op width size dst src off imm W h0 h1 h2 h3 h4 h5
end Go.Proofs.YtigliofiojkhcaaGreat.Ins
