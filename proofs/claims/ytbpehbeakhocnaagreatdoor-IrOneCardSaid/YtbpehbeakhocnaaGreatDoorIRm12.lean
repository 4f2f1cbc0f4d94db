import Derived.Test.YtbpehbeakhocnaaGreatDoorIRm11
import Derived.BigRegion
import Derived.RegionTactic
set_option maxHeartbeats 2000000
set_option linter.unusedVariables false
set_option linter.unusedSimpArgs false
set_option linter.unnecessarySimpa false
namespace Go.Proofs.YtbpehbeakhocnaaGreatDoor.Mrm
open Go Go.RowKit
set_option maxRecDepth 100000
theorem cfill_1_0 (op wd at_ va dg reg rm pdisp pimm pcc:Int) (W:World):Calls Tryz.prog 122 #[.int .i8 op,.int .i8 wd,.agg #[.int .i8 1,.int .i8 at_,.int .u16 va,.int .i8 dg,.int .u16 0],.agg #[.int .i8 reg,.int .i8 rm,.int .i64 pdisp,.int .i64 pimm,.int .i8 pcc]] W fun e w'=>e=.returned (.agg #[.int .i8 op,.int .i8 wd,.int .i8 rm,.int .i8 reg,.int .i8 0,.int .i64 0,.int .i64 0,.int .i8 0]) ∧ Below W.heap.size W w':=by
  go_enter Tryz.func122,Tryz.ntmps122
  go_wp2_with fail
  go_region
  all_goals (
    go_wp2_with fail
    refine bodyPost_ret (v:=.agg #[.int .i8 op,.int .i8 wd,.int .i8 rm,.int .i8 reg,.int .i8 0,.int .i64 0,.int .i64 0,.int .i8 0]) (by simp [results,Tryz.results122,go_sem]) rfl ⟨rfl,?_⟩
    repeat (first | exact Below.refl _ _ | apply Below.drew | apply below_new))
theorem cfill_3_0 (op wd at_ va dg reg rm pdisp pimm pcc:Int) (W:World):Calls Tryz.prog 122 #[.int .i8 op,.int .i8 wd,.agg #[.int .i8 3,.int .i8 at_,.int .u16 va,.int .i8 dg,.int .u16 0],.agg #[.int .i8 reg,.int .i8 rm,.int .i64 pdisp,.int .i64 pimm,.int .i8 pcc]] W fun e w'=>e=.returned (.agg #[.int .i8 op,.int .i8 wd,.int .i8 rm,.int .i8 0,.int .i8 0,.int .i64 0,.int .i64 pimm,.int .i8 0]) ∧ Below W.heap.size W w':=by
  go_enter Tryz.func122,Tryz.ntmps122
  go_wp2_with fail
  go_region
  all_goals (
    go_wp2_with fail
    refine bodyPost_ret (v:=.agg #[.int .i8 op,.int .i8 wd,.int .i8 rm,.int .i8 0,.int .i8 0,.int .i64 0,.int .i64 pimm,.int .i8 0]) (by simp [results,Tryz.results122,go_sem]) rfl ⟨rfl,?_⟩
    repeat (first | exact Below.refl _ _ | apply Below.drew | apply below_new))
theorem cfill_2_0 (op wd at_ va dg reg rm pdisp pimm pcc:Int) (W:World):Calls Tryz.prog 122 #[.int .i8 op,.int .i8 wd,.agg #[.int .i8 2,.int .i8 at_,.int .u16 va,.int .i8 dg,.int .u16 0],.agg #[.int .i8 reg,.int .i8 rm,.int .i64 pdisp,.int .i64 pimm,.int .i8 pcc]] W fun e w'=>e=.returned (.agg #[.int .i8 op,.int .i8 wd,.int .i8 reg,.int .i8 rm,.int .i8 0,.int .i64 0,.int .i64 0,.int .i8 0]) ∧ Below W.heap.size W w':=by
  go_enter Tryz.func122,Tryz.ntmps122
  go_wp2_with fail
  go_region
  all_goals (
    go_wp2_with fail
    refine bodyPost_ret (v:=.agg #[.int .i8 op,.int .i8 wd,.int .i8 reg,.int .i8 rm,.int .i8 0,.int .i64 0,.int .i64 0,.int .i8 0]) (by simp [results,Tryz.results122,go_sem]) rfl ⟨rfl,?_⟩
    repeat (first | exact Below.refl _ _ | apply Below.drew | apply below_new))
theorem cfill_4_0 (op wd at_ va dg reg rm pdisp pimm pcc:Int) (W:World):Calls Tryz.prog 122 #[.int .i8 op,.int .i8 wd,.agg #[.int .i8 4,.int .i8 at_,.int .u16 va,.int .i8 dg,.int .u16 0],.agg #[.int .i8 reg,.int .i8 rm,.int .i64 pdisp,.int .i64 pimm,.int .i8 pcc]] W fun e w'=>e=.returned (.agg #[.int .i8 op,.int .i8 wd,.int .i8 rm,.int .i8 0,.int .i8 0,.int .i64 0,.int .i64 pimm,.int .i8 0]) ∧ Below W.heap.size W w':=by
  go_enter Tryz.func122,Tryz.ntmps122
  go_wp2_with fail
  go_region
  all_goals (
    go_wp2_with fail
    refine bodyPost_ret (v:=.agg #[.int .i8 op,.int .i8 wd,.int .i8 rm,.int .i8 0,.int .i8 0,.int .i64 0,.int .i64 pimm,.int .i8 0]) (by simp [results,Tryz.results122,go_sem]) rfl ⟨rfl,?_⟩
    repeat (first | exact Below.refl _ _ | apply Below.drew | apply below_new))
theorem cfill_5_0 (op wd at_ va dg reg rm pdisp pimm pcc:Int) (W:World):Calls Tryz.prog 122 #[.int .i8 op,.int .i8 wd,.agg #[.int .i8 5,.int .i8 at_,.int .u16 va,.int .i8 dg,.int .u16 0],.agg #[.int .i8 reg,.int .i8 rm,.int .i64 pdisp,.int .i64 pimm,.int .i8 pcc]] W fun e w'=>e=.returned (.agg #[.int .i8 op,.int .i8 wd,.int .i8 rm,.int .i8 0,.int .i8 0,.int .i64 0,.int .i64 0,.int .i8 0]) ∧ Below W.heap.size W w':=by
  go_enter Tryz.func122,Tryz.ntmps122
  go_wp2_with fail
  refine bodyPost_ret (v:=.agg #[.int .i8 op,.int .i8 wd,.int .i8 rm,.int .i8 0,.int .i8 0,.int .i64 0,.int .i64 0,.int .i8 0]) (by simp [results,Tryz.results122,go_sem]) rfl ⟨rfl,?_⟩
  repeat (first | exact Below.refl _ _ | apply Below.drew | apply below_new)
theorem cfill_2_15 (op wd at_ va dg reg rm pdisp pimm pcc:Int) (W:World):Calls Tryz.prog 122 #[.int .i8 op,.int .i8 wd,.agg #[.int .i8 2,.int .i8 at_,.int .u16 va,.int .i8 dg,.int .u16 15],.agg #[.int .i8 reg,.int .i8 rm,.int .i64 pdisp,.int .i64 pimm,.int .i8 pcc]] W fun e w'=>e=.returned (.agg #[.int .i8 op,.int .i8 wd,.int .i8 reg,.int .i8 rm,.int .i8 0,.int .i64 0,.int .i64 0,.int .i8 pcc]) ∧ Below W.heap.size W w':=by
  go_enter Tryz.func122,Tryz.ntmps122
  go_wp2_with fail
  go_region
  all_goals (
    go_wp2_with fail
    refine bodyPost_ret (v:=.agg #[.int .i8 op,.int .i8 wd,.int .i8 reg,.int .i8 rm,.int .i8 0,.int .i64 0,.int .i64 0,.int .i8 pcc]) (by simp [results,Tryz.results122,go_sem]) rfl ⟨rfl,?_⟩
    repeat (first | exact Below.refl _ _ | apply Below.drew | apply below_new))
theorem cfill_7_0 (op wd at_ va dg reg rm pdisp pimm pcc:Int) (W:World):Calls Tryz.prog 122 #[.int .i8 op,.int .i8 wd,.agg #[.int .i8 7,.int .i8 at_,.int .u16 va,.int .i8 dg,.int .u16 0],.agg #[.int .i8 reg,.int .i8 rm,.int .i64 pdisp,.int .i64 pimm,.int .i8 pcc]] W fun e w'=>e=.returned (.agg #[.int .i8 op,.int .i8 wd,.int .i8 reg,.int .i8 0,.int .i8 rm,.int .i64 pdisp,.int .i64 0,.int .i8 0]) ∧ Below W.heap.size W w':=by
  go_enter Tryz.func122,Tryz.ntmps122
  go_wp2_with fail
  go_region
  all_goals (
    go_wp2_with fail
    refine bodyPost_ret (v:=.agg #[.int .i8 op,.int .i8 wd,.int .i8 reg,.int .i8 0,.int .i8 rm,.int .i64 pdisp,.int .i64 0,.int .i8 0]) (by simp [results,Tryz.results122,go_sem]) rfl ⟨rfl,?_⟩
    repeat (first | exact Below.refl _ _ | apply Below.drew | apply below_new))
theorem cfill_8_0 (op wd at_ va dg reg rm pdisp pimm pcc:Int) (W:World):Calls Tryz.prog 122 #[.int .i8 op,.int .i8 wd,.agg #[.int .i8 8,.int .i8 at_,.int .u16 va,.int .i8 dg,.int .u16 0],.agg #[.int .i8 reg,.int .i8 rm,.int .i64 pdisp,.int .i64 pimm,.int .i8 pcc]] W fun e w'=>e=.returned (.agg #[.int .i8 op,.int .i8 wd,.int .i8 0,.int .i8 reg,.int .i8 rm,.int .i64 pdisp,.int .i64 0,.int .i8 0]) ∧ Below W.heap.size W w':=by
  go_enter Tryz.func122,Tryz.ntmps122
  go_wp2_with fail
  go_region
  all_goals (
    go_wp2_with fail
    refine bodyPost_ret (v:=.agg #[.int .i8 op,.int .i8 wd,.int .i8 0,.int .i8 reg,.int .i8 rm,.int .i64 pdisp,.int .i64 0,.int .i8 0]) (by simp [results,Tryz.results122,go_sem]) rfl ⟨rfl,?_⟩
    repeat (first | exact Below.refl _ _ | apply Below.drew | apply below_new))
theorem cfill_9_0 (op wd at_ va dg reg rm pdisp pimm pcc:Int) (W:World):Calls Tryz.prog 122 #[.int .i8 op,.int .i8 wd,.agg #[.int .i8 9,.int .i8 at_,.int .u16 va,.int .i8 dg,.int .u16 0],.agg #[.int .i8 reg,.int .i8 rm,.int .i64 pdisp,.int .i64 pimm,.int .i8 pcc]] W fun e w'=>e=.returned (.agg #[.int .i8 op,.int .i8 wd,.int .i8 0,.int .i8 0,.int .i8 0,.int .i64 0,.int .i64 pimm,.int .i8 0]) ∧ Below W.heap.size W w':=by
  go_enter Tryz.func122,Tryz.ntmps122
  go_wp2_with fail
  refine bodyPost_ret (v:=.agg #[.int .i8 op,.int .i8 wd,.int .i8 0,.int .i8 0,.int .i8 0,.int .i64 0,.int .i64 pimm,.int .i8 0]) (by simp [results,Tryz.results122,go_sem]) rfl ⟨rfl,?_⟩
  repeat (first | exact Below.refl _ _ | apply Below.drew | apply below_new)
theorem cfill_9_15 (op wd at_ va dg reg rm pdisp pimm pcc:Int) (W:World):Calls Tryz.prog 122 #[.int .i8 op,.int .i8 wd,.agg #[.int .i8 9,.int .i8 at_,.int .u16 va,.int .i8 dg,.int .u16 15],.agg #[.int .i8 reg,.int .i8 rm,.int .i64 pdisp,.int .i64 pimm,.int .i8 pcc]] W fun e w'=>e=.returned (.agg #[.int .i8 op,.int .i8 wd,.int .i8 0,.int .i8 0,.int .i8 0,.int .i64 0,.int .i64 pimm,.int .i8 pcc]) ∧ Below W.heap.size W w':=by
  go_enter Tryz.func122,Tryz.ntmps122
  go_wp2_with fail
  refine bodyPost_ret (v:=.agg #[.int .i8 op,.int .i8 wd,.int .i8 0,.int .i8 0,.int .i8 0,.int .i64 0,.int .i64 pimm,.int .i8 pcc]) (by simp [results,Tryz.results122,go_sem]) rfl ⟨rfl,?_⟩
  repeat (first | exact Below.refl _ _ | apply Below.drew | apply below_new)
theorem cfill_0_0 (op wd at_ va dg reg rm pdisp pimm pcc:Int) (W:World):Calls Tryz.prog 122 #[.int .i8 op,.int .i8 wd,.agg #[.int .i8 0,.int .i8 at_,.int .u16 va,.int .i8 dg,.int .u16 0],.agg #[.int .i8 reg,.int .i8 rm,.int .i64 pdisp,.int .i64 pimm,.int .i8 pcc]] W fun e w'=>e=.returned (.agg #[.int .i8 op,.int .i8 wd,.int .i8 0,.int .i8 0,.int .i8 0,.int .i64 0,.int .i64 0,.int .i8 0]) ∧ Below W.heap.size W w':=by
  go_enter Tryz.func122,Tryz.ntmps122
  go_wp2_with fail
  refine bodyPost_ret (v:=.agg #[.int .i8 op,.int .i8 wd,.int .i8 0,.int .i8 0,.int .i8 0,.int .i64 0,.int .i64 0,.int .i8 0]) (by simp [results,Tryz.results122,go_sem]) rfl ⟨rfl,?_⟩
  repeat (first | exact Below.refl _ _ | apply Below.drew | apply below_new)
theorem cfill_6_7 (op wd at_ va dg reg rm pdisp pimm pcc:Int) (W:World):Calls Tryz.prog 122 #[.int .i8 op,.int .i8 wd,.agg #[.int .i8 6,.int .i8 at_,.int .u16 va,.int .i8 dg,.int .u16 7],.agg #[.int .i8 reg,.int .i8 rm,.int .i64 pdisp,.int .i64 pimm,.int .i8 pcc]] W fun e w'=>e=.returned (.agg #[.int .i8 op,.int .i8 wd,.int .i8 rm,.int .i8 0,.int .i8 0,.int .i64 0,.int .i64 pimm,.int .i8 0]) ∧ Below W.heap.size W w':=by
  go_enter Tryz.func122,Tryz.ntmps122
  go_wp2_with fail
  go_region
  all_goals (
    go_wp2_with fail
    refine bodyPost_ret (v:=.agg #[.int .i8 op,.int .i8 wd,.int .i8 rm,.int .i8 0,.int .i8 0,.int .i64 0,.int .i64 pimm,.int .i8 0]) (by simp [results,Tryz.results122,go_sem]) rfl ⟨rfl,?_⟩
    repeat (first | exact Below.refl _ _ | apply Below.drew | apply below_new))
theorem cfill_10_0 (op wd at_ va dg reg rm pdisp pimm pcc:Int) (W:World):Calls Tryz.prog 122 #[.int .i8 op,.int .i8 wd,.agg #[.int .i8 10,.int .i8 at_,.int .u16 va,.int .i8 dg,.int .u16 0],.agg #[.int .i8 reg,.int .i8 rm,.int .i64 pdisp,.int .i64 pimm,.int .i8 pcc]] W fun e w'=>e=.returned (.agg #[.int .i8 op,.int .i8 wd,.int .i8 0,.int .i8 0,.int .i8 0,.int .i64 0,.int .i64 pimm,.int .i8 0]) ∧ Below W.heap.size W w':=by
  go_enter Tryz.func122,Tryz.ntmps122
  go_wp2_with fail
  refine bodyPost_ret (v:=.agg #[.int .i8 op,.int .i8 wd,.int .i8 0,.int .i8 0,.int .i8 0,.int .i64 0,.int .i64 pimm,.int .i8 0]) (by simp [results,Tryz.results122,go_sem]) rfl ⟨rfl,?_⟩
  repeat (first | exact Below.refl _ _ | apply Below.drew | apply below_new)
theorem cfill_10_15 (op wd at_ va dg reg rm pdisp pimm pcc:Int) (W:World):Calls Tryz.prog 122 #[.int .i8 op,.int .i8 wd,.agg #[.int .i8 10,.int .i8 at_,.int .u16 va,.int .i8 dg,.int .u16 15],.agg #[.int .i8 reg,.int .i8 rm,.int .i64 pdisp,.int .i64 pimm,.int .i8 pcc]] W fun e w'=>e=.returned (.agg #[.int .i8 op,.int .i8 wd,.int .i8 0,.int .i8 0,.int .i8 0,.int .i64 0,.int .i64 pimm,.int .i8 pcc]) ∧ Below W.heap.size W w':=by
  go_enter Tryz.func122,Tryz.ntmps122
  go_wp2_with fail
  refine bodyPost_ret (v:=.agg #[.int .i8 op,.int .i8 wd,.int .i8 0,.int .i8 0,.int .i8 0,.int .i64 0,.int .i64 pimm,.int .i8 pcc]) (by simp [results,Tryz.results122,go_sem]) rfl ⟨rfl,?_⟩
  repeat (first | exact Below.refl _ _ | apply Below.drew | apply below_new)
theorem cfilled_n (op w:Int) (c:Cd) (p:Pt) (hc:c ∈ allC) (W:World):Calls Tryz.prog 122 #[.int .i8 op,.int .i8 w,.agg #[.int .i8 c.sh,.int .i8 c.wd,.int .u16 c.va,.int .i8 c.dg,.int .u16 c.lo],.agg #[.int .i8 p.reg,.int .i8 p.rm,.int .i64 p.disp,.int .i64 p.imm,.int .i8 p.cc]] W fun e w'=>e=.returned (.agg (xC (filledP op w c p))) ∧ Below W.heap.size W w':=by
  obtain ⟨reg,rm,pdisp,pimm,pcc⟩:=p
  have h:=allC_cases c hc
  obtain ⟨sh,at_,va,dg,lo⟩:=c
  simp only at h
  rcases h with ⟨rfl,rfl⟩ | ⟨rfl,rfl⟩ | ⟨rfl,rfl⟩ | ⟨rfl,rfl⟩ | ⟨rfl,rfl⟩ | ⟨rfl,rfl⟩ | ⟨rfl,rfl⟩ | ⟨rfl,rfl⟩ | ⟨rfl,rfl⟩ | ⟨rfl,rfl⟩ | ⟨rfl,rfl⟩ | ⟨rfl,rfl⟩ | ⟨rfl,rfl⟩ | ⟨rfl,rfl⟩
  · exact cfill_1_0 op w at_ va dg reg rm pdisp pimm pcc W
  · exact cfill_3_0 op w at_ va dg reg rm pdisp pimm pcc W
  · exact cfill_2_0 op w at_ va dg reg rm pdisp pimm pcc W
  · exact cfill_4_0 op w at_ va dg reg rm pdisp pimm pcc W
  · exact cfill_5_0 op w at_ va dg reg rm pdisp pimm pcc W
  · exact cfill_2_15 op w at_ va dg reg rm pdisp pimm pcc W
  · exact cfill_7_0 op w at_ va dg reg rm pdisp pimm pcc W
  · exact cfill_8_0 op w at_ va dg reg rm pdisp pimm pcc W
  · exact cfill_9_0 op w at_ va dg reg rm pdisp pimm pcc W
  · exact cfill_9_15 op w at_ va dg reg rm pdisp pimm pcc W
  · exact cfill_0_0 op w at_ va dg reg rm pdisp pimm pcc W
  · exact cfill_6_7 op w at_ va dg reg rm pdisp pimm pcc W
  · exact cfill_10_0 op w at_ va dg reg rm pdisp pimm pcc W
  · exact cfill_10_15 op w at_ va dg reg rm pdisp pimm pcc W
end Go.Proofs.YtbpehbeakhocnaaGreatDoor.Mrm
