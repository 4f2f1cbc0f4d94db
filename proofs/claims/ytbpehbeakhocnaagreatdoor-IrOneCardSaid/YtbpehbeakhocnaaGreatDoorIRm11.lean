import Derived.Test.YtbpehbeakhocnaaGreatDoorIRm10
import Derived.Test.YtbpehbeakhocnaaGreatDoorIRm06
import Derived.BigRegion
import Derived.RegionTactic
set_option maxHeartbeats 2000000
set_option linter.unusedVariables false
set_option linter.unusedSimpArgs false
set_option linter.unnecessarySimpa false
namespace Go.Proofs.YtbpehbeakhocnaaGreatDoor.Mrm
open Go Go.RowKit
set_option maxRecDepth 100000
theorem four_of_one {n:Int} (h:oneB n=true):fourB n=true:=by
  unfold oneB at h;unfold fourB
  simp only [Bool.and_eq_true,decide_eq_true_eq] at h ⊢
  omega
theorem bool_a (e a b c d i:Bool):(e && (a && (b && (c && (true && (i && d))))))=(true && (e && (a && (b && (c && (d && (i && true))))))):=by cases e <;> cases a <;> cases b <;> cases c <;> cases d <;> cases i <;> rfl
theorem bool_c (e a b c d i k:Bool):(e && (a && (b && (c && (!(true && !k) && (i && d))))))=(true && (e && (a && (b && (c && (d && (i && k))))))):=by cases e <;> cases a <;> cases b <;> cases c <;> cases d <;> cases i <;> cases k <;> rfl
theorem bool_n (e a b c d i k m:Bool) (h:e=true → d=true) (h2:m=true → i=true) (hk:k=m):(e && (a && (b && (c && (true && k)))))=(true && (e && (a && (b && (c && (d && (i && m))))))):=by
  subst hk
  cases e <;> cases a <;> cases b <;> cases c <;> cases d <;> cases i <;> cases k <;> first | rfl | (exact absurd (h rfl) (by decide)) | (exact absurd (h2 rfl) (by decide))
theorem bool_nc (e a b c d i k m:Bool) (h:e=true → d=true) (h2:m=true → i=true):(e && (a && (b && (c && (!(true && !k) && m)))))=(true && (e && (a && (b && (c && (d && (i && (m && k)))))))):=by
  cases e <;> cases a <;> cases b <;> cases c <;> cases d <;> cases i <;> cases k <;> cases m <;> first | rfl | (exact absurd (h rfl) (by decide)) | (exact absurd (h2 rfl) (by decide))
theorem disp0 {x:Xi} {a b c d e f g:Int} (h:eqX x ⟨a,b,c,d,e,0,f,g⟩=true):fourB x.disp=true:=by
  rw [eqX_iff] at h
  rw [h]
  rfl
theorem no_or (e r:Bool) (h:e=false):(true && (e && r))=false:=by rw [h];rfl
theorem mp_yes {x:Xi} {c:Cd} (e:codeOfP x.op x.w=(c,true)) (hf:filledP x.op x.w c (partsP x c)=fldX (clsI x.op) x):mayP x=(eqX x (fldX (clsI x.op) x) && fitsP x c):=by
  unfold mayP;rw [e];simp only [hf,Bool.true_and]
section
variable {x:Xi} {c:Cd} (e:codeOfP x.op x.w=(c,true)) (hk:(clsI x.op != 0)=true) (hf:filledP x.op x.w c (partsP x c)=fldX (clsI x.op) x)
include e hk hf
theorem mp_a (h1:(c.lo == 15)=false) (h4:(c.sh == 4)=false) (h10:(c.sh == 10)=false) (hb:clsB (clsI x.op) x=true):mayP x=mayX x:=by
  rw [mp_yes e hf];unfold fitsP mayX;rw [h1,h4,h10,hk,hb]
  simp only [Bool.false_and,Bool.not_false,cond_false]
  exact bool_a _ _ _ _ _ _
theorem mp_c (h1:(c.lo == 15)=true) (h4:(c.sh == 4)=false) (h10:(c.sh == 10)=false) (hb:clsB (clsI x.op) x=ccB x.cc):mayP x=mayX x:=by
  rw [mp_yes e hf];unfold fitsP mayX;rw [h1,h4,h10,hk,hb]
  simp only [cond_false]
  exact bool_c _ _ _ _ _ _ _
theorem mp_4 (hd:(fldX (clsI x.op) x).disp=0) (h1:(c.lo == 15)=false) (h4:(c.sh == 4)=true) (hw:x.w ≤ 64) (hb:clsB (clsI x.op) x=(decide (0 ≤ x.imm) && decide (x.imm < x.w))):mayP x=mayX x:=by
  rw [mp_yes e hf];unfold fitsP mayX;rw [h1,h4,hk,hb]
  simp only [Bool.false_and,Bool.not_false,cond_true]
  exact bool_n _ _ _ _ _ _ _ _ (fun h=>by rw [eqX_iff] at h;rw [h,hd];rfl) (fun h=>by unfold fourB;simp only [Bool.and_eq_true,decide_eq_true_eq] at h ⊢;omega) rfl
theorem mp_10 (hd:(fldX (clsI x.op) x).disp=0) (h1:(c.lo == 15)=false) (h4:(c.sh == 4)=false) (h10:(c.sh == 10)=true) (hb:clsB (clsI x.op) x=oneB x.imm):mayP x=mayX x:=by
  rw [mp_yes e hf];unfold fitsP mayX;rw [h1,h4,h10,hk,hb]
  simp only [Bool.false_and,Bool.not_false,cond_false,cond_true]
  exact bool_n _ _ _ _ _ _ _ _ (fun h=>by rw [eqX_iff] at h;rw [h,hd];rfl) four_of_one rfl
theorem mp_nc (hd:(fldX (clsI x.op) x).disp=0) (h1:(c.lo == 15)=true) (h4:(c.sh == 4)=false) (h10:(c.sh == 10)=true) (hb:clsB (clsI x.op) x=(oneB x.imm && ccB x.cc)):mayP x=mayX x:=by
  rw [mp_yes e hf];unfold fitsP mayX;rw [h1,h4,h10,hk,hb]
  simp only [cond_false,cond_true]
  exact bool_nc _ _ _ _ _ _ _ _ (fun h=>by rw [eqX_iff] at h;rw [h,hd];rfl) four_of_one
end
theorem mp_no {x:Xi} (e:codeOfP x.op x.w=(zCd,false)) (hb:clsB (clsI x.op) x=false):mayP x=mayX x:=by
  unfold mayP mayX;rw [e,hb];simp only [Bool.false_and,Bool.and_false]
theorem mp_none {x:Xi} (e:codeOfP x.op x.w=(zCd,false)) (hb:eqX x (fldX (clsI x.op) x)=false):mayP x=mayX x:=by
  unfold mayP mayX;rw [e,hb];simp only [Bool.false_and,Bool.and_false]
theorem has_out (c:Cd) (w:Int) (h:widB w=false) (h0:w ≠ 0):hasB c w=false:=by
  unfold hasB
  rw [h]
  cases c.wd == 0
  · rfl
  · exact beq_eq_false_iff_ne.2 h0
theorem code_out (op w:Int) (h:widB w=false) (h0:w ≠ 0):codeOfP op w=(zCd,false):=by
  unfold codeOfP
  split
  · rfl
  · rw [if_neg (by rw [has_out _ _ h h0];decide)]
    have e:(fun o:Int × Cd=>o.1 == op && hasB o.2 w)=fun _=>false:=by funext o;rw [has_out _ _ h h0,Bool.and_false]
    rw [e]
    rfl
theorem may_out (x:Xi) (h:widB x.w=false) (h0:x.w ≠ 0):mayX x=false:=by
  have hl:longB x.w=false:=by unfold longB;unfold widB at h;revert h;cases x.w == 8 <;> cases x.w == 16 <;> cases x.w == 32 <;> cases x.w == 64 <;> simp
  have hj:jmpB x=false:=by unfold jmpB;unfold widB at h;revert h;cases x.w == 8 <;> cases x.w == 16 <;> cases x.w == 32 <;> cases x.w == 64 <;> simp
  unfold mayX
  rcases clsI_cases x.op with e | e | e | e | e | e | e | e | e | e | e <;> rw [e]
  · rfl
  case inr.inr.inr.inr.inr.inr.inr.inr.inr.inr=>
    rw [show eqX x (fldX 10 x)=false from by unfold eqX fldX;simp [h0]]
    simp only [Bool.and_false,Bool.false_and]
  all_goals (rw [show clsB _ x=false from by unfold clsB;simp [hl,hj,h]];simp only [Bool.and_false])
theorem w_cases (w:Int):w=0 ∨ w=8 ∨ w=16 ∨ w=32 ∨ w=64 ∨ (widB w=false ∧ w ≠ 0):=by
  by_cases h0:w=0
  · exact .inl h0
  by_cases h1:w=8
  · exact .inr (.inl h1)
  by_cases h2:w=16
  · exact .inr (.inr (.inl h2))
  by_cases h3:w=32
  · exact .inr (.inr (.inr (.inl h3)))
  by_cases h4:w=64
  · exact .inr (.inr (.inr (.inr (.inl h4))))
  refine .inr (.inr (.inr (.inr (.inr ⟨?_,h0⟩))))
  unfold widB
  rw [beq_eq_false_iff_ne.2 h1,beq_eq_false_iff_ne.2 h2,beq_eq_false_iff_ne.2 h3,beq_eq_false_iff_ne.2 h4]
  rfl
theorem mayP_is (x:Xi):mayP x=mayX x:=by
  rcases w_cases x.w with h | h | h | h | h | h
  case inr.inr.inr.inr.inr=>
    rw [may_out x h.1 h.2]
    unfold mayP
    rw [code_out _ _ h.1 h.2]
    rfl
  case inl=>
    by_cases ho:0 ≤ x.op ∧ x.op < 32
    · obtain ⟨op,wd,dst,src,base,disp,imm,cc⟩:=x
      simp only at h ho
      subst h
      obtain rfl | rfl | rfl | rfl | rfl | rfl | rfl | rfl | rfl | rfl | rfl | rfl | rfl | rfl | rfl | rfl | rfl | rfl | rfl | rfl | rfl | rfl | rfl | rfl | rfl | rfl | rfl | rfl | rfl | rfl | rfl | rfl:=lt32 ho
      · exact mp_no (show codeOfP 0 0=(zCd,false) by decide +kernel) rfl
      · exact mp_no (show codeOfP 1 0=(zCd,false) by decide +kernel) rfl
      · exact mp_no (show codeOfP 2 0=(zCd,false) by decide +kernel) rfl
      · exact mp_no (show codeOfP 3 0=(zCd,false) by decide +kernel) rfl
      · exact mp_no (show codeOfP 4 0=(zCd,false) by decide +kernel) rfl
      · exact mp_no (show codeOfP 5 0=(zCd,false) by decide +kernel) rfl
      · exact mp_no (show codeOfP 6 0=(zCd,false) by decide +kernel) rfl
      · exact mp_no (show codeOfP 7 0=(zCd,false) by decide +kernel) rfl
      · exact mp_no (show codeOfP 8 0=(zCd,false) by decide +kernel) rfl
      · exact mp_no (show codeOfP 9 0=(zCd,false) by decide +kernel) rfl
      · exact mp_no (show codeOfP 10 0=(zCd,false) by decide +kernel) rfl
      · exact mp_no (show codeOfP 11 0=(zCd,false) by decide +kernel) rfl
      · exact mp_no (show codeOfP 12 0=(zCd,false) by decide +kernel) rfl
      · exact mp_no (show codeOfP 13 0=(zCd,false) by decide +kernel) rfl
      · exact mp_no (show codeOfP 14 0=(zCd,false) by decide +kernel) rfl
      · exact mp_no (show codeOfP 15 0=(zCd,false) by decide +kernel) rfl
      · exact mp_no (show codeOfP 16 0=(zCd,false) by decide +kernel) rfl
      · exact mp_no (show codeOfP 17 0=(zCd,false) by decide +kernel) (by simp [clsB,longB,jmpB,clsI,clsT])
      · exact mp_no (show codeOfP 18 0=(zCd,false) by decide +kernel) (by simp [clsB,longB,jmpB,clsI,clsT])
      · exact mp_no (show codeOfP 19 0=(zCd,false) by decide +kernel) (by simp [clsB,longB,jmpB,clsI,clsT])
      · exact mp_no (show codeOfP 20 0=(zCd,false) by decide +kernel) rfl
      · exact mp_no (show codeOfP 21 0=(zCd,false) by decide +kernel) rfl
      · exact mp_no (show codeOfP 22 0=(zCd,false) by decide +kernel) rfl
      · exact mp_no (show codeOfP 23 0=(zCd,false) by decide +kernel) rfl
      · exact mp_no (show codeOfP 24 0=(zCd,false) by decide +kernel) rfl
      · exact mp_no (show codeOfP 25 0=(zCd,false) by decide +kernel) (by simp [clsB,longB,jmpB,clsI,clsT])
      · exact mp_no (show codeOfP 26 0=(zCd,false) by decide +kernel) rfl
      · exact mp_no (show codeOfP 27 0=(zCd,false) by decide +kernel) rfl
      · exact mp_no (show codeOfP 28 0=(zCd,false) by decide +kernel) rfl
      · exact mp_no (show codeOfP 29 0=(zCd,false) by decide +kernel) (by simp [clsB,longB,jmpB,clsI,clsT])
      · exact mp_a (c:=⟨0,0,195,0,0⟩) (show codeOfP 30 0=(⟨0,0,195,0,0⟩,true) by decide +kernel) rfl rfl rfl rfl rfl rfl
      · exact mp_a (c:=⟨0,0,3845,0,0⟩) (show codeOfP 31 0=(⟨0,0,3845,0,0⟩,true) by decide +kernel) rfl rfl rfl rfl rfl rfl
    · have e1:codeOfP x.op x.w=(zCd,false):=by unfold codeOfP;rw [if_pos (by omega)]
      have e2:clsI x.op=0:=by unfold clsI;rw [if_neg ho]
      unfold mayP mayX
      rw [e1,e2]
      rfl
  case inr.inl=>
    by_cases ho:0 ≤ x.op ∧ x.op < 32
    · obtain ⟨op,wd,dst,src,base,disp,imm,cc⟩:=x
      simp only at h ho
      subst h
      obtain rfl | rfl | rfl | rfl | rfl | rfl | rfl | rfl | rfl | rfl | rfl | rfl | rfl | rfl | rfl | rfl | rfl | rfl | rfl | rfl | rfl | rfl | rfl | rfl | rfl | rfl | rfl | rfl | rfl | rfl | rfl | rfl:=lt32 ho
      · exact mp_no (show codeOfP 0 8=(zCd,false) by decide +kernel) rfl
      · exact mp_no (show codeOfP 1 8=(zCd,false) by decide +kernel) rfl
      · exact mp_no (show codeOfP 2 8=(zCd,false) by decide +kernel) rfl
      · exact mp_no (show codeOfP 3 8=(zCd,false) by decide +kernel) rfl
      · exact mp_no (show codeOfP 4 8=(zCd,false) by decide +kernel) rfl
      · exact mp_no (show codeOfP 5 8=(zCd,false) by decide +kernel) rfl
      · exact mp_no (show codeOfP 6 8=(zCd,false) by decide +kernel) rfl
      · exact mp_no (show codeOfP 7 8=(zCd,false) by decide +kernel) rfl
      · exact mp_no (show codeOfP 8 8=(zCd,false) by decide +kernel) rfl
      · exact mp_no (show codeOfP 9 8=(zCd,false) by decide +kernel) rfl
      · exact mp_no (show codeOfP 10 8=(zCd,false) by decide +kernel) rfl
      · exact mp_no (show codeOfP 11 8=(zCd,false) by decide +kernel) rfl
      · exact mp_no (show codeOfP 12 8=(zCd,false) by decide +kernel) rfl
      · exact mp_no (show codeOfP 13 8=(zCd,false) by decide +kernel) rfl
      · exact mp_no (show codeOfP 14 8=(zCd,false) by decide +kernel) rfl
      · exact mp_no (show codeOfP 15 8=(zCd,false) by decide +kernel) rfl
      · exact mp_no (show codeOfP 16 8=(zCd,false) by decide +kernel) rfl
      · exact mp_no (show codeOfP 17 8=(zCd,false) by decide +kernel) (by simp [clsB,longB,jmpB,clsI,clsT])
      · exact mp_no (show codeOfP 18 8=(zCd,false) by decide +kernel) (by simp [clsB,longB,jmpB,clsI,clsT])
      · exact mp_no (show codeOfP 19 8=(zCd,false) by decide +kernel) (by simp [clsB,longB,jmpB,clsI,clsT])
      · exact mp_no (show codeOfP 20 8=(zCd,false) by decide +kernel) rfl
      · exact mp_no (show codeOfP 21 8=(zCd,false) by decide +kernel) rfl
      · exact mp_no (show codeOfP 22 8=(zCd,false) by decide +kernel) rfl
      · exact mp_no (show codeOfP 23 8=(zCd,false) by decide +kernel) rfl
      · exact mp_no (show codeOfP 24 8=(zCd,false) by decide +kernel) rfl
      · exact mp_no (show codeOfP 25 8=(zCd,false) by decide +kernel) (by simp [clsB,longB,jmpB,clsI,clsT])
      · exact mp_a (c:=⟨7,8,4022,0,0⟩) (show codeOfP 26 8=(⟨7,8,4022,0,0⟩,true) by decide +kernel) rfl rfl rfl rfl rfl rfl
      · exact mp_a (c:=⟨8,8,136,0,0⟩) (show codeOfP 27 8=(⟨8,8,136,0,0⟩,true) by decide +kernel) rfl rfl rfl rfl rfl rfl
      · exact mp_10 (c:=⟨10,8,235,0,0⟩) (show codeOfP 28 8=(⟨10,8,235,0,0⟩,true) by decide +kernel) rfl rfl rfl rfl rfl rfl rfl
      · exact mp_nc (c:=⟨10,8,112,0,15⟩) (show codeOfP 29 8=(⟨10,8,112,0,15⟩,true) by decide +kernel) rfl rfl rfl rfl rfl rfl rfl
      · exact mp_none (show codeOfP 30 8=(zCd,false) by decide +kernel) (by simp [eqX,fldX,clsI,clsT])
      · exact mp_none (show codeOfP 31 8=(zCd,false) by decide +kernel) (by simp [eqX,fldX,clsI,clsT])
    · have e1:codeOfP x.op x.w=(zCd,false):=by unfold codeOfP;rw [if_pos (by omega)]
      have e2:clsI x.op=0:=by unfold clsI;rw [if_neg ho]
      unfold mayP mayX
      rw [e1,e2]
      rfl
  case inr.inr.inl=>
    by_cases ho:0 ≤ x.op ∧ x.op < 32
    · obtain ⟨op,wd,dst,src,base,disp,imm,cc⟩:=x
      simp only at h ho
      subst h
      obtain rfl | rfl | rfl | rfl | rfl | rfl | rfl | rfl | rfl | rfl | rfl | rfl | rfl | rfl | rfl | rfl | rfl | rfl | rfl | rfl | rfl | rfl | rfl | rfl | rfl | rfl | rfl | rfl | rfl | rfl | rfl | rfl:=lt32 ho
      · exact mp_no (show codeOfP 0 16=(zCd,false) by decide +kernel) rfl
      · exact mp_no (show codeOfP 1 16=(zCd,false) by decide +kernel) rfl
      · exact mp_no (show codeOfP 2 16=(zCd,false) by decide +kernel) rfl
      · exact mp_no (show codeOfP 3 16=(zCd,false) by decide +kernel) rfl
      · exact mp_no (show codeOfP 4 16=(zCd,false) by decide +kernel) rfl
      · exact mp_no (show codeOfP 5 16=(zCd,false) by decide +kernel) rfl
      · exact mp_no (show codeOfP 6 16=(zCd,false) by decide +kernel) rfl
      · exact mp_no (show codeOfP 7 16=(zCd,false) by decide +kernel) rfl
      · exact mp_no (show codeOfP 8 16=(zCd,false) by decide +kernel) rfl
      · exact mp_no (show codeOfP 9 16=(zCd,false) by decide +kernel) rfl
      · exact mp_no (show codeOfP 10 16=(zCd,false) by decide +kernel) rfl
      · exact mp_no (show codeOfP 11 16=(zCd,false) by decide +kernel) rfl
      · exact mp_no (show codeOfP 12 16=(zCd,false) by decide +kernel) rfl
      · exact mp_no (show codeOfP 13 16=(zCd,false) by decide +kernel) rfl
      · exact mp_no (show codeOfP 14 16=(zCd,false) by decide +kernel) rfl
      · exact mp_no (show codeOfP 15 16=(zCd,false) by decide +kernel) rfl
      · exact mp_no (show codeOfP 16 16=(zCd,false) by decide +kernel) rfl
      · exact mp_no (show codeOfP 17 16=(zCd,false) by decide +kernel) (by simp [clsB,longB,jmpB,clsI,clsT])
      · exact mp_no (show codeOfP 18 16=(zCd,false) by decide +kernel) (by simp [clsB,longB,jmpB,clsI,clsT])
      · exact mp_no (show codeOfP 19 16=(zCd,false) by decide +kernel) (by simp [clsB,longB,jmpB,clsI,clsT])
      · exact mp_no (show codeOfP 20 16=(zCd,false) by decide +kernel) rfl
      · exact mp_no (show codeOfP 21 16=(zCd,false) by decide +kernel) rfl
      · exact mp_no (show codeOfP 22 16=(zCd,false) by decide +kernel) rfl
      · exact mp_no (show codeOfP 23 16=(zCd,false) by decide +kernel) rfl
      · exact mp_no (show codeOfP 24 16=(zCd,false) by decide +kernel) rfl
      · exact mp_no (show codeOfP 25 16=(zCd,false) by decide +kernel) (by simp [clsB,longB,jmpB,clsI,clsT])
      · exact mp_a (c:=⟨7,16,4023,0,0⟩) (show codeOfP 26 16=(⟨7,16,4023,0,0⟩,true) by decide +kernel) rfl rfl rfl rfl rfl rfl
      · exact mp_a (c:=⟨8,112,137,0,0⟩) (show codeOfP 27 16=(⟨8,112,137,0,0⟩,true) by decide +kernel) rfl rfl rfl rfl rfl rfl
      · exact mp_no (show codeOfP 28 16=(zCd,false) by decide +kernel) rfl
      · exact mp_no (show codeOfP 29 16=(zCd,false) by decide +kernel) (by simp [clsB,longB,jmpB,clsI,clsT])
      · exact mp_none (show codeOfP 30 16=(zCd,false) by decide +kernel) (by simp [eqX,fldX,clsI,clsT])
      · exact mp_none (show codeOfP 31 16=(zCd,false) by decide +kernel) (by simp [eqX,fldX,clsI,clsT])
    · have e1:codeOfP x.op x.w=(zCd,false):=by unfold codeOfP;rw [if_pos (by omega)]
      have e2:clsI x.op=0:=by unfold clsI;rw [if_neg ho]
      unfold mayP mayX
      rw [e1,e2]
      rfl
  case inr.inr.inr.inl=>
    by_cases ho:0 ≤ x.op ∧ x.op < 32
    · obtain ⟨op,wd,dst,src,base,disp,imm,cc⟩:=x
      simp only at h ho
      subst h
      obtain rfl | rfl | rfl | rfl | rfl | rfl | rfl | rfl | rfl | rfl | rfl | rfl | rfl | rfl | rfl | rfl | rfl | rfl | rfl | rfl | rfl | rfl | rfl | rfl | rfl | rfl | rfl | rfl | rfl | rfl | rfl | rfl:=lt32 ho
      · exact mp_a (c:=⟨1,96,137,0,0⟩) (show codeOfP 0 32=(⟨1,96,137,0,0⟩,true) by decide +kernel) rfl rfl rfl rfl rfl rfl
      · exact mp_a (c:=⟨6,32,184,0,7⟩) (show codeOfP 1 32=(⟨6,32,184,0,7⟩,true) by decide +kernel) rfl rfl rfl rfl rfl rfl
      · exact mp_a (c:=⟨1,96,1,0,0⟩) (show codeOfP 2 32=(⟨1,96,1,0,0⟩,true) by decide +kernel) rfl rfl rfl rfl rfl rfl
      · exact mp_a (c:=⟨1,96,9,0,0⟩) (show codeOfP 3 32=(⟨1,96,9,0,0⟩,true) by decide +kernel) rfl rfl rfl rfl rfl rfl
      · exact mp_a (c:=⟨1,96,33,0,0⟩) (show codeOfP 4 32=(⟨1,96,33,0,0⟩,true) by decide +kernel) rfl rfl rfl rfl rfl rfl
      · exact mp_a (c:=⟨1,96,41,0,0⟩) (show codeOfP 5 32=(⟨1,96,41,0,0⟩,true) by decide +kernel) rfl rfl rfl rfl rfl rfl
      · exact mp_a (c:=⟨1,96,49,0,0⟩) (show codeOfP 6 32=(⟨1,96,49,0,0⟩,true) by decide +kernel) rfl rfl rfl rfl rfl rfl
      · exact mp_a (c:=⟨1,96,57,0,0⟩) (show codeOfP 7 32=(⟨1,96,57,0,0⟩,true) by decide +kernel) rfl rfl rfl rfl rfl rfl
      · exact mp_a (c:=⟨1,96,133,0,0⟩) (show codeOfP 8 32=(⟨1,96,133,0,0⟩,true) by decide +kernel) rfl rfl rfl rfl rfl rfl
      · exact mp_a (c:=⟨3,96,129,0,0⟩) (show codeOfP 9 32=(⟨3,96,129,0,0⟩,true) by decide +kernel) rfl rfl rfl rfl rfl rfl
      · exact mp_a (c:=⟨3,96,129,1,0⟩) (show codeOfP 10 32=(⟨3,96,129,1,0⟩,true) by decide +kernel) rfl rfl rfl rfl rfl rfl
      · exact mp_a (c:=⟨3,96,129,4,0⟩) (show codeOfP 11 32=(⟨3,96,129,4,0⟩,true) by decide +kernel) rfl rfl rfl rfl rfl rfl
      · exact mp_a (c:=⟨3,96,129,5,0⟩) (show codeOfP 12 32=(⟨3,96,129,5,0⟩,true) by decide +kernel) rfl rfl rfl rfl rfl rfl
      · exact mp_a (c:=⟨3,96,129,6,0⟩) (show codeOfP 13 32=(⟨3,96,129,6,0⟩,true) by decide +kernel) rfl rfl rfl rfl rfl rfl
      · exact mp_a (c:=⟨3,96,129,7,0⟩) (show codeOfP 14 32=(⟨3,96,129,7,0⟩,true) by decide +kernel) rfl rfl rfl rfl rfl rfl
      · exact mp_a (c:=⟨3,96,247,0,0⟩) (show codeOfP 15 32=(⟨3,96,247,0,0⟩,true) by decide +kernel) rfl rfl rfl rfl rfl rfl
      · exact mp_a (c:=⟨2,96,4015,0,0⟩) (show codeOfP 16 32=(⟨2,96,4015,0,0⟩,true) by decide +kernel) rfl rfl rfl rfl rfl rfl
      · exact mp_4 (c:=⟨4,96,193,4,0⟩) (show codeOfP 17 32=(⟨4,96,193,4,0⟩,true) by decide +kernel) rfl rfl rfl rfl rfl (show (32:Int) ≤ 64 by decide) rfl
      · exact mp_4 (c:=⟨4,96,193,5,0⟩) (show codeOfP 18 32=(⟨4,96,193,5,0⟩,true) by decide +kernel) rfl rfl rfl rfl rfl (show (32:Int) ≤ 64 by decide) rfl
      · exact mp_4 (c:=⟨4,96,193,7,0⟩) (show codeOfP 19 32=(⟨4,96,193,7,0⟩,true) by decide +kernel) rfl rfl rfl rfl rfl (show (32:Int) ≤ 64 by decide) rfl
      · exact mp_a (c:=⟨5,96,211,4,0⟩) (show codeOfP 20 32=(⟨5,96,211,4,0⟩,true) by decide +kernel) rfl rfl rfl rfl rfl rfl
      · exact mp_a (c:=⟨5,96,211,5,0⟩) (show codeOfP 21 32=(⟨5,96,211,5,0⟩,true) by decide +kernel) rfl rfl rfl rfl rfl rfl
      · exact mp_a (c:=⟨5,96,211,7,0⟩) (show codeOfP 22 32=(⟨5,96,211,7,0⟩,true) by decide +kernel) rfl rfl rfl rfl rfl rfl
      · exact mp_a (c:=⟨5,96,247,3,0⟩) (show codeOfP 23 32=(⟨5,96,247,3,0⟩,true) by decide +kernel) rfl rfl rfl rfl rfl rfl
      · exact mp_a (c:=⟨5,96,247,6,0⟩) (show codeOfP 24 32=(⟨5,96,247,6,0⟩,true) by decide +kernel) rfl rfl rfl rfl rfl rfl
      · exact mp_c (c:=⟨2,96,3904,0,15⟩) (show codeOfP 25 32=(⟨2,96,3904,0,15⟩,true) by decide +kernel) rfl rfl rfl rfl rfl rfl
      · exact mp_a (c:=⟨7,96,139,0,0⟩) (show codeOfP 26 32=(⟨7,96,139,0,0⟩,true) by decide +kernel) rfl rfl rfl rfl rfl rfl
      · exact mp_a (c:=⟨8,112,137,0,0⟩) (show codeOfP 27 32=(⟨8,112,137,0,0⟩,true) by decide +kernel) rfl rfl rfl rfl rfl rfl
      · exact mp_a (c:=⟨9,32,233,0,0⟩) (show codeOfP 28 32=(⟨9,32,233,0,0⟩,true) by decide +kernel) rfl rfl rfl rfl rfl rfl
      · exact mp_c (c:=⟨9,32,3968,0,15⟩) (show codeOfP 29 32=(⟨9,32,3968,0,15⟩,true) by decide +kernel) rfl rfl rfl rfl rfl rfl
      · exact mp_none (show codeOfP 30 32=(zCd,false) by decide +kernel) (by simp [eqX,fldX,clsI,clsT])
      · exact mp_none (show codeOfP 31 32=(zCd,false) by decide +kernel) (by simp [eqX,fldX,clsI,clsT])
    · have e1:codeOfP x.op x.w=(zCd,false):=by unfold codeOfP;rw [if_pos (by omega)]
      have e2:clsI x.op=0:=by unfold clsI;rw [if_neg ho]
      unfold mayP mayX
      rw [e1,e2]
      rfl
  case inr.inr.inr.inr.inl=>
    by_cases ho:0 ≤ x.op ∧ x.op < 32
    · obtain ⟨op,wd,dst,src,base,disp,imm,cc⟩:=x
      simp only at h ho
      subst h
      obtain rfl | rfl | rfl | rfl | rfl | rfl | rfl | rfl | rfl | rfl | rfl | rfl | rfl | rfl | rfl | rfl | rfl | rfl | rfl | rfl | rfl | rfl | rfl | rfl | rfl | rfl | rfl | rfl | rfl | rfl | rfl | rfl:=lt32 ho
      · exact mp_a (c:=⟨1,96,137,0,0⟩) (show codeOfP 0 64=(⟨1,96,137,0,0⟩,true) by decide +kernel) rfl rfl rfl rfl rfl rfl
      · exact mp_a (c:=⟨3,64,199,0,0⟩) (show codeOfP 1 64=(⟨3,64,199,0,0⟩,true) by decide +kernel) rfl rfl rfl rfl rfl rfl
      · exact mp_a (c:=⟨1,96,1,0,0⟩) (show codeOfP 2 64=(⟨1,96,1,0,0⟩,true) by decide +kernel) rfl rfl rfl rfl rfl rfl
      · exact mp_a (c:=⟨1,96,9,0,0⟩) (show codeOfP 3 64=(⟨1,96,9,0,0⟩,true) by decide +kernel) rfl rfl rfl rfl rfl rfl
      · exact mp_a (c:=⟨1,96,33,0,0⟩) (show codeOfP 4 64=(⟨1,96,33,0,0⟩,true) by decide +kernel) rfl rfl rfl rfl rfl rfl
      · exact mp_a (c:=⟨1,96,41,0,0⟩) (show codeOfP 5 64=(⟨1,96,41,0,0⟩,true) by decide +kernel) rfl rfl rfl rfl rfl rfl
      · exact mp_a (c:=⟨1,96,49,0,0⟩) (show codeOfP 6 64=(⟨1,96,49,0,0⟩,true) by decide +kernel) rfl rfl rfl rfl rfl rfl
      · exact mp_a (c:=⟨1,96,57,0,0⟩) (show codeOfP 7 64=(⟨1,96,57,0,0⟩,true) by decide +kernel) rfl rfl rfl rfl rfl rfl
      · exact mp_a (c:=⟨1,96,133,0,0⟩) (show codeOfP 8 64=(⟨1,96,133,0,0⟩,true) by decide +kernel) rfl rfl rfl rfl rfl rfl
      · exact mp_a (c:=⟨3,96,129,0,0⟩) (show codeOfP 9 64=(⟨3,96,129,0,0⟩,true) by decide +kernel) rfl rfl rfl rfl rfl rfl
      · exact mp_a (c:=⟨3,96,129,1,0⟩) (show codeOfP 10 64=(⟨3,96,129,1,0⟩,true) by decide +kernel) rfl rfl rfl rfl rfl rfl
      · exact mp_a (c:=⟨3,96,129,4,0⟩) (show codeOfP 11 64=(⟨3,96,129,4,0⟩,true) by decide +kernel) rfl rfl rfl rfl rfl rfl
      · exact mp_a (c:=⟨3,96,129,5,0⟩) (show codeOfP 12 64=(⟨3,96,129,5,0⟩,true) by decide +kernel) rfl rfl rfl rfl rfl rfl
      · exact mp_a (c:=⟨3,96,129,6,0⟩) (show codeOfP 13 64=(⟨3,96,129,6,0⟩,true) by decide +kernel) rfl rfl rfl rfl rfl rfl
      · exact mp_a (c:=⟨3,96,129,7,0⟩) (show codeOfP 14 64=(⟨3,96,129,7,0⟩,true) by decide +kernel) rfl rfl rfl rfl rfl rfl
      · exact mp_a (c:=⟨3,96,247,0,0⟩) (show codeOfP 15 64=(⟨3,96,247,0,0⟩,true) by decide +kernel) rfl rfl rfl rfl rfl rfl
      · exact mp_a (c:=⟨2,96,4015,0,0⟩) (show codeOfP 16 64=(⟨2,96,4015,0,0⟩,true) by decide +kernel) rfl rfl rfl rfl rfl rfl
      · exact mp_4 (c:=⟨4,96,193,4,0⟩) (show codeOfP 17 64=(⟨4,96,193,4,0⟩,true) by decide +kernel) rfl rfl rfl rfl rfl (show (64:Int) ≤ 64 by decide) rfl
      · exact mp_4 (c:=⟨4,96,193,5,0⟩) (show codeOfP 18 64=(⟨4,96,193,5,0⟩,true) by decide +kernel) rfl rfl rfl rfl rfl (show (64:Int) ≤ 64 by decide) rfl
      · exact mp_4 (c:=⟨4,96,193,7,0⟩) (show codeOfP 19 64=(⟨4,96,193,7,0⟩,true) by decide +kernel) rfl rfl rfl rfl rfl (show (64:Int) ≤ 64 by decide) rfl
      · exact mp_a (c:=⟨5,96,211,4,0⟩) (show codeOfP 20 64=(⟨5,96,211,4,0⟩,true) by decide +kernel) rfl rfl rfl rfl rfl rfl
      · exact mp_a (c:=⟨5,96,211,5,0⟩) (show codeOfP 21 64=(⟨5,96,211,5,0⟩,true) by decide +kernel) rfl rfl rfl rfl rfl rfl
      · exact mp_a (c:=⟨5,96,211,7,0⟩) (show codeOfP 22 64=(⟨5,96,211,7,0⟩,true) by decide +kernel) rfl rfl rfl rfl rfl rfl
      · exact mp_a (c:=⟨5,96,247,3,0⟩) (show codeOfP 23 64=(⟨5,96,247,3,0⟩,true) by decide +kernel) rfl rfl rfl rfl rfl rfl
      · exact mp_a (c:=⟨5,96,247,6,0⟩) (show codeOfP 24 64=(⟨5,96,247,6,0⟩,true) by decide +kernel) rfl rfl rfl rfl rfl rfl
      · exact mp_c (c:=⟨2,96,3904,0,15⟩) (show codeOfP 25 64=(⟨2,96,3904,0,15⟩,true) by decide +kernel) rfl rfl rfl rfl rfl rfl
      · exact mp_a (c:=⟨7,96,139,0,0⟩) (show codeOfP 26 64=(⟨7,96,139,0,0⟩,true) by decide +kernel) rfl rfl rfl rfl rfl rfl
      · exact mp_a (c:=⟨8,112,137,0,0⟩) (show codeOfP 27 64=(⟨8,112,137,0,0⟩,true) by decide +kernel) rfl rfl rfl rfl rfl rfl
      · exact mp_no (show codeOfP 28 64=(zCd,false) by decide +kernel) rfl
      · exact mp_no (show codeOfP 29 64=(zCd,false) by decide +kernel) (by simp [clsB,longB,jmpB,clsI,clsT])
      · exact mp_none (show codeOfP 30 64=(zCd,false) by decide +kernel) (by simp [eqX,fldX,clsI,clsT])
      · exact mp_none (show codeOfP 31 64=(zCd,false) by decide +kernel) (by simp [eqX,fldX,clsI,clsT])
    · have e1:codeOfP x.op x.w=(zCd,false):=by unfold codeOfP;rw [if_pos (by omega)]
      have e2:clsI x.op=0:=by unfold clsI;rw [if_neg ho]
      unfold mayP mayX
      rw [e1,e2]
      rfl
theorem cparts_0 (op wd dst src base disp imm cc at_ va dg lo:Int) (W:World):Calls Tryz.prog 123 #[.agg #[.int .i8 op,.int .i8 wd,.int .i8 dst,.int .i8 src,.int .i8 base,.int .i64 disp,.int .i64 imm,.int .i8 cc],.agg #[.int .i8 0,.int .i8 at_,.int .u16 va,.int .i8 dg,.int .u16 lo]] W fun e w'=>e=.returned (.agg #[.int .i8 0,.int .i8 0,.int .i64 disp,.int .i64 imm,.int .i8 cc]) ∧ Below W.heap.size W w':=by
  go_enter Tryz.func123,Tryz.ntmps123
  go_wp2_with fail
  refine bodyPost_ret (v:=.agg #[.int .i8 0,.int .i8 0,.int .i64 disp,.int .i64 imm,.int .i8 cc]) (by simp [results,Tryz.results123,go_sem]) rfl ⟨rfl,?_⟩
  repeat (first | exact Below.refl _ _ | apply Below.drew | apply below_new)
theorem cparts_1 (op wd dst src base disp imm cc at_ va dg lo:Int) (W:World):Calls Tryz.prog 123 #[.agg #[.int .i8 op,.int .i8 wd,.int .i8 dst,.int .i8 src,.int .i8 base,.int .i64 disp,.int .i64 imm,.int .i8 cc],.agg #[.int .i8 1,.int .i8 at_,.int .u16 va,.int .i8 dg,.int .u16 lo]] W fun e w'=>e=.returned (.agg #[.int .i8 src,.int .i8 dst,.int .i64 disp,.int .i64 imm,.int .i8 cc]) ∧ Below W.heap.size W w':=by
  go_enter Tryz.func123,Tryz.ntmps123
  go_wp2_with fail
  go_region
  all_goals (
    go_wp2_with fail
    refine bodyPost_ret (v:=.agg #[.int .i8 src,.int .i8 dst,.int .i64 disp,.int .i64 imm,.int .i8 cc]) (by simp [results,Tryz.results123,go_sem]) rfl ⟨rfl,?_⟩
    repeat (first | exact Below.refl _ _ | apply Below.drew | apply below_new))
theorem cparts_2 (op wd dst src base disp imm cc at_ va dg lo:Int) (W:World):Calls Tryz.prog 123 #[.agg #[.int .i8 op,.int .i8 wd,.int .i8 dst,.int .i8 src,.int .i8 base,.int .i64 disp,.int .i64 imm,.int .i8 cc],.agg #[.int .i8 2,.int .i8 at_,.int .u16 va,.int .i8 dg,.int .u16 lo]] W fun e w'=>e=.returned (.agg #[.int .i8 dst,.int .i8 src,.int .i64 disp,.int .i64 imm,.int .i8 cc]) ∧ Below W.heap.size W w':=by
  go_enter Tryz.func123,Tryz.ntmps123
  go_wp2_with fail
  go_region
  all_goals (
    go_wp2_with fail
    refine bodyPost_ret (v:=.agg #[.int .i8 dst,.int .i8 src,.int .i64 disp,.int .i64 imm,.int .i8 cc]) (by simp [results,Tryz.results123,go_sem]) rfl ⟨rfl,?_⟩
    repeat (first | exact Below.refl _ _ | apply Below.drew | apply below_new))
theorem cparts_3 (op wd dst src base disp imm cc at_ va dg lo:Int) (W:World):Calls Tryz.prog 123 #[.agg #[.int .i8 op,.int .i8 wd,.int .i8 dst,.int .i8 src,.int .i8 base,.int .i64 disp,.int .i64 imm,.int .i8 cc],.agg #[.int .i8 3,.int .i8 at_,.int .u16 va,.int .i8 dg,.int .u16 lo]] W fun e w'=>e=.returned (.agg #[.int .i8 dg,.int .i8 dst,.int .i64 disp,.int .i64 imm,.int .i8 cc]) ∧ Below W.heap.size W w':=by
  go_enter Tryz.func123,Tryz.ntmps123
  go_wp2_with fail
  go_region
  all_goals (
    go_wp2_with fail
    refine bodyPost_ret (v:=.agg #[.int .i8 dg,.int .i8 dst,.int .i64 disp,.int .i64 imm,.int .i8 cc]) (by simp [results,Tryz.results123,go_sem]) rfl ⟨rfl,?_⟩
    repeat (first | exact Below.refl _ _ | apply Below.drew | apply below_new))
theorem cparts_4 (op wd dst src base disp imm cc at_ va dg lo:Int) (W:World):Calls Tryz.prog 123 #[.agg #[.int .i8 op,.int .i8 wd,.int .i8 dst,.int .i8 src,.int .i8 base,.int .i64 disp,.int .i64 imm,.int .i8 cc],.agg #[.int .i8 4,.int .i8 at_,.int .u16 va,.int .i8 dg,.int .u16 lo]] W fun e w'=>e=.returned (.agg #[.int .i8 dg,.int .i8 dst,.int .i64 disp,.int .i64 imm,.int .i8 cc]) ∧ Below W.heap.size W w':=by
  go_enter Tryz.func123,Tryz.ntmps123
  go_wp2_with fail
  go_region
  all_goals (
    go_wp2_with fail
    refine bodyPost_ret (v:=.agg #[.int .i8 dg,.int .i8 dst,.int .i64 disp,.int .i64 imm,.int .i8 cc]) (by simp [results,Tryz.results123,go_sem]) rfl ⟨rfl,?_⟩
    repeat (first | exact Below.refl _ _ | apply Below.drew | apply below_new))
theorem cparts_5 (op wd dst src base disp imm cc at_ va dg lo:Int) (W:World):Calls Tryz.prog 123 #[.agg #[.int .i8 op,.int .i8 wd,.int .i8 dst,.int .i8 src,.int .i8 base,.int .i64 disp,.int .i64 imm,.int .i8 cc],.agg #[.int .i8 5,.int .i8 at_,.int .u16 va,.int .i8 dg,.int .u16 lo]] W fun e w'=>e=.returned (.agg #[.int .i8 dg,.int .i8 dst,.int .i64 disp,.int .i64 imm,.int .i8 cc]) ∧ Below W.heap.size W w':=by
  go_enter Tryz.func123,Tryz.ntmps123
  go_wp2_with fail
  go_region
  all_goals (
    go_wp2_with fail
    refine bodyPost_ret (v:=.agg #[.int .i8 dg,.int .i8 dst,.int .i64 disp,.int .i64 imm,.int .i8 cc]) (by simp [results,Tryz.results123,go_sem]) rfl ⟨rfl,?_⟩
    repeat (first | exact Below.refl _ _ | apply Below.drew | apply below_new))
theorem cparts_6 (op wd dst src base disp imm cc at_ va dg lo:Int) (W:World):Calls Tryz.prog 123 #[.agg #[.int .i8 op,.int .i8 wd,.int .i8 dst,.int .i8 src,.int .i8 base,.int .i64 disp,.int .i64 imm,.int .i8 cc],.agg #[.int .i8 6,.int .i8 at_,.int .u16 va,.int .i8 dg,.int .u16 lo]] W fun e w'=>e=.returned (.agg #[.int .i8 dg,.int .i8 dst,.int .i64 disp,.int .i64 imm,.int .i8 cc]) ∧ Below W.heap.size W w':=by
  go_enter Tryz.func123,Tryz.ntmps123
  go_wp2_with fail
  go_region
  all_goals (
    go_wp2_with fail
    refine bodyPost_ret (v:=.agg #[.int .i8 dg,.int .i8 dst,.int .i64 disp,.int .i64 imm,.int .i8 cc]) (by simp [results,Tryz.results123,go_sem]) rfl ⟨rfl,?_⟩
    repeat (first | exact Below.refl _ _ | apply Below.drew | apply below_new))
theorem cparts_7 (op wd dst src base disp imm cc at_ va dg lo:Int) (W:World):Calls Tryz.prog 123 #[.agg #[.int .i8 op,.int .i8 wd,.int .i8 dst,.int .i8 src,.int .i8 base,.int .i64 disp,.int .i64 imm,.int .i8 cc],.agg #[.int .i8 7,.int .i8 at_,.int .u16 va,.int .i8 dg,.int .u16 lo]] W fun e w'=>e=.returned (.agg #[.int .i8 dst,.int .i8 base,.int .i64 disp,.int .i64 imm,.int .i8 cc]) ∧ Below W.heap.size W w':=by
  go_enter Tryz.func123,Tryz.ntmps123
  go_wp2_with fail
  go_region
  all_goals (
    go_wp2_with fail
    refine bodyPost_ret (v:=.agg #[.int .i8 dst,.int .i8 base,.int .i64 disp,.int .i64 imm,.int .i8 cc]) (by simp [results,Tryz.results123,go_sem]) rfl ⟨rfl,?_⟩
    repeat (first | exact Below.refl _ _ | apply Below.drew | apply below_new))
theorem cparts_8 (op wd dst src base disp imm cc at_ va dg lo:Int) (W:World):Calls Tryz.prog 123 #[.agg #[.int .i8 op,.int .i8 wd,.int .i8 dst,.int .i8 src,.int .i8 base,.int .i64 disp,.int .i64 imm,.int .i8 cc],.agg #[.int .i8 8,.int .i8 at_,.int .u16 va,.int .i8 dg,.int .u16 lo]] W fun e w'=>e=.returned (.agg #[.int .i8 src,.int .i8 base,.int .i64 disp,.int .i64 imm,.int .i8 cc]) ∧ Below W.heap.size W w':=by
  go_enter Tryz.func123,Tryz.ntmps123
  go_wp2_with fail
  go_region
  all_goals (
    go_wp2_with fail
    refine bodyPost_ret (v:=.agg #[.int .i8 src,.int .i8 base,.int .i64 disp,.int .i64 imm,.int .i8 cc]) (by simp [results,Tryz.results123,go_sem]) rfl ⟨rfl,?_⟩
    repeat (first | exact Below.refl _ _ | apply Below.drew | apply below_new))
theorem cparts_9 (op wd dst src base disp imm cc at_ va dg lo:Int) (W:World):Calls Tryz.prog 123 #[.agg #[.int .i8 op,.int .i8 wd,.int .i8 dst,.int .i8 src,.int .i8 base,.int .i64 disp,.int .i64 imm,.int .i8 cc],.agg #[.int .i8 9,.int .i8 at_,.int .u16 va,.int .i8 dg,.int .u16 lo]] W fun e w'=>e=.returned (.agg #[.int .i8 0,.int .i8 0,.int .i64 disp,.int .i64 imm,.int .i8 cc]) ∧ Below W.heap.size W w':=by
  go_enter Tryz.func123,Tryz.ntmps123
  go_wp2_with fail
  refine bodyPost_ret (v:=.agg #[.int .i8 0,.int .i8 0,.int .i64 disp,.int .i64 imm,.int .i8 cc]) (by simp [results,Tryz.results123,go_sem]) rfl ⟨rfl,?_⟩
  repeat (first | exact Below.refl _ _ | apply Below.drew | apply below_new)
theorem cparts_10 (op wd dst src base disp imm cc at_ va dg lo:Int) (W:World):Calls Tryz.prog 123 #[.agg #[.int .i8 op,.int .i8 wd,.int .i8 dst,.int .i8 src,.int .i8 base,.int .i64 disp,.int .i64 imm,.int .i8 cc],.agg #[.int .i8 10,.int .i8 at_,.int .u16 va,.int .i8 dg,.int .u16 lo]] W fun e w'=>e=.returned (.agg #[.int .i8 0,.int .i8 0,.int .i64 disp,.int .i64 imm,.int .i8 cc]) ∧ Below W.heap.size W w':=by
  go_enter Tryz.func123,Tryz.ntmps123
  go_wp2_with fail
  refine bodyPost_ret (v:=.agg #[.int .i8 0,.int .i8 0,.int .i64 disp,.int .i64 imm,.int .i8 cc]) (by simp [results,Tryz.results123,go_sem]) rfl ⟨rfl,?_⟩
  repeat (first | exact Below.refl _ _ | apply Below.drew | apply below_new)
def allC:List Cd:=codesL ++ (othersL.map (·.2) ++ [zCd])
theorem allC_cases:∀ c ∈ allC,(c.sh=1 ∧ c.lo=0) ∨ (c.sh=3 ∧ c.lo=0) ∨ (c.sh=2 ∧ c.lo=0) ∨ (c.sh=4 ∧ c.lo=0) ∨ (c.sh=5 ∧ c.lo=0) ∨ (c.sh=2 ∧ c.lo=15) ∨ (c.sh=7 ∧ c.lo=0) ∨ (c.sh=8 ∧ c.lo=0) ∨ (c.sh=9 ∧ c.lo=0) ∨ (c.sh=9 ∧ c.lo=15) ∨ (c.sh=0 ∧ c.lo=0) ∨ (c.sh=6 ∧ c.lo=7) ∨ (c.sh=10 ∧ c.lo=0) ∨ (c.sh=10 ∧ c.lo=15):=by decide +kernel
theorem cparts_n (x:Xi) (c:Cd) (hc:c ∈ allC) (W:World):Calls Tryz.prog 123 #[.agg (xC x),.agg #[.int .i8 c.sh,.int .i8 c.wd,.int .u16 c.va,.int .i8 c.dg,.int .u16 c.lo]] W fun e w'=>e=.returned (.agg #[.int .i8 (partsP x c).reg,.int .i8 (partsP x c).rm,.int .i64 (partsP x c).disp,.int .i64 (partsP x c).imm,.int .i8 (partsP x c).cc]) ∧ Below W.heap.size W w':=by
  obtain ⟨op,wd,dst,src,base,disp,imm,cc⟩:=x
  have h:=allC_cases c hc
  obtain ⟨sh,at_,va,dg,lo⟩:=c
  simp only at h
  rcases h with ⟨rfl,rfl⟩ | ⟨rfl,rfl⟩ | ⟨rfl,rfl⟩ | ⟨rfl,rfl⟩ | ⟨rfl,rfl⟩ | ⟨rfl,rfl⟩ | ⟨rfl,rfl⟩ | ⟨rfl,rfl⟩ | ⟨rfl,rfl⟩ | ⟨rfl,rfl⟩ | ⟨rfl,rfl⟩ | ⟨rfl,rfl⟩ | ⟨rfl,rfl⟩ | ⟨rfl,rfl⟩
  · exact cparts_1 op wd dst src base disp imm cc at_ va dg 0 W
  · exact cparts_3 op wd dst src base disp imm cc at_ va dg 0 W
  · exact cparts_2 op wd dst src base disp imm cc at_ va dg 0 W
  · exact cparts_4 op wd dst src base disp imm cc at_ va dg 0 W
  · exact cparts_5 op wd dst src base disp imm cc at_ va dg 0 W
  · exact cparts_2 op wd dst src base disp imm cc at_ va dg 15 W
  · exact cparts_7 op wd dst src base disp imm cc at_ va dg 0 W
  · exact cparts_8 op wd dst src base disp imm cc at_ va dg 0 W
  · exact cparts_9 op wd dst src base disp imm cc at_ va dg 0 W
  · exact cparts_9 op wd dst src base disp imm cc at_ va dg 15 W
  · exact cparts_0 op wd dst src base disp imm cc at_ va dg 0 W
  · exact cparts_6 op wd dst src base disp imm cc at_ va dg 7 W
  · exact cparts_10 op wd dst src base disp imm cc at_ va dg 0 W
  · exact cparts_10 op wd dst src base disp imm cc at_ va dg 15 W
end Go.Proofs.YtbpehbeakhocnaaGreatDoor.Mrm
