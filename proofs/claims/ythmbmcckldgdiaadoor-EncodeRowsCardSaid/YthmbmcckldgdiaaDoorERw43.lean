import Derived.Test.YthmbmcckldgdiaaDoorERw42
set_option linter.unusedVariables false
set_option linter.unusedSimpArgs false
set_option linter.unnecessarySimpa false
namespace Go.Proofs.YthmbmcckldgdiaaDoor.Mrm
open Go Go.RowKit Mdl
set_option linter.unusedVariables false
set_option linter.unusedSimpArgs false
set_option linter.unnecessarySimpa false
set_option maxRecDepth 100000
theorem sgn_n4 {v:Int} (h:fourB v=true):sgn (numL v 4)=v:=by
  unfold fourB at h
  simp only [Bool.and_eq_true,decide_eq_true_eq] at h
  rw [numL4]
  show sgV 4 (getI (fun i=>[v % 256,v / 256 % 256,v / 65536 % 256,v / 16777216 % 256].getD i 0) 4)=v
  simp only [getI,List.getD_cons_zero,List.getD_cons_succ,List.getD_eq_getElem?_getD]
  unfold sgV
  simp
  split <;> omega
theorem sgn_n1 {v:Int} (h:-128 ≤ v ∧ v < 128):sgn (numL v 1)=v:=by
  have e:numL v 1=[v % 256]:=by show [v / 2 ^ (8 * 0) % 256]=_;simp
  rw [e]
  show sgV 1 (getI (fun i=>[v % 256].getD i 0) 1)=v
  simp only [getI,List.getD_cons_zero]
  unfold sgV
  simp
  split <;> omega
theorem numL_size (v:Int):∀ k:Nat,(numL v k).length=k:=by intro k;simp [numL]
theorem take_num (v:Int) (k:Nat) (t:List Int):(numL v k ++ t).take k=numL v k:=by
  have h:=List.take_left (l₁:=numL v k) (l₂:=t)
  rw [numL_size] at h
  exact h
theorem back8 {r:Int} (g0:0 ≤ r) (g1:r < 16):bits .or .i8 (r % 8) (r / 8 * 8)=r:=by
  rw [or8 (by omega) (by omega) (by omega)]
  omega
theorem back0 {r:Int} (g0:0 ≤ r) (g1:r < 8):bits .or .i8 0 (r / 8 * 8)=0:=by
  rw [or8 (by omega) (by omega) (by omega)]
  omega
theorem reg_read {r m:Int} (R:List Int):rgF (opI 192 r m :: R)=r % 8 ∧ rmF (opI 192 r m :: R)=m % 8 ∧ dF (opI 192 r m :: R)=0 ∧ nF (opI 192 r m :: R)=1:=by
  have h:regOk (opI 192 r m :: R)=true:=by unfold regOk opI;simp only [List.getD_cons_zero,decide_eq_true_eq];omega
  unfold rgF rmF dF nF
  simp only [h,if_true,List.getD_cons_zero]
  unfold opI
  refine ⟨by omega,by omega,trivial,trivial⟩
theorem mem_read {r m d:Int} (h:fourB d=true) (R:List Int):rgF (memL r m d ++ R)=r % 8 ∧ rmF (memL r m d ++ R)=m % 8 ∧ dF (memL r m d ++ R)=d:=by
  have e:memL r m d ++ R=opI 128 r m :: (midL m ++ (numL d 4 ++ R)):=by unfold memL;simp
  rw [e]
  have h0:regOk (opI 128 r m :: (midL m ++ (numL d 4 ++ R)))=false:=by unfold regOk opI;simp only [List.getD_cons_zero,decide_eq_false_iff_not];omega
  have h3:opI 128 r m % 8=m % 8:=by unfold opI;omega
  have h1:memG (opI 128 r m :: (midL m ++ (numL d 4 ++ R)))=true:=by
    unfold memG
    rw [Bool.and_eq_true]
    refine ⟨by unfold opI;simp only [List.getD_cons_zero,decide_eq_true_eq];omega,memOk_iff.2 ⟨by unfold opI;simp only [List.getD_cons_zero];omega,?_,?_⟩⟩
    · simp only [List.getD_cons_zero,List.length_cons,List.length_append,numL_size]
      unfold atN midL
      rw [h3]
      split <;> simp <;> omega
    · simp only [List.getD_cons_zero,h3]
      intro h4
      unfold midL
      rw [if_pos h4]
      rfl
  unfold rgF rmF dF
  simp only [h0,h1,if_true,if_false,List.getD_cons_zero,Bool.false_eq_true]
  refine ⟨by unfold opI;omega,h3,?_⟩
  unfold atN midL
  rw [h3]
  split
  · show sgn ((numL d 4 ++ R).take 4)=d
    rw [take_num,sgn_n4 h]
  · show sgn ((numL d 4 ++ R).take 4)=d
    rw [take_num,sgn_n4 h]
theorem allOps_in {y:Int × Cd} (h:y ∈ allOps):y.2 ∈ allC:=by
  obtain ⟨k,hk,rfl⟩:=List.getElem_of_mem h
  have:=allOps_allC ⟨k,by rw [← allOps_len];exact hk⟩
  rw [List.getD_eq_getElem?_getD,List.getElem?_eq_getElem hk] at this
  exact this
theorem dg_bd:∀ y ∈ allOps,0 ≤ y.2.dg ∧ y.2.dg < 8 ∧ (y.2.sh=6 → y.2.dg=0):=by decide +kernel
theorem pt_eq {a b c d e a' b' c' d' e':Int} (h1:a=a') (h2:b=b') (h3:c=c') (h4:d=d') (h5:e=e'):(⟨a,b,c,d,e⟩:Pt)=⟨a',b',c',d',e'⟩:=by rw [h1,h2,h3,h4,h5]
theorem imm_0 (t:List Int) (v:Int) (h:v=0):sgn ((numL v 0 ++ t).take 0)=v:=by rw [h];rfl
theorem imm_4 (t:List Int) (v:Int) (h:fourB v=true):sgn ((numL v 4 ++ t).take 4)=v:=by rw [take_num,sgn_n4 h]
theorem imm_1 (t:List Int) (v:Int) (h:-128 ≤ v ∧ v < 128):sgn ((numL v 1 ++ t).take 1)=v:=by rw [take_num,sgn_n1 h]
theorem key_1_0 (op w dst src base disp imm cc at_ va dg:Int) (t:List Int) (wd:Bool) (src0:0 ≤ src) (src1:src < 16) (dst0:0 ≤ dst) (dst1:dst < 16) (hD:disp=0) (hI:imm=0) (hC:cc=0) (v0:0 ≤ (valQ ⟨1,at_,va,dg,0⟩ cc (dst % 8))) (v1:(valQ ⟨1,at_,va,dg,0⟩ cc (dst % 8)) < 65536):
    partsF ⟨wd,src / 8 * 8,dst / 8 * 8,(valQ ⟨1,at_,va,dg,0⟩ cc (dst % 8)),operandP (⟨1,at_,va,dg,0⟩:Cd) (partsP (⟨op,w,dst,src,base,disp,imm,cc⟩:Xi) (⟨1,at_,va,dg,0⟩:Cd)) ++ (immP (⟨1,at_,va,dg,0⟩:Cd) (partsP (⟨op,w,dst,src,base,disp,imm,cc⟩:Xi) (⟨1,at_,va,dg,0⟩:Cd)) ++ t)⟩ (⟨1,at_,va,dg,0⟩:Cd)=partsP (⟨op,w,dst,src,base,disp,imm,cc⟩:Xi) (⟨1,at_,va,dg,0⟩:Cd):=by
  generalize hvq:(valQ ⟨1,at_,va,dg,0⟩ cc (dst % 8))=v at *
  obtain ⟨q1,q2,q3,q4⟩:=reg_read (r:=src) (m:=dst) (numL imm 0 ++ t)
  refine pt_eq (show bits .or .i8 (rgF (opI 192 src dst :: (numL imm 0 ++ t))) (src / 8 * 8)=src from by rw [q1];exact back8 (by omega) (by omega)) (show bits .or .i8 (rmF (opI 192 src dst :: (numL imm 0 ++ t))) (dst / 8 * 8)=dst from by rw [q2];exact back8 (by omega) (by omega)) (show dF (opI 192 src dst :: (numL imm 0 ++ t))=disp from by rw [q3,hD]) (show sgn (((opI 192 src dst :: (numL imm 0 ++ t)).drop (nF (opI 192 src dst :: (numL imm 0 ++ t)))).take 0)=imm from by rw [q4];exact imm_0 t imm hI) hC.symm
theorem key_3_0 (op w dst src base disp imm cc at_ va dg:Int) (t:List Int) (wd:Bool) (dst0:0 ≤ dst) (dst1:dst < 16) (dg0:0 ≤ dg) (dg1:dg < 8) (hD:disp=0) (hI:fourB imm=true) (hC:cc=0) (v0:0 ≤ (valQ ⟨3,at_,va,dg,0⟩ cc (dst % 8))) (v1:(valQ ⟨3,at_,va,dg,0⟩ cc (dst % 8)) < 65536):
    partsF ⟨wd,dg / 8 * 8,dst / 8 * 8,(valQ ⟨3,at_,va,dg,0⟩ cc (dst % 8)),operandP (⟨3,at_,va,dg,0⟩:Cd) (partsP (⟨op,w,dst,src,base,disp,imm,cc⟩:Xi) (⟨3,at_,va,dg,0⟩:Cd)) ++ (immP (⟨3,at_,va,dg,0⟩:Cd) (partsP (⟨op,w,dst,src,base,disp,imm,cc⟩:Xi) (⟨3,at_,va,dg,0⟩:Cd)) ++ t)⟩ (⟨3,at_,va,dg,0⟩:Cd)=partsP (⟨op,w,dst,src,base,disp,imm,cc⟩:Xi) (⟨3,at_,va,dg,0⟩:Cd):=by
  generalize hvq:(valQ ⟨3,at_,va,dg,0⟩ cc (dst % 8))=v at *
  obtain ⟨q1,q2,q3,q4⟩:=reg_read (r:=dg) (m:=dst) (numL imm 4 ++ t)
  refine pt_eq (show bits .or .i8 (rgF (opI 192 dg dst :: (numL imm 4 ++ t))) (dg / 8 * 8)=dg from by rw [q1];exact back8 (by omega) (by omega)) (show bits .or .i8 (rmF (opI 192 dg dst :: (numL imm 4 ++ t))) (dst / 8 * 8)=dst from by rw [q2];exact back8 (by omega) (by omega)) (show dF (opI 192 dg dst :: (numL imm 4 ++ t))=disp from by rw [q3,hD]) (show sgn (((opI 192 dg dst :: (numL imm 4 ++ t)).drop (nF (opI 192 dg dst :: (numL imm 4 ++ t)))).take 4)=imm from by rw [q4];exact imm_4 t imm hI) hC.symm
theorem key_2_0 (op w dst src base disp imm cc at_ va dg:Int) (t:List Int) (wd:Bool) (dst0:0 ≤ dst) (dst1:dst < 16) (src0:0 ≤ src) (src1:src < 16) (hD:disp=0) (hI:imm=0) (hC:cc=0) (v0:0 ≤ (valQ ⟨2,at_,va,dg,0⟩ cc (src % 8))) (v1:(valQ ⟨2,at_,va,dg,0⟩ cc (src % 8)) < 65536):
    partsF ⟨wd,dst / 8 * 8,src / 8 * 8,(valQ ⟨2,at_,va,dg,0⟩ cc (src % 8)),operandP (⟨2,at_,va,dg,0⟩:Cd) (partsP (⟨op,w,dst,src,base,disp,imm,cc⟩:Xi) (⟨2,at_,va,dg,0⟩:Cd)) ++ (immP (⟨2,at_,va,dg,0⟩:Cd) (partsP (⟨op,w,dst,src,base,disp,imm,cc⟩:Xi) (⟨2,at_,va,dg,0⟩:Cd)) ++ t)⟩ (⟨2,at_,va,dg,0⟩:Cd)=partsP (⟨op,w,dst,src,base,disp,imm,cc⟩:Xi) (⟨2,at_,va,dg,0⟩:Cd):=by
  generalize hvq:(valQ ⟨2,at_,va,dg,0⟩ cc (src % 8))=v at *
  obtain ⟨q1,q2,q3,q4⟩:=reg_read (r:=dst) (m:=src) (numL imm 0 ++ t)
  refine pt_eq (show bits .or .i8 (rgF (opI 192 dst src :: (numL imm 0 ++ t))) (dst / 8 * 8)=dst from by rw [q1];exact back8 (by omega) (by omega)) (show bits .or .i8 (rmF (opI 192 dst src :: (numL imm 0 ++ t))) (src / 8 * 8)=src from by rw [q2];exact back8 (by omega) (by omega)) (show dF (opI 192 dst src :: (numL imm 0 ++ t))=disp from by rw [q3,hD]) (show sgn (((opI 192 dst src :: (numL imm 0 ++ t)).drop (nF (opI 192 dst src :: (numL imm 0 ++ t)))).take 0)=imm from by rw [q4];exact imm_0 t imm hI) hC.symm
theorem key_4_0 (op w dst src base disp imm cc at_ va dg:Int) (t:List Int) (wd:Bool) (dst0:0 ≤ dst) (dst1:dst < 16) (dg0:0 ≤ dg) (dg1:dg < 8) (hD:disp=0) (hI:-128 ≤ imm ∧ imm < 128) (hC:cc=0) (v0:0 ≤ (valQ ⟨4,at_,va,dg,0⟩ cc (dst % 8))) (v1:(valQ ⟨4,at_,va,dg,0⟩ cc (dst % 8)) < 65536):
    partsF ⟨wd,dg / 8 * 8,dst / 8 * 8,(valQ ⟨4,at_,va,dg,0⟩ cc (dst % 8)),operandP (⟨4,at_,va,dg,0⟩:Cd) (partsP (⟨op,w,dst,src,base,disp,imm,cc⟩:Xi) (⟨4,at_,va,dg,0⟩:Cd)) ++ (immP (⟨4,at_,va,dg,0⟩:Cd) (partsP (⟨op,w,dst,src,base,disp,imm,cc⟩:Xi) (⟨4,at_,va,dg,0⟩:Cd)) ++ t)⟩ (⟨4,at_,va,dg,0⟩:Cd)=partsP (⟨op,w,dst,src,base,disp,imm,cc⟩:Xi) (⟨4,at_,va,dg,0⟩:Cd):=by
  generalize hvq:(valQ ⟨4,at_,va,dg,0⟩ cc (dst % 8))=v at *
  obtain ⟨q1,q2,q3,q4⟩:=reg_read (r:=dg) (m:=dst) (numL imm 1 ++ t)
  refine pt_eq (show bits .or .i8 (rgF (opI 192 dg dst :: (numL imm 1 ++ t))) (dg / 8 * 8)=dg from by rw [q1];exact back8 (by omega) (by omega)) (show bits .or .i8 (rmF (opI 192 dg dst :: (numL imm 1 ++ t))) (dst / 8 * 8)=dst from by rw [q2];exact back8 (by omega) (by omega)) (show dF (opI 192 dg dst :: (numL imm 1 ++ t))=disp from by rw [q3,hD]) (show sgn (((opI 192 dg dst :: (numL imm 1 ++ t)).drop (nF (opI 192 dg dst :: (numL imm 1 ++ t)))).take 1)=imm from by rw [q4];exact imm_1 t imm hI) hC.symm
theorem key_5_0 (op w dst src base disp imm cc at_ va dg:Int) (t:List Int) (wd:Bool) (dst0:0 ≤ dst) (dst1:dst < 16) (dg0:0 ≤ dg) (dg1:dg < 8) (hD:disp=0) (hI:imm=0) (hC:cc=0) (v0:0 ≤ (valQ ⟨5,at_,va,dg,0⟩ cc (dst % 8))) (v1:(valQ ⟨5,at_,va,dg,0⟩ cc (dst % 8)) < 65536):
    partsF ⟨wd,dg / 8 * 8,dst / 8 * 8,(valQ ⟨5,at_,va,dg,0⟩ cc (dst % 8)),operandP (⟨5,at_,va,dg,0⟩:Cd) (partsP (⟨op,w,dst,src,base,disp,imm,cc⟩:Xi) (⟨5,at_,va,dg,0⟩:Cd)) ++ (immP (⟨5,at_,va,dg,0⟩:Cd) (partsP (⟨op,w,dst,src,base,disp,imm,cc⟩:Xi) (⟨5,at_,va,dg,0⟩:Cd)) ++ t)⟩ (⟨5,at_,va,dg,0⟩:Cd)=partsP (⟨op,w,dst,src,base,disp,imm,cc⟩:Xi) (⟨5,at_,va,dg,0⟩:Cd):=by
  generalize hvq:(valQ ⟨5,at_,va,dg,0⟩ cc (dst % 8))=v at *
  obtain ⟨q1,q2,q3,q4⟩:=reg_read (r:=dg) (m:=dst) (numL imm 0 ++ t)
  refine pt_eq (show bits .or .i8 (rgF (opI 192 dg dst :: (numL imm 0 ++ t))) (dg / 8 * 8)=dg from by rw [q1];exact back8 (by omega) (by omega)) (show bits .or .i8 (rmF (opI 192 dg dst :: (numL imm 0 ++ t))) (dst / 8 * 8)=dst from by rw [q2];exact back8 (by omega) (by omega)) (show dF (opI 192 dg dst :: (numL imm 0 ++ t))=disp from by rw [q3,hD]) (show sgn (((opI 192 dg dst :: (numL imm 0 ++ t)).drop (nF (opI 192 dg dst :: (numL imm 0 ++ t)))).take 0)=imm from by rw [q4];exact imm_0 t imm hI) hC.symm
theorem key_2_15 (op w dst src base disp imm cc at_ va dg:Int) (t:List Int) (wd:Bool) (dst0:0 ≤ dst) (dst1:dst < 16) (src0:0 ≤ src) (src1:src < 16) (hD:disp=0) (hI:imm=0) (v0:0 ≤ (valQ ⟨2,at_,va,dg,15⟩ cc (src % 8))) (v1:(valQ ⟨2,at_,va,dg,15⟩ cc (src % 8)) < 65536) (hv:(valQ ⟨2,at_,va,dg,15⟩ cc (src % 8)) % 16=cc):
    partsF ⟨wd,dst / 8 * 8,src / 8 * 8,(valQ ⟨2,at_,va,dg,15⟩ cc (src % 8)),operandP (⟨2,at_,va,dg,15⟩:Cd) (partsP (⟨op,w,dst,src,base,disp,imm,cc⟩:Xi) (⟨2,at_,va,dg,15⟩:Cd)) ++ (immP (⟨2,at_,va,dg,15⟩:Cd) (partsP (⟨op,w,dst,src,base,disp,imm,cc⟩:Xi) (⟨2,at_,va,dg,15⟩:Cd)) ++ t)⟩ (⟨2,at_,va,dg,15⟩:Cd)=partsP (⟨op,w,dst,src,base,disp,imm,cc⟩:Xi) (⟨2,at_,va,dg,15⟩:Cd):=by
  generalize hvq:(valQ ⟨2,at_,va,dg,15⟩ cc (src % 8))=v at *
  obtain ⟨q1,q2,q3,q4⟩:=reg_read (r:=dst) (m:=src) (numL imm 0 ++ t)
  refine pt_eq (show bits .or .i8 (rgF (opI 192 dst src :: (numL imm 0 ++ t))) (dst / 8 * 8)=dst from by rw [q1];exact back8 (by omega) (by omega)) (show bits .or .i8 (rmF (opI 192 dst src :: (numL imm 0 ++ t))) (src / 8 * 8)=src from by rw [q2];exact back8 (by omega) (by omega)) (show dF (opI 192 dst src :: (numL imm 0 ++ t))=disp from by rw [q3,hD]) (show sgn (((opI 192 dst src :: (numL imm 0 ++ t)).drop (nF (opI 192 dst src :: (numL imm 0 ++ t)))).take 0)=imm from by rw [q4];exact imm_0 t imm hI) (show IntKind.i8.wrap (bits .and .u16 v 15)=cc from by rw [(and16 v0 v1).2,hv];exact i8s (by omega) (by omega))
theorem key_7_0 (op w dst src base disp imm cc at_ va dg:Int) (t:List Int) (wd:Bool) (dst0:0 ≤ dst) (dst1:dst < 16) (base0:0 ≤ base) (base1:base < 16) (hD:fourB disp=true) (hI:imm=0) (hC:cc=0) (v0:0 ≤ (valQ ⟨7,at_,va,dg,0⟩ cc (base % 8))) (v1:(valQ ⟨7,at_,va,dg,0⟩ cc (base % 8)) < 65536):
    partsF ⟨wd,dst / 8 * 8,base / 8 * 8,(valQ ⟨7,at_,va,dg,0⟩ cc (base % 8)),operandP (⟨7,at_,va,dg,0⟩:Cd) (partsP (⟨op,w,dst,src,base,disp,imm,cc⟩:Xi) (⟨7,at_,va,dg,0⟩:Cd)) ++ (immP (⟨7,at_,va,dg,0⟩:Cd) (partsP (⟨op,w,dst,src,base,disp,imm,cc⟩:Xi) (⟨7,at_,va,dg,0⟩:Cd)) ++ t)⟩ (⟨7,at_,va,dg,0⟩:Cd)=partsP (⟨op,w,dst,src,base,disp,imm,cc⟩:Xi) (⟨7,at_,va,dg,0⟩:Cd):=by
  generalize hvq:(valQ ⟨7,at_,va,dg,0⟩ cc (base % 8))=v at *
  obtain ⟨q1,q2,q3⟩:=mem_read (r:=dst) (m:=base) hD (numL imm 0 ++ t)
  refine pt_eq (show bits .or .i8 (rgF (memL dst base disp ++ (numL imm 0 ++ t))) (dst / 8 * 8)=dst from by rw [q1];exact back8 (by omega) (by omega)) (show bits .or .i8 (rmF (memL dst base disp ++ (numL imm 0 ++ t))) (base / 8 * 8)=base from by rw [q2];exact back8 (by omega) (by omega)) (show dF (memL dst base disp ++ (numL imm 0 ++ t))=disp from q3) (show sgn (List.take 0 _)=imm from by rw [hI];rfl) hC.symm
theorem key_8_0 (op w dst src base disp imm cc at_ va dg:Int) (t:List Int) (wd:Bool) (src0:0 ≤ src) (src1:src < 16) (base0:0 ≤ base) (base1:base < 16) (hD:fourB disp=true) (hI:imm=0) (hC:cc=0) (v0:0 ≤ (valQ ⟨8,at_,va,dg,0⟩ cc (base % 8))) (v1:(valQ ⟨8,at_,va,dg,0⟩ cc (base % 8)) < 65536):
    partsF ⟨wd,src / 8 * 8,base / 8 * 8,(valQ ⟨8,at_,va,dg,0⟩ cc (base % 8)),operandP (⟨8,at_,va,dg,0⟩:Cd) (partsP (⟨op,w,dst,src,base,disp,imm,cc⟩:Xi) (⟨8,at_,va,dg,0⟩:Cd)) ++ (immP (⟨8,at_,va,dg,0⟩:Cd) (partsP (⟨op,w,dst,src,base,disp,imm,cc⟩:Xi) (⟨8,at_,va,dg,0⟩:Cd)) ++ t)⟩ (⟨8,at_,va,dg,0⟩:Cd)=partsP (⟨op,w,dst,src,base,disp,imm,cc⟩:Xi) (⟨8,at_,va,dg,0⟩:Cd):=by
  generalize hvq:(valQ ⟨8,at_,va,dg,0⟩ cc (base % 8))=v at *
  obtain ⟨q1,q2,q3⟩:=mem_read (r:=src) (m:=base) hD (numL imm 0 ++ t)
  refine pt_eq (show bits .or .i8 (rgF (memL src base disp ++ (numL imm 0 ++ t))) (src / 8 * 8)=src from by rw [q1];exact back8 (by omega) (by omega)) (show bits .or .i8 (rmF (memL src base disp ++ (numL imm 0 ++ t))) (base / 8 * 8)=base from by rw [q2];exact back8 (by omega) (by omega)) (show dF (memL src base disp ++ (numL imm 0 ++ t))=disp from q3) (show sgn (List.take 0 _)=imm from by rw [hI];rfl) hC.symm
theorem key_9_0 (op w dst src base disp imm cc at_ va dg:Int) (t:List Int) (wd:Bool) (hD:disp=0) (hI:fourB imm=true) (hC:cc=0) (v0:0 ≤ (valQ ⟨9,at_,va,dg,0⟩ cc (0 % 8))) (v1:(valQ ⟨9,at_,va,dg,0⟩ cc (0 % 8)) < 65536):
    partsF ⟨wd,0 / 8 * 8,0 / 8 * 8,(valQ ⟨9,at_,va,dg,0⟩ cc (0 % 8)),operandP (⟨9,at_,va,dg,0⟩:Cd) (partsP (⟨op,w,dst,src,base,disp,imm,cc⟩:Xi) (⟨9,at_,va,dg,0⟩:Cd)) ++ (immP (⟨9,at_,va,dg,0⟩:Cd) (partsP (⟨op,w,dst,src,base,disp,imm,cc⟩:Xi) (⟨9,at_,va,dg,0⟩:Cd)) ++ t)⟩ (⟨9,at_,va,dg,0⟩:Cd)=partsP (⟨op,w,dst,src,base,disp,imm,cc⟩:Xi) (⟨9,at_,va,dg,0⟩:Cd):=by
  generalize hvq:(valQ ⟨9,at_,va,dg,0⟩ cc (0 % 8))=v at *
  refine pt_eq (show bits .or .i8 0 (0 / 8 * 8)=0 from back0 (by decide) (by decide)) (show bits .or .i8 0 (0 / 8 * 8)=0 from back0 (by decide) (by decide)) hD.symm (show sgn ((numL imm 4 ++ t).take 4)=imm from imm_4 t imm hI) hC.symm
theorem key_9_15 (op w dst src base disp imm cc at_ va dg:Int) (t:List Int) (wd:Bool) (hD:disp=0) (hI:fourB imm=true) (v0:0 ≤ (valQ ⟨9,at_,va,dg,15⟩ cc (0 % 8))) (v1:(valQ ⟨9,at_,va,dg,15⟩ cc (0 % 8)) < 65536) (hv:(valQ ⟨9,at_,va,dg,15⟩ cc (0 % 8)) % 16=cc):
    partsF ⟨wd,0 / 8 * 8,0 / 8 * 8,(valQ ⟨9,at_,va,dg,15⟩ cc (0 % 8)),operandP (⟨9,at_,va,dg,15⟩:Cd) (partsP (⟨op,w,dst,src,base,disp,imm,cc⟩:Xi) (⟨9,at_,va,dg,15⟩:Cd)) ++ (immP (⟨9,at_,va,dg,15⟩:Cd) (partsP (⟨op,w,dst,src,base,disp,imm,cc⟩:Xi) (⟨9,at_,va,dg,15⟩:Cd)) ++ t)⟩ (⟨9,at_,va,dg,15⟩:Cd)=partsP (⟨op,w,dst,src,base,disp,imm,cc⟩:Xi) (⟨9,at_,va,dg,15⟩:Cd):=by
  generalize hvq:(valQ ⟨9,at_,va,dg,15⟩ cc (0 % 8))=v at *
  refine pt_eq (show bits .or .i8 0 (0 / 8 * 8)=0 from back0 (by decide) (by decide)) (show bits .or .i8 0 (0 / 8 * 8)=0 from back0 (by decide) (by decide)) hD.symm (show sgn ((numL imm 4 ++ t).take 4)=imm from imm_4 t imm hI) (show IntKind.i8.wrap (bits .and .u16 v 15)=cc from by rw [(and16 v0 v1).2,hv];exact i8s (by omega) (by omega))
theorem key_0_0 (op w dst src base disp imm cc at_ va dg:Int) (t:List Int) (wd:Bool) (hD:disp=0) (hI:imm=0) (hC:cc=0) (v0:0 ≤ (valQ ⟨0,at_,va,dg,0⟩ cc (0 % 8))) (v1:(valQ ⟨0,at_,va,dg,0⟩ cc (0 % 8)) < 65536):
    partsF ⟨wd,0 / 8 * 8,0 / 8 * 8,(valQ ⟨0,at_,va,dg,0⟩ cc (0 % 8)),operandP (⟨0,at_,va,dg,0⟩:Cd) (partsP (⟨op,w,dst,src,base,disp,imm,cc⟩:Xi) (⟨0,at_,va,dg,0⟩:Cd)) ++ (immP (⟨0,at_,va,dg,0⟩:Cd) (partsP (⟨op,w,dst,src,base,disp,imm,cc⟩:Xi) (⟨0,at_,va,dg,0⟩:Cd)) ++ t)⟩ (⟨0,at_,va,dg,0⟩:Cd)=partsP (⟨op,w,dst,src,base,disp,imm,cc⟩:Xi) (⟨0,at_,va,dg,0⟩:Cd):=by
  generalize hvq:(valQ ⟨0,at_,va,dg,0⟩ cc (0 % 8))=v at *
  refine pt_eq (show bits .or .i8 0 (0 / 8 * 8)=0 from back0 (by decide) (by decide)) (show bits .or .i8 0 (0 / 8 * 8)=0 from back0 (by decide) (by decide)) hD.symm (show sgn ((numL imm 0 ++ t).take 0)=imm from imm_0 t imm hI) hC.symm
theorem key_6_7 (op w dst src base disp imm cc at_ va dg:Int) (t:List Int) (wd:Bool) (dst0:0 ≤ dst) (dst1:dst < 16) (dg0:0 ≤ dg) (dg1:dg < 8) (hD:disp=0) (hI:fourB imm=true) (hC:cc=0) (v0:0 ≤ (valQ ⟨6,at_,va,dg,7⟩ cc (dst % 8))) (v1:(valQ ⟨6,at_,va,dg,7⟩ cc (dst % 8)) < 65536) (hv:(valQ ⟨6,at_,va,dg,7⟩ cc (dst % 8)) % 8=dst % 8) (hdg:dg=0):
    partsF ⟨wd,dg / 8 * 8,dst / 8 * 8,(valQ ⟨6,at_,va,dg,7⟩ cc (dst % 8)),operandP (⟨6,at_,va,dg,7⟩:Cd) (partsP (⟨op,w,dst,src,base,disp,imm,cc⟩:Xi) (⟨6,at_,va,dg,7⟩:Cd)) ++ (immP (⟨6,at_,va,dg,7⟩:Cd) (partsP (⟨op,w,dst,src,base,disp,imm,cc⟩:Xi) (⟨6,at_,va,dg,7⟩:Cd)) ++ t)⟩ (⟨6,at_,va,dg,7⟩:Cd)=partsP (⟨op,w,dst,src,base,disp,imm,cc⟩:Xi) (⟨6,at_,va,dg,7⟩:Cd):=by
  generalize hvq:(valQ ⟨6,at_,va,dg,7⟩ cc (dst % 8))=v at *
  subst hdg
  refine pt_eq (show bits .or .i8 0 (0 / 8 * 8)=0 from back0 (by decide) (by decide)) (show bits .or .i8 (IntKind.i8.wrap (bits .and .u16 v 7)) (dst / 8 * 8)=dst from by rw [(and16 v0 v1).1,hv,i8s (by omega) (by omega)];exact back8 dst0 dst1) hD.symm (show sgn ((numL imm 4 ++ t).take 4)=imm from imm_4 t imm hI) hC.symm
theorem key_10_0 (op w dst src base disp imm cc at_ va dg:Int) (t:List Int) (wd:Bool) (hD:disp=0) (hI:-128 ≤ imm ∧ imm < 128) (hC:cc=0) (v0:0 ≤ (valQ ⟨10,at_,va,dg,0⟩ cc (0 % 8))) (v1:(valQ ⟨10,at_,va,dg,0⟩ cc (0 % 8)) < 65536):
    partsF ⟨wd,0 / 8 * 8,0 / 8 * 8,(valQ ⟨10,at_,va,dg,0⟩ cc (0 % 8)),operandP (⟨10,at_,va,dg,0⟩:Cd) (partsP (⟨op,w,dst,src,base,disp,imm,cc⟩:Xi) (⟨10,at_,va,dg,0⟩:Cd)) ++ (immP (⟨10,at_,va,dg,0⟩:Cd) (partsP (⟨op,w,dst,src,base,disp,imm,cc⟩:Xi) (⟨10,at_,va,dg,0⟩:Cd)) ++ t)⟩ (⟨10,at_,va,dg,0⟩:Cd)=partsP (⟨op,w,dst,src,base,disp,imm,cc⟩:Xi) (⟨10,at_,va,dg,0⟩:Cd):=by
  generalize hvq:(valQ ⟨10,at_,va,dg,0⟩ cc (0 % 8))=v at *
  refine pt_eq (show bits .or .i8 0 (0 / 8 * 8)=0 from back0 (by decide) (by decide)) (show bits .or .i8 0 (0 / 8 * 8)=0 from back0 (by decide) (by decide)) hD.symm (show sgn ((numL imm 1 ++ t).take 1)=imm from imm_1 t imm hI) hC.symm
theorem key_10_15 (op w dst src base disp imm cc at_ va dg:Int) (t:List Int) (wd:Bool) (hD:disp=0) (hI:-128 ≤ imm ∧ imm < 128) (v0:0 ≤ (valQ ⟨10,at_,va,dg,15⟩ cc (0 % 8))) (v1:(valQ ⟨10,at_,va,dg,15⟩ cc (0 % 8)) < 65536) (hv:(valQ ⟨10,at_,va,dg,15⟩ cc (0 % 8)) % 16=cc):
    partsF ⟨wd,0 / 8 * 8,0 / 8 * 8,(valQ ⟨10,at_,va,dg,15⟩ cc (0 % 8)),operandP (⟨10,at_,va,dg,15⟩:Cd) (partsP (⟨op,w,dst,src,base,disp,imm,cc⟩:Xi) (⟨10,at_,va,dg,15⟩:Cd)) ++ (immP (⟨10,at_,va,dg,15⟩:Cd) (partsP (⟨op,w,dst,src,base,disp,imm,cc⟩:Xi) (⟨10,at_,va,dg,15⟩:Cd)) ++ t)⟩ (⟨10,at_,va,dg,15⟩:Cd)=partsP (⟨op,w,dst,src,base,disp,imm,cc⟩:Xi) (⟨10,at_,va,dg,15⟩:Cd):=by
  generalize hvq:(valQ ⟨10,at_,va,dg,15⟩ cc (0 % 8))=v at *
  refine pt_eq (show bits .or .i8 0 (0 / 8 * 8)=0 from back0 (by decide) (by decide)) (show bits .or .i8 0 (0 / 8 * 8)=0 from back0 (by decide) (by decide)) hD.symm (show sgn ((numL imm 1 ++ t).take 1)=imm from imm_1 t imm hI) (show IntKind.i8.wrap (bits .and .u16 v 15)=cc from by rw [(and16 v0 v1).2,hv];exact i8s (by omega) (by omega))
end Go.Proofs.YthmbmcckldgdiaaDoor.Mrm
namespace Go.Proofs.YthmbmcckldgdiaaDoor.Mrm
open Go Go.RowKit Mdl
set_option linter.unusedVariables false
set_option linter.unusedSimpArgs false
set_option linter.unnecessarySimpa false
set_option maxRecDepth 100000
theorem has_width {c:Cd} {w:Int} (h:hasB c w=true):w ∈ widthsL:=by
  unfold hasB at h
  cases hc:c.wd == 0
  · rw [hc,cond_false,Bool.and_eq_true] at h
    have h1:=h.1
    unfold widB at h1
    simp only [Bool.or_eq_true,beq_iff_eq] at h1
    simp only [widthsL,List.mem_cons,List.not_mem_nil,or_false]
    omega
  · rw [hc,cond_true,beq_iff_eq] at h
    rw [h]
    exact List.mem_cons_self ..
theorem va_bd:∀ y ∈ allOps,0 ≤ y.2.va ∧ y.2.va < 65000:=by decide +kernel
theorem valQ_bd {y:Int × Cd} (h:y ∈ allOps) {cc r:Int} (c0:0 ≤ cc) (c1:cc < 16) (r0:0 ≤ r) (r1:r < 8):0 ≤ valQ y.2 cc r ∧ valQ y.2 cc r < 65536:=by
  have:=va_bd y h
  unfold valQ
  cases y.2.lo == 15 <;> cases y.2.sh == 6 <;> simp only [cond_true,cond_false] <;> omega
theorem front_more {y:Int × Cd} (h:y ∈ allOps) {cc r:Int} (c0:0 ≤ cc) (c1:cc < 16) (r0:0 ≤ r) (r1:r < 8):isF (valQ y.2 cc r) y.2=true ∧ (y.2.lo=15 → valQ y.2 cc r % 16=cc) ∧ (y.2.sh=6 → valQ y.2 cc r % 8=r):=by
  have f:=front_is h c0 c1 r0 r1
  unfold frontB at f
  rw [Bool.and_eq_true] at f
  have f2:=f.2
  rw [Bool.and_eq_true,Bool.and_eq_true] at f2
  refine ⟨f2.1,fun e=>?_,fun e=>?_⟩
  · have:=f2.2.1
    rw [show (y.2.lo == 15)=true from by rw [e];rfl] at this
    simpa using this
  · have:=f2.2.2
    rw [show (y.2.sh == 6)=true from by rw [e];rfl] at this
    simpa using this
theorem cand_of {x:Xi} {c:Cd} (t:List Int) (hmem:(x.op,c) ∈ allOps) (hhas:hasB c x.w=true) (hx:x=filledP x.op x.w c (partsP x c)) (g0:0 ≤ (partsP x c).reg) (g1:(partsP x c).reg < 16) (m0:0 ≤ (partsP x c).rm) (m1:(partsP x c).rm < 16) (c0:0 ≤ (partsP x c).cc) (c1:(partsP x c).cc < 16)
    (key:partsF ⟨x.w == 64,(partsP x c).reg / 8 * 8,(partsP x c).rm / 8 * 8,valQ c (partsP x c).cc ((partsP x c).rm % 8),operandP c (partsP x c) ++ (immP c (partsP x c) ++ t)⟩ c=partsP x c):x ∈ cands (encP x.w c (partsP x c) ++ t):=by
  have hf:=find_enc (w:=x.w) hmem g0 g1 m0 m1 c0 c1 t
  have hi:=(front_more hmem c0 c1 (show 0 ≤ (partsP x c).rm % 8 by omega) (by omega)).1
  unfold cands
  rw [hf]
  refine List.mem_flatMap.2 ⟨(x.op,c),hmem,?_⟩
  unfold candC
  rw [if_pos hi]
  refine List.mem_flatMap.2 ⟨x.w,has_width hhas,?_⟩
  unfold candW
  simp only [key]
  rw [if_pos ⟨hhas,trivial,by rw [← hx]⟩,← hx]
  exact List.mem_singleton.2 rfl
theorem cand_mem {x:Xi} (hX:XOk x) (hm:mayX x=true) (t:List Int):x ∈ cands (bytesX x ++ t):=by
  have e:=encX_is x hX hm
  have hmp:mayP x=true:=by rw [mayP_is];exact hm
  unfold mayP at hmp
  rw [Bool.and_eq_true,Bool.and_eq_true] at hmp
  obtain ⟨h1,h2,h3⟩:=hmp
  obtain ⟨hmem,hhas⟩:=code_mem h1
  rw [← e]
  unfold encX
  clear e h1 hX hm
  generalize (codeOfP x.op x.w).1=c at *
  have hx:=eqX_iff.1 h2
  clear h2
  have hwd:=has_width hhas
  have hall:=allC_cases c (allOps_in hmem)
  obtain ⟨dgl,dgh,dg6⟩:=dg_bd _ hmem
  unfold fitsP at h3
  simp only [Bool.and_eq_true] at h3
  obtain ⟨r1,r2,r3,r4,r5⟩:=h3
  rw [regB_iff] at r1 r2 r3
  obtain ⟨op,w,dst,src,base,disp,imm,cc⟩:=x
  obtain ⟨sh,at_,va,dg,lo⟩:=c
  simp only at hall r1 r2 r3 dgl dgh dg6
  simp only [widthsL,List.mem_cons,List.not_mem_nil,or_false] at hwd
  rcases hall with ⟨rfl,rfl⟩ | ⟨rfl,rfl⟩ | ⟨rfl,rfl⟩ | ⟨rfl,rfl⟩ | ⟨rfl,rfl⟩ | ⟨rfl,rfl⟩ | ⟨rfl,rfl⟩ | ⟨rfl,rfl⟩ | ⟨rfl,rfl⟩ | ⟨rfl,rfl⟩ | ⟨rfl,rfl⟩ | ⟨rfl,rfl⟩ | ⟨rfl,rfl⟩ | ⟨rfl,rfl⟩
  · have hx:(⟨op,w,dst,src,base,disp,imm,cc⟩:Xi)=⟨op,w,dst,src,0,0,0,0⟩:=hx
    have hx0:=hx
    simp only [Xi.mk.injEq,true_and,and_true] at hx
    have hcc:0 ≤ cc ∧ cc < 16:=by omega
    have r5:(fourB imm && fourB disp)=true:=r5
    rw [Bool.and_eq_true] at r5
    have vb:=valQ_bd hmem hcc.1 hcc.2 (show 0 ≤ dst % 8 by omega) (by omega)
    have vm:=front_more hmem hcc.1 hcc.2 (show 0 ≤ dst % 8 by omega) (by omega)
    exact cand_of t hmem hhas hx0 (show 0 ≤ src by omega) (show src < 16 by omega) (show 0 ≤ dst by omega) (show dst < 16 by omega) hcc.1 hcc.2 (key_1_0 op w dst src base disp imm cc at_ va dg t (w == 64) (by omega) (by omega) (by omega) (by omega) (by omega) (by omega) (by omega) vb.1 vb.2)
  · have hx:(⟨op,w,dst,src,base,disp,imm,cc⟩:Xi)=⟨op,w,dst,0,0,0,imm,0⟩:=hx
    have hx0:=hx
    simp only [Xi.mk.injEq,true_and,and_true] at hx
    have hcc:0 ≤ cc ∧ cc < 16:=by omega
    have r5:(fourB imm && fourB disp)=true:=r5
    rw [Bool.and_eq_true] at r5
    have vb:=valQ_bd hmem hcc.1 hcc.2 (show 0 ≤ dst % 8 by omega) (by omega)
    have vm:=front_more hmem hcc.1 hcc.2 (show 0 ≤ dst % 8 by omega) (by omega)
    exact cand_of t hmem hhas hx0 (show 0 ≤ dg by omega) (show dg < 16 by omega) (show 0 ≤ dst by omega) (show dst < 16 by omega) hcc.1 hcc.2 (key_3_0 op w dst src base disp imm cc at_ va dg t (w == 64) (by omega) (by omega) dgl dgh (by omega) r5.1 (by omega) vb.1 vb.2)
  · have hx:(⟨op,w,dst,src,base,disp,imm,cc⟩:Xi)=⟨op,w,dst,src,0,0,0,0⟩:=hx
    have hx0:=hx
    simp only [Xi.mk.injEq,true_and,and_true] at hx
    have hcc:0 ≤ cc ∧ cc < 16:=by omega
    have r5:(fourB imm && fourB disp)=true:=r5
    rw [Bool.and_eq_true] at r5
    have vb:=valQ_bd hmem hcc.1 hcc.2 (show 0 ≤ src % 8 by omega) (by omega)
    have vm:=front_more hmem hcc.1 hcc.2 (show 0 ≤ src % 8 by omega) (by omega)
    exact cand_of t hmem hhas hx0 (show 0 ≤ dst by omega) (show dst < 16 by omega) (show 0 ≤ src by omega) (show src < 16 by omega) hcc.1 hcc.2 (key_2_0 op w dst src base disp imm cc at_ va dg t (w == 64) (by omega) (by omega) (by omega) (by omega) (by omega) (by omega) (by omega) vb.1 vb.2)
  · have hx:(⟨op,w,dst,src,base,disp,imm,cc⟩:Xi)=⟨op,w,dst,0,0,0,imm,0⟩:=hx
    have hx0:=hx
    simp only [Xi.mk.injEq,true_and,and_true] at hx
    have hcc:0 ≤ cc ∧ cc < 16:=by omega
    have r5:(decide (0 ≤ imm) && decide (imm < w))=true:=r5
    simp only [Bool.and_eq_true,decide_eq_true_eq] at r5
    have vb:=valQ_bd hmem hcc.1 hcc.2 (show 0 ≤ dst % 8 by omega) (by omega)
    have vm:=front_more hmem hcc.1 hcc.2 (show 0 ≤ dst % 8 by omega) (by omega)
    exact cand_of t hmem hhas hx0 (show 0 ≤ dg by omega) (show dg < 16 by omega) (show 0 ≤ dst by omega) (show dst < 16 by omega) hcc.1 hcc.2 (key_4_0 op w dst src base disp imm cc at_ va dg t (w == 64) (by omega) (by omega) dgl dgh (by omega) (by omega) (by omega) vb.1 vb.2)
  · have hx:(⟨op,w,dst,src,base,disp,imm,cc⟩:Xi)=⟨op,w,dst,0,0,0,0,0⟩:=hx
    have hx0:=hx
    simp only [Xi.mk.injEq,true_and,and_true] at hx
    have hcc:0 ≤ cc ∧ cc < 16:=by omega
    have r5:(fourB imm && fourB disp)=true:=r5
    rw [Bool.and_eq_true] at r5
    have vb:=valQ_bd hmem hcc.1 hcc.2 (show 0 ≤ dst % 8 by omega) (by omega)
    have vm:=front_more hmem hcc.1 hcc.2 (show 0 ≤ dst % 8 by omega) (by omega)
    exact cand_of t hmem hhas hx0 (show 0 ≤ dg by omega) (show dg < 16 by omega) (show 0 ≤ dst by omega) (show dst < 16 by omega) hcc.1 hcc.2 (key_5_0 op w dst src base disp imm cc at_ va dg t (w == 64) (by omega) (by omega) dgl dgh (by omega) (by omega) (by omega) vb.1 vb.2)
  · have hx:(⟨op,w,dst,src,base,disp,imm,cc⟩:Xi)=⟨op,w,dst,src,0,0,0,cc⟩:=hx
    have hx0:=hx
    simp only [Xi.mk.injEq,true_and,and_true] at hx
    have hcc:0 ≤ cc ∧ cc < 16:=by
      have r4:(!(true && !(ccB cc)))=true:=r4
      simp only [Bool.true_and,Bool.not_not] at r4
      unfold ccB at r4
      simp only [Bool.or_eq_true,Bool.and_eq_true,decide_eq_true_eq] at r4
      omega
    have r5:(fourB imm && fourB disp)=true:=r5
    rw [Bool.and_eq_true] at r5
    have vb:=valQ_bd hmem hcc.1 hcc.2 (show 0 ≤ src % 8 by omega) (by omega)
    have vm:=front_more hmem hcc.1 hcc.2 (show 0 ≤ src % 8 by omega) (by omega)
    exact cand_of t hmem hhas hx0 (show 0 ≤ dst by omega) (show dst < 16 by omega) (show 0 ≤ src by omega) (show src < 16 by omega) hcc.1 hcc.2 (key_2_15 op w dst src base disp imm cc at_ va dg t (w == 64) (by omega) (by omega) (by omega) (by omega) (by omega) (by omega) vb.1 vb.2 (vm.2.1 rfl))
  · have hx:(⟨op,w,dst,src,base,disp,imm,cc⟩:Xi)=⟨op,w,dst,0,base,disp,0,0⟩:=hx
    have hx0:=hx
    simp only [Xi.mk.injEq,true_and,and_true] at hx
    have hcc:0 ≤ cc ∧ cc < 16:=by omega
    have r5:(fourB imm && fourB disp)=true:=r5
    rw [Bool.and_eq_true] at r5
    have vb:=valQ_bd hmem hcc.1 hcc.2 (show 0 ≤ base % 8 by omega) (by omega)
    have vm:=front_more hmem hcc.1 hcc.2 (show 0 ≤ base % 8 by omega) (by omega)
    exact cand_of t hmem hhas hx0 (show 0 ≤ dst by omega) (show dst < 16 by omega) (show 0 ≤ base by omega) (show base < 16 by omega) hcc.1 hcc.2 (key_7_0 op w dst src base disp imm cc at_ va dg t (w == 64) (by omega) (by omega) (by omega) (by omega) r5.2 (by omega) (by omega) vb.1 vb.2)
  · have hx:(⟨op,w,dst,src,base,disp,imm,cc⟩:Xi)=⟨op,w,0,src,base,disp,0,0⟩:=hx
    have hx0:=hx
    simp only [Xi.mk.injEq,true_and,and_true] at hx
    have hcc:0 ≤ cc ∧ cc < 16:=by omega
    have r5:(fourB imm && fourB disp)=true:=r5
    rw [Bool.and_eq_true] at r5
    have vb:=valQ_bd hmem hcc.1 hcc.2 (show 0 ≤ base % 8 by omega) (by omega)
    have vm:=front_more hmem hcc.1 hcc.2 (show 0 ≤ base % 8 by omega) (by omega)
    exact cand_of t hmem hhas hx0 (show 0 ≤ src by omega) (show src < 16 by omega) (show 0 ≤ base by omega) (show base < 16 by omega) hcc.1 hcc.2 (key_8_0 op w dst src base disp imm cc at_ va dg t (w == 64) (by omega) (by omega) (by omega) (by omega) r5.2 (by omega) (by omega) vb.1 vb.2)
  · have hx:(⟨op,w,dst,src,base,disp,imm,cc⟩:Xi)=⟨op,w,0,0,0,0,imm,0⟩:=hx
    have hx0:=hx
    simp only [Xi.mk.injEq,true_and,and_true] at hx
    have hcc:0 ≤ cc ∧ cc < 16:=by omega
    have r5:(fourB imm && fourB disp)=true:=r5
    rw [Bool.and_eq_true] at r5
    have vb:=valQ_bd hmem hcc.1 hcc.2 (show 0 ≤ 0 % 8 by omega) (by omega)
    have vm:=front_more hmem hcc.1 hcc.2 (show 0 ≤ 0 % 8 by omega) (by omega)
    exact cand_of t hmem hhas hx0 (show 0 ≤ 0 by omega) (show 0 < 16 by omega) (show 0 ≤ 0 by omega) (show 0 < 16 by omega) hcc.1 hcc.2 (key_9_0 op w dst src base disp imm cc at_ va dg t (w == 64) (by omega) r5.1 (by omega) vb.1 vb.2)
  · have hx:(⟨op,w,dst,src,base,disp,imm,cc⟩:Xi)=⟨op,w,0,0,0,0,imm,cc⟩:=hx
    have hx0:=hx
    simp only [Xi.mk.injEq,true_and,and_true] at hx
    have hcc:0 ≤ cc ∧ cc < 16:=by
      have r4:(!(true && !(ccB cc)))=true:=r4
      simp only [Bool.true_and,Bool.not_not] at r4
      unfold ccB at r4
      simp only [Bool.or_eq_true,Bool.and_eq_true,decide_eq_true_eq] at r4
      omega
    have r5:(fourB imm && fourB disp)=true:=r5
    rw [Bool.and_eq_true] at r5
    have vb:=valQ_bd hmem hcc.1 hcc.2 (show 0 ≤ 0 % 8 by omega) (by omega)
    have vm:=front_more hmem hcc.1 hcc.2 (show 0 ≤ 0 % 8 by omega) (by omega)
    exact cand_of t hmem hhas hx0 (show 0 ≤ 0 by omega) (show 0 < 16 by omega) (show 0 ≤ 0 by omega) (show 0 < 16 by omega) hcc.1 hcc.2 (key_9_15 op w dst src base disp imm cc at_ va dg t (w == 64) (by omega) r5.1 vb.1 vb.2 (vm.2.1 rfl))
  · have hx:(⟨op,w,dst,src,base,disp,imm,cc⟩:Xi)=⟨op,w,0,0,0,0,0,0⟩:=hx
    have hx0:=hx
    simp only [Xi.mk.injEq,true_and,and_true] at hx
    have hcc:0 ≤ cc ∧ cc < 16:=by omega
    have r5:(fourB imm && fourB disp)=true:=r5
    rw [Bool.and_eq_true] at r5
    have vb:=valQ_bd hmem hcc.1 hcc.2 (show 0 ≤ 0 % 8 by omega) (by omega)
    have vm:=front_more hmem hcc.1 hcc.2 (show 0 ≤ 0 % 8 by omega) (by omega)
    exact cand_of t hmem hhas hx0 (show 0 ≤ 0 by omega) (show 0 < 16 by omega) (show 0 ≤ 0 by omega) (show 0 < 16 by omega) hcc.1 hcc.2 (key_0_0 op w dst src base disp imm cc at_ va dg t (w == 64) (by omega) (by omega) (by omega) vb.1 vb.2)
  · have hx:(⟨op,w,dst,src,base,disp,imm,cc⟩:Xi)=⟨op,w,dst,0,0,0,imm,0⟩:=hx
    have hx0:=hx
    simp only [Xi.mk.injEq,true_and,and_true] at hx
    have hcc:0 ≤ cc ∧ cc < 16:=by omega
    have r5:(fourB imm && fourB disp)=true:=r5
    rw [Bool.and_eq_true] at r5
    have vb:=valQ_bd hmem hcc.1 hcc.2 (show 0 ≤ dst % 8 by omega) (by omega)
    have vm:=front_more hmem hcc.1 hcc.2 (show 0 ≤ dst % 8 by omega) (by omega)
    exact cand_of t hmem hhas hx0 (show 0 ≤ dg by omega) (show dg < 16 by omega) (show 0 ≤ dst by omega) (show dst < 16 by omega) hcc.1 hcc.2 (key_6_7 op w dst src base disp imm cc at_ va dg t (w == 64) (by omega) (by omega) dgl dgh (by omega) r5.1 (by omega) vb.1 vb.2 (vm.2.2 rfl) (dg6 rfl))
  · have hx:(⟨op,w,dst,src,base,disp,imm,cc⟩:Xi)=⟨op,w,0,0,0,0,imm,0⟩:=hx
    have hx0:=hx
    simp only [Xi.mk.injEq,true_and,and_true] at hx
    have hcc:0 ≤ cc ∧ cc < 16:=by omega
    have r5:oneB imm=true:=r5
    unfold oneB at r5
    simp only [Bool.and_eq_true,decide_eq_true_eq] at r5
    have vb:=valQ_bd hmem hcc.1 hcc.2 (show 0 ≤ 0 % 8 by omega) (by omega)
    have vm:=front_more hmem hcc.1 hcc.2 (show 0 ≤ 0 % 8 by omega) (by omega)
    exact cand_of t hmem hhas hx0 (show 0 ≤ 0 by omega) (show 0 < 16 by omega) (show 0 ≤ 0 by omega) (show 0 < 16 by omega) hcc.1 hcc.2 (key_10_0 op w dst src base disp imm cc at_ va dg t (w == 64) (by omega) r5 (by omega) vb.1 vb.2)
  · have hx:(⟨op,w,dst,src,base,disp,imm,cc⟩:Xi)=⟨op,w,0,0,0,0,imm,cc⟩:=hx
    have hx0:=hx
    simp only [Xi.mk.injEq,true_and,and_true] at hx
    have hcc:0 ≤ cc ∧ cc < 16:=by
      have r4:(!(true && !(ccB cc)))=true:=r4
      simp only [Bool.true_and,Bool.not_not] at r4
      unfold ccB at r4
      simp only [Bool.or_eq_true,Bool.and_eq_true,decide_eq_true_eq] at r4
      omega
    have r5:oneB imm=true:=r5
    unfold oneB at r5
    simp only [Bool.and_eq_true,decide_eq_true_eq] at r5
    have vb:=valQ_bd hmem hcc.1 hcc.2 (show 0 ≤ 0 % 8 by omega) (by omega)
    have vm:=front_more hmem hcc.1 hcc.2 (show 0 ≤ 0 % 8 by omega) (by omega)
    exact cand_of t hmem hhas hx0 (show 0 ≤ 0 by omega) (show 0 < 16 by omega) (show 0 ≤ 0 by omega) (show 0 < 16 by omega) hcc.1 hcc.2 (key_10_15 op w dst src base disp imm cc at_ va dg t (w == 64) (by omega) r5 vb.1 vb.2 (vm.2.1 rfl))
theorem readX_own {x:Xi} (hX:XOk x) (hm:mayX x=true) {t:List Int} (hz:Oks (bytesX x ++ t)):readX (bytesX x ++ t)=some x:=by
  have hc:=cand_mem hX hm t
  have hok:okX (bytesX x ++ t) x=true:=by
    unfold okX
    rw [hm,Bool.true_and,decide_eq_true_eq]
    exact List.take_left
  unfold readX
  cases hf:(cands (bytesX x ++ t)).find? (okX (bytesX x ++ t)) with
  | none=>exact absurd hok (by rw [List.find?_eq_none] at hf;exact hf x hc)
  | some y=>
    have h1:=List.find?_some hf
    have h2:=cands_ok hz y (List.mem_of_find?_eq_some hf)
    unfold okX at h1
    rw [Bool.and_eq_true,decide_eq_true_eq] at h1
    have e:bytesX y ++ (bytesX x ++ t).drop (bytesX y).length=bytesX x ++ t:=by
      conv=>lhs;lhs;rw [← h1.2]
      exact List.take_append_drop _ _
    rw [bytes_apart h2 hX h1.1 hm e]
theorem readX_some {zs:List Int} {x:Xi} (hz:Oks zs) (h:readX zs=some x):XOk x ∧ mayX x=true ∧ zs.take (bytesX x).length=bytesX x:=by
  have h1:=List.find?_some h
  unfold okX at h1
  rw [Bool.and_eq_true,decide_eq_true_eq] at h1
  exact ⟨cands_ok hz x (List.mem_of_find?_eq_some h),h1.1,h1.2⟩
end Go.Proofs.YthmbmcckldgdiaaDoor.Mrm
