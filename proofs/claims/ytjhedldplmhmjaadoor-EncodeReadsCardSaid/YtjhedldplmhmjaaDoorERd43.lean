import Derived.Test.YtjhedldplmhmjaaDoorERd42
set_option linter.unusedVariables false
set_option linter.unusedSimpArgs false
set_option linter.unnecessarySimpa false
namespace Go.Proofs.YtjhedldplmhmjaaDoor.Mrm
open Go Go.RowKit Mdl
set_option linter.unusedVariables false
set_option linter.unusedSimpArgs false
set_option linter.unnecessarySimpa false
set_option maxRecDepth 100000
def valQ (c:Cd) (cc rm8:Int):Int:=bif c.lo == 15 then c.va + cc else bif c.sh == 6 then c.va + rm8 else c.va
def frontB (c:Cd) (cc rm8:Int):Bool:=
  (decide (valQ c cc rm8 / 256 % 256=0) && (decide (valQ c cc rm8 % 256 ≠ 102) && (!rexB (valQ c cc rm8 % 256) && (decide (valQ c cc rm8 % 256 ≠ 15) && decide (valQ c cc rm8 % 256=valQ c cc rm8)))) || decide (valQ c cc rm8 / 256 % 256=15) && decide (3840 + valQ c cc rm8 % 256=valQ c cc rm8)) &&
  (isF (valQ c cc rm8) c && ((!(c.lo == 15) || decide (valQ c cc rm8 % 16=cc)) && (!(c.sh == 6) || decide (valQ c cc rm8 % 8=rm8))))
theorem front_fin:∀ k:Fin 38,∀ cc:Fin 16,∀ r:Fin 8,frontB (allOps.getD k.1 (0,zCd)).2 cc.1 r.1=true:=by decide +kernel
theorem front_is {y:Int × Cd} (h:y ∈ allOps) {cc r:Int} (c0:0 ≤ cc) (c1:cc < 16) (r0:0 ≤ r) (r1:r < 8):frontB y.2 cc r=true:=by
  obtain ⟨k,hk,rfl⟩:=List.getElem_of_mem h
  have:=front_fin ⟨k,by rw [← allOps_len];exact hk⟩ ⟨cc.toNat,by omega⟩ ⟨r.toNat,by omega⟩
  simp only [Int.toNat_of_nonneg c0,Int.toNat_of_nonneg r0] at this
  rw [List.getD_eq_getElem?_getD,List.getElem?_eq_getElem hk] at this
  exact this
theorem rexq_fin (wd:Bool):∀ r m:Fin 16,rexB (rexI wd r.1 m.1)=true ∧ wB (rexI wd r.1 m.1)=wd ∧ hiI (rexI wd r.1 m.1) 4=(r.1:Int) / 8 * 8 ∧ hiI (rexI wd r.1 m.1) 1=(m.1:Int) / 8 * 8 ∧ rexI wd r.1 m.1 ≠ 102:=by
  cases wd <;> decide +kernel
theorem rexq (wd:Bool) {r m:Int} (r0:0 ≤ r) (r1:r < 16) (m0:0 ≤ m) (m1:m < 16):rexB (rexI wd r m)=true ∧ wB (rexI wd r m)=wd ∧ hiI (rexI wd r m) 4=r / 8 * 8 ∧ hiI (rexI wd r m) 1=m / 8 * 8 ∧ rexI wd r m ≠ 102:=by
  have:=rexq_fin wd ⟨r.toNat,by omega⟩ ⟨m.toNat,by omega⟩
  simp only [Int.toNat_of_nonneg r0,Int.toNat_of_nonneg m0] at this
  exact this
theorem mem_lo (k:Nat) (h:k < 32):((k:Int),codeA (k:Int)) ∈ allOps:=by
  unfold allOps
  exact List.mem_append_left _ (List.mem_map.2 ⟨k,List.mem_range.2 h,rfl⟩)
theorem others_sub:∀ o ∈ othersL,o ∈ allOps:=by decide +kernel
theorem code_mem {op w:Int} (h:(codeOfP op w).2=true):(op,(codeOfP op w).1) ∈ allOps ∧ hasB (codeOfP op w).1 w=true:=by
  unfold codeOfP at *
  split at h
  · cases h
  rename_i ho
  rw [if_neg ho]
  split at h
  · rename_i hh
    rw [if_pos hh]
    refine ⟨?_,hh⟩
    have q:=mem_lo op.toNat (by omega)
    rw [Int.toNat_of_nonneg (by omega)] at q
    exact q
  · rename_i hh
    rw [if_neg hh]
    cases hf:othersL.find? (fun o=>o.1 == op && hasB o.2 w) with
    | none=>rw [hf] at h;cases h
    | some o=>
      have h1:=List.mem_of_find?_eq_some hf
      have h2:=List.find?_some hf
      simp only [Bool.and_eq_true,beq_iff_eq] at h2
      obtain ⟨rfl,h2⟩:=h2
      exact ⟨others_sub o h1,h2⟩
end Go.Proofs.YtjhedldplmhmjaaDoor.Mrm
namespace Go.Proofs.YtjhedldplmhmjaaDoor.Mrm
open Go Go.RowKit Mdl
set_option linter.unusedVariables false
set_option linter.unusedSimpArgs false
set_option linter.unnecessarySimpa false
set_option maxRecDepth 100000
def codeL (v:Int) (R:List Int):List Int:=((bif v / 256 % 256 != 0 then [v / 256 % 256] else []) ++ [v % 256]) ++ R
theorem codeL_is {y:Int × Cd} (h:y ∈ allOps) {cc r:Int} (c0:0 ≤ cc) (c1:cc < 16) (r0:0 ≤ r) (r1:r < 8) (R:List Int):
    (codeL (valQ y.2 cc r) R).headD 0 ≠ 102 ∧ rexB ((codeL (valQ y.2 cc r) R).headD 0)=false ∧ (∀ q,endF q (stripC (codeL (valQ y.2 cc r) R))=some ⟨q.1,q.2.1,q.2.2.1,valQ y.2 cc r,R⟩):=by
  have f:=front_is h c0 c1 r0 r1
  unfold frontB at f
  generalize valQ y.2 cc r=v at *
  rw [Bool.and_eq_true] at f
  have f1:=f.1
  clear f
  unfold codeL
  simp only [Bool.or_eq_true,Bool.and_eq_true,decide_eq_true_eq,Bool.not_eq_true'] at f1
  rcases f1 with ⟨e,n1,n2,n3,n4⟩ | ⟨e,n4⟩
  · rw [e]
    refine ⟨n1,n2,fun q=>?_⟩
    show endF q (stripC (v % 256 :: R))=_
    rw [stripC_no R n3,endF_some,Int.zero_add,n4]
  · rw [e]
    refine ⟨by show (15:Int) ≠ 102;decide,by show rexB 15=false;decide,fun q=>?_⟩
    show endF q (stripC (15 :: v % 256 :: R))=_
    rw [stripC_15,endF_some,n4]
theorem findR_made {y:Int × Cd} (h:y ∈ allOps) {cc r:Int} (c0:0 ≤ cc) (c1:cc < 16) (r0:0 ≤ r) (r1:r < 8) (R:List Int) (wd rex:Bool) {reg rm:Int} (g0:0 ≤ reg) (g1:reg < 16) (m0:0 ≤ rm) (m1:rm < 16)
    (hr:rex=false → wd=false ∧ reg < 8 ∧ rm < 8):
    findR ((bif rex then [rexI wd reg rm] else []) ++ codeL (valQ y.2 cc r) R)=some ⟨wd,reg / 8 * 8,rm / 8 * 8,valQ y.2 cc r,R⟩ ∧ ((bif rex then [rexI wd reg rm] else []) ++ codeL (valQ y.2 cc r) R).headD 0 ≠ 102:=by
  obtain ⟨a1,a2,a3⟩:=codeL_is h c0 c1 r0 r1 R
  obtain ⟨b1,b2,b3,b4,b5⟩:=rexq wd g0 g1 m0 m1
  cases rex with
  | true=>
    refine ⟨?_,b5⟩
    show findR (rexI wd reg rm :: codeL _ R)=_
    rw [findR_rex _ b1,a3,b2,b3,b4]
  | false=>
    obtain ⟨rfl,h8,h9⟩:=hr rfl
    refine ⟨?_,a1⟩
    show findR (codeL _ R)=_
    unfold findR stripQ
    rw [if_neg (by rw [a2];decide)]
    rw [a3,show reg / 8 * 8=0 by omega,show rm / 8 * 8=0 by omega]
theorem findP_made {y:Int × Cd} (h:y ∈ allOps) {cc r:Int} (c0:0 ≤ cc) (c1:cc < 16) (r0:0 ≤ r) (r1:r < 8) (R:List Int) (half wd rex:Bool) {reg rm:Int} (g0:0 ≤ reg) (g1:reg < 16) (m0:0 ≤ rm) (m1:rm < 16)
    (hr:rex=false → wd=false ∧ reg < 8 ∧ rm < 8):
    findP ((bif half then [102] else []) ++ ((bif rex then [rexI wd reg rm] else []) ++ codeL (valQ y.2 cc r) R))=some ⟨wd,reg / 8 * 8,rm / 8 * 8,valQ y.2 cc r,R⟩:=by
  obtain ⟨e1,e2⟩:=findR_made h c0 c1 r0 r1 R wd rex g0 g1 m0 m1 hr
  cases half with
  | true=>exact e1
  | false=>
    show findR (stripH (_:List Int)).2=_
    unfold stripH
    rw [cond_false,List.nil_append,if_neg e2]
    exact e1
theorem encP_split (w:Int) (c:Cd) (p:Pt) (t:List Int):encP w c p ++ t=(bif halfP w c then [102] else []) ++ ((bif rexP w c p then [rexI (w == 64) p.reg p.rm] else []) ++ codeL (valQ c p.cc (p.rm % 8)) (operandP c p ++ (immP c p ++ t))):=by
  have e:valP c p=valQ c p.cc (p.rm % 8):=rfl
  unfold encP aheadP codeL
  rw [e]
  simp only [List.append_assoc]
theorem find_enc {op w:Int} {c:Cd} {p:Pt} (h:(op,c) ∈ allOps) (g0:0 ≤ p.reg) (g1:p.reg < 16) (m0:0 ≤ p.rm) (m1:p.rm < 16) (c0:0 ≤ p.cc) (c1:p.cc < 16) (t:List Int):
    findP (encP w c p ++ t)=some ⟨w == 64,p.reg / 8 * 8,p.rm / 8 * 8,valQ c p.cc (p.rm % 8),operandP c p ++ (immP c p ++ t)⟩:=by
  rw [encP_split]
  refine findP_made (y:=(op,c)) h c0 c1 (by omega) (by omega) _ _ _ _ g0 g1 m0 m1 (fun hr=>?_)
  unfold rexP at hr
  simp only [Bool.or_eq_false_iff] at hr
  refine ⟨hr.2.1,?_⟩
  have hn:=hr.2.2
  unfold needB at hn
  rw [bothB_iff.2 ⟨⟨g0,g1⟩,m0,m1⟩,Bool.true_and] at hn
  simp only [Bool.or_eq_false_iff,decide_eq_false_iff_not] at hn
  omega
end Go.Proofs.YtjhedldplmhmjaaDoor.Mrm
namespace Go.Proofs.YtjhedldplmhmjaaDoor.Mrm
open Go Go.RowKit Mdl
set_option linter.unusedVariables false
set_option linter.unusedSimpArgs false
set_option linter.unnecessarySimpa false
set_option maxRecDepth 100000
theorem sgn_n4 {v:Int} (h:fourB v=true):sgn (numL v 4)=v:=by
  unfold fourB at h
  simp only [Bool.and_eq_true,decide_eq_true_eq] at h
  rw [numL4]
  show sgV 4 (getI (fun i=>[v % 256,v / 256 % 256,v / 65536 % 256,v / 16777216 % 256].getD i 0) 4)=v
  simp only [getI,List.getD_cons_zero,List.getD_cons_succ,List.getD_eq_getElem?_getD]
  unfold sgV
  simp
  split <;> omega
theorem sgn_n1 {v:Int} (h:-128 ≤ v ∧ v < 128):sgn (numL v 1)=v:=by
  have e:numL v 1=[v % 256]:=by show [v / 2 ^ (8 * 0) % 256]=_;simp
  rw [e]
  show sgV 1 (getI (fun i=>[v % 256].getD i 0) 1)=v
  simp only [getI,List.getD_cons_zero]
  unfold sgV
  simp
  split <;> omega
theorem numL_size (v:Int):∀ k:Nat,(numL v k).length=k:=by intro k;simp [numL]
theorem take_num (v:Int) (k:Nat) (t:List Int):(numL v k ++ t).take k=numL v k:=by
  have h:=List.take_left (l₁:=numL v k) (l₂:=t)
  rw [numL_size] at h
  exact h
theorem back8 {r:Int} (g0:0 ≤ r) (g1:r < 16):bits .or .i8 (r % 8) (r / 8 * 8)=r:=by
  rw [or8 (by omega) (by omega) (by omega)]
  omega
theorem back0 {r:Int} (g0:0 ≤ r) (g1:r < 8):bits .or .i8 0 (r / 8 * 8)=0:=by
  rw [or8 (by omega) (by omega) (by omega)]
  omega
theorem reg_read {r m:Int} (R:List Int):rgF (opI 192 r m :: R)=r % 8 ∧ rmF (opI 192 r m :: R)=m % 8 ∧ dF (opI 192 r m :: R)=0 ∧ nF (opI 192 r m :: R)=1:=by
  have h:regOk (opI 192 r m :: R)=true:=by unfold regOk opI;simp only [List.getD_cons_zero,decide_eq_true_eq];omega
  unfold rgF rmF dF nF
  simp only [h,if_true,List.getD_cons_zero]
  unfold opI
  refine ⟨by omega,by omega,trivial,trivial⟩
theorem mem_read {r m d:Int} (h:fourB d=true) (R:List Int):rgF (memL r m d ++ R)=r % 8 ∧ rmF (memL r m d ++ R)=m % 8 ∧ dF (memL r m d ++ R)=d:=by
  have e:memL r m d ++ R=opI 128 r m :: (midL m ++ (numL d 4 ++ R)):=by unfold memL;simp
  rw [e]
  have h0:regOk (opI 128 r m :: (midL m ++ (numL d 4 ++ R)))=false:=by unfold regOk opI;simp only [List.getD_cons_zero,decide_eq_false_iff_not];omega
  have h3:opI 128 r m % 8=m % 8:=by unfold opI;omega
  have h1:memG (opI 128 r m :: (midL m ++ (numL d 4 ++ R)))=true:=by
    unfold memG
    rw [Bool.and_eq_true]
    refine ⟨by unfold opI;simp only [List.getD_cons_zero,decide_eq_true_eq];omega,memOk_iff.2 ⟨by unfold opI;simp only [List.getD_cons_zero];omega,?_,?_⟩⟩
    · simp only [List.getD_cons_zero,List.length_cons,List.length_append,numL_size]
      unfold atN midL
      rw [h3]
      split <;> simp <;> omega
    · simp only [List.getD_cons_zero,h3]
      intro h4
      unfold midL
      rw [if_pos h4]
      rfl
  unfold rgF rmF dF
  simp only [h0,h1,if_true,if_false,List.getD_cons_zero,Bool.false_eq_true]
  refine ⟨by unfold opI;omega,h3,?_⟩
  unfold atN midL
  rw [h3]
  split
  · show sgn ((numL d 4 ++ R).take 4)=d
    rw [take_num,sgn_n4 h]
  · show sgn ((numL d 4 ++ R).take 4)=d
    rw [take_num,sgn_n4 h]
theorem allOps_in {y:Int × Cd} (h:y ∈ allOps):y.2 ∈ allC:=by
  obtain ⟨k,hk,rfl⟩:=List.getElem_of_mem h
  have:=allOps_allC ⟨k,by rw [← allOps_len];exact hk⟩
  rw [List.getD_eq_getElem?_getD,List.getElem?_eq_getElem hk] at this
  exact this
theorem dg_bd:∀ y ∈ allOps,0 ≤ y.2.dg ∧ y.2.dg < 8 ∧ (y.2.sh=6 → y.2.dg=0):=by decide +kernel
theorem pt_eq {a b c d e a' b' c' d' e':Int} (h1:a=a') (h2:b=b') (h3:c=c') (h4:d=d') (h5:e=e'):(⟨a,b,c,d,e⟩:Pt)=⟨a',b',c',d',e'⟩:=by rw [h1,h2,h3,h4,h5]
theorem imm_0 (t:List Int) (v:Int) (h:v=0):sgn ((numL v 0 ++ t).take 0)=v:=by rw [h];rfl
theorem imm_4 (t:List Int) (v:Int) (h:fourB v=true):sgn ((numL v 4 ++ t).take 4)=v:=by rw [take_num,sgn_n4 h]
theorem imm_1 (t:List Int) (v:Int) (h:-128 ≤ v ∧ v < 128):sgn ((numL v 1 ++ t).take 1)=v:=by rw [take_num,sgn_n1 h]
theorem key_1_0 (op w dst src base disp imm cc at_ va dg:Int) (t:List Int) (wd:Bool) (src0:0 ≤ src) (src1:src < 16) (dst0:0 ≤ dst) (dst1:dst < 16) (hD:disp=0) (hI:imm=0) (hC:cc=0) (v0:0 ≤ (valQ ⟨1,at_,va,dg,0⟩ cc (dst % 8))) (v1:(valQ ⟨1,at_,va,dg,0⟩ cc (dst % 8)) < 65536):
    partsF ⟨wd,src / 8 * 8,dst / 8 * 8,(valQ ⟨1,at_,va,dg,0⟩ cc (dst % 8)),operandP (⟨1,at_,va,dg,0⟩:Cd) (partsP (⟨op,w,dst,src,base,disp,imm,cc⟩:Xi) (⟨1,at_,va,dg,0⟩:Cd)) ++ (immP (⟨1,at_,va,dg,0⟩:Cd) (partsP (⟨op,w,dst,src,base,disp,imm,cc⟩:Xi) (⟨1,at_,va,dg,0⟩:Cd)) ++ t)⟩ (⟨1,at_,va,dg,0⟩:Cd)=partsP (⟨op,w,dst,src,base,disp,imm,cc⟩:Xi) (⟨1,at_,va,dg,0⟩:Cd):=by
  generalize hvq:(valQ ⟨1,at_,va,dg,0⟩ cc (dst % 8))=v at *
  obtain ⟨q1,q2,q3,q4⟩:=reg_read (r:=src) (m:=dst) (numL imm 0 ++ t)
  refine pt_eq (show bits .or .i8 (rgF (opI 192 src dst :: (numL imm 0 ++ t))) (src / 8 * 8)=src from by rw [q1];exact back8 (by omega) (by omega)) (show bits .or .i8 (rmF (opI 192 src dst :: (numL imm 0 ++ t))) (dst / 8 * 8)=dst from by rw [q2];exact back8 (by omega) (by omega)) (show dF (opI 192 src dst :: (numL imm 0 ++ t))=disp from by rw [q3,hD]) (show sgn (((opI 192 src dst :: (numL imm 0 ++ t)).drop (nF (opI 192 src dst :: (numL imm 0 ++ t)))).take 0)=imm from by rw [q4];exact imm_0 t imm hI) hC.symm
theorem key_3_0 (op w dst src base disp imm cc at_ va dg:Int) (t:List Int) (wd:Bool) (dst0:0 ≤ dst) (dst1:dst < 16) (dg0:0 ≤ dg) (dg1:dg < 8) (hD:disp=0) (hI:fourB imm=true) (hC:cc=0) (v0:0 ≤ (valQ ⟨3,at_,va,dg,0⟩ cc (dst % 8))) (v1:(valQ ⟨3,at_,va,dg,0⟩ cc (dst % 8)) < 65536):
    partsF ⟨wd,dg / 8 * 8,dst / 8 * 8,(valQ ⟨3,at_,va,dg,0⟩ cc (dst % 8)),operandP (⟨3,at_,va,dg,0⟩:Cd) (partsP (⟨op,w,dst,src,base,disp,imm,cc⟩:Xi) (⟨3,at_,va,dg,0⟩:Cd)) ++ (immP (⟨3,at_,va,dg,0⟩:Cd) (partsP (⟨op,w,dst,src,base,disp,imm,cc⟩:Xi) (⟨3,at_,va,dg,0⟩:Cd)) ++ t)⟩ (⟨3,at_,va,dg,0⟩:Cd)=partsP (⟨op,w,dst,src,base,disp,imm,cc⟩:Xi) (⟨3,at_,va,dg,0⟩:Cd):=by
  generalize hvq:(valQ ⟨3,at_,va,dg,0⟩ cc (dst % 8))=v at *
  obtain ⟨q1,q2,q3,q4⟩:=reg_read (r:=dg) (m:=dst) (numL imm 4 ++ t)
  refine pt_eq (show bits .or .i8 (rgF (opI 192 dg dst :: (numL imm 4 ++ t))) (dg / 8 * 8)=dg from by rw [q1];exact back8 (by omega) (by omega)) (show bits .or .i8 (rmF (opI 192 dg dst :: (numL imm 4 ++ t))) (dst / 8 * 8)=dst from by rw [q2];exact back8 (by omega) (by omega)) (show dF (opI 192 dg dst :: (numL imm 4 ++ t))=disp from by rw [q3,hD]) (show sgn (((opI 192 dg dst :: (numL imm 4 ++ t)).drop (nF (opI 192 dg dst :: (numL imm 4 ++ t)))).take 4)=imm from by rw [q4];exact imm_4 t imm hI) hC.symm
theorem key_2_0 (op w dst src base disp imm cc at_ va dg:Int) (t:List Int) (wd:Bool) (dst0:0 ≤ dst) (dst1:dst < 16) (src0:0 ≤ src) (src1:src < 16) (hD:disp=0) (hI:imm=0) (hC:cc=0) (v0:0 ≤ (valQ ⟨2,at_,va,dg,0⟩ cc (src % 8))) (v1:(valQ ⟨2,at_,va,dg,0⟩ cc (src % 8)) < 65536):
    partsF ⟨wd,dst / 8 * 8,src / 8 * 8,(valQ ⟨2,at_,va,dg,0⟩ cc (src % 8)),operandP (⟨2,at_,va,dg,0⟩:Cd) (partsP (⟨op,w,dst,src,base,disp,imm,cc⟩:Xi) (⟨2,at_,va,dg,0⟩:Cd)) ++ (immP (⟨2,at_,va,dg,0⟩:Cd) (partsP (⟨op,w,dst,src,base,disp,imm,cc⟩:Xi) (⟨2,at_,va,dg,0⟩:Cd)) ++ t)⟩ (⟨2,at_,va,dg,0⟩:Cd)=partsP (⟨op,w,dst,src,base,disp,imm,cc⟩:Xi) (⟨2,at_,va,dg,0⟩:Cd):=by
  generalize hvq:(valQ ⟨2,at_,va,dg,0⟩ cc (src % 8))=v at *
  obtain ⟨q1,q2,q3,q4⟩:=reg_read (r:=dst) (m:=src) (numL imm 0 ++ t)
  refine pt_eq (show bits .or .i8 (rgF (opI 192 dst src :: (numL imm 0 ++ t))) (dst / 8 * 8)=dst from by rw [q1];exact back8 (by omega) (by omega)) (show bits .or .i8 (rmF (opI 192 dst src :: (numL imm 0 ++ t))) (src / 8 * 8)=src from by rw [q2];exact back8 (by omega) (by omega)) (show dF (opI 192 dst src :: (numL imm 0 ++ t))=disp from by rw [q3,hD]) (show sgn (((opI 192 dst src :: (numL imm 0 ++ t)).drop (nF (opI 192 dst src :: (numL imm 0 ++ t)))).take 0)=imm from by rw [q4];exact imm_0 t imm hI) hC.symm
theorem key_4_0 (op w dst src base disp imm cc at_ va dg:Int) (t:List Int) (wd:Bool) (dst0:0 ≤ dst) (dst1:dst < 16) (dg0:0 ≤ dg) (dg1:dg < 8) (hD:disp=0) (hI:-128 ≤ imm ∧ imm < 128) (hC:cc=0) (v0:0 ≤ (valQ ⟨4,at_,va,dg,0⟩ cc (dst % 8))) (v1:(valQ ⟨4,at_,va,dg,0⟩ cc (dst % 8)) < 65536):
    partsF ⟨wd,dg / 8 * 8,dst / 8 * 8,(valQ ⟨4,at_,va,dg,0⟩ cc (dst % 8)),operandP (⟨4,at_,va,dg,0⟩:Cd) (partsP (⟨op,w,dst,src,base,disp,imm,cc⟩:Xi) (⟨4,at_,va,dg,0⟩:Cd)) ++ (immP (⟨4,at_,va,dg,0⟩:Cd) (partsP (⟨op,w,dst,src,base,disp,imm,cc⟩:Xi) (⟨4,at_,va,dg,0⟩:Cd)) ++ t)⟩ (⟨4,at_,va,dg,0⟩:Cd)=partsP (⟨op,w,dst,src,base,disp,imm,cc⟩:Xi) (⟨4,at_,va,dg,0⟩:Cd):=by
  generalize hvq:(valQ ⟨4,at_,va,dg,0⟩ cc (dst % 8))=v at *
  obtain ⟨q1,q2,q3,q4⟩:=reg_read (r:=dg) (m:=dst) (numL imm 1 ++ t)
  refine pt_eq (show bits .or .i8 (rgF (opI 192 dg dst :: (numL imm 1 ++ t))) (dg / 8 * 8)=dg from by rw [q1];exact back8 (by omega) (by omega)) (show bits .or .i8 (rmF (opI 192 dg dst :: (numL imm 1 ++ t))) (dst / 8 * 8)=dst from by rw [q2];exact back8 (by omega) (by omega)) (show dF (opI 192 dg dst :: (numL imm 1 ++ t))=disp from by rw [q3,hD]) (show sgn (((opI 192 dg dst :: (numL imm 1 ++ t)).drop (nF (opI 192 dg dst :: (numL imm 1 ++ t)))).take 1)=imm from by rw [q4];exact imm_1 t imm hI) hC.symm
theorem key_5_0 (op w dst src base disp imm cc at_ va dg:Int) (t:List Int) (wd:Bool) (dst0:0 ≤ dst) (dst1:dst < 16) (dg0:0 ≤ dg) (dg1:dg < 8) (hD:disp=0) (hI:imm=0) (hC:cc=0) (v0:0 ≤ (valQ ⟨5,at_,va,dg,0⟩ cc (dst % 8))) (v1:(valQ ⟨5,at_,va,dg,0⟩ cc (dst % 8)) < 65536):
    partsF ⟨wd,dg / 8 * 8,dst / 8 * 8,(valQ ⟨5,at_,va,dg,0⟩ cc (dst % 8)),operandP (⟨5,at_,va,dg,0⟩:Cd) (partsP (⟨op,w,dst,src,base,disp,imm,cc⟩:Xi) (⟨5,at_,va,dg,0⟩:Cd)) ++ (immP (⟨5,at_,va,dg,0⟩:Cd) (partsP (⟨op,w,dst,src,base,disp,imm,cc⟩:Xi) (⟨5,at_,va,dg,0⟩:Cd)) ++ t)⟩ (⟨5,at_,va,dg,0⟩:Cd)=partsP (⟨op,w,dst,src,base,disp,imm,cc⟩:Xi) (⟨5,at_,va,dg,0⟩:Cd):=by
  generalize hvq:(valQ ⟨5,at_,va,dg,0⟩ cc (dst % 8))=v at *
  obtain ⟨q1,q2,q3,q4⟩:=reg_read (r:=dg) (m:=dst) (numL imm 0 ++ t)
  refine pt_eq (show bits .or .i8 (rgF (opI 192 dg dst :: (numL imm 0 ++ t))) (dg / 8 * 8)=dg from by rw [q1];exact back8 (by omega) (by omega)) (show bits .or .i8 (rmF (opI 192 dg dst :: (numL imm 0 ++ t))) (dst / 8 * 8)=dst from by rw [q2];exact back8 (by omega) (by omega)) (show dF (opI 192 dg dst :: (numL imm 0 ++ t))=disp from by rw [q3,hD]) (show sgn (((opI 192 dg dst :: (numL imm 0 ++ t)).drop (nF (opI 192 dg dst :: (numL imm 0 ++ t)))).take 0)=imm from by rw [q4];exact imm_0 t imm hI) hC.symm
theorem key_2_15 (op w dst src base disp imm cc at_ va dg:Int) (t:List Int) (wd:Bool) (dst0:0 ≤ dst) (dst1:dst < 16) (src0:0 ≤ src) (src1:src < 16) (hD:disp=0) (hI:imm=0) (v0:0 ≤ (valQ ⟨2,at_,va,dg,15⟩ cc (src % 8))) (v1:(valQ ⟨2,at_,va,dg,15⟩ cc (src % 8)) < 65536) (hv:(valQ ⟨2,at_,va,dg,15⟩ cc (src % 8)) % 16=cc):
    partsF ⟨wd,dst / 8 * 8,src / 8 * 8,(valQ ⟨2,at_,va,dg,15⟩ cc (src % 8)),operandP (⟨2,at_,va,dg,15⟩:Cd) (partsP (⟨op,w,dst,src,base,disp,imm,cc⟩:Xi) (⟨2,at_,va,dg,15⟩:Cd)) ++ (immP (⟨2,at_,va,dg,15⟩:Cd) (partsP (⟨op,w,dst,src,base,disp,imm,cc⟩:Xi) (⟨2,at_,va,dg,15⟩:Cd)) ++ t)⟩ (⟨2,at_,va,dg,15⟩:Cd)=partsP (⟨op,w,dst,src,base,disp,imm,cc⟩:Xi) (⟨2,at_,va,dg,15⟩:Cd):=by
  generalize hvq:(valQ ⟨2,at_,va,dg,15⟩ cc (src % 8))=v at *
  obtain ⟨q1,q2,q3,q4⟩:=reg_read (r:=dst) (m:=src) (numL imm 0 ++ t)
  refine pt_eq (show bits .or .i8 (rgF (opI 192 dst src :: (numL imm 0 ++ t))) (dst / 8 * 8)=dst from by rw [q1];exact back8 (by omega) (by omega)) (show bits .or .i8 (rmF (opI 192 dst src :: (numL imm 0 ++ t))) (src / 8 * 8)=src from by rw [q2];exact back8 (by omega) (by omega)) (show dF (opI 192 dst src :: (numL imm 0 ++ t))=disp from by rw [q3,hD]) (show sgn (((opI 192 dst src :: (numL imm 0 ++ t)).drop (nF (opI 192 dst src :: (numL imm 0 ++ t)))).take 0)=imm from by rw [q4];exact imm_0 t imm hI) (show IntKind.i8.wrap (bits .and .u16 v 15)=cc from by rw [(and16 v0 v1).2,hv];exact i8s (by omega) (by omega))
theorem key_7_0 (op w dst src base disp imm cc at_ va dg:Int) (t:List Int) (wd:Bool) (dst0:0 ≤ dst) (dst1:dst < 16) (base0:0 ≤ base) (base1:base < 16) (hD:fourB disp=true) (hI:imm=0) (hC:cc=0) (v0:0 ≤ (valQ ⟨7,at_,va,dg,0⟩ cc (base % 8))) (v1:(valQ ⟨7,at_,va,dg,0⟩ cc (base % 8)) < 65536):
    partsF ⟨wd,dst / 8 * 8,base / 8 * 8,(valQ ⟨7,at_,va,dg,0⟩ cc (base % 8)),operandP (⟨7,at_,va,dg,0⟩:Cd) (partsP (⟨op,w,dst,src,base,disp,imm,cc⟩:Xi) (⟨7,at_,va,dg,0⟩:Cd)) ++ (immP (⟨7,at_,va,dg,0⟩:Cd) (partsP (⟨op,w,dst,src,base,disp,imm,cc⟩:Xi) (⟨7,at_,va,dg,0⟩:Cd)) ++ t)⟩ (⟨7,at_,va,dg,0⟩:Cd)=partsP (⟨op,w,dst,src,base,disp,imm,cc⟩:Xi) (⟨7,at_,va,dg,0⟩:Cd):=by
  generalize hvq:(valQ ⟨7,at_,va,dg,0⟩ cc (base % 8))=v at *
  obtain ⟨q1,q2,q3⟩:=mem_read (r:=dst) (m:=base) hD (numL imm 0 ++ t)
  refine pt_eq (show bits .or .i8 (rgF (memL dst base disp ++ (numL imm 0 ++ t))) (dst / 8 * 8)=dst from by rw [q1];exact back8 (by omega) (by omega)) (show bits .or .i8 (rmF (memL dst base disp ++ (numL imm 0 ++ t))) (base / 8 * 8)=base from by rw [q2];exact back8 (by omega) (by omega)) (show dF (memL dst base disp ++ (numL imm 0 ++ t))=disp from q3) (show sgn (List.take 0 _)=imm from by rw [hI];rfl) hC.symm
theorem key_8_0 (op w dst src base disp imm cc at_ va dg:Int) (t:List Int) (wd:Bool) (src0:0 ≤ src) (src1:src < 16) (base0:0 ≤ base) (base1:base < 16) (hD:fourB disp=true) (hI:imm=0) (hC:cc=0) (v0:0 ≤ (valQ ⟨8,at_,va,dg,0⟩ cc (base % 8))) (v1:(valQ ⟨8,at_,va,dg,0⟩ cc (base % 8)) < 65536):
    partsF ⟨wd,src / 8 * 8,base / 8 * 8,(valQ ⟨8,at_,va,dg,0⟩ cc (base % 8)),operandP (⟨8,at_,va,dg,0⟩:Cd) (partsP (⟨op,w,dst,src,base,disp,imm,cc⟩:Xi) (⟨8,at_,va,dg,0⟩:Cd)) ++ (immP (⟨8,at_,va,dg,0⟩:Cd) (partsP (⟨op,w,dst,src,base,disp,imm,cc⟩:Xi) (⟨8,at_,va,dg,0⟩:Cd)) ++ t)⟩ (⟨8,at_,va,dg,0⟩:Cd)=partsP (⟨op,w,dst,src,base,disp,imm,cc⟩:Xi) (⟨8,at_,va,dg,0⟩:Cd):=by
  generalize hvq:(valQ ⟨8,at_,va,dg,0⟩ cc (base % 8))=v at *
  obtain ⟨q1,q2,q3⟩:=mem_read (r:=src) (m:=base) hD (numL imm 0 ++ t)
  refine pt_eq (show bits .or .i8 (rgF (memL src base disp ++ (numL imm 0 ++ t))) (src / 8 * 8)=src from by rw [q1];exact back8 (by omega) (by omega)) (show bits .or .i8 (rmF (memL src base disp ++ (numL imm 0 ++ t))) (base / 8 * 8)=base from by rw [q2];exact back8 (by omega) (by omega)) (show dF (memL src base disp ++ (numL imm 0 ++ t))=disp from q3) (show sgn (List.take 0 _)=imm from by rw [hI];rfl) hC.symm
theorem key_9_0 (op w dst src base disp imm cc at_ va dg:Int) (t:List Int) (wd:Bool) (hD:disp=0) (hI:fourB imm=true) (hC:cc=0) (v0:0 ≤ (valQ ⟨9,at_,va,dg,0⟩ cc (0 % 8))) (v1:(valQ ⟨9,at_,va,dg,0⟩ cc (0 % 8)) < 65536):
    partsF ⟨wd,0 / 8 * 8,0 / 8 * 8,(valQ ⟨9,at_,va,dg,0⟩ cc (0 % 8)),operandP (⟨9,at_,va,dg,0⟩:Cd) (partsP (⟨op,w,dst,src,base,disp,imm,cc⟩:Xi) (⟨9,at_,va,dg,0⟩:Cd)) ++ (immP (⟨9,at_,va,dg,0⟩:Cd) (partsP (⟨op,w,dst,src,base,disp,imm,cc⟩:Xi) (⟨9,at_,va,dg,0⟩:Cd)) ++ t)⟩ (⟨9,at_,va,dg,0⟩:Cd)=partsP (⟨op,w,dst,src,base,disp,imm,cc⟩:Xi) (⟨9,at_,va,dg,0⟩:Cd):=by
  generalize hvq:(valQ ⟨9,at_,va,dg,0⟩ cc (0 % 8))=v at *
  refine pt_eq (show bits .or .i8 0 (0 / 8 * 8)=0 from back0 (by decide) (by decide)) (show bits .or .i8 0 (0 / 8 * 8)=0 from back0 (by decide) (by decide)) hD.symm (show sgn ((numL imm 4 ++ t).take 4)=imm from imm_4 t imm hI) hC.symm
theorem key_9_15 (op w dst src base disp imm cc at_ va dg:Int) (t:List Int) (wd:Bool) (hD:disp=0) (hI:fourB imm=true) (v0:0 ≤ (valQ ⟨9,at_,va,dg,15⟩ cc (0 % 8))) (v1:(valQ ⟨9,at_,va,dg,15⟩ cc (0 % 8)) < 65536) (hv:(valQ ⟨9,at_,va,dg,15⟩ cc (0 % 8)) % 16=cc):
    partsF ⟨wd,0 / 8 * 8,0 / 8 * 8,(valQ ⟨9,at_,va,dg,15⟩ cc (0 % 8)),operandP (⟨9,at_,va,dg,15⟩:Cd) (partsP (⟨op,w,dst,src,base,disp,imm,cc⟩:Xi) (⟨9,at_,va,dg,15⟩:Cd)) ++ (immP (⟨9,at_,va,dg,15⟩:Cd) (partsP (⟨op,w,dst,src,base,disp,imm,cc⟩:Xi) (⟨9,at_,va,dg,15⟩:Cd)) ++ t)⟩ (⟨9,at_,va,dg,15⟩:Cd)=partsP (⟨op,w,dst,src,base,disp,imm,cc⟩:Xi) (⟨9,at_,va,dg,15⟩:Cd):=by
  generalize hvq:(valQ ⟨9,at_,va,dg,15⟩ cc (0 % 8))=v at *
  refine pt_eq (show bits .or .i8 0 (0 / 8 * 8)=0 from back0 (by decide) (by decide)) (show bits .or .i8 0 (0 / 8 * 8)=0 from back0 (by decide) (by decide)) hD.symm (show sgn ((numL imm 4 ++ t).take 4)=imm from imm_4 t imm hI) (show IntKind.i8.wrap (bits .and .u16 v 15)=cc from by rw [(and16 v0 v1).2,hv];exact i8s (by omega) (by omega))
theorem key_0_0 (op w dst src base disp imm cc at_ va dg:Int) (t:List Int) (wd:Bool) (hD:disp=0) (hI:imm=0) (hC:cc=0) (v0:0 ≤ (valQ ⟨0,at_,va,dg,0⟩ cc (0 % 8))) (v1:(valQ ⟨0,at_,va,dg,0⟩ cc (0 % 8)) < 65536):
    partsF ⟨wd,0 / 8 * 8,0 / 8 * 8,(valQ ⟨0,at_,va,dg,0⟩ cc (0 % 8)),operandP (⟨0,at_,va,dg,0⟩:Cd) (partsP (⟨op,w,dst,src,base,disp,imm,cc⟩:Xi) (⟨0,at_,va,dg,0⟩:Cd)) ++ (immP (⟨0,at_,va,dg,0⟩:Cd) (partsP (⟨op,w,dst,src,base,disp,imm,cc⟩:Xi) (⟨0,at_,va,dg,0⟩:Cd)) ++ t)⟩ (⟨0,at_,va,dg,0⟩:Cd)=partsP (⟨op,w,dst,src,base,disp,imm,cc⟩:Xi) (⟨0,at_,va,dg,0⟩:Cd):=by
  generalize hvq:(valQ ⟨0,at_,va,dg,0⟩ cc (0 % 8))=v at *
  refine pt_eq (show bits .or .i8 0 (0 / 8 * 8)=0 from back0 (by decide) (by decide)) (show bits .or .i8 0 (0 / 8 * 8)=0 from back0 (by decide) (by decide)) hD.symm (show sgn ((numL imm 0 ++ t).take 0)=imm from imm_0 t imm hI) hC.symm
theorem key_6_7 (op w dst src base disp imm cc at_ va dg:Int) (t:List Int) (wd:Bool) (dst0:0 ≤ dst) (dst1:dst < 16) (dg0:0 ≤ dg) (dg1:dg < 8) (hD:disp=0) (hI:fourB imm=true) (hC:cc=0) (v0:0 ≤ (valQ ⟨6,at_,va,dg,7⟩ cc (dst % 8))) (v1:(valQ ⟨6,at_,va,dg,7⟩ cc (dst % 8)) < 65536) (hv:(valQ ⟨6,at_,va,dg,7⟩ cc (dst % 8)) % 8=dst % 8) (hdg:dg=0):
    partsF ⟨wd,dg / 8 * 8,dst / 8 * 8,(valQ ⟨6,at_,va,dg,7⟩ cc (dst % 8)),operandP (⟨6,at_,va,dg,7⟩:Cd) (partsP (⟨op,w,dst,src,base,disp,imm,cc⟩:Xi) (⟨6,at_,va,dg,7⟩:Cd)) ++ (immP (⟨6,at_,va,dg,7⟩:Cd) (partsP (⟨op,w,dst,src,base,disp,imm,cc⟩:Xi) (⟨6,at_,va,dg,7⟩:Cd)) ++ t)⟩ (⟨6,at_,va,dg,7⟩:Cd)=partsP (⟨op,w,dst,src,base,disp,imm,cc⟩:Xi) (⟨6,at_,va,dg,7⟩:Cd):=by
  generalize hvq:(valQ ⟨6,at_,va,dg,7⟩ cc (dst % 8))=v at *
  subst hdg
  refine pt_eq (show bits .or .i8 0 (0 / 8 * 8)=0 from back0 (by decide) (by decide)) (show bits .or .i8 (IntKind.i8.wrap (bits .and .u16 v 7)) (dst / 8 * 8)=dst from by rw [(and16 v0 v1).1,hv,i8s (by omega) (by omega)];exact back8 dst0 dst1) hD.symm (show sgn ((numL imm 4 ++ t).take 4)=imm from imm_4 t imm hI) hC.symm
theorem key_10_0 (op w dst src base disp imm cc at_ va dg:Int) (t:List Int) (wd:Bool) (hD:disp=0) (hI:-128 ≤ imm ∧ imm < 128) (hC:cc=0) (v0:0 ≤ (valQ ⟨10,at_,va,dg,0⟩ cc (0 % 8))) (v1:(valQ ⟨10,at_,va,dg,0⟩ cc (0 % 8)) < 65536):
    partsF ⟨wd,0 / 8 * 8,0 / 8 * 8,(valQ ⟨10,at_,va,dg,0⟩ cc (0 % 8)),operandP (⟨10,at_,va,dg,0⟩:Cd) (partsP (⟨op,w,dst,src,base,disp,imm,cc⟩:Xi) (⟨10,at_,va,dg,0⟩:Cd)) ++ (immP (⟨10,at_,va,dg,0⟩:Cd) (partsP (⟨op,w,dst,src,base,disp,imm,cc⟩:Xi) (⟨10,at_,va,dg,0⟩:Cd)) ++ t)⟩ (⟨10,at_,va,dg,0⟩:Cd)=partsP (⟨op,w,dst,src,base,disp,imm,cc⟩:Xi) (⟨10,at_,va,dg,0⟩:Cd):=by
  generalize hvq:(valQ ⟨10,at_,va,dg,0⟩ cc (0 % 8))=v at *
  refine pt_eq (show bits .or .i8 0 (0 / 8 * 8)=0 from back0 (by decide) (by decide)) (show bits .or .i8 0 (0 / 8 * 8)=0 from back0 (by decide) (by decide)) hD.symm (show sgn ((numL imm 1 ++ t).take 1)=imm from imm_1 t imm hI) hC.symm
theorem key_10_15 (op w dst src base disp imm cc at_ va dg:Int) (t:List Int) (wd:Bool) (hD:disp=0) (hI:-128 ≤ imm ∧ imm < 128) (v0:0 ≤ (valQ ⟨10,at_,va,dg,15⟩ cc (0 % 8))) (v1:(valQ ⟨10,at_,va,dg,15⟩ cc (0 % 8)) < 65536) (hv:(valQ ⟨10,at_,va,dg,15⟩ cc (0 % 8)) % 16=cc):
    partsF ⟨wd,0 / 8 * 8,0 / 8 * 8,(valQ ⟨10,at_,va,dg,15⟩ cc (0 % 8)),operandP (⟨10,at_,va,dg,15⟩:Cd) (partsP (⟨op,w,dst,src,base,disp,imm,cc⟩:Xi) (⟨10,at_,va,dg,15⟩:Cd)) ++ (immP (⟨10,at_,va,dg,15⟩:Cd) (partsP (⟨op,w,dst,src,base,disp,imm,cc⟩:Xi) (⟨10,at_,va,dg,15⟩:Cd)) ++ t)⟩ (⟨10,at_,va,dg,15⟩:Cd)=partsP (⟨op,w,dst,src,base,disp,imm,cc⟩:Xi) (⟨10,at_,va,dg,15⟩:Cd):=by
  generalize hvq:(valQ ⟨10,at_,va,dg,15⟩ cc (0 % 8))=v at *
  refine pt_eq (show bits .or .i8 0 (0 / 8 * 8)=0 from back0 (by decide) (by decide)) (show bits .or .i8 0 (0 / 8 * 8)=0 from back0 (by decide) (by decide)) hD.symm (show sgn ((numL imm 1 ++ t).take 1)=imm from imm_1 t imm hI) (show IntKind.i8.wrap (bits .and .u16 v 15)=cc from by rw [(and16 v0 v1).2,hv];exact i8s (by omega) (by omega))
end Go.Proofs.YtjhedldplmhmjaaDoor.Mrm
