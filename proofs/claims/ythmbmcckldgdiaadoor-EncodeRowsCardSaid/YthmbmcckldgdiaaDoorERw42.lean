import Derived.Test.YthmbmcckldgdiaaDoorERw41
import Derived.Laws.BitsAllLaws
set_option linter.unusedVariables false
set_option linter.unusedSimpArgs false
set_option linter.unnecessarySimpa false
namespace Go.Proofs.YthmbmcckldgdiaaDoor.Mrm
open Go Go.RowKit Mdl
set_option linter.unusedVariables false
set_option linter.unusedSimpArgs false
set_option linter.unnecessarySimpa false
set_option maxRecDepth 100000
theorem sgV_bd (n:Nat) (u:Int) (hn:n ≤ 8) (h0:0 ≤ u) (h1:u < 2 ^ (8 * n)):-9223372036854775808 ≤ sgV n u ∧ sgV n u ≤ 9223372036854775807:=by
  unfold sgV
  rcases (show n=0 ∨ n=1 ∨ n=2 ∨ n=3 ∨ n=4 ∨ n=5 ∨ n=6 ∨ n=7 ∨ n=8 by omega) with rfl | rfl | rfl | rfl | rfl | rfl | rfl | rfl | rfl
  all_goals simp only [Nat.reduceMul,Nat.reduceSub,Int.reducePow,Nat.reducePow] at h1 ⊢
  all_goals (repeat' split) <;> omega
theorem sgn_bd {l:List Int} (h:Oks l):-9223372036854775808 ≤ sgn l ∧ sgn l ≤ 9223372036854775807:=by
  have hb:∀ i,i < cntN l → 0 ≤ l.getD i 0 ∧ l.getD i 0 < 256:=fun i hi=>by
    have hlt:i < l.length:=Nat.lt_of_lt_of_le hi (Nat.min_le_left _ _)
    rw [List.getD_eq_getElem?_getD,List.getElem?_eq_getElem hlt]
    exact h _ (List.getElem_mem hlt)
  have q:=getI_bd (fun i=>l.getD i 0) (cntN l) hb
  exact sgV_bd _ _ (Nat.min_le_right _ _) q.1 q.2
theorem or8_fin:∀ a:Fin 8,bits .or .i8 (a.1:Int) 0=a.1 ∧ bits .or .i8 (a.1:Int) 8=a.1 + 8:=by decide +kernel
theorem or8 {a b:Int} (h0:0 ≤ a) (h1:a < 8) (hb:b=0 ∨ b=8):bits .or .i8 a b=a + b:=by
  have q:=or8_fin ⟨a.toNat,by omega⟩
  simp only [Int.toNat_of_nonneg h0] at q
  rcases hb with rfl | rfl
  · rw [q.1,Int.add_zero]
  · exact q.2
theorem hi_08 (c k:Int):hiI c k=0 ∨ hiI c k=8:=by
  unfold hiI
  split
  · exact .inr rfl
  · exact .inl rfl
theorem rgF_bd {l:List Int}:0 ≤ rgF l ∧ rgF l < 8:=by
  unfold rgF
  (repeat' split) <;> omega
theorem rmF_bd {l:List Int}:0 ≤ rmF l ∧ rmF l < 8:=by
  unfold rmF
  (repeat' split) <;> omega
theorem dF_bd {l:List Int} (h:Oks l):-9223372036854775808 ≤ dF l ∧ dF l ≤ 9223372036854775807:=by
  unfold dF
  (repeat' split)
  · omega
  · exact sgn_bd (fun z hz=>h z (List.mem_of_mem_drop (List.mem_of_mem_take hz)))
  · omega
theorem and16 {v:Int} (h0:0 ≤ v) (h1:v < 65536):bits .and .u16 v 7=v % 8 ∧ bits .and .u16 v 15=v % 16:=by
  rw [u16_and v 7 h0 h1 (by decide) (by decide),u16_and v 15 h0 h1 (by decide) (by decide)]
  have e1:v.toNat &&& (7:Int).toNat=v.toNat % 8:=Nat.and_two_pow_sub_one_eq_mod v.toNat 3
  have e2:v.toNat &&& (15:Int).toNat=v.toNat % 16:=Nat.and_two_pow_sub_one_eq_mod v.toNat 4
  rw [e1,e2]
  omega
theorem i8s {v:Int} (h0:0 ≤ v) (h1:v < 128):IntKind.i8.wrap v=v:=by rw [wrap8];omega
structure FdOk (f:Fd):Prop where
  rh:f.rh=0 ∨ f.rh=8
  mh:f.mh=0 ∨ f.mh=8
  va:0 ≤ f.va ∧ f.va < 65536
  bh:Oks f.bh
theorem findP_ok {zs:List Int} {f:Fd} (h:Oks zs) (hf:findP zs=some f):FdOk f:=by
  have hv:=findP_va zs f h hf
  have h1:=stripH_ok h
  unfold findP at hf
  generalize (stripH zs).2=l at *
  unfold findR at hf
  have h2:Oks (stripQ l).2.2.2 ∧ ((stripQ l).2.1=0 ∨ (stripQ l).2.1=8) ∧ ((stripQ l).2.2.1=0 ∨ (stripQ l).2.2.1=8):=by
    unfold stripQ
    split
    · exact ⟨fun z hz=>h1 z (List.mem_of_mem_tail hz),hi_08 _ _,hi_08 _ _⟩
    · exact ⟨h1,.inl rfl,.inl rfl⟩
  generalize stripQ l=r at *
  have h3:Oks (stripC r.2.2.2).2:=by
    unfold stripC
    split
    · exact fun z hz=>h2.1 z (List.mem_of_mem_tail hz)
    · exact h2.1
  generalize stripC r.2.2.2=g at *
  obtain ⟨v,l2⟩:=g
  cases l2 with
  | nil=>cases hf
  | cons n l2=>
    injection hf with hf
    subst hf
    exact ⟨h2.2.1,h2.2.2,hv,fun z hz=>h3 z (List.mem_cons_of_mem _ hz)⟩
structure PtOk (p:Pt):Prop where
  reg:0 ≤ p.reg ∧ p.reg < 16
  rm:0 ≤ p.rm ∧ p.rm < 16
  disp:-9223372036854775808 ≤ p.disp ∧ p.disp ≤ 9223372036854775807
  imm:-9223372036854775808 ≤ p.imm ∧ p.imm ≤ 9223372036854775807
  cc:0 ≤ p.cc ∧ p.cc < 16
theorem partsF_ok {f:Fd} (h:FdOk f) (c:Cd):PtOk (partsF f c):=by
  have hv:=and16 h.va.1 h.va.2
  refine ⟨?_,?_,?_,?_,?_⟩
  · show 0 ≤ bits .or .i8 (bif inOpB c.sh then rgF f.bh else 0) f.rh ∧ _ < _
    have q:0 ≤ (bif inOpB c.sh then rgF f.bh else 0) ∧ (bif inOpB c.sh then rgF f.bh else 0) < 8:=by
      cases inOpB c.sh
      · (constructor <;> (simp only [cond_false];decide))
      · exact rgF_bd
    show 0 ≤ bits .or .i8 (bif inOpB c.sh then rgF f.bh else 0) f.rh ∧ bits .or .i8 (bif inOpB c.sh then rgF f.bh else 0) f.rh < 16
    rw [or8 q.1 q.2 h.rh]
    have:=h.rh
    omega
  · have q:0 ≤ (bif inOpB c.sh then rmF f.bh else bif c.sh == 6 then IntKind.i8.wrap (bits .and .u16 f.va 7) else 0) ∧ (bif inOpB c.sh then rmF f.bh else bif c.sh == 6 then IntKind.i8.wrap (bits .and .u16 f.va 7) else 0) < 8:=by
      cases inOpB c.sh
      · cases c.sh == 6
        · (constructor <;> (simp only [cond_false];decide))
        · simp only [cond_true,cond_false]
          rw [hv.1,i8s (by omega) (by omega)]
          omega
      · exact rmF_bd
    show 0 ≤ bits .or .i8 _ f.mh ∧ bits .or .i8 _ f.mh < 16
    rw [or8 q.1 q.2 h.mh]
    have:=h.mh
    omega
  · show -9223372036854775808 ≤ (bif inOpB c.sh then dF f.bh else 0) ∧ (bif inOpB c.sh then dF f.bh else 0) ≤ 9223372036854775807
    cases inOpB c.sh
    · (constructor <;> (simp only [cond_false];decide))
    · exact dF_bd h.bh
  · exact sgn_bd (fun z hz=>h.bh z (List.mem_of_mem_drop (List.mem_of_mem_take hz)))
  · show 0 ≤ (bif c.lo == 15 then IntKind.i8.wrap (bits .and .u16 f.va 15) else 0) ∧ (bif c.lo == 15 then IntKind.i8.wrap (bits .and .u16 f.va 15) else 0) < 16
    cases c.lo == 15
    · (constructor <;> (simp only [cond_false];decide))
    · simp only [cond_true]
      rw [hv.2,i8s (by omega) (by omega)]
      omega
theorem allOps_rng:∀ k:Fin 38,0 ≤ (allOps.getD k.1 (0,zCd)).1 ∧ (allOps.getD k.1 (0,zCd)).1 < 32:=by decide +kernel
theorem allOps_bd {y:Int × Cd} (h:y ∈ allOps):0 ≤ y.1 ∧ y.1 < 32:=by
  obtain ⟨k,hk,rfl⟩:=List.getElem_of_mem h
  have:=allOps_rng ⟨k,by rw [← allOps_len];exact hk⟩
  rw [List.getD_eq_getElem?_getD,List.getElem?_eq_getElem hk] at this
  exact this
theorem fillCc_bd {p:Pt} (h:PtOk p) (c:Cd):0 ≤ fillCc c p ∧ fillCc c p < 16:=by
  unfold fillCc
  cases c.lo == 15
  · (constructor <;> (simp only [cond_false];decide))
  · exact h.cc
theorem filledP_ok {op w:Int} (ho:0 ≤ op ∧ op < 32) (hw:0 ≤ w ∧ w ≤ 64) (c:Cd) {p:Pt} (h:PtOk p):XOk (filledP op w c p):=by
  have h1:=h.reg;have h2:=h.rm;have h3:=h.disp;have h4:=h.imm;have h5:=fillCc_bd h c
  unfold filledP
  simp only [cond_eq_ite]
  repeat' split
  all_goals refine ⟨?_,?_,?_,?_,?_,?_,?_,?_⟩ <;> (simp only;omega)
theorem cands_ok {zs:List Int} (hz:Oks zs):∀ x ∈ cands zs,XOk x:=by
  intro x hx
  unfold cands at hx
  cases hf:findP zs with
  | none=>rw [hf] at hx;cases hx
  | some f=>
    rw [hf] at hx
    obtain ⟨y,hy,hx⟩:=List.mem_flatMap.1 hx
    unfold candC at hx
    split at hx
    · obtain ⟨w,hw,hx⟩:=List.mem_flatMap.1 hx
      unfold candW at hx
      split at hx
      · rw [List.mem_singleton.1 hx]
        refine filledP_ok (allOps_bd hy) ?_ _ (partsF_ok (findP_ok hz hf) _)
        simp only [widthsL,List.mem_cons,List.not_mem_nil,or_false] at hw
        omega
      · cases hx
    · cases hx
end Go.Proofs.YthmbmcckldgdiaaDoor.Mrm
namespace Go.Proofs.YthmbmcckldgdiaaDoor.Mrm
open Go Go.RowKit Mdl
set_option linter.unusedVariables false
set_option linter.unusedSimpArgs false
set_option linter.unnecessarySimpa false
set_option maxRecDepth 100000
def valQ (c:Cd) (cc rm8:Int):Int:=bif c.lo == 15 then c.va + cc else bif c.sh == 6 then c.va + rm8 else c.va
def frontB (c:Cd) (cc rm8:Int):Bool:=
  (decide (valQ c cc rm8 / 256 % 256=0) && (decide (valQ c cc rm8 % 256 ≠ 102) && (!rexB (valQ c cc rm8 % 256) && (decide (valQ c cc rm8 % 256 ≠ 15) && decide (valQ c cc rm8 % 256=valQ c cc rm8)))) || decide (valQ c cc rm8 / 256 % 256=15) && decide (3840 + valQ c cc rm8 % 256=valQ c cc rm8)) &&
  (isF (valQ c cc rm8) c && ((!(c.lo == 15) || decide (valQ c cc rm8 % 16=cc)) && (!(c.sh == 6) || decide (valQ c cc rm8 % 8=rm8))))
theorem front_fin:∀ k:Fin 38,∀ cc:Fin 16,∀ r:Fin 8,frontB (allOps.getD k.1 (0,zCd)).2 cc.1 r.1=true:=by decide +kernel
theorem front_is {y:Int × Cd} (h:y ∈ allOps) {cc r:Int} (c0:0 ≤ cc) (c1:cc < 16) (r0:0 ≤ r) (r1:r < 8):frontB y.2 cc r=true:=by
  obtain ⟨k,hk,rfl⟩:=List.getElem_of_mem h
  have:=front_fin ⟨k,by rw [← allOps_len];exact hk⟩ ⟨cc.toNat,by omega⟩ ⟨r.toNat,by omega⟩
  simp only [Int.toNat_of_nonneg c0,Int.toNat_of_nonneg r0] at this
  rw [List.getD_eq_getElem?_getD,List.getElem?_eq_getElem hk] at this
  exact this
theorem rexq_fin (wd:Bool):∀ r m:Fin 16,rexB (rexI wd r.1 m.1)=true ∧ wB (rexI wd r.1 m.1)=wd ∧ hiI (rexI wd r.1 m.1) 4=(r.1:Int) / 8 * 8 ∧ hiI (rexI wd r.1 m.1) 1=(m.1:Int) / 8 * 8 ∧ rexI wd r.1 m.1 ≠ 102:=by
  cases wd <;> decide +kernel
theorem rexq (wd:Bool) {r m:Int} (r0:0 ≤ r) (r1:r < 16) (m0:0 ≤ m) (m1:m < 16):rexB (rexI wd r m)=true ∧ wB (rexI wd r m)=wd ∧ hiI (rexI wd r m) 4=r / 8 * 8 ∧ hiI (rexI wd r m) 1=m / 8 * 8 ∧ rexI wd r m ≠ 102:=by
  have:=rexq_fin wd ⟨r.toNat,by omega⟩ ⟨m.toNat,by omega⟩
  simp only [Int.toNat_of_nonneg r0,Int.toNat_of_nonneg m0] at this
  exact this
theorem mem_lo (k:Nat) (h:k < 32):((k:Int),codeA (k:Int)) ∈ allOps:=by
  unfold allOps
  exact List.mem_append_left _ (List.mem_map.2 ⟨k,List.mem_range.2 h,rfl⟩)
theorem others_sub:∀ o ∈ othersL,o ∈ allOps:=by decide +kernel
theorem code_mem {op w:Int} (h:(codeOfP op w).2=true):(op,(codeOfP op w).1) ∈ allOps ∧ hasB (codeOfP op w).1 w=true:=by
  unfold codeOfP at *
  split at h
  · cases h
  rename_i ho
  rw [if_neg ho]
  split at h
  · rename_i hh
    rw [if_pos hh]
    refine ⟨?_,hh⟩
    have q:=mem_lo op.toNat (by omega)
    rw [Int.toNat_of_nonneg (by omega)] at q
    exact q
  · rename_i hh
    rw [if_neg hh]
    cases hf:othersL.find? (fun o=>o.1 == op && hasB o.2 w) with
    | none=>rw [hf] at h;cases h
    | some o=>
      have h1:=List.mem_of_find?_eq_some hf
      have h2:=List.find?_some hf
      simp only [Bool.and_eq_true,beq_iff_eq] at h2
      obtain ⟨rfl,h2⟩:=h2
      exact ⟨others_sub o h1,h2⟩
end Go.Proofs.YthmbmcckldgdiaaDoor.Mrm
namespace Go.Proofs.YthmbmcckldgdiaaDoor.Mrm
open Go Go.RowKit Mdl
set_option linter.unusedVariables false
set_option linter.unusedSimpArgs false
set_option linter.unnecessarySimpa false
set_option maxRecDepth 100000
def codeL (v:Int) (R:List Int):List Int:=((bif v / 256 % 256 != 0 then [v / 256 % 256] else []) ++ [v % 256]) ++ R
theorem codeL_is {y:Int × Cd} (h:y ∈ allOps) {cc r:Int} (c0:0 ≤ cc) (c1:cc < 16) (r0:0 ≤ r) (r1:r < 8) (R:List Int):
    (codeL (valQ y.2 cc r) R).headD 0 ≠ 102 ∧ rexB ((codeL (valQ y.2 cc r) R).headD 0)=false ∧ (∀ q,endF q (stripC (codeL (valQ y.2 cc r) R))=some ⟨q.1,q.2.1,q.2.2.1,valQ y.2 cc r,R⟩):=by
  have f:=front_is h c0 c1 r0 r1
  unfold frontB at f
  generalize valQ y.2 cc r=v at *
  rw [Bool.and_eq_true] at f
  have f1:=f.1
  clear f
  unfold codeL
  simp only [Bool.or_eq_true,Bool.and_eq_true,decide_eq_true_eq,Bool.not_eq_true'] at f1
  rcases f1 with ⟨e,n1,n2,n3,n4⟩ | ⟨e,n4⟩
  · rw [e]
    refine ⟨n1,n2,fun q=>?_⟩
    show endF q (stripC (v % 256 :: R))=_
    rw [stripC_no R n3,endF_some,Int.zero_add,n4]
  · rw [e]
    refine ⟨by show (15:Int) ≠ 102;decide,by show rexB 15=false;decide,fun q=>?_⟩
    show endF q (stripC (15 :: v % 256 :: R))=_
    rw [stripC_15,endF_some,n4]
theorem findR_made {y:Int × Cd} (h:y ∈ allOps) {cc r:Int} (c0:0 ≤ cc) (c1:cc < 16) (r0:0 ≤ r) (r1:r < 8) (R:List Int) (wd rex:Bool) {reg rm:Int} (g0:0 ≤ reg) (g1:reg < 16) (m0:0 ≤ rm) (m1:rm < 16)
    (hr:rex=false → wd=false ∧ reg < 8 ∧ rm < 8):
    findR ((bif rex then [rexI wd reg rm] else []) ++ codeL (valQ y.2 cc r) R)=some ⟨wd,reg / 8 * 8,rm / 8 * 8,valQ y.2 cc r,R⟩ ∧ ((bif rex then [rexI wd reg rm] else []) ++ codeL (valQ y.2 cc r) R).headD 0 ≠ 102:=by
  obtain ⟨a1,a2,a3⟩:=codeL_is h c0 c1 r0 r1 R
  obtain ⟨b1,b2,b3,b4,b5⟩:=rexq wd g0 g1 m0 m1
  cases rex with
  | true=>
    refine ⟨?_,b5⟩
    show findR (rexI wd reg rm :: codeL _ R)=_
    rw [findR_rex _ b1,a3,b2,b3,b4]
  | false=>
    obtain ⟨rfl,h8,h9⟩:=hr rfl
    refine ⟨?_,a1⟩
    show findR (codeL _ R)=_
    unfold findR stripQ
    rw [if_neg (by rw [a2];decide)]
    rw [a3,show reg / 8 * 8=0 by omega,show rm / 8 * 8=0 by omega]
theorem findP_made {y:Int × Cd} (h:y ∈ allOps) {cc r:Int} (c0:0 ≤ cc) (c1:cc < 16) (r0:0 ≤ r) (r1:r < 8) (R:List Int) (half wd rex:Bool) {reg rm:Int} (g0:0 ≤ reg) (g1:reg < 16) (m0:0 ≤ rm) (m1:rm < 16)
    (hr:rex=false → wd=false ∧ reg < 8 ∧ rm < 8):
    findP ((bif half then [102] else []) ++ ((bif rex then [rexI wd reg rm] else []) ++ codeL (valQ y.2 cc r) R))=some ⟨wd,reg / 8 * 8,rm / 8 * 8,valQ y.2 cc r,R⟩:=by
  obtain ⟨e1,e2⟩:=findR_made h c0 c1 r0 r1 R wd rex g0 g1 m0 m1 hr
  cases half with
  | true=>exact e1
  | false=>
    show findR (stripH (_:List Int)).2=_
    unfold stripH
    rw [cond_false,List.nil_append,if_neg e2]
    exact e1
theorem encP_split (w:Int) (c:Cd) (p:Pt) (t:List Int):encP w c p ++ t=(bif halfP w c then [102] else []) ++ ((bif rexP w c p then [rexI (w == 64) p.reg p.rm] else []) ++ codeL (valQ c p.cc (p.rm % 8)) (operandP c p ++ (immP c p ++ t))):=by
  have e:valP c p=valQ c p.cc (p.rm % 8):=rfl
  unfold encP aheadP codeL
  rw [e]
  simp only [List.append_assoc]
theorem find_enc {op w:Int} {c:Cd} {p:Pt} (h:(op,c) ∈ allOps) (g0:0 ≤ p.reg) (g1:p.reg < 16) (m0:0 ≤ p.rm) (m1:p.rm < 16) (c0:0 ≤ p.cc) (c1:p.cc < 16) (t:List Int):
    findP (encP w c p ++ t)=some ⟨w == 64,p.reg / 8 * 8,p.rm / 8 * 8,valQ c p.cc (p.rm % 8),operandP c p ++ (immP c p ++ t)⟩:=by
  rw [encP_split]
  refine findP_made (y:=(op,c)) h c0 c1 (by omega) (by omega) _ _ _ _ g0 g1 m0 m1 (fun hr=>?_)
  unfold rexP at hr
  simp only [Bool.or_eq_false_iff] at hr
  refine ⟨hr.2.1,?_⟩
  have hn:=hr.2.2
  unfold needB at hn
  rw [bothB_iff.2 ⟨⟨g0,g1⟩,m0,m1⟩,Bool.true_and] at hn
  simp only [Bool.or_eq_false_iff,decide_eq_false_iff_not] at hn
  omega
end Go.Proofs.YthmbmcckldgdiaaDoor.Mrm
