import Derived.Test.YtjhedldplmhmjaaDoorERd16
import Derived.Test.YtjhedldplmhmjaaDoorERd31
set_option linter.unusedVariables false
set_option linter.unusedSimpArgs false
set_option linter.unnecessarySimpa false
namespace Go.Proofs.YtjhedldplmhmjaaDoor.Mrm
open Go Go.RowKit
set_option linter.unusedVariables false
set_option linter.unusedSimpArgs false
set_option maxRecDepth 100000
structure Ahd (l:List Int) (s:Rdr) (q:List Int):Prop where
  lo:0 ≤ s.pos
  eq:l.drop s.pos.toNat=q
theorem Ahd.byte {l q:List Int} {s:Rdr} {z:Int} (h:Ahd l s (z :: q)):byteV l s=z ∧ byteS l s={ s with pos:=s.pos + 1 } ∧ s.pos < l.length:=by
  have hl:s.pos.toNat < l.length:=by
    have:=congrArg List.length h.eq
    simp only [List.length_drop,List.length_cons] at this
    omega
  have h0:=h.lo
  have hg:l[s.pos.toNat]?=some z:=by
    have:=congrArg (fun m=>m[0]?) h.eq
    simpa using this
  refine ⟨?_,?_,by omega⟩
  · unfold byteV;rw [List.getD_eq_getElem?_getD,hg];rfl
  · unfold byteS;rw [if_pos (by omega)]
theorem Ahd.on {l q:List Int} {s:Rdr} {z:Int} (h:Ahd l s (z :: q)) {t:Rdr} (ht:t.pos=s.pos + 1):Ahd l t q:=by
  have h0:=h.lo
  refine ⟨by omega,?_⟩
  rw [ht,show (s.pos + 1).toNat=s.pos.toNat + 1 by omega,← List.drop_drop,h.eq]
  rfl
theorem Ahd.num1 {l q:List Int} {s:Rdr} {v:Int} (h:Ahd l s (v % 256 :: q)) (hv:oneB v=true):sg8 (numA l s 1)=v ∧ numS l s 1={ s with pos:=s.pos + 1 }:=by
  obtain ⟨e1,e2,-⟩:=h.byte
  have eA:numA l s 1=0 + byteV l s * 2 ^ (8 * 0):=rfl
  have eS:numS l s 1=byteS l s:=rfl
  unfold oneB at hv
  simp only [Bool.and_eq_true,decide_eq_true_eq] at hv
  refine ⟨?_,eS.trans e2⟩
  rw [eA,e1]
  unfold sg8
  simp only [Nat.mul_zero,Int.pow_zero]
  split <;> omega
theorem Ahd.num4 {l q:List Int} {s:Rdr} {v:Int} (h:Ahd l s (numL v 4 ++ q)) (hv:fourB v=true):sg32 (numA l s 4)=v ∧ numS l s 4={ s with pos:=s.pos + 4 }:=by
  rw [numL4] at h
  obtain ⟨a1,b1,-⟩:=h.byte
  have h2:=h.on (t:=byteS l s) (by rw [b1])
  obtain ⟨a2,b2,-⟩:=h2.byte
  have h3:=h2.on (t:=byteS l (byteS l s)) (by rw [b2])
  obtain ⟨a3,b3,-⟩:=h3.byte
  have h4:=h3.on (t:=byteS l (byteS l (byteS l s))) (by rw [b3])
  obtain ⟨a4,b4,-⟩:=h4.byte
  have eA:numA l s 4=0 + byteV l s * 2 ^ (8 * 0) + byteV l (byteS l s) * 2 ^ (8 * 1) + byteV l (byteS l (byteS l s)) * 2 ^ (8 * 2) + byteV l (byteS l (byteS l (byteS l s))) * 2 ^ (8 * 3):=rfl
  have eS:numS l s 4=byteS l (byteS l (byteS l (byteS l s))):=rfl
  unfold fourB at hv
  simp only [Bool.and_eq_true,decide_eq_true_eq] at hv
  refine ⟨?_,?_⟩
  · rw [eA,a1,a2,a3,a4]
    unfold sg32
    simp only [Nat.mul_zero,Int.pow_zero,Nat.mul_one]
    split <;> omega
  · rw [eS,b4,b3,b2,b1]
    simp only [Rdr.mk.injEq,and_true]
    omega
def hi1 (r:Int):Int:=if 7 < r then 1 else 0
theorem Ahd.two {l q:List Int} {s:Rdr} {r m:Int} (h:Ahd l s (opI 192 r m :: q)) (hr:0 ≤ r ∧ r < 16) (hm:0 ≤ m ∧ m < 16) (er:s.r=hi1 r) (em:s.m=hi1 m) (hb:s.bad=false):rgD l s=r ∧ rgM l s=m ∧ twoS l s={ s with pos:=s.pos + 1 }:=by
  obtain ⟨e1,e2,-⟩:=h.byte
  unfold rgD rgM twoS
  rw [e1,e2,er,em]
  unfold opI hi1
  refine ⟨?_,?_,?_⟩
  · split <;> omega
  · split <;> omega
  · have:decide (192 + r % 8 * 8 + m % 8 < 192)=false:=by simp;omega
    simp only [hb,Bool.false_or,Rdr.mk.injEq,and_true,true_and,decide_eq_false_iff_not]
    omega
theorem Ahd.mem {l q:List Int} {s:Rdr} {r m d:Int} (h:Ahd l s (opI 128 r m :: (midL m ++ (numL d 4 ++ q)))) (hr:0 ≤ r ∧ r < 16) (hm:0 ≤ m ∧ m < 16) (hd:fourB d=true) (er:s.r=hi1 r) (em:s.m=hi1 m) (hb:s.bad=false):
    rgD l s=r ∧ rgM l s=m ∧ memD l s=d ∧ memS l s={ s with pos:=s.pos + 1 + (midL m).length + 4 }:=by
  obtain ⟨e1,e2,-⟩:=h.byte
  have hv:128 ≤ opI 128 r m ∧ opI 128 r m < 192 ∧ opI 128 r m % 8=m % 8:=by unfold opI;omega
  have k1:mem1S l s={ s with pos:=s.pos + 1 }:=by
    unfold mem1S
    rw [e1,e2]
    have x1:decide (opI 128 r m < 128)=false:=by simp;omega
    have x2:decide (192 ≤ opI 128 r m)=false:=by simp;omega
    rw [x1,x2]
    simp only [Bool.or_false]
  have h1:Ahd l (mem1S l s) (midL m ++ (numL d 4 ++ q)):=h.on (by rw [k1])
  have k2:mem2S l s={ s with pos:=s.pos + 1 + (midL m).length } ∧ Ahd l (mem2S l s) (numL d 4 ++ q):=by
    unfold mem2S
    rw [e1,hv.2.2]
    unfold midL at h1 ⊢
    by_cases h4:m % 8=4
    · rw [if_pos h4] at h1 ⊢
      rw [if_pos h4]
      obtain ⟨y1,y2,-⟩:=h1.byte
      rw [y1]
      refine ⟨?_,h1.on (by simp only;rw [y2])⟩
      rw [y2,k1]
      simp [hb]
    · rw [if_neg h4] at h1 ⊢
      rw [if_neg h4]
      refine ⟨?_,h1⟩
      rw [k1]
      simp
  obtain ⟨n1,n2⟩:=k2.2.num4 hd
  refine ⟨?_,?_,n1,?_⟩
  · unfold rgD;rw [e1,er];unfold opI hi1;split <;> omega
  · unfold rgM;rw [e1,em];unfold opI hi1;split <;> omega
  · unfold memS;rw [n2,k2.1]
theorem front_n (half wd al:Bool) {r m n:Int} (q:List Int) (hr:0 ≤ r ∧ r < 16) (hm:0 ≤ m ∧ m < 16) (hn:n / 16 ≠ 4) (hn2:n ≠ 102) {l:List Int} (hl:l=(if half then [102] else []) ++ (rexL wd r m al ++ n :: q)):
    preV l rd0=n ∧ preS l rd0=⟨((if half then 1 else 0:Nat) + (rexL wd r m al).length + 1:Nat),false,wd,hi1 r,hi1 m⟩ ∧ decide (byteV l rd0=102)=half ∧ Ahd l (preS l rd0) q:=by
  have A0:Ahd l rd0 l:=⟨Int.le_refl _,rfl⟩
  obtain ⟨p1,p2,p3,p4,p5⟩:=rexN_is wd hr hm
  have hbit:decide ((64 + rexN wd r m) / 2 % 2=1)=false:=by
    unfold rexN
    cases wd <;> cases decide (7 < r) <;> cases decide (7 < m) <;> decide
  have key:pre1V l rd0=(rexL wd r m al ++ n :: q).headD 0 ∧ pre1S l rd0=⟨((if half then 1 else 0:Nat) + 1:Nat),false,false,0,0⟩ ∧ decide (byteV l rd0=102)=half ∧ Ahd l (pre1S l rd0) (rexL wd r m al ++ n :: q).tail:=by
    have hx:∃ f t,rexL wd r m al ++ n :: q=f :: t ∧ f ≠ 102:=by
      unfold rexL
      split
      · exact ⟨n,q,rfl,hn2⟩
      · exact ⟨_,_,rfl,by omega⟩
    obtain ⟨f,t,hx,hf⟩:=hx
    rw [hx] at hl ⊢
    cases half
    · rw [hl] at A0
      have A0':Ahd l rd0 (f :: t):=by rw [hl];exact A0
      obtain ⟨e1,e2,-⟩:=A0'.byte
      unfold pre1V pre1S
      rw [e1,if_neg hf,if_neg hf,e2]
      refine ⟨rfl,rfl,by simpa using hf,A0'.on rfl⟩
    · have A0':Ahd l rd0 (102 :: f :: t):=by rw [hl];exact ⟨Int.le_refl _,rfl⟩
      obtain ⟨e1,e2,-⟩:=A0'.byte
      have A1:=A0'.on (t:=byteS l rd0) (by rw [e2])
      obtain ⟨g1,g2,-⟩:=A1.byte
      unfold pre1V pre1S
      rw [e1,if_pos rfl,if_pos rfl,g1,g2,e2]
      refine ⟨rfl,rfl,rfl,A1.on (by rw [e2])⟩
  obtain ⟨k1,k2,k3,k4⟩:=key
  rw [k2] at k4
  by_cases hx:rexN wd r m=0 ∧ al=false
  · obtain ⟨e1,e2,e3⟩:=p5 hx.1
    have hL:rexL wd r m al=[]:=by unfold rexL;exact if_pos hx
    have k1':pre1V l rd0=n:=by rw [k1,hL];rfl
    unfold preV preS
    rw [k1',k2,if_neg hn,if_neg hn]
    rw [hL] at k4 ⊢
    simp only [List.nil_append,List.tail_cons,List.length_nil,Nat.add_zero] at k4 ⊢
    refine ⟨trivial,?_,k3,k4⟩
    unfold hiB at e2 e3
    unfold hi1
    subst e1
    simp only [Rdr.mk.injEq,true_and]
    constructor <;> split <;> simp_all
  · have hL:rexL wd r m al=[64 + rexN wd r m]:=by unfold rexL;exact if_neg hx
    have k1':pre1V l rd0=64 + rexN wd r m:=by rw [k1,hL];rfl
    unfold preV preS
    rw [k1',k2,if_pos p1,if_pos p1]
    rw [hL] at k4 ⊢
    simp only [List.cons_append,List.nil_append,List.tail_cons,List.length_cons,List.length_nil] at k4 ⊢
    have A1:Ahd l (rexS (64 + rexN wd r m) ⟨((if half then 1 else 0:Nat) + 1:Nat),false,false,0,0⟩) (n :: q):=⟨k4.lo,k4.eq⟩
    obtain ⟨g1,g2,-⟩:=A1.byte
    rw [g1,g2]
    refine ⟨rfl,?_,k3,A1.on rfl⟩
    unfold rexS hi1
    unfold hiB at p3 p4
    rw [p2,hbit]
    simp only [Rdr.mk.injEq,true_and,Bool.or_false]
    refine ⟨by omega,?_,?_⟩
    · split <;> split at p3 <;> omega
    · split <;> split at p4 <;> omega
end Go.Proofs.YtjhedldplmhmjaaDoor.Mrm
