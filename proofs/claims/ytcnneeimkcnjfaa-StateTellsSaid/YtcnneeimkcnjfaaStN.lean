import Derived.Test.YtcnneeimkcnjfaaStM
import Derived.Test.YtcnneeimkcnjfaaKnwN
namespace Go.Proofs.Ytcnneeimkcnjfaa.Sta
open Bnd Knw
set_option linter.unusedVariables false
set_option linter.unusedSimpArgs false
theorem may_ok (k:Kn):k.mayB=true ↔ Knw.Ok k:=Knw.may_iff k
theorem has_is (k:Kn) (v:B):k.hasB v=(k.mayB && ((v &&& ~~~k.m) == k.v)):=by
  rw [Bool.eq_iff_iff,Knw.has_iff,Bool.and_eq_true,may_ok,beq_iff_eq]
  refine and_congr_right fun ok=>?_
  constructor
  · intro h
    refine ext fun i=>?_
    have h1:=h i;have h2:=ok i
    rw [g_an]
    revert h1 h2
    generalize g k.m i=a;generalize g v i=b;generalize g k.v i=c
    revert a b c;decide
  · intro h i hi
    have:=congrArg (fun x=>g x i) h
    simp only [g_an,hi,Bool.not_false,Bool.and_true] at this
    exact this
theorem meet_is {a b:Kn} (h:a.meetB b=true):msk (a.v ||| b.v) (a.m &&& b.m)=⟨a.v ||| b.v,a.m &&& b.m⟩:=by
  obtain ⟨oa,ob,_⟩:=(Knw.meetB_iff a b).1 h
  unfold msk
  congr 1
  refine ext fun i=>?_
  have h1:=oa i;have h2:=ob i
  rw [g_an,g_or,g_and]
  revert h1 h2
  generalize g a.m i=p;generalize g b.m i=q;generalize g a.v i=r;generalize g b.v i=s
  revert p q r s;decide
def onesB (k:Nat):B:=Bk (2 ^ k - 1)
theorem ones_V {k:Nat} (hk:k ≤ 64):V (onesB k)=2 ^ k - 1:=by
  have p:(2:Int) ^ k=((2 ^ k:Nat):Int):=pow_cast k
  have q:2 ^ k ≤ 2 ^ 64:=Nat.pow_le_pow_right (by decide) hk
  have r:0 < 2 ^ k:=Nat.two_pow_pos _
  unfold onesB
  rw [V_Bk (by rw [p];omega) (by rw [p];omega)]
theorem g_ones {k:Nat} (hk:k ≤ 64) (i:Nat):g (onesB k) i=decide (i < k):=by
  have p:(2:Int) ^ k=((2 ^ k:Nat):Int):=pow_cast k
  have q:2 ^ k ≤ 2 ^ 64:=Nat.pow_le_pow_right (by decide) hk
  unfold onesB
  rw [g_Bk i (by rw [p];omega),p,show (((2 ^ k:Nat):Int) - 1).toNat=2 ^ k - 1 by omega,Nat.testBit_two_pow_sub_one]
theorem lenN_le {n k:Nat}:lenN n ≤ k ↔ n < 2 ^ k:=by
  obtain ⟨h1,h2⟩:=lenN_spec n
  constructor
  · intro h
    exact Nat.lt_of_lt_of_le h1 (Nat.pow_le_pow_right (by decide) h)
  · intro h
    by_cases z:n=0
    · rw [z,lenN_zero];omega
    · have:=h2 z
      by_cases c:lenN n ≤ k
      · exact c
      · have:2 ^ k ≤ 2 ^ (lenN n - 1):=Nat.pow_le_pow_right (by decide) (by omega)
        omega
theorem ones_test {k:Nat} (hk:k ≤ 64) (x:B):((x &&& ~~~onesB k) == 0#64)=decide (lenN x.toNat ≤ k):=by
  rw [Bool.eq_iff_iff,beq_iff_eq,decide_eq_true_eq,lenN_le]
  constructor
  · intro h
    refine Nat.lt_pow_two_of_testBit _ (fun i hi=>?_)
    have e:=congrArg (fun x=>g x i) h
    simp only [g_an,g_0,g_ones hk,show ¬ i < k by omega,decide_false,Bool.not_false,Bool.and_true] at e
    exact e
  · intro h
    refine ext fun i=>?_
    rw [g_an,g_0,g_ones hk]
    by_cases c:i < k
    · rw [decide_eq_true c];simp
    · rw [decide_eq_false c,Bool.not_false,Bool.and_true]
      exact Nat.testBit_lt_two_pow (Nat.lt_of_lt_of_le h (Nat.pow_le_pow_right (by decide) (by omega)))
theorem com_ones (lo hi:B):comB lo hi=onesB (lenN (lo ^^^ hi).toNat):=rfl
end Go.Proofs.Ytcnneeimkcnjfaa.Sta
