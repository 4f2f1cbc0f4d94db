import Derived.Test.YtcnneeimkcnjfaaKnwM
namespace Go.Proofs.Ytcnneeimkcnjfaa.Knw
set_option linter.unusedVariables false
set_option linter.unusedSimpArgs false
def wN (w:Int):Nat:=if w=8 then 8 else if w=16 then 16 else if w=32 then 32 else 64
theorem g_Bk {z:Int} (i:Nat) (h1:z < 18446744073709551616):g (Bk z) i=z.toNat.testBit i:=by
  show (BitVec.ofNat 64 z.toNat).getLsbD i=_
  rw [BitVec.getLsbD_ofNat]
  by_cases h:i < 64
  · simp [h]
  · rw [Nat.testBit_lt_two_pow (Nat.lt_of_lt_of_le (show z.toNat < 2 ^ 64 by omega) (Nat.pow_le_pow_right (by omega) (by omega)))];simp
theorem g_cut (x:B) (w:Int) (i:Nat):g (cutB x w) i=(decide (i < wN w) && g x i):=by
  obtain ⟨c0,c1⟩:=cutI_bd (V x) w (V_nn x) (V_lt x)
  unfold cutB
  rw [g_Bk i c1]
  unfold cutI wN
  have e:∀ n:Nat,((x.toNat % 2 ^ n:Nat)).testBit i=(decide (i < n) && g x i):=fun n=>by rw [Nat.testBit_mod_two_pow];rfl
  by_cases h8:w=8
  · rw [if_pos h8,if_pos h8,← e 8];congr 1
  rw [if_neg h8,if_neg h8]
  by_cases h16:w=16
  · rw [if_pos h16,if_pos h16,← e 16];congr 1
  rw [if_neg h16,if_neg h16]
  by_cases h32:w=32
  · rw [if_pos h32,if_pos h32,← e 32];congr 1
  rw [if_neg h32,if_neg h32,← e 64];congr 1;unfold V;have:=x.isLt;omega
theorem cutK_is {k:Kn} (h:Ok k) (w:Int):k.cutK w=⟨cutB k.v w,cutB k.m w⟩:=by
  unfold Kn.cutK
  rw [if_pos ((may_iff k).2 h)]
  unfold msk
  congr 1
  exact ext fun i=>by
    have:=h i
    rw [g_an,g_cut,g_cut]
    revert this
    generalize g k.v i=p;generalize g k.m i=q;generalize decide (i < wN w)=r
    revert p q r;decide
end Go.Proofs.Ytcnneeimkcnjfaa.Knw
