import Derived.Test.YtcnneeimkcnjfaaRows
import Derived.WalkKit
import Derived.WalkSpells
import Derived.WalkLawsBesides
import Derived.Lib.Hide
import Derived.Test.YtcnneeimkcnjfaaRow
import Derived.Deep.LoopGhost
import Derived.Deep.OwnRows
import Derived.Handy
namespace Go.Proofs.Ytcnneeimkcnjfaa
open Go.RowKit
set_option linter.unusedVariables false
def getI (f:Nat → Int):Nat → Int
  | 0=>0
  | k + 1=>getI f k + f k * 2 ^ (8 * k)
theorem getI_bd (f:Nat → Int):∀ k:Nat,(∀ i,i < k → 0 ≤ f i ∧ f i < 256) → 0 ≤ getI f k ∧ getI f k < 2 ^ (8 * k)
  | 0,_=>⟨by unfold getI;omega,by show (0:Int) < 2 ^ (8 * 0);decide⟩
  | k + 1,h=>by
    have ih:=getI_bd f k (fun i hi=>h i (by omega))
    have b:=h k (by omega)
    have p:(0:Int) < 2 ^ (8 * k):=Int.pow_pos (by omega)
    have e:(2:Int) ^ (8 * (k + 1))=256 * 2 ^ (8 * k):=by rw [show 8 * (k + 1)=8 + 8 * k by omega,Int.pow_add];rfl
    have u:f k * 2 ^ (8 * k) ≤ 255 * 2 ^ (8 * k):=Int.mul_le_mul_of_nonneg_right (by omega) (by omega)
    have v:0 ≤ f k * 2 ^ (8 * k):=Int.mul_nonneg b.1 (by omega)
    unfold getI
    rw [e]
    omega
theorem get_step (x y:Int) (k:Nat) (h8:k < 8) (hx0:0 ≤ x) (hx1:x < 2 ^ (8 * k)) (hy0:0 ≤ y) (hy1:y < 256):bits .or .u64 x (y * 2 ^ (8 * k) % 18446744073709551616)=x + y * 2 ^ (8 * k):=by
  have p:(0:Int) < 2 ^ (8 * k):=Int.pow_pos (by omega)
  have q:(2:Int) ^ (8 * k) ≤ 2 ^ 56:=by
    have:=Nat.pow_le_pow_right (show 0 < 2 by omega) (show 8 * k ≤ 56 by omega)
    have e:((2 ^ (8 * k):Nat):Int) ≤ ((2 ^ 56:Nat):Int):=by omega
    simpa using e
  have r:(2:Int) ^ 56=72057594037927936:=rfl
  have u:y * 2 ^ (8 * k) ≤ 255 * 2 ^ (8 * k):=Int.mul_le_mul_of_nonneg_right (by omega) (by omega)
  have v:0 ≤ y * 2 ^ (8 * k):=Int.mul_nonneg hy0 (by omega)
  rw [Int.emod_eq_of_lt v (by omega),u64_or _ _ hx0 (by omega) v (by omega)]
  obtain ⟨X,rfl⟩:=Int.eq_ofNat_of_zero_le hx0
  obtain ⟨Y,rfl⟩:=Int.eq_ofNat_of_zero_le hy0
  have c:((Y:Int) * 2 ^ (8 * k))=((2 ^ (8 * k) * Y:Nat):Int):=by rw [Nat.mul_comm (2 ^ (8 * k)) Y];simp
  have d:X < 2 ^ (8 * k):=by
    have e:(X:Int) < ((2 ^ (8 * k):Nat):Int):=by simpa using hx1
    omega
  rw [c,Int.toNat_natCast,Int.toNat_natCast,Nat.or_comm,← Nat.two_pow_add_eq_or_of_lt d]
  omega
set_option maxHeartbeats 1000000 in
theorem get_few (b off len cap:Nat) (f:Nat → Int) (W:World) (hl:len ≤ 8) (hc:len ≤ cap) (hm:cap ≤ 9223372036854775807) (hf:∀ i,i < len → 0 ≤ f i ∧ f i < 256) (hcell:∀ i,i < len → W.cell? ⟨b,off + i,none⟩=some (.int .u8 (f i))):
    Calls Try.prog 47 #[.slice (some ⟨b,off,none⟩) len cap] W fun e w'=>e=.returned (.int .u64 (getI f len)) ∧ W=w':=by
  have HC:=Lib.hid hcell;clear hcell
  have HF:=Lib.hid hf;clear hf
  go_enter Try.func47,Try.ntmps47
  go_wp2
  go_loop [3,12] (fun v i=>∃ k:Nat,k ≤ len ∧ i=.int .i64 k ∧ v=.int .u64 (getI f k)) (fun _ i=>len - (intOf i).toNat)
  case atStart=>exact ⟨0,by omega,rfl,rfl⟩
  case round=>
    obtain ⟨k,hk,rfl,rfl⟩:=hrel
    by_cases hlt:k < len
    · have hb:=getI_bd f k (fun i hi=>HF.out i (by omega))
      have hy:=HF.out k hlt
      have e1:min (8 * k) 64=8 * k:=by omega
      have e2:=Lib.hid (get_step (getI f k) (f k) k (by omega) hb.1 hb.2 hy.1 hy.2)
      have hx:=HC.out k hlt
      have hy0:=hy.1
      have hy1:=hy.2
      clear hb hy
      go_wp2
      go_round
      case rel=>exact ⟨k + 1,by omega,by go_num,by rw [IntKind.wrap_u64,e2.out];rfl⟩
      case measure=>simp [intOf];omega
    · obtain rfl:k=len:=by omega
      go_wp2
      go_ret
      exact ⟨rfl,rfl⟩
end Go.Proofs.Ytcnneeimkcnjfaa
