import Derived.Test.YtcnneeimkcnjfaaStR
namespace Go.Proofs.Ytcnneeimkcnjfaa.Sta
open Bnd Knw
set_option linter.unusedVariables false
set_option linter.unusedSimpArgs false
theorem p2 (k:Nat):(2:Int) ^ (8 * (k + 1))=256 * 2 ^ (8 * k):=by
  rw [show 8 * (k + 1)=8 * k + 8 by omega,Int.pow_add,Int.mul_comm];rfl
theorem getI_cons (f:Nat → Int):∀ n:Nat,getI f (n + 1)=f 0 + 256 * getI (fun j=>f (j + 1)) n
  | 0=>by
    show getI f 0 + f 0 * 2 ^ (8 * 0)=f 0 + 256 * 0
    show (0:Int) + f 0 * 2 ^ (8 * 0)=f 0 + 256 * 0
    rw [show (2:Int) ^ (8 * 0)=1 from rfl];omega
  | n + 1=>by
    show getI f (n + 1) + f (n + 1) * 2 ^ (8 * (n + 1))=f 0 + 256 * (getI (fun j=>f (j + 1)) n + f (n + 1) * 2 ^ (8 * n))
    rw [getI_cons f n,p2,Int.mul_add,← Int.mul_assoc,← Int.mul_assoc,Int.mul_comm (f (n + 1)) 256,Int.add_assoc]
def topN (f:Nat → Int) (a n m:Nat):B:=Bk (getI (fun j=>f (a + (n - m) + j)) m)
theorem top_bd {f:Nat → Int} {a n m:Nat} (hm:m ≤ n) (hn:n ≤ 8) (hf:∀ j,j < n → 0 ≤ f (a + j) ∧ f (a + j) < 256):0 ≤ getI (fun j=>f (a + (n - m) + j)) m ∧ getI (fun j=>f (a + (n - m) + j)) m < 2 ^ (8 * m):=
  getI_bd _ m (fun i hi=>by have:=hf (n - m + i) (by omega);rw [show a + (n - m + i)=a + (n - m) + i by omega] at this;exact this)
theorem pw8 {m:Nat} (hm:m ≤ 8):(2:Int) ^ (8 * m) ≤ 18446744073709551616 ∧ (m < 8 → 256 * (2:Int) ^ (8 * m) ≤ 18446744073709551616):=by
  have p:∀ k:Nat,(2:Int) ^ k=((2 ^ k:Nat):Int):=pow_cast
  refine ⟨?_,fun h=>?_⟩
  · have:2 ^ (8 * m) ≤ 2 ^ 64:=Nat.pow_le_pow_right (by decide) (by omega)
    rw [p];omega
  · rw [← p2,p]
    have:2 ^ (8 * (m + 1)) ≤ 2 ^ 64:=Nat.pow_le_pow_right (by decide) (by omega)
    omega
theorem top_V {f:Nat → Int} {a n m:Nat} (hm:m ≤ n) (hn:n ≤ 8) (hf:∀ j,j < n → 0 ≤ f (a + j) ∧ f (a + j) < 256):V (topN f a n m)=getI (fun j=>f (a + (n - m) + j)) m:=by
  have b:=top_bd hm hn hf
  have p:=(pw8 (show m ≤ 8 by omega)).1
  unfold topN
  exact V_Bk b.1 (by omega)
theorem top_0 (f:Nat → Int) (a n:Nat):(0:Int)=V (topN f a n 0):=by
  unfold topN
  show (0:Int)=V (Bk 0)
  decide
theorem top_step {f:Nat → Int} {a n m:Nat} (hm:m < n) (hn:n ≤ 8) (hf:∀ j,j < n → 0 ≤ f (a + j) ∧ f (a + j) < 256):bits .or .u64 (V (topN f a n m) * 2 ^ Int.toNat 8 % 18446744073709551616) (f (a + (n - 1 - m)))=V (topN f a n (m + 1)):=by
  rw [top_V (by omega) hn hf,top_V (by omega) hn hf,getI_cons]
  have b:=top_bd (m:=m) (by omega) hn hf
  have p:=(pw8 (show m ≤ 8 by omega)).2 (by omega)
  have y:=hf (n - 1 - m) (by omega)
  have e:(fun j=>f (a + (n - (m + 1)) + (j + 1)))=fun j=>f (a + (n - m) + j):=by
    funext j;rw [show a + (n - (m + 1)) + (j + 1)=a + (n - m) + j by omega]
  rw [show (2:Int) ^ Int.toNat 8=256 from rfl,show a + (n - (m + 1)) + 0=a + (n - 1 - m) by omega,e]
  generalize getI (fun j=>f (a + (n - m) + j)) m=X at *
  generalize f (a + (n - 1 - m))=z at *
  rw [Int.emod_eq_of_lt (by omega) (by omega),u64_or _ _ (by omega) (by omega) y.1 (by omega)]
  have n1:(X * 256).toNat=2 ^ 8 * X.toNat:=by omega
  have o:=Nat.two_pow_add_eq_or_of_lt (i:=8) (b:=z.toNat) (by omega) X.toNat
  rw [n1,← o];omega
theorem top_full (f:Nat → Int) (a n:Nat):topN f a n n=Bk (getI (fun j=>f (a + j)) n):=by
  unfold topN
  rw [show n - n=0 by omega];rfl
def byB (v:B) (k:Nat):Int:=V v / 2 ^ (8 * k) % 256
def Snp.put (X:Snp) (a k:Nat) (v:B):Snp:={ X with f:=fun j=>if a ≤ j ∧ j < a + k then byB v (j - a) else X.f j }
theorem place_bd {S:St} {lo hi size:Int} (h:placeB S lo hi size=true):okS S=true ∧ withinB lo hi size=true ∧ 0 ≤ lo ∧ lo ≤ hi ∧ hi ≤ 64 - size ∧ (size=1 ∨ size=2 ∨ size=4 ∨ size=8):=by
  unfold placeB at h
  rw [Bool.and_eq_true] at h
  exact ⟨h.1,h.2,within_bd h.2⟩
end Go.Proofs.Ytcnneeimkcnjfaa.Sta
