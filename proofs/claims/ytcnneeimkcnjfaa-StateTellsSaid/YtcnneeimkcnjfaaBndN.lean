import Derived.Test.YtcnneeimkcnjfaaBndM
namespace Go.Proofs.Ytcnneeimkcnjfaa.Bnd
set_option linter.unusedVariables false
set_option linter.unnecessarySimpa false
set_option linter.unusedSimpArgs false
theorem lenN_spec (n:Nat):n < 2 ^ lenN n ∧ (n ≠ 0 → 2 ^ (lenN n - 1) ≤ n):=by
  unfold lenN
  split
  · subst_vars;simp
  · rename_i h;exact ⟨Nat.lt_log2_self,fun _=>by simpa using Nat.log2_self_le h⟩
theorem pow_inj {a b:Nat} (h:2 ^ a < 2 ^ b):a < b:=(Nat.pow_lt_pow_iff_right (by omega)).1 h
theorem lenN_zero:lenN 0=0:=rfl
theorem lenN_pos {n:Nat} (h:n ≠ 0):0 < lenN n:=by unfold lenN;rw [if_neg h];omega
theorem lenN_is {n L:Nat} (h:n ≠ 0) (h1:n < 2 ^ L) (h2:2 ^ (L - 1) ≤ n) (hL:0 < L):lenN n=L:=by
  obtain ⟨a,b⟩:=lenN_spec n
  have b':=b h
  have p:=lenN_pos h
  have c:=pow_inj (Nat.lt_of_le_of_lt b' h1)
  have d:=pow_inj (Nat.lt_of_le_of_lt h2 a)
  omega
theorem lenN_64 {n:Nat} (h:n < 18446744073709551616):lenN n ≤ 64:=by
  by_cases h0:n=0
  · subst h0;rw [lenN_zero];omega
  · have:=(lenN_spec n).2 h0
    have l:=pow_inj (Nat.lt_of_le_of_lt this (show n < 2 ^ 64 from h))
    omega
theorem pow_cast (n:Nat):(2:Int) ^ n=((2 ^ n:Nat):Int):=by simp
theorem onesI_is (n:Nat):onesI n=((2 ^ lenN n:Nat):Int) - 1:=by unfold onesI;rw [pow_cast]
theorem onesI_bd {n:Nat} (h:n < 18446744073709551616):0 ≤ onesI n ∧ onesI n < 18446744073709551616:=by
  rw [onesI_is]
  have p:0 < 2 ^ lenN n:=Nat.two_pow_pos _
  have q:2 ^ lenN n ≤ 2 ^ 64:=Nat.pow_le_pow_right (by omega) (lenN_64 h)
  omega
theorem in_iff (a b:Rg):a.inB b=true ↔ a.mayB=true ∧ b.mayB=true ∧ b.u.lo ≤ a.u.lo ∧ a.u.hi ≤ b.u.hi ∧ b.s.lo ≤ a.s.lo ∧ a.s.hi ≤ b.s.hi:=by
  simp only [Rg.inB,Pr.inB,Bool.and_eq_true,decide_eq_true_eq]
  constructor
  · rintro ⟨a,b,⟨c,d⟩,e,f⟩;exact ⟨a,b,c,d,e,f⟩
  · rintro ⟨a,b,c,d,e,f⟩;exact ⟨a,b,⟨c,d⟩,e,f⟩
theorem meet_ok {a b:Rg} (ha:a.Ok) (hb:b.Ok):(a.meet2 b).Ok:=by
  simp only [Rg.Ok,Pr.U,Pr.S,Rg.meet2,Pr.meet] at *
  omega
end Go.Proofs.Ytcnneeimkcnjfaa.Bnd
