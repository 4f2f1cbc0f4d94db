import Derived.Test.YtcnneeimkcnjfaaBitsM
namespace Go.Proofs.Ytcnneeimkcnjfaa.Bnd
set_option linter.unusedVariables false
set_option linter.unnecessarySimpa false
set_option linter.unusedSimpArgs false
def sg (v:Int):Int:=(v + 9223372036854775808) % 18446744073709551616 - 9223372036854775808
def un (v:Int):Int:=v % 18446744073709551616
structure Pr where
  lo:Int
  hi:Int
structure Rg where
  u:Pr
  s:Pr
def Pr.U (p:Pr):Prop:=(0 ≤ p.lo ∧ p.lo < 18446744073709551616) ∧ 0 ≤ p.hi ∧ p.hi < 18446744073709551616
def Pr.S (p:Pr):Prop:=(-9223372036854775808 ≤ p.lo ∧ p.lo < 9223372036854775808) ∧ -9223372036854775808 ≤ p.hi ∧ p.hi < 9223372036854775808
def Rg.Ok (r:Rg):Prop:=r.u.U ∧ r.s.S
def Pr.val (k:IntKind) (p:Pr):Value:=.agg #[.int k p.lo,.int k p.hi]
def Rg.val (r:Rg):Value:=.agg #[.int .u64 r.u.lo,.int .u64 r.u.hi,.int .i64 r.s.lo,.int .i64 r.s.hi]
def eqR (a b:Rg):Bool:=a.u.lo == b.u.lo && (a.u.hi == b.u.hi && (a.s.lo == b.s.lo && a.s.hi == b.s.hi))
def allU:Pr:=⟨0,18446744073709551615⟩
def allS:Pr:=⟨-9223372036854775808,9223372036854775807⟩
def allR:Rg:=⟨allU,allS⟩
def oneR (v:Int):Rg:=⟨⟨v,v⟩,⟨sg v,sg v⟩⟩
def noneP:Pr:=⟨1,0⟩
def Pr.mayB (p:Pr):Bool:=decide (p.lo ≤ p.hi)
def Pr.hasB (p:Pr) (v:Int):Bool:=decide (p.lo ≤ v) && decide (v ≤ p.hi)
def Pr.inB (p q:Pr):Bool:=decide (q.lo ≤ p.lo) && decide (p.hi ≤ q.hi)
def Pr.join (p q:Pr):Pr:=⟨min p.lo q.lo,max p.hi q.hi⟩
def Pr.meet (p q:Pr):Pr:=⟨max p.lo q.lo,min p.hi q.hi⟩
def sameU (p q:Pr):Pr:=if (q.lo < 9223372036854775808 ↔ q.hi < 9223372036854775808) then ⟨sg q.lo,sg q.hi⟩ else p
def sameS (p q:Pr):Pr:=if (q.lo < 0 ↔ q.hi < 0) then ⟨un q.lo,un q.hi⟩ else p
def Rg.mayB (r:Rg):Bool:=r.u.mayB && r.s.mayB
def Rg.hasB (r:Rg) (v:Int):Bool:=r.u.hasB v && r.s.hasB (sg v)
def Rg.inB (a b:Rg):Bool:=a.mayB && (b.mayB && (a.u.inB b.u && a.s.inB b.s))
def Rg.nS (r:Rg):Rg:=⟨r.u,r.s.meet (sameU r.s r.u)⟩
def Rg.nU (r:Rg):Rg:=⟨r.u.meet (sameS r.u r.s),r.s⟩
def Rg.nar3 (r:Rg):Rg:=r.nS.nU.nS
def Rg.narB (r:Rg):Bool:=r.nar3.mayB
def Rg.nar (r:Rg):Rg:=if r.narB then r.nar3 else allR
def Rg.joinR (a b:Rg):Rg:=if a.mayB && b.mayB then ⟨a.u.join b.u,a.s.join b.s⟩ else allR
def Rg.meet2 (a b:Rg):Rg:=⟨a.u.meet b.u,a.s.meet b.s⟩
def Rg.meetR (a b:Rg):Rg:=if a.mayB && b.mayB then (a.meet2 b).nar else allR
def Rg.meetB (a b:Rg):Bool:=a.mayB && (b.mayB && (a.meet2 b).narB)
def lenN (n:Nat):Nat:=if n=0 then 0 else n.log2 + 1
def onesI (n:Nat):Int:=2 ^ lenN n - 1
def inS (v:Int):Prop:=-9223372036854775808 ≤ v ∧ v < 9223372036854775808
instance (v:Int):Decidable (inS v):=inferInstanceAs (Decidable (_ ∧ _))
def Pr.below (p q:Pr):Pr:=if q.hi ≤ p.lo then noneP else ⟨p.lo,min p.hi (q.hi - 1)⟩
theorem may_iff (r:Rg):r.mayB=true ↔ r.u.lo ≤ r.u.hi ∧ r.s.lo ≤ r.s.hi:=by
  simp only [Rg.mayB,Pr.mayB,Bool.and_eq_true,decide_eq_true_eq]
theorem may_nS {r:Rg} (h:r.nS.mayB=true):r.mayB=true:=by
  rw [may_iff] at h ⊢
  simp only [Rg.nS,Pr.meet] at h
  omega
theorem may_nU {r:Rg} (h:r.nU.mayB=true):r.mayB=true:=by
  rw [may_iff] at h ⊢
  simp only [Rg.nU,Pr.meet] at h
  omega
theorem nar_of_no {r:Rg} (h:r.mayB=false):r.narB=false:=by
  cases e:r.narB
  · rfl
  · rw [may_nS (may_nU (may_nS e))] at h;cases h
theorem nar_of_no1 {r:Rg} (h:r.nS.mayB=false):r.narB=false:=by
  cases e:r.narB
  · rfl
  · rw [may_nU (may_nS e)] at h;cases h
theorem nar_of_no2 {r:Rg} (h:r.nS.nU.mayB=false):r.narB=false:=by
  cases e:r.narB
  · rfl
  · rw [may_nS e] at h;cases h
theorem U_all:allU.U:=by simp only [Pr.U,allU];omega
theorem S_all:allS.S:=by simp only [Pr.S,allS];omega
theorem sg_bd (v:Int):-9223372036854775808 ≤ sg v ∧ sg v < 9223372036854775808:=by unfold sg;omega
theorem un_bd (v:Int):0 ≤ un v ∧ un v < 18446744073709551616:=by unfold un;omega
theorem ok_nS {r:Rg} (h:r.Ok):r.nS.Ok:=by
  obtain ⟨hu,hs⟩:=h
  refine ⟨hu,?_⟩
  have a:=sg_bd r.u.lo
  have b:=sg_bd r.u.hi
  simp only [Pr.S,Pr.U,Rg.nS,Pr.meet,sameU] at *
  split <;> (try dsimp only) <;> omega
theorem ok_nU {r:Rg} (h:r.Ok):r.nU.Ok:=by
  obtain ⟨hu,hs⟩:=h
  refine ⟨?_,hs⟩
  have a:=un_bd r.s.lo
  have b:=un_bd r.s.hi
  simp only [Pr.S,Pr.U,Rg.nU,Pr.meet,sameS] at *
  split <;> (try dsimp only) <;> omega
theorem ok_nar {r:Rg} (h:r.Ok):r.nar.Ok:=by
  unfold Rg.nar
  split
  · exact ok_nS (ok_nU (ok_nS h))
  · exact ⟨U_all,S_all⟩
theorem has_iff (r:Rg) (v:Int):r.hasB v=true ↔ r.u.lo ≤ v ∧ v ≤ r.u.hi ∧ r.s.lo ≤ sg v ∧ sg v ≤ r.s.hi:=by
  simp only [Rg.hasB,Pr.hasB,Bool.and_eq_true,decide_eq_true_eq]
  constructor
  · rintro ⟨⟨a,b⟩,c,d⟩;exact ⟨a,b,c,d⟩
  · rintro ⟨a,b,c,d⟩;exact ⟨⟨a,b⟩,c,d⟩
theorem has_may {r:Rg} {v:Int} (h:r.hasB v=true):r.mayB=true:=by
  rw [has_iff] at h
  rw [may_iff]
  omega
end Go.Proofs.Ytcnneeimkcnjfaa.Bnd
