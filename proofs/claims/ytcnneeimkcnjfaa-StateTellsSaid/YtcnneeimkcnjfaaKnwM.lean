import Derived.Test.YtcnneeimkcnjfaaBitsM
namespace Go.Proofs.Ytcnneeimkcnjfaa.Knw
set_option linter.unusedVariables false
set_option linter.unusedSimpArgs false
abbrev B:=BitVec 64
structure Kn where
  v:B
  m:B
def V (x:B):Int:=(x.toNat:Int)
theorem V_nn (x:B):0 ≤ V x:=by unfold V;omega
theorem V_lt (x:B):V x < 18446744073709551616:=by have:=x.isLt;unfold V;omega
theorem V_nat (x:B):(V x).toNat=x.toNat:=Int.toNat_natCast _
theorem V_inj {x y:B} (h:V x=V y):x=y:=BitVec.eq_of_toNat_eq (by unfold V at h;omega)
def Bk (z:Int):B:=BitVec.ofNat 64 z.toNat
theorem V_Bk {z:Int} (h0:0 ≤ z) (h1:z < 18446744073709551616):V (Bk z)=z:=by
  unfold V Bk
  rw [BitVec.toNat_ofNat];omega
theorem V_and (a b:B):bits .and .u64 (V a) (V b)=V (a &&& b):=by rw [u64_and _ _ (V_nn a) (V_lt a) (V_nn b) (V_lt b),V_nat,V_nat,← BitVec.toNat_and];rfl
theorem V_or (a b:B):bits .or .u64 (V a) (V b)=V (a ||| b):=by rw [u64_or _ _ (V_nn a) (V_lt a) (V_nn b) (V_lt b),V_nat,V_nat,← BitVec.toNat_or];rfl
theorem V_xor (a b:B):bits .xor .u64 (V a) (V b)=V (a ^^^ b):=by rw [u64_xor _ _ (V_nn a) (V_lt a) (V_nn b) (V_lt b),V_nat,V_nat,← BitVec.toNat_xor];rfl
theorem V_an (a b:B):bits .andNot .u64 (V a) (V b)=V (a &&& ~~~b):=by
  rw [u64_andNot _ _ (V_nn a) (V_lt a) (V_nn b) (V_lt b),V_nat,V_nat]
  unfold V
  rw [BitVec.toNat_and,BitVec.toNat_not]
theorem V_sub (a b:B):IntKind.u64.wrap (V a - V b)=V (a - b):=by
  have:=a.isLt;have:=b.isLt
  rw [IntKind.wrap_u64];unfold V;rw [BitVec.toNat_sub];omega
theorem V_beq (a b:B):(V a == V b)=(a == b):=by
  rw [Bool.eq_iff_iff,beq_iff_eq,beq_iff_eq]
  exact ⟨V_inj,fun h=>by rw [h]⟩
abbrev g (x:B) (i:Nat):Bool:=x.getLsbD i
theorem ext {a b:B} (h:∀ i,g a i=g b i):a=b:=BitVec.eq_of_getLsbD_eq (fun i _=>h i)
theorem g_ge (x:B) {i:Nat} (h:64 ≤ i):g x i=false:=BitVec.getLsbD_of_ge x i h
theorem g_and (a b:B) (i:Nat):g (a &&& b) i=(g a i && g b i):=BitVec.getLsbD_and
theorem g_or (a b:B) (i:Nat):g (a ||| b) i=(g a i || g b i):=BitVec.getLsbD_or
theorem g_xor (a b:B) (i:Nat):g (a ^^^ b) i=(g a i ^^ g b i):=BitVec.getLsbD_xor
theorem g_not (a:B) {i:Nat} (h:i < 64):g (~~~a) i=!g a i:=by
  show (~~~a).getLsbD i=_
  rw [BitVec.getLsbD_not];simp [h]
theorem g_an (a b:B) (i:Nat):g (a &&& ~~~b) i=(g a i && !g b i):=by
  rw [g_and]
  by_cases h:i < 64
  · rw [g_not b h]
  · rw [g_ge a (by omega)];rfl
theorem g_0 (i:Nat):g (0#64) i=false:=BitVec.getLsbD_zero
def msk (v m:B):Kn:=⟨v &&& ~~~m,m⟩
def Kn.mayB (k:Kn):Bool:=(k.v &&& k.m) == 0#64
def allK:Kn:=⟨0#64,18446744073709551615#64⟩
def oneK (v:B):Kn:=⟨v,0#64⟩
def eqK (a b:Kn):Bool:=(a.v == b.v) && (a.m == b.m)
def Kn.joinK (a b:Kn):Kn:=if (a.mayB && b.mayB)=true then msk a.v (a.m ||| b.m ||| (a.v ^^^ b.v)) else allK
def Kn.inB (a b:Kn):Bool:=a.mayB && (b.mayB && eqK (a.joinK b) b)
def Kn.hasB (k:Kn) (v:B):Bool:=(oneK v).inB k
def Kn.meetB (a b:Kn):Bool:=a.mayB && (b.mayB && (((a.v ^^^ b.v) &&& ~~~(a.m ||| b.m)) == 0#64))
def Kn.meetK (a b:Kn):Kn:=if a.meetB b=true then msk (a.v ||| b.v) (a.m &&& b.m) else allK
def cutB (x:B) (w:Int):B:=Bk (cutI (V x) w)
def Kn.cutK (k:Kn) (w:Int):Kn:=if k.mayB=true then msk (cutB k.v w) (cutB k.m w) else allK
theorem msk_one (v:B):msk v 0#64=oneK v:=by
  unfold msk oneK
  congr 1
  exact ext fun i=>by rw [g_an,g_0];simp
theorem msk_all:msk 0#64 18446744073709551615#64=allK:=by unfold msk allK;rw [show (0#64:B) &&& ~~~18446744073709551615#64=0#64 from by decide]
theorem V_cutB (x:B) (w:Int):V (cutB x w)=cutI (V x) w:=by
  obtain ⟨a,b⟩:=cutI_bd (V x) w (V_nn x) (V_lt x)
  exact V_Bk a b
theorem eqK_iff (a b:Kn):eqK a b=true ↔ a=b:=by
  unfold eqK
  rw [Bool.and_eq_true,beq_iff_eq,beq_iff_eq]
  constructor
  · rintro ⟨h,k⟩;cases a;cases b;simp_all
  · rintro rfl;exact ⟨rfl,rfl⟩
theorem eqK_refl (a:Kn):eqK a a=true:=(eqK_iff a a).2 rfl
def Ok (k:Kn):Prop:=∀ i,(g k.v i && g k.m i)=false
def Mem (x:B) (k:Kn):Prop:=∀ i,g k.m i=false → g x i=g k.v i
def Sub (a b:Kn):Prop:=∀ i,g b.m i=false → g a.m i=false ∧ g a.v i=g b.v i
theorem may_iff (k:Kn):k.mayB=true ↔ Ok k:=by
  unfold Kn.mayB Ok
  rw [beq_iff_eq]
  constructor
  · intro h i
    rw [← g_and,h,g_0]
  · intro h
    exact ext fun i=>by rw [g_and,h i,g_0]
theorem g_msk (v m:B) (i:Nat):g (msk v m).v i=(g v i && !g m i):=g_an v m i
theorem ok_one (v:B):Ok (oneK v):=fun i=>by show (_ && g (0#64) i)=false;rw [g_0,Bool.and_false]
theorem joinK_is {a b:Kn} (ha:Ok a) (hb:Ok b):a.joinK b=msk a.v (a.m ||| b.m ||| (a.v ^^^ b.v)):=by
  unfold Kn.joinK
  rw [if_pos (by rw [(may_iff a).2 ha,(may_iff b).2 hb];rfl)]
theorem in_iff (a b:Kn):a.inB b=true ↔ Ok a ∧ Ok b ∧ Sub a b:=by
  unfold Kn.inB
  rw [Bool.and_eq_true,Bool.and_eq_true,may_iff,may_iff,eqK_iff]
  refine and_congr_right fun ha=>and_congr_right fun hb=>?_
  rw [joinK_is ha hb]
  constructor
  · intro e i hi
    have e1:g (msk a.v (a.m ||| b.m ||| (a.v ^^^ b.v))).v i=g b.v i:=by rw [e]
    have e2:g (msk a.v (a.m ||| b.m ||| (a.v ^^^ b.v))).m i=g b.m i:=by rw [e]
    rw [g_msk,g_or,g_or,g_xor] at e1
    change g (a.m ||| b.m ||| (a.v ^^^ b.v)) i=_ at e2
    rw [g_or,g_or,g_xor] at e2
    revert e1 e2 hi
    generalize g a.m i=p;generalize g a.v i=q;generalize g b.m i=r;generalize g b.v i=s
    revert p q r s;decide
  · intro h
    have h1:a.m ||| b.m ||| (a.v ^^^ b.v)=b.m:=ext fun i=>by
      have:=h i;have hbi:=hb i
      rw [g_or,g_or,g_xor]
      revert this hbi
      generalize g a.m i=p;generalize g a.v i=q;generalize g b.m i=r;generalize g b.v i=s
      revert p q r s;decide
    have h2:a.v &&& ~~~b.m=b.v:=ext fun i=>by
      have:=h i;have hbi:=hb i
      rw [g_an]
      revert this hbi
      generalize g a.m i=p;generalize g a.v i=q;generalize g b.m i=r;generalize g b.v i=s
      revert p q r s;decide
    unfold msk
    rw [h1,h2]
theorem sub_one (x:B) (k:Kn):Sub (oneK x) k ↔ Mem x k:=
  ⟨fun h i hi=>(h i hi).2,fun h i hi=>⟨g_0 i,h i hi⟩⟩
theorem has_iff (k:Kn) (x:B):k.hasB x=true ↔ Ok k ∧ Mem x k:=by
  unfold Kn.hasB
  rw [in_iff,sub_one]
  exact ⟨fun h=>h.2,fun h=>⟨ok_one x,h⟩⟩
theorem meetB_iff (a b:Kn):a.meetB b=true ↔ Ok a ∧ Ok b ∧ ∀ i,g a.m i=false → g b.m i=false → g a.v i=g b.v i:=by
  unfold Kn.meetB
  rw [Bool.and_eq_true,Bool.and_eq_true,may_iff,may_iff,beq_iff_eq]
  refine and_congr_right fun ha=>and_congr_right fun hb=>?_
  constructor
  · intro h i h1 h2
    have e:g ((a.v ^^^ b.v) &&& ~~~(a.m ||| b.m)) i=false:=by rw [h,g_0]
    rw [g_an,g_xor,g_or,h1,h2] at e
    revert e
    generalize g a.v i=q;generalize g b.v i=s
    revert q s;decide
  · intro h
    exact ext fun i=>by
      have:=h i
      rw [g_an,g_xor,g_or,g_0]
      revert this
      generalize g a.m i=p;generalize g a.v i=q;generalize g b.m i=r;generalize g b.v i=s
      revert p q r s;decide
end Go.Proofs.Ytcnneeimkcnjfaa.Knw
