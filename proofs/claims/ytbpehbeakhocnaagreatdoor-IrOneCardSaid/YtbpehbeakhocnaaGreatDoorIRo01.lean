import Derived.Test.YtbpehbeakhocnaaGreatDoorIRm42
import Derived.Test.YtbpehbeakhocnaaGreatDoorIRm38
set_option linter.unusedVariables false
set_option linter.unusedSimpArgs false
set_option linter.unnecessarySimpa false
namespace Go.Proofs.YtbpehbeakhocnaaGreatDoor.Irn
open Go Go.RowKit
open Mrm (Xi xC xL zX eqX mayX readsX writesX XOk)
open Flg (Fl zF)
open Exe
set_option maxRecDepth 100000
theorem bv_nat {a:Nat} (h:a < 9223372036854775808):(BitVec.ofInt 64 (a:Int)).toNat=a:=by
  rw [BitVec.toNat_ofInt]
  show ((a:Int) % 18446744073709551616).toNat=a
  omega
def sbI (n:Int) (r:Nat):Int:=bits .and .i64 (n / 2 ^ r) 1
theorem and_one {q:Nat} (h:q < 2048):bits .and .i64 (q:Int) 1=((q % 2:Nat):Int):=by
  show IntKind.i64.wrap ((BitVec.ofInt 64 (q:Int) &&& BitVec.ofInt 64 1).toNat:Int)=_
  rw [BitVec.toNat_and,bv_nat (by omega),show (BitVec.ofInt 64 1).toNat=1 from rfl,Nat.and_one_is_mod,IntKind.wrap_i64]
  omega
theorem sb_nat {a:Nat} (ha:a < 2048) (r:Nat):sbI (a:Int) r=if a.testBit r then 1 else 0:=by
  unfold sbI
  have e:(a:Int) / 2 ^ r=((a / 2 ^ r:Nat):Int):=by simp
  have hl:a / 2 ^ r < 2048:=Nat.lt_of_le_of_lt (Nat.div_le_self _ _) ha
  rw [e,and_one hl,Nat.testBit_eq_decide_div_mod_eq]
  by_cases h:a / 2 ^ r % 2=1
  · rw [h];simp
  · have:a / 2 ^ r % 2=0:=by omega
    rw [this];simp
section
variable {ρ:Operand → Value} {o:Oper} {w:World} {x y:Operand}
theorem ex_shrS {n:Int} {q:Nat} {t u:TypeId} (ho:o.op=.binOp .shr t x y u) (hx:ρ x=.int .i64 n) (hy:ρ y=.int .i64 (q:Int)) (hq:q < 11):(execOp ρ o).run Tryz.prog w=.ok (.value (.int .i64 (n / 2 ^ q))) w:=by
  have hn:¬ ((q:Int) < 0):=by omega
  have hm:min q 64=q:=by omega
  simp [execOp,ho,hx,hy,go_sem,hn,hm]
theorem ex_andS {n:Int} {q:Nat} {t u:TypeId} (ho:o.op=.binOp .and t x (.const (.int .i64 1)) u) (hx:ρ x=.int .i64 (n / 2 ^ q)) (h1:ρ (.const (.int .i64 1))=.int .i64 1):(execOp ρ o).run Tryz.prog w=.ok (.value (.int .i64 (sbI n q))) w:=by
  simp [execOp,ho,hx,h1,go_sem,sbI]
theorem ex_eqS {n:Int} {b:Bool} {t u:TypeId} (ho:o.op=.binOp .eql t x (.const (.int .i64 0)) u) (hx:ρ x=.int .i64 n) (h1:ρ (.const (.int .i64 0))=.int .i64 0) (hb:(n == 0)=b):(execOp ρ o).run Tryz.prog w=.ok (.value (.bool b)) w:=by
  simp [execOp,ho,hx,h1,go_sem,hb]
theorem ex_neI {n m:Int} {b:Bool} {k:IntKind} {t u:TypeId} (ho:o.op=.binOp .neq t x y u) (hx:ρ x=.int k n) (hy:ρ y=.int k m) (hb:(n != m)=b):(execOp ρ o).run Tryz.prog w=.ok (.value (.bool b)) w:=by
  simp [execOp,ho,hx,hy,go_sem]
  exact hb
end
theorem run_shr {q k:Nat} {t:TypeId} (hk:k < 11) (w:World):(binOp .shr t (.int .i64 (q:Int)) (.int .i64 (k:Int))).run Tryz.prog w=.ok (.int .i64 ((q:Int) / 2 ^ k)) w:=by
  have hn:¬ ((k:Int) < 0):=by omega
  have hm:min k 64=k:=by omega
  simp [go_sem,hn,hm]
theorem run_keeps {l:List Ii} {s t:Sg} {j:Nat} (hl:∀ i ∈ l,i.k=2 → i.r.toNat ≠ j) (h:runI l s=some t):t.1 j=s.1 j:=by
  induction l generalizing s with
  | nil=>cases h;rfl
  | cons i l ih=>
    change (stepI i s).bind (runI l)=some t at h
    cases e:stepI i s with
    | none=>rw [e] at h;cases h
    | some u=>
      rw [e] at h
      rw [ih (fun x hx=>hl x (List.mem_cons_of_mem _ hx)) h]
      have hi:=hl i (List.mem_cons_self ..)
      unfold stepI at e
      by_cases h1:i.k=1
      · rw [if_pos h1] at e;cases e;rfl
      · rw [if_neg h1] at e
        by_cases h2:i.k=2
        · rw [if_pos h2] at e
          cases e
          exact if_neg (fun c=>hi h2 c.symm)
        · rw [if_neg h2] at e
          by_cases h3:doXe s.2 i.x 0=0
          · rw [if_pos h3] at e;cases e;rfl
          · rw [if_neg h3] at e;cases e
theorem run_other {l:List Ii} {g g':Nat → Int} {m:Mc} {t:Sg} {o:Nat} (hl:∀ i ∈ l,i.k=1 → i.r.toNat ≠ o) (hg:∀ j,j ≠ o → g' j=g j) (h:runI l (g,m)=some t):∃ h',runI l (g',m)=some (h',t.2) ∧ ∀ j,j ≠ o → h' j=t.1 j:=by
  induction l generalizing g g' m with
  | nil=>cases h;exact ⟨g',rfl,hg⟩
  | cons i l ih=>
    change (stepI i (g,m)).bind (runI l)=some t at h
    show ∃ h',(stepI i (g',m)).bind (runI l)=some (h',t.2) ∧ _
    have hi:=hl i (List.mem_cons_self ..)
    have hl':=fun x hx=>hl x (List.mem_cons_of_mem i hx)
    unfold stepI at h ⊢
    by_cases h1:i.k=1
    · rw [if_pos h1] at h ⊢
      have e:g' i.r.toNat=g i.r.toNat:=hg _ (hi h1)
      show ∃ h',runI l (g',m.setR i.p.toNat (g' i.r.toNat))=_ ∧ _
      rw [e]
      exact ih hl' hg h
    · rw [if_neg h1] at h ⊢
      by_cases h2:i.k=2
      · rw [if_pos h2] at h ⊢
        refine ih hl' (fun j hj=>?_) h
        unfold setG
        split
        · rfl
        · exact hg j hj
      · rw [if_neg h2] at h ⊢
        by_cases h3:doXe m i.x 0=0
        · rw [if_pos h3] at h ⊢
          exact ih hl' hg h
        · rw [if_neg h3] at h;cases h
theorem not_in {kk:Int} {l:List Ii} {j:Nat} (hm:∀ i ∈ l,mayI i=true) (h2:kk=1 ∨ kk=2) (h:(regN kk l).testBit j=false):∀ i ∈ l,i.k=kk → i.r.toNat ≠ j:=by
  intro i hi hk hr
  rw [regN_bit,List.any_eq_false] at h
  have:=h i hi
  have c:=(may_copy (hm i hi) (by omega)).1
  have s:srcB i.r=true:=by unfold srcB;simp;omega
  simp [hk,s,hr] at this
theorem run_out {l:List Ii} {g:Nat → Int} (h:(outI l g).2.2=0):∃ t,runI (l.take (stopL l)) (g,zM)=some t ∧ outI l g=((t.1,t.2.upA 0),(stopL l:Int),0):=by
  obtain ⟨hm,he⟩:=out_all h
  cases e:runI (l.take (stopL l)) (g,zM) with
  | none=>
    have:=runF_none (fun i hi h1 h2=>by
      have k:=taken_ok hm i hi
      rcases stop_kind k.1 k.2 with c | c | c
      · exact c.2
      · exact absurd c h1
      · exact absurd c h2) e
    rw [this] at he
    cases he
  | some t=>
    refine ⟨t,rfl,?_⟩
    rw [out_is hm,if_pos he,runF_some e]
theorem out_run {l:List Ii} {g:Nat → Int} {t:Sg} (hm:∀ i ∈ l,mayI i=true) (h:runI (l.take (stopL l)) (g,zM)=some t):outI l g=((t.1,t.2.upA 0),(stopL l:Int),0):=by
  rw [out_is hm,runF_some h]
  rfl
theorem out_keeps {l:List Ii} {g:Nat → Int} (h:(outI l g).2.2=0) (j:Nat) (hj:(regN 2 l).testBit j=false):(outI l g).1.1 j=g j:=by
  obtain ⟨t,e,eo⟩:=run_out h
  rw [eo]
  exact run_keeps (fun i hi hk=>not_in (out_all h).1 (.inr rfl) hj i (List.mem_of_mem_take hi) hk) e
theorem out_other {l:List Ii} {g:Nat → Int} (h:(outI l g).2.2=0) (o:Nat) (by_:Int) (ho:(regN 1 l).testBit o=false):∃ h',outI l (setG g o by_)=((h',(outI l g).1.2),(outI l g).2.1,0) ∧ ∀ j,j ≠ o → h' j=(outI l g).1.1 j:=by
  obtain ⟨t,e,eo⟩:=run_out h
  obtain ⟨h',e',eh⟩:=run_other (g':=setG g o by_) (o:=o) (fun i hi hk=>not_in (out_all h).1 (.inl rfl) ho i (List.mem_of_mem_take hi) hk) (fun j hj=>if_neg hj) e
  refine ⟨h',?_,?_⟩
  · rw [out_run (out_all h).1 e',eo]
  · rw [eo];exact eh
theorem out_bad {l:List Ii} {g:Nat → Int} (h:(outI l g).2.2 ≠ 0):(outI l g).1.1=zG ∧ (outI l g).2.1=0:=by
  unfold outI at h ⊢
  split
  · exact ⟨rfl,rfl⟩
  · split
    · rename_i c1 c2
      rw [if_neg c1,if_pos c2] at h
      exact absurd rfl h
    · exact ⟨rfl,rfl⟩
open Flg (Fl zF subF)
theorem eff_up (m:Mc) {x:Xi} (l a:Int) (h:0 ≤ x.op ∧ x.op < 28):effX (m.upA a) x l=(effX m x l).map (·.upA a):=by
  rcases (show x.op=0 ∨ x.op=1 ∨ x.op=2 ∨ x.op=3 ∨ x.op=4 ∨ x.op=5 ∨ x.op=6 ∨ x.op=7 ∨ x.op=8 ∨ x.op=9 ∨ x.op=10 ∨ x.op=11 ∨ x.op=12 ∨ x.op=13 ∨ x.op=14 ∨ x.op=15 ∨ x.op=16 ∨ x.op=17 ∨ x.op=18 ∨ x.op=19 ∨ x.op=20 ∨ x.op=21 ∨ x.op=22 ∨ x.op=23 ∨ x.op=24 ∨ x.op=25 ∨ x.op=26 ∨ x.op=27 by omega) with h | h | h | h | h | h | h | h | h | h | h | h | h | h | h | h | h | h | h | h | h | h | h | h | h | h | h | h
  · rw [eff_0 (m.upA a) l h,eff_0 m l h];rfl
  · rw [eff_1 (m.upA a) l h,eff_1 m l h];rfl
  · rw [eff_2 (m.upA a) l h,eff_2 m l h];rfl
  · rw [eff_3 (m.upA a) l h,eff_3 m l h];rfl
  · rw [eff_4 (m.upA a) l h,eff_4 m l h];rfl
  · rw [eff_5 (m.upA a) l h,eff_5 m l h];rfl
  · rw [eff_6 (m.upA a) l h,eff_6 m l h];rfl
  · rw [eff_7 (m.upA a) l h,eff_7 m l h];rfl
  · rw [eff_8 (m.upA a) l h,eff_8 m l h];rfl
  · rw [eff_9 (m.upA a) l h,eff_9 m l h];rfl
  · rw [eff_10 (m.upA a) l h,eff_10 m l h];rfl
  · rw [eff_11 (m.upA a) l h,eff_11 m l h];rfl
  · rw [eff_12 (m.upA a) l h,eff_12 m l h];rfl
  · rw [eff_13 (m.upA a) l h,eff_13 m l h];rfl
  · rw [eff_14 (m.upA a) l h,eff_14 m l h];rfl
  · rw [eff_15 (m.upA a) l h,eff_15 m l h];rfl
  · rw [eff_16 (m.upA a) l h,eff_16 m l h];rfl
  · rw [eff_17 (m.upA a) l h,eff_17 m l h];rfl
  · rw [eff_18 (m.upA a) l h,eff_18 m l h];rfl
  · rw [eff_19 (m.upA a) l h,eff_19 m l h];rfl
  · rw [eff_20 (m.upA a) l h,eff_20 m l h];rfl
  · rw [eff_21 (m.upA a) l h,eff_21 m l h];rfl
  · rw [eff_22 (m.upA a) l h,eff_22 m l h];rfl
  · rw [eff_23 (m.upA a) l h,eff_23 m l h];rfl
  · rw [eff_24 (m.upA a) l h,eff_24 m l h]
    show (bif divB m x then _ else _)=_
    cases divB m x <;> rfl
  · rw [eff_25 (m.upA a) l h,eff_25 m l h]
    show (bif m.f.k then _ else _)=_
    cases m.f.k <;> rfl
  · rw [eff_26 (m.upA a) l h,eff_26 m l h];rfl
  · rw [eff_27 (m.upA a) l h,eff_27 m l h];rfl
def EqA (m n:Mc):Prop:=m.r=n.r ∧ m.f=n.f
theorem EqA.up {m n:Mc} (h:EqA m n) (a:Int):m.upA a=n.upA a:=by
  unfold Mc.upA
  rw [h.1,h.2]
theorem EqA.is {m n:Mc} (h:EqA m n):n=m.upA n.a:=by
  cases m;cases n
  obtain ⟨h1,h2⟩:=h
  simp only at h1 h2
  subst h1 h2
  rfl
theorem go_eqA {m n:Mc} {x:Xi} {l:Int} (h:EqA m n) (hO:0 ≤ x.op ∧ x.op < 28):(goX m x l=none ∧ goX n x l=none) ∨ ∃ m' n',goX m x l=some m' ∧ goX n x l=some n' ∧ EqA m' n':=by
  have e1:goX m x l=(effX m x l).map (·.upA (IntKind.u64.wrap (m.a + IntKind.u64.wrap (lenX x)))):=eff_up m l _ hO
  have e2:goX n x l=(effX m x l).map (·.upA (IntKind.u64.wrap (n.a + IntKind.u64.wrap (lenX x)))):=by
    show effX (n.upA _) x l=_
    have:n.upA (IntKind.u64.wrap (n.a + IntKind.u64.wrap (lenX x)))=m.upA (IntKind.u64.wrap (n.a + IntKind.u64.wrap (lenX x))):=(h.up _).symm
    rw [this]
    exact eff_up m l _ hO
  rw [e1,e2]
  cases effX m x l with
  | none=>exact .inl ⟨rfl,rfl⟩
  | some k=>exact .inr ⟨_,_,rfl,rfl,rfl,rfl⟩
def Go1 (i:Ii):Prop:=mayI i=true ∧ stopI i=false
theorem Go1.kind {i:Ii} (h:Go1 i):(i.k=0 ∧ cmpX i.x=true) ∨ i.k=1 ∨ i.k=2:=by
  rcases stop_kind h.1 h.2 with c | c | c
  · exact .inl ⟨c.1,may_zero h.1 c.1⟩
  · exact .inr (.inl c)
  · exact .inr (.inr c)
theorem step_0 {i:Ii} (c:i.k=0) (g:Nat → Int) (q:Mc):stepI i (g,q)=if doXe q i.x 0=0 then some (g,doX q i.x 0) else none:=by
  unfold stepI
  rw [if_neg (by omega),if_neg (by omega)]
theorem step_eqA {i:Ii} {g:Nat → Int} {m n:Mc} (hi:Go1 i) (h:EqA m n):(stepI i (g,m)=none ∧ stepI i (g,n)=none) ∨ ∃ g' m' n',stepI i (g,m)=some (g',m') ∧ stepI i (g,n)=some (g',n') ∧ EqA m' n':=by
  rcases hi.kind with ⟨c,hc⟩ | c | c
  · rw [step_0 c,step_0 c]
    have hm:=cmp_may hc
    have u:∀ q:Mc,doXe q i.x 0=(if (goX q i.x 0).isSome=true then 0 else 20):=fun q=>if_pos hm
    have v:∀ q:Mc,doX q i.x 0=(goX q i.x 0).getD zM:=fun q=>if_pos hm
    rcases go_eqA (l:=0) h (cmp_op hc) with ⟨a,b⟩ | ⟨m',n',a,b,e⟩
    · left
      rw [u,u,a,b]
      exact ⟨rfl,rfl⟩
    · right
      refine ⟨g,m',n',?_,?_,e⟩
      · rw [u,v,a];rfl
      · rw [u,v,b];rfl
  · right
    unfold stepI
    rw [if_pos c,if_pos c]
    refine ⟨g,_,_,rfl,rfl,?_,h.2⟩
    show (fun k=>if k=_ then _ else m.r k)=(fun k=>if k=_ then _ else n.r k)
    rw [h.1]
  · right
    unfold stepI
    have c1:¬ i.k=1:=by omega
    rw [if_neg c1,if_pos c,if_neg c1,if_pos c]
    refine ⟨_,m,n,rfl,?_,h⟩
    show some (setG g _ (n.r _),n)=_
    rw [h.1]
theorem run_eqA {l:List Ii} {g:Nat → Int} {m n:Mc} (hl:∀ i ∈ l,Go1 i) (h:EqA m n):(runI l (g,m)=none ∧ runI l (g,n)=none) ∨ ∃ g' m' n',runI l (g,m)=some (g',m') ∧ runI l (g,n)=some (g',n') ∧ EqA m' n':=by
  induction l generalizing g m n with
  | nil=>exact .inr ⟨g,m,n,rfl,rfl,h⟩
  | cons i l ih=>
    show ((stepI i (g,m)).bind (runI l)=none ∧ (stepI i (g,n)).bind (runI l)=none) ∨ ∃ g' m' n',(stepI i (g,m)).bind (runI l)=some (g',m') ∧ (stepI i (g,n)).bind (runI l)=some (g',n') ∧ EqA m' n'
    rcases step_eqA (g:=g) (hl i (List.mem_cons_self ..)) h with ⟨a,b⟩ | ⟨g1,m1,n1,a,b,e⟩
    · left;rw [a,b];exact ⟨rfl,rfl⟩
    · rw [a,b]
      exact ih (fun x hx=>hl x (List.mem_cons_of_mem _ hx)) e
def Idle (m:Mc):Prop:=∀ j,j ≠ 0 → j ≠ 1 → j ≠ 2 → j ≠ 11 → m.r j=0
theorem w_1:∀ d s:Fin 16,(bits .and .i64 (bits .or .i64 ((2:Int) ^ s.1) ((2:Int) ^ d.1)) (-2056) == 0)=true → d.1=0 ∨ d.1=1 ∨ d.1=2 ∨ d.1=11:=by decide +kernel
theorem w_0:∀ d:Fin 16,(bits .and .i64 (bits .or .i64 0 ((2:Int) ^ d.1)) (-2056) == 0)=true → d.1=0 ∨ d.1=1 ∨ d.1=2 ∨ d.1=11:=by decide +kernel
theorem w_2:∀ d s:Fin 16,(bits .and .i64 (bits .or .i64 (bits .or .i64 ((2:Int) ^ d.1) ((2:Int) ^ s.1)) ((2:Int) ^ d.1)) (-2056) == 0)=true → d.1=0 ∨ d.1=1 ∨ d.1=2 ∨ d.1=11:=by decide +kernel
theorem w_c:∀ d:Fin 16,(bits .and .i64 (bits .or .i64 (bits .or .i64 ((2:Int) ^ d.1) 2) ((2:Int) ^ d.1)) (-2056) == 0)=true → d.1=0 ∨ d.1=1 ∨ d.1=2 ∨ d.1=11:=by decide +kernel
theorem cmp_dst {x:Xi} (h:cmpX x=true) (hp:putsB x.op=true):x.dst.toNat=0 ∨ x.dst.toNat=1 ∨ x.dst.toNat=2 ∨ x.dst.toNat=11:=by
  have p:=Mrm.may_parts' (cmp_may h)
  have ho:=cmp_op h
  have hd:x.dst.toNat < 16:=by omega
  have hs:x.src.toNat < 16:=by omega
  have hb:x.base.toNat < 16:=by omega
  unfold cmpX at h
  simp only [Bool.and_eq_true] at h
  have h2:=h.2.2
  rw [writes_put hp] at h2
  unfold putsB at hp
  simp only [Bool.not_eq_true',Bool.or_eq_false_iff,beq_eq_false_iff_ne] at hp
  unfold readsX at h2
  split at h2
  · exact w_1 ⟨_,hd⟩ ⟨_,hs⟩ h2
  · split at h2
    · omega
    · split at h2
      · exact w_1 ⟨_,hd⟩ ⟨_,hb⟩ h2
      · split at h2
        · omega
        · split at h2
          · omega
          · split at h2
            · omega
            · split at h2
              · exact w_0 ⟨_,hd⟩ h2
              · split at h2
                · exact w_c ⟨_,hd⟩ h2
                · split at h2
                  · exact w_2 ⟨_,hd⟩ ⟨_,hs⟩ h2
                  · exact w_1 ⟨_,hd⟩ ⟨_,hd⟩ h2
theorem eff_idle {m n:Mc} {x:Xi} {l:Int} (hc:cmpX x=true) (h:Idle m) (E:effX m x l=some n):Idle n:=by
  have ho:=cmp_op hc
  intro j j0 j1 j2 j11
  cases hp:putsB x.op
  · unfold putsB at hp
    simp only [Bool.not_eq_false',Bool.or_eq_true,beq_iff_eq] at hp
    rcases (show x.op=24 ∨ (x.op=7 ∨ x.op=8 ∨ x.op=14 ∨ x.op=15 ∨ x.op=27 ∨ x.op=28 ∨ x.op=29) by omega) with c | c
    · rw [eff_24 m l c] at E
      cases hb:divB m x
      · rw [hb] at E;cases E
      · rw [hb] at E
        cases E
        exact ((setR_other _ _ j2).trans (setR_other _ _ j0)).trans (h j j0 j1 j2 j11)
    · rw [keeps_of c E]
      exact h j j0 j1 j2 j11
  · have q:=cmp_dst hc hp
    rw [puts_of ⟨ho.1,by omega⟩ hp E j (by omega)]
    exact h j j0 j1 j2 j11
theorem step_idle {i:Ii} {s t:Sg} (hi:Go1 i) (h:Idle s.2) (e:stepI i s=some t):Idle t.2:=by
  unfold stepI at e
  rcases hi.kind with ⟨c,hc⟩ | c | c
  · rw [if_neg (by omega),if_neg (by omega)] at e
    split at e
    · cases e
      rename_i he
      have hm:=cmp_may hc
      show Idle (doX s.2 i.x 0)
      rw [show doX s.2 i.x 0=(goX s.2 i.x 0).getD zM from if_pos hm]
      cases hgo:goX s.2 i.x 0 with
      | none=>exact fun _ _ _ _ _=>rfl
      | some n=>exact eff_idle hc (m:=s.2.upA (IntKind.u64.wrap (s.2.a + IntKind.u64.wrap (lenX i.x)))) h hgo
    · cases e
  · rw [if_pos c] at e
    cases e
    have q:=(may_copy hi.1 (.inl c)).2
    intro j j0 j1 j2 j11
    exact (setR_other _ _ (by omega)).trans (h j j0 j1 j2 j11)
  · rw [if_neg (by omega),if_pos c] at e
    cases e
    exact h
theorem run_idle {l:List Ii} {s t:Sg} (hl:∀ i ∈ l,Go1 i) (h:Idle s.2) (e:runI l s=some t):Idle t.2:=by
  induction l generalizing s with
  | nil=>cases e;exact h
  | cons i l ih=>
    change (stepI i s).bind (runI l)=some t at e
    cases c:stepI i s with
    | none=>rw [c] at e;cases e
    | some u=>
      rw [c] at e
      exact ih (fun x hx=>hl x (List.mem_cons_of_mem _ hx)) (step_idle (hl i (List.mem_cons_self ..)) h c) e
abbrev tk (n p:Int):Ii:=⟨1,zX,n,p,0,0⟩
abbrev tk4:List Ii:=[tk 0 0,tk 1 1,tk 2 2,tk 3 11]
abbrev cpX:Xi:=⟨14,64,0,0,0,0,0,0⟩
abbrev cpI:Ii:=⟨0,cpX,0,0,0,0⟩
def tkM (g:Nat → Int) (m:Mc):Mc:=(((m.setR 0 (g 0)).setR 1 (g 1)).setR 2 (g 2)).setR 11 (g 3)
theorem run_tk4 (g:Nat → Int) (m:Mc):runI tk4 (g,m)=some (g,tkM g m):=rfl
theorem cp_may:cmpX cpX=true:=by decide +kernel
theorem pre_go:∀ i ∈ tk4 ++ [cpI],Go1 i:=by
  intro i hi
  simp only [tk4,List.cons_append,List.nil_append,List.mem_cons,List.not_mem_nil,or_false] at hi
  rcases hi with rfl | rfl | rfl | rfl | rfl <;> exact ⟨by decide +kernel,by decide +kernel⟩
theorem tkM_eq (g:Nat → Int) {m n:Mc} (hm:Idle m) (hn:Idle n):(tkM g m).r=(tkM g n).r:=by
  funext j
  show (if j=11 then g 3 else if j=2 then g 2 else if j=1 then g 1 else if j=0 then g 0 else m.r j)=(if j=11 then g 3 else if j=2 then g 2 else if j=1 then g 1 else if j=0 then g 0 else n.r j)
  by_cases h11:j=11
  · rw [if_pos h11,if_pos h11]
  · rw [if_neg h11,if_neg h11]
    by_cases h2:j=2
    · rw [if_pos h2,if_pos h2]
    · rw [if_neg h2,if_neg h2]
      by_cases h1:j=1
      · rw [if_pos h1,if_pos h1]
      · rw [if_neg h1,if_neg h1]
        by_cases h0:j=0
        · rw [if_pos h0,if_pos h0]
        · rw [if_neg h0,if_neg h0,hm j h0 h1 h2 h11,hn j h0 h1 h2 h11]
theorem run_pre (g:Nat → Int) (m:Mc):∃ m',runI (tk4 ++ [cpI]) (g,m)=some (g,m') ∧ m'.r=(tkM g m).r ∧ m'.f=subF 64 (g 0) (IntKind.u64.wrap 0):=by
  have hm:mayX cpX=true:=by decide +kernel
  have e:goX (tkM g m) cpX 0=some (((tkM g m).upA (IntKind.u64.wrap ((tkM g m).a + IntKind.u64.wrap (lenX cpX)))).upF (subF 64 (g 0) (IntKind.u64.wrap 0))):=eff_14 _ _ rfl
  refine ⟨doX (tkM g m) cpX 0,?_,?_⟩
  · rw [runI_snoc,run_tk4]
    show stepI cpI (g,tkM g m)=_
    rw [step_0 rfl,if_pos]
    show doXe (tkM g m) cpX 0=0
    rw [show doXe (tkM g m) cpX 0=(if (goX (tkM g m) cpX 0).isSome=true then 0 else 20) from if_pos hm,e]
    rfl
  · rw [show doX (tkM g m) cpX 0=(goX (tkM g m) cpX 0).getD zM from if_pos hm,e]
    exact ⟨rfl,rfl⟩
theorem zM_idle:Idle zM:=fun _ _ _ _ _=>rfl
theorem out_parts {l k:List Ii} {g:Nat → Int} (hl:(outI l g).2.2=0) (hs:¬ (outI l g).2.1 < (l.length:Int)):
    (outI (l ++ ((tk4 ++ [cpI]) ++ k)) g).2.2=(outI ((tk4 ++ [cpI]) ++ k) (outI l g).1.1).2.2 ∧ ((outI ((tk4 ++ [cpI]) ++ k) (outI l g).1.1).2.2=0 →
      (outI (l ++ ((tk4 ++ [cpI]) ++ k)) g).1=(outI ((tk4 ++ [cpI]) ++ k) (outI l g).1.1).1 ∧ (outI (l ++ ((tk4 ++ [cpI]) ++ k)) g).2.1=(outI ((tk4 ++ [cpI]) ++ k) (outI l g).1.1).2.1 + (l.length:Int)):=by
  obtain ⟨t,et,eo⟩:=run_out hl
  have hL:=(out_all hl).1
  rw [eo] at hs ⊢
  simp only at hs ⊢
  have sl:stopL l=l.length:=by have:=stop_le l;omega
  rw [sl,List.take_length] at et
  by_cases hk:∀ x ∈ k,mayI x=true
  · have h5:∀ x ∈ tk4 ++ [cpI],mayI x=true:=fun x hx=>(pre_go x hx).1
    have hS:∀ x ∈ (tk4 ++ [cpI]) ++ k,mayI x=true:=fun x hx=>(List.mem_append.1 hx).elim (h5 x) (hk x)
    have hA:∀ x ∈ l ++ ((tk4 ++ [cpI]) ++ k),mayI x=true:=fun x hx=>(List.mem_append.1 hx).elim (hL x) (hS x)
    have s5:stopL (tk4 ++ [cpI])=5:=rfl
    have sS:stopL ((tk4 ++ [cpI]) ++ k)=stopL k + 5:=by
      rw [stop_app,s5,if_neg (by decide)]
      rfl
    have sA:stopL (l ++ ((tk4 ++ [cpI]) ++ k))=stopL k + 5 + l.length:=by rw [stop_app,if_neg (by omega),sS]
    have tS:((tk4 ++ [cpI]) ++ k).take (stopL k + 5)=(tk4 ++ [cpI]) ++ k.take (stopL k):=by
      rw [List.take_append,List.take_of_length_le (by show 5 ≤ stopL k + 5;omega)]
      congr 2
    have tA:(l ++ ((tk4 ++ [cpI]) ++ k)).take (stopL k + 5 + l.length)=l ++ ((tk4 ++ [cpI]) ++ k.take (stopL k)):=by
      rw [List.take_append,List.take_of_length_le (by omega),show stopL k + 5 + l.length - l.length=stopL k + 5 by omega,tS]
    obtain ⟨m1,r1,q1,f1⟩:=run_pre t.1 t.2
    obtain ⟨m2,r2,q2,f2⟩:=run_pre t.1 zM
    have id1:Idle t.2:=run_idle (fun i hi=>by
      have:=taken_ok hL i (by rw [sl,List.take_length];exact hi)
      exact this) zM_idle et
    have EQ:EqA m2 m1:=⟨by rw [q1,q2];exact tkM_eq t.1 zM_idle id1,by rw [f1,f2]⟩
    have rA:runI (l ++ ((tk4 ++ [cpI]) ++ k.take (stopL k))) (g,zM)=runI (k.take (stopL k)) (t.1,m1):=by
      rw [runI_append,et]
      show runI ((tk4 ++ [cpI]) ++ k.take (stopL k)) (t.1,t.2)=_
      rw [runI_append,r1]
      rfl
    have rS:runI ((tk4 ++ [cpI]) ++ k.take (stopL k)) (t.1,zM)=runI (k.take (stopL k)) (t.1,m2):=by
      rw [runI_append,r2]
      rfl
    have hK:∀ i ∈ k.take (stopL k),Go1 i:=taken_ok hk
    rcases run_eqA (g:=t.1) hK EQ with ⟨a,b⟩ | ⟨g',m',n',a,b,e⟩
    · have nA:=runF_none (l:=l ++ ((tk4 ++ [cpI]) ++ k.take (stopL k))) (s:=(g,zM)) (fun i hi h1 h2=>by
        have w:=taken_ok hA i (by rw [sA,tA];exact hi)
        rcases stop_kind w.1 w.2 with c | c | c
        · exact c.2
        · exact absurd c h1
        · exact absurd c h2) (by rw [rA,b])
      have nS:=runF_none (l:=(tk4 ++ [cpI]) ++ k.take (stopL k)) (s:=(t.1,zM)) (fun i hi h1 h2=>by
        have w:=taken_ok hS i (by rw [sS,tS];exact hi)
        rcases stop_kind w.1 w.2 with c | c | c
        · exact c.2
        · exact absurd c h1
        · exact absurd c h2) (by rw [rS,a])
      have oA:outI (l ++ ((tk4 ++ [cpI]) ++ k)) g=((zG,zM),0,20):=by
        rw [out_is hA,sA,tA,nA]
        exact if_neg (by decide)
      have oS:outI ((tk4 ++ [cpI]) ++ k) t.1=((zG,zM),0,20):=by
        rw [out_is hS,sS,tS,nS]
        exact if_neg (by decide)
      rw [oA,oS]
      exact ⟨rfl,fun c=>by cases c⟩
    · have oA:=out_run (l:=l ++ ((tk4 ++ [cpI]) ++ k)) (g:=g) hA (by rw [sA,tA,rA];exact b)
      have oS:=out_run (l:=(tk4 ++ [cpI]) ++ k) (g:=t.1) hS (by rw [sS,tS,rS];exact a)
      rw [oA,oS,sA,sS]
      refine ⟨rfl,fun _=>⟨?_,?_⟩⟩
      · show (g',n'.upA 0)=(g',m'.upA 0)
        rw [e.up 0]
      · show ((stopL k + 5 + l.length:Nat):Int)=((stopL k + 5:Nat):Int) + (l.length:Int)
        omega
  · have bad:∀ (p:List Ii) (g:Nat → Int),(∃ x ∈ p,mayI x=false) → outI p g=((zG,zM),0,2):=fun p g h=>by
      obtain ⟨x,hx,e⟩:=h
      refine if_pos ?_
      exact List.findIdx_lt_length.2 ⟨x,hx,by rw [e];rfl⟩
    obtain ⟨x,hx,e⟩:∃ x ∈ k,mayI x=false:=by
      simp only [Classical.not_forall] at hk
      obtain ⟨x,hx,e⟩:=hk
      exact ⟨x,hx,by simpa using e⟩
    rw [bad _ g ⟨x,List.mem_append_right _ (List.mem_append_right _ hx),e⟩,bad _ t.1 ⟨x,List.mem_append_right _ hx,e⟩]
    exact ⟨rfl,fun c=>by cases c⟩
open Mrm (Xi xC xL zX eqX mayX readsX writesX XOk heap_below)
open Flg (Fl fC zF mayC holF)
theorem exec_append {ρ:Operand → Value} {o:Oper} {w w':World} {s x:Operand} {v y v':Value} (ho:o.op=.call { callee:=.builtin .append,args:=#[s,x],argTypes:=#[22,22] }) (hs:ρ s=v) (hx:ρ x=y) (hr:(Builtin.append_ #[22,22] o.type #[v,y]).run Tryz.prog w=.ok v' w'):(execOp ρ o).run Tryz.prog w=.ok (.value v') w':=by
  unfold execOp
  simp only [ho,resolve,invoke,builtin,Sem.run_bind,Sem.run_pure,Result.andThen_ok,List.map_toArray,List.map_cons,List.map_nil,hs,hx,hr]
theorem run_append_i (ty:TypeId) {w:World} (base:Nat) (v:Value) (l:List Ii) (hown:OwnI base w v l) (xa:Option Addr) (m c:Nat) (k:List Ii) (hE:Irs w xa m c k) (hfew:l.length + m ≤ 100000) (hb:base ≤ w.heap.size):
    ∃ v' w',(Builtin.append_ #[22,22] ty #[v,.slice xa m c]).run Tryz.prog w=.ok v' w' ∧ OwnI base w' v' (l ++ k) ∧ w.grownBy w' v.ownBlock:=by
  obtain ⟨ti,i1,i2,i3,i4⟩:=info_ir
  have hl:=hE.size
  cases xa with
  | none=>
    have h0:=hE.nilc rfl
    have h1:=hE.le
    obtain rfl:k=[]:=List.eq_nil_of_length_eq_zero (by omega)
    obtain rfl:m=0:=by omega
    subst h0
    exact ⟨v,w,run_append_owned_none (P:=Tryz.prog) (w:=w) base 22 ty 40 ti 13 Tryz.underlying22 i1 v l.length (flatI l) hown,by rw [List.append_nil];exact hown,⟨rfl,rfl,rfl,Nat.le_refl _,fun _ _ _=>rfl⟩⟩
  | some ad=>
    obtain ⟨v',w',hr,o,g,_⟩:=run_append_own (P:=Tryz.prog) w base 22 ty 40 ti (.agg (iC zI)) 13 64 Tryz.underlying22 i1 i2 i3 i4 rfl (by decide) v l.length (flatI l) hown ad m c (flatI k) (by rw [flatI_len,hl]) hE.news (flatI_one k) (by unfold maxLen;omega) (by omega) hb
    refine ⟨v',w',hr,?_,g⟩
    unfold OwnI
    rw [flatI_append,List.length_append,hl]
    exact o
def KeepI (w w':World):Prop:=∀ (k:Nat) (C:Array Value),w.heap[k]?=some (.cells C 40 (0,0)) → w'.heap[k]?=some (.cells C 40 (0,0))
def KeepO (w w':World):Prop:=∀ (k:Nat) (C:Array Value) (T:TypeId),T ≠ 40 → w.heap[k]?=some (.cells C T (0,0)) → w'.heap[k]?=some (.cells C T (0,0))
theorem KeepI.of {w w':World} (b:Below w.heap.size w w'):KeepI w w':=fun _ _ h=>row_heap h b
theorem KeepO.of {w w':World} (b:Below w.heap.size w w'):KeepO w w':=fun _ _ _ _ h=>row_heap h b
theorem KeepI.st {w w':World} {g:Nat} {A C:Array Value} {T:TypeId} (h:w.heap[g]?=some (.cells A T (0,0))) (hT:T ≠ 40) (s:Stored w g C T w'):KeepI w w':=fun k D hk=>row_stay hk s (fun e=>by
  subst e
  rw [h] at hk
  simp only [Option.some.injEq,Obj.cells.injEq] at hk
  exact hT hk.2.1)
theorem OwnI.keepI {base:Nat} {w w':World} {v:Value} {l:List Ii} (h:OwnI base w v l) (b:KeepI w w'):OwnI base w' v l:=by
  rcases h with ⟨h1,h2⟩
  refine ⟨h1,?_⟩
  rcases h2 with h2 | ⟨g,cap,cur,e,hb,hg,h3⟩
  · exact .inl h2
  · exact .inr ⟨g,cap,cur,e,hb,b g cur hg,h3⟩
structure RS (w0:World) (base fg fm sg sm dg dm:Nat) (G:Nat → Int) (M:Mc) (OW:(Nat → Bool) → (Nat → Value) → World → Prop) (fl:Nat → Bool) (u:Nat → Value) (w:World):Prop where
  fx:Below base w0 w
  ow:OW fl u w
  g:fl fg=true → ∃ p,u dg=.pointer (some ⟨p,0,none⟩) ∧ base ≤ p ∧ w.heap[p]?=some (.cells (rgC (bif fl sg then G else zG)) 24 (0,0))
  m:fl fm=true → ∃ p,u dm=.pointer (some ⟨p,0,none⟩) ∧ base ≤ p ∧ w.heap[p]?=some (.cells (mcC (bif fl sm then M else zM)) 30 (0,0))
section
variable {w0 w w':World} {base fg fm sg sm dg dm:Nat} {G:Nat → Int} {M:Mc} {OW:(Nat → Bool) → (Nat → Value) → World → Prop} {fl fl':Nat → Bool} {u u':Nat → Value}
theorem RS.step (h:RS w0 base fg fm sg sm dg dm G M OW fl u w) (fxk:Below base w w') (rk:KeepO w w') (hf:fl' fg=fl fg ∧ fl' fm=fl fm ∧ fl' sg=fl sg ∧ fl' sm=fl sm) (hu:u' dg=u dg ∧ u' dm=u dm) (how:OW fl' u' w'):RS w0 base fg fm sg sm dg dm G M OW fl' u' w':=by
  refine ⟨h.fx.trans fxk,how,fun c=>?_,fun c=>?_⟩
  · rw [hf.1] at c
    obtain ⟨p,e,hb,hr⟩:=h.g c
    rw [hu.1,hf.2.2.1]
    exact ⟨p,e,hb,rk _ _ _ (by decide) hr⟩
  · rw [hf.2.1] at c
    obtain ⟨p,e,hb,hr⟩:=h.m c
    rw [hu.2,hf.2.2.2]
    exact ⟨p,e,hb,rk _ _ _ (by decide) hr⟩
theorem RS.putg (h:RS w0 base fg fm sg sm dg dm G M OW fl u w) (hb:base ≤ w.heap.size) (hf:fl' fm=fl fm ∧ fl' sg=false ∧ fl' sm=fl sm) (hu:u' dg=.pointer (some ⟨w.heap.size,0,none⟩) ∧ u' dm=u dm) (how:OW fl' u' (w.alloc (.cells (rgC zG) 24))):RS w0 base fg fm sg sm dg dm G M OW fl' u' (w.alloc (.cells (rgC zG) 24)):=by
  have b:=below_new (Below.refl w.heap.size w) (.cells (rgC zG) 24)
  refine ⟨h.fx.trans (b.mono hb),how,fun _=>⟨w.heap.size,hu.1,hb,by rw [hf.2.1];exact heap_last _ _ _ rfl⟩,fun c=>?_⟩
  rw [hf.1] at c
  obtain ⟨p,e,hb,hr⟩:=h.m c
  rw [hu.2,hf.2.2]
  exact ⟨p,e,hb,row_heap hr b⟩
theorem RS.putm (h:RS w0 base fg fm sg sm dg dm G M OW fl u w) (hb:base ≤ w.heap.size) (hf:fl' fg=fl fg ∧ fl' sm=false ∧ fl' sg=fl sg) (hu:u' dm=.pointer (some ⟨w.heap.size,0,none⟩) ∧ u' dg=u dg) (how:OW fl' u' (w.alloc (.cells (mcC zM) 30))):RS w0 base fg fm sg sm dg dm G M OW fl' u' (w.alloc (.cells (mcC zM) 30)):=by
  have b:=below_new (Below.refl w.heap.size w) (.cells (mcC zM) 30)
  refine ⟨h.fx.trans (b.mono hb),how,fun c=>?_,fun _=>⟨w.heap.size,hu.1,hb,by rw [hf.2.1];exact heap_last _ _ _ rfl⟩⟩
  rw [hf.1] at c
  obtain ⟨p,e,hb,hr⟩:=h.g c
  rw [hu.2,hf.2.2]
  exact ⟨p,e,hb,row_heap hr b⟩
theorem RS.stg (h:RS w0 base fg fm sg sm dg dm G M OW fl u w) {p:Nat} (hp:base ≤ p) (hr:u dg=.pointer (some ⟨p,0,none⟩)) (s:Stored w p (rgC G) 24 w') (old:∃ A,w.heap[p]?=some (.cells A 24 (0,0))) (hf:fl' fg=fl fg ∧ fl' fm=fl fm ∧ fl' sg=true ∧ fl' sm=fl sm) (how:OW fl' u w'):RS w0 base fg fm sg sm dg dm G M OW fl' u w':=by
  refine ⟨s.below h.fx hp,how,fun c=>⟨p,hr,hp,by rw [hf.2.2.1];exact s.row⟩,fun c=>?_⟩
  rw [hf.2.1] at c
  obtain ⟨q,e,hb,hq⟩:=h.m c
  rw [hf.2.2.2]
  obtain ⟨A,hA⟩:=old
  refine ⟨q,e,hb,row_stay hq s (fun c=>?_)⟩
  subst c
  rw [hA] at hq
  simp only [Option.some.injEq,Obj.cells.injEq] at hq
  exact absurd hq.2.1 (by decide)
theorem RS.stm (h:RS w0 base fg fm sg sm dg dm G M OW fl u w) {p:Nat} (hp:base ≤ p) (hr:u dm=.pointer (some ⟨p,0,none⟩)) (s:Stored w p (mcC M) 30 w') (old:∃ A,w.heap[p]?=some (.cells A 30 (0,0))) (hf:fl' fg=fl fg ∧ fl' fm=fl fm ∧ fl' sg=fl sg ∧ fl' sm=true) (how:OW fl' u w'):RS w0 base fg fm sg sm dg dm G M OW fl' u w':=by
  refine ⟨s.below h.fx hp,how,fun c=>?_,fun c=>⟨p,hr,hp,by rw [hf.2.2.2];exact s.row⟩⟩
  rw [hf.1] at c
  obtain ⟨q,e,hb,hq⟩:=h.g c
  rw [hf.2.2.1]
  obtain ⟨A,hA⟩:=old
  refine ⟨q,e,hb,row_stay hq s (fun c=>?_)⟩
  subst c
  rw [hA] at hq
  simp only [Option.some.injEq,Obj.cells.injEq] at hq
  exact absurd hq.2.1 (by decide)
end
def OWa (base fb fa db da:Nat) (v:Value) (l:List Ii) (x:Ii) (fl:Nat → Bool) (u:Nat → Value) (w:World):Prop:=
  (fl fa=false → OwnI base w v l) ∧ (fl fb=true → ∃ p,u db=.slice (some ⟨p,0,none⟩) 1 1 ∧ (fl fa=false → w.heap[p]?=some (.cells (iC x) 40 (0,0)))) ∧ (fl fa=true → OwnI base w (u da) (l ++ [x]))
theorem OWa.keep {base fb fa db da:Nat} {v:Value} {l:List Ii} {x:Ii} {fl fl':Nat → Bool} {u u':Nat → Value} {w w':World} (h:OWa base fb fa db da v l x fl u w) (b:KeepI w w') (hf:fl' fb=fl fb ∧ fl' fa=fl fa) (hu:u' db=u db ∧ u' da=u da):OWa base fb fa db da v l x fl' u' w':=by
  obtain ⟨h1,h2,h3⟩:=h
  refine ⟨fun c=>?_,fun c=>?_,fun c=>?_⟩
  · rw [hf.2] at c;exact (h1 c).keepI b
  · rw [hf.1] at c
    obtain ⟨p,e,hp⟩:=h2 c
    rw [hu.1,hf.2]
    exact ⟨p,e,fun c=>b _ _ (hp c)⟩
  · rw [hf.2] at c;rw [hu.2];exact (h3 c).keepI b
def OWb (base f0 f2 f4 d0 d2 d4:Nat) (l k:List Ii) (fl:Nat → Bool) (u:Nat → Value) (w:World):Prop:=
  (fl f0=true → fl f2=false → OwnI base w (u d0) []) ∧ (fl f2=true → fl f4=false → OwnI base w (u d2) l) ∧ (fl f4=true → OwnI base w (u d4) (l ++ k))
theorem OWb.keep {base f0 f2 f4 d0 d2 d4:Nat} {l k:List Ii} {fl fl':Nat → Bool} {u u':Nat → Value} {w w':World} (h:OWb base f0 f2 f4 d0 d2 d4 l k fl u w) (b:KeepI w w') (hf:fl' f0=fl f0 ∧ fl' f2=fl f2 ∧ fl' f4=fl f4) (hu:u' d0=u d0 ∧ u' d2=u d2 ∧ u' d4=u d4):OWb base f0 f2 f4 d0 d2 d4 l k fl' u' w':=by
  obtain ⟨h1,h2,h3⟩:=h
  refine ⟨fun c d=>?_,fun c d=>?_,fun c=>?_⟩
  · rw [hf.1] at c;rw [hf.2.1] at d;rw [hu.1];exact (h1 c d).keepI b
  · rw [hf.2.1] at c;rw [hf.2.2] at d;rw [hu.2.1];exact (h2 c d).keepI b
  · rw [hf.2.2] at c;rw [hu.2.2];exact (h3 c).keepI b
section
variable {ρ:Operand → Value} {o:Oper} {w:World} {x y:Operand} {g:Nat}
theorem al_rg (ho:o.op=.alloc 24):(execOp ρ o).run Tryz.prog w=.ok (.value (.pointer (some ⟨w.heap.size,0,none⟩))) (w.alloc (.cells (rgC zG) 24)):=by
  simp [execOp,ho,go_sem]
  rfl
theorem exec_bs1 {i:Ii} (ho:o.op=.buildSlice 22 1 #[(0,x)]) (hx:ρ x=.agg (iC i)):(execOp ρ o).run Tryz.prog w=.ok (.value (.slice (some ⟨w.heap.size,0,none⟩) 1 1)) (w.alloc (.cells (iC i) 40)):=by
  simp [execOp,ho,hx,go_sem]
theorem exec_bs0 (ho:o.op=.buildSlice 22 0 #[]):(execOp ρ o).run Tryz.prog w=.ok (.value (.slice (some ⟨w.heap.size,0,none⟩) 0 0)) (w.alloc (.cells #[] 40)):=by
  simp [execOp,ho,go_sem]
end
end Go.Proofs.YtbpehbeakhocnaaGreatDoor.Irn
