import Derived.Test.YtbpehbeakhocnaaGreatDoorIRm03
import Derived.Test.YtbpehbeakhocnaaGreatDoorIRm25
import Derived.Test.YtbpehbeakhocnaaGreatDoorIRm24
set_option maxHeartbeats 4000000
set_option linter.unusedVariables false
set_option linter.unusedSimpArgs false
set_option linter.unnecessarySimpa false
namespace Go.Proofs.YtbpehbeakhocnaaGreatDoor.Mrm
open Go Go.RowKit
set_option maxRecDepth 100000
def readsX (x:Xi):Int:=
  if x.op=0 then (2:Int) ^ x.src.toNat else
  if x.op=24 then bits .or .i64 (bits .or .i64 ((2:Int) ^ x.dst.toNat) (1)) (4) else
  if x.op=26 then (2:Int) ^ x.base.toNat else
  if x.op=27 then bits .or .i64 ((2:Int) ^ x.base.toNat) ((2:Int) ^ x.src.toNat) else
  if x.op=30 then 17 else
  if x.op=31 then 1477 else
  if x.op=1 ∨ x.op=28 ∨ x.op=29 then 0 else
  if x.op=20 ∨ x.op=21 ∨ x.op=22 then bits .or .i64 ((2:Int) ^ x.dst.toNat) (2) else
  if x.op=2 ∨ x.op=3 ∨ x.op=4 ∨ x.op=5 ∨ x.op=6 ∨ x.op=7 ∨ x.op=8 ∨ x.op=16 ∨ x.op=25 then bits .or .i64 ((2:Int) ^ x.dst.toNat) ((2:Int) ^ x.src.toNat) else
  (2:Int) ^ x.dst.toNat
def writesX (x:Xi):Int:=
  if x.op=24 then 5 else
  if x.op=30 then 16 else
  if x.op=31 then 2051 else
  if x.op=7 ∨ x.op=8 ∨ x.op=14 ∨ x.op=15 ∨ x.op=27 ∨ x.op=28 ∨ x.op=29 then 0 else
  (2:Int) ^ x.dst.toNat
theorem may_parts {x:Xi} (h:mayX x=true):(0 ≤ x.op ∧ x.op < 32) ∧ (0 ≤ x.dst ∧ x.dst < 16) ∧ (0 ≤ x.src ∧ x.src < 16) ∧ (0 ≤ x.base ∧ x.base < 16):=by
  unfold mayX regB at h
  simp only [Bool.and_eq_true,bne_iff_ne,ne_eq,decide_eq_true_eq] at h
  obtain ⟨h0,h1,h2,h3,h4,h5,h6,h7⟩:=h
  refine ⟨?_,by omega,by omega,by omega⟩
  by_cases hh:0 ≤ x.op ∧ x.op < 32
  · exact hh
  · exact absurd (by unfold clsI;rw [if_neg hh]) h0
end Go.Proofs.YtbpehbeakhocnaaGreatDoor.Mrm
namespace Go.Proofs.YtbpehbeakhocnaaGreatDoor.Exe
open Go Go.RowKit
open Mrm (Xi zX mayX bytesX readsX writesX)
open Flg (Fl zF addF subF ofF holF holE)
set_option maxRecDepth 100000
def bitB (v:Int) (k:Nat):Int:=bits .and .i64 (v / 2 ^ k) 1
theorem bit1:∀ d k:Fin 16,(bitB ((2:Int) ^ d.1) k.1 == 1)=decide (k.1=d.1):=by decide +kernel
theorem bit0:∀ d k:Fin 16,(bitB ((2:Int) ^ d.1) k.1 == 0)=decide (k.1 ≠ d.1):=by decide +kernel
theorem bit2:∀ d s k:Fin 16,(bitB (bits .or .i64 ((2:Int) ^ d.1) ((2:Int) ^ s.1)) k.1 == 1)=(decide (k.1=d.1) || decide (k.1=s.1)):=by decide +kernel
theorem bitc:∀ d k:Fin 16,(bitB (bits .or .i64 ((2:Int) ^ d.1) 2) k.1 == 1)=(decide (k.1=d.1) || decide (k.1=1)):=by decide +kernel
theorem bitd:∀ d k:Fin 16,(bitB (bits .or .i64 (bits .or .i64 ((2:Int) ^ d.1) 1) 4) k.1 == 1)=(decide (k.1=d.1) || (decide (k.1=0) || decide (k.1=2))):=by decide +kernel
theorem bit5:∀ k:Fin 16,(bitB 5 k.1 == 0)=(decide (k.1 ≠ 0) && decide (k.1 ≠ 2)):=by decide +kernel
theorem bit16:∀ k:Fin 16,(bitB 16 k.1 == 0)=decide (k.1 ≠ 4):=by decide +kernel
theorem bit17:∀ k:Fin 16,(bitB 17 k.1 == 1)=(decide (k.1=0) || decide (k.1=4)):=by decide +kernel
theorem bit2051:∀ k:Fin 16,(bitB 2051 k.1 == 0)=(decide (k.1 ≠ 0) && (decide (k.1 ≠ 1) && decide (k.1 ≠ 11))):=by decide +kernel
theorem bit2051':∀ k:Fin 16,(bitB 2051 k.1 == 1)=(decide (k.1=0) || (decide (k.1=1) || decide (k.1=11))):=by decide +kernel
theorem bit1477:∀ k:Fin 16,(bitB 1477 k.1 == 1)=true → k.1 ≠ 1 ∧ k.1 ≠ 11:=by decide +kernel
theorem bit1477':∀ k:Fin 16,(bitB 1477 k.1 == 1)=false → k.1 ≠ 0:=by decide +kernel
def putsB (op:Int):Bool:=!(op == 24 || op == 30 || op == 31 || op == 7 || op == 8 || op == 14 || op == 15 || op == 27 || op == 28 || op == 29)
theorem writes_put {x:Xi} (h:putsB x.op=true):writesX x=(2:Int) ^ x.dst.toNat:=by
  unfold putsB at h
  simp only [Bool.not_eq_true',Bool.or_eq_false_iff,beq_eq_false_iff_ne] at h
  unfold writesX
  rw [if_neg (by omega),if_neg (by omega),if_neg (by omega),if_neg (by omega)]
theorem writes_keep {x:Xi} (h:x.op=7 ∨ x.op=8 ∨ x.op=14 ∨ x.op=15 ∨ x.op=27 ∨ x.op=28 ∨ x.op=29):writesX x=0:=by
  unfold writesX
  rw [if_neg (by omega),if_neg (by omega),if_neg (by omega),if_pos h]
def Puts (m n:Mc) (d:Nat):Prop:=∀ k,k ≠ d → n.r k=m.r k
theorem puts_of {m:Mc} {x:Xi} {l:Int} {n:Mc} (hO:0 ≤ x.op ∧ x.op < 32) (hp:putsB x.op=true) (E:effX m x l=some n):Puts m n x.dst.toNat:=by
  rcases Mrm.lt32 hO with h | h | h | h | h | h | h | h | h | h | h | h | h | h | h | h | h | h | h | h | h | h | h | h | h | h | h | h | h | h | h | h <;> rw [h] at hp
  case inr.inr.inr.inr.inr.inr.inr.inr.inr.inr.inr.inr.inr.inr.inr.inr.inr.inr.inr.inr.inr.inr.inr.inr.inr.inl=>
    rw [eff_25 m l h] at E
    cases hk:m.f.k
    · rw [hk] at E;cases E
    · rw [hk] at E
      cases E
      exact fun k hk=>setR_other _ _ hk
  all_goals first
    | (exfalso;revert hp;decide)
    | (rw [eff_0 m l h] at E;cases E;exact fun k hk=>setR_other _ _ hk)
    | (rw [eff_1 m l h] at E;cases E;exact fun k hk=>setR_other _ _ hk)
    | (rw [eff_2 m l h] at E;cases E;exact fun k hk=>setR_other _ _ hk)
    | (rw [eff_3 m l h] at E;cases E;exact fun k hk=>setR_other _ _ hk)
    | (rw [eff_4 m l h] at E;cases E;exact fun k hk=>setR_other _ _ hk)
    | (rw [eff_5 m l h] at E;cases E;exact fun k hk=>setR_other _ _ hk)
    | (rw [eff_6 m l h] at E;cases E;exact fun k hk=>setR_other _ _ hk)
    | (rw [eff_9 m l h] at E;cases E;exact fun k hk=>setR_other _ _ hk)
    | (rw [eff_10 m l h] at E;cases E;exact fun k hk=>setR_other _ _ hk)
    | (rw [eff_11 m l h] at E;cases E;exact fun k hk=>setR_other _ _ hk)
    | (rw [eff_12 m l h] at E;cases E;exact fun k hk=>setR_other _ _ hk)
    | (rw [eff_13 m l h] at E;cases E;exact fun k hk=>setR_other _ _ hk)
    | (rw [eff_16 m l h] at E;cases E;exact fun k hk=>setR_other _ _ hk)
    | (rw [eff_17 m l h] at E;cases E;exact fun k hk=>setR_other _ _ hk)
    | (rw [eff_18 m l h] at E;cases E;exact fun k hk=>setR_other _ _ hk)
    | (rw [eff_19 m l h] at E;cases E;exact fun k hk=>setR_other _ _ hk)
    | (rw [eff_20 m l h] at E;cases E;exact fun k hk=>setR_other _ _ hk)
    | (rw [eff_21 m l h] at E;cases E;exact fun k hk=>setR_other _ _ hk)
    | (rw [eff_22 m l h] at E;cases E;exact fun k hk=>setR_other _ _ hk)
    | (rw [eff_23 m l h] at E;cases E;exact fun k hk=>setR_other _ _ hk)
    | (rw [eff_26 m l h] at E;cases E;exact fun k hk=>setR_other _ _ hk)
theorem keeps_of {m:Mc} {x:Xi} {l:Int} {n:Mc} (hp:x.op=7 ∨ x.op=8 ∨ x.op=14 ∨ x.op=15 ∨ x.op=27 ∨ x.op=28 ∨ x.op=29) (E:effX m x l=some n):n.r=m.r:=by
  rcases hp with h | h | h | h | h | h | h
  · rw [eff_7 m l h] at E;cases E;rfl
  · rw [eff_8 m l h] at E;cases E;rfl
  · rw [eff_14 m l h] at E;cases E;rfl
  · rw [eff_15 m l h] at E;cases E;rfl
  · rw [eff_27 m l h] at E;cases E;rfl
  · rw [eff_28 m l h] at E;cases E;rfl
  · rw [eff_29 m l h] at E
    cases hk:m.f.k
    · rw [hk] at E;cases E
    · rw [hk] at E
      cases E
      unfold jccM
      cases holF x.cc m.f <;> rfl
theorem stays {m:Mc} {x:Xi} {l:Int} {n:Mc} (hm:mayX x=true) (E:effX m x l=some n) {k:Nat} (hk:k < 16) (hw:(bitB (writesX x) k == 0)=true):n.r k=m.r k:=by
  have p:=Mrm.may_parts' hm
  cases hp:putsB x.op
  · unfold putsB at hp
    simp only [Bool.not_eq_false',Bool.or_eq_true,beq_iff_eq] at hp
    rcases (show x.op=24 ∨ x.op=30 ∨ x.op=31 ∨ (x.op=7 ∨ x.op=8 ∨ x.op=14 ∨ x.op=15 ∨ x.op=27 ∨ x.op=28 ∨ x.op=29) by omega) with h | h | h | h
    · rw [show writesX x=5 by unfold writesX;rw [if_pos h],bit5 ⟨k,hk⟩] at hw
      simp only [Bool.and_eq_true,decide_eq_true_eq] at hw
      rw [eff_24 m l h] at E
      cases hb:divB m x
      · rw [hb] at E;cases E
      · rw [hb] at E
        cases E
        exact (setR_other _ _ hw.2).trans (setR_other _ _ hw.1)
    · rw [show writesX x=16 by unfold writesX;rw [if_neg (by omega),if_pos h],bit16 ⟨k,hk⟩] at hw
      simp only [decide_eq_true_eq] at hw
      rw [eff_30 m l h] at E
      cases E
      exact setR_other _ _ hw
    · rw [show writesX x=2051 by unfold writesX;rw [if_neg (by omega),if_neg (by omega),if_pos h],bit2051 ⟨k,hk⟩] at hw
      simp only [Bool.and_eq_true,decide_eq_true_eq] at hw
      rw [show effX m x l=some (((m.setR 0 l).setR 1 0).setR 11 0) from eff_31 m l h] at E
      cases E
      exact (setR_other _ _ hw.2.2).trans ((setR_other _ _ hw.2.1).trans (setR_other _ _ hw.1))
    · exact congrFun (keeps_of h E) k
  · rw [writes_put hp,show x.dst.toNat=(⟨x.dst.toNat,by omega⟩:Fin 16).1 from rfl,bit0 _ ⟨k,hk⟩] at hw
    exact puts_of p.1 hp E k (by simpa using hw)
end Go.Proofs.YtbpehbeakhocnaaGreatDoor.Exe
namespace Go.Proofs.YtbpehbeakhocnaaGreatDoor.Irn
open Go Go.RowKit
open Mrm (Xi xC xL zX eqX mayX readsX writesX)
open Flg (Fl zF mayC holF)
open Exe
structure Ii where
  k:Int
  x:Xi
  r:Int
  p:Int
  n:Int
  t:Int
abbrev iC (i:Ii):Array Value:=#[.int .i8 i.k,.int .i8 i.x.op,.int .i8 i.x.w,.int .i8 i.x.dst,.int .i8 i.x.src,.int .i8 i.x.base,.int .i64 i.x.disp,.int .i64 i.x.imm,.int .i8 i.x.cc,.int .i8 i.r,.int .i8 i.p,.int .i64 i.n,.int .i64 i.t]
abbrev iL (i:Ii):List Value:=[.int .i8 i.k,.int .i8 i.x.op,.int .i8 i.x.w,.int .i8 i.x.dst,.int .i8 i.x.src,.int .i8 i.x.base,.int .i64 i.x.disp,.int .i64 i.x.imm,.int .i8 i.x.cc,.int .i8 i.r,.int .i8 i.p,.int .i64 i.n,.int .i64 i.t]
def zI:Ii:=⟨0,zX,0,0,0,0⟩
def eqI (a b:Ii):Bool:=a.k == b.k && (eqX a.x b.x && (a.r == b.r && (a.p == b.p && (a.n == b.n && a.t == b.t))))
theorem eqI_iff {a b:Ii}:eqI a b=true ↔ a=b:=by
  unfold eqI
  cases a;cases b
  simp [Mrm.eqX_iff]
def I8 (v:Int):Prop:=-128 ≤ v ∧ v < 128
def I64 (v:Int):Prop:=-9223372036854775808 ≤ v ∧ v ≤ 9223372036854775807
def srcB (r:Int):Bool:=decide (0 ≤ r) && decide (r < 11)
def scrB (p:Int):Bool:=p == 0 || (p == 1 || (p == 2 || p == 11))
def blkB (t:Int):Bool:=decide (0 ≤ t) && decide (t ≤ 64)
def jmpO (op:Int):Bool:=op == 28 || (op == 29 || (op == 30 || op == 31))
def cmpX (x:Xi):Bool:=!jmpO x.op && (mayX x && (bits .and .i64 (bits .or .i64 (readsX x) (writesX x)) (-2056) == 0))
def namedI (i:Ii):Ii:=
  if i.k=0 then ⟨0,i.x,0,0,0,0⟩ else if i.k=1 ∨ i.k=2 then ⟨i.k,zX,i.r,i.p,0,0⟩ else if i.k=3 then ⟨3,zX,0,0,i.n,0⟩
  else if i.k=4 then ⟨4,⟨29,0,0,0,0,0,0,i.x.cc⟩,0,0,0,i.t⟩ else if i.k=5 then ⟨5,zX,0,0,0,i.t⟩ else ⟨i.k,zX,0,0,0,0⟩
def rangeI (i:Ii):Bool:=
  if i.k=0 then cmpX i.x else if i.k=1 ∨ i.k=2 then srcB i.r && scrB i.p else if i.k=3 then decide (0 ≤ i.n) && decide (i.n < 16)
  else if i.k=4 then mayC i.x.cc && blkB i.t else if i.k=5 then blkB i.t else i.k == 6
def mayI (i:Ii):Bool:=rangeI i && eqI i (namedI i)
def stopI (i:Ii):Bool:=i.k == 3 || (i.k == 4 || (i.k == 5 || (i.k == 6 || (i.k == 0 && (i.x.op == 26 || i.x.op == 27)))))
abbrev rgC (g:Nat → Int):Array Value:=#[.int .u64 (g 0),.int .u64 (g 1),.int .u64 (g 2),.int .u64 (g 3),.int .u64 (g 4),.int .u64 (g 5),.int .u64 (g 6),.int .u64 (g 7),.int .u64 (g 8),.int .u64 (g 9),.int .u64 (g 10)]
abbrev rgL (g:Nat → Int):List Value:=[.int .u64 (g 0),.int .u64 (g 1),.int .u64 (g 2),.int .u64 (g 3),.int .u64 (g 4),.int .u64 (g 5),.int .u64 (g 6),.int .u64 (g 7),.int .u64 (g 8),.int .u64 (g 9),.int .u64 (g 10)]
def zG:Nat → Int:=fun _=>0
def setG (g:Nat → Int) (j:Nat) (v:Int):Nat → Int:=fun k=>if k=j then v else g k
def GOk (g:Nat → Int):Prop:=∀ j,U64 (g j)
theorem GOk.set {g:Nat → Int} (h:GOk g) (j:Nat) {v:Int} (hv:U64 v):GOk (setG g j v):=fun k=>by
  unfold setG
  split
  · exact hv
  · exact h k
theorem zG_ok:GOk zG:=fun _=>⟨Int.le_refl 0,by show (0:Int) < 18446744073709551616;omega⟩
theorem lt11 {j:Nat} (h:j < 11):j=0 ∨ j=1 ∨ j=2 ∨ j=3 ∨ j=4 ∨ j=5 ∨ j=6 ∨ j=7 ∨ j=8 ∨ j=9 ∨ j=10:=by omega
theorem rgC_reg (g:Nat → Int) {j:Nat} (h:j < 11):(rgC g)[j]?=some (.int .u64 (g j)):=by
  rcases lt11 h with rfl | rfl | rfl | rfl | rfl | rfl | rfl | rfl | rfl | rfl | rfl <;> rfl
theorem rgC_set (g:Nat → Int) {j:Nat} (h:j < 11) (v:Int):(rgC g).setIfInBounds j (.int .u64 v)=rgC (setG g j v):=by
  rcases lt11 h with rfl | rfl | rfl | rfl | rfl | rfl | rfl | rfl | rfl | rfl | rfl <;> rfl
theorem rgC_ext {g h:Nat → Int} (e:∀ j,j < 11 → g j=h j):rgC g=rgC h:=by
  simp only [rgC,e 0 (by omega),e 1 (by omega),e 2 (by omega),e 3 (by omega),e 4 (by omega),e 5 (by omega),e 6 (by omega),e 7 (by omega),e 8 (by omega),e 9 (by omega),e 10 (by omega)]
abbrev Sg:=(Nat → Int) × Mc
def stepI (i:Ii) (s:Sg):Option Sg:=
  if i.k=1 then some (s.1,s.2.setR i.p.toNat (s.1 i.r.toNat)) else if i.k=2 then some (setG s.1 i.r.toNat (s.2.r i.p.toNat),s.2)
  else if doXe s.2 i.x 0=0 then some (s.1,doX s.2 i.x 0) else none
def runI:List Ii → Sg → Option Sg
  | [],s=>some s
  | i :: l,s=>(stepI i s).bind (runI l)
theorem runI_append (l k:List Ii) (s:Sg):runI (l ++ k) s=(runI l s).bind (runI k):=by
  induction l generalizing s with
  | nil=>rfl
  | cons i l ih=>
    show (stepI i s).bind (runI (l ++ k))=((stepI i s).bind (runI l)).bind (runI k)
    cases stepI i s with
    | none=>rfl
    | some t=>exact ih t
theorem runI_snoc (l:List Ii) (i:Ii) (s:Sg):runI (l ++ [i]) s=(runI l s).bind (stepI i):=by
  rw [runI_append]
  congr 1
  funext t
  show (stepI i t).bind (fun s=>some s)=_
  cases stepI i t <;> rfl
def runF:List Ii → Sg → Sg × Int
  | [],s=>(s,0)
  | i :: l,s=>match stepI i s with
    | some t=>runF l t
    | none=>((s.1,doX s.2 i.x 0),doXe s.2 i.x 0)
theorem runF_at {l:List Ii} {s t:Sg} (k:List Ii) (h:runI l s=some t):runF (l ++ k) s=runF k t:=by
  induction l generalizing s with
  | nil=>cases h;rfl
  | cons i l ih=>
    change (stepI i s).bind (runI l)=some t at h
    show (match stepI i s with | some t=>runF (l ++ k) t | none=>_)=_
    cases e:stepI i s with
    | none=>rw [e] at h;cases h
    | some u=>
      rw [e] at h
      exact ih h
theorem runF_some {l:List Ii} {s t:Sg} (h:runI l s=some t):runF l s=(t,0):=by
  have:=runF_at [] h
  rw [List.append_nil] at this
  exact this
theorem doXe_yes {m:Mc} {x:Xi} {l:Int} (h:mayX x=true):doXe m x l=0 ∨ doXe m x l=20:=by
  unfold doXe
  rw [if_pos h]
  split
  · exact .inl rfl
  · exact .inr rfl
theorem runF_none {l:List Ii} {s:Sg} (hl:∀ i ∈ l,i.k ≠ 1 → i.k ≠ 2 → mayX i.x=true) (h:runI l s=none):(runF l s).2=20:=by
  induction l generalizing s with
  | nil=>cases h
  | cons i l ih=>
    change (stepI i s).bind (runI l)=none at h
    show (match stepI i s with | some t=>runF l t | none=>((s.1,doX s.2 i.x 0),doXe s.2 i.x 0)).2=20
    cases e:stepI i s with
    | none=>
      show doXe s.2 i.x 0=20
      unfold stepI at e
      by_cases h1:i.k=1
      · rw [if_pos h1] at e;cases e
      · rw [if_neg h1] at e
        by_cases h2:i.k=2
        · rw [if_pos h2] at e;cases e
        · rw [if_neg h2] at e
          rcases doXe_yes (m:=s.2) (l:=0) (hl i (List.mem_cons_self ..) h1 h2) with c | c
          · rw [if_pos c] at e;cases e
          · exact c
    | some u=>
      rw [e] at h
      exact ih (fun j hj=>hl j (List.mem_cons_of_mem _ hj)) h
theorem runF_fault {l:List Ii} {s t:Sg} {x:Ii} {k:Nat} (h:runI (l.take k) s=some t) (hx:l[k]?=some x) (e:stepI x t=none):runF l s=((t.1,doX t.2 x.x 0),doXe t.2 x.x 0):=by
  obtain ⟨hk,ex⟩:=List.getElem?_eq_some_iff.1 hx
  have d:l=l.take k ++ (x :: l.drop (k + 1)):=by rw [← ex,List.getElem_cons_drop,List.take_append_drop]
  rw [d,runF_at _ h]
  show (match stepI x t with | some u=>runF _ u | none=>_)=_
  rw [e]
theorem take_snoc {l:List Ii} {x:Ii} {k:Nat} (hx:l[k]?=some x):l.take (k + 1)=l.take k ++ [x]:=by
  rw [List.take_add_one,hx]
  rfl
theorem run_next {l:List Ii} {s t u:Sg} {x:Ii} {k:Nat} (h:runI (l.take k) s=some t) (hx:l[k]?=some x) (e:stepI x t=some u):runI (l.take (k + 1)) s=some u:=by
  rw [take_snoc hx,runI_snoc,h]
  exact e
def stopL (l:List Ii):Nat:=l.findIdx stopI
def goI (l:List Ii) (g:Nat → Int):Option Sg:=runI (l.take (stopL l)) (g,zM)
theorem may_kind {i:Ii} (h:mayI i=true):i.k=0 ∨ i.k=1 ∨ i.k=2 ∨ i.k=3 ∨ i.k=4 ∨ i.k=5 ∨ i.k=6:=by
  unfold mayI rangeI at h
  rw [Bool.and_eq_true] at h
  have h:=h.1
  by_cases h0:i.k=0;· omega
  by_cases h1:i.k=1 ∨ i.k=2;· omega
  by_cases h3:i.k=3;· omega
  by_cases h4:i.k=4;· omega
  by_cases h5:i.k=5;· omega
  rw [if_neg h0,if_neg h1,if_neg h3,if_neg h4,if_neg h5,beq_iff_eq] at h
  omega
theorem may_zero {i:Ii} (h:mayI i=true) (hk:i.k=0):cmpX i.x=true:=by
  unfold mayI rangeI at h
  rw [Bool.and_eq_true,if_pos hk] at h
  exact h.1
theorem cmp_may {x:Xi} (h:cmpX x=true):mayX x=true:=by
  unfold cmpX at h
  simp only [Bool.and_eq_true] at h
  exact h.2.1
theorem cmp_op {x:Xi} (h:cmpX x=true):0 ≤ x.op ∧ x.op < 28:=by
  have p:=(Mrm.may_parts (cmp_may h)).1
  unfold cmpX jmpO at h
  simp only [Bool.and_eq_true,Bool.not_eq_true',Bool.or_eq_false_iff,beq_eq_false_iff_ne] at h
  omega
theorem may_copy {i:Ii} (h:mayI i=true) (hk:i.k=1 ∨ i.k=2):(0 ≤ i.r ∧ i.r < 11) ∧ (i.p=0 ∨ i.p=1 ∨ i.p=2 ∨ i.p=11):=by
  unfold mayI rangeI srcB scrB at h
  rw [Bool.and_eq_true,if_neg (by omega),if_pos hk] at h
  have h:=h.1
  simp only [Bool.and_eq_true,decide_eq_true_eq,Bool.or_eq_true,beq_iff_eq] at h
  exact h
theorem stop_kind {i:Ii} (h:mayI i=true) (hs:stopI i=false):(i.k=0 ∧ mayX i.x=true) ∨ i.k=1 ∨ i.k=2:=by
  unfold stopI at hs
  simp only [Bool.or_eq_false_iff,beq_eq_false_iff_ne] at hs
  rcases may_kind h with e | e | e | e | e | e | e
  · exact .inl ⟨e,cmp_may (may_zero h e)⟩
  all_goals omega
theorem eff_ok {m n:Mc} {x:Xi} {l:Int} (hM:MOk m) (hl:U64 l) (hO:0 ≤ x.op ∧ x.op < 32) (E:effX m x l=some n):MOk n:=by
  have z:U64 0:=⟨by omega,by omega⟩
  have dd:=hM.r x.dst.toNat
  have ss:=hM.r x.src.toNat
  have ii:=U64.wrap x.imm
  rcases Mrm.lt32 hO with h | h | h | h | h | h | h | h | h | h | h | h | h | h | h | h | h | h | h | h | h | h | h | h | h | h | h | h | h | h | h | h
  · rw [eff_0 m l h] at E;cases E;exact hM.setR _ (ss.cut _)
  · rw [eff_1 m l h] at E;cases E;exact hM.setR _ (ii.cut _)
  · rw [eff_2 m l h] at E;cases E;exact (hM.upF _).setR _ (U64.do_ _ _ dd ss)
  · rw [eff_3 m l h] at E;cases E;exact (hM.upF _).setR _ (U64.do_ _ _ dd ss)
  · rw [eff_4 m l h] at E;cases E;exact (hM.upF _).setR _ (U64.do_ _ _ dd ss)
  · rw [eff_5 m l h] at E;cases E;exact (hM.upF _).setR _ (U64.do_ _ _ dd ss)
  · rw [eff_6 m l h] at E;cases E;exact (hM.upF _).setR _ (U64.do_ _ _ dd ss)
  · rw [eff_7 m l h] at E;cases E;exact hM.upF _
  · rw [eff_8 m l h] at E;cases E;exact hM.upF _
  · rw [eff_9 m l h] at E;cases E;exact (hM.upF _).setR _ (U64.do_ _ _ dd ii)
  · rw [eff_10 m l h] at E;cases E;exact (hM.upF _).setR _ (U64.do_ _ _ dd ii)
  · rw [eff_11 m l h] at E;cases E;exact (hM.upF _).setR _ (U64.do_ _ _ dd ii)
  · rw [eff_12 m l h] at E;cases E;exact (hM.upF _).setR _ (U64.do_ _ _ dd ii)
  · rw [eff_13 m l h] at E;cases E;exact (hM.upF _).setR _ (U64.do_ _ _ dd ii)
  · rw [eff_14 m l h] at E;cases E;exact hM.upF _
  · rw [eff_15 m l h] at E;cases E;exact hM.upF _
  · rw [eff_16 m l h] at E;cases E;exact (hM.upF _).setR _ (U64.do_ _ _ dd ss)
  · rw [eff_17 m l h] at E;cases E;exact (hM.upF _).setR _ (U64.do_ _ _ dd ii)
  · rw [eff_18 m l h] at E;cases E;exact (hM.upF _).setR _ (U64.do_ _ _ dd ii)
  · rw [eff_19 m l h] at E;cases E;exact (hM.upF _).setR _ (U64.do_ _ _ dd ii)
  · rw [eff_20 m l h] at E;cases E;exact (hM.upF _).setR _ (U64.do_ _ _ dd (hM.r 1))
  · rw [eff_21 m l h] at E;cases E;exact (hM.upF _).setR _ (U64.do_ _ _ dd (hM.r 1))
  · rw [eff_22 m l h] at E;cases E;exact (hM.upF _).setR _ (U64.do_ _ _ dd (hM.r 1))
  · rw [eff_23 m l h] at E;cases E;exact (hM.upF _).setR _ (U64.do_ _ _ dd z)
  · rw [eff_24 m l h] at E
    cases hb:divB m x
    · rw [hb] at E;cases E
    · rw [hb] at E;cases E;exact ((hM.setR _ (U64.do_ _ _ (hM.r 0) dd)).setR _ (U64.do_ _ _ (hM.r 0) dd)).upF _
  · rw [eff_25 m l h] at E
    cases hb:m.f.k
    · rw [hb] at E;cases E
    · rw [hb] at E;cases E
      refine hM.setR _ (U64.cut ?_ _)
      cases holF x.cc m.f
      · exact dd
      · exact ss
  · rw [eff_26 m l h] at E;cases E;exact hM.setR _ (hl.cut _)
  · rw [eff_27 m l h] at E;cases E;exact hM
  · rw [eff_28 m l h] at E;cases E;exact hM.upA (U64.wrap _)
  · rw [eff_29 m l h] at E
    cases hb:m.f.k
    · rw [hb] at E;cases E
    · rw [hb] at E;cases E
      unfold jccM
      cases holF x.cc m.f
      · exact hM
      · exact hM.upA (U64.wrap _)
  · rw [eff_30 m l h] at E;cases E;exact (hM.upA hl).setR _ (U64.wrap _)
  · rw [eff_31 m l h] at E;cases E;exact ((hM.setR _ hl).setR _ z).setR _ z
theorem do_ok {m:Mc} {x:Xi} {l:Int} (hM:MOk m) (hl:U64 l):MOk (doX m x l):=by
  have z:MOk zM:=⟨fun _=>(⟨by omega,by omega⟩:U64 0),(⟨by omega,by omega⟩:U64 0)⟩
  unfold doX
  split
  · rename_i h
    cases e:goX m x l with
    | none=>exact z
    | some n=>exact eff_ok (hM.upA (U64.wrap _)) hl (Mrm.may_parts h).1 e
  · exact z
theorem step_ok {i:Ii} {s t:Sg} (hg:GOk s.1) (hM:MOk s.2) (e:stepI i s=some t):GOk t.1 ∧ MOk t.2:=by
  unfold stepI at e
  split at e
  · cases e;exact ⟨hg,hM.setR _ (hg _)⟩
  · split at e
    · cases e;exact ⟨hg.set _ (hM.r _),hM⟩
    · split at e
      · cases e;exact ⟨hg,do_ok hM ⟨by omega,by omega⟩⟩
      · cases e
theorem run_ok {l:List Ii} {s t:Sg} (hg:GOk s.1) (hM:MOk s.2) (e:runI l s=some t):GOk t.1 ∧ MOk t.2:=by
  induction l generalizing s with
  | nil=>cases e;exact ⟨hg,hM⟩
  | cons i l ih=>
    change (stepI i s).bind (runI l)=some t at e
    cases h:stepI i s with
    | none=>rw [h] at e;cases e
    | some u=>
      rw [h] at e
      exact ih (step_ok hg hM h).1 (step_ok hg hM h).2 e
end Go.Proofs.YtbpehbeakhocnaaGreatDoor.Irn
namespace Go.Proofs.YtbpehbeakhocnaaGreatDoor.Mrm
open Go Go.RowKit
set_option maxRecDepth 100000
theorem p2_wrap {d:Int} (h:0 ≤ d ∧ d < 16):wrap64 (2 ^ d.toNat)=2 ^ d.toNat:=by
  obtain ⟨h0,h1⟩:=h
  have:=(show ∀ k:Fin 16,wrap64 ((2:Int) ^ k.1)=(2:Int) ^ k.1 by decide +kernel) ⟨d.toNat,by omega⟩
  exact this
theorem p2_or0 {d:Int} (h:0 ≤ d ∧ d < 16):bits .or .i64 0 (2 ^ d.toNat)=2 ^ d.toNat:=by
  obtain ⟨h0,h1⟩:=h
  have:=(show ∀ k:Fin 16,bits .or .i64 0 ((2:Int) ^ k.1)=(2:Int) ^ k.1 by decide +kernel) ⟨d.toNat,by omega⟩
  exact this
theorem p2_div {d:Int} (h:0 ≤ d ∧ d < 16):bits .or .i64 (bits .or .i64 (bits .or .i64 0 1) 4) (2 ^ d.toNat)=bits .or .i64 (bits .or .i64 (2 ^ d.toNat) 1) 4:=by
  obtain ⟨h0,h1⟩:=h
  have:=(show ∀ k:Fin 16,bits .or .i64 (bits .or .i64 (bits .or .i64 0 1) 4) ((2:Int) ^ k.1)=bits .or .i64 (bits .or .i64 ((2:Int) ^ k.1) 1) 4 by decide +kernel) ⟨d.toNat,by omega⟩
  exact this
theorem set_1 (r0 q0:Int) (b:Nat) (W:World) (h0:0 ≤ r0 ∧ r0 < 16) (e0:wrap64 (2 ^ r0.toNat)=q0) (hr:W.heap[b]?=some (.cells #[.int .i8 r0] 36 (0,0))):
    Calls Tryz.prog 125 #[.slice (some ⟨b,0,none⟩) 1 1] W fun e w'=>e=.returned (.int .i64 (bits .or .i64 0 q0)) ∧ W=w':=by
  have HR:=Lib.hid hr
  clear hr
  have c0:W.cell? ⟨b,0,none⟩=some (.int .i8 r0):=by
    simp only [World.cell?,HR.out]
    rfl
  obtain ⟨h0a,h0b⟩:=h0
  go_enter Tryz.func125,Tryz.ntmps125
  go_wp2_with fail
  refine wp_loop_rounds 2 ?_
  rw [rounds_succ]
  go_wp2_with fail
  rw [rounds_succ]
  go_wp2_with fail
  go_ret
  exact ⟨rfl,rfl⟩
theorem set_2 (r0 r1 q0 q1:Int) (b:Nat) (W:World) (h0:0 ≤ r0 ∧ r0 < 16) (e0:wrap64 (2 ^ r0.toNat)=q0) (h1:0 ≤ r1 ∧ r1 < 16) (e1:wrap64 (2 ^ r1.toNat)=q1) (hr:W.heap[b]?=some (.cells #[.int .i8 r0,.int .i8 r1] 36 (0,0))):
    Calls Tryz.prog 125 #[.slice (some ⟨b,0,none⟩) 2 2] W fun e w'=>e=.returned (.int .i64 (bits .or .i64 (bits .or .i64 0 q0) q1)) ∧ W=w':=by
  have HR:=Lib.hid hr
  clear hr
  obtain ⟨c0,c1⟩:W.cell? ⟨b,0,none⟩=some (.int .i8 r0) ∧ W.cell? ⟨b,1,none⟩=some (.int .i8 r1):=by
    simp only [World.cell?,HR.out]
    exact ⟨rfl,rfl⟩
  obtain ⟨h0a,h0b⟩:=h0
  obtain ⟨h1a,h1b⟩:=h1
  go_enter Tryz.func125,Tryz.ntmps125
  go_wp2_with fail
  refine wp_loop_rounds 3 ?_
  rw [rounds_succ]
  go_wp2_with fail
  rw [rounds_succ]
  go_wp2_with fail
  rw [rounds_succ]
  go_wp2_with fail
  go_ret
  exact ⟨rfl,rfl⟩
theorem set_3 (r0 r1 r2 q0 q1 q2:Int) (b:Nat) (W:World) (h0:0 ≤ r0 ∧ r0 < 16) (e0:wrap64 (2 ^ r0.toNat)=q0) (h1:0 ≤ r1 ∧ r1 < 16) (e1:wrap64 (2 ^ r1.toNat)=q1) (h2:0 ≤ r2 ∧ r2 < 16) (e2:wrap64 (2 ^ r2.toNat)=q2) (hr:W.heap[b]?=some (.cells #[.int .i8 r0,.int .i8 r1,.int .i8 r2] 36 (0,0))):
    Calls Tryz.prog 125 #[.slice (some ⟨b,0,none⟩) 3 3] W fun e w'=>e=.returned (.int .i64 (bits .or .i64 (bits .or .i64 (bits .or .i64 0 q0) q1) q2)) ∧ W=w':=by
  have HR:=Lib.hid hr
  clear hr
  obtain ⟨c0,c1,c2⟩:W.cell? ⟨b,0,none⟩=some (.int .i8 r0) ∧ W.cell? ⟨b,1,none⟩=some (.int .i8 r1) ∧ W.cell? ⟨b,2,none⟩=some (.int .i8 r2):=by
    simp only [World.cell?,HR.out]
    exact ⟨rfl,rfl,rfl⟩
  obtain ⟨h0a,h0b⟩:=h0
  obtain ⟨h1a,h1b⟩:=h1
  obtain ⟨h2a,h2b⟩:=h2
  go_enter Tryz.func125,Tryz.ntmps125
  go_wp2_with fail
  refine wp_loop_rounds 4 ?_
  rw [rounds_succ]
  go_wp2_with fail
  rw [rounds_succ]
  go_wp2_with fail
  rw [rounds_succ]
  go_wp2_with fail
  rw [rounds_succ]
  go_wp2_with fail
  go_ret
  exact ⟨rfl,rfl⟩
theorem set_6 (r0 r1 r2 r3 r4 r5 q0 q1 q2 q3 q4 q5:Int) (b:Nat) (W:World) (h0:0 ≤ r0 ∧ r0 < 16) (e0:wrap64 (2 ^ r0.toNat)=q0) (h1:0 ≤ r1 ∧ r1 < 16) (e1:wrap64 (2 ^ r1.toNat)=q1) (h2:0 ≤ r2 ∧ r2 < 16) (e2:wrap64 (2 ^ r2.toNat)=q2) (h3:0 ≤ r3 ∧ r3 < 16) (e3:wrap64 (2 ^ r3.toNat)=q3) (h4:0 ≤ r4 ∧ r4 < 16) (e4:wrap64 (2 ^ r4.toNat)=q4) (h5:0 ≤ r5 ∧ r5 < 16) (e5:wrap64 (2 ^ r5.toNat)=q5) (hr:W.heap[b]?=some (.cells #[.int .i8 r0,.int .i8 r1,.int .i8 r2,.int .i8 r3,.int .i8 r4,.int .i8 r5] 36 (0,0))):
    Calls Tryz.prog 125 #[.slice (some ⟨b,0,none⟩) 6 6] W fun e w'=>e=.returned (.int .i64 (bits .or .i64 (bits .or .i64 (bits .or .i64 (bits .or .i64 (bits .or .i64 (bits .or .i64 0 q0) q1) q2) q3) q4) q5)) ∧ W=w':=by
  have HR:=Lib.hid hr
  clear hr
  obtain ⟨c0,c1,c2,c3,c4,c5⟩:W.cell? ⟨b,0,none⟩=some (.int .i8 r0) ∧ W.cell? ⟨b,1,none⟩=some (.int .i8 r1) ∧ W.cell? ⟨b,2,none⟩=some (.int .i8 r2) ∧ W.cell? ⟨b,3,none⟩=some (.int .i8 r3) ∧ W.cell? ⟨b,4,none⟩=some (.int .i8 r4) ∧ W.cell? ⟨b,5,none⟩=some (.int .i8 r5):=by
    simp only [World.cell?,HR.out]
    exact ⟨rfl,rfl,rfl,rfl,rfl,rfl⟩
  obtain ⟨h0a,h0b⟩:=h0
  obtain ⟨h1a,h1b⟩:=h1
  obtain ⟨h2a,h2b⟩:=h2
  obtain ⟨h3a,h3b⟩:=h3
  obtain ⟨h4a,h4b⟩:=h4
  obtain ⟨h5a,h5b⟩:=h5
  go_enter Tryz.func125,Tryz.ntmps125
  go_wp2_with fail
  refine wp_loop_rounds 7 ?_
  rw [rounds_succ]
  go_wp2_with fail
  rw [rounds_succ]
  go_wp2_with fail
  rw [rounds_succ]
  go_wp2_with fail
  rw [rounds_succ]
  go_wp2_with fail
  rw [rounds_succ]
  go_wp2_with fail
  rw [rounds_succ]
  go_wp2_with fail
  rw [rounds_succ]
  go_wp2_with fail
  go_ret
  exact ⟨rfl,rfl⟩
end Go.Proofs.YtbpehbeakhocnaaGreatDoor.Mrm
