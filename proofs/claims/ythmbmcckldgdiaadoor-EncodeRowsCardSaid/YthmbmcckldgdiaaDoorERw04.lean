import Derived.Test.YthmbmcckldgdiaaDoorERw03
import Derived.Test.YthmbmcckldgdiaaDoorERw01
import Derived.Orders
import Derived.Laws.StructEq
import Derived.WalkKit
set_option linter.unusedVariables false
set_option linter.unusedSimpArgs false
set_option linter.unnecessarySimpa false
namespace Go.Proofs.YthmbmcckldgdiaaDoor.Mrm
open Go.RowKit
set_option linter.unusedVariables false
set_option linter.unnecessarySimpa false
set_option linter.unusedSimpArgs false
set_option maxRecDepth 100000
theorem rd_reg {l:List Int} (h:192 ≤ l.getD 0 0):readV l=rdV (l.getD 0 0 / 8 % 8) (l.getD 0 0 % 8) 0 false 1 0:=by
  unfold readV
  rw [if_pos (by unfold regOk;exact decide_eq_true h)]
theorem rd_no {l:List Int} (h:l.getD 0 0 < 192) (h2:(decide (128 ≤ l.getD 0 0) && memOk l)=false):readV l=rdV 0 0 0 false 0 30:=by
  unfold readV
  rw [if_neg (by unfold regOk;rw [decide_eq_true_eq];omega),if_neg (by rw [h2];decide)]
theorem rd_mem {l:List Int} (h:l.getD 0 0 < 192) (h1:128 ≤ l.getD 0 0) (h2:memOk l=true):readV l=rdV (l.getD 0 0 / 8 % 8) (l.getD 0 0 % 8) (sgn ((l.drop (atN (l.getD 0 0))).take 4)) true (atN (l.getD 0 0) + 4:Nat) 0:=by
  unfold readV
  rw [if_neg (by unfold regOk;rw [decide_eq_true_eq];omega),if_pos (by rw [decide_eq_true h1,h2];rfl)]
theorem memOk_iff {l:List Int}:memOk l=true ↔ l.getD 0 0 < 192 ∧ atN (l.getD 0 0) + 4 ≤ l.length ∧ (l.getD 0 0 % 8=4 → l.getD 1 0=36):=by
  unfold memOk
  simp only [Bool.and_eq_true,Bool.or_eq_true,decide_eq_true_eq]
  constructor
  · rintro ⟨a,b,c⟩
    exact ⟨a,b,fun h=>c.elim (fun g=>absurd h g) id⟩
  · rintro ⟨a,b,c⟩
    refine ⟨a,b,?_⟩
    by_cases h:l.getD 0 0 % 8=4
    · exact .inr (c h)
    · exact .inl h
theorem rd_bad {l:List Int} (h:l.getD 0 0 < 192) (h2:¬ (atN (l.getD 0 0) + 4 ≤ l.length ∧ (l.getD 0 0 % 8=4 → l.getD 1 0=36))):readV l=rdV 0 0 0 false 0 30:=
  rd_no h (by
    cases g:memOk l
    · rw [Bool.and_false]
    · exact absurd (memOk_iff.1 g).2 h2)
theorem at_not {z:Int} (h:¬ z % 8=4):atN z=1:=if_neg h
theorem at_four {z:Int} (h:z % 8=4):atN z=2:=if_pos h
set_option maxHeartbeats 1000000 in
theorem read_n (a:Option Addr) (len cap:Nat) (zs:List Int) (W:World) (h:BytesAt W a len cap zs):Calls Tryd.prog 71 #[.slice a len cap] W fun e w'=>e=.returned (readV zs) ∧ Below W.heap.size W w':=by
  have hl:=h.size
  by_cases h0:0 < len
  · obtain ⟨b,o,rfl,hc,hb⟩:=at_cells h h0
    have c0:=hc 0 h0
    rw [Nat.add_zero] at c0
    obtain ⟨b0,b1⟩:=hb 0 h0
    by_cases g1:192 ≤ zs.getD 0 0
    · rw [rd_reg g1]
      exact read_reg b o len cap _ h0 h.le h.fit b0 b1 g1 W c0
    by_cases g2:zs.getD 0 0 < 128
    · rw [rd_no (by omega) (by rw [decide_eq_false (by omega)];rfl)]
      exact read_low b o len cap _ h0 h.le h.fit b0 b1 g2 W c0
    have f1:128 ≤ zs.getD 0 0:=by omega
    have f2:zs.getD 0 0 < 192:=by omega
    by_cases g3:zs.getD 0 0 % 8=4
    · by_cases g4:len < 2
      · rw [rd_bad f2 (by rw [at_four g3];omega)]
        have hle:=h.le
        by_cases g5:cap=1
        · exact read_40 b o len cap _ h0 h.le h.fit b0 b1 f1 f2 g3 g5 W c0
        · exact read_41 b o len cap _ h0 h.le h.fit b0 b1 f1 f2 g3 (by omega) (by omega) W c0
      have c1:=hc 1 (by omega)
      obtain ⟨y0,y1⟩:=hb 1 (by omega)
      by_cases g5:zs.getD 1 0=36
      · rw [g5] at c1
        by_cases g6:len < 6
        · rw [rd_bad f2 (by rw [at_four g3];omega)]
          have hle:=h.le
          by_cases g7:cap=2
          · exact read_4e b o len cap _ h0 h.le h.fit b0 b1 f1 f2 g3 (by omega) g7 W c0 c1
          · exact read_4s b o len cap _ h0 h.le h.fit b0 b1 f1 f2 g3 (by omega) (by omega) g6 W c0 c1
        · rw [rd_mem f2 f1 (memOk_iff.2 ⟨f2,by rw [at_four g3];omega,fun _=>g5⟩),at_four g3]
          exact read_4y b o len cap _ h0 h.le h.fit b0 b1 f1 f2 g3 (by omega) W c0 c1 zs h
      · rw [rd_bad f2 (fun g=>g5 (g.2 g3))]
        exact read_4n b o len cap _ h0 h.le h.fit b0 b1 f1 f2 g3 (by omega) W c0 _ y0 y1 c1 g5
    · by_cases g4:len < 5
      · rw [rd_bad f2 (by rw [at_not g3];omega)]
        have hle:=h.le
        by_cases g5:cap=1
        · exact read_e0 b o len cap _ h0 h.le h.fit b0 b1 f1 f2 g3 g5 W c0
        · exact read_e1 b o len cap _ h0 h.le h.fit b0 b1 f1 f2 g3 (by omega) g4 W c0
      · rw [rd_mem f2 f1 (memOk_iff.2 ⟨f2,by rw [at_not g3];omega,fun g=>absurd g g3⟩),at_not g3]
        exact read_m1 b o len cap _ h0 h.le h.fit b0 b1 zs f1 f2 g3 (by omega) W c0 h
  · obtain rfl:len=0:=by omega
    obtain rfl:zs=[]:=List.eq_nil_of_length_eq_zero hl.symm
    rw [rd_no (by decide) rfl]
    cases a with
    | none=>
      have:=h.nilc rfl
      subst this
      exact read_nil W
    | some x=>exact read_zero x cap h.fit W
end Go.Proofs.YthmbmcckldgdiaaDoor.Mrm
namespace Go.Proofs.YthmbmcckldgdiaaDoor.Mrm
open Go Go.RowKit
set_option maxRecDepth 100000
set_option linter.unusedVariables false
set_option linter.unusedSimpArgs false
structure Xi where
  op:Int
  w:Int
  dst:Int
  src:Int
  base:Int
  disp:Int
  imm:Int
  cc:Int
deriving DecidableEq
abbrev xC (x:Xi):Array Value:=#[.int .i8 x.op,.int .i8 x.w,.int .i8 x.dst,.int .i8 x.src,.int .i8 x.base,.int .i64 x.disp,.int .i64 x.imm,.int .i8 x.cc]
abbrev xL (x:Xi):List Value:=[.int .i8 x.op,.int .i8 x.w,.int .i8 x.dst,.int .i8 x.src,.int .i8 x.base,.int .i64 x.disp,.int .i64 x.imm,.int .i8 x.cc]
def zX:Xi:=⟨0,0,0,0,0,0,0,0⟩
def eqX (a b:Xi):Bool:=a.op == b.op && a.w == b.w && a.dst == b.dst && a.src == b.src && a.base == b.base && a.disp == b.disp && a.imm == b.imm && a.cc == b.cc
theorem eqX_iff {a b:Xi}:eqX a b=true ↔ a=b:=by
  unfold eqX
  cases a;cases b
  simp [and_assoc]
def clsT:List Int:=[1,2,1,1,1,1,1,1,1,2,2,2,2,2,2,2,1,3,3,3,4,4,4,4,4,5,6,7,8,9,10,10]
def clsI (op:Int):Int:=if 0 ≤ op ∧ op < 32 then clsT.getD op.toNat 0 else 0
def codT:List Int:=[137,0,1,9,33,41,49,57,133,0,1,4,5,6,7,0,0,4,5,7,4,5,7,3,6,0,0,0,0,0,0,0]
def codI (op:Int):Int:=if 0 ≤ op ∧ op < 32 then codT.getD op.toNat 0 else 0
theorem clsI_fin:∀ k:Fin 32,1 ≤ clsI (k.1:Int) ∧ clsI (k.1:Int) ≤ 10:=by decide +kernel
theorem clsI_cases (op:Int):clsI op=0 ∨ clsI op=1 ∨ clsI op=2 ∨ clsI op=3 ∨ clsI op=4 ∨ clsI op=5 ∨ clsI op=6 ∨ clsI op=7 ∨ clsI op=8 ∨ clsI op=9 ∨ clsI op=10:=by
  by_cases h:0 ≤ op ∧ op < 32
  · have:=clsI_fin ⟨op.toNat,by omega⟩
    simp only [Int.toNat_of_nonneg h.1] at this
    omega
  · left;unfold clsI;rw [if_neg h]
def fldX (k:Int) (x:Xi):Xi:=⟨x.op,if k < 10 then x.w else 0,if k ≤ 6 then x.dst else 0,if k=1 ∨ k=5 ∨ k=7 then x.src else 0,if k=6 ∨ k=7 then x.base else 0,if k=6 ∨ k=7 then x.disp else 0,if k=2 ∨ k=3 ∨ k=8 ∨ k=9 then x.imm else 0,if k=5 ∨ k=9 then x.cc else 0⟩
def longB (w:Int):Bool:=w == 32 || w == 64
def fourB (n:Int):Bool:=decide (-2147483648 ≤ n) && decide (n < 2147483648)
def oneB (n:Int):Bool:=decide (-128 ≤ n) && decide (n < 128)
def ccB (c:Int):Bool:=(decide (2 ≤ c) && decide (c ≤ 7)) || (decide (12 ≤ c) && decide (c ≤ 15))
def widB (w:Int):Bool:=w == 8 || w == 16 || w == 32 || w == 64
def jmpB (x:Xi):Bool:=x.w == 32 || (x.w == 8 && oneB x.imm)
def clsB (k:Int) (x:Xi):Bool:=
  if k=1 ∨ k=2 ∨ k=4 then longB x.w else
  if k=3 then longB x.w && (decide (0 ≤ x.imm) && decide (x.imm < x.w)) else
  if k=5 then longB x.w && ccB x.cc else
  if k=6 ∨ k=7 then widB x.w else
  if k=8 then jmpB x else
  if k=9 then jmpB x && ccB x.cc else true
def mayX (x:Xi):Bool:=clsI x.op != 0 && (eqX x (fldX (clsI x.op) x) && (regB x.dst && (regB x.src && (regB x.base && (fourB x.disp && (fourB x.imm && clsB (clsI x.op) x))))))
end Go.Proofs.YthmbmcckldgdiaaDoor.Mrm
namespace Go.Proofs.YthmbmcckldgdiaaDoor
open Go
set_option linter.unusedVariables false
section
variable {P:Program} {ops:Array Oper} {Q:Exit → Act → World → Prop} {md:Region.Mode}
def unl (l:Array Bool):Nat → Nat
  | 0=>0
  | n + 1=>unl l n + if l.getD n true then 0 else 1
theorem unl_zero {l:Array Bool}:∀ {n:Nat},unl l n=0 → ∀ i,i < n → l.getD i true=true
  | n + 1,h,i,hi=>by
    unfold unl at h
    by_cases e:i=n
    · subst e
      cases hh:l.getD i true
      · simp [hh] at h
      · rfl
    · exact unl_zero (n:=n) (by omega) i (by omega)
theorem getD_set (l:Array Bool) (i j:Nat) (hi:i < l.size) (d:Bool):(l.setIfInBounds i true).getD j d=if j=i then true else l.getD j d:=by
  simp only [Array.getD_eq_getD_getElem?,Array.getElem?_setIfInBounds]
  by_cases e:i=j
  · subst e;simp [hi]
  · simp [e,Ne.symm e]
theorem unl_set {l:Array Bool} {i:Nat} (hi:i < l.size) (hf:l.getD i true=false):∀ n,unl (l.setIfInBounds i true) n + (if i < n then 1 else 0)=unl l n
  | 0=>by simp [unl]
  | n + 1=>by
    have ih:=unl_set hi hf n
    unfold unl
    rw [getD_set l i n hi]
    by_cases e:n=i
    · subst e
      rw [hf]
      simp at ih ⊢
      omega
    · rw [if_neg e]
      have:(i < n + 1) ↔ (i < n):=by omega
      simp only [this]
      omega
theorem wpAny_inv (I:Array Bool → Act → World → Prop)
    (hback:∀ (i:Nat) (o:Oper),ops[i]?=some o → ∀ e ∈ o.after,Region.binds md e=true → e.on < i)
    (hend:∀ (l:Array Bool) (a:Act) (w:World),I l a w → (∀ i,i < ops.size → l.getD i true=true) → Q .normal a w)
    (hstep:∀ (l:Array Bool) (a:Act) (w:World) (i:Nat) (o:Oper),l.size=ops.size → I l a w → ops[i]?=some o → l.getD i true=false → (∀ e ∈ o.after,Region.binds md e=true → l.getD e.on false=true) → wpOp P ops Q i (I (l.setIfInBounds i true)) a w):
    ∀ fuel l a w,l.size=ops.size → I l a w → unl l ops.size ≤ fuel → wpAny P md ops Q fuel l a w:=by
  have hready:∀ (l:Array Bool) (i:Nat),i ∈ Region.ready md ops l ↔ i < ops.size ∧ l.getD i true=false ∧ ∃ o:Oper,ops[i]?=some o ∧ ∀ e ∈ o.after,Region.binds md e=true → l.getD e.on false=true:=by
    intro l i
    unfold Region.ready
    rw [List.mem_filter,List.mem_range]
    constructor
    · rintro ⟨hi,h⟩
      simp only [Bool.and_eq_true,Bool.not_eq_true'] at h
      refine ⟨hi,h.1,ops[i],Array.getElem?_eq_getElem hi,fun e he hb=>?_⟩
      have h2:=h.2
      rw [Array.getElem?_eq_getElem hi] at h2
      simp only [Option.map_some,Option.getD_some] at h2
      rw [Array.all_eq_true_iff_forall_mem] at h2
      have:=h2 e he
      simpa [hb] using this
    · rintro ⟨hi,hf,o,ho,ha⟩
      refine ⟨hi,?_⟩
      simp only [Bool.and_eq_true,Bool.not_eq_true']
      refine ⟨hf,?_⟩
      rw [ho]
      simp only [Option.map_some,Option.getD_some]
      rw [Array.all_eq_true_iff_forall_mem]
      intro e he
      cases hb:Region.binds md e
      · rfl
      · simpa [hb] using ha e he hb
  have hnone:∀ l:Array Bool,Region.ready md ops l=[] → ∀ i,i < ops.size → l.getD i true=true:=by
    intro l hr i
    induction i using Nat.strongRecOn with
    | ind i ih=>
      intro hi
      cases hf:l.getD i true
      · exfalso
        have:i ∈ Region.ready md ops l:=(hready l i).2 ⟨hi,hf,ops[i],Array.getElem?_eq_getElem hi,fun e he hb=>by
          have hlt:=hback i _ (Array.getElem?_eq_getElem hi) e he hb
          have:=ih e.on hlt (by omega)
          by_cases hs:e.on < l.size
          · simp only [Array.getD_eq_getD_getElem?,Array.getElem?_eq_getElem hs,Option.getD_some] at this ⊢
            exact this
          · exfalso
            have hi':l.getD i true=true:=by
              simp only [Array.getD_eq_getD_getElem?]
              rw [Array.getElem?_eq_none (by omega)];rfl
            rw [hi'] at hf;cases hf⟩
        rw [hr] at this;cases this
      · rfl
  intro fuel
  induction fuel with
  | zero=>
    intro l a w hs hI hu
    have hz:=unl_zero (l:=l) (n:=ops.size) (by omega)
    have hr:Region.ready md ops l=[]:=by
      apply List.eq_nil_iff_forall_not_mem.2
      intro i hi
      obtain ⟨h1,h2,_⟩:=(hready l i).1 hi
      rw [hz i h1] at h2;cases h2
    exact ⟨hr,hend l a w hI hz⟩
  | succ fuel ih=>
    intro l a w hs hI hu
    refine ⟨fun hr=>hend l a w hI (hnone l hr),fun i hi=>?_⟩
    obtain ⟨h1,h2,o,ho,ha⟩:=(hready l i).1 hi
    refine wpOp_mono (fun a' w' hI'=>ih _ a' w' (by simpa using hs) hI' ?_) (hstep l a w i o hs hI ho h2 ha)
    have:=unl_set (l:=l) (i:=i) (by omega) h2 ops.size
    rw [if_pos h1] at this
    omega
def putAll (t:Array Value):List (Nat × Value) → Array Value
  | []=>t
  | p :: r=>putAll (t.setIfInBounds p.1 p.2) r
theorem putAll_size:∀ (l:List (Nat × Value)) (t:Array Value),(putAll t l).size=t.size
  | [],t=>rfl
  | p :: r,t=>by unfold putAll;rw [putAll_size r];simp
theorem putAll_other:∀ (l:List (Nat × Value)) (t:Array Value) (j:Nat),(∀ p ∈ l,p.1 ≠ j) → (putAll t l)[j]?=t[j]?
  | [],t,j,_=>rfl
  | p :: r,t,j,h=>by
    unfold putAll
    rw [putAll_other r _ j (fun q hq=>h q (List.mem_cons_of_mem _ hq)),Array.getElem?_setIfInBounds,if_neg (h p (List.mem_cons_self ..))]
theorem putAll_mem (f:Nat → Value):∀ (l:List (Nat × Value)) (t:Array Value) (j:Nat),j < t.size → (∀ p ∈ l,p.2=f p.1) → (∃ p ∈ l,p.1=j) → (putAll t l)[j]?=some (f j)
  | [],t,j,_,_,h=>by obtain ⟨p,hp,_⟩:=h;cases hp
  | p :: r,t,j,hj,hf,h=>by
    unfold putAll
    by_cases hr:∃ q ∈ r,q.1=j
    · exact putAll_mem f r _ j (by simpa using hj) (fun q hq=>hf q (List.mem_cons_of_mem _ hq)) hr
    · have hp:p.1=j:=by
        obtain ⟨q,hq,e⟩:=h
        rcases List.mem_cons.1 hq with rfl | hq'
        · exact e
        · exact absurd ⟨q,hq',e⟩ hr
      rw [putAll_other r _ j (fun q hq e=>hr ⟨q,hq,e⟩),Array.getElem?_setIfInBounds,if_pos hp]
      have:=hf p (List.mem_cons_self ..)
      rw [this,hp];simp [hj]
def outs (ops:Array Oper) (u:Nat → Value):List (Nat × Value):=(List.range ops.size).filterMap fun i=>((ops[i]?).bind (·.dst)).map fun d=>(d,u d)
def own (o:Oper) (a:Act):Value:=match o.dst with | some d=>a.tmps.getD d undef | none=>undef
theorem put_getD (a:Act) (d0:Nat) (v:Value) (h:d0 < a.tmps.size) (j:Nat):(a.put (some d0) v).tmps.getD j undef=if j=d0 then v else a.tmps.getD j undef:=by
  show (a.tmps.setIfInBounds d0 v).getD j undef=_
  simp only [Array.getD_eq_getD_getElem?,Array.getElem?_setIfInBounds]
  by_cases e:d0=j
  · subst e;simp [h]
  · simp [e,Ne.symm e]
def chkBack (ops:Array Oper):Bool:=(List.range ops.size).all fun i=>match ops[i]? with | some o=>o.after.all fun e=>!Region.binds .any e || decide (e.on < i) | none=>true
def chkDst (ops:Array Oper):Bool:=(List.range ops.size).all fun i=>(List.range ops.size).all fun j=>match ops[i]?,ops[j]? with
  | some o,some o'=>(match o.dst,o'.dst with | some d,some d'=>d != d' || i == j | _,_=>true)
  | _,_=>true
def chkIn (ops:Array Oper) (n:Nat):Bool:=(List.range ops.size).all fun i=>match ops[i]? with | some o=>(match o.dst with | some d=>decide (d < n) | none=>true) | none=>true
theorem of_range {ops:Array Oper} {f:Nat → Bool} (h:(List.range ops.size).all f=true) {i:Nat} {o:Oper} (ho:ops[i]?=some o):f i=true:=
  List.all_eq_true.1 h i (List.mem_range.2 (Array.getElem?_eq_some_iff.1 ho).1)
theorem back_of (h:chkBack ops=true):∀ (i:Nat) (o:Oper),ops[i]?=some o → ∀ e ∈ o.after,Region.binds .any e=true → e.on < i:=fun i o ho e he hb=>by
  have:=of_range h ho
  rw [ho] at this
  simp only [Array.all_eq_true_iff_forall_mem] at this
  simpa [hb] using this e he
theorem dst_of (h:chkDst ops=true):∀ (i j:Nat) (o o':Oper) (d:Nat),ops[i]?=some o → ops[j]?=some o' → o.dst=some d → o'.dst=some d → i=j:=fun i j o o' d ho ho' hd hd'=>by
  have:=of_range (of_range h ho) ho'
  rw [ho,ho'] at this
  simp only [hd,hd'] at this
  simpa using this
theorem in_of {n:Nat} (h:chkIn ops n=true):∀ (i:Nat) (o:Oper) (d:Nat),ops[i]?=some o → o.dst=some d → d < n:=fun i o d ho hd=>by
  have:=of_range h ho
  rw [ho] at this
  simpa [hd] using this
variable {a:Act} {w:World} {K:Act → World → Prop}
theorem exec_eql {ρ:Operand → Value} {o:Oper} {t z:TypeId} {x y:Operand} {xs ys:Array Value} {r:Bool} (ho:o.op=.binOp .eql t x y z) (hx:ρ x=.agg xs) (hy:ρ y=.agg ys) (hm:P.eqGuardType P.depth t=false)
    (he:(Op.equalIn 10000 t (.agg xs) (.agg ys)).run P w=.ok r w):(execOp ρ o).run P w=.ok (.value (.bool r)) w:=by
  unfold execOp
  simp only [ho,hx,hy,Sem.run_bind,run_eqGuard_agg w .eql t x y xs ys hm,run_eql_struct,he,Result.andThen_ok,Sem.run_pure]
theorem exec_neq {ρ:Operand → Value} {o:Oper} {t z:TypeId} {x y:Operand} {xs ys:Array Value} {r:Bool} (ho:o.op=.binOp .neq t x y z) (hx:ρ x=.agg xs) (hy:ρ y=.agg ys) (hm:P.eqGuardType P.depth t=false)
    (he:(Op.equalIn 10000 t (.agg xs) (.agg ys)).run P w=.ok r w):(execOp ρ o).run P w=.ok (.value (.bool (!r))) w:=by
  unfold execOp
  simp only [ho,hx,hy,Sem.run_bind,run_eqGuard_agg w .neq t x y xs ys hm,run_neq_struct,he,Result.andThen_ok,Sem.run_pure]
theorem wpOp_no {i:Nat} {o:Oper} (ho:ops[i]?=some o) (hw:Region.wanted o (yielded ops a.tmps)=false) (h:K (a.put o.dst undef) w):wpOp P ops Q i K a w:=by
  unfold wpOp
  rw [ho]
  simp only [hw]
  exact h
theorem wpOp_valw {i:Nat} {o:Oper} {v:Value} {w':World} (ho:ops[i]?=some o) (hw:Region.wanted o (yielded ops a.tmps)=true) (hr:(execOp a.eval o).run P w=.ok (.value v) w') (h:K (a.put o.dst v) w'):wpOp P ops Q i K a w:=by
  unfold wpOp
  rw [ho]
  simp only [hw,if_true]
  left
  unfold Oper.wp
  rw [hr]
  exact h
theorem wpOp_skpw {i:Nat} {o:Oper} {w':World} (ho:ops[i]?=some o) (hw:Region.wanted o (yielded ops a.tmps)=true) (hr:(execOp a.eval o).run P w=.ok .skip w') (h:K (a.put o.dst undef) w'):wpOp P ops Q i K a w:=by
  unfold wpOp
  rw [ho]
  simp only [hw,if_true]
  left
  unfold Oper.wp
  rw [hr]
  exact h
theorem wpOp_callw {i:Nat} {o:Oper} {f:FuncId} {args:Array Value} (ho:ops[i]?=some o) (hw:Region.wanted o (yielded ops a.tmps)=true) (hr:(execOp a.eval o).run P w=.ok (.enter f args) w)
    (h:Calls P f args w fun e w''=>∃ v,e=.returned v ∧ K (a.put o.dst v) w''):wpOp P ops Q i K a w:=by
  unfold wpOp
  rw [ho]
  simp only [hw,if_true]
  left
  unfold Oper.wp
  rw [hr]
  refine h.mono ?_
  rintro e w'' ⟨v,rfl,hk⟩
  exact hk
theorem wanted_of {o oj:Oper} {j d:Nat} {want b:Bool} (hg:o.guard=some (j,want)) (hj:ops[j]?=some oj) (hd:oj.dst=some d) (hlt:d < a.tmps.size) (h:a.tmps.getD d undef=.bool b):Region.wanted o (yielded ops a.tmps)=(b == want):=by
  have e:a.tmps[d]?=some (.bool b):=by
    rw [Array.getElem?_eq_getElem hlt]
    simp only [Array.getD_eq_getD_getElem?,Array.getElem?_eq_getElem hlt,Option.getD_some] at h
    rw [h]
  have y:yielded ops a.tmps j=some b:=by
    unfold yielded
    rw [hj]
    simp only [Option.bind_some,hd,e]
  unfold Region.wanted
  rw [hg]
  simp only [y]
  cases b <;> cases want <;> rfl
theorem wanted_no {o oj:Oper} {want:Bool} (j d:Nat) (b:Bool) (h:a.tmps.getD d undef=.bool b) (hlt:d < a.tmps.size) (hg:o.guard=some (j,want)) (hj:ops[j]?=some oj) (hd:oj.dst=some d) (hb:(b == want)=false):Region.wanted o (yielded ops a.tmps)=false:=
  (wanted_of hg hj hd hlt h).trans hb
theorem wanted_yes {o oj:Oper} {want:Bool} (j d:Nat) (b:Bool) (h:a.tmps.getD d undef=.bool b) (hlt:d < a.tmps.size) (hg:o.guard=some (j,want)) (hj:ops[j]?=some oj) (hd:oj.dst=some d) (hb:(b == want)=true):Region.wanted o (yielded ops a.tmps)=true:=
  (wanted_of hg hj hd hlt h).trans hb
def chkNot (ops:Array Oper) (j:Nat):Bool:=(List.range ops.size).all fun i=>match ops[i]? with | some o=>(match o.dst with | some d=>d != j | none=>true) | none=>true
theorem not_of {j:Nat} (h:chkNot ops j=true):∀ (i:Nat) (o:Oper),ops[i]?=some o → o.dst ≠ some j:=fun i o ho hd=>by
  have:=of_range h ho
  rw [ho] at this
  simp [hd] at this
theorem own_put {o:Oper} {d:Nat} {v:Value} (hd:o.dst=some d) (hlt:d < a.tmps.size):own o (a.put o.dst v)=v:=by
  unfold own
  rw [hd]
  show (a.put (some d) v).tmps.getD d undef=v
  rw [put_getD a d v hlt,if_pos rfl]
end
end Go.Proofs.YthmbmcckldgdiaaDoor
