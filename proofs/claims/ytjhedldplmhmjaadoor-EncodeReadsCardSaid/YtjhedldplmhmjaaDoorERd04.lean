import Derived.Orders
import Derived.Laws.StructEq
import Derived.WalkKit
import Derived.Test.YtjhedldplmhmjaaDoorERd01
import Derived.Deep.MidRow
import Derived.Deep.WholeRow
import Derived.Tactics
import Derived.Laws.Tables
set_option linter.unusedVariables false
set_option linter.unusedSimpArgs false
set_option linter.unnecessarySimpa false
namespace Go.Proofs.YtjhedldplmhmjaaDoor
open Go
set_option linter.unusedVariables false
section
variable {P:Program} {ops:Array Oper} {Q:Exit → Act → World → Prop} {md:Region.Mode}
def unl (l:Array Bool):Nat → Nat
  | 0=>0
  | n + 1=>unl l n + if l.getD n true then 0 else 1
theorem unl_zero {l:Array Bool}:∀ {n:Nat},unl l n=0 → ∀ i,i < n → l.getD i true=true
  | n + 1,h,i,hi=>by
    unfold unl at h
    by_cases e:i=n
    · subst e
      cases hh:l.getD i true
      · simp [hh] at h
      · rfl
    · exact unl_zero (n:=n) (by omega) i (by omega)
theorem getD_set (l:Array Bool) (i j:Nat) (hi:i < l.size) (d:Bool):(l.setIfInBounds i true).getD j d=if j=i then true else l.getD j d:=by
  simp only [Array.getD_eq_getD_getElem?,Array.getElem?_setIfInBounds]
  by_cases e:i=j
  · subst e;simp [hi]
  · simp [e,Ne.symm e]
theorem unl_set {l:Array Bool} {i:Nat} (hi:i < l.size) (hf:l.getD i true=false):∀ n,unl (l.setIfInBounds i true) n + (if i < n then 1 else 0)=unl l n
  | 0=>by simp [unl]
  | n + 1=>by
    have ih:=unl_set hi hf n
    unfold unl
    rw [getD_set l i n hi]
    by_cases e:n=i
    · subst e
      rw [hf]
      simp at ih ⊢
      omega
    · rw [if_neg e]
      have:(i < n + 1) ↔ (i < n):=by omega
      simp only [this]
      omega
theorem wpAny_inv (I:Array Bool → Act → World → Prop)
    (hback:∀ (i:Nat) (o:Oper),ops[i]?=some o → ∀ e ∈ o.after,Region.binds md e=true → e.on < i)
    (hend:∀ (l:Array Bool) (a:Act) (w:World),I l a w → (∀ i,i < ops.size → l.getD i true=true) → Q .normal a w)
    (hstep:∀ (l:Array Bool) (a:Act) (w:World) (i:Nat) (o:Oper),l.size=ops.size → I l a w → ops[i]?=some o → l.getD i true=false → (∀ e ∈ o.after,Region.binds md e=true → l.getD e.on false=true) → wpOp P ops Q i (I (l.setIfInBounds i true)) a w):
    ∀ fuel l a w,l.size=ops.size → I l a w → unl l ops.size ≤ fuel → wpAny P md ops Q fuel l a w:=by
  have hready:∀ (l:Array Bool) (i:Nat),i ∈ Region.ready md ops l ↔ i < ops.size ∧ l.getD i true=false ∧ ∃ o:Oper,ops[i]?=some o ∧ ∀ e ∈ o.after,Region.binds md e=true → l.getD e.on false=true:=by
    intro l i
    unfold Region.ready
    rw [List.mem_filter,List.mem_range]
    constructor
    · rintro ⟨hi,h⟩
      simp only [Bool.and_eq_true,Bool.not_eq_true'] at h
      refine ⟨hi,h.1,ops[i],Array.getElem?_eq_getElem hi,fun e he hb=>?_⟩
      have h2:=h.2
      rw [Array.getElem?_eq_getElem hi] at h2
      simp only [Option.map_some,Option.getD_some] at h2
      rw [Array.all_eq_true_iff_forall_mem] at h2
      have:=h2 e he
      simpa [hb] using this
    · rintro ⟨hi,hf,o,ho,ha⟩
      refine ⟨hi,?_⟩
      simp only [Bool.and_eq_true,Bool.not_eq_true']
      refine ⟨hf,?_⟩
      rw [ho]
      simp only [Option.map_some,Option.getD_some]
      rw [Array.all_eq_true_iff_forall_mem]
      intro e he
      cases hb:Region.binds md e
      · rfl
      · simpa [hb] using ha e he hb
  have hnone:∀ l:Array Bool,Region.ready md ops l=[] → ∀ i,i < ops.size → l.getD i true=true:=by
    intro l hr i
    induction i using Nat.strongRecOn with
    | ind i ih=>
      intro hi
      cases hf:l.getD i true
      · exfalso
        have:i ∈ Region.ready md ops l:=(hready l i).2 ⟨hi,hf,ops[i],Array.getElem?_eq_getElem hi,fun e he hb=>by
          have hlt:=hback i _ (Array.getElem?_eq_getElem hi) e he hb
          have:=ih e.on hlt (by omega)
          by_cases hs:e.on < l.size
          · simp only [Array.getD_eq_getD_getElem?,Array.getElem?_eq_getElem hs,Option.getD_some] at this ⊢
            exact this
          · exfalso
            have hi':l.getD i true=true:=by
              simp only [Array.getD_eq_getD_getElem?]
              rw [Array.getElem?_eq_none (by omega)];rfl
            rw [hi'] at hf;cases hf⟩
        rw [hr] at this;cases this
      · rfl
  intro fuel
  induction fuel with
  | zero=>
    intro l a w hs hI hu
    have hz:=unl_zero (l:=l) (n:=ops.size) (by omega)
    have hr:Region.ready md ops l=[]:=by
      apply List.eq_nil_iff_forall_not_mem.2
      intro i hi
      obtain ⟨h1,h2,_⟩:=(hready l i).1 hi
      rw [hz i h1] at h2;cases h2
    exact ⟨hr,hend l a w hI hz⟩
  | succ fuel ih=>
    intro l a w hs hI hu
    refine ⟨fun hr=>hend l a w hI (hnone l hr),fun i hi=>?_⟩
    obtain ⟨h1,h2,o,ho,ha⟩:=(hready l i).1 hi
    refine wpOp_mono (fun a' w' hI'=>ih _ a' w' (by simpa using hs) hI' ?_) (hstep l a w i o hs hI ho h2 ha)
    have:=unl_set (l:=l) (i:=i) (by omega) h2 ops.size
    rw [if_pos h1] at this
    omega
def putAll (t:Array Value):List (Nat × Value) → Array Value
  | []=>t
  | p :: r=>putAll (t.setIfInBounds p.1 p.2) r
theorem putAll_size:∀ (l:List (Nat × Value)) (t:Array Value),(putAll t l).size=t.size
  | [],t=>rfl
  | p :: r,t=>by unfold putAll;rw [putAll_size r];simp
theorem putAll_other:∀ (l:List (Nat × Value)) (t:Array Value) (j:Nat),(∀ p ∈ l,p.1 ≠ j) → (putAll t l)[j]?=t[j]?
  | [],t,j,_=>rfl
  | p :: r,t,j,h=>by
    unfold putAll
    rw [putAll_other r _ j (fun q hq=>h q (List.mem_cons_of_mem _ hq)),Array.getElem?_setIfInBounds,if_neg (h p (List.mem_cons_self ..))]
theorem putAll_mem (f:Nat → Value):∀ (l:List (Nat × Value)) (t:Array Value) (j:Nat),j < t.size → (∀ p ∈ l,p.2=f p.1) → (∃ p ∈ l,p.1=j) → (putAll t l)[j]?=some (f j)
  | [],t,j,_,_,h=>by obtain ⟨p,hp,_⟩:=h;cases hp
  | p :: r,t,j,hj,hf,h=>by
    unfold putAll
    by_cases hr:∃ q ∈ r,q.1=j
    · exact putAll_mem f r _ j (by simpa using hj) (fun q hq=>hf q (List.mem_cons_of_mem _ hq)) hr
    · have hp:p.1=j:=by
        obtain ⟨q,hq,e⟩:=h
        rcases List.mem_cons.1 hq with rfl | hq'
        · exact e
        · exact absurd ⟨q,hq',e⟩ hr
      rw [putAll_other r _ j (fun q hq e=>hr ⟨q,hq,e⟩),Array.getElem?_setIfInBounds,if_pos hp]
      have:=hf p (List.mem_cons_self ..)
      rw [this,hp];simp [hj]
def outs (ops:Array Oper) (u:Nat → Value):List (Nat × Value):=(List.range ops.size).filterMap fun i=>((ops[i]?).bind (·.dst)).map fun d=>(d,u d)
def own (o:Oper) (a:Act):Value:=match o.dst with | some d=>a.tmps.getD d undef | none=>undef
def ownU (o:Oper) (u:Nat → Value):Value:=match o.dst with | some d=>u d | none=>undef
structure Inv (ops:Array Oper) (a0:Act) (dep:Nat → Nat) (S:World → Prop) (R:Nat → Value → Value → World → Prop) (l:Array Bool) (a:Act) (w:World):Prop where
  s:S w
  defers:a.defers=a0.defers
  size:a.tmps.size=a0.tmps.size
  rest:∀ j,(∀ (i:Nat) (o:Oper),ops[i]?=some o → o.dst ≠ some j) → a.tmps.getD j undef=a0.tmps.getD j undef
  done:∀ (i:Nat) (o:Oper),ops[i]?=some o → l.getD i true=true → R i (own o a) (a.tmps.getD (dep i) undef) w
  closed:∀ (i:Nat) (o:Oper),ops[i]?=some o → l.getD i true=true → ∀ e ∈ o.after,Region.binds .any e=true → l.getD e.on true=true
theorem put_getD (a:Act) (d0:Nat) (v:Value) (h:d0 < a.tmps.size) (j:Nat):(a.put (some d0) v).tmps.getD j undef=if j=d0 then v else a.tmps.getD j undef:=by
  show (a.tmps.setIfInBounds d0 v).getD j undef=_
  simp only [Array.getD_eq_getD_getElem?,Array.getElem?_setIfInBounds]
  by_cases e:d0=j
  · subst e;simp [h]
  · simp [e,Ne.symm e]
theorem wp_region_inv {id:Nat} {a0:Act} {w0:World} (dep:Nat → Nat) (S:World → Prop) (R:Nat → Value → Value → World → Prop) (hm:P.follows .mixedOrders=true)
    (hback:∀ (i:Nat) (o:Oper),ops[i]?=some o → ∀ e ∈ o.after,Region.binds .any e=true → e.on < i)
    (hdst:∀ (i j:Nat) (o o':Oper) (d:Nat),ops[i]?=some o → ops[j]?=some o' → o.dst=some d → o'.dst=some d → i=j)
    (hdep:∀ (i j:Nat) (o o':Oper),ops[i]?=some o → ops[j]?=some o' → o.dst=some (dep j) → i=j ∨ ∃ e ∈ o'.after,Region.binds .any e=true ∧ e.on=i)
    (hin:∀ (i:Nat) (o:Oper) (d:Nat),ops[i]?=some o → o.dst=some d → d < a0.tmps.size)
    (h0:S { w0 with drawn:=w0.drawn + 1 })
    (hop:∀ (i:Nat) (o:Oper) (a:Act) (w:World),ops[i]?=some o → S w → a.defers=a0.defers → a.tmps.size=a0.tmps.size → (∀ j,(∀ (i:Nat) (o:Oper),ops[i]?=some o → o.dst ≠ some j) → a.tmps.getD j undef=a0.tmps.getD j undef) →
      (∀ e ∈ o.after,Region.binds .any e=true → ∀ (o':Oper),ops[e.on]?=some o' → R e.on (own o' a) (a.tmps.getD (dep e.on) undef) w) →
      wpOp P ops Q i (fun a' w'=>∃ v,a'=a.put o.dst v ∧ R i (own o a') (a'.tmps.getD (dep i) undef) w' ∧ S w' ∧ ∀ j x u,R j x u w → R j x u w') a w)
    (hq:∀ (u:Nat → Value) (w':World),S w' → (∀ (i:Nat) (o:Oper),ops[i]?=some o → R i (ownU o u) (u (dep i)) w') → Q .normal ⟨putAll a0.tmps (outs ops u),a0.defers⟩ w'):
    (Code.region id ops true).wp P Q a0 w0:=by
  refine wp_region_any hm ?_
  refine wpAny_inv (Inv ops a0 dep S R) hback ?_ ?_ ops.size _ _ _ (by simp) ⟨h0,rfl,rfl,fun _ _=>rfl,?_,?_⟩ ?_
  · intro l a w hI hl
    have e:a.tmps=putAll a0.tmps (outs ops fun d=>a.tmps.getD d undef):=by
      apply Array.ext_getElem?
      intro j
      by_cases hj:j < a0.tmps.size
      · by_cases hd:∃ (i:Nat) (o:Oper),ops[i]?=some o ∧ o.dst=some j
        · obtain ⟨i,o,ho,hd⟩:=hd
          rw [putAll_mem (fun d=>a.tmps.getD d undef) _ _ j hj]
          · have hj':j < a.tmps.size:=by rw [hI.size];exact hj
            rw [Array.getElem?_eq_getElem hj']
            simp [Array.getD_eq_getD_getElem?,Array.getElem?_eq_getElem hj']
          · intro p hp
            unfold outs at hp
            rw [List.mem_filterMap] at hp
            obtain ⟨i',_,he⟩:=hp
            rw [Option.map_eq_some_iff] at he
            obtain ⟨d,_,rfl⟩:=he
            rfl
          · refine ⟨(j,a.tmps.getD j undef),?_,rfl⟩
            unfold outs
            rw [List.mem_filterMap]
            exact ⟨i,List.mem_range.2 (Array.getElem?_eq_some_iff.1 ho).1,by rw [ho];simp [hd]⟩
        · have hr:=hI.rest j (fun i o ho hd'=>hd ⟨i,o,ho,hd'⟩)
          rw [putAll_other]
          · have hj':j < a.tmps.size:=by rw [hI.size];exact hj
            rw [Array.getElem?_eq_getElem hj',Array.getElem?_eq_getElem hj]
            simp only [Array.getD_eq_getD_getElem?,Array.getElem?_eq_getElem hj',Array.getElem?_eq_getElem hj,Option.getD_some] at hr
            rw [hr]
          · intro p hp e
            unfold outs at hp
            rw [List.mem_filterMap] at hp
            obtain ⟨i',_,he⟩:=hp
            rw [Option.map_eq_some_iff] at he
            obtain ⟨d,hd',rfl⟩:=he
            rw [Option.bind_eq_some_iff] at hd'
            obtain ⟨o,ho,hd'⟩:=hd'
            exact hd ⟨i',o,ho,by rw [hd',← e]⟩
      · rw [Array.getElem?_eq_none (by rw [hI.size];omega),Array.getElem?_eq_none (by rw [putAll_size];omega)]
    have ea:a=⟨putAll a0.tmps (outs ops fun d=>a.tmps.getD d undef),a0.defers⟩:=by
      rw [← e,← hI.defers]
    have hu:=hq (fun d=>a.tmps.getD d undef) w hI.s (fun i o ho=>hI.done i o ho (hl i (Array.getElem?_eq_some_iff.1 ho).1))
    rw [ea]
    exact hu
  · intro l a w i o hs hI ho hf ha
    have hi:i < l.size:=by rw [hs];exact (Array.getElem?_eq_some_iff.1 ho).1
    have hup:∀ (e:Nat),l.getD e false=true → l.getD e true=true:=fun e he=>by
      by_cases hlt:e < l.size
      · simp only [Array.getD_eq_getD_getElem?,Array.getElem?_eq_getElem hlt,Option.getD_some] at he ⊢
        exact he
      · simp only [Array.getD_eq_getD_getElem?]
        rw [Array.getElem?_eq_none (by omega)];rfl
    refine wpOp_mono ?_ (hop i o a w ho hI.s hI.defers hI.size hI.rest (fun e he hb o' ho'=>hI.done e.on o' ho' (hup _ (ha e he hb))))
    rintro a' w' ⟨v,rfl,hR,hS,hmo⟩
    have hclosed:∀ (j:Nat) (oj:Oper),ops[j]?=some oj → (l.setIfInBounds i true).getD j true=true → ∀ e ∈ oj.after,Region.binds .any e=true → (l.setIfInBounds i true).getD e.on true=true:=by
      intro j oj hj hl e he hb
      rw [getD_set l i _ hi]
      by_cases hei:e.on=i
      · rw [if_pos hei]
      · rw [if_neg hei]
        rw [getD_set l i j hi] at hl
        by_cases hji:j=i
        · subst hji
          rw [ho] at hj;cases hj
          exact hup _ (ha e he hb)
        · rw [if_neg hji] at hl
          exact hI.closed j oj hj hl e he hb
    cases hod:o.dst with
    | none=>
      refine ⟨hS,hI.defers,hI.size,hI.rest,fun j oj hj hl=>?_,hclosed⟩
      rw [hod] at hR
      by_cases hji:j=i
      · subst hji
        rw [ho] at hj;cases hj
        exact hR
      · rw [getD_set l i j hi,if_neg hji] at hl
        exact hmo _ _ _ (hI.done j oj hj hl)
    | some d0=>
      have hd0:d0 < a.tmps.size:=by rw [hI.size];exact hin i o d0 ho hod
      have hput:=put_getD a d0 v hd0
      refine ⟨hS,hI.defers,by show (a.tmps.setIfInBounds d0 v).size=_;simp [hI.size],fun j hj=>?_,fun j oj hj hl=>?_,hclosed⟩
      · rw [hput j,if_neg (fun e=>hj i o ho (by rw [hod,e]))]
        exact hI.rest j hj
      · rw [hod] at hR
        by_cases hji:j=i
        · subst hji
          rw [ho] at hj;cases hj
          exact hR
        · rw [getD_set l i j hi,if_neg hji] at hl
          have h1:own oj (a.put (some d0) v)=own oj a:=by
            unfold own
            cases hdj:oj.dst with
            | none=>rfl
            | some d=>
              show (a.put (some d0) v).tmps.getD d undef=a.tmps.getD d undef
              rw [hput d,if_neg (fun e=>hji (hdst j i oj o d hj ho hdj (by rw [hod,e])))]
          have h2:(a.put (some d0) v).tmps.getD (dep j) undef=a.tmps.getD (dep j) undef:=by
            rw [hput (dep j),if_neg]
            intro e
            rcases hdep i j o oj ho hj (by rw [hod,e]) with h | ⟨e',he',hb',hei⟩
            · exact hji h.symm
            · have:=hI.closed j oj hj hl e' he' hb'
              rw [hei,hf] at this;cases this
          rw [h1,h2]
          exact hmo _ _ _ (hI.done j oj hj hl)
  · intro i o ho hl
    have hi:=(Array.getElem?_eq_some_iff.1 ho).1
    simp [Array.getD_eq_getD_getElem?,hi] at hl
  · intro i o ho hl
    have hi:=(Array.getElem?_eq_some_iff.1 ho).1
    simp [Array.getD_eq_getD_getElem?,hi] at hl
  · have:∀ (l:Array Bool) n,unl l n ≤ n:=fun l n=>by
      induction n with
      | zero=>exact Nat.le_refl _
      | succ n ih=>unfold unl;split <;> omega
    exact this _ _
def chkBack (ops:Array Oper):Bool:=(List.range ops.size).all fun i=>match ops[i]? with | some o=>o.after.all fun e=>!Region.binds .any e || decide (e.on < i) | none=>true
def chkDst (ops:Array Oper):Bool:=(List.range ops.size).all fun i=>(List.range ops.size).all fun j=>match ops[i]?,ops[j]? with
  | some o,some o'=>(match o.dst,o'.dst with | some d,some d'=>d != d' || i == j | _,_=>true)
  | _,_=>true
def chkDep (ops:Array Oper) (dep:Nat → Nat):Bool:=(List.range ops.size).all fun i=>(List.range ops.size).all fun j=>match ops[i]?,ops[j]? with
  | some o,some o'=>(match o.dst with | some d=>d != dep j || i == j || o'.after.any (fun e=>Region.binds .any e && e.on == i) | none=>true)
  | _,_=>true
def chkIn (ops:Array Oper) (n:Nat):Bool:=(List.range ops.size).all fun i=>match ops[i]? with | some o=>(match o.dst with | some d=>decide (d < n) | none=>true) | none=>true
theorem of_range {ops:Array Oper} {f:Nat → Bool} (h:(List.range ops.size).all f=true) {i:Nat} {o:Oper} (ho:ops[i]?=some o):f i=true:=
  List.all_eq_true.1 h i (List.mem_range.2 (Array.getElem?_eq_some_iff.1 ho).1)
theorem back_of (h:chkBack ops=true):∀ (i:Nat) (o:Oper),ops[i]?=some o → ∀ e ∈ o.after,Region.binds .any e=true → e.on < i:=fun i o ho e he hb=>by
  have:=of_range h ho
  rw [ho] at this
  simp only [Array.all_eq_true_iff_forall_mem] at this
  simpa [hb] using this e he
theorem dst_of (h:chkDst ops=true):∀ (i j:Nat) (o o':Oper) (d:Nat),ops[i]?=some o → ops[j]?=some o' → o.dst=some d → o'.dst=some d → i=j:=fun i j o o' d ho ho' hd hd'=>by
  have:=of_range (of_range h ho) ho'
  rw [ho,ho'] at this
  simp only [hd,hd'] at this
  simpa using this
theorem dep_of {dep:Nat → Nat} (h:chkDep ops dep=true):∀ (i j:Nat) (o o':Oper),ops[i]?=some o → ops[j]?=some o' → o.dst=some (dep j) → i=j ∨ ∃ e ∈ o'.after,Region.binds .any e=true ∧ e.on=i:=fun i j o o' ho ho' hd=>by
  have:=of_range (of_range h ho) ho'
  rw [ho,ho'] at this
  simp only [hd,bne_self_eq_false,Bool.false_or,Bool.or_eq_true,beq_iff_eq] at this
  rcases this with h | h
  · exact Or.inl h
  · right
    rw [Array.any_eq_true] at h
    obtain ⟨x,hx,hb⟩:=h
    simp only [Bool.and_eq_true,beq_iff_eq] at hb
    exact ⟨_,Array.getElem_mem hx,hb⟩
theorem in_of {n:Nat} (h:chkIn ops n=true):∀ (i:Nat) (o:Oper) (d:Nat),ops[i]?=some o → o.dst=some d → d < n:=fun i o d ho hd=>by
  have:=of_range h ho
  rw [ho] at this
  simpa [hd] using this
variable {a:Act} {w:World} {K:Act → World → Prop}
theorem wpOp_val {i:Nat} {o:Oper} {v:Value} {w':World} (ho:ops[i]?=some o) (hg:o.guard=none) (hr:(execOp a.eval o).run P w=.ok (.value v) w') (h:K (a.put o.dst v) w'):wpOp P ops Q i K a w:=by
  unfold wpOp
  rw [ho]
  have hw:Region.wanted o (yielded ops a.tmps)=true:=by simp [Region.wanted,hg]
  simp only [hw,if_true]
  left
  unfold Oper.wp
  rw [hr]
  exact h
theorem exec_eql {ρ:Operand → Value} {o:Oper} {t z:TypeId} {x y:Operand} {xs ys:Array Value} {r:Bool} (ho:o.op=.binOp .eql t x y z) (hx:ρ x=.agg xs) (hy:ρ y=.agg ys) (hm:P.eqGuardType P.depth t=false)
    (he:(Op.equalIn 10000 t (.agg xs) (.agg ys)).run P w=.ok r w):(execOp ρ o).run P w=.ok (.value (.bool r)) w:=by
  unfold execOp
  simp only [ho,hx,hy,Sem.run_bind,run_eqGuard_agg w .eql t x y xs ys hm,run_eql_struct,he,Result.andThen_ok,Sem.run_pure]
theorem exec_neq {ρ:Operand → Value} {o:Oper} {t z:TypeId} {x y:Operand} {xs ys:Array Value} {r:Bool} (ho:o.op=.binOp .neq t x y z) (hx:ρ x=.agg xs) (hy:ρ y=.agg ys) (hm:P.eqGuardType P.depth t=false)
    (he:(Op.equalIn 10000 t (.agg xs) (.agg ys)).run P w=.ok r w):(execOp ρ o).run P w=.ok (.value (.bool (!r))) w:=by
  unfold execOp
  simp only [ho,hx,hy,Sem.run_bind,run_eqGuard_agg w .neq t x y xs ys hm,run_neq_struct,he,Result.andThen_ok,Sem.run_pure]
theorem wpOp_no {i:Nat} {o:Oper} (ho:ops[i]?=some o) (hw:Region.wanted o (yielded ops a.tmps)=false) (h:K (a.put o.dst undef) w):wpOp P ops Q i K a w:=by
  unfold wpOp
  rw [ho]
  simp only [hw]
  exact h
theorem wpOp_valw {i:Nat} {o:Oper} {v:Value} {w':World} (ho:ops[i]?=some o) (hw:Region.wanted o (yielded ops a.tmps)=true) (hr:(execOp a.eval o).run P w=.ok (.value v) w') (h:K (a.put o.dst v) w'):wpOp P ops Q i K a w:=by
  unfold wpOp
  rw [ho]
  simp only [hw,if_true]
  left
  unfold Oper.wp
  rw [hr]
  exact h
theorem wpOp_skpw {i:Nat} {o:Oper} {w':World} (ho:ops[i]?=some o) (hw:Region.wanted o (yielded ops a.tmps)=true) (hr:(execOp a.eval o).run P w=.ok .skip w') (h:K (a.put o.dst undef) w'):wpOp P ops Q i K a w:=by
  unfold wpOp
  rw [ho]
  simp only [hw,if_true]
  left
  unfold Oper.wp
  rw [hr]
  exact h
theorem wpOp_callw {i:Nat} {o:Oper} {f:FuncId} {args:Array Value} (ho:ops[i]?=some o) (hw:Region.wanted o (yielded ops a.tmps)=true) (hr:(execOp a.eval o).run P w=.ok (.enter f args) w)
    (h:Calls P f args w fun e w''=>∃ v,e=.returned v ∧ K (a.put o.dst v) w''):wpOp P ops Q i K a w:=by
  unfold wpOp
  rw [ho]
  simp only [hw,if_true]
  left
  unfold Oper.wp
  rw [hr]
  refine h.mono ?_
  rintro e w'' ⟨v,rfl,hk⟩
  exact hk
theorem wanted_of {o oj:Oper} {j d:Nat} {want b:Bool} (hg:o.guard=some (j,want)) (hj:ops[j]?=some oj) (hd:oj.dst=some d) (hlt:d < a.tmps.size) (h:a.tmps.getD d undef=.bool b):Region.wanted o (yielded ops a.tmps)=(b == want):=by
  have e:a.tmps[d]?=some (.bool b):=by
    rw [Array.getElem?_eq_getElem hlt]
    simp only [Array.getD_eq_getD_getElem?,Array.getElem?_eq_getElem hlt,Option.getD_some] at h
    rw [h]
  have y:yielded ops a.tmps j=some b:=by
    unfold yielded
    rw [hj]
    simp only [Option.bind_some,hd,e]
  unfold Region.wanted
  rw [hg]
  simp only [y]
  cases b <;> cases want <;> rfl
theorem wanted_no {o oj:Oper} {want:Bool} (j d:Nat) (b:Bool) (h:a.tmps.getD d undef=.bool b) (hlt:d < a.tmps.size) (hg:o.guard=some (j,want)) (hj:ops[j]?=some oj) (hd:oj.dst=some d) (hb:(b == want)=false):Region.wanted o (yielded ops a.tmps)=false:=
  (wanted_of hg hj hd hlt h).trans hb
theorem wanted_yes {o oj:Oper} {want:Bool} (j d:Nat) (b:Bool) (h:a.tmps.getD d undef=.bool b) (hlt:d < a.tmps.size) (hg:o.guard=some (j,want)) (hj:ops[j]?=some oj) (hd:oj.dst=some d) (hb:(b == want)=true):Region.wanted o (yielded ops a.tmps)=true:=
  (wanted_of hg hj hd hlt h).trans hb
def chkNot (ops:Array Oper) (j:Nat):Bool:=(List.range ops.size).all fun i=>match ops[i]? with | some o=>(match o.dst with | some d=>d != j | none=>true) | none=>true
theorem not_of {j:Nat} (h:chkNot ops j=true):∀ (i:Nat) (o:Oper),ops[i]?=some o → o.dst ≠ some j:=fun i o ho hd=>by
  have:=of_range h ho
  rw [ho] at this
  simp [hd] at this
theorem own_put {o:Oper} {d:Nat} {v:Value} (hd:o.dst=some d) (hlt:d < a.tmps.size):own o (a.put o.dst v)=v:=by
  unfold own
  rw [hd]
  show (a.put (some d) v).tmps.getD d undef=v
  rw [put_getD a d v hlt,if_pos rfl]
end
end Go.Proofs.YtjhedldplmhmjaaDoor
namespace Go.Proofs.YtjhedldplmhmjaaDoor
open Go Go.RowKit
set_option linter.unusedVariables false
def slotOf (a:Act) (d:Nat):Value:=a.tmps.getD d undef
def upd (fl:Nat → Bool) (i:Nat):Nat → Bool:=fun j=>if j=i then true else fl j
section law
variable {P:Program} {ops:Array Oper} {Q:Exit → Act → World → Prop} {md:Region.Mode}
structure InvX (ops:Array Oper) (a0:Act) (S:(Nat → Bool) → (Nat → Value) → World → Prop) (R:Nat → Value → Prop) (l:Array Bool) (a:Act) (w:World):Prop where
  s:S (fun i=>l.getD i true) (slotOf a) w
  defers:a.defers=a0.defers
  size:a.tmps.size=a0.tmps.size
  rest:∀ j,(∀ (i:Nat) (o:Oper),ops[i]?=some o → o.dst ≠ some j) → a.tmps.getD j undef=a0.tmps.getD j undef
  done:∀ (i:Nat) (o:Oper),ops[i]?=some o → l.getD i true=true → R i (own o a)
  closed:∀ (i:Nat) (o:Oper),ops[i]?=some o → l.getD i true=true → ∀ e ∈ o.after,Region.binds .any e=true → l.getD e.on true=true
  undone:∀ (i:Nat) (o:Oper) (d:Nat),ops[i]?=some o → o.dst=some d → l.getD i true=false → a.tmps.getD d undef=a0.tmps.getD d undef
theorem wp_regx {b:Bool} {id:Nat} {a0:Act} {w0:World} (S:(Nat → Bool) → (Nat → Value) → World → Prop) (R:Nat → Value → Prop) (hm:P.follows .mixedOrders=true)
    (hback:∀ (i:Nat) (o:Oper),ops[i]?=some o → ∀ e ∈ o.after,Region.binds .any e=true → e.on < i)
    (hdst:∀ (i j:Nat) (o o':Oper) (d:Nat),ops[i]?=some o → ops[j]?=some o' → o.dst=some d → o'.dst=some d → i=j)
    (hin:∀ (i:Nat) (o:Oper) (d:Nat),ops[i]?=some o → o.dst=some d → d < a0.tmps.size)
    (h0:∀ (fl:Nat → Bool) (w1:World),(∀ i,i < ops.size → fl i=false) → (w1=w0 ∨ w1={ w0 with drawn:=w0.drawn + 1 }) → S fl (slotOf a0) w1)
    (hop:∀ (i:Nat) (o:Oper) (a:Act) (w:World) (fl:Nat → Bool),ops[i]?=some o → S fl (slotOf a) w → fl i=false →
      (∀ (k:Nat) (ok:Oper),ops[k]?=some ok → fl k=true → ∀ e ∈ ok.after,Region.binds .any e=true → fl e.on=true) →
      a.tmps.size=a0.tmps.size → (∀ j,(∀ (i:Nat) (o:Oper),ops[i]?=some o → o.dst ≠ some j) → a.tmps.getD j undef=a0.tmps.getD j undef) →
      (∀ (p:Nat) (e:_),o.after[p]?=some e → Region.binds .any e=true → fl e.on=true ∧ ∀ (o':Oper),ops[e.on]?=some o' → R e.on (own o' a)) →
      (∀ (k:Nat) (ok:Oper) (d:Nat),ops[k]?=some ok → ok.dst=some d → fl k=false → a.tmps.getD d undef=a0.tmps.getD d undef) →
      wpOp P ops Q i (fun a' w'=>∃ v,a'=a.put o.dst v ∧ R i (own o a') ∧ S (upd fl i) (slotOf a') w') a w)
    (hq:∀ (a:Act) (w':World) (fl:Nat → Bool),a.defers=a0.defers → a.tmps.size=a0.tmps.size → (∀ j,(∀ (i:Nat) (o:Oper),ops[i]?=some o → o.dst ≠ some j) → a.tmps.getD j undef=a0.tmps.getD j undef) →
      (∀ (i:Nat) (o:Oper),ops[i]?=some o → R i (own o a)) → (∀ i,i < ops.size → fl i=true) → S fl (slotOf a) w' → Q .normal a w'):
    (Code.region id ops b).wp P Q a0 w0:=by
  have hfin:∀ l a w,InvX ops a0 S R l a w → (∀ i,i < ops.size → l.getD i true=true) → Q .normal a w:=by
    intro l a w hI hl
    exact hq a w _ hI.defers hI.size hI.rest (fun i o ho=>hI.done i o ho (hl i (Array.getElem?_eq_some_iff.1 ho).1)) hl hI.s
  have hstep:∀ (l:Array Bool) a w (i:Nat) o,l.size=ops.size → InvX ops a0 S R l a w → ops[i]?=some o → l.getD i true=false → (∀ e ∈ o.after,Region.binds .any e=true → l.getD e.on false=true) →
      wpOp P ops Q i (InvX ops a0 S R (l.setIfInBounds i true)) a w:=by
    intro l a w i o hs hI ho hfi ha
    have hi:i < l.size:=by rw [hs];exact (Array.getElem?_eq_some_iff.1 ho).1
    have hup:∀ (e:Nat),l.getD e false=true → l.getD e true=true:=fun e he=>by
      by_cases hlt:e < l.size
      · simp only [Array.getD_eq_getD_getElem?,Array.getElem?_eq_getElem hlt,Option.getD_some] at he ⊢
        exact he
      · simp only [Array.getD_eq_getD_getElem?]
        rw [Array.getElem?_eq_none (by omega)];rfl
    refine wpOp_mono ?_ (hop i o a w _ ho hI.s hfi hI.closed hI.size hI.rest (fun p e hp hb=>⟨hup _ (ha e (Array.mem_of_getElem? hp) hb),fun o' ho'=>hI.done e.on o' ho' (hup _ (ha e (Array.mem_of_getElem? hp) hb))⟩) hI.undone)
    rintro a' w' ⟨v,rfl,hR,hS⟩
    have hS':S (fun j=>(l.setIfInBounds i true).getD j true) (slotOf (a.put o.dst v)) w':=by
      have e:(fun j=>(l.setIfInBounds i true).getD j true)=upd (fun j=>l.getD j true) i:=by
        funext j
        rw [getD_set l i j hi];rfl
      rw [e];exact hS
    have hclosed:∀ (j:Nat) (oj:Oper),ops[j]?=some oj → (l.setIfInBounds i true).getD j true=true → ∀ e ∈ oj.after,Region.binds .any e=true → (l.setIfInBounds i true).getD e.on true=true:=by
      intro j oj hj hl e he hb
      rw [getD_set l i e.on hi]
      by_cases hei:e.on=i
      · rw [if_pos hei]
      · rw [if_neg hei]
        rw [getD_set l i j hi] at hl
        by_cases hji:j=i
        · subst hji
          rw [ho] at hj;cases hj
          exact hup _ (ha e he hb)
        · rw [if_neg hji] at hl
          exact hI.closed j oj hj hl e he hb
    cases hod:o.dst with
    | none=>
      refine ⟨by rw [hod] at hS';exact hS',hI.defers,hI.size,hI.rest,fun j oj hj hl=>?_,hclosed,fun j oj d hj hd hl=>?_⟩
      case refine_2=>
        rw [getD_set l i j hi] at hl
        by_cases hji:j=i
        · rw [if_pos hji] at hl;cases hl
        · rw [if_neg hji] at hl;exact hI.undone j oj d hj hd hl
      rw [hod] at hR
      by_cases hji:j=i
      · subst hji
        rw [ho] at hj;cases hj
        exact hR
      · rw [getD_set l i j hi,if_neg hji] at hl
        exact hI.done j oj hj hl
    | some d0=>
      have hd0:d0 < a.tmps.size:=by rw [hI.size];exact hin i o d0 ho hod
      have hput:=put_getD a d0 v hd0
      refine ⟨by rw [hod] at hS';exact hS',hI.defers,by show (a.tmps.setIfInBounds d0 v).size=_;simp [hI.size],fun j hj=>?_,fun j oj hj hl=>?_,hclosed,fun j oj d hj hd hl=>?_⟩
      case refine_3=>
        rw [getD_set l i j hi] at hl
        by_cases hji:j=i
        · rw [if_pos hji] at hl;cases hl
        · rw [if_neg hji] at hl
          rw [hput d,if_neg (fun e=>hji (hdst j i oj o d hj ho hd (by rw [hod,e])))]
          exact hI.undone j oj d hj hd hl
      · rw [hput j,if_neg (fun e=>hj i o ho (by rw [hod,e]))]
        exact hI.rest j hj
      · rw [hod] at hR
        by_cases hji:j=i
        · subst hji
          rw [ho] at hj;cases hj
          exact hR
        · rw [getD_set l i j hi,if_neg hji] at hl
          have h1:own oj (a.put (some d0) v)=own oj a:=by
            unfold own
            cases hdj:oj.dst with
            | none=>rfl
            | some d=>
              show (a.put (some d0) v).tmps.getD d undef=a.tmps.getD d undef
              rw [hput d,if_neg (fun e=>hji (hdst j i oj o d hj ho hdj (by rw [hod,e])))]
          rw [h1]
          exact hI.done j oj hj hl
  have hinit:∀ w1,(w1=w0 ∨ w1={ w0 with drawn:=w0.drawn + 1 }) → InvX ops a0 S R (Array.replicate ops.size false) a0 w1:=by
    intro w1 hw
    have hf:∀ i,i < ops.size → (Array.replicate ops.size false).getD i true=false:=fun i hi=>by simp [Array.getD_eq_getD_getElem?,hi]
    refine ⟨h0 _ _ hf hw,rfl,rfl,fun _ _=>rfl,fun i o ho hl=>?_,fun i o ho hl=>?_,fun _ _ _ _ _ _=>rfl⟩
    · rw [hf i (Array.getElem?_eq_some_iff.1 ho).1] at hl;cases hl
    · rw [hf i (Array.getElem?_eq_some_iff.1 ho).1] at hl;cases hl
  cases b with
  | true=>
    refine wp_region_any hm ?_
    refine wpAny_inv (InvX ops a0 S R) hback (fun l a w hI hl=>hfin l a w hI hl) ?_ ops.size _ _ _ (by simp) (hinit _ (.inr rfl)) ?_
    · intro l a w i o hs hI ho hf ha
      have hi:i < l.size:=by rw [hs];exact (Array.getElem?_eq_some_iff.1 ho).1
      have hfi:l.getD i true=false:=by
        simp only [Array.getD_eq_getD_getElem?,Array.getElem?_eq_getElem hi,Option.getD_some] at hf ⊢
        exact hf
      exact hstep l a w i o hs hI ho hfi ha
    · have:∀ (l:Array Bool) n,unl l n ≤ n:=fun l n=>by
        induction n with
        | zero=>exact Nat.le_refl _
        | succ n ih=>unfold unl;split <;> omega
      exact this _ _
  | false=>
    refine wp_region ?_
    have key:∀ (m k:Nat) (l:Array Bool) a w,k + m=ops.size → l.size=ops.size → (∀ j,j < ops.size → l.getD j true=decide (j < k)) → InvX ops a0 S R l a w → wpOps P ops Q (List.range' k m) a w:=by
      intro m
      induction m with
      | zero=>
        intro k l a w hk hs hl hI
        exact hfin l a w hI (fun i hi=>by rw [hl i hi];exact decide_eq_true (by omega))
      | succ m ih=>
        intro k l a w hk hs hl hI
        rw [List.range'_succ,wpOps_cons]
        have hkl:k < ops.size:=by omega
        have ho:ops[k]?=some ops[k]:=Array.getElem?_eq_getElem hkl
        refine wpOp_mono (fun a' w' h=>ih (k + 1) (l.setIfInBounds k true) a' w' (by omega) (by simpa using hs) (fun j hj=>?_) h) (hstep l a w k _ hs hI ho (by rw [hl k hkl];simp) (fun e he hb=>?_))
        · rw [getD_set l k j (by omega)]
          by_cases hjk:j=k
          · rw [if_pos hjk];exact (decide_eq_true (by omega)).symm
          · rw [if_neg hjk,hl j hj]
            by_cases c:j < k
            · rw [decide_eq_true c,decide_eq_true (by omega)]
            · rw [decide_eq_false c,decide_eq_false (by omega)]
        · have h1:=hback k _ ho e he hb
          have h2:=hl e.on (by omega)
          rw [decide_eq_true h1] at h2
          have hlt:e.on < l.size:=by omega
          simp only [Array.getD_eq_getD_getElem?,Array.getElem?_eq_getElem hlt,Option.getD_some] at h2 ⊢
          exact h2
    have:=key ops.size 0 _ a0 w0 (by omega) (by simp) (fun j hj=>by simp [Array.getD_eq_getD_getElem?,hj]) (hinit _ (.inl rfl))
    rwa [← List.range_eq_range'] at this
end law
theorem in_ofz {ops:Array Oper} {n:Nat} {a:Act} (h:chkIn ops n=true) (z:a.tmps.size=n):∀ (i:Nat) (o:Oper) (d:Nat),ops[i]?=some o → o.dst=some d → d < a.tmps.size:=fun i o d ho hd=>by rw [z];exact in_of h i o d ho hd
def AllL {α:Type} (p:α → Prop):List α → Prop
  | []=>True
  | e :: l=>p e ∧ AllL p l
theorem allL {α:Type} {p:α → Prop}:∀ {l:List α},AllL p l ↔ ∀ e ∈ l,p e
  | []=>⟨fun _ _ h=>by simp at h,fun _=>trivial⟩
  | e :: l=>by simp only [AllL,allL (l:=l),List.mem_cons,forall_eq_or_imp]
structure EB where
  g:Nat
  t:TypeId
  old:Array Value
  k:Option Nat
  new:Array Value
structure EA where
  i:Nat
  d:Nat
  t:TypeId
  old:Array Value
  k:Option Nat
  new:Array Value
def curOf (fl:Nat → Bool) (k:Option Nat) (old new:Array Value):Array Value:=match k with
  | none=>old
  | some k=>bif fl k then new else old
def endOf (k:Option Nat) (old new:Array Value):Array Value:=match k with
  | none=>old
  | some _=>new
def SX (W:World) (n0:Nat) (B:List EB) (A:List EA) (fl:Nat → Bool) (u:Nat → Value) (w:World):Prop:=
  Below W.heap.size W w ∧ n0 ≤ w.heap.size ∧ AllL (fun e=>e.g < n0 ∧ w.heap[e.g]?=some (.cells (curOf fl e.k e.old e.new) e.t (0,0))) B ∧
  AllL (fun e=>fl e.i=true → ∃ g,u e.d=.pointer (some ⟨g,0,none⟩) ∧ n0 ≤ g ∧ w.heap[g]?=some (.cells (curOf fl e.k e.old e.new) e.t (0,0))) A ∧
  A.Pairwise (fun e e'=>fl e.i=true → fl e'.i=true → u e.d ≠ u e'.d)
def kNot (k:Option Nat) (i:Nat):Bool:=match k with
  | none=>true
  | some k=>!Nat.beq k i
def dNot (dst:Option Nat) (d:Nat):Bool:=match dst with
  | none=>true
  | some x=>!Nat.beq x d
def kIn (k:Option Nat) (n:Nat):Bool:=match k with
  | none=>true
  | some k=>Nat.blt k n
def chkX (B:List EB) (A:List EA) (i:Nat) (dst:Option Nat):Bool:=B.all (fun e=>kNot e.k i) && A.all (fun e=>kNot e.k i && (!Nat.beq e.i i && dNot dst e.d))
theorem kNot_ne {k:Option Nat} {i:Nat} (h:kNot k i=true) (fl:Nat → Bool) (old new:Array Value):curOf (upd fl i) k old new=curOf fl k old new:=by
  cases k with
  | none=>rfl
  | some k=>
    have hk:k ≠ i:=by
      intro e;subst e;simp [kNot] at h
    show (bif upd fl i k then new else old)=bif fl k then new else old
    unfold upd
    rw [if_neg hk]
theorem curOf_end {n:Nat} {k:Option Nat} {fl:Nat → Bool} (hfl:∀ i,i < n → fl i=true) (h:kIn k n=true) (old new:Array Value):curOf fl k old new=endOf k old new:=by
  cases k with
  | none=>rfl
  | some k=>
    show (bif fl k then new else old)=new
    rw [hfl k (by simpa [kIn] using h)];rfl
theorem curOf_start {n:Nat} {k:Option Nat} {fl:Nat → Bool} (hfl:∀ i,i < n → fl i=false) (h:kIn k n=true) (old new:Array Value):curOf fl k old new=old:=by
  cases k with
  | none=>rfl
  | some k=>
    show (bif fl k then new else old)=old
    rw [hfl k (by simpa [kIn] using h)];rfl
theorem slot_put {a:Act} {dst:Option Nat} {v:Value} {d:Nat} (h:dNot dst d=true):slotOf (a.put dst v) d=slotOf a d:=by
  cases dst with
  | none=>rfl
  | some x=>
    have hx:x ≠ d:=by
      intro e;subst e;simp [dNot] at h
    unfold slotOf Act.put
    simp only [Array.getD_eq_getD_getElem?,Array.getElem?_setIfInBounds_ne hx]
section
variable {W w w':World} {n0:Nat} {B:List EB} {A:List EA} {fl:Nat → Bool} {u:Nat → Value} {a:Act}
theorem SX.start {n:Nat} (hB:Below W.heap.size W w) (hfl:∀ i,i < n → fl i=false) (hk:(B.all (fun e=>kIn e.k n) && A.all (fun e=>Nat.blt e.i n))=true)
    (h:AllL (fun e=>w.heap[e.g]?=some (.cells e.old e.t (0,0))) B):SX W w.heap.size B A fl u w:=by
  rw [Bool.and_eq_true,List.all_eq_true,List.all_eq_true] at hk
  have hA:∀ e ∈ A,fl e.i=false:=fun e he=>hfl e.i (by simpa using hk.2 e he)
  refine ⟨hB,Nat.le_refl _,allL.2 fun e he=>?_,allL.2 fun e he hf=>?_,List.Pairwise.imp_of_mem (fun {e e'} he _ _ hf=>?_) (List.pairwise_of_forall (R:=fun _ _=>True) (fun _ _=>trivial))⟩
  · have:=allL.1 h e he
    rw [curOf_start hfl (hk.1 e he)]
    exact ⟨(Array.getElem?_eq_some_iff.1 this).1,this⟩
  · rw [hA e he] at hf;cases hf
  · rw [hA e he] at hf;cases hf
theorem SX.start' {n:Nat} {w1:World} (hw:w1=w ∨ w1={ w with drawn:=w.drawn + 1 }) (hB:Below W.heap.size W w) (hfl:∀ i,i < n → fl i=false) (hk:(B.all (fun e=>kIn e.k n) && A.all (fun e=>Nat.blt e.i n))=true)
    (h:AllL (fun e=>w.heap[e.g]?=some (.cells e.old e.t (0,0))) B):SX W w.heap.size B A fl u w1:=by
  rcases hw with rfl | rfl
  · exact SX.start hB hfl hk h
  · exact SX.start (w:={ w with drawn:=w.drawn + 1 }) hB.drew hfl hk h
theorem SX.quiet (h:SX W n0 B A fl (slotOf a) w) (i:Nat) {dst:Option Nat} {v:Value} (hc:chkX B A i dst=true) (b:Below w.heap.size w w'):SX W n0 B A (upd fl i) (slotOf (a.put dst v)) w':=by
  unfold chkX at hc
  rw [Bool.and_eq_true,List.all_eq_true,List.all_eq_true] at hc
  obtain ⟨h1,h2,h3,h4,h5⟩:=h
  have key:∀ e ∈ A,upd fl i e.i=true → fl e.i=true ∧ slotOf (a.put dst v) e.d=slotOf a e.d:=fun e he hf=>by
    have c:=hc.2 e he
    rw [Bool.and_eq_true,Bool.and_eq_true] at c
    have hi:e.i ≠ i:=by
      intro ee;have:=c.2.1;rw [ee] at this;simp at this
    refine ⟨?_,slot_put c.2.2⟩
    unfold upd at hf
    rwa [if_neg hi] at hf
  refine ⟨h1.trans (b.mono h1.size),Nat.le_trans h2 b.size,allL.2 fun e he=>?_,allL.2 fun e he hf=>?_,h5.imp_of_mem (fun {e e'} he he' r hf hf'=>by rw [(key e he hf).2,(key e' he' hf').2];exact r (key e he hf).1 (key e' he' hf').1)⟩
  · obtain ⟨p,q⟩:=allL.1 h3 e he
    rw [kNot_ne (hc.1 e he)]
    exact ⟨p,(b.block _ (Array.getElem?_eq_some_iff.1 q).1).trans q⟩
  · have c:=hc.2 e he
    rw [Bool.and_eq_true,Bool.and_eq_true] at c
    have hi:e.i ≠ i:=by
      intro ee;have:=c.2.1;rw [ee] at this;simp at this
    have hf':fl e.i=true:=by
      unfold upd at hf
      rwa [if_neg hi] at hf
    obtain ⟨g,hu,hn,q⟩:=allL.1 h4 e he hf'
    rw [kNot_ne c.1,slot_put c.2.2]
    exact ⟨g,hu,hn,(b.block _ (Array.getElem?_eq_some_iff.1 q).1).trans q⟩
theorem SX.same (h:SX W n0 B A fl (slotOf a) w) (i:Nat) {dst:Option Nat} {v:Value} (hc:chkX B A i dst=true):SX W n0 B A (upd fl i) (slotOf (a.put dst v)) w:=h.quiet i hc (Below.refl _ _)
theorem SX.alloc (h:SX W n0 B A fl (slotOf a) w) (i d:Nat) (t:TypeId) (old:Array Value) (A1 A2:List EA) (k:Option Nat) (new:Array Value) (hA:A=A1 ++ ⟨i,d,t,old,k,new⟩ :: A2)
    (hc:chkX B (A1 ++ A2) i (some d)=true) (hk:kNot k i=true) (hd:d < a.tmps.size) (hf:match k with | none=>True | some k=>fl k=false):
    SX W n0 B A (upd fl i) (slotOf (a.put (some d) (.pointer (some ⟨w.heap.size,0,none⟩)))) (w.alloc (.cells old t)):=by
  have h':SX W n0 B (A1 ++ A2) fl (slotOf a) w:=⟨h.1,h.2.1,h.2.2.1,allL.2 fun e he=>allL.1 h.2.2.2.1 e (by rw [hA];simp at he ⊢;rcases he with he | he <;> simp [he]),by
    have h5:=h.2.2.2.2
    rw [hA] at h5
    exact h5.sublist (List.Sublist.append (List.Sublist.refl _) (List.sublist_cons_self _ _))⟩
  have r:=h'.quiet (w':=w.alloc (.cells old t)) i (v:=.pointer (some ⟨w.heap.size,0,none⟩)) hc (below_new (Below.refl _ _) _)
  have new_:slotOf (a.put (some d) (.pointer (some ⟨w.heap.size,0,none⟩))) d=.pointer (some ⟨w.heap.size,0,none⟩):=by
    unfold slotOf
    rw [put_getD a d _ hd,if_pos rfl]
  have less:∀ e ∈ A1 ++ A2,upd fl i e.i=true → slotOf (a.put (some d) (.pointer (some ⟨w.heap.size,0,none⟩))) e.d ≠ .pointer (some ⟨w.heap.size,0,none⟩):=fun e he hf=>by
    unfold chkX at hc
    rw [Bool.and_eq_true,List.all_eq_true,List.all_eq_true] at hc
    have c:=hc.2 e he
    rw [Bool.and_eq_true,Bool.and_eq_true] at c
    have hi:e.i ≠ i:=by
      intro ee;have:=c.2.1;rw [ee] at this;simp at this
    have hf':fl e.i=true:=by
      unfold upd at hf
      rwa [if_neg hi] at hf
    obtain ⟨g,hu,_,hg⟩:=allL.1 h'.2.2.2.1 e he hf'
    rw [slot_put c.2.2,hu]
    intro ee
    simp at ee
    have:=(Array.getElem?_eq_some_iff.1 hg).1
    omega
  refine ⟨r.1,r.2.1,r.2.2.1,allL.2 fun e he hfe=>?_,?_⟩
  case refine_2=>
    have h5:=r.2.2.2.2
    rw [hA,List.pairwise_append,List.pairwise_cons]
    rw [List.pairwise_append] at h5
    refine ⟨h5.1,⟨fun e he _ hf=>?_,h5.2.1⟩,fun e he e' he' hf hf'=>?_⟩
    · rw [new_];exact (less e (by simp [he]) hf).symm
    · simp only [List.mem_cons] at he'
      rcases he' with rfl | he'
      · rw [new_];exact less e (by simp [he]) hf
      · exact h5.2.2 e he e' he' hf hf'
  rw [hA] at he
  simp only [List.mem_append,List.mem_cons] at he
  have ot:e ∈ A1 ++ A2 → _:=fun hh=>allL.1 r.2.2.2.1 e hh hfe
  rcases he with he | rfl | he
  · exact ot (by simp [he])
  · refine ⟨w.heap.size,?_,h.2.1,?_⟩
    · exact new_
    · show (w.alloc (.cells old t)).heap[w.heap.size]?=some (.cells (curOf (upd fl i) k old new) t (0,0))
      rw [kNot_ne hk,heap_last w _ _ rfl]
      cases k with
      | none=>rfl
      | some k=>
        show _=some (Obj.cells (bif fl k then new else old) t (0,0))
        rw [show fl k=false from hf];rfl
  · exact ot (by simp [he])
theorem SX.storeA (h:SX W n0 B A fl (slotOf a) w) (i j d:Nat) (t:TypeId) (old new:Array Value) (A1 A2:List EA) (hA:A=A1 ++ ⟨j,d,t,old,some i,new⟩ :: A2) (hW:W.heap.size ≤ n0) (hj:fl j=true) (g:Nat) (hu:slotOf a d=.pointer (some ⟨g,0,none⟩)) (hji:j ≠ i)
    (hc:chkX B (A1 ++ A2) i none=true) (st:Stored w g new t w'):SX W n0 B A (upd fl i) (slotOf (a.put none undef)) w':=by
  unfold chkX at hc
  rw [Bool.and_eq_true,List.all_eq_true,List.all_eq_true] at hc
  obtain ⟨h1,h2,h3,h4,h5⟩:=h
  obtain ⟨g0,hu0,hn0,hg0⟩:=allL.1 h4 ⟨j,d,t,old,some i,new⟩ (by rw [hA];simp) hj
  have eg:g0=g:=by
    have:=hu0.symm.trans hu
    simpa using this
  subst eg
  have nn:∀ e ∈ A,upd fl i e.i=true → fl e.i=true:=fun e he hf=>by
    rw [hA] at he
    simp only [List.mem_append,List.mem_cons] at he
    have ot:e ∈ A1 ++ A2 → fl e.i=true:=fun hh=>by
      have c:=hc.2 e hh
      rw [Bool.and_eq_true,Bool.and_eq_true] at c
      have hi:e.i ≠ i:=by
        intro ee;have:=c.2.1;rw [ee] at this;simp at this
      unfold upd at hf
      rwa [if_neg hi] at hf
    rcases he with he | rfl | he
    · exact ot (by simp [he])
    · exact hj
    · exact ot (by simp [he])
  have hsz:w'.heap.size=w.heap.size:=st.size
  have keep:∀ k,k ≠ g0 → w'.heap[k]?=w.heap[k]?:=fun k hk=>st.other k hk
  refine ⟨st.below h1 (Nat.le_trans hW hn0),by rw [hsz];exact h2,allL.2 fun e he=>?_,allL.2 fun e he hf=>?_,?_⟩
  case refine_3=>
    refine h5.imp_of_mem (fun {e e'} he he' r hf hf'=>?_)
    exact r (nn e he hf) (nn e' he' hf')
  · obtain ⟨p,q⟩:=allL.1 h3 e he
    rw [kNot_ne (hc.1 e he),keep _ (by omega)];exact ⟨p,q⟩
  · rw [hA] at he
    simp only [List.mem_append,List.mem_cons] at he
    have ot:e ∈ A1 ++ A2 → ∃ g,slotOf (a.put none undef) e.d=.pointer (some ⟨g,0,none⟩) ∧ n0 ≤ g ∧ w'.heap[g]?=some (.cells (curOf (upd fl i) e.k e.old e.new) e.t (0,0)):=fun hh=>by
      have c:=hc.2 e hh
      rw [Bool.and_eq_true,Bool.and_eq_true] at c
      have hi:e.i ≠ i:=by
        intro ee;have:=c.2.1;rw [ee] at this;simp at this
      have hf':fl e.i=true:=by
        unfold upd at hf
        rwa [if_neg hi] at hf
      obtain ⟨g',hu',hn,q⟩:=allL.1 h4 e (by rw [hA];simp at hh ⊢;rcases hh with hh | hh <;> simp [hh]) hf'
      rw [kNot_ne c.1]
      refine ⟨g',hu',hn,?_⟩
      rw [keep _ (fun ee=>?_)];exact q
      subst ee
      rw [hA] at h5
      rw [List.pairwise_append,List.pairwise_cons] at h5
      simp only [List.mem_append] at hh
      rcases hh with hh | hh
      · exact h5.2.2 e hh ⟨j,d,t,old,some i,new⟩ (by simp) hf' hj (hu'.trans hu.symm)
      · exact h5.2.1.1 e hh hj hf' (hu.trans hu'.symm)
    rcases he with he | rfl | he
    · exact ot (by simp [he])
    · refine ⟨g0,hu0,hn0,?_⟩
      show w'.heap[g0]?=some (.cells (bif upd fl i i then new else old) t (0,0))
      unfold upd
      rw [if_pos rfl]
      exact st.row
    · exact ot (by simp [he])
theorem SX.finish {n:Nat} (h:SX W n0 B A fl u w) (hfl:∀ i,i < n → fl i=true) (hk:(B.all (fun e=>kIn e.k n) && A.all (fun e=>kIn e.k n && Nat.blt e.i n))=true):
    Below W.heap.size W w ∧ n0 ≤ w.heap.size ∧ AllL (fun e=>e.g < n0 ∧ w.heap[e.g]?=some (.cells (endOf e.k e.old e.new) e.t (0,0))) B ∧
    AllL (fun e=>∃ g,u e.d=.pointer (some ⟨g,0,none⟩) ∧ n0 ≤ g ∧ w.heap[g]?=some (.cells (endOf e.k e.old e.new) e.t (0,0))) A ∧ A.Pairwise (fun e e'=>u e.d ≠ u e'.d):=by
  rw [Bool.and_eq_true,List.all_eq_true,List.all_eq_true] at hk
  obtain ⟨h1,h2,h3,h4,h5⟩:=h
  have fi:∀ e ∈ A,fl e.i=true:=fun e he=>by
    have c:=hk.2 e he
    rw [Bool.and_eq_true] at c
    exact hfl _ (by simpa using c.2)
  refine ⟨h1,h2,allL.2 fun e he=>?_,allL.2 fun e he=>?_,h5.imp_of_mem (fun {e e'} he he' r=>r (fi e he) (fi e' he'))⟩
  · have:=allL.1 h3 e he
    rwa [curOf_end hfl (hk.1 e he)] at this
  · have c:=hk.2 e he
    rw [Bool.and_eq_true] at c
    obtain ⟨g,hg⟩:=allL.1 h4 e he (hfl _ (by simpa using c.2))
    rw [curOf_end hfl c.1] at hg
    exact ⟨g,hg⟩
theorem SX.rowN (h:SX W n0 B A fl u w) (B1 B2:List EB) (g:Nat) (t:TypeId) (old new:Array Value) (hB:B=B1 ++ ⟨g,t,old,none,new⟩ :: B2):w.heap[g]?=some (.cells old t (0,0)):=
  (allL.1 h.2.2.1 ⟨g,t,old,none,new⟩ (by rw [hB];simp)).2
theorem split_at {α:Type} {l:List α} {j:Nat} {e:α} (h:l[j]?=some e):l=l.take j ++ e :: l.drop (j + 1):=by
  obtain ⟨hj,rfl⟩:=List.getElem?_eq_some_iff.1 h
  simp
theorem SX.rowNi (h:SX W n0 B A fl u w) (j:Nat) {g:Nat} {t:TypeId} {old new:Array Value} (hj:B[j]?=some ⟨g,t,old,none,new⟩):w.heap[g]?=some (.cells old t (0,0)):=h.rowN _ _ g t old new (split_at hj)
theorem SX.rowA (h:SX W n0 B A fl u w) (A1 A2:List EA) (i d:Nat) (t:TypeId) (old new:Array Value) (k:Nat) (hA:A=A1 ++ ⟨i,d,t,old,some k,new⟩ :: A2) (hi:fl i=true) (hk:fl k=false):
    ∃ g,u d=.pointer (some ⟨g,0,none⟩) ∧ n0 ≤ g ∧ w.heap[g]?=some (.cells old t (0,0)):=by
  obtain ⟨g,hu,hn,q⟩:=allL.1 h.2.2.2.1 ⟨i,d,t,old,some k,new⟩ (by rw [hA];simp) hi
  refine ⟨g,hu,hn,?_⟩
  rw [q]
  show some (Obj.cells (bif fl k then new else old) t (0,0))=_
  rw [hk];rfl
theorem SX.row (h:SX W n0 B A fl u w) (B1 B2:List EB) (e:EB) (hB:B=B1 ++ e :: B2):w.heap[e.g]?=some (.cells (curOf fl e.k e.old e.new) e.t (0,0)):=(allL.1 h.2.2.1 e (by rw [hB];simp)).2
end
theorem not_yet {ops:Array Oper} {fl:Nat → Bool} (clo:∀ (k:Nat) (ok:Oper),ops[k]?=some ok → fl k=true → ∀ e ∈ ok.after,Region.binds .any e=true → fl e.on=true) {i k:Nat} (hf:fl i=false)
    (h:(match ops[k]? with | some ok=>ok.after.any (fun e=>Nat.beq e.on i && Region.binds .any e) | none=>false)=true):fl k=false:=by
  cases e:fl k
  · rfl
  · cases ho:ops[k]? with
    | none=>rw [ho] at h;cases h
    | some ok=>
      rw [ho] at h
      simp only at h
      obtain ⟨j,hj,hx⟩:=Array.any_eq_true.1 h
      rw [Bool.and_eq_true] at hx
      have e1:=Nat.eq_of_beq_eq_true hx.1
      have:=clo k ok ho e _ (Array.getElem_mem hj) hx.2
      rw [e1,hf] at this
      cases this
section
variable {P:Program} {ρ:Operand → Value} {o:Oper} {w:World}
theorem exec_load1 {g i:Nat} {c:Array Value} {T:TypeId} {fr:Nat × Nat} (hg:w.heap[g]?=some (.cells c T fr)) {v:Value} (hv:c[i]?=some v):w.cell? ⟨g,i,none⟩=some v:=by
  simp only [World.cell?,hg]
  exact hv
theorem exec_loadR (ty:TypeId) (x:Operand) (ho:o.op=.load ty x) (g off:Nat) (hx:ρ x=.pointer (some ⟨g,off,none⟩)) {C:Array Value} {T:TypeId} {fr:Nat × Nat} (hg:w.heap[g]?=some (.cells C T fr))
    (cs:List Value) (hcs:(C.toList.drop off).take cs.length=cs) (d:TypeDesc) (hu:P.underlying ty=some d) (hd:d.isRow=true) (hi:(P.info? ty).map (·.size)=some cs.length):(execOp ρ o).run P w=.ok (.value (.agg cs.toArray)) w:=by
  have hc:w.rangeAt g off cs:=fun j v hj=>by
    refine exec_load1 hg ?_
    have:cs[j]?=((C.toList.drop off).take cs.length)[j]?:=by rw [hcs]
    rw [this] at hj
    have hlt:j < cs.length:=by
      have:=(List.getElem?_eq_some_iff.1 hj).1
      simp at this;omega
    rw [List.getElem?_take_of_lt hlt,List.getElem?_drop] at hj
    simpa using hj
  unfold execOp
  simp only [ho,hx,run_loadAt_mid w g off ty cs d hc hu hd hi,Sem.run_bind,Result.andThen_ok]
  rfl
theorem exec_storeR (ty:TypeId) (x y:Operand) (ho:o.op=.store ty x y) (g:Nat) (cells:Array Value) (hx:ρ x=.pointer (some ⟨g,0,none⟩)) (hy:ρ y=.agg cells)
    {t:TypeId} {old:Array Value} (hg:w.heap[g]?=some (.cells old t (0,0))) (hi:(P.info? ty).map (·.size)=some cells.size) (hold:old.size=cells.size) (h1:cells.all (·.oneCell')=true):
    (execOp ρ o).run P w=.ok .skip (w.setRow g cells):=by
  unfold execOp
  simp only [ho,hx,hy,Instr.storeAt,Instr.sureAddr,Sem.run_bind,Sem.run_pure,Result.andThen_ok,run_storeVar_row w g t ty old cells hg hi hold h1]
end
section
variable {P:Program} {ρ:Operand → Value} {o:Oper} {w:World}
theorem exec_call {c:Call} {f:FuncId} {fn:Func} {args:Array Value} (ho:o.op=.call c) (hc:c.callee=.value (.func f)) (hr:ρ (.func f)=.func (.func f) #[] #[]) (ha:c.args.map ρ=args) (hf:P.funcs[f]?=some fn)
    (hn:(fn.name == "runtime.NumGoroutine")=false) (hb:fn.body.isNone=false):(execOp ρ o).run P w=.ok (.enter f args) w:=by
  have hb':¬ fn.body=none:=by
    intro e;rw [e] at hb;cases hb
  have hn':¬ fn.name = "runtime.NumGoroutine" := by simpa using hn
  simp [execOp,ho,resolve,hc,hr,ha,Deferred.ofValue,invoke,callFunc,hf,hb',hn',go_sem]
theorem args1 {x:Operand} {a:Value} (h:ρ x=a):(#[x]).map ρ=#[a]:=by simp [h]
theorem args2 {x y:Operand} {a b:Value} (h:ρ x=a) (h2:ρ y=b):(#[x,y]).map ρ=#[a,b]:=by simp [h,h2]
theorem args4 {x y z t:Operand} {a b c d:Value} (h:ρ x=a) (h2:ρ y=b) (h3:ρ z=c) (h4:ρ t=d):(#[x,y,z,t]).map ρ=#[a,b,c,d]:=by simp [h,h2,h3,h4]
end
theorem calls_abs {P:Program} {f:FuncId} {fn:Func} {c:Code} {args:Array Value} {w:World} {R:Ending → World → Prop} (hf:P.funcs[f]?=some fn) (hb:fn.body=some c) (hn:args.size ≤ fn.ntmps)
    (h:∀ a:Act,a.defers=[] → a.tmps.size=fn.ntmps → (∀ j,j < args.size → a.tmps.getD j undef=args.getD j undef) → c.wp P (bodyPost P fn R) a w):Calls P f args w R:=by
  refine calls_of_wp hf hb (h _ rfl (by simp;omega) fun j hj=>?_)
  simp only [Array.getD_eq_getD_getElem?]
  rw [Array.getElem?_append_left hj]
section
variable {P:Program} {fn:Func} {w:World} {tmps:Array Value}
theorem load_row {g:Nat} {c:Array Value} {T:TypeId} (t:TypeId) (hg:w.heap[g]?=some (.cells c T (0,0))) {d:TypeDesc} (hu:P.underlying t=some d) (hd:(match d with | .struct _ | .array _ _=>true | _=>false)=true) (hi:(P.info? t).map (·.size)=some c.size):(loadVar t ⟨g,0,none⟩).run P w=.ok (.agg c) w:=
  run_loadVar_row w g T t c (0,0) d hg hu hd hi
theorem res_ct {d:Tmp} {t:TypeId} {p:Addr} {v x:Value} {e:Tmp} (h:fn.results=#[.cell d t,.tmp e]) (hs:tmps.getD d undef=.pointer (some p)) (hl:(loadVar t p).run P w=.ok v w) (hx:tmps.getD e undef=x):(results fn tmps).run P w=.ok (.tuple #[v,x]) w:=by
  have hs':tmps[d]?.getD undef=.pointer (some p):=by rw [← hs,Array.getD_eq_getD_getElem?]
  have hx':tmps[e]?.getD undef=x:=by rw [← hx,Array.getD_eq_getD_getElem?]
  simp [results,h,hs',asAddr,hl,hx']
theorem res_t {d:Tmp} {v:Value} (h:fn.results=#[.tmp d]) (hs:tmps.getD d undef=v):(results fn tmps).run P w=.ok v w:=by
  rw [results_tmp h,hs]
end
end Go.Proofs.YtjhedldplmhmjaaDoor
