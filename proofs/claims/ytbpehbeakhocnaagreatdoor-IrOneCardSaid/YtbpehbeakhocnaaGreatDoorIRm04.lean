import Derived.Orders
import Derived.Laws.StructEq
import Derived.WalkKit
set_option linter.unusedVariables false
set_option linter.unusedSimpArgs false
set_option linter.unnecessarySimpa false
namespace Go.Proofs.YtbpehbeakhocnaaGreatDoor
open Go
section
variable {P:Program} {ops:Array Oper} {Q:Exit → Act → World → Prop} {md:Region.Mode}
def unl (l:Array Bool):Nat → Nat
  | 0=>0
  | n + 1=>unl l n + if l.getD n true then 0 else 1
theorem unl_zero {l:Array Bool}:∀ {n:Nat},unl l n=0 → ∀ i,i < n → l.getD i true=true
  | n + 1,h,i,hi=>by
    unfold unl at h
    by_cases e:i=n
    · subst e
      cases hh:l.getD i true
      · simp [hh] at h
      · rfl
    · exact unl_zero (n:=n) (by omega) i (by omega)
theorem getD_set (l:Array Bool) (i j:Nat) (hi:i < l.size) (d:Bool):(l.setIfInBounds i true).getD j d=if j=i then true else l.getD j d:=by
  simp only [Array.getD_eq_getD_getElem?,Array.getElem?_setIfInBounds]
  by_cases e:i=j
  · subst e;simp [hi]
  · simp [e,Ne.symm e]
theorem unl_set {l:Array Bool} {i:Nat} (hi:i < l.size) (hf:l.getD i true=false):∀ n,unl (l.setIfInBounds i true) n + (if i < n then 1 else 0)=unl l n
  | 0=>by simp [unl]
  | n + 1=>by
    have ih:=unl_set hi hf n
    unfold unl
    rw [getD_set l i n hi]
    by_cases e:n=i
    · subst e
      rw [hf]
      simp at ih ⊢
      omega
    · rw [if_neg e]
      have:(i < n + 1) ↔ (i < n):=by omega
      simp only [this]
      omega
theorem wpAny_inv (I:Array Bool → Act → World → Prop)
    (hback:∀ (i:Nat) (o:Oper),ops[i]?=some o → ∀ e ∈ o.after,Region.binds md e=true → e.on < i)
    (hend:∀ (l:Array Bool) (a:Act) (w:World),I l a w → (∀ i,i < ops.size → l.getD i true=true) → Q .normal a w)
    (hstep:∀ (l:Array Bool) (a:Act) (w:World) (i:Nat) (o:Oper),l.size=ops.size → I l a w → ops[i]?=some o → l.getD i true=false → (∀ e ∈ o.after,Region.binds md e=true → l.getD e.on false=true) → wpOp P ops Q i (I (l.setIfInBounds i true)) a w):
    ∀ fuel l a w,l.size=ops.size → I l a w → unl l ops.size ≤ fuel → wpAny P md ops Q fuel l a w:=by
  have hready:∀ (l:Array Bool) (i:Nat),i ∈ Region.ready md ops l ↔ i < ops.size ∧ l.getD i true=false ∧ ∃ o:Oper,ops[i]?=some o ∧ ∀ e ∈ o.after,Region.binds md e=true → l.getD e.on false=true:=by
    intro l i
    unfold Region.ready
    rw [List.mem_filter,List.mem_range]
    constructor
    · rintro ⟨hi,h⟩
      simp only [Bool.and_eq_true,Bool.not_eq_true'] at h
      refine ⟨hi,h.1,ops[i],Array.getElem?_eq_getElem hi,fun e he hb=>?_⟩
      have h2:=h.2
      rw [Array.getElem?_eq_getElem hi] at h2
      simp only [Option.map_some,Option.getD_some] at h2
      rw [Array.all_eq_true_iff_forall_mem] at h2
      have:=h2 e he
      simpa [hb] using this
    · rintro ⟨hi,hf,o,ho,ha⟩
      refine ⟨hi,?_⟩
      simp only [Bool.and_eq_true,Bool.not_eq_true']
      refine ⟨hf,?_⟩
      rw [ho]
      simp only [Option.map_some,Option.getD_some]
      rw [Array.all_eq_true_iff_forall_mem]
      intro e he
      cases hb:Region.binds md e
      · rfl
      · simpa [hb] using ha e he hb
  have hnone:∀ l:Array Bool,Region.ready md ops l=[] → ∀ i,i < ops.size → l.getD i true=true:=by
    intro l hr i
    induction i using Nat.strongRecOn with
    | ind i ih=>
      intro hi
      cases hf:l.getD i true
      · exfalso
        have:i ∈ Region.ready md ops l:=(hready l i).2 ⟨hi,hf,ops[i],Array.getElem?_eq_getElem hi,fun e he hb=>by
          have hlt:=hback i _ (Array.getElem?_eq_getElem hi) e he hb
          have:=ih e.on hlt (by omega)
          by_cases hs:e.on < l.size
          · simp only [Array.getD_eq_getD_getElem?,Array.getElem?_eq_getElem hs,Option.getD_some] at this ⊢
            exact this
          · exfalso
            have hi':l.getD i true=true:=by
              simp only [Array.getD_eq_getD_getElem?]
              rw [Array.getElem?_eq_none (by omega)];rfl
            rw [hi'] at hf;cases hf⟩
        rw [hr] at this;cases this
      · rfl
  intro fuel
  induction fuel with
  | zero=>
    intro l a w hs hI hu
    have hz:=unl_zero (l:=l) (n:=ops.size) (by omega)
    have hr:Region.ready md ops l=[]:=by
      apply List.eq_nil_iff_forall_not_mem.2
      intro i hi
      obtain ⟨h1,h2,_⟩:=(hready l i).1 hi
      rw [hz i h1] at h2;cases h2
    exact ⟨hr,hend l a w hI hz⟩
  | succ fuel ih=>
    intro l a w hs hI hu
    refine ⟨fun hr=>hend l a w hI (hnone l hr),fun i hi=>?_⟩
    obtain ⟨h1,h2,o,ho,ha⟩:=(hready l i).1 hi
    refine wpOp_mono (fun a' w' hI'=>ih _ a' w' (by simpa using hs) hI' ?_) (hstep l a w i o hs hI ho h2 ha)
    have:=unl_set (l:=l) (i:=i) (by omega) h2 ops.size
    rw [if_pos h1] at this
    omega
def putAll (t:Array Value):List (Nat × Value) → Array Value
  | []=>t
  | p :: r=>putAll (t.setIfInBounds p.1 p.2) r
theorem putAll_size:∀ (l:List (Nat × Value)) (t:Array Value),(putAll t l).size=t.size
  | [],t=>rfl
  | p :: r,t=>by unfold putAll;rw [putAll_size r];simp
theorem putAll_other:∀ (l:List (Nat × Value)) (t:Array Value) (j:Nat),(∀ p ∈ l,p.1 ≠ j) → (putAll t l)[j]?=t[j]?
  | [],t,j,_=>rfl
  | p :: r,t,j,h=>by
    unfold putAll
    rw [putAll_other r _ j (fun q hq=>h q (List.mem_cons_of_mem _ hq)),Array.getElem?_setIfInBounds,if_neg (h p (List.mem_cons_self ..))]
theorem putAll_mem (f:Nat → Value):∀ (l:List (Nat × Value)) (t:Array Value) (j:Nat),j < t.size → (∀ p ∈ l,p.2=f p.1) → (∃ p ∈ l,p.1=j) → (putAll t l)[j]?=some (f j)
  | [],t,j,_,_,h=>by obtain ⟨p,hp,_⟩:=h;cases hp
  | p :: r,t,j,hj,hf,h=>by
    unfold putAll
    by_cases hr:∃ q ∈ r,q.1=j
    · exact putAll_mem f r _ j (by simpa using hj) (fun q hq=>hf q (List.mem_cons_of_mem _ hq)) hr
    · have hp:p.1=j:=by
        obtain ⟨q,hq,e⟩:=h
        rcases List.mem_cons.1 hq with rfl | hq'
        · exact e
        · exact absurd ⟨q,hq',e⟩ hr
      rw [putAll_other r _ j (fun q hq e=>hr ⟨q,hq,e⟩),Array.getElem?_setIfInBounds,if_pos hp]
      have:=hf p (List.mem_cons_self ..)
      rw [this,hp];simp [hj]
def outs (ops:Array Oper) (u:Nat → Value):List (Nat × Value):=(List.range ops.size).filterMap fun i=>((ops[i]?).bind (·.dst)).map fun d=>(d,u d)
def own (o:Oper) (a:Act):Value:=match o.dst with | some d=>a.tmps.getD d undef | none=>undef
def ownU (o:Oper) (u:Nat → Value):Value:=match o.dst with | some d=>u d | none=>undef
structure Inv (ops:Array Oper) (a0:Act) (dep:Nat → Nat) (S:World → Prop) (R:Nat → Value → Value → World → Prop) (l:Array Bool) (a:Act) (w:World):Prop where
  s:S w
  defers:a.defers=a0.defers
  size:a.tmps.size=a0.tmps.size
  rest:∀ j,(∀ (i:Nat) (o:Oper),ops[i]?=some o → o.dst ≠ some j) → a.tmps.getD j undef=a0.tmps.getD j undef
  done:∀ (i:Nat) (o:Oper),ops[i]?=some o → l.getD i true=true → R i (own o a) (a.tmps.getD (dep i) undef) w
  closed:∀ (i:Nat) (o:Oper),ops[i]?=some o → l.getD i true=true → ∀ e ∈ o.after,Region.binds .any e=true → l.getD e.on true=true
theorem put_getD (a:Act) (d0:Nat) (v:Value) (h:d0 < a.tmps.size) (j:Nat):(a.put (some d0) v).tmps.getD j undef=if j=d0 then v else a.tmps.getD j undef:=by
  show (a.tmps.setIfInBounds d0 v).getD j undef=_
  simp only [Array.getD_eq_getD_getElem?,Array.getElem?_setIfInBounds]
  by_cases e:d0=j
  · subst e;simp [h]
  · simp [e,Ne.symm e]
theorem wp_region_inv {id:Nat} {a0:Act} {w0:World} (dep:Nat → Nat) (S:World → Prop) (R:Nat → Value → Value → World → Prop) (hm:P.follows .mixedOrders=true)
    (hback:∀ (i:Nat) (o:Oper),ops[i]?=some o → ∀ e ∈ o.after,Region.binds .any e=true → e.on < i)
    (hdst:∀ (i j:Nat) (o o':Oper) (d:Nat),ops[i]?=some o → ops[j]?=some o' → o.dst=some d → o'.dst=some d → i=j)
    (hdep:∀ (i j:Nat) (o o':Oper),ops[i]?=some o → ops[j]?=some o' → o.dst=some (dep j) → i=j ∨ ∃ e ∈ o'.after,Region.binds .any e=true ∧ e.on=i)
    (hin:∀ (i:Nat) (o:Oper) (d:Nat),ops[i]?=some o → o.dst=some d → d < a0.tmps.size)
    (h0:S { w0 with drawn:=w0.drawn + 1 })
    (hop:∀ (i:Nat) (o:Oper) (a:Act) (w:World),ops[i]?=some o → S w → a.defers=a0.defers → a.tmps.size=a0.tmps.size → (∀ j,(∀ (i:Nat) (o:Oper),ops[i]?=some o → o.dst ≠ some j) → a.tmps.getD j undef=a0.tmps.getD j undef) →
      (∀ e ∈ o.after,Region.binds .any e=true → ∀ (o':Oper),ops[e.on]?=some o' → R e.on (own o' a) (a.tmps.getD (dep e.on) undef) w) →
      wpOp P ops Q i (fun a' w'=>∃ v,a'=a.put o.dst v ∧ R i (own o a') (a'.tmps.getD (dep i) undef) w' ∧ S w' ∧ ∀ j x u,R j x u w → R j x u w') a w)
    (hq:∀ (u:Nat → Value) (w':World),S w' → (∀ (i:Nat) (o:Oper),ops[i]?=some o → R i (ownU o u) (u (dep i)) w') → Q .normal ⟨putAll a0.tmps (outs ops u),a0.defers⟩ w'):
    (Code.region id ops true).wp P Q a0 w0:=by
  refine wp_region_any hm ?_
  refine wpAny_inv (Inv ops a0 dep S R) hback ?_ ?_ ops.size _ _ _ (by simp) ⟨h0,rfl,rfl,fun _ _=>rfl,?_,?_⟩ ?_
  · intro l a w hI hl
    have e:a.tmps=putAll a0.tmps (outs ops fun d=>a.tmps.getD d undef):=by
      apply Array.ext_getElem?
      intro j
      by_cases hj:j < a0.tmps.size
      · by_cases hd:∃ (i:Nat) (o:Oper),ops[i]?=some o ∧ o.dst=some j
        · obtain ⟨i,o,ho,hd⟩:=hd
          rw [putAll_mem (fun d=>a.tmps.getD d undef) _ _ j hj]
          · have hj':j < a.tmps.size:=by rw [hI.size];exact hj
            rw [Array.getElem?_eq_getElem hj']
            simp [Array.getD_eq_getD_getElem?,Array.getElem?_eq_getElem hj']
          · intro p hp
            unfold outs at hp
            rw [List.mem_filterMap] at hp
            obtain ⟨i',_,he⟩:=hp
            rw [Option.map_eq_some_iff] at he
            obtain ⟨d,_,rfl⟩:=he
            rfl
          · refine ⟨(j,a.tmps.getD j undef),?_,rfl⟩
            unfold outs
            rw [List.mem_filterMap]
            exact ⟨i,List.mem_range.2 (Array.getElem?_eq_some_iff.1 ho).1,by rw [ho];simp [hd]⟩
        · have hr:=hI.rest j (fun i o ho hd'=>hd ⟨i,o,ho,hd'⟩)
          rw [putAll_other]
          · have hj':j < a.tmps.size:=by rw [hI.size];exact hj
            rw [Array.getElem?_eq_getElem hj',Array.getElem?_eq_getElem hj]
            simp only [Array.getD_eq_getD_getElem?,Array.getElem?_eq_getElem hj',Array.getElem?_eq_getElem hj,Option.getD_some] at hr
            rw [hr]
          · intro p hp e
            unfold outs at hp
            rw [List.mem_filterMap] at hp
            obtain ⟨i',_,he⟩:=hp
            rw [Option.map_eq_some_iff] at he
            obtain ⟨d,hd',rfl⟩:=he
            rw [Option.bind_eq_some_iff] at hd'
            obtain ⟨o,ho,hd'⟩:=hd'
            exact hd ⟨i',o,ho,by rw [hd',← e]⟩
      · rw [Array.getElem?_eq_none (by rw [hI.size];omega),Array.getElem?_eq_none (by rw [putAll_size];omega)]
    have ea:a=⟨putAll a0.tmps (outs ops fun d=>a.tmps.getD d undef),a0.defers⟩:=by
      rw [← e,← hI.defers]
    have hu:=hq (fun d=>a.tmps.getD d undef) w hI.s (fun i o ho=>hI.done i o ho (hl i (Array.getElem?_eq_some_iff.1 ho).1))
    rw [ea]
    exact hu
  · intro l a w i o hs hI ho hf ha
    have hi:i < l.size:=by rw [hs];exact (Array.getElem?_eq_some_iff.1 ho).1
    have hup:∀ (e:Nat),l.getD e false=true → l.getD e true=true:=fun e he=>by
      by_cases hlt:e < l.size
      · simp only [Array.getD_eq_getD_getElem?,Array.getElem?_eq_getElem hlt,Option.getD_some] at he ⊢
        exact he
      · simp only [Array.getD_eq_getD_getElem?]
        rw [Array.getElem?_eq_none (by omega)];rfl
    refine wpOp_mono ?_ (hop i o a w ho hI.s hI.defers hI.size hI.rest (fun e he hb o' ho'=>hI.done e.on o' ho' (hup _ (ha e he hb))))
    rintro a' w' ⟨v,rfl,hR,hS,hmo⟩
    have hclosed:∀ (j:Nat) (oj:Oper),ops[j]?=some oj → (l.setIfInBounds i true).getD j true=true → ∀ e ∈ oj.after,Region.binds .any e=true → (l.setIfInBounds i true).getD e.on true=true:=by
      intro j oj hj hl e he hb
      rw [getD_set l i _ hi]
      by_cases hei:e.on=i
      · rw [if_pos hei]
      · rw [if_neg hei]
        rw [getD_set l i j hi] at hl
        by_cases hji:j=i
        · subst hji
          rw [ho] at hj;cases hj
          exact hup _ (ha e he hb)
        · rw [if_neg hji] at hl
          exact hI.closed j oj hj hl e he hb
    cases hod:o.dst with
    | none=>
      refine ⟨hS,hI.defers,hI.size,hI.rest,fun j oj hj hl=>?_,hclosed⟩
      rw [hod] at hR
      by_cases hji:j=i
      · subst hji
        rw [ho] at hj;cases hj
        exact hR
      · rw [getD_set l i j hi,if_neg hji] at hl
        exact hmo _ _ _ (hI.done j oj hj hl)
    | some d0=>
      have hd0:d0 < a.tmps.size:=by rw [hI.size];exact hin i o d0 ho hod
      have hput:=put_getD a d0 v hd0
      refine ⟨hS,hI.defers,by show (a.tmps.setIfInBounds d0 v).size=_;simp [hI.size],fun j hj=>?_,fun j oj hj hl=>?_,hclosed⟩
      · rw [hput j,if_neg (fun e=>hj i o ho (by rw [hod,e]))]
        exact hI.rest j hj
      · rw [hod] at hR
        by_cases hji:j=i
        · subst hji
          rw [ho] at hj;cases hj
          exact hR
        · rw [getD_set l i j hi,if_neg hji] at hl
          have h1:own oj (a.put (some d0) v)=own oj a:=by
            unfold own
            cases hdj:oj.dst with
            | none=>rfl
            | some d=>
              show (a.put (some d0) v).tmps.getD d undef=a.tmps.getD d undef
              rw [hput d,if_neg (fun e=>hji (hdst j i oj o d hj ho hdj (by rw [hod,e])))]
          have h2:(a.put (some d0) v).tmps.getD (dep j) undef=a.tmps.getD (dep j) undef:=by
            rw [hput (dep j),if_neg]
            intro e
            rcases hdep i j o oj ho hj (by rw [hod,e]) with h | ⟨e',he',hb',hei⟩
            · exact hji h.symm
            · have:=hI.closed j oj hj hl e' he' hb'
              rw [hei,hf] at this;cases this
          rw [h1,h2]
          exact hmo _ _ _ (hI.done j oj hj hl)
  · intro i o ho hl
    have hi:=(Array.getElem?_eq_some_iff.1 ho).1
    simp [Array.getD_eq_getD_getElem?,hi] at hl
  · intro i o ho hl
    have hi:=(Array.getElem?_eq_some_iff.1 ho).1
    simp [Array.getD_eq_getD_getElem?,hi] at hl
  · have:∀ (l:Array Bool) n,unl l n ≤ n:=fun l n=>by
      induction n with
      | zero=>exact Nat.le_refl _
      | succ n ih=>unfold unl;split <;> omega
    exact this _ _
def chkBack (ops:Array Oper):Bool:=(List.range ops.size).all fun i=>match ops[i]? with | some o=>o.after.all fun e=>!Region.binds .any e || decide (e.on < i) | none=>true
def chkDst (ops:Array Oper):Bool:=(List.range ops.size).all fun i=>(List.range ops.size).all fun j=>match ops[i]?,ops[j]? with
  | some o,some o'=>(match o.dst,o'.dst with | some d,some d'=>d != d' || i == j | _,_=>true)
  | _,_=>true
def chkDep (ops:Array Oper) (dep:Nat → Nat):Bool:=(List.range ops.size).all fun i=>(List.range ops.size).all fun j=>match ops[i]?,ops[j]? with
  | some o,some o'=>(match o.dst with | some d=>d != dep j || i == j || o'.after.any (fun e=>Region.binds .any e && e.on == i) | none=>true)
  | _,_=>true
def chkIn (ops:Array Oper) (n:Nat):Bool:=(List.range ops.size).all fun i=>match ops[i]? with | some o=>(match o.dst with | some d=>decide (d < n) | none=>true) | none=>true
theorem of_range {ops:Array Oper} {f:Nat → Bool} (h:(List.range ops.size).all f=true) {i:Nat} {o:Oper} (ho:ops[i]?=some o):f i=true:=
  List.all_eq_true.1 h i (List.mem_range.2 (Array.getElem?_eq_some_iff.1 ho).1)
theorem back_of (h:chkBack ops=true):∀ (i:Nat) (o:Oper),ops[i]?=some o → ∀ e ∈ o.after,Region.binds .any e=true → e.on < i:=fun i o ho e he hb=>by
  have:=of_range h ho
  rw [ho] at this
  simp only [Array.all_eq_true_iff_forall_mem] at this
  simpa [hb] using this e he
theorem dst_of (h:chkDst ops=true):∀ (i j:Nat) (o o':Oper) (d:Nat),ops[i]?=some o → ops[j]?=some o' → o.dst=some d → o'.dst=some d → i=j:=fun i j o o' d ho ho' hd hd'=>by
  have:=of_range (of_range h ho) ho'
  rw [ho,ho'] at this
  simp only [hd,hd'] at this
  simpa using this
theorem dep_of {dep:Nat → Nat} (h:chkDep ops dep=true):∀ (i j:Nat) (o o':Oper),ops[i]?=some o → ops[j]?=some o' → o.dst=some (dep j) → i=j ∨ ∃ e ∈ o'.after,Region.binds .any e=true ∧ e.on=i:=fun i j o o' ho ho' hd=>by
  have:=of_range (of_range h ho) ho'
  rw [ho,ho'] at this
  simp only [hd,bne_self_eq_false,Bool.false_or,Bool.or_eq_true,beq_iff_eq] at this
  rcases this with h | h
  · exact Or.inl h
  · right
    rw [Array.any_eq_true] at h
    obtain ⟨x,hx,hb⟩:=h
    simp only [Bool.and_eq_true,beq_iff_eq] at hb
    exact ⟨_,Array.getElem_mem hx,hb⟩
theorem in_of {n:Nat} (h:chkIn ops n=true):∀ (i:Nat) (o:Oper) (d:Nat),ops[i]?=some o → o.dst=some d → d < n:=fun i o d ho hd=>by
  have:=of_range h ho
  rw [ho] at this
  simpa [hd] using this
variable {a:Act} {w:World} {K:Act → World → Prop}
theorem wpOp_val {i:Nat} {o:Oper} {v:Value} {w':World} (ho:ops[i]?=some o) (hg:o.guard=none) (hr:(execOp a.eval o).run P w=.ok (.value v) w') (h:K (a.put o.dst v) w'):wpOp P ops Q i K a w:=by
  unfold wpOp
  rw [ho]
  have hw:Region.wanted o (yielded ops a.tmps)=true:=by simp [Region.wanted,hg]
  simp only [hw,if_true]
  left
  unfold Oper.wp
  rw [hr]
  exact h
theorem wpOp_skp {i:Nat} {o:Oper} {w':World} (ho:ops[i]?=some o) (hg:o.guard=none) (hr:(execOp a.eval o).run P w=.ok .skip w') (h:K (a.put o.dst undef) w'):wpOp P ops Q i K a w:=by
  unfold wpOp
  rw [ho]
  have hw:Region.wanted o (yielded ops a.tmps)=true:=by simp [Region.wanted,hg]
  simp only [hw,if_true]
  left
  unfold Oper.wp
  rw [hr]
  exact h
theorem wpOp_call {i:Nat} {o:Oper} {f:FuncId} {args:Array Value} (ho:ops[i]?=some o) (hg:o.guard=none) (hr:(execOp a.eval o).run P w=.ok (.enter f args) w)
    (h:Calls P f args w fun e w''=>∃ v,e=.returned v ∧ K (a.put o.dst v) w''):wpOp P ops Q i K a w:=by
  unfold wpOp
  rw [ho]
  have hw:Region.wanted o (yielded ops a.tmps)=true:=by simp [Region.wanted,hg]
  simp only [hw,if_true]
  left
  unfold Oper.wp
  rw [hr]
  refine h.mono ?_
  rintro e w'' ⟨v,rfl,hk⟩
  exact hk
theorem exec_eql {ρ:Operand → Value} {o:Oper} {t z:TypeId} {x y:Operand} {xs ys:Array Value} {r:Bool} (ho:o.op=.binOp .eql t x y z) (hx:ρ x=.agg xs) (hy:ρ y=.agg ys) (hm:P.eqGuardType P.depth t=false)
    (he:(Op.equalIn 10000 t (.agg xs) (.agg ys)).run P w=.ok r w):(execOp ρ o).run P w=.ok (.value (.bool r)) w:=by
  unfold execOp
  simp only [ho,hx,hy,Sem.run_bind,run_eqGuard_agg w .eql t x y xs ys hm,run_eql_struct,he,Result.andThen_ok,Sem.run_pure]
theorem exec_neq {ρ:Operand → Value} {o:Oper} {t z:TypeId} {x y:Operand} {xs ys:Array Value} {r:Bool} (ho:o.op=.binOp .neq t x y z) (hx:ρ x=.agg xs) (hy:ρ y=.agg ys) (hm:P.eqGuardType P.depth t=false)
    (he:(Op.equalIn 10000 t (.agg xs) (.agg ys)).run P w=.ok r w):(execOp ρ o).run P w=.ok (.value (.bool (!r))) w:=by
  unfold execOp
  simp only [ho,hx,hy,Sem.run_bind,run_eqGuard_agg w .neq t x y xs ys hm,run_neq_struct,he,Result.andThen_ok,Sem.run_pure]
theorem wpOp_no {i:Nat} {o:Oper} (ho:ops[i]?=some o) (hw:Region.wanted o (yielded ops a.tmps)=false) (h:K (a.put o.dst undef) w):wpOp P ops Q i K a w:=by
  unfold wpOp
  rw [ho]
  simp only [hw]
  exact h
theorem wpOp_valw {i:Nat} {o:Oper} {v:Value} {w':World} (ho:ops[i]?=some o) (hw:Region.wanted o (yielded ops a.tmps)=true) (hr:(execOp a.eval o).run P w=.ok (.value v) w') (h:K (a.put o.dst v) w'):wpOp P ops Q i K a w:=by
  unfold wpOp
  rw [ho]
  simp only [hw,if_true]
  left
  unfold Oper.wp
  rw [hr]
  exact h
theorem wpOp_skpw {i:Nat} {o:Oper} {w':World} (ho:ops[i]?=some o) (hw:Region.wanted o (yielded ops a.tmps)=true) (hr:(execOp a.eval o).run P w=.ok .skip w') (h:K (a.put o.dst undef) w'):wpOp P ops Q i K a w:=by
  unfold wpOp
  rw [ho]
  simp only [hw,if_true]
  left
  unfold Oper.wp
  rw [hr]
  exact h
theorem wpOp_callw {i:Nat} {o:Oper} {f:FuncId} {args:Array Value} (ho:ops[i]?=some o) (hw:Region.wanted o (yielded ops a.tmps)=true) (hr:(execOp a.eval o).run P w=.ok (.enter f args) w)
    (h:Calls P f args w fun e w''=>∃ v,e=.returned v ∧ K (a.put o.dst v) w''):wpOp P ops Q i K a w:=by
  unfold wpOp
  rw [ho]
  simp only [hw,if_true]
  left
  unfold Oper.wp
  rw [hr]
  refine h.mono ?_
  rintro e w'' ⟨v,rfl,hk⟩
  exact hk
theorem wanted_of {o oj:Oper} {j d:Nat} {want b:Bool} (hg:o.guard=some (j,want)) (hj:ops[j]?=some oj) (hd:oj.dst=some d) (hlt:d < a.tmps.size) (h:a.tmps.getD d undef=.bool b):Region.wanted o (yielded ops a.tmps)=(b == want):=by
  have e:a.tmps[d]?=some (.bool b):=by
    rw [Array.getElem?_eq_getElem hlt]
    simp only [Array.getD_eq_getD_getElem?,Array.getElem?_eq_getElem hlt,Option.getD_some] at h
    rw [h]
  have y:yielded ops a.tmps j=some b:=by
    unfold yielded
    rw [hj]
    simp only [Option.bind_some,hd,e]
  unfold Region.wanted
  rw [hg]
  simp only [y]
  cases b <;> cases want <;> rfl
theorem wanted_no {o oj:Oper} {want:Bool} (j d:Nat) (b:Bool) (h:a.tmps.getD d undef=.bool b) (hlt:d < a.tmps.size) (hg:o.guard=some (j,want)) (hj:ops[j]?=some oj) (hd:oj.dst=some d) (hb:(b == want)=false):Region.wanted o (yielded ops a.tmps)=false:=
  (wanted_of hg hj hd hlt h).trans hb
theorem wanted_yes {o oj:Oper} {want:Bool} (j d:Nat) (b:Bool) (h:a.tmps.getD d undef=.bool b) (hlt:d < a.tmps.size) (hg:o.guard=some (j,want)) (hj:ops[j]?=some oj) (hd:oj.dst=some d) (hb:(b == want)=true):Region.wanted o (yielded ops a.tmps)=true:=
  (wanted_of hg hj hd hlt h).trans hb
def chkNot (ops:Array Oper) (j:Nat):Bool:=(List.range ops.size).all fun i=>match ops[i]? with | some o=>(match o.dst with | some d=>d != j | none=>true) | none=>true
theorem not_of {j:Nat} (h:chkNot ops j=true):∀ (i:Nat) (o:Oper),ops[i]?=some o → o.dst ≠ some j:=fun i o ho hd=>by
  have:=of_range h ho
  rw [ho] at this
  simp [hd] at this
theorem own_put {o:Oper} {d:Nat} {v:Value} (hd:o.dst=some d) (hlt:d < a.tmps.size):own o (a.put o.dst v)=v:=by
  unfold own
  rw [hd]
  show (a.put (some d) v).tmps.getD d undef=v
  rw [put_getD a d v hlt,if_pos rfl]
end
end Go.Proofs.YtbpehbeakhocnaaGreatDoor
