import Derived.Test.YtbpehbeakhocnaaGreatDoorIRm37
set_option maxHeartbeats 2000000
set_option linter.unusedVariables false
set_option linter.unusedSimpArgs false
set_option linter.unnecessarySimpa false
namespace Go.Proofs.YtbpehbeakhocnaaGreatDoor
open Go Go.RowKit
section
variable {F:Fence} {m:Nat} {P:Program} {ops:Array Oper} {Q:Exit → Act → World → Prop} {md:Region.Mode}
theorem wpAnyIn_inv (I:Array Bool → Act → World → Prop)
    (hback:∀ (i:Nat) (o:Oper),ops[i]?=some o → ∀ e ∈ o.after,Region.binds md e=true → e.on < i)
    (hend:∀ (l:Array Bool) (a:Act) (w:World),I l a w → (∀ i,i < ops.size → l.getD i true=true) → Q .normal a w)
    (hstep:∀ (l:Array Bool) (a:Act) (w:World) (i:Nat) (o:Oper),l.size=ops.size → I l a w → ops[i]?=some o → l.getD i true=false → (∀ e ∈ o.after,Region.binds md e=true → l.getD e.on false=true) → wpOpIn F m P ops Q i (I (l.setIfInBounds i true)) a w):
    ∀ fuel l a w,l.size=ops.size → I l a w → unl l ops.size ≤ fuel → wpAnyIn F m P md ops Q fuel l a w:=by
  have hready:∀ (l:Array Bool) (i:Nat),i ∈ Region.ready md ops l ↔ i < ops.size ∧ l.getD i true=false ∧ ∃ o:Oper,ops[i]?=some o ∧ ∀ e ∈ o.after,Region.binds md e=true → l.getD e.on false=true:=by
    intro l i
    unfold Region.ready
    rw [List.mem_filter,List.mem_range]
    constructor
    · rintro ⟨hi,h⟩
      simp only [Bool.and_eq_true,Bool.not_eq_true'] at h
      refine ⟨hi,h.1,ops[i],Array.getElem?_eq_getElem hi,fun e he hb=>?_⟩
      have h2:=h.2
      rw [Array.getElem?_eq_getElem hi] at h2
      simp only [Option.map_some,Option.getD_some] at h2
      rw [Array.all_eq_true_iff_forall_mem] at h2
      have:=h2 e he
      simpa [hb] using this
    · rintro ⟨hi,hf,o,ho,ha⟩
      refine ⟨hi,?_⟩
      simp only [Bool.and_eq_true,Bool.not_eq_true']
      refine ⟨hf,?_⟩
      rw [ho]
      simp only [Option.map_some,Option.getD_some]
      rw [Array.all_eq_true_iff_forall_mem]
      intro e he
      cases hb:Region.binds md e
      · rfl
      · simpa [hb] using ha e he hb
  have hnone:∀ l:Array Bool,Region.ready md ops l=[] → ∀ i,i < ops.size → l.getD i true=true:=by
    intro l hr i
    induction i using Nat.strongRecOn with
    | ind i ih=>
      intro hi
      cases hf:l.getD i true
      · exfalso
        have:i ∈ Region.ready md ops l:=(hready l i).2 ⟨hi,hf,ops[i],Array.getElem?_eq_getElem hi,fun e he hb=>by
          have hlt:=hback i _ (Array.getElem?_eq_getElem hi) e he hb
          have:=ih e.on hlt (by omega)
          by_cases hs:e.on < l.size
          · simp only [Array.getD_eq_getD_getElem?,Array.getElem?_eq_getElem hs,Option.getD_some] at this ⊢
            exact this
          · exfalso
            have hi':l.getD i true=true:=by
              simp only [Array.getD_eq_getD_getElem?]
              rw [Array.getElem?_eq_none (by omega)];rfl
            rw [hi'] at hf;cases hf⟩
        rw [hr] at this;cases this
      · rfl
  intro fuel
  induction fuel with
  | zero=>
    intro l a w hs hI hu
    have hz:=unl_zero (l:=l) (n:=ops.size) (by omega)
    have hr:Region.ready md ops l=[]:=by
      apply List.eq_nil_iff_forall_not_mem.2
      intro i hi
      obtain ⟨h1,h2,_⟩:=(hready l i).1 hi
      rw [hz i h1] at h2;cases h2
    exact ⟨hr,hend l a w hI hz⟩
  | succ fuel ih=>
    intro l a w hs hI hu
    refine ⟨fun hr=>hend l a w hI (hnone l hr),fun i hi=>?_⟩
    obtain ⟨h1,h2,o,ho,ha⟩:=(hready l i).1 hi
    refine wpOpIn_mono (fun a' w' hI'=>ih _ a' w' (by simpa using hs) hI' ?_) (hstep l a w i o hs hI ho h2 ha)
    have:=unl_set (l:=l) (i:=i) (by omega) h2 ops.size
    rw [if_pos h1] at this
    omega
theorem wpIn_regx {id:Nat} {a0:Act} {w0:World} (S:(Nat → Bool) → (Nat → Value) → World → Prop) (R:Nat → Value → Prop) (hm:P.follows .mixedOrders=true)
    (hback:∀ (i:Nat) (o:Oper),ops[i]?=some o → ∀ e ∈ o.after,Region.binds .any e=true → e.on < i)
    (hdst:∀ (i j:Nat) (o o':Oper) (d:Nat),ops[i]?=some o → ops[j]?=some o' → o.dst=some d → o'.dst=some d → i=j)
    (hin:∀ (i:Nat) (o:Oper) (d:Nat),ops[i]?=some o → o.dst=some d → d < a0.tmps.size)
    (h0:∀ (fl:Nat → Bool) (w1:World),(∀ i,i < ops.size → fl i=false) → w1={ w0 with drawn:=w0.drawn + 1 } → S fl (slotOf a0) w1)
    (hop:∀ (i:Nat) (o:Oper) (a:Act) (w:World) (fl:Nat → Bool),ops[i]?=some o → S fl (slotOf a) w → fl i=false →
      (∀ (k:Nat) (ok:Oper),ops[k]?=some ok → fl k=true → ∀ e ∈ ok.after,Region.binds .any e=true → fl e.on=true) →
      a.tmps.size=a0.tmps.size → (∀ j,(∀ (i:Nat) (o:Oper),ops[i]?=some o → o.dst ≠ some j) → a.tmps.getD j undef=a0.tmps.getD j undef) →
      (∀ (p:Nat) (e:_),o.after[p]?=some e → Region.binds .any e=true → fl e.on=true ∧ ∀ (o':Oper),ops[e.on]?=some o' → R e.on (own o' a)) →
      (∀ (k:Nat) (ok:Oper) (d:Nat),ops[k]?=some ok → ok.dst=some d → fl k=false → a.tmps.getD d undef=a0.tmps.getD d undef) →
      wpOpIn F m P ops Q i (fun a' w'=>∃ v,a'=a.put o.dst v ∧ R i (own o a') ∧ S (upd fl i) (slotOf a') w') a w)
    (hq:∀ (a:Act) (w':World) (fl:Nat → Bool),a.defers=a0.defers → a.tmps.size=a0.tmps.size → (∀ j,(∀ (i:Nat) (o:Oper),ops[i]?=some o → o.dst ≠ some j) → a.tmps.getD j undef=a0.tmps.getD j undef) →
      (∀ (i:Nat) (o:Oper),ops[i]?=some o → R i (own o a)) → (∀ i,i < ops.size → fl i=true) → S fl (slotOf a) w' → Q .normal a w'):
    (Code.region id ops true).wpIn F m P Q a0 w0:=by
  have hfin:∀ l a w,InvX ops a0 S R l a w → (∀ i,i < ops.size → l.getD i true=true) → Q .normal a w:=by
    intro l a w hI hl
    exact hq a w _ hI.defers hI.size hI.rest (fun i o ho=>hI.done i o ho (hl i (Array.getElem?_eq_some_iff.1 ho).1)) hl hI.s
  have hstep:∀ (l:Array Bool) a w (i:Nat) o,l.size=ops.size → InvX ops a0 S R l a w → ops[i]?=some o → l.getD i true=false → (∀ e ∈ o.after,Region.binds .any e=true → l.getD e.on false=true) →
      wpOpIn F m P ops Q i (InvX ops a0 S R (l.setIfInBounds i true)) a w:=by
    intro l a w i o hs hI ho hfi ha
    have hi:i < l.size:=by rw [hs];exact (Array.getElem?_eq_some_iff.1 ho).1
    have hup:∀ (e:Nat),l.getD e false=true → l.getD e true=true:=fun e he=>by
      by_cases hlt:e < l.size
      · simp only [Array.getD_eq_getD_getElem?,Array.getElem?_eq_getElem hlt,Option.getD_some] at he ⊢
        exact he
      · simp only [Array.getD_eq_getD_getElem?]
        rw [Array.getElem?_eq_none (by omega)];rfl
    refine wpOpIn_mono ?_ (hop i o a w _ ho hI.s hfi hI.closed hI.size hI.rest (fun p e hp hb=>⟨hup _ (ha e (Array.mem_of_getElem? hp) hb),fun o' ho'=>hI.done e.on o' ho' (hup _ (ha e (Array.mem_of_getElem? hp) hb))⟩) hI.undone)
    rintro a' w' ⟨v,rfl,hR,hS⟩
    have hS':S (fun j=>(l.setIfInBounds i true).getD j true) (slotOf (a.put o.dst v)) w':=by
      have e:(fun j=>(l.setIfInBounds i true).getD j true)=upd (fun j=>l.getD j true) i:=by
        funext j
        rw [getD_set l i j hi];rfl
      rw [e];exact hS
    have hclosed:∀ (j:Nat) (oj:Oper),ops[j]?=some oj → (l.setIfInBounds i true).getD j true=true → ∀ e ∈ oj.after,Region.binds .any e=true → (l.setIfInBounds i true).getD e.on true=true:=by
      intro j oj hj hl e he hb
      rw [getD_set l i e.on hi]
      by_cases hei:e.on=i
      · rw [if_pos hei]
      · rw [if_neg hei]
        rw [getD_set l i j hi] at hl
        by_cases hji:j=i
        · subst hji
          rw [ho] at hj;cases hj
          exact hup _ (ha e he hb)
        · rw [if_neg hji] at hl
          exact hI.closed j oj hj hl e he hb
    cases hod:o.dst with
    | none=>
      refine ⟨by rw [hod] at hS';exact hS',hI.defers,hI.size,hI.rest,fun j oj hj hl=>?_,hclosed,fun j oj d hj hd hl=>?_⟩
      case refine_2=>
        rw [getD_set l i j hi] at hl
        by_cases hji:j=i
        · rw [if_pos hji] at hl;cases hl
        · rw [if_neg hji] at hl;exact hI.undone j oj d hj hd hl
      rw [hod] at hR
      by_cases hji:j=i
      · subst hji
        rw [ho] at hj;cases hj
        exact hR
      · rw [getD_set l i j hi,if_neg hji] at hl
        exact hI.done j oj hj hl
    | some d0=>
      have hd0:d0 < a.tmps.size:=by rw [hI.size];exact hin i o d0 ho hod
      have hput:=put_getD a d0 v hd0
      refine ⟨by rw [hod] at hS';exact hS',hI.defers,by show (a.tmps.setIfInBounds d0 v).size=_;simp [hI.size],fun j hj=>?_,fun j oj hj hl=>?_,hclosed,fun j oj d hj hd hl=>?_⟩
      case refine_3=>
        rw [getD_set l i j hi] at hl
        by_cases hji:j=i
        · rw [if_pos hji] at hl;cases hl
        · rw [if_neg hji] at hl
          rw [hput d,if_neg (fun e=>hji (hdst j i oj o d hj ho hd (by rw [hod,e])))]
          exact hI.undone j oj d hj hd hl
      · rw [hput j,if_neg (fun e=>hj i o ho (by rw [hod,e]))]
        exact hI.rest j hj
      · rw [hod] at hR
        by_cases hji:j=i
        · subst hji
          rw [ho] at hj;cases hj
          exact hR
        · rw [getD_set l i j hi,if_neg hji] at hl
          have h1:own oj (a.put (some d0) v)=own oj a:=by
            unfold own
            cases hdj:oj.dst with
            | none=>rfl
            | some d=>
              show (a.put (some d0) v).tmps.getD d undef=a.tmps.getD d undef
              rw [hput d,if_neg (fun e=>hji (hdst j i oj o d hj ho hdj (by rw [hod,e])))]
          rw [h1]
          exact hI.done j oj hj hl
  have hinit:∀ w1,w1={ w0 with drawn:=w0.drawn + 1 } → InvX ops a0 S R (Array.replicate ops.size false) a0 w1:=by
    intro w1 hw
    have hf:∀ i,i < ops.size → (Array.replicate ops.size false).getD i true=false:=fun i hi=>by simp [Array.getD_eq_getD_getElem?,hi]
    refine ⟨h0 _ _ hf hw,rfl,rfl,fun _ _=>rfl,fun i o ho hl=>?_,fun i o ho hl=>?_,fun _ _ _ _ _ _=>rfl⟩
    · rw [hf i (Array.getElem?_eq_some_iff.1 ho).1] at hl;cases hl
    · rw [hf i (Array.getElem?_eq_some_iff.1 ho).1] at hl;cases hl
  refine wpIn_region_any hm ?_
  refine wpAnyIn_inv (InvX ops a0 S R) hback (fun l a w hI hl=>hfin l a w hI hl) ?_ ops.size _ _ _ (by simp) (hinit _ rfl) ?_
  · intro l a w i o hs hI ho hf ha
    have hi:i < l.size:=by rw [hs];exact (Array.getElem?_eq_some_iff.1 ho).1
    have hfi:l.getD i true=false:=by
      simp only [Array.getD_eq_getD_getElem?,Array.getElem?_eq_getElem hi,Option.getD_some] at hf ⊢
      exact hf
    exact hstep l a w i o hs hI ho hfi ha
  · have:∀ (l:Array Bool) n,unl l n ≤ n:=fun l n=>by
      induction n with
      | zero=>exact Nat.le_refl _
      | succ n ih=>unfold unl;split <;> omega
    exact this _ _
end
section
variable {F:Fence} {m:Nat} {P:Program} {ops:Array Oper} {Q:Exit → Act → World → Prop} {n:Nat} {a0:Act} {w0:World} {S:(Nat → Bool) → (Nat → Value) → World → Prop} {K D:List Nat} {l:List (Option Value)}
def HopD (F:Fence) (m:Nat) (P:Program) (ops:Array Oper) (Q:Exit → Act → World → Prop) (n:Nat) (a0:Act) (S:(Nat → Bool) → (Nat → Value) → World → Prop) (K D:List Nat) (l:List (Option Value)) (i:Nat) (L:List Oper):Prop:=
  ∀ j o,L[j]?=some o → ∀ fl a w,Cz ops n a0 S K D l (i + j) o fl a w → wpOpIn F m P ops Q (i + j) (PostZ S l (i + j) o fl a) a w
theorem yn {i:Nat}:HopD F m P ops Q n a0 S K D l i []:=fun j o h=>by simp at h
theorem yc {i:Nat} {o:Oper} {L:List Oper} (h:∀ {fl a w},Cz ops n a0 S K D l i o fl a w → wpOpIn F m P ops Q i (PostZ S l i o fl a) a w) (t:HopD F m P ops Q n a0 S K D l (i + 1) L):HopD F m P ops Q n a0 S K D l i (o :: L):=fun j o' hj=>by
  cases j with
  | zero=>
    have e:o=o':=by simpa using hj
    subst e
    exact fun _ _ _ c=>h c
  | succ j=>
    have:=t j o' (by simpa using hj)
    rw [show i + 1 + j=i + (j + 1) by omega] at this
    exact this
theorem go_regd {id:Nat} (S:(Nat → Bool) → (Nat → Value) → World → Prop) (K D:List Nat) (l:List (Option Value)) (hm:P.follows .mixedOrders=true) (hl:Loc K D S) (hd0:a0.defers=[]) (hz:a0.tmps.size=n) (hk:(chkBack ops && chkDst ops && chkIn ops n)=true)
    (h0:∀ (fl:Nat → Bool) (w1:World),(∀ i,i < ops.size → fl i=false) → Below w0.heap.size w0 w1 → w1.heap=w0.heap → S fl (slotOf a0) w1)
    (hop:HopD F m P ops Q n a0 S K D l 0 ops.toList) (hq:∀ a w,BehZ ops n a0 S l a w → Q .normal a w):(Code.region id ops true).wpIn F m P Q a0 w0:=by
  simp only [Bool.and_eq_true] at hk
  obtain ⟨⟨h1,h2⟩,h3⟩:=hk
  refine wpIn_regx S (TabO l) hm (back_of h1) (dst_of h2) (in_ofz h3 hz) (fun fl w1 hfl hw=>?_) ?_ ?_
  · subst hw
    exact h0 fl _ hfl (Below.drew (Below.refl _ _)) rfl
  · intro i o a w fl ho hS hfi clo hsz hrest hdone hund
    have:=hop i o (by rw [Array.getElem?_toList];exact ho) fl a w
    rw [Nat.zero_add] at this
    exact this ⟨hl,ho,hS,hfi,clo,hsz.trans hz,hrest,hdone,hund⟩
  · intro a w fl hd hs hrest hR hfl hS
    refine hq a w ⟨hd.trans hd0,hs.trans hz,fun j hj x hx=>(hrest j (not_of hj)).trans hx,fun i o d x ho hod hl=>?_,fl,hfl,hS⟩
    have:=hR i o ho
    unfold TabO at this
    rw [hl] at this
    unfold own at this
    rw [hod] at this
    exact this
end
theorem frame_of {ops:Array Oper} {a0 a:Act} (hsz:a.tmps.size=a0.tmps.size) (hd':a.defers=a0.defers) (rest:∀ j,(∀ (i:Nat) (o:Oper),ops[i]?=some o → o.dst ≠ some j) → a.tmps.getD j undef=a0.tmps.getD j undef):
    a=⟨putAll a0.tmps (outs ops fun d=>a.tmps.getD d undef),a0.defers⟩:=by
  have e:a.tmps=putAll a0.tmps (outs ops fun d=>a.tmps.getD d undef):=by
    apply Array.ext_getElem?
    intro j
    by_cases hj:j < a0.tmps.size
    · by_cases hd:∃ (i:Nat) (o:Oper),ops[i]?=some o ∧ o.dst=some j
      · obtain ⟨i,o,ho,hd⟩:=hd
        rw [putAll_mem (fun d=>a.tmps.getD d undef) _ _ j hj]
        · have hj':j < a.tmps.size:=by rw [hsz];exact hj
          rw [Array.getElem?_eq_getElem hj']
          simp [Array.getD_eq_getD_getElem?,Array.getElem?_eq_getElem hj']
        · intro p hp
          unfold outs at hp
          rw [List.mem_filterMap] at hp
          obtain ⟨i',_,he⟩:=hp
          rw [Option.map_eq_some_iff] at he
          obtain ⟨d,_,rfl⟩:=he
          rfl
        · refine ⟨(j,a.tmps.getD j undef),?_,rfl⟩
          unfold outs
          rw [List.mem_filterMap]
          exact ⟨i,List.mem_range.2 (Array.getElem?_eq_some_iff.1 ho).1,by rw [ho];simp [hd]⟩
      · have hr:=rest j (fun i o ho hd'=>hd ⟨i,o,ho,hd'⟩)
        rw [putAll_other]
        · have hj':j < a.tmps.size:=by rw [hsz];exact hj
          rw [Array.getElem?_eq_getElem hj',Array.getElem?_eq_getElem hj]
          simp only [Array.getD_eq_getD_getElem?,Array.getElem?_eq_getElem hj',Array.getElem?_eq_getElem hj,Option.getD_some] at hr
          rw [hr]
        · intro p hp e
          unfold outs at hp
          rw [List.mem_filterMap] at hp
          obtain ⟨i',_,he⟩:=hp
          rw [Option.map_eq_some_iff] at he
          obtain ⟨d,hd',rfl⟩:=he
          rw [Option.bind_eq_some_iff] at hd'
          obtain ⟨o,ho,hd'⟩:=hd'
          exact hd ⟨i',o,ho,by rw [hd',← e]⟩
    · rw [Array.getElem?_eq_none (by rw [hsz];omega),Array.getElem?_eq_none (by rw [putAll_size];omega)]
  have ea:a=⟨putAll a0.tmps (outs ops fun d=>a.tmps.getD d undef),a0.defers⟩:=by
    rw [← e,← hd']
  exact ea
theorem not_chk {ops:Array Oper} {j:Nat} (h:∀ (i:Nat) (o:Oper),ops[i]?=some o → o.dst ≠ some j):chkNot ops j=true:=by
  unfold chkNot
  rw [List.all_eq_true]
  intro i _
  cases ho:ops[i]? with
  | none=>rfl
  | some o=>
    cases hd:o.dst with
    | none=>simp [hd]
    | some d=>
      have:=h i o ho
      rw [hd] at this
      simp only [hd]
      simpa using this
theorem BehZ.frame {ops:Array Oper} {n:Nat} {a0:Act} {S:(Nat → Bool) → (Nat → Value) → World → Prop} {l:List (Option Value)} {a:Act} {w:World} (f:BehZ ops n a0 S l a w) (h0:a0.tmps.size=n) (hd:a0.defers=[]):a=⟨putAll a0.tmps (outs ops fun d=>a.tmps.getD d undef),[]⟩:=by
  have:=frame_of (ops:=ops) (a0:=a0) (a:=a) (f.z.trans h0.symm) (f.d.trans hd.symm) (fun j hj=>f.r j (not_chk hj) rfl)
  rw [hd] at this
  exact this
section
variable {P:Program} {ops:Array Oper} {Q:Exit → Act → World → Prop} {n:Nat} {a0:Act} {S:(Nat → Bool) → (Nat → Value) → World → Prop} {K D:List Nat} {l:List (Option Value)} {i:Nat} {o:Oper} {fl:Nat → Bool} {a:Act} {w w' w0:World}
def okK (K D:List Nat) (i d:Nat):Bool:=K.all (fun k=>!Nat.beq k i) && D.all (fun k=>!Nat.beq k d)
theorem Cz.vg (c:Cz ops n a0 S K D l i o fl a w) (hw:Region.wanted o (yielded ops a.tmps)=true) {v:Value} (hr:(execOp a.eval o).run P w=.ok (.value v) w) {d:Nat} (hd:o.dst=some d) (hlt:Nat.blt d n=true) (hk:okK K D i d=true) (ht:TabO l i v):wpOp P ops Q i (PostZ S l i o fl a) a w:=
  wpOp_valw c.ho hw hr ⟨v,rfl,by rw [own_some hd c.sz hlt];exact ht,by rw [hd];exact c.keep hk⟩
theorem Cz.ng (c:Cz ops n a0 S K D l i o fl a w) (hw:Region.wanted o (yielded ops a.tmps)=false) {d:Nat} (hd:o.dst=some d) (hlt:Nat.blt d n=true) (hk:okK K D i d=true) (ht:TabO l i undef):wpOp P ops Q i (PostZ S l i o fl a) a w:=
  wpOp_no c.ho hw ⟨undef,rfl,by rw [own_some hd c.sz hlt];exact ht,by rw [hd];exact c.keep hk⟩
def belS (w0:World):(Nat → Bool) → (Nat → Value) → World → Prop:=fun _ _ w=>Below w0.heap.size w0 w
theorem Cz.cB (c:Cz ops n a0 (belS w0) [] [] l i o fl a w) (hw:Region.wanted o (yielded ops a.tmps)=true) {f:FuncId} {xs:Array Operand} {ts:Array TypeId} {fn:Func} {args:Array Value} (ho:o.op=.call ⟨.value (.func f),xs,ts⟩) (ha:xs.map a.eval=args) (hf:P.funcs[f]?=some fn)
    (hn:okF fn=true) {d:Nat} (hd:o.dst=some d) (hlt:Nat.blt d n=true) {v:Value} (K':Below w0.heap.size w0 w → Calls P f args w fun e w'=>e=.returned v ∧ Below w.heap.size w w') (ht:TabO l i v):wpOp P ops Q i (PostZ (belS w0) l i o fl a) a w:=by
  unfold okF at hn
  simp only [Bool.and_eq_true,Bool.not_eq_true'] at hn
  refine wpOp_callw c.ho hw (exec_call ho rfl rfl ha hf hn.1 hn.2) ((K' c.S).mono ?_)
  rintro e w' ⟨rfl,b⟩
  exact ⟨v,rfl,_,rfl,by rw [own_some hd c.sz hlt];exact ht,by
    have h:Below w0.heap.size w0 w:=c.S
    exact h.trans (b.mono h.size)⟩
end
end Go.Proofs.YtbpehbeakhocnaaGreatDoor
namespace Go.Proofs.YtbpehbeakhocnaaGreatDoor.Irn
open Go Go.RowKit
open Mrm (Xi xC xL zX eqX mayX readsX writesX XOk heap_below)
open Flg (Fl fC zF mayC holF)
open Exe
set_option maxRecDepth 100000
theorem jmp_cases {op:Int} (h:jmpO op=true):op=28 ∨ op=29 ∨ op=30 ∨ op=31:=by
  unfold jmpO at h
  simpa using h
theorem comp_no (x:Xi) (W:World) (h:jmpO x.op=true):Calls Tryz.prog 56 #[.agg (xC x)] W fun e w'=>e=.returned (.bool (cmpX x)) ∧ Below W.heap.size W w':=by
  rw [show cmpX x=false by unfold cmpX;rw [h];rfl]
  have c:=jmp_cases h
  clear h
  obtain ⟨op,wd,dst,src,base,disp,imm,cc⟩:=x
  simp only at c
  rcases c with rfl | rfl | rfl | rfl
  all_goals
    go_enter Tryz.func56,Tryz.ntmps56
    go_wp2
    go_ret
    exact ⟨rfl,below_new (Below.refl _ _) _⟩
theorem comp_false (x:Xi) (W:World) (hX:XOk x) (hT:Tb W) (h:jmpO x.op=false) (hm:mayX x=false):Calls Tryz.prog 56 #[.agg (xC x)] W fun e w'=>e=.returned (.bool (cmpX x)) ∧ Below W.heap.size W w':=by
  have HE:=Lib.hid (show cmpX x=false by unfold cmpX;rw [h,hm];rfl)
  have MY:=Lib.hid (fun W (hT:Mrm.Tabs W)=>show Calls Tryz.prog 102 #[.agg (xC x)] W fun e w'=>e=.returned (.bool false) ∧ Below W.heap.size W w' by have q:=Mrm.may_n x hX W hT;rw [hm] at q;exact q)
  have mo:Tryz.prog.follows .mixedOrders=true:=by kernel_rfl
  have HT:=Lib.hid hT.t
  have b0:=below_new (Below.refl W.heap.size W) (.cells (xC x) 38)
  obtain ⟨⟨c0,c1⟩,c2,c3⟩:=(hT.below b0 (Nat.le_refl _)).cells
  have BB:=Lib.hid b0
  unfold jmpO at h
  simp only [Bool.or_eq_false_iff] at h
  obtain ⟨n28,n29,n30,n31⟩:=h
  have a1:bits .andNot .i64 (-1) 1=-2:=by decide +kernel
  have a2:bits .andNot .i64 (-2) 2=-4:=by decide +kernel
  have a3:bits .andNot .i64 (-4) 4=-8:=by decide +kernel
  have a4:bits .andNot .i64 (-8) 2048=-2056:=by decide +kernel
  clear hX hT hm b0
  have x0:=ix_0
  have x1:=ix_1
  have x2:=ix_2
  have x3:=ix_3
  go_enter Tryz.func56,Tryz.ntmps56
  go_wp2_with fail
  have hx:(W.alloc (.cells (xC x) 38)).heap[W.heap.size]?=some (.cells (xC x) 38 (0,0)):=heap_last _ _ _ rfl
  generalize W.alloc (.cells (xC x) 38)=wq at *
  refine wp_loop_rounds 5 ?_
  rw [rounds_succ]
  go_wp2_with fail
  rw [rounds_succ]
  go_wp2_with fail
  rw [rounds_succ]
  go_wp2_with fail
  rw [rounds_succ]
  go_wp2_with fail
  rw [rounds_succ]
  go_wp2_with fail
  refine go_regz (belS wq) [] [] [some (.agg (xC x)),some (.bool false),some (.bool false),some (undef),some (undef),some (undef),some (undef),some (undef),some (undef),some (undef),some (undef),some (.bool false),some (.bool false)] mo (fun fl fl' u u' w hK hD h=>h) rfl rfl (by kernel_rfl) (fun fl w1 hfl b _=>b) (
   zc (@fun fl ax wx cx=>cx.vg (wn rfl) (exec_loadR 38 _ rfl (W.heap.size) 0 (cx.rq 1 rfl) (heap_below cx.S hx (Nat.le_refl _)) (xL x) rfl _ Tryz.underlying38 rfl (by kernel_rfl)) rfl rfl rfl rfl) <|
   zc (@fun fl ax wx cx=>cx.cB (wn rfl) rfl (args1 (cx.u 0 rfl)) Tryz.func102 (by decide +kernel) rfl rfl (fun bx=>MY.out wx (HT.out.below (below_call BB.out bx) (Nat.le_refl _))) rfl) <|
   zc (@fun fl ax wx cx=>cx.vg (wn rfl) (ex_mv rfl (cx.u 0 rfl)) rfl rfl rfl rfl) <|
   zc (@fun fl ax wx cx=>cx.ng (cx.wo rfl rfl rfl rfl (cx.u 0 rfl) rfl) rfl rfl rfl rfl) <|
   zc (@fun fl ax wx cx=>cx.ng (cx.wo rfl rfl rfl rfl (cx.u 1 rfl) rfl) rfl rfl rfl rfl) <|
   zc (@fun fl ax wx cx=>cx.ng (cx.wo rfl rfl rfl rfl (cx.u 0 rfl) rfl) rfl rfl rfl rfl) <|
   zc (@fun fl ax wx cx=>cx.ng (cx.wo rfl rfl rfl rfl (cx.u 2 rfl) rfl) rfl rfl rfl rfl) <|
   zc (@fun fl ax wx cx=>cx.ng (cx.wo rfl rfl rfl rfl (cx.u 2 rfl) rfl) rfl rfl rfl rfl) <|
   zc (@fun fl ax wx cx=>cx.ng (cx.wo rfl rfl rfl rfl (cx.u 0 rfl) rfl) rfl rfl rfl rfl) <|
   zc (@fun fl ax wx cx=>cx.ng (cx.wo rfl rfl rfl rfl (cx.u 2 rfl) rfl) rfl rfl rfl rfl) <|
   zc (@fun fl ax wx cx=>cx.ng (cx.wo rfl rfl rfl rfl (cx.u 1 rfl) rfl) rfl rfl rfl rfl) <|
   zc (@fun fl ax wx cx=>cx.vg (wn rfl) (ex_pf rfl (cx.u 0 rfl) rfl) rfl rfl rfl rfl) <|
   zc (@fun fl ax wx cx=>cx.vg (wn rfl) (ex_as rfl (cx.u 0 rfl)) rfl rfl rfl rfl) <|
  zn) ?_
  intro ax1 wx1 fx1
  have Bx1:Below wq.heap.size wq wx1:=by obtain ⟨_,_,hs⟩:=fx1.s;exact hs
  have gx1_2:ax1.tmps.getD 2 undef=.bool false:=fx1.v 12 rfl rfl rfl
  have B3:=Lib.hid (below_call BB.out Bx1)
  clear hx Bx1
  rw [fx1.frame rfl rfl]
  clear fx1
  rw [show outs _ (fun d=>ax1.tmps.getD d undef)=[(22,ax1.tmps.getD 22 undef),(23,ax1.tmps.getD 23 undef),(24,ax1.tmps.getD 24 undef),(25,ax1.tmps.getD 25 undef),(26,ax1.tmps.getD 26 undef),(27,ax1.tmps.getD 27 undef),(28,ax1.tmps.getD 28 undef),(29,ax1.tmps.getD 29 undef),(30,ax1.tmps.getD 30 undef),(31,ax1.tmps.getD 31 undef),(32,ax1.tmps.getD 32 undef),(33,ax1.tmps.getD 33 undef),(2,ax1.tmps.getD 2 undef)] by kernel_rfl,gx1_2]
  simp only [putAll,List.setIfInBounds_toArray,List.set_cons_zero,List.set_cons_succ,Exit.then]
  generalize ax1.tmps.getD 22 undef=yx1_22
  generalize ax1.tmps.getD 23 undef=yx1_23
  generalize ax1.tmps.getD 24 undef=yx1_24
  generalize ax1.tmps.getD 25 undef=yx1_25
  generalize ax1.tmps.getD 26 undef=yx1_26
  generalize ax1.tmps.getD 27 undef=yx1_27
  generalize ax1.tmps.getD 28 undef=yx1_28
  generalize ax1.tmps.getD 29 undef=yx1_29
  generalize ax1.tmps.getD 30 undef=yx1_30
  generalize ax1.tmps.getD 31 undef=yx1_31
  generalize ax1.tmps.getD 32 undef=yx1_32
  generalize ax1.tmps.getD 33 undef=yx1_33
  clear gx1_2 ax1
  go_wp2_with fail
  go_ret
  exact ⟨retV (by rw [HE.out];rfl),B3.out⟩
theorem comp_true (x:Xi) (W:World) (hX:XOk x) (hT:Tb W) (h:jmpO x.op=false) (hm:mayX x=true):Calls Tryz.prog 56 #[.agg (xC x)] W fun e w'=>e=.returned (.bool (cmpX x)) ∧ Below W.heap.size W w':=by
  have HE:=Lib.hid (show cmpX x=(bits .and .i64 (bits .or .i64 (readsX x) (writesX x)) (-2056) == 0) by unfold cmpX;rw [h,hm];rfl)
  have MY:=Lib.hid (fun W (hT:Mrm.Tabs W)=>show Calls Tryz.prog 102 #[.agg (xC x)] W fun e w'=>e=.returned (.bool true) ∧ Below W.heap.size W w' by have q:=Mrm.may_n x hX W hT;rw [hm] at q;exact q)
  have RD:=Lib.hid (fun W (hT:Mrm.Tabs W)=>show Calls Tryz.prog 103 #[.agg (xC x)] W fun e w'=>e=.returned (.int .i64 (readsX x)) ∧ Below W.heap.size W w' by have q:=Mrm.creads_n x hX W hT;rw [hm] at q;exact q)
  have WR:=Lib.hid (fun W (hT:Mrm.Tabs W)=>show Calls Tryz.prog 104 #[.agg (xC x)] W fun e w'=>e=.returned (.int .i64 (writesX x)) ∧ Below W.heap.size W w' by have q:=Mrm.cwrites_n x hX W hT;rw [hm] at q;exact q)
  have mo:Tryz.prog.follows .mixedOrders=true:=by kernel_rfl
  have HT:=Lib.hid hT.t
  have b0:=below_new (Below.refl W.heap.size W) (.cells (xC x) 38)
  obtain ⟨⟨c0,c1⟩,c2,c3⟩:=(hT.below b0 (Nat.le_refl _)).cells
  have BB:=Lib.hid b0
  unfold jmpO at h
  simp only [Bool.or_eq_false_iff] at h
  obtain ⟨n28,n29,n30,n31⟩:=h
  have a1:bits .andNot .i64 (-1) 1=-2:=by decide +kernel
  have a2:bits .andNot .i64 (-2) 2=-4:=by decide +kernel
  have a3:bits .andNot .i64 (-4) 4=-8:=by decide +kernel
  have a4:bits .andNot .i64 (-8) 2048=-2056:=by decide +kernel
  clear hX hT hm b0
  have x0:=ix_0
  have x1:=ix_1
  have x2:=ix_2
  have x3:=ix_3
  go_enter Tryz.func56,Tryz.ntmps56
  go_wp2_with fail
  have hx:(W.alloc (.cells (xC x) 38)).heap[W.heap.size]?=some (.cells (xC x) 38 (0,0)):=heap_last _ _ _ rfl
  generalize W.alloc (.cells (xC x) 38)=wq at *
  refine wp_loop_rounds 5 ?_
  rw [rounds_succ]
  go_wp2_with fail
  rw [rounds_succ]
  go_wp2_with fail
  rw [rounds_succ]
  go_wp2_with fail
  rw [rounds_succ]
  go_wp2_with fail
  rw [rounds_succ]
  go_wp2_with fail
  refine go_regz (belS wq) [] [] [some (.agg (xC x)),some (.bool true),some (.bool true),some (.agg (xC x)),some (.int .i64 (readsX x)),some (.agg (xC x)),some (.int .i64 (writesX x)),some (.int .i64 (bits .or .i64 (readsX x) (writesX x))),some (.int .i64 (-2056)),some (.int .i64 (bits .and .i64 (bits .or .i64 (readsX x) (writesX x)) (-2056))),some (.bool ((bits .and .i64 (bits .or .i64 (readsX x) (writesX x)) (-2056)) == 0)),some (.bool ((bits .and .i64 (bits .or .i64 (readsX x) (writesX x)) (-2056)) == 0)),some (.bool ((bits .and .i64 (bits .or .i64 (readsX x) (writesX x)) (-2056)) == 0))] mo (fun fl fl' u u' w hK hD h=>h) rfl rfl (by kernel_rfl) (fun fl w1 hfl b _=>b) (
   zc (@fun fl ax wx cx=>cx.vg (wn rfl) (exec_loadR 38 _ rfl (W.heap.size) 0 (cx.rq 1 rfl) (heap_below cx.S hx (Nat.le_refl _)) (xL x) rfl _ Tryz.underlying38 rfl (by kernel_rfl)) rfl rfl rfl rfl) <|
   zc (@fun fl ax wx cx=>cx.cB (wn rfl) rfl (args1 (cx.u 0 rfl)) Tryz.func102 (by decide +kernel) rfl rfl (fun bx=>MY.out wx (HT.out.below (below_call BB.out bx) (Nat.le_refl _))) rfl) <|
   zc (@fun fl ax wx cx=>cx.vg (wn rfl) (ex_mv rfl (cx.u 0 rfl)) rfl rfl rfl rfl) <|
   zc (@fun fl ax wx cx=>cx.vg (cx.wy rfl rfl rfl rfl (cx.u 0 rfl)) (exec_loadR 38 _ rfl (W.heap.size) 0 (cx.rq 1 rfl) (heap_below cx.S hx (Nat.le_refl _)) (xL x) rfl _ Tryz.underlying38 rfl (by kernel_rfl)) rfl rfl rfl rfl) <|
   zc (@fun fl ax wx cx=>cx.cB (cx.wy rfl rfl rfl rfl (cx.u 1 rfl)) rfl (args1 (cx.u 0 rfl)) Tryz.func103 (by decide +kernel) rfl rfl (fun bx=>RD.out wx (HT.out.below (below_call BB.out bx) (Nat.le_refl _))) rfl) <|
   zc (@fun fl ax wx cx=>cx.vg (cx.wy rfl rfl rfl rfl (cx.u 0 rfl)) (exec_loadR 38 _ rfl (W.heap.size) 0 (cx.rq 1 rfl) (heap_below cx.S hx (Nat.le_refl _)) (xL x) rfl _ Tryz.underlying38 rfl (by kernel_rfl)) rfl rfl rfl rfl) <|
   zc (@fun fl ax wx cx=>cx.cB (cx.wy rfl rfl rfl rfl (cx.u 2 rfl)) rfl (args1 (cx.u 0 rfl)) Tryz.func104 (by decide +kernel) rfl rfl (fun bx=>WR.out wx (HT.out.below (below_call BB.out bx) (Nat.le_refl _))) rfl) <|
   zc (@fun fl ax wx cx=>cx.vg (cx.wy rfl rfl rfl rfl (cx.u 2 rfl)) (ex_or (x:=.tmp 26) (y:=.tmp 28) rfl (cx.u 0 rfl) (cx.u 1 rfl)) rfl rfl rfl rfl) <|
   zc (@fun fl ax wx cx=>cx.vg (cx.wy rfl rfl rfl rfl (cx.u 0 rfl)) (ex_mv rfl (cx.rq 3 rfl)) rfl rfl rfl rfl) <|
   zc (@fun fl ax wx cx=>cx.vg (cx.wy rfl rfl rfl rfl (cx.u 2 rfl)) (ex_and (x:=.tmp 29) (y:=.tmp 30) rfl (cx.u 0 rfl) (cx.u 1 rfl)) rfl rfl rfl rfl) <|
   zc (@fun fl ax wx cx=>cx.vg (cx.wy rfl rfl rfl rfl (cx.u 1 rfl)) (ex_eq (x:=.tmp 31) rfl (cx.u 0 rfl) rfl) rfl rfl rfl rfl) <|
   zc (@fun fl ax wx cx=>cx.vg (wn rfl) (ex_pt rfl (cx.u 0 rfl) (cx.u 1 rfl)) rfl rfl rfl rfl) <|
   zc (@fun fl ax wx cx=>cx.vg (wn rfl) (ex_as rfl (cx.u 0 rfl)) rfl rfl rfl rfl) <|
  zn) ?_
  intro ax2 wx2 fx2
  have Bx2:Below wq.heap.size wq wx2:=by obtain ⟨_,_,hs⟩:=fx2.s;exact hs
  have gx2_2:ax2.tmps.getD 2 undef=.bool ((bits .and .i64 (bits .or .i64 (readsX x) (writesX x)) (-2056)) == 0):=fx2.v 12 rfl rfl rfl
  have B3:=Lib.hid (below_call BB.out Bx2)
  clear hx Bx2
  rw [fx2.frame rfl rfl]
  clear fx2
  rw [show outs _ (fun d=>ax2.tmps.getD d undef)=[(22,ax2.tmps.getD 22 undef),(23,ax2.tmps.getD 23 undef),(24,ax2.tmps.getD 24 undef),(25,ax2.tmps.getD 25 undef),(26,ax2.tmps.getD 26 undef),(27,ax2.tmps.getD 27 undef),(28,ax2.tmps.getD 28 undef),(29,ax2.tmps.getD 29 undef),(30,ax2.tmps.getD 30 undef),(31,ax2.tmps.getD 31 undef),(32,ax2.tmps.getD 32 undef),(33,ax2.tmps.getD 33 undef),(2,ax2.tmps.getD 2 undef)] by kernel_rfl,gx2_2]
  simp only [putAll,List.setIfInBounds_toArray,List.set_cons_zero,List.set_cons_succ,Exit.then]
  generalize ax2.tmps.getD 22 undef=yx2_22
  generalize ax2.tmps.getD 23 undef=yx2_23
  generalize ax2.tmps.getD 24 undef=yx2_24
  generalize ax2.tmps.getD 25 undef=yx2_25
  generalize ax2.tmps.getD 26 undef=yx2_26
  generalize ax2.tmps.getD 27 undef=yx2_27
  generalize ax2.tmps.getD 28 undef=yx2_28
  generalize ax2.tmps.getD 29 undef=yx2_29
  generalize ax2.tmps.getD 30 undef=yx2_30
  generalize ax2.tmps.getD 31 undef=yx2_31
  generalize ax2.tmps.getD 32 undef=yx2_32
  generalize ax2.tmps.getD 33 undef=yx2_33
  clear gx2_2 ax2
  go_wp2_with fail
  go_ret
  exact ⟨retV (by rw [HE.out];rfl),B3.out⟩
theorem computes_n (x:Xi) (W:World) (hX:XOk x) (hT:Tb W):Calls Tryz.prog 56 #[.agg (xC x)] W fun e w'=>e=.returned (.bool (cmpX x)) ∧ Below W.heap.size W w':=by
  cases h:jmpO x.op
  · cases hm:mayX x
    · exact comp_false x W hX hT h hm
    · exact comp_true x W hX hT h hm
  · exact comp_no x W h
end Go.Proofs.YtbpehbeakhocnaaGreatDoor.Irn
