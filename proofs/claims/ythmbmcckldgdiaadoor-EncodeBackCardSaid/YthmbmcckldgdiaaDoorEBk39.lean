import Derived.Test.YthmbmcckldgdiaaDoorEBk13
import Derived.OrdersIn
import Derived.RangeFuncSeq
set_option linter.unusedVariables false
set_option linter.unusedSimpArgs false
set_option linter.unnecessarySimpa false
namespace Go.Proofs.YthmbmcckldgdiaaDoor
open Go Go.RowKit
set_option linter.unusedVariables false
set_option linter.unusedSimpArgs false
section
variable {F:Fence} {n m:Nat} {P:Program} {ops:Array Oper} {Q:Exit → Act → World → Prop} {i:Nat} {o:Oper} {K:Act → World → Prop} {a:Act} {w w':World}
theorem wpOpIn_v (hF:∀ f,F.fn f) (ho:ops[i]?=some o) (hw:Region.wanted o (yielded ops a.tmps)=true) (hd:∀ c,o.op ≠ .defer c) {v:Value} (hr:(execOp a.eval o).run P w=.ok (.value v) w') (h:K (a.put o.dst v) w'):wpOpIn F n P ops Q i K a w:=by
  unfold wpOpIn
  rw [ho]
  simp only [hw,if_true]
  refine ⟨fun f _=>hF f,?_⟩
  rw [Oper.semAt_eq _ _ _ hd,hr]
  exact h
theorem wpOpIn_call (hF:∀ f,F.fn f) (hn:F.depth=none) (ho:ops[i]?=some o) (hw:Region.wanted o (yielded ops a.tmps)=true) (hd:∀ c,o.op ≠ .defer c) {f:FuncId} {args:Array Value} (hr:(execOp a.eval o).run P w=.ok (.enter f args) w)
    (h:CallsIn F (n - 1) P f args w fun e w'=>∃ v,e=.returned v ∧ K (a.put o.dst v) w'):wpOpIn F n P ops Q i K a w:=by
  unfold wpOpIn
  rw [ho]
  simp only [hw,if_true]
  refine ⟨fun f _=>hF f,?_⟩
  rw [Oper.semAt_eq _ _ _ hd,hr]
  refine ⟨fun h=>(by rw [hn] at h;cases h),CallsIn.mono h ?_⟩
  rintro e w2 ⟨v,rfl,hk⟩
  exact hk
theorem wpOpIn_yield (hF:∀ f,F.fn f) (hn:F.depth=none) (ho:ops[i]?=some o) (hw:Region.wanted o (yielded ops a.tmps)=true) {l:Nat} {x y:Operand} {ts:Array TypeId} {v:Value} (hop:o.op=.call ⟨.value x,#[y],ts⟩) (hx:a.eval x=.func (.yield l) #[] #[]) (hy:a.eval y=v)
    (h:YieldAt F (n - 1) P l #[v] w fun e w'=>∃ v,e=.returned v ∧ K (a.put o.dst v) w'):wpOpIn F n P ops Q i K a w:=by
  unfold wpOpIn
  rw [ho]
  simp only [hw,if_true]
  refine ⟨fun f _=>hF f,?_⟩
  obtain ⟨fn,tmps,assign,body,h1,h2⟩:=h
  have hr:(execOp a.eval o).run P w=.ok (.round l fn tmps assign body) w:=by
    simp only [execOp,hop,List.map_toArray,List.map_cons,List.map_nil,resolve,hx,hy,Deferred.ofValue,invoke,callFunc,Sem.run_bind,Sem.run_pure,Result.andThen_ok]
    simpa using h1
  rw [Oper.semAt_eq _ _ _ (fun c e=>by rw [hop] at e;cases e),hr]
  refine ⟨fun h=>(by rw [hn] at h;cases h),RoundIn.mono h2 ?_⟩
  rintro e w2 ⟨v,rfl,hk⟩
  exact hk
end
section law
variable {F:Fence} {m:Nat} {P:Program} {ops:Array Oper} {Q:Exit → Act → World → Prop} {n:Nat} {a0:Act} {w0:World} {S:(Nat → Bool) → (Nat → Value) → World → Prop} {K D:List Nat} {l:List (Option Value)}
def HopI (F:Fence) (m:Nat) (P:Program) (ops:Array Oper) (Q:Exit → Act → World → Prop) (n:Nat) (a0:Act) (S:(Nat → Bool) → (Nat → Value) → World → Prop) (K D:List Nat) (l:List (Option Value)) (i:Nat) (L:List Oper):Prop:=
  ∀ j o,L[j]?=some o → ∀ fl a w,Cz ops n a0 S K D l (i + j) o fl a w → (∀ q,i + j ≤ q → q < ops.size → fl q=false) → wpOpIn F m P ops Q (i + j) (PostZ S l (i + j) o fl a) a w
theorem xn {i:Nat}:HopI F m P ops Q n a0 S K D l i []:=fun j o h=>by simp at h
theorem xc {i:Nat} {o:Oper} {L:List Oper} (h:∀ {fl a w},Cz ops n a0 S K D l i o fl a w → (∀ q,i ≤ q → q < ops.size → fl q=false) → wpOpIn F m P ops Q i (PostZ S l i o fl a) a w) (t:HopI F m P ops Q n a0 S K D l (i + 1) L):HopI F m P ops Q n a0 S K D l i (o :: L):=fun j o' hj=>by
  cases j with
  | zero=>
    have e:o=o':=by simpa using hj
    subst e
    exact fun _ _ _ c s=>h c s
  | succ j=>
    have:=t j o' (by simpa using hj)
    rw [show i + 1 + j=i + (j + 1) by omega] at this
    exact this
structure InvI (ops:Array Oper) (n:Nat) (a0:Act) (S:(Nat → Bool) → (Nat → Value) → World → Prop) (l:List (Option Value)) (k:Nat) (a:Act) (w:World):Prop where
  s:S (fun i=>decide (i < k) || decide (ops.size ≤ i)) (slotOf a) w
  defers:a.defers=a0.defers
  size:a.tmps.size=n
  rest:∀ j,(∀ (i:Nat) (o:Oper),ops[i]?=some o → o.dst ≠ some j) → a.tmps.getD j undef=a0.tmps.getD j undef
  done:∀ (i:Nat) (o:Oper),ops[i]?=some o → i < k → TabO l i (own o a)
  undone:∀ (i:Nat) (o:Oper) (d:Nat),ops[i]?=some o → o.dst=some d → k ≤ i → a.tmps.getD d undef=a0.tmps.getD d undef
theorem go_regi {id:Nat} (S:(Nat → Bool) → (Nat → Value) → World → Prop) (K D:List Nat) (l:List (Option Value)) (hl:Loc K D S) (hd0:a0.defers=[]) (hz:a0.tmps.size=n) (hk:(chkBack ops && chkDst ops && chkIn ops n)=true)
    (h0:∀ (fl:Nat → Bool),(∀ i,i < ops.size → fl i=false) → S fl (slotOf a0) w0)
    (hop:HopI F m P ops Q n a0 S K D l 0 ops.toList) (hq:∀ a w,BehZ ops n a0 S l a w → Q .normal a w):(Code.region id ops false).wpIn F m P Q a0 w0:=by
  simp only [Bool.and_eq_true] at hk
  obtain ⟨⟨h1,h2⟩,h3⟩:=hk
  have hback:=back_of h1
  have hdst:=dst_of h2
  have hin:=in_of h3
  refine wpIn_region ?_
  have key:∀ (j k:Nat) a w,k + j=ops.size → InvI ops n a0 S l k a w → wpOpsIn F m P ops Q (List.range' k j) a w:=by
    intro j
    induction j with
    | zero=>
      intro k a w hk hI
      refine hq a w ⟨hI.defers.trans hd0,hI.size,fun j hj x hx=>(hI.rest j (not_of hj)).trans hx,fun i o d x ho hod hlx=>?_,_,fun i hi=>by simp;omega,hI.s⟩
      have:=hI.done i o ho (by have:=(Array.getElem?_eq_some_iff.1 ho).1;omega)
      unfold TabO at this
      rw [hlx] at this
      unfold own at this
      rw [hod] at this
      exact this
    | succ j ih=>
      intro k a w hk hI
      rw [List.range'_succ,wpOpsIn_cons]
      have hkl:k < ops.size:=by omega
      have ho:ops[k]?=some ops[k]:=Array.getElem?_eq_getElem hkl
      generalize ops[k]=o at ho
      have hc:Cz ops n a0 S K D l k o (fun i=>decide (i < k) || decide (ops.size ≤ i)) a w:=by
        refine ⟨hl,ho,hI.s,by simp;omega,fun i oi hoi hf e he hb=>?_,hI.size,hI.rest,fun p e hp hb=>?_,fun i oi d hoi hdi hf=>hI.undone i oi d hoi hdi ?_⟩
        · have hi:=(Array.getElem?_eq_some_iff.1 hoi).1
          have hlt:i < k:=by simp at hf;omega
          have:=hback i oi hoi e he hb
          simp;omega
        · have hb':=hback k o ho e (Array.mem_of_getElem? hp) hb
          exact ⟨by simp;omega,fun o' ho'=>hI.done e.on o' ho' hb'⟩
        · have hi:=(Array.getElem?_eq_some_iff.1 hoi).1
          simp at hf;omega
      have hh:=hop k o (by rw [Array.getElem?_toList];exact ho) _ a w (by rw [Nat.zero_add];exact hc) (fun q hq hlt=>by simp;omega)
      rw [Nat.zero_add] at hh
      refine wpOpIn_mono ?_ hh
      rintro a' w' ⟨v,rfl,hR,hS⟩
      refine ih (k + 1) _ _ (by omega) ?_
      have hS':S (fun i=>decide (i < k + 1) || decide (ops.size ≤ i)) (slotOf (a.put o.dst v)) w':=by
        have e:(fun i=>decide (i < k + 1) || decide (ops.size ≤ i))=upd (fun i=>decide (i < k) || decide (ops.size ≤ i)) k:=by
          funext i
          unfold upd
          by_cases h:i=k
          · rw [if_pos h];simp;omega
          · rw [if_neg h]
            congr 1
            exact decide_eq_decide.2 (by omega)
        rw [e];exact hS
      cases hod:o.dst with
      | none=>
        rw [hod] at hS' hR
        refine ⟨hS',hI.defers,hI.size,hI.rest,fun i oi hoi hlt=>?_,fun i oi d hoi hdi hle=>hI.undone i oi d hoi hdi (by omega)⟩
        by_cases hik:i=k
        · subst hik
          rw [ho] at hoi;cases hoi
          exact hR
        · exact hI.done i oi hoi (by omega)
      | some d0=>
        have hd0':d0 < a.tmps.size:=by rw [hI.size];exact hin k o d0 ho hod
        have hput:=put_getD a d0 v hd0'
        rw [hod] at hS' hR
        refine ⟨hS',hI.defers,by show (a.tmps.setIfInBounds d0 v).size=_;simp [hI.size],fun i hi=>?_,fun i oi hoi hlt=>?_,fun i oi d hoi hdi hle=>?_⟩
        · rw [hput i,if_neg (fun e=>hi k o ho (by rw [hod,e]))]
          exact hI.rest i hi
        · by_cases hik:i=k
          · subst hik
            rw [ho] at hoi;cases hoi
            exact hR
          · have hv:own oi (a.put (some d0) v)=own oi a:=by
              unfold own
              cases hdj:oi.dst with
              | none=>rfl
              | some d=>
                show (a.put (some d0) v).tmps.getD d undef=a.tmps.getD d undef
                rw [hput d,if_neg (fun e=>hik (hdst i k oi o d hoi ho hdj (by rw [hod,e])))]
            rw [hv]
            exact hI.done i oi hoi (by omega)
        · rw [hput d,if_neg (fun e=>by have:=hdst i k oi o d hoi ho hdi (by rw [hod,e]);omega)]
          exact hI.undone i oi d hoi hdi (by omega)
  have:=key ops.size 0 a0 w0 (by omega) ⟨h0 _ (fun i hi=>by simp;omega),rfl,hz,fun _ _=>rfl,fun i o ho h=>absurd h (by omega),fun _ _ _ _ _ _=>rfl⟩
  rwa [← List.range_eq_range'] at this
end law
section
variable {F:Fence} {m:Nat} {P:Program} {ops:Array Oper} {Q:Exit → Act → World → Prop} {n:Nat} {a0:Act} {S:(Nat → Bool) → (Nat → Value) → World → Prop} {K D:List Nat} {l:List (Option Value)} {i:Nat} {o:Oper} {fl:Nat → Bool} {a:Act} {w w':World}
def noDefer (o:Oper):Bool:=match o.op with | .defer _=>false | _=>true
theorem noDefer_of (h:noDefer o=true):∀ c,o.op ≠ .defer c:=fun c e=>by unfold noDefer at h;rw [e] at h;cases h
theorem Cz.iv (c:Cz ops n a0 S K D l i o fl a w) (hF:∀ f,F.fn f) {v:Value} (hr:(execOp a.eval o).run P w=.ok (.value v) w) (hk:okZ o n i K D=true) (hd:noDefer o=true) (ht:TabO l i v):wpOpIn F m P ops Q i (PostZ S l i o fl a) a w:=by
  unfold okZ at hk
  cases hg:o.guard with
  | some g=>rw [hg] at hk;cases hk
  | none=>
    cases hod:o.dst with
    | none=>rw [hg,hod] at hk;cases hk
    | some d=>
      rw [hg,hod] at hk
      simp only at hk
      rw [Bool.and_eq_true] at hk
      exact wpOpIn_v hF c.ho (wn hg) (noDefer_of hd) hr ⟨v,rfl,by rw [own_some hod c.sz hk.1];exact ht,by rw [hod];exact c.keep hk.2⟩
theorem Cz.ival (c:Cz ops n a0 S K D l i o fl a w) (hF:∀ f,F.fn f) (hw:Region.wanted o (yielded ops a.tmps)=true) {v:Value} (hr:(execOp a.eval o).run P w=.ok (.value v) w) {d:Nat} (hod:o.dst=some d) (hlt:Nat.blt d n=true) (hk:(K.all (fun k=>!Nat.beq k i) && D.all (fun k=>!Nat.beq k d))=true) (hd:noDefer o=true) (ht:TabO l i v):wpOpIn F m P ops Q i (PostZ S l i o fl a) a w:=
  wpOpIn_v hF c.ho hw (noDefer_of hd) hr ⟨v,rfl,by rw [own_some hod c.sz hlt];exact ht,by rw [hod];exact c.keep hk⟩
theorem Cz.wy (c:Cz ops n a0 S K D l i o fl a w) {j:Nat} {want:Bool} {oj:Oper} {d:Nat} (hg:o.guard=some (j,want)) (hj:ops[j]?=some oj) (hd:oj.dst=some d) (hlt:Nat.blt d n=true) (h:a.tmps.getD d undef=.bool want):Region.wanted o (yielded ops a.tmps)=true:=
  wanted_yes j d want h (by rw [c.sz];exact Nat.le_of_ble_eq_true hlt) hg hj hd (by simp)
end
end Go.Proofs.YthmbmcckldgdiaaDoor
