import Derived.Test.YthmbmcckldgdiaaDoorERw35
set_option linter.unusedVariables false
set_option linter.unusedSimpArgs false
set_option linter.unnecessarySimpa false
namespace Go.Proofs.YthmbmcckldgdiaaDoor.Mdl
open Go.RowKit Go.Shelf
set_option linter.unusedVariables false
set_option maxRecDepth 100000
section
variable {P:Program} {τ:TypeId → Bool} {κ:Nat → TypeId → Bool} {β n:Nat} {α:Type}
def isK (κ:Nat → TypeId → Bool) (k:Nat):Obj → Bool
  | .cells _ t _=>κ k t
  | _=>false
theorem isK_other {k:Nat} {o:Obj} (h:o.isCells=false):isK κ k o=false:=by
  cases o <;> first | rfl | (simp [Obj.isCells] at h)
structure KeepK (κ:Nat → TypeId → Bool) (A B:World):Prop where
  size:A.heap.size ≤ B.heap.size
  same:∀ (k:Nat) (o:Obj),A.heap[k]?=some o → isK κ k o=true → B.heap[k]?=some o
theorem KeepK.refl (A:World):KeepK κ A A:=⟨Nat.le_refl _,fun _ _ h _=>h⟩
theorem KeepK.trans {A B C:World} (h:KeepK κ A B) (k:KeepK κ B C):KeepK κ A C:=⟨Nat.le_trans h.size k.size,fun i o hi ho=>k.same i o (h.same i o hi ho) ho⟩
theorem KeepK.putObj {W:World} {l:Nat} {o:Obj} (o':Obj) (hl:W.heap[l]?=some o) (ho:o.isCells=false):KeepK κ W (W.putObj l o'):=by
  have g:=grownBy_putObj' W l o'
  refine ⟨g.size,fun k x hk hx=>?_⟩
  by_cases e:k=l
  · subst e
    rw [hl] at hk
    injection hk with hk
    subst hk
    rw [isK_other ho] at hx;cases hx
  · exact (g.block k (Array.getElem?_eq_some_iff.1 hk).1 (fun h=>e (by injection h))).trans hk
def leftK (κ:Nat → TypeId → Bool) (B:Nat) (I:List α → World → Prop) (Ix:Code → List α → World → Prop) (xs:List α) (W:World):Exit → Act → World → Prop
  | .normal,_,W'=>KeepsFrom B W W' ∧ KeepK κ W W' ∧ I xs W'
  | .ret,_,W'=>KeepsFrom B W W' ∧ KeepK κ W W' ∧ Ix .ret xs W'
  | .exit id,_,W'=>KeepsFrom B W W' ∧ KeepK κ W W' ∧ Ix (.exit id) xs W'
  | .goto t,_,W'=>KeepsFrom B W W' ∧ KeepK κ W W' ∧ Ix (.goto t) xs W'
  | _,_,_=>False
def SeqK (τ:TypeId → Bool) (κ:Nat → TypeId → Bool) (β n:Nat) (P:Program) (g:Nat) (pa lb:Array Value) (encs:α → Array Value) (Y:List α → α → World → Prop) (S Sp:List α → World → Prop) (w:World):Prop:=
  ∀ (l:Nat) (J Jx:List α → World → Prop) (W:World),Below w.heap.size w W → AbG τ β W.heap.size J → AbG τ β W.heap.size Jx →
    (∀ pre x W1,J pre W1 → Y pre x W1 → YieldAt Fence.wide (n - 1) P l (encs x) W1 fun e W'=>
      (e=.returned (.bool true) ∧ J (pre ++ [x]) W' ∧ KeepK κ W1 W' ∧ KeepsFrom W.heap.size W1 W') ∨ (e=.returned (.bool false) ∧ Jx (pre ++ [x]) W' ∧ KeepK κ W1 W' ∧ KeepsFrom W.heap.size W1 W')) →
    J [] W →
    CallsIn Fence.wide n P g (pa ++ #[.func (.yield l) #[] #[]] ++ lb) W fun e W'=>(∃ v,e=.returned v) ∧ ((∃ xs,S xs W' ∧ J xs W') ∨ (∃ pre,Sp pre W' ∧ Jx pre W'))
theorem round_K {l D B m γ:Nat} {fn:FuncId} {tmps:Array Value} {ps:Array Tmp} {assign body:Code} {dd:Nat} {encs:α → Array Value} {Y:List α → α → World → Prop} {I:List α → World → Prop} {Ix:Code → List α → World → Prop} {Ax:List α → α → Act → World → Prop}
    (hlγ:l < γ) (hBγ:B ≤ γ) (hlD:l ≠ D) (hlB:B ≤ l) (hDB:B ≤ D) (hI:OwnFrom B I) (hY:∀ x,OwnFrom B (fun pre=>Y pre x)) (hIx:∀ c,OwnFrom B (Ix c)) (hps:∀ x,(encs x).size=ps.size)
    (hAx:∀ pre x a',OwnFrom B (fun (_:Unit) W=>Ax pre x a' W))
    (hassign:∀ (pre:List α) (x:α) (W:World) (K:Act → World → Prop),I pre W → Y pre x W → (∀ a' W',KeepsFrom B W W' → KeepK κ W W' → Ax pre x a' W' → K a' W') → assign.wpIn (Fence.wide.inRound l) m P (Exit.then K (fun _ _ _=>False)) { tmps:=(ps.zip (encs x)).foldl (fun t (p,v)=>t.setIfInBounds p v) tmps,defers:=[] } W)
    (hbody:∀ (pre:List α) (x:α) (a':Act) (W:World),Ax pre x a' W → body.wpIn (Fence.wide.inRound l) m P (leftK κ B I Ix (pre ++ [x]) W) a' W)
    (pre:List α) (x:α) (W:World) (hi:I pre W) (hy0:Y pre x W) (hk:Book l D { state:=.ready,pending:=none,fn,tmps,params:=ps,assign,body,defers:=dd } W):
    YieldAt Fence.wide m P l (encs x) W fun e W'=>
      (e=.returned (.bool true) ∧ (I (pre ++ [x]) W' ∧ Book l D { state:=.ready,pending:=none,fn,tmps,params:=ps,assign,body,defers:=dd } W') ∧ KeepK κ W W' ∧ KeepsFrom γ W W') ∨
      (e=.returned (.bool false) ∧ (∃ c,Ix c (pre ++ [x]) W' ∧ Book l D { state:=.done,pending:=some c,fn,tmps,params:=ps,assign,body,defers:=dd } W') ∧ KeepK κ W W' ∧ KeepsFrom γ W W'):=by
  obtain ⟨rec,hrec⟩:∃ rec:LoopState → Option Code → Loop,rec=fun st pe=>{ state:=st,pending:=pe,fn,tmps,params:=ps,assign,body,defers:=dd }:=⟨_,rfl⟩
  have hk':Book l D (rec .ready none) W:=by rw [hrec];exact hk
  have hy:=run_yield (P:=P) (args:=encs x) hk.loop (hps x)
  refine ⟨fn,_,assign,body,hy,roundIn_of_wpIn trivial (hassign pre x W _ hi hy0 (fun a' Wa ka ta ax=>?_))⟩
  have hka:Book l D (rec .ready none) Wa:=hk'.keeps ka hlB hDB
  have hka':Book l D { state:=.ready,pending:=none,fn,tmps,params:=ps,assign,body,defers:=dd } Wa:=by rw [hrec] at hka;exact hka
  refine ⟨_,run_beginRound hka'.loop rfl,?_⟩
  have b2:Book l D (rec .busy none) (Wa.putObj l (.loop (rec .busy none))):=hka.put hlD _
  have w2:KeepK κ W (Wa.putObj l (.loop (rec .busy none))):=ta.trans (KeepK.putObj _ hka.loop rfl)
  have i2:Ax pre x a' (Wa.putObj l (.loop (rec .busy none))):=(hAx pre x a').putObj (s:=()) _ ax hlB hka.loop rfl
  have e2:Wa.putObj l (.loop (rec .busy none))=Wa.putObj l (.loop { state:=.busy,pending:=none,fn,tmps,params:=ps,assign,body,defers:=dd }):=by rw [hrec]
  rw [← e2]
  refine wpIn_mono (hbody pre x a' _ i2) ?_
  clear e2
  have fin:∀ (jump:Option Code) (W3:World),KeepsFrom B (Wa.putObj l (.loop (rec .busy none))) W3 → KeepK κ (Wa.putObj l (.loop (rec .busy none))) W3 →
      (Instr.endRound l jump).run P W3=.ok (.bool jump.isNone) (W3.putObj l (.loop (rec (if jump.isNone then .ready else .done) jump))) ∧ Book l D (rec .busy none) W3 ∧
      Book l D (rec (if jump.isNone then .ready else .done) jump) (W3.putObj l (.loop (rec (if jump.isNone then .ready else .done) jump))) ∧ KeepK κ W (W3.putObj l (.loop (rec (if jump.isNone then .ready else .done) jump))) ∧ KeepsFrom γ W (W3.putObj l (.loop (rec (if jump.isNone then .ready else .done) jump))):=by
    intro jump W3 hk3 ht3
    have b3:=b2.keeps hk3 hlB hDB
    have r3:=run_endRound (P:=P) jump b3.loop
    have g3:KeepsFrom γ W (W3.putObj l (.loop (rec (if jump.isNone then .ready else .done) jump))):=⟨by
      have h1:=hk3.size
      have h2:(Wa.putObj l (.loop (rec .busy none))).heap.size=Wa.heap.size:=by simp [World.putObj]
      have h4:=ka.size
      have h3:(W3.putObj l (.loop (rec (if jump.isNone then .ready else .done) jump))).heap.size=W3.heap.size:=by simp [World.putObj]
      omega,fun k o hk h ho=>(World.putObj_heap_other (by omega)).trans (hk3.same k o (by omega) ((World.putObj_heap_other (by omega)).trans (ka.same k o (by omega) h ho)) ho)⟩
    refine ⟨?_,b3,b3.put hlD _,w2.trans (ht3.trans (KeepK.putObj _ b3.loop rfl)),g3⟩
    rw [hrec] at r3 ⊢
    exact r3
  rintro e a3 W3 hp
  cases e with
  | normal=>
    obtain ⟨hk3,ht3,hi3⟩:=hp
    obtain ⟨r3,b3,b4,t4,g4⟩:=fin none W3 hk3 ht3
    refine ⟨_,_,r3,.inl ⟨rfl,⟨hI.putObj _ hi3 hlB b3.loop rfl,?_⟩,t4,g4⟩⟩
    rw [hrec] at b4 ⊢
    exact b4
  | ret=>
    obtain ⟨hk3,ht3,hi3⟩:=hp
    obtain ⟨r3,b3,b4,t4,g4⟩:=fin (some .ret) W3 hk3 ht3
    refine ⟨_,_,r3,.inr ⟨rfl,⟨.ret,(hIx _).putObj _ hi3 hlB b3.loop rfl,?_⟩,t4,g4⟩⟩
    rw [hrec] at b4 ⊢
    exact b4
  | exit id=>
    obtain ⟨hk3,ht3,hi3⟩:=hp
    obtain ⟨r3,b3,b4,t4,g4⟩:=fin (some (.exit id)) W3 hk3 ht3
    refine ⟨_,_,r3,.inr ⟨rfl,⟨.exit id,(hIx _).putObj _ hi3 hlB b3.loop rfl,?_⟩,t4,g4⟩⟩
    rw [hrec] at b4 ⊢
    exact b4
  | goto t=>
    obtain ⟨hk3,ht3,hi3⟩:=hp
    obtain ⟨r3,b3,b4,t4,g4⟩:=fin (some (.goto t)) W3 hk3 ht3
    refine ⟨_,_,r3,.inr ⟨rfl,⟨.goto t,(hIx _).putObj _ hi3 hlB b3.loop rfl,?_⟩,t4,g4⟩⟩
    rw [hrec] at b4 ⊢
    exact b4
  | panic ch=>exact hp.elim
  | outgrown=>exact hp.elim
theorem range_K {g:Operand} {ps:Array Tmp} {assign body:Code} {Q:Exit → Act → World → Prop} {a:Act} {w w0:World} (h1:1 ≤ n) {gf:Nat} {pa lb:Array Value}
    (hg:a.eval g=.func (.func gf) pa lb) (eg:∀ args w,(callFunc gf args).run P w=.ok (.enter gf args) w) {encs:α → Array Value} {Y:List α → α → World → Prop} {S Sp:List α → World → Prop}
    (hseq:SeqK τ κ β (n - 1) P gf pa lb encs Y S Sp w0) (hb0:Below w0.heap.size w0 w) (hps:∀ x,(encs x).size=ps.size) (I:List α → World → Prop) (Ix:Code → List α → World → Prop)
    (hI:OwnFrom w.heap.size I) (hY:∀ x,OwnFrom w.heap.size (fun pre=>Y pre x)) (hIx:∀ c,OwnFrom w.heap.size (Ix c)) (hT:∀ γ,w.heap.size ≤ γ → AbG τ β γ I) (hTx:∀ γ c,w.heap.size ≤ γ → AbG τ β γ (Ix c)) (hS:OwnFrom w.heap.size S) (hSp:OwnFrom w.heap.size Sp) (h0:I [] w) (Ax:List α → α → Act → World → Prop) (hAx:∀ pre x a',OwnFrom w.heap.size (fun (_:Unit) W=>Ax pre x a' W))
    (hassign:∀ (l:Nat) (pre:List α) (x:α) (W:World) (K:Act → World → Prop),I pre W → Y pre x W → (∀ a' W',KeepsFrom w.heap.size W W' → KeepK κ W W' → Ax pre x a' W' → K a' W') → assign.wpIn (Fence.wide.inRound l) (n - 1 - 1) P (Exit.then K (fun _ _ _=>False)) { tmps:=(ps.zip (encs x)).foldl (fun t (p,v)=>t.setIfInBounds p v) a.tmps,defers:=[] } W)
    (hbody:∀ (l:Nat) (pre:List α) (x:α) (a':Act) (W:World),Ax pre x a' W → body.wpIn (Fence.wide.inRound l) (n - 1 - 1) P (leftK κ w.heap.size I Ix (pre ++ [x]) W) a' W)
    (hdone:∀ (D:Nat) (xs:List α) (W:World),w.heap.size ≤ D → S xs W → I xs W → W.heap[D]?=some (.deferred (some [])) → Q .normal { a with defers:={ target:=.collected D,args:=#[] } :: a.defers } W)
    (hstop:∀ (D:Nat) (c:Code) (pre:List α) (W:World),w.heap.size ≤ D → Sp pre W → Ix c pre W → W.heap[D]?=some (.deferred (some [])) → c.wpIn Fence.wide n P Q { a with defers:={ target:=.collected D,args:=#[] } :: a.defers } W):
    (Code.rangeFunc g ps assign body).wpIn Fence.wide n P Q a w:=by
  refine wpIn_rangeFunc fun fn _=>?_
  let rec0:Loop:={ state:=.ready,pending:=none,fn,tmps:=a.tmps,params:=ps,assign,body,defers:=w.heap.size }
  obtain ⟨W1,hW1⟩:∃ W1,(w.alloc (.deferred (some []))).alloc (.loop rec0)=W1:=⟨_,rfl⟩
  have k1:Book (w.heap.size + 1) w.heap.size rec0 W1:=by
    rw [← hW1]
    refine ⟨?_,(Below.heap_alloc _ _ _ (by simp)).trans (World.alloc_heap_new w _)⟩
    have:=World.alloc_heap_new (w.alloc (.deferred (some []))) (.loop rec0)
    rwa [World.size_alloc] at this
  have hw1:W1.heap.size=w.heap.size + 2:=by rw [← hW1];simp
  have i1:I [] W1:=by rw [← hW1];exact hI.alloc _ (hI.alloc _ h0)
  have b1:Below w0.heap.size w0 W1:=by
    rw [← hW1];exact hb0.trans ((((Below.refl _ w).alloc (Nat.le_refl _) _).alloc (by simp) _).mono hb0.size)
  refine ⟨w.heap.size + 1,[{ target:=.collected w.heap.size,args:=#[] }],W1,{ target:=.fn (.func gf) lb,args:=pa ++ #[.func (.yield (w.heap.size + 1)) #[] #[]] },W1,gf,
    pa ++ #[.func (.yield (w.heap.size + 1)) #[] #[]] ++ lb,W1,by rw [← hW1];exact run_enterLoop_outer _ _ _ _ _,by simp only [resolve,hg];simp [go_sem],fun _ _=>trivial,by simp [invoke,go_sem,eg],fun _=>h1,?_⟩
  refine (hseq (w.heap.size + 1) (fun pre W=>I pre W ∧ Book (w.heap.size + 1) w.heap.size rec0 W)
    (fun pre W=>∃ c,Ix c pre W ∧ Book (w.heap.size + 1) w.heap.size { rec0 with state:=.done,pending:=some c } W) W1 b1
    (fun s A B hs t=>⟨hT W1.heap.size (by omega) s A B hs.1 t,hs.2.turnG t (by omega) (by omega)⟩) (fun s A B ⟨c,h,k⟩ t=>⟨c,hTx W1.heap.size c (by omega) s A B h t,k.turnG t (by omega) (by omega)⟩)
    (fun pre x W h hy=>round_K (γ:=W1.heap.size) (by omega) (by omega) (by omega) (Nat.le_succ _) (Nat.le_refl _) hI hY hIx hps hAx (hassign _) (hbody _) pre x W h.1 hy h.2) ⟨i1,k1⟩).mono ?_
  rintro e W2 ⟨⟨v,rfl⟩,⟨xs,hs,hi,hk⟩ | ⟨pre,hs,c,hi,hk⟩⟩
  · have r:=run_endLoop (P:=P) hk.loop (by intro h;cases h)
    exact ⟨none,_,r,hdone _ xs _ (Nat.le_refl _) (hS.putObj _ hs (Nat.le_succ _) hk.loop rfl) (hI.putObj _ hi (Nat.le_succ _) hk.loop rfl) ((World.putObj_heap_other (by omega)).trans hk.defers)⟩
  · have r:=run_endLoop (P:=P) hk.loop (by intro h;cases h)
    exact ⟨some c,_,r,hstop _ c pre _ (Nat.le_refl _) (hSp.putObj _ hs (Nat.le_succ _) hk.loop rfl) ((hIx c).putObj _ hi (Nat.le_succ _) hk.loop rfl) ((World.putObj_heap_other (by omega)).trans hk.defers)⟩
end
end Go.Proofs.YthmbmcckldgdiaaDoor.Mdl
