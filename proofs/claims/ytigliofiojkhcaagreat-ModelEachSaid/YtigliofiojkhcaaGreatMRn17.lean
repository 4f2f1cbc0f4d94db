import Derived.Test.YtigliofiojkhcaaGreatMRn16
import Derived.Test.YtigliofiojkhcaaGreatRows
import Derived.RangeFuncWrites
import Derived.RangeFuncLeaves
import Derived.Shelf.Abstract
import Derived.WalkKit
import Derived.OwnWalkIn
import Derived.TacticsInMore
import Derived.LoopNIn
import Derived.LoopIn
import Derived.Test.YtigliofiojkhcaaGreatMRn07
import Derived.Test.YtigliofiojkhcaaGreatMRn04
set_option linter.unusedVariables false
set_option linter.unusedSimpArgs false
set_option linter.unnecessarySimpa false
namespace Go.Proofs.YtigliofiojkhcaaGreat.Mdl
open Go.RowKit
set_option linter.unusedVariables false
set_option linter.unusedSimpArgs false
set_option maxRecDepth 100000
theorem Mo.c16 {s:Mo} {w:World} {g:Nat} (h:s.in_ w g):w.cell? ⟨g,16,none⟩=some s.answers:=by
  unfold Mo.in_ at h
  simp only [World.cell?,h];rfl
set_option maxHeartbeats 2000000 in
theorem call_no (s:Mo) (g ca:Nat) (aa:Option Addr) (x:Ins.In) (W:World) (h:s.in_ W g) (hans:s.answers=.slice aa 0 ca):
    Calls Tryz.prog 35 #[.pointer (some ⟨g,0,none⟩),.agg x.cells] W fun e w'=>e=.returned (.int .i8 2) ∧ Below W.heap.size W w':=by
  have c16:=s.c16 (s.below h (below_new (Below.refl _ W) (.cells x.cells 52)))
  rw [hans] at c16
  clear h hans
  generalize x.cells=c at *
  go_enter Tryz.func35,Tryz.ntmps35
  go_wp2
  go_ret
  exact ⟨rfl,below_new (Below.refl _ _) _⟩
end Go.Proofs.YtigliofiojkhcaaGreat.Mdl
namespace Go.Proofs.YtigliofiojkhcaaGreat.Mdl
open Go.RowKit Go.Shelf
set_option linter.unusedVariables false
set_option maxRecDepth 100000
section
variable {P:Program} {τ σ:TypeId → Bool} {β n:Nat} {α:Type}
def isT (τ:TypeId → Bool):Obj → Bool
  | .cells _ t _=>τ t
  | _=>false
theorem isT_other {o:Obj} (h:o.isCells=false):isT τ o=false:=by
  cases o <;> first | rfl | (simp [Obj.isCells] at h)
structure TurnT (τ:TypeId → Bool) (β:Nat) (A B:World):Prop where
  os:B.os=A.os
  tape:B.tape=A.tape
  output:B.output=A.output
  size:A.heap.size ≤ B.heap.size
  same:∀ (k:Nat) (o:Obj),A.heap[k]?=some o → (k < β ∨ isT τ o=false) → B.heap[k]?=some o
structure KeepT (τ:TypeId → Bool) (A B:World):Prop where
  size:A.heap.size ≤ B.heap.size
  same:∀ (k:Nat) (o:Obj),A.heap[k]?=some o → isT τ o=true → B.heap[k]?=some o
theorem KeepT.refl (A:World):KeepT τ A A:=⟨Nat.le_refl _,fun _ _ h _=>h⟩
theorem KeepT.trans {A B C:World} (h:KeepT τ A B) (k:KeepT τ B C):KeepT τ A C:=⟨Nat.le_trans h.size k.size,fun i o hi ho=>k.same i o (h.same i o hi ho) ho⟩
theorem KeepT.putObj {W:World} {l:Nat} {o:Obj} (o':Obj) (hl:W.heap[l]?=some o) (ho:o.isCells=false):KeepT τ W (W.putObj l o'):=by
  have g:=grownBy_putObj' W l o'
  refine ⟨g.size,fun k x hk hx=>?_⟩
  by_cases e:k=l
  · subst e
    rw [hl] at hk
    injection hk with hk
    subst hk
    rw [isT_other ho] at hx;cases hx
  · exact (g.block k (Array.getElem?_eq_some_iff.1 hk).1 (fun h=>e (by injection h))).trans hk
def AbT (τ:TypeId → Bool) (β:Nat) (J:List α → World → Prop):Prop:=∀ s A B,J s A → TurnT τ β A B → J s B
def SeqT (τ σ:TypeId → Bool) (β n:Nat) (P:Program) (g:Nat) (pa lb:Array Value) (encs:α → Array Value) (Y:List α → α → World → Prop) (S Sp:List α → World → Prop) (w:World):Prop:=
  ∀ (l:Nat) (J Jx:List α → World → Prop) (W:World),Below w.heap.size w W → AbT τ β J → AbT τ β Jx →
    (∀ pre x W1,J pre W1 → Y pre x W1 → YieldAt Fence.wide (n - 1) P l (encs x) W1 fun e W'=>
      (e=.returned (.bool true) ∧ J (pre ++ [x]) W' ∧ KeepT σ W1 W') ∨ (e=.returned (.bool false) ∧ Jx (pre ++ [x]) W' ∧ KeepT σ W1 W')) →
    J [] W →
    CallsIn Fence.wide n P g (pa ++ #[.func (.yield l) #[] #[]] ++ lb) W fun e W'=>(∃ v,e=.returned v) ∧ ((∃ xs,S xs W' ∧ J xs W') ∨ (∃ pre,Sp pre W' ∧ Jx pre W'))
def leftT (σ:TypeId → Bool) (B:Nat) (I:List α → World → Prop) (Ix:Code → List α → World → Prop) (xs:List α) (W:World):Exit → Act → World → Prop
  | .normal,_,W'=>KeepsFrom B W W' ∧ KeepT σ W W' ∧ I xs W'
  | .ret,_,W'=>KeepsFrom B W W' ∧ KeepT σ W W' ∧ Ix .ret xs W'
  | .exit id,_,W'=>KeepsFrom B W W' ∧ KeepT σ W W' ∧ Ix (.exit id) xs W'
  | .goto t,_,W'=>KeepsFrom B W W' ∧ KeepT σ W W' ∧ Ix (.goto t) xs W'
  | _,_,_=>False
structure Book (l D:Nat) (rec:Loop) (W:World):Prop where
  loop:W.heap[l]?=some (.loop rec)
  defers:W.heap[D]?=some (.deferred (some []))
theorem Book.turn {l D:Nat} {rec:Loop} {A B:World} (h:Book l D rec A) (t:TurnT τ β A B):Book l D rec B:=⟨t.same _ _ h.loop (.inr rfl),t.same _ _ h.defers (.inr rfl)⟩
theorem Book.put {l D:Nat} {rec:Loop} {W:World} (h:Book l D rec W) (ne:l ≠ D) (r:Loop):Book l D r (W.putObj l (.loop r)):=
  ⟨World.putObj_heap_same (Array.getElem?_eq_some_iff.1 h.loop).1,(World.putObj_heap_other (fun e=>ne (by first | exact e | exact e.symm))).trans h.defers⟩
theorem Book.keeps {B l D:Nat} {rec:Loop} {W W':World} (h:Book l D rec W) (k:KeepsFrom B W W') (hl:B ≤ l) (hD:B ≤ D):Book l D rec W':=⟨k.same _ _ hl h.loop rfl,k.same _ _ hD h.defers rfl⟩
theorem round_T {l D B m:Nat} {fn:FuncId} {tmps:Array Value} {ps:Array Tmp} {assign body:Code} {dd:Nat} {encs:α → Array Value} {Y:List α → α → World → Prop} {I:List α → World → Prop} {Ix:Code → List α → World → Prop} {a₁:α → Act}
    (hlD:l ≠ D) (hlB:B ≤ l) (hDB:B ≤ D) (hI:OwnFrom B I) (hY:∀ x,OwnFrom B (fun pre=>Y pre x)) (hIx:∀ c,OwnFrom B (Ix c)) (hps:∀ x,(encs x).size=ps.size)
    (hassign:∀ (x:α) (W:World) (K:Act → World → Prop),K (a₁ x) W → assign.wpIn (Fence.wide.inRound l) m P (Exit.then K (fun _ _ _=>False)) { tmps:=(ps.zip (encs x)).foldl (fun t (p,v)=>t.setIfInBounds p v) tmps,defers:=[] } W)
    (hbody:∀ (pre:List α) (x:α) (W:World),I pre W → Y pre x W → body.wpIn (Fence.wide.inRound l) m P (leftT σ B I Ix (pre ++ [x]) W) (a₁ x) W)
    (pre:List α) (x:α) (W:World) (hi:I pre W) (hy0:Y pre x W) (hk:Book l D { state:=.ready,pending:=none,fn,tmps,params:=ps,assign,body,defers:=dd } W):
    YieldAt Fence.wide m P l (encs x) W fun e W'=>
      (e=.returned (.bool true) ∧ (I (pre ++ [x]) W' ∧ Book l D { state:=.ready,pending:=none,fn,tmps,params:=ps,assign,body,defers:=dd } W') ∧ KeepT σ W W') ∨
      (e=.returned (.bool false) ∧ (∃ c,Ix c (pre ++ [x]) W' ∧ Book l D { state:=.done,pending:=some c,fn,tmps,params:=ps,assign,body,defers:=dd } W') ∧ KeepT σ W W'):=by
  obtain ⟨rec,hrec⟩:∃ rec:LoopState → Option Code → Loop,rec=fun st pe=>{ state:=st,pending:=pe,fn,tmps,params:=ps,assign,body,defers:=dd }:=⟨_,rfl⟩
  have hk':Book l D (rec .ready none) W:=by rw [hrec];exact hk
  have hy:=run_yield (P:=P) (args:=encs x) hk.loop (hps x)
  refine ⟨fn,_,assign,body,hy,roundIn_of_wpIn trivial (hassign x W _ ⟨_,run_beginRound hk.loop rfl,?_⟩)⟩
  have b2:Book l D (rec .busy none) (W.putObj l (.loop (rec .busy none))):=hk'.put hlD _
  have w2:KeepT σ W (W.putObj l (.loop (rec .busy none))):=KeepT.putObj _ hk.loop rfl
  have i2:I pre (W.putObj l (.loop (rec .busy none))):=hI.putObj _ hi hlB hk.loop rfl
  have y2:Y pre x (W.putObj l (.loop (rec .busy none))):=(hY x).putObj _ hy0 hlB hk.loop rfl
  have e2:W.putObj l (.loop (rec .busy none))=W.putObj l (.loop { state:=.busy,pending:=none,fn,tmps,params:=ps,assign,body,defers:=dd }):=by rw [hrec]
  rw [← e2]
  refine wpIn_mono (hbody pre x _ i2 y2) ?_
  clear e2
  have fin:∀ (jump:Option Code) (W3:World),KeepsFrom B (W.putObj l (.loop (rec .busy none))) W3 → KeepT σ (W.putObj l (.loop (rec .busy none))) W3 →
      (Instr.endRound l jump).run P W3=.ok (.bool jump.isNone) (W3.putObj l (.loop (rec (if jump.isNone then .ready else .done) jump))) ∧ Book l D (rec .busy none) W3 ∧
      Book l D (rec (if jump.isNone then .ready else .done) jump) (W3.putObj l (.loop (rec (if jump.isNone then .ready else .done) jump))) ∧ KeepT σ W (W3.putObj l (.loop (rec (if jump.isNone then .ready else .done) jump))):=by
    intro jump W3 hk3 ht3
    have b3:=b2.keeps hk3 hlB hDB
    have r3:=run_endRound (P:=P) jump b3.loop
    refine ⟨?_,b3,b3.put hlD _,w2.trans (ht3.trans (KeepT.putObj _ b3.loop rfl))⟩
    rw [hrec] at r3 ⊢
    exact r3
  rintro e a3 W3 hp
  cases e with
  | normal=>
    obtain ⟨hk3,ht3,hi3⟩:=hp
    obtain ⟨r3,b3,b4,t4⟩:=fin none W3 hk3 ht3
    refine ⟨_,_,r3,.inl ⟨rfl,⟨hI.putObj _ hi3 hlB b3.loop rfl,?_⟩,t4⟩⟩
    rw [hrec] at b4 ⊢
    exact b4
  | ret=>
    obtain ⟨hk3,ht3,hi3⟩:=hp
    obtain ⟨r3,b3,b4,t4⟩:=fin (some .ret) W3 hk3 ht3
    refine ⟨_,_,r3,.inr ⟨rfl,⟨.ret,(hIx _).putObj _ hi3 hlB b3.loop rfl,?_⟩,t4⟩⟩
    rw [hrec] at b4 ⊢
    exact b4
  | exit id=>
    obtain ⟨hk3,ht3,hi3⟩:=hp
    obtain ⟨r3,b3,b4,t4⟩:=fin (some (.exit id)) W3 hk3 ht3
    refine ⟨_,_,r3,.inr ⟨rfl,⟨.exit id,(hIx _).putObj _ hi3 hlB b3.loop rfl,?_⟩,t4⟩⟩
    rw [hrec] at b4 ⊢
    exact b4
  | goto t=>
    obtain ⟨hk3,ht3,hi3⟩:=hp
    obtain ⟨r3,b3,b4,t4⟩:=fin (some (.goto t)) W3 hk3 ht3
    refine ⟨_,_,r3,.inr ⟨rfl,⟨.goto t,(hIx _).putObj _ hi3 hlB b3.loop rfl,?_⟩,t4⟩⟩
    rw [hrec] at b4 ⊢
    exact b4
  | panic ch=>exact hp.elim
  | outgrown=>exact hp.elim
theorem range_T {g:Operand} {ps:Array Tmp} {assign body:Code} {Q:Exit → Act → World → Prop} {a:Act} {w w0:World} (h1:1 ≤ n) {gf:Nat} {pa lb:Array Value}
    (hg:a.eval g=.func (.func gf) pa lb) (eg:∀ args w,(callFunc gf args).run P w=.ok (.enter gf args) w) {encs:α → Array Value} {Y:List α → α → World → Prop} {S Sp:List α → World → Prop}
    (hseq:SeqT τ σ β (n - 1) P gf pa lb encs Y S Sp w0) (hb0:Below w0.heap.size w0 w) (hps:∀ x,(encs x).size=ps.size) (I:List α → World → Prop) (Ix:Code → List α → World → Prop)
    (hI:OwnFrom w.heap.size I) (hY:∀ x,OwnFrom w.heap.size (fun pre=>Y pre x)) (hIx:∀ c,OwnFrom w.heap.size (Ix c)) (hT:AbT τ β I) (hTx:∀ c,AbT τ β (Ix c)) (hS:OwnFrom w.heap.size S) (hSp:OwnFrom w.heap.size Sp) (h0:I [] w) (a₁:α → Act)
    (hassign:∀ (l:Nat) (x:α) (W:World) (K:Act → World → Prop),K (a₁ x) W → assign.wpIn (Fence.wide.inRound l) (n - 1 - 1) P (Exit.then K (fun _ _ _=>False)) { tmps:=(ps.zip (encs x)).foldl (fun t (p,v)=>t.setIfInBounds p v) a.tmps,defers:=[] } W)
    (hbody:∀ (l:Nat) (pre:List α) (x:α) (W:World),I pre W → Y pre x W → body.wpIn (Fence.wide.inRound l) (n - 1 - 1) P (leftT σ w.heap.size I Ix (pre ++ [x]) W) (a₁ x) W)
    (hdone:∀ (D:Nat) (xs:List α) (W:World),w.heap.size ≤ D → S xs W → I xs W → W.heap[D]?=some (.deferred (some [])) → Q .normal { a with defers:={ target:=.collected D,args:=#[] } :: a.defers } W)
    (hstop:∀ (D:Nat) (c:Code) (pre:List α) (W:World),w.heap.size ≤ D → Sp pre W → Ix c pre W → W.heap[D]?=some (.deferred (some [])) → c.wpIn Fence.wide n P Q { a with defers:={ target:=.collected D,args:=#[] } :: a.defers } W):
    (Code.rangeFunc g ps assign body).wpIn Fence.wide n P Q a w:=by
  refine wpIn_rangeFunc fun fn _=>?_
  let rec0:Loop:={ state:=.ready,pending:=none,fn,tmps:=a.tmps,params:=ps,assign,body,defers:=w.heap.size }
  obtain ⟨W1,hW1⟩:∃ W1,(w.alloc (.deferred (some []))).alloc (.loop rec0)=W1:=⟨_,rfl⟩
  have k1:Book (w.heap.size + 1) w.heap.size rec0 W1:=by
    rw [← hW1]
    refine ⟨?_,(Below.heap_alloc _ _ _ (by simp)).trans (World.alloc_heap_new w _)⟩
    have:=World.alloc_heap_new (w.alloc (.deferred (some []))) (.loop rec0)
    rwa [World.size_alloc] at this
  have i1:I [] W1:=by rw [← hW1];exact hI.alloc _ (hI.alloc _ h0)
  have b1:Below w0.heap.size w0 W1:=by
    rw [← hW1];exact hb0.trans ((((Below.refl _ w).alloc (Nat.le_refl _) _).alloc (by simp) _).mono hb0.size)
  refine ⟨w.heap.size + 1,[{ target:=.collected w.heap.size,args:=#[] }],W1,{ target:=.fn (.func gf) lb,args:=pa ++ #[.func (.yield (w.heap.size + 1)) #[] #[]] },W1,gf,
    pa ++ #[.func (.yield (w.heap.size + 1)) #[] #[]] ++ lb,W1,by rw [← hW1];exact run_enterLoop_outer _ _ _ _ _,by simp only [resolve,hg];simp [go_sem],fun _ _=>trivial,by simp [invoke,go_sem,eg],fun _=>h1,?_⟩
  refine (hseq (w.heap.size + 1) (fun pre W=>I pre W ∧ Book (w.heap.size + 1) w.heap.size rec0 W)
    (fun pre W=>∃ c,Ix c pre W ∧ Book (w.heap.size + 1) w.heap.size { rec0 with state:=.done,pending:=some c } W) W1 b1
    (fun s A B hs t=>⟨hT s A B hs.1 t,hs.2.turn t⟩) (fun s A B ⟨c,h,k⟩ t=>⟨c,hTx c s A B h t,k.turn t⟩)
    (fun pre x W h hy=>round_T (by omega) (Nat.le_succ _) (Nat.le_refl _) hI hY hIx hps (hassign _) (hbody _) pre x W h.1 hy h.2) ⟨i1,k1⟩).mono ?_
  rintro e W2 ⟨⟨v,rfl⟩,⟨xs,hs,hi,hk⟩ | ⟨pre,hs,c,hi,hk⟩⟩
  · have r:=run_endLoop (P:=P) hk.loop (by intro h;cases h)
    exact ⟨none,_,r,hdone _ xs _ (Nat.le_refl _) (hS.putObj _ hs (Nat.le_succ _) hk.loop rfl) (hI.putObj _ hi (Nat.le_succ _) hk.loop rfl) ((World.putObj_heap_other (by omega)).trans hk.defers)⟩
  · have r:=run_endLoop (P:=P) hk.loop (by intro h;cases h)
    exact ⟨some c,_,r,hstop _ c pre _ (Nat.le_refl _) (hSp.putObj _ hs (Nat.le_succ _) hk.loop rfl) ((hIx c).putObj _ hi (Nat.le_succ _) hk.loop rfl) ((World.putObj_heap_other (by omega)).trans hk.defers)⟩
end
end Go.Proofs.YtigliofiojkhcaaGreat.Mdl
namespace Go.Proofs.YtigliofiojkhcaaGreat
open Go.RowKit
set_option linter.unusedVariables false
theorem bd_i64 {a:Int} (h:(Lit.int .i64 a).wf=true):-9223372036854775808 ≤ a ∧ a ≤ 9223372036854775807:=by
  simpa [Lit.wf,IntKind.min,IntKind.max,IntKind.bits,IntKind.signed] using h
theorem get_bd (f:Nat → Int) (k:Nat) (hk:k ≤ 8) (h:∀ i,i < k → 0 ≤ f i ∧ f i < 256):0 ≤ getI f k ∧ getI f k < 18446744073709551616:=by
  have b:=getI_bd f k h
  refine ⟨b.1,Int.lt_of_lt_of_le b.2 ?_⟩
  have:=Nat.pow_le_pow_right (show 0 < 2 by omega) (show 8 * k ≤ 64 by omega)
  have e:((2 ^ (8 * k):Nat):Int) ≤ ((2 ^ 64:Nat):Int):=by omega
  simpa using e
end Go.Proofs.YtigliofiojkhcaaGreat
namespace Go.Proofs.YtigliofiojkhcaaGreat.Ins
open Go.RowKit
set_option linter.unusedVariables false
theorem ends_facts {c:Int} {len:Nat} {xs:Nat → In} (h:(checkI c len xs).2=0):1 ≤ len ∧ len ≤ 64 ∧ ∀ k,k < len → mayI (xs k)=true ∧ jumpsI k (xs k)=decide ((xs k).kind=3 ∨ (xs k).kind=4) ∧ (((xs k).kind=3 ∨ (xs k).kind=4) → ¬ targetI k (xs k) < 0 ∧ ¬ (len:Int) ≤ targetI k (xs k)) ∧ (¬ (xs k).kind=4 → ¬ (xs k).kind=6 → k + 1 < len):=by
  unfold checkI at h
  by_cases h1:c < 0 ∨ 256 < c
  · rw [if_pos h1] at h;simp at h
  rw [if_neg h1] at h
  by_cases h2:len < 1 ∨ 64 < len
  · rw [if_pos h2] at h;simp at h
  rw [if_neg h2] at h
  by_cases h3:(firstF (fun i=>faultI i (xs i) len) len 0).2 ≠ 0
  · rw [if_pos h3] at h;exact absurd h h3
  rw [if_neg h3] at h
  by_cases h4:(xs (len - 1)).kind=4 ∨ (xs (len - 1)).kind=6
  case neg=>rw [if_neg h4] at h;simp at h
  refine ⟨by omega,by omega,fun k hk=>?_⟩
  have hf:faultI k (xs k) len=0:=firstF_all (fun i=>faultI i (xs i) len) len 0 (by omega) k (by omega) (by omega)
  unfold faultI at hf
  have hm:mayI (xs k)=true:=by
    cases hm:mayI (xs k)
    · rw [if_pos hm] at hf;omega
    · rfl
  rw [if_neg (by rw [hm];simp)] at hf
  have hj:jumpsI k (xs k)=decide ((xs k).kind=3 ∨ (xs k).kind=4):=by
    obtain ⟨_,_,h5,_⟩:=mayI_cases hm
    have n1:nearI k=true:=decide_eq_true (by omega)
    have n2:nearI (xs k).off=true:=decide_eq_true (by omega)
    unfold jumpsI
    rw [n1,n2]
    simp
  refine ⟨hm,hj,fun hk34=>?_,fun n4 n6=>?_⟩
  · rw [hj,decide_eq_true hk34] at hf
    by_cases h5:targetI k (xs k) < 0 ∨ (len:Int) ≤ targetI k (xs k)
    · rw [if_pos ⟨rfl,h5⟩] at hf;omega
    · omega
  · by_cases e:k=len - 1
    · subst e;omega
    · omega
end Go.Proofs.YtigliofiojkhcaaGreat.Ins
namespace Go.Proofs.YtigliofiojkhcaaGreat.Mdl
open Go.RowKit
set_option linter.unusedVariables false
set_option linter.unusedSimpArgs false
set_option maxRecDepth 100000
structure Pl where
  r:Nat → Int
  set:Int
  at_:Int
  fuel:Int
  fin:Int
  ans:List Int
  evs:List Trc.Ev
  mem:MemS
structure Env where
  g:Nat
  b:Nat
  β:Nat
  pa:Nat
  po:Nat
  pl:Nat
  pc:Nat
  x:Nat → Ins.In
  kf:Nat → Int
def Pl.put (D:Pl) (n:Nat) (v:Int):Pl:={ D with r:=fun k=>if k=n then v else D.r k,set:=orM D.set (onlyI n) }
def Pl.opd (D:Pl) (x:Ins.In):Int:=if x.byReg=true then D.r x.src.toNat else x.imm % 18446744073709551616
def Pl.args (D:Pl) (n:Nat):List Int:=(List.range n).map (fun k=>D.r (k + 1))
def Pl.called (D:Pl) (imm av:Int) (rest:List Int):Pl:={ D with r:=(fun k=>match k with | 0=>av | 1=>0 | 2=>0 | 3=>0 | 4=>0 | 5=>0 | k=>D.r k),set:=orM (bits .andNot .i64 D.set (argsM 5)) (onlyI 0),ans:=rest,evs:=D.evs ++ [⟨imm,D.args (Ins.argsI imm).toNat,av⟩] }
def Pl.exe (D:Pl) (kf:Nat → Int) (x:Ins.In):Pl × Int:=
  if x.kind=0 then (D.put x.dst.toNat (doI x.op x.width (D.r x.dst.toNat) (D.opd x)),0)
  else if x.kind=1 then (if readE D.mem (adI (D.r x.src.toNat) x.off) x.size.toNat=0 then (D.put x.dst.toNat (readV D.mem kf (adI (D.r x.src.toNat) x.off) x.size.toNat),0) else (D,3))
  else if x.kind=2 then (if locI D.mem.cn D.mem.n D.mem.hs (adI (D.r x.dst.toNat) x.off) x.size.toNat ≤ 1 then (D,3) else ({ D with mem:=D.mem.putAt (adI (D.r x.dst.toNat) x.off) x.size.toNat (D.r x.src.toNat) },0))
  else if x.kind=3 then (if holdsB x.op 64 (D.r x.dst.toNat) (D.opd x)=true then { D with at_:=Ins.targetI (D.at_ - 1) x } else D,0)
  else if x.kind=4 then ({ D with at_:=Ins.targetI (D.at_ - 1) x },0)
  else if x.kind=5 then (match D.ans with | []=>(D,2) | a :: l=>(D.called x.imm a l,0))
  else (D,1)
def Pl.adv (D:Pl):Pl:={ D with fuel:=D.fuel - 1,at_:=D.at_ + 1,fin:=3 }
def Pl.step (D:Pl) (kf:Nat → Int) (x:Ins.In):Pl:=
  if (andM D.set (readsM x) == readsM x)=true then { (D.adv.exe kf x).1 with fin:=(D.adv.exe kf x).2 } else D.adv
def Env.mo (E:Env) (D:Pl) (av tv:Value):Mo:=⟨.slice (some ⟨E.pa,E.po,none⟩) E.pl E.pc,.pointer (some ⟨E.b,0,none⟩),D.r,D.set,D.at_,D.fuel,av,tv,D.fin⟩
def AnsR (w:World) (av:Value) (zs:List Int):Prop:=(∀ z ∈ zs,0 ≤ z ∧ z < 18446744073709551616) ∧ ∃ aa ca,av=.slice aa zs.length ca ∧ zs.length ≤ ca ∧
  (zs ≠ [] → ∃ (ab ao:Nat) (ac:Array Value),aa=some ⟨ab,ao,none⟩ ∧ w.heap[ab]?=some (.cells ac 30 (0,0)) ∧ ∀ j z,zs[j]?=some z → ac[ao + j]?=some (.int .u64 z))
def cellsV:List (Trc.Ev × Value) → List Value
  | []=>[]
  | p :: l=>[.int .i64 p.1.num,p.2,.int .u64 p.1.ans] ++ cellsV l
theorem cellsV_append:∀ l m,cellsV (l ++ m)=cellsV l ++ cellsV m
  | [],m=>rfl
  | p :: l,m=>by show _ ++ cellsV (l ++ m)=_;rw [cellsV_append l m,← List.append_assoc];rfl
def TrR (β:Nat) (w:World) (tv:Value) (es:List Trc.Ev):Prop:=∃ ps:List (Trc.Ev × Value),ps.map (·.1)=es ∧ w.ownsRow β 103 3 tv es.length (cellsV ps) ∧
  ∀ p ∈ ps,w.ownsRow β 30 1 p.2 p.1.args.length (p.1.args.map (.int .u64))
def PrR (E:Env) (w:World):Prop:=∃ c:Array Value,w.heap[E.pa]?=some (.cells c 52 (0,0)) ∧ ∀ i,i < E.pl → ∀ j v,(E.x i).cells[j]?=some v → c[E.po + i * 9 + j]?=some v
def Words (D:Pl):Prop:=∀ k,0 ≤ D.r k ∧ D.r k < 18446744073709551616
structure Fine (E:Env):Prop where
  le:E.pl ≤ E.pc
  len:1 ≤ E.pl ∧ E.pl ≤ 64
  may:∀ k,k < E.pl → Ins.mayI (E.x k)=true
  ok:∀ k,k < E.pl → (E.x k).Ok
  jumps:∀ k,k < E.pl → Ins.jumpsI k (E.x k)=decide ((E.x k).kind=3 ∨ (E.x k).kind=4)
  into:∀ k,k < E.pl → ((E.x k).kind=3 ∨ (E.x k).kind=4) → 0 ≤ Ins.targetI k (E.x k) ∧ Ins.targetI k (E.x k) < E.pl
  on:∀ k,k < E.pl → ¬ (E.x k).kind=4 → ¬ (E.x k).kind=6 → k + 1 < E.pl
structure Rel (E:Env) (D:Pl) (w:World):Prop where
  st:∃ av tv,(E.mo D av tv).in_ w E.g ∧ AnsR w av D.ans ∧ TrR E.β w tv D.evs
  pr:PrR E w
  mm:Mem D.mem E.kf w E.b
  words:Words D
  far:E.β ≤ E.g ∧ E.β ≤ E.b ∧ E.β ≤ w.heap.size
def τM (t:TypeId):Bool:=t == 78 || t == 111 || t == 103
theorem TurnT.refl {τ:TypeId → Bool} {β:Nat} (w:World):TurnT τ β w w:=⟨rfl,rfl,rfl,Nat.le_refl _,fun _ _ h _=>h⟩
theorem TurnT.trans {τ:TypeId → Bool} {β:Nat} {A B C:World} (h:TurnT τ β A B) (k:TurnT τ β B C):TurnT τ β A C:=⟨k.os.trans h.os,k.tape.trans h.tape,k.output.trans h.output,Nat.le_trans h.size k.size,fun i o hi ho=>k.same i o (h.same i o hi ho) ho⟩
theorem turn_of {τ:TypeId → Bool} {β:Nat} {G:List Nat} {w w':World} (t:Trn G w w') (h:∀ j ∈ G,β ≤ j ∧ ∃ c t fr,w.heap[j]?=some (.cells c t fr) ∧ τ t=true):TurnT τ β w w':=by
  refine ⟨t.os,t.tape,t.output,t.size,fun k o hk ho=>t.row hk (fun hg=>?_)⟩
  obtain ⟨h1,c,ty,fr,h2,h3⟩:=h k hg
  rcases ho with ho | ho
  · omega
  · rw [hk] at h2
    injection h2 with h2
    subst h2
    change τ ty=false at ho
    rw [h3] at ho;cases ho
theorem Turn.row {τ:TypeId → Bool} {β:Nat} {w w':World} (t:TurnT τ β w w') {g:Nat} {c:Array Value} {ty:TypeId} {fr:Nat × Nat} (h:w.heap[g]?=some (.cells c ty fr)) (hn:τ ty=false):w'.heap[g]?=some (.cells c ty fr):=t.same g _ h (.inr hn)
theorem AnsR.trn {w w':World} {G:List Nat} {av:Value} {zs:List Int} (h:AnsR w av zs) (t:Trn G w w') (hG:∀ j ∈ G,∃ c ty fr,w.heap[j]?=some (.cells c ty fr) ∧ ty ≠ 30):AnsR w' av zs:=by
  obtain ⟨h0,aa,ca,h1,h2,h3⟩:=h
  refine ⟨h0,aa,ca,h1,h2,fun hz=>?_⟩
  obtain ⟨ab,ao,ac,e1,e2,e3⟩:=h3 hz
  refine ⟨ab,ao,ac,e1,t.row e2 (fun hg=>?_),e3⟩
  obtain ⟨c,ty,fr,e4,e5⟩:=hG ab hg
  rw [e2] at e4
  simp at e4
  exact e5 e4.2.1.symm
theorem PrR.trn {E:Env} {w w':World} {G:List Nat} (h:PrR E w) (t:Trn G w w') (hG:∀ j ∈ G,∃ c ty fr,w.heap[j]?=some (.cells c ty fr) ∧ ty ≠ 52):PrR E w':=by
  obtain ⟨c,e2,e3⟩:=h
  refine ⟨c,t.row e2 (fun hg=>?_),e3⟩
  obtain ⟨c,ty,fr,e4,e5⟩:=hG _ hg
  rw [e2] at e4
  simp at e4
  exact e5 e4.2.1.symm
theorem TrR.trn {β:Nat} {w w':World} {G:List Nat} {tv:Value} {es:List Trc.Ev} (h:TrR β w tv es) (t:Trn G w w') (hG:∀ j ∈ G,∃ c ty fr,w.heap[j]?=some (.cells c ty fr) ∧ ty ≠ 30 ∧ ty ≠ 103):TrR β w' tv es:=by
  obtain ⟨ps,h1,h2,h3⟩:=h
  refine ⟨ps,h1,own_trn h2 t (fun j hj hg=>?_),fun p hp=>own_trn (h3 p hp) t (fun j hj hg=>?_)⟩
  · obtain ⟨c,ty,fr,e4,e5⟩:=hG _ hg
    exact own_ne h2 e4 e5.2.symm j hj rfl
  · obtain ⟨c,ty,fr,e4,e5⟩:=hG _ hg
    exact own_ne (h3 p hp) e4 e5.1.symm j hj rfl
theorem Mem.trn {S:MemS} {kf:Nat → Int} {w w':World} {b:Nat} {G:List Nat} (h:Mem S kf w b) (t:Trn G w w') (hG:∀ j ∈ G,∃ c ty fr,w.heap[j]?=some (.cells c ty fr) ∧ ty ≠ 111 ∧ ty ≠ 5):Mem S kf w' b:=by
  obtain ⟨c1,r1,r2,r3⟩:=h.at_.row
  obtain ⟨c2,q1,q2,q3⟩:=h.code
  refine ⟨⟨⟨c1,t.row r1 (fun hg=>?_),r2,r3⟩,h.at_.cn,h.at_.n,h.at_.far,h.at_.bytes⟩,⟨c2,t.row q1 (fun hg=>?_),q2,q3⟩,h.kb⟩
  · obtain ⟨c,ty,fr,e4,e5⟩:=hG _ hg
    rw [r1] at e4;simp at e4;exact e5.1 e4.2.1.symm
  · obtain ⟨c,ty,fr,e4,e5⟩:=hG _ hg
    rw [q1] at e4;simp at e4;exact e5.2 e4.2.1.symm
theorem byteAt_bd2 {S:MemS} {kf:Nat → Int} {w:World} {b:Nat} (h:Mem S kf w b) (a m:Int) (hm:1 ≤ m) (hl:¬ locI S.cn S.n S.hs a m=0) (i:Nat) (hi:(i:Int) < m):0 ≤ byteAt S kf (a + i) ∧ byteAt S kf (a + i) < 256:=by
  have hn:=h.at_.n
  have hcn:=h.at_.cn
  have c:=locI_cases (cn:=S.cn) (n:=S.n) (hs:=S.hs) (a:=a) (m:=m) hm
  unfold byteAt
  split
  · exact h.kb _ (by omega)
  · exact h.at_.bytes _
theorem readV_bd {S:MemS} {kf:Nat → Int} {w:World} {b:Nat} (h:Mem S kf w b) (a:Int) {m:Nat} (hm:szB m=true):0 ≤ readV S kf a m ∧ readV S kf a m < 18446744073709551616:=by
  unfold readV
  split
  · omega
  · next hl=>
    have:=szB_le hm
    exact get_bd _ m (by omega) (fun i hi=>byteAt_bd2 h a m (by omega) hl i (by omega))
theorem doI_word (op w:Int) {a b:Int} (ha:0 ≤ a ∧ a < 18446744073709551616) (hb:0 ≤ b ∧ b < 18446744073709551616):0 ≤ doI op w a b ∧ doI op w a b < 18446744073709551616:=doI_bd op w a b ha.1 ha.2 hb.1 hb.2
theorem Pl.put_words {D:Pl} (h:Words D) (n:Nat) {v:Int} (hv:0 ≤ v ∧ v < 18446744073709551616):Words (D.put n v):=fun k=>by
  unfold Pl.put
  simp only
  split
  · exact hv
  · exact h k
theorem Pl.opd_word {D:Pl} (h:Words D) (x:Ins.In):0 ≤ D.opd x ∧ D.opd x < 18446744073709551616:=by
  unfold Pl.opd
  split
  · exact h _
  · omega
end Go.Proofs.YtigliofiojkhcaaGreat.Mdl
