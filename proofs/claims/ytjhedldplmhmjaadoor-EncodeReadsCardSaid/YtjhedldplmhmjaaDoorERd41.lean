import Derived.Test.YtjhedldplmhmjaaDoorERd39
import Derived.Test.YtjhedldplmhmjaaDoorERd40
import Derived.Test.YtjhedldplmhmjaaDoorERd18
set_option linter.unusedVariables false
set_option linter.unusedSimpArgs false
set_option linter.unnecessarySimpa false
namespace Go.Proofs.YtjhedldplmhmjaaDoor.Mrm
open Go Go.RowKit Mdl
set_option linter.unusedVariables false
set_option linter.unusedSimpArgs false
set_option linter.unnecessarySimpa false
set_option maxRecDepth 100000
attribute [local go_sem] Oper.semAt_some
def widthsL:List Int:=[0,8,16,32,64]
def candW (f:Fd) (x:Int × Cd) (w:Int):List Xi:=
  if hasB x.2 w=true ∧ f.wide=(w == 64) ∧ partsP (filledP x.1 w x.2 (partsF f x.2)) x.2=partsF f x.2 then [filledP x.1 w x.2 (partsF f x.2)] else []
def candC (f:Fd) (x:Int × Cd):List Xi:=if isF f.va x.2=true then widthsL.flatMap (candW f x) else []
def cands (zs:List Int):List Xi:=match findP zs with | none=>[] | some f=>allOps.flatMap (candC f)
def encM (x:Xi):Array Value:=#[.agg (xC x)]
def YM (zs:List Int) (pre:List Xi) (x:Xi) (_:World):Prop:=∃ suf,cands zs=pre ++ x :: suf
def SM (zs:List Int) (xs:List Xi) (_:World):Prop:=xs=cands zs
def SpM (zs:List Int) (pre:List Xi) (_:World):Prop:=∃ suf,cands zs=pre ++ suf
structure MI (J:List Xi → World → Prop) (f:Fd) (fB yB l B p len cap:Nat) (pre:List (Int × Cd)) (w:World):Prop where
  j:J (pre.flatMap (candC f)) w
  t:Tab3 w
  fo:w.heap[fB]?=some (.cells (fdC f (.slice (some ⟨B,p,none⟩) len cap)) 56 (0,0))
  y:w.heap[yB]?=some (.cells #[.func (.yield l) #[] #[]] 52 (0,0))
  b:BytesAt w (some ⟨B,p,none⟩) len cap f.bh
theorem BytesAt.same {W w:World} {a:Option Addr} {len cap:Nat} {zs:List Int} (h:BytesAt W a len cap zs) (k:∀ B o,a=some ⟨B,o,none⟩ → ∀ C T fr,W.heap[B]?=some (.cells C T fr) → w.heap[B]?=some (.cells C T fr)):BytesAt w a len cap zs:=
  ⟨h.size,h.le,h.fit,fun hp=>by
    obtain ⟨b',o,e,hc⟩:=h.here hp
    refine ⟨b',o,e,fun j z hz=>?_⟩
    have q:=hc j z hz
    obtain ⟨C,T,fr,hh⟩:∃ C T fr,W.heap[b']?=some (.cells C T fr):=by
      cases hh:W.heap[b']? with
      | none=>simp [World.cell?,hh] at q
      | some ob=>
        cases ob with
        | cells C T fr=>exact ⟨C,T,fr,rfl⟩
        | _=>simp [World.cell?,hh] at q
    have e2:=k b' o e _ _ _ hh
    simp only [World.cell?,hh] at q
    simp only [World.cell?,e2]
    exact q,h.ok,h.nilc⟩
theorem MI.turn {β γ:Nat} {J:List Xi → World → Prop} {f:Fd} {fB yB l B p len cap:Nat} {pre:List (Int × Cd)} {A C:World} (h:MI J f fB yB l B p len cap pre A) (hJ:J (pre.flatMap (candC f)) A → J (pre.flatMap (candC f)) C) (t:TurnG (fun _=>false) β γ A C) (h1:3 ≤ γ) (h2:fB < γ) (h3:yB < γ) (h4:B < γ):MI J f fB yB l B p len cap pre C:=
  ⟨hJ h.j,by
    obtain ⟨⟨T,fr,c1⟩,⟨T',fr',c2⟩,⟨T2,fr2,c3⟩⟩:=h.t
    exact ⟨⟨T,fr,t.row c1 (Nat.lt_of_lt_of_le (by decide) h1) rfl⟩,⟨T',fr',t.row c2 (Nat.lt_of_lt_of_le (by decide) h1) rfl⟩,⟨T2,fr2,t.row c3 (Nat.lt_of_lt_of_le (by decide) h1) rfl⟩⟩,
    t.row h.fo h2 rfl,t.row h.y h3 rfl,h.b.same (fun B' o e _ _ _ hb=>by injection e with e;injection e with e;subst e;exact t.row hb h4 rfl)⟩
theorem MI.below {J:List Xi → World → Prop} {f:Fd} {fB yB l B p len cap:Nat} {pre:List (Int × Cd)} {A C:World} (h:MI J f fB yB l B p len cap pre A) (hJ:J (pre.flatMap (candC f)) C) (b:Below A.heap.size A C):MI J f fB yB l B p len cap pre C:=
  ⟨hJ,h.t.below b (Nat.le_refl _),row_heap h.fo b,row_heap h.y b,h.b.below b⟩
theorem row_ownM {β:Type} (B r:Nat) (c:Array Value) (t:TypeId):OwnFrom B (fun (_:β) W=>W.heap[r]?=some (.cells c t (0,0))):=fun s w w' row h g hr=>(g.block r (Array.getElem?_eq_some_iff.1 h).1 (fun e=>by
  obtain ⟨_,o,ho,hc⟩:=hr r e.symm
  rw [h] at ho
  injection ho with ho
  subst ho
  simp [Obj.isCells] at hc)).trans h
theorem allOps_allC:∀ k:Fin 38,(allOps.getD k.1 (0,zCd)).2 ∈ allC:=by decide +kernel
theorem allOps_mem {pre:List (Int × Cd)} {x:Int × Cd} {W:World} (h:YC pre x W):x.2 ∈ allC:=by
  obtain ⟨k,hk,_,rfl⟩:=h
  exact allOps_allC ⟨k,hk⟩
theorem stripH_ok {l:List Int} (h:Oks l):Oks (stripH l).2:=by
  unfold stripH
  split
  · exact fun z hz=>h z (List.mem_of_mem_tail hz)
  · exact h
theorem findP_va (zs:List Int) (f:Fd) (h:Oks zs) (hf:findP zs=some f):0 ≤ f.va ∧ f.va < 65536:=by
  have h1:=stripH_ok h
  unfold findP at hf
  generalize (stripH zs).2=l at *
  unfold findR at hf
  have h2:Oks (stripQ l).2.2.2:=by
    unfold stripQ
    split
    · exact fun z hz=>h1 z (List.mem_of_mem_tail hz)
    · exact h1
  generalize stripQ l=r at *
  have h3:Oks (stripC r.2.2.2).2 ∧ ((stripC r.2.2.2).1=0 ∨ (stripC r.2.2.2).1=3840):=by
    unfold stripC
    split
    · exact ⟨fun z hz=>h2 z (List.mem_of_mem_tail hz),.inr rfl⟩
    · exact ⟨h2,.inl rfl⟩
  generalize stripC r.2.2.2=g at *
  obtain ⟨v,l2⟩:=g
  cases l2 with
  | nil=>cases hf
  | cons n l2=>
    have hn:=h3.1 n (List.mem_cons_self ..)
    injection hf with hf
    subst hf
    rcases h3.2 with e | e <;> (simp only at e;subst e;show 0 ≤ _ + n ∧ _ + n < 65536;omega)
theorem turn_less {β γ γ':Nat} {τ:TypeId → Bool} {A C:World} (t:TurnG τ β γ A C) (h:γ' ≤ γ):TurnG τ β γ' A C:=⟨t.os,t.tape,t.output,t.size,fun k o hk hg hb=>t.same k o hk (Nat.lt_of_lt_of_le hg h) hb⟩
def AxM (fr:Int → Cd → Nat → Act) (B0:Nat) (I:List (Int × Cd) → World → Prop) (pre:List (Int × Cd)) (x:Int × Cd) (a':Act) (W':World):Prop:=
  ∃ cB,a'=fr x.1 x.2 cB ∧ I pre W' ∧ YC pre x W' ∧ W'.heap[cB]?=some (.cells (cdC x.2) 61 (0,0)) ∧ B0 ≤ cB
theorem AxM.own {fr:Int → Cd → Nat → Act} {B B':Nat} {I:List (Int × Cd) → World → Prop} (hI:OwnFrom B I) (pre:List (Int × Cd)) (x:Int × Cd) (a':Act):OwnFrom B (fun (_:Unit) W=>AxM fr B' I pre x a' W):=
  fun s X Y row ⟨sb,h1,h2,h3,h4,h5⟩ hg hr=>⟨sb,h1,hI _ X Y row h2 hg hr,h3,row_ownM B sb _ _ () X Y row h4 hg hr,h5⟩
theorem ixw:∀ (k:Nat),k < 5 → ∀ w:World,(Instr.index 66 (.agg widthsC) (.int .i64 (k:Int))).run Tryd.prog w=.ok (.int .i8 (widthsL.getD k 0)) w
  | 0,_,w=>by rfl
  | 1,_,w=>by rfl
  | 2,_,w=>by rfl
  | 3,_,w=>by rfl
  | 4,_,w=>by rfl
  | k + 5,h,w=>absurd h (by omega)
theorem widthsL_take (k:Nat) (h:k < 5):widthsL.take (k + 1)=widthsL.take k ++ [widthsL.getD k 0]:=by
  rw [List.take_add_one,List.getD_eq_getElem?_getD,List.getElem?_eq_getElem (by exact h)]
  rfl
structure MW (J:List Xi → World → Prop) (f:Fd) (c:Cd) (q:Pt) (fB yB cB pB l B p len cap:Nat) (xs:List Xi) (W w:World):Prop where
  j:J xs w
  t:Tab3 w
  fo:w.heap[fB]?=some (.cells (fdC f (.slice (some ⟨B,p,none⟩) len cap)) 56 (0,0))
  y:w.heap[yB]?=some (.cells #[.func (.yield l) #[] #[]] 52 (0,0))
  b:BytesAt w (some ⟨B,p,none⟩) len cap f.bh
  c:w.heap[cB]?=some (.cells (cdC c) 61 (0,0))
  q:w.heap[pB]?=some (.cells #[.int .i8 q.reg,.int .i8 q.rm,.int .i64 q.disp,.int .i64 q.imm,.int .i8 q.cc] 64 (0,0))
  s:W.heap.size ≤ w.heap.size
theorem mw_below {J:List Xi → World → Prop} {f:Fd} {c:Cd} {q:Pt} {fB yB cB pB l B p len cap r m:Nat} {xs:List Xi} {W w w':World} (h:MW J f c q fB yB cB pB l B p len cap xs W w ∧ KeepsFrom m W w ∧ KeepK (kR r) W w) (b:Below w.heap.size w w') (hj:J xs w'):MW J f c q fB yB cB pB l B p len cap xs W w' ∧ KeepsFrom m W w' ∧ KeepK (kR r) W w':=
  ⟨⟨hj,h.1.t.below b (Nat.le_refl _),row_heap h.1.fo b,row_heap h.1.y b,h.1.b.below b,row_heap h.1.c b,row_heap h.1.q b,Nat.le_trans h.1.s b.size⟩,
    ⟨Nat.le_trans h.2.1.size b.size,fun k o hk ho hc=>(b.block k (Array.getElem?_eq_some_iff.1 (h.2.1.same k o hk ho hc)).1).trans (h.2.1.same k o hk ho hc)⟩,
    ⟨Nat.le_trans h.2.2.size b.size,fun k o ho hc=>(b.block k (Array.getElem?_eq_some_iff.1 (h.2.2.same k o ho hc)).1).trans (h.2.2.same k o ho hc)⟩⟩
abbrev ptL (q:Pt):List Value:=[.int .i8 q.reg,.int .i8 q.rm,.int .i64 q.disp,.int .i64 q.imm,.int .i8 q.cc]
abbrev ptM (q:Pt):Array Value:=#[.int .i8 q.reg,.int .i8 q.rm,.int .i64 q.disp,.int .i64 q.imm,.int .i8 q.cc]
def eqP (a b:Pt):Bool:=a.reg == b.reg && a.rm == b.rm && a.disp == b.disp && a.imm == b.imm && a.cc == b.cc
theorem eqP_iff {a b:Pt}:eqP a b=true ↔ a=b:=by
  unfold eqP
  cases a;cases b
  simp [and_assoc]
theorem eq_p (a b:Pt) (w:World):(Op.equalIn 10000 64 (.agg (ptM a)) (.agg (ptM b))).run Tryd.prog w=.ok (eqP a b) w:=by
  simp [go_sem]
  unfold eqP
  (repeat' split) <;> simp [*]
theorem ym_at {zs:List Int} {f:Fd} {pre:List (Int × Cd)} {x:Int × Cd} {W w:World} {k:Nat} {X:Xi} (hc:cands zs=allOps.flatMap (candC f)) (hy:YC pre x W) (fj:(pre ++ [x]).flatMap (candC f)=pre.flatMap (candC f) ++ widthsL.flatMap (candW f x)) (hk:k < 5) (hX:candW f x (widthsL.getD k 0)=[X]):YM zs (pre.flatMap (candC f) ++ (widthsL.take k).flatMap (candW f x)) X w:=by
  obtain ⟨i,hi,rfl,rfl⟩:=hy
  have h1:allOps=(allOps.take i ++ [allOps.getD i (0,zCd)]) ++ allOps.drop (i + 1):=by rw [← allOps_take i hi,List.take_append_drop]
  have h2:widthsL=(widthsL.take k ++ [widthsL.getD k 0]) ++ widthsL.drop (k + 1):=by rw [← widthsL_take k hk,List.take_append_drop]
  have h3:widthsL.flatMap (candW f (allOps.getD i (0,zCd)))=(widthsL.take k).flatMap (candW f (allOps.getD i (0,zCd))) ++ X :: (widthsL.drop (k + 1)).flatMap (candW f (allOps.getD i (0,zCd))):=by
    conv=>lhs;rw [h2]
    rw [List.flatMap_append,List.flatMap_append,List.flatMap_cons,List.flatMap_nil,hX]
    simp
  refine ⟨(widthsL.drop (k + 1)).flatMap (candW f (allOps.getD i (0,zCd))) ++ (allOps.drop (i + 1)).flatMap (candC f),?_⟩
  rw [hc]
  conv=>lhs;rw [h1]
  rw [List.flatMap_append,fj,h3]
  simp
theorem yieldAt_inM {l l' n m:Nat} {P:Program} {args:Array Value} {W:World} {R:Ending → World → Prop} (h:YieldAt Fence.wide n P l' args W R):YieldAt (Fence.wide.inRound l) m P l' args W R:=by
  obtain ⟨fn,tmps,assign,body,h1,h2⟩:=h
  exact ⟨fn,tmps,assign,body,h1,h2.1,fun c cs hroom=>h2.2 c cs (room_wide _)⟩
def S13 (A B C:World → Prop) (fl:Nat → Bool) (u:Nat → Value) (w:World):Prop:=(fl 4=false ∧ fl 5=false ∧ A w) ∨ (fl 4=true ∧ ∃ bb:Bool,u 55=.bool bb ∧ (fl 5=true → u 56=.bool (!bb)) ∧ (fl 6=true → u 57=.bool (!bb)) ∧ (match bb with | true=>B w | false=>C w))
section
variable {A B C:World → Prop} {fl:Nat → Bool} {u:Nat → Value} {w:World}
theorem S13.loc:Loc [4,5,6] [55,56,57] (S13 A B C):=by
  intro fl fl' u u' w hK hD h
  unfold S13 at *
  simp only [hK 4 (by decide),hK 5 (by decide),hK 6 (by decide),hD 55 (by decide),hD 56 (by decide),hD 57 (by decide)]
  exact h
theorem S13.was (h:S13 A B C fl u w) (f:fl 4=false):A w:=by
  rcases h with h | h
  · exact h.2.2
  · rw [f] at h;cases h.1
end
theorem mw_keep {J:List Xi → World → Prop} {f:Fd} {c:Cd} {q:Pt} {fB yB cB pB l B p len cap r m m2:Nat} {xs xs':List Xi} {W w w':World} (h:MW J f c q fB yB cB pB l B p len cap xs W w ∧ KeepsFrom m W w ∧ KeepK (kR r) W w) (kp:KeepK (kR r) w w') (kf:KeepsFrom m2 w w') (hj:J xs' w') (hr:3 ≤ r) (h1:r + 3 ≤ fB) (h2:r + 3 ≤ yB) (h3:r + 3 ≤ cB) (h3':True) (h4:r + 3 ≤ pB) (hm:m2 ≤ m) (hB:B < r):MW J f c q fB yB cB pB l B p len cap xs' W w' ∧ KeepsFrom m W w' ∧ KeepK (kR r) W w':=
  ⟨⟨hj,h.1.t.keep kp hr,keep_row kp h.1.fo (.inr h1),keep_row kp h.1.y (.inr h2),h.1.b.same (fun B' o e _ _ _ hb=>by
      injection e with e
      injection e with e
      subst e
      exact keep_row kp hb (.inl hB)),keep_row kp h.1.c (.inr h3),keep_row kp h.1.q (.inr h4),Nat.le_trans h.1.s kp.size⟩,
    h.2.1.trans ⟨kf.size,fun k o hk ho hc=>kf.same k o (by omega) ho hc⟩,h.2.2.trans kp⟩
set_option maxHeartbeats 16000000 in
theorem maybe_seq (r n:Nat) (hr:3 ≤ r) (hn:4 ≤ n) (bB:Nat) (a:Option Addr) (len cap:Nat) (zs:List Int) (w0:World) (hw:r + 3 ≤ w0.heap.size) (hT:Tab3 w0) (hb:w0.heap[bB]?=some (.cells #[.slice a len cap] 22 (0,0))) (hz:BytesAt w0 a len cap zs) (hB:0 < len → ∀ B o,a=some ⟨B,o,none⟩ → B < r):
    SeqK (fun _=>false) (kR r) 0 n Tryd.prog 23 #[] #[.pointer (some ⟨bB,0,none⟩)] encM (YM zs) (SM zs) (SpM zs) w0:=by
  intro l J Jx W hW hJ hJx hY hJ0
  have mo:Tryd.prog.follows .mixedOrders=true:=by kernel_rfl
  have hzW:=hW.size
  have T0:=Lib.hid (hT.below hW (Nat.le_refl _))
  have cb:=row_cell (row_heap hb hW) 0 _ rfl
  have Z0:=Lib.hid (hz.below hW)
  have lb:=lt_cell cb
  have cb1:=cell_b cb (below_new (Below.refl _ _) (.cells #[.func (.yield l) #[] #[]] 52))
  have y1:=heap_last W (.cells #[.func (.yield l) #[] #[]] 52) _ rfl
  have b1:=below_new (Below.refl W.heap.size W) (.cells #[.func (.yield l) #[] #[]] 52)
  have J0:=Lib.hid hJ0
  have HJ:=Lib.hid hJ
  have HJX:=Lib.hid hJx
  have HY:=Lib.hid hY
  have FI:=Lib.hid (find_n a len cap zs _ (Z0.out.below b1))
  have B1:=Lib.hid b1
  have Y1:=Lib.hid y1
  clear hJ0 hJ hJx hY hT hz hb cb b1 y1 hW
  show CallsIn Fence.wide n Tryd.prog 23 #[.func (.yield l) #[] #[],.pointer (some ⟨bB,0,none⟩)] W _
  refine callsIn_of_wp_marks Tryd.func23 rfl trivial ?_ rfl
  simp only [Tryd.ntmps23,List.size_toArray,List.length_cons,List.length_nil,Nat.reduceAdd,Nat.reduceSub,Array.replicate_succ,Array.replicate_zero,List.push_toArray,List.append_toArray,List.nil_append,List.cons_append]
  refine (wpIn_wide (n:=n)).2 ?_
  go_wp2_with fail
  refine FI.out.mono ?_
  rintro e w2 ⟨s,rfl,hs,b2⟩
  generalize W.alloc (.cells #[.func (.yield l) #[] #[]] 52)=w1 at *
  have B2:=Lib.hid b2
  clear b2 FI
  cases hf:findP zs with
  | none=>
    have hc:cands zs=[]:=by unfold cands;rw [hf]
    clear hs hf
    have JE:=Lib.hid (fun (w:World) (b:Below w2.heap.size w2 w)=>HJ.out [] W w J0.out (.of_below (B1.out.trans ((B2.out.mono B1.out.size).trans (b.mono (Nat.le_trans B1.out.size B2.out.size))))))
    have HC:=Lib.hid hc
    clear hc
    simp only [foundV]
    go_wp2_with fail
    exact ⟨_,results_none rfl _ _ _,⟨_,rfl⟩,.inl ⟨_,HC.out.symm,JE.out _ (below_new (Below.refl _ _) _)⟩⟩
  | some f=>
    obtain ⟨B,p,fl,fc,rfl,zb,p0,ha⟩:=hs f hf
    have hlen:0 < len:=by
      have hzs:=Z0.out.size
      cases zs with
      | nil=>rw [show findP []=none from rfl] at hf;cases hf
      | cons=>rw [hzs];simp
    have hBr:=hB hlen B p0 ha
    have hc:cands zs=allOps.flatMap (candC f):=by unfold cands;rw [hf]
    have b3:=below_new (Below.refl w2.heap.size w2) (.cells (fdC f (.slice (some ⟨B,p,none⟩) fl fc)) 56)
    have hs1:=B1.out.size
    have hs2:=B2.out.size
    have b13:=B1.out.trans ((B2.out.mono hs1).trans (b3.mono (Nat.le_trans hs1 hs2)))
    have M3:=Lib.hid (show MI J f w2.heap.size W.heap.size l B p fl fc [] (w2.alloc (.cells (fdC f (.slice (some ⟨B,p,none⟩) fl fc)) 56)) from
      ⟨HJ.out _ _ _ J0.out (.of_below b13),T0.out.below b13 (Nat.le_refl _),heap_last _ _ _ rfl,row_heap (row_heap Y1.out B2.out) b3,zb.below b3⟩)
    have SEQ:=Lib.hid (fun (hn:2 ≤ n - 1)=>eachCode_seq r (n - 1) hr hn (w2.alloc (.cells (fdC f (.slice (some ⟨B,p,none⟩) fl fc)) 56)) M3.out.t)
    have VA:=Lib.hid (findP_va zs f Z0.out.ok hf)
    have HC:=Lib.hid hc
    have HS3:=Lib.hid (show w2.heap.size + 1 ≤ (w2.alloc (.cells (fdC f (.slice (some ⟨B,p,none⟩) fl fc)) 56)).heap.size from by rw [size_alloc];exact Nat.le_refl _)
    clear hs hf hc b13 b3 zb
    simp only [foundV,fdC] at SEQ M3 HS3 ⊢
    go_wp2_with fail
    generalize w2.alloc (.cells #[.bool f.wide,.int .i8 f.rh,.int .i8 f.mh,.int .u16 f.va,.slice (some ⟨B,p,none⟩) fl fc] 56)=w3 at *
    have hs3:w2.heap.size + 1 ≤ w3.heap.size:=HS3.out
    have hBw:B < w3.heap.size:=by omega
    have AB:∀ γ,w3.heap.size ≤ γ → AbG (fun _=>false) 0 γ (fun pre w=>MI J f w2.heap.size W.heap.size l B p fl fc pre w):=fun γ hγ s A C h t=>h.turn (fun hj=>HJ.out _ _ _ hj (turn_less t (by omega))) t (by omega) (by omega) (by omega) (by omega)
    have AX:∀ γ (c:Code),w3.heap.size ≤ γ → AbG (α:=Int × Cd) (fun _=>false) 0 γ (fun (pre:List (Int × Cd)) w=>c=.ret ∧ ∃ q,SpM zs q w ∧ Jx q w):=fun γ c hγ s A C ⟨h1,q,h2,h3⟩ t=>⟨h1,q,h2,HJX.out _ _ _ h3 (turn_less t (by omega))⟩
    have ABH:=Lib.hid AB
    have AXH:=Lib.hid AX
    clear AB AX
    refine (wpIn_wide (n:=n)).1 ?_
    refine range_K (κ:=kR r) (β:=0) (τ:=fun _=>false) (by omega) (gf:=25) (pa:=#[]) (lb:=#[]) rfl (enters_of Tryd.func25 (by kernel_rfl) rfl) (SEQ.out (by omega)) (Below.refl _ _) (fun _=>rfl)
      (fun pre w=>MI J f w2.heap.size W.heap.size l B p fl fc pre w) (fun cc pre w=>cc=.ret ∧ ∃ q,SpM zs q w ∧ Jx q w)
      ((ABH.out _ (Nat.le_refl _)).own (Nat.le_refl _)) (fun _ _ _ _ _ h _ _=>h) (fun cc=>(AXH.out _ cc (Nat.le_refl _)).own (Nat.le_refl _)) ABH.out AXH.out (fun _ _ _ _ h _ _=>h) (fun _ _ _ _ h _ _=>h) M3.out
      (AxM ?fr w2.heap.size (fun pre w=>MI J f w2.heap.size W.heap.size l B p fl fc pre w)) (AxM.own ((ABH.out _ (Nat.le_refl _)).own (Nat.le_refl _))) ?assign ?body ?done ?stop
    case assign=>
      rintro l9 pre ⟨op,c⟩ W9 K hi hy hK
      have HI:=Lib.hid hi
      have HYC:=Lib.hid hy
      have HK:=Lib.hid hK
      clear hi hy hK
      simp only [encC,cdC]
      refine in_region_seq (by decide) (fun _ _ h=>h) ?_
      intro K1 hK1
      go_wp2_with fail
      refine in_region (by decide) (fun _ _ h=>h) ?_
      intro K2 hK2
      go_wp2_with fail
      have bw:=below_new (Below.refl W9.heap.size W9) (.cells #[.int .i8 c.sh,.int .i8 c.wd,.int .u16 c.va,.int .i8 c.dg,.int .u16 c.lo] 61)
      obtain ⟨cB,hcB⟩:∃ cB,cB=W9.heap.size:=⟨_,rfl⟩
      rw [← hcB]
      refine HK.out _ _ ⟨bw.size,fun q o _ hq _=>(bw.block q (Array.getElem?_eq_some_iff.1 hq).1).trans hq⟩ ⟨bw.size,fun q o hq _=>(bw.block q (Array.getElem?_eq_some_iff.1 hq).1).trans hq⟩ ⟨cB,?_,HI.out.below (HJ.out _ _ _ HI.out.j (.of_below bw)) bw,HYC.out,heap_last _ _ _ hcB,by rw [hcB];exact Nat.le_of_lt (Array.getElem?_eq_some_iff.1 HI.out.fo).1⟩
      show _=?fr op c cB
      rfl
    case body=>
      rintro l9 pre ⟨op,c⟩ a' W9 ⟨cB,rfl,hM,hy,hc,hcB⟩
      have hcand:=hy
      have hmem:c ∈ allC:=allOps_mem hy
      have IS:=Lib.hid (fun (w:World) (h:w.heap[w2.heap.size]?=some (.cells (fdC f (.slice (some ⟨B,p,none⟩) fl fc)) 56 (0,0)))=>is_n w2.heap.size f (.slice (some ⟨B,p,none⟩) fl fc) c w h)
      have PA:=Lib.hid (fun (w:World) (h:w.heap[w2.heap.size]?=some (.cells (fdC f (.slice (some ⟨B,p,none⟩) fl fc)) 56 (0,0))) (b:BytesAt w (some ⟨B,p,none⟩) fl fc f.bh)=>parts_n w2.heap.size B p fl fc f c hmem w h b VA.out.1 VA.out.2)
      generalize hPV:partsF f c=PV at PA
      have FL:=Lib.hid (fun (v:Int) (q:Pt) (w:World)=>cfilled_n op v c q hmem w)
      have PO:=Lib.hid (fun (x:Xi) (w:World)=>cparts_n x c hmem w)
      have HM:=Lib.hid hM
      have HCB:=Lib.hid hc
      clear hM hc hy
      have fj:((pre ++ [(op,c)]).flatMap (candC f))=pre.flatMap (candC f) ++ candC f (op,c):=by simp
      refine wpIn_block ?_
      refine wpIn_seq ?_
      refine wpIn_seq ?_
      refine in_region (by decide) (fun _ _ h=>h) ?_
      intro K1 hK1
      go_wp2_with (with_reducible refine (halt_load 61 _ rfl ?_))
      refine ⟨?_,trivial⟩
      refine wpList_load_row rfl 61 _ rfl _ rfl _ _ _ _ HCB.out Tryd.underlying61 rfl (by kernel_rfl) ?_
      go_wp2_with fail
      refine (IS.out _ HM.out.fo).mono ?_
      rintro e w4 ⟨rfl,b4⟩
      have M4:=Lib.hid (HM.out.below (HJ.out _ _ _ HM.out.j (.of_below b4)) b4)
      have C4:=Lib.hid (row_heap HCB.out b4)
      have B4:=Lib.hid b4
      clear b4
      cases his:isF f.va c with
      | false=>
        have hcn:candC f (op,c)=[]:=by unfold candC;rw [if_neg (by rw [his];decide)]
        go_wp2_with fail
        refine wpIn_cond_true rfl ?_
        refine wpIn_exit ?_
        simp only [Exit.then,Exit.inBlock,if_true]
        refine ⟨⟨B4.out.size,fun q o _ hq _=>(B4.out.block q (Array.getElem?_eq_some_iff.1 hq).1).trans hq⟩,⟨B4.out.size,fun q o hq _=>(B4.out.block q (Array.getElem?_eq_some_iff.1 hq).1).trans hq⟩,?_⟩
        have M5:=M4.out
        refine ⟨?_,M5.t,M5.fo,M5.y,M5.b⟩
        rw [fj,hcn,List.append_nil]
        exact M5.j
      | true=>
        have hcn:candC f (op,c)=widthsL.flatMap (candW f (op,c)):=by unfold candC;rw [if_pos (by rw [his])]
        rw [hcn] at fj
        have FJ:=Lib.hid fj
        clear his hcn fj
        go_wp2_with fail
        refine wpIn_cond_false rfl ?_
        refine wpIn_skip ?_
        simp only [Exit.then]
        refine wpIn_seq ?_
        refine in_region (by decide) (fun _ _ h=>h) ?_
        intro K2 hK2
        go_wp2_with (with_reducible refine (halt_load 61 _ rfl ?_))
        refine ⟨?_,trivial⟩
        refine wpList_load_row rfl 61 _ rfl _ rfl _ _ _ _ C4.out Tryd.underlying61 rfl (by kernel_rfl) ?_
        go_wp2_with fail
        refine (PA.out _ M4.out.fo M4.out.b).mono ?_
        rintro e w5 ⟨rfl,b5⟩
        have b6:=b5.trans ((below_new (Below.refl w5.heap.size w5) (.cells #[.int .i8 PV.reg,.int .i8 PV.rm,.int .i64 PV.disp,.int .i64 PV.imm,.int .i8 PV.cc] 64)).mono b5.size)
        have b9:=B4.out.trans (b6.mono B4.out.size)
        have N6:=Lib.hid (show MW J f c PV w2.heap.size W.heap.size cB w5.heap.size l B p fl fc (pre.flatMap (candC f) ++ (widthsL.take 0).flatMap (candW f (op,c))) W9 (w5.alloc (.cells #[.int .i8 PV.reg,.int .i8 PV.rm,.int .i64 PV.disp,.int .i64 PV.imm,.int .i8 PV.cc] 64)) from
          ⟨by rw [show (widthsL.take 0).flatMap (candW f (op,c))=[] from rfl,List.append_nil];exact HJ.out _ _ _ HM.out.j (.of_below b9),HM.out.t.below b9 (Nat.le_refl _),row_heap HM.out.fo b9,row_heap HM.out.y b9,HM.out.b.below b9,row_heap HCB.out b9,heap_last _ _ _ rfl,b9.size⟩)
        have K6:=Lib.hid (show KeepsFrom w3.heap.size W9 (w5.alloc (.cells #[.int .i8 PV.reg,.int .i8 PV.rm,.int .i64 PV.disp,.int .i64 PV.imm,.int .i8 PV.cc] 64)) ∧ KeepK (kR r) W9 (w5.alloc (.cells #[.int .i8 PV.reg,.int .i8 PV.rm,.int .i64 PV.disp,.int .i64 PV.imm,.int .i8 PV.cc] 64)) from
          ⟨⟨b9.size,fun q o _ hq _=>(b9.block q (Array.getElem?_eq_some_iff.1 hq).1).trans hq⟩,⟨b9.size,fun q o hq _=>(b9.block q (Array.getElem?_eq_some_iff.1 hq).1).trans hq⟩⟩)
        obtain ⟨TW,frw,ow⟩:=N6.out.t.ws
        have OW:=Lib.hid ow
        have P5:=Lib.hid (show w2.heap.size ≤ w5.heap.size from Nat.le_trans (Nat.le_of_lt (Array.getElem?_eq_some_iff.1 HM.out.fo).1) (Nat.le_trans B4.out.size b5.size))
        clear b5 b6 b9 ow
        go_wp2_with fail
        refine wpIn_seq ?_
        refine in_region (by decide) (fun _ _ h=>h) ?_
        intro K3 hK3
        go_wp2_with (with_reducible refine (halt_load 66 _ rfl ?_))
        refine ⟨?_,trivial⟩
        refine wpList_load_row rfl _ _ rfl _ rfl _ _ _ _ OW.out Tryd.underlying66 rfl (by kernel_rfl) ?_
        go_wp2_with fail
        generalize w5.alloc (.cells #[.int .i8 PV.reg,.int .i8 PV.rm,.int .i64 PV.disp,.int .i64 PV.imm,.int .i8 PV.cc] 64)=w6 at *
        refine wpIn_block ?_
        gi_loopw [27] (fun i wr=>∃ k:Nat,k ≤ 5 ∧ i=.int .i64 k ∧ Hid (MW J f c PV w2.heap.size W.heap.size cB w5.heap.size l B p fl fc (pre.flatMap (candC f) ++ (widthsL.take k).flatMap (candW f (op,c))) W9 wr ∧ KeepsFrom w3.heap.size W9 wr ∧ KeepK (kR r) W9 wr)) (fun i _=>5 - (intOf i).toNat)
        case atStart=>exact ⟨0,by omega,rfl,Lib.hid ⟨N6.out,K6.out.1,K6.out.2⟩⟩
        case round=>
          obtain ⟨k,hk,rfl,HR⟩:=hrel
          by_cases hlt:k < 5
          · have k1:(k:Int) < 5:=by omega
            have ix:=ixw k hlt
            have tk:=widthsL_take k hlt
            generalize hv0:widthsL.getD k 0=v at *
            have TK:=Lib.hid (show pre.flatMap (candC f) ++ (widthsL.take (k + 1)).flatMap (candW f (op,c))=(pre.flatMap (candC f) ++ (widthsL.take k).flatMap (candW f (op,c))) ++ candW f (op,c) v from by rw [tk];simp)
            have HS:=Lib.hid (fun (w:World)=>chas_n c v w)
            have YX:=Lib.hid (fun (X:Xi) (w:World) (h:candW f (op,c) v=[X])=>ym_at (w:=w) HC.out hcand FJ.out hlt (by rw [hv0];exact h))
            have fw:wr.cell? ⟨w2.heap.size,0,none⟩=some (.bool f.wide):=row_cell HR.out.1.fo 0 _ rfl
            clear tk hv0
            refine in_region_seq (by decide) (fun _ _ h=>h) ?_
            intro K4 hK4
            go_wp2_with fail
            refine wpIn_seq ?_
            refine wpIn_cond_true rfl ?_
            refine wpIn_skip ?_
            simp only [Exit.then]
            refine wpIn_seq ?_
            refine wpIn_block ?_
            refine in_region_seq (by decide) (fun _ _ h=>h) ?_
            intro K5 hK5
            go_wp2_with fail
            clear ix
            refine wpIn_seq ?_
            refine wpIn_seq ?_
            refine in_region (by decide) (fun _ _ h=>h) ?_
            intro K6 hK6
            go_wp2_with (with_reducible refine (halt_load 61 _ rfl ?_))
            refine ⟨?_,trivial⟩
            refine wpList_load_row rfl 61 _ rfl _ rfl _ _ _ _ HR.out.1.c Tryd.underlying61 rfl (by kernel_rfl) ?_
            go_wp2_with fail
            refine (HS.out _).mono ?_
            rintro e w7 ⟨rfl,b7⟩
            have fw7:=cell_b fw b7
            have R7:=Lib.hid (mw_below HR.out b7 (HJ.out _ _ _ HR.out.1.j (.of_below b7)))
            clear b7 fw HR
            cases hh:hasB c v with
            | false=>
              have hcw:candW f (op,c) v=[]:=by unfold candW;rw [if_neg (by rw [hh];simp)]
              rw [hcw,List.append_nil] at TK
              clear hcw hh
              go_wp2_with fail
              refine wpIn_cond_true rfl ?_
              refine wpIn_exit ?_
              simp only [Exit.then,Exit.inBlock,if_true]
              refine in_region (by decide) (fun _ _ h=>h) ?_
              intro K9 hK9
              go_wp2_with fail
              go_roundw
              case rel=>exact ⟨k + 1,by omega,by go_num,Lib.hid (by rw [TK.out];exact R7.out)⟩
              case measure=>simp [intOf];omega
            | true=>
              cases hv:(v == 64) <;> rcases Bool.eq_false_or_eq_true f.wide with hf1 | hf1
              · have hcw:candW f (op,c) v=[]:=by unfold candW;rw [if_neg (by rw [hf1,hv];simp)]
                rw [hcw,List.append_nil] at TK
                rw [hf1] at fw7
                clear hcw hh hf1
                go_wp2_with fail
                refine wpIn_cond_true rfl ?_
                refine wpIn_exit ?_
                simp only [Exit.then,Exit.inBlock,if_true]
                refine in_region (by decide) (fun _ _ h=>h) ?_
                intro K9 hK9
                go_wp2_with fail
                go_roundw
                case rel=>exact ⟨k + 1,by omega,by go_num,Lib.hid (by rw [TK.out];exact R7.out)⟩
                case measure=>simp [intOf];omega
              · rw [hf1] at fw7
                have CW:Hid (candW f (op,c) v=if partsP (filledP op v c PV) c=PV then [filledP op v c PV] else []):=Lib.hid (by unfold candW;simp only [hh,hf1,hv,hPV,true_and])
                clear hh hf1
                go_wp2_with fail
                clear fw7
                refine wpIn_cond_false rfl ?_
                refine wpIn_skip ?_
                simp only [Exit.then]
                refine in_region_seq (by decide) (fun _ _ h=>h) ?_
                intro K7 hK7
                go_wp2_with (with_reducible refine (halt_load 61 _ rfl ?_))
                refine ⟨?_,trivial⟩
                refine wpList_load_row rfl 61 _ rfl _ rfl _ _ _ _ R7.out.1.c Tryd.underlying61 rfl (by kernel_rfl) ?_
                go_wp2_with (with_reducible refine (halt_load 64 _ rfl ?_))
                refine ⟨?_,trivial⟩
                refine wpList_load_row rfl 64 _ rfl _ rfl _ _ _ _ R7.out.1.q Tryd.underlying64 rfl (by kernel_rfl) ?_
                go_wp2_with fail
                refine (FL.out v PV _).mono ?_
                rintro e w8 ⟨rfl,b8⟩
                generalize filledP op v c PV=X at *
                have b9:=b8.trans ((below_new (Below.refl w8.heap.size w8) (.cells (xC X) 26)).mono b8.size)
                have R9:=Lib.hid (mw_below R7.out b9 (HJ.out _ _ _ R7.out.1.j (.of_below b9)))
                have X9:=Lib.hid (heap_last w8 (.cells (xC X) 26) _ rfl)
                have XB:=Lib.hid (show w2.heap.size ≤ w8.heap.size from Nat.le_trans (Nat.le_of_lt (Array.getElem?_eq_some_iff.1 R7.out.1.fo).1) b8.size)
                clear b8 b9 R7
                go_wp2_with fail
                generalize w8.alloc (.cells (xC X) 26)=w9 at *
                refine wpIn_seq ?_
                refine go_regd (F:=Fence.wide.inRound l9) (m:=n - 1 - 1) (fun fl u w=>Below w9.heap.size w9 w) [] [] [some (.agg (xC X)),some (.agg (cdC c)),some (.agg (ptM (partsP X c))),some (.agg (ptM PV)),some (.bool (eqP (partsP X c) PV)),some (.bool (eqP (partsP X c) PV))] mo (fun fl fl' u u' w hK hD h=>h) rfl rfl (by kernel_rfl) (fun fl w1 hfl b _=>b) (
                 yc (@fun fl ax wx cx=>cx.iv (fun _=>trivial) (exec_loadR 26 _ rfl (w8.heap.size) 0 (cx.rq 10 rfl) (heap_below cx.S X9.out (Nat.le_refl _)) [.int .i8 X.op,.int .i8 X.w,.int .i8 X.dst,.int .i8 X.src,.int .i8 X.base,.int .i64 X.disp,.int .i64 X.imm,.int .i8 X.cc] rfl _ Tryd.underlying26 rfl (by kernel_rfl)) rfl rfl rfl) <|
                 yc (@fun fl ax wx cx=>cx.iv (fun _=>trivial) (exec_loadR 61 _ rfl (cB) 0 (cx.rq 6 rfl) (heap_below cx.S R9.out.1.c (Nat.le_refl _)) (cdL c) rfl _ Tryd.underlying61 rfl (by kernel_rfl)) rfl rfl rfl) <|
                 yc (@fun fl ax wx cx=>by
                   refine wpOpIn_call (fun _=>trivial) rfl cx.ho (wn rfl) (noDefer_of rfl) (exec_call rfl rfl rfl (args2 (cx.u 0 rfl) (cx.u 1 rfl)) Tryd.func30 (by decide +kernel) (by decide +kernel)) ((callsIn_wide (n:=n - 1 - 1 - 1)).2 ((PO.out X wx).mono ?_))
                   rintro e w' ⟨rfl,b9⟩
                   exact ⟨_,rfl,_,rfl,own_some (n:=59) rfl cx.sz rfl,cx.S.trans (b9.mono cx.S.size)⟩) <|
                 yc (@fun fl ax wx cx=>cx.iv (fun _=>trivial) (exec_loadR 64 _ rfl (w5.heap.size) 0 (cx.rq 7 rfl) (heap_below cx.S R9.out.1.q (Nat.le_refl _)) (ptL PV) rfl _ Tryd.underlying64 rfl (by kernel_rfl)) rfl rfl rfl) <|
                 yc (@fun fl ax wx cx=>cx.iv (fun _=>trivial) (exec_eql (x:=.tmp 48) (y:=.tmp 49) rfl (cx.u 0 rfl) (cx.u 1 rfl) (by kernel_rfl) (eq_p _ _ _)) rfl rfl rfl) <|
                 yc (@fun fl ax wx cx=>cx.iv (fun _=>trivial) (ex_as rfl (cx.u 0 rfl)) rfl rfl rfl) <|
                 yn) ?_
                intro a9 w10 f9
                obtain ⟨fl9,_,b10⟩:=f9.s
                have g11:a9.tmps.getD 11 undef=.bool (eqP (partsP X c) PV):=f9.v 5 rfl rfl rfl
                rw [f9.frame rfl rfl]
                clear f9
                rw [show outs _ (fun d=>a9.tmps.getD d undef)=[(46,a9.tmps.getD 46 undef),(47,a9.tmps.getD 47 undef),(48,a9.tmps.getD 48 undef),(49,a9.tmps.getD 49 undef),(50,a9.tmps.getD 50 undef),(11,a9.tmps.getD 11 undef)] by kernel_rfl,g11]
                simp only [putAll,List.setIfInBounds_toArray,List.set_cons_zero,List.set_cons_succ,Exit.then]
                generalize a9.tmps.getD 46 undef=y46
                generalize a9.tmps.getD 47 undef=y47
                generalize a9.tmps.getD 48 undef=y48
                generalize a9.tmps.getD 49 undef=y49
                generalize a9.tmps.getD 50 undef=y50
                clear g11 a9
                have R10:=Lib.hid (mw_below R9.out b10 (HJ.out _ _ _ R9.out.1.j (.of_below b10)))
                have X10:=Lib.hid (row_heap X9.out b10)
                clear b10 R9 X9
                cases hq:eqP (partsP X c) PV with
                | false=>
                  have CW2:=CW.out
                  rw [if_neg (fun e=>by rw [eqP_iff.2 e] at hq;cases hq)] at CW2
                  rw [CW2,List.append_nil] at TK
                  clear CW2 hq
                  refine in_region_seq (by decide) (fun _ _ h=>h) ?_
                  intro K8 hK8
                  go_wp2_with fail
                  refine wpIn_cond_false rfl ?_
                  refine wpIn_skip ?_
                  simp only [Exit.then,Exit.inBlock,if_true]
                  refine in_region (by decide) (fun _ _ h=>h) ?_
                  intro K9 hK9
                  go_wp2_with fail
                  go_roundw
                  case rel=>exact ⟨k + 1,by omega,by go_num,Lib.hid (by rw [TK.out];exact R10.out)⟩
                  case measure=>simp [intOf];omega
                | true=>
                  have CW2:=CW.out
                  rw [if_pos (eqP_iff.1 hq)] at CW2
                  have YZ:=Lib.hid (YX.out X w10 CW2)
                  have YY:=Lib.hid (HY.out _ X w10 R10.out.1.j YZ.out)
                  rw [CW2] at TK
                  clear CW2 hq
                  obtain ⟨XL,HXL⟩:∃ XL,XL=(pre.flatMap (candC f) ++ (widthsL.take k).flatMap (candW f (op,c))) ++ [X]:=⟨_,rfl⟩
                  rw [← HXL] at TK
                  refine wpIn_seq ?_
                  refine go_regi (F:=Fence.wide.inRound l9) (m:=n - 1 - 1) (S13 (fun w=>w=w10) (fun w=>J XL w ∧ KeepK (kR r) w10 w ∧ KeepsFrom W.heap.size w10 w) (fun w=>Jx XL w ∧ KeepK (kR r) w10 w ∧ KeepsFrom W.heap.size w10 w)) [4,5,6] [55,56,57] [some (.bool true),some (.bool true),some (.func (.yield l) #[] #[]),some (.agg (xC X)),none,none,none] S13.loc rfl rfl (by kernel_rfl) (fun fl h=>.inl ⟨h 4 (by decide),h 5 (by decide),rfl⟩) (
                   xc (@fun fl ax wx cx sq=>cx.iv (fun _=>trivial) (ex_mv rfl (cx.rq 11 rfl)) rfl rfl rfl) <|
                   xc (@fun fl ax wx cx sq=>cx.iv (fun _=>trivial) (ex_mv rfl (cx.u 0 rfl)) rfl rfl rfl) <|
                   xc (@fun fl ax wx cx sq=>cx.ival (fun _=>trivial) (cx.wy rfl rfl rfl rfl (cx.u 0 rfl)) (ex_ld rfl (cx.rq 2 rfl) ((cx.S.was (sq 4 (by decide) (by decide))) ▸ R10.out.1.y) rfl Tryd.isAgg52) rfl rfl rfl rfl rfl) <|
                   xc (@fun fl ax wx cx sq=>cx.ival (fun _=>trivial) (cx.wy rfl rfl rfl rfl (cx.u 0 rfl)) (exec_loadR 26 _ rfl (w8.heap.size) 0 (cx.rq 10 rfl) ((cx.S.was (sq 4 (by decide) (by decide))) ▸ X10.out) [.int .i8 X.op,.int .i8 X.w,.int .i8 X.dst,.int .i8 X.src,.int .i8 X.base,.int .i64 X.disp,.int .i64 X.imm,.int .i8 X.cc] rfl _ Tryd.underlying26 rfl (by kernel_rfl)) rfl rfl rfl rfl rfl) <|
                   xc (@fun fl ax wx cx sq=>by
                     have e:=cx.S.was (sq 4 (by decide) (by decide))
                     refine wpOpIn_yield (fun _=>trivial) rfl cx.ho (cx.wy rfl rfl rfl rfl (cx.u 3 rfl)) rfl (cx.u 0 rfl) (cx.u 1 rfl) (yieldAt_inM (n:=n - 1) ?_)
                     rw [e]
                     refine YieldAt.mono YY.out ?_
                     rintro e w9 (⟨rfl,h1,h2,h3⟩ | ⟨rfl,h1,h2,h3⟩)
                     · exact ⟨_,rfl,_,rfl,trivial,.inr ⟨upd_new _ _,true,slot_new cx.sz rfl,fun h=>absurd ((upd_old fl rfl).symm.trans h) (by rw [sq 5 (by decide) (by decide)];decide),fun h=>absurd ((upd_old fl rfl).symm.trans h) (by rw [sq 6 (by decide) (by decide)];decide),HXL ▸ h1,h2,h3⟩⟩
                     · exact ⟨_,rfl,_,rfl,trivial,.inr ⟨upd_new _ _,false,slot_new cx.sz rfl,fun h=>absurd ((upd_old fl rfl).symm.trans h) (by rw [sq 5 (by decide) (by decide)];decide),fun h=>absurd ((upd_old fl rfl).symm.trans h) (by rw [sq 6 (by decide) (by decide)];decide),HXL ▸ h1,h2,h3⟩⟩) <|
                   xc (@fun fl ax wx cx sq=>by
                     rcases cx.S with h | ⟨h,bb,h55,_,_,h2⟩
                     · exact absurd h.1 (by rw [show fl 4=true from cx.did 0 rfl rfl];decide)
                     · refine wpOpIn_v (fun _=>trivial) cx.ho (cx.wy rfl rfl rfl rfl (cx.u 1 rfl)) (noDefer_of rfl) (ex_not (x:=.tmp 55) (c:=bb) rfl (show ax.eval (.tmp 55)=_ from h55)) ⟨_,rfl,trivial,?_⟩
                       exact .inr ⟨(upd_old fl rfl).trans h,bb,(slot_old rfl).trans h55,fun _=>slot_new cx.sz rfl,fun h=>absurd ((upd_old fl rfl).symm.trans h) (by rw [sq 6 (by decide) (by decide)];decide),h2⟩) <|
                   xc (@fun fl ax wx cx sq=>by
                     rcases cx.S with h | ⟨h,bb,h55,h56,_,h2⟩
                     · exact absurd (show fl 5=true from cx.did 1 rfl rfl) (by rw [h.2.1];decide)
                     · have h56:=h56 (cx.did 1 rfl rfl)
                       refine wpOpIn_v (fun _=>trivial) cx.ho (wn rfl) (noDefer_of rfl) (ex_pt rfl (cx.u 0 rfl) (show ax.eval (.tmp 56)=_ from h56)) ⟨_,rfl,trivial,?_⟩
                       exact .inr ⟨(upd_old fl rfl).trans h,bb,(slot_old rfl).trans h55,fun _=>(slot_old rfl).trans h56,fun _=>slot_new cx.sz rfl,h2⟩) <|
                   xn) ?_
                  intro a11 w11 f11
                  obtain ⟨fl,hfl,hs⟩:=f11.s
                  rcases hs with hs | ⟨q4,bb,q55,q56,h57,hs⟩
                  · exact absurd hs.1 (by rw [hfl 4 (by decide)];decide)
                  have g57:a11.tmps.getD 57 undef=.bool (!bb):=h57 (hfl 6 (by decide))
                  rw [f11.frame rfl rfl]
                  clear f11
                  rw [show outs _ (fun d=>a11.tmps.getD d undef)=[(51,a11.tmps.getD 51 undef),(52,a11.tmps.getD 52 undef),(53,a11.tmps.getD 53 undef),(54,a11.tmps.getD 54 undef),(55,a11.tmps.getD 55 undef),(56,a11.tmps.getD 56 undef),(57,a11.tmps.getD 57 undef)] by kernel_rfl,g57]
                  simp only [putAll,List.setIfInBounds_toArray,List.set_cons_zero,List.set_cons_succ,Exit.then]
                  generalize a11.tmps.getD 51 undef=y51
                  generalize a11.tmps.getD 52 undef=y52
                  generalize a11.tmps.getD 53 undef=y53
                  generalize a11.tmps.getD 54 undef=y54
                  generalize a11.tmps.getD 55 undef=y55
                  generalize a11.tmps.getD 56 undef=y56
                  clear g57 h57 hfl q4 q55 q56 a11
                  cases bb with
                  | true=>
                    obtain ⟨j11,kp,kf⟩:=hs
                    have R11:=Lib.hid (mw_keep R10.out kp kf j11 hr (by omega) (by omega) (by omega) trivial (by have:=P5.out;omega) (by omega) hBr)
                    clear j11 kp kf
                    refine wpIn_cond_false rfl ?_
                    refine wpIn_skip ?_
                    simp only [Exit.then,Exit.inBlock,if_true]
                    refine in_region (by decide) (fun _ _ h=>h) ?_
                    intro K9 hK9
                    go_wp2_with fail
                    go_roundw
                    case rel=>exact ⟨k + 1,by omega,by go_num,Lib.hid (by rw [TK.out];exact R11.out)⟩
                    case measure=>simp [intOf];omega
                  | false=>
                    obtain ⟨j11,kp,kf⟩:=hs
                    refine wpIn_cond_true rfl ?_
                    refine wpIn_ret ?_
                    refine ⟨R10.out.2.1.trans ⟨kf.size,fun q o hq h ho=>kf.same q o (by omega) h ho⟩,R10.out.2.2.trans kp,rfl,XL,?_,j11⟩
                    obtain ⟨suf,hsuf⟩:=YZ.out
                    exact ⟨suf,by rw [HXL,hsuf];simp⟩
              · rw [hf1] at fw7
                have CW:Hid (candW f (op,c) v=if partsP (filledP op v c PV) c=PV then [filledP op v c PV] else []):=Lib.hid (by unfold candW;simp only [hh,hf1,hv,hPV,true_and])
                clear hh hf1
                go_wp2_with fail
                clear fw7
                refine wpIn_cond_false rfl ?_
                refine wpIn_skip ?_
                simp only [Exit.then]
                refine in_region_seq (by decide) (fun _ _ h=>h) ?_
                intro K7 hK7
                go_wp2_with (with_reducible refine (halt_load 61 _ rfl ?_))
                refine ⟨?_,trivial⟩
                refine wpList_load_row rfl 61 _ rfl _ rfl _ _ _ _ R7.out.1.c Tryd.underlying61 rfl (by kernel_rfl) ?_
                go_wp2_with (with_reducible refine (halt_load 64 _ rfl ?_))
                refine ⟨?_,trivial⟩
                refine wpList_load_row rfl 64 _ rfl _ rfl _ _ _ _ R7.out.1.q Tryd.underlying64 rfl (by kernel_rfl) ?_
                go_wp2_with fail
                refine (FL.out v PV _).mono ?_
                rintro e w8 ⟨rfl,b8⟩
                generalize filledP op v c PV=X at *
                have b9:=b8.trans ((below_new (Below.refl w8.heap.size w8) (.cells (xC X) 26)).mono b8.size)
                have R9:=Lib.hid (mw_below R7.out b9 (HJ.out _ _ _ R7.out.1.j (.of_below b9)))
                have X9:=Lib.hid (heap_last w8 (.cells (xC X) 26) _ rfl)
                have XB:=Lib.hid (show w2.heap.size ≤ w8.heap.size from Nat.le_trans (Nat.le_of_lt (Array.getElem?_eq_some_iff.1 R7.out.1.fo).1) b8.size)
                clear b8 b9 R7
                go_wp2_with fail
                generalize w8.alloc (.cells (xC X) 26)=w9 at *
                refine wpIn_seq ?_
                refine go_regd (F:=Fence.wide.inRound l9) (m:=n - 1 - 1) (fun fl u w=>Below w9.heap.size w9 w) [] [] [some (.agg (xC X)),some (.agg (cdC c)),some (.agg (ptM (partsP X c))),some (.agg (ptM PV)),some (.bool (eqP (partsP X c) PV)),some (.bool (eqP (partsP X c) PV))] mo (fun fl fl' u u' w hK hD h=>h) rfl rfl (by kernel_rfl) (fun fl w1 hfl b _=>b) (
                 yc (@fun fl ax wx cx=>cx.iv (fun _=>trivial) (exec_loadR 26 _ rfl (w8.heap.size) 0 (cx.rq 10 rfl) (heap_below cx.S X9.out (Nat.le_refl _)) [.int .i8 X.op,.int .i8 X.w,.int .i8 X.dst,.int .i8 X.src,.int .i8 X.base,.int .i64 X.disp,.int .i64 X.imm,.int .i8 X.cc] rfl _ Tryd.underlying26 rfl (by kernel_rfl)) rfl rfl rfl) <|
                 yc (@fun fl ax wx cx=>cx.iv (fun _=>trivial) (exec_loadR 61 _ rfl (cB) 0 (cx.rq 6 rfl) (heap_below cx.S R9.out.1.c (Nat.le_refl _)) (cdL c) rfl _ Tryd.underlying61 rfl (by kernel_rfl)) rfl rfl rfl) <|
                 yc (@fun fl ax wx cx=>by
                   refine wpOpIn_call (fun _=>trivial) rfl cx.ho (wn rfl) (noDefer_of rfl) (exec_call rfl rfl rfl (args2 (cx.u 0 rfl) (cx.u 1 rfl)) Tryd.func30 (by decide +kernel) (by decide +kernel)) ((callsIn_wide (n:=n - 1 - 1 - 1)).2 ((PO.out X wx).mono ?_))
                   rintro e w' ⟨rfl,b9⟩
                   exact ⟨_,rfl,_,rfl,own_some (n:=59) rfl cx.sz rfl,cx.S.trans (b9.mono cx.S.size)⟩) <|
                 yc (@fun fl ax wx cx=>cx.iv (fun _=>trivial) (exec_loadR 64 _ rfl (w5.heap.size) 0 (cx.rq 7 rfl) (heap_below cx.S R9.out.1.q (Nat.le_refl _)) (ptL PV) rfl _ Tryd.underlying64 rfl (by kernel_rfl)) rfl rfl rfl) <|
                 yc (@fun fl ax wx cx=>cx.iv (fun _=>trivial) (exec_eql (x:=.tmp 48) (y:=.tmp 49) rfl (cx.u 0 rfl) (cx.u 1 rfl) (by kernel_rfl) (eq_p _ _ _)) rfl rfl rfl) <|
                 yc (@fun fl ax wx cx=>cx.iv (fun _=>trivial) (ex_as rfl (cx.u 0 rfl)) rfl rfl rfl) <|
                 yn) ?_
                intro a9 w10 f9
                obtain ⟨fl9,_,b10⟩:=f9.s
                have g11:a9.tmps.getD 11 undef=.bool (eqP (partsP X c) PV):=f9.v 5 rfl rfl rfl
                rw [f9.frame rfl rfl]
                clear f9
                rw [show outs _ (fun d=>a9.tmps.getD d undef)=[(46,a9.tmps.getD 46 undef),(47,a9.tmps.getD 47 undef),(48,a9.tmps.getD 48 undef),(49,a9.tmps.getD 49 undef),(50,a9.tmps.getD 50 undef),(11,a9.tmps.getD 11 undef)] by kernel_rfl,g11]
                simp only [putAll,List.setIfInBounds_toArray,List.set_cons_zero,List.set_cons_succ,Exit.then]
                generalize a9.tmps.getD 46 undef=y46
                generalize a9.tmps.getD 47 undef=y47
                generalize a9.tmps.getD 48 undef=y48
                generalize a9.tmps.getD 49 undef=y49
                generalize a9.tmps.getD 50 undef=y50
                clear g11 a9
                have R10:=Lib.hid (mw_below R9.out b10 (HJ.out _ _ _ R9.out.1.j (.of_below b10)))
                have X10:=Lib.hid (row_heap X9.out b10)
                clear b10 R9 X9
                cases hq:eqP (partsP X c) PV with
                | false=>
                  have CW2:=CW.out
                  rw [if_neg (fun e=>by rw [eqP_iff.2 e] at hq;cases hq)] at CW2
                  rw [CW2,List.append_nil] at TK
                  clear CW2 hq
                  refine in_region_seq (by decide) (fun _ _ h=>h) ?_
                  intro K8 hK8
                  go_wp2_with fail
                  refine wpIn_cond_false rfl ?_
                  refine wpIn_skip ?_
                  simp only [Exit.then,Exit.inBlock,if_true]
                  refine in_region (by decide) (fun _ _ h=>h) ?_
                  intro K9 hK9
                  go_wp2_with fail
                  go_roundw
                  case rel=>exact ⟨k + 1,by omega,by go_num,Lib.hid (by rw [TK.out];exact R10.out)⟩
                  case measure=>simp [intOf];omega
                | true=>
                  have CW2:=CW.out
                  rw [if_pos (eqP_iff.1 hq)] at CW2
                  have YZ:=Lib.hid (YX.out X w10 CW2)
                  have YY:=Lib.hid (HY.out _ X w10 R10.out.1.j YZ.out)
                  rw [CW2] at TK
                  clear CW2 hq
                  obtain ⟨XL,HXL⟩:∃ XL,XL=(pre.flatMap (candC f) ++ (widthsL.take k).flatMap (candW f (op,c))) ++ [X]:=⟨_,rfl⟩
                  rw [← HXL] at TK
                  refine wpIn_seq ?_
                  refine go_regi (F:=Fence.wide.inRound l9) (m:=n - 1 - 1) (S13 (fun w=>w=w10) (fun w=>J XL w ∧ KeepK (kR r) w10 w ∧ KeepsFrom W.heap.size w10 w) (fun w=>Jx XL w ∧ KeepK (kR r) w10 w ∧ KeepsFrom W.heap.size w10 w)) [4,5,6] [55,56,57] [some (.bool true),some (.bool true),some (.func (.yield l) #[] #[]),some (.agg (xC X)),none,none,none] S13.loc rfl rfl (by kernel_rfl) (fun fl h=>.inl ⟨h 4 (by decide),h 5 (by decide),rfl⟩) (
                   xc (@fun fl ax wx cx sq=>cx.iv (fun _=>trivial) (ex_mv rfl (cx.rq 11 rfl)) rfl rfl rfl) <|
                   xc (@fun fl ax wx cx sq=>cx.iv (fun _=>trivial) (ex_mv rfl (cx.u 0 rfl)) rfl rfl rfl) <|
                   xc (@fun fl ax wx cx sq=>cx.ival (fun _=>trivial) (cx.wy rfl rfl rfl rfl (cx.u 0 rfl)) (ex_ld rfl (cx.rq 2 rfl) ((cx.S.was (sq 4 (by decide) (by decide))) ▸ R10.out.1.y) rfl Tryd.isAgg52) rfl rfl rfl rfl rfl) <|
                   xc (@fun fl ax wx cx sq=>cx.ival (fun _=>trivial) (cx.wy rfl rfl rfl rfl (cx.u 0 rfl)) (exec_loadR 26 _ rfl (w8.heap.size) 0 (cx.rq 10 rfl) ((cx.S.was (sq 4 (by decide) (by decide))) ▸ X10.out) [.int .i8 X.op,.int .i8 X.w,.int .i8 X.dst,.int .i8 X.src,.int .i8 X.base,.int .i64 X.disp,.int .i64 X.imm,.int .i8 X.cc] rfl _ Tryd.underlying26 rfl (by kernel_rfl)) rfl rfl rfl rfl rfl) <|
                   xc (@fun fl ax wx cx sq=>by
                     have e:=cx.S.was (sq 4 (by decide) (by decide))
                     refine wpOpIn_yield (fun _=>trivial) rfl cx.ho (cx.wy rfl rfl rfl rfl (cx.u 3 rfl)) rfl (cx.u 0 rfl) (cx.u 1 rfl) (yieldAt_inM (n:=n - 1) ?_)
                     rw [e]
                     refine YieldAt.mono YY.out ?_
                     rintro e w9 (⟨rfl,h1,h2,h3⟩ | ⟨rfl,h1,h2,h3⟩)
                     · exact ⟨_,rfl,_,rfl,trivial,.inr ⟨upd_new _ _,true,slot_new cx.sz rfl,fun h=>absurd ((upd_old fl rfl).symm.trans h) (by rw [sq 5 (by decide) (by decide)];decide),fun h=>absurd ((upd_old fl rfl).symm.trans h) (by rw [sq 6 (by decide) (by decide)];decide),HXL ▸ h1,h2,h3⟩⟩
                     · exact ⟨_,rfl,_,rfl,trivial,.inr ⟨upd_new _ _,false,slot_new cx.sz rfl,fun h=>absurd ((upd_old fl rfl).symm.trans h) (by rw [sq 5 (by decide) (by decide)];decide),fun h=>absurd ((upd_old fl rfl).symm.trans h) (by rw [sq 6 (by decide) (by decide)];decide),HXL ▸ h1,h2,h3⟩⟩) <|
                   xc (@fun fl ax wx cx sq=>by
                     rcases cx.S with h | ⟨h,bb,h55,_,_,h2⟩
                     · exact absurd h.1 (by rw [show fl 4=true from cx.did 0 rfl rfl];decide)
                     · refine wpOpIn_v (fun _=>trivial) cx.ho (cx.wy rfl rfl rfl rfl (cx.u 1 rfl)) (noDefer_of rfl) (ex_not (x:=.tmp 55) (c:=bb) rfl (show ax.eval (.tmp 55)=_ from h55)) ⟨_,rfl,trivial,?_⟩
                       exact .inr ⟨(upd_old fl rfl).trans h,bb,(slot_old rfl).trans h55,fun _=>slot_new cx.sz rfl,fun h=>absurd ((upd_old fl rfl).symm.trans h) (by rw [sq 6 (by decide) (by decide)];decide),h2⟩) <|
                   xc (@fun fl ax wx cx sq=>by
                     rcases cx.S with h | ⟨h,bb,h55,h56,_,h2⟩
                     · exact absurd (show fl 5=true from cx.did 1 rfl rfl) (by rw [h.2.1];decide)
                     · have h56:=h56 (cx.did 1 rfl rfl)
                       refine wpOpIn_v (fun _=>trivial) cx.ho (wn rfl) (noDefer_of rfl) (ex_pt rfl (cx.u 0 rfl) (show ax.eval (.tmp 56)=_ from h56)) ⟨_,rfl,trivial,?_⟩
                       exact .inr ⟨(upd_old fl rfl).trans h,bb,(slot_old rfl).trans h55,fun _=>(slot_old rfl).trans h56,fun _=>slot_new cx.sz rfl,h2⟩) <|
                   xn) ?_
                  intro a11 w11 f11
                  obtain ⟨fl,hfl,hs⟩:=f11.s
                  rcases hs with hs | ⟨q4,bb,q55,q56,h57,hs⟩
                  · exact absurd hs.1 (by rw [hfl 4 (by decide)];decide)
                  have g57:a11.tmps.getD 57 undef=.bool (!bb):=h57 (hfl 6 (by decide))
                  rw [f11.frame rfl rfl]
                  clear f11
                  rw [show outs _ (fun d=>a11.tmps.getD d undef)=[(51,a11.tmps.getD 51 undef),(52,a11.tmps.getD 52 undef),(53,a11.tmps.getD 53 undef),(54,a11.tmps.getD 54 undef),(55,a11.tmps.getD 55 undef),(56,a11.tmps.getD 56 undef),(57,a11.tmps.getD 57 undef)] by kernel_rfl,g57]
                  simp only [putAll,List.setIfInBounds_toArray,List.set_cons_zero,List.set_cons_succ,Exit.then]
                  generalize a11.tmps.getD 51 undef=y51
                  generalize a11.tmps.getD 52 undef=y52
                  generalize a11.tmps.getD 53 undef=y53
                  generalize a11.tmps.getD 54 undef=y54
                  generalize a11.tmps.getD 55 undef=y55
                  generalize a11.tmps.getD 56 undef=y56
                  clear g57 h57 hfl q4 q55 q56 a11
                  cases bb with
                  | true=>
                    obtain ⟨j11,kp,kf⟩:=hs
                    have R11:=Lib.hid (mw_keep R10.out kp kf j11 hr (by omega) (by omega) (by omega) trivial (by have:=P5.out;omega) (by omega) hBr)
                    clear j11 kp kf
                    refine wpIn_cond_false rfl ?_
                    refine wpIn_skip ?_
                    simp only [Exit.then,Exit.inBlock,if_true]
                    refine in_region (by decide) (fun _ _ h=>h) ?_
                    intro K9 hK9
                    go_wp2_with fail
                    go_roundw
                    case rel=>exact ⟨k + 1,by omega,by go_num,Lib.hid (by rw [TK.out];exact R11.out)⟩
                    case measure=>simp [intOf];omega
                  | false=>
                    obtain ⟨j11,kp,kf⟩:=hs
                    refine wpIn_cond_true rfl ?_
                    refine wpIn_ret ?_
                    refine ⟨R10.out.2.1.trans ⟨kf.size,fun q o hq h ho=>kf.same q o (by omega) h ho⟩,R10.out.2.2.trans kp,rfl,XL,?_,j11⟩
                    obtain ⟨suf,hsuf⟩:=YZ.out
                    exact ⟨suf,by rw [HXL,hsuf];simp⟩
              · have hcw:candW f (op,c) v=[]:=by unfold candW;rw [if_neg (by rw [hf1,hv];simp)]
                rw [hcw,List.append_nil] at TK
                rw [hf1] at fw7
                clear hcw hh hf1
                go_wp2_with fail
                refine wpIn_cond_true rfl ?_
                refine wpIn_exit ?_
                simp only [Exit.then,Exit.inBlock,if_true]
                refine in_region (by decide) (fun _ _ h=>h) ?_
                intro K9 hK9
                go_wp2_with fail
                go_roundw
                case rel=>exact ⟨k + 1,by omega,by go_num,Lib.hid (by rw [TK.out];exact R7.out)⟩
                case measure=>simp [intOf];omega
          · obtain rfl:k=5:=by omega
            have R5:=HR.out
            refine in_region_seq (by decide) (fun _ _ h=>h) ?_
            intro K4 hK4
            go_wp2_with fail
            refine wpIn_seq ?_
            refine wpIn_cond_false rfl ?_
            refine wpIn_exit ?_
            simp only [Exit.then,Exit.inBlock,if_true]
            refine ⟨HR.out.2.1,HR.out.2.2,?_,HR.out.1.t,HR.out.1.fo,HR.out.1.y,HR.out.1.b⟩
            rw [FJ.out]
            exact HR.out.1.j
    case stop=>
      rintro D9 cc pre W9 hD _ ⟨rfl,q,hq,hx⟩ hK
      have FO:=Lib.hid (show ∃ pre,SpM zs pre (W9.putObj D9 (.deferred none)) ∧ Jx pre (W9.putObj D9 (.deferred none)) from
        ⟨_,hq,HJX.out _ W9 _ hx ⟨rfl,rfl,rfl,by simp [World.putObj],fun q o hq hg _=>(World.putObj_heap_other (by omega)).trans hq⟩⟩)
      clear hx hq
      refine (wpIn_wide (n:=n)).2 ?_
      go_wp2_with fail
      exact ⟨by simp,.inl ⟨_,_,rfl,run_takeDeferred hK,_,results_none rfl _ _ _,⟨_,rfl⟩,.inr FO.out⟩⟩
    case done=>
      rintro D9 xs W9 hD rfl hM hK
      have FO:=Lib.hid (show ∃ xs,SM zs xs (W9.putObj D9 (.deferred none)) ∧ J xs (W9.putObj D9 (.deferred none)) from
        ⟨_,HC.out.symm,HJ.out _ W9 _ hM.j ⟨rfl,rfl,rfl,by simp [World.putObj],fun q o hq hg _=>(World.putObj_heap_other (by omega)).trans hq⟩⟩)
      clear hM
      go_wp2_with fail
      exact ⟨by simp,.inl ⟨_,_,rfl,run_takeDeferred hK,_,results_none rfl _ _ _,⟨_,rfl⟩,.inl FO.out⟩⟩
end Go.Proofs.YtjhedldplmhmjaaDoor.Mrm
