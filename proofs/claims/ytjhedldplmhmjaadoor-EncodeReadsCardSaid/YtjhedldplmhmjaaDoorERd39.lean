import Derived.Test.YtjhedldplmhmjaaDoorERd38
import Derived.OwnWalkIn
import Derived.RangeFuncLeaves
import Derived.RangeFuncNested
import Derived.RangeFuncBound
import Derived.RangeFuncCalls
import Derived.Test.YtjhedldplmhmjaaDoorERd21
import Derived.OrdersIn
import Derived.RangeFuncSeq
set_option linter.unusedVariables false
set_option linter.unusedSimpArgs false
set_option linter.unnecessarySimpa false
namespace Go.Proofs.YtjhedldplmhmjaaDoor.Mdl
open Go.RowKit Go.Shelf
set_option linter.unusedVariables false
set_option maxRecDepth 100000
section
variable {P:Program} {l n:Nat} {ops:Array Oper} {Q:Exit → Act → World → Prop} {rest:List Oper} {o:Oper} {a:Act} {w:World}
theorem in_of_upon {Q':Exit → Act → World → Prop} {next:Act → World → Prop} (hq:∀ a w,¬ Q .outgrown a w) (hp:∀ c a w,Q' (.panic c) a w → Q (.panic c) a w) (ho:∀ a w,Q' .outgrown a w → Q .outgrown a w):
    ∀ r,o.upon P a next Q' r → o.uponIn (Fence.wide.inRound l) n P a next Q r:=by
  intro r h
  cases r with
  | ok x w'=>
    cases x with
    | value v=>exact h
    | skip=>exact h
    | defer d=>exact h
    | enter f args=>
      refine ⟨fun _=>by simp [Fence.wide] at *,?_⟩
      refine (callsIn_wide (n:=n - 1)).2 (Calls.mono h ?_)
      rintro e w2 h2
      cases e with
      | returned v=>exact h2
      | panicked chain=>exact hp _ _ _ h2
      | outgrown=>
        obtain ⟨a,w,h3⟩:=h2
        exact absurd (ho _ _ h3) (hq _ _)
    | row row args=>
      refine ⟨fun _=>by simp [Fence.wide] at *,fun c cs _=>?_⟩
      obtain ⟨v,w',r,s⟩:=h c cs
      exact ⟨v,w',r,(stepsIn_wide).2 s⟩
    | _=>exact h.elim
  | halt x w'=>
    cases x with
    | panic v=>exact hp _ _ _ h
    | _=>exact h.elim
theorem in_of_list {Q':Exit → Act → World → Prop} (hq:∀ a w,¬ Q .outgrown a w) (ho:∀ a w,Q' .outgrown a w → Q .outgrown a w) (hp:∀ c a w,Q' (.panic c) a w → Q (.panic c) a w) (hn:∀ a w,Q' .normal a w → Q .normal a w):
    ∀ (rest:List Oper),(∀ o ∈ rest,∀ c,o.op ≠ .defer c) → ∀ a w,wpList P ops Q' rest a w → wpListIn (Fence.wide.inRound l) n P ops Q rest a w
  | [],_,a,w,h=>hn a w h
  | o :: rest,hd,a,w,h=>by
    unfold wpListIn
    unfold wpList at h
    by_cases hw:Region.wanted o (yielded ops a.tmps)=true
    · rw [if_pos hw] at h ⊢
      rcases h with h | h
      · refine ⟨fun _ _=>trivial,?_⟩
        rw [Oper.semAt_plain _ _ _ (hd o List.mem_cons_self)]
        have h2:=in_of_upon (l:=l) (n:=n) (Q:=Q) (Q':=Q') hq hp ho _ h
        revert h2
        generalize (execOp a.eval o).run P w=r
        intro h2
        have key:∀ (nx nx':Act → World → Prop),(∀ a w,nx a w → nx' a w) → ∀ r,o.uponIn (Fence.wide.inRound l) n P a nx Q r → o.uponIn (Fence.wide.inRound l) n P a nx' Q r:=by
          intro nx nx' hx r h
          cases r with
          | ok x w'=>
            cases x with
            | value v=>exact hx _ _ h
            | skip=>exact hx _ _ h
            | defer d=>exact hx _ _ h
            | enter f args=>
              refine ⟨h.1,?_⟩
              refine (callsIn_wide (n:=n - 1)).2 (Calls.mono ((callsIn_wide (n:=n - 1)).1 h.2) ?_)
              rintro e w2 h2
              cases e with
              | returned v=>exact hx _ _ h2
              | panicked chain=>exact h2
              | outgrown=>exact h2
            | row row args=>exact ⟨h.1,RowsIn.mono h.2 (fun v w' h=>hx _ _ h)⟩
            | round l f tmps assign body=>
              refine ⟨h.1,RoundIn.mono h.2 ?_⟩
              rintro e w2 h2
              cases e with
              | returned v=>exact hx _ _ h2
              | panicked chain=>exact h2
              | outgrown=>exact h2
            | _=>exact h
          | halt x w'=>
            cases x with
            | panic v=>exact h
            | _=>exact h
        exact key _ _ (fun a w h=>in_of_list hq ho hp hn rest (fun o ho=>hd o (List.mem_cons_of_mem _ ho)) a w h) _ h2
      · obtain ⟨_,a,w,h⟩:=h
        exact absurd (ho a w h) (hq a w)
    · rw [if_neg hw] at h ⊢
      exact ⟨fun _ _=>trivial,in_of_list hq ho hp hn rest (fun o ho=>hd o (List.mem_cons_of_mem _ ho)) _ _ h⟩
def isDefer:Op → Bool
  | .defer _=>true
  | _=>false
theorem noDefer {ls:List Oper} (h:ls.all (fun o=>!isDefer o.op)=true):∀ o ∈ ls,∀ c,o.op ≠ .defer c:=fun o ho c e=>by
  have:=List.all_eq_true.1 h o ho
  rw [e] at this
  simp [isDefer] at this
theorem in_region_seq {id:Nat} {ls:List Oper} {y:Code} (hd:ls.all (fun o=>!isDefer o.op)=true) (hq:∀ a w,¬ Q .outgrown a w)
    (h:∀ K:Act → World → Prop,(∀ a w,y.wpIn (Fence.wide.inRound l) n P Q a w → K a w) → wpList P ls.toArray (Exit.then K (fun _ _ _=>False)) ls a w):(Code.seq (Code.region id ls.toArray false) y).wpIn (Fence.wide.inRound l) n P Q a w:=by
  refine wpIn_seq ?_
  refine wpIn_region_lit ?_
  exact in_of_list (Q:=Exit.then (y.wpIn (Fence.wide.inRound l) n P Q) Q) (Q':=Exit.then (fun a w=>y.wpIn (Fence.wide.inRound l) n P Q a w) (fun _ _ _=>False)) (fun a w h=>hq a w h) (fun a w h=>h.elim) (fun c a w h=>h.elim) (fun a w h=>h) _ (noDefer hd) a w (h _ (fun _ _ h=>h))
theorem in_region {id:Nat} {ls:List Oper} (hd:ls.all (fun o=>!isDefer o.op)=true) (hq:∀ a w,¬ Q .outgrown a w)
    (h:∀ K:Act → World → Prop,(∀ a w,Q .normal a w → K a w) → wpList P ls.toArray (Exit.then K (fun _ _ _=>False)) ls a w):(Code.region id ls.toArray false).wpIn (Fence.wide.inRound l) n P Q a w:=by
  refine wpIn_region_lit ?_
  exact in_of_list (Q':=Exit.then (fun a w=>Q .normal a w) (fun _ _ _=>False)) (fun a w h=>hq a w h) (fun a w h=>h.elim) (fun c a w h=>h.elim) (fun a w h=>h) _ (noDefer hd) a w (h _ (fun _ _ h=>h))
end
end Go.Proofs.YtjhedldplmhmjaaDoor.Mdl
namespace Go.Proofs.YtjhedldplmhmjaaDoor.Mrm
open Go Go.RowKit Mdl
set_option linter.unusedVariables false
set_option linter.unusedSimpArgs false
set_option linter.unnecessarySimpa false
set_option maxRecDepth 100000
attribute [local go_sem] Oper.semAt_some
structure Tab3 (W:World):Prop where
  cs:∃ T fr,W.heap[(1:Nat)]?=some (.cells codesC T fr)
  os:∃ T fr,W.heap[(2:Nat)]?=some (.cells othersC T fr)
  ws:∃ T fr,W.heap[(0:Nat)]?=some (.cells widthsC T fr)
def kR (r:Nat) (k:Nat) (_:TypeId):Bool:=decide (k < r) || decide (r + 3 ≤ k)
theorem kR_lo {r k:Nat} {t:TypeId} (h:k < r):kR r k t=true:=by unfold kR;simp [h]
theorem kR_hi {r k:Nat} {t:TypeId} (h:r + 3 ≤ k):kR r k t=true:=by unfold kR;simp [h]
theorem Tab3.below {W w:World} (h:Tab3 W) {n:Nat} (b:Below n W w) (hn:W.heap.size ≤ n):Tab3 w:=by
  obtain ⟨⟨T,fr,h1⟩,⟨T',fr',h2⟩,⟨T2,fr2,h3⟩⟩:=h
  exact ⟨⟨T,fr,heap_below b h1 hn⟩,⟨T',fr',heap_below b h2 hn⟩,⟨T2,fr2,heap_below b h3 hn⟩⟩
theorem keep_row {r:Nat} {W w:World} (b:KeepK (kR r) W w) {k:Nat} {C:Array Value} {T:TypeId} {fr:Nat × Nat} (h:W.heap[k]?=some (.cells C T fr)) (hk:k < r ∨ r + 3 ≤ k):w.heap[k]?=some (.cells C T fr):=
  b.same _ _ h (show kR r k T=true from hk.elim (fun h=>kR_lo h) (fun h=>kR_hi h))
theorem Tab3.keep {r:Nat} {W w:World} (h:Tab3 W) (b:KeepK (kR r) W w) (hr:3 ≤ r):Tab3 w:=by
  obtain ⟨⟨T,fr,h1⟩,⟨T',fr',h2⟩,⟨T2,fr2,h3⟩⟩:=h
  exact ⟨⟨T,fr,keep_row b h1 (.inl (Nat.lt_of_lt_of_le (by decide) hr))⟩,⟨T',fr',keep_row b h2 (.inl (Nat.lt_of_lt_of_le (by decide) hr))⟩,⟨T2,fr2,keep_row b h3 (.inl (Nat.lt_of_lt_of_le (by decide) hr))⟩⟩
theorem Tab3.two {W:World} (h:Tab3 W):Tabs W:=⟨h.cs,h.os⟩
def allOps:List (Int × Cd):=(List.range 32).map (fun k:Nat=>((k:Int),codeA (k:Int))) ++ (List.range 6).map otA
theorem allOps_len:allOps.length=38:=by kernel_rfl
theorem allOps_lo (k:Nat) (h:k < 32):allOps.getD k (0,zCd)=((k:Int),codeA (k:Int)):=by
  unfold allOps
  rw [List.getD_eq_getElem?_getD,List.getElem?_append_left (by simp;omega),List.getElem?_map,List.getElem?_range (by omega)]
  rfl
theorem allOps_hi (k:Nat) (h:k < 6):allOps.getD (32 + k) (0,zCd)=otA k:=by
  unfold allOps
  rw [List.getD_eq_getElem?_getD,List.getElem?_append_right (by simp),List.getElem?_map]
  simp [h]
theorem allOps_take (k:Nat) (h:k < 38):allOps.take (k + 1)=allOps.take k ++ [allOps.getD k (0,zCd)]:=by
  rw [List.take_add_one,List.getD_eq_getElem?_getD,List.getElem?_eq_getElem (by rw [allOps_len];omega)]
  rfl
abbrev otC (o:Int × Cd):Array Value:=#[.int .i8 o.1,.int .i8 o.2.sh,.int .i8 o.2.wd,.int .u16 o.2.va,.int .i8 o.2.dg,.int .u16 o.2.lo]
def encC (x:Int × Cd):Array Value:=#[.int .i8 x.1,.agg (cdC x.2)]
theorem idxc_0 (w:World):(Instr.index 92 (.agg codesC) (.int .i64 0)).run Tryd.prog w=.ok (.agg (cdC (codeA 0))) w:=by rfl
theorem idxc_1 (w:World):(Instr.index 92 (.agg codesC) (.int .i64 1)).run Tryd.prog w=.ok (.agg (cdC (codeA 1))) w:=by rfl
theorem idxc_2 (w:World):(Instr.index 92 (.agg codesC) (.int .i64 2)).run Tryd.prog w=.ok (.agg (cdC (codeA 2))) w:=by rfl
theorem idxc_3 (w:World):(Instr.index 92 (.agg codesC) (.int .i64 3)).run Tryd.prog w=.ok (.agg (cdC (codeA 3))) w:=by rfl
theorem idxc_4 (w:World):(Instr.index 92 (.agg codesC) (.int .i64 4)).run Tryd.prog w=.ok (.agg (cdC (codeA 4))) w:=by rfl
theorem idxc_5 (w:World):(Instr.index 92 (.agg codesC) (.int .i64 5)).run Tryd.prog w=.ok (.agg (cdC (codeA 5))) w:=by rfl
theorem idxc_6 (w:World):(Instr.index 92 (.agg codesC) (.int .i64 6)).run Tryd.prog w=.ok (.agg (cdC (codeA 6))) w:=by rfl
theorem idxc_7 (w:World):(Instr.index 92 (.agg codesC) (.int .i64 7)).run Tryd.prog w=.ok (.agg (cdC (codeA 7))) w:=by rfl
theorem idxc_8 (w:World):(Instr.index 92 (.agg codesC) (.int .i64 8)).run Tryd.prog w=.ok (.agg (cdC (codeA 8))) w:=by rfl
theorem idxc_9 (w:World):(Instr.index 92 (.agg codesC) (.int .i64 9)).run Tryd.prog w=.ok (.agg (cdC (codeA 9))) w:=by rfl
theorem idxc_10 (w:World):(Instr.index 92 (.agg codesC) (.int .i64 10)).run Tryd.prog w=.ok (.agg (cdC (codeA 10))) w:=by rfl
theorem idxc_11 (w:World):(Instr.index 92 (.agg codesC) (.int .i64 11)).run Tryd.prog w=.ok (.agg (cdC (codeA 11))) w:=by rfl
theorem idxc_12 (w:World):(Instr.index 92 (.agg codesC) (.int .i64 12)).run Tryd.prog w=.ok (.agg (cdC (codeA 12))) w:=by rfl
theorem idxc_13 (w:World):(Instr.index 92 (.agg codesC) (.int .i64 13)).run Tryd.prog w=.ok (.agg (cdC (codeA 13))) w:=by rfl
theorem idxc_14 (w:World):(Instr.index 92 (.agg codesC) (.int .i64 14)).run Tryd.prog w=.ok (.agg (cdC (codeA 14))) w:=by rfl
theorem idxc_15 (w:World):(Instr.index 92 (.agg codesC) (.int .i64 15)).run Tryd.prog w=.ok (.agg (cdC (codeA 15))) w:=by rfl
theorem idxc_16 (w:World):(Instr.index 92 (.agg codesC) (.int .i64 16)).run Tryd.prog w=.ok (.agg (cdC (codeA 16))) w:=by rfl
theorem idxc_17 (w:World):(Instr.index 92 (.agg codesC) (.int .i64 17)).run Tryd.prog w=.ok (.agg (cdC (codeA 17))) w:=by rfl
theorem idxc_18 (w:World):(Instr.index 92 (.agg codesC) (.int .i64 18)).run Tryd.prog w=.ok (.agg (cdC (codeA 18))) w:=by rfl
theorem idxc_19 (w:World):(Instr.index 92 (.agg codesC) (.int .i64 19)).run Tryd.prog w=.ok (.agg (cdC (codeA 19))) w:=by rfl
theorem idxc_20 (w:World):(Instr.index 92 (.agg codesC) (.int .i64 20)).run Tryd.prog w=.ok (.agg (cdC (codeA 20))) w:=by rfl
theorem idxc_21 (w:World):(Instr.index 92 (.agg codesC) (.int .i64 21)).run Tryd.prog w=.ok (.agg (cdC (codeA 21))) w:=by rfl
theorem idxc_22 (w:World):(Instr.index 92 (.agg codesC) (.int .i64 22)).run Tryd.prog w=.ok (.agg (cdC (codeA 22))) w:=by rfl
theorem idxc_23 (w:World):(Instr.index 92 (.agg codesC) (.int .i64 23)).run Tryd.prog w=.ok (.agg (cdC (codeA 23))) w:=by rfl
theorem idxc_24 (w:World):(Instr.index 92 (.agg codesC) (.int .i64 24)).run Tryd.prog w=.ok (.agg (cdC (codeA 24))) w:=by rfl
theorem idxc_25 (w:World):(Instr.index 92 (.agg codesC) (.int .i64 25)).run Tryd.prog w=.ok (.agg (cdC (codeA 25))) w:=by rfl
theorem idxc_26 (w:World):(Instr.index 92 (.agg codesC) (.int .i64 26)).run Tryd.prog w=.ok (.agg (cdC (codeA 26))) w:=by rfl
theorem idxc_27 (w:World):(Instr.index 92 (.agg codesC) (.int .i64 27)).run Tryd.prog w=.ok (.agg (cdC (codeA 27))) w:=by rfl
theorem idxc_28 (w:World):(Instr.index 92 (.agg codesC) (.int .i64 28)).run Tryd.prog w=.ok (.agg (cdC (codeA 28))) w:=by rfl
theorem idxc_29 (w:World):(Instr.index 92 (.agg codesC) (.int .i64 29)).run Tryd.prog w=.ok (.agg (cdC (codeA 29))) w:=by rfl
theorem idxc_30 (w:World):(Instr.index 92 (.agg codesC) (.int .i64 30)).run Tryd.prog w=.ok (.agg (cdC (codeA 30))) w:=by rfl
theorem idxc_31 (w:World):(Instr.index 92 (.agg codesC) (.int .i64 31)).run Tryd.prog w=.ok (.agg (cdC (codeA 31))) w:=by rfl
theorem idxc:∀ (k:Nat),k < 32 → ∀ w:World,(Instr.index 92 (.agg codesC) (.int .i64 (k:Int))).run Tryd.prog w=.ok (.agg (cdC (codeA (k:Int)))) w
  | 0,_,w=>idxc_0 w
  | 1,_,w=>idxc_1 w
  | 2,_,w=>idxc_2 w
  | 3,_,w=>idxc_3 w
  | 4,_,w=>idxc_4 w
  | 5,_,w=>idxc_5 w
  | 6,_,w=>idxc_6 w
  | 7,_,w=>idxc_7 w
  | 8,_,w=>idxc_8 w
  | 9,_,w=>idxc_9 w
  | 10,_,w=>idxc_10 w
  | 11,_,w=>idxc_11 w
  | 12,_,w=>idxc_12 w
  | 13,_,w=>idxc_13 w
  | 14,_,w=>idxc_14 w
  | 15,_,w=>idxc_15 w
  | 16,_,w=>idxc_16 w
  | 17,_,w=>idxc_17 w
  | 18,_,w=>idxc_18 w
  | 19,_,w=>idxc_19 w
  | 20,_,w=>idxc_20 w
  | 21,_,w=>idxc_21 w
  | 22,_,w=>idxc_22 w
  | 23,_,w=>idxc_23 w
  | 24,_,w=>idxc_24 w
  | 25,_,w=>idxc_25 w
  | 26,_,w=>idxc_26 w
  | 27,_,w=>idxc_27 w
  | 28,_,w=>idxc_28 w
  | 29,_,w=>idxc_29 w
  | 30,_,w=>idxc_30 w
  | 31,_,w=>idxc_31 w
  | k + 32,h,w=>absurd h (by omega)
theorem idxo:∀ (k:Nat),k < 6 → ∀ w:World,(Instr.index 94 (.agg othersC) (.int .i64 (k:Int))).run Tryd.prog w=.ok (.agg (otC (otA k))) w
  | 0,_,w=>idx_0 w
  | 1,_,w=>idx_1 w
  | 2,_,w=>idx_2 w
  | 3,_,w=>idx_3 w
  | 4,_,w=>idx_4 w
  | 5,_,w=>idx_5 w
  | k + 6,h,w=>absurd h (by omega)
theorem i8_small (k:Nat) (h:k < 32):IntKind.i8.wrap (k:Int)=(k:Int):=by
  have:∀ c:Fin 32,IntKind.i8.wrap (c.1:Int)=(c.1:Int):=by decide +kernel
  exact this ⟨k,h⟩
def YC (pre:List (Int × Cd)) (x:Int × Cd) (_:World):Prop:=∃ k,k < 38 ∧ pre=allOps.take k ∧ x=allOps.getD k (0,zCd)
def SC (xs:List (Int × Cd)) (_:World):Prop:=xs=allOps
def SpC (pre:List (Int × Cd)) (_:World):Prop:=∃ k,k < 38 ∧ pre=allOps.take (k + 1)
set_option maxHeartbeats 4000000 in
theorem eachCode_seq (r n:Nat) (hr:3 ≤ r) (hn:2 ≤ n) (w0:World) (hT:Tab3 w0):SeqK (fun _=>false) (kR r) 0 n Tryd.prog 25 #[] #[] encC YC SC SpC w0:=by
  intro l J Jx W hB hJ hJx hY hJ0
  have T0:=Lib.hid (hT.below hB (Nat.le_refl _))
  have J0:=Lib.hid hJ0
  have HJ:=Lib.hid hJ
  have HY:=Lib.hid hY
  clear hJ0 hJ hJx hY hT hB
  obtain ⟨T,fr,oc⟩:=T0.out.cs
  have OC:=Lib.hid oc
  clear oc
  show CallsIn Fence.wide n Tryd.prog 25 #[.func (.yield l) #[] #[]] W _
  refine callsIn_of_wp Tryd.func25 rfl trivial ?_ rfl
  simp only [Tryd.ntmps25,List.size_toArray,List.length_cons,List.length_nil,Nat.reduceAdd,Nat.reduceSub,Array.replicate_succ,Array.replicate_zero,List.push_toArray,List.append_toArray,List.nil_append,List.cons_append]
  refine (wpIn_wide (n:=n)).2 ?_
  go_wp2_with (with_reducible refine (halt_load 92 _ rfl ?_))
  refine ⟨?_,trivial⟩
  refine wpList_load_row rfl _ _ rfl _ rfl _ _ _ _ OC.out Tryd.underlying92 rfl (by kernel_rfl) ?_
  go_wp2_with fail
  go_loopw [7] (fun i wr=>∃ k:Nat,k ≤ 32 ∧ i=.int .i64 k ∧ Hid (J (allOps.take k) wr ∧ Tab3 wr)) (fun i _=>32 - (intOf i).toNat)
  case atStart=>exact ⟨0,by omega,rfl,Lib.hid ⟨J0.out,T0.out⟩⟩
  case round=>
    obtain ⟨k,hk,rfl,HR⟩:=hrel
    by_cases hlt:k < 32
    · have k1:(k:Int) < 32:=by omega
      have e8:=i8_small k hlt
      have ix:=idxc k hlt
      have Y1:YC (allOps.take k) ((k:Int),codeA (k:Int)) wr:=⟨k,by omega,rfl,(allOps_lo k hlt).symm⟩
      have tk:=allOps_take k (by omega)
      rw [allOps_lo k hlt] at tk
      generalize codeA (k:Int)=c at *
      obtain ⟨sh,wd,va,dg,lo⟩:=c
      simp only [cdC] at ix
      have b1:=below_new (Below.refl wr.heap.size wr) (.cells #[.int .i8 sh,.int .i8 wd,.int .u16 va,.int .i8 dg,.int .u16 lo] 61)
      obtain ⟨fn,tmps,assign,body,hy,hR⟩:=HY.out _ _ (wr.alloc (.cells #[.int .i8 sh,.int .i8 wd,.int .u16 va,.int .i8 dg,.int .u16 lo] 61)) (HJ.out _ _ _ HR.out.1 (.of_below b1)) Y1
      have TB:=Lib.hid (HR.out.2.below b1 (Nat.le_refl _))
      have TK:=Lib.hid tk
      clear b1 Y1 tk
      dsimp only [encC] at hy
      refine (wpIn_wide (n:=n)).1 ?_
      gi_wp2
      refine ⟨fun _=>by omega,hR.mono ?_⟩
      rintro e W3 (⟨rfl,hJ3,hk3,_⟩ | ⟨rfl,hJx3,_⟩)
      · rw [← TK.out] at hJ3
        have H3:=Lib.hid (And.intro hJ3 (TB.out.keep hk3 hr))
        clear hJ3 hk3
        gi_wp2
        go_roundw
        case rel=>exact ⟨k + 1,by omega,by go_num,H3⟩
        case measure=>simp [intOf];omega
      · rw [← TK.out] at hJx3
        gi_wp2
        refine bodyPost_ret (results_none rfl _ _ _) rfl ?_
        exact ⟨⟨_,rfl⟩,.inr ⟨_,⟨k,by omega,rfl⟩,hJx3⟩⟩
    · obtain rfl:k=32:=by omega
      obtain ⟨T2,fr2,oo⟩:=HR.out.2.os
      have OO:=Lib.hid oo
      clear oo
      go_wp2_with (with_reducible refine (halt_load 94 _ rfl ?_))
      refine ⟨?_,trivial⟩
      refine wpList_load_row rfl _ _ rfl _ rfl _ _ _ _ OO.out Tryd.underlying94 rfl (by kernel_rfl) ?_
      go_wp2_with fail
      go_loopw [19] (fun i wr=>∃ k:Nat,k ≤ 6 ∧ i=.int .i64 k ∧ Hid (J (allOps.take (32 + k)) wr ∧ Tab3 wr)) (fun i _=>6 - (intOf i).toNat)
      case atStart=>exact ⟨0,by omega,rfl,HR⟩
      case round=>
        obtain ⟨k,hk,rfl,HQ⟩:=hrel
        by_cases hlt:k < 6
        · have k1:(k:Int) < 6:=by omega
          have ix:=idxo k hlt
          have Y1:YC (allOps.take (32 + k)) (otA k) wr:=⟨32 + k,by omega,rfl,(allOps_hi k hlt).symm⟩
          have tk:=allOps_take (32 + k) (by omega)
          rw [allOps_hi k hlt] at tk
          generalize otA k=c at *
          obtain ⟨op,sh,wd,va,dg,lo⟩:=c
          simp only [otC] at ix
          have b1:=below_new (Below.refl wr.heap.size wr) (.cells #[.int .i8 op,.int .i8 sh,.int .i8 wd,.int .u16 va,.int .i8 dg,.int .u16 lo] 93)
          obtain ⟨fn,tmps,assign,body,hy,hR⟩:=HY.out _ _ (wr.alloc (.cells #[.int .i8 op,.int .i8 sh,.int .i8 wd,.int .u16 va,.int .i8 dg,.int .u16 lo] 93)) (HJ.out _ _ _ HQ.out.1 (.of_below b1)) Y1
          have TB:=Lib.hid (HQ.out.2.below b1 (Nat.le_refl _))
          have TK:=Lib.hid tk
          clear b1 Y1 tk
          dsimp only [encC,cdC] at hy
          refine (wpIn_wide (n:=n)).1 ?_
          gi_wp2
          refine ⟨fun _=>by omega,hR.mono ?_⟩
          rintro e W3 (⟨rfl,hJ3,hk3,_⟩ | ⟨rfl,hJx3,_⟩)
          · rw [← TK.out] at hJ3
            have H3:=Lib.hid (And.intro hJ3 (TB.out.keep hk3 hr))
            clear hJ3 hk3
            gi_wp2
            go_roundw
            case rel=>exact ⟨k + 1,by omega,by go_num,H3⟩
            case measure=>simp [intOf];omega
          · rw [← TK.out] at hJx3
            gi_wp2
            refine bodyPost_ret (results_none rfl _ _ _) rfl ?_
            exact ⟨⟨_,rfl⟩,.inr ⟨_,⟨32 + k,by omega,rfl⟩,hJx3⟩⟩
        · obtain rfl:k=6:=by omega
          have JE:=HQ.out.1
          rw [show List.take (32 + 6) allOps=allOps from List.take_of_length_le (by rw [allOps_len];omega)] at JE
          have JE:=Lib.hid JE
          go_wp2_with fail
          go_end0
          exact ⟨⟨_,rfl⟩,.inl ⟨_,rfl,JE.out⟩⟩
end Go.Proofs.YtjhedldplmhmjaaDoor.Mrm
namespace Go.Proofs.YtjhedldplmhmjaaDoor
open Go Go.RowKit
set_option linter.unusedVariables false
set_option linter.unusedSimpArgs false
section
variable {F:Fence} {n m:Nat} {P:Program} {ops:Array Oper} {Q:Exit → Act → World → Prop} {i:Nat} {o:Oper} {K:Act → World → Prop} {a:Act} {w w':World}
theorem wpOpIn_v (hF:∀ f,F.fn f) (ho:ops[i]?=some o) (hw:Region.wanted o (yielded ops a.tmps)=true) (hd:∀ c,o.op ≠ .defer c) {v:Value} (hr:(execOp a.eval o).run P w=.ok (.value v) w') (h:K (a.put o.dst v) w'):wpOpIn F n P ops Q i K a w:=by
  unfold wpOpIn
  rw [ho]
  simp only [hw,if_true]
  refine ⟨fun f _=>hF f,?_⟩
  rw [Oper.semAt_eq _ _ _ hd,hr]
  exact h
theorem wpOpIn_call (hF:∀ f,F.fn f) (hn:F.depth=none) (ho:ops[i]?=some o) (hw:Region.wanted o (yielded ops a.tmps)=true) (hd:∀ c,o.op ≠ .defer c) {f:FuncId} {args:Array Value} (hr:(execOp a.eval o).run P w=.ok (.enter f args) w)
    (h:CallsIn F (n - 1) P f args w fun e w'=>∃ v,e=.returned v ∧ K (a.put o.dst v) w'):wpOpIn F n P ops Q i K a w:=by
  unfold wpOpIn
  rw [ho]
  simp only [hw,if_true]
  refine ⟨fun f _=>hF f,?_⟩
  rw [Oper.semAt_eq _ _ _ hd,hr]
  refine ⟨fun h=>(by rw [hn] at h;cases h),CallsIn.mono h ?_⟩
  rintro e w2 ⟨v,rfl,hk⟩
  exact hk
theorem wpOpIn_yield (hF:∀ f,F.fn f) (hn:F.depth=none) (ho:ops[i]?=some o) (hw:Region.wanted o (yielded ops a.tmps)=true) {l:Nat} {x y:Operand} {ts:Array TypeId} {v:Value} (hop:o.op=.call ⟨.value x,#[y],ts⟩) (hx:a.eval x=.func (.yield l) #[] #[]) (hy:a.eval y=v)
    (h:YieldAt F (n - 1) P l #[v] w fun e w'=>∃ v,e=.returned v ∧ K (a.put o.dst v) w'):wpOpIn F n P ops Q i K a w:=by
  unfold wpOpIn
  rw [ho]
  simp only [hw,if_true]
  refine ⟨fun f _=>hF f,?_⟩
  obtain ⟨fn,tmps,assign,body,h1,h2⟩:=h
  have hr:(execOp a.eval o).run P w=.ok (.round l fn tmps assign body) w:=by
    simp only [execOp,hop,List.map_toArray,List.map_cons,List.map_nil,resolve,hx,hy,Deferred.ofValue,invoke,callFunc,Sem.run_bind,Sem.run_pure,Result.andThen_ok]
    simpa using h1
  rw [Oper.semAt_eq _ _ _ (fun c e=>by rw [hop] at e;cases e),hr]
  refine ⟨fun h=>(by rw [hn] at h;cases h),RoundIn.mono h2 ?_⟩
  rintro e w2 ⟨v,rfl,hk⟩
  exact hk
end
section law
variable {F:Fence} {m:Nat} {P:Program} {ops:Array Oper} {Q:Exit → Act → World → Prop} {n:Nat} {a0:Act} {w0:World} {S:(Nat → Bool) → (Nat → Value) → World → Prop} {K D:List Nat} {l:List (Option Value)}
def HopI (F:Fence) (m:Nat) (P:Program) (ops:Array Oper) (Q:Exit → Act → World → Prop) (n:Nat) (a0:Act) (S:(Nat → Bool) → (Nat → Value) → World → Prop) (K D:List Nat) (l:List (Option Value)) (i:Nat) (L:List Oper):Prop:=
  ∀ j o,L[j]?=some o → ∀ fl a w,Cz ops n a0 S K D l (i + j) o fl a w → (∀ q,i + j ≤ q → q < ops.size → fl q=false) → wpOpIn F m P ops Q (i + j) (PostZ S l (i + j) o fl a) a w
theorem xn {i:Nat}:HopI F m P ops Q n a0 S K D l i []:=fun j o h=>by simp at h
theorem xc {i:Nat} {o:Oper} {L:List Oper} (h:∀ {fl a w},Cz ops n a0 S K D l i o fl a w → (∀ q,i ≤ q → q < ops.size → fl q=false) → wpOpIn F m P ops Q i (PostZ S l i o fl a) a w) (t:HopI F m P ops Q n a0 S K D l (i + 1) L):HopI F m P ops Q n a0 S K D l i (o :: L):=fun j o' hj=>by
  cases j with
  | zero=>
    have e:o=o':=by simpa using hj
    subst e
    exact fun _ _ _ c s=>h c s
  | succ j=>
    have:=t j o' (by simpa using hj)
    rw [show i + 1 + j=i + (j + 1) by omega] at this
    exact this
structure InvI (ops:Array Oper) (n:Nat) (a0:Act) (S:(Nat → Bool) → (Nat → Value) → World → Prop) (l:List (Option Value)) (k:Nat) (a:Act) (w:World):Prop where
  s:S (fun i=>decide (i < k) || decide (ops.size ≤ i)) (slotOf a) w
  defers:a.defers=a0.defers
  size:a.tmps.size=n
  rest:∀ j,(∀ (i:Nat) (o:Oper),ops[i]?=some o → o.dst ≠ some j) → a.tmps.getD j undef=a0.tmps.getD j undef
  done:∀ (i:Nat) (o:Oper),ops[i]?=some o → i < k → TabO l i (own o a)
  undone:∀ (i:Nat) (o:Oper) (d:Nat),ops[i]?=some o → o.dst=some d → k ≤ i → a.tmps.getD d undef=a0.tmps.getD d undef
theorem go_regi {id:Nat} (S:(Nat → Bool) → (Nat → Value) → World → Prop) (K D:List Nat) (l:List (Option Value)) (hl:Loc K D S) (hd0:a0.defers=[]) (hz:a0.tmps.size=n) (hk:(chkBack ops && chkDst ops && chkIn ops n)=true)
    (h0:∀ (fl:Nat → Bool),(∀ i,i < ops.size → fl i=false) → S fl (slotOf a0) w0)
    (hop:HopI F m P ops Q n a0 S K D l 0 ops.toList) (hq:∀ a w,BehZ ops n a0 S l a w → Q .normal a w):(Code.region id ops false).wpIn F m P Q a0 w0:=by
  simp only [Bool.and_eq_true] at hk
  obtain ⟨⟨h1,h2⟩,h3⟩:=hk
  have hback:=back_of h1
  have hdst:=dst_of h2
  have hin:=in_of h3
  refine wpIn_region ?_
  have key:∀ (j k:Nat) a w,k + j=ops.size → InvI ops n a0 S l k a w → wpOpsIn F m P ops Q (List.range' k j) a w:=by
    intro j
    induction j with
    | zero=>
      intro k a w hk hI
      refine hq a w ⟨hI.defers.trans hd0,hI.size,fun j hj x hx=>(hI.rest j (not_of hj)).trans hx,fun i o d x ho hod hlx=>?_,_,fun i hi=>by simp;omega,hI.s⟩
      have:=hI.done i o ho (by have:=(Array.getElem?_eq_some_iff.1 ho).1;omega)
      unfold TabO at this
      rw [hlx] at this
      unfold own at this
      rw [hod] at this
      exact this
    | succ j ih=>
      intro k a w hk hI
      rw [List.range'_succ,wpOpsIn_cons]
      have hkl:k < ops.size:=by omega
      have ho:ops[k]?=some ops[k]:=Array.getElem?_eq_getElem hkl
      generalize ops[k]=o at ho
      have hc:Cz ops n a0 S K D l k o (fun i=>decide (i < k) || decide (ops.size ≤ i)) a w:=by
        refine ⟨hl,ho,hI.s,by simp;omega,fun i oi hoi hf e he hb=>?_,hI.size,hI.rest,fun p e hp hb=>?_,fun i oi d hoi hdi hf=>hI.undone i oi d hoi hdi ?_⟩
        · have hi:=(Array.getElem?_eq_some_iff.1 hoi).1
          have hlt:i < k:=by simp at hf;omega
          have:=hback i oi hoi e he hb
          simp;omega
        · have hb':=hback k o ho e (Array.mem_of_getElem? hp) hb
          exact ⟨by simp;omega,fun o' ho'=>hI.done e.on o' ho' hb'⟩
        · have hi:=(Array.getElem?_eq_some_iff.1 hoi).1
          simp at hf;omega
      have hh:=hop k o (by rw [Array.getElem?_toList];exact ho) _ a w (by rw [Nat.zero_add];exact hc) (fun q hq hlt=>by simp;omega)
      rw [Nat.zero_add] at hh
      refine wpOpIn_mono ?_ hh
      rintro a' w' ⟨v,rfl,hR,hS⟩
      refine ih (k + 1) _ _ (by omega) ?_
      have hS':S (fun i=>decide (i < k + 1) || decide (ops.size ≤ i)) (slotOf (a.put o.dst v)) w':=by
        have e:(fun i=>decide (i < k + 1) || decide (ops.size ≤ i))=upd (fun i=>decide (i < k) || decide (ops.size ≤ i)) k:=by
          funext i
          unfold upd
          by_cases h:i=k
          · rw [if_pos h];simp;omega
          · rw [if_neg h]
            congr 1
            exact decide_eq_decide.2 (by omega)
        rw [e];exact hS
      cases hod:o.dst with
      | none=>
        rw [hod] at hS' hR
        refine ⟨hS',hI.defers,hI.size,hI.rest,fun i oi hoi hlt=>?_,fun i oi d hoi hdi hle=>hI.undone i oi d hoi hdi (by omega)⟩
        by_cases hik:i=k
        · subst hik
          rw [ho] at hoi;cases hoi
          exact hR
        · exact hI.done i oi hoi (by omega)
      | some d0=>
        have hd0':d0 < a.tmps.size:=by rw [hI.size];exact hin k o d0 ho hod
        have hput:=put_getD a d0 v hd0'
        rw [hod] at hS' hR
        refine ⟨hS',hI.defers,by show (a.tmps.setIfInBounds d0 v).size=_;simp [hI.size],fun i hi=>?_,fun i oi hoi hlt=>?_,fun i oi d hoi hdi hle=>?_⟩
        · rw [hput i,if_neg (fun e=>hi k o ho (by rw [hod,e]))]
          exact hI.rest i hi
        · by_cases hik:i=k
          · subst hik
            rw [ho] at hoi;cases hoi
            exact hR
          · have hv:own oi (a.put (some d0) v)=own oi a:=by
              unfold own
              cases hdj:oi.dst with
              | none=>rfl
              | some d=>
                show (a.put (some d0) v).tmps.getD d undef=a.tmps.getD d undef
                rw [hput d,if_neg (fun e=>hik (hdst i k oi o d hoi ho hdj (by rw [hod,e])))]
            rw [hv]
            exact hI.done i oi hoi (by omega)
        · rw [hput d,if_neg (fun e=>by have:=hdst i k oi o d hoi ho hdi (by rw [hod,e]);omega)]
          exact hI.undone i oi d hoi hdi (by omega)
  have:=key ops.size 0 a0 w0 (by omega) ⟨h0 _ (fun i hi=>by simp;omega),rfl,hz,fun _ _=>rfl,fun i o ho h=>absurd h (by omega),fun _ _ _ _ _ _=>rfl⟩
  rwa [← List.range_eq_range'] at this
end law
section
variable {F:Fence} {m:Nat} {P:Program} {ops:Array Oper} {Q:Exit → Act → World → Prop} {n:Nat} {a0:Act} {S:(Nat → Bool) → (Nat → Value) → World → Prop} {K D:List Nat} {l:List (Option Value)} {i:Nat} {o:Oper} {fl:Nat → Bool} {a:Act} {w w':World}
def noDefer (o:Oper):Bool:=match o.op with | .defer _=>false | _=>true
theorem noDefer_of (h:noDefer o=true):∀ c,o.op ≠ .defer c:=fun c e=>by unfold noDefer at h;rw [e] at h;cases h
theorem Cz.iv (c:Cz ops n a0 S K D l i o fl a w) (hF:∀ f,F.fn f) {v:Value} (hr:(execOp a.eval o).run P w=.ok (.value v) w) (hk:okZ o n i K D=true) (hd:noDefer o=true) (ht:TabO l i v):wpOpIn F m P ops Q i (PostZ S l i o fl a) a w:=by
  unfold okZ at hk
  cases hg:o.guard with
  | some g=>rw [hg] at hk;cases hk
  | none=>
    cases hod:o.dst with
    | none=>rw [hg,hod] at hk;cases hk
    | some d=>
      rw [hg,hod] at hk
      simp only at hk
      rw [Bool.and_eq_true] at hk
      exact wpOpIn_v hF c.ho (wn hg) (noDefer_of hd) hr ⟨v,rfl,by rw [own_some hod c.sz hk.1];exact ht,by rw [hod];exact c.keep hk.2⟩
theorem Cz.ival (c:Cz ops n a0 S K D l i o fl a w) (hF:∀ f,F.fn f) (hw:Region.wanted o (yielded ops a.tmps)=true) {v:Value} (hr:(execOp a.eval o).run P w=.ok (.value v) w) {d:Nat} (hod:o.dst=some d) (hlt:Nat.blt d n=true) (hk:(K.all (fun k=>!Nat.beq k i) && D.all (fun k=>!Nat.beq k d))=true) (hd:noDefer o=true) (ht:TabO l i v):wpOpIn F m P ops Q i (PostZ S l i o fl a) a w:=
  wpOpIn_v hF c.ho hw (noDefer_of hd) hr ⟨v,rfl,by rw [own_some hod c.sz hlt];exact ht,by rw [hod];exact c.keep hk⟩
theorem Cz.wy (c:Cz ops n a0 S K D l i o fl a w) {j:Nat} {want:Bool} {oj:Oper} {d:Nat} (hg:o.guard=some (j,want)) (hj:ops[j]?=some oj) (hd:oj.dst=some d) (hlt:Nat.blt d n=true) (h:a.tmps.getD d undef=.bool want):Region.wanted o (yielded ops a.tmps)=true:=
  wanted_yes j d want h (by rw [c.sz];exact Nat.le_of_ble_eq_true hlt) hg hj hd (by simp)
end
end Go.Proofs.YtjhedldplmhmjaaDoor
