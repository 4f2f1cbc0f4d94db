import Derived.Test.YthmbmcckldgdiaaDoorEBk33
import Derived.Test.YthmbmcckldgdiaaDoorEBk36
import Derived.Test.YthmbmcckldgdiaaDoorEBk37
import Derived.RangeFuncLeaves
import Derived.RangeFuncNested
import Derived.RangeFuncBound
import Derived.RangeFuncCalls
set_option linter.unusedVariables false
set_option linter.unusedSimpArgs false
set_option linter.unnecessarySimpa false
namespace Go.Proofs.YthmbmcckldgdiaaDoor.Mrm
open Go Go.RowKit Mdl
set_option linter.unusedVariables false
set_option linter.unusedSimpArgs false
set_option linter.unnecessarySimpa false
set_option maxRecDepth 100000
attribute [local go_sem] Oper.semAt_some
structure Tab3 (W:World):Prop where
  cs:∃ T fr,W.heap[(1:Nat)]?=some (.cells codesC T fr)
  os:∃ T fr,W.heap[(2:Nat)]?=some (.cells othersC T fr)
  ws:∃ T fr,W.heap[(0:Nat)]?=some (.cells widthsC T fr)
def kR (r:Nat) (k:Nat) (_:TypeId):Bool:=decide (k < r) || decide (r + 3 ≤ k)
theorem kR_lo {r k:Nat} {t:TypeId} (h:k < r):kR r k t=true:=by unfold kR;simp [h]
theorem kR_hi {r k:Nat} {t:TypeId} (h:r + 3 ≤ k):kR r k t=true:=by unfold kR;simp [h]
theorem Tab3.below {W w:World} (h:Tab3 W) {n:Nat} (b:Below n W w) (hn:W.heap.size ≤ n):Tab3 w:=by
  obtain ⟨⟨T,fr,h1⟩,⟨T',fr',h2⟩,⟨T2,fr2,h3⟩⟩:=h
  exact ⟨⟨T,fr,heap_below b h1 hn⟩,⟨T',fr',heap_below b h2 hn⟩,⟨T2,fr2,heap_below b h3 hn⟩⟩
theorem keep_row {r:Nat} {W w:World} (b:KeepK (kR r) W w) {k:Nat} {C:Array Value} {T:TypeId} {fr:Nat × Nat} (h:W.heap[k]?=some (.cells C T fr)) (hk:k < r ∨ r + 3 ≤ k):w.heap[k]?=some (.cells C T fr):=
  b.same _ _ h (show kR r k T=true from hk.elim (fun h=>kR_lo h) (fun h=>kR_hi h))
theorem Tab3.keep {r:Nat} {W w:World} (h:Tab3 W) (b:KeepK (kR r) W w) (hr:3 ≤ r):Tab3 w:=by
  obtain ⟨⟨T,fr,h1⟩,⟨T',fr',h2⟩,⟨T2,fr2,h3⟩⟩:=h
  exact ⟨⟨T,fr,keep_row b h1 (.inl (Nat.lt_of_lt_of_le (by decide) hr))⟩,⟨T',fr',keep_row b h2 (.inl (Nat.lt_of_lt_of_le (by decide) hr))⟩,⟨T2,fr2,keep_row b h3 (.inl (Nat.lt_of_lt_of_le (by decide) hr))⟩⟩
theorem Tab3.two {W:World} (h:Tab3 W):Tabs W:=⟨h.cs,h.os⟩
def allOps:List (Int × Cd):=(List.range 32).map (fun k:Nat=>((k:Int),codeA (k:Int))) ++ (List.range 6).map otA
theorem allOps_len:allOps.length=38:=by kernel_rfl
theorem allOps_lo (k:Nat) (h:k < 32):allOps.getD k (0,zCd)=((k:Int),codeA (k:Int)):=by
  unfold allOps
  rw [List.getD_eq_getElem?_getD,List.getElem?_append_left (by simp;omega),List.getElem?_map,List.getElem?_range (by omega)]
  rfl
theorem allOps_hi (k:Nat) (h:k < 6):allOps.getD (32 + k) (0,zCd)=otA k:=by
  unfold allOps
  rw [List.getD_eq_getElem?_getD,List.getElem?_append_right (by simp),List.getElem?_map]
  simp [h]
theorem allOps_take (k:Nat) (h:k < 38):allOps.take (k + 1)=allOps.take k ++ [allOps.getD k (0,zCd)]:=by
  rw [List.take_add_one,List.getD_eq_getElem?_getD,List.getElem?_eq_getElem (by rw [allOps_len];omega)]
  rfl
abbrev otC (o:Int × Cd):Array Value:=#[.int .i8 o.1,.int .i8 o.2.sh,.int .i8 o.2.wd,.int .u16 o.2.va,.int .i8 o.2.dg,.int .u16 o.2.lo]
def encC (x:Int × Cd):Array Value:=#[.int .i8 x.1,.agg (cdC x.2)]
theorem idxc_0 (w:World):(Instr.index 97 (.agg codesC) (.int .i64 0)).run Tryd.prog w=.ok (.agg (cdC (codeA 0))) w:=by rfl
theorem idxc_1 (w:World):(Instr.index 97 (.agg codesC) (.int .i64 1)).run Tryd.prog w=.ok (.agg (cdC (codeA 1))) w:=by rfl
theorem idxc_2 (w:World):(Instr.index 97 (.agg codesC) (.int .i64 2)).run Tryd.prog w=.ok (.agg (cdC (codeA 2))) w:=by rfl
theorem idxc_3 (w:World):(Instr.index 97 (.agg codesC) (.int .i64 3)).run Tryd.prog w=.ok (.agg (cdC (codeA 3))) w:=by rfl
theorem idxc_4 (w:World):(Instr.index 97 (.agg codesC) (.int .i64 4)).run Tryd.prog w=.ok (.agg (cdC (codeA 4))) w:=by rfl
theorem idxc_5 (w:World):(Instr.index 97 (.agg codesC) (.int .i64 5)).run Tryd.prog w=.ok (.agg (cdC (codeA 5))) w:=by rfl
theorem idxc_6 (w:World):(Instr.index 97 (.agg codesC) (.int .i64 6)).run Tryd.prog w=.ok (.agg (cdC (codeA 6))) w:=by rfl
theorem idxc_7 (w:World):(Instr.index 97 (.agg codesC) (.int .i64 7)).run Tryd.prog w=.ok (.agg (cdC (codeA 7))) w:=by rfl
theorem idxc_8 (w:World):(Instr.index 97 (.agg codesC) (.int .i64 8)).run Tryd.prog w=.ok (.agg (cdC (codeA 8))) w:=by rfl
theorem idxc_9 (w:World):(Instr.index 97 (.agg codesC) (.int .i64 9)).run Tryd.prog w=.ok (.agg (cdC (codeA 9))) w:=by rfl
theorem idxc_10 (w:World):(Instr.index 97 (.agg codesC) (.int .i64 10)).run Tryd.prog w=.ok (.agg (cdC (codeA 10))) w:=by rfl
theorem idxc_11 (w:World):(Instr.index 97 (.agg codesC) (.int .i64 11)).run Tryd.prog w=.ok (.agg (cdC (codeA 11))) w:=by rfl
theorem idxc_12 (w:World):(Instr.index 97 (.agg codesC) (.int .i64 12)).run Tryd.prog w=.ok (.agg (cdC (codeA 12))) w:=by rfl
theorem idxc_13 (w:World):(Instr.index 97 (.agg codesC) (.int .i64 13)).run Tryd.prog w=.ok (.agg (cdC (codeA 13))) w:=by rfl
theorem idxc_14 (w:World):(Instr.index 97 (.agg codesC) (.int .i64 14)).run Tryd.prog w=.ok (.agg (cdC (codeA 14))) w:=by rfl
theorem idxc_15 (w:World):(Instr.index 97 (.agg codesC) (.int .i64 15)).run Tryd.prog w=.ok (.agg (cdC (codeA 15))) w:=by rfl
theorem idxc_16 (w:World):(Instr.index 97 (.agg codesC) (.int .i64 16)).run Tryd.prog w=.ok (.agg (cdC (codeA 16))) w:=by rfl
theorem idxc_17 (w:World):(Instr.index 97 (.agg codesC) (.int .i64 17)).run Tryd.prog w=.ok (.agg (cdC (codeA 17))) w:=by rfl
theorem idxc_18 (w:World):(Instr.index 97 (.agg codesC) (.int .i64 18)).run Tryd.prog w=.ok (.agg (cdC (codeA 18))) w:=by rfl
theorem idxc_19 (w:World):(Instr.index 97 (.agg codesC) (.int .i64 19)).run Tryd.prog w=.ok (.agg (cdC (codeA 19))) w:=by rfl
theorem idxc_20 (w:World):(Instr.index 97 (.agg codesC) (.int .i64 20)).run Tryd.prog w=.ok (.agg (cdC (codeA 20))) w:=by rfl
theorem idxc_21 (w:World):(Instr.index 97 (.agg codesC) (.int .i64 21)).run Tryd.prog w=.ok (.agg (cdC (codeA 21))) w:=by rfl
theorem idxc_22 (w:World):(Instr.index 97 (.agg codesC) (.int .i64 22)).run Tryd.prog w=.ok (.agg (cdC (codeA 22))) w:=by rfl
theorem idxc_23 (w:World):(Instr.index 97 (.agg codesC) (.int .i64 23)).run Tryd.prog w=.ok (.agg (cdC (codeA 23))) w:=by rfl
theorem idxc_24 (w:World):(Instr.index 97 (.agg codesC) (.int .i64 24)).run Tryd.prog w=.ok (.agg (cdC (codeA 24))) w:=by rfl
theorem idxc_25 (w:World):(Instr.index 97 (.agg codesC) (.int .i64 25)).run Tryd.prog w=.ok (.agg (cdC (codeA 25))) w:=by rfl
theorem idxc_26 (w:World):(Instr.index 97 (.agg codesC) (.int .i64 26)).run Tryd.prog w=.ok (.agg (cdC (codeA 26))) w:=by rfl
theorem idxc_27 (w:World):(Instr.index 97 (.agg codesC) (.int .i64 27)).run Tryd.prog w=.ok (.agg (cdC (codeA 27))) w:=by rfl
theorem idxc_28 (w:World):(Instr.index 97 (.agg codesC) (.int .i64 28)).run Tryd.prog w=.ok (.agg (cdC (codeA 28))) w:=by rfl
theorem idxc_29 (w:World):(Instr.index 97 (.agg codesC) (.int .i64 29)).run Tryd.prog w=.ok (.agg (cdC (codeA 29))) w:=by rfl
theorem idxc_30 (w:World):(Instr.index 97 (.agg codesC) (.int .i64 30)).run Tryd.prog w=.ok (.agg (cdC (codeA 30))) w:=by rfl
theorem idxc_31 (w:World):(Instr.index 97 (.agg codesC) (.int .i64 31)).run Tryd.prog w=.ok (.agg (cdC (codeA 31))) w:=by rfl
theorem idxc:∀ (k:Nat),k < 32 → ∀ w:World,(Instr.index 97 (.agg codesC) (.int .i64 (k:Int))).run Tryd.prog w=.ok (.agg (cdC (codeA (k:Int)))) w
  | 0,_,w=>idxc_0 w
  | 1,_,w=>idxc_1 w
  | 2,_,w=>idxc_2 w
  | 3,_,w=>idxc_3 w
  | 4,_,w=>idxc_4 w
  | 5,_,w=>idxc_5 w
  | 6,_,w=>idxc_6 w
  | 7,_,w=>idxc_7 w
  | 8,_,w=>idxc_8 w
  | 9,_,w=>idxc_9 w
  | 10,_,w=>idxc_10 w
  | 11,_,w=>idxc_11 w
  | 12,_,w=>idxc_12 w
  | 13,_,w=>idxc_13 w
  | 14,_,w=>idxc_14 w
  | 15,_,w=>idxc_15 w
  | 16,_,w=>idxc_16 w
  | 17,_,w=>idxc_17 w
  | 18,_,w=>idxc_18 w
  | 19,_,w=>idxc_19 w
  | 20,_,w=>idxc_20 w
  | 21,_,w=>idxc_21 w
  | 22,_,w=>idxc_22 w
  | 23,_,w=>idxc_23 w
  | 24,_,w=>idxc_24 w
  | 25,_,w=>idxc_25 w
  | 26,_,w=>idxc_26 w
  | 27,_,w=>idxc_27 w
  | 28,_,w=>idxc_28 w
  | 29,_,w=>idxc_29 w
  | 30,_,w=>idxc_30 w
  | 31,_,w=>idxc_31 w
  | k + 32,h,w=>absurd h (by omega)
theorem idxo:∀ (k:Nat),k < 6 → ∀ w:World,(Instr.index 99 (.agg othersC) (.int .i64 (k:Int))).run Tryd.prog w=.ok (.agg (otC (otA k))) w
  | 0,_,w=>idx_0 w
  | 1,_,w=>idx_1 w
  | 2,_,w=>idx_2 w
  | 3,_,w=>idx_3 w
  | 4,_,w=>idx_4 w
  | 5,_,w=>idx_5 w
  | k + 6,h,w=>absurd h (by omega)
theorem i8_small (k:Nat) (h:k < 32):IntKind.i8.wrap (k:Int)=(k:Int):=by
  have:∀ c:Fin 32,IntKind.i8.wrap (c.1:Int)=(c.1:Int):=by decide +kernel
  exact this ⟨k,h⟩
def YC (pre:List (Int × Cd)) (x:Int × Cd) (_:World):Prop:=∃ k,k < 38 ∧ pre=allOps.take k ∧ x=allOps.getD k (0,zCd)
def SC (xs:List (Int × Cd)) (_:World):Prop:=xs=allOps
def SpC (pre:List (Int × Cd)) (_:World):Prop:=∃ k,k < 38 ∧ pre=allOps.take (k + 1)
set_option maxHeartbeats 4000000 in
theorem eachCode_seq (r n:Nat) (hr:3 ≤ r) (hn:2 ≤ n) (w0:World) (hT:Tab3 w0):SeqK (fun _=>false) (kR r) 0 n Tryd.prog 42 #[] #[] encC YC SC SpC w0:=by
  intro l J Jx W hB hJ hJx hY hJ0
  have T0:=Lib.hid (hT.below hB (Nat.le_refl _))
  have J0:=Lib.hid hJ0
  have HJ:=Lib.hid hJ
  have HY:=Lib.hid hY
  clear hJ0 hJ hJx hY hT hB
  obtain ⟨T,fr,oc⟩:=T0.out.cs
  have OC:=Lib.hid oc
  clear oc
  show CallsIn Fence.wide n Tryd.prog 42 #[.func (.yield l) #[] #[]] W _
  refine callsIn_of_wp Tryd.func42 rfl trivial ?_ rfl
  simp only [Tryd.ntmps42,List.size_toArray,List.length_cons,List.length_nil,Nat.reduceAdd,Nat.reduceSub,Array.replicate_succ,Array.replicate_zero,List.push_toArray,List.append_toArray,List.nil_append,List.cons_append]
  refine (wpIn_wide (n:=n)).2 ?_
  go_wp2_with (with_reducible refine (halt_load 97 _ rfl ?_))
  refine ⟨?_,trivial⟩
  refine wpList_load_row rfl _ _ rfl _ rfl _ _ _ _ OC.out Tryd.underlying97 rfl (by kernel_rfl) ?_
  go_wp2_with fail
  go_loopw [7] (fun i wr=>∃ k:Nat,k ≤ 32 ∧ i=.int .i64 k ∧ Hid (J (allOps.take k) wr ∧ Tab3 wr)) (fun i _=>32 - (intOf i).toNat)
  case atStart=>exact ⟨0,by omega,rfl,Lib.hid ⟨J0.out,T0.out⟩⟩
  case round=>
    obtain ⟨k,hk,rfl,HR⟩:=hrel
    by_cases hlt:k < 32
    · have k1:(k:Int) < 32:=by omega
      have e8:=i8_small k hlt
      have ix:=idxc k hlt
      have Y1:YC (allOps.take k) ((k:Int),codeA (k:Int)) wr:=⟨k,by omega,rfl,(allOps_lo k hlt).symm⟩
      have tk:=allOps_take k (by omega)
      rw [allOps_lo k hlt] at tk
      generalize codeA (k:Int)=c at *
      obtain ⟨sh,wd,va,dg,lo⟩:=c
      simp only [cdC] at ix
      have b1:=below_new (Below.refl wr.heap.size wr) (.cells #[.int .i8 sh,.int .i8 wd,.int .u16 va,.int .i8 dg,.int .u16 lo] 66)
      obtain ⟨fn,tmps,assign,body,hy,hR⟩:=HY.out _ _ (wr.alloc (.cells #[.int .i8 sh,.int .i8 wd,.int .u16 va,.int .i8 dg,.int .u16 lo] 66)) (HJ.out _ _ _ HR.out.1 (.of_below b1)) Y1
      have TB:=Lib.hid (HR.out.2.below b1 (Nat.le_refl _))
      have TK:=Lib.hid tk
      clear b1 Y1 tk
      dsimp only [encC] at hy
      refine (wpIn_wide (n:=n)).1 ?_
      gi_wp2
      refine ⟨fun _=>by omega,hR.mono ?_⟩
      rintro e W3 (⟨rfl,hJ3,hk3,_⟩ | ⟨rfl,hJx3,_⟩)
      · rw [← TK.out] at hJ3
        have H3:=Lib.hid (And.intro hJ3 (TB.out.keep hk3 hr))
        clear hJ3 hk3
        gi_wp2
        go_roundw
        case rel=>exact ⟨k + 1,by omega,by go_num,H3⟩
        case measure=>simp [intOf];omega
      · rw [← TK.out] at hJx3
        gi_wp2
        refine bodyPost_ret (results_none rfl _ _ _) rfl ?_
        exact ⟨⟨_,rfl⟩,.inr ⟨_,⟨k,by omega,rfl⟩,hJx3⟩⟩
    · obtain rfl:k=32:=by omega
      obtain ⟨T2,fr2,oo⟩:=HR.out.2.os
      have OO:=Lib.hid oo
      clear oo
      go_wp2_with (with_reducible refine (halt_load 99 _ rfl ?_))
      refine ⟨?_,trivial⟩
      refine wpList_load_row rfl _ _ rfl _ rfl _ _ _ _ OO.out Tryd.underlying99 rfl (by kernel_rfl) ?_
      go_wp2_with fail
      go_loopw [19] (fun i wr=>∃ k:Nat,k ≤ 6 ∧ i=.int .i64 k ∧ Hid (J (allOps.take (32 + k)) wr ∧ Tab3 wr)) (fun i _=>6 - (intOf i).toNat)
      case atStart=>exact ⟨0,by omega,rfl,HR⟩
      case round=>
        obtain ⟨k,hk,rfl,HQ⟩:=hrel
        by_cases hlt:k < 6
        · have k1:(k:Int) < 6:=by omega
          have ix:=idxo k hlt
          have Y1:YC (allOps.take (32 + k)) (otA k) wr:=⟨32 + k,by omega,rfl,(allOps_hi k hlt).symm⟩
          have tk:=allOps_take (32 + k) (by omega)
          rw [allOps_hi k hlt] at tk
          generalize otA k=c at *
          obtain ⟨op,sh,wd,va,dg,lo⟩:=c
          simp only [otC] at ix
          have b1:=below_new (Below.refl wr.heap.size wr) (.cells #[.int .i8 op,.int .i8 sh,.int .i8 wd,.int .u16 va,.int .i8 dg,.int .u16 lo] 98)
          obtain ⟨fn,tmps,assign,body,hy,hR⟩:=HY.out _ _ (wr.alloc (.cells #[.int .i8 op,.int .i8 sh,.int .i8 wd,.int .u16 va,.int .i8 dg,.int .u16 lo] 98)) (HJ.out _ _ _ HQ.out.1 (.of_below b1)) Y1
          have TB:=Lib.hid (HQ.out.2.below b1 (Nat.le_refl _))
          have TK:=Lib.hid tk
          clear b1 Y1 tk
          dsimp only [encC,cdC] at hy
          refine (wpIn_wide (n:=n)).1 ?_
          gi_wp2
          refine ⟨fun _=>by omega,hR.mono ?_⟩
          rintro e W3 (⟨rfl,hJ3,hk3,_⟩ | ⟨rfl,hJx3,_⟩)
          · rw [← TK.out] at hJ3
            have H3:=Lib.hid (And.intro hJ3 (TB.out.keep hk3 hr))
            clear hJ3 hk3
            gi_wp2
            go_roundw
            case rel=>exact ⟨k + 1,by omega,by go_num,H3⟩
            case measure=>simp [intOf];omega
          · rw [← TK.out] at hJx3
            gi_wp2
            refine bodyPost_ret (results_none rfl _ _ _) rfl ?_
            exact ⟨⟨_,rfl⟩,.inr ⟨_,⟨32 + k,by omega,rfl⟩,hJx3⟩⟩
        · obtain rfl:k=6:=by omega
          have JE:=HQ.out.1
          rw [show List.take (32 + 6) allOps=allOps from List.take_of_length_le (by rw [allOps_len];omega)] at JE
          have JE:=Lib.hid JE
          go_wp2_with fail
          go_end0
          exact ⟨⟨_,rfl⟩,.inl ⟨_,rfl,JE.out⟩⟩
end Go.Proofs.YthmbmcckldgdiaaDoor.Mrm
