import Derived.Test.YthmbmcckldgdiaaDoorERw27
import Derived.Test.YthmbmcckldgdiaaDoorERw41
import Derived.Test.YthmbmcckldgdiaaDoorERw43
import Derived.Test.YthmbmcckldgdiaaDoorERw28
set_option linter.unusedVariables false
set_option linter.unusedSimpArgs false
set_option linter.unnecessarySimpa false
namespace Go.Proofs.YthmbmcckldgdiaaDoor.Mrm
open Go Go.RowKit
set_option linter.unusedVariables false
set_option linter.unnecessarySimpa false
set_option linter.unusedSimpArgs false
set_option maxRecDepth 100000
theorem cread_any {zs:List Int} (W:World) {a:Option Addr} {n c:Nat} (h:BytesAt W a n c zs) (hT:Tab3 W) (h3:3 ≤ W.heap.size) (r:Option Xi) (hr:readX zs=r):
    Calls Tryd.prog 8 #[.slice a n c] W fun e w'=>e=.returned (readA r) ∧ Below W.heap.size W w':=by
  have q:=cread_n a n c zs W h hT h3 (cands_ok h.ok)
  rw [hr] at q
  exact q
end Go.Proofs.YthmbmcckldgdiaaDoor.Mrm
namespace Go.Proofs.YthmbmcckldgdiaaDoor.Mrm
open Go Go.RowKit Mdl
set_option linter.unusedVariables false
set_option linter.unnecessarySimpa false
set_option linter.unusedSimpArgs false
set_option maxRecDepth 100000
inductive Gone (zs:List Int):List (Int × Xi) → Nat → Prop
  | nil:Gone zs [] 0
  | snoc {pre:List (Int × Xi)} {p:Nat} {x:Xi}:Gone zs pre p → readX (zs.drop p)=some x → Gone zs (pre ++ [((p:Int),x)]) (p + (bytesX x).length)
theorem oks_drop {zs:List Int} (h:Oks zs) (p:Nat):Oks (zs.drop p):=fun z hz=>h z (List.mem_of_mem_drop hz)
theorem read_len {zs:List Int} (ok:Oks zs) {p:Nat} {x:Xi} (hp:p ≤ zs.length) (h:readX (zs.drop p)=some x):p + (bytesX x).length ≤ zs.length ∧ 1 ≤ (bytesX x).length ∧ XOk x ∧ mayX x=true:=by
  obtain ⟨hX,hm,e⟩:=readX_some (oks_drop ok p) h
  have h1:=bytes_some x hX hm
  have:=congrArg List.length e
  simp only [List.length_take,List.length_drop] at this
  exact ⟨by omega,h1,hX,hm⟩
theorem Gone.le {zs:List Int} (ok:Oks zs) {pre:List (Int × Xi)} {p:Nat} (h:Gone zs pre p):p ≤ zs.length:=by
  induction h with
  | nil=>exact Nat.zero_le _
  | snoc g hr ih=>exact (read_len ok ih hr).1
abbrev encA (q:Int × Xi):Array Value:=#[.int .i64 q.1,.agg (xC q.2)]
def YA (zs:List Int) (pre:List (Int × Xi)) (q:Int × Xi) (_:World):Prop:=∃ p:Nat,Gone zs pre p ∧ readX (zs.drop p)=some q.2 ∧ q.1=(p:Int)
def SA (zs:List Int) (pre:List (Int × Xi)) (_:World):Prop:=∃ p:Nat,Gone zs pre p ∧ readX (zs.drop p)=none
def SpA (zs:List Int) (pre:List (Int × Xi)) (_:World):Prop:=∃ p:Nat,Gone zs pre p
def kI (gi gr:Nat) (k:Nat) (_:TypeId):Bool:=decide (k ≠ gi) && decide (k ≠ gr)
theorem kI_yes {gi gr k:Nat} {t:TypeId} (h:k ≠ gi) (h2:k ≠ gr):kI gi gr k t=true:=by unfold kI;simp [h,h2]
theorem keepI_row {gi gr:Nat} {W w:World} (b:KeepK (kI gi gr) W w) {k:Nat} {C:Array Value} {T:TypeId} {fr:Nat × Nat} (h:W.heap[k]?=some (.cells C T fr)) (h1:k ≠ gi) (h2:k ≠ gr):w.heap[k]?=some (.cells C T fr):=
  b.same _ _ h (show kI gi gr k T=true from kI_yes h1 h2)
theorem Tab3.keepI {gi gr:Nat} {W w:World} (h:Tab3 W) (b:KeepK (kI gi gr) W w) (h1:3 ≤ gi) (h2:3 ≤ gr):Tab3 w:=by
  obtain ⟨⟨T,fr,e1⟩,⟨T',fr',e2⟩,⟨T2,fr2,e3⟩⟩:=h
  exact ⟨⟨T,fr,keepI_row b e1 (by omega) (by omega)⟩,⟨T',fr',keepI_row b e2 (by omega) (by omega)⟩,⟨T2,fr2,keepI_row b e3 (by omega) (by omega)⟩⟩
theorem eql_nil {P:Program} (t e:TypeId) (a:Option Addr) (l c:Nat) (h:P.underlying t=some (.slice e)) (w:World):(binOp .eql t (.slice a l c) (.slice none 0 0)).run P w=.ok (.bool a.isNone) w:=by
  simp only [binOp]
  simp [run_equal_slice_nil w t e a l c h]
theorem clone_n (a:Option Addr) (len cap:Nat) (zs:List Int) (W:World) (h:BytesAt W a len cap zs) (hfew:len ≤ 1000):
    Calls Tryd.prog 16 #[.slice a len cap] W fun e w'=>∃ v,e=.returned v ∧ Bts W.heap.size w' v zs ∧ Below W.heap.size W w':=by
  cases a with
  | none=>
    obtain rfl:cap=0:=h.nilc rfl
    obtain rfl:len=0:=by have:=h.le;omega
    obtain rfl:zs=[]:=List.eq_nil_of_length_eq_zero h.size.symm
    clear h
    have en:=fun w=>eql_nil (P:=Tryd.prog) 25 5 none 0 0 Tryd.underlying25 w
    simp only [Option.isNone_none] at en
    go_enter Tryd.func16,Tryd.ntmps16
    go_wp2_with fail
    go_ret
    exact ⟨_,rfl,Bts.nil _ _,Below.refl _ _⟩
  | some ad=>
    have HZ:=Lib.hid h
    clear h
    have en:=fun w=>eql_nil (P:=Tryd.prog) 25 5 (some ad) len cap Tryd.underlying25 w
    simp only [Option.isNone_some] at en
    go_enter Tryd.func16,Tryd.ntmps16
    go_wp2_with (at_builtin;refine (show ∀ p:Prop,Hid p → p from fun _ h=>h.out) _ ?_)
    refine Lib.hid ?_
    refine wpList_append_b rfl _ _ rfl W.heap.size _ _ rfl (made_own W [] (by decide) (Nat.le_refl _)) _ _ _ zs rfl (HZ.out.below (below_new (Below.refl _ _) _)) (by simp;omega) (by simp) ?_
    intro v2 w2 o2 g2
    have B2:=Lib.hid (below_grownN (below_new (Below.refl W.heap.size W) _) (by simp) g2 (fun j hj=>(made_own W [] (by decide) (Nat.le_refl _)).lt j hj))
    rw [List.nil_append] at o2
    have O2:=Lib.hid o2
    clear o2 g2
    go_wp2_with fail
    go_ret
    exact ⟨_,rfl,O2.out,B2.out⟩
end Go.Proofs.YthmbmcckldgdiaaDoor.Mrm
namespace Go.Proofs.YthmbmcckldgdiaaDoor.Mrm
open Go Go.RowKit Mdl
set_option linter.unusedVariables false
set_option linter.unnecessarySimpa false
set_option linter.unusedSimpArgs false
set_option maxRecDepth 100000
theorem wide_seq {n:Nat} {P:Program} {x y:Code} {Q:Exit → Act → World → Prop} {a:Act} {w:World} (h:∀ K:Act → World → Prop,(∀ a w,y.wpIn Fence.wide n P Q a w → K a w) → x.wp P (Exit.then K (fun _ _ _=>False)) a w):(Code.seq x y).wpIn Fence.wide n P Q a w:=
  wpIn_wide.2 (wp_seq (wp_mono (h (fun a w=>y.wpIn Fence.wide n P Q a w) (fun _ _ h=>h)) (fun e a w h=>by
    cases e with
    | normal=>exact wpIn_wide.1 h
    | _=>exact h.elim)))
structure AI (J:List (Int × Xi) → World → Prop) (zs:List Int) (a:Option Addr) (len cap bB s:Nat) (pre:List (Int × Xi)) (p:Nat) (w:World):Prop where
  g:Gone zs pre p
  j:J pre w
  t:Tab3 w
  b:w.heap[bB]?=some (.cells #[.slice a len cap] 25 (0,0))
  z:BytesAt w a len cap zs
  s:s ≤ w.heap.size
theorem AI.below {J:List (Int × Xi) → World → Prop} {zs:List Int} {a:Option Addr} {len cap bB s:Nat} {pre:List (Int × Xi)} {p:Nat} {w w':World} (h:AI J zs a len cap bB s pre p w) (bb:Below w.heap.size w w') (hj:J pre w'):AI J zs a len cap bB s pre p w':=
  ⟨h.g,hj,h.t.below bb (Nat.le_refl _),row_heap h.b bb,h.z.below bb,Nat.le_trans h.s bb.size⟩
theorem AI.keep {J:List (Int × Xi) → World → Prop} {zs:List Int} {a:Option Addr} {len cap bB s gi gr:Nat} {pre pre':List (Int × Xi)} {p p':Nat} {w w':World} (h:AI J zs a len cap bB s pre p w) (k:KeepK (kI gi gr) w w') (h1:3 ≤ gi) (h2:3 ≤ gr) (b1:bB ≠ gi) (b2:bB ≠ gr) (hB:∀ B o,a=some ⟨B,o,none⟩ → B ≠ gi ∧ B ≠ gr) (g':Gone zs pre' p') (hj:J pre' w'):AI J zs a len cap bB s pre' p' w':=
  ⟨g',hj,h.t.keepI k h1 h2,keepI_row k h.b b1 b2,h.z.same (fun B o e _ _ _ hb=>keepI_row k hb (hB B o e).1 (hB B o e).2),Nat.le_trans h.s k.size⟩
set_option maxHeartbeats 4000000 in
theorem all_seq (gi gr n:Nat) (h1:3 ≤ gi) (h2:3 ≤ gr) (bB B o len cap:Nat) (zs:List Int) (w0:World) (b1:bB ≠ gi) (b2:bB ≠ gr) (hB1:B ≠ gi) (hB2:B ≠ gr) (hfew:len ≤ 100000) (hT:Tab3 w0) (hb:w0.heap[bB]?=some (.cells #[.slice (some ⟨B,o,none⟩) len cap] 25 (0,0))) (hz:BytesAt w0 (some ⟨B,o,none⟩) len cap zs) (hn:1 ≤ n):
    SeqK (fun _=>false) (kI gi gr) 0 n Tryd.prog 17 #[] #[.pointer (some ⟨bB,0,none⟩)] encA (YA zs) (SA zs) (SpA zs) w0:=by
  intro l J Jx W hW hJ hJx hY hJ0
  have R0:=Lib.hid (show AI J zs (some ⟨B,o,none⟩) len cap bB W.heap.size [] 0 W from ⟨.nil,hJ0,hT.below hW (Nat.le_refl _),row_heap hb hW,hz.below hW,Nat.le_refl _⟩)
  have HJ:=Lib.hid hJ
  have HY:=Lib.hid hY
  have hsz:=Lib.hid hz.size
  have hle:=hz.le
  have hfit:=hz.fit
  have OK:=Lib.hid hz.ok
  have HBB:∀ B' o',some (⟨B,o,none⟩:Addr)=some ⟨B',o',none⟩ → B' ≠ gi ∧ B' ≠ gr:=fun B' o' e=>by
    injection e with e
    injection e with e
    subst e
    exact ⟨hB1,hB2⟩
  have HBB:=Lib.hid HBB
  clear hJ0 hJ hJx hY hT hz hb hW
  show CallsIn Fence.wide n Tryd.prog 17 #[.func (.yield l) #[] #[],.pointer (some ⟨bB,0,none⟩)] W _
  refine callsIn_of_wp Tryd.func17 rfl trivial ?_ rfl
  simp only [Tryd.ntmps17,List.size_toArray,List.length_cons,List.length_nil,Nat.reduceAdd,Nat.reduceSub,Array.replicate_succ,Array.replicate_zero,List.push_toArray,List.append_toArray,List.nil_append,List.cons_append]
  refine (wpIn_wide (n:=n)).2 ?_
  go_wp2_with fail
  go_loopw [3] (fun i wr=>∃ p:Nat,i=.int .i64 p ∧ Hid (p ≤ len ∧ ∃ pre,AI J zs (some ⟨B,o,none⟩) len cap bB W.heap.size pre p wr)) (fun i _=>len - (intOf i).toNat)
  case atStart=>exact ⟨0,rfl,Lib.hid ⟨Nat.zero_le _,[],R0.out⟩⟩
  case round=>
    obtain ⟨p,rfl,HR⟩:=hrel
    obtain ⟨hpl,pre,hA⟩:=HR.out
    have HA:=Lib.hid hA
    have hp1:(p:Int) ≤ (len:Int):=by omega
    have hp2:(p:Int) ≤ (cap:Int):=by omega
    have e1:((len:Int) - (p:Int)).toNat=len - p:=by omega
    have e2:((cap:Int) - (p:Int)).toNat=cap - p:=by omega
    have cb:=row_cell hA.b 0 _ rfl
    have HC:=Lib.hid (show BytesAt wr (some ⟨B,o + p,none⟩) (len - p) (cap - p) (zs.drop p) from by
      have q:=at_cut hA.z p (len - p) (cap - p) (by omega) (by omega) (by omega)
      rw [List.take_of_length_le (by rw [List.length_drop];have:=hsz.out;omega)] at q
      exact q)
    have HC0:=Lib.hid (fun (hc:cap - p=0)=>show BytesAt wr (some ⟨B,o,none⟩) (len - p) 0 (zs.drop p) from by
      have q:=at_cut hA.z 0 0 0 (by omega) (by omega) (by omega)
      rw [List.take_zero,Nat.add_zero] at q
      rw [show len - p=0 by omega,List.drop_eq_nil_of_le (by have:=hsz.out;omega)]
      exact q)
    have H3:=hA.t.size
    clear hA
    cases hr:readX (zs.drop p) with
    | none=>
      have CR:=Lib.hid (cread_any wr HC.out HA.out.t H3 none hr)
      have CR0:=Lib.hid (fun hc=>cread_any wr (HC0.out hc) HA.out.t H3 none hr)
      simp only [readA] at CR CR0
      have SE:=Lib.hid (show SA zs pre wr from ⟨p,HA.out.g,hr⟩)
      clear hr
      refine (wpIn_wide (n:=n)).1 ?_
      refine wpIn_block ?_
      refine wide_seq ?_
      intro K1 hK1
      go_wp2_with fail
      all_goals (
        first | with_reducible refine CR.out.mono ?_ | with_reducible refine (CR0.out (by omega)).mono ?_
        rintro e w2 ⟨rfl,c2⟩
        have B2:=Lib.hid c2
        clear c2
        go_wp2_with (with_reducible refine (halt_store 24 _ _ rfl ?_))
        refine ⟨?_,trivial⟩
        refine wpList_store_is rfl 24 _ _ rfl _ _ rfl rfl _ _ (heap_last _ _ _ rfl) (by kernel_rfl) rfl (by kernel_rfl) ?_
        intro w3 S3
        have B3:=Lib.hid (S3.below (below_new B2.out _) B2.out.size)
        clear S3
        go_wp2_with fail
        refine (wpIn_wide (n:=n)).2 ?_
        go_wp2_with fail
        refine bodyPost_ret (results_none rfl _ _ _) rfl ?_
        exact ⟨⟨_,rfl⟩,.inl ⟨pre,SE.out,HJ.out _ _ _ HA.out.j (.of_below B3.out)⟩⟩)
    | some x=>
      obtain ⟨hpx,hx1,hX,hm⟩:=read_len OK.out (show p ≤ zs.length by have:=hsz.out;omega) hr
      have CR:=Lib.hid (cread_any wr HC.out HA.out.t H3 _ hr)
      have CR0:=Lib.hid (fun hc=>cread_any wr (HC0.out hc) HA.out.t H3 _ hr)
      simp only [readA] at CR CR0
      have YX:=Lib.hid (fun (w:World)=>show YA zs pre ((p:Int),x) w from ⟨p,HA.out.g,hr,rfl⟩)
      have GX:=Lib.hid (HA.out.g.snoc hr)
      have el:IntKind.i64.wrap ((p:Int) + ((bytesX x).length:Int))=((p + (bytesX x).length:Nat):Int):=by rw [IntKind.wrap_i64];have:=hsz.out;omega
      have ml:p + (bytesX x).length ≤ len:=by have:=hsz.out;omega
      clear hr hpx hX hm
      generalize (bytesX x).length=nx at *
      refine (wpIn_wide (n:=n)).1 ?_
      refine wpIn_block ?_
      refine wide_seq ?_
      intro K1 hK1
      go_wp2_with fail
      first | with_reducible refine CR.out.mono ?_ | with_reducible refine (CR0.out (by omega)).mono ?_
      all_goals (
        rintro e w2 ⟨rfl,c2⟩
        have B2:=Lib.hid c2
        clear c2
        go_wp2_with (with_reducible refine (halt_store 24 _ _ rfl ?_))
        refine ⟨?_,trivial⟩
        refine wpList_store_is rfl 24 _ _ rfl _ _ rfl rfl _ _ (heap_last _ _ _ rfl) (by kernel_rfl) rfl (by kernel_rfl) ?_
        intro w3 S3
        have B3:=Lib.hid (S3.below (below_new B2.out _) B2.out.size)
        have R3:=S3.row
        clear S3
        have x0:=row_cell R3 0 _ rfl
        have x1:=row_cell R3 1 _ rfl
        have x2:=row_cell R3 2 _ rfl
        have x3:=row_cell R3 3 _ rfl
        have x4:=row_cell R3 4 _ rfl
        have x5:=row_cell R3 5 _ rfl
        have x6:=row_cell R3 6 _ rfl
        have x7:=row_cell R3 7 _ rfl
        clear R3
        have A3:=Lib.hid (HA.out.below B3.out (HJ.out _ _ _ HA.out.j (.of_below B3.out)))
        obtain ⟨fn,tmps,assign,body,hy,hR⟩:=HY.out pre ((p:Int),x) w3 A3.out.j (YX.out w3)
        dsimp only [encA] at hy
        go_wp2_with fail
        gi_wp2
        refine hR.mono ?_
        rintro e W3 (⟨rfl,hJ3,hk3,_⟩ | ⟨rfl,hJx3,_⟩)
        · have A4:=Lib.hid (A3.out.keep hk3 h1 h2 b1 b2 HBB.out GX.out hJ3)
          clear hJ3 hk3 x0 x1 x2 x3 x4 x5 x6 x7
          gi_wp2
          go_roundw
          case rel=>exact ⟨p + nx,by go_num,Lib.hid ⟨ml,_,A4.out⟩⟩
          case measure=>simp [intOf];omega
        · gi_wp2
          refine bodyPost_ret (results_none rfl _ _ _) rfl ?_
          exact ⟨⟨_,rfl⟩,.inr ⟨_,⟨_,GX.out⟩,hJx3⟩⟩)
end Go.Proofs.YthmbmcckldgdiaaDoor.Mrm
namespace Go.Proofs.YthmbmcckldgdiaaDoor.Mrm
open Go Go.RowKit Mdl
set_option linter.unusedVariables false
set_option linter.unnecessarySimpa false
set_option linter.unusedSimpArgs false
set_option maxRecDepth 100000
section
variable {w w':World} {base n size:Nat} {e T:TypeId} {v:Value} {xs:List Value}
theorem own_ty (h:w.ownsRow base e size v n xs):∀ k,v.ownBlock=some k → ∃ cur,w.heap[k]?=some (.cells cur e (0,0)):=by
  intro k hk
  rcases h.2 with ⟨rfl,_⟩ | ⟨g,cap,cur,rfl,_,hh,_⟩
  · simp [Value.ownBlock] at hk
  · simp [Value.ownBlock] at hk
    subst hk
    exact ⟨cur,hh⟩
theorem own_below (h:w.ownsRow base e size v n xs) (b:Below w.heap.size w w'):w'.ownsRow base e size v n xs:=by
  refine ⟨h.1,?_⟩
  rcases h.2 with h | ⟨g,cap,cur,e1,e2,e3,r⟩
  · exact .inl h
  · exact .inr ⟨g,cap,cur,e1,e2,(b.block g (Array.getElem?_eq_some_iff.1 e3).1).trans e3,r⟩
theorem row_grown {base' n' size':Nat} {e':TypeId} {v':Value} {xs':List Value} {g:Nat} {c:Array Value} (h:w.heap[g]?=some (.cells c T (0,0))) (o:w.ownsRow base' e' size' v' n' xs') (gr:w.grownBy w' v'.ownBlock) (ne:T ≠ e'):w'.heap[g]?=some (.cells c T (0,0)):=by
  refine (gr.block g (Array.getElem?_eq_some_iff.1 h).1 (fun hk=>?_)).trans h
  obtain ⟨cur,hc⟩:=own_ty o g hk.symm
  rw [h] at hc
  injection hc with hc
  injection hc with _ hc
  exact ne hc
theorem own_grown {base' n' size':Nat} {e':TypeId} {v':Value} {xs':List Value} (h:w.ownsRow base e size v n xs) (o:w.ownsRow base' e' size' v' n' xs') (gr:w.grownBy w' v'.ownBlock) (ne:e ≠ e'):w'.ownsRow base e size v n xs:=by
  refine ⟨h.1,?_⟩
  rcases h.2 with h | ⟨g,cap,cur,e1,e2,e3,r⟩
  · exact .inl h
  · exact .inr ⟨g,cap,cur,e1,e2,row_grown e3 o gr ne,r⟩
theorem row_stored {g k:Nat} {c cells old:Array Value} {U:TypeId} (h:w.heap[k]?=some (.cells c T (0,0))) (s:Stored w g cells U w') (ho:w.heap[g]?=some (.cells old U (0,0))) (ne:T ≠ U):w'.heap[k]?=some (.cells c T (0,0)):=by
  refine (s.other k (fun hk=>?_)).trans h
  subst hk
  rw [h] at ho
  injection ho with ho
  injection ho with _ ho
  exact ne ho
theorem own_stored {g:Nat} {cells old:Array Value} {U:TypeId} (h:w.ownsRow base e size v n xs) (s:Stored w g cells U w') (ho:w.heap[g]?=some (.cells old U (0,0))) (ne:e ≠ U):w'.ownsRow base e size v n xs:=by
  refine ⟨h.1,?_⟩
  rcases h.2 with h | ⟨k,cap,cur,e1,e2,e3,r⟩
  · exact .inl h
  · exact .inr ⟨k,cap,cur,e1,e2,row_stored e3 s ho ne,r⟩
end
theorem info_intR:∃ i,Tryd.prog.info? 3=some i ∧ i.zero=some (.int .i64 0) ∧ i.size=1 ∧ i.bytes=8:=by
  have h:(Tryd.prog.info? 3).map (fun i=>(i.zero,i.size,i.bytes))=some (some (.int .i64 0),1,8):=by kernel_rfl
  cases hi:Tryd.prog.info? 3 with
  | none=>rw [hi] at h;cases h
  | some i=>
    rw [hi] at h
    simp only [Option.map_some,Option.some.injEq,Prod.mk.injEq] at h
    exact ⟨i,rfl,h.1,h.2.1,h.2.2⟩
theorem info_xR:∃ i,Tryd.prog.info? 24=some i ∧ i.zero=some (.agg (xC zX)) ∧ i.size=8:=by
  have h:(Tryd.prog.info? 24).map (fun i=>(i.zero,i.size))=some (some (.agg (xC zX)),8):=by kernel_rfl
  cases hi:Tryd.prog.info? 24 with
  | none=>rw [hi] at h;cases h
  | some i=>
    rw [hi] at h
    simp only [Option.map_some,Option.some.injEq,Prod.mk.injEq] at h
    exact ⟨i,rfl,h.1,h.2⟩
theorem few_xR:∀ i,Tryd.prog.info? 24=some i → i.bytes ≤ 64:=by
  intro i hi
  have h:(Tryd.prog.info? 24).map (fun i=>decide (i.bytes ≤ 64))=some true:=by kernel_rfl
  rw [hi] at h
  simpa using h
section
variable {ops:Array Oper} {rest:List Oper} {o:Oper} {a:Act} {w:World} {Q:Exit → Act → World → Prop}
theorem append_intR (hgd:o.guard=none) (s x:Operand) (ho:o.op=.call { callee:=.builtin .append,args:=#[s,x],argTypes:=#[35,35] }) (base n:Nat) (v:Value) (xs:List Value) (z:Int) (gs:Nat) (hs:a.eval s=v) (hx:a.eval x=.slice (some ⟨gs,0,none⟩) 1 1)
    (hown:w.ownsRow base 3 1 v n xs) (hr:w.heap[gs]?=some (.cells #[.int .i64 z] 3 (0,0))) (hb:base ≤ w.heap.size) (hn:n ≤ 10000)
    (h:∀ v' w',w'.ownsRow base 3 1 v' (n + 1) (xs ++ [.int .i64 z]) → w.grownBy w' v.ownBlock → wpList Tryd.prog ops Q rest (a.put o.dst v') w'):wpList Tryd.prog ops Q (o :: rest) a w:=by
  obtain ⟨ti,i1,i2,i3,i4⟩:=info_intR
  refine wpList_append_own _ hgd s x 35 ho base 3 ti _ 1 8 Tryd.underlying35 i1 i2 i3 i4 rfl (by decide) v n xs hs hown ⟨gs,0,none⟩ 1 1 [.int .i64 z] hx rfl (fun j u hu=>by
    rw [Addr.add_mid]
    simp only [World.cell?,hr]
    simpa using hu) (by intro u hu;simp only [List.mem_cons,List.not_mem_nil,or_false] at hu;subst hu;rfl) (by unfold maxLen;omega) (by omega) hb ?_
  intro v' w' h1 h2 _
  exact h v' w' h1 h2
theorem append_xR (hgd:o.guard=none) (s x:Operand) (ho:o.op=.call { callee:=.builtin .append,args:=#[s,x],argTypes:=#[34,34] }) (base n:Nat) (v:Value) (xs:List Value) (y:Xi) (gs:Nat) (hs:a.eval s=v) (hx:a.eval x=.slice (some ⟨gs,0,none⟩) 1 1)
    (hown:w.ownsRow base 24 8 v n xs) (hr:w.heap[gs]?=some (.cells (xC y) 24 (0,0))) (hb:base ≤ w.heap.size) (hn:n ≤ 10000)
    (h:∀ v' w',w'.ownsRow base 24 8 v' (n + 1) (xs ++ xL y) → w.grownBy w' v.ownBlock → wpList Tryd.prog ops Q rest (a.put o.dst v') w'):wpList Tryd.prog ops Q (o :: rest) a w:=by
  obtain ⟨ti,i1,i2,i3⟩:=info_xR
  have i4:=few_xR ti i1
  have hby:(n + 1) * ti.bytes ≤ 10001 * 64:=Nat.mul_le_mul (by omega) i4
  refine wpList_append_own _ hgd s x 34 ho base 24 ti _ 8 ti.bytes Tryd.underlying34 i1 i2 i3 rfl rfl (by decide) v n xs hs hown ⟨gs,0,none⟩ 1 1 (xL y) hx rfl (fun j u hu=>by
    rw [Addr.add_mid]
    simp only [World.cell?,hr,Nat.zero_add]
    simpa using hu) (fun u hu=>by
      simp only [List.mem_cons,List.not_mem_nil,or_false] at hu
      rcases hu with rfl | rfl | rfl | rfl | rfl | rfl | rfl | rfl <;> rfl) (by unfold maxLen;omega) (Nat.le_trans hby (by decide)) hb ?_
  intro v' w' h1 h2 _
  exact h v' w' h1 h2
end
theorem all_n (a:Option Addr) (len cap:Nat) (zs:List Int) (W:World) (h:BytesAt W a len cap zs) (hfew:len ≤ 1000):
    Calls Tryd.prog 10 #[.slice a len cap] W fun e w'=>e=.returned (.func (.func 17) #[] #[.pointer (some ⟨W.heap.size,0,none⟩)]) ∧ Below W.heap.size W w' ∧ ∃ v,w'.heap[W.heap.size]?=some (.cells #[v] 25 (0,0)) ∧ Bts (W.heap.size + 1) w' v zs:=by
  have hmf:∀ (fn:Fn) (first cap:Array Value) (w:World),(Instr.makeFunc fn first cap).run Tryd.prog w=.ok (.func fn first cap) w:=fun _ _ _ _=>rfl
  have CL:=Lib.hid (clone_n a len cap zs _ (h.below (below_new (Below.refl _ _) (.cells #[.slice a len cap] 25))) hfew)
  clear h
  go_enter Tryd.func10,Tryd.ntmps10
  go_wp2_with fail
  refine CL.out.mono ?_
  rintro e w2 ⟨v,rfl,o2,b2⟩
  have hr:w2.heap[W.heap.size]?=some (.cells #[.slice a len cap] 25 (0,0)):=(b2.block _ (by rw [size_alloc];omega)).trans (heap_last _ _ _ rfl)
  have O2:=Lib.hid o2
  have B2:=Lib.hid (below_call (below_new (Below.refl _ _) _) b2)
  clear o2 b2
  obtain ⟨pv,cv,rfl⟩:=bts_slice O2.out
  go_wp2_with (with_reducible refine (halt_store 25 _ _ rfl ?_))
  refine ⟨?_,trivial⟩
  refine wpList_store_cell rfl 25 _ _ rfl W.heap.size 0 (.slice pv zs.length cv) rfl rfl rfl rfl _ _ hr (by kernel_rfl) (Nat.le_of_ble_eq_true rfl) ?_
  intro w3 S3
  have S3h:=Lib.hid S3
  clear S3 hr
  go_wp2_with fail
  go_ret
  refine ⟨rfl,S3h.out.below B2.out (Nat.le_refl _),_,S3h.out.row,?_⟩
  have q:=O2.out
  rw [size_alloc] at q
  refine ⟨q.1,?_⟩
  rcases q.2 with q | ⟨g,c,cur,e1,e2,e3,r⟩
  · exact .inl q
  · exact .inr ⟨g,c,cur,e1,e2,(S3h.out.other g (by omega)).trans e3,r⟩
end Go.Proofs.YthmbmcckldgdiaaDoor.Mrm
namespace Go.Proofs.YthmbmcckldgdiaaDoor.Mrm
open Go Go.RowKit Mdl
set_option linter.unusedVariables false
set_option linter.unnecessarySimpa false
set_option linter.unusedSimpArgs false
set_option maxRecDepth 100000
def putL (xs:Nat → Xi):Nat → List Xi
  | 0=>[]
  | k + 1=>if mayX (xs k)=true then putL xs k ++ [xs k] else putL xs k
def flat (l:List Xi):List Int:=l.flatMap bytesX
def plc (l:List Xi) (i:Nat):Int:=((flat (l.take i)).length:Int)
def plcs (l:List Xi):List Value:=(List.range l.length).map (fun i=>Value.int .i64 (plc l i))
def xsC (l:List Xi):List Value:=l.flatMap xL
def Fine (l:List Xi):Prop:=∀ x ∈ l,XOk x ∧ mayX x=true
theorem putL_len (xs:Nat → Xi):∀ k,(putL xs k).length ≤ k
  | 0=>Nat.le_refl _
  | k + 1=>by
    have:=putL_len xs k
    unfold putL
    split
    · rw [List.length_append];simp only [List.length_cons,List.length_nil];omega
    · omega
theorem putL_fine (xs:Nat → Xi):∀ k,(∀ i,i < k → XOk (xs i)) → Fine (putL xs k)
  | 0,_=>fun x hx=>by cases hx
  | k + 1,h=>by
    have ih:=putL_fine xs k (fun i hi=>h i (by omega))
    unfold putL
    split
    · rename_i hm
      intro x hx
      rcases List.mem_append.1 hx with hx | hx
      · exact ih x hx
      · obtain rfl:x=xs k:=by simpa using hx
        exact ⟨h k (by omega),hm⟩
    · exact ih
theorem flat_ok {l:List Xi} (h:Fine l):Oks (flat l):=by
  intro z hz
  obtain ⟨x,hx,hz⟩:=List.mem_flatMap.1 hz
  exact bytes_ok x (h x hx).1 (h x hx).2 z hz
theorem flat_len:∀ {l:List Xi},Fine l → (flat l).length ≤ 10 * l.length
  | [],_=>Nat.le_refl _
  | x :: l,h=>by
    have ih:=flat_len (l:=l) (fun y hy=>h y (List.mem_cons_of_mem _ hy))
    have hx:=h x List.mem_cons_self
    have h2:=bytes_few x hx.1 hx.2
    unfold flat at *
    rw [List.flatMap_cons,List.length_append,List.length_cons]
    omega
theorem flat_snoc (l:List Xi) (x:Xi):flat (l ++ [x])=flat l ++ bytesX x:=by unfold flat;rw [List.flatMap_append];simp
theorem xsC_snoc (l:List Xi) (x:Xi):xsC (l ++ [x])=xsC l ++ xL x:=by unfold xsC;rw [List.flatMap_append];simp
theorem plc_snoc (l:List Xi) (x:Xi) (i:Nat) (h:i ≤ l.length):plc (l ++ [x]) i=plc l i:=by
  unfold plc
  rw [List.take_append_of_le_length h]
theorem plcs_snoc (l:List Xi) (x:Xi):plcs (l ++ [x])=plcs l ++ [.int .i64 ((flat l).length:Int)]:=by
  unfold plcs
  rw [List.length_append,List.length_cons,List.length_nil,List.range_succ,List.map_append]
  congr 1
  · apply List.map_congr_left
    intro i hi
    rw [plc_snoc l x i (by have:=List.mem_range.1 hi;omega)]
  · simp only [List.map_cons,List.map_nil]
    rw [plc_snoc l x _ (Nat.le_refl _)]
    unfold plc
    rw [List.take_length]
theorem flat_split (l:List Xi) (n:Nat) (x:Xi) (h:l[n]?=some x):flat l=flat (l.take n) ++ (bytesX x ++ flat (l.drop (n + 1))):=by
  have hn:=(List.getElem?_eq_some_iff.1 h).1
  have hx:=(List.getElem?_eq_some_iff.1 h).2
  have e:l=l.take n ++ x :: l.drop (n + 1):=by
    conv=>lhs;rw [← List.take_append_drop n l]
    rw [List.drop_eq_getElem_cons hn,hx]
  conv=>lhs;rw [e]
  unfold flat
  rw [List.flatMap_append,List.flatMap_cons]
theorem take_snoc (l:List Xi) (n:Nat) (x:Xi) (h:l[n]?=some x):l.take (n + 1)=l.take n ++ [x]:=by
  rw [List.take_add_one,h];rfl
theorem read_at {l:List Xi} (hl:Fine l) {t:List Int} (ok:Oks (flat l ++ t)) {n:Nat} {x:Xi} (h:l[n]?=some x):readX ((flat l ++ t).drop (flat (l.take n)).length)=some x:=by
  have hx:=hl x (List.mem_of_getElem? h)
  have e:(flat l ++ t).drop (flat (l.take n)).length=bytesX x ++ (flat (l.drop (n + 1)) ++ t):=by
    rw [flat_split l n x h,List.append_assoc,List.drop_left,List.append_assoc]
  have ok2:Oks (bytesX x ++ (flat (l.drop (n + 1)) ++ t)):=by rw [← e];exact oks_drop ok _
  rw [e]
  exact readX_own hx.1 hx.2 ok2
theorem rows_gone {l:List Xi} (hl:Fine l) {t:List Int} (ok:Oks (flat l ++ t)) {pre:List (Int × Xi)} {p:Nat} (h:Gone (flat l ++ t) pre p):
    (pre.length ≤ l.length → p=(flat (l.take pre.length)).length) ∧ (l.length ≤ pre.length → (flat l).length ≤ p):=by
  induction h with
  | nil=>exact ⟨fun _=>rfl,fun h=>by
      obtain rfl:l=[]:=List.eq_nil_of_length_eq_zero (Nat.le_zero.1 h)
      exact Nat.le_refl _⟩
  | @snoc pre p x g hr ih=>
    have A:(pre ++ [((p:Int),x)]).length ≤ l.length → p + (bytesX x).length=(flat (l.take (pre ++ [((p:Int),x)]).length)).length:=by
      intro hh
      rw [List.length_append,List.length_cons,List.length_nil] at hh ⊢
      have hp:=ih.1 (by omega)
      obtain ⟨y,hy⟩:∃ y,l[pre.length]?=some y:=⟨l[pre.length]'(by omega),List.getElem?_eq_getElem (by omega)⟩
      have hq:=read_at hl ok hy
      rw [← hp,hr] at hq
      obtain rfl:x=y:=Option.some.inj hq
      rw [Nat.zero_add,take_snoc l _ _ hy,flat_snoc,List.length_append,← hp]
    refine ⟨A,fun hh=>?_⟩
    by_cases hc:l.length ≤ pre.length
    · have:=ih.2 hc;omega
    · rw [List.length_append,List.length_cons,List.length_nil] at hh A
      have hb:=A (by omega)
      rw [List.take_of_length_le (by omega)] at hb
      omega
theorem rows_next {l:List Xi} (hl:Fine l) {t:List Int} (ok:Oks (flat l ++ t)) {pre:List (Int × Xi)} {p:Nat} {x:Xi} (h:Gone (flat l ++ t) pre p) (hr:readX ((flat l ++ t).drop p)=some x):
    (∀ y,l[pre.length]?=some y → (p:Int)=plc l pre.length ∧ x=y) ∧ (l.length ≤ pre.length → (flat l).length ≤ p):=by
  refine ⟨fun y hy=>?_,(rows_gone hl ok h).2⟩
  have hp:=(rows_gone hl ok h).1 (Nat.le_of_lt (List.getElem?_eq_some_iff.1 hy).1)
  have hq:=read_at hl ok hy
  rw [← hp,hr] at hq
  exact ⟨by unfold plc;rw [← hp],Option.some.inj hq⟩
theorem rows_all {l:List Xi} (hl:Fine l) {t:List Int} (ok:Oks (flat l ++ t)) {pre:List (Int × Xi)} {p:Nat} (h:Gone (flat l ++ t) pre p) (hr:readX ((flat l ++ t).drop p)=none):l.length ≤ pre.length:=by
  by_cases hc:l.length ≤ pre.length
  · exact hc
  · exfalso
    have hp:=(rows_gone hl ok h).1 (by omega)
    obtain ⟨y,hy⟩:∃ y,l[pre.length]?=some y:=⟨l[pre.length]'(by omega),List.getElem?_eq_getElem (by omega)⟩
    have hq:=read_at hl ok hy
    rw [← hp,hr] at hq
    cases hq
end Go.Proofs.YthmbmcckldgdiaaDoor.Mrm
