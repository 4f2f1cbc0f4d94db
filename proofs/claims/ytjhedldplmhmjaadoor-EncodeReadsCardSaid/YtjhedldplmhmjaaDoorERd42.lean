import Derived.Test.YtjhedldplmhmjaaDoorERd41
import Derived.Test.YtjhedldplmhmjaaDoorERd30
import Derived.Laws.BitsAllLaws
set_option linter.unusedVariables false
set_option linter.unusedSimpArgs false
set_option linter.unnecessarySimpa false
namespace Go.Proofs.YtjhedldplmhmjaaDoor.Mrm
open Go Go.RowKit Mdl
set_option linter.unusedVariables false
set_option linter.unusedSimpArgs false
set_option linter.unnecessarySimpa false
set_option maxRecDepth 100000
attribute [local go_sem] Oper.semAt_some
def okX (zs:List Int) (x:Xi):Bool:=mayX x && decide (zs.take (bytesX x).length=bytesX x)
def readX (zs:List Int):Option Xi:=(cands zs).find? (okX zs)
def readA:Option Xi → Value
  | some x=>.tuple #[.agg (xC x),.int .i64 ((bytesX x).length:Int),.int .i64 0]
  | none=>.tuple #[.agg (xC zX),.int .i64 0,.int .i64 30]
theorem maybe_n (a:Option Addr) (len cap:Nat) (W:World):Calls Tryd.prog 8 #[.slice a len cap] W fun e w'=>e=.returned (.func (.func 23) #[] #[.pointer (some ⟨W.heap.size,0,none⟩)]) ∧ W.alloc (.cells #[.slice a len cap] 22)=w':=by
  have hmf:∀ (fn:Fn) (first cap:Array Value) (w:World),(Instr.makeFunc fn first cap).run Tryd.prog w=.ok (.func fn first cap) w:=fun _ _ _ _=>rfl
  go_enter Tryd.func8,Tryd.ntmps8
  go_wp2_with fail
  go_ret
  exact ⟨rfl,rfl⟩
structure RI (W:World) (a:Option Addr) (len cap:Nat) (zs:List Int) (pre:List Xi) (w:World):Prop where
  b:Below W.heap.size W w
  bb:w.heap[W.heap.size]?=some (.cells #[.slice a len cap] 22 (0,0))
  x0:w.heap[W.heap.size + 1]?=some (.cells (xC zX) 26 (0,0))
  n0:w.heap[W.heap.size + 1 + 1]?=some (.cells #[.int .i64 0] 3 (0,0))
  e0:w.heap[W.heap.size + 1 + 1 + 1]?=some (.cells #[.int .i64 0] 27 (0,0))
  no:∀ x ∈ pre,okX zs x=false
  sz:W.heap.size + 5 ≤ w.heap.size
theorem below_turn {m β γ:Nat} {w0 A B:World} (b:Below m w0 A) (t:TurnG (fun _=>false) β γ A B) (hg:m ≤ γ) (hn:m ≤ w0.heap.size):Below m w0 B:=
  ⟨t.os.trans b.os,t.tape.trans b.tape,t.output.trans b.output,Nat.le_trans b.size t.size,fun k hk=>by
    have e1:=b.block k hk
    have hlt:k < w0.heap.size:=Nat.lt_of_lt_of_le hk hn
    have e2:=Array.getElem?_eq_getElem hlt
    rw [e2] at e1 ⊢
    exact t.same k _ e1 (Nat.lt_of_lt_of_le hk hg) (.inr (by generalize w0.heap[k]=o;cases o <;> rfl))⟩
theorem RI.turn {W:World} {a:Option Addr} {len cap β γ:Nat} {zs:List Int} {pre:List Xi} {A C:World} (h:RI W a len cap zs pre A) (t:TurnG (fun _=>false) β γ A C) (hg:W.heap.size + 4 ≤ γ):RI W a len cap zs pre C:=
  ⟨below_turn h.b t (by omega) (Nat.le_refl _),t.row h.bb (by omega) rfl,t.row h.x0 (by omega) rfl,t.row h.n0 (by omega) rfl,t.row h.e0 (by omega) rfl,h.no,Nat.le_trans h.sz t.size⟩
theorem RI.below {W:World} {a:Option Addr} {len cap:Nat} {zs:List Int} {pre:List Xi} {A C:World} (h:RI W a len cap zs pre A) (b:Below A.heap.size A C):RI W a len cap zs pre C:=
  ⟨h.b.trans (b.mono h.b.size),row_heap h.bb b,row_heap h.x0 b,row_heap h.n0 b,row_heap h.e0 b,h.no,Nat.le_trans h.sz b.size⟩
structure RX (W:World) (x:Xi) (w:World):Prop where
  b:Below W.heap.size W w
  x0:w.heap[W.heap.size + 1]?=some (.cells (xC x) 26 (0,0))
  n0:w.heap[W.heap.size + 1 + 1]?=some (.cells #[.int .i64 ((bytesX x).length:Int)] 3 (0,0))
  e0:w.heap[W.heap.size + 1 + 1 + 1]?=some (.cells #[.int .i64 0] 27 (0,0))
theorem RX.turn {W:World} {x:Xi} {β γ:Nat} {A C:World} (h:RX W x A) (t:TurnG (fun _=>false) β γ A C) (hg:W.heap.size + 4 ≤ γ):RX W x C:=
  ⟨below_turn h.b t (by omega) (Nat.le_refl _),t.row h.x0 (by omega) rfl,t.row h.n0 (by omega) rfl,t.row h.e0 (by omega) rfl⟩
def AxR (fr:Xi → Nat → Act) (B0:Nat) (I:List Xi → World → Prop) (Yk:List Xi → Xi → World → Prop) (pre:List Xi) (x:Xi) (a':Act) (W':World):Prop:=
  ∃ xB,a'=fr x xB ∧ I pre W' ∧ Yk pre x W' ∧ W'.heap[xB]?=some (.cells (xC x) 26 (0,0)) ∧ B0 ≤ xB
theorem AxR.own {fr:Xi → Nat → Act} {B B':Nat} {I:List Xi → World → Prop} {zs:List Int} (hI:OwnFrom B I) (pre:List Xi) (x:Xi) (a':Act):OwnFrom B (fun (_:Unit) W=>AxR fr B' I (YM zs) pre x a' W):=
  fun s X Y row ⟨sb,h1,h2,h3,h4,h5⟩ hg hr=>⟨sb,h1,hI _ X Y row h2 hg hr,h3,row_ownM B sb _ _ () X Y row h4 hg hr,h5⟩
theorem find_first {p:Xi → Bool} {l pre suf:List Xi} {x:Xi} (h:l=pre ++ x :: suf) (hn:∀ y ∈ pre,p y=false) (hx:p x=true):l.find? p=some x:=by
  subst h
  rw [List.find?_append,List.find?_eq_none.2 (fun y hy=>by rw [hn y hy];decide)]
  simp [hx]
theorem ri_snoc {W w:World} {a:Option Addr} {len cap:Nat} {zs:List Int} {pre:List Xi} {x:Xi} (h:RI W a len cap zs pre w) (hx:okX zs x=false):RI W a len cap zs (pre ++ [x]) w:=
  ⟨h.b,h.bb,h.x0,h.n0,h.e0,fun y hy=>by
    rcases List.mem_append.1 hy with hy | hy
    · exact h.no y hy
    · rw [List.mem_singleton.1 hy];exact hx,h.sz⟩
theorem keeps_below {m:Nat} {A B:World} (b:Below A.heap.size A B):KeepsFrom m A B:=⟨b.size,fun q o _ hq _=>(b.block q (Array.getElem?_eq_some_iff.1 hq).1).trans hq⟩
theorem keepk_below {r:Nat} {A B:World} (b:Below A.heap.size A B):KeepK (kR r) A B:=⟨b.size,fun q o hq _=>(b.block q (Array.getElem?_eq_some_iff.1 hq).1).trans hq⟩
theorem keepk_three {r:Nat} {A B C:World} (b:Below A.heap.size A B) (ot:∀ k,k ≠ r → k ≠ r + 1 → k ≠ r + 1 + 1 → C.heap[k]?=B.heap[k]?) (sz:B.heap.size ≤ C.heap.size):KeepK (kR r) A C:=
  ⟨Nat.le_trans b.size sz,fun q o hq hk=>by
    have hne:q < r ∨ r + 3 ≤ q:=by
      cases o with
      | cells c t fr=>
        have hk:(decide (q < r) || decide (r + 3 ≤ q))=true:=hk
        simpa using hk
      | _=>cases hk
    exact (ot q (by omega) (by omega) (by omega)).trans ((b.block q (Array.getElem?_eq_some_iff.1 hq).1).trans hq)⟩
theorem keeps_three {m:Nat} {W A B C:World} {a:Option Addr} {len cap:Nat} {zs:List Int} {pre:List Xi} (b:Below A.heap.size A B) (h:RI W a len cap zs pre B) (ot:∀ k,k ≠ W.heap.size + 1 → k ≠ W.heap.size + 1 + 1 → k ≠ W.heap.size + 1 + 1 + 1 → C.heap[k]?=B.heap[k]?) (sz:B.heap.size ≤ C.heap.size):KeepsFrom m A C:=
  ⟨Nat.le_trans b.size sz,fun q o _ hq ho=>by
    have e:=(b.block q (Array.getElem?_eq_some_iff.1 hq).1).trans hq
    refine (ot q ?_ ?_ ?_).trans e
    · rintro rfl;rw [h.x0] at e;injection e with e;subst e;cases ho
    · rintro rfl;rw [h.n0] at e;injection e with e;subst e;cases ho
    · rintro rfl;rw [h.e0] at e;injection e with e;subst e;cases ho⟩
set_option maxHeartbeats 16000000 in
theorem cread_n (a:Option Addr) (len cap:Nat) (zs:List Int) (W:World) (hz:BytesAt W a len cap zs) (hT:Tab3 W) (h3:3 ≤ W.heap.size) (hok:∀ x ∈ cands zs,XOk x):
    Calls Tryd.prog 5 #[.slice a len cap] W fun e w'=>e=.returned (readA (readX zs)) ∧ Below W.heap.size W w':=by
  have MB:=Lib.hid (fun (w:World)=>maybe_n a len cap w)
  have mo:Tryd.prog.follows .mixedOrders=true:=by kernel_rfl
  have HZ:=Lib.hid hz
  have HT:=Lib.hid hT
  have HOK:=Lib.hid hok
  have hB:0 < len → ∀ B o,a=some ⟨B,o,none⟩ → B < W.heap.size + 1:=fun h B o e=>by
    have hs:=hz.size
    obtain ⟨b',o',e',hc⟩:=hz.here h
    rw [e'] at e
    injection e with e
    injection e with e
    subst e
    obtain ⟨z,hzz⟩:∃ z,zs[0]?=some z:=⟨zs[0]'(by omega),List.getElem?_eq_getElem (by omega)⟩
    have:=lt_cell (hc 0 z hzz)
    omega
  clear hz hT hok
  refine (callsIn_wide (n:=6)).1 (callsIn_of_wp_marks Tryd.func5 rfl trivial ?_ rfl)
  simp only [Tryd.ntmps5,List.size_toArray,List.length_cons,List.length_nil,Nat.reduceAdd,Nat.reduceSub,Array.replicate_succ,Array.replicate_zero,List.push_toArray,List.append_toArray,List.nil_append,List.cons_append]
  refine (wpIn_wide (n:=6)).2 ?_
  go_wp2_with fail
  refine (MB.out _).mono ?_
  rintro e w2 ⟨rfl,rfl⟩
  go_wp2_with fail
  have bW:=below_new (below_new (below_new (below_new (below_new (Below.refl W.heap.size W) (.cells #[.slice a len cap] 22)) (.cells #[.int .i8 0,.int .i8 0,.int .i8 0,.int .i8 0,.int .i8 0,.int .i64 0,.int .i64 0,.int .i8 0] 26)) (.cells #[.int .i64 0] 3)) (.cells #[.int .i64 0] 27)) (.cells #[.slice a len cap] 22)
  obtain ⟨w3,hw3⟩:∃ w3,w3=(((((W.alloc (.cells #[.slice a len cap] 22)).alloc (.cells #[.int .i8 0,.int .i8 0,.int .i8 0,.int .i8 0,.int .i8 0,.int .i64 0,.int .i64 0,.int .i8 0] 26)).alloc (.cells #[.int .i64 0] 3)).alloc (.cells #[.int .i64 0] 27)).alloc (.cells #[.slice a len cap] 22)):=⟨_,rfl⟩
  have hp:=fun (w:World) (o:Obj) (k:Nat) (h:k < w.heap.size)=>heap_past w o k h
  have r0:w3.heap[W.heap.size]?=some (.cells #[.slice a len cap] 22 (0,0)):=by
    rw [hw3]
    exact (hp _ _ _ (by simp only [size_alloc];omega)).trans ((hp _ _ _ (by simp only [size_alloc];omega)).trans ((hp _ _ _ (by simp only [size_alloc];omega)).trans ((hp _ _ _ (by simp only [size_alloc];omega)).trans (heap_last _ _ _ rfl))))
  have r1:w3.heap[W.heap.size + 1]?=some (.cells (xC zX) 26 (0,0)):=by
    rw [hw3]
    exact (hp _ _ _ (by simp only [size_alloc];omega)).trans ((hp _ _ _ (by simp only [size_alloc];omega)).trans ((hp _ _ _ (by simp only [size_alloc];omega)).trans (heap_last _ _ _ (by simp only [size_alloc]))))
  have r2:w3.heap[W.heap.size + 1 + 1]?=some (.cells #[.int .i64 0] 3 (0,0)):=by
    rw [hw3]
    exact (hp _ _ _ (by simp only [size_alloc];omega)).trans ((hp _ _ _ (by simp only [size_alloc];omega)).trans (heap_last _ _ _ (by simp only [size_alloc])))
  have r3:w3.heap[W.heap.size + 1 + 1 + 1]?=some (.cells #[.int .i64 0] 27 (0,0)):=by
    rw [hw3]
    exact (hp _ _ _ (by simp only [size_alloc];omega)).trans (heap_last _ _ _ (by simp only [size_alloc]))
  have r4:w3.heap[W.heap.size + 1 + 1 + 1 + 1]?=some (.cells #[.slice a len cap] 22 (0,0)):=by
    rw [hw3]
    exact heap_last _ _ _ (by simp only [size_alloc])
  have hs3:w3.heap.size=W.heap.size + 1 + 1 + 1 + 1 + 1:=by rw [hw3];simp only [size_alloc]
  rw [← hw3] at bW ⊢
  clear hw3 hp
  have R3:=Lib.hid (show RI W a len cap zs [] w3 from ⟨bW,r0,r1,r2,r3,(fun x hx=>by cases hx),by omega⟩)
  have SEQ:=Lib.hid (maybe_seq (W.heap.size + 1) 5 (by omega) (by decide) (W.heap.size + 1 + 1 + 1 + 1) a len cap zs w3 (by omega) (HT.out.below bW (Nat.le_refl _)) r4 (HZ.out.below bW) hB)
  have AB:∀ γ,w3.heap.size ≤ γ → AbG (fun _=>false) 0 γ (fun pre w=>RI W a len cap zs pre w):=fun γ hγ s A C h t=>h.turn t (by omega)
  have AX:∀ γ (c:Code),w3.heap.size ≤ γ → AbG (α:=Xi) (fun _=>false) 0 γ (fun (pre:List Xi) w=>c=.ret ∧ ∃ x,readX zs=some x ∧ RX W x w):=fun γ c hγ s A C ⟨h1,x,h2,h3⟩ t=>⟨h1,x,h2,h3.turn t (by omega)⟩
  have ABH:=Lib.hid AB
  have AXH:=Lib.hid AX
  clear AB AX r0 r1 r2 r3 r4 bW
  refine (wpIn_wide (n:=6)).1 ?_
  refine range_K (κ:=kR (W.heap.size + 1)) (β:=0) (τ:=fun _=>false) (by decide) (gf:=23) (pa:=#[]) (lb:=#[.pointer (some ⟨W.heap.size + 1 + 1 + 1 + 1,0,none⟩)]) rfl (enters_of Tryd.func23 (by kernel_rfl) rfl) SEQ.out (Below.refl _ _) (fun _=>rfl)
    (fun pre w=>RI W a len cap zs pre w) (fun cc pre w=>cc=.ret ∧ ∃ x,readX zs=some x ∧ RX W x w)
    ((ABH.out _ (Nat.le_refl _)).own (Nat.le_refl _)) (fun _ _ _ _ _ h _ _=>h) (fun cc=>(AXH.out _ cc (Nat.le_refl _)).own (Nat.le_refl _)) ABH.out AXH.out (fun _ _ _ _ h _ _=>h) (fun _ _ _ _ h _ _=>h) R3.out
    (AxR ?fr w3.heap.size (fun pre w=>RI W a len cap zs pre w) (YM zs)) (AxR.own ((ABH.out _ (Nat.le_refl _)).own (Nat.le_refl _))) ?assign ?body ?done ?stop
  case assign=>
    rintro l9 pre x W9 K hi hy hK
    have HI:=Lib.hid hi
    have HYC:=Lib.hid hy
    have HK:=Lib.hid hK
    clear hi hy hK
    simp only [encM]
    refine in_region (by decide) (fun _ _ h=>h) ?_
    intro K2 hK2
    go_wp2_with fail
    have bw:=below_new (Below.refl W9.heap.size W9) (.cells (xC x) 26)
    obtain ⟨cB,hcB⟩:∃ cB,cB=W9.heap.size:=⟨_,rfl⟩
    rw [← hcB]
    refine HK.out _ _ ⟨bw.size,fun q o _ hq _=>(bw.block q (Array.getElem?_eq_some_iff.1 hq).1).trans hq⟩ ⟨bw.size,fun q o hq _=>(bw.block q (Array.getElem?_eq_some_iff.1 hq).1).trans hq⟩ ⟨cB,?_,HI.out.below bw,HYC.out,heap_last _ _ _ hcB,by have:=HI.out.sz;rw [hcB];omega⟩
    show _=?fr x cB
    rfl
  case body=>
    rintro l9 pre x a' W9 ⟨xB,rfl,hR,hy,hx,hxB⟩
    have hxm:x ∈ cands zs:=by
      obtain ⟨suf,e⟩:=hy
      rw [e];simp
    have hX:=HOK.out x hxm
    have BY:=Lib.hid (fun (w:World) (h:Tabs w)=>bytes_n x hX w h)
    have HR:=Lib.hid hR
    have HXB:=Lib.hid hx
    have cb:=row_cell hR.bb 0 _ rfl
    have TB:=Lib.hid ((HT.out.below hR.b (Nat.le_refl _)).two)
    have hs9:=hR.sz
    clear hR hx
    refine wpIn_block ?_
    refine in_region_seq (by decide) (fun _ _ h=>h) ?_
    intro K1 hK1
    go_wp2_with (with_reducible refine (halt_load 26 _ rfl ?_))
    refine ⟨?_,trivial⟩
    refine wpList_load_row rfl 26 _ rfl _ rfl _ _ _ _ HXB.out Tryd.underlying26 rfl (by kernel_rfl) ?_
    go_wp2_with fail
    refine (BY.out _ TB.out).mono ?_
    rintro e w4 ⟨v,rfl,hv,b4⟩
    have R4:=Lib.hid (HR.out.below b4)
    have X4:=Lib.hid (row_heap HXB.out b4)
    have cb4:=cell_b cb b4
    have Z4:=Lib.hid (HZ.out.below R4.out.b)
    have B4:=Lib.hid b4
    clear b4 cb
    cases hm:mayX x with
    | false=>
      have hno:okX zs x=false:=by unfold okX;rw [hm];rfl
      have hc:bytC x=2:=by unfold bytC;rw [hm];rfl
      rw [hc]
      have RN:=Lib.hid (ri_snoc R4.out hno)
      clear hno hc hv
      go_wp2_with fail
      refine in_region_seq (by decide) (fun _ _ h=>h) ?_
      intro K2 hK2
      go_wp2_with fail
      refine wpIn_cond_false rfl ?_
      refine wpIn_skip ?_
      simp only [Exit.then,Exit.inBlock]
      exact ⟨keeps_below B4.out,keepk_below B4.out,RN.out⟩
    | true=>
      have hc:bytC x=0:=by unfold bytC;rw [hm];rfl
      have hl:bytL x=bytesX x:=by unfold bytL;rw [hm];rfl
      rw [hc]
      rw [hl] at hv
      obtain ⟨a2,c2,rfl,hat⟩:=hv.at (bytes_ok x hX hm)
      have PF:=Lib.hid (prefix_n a a2 len cap (bytesX x).length c2 zs (bytesX x) w4 Z4.out hat)
      have hle2:=hat.le
      clear hc hl hv hat
      go_wp2_with fail
      refine in_region_seq (by decide) (fun _ _ h=>h) ?_
      intro K2 hK2
      go_wp2_with fail
      refine PF.out.mono ?_
      rintro e w5 ⟨rfl,rfl⟩
      cases hpf:decide (zs.take (bytesX x).length=bytesX x) with
      | false=>
        have RN:=Lib.hid (ri_snoc R4.out (show okX zs x=false from by unfold okX;rw [hm,hpf];rfl))
        go_wp2_with fail
        refine wpIn_cond_false rfl ?_
        refine wpIn_skip ?_
        simp only [Exit.then,Exit.inBlock]
        exact ⟨keeps_below B4.out,keepk_below B4.out,RN.out⟩
      | true=>
        have hrd:readX zs=some x:=by
          obtain ⟨suf,e⟩:=hy
          exact find_first e R4.out.no (by unfold okX;rw [hm,hpf];rfl)
        go_wp2_with fail
        refine wpIn_cond_true rfl ?_
        refine in_region_seq (by decide) (fun _ _ h=>h) ?_
        intro K3 hK3
        go_wp2_with (with_reducible refine (halt_load 26 _ rfl ?_))
        refine ⟨?_,trivial⟩
        refine wpList_load_row rfl 26 _ rfl _ rfl _ _ _ _ X4.out Tryd.underlying26 rfl (by kernel_rfl) ?_
        go_wp2_with (with_reducible refine (halt_store 26 _ _ rfl ?_))
        refine ⟨?_,trivial⟩
        refine wpList_store_is rfl 26 _ _ rfl (W.heap.size + 1) _ rfl rfl _ _ R4.out.x0 (by kernel_rfl) rfl (by kernel_rfl) ?_
        intro w6 s6
        go_wp2_with (with_reducible refine (halt_store 3 _ _ rfl ?_))
        refine ⟨?_,trivial⟩
        refine wpList_store_cell rfl 3 _ _ rfl (W.heap.size + 1 + 1) 0 (.int .i64 ((bytesX x).length:Int)) rfl rfl rfl rfl _ _ ((s6.other _ (by omega)).trans R4.out.n0) (by kernel_rfl) (Nat.le_of_ble_eq_true rfl) ?_
        intro w7 s7
        go_wp2_with (with_reducible refine (halt_store 27 _ _ rfl ?_))
        refine ⟨?_,trivial⟩
        refine wpList_store_cell rfl 27 _ _ rfl (W.heap.size + 1 + 1 + 1) 0 (.int .i64 0) rfl rfl rfl rfl _ _ ((s7.other _ (by omega)).trans ((s6.other _ (by omega)).trans R4.out.e0)) (by kernel_rfl) (Nat.le_of_ble_eq_true rfl) ?_
        intro w8 s8
        have b8:=s8.below (s7.below (s6.below R4.out.b (by omega)) (by omega)) (by omega)
        have RXF:=Lib.hid (show RX W x w8 from ⟨b8,(s8.other _ (by omega)).trans ((s7.other _ (by omega)).trans s6.row),(s8.other _ (by omega)).trans s7.row,s8.row⟩)
        have OT:=Lib.hid (fun (k:Nat) (h1:k ≠ W.heap.size + 1) (h2:k ≠ W.heap.size + 1 + 1) (h3:k ≠ W.heap.size + 1 + 1 + 1)=>((s8.other k h3).trans ((s7.other k h2).trans (s6.other k h1)):w8.heap[k]?=w4.heap[k]?))
        have SZ:=Lib.hid (show w4.heap.size ≤ w8.heap.size from by rw [s8.size,s7.size,s6.size];exact Nat.le_refl _)
        clear s6 s7 s8 b8
        go_wp2_with fail
        refine wpIn_ret ?_
        exact ⟨keeps_three B4.out R4.out OT.out SZ.out,keepk_three B4.out OT.out SZ.out,rfl,x,hrd,RXF.out⟩
  case stop=>
    rintro D9 cc pre W9 hD _ ⟨rfl,x,hq,hx⟩ hK
    have XF:=Lib.hid (hx.turn (β:=0) (γ:=W.heap.size + 4) (C:=W9.putObj D9 (.deferred none)) ⟨rfl,rfl,rfl,by simp [World.putObj],fun q o hq hg _=>(World.putObj_heap_other (by omega)).trans hq⟩ (Nat.le_refl _))
    clear hx
    refine (wpIn_wide (n:=6)).2 ?_
    go_wp2_with fail
    refine ⟨by simp,.inl ⟨_,_,rfl,run_takeDeferred hK,readA (readX zs),?_,rfl,XF.out.b⟩⟩
    rw [hq]
    have x0:=row_cell XF.out.x0 0 _ rfl
    have x1:=row_cell XF.out.x0 1 _ rfl
    have x2:=row_cell XF.out.x0 2 _ rfl
    have x3:=row_cell XF.out.x0 3 _ rfl
    have x4:=row_cell XF.out.x0 4 _ rfl
    have x5:=row_cell XF.out.x0 5 _ rfl
    have x6:=row_cell XF.out.x0 6 _ rfl
    have x7:=row_cell XF.out.x0 7 _ rfl
    have q1:=row_cell XF.out.n0 0 _ rfl
    have q2:=row_cell XF.out.e0 0 _ rfl
    simp [results,Tryd.results5,go_sem,x0,x1,x2,x3,x4,x5,x6,x7,q1,q2,readA]
  case done=>
    rintro D9 xs W9 hD rfl hM hK
    have hno:readX zs=none:=List.find?_eq_none.2 (fun x hx=>by rw [hM.no x hx];decide)
    have hs9:=hM.sz
    have HM:=Lib.hid hM
    have HN:=Lib.hid hno
    clear hM hno
    go_wp2_with (with_reducible refine (halt_store 26 _ _ rfl ?_))
    refine ⟨?_,trivial⟩
    refine wpList_store_is rfl 26 _ _ rfl (W.heap.size + 1) _ rfl rfl _ _ HM.out.x0 (by kernel_rfl) rfl (by kernel_rfl) ?_
    intro w6 s6
    go_wp2_with (with_reducible refine (halt_store 3 _ _ rfl ?_))
    refine ⟨?_,trivial⟩
    refine wpList_store_cell rfl 3 _ _ rfl (W.heap.size + 1 + 1) 0 (.int .i64 0) rfl rfl rfl rfl _ _ ((s6.other _ (by omega)).trans HM.out.n0) (by kernel_rfl) (Nat.le_of_ble_eq_true rfl) ?_
    intro w7 s7
    go_wp2_with (with_reducible refine (halt_store 27 _ _ rfl ?_))
    refine ⟨?_,trivial⟩
    refine wpList_store_cell rfl 27 _ _ rfl (W.heap.size + 1 + 1 + 1) 0 (.int .i64 30) rfl rfl rfl rfl _ _ ((s7.other _ (by omega)).trans ((s6.other _ (by omega)).trans HM.out.e0)) (by kernel_rfl) (Nat.le_of_ble_eq_true rfl) ?_
    intro w8 s8
    have b8:=s8.below (s7.below (s6.below HM.out.b (by omega)) (by omega)) (by omega)
    have hK8:w8.heap[D9]?=some (.deferred (some [])):=(s8.other _ (by omega)).trans ((s7.other _ (by omega)).trans ((s6.other _ (by omega)).trans hK))
    have po:∀ k,k ≠ D9 → (w8.putObj D9 (.deferred none)).heap[k]?=w8.heap[k]?:=fun k h=>World.putObj_heap_other h
    have XR:=(po (W.heap.size + 1) (by omega)).trans ((s8.other _ (by omega)).trans ((s7.other _ (by omega)).trans s6.row))
    have NR:=(po (W.heap.size + 1 + 1) (by omega)).trans ((s8.other _ (by omega)).trans s7.row)
    have ER:=(po (W.heap.size + 1 + 1 + 1) (by omega)).trans s8.row
    have b9:Below W.heap.size W (w8.putObj D9 (.deferred none)):=⟨b8.os,b8.tape,b8.output,by have:=b8.size;simp [World.putObj];exact this,fun k hk=>(po k (by omega)).trans (b8.block k hk)⟩
    have x0:=row_cell XR 0 _ rfl
    have x1:=row_cell XR 1 _ rfl
    have x2:=row_cell XR 2 _ rfl
    have x3:=row_cell XR 3 _ rfl
    have x4:=row_cell XR 4 _ rfl
    have x5:=row_cell XR 5 _ rfl
    have x6:=row_cell XR 6 _ rfl
    have x7:=row_cell XR 7 _ rfl
    have q1:=row_cell NR 0 _ rfl
    have q2:=row_cell ER 0 _ rfl
    have FIN:=Lib.hid (And.intro b9 (And.intro (And.intro x0 (And.intro x1 (And.intro x2 (And.intro x3 (And.intro x4 (And.intro x5 (And.intro x6 x7))))))) (And.intro q1 q2)))
    have HK8:=Lib.hid hK8
    clear s6 s7 s8 b8 b9 po XR NR ER x0 x1 x2 x3 x4 x5 x6 x7 q1 q2 hK8
    go_wp2_with fail
    refine ⟨by simp,.inl ⟨_,_,rfl,run_takeDeferred HK8.out,readA (readX zs),?_,rfl,FIN.out.1⟩⟩
    rw [HN.out]
    obtain ⟨_,⟨x0,x1,x2,x3,x4,x5,x6,x7⟩,q1,q2⟩:=FIN.out
    simp [results,Tryd.results5,go_sem,x0,x1,x2,x3,x4,x5,x6,x7,q1,q2,readA,zX]
end Go.Proofs.YtjhedldplmhmjaaDoor.Mrm
namespace Go.Proofs.YtjhedldplmhmjaaDoor.Mrm
open Go Go.RowKit Mdl
set_option linter.unusedVariables false
set_option linter.unusedSimpArgs false
set_option linter.unnecessarySimpa false
set_option maxRecDepth 100000
theorem sgV_bd (n:Nat) (u:Int) (hn:n ≤ 8) (h0:0 ≤ u) (h1:u < 2 ^ (8 * n)):-9223372036854775808 ≤ sgV n u ∧ sgV n u ≤ 9223372036854775807:=by
  unfold sgV
  rcases (show n=0 ∨ n=1 ∨ n=2 ∨ n=3 ∨ n=4 ∨ n=5 ∨ n=6 ∨ n=7 ∨ n=8 by omega) with rfl | rfl | rfl | rfl | rfl | rfl | rfl | rfl | rfl
  all_goals simp only [Nat.reduceMul,Nat.reduceSub,Int.reducePow,Nat.reducePow] at h1 ⊢
  all_goals (repeat' split) <;> omega
theorem sgn_bd {l:List Int} (h:Oks l):-9223372036854775808 ≤ sgn l ∧ sgn l ≤ 9223372036854775807:=by
  have hb:∀ i,i < cntN l → 0 ≤ l.getD i 0 ∧ l.getD i 0 < 256:=fun i hi=>by
    have hlt:i < l.length:=Nat.lt_of_lt_of_le hi (Nat.min_le_left _ _)
    rw [List.getD_eq_getElem?_getD,List.getElem?_eq_getElem hlt]
    exact h _ (List.getElem_mem hlt)
  have q:=getI_bd (fun i=>l.getD i 0) (cntN l) hb
  exact sgV_bd _ _ (Nat.min_le_right _ _) q.1 q.2
theorem or8_fin:∀ a:Fin 8,bits .or .i8 (a.1:Int) 0=a.1 ∧ bits .or .i8 (a.1:Int) 8=a.1 + 8:=by decide +kernel
theorem or8 {a b:Int} (h0:0 ≤ a) (h1:a < 8) (hb:b=0 ∨ b=8):bits .or .i8 a b=a + b:=by
  have q:=or8_fin ⟨a.toNat,by omega⟩
  simp only [Int.toNat_of_nonneg h0] at q
  rcases hb with rfl | rfl
  · rw [q.1,Int.add_zero]
  · exact q.2
theorem hi_08 (c k:Int):hiI c k=0 ∨ hiI c k=8:=by
  unfold hiI
  split
  · exact .inr rfl
  · exact .inl rfl
theorem rgF_bd {l:List Int}:0 ≤ rgF l ∧ rgF l < 8:=by
  unfold rgF
  (repeat' split) <;> omega
theorem rmF_bd {l:List Int}:0 ≤ rmF l ∧ rmF l < 8:=by
  unfold rmF
  (repeat' split) <;> omega
theorem dF_bd {l:List Int} (h:Oks l):-9223372036854775808 ≤ dF l ∧ dF l ≤ 9223372036854775807:=by
  unfold dF
  (repeat' split)
  · omega
  · exact sgn_bd (fun z hz=>h z (List.mem_of_mem_drop (List.mem_of_mem_take hz)))
  · omega
theorem and16 {v:Int} (h0:0 ≤ v) (h1:v < 65536):bits .and .u16 v 7=v % 8 ∧ bits .and .u16 v 15=v % 16:=by
  rw [u16_and v 7 h0 h1 (by decide) (by decide),u16_and v 15 h0 h1 (by decide) (by decide)]
  have e1:v.toNat &&& (7:Int).toNat=v.toNat % 8:=Nat.and_two_pow_sub_one_eq_mod v.toNat 3
  have e2:v.toNat &&& (15:Int).toNat=v.toNat % 16:=Nat.and_two_pow_sub_one_eq_mod v.toNat 4
  rw [e1,e2]
  omega
theorem i8s {v:Int} (h0:0 ≤ v) (h1:v < 128):IntKind.i8.wrap v=v:=by rw [wrap8];omega
structure FdOk (f:Fd):Prop where
  rh:f.rh=0 ∨ f.rh=8
  mh:f.mh=0 ∨ f.mh=8
  va:0 ≤ f.va ∧ f.va < 65536
  bh:Oks f.bh
theorem findP_ok {zs:List Int} {f:Fd} (h:Oks zs) (hf:findP zs=some f):FdOk f:=by
  have hv:=findP_va zs f h hf
  have h1:=stripH_ok h
  unfold findP at hf
  generalize (stripH zs).2=l at *
  unfold findR at hf
  have h2:Oks (stripQ l).2.2.2 ∧ ((stripQ l).2.1=0 ∨ (stripQ l).2.1=8) ∧ ((stripQ l).2.2.1=0 ∨ (stripQ l).2.2.1=8):=by
    unfold stripQ
    split
    · exact ⟨fun z hz=>h1 z (List.mem_of_mem_tail hz),hi_08 _ _,hi_08 _ _⟩
    · exact ⟨h1,.inl rfl,.inl rfl⟩
  generalize stripQ l=r at *
  have h3:Oks (stripC r.2.2.2).2:=by
    unfold stripC
    split
    · exact fun z hz=>h2.1 z (List.mem_of_mem_tail hz)
    · exact h2.1
  generalize stripC r.2.2.2=g at *
  obtain ⟨v,l2⟩:=g
  cases l2 with
  | nil=>cases hf
  | cons n l2=>
    injection hf with hf
    subst hf
    exact ⟨h2.2.1,h2.2.2,hv,fun z hz=>h3 z (List.mem_cons_of_mem _ hz)⟩
structure PtOk (p:Pt):Prop where
  reg:0 ≤ p.reg ∧ p.reg < 16
  rm:0 ≤ p.rm ∧ p.rm < 16
  disp:-9223372036854775808 ≤ p.disp ∧ p.disp ≤ 9223372036854775807
  imm:-9223372036854775808 ≤ p.imm ∧ p.imm ≤ 9223372036854775807
  cc:0 ≤ p.cc ∧ p.cc < 16
theorem partsF_ok {f:Fd} (h:FdOk f) (c:Cd):PtOk (partsF f c):=by
  have hv:=and16 h.va.1 h.va.2
  refine ⟨?_,?_,?_,?_,?_⟩
  · show 0 ≤ bits .or .i8 (bif inOpB c.sh then rgF f.bh else 0) f.rh ∧ _ < _
    have q:0 ≤ (bif inOpB c.sh then rgF f.bh else 0) ∧ (bif inOpB c.sh then rgF f.bh else 0) < 8:=by
      cases inOpB c.sh
      · (constructor <;> (simp only [cond_false];decide))
      · exact rgF_bd
    show 0 ≤ bits .or .i8 (bif inOpB c.sh then rgF f.bh else 0) f.rh ∧ bits .or .i8 (bif inOpB c.sh then rgF f.bh else 0) f.rh < 16
    rw [or8 q.1 q.2 h.rh]
    have:=h.rh
    omega
  · have q:0 ≤ (bif inOpB c.sh then rmF f.bh else bif c.sh == 6 then IntKind.i8.wrap (bits .and .u16 f.va 7) else 0) ∧ (bif inOpB c.sh then rmF f.bh else bif c.sh == 6 then IntKind.i8.wrap (bits .and .u16 f.va 7) else 0) < 8:=by
      cases inOpB c.sh
      · cases c.sh == 6
        · (constructor <;> (simp only [cond_false];decide))
        · simp only [cond_true,cond_false]
          rw [hv.1,i8s (by omega) (by omega)]
          omega
      · exact rmF_bd
    show 0 ≤ bits .or .i8 _ f.mh ∧ bits .or .i8 _ f.mh < 16
    rw [or8 q.1 q.2 h.mh]
    have:=h.mh
    omega
  · show -9223372036854775808 ≤ (bif inOpB c.sh then dF f.bh else 0) ∧ (bif inOpB c.sh then dF f.bh else 0) ≤ 9223372036854775807
    cases inOpB c.sh
    · (constructor <;> (simp only [cond_false];decide))
    · exact dF_bd h.bh
  · exact sgn_bd (fun z hz=>h.bh z (List.mem_of_mem_drop (List.mem_of_mem_take hz)))
  · show 0 ≤ (bif c.lo == 15 then IntKind.i8.wrap (bits .and .u16 f.va 15) else 0) ∧ (bif c.lo == 15 then IntKind.i8.wrap (bits .and .u16 f.va 15) else 0) < 16
    cases c.lo == 15
    · (constructor <;> (simp only [cond_false];decide))
    · simp only [cond_true]
      rw [hv.2,i8s (by omega) (by omega)]
      omega
theorem allOps_rng:∀ k:Fin 38,0 ≤ (allOps.getD k.1 (0,zCd)).1 ∧ (allOps.getD k.1 (0,zCd)).1 < 32:=by decide +kernel
theorem allOps_bd {y:Int × Cd} (h:y ∈ allOps):0 ≤ y.1 ∧ y.1 < 32:=by
  obtain ⟨k,hk,rfl⟩:=List.getElem_of_mem h
  have:=allOps_rng ⟨k,by rw [← allOps_len];exact hk⟩
  rw [List.getD_eq_getElem?_getD,List.getElem?_eq_getElem hk] at this
  exact this
theorem fillCc_bd {p:Pt} (h:PtOk p) (c:Cd):0 ≤ fillCc c p ∧ fillCc c p < 16:=by
  unfold fillCc
  cases c.lo == 15
  · (constructor <;> (simp only [cond_false];decide))
  · exact h.cc
theorem filledP_ok {op w:Int} (ho:0 ≤ op ∧ op < 32) (hw:0 ≤ w ∧ w ≤ 64) (c:Cd) {p:Pt} (h:PtOk p):XOk (filledP op w c p):=by
  have h1:=h.reg;have h2:=h.rm;have h3:=h.disp;have h4:=h.imm;have h5:=fillCc_bd h c
  unfold filledP
  simp only [cond_eq_ite]
  repeat' split
  all_goals refine ⟨?_,?_,?_,?_,?_,?_,?_,?_⟩ <;> (simp only;omega)
theorem cands_ok {zs:List Int} (hz:Oks zs):∀ x ∈ cands zs,XOk x:=by
  intro x hx
  unfold cands at hx
  cases hf:findP zs with
  | none=>rw [hf] at hx;cases hx
  | some f=>
    rw [hf] at hx
    obtain ⟨y,hy,hx⟩:=List.mem_flatMap.1 hx
    unfold candC at hx
    split at hx
    · obtain ⟨w,hw,hx⟩:=List.mem_flatMap.1 hx
      unfold candW at hx
      split at hx
      · rw [List.mem_singleton.1 hx]
        refine filledP_ok (allOps_bd hy) ?_ _ (partsF_ok (findP_ok hz hf) _)
        simp only [widthsL,List.mem_cons,List.not_mem_nil,or_false] at hw
        omega
      · cases hx
    · cases hx
end Go.Proofs.YtjhedldplmhmjaaDoor.Mrm
