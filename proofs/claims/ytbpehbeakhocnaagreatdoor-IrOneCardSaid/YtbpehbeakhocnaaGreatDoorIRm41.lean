import Derived.Test.YtbpehbeakhocnaaGreatDoorIRm40
import Derived.LoopN
import Derived.StillTailTactics
import Derived.Maps.AppendAt
set_option maxHeartbeats 8000000
set_option linter.unusedVariables false
set_option linter.unusedSimpArgs false
set_option linter.unnecessarySimpa false
namespace Go.Proofs.YtbpehbeakhocnaaGreatDoor.Irn
open Go Go.RowKit
open Mrm (Xi xC xL zX eqX mayX readsX writesX XOk heap_below)
open Flg (Fl fC zF mayC holF)
open Exe
set_option maxRecDepth 100000
structure Sv (a b:Nat) (w w':World):Prop where
  os:w'.os=w.os
  tape:w'.tape=w.tape
  output:w'.output=w.output
  size:w.heap.size ≤ w'.heap.size
  block:∀ k,k < w.heap.size → k ≠ a → k ≠ b → w'.heap[k]?=w.heap[k]?
theorem Sv.of_below {a b:Nat} {w w':World} (h:Below w.heap.size w w'):Sv a b w w':=⟨h.os,h.tape,h.output,h.size,fun k hk _ _=>h.block k hk⟩
theorem Sv.of_but {a b:Nat} {w w':World} (h:But a w w'):Sv a b w w':=⟨h.os,h.tape,h.output,h.size,fun k hk h1 _=>h.block k hk h1⟩
theorem Sv.of_but2 {a b:Nat} {w w':World} (h:But b w w'):Sv a b w w':=⟨h.os,h.tape,h.output,h.size,fun k hk _ h2=>h.block k hk h2⟩
theorem Sv.stored {a b:Nat} {w w' w2:World} {c:Array Value} {T:TypeId} (h:Sv a b w w') (s:Stored w' a c T w2):Sv a b w w2:=
  ⟨s.os.trans h.os,s.tape.trans h.tape,s.output.trans h.output,by rw [s.size];exact h.size,fun k hk h1 h2=>(s.other k h1).trans (h.block k hk h1 h2)⟩
theorem Sv.stored2 {a b:Nat} {w w' w2:World} {c:Array Value} {T:TypeId} (h:Sv a b w w') (s:Stored w' b c T w2):Sv a b w w2:=
  ⟨s.os.trans h.os,s.tape.trans h.tape,s.output.trans h.output,by rw [s.size];exact h.size,fun k hk h1 h2=>(s.other k h2).trans (h.block k hk h1 h2)⟩
theorem row_in {w:World} {g o:Nat} {C:Array Value} {T:TypeId} (cs:List Value) (h:w.heap[g]?=some (.cells C T (0,0))) (hcs:(C.toList.drop o).take cs.length=cs):w.rangeAt g o cs:=Mrm.range_row h hcs
theorem row_stay {w w':World} {g k:Nat} {A C:Array Value} {T U:TypeId} (h:w.heap[k]?=some (.cells A T (0,0))) (s:Stored w g C U w') (hk:k ≠ g):w'.heap[k]?=some (.cells A T (0,0)):=(s.other k hk).trans h
theorem x_c (i:Ii) (gm ge:Nat) (m:Mc) (e0:Int) (W:World) (hT:Mrm.Tabs W) (hX:XOk i.x) (hM:MOk m) (hm:W.heap[gm]?=some (.cells (mcC m) 30 (0,0))) (he:W.heap[ge]?=some (.cells #[.int .i64 e0] 31 (0,0))) (ne:gm ≠ ge):
    Calls Tryz.prog 40 #[.agg (iC i),.pointer (some ⟨gm,0,none⟩),.pointer (some ⟨ge,0,none⟩)] W fun e w'=>e=.returned (.tuple #[]) ∧ Sv gm ge W w' ∧ w'.heap[gm]?=some (.cells (mcC (doX m i.x 0)) 30 (0,0)) ∧ w'.heap[ge]?=some (.cells #[.int .i64 (doXe m i.x 0)] 31 (0,0)):=by
  have b0:=below_new (Below.refl W.heap.size W) (.cells (iC i) 40)
  have B0:=Lib.hid b0
  have HM:=Lib.hid (row_heap hm b0)
  have HE:=Lib.hid (row_heap he b0)
  have HX:=Lib.hid (row_in (w:=W.alloc (.cells (iC i) 40)) (g:=W.heap.size) (o:=1) (T:=40) (C:=iC i) (xL i.x) (heap_last _ _ _ rfl) rfl)
  have DO:=Lib.hid (do_n m i.x 0 _ (hT.below b0 (Nat.le_refl _)) hX hM ⟨by omega,by omega⟩)
  have NE:=Lib.hid ne
  clear hT hX hM hm he b0 ne
  go_enter Tryz.func40,Tryz.ntmps40
  go_wp2_with (with_reducible refine (halt_load 30 _ rfl ?_))
  refine ⟨?_,trivial⟩
  refine wpList_load_row rfl 30 _ rfl _ rfl _ _ _ _ HM.out Tryz.underlying30 rfl (by kernel_rfl) ?_
  go_wp2_with (with_reducible refine (halt_load 38 _ rfl ?_))
  refine ⟨?_,trivial⟩
  refine wpList_load_mid rfl 38 _ rfl W.heap.size 1 rfl _ _ HX.out Tryz.underlying38 rfl (by kernel_rfl) ?_
  go_wp2_with fail
  refine DO.out.mono ?_
  rintro e w2 ⟨rfl,b2⟩
  have HM2:=Lib.hid (row_heap HM.out b2)
  have HE2:=Lib.hid (row_heap HE.out b2)
  have B2:=Lib.hid (Sv.of_below (a:=gm) (b:=ge) (below_call B0.out b2))
  clear b2
  go_wp2_with (with_reducible refine (halt_store 30 _ _ rfl ?_))
  refine ⟨?_,trivial⟩
  refine wpList_store_is rfl 30 _ _ rfl _ _ rfl rfl _ _ HM2.out (by kernel_rfl) rfl (by kernel_rfl) ?_
  intro w3 S3
  have R3:=Lib.hid S3.row
  have HE3:=Lib.hid (row_stay HE2.out S3 NE.out.symm)
  have B3:=Lib.hid (B2.out.stored S3)
  clear S3
  go_wp2_with (with_reducible refine (halt_store 31 _ _ rfl ?_))
  refine ⟨?_,trivial⟩
  refine wpList_store_cell rfl 31 _ _ rfl ge 0 _ rfl rfl rfl rfl _ _ HE3.out (by kernel_rfl) (by show 0 < 1;omega) ?_
  intro w4 S4
  have R4:=Lib.hid (row_stay R3.out S4 NE.out)
  have E4:=Lib.hid S4.row
  have B4:=Lib.hid (B3.out.stored2 S4)
  clear S4
  go_wp2_with fail
  go_end0
  exact ⟨rfl,B4.out,R4.out,E4.out⟩
abbrev fnC (s:Nat):Array Value:=#[.func (.func 40) #[] #[.pointer (some ⟨s + 2,0,none⟩),.pointer (some ⟨s + 3,0,none⟩)],.func (.func 41) #[] #[.pointer (some ⟨s,0,none⟩),.pointer (some ⟨s + 2,0,none⟩)],.func (.func 42) #[] #[.pointer (some ⟨s + 2,0,none⟩),.pointer (some ⟨s,0,none⟩)]]
structure RX (W:World) (d:Nat) (g:Nat → Int) (m:Mc) (e:Int) (w:World):Prop where
  fb:Below W.heap.size W w
  fr:w.heap[W.heap.size]?=some (.cells (rgC g) 24 (0,0))
  fm:w.heap[W.heap.size + 2]?=some (.cells (mcC m) 30 (0,0))
  fe:w.heap[W.heap.size + 3]?=some (.cells #[.int .i64 e] 31 (0,0))
  fz:w.heap[W.heap.size + 1]?=some (.cells (rgC zG) 24 (0,0))
  fd:w.heap[d]?=some (.cells (fnC W.heap.size) 69 (0,0))
  hd:W.heap.size + 4 ≤ d
  lt:d < w.heap.size
theorem RX.keep {W w w':World} {d:Nat} {g:Nat → Int} {m:Mc} {e:Int} (h:RX W d g m e w) (b:Below w.heap.size w w'):RX W d g m e w':=
  ⟨below_call h.fb b,row_heap h.fr b,row_heap h.fm b,row_heap h.fe b,row_heap h.fz b,row_heap h.fd b,h.hd,Nat.lt_of_lt_of_le h.lt b.size⟩
theorem RX.turn {W w w':World} {d:Nat} {g:Nat → Int} {m m':Mc} {e e':Int} (h:RX W d g m e w) (s:Sv (W.heap.size + 2) (W.heap.size + 3) w w') (hm:w'.heap[W.heap.size + 2]?=some (.cells (mcC m') 30 (0,0))) (he:w'.heap[W.heap.size + 3]?=some (.cells #[.int .i64 e'] 31 (0,0))):RX W d g m' e' w':=by
  have lt:=h.lt
  have hd:=h.hd
  exact ⟨h.fb.trans ⟨s.os,s.tape,s.output,s.size,fun k hk=>s.block k (by omega) (by omega) (by omega)⟩,(s.block _ (by omega) (by omega) (by omega)).trans h.fr,hm,he,(s.block _ (by omega) (by omega) (by omega)).trans h.fz,(s.block _ (by omega) (by omega) (by omega)).trans h.fd,hd,Nat.lt_of_lt_of_le lt s.size⟩
theorem RX.give {W w w':World} {d:Nat} {g g':Nat → Int} {m:Mc} {e:Int} (h:RX W d g m e w) (s:But W.heap.size w w') (hr:w'.heap[W.heap.size]?=some (.cells (rgC g') 24 (0,0))):RX W d g' m e w':=by
  have lt:=h.lt
  have hd:=h.hd
  exact ⟨h.fb.trans ⟨s.os,s.tape,s.output,s.size,fun k hk=>s.block k (by omega) (by omega)⟩,hr,(s.block _ (by omega) (by omega)).trans h.fm,(s.block _ (by omega) (by omega)).trans h.fe,(s.block _ (by omega) (by omega)).trans h.fz,(s.block _ (by omega) (by omega)).trans h.fd,hd,Nat.lt_of_lt_of_le lt s.size⟩
def putC:Array Value → Nat → List Value → Array Value
  | cs,_,[]=>cs
  | cs,o,v :: vs=>putC (cs.setIfInBounds o v) (o + 1) vs
theorem putC_size:∀ (vs:List Value) (cs:Array Value) (o:Nat),(putC cs o vs).size=cs.size
  | [],_,_=>rfl
  | v :: vs,cs,o=>(putC_size vs _ _).trans (by simp)
theorem stored_put {g:Nat} {t:TypeId}:∀ (vs:List Value) (o:Nat) (cs:Array Value) (w:World),w.heap[g]?=some (.cells cs t (0,0)) → Stored w g (putC cs o vs) t (w.setCells g o vs)
  | [],_,_,w,h=>stored_self h
  | v :: vs,o,cs,w,h=>by
    have s:=stored_setCell h o v
    have s2:=stored_put vs (o + 1) _ _ s.row
    exact ⟨s2.os.trans s.os,s2.tape.trans s.tape,s2.output.trans s.output,s2.size.trans s.size,s2.row,fun k hk=>(s2.other k hk).trans (s.other k hk)⟩
theorem wpList_store_part {ops:Array Oper} {rest:List Oper} {o:Oper} {a:Act} {w:World} {Q:Exit → Act → World → Prop} (hgd:o.guard=none) (ty:TypeId) (x y:Operand) (ho:o.op=.store ty x y)
    (g i:Nat) (cells:Array Value) (hx:a.eval x=.pointer (some ⟨g,i,none⟩)) (hy:a.eval y=.agg cells)
    (t:TypeId) (old:Array Value) (hg:w.heap[g]?=some (.cells old t (0,0))) (hi:(Tryz.prog.info? ty).map (·.size)=some cells.size)
    (hlt:i + cells.size ≤ old.size) (h1:cells.all (·.oneCell')=true)
    (h:∀ w',Stored w g (putC old i cells.toList) t w' → wpList Tryz.prog ops Q rest (a.put o.dst undef) w'):wpList Tryz.prog ops Q (o :: rest) a w:=by
  refine wpList_plain hgd fun _ hK=>?_
  unfold Oper.wp execOp
  have ht:w.there g i cells.size:=fun j hj=>⟨by simp [World.cell?,hg];omega,by simp [World.frozen?,hg]⟩
  simp only [ho,hx,hy,Instr.storeAt,Instr.sureAddr,Sem.run_bind,Sem.run_pure,Result.andThen_ok,run_storeVar_mid w g i ty cells ht hi h1]
  exact hK _ _ (h _ (stored_put _ _ _ _ hg))
theorem al4 {W w1:World} {A B C D:Array Value} {T U V X:TypeId} (b:Below ((((W.alloc (.cells A T)).alloc (.cells B U)).alloc (.cells C V)).alloc (.cells D X)).heap.size ((((W.alloc (.cells A T)).alloc (.cells B U)).alloc (.cells C V)).alloc (.cells D X)) w1):
    Below W.heap.size W w1 ∧ W.heap.size + 4 ≤ w1.heap.size ∧ w1.heap[W.heap.size]?=some (.cells A T (0,0)) ∧ w1.heap[W.heap.size + 1]?=some (.cells B U (0,0)) ∧ w1.heap[W.heap.size + 2]?=some (.cells C V (0,0)) ∧ w1.heap[W.heap.size + 3]?=some (.cells D X (0,0)):=by
  have p:∀ (w:World) (o:Obj) (k:Nat),k < w.heap.size → (w.alloc o).heap[k]?=w.heap[k]?:=heap_past
  have sz:=b.size
  simp only [size_alloc] at sz
  refine ⟨below_call (below_new (below_new (below_new (below_new (Below.refl _ _) _) _) _) _) b,by omega,?_,?_,?_,?_⟩
  · refine (b.block _ (by simp only [size_alloc];omega)).trans ?_
    rw [p _ _ _ (by simp only [size_alloc];omega),p _ _ _ (by simp only [size_alloc];omega),p _ _ _ (by simp only [size_alloc];omega)]
    exact heap_last _ _ _ rfl
  · refine (b.block _ (by simp only [size_alloc];omega)).trans ?_
    rw [p _ _ _ (by simp only [size_alloc];omega),p _ _ _ (by simp only [size_alloc];omega)]
    exact heap_last _ _ _ (by simp only [size_alloc])
  · refine (b.block _ (by simp only [size_alloc];omega)).trans ?_
    rw [p _ _ _ (by simp only [size_alloc];omega)]
    exact heap_last _ _ _ (by simp only [size_alloc])
  · refine (b.block _ (by simp only [size_alloc];omega)).trans ?_
    exact heap_last _ _ _ (by simp only [size_alloc])
theorem res_ccc {P:Program} {fn:Func} {w:World} {tmps:Array Value} {d e f:Tmp} {t u y:TypeId} {p q r:Addr} {v x z:Value} (h:fn.results=#[.cell d t,.cell e u,.cell f y]) (hs:tmps.getD d undef=.pointer (some p)) (hl:(loadVar t p).run P w=.ok v w) (hs2:tmps.getD e undef=.pointer (some q)) (hl2:(loadVar u q).run P w=.ok x w) (hs3:tmps.getD f undef=.pointer (some r)) (hl3:(loadVar y r).run P w=.ok z w):(results fn tmps).run P w=.ok (.tuple #[v,x,z]) w:=by
  have hs':tmps[d]?.getD undef=.pointer (some p):=by rw [← hs,Array.getD_eq_getD_getElem?]
  have hs2':tmps[e]?.getD undef=.pointer (some q):=by rw [← hs2,Array.getD_eq_getD_getElem?]
  have hs3':tmps[f]?.getD undef=.pointer (some r):=by rw [← hs3,Array.getD_eq_getD_getElem?]
  simp [results,h,hs',hs2',hs3',asAddr,hl,hl2,hl3]
theorem load_err {w:World} {g:Nat} {v:Int} (h:w.heap[g]?=some (.cells #[.int .i64 v] 31 (0,0))):(loadVar 31 ⟨g,0,none⟩).run Tryz.prog w=.ok (.int .i64 v) w:=by
  have hc:w.cell? ⟨g,0,none⟩=some (.int .i64 v):=by simp only [World.cell?,h];rfl
  simp [loadVar,hc,go_sem]
theorem exec_n (a:Option Addr) (len cap:Nat) (l:List Ii) (g:Nat → Int) (W:World) (hT:Mrm.Tabs W) (hL:Irs W a len cap l) (hm:∀ x ∈ l,mayI x=true ∧ stopI x=false) (hg:GOk g):
    Calls Tryz.prog 25 #[.slice a len cap,.agg (rgC g)] W fun e w'=>e=.returned (.tuple #[.agg (rgC (runF l (g,zM)).1.1),.agg (mcC ((runF l (g,zM)).1.2.upA 0)),.int .i64 (runF l (g,zM)).2]) ∧ Below W.heap.size W w':=by
  have HT:=Lib.hid hT
  have HL:=Lib.hid hL
  have HM:=Lib.hid hm
  have HG:=Lib.hid hg
  have e1:=hL.le
  have e2:=hL.fit
  clear hT hL hm hg
  go_enter Tryz.func25,Tryz.ntmps25
  go_wp2_with fail
  refine (Flg.none_n _).mono ?_
  rintro e w1 ⟨rfl,b1⟩
  obtain ⟨B1,S1,r0,r1,r2,r3⟩:=al4 b1
  have R2:=Lib.hid (show w1.heap[W.heap.size + 2]?=some (.cells (mcC zM) 30 (0,0)) from r2)
  have R0:=Lib.hid (show w1.heap[W.heap.size]?=some (.cells (rgC g) 24 (0,0)) from r0)
  have R1:=Lib.hid (show w1.heap[W.heap.size + 1]?=some (.cells (rgC zG) 24 (0,0)) from r1)
  have R3:=Lib.hid (show w1.heap[W.heap.size + 3]?=some (.cells #[.int .i64 0] 31 (0,0)) from r3)
  have B1:=Lib.hid B1
  have S1:=Lib.hid S1
  clear r0 r1 r2 r3 b1
  go_wp2_with (with_reducible refine (halt_store 28 _ _ rfl ?_))
  refine ⟨?_,trivial⟩
  refine wpList_store_part rfl 28 _ _ rfl (W.heap.size + 2) 16 _ rfl rfl _ _ R2.out (by kernel_rfl) (by decide) (Flg.fC_one _) ?_
  intro w2 s2
  have R2b:=Lib.hid (show w2.heap[W.heap.size + 2]?=some (.cells (mcC zM) 30 (0,0)) from s2.row)
  have R0b:=Lib.hid (row_stay R0.out s2 (by omega))
  have R1b:=Lib.hid (row_stay R1.out s2 (by omega))
  have R3b:=Lib.hid (row_stay R3.out s2 (by omega))
  have B2:=Lib.hid (s2.below B1.out (by omega))
  have S2:=Lib.hid (show W.heap.size + 4 ≤ w2.heap.size by rw [s2.size];exact S1.out)
  clear s2 R2 R0 R1 R3 B1 S1
  go_wp2_with fail
  have RA:=Lib.hid (show RX W w2.heap.size g zM 0 (w2.alloc (.cells (fnC W.heap.size) 69)) from
    ⟨below_new B2.out _,(heap_past _ _ _ (by have:=S2.out;omega)).trans R0b.out,(heap_past _ _ _ (by have:=S2.out;omega)).trans R2b.out,(heap_past _ _ _ (by have:=S2.out;omega)).trans R3b.out,(heap_past _ _ _ (by have:=S2.out;omega)).trans R1b.out,heap_last _ _ _ rfl,S2.out,by rw [size_alloc];omega⟩)
  clear R2b R0b R1b R3b B2 S2
  go_loopw [18] (fun i wr=>∃ k:Nat,k ≤ len ∧ i=.int .i64 k ∧ Hid (∃ st:Sg,runI (l.take k) (g,zM)=some st ∧ RX W w2.heap.size st.1 st.2 0 wr)) (fun i _=>len - (intOf i).toNat)
  case atStart=>exact ⟨0,by omega,rfl,Lib.hid ⟨(g,zM),rfl,RA.out⟩⟩
  case round=>
    obtain ⟨k,hkl,rfl,HR⟩:=hrel
    obtain ⟨st,hs,rx⟩:=HR.out
    have HS:=Lib.hid hs
    have RW:=Lib.hid rx
    clear HR hs rx RA
    by_cases hlt:k < len
    · skip
      obtain ⟨B1,o1,rfl,hr⟩:=HL.out.here (by omega)
      obtain ⟨x,hx⟩:∃ x,l[k]?=some x:=⟨_,List.getElem?_eq_getElem (by rw [HL.out.size];exact hlt)⟩
      have RG:=Lib.hid (range_below (hr k x hx) RW.out.fb (Nat.le_refl _))
      have OK:=Lib.hid (HL.out.ok x (List.mem_of_getElem? hx))
      have MY:=Lib.hid (HM.out x (List.mem_of_getElem? hx))
      have HX:=Lib.hid hx
      clear hr hx
      go_wp2_with (with_reducible refine (halt_load 40 _ rfl ?_))
      refine ⟨?_,trivial⟩
      refine wpList_load_mid rfl 40 _ rfl B1 (o1 + k * 13) rfl _ _ RG.out Tryz.underlying40 rfl (by kernel_rfl) ?_
      go_wp2_with (with_reducible refine (halt_store 40 _ _ rfl ?_))
      refine ⟨?_,trivial⟩
      refine wpList_store_is rfl 40 _ _ rfl _ _ rfl rfl _ _ (heap_last _ _ _ rfl) (by kernel_rfl) rfl (by kernel_rfl) ?_
      intro w5 s5
      have X5:=Lib.hid s5.row
      have R5:=Lib.hid (RW.out.keep (s5.below (below_new (Below.refl wr.heap.size wr) _) (Nat.le_refl _)))
      clear s5
      have SK:=stop_kind MY.out.1 MY.out.2
      obtain ⟨xk,xx,xr,xp,xn,xt⟩:=x
      simp only at SK
      go_wp2_with fail
      rcases SK with ⟨rfl,hmx⟩ | rfl | rfl
      · skip
        have c0:=row_cell X5.out 0 _ rfl
        have c1:=row_cell X5.out 1 _ rfl
        have c2:=row_cell X5.out 2 _ rfl
        have c3:=row_cell X5.out 3 _ rfl
        have c4:=row_cell X5.out 4 _ rfl
        have c5:=row_cell X5.out 5 _ rfl
        have c6:=row_cell X5.out 6 _ rfl
        have c7:=row_cell X5.out 7 _ rfl
        have c8:=row_cell X5.out 8 _ rfl
        have c9:=row_cell X5.out 9 _ rfl
        have c10:=row_cell X5.out 10 _ rfl
        have c11:=row_cell X5.out 11 _ rfl
        have c12:=row_cell X5.out 12 _ rfl
        have d0:=row_cell R5.out.fd 0 _ rfl
        go_still_tail 5,(by kernel_rfl)
        clear c0 c1 c2 c3 c4 c5 c6 c7 c8 c9 c10 c11 c12 d0
        have RD:=Lib.hid (R5.out.keep (Below.refl _ _).drew)
        clear R5
        go_wp2_with fail
        have GM:=run_ok HG.out (show MOk zM from zM_ok) HS.out
        refine (x_c ⟨0,xx,xr,xp,xn,xt⟩ (W.heap.size + 2) (W.heap.size + 3) st.2 0 _ (HT.out.below RD.out.fb (Nat.le_refl _)) OK.out.x GM.2 RD.out.fm RD.out.fe (by omega)).mono ?_
        rintro e w6 ⟨rfl,sv,m6,e6⟩
        have R6:=Lib.hid (RD.out.turn sv m6 e6)
        clear sv m6 e6 RD GM
        simp only at R6
        have e0:=row_cell R6.out.fe 0 _ rfl
        rcases doXe_yes (m:=st.2) (x:=xx) (l:=0) hmx with hE | hE
        · have HN:=Lib.hid (run_next HS.out HX.out (show stepI ⟨0,xx,xr,xp,xn,xt⟩ st=some (st.1,doX st.2 xx 0) from if_pos hE))
          rw [hE] at e0 R6
          go_wp2_with fail
          go_roundw
          case rel=>exact ⟨k + 1,by omega,by go_num,Lib.hid ⟨_,HN.out,R6.out⟩⟩
          case measure=>simp [intOf];omega
        · have FE:=Lib.hid (show runF l (g,zM)=((st.1,doX st.2 xx 0),20) from (runF_fault HS.out HX.out (show (if doXe st.2 xx 0=0 then some (st.1,doX st.2 xx 0) else none)=none from if_neg (by omega))).trans (by rw [hE]))
          rw [hE] at e0 R6
          have RZ:=R6
          clear R6
          go_wp2_with (with_reducible refine (halt_store 23 _ _ rfl ?_))
          refine ⟨?_,trivial⟩
          refine wpList_store_cell rfl 23 _ _ rfl (W.heap.size + 2) 21 _ rfl rfl rfl rfl _ _ RZ.out.fm (by kernel_rfl) (by rw [mcC_size];omega) ?_
          intro w8 s8
          have F0:=Lib.hid (row_stay RZ.out.fr s8 (by omega))
          have F1:=Lib.hid (row_stay RZ.out.fz s8 (by omega))
          have F2:=Lib.hid (show w8.heap[W.heap.size + 2]?=some (.cells (mcC ((doX st.2 xx 0).upA 0)) 30 (0,0)) from s8.row)
          have F3:=Lib.hid (row_stay RZ.out.fe s8 (by omega))
          have B8:=Lib.hid (s8.below RZ.out.fb (by omega))
          clear s8
          go_wp2_with fail
          rename_i hK
          refine go_reg [bx W.heap.size 24 (rgC st.1),⟨(W.heap.size + 2),30,(mcC ((doX st.2 xx 0).upA 0)),some 4,(mcC ((doX st.2 xx 0).upA 0))⟩,⟨(W.heap.size + 3),31,#[.int .i64 20],some 5,#[.int .i64 20]⟩,⟨(W.heap.size + 1),24,(rgC zG),some 3,(rgC st.1)⟩] [] [some (.agg (rgC st.1)),some (.agg (mcC ((doX st.2 xx 0).upA 0))),some (.int .i64 20),none,none,none] mo rfl rfl B8.out (by kernel_rfl) ⟨F0.out,F2.out,F3.out,F1.out,trivial⟩ (
           hk (fun cx=>cx.q (ldRgW rfl (cx.rq 3 rfl) (cx.rn 0 rfl))) <|
           hk (fun cx=>cx.q (ldMc rfl (cx.rq 5 rfl) (cx.rf 1 rfl (by kernel_rfl)))) <|
           hk (fun cx=>cx.q (ex_ld rfl (cx.rq 6 rfl) (cx.rf 2 rfl (by kernel_rfl)) rfl Tryz.isAgg31)) <|
           hk (fun cx=>cx.stR (wn rfl) rfl rfl 3 rfl (cx.rq 4 rfl) (cx.u 0 rfl) (by kernel_rfl) (Eq.refl 11) (rgC_one _) (show W.heap.size ≤ (W.heap.size + 1) by omega) rfl ⟨(show W.heap.size ≠ (W.heap.size + 1) by omega),(show (W.heap.size + 2) ≠ (W.heap.size + 1) by omega),(show (W.heap.size + 3) ≠ (W.heap.size + 1) by omega),trivial⟩ trivial) <|
           hk (fun cx=>cx.stR (wn rfl) rfl rfl 1 rfl (cx.rq 5 rfl) (cx.u 0 rfl) (by kernel_rfl) (Eq.refl 22) (mcC_one _) (show W.heap.size ≤ (W.heap.size + 2) by omega) rfl ⟨(show W.heap.size ≠ (W.heap.size + 2) by omega),(show (W.heap.size + 3) ≠ (W.heap.size + 2) by omega),(show (W.heap.size + 1) ≠ (W.heap.size + 2) by omega),trivial⟩ trivial) <|
           hk (fun cx=>cx.stC (wn rfl) rfl rfl 2 rfl (cx.rq 6 rfl) (cx.u 0 rfl) rfl rfl (by kernel_rfl) rfl rfl (show W.heap.size ≤ (W.heap.size + 3) by omega) rfl ⟨(show W.heap.size ≠ (W.heap.size + 3) by omega),(show (W.heap.size + 2) ≠ (W.heap.size + 3) by omega),(show (W.heap.size + 1) ≠ (W.heap.size + 3) by omega),trivial⟩ trivial) <|
           hn) ?_
          intro a41 w41 f41
          refine hK _ _ ?_
          refine wp_ret ?_
          have s4_1:=f41.q 4 rfl
          have s5_2:=f41.q 5 rfl
          have s6_3:=f41.q 6 rfl
          try simp only [Exit.inBlock,Exit.then]
          refine bodyPost_ret (res_ccc (fn:=Tryz.f25) rfl s4_1 (load_row 24 f41.rows.2.2.2.1 Tryz.underlying24 rfl (by kernel_rfl)) s5_2 (load_row 30 f41.rows.2.1 Tryz.underlying30 rfl (by kernel_rfl)) s6_3 (load_err f41.rows.2.2.1)) f41.d ?_
          exact ⟨by rw [FE.out];rfl,f41.b⟩
      · skip
        have c0:=row_cell X5.out 0 _ rfl
        have c1:=row_cell X5.out 1 _ rfl
        have c2:=row_cell X5.out 2 _ rfl
        have c3:=row_cell X5.out 3 _ rfl
        have c4:=row_cell X5.out 4 _ rfl
        have c5:=row_cell X5.out 5 _ rfl
        have c6:=row_cell X5.out 6 _ rfl
        have c7:=row_cell X5.out 7 _ rfl
        have c8:=row_cell X5.out 8 _ rfl
        have c9:=row_cell X5.out 9 _ rfl
        have c10:=row_cell X5.out 10 _ rfl
        have c11:=row_cell X5.out 11 _ rfl
        have c12:=row_cell X5.out 12 _ rfl
        have d0:=row_cell R5.out.fd 1 _ rfl
        go_still_tail 5,(by kernel_rfl)
        clear c0 c1 c2 c3 c4 c5 c6 c7 c8 c9 c10 c11 c12 d0
        have RD:=Lib.hid (R5.out.keep (Below.refl _ _).drew)
        clear R5
        go_wp2_with fail
        have CB:=may_copy MY.out.1 (by exact .inl rfl)
        simp only at CB
        refine (take_c ⟨1,xx,xr,xp,xn,xt⟩ W.heap.size (W.heap.size + 2) st.1 st.2 _ RD.out.fm RD.out.fr (by omega) CB.1 (show 0 ≤ xp ∧ xp < 16 by omega)).mono ?_
        rintro e w6 ⟨rfl,bu,r6⟩
        have R6:=Lib.hid (RD.out.turn (Sv.of_but bu) r6 ((bu.block _ (by have:=RD.out.hd;have:=RD.out.lt;omega) (by omega)).trans RD.out.fe))
        clear bu r6 RD
        have HN:=Lib.hid (run_next HS.out HX.out (show stepI ⟨1,xx,xr,xp,xn,xt⟩ st=some (st.1,st.2.setR xp.toNat (st.1 xr.toNat)) from rfl))
        have e0:=row_cell R6.out.fe 0 _ rfl
        go_wp2_with fail
        go_roundw
        case rel=>exact ⟨k + 1,by omega,by go_num,Lib.hid ⟨_,HN.out,R6.out⟩⟩
        case measure=>simp [intOf];omega
      · skip
        have c0:=row_cell X5.out 0 _ rfl
        have c1:=row_cell X5.out 1 _ rfl
        have c2:=row_cell X5.out 2 _ rfl
        have c3:=row_cell X5.out 3 _ rfl
        have c4:=row_cell X5.out 4 _ rfl
        have c5:=row_cell X5.out 5 _ rfl
        have c6:=row_cell X5.out 6 _ rfl
        have c7:=row_cell X5.out 7 _ rfl
        have c8:=row_cell X5.out 8 _ rfl
        have c9:=row_cell X5.out 9 _ rfl
        have c10:=row_cell X5.out 10 _ rfl
        have c11:=row_cell X5.out 11 _ rfl
        have c12:=row_cell X5.out 12 _ rfl
        have d0:=row_cell R5.out.fd 2 _ rfl
        go_still_tail 5,(by kernel_rfl)
        clear c0 c1 c2 c3 c4 c5 c6 c7 c8 c9 c10 c11 c12 d0
        have RD:=Lib.hid (R5.out.keep (Below.refl _ _).drew)
        clear R5
        go_wp2_with fail
        have CB:=may_copy MY.out.1 (by exact .inr rfl)
        simp only at CB
        refine (give_c ⟨2,xx,xr,xp,xn,xt⟩ W.heap.size (W.heap.size + 2) st.1 st.2 _ RD.out.fr RD.out.fm (by omega) CB.1 (show 0 ≤ xp ∧ xp < 16 by omega)).mono ?_
        rintro e w6 ⟨rfl,bu,r6⟩
        have R6:=Lib.hid (RD.out.give bu r6)
        clear bu r6 RD
        have HN:=Lib.hid (run_next HS.out HX.out (show stepI ⟨2,xx,xr,xp,xn,xt⟩ st=some (setG st.1 xr.toNat (st.2.r xp.toNat),st.2) from rfl))
        have e0:=row_cell R6.out.fe 0 _ rfl
        go_wp2_with fail
        go_roundw
        case rel=>exact ⟨k + 1,by omega,by go_num,Lib.hid ⟨_,HN.out,R6.out⟩⟩
        case measure=>simp [intOf];omega
    · obtain rfl:k=len:=by omega
      have FE:=Lib.hid (show runF l (g,zM)=(st,0) from by
        have:=HS.out
        rw [List.take_of_length_le (by rw [HL.out.size];exact Nat.le_refl _)] at this
        exact runF_some this)
      have RZ:=RW
      clear RW
      go_wp2_with (with_reducible refine (halt_store 23 _ _ rfl ?_))
      refine ⟨?_,trivial⟩
      refine wpList_store_cell rfl 23 _ _ rfl (W.heap.size + 2) 21 _ rfl rfl rfl rfl _ _ RZ.out.fm (by kernel_rfl) (by rw [mcC_size];omega) ?_
      intro w8 s8
      have F0:=Lib.hid (row_stay RZ.out.fr s8 (by omega))
      have F1:=Lib.hid (row_stay RZ.out.fz s8 (by omega))
      have F2:=Lib.hid (show w8.heap[W.heap.size + 2]?=some (.cells (mcC (st.2.upA 0)) 30 (0,0)) from s8.row)
      have F3:=Lib.hid (row_stay RZ.out.fe s8 (by omega))
      have B8:=Lib.hid (s8.below RZ.out.fb (by omega))
      clear s8
      go_wp2_with fail
      rename_i hK
      refine go_reg [bx W.heap.size 24 (rgC st.1),⟨(W.heap.size + 2),30,(mcC (st.2.upA 0)),some 4,(mcC (st.2.upA 0))⟩,⟨(W.heap.size + 3),31,#[.int .i64 0],some 5,#[.int .i64 0]⟩,⟨(W.heap.size + 1),24,(rgC zG),some 3,(rgC st.1)⟩] [] [some (.agg (rgC st.1)),some (.agg (mcC (st.2.upA 0))),some (.int .i64 0),none,none,none] mo rfl rfl B8.out (by kernel_rfl) ⟨F0.out,F2.out,F3.out,F1.out,trivial⟩ (
       hk (fun cx=>cx.q (ldRgW rfl (cx.rq 3 rfl) (cx.rn 0 rfl))) <|
       hk (fun cx=>cx.q (ldMc rfl (cx.rq 5 rfl) (cx.rf 1 rfl (by kernel_rfl)))) <|
       hk (fun cx=>cx.q (ex_ld rfl (cx.rq 6 rfl) (cx.rf 2 rfl (by kernel_rfl)) rfl Tryz.isAgg31)) <|
       hk (fun cx=>cx.stR (wn rfl) rfl rfl 3 rfl (cx.rq 4 rfl) (cx.u 0 rfl) (by kernel_rfl) (Eq.refl 11) (rgC_one _) (show W.heap.size ≤ (W.heap.size + 1) by omega) rfl ⟨(show W.heap.size ≠ (W.heap.size + 1) by omega),(show (W.heap.size + 2) ≠ (W.heap.size + 1) by omega),(show (W.heap.size + 3) ≠ (W.heap.size + 1) by omega),trivial⟩ trivial) <|
       hk (fun cx=>cx.stR (wn rfl) rfl rfl 1 rfl (cx.rq 5 rfl) (cx.u 0 rfl) (by kernel_rfl) (Eq.refl 22) (mcC_one _) (show W.heap.size ≤ (W.heap.size + 2) by omega) rfl ⟨(show W.heap.size ≠ (W.heap.size + 2) by omega),(show (W.heap.size + 3) ≠ (W.heap.size + 2) by omega),(show (W.heap.size + 1) ≠ (W.heap.size + 2) by omega),trivial⟩ trivial) <|
       hk (fun cx=>cx.stC (wn rfl) rfl rfl 2 rfl (cx.rq 6 rfl) (cx.u 0 rfl) rfl rfl (by kernel_rfl) rfl rfl (show W.heap.size ≤ (W.heap.size + 3) by omega) rfl ⟨(show W.heap.size ≠ (W.heap.size + 3) by omega),(show (W.heap.size + 2) ≠ (W.heap.size + 3) by omega),(show (W.heap.size + 1) ≠ (W.heap.size + 3) by omega),trivial⟩ trivial) <|
       hn) ?_
      intro a41 w41 f41
      refine hK _ _ ?_
      refine wp_ret ?_
      have s4_1:=f41.q 4 rfl
      have s5_2:=f41.q 5 rfl
      have s6_3:=f41.q 6 rfl
      try simp only [Exit.inBlock,Exit.then]
      refine bodyPost_ret (res_ccc (fn:=Tryz.f25) rfl s4_1 (load_row 24 f41.rows.2.2.2.1 Tryz.underlying24 rfl (by kernel_rfl)) s5_2 (load_row 30 f41.rows.2.1 Tryz.underlying30 rfl (by kernel_rfl)) s6_3 (load_err f41.rows.2.2.1)) f41.d ?_
      exact ⟨by rw [FE.out];rfl,f41.b⟩
def flatI (l:List Ii):List Value:=l.flatMap iL
theorem flatI_len:∀ l:List Ii,(flatI l).length=l.length * 13
  | []=>rfl
  | i :: l=>by
    show (iL i ++ flatI l).length=(l.length + 1) * 13
    rw [List.length_append,flatI_len l]
    show 13 + l.length * 13=_
    omega
theorem flatI_get:∀ (l:List Ii) (k:Nat) (x:Ii),l[k]?=some x → ∀ j v,(iL x)[j]?=some v → (flatI l)[k * 13 + j]?=some v
  | [],_,_,h,_,_,_=>by simp at h
  | i :: l,0,x,h,j,v,hv=>by
    simp at h
    subst h
    show (iL i ++ flatI l)[0 * 13 + j]?=_
    have hj:=(List.getElem?_eq_some_iff.1 hv).1
    rw [Nat.zero_mul,Nat.zero_add,List.getElem?_append_left hj]
    exact hv
  | i :: l,k + 1,x,h,j,v,hv=>by
    show (iL i ++ flatI l)[(k + 1) * 13 + j]?=_
    have e:(iL i).length=13:=rfl
    rw [List.getElem?_append_right (by omega),e,show (k + 1) * 13 + j - 13=k * 13 + j by omega]
    exact flatI_get l k x (by simpa using h) j v hv
theorem flatI_at:∀ (l:List Ii) (j:Nat) (v:Value),(flatI l)[j]?=some v → ∃ x,l[j / 13]?=some x ∧ (iL x)[j % 13]?=some v
  | [],_,_,h=>by simp [flatI] at h
  | i :: l,j,v,h=>by
    change (iL i ++ flatI l)[j]?=some v at h
    have e:(iL i).length=13:=rfl
    by_cases hj:j < 13
    · rw [List.getElem?_append_left (by omega)] at h
      exact ⟨i,by rw [show j / 13=0 by omega];rfl,by rw [show j % 13=j by omega];exact h⟩
    · rw [List.getElem?_append_right (by omega),e] at h
      obtain ⟨x,h1,h2⟩:=flatI_at l (j - 13) v h
      refine ⟨x,?_,?_⟩
      · rw [show j / 13=(j - 13) / 13 + 1 by omega,List.getElem?_cons_succ]
        exact h1
      · rw [show j % 13=(j - 13) % 13 by omega]
        exact h2
theorem flatI_one (l:List Ii):∀ u ∈ flatI l,u.oneCell'=true:=fun u hu=>by
  obtain ⟨x,_,hx⟩:=List.mem_flatMap.1 hu
  simp only [iL,List.mem_cons,List.not_mem_nil,or_false] at hx
  rcases hx with rfl | rfl | rfl | rfl | rfl | rfl | rfl | rfl | rfl | rfl | rfl | rfl | rfl <;> rfl
theorem flatI_append (l k:List Ii):flatI (l ++ k)=flatI l ++ flatI k:=List.flatMap_append
theorem Irs.news {w:World} {a:Addr} {len cap:Nat} {l:List Ii} (h:Irs w (some a) len cap l):∀ j u,(flatI l)[j]?=some u → w.cell? (a.add j)=some u:=by
  intro j u hu
  obtain ⟨x,h1,h2⟩:=flatI_at l j u hu
  have hl:0 < len:=by
    have:=(List.getElem?_eq_some_iff.1 h1).1
    rw [h.size] at this
    omega
  obtain ⟨b,o,e,hr⟩:=h.here hl
  injection e with e
  subst e
  rw [Addr.add_mid]
  have:=hr _ _ h1 _ _ h2
  rw [show o + j / 13 * 13 + j % 13=o + j by omega] at this
  exact this
theorem irs_row {w:World} {g len cap:Nat} {l:List Ii} {C:Array Value} {T:TypeId} {fr:Nat × Nat} (h:w.heap[g]?=some (.cells C T fr)) (hc:C.toList.take (len * 13)=flatI l) (hl:l.length=len) (h1:len ≤ cap) (h2:cap ≤ 9223372036854775807) (ok:∀ x ∈ l,IOk x):Irs w (some ⟨g,0,none⟩) len cap l:=
  ⟨h1,h2,hl,fun _=>⟨g,0,rfl,fun i x hx j v hv=>by
    have e:=flatI_get l i x hx j v hv
    rw [← hc] at e
    have hlt:i * 13 + j < len * 13:=by
      have a:=(List.getElem?_eq_some_iff.1 hx).1
      have b:j < 13:=(List.getElem?_eq_some_iff.1 hv).1
      rw [hl] at a
      omega
    rw [List.getElem?_take_of_lt hlt,Array.getElem?_toList] at e
    simp only [World.cell?,h,Nat.zero_add]
    simpa using e⟩,ok,fun h=>(Option.some_ne_none _ h).elim⟩
theorem info_ir:∃ i,Tryz.prog.info? 40=some i ∧ i.zero=some (.agg (iC zI)) ∧ i.size=13 ∧ i.bytes=64:=by
  have h:(Tryz.prog.info? 40).map (fun i=>(i.zero,i.size,i.bytes))=some (some (.agg (iC zI)),13,64):=by kernel_rfl
  cases hi:Tryz.prog.info? 40 with
  | none=>rw [hi] at h;simp at h
  | some i=>rw [hi] at h;simp at h;exact ⟨i,rfl,h.1,h.2.1,h.2.2⟩
theorem run_copy (a:Option Addr) (len cap:Nat) (l:List Ii) (w:World) (ty:TypeId) (hL:Irs w a len cap l) (hfew:len ≤ 100000) (g0:Nat) (C0:Array Value) (T0:TypeId) (h0:w.heap[g0]?=some (.cells C0 T0 (0,0))):
    ∃ a2 c2 w' gB CB TB,(Builtin.append_ #[22,22] ty #[.slice a 0 0,.slice a len cap]).run Tryz.prog w=.ok (.slice a2 len c2) w' ∧ Below w.heap.size w w' ∧ w'.heap[gB]?=some (.cells CB TB (0,0)) ∧ (gB=g0 ∨ w.heap.size ≤ gB) ∧ (a2=none → c2=0) ∧ (∀ wx:World,wx.heap[gB]?=some (.cells CB TB (0,0)) → Irs wx a2 len c2 l):=by
  obtain ⟨i,hi,hz,hs,hb⟩:=info_ir
  by_cases hl:len=0
  · subst hl
    have e:l=[]:=List.eq_nil_of_length_eq_zero hL.size
    subst e
    refine ⟨a,0,w,g0,C0,T0,?_,Below.refl _ _,h0,.inl rfl,fun _=>rfl,fun wx _=>⟨Nat.le_refl _,by omega,rfl,fun h=>absurd h (by omega),(fun x hx=>by cases hx),fun _=>rfl⟩⟩
    cases a with
    | none=>simp [Builtin.append_,run_underlying Tryz.underlying22,sizeOf,typeInfo,hi,Builtin.lenOf,Builtin.firstCells,loadCells,loadCellsFrom]
    | some a=>simp [Builtin.append_,run_underlying Tryz.underlying22,sizeOf,typeInfo,hi,Builtin.lenOf,Builtin.firstCells,loadCells,loadCellsFrom,storeCells]
  · obtain ⟨b,oo,rfl,_⟩:=hL.here (by omega)
    have hr:=run_append_grow (P:=Tryz.prog) w 22 ty 40 i (.agg (iC zI)) Tryz.underlying22 hi hz ⟨b,oo,none⟩ 0 0 [] (by simp) (by simp) ⟨b,oo,none⟩ len cap (flatI l) (by rw [flatI_len,hL.size,hs]) hL.news (by omega) (by omega) (growslice_fits (by omega) (by rw [hb];omega))
    simp only [Nat.zero_add] at hr
    refine ⟨_,_,_,w.heap.size,_,_,hr,((Below.refl _ _).drew).alloc (Nat.le_refl _) _,heap_alloc_new w.drew _,.inr (Nat.le_refl _),(fun h=>(Option.some_ne_none _ h).elim),fun wx hx=>irs_row hx ?_ hL.size (grownCap_ge w len 0 _) ?_ hL.ok⟩
    · simp only [Array.toList_append,List.nil_append]
      rw [← hL.size,← flatI_len]
      exact List.take_left
    · have:=grownCap_le_maxLen w len 0 40 (by unfold maxLen;omega)
      unfold maxLen at this
      omega
theorem wpList_copy {ops:Array Oper} {rest:List Oper} {o:Oper} {ac:Act} {w:World} {Q:Exit → Act → World → Prop} (hgd:o.guard=none) (s x:Operand) (ho:o.op=.call { callee:=.builtin .append,args:=#[s,x],argTypes:=#[22,22] })
    (a:Option Addr) (len cap:Nat) (l:List Ii) (hs:ac.eval s=.slice a 0 0) (hx:ac.eval x=.slice a len cap) (hL:Irs w a len cap l) (hfew:len ≤ 100000) (g0:Nat) (C0:Array Value) (T0:TypeId) (h0:w.heap[g0]?=some (.cells C0 T0 (0,0)))
    (h:∀ a2 c2 w' gB CB TB,Below w.heap.size w w' → w'.heap[gB]?=some (.cells CB TB (0,0)) → (gB=g0 ∨ w.heap.size ≤ gB) → (a2=none → c2=0) → (∀ wx:World,wx.heap[gB]?=some (.cells CB TB (0,0)) → Irs wx a2 len c2 l) → wpList Tryz.prog ops Q rest (ac.put o.dst (.slice a2 len c2)) w'):wpList Tryz.prog ops Q (o :: rest) ac w:=by
  refine wpList_plain hgd fun K hK=>?_
  obtain ⟨a2,c2,w',gB,CB,TB,hr,h1,h2,h3,h3',h4⟩:=run_copy a len cap l w o.type hL hfew g0 C0 T0 h0
  unfold Oper.wp execOp
  simp only [ho,resolve,invoke,builtin,Sem.run_bind,Sem.run_pure,Result.andThen_ok,List.map_toArray,List.map_cons,List.map_nil,hs,hx,hr]
  exact hK _ _ (h a2 c2 w' gB CB TB h1 h2 h3 h3' h4)
theorem Irs.take {w:World} {a:Option Addr} {len cap:Nat} {l:List Ii} (h:Irs w a len cap l) (n:Nat) (hn:n ≤ len):Irs w a n cap (l.take n):=
  ⟨Nat.le_trans hn h.le,h.fit,by rw [List.length_take,h.size];omega,fun hp=>by
    obtain ⟨b,o,e,hr⟩:=h.here (by omega)
    exact ⟨b,o,e,fun i x hx=>hr i x (by
      have:=(List.getElem?_eq_some_iff.1 hx).1
      rw [List.length_take] at this
      rw [List.getElem?_take_of_lt (by omega)] at hx
      exact hx)⟩,(fun x hx=>h.ok x (List.mem_of_mem_take hx)),h.nilc⟩
def idxI (l:List Ii) (len:Nat):Int:=if stopL l < len then (stopL l:Int) else -1
theorem index_n (a:Option Addr) (len cap:Nat) (l:List Ii) (W:World) (hL:Irs W a len cap l):Calls Tryz.prog 24 #[.slice a len cap,.func (.func 15) #[] #[]] W fun e w'=>e=.returned (.int .i64 (idxI l len)) ∧ Below W.heap.size W w':=by
  have HL:=Lib.hid hL
  have e1:=hL.le
  have e2:=hL.fit
  clear hL
  go_enter Tryz.func24,Tryz.ntmps24
  go_wp2_with fail
  go_loopw [8] (fun i wr=>∃ k:Nat,k ≤ len ∧ i=.int .i64 k ∧ Hid (Below W.heap.size W wr ∧ k ≤ stopL l)) (fun i _=>len - (intOf i).toNat)
  case atStart=>exact ⟨0,by omega,rfl,Lib.hid ⟨Below.refl _ _,Nat.zero_le _⟩⟩
  case round=>
    obtain ⟨k,hk,rfl,HR⟩:=hrel
    have HB:=Lib.hid HR.out.1
    have HF:=Lib.hid HR.out.2
    clear HR
    by_cases hlt:k < len
    · obtain ⟨B1,o1,rfl,hr⟩:=HL.out.here (by omega)
      obtain ⟨x,hx⟩:∃ x,l[k]?=some x:=⟨_,List.getElem?_eq_getElem (by rw [HL.out.size];exact hlt)⟩
      have RG:=Lib.hid (range_below (hr k x hx) HB.out (Nat.le_refl _))
      have HX:=Lib.hid hx
      clear hr hx
      go_wp2_with (with_reducible refine (halt_load 40 _ rfl ?_))
      refine ⟨?_,trivial⟩
      refine wpList_load_mid rfl 40 _ rfl B1 (o1 + k * 13) rfl _ _ RG.out Tryz.underlying40 rfl (by kernel_rfl) ?_
      go_wp2_with fail
      refine (stops_n x _).mono ?_
      rintro e w3 ⟨rfl,b3⟩
      have B3:=Lib.hid (below_call HB.out b3)
      clear b3
      cases hm:stopI x
      · have HE:=Lib.hid (fi_next HF.out HX.out hm)
        go_wp2_with fail
        go_roundw
        case rel=>exact ⟨k + 1,by omega,by go_num,Lib.hid ⟨B3.out,HE.out⟩⟩
        case measure=>simp [intOf];omega
      · have HC:=Lib.hid (show idxI l len=(k:Int) from by
          unfold idxI
          have e:stopL l=k:=fi_here HF.out HX.out hm
          rw [e,if_pos hlt])
        go_wp2_with fail
        go_ret
        exact ⟨retV (by rw [HC.out];rfl),B3.out⟩
    · obtain rfl:k=len:=by omega
      have HC:=Lib.hid (show idxI l k=-1 from if_neg (by have:=HF.out;omega))
      go_wp2_with fail
      go_ret
      exact ⟨retV (by rw [HC.out];rfl),HB.out⟩
end Go.Proofs.YtbpehbeakhocnaaGreatDoor.Irn
