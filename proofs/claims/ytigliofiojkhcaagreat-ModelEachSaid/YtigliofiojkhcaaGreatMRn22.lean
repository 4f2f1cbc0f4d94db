import Derived.Test.YtigliofiojkhcaaGreatMRn20
import Derived.Test.YtigliofiojkhcaaGreatMRn21
set_option linter.unusedVariables false
set_option linter.unusedSimpArgs false
set_option linter.unnecessarySimpa false
namespace Go.Proofs.YtigliofiojkhcaaGreat.Mdl
open Go.RowKit Go.Maps Ins Trc
set_option linter.unusedVariables false
set_option linter.unusedSimpArgs false
set_option maxRecDepth 100000
def ctxL (S:MemS):List Int:=(List.range S.n).map (fun i=>S.g (1 + i))
def Pl.out (D:Pl):Out:=⟨D.fin,if D.fin=1 then D.r 0 else 0,ctxL D.mem,D.evs,D.fuel⟩
def oc (k:Int) (v tv:Value) (f:Int):Array Value:=#[.int .i8 k,.int .u64 0,v,tv,.int .i64 f]
def S5 (w0:World) (n:Nat) (f:Nat → Value) (k:Int) (tv:Value) (fu:Int) (fl:Nat → Bool) (u:Nat → Value) (w:World):Prop:=
  Below w0.heap.size w0 w ∧ (fl 8=true → ∃ h,u 12=.slice (some ⟨h,0,none⟩) n n ∧ w0.heap.size ≤ h ∧ w.rowIs h 5 n f) ∧ (fl 17=true → u 21=.agg (oc k (u 12) tv fu)) ∧
  (fl 18=true → ∃ ge,u 3=.pointer (some ⟨ge,0,none⟩) ∧ w0.heap.size ≤ ge ∧
    ((fl 19=false ∧ w.heap[ge]?=some (.cells #[.int .i8 0,.int .u64 0,.slice none 0 0,.slice none 0 0,.int .i64 0] 33 (0,0))) ∨ (fl 19=true ∧ w.heap[ge]?=some (.cells (oc k (u 12) tv fu) 33 (0,0)))))
section
variable {w0 w w':World} {n:Nat} {f:Nat → Value} {k fu:Int} {tv:Value} {fl:Nat → Bool} {u u':Nat → Value} {v:Value}
theorem S5.loc:Loc [8,17,18,19] [12,21,3] (S5 w0 n f k tv fu):=by
  intro fl fl' u u' w hK hD h
  unfold S5 at *
  simp only [hK 8 (by decide),hK 17 (by decide),hK 18 (by decide),hK 19 (by decide),hD 12 (by decide),hD 21 (by decide),hD 3 (by decide)]
  exact h
theorem S5.start (b:Below w0.heap.size w0 w) (h7:fl 8=false) (h14:fl 17=false) (h15:fl 18=false):S5 w0 n f k tv fu fl u w:=
  ⟨b,fun h=>absurd (h7.symm.trans h) (by decide),fun h=>absurd (h14.symm.trans h) (by decide),fun h=>absurd (h15.symm.trans h) (by decide)⟩
theorem S5.ctx (h:S5 w0 n f k tv fu fl u w) (f17:fl 17=false) (f19:fl 19=false) (bel:Below w.heap.size w w') (own:w'.rowIs w.heap.size 5 n f) (h12:u' 12=.slice (some ⟨w.heap.size,0,none⟩) n n) (h3:u' 3=u 3):S5 w0 n f k tv fu (upd fl 8) u' w':=by
  refine ⟨h.1.trans (bel.mono h.1.size),fun _=>⟨_,h12,h.1.size,own⟩,fun q=>?_,fun q=>?_⟩
  · rw [upd_old fl rfl,f17] at q;cases q
  · rw [upd_old fl rfl] at q
    obtain ⟨ge,e1,e2,e3⟩:=h.2.2.2 q
    refine ⟨ge,by rw [h3];exact e1,e2,?_⟩
    rw [upd_old fl rfl]
    rcases e3 with ⟨_,e3⟩ | ⟨e,_⟩
    · exact .inl ⟨f19,brow bel e3⟩
    · rw [f19] at e;cases e
theorem S5.build (h:S5 w0 n f k tv fu fl u w) (f19:fl 19=false) (h21:u' 21=.agg (oc k (u 12) tv fu)) (h12:u' 12=u 12) (h3:u' 3=u 3):S5 w0 n f k tv fu (upd fl 17) u' w:=by
  refine ⟨h.1,fun q=>?_,fun _=>by rw [h21,h12],fun q=>?_⟩
  · rw [upd_old fl rfl] at q;rw [h12];exact h.2.1 q
  · rw [upd_old fl rfl] at q
    obtain ⟨ge,e1,e2,e3⟩:=h.2.2.2 q
    refine ⟨ge,by rw [h3];exact e1,e2,?_⟩
    rw [upd_old fl rfl,h12];exact e3
theorem S5.alloc (h:S5 w0 n f k tv fu fl u w) (f19:fl 19=false) (h3:u' 3=.pointer (some ⟨w.heap.size,0,none⟩)) (h12:u' 12=u 12) (h21:u' 21=u 21):
    S5 w0 n f k tv fu (upd fl 18) u' (w.alloc (.cells #[.int .i8 0,.int .u64 0,.slice none 0 0,.slice none 0 0,.int .i64 0] 33)):=by
  have bel:Below w.heap.size w (w.alloc (.cells #[.int .i8 0,.int .u64 0,.slice none 0 0,.slice none 0 0,.int .i64 0] 33)):=below_new (Below.refl _ _) _
  refine ⟨h.1.trans (bel.mono h.1.size),fun q=>?_,fun q=>?_,fun _=>⟨w.heap.size,h3,h.1.size,.inl ⟨by rw [upd_old fl rfl];exact f19,heap_last w _ _ rfl⟩⟩⟩
  · rw [upd_old fl rfl] at q
    obtain ⟨g,e1,e2,e3⟩:=h.2.1 q
    exact ⟨g,by rw [h12];exact e1,e2,e3.of_block (bel.block _ e3.lt)⟩
  · rw [upd_old fl rfl] at q;rw [h12,h21];exact h.2.2.1 q
theorem S5.store (h:S5 w0 n f k tv fu fl u w) (f8:fl 8=true) (f18:fl 18=true) {ge:Nat} (h3:u 3=.pointer (some ⟨ge,0,none⟩)) (st:Stored w ge (oc k (u 12) tv fu) 33 w'):S5 w0 n f k tv fu (upd fl 19) u w':=by
  obtain ⟨g2,e1,e2,e3⟩:=h.2.2.2 f18
  rw [h3] at e1
  obtain rfl:ge=g2:=by simpa using e1
  have hrow:∃ c,w.heap[ge]?=some (.cells c 33 (0,0)):=by
    rcases e3 with ⟨_,e3⟩ | ⟨_,e3⟩
    · exact ⟨_,e3⟩
    · exact ⟨_,e3⟩
  obtain ⟨c,hrow⟩:=hrow
  refine ⟨st.below h.1 e2,fun q=>?_,fun q=>?_,fun q=>⟨ge,h3,e2,.inr ⟨upd_new _ _,st.row⟩⟩⟩
  · obtain ⟨g,q1,q2,q3⟩:=h.2.1 f8
    refine ⟨g,q1,q2,q3.of_block (st.other g (fun e=>?_))⟩
    subst e
    obtain ⟨c9,r1,_,_⟩:=q3
    exact row_ne r1 hrow (by decide) rfl
  · rw [upd_old fl rfl] at q;exact h.2.2.1 q
end
theorem ev_value {w:World} {β:Nat}:∀ (ps:List (Trc.Ev × Value)),(∀ p ∈ ps,w.ownsRow β 30 1 p.2 p.1.args.length (p.1.args.map (.int .u64))) →
    ∃ qs:List (Trc.Ev × (Option Addr × Nat)),qs.map (·.1)=ps.map (·.1) ∧ cellsE qs=cellsV ps ∧ ∀ q ∈ qs,WordsAt w q.2.1 q.1.args.length q.2.2 q.1.args
  | [],_=>⟨[],rfl,rfl,fun q h=>by cases h⟩
  | p :: l,h=>by
    obtain ⟨qs,h1,h2,h3⟩:=ev_value l (fun q hq=>h q (List.mem_cons_of_mem _ hq))
    have hp:=h p List.mem_cons_self
    obtain ⟨a,c,e⟩:∃ a c,p.2=.slice a p.1.args.length c:=by
      rcases hp.2 with ⟨e1,e2⟩ | ⟨g,cap,cur,e1,_⟩
      · exact ⟨none,0,by rw [e1,e2]⟩
      · exact ⟨_,cap,e1⟩
    rw [e] at hp
    refine ⟨(p.1,(a,c)) :: qs,by rw [List.map_cons,List.map_cons,h1],?_,fun q hq=>?_⟩
    · show cellE p.1 a c ++ cellsE qs=_ ++ cellsV l
      rw [h2,e];rfl
    · rcases List.mem_cons.1 hq with rfl | hq
      · show WordsAt w a p.1.args.length c p.1.args
        rcases hp.2 with ⟨e1,e2⟩ | ⟨g,cap,cur,e1,e2,e3,e4,e5,e6,e7⟩
        · injection e1 with i1 i2 i3
          subst i1 i3
          exact ⟨rfl,by rw [i2];exact Nat.le_refl _,by omega,fun h=>absurd h (by omega),fun _=>rfl⟩
        · injection e1 with i1 i2 i3
          subst i1 i3
          refine ⟨rfl,e4,by unfold maxLen at e5;omega,fun _=>⟨g,0,rfl,fun j z hz=>?_⟩,fun h=>by cases h⟩
          have hl:=(List.getElem?_eq_some_iff.1 hz).1
          have:(p.1.args.map (Value.int .u64))[j]?=some (.int .u64 z):=by rw [List.getElem?_map,hz];rfl
          rw [← e7,List.getElem?_take_of_lt (by omega),Array.getElem?_toList] at this
          simp only [World.cell?,e3,Nat.zero_add]
          rw [this];rfl
      · exact h3 q hq
theorem TrR.evs {β:Nat} {w:World} {tv:Value} {es:List Trc.Ev} (h:TrR β w tv es):∃ a cap,tv=.slice a es.length cap ∧ EvsAt w a es.length cap es:=by
  obtain ⟨ps,h1,h2,h3⟩:=h
  obtain ⟨qs,q1,q2,q3⟩:=ev_value ps h3
  have hl:qs.length=es.length:=by
    have:=congrArg List.length (q1.trans h1)
    rwa [List.length_map] at this
  rw [← q2] at h2
  have e0:qs.map (·.1)=es:=q1.trans h1
  rcases h2.2 with ⟨rfl,h0⟩ | ⟨g,cap,cur,rfl,e2,e3,e4,e5,e6,e7⟩
  · exact ⟨none,0,by rw [h0],by rw [h0];exact ⟨by omega,Nat.le_refl _,by omega,fun h=>absurd h (by omega),fun _=>rfl⟩⟩
  · refine ⟨_,cap,rfl,⟨rfl,e4,by unfold maxLen at e5;omega,fun _=>⟨g,0,rfl,fun i x hx=>?_⟩,fun h=>by cases h⟩⟩
    rw [← e0,List.getElem?_map] at hx
    cases hq:qs[i]? with
    | none=>rw [hq] at hx;cases hx
    | some q=>
      rw [hq] at hx
      obtain rfl:q.1=x:=by simpa using hx
      refine ⟨q.2.1,q.2.2,?_,q3 q (List.mem_of_getElem? hq)⟩
      intro k u hu
      have hk:k < 3:=(List.getElem?_eq_some_iff.1 hu).1
      have hi:i < qs.length:=(List.getElem?_eq_some_iff.1 hq).1
      have h1:=cellsE_get hq hk
      rw [← e7,List.getElem?_take_of_lt (by omega),Array.getElem?_toList] at h1
      simp only [World.cell?,e3,Nat.zero_add]
      rw [h1];exact hu
theorem ctx_bytes {w:World} {h n:Nat} {f:Nat → Int} (hr:w.rowIs h 5 n (fun i=>.int .u8 (f i))) (hn:n ≤ 256) (hb:∀ i,0 ≤ f i ∧ f i < 256):BytesAt w (some ⟨h,0,none⟩) n n ((List.range n).map f):=by
  refine ⟨by simp,Nat.le_refl _,by omega,fun _=>⟨h,0,rfl,fun j z hz=>?_⟩,fun z hz=>?_,fun h=>by cases h⟩
  · have hj:j < n:=by have:=(List.getElem?_eq_some_iff.1 hz).1;simpa using this
    rw [List.getElem?_map,List.getElem?_range hj] at hz
    obtain rfl:f j=z:=by simpa using hz
    rw [Nat.zero_add];exact hr.cell hj
  · obtain ⟨i,_,rfl⟩:=List.mem_map.1 hz
    exact hb i
theorem ctxL_len (S:MemS):(ctxL S).length=S.n:=by simp [ctxL]
theorem outV_of (D:Pl) (r0:Int) (h:(if D.fin=1 then D.r 0 else 0)=r0) (hc:Nat) (ta:Option Addr) (tc:Nat):(.agg #[.int .i8 D.fin,.int .u64 r0,.slice (some ⟨hc,0,none⟩) D.mem.n D.mem.n,.slice ta D.evs.length tc,.int .i64 D.fuel]:Value)=outV D.out (some ⟨hc,0,none⟩) D.mem.n ta tc:=by
  subst h
  show _=Value.agg #[_,_,.slice _ (ctxL D.mem).length _,_,_]
  rw [ctxL_len];rfl
theorem outAt_of {D:Pl} {w:World} {ca ta:Option Addr} {tc:Nat} (h:BytesAt w ca D.mem.n D.mem.n (ctxL D.mem)) (hev:EvsAt w ta D.evs.length tc D.evs):OutAt w D.out ca D.mem.n ta tc:=
  ⟨by show BytesAt w _ (ctxL D.mem).length _ (ctxL D.mem);rw [ctxL_len];exact h,hev⟩
theorem _root_.Go.Proofs.YtigliofiojkhcaaGreat.Trn.belowG {G:List Nat} {w w':World} (t:Trn G w w') (h:∀ k ∈ G,w.heap.size ≤ k):Below w.heap.size w w':=
  ⟨t.os,t.tape,t.output,t.size,fun k hk=>t.block k hk (fun hm=>Nat.lt_irrefl _ (Nat.lt_of_lt_of_le hk (h k hm)))⟩
theorem TrR.far {β:Nat} {w w':World} {G:List Nat} {tv:Value} {es:List Trc.Ev} (h:TrR β w tv es) (t:Trn G w w') (hG:∀ g ∈ G,g < β ∨ w.heap.size ≤ g ∨ ∃ o,w.heap[g]?=some o ∧ o.isCells=false):TrR β w' tv es:=by
  obtain ⟨ps,h1,h2,h3⟩:=h
  have k:∀ {v:Value} {n k:Nat} {e:TypeId} {xs:List Value},w.ownsRow β e k v n xs → ∀ j,v.ownBlock=some j → j ∉ G:=fun h j hj hm=>by
    have h1:=World.ownsRow.lt h j hj
    rcases hG j hm with h2 | h2 | ⟨o,h2,h3⟩
    · omega
    · omega
    · rcases h.2 with ⟨rfl,_⟩ | ⟨g,cap,cur,rfl,e2,e3,_⟩
      · cases hj
      · injection hj with hj
        subst hj
        rw [e3] at h2
        injection h2 with h2
        subst h2
        simp [Obj.isCells] at h3
  exact ⟨ps,h1,own_trn h2 t (k h2),fun p hp=>own_trn (h3 p hp) t (k (h3 p hp))⟩
theorem TrR.evs2 {β:Nat} {w:World} {ta:Option Addr} {n tc:Nat} {es:List Trc.Ev} (h:TrR β w (.slice ta n tc) es):EvsAt w ta es.length tc es:=by
  obtain ⟨a,cap,e,h2⟩:=h.evs
  injection e with e1 _ e3
  subst e1 e3
  exact h2
theorem out_fin {E:Env} {D:Pl} {W w2 w7:World} {hx9 g1 ge:Nat} {ta:Option Addr} {tc:Nat} (R:Rel E D W) (hT:TrR E.β W (.slice ta D.evs.length tc) D.evs) (rc:w2.rowIs hx9 5 D.mem.n (fun i=>.int .u8 (D.mem.g (1 + i)))) (lc:W.heap.size ≤ hx9)
    (mc:Trn [g1,ge] w2 w7) (k:Trn [g1,ge] W w7) (Wg:∀ k ∈ [g1,ge],W.heap.size ≤ k) (nhg:hx9 ∉ [g1,ge]) (G:List Nat) (w6:World) (hG:∀ g ∈ G,g < E.β ∨ ∃ o,W.heap[g]?=some o ∧ o.isCells=false) (t:Trn G w7 w6):OutAt w6 D.out (some ⟨hx9,0,none⟩) D.mem.n ta tc:=by
  have hbb:=R.mm.at_.bytes
  have far:=R.far.2.2
  have lt7:=Nat.lt_of_lt_of_le rc.lt mc.size
  have k2:Trn ([g1,ge] ++ G) W w6:=(k.weak (fun j hj=>List.mem_append_left _ hj)).trans (t.weak (fun j hj=>List.mem_append_right _ hj))
  refine outAt_of (ctx_bytes (rc.of_block ((t.block _ lt7 (fun hm=>?_)).trans (mc.block _ rc.lt nhg))) R.mm.at_.n (fun i=>hbb _)) (hT.far k2 (fun g hg=>?_)).evs2
  · rcases hG _ hm with h | ⟨o,h,_⟩
    · omega
    · have:=(Array.getElem?_eq_some_iff.1 h).1;omega
  · rcases List.mem_append.1 hg with hg | hg
    · exact .inr (.inl (Wg g hg))
    · rcases hG g hg with h | h
      · exact .inl h
      · exact .inr (.inr h)
theorem faMU78_8_0 (g:Nat) (w:World):(Instr.fieldAt 78 (.pointer (some ⟨g,0,none⟩)) 8).run Tryz.prog w=.ok (.pointer (some ⟨g,18,none⟩)) w:=by simp [go_sem]
theorem faMU78_1_0 (g:Nat) (w:World):(Instr.fieldAt 78 (.pointer (some ⟨g,0,none⟩)) 1).run Tryz.prog w=.ok (.pointer (some ⟨g,1,none⟩)) w:=by simp [go_sem]
theorem faMU78_7_0 (g:Nat) (w:World):(Instr.fieldAt 78 (.pointer (some ⟨g,0,none⟩)) 7).run Tryz.prog w=.ok (.pointer (some ⟨g,17,none⟩)) w:=by simp [go_sem]
theorem faMU78_5_0 (g:Nat) (w:World):(Instr.fieldAt 78 (.pointer (some ⟨g,0,none⟩)) 5).run Tryz.prog w=.ok (.pointer (some ⟨g,15,none⟩)) w:=by simp [go_sem]
theorem faMU78_2_0 (g:Nat) (w:World):(Instr.fieldAt 78 (.pointer (some ⟨g,0,none⟩)) 2).run Tryz.prog w=.ok (.pointer (some ⟨g,2,none⟩)) w:=by simp [go_sem]
theorem faMU33_1_0 (g:Nat) (w:World):(Instr.fieldAt 33 (.pointer (some ⟨g,0,none⟩)) 1).run Tryz.prog w=.ok (.pointer (some ⟨g,1,none⟩)) w:=by simp [go_sem]
set_option maxHeartbeats 8000000 in
theorem outcome_any (E:Env) (D:Pl) (W:World) (R:Rel E D W):
    Calls Tryz.prog 16 #[.pointer (some ⟨E.g,0,none⟩)] W fun e w'=>∃ ca cc ta tc,e=.returned (outV D.out ca cc ta tc) ∧ (∀ (G:List Nat) (w6:World),(∀ g ∈ G,g < E.β ∨ ∃ o,W.heap[g]?=some o ∧ o.isCells=false) → Trn G w' w6 → OutAt w6 D.out ca cc ta tc) ∧ Below W.heap.size W w':=by
  have mo:Tryz.prog.follows .mixedOrders=true:=by kernel_rfl
  obtain ⟨av,tv,hin,hA,hT⟩:=R.st
  obtain ⟨ta,tc,rfl,hev⟩:=hT.evs
  have hg0:W.heap[E.g]?=some (.cells #[.slice (some ⟨E.pa,E.po,none⟩) E.pl E.pc,.pointer (some ⟨E.b,0,none⟩),.int .u64 (D.r 0),.int .u64 (D.r 1),.int .u64 (D.r 2),.int .u64 (D.r 3),.int .u64 (D.r 4),.int .u64 (D.r 5),.int .u64 (D.r 6),.int .u64 (D.r 7),.int .u64 (D.r 8),.int .u64 (D.r 9),.int .u64 (D.r 10),.int .i64 D.set,.int .i64 D.at_,.int .i64 D.fuel,av,.slice ta D.evs.length tc,.int .i8 D.fin] 78 (0,0)):=hin
  have hM:=R.mm
  have hbb:=hM.at_.bytes
  have hnn:=hM.at_.n
  have CTX:=fun W h=>context_any D.mem E.b W h
  clear hA hin
  refine calls_abs Tryz.func16 rfl (Nat.le_of_ble_eq_true rfl) ?_
  intro a0 d0 z0 h0
  replace z0:a0.tmps.size=34:=z0
  have k0:Trn [] W W:=Trn.refl W
  have s0_0:a0.tmps.getD 0 undef=.pointer (some ⟨E.g,0,none⟩):=h0 0 (Nat.le_of_ble_eq_true rfl)
  refine wp_seq ?_
  refine go_reg [] [⟨0,2,33,#[.int .i8 0,.int .u64 0,.slice none 0 0,.slice none 0 0,.int .i64 0],none,#[]⟩] [none] mo d0 z0 (Below.refl _ _) (by kernel_rfl) trivial (
   hk (fun cx=>cx.al (wn rfl) 0 rfl (by simp [execOp,Act.eval,go_sem]) rfl rfl rfl rfl rfl trivial) <|
   hn) ?_
  intro a1 w1 f1
  obtain ⟨g1,u_g1,q_g1,b_g1⟩:=f1.al.1
  have k1:=k0.trans (f1.trn (Below.refl _ _) trivial)
  refine wp_seq ?_
  have b_E.g_1:=f1.k hg0
  have rg1:w1.heap[E.g]?=some (.cells #[.slice (some ⟨E.pa,E.po,none⟩) E.pl E.pc,.pointer (some ⟨E.b,0,none⟩),.int .u64 (D.r 0),.int .u64 (D.r 1),.int .u64 (D.r 2),.int .u64 (D.r 3),.int .u64 (D.r 4),.int .u64 (D.r 5),.int .u64 (D.r 6),.int .u64 (D.r 7),.int .u64 (D.r 8),.int .u64 (D.r 9),.int .u64 (D.r 10),.int .i64 D.set,.int .i64 D.at_,.int .i64 D.fuel,av,.slice ta D.evs.length tc,.int .i8 D.fin] 78 (0,0)):=b_E.g_1
  have hM1:=Mem.trn hM k1 (fun j hj=>by cases hj)
  have s0_2:=f1.q 0 s0_0
  refine go_regz (S5 w1 D.mem.n (fun i=>.int .u8 (D.mem.g (1 + i))) D.fin (.slice ta D.evs.length tc) D.fuel) [8,17,18,19] [12,21,3] [some (.pointer (some ⟨E.g,0,none⟩)),some (.pointer (some ⟨E.g,0,none⟩)),some (.pointer (some ⟨E.g,18,none⟩)),some (.int .i8 D.fin),some (.pointer (some ⟨E.g,0,none⟩)),some (.pointer (some ⟨E.g,0,none⟩)),some (.pointer (some ⟨E.g,1,none⟩)),some (.pointer (some ⟨E.b,0,none⟩)),none,some (.pointer (some ⟨E.g,0,none⟩)),some (.pointer (some ⟨E.g,0,none⟩)),some (.pointer (some ⟨E.g,17,none⟩)),some (.slice ta D.evs.length tc),some (.pointer (some ⟨E.g,0,none⟩)),some (.pointer (some ⟨E.g,0,none⟩)),some (.pointer (some ⟨E.g,15,none⟩)),some (.int .i64 D.fuel),none,none,none] mo S5.loc f1.d f1.z (by kernel_rfl) (fun fl w1 hfl b _=>S5.start b (hfl 8 (by decide)) (hfl 17 (by decide)) (hfl 18 (by decide))) (
   zc (@fun fl ax wx cx=>cx.v (ex_mv rfl (cx.rq 0 s0_2)) rfl rfl) <|
   zc (@fun fl ax wx cx=>cx.v (ex_nc rfl (cx.u 0 rfl)) rfl rfl) <|
   zc (@fun fl ax wx cx=>cx.v (ex_fa rfl (cx.u 0 rfl) (faMU78_8_0 _ _)) rfl rfl) <|
   zc (@fun fl ax wx cx=>cx.v (ex_ld rfl (cx.u 0 rfl) (brow cx.S.1 rg1) rfl Tryz.isAgg29) rfl rfl) <|
   zc (@fun fl ax wx cx=>cx.v (ex_mv rfl (cx.rq 0 s0_2)) rfl rfl) <|
   zc (@fun fl ax wx cx=>cx.v (ex_nc rfl (cx.u 0 rfl)) rfl rfl) <|
   zc (@fun fl ax wx cx=>cx.v (ex_fa rfl (cx.u 0 rfl) (faMU78_1_0 _ _)) rfl rfl) <|
   zc (@fun fl ax wx cx=>cx.v (ex_ld rfl (cx.u 0 rfl) (brow cx.S.1 rg1) rfl Tryz.isAgg72) rfl rfl) <|
   zc (@fun fl ax wx cx=>cx.ct rfl rfl (args1 (cx.u 0 rfl)) Tryz.func39 (by decide +kernel) rfl rfl ((CTX wx (hM1.at_.below cx.S.1)).mono (by
       rintro e w' ⟨rfl,bel,own⟩
       exact ⟨_,rfl,trivial,S5.ctx cx.S (cx.later 17 (by kernel_rfl)) (cx.later 19 (by kernel_rfl)) bel own (slot_new cx.sz rfl) (slot_old rfl)⟩))) <|
   zc (@fun fl ax wx cx=>cx.v (ex_mv rfl (cx.rq 0 s0_2)) rfl rfl) <|
   zc (@fun fl ax wx cx=>cx.v (ex_nc rfl (cx.u 0 rfl)) rfl rfl) <|
   zc (@fun fl ax wx cx=>cx.v (ex_fa rfl (cx.u 0 rfl) (faMU78_7_0 _ _)) rfl rfl) <|
   zc (@fun fl ax wx cx=>cx.v (ex_ld rfl (cx.u 0 rfl) (brow cx.S.1 rg1) rfl Tryz.isAgg31) rfl rfl) <|
   zc (@fun fl ax wx cx=>cx.v (ex_mv rfl (cx.rq 0 s0_2)) rfl rfl) <|
   zc (@fun fl ax wx cx=>cx.v (ex_nc rfl (cx.u 0 rfl)) rfl rfl) <|
   zc (@fun fl ax wx cx=>cx.v (ex_fa rfl (cx.u 0 rfl) (faMU78_5_0 _ _)) rfl rfl) <|
   zc (@fun fl ax wx cx=>cx.v (ex_ld rfl (cx.u 0 rfl) (brow cx.S.1 rg1) rfl Tryz.isAgg3) rfl rfl) <|
   zc (@fun fl ax wx cx=>(by
       obtain ⟨h,e12,_,_⟩:=cx.S.2.1 (cx.did 1 rfl rfl)
       exact cx.vt (v:=.agg (oc D.fin (slotOf ax 12) (.slice ta D.evs.length tc) D.fuel)) rfl (by rw [e12];exact exec_build (cx.is rfl) (parts4 (cx.u 0 rfl) e12 (cx.u 2 rfl) (cx.u 3 rfl)) (by kernel_rfl)) rfl rfl trivial (S5.build cx.S (cx.later 19 (by kernel_rfl)) (slot_new cx.sz rfl) (slot_old rfl) (slot_old rfl)))) <|
   zc (@fun fl ax wx cx=>cx.vt rfl (by simp [execOp,Act.eval,go_sem]) rfl rfl trivial (S5.alloc cx.S (cx.later 19 (by kernel_rfl)) (slot_new cx.sz rfl) (slot_old rfl) (slot_old rfl))) <|
   zc (@fun fl ax wx cx=>(by
       obtain ⟨ge,e1,e2,e3⟩:=cx.S.2.2.2 (cx.did 0 rfl rfl)
       have h21:=cx.S.2.2.1 (cx.did 1 rfl rfl)
       have e3':wx.heap[ge]?=some (.cells #[.int .i8 0,.int .u64 0,.slice none 0 0,.slice none 0 0,.int .i64 0] 33 (0,0)):=by
        rcases e3 with ⟨_,e3⟩ | ⟨e,_⟩
        · exact e3
        · rw [cx.fi] at e;cases e
       exact cx.st rfl (exec_storeR 33 (.tmp 3) (.tmp 21) rfl ge _ e1 h21 e3' (by kernel_rfl) rfl (by obtain ⟨hh,e12,_,_⟩:=cx.S.2.1 (cx.did 2 rfl rfl);simp [Value.oneCell',oc,e12])) rfl trivial (S5.store cx.S (cx.did 2 rfl rfl) (cx.did 0 rfl rfl) e1 (stored_setRow _ _ _ _ _ e3')))) <|
   zn) ?_
  intro a2 w2 f2
  obtain ⟨fl1,hf1,hs1⟩:=f2.s
  obtain ⟨hx9,e12,lc,rc⟩:=hs1.2.1 (hf1 8 (by decide))
  obtain ⟨ge,uge,lge,rge⟩:=hs1.2.2.2 (hf1 18 (by decide))
  have bge:w2.heap[ge]?=some (.cells (oc D.fin (.slice (some ⟨hx9,0,none⟩) D.mem.n D.mem.n) (.slice ta D.evs.length tc) D.fuel) 33 (0,0)):=by
    rcases rge with ⟨e,_⟩ | ⟨_,e⟩
    · rw [hf1 19 (by decide)] at e;cases e
    · rw [e12] at e;exact e
  have s3_1:a2.tmps.getD 3 undef=.pointer (some ⟨ge,0,none⟩):=uge
  have kb2:=k1.trans (Trn.of_below hs1.1)
  have kz2:Trn [g1,ge] W w2:=kb2.weak (fun k hk=>by cases hk)
  have rg2:=brow hs1.1 rg1
  have nge:ge ≠ E.g:=fun e=>by rw [e,rg2] at bge;simp at bge
  have rb2:=brow hs1.1 b_g1
  have neg:ge ≠ g1:=fun e=>by have:=(Array.getElem?_eq_some_iff.1 b_g1).1;omega
  have nhg:hx9 ∉ [g1,ge]:=by
    obtain ⟨c9,r9,_,_⟩:=rc
    simp only [List.mem_cons,List.not_mem_nil,or_false,not_or]
    exact ⟨row_ne r9 rb2 (by decide),row_ne r9 bge (by decide)⟩
  have Wg:∀ k ∈ [g1,ge],W.heap.size ≤ k:=by
    intro k hk
    simp only [List.mem_cons,List.not_mem_nil,or_false] at hk
    rcases hk with rfl | rfl
    · exact q_g1
    · exact Nat.le_trans k1.size lge
  refine wp_seq ?_
  refine wp_seq ?_
  cases fk1:D.fin == 1
  case false=>
   have Ffk1:=Lib.hid fk1;clear fk1
   have s0_3:=f2.q 0 s0_2
   refine go_reg [bx E.g 78 #[.slice (some ⟨E.pa,E.po,none⟩) E.pl E.pc,.pointer (some ⟨E.b,0,none⟩),.int .u64 (D.r 0),.int .u64 (D.r 1),.int .u64 (D.r 2),.int .u64 (D.r 3),.int .u64 (D.r 4),.int .u64 (D.r 5),.int .u64 (D.r 6),.int .u64 (D.r 7),.int .u64 (D.r 8),.int .u64 (D.r 9),.int .u64 (D.r 10),.int .i64 D.set,.int .i64 D.at_,.int .i64 D.fuel,av,.slice ta D.evs.length tc,.int .i8 D.fin]] [] [some (pt E.g 0),some (pt E.g 0),some (pt E.g 18),some (.int .i8 D.fin),some (.bool false)] mo f2.d f2.z (bare_of kz2) (by kernel_rfl) ⟨rg2,trivial⟩ (
    hk (fun cx=>cx.v (ex_mv rfl (cx.rq 0 s0_3)) rfl rfl) <|
    hk (fun cx=>cx.v (ex_nc rfl (cx.u 0 rfl)) rfl rfl) <|
    hk (fun cx=>cx.v (ex_fa rfl (cx.u 0 rfl) (faMU78_8_0 _ _)) rfl rfl) <|
    hk (fun cx=>cx.v (ex_ld rfl (cx.u 0 rfl) (cx.rn 0 rfl) rfl Tryz.isAgg29) rfl rfl) <|
    hk (fun cx=>cx.v (ex_eq (x:=.tmp 25) rfl (cx.u 0 rfl) rfl) rfl (congrArg Value.bool Ffk1.out)) <|
    hn) ?_
   intro a3 w3 f3
   have k3:=kz2.trans (f3.trn (bare_of kz2) ⟨.inl rfl,trivial⟩)
   have mc3:=(Trn.refl w2 (G:=[g1,ge])).trans (f3.trn (bare_of kz2) ⟨.inl rfl,trivial⟩)
   refine wp_cond_false (f3.v 4 rfl rfl rfl) ?_
   refine wp_skip ?_
   refine wp_seq ?_
   have b_ge_4:=f3.k bge
   have b_g1_5:=f3.k rb2
   have s3_6:=f3.q 3 s3_1
   have s2_7:=f3.q 2 (f2.q 2 u_g1)
   refine go_reg [bx ge 33 #[.int .i8 D.fin,.int .u64 0,.slice (some ⟨hx9,0,none⟩) D.mem.n D.mem.n,.slice ta D.evs.length tc,.int .i64 D.fuel],⟨g1,33,#[.int .i8 0,.int .u64 0,.slice none 0 0,.slice none 0 0,.int .i64 0],some 1,#[.int .i8 D.fin,.int .u64 0,.slice (some ⟨hx9,0,none⟩) D.mem.n D.mem.n,.slice ta D.evs.length tc,.int .i64 D.fuel]⟩] [] [some (.agg #[.int .i8 D.fin,.int .u64 0,.slice (some ⟨hx9,0,none⟩) D.mem.n D.mem.n,.slice ta D.evs.length tc,.int .i64 D.fuel]),none] mo f3.d f3.z (bare_of k3) (by kernel_rfl) ⟨b_ge_4,b_g1_5,trivial⟩ (
    hk (fun cx=>cx.v (exec_loadR 33 _ rfl ge 0 (cx.rq 3 s3_6) (cx.rn 0 rfl) [.int .i8 D.fin,.int .u64 0,.slice (some ⟨hx9,0,none⟩) D.mem.n D.mem.n,.slice ta D.evs.length tc,.int .i64 D.fuel] rfl _ Tryz.underlying33 rfl (by kernel_rfl)) rfl rfl) <|
    hk (fun cx=>cx.stR (wn rfl) rfl rfl 1 rfl (cx.rq 2 s2_7) (cx.u 0 rfl) (by kernel_rfl) rfl (by simp [Value.oneCell']) (Nat.zero_le _) rfl ⟨neg,trivial⟩ trivial) <|
    hn) ?_
   intro a4 w4 f4
   have k4:=k3.trans (f4.trn (bare_of k3) ⟨.inl rfl,.inr (by simp),trivial⟩)
   have mc4:=mc3.trans (f4.trn (bare_of k3) ⟨.inl rfl,.inr (by simp),trivial⟩)
   refine wp_ret ?_
   have s2_8:=f4.q 2 s2_7
   try simp only [Exit.inBlock,Exit.then]
   refine bodyPost_ret (res_c (fn:=Tryz.f16) rfl s2_8 (load_row 33 f4.rows.2.1 Tryz.underlying33 rfl (by kernel_rfl))) f4.d ?_
   exact ⟨_,_,_,_,congrArg Ending.returned (outV_of D _ (by rw [if_neg (by simpa using Ffk1.out)]) hx9 ta tc),out_fin R hT rc (Nat.le_trans k1.size lc) mc4 k4 Wg nhg,k4.belowG Wg⟩
  have Ffk1:=Lib.hid fk1;clear fk1
  have s0_9:=f2.q 0 s0_2
  refine go_reg [bx E.g 78 #[.slice (some ⟨E.pa,E.po,none⟩) E.pl E.pc,.pointer (some ⟨E.b,0,none⟩),.int .u64 (D.r 0),.int .u64 (D.r 1),.int .u64 (D.r 2),.int .u64 (D.r 3),.int .u64 (D.r 4),.int .u64 (D.r 5),.int .u64 (D.r 6),.int .u64 (D.r 7),.int .u64 (D.r 8),.int .u64 (D.r 9),.int .u64 (D.r 10),.int .i64 D.set,.int .i64 D.at_,.int .i64 D.fuel,av,.slice ta D.evs.length tc,.int .i8 D.fin]] [] [some (pt E.g 0),some (pt E.g 0),some (pt E.g 18),some (.int .i8 D.fin),some (.bool true)] mo f2.d f2.z (bare_of kz2) (by kernel_rfl) ⟨rg2,trivial⟩ (
   hk (fun cx=>cx.v (ex_mv rfl (cx.rq 0 s0_9)) rfl rfl) <|
   hk (fun cx=>cx.v (ex_nc rfl (cx.u 0 rfl)) rfl rfl) <|
   hk (fun cx=>cx.v (ex_fa rfl (cx.u 0 rfl) (faMU78_8_0 _ _)) rfl rfl) <|
   hk (fun cx=>cx.v (ex_ld rfl (cx.u 0 rfl) (cx.rn 0 rfl) rfl Tryz.isAgg29) rfl rfl) <|
   hk (fun cx=>cx.v (ex_eq (x:=.tmp 25) rfl (cx.u 0 rfl) rfl) rfl (congrArg Value.bool Ffk1.out)) <|
   hn) ?_
  intro a5 w5 f5
  have k5:=kz2.trans (f5.trn (bare_of kz2) ⟨.inl rfl,trivial⟩)
  have mc5:=(Trn.refl w2 (G:=[g1,ge])).trans (f5.trn (bare_of kz2) ⟨.inl rfl,trivial⟩)
  refine wp_cond_true (f5.v 4 rfl rfl rfl) ?_
  have b_E.g_10:=f5.k rg2
  have b_ge_11:=f5.k bge
  have s0_12:=f5.q 0 s0_9
  have s3_13:=f5.q 3 s3_1
  refine go_reg [bx E.g 78 #[.slice (some ⟨E.pa,E.po,none⟩) E.pl E.pc,.pointer (some ⟨E.b,0,none⟩),.int .u64 (D.r 0),.int .u64 (D.r 1),.int .u64 (D.r 2),.int .u64 (D.r 3),.int .u64 (D.r 4),.int .u64 (D.r 5),.int .u64 (D.r 6),.int .u64 (D.r 7),.int .u64 (D.r 8),.int .u64 (D.r 9),.int .u64 (D.r 10),.int .i64 D.set,.int .i64 D.at_,.int .i64 D.fuel,av,.slice ta D.evs.length tc,.int .i8 D.fin],⟨ge,33,#[.int .i8 D.fin,.int .u64 0,.slice (some ⟨hx9,0,none⟩) D.mem.n D.mem.n,.slice ta D.evs.length tc,.int .i64 D.fuel],some 6,#[.int .i8 D.fin,.int .u64 (D.r 0),.slice (some ⟨hx9,0,none⟩) D.mem.n D.mem.n,.slice ta D.evs.length tc,.int .i64 D.fuel]⟩] [] [some (pt E.g 0),some (pt E.g 0),some (pt E.g 2),some (pt E.g 2),some (.int .u64 (D.r 0)),some (pt ge 1),none] mo f5.d f5.z (bare_of k5) (by kernel_rfl) ⟨b_E.g_10,b_ge_11,trivial⟩ (
   hk (fun cx=>cx.v (ex_mv rfl (cx.rq 0 s0_12)) rfl rfl) <|
   hk (fun cx=>cx.v (ex_nc rfl (cx.u 0 rfl)) rfl rfl) <|
   hk (fun cx=>cx.v (ex_fa rfl (cx.u 0 rfl) (faMU78_2_0 _ _)) rfl rfl) <|
   hc (fun _ ax _ cx=>cx.v ((by simp [execOp,Act.eval,(show ax.tmps.getD 29 undef=.pointer (some ⟨E.g,2,none⟩) from (cx.u 0 rfl)),go_sem])) rfl rfl) <|
   hk (fun cx=>cx.v (ex_ld rfl (cx.u 0 rfl) (cx.rn 0 rfl) rfl Tryz.isAgg30) rfl rfl) <|
   hk (fun cx=>cx.v (ex_fa rfl (cx.rq 3 s3_13) (faMU33_1_0 _ _)) rfl rfl) <|
   hk (fun cx=>cx.stC (wn rfl) rfl rfl 1 rfl (cx.u 0 rfl) (cx.u 1 rfl) rfl rfl (by kernel_rfl) rfl rfl (Nat.zero_le _) rfl ⟨nge.symm,trivial⟩ trivial) <|
   hn) ?_
  intro a6 w6 f6
  have k6:=k5.trans (f6.trn (bare_of k5) ⟨.inl rfl,.inr (by simp),trivial⟩)
  have mc6:=mc5.trans (f6.trn (bare_of k5) ⟨.inl rfl,.inr (by simp),trivial⟩)
  refine wp_seq ?_
  have b_g1_14:=f6.kp (f5.k rb2) ⟨.inl rfl,.inr neg.symm,trivial⟩
  have s3_15:=f6.q 3 s3_13
  have s2_16:=f6.q 2 (f5.q 2 (f2.q 2 u_g1))
  refine go_reg [bx ge 33 #[.int .i8 D.fin,.int .u64 (D.r 0),.slice (some ⟨hx9,0,none⟩) D.mem.n D.mem.n,.slice ta D.evs.length tc,.int .i64 D.fuel],⟨g1,33,#[.int .i8 0,.int .u64 0,.slice none 0 0,.slice none 0 0,.int .i64 0],some 1,#[.int .i8 D.fin,.int .u64 (D.r 0),.slice (some ⟨hx9,0,none⟩) D.mem.n D.mem.n,.slice ta D.evs.length tc,.int .i64 D.fuel]⟩] [] [some (.agg #[.int .i8 D.fin,.int .u64 (D.r 0),.slice (some ⟨hx9,0,none⟩) D.mem.n D.mem.n,.slice ta D.evs.length tc,.int .i64 D.fuel]),none] mo f6.d f6.z (bare_of k6) (by kernel_rfl) ⟨f6.rows.2.1,b_g1_14,trivial⟩ (
   hk (fun cx=>cx.v (exec_loadR 33 _ rfl ge 0 (cx.rq 3 s3_15) (cx.rn 0 rfl) [.int .i8 D.fin,.int .u64 (D.r 0),.slice (some ⟨hx9,0,none⟩) D.mem.n D.mem.n,.slice ta D.evs.length tc,.int .i64 D.fuel] rfl _ Tryz.underlying33 rfl (by kernel_rfl)) rfl rfl) <|
   hk (fun cx=>cx.stR (wn rfl) rfl rfl 1 rfl (cx.rq 2 s2_16) (cx.u 0 rfl) (by kernel_rfl) rfl (by simp [Value.oneCell']) (Nat.zero_le _) rfl ⟨neg,trivial⟩ trivial) <|
   hn) ?_
  intro a7 w7 f7
  have k7:=k6.trans (f7.trn (bare_of k6) ⟨.inl rfl,.inr (by simp),trivial⟩)
  have mc7:=mc6.trans (f7.trn (bare_of k6) ⟨.inl rfl,.inr (by simp),trivial⟩)
  refine wp_ret ?_
  have s2_17:=f7.q 2 s2_16
  try simp only [Exit.inBlock,Exit.then]
  refine bodyPost_ret (res_c (fn:=Tryz.f16) rfl s2_17 (load_row 33 f7.rows.2.1 Tryz.underlying33 rfl (by kernel_rfl))) f7.d ?_
  exact ⟨_,_,_,_,congrArg Ending.returned (outV_of D _ (by rw [if_pos (by simpa using Ffk1.out)]) hx9 ta tc),out_fin R hT rc (Nat.le_trans k1.size lc) mc7 k7 Wg nhg,k7.belowG Wg⟩
end Go.Proofs.YtigliofiojkhcaaGreat.Mdl
namespace Go.Proofs.YtigliofiojkhcaaGreat.Mdl
open Go.RowKit Go.Maps Ins Trc
set_option linter.unusedVariables false
set_option linter.unusedSimpArgs false
set_option maxRecDepth 100000
set_option maxHeartbeats 4000000 in
theorem start_chk (c:Int) (pa:Option Addr) (plen pcap:Nat) (x:Nat → In) (ca:Option Addr) (cl cc:Nat) (aa:Option Addr) (al ac:Nat) (fuel:Int) (W:World) (hI:Insts W pa plen pcap x) (hchk:(checkI c plen x).2 ≠ 0):
    Calls Tryz.prog 14 #[.agg #[.int .i64 c,.slice pa plen pcap],.slice ca cl cc,.slice aa al ac,.int .i64 fuel] W fun e w'=>e=.returned (.tuple #[.pointer none,.int .i64 (checkI c plen x).2]) ∧ Below W.heap.size W w':=by
  have CHK:=Lib.hid (fun W h=>check_any c pa plen pcap x W h)
  have HI:=Lib.hid (fun w (h:Below W.heap.size W w)=>hI.below h)
  clear hI
  generalize (checkI c plen x).1=k1 at *
  generalize (checkI c plen x).2=k2 at *
  have e0:(k2 != 0)=true:=by simpa using hchk
  clear hchk
  have bx0:=below_new (Below.refl W.heap.size W) (.cells #[.int .i64 c,.slice pa plen pcap] 24)
  have rw0:=heap_last W (.cells #[.int .i64 c,.slice pa plen pcap] 24) _ rfl
  go_enter Tryz.func14,Tryz.ntmps14
  go_wp2_with fail
  generalize W.alloc (.cells #[.int .i64 c,.slice pa plen pcap] 24)=w0 at *
  refine (CHK.out _ (HI.out _ bx0)).mono ?_
  rintro e w1 ⟨rfl,b1⟩
  have bx1:=bx0.trans (b1.mono bx0.size)
  clear b1
  go_wp2_with fail
  go_ret2
  exact ⟨rfl,by assumption⟩
set_option maxHeartbeats 4000000 in
theorem start_arg (c:Int) (pa:Option Addr) (plen pcap:Nat) (x:Nat → In) (ca:Option Addr) (cl cc:Nat) (aa:Option Addr) (al ac:Nat) (fuel:Int) (W:World) (hI:Insts W pa plen pcap x) (hchk:(checkI c plen x).2=0) (h:¬ ((cl:Int)=c ∧ 0 ≤ fuel ∧ fuel ≤ 10000)):
    Calls Tryz.prog 14 #[.agg #[.int .i64 c,.slice pa plen pcap],.slice ca cl cc,.slice aa al ac,.int .i64 fuel] W fun e w'=>e=.returned (.tuple #[.pointer none,.int .i64 2]) ∧ Below W.heap.size W w':=by
  have CHK:=Lib.hid (fun W h=>check_any c pa plen pcap x W h)
  have HI:=Lib.hid (fun w (h:Below W.heap.size W w)=>hI.below h)
  clear hI
  rw [hchk] at CHK
  generalize (checkI c plen x).1=k1 at *
  clear hchk
  have bx0:=below_new (Below.refl W.heap.size W) (.cells #[.int .i64 c,.slice pa plen pcap] 24)
  have rw0:=heap_last W (.cells #[.int .i64 c,.slice pa plen pcap] 24) _ rfl
  by_cases h1:(cl:Int)=c
  case neg=>
    have e1:((cl:Int) != c)=true:=by simpa using h1
    clear h h1
    go_enter Tryz.func14,Tryz.ntmps14
    go_wp2_with fail
    generalize W.alloc (.cells #[.int .i64 c,.slice pa plen pcap] 24)=w0 at *
    refine (CHK.out _ (HI.out _ bx0)).mono ?_
    rintro e w1 ⟨rfl,b1⟩
    have rw1:=brow b1 rw0
    have bx1:=bx0.trans (b1.mono bx0.size)
    have c0:w1.cell? ⟨W.heap.size,0,none⟩=some (.int .i64 c):=by simp only [World.cell?,rw1];rfl
    clear b1 rw0 bx0
    go_wp2_with fail
    go_ret2
    exact ⟨rfl,by assumption⟩
  by_cases h2:fuel < 0
  case pos=>
    subst h1
    clear h
    go_enter Tryz.func14,Tryz.ntmps14
    go_wp2_with fail
    generalize W.alloc (.cells #[.int .i64 (cl:Int),.slice pa plen pcap] 24)=w0 at *
    refine (CHK.out _ (HI.out _ bx0)).mono ?_
    rintro e w1 ⟨rfl,b1⟩
    have rw1:=brow b1 rw0
    have bx1:=bx0.trans (b1.mono bx0.size)
    have c0:w1.cell? ⟨W.heap.size,0,none⟩=some (.int .i64 cl):=by simp only [World.cell?,rw1];rfl
    clear b1 rw0 bx0
    go_wp2_with fail
    go_ret2
    exact ⟨rfl,by assumption⟩
  have h3:10000 < fuel:=by omega
  subst h1
  clear h
  go_enter Tryz.func14,Tryz.ntmps14
  go_wp2_with fail
  generalize W.alloc (.cells #[.int .i64 (cl:Int),.slice pa plen pcap] 24)=w0 at *
  refine (CHK.out _ (HI.out _ bx0)).mono ?_
  rintro e w1 ⟨rfl,b1⟩
  have rw1:=brow b1 rw0
  have bx1:=bx0.trans (b1.mono bx0.size)
  have c0:w1.cell? ⟨W.heap.size,0,none⟩=some (.int .i64 cl):=by simp only [World.cell?,rw1];rfl
  clear b1 rw0 bx0
  go_wp2_with fail
  go_ret2
  exact ⟨rfl,by assumption⟩
end Go.Proofs.YtigliofiojkhcaaGreat.Mdl
