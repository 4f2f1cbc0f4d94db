import Derived.Test.YtigliofiojkhcaaGreatMRn12
import Derived.Test.YtigliofiojkhcaaGreatMRn13
import Derived.Test.YtigliofiojkhcaaGreatMRn15
import Derived.Lib.SliceRun
set_option linter.unusedVariables false
set_option linter.unusedSimpArgs false
set_option linter.unnecessarySimpa false
namespace Go.Proofs.YtigliofiojkhcaaGreat.Mdl
open Go.RowKit
set_option linter.unusedVariables false
set_option linter.unusedSimpArgs false
set_option maxRecDepth 100000
theorem But.trn {g:Nat} {w w':World} (h:But g w w'):Trn [g] w w':=⟨h.os,h.tape,h.output,h.size,fun k hk hn=>h.block k hk (fun e=>hn (by simp [e]))⟩
section
variable {ρ:Operand → Value} {o:Oper} {w:World} {x y:Operand} {g b i L c:Nat}
theorem ex_slA (ho:o.op=.slice 46 x (some (.const (.int .i8 1))) (some (.const (.int .i8 6))) none) (h1:ρ (.const (.int .i8 1))=.int .i8 1) (h6:ρ (.const (.int .i8 6))=.int .i8 6) (hx:ρ x=.pointer (some ⟨g,2,none⟩)):(execOp ρ o).run Tryz.prog w=.ok (.value (.slice (some ⟨g,3,none⟩) 5 10)) w:=by
  simp [execOp,ho,hx,h1,h6,go_sem]
theorem ex_slN (n:Nat) (ho:o.op=.slice 26 x none (some y) none) (hx:ρ x=.slice (some ⟨g,3,none⟩) 5 10) (hy:ρ y=.int .i64 n) (h5:n ≤ 5):(execOp ρ o).run Tryz.prog w=.ok (.value (.slice (some ⟨g,3,none⟩) n 10)) w:=by
  have e:n ≤ 10:=by omega
  simp [execOp,ho,hx,hy,go_sem,e]
  intro h;omega
theorem ex_sl1 (ho:o.op=.slice 26 x (some (.const (.int .i64 1))) none none) (h1:ρ (.const (.int .i64 1))=.int .i64 1) (hx:ρ x=.slice (some ⟨b,i,none⟩) L c) (hL:1 ≤ L):(execOp ρ o).run Tryz.prog w=.ok (.value (.slice (some ⟨b,if c=1 then i else i + 1,none⟩) (L - 1) (c - 1))) w:=by
  have e:(1:Int) ≤ L:=by omega
  by_cases h:c=1
  · subst h
    simp [execOp,ho,hx,h1,go_sem,e]
  · simp [execOp,ho,hx,h1,go_sem,e,h]
theorem ex_ix0 (ho:o.op=.indexAddr 26 x (.const (.int .i64 0))) (h1:ρ (.const (.int .i64 0))=.int .i64 0) (hx:ρ x=.slice (some ⟨b,i,none⟩) L c) (hL:1 ≤ L):(execOp ρ o).run Tryz.prog w=.ok (.value (.pointer (some ⟨b,i,none⟩))) w:=by
  simp [execOp,ho,hx,h1,go_sem]
  omega
theorem ex_len {ts:Array TypeId} {ad:Option Addr} (ho:o.op=.call ⟨.builtin .len,#[x],ts⟩) (ht:ts=#[26]) (hx:ρ x=.slice ad L c):(execOp ρ o).run Tryz.prog w=.ok (.value (.int .i64 (L:Int))) w:=by
  subst ht
  simp [execOp,ho,hx,go_sem]
theorem ex_clear {cs new:Array Value} {t:TypeId} (ho:o.op=.call ⟨.builtin .clear,#[x],#[26]⟩) (hx:ρ x=.slice (some ⟨g,3,none⟩) 5 10) (hr:w.heap[g]?=some (.cells cs t (0,0))) (h19:cs.size=19)
    (hn:new=((((cs.setIfInBounds 3 (.int .u64 0)).setIfInBounds 4 (.int .u64 0)).setIfInBounds 5 (.int .u64 0)).setIfInBounds 6 (.int .u64 0)).setIfInBounds 7 (.int .u64 0)):
    ∃ w',(execOp ρ o).run Tryz.prog w=.ok (.value (.tuple #[])) w' ∧ w'.heap[g]?=some (.cells new t (0,0)) ∧ Trn [g] w w':=by
  have e:=fun ty=>Lib.run_clear_slice (P:=Tryz.prog) w 26 30 ty (.int .u64 0) Tryz.underlying26 Tryz.zeroValue30 rfl rfl g 3 5 10 (by decide)
    (fun j hj=>by simp [World.cell?,hr,h19];omega) (fun j hj=>by simp [World.frozen?,hr])
  refine ⟨w.setCells g 3 (List.replicate 5 (.int .u64 0)),?_,?_,?_⟩
  · simp only [execOp,ho,List.map_toArray,List.map_cons,List.map_nil,hx,resolve,invoke,builtin,Sem.run_bind,Sem.run_pure,Result.andThen_ok,e]
  · have r3:=setCell_row hr 3 (.int .u64 0)
    have r4:=setCell_row r3 4 (.int .u64 0)
    have r5:=setCell_row r4 5 (.int .u64 0)
    have r6:=setCell_row r5 6 (.int .u64 0)
    have r7:=setCell_row r6 7 (.int .u64 0)
    rw [hn];exact r7
  · have s:=fun (w:World) (i:Nat)=>But.trn (But.set w g i (.int .u64 0))
    exact ((((s _ 3).trans (s _ 4)).trans (s _ 5)).trans (s _ 6)).trans (s _ 7)
theorem ex_bs1 {c0 c1 c2:Value} (ho:o.op=.buildSlice 31 1 #[(0,x)]) (hx:ρ x=.agg #[c0,c1,c2]):(execOp ρ o).run Tryz.prog w=.ok (.value (.slice (some ⟨w.heap.size,0,none⟩) 1 1)) (w.alloc (.cells #[c0,c1,c2] 103)):=by
  obtain ⟨ti,i1,i2,i3,i4⟩:=Trc.info_evt
  have hr:=run_buildSlice (P:=Tryz.prog) w 31 103 1 (#[(0,x)].map fun (i,x)=>(i,ρ x)) #[c0,c1,c2] ti _ Tryz.underlying31 i1 i2 (by rw [i3];decide) (by rw [i3];decide) (by rw [i3];simp [hx,Instr.fill];exact ⟨⟨rfl,Nat.le_refl _⟩,by kernel_rfl⟩)
  simp only [execOp,ho,hr,Sem.run_bind,Sem.run_pure,Result.andThen_ok]
theorem ex_app {β n:Nat} {v:Value} {cs ev:List Value} {gs:Nat} (ho:o.op=.call ⟨.builtin .append,#[x,y],#[31,31]⟩) (hx:ρ x=v) (hy:ρ y=.slice (some ⟨gs,0,none⟩) 1 1) (hown:w.ownsRow β 103 3 v n cs) (hn:n ≤ 10000)
    (h3:ev.length=3) (h1:∀ u ∈ ev,u.oneCell'=true) (hr:w.heap[gs]?=some (.cells ev.toArray 103 (0,0))) (hb:β ≤ w.heap.size):
    ∃ v' w',(execOp ρ o).run Tryz.prog w=.ok (.value v') w' ∧ w'.ownsRow β 103 3 v' (n + 1) (cs ++ ev) ∧ w.grownBy w' v.ownBlock ∧ (v'.ownBlock=v.ownBlock ∨ v'.ownBlock=some w.heap.size):=by
  obtain ⟨ti,i1,i2,i3,i4⟩:=Trc.info_evt
  obtain ⟨v',w',hr',h2,h3',h4,h5⟩:=run_append_own_at (P:=Tryz.prog) w β 31 o.type 103 ti _ 3 40 Tryz.underlying31 i1 i2 i3 i4 rfl (by decide) v n cs hown ⟨gs,0,none⟩ 1 1 ev (by rw [h3]) (fun j u hu=>by
    rw [Addr.add_mid]
    simp only [World.cell?,hr]
    simpa using hu) h1 (by unfold maxLen;omega) (by omega) hb
  refine ⟨v',w',?_,h2,h3',h5⟩
  simp only [execOp,ho,List.map_toArray,List.map_cons,List.map_nil,hx,hy,resolve,invoke,builtin,Sem.run_bind,Sem.run_pure,Result.andThen_ok,hr']
end
def Mo.argsL (s:Mo) (n:Nat):List Int:=(List.range n).map (fun k=>s.r (k + 1))
theorem Mo.argsAt {s:Mo} {w:World} {g n:Nat} (h:s.in_ w g) (hn:n ≤ 5):Trc.WordsAt w (some ⟨g,3,none⟩) n 10 (s.argsL n):=by
  refine ⟨by simp [Mo.argsL],by omega,by omega,fun _=>⟨g,3,rfl,fun j z hz=>?_⟩,fun h=>by cases h⟩
  have hj:j < n:=by
    have:=(List.getElem?_eq_some_iff.1 hz).1
    simpa [Mo.argsL] using this
  have e:z=s.r (j + 1):=by
    unfold Mo.argsL at hz
    rw [List.getElem?_map,List.getElem?_range hj] at hz
    simpa using hz.symm
  rw [e]
  have:=s.reg h (j + 1) (by omega)
  rw [show 2 + (j + 1)=3 + j by omega] at this
  exact this
theorem own_base {w:World} {b b' n k:Nat} {e:TypeId} {v:Value} {xs:List Value} (h:w.ownsRow b e k v n xs) (hb:b' ≤ b):w.ownsRow b' e k v n xs:=by
  refine ⟨h.1,?_⟩
  rcases h.2 with h | ⟨g,cap,cur,e1,e2,e3,r⟩
  · exact .inl h
  · exact .inr ⟨g,cap,cur,e1,Nat.le_trans hb e2,e3,r⟩
theorem own_trn {w w':World} {G:List Nat} {b n k:Nat} {e:TypeId} {v:Value} {xs:List Value} (h:w.ownsRow b e k v n xs) (t:Trn G w w') (hn:∀ j,v.ownBlock=some j → j ∉ G):w'.ownsRow b e k v n xs:=by
  refine ⟨h.1,?_⟩
  rcases h.2 with h | ⟨g,cap,cur,e1,e2,e3,r⟩
  · exact .inl h
  · exact .inr ⟨g,cap,cur,e1,e2,t.row e3 (hn g (by rw [e1];rfl)),r⟩
theorem own_ne {w:World} {b n k g:Nat} {e t:TypeId} {v:Value} {xs:List Value} {c:Array Value} {fr:Nat × Nat} (h:w.ownsRow b e k v n xs) (hg:w.heap[g]?=some (.cells c t fr)) (ne:e ≠ t):∀ j,v.ownBlock=some j → j ≠ g:=by
  rintro j hj rfl
  rcases h.2 with ⟨rfl,_⟩ | ⟨g',cap,cur,e1,e2,e3,r⟩
  · cases hj
  · rw [e1] at hj
    obtain rfl:g'=j:=by simpa [Value.ownBlock] using hj
    rw [hg] at e3
    simp at e3
    exact ne e3.2.1.symm
theorem own_apart {w:World} {b n k b' n' k':Nat} {e e':TypeId} {v v':Value} {xs xs':List Value} (h:w.ownsRow b e k v n xs) (h':w.ownsRow b' e' k' v' n' xs') (ne:e ≠ e'):∀ j,v.ownBlock=some j → j ∉ v'.ownBlock.toList:=by
  intro j hj hm
  rcases h'.2 with ⟨rfl,_⟩ | ⟨g',cap,cur,rfl,e2,e3,r⟩
  · simp [Value.ownBlock] at hm
  · obtain rfl:j=g':=by simpa [Value.ownBlock] using hm
    exact own_ne h e3 ne j hj rfl
theorem own_is {w:World} {b n k:Nat} {e:TypeId} {v:Value} {xs:List Value} (h:w.ownsRow b e k v n xs):∃ a l c,v=.slice a l c:=by
  rcases h.2 with ⟨rfl,_⟩ | ⟨g,cap,cur,rfl,_⟩ <;> exact ⟨_,_,_,rfl⟩
theorem own_slice {w:World} {b n k:Nat} {e:TypeId} {v:Value} {xs:List Value} (h:w.ownsRow b e k v n xs):v.cells=#[v] ∧ v.oneCell'=true:=by
  rcases h.2 with ⟨rfl,_⟩ | ⟨g,cap,cur,rfl,_⟩ <;> exact ⟨rfl,rfl⟩
theorem trn_grown {w w':World} {row:Option Nat} (h:w.grownBy w' row):Trn row.toList w w':=⟨h.os,h.tape,h.output,h.size,fun k hk hn=>h.block k hk (by cases row with | none=>simp | some j=>simp at hn ⊢;exact hn)⟩
end Go.Proofs.YtigliofiojkhcaaGreat.Mdl
namespace Go.Proofs.YtigliofiojkhcaaGreat.Mdl
open Go.RowKit
set_option linter.unusedVariables false
set_option linter.unusedSimpArgs false
set_option maxRecDepth 100000
def S4 (W w0:World) (na:Nat) (zs:List Int) (imm av:Int) (fl:Nat → Bool) (u:Nat → Value) (w:World):Prop:=
  Below w0.heap.size w0 w ∧ (fl 7=true → w.ownsRow W.heap.size 30 1 (u 24) na (zs.map (.int .u64))) ∧ (fl 14=true → u 31=.agg #[.int .i64 imm,u 24,.int .u64 av]) ∧
  (fl 15=true → ∃ ge,u 6=.pointer (some ⟨ge,0,none⟩) ∧ w0.heap.size ≤ ge ∧
    ((fl 16=false ∧ w.heap[ge]?=some (.cells #[.int .i64 0,.slice none 0 0,.int .u64 0] 103 (0,0))) ∨ (fl 16=true ∧ w.heap[ge]?=some (.cells #[.int .i64 imm,u 24,.int .u64 av] 103 (0,0)))))
section
variable {W w0 w w':World} {na:Nat} {zs:List Int} {imm av:Int} {fl:Nat → Bool} {u u':Nat → Value} {v:Value}
theorem S4.loc:Loc [7,14,15,16] [24,31,6] (S4 W w0 na zs imm av):=by
  intro fl fl' u u' w hK hD h
  unfold S4 at *
  simp only [hK 7 (by decide),hK 14 (by decide),hK 15 (by decide),hK 16 (by decide),hD 24 (by decide),hD 31 (by decide),hD 6 (by decide)]
  exact h
theorem S4.start (b:Below w0.heap.size w0 w) (h7:fl 7=false) (h14:fl 14=false) (h15:fl 15=false):S4 W w0 na zs imm av fl u w:=
  ⟨b,fun h=>absurd (h7.symm.trans h) (by decide),fun h=>absurd (h14.symm.trans h) (by decide),fun h=>absurd (h15.symm.trans h) (by decide)⟩
theorem S4.clone (h:S4 W w0 na zs imm av fl u w) (f14:fl 14=false) (f16:fl 16=false) (bel:Below w.heap.size w w') (own:w'.ownsRow w.heap.size 30 1 v na (zs.map (.int .u64))) (hW:W.heap.size ≤ w0.heap.size) (h24:u' 24=v) (h6:u' 6=u 6):S4 W w0 na zs imm av (upd fl 7) u' w':=by
  refine ⟨h.1.trans (bel.mono h.1.size),fun _=>by rw [h24];exact own_base own (Nat.le_trans hW h.1.size),fun k=>?_,fun k=>?_⟩
  · rw [upd_old fl rfl,f14] at k;cases k
  · rw [upd_old fl rfl] at k
    obtain ⟨ge,e1,e2,e3⟩:=h.2.2.2 k
    refine ⟨ge,by rw [h6];exact e1,e2,?_⟩
    rw [upd_old fl rfl]
    rcases e3 with ⟨_,e3⟩ | ⟨e,_⟩
    · exact .inl ⟨f16,brow bel e3⟩
    · rw [f16] at e;cases e
theorem S4.build (h:S4 W w0 na zs imm av fl u w) (f16:fl 16=false) (h31:u' 31=.agg #[.int .i64 imm,u 24,.int .u64 av]) (h24:u' 24=u 24) (h6:u' 6=u 6):S4 W w0 na zs imm av (upd fl 14) u' w:=by
  refine ⟨h.1,fun k=>?_,fun _=>by rw [h31,h24],fun k=>?_⟩
  · rw [upd_old fl rfl] at k;rw [h24];exact h.2.1 k
  · rw [upd_old fl rfl] at k
    obtain ⟨ge,e1,e2,e3⟩:=h.2.2.2 k
    refine ⟨ge,by rw [h6];exact e1,e2,?_⟩
    rw [upd_old fl rfl,h24];exact e3
theorem S4.alloc (h:S4 W w0 na zs imm av fl u w) (f16:fl 16=false) (h6:u' 6=.pointer (some ⟨w.heap.size,0,none⟩)) (h24:u' 24=u 24) (h31:u' 31=u 31):
    S4 W w0 na zs imm av (upd fl 15) u' (w.alloc (.cells #[.int .i64 0,.slice none 0 0,.int .u64 0] 103)):=by
  have bel:Below w.heap.size w (w.alloc (.cells #[.int .i64 0,.slice none 0 0,.int .u64 0] 103)):=below_new (Below.refl _ _) _
  refine ⟨h.1.trans (bel.mono h.1.size),fun k=>?_,fun k=>?_,fun _=>⟨w.heap.size,h6,h.1.size,.inl ⟨by rw [upd_old fl rfl];exact f16,heap_last w _ _ rfl⟩⟩⟩
  · rw [upd_old fl rfl] at k;rw [h24];exact Trc.own_below (h.2.1 k) bel
  · rw [upd_old fl rfl] at k;rw [h24,h31];exact h.2.2.1 k
theorem S4.store (h:S4 W w0 na zs imm av fl u w) (f7:fl 7=true) (f15:fl 15=true) {ge:Nat} (h6:u 6=.pointer (some ⟨ge,0,none⟩)) (st:Stored w ge #[.int .i64 imm,u 24,.int .u64 av] 103 w'):S4 W w0 na zs imm av (upd fl 16) u w':=by
  obtain ⟨g2,e1,e2,e3⟩:=h.2.2.2 f15
  rw [h6] at e1
  obtain rfl:ge=g2:=by simpa using e1
  have hrow:∃ c,w.heap[ge]?=some (.cells c 103 (0,0)):=by
    rcases e3 with ⟨_,e3⟩ | ⟨_,e3⟩
    · exact ⟨_,e3⟩
    · exact ⟨_,e3⟩
  obtain ⟨c,hrow⟩:=hrow
  refine ⟨st.below h.1 e2,fun k=>?_,fun k=>?_,fun k=>⟨ge,h6,e2,.inr ⟨upd_new _ _,st.row⟩⟩⟩
  · have:=h.2.1 f7
    exact own_trn this ⟨st.os,st.tape,st.output,by rw [st.size];exact Nat.le_refl _,fun k _ hn=>st.other k (by simpa using hn)⟩ (G:=[ge]) (fun j hj=>by simpa using own_ne this hrow (by decide) j hj)
  · rw [upd_old fl rfl] at k;exact h.2.2.1 k
end
def S6 (g:Nat) (w0:World) (β n:Nat) (t0:Value) (cs ev:List Value) (old:Value → Array Value) (T:TypeId) (fl:Nat → Bool) (u:Nat → Value) (w:World):Prop:=
  (fl 6=false ∧ fl 7=false ∧ fl 10=false ∧ Below w0.heap.size w0 w) ∨
  (fl 6=true ∧ fl 7=false ∧ fl 10=false ∧ Below w0.heap.size w0 w ∧ ∃ gs,u 46=.slice (some ⟨gs,0,none⟩) 1 1 ∧ w.heap[gs]?=some (.cells ev.toArray 103 (0,0))) ∨
  (fl 6=true ∧ fl 7=true ∧ fl 10=false ∧ w.ownsRow β 103 3 (u 47) (n + 1) (cs ++ ev) ∧ Trn t0.ownBlock.toList w0 w) ∨
  (fl 6=true ∧ fl 10=true ∧ w.ownsRow β 103 3 (u 47) (n + 1) (cs ++ ev) ∧ Trn (g :: t0.ownBlock.toList) w0 w ∧ w.heap[g]?=some (.cells (old (u 47)) T (0,0)))
section
variable {g:Nat} {w0 w w':World} {β n:Nat} {t0:Value} {cs ev:List Value} {old:Value → Array Value} {T:TypeId} {fl:Nat → Bool} {u u':Nat → Value} {v:Value}
theorem S6.loc:Loc [6,7,10] [46,47] (S6 g w0 β n t0 cs ev old T):=by
  intro fl fl' u u' w hK hD h
  unfold S6 at *
  simp only [hK 6 (by decide),hK 7 (by decide),hK 10 (by decide),hD 46 (by decide),hD 47 (by decide)]
  exact h
theorem S6.start (b:Below w0.heap.size w0 w) (h6:fl 6=false) (h7:fl 7=false) (h10:fl 10=false):S6 g w0 β n t0 cs ev old T fl u w:=.inl ⟨h6,h7,h10,b⟩
theorem S6.was (h:S6 g w0 β n t0 cs ev old T fl u w) (f7:fl 7=false) (f10:fl 10=false):Below w0.heap.size w0 w:=by
  rcases h with h | h | h | h
  · exact h.2.2.2
  · exact h.2.2.2.1
  · rw [f7] at h;cases h.2.1
  · rw [f10] at h;cases h.2.1
theorem S6.was0 (h:S6 g w0 β n t0 cs ev old T fl u w) (f6:fl 6=false):Below w0.heap.size w0 w:=by
  rcases h with h | h | h | h
  · exact h.2.2.2
  · rw [f6] at h;cases h.1
  · rw [f6] at h;cases h.1
  · rw [f6] at h;cases h.1
theorem S6.lay (h:S6 g w0 β n t0 cs ev old T fl u w) (f6:fl 6=false) (f7:fl 7=false) (f10:fl 10=false) (h46:u' 46=.slice (some ⟨w.heap.size,0,none⟩) 1 1):S6 g w0 β n t0 cs ev old T (upd fl 6) u' (w.alloc (.cells ev.toArray 103)):=by
  have b:=h.was f7 f10
  exact .inr (.inl ⟨upd_new _ _,by rw [upd_old fl rfl];exact f7,by rw [upd_old fl rfl];exact f10,below_new b _,w.heap.size,h46,heap_last w _ _ rfl⟩)
theorem S6.laid (h:S6 g w0 β n t0 cs ev old T fl u w) (f6:fl 6=true) (f7:fl 7=false) (f10:fl 10=false):Below w0.heap.size w0 w ∧ ∃ gs,u 46=.slice (some ⟨gs,0,none⟩) 1 1 ∧ w.heap[gs]?=some (.cells ev.toArray 103 (0,0)):=by
  rcases h with h | h | h | h
  · rw [f6] at h;cases h.1
  · exact h.2.2.2
  · rw [f7] at h;cases h.2.1
  · rw [f10] at h;cases h.2.1
theorem S6.app (h:S6 g w0 β n t0 cs ev old T fl u w) (f6:fl 6=true) (f7:fl 7=false) (f10:fl 10=false) (own:w'.ownsRow β 103 3 v (n + 1) (cs ++ ev)) (gr:w.grownBy w' t0.ownBlock) (h47:u' 47=v):S6 g w0 β n t0 cs ev old T (upd fl 7) u' w':=
  .inr (.inr (.inl ⟨by rw [upd_old fl rfl];exact f6,upd_new _ _,by rw [upd_old fl rfl];exact f10,by rw [h47];exact own,(Trn.of_below (h.laid f6 f7 f10).1).trans (trn_grown gr)⟩))
theorem S6.done (h:S6 g w0 β n t0 cs ev old T fl u w) (f7:fl 7=true) (f10:fl 10=false):w.ownsRow β 103 3 (u 47) (n + 1) (cs ++ ev) ∧ Trn t0.ownBlock.toList w0 w:=by
  rcases h with h | h | h | h
  · rw [f7] at h;cases h.2.1
  · rw [f7] at h;cases h.2.1
  · exact h.2.2.2
  · rw [f10] at h;cases h.2.1
theorem S6.six (h:S6 g w0 β n t0 cs ev old T fl u w) (f7:fl 7=true):fl 6=true:=by
  rcases h with h | h | h | h
  · rw [f7] at h;cases h.2.1
  · rw [f7] at h;cases h.2.1
  · exact h.1
  · exact h.1
theorem S6.store (h:S6 g w0 β n t0 cs ev old T fl u w) (f7:fl 7=true) (f10:fl 10=false) (st:Stored w g (old (u 47)) T w') {c:Array Value} (hg:w.heap[g]?=some (.cells c T (0,0))) (ne:103 ≠ T):S6 g w0 β n t0 cs ev old T (upd fl 10) u w':=by
  obtain ⟨own,tr⟩:=h.done f7 f10
  have ts:Trn [g] w w':=⟨st.os,st.tape,st.output,by rw [st.size];exact Nat.le_refl _,fun k _ hn=>st.other k (by simpa using hn)⟩
  exact .inr (.inr (.inr ⟨by rw [upd_old fl rfl];exact h.six f7,upd_new _ _,own_trn own ts (fun j hj=>by simpa using own_ne own hg ne j hj),(tr.weak (fun k hk=>by simp [hk])).trans (ts.weak (fun k hk=>by simp at hk;simp [hk])),st.row⟩))
theorem S6.fin (h:S6 g w0 β n t0 cs ev old T fl u w) (f:fl 10=true) (f7:fl 7=true):w.ownsRow β 103 3 (u 47) (n + 1) (cs ++ ev) ∧ Trn (g :: t0.ownBlock.toList) w0 w ∧ w.heap[g]?=some (.cells (old (u 47)) T (0,0)):=by
  rcases h with h | h | h | h
  · rw [f] at h;cases h.2.2.1
  · rw [f] at h;cases h.2.2.1
  · rw [f] at h;cases h.2.2.1
  · exact h.2.2
end
theorem faML78_6_0 (g:Nat) (w:World):(Instr.fieldAt 78 (.pointer (some ⟨g,0,none⟩)) 6).run Tryz.prog w=.ok (.pointer (some ⟨g,16,none⟩)) w:=by simp [go_sem]
theorem faML78_2_0 (g:Nat) (w:World):(Instr.fieldAt 78 (.pointer (some ⟨g,0,none⟩)) 2).run Tryz.prog w=.ok (.pointer (some ⟨g,2,none⟩)) w:=by simp [go_sem]
theorem faML52_8_0 (g:Nat) (w:World):(Instr.fieldAt 52 (.pointer (some ⟨g,0,none⟩)) 8).run Tryz.prog w=.ok (.pointer (some ⟨g,8,none⟩)) w:=by simp [go_sem]
theorem faML78_7_0 (g:Nat) (w:World):(Instr.fieldAt 78 (.pointer (some ⟨g,0,none⟩)) 7).run Tryz.prog w=.ok (.pointer (some ⟨g,17,none⟩)) w:=by simp [go_sem]
theorem faML78_3_0 (g:Nat) (w:World):(Instr.fieldAt 78 (.pointer (some ⟨g,0,none⟩)) 3).run Tryz.prog w=.ok (.pointer (some ⟨g,13,none⟩)) w:=by simp [go_sem]
theorem faML103_2_0 (g:Nat) (w:World):(Instr.fieldAt 103 (.pointer (some ⟨g,0,none⟩)) 2).run Tryz.prog w=.ok (.pointer (some ⟨g,2,none⟩)) w:=by simp [go_sem]
def Mo.called (s:Mo) (ans tv:Value) (av:Int):Mo:={ s with r:=(fun k=>match k with | 0=>av | 1=>0 | 2=>0 | 3=>0 | 4=>0 | 5=>0 | k=>s.r k),set:=orM (bits .andNot .i64 s.set (argsM 5)) (onlyI 0),answers:=ans,trace:=tv }
set_option maxHeartbeats 40000000 in
theorem call_yes (s:Mo) (g ab ao L ca β n:Nat) (av:Int) (ac:Array Value) (cs:List Value) (kind op width size:Int) (byReg:Bool) (dst src off imm:Int) (W:World) (h:s.in_ W g) (hL:1 ≤ L) (hans:s.answers=.slice (some ⟨ab,ao,none⟩) L ca)
    (hA:W.heap[ab]?=some (.cells ac 30 (0,0))) (ha:ac[ao]?=some (.int .u64 av)) (hT:W.ownsRow β 103 3 s.trace n cs) (hβ:β ≤ W.heap.size) (hn4:n ≤ 10000):
    Calls Tryz.prog 35 #[.pointer (some ⟨g,0,none⟩),.agg (Ins.In.mk kind op width size byReg dst src off imm).cells] W fun e w'=>e=.returned (.int .i8 0) ∧
      ∃ va tv,w'.ownsRow W.heap.size 30 1 va (Ins.argsI imm).toNat ((s.argsL (Ins.argsI imm).toNat).map (.int .u64)) ∧ w'.ownsRow β 103 3 tv (n + 1) (cs ++ [.int .i64 imm,va,.int .u64 av]) ∧
        (s.called (.slice (some ⟨ab,if ca=1 then ao else ao + 1,none⟩) (L - 1) (ca - 1)) tv av).in_ w' g ∧ Trn (g :: s.trace.ownBlock.toList) W w':=by
  have mo:Tryz.prog.follows .mixedOrders=true:=by kernel_rfl
  obtain ⟨na,hna⟩:∃ na:Nat,Ins.argsI imm=na:=⟨(Ins.argsI imm).toNat,by have:0 ≤ Ins.argsI imm:=by { unfold Ins.argsI;split <;> omega };omega⟩
  have hn5:na ≤ 5:=by have:Ins.argsI imm ≤ 5:=by { unfold Ins.argsI;split <;> omega };omega
  have ARG:=fun W=>Ins.args_any imm W
  rw [hna] at ARG ⊢
  rw [show ((na:Int)).toNat=na from Int.toNat_natCast na]
  have PUT:=fun (s:Mo) (v:Int) (W:World) (h:s.in_ W g)=>put_any s g 0 v W h (by omega)
  have HL0:((L:Int) == 0)=false:=by rw [beq_eq_false_iff_ne];omega
  have hg0:W.heap[g]?=some (.cells #[s.prog,s.memo,.int .u64 (s.r 0),.int .u64 (s.r 1),.int .u64 (s.r 2),.int .u64 (s.r 3),.int .u64 (s.r 4),.int .u64 (s.r 5),.int .u64 (s.r 6),.int .u64 (s.r 7),.int .u64 (s.r 8),.int .u64 (s.r 9),.int .u64 (s.r 10),.int .i64 s.set,.int .i64 s.at_,.int .i64 s.fuel,.slice (some ⟨ab,ao,none⟩) L ca,s.trace,.int .i8 s.fin] 78 (0,0)):=by have:=h;unfold Mo.in_ at this;rw [this];unfold Mo.cells;rw [hans]
  have nga:ab ≠ g:=fun e=>by rw [e,hg0] at hA;simp at hA
  obtain ⟨o2,ho2⟩:∃ o2,o2=if ca=1 then ao else ao + 1:=⟨_,rfl⟩
  rw [← ho2]
  clear hna
  unfold Ins.In.cells
  simp only
  refine calls_abs Tryz.func35 rfl (Nat.le_of_ble_eq_true rfl) ?_
  intro a0 d0 z0 h0
  replace z0:a0.tmps.size=63:=z0
  have k0:Trn [g] W W:=Trn.refl W
  have s0_0:a0.tmps.getD 0 undef=.pointer (some ⟨g,0,none⟩):=h0 0 (Nat.le_of_ble_eq_true rfl)
  have s1_0:a0.tmps.getD 1 undef=.agg #[.int .i8 kind,.int .i8 op,.int .i8 width,.int .i8 size,.bool byReg,.int .i8 dst,.int .i8 src,.int .i64 off,.int .i64 imm]:=h0 1 (Nat.le_of_ble_eq_true rfl)
  refine wp_seq ?_
  refine go_reg [] [⟨0,3,52,#[.int .i8 kind,.int .i8 op,.int .i8 width,.int .i8 size,.bool byReg,.int .i8 dst,.int .i8 src,.int .i64 off,.int .i64 imm],none,#[]⟩] [none,some (.int .i8 0)] mo d0 z0 (bare_of k0) (by kernel_rfl) trivial (
   hc (fun _ ax _ cx=>cx.al (wn rfl) 0 rfl (by simp [execOp,Act.eval,(show ax.tmps.getD 1 undef=.agg #[.int .i8 kind,.int .i8 op,.int .i8 width,.int .i8 size,.bool byReg,.int .i8 dst,.int .i8 src,.int .i64 off,.int .i64 imm] from (cx.rq 1 s1_0)),go_sem]) rfl rfl rfl rfl rfl trivial) <|
   hk (fun cx=>cx.v (ex_as rfl rfl) rfl rfl) <|
   hn) ?_
  intro a1 w1 f1
  obtain ⟨g1,u_g1,q_g1,b_g1⟩:=f1.al.1
  have k1:=k0.trans (f1.trn (bare_of k0) trivial)
  refine wp_seq ?_
  refine wp_seq ?_
  have b_g_1:=f1.k hg0
  have s0_2:=f1.q 0 s0_0
  refine go_reg [bx g 78 #[s.prog,s.memo,.int .u64 (s.r 0),.int .u64 (s.r 1),.int .u64 (s.r 2),.int .u64 (s.r 3),.int .u64 (s.r 4),.int .u64 (s.r 5),.int .u64 (s.r 6),.int .u64 (s.r 7),.int .u64 (s.r 8),.int .u64 (s.r 9),.int .u64 (s.r 10),.int .i64 s.set,.int .i64 s.at_,.int .i64 s.fuel,.slice (some ⟨ab,ao,none⟩) L ca,s.trace,.int .i8 s.fin]] [] [some (pt g 0),some (pt g 0),some (pt g 16),some (.slice (some ⟨ab,ao,none⟩) L ca),some (.int .i64 (L:Int)),some (.bool false)] mo f1.d f1.z (bare_of k1) (by kernel_rfl) ⟨b_g_1,trivial⟩ (
   hk (fun cx=>cx.v (ex_mv rfl (cx.rq 0 s0_2)) rfl rfl) <|
   hk (fun cx=>cx.v (ex_nc rfl (cx.u 0 rfl)) rfl rfl) <|
   hk (fun cx=>cx.v (ex_fa rfl (cx.u 0 rfl) (faML78_6_0 _ _)) rfl rfl) <|
   hk (fun cx=>cx.v (ex_ld rfl (cx.u 0 rfl) (cx.rn 0 rfl) rfl Tryz.isAgg26) rfl rfl) <|
   hk (fun cx=>cx.v (ex_len rfl rfl (cx.u 0 rfl)) rfl rfl) <|
   hk (fun cx=>cx.v (ex_eq (x:=.tmp 11) rfl (cx.u 0 rfl) rfl) rfl (congrArg Value.bool HL0)) <|
   hn) ?_
  intro a2 w2 f2
  have k2:=k1.trans (f2.trn (bare_of k1) ⟨.inl rfl,trivial⟩)
  refine wp_cond_false (f2.v 5 rfl rfl rfl) ?_
  refine wp_skip ?_
  refine wp_seq ?_
  have s0_3:=f2.q 0 s0_2
  refine go_reg [] [] [some (pt g 0),some (pt g 0),some (pt g 2),some (.slice (some ⟨g,3,none⟩) 5 10),some (.slice (some ⟨g,3,none⟩) 5 10)] mo f2.d f2.z (bare_of k2) (by kernel_rfl) trivial (
   hk (fun cx=>cx.v (ex_mv rfl (cx.rq 0 s0_3)) rfl rfl) <|
   hk (fun cx=>cx.v (ex_nc rfl (cx.u 0 rfl)) rfl rfl) <|
   hk (fun cx=>cx.v (ex_fa rfl (cx.u 0 rfl) (faML78_2_0 _ _)) rfl rfl) <|
   hk (fun cx=>cx.v (ex_slA rfl rfl rfl (cx.u 0 rfl)) rfl rfl) <|
   hk (fun cx=>cx.v (ex_as rfl (cx.u 0 rfl)) rfl rfl) <|
   hn) ?_
  intro a3 w3 f3
  have k3:=k2.trans (f3.trn (bare_of k2) trivial)
  refine wp_seq ?_
  have b_g_4:=f3.k (f2.k b_g_1)
  have rg4:w3.heap[g]?=some (.cells #[s.prog,s.memo,.int .u64 (s.r 0),.int .u64 (s.r 1),.int .u64 (s.r 2),.int .u64 (s.r 3),.int .u64 (s.r 4),.int .u64 (s.r 5),.int .u64 (s.r 6),.int .u64 (s.r 7),.int .u64 (s.r 8),.int .u64 (s.r 9),.int .u64 (s.r 10),.int .i64 s.set,.int .i64 s.at_,.int .i64 s.fuel,.slice (some ⟨ab,ao,none⟩) L ca,s.trace,.int .i8 s.fin] 78 (0,0)):=b_g_4
  have b_g1_5:=f3.k (f2.k b_g1)
  have rx4:w3.heap[g1]?=some (.cells #[.int .i8 kind,.int .i8 op,.int .i8 width,.int .i8 size,.bool byReg,.int .i8 dst,.int .i8 src,.int .i64 off,.int .i64 imm] 52 (0,0)):=b_g1_5
  have hA4:w3.heap[ab]?=some (.cells ac 30 (0,0)):=k3.row hA (by simpa using nga)
  have hin4:s.in_ w3 g:=by unfold Mo.in_ Mo.cells;rw [hans];exact rg4
  have s3_6:=f3.q 3 (f2.q 3 u_g1)
  have s0_7:=f3.q 0 s0_3
  refine go_regz (S4 W w3 na (s.argsL na) imm av) [7,14,15,16] [24,31,6] [some (.pointer (some ⟨g1,8,none⟩)),some (.int .i64 imm),some (.slice (some ⟨g,3,none⟩) 5 10),some (.pointer (some ⟨g1,8,none⟩)),some (.int .i64 imm),some (.int .i64 (na:Int)),some (.slice (some ⟨g,3,none⟩) na 10),none,some (.pointer (some ⟨g,0,none⟩)),some (.pointer (some ⟨g,0,none⟩)),some (.pointer (some ⟨g,16,none⟩)),some (.slice (some ⟨ab,ao,none⟩) L ca),some (.pointer (some ⟨ab,ao,none⟩)),some (.int .u64 av),none,none,none] mo S4.loc f3.d f3.z (by kernel_rfl) (fun fl w1 hfl b _=>S4.start b (hfl 7 (by decide)) (hfl 14 (by decide)) (hfl 15 (by decide))) (
   zc (@fun fl ax wx cx=>cx.v (ex_fa rfl (cx.rq 3 s3_6) (faML52_8_0 _ _)) rfl rfl) <|
   zc (@fun fl ax wx cx=>cx.v (ex_ld rfl (cx.u 0 rfl) (brow cx.S.1 rx4) rfl Tryz.isAgg3) rfl rfl) <|
   zc (@fun fl ax wx cx=>cx.v (ex_mv rfl (cx.rq 5 (f3.v 4 rfl rfl rfl))) rfl rfl) <|
   zc (@fun fl ax wx cx=>cx.v (ex_fa rfl (cx.rq 3 s3_6) (faML52_8_0 _ _)) rfl rfl) <|
   zc (@fun fl ax wx cx=>cx.v (ex_ld rfl (cx.u 0 rfl) (brow cx.S.1 rx4) rfl Tryz.isAgg3) rfl rfl) <|
   zc (@fun fl ax wx cx=>cx.c rfl (args1 (cx.u 0 rfl)) Tryz.func70 (by decide +kernel) (ARG wx) rfl rfl) <|
   zc (@fun fl ax wx cx=>cx.v (ex_slN na rfl (cx.u 0 rfl) (cx.u 1 rfl) hn5) rfl rfl) <|
   zc (@fun fl ax wx cx=>cx.ct rfl rfl (args1 (cx.u 0 rfl)) Tryz.func28 (by decide +kernel) rfl rfl ((Trc.cloneW_any (some ⟨g,3,none⟩) na 10 (s.argsL na) wx (Mo.argsAt (s:=s) (brow cx.S.1 hin4) hn5) (by omega)).mono (by
       rintro e w' ⟨vx,rfl,own,bel⟩
       exact ⟨vx,rfl,trivial,S4.clone cx.S (cx.later 14 (by kernel_rfl)) (cx.later 16 (by kernel_rfl)) bel own k3.size (slot_new cx.sz rfl) (slot_old rfl)⟩))) <|
   zc (@fun fl ax wx cx=>cx.v (ex_mv rfl (cx.rq 0 s0_7)) rfl rfl) <|
   zc (@fun fl ax wx cx=>cx.v (ex_nc rfl (cx.u 0 rfl)) rfl rfl) <|
   zc (@fun fl ax wx cx=>cx.v (ex_fa rfl (cx.u 0 rfl) (faML78_6_0 _ _)) rfl rfl) <|
   zc (@fun fl ax wx cx=>cx.v (ex_ld rfl (cx.u 0 rfl) (brow cx.S.1 rg4) rfl Tryz.isAgg26) rfl rfl) <|
   zc (@fun fl ax wx cx=>cx.v (ex_ix0 rfl rfl (cx.u 0 rfl) hL) rfl rfl) <|
   zc (@fun fl ax wx cx=>cx.v (ex_ld rfl (cx.u 0 rfl) (brow cx.S.1 hA4) ha Tryz.isAgg30) rfl rfl) <|
   zc (@fun fl ax wx cx=>(by
       obtain ⟨sa,sl,sc,e24⟩:=own_is (cx.S.2.1 (cx.did 1 rfl rfl))
       exact cx.vt (v:=.agg #[.int .i64 imm,slotOf ax 24,.int .u64 av]) rfl (by rw [e24];exact exec_build (cx.is rfl) (parts3 (cx.u 0 rfl) e24 (cx.u 2 rfl)) (by kernel_rfl)) rfl rfl trivial (S4.build cx.S (cx.later 16 (by kernel_rfl)) (slot_new cx.sz rfl) (slot_old rfl) (slot_old rfl)))) <|
   zc (@fun fl ax wx cx=>cx.vt rfl (by simp [execOp,Act.eval,go_sem]) rfl rfl trivial (S4.alloc cx.S (cx.later 16 (by kernel_rfl)) (slot_new cx.sz rfl) (slot_old rfl) (slot_old rfl))) <|
   zc (@fun fl ax wx cx=>(by
       obtain ⟨ge,e1,e2,e3⟩:=cx.S.2.2.2 (cx.did 0 rfl rfl)
       have e3':wx.heap[ge]?=some (.cells #[.int .i64 0,.slice none 0 0,.int .u64 0] 103 (0,0)):=by
        rcases e3 with ⟨_,e3⟩ | ⟨e,_⟩
        · exact e3
        · rw [cx.fi] at e;cases e
       exact cx.st rfl (exec_storeR 103 (.tmp 6) (.tmp 31) rfl ge #[.int .i64 imm,slotOf ax 24,.int .u64 av] e1 (cx.S.2.2.1 (cx.did 1 rfl rfl)) e3' (by kernel_rfl) rfl (by have o7:=cx.S.2.1 (cx.did 2 rfl rfl);rcases o7.2 with ⟨e,_⟩ | ⟨_,_,_,e,_⟩ <;> simp [Value.oneCell',e])) rfl trivial (S4.store cx.S (cx.did 2 rfl rfl) (cx.did 0 rfl rfl) e1 (stored_setRow wx ge #[.int .i64 imm,slotOf ax 24,.int .u64 av] _ _ e3')))) <|
   zn) ?_
  intro a4 w4 f4
  obtain ⟨fl4,hf4,hs4⟩:=f4.s
  obtain ⟨ge,uge,lge,rge⟩:=hs4.2.2.2 (hf4 15 (by decide))
  have oa4:=hs4.2.1 (hf4 7 (by decide))
  have bge:w4.heap[ge]?=some (.cells #[.int .i64 imm,slotOf a4 24,.int .u64 av] 103 (0,0)):=by
    rcases rge with ⟨e,_⟩ | ⟨_,e⟩
    · rw [hf4 16 (by decide)] at e;cases e
    · exact e
  obtain ⟨va,hva⟩:∃ va,va=slotOf a4 24:=⟨_,rfl⟩
  rw [← hva] at bge oa4
  have s6_4:a4.tmps.getD 6 undef=.pointer (some ⟨ge,0,none⟩):=uge
  have k4:=k3.trans (Trn.of_below hs4.1 (G:=[g]))
  have hva1:=(own_slice oa4).2
  have lge2:W.heap.size ≤ ge:=Nat.le_trans k3.size lge
  have bg4:=brow hs4.1 rg4
  have ownT4:w4.ownsRow β 103 3 s.trace n cs:=own_trn hT k4 (fun j hj=>by simpa using own_ne hT hg0 (show 103 ≠ 78 by decide) j hj)
  have apa:=fun j hj=>(not_or.2 ⟨own_ne oa4 bg4 (show 30 ≠ 78 by decide) j hj,own_apart oa4 ownT4 (show 30 ≠ 103 by decide) j hj⟩)
  have nge:ge ≠ g:=fun e=>by rw [e,bg4] at bge;simp at bge
  refine wp_seq ?_
  have s0_8:=f4.q 0 s0_7
  refine go_reg [⟨g,78,#[s.prog,s.memo,.int .u64 (s.r 0),.int .u64 (s.r 1),.int .u64 (s.r 2),.int .u64 (s.r 3),.int .u64 (s.r 4),.int .u64 (s.r 5),.int .u64 (s.r 6),.int .u64 (s.r 7),.int .u64 (s.r 8),.int .u64 (s.r 9),.int .u64 (s.r 10),.int .i64 s.set,.int .i64 s.at_,.int .i64 s.fuel,.slice (some ⟨ab,ao,none⟩) L ca,s.trace,.int .i8 s.fin],some 8,#[s.prog,s.memo,.int .u64 (s.r 0),.int .u64 (s.r 1),.int .u64 (s.r 2),.int .u64 (s.r 3),.int .u64 (s.r 4),.int .u64 (s.r 5),.int .u64 (s.r 6),.int .u64 (s.r 7),.int .u64 (s.r 8),.int .u64 (s.r 9),.int .u64 (s.r 10),.int .i64 s.set,.int .i64 s.at_,.int .i64 s.fuel,.slice (some ⟨ab,o2,none⟩) (L - 1) (ca - 1),s.trace,.int .i8 s.fin]⟩] [] [some (pt g 0),some (pt g 0),some (pt g 0),some (pt g 16),some (.slice (some ⟨ab,ao,none⟩) L ca),some (.slice (some ⟨ab,o2,none⟩) (L - 1) (ca - 1)),some (pt g 0),some (pt g 16),none] mo f4.d f4.z (bare_of k4) (by kernel_rfl) ⟨bg4,trivial⟩ (
   hk (fun cx=>cx.v (ex_mv rfl (cx.rq 0 s0_8)) rfl rfl) <|
   hk (fun cx=>cx.v (ex_mv rfl (cx.rq 0 s0_8)) rfl rfl) <|
   hk (fun cx=>cx.v (ex_nc rfl (cx.u 0 rfl)) rfl rfl) <|
   hk (fun cx=>cx.v (ex_fa rfl (cx.u 0 rfl) (faML78_6_0 _ _)) rfl rfl) <|
   hk (fun cx=>cx.v (ex_ld rfl (cx.u 0 rfl) (cx.rf 0 rfl (by kernel_rfl)) rfl Tryz.isAgg26) rfl rfl) <|
   hk (fun cx=>cx.v ((by rw [ho2];exact ex_sl1 rfl rfl (cx.u 0 rfl) hL)) rfl rfl) <|
   hk (fun cx=>cx.v (ex_nc rfl (cx.u 0 rfl)) rfl rfl) <|
   hk (fun cx=>cx.v (ex_fa rfl (cx.u 0 rfl) (faML78_6_0 _ _)) rfl rfl) <|
   hk (fun cx=>cx.stC (wn rfl) rfl rfl 0 rfl (cx.u 0 rfl) (cx.u 1 rfl) rfl rfl (by kernel_rfl) rfl rfl (Nat.zero_le _) rfl trivial trivial) <|
   hn) ?_
  intro a5 w5 f5
  have k5:=k4.trans (f5.trn (bare_of k4) ⟨.inr (by simp),trivial⟩)
  have ma5:=(Trn.refl w4 (G:=g :: s.trace.ownBlock.toList)).trans (f5.trn (bare_of k4) ⟨.inr (by simp),trivial⟩)
  refine wp_seq ?_
  have rg6:w5.heap[g]?=some (.cells #[s.prog,s.memo,.int .u64 (s.r 0),.int .u64 (s.r 1),.int .u64 (s.r 2),.int .u64 (s.r 3),.int .u64 (s.r 4),.int .u64 (s.r 5),.int .u64 (s.r 6),.int .u64 (s.r 7),.int .u64 (s.r 8),.int .u64 (s.r 9),.int .u64 (s.r 10),.int .i64 s.set,.int .i64 s.at_,.int .i64 s.fuel,.slice (some ⟨ab,o2,none⟩) (L - 1) (ca - 1),s.trace,.int .i8 s.fin] 78 (0,0)):=f5.rows.1
  have b_ge_9:=f5.kp bge ⟨.inr nge,trivial⟩
  have re6:w5.heap[ge]?=some (.cells #[.int .i64 imm,va,.int .u64 av] 103 (0,0)):=b_ge_9
  have ownT6:w5.ownsRow β 103 3 s.trace n cs:=own_trn hT k5 (fun j hj=>by simpa using own_ne hT hg0 (show 103 ≠ 78 by decide) j hj)
  have ngT:g ∉ s.trace.ownBlock.toList:=fun hm=>own_ne ownT6 rg6 (show 103 ≠ 78 by decide) g (by simpa using hm) rfl
  have geT:ge ∉ s.trace.ownBlock.toList:=fun hm=>by have:=(World.ownsRow.lt hT ge (by simpa using hm)).2;omega
  have s0_10:=f5.q 0 s0_8
  have s6_11:=f5.q 6 s6_4
  refine go_regz (S6 g w5 β n s.trace cs [.int .i64 imm,va,.int .u64 av] (fun tv=>#[s.prog,s.memo,.int .u64 (s.r 0),.int .u64 (s.r 1),.int .u64 (s.r 2),.int .u64 (s.r 3),.int .u64 (s.r 4),.int .u64 (s.r 5),.int .u64 (s.r 6),.int .u64 (s.r 7),.int .u64 (s.r 8),.int .u64 (s.r 9),.int .u64 (s.r 10),.int .i64 s.set,.int .i64 s.at_,.int .i64 s.fuel,.slice (some ⟨ab,o2,none⟩) (L - 1) (ca - 1),tv,.int .i8 s.fin]) 78) [6,7,10] [46,47] [some (.pointer (some ⟨g,0,none⟩)),some (.pointer (some ⟨g,0,none⟩)),some (.pointer (some ⟨g,0,none⟩)),some (.pointer (some ⟨g,17,none⟩)),some (s.trace),some (.agg #[.int .i64 imm,va,.int .u64 av]),none,none,some (.pointer (some ⟨g,0,none⟩)),some (.pointer (some ⟨g,17,none⟩)),none] mo S6.loc f5.d f5.z (by kernel_rfl) (fun fl w1 hfl b _=>S6.start b (hfl 6 (by decide)) (hfl 7 (by decide)) (hfl 10 (by decide))) (
   zc (@fun fl ax wx cx=>cx.v (ex_mv rfl (cx.rq 0 s0_10)) rfl rfl) <|
   zc (@fun fl ax wx cx=>cx.v (ex_mv rfl (cx.rq 0 s0_10)) rfl rfl) <|
   zc (@fun fl ax wx cx=>cx.v (ex_nc rfl (cx.u 0 rfl)) rfl rfl) <|
   zc (@fun fl ax wx cx=>cx.v (ex_fa rfl (cx.u 0 rfl) (faML78_7_0 _ _)) rfl rfl) <|
   zc (@fun fl ax wx cx=>cx.v (ex_ld rfl (cx.u 0 rfl) (brow (cx.S.was (cx.later 7 (by kernel_rfl)) (cx.later 10 (by kernel_rfl))) rg6) rfl Tryz.isAgg31) rfl rfl) <|
   zc (@fun fl ax wx cx=>cx.v (exec_loadR 103 _ rfl ge 0 (cx.rq 6 s6_11) (brow (cx.S.was0 (cx.later 6 (by kernel_rfl))) re6) [.int .i64 imm,va,.int .u64 av] rfl _ Tryz.underlying103 rfl (by kernel_rfl)) rfl rfl) <|
   zc (@fun fl ax wx cx=>cx.vt rfl (ex_bs1 rfl (cx.u 0 rfl)) rfl rfl trivial (S6.lay cx.S cx.fi (cx.later 7 (by kernel_rfl)) (cx.later 10 (by kernel_rfl)) (slot_new cx.sz rfl))) <|
   zc (@fun fl ax wx cx=>(by
       obtain ⟨lb,gs,e46,rgs⟩:=cx.S.laid (cx.did 1 rfl rfl) cx.fi (cx.later 10 (by kernel_rfl))
       obtain ⟨v9,w9,hr,own,gr,_⟩:=ex_app (ρ:=ax.eval) (x:=.tmp 44) (y:=.tmp 46) (cx.is rfl) (cx.u 0 rfl) e46 (Trc.own_below ownT6 lb) hn4 rfl (by intro u hu;simp only [List.mem_cons,List.not_mem_nil,or_false] at hu;rcases hu with rfl | rfl | rfl <;> first | rfl | exact hva1) rgs (Nat.le_trans hβ (Nat.le_trans k5.size lb.size))
       exact cx.vt rfl hr rfl rfl trivial (S6.app cx.S (cx.did 1 rfl rfl) cx.fi (cx.later 10 (by kernel_rfl)) own gr (slot_new cx.sz rfl)))) <|
   zc (@fun fl ax wx cx=>cx.v (ex_nc rfl (cx.u 0 rfl)) rfl rfl) <|
   zc (@fun fl ax wx cx=>cx.v (ex_fa rfl (cx.u 0 rfl) (faML78_7_0 _ _)) rfl rfl) <|
   zc (@fun fl ax wx cx=>(by
       have dn:=cx.S.done (cx.did 1 rfl rfl) cx.fi
       have hr:=dn.2.row rg6 ngT
       have sl:=own_slice dn.1
       exact cx.st rfl (exec_storeC 31 (.tmp 49) (.tmp 47) rfl g 17 (slotOf ax 47) (cx.u 0 rfl) rfl sl.1 sl.2 (by kernel_rfl) hr (show 17 < 19 by decide)) rfl trivial (S6.store cx.S (cx.did 1 rfl rfl) cx.fi (stored_setCell hr 17 (slotOf ax 47)) hr (by decide)))) <|
   zn) ?_
  intro a6 w6 f6
  obtain ⟨fl6,hf6,hs6⟩:=f6.s
  obtain ⟨oT6,tr6,bg6⟩:=S6.fin hs6 (hf6 10 (by decide)) (hf6 7 (by decide))
  obtain ⟨tv,htv⟩:∃ tv,tv=slotOf a6 47:=⟨_,rfl⟩
  rw [← htv] at oT6 bg6
  have be6:=tr6.row re6 (by simp only [List.mem_cons,not_or];exact ⟨nge,geT⟩)
  have k6:=(k5.weak (fun k hk=>by simp at hk;simp [hk])).trans tr6
  have ma6:=ma5.trans tr6
  refine wp_seq ?_
  have rg7:w6.heap[g]?=some (.cells #[s.prog,s.memo,.int .u64 (s.r 0),.int .u64 (s.r 1),.int .u64 (s.r 2),.int .u64 (s.r 3),.int .u64 (s.r 4),.int .u64 (s.r 5),.int .u64 (s.r 6),.int .u64 (s.r 7),.int .u64 (s.r 8),.int .u64 (s.r 9),.int .u64 (s.r 10),.int .i64 s.set,.int .i64 s.at_,.int .i64 s.fuel,.slice (some ⟨ab,o2,none⟩) (L - 1) (ca - 1),tv,.int .i8 s.fin] 78 (0,0)):=bg6
  have re7:w6.heap[ge]?=some (.cells #[.int .i64 imm,va,.int .u64 av] 103 (0,0)):=be6
  have s5_12:=f6.q 5 (f5.q 5 (f4.q 5 (f3.v 4 rfl rfl rfl)))
  refine go_regz (S1 1 g w6 #[s.prog,s.memo,.int .u64 (s.r 0),.int .u64 0,.int .u64 0,.int .u64 0,.int .u64 0,.int .u64 0,.int .u64 (s.r 6),.int .u64 (s.r 7),.int .u64 (s.r 8),.int .u64 (s.r 9),.int .u64 (s.r 10),.int .i64 s.set,.int .i64 s.at_,.int .i64 s.fuel,.slice (some ⟨ab,o2,none⟩) (L - 1) (ca - 1),tv,.int .i8 s.fin] 78) [1] [] [some (.slice (some ⟨g,3,none⟩) 5 10),none] mo S1.loc f6.d f6.z (by kernel_rfl) (fun fl w1 hfl b _=>S1.start b (hfl 1 (by decide))) (
   zc (@fun fl ax wx cx=>cx.v (ex_mv rfl (cx.rq 5 s5_12)) rfl rfl) <|
   zc (@fun fl ax wx cx=>(by
       obtain ⟨w9,hr,r9,t9⟩:=ex_clear (ρ:=ax.eval) (x:=.tmp 50) (cx.is rfl) (cx.u 0 rfl) (brow (cx.S.was cx.fi) rg7) rfl rfl
       exact wpOp_valw cx.ho (wn rfl) hr ⟨_,rfl,trivial,S1.turn cx.S cx.fi t9 r9⟩)) <|
   zn) ?_
  intro a7 w7 f7
  obtain ⟨fl7,hf7,hs7⟩:=f7.s
  obtain ⟨tr7,bg7⟩:=S1.fin hs7 (hf7 1 (by decide))
  have be7:=tr7.row re7 (by simpa using nge)
  have k7:=k6.trans (tr7.weak (fun k hk=>by simp at hk;simp [hk]))
  have ma7:=ma6.trans (tr7.weak (fun k hk=>by simp at hk;simp [hk]))
  have mt7:=(Trn.refl w6 (G:=[g])).trans (tr7.weak (fun k hk=>by simp at hk;simp [hk]))
  refine wp_seq ?_
  have s0_13:=f7.q 0 (f6.q 0 s0_10)
  refine go_reg [⟨g,78,#[s.prog,s.memo,.int .u64 (s.r 0),.int .u64 0,.int .u64 0,.int .u64 0,.int .u64 0,.int .u64 0,.int .u64 (s.r 6),.int .u64 (s.r 7),.int .u64 (s.r 8),.int .u64 (s.r 9),.int .u64 (s.r 10),.int .i64 s.set,.int .i64 s.at_,.int .i64 s.fuel,.slice (some ⟨ab,o2,none⟩) (L - 1) (ca - 1),tv,.int .i8 s.fin],some 8,#[s.prog,s.memo,.int .u64 (s.r 0),.int .u64 0,.int .u64 0,.int .u64 0,.int .u64 0,.int .u64 0,.int .u64 (s.r 6),.int .u64 (s.r 7),.int .u64 (s.r 8),.int .u64 (s.r 9),.int .u64 (s.r 10),.int .i64 (bits .andNot .i64 s.set (argsM 5)),.int .i64 s.at_,.int .i64 s.fuel,.slice (some ⟨ab,o2,none⟩) (L - 1) (ca - 1),tv,.int .i8 s.fin]⟩] [] [some (pt g 0),some (pt g 0),some (pt g 13),some (.int .i64 s.set),some (.int .i64 (argsM 5)),some (.int .i64 (bits .andNot .i64 s.set (argsM 5))),some (pt g 0),some (pt g 13),none] mo f7.d f7.z (bare_of k7) (by kernel_rfl) ⟨bg7,trivial⟩ (
   hk (fun cx=>cx.v (ex_mv rfl (cx.rq 0 s0_13)) rfl rfl) <|
   hk (fun cx=>cx.v (ex_nc rfl (cx.u 0 rfl)) rfl rfl) <|
   hk (fun cx=>cx.v (ex_fa rfl (cx.u 0 rfl) (faML78_3_0 _ _)) rfl rfl) <|
   hk (fun cx=>cx.v (ex_ld rfl (cx.u 0 rfl) (cx.rf 0 rfl (by kernel_rfl)) rfl Tryz.isAgg3) rfl rfl) <|
   hc (fun _ _ wx cx=>cx.c rfl (args1 rfl) Tryz.func71 (by decide +kernel) (((arguments_any 5 wx (by omega) (by omega)).mono (by rintro e w' ⟨rfl,rfl⟩;exact ⟨rfl,Below.refl _ _⟩))) rfl rfl) <|
   hc (fun _ ax _ cx=>cx.v ((by simp [execOp,Act.eval,(show ax.tmps.getD 54 undef=.int .i64 s.set from (cx.u 0 rfl)),(show ax.tmps.getD 55 undef=.int .i64 (argsM 5) from (cx.u 1 rfl)),go_sem])) rfl rfl) <|
   hk (fun cx=>cx.v (ex_nc rfl (cx.u 0 rfl)) rfl rfl) <|
   hk (fun cx=>cx.v (ex_fa rfl (cx.u 0 rfl) (faML78_3_0 _ _)) rfl rfl) <|
   hk (fun cx=>cx.stC (wn rfl) rfl rfl 0 rfl (cx.u 0 rfl) (cx.u 1 rfl) rfl rfl (by kernel_rfl) rfl rfl (Nat.zero_le _) rfl trivial trivial) <|
   hn) ?_
  intro a8 w8 f8
  have k8:=k7.trans (f8.trn (bare_of k7) ⟨.inr (by simp),trivial⟩)
  have ma8:=ma7.trans (f8.trn (bare_of k7) ⟨.inr (by simp),trivial⟩)
  have mt8:=mt7.trans (f8.trn (bare_of k7) ⟨.inr (by simp),trivial⟩)
  refine wp_seq ?_
  have rg9:w8.heap[g]?=some (.cells #[s.prog,s.memo,.int .u64 (s.r 0),.int .u64 0,.int .u64 0,.int .u64 0,.int .u64 0,.int .u64 0,.int .u64 (s.r 6),.int .u64 (s.r 7),.int .u64 (s.r 8),.int .u64 (s.r 9),.int .u64 (s.r 10),.int .i64 (bits .andNot .i64 s.set (argsM 5)),.int .i64 s.at_,.int .i64 s.fuel,.slice (some ⟨ab,o2,none⟩) (L - 1) (ca - 1),tv,.int .i8 s.fin] 78 (0,0)):=f8.rows.1
  have b_ge_14:=f8.kp be7 ⟨.inr nge,trivial⟩
  have re9:w8.heap[ge]?=some (.cells #[.int .i64 imm,va,.int .u64 av] 103 (0,0)):=b_ge_14
  have s0_15:=f8.q 0 s0_13
  have s6_16:=f8.q 6 (f7.q 6 (f6.q 6 s6_11))
  refine go_regz (S1 3 g w8 #[s.prog,s.memo,.int .u64 av,.int .u64 0,.int .u64 0,.int .u64 0,.int .u64 0,.int .u64 0,.int .u64 (s.r 6),.int .u64 (s.r 7),.int .u64 (s.r 8),.int .u64 (s.r 9),.int .u64 (s.r 10),.int .i64 (orM (bits .andNot .i64 s.set (argsM 5)) (onlyI 0)),.int .i64 s.at_,.int .i64 s.fuel,.slice (some ⟨ab,o2,none⟩) (L - 1) (ca - 1),tv,.int .i8 s.fin] 78) [3] [] [some (.pointer (some ⟨g,0,none⟩)),some (.pointer (some ⟨ge,2,none⟩)),some (.int .u64 av),none] mo S1.loc f8.d f8.z (by kernel_rfl) (fun fl w1 hfl b _=>S1.start b (hfl 3 (by decide))) (
   zc (@fun fl ax wx cx=>cx.v (ex_mv rfl (cx.rq 0 s0_15)) rfl rfl) <|
   zc (@fun fl ax wx cx=>cx.v (ex_fa rfl (cx.rq 6 s6_16) (faML103_2_0 _ _)) rfl rfl) <|
   zc (@fun fl ax wx cx=>cx.v (ex_ld rfl (cx.u 0 rfl) (brow (cx.S.was (cx.later 3 (by kernel_rfl))) re9) rfl Tryz.isAgg30) rfl rfl) <|
   zc (@fun fl ax wx cx=>cx.ct rfl rfl (args3 (cx.u 0 rfl) rfl (cx.u 1 rfl)) Tryz.func29 (by decide +kernel) rfl rfl ((PUT ({ s with r:=fun k=>match k with | 0=>s.r 0 | 1=>0 | 2=>0 | 3=>0 | 4=>0 | 5=>0 | k=>s.r k,set:=bits .andNot .i64 s.set (argsM 5),answers:=.slice (some ⟨ab,o2,none⟩) (L - 1) (ca - 1),trace:=tv }:Mo) av wx (brow (cx.S.was cx.fi) rg9)).mono (by
       rintro e w' ⟨⟨vx,rfl⟩,r9,t9⟩
       exact ⟨vx,rfl,trivial,S1.turn cx.S cx.fi (But.trn t9) r9⟩))) <|
   zn) ?_
  intro a9 w9 f9
  obtain ⟨fl9,hf9,hs9⟩:=f9.s
  obtain ⟨tr9,bg9⟩:=S1.fin hs9 (hf9 3 (by decide))
  have be9:=tr9.row re9 (by simpa using nge)
  have k9:=k8.trans (tr9.weak (fun k hk=>by simp at hk;simp [hk]))
  have ma9:=ma8.trans (tr9.weak (fun k hk=>by simp at hk;simp [hk]))
  have mt9:=mt8.trans (tr9.weak (fun k hk=>by simp at hk;simp [hk]))
  refine wp_seq ?_
  refine go_reg [] [] [some (.int .i8 0)] mo f9.d f9.z (bare_of k9) (by kernel_rfl) trivial (
   hk (fun cx=>cx.v (ex_as rfl rfl) rfl rfl) <|
   hn) ?_
  intro a10 w10 f10
  have k10:=k9.trans (f10.trn (bare_of k9) trivial)
  have ma10:=ma9.trans (f10.trn (bare_of k9) trivial)
  have mt10:=mt9.trans (f10.trn (bare_of k9) trivial)
  refine wp_ret ?_
  try simp only [Exit.inBlock,Exit.then]
  refine bodyPost_ret (res_t (fn:=Tryz.f35) rfl (f10.v 0 rfl rfl rfl)) f10.d ?_
  have b_g_17:=f10.k bg9
  exact ⟨rfl,va,tv,own_trn oa4 ma10 (fun j hj=>by simp only [List.mem_cons];exact apa j hj),own_trn oT6 mt10 (fun j hj=>by simpa using own_ne oT6 bg6 (show 103 ≠ 78 by decide) j hj),b_g_17,k10⟩
end Go.Proofs.YtigliofiojkhcaaGreat.Mdl
