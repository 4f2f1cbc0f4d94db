import Derived.Test.YtigliofiojkhcaaGreatMRn18
import Derived.RangeFuncBound
set_option linter.unusedVariables false
set_option linter.unusedSimpArgs false
set_option linter.unnecessarySimpa false
namespace Go.Proofs.YtigliofiojkhcaaGreat.Mdl
open Go.RowKit
set_option linter.unusedVariables false
set_option linter.unusedSimpArgs false
set_option maxRecDepth 100000
def Yr (E:Env) (D:Pl) (pre:List Int) (x:Int) (W:World):Prop:=∃ k,Goes E D k ∧ 0 < (its E D k).fuel ∧ pre=ats E D k ∧ x=(its E D k).at_ ∧ Rel E (its E D k) W
def Done (E:Env) (D:Pl) (m:Nat):Prop:=(Goes E D m ∧ ¬ 0 < (its E D m).fuel) ∨ ∃ k,m=k + 1 ∧ Goes E D k ∧ 0 < (its E D k).fuel ∧ (its E D m).fin ≠ 0
def Sr (E:Env) (D:Pl) (xs:List Int) (W:World):Prop:=∃ m,Done E D m ∧ xs=ats E D m ∧ Rel E (its E D m) W
def Spr (E:Env) (D:Pl) (pre:List Int) (W:World):Prop:=∃ k,Goes E D k ∧ 0 < (its E D k).fuel ∧ pre=ats E D (k + 1)
theorem same_row {w w':World} {g:Nat} {o:Obj} (e:w'=w) (h:w.heap[g]?=some o):w'.heap[g]?=some o:=by rw [e];exact h
section
variable {ρ:Operand → Value} {o:Oper} {w:World} {x y:Operand}
theorem ex_ixI {pa po pl pc i:Nat} (ho:o.op=.indexAddr 22 x y) (hx:ρ x=.slice (some ⟨pa,po,none⟩) pl pc) (hy:ρ y=.int .i64 (i:Int)) (hi:i < pl):(execOp ρ o).run Tryz.prog w=.ok (.value (.pointer (some ⟨pa,po + i * 9,none⟩))) w:=by
  simp [execOp,ho,hx,hy,go_sem]
  omega
theorem ex_ldX {pa po i:Nat} {c:Array Value} {X:Ins.In} (ho:o.op=.load 52 x) (hx:ρ x=.pointer (some ⟨pa,po + i * 9,none⟩)) (hr:w.heap[pa]?=some (.cells c 52 (0,0))) (h:∀ j v,X.cells[j]?=some v → c[po + i * 9 + j]?=some v):(execOp ρ o).run Tryz.prog w=.ok (.value (.agg X.cells)) w:=by
  refine exec_loadR 52 x ho pa (po + i * 9) hx hr X.cells.toList ?_ _ Tryz.underlying52 rfl (by kernel_rfl)
  apply List.ext_getElem?
  intro j
  rw [List.getElem?_take,List.getElem?_drop]
  by_cases hj:j < 9
  · have hs:X.cells.toList.length=9:=rfl
    rw [if_pos (by rw [hs];exact hj)]
    have hl:j < X.cells.size:=hj
    have:=h j _ (Array.getElem?_eq_getElem hl)
    rw [Array.getElem?_toList,this,Array.getElem?_toList,Array.getElem?_eq_getElem hl]
  · have hs:X.cells.toList.length=9:=rfl
    rw [if_neg (by rw [hs];exact hj)]
    exact (List.getElem?_eq_none (by rw [hs];omega)).symm
theorem ex_ixE {g k:Nat} (ho:o.op=.indexAddr 82 x y) (hx:ρ x=.pointer (some ⟨g,0,none⟩)) (hy:ρ y=.int .i8 (k:Int)) (hk:k < 7):(execOp ρ o).run Tryz.prog w=.ok (.value (.pointer (some ⟨g,k,none⟩))) w:=by
  simp [execOp,ho,hx,hy,go_sem]
  omega
end
theorem adv_wrap1 {z:Int} (h:0 < z) (h2:z ≤ 10000):IntKind.i64.wrap (z - 1)=z - 1:=by rw [IntKind.wrap_i64];omega
theorem adv_wrap2 {z:Int} (h:0 ≤ z) (h2:z ≤ 64):IntKind.i64.wrap (z + 1)=z + 1:=by rw [IntKind.wrap_i64];omega
theorem step_fin (D:Pl) (kf:Nat → Int) (x:Ins.In):(D.step kf x).fin=0 ∨ (D.step kf x).fin=1 ∨ (D.step kf x).fin=2 ∨ (D.step kf x).fin=3:=by
  unfold Pl.step
  split
  · exact exe_fin D.adv kf x
  · exact .inr (.inr (.inr rfl))
theorem row_ne {w:World} {g h:Nat} {c c':Array Value} {t t':TypeId} {fr fr':Nat × Nat} (h1:w.heap[g]?=some (.cells c t fr)) (h2:w.heap[h]?=some (.cells c' t' fr')) (n:t ≠ t'):g ≠ h:=fun e=>by
  subst e
  rw [h1] at h2;simp at h2;exact n h2.2.1
theorem ne_of {w:World} {G:List Nat} {T U:TypeId} (h:∀ j ∈ G,∃ c ty fr,w.heap[j]?=some (.cells c ty fr) ∧ ty=T) (n:T ≠ U):∀ j ∈ G,∃ c ty fr,w.heap[j]?=some (.cells c ty fr) ∧ ty ≠ U:=fun j hj=>by
  obtain ⟨c,ty,fr,h1,rfl⟩:=h j hj
  exact ⟨c,_,fr,h1,n⟩
theorem ne_of2 {w:World} {G:List Nat} {T U V:TypeId} (h:∀ j ∈ G,∃ c ty fr,w.heap[j]?=some (.cells c ty fr) ∧ ty=T) (n:T ≠ U) (m:T ≠ V):∀ j ∈ G,∃ c ty fr,w.heap[j]?=some (.cells c ty fr) ∧ ty ≠ U ∧ ty ≠ V:=fun j hj=>by
  obtain ⟨c,ty,fr,h1,rfl⟩:=h j hj
  exact ⟨c,_,fr,h1,n,m⟩
theorem Rel.keepT {E:Env} {D:Pl} {w w':World} (R:Rel E D w) (t:Trn [E.g] w w') (h:w'.heap[E.g]?=w.heap[E.g]?):Rel E D w' ∧ TurnT τM E.β w w':=by
  obtain ⟨av,tv,hin,hA,hT⟩:=R.st
  exact R.turnG hin hA hT (by unfold Mo.in_ at hin ⊢;rw [h];exact hin) t rfl rfl rfl R.words
theorem kind_nat {x:Ins.In} (h:Ins.mayI x=true):∃ kn:Nat,x.kind=kn ∧ kn < 7:=by
  obtain ⟨_,_,_,_,hc⟩:=Ins.mayI_cases h
  rcases hc with ⟨h,_⟩ | ⟨h,_⟩ | ⟨h,_⟩ | ⟨h,_⟩ | ⟨h,_⟩ | ⟨h,_⟩ | ⟨h,_⟩
  · exact ⟨0,h,by decide⟩
  · exact ⟨1,h,by decide⟩
  · exact ⟨2,h,by decide⟩
  · exact ⟨3,h,by decide⟩
  · exact ⟨4,h,by decide⟩
  · exact ⟨5,h,by decide⟩
  · exact ⟨6,h,by decide⟩
def methL (g:Nat):Array Value:=#[.func (.func 30) #[.pointer (some ⟨g,0,none⟩)] #[],.func (.func 31) #[.pointer (some ⟨g,0,none⟩)] #[],.func (.func 32) #[.pointer (some ⟨g,0,none⟩)] #[],.func (.func 33) #[.pointer (some ⟨g,0,none⟩)] #[],.func (.func 34) #[.pointer (some ⟨g,0,none⟩)] #[],.func (.func 35) #[.pointer (some ⟨g,0,none⟩)] #[],.func (.func 36) #[.pointer (some ⟨g,0,none⟩)] #[]]
theorem methE {E:Env} {k:Int} {kn:Nat} (h:k=kn) (h7:kn < 7):(methL E.g)[kn]?=some (.func (.func (methF k)) #[.pointer (some ⟨E.g,0,none⟩)] #[]):=by
  subst h
  have:kn=0 ∨ kn=1 ∨ kn=2 ∨ kn=3 ∨ kn=4 ∨ kn=5 ∨ kn=6:=by omega
  rcases this with rfl | rfl | rfl | rfl | rfl | rfl | rfl <;> rfl
theorem methT (k:Int) (args:Array Value) (w:World):(callFunc (methF k) args).run Tryz.prog w=.ok (.enter (methF k) args) w:=by
  unfold methF
  (repeat' split) <;> simp [callFunc,go_sem,Tryz.func30,Tryz.f30,Tryz.func31,Tryz.f31,Tryz.func32,Tryz.f32,Tryz.func33,Tryz.f33,Tryz.func34,Tryz.f34,Tryz.func35,Tryz.f35,Tryz.func36,Tryz.f36]
theorem exec_dyn {ρ:Operand → Value} {o:Oper} {w:World} {x y:Operand} {ts:Array TypeId} {f:Nat} {g v:Value} (ho:o.op=.call ⟨.value x,#[y],ts⟩) (hx:ρ x=.func (.func f) #[g] #[]) (hy:ρ y=v) (h:∀ args w,(callFunc f args).run Tryz.prog w=.ok (.enter f args) w):(execOp ρ o).run Tryz.prog w=.ok (.enter f #[g,v]) w:=by
  simp only [execOp,ho,List.map_toArray,List.map_cons,List.map_nil,resolve,hx,hy,Deferred.ofValue,invoke,Sem.run_bind,Sem.run_pure,Result.andThen_ok]
  simpa using h #[g,v] w
theorem step_yes {D:Pl} {kf:Nat → Int} {x:Ins.In} (h:(andM D.set (readsM x) == readsM x)=true):D.step kf x={ (D.adv.exe kf x).1 with fin:=(D.adv.exe kf x).2 }:=by unfold Pl.step;rw [if_pos h]
theorem step_no {D:Pl} {kf:Nat → Int} {x:Ins.In} (h:(andM D.set (readsM x) == readsM x)=false):D.step kf x=D.adv:=by unfold Pl.step;rw [if_neg (by rw [h];decide)]
def S7 (A B C:World → Prop) (fl:Nat → Bool) (u:Nat → Value) (w:World):Prop:=(fl 6=false ∧ fl 9=false ∧ A w) ∨ (fl 6=true ∧ fl 9=false ∧ B w) ∨ (fl 6=true ∧ fl 9=true ∧ C w)
section
variable {A B C:World → Prop} {fl:Nat → Bool} {u:Nat → Value} {w:World}
theorem S7.loc:Loc [6,9] [] (S7 A B C):=by
  intro fl fl' u u' w hK hD h
  unfold S7 at *
  rw [hK 6 (by decide),hK 9 (by decide)]
  exact h
theorem S7.was (h:S7 A B C fl u w) (f:fl 6=false):A w:=by
  rcases h with h | h | h
  · exact h.2.2
  · rw [f] at h;cases h.1
  · rw [f] at h;cases h.1
theorem S7.was0 (h:S7 A B C fl u w) (f:fl 6=false) (f9:fl 9=false):A w:=h.was f
theorem S7.mid (h:S7 A B C fl u w) (f:fl 6=true) (f9:fl 9=false):B w:=by
  rcases h with h | h | h
  · rw [f] at h;cases h.1
  · exact h.2.2
  · rw [f9] at h;cases h.2.1
theorem S7.fin (h:S7 A B C fl u w) (f9:fl 9=true):C w:=by
  rcases h with h | h | h
  · rw [f9] at h;cases h.2.1
  · rw [f9] at h;cases h.2.1
  · exact h.2.2
end
theorem S7.row {R1 R2:World → Prop} {β:Nat} {w0 w:World} {fl:Nat → Bool} {u:Nat → Value} (h:S7 (fun w=>Below w0.heap.size w0 w) (fun w=>R1 w ∧ TurnT τM β w0 w) (fun w=>R2 w ∧ TurnT τM β w0 w) fl u w) {g:Nat} {c:Array Value} {t:TypeId} {fr:Nat × Nat} (hr:w0.heap[g]?=some (.cells c t fr)) (hn:τM t=false):w.heap[g]?=some (.cells c t fr):=by
  rcases h with h | h | h
  · exact brow h.2.2 hr
  · exact Turn.row h.2.2.2 hr hn
  · exact Turn.row h.2.2.2 hr hn
theorem faMR78_0_0 (g:Nat) (w:World):(Instr.fieldAt 78 (.pointer (some ⟨g,0,none⟩)) 0).run Tryz.prog w=.ok (.pointer (some ⟨g,0,none⟩)) w:=by simp [go_sem]
theorem faMR78_4_0 (g:Nat) (w:World):(Instr.fieldAt 78 (.pointer (some ⟨g,0,none⟩)) 4).run Tryz.prog w=.ok (.pointer (some ⟨g,14,none⟩)) w:=by simp [go_sem]
theorem faMR78_5_0 (g:Nat) (w:World):(Instr.fieldAt 78 (.pointer (some ⟨g,0,none⟩)) 5).run Tryz.prog w=.ok (.pointer (some ⟨g,15,none⟩)) w:=by simp [go_sem]
theorem faMR78_8_0 (g:Nat) (w:World):(Instr.fieldAt 78 (.pointer (some ⟨g,0,none⟩)) 8).run Tryz.prog w=.ok (.pointer (some ⟨g,18,none⟩)) w:=by simp [go_sem]
theorem faMR52_0_0 (g:Nat) (w:World):(Instr.fieldAt 52 (.pointer (some ⟨g,0,none⟩)) 0).run Tryz.prog w=.ok (.pointer (some ⟨g,0,none⟩)) w:=by simp [go_sem]
theorem faMR78_5 (g:Nat) (w:World):(Instr.fieldAt 78 (.pointer (some ⟨g,0,none⟩)) 5).run Tryz.prog w=.ok (.pointer (some ⟨g,15,none⟩)) w:=by simp [go_sem]
theorem faMR78_4 (g:Nat) (w:World):(Instr.fieldAt 78 (.pointer (some ⟨g,0,none⟩)) 4).run Tryz.prog w=.ok (.pointer (some ⟨g,14,none⟩)) w:=by simp [go_sem]
set_option maxHeartbeats 40000000 in
theorem run_seq (E:Env) (F:Fine E) (D0:Pl) (H0:Runs E D0) (hfin:D0.fin=0) (n:Nat) (w0:World) (R0:Rel E D0 w0):SeqT τM σM E.β n Tryz.prog 15 #[.pointer (some ⟨E.g,0,none⟩)] #[] (fun x:Int=>#[.int .i64 x]) (Yr E D0) (Sr E D0) (Spr E D0) w0:=by
  have mo:Tryz.prog.follows .mixedOrders=true:=by kernel_rfl
  intro l J Jx W hB hJ hJx hY hJ0
  have R:=(R0.still hB).1
  refine callsIn_wide.2 ?_
  show Calls Tryz.prog _ #[.pointer (some ⟨E.g,0,none⟩),.func (.yield l) #[] #[]] W _
  refine calls_abs Tryz.func15 rfl (Nat.le_of_ble_eq_true rfl) ?_
  intro a0 d0 z0 h0
  replace z0:a0.tmps.size=82:=z0
  have s0_0:a0.tmps.getD 0 undef=.pointer (some ⟨E.g,0,none⟩):=h0 0 (Nat.le_of_ble_eq_true rfl)
  have s1_0:a0.tmps.getD 1 undef=.func (.yield l) #[] #[]:=h0 1 (Nat.le_of_ble_eq_true rfl)
  have k0:Trn ([]:List Nat) W W:=Trn.refl W
  refine wp_scope_straight ?_
  refine wp_seq ?_
  refine go_reg [] [⟨15,4,82,#[.nilFunc,.nilFunc,.nilFunc,.nilFunc,.nilFunc,.nilFunc,.nilFunc],some 16,#[.func (.func 30) #[.pointer (some ⟨E.g,0,none⟩)] #[],.func (.func 31) #[.pointer (some ⟨E.g,0,none⟩)] #[],.func (.func 32) #[.pointer (some ⟨E.g,0,none⟩)] #[],.func (.func 33) #[.pointer (some ⟨E.g,0,none⟩)] #[],.func (.func 34) #[.pointer (some ⟨E.g,0,none⟩)] #[],.func (.func 35) #[.pointer (some ⟨E.g,0,none⟩)] #[],.func (.func 36) #[.pointer (some ⟨E.g,0,none⟩)] #[]]⟩] [some (pt E.g 0),some (.func (.func 30) #[.pointer (some ⟨E.g,0,none⟩)] #[]),some (pt E.g 0),some (.func (.func 31) #[.pointer (some ⟨E.g,0,none⟩)] #[]),some (pt E.g 0),some (.func (.func 32) #[.pointer (some ⟨E.g,0,none⟩)] #[]),some (pt E.g 0),some (.func (.func 33) #[.pointer (some ⟨E.g,0,none⟩)] #[]),some (pt E.g 0),some (.func (.func 34) #[.pointer (some ⟨E.g,0,none⟩)] #[]),some (pt E.g 0),some (.func (.func 35) #[.pointer (some ⟨E.g,0,none⟩)] #[]),some (pt E.g 0),some (.func (.func 36) #[.pointer (some ⟨E.g,0,none⟩)] #[]),some (.agg #[.func (.func 30) #[.pointer (some ⟨E.g,0,none⟩)] #[],.func (.func 31) #[.pointer (some ⟨E.g,0,none⟩)] #[],.func (.func 32) #[.pointer (some ⟨E.g,0,none⟩)] #[],.func (.func 33) #[.pointer (some ⟨E.g,0,none⟩)] #[],.func (.func 34) #[.pointer (some ⟨E.g,0,none⟩)] #[],.func (.func 35) #[.pointer (some ⟨E.g,0,none⟩)] #[],.func (.func 36) #[.pointer (some ⟨E.g,0,none⟩)] #[]]),none,none] mo d0 z0 (bare_of k0) (by kernel_rfl) trivial (
   hk (fun cx=>cx.v (ex_mv rfl (cx.rq 0 s0_0)) rfl rfl) <|
   hc (fun _ ax _ cx=>cx.v ((by simp [execOp,Act.eval,(show ax.tmps.getD 6 undef=.pointer (some ⟨E.g,0,none⟩) from (cx.u 0 rfl)),go_sem,Instr.makeFunc])) rfl rfl) <|
   hk (fun cx=>cx.v (ex_mv rfl (cx.rq 0 s0_0)) rfl rfl) <|
   hc (fun _ ax _ cx=>cx.v ((by simp [execOp,Act.eval,(show ax.tmps.getD 8 undef=.pointer (some ⟨E.g,0,none⟩) from (cx.u 0 rfl)),go_sem,Instr.makeFunc])) rfl rfl) <|
   hk (fun cx=>cx.v (ex_mv rfl (cx.rq 0 s0_0)) rfl rfl) <|
   hc (fun _ ax _ cx=>cx.v ((by simp [execOp,Act.eval,(show ax.tmps.getD 10 undef=.pointer (some ⟨E.g,0,none⟩) from (cx.u 0 rfl)),go_sem,Instr.makeFunc])) rfl rfl) <|
   hk (fun cx=>cx.v (ex_mv rfl (cx.rq 0 s0_0)) rfl rfl) <|
   hc (fun _ ax _ cx=>cx.v ((by simp [execOp,Act.eval,(show ax.tmps.getD 12 undef=.pointer (some ⟨E.g,0,none⟩) from (cx.u 0 rfl)),go_sem,Instr.makeFunc])) rfl rfl) <|
   hk (fun cx=>cx.v (ex_mv rfl (cx.rq 0 s0_0)) rfl rfl) <|
   hc (fun _ ax _ cx=>cx.v ((by simp [execOp,Act.eval,(show ax.tmps.getD 14 undef=.pointer (some ⟨E.g,0,none⟩) from (cx.u 0 rfl)),go_sem,Instr.makeFunc])) rfl rfl) <|
   hk (fun cx=>cx.v (ex_mv rfl (cx.rq 0 s0_0)) rfl rfl) <|
   hc (fun _ ax _ cx=>cx.v ((by simp [execOp,Act.eval,(show ax.tmps.getD 16 undef=.pointer (some ⟨E.g,0,none⟩) from (cx.u 0 rfl)),go_sem,Instr.makeFunc])) rfl rfl) <|
   hk (fun cx=>cx.v (ex_mv rfl (cx.rq 0 s0_0)) rfl rfl) <|
   hc (fun _ ax _ cx=>cx.v ((by simp [execOp,Act.eval,(show ax.tmps.getD 18 undef=.pointer (some ⟨E.g,0,none⟩) from (cx.u 0 rfl)),go_sem,Instr.makeFunc])) rfl rfl) <|
   hk (fun cx=>cx.v (exec_build rfl (parts7 (cx.u 0 rfl) (cx.u 1 rfl) (cx.u 2 rfl) (cx.u 3 rfl) (cx.u 4 rfl) (cx.u 5 rfl) (cx.u 6 rfl)) (by kernel_rfl)) rfl rfl) <|
   hk (fun cx=>cx.al (wn rfl) 0 rfl (by simp [execOp,Act.eval,go_sem]) rfl rfl rfl rfl (by kernel_rfl) trivial) <|
   hk (fun cx=>cx.stA (wn rfl) rfl rfl 0 0 rfl rfl rfl rfl (cx.u 1 rfl) (by kernel_rfl) rfl (by simp [Value.oneCell']) (bare_of k0).size rfl rfl trivial) <|
   hn) ?_
  intro a1 w1 f1
  obtain ⟨g1,u_g1,q_g1,b_g1⟩:=f1.al.1
  have k1:=k0.trans (f1.trn (bare_of k0) trivial)
  have st1:=R.still k1.below
  refine wp_seq ?_
  refine wp_label ?_
  refine wp_block ?_
  refine wp_loop_ghost (fun q a w=>∃ k,q=(its E D0 k).fuel.toNat ∧ Goes E D0 k ∧ (a.defers=[] ∧ a.tmps.size=82 ∧ a.tmps.getD 0 undef=.pointer (some ⟨E.g,0,none⟩) ∧ a.tmps.getD 1 undef=.func (.yield l) #[] #[] ∧ a.tmps.getD 4 undef=.pointer (some ⟨g1,0,none⟩)) ∧ Rel E (its E D0 k) w ∧ w.heap[g1]?=some (.cells #[.func (.func 30) #[.pointer (some ⟨E.g,0,none⟩)] #[],.func (.func 31) #[.pointer (some ⟨E.g,0,none⟩)] #[],.func (.func 32) #[.pointer (some ⟨E.g,0,none⟩)] #[],.func (.func 33) #[.pointer (some ⟨E.g,0,none⟩)] #[],.func (.func 34) #[.pointer (some ⟨E.g,0,none⟩)] #[],.func (.func 35) #[.pointer (some ⟨E.g,0,none⟩)] #[],.func (.func 36) #[.pointer (some ⟨E.g,0,none⟩)] #[]] 82 (0,0)) ∧ J (ats E D0 k) w) _ ⟨0,rfl,Goes.zero E D0,⟨f1.d,f1.z,f1.q 0 s0_0,f1.q 1 s1_0,u_g1⟩,st1.1,b_g1,hJ _ _ _ hJ0 st1.2⟩ ?_
  rintro q a w ⟨k,rfl,hg,⟨d1,z1,t0,t1,t4⟩,Rk,bex,hj⟩
  obtain ⟨av,tv,hin,hA,hT⟩:=Rk.st
  have hg1:w.heap[E.g]?=some (.cells #[.slice (some ⟨E.pa,E.po,none⟩) E.pl E.pc,.pointer (some ⟨E.b,0,none⟩),.int .u64 ((its E D0 k).r 0),.int .u64 ((its E D0 k).r 1),.int .u64 ((its E D0 k).r 2),.int .u64 ((its E D0 k).r 3),.int .u64 ((its E D0 k).r 4),.int .u64 ((its E D0 k).r 5),.int .u64 ((its E D0 k).r 6),.int .u64 ((its E D0 k).r 7),.int .u64 ((its E D0 k).r 8),.int .u64 ((its E D0 k).r 9),.int .u64 ((its E D0 k).r 10),.int .i64 ((its E D0 k).set),.int .i64 ((its E D0 k).at_),.int .i64 ((its E D0 k).fuel),av,tv,.int .i8 ((its E D0 k).fin)] 78 (0,0)):=hin
  refine wp_seq ?_
  refine wp_seq ?_
  refine (wpIn_wide (n:=n)).1 ?_
  by_cases hf:0 < (its E D0 k).fuel
  case neg=>
    refine go_regi (F:=Fence.wide) (m:=n) (fun fl u w'=>w'=w) [] [] [some (.pointer (some ⟨E.g,0,none⟩)),some (.pointer (some ⟨E.g,0,none⟩)),some (.pointer (some ⟨E.g,15,none⟩)),some (.int .i64 ((its E D0 k).fuel)),some (.bool false),some (.bool false),some (undef),some (undef),some (undef),some (undef),some (undef),some (undef),some (.bool false)] (fun fl fl' u u' w hK hD h=>h) d1 z1 (by kernel_rfl) (fun fl h=>rfl) (
     xc (@fun fl ax wx cx sq=>cx.iv (fun _=>trivial) (ex_mv rfl (cx.rq 0 t0)) rfl rfl rfl) <|
     xc (@fun fl ax wx cx sq=>cx.iv (fun _=>trivial) (ex_nc rfl (cx.u 0 rfl)) rfl rfl rfl) <|
     xc (@fun fl ax wx cx sq=>cx.iv (fun _=>trivial) (ex_fa rfl (cx.u 0 rfl) (faMR78_5 E.g _)) rfl rfl rfl) <|
     xc (@fun fl ax wx cx sq=>cx.iv (fun _=>trivial) (ex_ld rfl (cx.u 0 rfl) (same_row cx.S hg1) rfl Tryz.isAgg3) rfl rfl rfl) <|
     xc (@fun fl ax wx cx sq=>cx.iv (fun _=>trivial) ((ex_gt (x:=.tmp 24) rfl (cx.u 0 rfl) rfl).trans (by rw [decide_eq_false hf])) rfl rfl rfl) <|
     xc (@fun fl ax wx cx sq=>cx.iv (fun _=>trivial) (ex_mv rfl (cx.u 0 rfl)) rfl rfl rfl) <|
     xc (@fun fl ax wx cx sq=>cx.ino (fun _=>trivial) (cx.wo rfl rfl rfl rfl (cx.u 0 rfl) rfl) rfl rfl rfl rfl) <|
     xc (@fun fl ax wx cx sq=>cx.ino (fun _=>trivial) (cx.wo rfl rfl rfl rfl (cx.u 0 rfl) rfl) rfl rfl rfl rfl) <|
     xc (@fun fl ax wx cx sq=>cx.ino (fun _=>trivial) (cx.wo rfl rfl rfl rfl (cx.u 1 rfl) rfl) rfl rfl rfl rfl) <|
     xc (@fun fl ax wx cx sq=>cx.ino (fun _=>trivial) (cx.wo rfl rfl rfl rfl (cx.u 1 rfl) rfl) rfl rfl rfl rfl) <|
     xc (@fun fl ax wx cx sq=>cx.ino (fun _=>trivial) (cx.wo rfl rfl rfl rfl (cx.u 1 rfl) rfl) rfl rfl rfl rfl) <|
     xc (@fun fl ax wx cx sq=>cx.ino (fun _=>trivial) (cx.wo rfl rfl rfl rfl (cx.u 2 rfl) rfl) rfl rfl rfl rfl) <|
     xc (@fun fl ax wx cx sq=>cx.iv (fun _=>trivial) (ex_pf rfl (cx.u 0 rfl) rfl) rfl rfl rfl) <|
     xn) ?_
    intro a2 w2 f2
    refine wp_cond_false (f2.v 12 rfl rfl rfl) ?_
    refine wp_exit ?_
    obtain ⟨fl,_,rfl⟩:=f2.s
    exact ⟨f2.d,_,results_none rfl _ _ _,⟨_,rfl⟩,.inl ⟨_,⟨k,.inl ⟨hg,hf⟩,rfl,Rk⟩,hj⟩⟩
  case pos=>
    refine go_regi (F:=Fence.wide) (m:=n) (fun fl u w'=>(fl 11=false ∧ w'=w) ∨ (fl 11=true ∧ (fl 12=true → u 33=u 32) ∧ ((u 32=.bool true ∧ J (ats E D0 (k + 1)) w' ∧ KeepT σM w w') ∨ (u 32=.bool false ∧ Jx (ats E D0 (k + 1)) w')))) [11,12] [32,33] [some (.pointer (some ⟨E.g,0,none⟩)),some (.pointer (some ⟨E.g,0,none⟩)),some (.pointer (some ⟨E.g,15,none⟩)),some (.int .i64 ((its E D0 k).fuel)),some (.bool true),some (.bool true),some (.func (.yield l) #[] #[]),some (.pointer (some ⟨E.g,0,none⟩)),some (.pointer (some ⟨E.g,0,none⟩)),some (.pointer (some ⟨E.g,14,none⟩)),some (.int .i64 ((its E D0 k).at_)),none,none] (by intro fl fl' u u' w hK hD h;simp only [hK 11 (by decide),hK 12 (by decide),hD 32 (by decide),hD 33 (by decide)];exact h) d1 z1 (by kernel_rfl) (fun fl h=>.inl ⟨h 11 (by decide),rfl⟩) (
     xc (@fun fl ax wx cx sq=>cx.iv (fun _=>trivial) (ex_mv rfl (cx.rq 0 t0)) rfl rfl rfl) <|
     xc (@fun fl ax wx cx sq=>cx.iv (fun _=>trivial) (ex_nc rfl (cx.u 0 rfl)) rfl rfl rfl) <|
     xc (@fun fl ax wx cx sq=>cx.iv (fun _=>trivial) (ex_fa rfl (cx.u 0 rfl) (faMR78_5 E.g _)) rfl rfl rfl) <|
     xc (@fun fl ax wx cx sq=>cx.iv (fun _=>trivial) (ex_ld rfl (cx.u 0 rfl) (same_row (cx.S.elim (fun h=>h.2) (fun h=>absurd h.1 (by rw [sq 11 (by decide) (by decide)];decide))) hg1) rfl Tryz.isAgg3) rfl rfl rfl) <|
     xc (@fun fl ax wx cx sq=>cx.iv (fun _=>trivial) ((ex_gt (x:=.tmp 24) rfl (cx.u 0 rfl) rfl).trans (by rw [decide_eq_true hf])) rfl rfl rfl) <|
     xc (@fun fl ax wx cx sq=>cx.iv (fun _=>trivial) (ex_mv rfl (cx.u 0 rfl)) rfl rfl rfl) <|
     xc (@fun fl ax wx cx sq=>cx.ival (fun _=>trivial) (cx.wy rfl rfl rfl rfl (cx.u 0 rfl)) (ex_mv rfl (cx.rq 1 t1)) rfl rfl rfl rfl rfl) <|
     xc (@fun fl ax wx cx sq=>cx.ival (fun _=>trivial) (cx.wy rfl rfl rfl rfl (cx.u 0 rfl)) (ex_mv rfl (cx.rq 0 t0)) rfl rfl rfl rfl rfl) <|
     xc (@fun fl ax wx cx sq=>cx.ival (fun _=>trivial) (cx.wy rfl rfl rfl rfl (cx.u 1 rfl)) (ex_nc rfl (cx.u 0 rfl)) rfl rfl rfl rfl rfl) <|
     xc (@fun fl ax wx cx sq=>cx.ival (fun _=>trivial) (cx.wy rfl rfl rfl rfl (cx.u 1 rfl)) (ex_fa rfl (cx.u 0 rfl) (faMR78_4 E.g _)) rfl rfl rfl rfl rfl) <|
     xc (@fun fl ax wx cx sq=>cx.ival (fun _=>trivial) (cx.wy rfl rfl rfl rfl (cx.u 1 rfl)) (ex_ld rfl (cx.u 0 rfl) (same_row (cx.S.elim (fun h=>h.2) (fun h=>absurd h.1 (by rw [sq 11 (by decide) (by decide)];decide))) hg1) rfl Tryz.isAgg3) rfl rfl rfl rfl rfl) <|
     xc (@fun fl ax wx cx sq=>by
       have e:=(show wx=w from (cx.S.elim (fun h=>h.2) (fun h=>absurd h.1 (by rw [sq 11 (by decide) (by decide)];decide))))
       refine wpOpIn_yield (fun _=>trivial) rfl cx.ho (cx.wy rfl rfl rfl rfl (cx.u 2 rfl)) rfl (cx.u 0 rfl) (cx.u 1 rfl) ?_
       rw [e]
       refine YieldAt.mono (hY _ _ w hj ⟨k,hg,hf,rfl,rfl,Rk⟩) ?_
       rw [← ats_succ]
       rintro e w9 (⟨rfl,h1,h2⟩ | ⟨rfl,h1,h2⟩)
       · exact ⟨_,rfl,_,rfl,trivial,.inr ⟨upd_new _ _,fun h=>absurd ((upd_old fl rfl).symm.trans h) (by rw [sq 12 (by decide) (by decide)];decide),.inl ⟨slot_new cx.sz rfl,h1,h2⟩⟩⟩
       · exact ⟨_,rfl,_,rfl,trivial,.inr ⟨upd_new _ _,fun h=>absurd ((upd_old fl rfl).symm.trans h) (by rw [sq 12 (by decide) (by decide)];decide),.inr ⟨slot_new cx.sz rfl,h1⟩⟩⟩) <|
     xc (@fun fl ax wx cx sq=>by
       refine wpOpIn_v (fun _=>trivial) cx.ho (wn rfl) (noDefer_of rfl) (ex_pt rfl (cx.u 0 rfl) rfl) ⟨_,rfl,trivial,?_⟩
       rcases cx.S with h | ⟨h,_,h2⟩
       · exact absurd h.1 (by rw [show fl 11=true from cx.did 1 rfl rfl];decide)
       · exact .inr ⟨(upd_old fl rfl).trans h,fun _=>(slot_new cx.sz rfl).trans (slot_old rfl).symm,by rw [show slotOf (ax.put (some 33) _) 32=slotOf ax 32 from slot_old rfl];exact h2⟩) <|
     xn) ?_
    intro a2 w2 f2
    obtain ⟨fl,hfl,hs⟩:=f2.s
    rcases hs with hs | ⟨_,h33,hs⟩
    · exact absurd hs.1 (by rw [hfl 11 (by decide)];decide)
    have h33:=h33 (hfl 12 (by decide))
    rcases hs with ⟨h32,hj2,kp⟩ | ⟨h32,hj2⟩
    case inr=>
      refine wp_cond_false (show a2.tmps.getD 33 undef=.bool false from h33.trans h32) ?_
      refine wp_exit ?_
      exact ⟨f2.d,_,results_none rfl _ _ _,⟨_,rfl⟩,.inr ⟨_,⟨k,hg,hf,rfl⟩,hj2⟩⟩
    case inl=>
      refine wp_cond_true (show a2.tmps.getD 33 undef=.bool true from h33.trans h32) ?_
      refine wp_skip ?_
      obtain ⟨D,hD⟩:∃ D,D=its E D0 k:=⟨_,rfl⟩
      have Rk2:=Rk.keep kp
      have runs:=H0.its F k hg
      have hfD:0 < D.fuel:=hD ▸ hf
      rw [← hD] at Rk2 runs
      obtain ⟨D2,e2⟩:∃ D2,D2=(D.step E.kf (E.x D.ix)):=⟨_,rfl⟩
      have hD2:D2=its E D0 (k + 1):=by rw [e2,hD];rfl
      have lessF:(its E D0 (k + 1)).fuel.toNat < (its E D0 k).fuel.toNat:=by rw [← hD2,e2,step_fuel,← hD];omega
      obtain ⟨hix,hat⟩:=runs.ix
      have hfew:=runs.few
      have hlen:=F.len
      have hmay:=F.may D.ix hix
      have adv1:1 ≤ D.adv.at_:=by show 1 ≤ D.at_ + 1;omega
      have adv2:D.adv.at_ ≤ 64:=by show D.at_ + 1 ≤ 64;omega
      have adv3:D.adv.evs.length ≤ 10000:=by show D.evs.length ≤ 10000;omega
      have HW1:IntKind.i64.wrap (D.fuel - 1)=D.fuel - 1:=adv_wrap1 hfD (by omega)
      have HW2:IntKind.i64.wrap (D.at_ + 1)=D.at_ + 1:=adv_wrap2 (by omega) (by omega)
      have bx2:=kp.same _ _ bex rfl
      clear hin hA hT hg1
      obtain ⟨av,tv,hin2,hA2,hT2⟩:=Rk2.st
      have hg2:w2.heap[E.g]?=some (.cells #[.slice (some ⟨E.pa,E.po,none⟩) E.pl E.pc,.pointer (some ⟨E.b,0,none⟩),.int .u64 (D.r 0),.int .u64 (D.r 1),.int .u64 (D.r 2),.int .u64 (D.r 3),.int .u64 (D.r 4),.int .u64 (D.r 5),.int .u64 (D.r 6),.int .u64 (D.r 7),.int .u64 (D.r 8),.int .u64 (D.r 9),.int .u64 (D.r 10),.int .i64 D.set,.int .i64 D.at_,.int .i64 D.fuel,av,tv,.int .i8 D.fin] 78 (0,0)):=hin2
      obtain ⟨pc,hp2,hpc⟩:=Rk2.pr
      have hpc2:=hpc D.ix hix
      have npg:E.pa ≠ E.g:=row_ne hp2 hg2 (by decide)
      have nxg:g1 ≠ E.g:=row_ne bx2 hg2 (by decide)
      have npx:E.pa ≠ g1:=row_ne hp2 bx2 (by decide)
      have hgt:∀ j ∈ [E.g],∃ c ty fr,w2.heap[j]?=some (.cells c ty fr) ∧ ty=78:=fun j hj=>by
        rw [List.mem_singleton] at hj;subst hj
        exact ⟨_,_,_,hg2,rfl⟩
      have hnu:=ne_of hgt (U:=30) (by decide)
      have hni:=ne_of hgt (U:=52) (by decide)
      have hnue:=ne_of2 hgt (U:=30) (V:=103) (by decide) (by decide)
      have hnm:=ne_of2 hgt (U:=111) (V:=5) (by decide) (by decide)
      have htm:∀ j ∈ [E.g],E.β ≤ j ∧ ∃ c t fr,w2.heap[j]?=some (.cells c t fr) ∧ τM t=true:=fun j hj=>by
        obtain ⟨c,ty,fr,h1,rfl⟩:=hgt j hj
        rw [List.mem_singleton] at hj;subst hj
        exact ⟨Rk2.far.1,c,_,fr,h1,by decide⟩
      have m0:Trn [E.g] w2 w2:=Trn.refl w2
      have u0:=f2.q 0 t0
      have u1:=f2.q 1 t1
      have u4:=f2.q 4 t4
      refine wp_block ?_
      refine wp_seq ?_
      refine go_reg [bx E.pa 52 pc,bx E.g 78 #[.slice (some ⟨E.pa,E.po,none⟩) E.pl E.pc,.pointer (some ⟨E.b,0,none⟩),.int .u64 (D.r 0),.int .u64 (D.r 1),.int .u64 (D.r 2),.int .u64 (D.r 3),.int .u64 (D.r 4),.int .u64 (D.r 5),.int .u64 (D.r 6),.int .u64 (D.r 7),.int .u64 (D.r 8),.int .u64 (D.r 9),.int .u64 (D.r 10),.int .i64 D.set,.int .i64 D.at_,.int .i64 D.fuel,av,tv,.int .i8 D.fin]] [⟨10,5,52,#[.int .i8 0,.int .i8 0,.int .i8 0,.int .i8 0,.bool false,.int .i8 0,.int .i8 0,.int .i64 0,.int .i64 0],some 11,#[.int .i8 ((E.x D.ix).kind),.int .i8 ((E.x D.ix).op),.int .i8 ((E.x D.ix).width),.int .i8 ((E.x D.ix).size),.bool ((E.x D.ix).byReg),.int .i8 ((E.x D.ix).dst),.int .i8 ((E.x D.ix).src),.int .i64 ((E.x D.ix).off),.int .i64 ((E.x D.ix).imm)]⟩] [some (pt E.g 0),some (pt E.g 0),some (pt E.g 0),some (.slice (some ⟨E.pa,E.po,none⟩) E.pl E.pc),some (pt E.g 0),some (pt E.g 0),some (pt E.g 14),some (.int .i64 D.at_),some (pt E.pa (E.po + D.ix * 9)),some (.agg #[.int .i8 ((E.x D.ix).kind),.int .i8 ((E.x D.ix).op),.int .i8 ((E.x D.ix).width),.int .i8 ((E.x D.ix).size),.bool ((E.x D.ix).byReg),.int .i8 ((E.x D.ix).dst),.int .i8 ((E.x D.ix).src),.int .i64 ((E.x D.ix).off),.int .i64 ((E.x D.ix).imm)]),none,none] mo f2.d f2.z (bare_of m0) (by kernel_rfl) ⟨hp2,hg2,trivial⟩ (
       hk (fun cx=>cx.v (ex_mv rfl (cx.rq 0 u0)) rfl rfl) <|
       hk (fun cx=>cx.v (ex_nc rfl (cx.u 0 rfl)) rfl rfl) <|
       hk (fun cx=>cx.v (ex_fa rfl (cx.u 0 rfl) (faMR78_0_0 _ _)) rfl rfl) <|
       hk (fun cx=>cx.v (ex_ld rfl (cx.u 0 rfl) (cx.rn 1 rfl) rfl Tryz.isAgg22) rfl rfl) <|
       hk (fun cx=>cx.v (ex_mv rfl (cx.rq 0 u0)) rfl rfl) <|
       hk (fun cx=>cx.v (ex_nc rfl (cx.u 0 rfl)) rfl rfl) <|
       hk (fun cx=>cx.v (ex_fa rfl (cx.u 0 rfl) (faMR78_4_0 _ _)) rfl rfl) <|
       hk (fun cx=>cx.v (ex_ld rfl (cx.u 0 rfl) (cx.rn 1 rfl) rfl Tryz.isAgg3) rfl rfl) <|
       hk (fun cx=>cx.v ((ex_ixI rfl (cx.u 0 rfl) (((cx.u 1 rfl)).trans (by rw [hat])) hix)) rfl rfl) <|
       hk (fun cx=>cx.v ((ex_ldX (X:=(E.x D.ix)) rfl (cx.u 0 rfl) (cx.rn 0 rfl) hpc2)) rfl rfl) <|
       hk (fun cx=>cx.al (wn rfl) 0 rfl (by simp [execOp,Act.eval,go_sem]) rfl rfl rfl rfl (by kernel_rfl) trivial) <|
       hk (fun cx=>cx.stA (wn rfl) rfl rfl 0 0 rfl rfl rfl rfl (cx.u 1 rfl) (by kernel_rfl) rfl (by simp [Value.oneCell']) (bare_of m0).size rfl rfl trivial) <|
       hn) ?_
      intro a21 w21 f21
      obtain ⟨g4,u_g4,q_g4,b_g4⟩:=f21.al.1
      have k21:=m0.trans (f21.trn (bare_of m0) ⟨.inl rfl,.inl rfl,trivial⟩)
      refine wp_seq ?_
      have b_E.g_1:=f21.k hg2
      have s0_2:=f21.q 0 u0
      refine go_reg [⟨E.g,78,#[.slice (some ⟨E.pa,E.po,none⟩) E.pl E.pc,.pointer (some ⟨E.b,0,none⟩),.int .u64 (D.r 0),.int .u64 (D.r 1),.int .u64 (D.r 2),.int .u64 (D.r 3),.int .u64 (D.r 4),.int .u64 (D.r 5),.int .u64 (D.r 6),.int .u64 (D.r 7),.int .u64 (D.r 8),.int .u64 (D.r 9),.int .u64 (D.r 10),.int .i64 D.set,.int .i64 D.at_,.int .i64 D.fuel,av,tv,.int .i8 D.fin],some 7,#[.slice (some ⟨E.pa,E.po,none⟩) E.pl E.pc,.pointer (some ⟨E.b,0,none⟩),.int .u64 (D.r 0),.int .u64 (D.r 1),.int .u64 (D.r 2),.int .u64 (D.r 3),.int .u64 (D.r 4),.int .u64 (D.r 5),.int .u64 (D.r 6),.int .u64 (D.r 7),.int .u64 (D.r 8),.int .u64 (D.r 9),.int .u64 (D.r 10),.int .i64 D.set,.int .i64 D.at_,.int .i64 (D.fuel - 1),av,tv,.int .i8 D.fin]⟩] [] [some (pt E.g 0),some (pt E.g 0),some (pt E.g 15),some (.int .i64 D.fuel),some (.int .i64 (D.fuel - 1)),some (pt E.g 0),some (pt E.g 15),none] mo f21.d f21.z (bare_of k21) (by kernel_rfl) ⟨b_E.g_1,trivial⟩ (
       hk (fun cx=>cx.v (ex_mv rfl (cx.rq 0 s0_2)) rfl rfl) <|
       hk (fun cx=>cx.v (ex_nc rfl (cx.u 0 rfl)) rfl rfl) <|
       hk (fun cx=>cx.v (ex_fa rfl (cx.u 0 rfl) (faMR78_5_0 _ _)) rfl rfl) <|
       hk (fun cx=>cx.v (ex_ld rfl (cx.u 0 rfl) (cx.rf 0 rfl (by kernel_rfl)) rfl Tryz.isAgg3) rfl rfl) <|
       hk (fun cx=>cx.v (ex_sub (x:=.tmp 47) rfl (cx.u 0 rfl) rfl) rfl (congrArg (Value.int .i64) HW1)) <|
       hk (fun cx=>cx.v (ex_nc rfl (cx.u 0 rfl)) rfl rfl) <|
       hk (fun cx=>cx.v (ex_fa rfl (cx.u 0 rfl) (faMR78_5_0 _ _)) rfl rfl) <|
       hk (fun cx=>cx.stC (wn rfl) rfl rfl 0 rfl (cx.u 0 rfl) (cx.u 1 rfl) rfl rfl (by kernel_rfl) rfl rfl (Nat.zero_le _) rfl trivial trivial) <|
       hn) ?_
      intro a22 w22 f22
      have k22:=k21.trans (f22.trn (bare_of k21) ⟨.inr (by simp),trivial⟩)
      refine wp_seq ?_
      have s0_3:=f22.q 0 s0_2
      refine go_reg [⟨E.g,78,#[.slice (some ⟨E.pa,E.po,none⟩) E.pl E.pc,.pointer (some ⟨E.b,0,none⟩),.int .u64 (D.r 0),.int .u64 (D.r 1),.int .u64 (D.r 2),.int .u64 (D.r 3),.int .u64 (D.r 4),.int .u64 (D.r 5),.int .u64 (D.r 6),.int .u64 (D.r 7),.int .u64 (D.r 8),.int .u64 (D.r 9),.int .u64 (D.r 10),.int .i64 D.set,.int .i64 D.at_,.int .i64 (D.fuel - 1),av,tv,.int .i8 D.fin],some 7,#[.slice (some ⟨E.pa,E.po,none⟩) E.pl E.pc,.pointer (some ⟨E.b,0,none⟩),.int .u64 (D.r 0),.int .u64 (D.r 1),.int .u64 (D.r 2),.int .u64 (D.r 3),.int .u64 (D.r 4),.int .u64 (D.r 5),.int .u64 (D.r 6),.int .u64 (D.r 7),.int .u64 (D.r 8),.int .u64 (D.r 9),.int .u64 (D.r 10),.int .i64 D.set,.int .i64 (D.at_ + 1),.int .i64 (D.fuel - 1),av,tv,.int .i8 D.fin]⟩] [] [some (pt E.g 0),some (pt E.g 0),some (pt E.g 14),some (.int .i64 D.at_),some (.int .i64 (D.at_ + 1)),some (pt E.g 0),some (pt E.g 14),none] mo f22.d f22.z (bare_of k22) (by kernel_rfl) ⟨f22.rows.1,trivial⟩ (
       hk (fun cx=>cx.v (ex_mv rfl (cx.rq 0 s0_3)) rfl rfl) <|
       hk (fun cx=>cx.v (ex_nc rfl (cx.u 0 rfl)) rfl rfl) <|
       hk (fun cx=>cx.v (ex_fa rfl (cx.u 0 rfl) (faMR78_4_0 _ _)) rfl rfl) <|
       hk (fun cx=>cx.v (ex_ld rfl (cx.u 0 rfl) (cx.rf 0 rfl (by kernel_rfl)) rfl Tryz.isAgg3) rfl rfl) <|
       hk (fun cx=>cx.v (ex_add (x:=.tmp 54) rfl (cx.u 0 rfl) rfl) rfl (congrArg (Value.int .i64) HW2)) <|
       hk (fun cx=>cx.v (ex_nc rfl (cx.u 0 rfl)) rfl rfl) <|
       hk (fun cx=>cx.v (ex_fa rfl (cx.u 0 rfl) (faMR78_4_0 _ _)) rfl rfl) <|
       hk (fun cx=>cx.stC (wn rfl) rfl rfl 0 rfl (cx.u 0 rfl) (cx.u 1 rfl) rfl rfl (by kernel_rfl) rfl rfl (Nat.zero_le _) rfl trivial trivial) <|
       hn) ?_
      intro a23 w23 f23
      have k23:=k22.trans (f23.trn (bare_of k22) ⟨.inr (by simp),trivial⟩)
      refine wp_seq ?_
      have s0_4:=f23.q 0 s0_3
      refine go_reg [⟨E.g,78,#[.slice (some ⟨E.pa,E.po,none⟩) E.pl E.pc,.pointer (some ⟨E.b,0,none⟩),.int .u64 (D.r 0),.int .u64 (D.r 1),.int .u64 (D.r 2),.int .u64 (D.r 3),.int .u64 (D.r 4),.int .u64 (D.r 5),.int .u64 (D.r 6),.int .u64 (D.r 7),.int .u64 (D.r 8),.int .u64 (D.r 9),.int .u64 (D.r 10),.int .i64 D.set,.int .i64 (D.at_ + 1),.int .i64 (D.fuel - 1),av,tv,.int .i8 D.fin],some 3,#[.slice (some ⟨E.pa,E.po,none⟩) E.pl E.pc,.pointer (some ⟨E.b,0,none⟩),.int .u64 (D.r 0),.int .u64 (D.r 1),.int .u64 (D.r 2),.int .u64 (D.r 3),.int .u64 (D.r 4),.int .u64 (D.r 5),.int .u64 (D.r 6),.int .u64 (D.r 7),.int .u64 (D.r 8),.int .u64 (D.r 9),.int .u64 (D.r 10),.int .i64 D.set,.int .i64 (D.at_ + 1),.int .i64 (D.fuel - 1),av,tv,.int .i8 3]⟩] [] [some (pt E.g 0),some (pt E.g 0),some (pt E.g 18),none] mo f23.d f23.z (bare_of k23) (by kernel_rfl) ⟨f23.rows.1,trivial⟩ (
       hk (fun cx=>cx.v (ex_mv rfl (cx.rq 0 s0_4)) rfl rfl) <|
       hk (fun cx=>cx.v (ex_nc rfl (cx.u 0 rfl)) rfl rfl) <|
       hk (fun cx=>cx.v (ex_fa rfl (cx.u 0 rfl) (faMR78_8_0 _ _)) rfl rfl) <|
       hk (fun cx=>cx.stC (wn rfl) rfl rfl 0 rfl (cx.u 0 rfl) rfl rfl rfl (by kernel_rfl) rfl rfl (Nat.zero_le _) rfl trivial trivial) <|
       hn) ?_
      intro a24 w24 f24
      have k24:=k23.trans (f24.trn (bare_of k23) ⟨.inr (by simp),trivial⟩)
      refine wp_cut (fun aI wI=>aI.defers=[] ∧ aI.tmps.size=82 ∧ aI.tmps.getD 0 undef=.pointer (some ⟨E.g,0,none⟩) ∧ aI.tmps.getD 1 undef=.func (.yield l) #[] #[] ∧ aI.tmps.getD 4 undef=.pointer (some ⟨g1,0,none⟩) ∧ Rel E D2 wI ∧ wI.heap[g1]?=some (.cells #[.func (.func 30) #[.pointer (some ⟨E.g,0,none⟩)] #[],.func (.func 31) #[.pointer (some ⟨E.g,0,none⟩)] #[],.func (.func 32) #[.pointer (some ⟨E.g,0,none⟩)] #[],.func (.func 33) #[.pointer (some ⟨E.g,0,none⟩)] #[],.func (.func 34) #[.pointer (some ⟨E.g,0,none⟩)] #[],.func (.func 35) #[.pointer (some ⟨E.g,0,none⟩)] #[],.func (.func 36) #[.pointer (some ⟨E.g,0,none⟩)] #[]] 82 (0,0)) ∧ J (ats E D0 (k + 1)) wI) ?_ ?_
      case refine_1=>
        refine wp_seq ?_
        cases fk1:andM D.set (readsM (E.x D.ix)) == (readsM (E.x D.ix))
        case false=>
         have Ffk1:=Lib.hid fk1;clear fk1
         have b_g4_5:=f24.kp (f23.kp (f22.kp b_g4 ⟨.inr (ne_row hg2 q_g4).symm,trivial⟩) ⟨.inr (ne_row hg2 q_g4).symm,trivial⟩) ⟨.inr (ne_row hg2 q_g4).symm,trivial⟩
         have s0_6:=f24.q 0 s0_4
         have s5_7:=f24.q 5 (f23.q 5 (f22.q 5 u_g4))
         refine go_reg [bx E.g 78 #[.slice (some ⟨E.pa,E.po,none⟩) E.pl E.pc,.pointer (some ⟨E.b,0,none⟩),.int .u64 (D.r 0),.int .u64 (D.r 1),.int .u64 (D.r 2),.int .u64 (D.r 3),.int .u64 (D.r 4),.int .u64 (D.r 5),.int .u64 (D.r 6),.int .u64 (D.r 7),.int .u64 (D.r 8),.int .u64 (D.r 9),.int .u64 (D.r 10),.int .i64 D.set,.int .i64 (D.at_ + 1),.int .i64 (D.fuel - 1),av,tv,.int .i8 3],bx g4 52 #[.int .i8 ((E.x D.ix).kind),.int .i8 ((E.x D.ix).op),.int .i8 ((E.x D.ix).width),.int .i8 ((E.x D.ix).size),.bool ((E.x D.ix).byReg),.int .i8 ((E.x D.ix).dst),.int .i8 ((E.x D.ix).src),.int .i64 ((E.x D.ix).off),.int .i64 ((E.x D.ix).imm)]] [] [some (pt E.g 0),some (.agg #[.int .i8 ((E.x D.ix).kind),.int .i8 ((E.x D.ix).op),.int .i8 ((E.x D.ix).width),.int .i8 ((E.x D.ix).size),.bool ((E.x D.ix).byReg),.int .i8 ((E.x D.ix).dst),.int .i8 ((E.x D.ix).src),.int .i64 ((E.x D.ix).off),.int .i64 ((E.x D.ix).imm)]),some (.int .i64 (readsM (E.x D.ix))),some (.bool false)] mo f24.d f24.z (bare_of k24) (by kernel_rfl) ⟨f24.rows.1,b_g4_5,trivial⟩ (
          hk (fun cx=>cx.v (ex_mv rfl (cx.rq 0 s0_6)) rfl rfl) <|
          hk (fun cx=>cx.v (exec_loadR 52 _ rfl g4 0 (cx.rq 5 s5_7) (cx.rn 1 rfl) [.int .i8 ((E.x D.ix).kind),.int .i8 ((E.x D.ix).op),.int .i8 ((E.x D.ix).width),.int .i8 ((E.x D.ix).size),.bool ((E.x D.ix).byReg),.int .i8 ((E.x D.ix).dst),.int .i8 ((E.x D.ix).src),.int .i64 ((E.x D.ix).off),.int .i64 ((E.x D.ix).imm)] rfl _ Tryz.underlying52 rfl (by kernel_rfl)) rfl rfl) <|
          hc (fun _ _ wx cx=>cx.c rfl (args1 (cx.u 0 rfl)) Tryz.func38 (by decide +kernel) (reads_any (E.x D.ix) wx hmay) rfl rfl) <|
          hc (fun _ _ wx cx=>cx.c rfl (args2 (cx.u 0 rfl) (cx.u 1 rfl)) Tryz.func37 (by decide +kernel) (((mayRead_any (E.mo D.adv av tv) E.g (readsM (E.x D.ix)) wx (cx.rn 0 rfl)).mono (by rintro e w' ⟨rfl,rfl⟩;exact ⟨rfl,Below.refl _ _⟩))) rfl (congrArg Value.bool Ffk1.out)) <|
          hn) ?_
         intro a25 w25 f25
         have k25:=k24.trans (f25.trn (bare_of k24) ⟨.inl rfl,.inl rfl,trivial⟩)
         refine wp_cond_false (f25.v 3 rfl rfl rfl) ?_
         refine wp_skip ?_
         have b_E.g_8:=f25.k f24.rows.1
         have R8:=Rk2.turnG (D':=D.adv) hin2 hA2 hT2 b_E.g_8 k25 rfl rfl rfl Rk2.words
         have s0_9:=f25.q 0 s0_6
         have s1_10:=f25.q 1 (f24.q 1 (f23.q 1 (f22.q 1 (f21.q 1 u1))))
         have s4_11:=f25.q 4 (f24.q 4 (f23.q 4 (f22.q 4 (f21.q 4 u4))))
         exact ⟨f25.d,f25.z,s0_9,s1_10,s4_11,(by rw [e2,step_no Ffk1.out];exact R8.1),Turn.row R8.2 bx2 (by decide),hJ _ _ _ hj2 R8.2⟩
        have Ffk1:=Lib.hid fk1;clear fk1
        have b_g4_12:=f24.kp (f23.kp (f22.kp b_g4 ⟨.inr (ne_row hg2 q_g4).symm,trivial⟩) ⟨.inr (ne_row hg2 q_g4).symm,trivial⟩) ⟨.inr (ne_row hg2 q_g4).symm,trivial⟩
        have s0_13:=f24.q 0 s0_4
        have s5_14:=f24.q 5 (f23.q 5 (f22.q 5 u_g4))
        refine go_reg [bx E.g 78 #[.slice (some ⟨E.pa,E.po,none⟩) E.pl E.pc,.pointer (some ⟨E.b,0,none⟩),.int .u64 (D.r 0),.int .u64 (D.r 1),.int .u64 (D.r 2),.int .u64 (D.r 3),.int .u64 (D.r 4),.int .u64 (D.r 5),.int .u64 (D.r 6),.int .u64 (D.r 7),.int .u64 (D.r 8),.int .u64 (D.r 9),.int .u64 (D.r 10),.int .i64 D.set,.int .i64 (D.at_ + 1),.int .i64 (D.fuel - 1),av,tv,.int .i8 3],bx g4 52 #[.int .i8 ((E.x D.ix).kind),.int .i8 ((E.x D.ix).op),.int .i8 ((E.x D.ix).width),.int .i8 ((E.x D.ix).size),.bool ((E.x D.ix).byReg),.int .i8 ((E.x D.ix).dst),.int .i8 ((E.x D.ix).src),.int .i64 ((E.x D.ix).off),.int .i64 ((E.x D.ix).imm)]] [] [some (pt E.g 0),some (.agg #[.int .i8 ((E.x D.ix).kind),.int .i8 ((E.x D.ix).op),.int .i8 ((E.x D.ix).width),.int .i8 ((E.x D.ix).size),.bool ((E.x D.ix).byReg),.int .i8 ((E.x D.ix).dst),.int .i8 ((E.x D.ix).src),.int .i64 ((E.x D.ix).off),.int .i64 ((E.x D.ix).imm)]),some (.int .i64 (readsM (E.x D.ix))),some (.bool true)] mo f24.d f24.z (bare_of k24) (by kernel_rfl) ⟨f24.rows.1,b_g4_12,trivial⟩ (
         hk (fun cx=>cx.v (ex_mv rfl (cx.rq 0 s0_13)) rfl rfl) <|
         hk (fun cx=>cx.v (exec_loadR 52 _ rfl g4 0 (cx.rq 5 s5_14) (cx.rn 1 rfl) [.int .i8 ((E.x D.ix).kind),.int .i8 ((E.x D.ix).op),.int .i8 ((E.x D.ix).width),.int .i8 ((E.x D.ix).size),.bool ((E.x D.ix).byReg),.int .i8 ((E.x D.ix).dst),.int .i8 ((E.x D.ix).src),.int .i64 ((E.x D.ix).off),.int .i64 ((E.x D.ix).imm)] rfl _ Tryz.underlying52 rfl (by kernel_rfl)) rfl rfl) <|
         hc (fun _ _ wx cx=>cx.c rfl (args1 (cx.u 0 rfl)) Tryz.func38 (by decide +kernel) (reads_any (E.x D.ix) wx hmay) rfl rfl) <|
         hc (fun _ _ wx cx=>cx.c rfl (args2 (cx.u 0 rfl) (cx.u 1 rfl)) Tryz.func37 (by decide +kernel) (((mayRead_any (E.mo D.adv av tv) E.g (readsM (E.x D.ix)) wx (cx.rn 0 rfl)).mono (by rintro e w' ⟨rfl,rfl⟩;exact ⟨rfl,Below.refl _ _⟩))) rfl (congrArg Value.bool Ffk1.out)) <|
         hn) ?_
        intro a26 w26 f26
        have k26:=k24.trans (f26.trn (bare_of k24) ⟨.inl rfl,.inl rfl,trivial⟩)
        refine wp_cond_true (f26.v 3 rfl rfl rfl) ?_
        have b_E.g_15:=f26.k f24.rows.1
        have rg7:w26.heap[E.g]?=some (.cells #[.slice (some ⟨E.pa,E.po,none⟩) E.pl E.pc,.pointer (some ⟨E.b,0,none⟩),.int .u64 (D.r 0),.int .u64 (D.r 1),.int .u64 (D.r 2),.int .u64 (D.r 3),.int .u64 (D.r 4),.int .u64 (D.r 5),.int .u64 (D.r 6),.int .u64 (D.r 7),.int .u64 (D.r 8),.int .u64 (D.r 9),.int .u64 (D.r 10),.int .i64 D.set,.int .i64 (D.at_ + 1),.int .i64 (D.fuel - 1),av,tv,.int .i8 3] 78 (0,0)):=b_E.g_15
        have b_g4_16:=f26.k b_g4_12
        have rx7:w26.heap[g4]?=some (.cells #[.int .i8 ((E.x D.ix).kind),.int .i8 ((E.x D.ix).op),.int .i8 ((E.x D.ix).width),.int .i8 ((E.x D.ix).size),.bool ((E.x D.ix).byReg),.int .i8 ((E.x D.ix).dst),.int .i8 ((E.x D.ix).src),.int .i64 ((E.x D.ix).off),.int .i64 ((E.x D.ix).imm)] 52 (0,0)):=b_g4_16
        have b_g1_17:=f26.k (f24.kp (f23.kp (f22.kp (f21.k bx2) ⟨.inr nxg,trivial⟩) ⟨.inr nxg,trivial⟩) ⟨.inr nxg,trivial⟩)
        have re7:w26.heap[g1]?=some (.cells #[.func (.func 30) #[.pointer (some ⟨E.g,0,none⟩)] #[],.func (.func 31) #[.pointer (some ⟨E.g,0,none⟩)] #[],.func (.func 32) #[.pointer (some ⟨E.g,0,none⟩)] #[],.func (.func 33) #[.pointer (some ⟨E.g,0,none⟩)] #[],.func (.func 34) #[.pointer (some ⟨E.g,0,none⟩)] #[],.func (.func 35) #[.pointer (some ⟨E.g,0,none⟩)] #[],.func (.func 36) #[.pointer (some ⟨E.g,0,none⟩)] #[]] 82 (0,0)):=b_g1_17
        have R7:Rel E D.adv w26:=⟨⟨av,tv,rg7,hA2.trn k26 hnu,hT2.trn k26 hnue⟩,Rk2.pr.trn k26 hni,Mem.trn Rk2.mm k26 hnm,Rk2.words,Rk2.far.1,Rk2.far.2.1,Nat.le_trans Rk2.far.2.2 k26.size⟩
        have EXE:=exe_any E D.adv F D.ix hix
        obtain ⟨kn,hkn,hk7⟩:∃ kn:Nat,(E.x D.ix).kind=kn ∧ kn < 7:=kind_nat hmay
        have s0_18:=f26.q 0 s0_13
        have s5_19:=f26.q 5 s5_14
        have s4_20:=f26.q 4 (f24.q 4 (f23.q 4 (f22.q 4 (f21.q 4 u4))))
        refine go_regz (S7 (fun w=>Below w26.heap.size w26 w) (fun w=>Rel E (D.adv.exe E.kf (E.x D.ix)).1 w ∧ TurnT τM E.β w26 w) (fun w=>Rel E { (D.adv.exe E.kf (E.x D.ix)).1 with fin:=(D.adv.exe E.kf (E.x D.ix)).2 } w ∧ TurnT τM E.β w26 w)) [6,9] [] [some (.pointer (some ⟨E.g,0,none⟩)),some (.pointer (some ⟨g4,0,none⟩)),some (.int .i8 ((E.x D.ix).kind)),some (.pointer (some ⟨g1,kn,none⟩)),some (.func (.func (methF (E.x D.ix).kind)) #[.pointer (some ⟨E.g,0,none⟩)] #[]),some (.agg #[.int .i8 ((E.x D.ix).kind),.int .i8 ((E.x D.ix).op),.int .i8 ((E.x D.ix).width),.int .i8 ((E.x D.ix).size),.bool ((E.x D.ix).byReg),.int .i8 ((E.x D.ix).dst),.int .i8 ((E.x D.ix).src),.int .i64 ((E.x D.ix).off),.int .i64 ((E.x D.ix).imm)]),some (.int .i8 ((D.adv.exe E.kf (E.x D.ix)).2)),some (.pointer (some ⟨E.g,0,none⟩)),some (.pointer (some ⟨E.g,18,none⟩)),none] mo S7.loc f26.d f26.z (by kernel_rfl) (fun fl w1 hfl b _=>.inl ⟨hfl 6 (by decide),hfl 9 (by decide),b⟩) (
         zc (@fun fl ax wx cx=>cx.v (ex_mv rfl (cx.rq 0 s0_18)) rfl rfl) <|
         zc (@fun fl ax wx cx=>cx.v (ex_fa rfl (cx.rq 5 s5_19) (faMR52_0_0 _ _)) rfl rfl) <|
         zc (@fun fl ax wx cx=>cx.v (ex_ld rfl (cx.u 0 rfl) (S7.row cx.S rx7 (by decide)) rfl Tryz.isAgg29) rfl rfl) <|
         zc (@fun fl ax wx cx=>cx.v (ex_ixE rfl (cx.rq 4 s4_20) (((cx.u 0 rfl)).trans (by rw [hkn])) hk7) rfl rfl) <|
         zc (@fun fl ax wx cx=>cx.v (ex_ld rfl (cx.u 0 rfl) (S7.row cx.S re7 (by decide)) (methE hkn hk7) Tryz.isAgg81) rfl rfl) <|
         zc (@fun fl ax wx cx=>cx.v (exec_loadR 52 _ rfl g4 0 (cx.rq 5 s5_19) (S7.row cx.S rx7 (by decide)) [.int .i8 ((E.x D.ix).kind),.int .i8 ((E.x D.ix).op),.int .i8 ((E.x D.ix).width),.int .i8 ((E.x D.ix).size),.bool ((E.x D.ix).byReg),.int .i8 ((E.x D.ix).dst),.int .i8 ((E.x D.ix).src),.int .i64 ((E.x D.ix).off),.int .i64 ((E.x D.ix).imm)] rfl _ Tryz.underlying52 rfl (by kernel_rfl)) rfl rfl) <|
         zc (@fun fl ax wx cx=>(by
       have f9:fl 9=false:=cx.later 9 (by kernel_rfl)
       have b:=S7.was0 cx.S cx.fi f9
       refine wpOp_callw cx.ho (wn rfl) (exec_dyn (cx.is rfl) (cx.u 0 rfl) (cx.u 1 rfl) (methT (E.x D.ix).kind)) ((EXE wx (R7.still b).1 adv1 adv2 adv3).mono ?_)
       rintro e w9 ⟨rfl,r9,t9⟩
       exact ⟨_,rfl,_,rfl,by rw [own_some rfl cx.sz rfl];exact rfl,.inr (.inl ⟨upd_new _ _,(upd_old fl rfl).trans f9,r9,(R7.still b).2.trans t9⟩)⟩)) <|
         zc (@fun fl ax wx cx=>cx.v (ex_nc rfl (cx.u 0 rfl)) rfl rfl) <|
         zc (@fun fl ax wx cx=>cx.v (ex_fa rfl (cx.u 0 rfl) (faMR78_8_0 _ _)) rfl rfl) <|
         zc (@fun fl ax wx cx=>(by
       obtain ⟨r9,t9⟩:=S7.mid cx.S (cx.did 1 rfl rfl) cx.fi
       obtain ⟨av9,tv9,hi9,hA9,hT9⟩:=r9.st
       have st9:=stored_setCell hi9 18 (.int .i8 (D.adv.exe E.kf (E.x D.ix)).2)
       have n9:=r9.turnG (D':={ (D.adv.exe E.kf (E.x D.ix)).1 with fin:=(D.adv.exe E.kf (E.x D.ix)).2 }) hi9 hA9 hT9 st9.row ⟨st9.os,st9.tape,st9.output,by rw [st9.size];exact Nat.le_refl _,fun k _ hn=>st9.other k (by simpa using hn)⟩ rfl rfl rfl r9.words
       exact cx.st rfl (exec_storeC 29 (.tmp 73) (.tmp 71) rfl E.g 18 _ (cx.u 0 rfl) (cx.u 1 rfl) rfl rfl (by kernel_rfl) hi9 (show 18 < 19 by decide)) rfl trivial (.inr (.inr ⟨(upd_old fl rfl).trans (cx.did 1 rfl rfl),upd_new _ _,n9.1,t9.trans n9.2⟩)))) <|
         zn) ?_
        intro a27 w27 f27
        obtain ⟨fl7,hf7,hs7⟩:=f27.s
        have hs7:=S7.fin hs7 (hf7 9 (by decide))
        have t7:=(turn_of k26 htm).trans hs7.2
        have s0_21:=f27.q 0 s0_18
        have s1_22:=f27.q 1 (f26.q 1 (f24.q 1 (f23.q 1 (f22.q 1 (f21.q 1 u1)))))
        have s4_23:=f27.q 4 s4_20
        exact ⟨f27.d,f27.z,s0_21,s1_22,s4_23,(by rw [e2,step_yes Ffk1.out];exact hs7.1),Turn.row t7 bx2 (by decide),hJ _ _ _ hj2 t7⟩
      case refine_2=>
        clear Rk2 hin2 hA2 hT2 hg2
        rintro a9 w9 ⟨d9,z9,v0,v1,v4,Rk9,bx9,hj9⟩
        obtain ⟨av,tv,hin9,hA9,hT9⟩:=Rk9.st
        have hg9:w9.heap[E.g]?=some (.cells #[.slice (some ⟨E.pa,E.po,none⟩) E.pl E.pc,.pointer (some ⟨E.b,0,none⟩),.int .u64 (D2.r 0),.int .u64 (D2.r 1),.int .u64 (D2.r 2),.int .u64 (D2.r 3),.int .u64 (D2.r 4),.int .u64 (D2.r 5),.int .u64 (D2.r 6),.int .u64 (D2.r 7),.int .u64 (D2.r 8),.int .u64 (D2.r 9),.int .u64 (D2.r 10),.int .i64 D2.set,.int .i64 D2.at_,.int .i64 D2.fuel,av,tv,.int .i8 D2.fin] 78 (0,0)):=hin9
        have m9:Trn [E.g] w9 w9:=Trn.refl w9
        refine wp_seq ?_
        refine go_reg [bx E.g 78 #[.slice (some ⟨E.pa,E.po,none⟩) E.pl E.pc,.pointer (some ⟨E.b,0,none⟩),.int .u64 (D2.r 0),.int .u64 (D2.r 1),.int .u64 (D2.r 2),.int .u64 (D2.r 3),.int .u64 (D2.r 4),.int .u64 (D2.r 5),.int .u64 (D2.r 6),.int .u64 (D2.r 7),.int .u64 (D2.r 8),.int .u64 (D2.r 9),.int .u64 (D2.r 10),.int .i64 D2.set,.int .i64 D2.at_,.int .i64 D2.fuel,av,tv,.int .i8 D2.fin]] [] [some (pt E.g 0),some (pt E.g 0),some (pt E.g 18),some (.int .i8 D2.fin)] mo d9 z9 (bare_of m9) (by kernel_rfl) ⟨hg9,trivial⟩ (
         hk (fun cx=>cx.v (ex_mv rfl (cx.rq 0 v0)) rfl rfl) <|
         hk (fun cx=>cx.v (ex_nc rfl (cx.u 0 rfl)) rfl rfl) <|
         hk (fun cx=>cx.v (ex_fa rfl (cx.u 0 rfl) (faMR78_8_0 _ _)) rfl rfl) <|
         hk (fun cx=>cx.v (ex_ld rfl (cx.u 0 rfl) (cx.rn 0 rfl) rfl Tryz.isAgg29) rfl rfl) <|
         hn) ?_
        intro a28 w28 f28
        have k28:=m9.trans (f28.trn (bare_of m9) ⟨.inl rfl,trivial⟩)
        refine wp_block ?_
        refine wp_seq ?_
        refine wp_seq ?_
        cases fk2:D2.fin == 1
        case false=>
         have Ffk2:=Lib.hid fk2;clear fk2
         refine go_reg [] [] [some (.bool false),some (.bool false)] mo f28.d f28.z (bare_of k28) (by kernel_rfl) trivial (
          hk (fun cx=>cx.v (ex_eq (x:=.tmp 77) rfl (cx.rq 77 (f28.v 3 rfl rfl rfl)) rfl) rfl (congrArg Value.bool Ffk2.out)) <|
          hk (fun cx=>cx.v (ex_as rfl (cx.u 0 rfl)) rfl rfl) <|
          hn) ?_
         intro a29 w29 f29
         have k29:=k28.trans (f29.trn (bare_of k28) trivial)
         refine wp_cond_false (f29.v 1 rfl rfl rfl) ?_
         refine wp_seq ?_
         cases fk3:D2.fin == 2
         case false=>
          have Ffk3:=Lib.hid fk3;clear fk3
          have s77_24:=f29.q 77 (f28.v 3 rfl rfl rfl)
          refine go_reg [] [] [some (.bool false),some (.bool false)] mo f29.d f29.z (bare_of k29) (by kernel_rfl) trivial (
           hk (fun cx=>cx.v (ex_eq (x:=.tmp 77) rfl (cx.rq 77 s77_24) rfl) rfl (congrArg Value.bool Ffk3.out)) <|
           hk (fun cx=>cx.v (ex_as rfl (cx.u 0 rfl)) rfl rfl) <|
           hn) ?_
          intro a30 w30 f30
          have k30:=k29.trans (f30.trn (bare_of k29) trivial)
          refine wp_cond_false (f30.v 1 rfl rfl rfl) ?_
          cases fk4:D2.fin == 3
          case false=>
           have Ffk4:=Lib.hid fk4;clear fk4
           have s77_25:=f30.q 77 s77_24
           refine go_reg [] [] [some (.bool false),some (.bool false)] mo f30.d f30.z (bare_of k30) (by kernel_rfl) trivial (
            hk (fun cx=>cx.v (ex_eq (x:=.tmp 77) rfl (cx.rq 77 s77_25) rfl) rfl (congrArg Value.bool Ffk4.out)) <|
            hk (fun cx=>cx.v (ex_as rfl (cx.u 0 rfl)) rfl rfl) <|
            hn) ?_
           intro a31 w31 f31
           have k31:=k30.trans (f31.trn (bare_of k30) trivial)
           refine wp_cond_false (f31.v 1 rfl rfl rfl) ?_
           refine wp_skip ?_
           have b_E.g_26:=f31.k (f30.k (f29.k (f28.k hg9)))
           have R10:=Rk9.keepT k31 ((b_E.g_26).trans hg9.symm)
           have ez:D2.fin=0:=by
             have h1:=Ffk2.out;have h2:=Ffk3.out;have h3:=Ffk4.out
             rcases (e2 ▸ step_fin D E.kf (E.x D.ix):D2.fin=0 ∨ D2.fin=1 ∨ D2.fin=2 ∨ D2.fin=3) with e | e | e | e
             · exact e
             · rw [e] at h1;exact absurd h1 (by decide)
             · rw [e] at h2;exact absurd h2 (by decide)
             · rw [e] at h3;exact absurd h3 (by decide)
           have s0_27:=f31.q 0 (f30.q 0 (f29.q 0 (f28.q 0 v0)))
           have s1_28:=f31.q 1 (f30.q 1 (f29.q 1 (f28.q 1 v1)))
           have s4_29:=f31.q 4 (f30.q 4 (f29.q 4 (f28.q 4 v4)))
           exact ⟨_,lessF,k + 1,rfl,hg.succ hf (hD2 ▸ ez),⟨f31.d,f31.z,s0_27,s1_28,s4_29⟩,hD2 ▸ R10.1,Turn.row R10.2 bx9 (by decide),hJ _ _ _ hj9 R10.2⟩
          have Ffk4:=Lib.hid fk4;clear fk4
          have s77_30:=f30.q 77 s77_24
          refine go_reg [] [] [some (.bool true),some (.bool true)] mo f30.d f30.z (bare_of k30) (by kernel_rfl) trivial (
           hk (fun cx=>cx.v (ex_eq (x:=.tmp 77) rfl (cx.rq 77 s77_30) rfl) rfl (congrArg Value.bool Ffk4.out)) <|
           hk (fun cx=>cx.v (ex_as rfl (cx.u 0 rfl)) rfl rfl) <|
           hn) ?_
          intro a32 w32 f32
          have k32:=k30.trans (f32.trn (bare_of k30) trivial)
          refine wp_cond_true (f32.v 1 rfl rfl rfl) ?_
          refine wp_exit ?_
          have b_E.g_31:=f32.k (f30.k (f29.k (f28.k hg9)))
          have R10:=Rk9.keepT k32 ((b_E.g_31).trans hg9.symm)
          have nz:D2.fin ≠ 0:=fun e=>by first | (have h:=Ffk4.out;rw [e] at h;exact absurd h (by decide))
          exact ⟨f32.d,_,results_none rfl _ _ _,⟨_,rfl⟩,.inl ⟨_,⟨k + 1,.inr ⟨k,rfl,hg,hf,hD2 ▸ nz⟩,rfl,hD2 ▸ R10.1⟩,hJ _ _ _ hj9 R10.2⟩⟩
         have Ffk3:=Lib.hid fk3;clear fk3
         have s77_32:=f29.q 77 (f28.v 3 rfl rfl rfl)
         refine go_reg [] [] [some (.bool true),some (.bool true)] mo f29.d f29.z (bare_of k29) (by kernel_rfl) trivial (
          hk (fun cx=>cx.v (ex_eq (x:=.tmp 77) rfl (cx.rq 77 s77_32) rfl) rfl (congrArg Value.bool Ffk3.out)) <|
          hk (fun cx=>cx.v (ex_as rfl (cx.u 0 rfl)) rfl rfl) <|
          hn) ?_
         intro a33 w33 f33
         have k33:=k29.trans (f33.trn (bare_of k29) trivial)
         refine wp_cond_true (f33.v 1 rfl rfl rfl) ?_
         refine wp_skip ?_
         refine wp_cond_true (f33.v 1 rfl rfl rfl) ?_
         refine wp_exit ?_
         have b_E.g_33:=f33.k (f29.k (f28.k hg9))
         have R10:=Rk9.keepT k33 ((b_E.g_33).trans hg9.symm)
         have nz:D2.fin ≠ 0:=fun e=>by first | (have h:=Ffk3.out;rw [e] at h;exact absurd h (by decide))
         exact ⟨f33.d,_,results_none rfl _ _ _,⟨_,rfl⟩,.inl ⟨_,⟨k + 1,.inr ⟨k,rfl,hg,hf,hD2 ▸ nz⟩,rfl,hD2 ▸ R10.1⟩,hJ _ _ _ hj9 R10.2⟩⟩
        have Ffk2:=Lib.hid fk2;clear fk2
        refine go_reg [] [] [some (.bool true),some (.bool true)] mo f28.d f28.z (bare_of k28) (by kernel_rfl) trivial (
         hk (fun cx=>cx.v (ex_eq (x:=.tmp 77) rfl (cx.rq 77 (f28.v 3 rfl rfl rfl)) rfl) rfl (congrArg Value.bool Ffk2.out)) <|
         hk (fun cx=>cx.v (ex_as rfl (cx.u 0 rfl)) rfl rfl) <|
         hn) ?_
        intro a34 w34 f34
        have k34:=k28.trans (f34.trn (bare_of k28) trivial)
        refine wp_cond_true (f34.v 1 rfl rfl rfl) ?_
        refine wp_skip ?_
        refine wp_cond_true (f34.v 1 rfl rfl rfl) ?_
        refine wp_exit ?_
        have b_E.g_34:=f34.k (f28.k hg9)
        have R10:=Rk9.keepT k34 ((b_E.g_34).trans hg9.symm)
        have nz:D2.fin ≠ 0:=fun e=>by first | (have h:=Ffk2.out;rw [e] at h;exact absurd h (by decide))
        exact ⟨f34.d,_,results_none rfl _ _ _,⟨_,rfl⟩,.inl ⟨_,⟨k + 1,.inr ⟨k,rfl,hg,hf,hD2 ▸ nz⟩,rfl,hD2 ▸ R10.1⟩,hJ _ _ _ hj9 R10.2⟩⟩
end Go.Proofs.YtigliofiojkhcaaGreat.Mdl
