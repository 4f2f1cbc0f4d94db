import Derived.Test.YtigliofiojkhcaaGreatMRn02
set_option linter.unusedVariables false
set_option linter.unusedSimpArgs false
set_option linter.unnecessarySimpa false
namespace Go.Proofs.YtigliofiojkhcaaGreat.Ins
open Go.RowKit
set_option linter.unusedVariables false
theorem nine (x:In) (W:World) (t:TypeId) (w':World) (h:Below (W.alloc (.cells x.cells t)).heap.size (W.alloc (.cells x.cells t)) w'):
    w'.cell? ⟨W.heap.size,0,none⟩=some (.int .i8 x.kind) ∧ w'.cell? ⟨W.heap.size,1,none⟩=some (.int .i8 x.op) ∧ w'.cell? ⟨W.heap.size,2,none⟩=some (.int .i8 x.width) ∧ w'.cell? ⟨W.heap.size,3,none⟩=some (.int .i8 x.size) ∧ w'.cell? ⟨W.heap.size,4,none⟩=some (.bool x.byReg) ∧ w'.cell? ⟨W.heap.size,5,none⟩=some (.int .i8 x.dst) ∧ w'.cell? ⟨W.heap.size,6,none⟩=some (.int .i8 x.src) ∧ w'.cell? ⟨W.heap.size,7,none⟩=some (.int .i64 x.off) ∧ w'.cell? ⟨W.heap.size,8,none⟩=some (.int .i64 x.imm) ∧ Below (W.alloc (.cells x.cells t)).heap.size (W.alloc (.cells x.cells t)) w':=by
  refine ⟨?_,?_,?_,?_,?_,?_,?_,?_,?_,h⟩ <;> exact (h.cell (by simp)).trans (by unfold In.cells;simp)
theorem below_boxed {W w':World} {o:Obj} (h:Below (W.alloc o).heap.size (W.alloc o) w'):Below W.heap.size W w':=below_call (below_new (Below.refl _ _) _) h
set_option maxHeartbeats 4000000 in
theorem may_t (x:In) (W:World) (h:eqI x (usedI x)=true):Calls Tryz.prog 82 #[.agg x.cells] W fun e w'=>e=.returned (.bool (fitsI x)) ∧ Below W.heap.size W w':=by
  have U:=Lib.hid (used_any x)
  rw [← eqI_iff.1 h] at U
  have F:=Lib.hid (fits_any x)
  have N:=Lib.hid (nine x W 52)
  clear h
  generalize fitsI x=f at *
  obtain ⟨kind,op,width,size,byReg,dst,src,off,imm⟩:=x
  unfold In.cells at *
  simp only at *
  go_enter Tryz.func82,Tryz.ntmps82
  go_wp2
  go_region_held3 (fun w'=>w'.cell? ⟨W.heap.size,0,none⟩=some (.int .i8 kind) ∧ w'.cell? ⟨W.heap.size,1,none⟩=some (.int .i8 op) ∧ w'.cell? ⟨W.heap.size,2,none⟩=some (.int .i8 width) ∧ w'.cell? ⟨W.heap.size,3,none⟩=some (.int .i8 size) ∧ w'.cell? ⟨W.heap.size,4,none⟩=some (.bool byReg) ∧ w'.cell? ⟨W.heap.size,5,none⟩=some (.int .i8 dst) ∧ w'.cell? ⟨W.heap.size,6,none⟩=some (.int .i8 src) ∧ w'.cell? ⟨W.heap.size,7,none⟩=some (.int .i64 off) ∧ w'.cell? ⟨W.heap.size,8,none⟩=some (.int .i64 imm) ∧ Below (W.alloc (.cells #[.int .i8 kind,.int .i8 op,.int .i8 width,.int .i8 size,.bool byReg,.int .i8 dst,.int .i8 src,.int .i64 off,.int .i64 imm] 52)).heap.size (W.alloc (.cells #[.int .i8 kind,.int .i8 op,.int .i8 width,.int .i8 size,.bool byReg,.int .i8 dst,.int .i8 src,.int .i64 off,.int .i64 imm] 52)) w')
    ((go_split_ands;refine N.out _ ?_;repeat' (first | assumption | exact Below.refl _ _ | apply Below.drew | (refine below_call ?_ b2) | (refine below_call ?_ b1))))
    (first
      | (go_at_call 96;refine (U.out _).mono ?_;rintro e w1 ⟨rfl,b1⟩)
      | (go_at_call 97;refine (F.out _).mono ?_;rintro e w2 ⟨rfl,b2⟩))
  all_goals
    go_wp2
    go_ret
    refine ⟨rfl,?_⟩
    go_split_ands
    exact below_boxed (by assumption)
def mayR (x u:In):Nat → Value → Value → World → Prop
  | 0,v,_,_=>v=.agg x.cells
  | 1,v,_,_=>v=.agg x.cells
  | 2,v,_,_=>v=.agg u.cells
  | 3,v,_,_=>v=.bool false
  | 4,v,_,_=>v=.bool false
  | 7,v,_,_=>v=.bool false
  | 8,v,_,_=>v=.bool false
  | _,_,_,_=>True
theorem mayR_any {x u:In} {w w':World} {j:Nat} {a b:Value} (h:mayR x u j a b w):mayR x u j a b w':=by
  unfold mayR at *
  split at h <;> first | exact h | trivial
theorem info_ins:(Tryz.prog.info? 52).map (·.size)=some 9:=by kernel_rfl
theorem load_boxed (x:In) {b:Nat} {w:World} (h:w.heap[b]?=some (.cells x.cells 52 (0,0))):(loadVar 52 ⟨b,0,none⟩).run Tryz.prog w=.ok (.agg x.cells) w:=
  run_loadVar_row w b _ _ x.cells _ _ h Tryz.underlying52 rfl info_ins
theorem box_keep {c:Array Value} {t:TypeId} {W w w':World} (h:Below W.heap.size W w ∧ w.heap[W.heap.size]?=some (.cells c t (0,0))) (b:Below w.heap.size w w'):Below W.heap.size W w' ∧ w'.heap[W.heap.size]?=some (.cells c t (0,0)):=
  ⟨below_call h.1 b,(b.block _ (Array.getElem?_eq_some_iff.1 h.2).1).trans h.2⟩
set_option maxRecDepth 100000 in
set_option maxHeartbeats 4000000 in
theorem may_f (x:In) (W:World) (h:eqI x (usedI x)=false):Calls Tryz.prog 82 #[.agg x.cells] W fun e w'=>e=.returned (.bool false) ∧ Below W.heap.size W w':=by
  have U:=Lib.hid (used_any x)
  have EQ:=Lib.hid (fun w=>eq_run x (usedI x) w)
  rw [h] at EQ
  clear h
  generalize usedI x=u at *
  have LD:=Lib.hid (fun w b h=>load_boxed x (b:=b) (w:=w) h)
  generalize hc:x.cells=c at *
  go_enter Tryz.func82,Tryz.ntmps82
  go_wp2
  refine wp_region_inv (fun _=>100000) (fun w=>Below W.heap.size W w ∧ w.heap[W.heap.size]?=some (.cells c 52 (0,0))) (mayR x u) (by kernel_rfl) (back_of (by kernel_rfl)) (dst_of (by kernel_rfl)) (dep_of (by kernel_rfl)) (in_of (by kernel_rfl)) ⟨Below.drew (below_new (Below.refl _ _) _),heap_last W _ _ rfl⟩ ?hop ?hq
  case hop=>
    intro i o a w ho hS hdf hsz hrest hdone
    have e1:a.tmps.getD 1 undef=.pointer (some ⟨W.heap.size,0,none⟩):=hrest 1 (not_of (by kernel_rfl))
    have hs:a.tmps.size=11:=hsz.trans rfl
    have hi:i < 9:=(Array.getElem?_eq_some_iff.1 ho).1
    obtain rfl | rfl | rfl | rfl | rfl | rfl | rfl | rfl | rfl:i=0 ∨ i=1 ∨ i=2 ∨ i=3 ∨ i=4 ∨ i=5 ∨ i=6 ∨ i=7 ∨ i=8:=by omega
    · obtain rfl:=Option.some.inj (show some _=some o from ho)
      refine wpOp_val (v:=.agg c) (w':=w) rfl rfl ?_ ⟨_,rfl,?_,hS,fun _ _ _ h=>mayR_any h⟩
      · simp [execOp,Act.eval,e1,Instr.loadAt,Instr.sureAddr,LD.out w _ hS.2,Result.andThen_ok]
      · rw [own_put rfl (by rw [hs];omega)];exact congrArg _ hc.symm
    · obtain rfl:=Option.some.inj (show some _=some o from ho)
      refine wpOp_val (v:=.agg c) (w':=w) rfl rfl ?_ ⟨_,rfl,?_,hS,fun _ _ _ h=>mayR_any h⟩
      · simp [execOp,Act.eval,e1,Instr.loadAt,Instr.sureAddr,LD.out w _ hS.2,Result.andThen_ok]
      · rw [own_put rfl (by rw [hs];omega)];exact congrArg _ hc.symm
    · obtain rfl:=Option.some.inj (show some _=some o from ho)
      have h4:a.tmps.getD 4 undef=.agg x.cells:=hdone _ (Array.mem_of_getElem? (i:=0) rfl) rfl _ rfl
      refine wpOp_call (f:=96) (args:=#[.agg c]) rfl rfl ?_ ?_
      · simp [go_sem,execOp,Act.eval,Deferred.ofValue,callFunc,Tryz.func96,Tryz.f96,h4,hc,resolve,invoke]
      · refine (U.out _).mono ?_
        rintro e w' ⟨rfl,b9⟩
        refine ⟨_,rfl,_,rfl,?_,box_keep hS b9,fun _ _ _ h=>mayR_any h⟩
        rw [own_put rfl (by rw [hs];omega)];rfl
    · obtain rfl:=Option.some.inj (show some _=some o from ho)
      have h3:a.tmps.getD 3 undef=.agg x.cells:=hdone _ (Array.mem_of_getElem? (i:=0) rfl) rfl _ rfl
      have h5:a.tmps.getD 5 undef=.agg u.cells:=hdone _ (Array.mem_of_getElem? (i:=1) rfl) rfl _ rfl
      refine wpOp_val (v:=.bool false) (w':=w) rfl rfl ?_ ⟨_,rfl,?_,hS,fun _ _ _ h=>mayR_any h⟩
      · exact exec_eql rfl h3 h5 (by kernel_rfl) (by rw [hc];exact EQ.out w)
      · rw [own_put rfl (by rw [hs];omega)];rfl
    · obtain rfl:=Option.some.inj (show some _=some o from ho)
      have h6:a.tmps.getD 6 undef=.bool false:=hdone _ (Array.mem_of_getElem? (i:=0) rfl) rfl _ rfl
      refine wpOp_val (v:=.bool false) (w':=w) rfl rfl ?_ ⟨_,rfl,?_,hS,fun _ _ _ h=>mayR_any h⟩
      · simp [execOp,Act.eval,h6]
      · rw [own_put rfl (by rw [hs];omega)];rfl
    · obtain rfl:=Option.some.inj (show some _=some o from ho)
      have h7:a.tmps.getD 7 undef=.bool false:=hdone _ (Array.mem_of_getElem? (i:=0) rfl) rfl _ rfl
      refine wpOp_no rfl (wanted_no 4 7 false h7 (by rw [hs];omega) rfl rfl rfl rfl) ⟨_,rfl,trivial,hS,fun _ _ _ h=>mayR_any h⟩
    · obtain rfl:=Option.some.inj (show some _=some o from ho)
      have h7:a.tmps.getD 7 undef=.bool false:=hdone _ (Array.mem_of_getElem? (i:=1) rfl) rfl _ rfl
      refine wpOp_no rfl (wanted_no 4 7 false h7 (by rw [hs];omega) rfl rfl rfl rfl) ⟨_,rfl,trivial,hS,fun _ _ _ h=>mayR_any h⟩
    · obtain rfl:=Option.some.inj (show some _=some o from ho)
      have h7:a.tmps.getD 7 undef=.bool false:=hdone _ (Array.mem_of_getElem? (i:=0) rfl) rfl _ rfl
      refine wpOp_val (v:=.bool false) (w':=w) rfl rfl ?_ ⟨_,rfl,?_,hS,fun _ _ _ h=>mayR_any h⟩
      · simp [execOp,Act.eval,h7,go_sem]
      · rw [own_put rfl (by rw [hs];omega)];rfl
    · obtain rfl:=Option.some.inj (show some _=some o from ho)
      have h10:a.tmps.getD 10 undef=.bool false:=hdone _ (Array.mem_of_getElem? (i:=0) rfl) rfl _ rfl
      refine wpOp_val (v:=.bool false) (w':=w) rfl rfl ?_ ⟨_,rfl,?_,hS,fun _ _ _ h=>mayR_any h⟩
      · simp [execOp,Act.eval,h10]
      · rw [own_put rfl (by rw [hs];omega)];rfl
  case hq=>
    intro u9 w' hS hR
    have f:u9 2=.bool false:=hR 8 _ rfl
    clear hR
    rw [show outs _ u9=[(3,u9 3),(4,u9 4),(5,u9 5),(6,u9 6),(7,u9 7),(8,u9 8),(9,u9 9),(10,u9 10),(2,u9 2)] by kernel_rfl,f]
    simp only [putAll,List.setIfInBounds_toArray,List.set_cons_zero,List.set_cons_succ]
    generalize u9 3=x3;generalize u9 4=x4;generalize u9 5=x5;generalize u9 6=x6;generalize u9 7=x7;generalize u9 8=x8;generalize u9 9=x9;generalize u9 10=x10
    clear f u9
    go_wp2
    go_ret
    exact ⟨rfl,hS.1⟩
theorem may_any (x:In) (W:World):Calls Tryz.prog 82 #[.agg x.cells] W fun e w'=>e=.returned (.bool (mayI x)) ∧ Below W.heap.size W w':=by
  unfold mayI
  cases h:eqI x (usedI x)
  · exact may_f x W h
  · exact may_t x W h
end Go.Proofs.YtigliofiojkhcaaGreat.Ins
namespace Go.Proofs.YtigliofiojkhcaaGreat.Ins
open Go.RowKit
set_option linter.unusedVariables false
set_option maxRecDepth 100000
theorem lt_of_cell {w:World} {b o:Nat} {v:Value} (h:w.cell? ⟨b,o,none⟩=some v):b < w.heap.size:=by
  rcases Nat.lt_or_ge b w.heap.size with h' | h'
  · exact h'
  · have:w.heap[b]?=none:=Array.getElem?_eq_none h'
    simp [World.cell?,this] at h
theorem near_t (r:Int) (W:World) (h:nearI r=true):Calls Tryz.prog 92 #[.int .i64 r] W fun e w'=>e=.returned (.bool true) ∧ W=w':=by
  have:=near_any r W;rw [h] at this;exact this
theorem near_f (r:Int) (W:World) (h:nearI r=false):Calls Tryz.prog 92 #[.int .i64 r] W fun e w'=>e=.returned (.bool false) ∧ W=w':=by
  have:=near_any r W;rw [h] at this;exact this
def jumpsI (i:Int) (x:In):Bool:=decide (x.kind=3 ∨ x.kind=4) && nearI i && nearI x.off
def targetI (i:Int) (x:In):Int:=if jumpsI i x=true then i + 1 + x.off else 0
set_option maxHeartbeats 1000000 in
theorem target_kind (i kind op width size:Int) (byReg:Bool) (dst src off imm:Int) (W:World) (h3:¬ kind=3) (h4:¬ kind=4):
    Calls Tryz.prog 69 #[.int .i64 i,.agg (In.mk kind op width size byReg dst src off imm).cells] W fun e w'=>e=.returned (.tuple #[.int .i64 0,.bool false]) ∧ Below W.heap.size W w':=by
  unfold In.cells
  simp only
  go_enter Tryz.func69,Tryz.ntmps69
  go_wp2
  go_ret2
  exact ⟨rfl,below_new (Below.refl _ _) _⟩
set_option maxHeartbeats 2000000 in
theorem target_far1 (i kind op width size:Int) (byReg:Bool) (dst src off imm:Int) (W:World) (h:kind=3 ∨ kind=4) (hn:nearI i=false):
    Calls Tryz.prog 69 #[.int .i64 i,.agg (In.mk kind op width size byReg dst src off imm).cells] W fun e w'=>e=.returned (.tuple #[.int .i64 0,.bool false]) ∧ Below W.heap.size W w':=by
  have HN:=Lib.hid (fun W=>near_f i W hn)
  clear hn
  unfold In.cells
  simp only
  rcases h with rfl | rfl
  all_goals
    go_enter Tryz.func69,Tryz.ntmps69
    go_wp2_with (go_at_call 92;refine (HN.out _).mono ?_;rintro e w' ⟨rfl,rfl⟩)
    go_ret2
    exact ⟨rfl,below_new (Below.refl _ _) _⟩
set_option maxHeartbeats 2000000 in
theorem target_far2 (i kind op width size:Int) (byReg:Bool) (dst src off imm:Int) (W:World) (h:kind=3 ∨ kind=4) (hn:nearI i=true) (ho:nearI off=false):
    Calls Tryz.prog 69 #[.int .i64 i,.agg (In.mk kind op width size byReg dst src off imm).cells] W fun e w'=>e=.returned (.tuple #[.int .i64 0,.bool false]) ∧ Below W.heap.size W w':=by
  have HN:=Lib.hid (fun W=>near_t i W hn)
  have HO:=Lib.hid (fun W=>near_f off W ho)
  clear hn ho
  unfold In.cells
  simp only
  rcases h with rfl | rfl
  all_goals
    go_enter Tryz.func69,Tryz.ntmps69
    go_wp2_with (first | (go_at_call 92;refine (HN.out _).mono ?_;rintro e w' ⟨rfl,rfl⟩) | (go_at_call 92;refine (HO.out _).mono ?_;rintro e w' ⟨rfl,rfl⟩))
    go_ret2
    exact ⟨rfl,below_new (Below.refl _ _) _⟩
set_option maxHeartbeats 2000000 in
theorem target_yes (i kind op width size:Int) (byReg:Bool) (dst src off imm:Int) (W:World) (h:kind=3 ∨ kind=4) (hn:nearI i=true) (ho:nearI off=true):
    Calls Tryz.prog 69 #[.int .i64 i,.agg (In.mk kind op width size byReg dst src off imm).cells] W fun e w'=>e=.returned (.tuple #[.int .i64 (i + 1 + off),.bool true]) ∧ Below W.heap.size W w':=by
  have HN:=Lib.hid (fun W=>near_t i W hn)
  have HO:=Lib.hid (fun W=>near_t off W ho)
  obtain ⟨b0,b1⟩:-1099511627776 ≤ i ∧ i ≤ 1099511627776:=by simpa [nearI] using hn
  obtain ⟨b2,b3⟩:-1099511627776 ≤ off ∧ off ≤ 1099511627776:=by simpa [nearI] using ho
  clear hn ho
  unfold In.cells
  simp only
  rcases h with rfl | rfl
  all_goals
    go_enter Tryz.func69,Tryz.ntmps69
    go_wp2_with (first | (go_at_call 92;refine (HN.out _).mono ?_;rintro e w' ⟨rfl,rfl⟩) | (go_at_call 92;refine (HO.out _).mono ?_;rintro e w' ⟨rfl,rfl⟩))
    go_ret2
    exact ⟨rfl,below_new (Below.refl _ _) _⟩
theorem target_any (i:Int) (x:In) (W:World):
    Calls Tryz.prog 69 #[.int .i64 i,.agg x.cells] W fun e w'=>e=.returned (.tuple #[.int .i64 (targetI i x),.bool (jumpsI i x)]) ∧ Below W.heap.size W w':=by
  obtain ⟨kind,op,width,size,byReg,dst,src,off,imm⟩:=x
  unfold targetI
  by_cases h:kind=3 ∨ kind=4
  · cases hn:nearI i
    · rw [show jumpsI i (In.mk kind op width size byReg dst src off imm)=false by simp [jumpsI,hn]]
      exact target_far1 i kind op width size byReg dst src off imm W h hn
    cases ho:nearI off
    · rw [show jumpsI i (In.mk kind op width size byReg dst src off imm)=false by simp [jumpsI,ho]]
      exact target_far2 i kind op width size byReg dst src off imm W h hn ho
    rw [show jumpsI i (In.mk kind op width size byReg dst src off imm)=true by simp [jumpsI,hn,ho];simpa using h]
    exact target_yes i kind op width size byReg dst src off imm W h hn ho
  · rw [show jumpsI i (In.mk kind op width size byReg dst src off imm)=false by simp [jumpsI];intro a;exact absurd a h]
    exact target_kind i kind op width size byReg dst src off imm W (by omega) (by omega)
theorem limits_any (c n:Int) (W:World):Calls Tryz.prog 57 #[.int .i64 c,.int .i64 n] W fun e w'=>e=.returned (.int .i64 (if c < 0 ∨ 256 < c then 2 else if n < 1 ∨ 64 < n then 3 else 0)) ∧ W=w':=by
  have E:=Lib.hid (fun (r:Int) (h:r=if c < 0 ∨ 256 < c then 2 else if n < 1 ∨ 64 < n then 3 else 0)=>h)
  by_cases h1:c < 0
  · rw [if_pos (by omega)]
    go_enter Tryz.func57,Tryz.ntmps57
    go_wp2
    go_ret
    exact ⟨rfl,rfl⟩
  by_cases h2:256 < c
  · rw [if_pos (by omega)]
    go_enter Tryz.func57,Tryz.ntmps57
    go_wp2
    go_ret
    exact ⟨rfl,rfl⟩
  rw [if_neg (by omega)]
  by_cases h3:n < 1
  · rw [if_pos (by omega)]
    go_enter Tryz.func57,Tryz.ntmps57
    go_wp2
    go_ret
    exact ⟨rfl,rfl⟩
  by_cases h4:64 < n
  · rw [if_pos (by omega)]
    go_enter Tryz.func57,Tryz.ntmps57
    go_wp2
    go_ret
    exact ⟨rfl,rfl⟩
  rw [if_neg (by omega)]
  go_enter Tryz.func57,Tryz.ntmps57
  go_wp2
  go_ret
  exact ⟨rfl,rfl⟩
def faultI (i:Int) (x:In) (n:Int):Int:=if mayI x=false then 31 else if jumpsI i x=true ∧ (targetI i x < 0 ∨ n ≤ targetI i x) then 32 else 0
set_option maxHeartbeats 2000000 in
theorem fault_any (i:Int) (x:In) (n:Int) (W:World):Calls Tryz.prog 60 #[.int .i64 i,.agg x.cells,.int .i64 n] W fun e w'=>e=.returned (.int .i64 (faultI i x n)) ∧ Below W.heap.size W w':=by
  have M:=Lib.hid (fun W=>may_any x W)
  have T:=Lib.hid (fun W=>target_any i x W)
  have i9:(Tryz.prog.info? 52).map (·.size)=some x.cells.size:=info_ins
  unfold faultI
  generalize targetI i x=t at *
  generalize jumpsI i x=j at *
  generalize mayI x=m at *
  generalize x.cells=c at *
  have L0:(W.alloc (.cells c 52)).heap[W.heap.size]?=some (.cells c 52 (0,0)):=heap_last W _ _ rfl
  have HL:=Lib.hid L0;have HI:=Lib.hid i9
  clear L0 i9
  cases m
  · rw [if_pos rfl]
    go_enter Tryz.func60,Tryz.ntmps60
    go_wp2_with (refine (halt_load 52 _ rfl ?_))
    refine ⟨?_,trivial⟩
    refine wpList_load_row rfl 52 _ rfl W.heap.size rfl _ c _ _ HL.out Tryz.underlying52 rfl HI.out ?_
    go_wp2_with fail
    refine (M.out _).mono ?_
    rintro e w1 ⟨rfl,b1⟩
    go_wp2_with fail
    go_ret
    exact ⟨rfl,below_boxed b1⟩
  rw [if_neg (by simp)]
  have hc:(j=false) ∨ (j=true ∧ t < 0) ∨ (j=true ∧ ¬ t < 0 ∧ n ≤ t) ∨ (j=true ∧ ¬ t < 0 ∧ ¬ n ≤ t):=by cases j <;> simp <;> omega
  rcases hc with rfl | ⟨rfl,h1⟩ | ⟨rfl,h1,h2⟩ | ⟨rfl,h1,h2⟩
  rotate_left 1
  · rw [if_pos ⟨rfl,.inl h1⟩]
    go_enter Tryz.func60,Tryz.ntmps60
    go_wp2_with (refine (halt_load 52 _ rfl ?_))
    refine ⟨?_,trivial⟩
    refine wpList_load_row rfl 52 _ rfl W.heap.size rfl _ c _ _ HL.out Tryz.underlying52 rfl HI.out ?_
    go_wp2_with fail
    refine (M.out _).mono ?_
    rintro e w1 ⟨rfl,b1⟩
    have HL1:=Lib.hid ((b1.block _ (by simp)).trans HL.out)
    have B1:=Lib.hid b1;clear b1
    go_wp2_with (refine (halt_load 52 _ rfl ?_))
    refine ⟨?_,trivial⟩
    refine wpList_load_row rfl 52 _ rfl W.heap.size rfl _ c _ _ HL1.out Tryz.underlying52 rfl HI.out ?_
    go_wp2_with fail
    refine (T.out _).mono ?_
    rintro e w2 ⟨rfl,b2⟩
    go_wp2_with fail
    go_ret
    exact ⟨rfl,below_call (below_boxed B1.out) b2⟩
  · rw [if_pos ⟨rfl,.inr h2⟩]
    go_enter Tryz.func60,Tryz.ntmps60
    go_wp2_with (refine (halt_load 52 _ rfl ?_))
    refine ⟨?_,trivial⟩
    refine wpList_load_row rfl 52 _ rfl W.heap.size rfl _ c _ _ HL.out Tryz.underlying52 rfl HI.out ?_
    go_wp2_with fail
    refine (M.out _).mono ?_
    rintro e w1 ⟨rfl,b1⟩
    have HL1:=Lib.hid ((b1.block _ (by simp)).trans HL.out)
    have B1:=Lib.hid b1;clear b1
    go_wp2_with (refine (halt_load 52 _ rfl ?_))
    refine ⟨?_,trivial⟩
    refine wpList_load_row rfl 52 _ rfl W.heap.size rfl _ c _ _ HL1.out Tryz.underlying52 rfl HI.out ?_
    go_wp2_with fail
    refine (T.out _).mono ?_
    rintro e w2 ⟨rfl,b2⟩
    go_wp2_with fail
    go_ret
    exact ⟨rfl,below_call (below_boxed B1.out) b2⟩
  · rw [if_neg (by omega)]
    go_enter Tryz.func60,Tryz.ntmps60
    go_wp2_with (refine (halt_load 52 _ rfl ?_))
    refine ⟨?_,trivial⟩
    refine wpList_load_row rfl 52 _ rfl W.heap.size rfl _ c _ _ HL.out Tryz.underlying52 rfl HI.out ?_
    go_wp2_with fail
    refine (M.out _).mono ?_
    rintro e w1 ⟨rfl,b1⟩
    have HL1:=Lib.hid ((b1.block _ (by simp)).trans HL.out)
    have B1:=Lib.hid b1;clear b1
    go_wp2_with (refine (halt_load 52 _ rfl ?_))
    refine ⟨?_,trivial⟩
    refine wpList_load_row rfl 52 _ rfl W.heap.size rfl _ c _ _ HL1.out Tryz.underlying52 rfl HI.out ?_
    go_wp2_with fail
    refine (T.out _).mono ?_
    rintro e w2 ⟨rfl,b2⟩
    go_wp2_with fail
    go_ret
    exact ⟨rfl,below_call (below_boxed B1.out) b2⟩
  · rw [if_neg (by simp)]
    go_enter Tryz.func60,Tryz.ntmps60
    go_wp2_with (refine (halt_load 52 _ rfl ?_))
    refine ⟨?_,trivial⟩
    refine wpList_load_row rfl 52 _ rfl W.heap.size rfl _ c _ _ HL.out Tryz.underlying52 rfl HI.out ?_
    go_wp2_with fail
    refine (M.out _).mono ?_
    rintro e w1 ⟨rfl,b1⟩
    have HL1:=Lib.hid ((b1.block _ (by simp)).trans HL.out)
    have B1:=Lib.hid b1;clear b1
    go_wp2_with (refine (halt_load 52 _ rfl ?_))
    refine ⟨?_,trivial⟩
    refine wpList_load_row rfl 52 _ rfl W.heap.size rfl _ c _ _ HL1.out Tryz.underlying52 rfl HI.out ?_
    go_wp2_with fail
    refine (T.out _).mono ?_
    rintro e w2 ⟨rfl,b2⟩
    go_wp2_with fail
    go_ret
    exact ⟨rfl,below_call (below_boxed B1.out) b2⟩
set_option maxHeartbeats 1000000 in
theorem handed_any (i:Int) (x:In) (n:Int) (b o:Nat) (W:World) (hn:W.cell? ⟨b,o,none⟩=some (.int .i64 n)):
    Calls Tryz.prog 59 #[.int .i64 i,.agg x.cells,.pointer (some ⟨b,o,none⟩)] W fun e w'=>e=.returned (.int .i64 (faultI i x n)) ∧ Below W.heap.size W w':=by
  have F:=Lib.hid (fun W=>fault_any i x n W)
  have i9:(Tryz.prog.info? 52).map (·.size)=some x.cells.size:=info_ins
  generalize faultI i x n=f at *
  generalize x.cells=c at *
  have L0:(W.alloc (.cells c 52)).heap[W.heap.size]?=some (.cells c 52 (0,0)):=heap_last W _ _ rfl
  have HL:=Lib.hid L0;have HI:=Lib.hid i9
  have hb:b < W.heap.size:=lt_of_cell hn
  clear L0 i9
  go_enter Tryz.func59,Tryz.ntmps59
  go_wp2_with (refine (halt_load 52 _ rfl ?_))
  refine ⟨?_,trivial⟩
  refine wpList_load_row rfl 52 _ rfl W.heap.size rfl _ c _ _ HL.out Tryz.underlying52 rfl HI.out ?_
  go_wp2_with fail
  refine (F.out _).mono ?_
  rintro e w1 ⟨rfl,b1⟩
  go_wp2_with fail
  go_ret
  exact ⟨rfl,below_boxed b1⟩
end Go.Proofs.YtigliofiojkhcaaGreat.Ins
