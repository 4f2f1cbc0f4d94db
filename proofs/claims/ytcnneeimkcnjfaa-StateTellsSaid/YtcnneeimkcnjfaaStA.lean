import Derived.Test.YtcnneeimkcnjfaaSbE
import Derived.Test.YtcnneeimkcnjfaaSv
import Derived.Test.YtcnneeimkcnjfaaStM
import Derived.Laws.StructEq
import Derived.ChangeKeysEq
namespace Go.Proofs.Ytcnneeimkcnjfaa.Sta
open Go.RowKit Go.Maps Bnd Knw
set_option linter.unusedVariables false
set_option linter.unusedSimpArgs false
set_option maxRecDepth 100000
abbrev knC (k:Kn):Array Value:=#[.int .u64 (V k.v),.int .u64 (V k.m)]
abbrev scC (s:Sc):Array Value:=#[.int .u64 s.r.u.lo,.int .u64 s.r.u.hi,.int .i64 s.r.s.lo,.int .i64 s.r.s.hi,.int .u64 (V s.k.v),.int .u64 (V s.k.m)]
abbrev tyC (t:Ty):Array Value:=#[.int .i8 t.kd,.int .u64 t.s.r.u.lo,.int .u64 t.s.r.u.hi,.int .i64 t.s.r.s.lo,.int .i64 t.s.r.s.hi,.int .u64 (V t.s.k.v),.int .u64 (V t.s.k.m),.int .i64 t.lo,.int .i64 t.hi]
def tyL (t:Ty):List Value:=(tyC t).toList
def stL (S:St):List Value:=(List.range 19).flatMap (fun i=>tyL (S i))
def stC (S:St):Array Value:=(stL S).toArray
def snL (X:Snp):List Value:=(List.range 11).map (fun i=>Value.int .u64 (V (X.r i))) ++ .int .i64 X.set :: (List.range 64).map (fun i=>Value.int .u8 (X.f i))
def snC (X:Snp):Array Value:=(snL X).toArray
theorem below19 {j:Nat} (h:j < 19):j=0 ∨ j=1 ∨ j=2 ∨ j=3 ∨ j=4 ∨ j=5 ∨ j=6 ∨ j=7 ∨ j=8 ∨ j=9 ∨ j=10 ∨ j=11 ∨ j=12 ∨ j=13 ∨ j=14 ∨ j=15 ∨ j=16 ∨ j=17 ∨ j=18:=by omega
theorem stC_size (S:St):(stC S).size=171:=by kernel_rfl
theorem st_info (S:St):(Try.prog.info? 35).map (·.size)=some (stC S).size:=by rw [stC_size];kernel_rfl
theorem stL_len (S:St):(stL S).length=171:=by kernel_rfl
theorem stL_el (S:St) {j:Nat} (h:j < 19):((stL S).drop (9 * j)).take 9=tyL (S j):=by
  rcases below19 h with rfl | rfl | rfl | rfl | rfl | rfl | rfl | rfl | rfl | rfl | rfl | rfl | rfl | rfl | rfl | rfl | rfl | rfl | rfl <;> kernel_rfl
theorem stC_at (S:St) {j:Nat} (h:j < 19) {d:Nat} (hd:d < 9) {v:Value} (hv:(tyL (S j))[d]?=some v):(stC S)[9 * j + d]?=some v:=by
  rw [← stL_el S h,List.getElem?_take_of_lt hd,List.getElem?_drop] at hv
  show (stL S).toArray[9 * j + d]?=_
  rw [List.getElem?_toArray];exact hv
theorem stC_set (S:St) {j:Nat} (h:j < 19) (T:Ty):setL (stC S) (9 * j) (tyC T).toList=stC (upS S j T):=by
  rcases below19 h with rfl | rfl | rfl | rfl | rfl | rfl | rfl | rfl | rfl | rfl | rfl | rfl | rfl | rfl | rfl | rfl | rfl | rfl | rfl <;> kernel_rfl
theorem fm_congr {S S':St}:∀ l:List Nat,(∀ i ∈ l,S i=S' i) → l.flatMap (fun i=>tyL (S i))=l.flatMap (fun i=>tyL (S' i))
  | [],_=>rfl
  | i :: l,h=>by
    rw [List.flatMap_cons,List.flatMap_cons,h i (List.mem_cons_self ..),fm_congr l (fun j hj=>h j (List.mem_cons_of_mem _ hj))]
theorem stC_congr {S S':St} (h:∀ i,i < 19 → S i=S' i):stC S=stC S':=by
  unfold stC stL
  rw [fm_congr _ (fun i hi=>h i (List.mem_range.1 hi))]
theorem tyC_one (t:Ty):(tyC t).all (·.oneCell')=true:=by kernel_rfl
theorem scC_one (s:Sc):(scC s).all (·.oneCell')=true:=by kernel_rfl
theorem knC_one (k:Kn):(knC k).all (·.oneCell')=true:=by kernel_rfl
theorem cR_one (a b c d:Int):(cR a b c d).all (·.oneCell')=true:=by kernel_rfl
theorem stC_one (S:St):(stC S).all (·.oneCell')=true:=by kernel_rfl
section
variable {ρ:Operand → Value} {o:Oper} {w:World} {x:Operand} {g:Nat} {fr:Nat × Nat} {T:TypeId}
theorem ldSt {S:St} (ho:o.op=.load 35 x) (hx:ρ x=.pointer (some ⟨g,0,none⟩)) (hg:w.heap[g]?=some (.cells (stC S) T fr)):(execOp ρ o).run Try.prog w=.ok (.value (.agg (stC S))) w:=
  exec_loadR 35 x ho g 0 hx hg (stL S) (by rw [List.drop_zero,show (stL S).length=(stC S).toList.length from rfl,List.take_length];rfl) _ Try.underlying35 rfl (by rw [stL_len];kernel_rfl)
theorem ldSn {X:Snp} (ho:o.op=.load 39 x) (hx:ρ x=.pointer (some ⟨g,0,none⟩)) (hg:w.heap[g]?=some (.cells (snC X) T fr)):(execOp ρ o).run Try.prog w=.ok (.value (.agg (snC X))) w:=
  exec_loadR 39 x ho g 0 hx hg (snL X) (by rw [List.drop_zero,show (snL X).length=(snC X).toList.length from rfl,List.take_length];rfl) _ Try.underlying39 rfl (by kernel_rfl)
theorem ldEl {S:St} {j:Nat} (hj:j < 19) (ho:o.op=.load 31 x) (hx:ρ x=.pointer (some ⟨g,9 * j,none⟩)) (hg:w.heap[g]?=some (.cells (stC S) T fr)):(execOp ρ o).run Try.prog w=.ok (.value (.agg (tyC (S j)))) w:=
  exec_loadR 31 x ho g (9 * j) hx hg (tyL (S j)) (stL_el S hj) _ Try.underlying31 rfl (by kernel_rfl)
theorem ldKd {S:St} {j:Nat} (hj:j < 19) (ho:o.op=.load 22 x) (hx:ρ x=.pointer (some ⟨g,9 * j,none⟩)) (hg:w.heap[g]?=some (.cells (stC S) T fr)):(execOp ρ o).run Try.prog w=.ok (.value (.int .i8 (S j).kd)) w:=
  ex_ld ho hx hg (stC_at S hj (d:=0) (by decide) rfl) Try.isAgg22
theorem ldLo {S:St} {j:Nat} (hj:j < 19) (ho:o.op=.load 3 x) (hx:ρ x=.pointer (some ⟨g,9 * j + 7,none⟩)) (hg:w.heap[g]?=some (.cells (stC S) T fr)):(execOp ρ o).run Try.prog w=.ok (.value (.int .i64 (S j).lo)) w:=
  ex_ld ho hx hg (stC_at S hj (d:=7) (by decide) rfl) Try.isAgg3
theorem ldTy {t:Ty} (ho:o.op=.load 31 x) (hx:ρ x=.pointer (some ⟨g,0,none⟩)) (hg:w.heap[g]?=some (.cells (tyC t) T fr)):(execOp ρ o).run Try.prog w=.ok (.value (.agg (tyC t))) w:=
  exec_loadR 31 x ho g 0 hx hg (tyL t) rfl _ Try.underlying31 rfl (by kernel_rfl)
theorem ldSc {s:Sc} (ho:o.op=.load 29 x) (hx:ρ x=.pointer (some ⟨g,0,none⟩)) (hg:w.heap[g]?=some (.cells (scC s) T fr)):(execOp ρ o).run Try.prog w=.ok (.value (.agg (scC s))) w:=
  exec_loadR 29 x ho g 0 hx hg (scC s).toList rfl _ Try.underlying29 rfl (by kernel_rfl)
theorem ldKn {k:Kn} (ho:o.op=.load 27 x) (hx:ρ x=.pointer (some ⟨g,0,none⟩)) (hg:w.heap[g]?=some (.cells (knC k) T fr)):(execOp ρ o).run Try.prog w=.ok (.value (.agg (knC k))) w:=
  exec_loadR 27 x ho g 0 hx hg (knC k).toList rfl _ Try.underlying27 rfl (by kernel_rfl)
end
section
variable {ρ:Operand → Value} {o:Oper} {w:World} {x y:Operand} {T t u:TypeId} {k:IntKind} {a b:Int}
theorem ex_box {v:Value} {c:Array Value} (ho:o.op=.box T x) (hx:ρ x=v) (hc:v.cells=c):(execOp ρ o).run Try.prog w=.ok (.value (.pointer (some ⟨w.heap.size,0,none⟩))) (w.alloc (.cells c T)):=by
  subst hc
  simp [execOp,ho,hx,go_sem]
theorem al_kn (ho:o.op=.alloc 27):(execOp ρ o).run Try.prog w=.ok (.value (.pointer (some ⟨w.heap.size,0,none⟩))) (w.alloc (.cells (knC zKn) 27)):=by
  simp [execOp,ho,go_sem]
  rfl
theorem al_sc (ho:o.op=.alloc 29):(execOp ρ o).run Try.prog w=.ok (.value (.pointer (some ⟨w.heap.size,0,none⟩))) (w.alloc (.cells (scC zSc) 29)):=by
  simp [execOp,ho,go_sem]
  rfl
theorem al_ty (ho:o.op=.alloc 31):(execOp ρ o).run Try.prog w=.ok (.value (.pointer (some ⟨w.heap.size,0,none⟩))) (w.alloc (.cells (tyC tZ) 31)):=by
  simp [execOp,ho,go_sem]
  rfl
theorem al_st (ho:o.op=.alloc 35):(execOp ρ o).run Try.prog w=.ok (.value (.pointer (some ⟨w.heap.size,0,none⟩))) (w.alloc (.cells (stC zS) 35)):=by
  simp [execOp,ho,go_sem]
  kernel_rfl
theorem ex_z9 (ho:o.op=.build 31 #[]):(execOp ρ o).run Try.prog w=.ok (.value (.agg (tyC tZ))) w:=exec_build ho (vs:=#[]) (by simp) (by kernel_rfl)
theorem ex_z6 (ho:o.op=.build 29 #[]):(execOp ρ o).run Try.prog w=.ok (.value (.agg (scC zSc))) w:=exec_build ho (vs:=#[]) (by simp) (by kernel_rfl)
theorem ex_zst (ho:o.op=.build 35 #[]):(execOp ρ o).run Try.prog w=.ok (.value (.agg (stC zS))) w:=exec_build ho (vs:=#[]) (by simp) (by kernel_rfl)
theorem ex_an (ho:o.op=.binOp .andNot t x y u) (hx:ρ x=.int k a) (hy:ρ y=.int k b):(execOp ρ o).run Try.prog w=.ok (.value (.int k (bits .andNot k a b))) w:=by simp [execOp,ho,hx,hy,go_sem]
end
section
variable {ρ:Operand → Value} {o:Oper} {w:World} {x:Operand} {g:Nat} {fr:Nat × Nat} {T:TypeId}
theorem ldSet {X:Snp} (ho:o.op=.load 3 x) (hx:ρ x=.pointer (some ⟨g,11,none⟩)) (hg:w.heap[g]?=some (.cells (snC X) T fr)):(execOp ρ o).run Try.prog w=.ok (.value (.int .i64 X.set)) w:=
  ex_ld ho hx hg (by kernel_rfl) Try.isAgg3
theorem snL_reg (X:Snp) {j:Nat} (h:j < 11):(snC X)[j]?=some (.int .u64 (V (X.r j))):=by
  unfold snC snL
  rw [List.getElem?_toArray,List.getElem?_append_left (by simp;omega),List.getElem?_map,List.getElem?_range h];rfl
theorem snL_byte (X:Snp) {j:Nat} (h:j < 64):(snC X)[12 + j]?=some (.int .u8 (X.f j)):=by
  unfold snC snL
  rw [List.getElem?_toArray,List.getElem?_append_right (by simp;omega)]
  rw [show 12 + j - ((List.range 11).map (fun i=>Value.int .u64 (V (X.r i)))).length=j + 1 by simp;omega,List.getElem?_cons_succ,List.getElem?_map,List.getElem?_range h];rfl
theorem ldReg {X:Snp} {j:Nat} (hj:j < 11) (ho:o.op=.load 23 x) (hx:ρ x=.pointer (some ⟨g,j,none⟩)) (hg:w.heap[g]?=some (.cells (snC X) T fr)):(execOp ρ o).run Try.prog w=.ok (.value (.int .u64 (V (X.r j)))) w:=
  ex_ld ho hx hg (snL_reg X hj) Try.isAgg23
theorem ldByte {X:Snp} {j:Nat} (hj:j < 64) (ho:o.op=.load 5 x) (hx:ρ x=.pointer (some ⟨g,12 + j,none⟩)) (hg:w.heap[g]?=some (.cells (snC X) T fr)):(execOp ρ o).run Try.prog w=.ok (.value (.int .u8 (X.f j))) w:=
  ex_ld ho hx hg (snL_byte X hj) Try.isAgg5
end
set_option maxHeartbeats 1000000 in
theorem ty_refl (a:Ty) (w:World):(Op.equalIn 9998 31 (.agg (tyC a)) (.agg (tyC a))).run Try.prog w=.ok true w:=by
  simp [go_sem]
theorem part_row {t:TypeId} {n off:Nat} {xs:Array Value} {d:TypeDesc} (ht:Try.prog.underlying t=some d) (hd:d.isRow=true) (hs:Try.prog.cellsOf t=n) (w:World):(part t xs off).run Try.prog w=.ok (.agg (xs.extract off (off + n))) w:=by
  obtain ⟨i,hi⟩:=info_of_underlying ht
  cases d <;> simp [TypeDesc.isRow] at hd <;> simp [part,isAgg,run_underlying ht,run_sizeOf w hi,hs]
theorem items_refl {xs:Array Value} (w:World):∀ is:List Nat,(∀ i ∈ is,∃ y,xs.extract (i * 9) (i * 9 + 9)=tyC y) → (Op.eqItems 9998 31 (Try.prog.cellsOf 31) xs xs is).run Try.prog w=.ok true w
  | [],_=>by simp [Op.eqItems]
  | i :: is,h=>by
    obtain ⟨y,hy⟩:=h i (List.mem_cons_self ..)
    have ih:=items_refl (xs:=xs) w is (fun j hj=>h j (List.mem_cons_of_mem _ hj))
    have hc:Try.prog.cellsOf 31=9:=by kernel_rfl
    rw [hc] at ih ⊢
    have hp:=part_row (xs:=xs) (off:=i * 9) Try.underlying31 rfl hc w
    rw [hy] at hp
    simp only [Op.eqItems,Sem.run_bind,hp,ty_refl y w,Result.andThen_ok,Bool.not_true,Bool.false_eq_true,if_false,ih]
theorem fields_refl {d:Nat} {xs:Array Value} (w:World):∀ fs:List Field,(∀ f ∈ fs,f.name ≠ "_" ∧ ∃ a,(part f.type xs f.offset).run Try.prog w=.ok a w ∧ (Op.equalIn d f.type a a).run Try.prog w=.ok true w) → (Op.eqFields d xs xs fs).run Try.prog w=.ok true w
  | [],_=>by simp [Op.eqFields]
  | f :: fs,h=>by
    obtain ⟨hn,a,h1,h2⟩:=h f (List.mem_cons_self ..)
    have ih:=fields_refl w fs (fun g hg=>h g (List.mem_cons_of_mem _ hg))
    simp only [Op.eqFields,if_pos hn,Sem.run_bind,h1,h2,Result.andThen_ok,Bool.not_true,Bool.false_eq_true,if_false,ih]
theorem st_fields:(Try.prog.fieldsOf 35).toList.map (fun f=>(f.name,f.type,f.offset))=[("Regs", 32,0),("Slots", 33,99)]:=by kernel_rfl
theorem regs_el (S:St) {i:Nat} (h:i < 11):((stC S).extract 0 (0 + 99)).extract (i * 9) (i * 9 + 9)=tyC (S i):=by
  rcases below19 (show i < 19 by omega) with rfl | rfl | rfl | rfl | rfl | rfl | rfl | rfl | rfl | rfl | rfl | rfl | rfl | rfl | rfl | rfl | rfl | rfl | rfl <;> first | omega | kernel_rfl
theorem slots_el (S:St) {i:Nat} (h:i < 8):((stC S).extract 99 (99 + 72)).extract (i * 9) (i * 9 + 9)=tyC (S (11 + i)):=by
  rcases below19 (show i < 19 by omega) with rfl | rfl | rfl | rfl | rfl | rfl | rfl | rfl | rfl | rfl | rfl | rfl | rfl | rfl | rfl | rfl | rfl | rfl | rfl <;> first | omega | kernel_rfl
theorem eq_st (S:St) (w:World):(Op.equalIn 10000 35 (.agg (stC S)) (.agg (stC S))).run Try.prog w=.ok true w:=by
  rw [run_equalIn_struct (P:=Try.prog) w 9999 35 _ _ (by kernel_rfl) (by kernel_rfl)]
  refine fields_refl w _ (fun f hf=>?_)
  have hm:=List.mem_map_of_mem (f:=fun f:Field=>(f.name,f.type,f.offset)) hf
  rw [st_fields] at hm
  simp only [List.mem_cons,List.not_mem_nil,or_false,Prod.mk.injEq] at hm
  rcases hm with ⟨h1,h2,h3⟩ | ⟨h1,h2,h3⟩
  · rw [h1,h2,h3]
    obtain ⟨i,hi⟩:=info_of_underlying Try.underlying31
    refine ⟨by decide,_,part_row (n:=99) Try.underlying32 rfl (by kernel_rfl) w,?_⟩
    rw [run_equalIn_array (P:=Try.prog) w 9998 _ _ Try.underlying32 hi]
    exact items_refl w _ (fun i hi=>⟨_,regs_el S (List.mem_range.1 hi)⟩)
  · rw [h1,h2,h3]
    obtain ⟨i,hi⟩:=info_of_underlying Try.underlying31
    refine ⟨by decide,_,part_row (n:=72) Try.underlying33 rfl (by kernel_rfl) w,?_⟩
    rw [run_equalIn_array (P:=Try.prog) w 9998 _ _ Try.underlying33 hi]
    exact items_refl w _ (fun i hi=>⟨_,slots_el S (List.mem_range.1 hi)⟩)
theorem eq_kn (a b:Kn) (w:World):(Op.equalIn 10000 27 (.agg (knC a)) (.agg (knC b))).run Try.prog w=.ok (eqK a b) w:=by
  simp [go_sem]
  unfold eqK
  rw [← V_beq,← V_beq]
  (repeat' split) <;> simp [*]
set_option maxHeartbeats 1000000 in
theorem eq_ty (a b:Ty) (w:World):(Op.equalIn 10000 31 (.agg (tyC a)) (.agg (tyC b))).run Try.prog w=.ok (eqT a b) w:=by
  simp [go_sem]
  unfold eqT eqR eqK
  rw [← V_beq,← V_beq]
  (repeat' split) <;> simp [*]
theorem eq_sc (a b:Sc) (w:World):(Op.equalIn 10000 29 (.agg (scC a)) (.agg (scC b))).run Try.prog w=.ok (eqC a b) w:=by
  simp [go_sem]
  unfold eqC eqR eqK
  rw [← V_beq,← V_beq]
  (repeat' split) <;> simp [*]
end Go.Proofs.Ytcnneeimkcnjfaa.Sta
