import Derived.Test.YtigliofiojkhcaaGreatMRn08
import Derived.Test.YtigliofiojkhcaaGreatMRn02
set_option linter.unusedVariables false
set_option linter.unusedSimpArgs false
set_option linter.unnecessarySimpa false
namespace Go.Proofs.YtigliofiojkhcaaGreat.Mdl
open Go.RowKit
set_option linter.unusedVariables false
set_option linter.unusedSimpArgs false
set_option maxRecDepth 100000
theorem sh_only {r:Int} (h0:0 ≤ r) (h1:r < 11):wrap64 (2 ^ r.toNat)=onlyI r:=by
  rcases reg_cases h0 (by omega) with rfl | rfl | rfl | rfl | rfl | rfl | rfl | rfl | rfl | rfl | rfl <;> kernel_rfl
theorem or_only {r:Int} (h0:0 ≤ r) (h1:r < 11):bits .or .i64 0 (onlyI r)=onlyI r:=by
  rcases reg_cases h0 (by omega) with rfl | rfl | rfl | rfl | rfl | rfl | rfl | rfl | rfl | rfl | rfl <;> decide
theorem only_or {r:Int} (h0:0 ≤ r) (h1:r < 11):orM (onlyI r) 0=onlyI r:=by
  rcases reg_cases h0 (by omega) with rfl | rfl | rfl | rfl | rfl | rfl | rfl | rfl | rfl | rfl | rfl <;> decide
theorem ret_i {a b:Int} (h:a=b):Ending.returned (.int .i64 a)=.returned (.int .i64 b):=by rw [h]
section
variable (op width size:Int) (dst src off imm:Int) (W:World)
abbrev Rd6 (x:Ins.In) (W:World) (v:Int):Prop:=Calls Tryz.prog 44 #[.agg x.cells] W fun e w'=>e=.returned (.int .i64 v) ∧ Below W.heap.size W w'
set_option maxHeartbeats 2000000 in
theorem r6_reads0mf (h:op=11):Rd6 (Ins.In.mk 0 op width size false dst src off imm) W 0:=by
  subst h
  unfold Rd6 Ins.In.cells
  simp only
  go_enter Tryz.func44,Tryz.ntmps44
  go_wp2
  go_ret
  exact ⟨rfl,below_new (Below.refl _ _) _⟩
set_option maxHeartbeats 2000000 in
theorem r6_reads0mt (h:op=11) (s0:0 ≤ src) (s1:src < 11):Rd6 (Ins.In.mk 0 op width size true dst src off imm) W (onlyI src):=by
  subst h
  have e:=sh_only s0 s1
  rw [← or_only s0 s1]
  unfold Rd6 Ins.In.cells
  simp only
  go_enter Tryz.func44,Tryz.ntmps44
  go_wp2
  go_ret
  exact ⟨rfl,below_new (Below.refl _ _) _⟩
set_option maxHeartbeats 2000000 in
theorem r6_reads0f (h:¬ op=11) (d0:0 ≤ dst) (d1:dst < 11):Rd6 (Ins.In.mk 0 op width size false dst src off imm) W (onlyI dst):=by
  have e0:(op != 11)=true:=by simpa using h
  have e:=sh_only d0 d1
  unfold Rd6 Ins.In.cells
  simp only
  go_enter Tryz.func44,Tryz.ntmps44
  go_wp2
  go_ret
  exact ⟨ret_i e,below_new (Below.refl _ _) _⟩
set_option maxHeartbeats 2000000 in
theorem r6_reads0t (h:¬ op=11) (d0:0 ≤ dst) (d1:dst < 11) (s0:0 ≤ src) (s1:src < 11):Rd6 (Ins.In.mk 0 op width size true dst src off imm) W (orM (onlyI dst) (onlyI src)):=by
  have e0:(op != 11)=true:=by simpa using h
  have e:=sh_only d0 d1
  have e':=sh_only s0 s1
  unfold Rd6 Ins.In.cells
  simp only
  go_enter Tryz.func44,Tryz.ntmps44
  go_wp2
  go_ret
  exact ⟨rfl,below_new (Below.refl _ _) _⟩
set_option maxHeartbeats 2000000 in
theorem r6_reads1 (byReg:Bool) (s0:0 ≤ src) (s1:src < 11):Rd6 (Ins.In.mk 1 op width size byReg dst src off imm) W (onlyI src):=by
  have e':=sh_only s0 s1
  unfold Rd6 Ins.In.cells
  simp only
  go_enter Tryz.func44,Tryz.ntmps44
  go_wp2
  go_ret
  exact ⟨ret_i e',below_new (Below.refl _ _) _⟩
set_option maxHeartbeats 2000000 in
theorem r6_reads2 (byReg:Bool) (d0:0 ≤ dst) (d1:dst < 11) (s0:0 ≤ src) (s1:src < 11):Rd6 (Ins.In.mk 2 op width size byReg dst src off imm) W (orM (onlyI dst) (onlyI src)):=by
  have e:=sh_only d0 d1
  have e':=sh_only s0 s1
  unfold Rd6 Ins.In.cells
  simp only
  go_enter Tryz.func44,Tryz.ntmps44
  go_wp2_with fail
  go_quiet (fail)
  go_wp2_with fail
  go_ret
  exact ⟨rfl,below_drewN (below_new (Below.refl _ _) _) _⟩
set_option maxHeartbeats 2000000 in
theorem r6_reads3f (d0:0 ≤ dst) (d1:dst < 11):Rd6 (Ins.In.mk 3 op width size false dst src off imm) W (onlyI dst):=by
  have e:=sh_only d0 d1
  unfold Rd6 Ins.In.cells
  simp only
  go_enter Tryz.func44,Tryz.ntmps44
  go_wp2
  go_ret
  exact ⟨ret_i e,below_new (Below.refl _ _) _⟩
set_option maxHeartbeats 2000000 in
theorem r6_reads3t (d0:0 ≤ dst) (d1:dst < 11) (s0:0 ≤ src) (s1:src < 11):Rd6 (Ins.In.mk 3 op width size true dst src off imm) W (orM (onlyI dst) (onlyI src)):=by
  have e:=sh_only d0 d1
  have e':=sh_only s0 s1
  unfold Rd6 Ins.In.cells
  simp only
  go_enter Tryz.func44,Tryz.ntmps44
  go_wp2
  go_ret
  exact ⟨rfl,below_new (Below.refl _ _) _⟩
set_option maxHeartbeats 2000000 in
theorem r6_reads4 (byReg:Bool):Rd6 (Ins.In.mk 4 op width size byReg dst src off imm) W 0:=by
  unfold Rd6 Ins.In.cells
  simp only
  go_enter Tryz.func44,Tryz.ntmps44
  go_wp2
  go_ret
  exact ⟨rfl,below_new (Below.refl _ _) _⟩
set_option maxHeartbeats 2000000 in
theorem r6_reads6 (byReg:Bool):Rd6 (Ins.In.mk 6 op width size byReg dst src off imm) W (onlyI 0):=by
  unfold Rd6 Ins.In.cells
  simp only
  go_enter Tryz.func44,Tryz.ntmps44
  go_wp2
  go_ret
  exact ⟨rfl,below_new (Below.refl _ _) _⟩
theorem argsM_step:∀ k:Nat,k < 5 → bits .or .i64 (argsM k) (wrap64 (2 ^ (k + 1)))=argsM ((k:Int) + 1)
  | 0,_=>by kernel_rfl
  | 1,_=>by kernel_rfl
  | 2,_=>by kernel_rfl
  | 3,_=>by kernel_rfl
  | 4,_=>by kernel_rfl
  | k + 5,h=>by omega
set_option maxHeartbeats 2000000 in
theorem r6_reads5 (byReg:Bool):Rd6 (Ins.In.mk 5 op width size byReg dst src off imm) W (argsM (Ins.argsI imm)):=by
  have ARG:=Lib.hid (fun W=>Ins.r_args imm W)
  have hb:0 ≤ Ins.argsI imm ∧ Ins.argsI imm ≤ 5:=by unfold Ins.argsI;split <;> omega
  obtain ⟨n,hn⟩:∃ n:Nat,Ins.argsI imm=n:=⟨(Ins.argsI imm).toNat,by omega⟩
  rw [hn] at ARG hb ⊢
  clear hn
  have hn5:n ≤ 5:=by omega
  clear hb
  unfold Rd6 Ins.In.cells
  simp only
  have c8:∀ w,Below (W.heap.size + 1) (W.alloc (.cells #[.int .i8 5,.int .i8 op,.int .i8 width,.int .i8 size,.bool byReg,.int .i8 dst,.int .i8 src,.int .i64 off,.int .i64 imm] 52)) w → w.cell? ⟨W.heap.size,8,none⟩=some (.int .i64 imm):=fun w b=>by
    have:=b.block W.heap.size (by simp)
    simp only [World.cell?,this,heap_last W (.cells #[.int .i8 5,.int .i8 op,.int .i8 width,.int .i8 size,.bool byReg,.int .i8 dst,.int .i8 src,.int .i64 off,.int .i64 imm] 52) _ rfl];rfl
  have C8:=Lib.hid c8;clear c8
  go_enter Tryz.func44,Tryz.ntmps44
  go_wp2_with fail
  have BW:=Lib.hid (below_new (Below.refl W.heap.size W) (.cells #[.int .i8 5,.int .i8 op,.int .i8 width,.int .i8 size,.bool byReg,.int .i8 dst,.int .i8 src,.int .i64 off,.int .i64 imm] 52))
  generalize W.alloc (.cells #[.int .i8 5,.int .i8 op,.int .i8 width,.int .i8 size,.bool byReg,.int .i8 dst,.int .i8 src,.int .i64 off,.int .i64 imm] 52)=w0 at *
  go_loopw [3,4] (fun s i wr=>∃ k:Nat,k ≤ n ∧ s=.int .i64 (argsM k) ∧ i=.int .i64 ((k:Int) + 1) ∧ Hid (Below (W.heap.size + 1) w0 wr)) (fun _ i _=>(n + 2) - (intOf i).toNat)
  case atStart=>exact ⟨0,by omega,rfl,rfl,Lib.hid (Below.refl _ _)⟩
  case round=>
    obtain ⟨k,hk,rfl,rfl,hR⟩:=hrel
    have c:=C8.out _ hR.out
    go_wp2_with fail
    refine (ARG.out _).mono ?_
    rintro e w1 ⟨rfl,rfl⟩
    by_cases hlt:k < n
    · have k1:(k:Int) + 1 ≤ n:=by omega
      have hst:=argsM_step k (by omega)
      have es:wrap64 (((k:Int) + 1) + 1)=(k:Int) + 1 + 1:=IntWalk.wrap64_in _ (by omega)
      go_wp2_with fail
      go_roundw
      case rel=>exact ⟨k + 1,by omega,by rw [Int.natCast_succ],by go_num,hR⟩
      case measure=>simp [intOf];omega
    · obtain rfl:k=n:=by omega
      go_wp2_with fail
      go_ret
      exact ⟨rfl,BW.out.trans (hR.out.mono (by omega))⟩
end
theorem r6_reads (x:Ins.In) (W:World) (k0:0 ≤ x.kind) (k6:x.kind ≤ 6) (d0:0 ≤ x.dst) (d1:x.dst < 11) (s0:0 ≤ x.src) (s1:x.src < 11):Rd6 x W (readsM x):=by
  obtain ⟨kind,op,width,size,byReg,dst,src,off,imm⟩:=x
  simp only at k0 k6 d0 d1 s0 s1
  have c:kind=0 ∨ kind=1 ∨ kind=2 ∨ kind=3 ∨ kind=4 ∨ kind=5 ∨ kind=6:=by omega
  rcases c with rfl | rfl | rfl | rfl | rfl | rfl | rfl
  · by_cases ho:op=11
    · cases byReg
      · have:=r6_reads0mf op width size dst src off imm W ho
        simpa [readsM,secondI,ho] using this
      · have:=r6_reads0mt op width size dst src off imm W ho s0 s1
        simpa [readsM,secondI,ho] using this
    · cases byReg
      · have:=r6_reads0f op width size dst src off imm W ho d0 d1
        simpa [readsM,secondI,ho,only_or d0 d1] using this
      · have:=r6_reads0t op width size dst src off imm W ho d0 d1 s0 s1
        simpa [readsM,secondI,ho] using this
  · simpa [readsM] using r6_reads1 op width size dst src off imm W byReg s0 s1
  · simpa [readsM] using r6_reads2 op width size dst src off imm W byReg d0 d1 s0 s1
  · cases byReg
    · have:=r6_reads3f op width size dst src off imm W d0 d1
      simpa [readsM,secondI,only_or d0 d1] using this
    · have:=r6_reads3t op width size dst src off imm W d0 d1 s0 s1
      simpa [readsM,secondI] using this
  · simpa [readsM] using r6_reads4 op width size dst src off imm W byReg
  · simpa [readsM] using r6_reads5 op width size dst src off imm W byReg
  · simpa [readsM] using r6_reads6 op width size dst src off imm W byReg
end Go.Proofs.YtigliofiojkhcaaGreat.Mdl
namespace Go.Proofs.YtigliofiojkhcaaGreat.Mdl
open Go.RowKit
set_option linter.unusedVariables false
set_option maxRecDepth 100000
structure Mo where
  prog:Value
  memo:Value
  r:Nat → Int
  set:Int
  at_:Int
  fuel:Int
  answers:Value
  trace:Value
  fin:Int
def Mo.cells (s:Mo):Array Value:=#[s.prog,s.memo,.int .u64 (s.r 0),.int .u64 (s.r 1),.int .u64 (s.r 2),.int .u64 (s.r 3),.int .u64 (s.r 4),.int .u64 (s.r 5),.int .u64 (s.r 6),.int .u64 (s.r 7),.int .u64 (s.r 8),.int .u64 (s.r 9),.int .u64 (s.r 10),.int .i64 s.set,.int .i64 s.at_,.int .i64 s.fuel,s.answers,s.trace,.int .i8 s.fin]
def Mo.in_ (s:Mo) (w:World) (g:Nat):Prop:=w.heap[g]?=some (.cells s.cells 78 (0,0))
theorem Mo.below {s:Mo} {W w:World} {g:Nat} (h:s.in_ W g) (b:Below W.heap.size W w):s.in_ w g:=(b.block _ (Array.getElem?_eq_some_iff.1 h).1).trans h
theorem Mo.reg {s:Mo} {w:World} {g:Nat} (h:s.in_ w g) (k:Nat) (hk:k < 11):w.cell? ⟨g,2 + k,none⟩=some (.int .u64 (s.r k)):=by
  unfold Mo.in_ at h
  simp only [World.cell?,h]
  have c:k=0 ∨ k=1 ∨ k=2 ∨ k=3 ∨ k=4 ∨ k=5 ∨ k=6 ∨ k=7 ∨ k=8 ∨ k=9 ∨ k=10:=by omega
  rcases c with rfl | rfl | rfl | rfl | rfl | rfl | rfl | rfl | rfl | rfl | rfl <;> rfl
theorem Mo.c13 {s:Mo} {w:World} {g:Nat} (h:s.in_ w g):w.cell? ⟨g,13,none⟩=some (.int .i64 s.set):=by
  unfold Mo.in_ at h
  simp only [World.cell?,h];rfl
theorem Mo.c14 {s:Mo} {w:World} {g:Nat} (h:s.in_ w g):w.cell? ⟨g,14,none⟩=some (.int .i64 s.at_):=by
  unfold Mo.in_ at h
  simp only [World.cell?,h];rfl
set_option maxHeartbeats 1000000 in
theorem mayRead_any (s:Mo) (g:Nat) (m:Int) (W:World) (h:s.in_ W g):
    Calls Tryz.prog 37 #[.pointer (some ⟨g,0,none⟩),.int .i64 m] W fun e w'=>e=.returned (.bool (andM s.set m == m)) ∧ W=w':=by
  have c:=s.c13 h
  clear h
  go_enter Tryz.func37,Tryz.ntmps37
  go_wp2
  go_ret
  exact ⟨rfl,rfl⟩
def operandI (s:Mo) (x:Ins.In):Int:=if x.byReg=true then s.r x.src.toNat else x.imm % 18446744073709551616
set_option maxHeartbeats 1000000 in
theorem operand_imm (s:Mo) (g:Nat) (kind op width size dst src off imm:Int) (W:World) (h:s.in_ W g):
    Calls Tryz.prog 64 #[.pointer (some ⟨g,0,none⟩),.agg (Ins.In.mk kind op width size false dst src off imm).cells] W fun e w'=>e=.returned (.int .u64 (imm % 18446744073709551616)) ∧ Below W.heap.size W w':=by
  have e:IntKind.u64.wrap imm=imm % 18446744073709551616:=IntKind.wrap_u64 imm
  rw [← e]
  clear e h
  unfold Ins.In.cells
  simp only
  go_enter Tryz.func64,Tryz.ntmps64
  go_wp2
  go_ret
  exact ⟨rfl,below_new (Below.refl _ _) _⟩
set_option maxHeartbeats 2000000 in
theorem operand_reg (s:Mo) (g:Nat) (kind op width size dst off imm:Int) (n:Nat) (W:World) (h:s.in_ W g) (hn:n < 11):
    Calls Tryz.prog 64 #[.pointer (some ⟨g,0,none⟩),.agg (Ins.In.mk kind op width size true dst n off imm).cells] W fun e w'=>e=.returned (.int .u64 (s.r n)) ∧ Below W.heap.size W w':=by
  have c:=s.reg (s.below h (below_new (Below.refl _ W) (.cells (Ins.In.mk kind op width size true dst n off imm).cells 52))) n hn
  have c6:(W.alloc (.cells (Ins.In.mk kind op width size true dst n off imm).cells 52)).cell? ⟨W.heap.size,6,none⟩=some (.int .i8 n):=by
    simp only [World.cell?,heap_last W (.cells (Ins.In.mk kind op width size true dst n off imm).cells 52) _ rfl];rfl
  clear h
  unfold Ins.In.cells at c c6 ⊢
  simp only at c c6 ⊢
  generalize s.r n=v at *
  go_enter Tryz.func64,Tryz.ntmps64
  go_wp2_with fail
  go_quiet (fail)
  go_wp2_with fail
  go_ret
  exact ⟨rfl,below_drewN (below_new (Below.refl _ W) _) _⟩
end Go.Proofs.YtigliofiojkhcaaGreat.Mdl
namespace Go.Proofs.YtigliofiojkhcaaGreat
open Go
set_option linter.unusedVariables false
section
variable {P:Program} {ops:Array Oper} {Q:Exit → Act → World → Prop} {md:Region.Mode}
structure InvL (ops:Array Oper) (a0:Act) (S:(Nat → Bool) → World → Prop) (R:Nat → Value → Prop) (l:Array Bool) (a:Act) (w:World):Prop where
  s:S (fun i=>l.getD i true) w
  defers:a.defers=a0.defers
  size:a.tmps.size=a0.tmps.size
  rest:∀ j,(∀ (i:Nat) (o:Oper),ops[i]?=some o → o.dst ≠ some j) → a.tmps.getD j undef=a0.tmps.getD j undef
  done:∀ (i:Nat) (o:Oper),ops[i]?=some o → l.getD i true=true → R i (own o a)
theorem wp_region_invl {id:Nat} {a0:Act} {w0:World} (S:(Nat → Bool) → World → Prop) (R:Nat → Value → Prop) (hm:P.follows .mixedOrders=true)
    (hback:∀ (i:Nat) (o:Oper),ops[i]?=some o → ∀ e ∈ o.after,Region.binds .any e=true → e.on < i)
    (hdst:∀ (i j:Nat) (o o':Oper) (d:Nat),ops[i]?=some o → ops[j]?=some o' → o.dst=some d → o'.dst=some d → i=j)
    (hin:∀ (i:Nat) (o:Oper) (d:Nat),ops[i]?=some o → o.dst=some d → d < a0.tmps.size)
    (h0:∀ fl:Nat → Bool,(∀ i,i < ops.size → fl i=false) → S fl { w0 with drawn:=w0.drawn + 1 })
    (hop:∀ (i:Nat) (o:Oper) (a:Act) (w:World) (fl:Nat → Bool),ops[i]?=some o → S fl w → fl i=false → a.defers=a0.defers → a.tmps.size=a0.tmps.size → (∀ j,(∀ (i:Nat) (o:Oper),ops[i]?=some o → o.dst ≠ some j) → a.tmps.getD j undef=a0.tmps.getD j undef) →
      (∀ e ∈ o.after,Region.binds .any e=true → fl e.on=true ∧ ∀ (o':Oper),ops[e.on]?=some o' → R e.on (own o' a)) →
      wpOp P ops Q i (fun a' w'=>∃ v,a'=a.put o.dst v ∧ R i (own o a') ∧ S (fun j=>if j=i then true else fl j) w') a w)
    (hq:∀ (u:Nat → Value) (w':World) (fl:Nat → Bool),(∀ i,i < ops.size → fl i=true) → S fl w' → (∀ (i:Nat) (o:Oper),ops[i]?=some o → R i (ownU o u)) → Q .normal ⟨putAll a0.tmps (outs ops u),a0.defers⟩ w'):
    (Code.region id ops true).wp P Q a0 w0:=by
  refine wp_region_any hm ?_
  refine wpAny_inv (InvL ops a0 S R) hback ?_ ?_ ops.size _ _ _ (by simp) ⟨h0 _ (fun i hi=>by simp [Array.getD_eq_getD_getElem?,hi]),rfl,rfl,fun _ _=>rfl,?_⟩ ?_
  · intro l a w hI hl
    have e:a.tmps=putAll a0.tmps (outs ops fun d=>a.tmps.getD d undef):=by
      apply Array.ext_getElem?
      intro j
      by_cases hj:j < a0.tmps.size
      · by_cases hd:∃ (i:Nat) (o:Oper),ops[i]?=some o ∧ o.dst=some j
        · obtain ⟨i,o,ho,hd⟩:=hd
          rw [putAll_mem (fun d=>a.tmps.getD d undef) _ _ j hj]
          · have hj':j < a.tmps.size:=by rw [hI.size];exact hj
            rw [Array.getElem?_eq_getElem hj']
            simp [Array.getD_eq_getD_getElem?,Array.getElem?_eq_getElem hj']
          · intro p hp
            unfold outs at hp
            rw [List.mem_filterMap] at hp
            obtain ⟨i',_,he⟩:=hp
            rw [Option.map_eq_some_iff] at he
            obtain ⟨d,_,rfl⟩:=he
            rfl
          · refine ⟨(j,a.tmps.getD j undef),?_,rfl⟩
            unfold outs
            rw [List.mem_filterMap]
            exact ⟨i,List.mem_range.2 (Array.getElem?_eq_some_iff.1 ho).1,by rw [ho];simp [hd]⟩
        · have hr:=hI.rest j (fun i o ho hd'=>hd ⟨i,o,ho,hd'⟩)
          rw [putAll_other]
          · have hj':j < a.tmps.size:=by rw [hI.size];exact hj
            rw [Array.getElem?_eq_getElem hj',Array.getElem?_eq_getElem hj]
            simp only [Array.getD_eq_getD_getElem?,Array.getElem?_eq_getElem hj',Array.getElem?_eq_getElem hj,Option.getD_some] at hr
            rw [hr]
          · intro p hp e
            unfold outs at hp
            rw [List.mem_filterMap] at hp
            obtain ⟨i',_,he⟩:=hp
            rw [Option.map_eq_some_iff] at he
            obtain ⟨d,hd',rfl⟩:=he
            rw [Option.bind_eq_some_iff] at hd'
            obtain ⟨o,ho,hd'⟩:=hd'
            exact hd ⟨i',o,ho,by rw [hd',← e]⟩
      · rw [Array.getElem?_eq_none (by rw [hI.size];omega),Array.getElem?_eq_none (by rw [putAll_size];omega)]
    have ea:a=⟨putAll a0.tmps (outs ops fun d=>a.tmps.getD d undef),a0.defers⟩:=by
      rw [← e,← hI.defers]
    have hu:=hq (fun d=>a.tmps.getD d undef) w _ hl hI.s (fun i o ho=>hI.done i o ho (hl i (Array.getElem?_eq_some_iff.1 ho).1))
    rw [ea]
    exact hu
  · intro l a w i o hs hI ho hf ha
    have hi:i < l.size:=by rw [hs];exact (Array.getElem?_eq_some_iff.1 ho).1
    have hup:∀ (e:Nat),l.getD e false=true → l.getD e true=true:=fun e he=>by
      by_cases hlt:e < l.size
      · simp only [Array.getD_eq_getD_getElem?,Array.getElem?_eq_getElem hlt,Option.getD_some] at he ⊢
        exact he
      · simp only [Array.getD_eq_getD_getElem?]
        rw [Array.getElem?_eq_none (by omega)];rfl
    have hfi:l.getD i true=false:=by
      simp only [Array.getD_eq_getD_getElem?,Array.getElem?_eq_getElem hi,Option.getD_some] at hf ⊢
      exact hf
    refine wpOp_mono ?_ (hop i o a w _ ho hI.s hfi hI.defers hI.size hI.rest (fun e he hb=>⟨hup _ (ha e he hb),fun o' ho'=>hI.done e.on o' ho' (hup _ (ha e he hb))⟩))
    rintro a' w' ⟨v,rfl,hR,hS⟩
    have hS':S (fun j=>(l.setIfInBounds i true).getD j true) w':=by
      have e:(fun j=>(l.setIfInBounds i true).getD j true)=fun j=>if j=i then true else l.getD j true:=by
        funext j
        rw [getD_set l i j hi]
      rw [e];exact hS
    cases hod:o.dst with
    | none=>
      refine ⟨hS',hI.defers,hI.size,hI.rest,fun j oj hj hl=>?_⟩
      rw [hod] at hR
      by_cases hji:j=i
      · subst hji
        rw [ho] at hj;cases hj
        exact hR
      · rw [getD_set l i j hi,if_neg hji] at hl
        exact hI.done j oj hj hl
    | some d0=>
      have hd0:d0 < a.tmps.size:=by rw [hI.size];exact hin i o d0 ho hod
      have hput:=put_getD a d0 v hd0
      refine ⟨hS',hI.defers,by show (a.tmps.setIfInBounds d0 v).size=_;simp [hI.size],fun j hj=>?_,fun j oj hj hl=>?_⟩
      · rw [hput j,if_neg (fun e=>hj i o ho (by rw [hod,e]))]
        exact hI.rest j hj
      · rw [hod] at hR
        by_cases hji:j=i
        · subst hji
          rw [ho] at hj;cases hj
          exact hR
        · rw [getD_set l i j hi,if_neg hji] at hl
          have h1:own oj (a.put (some d0) v)=own oj a:=by
            unfold own
            cases hdj:oj.dst with
            | none=>rfl
            | some d=>
              show (a.put (some d0) v).tmps.getD d undef=a.tmps.getD d undef
              rw [hput d,if_neg (fun e=>hji (hdst j i oj o d hj ho hdj (by rw [hod,e])))]
          rw [h1]
          exact hI.done j oj hj hl
  · intro i o ho hl
    have hi:=(Array.getElem?_eq_some_iff.1 ho).1
    simp [Array.getD_eq_getD_getElem?,hi] at hl
  · have:∀ (l:Array Bool) n,unl l n ≤ n:=fun l n=>by
      induction n with
      | zero=>exact Nat.le_refl _
      | succ n ih=>unfold unl;split <;> omega
    exact this _ _
end
end Go.Proofs.YtigliofiojkhcaaGreat
