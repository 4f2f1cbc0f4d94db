import Derived.Test.YtbpehbeakhocnaaGreatDoorIRm24
import Derived.Test.YtbpehbeakhocnaaGreatDoorIRm32
set_option maxHeartbeats 4000000
set_option linter.unusedVariables false
set_option linter.unusedSimpArgs false
set_option linter.unnecessarySimpa false
namespace Go.Proofs.YtbpehbeakhocnaaGreatDoor.Mrm
open Go Go.RowKit
set_option maxRecDepth 100000
def hiB (r:Int):Int:=if 7 < r then 8 else 0
def stripH (l:List Int):Bool × List Int:=if l.headD 0=102 then (true,l.tail) else (false,l)
theorem rexN_fin (wd:Bool):∀ r m:Fin 16,(64 + rexN wd r.1 m.1) / 16=4 ∧ decide ((64 + rexN wd r.1 m.1) / 8 % 2=1)=wd ∧ (64 + rexN wd r.1 m.1) / 4 % 2 * 8=hiB r.1 ∧ (64 + rexN wd r.1 m.1) % 2 * 8=hiB m.1 ∧ (rexN wd r.1 m.1=0 → wd=false ∧ hiB r.1=0 ∧ hiB m.1=0):=by cases wd <;> decide +kernel
theorem rexN_is (wd:Bool) {r m:Int} (hr:0 ≤ r ∧ r < 16) (hm:0 ≤ m ∧ m < 16):(64 + rexN wd r m) / 16=4 ∧ decide ((64 + rexN wd r m) / 8 % 2=1)=wd ∧ (64 + rexN wd r m) / 4 % 2 * 8=hiB r ∧ (64 + rexN wd r m) % 2 * 8=hiB m ∧ (rexN wd r m=0 → wd=false ∧ hiB r=0 ∧ hiB m=0):=by
  have:=rexN_fin wd ⟨r.toNat,by omega⟩ ⟨m.toNat,by omega⟩
  simp only [Int.toNat_of_nonneg hr.1,Int.toNat_of_nonneg hm.1] at this
  exact this
theorem numL4 (v:Int):numL v 4=[v % 256,v / 256 % 256,v / 65536 % 256,v / 16777216 % 256]:=by
  show [v / 2 ^ (8 * 0) % 256,v / 2 ^ (8 * 1) % 256,v / 2 ^ (8 * 2) % 256,v / 2 ^ (8 * 3) % 256]=_
  simp
theorem bytes_ok (x:Xi) (hX:XOk x) (h:mayX x=true):Oks (bytesX x):=by
  rw [← encX_is x hX h]
  unfold encX encP operandP immP
  refine Oks.append (Oks.append (aheadP_ok _ _ _) ?_) (numL_ok _ _)
  cases inMemB (codeOfP x.op x.w).1.sh
  · cases inOpB (codeOfP x.op x.w).1.sh
    · intro z hz;cases hz
    · exact regL_ok _ _
  · exact memL_ok _ _ _
theorem bytes_len (x:Xi) (hX:XOk x) (h:mayX x=true):(bytesX x).length ≤ 14:=by
  rw [← encX_is x hX h]
  unfold encX encP operandP immP
  have h1:=aheadP_len x.w (codeOfP x.op x.w).1 (partsP x (codeOfP x.op x.w).1)
  have h2:(bif inMemB (codeOfP x.op x.w).1.sh then memL (partsP x (codeOfP x.op x.w).1).reg (partsP x (codeOfP x.op x.w).1).rm (partsP x (codeOfP x.op x.w).1).disp else bif inOpB (codeOfP x.op x.w).1.sh then regL (partsP x (codeOfP x.op x.w).1).reg (partsP x (codeOfP x.op x.w).1).rm else []).length ≤ 6:=by
    cases inMemB (codeOfP x.op x.w).1.sh
    · cases inOpB (codeOfP x.op x.w).1.sh
      · exact Nat.zero_le _
      · exact (by decide:1 ≤ 6)
    · exact memL_few _ _ _
  have h3:(immN (codeOfP x.op x.w).1.sh).toNat ≤ 4:=by
    unfold immN
    cases ((codeOfP x.op x.w).1.sh == 3 || ((codeOfP x.op x.w).1.sh == 6 || (codeOfP x.op x.w).1.sh == 9)) <;> cases ((codeOfP x.op x.w).1.sh == 4 || (codeOfP x.op x.w).1.sh == 10) <;> decide
  rw [List.length_append,List.length_append,numL_length]
  omega
theorem may_two {x:Xi} (h:mayX x=true):fourB x.disp=true ∧ fourB x.imm=true ∧ ((clsI x.op=8 ∨ clsI x.op=9) → x.w=8 → oneB x.imm=true):=by
  unfold mayX at h
  simp only [Bool.and_eq_true] at h
  refine ⟨h.2.2.2.2.2.1,h.2.2.2.2.2.2.1,fun hk hw=>?_⟩
  have hb:=h.2.2.2.2.2.2.2
  rcases hk with hk | hk <;> rw [hk] at hb <;> unfold clsB jmpB at hb <;> rw [hw] at hb <;> simp at hb
  · exact hb
  · exact hb.1
theorem bytes_some (x:Xi) (hX:XOk x) (h:mayX x=true):1 ≤ (bytesX x).length:=by
  rw [← encX_is x hX h]
  unfold encX encP aheadP
  simp only [List.length_append,List.length_cons,List.length_nil]
  omega
theorem may_ok {x:Xi} (h:mayX x=true):XOk x:=by
  unfold mayX at h
  simp only [Bool.and_eq_true] at h
  obtain ⟨h0,h1,h2,h3,h4,h5,h6,h7⟩:=h
  have he:=eqX_iff.1 h1
  have hw:x.w=(if clsI x.op < 10 then x.w else 0):=congrArg Xi.w he
  have hc:x.cc=(if clsI x.op=5 ∨ clsI x.op=9 then x.cc else 0):=congrArg Xi.cc he
  unfold regB at h2 h3 h4
  unfold fourB at h5 h6
  simp only [Bool.and_eq_true,decide_eq_true_eq] at h2 h3 h4 h5 h6
  have ho:0 ≤ x.op ∧ x.op < 32:=by
    by_cases hn:0 ≤ x.op ∧ x.op < 32
    · exact hn
    · unfold clsI at h0
      rw [if_neg hn] at h0
      exact absurd h0 (by decide)
  have key:(-128 ≤ x.w ∧ x.w < 128) ∧ (-128 ≤ x.cc ∧ x.cc < 128):=by
    clear h1 he h2 h3 h4 h5 h6
    rcases clsI_cases x.op with hk | hk | hk | hk | hk | hk | hk | hk | hk | hk | hk <;> rw [hk] at hw hc h7 h0 <;> simp [clsB,longB,widB,jmpB,ccB] at hw hc h7 h0 <;> omega
  exact ⟨by omega,key.1,by omega,by omega,by omega,by omega,by omega,key.2⟩
end Go.Proofs.YtbpehbeakhocnaaGreatDoor.Mrm
namespace Go.Proofs.YtbpehbeakhocnaaGreatDoor.Exe
open Go Go.RowKit
open Mrm (Xi xC zX mayX bytesX)
open Flg (Fl fC zF addF subF ofF holF holE mayC)
set_option maxRecDepth 100000
theorem faExI36_2_0 (g:Nat) (w:World):(Instr.fieldAt 30 (.pointer (some ⟨g,0,none⟩)) 2).run Tryz.prog w=.ok (.pointer (some ⟨g,21,none⟩)) w:=by simp [go_sem]
theorem faExI75_0_0 (g:Nat) (w:World):(Instr.fieldAt 65 (.pointer (some ⟨g,0,none⟩)) 0).run Tryz.prog w=.ok (.pointer (some ⟨g,0,none⟩)) w:=by simp [go_sem]
def zE:Ex:=⟨zM,zX,0⟩
def mkEx (m:Mc) (x:Xi) (l:Int):Ex:=⟨m,x,l⟩
def mcL (m:Mc):List Value:=[.int .u64 (m.r 0),.int .u64 (m.r 1),.int .u64 (m.r 2),.int .u64 (m.r 3),.int .u64 (m.r 4),.int .u64 (m.r 5),.int .u64 (m.r 6),.int .u64 (m.r 7),.int .u64 (m.r 8),.int .u64 (m.r 9),.int .u64 (m.r 10),.int .u64 (m.r 11),.int .u64 (m.r 12),.int .u64 (m.r 13),.int .u64 (m.r 14),.int .u64 (m.r 15),.bool m.f.k,.bool m.f.c,.bool m.f.z,.bool m.f.s,.bool m.f.o,.int .u64 m.a]
theorem mcC_one (m:Mc):(mcC m).all (·.oneCell')=true:=by kernel_rfl
theorem exC_one (s:Ex):(exC s).all (·.oneCell')=true:=by kernel_rfl
section
variable {ρ:Operand → Value} {o:Oper} {w:World} {x y:Operand} {g:Nat} {fr:Nat × Nat} {T t u:TypeId}
theorem ldMc {m:Mc} (ho:o.op=.load 30 x) (hx:ρ x=.pointer (some ⟨g,0,none⟩)) (hg:w.heap[g]?=some (.cells (mcC m) T fr)):(execOp ρ o).run Tryz.prog w=.ok (.value (.agg (mcC m))) w:=
  exec_loadR 30 x ho g 0 hx hg (mcL m) rfl _ Tryz.underlying30 rfl (by kernel_rfl)
theorem ldExM {s:Ex} (ho:o.op=.load 30 x) (hx:ρ x=.pointer (some ⟨g,0,none⟩)) (hg:w.heap[g]?=some (.cells (exC s) T fr)):(execOp ρ o).run Tryz.prog w=.ok (.value (.agg (mcC s.m))) w:=
  exec_loadR 30 x ho g 0 hx hg (mcL s.m) rfl _ Tryz.underlying30 rfl (by kernel_rfl)
theorem al_mc (ho:o.op=.alloc 30):(execOp ρ o).run Tryz.prog w=.ok (.value (.pointer (some ⟨w.heap.size,0,none⟩))) (w.alloc (.cells (mcC zM) 30)):=by
  simp [execOp,ho,go_sem]
  rfl
theorem al_ex (ho:o.op=.alloc 65):(execOp ρ o).run Tryz.prog w=.ok (.value (.pointer (some ⟨w.heap.size,0,none⟩))) (w.alloc (.cells (exC zE) 65)):=by
  simp [execOp,ho,go_sem]
  rfl
theorem ex_zmc (ho:o.op=.build 30 #[]):(execOp ρ o).run Tryz.prog w=.ok (.value (.agg (mcC zM))) w:=exec_build ho (vs:=#[]) (by simp) (by kernel_rfl)
end
theorem may_cc {x:Xi} (h:mayX x=true):x.op=25 ∨ x.op=29 → mayC x.cc=true:=by
  have c:Mrm.clsB (Mrm.clsI x.op) x=true:=by
    unfold mayX at h
    simp only [Bool.and_eq_true] at h
    exact h.2.2.2.2.2.2.2
  intro e
  have k:Mrm.ccB x.cc=true → mayC x.cc=true:=fun q=>by
    unfold Mrm.ccB at q
    unfold mayC
    simp only [Bool.and_eq_true,Bool.or_eq_true,decide_eq_true_eq,beq_iff_eq] at q ⊢
    omega
  apply k
  rcases e with e | e
  · rw [show Mrm.clsI x.op=5 by rw [e];rfl] at c
    have c2:(Mrm.longB x.w && Mrm.ccB x.cc)=true:=c
    rw [Bool.and_eq_true] at c2
    exact c2.2
  · rw [show Mrm.clsI x.op=9 by rw [e];rfl] at c
    have c2:(Mrm.jmpB x && Mrm.ccB x.cc)=true:=c
    rw [Bool.and_eq_true] at c2
    exact c2.2
theorem len_pos {x:Xi} (hX:Mrm.XOk x) (h:mayX x=true):(lenX x == 0)=false:=by
  have:=Mrm.bytes_some x hX h
  unfold lenX
  rw [beq_eq_false_iff_ne]
  omega
theorem len_yes (x:Xi) (hX:Mrm.XOk x) (W:World) (hT:Mrm.Tabs W) (h:mayX x=true):Calls Tryz.prog 37 #[.agg (xC x)] W fun e w'=>e=.returned (.int .i64 (lenX x)) ∧ Below W.heap.size W w':=by
  have q:=Mrm.len_n x hX W hT
  rw [show Mrm.bytL x=bytesX x by unfold Mrm.bytL;rw [h];rfl] at q
  exact q
theorem len_no (x:Xi) (hX:Mrm.XOk x) (W:World) (hT:Mrm.Tabs W) (h:mayX x=false):Calls Tryz.prog 37 #[.agg (xC x)] W fun e w'=>e=.returned (.int .i64 0) ∧ Below W.heap.size W w':=by
  have q:=Mrm.len_n x hX W hT
  rw [show Mrm.bytL x=[] by unfold Mrm.bytL;rw [h];rfl] at q
  exact q
theorem run_yes (s:Ex) (g:Nat) (W:World) (hr:W.heap[g]?=some (.cells (exC s) 65 (0,0))) (hX:mayX s.x=true) (hM:MOk s.m) (hl:U64 s.l) {m:Mc} (E:effX s.m s.x s.l=some m):Calls Tryz.prog 38 #[.pointer (some ⟨g,0,none⟩)] W (RetT (.int .i64 0) (exC (mkEx m s.x s.l)) 65 g W):=by
  have p:=Mrm.may_parts' hX
  refine (run_n s g W hr hM hl p.2.1 p.2.2.1 p.1 (may_cc hX)).mono ?_
  rintro e w' ⟨b,h⟩
  rw [E] at h
  exact ⟨h.1,b,h.2⟩
theorem run_no (s:Ex) (g:Nat) (W:World) (hr:W.heap[g]?=some (.cells (exC s) 65 (0,0))) (hX:mayX s.x=true) (hM:MOk s.m) (hl:U64 s.l) (E:effX s.m s.x s.l=none):Calls Tryz.prog 38 #[.pointer (some ⟨g,0,none⟩)] W (RetT (.int .i64 20) (exC s) 65 g W):=by
  have p:=Mrm.may_parts' hX
  refine (run_n s g W hr hM hl p.2.1 p.2.2.1 p.1 (may_cc hX)).mono ?_
  rintro e w' ⟨b,h⟩
  rw [E] at h
  exact ⟨h.1,b,h.2⟩
def adrX (m:Mc) (x:Xi):Int:=if mayX x=true then (if x.op=26 ∨ x.op=27 then IntKind.u64.wrap (m.r x.base.toNat + IntKind.u64.wrap x.disp) else if x.op=30 then m.r 4 else 0) else 0
def sizX (x:Xi):Int:=if mayX x=true then (if x.op=26 ∨ x.op=27 then x.w / 8 else if x.op=30 then 8 else 0) else 0
def hasX (x:Xi):Bool:=mayX x && (x.op == 26 || x.op == 27 || x.op == 30)
def stoX (m:Mc) (x:Xi):Int:=if mayX x=true ∧ x.op=27 then cutI (m.r x.src.toNat) x.w else 0
theorem U64.sto {m:Mc} (h:MOk m) (x:Xi):U64 (stoX m x):=by
  unfold stoX
  split
  · exact (h.r _).cut _
  · exact ⟨by omega,by omega⟩
theorem do_no (m:Mc) (x:Xi) (l:Int) (W:World) (hT:Mrm.Tabs W) (hX:Mrm.XOk x) (hM:MOk m) (hm:mayX x=false):Calls Tryz.prog 23 #[.agg (mcC m),.agg (xC x),.int .u64 l] W fun e w'=>e=.returned (.tuple #[.agg (mcC zM),.int .i64 2]) ∧ Below W.heap.size W w':=by
  refine calls_abs Tryz.func23 rfl (Nat.le_of_ble_eq_true rfl) ?_
  intro a0 d0 z0 h0
  replace z0:a0.tmps.size=33:=z0
  have s0_0:a0.tmps.getD 0 undef=.agg (mcC m):=h0 0 (Nat.le_of_ble_eq_true rfl)
  have s1_0:a0.tmps.getD 1 undef=.agg (xC x):=h0 1 (Nat.le_of_ble_eq_true rfl)
  have s2_0:a0.tmps.getD 2 undef=.int .u64 l:=h0 2 (Nat.le_of_ble_eq_true rfl)
  refine wp_seq ?_
  refine go_reg [] [⟨0,3,30,(mcC m),none,#[]⟩,⟨1,4,38,(xC x),none,#[]⟩,⟨2,6,30,(mcC zM),none,#[]⟩] [none,none,none,some (.int .i64 0)] mo d0 z0 (Below.refl _ _) (by kernel_rfl) trivial (
   hk (fun cx=>cx.al (wn rfl) 0 rfl (ex_box rfl (cx.rq 0 s0_0) rfl) rfl rfl rfl rfl rfl trivial) <|
   hk (fun cx=>cx.al (wn rfl) 1 rfl (ex_box rfl (cx.rq 1 s1_0) rfl) rfl rfl rfl rfl rfl trivial) <|
   hk (fun cx=>cx.al (wn rfl) 2 rfl (al_mc rfl) rfl rfl rfl rfl rfl trivial) <|
   hk (fun cx=>cx.q (ex_as rfl rfl)) <|
   hn) ?_
  intro a1 w1 f1
  obtain ⟨g1,u_g1,q_g1,b_g1⟩:=f1.al.1
  obtain ⟨g2,u_g2,q_g2,b_g2⟩:=f1.al.2.1
  obtain ⟨g3,u_g3,q_g3,b_g3⟩:=f1.al.2.2.1
  refine wp_seq ?_
  refine go_reg [bx g2 38 (xC x)] [] [some (.agg (xC x)),some (.int .i64 0),some (.int .i64 0)] mo f1.d f1.z f1.b (by kernel_rfl) ⟨b_g2,trivial⟩ (
   hk (fun cx=>cx.q (Mrm.ldX rfl (cx.rq 4 u_g2) (cx.rn 0 rfl))) <|
   hc (fun _ _ wx cx=>cx.c rfl (args1 (cx.u 0 rfl)) Tryz.func37 (by decide +kernel) (len_no x hX wx (hT.below cx.S.1.1 (Nat.le_refl _)) hm) rfl rfl) <|
   kmu 0 <|
   hn) ?_
  intro a2 w2 f2
  refine wp_seq ?_
  refine wp_seq ?_
  refine go_reg [] [] [some (.int .i64 0),oT] mo f2.d f2.z f2.b (by kernel_rfl) trivial (
   hk (fun cx=>cx.q (ex_mv rfl (cx.rq 8 (f2.v 2 rfl rfl rfl)))) <|
   hk (fun cx=>cx.v (ex_eq (x:=.tmp 13) rfl (cx.u 0 rfl) rfl) rfl (congrArg Value.bool (by decide))) <|
   hn) ?_
  intro a3 w3 f3
  refine wp_cond_true (f3.v 1 rfl rfl rfl) ?_
  refine wp_seq ?_
  have b_g3_1:=f3.k (f2.k b_g3)
  have s6_2:=f3.q 6 (f2.q 6 u_g3)
  refine go_reg [⟨g3,30,(mcC zM),some 1,(mcC zM)⟩] [] [some (.agg (mcC zM)),none,some (.int .i64 2)] mo f3.d f3.z f3.b (by kernel_rfl) ⟨b_g3_1,trivial⟩ (
   hk (fun cx=>cx.q (ex_zmc rfl)) <|
   hk (fun cx=>cx.stR (wn rfl) rfl rfl 0 rfl (cx.rq 6 s6_2) (cx.u 0 rfl) (by kernel_rfl) (Eq.refl 22) (mcC_one _) q_g3 rfl trivial trivial) <|
   hk (fun cx=>cx.q (ex_as rfl rfl)) <|
   hn) ?_
  intro a4 w4 f4
  refine wp_ret ?_
  have s6_3:=f4.q 6 s6_2
  try simp only [Exit.inBlock,Exit.then]
  refine bodyPost_ret (res_ct (fn:=Tryz.f23) rfl s6_3 (load_row 30 f4.rows.1 Tryz.underlying30 rfl (by kernel_rfl)) (f4.v 2 rfl rfl rfl)) f4.d ?_
  exact ⟨rfl,f4.b⟩
theorem do_bad (m:Mc) (x:Xi) (l:Int) (W:World) (hT:Mrm.Tabs W) (hX:Mrm.XOk x) (hM:MOk m) (hm:mayX x=true) (hl:U64 l) (hE:goX m x l=none):Calls Tryz.prog 23 #[.agg (mcC m),.agg (xC x),.int .u64 l] W fun e w'=>e=.returned (.tuple #[.agg (mcC zM),.int .i64 20]) ∧ Below W.heap.size W w':=by
  refine calls_abs Tryz.func23 rfl (Nat.le_of_ble_eq_true rfl) ?_
  intro a0 d0 z0 h0
  replace z0:a0.tmps.size=33:=z0
  have s0_0:a0.tmps.getD 0 undef=.agg (mcC m):=h0 0 (Nat.le_of_ble_eq_true rfl)
  have s1_0:a0.tmps.getD 1 undef=.agg (xC x):=h0 1 (Nat.le_of_ble_eq_true rfl)
  have s2_0:a0.tmps.getD 2 undef=.int .u64 l:=h0 2 (Nat.le_of_ble_eq_true rfl)
  refine wp_seq ?_
  refine go_reg [] [⟨0,3,30,(mcC m),none,#[]⟩,⟨1,4,38,(xC x),none,#[]⟩,⟨2,6,30,(mcC zM),none,#[]⟩] [none,none,none,some (.int .i64 0)] mo d0 z0 (Below.refl _ _) (by kernel_rfl) trivial (
   hk (fun cx=>cx.al (wn rfl) 0 rfl (ex_box rfl (cx.rq 0 s0_0) rfl) rfl rfl rfl rfl rfl trivial) <|
   hk (fun cx=>cx.al (wn rfl) 1 rfl (ex_box rfl (cx.rq 1 s1_0) rfl) rfl rfl rfl rfl rfl trivial) <|
   hk (fun cx=>cx.al (wn rfl) 2 rfl (al_mc rfl) rfl rfl rfl rfl rfl trivial) <|
   hk (fun cx=>cx.q (ex_as rfl rfl)) <|
   hn) ?_
  intro a1 w1 f1
  obtain ⟨g1,u_g1,q_g1,b_g1⟩:=f1.al.1
  obtain ⟨g2,u_g2,q_g2,b_g2⟩:=f1.al.2.1
  obtain ⟨g3,u_g3,q_g3,b_g3⟩:=f1.al.2.2.1
  refine wp_seq ?_
  refine go_reg [bx g2 38 (xC x)] [] [some (.agg (xC x)),some (.int .i64 (lenX x)),some (.int .i64 (lenX x))] mo f1.d f1.z f1.b (by kernel_rfl) ⟨b_g2,trivial⟩ (
   hk (fun cx=>cx.q (Mrm.ldX rfl (cx.rq 4 u_g2) (cx.rn 0 rfl))) <|
   hc (fun _ _ wx cx=>cx.c rfl (args1 (cx.u 0 rfl)) Tryz.func37 (by decide +kernel) (len_yes x hX wx (hT.below cx.S.1.1 (Nat.le_refl _)) hm) rfl rfl) <|
   kmu 0 <|
   hn) ?_
  intro a2 w2 f2
  refine wp_seq ?_
  refine wp_seq ?_
  refine go_reg [] [] [some (.int .i64 (lenX x)),oF] mo f2.d f2.z f2.b (by kernel_rfl) trivial (
   hk (fun cx=>cx.q (ex_mv rfl (cx.rq 8 (f2.v 2 rfl rfl rfl)))) <|
   hk (fun cx=>cx.v (ex_eq (x:=.tmp 13) rfl (cx.u 0 rfl) rfl) rfl (congrArg Value.bool (len_pos hX hm))) <|
   hn) ?_
  intro a3 w3 f3
  refine wp_cond_false (f3.v 1 rfl rfl rfl) ?_
  refine wp_skip ?_
  refine wp_seq ?_
  have b_g1_1:=f3.k (f2.k b_g1)
  have s3_2:=f3.q 3 (f2.q 3 u_g1)
  have s8_3:=f3.q 8 (f2.v 2 rfl rfl rfl)
  refine go_reg [⟨g1,30,(mcC m),some 6,(mcC (m.upA (IntKind.u64.wrap (m.a + (IntKind.u64.wrap (lenX x))))))⟩] [] [some (pt g1 21),some (.int .u64 m.a),some (.int .i64 (lenX x)),some (.int .u64 (IntKind.u64.wrap (lenX x))),some (.int .u64 (IntKind.u64.wrap (m.a + (IntKind.u64.wrap (lenX x))))),some (pt g1 21),none] mo f3.d f3.z f3.b (by kernel_rfl) ⟨b_g1_1,trivial⟩ (
   hk (fun cx=>cx.q (ex_fa rfl (cx.rq 3 s3_2) (faExI36_2_0 _ _))) <|
   hk (fun cx=>cx.q (ex_ld rfl (cx.u 0 rfl) (cx.rf 0 rfl (by kernel_rfl)) rfl Tryz.isAgg23)) <|
   hk (fun cx=>cx.q (ex_mv rfl (cx.rq 8 s8_3))) <|
   hk (fun cx=>cx.q (ex_conv (x:=.tmp 18) rfl (cx.u 0 rfl) Tryz.underlying3 Tryz.underlying23)) <|
   hk (fun cx=>cx.q (ex_add (x:=.tmp 17) (y:=.tmp 19) rfl (cx.u 0 rfl) (cx.u 1 rfl))) <|
   hk (fun cx=>cx.q (ex_fa rfl (cx.rq 3 s3_2) (faExI36_2_0 _ _))) <|
   hk (fun cx=>cx.stC (wn rfl) rfl rfl 0 rfl (cx.u 0 rfl) (cx.u 1 rfl) rfl rfl (by kernel_rfl) rfl rfl q_g1 rfl trivial trivial) <|
   hn) ?_
  intro a4 w4 f4
  refine wp_seq ?_
  have b_g2_4:=f4.kp (f3.k (f2.k b_g2)) ⟨.inr (ne_ptr (pairAt f1.ps 0 1 (by decide) rfl rfl) u_g1 u_g2).symm,trivial⟩
  have s3_5:=f4.q 3 s3_2
  have s4_6:=f4.q 4 (f3.q 4 (f2.q 4 u_g2))
  have s2_7:=f4.q 2 (f3.q 2 (f2.q 2 (f1.q 2 s2_0)))
  refine go_reg [bx g1 30 (mcC (m.upA (IntKind.u64.wrap (m.a + (IntKind.u64.wrap (lenX x)))))),bx g2 38 (xC x)] [⟨4,9,65,(exC zE),some 5,(exC (mkEx (m.upA (IntKind.u64.wrap (m.a + (IntKind.u64.wrap (lenX x))))) x l))⟩] [some (.agg (mcC (m.upA (IntKind.u64.wrap (m.a + (IntKind.u64.wrap (lenX x))))))),some (.agg (xC x)),some (.int .u64 l),some (.agg (exC (mkEx (m.upA (IntKind.u64.wrap (m.a + (IntKind.u64.wrap (lenX x))))) x l))),none,none] mo f4.d f4.z f4.b (by kernel_rfl) ⟨f4.rows.1,b_g2_4,trivial⟩ (
   hk (fun cx=>cx.q (ldMc rfl (cx.rq 3 s3_5) (cx.rn 0 rfl))) <|
   hk (fun cx=>cx.q (Mrm.ldX rfl (cx.rq 4 s4_6) (cx.rn 1 rfl))) <|
   hk (fun cx=>cx.q (ex_mv rfl (cx.rq 2 s2_7))) <|
   hk (fun cx=>cx.q (exec_build rfl (parts3 (cx.u 0 rfl) (cx.u 1 rfl) (cx.u 2 rfl)) (by kernel_rfl))) <|
   hk (fun cx=>cx.al (wn rfl) 0 rfl (al_ex rfl) rfl rfl rfl rfl (by kernel_rfl) trivial) <|
   hk (fun cx=>cx.stA (wn rfl) rfl rfl 0 0 rfl rfl rfl rfl (cx.u 1 rfl) (by kernel_rfl) (Eq.refl 31) (exC_one _) f4.b.size rfl rfl trivial) <|
   hn) ?_
  intro a5 w5 f5
  obtain ⟨g4,u_g4,q_g4,b_g4⟩:=f5.al.1
  refine wp_seq ?_
  refine wp_seq ?_
  refine go_reg [⟨g4,65,(exC (mkEx (m.upA (IntKind.u64.wrap (m.a + (IntKind.u64.wrap (lenX x))))) x l)),some 0,(exC (mkEx (m.upA (IntKind.u64.wrap (m.a + (IntKind.u64.wrap (lenX x))))) x l))⟩] [] [some (.int .i64 20),some (.int .i64 20)] mo f5.d f5.z f5.b (by kernel_rfl) ⟨b_g4,trivial⟩ (
   hc (fun _ _ wx cx=>callT cx (wn rfl) rfl (args1 (cx.rq 9 u_g4)) Tryz.func38 (by decide +kernel) (run_no (mkEx (m.upA (IntKind.u64.wrap (m.a + (IntKind.u64.wrap (lenX x))))) x l) g4 wx (cx.ri 0 rfl) hm (hM.upA (U64.wrap _)) hl hE) rfl rfl 0 rfl (Nat.le_trans f4.b.size q_g4) rfl trivial rfl) <|
   kmu 0 <|
   hn) ?_
  intro a6 w6 f6
  refine wp_seq ?_
  refine go_reg [] [] [some (.int .i64 20),oT] mo f6.d f6.z f6.b (by kernel_rfl) trivial (
   hk (fun cx=>cx.q (ex_mv rfl (cx.rq 10 (f6.v 1 rfl rfl rfl)))) <|
   hk (fun cx=>cx.v (ex_ne (x:=.tmp 27) rfl (cx.u 0 rfl) rfl) rfl (congrArg Value.bool (by decide))) <|
   hn) ?_
  intro a7 w7 f7
  refine wp_cond_true (f7.v 1 rfl rfl rfl) ?_
  refine wp_seq ?_
  have b_g3_8:=f7.k (f6.kp (f5.k (f4.kp (f3.k (f2.k b_g3)) ⟨.inr (ne_ptr (pairAt f1.ps 0 2 (by decide) rfl rfl) u_g1 u_g3).symm,trivial⟩)) ⟨.inr (ne_row (f4.kp (f3.k (f2.k b_g3)) ⟨.inr (ne_ptr (pairAt f1.ps 0 2 (by decide) rfl rfl) u_g1 u_g3).symm,trivial⟩) q_g4),trivial⟩)
  have s10_9:=f7.q 10 (f6.v 1 rfl rfl rfl)
  have s6_10:=f7.q 6 (f6.q 6 (f5.q 6 (f4.q 6 (f3.q 6 (f2.q 6 u_g3)))))
  refine go_reg [⟨g3,30,(mcC zM),some 2,(mcC zM)⟩] [] [some (.agg (mcC zM)),some (.int .i64 20),none,some (.int .i64 20)] mo f7.d f7.z f7.b (by kernel_rfl) ⟨b_g3_8,trivial⟩ (
   hk (fun cx=>cx.q (ex_zmc rfl)) <|
   hk (fun cx=>cx.q (ex_mv rfl (cx.rq 10 s10_9))) <|
   hk (fun cx=>cx.stR (wn rfl) rfl rfl 0 rfl (cx.rq 6 s6_10) (cx.u 0 rfl) (by kernel_rfl) (Eq.refl 22) (mcC_one _) q_g3 rfl trivial trivial) <|
   kmu 0 <|
   hn) ?_
  intro a8 w8 f8
  refine wp_ret ?_
  have s6_11:=f8.q 6 s6_10
  try simp only [Exit.inBlock,Exit.then]
  refine bodyPost_ret (res_ct (fn:=Tryz.f23) rfl s6_11 (load_row 30 f8.rows.1 Tryz.underlying30 rfl (by kernel_rfl)) (f8.v 3 rfl rfl rfl)) f8.d ?_
  exact ⟨rfl,f8.b⟩
theorem do_ok (m m':Mc) (x:Xi) (l:Int) (W:World) (hT:Mrm.Tabs W) (hX:Mrm.XOk x) (hM:MOk m) (hm:mayX x=true) (hl:U64 l) (hE:goX m x l=some m'):Calls Tryz.prog 23 #[.agg (mcC m),.agg (xC x),.int .u64 l] W fun e w'=>e=.returned (.tuple #[.agg (mcC m'),.int .i64 0]) ∧ Below W.heap.size W w':=by
  refine calls_abs Tryz.func23 rfl (Nat.le_of_ble_eq_true rfl) ?_
  intro a0 d0 z0 h0
  replace z0:a0.tmps.size=33:=z0
  have s0_0:a0.tmps.getD 0 undef=.agg (mcC m):=h0 0 (Nat.le_of_ble_eq_true rfl)
  have s1_0:a0.tmps.getD 1 undef=.agg (xC x):=h0 1 (Nat.le_of_ble_eq_true rfl)
  have s2_0:a0.tmps.getD 2 undef=.int .u64 l:=h0 2 (Nat.le_of_ble_eq_true rfl)
  refine wp_seq ?_
  refine go_reg [] [⟨0,3,30,(mcC m),none,#[]⟩,⟨1,4,38,(xC x),none,#[]⟩,⟨2,6,30,(mcC zM),none,#[]⟩] [none,none,none,some (.int .i64 0)] mo d0 z0 (Below.refl _ _) (by kernel_rfl) trivial (
   hk (fun cx=>cx.al (wn rfl) 0 rfl (ex_box rfl (cx.rq 0 s0_0) rfl) rfl rfl rfl rfl rfl trivial) <|
   hk (fun cx=>cx.al (wn rfl) 1 rfl (ex_box rfl (cx.rq 1 s1_0) rfl) rfl rfl rfl rfl rfl trivial) <|
   hk (fun cx=>cx.al (wn rfl) 2 rfl (al_mc rfl) rfl rfl rfl rfl rfl trivial) <|
   hk (fun cx=>cx.q (ex_as rfl rfl)) <|
   hn) ?_
  intro a1 w1 f1
  obtain ⟨g1,u_g1,q_g1,b_g1⟩:=f1.al.1
  obtain ⟨g2,u_g2,q_g2,b_g2⟩:=f1.al.2.1
  obtain ⟨g3,u_g3,q_g3,b_g3⟩:=f1.al.2.2.1
  refine wp_seq ?_
  refine go_reg [bx g2 38 (xC x)] [] [some (.agg (xC x)),some (.int .i64 (lenX x)),some (.int .i64 (lenX x))] mo f1.d f1.z f1.b (by kernel_rfl) ⟨b_g2,trivial⟩ (
   hk (fun cx=>cx.q (Mrm.ldX rfl (cx.rq 4 u_g2) (cx.rn 0 rfl))) <|
   hc (fun _ _ wx cx=>cx.c rfl (args1 (cx.u 0 rfl)) Tryz.func37 (by decide +kernel) (len_yes x hX wx (hT.below cx.S.1.1 (Nat.le_refl _)) hm) rfl rfl) <|
   kmu 0 <|
   hn) ?_
  intro a2 w2 f2
  refine wp_seq ?_
  refine wp_seq ?_
  refine go_reg [] [] [some (.int .i64 (lenX x)),oF] mo f2.d f2.z f2.b (by kernel_rfl) trivial (
   hk (fun cx=>cx.q (ex_mv rfl (cx.rq 8 (f2.v 2 rfl rfl rfl)))) <|
   hk (fun cx=>cx.v (ex_eq (x:=.tmp 13) rfl (cx.u 0 rfl) rfl) rfl (congrArg Value.bool (len_pos hX hm))) <|
   hn) ?_
  intro a3 w3 f3
  refine wp_cond_false (f3.v 1 rfl rfl rfl) ?_
  refine wp_skip ?_
  refine wp_seq ?_
  have b_g1_1:=f3.k (f2.k b_g1)
  have s3_2:=f3.q 3 (f2.q 3 u_g1)
  have s8_3:=f3.q 8 (f2.v 2 rfl rfl rfl)
  refine go_reg [⟨g1,30,(mcC m),some 6,(mcC (m.upA (IntKind.u64.wrap (m.a + (IntKind.u64.wrap (lenX x))))))⟩] [] [some (pt g1 21),some (.int .u64 m.a),some (.int .i64 (lenX x)),some (.int .u64 (IntKind.u64.wrap (lenX x))),some (.int .u64 (IntKind.u64.wrap (m.a + (IntKind.u64.wrap (lenX x))))),some (pt g1 21),none] mo f3.d f3.z f3.b (by kernel_rfl) ⟨b_g1_1,trivial⟩ (
   hk (fun cx=>cx.q (ex_fa rfl (cx.rq 3 s3_2) (faExI36_2_0 _ _))) <|
   hk (fun cx=>cx.q (ex_ld rfl (cx.u 0 rfl) (cx.rf 0 rfl (by kernel_rfl)) rfl Tryz.isAgg23)) <|
   hk (fun cx=>cx.q (ex_mv rfl (cx.rq 8 s8_3))) <|
   hk (fun cx=>cx.q (ex_conv (x:=.tmp 18) rfl (cx.u 0 rfl) Tryz.underlying3 Tryz.underlying23)) <|
   hk (fun cx=>cx.q (ex_add (x:=.tmp 17) (y:=.tmp 19) rfl (cx.u 0 rfl) (cx.u 1 rfl))) <|
   hk (fun cx=>cx.q (ex_fa rfl (cx.rq 3 s3_2) (faExI36_2_0 _ _))) <|
   hk (fun cx=>cx.stC (wn rfl) rfl rfl 0 rfl (cx.u 0 rfl) (cx.u 1 rfl) rfl rfl (by kernel_rfl) rfl rfl q_g1 rfl trivial trivial) <|
   hn) ?_
  intro a4 w4 f4
  refine wp_seq ?_
  have b_g2_4:=f4.kp (f3.k (f2.k b_g2)) ⟨.inr (ne_ptr (pairAt f1.ps 0 1 (by decide) rfl rfl) u_g1 u_g2).symm,trivial⟩
  have s3_5:=f4.q 3 s3_2
  have s4_6:=f4.q 4 (f3.q 4 (f2.q 4 u_g2))
  have s2_7:=f4.q 2 (f3.q 2 (f2.q 2 (f1.q 2 s2_0)))
  refine go_reg [bx g1 30 (mcC (m.upA (IntKind.u64.wrap (m.a + (IntKind.u64.wrap (lenX x)))))),bx g2 38 (xC x)] [⟨4,9,65,(exC zE),some 5,(exC (mkEx (m.upA (IntKind.u64.wrap (m.a + (IntKind.u64.wrap (lenX x))))) x l))⟩] [some (.agg (mcC (m.upA (IntKind.u64.wrap (m.a + (IntKind.u64.wrap (lenX x))))))),some (.agg (xC x)),some (.int .u64 l),some (.agg (exC (mkEx (m.upA (IntKind.u64.wrap (m.a + (IntKind.u64.wrap (lenX x))))) x l))),none,none] mo f4.d f4.z f4.b (by kernel_rfl) ⟨f4.rows.1,b_g2_4,trivial⟩ (
   hk (fun cx=>cx.q (ldMc rfl (cx.rq 3 s3_5) (cx.rn 0 rfl))) <|
   hk (fun cx=>cx.q (Mrm.ldX rfl (cx.rq 4 s4_6) (cx.rn 1 rfl))) <|
   hk (fun cx=>cx.q (ex_mv rfl (cx.rq 2 s2_7))) <|
   hk (fun cx=>cx.q (exec_build rfl (parts3 (cx.u 0 rfl) (cx.u 1 rfl) (cx.u 2 rfl)) (by kernel_rfl))) <|
   hk (fun cx=>cx.al (wn rfl) 0 rfl (al_ex rfl) rfl rfl rfl rfl (by kernel_rfl) trivial) <|
   hk (fun cx=>cx.stA (wn rfl) rfl rfl 0 0 rfl rfl rfl rfl (cx.u 1 rfl) (by kernel_rfl) (Eq.refl 31) (exC_one _) f4.b.size rfl rfl trivial) <|
   hn) ?_
  intro a5 w5 f5
  obtain ⟨g4,u_g4,q_g4,b_g4⟩:=f5.al.1
  refine wp_seq ?_
  refine wp_seq ?_
  refine go_reg [⟨g4,65,(exC (mkEx (m.upA (IntKind.u64.wrap (m.a + (IntKind.u64.wrap (lenX x))))) x l)),some 0,(exC (mkEx m' x l))⟩] [] [some (.int .i64 0),some (.int .i64 0)] mo f5.d f5.z f5.b (by kernel_rfl) ⟨b_g4,trivial⟩ (
   hc (fun _ _ wx cx=>callT cx (wn rfl) rfl (args1 (cx.rq 9 u_g4)) Tryz.func38 (by decide +kernel) (run_yes (mkEx (m.upA (IntKind.u64.wrap (m.a + (IntKind.u64.wrap (lenX x))))) x l) g4 wx (cx.ri 0 rfl) hm (hM.upA (U64.wrap _)) hl hE) rfl rfl 0 rfl (Nat.le_trans f4.b.size q_g4) rfl trivial rfl) <|
   kmu 0 <|
   hn) ?_
  intro a6 w6 f6
  refine wp_seq ?_
  refine go_reg [] [] [some (.int .i64 0),oF] mo f6.d f6.z f6.b (by kernel_rfl) trivial (
   hk (fun cx=>cx.q (ex_mv rfl (cx.rq 10 (f6.v 1 rfl rfl rfl)))) <|
   hk (fun cx=>cx.v (ex_ne (x:=.tmp 27) rfl (cx.u 0 rfl) rfl) rfl (congrArg Value.bool (by decide))) <|
   hn) ?_
  intro a7 w7 f7
  refine wp_cond_false (f7.v 1 rfl rfl rfl) ?_
  refine wp_skip ?_
  refine wp_seq ?_
  have b_g4_8:=f7.k f6.rows.1
  have b_g3_9:=f7.k (f6.kp (f5.k (f4.kp (f3.k (f2.k b_g3)) ⟨.inr (ne_ptr (pairAt f1.ps 0 2 (by decide) rfl rfl) u_g1 u_g3).symm,trivial⟩)) ⟨.inr (ne_row (f4.kp (f3.k (f2.k b_g3)) ⟨.inr (ne_ptr (pairAt f1.ps 0 2 (by decide) rfl rfl) u_g1 u_g3).symm,trivial⟩) q_g4),trivial⟩)
  have s9_10:=f7.q 9 (f6.q 9 u_g4)
  have s6_11:=f7.q 6 (f6.q 6 (f5.q 6 (f4.q 6 (f3.q 6 (f2.q 6 u_g3)))))
  refine go_reg [bx g4 65 (exC (mkEx m' x l)),⟨g3,30,(mcC zM),some 2,(mcC (mkEx m' x l).m)⟩] [] [some (pt g4 0),some (.agg (mcC (mkEx m' x l).m)),none,some (.int .i64 0)] mo f7.d f7.z f7.b (by kernel_rfl) ⟨b_g4_8,b_g3_9,trivial⟩ (
   hk (fun cx=>cx.q (ex_fa rfl (cx.rq 9 s9_10) (faExI75_0_0 _ _))) <|
   hk (fun cx=>cx.q (ldExM rfl (cx.u 0 rfl) (cx.rn 0 rfl))) <|
   hk (fun cx=>cx.stR (wn rfl) rfl rfl 1 rfl (cx.rq 6 s6_11) (cx.u 0 rfl) (by kernel_rfl) (Eq.refl 22) (mcC_one _) q_g3 rfl ⟨(ne_row (f4.kp (f3.k (f2.k b_g3)) ⟨.inr (ne_ptr (pairAt f1.ps 0 2 (by decide) rfl rfl) u_g1 u_g3).symm,trivial⟩) q_g4).symm,trivial⟩ trivial) <|
   hk (fun cx=>cx.q (ex_as rfl rfl)) <|
   hn) ?_
  intro a8 w8 f8
  refine wp_ret ?_
  have s6_12:=f8.q 6 s6_11
  try simp only [Exit.inBlock,Exit.then]
  refine bodyPost_ret (res_ct (fn:=Tryz.f23) rfl s6_12 (load_row 30 f8.rows.2.1 Tryz.underlying30 rfl (by kernel_rfl)) (f8.v 3 rfl rfl rfl)) f8.d ?_
  have HE:(.tuple #[.agg (mcC (mkEx m' x l).m),.int .i64 0]:Value)=.tuple #[.agg (mcC m'),.int .i64 0]:=rfl
  exact ⟨retV HE,f8.b⟩
theorem do_n (m:Mc) (x:Xi) (l:Int) (W:World) (hT:Mrm.Tabs W) (hX:Mrm.XOk x) (hM:MOk m) (hl:U64 l):Calls Tryz.prog 23 #[.agg (mcC m),.agg (xC x),.int .u64 l] W fun e w'=>e=.returned (.tuple #[.agg (mcC (doX m x l)),.int .i64 (doXe m x l)]) ∧ Below W.heap.size W w':=by
  cases hm:mayX x
  · rw [show doX m x l=zM from if_neg (by rw [hm];exact Bool.false_ne_true),show doXe m x l=2 from if_neg (by rw [hm];exact Bool.false_ne_true)]
    exact do_no m x l W hT hX hM hm
  · cases hE:goX m x l with
    | none=>
      rw [show doX m x l=zM from (if_pos hm).trans (by rw [hE];rfl),show doXe m x l=20 from (if_pos hm).trans (by rw [hE];rfl)]
      exact do_bad m x l W hT hX hM hm hl hE
    | some m'=>
      rw [show doX m x l=m' from (if_pos hm).trans (by rw [hE];rfl),show doXe m x l=0 from (if_pos hm).trans (by rw [hE];rfl)]
      exact do_ok m m' x l W hT hX hM hm hl hE
end Go.Proofs.YtbpehbeakhocnaaGreatDoor.Exe
