import Derived.Test.YtoghjpliemidkaaDoorEXm14
set_option linter.unusedVariables false
set_option linter.unusedSimpArgs false
set_option linter.unnecessarySimpa false
namespace Go.Proofs.YtoghjpliemidkaaDoor.Exe
open Go Go.RowKit
open Mrm (Xi xC zX mayX bytesX)
open Flg (Fl fC zF addF subF ofF holF holE mayC)
set_option linter.unusedVariables false
set_option linter.unusedSimpArgs false
set_option linter.unnecessarySimpa false
set_option maxRecDepth 100000
theorem faExH75_1_0 (g:Nat) (w:World):(Instr.fieldAt 75 (.pointer (some ⟨g,0,none⟩)) 1).run Tryd.prog w=.ok (.pointer (some ⟨g,22,none⟩)) w:=by simp [go_sem]
theorem faExH26_0_22 (g:Nat) (w:World):(Instr.fieldAt 26 (.pointer (some ⟨g,22,none⟩)) 0).run Tryd.prog w=.ok (.pointer (some ⟨g,22,none⟩)) w:=by simp [go_sem]
def fnC (g:Nat):Array Value:=#[.func (.func 65) #[.pointer (some ⟨g,0,none⟩)] #[],.func (.func 65) #[.pointer (some ⟨g,0,none⟩)] #[],.func (.func 66) #[.pointer (some ⟨g,0,none⟩)] #[],.func (.func 67) #[.pointer (some ⟨g,0,none⟩)] #[],.func (.func 68) #[.pointer (some ⟨g,0,none⟩)] #[],.func (.func 69) #[.pointer (some ⟨g,0,none⟩)] #[],.func (.func 70) #[.pointer (some ⟨g,0,none⟩)] #[],.func (.func 71) #[.pointer (some ⟨g,0,none⟩)] #[],.func (.func 72) #[.pointer (some ⟨g,0,none⟩)] #[],.func (.func 66) #[.pointer (some ⟨g,0,none⟩)] #[],.func (.func 67) #[.pointer (some ⟨g,0,none⟩)] #[],.func (.func 68) #[.pointer (some ⟨g,0,none⟩)] #[],.func (.func 69) #[.pointer (some ⟨g,0,none⟩)] #[],.func (.func 70) #[.pointer (some ⟨g,0,none⟩)] #[],.func (.func 71) #[.pointer (some ⟨g,0,none⟩)] #[],.func (.func 72) #[.pointer (some ⟨g,0,none⟩)] #[],.func (.func 73) #[.pointer (some ⟨g,0,none⟩)] #[],.func (.func 74) #[.pointer (some ⟨g,0,none⟩)] #[],.func (.func 75) #[.pointer (some ⟨g,0,none⟩)] #[],.func (.func 76) #[.pointer (some ⟨g,0,none⟩)] #[],.func (.func 74) #[.pointer (some ⟨g,0,none⟩)] #[],.func (.func 75) #[.pointer (some ⟨g,0,none⟩)] #[],.func (.func 76) #[.pointer (some ⟨g,0,none⟩)] #[],.func (.func 77) #[.pointer (some ⟨g,0,none⟩)] #[],.func (.func 78) #[.pointer (some ⟨g,0,none⟩)] #[],.func (.func 79) #[.pointer (some ⟨g,0,none⟩)] #[],.func (.func 65) #[.pointer (some ⟨g,0,none⟩)] #[],.func (.func 80) #[.pointer (some ⟨g,0,none⟩)] #[],.func (.func 81) #[.pointer (some ⟨g,0,none⟩)] #[],.func (.func 82) #[.pointer (some ⟨g,0,none⟩)] #[],.func (.func 83) #[.pointer (some ⟨g,0,none⟩)] #[],.func (.func 84) #[.pointer (some ⟨g,0,none⟩)] #[]]
def fzC (n:Nat):Array Value:=#[.nilFunc,.nilFunc,.nilFunc,.nilFunc,.nilFunc,.nilFunc,.nilFunc,.nilFunc,.nilFunc,.nilFunc,.nilFunc,.nilFunc,.nilFunc,.nilFunc,.nilFunc,.nilFunc,.nilFunc,.nilFunc,.nilFunc,.nilFunc,.nilFunc,.nilFunc,.nilFunc,.nilFunc,.nilFunc,.nilFunc,.nilFunc,.nilFunc,.nilFunc,.nilFunc,.nilFunc,.nilFunc]
theorem parts32 {ρ:Operand → Value} {x0 x1 x2 x3 x4 x5 x6 x7 x8 x9 x10 x11 x12 x13 x14 x15 x16 x17 x18 x19 x20 x21 x22 x23 x24 x25 x26 x27 x28 x29 x30 x31:Operand} {v0 v1 v2 v3 v4 v5 v6 v7 v8 v9 v10 v11 v12 v13 v14 v15 v16 v17 v18 v19 v20 v21 v22 v23 v24 v25 v26 v27 v28 v29 v30 v31:Value} (h0:ρ x0=v0) (h1:ρ x1=v1) (h2:ρ x2=v2) (h3:ρ x3=v3) (h4:ρ x4=v4) (h5:ρ x5=v5) (h6:ρ x6=v6) (h7:ρ x7=v7) (h8:ρ x8=v8) (h9:ρ x9=v9) (h10:ρ x10=v10) (h11:ρ x11=v11) (h12:ρ x12=v12) (h13:ρ x13=v13) (h14:ρ x14=v14) (h15:ρ x15=v15) (h16:ρ x16=v16) (h17:ρ x17=v17) (h18:ρ x18=v18) (h19:ρ x19=v19) (h20:ρ x20=v20) (h21:ρ x21=v21) (h22:ρ x22=v22) (h23:ρ x23=v23) (h24:ρ x24=v24) (h25:ρ x25=v25) (h26:ρ x26=v26) (h27:ρ x27=v27) (h28:ρ x28=v28) (h29:ρ x29=v29) (h30:ρ x30=v30) (h31:ρ x31=v31):(#[(0,x0),(1,x1),(2,x2),(3,x3),(4,x4),(5,x5),(6,x6),(7,x7),(8,x8),(9,x9),(10,x10),(11,x11),(12,x12),(13,x13),(14,x14),(15,x15),(16,x16),(17,x17),(18,x18),(19,x19),(20,x20),(21,x21),(22,x22),(23,x23),(24,x24),(25,x25),(26,x26),(27,x27),(28,x28),(29,x29),(30,x30),(31,x31)]:Array (Nat × Operand)).map (fun p=>(p.1,ρ p.2))=#[(0,v0),(1,v1),(2,v2),(3,v3),(4,v4),(5,v5),(6,v6),(7,v7),(8,v8),(9,v9),(10,v10),(11,v11),(12,v12),(13,v13),(14,v14),(15,v15),(16,v16),(17,v17),(18,v18),(19,v19),(20,v20),(21,v21),(22,v22),(23,v23),(24,v24),(25,v25),(26,v26),(27,v27),(28,v28),(29,v29),(30,v30),(31,v31)]:=by simp [h0,h1,h2,h3,h4,h5,h6,h7,h8,h9,h10,h11,h12,h13,h14,h15,h16,h17,h18,h19,h20,h21,h22,h23,h24,h25,h26,h27,h28,h29,h30,h31]
theorem fnC_one (g:Nat):(fnC g).all (·.oneCell')=true:=by kernel_rfl
section
variable {ρ:Operand → Value} {o:Oper} {w:World} {x:Operand}
theorem al_fn (ho:o.op=.alloc 111):(execOp ρ o).run Tryd.prog w=.ok (.value (.pointer (some ⟨w.heap.size,0,none⟩))) (w.alloc (.cells (fzC 0) 111)):=by
  simp [execOp,ho,go_sem]
  rfl
theorem ex_mf {P:Program} {f:Fn} {v:Value} (ho:o.op=.makeFunc f #[x] #[]) (hx:ρ x=v):(execOp ρ o).run P w=.ok (.value (.func f #[v] #[])) w:=by
  simp [execOp,ho,hx,Instr.makeFunc,go_sem]
end
def RunT (s:Ex) (g:Nat) (W:World):Ending → World → Prop:=fun e w'=>But g W w' ∧ match effX s.m s.x s.l with
  | some m=>e=.returned (.int .i64 0) ∧ w'.heap[g]?=some (.cells (exC ⟨m,s.x,s.l⟩) 75 (0,0))
  | none=>e=.returned (.int .i64 20) ∧ w'.heap[g]?=some (.cells (exC s) 75 (0,0))
theorem RunT.yes {s:Ex} {g:Nat} {W w':World} {m:Mc} (b:But g W w') (E:effX s.m s.x s.l=some m) (r:w'.heap[g]?=some (.cells (exC ⟨m,s.x,s.l⟩) 75 (0,0))):RunT s g W (.returned (.int .i64 0)) w':=by
  refine ⟨b,?_⟩
  rw [E]
  exact ⟨rfl,r⟩
theorem RunT.no {s:Ex} {g:Nat} {W w':World} (b:But g W w') (E:effX s.m s.x s.l=none) (r:w'.heap[g]?=some (.cells (exC s) 75 (0,0))):RunT s g W (.returned (.int .i64 20)) w':=by
  refine ⟨b,?_⟩
  rw [E]
  exact ⟨rfl,r⟩
theorem divB_is (m:Mc) (x:Xi):divB m x=(!((cutI (m.r 2) x.w) != 0) && !((cutI (m.r x.dst.toNat) x.w) == 0)):=by unfold divB bne;simp
set_option maxHeartbeats 8000000 in
theorem run_n (s:Ex) (g:Nat) (W:World) (hr:W.heap[g]?=some (.cells (exC s) 75 (0,0))) (hM:MOk s.m) (hl:U64 s.l) (hd:0 ≤ s.x.dst ∧ s.x.dst < 16) (hs:0 ≤ s.x.src ∧ s.x.src < 16) (hop:0 ≤ s.x.op ∧ s.x.op < 32) (hcy:s.x.op=25 ∨ s.x.op=29 → mayC s.x.cc=true):Calls Tryd.prog 35 #[.pointer (some ⟨g,0,none⟩)] W (RunT s g W):=by
  refine calls_abs Tryd.func35 rfl (Nat.le_of_ble_eq_true rfl) ?_
  intro a0 d0 z0 h0
  replace z0:a0.tmps.size=79:=z0
  have s0_0:a0.tmps.getD 0 undef=.pointer (some ⟨g,0,none⟩):=h0 0 (Nat.le_of_ble_eq_true rfl)
  have hB0:=cutW_below W g
  have hV:=cutW_size hr
  have bt0:=But.refl g W
  refine wp_seq ?_
  refine go_reg [] [] [some (.int .i64 0)] mo d0 z0 hB0 (by kernel_rfl) trivial (
   hk (fun cx=>cx.q (ex_as rfl rfl)) <|
   hn) ?_
  intro a1 w1 f1
  have bt1:=But.step f1 bt0 hB0 trivial
  refine wp_seq ?_
  have s0_1:=f1.q 0 s0_0
  refine go_reg [] [⟨65,3,111,(fzC 0),some 66,(fnC g)⟩] (tabs [some (pt g 0),some (.func (.func 65) #[.pointer (some ⟨g,0,none⟩)] #[]),some (pt g 0),some (.func (.func 65) #[.pointer (some ⟨g,0,none⟩)] #[]),some (pt g 0),some (.func (.func 66) #[.pointer (some ⟨g,0,none⟩)] #[]),some (pt g 0),some (.func (.func 67) #[.pointer (some ⟨g,0,none⟩)] #[]),some (pt g 0),some (.func (.func 68) #[.pointer (some ⟨g,0,none⟩)] #[]),some (pt g 0),some (.func (.func 69) #[.pointer (some ⟨g,0,none⟩)] #[]),some (pt g 0),some (.func (.func 70) #[.pointer (some ⟨g,0,none⟩)] #[]),some (pt g 0),some (.func (.func 71) #[.pointer (some ⟨g,0,none⟩)] #[]),some (pt g 0),some (.func (.func 72) #[.pointer (some ⟨g,0,none⟩)] #[]),some (pt g 0),some (.func (.func 66) #[.pointer (some ⟨g,0,none⟩)] #[])] (tabs [some (pt g 0),some (.func (.func 67) #[.pointer (some ⟨g,0,none⟩)] #[]),some (pt g 0),some (.func (.func 68) #[.pointer (some ⟨g,0,none⟩)] #[]),some (pt g 0),some (.func (.func 69) #[.pointer (some ⟨g,0,none⟩)] #[]),some (pt g 0),some (.func (.func 70) #[.pointer (some ⟨g,0,none⟩)] #[]),some (pt g 0),some (.func (.func 71) #[.pointer (some ⟨g,0,none⟩)] #[]),some (pt g 0),some (.func (.func 72) #[.pointer (some ⟨g,0,none⟩)] #[]),some (pt g 0),some (.func (.func 73) #[.pointer (some ⟨g,0,none⟩)] #[]),some (pt g 0),some (.func (.func 74) #[.pointer (some ⟨g,0,none⟩)] #[]),some (pt g 0),some (.func (.func 75) #[.pointer (some ⟨g,0,none⟩)] #[]),some (pt g 0),some (.func (.func 76) #[.pointer (some ⟨g,0,none⟩)] #[])] (tabs [some (pt g 0),some (.func (.func 74) #[.pointer (some ⟨g,0,none⟩)] #[]),some (pt g 0),some (.func (.func 75) #[.pointer (some ⟨g,0,none⟩)] #[]),some (pt g 0),some (.func (.func 76) #[.pointer (some ⟨g,0,none⟩)] #[]),some (pt g 0),some (.func (.func 77) #[.pointer (some ⟨g,0,none⟩)] #[]),some (pt g 0),some (.func (.func 78) #[.pointer (some ⟨g,0,none⟩)] #[]),some (pt g 0),some (.func (.func 79) #[.pointer (some ⟨g,0,none⟩)] #[]),some (pt g 0),some (.func (.func 65) #[.pointer (some ⟨g,0,none⟩)] #[]),some (pt g 0),some (.func (.func 80) #[.pointer (some ⟨g,0,none⟩)] #[]),some (pt g 0),some (.func (.func 81) #[.pointer (some ⟨g,0,none⟩)] #[]),some (pt g 0),some (.func (.func 82) #[.pointer (some ⟨g,0,none⟩)] #[])] [some (pt g 0),some (.func (.func 83) #[.pointer (some ⟨g,0,none⟩)] #[]),some (pt g 0),some (.func (.func 84) #[.pointer (some ⟨g,0,none⟩)] #[]),some (.agg (fnC g)),none,none]))) mo f1.d f1.z f1.b (by kernel_rfl) trivial (
   hk (fun cx=>cx.q (ex_mv rfl (cx.rq 0 s0_1))) <|
   hk (fun cx=>cx.q (ex_mf rfl (cx.u 0 rfl))) <|
   hk (fun cx=>cx.q (ex_mv rfl (cx.rq 0 s0_1))) <|
   hk (fun cx=>cx.q (ex_mf rfl (cx.u 0 rfl))) <|
   hk (fun cx=>cx.q (ex_mv rfl (cx.rq 0 s0_1))) <|
   hk (fun cx=>cx.q (ex_mf rfl (cx.u 0 rfl))) <|
   hk (fun cx=>cx.q (ex_mv rfl (cx.rq 0 s0_1))) <|
   hk (fun cx=>cx.q (ex_mf rfl (cx.u 0 rfl))) <|
   hk (fun cx=>cx.q (ex_mv rfl (cx.rq 0 s0_1))) <|
   hk (fun cx=>cx.q (ex_mf rfl (cx.u 0 rfl))) <|
   hk (fun cx=>cx.q (ex_mv rfl (cx.rq 0 s0_1))) <|
   hk (fun cx=>cx.q (ex_mf rfl (cx.u 0 rfl))) <|
   hk (fun cx=>cx.q (ex_mv rfl (cx.rq 0 s0_1))) <|
   hk (fun cx=>cx.q (ex_mf rfl (cx.u 0 rfl))) <|
   hk (fun cx=>cx.q (ex_mv rfl (cx.rq 0 s0_1))) <|
   hk (fun cx=>cx.q (ex_mf rfl (cx.u 0 rfl))) <|
   hk (fun cx=>cx.q (ex_mv rfl (cx.rq 0 s0_1))) <|
   hk (fun cx=>cx.q (ex_mf rfl (cx.u 0 rfl))) <|
   hk (fun cx=>cx.q (ex_mv rfl (cx.rq 0 s0_1))) <|
   hk (fun cx=>cx.q (ex_mf rfl (cx.u 0 rfl))) <|
   hk (fun cx=>cx.q (ex_mv rfl (cx.rq 0 s0_1))) <|
   hk (fun cx=>cx.q (ex_mf rfl (cx.u 0 rfl))) <|
   hk (fun cx=>cx.q (ex_mv rfl (cx.rq 0 s0_1))) <|
   hk (fun cx=>cx.q (ex_mf rfl (cx.u 0 rfl))) <|
   hk (fun cx=>cx.q (ex_mv rfl (cx.rq 0 s0_1))) <|
   hk (fun cx=>cx.q (ex_mf rfl (cx.u 0 rfl))) <|
   hk (fun cx=>cx.q (ex_mv rfl (cx.rq 0 s0_1))) <|
   hk (fun cx=>cx.q (ex_mf rfl (cx.u 0 rfl))) <|
   hk (fun cx=>cx.q (ex_mv rfl (cx.rq 0 s0_1))) <|
   hk (fun cx=>cx.q (ex_mf rfl (cx.u 0 rfl))) <|
   hk (fun cx=>cx.q (ex_mv rfl (cx.rq 0 s0_1))) <|
   hk (fun cx=>cx.q (ex_mf rfl (cx.u 0 rfl))) <|
   hk (fun cx=>cx.q (ex_mv rfl (cx.rq 0 s0_1))) <|
   hk (fun cx=>cx.q (ex_mf rfl (cx.u 0 rfl))) <|
   hk (fun cx=>cx.q (ex_mv rfl (cx.rq 0 s0_1))) <|
   hk (fun cx=>cx.q (ex_mf rfl (cx.u 0 rfl))) <|
   hk (fun cx=>cx.q (ex_mv rfl (cx.rq 0 s0_1))) <|
   hk (fun cx=>cx.q (ex_mf rfl (cx.u 0 rfl))) <|
   hk (fun cx=>cx.q (ex_mv rfl (cx.rq 0 s0_1))) <|
   hk (fun cx=>cx.q (ex_mf rfl (cx.u 0 rfl))) <|
   hk (fun cx=>cx.q (ex_mv rfl (cx.rq 0 s0_1))) <|
   hk (fun cx=>cx.q (ex_mf rfl (cx.u 0 rfl))) <|
   hk (fun cx=>cx.q (ex_mv rfl (cx.rq 0 s0_1))) <|
   hk (fun cx=>cx.q (ex_mf rfl (cx.u 0 rfl))) <|
   hk (fun cx=>cx.q (ex_mv rfl (cx.rq 0 s0_1))) <|
   hk (fun cx=>cx.q (ex_mf rfl (cx.u 0 rfl))) <|
   hk (fun cx=>cx.q (ex_mv rfl (cx.rq 0 s0_1))) <|
   hk (fun cx=>cx.q (ex_mf rfl (cx.u 0 rfl))) <|
   hk (fun cx=>cx.q (ex_mv rfl (cx.rq 0 s0_1))) <|
   hk (fun cx=>cx.q (ex_mf rfl (cx.u 0 rfl))) <|
   hk (fun cx=>cx.q (ex_mv rfl (cx.rq 0 s0_1))) <|
   hk (fun cx=>cx.q (ex_mf rfl (cx.u 0 rfl))) <|
   hk (fun cx=>cx.q (ex_mv rfl (cx.rq 0 s0_1))) <|
   hk (fun cx=>cx.q (ex_mf rfl (cx.u 0 rfl))) <|
   hk (fun cx=>cx.q (ex_mv rfl (cx.rq 0 s0_1))) <|
   hk (fun cx=>cx.q (ex_mf rfl (cx.u 0 rfl))) <|
   hk (fun cx=>cx.q (ex_mv rfl (cx.rq 0 s0_1))) <|
   hk (fun cx=>cx.q (ex_mf rfl (cx.u 0 rfl))) <|
   hk (fun cx=>cx.q (ex_mv rfl (cx.rq 0 s0_1))) <|
   hk (fun cx=>cx.q (ex_mf rfl (cx.u 0 rfl))) <|
   hk (fun cx=>cx.q (ex_mv rfl (cx.rq 0 s0_1))) <|
   hk (fun cx=>cx.q (ex_mf rfl (cx.u 0 rfl))) <|
   hk (fun cx=>cx.q (ex_mv rfl (cx.rq 0 s0_1))) <|
   hk (fun cx=>cx.q (ex_mf rfl (cx.u 0 rfl))) <|
   hk (fun cx=>cx.q (exec_build rfl (parts32 (cx.u 0 rfl) (cx.u 1 rfl) (cx.u 2 rfl) (cx.u 3 rfl) (cx.u 4 rfl) (cx.u 5 rfl) (cx.u 6 rfl) (cx.u 7 rfl) (cx.u 8 rfl) (cx.u 9 rfl) (cx.u 10 rfl) (cx.u 11 rfl) (cx.u 12 rfl) (cx.u 13 rfl) (cx.u 14 rfl) (cx.u 15 rfl) (cx.u 16 rfl) (cx.u 17 rfl) (cx.u 18 rfl) (cx.u 19 rfl) (cx.u 20 rfl) (cx.u 21 rfl) (cx.u 22 rfl) (cx.u 23 rfl) (cx.u 24 rfl) (cx.u 25 rfl) (cx.u 26 rfl) (cx.u 27 rfl) (cx.u 28 rfl) (cx.u 29 rfl) (cx.u 30 rfl) (cx.u 31 rfl)) (by kernel_rfl))) <|
   hk (fun cx=>cx.al (wn rfl) 0 rfl (al_fn rfl) rfl rfl rfl rfl (by kernel_rfl) trivial) <|
   hk (fun cx=>cx.stA (wn rfl) rfl rfl 0 0 rfl rfl rfl rfl (cx.u 1 rfl) (by kernel_rfl) (Eq.refl 32) (fnC_one _) f1.b.size rfl rfl trivial) <|
   hn) ?_
  intro a2 w2 f2
  obtain ⟨g1,u_g1,q_g1,b_g1⟩:=f2.al.1
  have bt2:=But.step f2 bt1 f1.b trivial
  refine wp_seq ?_
  rcases Mrm.lt32 hop with hO | hO | hO | hO | hO | hO | hO | hO | hO | hO | hO | hO | hO | hO | hO | hO | hO | hO | hO | hO | hO | hO | hO | hO | hO | hO | hO | hO | hO | hO | hO | hO
  · skip
    have b_g_2:=f2.k (f1.k hr)
    have s0_3:=f2.q 0 s0_1
    refine go_reg [⟨g,75,(exC s),some 9,(exC (s.upR s.x.dst.toNat (cutI (s.m.r s.x.src.toNat) s.x.w)))⟩,bx g1 111 (fnC g)] [] [some (pt g 0),some (pt g 0),some (pt g 22),some (pt g 22),some (.int .i8 0),some (pt g1 0),some (.func (.func 65) #[.pointer (some ⟨g,0,none⟩)] #[]),some (pt g 0),some (.int .u64 (s.m.r s.x.src.toNat)),some (.int .i64 0),some (.int .i64 0)] mo f2.d f2.z f2.b (by kernel_rfl) ⟨b_g_2,b_g1,trivial⟩ (
     hk (fun cx=>cx.q (ex_mv rfl (cx.rq 0 s0_3))) <|
     hk (fun cx=>cx.q (ex_nc rfl (cx.u 0 rfl))) <|
     hk (fun cx=>cx.q (ex_fa rfl (cx.u 0 rfl) (faExH75_1_0 _ _))) <|
     hk (fun cx=>cx.q (ex_fa rfl (cx.u 0 rfl) (faExH26_0_22 _ _))) <|
     hk (fun cx=>cx.v (ex_ld rfl (cx.u 0 rfl) (rft cx 0 rfl (by kernel_rfl)) rfl Tryd.isAgg24) rfl (congrArg (Value.int .i8) hO)) <|
     hk (fun cx=>cx.v (ex_ia (n:=32) (sz:=1) rfl (cx.rq 3 u_g1) (cx.u 0 rfl) Tryd.underlying111 (by kernel_rfl) (by omega) (by omega) (by omega)) rfl rfl) <|
     hk (fun cx=>cx.q (ex_ld rfl (cx.u 0 rfl) (cx.rn 1 rfl) rfl Tryd.isAgg110)) <|
     hk (fun cx=>cx.q (ex_mv rfl (cx.rq 0 s0_3))) <|
     hc (fun _ _ wx cx=>cx.c rfl (args1 (cx.u 0 rfl)) Tryd.func85 (by decide +kernel) (operand_0 s g wx (cx.rf 0 rfl (by kernel_rfl)) hs hO) rfl rfl) <|
     hc (fun _ _ wx cx=>callTb cx (wn rfl) rfl (cx.u 0 rfl) (args1 (cx.u 1 rfl)) rfl Tryd.func65 (by decide +kernel) (move_m s g (s.m.r s.x.src.toNat) wx (cx.ri 0 rfl) hd) rfl rfl 0 rfl hV rfl ⟨(ne_row (f1.k hr) q_g1).symm,trivial⟩ rfl) <|
     kmu 0 <|
     hn) ?_
    intro a3 w3 f3
    have bt3:=But.step f3 bt2 f2.b ⟨.inr rfl,.inl rfl,trivial⟩
    refine wp_ret ?_
    try simp only [Exit.inBlock,Exit.then]
    refine bodyPost_ret (res_t (fn:=Tryd.f35) rfl (f3.v 10 rfl rfl rfl)) f3.d ?_
    exact RunT.yes bt3 (eff_0 _ _ hO) f3.rows.1
  · skip
    have b_g_4:=f2.k (f1.k hr)
    have s0_5:=f2.q 0 s0_1
    refine go_reg [⟨g,75,(exC s),some 9,(exC (s.upR s.x.dst.toNat (cutI (IntKind.u64.wrap s.x.imm) s.x.w)))⟩,bx g1 111 (fnC g)] [] [some (pt g 0),some (pt g 0),some (pt g 22),some (pt g 22),some (.int .i8 1),some (pt g1 1),some (.func (.func 65) #[.pointer (some ⟨g,0,none⟩)] #[]),some (pt g 0),some (.int .u64 (IntKind.u64.wrap s.x.imm)),some (.int .i64 0),some (.int .i64 0)] mo f2.d f2.z f2.b (by kernel_rfl) ⟨b_g_4,b_g1,trivial⟩ (
     hk (fun cx=>cx.q (ex_mv rfl (cx.rq 0 s0_5))) <|
     hk (fun cx=>cx.q (ex_nc rfl (cx.u 0 rfl))) <|
     hk (fun cx=>cx.q (ex_fa rfl (cx.u 0 rfl) (faExH75_1_0 _ _))) <|
     hk (fun cx=>cx.q (ex_fa rfl (cx.u 0 rfl) (faExH26_0_22 _ _))) <|
     hk (fun cx=>cx.v (ex_ld rfl (cx.u 0 rfl) (rft cx 0 rfl (by kernel_rfl)) rfl Tryd.isAgg24) rfl (congrArg (Value.int .i8) hO)) <|
     hk (fun cx=>cx.v (ex_ia (n:=32) (sz:=1) rfl (cx.rq 3 u_g1) (cx.u 0 rfl) Tryd.underlying111 (by kernel_rfl) (by omega) (by omega) (by omega)) rfl rfl) <|
     hk (fun cx=>cx.q (ex_ld rfl (cx.u 0 rfl) (cx.rn 1 rfl) rfl Tryd.isAgg110)) <|
     hk (fun cx=>cx.q (ex_mv rfl (cx.rq 0 s0_5))) <|
     hc (fun _ _ wx cx=>cx.c rfl (args1 (cx.u 0 rfl)) Tryd.func85 (by decide +kernel) (operand_1 s g wx (cx.rf 0 rfl (by kernel_rfl)) hs hO) rfl rfl) <|
     hc (fun _ _ wx cx=>callTb cx (wn rfl) rfl (cx.u 0 rfl) (args1 (cx.u 1 rfl)) rfl Tryd.func65 (by decide +kernel) (move_m s g (IntKind.u64.wrap s.x.imm) wx (cx.ri 0 rfl) hd) rfl rfl 0 rfl hV rfl ⟨(ne_row (f1.k hr) q_g1).symm,trivial⟩ rfl) <|
     kmu 0 <|
     hn) ?_
    intro a4 w4 f4
    have bt4:=But.step f4 bt2 f2.b ⟨.inr rfl,.inl rfl,trivial⟩
    refine wp_ret ?_
    try simp only [Exit.inBlock,Exit.then]
    refine bodyPost_ret (res_t (fn:=Tryd.f35) rfl (f4.v 10 rfl rfl rfl)) f4.d ?_
    exact RunT.yes bt4 (eff_1 _ _ hO) f4.rows.1
  · skip
    have b_g_6:=f2.k (f1.k hr)
    have s0_7:=f2.q 0 s0_1
    refine go_reg [⟨g,75,(exC s),some 9,(exC ((s.upF (addF s.x.w (s.m.r s.x.dst.toNat) (s.m.r s.x.src.toNat))).upR s.x.dst.toNat (doI 0 s.x.w (s.m.r s.x.dst.toNat) (s.m.r s.x.src.toNat))))⟩,bx g1 111 (fnC g)] [] [some (pt g 0),some (pt g 0),some (pt g 22),some (pt g 22),some (.int .i8 2),some (pt g1 2),some (.func (.func 66) #[.pointer (some ⟨g,0,none⟩)] #[]),some (pt g 0),some (.int .u64 (s.m.r s.x.src.toNat)),some (.int .i64 0),some (.int .i64 0)] mo f2.d f2.z f2.b (by kernel_rfl) ⟨b_g_6,b_g1,trivial⟩ (
     hk (fun cx=>cx.q (ex_mv rfl (cx.rq 0 s0_7))) <|
     hk (fun cx=>cx.q (ex_nc rfl (cx.u 0 rfl))) <|
     hk (fun cx=>cx.q (ex_fa rfl (cx.u 0 rfl) (faExH75_1_0 _ _))) <|
     hk (fun cx=>cx.q (ex_fa rfl (cx.u 0 rfl) (faExH26_0_22 _ _))) <|
     hk (fun cx=>cx.v (ex_ld rfl (cx.u 0 rfl) (rft cx 0 rfl (by kernel_rfl)) rfl Tryd.isAgg24) rfl (congrArg (Value.int .i8) hO)) <|
     hk (fun cx=>cx.v (ex_ia (n:=32) (sz:=1) rfl (cx.rq 3 u_g1) (cx.u 0 rfl) Tryd.underlying111 (by kernel_rfl) (by omega) (by omega) (by omega)) rfl rfl) <|
     hk (fun cx=>cx.q (ex_ld rfl (cx.u 0 rfl) (cx.rn 1 rfl) rfl Tryd.isAgg110)) <|
     hk (fun cx=>cx.q (ex_mv rfl (cx.rq 0 s0_7))) <|
     hc (fun _ _ wx cx=>cx.c rfl (args1 (cx.u 0 rfl)) Tryd.func85 (by decide +kernel) (operand_2 s g wx (cx.rf 0 rfl (by kernel_rfl)) hs hO) rfl rfl) <|
     hc (fun _ _ wx cx=>callTb cx (wn rfl) rfl (cx.u 0 rfl) (args1 (cx.u 1 rfl)) rfl Tryd.func66 (by decide +kernel) (add_m s g (s.m.r s.x.src.toNat) wx (cx.ri 0 rfl) hM hd (hM.r s.x.src.toNat)) rfl rfl 0 rfl hV rfl ⟨(ne_row (f1.k hr) q_g1).symm,trivial⟩ rfl) <|
     kmu 0 <|
     hn) ?_
    intro a5 w5 f5
    have bt5:=But.step f5 bt2 f2.b ⟨.inr rfl,.inl rfl,trivial⟩
    refine wp_ret ?_
    try simp only [Exit.inBlock,Exit.then]
    refine bodyPost_ret (res_t (fn:=Tryd.f35) rfl (f5.v 10 rfl rfl rfl)) f5.d ?_
    exact RunT.yes bt5 (eff_2 _ _ hO) f5.rows.1
  · skip
    have b_g_8:=f2.k (f1.k hr)
    have s0_9:=f2.q 0 s0_1
    refine go_reg [⟨g,75,(exC s),some 9,(exC ((s.upF (ofF s.x.w (doI 4 s.x.w (s.m.r s.x.dst.toNat) (s.m.r s.x.src.toNat)))).upR s.x.dst.toNat (doI 4 s.x.w (s.m.r s.x.dst.toNat) (s.m.r s.x.src.toNat))))⟩,bx g1 111 (fnC g)] [] [some (pt g 0),some (pt g 0),some (pt g 22),some (pt g 22),some (.int .i8 3),some (pt g1 3),some (.func (.func 67) #[.pointer (some ⟨g,0,none⟩)] #[]),some (pt g 0),some (.int .u64 (s.m.r s.x.src.toNat)),some (.int .i64 0),some (.int .i64 0)] mo f2.d f2.z f2.b (by kernel_rfl) ⟨b_g_8,b_g1,trivial⟩ (
     hk (fun cx=>cx.q (ex_mv rfl (cx.rq 0 s0_9))) <|
     hk (fun cx=>cx.q (ex_nc rfl (cx.u 0 rfl))) <|
     hk (fun cx=>cx.q (ex_fa rfl (cx.u 0 rfl) (faExH75_1_0 _ _))) <|
     hk (fun cx=>cx.q (ex_fa rfl (cx.u 0 rfl) (faExH26_0_22 _ _))) <|
     hk (fun cx=>cx.v (ex_ld rfl (cx.u 0 rfl) (rft cx 0 rfl (by kernel_rfl)) rfl Tryd.isAgg24) rfl (congrArg (Value.int .i8) hO)) <|
     hk (fun cx=>cx.v (ex_ia (n:=32) (sz:=1) rfl (cx.rq 3 u_g1) (cx.u 0 rfl) Tryd.underlying111 (by kernel_rfl) (by omega) (by omega) (by omega)) rfl rfl) <|
     hk (fun cx=>cx.q (ex_ld rfl (cx.u 0 rfl) (cx.rn 1 rfl) rfl Tryd.isAgg110)) <|
     hk (fun cx=>cx.q (ex_mv rfl (cx.rq 0 s0_9))) <|
     hc (fun _ _ wx cx=>cx.c rfl (args1 (cx.u 0 rfl)) Tryd.func85 (by decide +kernel) (operand_3 s g wx (cx.rf 0 rfl (by kernel_rfl)) hs hO) rfl rfl) <|
     hc (fun _ _ wx cx=>callTb cx (wn rfl) rfl (cx.u 0 rfl) (args1 (cx.u 1 rfl)) rfl Tryd.func67 (by decide +kernel) (or_m s g (s.m.r s.x.src.toNat) wx (cx.ri 0 rfl) hM hd (hM.r s.x.src.toNat)) rfl rfl 0 rfl hV rfl ⟨(ne_row (f1.k hr) q_g1).symm,trivial⟩ rfl) <|
     kmu 0 <|
     hn) ?_
    intro a6 w6 f6
    have bt6:=But.step f6 bt2 f2.b ⟨.inr rfl,.inl rfl,trivial⟩
    refine wp_ret ?_
    try simp only [Exit.inBlock,Exit.then]
    refine bodyPost_ret (res_t (fn:=Tryd.f35) rfl (f6.v 10 rfl rfl rfl)) f6.d ?_
    exact RunT.yes bt6 (eff_3 _ _ hO) f6.rows.1
  · skip
    have b_g_10:=f2.k (f1.k hr)
    have s0_11:=f2.q 0 s0_1
    refine go_reg [⟨g,75,(exC s),some 9,(exC ((s.upF (ofF s.x.w (doI 5 s.x.w (s.m.r s.x.dst.toNat) (s.m.r s.x.src.toNat)))).upR s.x.dst.toNat (doI 5 s.x.w (s.m.r s.x.dst.toNat) (s.m.r s.x.src.toNat))))⟩,bx g1 111 (fnC g)] [] [some (pt g 0),some (pt g 0),some (pt g 22),some (pt g 22),some (.int .i8 4),some (pt g1 4),some (.func (.func 68) #[.pointer (some ⟨g,0,none⟩)] #[]),some (pt g 0),some (.int .u64 (s.m.r s.x.src.toNat)),some (.int .i64 0),some (.int .i64 0)] mo f2.d f2.z f2.b (by kernel_rfl) ⟨b_g_10,b_g1,trivial⟩ (
     hk (fun cx=>cx.q (ex_mv rfl (cx.rq 0 s0_11))) <|
     hk (fun cx=>cx.q (ex_nc rfl (cx.u 0 rfl))) <|
     hk (fun cx=>cx.q (ex_fa rfl (cx.u 0 rfl) (faExH75_1_0 _ _))) <|
     hk (fun cx=>cx.q (ex_fa rfl (cx.u 0 rfl) (faExH26_0_22 _ _))) <|
     hk (fun cx=>cx.v (ex_ld rfl (cx.u 0 rfl) (rft cx 0 rfl (by kernel_rfl)) rfl Tryd.isAgg24) rfl (congrArg (Value.int .i8) hO)) <|
     hk (fun cx=>cx.v (ex_ia (n:=32) (sz:=1) rfl (cx.rq 3 u_g1) (cx.u 0 rfl) Tryd.underlying111 (by kernel_rfl) (by omega) (by omega) (by omega)) rfl rfl) <|
     hk (fun cx=>cx.q (ex_ld rfl (cx.u 0 rfl) (cx.rn 1 rfl) rfl Tryd.isAgg110)) <|
     hk (fun cx=>cx.q (ex_mv rfl (cx.rq 0 s0_11))) <|
     hc (fun _ _ wx cx=>cx.c rfl (args1 (cx.u 0 rfl)) Tryd.func85 (by decide +kernel) (operand_4 s g wx (cx.rf 0 rfl (by kernel_rfl)) hs hO) rfl rfl) <|
     hc (fun _ _ wx cx=>callTb cx (wn rfl) rfl (cx.u 0 rfl) (args1 (cx.u 1 rfl)) rfl Tryd.func68 (by decide +kernel) (and_m s g (s.m.r s.x.src.toNat) wx (cx.ri 0 rfl) hM hd (hM.r s.x.src.toNat)) rfl rfl 0 rfl hV rfl ⟨(ne_row (f1.k hr) q_g1).symm,trivial⟩ rfl) <|
     kmu 0 <|
     hn) ?_
    intro a7 w7 f7
    have bt7:=But.step f7 bt2 f2.b ⟨.inr rfl,.inl rfl,trivial⟩
    refine wp_ret ?_
    try simp only [Exit.inBlock,Exit.then]
    refine bodyPost_ret (res_t (fn:=Tryd.f35) rfl (f7.v 10 rfl rfl rfl)) f7.d ?_
    exact RunT.yes bt7 (eff_4 _ _ hO) f7.rows.1
  · skip
    have b_g_12:=f2.k (f1.k hr)
    have s0_13:=f2.q 0 s0_1
    refine go_reg [⟨g,75,(exC s),some 9,(exC ((s.upF (subF s.x.w (s.m.r s.x.dst.toNat) (s.m.r s.x.src.toNat))).upR s.x.dst.toNat (doI 1 s.x.w (s.m.r s.x.dst.toNat) (s.m.r s.x.src.toNat))))⟩,bx g1 111 (fnC g)] [] [some (pt g 0),some (pt g 0),some (pt g 22),some (pt g 22),some (.int .i8 5),some (pt g1 5),some (.func (.func 69) #[.pointer (some ⟨g,0,none⟩)] #[]),some (pt g 0),some (.int .u64 (s.m.r s.x.src.toNat)),some (.int .i64 0),some (.int .i64 0)] mo f2.d f2.z f2.b (by kernel_rfl) ⟨b_g_12,b_g1,trivial⟩ (
     hk (fun cx=>cx.q (ex_mv rfl (cx.rq 0 s0_13))) <|
     hk (fun cx=>cx.q (ex_nc rfl (cx.u 0 rfl))) <|
     hk (fun cx=>cx.q (ex_fa rfl (cx.u 0 rfl) (faExH75_1_0 _ _))) <|
     hk (fun cx=>cx.q (ex_fa rfl (cx.u 0 rfl) (faExH26_0_22 _ _))) <|
     hk (fun cx=>cx.v (ex_ld rfl (cx.u 0 rfl) (rft cx 0 rfl (by kernel_rfl)) rfl Tryd.isAgg24) rfl (congrArg (Value.int .i8) hO)) <|
     hk (fun cx=>cx.v (ex_ia (n:=32) (sz:=1) rfl (cx.rq 3 u_g1) (cx.u 0 rfl) Tryd.underlying111 (by kernel_rfl) (by omega) (by omega) (by omega)) rfl rfl) <|
     hk (fun cx=>cx.q (ex_ld rfl (cx.u 0 rfl) (cx.rn 1 rfl) rfl Tryd.isAgg110)) <|
     hk (fun cx=>cx.q (ex_mv rfl (cx.rq 0 s0_13))) <|
     hc (fun _ _ wx cx=>cx.c rfl (args1 (cx.u 0 rfl)) Tryd.func85 (by decide +kernel) (operand_5 s g wx (cx.rf 0 rfl (by kernel_rfl)) hs hO) rfl rfl) <|
     hc (fun _ _ wx cx=>callTb cx (wn rfl) rfl (cx.u 0 rfl) (args1 (cx.u 1 rfl)) rfl Tryd.func69 (by decide +kernel) (subtract_m s g (s.m.r s.x.src.toNat) wx (cx.ri 0 rfl) hM hd (hM.r s.x.src.toNat)) rfl rfl 0 rfl hV rfl ⟨(ne_row (f1.k hr) q_g1).symm,trivial⟩ rfl) <|
     kmu 0 <|
     hn) ?_
    intro a8 w8 f8
    have bt8:=But.step f8 bt2 f2.b ⟨.inr rfl,.inl rfl,trivial⟩
    refine wp_ret ?_
    try simp only [Exit.inBlock,Exit.then]
    refine bodyPost_ret (res_t (fn:=Tryd.f35) rfl (f8.v 10 rfl rfl rfl)) f8.d ?_
    exact RunT.yes bt8 (eff_5 _ _ hO) f8.rows.1
  · skip
    have b_g_14:=f2.k (f1.k hr)
    have s0_15:=f2.q 0 s0_1
    refine go_reg [⟨g,75,(exC s),some 9,(exC ((s.upF (ofF s.x.w (doI 10 s.x.w (s.m.r s.x.dst.toNat) (s.m.r s.x.src.toNat)))).upR s.x.dst.toNat (doI 10 s.x.w (s.m.r s.x.dst.toNat) (s.m.r s.x.src.toNat))))⟩,bx g1 111 (fnC g)] [] [some (pt g 0),some (pt g 0),some (pt g 22),some (pt g 22),some (.int .i8 6),some (pt g1 6),some (.func (.func 70) #[.pointer (some ⟨g,0,none⟩)] #[]),some (pt g 0),some (.int .u64 (s.m.r s.x.src.toNat)),some (.int .i64 0),some (.int .i64 0)] mo f2.d f2.z f2.b (by kernel_rfl) ⟨b_g_14,b_g1,trivial⟩ (
     hk (fun cx=>cx.q (ex_mv rfl (cx.rq 0 s0_15))) <|
     hk (fun cx=>cx.q (ex_nc rfl (cx.u 0 rfl))) <|
     hk (fun cx=>cx.q (ex_fa rfl (cx.u 0 rfl) (faExH75_1_0 _ _))) <|
     hk (fun cx=>cx.q (ex_fa rfl (cx.u 0 rfl) (faExH26_0_22 _ _))) <|
     hk (fun cx=>cx.v (ex_ld rfl (cx.u 0 rfl) (rft cx 0 rfl (by kernel_rfl)) rfl Tryd.isAgg24) rfl (congrArg (Value.int .i8) hO)) <|
     hk (fun cx=>cx.v (ex_ia (n:=32) (sz:=1) rfl (cx.rq 3 u_g1) (cx.u 0 rfl) Tryd.underlying111 (by kernel_rfl) (by omega) (by omega) (by omega)) rfl rfl) <|
     hk (fun cx=>cx.q (ex_ld rfl (cx.u 0 rfl) (cx.rn 1 rfl) rfl Tryd.isAgg110)) <|
     hk (fun cx=>cx.q (ex_mv rfl (cx.rq 0 s0_15))) <|
     hc (fun _ _ wx cx=>cx.c rfl (args1 (cx.u 0 rfl)) Tryd.func85 (by decide +kernel) (operand_6 s g wx (cx.rf 0 rfl (by kernel_rfl)) hs hO) rfl rfl) <|
     hc (fun _ _ wx cx=>callTb cx (wn rfl) rfl (cx.u 0 rfl) (args1 (cx.u 1 rfl)) rfl Tryd.func70 (by decide +kernel) (xor_m s g (s.m.r s.x.src.toNat) wx (cx.ri 0 rfl) hM hd (hM.r s.x.src.toNat)) rfl rfl 0 rfl hV rfl ⟨(ne_row (f1.k hr) q_g1).symm,trivial⟩ rfl) <|
     kmu 0 <|
     hn) ?_
    intro a9 w9 f9
    have bt9:=But.step f9 bt2 f2.b ⟨.inr rfl,.inl rfl,trivial⟩
    refine wp_ret ?_
    try simp only [Exit.inBlock,Exit.then]
    refine bodyPost_ret (res_t (fn:=Tryd.f35) rfl (f9.v 10 rfl rfl rfl)) f9.d ?_
    exact RunT.yes bt9 (eff_6 _ _ hO) f9.rows.1
  · skip
    have b_g_16:=f2.k (f1.k hr)
    have s0_17:=f2.q 0 s0_1
    refine go_reg [⟨g,75,(exC s),some 9,(exC (s.upF (subF s.x.w (s.m.r s.x.dst.toNat) (s.m.r s.x.src.toNat))))⟩,bx g1 111 (fnC g)] [] [some (pt g 0),some (pt g 0),some (pt g 22),some (pt g 22),some (.int .i8 7),some (pt g1 7),some (.func (.func 71) #[.pointer (some ⟨g,0,none⟩)] #[]),some (pt g 0),some (.int .u64 (s.m.r s.x.src.toNat)),some (.int .i64 0),some (.int .i64 0)] mo f2.d f2.z f2.b (by kernel_rfl) ⟨b_g_16,b_g1,trivial⟩ (
     hk (fun cx=>cx.q (ex_mv rfl (cx.rq 0 s0_17))) <|
     hk (fun cx=>cx.q (ex_nc rfl (cx.u 0 rfl))) <|
     hk (fun cx=>cx.q (ex_fa rfl (cx.u 0 rfl) (faExH75_1_0 _ _))) <|
     hk (fun cx=>cx.q (ex_fa rfl (cx.u 0 rfl) (faExH26_0_22 _ _))) <|
     hk (fun cx=>cx.v (ex_ld rfl (cx.u 0 rfl) (rft cx 0 rfl (by kernel_rfl)) rfl Tryd.isAgg24) rfl (congrArg (Value.int .i8) hO)) <|
     hk (fun cx=>cx.v (ex_ia (n:=32) (sz:=1) rfl (cx.rq 3 u_g1) (cx.u 0 rfl) Tryd.underlying111 (by kernel_rfl) (by omega) (by omega) (by omega)) rfl rfl) <|
     hk (fun cx=>cx.q (ex_ld rfl (cx.u 0 rfl) (cx.rn 1 rfl) rfl Tryd.isAgg110)) <|
     hk (fun cx=>cx.q (ex_mv rfl (cx.rq 0 s0_17))) <|
     hc (fun _ _ wx cx=>cx.c rfl (args1 (cx.u 0 rfl)) Tryd.func85 (by decide +kernel) (operand_7 s g wx (cx.rf 0 rfl (by kernel_rfl)) hs hO) rfl rfl) <|
     hc (fun _ _ wx cx=>callTb cx (wn rfl) rfl (cx.u 0 rfl) (args1 (cx.u 1 rfl)) rfl Tryd.func71 (by decide +kernel) (compare_m s g (s.m.r s.x.src.toNat) wx (cx.ri 0 rfl) hM hd (hM.r s.x.src.toNat)) rfl rfl 0 rfl hV rfl ⟨(ne_row (f1.k hr) q_g1).symm,trivial⟩ rfl) <|
     kmu 0 <|
     hn) ?_
    intro a10 w10 f10
    have bt10:=But.step f10 bt2 f2.b ⟨.inr rfl,.inl rfl,trivial⟩
    refine wp_ret ?_
    try simp only [Exit.inBlock,Exit.then]
    refine bodyPost_ret (res_t (fn:=Tryd.f35) rfl (f10.v 10 rfl rfl rfl)) f10.d ?_
    exact RunT.yes bt10 (eff_7 _ _ hO) f10.rows.1
  · skip
    have b_g_18:=f2.k (f1.k hr)
    have s0_19:=f2.q 0 s0_1
    refine go_reg [⟨g,75,(exC s),some 9,(exC (s.upF (ofF s.x.w (doI 5 s.x.w (s.m.r s.x.dst.toNat) (s.m.r s.x.src.toNat)))))⟩,bx g1 111 (fnC g)] [] [some (pt g 0),some (pt g 0),some (pt g 22),some (pt g 22),some (.int .i8 8),some (pt g1 8),some (.func (.func 72) #[.pointer (some ⟨g,0,none⟩)] #[]),some (pt g 0),some (.int .u64 (s.m.r s.x.src.toNat)),some (.int .i64 0),some (.int .i64 0)] mo f2.d f2.z f2.b (by kernel_rfl) ⟨b_g_18,b_g1,trivial⟩ (
     hk (fun cx=>cx.q (ex_mv rfl (cx.rq 0 s0_19))) <|
     hk (fun cx=>cx.q (ex_nc rfl (cx.u 0 rfl))) <|
     hk (fun cx=>cx.q (ex_fa rfl (cx.u 0 rfl) (faExH75_1_0 _ _))) <|
     hk (fun cx=>cx.q (ex_fa rfl (cx.u 0 rfl) (faExH26_0_22 _ _))) <|
     hk (fun cx=>cx.v (ex_ld rfl (cx.u 0 rfl) (rft cx 0 rfl (by kernel_rfl)) rfl Tryd.isAgg24) rfl (congrArg (Value.int .i8) hO)) <|
     hk (fun cx=>cx.v (ex_ia (n:=32) (sz:=1) rfl (cx.rq 3 u_g1) (cx.u 0 rfl) Tryd.underlying111 (by kernel_rfl) (by omega) (by omega) (by omega)) rfl rfl) <|
     hk (fun cx=>cx.q (ex_ld rfl (cx.u 0 rfl) (cx.rn 1 rfl) rfl Tryd.isAgg110)) <|
     hk (fun cx=>cx.q (ex_mv rfl (cx.rq 0 s0_19))) <|
     hc (fun _ _ wx cx=>cx.c rfl (args1 (cx.u 0 rfl)) Tryd.func85 (by decide +kernel) (operand_8 s g wx (cx.rf 0 rfl (by kernel_rfl)) hs hO) rfl rfl) <|
     hc (fun _ _ wx cx=>callTb cx (wn rfl) rfl (cx.u 0 rfl) (args1 (cx.u 1 rfl)) rfl Tryd.func72 (by decide +kernel) (test_m s g (s.m.r s.x.src.toNat) wx (cx.ri 0 rfl) hM hd (hM.r s.x.src.toNat)) rfl rfl 0 rfl hV rfl ⟨(ne_row (f1.k hr) q_g1).symm,trivial⟩ rfl) <|
     kmu 0 <|
     hn) ?_
    intro a11 w11 f11
    have bt11:=But.step f11 bt2 f2.b ⟨.inr rfl,.inl rfl,trivial⟩
    refine wp_ret ?_
    try simp only [Exit.inBlock,Exit.then]
    refine bodyPost_ret (res_t (fn:=Tryd.f35) rfl (f11.v 10 rfl rfl rfl)) f11.d ?_
    exact RunT.yes bt11 (eff_8 _ _ hO) f11.rows.1
  · skip
    have b_g_20:=f2.k (f1.k hr)
    have s0_21:=f2.q 0 s0_1
    refine go_reg [⟨g,75,(exC s),some 9,(exC ((s.upF (addF s.x.w (s.m.r s.x.dst.toNat) (IntKind.u64.wrap s.x.imm))).upR s.x.dst.toNat (doI 0 s.x.w (s.m.r s.x.dst.toNat) (IntKind.u64.wrap s.x.imm))))⟩,bx g1 111 (fnC g)] [] [some (pt g 0),some (pt g 0),some (pt g 22),some (pt g 22),some (.int .i8 9),some (pt g1 9),some (.func (.func 66) #[.pointer (some ⟨g,0,none⟩)] #[]),some (pt g 0),some (.int .u64 (IntKind.u64.wrap s.x.imm)),some (.int .i64 0),some (.int .i64 0)] mo f2.d f2.z f2.b (by kernel_rfl) ⟨b_g_20,b_g1,trivial⟩ (
     hk (fun cx=>cx.q (ex_mv rfl (cx.rq 0 s0_21))) <|
     hk (fun cx=>cx.q (ex_nc rfl (cx.u 0 rfl))) <|
     hk (fun cx=>cx.q (ex_fa rfl (cx.u 0 rfl) (faExH75_1_0 _ _))) <|
     hk (fun cx=>cx.q (ex_fa rfl (cx.u 0 rfl) (faExH26_0_22 _ _))) <|
     hk (fun cx=>cx.v (ex_ld rfl (cx.u 0 rfl) (rft cx 0 rfl (by kernel_rfl)) rfl Tryd.isAgg24) rfl (congrArg (Value.int .i8) hO)) <|
     hk (fun cx=>cx.v (ex_ia (n:=32) (sz:=1) rfl (cx.rq 3 u_g1) (cx.u 0 rfl) Tryd.underlying111 (by kernel_rfl) (by omega) (by omega) (by omega)) rfl rfl) <|
     hk (fun cx=>cx.q (ex_ld rfl (cx.u 0 rfl) (cx.rn 1 rfl) rfl Tryd.isAgg110)) <|
     hk (fun cx=>cx.q (ex_mv rfl (cx.rq 0 s0_21))) <|
     hc (fun _ _ wx cx=>cx.c rfl (args1 (cx.u 0 rfl)) Tryd.func85 (by decide +kernel) (operand_9 s g wx (cx.rf 0 rfl (by kernel_rfl)) hs hO) rfl rfl) <|
     hc (fun _ _ wx cx=>callTb cx (wn rfl) rfl (cx.u 0 rfl) (args1 (cx.u 1 rfl)) rfl Tryd.func66 (by decide +kernel) (add_m s g (IntKind.u64.wrap s.x.imm) wx (cx.ri 0 rfl) hM hd (U64.wrap s.x.imm)) rfl rfl 0 rfl hV rfl ⟨(ne_row (f1.k hr) q_g1).symm,trivial⟩ rfl) <|
     kmu 0 <|
     hn) ?_
    intro a12 w12 f12
    have bt12:=But.step f12 bt2 f2.b ⟨.inr rfl,.inl rfl,trivial⟩
    refine wp_ret ?_
    try simp only [Exit.inBlock,Exit.then]
    refine bodyPost_ret (res_t (fn:=Tryd.f35) rfl (f12.v 10 rfl rfl rfl)) f12.d ?_
    exact RunT.yes bt12 (eff_9 _ _ hO) f12.rows.1
  · skip
    have b_g_22:=f2.k (f1.k hr)
    have s0_23:=f2.q 0 s0_1
    refine go_reg [⟨g,75,(exC s),some 9,(exC ((s.upF (ofF s.x.w (doI 4 s.x.w (s.m.r s.x.dst.toNat) (IntKind.u64.wrap s.x.imm)))).upR s.x.dst.toNat (doI 4 s.x.w (s.m.r s.x.dst.toNat) (IntKind.u64.wrap s.x.imm))))⟩,bx g1 111 (fnC g)] [] [some (pt g 0),some (pt g 0),some (pt g 22),some (pt g 22),some (.int .i8 10),some (pt g1 10),some (.func (.func 67) #[.pointer (some ⟨g,0,none⟩)] #[]),some (pt g 0),some (.int .u64 (IntKind.u64.wrap s.x.imm)),some (.int .i64 0),some (.int .i64 0)] mo f2.d f2.z f2.b (by kernel_rfl) ⟨b_g_22,b_g1,trivial⟩ (
     hk (fun cx=>cx.q (ex_mv rfl (cx.rq 0 s0_23))) <|
     hk (fun cx=>cx.q (ex_nc rfl (cx.u 0 rfl))) <|
     hk (fun cx=>cx.q (ex_fa rfl (cx.u 0 rfl) (faExH75_1_0 _ _))) <|
     hk (fun cx=>cx.q (ex_fa rfl (cx.u 0 rfl) (faExH26_0_22 _ _))) <|
     hk (fun cx=>cx.v (ex_ld rfl (cx.u 0 rfl) (rft cx 0 rfl (by kernel_rfl)) rfl Tryd.isAgg24) rfl (congrArg (Value.int .i8) hO)) <|
     hk (fun cx=>cx.v (ex_ia (n:=32) (sz:=1) rfl (cx.rq 3 u_g1) (cx.u 0 rfl) Tryd.underlying111 (by kernel_rfl) (by omega) (by omega) (by omega)) rfl rfl) <|
     hk (fun cx=>cx.q (ex_ld rfl (cx.u 0 rfl) (cx.rn 1 rfl) rfl Tryd.isAgg110)) <|
     hk (fun cx=>cx.q (ex_mv rfl (cx.rq 0 s0_23))) <|
     hc (fun _ _ wx cx=>cx.c rfl (args1 (cx.u 0 rfl)) Tryd.func85 (by decide +kernel) (operand_10 s g wx (cx.rf 0 rfl (by kernel_rfl)) hs hO) rfl rfl) <|
     hc (fun _ _ wx cx=>callTb cx (wn rfl) rfl (cx.u 0 rfl) (args1 (cx.u 1 rfl)) rfl Tryd.func67 (by decide +kernel) (or_m s g (IntKind.u64.wrap s.x.imm) wx (cx.ri 0 rfl) hM hd (U64.wrap s.x.imm)) rfl rfl 0 rfl hV rfl ⟨(ne_row (f1.k hr) q_g1).symm,trivial⟩ rfl) <|
     kmu 0 <|
     hn) ?_
    intro a13 w13 f13
    have bt13:=But.step f13 bt2 f2.b ⟨.inr rfl,.inl rfl,trivial⟩
    refine wp_ret ?_
    try simp only [Exit.inBlock,Exit.then]
    refine bodyPost_ret (res_t (fn:=Tryd.f35) rfl (f13.v 10 rfl rfl rfl)) f13.d ?_
    exact RunT.yes bt13 (eff_10 _ _ hO) f13.rows.1
  · skip
    have b_g_24:=f2.k (f1.k hr)
    have s0_25:=f2.q 0 s0_1
    refine go_reg [⟨g,75,(exC s),some 9,(exC ((s.upF (ofF s.x.w (doI 5 s.x.w (s.m.r s.x.dst.toNat) (IntKind.u64.wrap s.x.imm)))).upR s.x.dst.toNat (doI 5 s.x.w (s.m.r s.x.dst.toNat) (IntKind.u64.wrap s.x.imm))))⟩,bx g1 111 (fnC g)] [] [some (pt g 0),some (pt g 0),some (pt g 22),some (pt g 22),some (.int .i8 11),some (pt g1 11),some (.func (.func 68) #[.pointer (some ⟨g,0,none⟩)] #[]),some (pt g 0),some (.int .u64 (IntKind.u64.wrap s.x.imm)),some (.int .i64 0),some (.int .i64 0)] mo f2.d f2.z f2.b (by kernel_rfl) ⟨b_g_24,b_g1,trivial⟩ (
     hk (fun cx=>cx.q (ex_mv rfl (cx.rq 0 s0_25))) <|
     hk (fun cx=>cx.q (ex_nc rfl (cx.u 0 rfl))) <|
     hk (fun cx=>cx.q (ex_fa rfl (cx.u 0 rfl) (faExH75_1_0 _ _))) <|
     hk (fun cx=>cx.q (ex_fa rfl (cx.u 0 rfl) (faExH26_0_22 _ _))) <|
     hk (fun cx=>cx.v (ex_ld rfl (cx.u 0 rfl) (rft cx 0 rfl (by kernel_rfl)) rfl Tryd.isAgg24) rfl (congrArg (Value.int .i8) hO)) <|
     hk (fun cx=>cx.v (ex_ia (n:=32) (sz:=1) rfl (cx.rq 3 u_g1) (cx.u 0 rfl) Tryd.underlying111 (by kernel_rfl) (by omega) (by omega) (by omega)) rfl rfl) <|
     hk (fun cx=>cx.q (ex_ld rfl (cx.u 0 rfl) (cx.rn 1 rfl) rfl Tryd.isAgg110)) <|
     hk (fun cx=>cx.q (ex_mv rfl (cx.rq 0 s0_25))) <|
     hc (fun _ _ wx cx=>cx.c rfl (args1 (cx.u 0 rfl)) Tryd.func85 (by decide +kernel) (operand_11 s g wx (cx.rf 0 rfl (by kernel_rfl)) hs hO) rfl rfl) <|
     hc (fun _ _ wx cx=>callTb cx (wn rfl) rfl (cx.u 0 rfl) (args1 (cx.u 1 rfl)) rfl Tryd.func68 (by decide +kernel) (and_m s g (IntKind.u64.wrap s.x.imm) wx (cx.ri 0 rfl) hM hd (U64.wrap s.x.imm)) rfl rfl 0 rfl hV rfl ⟨(ne_row (f1.k hr) q_g1).symm,trivial⟩ rfl) <|
     kmu 0 <|
     hn) ?_
    intro a14 w14 f14
    have bt14:=But.step f14 bt2 f2.b ⟨.inr rfl,.inl rfl,trivial⟩
    refine wp_ret ?_
    try simp only [Exit.inBlock,Exit.then]
    refine bodyPost_ret (res_t (fn:=Tryd.f35) rfl (f14.v 10 rfl rfl rfl)) f14.d ?_
    exact RunT.yes bt14 (eff_11 _ _ hO) f14.rows.1
  · skip
    have b_g_26:=f2.k (f1.k hr)
    have s0_27:=f2.q 0 s0_1
    refine go_reg [⟨g,75,(exC s),some 9,(exC ((s.upF (subF s.x.w (s.m.r s.x.dst.toNat) (IntKind.u64.wrap s.x.imm))).upR s.x.dst.toNat (doI 1 s.x.w (s.m.r s.x.dst.toNat) (IntKind.u64.wrap s.x.imm))))⟩,bx g1 111 (fnC g)] [] [some (pt g 0),some (pt g 0),some (pt g 22),some (pt g 22),some (.int .i8 12),some (pt g1 12),some (.func (.func 69) #[.pointer (some ⟨g,0,none⟩)] #[]),some (pt g 0),some (.int .u64 (IntKind.u64.wrap s.x.imm)),some (.int .i64 0),some (.int .i64 0)] mo f2.d f2.z f2.b (by kernel_rfl) ⟨b_g_26,b_g1,trivial⟩ (
     hk (fun cx=>cx.q (ex_mv rfl (cx.rq 0 s0_27))) <|
     hk (fun cx=>cx.q (ex_nc rfl (cx.u 0 rfl))) <|
     hk (fun cx=>cx.q (ex_fa rfl (cx.u 0 rfl) (faExH75_1_0 _ _))) <|
     hk (fun cx=>cx.q (ex_fa rfl (cx.u 0 rfl) (faExH26_0_22 _ _))) <|
     hk (fun cx=>cx.v (ex_ld rfl (cx.u 0 rfl) (rft cx 0 rfl (by kernel_rfl)) rfl Tryd.isAgg24) rfl (congrArg (Value.int .i8) hO)) <|
     hk (fun cx=>cx.v (ex_ia (n:=32) (sz:=1) rfl (cx.rq 3 u_g1) (cx.u 0 rfl) Tryd.underlying111 (by kernel_rfl) (by omega) (by omega) (by omega)) rfl rfl) <|
     hk (fun cx=>cx.q (ex_ld rfl (cx.u 0 rfl) (cx.rn 1 rfl) rfl Tryd.isAgg110)) <|
     hk (fun cx=>cx.q (ex_mv rfl (cx.rq 0 s0_27))) <|
     hc (fun _ _ wx cx=>cx.c rfl (args1 (cx.u 0 rfl)) Tryd.func85 (by decide +kernel) (operand_12 s g wx (cx.rf 0 rfl (by kernel_rfl)) hs hO) rfl rfl) <|
     hc (fun _ _ wx cx=>callTb cx (wn rfl) rfl (cx.u 0 rfl) (args1 (cx.u 1 rfl)) rfl Tryd.func69 (by decide +kernel) (subtract_m s g (IntKind.u64.wrap s.x.imm) wx (cx.ri 0 rfl) hM hd (U64.wrap s.x.imm)) rfl rfl 0 rfl hV rfl ⟨(ne_row (f1.k hr) q_g1).symm,trivial⟩ rfl) <|
     kmu 0 <|
     hn) ?_
    intro a15 w15 f15
    have bt15:=But.step f15 bt2 f2.b ⟨.inr rfl,.inl rfl,trivial⟩
    refine wp_ret ?_
    try simp only [Exit.inBlock,Exit.then]
    refine bodyPost_ret (res_t (fn:=Tryd.f35) rfl (f15.v 10 rfl rfl rfl)) f15.d ?_
    exact RunT.yes bt15 (eff_12 _ _ hO) f15.rows.1
  · skip
    have b_g_28:=f2.k (f1.k hr)
    have s0_29:=f2.q 0 s0_1
    refine go_reg [⟨g,75,(exC s),some 9,(exC ((s.upF (ofF s.x.w (doI 10 s.x.w (s.m.r s.x.dst.toNat) (IntKind.u64.wrap s.x.imm)))).upR s.x.dst.toNat (doI 10 s.x.w (s.m.r s.x.dst.toNat) (IntKind.u64.wrap s.x.imm))))⟩,bx g1 111 (fnC g)] [] [some (pt g 0),some (pt g 0),some (pt g 22),some (pt g 22),some (.int .i8 13),some (pt g1 13),some (.func (.func 70) #[.pointer (some ⟨g,0,none⟩)] #[]),some (pt g 0),some (.int .u64 (IntKind.u64.wrap s.x.imm)),some (.int .i64 0),some (.int .i64 0)] mo f2.d f2.z f2.b (by kernel_rfl) ⟨b_g_28,b_g1,trivial⟩ (
     hk (fun cx=>cx.q (ex_mv rfl (cx.rq 0 s0_29))) <|
     hk (fun cx=>cx.q (ex_nc rfl (cx.u 0 rfl))) <|
     hk (fun cx=>cx.q (ex_fa rfl (cx.u 0 rfl) (faExH75_1_0 _ _))) <|
     hk (fun cx=>cx.q (ex_fa rfl (cx.u 0 rfl) (faExH26_0_22 _ _))) <|
     hk (fun cx=>cx.v (ex_ld rfl (cx.u 0 rfl) (rft cx 0 rfl (by kernel_rfl)) rfl Tryd.isAgg24) rfl (congrArg (Value.int .i8) hO)) <|
     hk (fun cx=>cx.v (ex_ia (n:=32) (sz:=1) rfl (cx.rq 3 u_g1) (cx.u 0 rfl) Tryd.underlying111 (by kernel_rfl) (by omega) (by omega) (by omega)) rfl rfl) <|
     hk (fun cx=>cx.q (ex_ld rfl (cx.u 0 rfl) (cx.rn 1 rfl) rfl Tryd.isAgg110)) <|
     hk (fun cx=>cx.q (ex_mv rfl (cx.rq 0 s0_29))) <|
     hc (fun _ _ wx cx=>cx.c rfl (args1 (cx.u 0 rfl)) Tryd.func85 (by decide +kernel) (operand_13 s g wx (cx.rf 0 rfl (by kernel_rfl)) hs hO) rfl rfl) <|
     hc (fun _ _ wx cx=>callTb cx (wn rfl) rfl (cx.u 0 rfl) (args1 (cx.u 1 rfl)) rfl Tryd.func70 (by decide +kernel) (xor_m s g (IntKind.u64.wrap s.x.imm) wx (cx.ri 0 rfl) hM hd (U64.wrap s.x.imm)) rfl rfl 0 rfl hV rfl ⟨(ne_row (f1.k hr) q_g1).symm,trivial⟩ rfl) <|
     kmu 0 <|
     hn) ?_
    intro a16 w16 f16
    have bt16:=But.step f16 bt2 f2.b ⟨.inr rfl,.inl rfl,trivial⟩
    refine wp_ret ?_
    try simp only [Exit.inBlock,Exit.then]
    refine bodyPost_ret (res_t (fn:=Tryd.f35) rfl (f16.v 10 rfl rfl rfl)) f16.d ?_
    exact RunT.yes bt16 (eff_13 _ _ hO) f16.rows.1
  · skip
    have b_g_30:=f2.k (f1.k hr)
    have s0_31:=f2.q 0 s0_1
    refine go_reg [⟨g,75,(exC s),some 9,(exC (s.upF (subF s.x.w (s.m.r s.x.dst.toNat) (IntKind.u64.wrap s.x.imm))))⟩,bx g1 111 (fnC g)] [] [some (pt g 0),some (pt g 0),some (pt g 22),some (pt g 22),some (.int .i8 14),some (pt g1 14),some (.func (.func 71) #[.pointer (some ⟨g,0,none⟩)] #[]),some (pt g 0),some (.int .u64 (IntKind.u64.wrap s.x.imm)),some (.int .i64 0),some (.int .i64 0)] mo f2.d f2.z f2.b (by kernel_rfl) ⟨b_g_30,b_g1,trivial⟩ (
     hk (fun cx=>cx.q (ex_mv rfl (cx.rq 0 s0_31))) <|
     hk (fun cx=>cx.q (ex_nc rfl (cx.u 0 rfl))) <|
     hk (fun cx=>cx.q (ex_fa rfl (cx.u 0 rfl) (faExH75_1_0 _ _))) <|
     hk (fun cx=>cx.q (ex_fa rfl (cx.u 0 rfl) (faExH26_0_22 _ _))) <|
     hk (fun cx=>cx.v (ex_ld rfl (cx.u 0 rfl) (rft cx 0 rfl (by kernel_rfl)) rfl Tryd.isAgg24) rfl (congrArg (Value.int .i8) hO)) <|
     hk (fun cx=>cx.v (ex_ia (n:=32) (sz:=1) rfl (cx.rq 3 u_g1) (cx.u 0 rfl) Tryd.underlying111 (by kernel_rfl) (by omega) (by omega) (by omega)) rfl rfl) <|
     hk (fun cx=>cx.q (ex_ld rfl (cx.u 0 rfl) (cx.rn 1 rfl) rfl Tryd.isAgg110)) <|
     hk (fun cx=>cx.q (ex_mv rfl (cx.rq 0 s0_31))) <|
     hc (fun _ _ wx cx=>cx.c rfl (args1 (cx.u 0 rfl)) Tryd.func85 (by decide +kernel) (operand_14 s g wx (cx.rf 0 rfl (by kernel_rfl)) hs hO) rfl rfl) <|
     hc (fun _ _ wx cx=>callTb cx (wn rfl) rfl (cx.u 0 rfl) (args1 (cx.u 1 rfl)) rfl Tryd.func71 (by decide +kernel) (compare_m s g (IntKind.u64.wrap s.x.imm) wx (cx.ri 0 rfl) hM hd (U64.wrap s.x.imm)) rfl rfl 0 rfl hV rfl ⟨(ne_row (f1.k hr) q_g1).symm,trivial⟩ rfl) <|
     kmu 0 <|
     hn) ?_
    intro a17 w17 f17
    have bt17:=But.step f17 bt2 f2.b ⟨.inr rfl,.inl rfl,trivial⟩
    refine wp_ret ?_
    try simp only [Exit.inBlock,Exit.then]
    refine bodyPost_ret (res_t (fn:=Tryd.f35) rfl (f17.v 10 rfl rfl rfl)) f17.d ?_
    exact RunT.yes bt17 (eff_14 _ _ hO) f17.rows.1
  · skip
    have b_g_32:=f2.k (f1.k hr)
    have s0_33:=f2.q 0 s0_1
    refine go_reg [⟨g,75,(exC s),some 9,(exC (s.upF (ofF s.x.w (doI 5 s.x.w (s.m.r s.x.dst.toNat) (IntKind.u64.wrap s.x.imm)))))⟩,bx g1 111 (fnC g)] [] [some (pt g 0),some (pt g 0),some (pt g 22),some (pt g 22),some (.int .i8 15),some (pt g1 15),some (.func (.func 72) #[.pointer (some ⟨g,0,none⟩)] #[]),some (pt g 0),some (.int .u64 (IntKind.u64.wrap s.x.imm)),some (.int .i64 0),some (.int .i64 0)] mo f2.d f2.z f2.b (by kernel_rfl) ⟨b_g_32,b_g1,trivial⟩ (
     hk (fun cx=>cx.q (ex_mv rfl (cx.rq 0 s0_33))) <|
     hk (fun cx=>cx.q (ex_nc rfl (cx.u 0 rfl))) <|
     hk (fun cx=>cx.q (ex_fa rfl (cx.u 0 rfl) (faExH75_1_0 _ _))) <|
     hk (fun cx=>cx.q (ex_fa rfl (cx.u 0 rfl) (faExH26_0_22 _ _))) <|
     hk (fun cx=>cx.v (ex_ld rfl (cx.u 0 rfl) (rft cx 0 rfl (by kernel_rfl)) rfl Tryd.isAgg24) rfl (congrArg (Value.int .i8) hO)) <|
     hk (fun cx=>cx.v (ex_ia (n:=32) (sz:=1) rfl (cx.rq 3 u_g1) (cx.u 0 rfl) Tryd.underlying111 (by kernel_rfl) (by omega) (by omega) (by omega)) rfl rfl) <|
     hk (fun cx=>cx.q (ex_ld rfl (cx.u 0 rfl) (cx.rn 1 rfl) rfl Tryd.isAgg110)) <|
     hk (fun cx=>cx.q (ex_mv rfl (cx.rq 0 s0_33))) <|
     hc (fun _ _ wx cx=>cx.c rfl (args1 (cx.u 0 rfl)) Tryd.func85 (by decide +kernel) (operand_15 s g wx (cx.rf 0 rfl (by kernel_rfl)) hs hO) rfl rfl) <|
     hc (fun _ _ wx cx=>callTb cx (wn rfl) rfl (cx.u 0 rfl) (args1 (cx.u 1 rfl)) rfl Tryd.func72 (by decide +kernel) (test_m s g (IntKind.u64.wrap s.x.imm) wx (cx.ri 0 rfl) hM hd (U64.wrap s.x.imm)) rfl rfl 0 rfl hV rfl ⟨(ne_row (f1.k hr) q_g1).symm,trivial⟩ rfl) <|
     kmu 0 <|
     hn) ?_
    intro a18 w18 f18
    have bt18:=But.step f18 bt2 f2.b ⟨.inr rfl,.inl rfl,trivial⟩
    refine wp_ret ?_
    try simp only [Exit.inBlock,Exit.then]
    refine bodyPost_ret (res_t (fn:=Tryd.f35) rfl (f18.v 10 rfl rfl rfl)) f18.d ?_
    exact RunT.yes bt18 (eff_15 _ _ hO) f18.rows.1
  · skip
    have b_g_34:=f2.k (f1.k hr)
    have s0_35:=f2.q 0 s0_1
    refine go_reg [⟨g,75,(exC s),some 9,(exC ((s.upF zF).upR s.x.dst.toNat (doI 2 s.x.w (s.m.r s.x.dst.toNat) (s.m.r s.x.src.toNat))))⟩,bx g1 111 (fnC g)] [] [some (pt g 0),some (pt g 0),some (pt g 22),some (pt g 22),some (.int .i8 16),some (pt g1 16),some (.func (.func 73) #[.pointer (some ⟨g,0,none⟩)] #[]),some (pt g 0),some (.int .u64 (s.m.r s.x.src.toNat)),some (.int .i64 0),some (.int .i64 0)] mo f2.d f2.z f2.b (by kernel_rfl) ⟨b_g_34,b_g1,trivial⟩ (
     hk (fun cx=>cx.q (ex_mv rfl (cx.rq 0 s0_35))) <|
     hk (fun cx=>cx.q (ex_nc rfl (cx.u 0 rfl))) <|
     hk (fun cx=>cx.q (ex_fa rfl (cx.u 0 rfl) (faExH75_1_0 _ _))) <|
     hk (fun cx=>cx.q (ex_fa rfl (cx.u 0 rfl) (faExH26_0_22 _ _))) <|
     hk (fun cx=>cx.v (ex_ld rfl (cx.u 0 rfl) (rft cx 0 rfl (by kernel_rfl)) rfl Tryd.isAgg24) rfl (congrArg (Value.int .i8) hO)) <|
     hk (fun cx=>cx.v (ex_ia (n:=32) (sz:=1) rfl (cx.rq 3 u_g1) (cx.u 0 rfl) Tryd.underlying111 (by kernel_rfl) (by omega) (by omega) (by omega)) rfl rfl) <|
     hk (fun cx=>cx.q (ex_ld rfl (cx.u 0 rfl) (cx.rn 1 rfl) rfl Tryd.isAgg110)) <|
     hk (fun cx=>cx.q (ex_mv rfl (cx.rq 0 s0_35))) <|
     hc (fun _ _ wx cx=>cx.c rfl (args1 (cx.u 0 rfl)) Tryd.func85 (by decide +kernel) (operand_16 s g wx (cx.rf 0 rfl (by kernel_rfl)) hs hO) rfl rfl) <|
     hc (fun _ _ wx cx=>callTb cx (wn rfl) rfl (cx.u 0 rfl) (args1 (cx.u 1 rfl)) rfl Tryd.func73 (by decide +kernel) (multiply_m s g (s.m.r s.x.src.toNat) wx (cx.ri 0 rfl) hM hd (hM.r s.x.src.toNat)) rfl rfl 0 rfl hV rfl ⟨(ne_row (f1.k hr) q_g1).symm,trivial⟩ rfl) <|
     kmu 0 <|
     hn) ?_
    intro a19 w19 f19
    have bt19:=But.step f19 bt2 f2.b ⟨.inr rfl,.inl rfl,trivial⟩
    refine wp_ret ?_
    try simp only [Exit.inBlock,Exit.then]
    refine bodyPost_ret (res_t (fn:=Tryd.f35) rfl (f19.v 10 rfl rfl rfl)) f19.d ?_
    exact RunT.yes bt19 (eff_16 _ _ hO) f19.rows.1
  · skip
    have b_g_36:=f2.k (f1.k hr)
    have s0_37:=f2.q 0 s0_1
    refine go_reg [⟨g,75,(exC s),some 9,(exC ((s.upF zF).upR s.x.dst.toNat (doI 6 s.x.w (s.m.r s.x.dst.toNat) (IntKind.u64.wrap s.x.imm))))⟩,bx g1 111 (fnC g)] [] [some (pt g 0),some (pt g 0),some (pt g 22),some (pt g 22),some (.int .i8 17),some (pt g1 17),some (.func (.func 74) #[.pointer (some ⟨g,0,none⟩)] #[]),some (pt g 0),some (.int .u64 (IntKind.u64.wrap s.x.imm)),some (.int .i64 0),some (.int .i64 0)] mo f2.d f2.z f2.b (by kernel_rfl) ⟨b_g_36,b_g1,trivial⟩ (
     hk (fun cx=>cx.q (ex_mv rfl (cx.rq 0 s0_37))) <|
     hk (fun cx=>cx.q (ex_nc rfl (cx.u 0 rfl))) <|
     hk (fun cx=>cx.q (ex_fa rfl (cx.u 0 rfl) (faExH75_1_0 _ _))) <|
     hk (fun cx=>cx.q (ex_fa rfl (cx.u 0 rfl) (faExH26_0_22 _ _))) <|
     hk (fun cx=>cx.v (ex_ld rfl (cx.u 0 rfl) (rft cx 0 rfl (by kernel_rfl)) rfl Tryd.isAgg24) rfl (congrArg (Value.int .i8) hO)) <|
     hk (fun cx=>cx.v (ex_ia (n:=32) (sz:=1) rfl (cx.rq 3 u_g1) (cx.u 0 rfl) Tryd.underlying111 (by kernel_rfl) (by omega) (by omega) (by omega)) rfl rfl) <|
     hk (fun cx=>cx.q (ex_ld rfl (cx.u 0 rfl) (cx.rn 1 rfl) rfl Tryd.isAgg110)) <|
     hk (fun cx=>cx.q (ex_mv rfl (cx.rq 0 s0_37))) <|
     hc (fun _ _ wx cx=>cx.c rfl (args1 (cx.u 0 rfl)) Tryd.func85 (by decide +kernel) (operand_17 s g wx (cx.rf 0 rfl (by kernel_rfl)) hs hO) rfl rfl) <|
     hc (fun _ _ wx cx=>callTb cx (wn rfl) rfl (cx.u 0 rfl) (args1 (cx.u 1 rfl)) rfl Tryd.func74 (by decide +kernel) (shiftLeft_m s g (IntKind.u64.wrap s.x.imm) wx (cx.ri 0 rfl) hM hd (U64.wrap s.x.imm)) rfl rfl 0 rfl hV rfl ⟨(ne_row (f1.k hr) q_g1).symm,trivial⟩ rfl) <|
     kmu 0 <|
     hn) ?_
    intro a20 w20 f20
    have bt20:=But.step f20 bt2 f2.b ⟨.inr rfl,.inl rfl,trivial⟩
    refine wp_ret ?_
    try simp only [Exit.inBlock,Exit.then]
    refine bodyPost_ret (res_t (fn:=Tryd.f35) rfl (f20.v 10 rfl rfl rfl)) f20.d ?_
    exact RunT.yes bt20 (eff_17 _ _ hO) f20.rows.1
  · skip
    have b_g_38:=f2.k (f1.k hr)
    have s0_39:=f2.q 0 s0_1
    refine go_reg [⟨g,75,(exC s),some 9,(exC ((s.upF zF).upR s.x.dst.toNat (doI 7 s.x.w (s.m.r s.x.dst.toNat) (IntKind.u64.wrap s.x.imm))))⟩,bx g1 111 (fnC g)] [] [some (pt g 0),some (pt g 0),some (pt g 22),some (pt g 22),some (.int .i8 18),some (pt g1 18),some (.func (.func 75) #[.pointer (some ⟨g,0,none⟩)] #[]),some (pt g 0),some (.int .u64 (IntKind.u64.wrap s.x.imm)),some (.int .i64 0),some (.int .i64 0)] mo f2.d f2.z f2.b (by kernel_rfl) ⟨b_g_38,b_g1,trivial⟩ (
     hk (fun cx=>cx.q (ex_mv rfl (cx.rq 0 s0_39))) <|
     hk (fun cx=>cx.q (ex_nc rfl (cx.u 0 rfl))) <|
     hk (fun cx=>cx.q (ex_fa rfl (cx.u 0 rfl) (faExH75_1_0 _ _))) <|
     hk (fun cx=>cx.q (ex_fa rfl (cx.u 0 rfl) (faExH26_0_22 _ _))) <|
     hk (fun cx=>cx.v (ex_ld rfl (cx.u 0 rfl) (rft cx 0 rfl (by kernel_rfl)) rfl Tryd.isAgg24) rfl (congrArg (Value.int .i8) hO)) <|
     hk (fun cx=>cx.v (ex_ia (n:=32) (sz:=1) rfl (cx.rq 3 u_g1) (cx.u 0 rfl) Tryd.underlying111 (by kernel_rfl) (by omega) (by omega) (by omega)) rfl rfl) <|
     hk (fun cx=>cx.q (ex_ld rfl (cx.u 0 rfl) (cx.rn 1 rfl) rfl Tryd.isAgg110)) <|
     hk (fun cx=>cx.q (ex_mv rfl (cx.rq 0 s0_39))) <|
     hc (fun _ _ wx cx=>cx.c rfl (args1 (cx.u 0 rfl)) Tryd.func85 (by decide +kernel) (operand_18 s g wx (cx.rf 0 rfl (by kernel_rfl)) hs hO) rfl rfl) <|
     hc (fun _ _ wx cx=>callTb cx (wn rfl) rfl (cx.u 0 rfl) (args1 (cx.u 1 rfl)) rfl Tryd.func75 (by decide +kernel) (shiftRight_m s g (IntKind.u64.wrap s.x.imm) wx (cx.ri 0 rfl) hM hd (U64.wrap s.x.imm)) rfl rfl 0 rfl hV rfl ⟨(ne_row (f1.k hr) q_g1).symm,trivial⟩ rfl) <|
     kmu 0 <|
     hn) ?_
    intro a21 w21 f21
    have bt21:=But.step f21 bt2 f2.b ⟨.inr rfl,.inl rfl,trivial⟩
    refine wp_ret ?_
    try simp only [Exit.inBlock,Exit.then]
    refine bodyPost_ret (res_t (fn:=Tryd.f35) rfl (f21.v 10 rfl rfl rfl)) f21.d ?_
    exact RunT.yes bt21 (eff_18 _ _ hO) f21.rows.1
  · skip
    have b_g_40:=f2.k (f1.k hr)
    have s0_41:=f2.q 0 s0_1
    refine go_reg [⟨g,75,(exC s),some 9,(exC ((s.upF zF).upR s.x.dst.toNat (doI 12 s.x.w (s.m.r s.x.dst.toNat) (IntKind.u64.wrap s.x.imm))))⟩,bx g1 111 (fnC g)] [] [some (pt g 0),some (pt g 0),some (pt g 22),some (pt g 22),some (.int .i8 19),some (pt g1 19),some (.func (.func 76) #[.pointer (some ⟨g,0,none⟩)] #[]),some (pt g 0),some (.int .u64 (IntKind.u64.wrap s.x.imm)),some (.int .i64 0),some (.int .i64 0)] mo f2.d f2.z f2.b (by kernel_rfl) ⟨b_g_40,b_g1,trivial⟩ (
     hk (fun cx=>cx.q (ex_mv rfl (cx.rq 0 s0_41))) <|
     hk (fun cx=>cx.q (ex_nc rfl (cx.u 0 rfl))) <|
     hk (fun cx=>cx.q (ex_fa rfl (cx.u 0 rfl) (faExH75_1_0 _ _))) <|
     hk (fun cx=>cx.q (ex_fa rfl (cx.u 0 rfl) (faExH26_0_22 _ _))) <|
     hk (fun cx=>cx.v (ex_ld rfl (cx.u 0 rfl) (rft cx 0 rfl (by kernel_rfl)) rfl Tryd.isAgg24) rfl (congrArg (Value.int .i8) hO)) <|
     hk (fun cx=>cx.v (ex_ia (n:=32) (sz:=1) rfl (cx.rq 3 u_g1) (cx.u 0 rfl) Tryd.underlying111 (by kernel_rfl) (by omega) (by omega) (by omega)) rfl rfl) <|
     hk (fun cx=>cx.q (ex_ld rfl (cx.u 0 rfl) (cx.rn 1 rfl) rfl Tryd.isAgg110)) <|
     hk (fun cx=>cx.q (ex_mv rfl (cx.rq 0 s0_41))) <|
     hc (fun _ _ wx cx=>cx.c rfl (args1 (cx.u 0 rfl)) Tryd.func85 (by decide +kernel) (operand_19 s g wx (cx.rf 0 rfl (by kernel_rfl)) hs hO) rfl rfl) <|
     hc (fun _ _ wx cx=>callTb cx (wn rfl) rfl (cx.u 0 rfl) (args1 (cx.u 1 rfl)) rfl Tryd.func76 (by decide +kernel) (shiftSigned_m s g (IntKind.u64.wrap s.x.imm) wx (cx.ri 0 rfl) hM hd (U64.wrap s.x.imm)) rfl rfl 0 rfl hV rfl ⟨(ne_row (f1.k hr) q_g1).symm,trivial⟩ rfl) <|
     kmu 0 <|
     hn) ?_
    intro a22 w22 f22
    have bt22:=But.step f22 bt2 f2.b ⟨.inr rfl,.inl rfl,trivial⟩
    refine wp_ret ?_
    try simp only [Exit.inBlock,Exit.then]
    refine bodyPost_ret (res_t (fn:=Tryd.f35) rfl (f22.v 10 rfl rfl rfl)) f22.d ?_
    exact RunT.yes bt22 (eff_19 _ _ hO) f22.rows.1
  · skip
    have b_g_42:=f2.k (f1.k hr)
    have s0_43:=f2.q 0 s0_1
    refine go_reg [⟨g,75,(exC s),some 9,(exC ((s.upF zF).upR s.x.dst.toNat (doI 6 s.x.w (s.m.r s.x.dst.toNat) (s.m.r 1))))⟩,bx g1 111 (fnC g)] [] [some (pt g 0),some (pt g 0),some (pt g 22),some (pt g 22),some (.int .i8 20),some (pt g1 20),some (.func (.func 74) #[.pointer (some ⟨g,0,none⟩)] #[]),some (pt g 0),some (.int .u64 (s.m.r 1)),some (.int .i64 0),some (.int .i64 0)] mo f2.d f2.z f2.b (by kernel_rfl) ⟨b_g_42,b_g1,trivial⟩ (
     hk (fun cx=>cx.q (ex_mv rfl (cx.rq 0 s0_43))) <|
     hk (fun cx=>cx.q (ex_nc rfl (cx.u 0 rfl))) <|
     hk (fun cx=>cx.q (ex_fa rfl (cx.u 0 rfl) (faExH75_1_0 _ _))) <|
     hk (fun cx=>cx.q (ex_fa rfl (cx.u 0 rfl) (faExH26_0_22 _ _))) <|
     hk (fun cx=>cx.v (ex_ld rfl (cx.u 0 rfl) (rft cx 0 rfl (by kernel_rfl)) rfl Tryd.isAgg24) rfl (congrArg (Value.int .i8) hO)) <|
     hk (fun cx=>cx.v (ex_ia (n:=32) (sz:=1) rfl (cx.rq 3 u_g1) (cx.u 0 rfl) Tryd.underlying111 (by kernel_rfl) (by omega) (by omega) (by omega)) rfl rfl) <|
     hk (fun cx=>cx.q (ex_ld rfl (cx.u 0 rfl) (cx.rn 1 rfl) rfl Tryd.isAgg110)) <|
     hk (fun cx=>cx.q (ex_mv rfl (cx.rq 0 s0_43))) <|
     hc (fun _ _ wx cx=>cx.c rfl (args1 (cx.u 0 rfl)) Tryd.func85 (by decide +kernel) (operand_20 s g wx (cx.rf 0 rfl (by kernel_rfl)) hs hO) rfl rfl) <|
     hc (fun _ _ wx cx=>callTb cx (wn rfl) rfl (cx.u 0 rfl) (args1 (cx.u 1 rfl)) rfl Tryd.func74 (by decide +kernel) (shiftLeft_m s g (s.m.r 1) wx (cx.ri 0 rfl) hM hd (hM.r 1)) rfl rfl 0 rfl hV rfl ⟨(ne_row (f1.k hr) q_g1).symm,trivial⟩ rfl) <|
     kmu 0 <|
     hn) ?_
    intro a23 w23 f23
    have bt23:=But.step f23 bt2 f2.b ⟨.inr rfl,.inl rfl,trivial⟩
    refine wp_ret ?_
    try simp only [Exit.inBlock,Exit.then]
    refine bodyPost_ret (res_t (fn:=Tryd.f35) rfl (f23.v 10 rfl rfl rfl)) f23.d ?_
    exact RunT.yes bt23 (eff_20 _ _ hO) f23.rows.1
  · skip
    have b_g_44:=f2.k (f1.k hr)
    have s0_45:=f2.q 0 s0_1
    refine go_reg [⟨g,75,(exC s),some 9,(exC ((s.upF zF).upR s.x.dst.toNat (doI 7 s.x.w (s.m.r s.x.dst.toNat) (s.m.r 1))))⟩,bx g1 111 (fnC g)] [] [some (pt g 0),some (pt g 0),some (pt g 22),some (pt g 22),some (.int .i8 21),some (pt g1 21),some (.func (.func 75) #[.pointer (some ⟨g,0,none⟩)] #[]),some (pt g 0),some (.int .u64 (s.m.r 1)),some (.int .i64 0),some (.int .i64 0)] mo f2.d f2.z f2.b (by kernel_rfl) ⟨b_g_44,b_g1,trivial⟩ (
     hk (fun cx=>cx.q (ex_mv rfl (cx.rq 0 s0_45))) <|
     hk (fun cx=>cx.q (ex_nc rfl (cx.u 0 rfl))) <|
     hk (fun cx=>cx.q (ex_fa rfl (cx.u 0 rfl) (faExH75_1_0 _ _))) <|
     hk (fun cx=>cx.q (ex_fa rfl (cx.u 0 rfl) (faExH26_0_22 _ _))) <|
     hk (fun cx=>cx.v (ex_ld rfl (cx.u 0 rfl) (rft cx 0 rfl (by kernel_rfl)) rfl Tryd.isAgg24) rfl (congrArg (Value.int .i8) hO)) <|
     hk (fun cx=>cx.v (ex_ia (n:=32) (sz:=1) rfl (cx.rq 3 u_g1) (cx.u 0 rfl) Tryd.underlying111 (by kernel_rfl) (by omega) (by omega) (by omega)) rfl rfl) <|
     hk (fun cx=>cx.q (ex_ld rfl (cx.u 0 rfl) (cx.rn 1 rfl) rfl Tryd.isAgg110)) <|
     hk (fun cx=>cx.q (ex_mv rfl (cx.rq 0 s0_45))) <|
     hc (fun _ _ wx cx=>cx.c rfl (args1 (cx.u 0 rfl)) Tryd.func85 (by decide +kernel) (operand_21 s g wx (cx.rf 0 rfl (by kernel_rfl)) hs hO) rfl rfl) <|
     hc (fun _ _ wx cx=>callTb cx (wn rfl) rfl (cx.u 0 rfl) (args1 (cx.u 1 rfl)) rfl Tryd.func75 (by decide +kernel) (shiftRight_m s g (s.m.r 1) wx (cx.ri 0 rfl) hM hd (hM.r 1)) rfl rfl 0 rfl hV rfl ⟨(ne_row (f1.k hr) q_g1).symm,trivial⟩ rfl) <|
     kmu 0 <|
     hn) ?_
    intro a24 w24 f24
    have bt24:=But.step f24 bt2 f2.b ⟨.inr rfl,.inl rfl,trivial⟩
    refine wp_ret ?_
    try simp only [Exit.inBlock,Exit.then]
    refine bodyPost_ret (res_t (fn:=Tryd.f35) rfl (f24.v 10 rfl rfl rfl)) f24.d ?_
    exact RunT.yes bt24 (eff_21 _ _ hO) f24.rows.1
  · skip
    have b_g_46:=f2.k (f1.k hr)
    have s0_47:=f2.q 0 s0_1
    refine go_reg [⟨g,75,(exC s),some 9,(exC ((s.upF zF).upR s.x.dst.toNat (doI 12 s.x.w (s.m.r s.x.dst.toNat) (s.m.r 1))))⟩,bx g1 111 (fnC g)] [] [some (pt g 0),some (pt g 0),some (pt g 22),some (pt g 22),some (.int .i8 22),some (pt g1 22),some (.func (.func 76) #[.pointer (some ⟨g,0,none⟩)] #[]),some (pt g 0),some (.int .u64 (s.m.r 1)),some (.int .i64 0),some (.int .i64 0)] mo f2.d f2.z f2.b (by kernel_rfl) ⟨b_g_46,b_g1,trivial⟩ (
     hk (fun cx=>cx.q (ex_mv rfl (cx.rq 0 s0_47))) <|
     hk (fun cx=>cx.q (ex_nc rfl (cx.u 0 rfl))) <|
     hk (fun cx=>cx.q (ex_fa rfl (cx.u 0 rfl) (faExH75_1_0 _ _))) <|
     hk (fun cx=>cx.q (ex_fa rfl (cx.u 0 rfl) (faExH26_0_22 _ _))) <|
     hk (fun cx=>cx.v (ex_ld rfl (cx.u 0 rfl) (rft cx 0 rfl (by kernel_rfl)) rfl Tryd.isAgg24) rfl (congrArg (Value.int .i8) hO)) <|
     hk (fun cx=>cx.v (ex_ia (n:=32) (sz:=1) rfl (cx.rq 3 u_g1) (cx.u 0 rfl) Tryd.underlying111 (by kernel_rfl) (by omega) (by omega) (by omega)) rfl rfl) <|
     hk (fun cx=>cx.q (ex_ld rfl (cx.u 0 rfl) (cx.rn 1 rfl) rfl Tryd.isAgg110)) <|
     hk (fun cx=>cx.q (ex_mv rfl (cx.rq 0 s0_47))) <|
     hc (fun _ _ wx cx=>cx.c rfl (args1 (cx.u 0 rfl)) Tryd.func85 (by decide +kernel) (operand_22 s g wx (cx.rf 0 rfl (by kernel_rfl)) hs hO) rfl rfl) <|
     hc (fun _ _ wx cx=>callTb cx (wn rfl) rfl (cx.u 0 rfl) (args1 (cx.u 1 rfl)) rfl Tryd.func76 (by decide +kernel) (shiftSigned_m s g (s.m.r 1) wx (cx.ri 0 rfl) hM hd (hM.r 1)) rfl rfl 0 rfl hV rfl ⟨(ne_row (f1.k hr) q_g1).symm,trivial⟩ rfl) <|
     kmu 0 <|
     hn) ?_
    intro a25 w25 f25
    have bt25:=But.step f25 bt2 f2.b ⟨.inr rfl,.inl rfl,trivial⟩
    refine wp_ret ?_
    try simp only [Exit.inBlock,Exit.then]
    refine bodyPost_ret (res_t (fn:=Tryd.f35) rfl (f25.v 10 rfl rfl rfl)) f25.d ?_
    exact RunT.yes bt25 (eff_22 _ _ hO) f25.rows.1
  · skip
    have b_g_48:=f2.k (f1.k hr)
    have s0_49:=f2.q 0 s0_1
    refine go_reg [⟨g,75,(exC s),some 9,(exC ((s.upF (subF s.x.w 0 (s.m.r s.x.dst.toNat))).upR s.x.dst.toNat (doI 8 s.x.w (s.m.r s.x.dst.toNat) 0)))⟩,bx g1 111 (fnC g)] [] [some (pt g 0),some (pt g 0),some (pt g 22),some (pt g 22),some (.int .i8 23),some (pt g1 23),some (.func (.func 77) #[.pointer (some ⟨g,0,none⟩)] #[]),some (pt g 0),some (.int .u64 (IntKind.u64.wrap s.x.imm)),some (.int .i64 0),some (.int .i64 0)] mo f2.d f2.z f2.b (by kernel_rfl) ⟨b_g_48,b_g1,trivial⟩ (
     hk (fun cx=>cx.q (ex_mv rfl (cx.rq 0 s0_49))) <|
     hk (fun cx=>cx.q (ex_nc rfl (cx.u 0 rfl))) <|
     hk (fun cx=>cx.q (ex_fa rfl (cx.u 0 rfl) (faExH75_1_0 _ _))) <|
     hk (fun cx=>cx.q (ex_fa rfl (cx.u 0 rfl) (faExH26_0_22 _ _))) <|
     hk (fun cx=>cx.v (ex_ld rfl (cx.u 0 rfl) (rft cx 0 rfl (by kernel_rfl)) rfl Tryd.isAgg24) rfl (congrArg (Value.int .i8) hO)) <|
     hk (fun cx=>cx.v (ex_ia (n:=32) (sz:=1) rfl (cx.rq 3 u_g1) (cx.u 0 rfl) Tryd.underlying111 (by kernel_rfl) (by omega) (by omega) (by omega)) rfl rfl) <|
     hk (fun cx=>cx.q (ex_ld rfl (cx.u 0 rfl) (cx.rn 1 rfl) rfl Tryd.isAgg110)) <|
     hk (fun cx=>cx.q (ex_mv rfl (cx.rq 0 s0_49))) <|
     hc (fun _ _ wx cx=>cx.c rfl (args1 (cx.u 0 rfl)) Tryd.func85 (by decide +kernel) (operand_23 s g wx (cx.rf 0 rfl (by kernel_rfl)) hs hO) rfl rfl) <|
     hc (fun _ _ wx cx=>callTb cx (wn rfl) rfl (cx.u 0 rfl) (args1 (cx.u 1 rfl)) rfl Tryd.func77 (by decide +kernel) (negate_m s g (IntKind.u64.wrap s.x.imm) wx (cx.ri 0 rfl) hM hd (U64.wrap s.x.imm)) rfl rfl 0 rfl hV rfl ⟨(ne_row (f1.k hr) q_g1).symm,trivial⟩ rfl) <|
     kmu 0 <|
     hn) ?_
    intro a26 w26 f26
    have bt26:=But.step f26 bt2 f2.b ⟨.inr rfl,.inl rfl,trivial⟩
    refine wp_ret ?_
    try simp only [Exit.inBlock,Exit.then]
    refine bodyPost_ret (res_t (fn:=Tryd.f35) rfl (f26.v 10 rfl rfl rfl)) f26.d ?_
    exact RunT.yes bt26 (eff_23 _ _ hO) f26.rows.1
  · skip
    cases h1:(cutI (s.m.r 2) s.x.w) != 0
    case true=>
      have b_g_50:=f2.k (f1.k hr)
      have s0_51:=f2.q 0 s0_1
      refine go_reg [⟨g,75,(exC s),some 9,(exC s)⟩,bx g1 111 (fnC g)] [] [some (pt g 0),some (pt g 0),some (pt g 22),some (pt g 22),some (.int .i8 24),some (pt g1 24),some (.func (.func 78) #[.pointer (some ⟨g,0,none⟩)] #[]),some (pt g 0),some (.int .u64 (IntKind.u64.wrap s.x.imm)),some (.int .i64 20),some (.int .i64 20)] mo f2.d f2.z f2.b (by kernel_rfl) ⟨b_g_50,b_g1,trivial⟩ (
       hk (fun cx=>cx.q (ex_mv rfl (cx.rq 0 s0_51))) <|
       hk (fun cx=>cx.q (ex_nc rfl (cx.u 0 rfl))) <|
       hk (fun cx=>cx.q (ex_fa rfl (cx.u 0 rfl) (faExH75_1_0 _ _))) <|
       hk (fun cx=>cx.q (ex_fa rfl (cx.u 0 rfl) (faExH26_0_22 _ _))) <|
       hk (fun cx=>cx.v (ex_ld rfl (cx.u 0 rfl) (rft cx 0 rfl (by kernel_rfl)) rfl Tryd.isAgg24) rfl (congrArg (Value.int .i8) hO)) <|
       hk (fun cx=>cx.v (ex_ia (n:=32) (sz:=1) rfl (cx.rq 3 u_g1) (cx.u 0 rfl) Tryd.underlying111 (by kernel_rfl) (by omega) (by omega) (by omega)) rfl rfl) <|
       hk (fun cx=>cx.q (ex_ld rfl (cx.u 0 rfl) (cx.rn 1 rfl) rfl Tryd.isAgg110)) <|
       hk (fun cx=>cx.q (ex_mv rfl (cx.rq 0 s0_51))) <|
       hc (fun _ _ wx cx=>cx.c rfl (args1 (cx.u 0 rfl)) Tryd.func85 (by decide +kernel) (operand_24 s g wx (cx.rf 0 rfl (by kernel_rfl)) hs hO) rfl rfl) <|
       hc (fun _ _ wx cx=>callTb cx (wn rfl) rfl (cx.u 0 rfl) (args1 (cx.u 1 rfl)) rfl Tryd.func78 (by decide +kernel) (divide_high s g (IntKind.u64.wrap s.x.imm) wx (cx.ri 0 rfl) hM hd h1) rfl rfl 0 rfl hV rfl ⟨(ne_row (f1.k hr) q_g1).symm,trivial⟩ rfl) <|
       kmu 0 <|
       hn) ?_
      intro a27 w27 f27
      have bt27:=But.step f27 bt2 f2.b ⟨.inr rfl,.inl rfl,trivial⟩
      refine wp_ret ?_
      try simp only [Exit.inBlock,Exit.then]
      refine bodyPost_ret (res_t (fn:=Tryd.f35) rfl (f27.v 10 rfl rfl rfl)) f27.d ?_
      exact RunT.no bt27 ((eff_24 _ _ hO).trans (by rw [divB_is,h1];rfl)) f27.rows.1
    cases h2:(cutI (s.m.r s.x.dst.toNat) s.x.w) == 0
    case true=>
      have b_g_52:=f2.k (f1.k hr)
      have s0_53:=f2.q 0 s0_1
      refine go_reg [⟨g,75,(exC s),some 9,(exC s)⟩,bx g1 111 (fnC g)] [] [some (pt g 0),some (pt g 0),some (pt g 22),some (pt g 22),some (.int .i8 24),some (pt g1 24),some (.func (.func 78) #[.pointer (some ⟨g,0,none⟩)] #[]),some (pt g 0),some (.int .u64 (IntKind.u64.wrap s.x.imm)),some (.int .i64 20),some (.int .i64 20)] mo f2.d f2.z f2.b (by kernel_rfl) ⟨b_g_52,b_g1,trivial⟩ (
       hk (fun cx=>cx.q (ex_mv rfl (cx.rq 0 s0_53))) <|
       hk (fun cx=>cx.q (ex_nc rfl (cx.u 0 rfl))) <|
       hk (fun cx=>cx.q (ex_fa rfl (cx.u 0 rfl) (faExH75_1_0 _ _))) <|
       hk (fun cx=>cx.q (ex_fa rfl (cx.u 0 rfl) (faExH26_0_22 _ _))) <|
       hk (fun cx=>cx.v (ex_ld rfl (cx.u 0 rfl) (rft cx 0 rfl (by kernel_rfl)) rfl Tryd.isAgg24) rfl (congrArg (Value.int .i8) hO)) <|
       hk (fun cx=>cx.v (ex_ia (n:=32) (sz:=1) rfl (cx.rq 3 u_g1) (cx.u 0 rfl) Tryd.underlying111 (by kernel_rfl) (by omega) (by omega) (by omega)) rfl rfl) <|
       hk (fun cx=>cx.q (ex_ld rfl (cx.u 0 rfl) (cx.rn 1 rfl) rfl Tryd.isAgg110)) <|
       hk (fun cx=>cx.q (ex_mv rfl (cx.rq 0 s0_53))) <|
       hc (fun _ _ wx cx=>cx.c rfl (args1 (cx.u 0 rfl)) Tryd.func85 (by decide +kernel) (operand_24 s g wx (cx.rf 0 rfl (by kernel_rfl)) hs hO) rfl rfl) <|
       hc (fun _ _ wx cx=>callTb cx (wn rfl) rfl (cx.u 0 rfl) (args1 (cx.u 1 rfl)) rfl Tryd.func78 (by decide +kernel) (divide_zero s g (IntKind.u64.wrap s.x.imm) wx (cx.ri 0 rfl) hM hd h1 h2) rfl rfl 0 rfl hV rfl ⟨(ne_row (f1.k hr) q_g1).symm,trivial⟩ rfl) <|
       kmu 0 <|
       hn) ?_
      intro a28 w28 f28
      have bt28:=But.step f28 bt2 f2.b ⟨.inr rfl,.inl rfl,trivial⟩
      refine wp_ret ?_
      try simp only [Exit.inBlock,Exit.then]
      refine bodyPost_ret (res_t (fn:=Tryd.f35) rfl (f28.v 10 rfl rfl rfl)) f28.d ?_
      exact RunT.no bt28 ((eff_24 _ _ hO).trans (by rw [divB_is,h1,h2];rfl)) f28.rows.1
    have b_g_54:=f2.k (f1.k hr)
    have s0_55:=f2.q 0 s0_1
    refine go_reg [⟨g,75,(exC s),some 9,(exC (((s.upR 0 (doI 3 s.x.w (s.m.r 0) (s.m.r s.x.dst.toNat))).upR 2 (doI 9 s.x.w (s.m.r 0) (s.m.r s.x.dst.toNat))).upF zF))⟩,bx g1 111 (fnC g)] [] [some (pt g 0),some (pt g 0),some (pt g 22),some (pt g 22),some (.int .i8 24),some (pt g1 24),some (.func (.func 78) #[.pointer (some ⟨g,0,none⟩)] #[]),some (pt g 0),some (.int .u64 (IntKind.u64.wrap s.x.imm)),some (.int .i64 0),some (.int .i64 0)] mo f2.d f2.z f2.b (by kernel_rfl) ⟨b_g_54,b_g1,trivial⟩ (
     hk (fun cx=>cx.q (ex_mv rfl (cx.rq 0 s0_55))) <|
     hk (fun cx=>cx.q (ex_nc rfl (cx.u 0 rfl))) <|
     hk (fun cx=>cx.q (ex_fa rfl (cx.u 0 rfl) (faExH75_1_0 _ _))) <|
     hk (fun cx=>cx.q (ex_fa rfl (cx.u 0 rfl) (faExH26_0_22 _ _))) <|
     hk (fun cx=>cx.v (ex_ld rfl (cx.u 0 rfl) (rft cx 0 rfl (by kernel_rfl)) rfl Tryd.isAgg24) rfl (congrArg (Value.int .i8) hO)) <|
     hk (fun cx=>cx.v (ex_ia (n:=32) (sz:=1) rfl (cx.rq 3 u_g1) (cx.u 0 rfl) Tryd.underlying111 (by kernel_rfl) (by omega) (by omega) (by omega)) rfl rfl) <|
     hk (fun cx=>cx.q (ex_ld rfl (cx.u 0 rfl) (cx.rn 1 rfl) rfl Tryd.isAgg110)) <|
     hk (fun cx=>cx.q (ex_mv rfl (cx.rq 0 s0_55))) <|
     hc (fun _ _ wx cx=>cx.c rfl (args1 (cx.u 0 rfl)) Tryd.func85 (by decide +kernel) (operand_24 s g wx (cx.rf 0 rfl (by kernel_rfl)) hs hO) rfl rfl) <|
     hc (fun _ _ wx cx=>callTb cx (wn rfl) rfl (cx.u 0 rfl) (args1 (cx.u 1 rfl)) rfl Tryd.func78 (by decide +kernel) (divide_ok s g (IntKind.u64.wrap s.x.imm) wx (cx.ri 0 rfl) hM hd h1 h2) rfl rfl 0 rfl hV rfl ⟨(ne_row (f1.k hr) q_g1).symm,trivial⟩ rfl) <|
     kmu 0 <|
     hn) ?_
    intro a29 w29 f29
    have bt29:=But.step f29 bt2 f2.b ⟨.inr rfl,.inl rfl,trivial⟩
    refine wp_ret ?_
    try simp only [Exit.inBlock,Exit.then]
    refine bodyPost_ret (res_t (fn:=Tryd.f35) rfl (f29.v 10 rfl rfl rfl)) f29.d ?_
    exact RunT.yes bt29 ((eff_24 _ _ hO).trans (by rw [divB_is,h1,h2];rfl)) f29.rows.1
  · skip
    cases eK:s.m.f.k
    case false=>
      have b_g_56:=f2.k (f1.k hr)
      have s0_57:=f2.q 0 s0_1
      refine go_reg [⟨g,75,(exC s),some 9,(exC s)⟩,bx g1 111 (fnC g)] [] [some (pt g 0),some (pt g 0),some (pt g 22),some (pt g 22),some (.int .i8 25),some (pt g1 25),some (.func (.func 79) #[.pointer (some ⟨g,0,none⟩)] #[]),some (pt g 0),some (.int .u64 (s.m.r s.x.src.toNat)),some (.int .i64 20),some (.int .i64 20)] mo f2.d f2.z f2.b (by kernel_rfl) ⟨b_g_56,b_g1,trivial⟩ (
       hk (fun cx=>cx.q (ex_mv rfl (cx.rq 0 s0_57))) <|
       hk (fun cx=>cx.q (ex_nc rfl (cx.u 0 rfl))) <|
       hk (fun cx=>cx.q (ex_fa rfl (cx.u 0 rfl) (faExH75_1_0 _ _))) <|
       hk (fun cx=>cx.q (ex_fa rfl (cx.u 0 rfl) (faExH26_0_22 _ _))) <|
       hk (fun cx=>cx.v (ex_ld rfl (cx.u 0 rfl) (rft cx 0 rfl (by kernel_rfl)) rfl Tryd.isAgg24) rfl (congrArg (Value.int .i8) hO)) <|
       hk (fun cx=>cx.v (ex_ia (n:=32) (sz:=1) rfl (cx.rq 3 u_g1) (cx.u 0 rfl) Tryd.underlying111 (by kernel_rfl) (by omega) (by omega) (by omega)) rfl rfl) <|
       hk (fun cx=>cx.q (ex_ld rfl (cx.u 0 rfl) (cx.rn 1 rfl) rfl Tryd.isAgg110)) <|
       hk (fun cx=>cx.q (ex_mv rfl (cx.rq 0 s0_57))) <|
       hc (fun _ _ wx cx=>cx.c rfl (args1 (cx.u 0 rfl)) Tryd.func85 (by decide +kernel) (operand_25 s g wx (cx.rf 0 rfl (by kernel_rfl)) hs hO) rfl rfl) <|
       hc (fun _ _ wx cx=>callTb cx (wn rfl) rfl (cx.u 0 rfl) (args1 (cx.u 1 rfl)) rfl Tryd.func79 (by decide +kernel) (moveIf_bad s g (s.m.r s.x.src.toNat) wx (cx.ri 0 rfl) hd eK (hcy (.inl hO))) rfl rfl 0 rfl hV rfl ⟨(ne_row (f1.k hr) q_g1).symm,trivial⟩ rfl) <|
       kmu 0 <|
       hn) ?_
      intro a30 w30 f30
      have bt30:=But.step f30 bt2 f2.b ⟨.inr rfl,.inl rfl,trivial⟩
      refine wp_ret ?_
      try simp only [Exit.inBlock,Exit.then]
      refine bodyPost_ret (res_t (fn:=Tryd.f35) rfl (f30.v 10 rfl rfl rfl)) f30.d ?_
      exact RunT.no bt30 ((eff_25 _ _ hO).trans (by rw [eK];rfl)) f30.rows.1
    cases hh:holF s.x.cc s.m.f
    case false=>
      have b_g_58:=f2.k (f1.k hr)
      have s0_59:=f2.q 0 s0_1
      refine go_reg [⟨g,75,(exC s),some 9,(exC (s.upR s.x.dst.toNat (cutI (s.m.r s.x.dst.toNat) s.x.w)))⟩,bx g1 111 (fnC g)] [] [some (pt g 0),some (pt g 0),some (pt g 22),some (pt g 22),some (.int .i8 25),some (pt g1 25),some (.func (.func 79) #[.pointer (some ⟨g,0,none⟩)] #[]),some (pt g 0),some (.int .u64 (s.m.r s.x.src.toNat)),some (.int .i64 0),some (.int .i64 0)] mo f2.d f2.z f2.b (by kernel_rfl) ⟨b_g_58,b_g1,trivial⟩ (
       hk (fun cx=>cx.q (ex_mv rfl (cx.rq 0 s0_59))) <|
       hk (fun cx=>cx.q (ex_nc rfl (cx.u 0 rfl))) <|
       hk (fun cx=>cx.q (ex_fa rfl (cx.u 0 rfl) (faExH75_1_0 _ _))) <|
       hk (fun cx=>cx.q (ex_fa rfl (cx.u 0 rfl) (faExH26_0_22 _ _))) <|
       hk (fun cx=>cx.v (ex_ld rfl (cx.u 0 rfl) (rft cx 0 rfl (by kernel_rfl)) rfl Tryd.isAgg24) rfl (congrArg (Value.int .i8) hO)) <|
       hk (fun cx=>cx.v (ex_ia (n:=32) (sz:=1) rfl (cx.rq 3 u_g1) (cx.u 0 rfl) Tryd.underlying111 (by kernel_rfl) (by omega) (by omega) (by omega)) rfl rfl) <|
       hk (fun cx=>cx.q (ex_ld rfl (cx.u 0 rfl) (cx.rn 1 rfl) rfl Tryd.isAgg110)) <|
       hk (fun cx=>cx.q (ex_mv rfl (cx.rq 0 s0_59))) <|
       hc (fun _ _ wx cx=>cx.c rfl (args1 (cx.u 0 rfl)) Tryd.func85 (by decide +kernel) (operand_25 s g wx (cx.rf 0 rfl (by kernel_rfl)) hs hO) rfl rfl) <|
       hc (fun _ _ wx cx=>callTb cx (wn rfl) rfl (cx.u 0 rfl) (args1 (cx.u 1 rfl)) rfl Tryd.func79 (by decide +kernel) (moveIf_no s g (s.m.r s.x.src.toNat) wx (cx.ri 0 rfl) hd eK (hcy (.inl hO)) hh) rfl rfl 0 rfl hV rfl ⟨(ne_row (f1.k hr) q_g1).symm,trivial⟩ rfl) <|
       kmu 0 <|
       hn) ?_
      intro a31 w31 f31
      have bt31:=But.step f31 bt2 f2.b ⟨.inr rfl,.inl rfl,trivial⟩
      refine wp_ret ?_
      try simp only [Exit.inBlock,Exit.then]
      refine bodyPost_ret (res_t (fn:=Tryd.f35) rfl (f31.v 10 rfl rfl rfl)) f31.d ?_
      exact RunT.yes bt31 ((eff_25 _ _ hO).trans (by rw [eK];unfold cmvM;rw [hh];rfl)) f31.rows.1
    have b_g_60:=f2.k (f1.k hr)
    have s0_61:=f2.q 0 s0_1
    refine go_reg [⟨g,75,(exC s),some 9,(exC (s.upR s.x.dst.toNat (cutI (s.m.r s.x.src.toNat) s.x.w)))⟩,bx g1 111 (fnC g)] [] [some (pt g 0),some (pt g 0),some (pt g 22),some (pt g 22),some (.int .i8 25),some (pt g1 25),some (.func (.func 79) #[.pointer (some ⟨g,0,none⟩)] #[]),some (pt g 0),some (.int .u64 (s.m.r s.x.src.toNat)),some (.int .i64 0),some (.int .i64 0)] mo f2.d f2.z f2.b (by kernel_rfl) ⟨b_g_60,b_g1,trivial⟩ (
     hk (fun cx=>cx.q (ex_mv rfl (cx.rq 0 s0_61))) <|
     hk (fun cx=>cx.q (ex_nc rfl (cx.u 0 rfl))) <|
     hk (fun cx=>cx.q (ex_fa rfl (cx.u 0 rfl) (faExH75_1_0 _ _))) <|
     hk (fun cx=>cx.q (ex_fa rfl (cx.u 0 rfl) (faExH26_0_22 _ _))) <|
     hk (fun cx=>cx.v (ex_ld rfl (cx.u 0 rfl) (rft cx 0 rfl (by kernel_rfl)) rfl Tryd.isAgg24) rfl (congrArg (Value.int .i8) hO)) <|
     hk (fun cx=>cx.v (ex_ia (n:=32) (sz:=1) rfl (cx.rq 3 u_g1) (cx.u 0 rfl) Tryd.underlying111 (by kernel_rfl) (by omega) (by omega) (by omega)) rfl rfl) <|
     hk (fun cx=>cx.q (ex_ld rfl (cx.u 0 rfl) (cx.rn 1 rfl) rfl Tryd.isAgg110)) <|
     hk (fun cx=>cx.q (ex_mv rfl (cx.rq 0 s0_61))) <|
     hc (fun _ _ wx cx=>cx.c rfl (args1 (cx.u 0 rfl)) Tryd.func85 (by decide +kernel) (operand_25 s g wx (cx.rf 0 rfl (by kernel_rfl)) hs hO) rfl rfl) <|
     hc (fun _ _ wx cx=>callTb cx (wn rfl) rfl (cx.u 0 rfl) (args1 (cx.u 1 rfl)) rfl Tryd.func79 (by decide +kernel) (moveIf_yes s g (s.m.r s.x.src.toNat) wx (cx.ri 0 rfl) hd eK (hcy (.inl hO)) hh) rfl rfl 0 rfl hV rfl ⟨(ne_row (f1.k hr) q_g1).symm,trivial⟩ rfl) <|
     kmu 0 <|
     hn) ?_
    intro a32 w32 f32
    have bt32:=But.step f32 bt2 f2.b ⟨.inr rfl,.inl rfl,trivial⟩
    refine wp_ret ?_
    try simp only [Exit.inBlock,Exit.then]
    refine bodyPost_ret (res_t (fn:=Tryd.f35) rfl (f32.v 10 rfl rfl rfl)) f32.d ?_
    exact RunT.yes bt32 ((eff_25 _ _ hO).trans (by rw [eK];unfold cmvM;rw [hh];rfl)) f32.rows.1
  · skip
    have b_g_62:=f2.k (f1.k hr)
    have s0_63:=f2.q 0 s0_1
    refine go_reg [⟨g,75,(exC s),some 9,(exC (s.upR s.x.dst.toNat (cutI s.l s.x.w)))⟩,bx g1 111 (fnC g)] [] [some (pt g 0),some (pt g 0),some (pt g 22),some (pt g 22),some (.int .i8 26),some (pt g1 26),some (.func (.func 65) #[.pointer (some ⟨g,0,none⟩)] #[]),some (pt g 0),some (.int .u64 s.l),some (.int .i64 0),some (.int .i64 0)] mo f2.d f2.z f2.b (by kernel_rfl) ⟨b_g_62,b_g1,trivial⟩ (
     hk (fun cx=>cx.q (ex_mv rfl (cx.rq 0 s0_63))) <|
     hk (fun cx=>cx.q (ex_nc rfl (cx.u 0 rfl))) <|
     hk (fun cx=>cx.q (ex_fa rfl (cx.u 0 rfl) (faExH75_1_0 _ _))) <|
     hk (fun cx=>cx.q (ex_fa rfl (cx.u 0 rfl) (faExH26_0_22 _ _))) <|
     hk (fun cx=>cx.v (ex_ld rfl (cx.u 0 rfl) (rft cx 0 rfl (by kernel_rfl)) rfl Tryd.isAgg24) rfl (congrArg (Value.int .i8) hO)) <|
     hk (fun cx=>cx.v (ex_ia (n:=32) (sz:=1) rfl (cx.rq 3 u_g1) (cx.u 0 rfl) Tryd.underlying111 (by kernel_rfl) (by omega) (by omega) (by omega)) rfl rfl) <|
     hk (fun cx=>cx.q (ex_ld rfl (cx.u 0 rfl) (cx.rn 1 rfl) rfl Tryd.isAgg110)) <|
     hk (fun cx=>cx.q (ex_mv rfl (cx.rq 0 s0_63))) <|
     hc (fun _ _ wx cx=>cx.c rfl (args1 (cx.u 0 rfl)) Tryd.func85 (by decide +kernel) (operand_26 s g wx (cx.rf 0 rfl (by kernel_rfl)) hs hO) rfl rfl) <|
     hc (fun _ _ wx cx=>callTb cx (wn rfl) rfl (cx.u 0 rfl) (args1 (cx.u 1 rfl)) rfl Tryd.func65 (by decide +kernel) (move_m s g s.l wx (cx.ri 0 rfl) hd) rfl rfl 0 rfl hV rfl ⟨(ne_row (f1.k hr) q_g1).symm,trivial⟩ rfl) <|
     kmu 0 <|
     hn) ?_
    intro a33 w33 f33
    have bt33:=But.step f33 bt2 f2.b ⟨.inr rfl,.inl rfl,trivial⟩
    refine wp_ret ?_
    try simp only [Exit.inBlock,Exit.then]
    refine bodyPost_ret (res_t (fn:=Tryd.f35) rfl (f33.v 10 rfl rfl rfl)) f33.d ?_
    exact RunT.yes bt33 (eff_26 _ _ hO) f33.rows.1
  · skip
    have b_g_64:=f2.k (f1.k hr)
    have s0_65:=f2.q 0 s0_1
    refine go_reg [⟨g,75,(exC s),some 9,(exC s)⟩,bx g1 111 (fnC g)] [] [some (pt g 0),some (pt g 0),some (pt g 22),some (pt g 22),some (.int .i8 27),some (pt g1 27),some (.func (.func 80) #[.pointer (some ⟨g,0,none⟩)] #[]),some (pt g 0),some (.int .u64 (IntKind.u64.wrap s.x.imm)),some (.int .i64 0),some (.int .i64 0)] mo f2.d f2.z f2.b (by kernel_rfl) ⟨b_g_64,b_g1,trivial⟩ (
     hk (fun cx=>cx.q (ex_mv rfl (cx.rq 0 s0_65))) <|
     hk (fun cx=>cx.q (ex_nc rfl (cx.u 0 rfl))) <|
     hk (fun cx=>cx.q (ex_fa rfl (cx.u 0 rfl) (faExH75_1_0 _ _))) <|
     hk (fun cx=>cx.q (ex_fa rfl (cx.u 0 rfl) (faExH26_0_22 _ _))) <|
     hk (fun cx=>cx.v (ex_ld rfl (cx.u 0 rfl) (rft cx 0 rfl (by kernel_rfl)) rfl Tryd.isAgg24) rfl (congrArg (Value.int .i8) hO)) <|
     hk (fun cx=>cx.v (ex_ia (n:=32) (sz:=1) rfl (cx.rq 3 u_g1) (cx.u 0 rfl) Tryd.underlying111 (by kernel_rfl) (by omega) (by omega) (by omega)) rfl rfl) <|
     hk (fun cx=>cx.q (ex_ld rfl (cx.u 0 rfl) (cx.rn 1 rfl) rfl Tryd.isAgg110)) <|
     hk (fun cx=>cx.q (ex_mv rfl (cx.rq 0 s0_65))) <|
     hc (fun _ _ wx cx=>cx.c rfl (args1 (cx.u 0 rfl)) Tryd.func85 (by decide +kernel) (operand_27 s g wx (cx.rf 0 rfl (by kernel_rfl)) hs hO) rfl rfl) <|
     hc (fun _ _ wx cx=>callTb cx (wn rfl) rfl (cx.u 0 rfl) (args1 (cx.u 1 rfl)) rfl Tryd.func80 (by decide +kernel) (leave_m s g (IntKind.u64.wrap s.x.imm) wx (cx.ri 0 rfl) ) rfl rfl 0 rfl hV rfl ⟨(ne_row (f1.k hr) q_g1).symm,trivial⟩ rfl) <|
     kmu 0 <|
     hn) ?_
    intro a34 w34 f34
    have bt34:=But.step f34 bt2 f2.b ⟨.inr rfl,.inl rfl,trivial⟩
    refine wp_ret ?_
    try simp only [Exit.inBlock,Exit.then]
    refine bodyPost_ret (res_t (fn:=Tryd.f35) rfl (f34.v 10 rfl rfl rfl)) f34.d ?_
    exact RunT.yes bt34 (eff_27 _ _ hO) f34.rows.1
  · skip
    have b_g_66:=f2.k (f1.k hr)
    have s0_67:=f2.q 0 s0_1
    refine go_reg [⟨g,75,(exC s),some 9,(exC (s.upA (IntKind.u64.wrap (s.m.a + (IntKind.u64.wrap s.x.imm)))))⟩,bx g1 111 (fnC g)] [] [some (pt g 0),some (pt g 0),some (pt g 22),some (pt g 22),some (.int .i8 28),some (pt g1 28),some (.func (.func 81) #[.pointer (some ⟨g,0,none⟩)] #[]),some (pt g 0),some (.int .u64 (IntKind.u64.wrap s.x.imm)),some (.int .i64 0),some (.int .i64 0)] mo f2.d f2.z f2.b (by kernel_rfl) ⟨b_g_66,b_g1,trivial⟩ (
     hk (fun cx=>cx.q (ex_mv rfl (cx.rq 0 s0_67))) <|
     hk (fun cx=>cx.q (ex_nc rfl (cx.u 0 rfl))) <|
     hk (fun cx=>cx.q (ex_fa rfl (cx.u 0 rfl) (faExH75_1_0 _ _))) <|
     hk (fun cx=>cx.q (ex_fa rfl (cx.u 0 rfl) (faExH26_0_22 _ _))) <|
     hk (fun cx=>cx.v (ex_ld rfl (cx.u 0 rfl) (rft cx 0 rfl (by kernel_rfl)) rfl Tryd.isAgg24) rfl (congrArg (Value.int .i8) hO)) <|
     hk (fun cx=>cx.v (ex_ia (n:=32) (sz:=1) rfl (cx.rq 3 u_g1) (cx.u 0 rfl) Tryd.underlying111 (by kernel_rfl) (by omega) (by omega) (by omega)) rfl rfl) <|
     hk (fun cx=>cx.q (ex_ld rfl (cx.u 0 rfl) (cx.rn 1 rfl) rfl Tryd.isAgg110)) <|
     hk (fun cx=>cx.q (ex_mv rfl (cx.rq 0 s0_67))) <|
     hc (fun _ _ wx cx=>cx.c rfl (args1 (cx.u 0 rfl)) Tryd.func85 (by decide +kernel) (operand_28 s g wx (cx.rf 0 rfl (by kernel_rfl)) hs hO) rfl rfl) <|
     hc (fun _ _ wx cx=>callTb cx (wn rfl) rfl (cx.u 0 rfl) (args1 (cx.u 1 rfl)) rfl Tryd.func81 (by decide +kernel) (jump_m s g (IntKind.u64.wrap s.x.imm) wx (cx.ri 0 rfl) ) rfl rfl 0 rfl hV rfl ⟨(ne_row (f1.k hr) q_g1).symm,trivial⟩ rfl) <|
     kmu 0 <|
     hn) ?_
    intro a35 w35 f35
    have bt35:=But.step f35 bt2 f2.b ⟨.inr rfl,.inl rfl,trivial⟩
    refine wp_ret ?_
    try simp only [Exit.inBlock,Exit.then]
    refine bodyPost_ret (res_t (fn:=Tryd.f35) rfl (f35.v 10 rfl rfl rfl)) f35.d ?_
    exact RunT.yes bt35 (eff_28 _ _ hO) f35.rows.1
  · skip
    cases eK:s.m.f.k
    case false=>
      have b_g_68:=f2.k (f1.k hr)
      have s0_69:=f2.q 0 s0_1
      refine go_reg [⟨g,75,(exC s),some 9,(exC s)⟩,bx g1 111 (fnC g)] [] [some (pt g 0),some (pt g 0),some (pt g 22),some (pt g 22),some (.int .i8 29),some (pt g1 29),some (.func (.func 82) #[.pointer (some ⟨g,0,none⟩)] #[]),some (pt g 0),some (.int .u64 (IntKind.u64.wrap s.x.imm)),some (.int .i64 20),some (.int .i64 20)] mo f2.d f2.z f2.b (by kernel_rfl) ⟨b_g_68,b_g1,trivial⟩ (
       hk (fun cx=>cx.q (ex_mv rfl (cx.rq 0 s0_69))) <|
       hk (fun cx=>cx.q (ex_nc rfl (cx.u 0 rfl))) <|
       hk (fun cx=>cx.q (ex_fa rfl (cx.u 0 rfl) (faExH75_1_0 _ _))) <|
       hk (fun cx=>cx.q (ex_fa rfl (cx.u 0 rfl) (faExH26_0_22 _ _))) <|
       hk (fun cx=>cx.v (ex_ld rfl (cx.u 0 rfl) (rft cx 0 rfl (by kernel_rfl)) rfl Tryd.isAgg24) rfl (congrArg (Value.int .i8) hO)) <|
       hk (fun cx=>cx.v (ex_ia (n:=32) (sz:=1) rfl (cx.rq 3 u_g1) (cx.u 0 rfl) Tryd.underlying111 (by kernel_rfl) (by omega) (by omega) (by omega)) rfl rfl) <|
       hk (fun cx=>cx.q (ex_ld rfl (cx.u 0 rfl) (cx.rn 1 rfl) rfl Tryd.isAgg110)) <|
       hk (fun cx=>cx.q (ex_mv rfl (cx.rq 0 s0_69))) <|
       hc (fun _ _ wx cx=>cx.c rfl (args1 (cx.u 0 rfl)) Tryd.func85 (by decide +kernel) (operand_29 s g wx (cx.rf 0 rfl (by kernel_rfl)) hs hO) rfl rfl) <|
       hc (fun _ _ wx cx=>callTb cx (wn rfl) rfl (cx.u 0 rfl) (args1 (cx.u 1 rfl)) rfl Tryd.func82 (by decide +kernel) (jumpIf_bad s g (IntKind.u64.wrap s.x.imm) wx (cx.ri 0 rfl) eK (hcy (.inr hO))) rfl rfl 0 rfl hV rfl ⟨(ne_row (f1.k hr) q_g1).symm,trivial⟩ rfl) <|
       kmu 0 <|
       hn) ?_
      intro a36 w36 f36
      have bt36:=But.step f36 bt2 f2.b ⟨.inr rfl,.inl rfl,trivial⟩
      refine wp_ret ?_
      try simp only [Exit.inBlock,Exit.then]
      refine bodyPost_ret (res_t (fn:=Tryd.f35) rfl (f36.v 10 rfl rfl rfl)) f36.d ?_
      exact RunT.no bt36 ((eff_29 _ _ hO).trans (by rw [eK];rfl)) f36.rows.1
    cases hh:holF s.x.cc s.m.f
    case false=>
      have b_g_70:=f2.k (f1.k hr)
      have s0_71:=f2.q 0 s0_1
      refine go_reg [⟨g,75,(exC s),some 9,(exC s)⟩,bx g1 111 (fnC g)] [] [some (pt g 0),some (pt g 0),some (pt g 22),some (pt g 22),some (.int .i8 29),some (pt g1 29),some (.func (.func 82) #[.pointer (some ⟨g,0,none⟩)] #[]),some (pt g 0),some (.int .u64 (IntKind.u64.wrap s.x.imm)),some (.int .i64 0),some (.int .i64 0)] mo f2.d f2.z f2.b (by kernel_rfl) ⟨b_g_70,b_g1,trivial⟩ (
       hk (fun cx=>cx.q (ex_mv rfl (cx.rq 0 s0_71))) <|
       hk (fun cx=>cx.q (ex_nc rfl (cx.u 0 rfl))) <|
       hk (fun cx=>cx.q (ex_fa rfl (cx.u 0 rfl) (faExH75_1_0 _ _))) <|
       hk (fun cx=>cx.q (ex_fa rfl (cx.u 0 rfl) (faExH26_0_22 _ _))) <|
       hk (fun cx=>cx.v (ex_ld rfl (cx.u 0 rfl) (rft cx 0 rfl (by kernel_rfl)) rfl Tryd.isAgg24) rfl (congrArg (Value.int .i8) hO)) <|
       hk (fun cx=>cx.v (ex_ia (n:=32) (sz:=1) rfl (cx.rq 3 u_g1) (cx.u 0 rfl) Tryd.underlying111 (by kernel_rfl) (by omega) (by omega) (by omega)) rfl rfl) <|
       hk (fun cx=>cx.q (ex_ld rfl (cx.u 0 rfl) (cx.rn 1 rfl) rfl Tryd.isAgg110)) <|
       hk (fun cx=>cx.q (ex_mv rfl (cx.rq 0 s0_71))) <|
       hc (fun _ _ wx cx=>cx.c rfl (args1 (cx.u 0 rfl)) Tryd.func85 (by decide +kernel) (operand_29 s g wx (cx.rf 0 rfl (by kernel_rfl)) hs hO) rfl rfl) <|
       hc (fun _ _ wx cx=>callTb cx (wn rfl) rfl (cx.u 0 rfl) (args1 (cx.u 1 rfl)) rfl Tryd.func82 (by decide +kernel) (jumpIf_no s g (IntKind.u64.wrap s.x.imm) wx (cx.ri 0 rfl) eK (hcy (.inr hO)) hh) rfl rfl 0 rfl hV rfl ⟨(ne_row (f1.k hr) q_g1).symm,trivial⟩ rfl) <|
       kmu 0 <|
       hn) ?_
      intro a37 w37 f37
      have bt37:=But.step f37 bt2 f2.b ⟨.inr rfl,.inl rfl,trivial⟩
      refine wp_ret ?_
      try simp only [Exit.inBlock,Exit.then]
      refine bodyPost_ret (res_t (fn:=Tryd.f35) rfl (f37.v 10 rfl rfl rfl)) f37.d ?_
      exact RunT.yes bt37 ((eff_29 _ _ hO).trans (by rw [eK];unfold jccM;rw [hh];rfl)) f37.rows.1
    have b_g_72:=f2.k (f1.k hr)
    have s0_73:=f2.q 0 s0_1
    refine go_reg [⟨g,75,(exC s),some 9,(exC (s.upA (IntKind.u64.wrap (s.m.a + (IntKind.u64.wrap s.x.imm)))))⟩,bx g1 111 (fnC g)] [] [some (pt g 0),some (pt g 0),some (pt g 22),some (pt g 22),some (.int .i8 29),some (pt g1 29),some (.func (.func 82) #[.pointer (some ⟨g,0,none⟩)] #[]),some (pt g 0),some (.int .u64 (IntKind.u64.wrap s.x.imm)),some (.int .i64 0),some (.int .i64 0)] mo f2.d f2.z f2.b (by kernel_rfl) ⟨b_g_72,b_g1,trivial⟩ (
     hk (fun cx=>cx.q (ex_mv rfl (cx.rq 0 s0_73))) <|
     hk (fun cx=>cx.q (ex_nc rfl (cx.u 0 rfl))) <|
     hk (fun cx=>cx.q (ex_fa rfl (cx.u 0 rfl) (faExH75_1_0 _ _))) <|
     hk (fun cx=>cx.q (ex_fa rfl (cx.u 0 rfl) (faExH26_0_22 _ _))) <|
     hk (fun cx=>cx.v (ex_ld rfl (cx.u 0 rfl) (rft cx 0 rfl (by kernel_rfl)) rfl Tryd.isAgg24) rfl (congrArg (Value.int .i8) hO)) <|
     hk (fun cx=>cx.v (ex_ia (n:=32) (sz:=1) rfl (cx.rq 3 u_g1) (cx.u 0 rfl) Tryd.underlying111 (by kernel_rfl) (by omega) (by omega) (by omega)) rfl rfl) <|
     hk (fun cx=>cx.q (ex_ld rfl (cx.u 0 rfl) (cx.rn 1 rfl) rfl Tryd.isAgg110)) <|
     hk (fun cx=>cx.q (ex_mv rfl (cx.rq 0 s0_73))) <|
     hc (fun _ _ wx cx=>cx.c rfl (args1 (cx.u 0 rfl)) Tryd.func85 (by decide +kernel) (operand_29 s g wx (cx.rf 0 rfl (by kernel_rfl)) hs hO) rfl rfl) <|
     hc (fun _ _ wx cx=>callTb cx (wn rfl) rfl (cx.u 0 rfl) (args1 (cx.u 1 rfl)) rfl Tryd.func82 (by decide +kernel) (jumpIf_yes s g (IntKind.u64.wrap s.x.imm) wx (cx.ri 0 rfl) eK (hcy (.inr hO)) hh) rfl rfl 0 rfl hV rfl ⟨(ne_row (f1.k hr) q_g1).symm,trivial⟩ rfl) <|
     kmu 0 <|
     hn) ?_
    intro a38 w38 f38
    have bt38:=But.step f38 bt2 f2.b ⟨.inr rfl,.inl rfl,trivial⟩
    refine wp_ret ?_
    try simp only [Exit.inBlock,Exit.then]
    refine bodyPost_ret (res_t (fn:=Tryd.f35) rfl (f38.v 10 rfl rfl rfl)) f38.d ?_
    exact RunT.yes bt38 ((eff_29 _ _ hO).trans (by rw [eK];unfold jccM;rw [hh];rfl)) f38.rows.1
  · skip
    have b_g_74:=f2.k (f1.k hr)
    have s0_75:=f2.q 0 s0_1
    refine go_reg [⟨g,75,(exC s),some 9,(exC ((s.upA s.l).upR 4 (IntKind.u64.wrap (s.m.r 4 + 8))))⟩,bx g1 111 (fnC g)] [] [some (pt g 0),some (pt g 0),some (pt g 22),some (pt g 22),some (.int .i8 30),some (pt g1 30),some (.func (.func 83) #[.pointer (some ⟨g,0,none⟩)] #[]),some (pt g 0),some (.int .u64 s.l),some (.int .i64 0),some (.int .i64 0)] mo f2.d f2.z f2.b (by kernel_rfl) ⟨b_g_74,b_g1,trivial⟩ (
     hk (fun cx=>cx.q (ex_mv rfl (cx.rq 0 s0_75))) <|
     hk (fun cx=>cx.q (ex_nc rfl (cx.u 0 rfl))) <|
     hk (fun cx=>cx.q (ex_fa rfl (cx.u 0 rfl) (faExH75_1_0 _ _))) <|
     hk (fun cx=>cx.q (ex_fa rfl (cx.u 0 rfl) (faExH26_0_22 _ _))) <|
     hk (fun cx=>cx.v (ex_ld rfl (cx.u 0 rfl) (rft cx 0 rfl (by kernel_rfl)) rfl Tryd.isAgg24) rfl (congrArg (Value.int .i8) hO)) <|
     hk (fun cx=>cx.v (ex_ia (n:=32) (sz:=1) rfl (cx.rq 3 u_g1) (cx.u 0 rfl) Tryd.underlying111 (by kernel_rfl) (by omega) (by omega) (by omega)) rfl rfl) <|
     hk (fun cx=>cx.q (ex_ld rfl (cx.u 0 rfl) (cx.rn 1 rfl) rfl Tryd.isAgg110)) <|
     hk (fun cx=>cx.q (ex_mv rfl (cx.rq 0 s0_75))) <|
     hc (fun _ _ wx cx=>cx.c rfl (args1 (cx.u 0 rfl)) Tryd.func85 (by decide +kernel) (operand_30 s g wx (cx.rf 0 rfl (by kernel_rfl)) hs hO) rfl rfl) <|
     hc (fun _ _ wx cx=>callTb cx (wn rfl) rfl (cx.u 0 rfl) (args1 (cx.u 1 rfl)) rfl Tryd.func83 (by decide +kernel) (comeBack_m s g s.l wx (cx.ri 0 rfl) ) rfl rfl 0 rfl hV rfl ⟨(ne_row (f1.k hr) q_g1).symm,trivial⟩ rfl) <|
     kmu 0 <|
     hn) ?_
    intro a39 w39 f39
    have bt39:=But.step f39 bt2 f2.b ⟨.inr rfl,.inl rfl,trivial⟩
    refine wp_ret ?_
    try simp only [Exit.inBlock,Exit.then]
    refine bodyPost_ret (res_t (fn:=Tryd.f35) rfl (f39.v 10 rfl rfl rfl)) f39.d ?_
    exact RunT.yes bt39 (eff_30 _ _ hO) f39.rows.1
  · skip
    have b_g_76:=f2.k (f1.k hr)
    have s0_77:=f2.q 0 s0_1
    refine go_reg [⟨g,75,(exC s),some 9,(exC (((s.upR 0 s.l).upR 1 0).upR 11 0))⟩,bx g1 111 (fnC g)] [] [some (pt g 0),some (pt g 0),some (pt g 22),some (pt g 22),some (.int .i8 31),some (pt g1 31),some (.func (.func 84) #[.pointer (some ⟨g,0,none⟩)] #[]),some (pt g 0),some (.int .u64 s.l),some (.int .i64 0),some (.int .i64 0)] mo f2.d f2.z f2.b (by kernel_rfl) ⟨b_g_76,b_g1,trivial⟩ (
     hk (fun cx=>cx.q (ex_mv rfl (cx.rq 0 s0_77))) <|
     hk (fun cx=>cx.q (ex_nc rfl (cx.u 0 rfl))) <|
     hk (fun cx=>cx.q (ex_fa rfl (cx.u 0 rfl) (faExH75_1_0 _ _))) <|
     hk (fun cx=>cx.q (ex_fa rfl (cx.u 0 rfl) (faExH26_0_22 _ _))) <|
     hk (fun cx=>cx.v (ex_ld rfl (cx.u 0 rfl) (rft cx 0 rfl (by kernel_rfl)) rfl Tryd.isAgg24) rfl (congrArg (Value.int .i8) hO)) <|
     hk (fun cx=>cx.v (ex_ia (n:=32) (sz:=1) rfl (cx.rq 3 u_g1) (cx.u 0 rfl) Tryd.underlying111 (by kernel_rfl) (by omega) (by omega) (by omega)) rfl rfl) <|
     hk (fun cx=>cx.q (ex_ld rfl (cx.u 0 rfl) (cx.rn 1 rfl) rfl Tryd.isAgg110)) <|
     hk (fun cx=>cx.q (ex_mv rfl (cx.rq 0 s0_77))) <|
     hc (fun _ _ wx cx=>cx.c rfl (args1 (cx.u 0 rfl)) Tryd.func85 (by decide +kernel) (operand_31 s g wx (cx.rf 0 rfl (by kernel_rfl)) hs hO) rfl rfl) <|
     hc (fun _ _ wx cx=>callTb cx (wn rfl) rfl (cx.u 0 rfl) (args1 (cx.u 1 rfl)) rfl Tryd.func84 (by decide +kernel) (answer_m s g s.l wx (cx.ri 0 rfl) ) rfl rfl 0 rfl hV rfl ⟨(ne_row (f1.k hr) q_g1).symm,trivial⟩ rfl) <|
     kmu 0 <|
     hn) ?_
    intro a40 w40 f40
    have bt40:=But.step f40 bt2 f2.b ⟨.inr rfl,.inl rfl,trivial⟩
    refine wp_ret ?_
    try simp only [Exit.inBlock,Exit.then]
    refine bodyPost_ret (res_t (fn:=Tryd.f35) rfl (f40.v 10 rfl rfl rfl)) f40.d ?_
    exact RunT.yes bt40 (eff_31 _ _ hO) f40.rows.1
end Go.Proofs.YtoghjpliemidkaaDoor.Exe
