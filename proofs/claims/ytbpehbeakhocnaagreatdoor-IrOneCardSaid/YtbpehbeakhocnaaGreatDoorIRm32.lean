import Derived.Test.YtbpehbeakhocnaaGreatDoorIRm31
set_option maxHeartbeats 8000000
set_option linter.unusedVariables false
set_option linter.unusedSimpArgs false
set_option linter.unnecessarySimpa false
namespace Go.Proofs.YtbpehbeakhocnaaGreatDoor.Exe
open Go Go.RowKit
open Mrm (Xi xC zX mayX bytesX)
open Flg (Fl fC zF addF subF ofF holF holE mayC)
set_option maxRecDepth 100000
theorem faExH75_1_0 (g:Nat) (w:World):(Instr.fieldAt 65 (.pointer (some ⟨g,0,none⟩)) 1).run Tryz.prog w=.ok (.pointer (some ⟨g,22,none⟩)) w:=by simp [go_sem]
theorem faExH26_0_22 (g:Nat) (w:World):(Instr.fieldAt 38 (.pointer (some ⟨g,22,none⟩)) 0).run Tryz.prog w=.ok (.pointer (some ⟨g,22,none⟩)) w:=by simp [go_sem]
def fnC (g:Nat):Array Value:=#[.func (.func 73) #[.pointer (some ⟨g,0,none⟩)] #[],.func (.func 73) #[.pointer (some ⟨g,0,none⟩)] #[],.func (.func 74) #[.pointer (some ⟨g,0,none⟩)] #[],.func (.func 75) #[.pointer (some ⟨g,0,none⟩)] #[],.func (.func 76) #[.pointer (some ⟨g,0,none⟩)] #[],.func (.func 77) #[.pointer (some ⟨g,0,none⟩)] #[],.func (.func 78) #[.pointer (some ⟨g,0,none⟩)] #[],.func (.func 79) #[.pointer (some ⟨g,0,none⟩)] #[],.func (.func 80) #[.pointer (some ⟨g,0,none⟩)] #[],.func (.func 74) #[.pointer (some ⟨g,0,none⟩)] #[],.func (.func 75) #[.pointer (some ⟨g,0,none⟩)] #[],.func (.func 76) #[.pointer (some ⟨g,0,none⟩)] #[],.func (.func 77) #[.pointer (some ⟨g,0,none⟩)] #[],.func (.func 78) #[.pointer (some ⟨g,0,none⟩)] #[],.func (.func 79) #[.pointer (some ⟨g,0,none⟩)] #[],.func (.func 80) #[.pointer (some ⟨g,0,none⟩)] #[],.func (.func 81) #[.pointer (some ⟨g,0,none⟩)] #[],.func (.func 82) #[.pointer (some ⟨g,0,none⟩)] #[],.func (.func 83) #[.pointer (some ⟨g,0,none⟩)] #[],.func (.func 84) #[.pointer (some ⟨g,0,none⟩)] #[],.func (.func 82) #[.pointer (some ⟨g,0,none⟩)] #[],.func (.func 83) #[.pointer (some ⟨g,0,none⟩)] #[],.func (.func 84) #[.pointer (some ⟨g,0,none⟩)] #[],.func (.func 85) #[.pointer (some ⟨g,0,none⟩)] #[],.func (.func 86) #[.pointer (some ⟨g,0,none⟩)] #[],.func (.func 87) #[.pointer (some ⟨g,0,none⟩)] #[],.func (.func 73) #[.pointer (some ⟨g,0,none⟩)] #[],.func (.func 88) #[.pointer (some ⟨g,0,none⟩)] #[],.func (.func 89) #[.pointer (some ⟨g,0,none⟩)] #[],.func (.func 90) #[.pointer (some ⟨g,0,none⟩)] #[],.func (.func 91) #[.pointer (some ⟨g,0,none⟩)] #[],.func (.func 92) #[.pointer (some ⟨g,0,none⟩)] #[]]
def fzC (n:Nat):Array Value:=#[.nilFunc,.nilFunc,.nilFunc,.nilFunc,.nilFunc,.nilFunc,.nilFunc,.nilFunc,.nilFunc,.nilFunc,.nilFunc,.nilFunc,.nilFunc,.nilFunc,.nilFunc,.nilFunc,.nilFunc,.nilFunc,.nilFunc,.nilFunc,.nilFunc,.nilFunc,.nilFunc,.nilFunc,.nilFunc,.nilFunc,.nilFunc,.nilFunc,.nilFunc,.nilFunc,.nilFunc,.nilFunc]
theorem parts32 {ρ:Operand → Value} {x0 x1 x2 x3 x4 x5 x6 x7 x8 x9 x10 x11 x12 x13 x14 x15 x16 x17 x18 x19 x20 x21 x22 x23 x24 x25 x26 x27 x28 x29 x30 x31:Operand} {v0 v1 v2 v3 v4 v5 v6 v7 v8 v9 v10 v11 v12 v13 v14 v15 v16 v17 v18 v19 v20 v21 v22 v23 v24 v25 v26 v27 v28 v29 v30 v31:Value} (h0:ρ x0=v0) (h1:ρ x1=v1) (h2:ρ x2=v2) (h3:ρ x3=v3) (h4:ρ x4=v4) (h5:ρ x5=v5) (h6:ρ x6=v6) (h7:ρ x7=v7) (h8:ρ x8=v8) (h9:ρ x9=v9) (h10:ρ x10=v10) (h11:ρ x11=v11) (h12:ρ x12=v12) (h13:ρ x13=v13) (h14:ρ x14=v14) (h15:ρ x15=v15) (h16:ρ x16=v16) (h17:ρ x17=v17) (h18:ρ x18=v18) (h19:ρ x19=v19) (h20:ρ x20=v20) (h21:ρ x21=v21) (h22:ρ x22=v22) (h23:ρ x23=v23) (h24:ρ x24=v24) (h25:ρ x25=v25) (h26:ρ x26=v26) (h27:ρ x27=v27) (h28:ρ x28=v28) (h29:ρ x29=v29) (h30:ρ x30=v30) (h31:ρ x31=v31):(#[(0,x0),(1,x1),(2,x2),(3,x3),(4,x4),(5,x5),(6,x6),(7,x7),(8,x8),(9,x9),(10,x10),(11,x11),(12,x12),(13,x13),(14,x14),(15,x15),(16,x16),(17,x17),(18,x18),(19,x19),(20,x20),(21,x21),(22,x22),(23,x23),(24,x24),(25,x25),(26,x26),(27,x27),(28,x28),(29,x29),(30,x30),(31,x31)]:Array (Nat × Operand)).map (fun p=>(p.1,ρ p.2))=#[(0,v0),(1,v1),(2,v2),(3,v3),(4,v4),(5,v5),(6,v6),(7,v7),(8,v8),(9,v9),(10,v10),(11,v11),(12,v12),(13,v13),(14,v14),(15,v15),(16,v16),(17,v17),(18,v18),(19,v19),(20,v20),(21,v21),(22,v22),(23,v23),(24,v24),(25,v25),(26,v26),(27,v27),(28,v28),(29,v29),(30,v30),(31,v31)]:=by simp [h0,h1,h2,h3,h4,h5,h6,h7,h8,h9,h10,h11,h12,h13,h14,h15,h16,h17,h18,h19,h20,h21,h22,h23,h24,h25,h26,h27,h28,h29,h30,h31]
theorem fnC_one (g:Nat):(fnC g).all (·.oneCell')=true:=by kernel_rfl
section
variable {ρ:Operand → Value} {o:Oper} {w:World} {x:Operand}
theorem al_fn (ho:o.op=.alloc 89):(execOp ρ o).run Tryz.prog w=.ok (.value (.pointer (some ⟨w.heap.size,0,none⟩))) (w.alloc (.cells (fzC 0) 89)):=by
  simp [execOp,ho,go_sem]
  rfl
theorem ex_mf {P:Program} {f:Fn} {v:Value} (ho:o.op=.makeFunc f #[x] #[]) (hx:ρ x=v):(execOp ρ o).run P w=.ok (.value (.func f #[v] #[])) w:=by
  simp [execOp,ho,hx,Instr.makeFunc,go_sem]
end
def RunT (s:Ex) (g:Nat) (W:World):Ending → World → Prop:=fun e w'=>But g W w' ∧ match effX s.m s.x s.l with
  | some m=>e=.returned (.int .i64 0) ∧ w'.heap[g]?=some (.cells (exC ⟨m,s.x,s.l⟩) 65 (0,0))
  | none=>e=.returned (.int .i64 20) ∧ w'.heap[g]?=some (.cells (exC s) 65 (0,0))
theorem RunT.yes {s:Ex} {g:Nat} {W w':World} {m:Mc} (b:But g W w') (E:effX s.m s.x s.l=some m) (r:w'.heap[g]?=some (.cells (exC ⟨m,s.x,s.l⟩) 65 (0,0))):RunT s g W (.returned (.int .i64 0)) w':=by
  refine ⟨b,?_⟩
  rw [E]
  exact ⟨rfl,r⟩
theorem RunT.no {s:Ex} {g:Nat} {W w':World} (b:But g W w') (E:effX s.m s.x s.l=none) (r:w'.heap[g]?=some (.cells (exC s) 65 (0,0))):RunT s g W (.returned (.int .i64 20)) w':=by
  refine ⟨b,?_⟩
  rw [E]
  exact ⟨rfl,r⟩
theorem divB_is (m:Mc) (x:Xi):divB m x=(!((cutI (m.r 2) x.w) != 0) && !((cutI (m.r x.dst.toNat) x.w) == 0)):=by unfold divB bne;simp
theorem run_n (s:Ex) (g:Nat) (W:World) (hr:W.heap[g]?=some (.cells (exC s) 65 (0,0))) (hM:MOk s.m) (hl:U64 s.l) (hd:0 ≤ s.x.dst ∧ s.x.dst < 16) (hs:0 ≤ s.x.src ∧ s.x.src < 16) (hop:0 ≤ s.x.op ∧ s.x.op < 32) (hcy:s.x.op=25 ∨ s.x.op=29 → mayC s.x.cc=true):Calls Tryz.prog 38 #[.pointer (some ⟨g,0,none⟩)] W (RunT s g W):=by
  refine calls_abs Tryz.func38 rfl (Nat.le_of_ble_eq_true rfl) ?_
  intro a0 d0 z0 h0
  replace z0:a0.tmps.size=79:=z0
  have s0_0:a0.tmps.getD 0 undef=.pointer (some ⟨g,0,none⟩):=h0 0 (Nat.le_of_ble_eq_true rfl)
  have hB0:=cutW_below W g
  have hV:=cutW_size hr
  have bt0:=But.refl g W
  refine wp_seq ?_
  refine go_reg [] [] [some (.int .i64 0)] mo d0 z0 hB0 (by kernel_rfl) trivial (
   hk (fun cx=>cx.q (ex_as rfl rfl)) <|
   hn) ?_
  intro a1 w1 f1
  have bt1:=But.step f1 bt0 hB0 trivial
  refine wp_seq ?_
  have s0_1:=f1.q 0 s0_0
  refine go_reg [] [⟨65,3,89,(fzC 0),some 66,(fnC g)⟩] (tabs [some (pt g 0),some (.func (.func 73) #[.pointer (some ⟨g,0,none⟩)] #[]),some (pt g 0),some (.func (.func 73) #[.pointer (some ⟨g,0,none⟩)] #[]),some (pt g 0),some (.func (.func 74) #[.pointer (some ⟨g,0,none⟩)] #[]),some (pt g 0),some (.func (.func 75) #[.pointer (some ⟨g,0,none⟩)] #[]),some (pt g 0),some (.func (.func 76) #[.pointer (some ⟨g,0,none⟩)] #[]),some (pt g 0),some (.func (.func 77) #[.pointer (some ⟨g,0,none⟩)] #[]),some (pt g 0),some (.func (.func 78) #[.pointer (some ⟨g,0,none⟩)] #[]),some (pt g 0),some (.func (.func 79) #[.pointer (some ⟨g,0,none⟩)] #[]),some (pt g 0),some (.func (.func 80) #[.pointer (some ⟨g,0,none⟩)] #[]),some (pt g 0),some (.func (.func 74) #[.pointer (some ⟨g,0,none⟩)] #[])] (tabs [some (pt g 0),some (.func (.func 75) #[.pointer (some ⟨g,0,none⟩)] #[]),some (pt g 0),some (.func (.func 76) #[.pointer (some ⟨g,0,none⟩)] #[]),some (pt g 0),some (.func (.func 77) #[.pointer (some ⟨g,0,none⟩)] #[]),some (pt g 0),some (.func (.func 78) #[.pointer (some ⟨g,0,none⟩)] #[]),some (pt g 0),some (.func (.func 79) #[.pointer (some ⟨g,0,none⟩)] #[]),some (pt g 0),some (.func (.func 80) #[.pointer (some ⟨g,0,none⟩)] #[]),some (pt g 0),some (.func (.func 81) #[.pointer (some ⟨g,0,none⟩)] #[]),some (pt g 0),some (.func (.func 82) #[.pointer (some ⟨g,0,none⟩)] #[]),some (pt g 0),some (.func (.func 83) #[.pointer (some ⟨g,0,none⟩)] #[]),some (pt g 0),some (.func (.func 84) #[.pointer (some ⟨g,0,none⟩)] #[])] (tabs [some (pt g 0),some (.func (.func 82) #[.pointer (some ⟨g,0,none⟩)] #[]),some (pt g 0),some (.func (.func 83) #[.pointer (some ⟨g,0,none⟩)] #[]),some (pt g 0),some (.func (.func 84) #[.pointer (some ⟨g,0,none⟩)] #[]),some (pt g 0),some (.func (.func 85) #[.pointer (some ⟨g,0,none⟩)] #[]),some (pt g 0),some (.func (.func 86) #[.pointer (some ⟨g,0,none⟩)] #[]),some (pt g 0),some (.func (.func 87) #[.pointer (some ⟨g,0,none⟩)] #[]),some (pt g 0),some (.func (.func 73) #[.pointer (some ⟨g,0,none⟩)] #[]),some (pt g 0),some (.func (.func 88) #[.pointer (some ⟨g,0,none⟩)] #[]),some (pt g 0),some (.func (.func 89) #[.pointer (some ⟨g,0,none⟩)] #[]),some (pt g 0),some (.func (.func 90) #[.pointer (some ⟨g,0,none⟩)] #[])] [some (pt g 0),some (.func (.func 91) #[.pointer (some ⟨g,0,none⟩)] #[]),some (pt g 0),some (.func (.func 92) #[.pointer (some ⟨g,0,none⟩)] #[]),some (.agg (fnC g)),none,none]))) mo f1.d f1.z f1.b (by kernel_rfl) trivial (
   hk (fun cx=>cx.q (ex_mv rfl (cx.rq 0 s0_1))) <|
   hk (fun cx=>cx.q (ex_mf rfl (cx.u 0 rfl))) <|
   hk (fun cx=>cx.q (ex_mv rfl (cx.rq 0 s0_1))) <|
   hk (fun cx=>cx.q (ex_mf rfl (cx.u 0 rfl))) <|
   hk (fun cx=>cx.q (ex_mv rfl (cx.rq 0 s0_1))) <|
   hk (fun cx=>cx.q (ex_mf rfl (cx.u 0 rfl))) <|
   hk (fun cx=>cx.q (ex_mv rfl (cx.rq 0 s0_1))) <|
   hk (fun cx=>cx.q (ex_mf rfl (cx.u 0 rfl))) <|
   hk (fun cx=>cx.q (ex_mv rfl (cx.rq 0 s0_1))) <|
   hk (fun cx=>cx.q (ex_mf rfl (cx.u 0 rfl))) <|
   hk (fun cx=>cx.q (ex_mv rfl (cx.rq 0 s0_1))) <|
   hk (fun cx=>cx.q (ex_mf rfl (cx.u 0 rfl))) <|
   hk (fun cx=>cx.q (ex_mv rfl (cx.rq 0 s0_1))) <|
   hk (fun cx=>cx.q (ex_mf rfl (cx.u 0 rfl))) <|
   hk (fun cx=>cx.q (ex_mv rfl (cx.rq 0 s0_1))) <|
   hk (fun cx=>cx.q (ex_mf rfl (cx.u 0 rfl))) <|
   hk (fun cx=>cx.q (ex_mv rfl (cx.rq 0 s0_1))) <|
   hk (fun cx=>cx.q (ex_mf rfl (cx.u 0 rfl))) <|
   hk (fun cx=>cx.q (ex_mv rfl (cx.rq 0 s0_1))) <|
   hk (fun cx=>cx.q (ex_mf rfl (cx.u 0 rfl))) <|
   hk (fun cx=>cx.q (ex_mv rfl (cx.rq 0 s0_1))) <|
   hk (fun cx=>cx.q (ex_mf rfl (cx.u 0 rfl))) <|
   hk (fun cx=>cx.q (ex_mv rfl (cx.rq 0 s0_1))) <|
   hk (fun cx=>cx.q (ex_mf rfl (cx.u 0 rfl))) <|
   hk (fun cx=>cx.q (ex_mv rfl (cx.rq 0 s0_1))) <|
   hk (fun cx=>cx.q (ex_mf rfl (cx.u 0 rfl))) <|
   hk (fun cx=>cx.q (ex_mv rfl (cx.rq 0 s0_1))) <|
   hk (fun cx=>cx.q (ex_mf rfl (cx.u 0 rfl))) <|
   hk (fun cx=>cx.q (ex_mv rfl (cx.rq 0 s0_1))) <|
   hk (fun cx=>cx.q (ex_mf rfl (cx.u 0 rfl))) <|
   hk (fun cx=>cx.q (ex_mv rfl (cx.rq 0 s0_1))) <|
   hk (fun cx=>cx.q (ex_mf rfl (cx.u 0 rfl))) <|
   hk (fun cx=>cx.q (ex_mv rfl (cx.rq 0 s0_1))) <|
   hk (fun cx=>cx.q (ex_mf rfl (cx.u 0 rfl))) <|
   hk (fun cx=>cx.q (ex_mv rfl (cx.rq 0 s0_1))) <|
   hk (fun cx=>cx.q (ex_mf rfl (cx.u 0 rfl))) <|
   hk (fun cx=>cx.q (ex_mv rfl (cx.rq 0 s0_1))) <|
   hk (fun cx=>cx.q (ex_mf rfl (cx.u 0 rfl))) <|
   hk (fun cx=>cx.q (ex_mv rfl (cx.rq 0 s0_1))) <|
   hk (fun cx=>cx.q (ex_mf rfl (cx.u 0 rfl))) <|
   hk (fun cx=>cx.q (ex_mv rfl (cx.rq 0 s0_1))) <|
   hk (fun cx=>cx.q (ex_mf rfl (cx.u 0 rfl))) <|
   hk (fun cx=>cx.q (ex_mv rfl (cx.rq 0 s0_1))) <|
   hk (fun cx=>cx.q (ex_mf rfl (cx.u 0 rfl))) <|
   hk (fun cx=>cx.q (ex_mv rfl (cx.rq 0 s0_1))) <|
   hk (fun cx=>cx.q (ex_mf rfl (cx.u 0 rfl))) <|
   hk (fun cx=>cx.q (ex_mv rfl (cx.rq 0 s0_1))) <|
   hk (fun cx=>cx.q (ex_mf rfl (cx.u 0 rfl))) <|
   hk (fun cx=>cx.q (ex_mv rfl (cx.rq 0 s0_1))) <|
   hk (fun cx=>cx.q (ex_mf rfl (cx.u 0 rfl))) <|
   hk (fun cx=>cx.q (ex_mv rfl (cx.rq 0 s0_1))) <|
   hk (fun cx=>cx.q (ex_mf rfl (cx.u 0 rfl))) <|
   hk (fun cx=>cx.q (ex_mv rfl (cx.rq 0 s0_1))) <|
   hk (fun cx=>cx.q (ex_mf rfl (cx.u 0 rfl))) <|
   hk (fun cx=>cx.q (ex_mv rfl (cx.rq 0 s0_1))) <|
   hk (fun cx=>cx.q (ex_mf rfl (cx.u 0 rfl))) <|
   hk (fun cx=>cx.q (ex_mv rfl (cx.rq 0 s0_1))) <|
   hk (fun cx=>cx.q (ex_mf rfl (cx.u 0 rfl))) <|
   hk (fun cx=>cx.q (ex_mv rfl (cx.rq 0 s0_1))) <|
   hk (fun cx=>cx.q (ex_mf rfl (cx.u 0 rfl))) <|
   hk (fun cx=>cx.q (ex_mv rfl (cx.rq 0 s0_1))) <|
   hk (fun cx=>cx.q (ex_mf rfl (cx.u 0 rfl))) <|
   hk (fun cx=>cx.q (ex_mv rfl (cx.rq 0 s0_1))) <|
   hk (fun cx=>cx.q (ex_mf rfl (cx.u 0 rfl))) <|
   hk (fun cx=>cx.q (exec_build rfl (parts32 (cx.u 0 rfl) (cx.u 1 rfl) (cx.u 2 rfl) (cx.u 3 rfl) (cx.u 4 rfl) (cx.u 5 rfl) (cx.u 6 rfl) (cx.u 7 rfl) (cx.u 8 rfl) (cx.u 9 rfl) (cx.u 10 rfl) (cx.u 11 rfl) (cx.u 12 rfl) (cx.u 13 rfl) (cx.u 14 rfl) (cx.u 15 rfl) (cx.u 16 rfl) (cx.u 17 rfl) (cx.u 18 rfl) (cx.u 19 rfl) (cx.u 20 rfl) (cx.u 21 rfl) (cx.u 22 rfl) (cx.u 23 rfl) (cx.u 24 rfl) (cx.u 25 rfl) (cx.u 26 rfl) (cx.u 27 rfl) (cx.u 28 rfl) (cx.u 29 rfl) (cx.u 30 rfl) (cx.u 31 rfl)) (by kernel_rfl))) <|
   hk (fun cx=>cx.al (wn rfl) 0 rfl (al_fn rfl) rfl rfl rfl rfl (by kernel_rfl) trivial) <|
   hk (fun cx=>cx.stA (wn rfl) rfl rfl 0 0 rfl rfl rfl rfl (cx.u 1 rfl) (by kernel_rfl) (Eq.refl 32) (fnC_one _) f1.b.size rfl rfl trivial) <|
   hn) ?_
  intro a2 w2 f2
  obtain ⟨g1,u_g1,q_g1,b_g1⟩:=f2.al.1
  have bt2:=But.step f2 bt1 f1.b trivial
  refine wp_seq ?_
  obtain ⟨k,V,F,fn,R,s',hO,hk32,hOp,hF,hfn,hok,hC,hE⟩:∃ (k:Nat) (V:Int) (F:FuncId) (fn:Func) (R:Int) (s':Ex),s.x.op=(k:Int) ∧ k < 32 ∧ (∀ wx,wx.heap[g]?=some (.cells (exC s) 65 (0,0)) → Calls Tryz.prog 93 #[.pointer (some ⟨g,0,none⟩)] wx fun e w'=>e=.returned (.int .u64 V) ∧ Below wx.heap.size wx w') ∧ (fnC g)[k]?=some (.func (.func F) #[.pointer (some ⟨g,0,none⟩)] #[]) ∧ Tryz.prog.funcs[F]?=some fn ∧ okF fn=true ∧ (∀ wx,wx.heap[g]?=some (.cells (exC s) 65 (0,0)) → Calls Tryz.prog F #[.pointer (some ⟨g,0,none⟩),.int .u64 V] wx (RetT (.int .i64 R) (exC s') 65 g wx)) ∧ (∀ w',But g W w' → w'.heap[g]?=some (.cells (exC s') 65 (0,0)) → RunT s g W (.returned (.int .i64 R)) w'):=by
    clear bt0 bt1 bt2
    rcases Mrm.lt32 hop with hO | hO | hO | hO | hO | hO | hO | hO | hO | hO | hO | hO | hO | hO | hO | hO | hO | hO | hO | hO | hO | hO | hO | hO | hO | hO | hO | hO | hO | hO | hO | hO
    · skip
      exact ⟨0,_,_,_,_,_,hO,by decide,fun wx r=>operand_0 s g wx r hs hO,rfl,Tryz.func73,by decide +kernel,fun wx r=>move_m s g (s.m.r s.x.src.toNat) wx r hd,fun w' b r=>RunT.yes b (eff_0 _ _ hO) r⟩
    · skip
      exact ⟨1,_,_,_,_,_,hO,by decide,fun wx r=>operand_1 s g wx r hs hO,rfl,Tryz.func73,by decide +kernel,fun wx r=>move_m s g (IntKind.u64.wrap s.x.imm) wx r hd,fun w' b r=>RunT.yes b (eff_1 _ _ hO) r⟩
    · skip
      exact ⟨2,_,_,_,_,_,hO,by decide,fun wx r=>operand_2 s g wx r hs hO,rfl,Tryz.func74,by decide +kernel,fun wx r=>add_m s g (s.m.r s.x.src.toNat) wx r hM hd (hM.r s.x.src.toNat),fun w' b r=>RunT.yes b (eff_2 _ _ hO) r⟩
    · skip
      exact ⟨3,_,_,_,_,_,hO,by decide,fun wx r=>operand_3 s g wx r hs hO,rfl,Tryz.func75,by decide +kernel,fun wx r=>or_m s g (s.m.r s.x.src.toNat) wx r hM hd (hM.r s.x.src.toNat),fun w' b r=>RunT.yes b (eff_3 _ _ hO) r⟩
    · skip
      exact ⟨4,_,_,_,_,_,hO,by decide,fun wx r=>operand_4 s g wx r hs hO,rfl,Tryz.func76,by decide +kernel,fun wx r=>and_m s g (s.m.r s.x.src.toNat) wx r hM hd (hM.r s.x.src.toNat),fun w' b r=>RunT.yes b (eff_4 _ _ hO) r⟩
    · skip
      exact ⟨5,_,_,_,_,_,hO,by decide,fun wx r=>operand_5 s g wx r hs hO,rfl,Tryz.func77,by decide +kernel,fun wx r=>subtract_m s g (s.m.r s.x.src.toNat) wx r hM hd (hM.r s.x.src.toNat),fun w' b r=>RunT.yes b (eff_5 _ _ hO) r⟩
    · skip
      exact ⟨6,_,_,_,_,_,hO,by decide,fun wx r=>operand_6 s g wx r hs hO,rfl,Tryz.func78,by decide +kernel,fun wx r=>xor_m s g (s.m.r s.x.src.toNat) wx r hM hd (hM.r s.x.src.toNat),fun w' b r=>RunT.yes b (eff_6 _ _ hO) r⟩
    · skip
      exact ⟨7,_,_,_,_,_,hO,by decide,fun wx r=>operand_7 s g wx r hs hO,rfl,Tryz.func79,by decide +kernel,fun wx r=>compare_m s g (s.m.r s.x.src.toNat) wx r hM hd (hM.r s.x.src.toNat),fun w' b r=>RunT.yes b (eff_7 _ _ hO) r⟩
    · skip
      exact ⟨8,_,_,_,_,_,hO,by decide,fun wx r=>operand_8 s g wx r hs hO,rfl,Tryz.func80,by decide +kernel,fun wx r=>test_m s g (s.m.r s.x.src.toNat) wx r hM hd (hM.r s.x.src.toNat),fun w' b r=>RunT.yes b (eff_8 _ _ hO) r⟩
    · skip
      exact ⟨9,_,_,_,_,_,hO,by decide,fun wx r=>operand_9 s g wx r hs hO,rfl,Tryz.func74,by decide +kernel,fun wx r=>add_m s g (IntKind.u64.wrap s.x.imm) wx r hM hd (U64.wrap s.x.imm),fun w' b r=>RunT.yes b (eff_9 _ _ hO) r⟩
    · skip
      exact ⟨10,_,_,_,_,_,hO,by decide,fun wx r=>operand_10 s g wx r hs hO,rfl,Tryz.func75,by decide +kernel,fun wx r=>or_m s g (IntKind.u64.wrap s.x.imm) wx r hM hd (U64.wrap s.x.imm),fun w' b r=>RunT.yes b (eff_10 _ _ hO) r⟩
    · skip
      exact ⟨11,_,_,_,_,_,hO,by decide,fun wx r=>operand_11 s g wx r hs hO,rfl,Tryz.func76,by decide +kernel,fun wx r=>and_m s g (IntKind.u64.wrap s.x.imm) wx r hM hd (U64.wrap s.x.imm),fun w' b r=>RunT.yes b (eff_11 _ _ hO) r⟩
    · skip
      exact ⟨12,_,_,_,_,_,hO,by decide,fun wx r=>operand_12 s g wx r hs hO,rfl,Tryz.func77,by decide +kernel,fun wx r=>subtract_m s g (IntKind.u64.wrap s.x.imm) wx r hM hd (U64.wrap s.x.imm),fun w' b r=>RunT.yes b (eff_12 _ _ hO) r⟩
    · skip
      exact ⟨13,_,_,_,_,_,hO,by decide,fun wx r=>operand_13 s g wx r hs hO,rfl,Tryz.func78,by decide +kernel,fun wx r=>xor_m s g (IntKind.u64.wrap s.x.imm) wx r hM hd (U64.wrap s.x.imm),fun w' b r=>RunT.yes b (eff_13 _ _ hO) r⟩
    · skip
      exact ⟨14,_,_,_,_,_,hO,by decide,fun wx r=>operand_14 s g wx r hs hO,rfl,Tryz.func79,by decide +kernel,fun wx r=>compare_m s g (IntKind.u64.wrap s.x.imm) wx r hM hd (U64.wrap s.x.imm),fun w' b r=>RunT.yes b (eff_14 _ _ hO) r⟩
    · skip
      exact ⟨15,_,_,_,_,_,hO,by decide,fun wx r=>operand_15 s g wx r hs hO,rfl,Tryz.func80,by decide +kernel,fun wx r=>test_m s g (IntKind.u64.wrap s.x.imm) wx r hM hd (U64.wrap s.x.imm),fun w' b r=>RunT.yes b (eff_15 _ _ hO) r⟩
    · skip
      exact ⟨16,_,_,_,_,_,hO,by decide,fun wx r=>operand_16 s g wx r hs hO,rfl,Tryz.func81,by decide +kernel,fun wx r=>multiply_m s g (s.m.r s.x.src.toNat) wx r hM hd (hM.r s.x.src.toNat),fun w' b r=>RunT.yes b (eff_16 _ _ hO) r⟩
    · skip
      exact ⟨17,_,_,_,_,_,hO,by decide,fun wx r=>operand_17 s g wx r hs hO,rfl,Tryz.func82,by decide +kernel,fun wx r=>shiftLeft_m s g (IntKind.u64.wrap s.x.imm) wx r hM hd (U64.wrap s.x.imm),fun w' b r=>RunT.yes b (eff_17 _ _ hO) r⟩
    · skip
      exact ⟨18,_,_,_,_,_,hO,by decide,fun wx r=>operand_18 s g wx r hs hO,rfl,Tryz.func83,by decide +kernel,fun wx r=>shiftRight_m s g (IntKind.u64.wrap s.x.imm) wx r hM hd (U64.wrap s.x.imm),fun w' b r=>RunT.yes b (eff_18 _ _ hO) r⟩
    · skip
      exact ⟨19,_,_,_,_,_,hO,by decide,fun wx r=>operand_19 s g wx r hs hO,rfl,Tryz.func84,by decide +kernel,fun wx r=>shiftSigned_m s g (IntKind.u64.wrap s.x.imm) wx r hM hd (U64.wrap s.x.imm),fun w' b r=>RunT.yes b (eff_19 _ _ hO) r⟩
    · skip
      exact ⟨20,_,_,_,_,_,hO,by decide,fun wx r=>operand_20 s g wx r hs hO,rfl,Tryz.func82,by decide +kernel,fun wx r=>shiftLeft_m s g (s.m.r 1) wx r hM hd (hM.r 1),fun w' b r=>RunT.yes b (eff_20 _ _ hO) r⟩
    · skip
      exact ⟨21,_,_,_,_,_,hO,by decide,fun wx r=>operand_21 s g wx r hs hO,rfl,Tryz.func83,by decide +kernel,fun wx r=>shiftRight_m s g (s.m.r 1) wx r hM hd (hM.r 1),fun w' b r=>RunT.yes b (eff_21 _ _ hO) r⟩
    · skip
      exact ⟨22,_,_,_,_,_,hO,by decide,fun wx r=>operand_22 s g wx r hs hO,rfl,Tryz.func84,by decide +kernel,fun wx r=>shiftSigned_m s g (s.m.r 1) wx r hM hd (hM.r 1),fun w' b r=>RunT.yes b (eff_22 _ _ hO) r⟩
    · skip
      exact ⟨23,_,_,_,_,_,hO,by decide,fun wx r=>operand_23 s g wx r hs hO,rfl,Tryz.func85,by decide +kernel,fun wx r=>negate_m s g (IntKind.u64.wrap s.x.imm) wx r hM hd (U64.wrap s.x.imm),fun w' b r=>RunT.yes b (eff_23 _ _ hO) r⟩
    · skip
      cases h1:(cutI (s.m.r 2) s.x.w) != 0
      case true=>
        exact ⟨24,_,_,_,_,_,hO,by decide,fun wx r=>operand_24 s g wx r hs hO,rfl,Tryz.func86,by decide +kernel,fun wx r=>divide_high s g (IntKind.u64.wrap s.x.imm) wx r hM hd h1,fun w' b r=>RunT.no b ((eff_24 _ _ hO).trans (by rw [divB_is,h1];rfl)) r⟩
      cases h2:(cutI (s.m.r s.x.dst.toNat) s.x.w) == 0
      case true=>
        exact ⟨24,_,_,_,_,_,hO,by decide,fun wx r=>operand_24 s g wx r hs hO,rfl,Tryz.func86,by decide +kernel,fun wx r=>divide_zero s g (IntKind.u64.wrap s.x.imm) wx r hM hd h1 h2,fun w' b r=>RunT.no b ((eff_24 _ _ hO).trans (by rw [divB_is,h1,h2];rfl)) r⟩
      exact ⟨24,_,_,_,_,_,hO,by decide,fun wx r=>operand_24 s g wx r hs hO,rfl,Tryz.func86,by decide +kernel,fun wx r=>divide_ok s g (IntKind.u64.wrap s.x.imm) wx r hM hd h1 h2,fun w' b r=>RunT.yes b ((eff_24 _ _ hO).trans (by rw [divB_is,h1,h2];rfl)) r⟩
    · skip
      cases eK:s.m.f.k
      case false=>
        exact ⟨25,_,_,_,_,_,hO,by decide,fun wx r=>operand_25 s g wx r hs hO,rfl,Tryz.func87,by decide +kernel,fun wx r=>moveIf_bad s g (s.m.r s.x.src.toNat) wx r hd eK (hcy (.inl hO)),fun w' b r=>RunT.no b ((eff_25 _ _ hO).trans (by rw [eK];rfl)) r⟩
      cases hh:holF s.x.cc s.m.f
      case false=>
        exact ⟨25,_,_,_,_,_,hO,by decide,fun wx r=>operand_25 s g wx r hs hO,rfl,Tryz.func87,by decide +kernel,fun wx r=>moveIf_no s g (s.m.r s.x.src.toNat) wx r hd eK (hcy (.inl hO)) hh,fun w' b r=>RunT.yes b ((eff_25 _ _ hO).trans (by rw [eK];unfold cmvM;rw [hh];rfl)) r⟩
      exact ⟨25,_,_,_,_,_,hO,by decide,fun wx r=>operand_25 s g wx r hs hO,rfl,Tryz.func87,by decide +kernel,fun wx r=>moveIf_yes s g (s.m.r s.x.src.toNat) wx r hd eK (hcy (.inl hO)) hh,fun w' b r=>RunT.yes b ((eff_25 _ _ hO).trans (by rw [eK];unfold cmvM;rw [hh];rfl)) r⟩
    · skip
      exact ⟨26,_,_,_,_,_,hO,by decide,fun wx r=>operand_26 s g wx r hs hO,rfl,Tryz.func73,by decide +kernel,fun wx r=>move_m s g s.l wx r hd,fun w' b r=>RunT.yes b (eff_26 _ _ hO) r⟩
    · skip
      exact ⟨27,_,_,_,_,_,hO,by decide,fun wx r=>operand_27 s g wx r hs hO,rfl,Tryz.func88,by decide +kernel,fun wx r=>leave_m s g (IntKind.u64.wrap s.x.imm) wx r,fun w' b r=>RunT.yes b (eff_27 _ _ hO) r⟩
    · skip
      exact ⟨28,_,_,_,_,_,hO,by decide,fun wx r=>operand_28 s g wx r hs hO,rfl,Tryz.func89,by decide +kernel,fun wx r=>jump_m s g (IntKind.u64.wrap s.x.imm) wx r,fun w' b r=>RunT.yes b (eff_28 _ _ hO) r⟩
    · skip
      cases eK:s.m.f.k
      case false=>
        exact ⟨29,_,_,_,_,_,hO,by decide,fun wx r=>operand_29 s g wx r hs hO,rfl,Tryz.func90,by decide +kernel,fun wx r=>jumpIf_bad s g (IntKind.u64.wrap s.x.imm) wx r eK (hcy (.inr hO)),fun w' b r=>RunT.no b ((eff_29 _ _ hO).trans (by rw [eK];rfl)) r⟩
      cases hh:holF s.x.cc s.m.f
      case false=>
        exact ⟨29,_,_,_,_,_,hO,by decide,fun wx r=>operand_29 s g wx r hs hO,rfl,Tryz.func90,by decide +kernel,fun wx r=>jumpIf_no s g (IntKind.u64.wrap s.x.imm) wx r eK (hcy (.inr hO)) hh,fun w' b r=>RunT.yes b ((eff_29 _ _ hO).trans (by rw [eK];unfold jccM;rw [hh];rfl)) r⟩
      exact ⟨29,_,_,_,_,_,hO,by decide,fun wx r=>operand_29 s g wx r hs hO,rfl,Tryz.func90,by decide +kernel,fun wx r=>jumpIf_yes s g (IntKind.u64.wrap s.x.imm) wx r eK (hcy (.inr hO)) hh,fun w' b r=>RunT.yes b ((eff_29 _ _ hO).trans (by rw [eK];unfold jccM;rw [hh];rfl)) r⟩
    · skip
      exact ⟨30,_,_,_,_,_,hO,by decide,fun wx r=>operand_30 s g wx r hs hO,rfl,Tryz.func91,by decide +kernel,fun wx r=>comeBack_m s g s.l wx r,fun w' b r=>RunT.yes b (eff_30 _ _ hO) r⟩
    · skip
      exact ⟨31,_,_,_,_,_,hO,by decide,fun wx r=>operand_31 s g wx r hs hO,rfl,Tryz.func92,by decide +kernel,fun wx r=>answer_m s g s.l wx r,fun w' b r=>RunT.yes b (eff_31 _ _ hO) r⟩
  have b_g:=f2.k (f1.k hr)
  have s0_3:=f2.q 0 s0_1
  refine go_reg [⟨g,65,(exC s),some 9,(exC s')⟩,bx g1 89 (fnC g)] [] [some (pt g 0),some (pt g 0),some (pt g 22),some (pt g 22),some (.int .i8 (k:Int)),some (pt g1 k),some (.func (.func F) #[.pointer (some ⟨g,0,none⟩)] #[]),some (pt g 0),some (.int .u64 V),some (.int .i64 R),some (.int .i64 R)] mo f2.d f2.z f2.b (by kernel_rfl) ⟨b_g,b_g1,trivial⟩ (
   hk (fun cx=>cx.q (ex_mv rfl (cx.rq 0 s0_3))) <|
   hk (fun cx=>cx.q (ex_nc rfl (cx.u 0 rfl))) <|
   hk (fun cx=>cx.q (ex_fa rfl (cx.u 0 rfl) (faExH75_1_0 _ _))) <|
   hk (fun cx=>cx.q (ex_fa rfl (cx.u 0 rfl) (faExH26_0_22 _ _))) <|
   hk (fun cx=>cx.v (ex_ld rfl (cx.u 0 rfl) (rft cx 0 rfl (by kernel_rfl)) rfl Tryz.isAgg36) rfl (congrArg (Value.int .i8) hO)) <|
   hk (fun cx=>cx.q (ex_ia (n:=32) (sz:=1) (q:=k) rfl (cx.rq 3 u_g1) (cx.u 0 rfl) Tryz.underlying89 (by kernel_rfl) (by omega) (by omega) (by simp))) <|
   hk (fun cx=>cx.q (ex_ld rfl (cx.u 0 rfl) (cx.rn 1 rfl) hF Tryz.isAgg88)) <|
   hk (fun cx=>cx.q (ex_mv rfl (cx.rq 0 s0_3))) <|
   hc (fun _ _ wx cx=>cx.c rfl (args1 (cx.u 0 rfl)) Tryz.func93 (by decide +kernel) (hOp wx (cx.rf 0 rfl (by kernel_rfl))) rfl rfl) <|
   hc (fun _ _ wx cx=>callTb cx (wn rfl) rfl (cx.u 0 rfl) (args1 (cx.u 1 rfl)) rfl hfn hok (hC wx (cx.ri 0 rfl)) rfl rfl 0 rfl hV rfl ⟨(ne_row (f1.k hr) q_g1).symm,trivial⟩ rfl) <|
   kmu 0 <|
   hn) ?_
  intro a3 w3 f3
  have bt3:=But.step f3 bt2 f2.b ⟨.inr rfl,.inl rfl,trivial⟩
  refine wp_ret ?_
  try simp only [Exit.inBlock,Exit.then]
  refine bodyPost_ret (res_t (fn:=Tryz.f38) rfl (f3.v 10 rfl rfl rfl)) f3.d ?_
  exact hE _ bt3 f3.rows.1
end Go.Proofs.YtbpehbeakhocnaaGreatDoor.Exe
