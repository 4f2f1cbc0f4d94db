import Derived.Test.YtjhedldplmhmjaaGreatDoorETe28
import Derived.Test.YtjhedldplmhmjaaGreatDoorETe21
import Derived.Test.YtjhedldplmhmjaaGreatDoorETe22
set_option maxHeartbeats 8000000
set_option linter.unusedVariables false
set_option linter.unusedSimpArgs false
set_option linter.unnecessarySimpa false
namespace Go.Proofs.YtjhedldplmhmjaaGreatDoor.Exe
open Go Go.RowKit
open Mrm (Xi xC zX mayX bytesX)
open Flg (Fl fC zF addF subF ofF holF holE mayC)
set_option maxRecDepth 100000
theorem faExH75_1_0 (g:Nat)(w:World):(Instr.fieldAt 48 (.pointer (some ⟨g,0,none⟩)) 1).run Tryz.prog w=.ok (.pointer (some ⟨g,22,none⟩)) w:=by simp [go_sem]
theorem faExH26_0_22 (g:Nat)(w:World):(Instr.fieldAt 30 (.pointer (some ⟨g,22,none⟩)) 0).run Tryz.prog w=.ok (.pointer (some ⟨g,22,none⟩)) w:=by simp [go_sem]
def fnC (g:Nat):Array Value:=#[.func (.func 38) #[.pointer (some ⟨g,0,none⟩)] #[],.func (.func 38) #[.pointer (some ⟨g,0,none⟩)] #[],.func (.func 39) #[.pointer (some ⟨g,0,none⟩)] #[],.func (.func 40) #[.pointer (some ⟨g,0,none⟩)] #[],.func (.func 41) #[.pointer (some ⟨g,0,none⟩)] #[],.func (.func 42) #[.pointer (some ⟨g,0,none⟩)] #[],.func (.func 43) #[.pointer (some ⟨g,0,none⟩)] #[],.func (.func 44) #[.pointer (some ⟨g,0,none⟩)] #[],.func (.func 45) #[.pointer (some ⟨g,0,none⟩)] #[],.func (.func 39) #[.pointer (some ⟨g,0,none⟩)] #[],.func (.func 40) #[.pointer (some ⟨g,0,none⟩)] #[],.func (.func 41) #[.pointer (some ⟨g,0,none⟩)] #[],.func (.func 42) #[.pointer (some ⟨g,0,none⟩)] #[],.func (.func 43) #[.pointer (some ⟨g,0,none⟩)] #[],.func (.func 44) #[.pointer (some ⟨g,0,none⟩)] #[],.func (.func 45) #[.pointer (some ⟨g,0,none⟩)] #[],.func (.func 46) #[.pointer (some ⟨g,0,none⟩)] #[],.func (.func 47) #[.pointer (some ⟨g,0,none⟩)] #[],.func (.func 48) #[.pointer (some ⟨g,0,none⟩)] #[],.func (.func 49) #[.pointer (some ⟨g,0,none⟩)] #[],.func (.func 47) #[.pointer (some ⟨g,0,none⟩)] #[],.func (.func 48) #[.pointer (some ⟨g,0,none⟩)] #[],.func (.func 49) #[.pointer (some ⟨g,0,none⟩)] #[],.func (.func 50) #[.pointer (some ⟨g,0,none⟩)] #[],.func (.func 51) #[.pointer (some ⟨g,0,none⟩)] #[],.func (.func 52) #[.pointer (some ⟨g,0,none⟩)] #[],.func (.func 38) #[.pointer (some ⟨g,0,none⟩)] #[],.func (.func 53) #[.pointer (some ⟨g,0,none⟩)] #[],.func (.func 54) #[.pointer (some ⟨g,0,none⟩)] #[],.func (.func 55) #[.pointer (some ⟨g,0,none⟩)] #[],.func (.func 56) #[.pointer (some ⟨g,0,none⟩)] #[],.func (.func 57) #[.pointer (some ⟨g,0,none⟩)] #[]]
def fzC (n:Nat):Array Value:=#[.nilFunc,.nilFunc,.nilFunc,.nilFunc,.nilFunc,.nilFunc,.nilFunc,.nilFunc,.nilFunc,.nilFunc,.nilFunc,.nilFunc,.nilFunc,.nilFunc,.nilFunc,.nilFunc,.nilFunc,.nilFunc,.nilFunc,.nilFunc,.nilFunc,.nilFunc,.nilFunc,.nilFunc,.nilFunc,.nilFunc,.nilFunc,.nilFunc,.nilFunc,.nilFunc,.nilFunc,.nilFunc]
theorem parts32 {ρ:Operand→Value}{x0 x1 x2 x3 x4 x5 x6 x7 x8 x9 x10 x11 x12 x13 x14 x15 x16 x17 x18 x19 x20 x21 x22 x23 x24 x25 x26 x27 x28 x29 x30 x31:Operand}{v0 v1 v2 v3 v4 v5 v6 v7 v8 v9 v10 v11 v12 v13 v14 v15 v16 v17 v18 v19 v20 v21 v22 v23 v24 v25 v26 v27 v28 v29 v30 v31:Value}(h0:ρ x0=v0)(h1:ρ x1=v1)(h2:ρ x2=v2)(h3:ρ x3=v3)(h4:ρ x4=v4)(h5:ρ x5=v5)(h6:ρ x6=v6)(h7:ρ x7=v7)(h8:ρ x8=v8)(h9:ρ x9=v9)(h10:ρ x10=v10)(h11:ρ x11=v11)(h12:ρ x12=v12)(h13:ρ x13=v13)(h14:ρ x14=v14)(h15:ρ x15=v15)(h16:ρ x16=v16)(h17:ρ x17=v17)(h18:ρ x18=v18)(h19:ρ x19=v19)(h20:ρ x20=v20)(h21:ρ x21=v21)(h22:ρ x22=v22)(h23:ρ x23=v23)(h24:ρ x24=v24)(h25:ρ x25=v25)(h26:ρ x26=v26)(h27:ρ x27=v27)(h28:ρ x28=v28)(h29:ρ x29=v29)(h30:ρ x30=v30)(h31:ρ x31=v31):(#[(0,x0),(1,x1),(2,x2),(3,x3),(4,x4),(5,x5),(6,x6),(7,x7),(8,x8),(9,x9),(10,x10),(11,x11),(12,x12),(13,x13),(14,x14),(15,x15),(16,x16),(17,x17),(18,x18),(19,x19),(20,x20),(21,x21),(22,x22),(23,x23),(24,x24),(25,x25),(26,x26),(27,x27),(28,x28),(29,x29),(30,x30),(31,x31)]:Array (Nat × Operand)).map (fun p=>(p.1,ρ p.2))=#[(0,v0),(1,v1),(2,v2),(3,v3),(4,v4),(5,v5),(6,v6),(7,v7),(8,v8),(9,v9),(10,v10),(11,v11),(12,v12),(13,v13),(14,v14),(15,v15),(16,v16),(17,v17),(18,v18),(19,v19),(20,v20),(21,v21),(22,v22),(23,v23),(24,v24),(25,v25),(26,v26),(27,v27),(28,v28),(29,v29),(30,v30),(31,v31)]:=by simp [h0,h1,h2,h3,h4,h5,h6,h7,h8,h9,h10,h11,h12,h13,h14,h15,h16,h17,h18,h19,h20,h21,h22,h23,h24,h25,h26,h27,h28,h29,h30,h31]
theorem fnC_one (g:Nat):(fnC g).all (·.oneCell')=true:=by kernel_rfl
section
variable {ρ:Operand→Value} {o:Oper} {w:World} {x:Operand}
theorem al_fn (ho:o.op=.alloc 69):(execOp ρ o).run Tryz.prog w=.ok (.value (.pointer (some ⟨w.heap.size,0,none⟩))) (w.alloc (.cells (fzC 0) 69)):=by
 simp [execOp,ho,go_sem]
 rfl
theorem ex_mf {P:Program}{f:Fn}{v:Value}(ho:o.op=.makeFunc f #[x] #[])(hx:ρ x=v):(execOp ρ o).run P w=.ok (.value (.func f #[v] #[])) w:=by
 simp [execOp,ho,hx,Instr.makeFunc,go_sem]
end
def RunT (s:Ex)(g:Nat)(W:World):Ending→World→Prop:=fun e w'=>But g W w'∧match effX s.m s.x s.l with
 | some m=>e=.returned (.int .i64 0)∧w'.heap[g]?=some (.cells (exC ⟨m,s.x,s.l⟩) 48 (0,0))
 | none=>e=.returned (.int .i64 20)∧w'.heap[g]?=some (.cells (exC s) 48 (0,0))
theorem RunT.yes {s:Ex}{g:Nat}{W w':World}{m:Mc}(b:But g W w')(E:effX s.m s.x s.l=some m)(r:w'.heap[g]?=some (.cells (exC ⟨m,s.x,s.l⟩) 48 (0,0))):RunT s g W (.returned (.int .i64 0)) w':=by
 refine ⟨b,?_⟩
 rw [E]
 exact ⟨rfl,r⟩
theorem RunT.no {s:Ex}{g:Nat}{W w':World}(b:But g W w')(E:effX s.m s.x s.l=none)(r:w'.heap[g]?=some (.cells (exC s) 48 (0,0))):RunT s g W (.returned (.int .i64 20)) w':=by
 refine ⟨b,?_⟩
 rw [E]
 exact ⟨rfl,r⟩
theorem divB_is (m:Mc)(x:Xi):divB m x=(!((cutI (m.r 2) x.w) != 0) && !((cutI (m.r x.dst.toNat) x.w) == 0)):=by unfold divB bne;simp
theorem run_n (s:Ex)(g:Nat)(W:World)(hr:W.heap[g]?=some (.cells (exC s) 48 (0,0)))(hM:MOk s.m)(hl:U64 s.l)(hd:0≤s.x.dst∧s.x.dst<16)(hs:0≤s.x.src∧s.x.src<16)(hop:0≤s.x.op∧s.x.op<32)(hcy:s.x.op=25∨s.x.op=29→mayC s.x.cc=true):Calls Tryz.prog 21 #[.pointer (some ⟨g,0,none⟩)] W (RunT s g W):=by
 refine calls_abs Tryz.func21 rfl (Nat.le_of_ble_eq_true rfl) ?_
 intro a0 d0 z0 h0
 replace z0:a0.tmps.size=79:=z0
 have s0_0:a0.tmps.getD 0 undef=.pointer (some ⟨g,0,none⟩):=h0 0 (Nat.le_of_ble_eq_true rfl)
 have hB0:=cutW_below W g
 have hV:=cutW_size hr
 have bt0:=But.refl g W
 refine wp_seq ?_
 refine go_reg [] [] [some (.int .i64 0)] mo d0 z0 hB0 (by kernel_rfl) trivial (
  kq (fun cx=>ex_as rfl rfl) <|
  hn) ?_
 intro a1 w1 f1
 have bt1:=But.step f1 bt0 hB0 trivial
 refine wp_seq ?_
 have s0_1:=f1.q 0 s0_0
 refine go_reg [] [⟨65,3,69,(fzC 0),some 66,(fnC g)⟩] (tabs [some (pt g 0),some (.func (.func 38) #[.pointer (some ⟨g,0,none⟩)] #[]),some (pt g 0),some (.func (.func 38) #[.pointer (some ⟨g,0,none⟩)] #[]),some (pt g 0),some (.func (.func 39) #[.pointer (some ⟨g,0,none⟩)] #[]),some (pt g 0),some (.func (.func 40) #[.pointer (some ⟨g,0,none⟩)] #[]),some (pt g 0),some (.func (.func 41) #[.pointer (some ⟨g,0,none⟩)] #[]),some (pt g 0),some (.func (.func 42) #[.pointer (some ⟨g,0,none⟩)] #[]),some (pt g 0),some (.func (.func 43) #[.pointer (some ⟨g,0,none⟩)] #[]),some (pt g 0),some (.func (.func 44) #[.pointer (some ⟨g,0,none⟩)] #[]),some (pt g 0),some (.func (.func 45) #[.pointer (some ⟨g,0,none⟩)] #[]),some (pt g 0),some (.func (.func 39) #[.pointer (some ⟨g,0,none⟩)] #[])] (tabs [some (pt g 0),some (.func (.func 40) #[.pointer (some ⟨g,0,none⟩)] #[]),some (pt g 0),some (.func (.func 41) #[.pointer (some ⟨g,0,none⟩)] #[]),some (pt g 0),some (.func (.func 42) #[.pointer (some ⟨g,0,none⟩)] #[]),some (pt g 0),some (.func (.func 43) #[.pointer (some ⟨g,0,none⟩)] #[]),some (pt g 0),some (.func (.func 44) #[.pointer (some ⟨g,0,none⟩)] #[]),some (pt g 0),some (.func (.func 45) #[.pointer (some ⟨g,0,none⟩)] #[]),some (pt g 0),some (.func (.func 46) #[.pointer (some ⟨g,0,none⟩)] #[]),some (pt g 0),some (.func (.func 47) #[.pointer (some ⟨g,0,none⟩)] #[]),some (pt g 0),some (.func (.func 48) #[.pointer (some ⟨g,0,none⟩)] #[]),some (pt g 0),some (.func (.func 49) #[.pointer (some ⟨g,0,none⟩)] #[])] (tabs [some (pt g 0),some (.func (.func 47) #[.pointer (some ⟨g,0,none⟩)] #[]),some (pt g 0),some (.func (.func 48) #[.pointer (some ⟨g,0,none⟩)] #[]),some (pt g 0),some (.func (.func 49) #[.pointer (some ⟨g,0,none⟩)] #[]),some (pt g 0),some (.func (.func 50) #[.pointer (some ⟨g,0,none⟩)] #[]),some (pt g 0),some (.func (.func 51) #[.pointer (some ⟨g,0,none⟩)] #[]),some (pt g 0),some (.func (.func 52) #[.pointer (some ⟨g,0,none⟩)] #[]),some (pt g 0),some (.func (.func 38) #[.pointer (some ⟨g,0,none⟩)] #[]),some (pt g 0),some (.func (.func 53) #[.pointer (some ⟨g,0,none⟩)] #[]),some (pt g 0),some (.func (.func 54) #[.pointer (some ⟨g,0,none⟩)] #[]),some (pt g 0),some (.func (.func 55) #[.pointer (some ⟨g,0,none⟩)] #[])] [some (pt g 0),some (.func (.func 56) #[.pointer (some ⟨g,0,none⟩)] #[]),some (pt g 0),some (.func (.func 57) #[.pointer (some ⟨g,0,none⟩)] #[]),some (.agg (fnC g)),none,none]))) mo f1.d f1.z f1.b (by kernel_rfl) trivial (
  kq (fun cx=>ex_mv rfl (cx.rq 0 s0_1)) <|
  kq (fun cx=>ex_mf rfl (cx.u 0 rfl)) <|
  kq (fun cx=>ex_mv rfl (cx.rq 0 s0_1)) <|
  kq (fun cx=>ex_mf rfl (cx.u 0 rfl)) <|
  kq (fun cx=>ex_mv rfl (cx.rq 0 s0_1)) <|
  kq (fun cx=>ex_mf rfl (cx.u 0 rfl)) <|
  kq (fun cx=>ex_mv rfl (cx.rq 0 s0_1)) <|
  kq (fun cx=>ex_mf rfl (cx.u 0 rfl)) <|
  kq (fun cx=>ex_mv rfl (cx.rq 0 s0_1)) <|
  kq (fun cx=>ex_mf rfl (cx.u 0 rfl)) <|
  kq (fun cx=>ex_mv rfl (cx.rq 0 s0_1)) <|
  kq (fun cx=>ex_mf rfl (cx.u 0 rfl)) <|
  kq (fun cx=>ex_mv rfl (cx.rq 0 s0_1)) <|
  kq (fun cx=>ex_mf rfl (cx.u 0 rfl)) <|
  kq (fun cx=>ex_mv rfl (cx.rq 0 s0_1)) <|
  kq (fun cx=>ex_mf rfl (cx.u 0 rfl)) <|
  kq (fun cx=>ex_mv rfl (cx.rq 0 s0_1)) <|
  kq (fun cx=>ex_mf rfl (cx.u 0 rfl)) <|
  kq (fun cx=>ex_mv rfl (cx.rq 0 s0_1)) <|
  kq (fun cx=>ex_mf rfl (cx.u 0 rfl)) <|
  kq (fun cx=>ex_mv rfl (cx.rq 0 s0_1)) <|
  kq (fun cx=>ex_mf rfl (cx.u 0 rfl)) <|
  kq (fun cx=>ex_mv rfl (cx.rq 0 s0_1)) <|
  kq (fun cx=>ex_mf rfl (cx.u 0 rfl)) <|
  kq (fun cx=>ex_mv rfl (cx.rq 0 s0_1)) <|
  kq (fun cx=>ex_mf rfl (cx.u 0 rfl)) <|
  kq (fun cx=>ex_mv rfl (cx.rq 0 s0_1)) <|
  kq (fun cx=>ex_mf rfl (cx.u 0 rfl)) <|
  kq (fun cx=>ex_mv rfl (cx.rq 0 s0_1)) <|
  kq (fun cx=>ex_mf rfl (cx.u 0 rfl)) <|
  kq (fun cx=>ex_mv rfl (cx.rq 0 s0_1)) <|
  kq (fun cx=>ex_mf rfl (cx.u 0 rfl)) <|
  kq (fun cx=>ex_mv rfl (cx.rq 0 s0_1)) <|
  kq (fun cx=>ex_mf rfl (cx.u 0 rfl)) <|
  kq (fun cx=>ex_mv rfl (cx.rq 0 s0_1)) <|
  kq (fun cx=>ex_mf rfl (cx.u 0 rfl)) <|
  kq (fun cx=>ex_mv rfl (cx.rq 0 s0_1)) <|
  kq (fun cx=>ex_mf rfl (cx.u 0 rfl)) <|
  kq (fun cx=>ex_mv rfl (cx.rq 0 s0_1)) <|
  kq (fun cx=>ex_mf rfl (cx.u 0 rfl)) <|
  kq (fun cx=>ex_mv rfl (cx.rq 0 s0_1)) <|
  kq (fun cx=>ex_mf rfl (cx.u 0 rfl)) <|
  kq (fun cx=>ex_mv rfl (cx.rq 0 s0_1)) <|
  kq (fun cx=>ex_mf rfl (cx.u 0 rfl)) <|
  kq (fun cx=>ex_mv rfl (cx.rq 0 s0_1)) <|
  kq (fun cx=>ex_mf rfl (cx.u 0 rfl)) <|
  kq (fun cx=>ex_mv rfl (cx.rq 0 s0_1)) <|
  kq (fun cx=>ex_mf rfl (cx.u 0 rfl)) <|
  kq (fun cx=>ex_mv rfl (cx.rq 0 s0_1)) <|
  kq (fun cx=>ex_mf rfl (cx.u 0 rfl)) <|
  kq (fun cx=>ex_mv rfl (cx.rq 0 s0_1)) <|
  kq (fun cx=>ex_mf rfl (cx.u 0 rfl)) <|
  kq (fun cx=>ex_mv rfl (cx.rq 0 s0_1)) <|
  kq (fun cx=>ex_mf rfl (cx.u 0 rfl)) <|
  kq (fun cx=>ex_mv rfl (cx.rq 0 s0_1)) <|
  kq (fun cx=>ex_mf rfl (cx.u 0 rfl)) <|
  kq (fun cx=>ex_mv rfl (cx.rq 0 s0_1)) <|
  kq (fun cx=>ex_mf rfl (cx.u 0 rfl)) <|
  kq (fun cx=>ex_mv rfl (cx.rq 0 s0_1)) <|
  kq (fun cx=>ex_mf rfl (cx.u 0 rfl)) <|
  kq (fun cx=>ex_mv rfl (cx.rq 0 s0_1)) <|
  kq (fun cx=>ex_mf rfl (cx.u 0 rfl)) <|
  kq (fun cx=>ex_mv rfl (cx.rq 0 s0_1)) <|
  kq (fun cx=>ex_mf rfl (cx.u 0 rfl)) <|
  kq (fun cx=>exec_build rfl (parts32 (cx.u 0 rfl) (cx.u 1 rfl) (cx.u 2 rfl) (cx.u 3 rfl) (cx.u 4 rfl) (cx.u 5 rfl) (cx.u 6 rfl) (cx.u 7 rfl) (cx.u 8 rfl) (cx.u 9 rfl) (cx.u 10 rfl) (cx.u 11 rfl) (cx.u 12 rfl) (cx.u 13 rfl) (cx.u 14 rfl) (cx.u 15 rfl) (cx.u 16 rfl) (cx.u 17 rfl) (cx.u 18 rfl) (cx.u 19 rfl) (cx.u 20 rfl) (cx.u 21 rfl) (cx.u 22 rfl) (cx.u 23 rfl) (cx.u 24 rfl) (cx.u 25 rfl) (cx.u 26 rfl) (cx.u 27 rfl) (cx.u 28 rfl) (cx.u 29 rfl) (cx.u 30 rfl) (cx.u 31 rfl)) (by kernel_rfl)) <|
  hk (fun cx=>cx.al (wn rfl) 0 rfl (al_fn rfl) rfl rfl rfl rfl (by kernel_rfl) trivial) <|
  hk (fun cx=>cx.stA (wn rfl) rfl rfl 0 0 rfl rfl rfl rfl (cx.u 1 rfl) (by kernel_rfl) (Eq.refl 32) (fnC_one _) f1.b.size rfl rfl trivial) <|
  hn) ?_
 intro a2 w2 f2
 obtain ⟨g1,u_g1,q_g1,b_g1⟩:=f2.al.1
 have bt2:=But.step f2 bt1 f1.b trivial
 refine wp_seq ?_
 obtain ⟨k,V,F,fn,R,s',hO,hk32,hOp,hF,hfn,hok,hC,hE⟩:∃ (k:Nat) (V:Int) (F:FuncId) (fn:Func) (R:Int) (s':Ex),s.x.op=(k:Int)∧k<32∧(∀ wx,wx.heap[g]?=some (.cells (exC s) 48 (0,0))→Calls Tryz.prog 58 #[.pointer (some ⟨g,0,none⟩)] wx fun e w'=>e=.returned (.int .u64 V)∧Below wx.heap.size wx w')∧(fnC g)[k]?=some (.func (.func F) #[.pointer (some ⟨g,0,none⟩)] #[])∧Tryz.prog.funcs[F]?=some fn∧okF fn=true∧(∀ wx,wx.heap[g]?=some (.cells (exC s) 48 (0,0))→Calls Tryz.prog F #[.pointer (some ⟨g,0,none⟩),.int .u64 V] wx (RetT (.int .i64 R) (exC s') 48 g wx))∧(∀ w',But g W w'→w'.heap[g]?=some (.cells (exC s') 48 (0,0))→RunT s g W (.returned (.int .i64 R)) w'):=by
   clear bt0 bt1 bt2
   rcases Mrm.lt32 hop with hO | hO | hO | hO | hO | hO | hO | hO | hO | hO | hO | hO | hO | hO | hO | hO | hO | hO | hO | hO | hO | hO | hO | hO | hO | hO | hO | hO | hO | hO | hO | hO
   ·skip
    exact ⟨0,_,_,_,_,_,hO,by decide,fun wx r=>operand_0 s g wx r hs hO,rfl,Tryz.func38,by decide +kernel,fun wx r=>move_m s g (s.m.r s.x.src.toNat) wx r hd,fun w' b r=>RunT.yes b (eff_0 _ _ hO) r⟩
   ·skip
    exact ⟨1,_,_,_,_,_,hO,by decide,fun wx r=>operand_1 s g wx r hs hO,rfl,Tryz.func38,by decide +kernel,fun wx r=>move_m s g (IntKind.u64.wrap s.x.imm) wx r hd,fun w' b r=>RunT.yes b (eff_1 _ _ hO) r⟩
   ·skip
    exact ⟨2,_,_,_,_,_,hO,by decide,fun wx r=>operand_2 s g wx r hs hO,rfl,Tryz.func39,by decide +kernel,fun wx r=>add_m s g (s.m.r s.x.src.toNat) wx r hM hd (hM.r s.x.src.toNat),fun w' b r=>RunT.yes b (eff_2 _ _ hO) r⟩
   ·skip
    exact ⟨3,_,_,_,_,_,hO,by decide,fun wx r=>operand_3 s g wx r hs hO,rfl,Tryz.func40,by decide +kernel,fun wx r=>or_m s g (s.m.r s.x.src.toNat) wx r hM hd (hM.r s.x.src.toNat),fun w' b r=>RunT.yes b (eff_3 _ _ hO) r⟩
   ·skip
    exact ⟨4,_,_,_,_,_,hO,by decide,fun wx r=>operand_4 s g wx r hs hO,rfl,Tryz.func41,by decide +kernel,fun wx r=>and_m s g (s.m.r s.x.src.toNat) wx r hM hd (hM.r s.x.src.toNat),fun w' b r=>RunT.yes b (eff_4 _ _ hO) r⟩
   ·skip
    exact ⟨5,_,_,_,_,_,hO,by decide,fun wx r=>operand_5 s g wx r hs hO,rfl,Tryz.func42,by decide +kernel,fun wx r=>subtract_m s g (s.m.r s.x.src.toNat) wx r hM hd (hM.r s.x.src.toNat),fun w' b r=>RunT.yes b (eff_5 _ _ hO) r⟩
   ·skip
    exact ⟨6,_,_,_,_,_,hO,by decide,fun wx r=>operand_6 s g wx r hs hO,rfl,Tryz.func43,by decide +kernel,fun wx r=>xor_m s g (s.m.r s.x.src.toNat) wx r hM hd (hM.r s.x.src.toNat),fun w' b r=>RunT.yes b (eff_6 _ _ hO) r⟩
   ·skip
    exact ⟨7,_,_,_,_,_,hO,by decide,fun wx r=>operand_7 s g wx r hs hO,rfl,Tryz.func44,by decide +kernel,fun wx r=>compare_m s g (s.m.r s.x.src.toNat) wx r hM hd (hM.r s.x.src.toNat),fun w' b r=>RunT.yes b (eff_7 _ _ hO) r⟩
   ·skip
    exact ⟨8,_,_,_,_,_,hO,by decide,fun wx r=>operand_8 s g wx r hs hO,rfl,Tryz.func45,by decide +kernel,fun wx r=>test_m s g (s.m.r s.x.src.toNat) wx r hM hd (hM.r s.x.src.toNat),fun w' b r=>RunT.yes b (eff_8 _ _ hO) r⟩
   ·skip
    exact ⟨9,_,_,_,_,_,hO,by decide,fun wx r=>operand_9 s g wx r hs hO,rfl,Tryz.func39,by decide +kernel,fun wx r=>add_m s g (IntKind.u64.wrap s.x.imm) wx r hM hd (U64.wrap s.x.imm),fun w' b r=>RunT.yes b (eff_9 _ _ hO) r⟩
   ·skip
    exact ⟨10,_,_,_,_,_,hO,by decide,fun wx r=>operand_10 s g wx r hs hO,rfl,Tryz.func40,by decide +kernel,fun wx r=>or_m s g (IntKind.u64.wrap s.x.imm) wx r hM hd (U64.wrap s.x.imm),fun w' b r=>RunT.yes b (eff_10 _ _ hO) r⟩
   ·skip
    exact ⟨11,_,_,_,_,_,hO,by decide,fun wx r=>operand_11 s g wx r hs hO,rfl,Tryz.func41,by decide +kernel,fun wx r=>and_m s g (IntKind.u64.wrap s.x.imm) wx r hM hd (U64.wrap s.x.imm),fun w' b r=>RunT.yes b (eff_11 _ _ hO) r⟩
   ·skip
    exact ⟨12,_,_,_,_,_,hO,by decide,fun wx r=>operand_12 s g wx r hs hO,rfl,Tryz.func42,by decide +kernel,fun wx r=>subtract_m s g (IntKind.u64.wrap s.x.imm) wx r hM hd (U64.wrap s.x.imm),fun w' b r=>RunT.yes b (eff_12 _ _ hO) r⟩
   ·skip
    exact ⟨13,_,_,_,_,_,hO,by decide,fun wx r=>operand_13 s g wx r hs hO,rfl,Tryz.func43,by decide +kernel,fun wx r=>xor_m s g (IntKind.u64.wrap s.x.imm) wx r hM hd (U64.wrap s.x.imm),fun w' b r=>RunT.yes b (eff_13 _ _ hO) r⟩
   ·skip
    exact ⟨14,_,_,_,_,_,hO,by decide,fun wx r=>operand_14 s g wx r hs hO,rfl,Tryz.func44,by decide +kernel,fun wx r=>compare_m s g (IntKind.u64.wrap s.x.imm) wx r hM hd (U64.wrap s.x.imm),fun w' b r=>RunT.yes b (eff_14 _ _ hO) r⟩
   ·skip
    exact ⟨15,_,_,_,_,_,hO,by decide,fun wx r=>operand_15 s g wx r hs hO,rfl,Tryz.func45,by decide +kernel,fun wx r=>test_m s g (IntKind.u64.wrap s.x.imm) wx r hM hd (U64.wrap s.x.imm),fun w' b r=>RunT.yes b (eff_15 _ _ hO) r⟩
   ·skip
    exact ⟨16,_,_,_,_,_,hO,by decide,fun wx r=>operand_16 s g wx r hs hO,rfl,Tryz.func46,by decide +kernel,fun wx r=>multiply_m s g (s.m.r s.x.src.toNat) wx r hM hd (hM.r s.x.src.toNat),fun w' b r=>RunT.yes b (eff_16 _ _ hO) r⟩
   ·skip
    exact ⟨17,_,_,_,_,_,hO,by decide,fun wx r=>operand_17 s g wx r hs hO,rfl,Tryz.func47,by decide +kernel,fun wx r=>shiftLeft_m s g (IntKind.u64.wrap s.x.imm) wx r hM hd (U64.wrap s.x.imm),fun w' b r=>RunT.yes b (eff_17 _ _ hO) r⟩
   ·skip
    exact ⟨18,_,_,_,_,_,hO,by decide,fun wx r=>operand_18 s g wx r hs hO,rfl,Tryz.func48,by decide +kernel,fun wx r=>shiftRight_m s g (IntKind.u64.wrap s.x.imm) wx r hM hd (U64.wrap s.x.imm),fun w' b r=>RunT.yes b (eff_18 _ _ hO) r⟩
   ·skip
    exact ⟨19,_,_,_,_,_,hO,by decide,fun wx r=>operand_19 s g wx r hs hO,rfl,Tryz.func49,by decide +kernel,fun wx r=>shiftSigned_m s g (IntKind.u64.wrap s.x.imm) wx r hM hd (U64.wrap s.x.imm),fun w' b r=>RunT.yes b (eff_19 _ _ hO) r⟩
   ·skip
    exact ⟨20,_,_,_,_,_,hO,by decide,fun wx r=>operand_20 s g wx r hs hO,rfl,Tryz.func47,by decide +kernel,fun wx r=>shiftLeft_m s g (s.m.r 1) wx r hM hd (hM.r 1),fun w' b r=>RunT.yes b (eff_20 _ _ hO) r⟩
   ·skip
    exact ⟨21,_,_,_,_,_,hO,by decide,fun wx r=>operand_21 s g wx r hs hO,rfl,Tryz.func48,by decide +kernel,fun wx r=>shiftRight_m s g (s.m.r 1) wx r hM hd (hM.r 1),fun w' b r=>RunT.yes b (eff_21 _ _ hO) r⟩
   ·skip
    exact ⟨22,_,_,_,_,_,hO,by decide,fun wx r=>operand_22 s g wx r hs hO,rfl,Tryz.func49,by decide +kernel,fun wx r=>shiftSigned_m s g (s.m.r 1) wx r hM hd (hM.r 1),fun w' b r=>RunT.yes b (eff_22 _ _ hO) r⟩
   ·skip
    exact ⟨23,_,_,_,_,_,hO,by decide,fun wx r=>operand_23 s g wx r hs hO,rfl,Tryz.func50,by decide +kernel,fun wx r=>negate_m s g (IntKind.u64.wrap s.x.imm) wx r hM hd (U64.wrap s.x.imm),fun w' b r=>RunT.yes b (eff_23 _ _ hO) r⟩
   ·skip
    cases h1:(cutI (s.m.r 2) s.x.w) != 0
    case true=>
     exact ⟨24,_,_,_,_,_,hO,by decide,fun wx r=>operand_24 s g wx r hs hO,rfl,Tryz.func51,by decide +kernel,fun wx r=>divide_high s g (IntKind.u64.wrap s.x.imm) wx r hM hd h1,fun w' b r=>RunT.no b ((eff_24 _ _ hO).trans (by rw [divB_is,h1];rfl)) r⟩
    cases h2:(cutI (s.m.r s.x.dst.toNat) s.x.w) == 0
    case true=>
     exact ⟨24,_,_,_,_,_,hO,by decide,fun wx r=>operand_24 s g wx r hs hO,rfl,Tryz.func51,by decide +kernel,fun wx r=>divide_zero s g (IntKind.u64.wrap s.x.imm) wx r hM hd h1 h2,fun w' b r=>RunT.no b ((eff_24 _ _ hO).trans (by rw [divB_is,h1,h2];rfl)) r⟩
    exact ⟨24,_,_,_,_,_,hO,by decide,fun wx r=>operand_24 s g wx r hs hO,rfl,Tryz.func51,by decide +kernel,fun wx r=>divide_ok s g (IntKind.u64.wrap s.x.imm) wx r hM hd h1 h2,fun w' b r=>RunT.yes b ((eff_24 _ _ hO).trans (by rw [divB_is,h1,h2];rfl)) r⟩
   ·skip
    cases eK:s.m.f.k
    case false=>
     exact ⟨25,_,_,_,_,_,hO,by decide,fun wx r=>operand_25 s g wx r hs hO,rfl,Tryz.func52,by decide +kernel,fun wx r=>moveIf_bad s g (s.m.r s.x.src.toNat) wx r hd eK (hcy (.inl hO)),fun w' b r=>RunT.no b ((eff_25 _ _ hO).trans (by rw [eK];rfl)) r⟩
    cases hh:holF s.x.cc s.m.f
    case false=>
     exact ⟨25,_,_,_,_,_,hO,by decide,fun wx r=>operand_25 s g wx r hs hO,rfl,Tryz.func52,by decide +kernel,fun wx r=>moveIf_no s g (s.m.r s.x.src.toNat) wx r hd eK (hcy (.inl hO)) hh,fun w' b r=>RunT.yes b ((eff_25 _ _ hO).trans (by rw [eK];unfold cmvM;rw [hh];rfl)) r⟩
    exact ⟨25,_,_,_,_,_,hO,by decide,fun wx r=>operand_25 s g wx r hs hO,rfl,Tryz.func52,by decide +kernel,fun wx r=>moveIf_yes s g (s.m.r s.x.src.toNat) wx r hd eK (hcy (.inl hO)) hh,fun w' b r=>RunT.yes b ((eff_25 _ _ hO).trans (by rw [eK];unfold cmvM;rw [hh];rfl)) r⟩
   ·skip
    exact ⟨26,_,_,_,_,_,hO,by decide,fun wx r=>operand_26 s g wx r hs hO,rfl,Tryz.func38,by decide +kernel,fun wx r=>move_m s g s.l wx r hd,fun w' b r=>RunT.yes b (eff_26 _ _ hO) r⟩
   ·skip
    exact ⟨27,_,_,_,_,_,hO,by decide,fun wx r=>operand_27 s g wx r hs hO,rfl,Tryz.func53,by decide +kernel,fun wx r=>leave_m s g (IntKind.u64.wrap s.x.imm) wx r,fun w' b r=>RunT.yes b (eff_27 _ _ hO) r⟩
   ·skip
    exact ⟨28,_,_,_,_,_,hO,by decide,fun wx r=>operand_28 s g wx r hs hO,rfl,Tryz.func54,by decide +kernel,fun wx r=>jump_m s g (IntKind.u64.wrap s.x.imm) wx r,fun w' b r=>RunT.yes b (eff_28 _ _ hO) r⟩
   ·skip
    cases eK:s.m.f.k
    case false=>
     exact ⟨29,_,_,_,_,_,hO,by decide,fun wx r=>operand_29 s g wx r hs hO,rfl,Tryz.func55,by decide +kernel,fun wx r=>jumpIf_bad s g (IntKind.u64.wrap s.x.imm) wx r eK (hcy (.inr hO)),fun w' b r=>RunT.no b ((eff_29 _ _ hO).trans (by rw [eK];rfl)) r⟩
    cases hh:holF s.x.cc s.m.f
    case false=>
     exact ⟨29,_,_,_,_,_,hO,by decide,fun wx r=>operand_29 s g wx r hs hO,rfl,Tryz.func55,by decide +kernel,fun wx r=>jumpIf_no s g (IntKind.u64.wrap s.x.imm) wx r eK (hcy (.inr hO)) hh,fun w' b r=>RunT.yes b ((eff_29 _ _ hO).trans (by rw [eK];unfold jccM;rw [hh];rfl)) r⟩
    exact ⟨29,_,_,_,_,_,hO,by decide,fun wx r=>operand_29 s g wx r hs hO,rfl,Tryz.func55,by decide +kernel,fun wx r=>jumpIf_yes s g (IntKind.u64.wrap s.x.imm) wx r eK (hcy (.inr hO)) hh,fun w' b r=>RunT.yes b ((eff_29 _ _ hO).trans (by rw [eK];unfold jccM;rw [hh];rfl)) r⟩
   ·skip
    exact ⟨30,_,_,_,_,_,hO,by decide,fun wx r=>operand_30 s g wx r hs hO,rfl,Tryz.func56,by decide +kernel,fun wx r=>comeBack_m s g s.l wx r,fun w' b r=>RunT.yes b (eff_30 _ _ hO) r⟩
   ·skip
    exact ⟨31,_,_,_,_,_,hO,by decide,fun wx r=>operand_31 s g wx r hs hO,rfl,Tryz.func57,by decide +kernel,fun wx r=>answer_m s g s.l wx r,fun w' b r=>RunT.yes b (eff_31 _ _ hO) r⟩
 have b_g:=f2.k (f1.k hr)
 have s0_3:=f2.q 0 s0_1
 refine go_reg [⟨g,48,(exC s),some 9,(exC s')⟩,bx g1 69 (fnC g)] [] [some (pt g 0),some (pt g 0),some (pt g 22),some (pt g 22),some (.int .i8 (k:Int)),some (pt g1 k),some (.func (.func F) #[.pointer (some ⟨g,0,none⟩)] #[]),some (pt g 0),some (.int .u64 V),some (.int .i64 R),some (.int .i64 R)] mo f2.d f2.z f2.b (by kernel_rfl) ⟨b_g,b_g1,trivial⟩ (
  kq (fun cx=>ex_mv rfl (cx.rq 0 s0_3)) <|
  kq (fun cx=>ex_nc rfl cx.u0) <|
  kq (fun cx=>ex_fa rfl cx.u0 (faExH75_1_0 _ _)) <|
  kq (fun cx=>ex_fa rfl cx.u0 (faExH26_0_22 _ _)) <|
  hk (fun cx=>cx.v (ex_ld rfl (cx.u 0 rfl) (rft cx 0 rfl (by kernel_rfl)) rfl Tryz.isAgg28) rfl (congrArg (Value.int .i8) hO)) <|
  kq (fun cx=>ex_ia (n:=32) (sz:=1) (q:=k) rfl (cx.rq 3 u_g1) (cx.u 0 rfl) Tryz.underlying69 (by kernel_rfl) (by omega) (by omega) (by simp)) <|
  kq (fun cx=>ex_ld rfl (cx.u 0 rfl) (cx.rn 1 rfl) hF Tryz.isAgg68) <|
  kq (fun cx=>ex_mv rfl (cx.rq 0 s0_3)) <|
  hc (fun _ _ wx cx=>cx.c rfl (args1 cx.u0) Tryz.func58 (by decide +kernel) (hOp wx (cx.rf 0 rfl (by kernel_rfl))) rfl rfl) <|
  hc (fun _ _ wx cx=>callTb cx (wn rfl) rfl (cx.u 0 rfl) (args1 (cx.u 1 rfl)) rfl hfn hok (hC wx (cx.ri 0 rfl)) rfl rfl 0 rfl hV rfl ⟨(ne_row (f1.k hr) q_g1).symm,trivial⟩ rfl) <|
  kmu 0 <|
  hn) ?_
 intro a3 w3 f3
 have bt3:=But.step f3 bt2 f2.b ⟨.inr rfl,.inl rfl,trivial⟩
 refine wp_ret ?_
 try simp only [Exit.inBlock,Exit.then]
 refine bodyPost_ret (res_t (fn:=Tryz.f21) rfl (f3.vv 10)) f3.d ?_
 exact hE _ bt3 f3.rows.1
end Go.Proofs.YtjhedldplmhmjaaGreatDoor.Exe
namespace Go.Proofs.YtjhedldplmhmjaaGreatDoor.Mrm
open Go Go.RowKit
set_option maxRecDepth 100000
theorem bytes_some (x:Xi)(hX:XOk x)(h:mayX x=true):1≤(bytesX x).length:=by
 rw [← encX_is x hX h]
 unfold encX encP aheadP
 simp only [List.length_append,List.length_cons,List.length_nil]
 omega
end Go.Proofs.YtjhedldplmhmjaaGreatDoor.Mrm
namespace Go.Proofs.YtjhedldplmhmjaaGreatDoor.Exe
open Go Go.RowKit
open Mrm (Xi xC zX mayX bytesX)
open Flg (Fl fC zF addF subF ofF holF holE mayC)
set_option maxRecDepth 100000
theorem faExI36_2_0 (g:Nat)(w:World):(Instr.fieldAt 27 (.pointer (some ⟨g,0,none⟩)) 2).run Tryz.prog w=.ok (.pointer (some ⟨g,21,none⟩)) w:=by simp [go_sem]
theorem faExI75_0_0 (g:Nat)(w:World):(Instr.fieldAt 48 (.pointer (some ⟨g,0,none⟩)) 0).run Tryz.prog w=.ok (.pointer (some ⟨g,0,none⟩)) w:=by simp [go_sem]
def zE:Ex:=⟨zM,zX,0⟩
def mkEx (m:Mc)(x:Xi)(l:Int):Ex:=⟨m,x,l⟩
def mcL (m:Mc):List Value:=[.int .u64 (m.r 0),.int .u64 (m.r 1),.int .u64 (m.r 2),.int .u64 (m.r 3),.int .u64 (m.r 4),.int .u64 (m.r 5),.int .u64 (m.r 6),.int .u64 (m.r 7),.int .u64 (m.r 8),.int .u64 (m.r 9),.int .u64 (m.r 10),.int .u64 (m.r 11),.int .u64 (m.r 12),.int .u64 (m.r 13),.int .u64 (m.r 14),.int .u64 (m.r 15),.bool m.f.k,.bool m.f.c,.bool m.f.z,.bool m.f.s,.bool m.f.o,.int .u64 m.a]
theorem mcC_one (m:Mc):(mcC m).all (·.oneCell')=true:=by kernel_rfl
theorem exC_one (s:Ex):(exC s).all (·.oneCell')=true:=by kernel_rfl
section
variable {ρ:Operand→Value} {o:Oper} {w:World} {x y:Operand} {g:Nat} {fr:Nat × Nat} {T t u:TypeId}
theorem ldMc {m:Mc}(ho:o.op=.load 27 x)(hx:ρ x=.pointer (some ⟨g,0,none⟩))(hg:w.heap[g]?=some (.cells (mcC m) T fr)):(execOp ρ o).run Tryz.prog w=.ok (.value (.agg (mcC m))) w:=
 exec_loadR 27 x ho g 0 hx hg (mcL m) rfl _ Tryz.underlying27 rfl (by kernel_rfl)
theorem ldExM {s:Ex}(ho:o.op=.load 27 x)(hx:ρ x=.pointer (some ⟨g,0,none⟩))(hg:w.heap[g]?=some (.cells (exC s) T fr)):(execOp ρ o).run Tryz.prog w=.ok (.value (.agg (mcC s.m))) w:=
 exec_loadR 27 x ho g 0 hx hg (mcL s.m) rfl _ Tryz.underlying27 rfl (by kernel_rfl)
theorem al_mc (ho:o.op=.alloc 27):(execOp ρ o).run Tryz.prog w=.ok (.value (.pointer (some ⟨w.heap.size,0,none⟩))) (w.alloc (.cells (mcC zM) 27)):=by
 simp [execOp,ho,go_sem]
 rfl
theorem al_ex (ho:o.op=.alloc 48):(execOp ρ o).run Tryz.prog w=.ok (.value (.pointer (some ⟨w.heap.size,0,none⟩))) (w.alloc (.cells (exC zE) 48)):=by
 simp [execOp,ho,go_sem]
 rfl
theorem ex_zmc (ho:o.op=.build 27 #[]):(execOp ρ o).run Tryz.prog w=.ok (.value (.agg (mcC zM))) w:=exec_build ho (vs:=#[]) (by simp) (by kernel_rfl)
end
theorem may_cc {x:Xi}(h:mayX x=true):x.op=25∨x.op=29→mayC x.cc=true:=by
 have c:Mrm.clsB (Mrm.clsI x.op) x=true:=by
  unfold mayX at h
  simp only [Bool.and_eq_true] at h
  exact h.2.2.2.2.2.2.2
 intro e
 have k:Mrm.ccB x.cc=true→mayC x.cc=true:=fun q=>by
  unfold Mrm.ccB at q
  unfold mayC
  simp only [Bool.and_eq_true,Bool.or_eq_true,decide_eq_true_eq,beq_iff_eq] at q ⊢
  omega
 apply k
 rcases e with e | e
 ·rw [show Mrm.clsI x.op=5 by rw [e];rfl] at c
  have c2:(Mrm.longB x.w && Mrm.ccB x.cc)=true:=c
  rw [Bool.and_eq_true] at c2
  exact c2.2
 ·rw [show Mrm.clsI x.op=9 by rw [e];rfl] at c
  have c2:(Mrm.jmpB x && Mrm.ccB x.cc)=true:=c
  rw [Bool.and_eq_true] at c2
  exact c2.2
theorem len_pos {x:Xi}(hX:Mrm.XOk x)(h:mayX x=true):(lenX x == 0)=false:=by
 have:=Mrm.bytes_some x hX h
 unfold lenX
 rw [beq_eq_false_iff_ne]
 omega
theorem len_yes (x:Xi)(hX:Mrm.XOk x)(W:World)(hT:Mrm.Tabs W)(h:mayX x=true):Calls Tryz.prog 20 #[.agg (xC x)] W fun e w'=>e=.returned (.int .i64 (lenX x))∧Below W.heap.size W w':=by
 have q:=Mrm.len_n x hX W hT
 rw [show Mrm.bytL x=bytesX x by unfold Mrm.bytL;rw [h];rfl] at q
 exact q
theorem len_no (x:Xi)(hX:Mrm.XOk x)(W:World)(hT:Mrm.Tabs W)(h:mayX x=false):Calls Tryz.prog 20 #[.agg (xC x)] W fun e w'=>e=.returned (.int .i64 0)∧Below W.heap.size W w':=by
 have q:=Mrm.len_n x hX W hT
 rw [show Mrm.bytL x=[] by unfold Mrm.bytL;rw [h];rfl] at q
 exact q
theorem run_yes (s:Ex)(g:Nat)(W:World)(hr:W.heap[g]?=some (.cells (exC s) 48 (0,0)))(hX:mayX s.x=true)(hM:MOk s.m)(hl:U64 s.l){m:Mc}(E:effX s.m s.x s.l=some m):Calls Tryz.prog 21 #[.pointer (some ⟨g,0,none⟩)] W (RetT (.int .i64 0) (exC (mkEx m s.x s.l)) 48 g W):=by
 have p:=Mrm.may_parts' hX
 refine (run_n s g W hr hM hl p.2.1 p.2.2.1 p.1 (may_cc hX)).mono ?_
 rintro e w' ⟨b,h⟩
 rw [E] at h
 exact ⟨h.1,b,h.2⟩
theorem run_no (s:Ex)(g:Nat)(W:World)(hr:W.heap[g]?=some (.cells (exC s) 48 (0,0)))(hX:mayX s.x=true)(hM:MOk s.m)(hl:U64 s.l)(E:effX s.m s.x s.l=none):Calls Tryz.prog 21 #[.pointer (some ⟨g,0,none⟩)] W (RetT (.int .i64 20) (exC s) 48 g W):=by
 have p:=Mrm.may_parts' hX
 refine (run_n s g W hr hM hl p.2.1 p.2.2.1 p.1 (may_cc hX)).mono ?_
 rintro e w' ⟨b,h⟩
 rw [E] at h
 exact ⟨h.1,b,h.2⟩
def adrX (m:Mc)(x:Xi):Int:=if mayX x=true then (if x.op=26∨x.op=27 then IntKind.u64.wrap (m.r x.base.toNat+IntKind.u64.wrap x.disp) else if x.op=30 then m.r 4 else 0) else 0
def sizX (x:Xi):Int:=if mayX x=true then (if x.op=26∨x.op=27 then x.w / 8 else if x.op=30 then 8 else 0) else 0
def hasX (x:Xi):Bool:=mayX x && (x.op == 26 || x.op == 27 || x.op == 30)
def stoX (m:Mc)(x:Xi):Int:=if mayX x=true∧x.op=27 then cutI (m.r x.src.toNat) x.w else 0
theorem do_no (m:Mc)(x:Xi)(l:Int)(W:World)(hT:Mrm.Tabs W)(hX:Mrm.XOk x)(hM:MOk m)(hm:mayX x=false):Calls Tryz.prog 4 #[.agg (mcC m),.agg (xC x),.int .u64 l] W fun e w'=>e=.returned (.tuple #[.agg (mcC zM),.int .i64 2])∧Below W.heap.size W w':=by
 refine calls_abs Tryz.func4 rfl (Nat.le_of_ble_eq_true rfl) ?_
 intro a0 d0 z0 h0
 replace z0:a0.tmps.size=33:=z0
 have s0_0:a0.tmps.getD 0 undef=.agg (mcC m):=h0 0 (Nat.le_of_ble_eq_true rfl)
 have s1_0:a0.tmps.getD 1 undef=.agg (xC x):=h0 1 (Nat.le_of_ble_eq_true rfl)
 have s2_0:a0.tmps.getD 2 undef=.int .u64 l:=h0 2 (Nat.le_of_ble_eq_true rfl)
 refine wp_seq ?_
 refine go_reg [] [⟨0,3,27,(mcC m),none,#[]⟩,⟨1,4,30,(xC x),none,#[]⟩,⟨2,6,27,(mcC zM),none,#[]⟩] [none,none,none,some (.int .i64 0)] mo d0 z0 (Below.refl _ _) (by kernel_rfl) trivial (
  hk (fun cx=>cx.al (wn rfl) 0 rfl (ex_box rfl (cx.rq 0 s0_0) rfl) rfl rfl rfl rfl rfl trivial) <|
  hk (fun cx=>cx.al (wn rfl) 1 rfl (ex_box rfl (cx.rq 1 s1_0) rfl) rfl rfl rfl rfl rfl trivial) <|
  hk (fun cx=>cx.al (wn rfl) 2 rfl (al_mc rfl) rfl rfl rfl rfl rfl trivial) <|
  kq (fun cx=>ex_as rfl rfl) <|
  hn) ?_
 intro a1 w1 f1
 obtain ⟨g1,u_g1,q_g1,b_g1⟩:=f1.al.1
 obtain ⟨g2,u_g2,q_g2,b_g2⟩:=f1.al.2.1
 obtain ⟨g3,u_g3,q_g3,b_g3⟩:=f1.al.2.2.1
 refine wp_seq ?_
 refine go_reg [bx g2 30 (xC x)] [] [some (.agg (xC x)),some (.int .i64 0),some (.int .i64 0)] mo f1.d f1.z f1.b (by kernel_rfl) ⟨b_g2,trivial⟩ (
  kq (fun cx=>Mrm.ldX rfl (cx.rq 4 u_g2) (cx.rn 0 rfl)) <|
  hc (fun _ _ wx cx=>cx.c rfl (args1 cx.u0) Tryz.func20 (by decide +kernel) (len_no x hX wx (hT.below cx.S.1.1 (Nat.le_refl _)) hm) rfl rfl) <|
  kmu 0 <|
  hn) ?_
 intro a2 w2 f2
 refine wp_seq ?_
 refine wp_seq ?_
 refine go_reg [] [] [some (.int .i64 0),oT] mo f2.d f2.z f2.b (by kernel_rfl) trivial (
  kq (fun cx=>ex_mv rfl (cx.rq 8 (f2.vv 2))) <|
  hk (fun cx=>cx.v (ex_eq (x:=.tmp 13) rfl cx.u0 rfl) rfl (congrArg Value.bool (by decide))) <|
  hn) ?_
 intro a3 w3 f3
 refine wp_cond_true (f3.vv 1) ?_
 refine wp_seq ?_
 have b_g3_1:=f3.k (f2.k b_g3)
 have s6_2:=f3.q 6 (f2.q 6 u_g3)
 refine go_reg [⟨g3,27,(mcC zM),some 1,(mcC zM)⟩] [] [some (.agg (mcC zM)),none,some (.int .i64 2)] mo f3.d f3.z f3.b (by kernel_rfl) ⟨b_g3_1,trivial⟩ (
  kq (fun cx=>ex_zmc rfl) <|
  hk (fun cx=>cx.stR (wn rfl) rfl rfl 0 rfl (cx.rq 6 s6_2) (cx.u 0 rfl) (by kernel_rfl) (Eq.refl 22) (mcC_one _) q_g3 rfl trivial trivial) <|
  kq (fun cx=>ex_as rfl rfl) <|
  hn) ?_
 intro a4 w4 f4
 refine wp_ret ?_
 have s6_3:=f4.q 6 s6_2
 try simp only [Exit.inBlock,Exit.then]
 refine bodyPost_ret (res_ct (fn:=Tryz.f4) rfl s6_3 (load_row 27 f4.rows.1 Tryz.underlying27 rfl (by kernel_rfl)) (f4.vv 2)) f4.d ?_
 exact ⟨rfl,f4.b⟩
theorem do_bad (m:Mc)(x:Xi)(l:Int)(W:World)(hT:Mrm.Tabs W)(hX:Mrm.XOk x)(hM:MOk m)(hm:mayX x=true)(hl:U64 l)(hE:goX m x l=none):Calls Tryz.prog 4 #[.agg (mcC m),.agg (xC x),.int .u64 l] W fun e w'=>e=.returned (.tuple #[.agg (mcC zM),.int .i64 20])∧Below W.heap.size W w':=by
 refine calls_abs Tryz.func4 rfl (Nat.le_of_ble_eq_true rfl) ?_
 intro a0 d0 z0 h0
 replace z0:a0.tmps.size=33:=z0
 have s0_0:a0.tmps.getD 0 undef=.agg (mcC m):=h0 0 (Nat.le_of_ble_eq_true rfl)
 have s1_0:a0.tmps.getD 1 undef=.agg (xC x):=h0 1 (Nat.le_of_ble_eq_true rfl)
 have s2_0:a0.tmps.getD 2 undef=.int .u64 l:=h0 2 (Nat.le_of_ble_eq_true rfl)
 refine wp_seq ?_
 refine go_reg [] [⟨0,3,27,(mcC m),none,#[]⟩,⟨1,4,30,(xC x),none,#[]⟩,⟨2,6,27,(mcC zM),none,#[]⟩] [none,none,none,some (.int .i64 0)] mo d0 z0 (Below.refl _ _) (by kernel_rfl) trivial (
  hk (fun cx=>cx.al (wn rfl) 0 rfl (ex_box rfl (cx.rq 0 s0_0) rfl) rfl rfl rfl rfl rfl trivial) <|
  hk (fun cx=>cx.al (wn rfl) 1 rfl (ex_box rfl (cx.rq 1 s1_0) rfl) rfl rfl rfl rfl rfl trivial) <|
  hk (fun cx=>cx.al (wn rfl) 2 rfl (al_mc rfl) rfl rfl rfl rfl rfl trivial) <|
  kq (fun cx=>ex_as rfl rfl) <|
  hn) ?_
 intro a1 w1 f1
 obtain ⟨g1,u_g1,q_g1,b_g1⟩:=f1.al.1
 obtain ⟨g2,u_g2,q_g2,b_g2⟩:=f1.al.2.1
 obtain ⟨g3,u_g3,q_g3,b_g3⟩:=f1.al.2.2.1
 refine wp_seq ?_
 refine go_reg [bx g2 30 (xC x)] [] [some (.agg (xC x)),some (.int .i64 (lenX x)),some (.int .i64 (lenX x))] mo f1.d f1.z f1.b (by kernel_rfl) ⟨b_g2,trivial⟩ (
  kq (fun cx=>Mrm.ldX rfl (cx.rq 4 u_g2) (cx.rn 0 rfl)) <|
  hc (fun _ _ wx cx=>cx.c rfl (args1 cx.u0) Tryz.func20 (by decide +kernel) (len_yes x hX wx (hT.below cx.S.1.1 (Nat.le_refl _)) hm) rfl rfl) <|
  kmu 0 <|
  hn) ?_
 intro a2 w2 f2
 refine wp_seq ?_
 refine wp_seq ?_
 refine go_reg [] [] [some (.int .i64 (lenX x)),oF] mo f2.d f2.z f2.b (by kernel_rfl) trivial (
  kq (fun cx=>ex_mv rfl (cx.rq 8 (f2.vv 2))) <|
  hk (fun cx=>cx.v (ex_eq (x:=.tmp 13) rfl cx.u0 rfl) rfl (congrArg Value.bool (len_pos hX hm))) <|
  hn) ?_
 intro a3 w3 f3
 refine wp_cond_false (f3.vv 1) ?_
 refine wp_skip ?_
 refine wp_seq ?_
 have b_g1_1:=f3.k (f2.k b_g1)
 have s3_2:=f3.q 3 (f2.q 3 u_g1)
 have s8_3:=f3.q 8 (f2.vv 2)
 refine go_reg [⟨g1,27,(mcC m),some 6,(mcC (m.upA (IntKind.u64.wrap (m.a+(IntKind.u64.wrap (lenX x))))))⟩] [] [some (pt g1 21),some (.int .u64 m.a),some (.int .i64 (lenX x)),some (.int .u64 (IntKind.u64.wrap (lenX x))),some (.int .u64 (IntKind.u64.wrap (m.a+(IntKind.u64.wrap (lenX x))))),some (pt g1 21),none] mo f3.d f3.z f3.b (by kernel_rfl) ⟨b_g1_1,trivial⟩ (
  kq (fun cx=>ex_fa rfl (cx.rq 3 s3_2) (faExI36_2_0 _ _)) <|
  kq (fun cx=>ex_ld rfl (cx.u 0 rfl) (cx.rf 0 rfl (by kernel_rfl)) rfl Tryz.isAgg22) <|
  kq (fun cx=>ex_mv rfl (cx.rq 8 s8_3)) <|
  kq (fun cx=>ex_conv (x:=.tmp 18) rfl cx.u0 Tryz.underlying3 Tryz.underlying22) <|
  kq (fun cx=>ex_add (x:=.tmp 17) (y:=.tmp 19) rfl cx.u0 cx.u1) <|
  kq (fun cx=>ex_fa rfl (cx.rq 3 s3_2) (faExI36_2_0 _ _)) <|
  hk (fun cx=>cx.stC (wn rfl) rfl rfl 0 rfl (cx.u 0 rfl) (cx.u 1 rfl) rfl rfl (by kernel_rfl) rfl rfl q_g1 rfl trivial trivial) <|
  hn) ?_
 intro a4 w4 f4
 refine wp_seq ?_
 have b_g2_4:=f4.kp (f3.k (f2.k b_g2)) ⟨.inr (ne_ptr (pairAt f1.ps 0 1 (by decide) rfl rfl) u_g1 u_g2).symm,trivial⟩
 have s3_5:=f4.q 3 s3_2
 have s4_6:=f4.q 4 (f3.q 4 (f2.q 4 u_g2))
 have s2_7:=f4.q 2 (f3.q 2 (f2.q 2 (f1.q 2 s2_0)))
 refine go_reg [bx g1 27 (mcC (m.upA (IntKind.u64.wrap (m.a+(IntKind.u64.wrap (lenX x)))))),bx g2 30 (xC x)] [⟨4,9,48,(exC zE),some 5,(exC (mkEx (m.upA (IntKind.u64.wrap (m.a+(IntKind.u64.wrap (lenX x))))) x l))⟩] [some (.agg (mcC (m.upA (IntKind.u64.wrap (m.a+(IntKind.u64.wrap (lenX x))))))),some (.agg (xC x)),some (.int .u64 l),some (.agg (exC (mkEx (m.upA (IntKind.u64.wrap (m.a+(IntKind.u64.wrap (lenX x))))) x l))),none,none] mo f4.d f4.z f4.b (by kernel_rfl) ⟨f4.rows.1,b_g2_4,trivial⟩ (
  kq (fun cx=>ldMc rfl (cx.rq 3 s3_5) (cx.rn 0 rfl)) <|
  kq (fun cx=>Mrm.ldX rfl (cx.rq 4 s4_6) (cx.rn 1 rfl)) <|
  kq (fun cx=>ex_mv rfl (cx.rq 2 s2_7)) <|
  kq (fun cx=>exec_build rfl (parts3 (cx.u 0 rfl) (cx.u 1 rfl) (cx.u 2 rfl)) (by kernel_rfl)) <|
  hk (fun cx=>cx.al (wn rfl) 0 rfl (al_ex rfl) rfl rfl rfl rfl (by kernel_rfl) trivial) <|
  hk (fun cx=>cx.stA (wn rfl) rfl rfl 0 0 rfl rfl rfl rfl (cx.u 1 rfl) (by kernel_rfl) (Eq.refl 31) (exC_one _) f4.b.size rfl rfl trivial) <|
  hn) ?_
 intro a5 w5 f5
 obtain ⟨g4,u_g4,q_g4,b_g4⟩:=f5.al.1
 refine wp_seq ?_
 refine wp_seq ?_
 refine go_reg [⟨g4,48,(exC (mkEx (m.upA (IntKind.u64.wrap (m.a+(IntKind.u64.wrap (lenX x))))) x l)),some 0,(exC (mkEx (m.upA (IntKind.u64.wrap (m.a+(IntKind.u64.wrap (lenX x))))) x l))⟩] [] [some (.int .i64 20),some (.int .i64 20)] mo f5.d f5.z f5.b (by kernel_rfl) ⟨b_g4,trivial⟩ (
  hc (fun _ _ wx cx=>callT cx (wn rfl) rfl (args1 (cx.rq 9 u_g4)) Tryz.func21 (by decide +kernel) (run_no (mkEx (m.upA (IntKind.u64.wrap (m.a+(IntKind.u64.wrap (lenX x))))) x l) g4 wx (cx.ri 0 rfl) hm (hM.upA (U64.wrap _)) hl hE) rfl rfl 0 rfl (Nat.le_trans f4.b.size q_g4) rfl trivial rfl) <|
  kmu 0 <|
  hn) ?_
 intro a6 w6 f6
 refine wp_seq ?_
 refine go_reg [] [] [some (.int .i64 20),oT] mo f6.d f6.z f6.b (by kernel_rfl) trivial (
  kq (fun cx=>ex_mv rfl (cx.rq 10 (f6.vv 1))) <|
  hk (fun cx=>cx.v (ex_ne (x:=.tmp 27) rfl cx.u0 rfl) rfl (congrArg Value.bool (by decide))) <|
  hn) ?_
 intro a7 w7 f7
 refine wp_cond_true (f7.vv 1) ?_
 refine wp_seq ?_
 have b_g3_8:=f7.k (f6.kp (f5.k (f4.kp (f3.k (f2.k b_g3)) ⟨.inr (ne_ptr (pairAt f1.ps 0 2 (by decide) rfl rfl) u_g1 u_g3).symm,trivial⟩)) ⟨.inr (ne_row (f4.kp (f3.k (f2.k b_g3)) ⟨.inr (ne_ptr (pairAt f1.ps 0 2 (by decide) rfl rfl) u_g1 u_g3).symm,trivial⟩) q_g4),trivial⟩)
 have s10_9:=f7.q 10 (f6.vv 1)
 have s6_10:=f7.q 6 (f6.q 6 (f5.q 6 (f4.q 6 (f3.q 6 (f2.q 6 u_g3)))))
 refine go_reg [⟨g3,27,(mcC zM),some 2,(mcC zM)⟩] [] [some (.agg (mcC zM)),some (.int .i64 20),none,some (.int .i64 20)] mo f7.d f7.z f7.b (by kernel_rfl) ⟨b_g3_8,trivial⟩ (
  kq (fun cx=>ex_zmc rfl) <|
  kq (fun cx=>ex_mv rfl (cx.rq 10 s10_9)) <|
  hk (fun cx=>cx.stR (wn rfl) rfl rfl 0 rfl (cx.rq 6 s6_10) (cx.u 0 rfl) (by kernel_rfl) (Eq.refl 22) (mcC_one _) q_g3 rfl trivial trivial) <|
  kmu 0 <|
  hn) ?_
 intro a8 w8 f8
 refine wp_ret ?_
 have s6_11:=f8.q 6 s6_10
 try simp only [Exit.inBlock,Exit.then]
 refine bodyPost_ret (res_ct (fn:=Tryz.f4) rfl s6_11 (load_row 27 f8.rows.1 Tryz.underlying27 rfl (by kernel_rfl)) (f8.vv 3)) f8.d ?_
 exact ⟨rfl,f8.b⟩
theorem do_ok (m m':Mc)(x:Xi)(l:Int)(W:World)(hT:Mrm.Tabs W)(hX:Mrm.XOk x)(hM:MOk m)(hm:mayX x=true)(hl:U64 l)(hE:goX m x l=some m'):Calls Tryz.prog 4 #[.agg (mcC m),.agg (xC x),.int .u64 l] W fun e w'=>e=.returned (.tuple #[.agg (mcC m'),.int .i64 0])∧Below W.heap.size W w':=by
 refine calls_abs Tryz.func4 rfl (Nat.le_of_ble_eq_true rfl) ?_
 intro a0 d0 z0 h0
 replace z0:a0.tmps.size=33:=z0
 have s0_0:a0.tmps.getD 0 undef=.agg (mcC m):=h0 0 (Nat.le_of_ble_eq_true rfl)
 have s1_0:a0.tmps.getD 1 undef=.agg (xC x):=h0 1 (Nat.le_of_ble_eq_true rfl)
 have s2_0:a0.tmps.getD 2 undef=.int .u64 l:=h0 2 (Nat.le_of_ble_eq_true rfl)
 refine wp_seq ?_
 refine go_reg [] [⟨0,3,27,(mcC m),none,#[]⟩,⟨1,4,30,(xC x),none,#[]⟩,⟨2,6,27,(mcC zM),none,#[]⟩] [none,none,none,some (.int .i64 0)] mo d0 z0 (Below.refl _ _) (by kernel_rfl) trivial (
  hk (fun cx=>cx.al (wn rfl) 0 rfl (ex_box rfl (cx.rq 0 s0_0) rfl) rfl rfl rfl rfl rfl trivial) <|
  hk (fun cx=>cx.al (wn rfl) 1 rfl (ex_box rfl (cx.rq 1 s1_0) rfl) rfl rfl rfl rfl rfl trivial) <|
  hk (fun cx=>cx.al (wn rfl) 2 rfl (al_mc rfl) rfl rfl rfl rfl rfl trivial) <|
  kq (fun cx=>ex_as rfl rfl) <|
  hn) ?_
 intro a1 w1 f1
 obtain ⟨g1,u_g1,q_g1,b_g1⟩:=f1.al.1
 obtain ⟨g2,u_g2,q_g2,b_g2⟩:=f1.al.2.1
 obtain ⟨g3,u_g3,q_g3,b_g3⟩:=f1.al.2.2.1
 refine wp_seq ?_
 refine go_reg [bx g2 30 (xC x)] [] [some (.agg (xC x)),some (.int .i64 (lenX x)),some (.int .i64 (lenX x))] mo f1.d f1.z f1.b (by kernel_rfl) ⟨b_g2,trivial⟩ (
  kq (fun cx=>Mrm.ldX rfl (cx.rq 4 u_g2) (cx.rn 0 rfl)) <|
  hc (fun _ _ wx cx=>cx.c rfl (args1 cx.u0) Tryz.func20 (by decide +kernel) (len_yes x hX wx (hT.below cx.S.1.1 (Nat.le_refl _)) hm) rfl rfl) <|
  kmu 0 <|
  hn) ?_
 intro a2 w2 f2
 refine wp_seq ?_
 refine wp_seq ?_
 refine go_reg [] [] [some (.int .i64 (lenX x)),oF] mo f2.d f2.z f2.b (by kernel_rfl) trivial (
  kq (fun cx=>ex_mv rfl (cx.rq 8 (f2.vv 2))) <|
  hk (fun cx=>cx.v (ex_eq (x:=.tmp 13) rfl cx.u0 rfl) rfl (congrArg Value.bool (len_pos hX hm))) <|
  hn) ?_
 intro a3 w3 f3
 refine wp_cond_false (f3.vv 1) ?_
 refine wp_skip ?_
 refine wp_seq ?_
 have b_g1_1:=f3.k (f2.k b_g1)
 have s3_2:=f3.q 3 (f2.q 3 u_g1)
 have s8_3:=f3.q 8 (f2.vv 2)
 refine go_reg [⟨g1,27,(mcC m),some 6,(mcC (m.upA (IntKind.u64.wrap (m.a+(IntKind.u64.wrap (lenX x))))))⟩] [] [some (pt g1 21),some (.int .u64 m.a),some (.int .i64 (lenX x)),some (.int .u64 (IntKind.u64.wrap (lenX x))),some (.int .u64 (IntKind.u64.wrap (m.a+(IntKind.u64.wrap (lenX x))))),some (pt g1 21),none] mo f3.d f3.z f3.b (by kernel_rfl) ⟨b_g1_1,trivial⟩ (
  kq (fun cx=>ex_fa rfl (cx.rq 3 s3_2) (faExI36_2_0 _ _)) <|
  kq (fun cx=>ex_ld rfl (cx.u 0 rfl) (cx.rf 0 rfl (by kernel_rfl)) rfl Tryz.isAgg22) <|
  kq (fun cx=>ex_mv rfl (cx.rq 8 s8_3)) <|
  kq (fun cx=>ex_conv (x:=.tmp 18) rfl cx.u0 Tryz.underlying3 Tryz.underlying22) <|
  kq (fun cx=>ex_add (x:=.tmp 17) (y:=.tmp 19) rfl cx.u0 cx.u1) <|
  kq (fun cx=>ex_fa rfl (cx.rq 3 s3_2) (faExI36_2_0 _ _)) <|
  hk (fun cx=>cx.stC (wn rfl) rfl rfl 0 rfl (cx.u 0 rfl) (cx.u 1 rfl) rfl rfl (by kernel_rfl) rfl rfl q_g1 rfl trivial trivial) <|
  hn) ?_
 intro a4 w4 f4
 refine wp_seq ?_
 have b_g2_4:=f4.kp (f3.k (f2.k b_g2)) ⟨.inr (ne_ptr (pairAt f1.ps 0 1 (by decide) rfl rfl) u_g1 u_g2).symm,trivial⟩
 have s3_5:=f4.q 3 s3_2
 have s4_6:=f4.q 4 (f3.q 4 (f2.q 4 u_g2))
 have s2_7:=f4.q 2 (f3.q 2 (f2.q 2 (f1.q 2 s2_0)))
 refine go_reg [bx g1 27 (mcC (m.upA (IntKind.u64.wrap (m.a+(IntKind.u64.wrap (lenX x)))))),bx g2 30 (xC x)] [⟨4,9,48,(exC zE),some 5,(exC (mkEx (m.upA (IntKind.u64.wrap (m.a+(IntKind.u64.wrap (lenX x))))) x l))⟩] [some (.agg (mcC (m.upA (IntKind.u64.wrap (m.a+(IntKind.u64.wrap (lenX x))))))),some (.agg (xC x)),some (.int .u64 l),some (.agg (exC (mkEx (m.upA (IntKind.u64.wrap (m.a+(IntKind.u64.wrap (lenX x))))) x l))),none,none] mo f4.d f4.z f4.b (by kernel_rfl) ⟨f4.rows.1,b_g2_4,trivial⟩ (
  kq (fun cx=>ldMc rfl (cx.rq 3 s3_5) (cx.rn 0 rfl)) <|
  kq (fun cx=>Mrm.ldX rfl (cx.rq 4 s4_6) (cx.rn 1 rfl)) <|
  kq (fun cx=>ex_mv rfl (cx.rq 2 s2_7)) <|
  kq (fun cx=>exec_build rfl (parts3 (cx.u 0 rfl) (cx.u 1 rfl) (cx.u 2 rfl)) (by kernel_rfl)) <|
  hk (fun cx=>cx.al (wn rfl) 0 rfl (al_ex rfl) rfl rfl rfl rfl (by kernel_rfl) trivial) <|
  hk (fun cx=>cx.stA (wn rfl) rfl rfl 0 0 rfl rfl rfl rfl (cx.u 1 rfl) (by kernel_rfl) (Eq.refl 31) (exC_one _) f4.b.size rfl rfl trivial) <|
  hn) ?_
 intro a5 w5 f5
 obtain ⟨g4,u_g4,q_g4,b_g4⟩:=f5.al.1
 refine wp_seq ?_
 refine wp_seq ?_
 refine go_reg [⟨g4,48,(exC (mkEx (m.upA (IntKind.u64.wrap (m.a+(IntKind.u64.wrap (lenX x))))) x l)),some 0,(exC (mkEx m' x l))⟩] [] [some (.int .i64 0),some (.int .i64 0)] mo f5.d f5.z f5.b (by kernel_rfl) ⟨b_g4,trivial⟩ (
  hc (fun _ _ wx cx=>callT cx (wn rfl) rfl (args1 (cx.rq 9 u_g4)) Tryz.func21 (by decide +kernel) (run_yes (mkEx (m.upA (IntKind.u64.wrap (m.a+(IntKind.u64.wrap (lenX x))))) x l) g4 wx (cx.ri 0 rfl) hm (hM.upA (U64.wrap _)) hl hE) rfl rfl 0 rfl (Nat.le_trans f4.b.size q_g4) rfl trivial rfl) <|
  kmu 0 <|
  hn) ?_
 intro a6 w6 f6
 refine wp_seq ?_
 refine go_reg [] [] [some (.int .i64 0),oF] mo f6.d f6.z f6.b (by kernel_rfl) trivial (
  kq (fun cx=>ex_mv rfl (cx.rq 10 (f6.vv 1))) <|
  hk (fun cx=>cx.v (ex_ne (x:=.tmp 27) rfl cx.u0 rfl) rfl (congrArg Value.bool (by decide))) <|
  hn) ?_
 intro a7 w7 f7
 refine wp_cond_false (f7.vv 1) ?_
 refine wp_skip ?_
 refine wp_seq ?_
 have b_g4_8:=f7.k f6.rows.1
 have b_g3_9:=f7.k (f6.kp (f5.k (f4.kp (f3.k (f2.k b_g3)) ⟨.inr (ne_ptr (pairAt f1.ps 0 2 (by decide) rfl rfl) u_g1 u_g3).symm,trivial⟩)) ⟨.inr (ne_row (f4.kp (f3.k (f2.k b_g3)) ⟨.inr (ne_ptr (pairAt f1.ps 0 2 (by decide) rfl rfl) u_g1 u_g3).symm,trivial⟩) q_g4),trivial⟩)
 have s9_10:=f7.q 9 (f6.q 9 u_g4)
 have s6_11:=f7.q 6 (f6.q 6 (f5.q 6 (f4.q 6 (f3.q 6 (f2.q 6 u_g3)))))
 refine go_reg [bx g4 48 (exC (mkEx m' x l)),⟨g3,27,(mcC zM),some 2,(mcC (mkEx m' x l).m)⟩] [] [some (pt g4 0),some (.agg (mcC (mkEx m' x l).m)),none,some (.int .i64 0)] mo f7.d f7.z f7.b (by kernel_rfl) ⟨b_g4_8,b_g3_9,trivial⟩ (
  kq (fun cx=>ex_fa rfl (cx.rq 9 s9_10) (faExI75_0_0 _ _)) <|
  kq (fun cx=>ldExM rfl (cx.u 0 rfl) (cx.rn 0 rfl)) <|
  hk (fun cx=>cx.stR (wn rfl) rfl rfl 1 rfl (cx.rq 6 s6_11) (cx.u 0 rfl) (by kernel_rfl) (Eq.refl 22) (mcC_one _) q_g3 rfl ⟨(ne_row (f4.kp (f3.k (f2.k b_g3)) ⟨.inr (ne_ptr (pairAt f1.ps 0 2 (by decide) rfl rfl) u_g1 u_g3).symm,trivial⟩) q_g4).symm,trivial⟩ trivial) <|
  kq (fun cx=>ex_as rfl rfl) <|
  hn) ?_
 intro a8 w8 f8
 refine wp_ret ?_
 have s6_12:=f8.q 6 s6_11
 try simp only [Exit.inBlock,Exit.then]
 refine bodyPost_ret (res_ct (fn:=Tryz.f4) rfl s6_12 (load_row 27 f8.rows.2.1 Tryz.underlying27 rfl (by kernel_rfl)) (f8.vv 3)) f8.d ?_
 have HE:(.tuple #[.agg (mcC (mkEx m' x l).m),.int .i64 0]:Value)=.tuple #[.agg (mcC m'),.int .i64 0]:=rfl
 exact ⟨retV HE,f8.b⟩
theorem do_n (m:Mc)(x:Xi)(l:Int)(W:World)(hT:Mrm.Tabs W)(hX:Mrm.XOk x)(hM:MOk m)(hl:U64 l):Calls Tryz.prog 4 #[.agg (mcC m),.agg (xC x),.int .u64 l] W fun e w'=>e=.returned (.tuple #[.agg (mcC (doX m x l)),.int .i64 (doXe m x l)])∧Below W.heap.size W w':=by
 cases hm:mayX x
 ·rw [show doX m x l=zM from if_neg (by rw [hm];exact Bool.false_ne_true),show doXe m x l=2 from if_neg (by rw [hm];exact Bool.false_ne_true)]
  exact do_no m x l W hT hX hM hm
 ·cases hE:goX m x l with
  | none=>
   rw [show doX m x l=zM from (if_pos hm).trans (by rw [hE];rfl),show doXe m x l=20 from (if_pos hm).trans (by rw [hE];rfl)]
   exact do_bad m x l W hT hX hM hm hl hE
  | some m'=>
   rw [show doX m x l=m' from (if_pos hm).trans (by rw [hE];rfl),show doXe m x l=0 from (if_pos hm).trans (by rw [hE];rfl)]
   exact do_ok m m' x l W hT hX hM hm hl hE
end Go.Proofs.YtjhedldplmhmjaaGreatDoor.Exe
