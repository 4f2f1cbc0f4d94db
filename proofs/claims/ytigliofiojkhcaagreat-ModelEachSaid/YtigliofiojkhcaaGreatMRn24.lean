import Derived.Test.YtigliofiojkhcaaGreatMRn23
import Derived.Test.YtigliofiojkhcaaGreatMRn08
import Derived.Test.YtigliofiojkhcaaGreatMRn02
import Derived.Laws.AppendOwn
import Derived.Laws.AppendOwnNone
set_option linter.unusedVariables false
set_option linter.unusedSimpArgs false
set_option linter.unnecessarySimpa false
namespace Go.Proofs.YtigliofiojkhcaaGreat.Mdl
open Go.RowKit Go.Maps Ins Trc
set_option linter.unusedVariables false
set_option linter.unusedSimpArgs false
set_option maxRecDepth 100000
def Md.argsL (s:Md) (n:Nat):List Int:=(List.range n).map (fun k=>s.r (k + 1))
theorem Md.argsL_succ (s:Md) (n:Nat):(s.argsL (n + 1)).map (Value.int .u64)=(s.argsL n).map (Value.int .u64) ++ [.int .u64 (s.r (n + 1))]:=by simp [Md.argsL,List.range_succ]
def Md.clr (s:Md):Nat → Md
  | 0=>s
  | k + 1=>{ (s.clr k).put (k + 1) 0 with set:=bits .andNot .i64 ((s.clr k).put (k + 1) 0).set (onlyI ((k + 1:Nat):Int)) }
def Md.called (s:Md) (ans tv:Value) (av:Int):Md:=(({ s with av:=ans,tv:=tv }:Md).put 0 av).clr 5
set_option maxHeartbeats 2000000 in
theorem r6_call_no (s:Md) (g ca:Nat) (aa:Option Addr) (imm:Int) (W:World) (h:s.in_ W g) (hans:s.av=.slice aa 0 ca):
    Calls Tryz.prog 52 #[.pointer (some ⟨g,0,none⟩),.int .i64 imm] W fun e w'=>e=.returned (.bool false) ∧ W=w':=by
  have c:=Md.c80 h
  rw [hans] at c
  clear h hans
  go_enter Tryz.func52,Tryz.ntmps52
  go_wp2
  go_ret
  exact ⟨rfl,rfl⟩
theorem faL6C103_1_0 (g:Nat) (w:World):(Instr.fieldAt 103 (.pointer (some ⟨g,0,none⟩)) 1).run Tryz.prog w=.ok (.pointer (some ⟨g,1,none⟩)) w:=by simp [go_sem]
theorem faL6C65_2_0 (g:Nat) (w:World):(Instr.fieldAt 65 (.pointer (some ⟨g,0,none⟩)) 2).run Tryz.prog w=.ok (.pointer (some ⟨g,3,none⟩)) w:=by simp [go_sem]
theorem faL6C49_0_3 (g:Nat) (w:World):(Instr.fieldAt 49 (.pointer (some ⟨g,3,none⟩)) 0).run Tryz.prog w=.ok (.pointer (some ⟨g,3,none⟩)) w:=by simp [go_sem]
theorem faL6C65_5_0 (g:Nat) (w:World):(Instr.fieldAt 65 (.pointer (some ⟨g,0,none⟩)) 5).run Tryz.prog w=.ok (.pointer (some ⟨g,81,none⟩)) w:=by simp [go_sem]
theorem ex_ix6 {ρ:Operand → Value} {o:Oper} {w:World} {x y:Operand} {g k:Nat} (ho:o.op=.indexAddr 46 x y) (hx:ρ x=.pointer (some ⟨g,3,none⟩)) (hy:ρ y=.int .i64 ((k:Int) + 1)) (hk:k + 1 < 11):(execOp ρ o).run Tryz.prog w=.ok (.value (.pointer (some ⟨g,3 + (k + 1),none⟩))) w:=by
  simp [execOp,ho,hx,hy,go_sem]
  omega
def Ev6 (W:World) (s:Md) (g ge:Nat) (imm av:Int) (k:Nat) (w:World):Prop:=∃ va,But g W w ∧ s.in_ w g ∧ W.heap.size ≤ ge ∧ w.heap[ge]?=some (.cells #[.int .i64 imm,va,.int .u64 av] 103 (0,0)) ∧ w.ownsRow W.heap.size 30 1 va k ((s.argsL k).map (.int .u64))
theorem info_evt3:(Tryz.prog.info? 103).map (·.size)=some 3:=by kernel_rfl
set_option maxHeartbeats 16000000 in
theorem r6_call_yes (s:Md) (g ab ao L ca β n:Nat) (imm av:Int) (cs:List Value) (W:World) (h:s.in_ W g) (hL:1 ≤ L) (hans:s.av=.slice (some ⟨ab,ao,none⟩) L ca)
    (cA:W.cell? ⟨ab,ao,none⟩=some (.int .u64 av)) (hT:W.ownsRow β 103 3 s.tv n cs) (hβ:β ≤ W.heap.size) (hn4:n ≤ 10000):
    Calls Tryz.prog 52 #[.pointer (some ⟨g,0,none⟩),.int .i64 imm] W fun e w'=>e=.returned (.bool true) ∧
      ∃ va tv,w'.ownsRow W.heap.size 30 1 va (Ins.argsI imm).toNat ((s.argsL (Ins.argsI imm).toNat).map (.int .u64)) ∧ w'.ownsRow β 103 3 tv (n + 1) (cs ++ [.int .i64 imm,va,.int .u64 av]) ∧
        (s.called (.slice (some ⟨ab,if ca=1 then ao else ao + 1,none⟩) (L - 1) (ca - 1)) tv av).in_ w' g ∧ Trn (g :: s.tv.ownBlock.toList) W w':=by
  have mo:Tryz.prog.follows .mixedOrders=true:=by kernel_rfl
  obtain ⟨na,hna⟩:∃ na:Nat,Ins.argsI imm=na:=⟨(Ins.argsI imm).toNat,by have:0 ≤ Ins.argsI imm:=by { unfold Ins.argsI;split <;> omega };omega⟩
  have hn5:na ≤ 5:=by have:Ins.argsI imm ≤ 5:=by { unfold Ins.argsI;split <;> omega };omega
  have ARG:=Lib.hid (fun W=>Ins.r_args imm W)
  rw [hna] at ARG ⊢
  rw [show ((na:Int)).toNat=na from Int.toNat_natCast na]
  have SET:=Lib.hid (fun (s:Md) (n:Nat) (v:Int) (W:World) (h:s.in_ W g) (hn:n < 11)=>r6_set s g n v W h hn)
  have HL0:((L:Int) == 0)=false:=by rw [beq_eq_false_iff_ne];omega
  have HL1:(0:Int) < L:=by omega
  have c80:=Md.c80 h
  rw [hans] at c80
  have f80:=s.unfrozen h 80
  obtain ⟨o2,ho2⟩:∃ o2,o2=if ca=1 then ao else ao + 1:=⟨_,rfl⟩
  rw [← ho2]
  have hgs:g < W.heap.size:=(Array.getElem?_eq_some_iff.1 h).1
  have HO2:=Lib.hid ho2
  have HI:=Lib.hid h
  have HT:=Lib.hid hT
  clear hna hans h hT ho2
  go_enter Tryz.func52,Tryz.ntmps52
  go_wp2_with (with_reducible refine (halt_build 103 _ rfl ?_))
  refine ⟨?_,trivial⟩
  refine wpList_build_is rfl 103 _ rfl #[.int .i64 imm,.slice none 0 0,.int .u64 av] (by kernel_rfl) ?_
  go_wp2_with (with_reducible refine (halt_store 103 _ _ rfl ?_))
  refine ⟨?_,trivial⟩
  refine wpList_store_is rfl 103 _ _ rfl W.heap.size #[.int .i64 imm,.slice none 0 0,.int .u64 av] rfl rfl 103 _ (heap_last _ _ _ rfl) info_evt3 rfl (by simp [Value.oneCell']) ?_
  intro w1 s1
  have B1:=s1.below (below_new (Below.refl W.heap.size W) _) (Nat.le_refl _)
  have HI1:=Md.below HI.out B1
  have r1:=s1.row
  have z1:W.heap.size + 1 ≤ w1.heap.size:=by rw [s1.size];simp
  clear s1
  have d80:=(B1.cell (lt_of_cell c80)).trans c80
  have e80:=s.unfrozen HI1 80
  clear c80 f80 cA
  go_wp2_with (with_reducible refine (halt_slice _ _ _ _ _ rfl ?_))
  refine ⟨?_,trivial⟩
  refine wpList_ex rfl (ex_sl1 rfl rfl rfl hL) ?_
  rw [← HO2.out]
  go_wp2_with fail
  have HI2:=Md.av_in HI1 (.slice (some ⟨ab,o2,none⟩) (L - 1) (ca - 1))
  have BG2:=(But.of_below B1).trans (But.set w1 g 80 (.slice (some ⟨ab,o2,none⟩) (L - 1) (ca - 1)))
  have r2:(w1.setCell ⟨g,80,none⟩ (.slice (some ⟨ab,o2,none⟩) (L - 1) (ca - 1))).heap[W.heap.size]?=some (.cells #[.int .i64 imm,.slice none 0 0,.int .u64 av] 103 (0,0)):=(setCell_past _ _ _ _ (by show W.heap.size ≠ g;omega)).trans r1
  clear HI1 B1 r1 d80 e80
  generalize w1.setCell ⟨g,80,none⟩ (.slice (some ⟨ab,o2,none⟩) (L - 1) (ca - 1))=w2 at *
  have HA2:Hid (({ s with av:=.slice (some ⟨ab,o2,none⟩) (L - 1) (ca - 1) }:Md).argsL=s.argsL):=Lib.hid rfl
  have HS2:Hid (∀ tv,({ ({ s with av:=.slice (some ⟨ab,o2,none⟩) (L - 1) (ca - 1) }:Md) with tv:=tv }:Md)={ s with av:=.slice (some ⟨ab,o2,none⟩) (L - 1) (ca - 1),tv:=tv }):=Lib.hid (fun _=>rfl)
  have HT2:Hid (({ s with av:=.slice (some ⟨ab,o2,none⟩) (L - 1) (ca - 1) }:Md).tv=s.tv):=Lib.hid rfl
  generalize ({ s with av:=.slice (some ⟨ab,o2,none⟩) (L - 1) (ca - 1) }:Md)=s2 at *
  go_loopw [6] (fun i wr=>∃ k:Nat,k ≤ na ∧ i=.int .i64 ((k:Int) + 1) ∧ Hid (Ev6 W s2 g W.heap.size imm av k wr)) (fun i _=>(na + 2) - (intOf i).toNat)
  case atStart=>exact ⟨0,by omega,rfl,Lib.hid ⟨_,BG2,HI2,Nat.le_refl _,r2,⟨rfl,.inl ⟨rfl,rfl⟩⟩⟩⟩
  case round=>
    obtain ⟨k,hk,rfl,hR⟩:=hrel
    go_wp2_with fail
    refine (ARG.out _).mono ?_
    rintro e w3 ⟨rfl,rfl⟩
    by_cases hlt:k < na
    · have k1:(k:Int) + 1 ≤ na:=by omega
      go_wp2_with fail
      obtain ⟨va,E1,E2,E3,E4,E5⟩:=hR.out
      have hreg:s2.cells[3 + (k + 1)]?=some (.int .u64 (s2.r (k + 1))):=by
        rw [s2.get _ (by omega)]
        have:=Md.reg E2 (k + 1) (by omega)
        rw [Md.at E2 _ (by omega)] at this
        exact this
      have E2':wr.heap[g]?=some (.cells s2.cells 65 (0,0)):=E2
      have z3:=E1.size
      have neT:W.heap.size ∉ va.ownBlock.toList:=fun hm=>own_ne E5 E4 (show 30 ≠ 103 by decide) W.heap.size (by simpa using hm) rfl
      have es:wrap64 ((k:Int) + 1 + 1)=(k:Int) + 1 + 1:=IntWalk.wrap64_in _ (by omega)
      refine go_regz (SA 9 10 12 45 46 30 1 W.heap.size wr W.heap.size k va ((s2.argsL k).map (.int .u64)) [.int .u64 (s2.r (k + 1))] (fun tv=>#[.int .i64 imm,tv,.int .u64 av]) 103) [9,10,12] [45,46] [some (.pointer (some ⟨W.heap.size,1,none⟩)),some (va),some (.pointer (some ⟨g,0,none⟩)),some (.int .i64 ((k:Int) + 1)),some (.pointer (some ⟨g,0,none⟩)),some (.pointer (some ⟨g,3,none⟩)),some (.pointer (some ⟨g,3,none⟩)),some (.pointer (some ⟨g,3 + (k + 1),none⟩)),some (.int .u64 (s2.r (k + 1))),none,none,some (.pointer (some ⟨W.heap.size,1,none⟩)),none] mo SA.loc rfl rfl (by kernel_rfl) (fun fl w1 hfl b _=>SA.start b (hfl 9 (by decide)) (hfl 10 (by decide)) (hfl 12 (by decide))) (
       zc (@fun fl ax wx cx=>cx.v (ex_fa rfl (cx.rq 5 rfl) (faL6C103_1_0 _ _)) rfl rfl) <|
       zc (@fun fl ax wx cx=>cx.v (ex_ld rfl (cx.u 0 rfl) (brow (cx.S.was (cx.later 10 (by kernel_rfl)) (cx.later 12 (by kernel_rfl))) E4) rfl Tryz.isAgg26) rfl rfl) <|
       zc (@fun fl ax wx cx=>cx.v (ex_mv rfl (cx.rq 0 rfl)) rfl rfl) <|
       zc (@fun fl ax wx cx=>cx.v (ex_mv rfl (cx.rq 6 rfl)) rfl rfl) <|
       zc (@fun fl ax wx cx=>cx.v (ex_nc rfl (cx.u 0 rfl)) rfl rfl) <|
       zc (@fun fl ax wx cx=>cx.v (ex_fa rfl (cx.u 0 rfl) (faL6C65_2_0 _ _)) rfl rfl) <|
       zc (@fun fl ax wx cx=>cx.v (ex_fa rfl (cx.u 0 rfl) (faL6C49_0_3 _ _)) rfl rfl) <|
       zc (@fun fl ax wx cx=>cx.v (ex_ix6 rfl (cx.u 0 rfl) (cx.u 1 rfl) (by omega)) rfl rfl) <|
       zc (@fun fl ax wx cx=>cx.v (ex_ld rfl (cx.u 0 rfl) (brow (cx.S.was0 (cx.later 9 (by kernel_rfl))) E2') hreg Tryz.isAgg30) rfl rfl) <|
       zc (@fun fl ax wx cx=>cx.vt rfl (ex_bsW rfl (cx.u 0 rfl)) rfl rfl trivial (SA.lay cx.S (cx.later 10 (by kernel_rfl)) (cx.later 12 (by kernel_rfl)) (by decide) (by decide) (slot_new cx.sz rfl))) <|
       zc (@fun fl ax wx cx=>(by
       obtain ⟨lb,gs,e45,rgs⟩:=cx.S.laid (cx.did 1 rfl rfl) cx.fi (cx.later 12 (by kernel_rfl))
       obtain ⟨v9,w9,hr,own,gr,_⟩:=ex_appW (ρ:=ax.eval) (x:=.tmp 37) (y:=.tmp 45) (cx.is rfl) (cx.u 0 rfl) e45 (Trc.own_below E5 lb) (by omega) rgs (Nat.le_trans z3 lb.size)
       exact cx.vt rfl hr rfl rfl trivial (SA.app cx.S (cx.did 1 rfl rfl) cx.fi (cx.later 12 (by kernel_rfl)) (by decide) (by decide) own gr (slot_new cx.sz rfl)))) <|
       zc (@fun fl ax wx cx=>cx.v (ex_fa rfl (cx.rq 5 rfl) (faL6C103_1_0 _ _)) rfl rfl) <|
       zc (@fun fl ax wx cx=>(by
       have dn:=cx.S.done (cx.did 1 rfl rfl) cx.fi
       have hr:=dn.2.row E4 neT
       have sl:=own_slice dn.1
       exact cx.st rfl (exec_storeC 26 (.tmp 47) (.tmp 46) rfl W.heap.size 1 (slotOf ax 46) (cx.u 0 rfl) rfl sl.1 sl.2 (by kernel_rfl) hr (show 1 < 3 by decide)) rfl trivial (SA.store cx.S (cx.did 1 rfl rfl) cx.fi (by decide) (stored_setCell hr 1 (slotOf ax 46)) hr (by decide)))) <|
       zn) ?_
      intro aq1 wq1 fq1
      obtain ⟨flq1,hfq1,hsq1⟩:=fq1.s
      obtain ⟨o9,t9,r9⟩:=SA.fin hsq1 (hfq1 12 (by decide)) (hfq1 10 (by decide))
      obtain ⟨va2,hva2⟩:∃ va2,va2=slotOf aq1 46:=⟨_,rfl⟩
      rw [← hva2] at o9 r9
      clear hva2 hsq1 hfq1
      have i9:s2.in_ wq1 g:=t9.row E2' (by simp only [List.mem_cons,not_or];exact ⟨by omega,fun hm=>own_ne E5 E2' (show 30 ≠ 65 by decide) g (by simpa using hm) rfl⟩)
      have b9:But g W wq1:=E1.new t9 (fun j hj=>by
         rcases List.mem_cons.1 hj with rfl | hj
         · exact Nat.le_refl _
         · exact (World.ownsRow.lt E5 j (by simpa using hj)).1)
      rw [fq1.frame rfl rfl]
      clear fq1
      rw [show outs _ (fun d=>aq1.tmps.getD d undef)=[(36,aq1.tmps.getD 36 undef),(37,aq1.tmps.getD 37 undef),(38,aq1.tmps.getD 38 undef),(39,aq1.tmps.getD 39 undef),(40,aq1.tmps.getD 40 undef),(41,aq1.tmps.getD 41 undef),(42,aq1.tmps.getD 42 undef),(43,aq1.tmps.getD 43 undef),(44,aq1.tmps.getD 44 undef),(45,aq1.tmps.getD 45 undef),(46,aq1.tmps.getD 46 undef),(47,aq1.tmps.getD 47 undef)] by kernel_rfl]
      simp only [putAll,List.setIfInBounds_toArray,List.set_cons_zero,List.set_cons_succ,Exit.then]
      generalize aq1.tmps.getD 36 undef=yq1_36
      generalize aq1.tmps.getD 37 undef=yq1_37
      generalize aq1.tmps.getD 38 undef=yq1_38
      generalize aq1.tmps.getD 39 undef=yq1_39
      generalize aq1.tmps.getD 40 undef=yq1_40
      generalize aq1.tmps.getD 41 undef=yq1_41
      generalize aq1.tmps.getD 42 undef=yq1_42
      generalize aq1.tmps.getD 43 undef=yq1_43
      generalize aq1.tmps.getD 44 undef=yq1_44
      generalize aq1.tmps.getD 45 undef=yq1_45
      generalize aq1.tmps.getD 46 undef=yq1_46
      generalize aq1.tmps.getD 47 undef=yq1_47
      clear  aq1
      have R3:Hid (Ev6 W s2 g W.heap.size imm av (k + 1) wq1):=Lib.hid ⟨va2,b9,i9,Nat.le_refl _,r9,by rw [Md.argsL_succ];exact o9⟩
      clear hreg E1 E2 E2' E3 E4 E5 z3 neT o9 t9 r9 i9 b9 hR
      go_wp2_with fail
      go_roundw
      case rel=>exact ⟨k + 1,by omega,by go_num,R3⟩
      case measure=>simp [intOf];omega
    · obtain rfl:k=na:=by omega
      go_wp2_with fail
      obtain ⟨va,E1,E2,E3,E4,E5⟩:=hR.out
      clear hR
      have E2':wr.heap[g]?=some (.cells s2.cells 65 (0,0)):=E2
      have c81:=s2.get 81 (by decide)
      have hT3:wr.ownsRow β 103 3 s2.tv n cs:=by
        rw [HT2.out]
        exact own_trn HT.out (But.trn E1) (fun j hj=>by simpa using own_ne HT.out HI.out (show 103 ≠ 65 by decide) j hj)
      have tlt:∀ j,s2.tv.ownBlock=some j → j < W.heap.size:=fun j hj=>(World.ownsRow.lt HT.out j (by rw [← HT2.out];exact hj)).2
      have ngT:g ∉ s2.tv.ownBlock.toList:=fun hm=>own_ne hT3 E2' (show 103 ≠ 65 by decide) g (by simpa using hm) rfl
      have hva1:=(own_slice E5).2
      have hb3:β ≤ wr.heap.size:=Nat.le_trans hβ E1.size
      refine go_regz (SA 6 7 10 54 55 103 3 g wr β n s2.tv cs [.int .i64 imm,va,.int .u64 av] (fun tv=>({ s2 with tv:=tv }:Md).cells) 65) [6,7,10] [54,55] [some (.pointer (some ⟨g,0,none⟩)),some (.pointer (some ⟨g,0,none⟩)),some (.pointer (some ⟨g,0,none⟩)),some (.pointer (some ⟨g,81,none⟩)),some (s2.tv),some (.agg #[.int .i64 imm,va,.int .u64 av]),none,none,some (.pointer (some ⟨g,0,none⟩)),some (.pointer (some ⟨g,81,none⟩)),none] mo SA.loc rfl rfl (by kernel_rfl) (fun fl w1 hfl b _=>SA.start b (hfl 6 (by decide)) (hfl 7 (by decide)) (hfl 10 (by decide))) (
       zc (@fun fl ax wx cx=>cx.v (ex_mv rfl (cx.rq 0 rfl)) rfl rfl) <|
       zc (@fun fl ax wx cx=>cx.v (ex_mv rfl (cx.rq 0 rfl)) rfl rfl) <|
       zc (@fun fl ax wx cx=>cx.v (ex_nc rfl (cx.u 0 rfl)) rfl rfl) <|
       zc (@fun fl ax wx cx=>cx.v (ex_fa rfl (cx.u 0 rfl) (faL6C65_5_0 _ _)) rfl rfl) <|
       zc (@fun fl ax wx cx=>cx.v (ex_ld rfl (cx.u 0 rfl) (brow (cx.S.was (cx.later 7 (by kernel_rfl)) (cx.later 10 (by kernel_rfl))) E2') c81 Tryz.isAgg31) rfl rfl) <|
       zc (@fun fl ax wx cx=>cx.v (exec_loadR 103 _ rfl W.heap.size 0 (cx.rq 5 rfl) (brow (cx.S.was0 (cx.later 6 (by kernel_rfl))) E4) [.int .i64 imm,va,.int .u64 av] rfl _ Tryz.underlying103 rfl (by kernel_rfl)) rfl rfl) <|
       zc (@fun fl ax wx cx=>cx.vt rfl (ex_bs1 rfl (cx.u 0 rfl)) rfl rfl trivial (SA.lay cx.S (cx.later 7 (by kernel_rfl)) (cx.later 10 (by kernel_rfl)) (by decide) (by decide) (slot_new cx.sz rfl))) <|
       zc (@fun fl ax wx cx=>(by
       obtain ⟨lb,gs,e54,rgs⟩:=cx.S.laid (cx.did 1 rfl rfl) cx.fi (cx.later 10 (by kernel_rfl))
       obtain ⟨v9,w9,hr,own,gr,_⟩:=ex_app (ρ:=ax.eval) (x:=.tmp 52) (y:=.tmp 54) (cx.is rfl) (cx.u 0 rfl) e54 (Trc.own_below hT3 lb) hn4 rfl (by intro u hu;simp only [List.mem_cons,List.not_mem_nil,or_false] at hu;rcases hu with rfl | rfl | rfl <;> first | rfl | exact hva1) rgs (Nat.le_trans hb3 lb.size)
       exact cx.vt rfl hr rfl rfl trivial (SA.app cx.S (cx.did 1 rfl rfl) cx.fi (cx.later 10 (by kernel_rfl)) (by decide) (by decide) own gr (slot_new cx.sz rfl)))) <|
       zc (@fun fl ax wx cx=>cx.v (ex_nc rfl (cx.u 0 rfl)) rfl rfl) <|
       zc (@fun fl ax wx cx=>cx.v (ex_fa rfl (cx.u 0 rfl) (faL6C65_5_0 _ _)) rfl rfl) <|
       zc (@fun fl ax wx cx=>(by
       have dn:=cx.S.done (cx.did 1 rfl rfl) cx.fi
       have hr:=dn.2.row E2' ngT
       have sl:=own_slice dn.1
       have st:=stored_setCell hr 81 (slotOf ax 55)
       rw [Md.tv_cells] at st
       refine cx.st rfl (exec_storeC 31 (.tmp 57) (.tmp 55) rfl g 81 (slotOf ax 55) (cx.u 0 rfl) rfl sl.1 sl.2 (by kernel_rfl) hr (by rw [s2.size];decide)) rfl trivial (SA.store cx.S (cx.did 1 rfl rfl) cx.fi (by decide) st hr (by decide)))) <|
       zn) ?_
      intro aq2 wq2 fq2
      obtain ⟨flq2,hfq2,hsq2⟩:=fq2.s
      obtain ⟨o9,t9,r9⟩:=SA.fin hsq2 (hfq2 10 (by decide)) (hfq2 7 (by decide))
      obtain ⟨tv,htv⟩:∃ tv,tv=slotOf aq2 55:=⟨_,rfl⟩
      rw [← htv] at o9 r9
      clear htv hsq2 hfq2
      have i9:({ s2 with tv:=tv }:Md).in_ wq2 g:=r9
      have a9:=own_trn E5 t9 (fun j hj=>by simp only [List.mem_cons,not_or];exact ⟨own_ne E5 E2' (show 30 ≠ 65 by decide) j hj,own_apart E5 hT3 (show 30 ≠ 103 by decide) j hj⟩)
      have e9:=t9.row E4 (by simp only [List.mem_cons,not_or];exact ⟨by omega,fun hm=>by have:=tlt _ (by simpa using hm);omega⟩)
      have T9:=(But.trn E1).weak (H:=g :: s2.tv.ownBlock.toList) (fun k hk=>by simp at hk;simp [hk])
      have T9:=T9.trans t9
      have I9:=Lib.hid i9
      have A9:=Lib.hid a9
      have O9:=Lib.hid o9
      have C9:wq2.cell? ⟨W.heap.size,2,none⟩=some (.int .u64 av):=by simp only [World.cell?,e9];rfl
      have TT9:=Lib.hid T9
      clear T9 e9
      rw [fq2.frame rfl rfl]
      clear fq2
      rw [show outs _ (fun d=>aq2.tmps.getD d undef)=[(48,aq2.tmps.getD 48 undef),(49,aq2.tmps.getD 49 undef),(50,aq2.tmps.getD 50 undef),(51,aq2.tmps.getD 51 undef),(52,aq2.tmps.getD 52 undef),(53,aq2.tmps.getD 53 undef),(54,aq2.tmps.getD 54 undef),(55,aq2.tmps.getD 55 undef),(56,aq2.tmps.getD 56 undef),(57,aq2.tmps.getD 57 undef)] by kernel_rfl]
      simp only [putAll,List.setIfInBounds_toArray,List.set_cons_zero,List.set_cons_succ,Exit.then]
      generalize aq2.tmps.getD 48 undef=yq2_48
      generalize aq2.tmps.getD 49 undef=yq2_49
      generalize aq2.tmps.getD 50 undef=yq2_50
      generalize aq2.tmps.getD 51 undef=yq2_51
      generalize aq2.tmps.getD 52 undef=yq2_52
      generalize aq2.tmps.getD 53 undef=yq2_53
      generalize aq2.tmps.getD 54 undef=yq2_54
      generalize aq2.tmps.getD 55 undef=yq2_55
      generalize aq2.tmps.getD 56 undef=yq2_56
      generalize aq2.tmps.getD 57 undef=yq2_57
      clear  aq2
      clear E2 E2' E4 E5 hT3 ngT hva1 hb3 c81 o9 t9 r9 i9 a9 E3 T9 E1 tlt flq2 HI HT HI2 BG2 r2 ARG
      go_wp2_with fail
      refine (SET.out _ 0 av _ I9.out (by decide)).mono ?_
      rintro e w4 ⟨⟨ux,rfl⟩,i4,t4⟩
      have I4:=Lib.hid i4;have T4:=Lib.hid t4
      have A4:=Lib.hid (own_trn A9.out (But.trn t4) (fun j hj=>by simpa using own_ne A9.out I9.out (show 30 ≠ 65 by decide) j hj))
      have O4:=Lib.hid (own_trn O9.out (But.trn t4) (fun j hj=>by simpa using own_ne O9.out I9.out (show 103 ≠ 65 by decide) j hj))
      have HC:Hid ((({ s2 with tv:=tv }:Md).put 0 av).clr 5=s.called (.slice (some ⟨ab,o2,none⟩) (L - 1) (ca - 1)) tv av):=Lib.hid (by unfold Md.called;rw [← HS2.out tv])
      clear i4 t4 A9 O9 I9 C9
      generalize (({ s2 with tv:=tv }:Md).put 0 av)=s4 at *
      go_wp2_with fail
      go_loopw [7] (fun i wx=>∃ p:Nat,p ≤ 5 ∧ i=.int .i8 ((p:Int) + 1) ∧ Hid ((s4.clr p).in_ wx g ∧ But g w4 wx)) (fun i _=>7 - (intOf i).toNat)
      case atStart=>exact ⟨0,by omega,rfl,Lib.hid ⟨I4.out,But.of_below (Below.refl _ _)⟩⟩
      case round=>
        obtain ⟨p,hp,rfl,hQ⟩:=hrel
        by_cases hlt2:p < 5
        · have k5:(p:Int) + 1 ≤ 5:=by omega
          have SE:=SET.out (s4.clr p) (p + 1) 0 wr hQ.out.1 (by omega)
          rw [Int.natCast_succ] at SE
          have SX:=Lib.hid SE;clear SE
          go_wp2_with fail
          refine SX.out.mono ?_
          rintro e w5 ⟨⟨ux2,rfl⟩,i5,t5⟩
          have I5:=Lib.hid i5;have T5:=Lib.hid (hQ.out.2.trans t5)
          clear i5 t5 SX
          have es:=sh_nat (show p + 1 < 11 by omega)
          go_wp2_with fail
          have d14:=Md.c14 I5.out
          go_still_tail 9,(by kernel_rfl)
          have d14':w5.drew.cell? ⟨g,14,none⟩=some (.int .i64 ((s4.clr p).put (p + 1) 0).set):=Md.c14 I5.out
          have f14':w5.drew.frozen? ⟨g,14,none⟩=false:=Md.unfrozen (s:=(s4.clr p).put (p + 1) 0) (show _ from I5.out) 14
          go_wp2_with fail
          go_roundw
          case rel=>exact ⟨p + 1,by omega,by go_num,Lib.hid ⟨Md.set_in (s:=(s4.clr p).put (p + 1) 0) I5.out _,T5.out.trans (But.trans (But.set w5 g 14 _) (But.of_below (Below.drew (Below.refl _ _))))⟩⟩
          case measure=>simp [intOf];omega
        · obtain rfl:p=5:=by omega
          go_wp2_with fail
          go_ret
          rw [← HA2.out,← HT2.out]
          exact ⟨rfl,va,tv,own_trn A4.out (But.trn hQ.out.2) (fun j hj=>by simpa using own_ne A4.out I4.out (show 30 ≠ 65 by decide) j hj),own_trn O4.out (But.trn hQ.out.2) (fun j hj=>by simpa using own_ne O4.out I4.out (show 103 ≠ 65 by decide) j hj),by rw [← HC.out];exact hQ.out.1,TT9.out.trans (((But.trn T4.out).trans (But.trn hQ.out.2)).weak (fun k hk=>by simp at hk;simp [hk]))⟩
end Go.Proofs.YtigliofiojkhcaaGreat.Mdl
namespace Go.Proofs.YtigliofiojkhcaaGreat
open Go.RowKit
set_option linter.unusedVariables false
set_option maxRecDepth 100000
theorem getI_congr {f g:Nat → Int}:∀ n,(∀ i,i < n → f i=g i) → getI f n=getI g n
  | 0,_=>rfl
  | n + 1,h=>by unfold getI;rw [getI_congr n (fun i hi=>h i (by omega)),h n (by omega)]
theorem getI_add (f:Nat → Int) (n:Nat):∀ m,getI f (n + m)=getI f n + getI (fun i=>f (n + i)) m * 2 ^ (8 * n)
  | 0=>by show _=getI f n + 0 * _;rw [Int.zero_mul,Int.add_zero];rfl
  | m + 1=>by
    show getI f (n + m) + f (n + m) * 2 ^ (8 * (n + m))=getI f n + (getI (fun i=>f (n + i)) m + f (n + m) * 2 ^ (8 * m)) * 2 ^ (8 * n)
    rw [getI_add f n m,Int.add_mul,show 8 * (n + m)=8 * m + 8 * n by omega,Int.pow_add]
    rw [Int.mul_assoc (f (n + m)),Int.add_assoc]
theorem Mem.drew {S:MemS} {kf:Nat → Int} {w:World} {b:Nat} (h:Mem S kf w b) (n:Nat):Mem S kf (w.drewN n) b:=⟨⟨h.at_.row,h.at_.cn,h.at_.n,h.at_.far,h.at_.bytes⟩,h.code,h.kb⟩
theorem loc_eq1 {cn n:Nat} {hs:Bool} {a m:Int} (h:1048576 ≤ a ∧ a + m ≤ 1048576 + cn) (hm:1 ≤ m):locI cn n hs a m=1:=by unfold locI;rw [if_pos h]
theorem loc_eq2 {cn n:Nat} {hs:Bool} {a m:Int} (h:2097152 ≤ a ∧ a + m ≤ 2097152 + n) (hm:1 ≤ m) (h1:cn ≤ 16384):locI cn n hs a m=2:=by unfold locI;rw [if_neg (by omega),if_pos h]
theorem loc_eq3 {cn n:Nat} {hs:Bool} {a m:Int} (h:3145728 ≤ a ∧ a + m ≤ 3145792) (hm:1 ≤ m) (h1:cn ≤ 16384) (h2:n ≤ 256):locI cn n hs a m=3:=by unfold locI;rw [if_neg (by omega),if_neg (by omega),if_pos h]
theorem loc_eq4 {cn n:Nat} {hs:Bool} {a m:Int} (h:4194304 ≤ a ∧ a + m ≤ 4194304 + stkI hs) (hm:1 ≤ m) (h1:cn ≤ 16384) (h2:n ≤ 256):locI cn n hs a m=4:=by unfold locI;rw [if_neg (by omega),if_neg (by omega),if_neg (by omega),if_pos h]
theorem loc_eq0 {cn n:Nat} {hs:Bool} {a m:Int} (h1:¬ (1048576 ≤ a ∧ a + m ≤ 1048576 + cn)) (h2:¬ (2097152 ≤ a ∧ a + m ≤ 2097152 + n)) (h3:¬ (3145728 ≤ a ∧ a + m ≤ 3145792)) (h4:¬ (4194304 ≤ a ∧ a + m ≤ 4194304 + stkI hs)):locI cn n hs a m=0:=by
  unfold locI;rw [if_neg h1,if_neg h2,if_neg h3,if_neg h4]
end Go.Proofs.YtigliofiojkhcaaGreat
namespace Go.Proofs.YtigliofiojkhcaaGreat.Rm
open Go.RowKit
set_option linter.unusedVariables false
set_option maxRecDepth 100000
set_option linter.unnecessarySimpa false
set_option linter.unusedSimpArgs false
theorem owns_past {w w':World} {base:Nat} {e:TypeId} {s n:Nat} {v:Value} {xs:List Value} (h:w.ownsRow base e s v n xs) (b:∀ k,k < w.heap.size → w'.heap[k]?=w.heap[k]?):w'.ownsRow base e s v n xs:=by
  refine ⟨h.1,?_⟩
  rcases h.2 with h | ⟨g,cap,cur,e1,e2,e3,r⟩
  · exact .inl h
  · exact .inr ⟨g,cap,cur,e1,e2,(b g (Array.getElem?_eq_some_iff.1 e3).1).trans e3,r⟩
theorem owns_below {w w':World} {base:Nat} {e:TypeId} {s n:Nat} {v:Value} {xs:List Value} (h:w.ownsRow base e s v n xs) (b:Below w.heap.size w w'):w'.ownsRow base e s v n xs:=
  owns_past h fun k hk=>b.block k hk
theorem owns_mono {w:World} {base base':Nat} {e:TypeId} {s n:Nat} {v:Value} {xs:List Value} (hb:base' ≤ base) (h:w.ownsRow base e s v n xs):w.ownsRow base' e s v n xs:=by
  refine ⟨h.1,?_⟩
  rcases h.2 with h | ⟨g,cap,cur,e1,e2,r⟩
  · exact .inl h
  · exact .inr ⟨g,cap,cur,e1,Nat.le_trans hb e2,r⟩
theorem below_grown {W w w':World} {row:Option Nat} (h:Below W.heap.size W w) (g:w.grownBy w' row) (hr:∀ k,row=some k → W.heap.size ≤ k):Below W.heap.size W w':=
  h.trans ⟨g.os,g.tape,g.output,g.size,fun k hk=>g.block k (Nat.lt_of_lt_of_le hk h.size) (fun e=>by have:=hr k e.symm;omega)⟩
theorem info_u8a:∃ i,Tryz.prog.info? 5=some i ∧ i.zero=some (.int .u8 0) ∧ i.size=1 ∧ i.bytes=1:=by
  have h:=info_u8
  cases hi:Tryz.prog.info? 5 with
  | none=>rw [hi] at h;simp at h
  | some i=>rw [hi] at h;simp at h;exact ⟨i,rfl,h.1,h.2.1,h.2.2⟩
def Own (w:World) (base:Nat) (v:Value) (n:Nat) (f:Nat → Int):Prop:=w.ownsRow base 5 1 v n (bytesOf f n)
set_option maxHeartbeats 1000000 in
theorem r_same (a:Option Addr) (len cap:Nat) (f:Nat → Int) (W:World) (hs:Src W a len cap f) (hl:len ≤ 1000000):
    Calls Tryz.prog 53 #[.slice a len cap] W fun e w'=>∃ v,e=.returned v ∧ Below W.heap.size W w' ∧ Own w' W.heap.size v len f:=by
  obtain ⟨ti,hi1,hi2,hi3,hi4⟩:=info_u8a
  have TI:=Lib.hid (And.intro hi1 (And.intro hi2 (And.intro hi3 hi4)))
  clear hi1 hi2 hi3 hi4
  by_cases h0:0 < len
  · obtain ⟨ad,rfl,hc⟩:=hs.cells len (Nat.le_refl _) h0
    have HC:=Lib.hid hc
    have h2:=hs.max
    have h1:=hs.le
    clear hc hs
    go_enter Tryz.func53,Tryz.ntmps53
    go_wp2_with (at_builtin;refine wpList_append_own W rfl _ _ 25 rfl W.heap.size 5 ti (.int .u8 0) 1 1 Tryz.underlying25 TI.out.1 TI.out.2.1 TI.out.2.2.1 TI.out.2.2.2 rfl (by decide) _ 0 [] rfl (World.ownsRow_nil _ _ _ _) ad len cap (bytesOf f len) rfl (by rw [bytesOf_length];omega) HC.out (bytesOf_one f len) (by unfold maxLen;omega) (by omega) (Nat.le_refl _) ?_)
    intro v w1 o1 g1 n1
    have B1:=below_grown (Below.refl _ W) g1 (fun k hk=>by simp [Value.ownBlock] at hk)
    clear g1 n1
    go_wp2_with fail
    go_ret
    exact ⟨_,rfl,B1,o1⟩
  · obtain rfl:len=0:=by omega
    have h2:=hs.max
    clear hs h0
    go_enter Tryz.func53,Tryz.ntmps53
    cases a with
    | none=>
      go_wp2
      go_ret
      exact ⟨_,rfl,Below.refl _ _,World.ownsRow_nil _ _ _ _⟩
    | some ad=>
      go_wp2_with (at_builtin;refine wpList_append_own W rfl _ _ 25 rfl W.heap.size 5 ti (.int .u8 0) 1 1 Tryz.underlying25 TI.out.1 TI.out.2.1 TI.out.2.2.1 TI.out.2.2.2 rfl (by decide) _ 0 [] rfl (World.ownsRow_nil _ _ _ _) ad 0 cap [] rfl rfl (by intro j u h;simp at h) (by simp) (by unfold maxLen;omega) (by omega) (Nat.le_refl _) ?_)
      intro v w1 o1 g1 n1
      have B1:=below_grown (Below.refl _ W) g1 (fun k hk=>by simp [Value.ownBlock] at hk)
      clear g1 n1
      go_wp2_with fail
      go_ret
      exact ⟨_,rfl,B1,o1⟩
def sizedB (n:Int):Bool:=n == 1 || n == 2 || n == 4 || n == 8
theorem r_sized (n:Int) (W:World):Calls Tryz.prog 80 #[.int .i64 n] W fun e w'=>e=.returned (.bool (sizedB n)) ∧ W=w':=by
  unfold sizedB
  by_cases h1:n=1
  · subst h1
    go_enter Tryz.func80,Tryz.ntmps80
    go_wp2
    go_ret
    exact ⟨by simp,rfl⟩
  by_cases h2:n=2
  · subst h2
    go_enter Tryz.func80,Tryz.ntmps80
    go_wp2
    go_ret
    exact ⟨by simp,rfl⟩
  by_cases h3:n=4
  · subst h3
    go_enter Tryz.func80,Tryz.ntmps80
    go_wp2
    go_ret
    exact ⟨by simp,rfl⟩
  by_cases h4:n=8
  · subst h4
    go_enter Tryz.func80,Tryz.ntmps80
    go_wp2
    go_ret
    exact ⟨by simp,rfl⟩
  have e1:(n == 1)=false:=by simpa using h1
  have e2:(n == 2)=false:=by simpa using h2
  have e3:(n == 4)=false:=by simpa using h3
  have e4:(n == 8)=false:=by simpa using h4
  clear h1 h2 h3 h4
  go_enter Tryz.func80,Tryz.ntmps80
  go_wp2
  go_ret
  exact ⟨by simp [e1,e2,e3,e4],rfl⟩
def withinB (at_ n base:Int) (len:Nat):Bool:=decide (base ≤ at_ ∧ at_ - base < len ∧ n ≤ len - (at_ - base))
theorem r_within (at_ n base:Int) (a:Option Addr) (len cap:Nat) (W:World) (h0:0 ≤ at_) (h1:at_ < 18446744073709551616) (b0:0 ≤ base) (b1:base ≤ 4194304) (hl:len ≤ 1000000):
    Calls Tryz.prog 95 #[.int .u64 at_,.int .i64 n,.int .u64 base,.slice a len cap] W fun e w'=>(∃ k,e=.returned (.tuple #[.int .i64 k,.bool (withinB at_ n base len)]) ∧ (withinB at_ n base len=true → k=at_ - base)) ∧ W=w':=by
  by_cases c1:at_ < base
  · have hw:withinB at_ n base len=false:=by unfold withinB;exact decide_eq_false (by omega)
    rw [hw];clear hw
    go_enter Tryz.func95,Tryz.ntmps95
    go_wp2
    go_ret2
    exact ⟨⟨0,rfl,fun h=>by cases h⟩,rfl⟩
  by_cases c2:(len:Int) ≤ at_ - base
  · have hw:withinB at_ n base len=false:=by unfold withinB;exact decide_eq_false (by omega)
    rw [hw];clear hw
    go_enter Tryz.func95,Tryz.ntmps95
    go_wp2
    go_ret2
    exact ⟨⟨0,rfl⟩,rfl⟩
  have hw:withinB at_ n base len=decide (n ≤ len - (at_ - base)):=by unfold withinB;exact decide_eq_decide.2 (by omega)
  rw [hw];clear hw
  go_enter Tryz.func95,Tryz.ntmps95
  go_wp2
  go_ret2
  exact ⟨⟨_,rfl,fun _=>rfl⟩,rfl⟩
end Go.Proofs.YtigliofiojkhcaaGreat.Rm
