import Derived.Test.YtbpehbeakhocnaaGreatDoorIRm33
import Derived.ChangeKeysEq
import Derived.Laws.StructEq
import Derived.Test.YtbpehbeakhocnaaGreatDoorIRm16
import Derived.Test.YtbpehbeakhocnaaGreatDoorRows
import Derived.ProofKit
import Derived.LaidMore
import Derived.MakeChecks
import Derived.Lib.LaidTab
import Derived.Stop.LaidErr
import Derived.Deep.Slices
import Derived.Deep.Fields
import Derived.ChangeSame
import Derived.Test.YtbpehbeakhocnaaGreatDoorIRm25
set_option linter.unusedVariables false
set_option linter.unusedSimpArgs false
set_option linter.unnecessarySimpa false
namespace Go.Proofs.YtbpehbeakhocnaaGreatDoor.Exe
open Go Go.RowKit
open Mrm (Xi xC zX mayX bytesX)
open Flg (Fl fC zF addF subF ofF holF holE mayC)
set_option maxRecDepth 100000
theorem faExJ26_0_0 (g:Nat) (w:World):(Instr.fieldAt 38 (.pointer (some ⟨g,0,none⟩)) 0).run Tryz.prog w=.ok (.pointer (some ⟨g,0,none⟩)) w:=by simp [go_sem]
theorem faExJ26_4_0 (g:Nat) (w:World):(Instr.fieldAt 38 (.pointer (some ⟨g,0,none⟩)) 4).run Tryz.prog w=.ok (.pointer (some ⟨g,4,none⟩)) w:=by simp [go_sem]
theorem faExJ36_0_0 (g:Nat) (w:World):(Instr.fieldAt 30 (.pointer (some ⟨g,0,none⟩)) 0).run Tryz.prog w=.ok (.pointer (some ⟨g,0,none⟩)) w:=by simp [go_sem]
theorem faExJ26_5_0 (g:Nat) (w:World):(Instr.fieldAt 38 (.pointer (some ⟨g,0,none⟩)) 5).run Tryz.prog w=.ok (.pointer (some ⟨g,5,none⟩)) w:=by simp [go_sem]
theorem faExJ26_1_0 (g:Nat) (w:World):(Instr.fieldAt 38 (.pointer (some ⟨g,0,none⟩)) 1).run Tryz.prog w=.ok (.pointer (some ⟨g,1,none⟩)) w:=by simp [go_sem]
theorem faExJ26_3_0 (g:Nat) (w:World):(Instr.fieldAt 38 (.pointer (some ⟨g,0,none⟩)) 3).run Tryz.prog w=.ok (.pointer (some ⟨g,3,none⟩)) w:=by simp [go_sem]
theorem res_ttt {P:Program} {fn:Func} {w:World} {tmps:Array Value} {d e f:Tmp} {v x y:Value} (h:fn.results=#[.tmp d,.tmp e,.tmp f]) (hs:tmps.getD d undef=v) (hx:tmps.getD e undef=x) (hy:tmps.getD f undef=y):(results fn tmps).run P w=.ok (.tuple #[v,x,y]) w:=by
  subst hs hx hy
  simp [results,h]
theorem wrap_w8 {x:Xi} (hX:Mrm.XOk x):IntKind.i64.wrap x.w=x.w:=by
  have:=hX.w
  rw [IntKind.wrap_i64];omega
open Flg (Fl fC zF addF subF ofF holF holE mayC parts5 ex_beq ex_bne)
theorem faExK36_0_0 (g:Nat) (w:World):(Instr.fieldAt 30 (.pointer (some ⟨g,0,none⟩)) 0).run Tryz.prog w=.ok (.pointer (some ⟨g,0,none⟩)) w:=by simp [go_sem]
theorem faExK36_1_0 (g:Nat) (w:World):(Instr.fieldAt 30 (.pointer (some ⟨g,0,none⟩)) 1).run Tryz.prog w=.ok (.pointer (some ⟨g,16,none⟩)) w:=by simp [go_sem]
theorem faExK34_0_16 (g:Nat) (w:World):(Instr.fieldAt 28 (.pointer (some ⟨g,16,none⟩)) 0).run Tryz.prog w=.ok (.pointer (some ⟨g,16,none⟩)) w:=by simp [go_sem]
theorem faExK34_1_16 (g:Nat) (w:World):(Instr.fieldAt 28 (.pointer (some ⟨g,16,none⟩)) 1).run Tryz.prog w=.ok (.pointer (some ⟨g,17,none⟩)) w:=by simp [go_sem]
theorem items_reflE {e:TypeId} {k:IntKind} {d n:Nat} {xs:Array Value} {f:Nat → Int} (he:Tryz.prog.plainKey e=true) (hc:Tryz.prog.cellsOf e=1) (hu:Tryz.prog.underlying e=some (.int k)) (hx:∀ i,i < n → xs[i]?=some (.int k (f i))) (w:World):∀ is:List Nat,(∀ i ∈ is,i < n) → (Op.eqItems (d + 1) e (Tryz.prog.cellsOf e) xs xs is).run Tryz.prog w=.ok true w
  | [],_=>by simp [Op.eqItems]
  | i :: is,h=>by
    have hi:=h i (List.mem_cons_self ..)
    have ih:=items_reflE (d:=d) he hc hu hx w is (fun j hj=>h j (List.mem_cons_of_mem _ hj))
    rw [hc] at ih ⊢
    have hp:=run_part_plain (P:=Tryz.prog) w (e:=e) (off:=i * 1) he (by rw [Nat.mul_one];exact hx i hi)
    have hq:=run_equalIn_int (P:=Tryz.prog) w d e k k (f i) (f i) hu
    simp only [Op.eqItems,Sem.run_bind,hp,hq,Result.andThen_ok,beq_self_eq_true,Bool.not_true,Bool.false_eq_true,if_false,ih]
theorem array_reflE {t e:TypeId} {k:IntKind} {d n:Nat} {xs:Array Value} {f:Nat → Int} (ht:Tryz.prog.underlying t=some (.array n e)) (he:Tryz.prog.plainKey e=true) (hc:Tryz.prog.cellsOf e=1) (hu:Tryz.prog.underlying e=some (.int k)) (hx:∀ i,i < n → xs[i]?=some (.int k (f i))) (w:World):
    (Op.equalIn (d + 2) t (.agg xs) (.agg xs)).run Tryz.prog w=.ok true w:=by
  obtain ⟨i,hi⟩:=info_of_underlying hu
  rw [run_equalIn_array (P:=Tryz.prog) w (d + 1) (t:=t) (e:=e) (n:=n) _ _ ht hi]
  exact items_reflE he hc hu hx w _ (fun i hi=>List.mem_range.1 hi)
theorem fields_reflE {d:Nat} {xs:Array Value} (w:World):∀ fs:List Field,(∀ f ∈ fs,f.name ≠ "_" ∧ ∃ a,(part f.type xs f.offset).run Tryz.prog w=.ok a w ∧ (Op.equalIn d f.type a a).run Tryz.prog w=.ok true w) → (Op.eqFields d xs xs fs).run Tryz.prog w=.ok true w
  | [],_=>by simp [Op.eqFields]
  | f :: fs,h=>by
    obtain ⟨hn,a,h1,h2⟩:=h f (List.mem_cons_self ..)
    have ih:=fields_reflE w fs (fun g hg=>h g (List.mem_cons_of_mem _ hg))
    simp only [Op.eqFields,if_pos hn,Sem.run_bind,h1,h2,Result.andThen_ok,Bool.not_true,Bool.false_eq_true,if_false,ih]
theorem part_agg {t e:TypeId} {n s off:Nat} {xs:Array Value} (ht:Tryz.prog.underlying t=some (.array n e)) (hs:Tryz.prog.cellsOf t=s) (w:World):(part t xs off).run Tryz.prog w=.ok (.agg (xs.extract off (off + s))) w:=by
  obtain ⟨i,hi⟩:=info_of_underlying ht
  simp [part,isAgg,run_underlying ht,run_sizeOf w hi,hs]
def rgL (m:Mc):List Value:=[.int .u64 (m.r 0),.int .u64 (m.r 1),.int .u64 (m.r 2),.int .u64 (m.r 3),.int .u64 (m.r 4),.int .u64 (m.r 5),.int .u64 (m.r 6),.int .u64 (m.r 7),.int .u64 (m.r 8),.int .u64 (m.r 9),.int .u64 (m.r 10),.int .u64 (m.r 11),.int .u64 (m.r 12),.int .u64 (m.r 13),.int .u64 (m.r 14),.int .u64 (m.r 15)]
def rgC (m:Mc):Array Value:=(rgL m).toArray
theorem rgC_get (m:Mc):∀ i,i < 16 → (rgC m)[i]?=some (.int .u64 (m.r i)):=by
  intro i h
  rcases lt16 h with rfl | rfl | rfl | rfl | rfl | rfl | rfl | rfl | rfl | rfl | rfl | rfl | rfl | rfl | rfl | rfl <;> rfl
theorem rg_self (m:Mc) (d:Nat) (w:World):(Op.equalIn (d + 2) 26 (.agg (rgC m)) (.agg (rgC m))).run Tryz.prog w=.ok true w:=
  array_reflE (d:=d) (f:=m.r) Tryz.underlying26 (by kernel_rfl) (by kernel_rfl) Tryz.underlying23 (rgC_get m) w
theorem eq_rg (a b:Mc) (h:∀ j,j < 16 → a.r j=b.r j) (w:World):(Op.equalIn 10000 26 (.agg (rgC a)) (.agg (rgC b))).run Tryz.prog w=.ok true w:=by
  have e:rgC a=rgC b:=by
    unfold rgC rgL
    simp only [h 0 (by decide),h 1 (by decide),h 2 (by decide),h 3 (by decide),h 4 (by decide),h 5 (by decide),h 6 (by decide),h 7 (by decide),h 8 (by decide),h 9 (by decide),h 10 (by decide),h 11 (by decide),h 12 (by decide),h 13 (by decide),h 14 (by decide),h 15 (by decide)]
  rw [e]
  exact rg_self b 9998 w
theorem mc_fields:(Tryz.prog.fieldsOf 30).toList.map (fun f=>(f.name,f.type,f.offset))=[("R", 26,0),("F", 28,16),("At", 23,21)]:=by kernel_rfl
theorem mc_cut (m:Mc):(mcC m).extract 0 (0 + 16)=rgC m:=by kernel_rfl
theorem part_f (m:Mc) (w:World):(part 28 (mcC m) 16).run Tryz.prog w=.ok (.agg (fC m.f)) w:=by
  have e:(mcC m).extract 16 (16 + 5)=fC m.f:=by kernel_rfl
  obtain ⟨i,hi⟩:=info_of_underlying Tryz.underlying28
  simp [part,isAgg,run_underlying Tryz.underlying28,run_sizeOf w hi,show Tryz.prog.cellsOf 28=5 by kernel_rfl]
  exact e
theorem f_self (f:Fl) (w:World):(Op.equalIn 9999 28 (.agg (fC f)) (.agg (fC f))).run Tryz.prog w=.ok true w:=by
  simp [go_sem]
theorem eq_mc (m:Mc) (w:World):(Op.equalIn 10000 30 (.agg (mcC m)) (.agg (mcC m))).run Tryz.prog w=.ok true w:=by
  rw [run_equalIn_struct (P:=Tryz.prog) w 9999 30 _ _ (by kernel_rfl) (by kernel_rfl)]
  refine fields_reflE w _ (fun f hf=>?_)
  have hm:=List.mem_map_of_mem (f:=fun f:Field=>(f.name,f.type,f.offset)) hf
  rw [mc_fields] at hm
  simp only [List.mem_cons,List.not_mem_nil,or_false,Prod.mk.injEq] at hm
  rcases hm with ⟨h1,h2,h3⟩ | ⟨h1,h2,h3⟩ | ⟨h1,h2,h3⟩
  · rw [h1,h2,h3]
    refine ⟨by decide,_,part_agg (s:=16) Tryz.underlying26 (by kernel_rfl) w,?_⟩
    rw [mc_cut]
    exact rg_self m 9997 w
  · rw [h1,h2,h3]
    exact ⟨by decide,_,part_f m w,f_self m.f w⟩
  · rw [h1,h2,h3]
    refine ⟨by decide,.int .u64 m.a,run_part_plain w (by kernel_rfl) rfl,?_⟩
    rw [run_equalIn_int (P:=Tryz.prog) w 9998 23 .u64 .u64 m.a m.a Tryz.underlying23,beq_self_eq_true]
section
variable {ρ:Operand → Value} {o:Oper} {w:World} {x y:Operand} {g:Nat} {fr:Nat × Nat} {T t u:TypeId}
theorem ldMcRg {m:Mc} (ho:o.op=.load 26 x) (hx:ρ x=.pointer (some ⟨g,0,none⟩)) (hg:w.heap[g]?=some (.cells (mcC m) T fr)):(execOp ρ o).run Tryz.prog w=.ok (.value (.agg (rgC m))) w:=
  exec_loadR 26 x ho g 0 hx hg (rgL m) rfl _ Tryz.underlying26 rfl (by kernel_rfl)
end
theorem xok {op w dst src base disp imm cc:Int} (h0:-128 ≤ op ∧ op < 128) (h1:-128 ≤ w ∧ w < 128) (h2:-128 ≤ dst ∧ dst < 128) (h3:-128 ≤ src ∧ src < 128) (h4:-128 ≤ base ∧ base < 128) (h5:-9223372036854775808 ≤ disp ∧ disp ≤ 9223372036854775807) (h6:-9223372036854775808 ≤ imm ∧ imm ≤ 9223372036854775807) (h7:-128 ≤ cc ∧ cc < 128):Mrm.XOk ⟨op,w,dst,src,base,disp,imm,cc⟩:=⟨h0,h1,h2,h3,h4,h5,h6,h7⟩
theorem bd_i8 {a:Int} (h:(Lit.int .i8 a).wf=true):-128 ≤ a ∧ a < 128:=by
  have:-128 ≤ a ∧ a ≤ 127:=by simpa [Lit.wf,IntKind.min,IntKind.max,IntKind.bits,IntKind.signed] using h
  omega
theorem bd_i64 {a:Int} (h:(Lit.int .i64 a).wf=true):-9223372036854775808 ≤ a ∧ a ≤ 9223372036854775807:=by simpa [Lit.wf,IntKind.min,IntKind.max,IntKind.bits,IntKind.signed] using h
theorem bd_u64 {a:Int} (h:(Lit.int .u64 a).wf=true):U64 a:=by
  have:0 ≤ a ∧ a ≤ 18446744073709551615:=by simpa [Lit.wf,IntKind.min,IntKind.max,IntKind.bits,IntKind.signed] using h
  exact ⟨this.1,by omega⟩
theorem zM_ok:MOk zM:=⟨fun _=>(⟨by omega,by omega⟩:U64 0),(⟨by omega,by omega⟩:U64 0)⟩
end Go.Proofs.YtbpehbeakhocnaaGreatDoor.Exe
namespace Go.Proofs.YtbpehbeakhocnaaGreatDoor.Mrm
open Go Go.RowKit Go.ChangeShapes Go.WideShapes Go.Deep
set_option maxRecDepth 100000
theorem bdo_i8 {a:Int} (h:(Lit.int .i8 a).wf=true):-128 ≤ a ∧ a < 128:=by
  have:-128 ≤ a ∧ a ≤ 127:=by simpa [Lit.wf,IntKind.min,IntKind.max,IntKind.bits,IntKind.signed] using h
  omega
theorem bdo_i64 {a:Int} (h:(Lit.int .i64 a).wf=true):-9223372036854775808 ≤ a ∧ a ≤ 9223372036854775807:=by simpa [Lit.wf,IntKind.min,IntKind.max,IntKind.bits,IntKind.signed] using h
section
variable {H:Type} {enc:TypeId × Value → H} {w:World} {base:Nat} {held:Bool}
theorem xi_cells {n:Nat} {cs:List Value} {x:DataW H × List MemPlace} {spare:Nat → Bool} (h:DataW.trod enc Tryz.prog w base spare held n 38 cs=some x):∃ y:Xi,cs=xL y ∧ XOk y:=by
  obtain ⟨xs,n',_,hx,hlen,hxl,hf⟩:=DataW.trod_struct Tryz.underlying38 h
  have hl:cs.length=8:=hlen.trans (by kernel_rfl)
  match cs,hl with
  | [c0,c1,c2,c3,c4,c5,c6,c7],_=>
    have hxn:xs.length=8:=hxl
    have k_i8:Tryz.prog.cellsOf 36=1:=by kernel_rfl
    have k_int:Tryz.prog.cellsOf 3=1:=by kernel_rfl
    have f0:=hf 0 _ rfl
    change DataW.trod enc Tryz.prog w base spare held n' 36 (([c0,c1,c2,c3,c4,c5,c6,c7].drop 0).take (Tryz.prog.cellsOf 36))=_ at f0
    rw [k_i8,List.getElem?_eq_getElem (by omega)] at f0
    obtain ⟨v0,e0,g0,w0⟩:=DataW.trod_int Tryz.underlying36 f0
    have f1:=hf 1 _ rfl
    change DataW.trod enc Tryz.prog w base spare held n' 36 (([c0,c1,c2,c3,c4,c5,c6,c7].drop 1).take (Tryz.prog.cellsOf 36))=_ at f1
    rw [k_i8,List.getElem?_eq_getElem (by omega)] at f1
    obtain ⟨v1,e1,g1,w1⟩:=DataW.trod_int Tryz.underlying36 f1
    have f2:=hf 2 _ rfl
    change DataW.trod enc Tryz.prog w base spare held n' 36 (([c0,c1,c2,c3,c4,c5,c6,c7].drop 2).take (Tryz.prog.cellsOf 36))=_ at f2
    rw [k_i8,List.getElem?_eq_getElem (by omega)] at f2
    obtain ⟨v2,e2,g2,w2⟩:=DataW.trod_int Tryz.underlying36 f2
    have f3:=hf 3 _ rfl
    change DataW.trod enc Tryz.prog w base spare held n' 36 (([c0,c1,c2,c3,c4,c5,c6,c7].drop 3).take (Tryz.prog.cellsOf 36))=_ at f3
    rw [k_i8,List.getElem?_eq_getElem (by omega)] at f3
    obtain ⟨v3,e3,g3,w3⟩:=DataW.trod_int Tryz.underlying36 f3
    have f4:=hf 4 _ rfl
    change DataW.trod enc Tryz.prog w base spare held n' 36 (([c0,c1,c2,c3,c4,c5,c6,c7].drop 4).take (Tryz.prog.cellsOf 36))=_ at f4
    rw [k_i8,List.getElem?_eq_getElem (by omega)] at f4
    obtain ⟨v4,e4,g4,w4⟩:=DataW.trod_int Tryz.underlying36 f4
    have f5:=hf 5 _ rfl
    change DataW.trod enc Tryz.prog w base spare held n' 3 (([c0,c1,c2,c3,c4,c5,c6,c7].drop 5).take (Tryz.prog.cellsOf 3))=_ at f5
    rw [k_int,List.getElem?_eq_getElem (by omega)] at f5
    obtain ⟨v5,e5,g5,w5⟩:=DataW.trod_int Tryz.underlying3 f5
    have f6:=hf 6 _ rfl
    change DataW.trod enc Tryz.prog w base spare held n' 3 (([c0,c1,c2,c3,c4,c5,c6,c7].drop 6).take (Tryz.prog.cellsOf 3))=_ at f6
    rw [k_int,List.getElem?_eq_getElem (by omega)] at f6
    obtain ⟨v6,e6,g6,w6⟩:=DataW.trod_int Tryz.underlying3 f6
    have f7:=hf 7 _ rfl
    change DataW.trod enc Tryz.prog w base spare held n' 36 (([c0,c1,c2,c3,c4,c5,c6,c7].drop 7).take (Tryz.prog.cellsOf 36))=_ at f7
    rw [k_i8,List.getElem?_eq_getElem (by omega)] at f7
    obtain ⟨v7,e7,g7,w7⟩:=DataW.trod_int Tryz.underlying36 f7
    simp at e0 e1 e2 e3 e4 e5 e6 e7
    subst e0 e1 e2 e3 e4 e5 e6 e7
    exact ⟨⟨v0,v1,v2,v3,v4,v5,v6,v7⟩,rfl,⟨bdo_i8 w0,bdo_i8 w1,bdo_i8 w2,bdo_i8 w3,bdo_i8 w4,bdo_i64 w5,bdo_i64 w6,bdo_i8 w7⟩⟩
theorem xi_arg {r:Reach} {b0:Nat} {v:Value} {d:DataW H} {p:List MemPlace} {spare:Nat → Bool} (hv:Value.okWide Tryz.prog w r b0 38 v) (h:DataW.Trod enc Tryz.prog w base spare held 38 v d p):∃ y:Xi,v=.agg (xC y) ∧ XOk y:=by
  obtain ⟨cs,rfl,hsz⟩:=okWide_struct Tryz.underlying38 hv
  obtain ⟨fuel,hf⟩:=h
  obtain ⟨y,hy,ok⟩:=xi_cells hf
  refine ⟨y,?_,ok⟩
  have:cs=xC y:=by
    apply Array.ext'
    simpa [Value.cells] using hy
  rw [this]
def cdD (c:Cd):DataW H:=.agg [.lit (.int .i8 c.sh),.lit (.int .i8 c.wd),.lit (.int .u16 c.va),.lit (.int .i8 c.dg),.lit (.int .u16 c.lo)]
def otD (o:Int × Cd):DataW H:=.agg [.lit (.int .i8 o.1),cdD o.2]
theorem cd_cells {n:Nat} {cs:List Value} {x:DataW H × List MemPlace} {spare:Nat → Bool} (h:DataW.trod enc Tryz.prog w base spare held n 106 cs=some x):∃ c:Cd,cs=cdL c ∧ x.1=cdD c:=by
  obtain ⟨xs,n',_,hx,hlen,hxl,hf⟩:=DataW.trod_struct Tryz.underlying106 h
  have hl:cs.length=5:=hlen.trans (by kernel_rfl)
  match cs,hl with
  | [c0,c1,c2,c3,c4],_=>
    have hxn:xs.length=5:=hxl
    have k_i8:Tryz.prog.cellsOf 36=1:=by kernel_rfl
    have k_u16:Tryz.prog.cellsOf 104=1:=by kernel_rfl
    have f0:=hf 0 _ rfl
    change DataW.trod enc Tryz.prog w base spare held n' 36 (([c0,c1,c2,c3,c4].drop 0).take (Tryz.prog.cellsOf 36))=_ at f0
    rw [k_i8,List.getElem?_eq_getElem (by omega)] at f0
    obtain ⟨v0,e0,g0,w0⟩:=DataW.trod_int Tryz.underlying36 f0
    have f1:=hf 1 _ rfl
    change DataW.trod enc Tryz.prog w base spare held n' 36 (([c0,c1,c2,c3,c4].drop 1).take (Tryz.prog.cellsOf 36))=_ at f1
    rw [k_i8,List.getElem?_eq_getElem (by omega)] at f1
    obtain ⟨v1,e1,g1,w1⟩:=DataW.trod_int Tryz.underlying36 f1
    have f2:=hf 2 _ rfl
    change DataW.trod enc Tryz.prog w base spare held n' 104 (([c0,c1,c2,c3,c4].drop 2).take (Tryz.prog.cellsOf 104))=_ at f2
    rw [k_u16,List.getElem?_eq_getElem (by omega)] at f2
    obtain ⟨v2,e2,g2,w2⟩:=DataW.trod_int Tryz.underlying104 f2
    have f3:=hf 3 _ rfl
    change DataW.trod enc Tryz.prog w base spare held n' 36 (([c0,c1,c2,c3,c4].drop 3).take (Tryz.prog.cellsOf 36))=_ at f3
    rw [k_i8,List.getElem?_eq_getElem (by omega)] at f3
    obtain ⟨v3,e3,g3,w3⟩:=DataW.trod_int Tryz.underlying36 f3
    have f4:=hf 4 _ rfl
    change DataW.trod enc Tryz.prog w base spare held n' 104 (([c0,c1,c2,c3,c4].drop 4).take (Tryz.prog.cellsOf 104))=_ at f4
    rw [k_u16,List.getElem?_eq_getElem (by omega)] at f4
    obtain ⟨v4,e4,g4,w4⟩:=DataW.trod_int Tryz.underlying104 f4
    simp at e0 e1 e2 e3 e4
    subst e0 e1 e2 e3 e4
    refine ⟨⟨v0,v1,v2,v3,v4⟩,rfl,?_⟩
    rw [hx]
    match xs,hxn with
    | [y0,y1,y2,y3,y4],_=>
      simp only [List.getElem_cons_zero,List.getElem_cons_succ] at g0 g1 g2 g3 g4
      show DataW.agg [y0.1,y1.1,y2.1,y3.1,y4.1]=_
      rw [g0,g1,g2,g3,g4]
      rfl
theorem ot_cells {n:Nat} {cs:List Value} {x:DataW H × List MemPlace} {spare:Nat → Bool} (h:DataW.trod enc Tryz.prog w base spare held n 125 cs=some x):∃ o:Int × Cd,cs=otL o ∧ x.1=otD o:=by
  obtain ⟨xs,n',_,hx,hlen,hxl,hf⟩:=DataW.trod_struct Tryz.underlying125 h
  have hl:cs.length=6:=hlen.trans (by kernel_rfl)
  match cs,hl with
  | [c0,c1,c2,c3,c4,c5],_=>
    have hxn:xs.length=2:=hxl
    have k_i8:Tryz.prog.cellsOf 36=1:=by kernel_rfl
    have k_cd:Tryz.prog.cellsOf 106=5:=by kernel_rfl
    have f0:=hf 0 _ rfl
    change DataW.trod enc Tryz.prog w base spare held n' 36 (([c0,c1,c2,c3,c4,c5].drop 0).take (Tryz.prog.cellsOf 36))=_ at f0
    rw [k_i8,List.getElem?_eq_getElem (by omega)] at f0
    obtain ⟨v0,e0,g0,w0⟩:=DataW.trod_int Tryz.underlying36 f0
    have f1:=hf 1 _ rfl
    change DataW.trod enc Tryz.prog w base spare held n' 106 (([c0,c1,c2,c3,c4,c5].drop 1).take (Tryz.prog.cellsOf 106))=_ at f1
    rw [k_cd,List.getElem?_eq_getElem (by omega)] at f1
    obtain ⟨c,e1,g1⟩:=cd_cells f1
    simp at e0 e1
    obtain ⟨rfl,rfl,rfl,rfl,rfl⟩:=e1
    subst e0
    refine ⟨(v0,c),rfl,?_⟩
    rw [hx]
    match xs,hxn with
    | [y0,y1],_=>
      simp only [List.getElem_cons_zero,List.getElem_cons_succ] at g0 g1
      show DataW.agg [y0.1,y1.1]=_
      rw [g0,g1]
      rfl
theorem flat_of {α:Type} (f:α → List Value) (n:Nat):∀ (L:List α) (cs:List Value),cs.length=L.length * n → (∀ i (hi:i < L.length),(cs.drop (i * n)).take n=f L[i]) → cs=L.flatMap f
  | [],cs,hl,_=>List.eq_nil_of_length_eq_zero (by simpa using hl)
  | a :: L,cs,hl,h=>by
    have h0:=h 0 (by simp)
    have ih:=flat_of f n L (cs.drop n) (by rw [List.length_drop,hl,List.length_cons,Nat.add_mul];omega) (fun i hi=>by
      have:=h (i + 1) (by simpa using hi)
      rw [List.drop_drop,show n + i * n=(i + 1) * n by rw [Nat.add_mul];omega]
      exact this)
    simp only [Nat.zero_mul,List.drop_zero,List.getElem_cons_zero] at h0
    rw [List.flatMap_cons,← h0,← ih]
    exact (List.take_append_drop _ _).symm
theorem cdD_inj {c d:Cd} (h:(cdD c:DataW H)=cdD d):c=d:=by
  obtain ⟨a0,a1,a2,a3,a4⟩:=c
  obtain ⟨b0,b1,b2,b3,b4⟩:=d
  simp [cdD] at h
  obtain ⟨rfl,rfl,rfl,rfl,rfl⟩:=h
  rfl
theorem otD_inj {c d:Int × Cd} (h:(otD c:DataW H)=otD d):c=d:=by
  obtain ⟨a,c⟩:=c
  obtain ⟨b,d⟩:=d
  have h1:a=b:=by simp [otD] at h;exact h.1
  have h2:c=d:=cdD_inj (H:=H) (by simp only [otD,DataW.agg.injEq,List.cons.injEq] at h;exact h.2.1)
  rw [h1,h2]
theorem codes_cells {fuel:Nat} {cs:List Value} {p:List MemPlace} {spare:Nat → Bool} (h:DataW.trod enc Tryz.prog w base spare held fuel 115 cs=some (Rows.laid_lathe_encode_codes,p)):cs=codesC.toList:=by
  obtain ⟨xs,m,_,hx,hl,hn,hi⟩:=DataW.trod_array Tryz.underlying115 h
  have k1:Tryz.prog.cellsOf 106=5:=by kernel_rfl
  have k2:Tryz.prog.cellsOf 115=160:=by kernel_rfl
  rw [k2] at hl
  have hd:(Rows.laid_lathe_encode_codes:DataW H)=.agg (codesL.map cdD):=rfl
  rw [hd] at hx
  have hm:codesL.map cdD=xs.map (·.1):=by
    injection hx with h1 _
    injection h1
  have hL:codesL.length=32:=rfl
  show cs=codesL.flatMap cdL
  refine flat_of cdL 5 codesL cs (by rw [hl,hL]) (fun i hi'=>?_)
  have q:=hi i (by rw [hL] at hi';exact hi')
  rw [k1,List.getElem?_eq_getElem (by rw [hn];rw [hL] at hi';exact hi')] at q
  obtain ⟨c,e1,e2⟩:=cd_cells q
  rw [e1]
  congr 1
  have e3:(codesL.map (cdD:_ → DataW H))[i]?=(xs.map (·.1))[i]?:=by rw [hm]
  rw [List.getElem?_map,List.getElem?_map,List.getElem?_eq_getElem hi',List.getElem?_eq_getElem (by rw [hn];rw [hL] at hi';exact hi')] at e3
  simp only [Option.map_some,Option.some.injEq] at e3
  rw [e2] at e3
  exact (cdD_inj e3).symm
theorem others_cells {fuel:Nat} {cs:List Value} {p:List MemPlace} {spare:Nat → Bool} (h:DataW.trod enc Tryz.prog w base spare held fuel 126 cs=some (Rows.laid_lathe_encode_others,p)):cs=othersC.toList:=by
  obtain ⟨xs,m,_,hx,hl,hn,hi⟩:=DataW.trod_array Tryz.underlying126 h
  have k1:Tryz.prog.cellsOf 125=6:=by kernel_rfl
  have k2:Tryz.prog.cellsOf 126=36:=by kernel_rfl
  rw [k2] at hl
  have hd:(Rows.laid_lathe_encode_others:DataW H)=.agg (othersL.map otD):=rfl
  rw [hd] at hx
  have hm:othersL.map otD=xs.map (·.1):=by
    injection hx with h1 _
    injection h1
  have hL:othersL.length=6:=rfl
  show cs=othersL.flatMap otL
  refine flat_of otL 6 othersL cs (by rw [hl,hL]) (fun i hi'=>?_)
  have q:=hi i (by rw [hL] at hi';exact hi')
  rw [k1,List.getElem?_eq_getElem (by rw [hn];rw [hL] at hi';exact hi')] at q
  obtain ⟨c,e1,e2⟩:=ot_cells q
  rw [e1]
  congr 1
  have e3:(othersL.map (otD:_ → DataW H))[i]?=(xs.map (·.1))[i]?:=by rw [hm]
  rw [List.getElem?_map,List.getElem?_map,List.getElem?_eq_getElem hi',List.getElem?_eq_getElem (by rw [hn];rw [hL] at hi';exact hi')] at e3
  simp only [Option.map_some,Option.some.injEq] at e3
  rw [e2] at e3
  exact (otD_inj e3).symm
end
theorem gCodes:Tryz.prog.globalNamed "lathe/encode.codes" = some 1:=by kernel_rfl
theorem gOthers:Tryz.prog.globalNamed "lathe/encode.others" = some 2:=by kernel_rfl
theorem tCodes:(Tryz.prog.globals[(1:Nat)]?).map (·.type)=some 115:=by kernel_rfl
theorem tOthers:(Tryz.prog.globals[(2:Nat)]?).map (·.type)=some 126:=by kernel_rfl
theorem var_row {P:Program} {W:World} {name:String} {g:Nat} {cs:Array Value} (hg:P.globalNamed name=some g) (h:W.var? P name=some cs):∃ T fr,W.heap[g]?=some (.cells cs T fr):=by
  unfold World.var? at h
  rw [hg] at h
  simp only [Option.bind_some] at h
  split at h
  · rename_i cs' T fr e
    obtain rfl:=Option.some.inj h
    exact ⟨T,fr,e⟩
  · cases h
theorem codes_row {W:World} {rest:List (String × DataW Unit)} (h:laidMet Tryz.prog (("lathe/encode.codes", Rows.laid_lathe_encode_codes) :: rest) W):∃ T fr,W.heap[(1:Nat)]?=some (.cells codesC T fr):=by
  obtain ⟨ps,⟨g',t',cs,fuel,p,q,hg',ht',hvar,hd,_,_⟩,_⟩:=h
  obtain rfl:=Option.some.inj (gCodes.symm.trans hg')
  obtain rfl:=Option.some.inj (tCodes.symm.trans ht')
  have:=Array.toList_inj.1 (codes_cells hd)
  obtain ⟨T,fr,e⟩:=var_row gCodes hvar
  refine ⟨T,fr,?_⟩
  rw [e,this]
theorem others_row {W:World} {rest:List (String × DataW Unit)} (h:laidMet Tryz.prog (("lathe/encode.others", Rows.laid_lathe_encode_others) :: rest) W):∃ T fr,W.heap[(2:Nat)]?=some (.cells othersC T fr):=by
  obtain ⟨ps,⟨g',t',cs,fuel,p,q,hg',ht',hvar,hd,_,_⟩,_⟩:=h
  obtain rfl:=Option.some.inj (gOthers.symm.trans hg')
  obtain rfl:=Option.some.inj (tOthers.symm.trans ht')
  have:=Array.toList_inj.1 (others_cells hd)
  obtain ⟨T,fr,e⟩:=var_row gOthers hvar
  refine ⟨T,fr,?_⟩
  rw [e,this]
theorem tabs_of {W:World} (h:laidMetH Tryz.prog [("lathe/encode.codes", Rows.laid_lathe_encode_codes),("lathe/encode.others", Rows.laid_lathe_encode_others)] W):Tabs W:=by
  rw [MakeChecks.laidMetH_plain _ _ _ (by kernel_rfl)] at h
  exact ⟨codes_row h,others_row (laidMet.tail h)⟩
end Go.Proofs.YtbpehbeakhocnaaGreatDoor.Mrm
namespace Go.Proofs.YtbpehbeakhocnaaGreatDoor.Flg
open Go Go.RowKit Go.ChangeShapes Go.WideShapes Go.Deep
set_option maxRecDepth 100000
section
variable {H:Type} {enc:TypeId × Value → H} {w:World} {base:Nat} {held:Bool}
theorem flags_cells {n:Nat} {cs:List Value} {x:DataW H × List MemPlace} {spare:Nat → Bool} (h:DataW.trod enc Tryz.prog w base spare held n 28 cs=some x):∃ y:Fl,cs=[.bool y.k,.bool y.c,.bool y.z,.bool y.s,.bool y.o]:=by
  obtain ⟨xs,n',_,_,hlen,hxl,hf⟩:=DataW.trod_struct Tryz.underlying28 h
  have hl:cs.length=5:=hlen.trans (by kernel_rfl)
  match cs,hl with
  | [c0,c1,c2,c3,c4],_=>
    have ku:Tryz.prog.cellsOf 4=1:=by kernel_rfl
    have hx:xs.length=5:=hxl
    have f0:=hf 0 _ rfl
    have f1:=hf 1 _ rfl
    have f2:=hf 2 _ rfl
    have f3:=hf 3 _ rfl
    have f4:=hf 4 _ rfl
    change DataW.trod enc Tryz.prog w base spare held n' 4 (([c0,c1,c2,c3,c4].drop 0).take (Tryz.prog.cellsOf 4))=_ at f0
    change DataW.trod enc Tryz.prog w base spare held n' 4 (([c0,c1,c2,c3,c4].drop 1).take (Tryz.prog.cellsOf 4))=_ at f1
    change DataW.trod enc Tryz.prog w base spare held n' 4 (([c0,c1,c2,c3,c4].drop 2).take (Tryz.prog.cellsOf 4))=_ at f2
    change DataW.trod enc Tryz.prog w base spare held n' 4 (([c0,c1,c2,c3,c4].drop 3).take (Tryz.prog.cellsOf 4))=_ at f3
    change DataW.trod enc Tryz.prog w base spare held n' 4 (([c0,c1,c2,c3,c4].drop 4).take (Tryz.prog.cellsOf 4))=_ at f4
    rw [ku,List.getElem?_eq_getElem (by omega)] at f0 f1 f2 f3 f4
    obtain ⟨v0,e0,_⟩:=DataW.trod_bool Tryz.underlying4 f0
    obtain ⟨v1,e1,_⟩:=DataW.trod_bool Tryz.underlying4 f1
    obtain ⟨v2,e2,_⟩:=DataW.trod_bool Tryz.underlying4 f2
    obtain ⟨v3,e3,_⟩:=DataW.trod_bool Tryz.underlying4 f3
    obtain ⟨v4,e4,_⟩:=DataW.trod_bool Tryz.underlying4 f4
    simp at e0 e1 e2 e3 e4
    subst e0 e1 e2 e3 e4
    exact ⟨⟨v0,v1,v2,v3,v4⟩,rfl⟩
theorem flags_arg {r:Reach} {b0:Nat} {v:Value} {d:DataW H} {p:List MemPlace} {spare:Nat → Bool} (hv:Value.okWide Tryz.prog w r b0 28 v) (h:DataW.Trod enc Tryz.prog w base spare held 28 v d p):∃ y:Fl,v=.agg (fC y) ∧ True:=by
  obtain ⟨cs,rfl,hsz⟩:=okWide_struct Tryz.underlying28 hv
  obtain ⟨fuel,hf⟩:=h
  obtain ⟨y,hy⟩:=flags_cells hf
  refine ⟨y,?_,trivial⟩
  have:cs=fC y:=by
    apply Array.ext'
    simpa [Value.cells] using hy
  rw [this]
end
end Go.Proofs.YtbpehbeakhocnaaGreatDoor.Flg
namespace Go.Proofs.YtbpehbeakhocnaaGreatDoor.Exe
open Go Go.RowKit Go.ChangeShapes Go.WideShapes Go.Deep
open Flg (Fl)
set_option maxRecDepth 100000
theorem wf_u64 {a:Int} (h:(Lit.int .u64 a).wf=true):0 ≤ a ∧ a < 18446744073709551616:=by
  have:0 ≤ a ∧ a ≤ 18446744073709551615:=by simpa [Lit.wf,IntKind.min,IntKind.max,IntKind.bits,IntKind.signed] using h
  omega
theorem pieces (m:Nat):∀ (n:Nat) (cs:List Value),cs.length=n * m → cs=(List.range n).flatMap (fun i=>(cs.drop (i * m)).take m)
  | 0,cs,h=>by
    have:cs=[]:=List.eq_nil_of_length_eq_zero (by omega)
    rw [this];rfl
  | n + 1,cs,h=>by
    rw [Nat.succ_mul] at h
    have ih:=pieces m n (cs.take (n * m)) (by rw [List.length_take];omega)
    rw [List.range_succ,List.flatMap_append]
    have e:(List.range n).flatMap (fun i=>(cs.drop (i * m)).take m)=cs.take (n * m):=by
      rw [ih]
      have:∀ l:List Nat,(∀ i ∈ l,i < n) → l.flatMap (fun i=>(cs.drop (i * m)).take m)=l.flatMap (fun i=>((cs.take (n * m)).drop (i * m)).take m):=by
        intro l
        induction l with
        | nil=>intro _;rfl
        | cons j l ihl=>
          intro hl
          rw [List.flatMap_cons,List.flatMap_cons,ihl (fun i hi=>hl i (List.mem_cons_of_mem _ hi))]
          congr 1
          have hj:=hl j (List.mem_cons_self ..)
          have:j * m + m ≤ n * m:=by rw [← Nat.succ_mul];exact Nat.mul_le_mul_right m hj
          rw [List.drop_take,List.take_take,Nat.min_eq_left (by omega)]
      exact this _ (fun i hi=>List.mem_range.1 hi)
    rw [e]
    simp only [List.flatMap_cons,List.flatMap_nil,List.append_nil]
    have e2:(cs.drop (n * m)).take m=cs.drop (n * m):=List.take_of_length_le (by rw [List.length_drop];omega)
    rw [e2,List.take_append_drop]
theorem chop {α:Type} [Inhabited α] (C:α → List Value) (P:α → Prop) (m n:Nat) (cs:List Value) (hl:cs.length=n * m) (h:∀ i,i < n → ∃ y,(cs.drop (i * m)).take m=C y ∧ P y):∃ S:Nat → α,(∀ i,i < n → P (S i)) ∧ cs=(List.range n).flatMap (fun i=>C (S i)):=by
  classical
  refine ⟨fun i=>if hi:i < n then (h i hi).choose else default,fun i hi=>?_,?_⟩
  · dsimp only
    rw [dif_pos hi]
    exact (h i hi).choose_spec.2
  · refine (pieces m n cs hl).trans ?_
    have:∀ l:List Nat,(∀ i ∈ l,i < n) → l.flatMap (fun i=>(cs.drop (i * m)).take m)=l.flatMap (fun i=>C (if hi:i < n then (h i hi).choose else default)):=by
      intro l
      induction l with
      | nil=>intro _;rfl
      | cons j l ihl=>
        intro hj
        rw [List.flatMap_cons,List.flatMap_cons,ihl (fun i hi=>hj i (List.mem_cons_of_mem _ hi))]
        congr 1
        have hjn:=hj j (List.mem_cons_self ..)
        rw [dif_pos hjn]
        exact (h j hjn).choose_spec.1
    exact this (List.range n) (fun i hi=>List.mem_range.1 hi)
section
variable {H:Type} {enc:TypeId × Value → H} {w:World} {base:Nat} {held:Bool}
theorem arr_cells {t e:TypeId} {α:Type} [Inhabited α] (C:α → List Value) (P:α → Prop) {k m:Nat} (ht:Tryz.prog.underlying t=some (.array k e)) (hm:Tryz.prog.cellsOf e=m) (hkm:Tryz.prog.cellsOf t=k * m)
    (hC:∀ {n:Nat} {cs:List Value} {x:DataW H × List MemPlace} {spare:Nat → Bool},DataW.trod enc Tryz.prog w base spare held n e cs=some x → ∃ y,cs=C y ∧ P y)
    {n:Nat} {cs:List Value} {x:DataW H × List MemPlace} {spare:Nat → Bool} (h:DataW.trod enc Tryz.prog w base spare held n t cs=some x):∃ S:Nat → α,(∀ i,i < k → P (S i)) ∧ cs=(List.range k).flatMap (fun i=>C (S i)):=by
  obtain ⟨xs,n',_,_,hlen,hxl,hf⟩:=DataW.trod_array ht h
  refine chop C P m k cs (hlen.trans hkm) (fun i hi=>?_)
  have f:=hf i hi
  rw [hm,List.getElem?_eq_getElem (by omega)] at f
  exact hC f
instance:Inhabited { v:Int // U64 v }:=⟨⟨0,by omega,by omega⟩⟩
theorem word_cell {n:Nat} {cs:List Value} {x:DataW H × List MemPlace} {spare:Nat → Bool} (h:DataW.trod enc Tryz.prog w base spare held n 23 cs=some x):∃ y:{ v:Int // U64 v },cs=[.int .u64 y.1] ∧ True:=by
  obtain ⟨v,e,_,wf⟩:=DataW.trod_int Tryz.underlying23 h
  exact ⟨⟨v,wf_u64 wf⟩,e,trivial⟩
theorem mc_cells {n:Nat} {cs:List Value} {x:DataW H × List MemPlace} {spare:Nat → Bool} (h:DataW.trod enc Tryz.prog w base spare held n 30 cs=some x):∃ m:Mc,cs=(mcC m).toList ∧ MOk m:=by
  obtain ⟨xs,n',_,_,hlen,hxl,hf⟩:=DataW.trod_struct Tryz.underlying30 h
  have hl:cs.length=22:=hlen.trans (by kernel_rfl)
  have kr:Tryz.prog.cellsOf 26=16:=by kernel_rfl
  have ki:Tryz.prog.cellsOf 28=5:=by kernel_rfl
  have ks:Tryz.prog.cellsOf 23=1:=by kernel_rfl
  have hx:xs.length=3:=hxl
  have f0:=hf 0 _ rfl
  have f1:=hf 1 _ rfl
  have f2:=hf 2 _ rfl
  change DataW.trod enc Tryz.prog w base spare held n' 26 ((cs.drop 0).take (Tryz.prog.cellsOf 26))=_ at f0
  change DataW.trod enc Tryz.prog w base spare held n' 28 ((cs.drop 16).take (Tryz.prog.cellsOf 28))=_ at f1
  change DataW.trod enc Tryz.prog w base spare held n' 23 ((cs.drop 21).take (Tryz.prog.cellsOf 23))=_ at f2
  rw [kr,List.getElem?_eq_getElem (by omega),List.drop_zero] at f0
  rw [ki,List.getElem?_eq_getElem (by omega)] at f1
  rw [ks,List.getElem?_eq_getElem (by omega)] at f2
  obtain ⟨r,_,er⟩:=arr_cells (fun y:{ v:Int // U64 v }=>[Value.int .u64 y.1]) (fun _=>True) (k:=16) (m:=1) Tryz.underlying26 (by kernel_rfl) kr (fun h=>word_cell h) f0
  obtain ⟨f,ef⟩:=Flg.flags_cells f1
  obtain ⟨s,es,_⟩:=word_cell f2
  refine ⟨⟨fun j=>(r j).1,f,s.1⟩,?_,fun j=>(r j).2,s.2⟩
  have e:cs=cs.take 16 ++ ((cs.drop 16).take 5 ++ (cs.drop 21).take 1):=by
    rw [show (cs.drop 21).take 1=cs.drop 21 from List.take_of_length_le (by rw [List.length_drop];omega)]
    have:cs.drop 21=(cs.drop 16).drop 5:=by rw [List.drop_drop]
    rw [this,List.take_append_drop,List.take_append_drop]
  rw [e,er,ef,es]
  rfl
theorem mc_arg {r:Reach} {b0:Nat} {v:Value} {d:DataW H} {p:List MemPlace} {spare:Nat → Bool} (hv:Value.okWide Tryz.prog w r b0 30 v) (h:DataW.Trod enc Tryz.prog w base spare held 30 v d p):∃ m:Mc,v=.agg (mcC m) ∧ MOk m:=by
  obtain ⟨cs,rfl,hsz⟩:=okWide_struct Tryz.underlying30 hv
  obtain ⟨fuel,hf⟩:=h
  obtain ⟨y,hy,ok⟩:=mc_cells hf
  have hy':cs.toList=(mcC y).toList:=by simpa [Value.cells] using hy
  exact ⟨y,congrArg Value.agg (Array.ext' hy'),ok⟩
end
end Go.Proofs.YtbpehbeakhocnaaGreatDoor.Exe
