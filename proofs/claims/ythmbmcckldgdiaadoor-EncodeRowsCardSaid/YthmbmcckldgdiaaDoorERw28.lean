import Derived.Test.YthmbmcckldgdiaaDoorERw14
import Derived.Test.YthmbmcckldgdiaaDoorRows
import Derived.ProofKit
import Derived.LaidMore
import Derived.MakeChecks
import Derived.Lib.LaidTab
import Derived.Stop.LaidErr
import Derived.Deep.Slices
import Derived.Deep.Fields
import Derived.ChangeSame
set_option linter.unusedVariables false
set_option linter.unusedSimpArgs false
set_option linter.unnecessarySimpa false
namespace Go.Proofs.YthmbmcckldgdiaaDoor.Mrm
open Go Go.RowKit Go.ChangeShapes Go.WideShapes Go.Deep
set_option linter.unusedVariables false
set_option maxRecDepth 100000
theorem bdo_i8 {a:Int} (h:(Lit.int .i8 a).wf=true):-128 ≤ a ∧ a < 128:=by
  have:-128 ≤ a ∧ a ≤ 127:=by simpa [Lit.wf,IntKind.min,IntKind.max,IntKind.bits,IntKind.signed] using h
  omega
theorem bdo_i64 {a:Int} (h:(Lit.int .i64 a).wf=true):-9223372036854775808 ≤ a ∧ a ≤ 9223372036854775807:=by simpa [Lit.wf,IntKind.min,IntKind.max,IntKind.bits,IntKind.signed] using h
section
variable {H:Type} {enc:TypeId × Value → H} {w:World} {base:Nat} {held:Bool}
theorem xi_cells {n:Nat} {cs:List Value} {x:DataW H × List MemPlace} {spare:Nat → Bool} (h:DataW.trod enc Tryd.prog w base spare held n 24 cs=some x):∃ y:Xi,cs=xL y ∧ XOk y:=by
  obtain ⟨xs,n',_,hx,hlen,hxl,hf⟩:=DataW.trod_struct Tryd.underlying24 h
  have hl:cs.length=8:=hlen.trans (by kernel_rfl)
  match cs,hl with
  | [c0,c1,c2,c3,c4,c5,c6,c7],_=>
    have hxn:xs.length=8:=hxl
    have k_i8:Tryd.prog.cellsOf 22=1:=by kernel_rfl
    have k_int:Tryd.prog.cellsOf 3=1:=by kernel_rfl
    have f0:=hf 0 _ rfl
    change DataW.trod enc Tryd.prog w base spare held n' 22 (([c0,c1,c2,c3,c4,c5,c6,c7].drop 0).take (Tryd.prog.cellsOf 22))=_ at f0
    rw [k_i8,List.getElem?_eq_getElem (by omega)] at f0
    obtain ⟨v0,e0,g0,w0⟩:=DataW.trod_int Tryd.underlying22 f0
    have f1:=hf 1 _ rfl
    change DataW.trod enc Tryd.prog w base spare held n' 22 (([c0,c1,c2,c3,c4,c5,c6,c7].drop 1).take (Tryd.prog.cellsOf 22))=_ at f1
    rw [k_i8,List.getElem?_eq_getElem (by omega)] at f1
    obtain ⟨v1,e1,g1,w1⟩:=DataW.trod_int Tryd.underlying22 f1
    have f2:=hf 2 _ rfl
    change DataW.trod enc Tryd.prog w base spare held n' 22 (([c0,c1,c2,c3,c4,c5,c6,c7].drop 2).take (Tryd.prog.cellsOf 22))=_ at f2
    rw [k_i8,List.getElem?_eq_getElem (by omega)] at f2
    obtain ⟨v2,e2,g2,w2⟩:=DataW.trod_int Tryd.underlying22 f2
    have f3:=hf 3 _ rfl
    change DataW.trod enc Tryd.prog w base spare held n' 22 (([c0,c1,c2,c3,c4,c5,c6,c7].drop 3).take (Tryd.prog.cellsOf 22))=_ at f3
    rw [k_i8,List.getElem?_eq_getElem (by omega)] at f3
    obtain ⟨v3,e3,g3,w3⟩:=DataW.trod_int Tryd.underlying22 f3
    have f4:=hf 4 _ rfl
    change DataW.trod enc Tryd.prog w base spare held n' 22 (([c0,c1,c2,c3,c4,c5,c6,c7].drop 4).take (Tryd.prog.cellsOf 22))=_ at f4
    rw [k_i8,List.getElem?_eq_getElem (by omega)] at f4
    obtain ⟨v4,e4,g4,w4⟩:=DataW.trod_int Tryd.underlying22 f4
    have f5:=hf 5 _ rfl
    change DataW.trod enc Tryd.prog w base spare held n' 3 (([c0,c1,c2,c3,c4,c5,c6,c7].drop 5).take (Tryd.prog.cellsOf 3))=_ at f5
    rw [k_int,List.getElem?_eq_getElem (by omega)] at f5
    obtain ⟨v5,e5,g5,w5⟩:=DataW.trod_int Tryd.underlying3 f5
    have f6:=hf 6 _ rfl
    change DataW.trod enc Tryd.prog w base spare held n' 3 (([c0,c1,c2,c3,c4,c5,c6,c7].drop 6).take (Tryd.prog.cellsOf 3))=_ at f6
    rw [k_int,List.getElem?_eq_getElem (by omega)] at f6
    obtain ⟨v6,e6,g6,w6⟩:=DataW.trod_int Tryd.underlying3 f6
    have f7:=hf 7 _ rfl
    change DataW.trod enc Tryd.prog w base spare held n' 22 (([c0,c1,c2,c3,c4,c5,c6,c7].drop 7).take (Tryd.prog.cellsOf 22))=_ at f7
    rw [k_i8,List.getElem?_eq_getElem (by omega)] at f7
    obtain ⟨v7,e7,g7,w7⟩:=DataW.trod_int Tryd.underlying22 f7
    simp at e0 e1 e2 e3 e4 e5 e6 e7
    subst e0 e1 e2 e3 e4 e5 e6 e7
    exact ⟨⟨v0,v1,v2,v3,v4,v5,v6,v7⟩,rfl,⟨bdo_i8 w0,bdo_i8 w1,bdo_i8 w2,bdo_i8 w3,bdo_i8 w4,bdo_i64 w5,bdo_i64 w6,bdo_i8 w7⟩⟩
def cdD (c:Cd):DataW H:=.agg [.lit (.int .i8 c.sh),.lit (.int .i8 c.wd),.lit (.int .u16 c.va),.lit (.int .i8 c.dg),.lit (.int .u16 c.lo)]
def otD (o:Int × Cd):DataW H:=.agg [.lit (.int .i8 o.1),cdD o.2]
theorem cd_cells {n:Nat} {cs:List Value} {x:DataW H × List MemPlace} {spare:Nat → Bool} (h:DataW.trod enc Tryd.prog w base spare held n 66 cs=some x):∃ c:Cd,cs=cdL c ∧ x.1=cdD c:=by
  obtain ⟨xs,n',_,hx,hlen,hxl,hf⟩:=DataW.trod_struct Tryd.underlying66 h
  have hl:cs.length=5:=hlen.trans (by kernel_rfl)
  match cs,hl with
  | [c0,c1,c2,c3,c4],_=>
    have hxn:xs.length=5:=hxl
    have k_i8:Tryd.prog.cellsOf 22=1:=by kernel_rfl
    have k_u16:Tryd.prog.cellsOf 64=1:=by kernel_rfl
    have f0:=hf 0 _ rfl
    change DataW.trod enc Tryd.prog w base spare held n' 22 (([c0,c1,c2,c3,c4].drop 0).take (Tryd.prog.cellsOf 22))=_ at f0
    rw [k_i8,List.getElem?_eq_getElem (by omega)] at f0
    obtain ⟨v0,e0,g0,w0⟩:=DataW.trod_int Tryd.underlying22 f0
    have f1:=hf 1 _ rfl
    change DataW.trod enc Tryd.prog w base spare held n' 22 (([c0,c1,c2,c3,c4].drop 1).take (Tryd.prog.cellsOf 22))=_ at f1
    rw [k_i8,List.getElem?_eq_getElem (by omega)] at f1
    obtain ⟨v1,e1,g1,w1⟩:=DataW.trod_int Tryd.underlying22 f1
    have f2:=hf 2 _ rfl
    change DataW.trod enc Tryd.prog w base spare held n' 64 (([c0,c1,c2,c3,c4].drop 2).take (Tryd.prog.cellsOf 64))=_ at f2
    rw [k_u16,List.getElem?_eq_getElem (by omega)] at f2
    obtain ⟨v2,e2,g2,w2⟩:=DataW.trod_int Tryd.underlying64 f2
    have f3:=hf 3 _ rfl
    change DataW.trod enc Tryd.prog w base spare held n' 22 (([c0,c1,c2,c3,c4].drop 3).take (Tryd.prog.cellsOf 22))=_ at f3
    rw [k_i8,List.getElem?_eq_getElem (by omega)] at f3
    obtain ⟨v3,e3,g3,w3⟩:=DataW.trod_int Tryd.underlying22 f3
    have f4:=hf 4 _ rfl
    change DataW.trod enc Tryd.prog w base spare held n' 64 (([c0,c1,c2,c3,c4].drop 4).take (Tryd.prog.cellsOf 64))=_ at f4
    rw [k_u16,List.getElem?_eq_getElem (by omega)] at f4
    obtain ⟨v4,e4,g4,w4⟩:=DataW.trod_int Tryd.underlying64 f4
    simp at e0 e1 e2 e3 e4
    subst e0 e1 e2 e3 e4
    refine ⟨⟨v0,v1,v2,v3,v4⟩,rfl,?_⟩
    rw [hx]
    match xs,hxn with
    | [y0,y1,y2,y3,y4],_=>
      simp only [List.getElem_cons_zero,List.getElem_cons_succ] at g0 g1 g2 g3 g4
      show DataW.agg [y0.1,y1.1,y2.1,y3.1,y4.1]=_
      rw [g0,g1,g2,g3,g4]
      rfl
theorem ot_cells {n:Nat} {cs:List Value} {x:DataW H × List MemPlace} {spare:Nat → Bool} (h:DataW.trod enc Tryd.prog w base spare held n 98 cs=some x):∃ o:Int × Cd,cs=otL o ∧ x.1=otD o:=by
  obtain ⟨xs,n',_,hx,hlen,hxl,hf⟩:=DataW.trod_struct Tryd.underlying98 h
  have hl:cs.length=6:=hlen.trans (by kernel_rfl)
  match cs,hl with
  | [c0,c1,c2,c3,c4,c5],_=>
    have hxn:xs.length=2:=hxl
    have k_i8:Tryd.prog.cellsOf 22=1:=by kernel_rfl
    have k_cd:Tryd.prog.cellsOf 66=5:=by kernel_rfl
    have f0:=hf 0 _ rfl
    change DataW.trod enc Tryd.prog w base spare held n' 22 (([c0,c1,c2,c3,c4,c5].drop 0).take (Tryd.prog.cellsOf 22))=_ at f0
    rw [k_i8,List.getElem?_eq_getElem (by omega)] at f0
    obtain ⟨v0,e0,g0,w0⟩:=DataW.trod_int Tryd.underlying22 f0
    have f1:=hf 1 _ rfl
    change DataW.trod enc Tryd.prog w base spare held n' 66 (([c0,c1,c2,c3,c4,c5].drop 1).take (Tryd.prog.cellsOf 66))=_ at f1
    rw [k_cd,List.getElem?_eq_getElem (by omega)] at f1
    obtain ⟨c,e1,g1⟩:=cd_cells f1
    simp at e0 e1
    obtain ⟨rfl,rfl,rfl,rfl,rfl⟩:=e1
    subst e0
    refine ⟨(v0,c),rfl,?_⟩
    rw [hx]
    match xs,hxn with
    | [y0,y1],_=>
      simp only [List.getElem_cons_zero,List.getElem_cons_succ] at g0 g1
      show DataW.agg [y0.1,y1.1]=_
      rw [g0,g1]
      rfl
theorem flat_of {α:Type} (f:α → List Value) (n:Nat):∀ (L:List α) (cs:List Value),cs.length=L.length * n → (∀ i (hi:i < L.length),(cs.drop (i * n)).take n=f L[i]) → cs=L.flatMap f
  | [],cs,hl,_=>List.eq_nil_of_length_eq_zero (by simpa using hl)
  | a :: L,cs,hl,h=>by
    have h0:=h 0 (by simp)
    have ih:=flat_of f n L (cs.drop n) (by rw [List.length_drop,hl,List.length_cons,Nat.add_mul];omega) (fun i hi=>by
      have:=h (i + 1) (by simpa using hi)
      rw [List.drop_drop,show n + i * n=(i + 1) * n by rw [Nat.add_mul];omega]
      exact this)
    simp only [Nat.zero_mul,List.drop_zero,List.getElem_cons_zero] at h0
    rw [List.flatMap_cons,← h0,← ih]
    exact (List.take_append_drop _ _).symm
theorem cdD_inj {c d:Cd} (h:(cdD c:DataW H)=cdD d):c=d:=by
  obtain ⟨a0,a1,a2,a3,a4⟩:=c
  obtain ⟨b0,b1,b2,b3,b4⟩:=d
  simp [cdD] at h
  obtain ⟨rfl,rfl,rfl,rfl,rfl⟩:=h
  rfl
theorem otD_inj {c d:Int × Cd} (h:(otD c:DataW H)=otD d):c=d:=by
  obtain ⟨a,c⟩:=c
  obtain ⟨b,d⟩:=d
  have h1:a=b:=by simp [otD] at h;exact h.1
  have h2:c=d:=cdD_inj (H:=H) (by simp only [otD,DataW.agg.injEq,List.cons.injEq] at h;exact h.2.1)
  rw [h1,h2]
theorem codes_cells {fuel:Nat} {cs:List Value} {p:List MemPlace} {spare:Nat → Bool} (h:DataW.trod enc Tryd.prog w base spare held fuel 97 cs=some (Rows.laid_lathe_encode_codes,p)):cs=codesC.toList:=by
  obtain ⟨xs,m,_,hx,hl,hn,hi⟩:=DataW.trod_array Tryd.underlying97 h
  have k1:Tryd.prog.cellsOf 66=5:=by kernel_rfl
  have k2:Tryd.prog.cellsOf 97=160:=by kernel_rfl
  rw [k2] at hl
  have hd:(Rows.laid_lathe_encode_codes:DataW H)=.agg (codesL.map cdD):=rfl
  rw [hd] at hx
  have hm:codesL.map cdD=xs.map (·.1):=by
    injection hx with h1 _
    injection h1
  have hL:codesL.length=32:=rfl
  show cs=codesL.flatMap cdL
  refine flat_of cdL 5 codesL cs (by rw [hl,hL]) (fun i hi'=>?_)
  have q:=hi i (by rw [hL] at hi';exact hi')
  rw [k1,List.getElem?_eq_getElem (by rw [hn];rw [hL] at hi';exact hi')] at q
  obtain ⟨c,e1,e2⟩:=cd_cells q
  rw [e1]
  congr 1
  have e3:(codesL.map (cdD:_ → DataW H))[i]?=(xs.map (·.1))[i]?:=by rw [hm]
  rw [List.getElem?_map,List.getElem?_map,List.getElem?_eq_getElem hi',List.getElem?_eq_getElem (by rw [hn];rw [hL] at hi';exact hi')] at e3
  simp only [Option.map_some,Option.some.injEq] at e3
  rw [e2] at e3
  exact (cdD_inj e3).symm
theorem others_cells {fuel:Nat} {cs:List Value} {p:List MemPlace} {spare:Nat → Bool} (h:DataW.trod enc Tryd.prog w base spare held fuel 99 cs=some (Rows.laid_lathe_encode_others,p)):cs=othersC.toList:=by
  obtain ⟨xs,m,_,hx,hl,hn,hi⟩:=DataW.trod_array Tryd.underlying99 h
  have k1:Tryd.prog.cellsOf 98=6:=by kernel_rfl
  have k2:Tryd.prog.cellsOf 99=36:=by kernel_rfl
  rw [k2] at hl
  have hd:(Rows.laid_lathe_encode_others:DataW H)=.agg (othersL.map otD):=rfl
  rw [hd] at hx
  have hm:othersL.map otD=xs.map (·.1):=by
    injection hx with h1 _
    injection h1
  have hL:othersL.length=6:=rfl
  show cs=othersL.flatMap otL
  refine flat_of otL 6 othersL cs (by rw [hl,hL]) (fun i hi'=>?_)
  have q:=hi i (by rw [hL] at hi';exact hi')
  rw [k1,List.getElem?_eq_getElem (by rw [hn];rw [hL] at hi';exact hi')] at q
  obtain ⟨c,e1,e2⟩:=ot_cells q
  rw [e1]
  congr 1
  have e3:(othersL.map (otD:_ → DataW H))[i]?=(xs.map (·.1))[i]?:=by rw [hm]
  rw [List.getElem?_map,List.getElem?_map,List.getElem?_eq_getElem hi',List.getElem?_eq_getElem (by rw [hn];rw [hL] at hi';exact hi')] at e3
  simp only [Option.map_some,Option.some.injEq] at e3
  rw [e2] at e3
  exact (otD_inj e3).symm
end
theorem gCodes:Tryd.prog.globalNamed "lathe/encode.codes" = some 1:=by kernel_rfl
theorem gOthers:Tryd.prog.globalNamed "lathe/encode.others" = some 2:=by kernel_rfl
theorem tCodes:(Tryd.prog.globals[(1:Nat)]?).map (·.type)=some 97:=by kernel_rfl
theorem tOthers:(Tryd.prog.globals[(2:Nat)]?).map (·.type)=some 99:=by kernel_rfl
theorem var_row {P:Program} {W:World} {name:String} {g:Nat} {cs:Array Value} (hg:P.globalNamed name=some g) (h:W.var? P name=some cs):∃ T fr,W.heap[g]?=some (.cells cs T fr):=by
  unfold World.var? at h
  rw [hg] at h
  simp only [Option.bind_some] at h
  split at h
  · rename_i cs' T fr e
    obtain rfl:=Option.some.inj h
    exact ⟨T,fr,e⟩
  · cases h
theorem codes_row {W:World} {rest:List (String × DataW Unit)} (h:laidMet Tryd.prog (("lathe/encode.codes", Rows.laid_lathe_encode_codes) :: rest) W):∃ T fr,W.heap[(1:Nat)]?=some (.cells codesC T fr):=by
  obtain ⟨ps,⟨g',t',cs,fuel,p,q,hg',ht',hvar,hd,_,_⟩,_⟩:=h
  obtain rfl:=Option.some.inj (gCodes.symm.trans hg')
  obtain rfl:=Option.some.inj (tCodes.symm.trans ht')
  have:=Array.toList_inj.1 (codes_cells hd)
  obtain ⟨T,fr,e⟩:=var_row gCodes hvar
  refine ⟨T,fr,?_⟩
  rw [e,this]
theorem others_row {W:World} {rest:List (String × DataW Unit)} (h:laidMet Tryd.prog (("lathe/encode.others", Rows.laid_lathe_encode_others) :: rest) W):∃ T fr,W.heap[(2:Nat)]?=some (.cells othersC T fr):=by
  obtain ⟨ps,⟨g',t',cs,fuel,p,q,hg',ht',hvar,hd,_,_⟩,_⟩:=h
  obtain rfl:=Option.some.inj (gOthers.symm.trans hg')
  obtain rfl:=Option.some.inj (tOthers.symm.trans ht')
  have:=Array.toList_inj.1 (others_cells hd)
  obtain ⟨T,fr,e⟩:=var_row gOthers hvar
  refine ⟨T,fr,?_⟩
  rw [e,this]
end Go.Proofs.YthmbmcckldgdiaaDoor.Mrm
