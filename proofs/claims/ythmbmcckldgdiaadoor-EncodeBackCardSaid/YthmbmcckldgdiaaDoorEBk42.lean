import Derived.Test.YthmbmcckldgdiaaDoorEBk28
import Derived.Test.YthmbmcckldgdiaaDoorEBk41
set_option linter.unusedVariables false
set_option linter.unusedSimpArgs false
set_option linter.unnecessarySimpa false
namespace Go.Proofs.YthmbmcckldgdiaaDoor.Mrm
open Go Go.RowKit Go.ChangeShapes Go.WideShapes Go.Deep
set_option linter.unusedVariables false
set_option maxRecDepth 100000
section
variable {H:Type} {enc:TypeId × Value → H} {w:World} {base:Nat} {held:Bool}
def wdD (v:Int):DataW H:=.lit (.int .i8 v)
theorem widths_cells {fuel:Nat} {cs:List Value} {p:List MemPlace} {spare:Nat → Bool} (h:DataW.trod enc Tryd.prog w base spare held fuel 87 cs=some (Rows.laid_lathe_encode_widths,p)):cs=widthsC.toList:=by
  obtain ⟨xs,m,_,hx,hl,hn,hi⟩:=DataW.trod_array Tryd.underlying87 h
  have k1:Tryd.prog.cellsOf 22=1:=by kernel_rfl
  have k2:Tryd.prog.cellsOf 87=5:=by kernel_rfl
  rw [k2] at hl
  have hd:(Rows.laid_lathe_encode_widths:DataW H)=.agg (widthsL.map wdD):=rfl
  rw [hd] at hx
  have hm:widthsL.map wdD=xs.map (·.1):=by
    injection hx with h1 _
    injection h1
  have hL:widthsL.length=5:=rfl
  show cs=widthsL.flatMap (fun v=>[Value.int .i8 v])
  refine flat_of (fun v=>[Value.int .i8 v]) 1 widthsL cs (by rw [hl,hL]) (fun i hi'=>?_)
  have q:=hi i (by rw [hL] at hi';exact hi')
  rw [k1,List.getElem?_eq_getElem (by rw [hn];rw [hL] at hi';exact hi')] at q
  obtain ⟨v,e1,e2,_⟩:=DataW.trod_int Tryd.underlying22 q
  rw [e1]
  have e3:(widthsL.map (wdD:_ → DataW H))[i]?=(xs.map (·.1))[i]?:=by rw [hm]
  rw [List.getElem?_map,List.getElem?_map,List.getElem?_eq_getElem hi',List.getElem?_eq_getElem (by rw [hn];rw [hL] at hi';exact hi')] at e3
  simp only [Option.map_some,Option.some.injEq] at e3
  have e4:(wdD widthsL[i]:DataW H)=.lit (.int .i8 v):=by rw [e3,e2]
  unfold wdD at e4
  injection e4 with e4
  injection e4 with _ e4
  rw [e4]
end
theorem gWidths:Tryd.prog.globalNamed "lathe/encode.widths" = some 0:=by kernel_rfl
theorem tWidths:(Tryd.prog.globals[(0:Nat)]?).map (·.type)=some 87:=by kernel_rfl
theorem widths_row {W:World} {rest:List (String × DataW Unit)} (h:laidMet Tryd.prog (("lathe/encode.widths", Rows.laid_lathe_encode_widths) :: rest) W):∃ T fr,W.heap[(0:Nat)]?=some (.cells widthsC T fr):=by
  obtain ⟨ps,⟨g',t',cs,fuel,p,q,hg',ht',hvar,hd,_,_⟩,_⟩:=h
  obtain rfl:=Option.some.inj (gWidths.symm.trans hg')
  obtain rfl:=Option.some.inj (tWidths.symm.trans ht')
  have:=Array.toList_inj.1 (widths_cells hd)
  obtain ⟨T,fr,e⟩:=var_row gWidths hvar
  refine ⟨T,fr,?_⟩
  rw [e,this]
theorem tabs_of3 {W:World} (h:laidMetH Tryd.prog [("lathe/encode.codes", Rows.laid_lathe_encode_codes),("lathe/encode.others", Rows.laid_lathe_encode_others),("lathe/encode.widths", Rows.laid_lathe_encode_widths)] W):Tab3 W:=by
  rw [MakeChecks.laidMetH_plain _ _ _ (by kernel_rfl)] at h
  exact ⟨codes_row h,others_row (laidMet.tail h),widths_row (laidMet.tail (laidMet.tail h))⟩
theorem Tab3.size {W:World} (h:Tab3 W):3 ≤ W.heap.size:=by
  obtain ⟨⟨_,_,e1⟩,⟨_,_,e2⟩,⟨_,_,e3⟩⟩:=h
  have h1:=(Array.getElem?_eq_some_iff.1 e1).1
  have h2:=(Array.getElem?_eq_some_iff.1 e2).1
  have h3:=(Array.getElem?_eq_some_iff.1 e3).1
  omega
theorem tail_len (s:Int) (r m d i:Int):(bif inMemB s then memL r m d else bif inOpB s then regL r m else []).length + (numL i (immN s).toNat).length ≤ 6:=by
  rw [numL_length]
  cases hm:inMemB s
  · have h3:(immN s).toNat ≤ 4:=by
      unfold immN
      cases (s == 3 || (s == 6 || s == 9)) <;> cases (s == 4 || s == 10) <;> decide
    rw [cond_false]
    cases inOpB s
    · exact Nat.le_trans (by rw [cond_false];simp only [List.length_nil,Nat.zero_add];exact h3) (by decide)
    · rw [cond_true]
      show 1 + _ ≤ 6
      omega
  · have h3:immN s=0:=by
      unfold inMemB at hm
      simp only [Bool.or_eq_true,beq_iff_eq] at hm
      rcases hm with rfl | rfl <;> rfl
    rw [cond_true,h3]
    exact memL_few r m d
theorem bytes_few (x:Xi) (hX:XOk x) (h:mayX x=true):(bytesX x).length ≤ 10:=by
  rw [← encX_is x hX h]
  unfold encX encP operandP immP
  have h1:=aheadP_len x.w (codeOfP x.op x.w).1 (partsP x (codeOfP x.op x.w).1)
  have h2:=tail_len (codeOfP x.op x.w).1.sh (partsP x (codeOfP x.op x.w).1).reg (partsP x (codeOfP x.op x.w).1).rm (partsP x (codeOfP x.op x.w).1).disp (partsP x (codeOfP x.op x.w).1).imm
  rw [List.length_append,List.length_append]
  omega
end Go.Proofs.YthmbmcckldgdiaaDoor.Mrm
