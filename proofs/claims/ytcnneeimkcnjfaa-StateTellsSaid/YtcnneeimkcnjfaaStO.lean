import Derived.Test.YtcnneeimkcnjfaaRows
import Derived.Test.YtcnneeimkcnjfaaStA
import Derived.ProofKit
import Derived.Deep.Slices
import Derived.Deep.Fields
import Derived.ChangeSame
namespace Go.Proofs.Ytcnneeimkcnjfaa.Sta
open Go.RowKit Go.ChangeShapes Go.WideShapes Go.Deep Bnd Knw
set_option linter.unusedVariables false
set_option maxRecDepth 100000
theorem wf_u64 {a:Int} (h:(Lit.int .u64 a).wf=true):0 ≤ a ∧ a < 18446744073709551616:=by
  have:0 ≤ a ∧ a ≤ 18446744073709551615:=by simpa [Lit.wf,IntKind.min,IntKind.max,IntKind.bits,IntKind.signed] using h
  omega
theorem wf_i64 {a:Int} (h:(Lit.int .i64 a).wf=true):-9223372036854775808 ≤ a ∧ a < 9223372036854775808:=by
  have:-9223372036854775808 ≤ a ∧ a ≤ 9223372036854775807:=by simpa [Lit.wf,IntKind.min,IntKind.max,IntKind.bits,IntKind.signed] using h
  omega
theorem wf_i8 {a:Int} (h:(Lit.int .i8 a).wf=true):-128 ≤ a ∧ a < 128:=by
  have:-128 ≤ a ∧ a ≤ 127:=by simpa [Lit.wf,IntKind.min,IntKind.max,IntKind.bits,IntKind.signed] using h
  omega
theorem wf_u8 {a:Int} (h:(Lit.int .u8 a).wf=true):0 ≤ a ∧ a < 256:=by
  have:0 ≤ a ∧ a ≤ 255:=by simpa [Lit.wf,IntKind.min,IntKind.max,IntKind.bits,IntKind.signed] using h
  omega
section
variable {H:Type} {enc:TypeId × Value → H} {w:World} {base:Nat} {held:Bool}
theorem range_cells {n:Nat} {cs:List Value} {x:DataW H × List MemPlace} {spare:Nat → Bool} (h:DataW.trod enc Try.prog w base spare held n 25 cs=some x):∃ y:Rg,cs=[.int .u64 y.u.lo,.int .u64 y.u.hi,.int .i64 y.s.lo,.int .i64 y.s.hi] ∧ y.Ok:=by
  obtain ⟨xs,n',_,_,hlen,hxl,hf⟩:=DataW.trod_struct Try.underlying25 h
  have hl:cs.length=4:=hlen.trans (by kernel_rfl)
  match cs,hl with
  | [c0,c1,c2,c3],_=>
    have ku:Try.prog.cellsOf 23=1:=by kernel_rfl
    have ki:Try.prog.cellsOf 2=1:=by kernel_rfl
    have hx:xs.length=4:=hxl
    have f0:=hf 0 _ rfl
    have f1:=hf 1 _ rfl
    have f2:=hf 2 _ rfl
    have f3:=hf 3 _ rfl
    change DataW.trod enc Try.prog w base spare held n' 23 (([c0,c1,c2,c3].drop 0).take (Try.prog.cellsOf 23))=_ at f0
    change DataW.trod enc Try.prog w base spare held n' 23 (([c0,c1,c2,c3].drop 1).take (Try.prog.cellsOf 23))=_ at f1
    change DataW.trod enc Try.prog w base spare held n' 2 (([c0,c1,c2,c3].drop 2).take (Try.prog.cellsOf 2))=_ at f2
    change DataW.trod enc Try.prog w base spare held n' 2 (([c0,c1,c2,c3].drop 3).take (Try.prog.cellsOf 2))=_ at f3
    rw [ku,List.getElem?_eq_getElem (by omega)] at f0
    rw [ku,List.getElem?_eq_getElem (by omega)] at f1
    rw [ki,List.getElem?_eq_getElem (by omega)] at f2
    rw [ki,List.getElem?_eq_getElem (by omega)] at f3
    obtain ⟨v0,e0,_,w0⟩:=DataW.trod_int Try.underlying23 f0
    obtain ⟨v1,e1,_,w1⟩:=DataW.trod_int Try.underlying23 f1
    obtain ⟨v2,e2,_,w2⟩:=DataW.trod_int Try.underlying2 f2
    obtain ⟨v3,e3,_,w3⟩:=DataW.trod_int Try.underlying2 f3
    simp at e0 e1 e2 e3
    subst e0 e1 e2 e3
    exact ⟨⟨⟨v0,v1⟩,⟨v2,v3⟩⟩,rfl,⟨wf_u64 w0,wf_u64 w1⟩,⟨wf_i64 w2,wf_i64 w3⟩⟩
theorem known_cells {n:Nat} {cs:List Value} {x:DataW H × List MemPlace} {spare:Nat → Bool} (h:DataW.trod enc Try.prog w base spare held n 27 cs=some x):∃ y:Kn,cs=[.int .u64 (V y.v),.int .u64 (V y.m)]:=by
  obtain ⟨xs,n',_,_,hlen,hxl,hf⟩:=DataW.trod_struct Try.underlying27 h
  have hl:cs.length=2:=hlen.trans (by kernel_rfl)
  match cs,hl with
  | [c0,c1],_=>
    have ku:Try.prog.cellsOf 23=1:=by kernel_rfl
    have hx:xs.length=2:=hxl
    have f0:=hf 0 _ rfl
    have f1:=hf 1 _ rfl
    change DataW.trod enc Try.prog w base spare held n' 23 (([c0,c1].drop 0).take (Try.prog.cellsOf 23))=_ at f0
    change DataW.trod enc Try.prog w base spare held n' 23 (([c0,c1].drop 1).take (Try.prog.cellsOf 23))=_ at f1
    rw [ku,List.getElem?_eq_getElem (by omega)] at f0
    rw [ku,List.getElem?_eq_getElem (by omega)] at f1
    obtain ⟨v0,e0,_,w0⟩:=DataW.trod_int Try.underlying23 f0
    obtain ⟨v1,e1,_,w1⟩:=DataW.trod_int Try.underlying23 f1
    simp at e0 e1
    subst e0 e1
    exact ⟨⟨Bk v0,Bk v1⟩,by rw [V_Bk (wf_u64 w0).1 (wf_u64 w0).2,V_Bk (wf_u64 w1).1 (wf_u64 w1).2]⟩
theorem scalar_cells {n:Nat} {cs:List Value} {x:DataW H × List MemPlace} {spare:Nat → Bool} (h:DataW.trod enc Try.prog w base spare held n 29 cs=some x):∃ y:Sc,cs=(scC y).toList ∧ y.Ok:=by
  obtain ⟨xs,n',_,_,hlen,hxl,hf⟩:=DataW.trod_struct Try.underlying29 h
  have hl:cs.length=6:=hlen.trans (by kernel_rfl)
  match cs,hl with
  | [c0,c1,c2,c3,c4,c5],_=>
    have kr:Try.prog.cellsOf 25=4:=by kernel_rfl
    have kk:Try.prog.cellsOf 27=2:=by kernel_rfl
    have hx:xs.length=2:=hxl
    have f0:=hf 0 _ rfl
    have f1:=hf 1 _ rfl
    change DataW.trod enc Try.prog w base spare held n' 25 (([c0,c1,c2,c3,c4,c5].drop 0).take (Try.prog.cellsOf 25))=_ at f0
    change DataW.trod enc Try.prog w base spare held n' 27 (([c0,c1,c2,c3,c4,c5].drop 4).take (Try.prog.cellsOf 27))=_ at f1
    rw [kr,List.getElem?_eq_getElem (by omega)] at f0
    rw [kk,List.getElem?_eq_getElem (by omega)] at f1
    obtain ⟨r,er,ok⟩:=range_cells f0
    obtain ⟨k,ek⟩:=known_cells f1
    simp at er ek
    obtain ⟨rfl,rfl,rfl,rfl⟩:=er
    obtain ⟨rfl,rfl⟩:=ek
    exact ⟨⟨r,k⟩,rfl,ok⟩
theorem type_cells {n:Nat} {cs:List Value} {x:DataW H × List MemPlace} {spare:Nat → Bool} (h:DataW.trod enc Try.prog w base spare held n 31 cs=some x):∃ y:Ty,cs=tyL y ∧ y.Ok:=by
  obtain ⟨xs,n',_,_,hlen,hxl,hf⟩:=DataW.trod_struct Try.underlying31 h
  have hl:cs.length=9:=hlen.trans (by kernel_rfl)
  match cs,hl with
  | [c0,c1,c2,c3,c4,c5,c6,c7,c8],_=>
    have k8:Try.prog.cellsOf 22=1:=by kernel_rfl
    have ks:Try.prog.cellsOf 29=6:=by kernel_rfl
    have ki:Try.prog.cellsOf 3=1:=by kernel_rfl
    have hx:xs.length=4:=hxl
    have f0:=hf 0 _ rfl
    have f1:=hf 1 _ rfl
    have f2:=hf 2 _ rfl
    have f3:=hf 3 _ rfl
    change DataW.trod enc Try.prog w base spare held n' 22 (([c0,c1,c2,c3,c4,c5,c6,c7,c8].drop 0).take (Try.prog.cellsOf 22))=_ at f0
    change DataW.trod enc Try.prog w base spare held n' 29 (([c0,c1,c2,c3,c4,c5,c6,c7,c8].drop 1).take (Try.prog.cellsOf 29))=_ at f1
    change DataW.trod enc Try.prog w base spare held n' 3 (([c0,c1,c2,c3,c4,c5,c6,c7,c8].drop 7).take (Try.prog.cellsOf 3))=_ at f2
    change DataW.trod enc Try.prog w base spare held n' 3 (([c0,c1,c2,c3,c4,c5,c6,c7,c8].drop 8).take (Try.prog.cellsOf 3))=_ at f3
    rw [k8,List.getElem?_eq_getElem (by omega)] at f0
    rw [ks,List.getElem?_eq_getElem (by omega)] at f1
    rw [ki,List.getElem?_eq_getElem (by omega)] at f2
    rw [ki,List.getElem?_eq_getElem (by omega)] at f3
    obtain ⟨v0,e0,_,w0⟩:=DataW.trod_int Try.underlying22 f0
    obtain ⟨s,es,ok⟩:=scalar_cells f1
    obtain ⟨v2,e2,_,w2⟩:=DataW.trod_int Try.underlying3 f2
    obtain ⟨v3,e3,_,w3⟩:=DataW.trod_int Try.underlying3 f3
    simp at e0 es e2 e3
    obtain ⟨rfl,rfl,rfl,rfl,rfl,rfl⟩:=es
    subst e0 e2 e3
    exact ⟨⟨v0,s,v2,v3⟩,rfl,wf_i8 w0,ok,wf_i64 w2,wf_i64 w3⟩
end
instance:Inhabited Ty:=⟨tZ⟩
theorem pieces (m:Nat):∀ (n:Nat) (cs:List Value),cs.length=n * m → cs=(List.range n).flatMap (fun i=>(cs.drop (i * m)).take m)
  | 0,cs,h=>by
    have:cs=[]:=List.eq_nil_of_length_eq_zero (by omega)
    rw [this];rfl
  | n + 1,cs,h=>by
    rw [Nat.succ_mul] at h
    have ih:=pieces m n (cs.take (n * m)) (by rw [List.length_take];omega)
    rw [List.range_succ,List.flatMap_append]
    have e:(List.range n).flatMap (fun i=>(cs.drop (i * m)).take m)=cs.take (n * m):=by
      rw [ih]
      have:∀ l:List Nat,(∀ i ∈ l,i < n) → l.flatMap (fun i=>(cs.drop (i * m)).take m)=l.flatMap (fun i=>((cs.take (n * m)).drop (i * m)).take m):=by
        intro l
        induction l with
        | nil=>intro _;rfl
        | cons j l ihl=>
          intro hl
          rw [List.flatMap_cons,List.flatMap_cons,ihl (fun i hi=>hl i (List.mem_cons_of_mem _ hi))]
          congr 1
          have hj:=hl j (List.mem_cons_self ..)
          have:j * m + m ≤ n * m:=by rw [← Nat.succ_mul];exact Nat.mul_le_mul_right m hj
          rw [List.drop_take,List.take_take,Nat.min_eq_left (by omega)]
      exact this _ (fun i hi=>List.mem_range.1 hi)
    rw [e]
    simp only [List.flatMap_cons,List.flatMap_nil,List.append_nil]
    have e2:(cs.drop (n * m)).take m=cs.drop (n * m):=List.take_of_length_le (by rw [List.length_drop];omega)
    rw [e2,List.take_append_drop]
theorem chop {α:Type} [Inhabited α] (C:α → List Value) (P:α → Prop) (m n:Nat) (cs:List Value) (hl:cs.length=n * m) (h:∀ i,i < n → ∃ y,(cs.drop (i * m)).take m=C y ∧ P y):∃ S:Nat → α,(∀ i,i < n → P (S i)) ∧ cs=(List.range n).flatMap (fun i=>C (S i)):=by
  classical
  refine ⟨fun i=>if hi:i < n then (h i hi).choose else default,fun i hi=>?_,?_⟩
  · dsimp only
    rw [dif_pos hi]
    exact (h i hi).choose_spec.2
  · refine (pieces m n cs hl).trans ?_
    have:∀ l:List Nat,(∀ i ∈ l,i < n) → l.flatMap (fun i=>(cs.drop (i * m)).take m)=l.flatMap (fun i=>C (if hi:i < n then (h i hi).choose else default)):=by
      intro l
      induction l with
      | nil=>intro _;rfl
      | cons j l ihl=>
        intro hj
        rw [List.flatMap_cons,List.flatMap_cons,ihl (fun i hi=>hj i (List.mem_cons_of_mem _ hi))]
        congr 1
        have hjn:=hj j (List.mem_cons_self ..)
        rw [dif_pos hjn]
        exact (h j hjn).choose_spec.1
    exact this (List.range n) (fun i hi=>List.mem_range.1 hi)
section
variable {H:Type} {enc:TypeId × Value → H} {w:World} {base:Nat} {held:Bool}
theorem arr_cells {t e:TypeId} {α:Type} [Inhabited α] (C:α → List Value) (P:α → Prop) {k m:Nat} (ht:Try.prog.underlying t=some (.array k e)) (hm:Try.prog.cellsOf e=m) (hkm:Try.prog.cellsOf t=k * m)
    (hC:∀ {n:Nat} {cs:List Value} {x:DataW H × List MemPlace} {spare:Nat → Bool},DataW.trod enc Try.prog w base spare held n e cs=some x → ∃ y,cs=C y ∧ P y)
    {n:Nat} {cs:List Value} {x:DataW H × List MemPlace} {spare:Nat → Bool} (h:DataW.trod enc Try.prog w base spare held n t cs=some x):∃ S:Nat → α,(∀ i,i < k → P (S i)) ∧ cs=(List.range k).flatMap (fun i=>C (S i)):=by
  obtain ⟨xs,n',_,_,hlen,hxl,hf⟩:=DataW.trod_array ht h
  refine chop C P m k cs (hlen.trans hkm) (fun i hi=>?_)
  have f:=hf i hi
  rw [hm,List.getElem?_eq_getElem (by omega)] at f
  exact hC f
theorem word_cell {n:Nat} {cs:List Value} {x:DataW H × List MemPlace} {spare:Nat → Bool} (h:DataW.trod enc Try.prog w base spare held n 23 cs=some x):∃ y:B,cs=[.int .u64 (V y)] ∧ True:=by
  obtain ⟨v,e,_,wf⟩:=DataW.trod_int Try.underlying23 h
  exact ⟨Bk v,by rw [V_Bk (wf_u64 wf).1 (wf_u64 wf).2];exact e,trivial⟩
theorem byte_cell {n:Nat} {cs:List Value} {x:DataW H × List MemPlace} {spare:Nat → Bool} (h:DataW.trod enc Try.prog w base spare held n 5 cs=some x):∃ y:Int,cs=[.int .u8 y] ∧ (0 ≤ y ∧ y < 256):=by
  obtain ⟨v,e,_,wf⟩:=DataW.trod_int Try.underlying5 h
  exact ⟨v,e,wf_u8 wf⟩
theorem fm_shift {α:Type} (f:Nat → List α) (g:Nat → List α) (a b:Nat):(List.range a).flatMap f ++ (List.range b).flatMap g=(List.range (a + b)).flatMap (fun i=>if i < a then f i else g (i - a)):=by
  have e1:∀ l:List Nat,(∀ i ∈ l,i < a) → l.flatMap f=l.flatMap (fun i=>if i < a then f i else g (i - a)):=by
    intro l
    induction l with
    | nil=>intro _;rfl
    | cons j l ih=>
      intro h
      rw [List.flatMap_cons,List.flatMap_cons,ih (fun i hi=>h i (List.mem_cons_of_mem _ hi)),if_pos (h j (List.mem_cons_self ..))]
  rw [List.range_add,List.flatMap_append,e1 _ (fun i hi=>List.mem_range.1 hi)]
  congr 1
  have e2:∀ l:List Nat,l.flatMap g=(l.map (fun x=>a + x)).flatMap (fun i=>if i < a then f i else g (i - a)):=by
    intro l
    induction l with
    | nil=>rfl
    | cons j l ih=>
      rw [List.map_cons,List.flatMap_cons,List.flatMap_cons,← ih,if_neg (by omega),show a + j - a=j by omega]
  exact e2 _
theorem state_cells {n:Nat} {cs:List Value} {x:DataW H × List MemPlace} {spare:Nat → Bool} (h:DataW.trod enc Try.prog w base spare held n 35 cs=some x):∃ S:St,cs=stL S ∧ OkS S:=by
  obtain ⟨xs,n',_,_,hlen,hxl,hf⟩:=DataW.trod_struct Try.underlying35 h
  have hl:cs.length=171:=hlen.trans (by kernel_rfl)
  have kr:Try.prog.cellsOf 32=99:=by kernel_rfl
  have ks:Try.prog.cellsOf 33=72:=by kernel_rfl
  have hx:xs.length=2:=hxl
  have f0:=hf 0 _ rfl
  have f1:=hf 1 _ rfl
  change DataW.trod enc Try.prog w base spare held n' 32 ((cs.drop 0).take (Try.prog.cellsOf 32))=_ at f0
  change DataW.trod enc Try.prog w base spare held n' 33 ((cs.drop 99).take (Try.prog.cellsOf 33))=_ at f1
  rw [kr,List.getElem?_eq_getElem (by omega),List.drop_zero] at f0
  rw [ks,List.getElem?_eq_getElem (by omega)] at f1
  obtain ⟨A,ha,ea⟩:=arr_cells tyL Ty.Ok (k:=11) (m:=9) Try.underlying32 (by kernel_rfl) kr (fun h=>type_cells h) f0
  obtain ⟨C,hc,ec⟩:=arr_cells tyL Ty.Ok (k:=8) (m:=9) Try.underlying33 (by kernel_rfl) ks (fun h=>type_cells h) f1
  refine ⟨fun i=>if i < 11 then A i else C (i - 11),?_,fun i hi=>?_⟩
  · have e:cs=cs.take 99 ++ (cs.drop 99).take 72:=by
      rw [show (cs.drop 99).take 72=cs.drop 99 from List.take_of_length_le (by rw [List.length_drop];omega),List.take_append_drop]
    rw [e,ea,ec,fm_shift]
    unfold stL
    congr 1
    funext i
    show _=tyL (if i < 11 then A i else C (i - 11))
    split <;> rfl
  · dsimp only
    split
    · exact ha i (by assumption)
    · exact hc (i - 11) (by omega)
theorem snap_cells {n:Nat} {cs:List Value} {x:DataW H × List MemPlace} {spare:Nat → Bool} (h:DataW.trod enc Try.prog w base spare held n 39 cs=some x):∃ X:Snp,cs=snL X ∧ X.Ok:=by
  obtain ⟨xs,n',_,_,hlen,hxl,hf⟩:=DataW.trod_struct Try.underlying39 h
  have hl:cs.length=76:=hlen.trans (by kernel_rfl)
  have kr:Try.prog.cellsOf 36=11:=by kernel_rfl
  have ki:Try.prog.cellsOf 3=1:=by kernel_rfl
  have ks:Try.prog.cellsOf 37=64:=by kernel_rfl
  have hx:xs.length=3:=hxl
  have f0:=hf 0 _ rfl
  have f1:=hf 1 _ rfl
  have f2:=hf 2 _ rfl
  change DataW.trod enc Try.prog w base spare held n' 36 ((cs.drop 0).take (Try.prog.cellsOf 36))=_ at f0
  change DataW.trod enc Try.prog w base spare held n' 3 ((cs.drop 11).take (Try.prog.cellsOf 3))=_ at f1
  change DataW.trod enc Try.prog w base spare held n' 37 ((cs.drop 12).take (Try.prog.cellsOf 37))=_ at f2
  rw [kr,List.getElem?_eq_getElem (by omega),List.drop_zero] at f0
  rw [ki,List.getElem?_eq_getElem (by omega)] at f1
  rw [ks,List.getElem?_eq_getElem (by omega)] at f2
  obtain ⟨r,_,er⟩:=arr_cells (fun y:B=>[Value.int .u64 (V y)]) (fun _=>True) (k:=11) (m:=1) Try.underlying36 (by kernel_rfl) kr (fun h=>word_cell h) f0
  obtain ⟨s,es,_,ws⟩:=DataW.trod_int Try.underlying3 f1
  obtain ⟨f,hb,ef⟩:=arr_cells (fun y:Int=>[Value.int .u8 y]) (fun y=>0 ≤ y ∧ y < 256) (k:=64) (m:=1) Try.underlying37 (by kernel_rfl) ks (fun h=>byte_cell h) f2
  have one:∀ {α:Type} (g:Nat → α) (n:Nat),(List.range n).flatMap (fun i=>[g i])=(List.range n).map g:=by
    intro α g n
    induction (List.range n) with
    | nil=>rfl
    | cons j l ih=>rw [List.flatMap_cons,List.map_cons,ih];rfl
  refine ⟨⟨r,s,f⟩,?_,wf_i64 ws,hb⟩
  have e:cs=cs.take 11 ++ ((cs.drop 11).take 1 ++ (cs.drop 12).take 64):=by
    rw [show (cs.drop 12).take 64=cs.drop 12 from List.take_of_length_le (by rw [List.length_drop];omega)]
    have:cs.drop 12=(cs.drop 11).drop 1:=by rw [List.drop_drop]
    rw [this,List.take_append_drop,List.take_append_drop]
  rw [e,er,es,ef,one,one]
  rfl
theorem state_arg {r:Reach} {b0:Nat} {v:Value} {d:DataW H} {p:List MemPlace} {spare:Nat → Bool} (hv:Value.okWide Try.prog w r b0 35 v) (h:DataW.Trod enc Try.prog w base spare held 35 v d p):∃ S:St,v=.agg (stC S) ∧ OkS S:=by
  obtain ⟨cs,rfl,hsz⟩:=okWide_struct Try.underlying35 hv
  obtain ⟨fuel,hf⟩:=h
  obtain ⟨y,hy,ok⟩:=state_cells hf
  have hy':cs.toList=stL y:=by simpa [Value.cells] using hy
  exact ⟨y,congrArg Value.agg (Array.ext' hy'),ok⟩
theorem type_arg {r:Reach} {b0:Nat} {v:Value} {d:DataW H} {p:List MemPlace} {spare:Nat → Bool} (hv:Value.okWide Try.prog w r b0 31 v) (h:DataW.Trod enc Try.prog w base spare held 31 v d p):∃ S:Ty,v=.agg (tyC S) ∧ S.Ok:=by
  obtain ⟨cs,rfl,hsz⟩:=okWide_struct Try.underlying31 hv
  obtain ⟨fuel,hf⟩:=h
  obtain ⟨y,hy,ok⟩:=type_cells hf
  have hy':cs.toList=tyL y:=by simpa [Value.cells] using hy
  exact ⟨y,congrArg Value.agg (Array.ext' hy'),ok⟩
theorem snap_arg {r:Reach} {b0:Nat} {v:Value} {d:DataW H} {p:List MemPlace} {spare:Nat → Bool} (hv:Value.okWide Try.prog w r b0 39 v) (h:DataW.Trod enc Try.prog w base spare held 39 v d p):∃ S:Snp,v=.agg (snC S) ∧ S.Ok:=by
  obtain ⟨cs,rfl,hsz⟩:=okWide_struct Try.underlying39 hv
  obtain ⟨fuel,hf⟩:=h
  obtain ⟨y,hy,ok⟩:=snap_cells hf
  have hy':cs.toList=snL y:=by simpa [Value.cells] using hy
  exact ⟨y,congrArg Value.agg (Array.ext' hy'),ok⟩
end
end Go.Proofs.Ytcnneeimkcnjfaa.Sta
