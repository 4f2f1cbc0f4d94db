import Derived.Test.YtjhedldplmhmjaaGreatDoorETe31
import Derived.Test.YtjhedldplmhmjaaGreatDoorETe22
import Derived.Test.YtjhedldplmhmjaaGreatDoorETe02
import Derived.Test.YtjhedldplmhmjaaGreatDoorETe03
import Derived.Test.YtjhedldplmhmjaaGreatDoorETe05
import Derived.Laws.StructEq
import Derived.Test.YtjhedldplmhmjaaGreatDoorETe23
set_option maxHeartbeats 4000000
set_option linter.unusedVariables false
set_option linter.unusedSimpArgs false
set_option linter.unnecessarySimpa false
namespace Go.Proofs.YtjhedldplmhmjaaGreatDoor.Exe
open Go Go.RowKit Go.ChangeShapes Go.WideShapes Go.Deep
open Flg (Fl)
set_option maxRecDepth 100000
theorem wf_u64 {a:Int}(h:(Lit.int .u64 a).wf=true):0≤a∧a<18446744073709551616:=by
 have:0≤a∧a≤18446744073709551615:=by simpa [Lit.wf,IntKind.min,IntKind.max,IntKind.bits,IntKind.signed] using h
 omega
theorem pieces (m:Nat):∀ (n:Nat) (cs:List Value),cs.length=n * m→cs=(List.range n).flatMap (fun i=>(cs.drop (i * m)).take m)
 | 0,cs,h=>by
  have:cs=[]:=List.eq_nil_of_length_eq_zero (by omega)
  rw [this];rfl
 | n+1,cs,h=>by
  rw [Nat.succ_mul] at h
  have ih:=pieces m n (cs.take (n * m)) (by rw [List.length_take];omega)
  rw [List.range_succ,List.flatMap_append]
  have e:(List.range n).flatMap (fun i=>(cs.drop (i * m)).take m)=cs.take (n * m):=by
   rw [ih]
   have:∀ l:List Nat,(∀ i∈l,i<n)→l.flatMap (fun i=>(cs.drop (i * m)).take m)=l.flatMap (fun i=>((cs.take (n * m)).drop (i * m)).take m):=by
    intro l
    induction l with
    | nil=>intro _;rfl
    | cons j l ihl=>
     intro hl
     rw [List.flatMap_cons,List.flatMap_cons,ihl (fun i hi=>hl i (List.mem_cons_of_mem _ hi))]
     congr 1
     have hj:=hl j (List.mem_cons_self ..)
     have:j * m+m≤n * m:=by rw [← Nat.succ_mul];exact Nat.mul_le_mul_right m hj
     rw [List.drop_take,List.take_take,Nat.min_eq_left (by omega)]
   exact this _ (fun i hi=>List.mem_range.1 hi)
  rw [e]
  simp only [List.flatMap_cons,List.flatMap_nil,List.append_nil]
  have e2:(cs.drop (n * m)).take m=cs.drop (n * m):=List.take_of_length_le (by rw [List.length_drop];omega)
  rw [e2,List.take_append_drop]
theorem chop {α:Type}[Inhabited α](C:α→List Value)(P:α→Prop)(m n:Nat)(cs:List Value)(hl:cs.length=n * m)(h:∀ i,i<n→∃ y,(cs.drop (i * m)).take m=C y∧P y):∃ S:Nat→α,(∀ i,i<n→P (S i))∧cs=(List.range n).flatMap (fun i=>C (S i)):=by
 classical
 refine ⟨fun i=>if hi:i<n then (h i hi).choose else default,fun i hi=>?_,?_⟩
 ·dsimp only
  rw [dif_pos hi]
  exact (h i hi).choose_spec.2
 ·refine (pieces m n cs hl).trans ?_
  have:∀ l:List Nat,(∀ i∈l,i<n)→l.flatMap (fun i=>(cs.drop (i * m)).take m)=l.flatMap (fun i=>C (if hi:i<n then (h i hi).choose else default)):=by
   intro l
   induction l with
   | nil=>intro _;rfl
   | cons j l ihl=>
    intro hj
    rw [List.flatMap_cons,List.flatMap_cons,ihl (fun i hi=>hj i (List.mem_cons_of_mem _ hi))]
    congr 1
    have hjn:=hj j (List.mem_cons_self ..)
    rw [dif_pos hjn]
    exact (h j hjn).choose_spec.1
  exact this (List.range n) (fun i hi=>List.mem_range.1 hi)
section
variable {H:Type} {enc:TypeId × Value→H} {w:World} {base:Nat} {held:Bool}
theorem arr_cells {t e:TypeId}{α:Type}[Inhabited α](C:α→List Value)(P:α→Prop){k m:Nat}(ht:Tryz.prog.underlying t=some (.array k e))(hm:Tryz.prog.cellsOf e=m)(hkm:Tryz.prog.cellsOf t=k * m)
  (hC:∀ {n:Nat} {cs:List Value} {x:DataW H × List MemPlace} {spare:Nat→Bool},DataW.trod enc Tryz.prog w base spare held n e cs=some x→∃ y,cs=C y∧P y)
  {n:Nat} {cs:List Value} {x:DataW H × List MemPlace} {spare:Nat→Bool} (h:DataW.trod enc Tryz.prog w base spare held n t cs=some x):∃ S:Nat→α,(∀ i,i<k→P (S i))∧cs=(List.range k).flatMap (fun i=>C (S i)):=by
 obtain ⟨xs,n',_,_,hlen,hxl,hf⟩:=DataW.trod_array ht h
 refine chop C P m k cs (hlen.trans hkm) (fun i hi=>?_)
 have f:=hf i hi
 rw [hm,List.getElem?_eq_getElem (by omega)] at f
 exact hC f
instance:Inhabited { v:Int // U64 v }:=⟨⟨0,by omega,by omega⟩⟩
theorem word_cell {n:Nat}{cs:List Value}{x:DataW H × List MemPlace}{spare:Nat→Bool}(h:DataW.trod enc Tryz.prog w base spare held n 22 cs=some x):∃ y:{ v:Int // U64 v },cs=[.int .u64 y.1]∧True:=by
 obtain ⟨v,e,_,wf⟩:=DataW.trod_int Tryz.underlying22 h
 exact ⟨⟨v,wf_u64 wf⟩,e,trivial⟩
theorem mc_cells {n:Nat}{cs:List Value}{x:DataW H × List MemPlace}{spare:Nat→Bool}(h:DataW.trod enc Tryz.prog w base spare held n 27 cs=some x):∃ m:Mc,cs=(mcC m).toList∧MOk m:=by
 obtain ⟨xs,n',_,_,hlen,hxl,hf⟩:=DataW.trod_struct Tryz.underlying27 h
 have hl:cs.length=22:=hlen.trans (by kernel_rfl)
 have kr:Tryz.prog.cellsOf 23=16:=by kernel_rfl
 have ki:Tryz.prog.cellsOf 25=5:=by kernel_rfl
 have ks:Tryz.prog.cellsOf 22=1:=by kernel_rfl
 have hx:xs.length=3:=hxl
 have f0:=hf 0 _ rfl
 have f1:=hf 1 _ rfl
 have f2:=hf 2 _ rfl
 change DataW.trod enc Tryz.prog w base spare held n' 23 ((cs.drop 0).take (Tryz.prog.cellsOf 23))=_ at f0
 change DataW.trod enc Tryz.prog w base spare held n' 25 ((cs.drop 16).take (Tryz.prog.cellsOf 25))=_ at f1
 change DataW.trod enc Tryz.prog w base spare held n' 22 ((cs.drop 21).take (Tryz.prog.cellsOf 22))=_ at f2
 rw [kr,List.getElem?_eq_getElem (by omega),List.drop_zero] at f0
 rw [ki,List.getElem?_eq_getElem (by omega)] at f1
 rw [ks,List.getElem?_eq_getElem (by omega)] at f2
 obtain ⟨r,_,er⟩:=arr_cells (fun y:{ v:Int // U64 v }=>[Value.int .u64 y.1]) (fun _=>True) (k:=16) (m:=1) Tryz.underlying23 (by kernel_rfl) kr (fun h=>word_cell h) f0
 obtain ⟨f,ef⟩:=Flg.flags_cells f1
 obtain ⟨s,es,_⟩:=word_cell f2
 refine ⟨⟨fun j=>(r j).1,f,s.1⟩,?_,fun j=>(r j).2,s.2⟩
 have e:cs=cs.take 16 ++ ((cs.drop 16).take 5 ++ (cs.drop 21).take 1):=by
  rw [show (cs.drop 21).take 1=cs.drop 21 from List.take_of_length_le (by rw [List.length_drop];omega)]
  have:cs.drop 21=(cs.drop 16).drop 5:=by rw [List.drop_drop]
  rw [this,List.take_append_drop,List.take_append_drop]
 rw [e,er,ef,es]
 rfl
theorem mc_arg {r:Reach}{b0:Nat}{v:Value}{d:DataW H}{p:List MemPlace}{spare:Nat→Bool}(hv:Value.okWide Tryz.prog w r b0 27 v)(h:DataW.Trod enc Tryz.prog w base spare held 27 v d p):∃ m:Mc,v=.agg (mcC m)∧MOk m:=by
 obtain ⟨cs,rfl,hsz⟩:=okWide_struct Tryz.underlying27 hv
 obtain ⟨fuel,hf⟩:=h
 obtain ⟨y,hy,ok⟩:=mc_cells hf
 have hy':cs.toList=(mcC y).toList:=by simpa [Value.cells] using hy
 exact ⟨y,congrArg Value.agg (Array.ext' hy'),ok⟩
end
end Go.Proofs.YtjhedldplmhmjaaGreatDoor.Exe
namespace Go.Proofs.YtjhedldplmhmjaaGreatDoor.Flg
open Go Go.RowKit
set_option maxRecDepth 100000
theorem top_n (w v:Int)(W:World)(h:longB w=true)(h0:0≤v)(h1:v<18446744073709551616):Calls Tryz.prog 74 #[.int .u64 v,.int .i8 w] W fun e w'=>e=.returned (.bool (negB w v))∧W=w':=by
 rcases longB_cases h with rfl | rfl
 ·have E:=Lib.hid (top_32 v)
  have E1:=and_1 (v / 2147483648)
  go_enter Tryz.func74,Tryz.ntmps74
  go_wp2
  go_ret
  exact ⟨retB E.out,rfl⟩
 ·have E:=Lib.hid (top_64 v h0 h1)
  have E1:=and_1 (v / 9223372036854775808)
  go_enter Tryz.func74,Tryz.ntmps74
  go_wp2
  go_ret
  exact ⟨retB E.out,rfl⟩
theorem width_n (w:Int)(W:World):Calls Tryz.prog 72 #[.int .i8 w] W fun e w'=>e=.returned (.bool (longB w))∧W=w':=by
 by_cases h:w=32
 ·subst h
  go_enter Tryz.func72,Tryz.ntmps72
  go_wp2
  go_ret
  exact ⟨rfl,rfl⟩
 ·have h1:=neq_of h
  rw [show longB w=(w == 64) by unfold longB;rw [h1];rfl]
  go_enter Tryz.func72,Tryz.ntmps72
  go_wp2
  go_ret
  exact ⟨rfl,rfl⟩
theorem qnone_n  (W:World):Calls Tryz.prog 30 #[] W fun e w'=>e=.returned (.agg (fC zF))∧Below W.heap.size W w':=by
 refine calls_abs Tryz.func30 rfl (Nat.le_of_ble_eq_true rfl) ?_
 intro a0 d0 z0 h0
 replace z0:a0.tmps.size=2:=z0
 refine wp_seq ?_
 refine go_reg [] [⟨0,0,25,(fC zF),none,#[]⟩] [none] mo d0 z0 (Below.refl _ _) (by kernel_rfl) trivial (
  hk (fun cx=>cx.al (wn rfl) 0 rfl (al_f rfl) rfl rfl rfl rfl rfl trivial) <|
  hn) ?_
 intro a1 w1 f1
 obtain ⟨g1,u_g1,q_g1,b_g1⟩:=f1.al.1
 refine wp_seq ?_
 refine go_reg [⟨g1,25,(fC zF),some 1,(fC zF)⟩] [] [some (.agg (fC zF)),none] mo f1.d f1.z f1.b (by kernel_rfl) ⟨b_g1,trivial⟩ (
  kq (fun cx=>ex_z5 rfl) <|
  hk (fun cx=>cx.stR (wn rfl) rfl rfl 0 rfl (cx.rq 0 u_g1) (cx.u 0 rfl) (by kernel_rfl) (Eq.refl 5) (by simp [Value.oneCell']) q_g1 rfl trivial trivial) <|
  hn) ?_
 intro a2 w2 f2
 refine wp_ret ?_
 have s0_1:=f2.q 0 u_g1
 try simp only [Exit.inBlock,Exit.then]
 refine bodyPost_ret (res_c (fn:=Tryz.f30) rfl s0_1 (load_row 25 f2.rows.1 Tryz.underlying25 rfl (by kernel_rfl))) f2.d ?_
 exact ⟨rfl,f2.b⟩
theorem made_n (w v:Int)(c o:Bool)(W:World)(hl:longB w=true)(hv:0≤v∧v<18446744073709551616):Calls Tryz.prog 73 #[.int .i8 w,.int .u64 v,.bool c,.bool o] W fun e w'=>e=.returned (.agg (fC (aftF w (cutI v w) c o)))∧Below W.heap.size W w':=by
 refine calls_abs Tryz.func73 rfl (Nat.le_of_ble_eq_true rfl) ?_
 intro a0 d0 z0 h0
 replace z0:a0.tmps.size=20:=z0
 have s0_0:a0.tmps.getD 0 undef=.int .i8 w:=h0 0 (Nat.le_of_ble_eq_true rfl)
 have s1_0:a0.tmps.getD 1 undef=.int .u64 v:=h0 1 (Nat.le_of_ble_eq_true rfl)
 have s2_0:a0.tmps.getD 2 undef=.bool c:=h0 2 (Nat.le_of_ble_eq_true rfl)
 have s3_0:a0.tmps.getD 3 undef=.bool o:=h0 3 (Nat.le_of_ble_eq_true rfl)
 refine wp_seq ?_
 refine go_reg [] [⟨0,8,25,(fC zF),none,#[]⟩] [none] mo d0 z0 (Below.refl _ _) (by kernel_rfl) trivial (
  hk (fun cx=>cx.al (wn rfl) 0 rfl (al_f rfl) rfl rfl rfl rfl rfl trivial) <|
  hn) ?_
 intro a1 w1 f1
 obtain ⟨g1,u_g1,q_g1,b_g1⟩:=f1.al.1
 refine wp_seq ?_
 have s1_1:=f1.q 1 s1_0
 have s0_2:=f1.q 0 s0_0
 refine go_reg [] [] [some (.int .u64 v),some (.int .i8 w),some (.int .u64 (cutI v w)),some (.int .u64 (cutI v w))] mo f1.d f1.z f1.b (by kernel_rfl) trivial (
  kq (fun cx=>ex_mv rfl (cx.un 3 rfl rfl (by kernel_rfl) s1_1)) <|
  kq (fun cx=>ex_mv rfl (cx.rq 0 s0_2)) <|
  hc (fun _ _ wx cx=>cx.c rfl (args2 cx.u0 cx.u1) Tryz.func28 (by decide +kernel) (((refcut_any v w wx).mono (by rintro e w' ⟨rfl,rfl⟩;exact ⟨rfl,Below.refl _ _⟩))) rfl rfl) <|
  kmu 0 <|
  hn) ?_
 intro a2 w2 f2
 refine wp_seq ?_
 have b_g1_3:=f2.k b_g1
 have s2_4:=f2.q 2 (f1.q 2 s2_0)
 have s0_5:=f2.q 0 s0_2
 have s3_6:=f2.q 3 (f1.q 3 s3_0)
 have s8_7:=f2.q 8 u_g1
 refine go_reg [⟨g1,25,(fC zF),some 8,(fC ⟨true,c,(cutI v w) == 0,negB w (cutI v w),o⟩)⟩] [] [some (.bool c),some (.int .u64 (cutI v w)),some (.bool ((cutI v w) == 0)),some (.int .u64 (cutI v w)),some (.int .i8 w),some (.bool (negB w (cutI v w))),some (.bool o),some (.agg (fC ⟨true,c,(cutI v w) == 0,negB w (cutI v w),o⟩)),none] mo f2.d f2.z f2.b (by kernel_rfl) ⟨b_g1_3,trivial⟩ (
  kq (fun cx=>ex_mv rfl (cx.rq 2 s2_4)) <|
  kq (fun cx=>ex_mv rfl (cx.rq 1 (f2.vv 3))) <|
  kq (fun cx=>ex_eq (x:=.tmp 13) rfl cx.u0 rfl) <|
  kq (fun cx=>ex_mv rfl (cx.rq 1 (f2.vv 3))) <|
  kq (fun cx=>ex_mv rfl (cx.rq 0 s0_5)) <|
  hc (fun _ _ wx cx=>cx.c rfl (args2 cx.u0 cx.u1) Tryz.func74 (by decide +kernel) (((top_n w (cutI v w) wx hl (cut_long hl v hv.1 hv.2).1 (cut_long hl v hv.1 hv.2).2.1).mono (by rintro e w' ⟨rfl,rfl⟩;exact ⟨rfl,Below.refl _ _⟩))) rfl rfl) <|
  kq (fun cx=>ex_mv rfl (cx.rq 3 s3_6)) <|
  kq (fun cx=>exec_build rfl (parts5 rfl (cx.u 0 rfl) (cx.u 1 rfl) (cx.u 2 rfl) (cx.u 3 rfl)) (by kernel_rfl)) <|
  hk (fun cx=>cx.stR (wn rfl) rfl rfl 0 rfl (cx.rq 8 s8_7) (cx.u 0 rfl) (by kernel_rfl) (Eq.refl 5) (by simp [Value.oneCell']) q_g1 rfl trivial trivial) <|
  hn) ?_
 intro a3 w3 f3
 refine wp_ret ?_
 have s8_8:=f3.q 8 s8_7
 try simp only [Exit.inBlock,Exit.then]
 refine bodyPost_ret (res_c (fn:=Tryz.f73) rfl s8_8 (load_row 25 f3.rows.1 Tryz.underlying25 rfl (by kernel_rfl))) f3.d ?_
 have HE:(.agg (fC ⟨true,c,(cutI v w) == 0,negB w (cutI v w),o⟩):Value)=.agg (fC (aftF w (cutI v w) c o)):=by unfold aftF;simp only [zbs,if_true,if_false,Bool.false_eq_true,Bool.true_eq_false,reduceCtorEq];try rfl
 exact ⟨retV HE,f3.b⟩
theorem made_c (w v:Int)(c o:Bool)(W:World)(hl:longB w=true)(h0:0≤v)(h1:v<18446744073709551616)(hc:cutI v w=v):Calls Tryz.prog 73 #[.int .i8 w,.int .u64 v,.bool c,.bool o] W fun e w'=>e=.returned (.agg (fC (aftF w v c o)))∧Below W.heap.size W w':=by
 have h:=made_n w v c o W hl ⟨h0,h1⟩
 rw [hc] at h
 exact h
theorem addV_is {w:Int}(h:longB w=true)(a b:Int):cutI (IntKind.u64.wrap (cutI a w+cutI b w)) w=addV w a b:=by
 unfold addV;rw [opI_0,IntKind.wrap_u64]
theorem subV_is {w:Int}(h:longB w=true)(a b:Int):cutI (IntKind.u64.wrap (cutI a w - cutI b w)) w=subV w a b:=by
 unfold subV;rw [opI_1,IntKind.wrap_u64]
theorem qadd_t (w a b:Int)(W:World)(ha:0≤a∧a<18446744073709551616)(hb:0≤b∧b<18446744073709551616)(hl:longB w=true):Calls Tryz.prog 70 #[.int .i8 w,.int .u64 a,.int .u64 b] W fun e w'=>e=.returned (.tuple #[.agg (fC (aftF w (addV w a b) (decide (addV w a b<cutI a w)) (overA w a b (addV w a b)))),.int .i64 0])∧Below W.heap.size W w':=by
 refine calls_abs Tryz.func70 rfl (Nat.le_of_ble_eq_true rfl) ?_
 intro a0 d0 z0 h0
 replace z0:a0.tmps.size=46:=z0
 have s0_0:a0.tmps.getD 0 undef=.int .i8 w:=h0 0 (Nat.le_of_ble_eq_true rfl)
 have s1_0:a0.tmps.getD 1 undef=.int .u64 a:=h0 1 (Nat.le_of_ble_eq_true rfl)
 have s2_0:a0.tmps.getD 2 undef=.int .u64 b:=h0 2 (Nat.le_of_ble_eq_true rfl)
 refine wp_seq ?_
 refine go_reg [] [⟨0,6,25,(fC zF),none,#[]⟩] [none,some (.int .i64 0)] mo d0 z0 (Below.refl _ _) (by kernel_rfl) trivial (
  hk (fun cx=>cx.al (wn rfl) 0 rfl (al_f rfl) rfl rfl rfl rfl rfl trivial) <|
  kq (fun cx=>ex_as rfl rfl) <|
  hn) ?_
 intro a1 w1 f1
 obtain ⟨g1,u_g1,q_g1,b_g1⟩:=f1.al.1
 refine wp_seq ?_
 refine wp_seq ?_
 have s0_1:=f1.q 0 s0_0
 refine go_reg [] [] [some (.int .i8 w),oT,oF] mo f1.d f1.z f1.b (by kernel_rfl) trivial (
  kq (fun cx=>ex_mv rfl (cx.rq 0 s0_1)) <|
  hc (fun _ _ wx cx=>cx.c rfl (args1 cx.u0) Tryz.func72 (by decide +kernel) (((width_n w wx).mono (by rintro e w' ⟨rfl,rfl⟩;exact ⟨rfl,Below.refl _ _⟩))) rfl (congrArg Value.bool hl)) <|
  kq (fun cx=>ex_not (x:=.tmp 10) rfl cx.u0) <|
  hn) ?_
 intro a2 w2 f2
 refine wp_cond_false (f2.vv 2) ?_
 refine wp_skip ?_
 refine wp_seq ?_
 have s1_2:=f2.q 1 (f1.q 1 s1_0)
 have s0_3:=f2.q 0 s0_1
 refine go_reg [] [] [some (.int .u64 a),some (.int .i8 w),some (.int .u64 (cutI a w)),some (.int .u64 (cutI a w))] mo f2.d f2.z f2.b (by kernel_rfl) trivial (
  kq (fun cx=>ex_mv rfl (cx.un 3 rfl rfl (by kernel_rfl) s1_2)) <|
  kq (fun cx=>ex_mv rfl (cx.rq 0 s0_3)) <|
  hc (fun _ _ wx cx=>cx.c rfl (args2 cx.u0 cx.u1) Tryz.func28 (by decide +kernel) (((refcut_any a w wx).mono (by rintro e w' ⟨rfl,rfl⟩;exact ⟨rfl,Below.refl _ _⟩))) rfl rfl) <|
  kmu 0 <|
  hn) ?_
 intro a3 w3 f3
 refine wp_seq ?_
 have s2_4:=f3.q 2 (f2.q 2 (f1.q 2 s2_0))
 have s0_5:=f3.q 0 s0_3
 refine go_reg [] [] [some (.int .u64 b),some (.int .i8 w),some (.int .u64 (cutI b w)),some (.int .u64 (cutI b w))] mo f3.d f3.z f3.b (by kernel_rfl) trivial (
  kq (fun cx=>ex_mv rfl (cx.un 3 rfl rfl (by kernel_rfl) s2_4)) <|
  kq (fun cx=>ex_mv rfl (cx.rq 0 s0_5)) <|
  hc (fun _ _ wx cx=>cx.c rfl (args2 cx.u0 cx.u1) Tryz.func28 (by decide +kernel) (((refcut_any b w wx).mono (by rintro e w' ⟨rfl,rfl⟩;exact ⟨rfl,Below.refl _ _⟩))) rfl rfl) <|
  kmu 0 <|
  hn) ?_
 intro a4 w4 f4
 refine wp_seq ?_
 have s1_6:=f4.q 1 (f3.vv 3)
 have s0_7:=f4.q 0 s0_5
 refine go_reg [] [] [some (.int .u64 (cutI a w)),some (.int .u64 (cutI b w)),some (.int .u64 (IntKind.u64.wrap ((cutI a w)+(cutI b w)))),some (.int .i8 w),some (.int .u64 (addV w a b)),some (.int .u64 (addV w a b))] mo f4.d f4.z f4.b (by kernel_rfl) trivial (
  kq (fun cx=>ex_mv rfl (cx.rq 1 s1_6)) <|
  kq (fun cx=>ex_mv rfl (cx.rq 2 (f4.vv 3))) <|
  kq (fun cx=>ex_add (x:=.tmp 19) (y:=.tmp 20) rfl cx.u0 cx.u1) <|
  kq (fun cx=>ex_mv rfl (cx.rq 0 s0_7)) <|
  hc (fun _ _ wx cx=>cx.c rfl (args2 cx.u0 cx.u1) Tryz.func28 (by decide +kernel) (((refcut_any (IntKind.u64.wrap ((cutI a w)+(cutI b w))) w wx).mono (by rintro e w' ⟨rfl,rfl⟩;exact ⟨rfl,Below.refl _ _⟩))) rfl (congrArg (Value.int .u64) (addV_is hl a b))) <|
  kmu 0 <|
  hn) ?_
 intro a5 w5 f5
 refine wp_seq ?_
 cases fk1:(negB w a) == (negB w b)
 case false=>
  have Ffk1:=Lib.hid fk1;clear fk1
  have b_g1_8:=f5.k (f4.k (f3.k (f2.k b_g1)))
  have s0_9:=f5.q 0 s0_7
  have s1_10:=f5.q 1 s1_6
  have s2_11:=f5.q 2 (f4.vv 3)
  have s6_12:=f5.q 6 (f4.q 6 (f3.q 6 (f2.q 6 u_g1)))
  refine go_reg [⟨g1,25,(fC zF),some 22,(fC (aftF w (addV w a b) (decide ((addV w a b)<(cutI a w))) false))⟩] [] (tabs [some (.int .i8 w),some (.int .u64 (addV w a b)),some (.int .u64 (addV w a b)),some (.int .u64 (cutI a w)),some (.bool (decide ((addV w a b)<(cutI a w)))),some (.int .u64 (cutI a w)),some (.int .i8 w),some (.bool (negB w a)),some (.int .u64 (cutI b w)),some (.int .i8 w),some (.bool (negB w b)),oF,oF,oU,oU,oU,oU,oU,oU,oU] [oF,some (.agg (fC (aftF w (addV w a b) (decide ((addV w a b)<(cutI a w))) false))),none,some (.int .i64 0)]) mo f5.d f5.z f5.b (by kernel_rfl) ⟨b_g1_8,trivial⟩ (
   kq (fun cx=>ex_mv rfl (cx.rq 0 s0_9)) <|
   kq (fun cx=>ex_mv rfl (cx.rq 8 (f5.vv 5))) <|
   kq (fun cx=>ex_mv rfl (cx.rq 8 (f5.vv 5))) <|
   kq (fun cx=>ex_mv rfl (cx.rq 1 s1_10)) <|
   kq (fun cx=>ex_lt (x:=.tmp 26) (y:=.tmp 27) rfl cx.u0 cx.u1) <|
   kq (fun cx=>ex_mv rfl (cx.rq 1 s1_10)) <|
   kq (fun cx=>ex_mv rfl (cx.rq 0 s0_9)) <|
   hc (fun _ _ wx cx=>cx.c rfl (args2 cx.u0 cx.u1) Tryz.func74 (by decide +kernel) (((top_n w (cutI a w) wx hl (cut_long hl a ha.1 ha.2).1 (cut_long hl a ha.1 ha.2).2.1).mono (by rintro e w' ⟨rfl,rfl⟩;exact ⟨rfl,Below.refl _ _⟩))) rfl (congrArg Value.bool (neg_cut hl a))) <|
   kq (fun cx=>ex_mv rfl (cx.rq 2 s2_11)) <|
   kq (fun cx=>ex_mv rfl (cx.rq 0 s0_9)) <|
   hc (fun _ _ wx cx=>cx.c rfl (args2 cx.u0 cx.u1) Tryz.func74 (by decide +kernel) (((top_n w (cutI b w) wx hl (cut_long hl b hb.1 hb.2).1 (cut_long hl b hb.1 hb.2).2.1).mono (by rintro e w' ⟨rfl,rfl⟩;exact ⟨rfl,Below.refl _ _⟩))) rfl (congrArg Value.bool (neg_cut hl b))) <|
   hk (fun cx=>cx.v (v:=.bool ((negB w a) == (negB w b))) (ex_beq (x:=.tmp 31) (y:=.tmp 34) rfl cx.u0 cx.u1) rfl (congrArg Value.bool Ffk1.out)) <|
   kmu 0 <|
   kno 0 <|
   kno 0 <|
   kno 2 <|
   kno 0 <|
   kno 0 <|
   kno 3 <|
   kno 2 <|
   kq (fun cx=>ex_pf rfl cx.u0 rfl) <|
   hc (fun _ _ wx cx=>cx.c rfl (args4 cx.u0 cx.u1 (cx.u 2 rfl) (cx.u 3 rfl)) Tryz.func73 (by decide +kernel) (made_c w (addV w a b) (decide ((addV w a b)<(cutI a w))) false wx hl (addV_bd hl a b).1 (addV_bd hl a b).2.1 (addV_bd hl a b).2.2) rfl rfl) <|
   hk (fun cx=>cx.stR (wn rfl) rfl rfl 0 rfl (cx.rq 6 s6_12) (cx.u 0 rfl) (by kernel_rfl) (Eq.refl 5) (by simp [Value.oneCell']) q_g1 rfl trivial trivial) <|
   kq (fun cx=>ex_as rfl rfl) <|
   hn) ?_
  intro a6 w6 f6
  refine wp_ret ?_
  have s6_13:=f6.q 6 s6_12
  try simp only [Exit.inBlock,Exit.then]
  refine bodyPost_ret (res_ct (fn:=Tryz.f70) rfl s6_13 (load_row 25 f6.rows.1 Tryz.underlying25 rfl (by kernel_rfl)) (f6.vv 23)) f6.d ?_
  have HE:(.tuple #[.agg (fC (aftF w (addV w a b) (decide ((addV w a b)<(cutI a w))) false)),.int .i64 0]:Value)=.tuple #[.agg (fC (aftF w (addV w a b) (decide (addV w a b<cutI a w)) (overA w a b (addV w a b)))),.int .i64 0]:=by unfold overA;simp only [Ffk1.out,zbs,if_true,if_false,Bool.false_eq_true,Bool.true_eq_false,reduceCtorEq];try rfl
  exact ⟨retV HE,f6.b⟩
 have Ffk1:=Lib.hid fk1;clear fk1
 have b_g1_14:=f5.k (f4.k (f3.k (f2.k b_g1)))
 have s0_15:=f5.q 0 s0_7
 have s1_16:=f5.q 1 s1_6
 have s2_17:=f5.q 2 (f4.vv 3)
 have s6_18:=f5.q 6 (f4.q 6 (f3.q 6 (f2.q 6 u_g1)))
 refine go_reg [⟨g1,25,(fC zF),some 22,(fC (aftF w (addV w a b) (decide ((addV w a b)<(cutI a w))) ((negB w (addV w a b)) != (negB w a))))⟩] [] (tabs [some (.int .i8 w),some (.int .u64 (addV w a b)),some (.int .u64 (addV w a b)),some (.int .u64 (cutI a w)),some (.bool (decide ((addV w a b)<(cutI a w)))),some (.int .u64 (cutI a w)),some (.int .i8 w),some (.bool (negB w a)),some (.int .u64 (cutI b w)),some (.int .i8 w),some (.bool (negB w b)),oT,oT,some (.int .u64 (addV w a b)),some (.int .i8 w),some (.bool (negB w (addV w a b))),some (.int .u64 (cutI a w)),some (.int .i8 w),some (.bool (negB w a)),some (.bool ((negB w (addV w a b)) != (negB w a)))] [some (.bool ((negB w (addV w a b)) != (negB w a))),some (.agg (fC (aftF w (addV w a b) (decide ((addV w a b)<(cutI a w))) ((negB w (addV w a b)) != (negB w a))))),none,some (.int .i64 0)]) mo f5.d f5.z f5.b (by kernel_rfl) ⟨b_g1_14,trivial⟩ (
  kq (fun cx=>ex_mv rfl (cx.rq 0 s0_15)) <|
  kq (fun cx=>ex_mv rfl (cx.rq 8 (f5.vv 5))) <|
  kq (fun cx=>ex_mv rfl (cx.rq 8 (f5.vv 5))) <|
  kq (fun cx=>ex_mv rfl (cx.rq 1 s1_16)) <|
  kq (fun cx=>ex_lt (x:=.tmp 26) (y:=.tmp 27) rfl cx.u0 cx.u1) <|
  kq (fun cx=>ex_mv rfl (cx.rq 1 s1_16)) <|
  kq (fun cx=>ex_mv rfl (cx.rq 0 s0_15)) <|
  hc (fun _ _ wx cx=>cx.c rfl (args2 cx.u0 cx.u1) Tryz.func74 (by decide +kernel) (((top_n w (cutI a w) wx hl (cut_long hl a ha.1 ha.2).1 (cut_long hl a ha.1 ha.2).2.1).mono (by rintro e w' ⟨rfl,rfl⟩;exact ⟨rfl,Below.refl _ _⟩))) rfl (congrArg Value.bool (neg_cut hl a))) <|
  kq (fun cx=>ex_mv rfl (cx.rq 2 s2_17)) <|
  kq (fun cx=>ex_mv rfl (cx.rq 0 s0_15)) <|
  hc (fun _ _ wx cx=>cx.c rfl (args2 cx.u0 cx.u1) Tryz.func74 (by decide +kernel) (((top_n w (cutI b w) wx hl (cut_long hl b hb.1 hb.2).1 (cut_long hl b hb.1 hb.2).2.1).mono (by rintro e w' ⟨rfl,rfl⟩;exact ⟨rfl,Below.refl _ _⟩))) rfl (congrArg Value.bool (neg_cut hl b))) <|
  hk (fun cx=>cx.v (v:=.bool ((negB w a) == (negB w b))) (ex_beq (x:=.tmp 31) (y:=.tmp 34) rfl cx.u0 cx.u1) rfl (congrArg Value.bool Ffk1.out)) <|
  kmu 0 <|
  hk (fun cx=>cx.vy 0 (ex_mv rfl (cx.rq 8 (f5.vv 5)))) <|
  hk (fun cx=>cx.vy 0 (ex_mv rfl (cx.rq 0 s0_15))) <|
  hc (fun _ _ wx cx=>cx.call (cx.wy rfl rfl rfl rfl (cx.u 2 rfl)) rfl rfl (args2 cx.u0 cx.u1) Tryz.func74 (by decide +kernel) rfl (((top_n w (addV w a b) wx hl (addV_bd hl a b).1 (addV_bd hl a b).2.1).mono (by rintro e w' ⟨rfl,rfl⟩;exact ⟨rfl,Below.refl _ _⟩))) rfl rfl rfl rfl) <|
  hk (fun cx=>cx.vy 0 (ex_mv rfl (cx.rq 1 s1_16))) <|
  hk (fun cx=>cx.vy 0 (ex_mv rfl (cx.rq 0 s0_15))) <|
  hc (fun _ _ wx cx=>cx.call (cx.wy rfl rfl rfl rfl (cx.u 3 rfl)) rfl rfl (args2 cx.u0 cx.u1) Tryz.func74 (by decide +kernel) rfl (((top_n w (cutI a w) wx hl (cut_long hl a ha.1 ha.2).1 (cut_long hl a ha.1 ha.2).2.1).mono (by rintro e w' ⟨rfl,rfl⟩;exact ⟨rfl,Below.refl _ _⟩))) rfl rfl (congrArg Value.bool (neg_cut hl a)) rfl) <|
  hk (fun cx=>cx.vy 2 (ex_bne (x:=.tmp 39) (y:=.tmp 42) rfl cx.u0 cx.u1)) <|
  kq (fun cx=>ex_pt rfl cx.u0 cx.u1) <|
  hc (fun _ _ wx cx=>cx.c rfl (args4 cx.u0 cx.u1 (cx.u 2 rfl) (cx.u 3 rfl)) Tryz.func73 (by decide +kernel) (made_c w (addV w a b) (decide ((addV w a b)<(cutI a w))) ((negB w (addV w a b)) != (negB w a)) wx hl (addV_bd hl a b).1 (addV_bd hl a b).2.1 (addV_bd hl a b).2.2) rfl rfl) <|
  hk (fun cx=>cx.stR (wn rfl) rfl rfl 0 rfl (cx.rq 6 s6_18) (cx.u 0 rfl) (by kernel_rfl) (Eq.refl 5) (by simp [Value.oneCell']) q_g1 rfl trivial trivial) <|
  kq (fun cx=>ex_as rfl rfl) <|
  hn) ?_
 intro a7 w7 f7
 refine wp_ret ?_
 have s6_19:=f7.q 6 s6_18
 try simp only [Exit.inBlock,Exit.then]
 refine bodyPost_ret (res_ct (fn:=Tryz.f70) rfl s6_19 (load_row 25 f7.rows.1 Tryz.underlying25 rfl (by kernel_rfl)) (f7.vv 23)) f7.d ?_
 have HE:(.tuple #[.agg (fC (aftF w (addV w a b) (decide ((addV w a b)<(cutI a w))) ((negB w (addV w a b)) != (negB w a)))),.int .i64 0]:Value)=.tuple #[.agg (fC (aftF w (addV w a b) (decide (addV w a b<cutI a w)) (overA w a b (addV w a b)))),.int .i64 0]:=by unfold overA;simp only [Ffk1.out,zbs,if_true,if_false,Bool.false_eq_true,Bool.true_eq_false,reduceCtorEq];try rfl
 exact ⟨retV HE,f7.b⟩
theorem qadd_f (w a b:Int)(W:World)(ha:0≤a∧a<18446744073709551616)(hb:0≤b∧b<18446744073709551616)(hl:longB w=false):Calls Tryz.prog 70 #[.int .i8 w,.int .u64 a,.int .u64 b] W fun e w'=>e=.returned (.tuple #[.agg (fC zF),.int .i64 2])∧Below W.heap.size W w':=by
 refine calls_abs Tryz.func70 rfl (Nat.le_of_ble_eq_true rfl) ?_
 intro a0 d0 z0 h0
 replace z0:a0.tmps.size=46:=z0
 have s0_0:a0.tmps.getD 0 undef=.int .i8 w:=h0 0 (Nat.le_of_ble_eq_true rfl)
 have s1_0:a0.tmps.getD 1 undef=.int .u64 a:=h0 1 (Nat.le_of_ble_eq_true rfl)
 have s2_0:a0.tmps.getD 2 undef=.int .u64 b:=h0 2 (Nat.le_of_ble_eq_true rfl)
 refine wp_seq ?_
 refine go_reg [] [⟨0,6,25,(fC zF),none,#[]⟩] [none,some (.int .i64 0)] mo d0 z0 (Below.refl _ _) (by kernel_rfl) trivial (
  hk (fun cx=>cx.al (wn rfl) 0 rfl (al_f rfl) rfl rfl rfl rfl rfl trivial) <|
  kq (fun cx=>ex_as rfl rfl) <|
  hn) ?_
 intro a1 w1 f1
 obtain ⟨g1,u_g1,q_g1,b_g1⟩:=f1.al.1
 refine wp_seq ?_
 refine wp_seq ?_
 have s0_1:=f1.q 0 s0_0
 refine go_reg [] [] [some (.int .i8 w),oF,oT] mo f1.d f1.z f1.b (by kernel_rfl) trivial (
  kq (fun cx=>ex_mv rfl (cx.rq 0 s0_1)) <|
  hc (fun _ _ wx cx=>cx.c rfl (args1 cx.u0) Tryz.func72 (by decide +kernel) (((width_n w wx).mono (by rintro e w' ⟨rfl,rfl⟩;exact ⟨rfl,Below.refl _ _⟩))) rfl (congrArg Value.bool hl)) <|
  kq (fun cx=>ex_not (x:=.tmp 10) rfl cx.u0) <|
  hn) ?_
 intro a2 w2 f2
 refine wp_cond_true (f2.vv 2) ?_
 refine wp_seq ?_
 have b_g1_2:=f2.k b_g1
 have s6_3:=f2.q 6 u_g1
 refine go_reg [⟨g1,25,(fC zF),some 1,(fC zF)⟩] [] [some (.agg (fC zF)),none,some (.int .i64 2)] mo f2.d f2.z f2.b (by kernel_rfl) ⟨b_g1_2,trivial⟩ (
  kq (fun cx=>ex_z5 rfl) <|
  hk (fun cx=>cx.stR (wn rfl) rfl rfl 0 rfl (cx.rq 6 s6_3) (cx.u 0 rfl) (by kernel_rfl) (Eq.refl 5) (by simp [Value.oneCell']) q_g1 rfl trivial trivial) <|
  kq (fun cx=>ex_as rfl rfl) <|
  hn) ?_
 intro a3 w3 f3
 refine wp_ret ?_
 have s6_4:=f3.q 6 s6_3
 try simp only [Exit.inBlock,Exit.then]
 refine bodyPost_ret (res_ct (fn:=Tryz.f70) rfl s6_4 (load_row 25 f3.rows.1 Tryz.underlying25 rfl (by kernel_rfl)) (f3.vv 2)) f3.d ?_
 exact ⟨rfl,f3.b⟩
theorem qsub_t (w a b:Int)(W:World)(ha:0≤a∧a<18446744073709551616)(hb:0≤b∧b<18446744073709551616)(hl:longB w=true):Calls Tryz.prog 29 #[.int .i8 w,.int .u64 a,.int .u64 b] W fun e w'=>e=.returned (.tuple #[.agg (fC (aftF w (subV w a b) (decide (cutI a w<cutI b w)) (overS w a b (subV w a b)))),.int .i64 0])∧Below W.heap.size W w':=by
 refine calls_abs Tryz.func29 rfl (Nat.le_of_ble_eq_true rfl) ?_
 intro a0 d0 z0 h0
 replace z0:a0.tmps.size=46:=z0
 have s0_0:a0.tmps.getD 0 undef=.int .i8 w:=h0 0 (Nat.le_of_ble_eq_true rfl)
 have s1_0:a0.tmps.getD 1 undef=.int .u64 a:=h0 1 (Nat.le_of_ble_eq_true rfl)
 have s2_0:a0.tmps.getD 2 undef=.int .u64 b:=h0 2 (Nat.le_of_ble_eq_true rfl)
 refine wp_seq ?_
 refine go_reg [] [⟨0,6,25,(fC zF),none,#[]⟩] [none,some (.int .i64 0)] mo d0 z0 (Below.refl _ _) (by kernel_rfl) trivial (
  hk (fun cx=>cx.al (wn rfl) 0 rfl (al_f rfl) rfl rfl rfl rfl rfl trivial) <|
  kq (fun cx=>ex_as rfl rfl) <|
  hn) ?_
 intro a1 w1 f1
 obtain ⟨g1,u_g1,q_g1,b_g1⟩:=f1.al.1
 refine wp_seq ?_
 refine wp_seq ?_
 have s0_1:=f1.q 0 s0_0
 refine go_reg [] [] [some (.int .i8 w),oT,oF] mo f1.d f1.z f1.b (by kernel_rfl) trivial (
  kq (fun cx=>ex_mv rfl (cx.rq 0 s0_1)) <|
  hc (fun _ _ wx cx=>cx.c rfl (args1 cx.u0) Tryz.func72 (by decide +kernel) (((width_n w wx).mono (by rintro e w' ⟨rfl,rfl⟩;exact ⟨rfl,Below.refl _ _⟩))) rfl (congrArg Value.bool hl)) <|
  kq (fun cx=>ex_not (x:=.tmp 10) rfl cx.u0) <|
  hn) ?_
 intro a2 w2 f2
 refine wp_cond_false (f2.vv 2) ?_
 refine wp_skip ?_
 refine wp_seq ?_
 have s1_2:=f2.q 1 (f1.q 1 s1_0)
 have s0_3:=f2.q 0 s0_1
 refine go_reg [] [] [some (.int .u64 a),some (.int .i8 w),some (.int .u64 (cutI a w)),some (.int .u64 (cutI a w))] mo f2.d f2.z f2.b (by kernel_rfl) trivial (
  kq (fun cx=>ex_mv rfl (cx.un 3 rfl rfl (by kernel_rfl) s1_2)) <|
  kq (fun cx=>ex_mv rfl (cx.rq 0 s0_3)) <|
  hc (fun _ _ wx cx=>cx.c rfl (args2 cx.u0 cx.u1) Tryz.func28 (by decide +kernel) (((refcut_any a w wx).mono (by rintro e w' ⟨rfl,rfl⟩;exact ⟨rfl,Below.refl _ _⟩))) rfl rfl) <|
  kmu 0 <|
  hn) ?_
 intro a3 w3 f3
 refine wp_seq ?_
 have s2_4:=f3.q 2 (f2.q 2 (f1.q 2 s2_0))
 have s0_5:=f3.q 0 s0_3
 refine go_reg [] [] [some (.int .u64 b),some (.int .i8 w),some (.int .u64 (cutI b w)),some (.int .u64 (cutI b w))] mo f3.d f3.z f3.b (by kernel_rfl) trivial (
  kq (fun cx=>ex_mv rfl (cx.un 3 rfl rfl (by kernel_rfl) s2_4)) <|
  kq (fun cx=>ex_mv rfl (cx.rq 0 s0_5)) <|
  hc (fun _ _ wx cx=>cx.c rfl (args2 cx.u0 cx.u1) Tryz.func28 (by decide +kernel) (((refcut_any b w wx).mono (by rintro e w' ⟨rfl,rfl⟩;exact ⟨rfl,Below.refl _ _⟩))) rfl rfl) <|
  kmu 0 <|
  hn) ?_
 intro a4 w4 f4
 refine wp_seq ?_
 have s1_6:=f4.q 1 (f3.vv 3)
 have s0_7:=f4.q 0 s0_5
 refine go_reg [] [] [some (.int .u64 (cutI a w)),some (.int .u64 (cutI b w)),some (.int .u64 (IntKind.u64.wrap ((cutI a w) - (cutI b w)))),some (.int .i8 w),some (.int .u64 (subV w a b)),some (.int .u64 (subV w a b))] mo f4.d f4.z f4.b (by kernel_rfl) trivial (
  kq (fun cx=>ex_mv rfl (cx.rq 1 s1_6)) <|
  kq (fun cx=>ex_mv rfl (cx.rq 2 (f4.vv 3))) <|
  kq (fun cx=>ex_sub (x:=.tmp 19) (y:=.tmp 20) rfl cx.u0 cx.u1) <|
  kq (fun cx=>ex_mv rfl (cx.rq 0 s0_7)) <|
  hc (fun _ _ wx cx=>cx.c rfl (args2 cx.u0 cx.u1) Tryz.func28 (by decide +kernel) (((refcut_any (IntKind.u64.wrap ((cutI a w) - (cutI b w))) w wx).mono (by rintro e w' ⟨rfl,rfl⟩;exact ⟨rfl,Below.refl _ _⟩))) rfl (congrArg (Value.int .u64) (subV_is hl a b))) <|
  kmu 0 <|
  hn) ?_
 intro a5 w5 f5
 refine wp_seq ?_
 cases fk1:(negB w a) != (negB w b)
 case false=>
  have Ffk1:=Lib.hid fk1;clear fk1
  have b_g1_8:=f5.k (f4.k (f3.k (f2.k b_g1)))
  have s0_9:=f5.q 0 s0_7
  have s1_10:=f5.q 1 s1_6
  have s2_11:=f5.q 2 (f4.vv 3)
  have s6_12:=f5.q 6 (f4.q 6 (f3.q 6 (f2.q 6 u_g1)))
  refine go_reg [⟨g1,25,(fC zF),some 22,(fC (aftF w (subV w a b) (decide ((cutI a w)<(cutI b w))) false))⟩] [] (tabs [some (.int .i8 w),some (.int .u64 (subV w a b)),some (.int .u64 (cutI a w)),some (.int .u64 (cutI b w)),some (.bool (decide ((cutI a w)<(cutI b w)))),some (.int .u64 (cutI a w)),some (.int .i8 w),some (.bool (negB w a)),some (.int .u64 (cutI b w)),some (.int .i8 w),some (.bool (negB w b)),oF,oF,oU,oU,oU,oU,oU,oU,oU] [oF,some (.agg (fC (aftF w (subV w a b) (decide ((cutI a w)<(cutI b w))) false))),none,some (.int .i64 0)]) mo f5.d f5.z f5.b (by kernel_rfl) ⟨b_g1_8,trivial⟩ (
   kq (fun cx=>ex_mv rfl (cx.rq 0 s0_9)) <|
   kq (fun cx=>ex_mv rfl (cx.rq 8 (f5.vv 5))) <|
   kq (fun cx=>ex_mv rfl (cx.rq 1 s1_10)) <|
   kq (fun cx=>ex_mv rfl (cx.rq 2 s2_11)) <|
   kq (fun cx=>ex_lt (x:=.tmp 26) (y:=.tmp 27) rfl cx.u0 cx.u1) <|
   kq (fun cx=>ex_mv rfl (cx.rq 1 s1_10)) <|
   kq (fun cx=>ex_mv rfl (cx.rq 0 s0_9)) <|
   hc (fun _ _ wx cx=>cx.c rfl (args2 cx.u0 cx.u1) Tryz.func74 (by decide +kernel) (((top_n w (cutI a w) wx hl (cut_long hl a ha.1 ha.2).1 (cut_long hl a ha.1 ha.2).2.1).mono (by rintro e w' ⟨rfl,rfl⟩;exact ⟨rfl,Below.refl _ _⟩))) rfl (congrArg Value.bool (neg_cut hl a))) <|
   kq (fun cx=>ex_mv rfl (cx.rq 2 s2_11)) <|
   kq (fun cx=>ex_mv rfl (cx.rq 0 s0_9)) <|
   hc (fun _ _ wx cx=>cx.c rfl (args2 cx.u0 cx.u1) Tryz.func74 (by decide +kernel) (((top_n w (cutI b w) wx hl (cut_long hl b hb.1 hb.2).1 (cut_long hl b hb.1 hb.2).2.1).mono (by rintro e w' ⟨rfl,rfl⟩;exact ⟨rfl,Below.refl _ _⟩))) rfl (congrArg Value.bool (neg_cut hl b))) <|
   hk (fun cx=>cx.v (v:=.bool ((negB w a) != (negB w b))) (ex_bne (x:=.tmp 31) (y:=.tmp 34) rfl cx.u0 cx.u1) rfl (congrArg Value.bool Ffk1.out)) <|
   kmu 0 <|
   kno 0 <|
   kno 0 <|
   kno 2 <|
   kno 0 <|
   kno 0 <|
   kno 3 <|
   kno 2 <|
   kq (fun cx=>ex_pf rfl cx.u0 rfl) <|
   hc (fun _ _ wx cx=>cx.c rfl (args4 cx.u0 cx.u1 (cx.u 2 rfl) (cx.u 3 rfl)) Tryz.func73 (by decide +kernel) (made_c w (subV w a b) (decide ((cutI a w)<(cutI b w))) false wx hl (subV_bd hl a b).1 (subV_bd hl a b).2.1 (subV_bd hl a b).2.2) rfl rfl) <|
   hk (fun cx=>cx.stR (wn rfl) rfl rfl 0 rfl (cx.rq 6 s6_12) (cx.u 0 rfl) (by kernel_rfl) (Eq.refl 5) (by simp [Value.oneCell']) q_g1 rfl trivial trivial) <|
   kq (fun cx=>ex_as rfl rfl) <|
   hn) ?_
  intro a6 w6 f6
  refine wp_ret ?_
  have s6_13:=f6.q 6 s6_12
  try simp only [Exit.inBlock,Exit.then]
  refine bodyPost_ret (res_ct (fn:=Tryz.f29) rfl s6_13 (load_row 25 f6.rows.1 Tryz.underlying25 rfl (by kernel_rfl)) (f6.vv 23)) f6.d ?_
  have HE:(.tuple #[.agg (fC (aftF w (subV w a b) (decide ((cutI a w)<(cutI b w))) false)),.int .i64 0]:Value)=.tuple #[.agg (fC (aftF w (subV w a b) (decide (cutI a w<cutI b w)) (overS w a b (subV w a b)))),.int .i64 0]:=by unfold overS;simp only [Ffk1.out,zbs,if_true,if_false,Bool.false_eq_true,Bool.true_eq_false,reduceCtorEq];try rfl
  exact ⟨retV HE,f6.b⟩
 have Ffk1:=Lib.hid fk1;clear fk1
 have b_g1_14:=f5.k (f4.k (f3.k (f2.k b_g1)))
 have s0_15:=f5.q 0 s0_7
 have s1_16:=f5.q 1 s1_6
 have s2_17:=f5.q 2 (f4.vv 3)
 have s6_18:=f5.q 6 (f4.q 6 (f3.q 6 (f2.q 6 u_g1)))
 refine go_reg [⟨g1,25,(fC zF),some 22,(fC (aftF w (subV w a b) (decide ((cutI a w)<(cutI b w))) ((negB w (subV w a b)) != (negB w a))))⟩] [] (tabs [some (.int .i8 w),some (.int .u64 (subV w a b)),some (.int .u64 (cutI a w)),some (.int .u64 (cutI b w)),some (.bool (decide ((cutI a w)<(cutI b w)))),some (.int .u64 (cutI a w)),some (.int .i8 w),some (.bool (negB w a)),some (.int .u64 (cutI b w)),some (.int .i8 w),some (.bool (negB w b)),oT,oT,some (.int .u64 (subV w a b)),some (.int .i8 w),some (.bool (negB w (subV w a b))),some (.int .u64 (cutI a w)),some (.int .i8 w),some (.bool (negB w a)),some (.bool ((negB w (subV w a b)) != (negB w a)))] [some (.bool ((negB w (subV w a b)) != (negB w a))),some (.agg (fC (aftF w (subV w a b) (decide ((cutI a w)<(cutI b w))) ((negB w (subV w a b)) != (negB w a))))),none,some (.int .i64 0)]) mo f5.d f5.z f5.b (by kernel_rfl) ⟨b_g1_14,trivial⟩ (
  kq (fun cx=>ex_mv rfl (cx.rq 0 s0_15)) <|
  kq (fun cx=>ex_mv rfl (cx.rq 8 (f5.vv 5))) <|
  kq (fun cx=>ex_mv rfl (cx.rq 1 s1_16)) <|
  kq (fun cx=>ex_mv rfl (cx.rq 2 s2_17)) <|
  kq (fun cx=>ex_lt (x:=.tmp 26) (y:=.tmp 27) rfl cx.u0 cx.u1) <|
  kq (fun cx=>ex_mv rfl (cx.rq 1 s1_16)) <|
  kq (fun cx=>ex_mv rfl (cx.rq 0 s0_15)) <|
  hc (fun _ _ wx cx=>cx.c rfl (args2 cx.u0 cx.u1) Tryz.func74 (by decide +kernel) (((top_n w (cutI a w) wx hl (cut_long hl a ha.1 ha.2).1 (cut_long hl a ha.1 ha.2).2.1).mono (by rintro e w' ⟨rfl,rfl⟩;exact ⟨rfl,Below.refl _ _⟩))) rfl (congrArg Value.bool (neg_cut hl a))) <|
  kq (fun cx=>ex_mv rfl (cx.rq 2 s2_17)) <|
  kq (fun cx=>ex_mv rfl (cx.rq 0 s0_15)) <|
  hc (fun _ _ wx cx=>cx.c rfl (args2 cx.u0 cx.u1) Tryz.func74 (by decide +kernel) (((top_n w (cutI b w) wx hl (cut_long hl b hb.1 hb.2).1 (cut_long hl b hb.1 hb.2).2.1).mono (by rintro e w' ⟨rfl,rfl⟩;exact ⟨rfl,Below.refl _ _⟩))) rfl (congrArg Value.bool (neg_cut hl b))) <|
  hk (fun cx=>cx.v (v:=.bool ((negB w a) != (negB w b))) (ex_bne (x:=.tmp 31) (y:=.tmp 34) rfl cx.u0 cx.u1) rfl (congrArg Value.bool Ffk1.out)) <|
  kmu 0 <|
  hk (fun cx=>cx.vy 0 (ex_mv rfl (cx.rq 8 (f5.vv 5)))) <|
  hk (fun cx=>cx.vy 0 (ex_mv rfl (cx.rq 0 s0_15))) <|
  hc (fun _ _ wx cx=>cx.call (cx.wy rfl rfl rfl rfl (cx.u 2 rfl)) rfl rfl (args2 cx.u0 cx.u1) Tryz.func74 (by decide +kernel) rfl (((top_n w (subV w a b) wx hl (subV_bd hl a b).1 (subV_bd hl a b).2.1).mono (by rintro e w' ⟨rfl,rfl⟩;exact ⟨rfl,Below.refl _ _⟩))) rfl rfl rfl rfl) <|
  hk (fun cx=>cx.vy 0 (ex_mv rfl (cx.rq 1 s1_16))) <|
  hk (fun cx=>cx.vy 0 (ex_mv rfl (cx.rq 0 s0_15))) <|
  hc (fun _ _ wx cx=>cx.call (cx.wy rfl rfl rfl rfl (cx.u 3 rfl)) rfl rfl (args2 cx.u0 cx.u1) Tryz.func74 (by decide +kernel) rfl (((top_n w (cutI a w) wx hl (cut_long hl a ha.1 ha.2).1 (cut_long hl a ha.1 ha.2).2.1).mono (by rintro e w' ⟨rfl,rfl⟩;exact ⟨rfl,Below.refl _ _⟩))) rfl rfl (congrArg Value.bool (neg_cut hl a)) rfl) <|
  hk (fun cx=>cx.vy 2 (ex_bne (x:=.tmp 39) (y:=.tmp 42) rfl cx.u0 cx.u1)) <|
  kq (fun cx=>ex_pt rfl cx.u0 cx.u1) <|
  hc (fun _ _ wx cx=>cx.c rfl (args4 cx.u0 cx.u1 (cx.u 2 rfl) (cx.u 3 rfl)) Tryz.func73 (by decide +kernel) (made_c w (subV w a b) (decide ((cutI a w)<(cutI b w))) ((negB w (subV w a b)) != (negB w a)) wx hl (subV_bd hl a b).1 (subV_bd hl a b).2.1 (subV_bd hl a b).2.2) rfl rfl) <|
  hk (fun cx=>cx.stR (wn rfl) rfl rfl 0 rfl (cx.rq 6 s6_18) (cx.u 0 rfl) (by kernel_rfl) (Eq.refl 5) (by simp [Value.oneCell']) q_g1 rfl trivial trivial) <|
  kq (fun cx=>ex_as rfl rfl) <|
  hn) ?_
 intro a7 w7 f7
 refine wp_ret ?_
 have s6_19:=f7.q 6 s6_18
 try simp only [Exit.inBlock,Exit.then]
 refine bodyPost_ret (res_ct (fn:=Tryz.f29) rfl s6_19 (load_row 25 f7.rows.1 Tryz.underlying25 rfl (by kernel_rfl)) (f7.vv 23)) f7.d ?_
 have HE:(.tuple #[.agg (fC (aftF w (subV w a b) (decide ((cutI a w)<(cutI b w))) ((negB w (subV w a b)) != (negB w a)))),.int .i64 0]:Value)=.tuple #[.agg (fC (aftF w (subV w a b) (decide (cutI a w<cutI b w)) (overS w a b (subV w a b)))),.int .i64 0]:=by unfold overS;simp only [Ffk1.out,zbs,if_true,if_false,Bool.false_eq_true,Bool.true_eq_false,reduceCtorEq];try rfl
 exact ⟨retV HE,f7.b⟩
theorem qsub_f (w a b:Int)(W:World)(ha:0≤a∧a<18446744073709551616)(hb:0≤b∧b<18446744073709551616)(hl:longB w=false):Calls Tryz.prog 29 #[.int .i8 w,.int .u64 a,.int .u64 b] W fun e w'=>e=.returned (.tuple #[.agg (fC zF),.int .i64 2])∧Below W.heap.size W w':=by
 refine calls_abs Tryz.func29 rfl (Nat.le_of_ble_eq_true rfl) ?_
 intro a0 d0 z0 h0
 replace z0:a0.tmps.size=46:=z0
 have s0_0:a0.tmps.getD 0 undef=.int .i8 w:=h0 0 (Nat.le_of_ble_eq_true rfl)
 have s1_0:a0.tmps.getD 1 undef=.int .u64 a:=h0 1 (Nat.le_of_ble_eq_true rfl)
 have s2_0:a0.tmps.getD 2 undef=.int .u64 b:=h0 2 (Nat.le_of_ble_eq_true rfl)
 refine wp_seq ?_
 refine go_reg [] [⟨0,6,25,(fC zF),none,#[]⟩] [none,some (.int .i64 0)] mo d0 z0 (Below.refl _ _) (by kernel_rfl) trivial (
  hk (fun cx=>cx.al (wn rfl) 0 rfl (al_f rfl) rfl rfl rfl rfl rfl trivial) <|
  kq (fun cx=>ex_as rfl rfl) <|
  hn) ?_
 intro a1 w1 f1
 obtain ⟨g1,u_g1,q_g1,b_g1⟩:=f1.al.1
 refine wp_seq ?_
 refine wp_seq ?_
 have s0_1:=f1.q 0 s0_0
 refine go_reg [] [] [some (.int .i8 w),oF,oT] mo f1.d f1.z f1.b (by kernel_rfl) trivial (
  kq (fun cx=>ex_mv rfl (cx.rq 0 s0_1)) <|
  hc (fun _ _ wx cx=>cx.c rfl (args1 cx.u0) Tryz.func72 (by decide +kernel) (((width_n w wx).mono (by rintro e w' ⟨rfl,rfl⟩;exact ⟨rfl,Below.refl _ _⟩))) rfl (congrArg Value.bool hl)) <|
  kq (fun cx=>ex_not (x:=.tmp 10) rfl cx.u0) <|
  hn) ?_
 intro a2 w2 f2
 refine wp_cond_true (f2.vv 2) ?_
 refine wp_seq ?_
 have b_g1_2:=f2.k b_g1
 have s6_3:=f2.q 6 u_g1
 refine go_reg [⟨g1,25,(fC zF),some 1,(fC zF)⟩] [] [some (.agg (fC zF)),none,some (.int .i64 2)] mo f2.d f2.z f2.b (by kernel_rfl) ⟨b_g1_2,trivial⟩ (
  kq (fun cx=>ex_z5 rfl) <|
  hk (fun cx=>cx.stR (wn rfl) rfl rfl 0 rfl (cx.rq 6 s6_3) (cx.u 0 rfl) (by kernel_rfl) (Eq.refl 5) (by simp [Value.oneCell']) q_g1 rfl trivial trivial) <|
  kq (fun cx=>ex_as rfl rfl) <|
  hn) ?_
 intro a3 w3 f3
 refine wp_ret ?_
 have s6_4:=f3.q 6 s6_3
 try simp only [Exit.inBlock,Exit.then]
 refine bodyPost_ret (res_ct (fn:=Tryz.f29) rfl s6_4 (load_row 25 f3.rows.1 Tryz.underlying25 rfl (by kernel_rfl)) (f3.vv 2)) f3.d ?_
 exact ⟨rfl,f3.b⟩
theorem qof_t (w v:Int)(W:World)(hv:0≤v∧v<18446744073709551616)(hl:longB w=true):Calls Tryz.prog 71 #[.int .i8 w,.int .u64 v] W fun e w'=>e=.returned (.tuple #[.agg (fC (aftF w (cutI v w) false false)),.int .i64 0])∧Below W.heap.size W w':=by
 refine calls_abs Tryz.func71 rfl (Nat.le_of_ble_eq_true rfl) ?_
 intro a0 d0 z0 h0
 replace z0:a0.tmps.size=13:=z0
 have s0_0:a0.tmps.getD 0 undef=.int .i8 w:=h0 0 (Nat.le_of_ble_eq_true rfl)
 have s1_0:a0.tmps.getD 1 undef=.int .u64 v:=h0 1 (Nat.le_of_ble_eq_true rfl)
 refine wp_seq ?_
 refine go_reg [] [⟨0,4,25,(fC zF),none,#[]⟩] [none,some (.int .i64 0)] mo d0 z0 (Below.refl _ _) (by kernel_rfl) trivial (
  hk (fun cx=>cx.al (wn rfl) 0 rfl (al_f rfl) rfl rfl rfl rfl rfl trivial) <|
  kq (fun cx=>ex_as rfl rfl) <|
  hn) ?_
 intro a1 w1 f1
 obtain ⟨g1,u_g1,q_g1,b_g1⟩:=f1.al.1
 refine wp_seq ?_
 refine wp_seq ?_
 have s0_1:=f1.q 0 s0_0
 refine go_reg [] [] [some (.int .i8 w),oT,oF] mo f1.d f1.z f1.b (by kernel_rfl) trivial (
  kq (fun cx=>ex_mv rfl (cx.rq 0 s0_1)) <|
  hc (fun _ _ wx cx=>cx.c rfl (args1 cx.u0) Tryz.func72 (by decide +kernel) (((width_n w wx).mono (by rintro e w' ⟨rfl,rfl⟩;exact ⟨rfl,Below.refl _ _⟩))) rfl (congrArg Value.bool hl)) <|
  kq (fun cx=>ex_not (x:=.tmp 7) rfl cx.u0) <|
  hn) ?_
 intro a2 w2 f2
 refine wp_cond_false (f2.vv 2) ?_
 refine wp_skip ?_
 refine wp_seq ?_
 have b_g1_2:=f2.k b_g1
 have s0_3:=f2.q 0 s0_1
 have s1_4:=f2.q 1 (f1.q 1 s1_0)
 have s4_5:=f2.q 4 u_g1
 refine go_reg [⟨g1,25,(fC zF),some 3,(fC (aftF w (cutI v w) false false))⟩] [] [some (.int .i8 w),some (.int .u64 v),some (.agg (fC (aftF w (cutI v w) false false))),none,some (.int .i64 0)] mo f2.d f2.z f2.b (by kernel_rfl) ⟨b_g1_2,trivial⟩ (
  kq (fun cx=>ex_mv rfl (cx.rq 0 s0_3)) <|
  kq (fun cx=>ex_mv rfl (cx.rq 1 s1_4)) <|
  hc (fun _ _ wx cx=>cx.c rfl (args4 cx.u0 cx.u1 rfl rfl) Tryz.func73 (by decide +kernel) (made_n w v false false wx hl hv) rfl rfl) <|
  hk (fun cx=>cx.stR (wn rfl) rfl rfl 0 rfl (cx.rq 4 s4_5) (cx.u 0 rfl) (by kernel_rfl) (Eq.refl 5) (by simp [Value.oneCell']) q_g1 rfl trivial trivial) <|
  kq (fun cx=>ex_as rfl rfl) <|
  hn) ?_
 intro a3 w3 f3
 refine wp_ret ?_
 have s4_6:=f3.q 4 s4_5
 try simp only [Exit.inBlock,Exit.then]
 refine bodyPost_ret (res_ct (fn:=Tryz.f71) rfl s4_6 (load_row 25 f3.rows.1 Tryz.underlying25 rfl (by kernel_rfl)) (f3.vv 4)) f3.d ?_
 exact ⟨rfl,f3.b⟩
theorem qof_f (w v:Int)(W:World)(hv:0≤v∧v<18446744073709551616)(hl:longB w=false):Calls Tryz.prog 71 #[.int .i8 w,.int .u64 v] W fun e w'=>e=.returned (.tuple #[.agg (fC zF),.int .i64 2])∧Below W.heap.size W w':=by
 refine calls_abs Tryz.func71 rfl (Nat.le_of_ble_eq_true rfl) ?_
 intro a0 d0 z0 h0
 replace z0:a0.tmps.size=13:=z0
 have s0_0:a0.tmps.getD 0 undef=.int .i8 w:=h0 0 (Nat.le_of_ble_eq_true rfl)
 have s1_0:a0.tmps.getD 1 undef=.int .u64 v:=h0 1 (Nat.le_of_ble_eq_true rfl)
 refine wp_seq ?_
 refine go_reg [] [⟨0,4,25,(fC zF),none,#[]⟩] [none,some (.int .i64 0)] mo d0 z0 (Below.refl _ _) (by kernel_rfl) trivial (
  hk (fun cx=>cx.al (wn rfl) 0 rfl (al_f rfl) rfl rfl rfl rfl rfl trivial) <|
  kq (fun cx=>ex_as rfl rfl) <|
  hn) ?_
 intro a1 w1 f1
 obtain ⟨g1,u_g1,q_g1,b_g1⟩:=f1.al.1
 refine wp_seq ?_
 refine wp_seq ?_
 have s0_1:=f1.q 0 s0_0
 refine go_reg [] [] [some (.int .i8 w),oF,oT] mo f1.d f1.z f1.b (by kernel_rfl) trivial (
  kq (fun cx=>ex_mv rfl (cx.rq 0 s0_1)) <|
  hc (fun _ _ wx cx=>cx.c rfl (args1 cx.u0) Tryz.func72 (by decide +kernel) (((width_n w wx).mono (by rintro e w' ⟨rfl,rfl⟩;exact ⟨rfl,Below.refl _ _⟩))) rfl (congrArg Value.bool hl)) <|
  kq (fun cx=>ex_not (x:=.tmp 7) rfl cx.u0) <|
  hn) ?_
 intro a2 w2 f2
 refine wp_cond_true (f2.vv 2) ?_
 refine wp_seq ?_
 have b_g1_2:=f2.k b_g1
 have s4_3:=f2.q 4 u_g1
 refine go_reg [⟨g1,25,(fC zF),some 1,(fC zF)⟩] [] [some (.agg (fC zF)),none,some (.int .i64 2)] mo f2.d f2.z f2.b (by kernel_rfl) ⟨b_g1_2,trivial⟩ (
  kq (fun cx=>ex_z5 rfl) <|
  hk (fun cx=>cx.stR (wn rfl) rfl rfl 0 rfl (cx.rq 4 s4_3) (cx.u 0 rfl) (by kernel_rfl) (Eq.refl 5) (by simp [Value.oneCell']) q_g1 rfl trivial trivial) <|
  kq (fun cx=>ex_as rfl rfl) <|
  hn) ?_
 intro a3 w3 f3
 refine wp_ret ?_
 have s4_4:=f3.q 4 s4_3
 try simp only [Exit.inBlock,Exit.then]
 refine bodyPost_ret (res_ct (fn:=Tryz.f71) rfl s4_4 (load_row 25 f3.rows.1 Tryz.underlying25 rfl (by kernel_rfl)) (f3.vv 2)) f3.d ?_
 exact ⟨rfl,f3.b⟩
theorem qadd_n (w a b:Int)(W:World)(ha:0≤a∧a<18446744073709551616)(hb:0≤b∧b<18446744073709551616):Calls Tryz.prog 70 #[.int .i8 w,.int .u64 a,.int .u64 b] W fun e w'=>e=.returned (.tuple #[.agg (fC (addF w a b)),.int .i64 (errW w)])∧Below W.heap.size W w':=by
 cases hl:longB w
 ·rw [show addF w a b=zF from if_neg (by simp [hl]),show errW w=2 from if_neg (by simp [hl])]
  exact qadd_f w a b W ha hb hl
 ·rw [show addF w a b=_ from if_pos hl,show errW w=0 from if_pos hl]
  exact qadd_t w a b W ha hb hl
theorem qsub_n (w a b:Int)(W:World)(ha:0≤a∧a<18446744073709551616)(hb:0≤b∧b<18446744073709551616):Calls Tryz.prog 29 #[.int .i8 w,.int .u64 a,.int .u64 b] W fun e w'=>e=.returned (.tuple #[.agg (fC (subF w a b)),.int .i64 (errW w)])∧Below W.heap.size W w':=by
 cases hl:longB w
 ·rw [show subF w a b=zF from if_neg (by simp [hl]),show errW w=2 from if_neg (by simp [hl])]
  exact qsub_f w a b W ha hb hl
 ·rw [show subF w a b=_ from if_pos hl,show errW w=0 from if_pos hl]
  exact qsub_t w a b W ha hb hl
theorem qof_n (w v:Int)(W:World)(hv:0≤v∧v<18446744073709551616):Calls Tryz.prog 71 #[.int .i8 w,.int .u64 v] W fun e w'=>e=.returned (.tuple #[.agg (fC (ofF w v)),.int .i64 (errW w)])∧Below W.heap.size W w':=by
 cases hl:longB w
 ·rw [show ofF w v=zF from if_neg (by simp [hl]),show errW w=2 from if_neg (by simp [hl])]
  exact qof_f w v W hv hl
 ·rw [show ofF w v=_ from if_pos hl,show errW w=0 from if_pos hl]
  exact qof_t w v W hv hl
end Go.Proofs.YtjhedldplmhmjaaGreatDoor.Flg
