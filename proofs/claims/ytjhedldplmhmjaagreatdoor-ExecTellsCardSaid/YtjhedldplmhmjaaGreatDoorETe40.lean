import Derived.Test.YtjhedldplmhmjaaGreatDoorETe22
import Derived.Maps.OwnSet
import Derived.Maps.RangeWalk
import Derived.WalkKit
import Derived.Lib.Hide
set_option maxHeartbeats 4000000
set_option linter.unusedVariables false
set_option linter.unusedSimpArgs false
set_option linter.unnecessarySimpa false
namespace Go.Proofs.YtjhedldplmhmjaaGreatDoor.Exe
open Go Go.RowKit Go.Maps
set_option maxRecDepth 100000
theorem lawI8:Keyed Tryz.prog 28:=int_keyed Tryz.underlying28
theorem is_key8 (a:Int):WideAt.IsKeyLit (.int .i8 a):=trivial
theorem lit_ne8 {a b:Int}(h:¬ a=b):Lit.int .i8 a≠Lit.int .i8 b:=fun e=>h (by injection e)
structure Cons8 (D:DataW Unit)(f:Int→Bool)(g:Int→Int):Prop where
 keys:∀ z:Int,Maps.has D (.int .i8 z)=f z
 vals:∀ z:Int,f z=true→∀ d,D.atKey (.int .i8 z) d=.lit (.int .i8 (g z))
 tidy:Maps.Tidy D
theorem Cons8.empty:Cons8 (.map []) (fun _=>false) (fun _=>0):=⟨fun _=>rfl,(fun _ h=>by cases h),tidy_empty⟩
theorem Cons8.put {D:DataW Unit}{f:Int→Bool}{g:Int→Int}(h:Cons8 D f g)(a v:Int):
  Cons8 (D.put (.int .i8 a) (.lit (.int .i8 v))) (fun z=>f z || decide (a=z)) (fun z=>if a=z then v else g z):=by
 refine ⟨fun z=>?_,fun z hz d=>?_,h.tidy.put (is_key8 a) _⟩
 ·by_cases e:a=z
  ·subst e;rw [has_put_same h.tidy.isMap (is_key8 _)];simp
  ·rw [has_put_other (lit_ne8 (Ne.symm e)),h.keys,decide_eq_false e,Bool.or_false]
 ·by_cases e:a=z
  ·subst e;rw [atKey_put_same h.tidy.isMap (is_key8 _),if_pos rfl]
  ·rw [atKey_put_other (lit_ne8 (Ne.symm e)),if_neg e]
   exact h.vals z (by simpa [e] using hz) d
theorem Cons8.congr {D:DataW Unit}{f f':Int→Bool}{g g':Int→Int}(h:Cons8 D f g)(hf:∀ z,f z=f' z)(hg:∀ z,f' z=true→g z=g' z):Cons8 D f' g':=
 ⟨fun z=>(h.keys z).trans (hf z),fun z hz d=>by rw [h.vals z ((hf z).trans hz) d,hg z hz],h.tidy⟩
theorem wpList_insert_own {H:Type}{P:Program}(w:World){ops:Array Oper}{rest:List Oper}{o:Oper}{a:Act}{Q:Exit→Act→World→Prop}
  (hg:o.guard=none) (m x v:Operand) (t:TypeId) (hop:o.op=Op.insert t m x v)
  (k e:TypeId) (K:Keyed P k) (ht:P.underlying t=some (.map k e)) (R:Value→Option (DataW H × List MemPlace)) (b n:Nat) (D:DataW H)
  (hm:a.eval m=.map (some b)) (hown:w.ownsMap P k R b n D) (hn:n<maxLen) (key val:Value) (kl:Lit) (hx:a.eval x=key) (hv:a.eval v=val) (hkey:keyOf P k key=some kl)
  (d:DataW H) (ps:List MemPlace) (hval:R val=some (d,ps))
  (hK:∀ w',w'.ownsMap P k R b (n+1) (D.put kl d)→w.grownBy w' (some b)→wpList P ops Q rest (a.put o.dst undef) w'):
  wpList P ops Q (o :: rest) a w:=by
 refine wpList_plain hg fun K' hK'=>?_
 obtain ⟨w',hrun,r1,r2⟩:=hown.update K ht hn hkey hval
 unfold Oper.wp
 simp [execOp,hop,hm,hx,hv,hrun,Result.andThen]
 exact hK' _ _ (hK w' r1 r2)
theorem halt_insert {P:Program}{ops:Array Oper}{rest:List Oper}{o:Oper}{a:Act}{w:World}{Q:Exit→Act→World→Prop}(t:TypeId)(m x v:Operand)(ho:o.op=.insert t m x v)
 (h:wpList P ops Q (o :: rest) a w∧True):wpList P ops Q (o :: rest) a w:=h.1
theorem halt_lookup {P:Program}{ops:Array Oper}{rest:List Oper}{o:Oper}{a:Act}{w:World}{Q:Exit→Act→World→Prop}(t:TypeId)(m x:Operand)(c:Bool)(ho:o.op=.lookup t m x c)
 (h:wpList P ops Q (o :: rest) a w∧True):wpList P ops Q (o :: rest) a w:=h.1
theorem below_map {B:Nat}{W w w':World}(h:Below B W w){b:Nat}(g:w.grownBy w' (some b))(hb:B≤b)(hw:B≤w.heap.size):Below B W w':=
 h.trans ⟨g.os,g.tape,g.output,g.size,fun k hk=>g.block k (by omega) (by intro e;cases e;omega)⟩
def toT:List Int:=[4,5,7,3,2,6,15,13,12,14,5]
def toB (cc:Int):Bool:=decide (0≤cc) && decide (cc≤10)
def toC (cc:Int):Int:=if toB cc=true then toT.getD cc.toNat 0 else 0
def ccB (cc:Int):Bool:=cc == 2 || cc == 3 || cc == 4 || cc == 5 || cc == 6 || cc == 7 || cc == 12 || cc == 13 || cc == 14 || cc == 15
def ccS (cc:Int):Int:=if cc=4 then 0 else if cc=5 then 1 else if cc=7 then 2 else if cc=3 then 3 else if cc=2 then 4 else if cc=6 then 5 else if cc=15 then 6 else if cc=13 then 7 else if cc=12 then 8 else if cc=14 then 9 else 0
structure CondMap (b n:Nat)(D:DataW Unit)(w:World):Prop where
 own:w.ownsMap Tryz.prog 28 (plainElem (H:=Unit) Tryz.prog 28) b n D
 con:Cons8 D toB toC
theorem conds_n (W:World):Calls Tryz.prog 33 #[] W fun e w'=>∃ D,e=.returned (.map (some W.heap.size))∧CondMap W.heap.size 11 D w'∧Below W.heap.size W w':=by
 have hmm:=@run_makeMap Tryz.prog
 go_enter Tryz.func33,Tryz.ntmps33
 go_wp2_with (refine (halt_insert 61 _ _ _ rfl ?_))
 refine ⟨?_,trivial⟩
 refine wpList_insert_own _ rfl _ _ _ 61 rfl 28 28 lawI8 Tryz.underlying61 (plainElem (H:=Unit) Tryz.prog 28) W.heap.size 0 (.map []) rfl (World.ownsMap_made _ _ _ _) (by decide) _ _ (.int .i8 0) rfl rfl (keyOf_int_mk Tryz.underlying28 (by decide)) (.lit (.int .i8 4)) [] (plainElem_int Tryz.underlying28 (by decide)) ?_
 intro w1 own1 grow1
 have O1:=Lib.hid own1
 have B1:=Lib.hid (below_map (below_new (Below.refl _ W) _) grow1 (Nat.le_refl _) (below_new (Below.refl W.heap.size W) _).size)
 clear own1 grow1
 go_wp2_with (refine (halt_insert 61 _ _ _ rfl ?_))
 refine ⟨?_,trivial⟩
 refine wpList_insert_own _ rfl _ _ _ 61 rfl 28 28 lawI8 Tryz.underlying61 (plainElem (H:=Unit) Tryz.prog 28) W.heap.size 1 _ rfl O1.out (by decide) _ _ (.int .i8 1) rfl rfl (keyOf_int_mk Tryz.underlying28 (by decide)) (.lit (.int .i8 5)) [] (plainElem_int Tryz.underlying28 (by decide)) ?_
 intro w2 own2 grow2
 have O2:=Lib.hid own2
 have B2:=Lib.hid (below_map B1.out grow2 (Nat.le_refl _) B1.out.size)
 clear own2 grow2 O1 B1
 go_wp2_with (refine (halt_insert 61 _ _ _ rfl ?_))
 refine ⟨?_,trivial⟩
 refine wpList_insert_own _ rfl _ _ _ 61 rfl 28 28 lawI8 Tryz.underlying61 (plainElem (H:=Unit) Tryz.prog 28) W.heap.size 2 _ rfl O2.out (by decide) _ _ (.int .i8 2) rfl rfl (keyOf_int_mk Tryz.underlying28 (by decide)) (.lit (.int .i8 7)) [] (plainElem_int Tryz.underlying28 (by decide)) ?_
 intro w3 own3 grow3
 have O3:=Lib.hid own3
 have B3:=Lib.hid (below_map B2.out grow3 (Nat.le_refl _) B2.out.size)
 clear own3 grow3 O2 B2
 go_wp2_with (refine (halt_insert 61 _ _ _ rfl ?_))
 refine ⟨?_,trivial⟩
 refine wpList_insert_own _ rfl _ _ _ 61 rfl 28 28 lawI8 Tryz.underlying61 (plainElem (H:=Unit) Tryz.prog 28) W.heap.size 3 _ rfl O3.out (by decide) _ _ (.int .i8 3) rfl rfl (keyOf_int_mk Tryz.underlying28 (by decide)) (.lit (.int .i8 3)) [] (plainElem_int Tryz.underlying28 (by decide)) ?_
 intro w4 own4 grow4
 have O4:=Lib.hid own4
 have B4:=Lib.hid (below_map B3.out grow4 (Nat.le_refl _) B3.out.size)
 clear own4 grow4 O3 B3
 go_wp2_with (refine (halt_insert 61 _ _ _ rfl ?_))
 refine ⟨?_,trivial⟩
 refine wpList_insert_own _ rfl _ _ _ 61 rfl 28 28 lawI8 Tryz.underlying61 (plainElem (H:=Unit) Tryz.prog 28) W.heap.size 4 _ rfl O4.out (by decide) _ _ (.int .i8 4) rfl rfl (keyOf_int_mk Tryz.underlying28 (by decide)) (.lit (.int .i8 2)) [] (plainElem_int Tryz.underlying28 (by decide)) ?_
 intro w5 own5 grow5
 have O5:=Lib.hid own5
 have B5:=Lib.hid (below_map B4.out grow5 (Nat.le_refl _) B4.out.size)
 clear own5 grow5 O4 B4
 go_wp2_with (refine (halt_insert 61 _ _ _ rfl ?_))
 refine ⟨?_,trivial⟩
 refine wpList_insert_own _ rfl _ _ _ 61 rfl 28 28 lawI8 Tryz.underlying61 (plainElem (H:=Unit) Tryz.prog 28) W.heap.size 5 _ rfl O5.out (by decide) _ _ (.int .i8 5) rfl rfl (keyOf_int_mk Tryz.underlying28 (by decide)) (.lit (.int .i8 6)) [] (plainElem_int Tryz.underlying28 (by decide)) ?_
 intro w6 own6 grow6
 have O6:=Lib.hid own6
 have B6:=Lib.hid (below_map B5.out grow6 (Nat.le_refl _) B5.out.size)
 clear own6 grow6 O5 B5
 go_wp2_with (refine (halt_insert 61 _ _ _ rfl ?_))
 refine ⟨?_,trivial⟩
 refine wpList_insert_own _ rfl _ _ _ 61 rfl 28 28 lawI8 Tryz.underlying61 (plainElem (H:=Unit) Tryz.prog 28) W.heap.size 6 _ rfl O6.out (by decide) _ _ (.int .i8 6) rfl rfl (keyOf_int_mk Tryz.underlying28 (by decide)) (.lit (.int .i8 15)) [] (plainElem_int Tryz.underlying28 (by decide)) ?_
 intro w7 own7 grow7
 have O7:=Lib.hid own7
 have B7:=Lib.hid (below_map B6.out grow7 (Nat.le_refl _) B6.out.size)
 clear own7 grow7 O6 B6
 go_wp2_with (refine (halt_insert 61 _ _ _ rfl ?_))
 refine ⟨?_,trivial⟩
 refine wpList_insert_own _ rfl _ _ _ 61 rfl 28 28 lawI8 Tryz.underlying61 (plainElem (H:=Unit) Tryz.prog 28) W.heap.size 7 _ rfl O7.out (by decide) _ _ (.int .i8 7) rfl rfl (keyOf_int_mk Tryz.underlying28 (by decide)) (.lit (.int .i8 13)) [] (plainElem_int Tryz.underlying28 (by decide)) ?_
 intro w8 own8 grow8
 have O8:=Lib.hid own8
 have B8:=Lib.hid (below_map B7.out grow8 (Nat.le_refl _) B7.out.size)
 clear own8 grow8 O7 B7
 go_wp2_with (refine (halt_insert 61 _ _ _ rfl ?_))
 refine ⟨?_,trivial⟩
 refine wpList_insert_own _ rfl _ _ _ 61 rfl 28 28 lawI8 Tryz.underlying61 (plainElem (H:=Unit) Tryz.prog 28) W.heap.size 8 _ rfl O8.out (by decide) _ _ (.int .i8 8) rfl rfl (keyOf_int_mk Tryz.underlying28 (by decide)) (.lit (.int .i8 12)) [] (plainElem_int Tryz.underlying28 (by decide)) ?_
 intro w9 own9 grow9
 have O9:=Lib.hid own9
 have B9:=Lib.hid (below_map B8.out grow9 (Nat.le_refl _) B8.out.size)
 clear own9 grow9 O8 B8
 go_wp2_with (refine (halt_insert 61 _ _ _ rfl ?_))
 refine ⟨?_,trivial⟩
 refine wpList_insert_own _ rfl _ _ _ 61 rfl 28 28 lawI8 Tryz.underlying61 (plainElem (H:=Unit) Tryz.prog 28) W.heap.size 9 _ rfl O9.out (by decide) _ _ (.int .i8 9) rfl rfl (keyOf_int_mk Tryz.underlying28 (by decide)) (.lit (.int .i8 14)) [] (plainElem_int Tryz.underlying28 (by decide)) ?_
 intro w10 own10 grow10
 have O10:=Lib.hid own10
 have B10:=Lib.hid (below_map B9.out grow10 (Nat.le_refl _) B9.out.size)
 clear own10 grow10 O9 B9
 go_wp2_with (refine (halt_insert 61 _ _ _ rfl ?_))
 refine ⟨?_,trivial⟩
 refine wpList_insert_own _ rfl _ _ _ 61 rfl 28 28 lawI8 Tryz.underlying61 (plainElem (H:=Unit) Tryz.prog 28) W.heap.size 10 _ rfl O10.out (by decide) _ _ (.int .i8 10) rfl rfl (keyOf_int_mk Tryz.underlying28 (by decide)) (.lit (.int .i8 5)) [] (plainElem_int Tryz.underlying28 (by decide)) ?_
 intro w11 own11 grow11
 have O11:=Lib.hid own11
 have B11:=Lib.hid (below_map B10.out grow11 (Nat.le_refl _) B10.out.size)
 clear own11 grow11 O10 B10
 go_wp2_with fail
 go_ret
 refine ⟨_,rfl,⟨O11.out,?_⟩,B11.out⟩
 refine ((((((((((((Cons8.empty.put 0 4).put 1 5).put 2 7).put 3 3).put 4 2).put 5 6).put 6 15).put 7 13).put 8 12).put 9 14).put 10 5)).congr (fun z=>?_) (fun z hz=>?_)
 ·unfold toB
  rw [Bool.eq_iff_iff]
  simp only [Bool.false_or,Bool.or_eq_true,decide_eq_true_eq,Bool.and_eq_true]
  omega
 ·have hr:0≤z∧z≤10:=by unfold toB at hz;simpa using hz
  unfold toC
  rw [if_pos hz]
  rcases (show z=0∨z=1∨z=2∨z=3∨z=4∨z=5∨z=6∨z=7∨z=8∨z=9∨z=10 by omega) with rfl | rfl | rfl | rfl | rfl | rfl | rfl | rfl | rfl | rfl | rfl <;> rfl
theorem tocc_n (cc:Int)(hcc:-128≤cc∧cc<128)(W:World):Calls Tryz.prog 12 #[.int .i8 cc] W fun e w'=>e=.returned (.tuple #[.int .i8 (toC cc),.bool (toB cc)])∧Below W.heap.size W w':=by
 have C:=Lib.hid (conds_n W)
 have hw:(Lit.int .i8 cc).wf=true:=by simp [Lit.wf,IntKind.min,IntKind.max,IntKind.bits,IntKind.signed];omega
 go_enter Tryz.func12,Tryz.ntmps12
 go_wp2_with fail
 refine C.out.mono ?_
 rintro e w1 ⟨D,rfl,cm,b1⟩
 have CM:=Lib.hid cm
 have B1:=Lib.hid b1
 clear cm b1 C
 go_wp2_with (refine (halt_lookup 61 _ _ _ rfl ?_))
 refine ⟨?_,trivial⟩
 refine wpList_lookup_own_ok_int _ rfl _ _ 61 rfl 28 28 .i8 lawI8 Tryz.underlying61 Tryz.underlying28 (by simp [go_sem]) W.heap.size 11 D rfl CM.out.own _ (.int .i8 cc) rfl (keyOf_int_mk Tryz.underlying28 hw) ?_
 intro c hat hwc
 have E:c=toC cc:=by
  cases hb:toB cc
  ·rw [atKey_of_not_has ((CM.out.con.keys cc).trans hb)] at hat
   have:(0:Int)=c:=by injection hat with h;injection h
   rw [← this];unfold toC;rw [if_neg (by rw [hb];exact Bool.false_ne_true)]
  ·rw [CM.out.con.vals cc hb] at hat
   have:toC cc=c:=by injection hat with h;injection h
   exact this.symm
 have HB:=CM.out.con.keys cc
 rw [HB,E]
 clear hat hwc E HB CM hw
 go_wp2_with fail
 go_ret2
 exact ⟨rfl,B1.out⟩
theorem cc_hit {x c:Int}(hx:0≤x∧x≤10)(h10:x≠10)(h:toC x=c):ccB c=true∧ccS c=x:=by
 subst h
 rcases (show x=0∨x=1∨x=2∨x=3∨x=4∨x=5∨x=6∨x=7∨x=8∨x=9 by omega) with rfl | rfl | rfl | rfl | rfl | rfl | rfl | rfl | rfl | rfl <;> exact ⟨rfl,rfl⟩
theorem cc_miss {c:Int}(h:∀ k:Int,0≤k∧k≤9→toC k≠c):ccB c=false∧ccS c=0:=by
 have h0:¬ 4=c:=h 0 (by omega)
 have h1:¬ 5=c:=h 1 (by omega)
 have h2:¬ 7=c:=h 2 (by omega)
 have h3:¬ 3=c:=h 3 (by omega)
 have h4:¬ 2=c:=h 4 (by omega)
 have h5:¬ 6=c:=h 5 (by omega)
 have h6:¬ 15=c:=h 6 (by omega)
 have h7:¬ 13=c:=h 7 (by omega)
 have h8:¬ 12=c:=h 8 (by omega)
 have h9:¬ 14=c:=h 9 (by omega)
 refine ⟨?_,?_⟩
 ·unfold ccB;simp only [Bool.or_eq_false_iff,beq_eq_false_iff_ne];omega
 ·unfold ccS;rw [if_neg (by omega),if_neg (by omega),if_neg (by omega),if_neg (by omega),if_neg (by omega),if_neg (by omega),if_neg (by omega),if_neg (by omega),if_neg (by omega),if_neg (by omega)]
theorem cc_n (cc:Int)(W:World):Calls Tryz.prog 10 #[.int .i8 cc] W fun e w'=>e=.returned (.tuple #[.int .i8 (ccS cc),.bool (ccB cc)])∧Below W.heap.size W w':=by
 have C:=Lib.hid (conds_n W)
 go_enter Tryz.func10,Tryz.ntmps10
 go_wp2_with fail
 refine C.out.mono ?_
 rintro e w1 ⟨D,rfl,cm,b1⟩
 have CM:=Lib.hid cm
 have B1:=Lib.hid b1
 have CN:=Lib.hid cm.con
 clear cm b1 C
 go_wp2_with (at_range;refine wpList_range_own _ rfl _ 61 rfl 28 28 lawI8 Tryz.underlying61 _ W.heap.size 11 D rfl CM.out.own ?_;intro w0 hrg0 hg0 hs0)
 have B0:=Lib.hid (below_map (b:=w1.heap.size) B1.out ⟨hg0.os,hg0.tape,hg0.output,hg0.size,fun k hk _=>hg0.block k hk (by simp)⟩ B1.out.size B1.out.size)
 have SZ:=Lib.hid B1.out.size
 clear B1 CM
 go_frame
 go_loopw [] (fun wr=>Hid (∃ (left:Lit→Bool) (cnt:Nat),wr.ranges Tryz.prog 28 (plainElem (H:=Unit) Tryz.prog 28) W.heap.size w1.heap.size 11 D left cnt∧Below W.heap.size W wr∧∀ k:Int,0≤k∧k≤9→left (.int .i8 k)=false→toC k≠cc))
  (fun wr=>wr.rangeLeft W.heap.size w1.heap.size)
 case atStart=>exact Lib.hid ⟨_,_,hrg0,B0.out,fun k hk h=>by rw [CN.out.keys k] at h;unfold toB at h;simp at h;omega⟩
 case round=>
  obtain ⟨left,cnt,hrg,hb,hl⟩:=hrel.out
  have HB:=Lib.hid hb
  have HL:=Lib.hid hl
  clear hb hl hrel
  go_wp2_with (at_next;refine wpList_next_ranges_ii _ rfl _ rfl 28 28 .i8 .i8 lawI8 Tryz.underlying28 Tryz.underlying28 W.heap.size w1.heap.size 11 _ _ _ rfl hrg ?_ ?_)
  ·intro _ hl0
   have M:=Lib.hid (cc_miss (fun k hk=>HL.out k hk (hl0 _)))
   go_wp2_with fail
   go_ret2
   exact ⟨by rw [M.out.1,M.out.2];rfl,HB.out⟩
  ·intro x c w2 cnt1 hwx hwc hlx hat hrg1 hlt hg1 hs1 hen
   have hx:toB x=true:=(CN.out.keys x).symm.trans (has_true_of_atKey hat)
   have hx2:0≤x∧x≤10:=by unfold toB at hx;simpa using hx
   have hc:toC x=c:=by
    have:=(CN.out.vals x hx (.lit (.int .i8 0))).symm.trans (hat _)
    injection this with h;injection h
   have HX:=Lib.hid hx2
   have HC:=Lib.hid hc
   have HB2:=Lib.hid (below_map (b:=w1.heap.size) HB.out hg1 SZ.out HB.out.size)
   have HR:=Lib.hid hrg1
   have HRG:=Lib.hid hrg
   have HLT:=Lib.hid hlt
   clear hx hx2 hc hat hwx hwc hlx hrg1 hrg hlt hg1 hs1
   cases e1:(c == cc)
   ·go_wp2_with fail
    go_roundw
    case rel=>exact Lib.hid ⟨_,_,HR.out,HB2.out,fun k hk h=>by
     cases hs:left (.int .i8 k)
     ·exact HL.out k hk hs
     ·rw [hs,Bool.true_and] at h
      have ek:k=x:=by
       by_cases e:k=x
       ·exact e
       ·exfalso
        have:(Lit.int .i8 k).sameKey (.int .i8 x)=false:=by simp [Lit.sameKey,e]
        rw [this] at h;cases h
      rw [ek,HC.out]
      simpa using e1⟩
    case measure=>rw [HR.out.left_eq,HRG.out.left_eq];exact HLT.out
   ·have ec:c=cc:=by simpa using e1
    cases e2:(x != 10)
    ·have ex:x=10:=by simpa using e2
     go_wp2_with fail
     go_roundw
     case rel=>exact Lib.hid ⟨_,_,HR.out,HB2.out,fun k hk h=>by
      cases hs:left (.int .i8 k)
      ·exact HL.out k hk hs
      ·rw [hs,Bool.true_and] at h
       exfalso
       have:(Lit.int .i8 k).sameKey (.int .i8 x)=false:=by simp [Lit.sameKey];omega
       rw [this] at h;cases h⟩
     case measure=>rw [HR.out.left_eq,HRG.out.left_eq];exact HLT.out
    ·have M:=Lib.hid (cc_hit HX.out (by simpa using e2) (HC.out.trans ec))
     clear ec
     go_wp2_with fail
     go_ret2
     exact ⟨by rw [M.out.1,M.out.2];rfl,HB2.out⟩
end Go.Proofs.YtjhedldplmhmjaaGreatDoor.Exe
