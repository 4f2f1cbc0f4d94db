import Derived.Test.YtbpehbeakhocnaaGreatDoorIRm39
import Derived.LoopN
import Derived.Test.YtbpehbeakhocnaaGreatDoorIRm34
set_option maxHeartbeats 4000000
set_option linter.unusedVariables false
set_option linter.unusedSimpArgs false
set_option linter.unnecessarySimpa false
namespace Go.Proofs.YtbpehbeakhocnaaGreatDoor.Irn
open Go Go.RowKit
open Mrm (Xi xC xL zX eqX mayX readsX writesX XOk heap_below)
open Flg (Fl fC zF mayC holF)
open Exe
set_option maxRecDepth 100000
theorem stops_n (i:Ii) (W:World):Calls Tryz.prog 15 #[.agg (iC i)] W fun e w'=>e=.returned (.bool (stopI i)) ∧ Below W.heap.size W w':=by
  obtain ⟨k,⟨op,wd,dst,src,base,disp,imm,cc⟩,r,p,n,t⟩:=i
  cases h3:k == 3
  · cases h4:k == 4
    · cases h5:k == 5
      · cases h6:k == 6
        · cases h0:k == 0
          · have HE:=Lib.hid (show stopI ⟨k,⟨op,wd,dst,src,base,disp,imm,cc⟩,r,p,n,t⟩=false by unfold stopI;simp only [h3,h4,h5,h6,h0,Bool.or_true,Bool.true_or,Bool.or_false,Bool.false_or,Bool.and_true,Bool.true_and,Bool.false_and,Bool.and_false])
            go_enter Tryz.func15,Tryz.ntmps15
            go_wp2_with fail
            go_ret
            exact ⟨retV (by rw [HE.out];rfl),below_new (Below.refl _ _) _⟩
          · cases o6:op == 26
            · cases o7:op == 27
              · have HE:=Lib.hid (show stopI ⟨k,⟨op,wd,dst,src,base,disp,imm,cc⟩,r,p,n,t⟩=false by unfold stopI;simp only [h3,h4,h5,h6,h0,o6,o7,Bool.or_true,Bool.true_or,Bool.or_false,Bool.false_or,Bool.and_true,Bool.true_and,Bool.false_and,Bool.and_false])
                go_enter Tryz.func15,Tryz.ntmps15
                go_wp2_with fail
                go_ret
                exact ⟨retV (by rw [HE.out];rfl),below_new (Below.refl _ _) _⟩
              · have HE:=Lib.hid (show stopI ⟨k,⟨op,wd,dst,src,base,disp,imm,cc⟩,r,p,n,t⟩=true by unfold stopI;simp only [h3,h4,h5,h6,h0,o6,o7,Bool.or_true,Bool.true_or,Bool.or_false,Bool.false_or,Bool.and_true,Bool.true_and,Bool.false_and,Bool.and_false])
                go_enter Tryz.func15,Tryz.ntmps15
                go_wp2_with fail
                go_ret
                exact ⟨retV (by rw [HE.out];rfl),below_new (Below.refl _ _) _⟩
            · have HE:=Lib.hid (show stopI ⟨k,⟨op,wd,dst,src,base,disp,imm,cc⟩,r,p,n,t⟩=true by unfold stopI;simp only [h3,h4,h5,h6,h0,o6,Bool.or_true,Bool.true_or,Bool.or_false,Bool.false_or,Bool.and_true,Bool.true_and,Bool.false_and,Bool.and_false])
              go_enter Tryz.func15,Tryz.ntmps15
              go_wp2_with fail
              go_ret
              exact ⟨retV (by rw [HE.out];rfl),below_new (Below.refl _ _) _⟩
        · have HE:=Lib.hid (show stopI ⟨k,⟨op,wd,dst,src,base,disp,imm,cc⟩,r,p,n,t⟩=true by unfold stopI;simp only [h3,h4,h5,h6,Bool.or_true,Bool.true_or,Bool.or_false,Bool.false_or,Bool.and_true,Bool.true_and,Bool.false_and,Bool.and_false])
          go_enter Tryz.func15,Tryz.ntmps15
          go_wp2_with fail
          go_ret
          exact ⟨retV (by rw [HE.out];rfl),below_new (Below.refl _ _) _⟩
      · have HE:=Lib.hid (show stopI ⟨k,⟨op,wd,dst,src,base,disp,imm,cc⟩,r,p,n,t⟩=true by unfold stopI;simp only [h3,h4,h5,Bool.or_true,Bool.true_or,Bool.or_false,Bool.false_or,Bool.and_true,Bool.true_and,Bool.false_and,Bool.and_false])
        go_enter Tryz.func15,Tryz.ntmps15
        go_wp2_with fail
        go_ret
        exact ⟨retV (by rw [HE.out];rfl),below_new (Below.refl _ _) _⟩
    · have HE:=Lib.hid (show stopI ⟨k,⟨op,wd,dst,src,base,disp,imm,cc⟩,r,p,n,t⟩=true by unfold stopI;simp only [h3,h4,Bool.or_true,Bool.true_or,Bool.or_false,Bool.false_or,Bool.and_true,Bool.true_and,Bool.false_and,Bool.and_false])
      go_enter Tryz.func15,Tryz.ntmps15
      go_wp2_with fail
      go_ret
      exact ⟨retV (by rw [HE.out];rfl),below_new (Below.refl _ _) _⟩
  · have HE:=Lib.hid (show stopI ⟨k,⟨op,wd,dst,src,base,disp,imm,cc⟩,r,p,n,t⟩=true by unfold stopI;simp only [h3,Bool.or_true,Bool.true_or,Bool.or_false,Bool.false_or,Bool.and_true,Bool.true_and,Bool.false_and,Bool.and_false])
    go_enter Tryz.func15,Tryz.ntmps15
    go_wp2_with fail
    go_ret
    exact ⟨retV (by rw [HE.out];rfl),below_new (Below.refl _ _) _⟩
theorem row_heap {W w:World} {k:Nat} {A:Array Value} {T:TypeId} (h:W.heap[k]?=some (.cells A T (0,0))) (b:Below W.heap.size W w):w.heap[k]?=some (.cells A T (0,0)):=
  (b.block k (Array.getElem?_eq_some_iff.1 h).1).trans h
theorem row_cell {w:World} {k:Nat} {A:Array Value} {T:TypeId} (h:w.heap[k]?=some (.cells A T (0,0))) (i:Nat) (v:Value) (hv:A[i]?=some v):w.cell? ⟨k,i,none⟩=some v:=by
  simp only [World.cell?,h]
  simpa using hv
theorem range_below {W w:World} {B o n:Nat} {cs:List Value} (h:W.rangeAt B o cs) (b:Below n W w) (hn:W.heap.size ≤ n):w.rangeAt B o cs:=fun j v hv=>(b.cell (Nat.lt_of_lt_of_le (Mrm.lt_cell (h j v hv)) hn)).trans (h j v hv)
structure Irs (W:World) (a:Option Addr) (len cap:Nat) (l:List Ii):Prop where
  le:len ≤ cap
  fit:cap ≤ 9223372036854775807
  size:l.length=len
  here:0 < len → ∃ b o,a=some ⟨b,o,none⟩ ∧ ∀ (i:Nat) (x:Ii),l[i]?=some x → W.rangeAt b (o + i * 13) (iL x)
  ok:∀ x ∈ l,IOk x
  nilc:a=none → cap=0
theorem Irs.below {W w:World} {a:Option Addr} {len cap n:Nat} {l:List Ii} (h:Irs W a len cap l) (b:Below n W w) (hn:W.heap.size ≤ n):Irs w a len cap l:=
  ⟨h.le,h.fit,h.size,fun hp=>by
    obtain ⟨B,o,e,hr⟩:=h.here hp
    exact ⟨B,o,e,fun i x hx=>range_below (hr i x hx) b hn⟩,h.ok,h.nilc⟩
theorem fi_here {l:List Ii} {p:Ii → Bool} {k:Nat} {x:Ii} (h:k ≤ l.findIdx p) (hx:l[k]?=some x) (hp:p x=true):l.findIdx p=k:=by
  obtain ⟨hk,e⟩:=List.getElem?_eq_some_iff.1 hx
  by_cases c:k < l.findIdx p
  · have:=List.not_of_lt_findIdx c
    rw [e,hp] at this
    simp at this
  · omega
theorem fi_next {l:List Ii} {p:Ii → Bool} {k:Nat} {x:Ii} (h:k ≤ l.findIdx p) (hx:l[k]?=some x) (hp:p x=false):k + 1 ≤ l.findIdx p:=by
  obtain ⟨hk,e⟩:=List.getElem?_eq_some_iff.1 hx
  by_cases c:l.findIdx p=k
  · have:=List.findIdx_getElem (xs:=l) (p:=p) (w:=by omega)
    simp only [c,e,hp] at this
    cases this
  · omega
def badL (l:List Ii):Nat:=l.findIdx (fun i=>!mayI i)
def chkI (l:List Ii):Int × Int:=if badL l < l.length then ((badL l:Int),2) else (0,0)
theorem bad_all {l:List Ii} (h:¬ badL l < l.length):∀ x ∈ l,mayI x=true:=by
  intro x hx
  have h2:l.findIdx (fun i=>!mayI i)=l.length:=Nat.le_antisymm List.findIdx_le_length (by unfold badL at h;omega)
  have:=(List.findIdx_eq_length).1 h2 x hx
  simpa using this
theorem check_n (a:Option Addr) (len cap:Nat) (l:List Ii) (W:World) (hT:Tb W) (hL:Irs W a len cap l):Calls Tryz.prog 11 #[.slice a len cap] W fun e w'=>e=.returned (.tuple #[.int .i64 (chkI l).1,.int .i64 (chkI l).2]) ∧ Below W.heap.size W w':=by
  have HT:=Lib.hid hT
  have HL:=Lib.hid hL
  have e1:=hL.le
  have e2:=hL.fit
  clear hT hL
  go_enter Tryz.func11,Tryz.ntmps11
  go_wp2_with fail
  go_loopw [8] (fun i wr=>∃ k:Nat,k ≤ len ∧ i=.int .i64 k ∧ Hid (Below W.heap.size W wr ∧ k ≤ badL l)) (fun i _=>len - (intOf i).toNat)
  case atStart=>exact ⟨0,by omega,rfl,Lib.hid ⟨Below.refl _ _,Nat.zero_le _⟩⟩
  case round=>
    obtain ⟨k,hk,rfl,HR⟩:=hrel
    have HB:=Lib.hid HR.out.1
    have HF:=Lib.hid HR.out.2
    clear HR
    by_cases hlt:k < len
    · skip
      obtain ⟨B1,o1,rfl,hr⟩:=HL.out.here (by omega)
      obtain ⟨x,hx⟩:∃ x,l[k]?=some x:=⟨_,List.getElem?_eq_getElem (by rw [HL.out.size];exact hlt)⟩
      have RG:=Lib.hid (range_below (hr k x hx) HB.out (Nat.le_refl _))
      have OK:=Lib.hid (HL.out.ok x (List.mem_of_getElem? hx))
      have HX:=Lib.hid hx
      clear hr hx
      go_wp2_with (with_reducible refine (halt_load 40 _ rfl ?_))
      refine ⟨?_,trivial⟩
      refine wpList_load_mid rfl 40 _ rfl B1 (o1 + k * 13) rfl _ _ RG.out Tryz.underlying40 rfl (by kernel_rfl) ?_
      go_wp2_with (with_reducible refine (halt_store 40 _ _ rfl ?_))
      refine ⟨?_,trivial⟩
      refine wpList_store_is rfl 40 _ _ rfl _ _ rfl rfl _ _ (heap_last _ _ _ rfl) (by kernel_rfl) rfl (by kernel_rfl) ?_
      intro w2 S2
      have B2:=Lib.hid (S2.below (below_new (Below.refl wr.heap.size wr) _) (Nat.le_refl _))
      have X2:=Lib.hid S2.row
      clear S2
      go_wp2_with (with_reducible refine (halt_load 40 _ rfl ?_))
      refine ⟨?_,trivial⟩
      refine wpList_load_row rfl 40 _ rfl _ rfl _ _ _ _ X2.out Tryz.underlying40 rfl (by kernel_rfl) ?_
      go_wp2_with fail
      refine (imay_n x _ (HT.out.below (below_call HB.out B2.out) (Nat.le_refl _)) OK.out).mono ?_
      rintro e w3 ⟨rfl,b3⟩
      have B3:=Lib.hid (below_call HB.out (below_call B2.out b3))
      clear b3
      cases hm:mayI x
      · have HE:=Lib.hid (fi_here HF.out HX.out (by show (!mayI x)=true;rw [hm];rfl))
        have HC:=Lib.hid (show chkI l=((k:Int),2) from by
          have e:badL l=k:=HE.out
          unfold chkI
          rw [if_pos (by rw [e,HL.out.size];exact hlt),e])
        go_wp2_with fail
        go_ret2
        exact ⟨retV (by rw [HC.out];rfl),B3.out⟩
      · have HE:=Lib.hid (fi_next HF.out HX.out (by show (!mayI x)=false;rw [hm];rfl))
        go_wp2_with fail
        go_roundw
        case rel=>exact ⟨k + 1,by omega,by go_num,Lib.hid ⟨B3.out,HE.out⟩⟩
        case measure=>simp [intOf];omega
    · obtain rfl:k=len:=by omega
      have HC:=Lib.hid (show chkI l=(0,0) from if_neg (by have:=HF.out;have:=HL.out.size;omega))
      go_wp2_with fail
      go_ret2
      exact ⟨retV (by rw [HC.out];rfl),HB.out⟩
def regN (kk:Int):List Ii → Nat
  | []=>0
  | i :: l=>(if i.k=kk ∧ srcB i.r=true then 2 ^ i.r.toNat else 0) ||| regN kk l
theorem src_lt {r:Int} (h:srcB r=true):0 ≤ r ∧ r.toNat < 11:=by
  unfold srcB at h
  simp only [Bool.and_eq_true,decide_eq_true_eq] at h
  omega
theorem pow_lt {r:Int} (h:srcB r=true):2 ^ r.toNat < 2048:=by
  have:=(src_lt h).2
  exact Nat.lt_of_le_of_lt (Nat.pow_le_pow_right (by omega) (show r.toNat ≤ 10 by omega)) (by decide)
theorem regN_lt (kk:Int):∀ l,regN kk l < 2048
  | []=>by show 0 < 2048;omega
  | i :: l=>by
    refine Nat.or_lt_two_pow (n:=11) ?_ (regN_lt kk l)
    split
    · rename_i h
      exact pow_lt h.2
    · omega
theorem regN_snoc (kk:Int) (i:Ii):∀ l,regN kk (l ++ [i])=regN kk l ||| (if i.k=kk ∧ srcB i.r=true then 2 ^ i.r.toNat else 0)
  | []=>by simp [regN]
  | j :: l=>by
    show _ ||| regN kk (l ++ [i])=_
    rw [regN_snoc kk i l,← Nat.or_assoc]
    rfl
theorem regN_bit (kk:Int) (j:Nat):∀ l,(regN kk l).testBit j=l.any (fun i=>i.k == kk && (srcB i.r && i.r.toNat == j))
  | []=>by simp [regN]
  | i :: l=>by
    show (_ ||| regN kk l).testBit j=_
    rw [Nat.testBit_or,regN_bit kk j l,List.any_cons]
    congr 1
    split
    · rename_i h
      rw [Nat.testBit_two_pow,h.2]
      simp only [h.1,BEq.rfl,Bool.true_and]
      rfl
    · rename_i h
      rw [Nat.zero_testBit]
      symm
      rw [Bool.and_eq_false_iff,beq_eq_false_iff_ne]
      by_cases c:i.k=kk
      · right
        cases hs:srcB i.r
        · rfl
        · exact absurd ⟨c,hs⟩ h
      · exact .inl c
theorem or_nat {a b:Nat} (ha:a < 2048) (hb:b < 2048):bits .or .i64 (a:Int) (b:Int)=((a ||| b:Nat):Int):=by
  have h:a ||| b < 2048:=Nat.or_lt_two_pow (n:=11) ha hb
  show IntKind.i64.wrap ((BitVec.ofInt 64 (a:Int) ||| BitVec.ofInt 64 (b:Int)).toNat:Int)=_
  have e:∀ n:Nat,n < 2048 → (BitVec.ofInt 64 (n:Int)).toNat=n:=fun n hn=>by
    rw [BitVec.ofInt_natCast,BitVec.toNat_ofNat]
    exact Nat.mod_eq_of_lt (by omega)
  rw [BitVec.toNat_or,e a ha,e b hb,IntKind.wrap_i64]
  omega
theorem pow_cast (n:Nat):((2 ^ n:Nat):Int)=(2:Int) ^ n:=by simp
theorem registers_n (a:Option Addr) (len cap:Nat) (l:List Ii) (kk:Int) (W:World) (hL:Irs W a len cap l):Calls Tryz.prog 35 #[.slice a len cap,.int .i8 kk] W fun e w'=>e=.returned (.int .i64 (regN kk l:Nat)) ∧ Below W.heap.size W w':=by
  have HL:=Lib.hid hL
  have e1:=hL.le
  have e2:=hL.fit
  clear hL
  go_enter Tryz.func35,Tryz.ntmps35
  go_wp2_with fail
  go_loopw [5,10] (fun m i wr=>∃ k:Nat,k ≤ len ∧ i=.int .i64 k ∧ m=.int .i64 (regN kk (l.take k):Nat) ∧ Hid (Below W.heap.size W wr)) (fun _ i _=>len - (intOf i).toNat)
  case atStart=>exact ⟨0,by omega,rfl,rfl,Lib.hid (Below.refl _ _)⟩
  case round=>
    obtain ⟨k,hk,rfl,rfl,HB⟩:=hrel
    by_cases hlt:k < len
    · have HQ:=Lib.hid (regN_lt kk (l.take k))
      obtain ⟨B1,o1,rfl,hr⟩:=HL.out.here (by omega)
      obtain ⟨x,hx⟩:∃ x,l[k]?=some x:=⟨_,List.getElem?_eq_getElem (by rw [HL.out.size];exact hlt)⟩
      have RG:=Lib.hid (range_below (hr k x hx) HB.out (Nat.le_refl _))
      have OK:=Lib.hid (HL.out.ok x (List.mem_of_getElem? hx))
      have HX:=Lib.hid hx
      clear hr hx
      have HN:=Lib.hid (show regN kk (l.take (k + 1))=regN kk (l.take k) ||| (if x.k=kk ∧ srcB x.r=true then 2 ^ x.r.toNat else 0) by
        rw [List.take_add_one,HX.out]
        exact regN_snoc kk x _)
      generalize regN kk (l.take k)=q at *
      go_wp2_with (with_reducible refine (halt_load 40 _ rfl ?_))
      refine ⟨?_,trivial⟩
      refine wpList_load_mid rfl 40 _ rfl B1 (o1 + k * 13) rfl _ _ RG.out Tryz.underlying40 rfl (by kernel_rfl) ?_
      go_wp2_with (with_reducible refine (halt_store 40 _ _ rfl ?_))
      refine ⟨?_,trivial⟩
      refine wpList_store_is rfl 40 _ _ rfl _ _ rfl rfl _ _ (heap_last _ _ _ rfl) (by kernel_rfl) rfl (by kernel_rfl) ?_
      intro w2 S2
      have B2:=Lib.hid (S2.below (below_new (Below.refl wr.heap.size wr) _) (Nat.le_refl _))
      have X2:=Lib.hid S2.row
      clear S2
      have c0:=row_cell X2.out 0 _ rfl
      have c9:=row_cell X2.out 9 _ rfl
      cases hk:(x.k == kk)
      · have HE:=Lib.hid (show regN kk (l.take (k + 1))=q by
          rw [HN.out,if_neg (by rw [beq_eq_false_iff_ne] at hk;exact fun h=>hk h.1),Nat.or_zero])
        go_wp2_with fail
        go_roundw
        case rel=>exact ⟨k + 1,by omega,by go_num,by rw [HE.out],Lib.hid (below_call HB.out B2.out)⟩
        case measure=>simp [intOf];omega
      · cases hs:srcB x.r
        · have HE:=Lib.hid (show regN kk (l.take (k + 1))=q by
            rw [HN.out,if_neg (by rw [hs];exact fun h=>by cases h.2),Nat.or_zero])
          have SR:=Lib.hid (fun w=>source_n x.r w)
          rw [hs] at SR
          go_wp2_with fail
          refine (SR.out _).mono ?_
          rintro e w3 ⟨rfl,b3⟩
          have B3:=Lib.hid (below_call HB.out (below_call B2.out b3))
          clear b3
          go_wp2_with fail
          go_roundw
          case rel=>exact ⟨k + 1,by omega,by go_num,by rw [HE.out],Lib.hid B3.out⟩
          case measure=>simp [intOf];omega
        · have HE:=Lib.hid (show bits .or .i64 (q:Int) (2 ^ x.r.toNat)=((regN kk (l.take (k + 1)):Nat):Int) by
            rw [HN.out,if_pos ⟨by simpa using hk,hs⟩,← pow_cast,or_nat HQ.out (pow_lt hs)])
          have SR:=Lib.hid (fun w=>source_n x.r w)
          rw [hs] at SR
          have ON:=Lib.hid (fun w=>only_n x.r w hs)
          go_wp2_with fail
          refine (SR.out _).mono ?_
          rintro e w3 ⟨rfl,b3⟩
          have B3:=Lib.hid (below_call HB.out (below_call B2.out b3))
          have c9:=row_cell (row_heap X2.out b3) 9 _ rfl
          clear b3
          go_wp2_with fail
          refine (ON.out _).mono ?_
          rintro e w4 ⟨rfl,rfl⟩
          have HE2:=HE.out
          go_wp2_with fail
          go_roundw
          case rel=>exact ⟨k + 1,by omega,by go_num,rfl,Lib.hid B3.out⟩
          case measure=>simp [intOf];omega
    · obtain rfl:k=len:=by omega
      have HE:=Lib.hid (show l.take k=l from List.take_of_length_le (by rw [HL.out.size];exact Nat.le_refl _))
      go_wp2_with fail
      go_ret
      exact ⟨retV (by rw [HE.out];rfl),HB.out⟩
theorem takes_n (a:Option Addr) (len cap:Nat) (l:List Ii) (W:World) (hL:Irs W a len cap l):Calls Tryz.prog 17 #[.slice a len cap] W fun e w'=>e=.returned (.int .i64 (regN 1 l:Nat)) ∧ Below W.heap.size W w':=by
  have R:=Lib.hid (registers_n a len cap l 1 W hL)
  clear hL
  go_enter Tryz.func17,Tryz.ntmps17
  go_wp2_with fail
  refine R.out.mono ?_
  rintro e w1 ⟨rfl,b1⟩
  go_wp2_with fail
  go_ret
  exact ⟨rfl,b1⟩
theorem gives_n (a:Option Addr) (len cap:Nat) (l:List Ii) (W:World) (hL:Irs W a len cap l):Calls Tryz.prog 19 #[.slice a len cap] W fun e w'=>e=.returned (.int .i64 (regN 2 l:Nat)) ∧ Below W.heap.size W w':=by
  have R:=Lib.hid (registers_n a len cap l 2 W hL)
  clear hL
  go_enter Tryz.func19,Tryz.ntmps19
  go_wp2_with fail
  refine R.out.mono ?_
  rintro e w1 ⟨rfl,b1⟩
  go_wp2_with fail
  go_ret
  exact ⟨rfl,b1⟩
open Go Go.RowKit Go.ChangeShapes Go.WideShapes Go.Deep
open Mrm (Xi xC xL zX XOk xi_cells bdo_i8 bdo_i64)
open Exe (U64 arr_cells word_cell)
theorem gScratch:Tryz.prog.globalNamed "lathe/ir.scratch" = some 0:=by kernel_rfl
theorem tScratch:(Tryz.prog.globals[(0:Nat)]?).map (·.type)=some 94:=by kernel_rfl
theorem cScratch:Tryz.prog.cellsOf 94=4:=by kernel_rfl
theorem cI8:Tryz.prog.cellsOf 36=1:=by kernel_rfl
section
variable {H:Type} {enc:TypeId × Value → H} {w:World} {base:Nat} {held:Bool}
theorem scratch_cells {n:Nat} {cs:List Value} {x:DataW H × List MemPlace} {spare:Nat → Bool} (h:DataW.trod enc Tryz.prog w base spare held n 94 cs=some x) (hx:x.1=Rows.laid_lathe_ir_scratch):cs=[.int .i8 0,.int .i8 1,.int .i8 2,.int .i8 11]:=by
  obtain ⟨xs,n',_,hxs,hlen,hxl,hf⟩:=DataW.trod_array Tryz.underlying94 h
  have hl:cs.length=4:=hlen.trans cScratch
  have hn:xs.length=4:=hxl
  rw [hxs] at hx
  match cs,hl,xs,hn with
  | [c0,c1,c2,c3],_,[x0,x1,x2,x3],_=>
    have f0:=hf 0 (by decide)
    have f1:=hf 1 (by decide)
    have f2:=hf 2 (by decide)
    have f3:=hf 3 (by decide)
    rw [cI8] at f0 f1 f2 f3
    obtain ⟨v0,e0,g0,_⟩:=DataW.trod_int Tryz.underlying36 f0
    obtain ⟨v1,e1,g1,_⟩:=DataW.trod_int Tryz.underlying36 f1
    obtain ⟨v2,e2,g2,_⟩:=DataW.trod_int Tryz.underlying36 f2
    obtain ⟨v3,e3,g3,_⟩:=DataW.trod_int Tryz.underlying36 f3
    simp at e0 e1 e2 e3
    subst e0 e1 e2 e3
    change DataW.agg [x0.1,x1.1,x2.1,x3.1]=.agg [.lit (.int .i8 0),.lit (.int .i8 1),.lit (.int .i8 2),.lit (.int .i8 11)] at hx
    simp only [DataW.agg.injEq,List.cons.injEq,and_true] at hx
    obtain ⟨h0,h1,h2,h3⟩:=hx
    rw [g0] at h0;rw [g1] at h1;rw [g2] at h2;rw [g3] at h3
    simp only [DataW.lit.injEq,Lit.int.injEq,true_and] at h0 h1 h2 h3
    rw [h0,h1,h2,h3]
theorem scratch_row {W:World} {rest:List (String × DataW Unit)} (h:laidMet Tryz.prog (("lathe/ir.scratch", Rows.laid_lathe_ir_scratch) :: rest) W):∃ T fr,W.heap[(0:Nat)]?=some (.cells #[.int .i8 0,.int .i8 1,.int .i8 2,.int .i8 11] T fr):=by
  obtain ⟨ps,⟨g',t',cs,fuel,p,q,hg',ht',hvar,hd,_,_⟩,_⟩:=h
  obtain rfl:=Option.some.inj (gScratch.symm.trans hg')
  obtain rfl:=Option.some.inj (tScratch.symm.trans ht')
  have:=scratch_cells hd rfl
  obtain ⟨T,fr,e⟩:=Mrm.var_row gScratch hvar
  refine ⟨T,fr,?_⟩
  rw [e]
  have:cs=#[.int .i8 0,.int .i8 1,.int .i8 2,.int .i8 11]:=Array.ext' this
  rw [this]
theorem tb_of {W:World} (h:laidMetH Tryz.prog [("lathe/encode.codes", Rows.laid_lathe_encode_codes),("lathe/encode.others", Rows.laid_lathe_encode_others),("lathe/ir.scratch", Rows.laid_lathe_ir_scratch)] W):Tb W:=by
  rw [MakeChecks.laidMetH_plain _ _ _ (by kernel_rfl)] at h
  exact ⟨⟨Mrm.codes_row h,Mrm.others_row (laidMet.tail h)⟩,scratch_row (laidMet.tail (laidMet.tail h))⟩
theorem ii_cells {n:Nat} {cs:List Value} {x:DataW H × List MemPlace} {spare:Nat → Bool} (h:DataW.trod enc Tryz.prog w base spare held n 40 cs=some x):∃ y:Ii,cs=iL y ∧ IOk y:=by
  obtain ⟨xs,n',_,hx,hlen,hxl,hf⟩:=DataW.trod_struct Tryz.underlying40 h
  have hl:cs.length=13:=hlen.trans (by kernel_rfl)
  have hxn:xs.length=6:=hxl
  have k1:Tryz.prog.cellsOf 36=1:=by kernel_rfl
  have k2:Tryz.prog.cellsOf 3=1:=by kernel_rfl
  have k8:Tryz.prog.cellsOf 38=8:=by kernel_rfl
  have f0:=hf 0 _ rfl
  have f1:=hf 1 _ rfl
  have f2:=hf 2 _ rfl
  have f3:=hf 3 _ rfl
  have f4:=hf 4 _ rfl
  have f5:=hf 5 _ rfl
  change DataW.trod enc Tryz.prog w base spare held n' 36 ((cs.drop 0).take (Tryz.prog.cellsOf 36))=_ at f0
  change DataW.trod enc Tryz.prog w base spare held n' 38 ((cs.drop 1).take (Tryz.prog.cellsOf 38))=_ at f1
  change DataW.trod enc Tryz.prog w base spare held n' 36 ((cs.drop 9).take (Tryz.prog.cellsOf 36))=_ at f2
  change DataW.trod enc Tryz.prog w base spare held n' 36 ((cs.drop 10).take (Tryz.prog.cellsOf 36))=_ at f3
  change DataW.trod enc Tryz.prog w base spare held n' 3 ((cs.drop 11).take (Tryz.prog.cellsOf 3))=_ at f4
  change DataW.trod enc Tryz.prog w base spare held n' 3 ((cs.drop 12).take (Tryz.prog.cellsOf 3))=_ at f5
  rw [k1,List.getElem?_eq_getElem (by omega)] at f0 f2 f3
  rw [k8,List.getElem?_eq_getElem (by omega)] at f1
  rw [k2,List.getElem?_eq_getElem (by omega)] at f4 f5
  obtain ⟨v0,e0,_,w0⟩:=DataW.trod_int Tryz.underlying36 f0
  obtain ⟨x1,e1,w1⟩:=xi_cells f1
  obtain ⟨v2,e2,_,w2⟩:=DataW.trod_int Tryz.underlying36 f2
  obtain ⟨v3,e3,_,w3⟩:=DataW.trod_int Tryz.underlying36 f3
  obtain ⟨v4,e4,_,w4⟩:=DataW.trod_int Tryz.underlying3 f4
  obtain ⟨v5,e5,_,w5⟩:=DataW.trod_int Tryz.underlying3 f5
  refine ⟨⟨v0,x1,v2,v3,v4,v5⟩,?_,bdo_i8 w0,w1,bdo_i8 w2,bdo_i8 w3,bdo_i64 w4,bdo_i64 w5⟩
  match cs,hl with
  | [c0,c1,c2,c3,c4,c5,c6,c7,c8,c9,c10,c11,c12],_=>
    simp at e0 e1 e2 e3 e4 e5
    obtain ⟨q1,q2,q3,q4,q5,q6,q7,q8⟩:=e1
    rw [e0,q1,q2,q3,q4,q5,q6,q7,q8,e2,e3,e4,e5]
theorem irs_arg {r:Reach} {b0:Nat} {v:Value} {d:DataW H} {p:List MemPlace} (hv:Value.okWide Tryz.prog w r b0 22 v) (h:DataW.Trod enc Tryz.prog w base (fun _=>true) held 22 v d p):∃ (a:Option Addr) (len cap:Nat) (l:List Ii),v=.slice a len cap ∧ Irs w a len cap l:=by
  obtain ⟨a',len',cap',rfl⟩:=okWide_slice Tryz.underlying22 hv
  obtain ⟨fuel,hf⟩:=h
  rcases open_slice Tryz.underlying22 hf with ⟨hcs,_⟩ | ⟨a,len,cap,m,n,D,Pl,hcs,_,hl,hm,hmm,_,hi⟩
  · simp [Value.cells] at hcs
    obtain ⟨rfl,rfl,rfl⟩:=hcs
    exact ⟨none,0,0,[],rfl,Nat.le_refl _,by omega,rfl,fun h=>absurd h (by omega),(fun x hx=>by cases hx),fun _=>rfl⟩
  · simp [Value.cells] at hcs
    obtain ⟨rfl,rfl,rfl⟩:=hcs
    have hm':len' ≤ m:=by rw [hmm];split <;> omega
    have k13:Tryz.prog.cellsOf 40=13:=by kernel_rfl
    have spotless:0 < len' → a.spot=none:=fun h0=>by
      obtain ⟨cs',hc,ht'⟩:=hi 0 (by omega)
      rw [k13] at hc
      obtain ⟨_,hcl,hat⟩:=World.cells?_some hc
      obtain ⟨y,rfl,_⟩:=ii_cells ht'
      obtain ⟨b,off,spot⟩:=a
      have c0:=hat 0 (by omega)
      simpa [Addr.add] using World.cell?_spot c0
    have key:∀ i,∃ y:Ii,i < len' → w.rangeAt a.block (a.off + i * 13) (iL y) ∧ IOk y:=by
      intro i
      by_cases hlt:i < len'
      · obtain ⟨cs',hc,ht'⟩:=hi i (by omega)
        rw [k13] at hc
        obtain ⟨_,hcl,hat⟩:=World.cells?_some hc
        obtain ⟨y,rfl,ok⟩:=ii_cells ht'
        have hs:=spotless (by omega)
        obtain ⟨b,off,spot⟩:=a
        simp only at hs
        subst hs
        refine ⟨y,fun _=>⟨fun j u hu=>?_,ok⟩⟩
        have hj:j < 13:=(List.getElem?_eq_some_iff.1 hu).1
        have:=hat j hj
        rw [Addr.add_mid,Addr.add_mid] at this
        exact this.trans hu
      · exact ⟨zI,fun h=>absurd h hlt⟩
    refine ⟨some a,len',cap',(List.range len').map (fun i=>(key i).choose),rfl,hl,by unfold maxLen at hm;omega,by simp,fun h0=>?_,fun x hx=>?_,fun h=>(Option.some_ne_none _ h).elim⟩
    · have hs:=spotless h0
      refine ⟨a.block,a.off,?_,fun i x hx=>?_⟩
      · obtain ⟨b,off,spot⟩:=a
        simp at hs
        rw [hs]
      · rw [List.getElem?_map] at hx
        have hlt:i < len':=by
          by_cases c:i < len'
          · exact c
          · rw [List.getElem?_eq_none (by rw [List.length_range];omega)] at hx
            cases hx
        rw [List.getElem?_range hlt] at hx
        cases hx
        exact ((key i).choose_spec hlt).1
    · obtain ⟨i,hi,rfl⟩:=List.mem_map.1 hx
      exact ((key i).choose_spec (List.mem_range.1 hi)).2
theorem regs_arg {r:Reach} {b0:Nat} {v:Value} {d:DataW H} {p:List MemPlace} {spare:Nat → Bool} (hv:Value.okWide Tryz.prog w r b0 24 v) (h:DataW.Trod enc Tryz.prog w base spare held 24 v d p):∃ g:Nat → Int,v=.agg (rgC g) ∧ GOk g:=by
  obtain ⟨cs,rfl,hsz⟩:∃ cs,v=.agg cs ∧ cs.size=Tryz.prog.cellsOf 24:=by
    simp only [Value.okWide,Tryz.underlying24] at hv
    obtain ⟨cs,h1,h2,_⟩:=hv
    exact ⟨cs,h1,h2⟩
  obtain ⟨fuel,hf⟩:=h
  obtain ⟨S,_,e⟩:=arr_cells (fun y:{ v:Int // U64 v }=>[Value.int .u64 y.1]) (fun _=>True) (k:=11) (m:=1) Tryz.underlying24 (by kernel_rfl) (by kernel_rfl) (fun h=>word_cell h) hf
  refine ⟨fun j=>(S j).1,congrArg Value.agg (Array.ext' ?_),fun j=>(S j).2⟩
  have e':cs.toList=(List.range 11).flatMap (fun i=>[Value.int .u64 (S i).1]):=by simpa [Value.cells] using e
  rw [e']
  rfl
end
theorem faIrE40_3_0 (g:Nat) (w:World):(Instr.fieldAt 40 (.pointer (some ⟨g,0,none⟩)) 3).run Tryz.prog w=.ok (.pointer (some ⟨g,10,none⟩)) w:=by simp [go_sem]
theorem faIrE40_2_0 (g:Nat) (w:World):(Instr.fieldAt 40 (.pointer (some ⟨g,0,none⟩)) 2).run Tryz.prog w=.ok (.pointer (some ⟨g,9,none⟩)) w:=by simp [go_sem]
theorem faIrE30_0_0 (g:Nat) (w:World):(Instr.fieldAt 30 (.pointer (some ⟨g,0,none⟩)) 0).run Tryz.prog w=.ok (.pointer (some ⟨g,0,none⟩)) w:=by simp [go_sem]
theorem rgC_size (g:Nat → Int):(rgC g).size=11:=rfl
theorem rgC_one (g:Nat → Int):(rgC g).all (·.oneCell')=true:=by kernel_rfl
section
variable {ρ:Operand → Value} {o:Oper} {w:World} {x y:Operand} {b:Nat} {fr:Nat × Nat} {T t u:TypeId}
theorem ldRgE {g:Nat → Int} {j:Nat} (hj:j < 11) (ho:o.op=.load 23 x) (hx:ρ x=.pointer (some ⟨b,j,none⟩)) (hg:w.heap[b]?=some (.cells (rgC g) T fr)):(execOp ρ o).run Tryz.prog w=.ok (.value (.int .u64 (g j))) w:=
  ex_ld ho hx hg (rgC_reg g hj) Tryz.isAgg23
theorem ldRgW {g:Nat → Int} (ho:o.op=.load 24 x) (hx:ρ x=.pointer (some ⟨b,0,none⟩)) (hg:w.heap[b]?=some (.cells (rgC g) T fr)):(execOp ρ o).run Tryz.prog w=.ok (.value (.agg (rgC g))) w:=
  exec_loadR 24 x ho b 0 hx hg (rgL g) rfl _ Tryz.underlying24 rfl (by kernel_rfl)
theorem res_ {fn:Func} {tmps:Array Value} {P:Program} (h:fn.results=#[]):(results fn tmps).run P w=.ok (.tuple #[]) w:=results_none h tmps P w
end
theorem take_c (i:Ii) (gr gm:Nat) (g:Nat → Int) (m:Mc) (W:World) (hr:W.heap[gm]?=some (.cells (mcC m) 30 (0,0))) (hr2:W.heap[gr]?=some (.cells (rgC g) 24 (0,0))) (hne:gm ≠ gr) (hx:0 ≤ i.r ∧ i.r < 11) (hp:0 ≤ i.p ∧ i.p < 16):Calls Tryz.prog 41 #[.agg (iC i),.pointer (some ⟨gr,0,none⟩),.pointer (some ⟨gm,0,none⟩)] W (RetT (.tuple #[]) (mcC (m.setR i.p.toNat (g i.r.toNat))) 30 gm W):=by
  refine calls_abs Tryz.func41 rfl (Nat.le_of_ble_eq_true rfl) ?_
  intro a0 d0 z0 h0
  replace z0:a0.tmps.size=12:=z0
  have s0_0:a0.tmps.getD 0 undef=.agg (iC i):=h0 0 (Nat.le_of_ble_eq_true rfl)
  have s1_0:a0.tmps.getD 1 undef=.pointer (some ⟨gr,0,none⟩):=h0 1 (Nat.le_of_ble_eq_true rfl)
  have s2_0:a0.tmps.getD 2 undef=.pointer (some ⟨gm,0,none⟩):=h0 2 (Nat.le_of_ble_eq_true rfl)
  have hB0:=cutW_below W gm
  have hV:=cutW_size hr
  have bt0:=But.refl gm W
  refine wp_seq ?_
  refine go_reg [] [⟨0,3,40,(iC i),none,#[]⟩] [none] mo d0 z0 hB0 (by kernel_rfl) trivial (
   hk (fun cx=>cx.al (wn rfl) 0 rfl (ex_box rfl (cx.rq 0 s0_0) rfl) rfl rfl rfl rfl rfl trivial) <|
   hn) ?_
  intro a1 w1 f1
  obtain ⟨g1,u_g1,q_g1,b_g1⟩:=f1.al.1
  have bt1:=But.step f1 bt0 hB0 trivial
  have b_gr_1:=f1.k hr2
  have b_gm_2:=f1.k hr
  have s1_3:=f1.q 1 s1_0
  have s2_4:=f1.q 2 s2_0
  refine go_reg [bx g1 40 (iC i),bx gr 24 (rgC g),⟨gm,30,(mcC m),some 8,(mcC (m.setR i.p.toNat (g i.r.toNat)))⟩] [] [some (pt g1 10),some (.int .i8 i.p),some (pt g1 9),some (.int .i8 i.r),some (pt gr (i.r.toNat)),some (.int .u64 (g i.r.toNat)),some (pt gm 0),some (pt gm (i.p.toNat)),none] mo f1.d f1.z f1.b (by kernel_rfl) ⟨b_g1,b_gr_1,b_gm_2,trivial⟩ (
   hk (fun cx=>cx.q (ex_fa rfl (cx.rq 3 u_g1) (faIrE40_3_0 _ _))) <|
   hk (fun cx=>cx.q (ex_ld rfl (cx.u 0 rfl) (cx.rn 0 rfl) rfl Tryz.isAgg36)) <|
   hk (fun cx=>cx.q (ex_fa rfl (cx.rq 3 u_g1) (faIrE40_2_0 _ _))) <|
   hk (fun cx=>cx.q (ex_ld rfl (cx.u 0 rfl) (cx.rn 0 rfl) rfl Tryz.isAgg36)) <|
   hk (fun cx=>cx.v (ex_ia (n:=11) (sz:=1) rfl (cx.rq 1 s1_3) (cx.u 0 rfl) Tryz.underlying24 (by kernel_rfl) (by omega) (by omega) (by omega)) rfl rfl) <|
   hk (fun cx=>cx.v (ldRgE (by omega) rfl (cx.u 0 rfl) (cx.rn 1 rfl)) rfl rfl) <|
   hk (fun cx=>cx.q (ex_fa rfl (cx.rq 2 s2_4) (faIrE30_0_0 _ _))) <|
   hk (fun cx=>cx.v (ex_ia (n:=16) (sz:=1) rfl (cx.u 0 rfl) (cx.u 1 rfl) Tryz.underlying26 (by kernel_rfl) (by omega) (by omega) (by omega)) rfl rfl) <|
   hk (fun cx=>cx.stC (wn rfl) rfl rfl 2 rfl (cx.u 0 rfl) (cx.u 1 rfl) rfl rfl (by kernel_rfl) (by rw [mcC_size];simp only [Nat.blt_eq];omega) (mcC_set _ (by omega) _) hV rfl ⟨(ne_row hr q_g1).symm,hne.symm,trivial⟩ trivial) <|
   hn) ?_
  intro a2 w2 f2
  have bt2:=But.step f2 bt1 f1.b ⟨.inl rfl,.inl rfl,.inr rfl,trivial⟩
  try simp only [Exit.inBlock,Exit.then]
  refine ⟨f2.d,_,(res_ (fn:=Tryz.f41) rfl ),?_⟩
  exact ⟨rfl,bt2,f2.rows.2.2.1⟩
theorem give_c (i:Ii) (gr gm:Nat) (g:Nat → Int) (m:Mc) (W:World) (hr:W.heap[gr]?=some (.cells (rgC g) 24 (0,0))) (hr2:W.heap[gm]?=some (.cells (mcC m) 30 (0,0))) (hne:gr ≠ gm) (hx:0 ≤ i.r ∧ i.r < 11) (hp:0 ≤ i.p ∧ i.p < 16):Calls Tryz.prog 42 #[.agg (iC i),.pointer (some ⟨gm,0,none⟩),.pointer (some ⟨gr,0,none⟩)] W (RetT (.tuple #[]) (rgC (setG g i.r.toNat (m.r i.p.toNat))) 24 gr W):=by
  refine calls_abs Tryz.func42 rfl (Nat.le_of_ble_eq_true rfl) ?_
  intro a0 d0 z0 h0
  replace z0:a0.tmps.size=12:=z0
  have s0_0:a0.tmps.getD 0 undef=.agg (iC i):=h0 0 (Nat.le_of_ble_eq_true rfl)
  have s1_0:a0.tmps.getD 1 undef=.pointer (some ⟨gm,0,none⟩):=h0 1 (Nat.le_of_ble_eq_true rfl)
  have s2_0:a0.tmps.getD 2 undef=.pointer (some ⟨gr,0,none⟩):=h0 2 (Nat.le_of_ble_eq_true rfl)
  have hB0:=cutW_below W gr
  have hV:=cutW_size hr
  have bt0:=But.refl gr W
  refine wp_seq ?_
  refine go_reg [] [⟨0,3,40,(iC i),none,#[]⟩] [none] mo d0 z0 hB0 (by kernel_rfl) trivial (
   hk (fun cx=>cx.al (wn rfl) 0 rfl (ex_box rfl (cx.rq 0 s0_0) rfl) rfl rfl rfl rfl rfl trivial) <|
   hn) ?_
  intro a1 w1 f1
  obtain ⟨g1,u_g1,q_g1,b_g1⟩:=f1.al.1
  have bt1:=But.step f1 bt0 hB0 trivial
  have b_gm_1:=f1.k hr2
  have b_gr_2:=f1.k hr
  have s1_3:=f1.q 1 s1_0
  have s2_4:=f1.q 2 s2_0
  refine go_reg [bx g1 40 (iC i),bx gm 30 (mcC m),⟨gr,24,(rgC g),some 8,(rgC (setG g i.r.toNat (m.r i.p.toNat)))⟩] [] [some (pt g1 9),some (.int .i8 i.r),some (pt g1 10),some (.int .i8 i.p),some (pt gm 0),some (pt gm (i.p.toNat)),some (.int .u64 (m.r i.p.toNat)),some (pt gr (i.r.toNat)),none] mo f1.d f1.z f1.b (by kernel_rfl) ⟨b_g1,b_gm_1,b_gr_2,trivial⟩ (
   hk (fun cx=>cx.q (ex_fa rfl (cx.rq 3 u_g1) (faIrE40_2_0 _ _))) <|
   hk (fun cx=>cx.q (ex_ld rfl (cx.u 0 rfl) (cx.rn 0 rfl) rfl Tryz.isAgg36)) <|
   hk (fun cx=>cx.q (ex_fa rfl (cx.rq 3 u_g1) (faIrE40_3_0 _ _))) <|
   hk (fun cx=>cx.q (ex_ld rfl (cx.u 0 rfl) (cx.rn 0 rfl) rfl Tryz.isAgg36)) <|
   hk (fun cx=>cx.q (ex_fa rfl (cx.rq 1 s1_3) (faIrE30_0_0 _ _))) <|
   hk (fun cx=>cx.v (ex_ia (n:=16) (sz:=1) rfl (cx.u 0 rfl) (cx.u 1 rfl) Tryz.underlying26 (by kernel_rfl) (by omega) (by omega) (by omega)) rfl rfl) <|
   hk (fun cx=>cx.v (ldMcR (by omega) rfl (cx.u 0 rfl) (cx.rn 1 rfl)) rfl rfl) <|
   hk (fun cx=>cx.v (ex_ia (n:=11) (sz:=1) rfl (cx.rq 2 s2_4) (cx.u 0 rfl) Tryz.underlying24 (by kernel_rfl) (by omega) (by omega) (by omega)) rfl rfl) <|
   hk (fun cx=>cx.stC (wn rfl) rfl rfl 2 rfl (cx.u 0 rfl) (cx.u 1 rfl) rfl rfl (by kernel_rfl) (by rw [rgC_size];simp only [Nat.blt_eq];omega) (rgC_set _ (by omega) _) hV rfl ⟨(ne_row hr q_g1).symm,hne.symm,trivial⟩ trivial) <|
   hn) ?_
  intro a2 w2 f2
  have bt2:=But.step f2 bt1 f1.b ⟨.inl rfl,.inl rfl,.inr rfl,trivial⟩
  try simp only [Exit.inBlock,Exit.then]
  refine ⟨f2.d,_,(res_ (fn:=Tryz.f42) rfl ),?_⟩
  exact ⟨rfl,bt2,f2.rows.2.2.1⟩
end Go.Proofs.YtbpehbeakhocnaaGreatDoor.Irn
