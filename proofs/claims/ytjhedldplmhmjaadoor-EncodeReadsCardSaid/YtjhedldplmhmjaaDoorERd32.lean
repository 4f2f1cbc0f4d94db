import Derived.Test.YtjhedldplmhmjaaDoorERd31
import Derived.Test.YtjhedldplmhmjaaDoorERd05
import Derived.Test.YtjhedldplmhmjaaDoorERd03
import Derived.Deep.DeepCutAuto
import Derived.Deep.CutBlock
set_option linter.unusedVariables false
set_option linter.unusedSimpArgs false
set_option linter.unnecessarySimpa false
namespace Go.Proofs.YtjhedldplmhmjaaDoor.Mrm
open Go Go.RowKit
set_option linter.unusedVariables false
set_option linter.unusedSimpArgs false
set_option linter.unnecessarySimpa false
set_option maxRecDepth 100000
theorem hb_of {W:World} {a:Option Addr} {len c:Nat} {l:List Int} (h:BytesAt W a len c l):∀ ad,a=some ad → 0 < len → ad.block < W.heap.size:=fun ad e h0=>by
  obtain ⟨b,o,e1,hc⟩:=h.here h0
  obtain rfl:=Option.some.inj (e.symm.trans e1)
  have hz:=h.size
  exact lt_cell (hc 0 l[0] (List.getElem?_eq_getElem (by omega)))
theorem row_drew {w:World} {b:Nat} {r:Option Obj} (h:w.heap[b]?=r):w.drew.heap[b]?=r:=h
theorem codeR_w (l:List Int) (n:Int) (half:Bool) (x:Xi) (s:Rdr) (h:-128 ≤ x.w ∧ x.w < 128):-128 ≤ (codeR l n half x s).1.w ∧ (codeR l n half x s).1.w < 128:=by
  have hg:(grpR l n x s).1.w=x.w:=by
    unfold grpR
    dsimp only
    split
    · rfl
    · split <;> rfl
  have hr:(rngX l s x n).w=x.w ∨ (rngX l s x n).w=8:=by
    unfold rngX
    split
    · exact .inr rfl
    · split <;> exact .inl rfl
  have hb:(bhX l s x).w=x.w ∨ (bhX l s x).w=0 ∨ (bhX l s x).w=8 ∨ (bhX l s x).w=16:=by
    unfold bhX
    split
    · exact .inl rfl
    split
    · exact .inr (.inl rfl)
    split
    · exact .inl rfl
    split
    · exact .inl rfl
    split
    · exact .inr (.inr (.inl rfl))
    split
    · exact .inr (.inr (.inr rfl))
    · exact .inl rfl
  unfold codeR
  split
  · split
    · cases half
      · exact h
      · exact (show -128 ≤ (16:Int) ∧ (16:Int) < 128 by decide)
    · exact h
  split
  · exact h
  split
  · rw [hg];exact h
  split
  · exact h
  split
  · exact h
  split
  · exact (show -128 ≤ (8:Int) ∧ (8:Int) < 128 by decide)
  split
  · exact (show -128 ≤ (8:Int) ∧ (8:Int) < 128 by decide)
  split
  · exact h
  split
  · exact (show -128 ≤ (0:Int) ∧ (0:Int) < 128 by decide)
  split
  · dsimp only;omega
  · dsimp only;omega
theorem str_nd {zs ys:List Int} (h1:Oks zs) (h2:Oks ys) (h:¬ zs=ys):((strOfNums zs).toList == (strOfNums ys).toList)=false:=
  beq_eq_false_iff_ne.2 fun e=>h (str_inj h1 h2 (by
    rw [ByteArray.toList_eq,ByteArray.toList_eq] at e
    exact ByteArray.ext (Array.toList_inj.1 e)))
theorem n_cases (n:Int):n=137 ∨ n=1 ∨ n=9 ∨ n=33 ∨ n=41 ∨ n=49 ∨ n=57 ∨ n=133 ∨ n=129 ∨ n=193 ∨ n=211 ∨ n=247 ∨ n=199 ∨ n=139 ∨ n=136 ∨ n=235 ∨ n=233 ∨ n=195 ∨ n=15 ∨ (n ≠ 137 ∧ n ≠ 1 ∧ n ≠ 9 ∧ n ≠ 33 ∧ n ≠ 41 ∧ n ≠ 49 ∧ n ≠ 57 ∧ n ≠ 133 ∧ n ≠ 129 ∧ n ≠ 193 ∧ n ≠ 211 ∧ n ≠ 247 ∧ n ≠ 199 ∧ n ≠ 139 ∧ n ≠ 136 ∧ n ≠ 235 ∧ n ≠ 233 ∧ n ≠ 195 ∧ n ≠ 15):=by omega
theorem i8k_fin:∀ k:Fin 9,IntKind.i8.wrap ((k.1:Int) + 1)=((k.1 + 1:Nat):Int):=by decide +kernel
theorem codeR_else {l:List Int} {n:Int} {half:Bool} {x:Xi} {s:Rdr} (hn:n ≠ 137 ∧ n ≠ 1 ∧ n ≠ 9 ∧ n ≠ 33 ∧ n ≠ 41 ∧ n ≠ 49 ∧ n ≠ 57 ∧ n ≠ 133 ∧ n ≠ 129 ∧ n ≠ 193 ∧ n ≠ 211 ∧ n ≠ 247 ∧ n ≠ 199 ∧ n ≠ 139 ∧ n ≠ 136 ∧ n ≠ 235 ∧ n ≠ 233 ∧ n ≠ 195 ∧ n ≠ 15):codeR l n half x s=(rngX l s x n,rngS l s n):=by
  unfold codeR
  rw [if_neg (by omega),if_neg (by omega),if_neg (by omega),if_neg (by omega),if_neg (by omega),if_neg (by omega),if_neg (by omega),if_neg (by omega),if_neg (by omega),if_neg (by omega)]
theorem grp_no15_193 (k:Int) (h0:0 ≤ k) (h7:k < 8):(grpI 193 k == 15)=false:=by
  rcases (show k=0 ∨ k=1 ∨ k=2 ∨ k=3 ∨ k=4 ∨ k=5 ∨ k=6 ∨ k=7 by omega) with rfl | rfl | rfl | rfl | rfl | rfl | rfl | rfl <;> decide +kernel
theorem grp_no15_211 (k:Int) (h0:0 ≤ k) (h7:k < 8):(grpI 211 k == 15)=false:=by
  rcases (show k=0 ∨ k=1 ∨ k=2 ∨ k=3 ∨ k=4 ∨ k=5 ∨ k=6 ∨ k=7 by omega) with rfl | rfl | rfl | rfl | rfl | rfl | rfl | rfl <;> decide +kernel
section
variable {l:List Int} {half:Bool} {w op:Int} {s:Rdr}
theorem grpR_num129 (e:grpI 129 (byteV l s / 8 % 8)=op):codeR l 129 half ⟨-1,w,0,0,0,0,0,0⟩ s=(⟨op,w,byteV l s % 8 + 8 * s.m,0,0,0,sg32 (numA l (twoS l s) 4),0⟩,numS l (twoS l s) 4):=by subst e;rfl
theorem grpR_num247 (e:grpI 247 (byteV l s / 8 % 8)=op) (h:op=15):codeR l 247 half ⟨-1,w,0,0,0,0,0,0⟩ s=(⟨op,w,byteV l s % 8 + 8 * s.m,0,0,0,sg32 (numA l (twoS l s) 4),0⟩,numS l (twoS l s) 4):=by
  show grpR l 247 _ s=_
  unfold grpR
  simp only [e]
  rw [if_pos (.inr h)];rfl
theorem grpR_byte (e:grpI 193 (byteV l s / 8 % 8)=op) (h:¬ op=15):codeR l 193 half ⟨-1,w,0,0,0,0,0,0⟩ s=(⟨op,w,byteV l s % 8 + 8 * s.m,0,0,0,byteV l (twoS l s),0⟩,byteS l (twoS l s)):=by
  show grpR l 193 _ s=_
  unfold grpR
  simp only [e]
  rw [if_neg (by omega)]
  simp only [if_true]
  rfl
theorem grpR_none211 (e:grpI 211 (byteV l s / 8 % 8)=op) (h:¬ op=15):codeR l 211 half ⟨-1,w,0,0,0,0,0,0⟩ s=(⟨op,w,byteV l s % 8 + 8 * s.m,0,0,0,0,0⟩,twoS l s):=by
  show grpR l 211 _ s=_
  unfold grpR
  simp only [e]
  rw [if_neg (by omega),if_neg (by omega)];rfl
theorem grpR_none247 (e:grpI 247 (byteV l s / 8 % 8)=op) (h:¬ op=15):codeR l 247 half ⟨-1,w,0,0,0,0,0,0⟩ s=(⟨op,w,byteV l s % 8 + 8 * s.m,0,0,0,0,0⟩,twoS l s):=by
  show grpR l 247 _ s=_
  unfold grpR
  simp only [e]
  rw [if_neg (by omega),if_neg (by omega)];rfl
end
def rdW:Option (Xi × Int) → Value
  | some p=>.tuple #[.agg (xC p.1),.int .i64 p.2,.int .i64 0]
  | none=>.tuple #[.agg (xC zX),.int .i64 0,.int .i64 30]
set_option maxHeartbeats 8000000 in
theorem dread_n (a:Option Addr) (len c:Nat) (l:List Int) (W:World) (h:BytesAt W a len c l):Calls Tryd.prog 6 #[.slice a len c] W fun e w'=>e=.returned (rdW (docA l)) ∧ Below W.heap.size W w':=by
  have hb:=hb_of h
  obtain rfl:=h.size
  have PR:=Lib.hid (rpre_n (W.heap.size + 1) a l.length c l rd0 _ (dW_rd h hb))
  have K0:=Lib.hid (DK.start h hb)
  have rm:=Lib.hid (preS_rm l)
  have ok:=Lib.hid h.ok
  have hle:=h.le
  have hfit:=h.fit
  obtain ⟨half,eH⟩:∃ b,decide (byteV l rd0=102)=b:=⟨_,rfl⟩
  obtain ⟨n,eN⟩:∃ n,preV l rd0=n:=⟨_,rfl⟩
  obtain ⟨s1,eS⟩:∃ s,preS l rd0=s:=⟨_,rfl⟩
  have DA:=Lib.hid (show docR l=codeR l n half ⟨-1,if s1.wide then 64 else 32,0,0,0,0,0,0⟩ s1 by unfold docR;rw [eH,eN,eS])
  rw [eH,eN,eS] at PR
  rw [eS] at rm
  clear eH eN eS h hb
  unfold dW at PR K0
  go_enter Tryd.func6,Tryd.ntmps6
  go_wp2_with fail
  refine PR.out.mono ?_
  rintro e w1 ⟨rfl,rd⟩
  have K1:=Lib.hid (K0.out.call rd)
  clear rd PR K0
  have i3:=K1.out.rd.cells.2.2.2.1
  have c1:=K1.out.cells.2.1
  have f1:=K1.out.cells.2.2.2.2.2.2.2.2 1
  go_upto_if 26 with fail
  go_cut [] (fun wx=>Hid (DK a l.length c l W s1 ⟨-1,if s1.wide then 64 else 32,0,0,0,0,0,0⟩ wx))
  case first=>
    rcases Bool.eq_false_or_eq_true s1.wide with hw | hw
    · rw [hw]
      go_wp2_with fail
      go_meet
      rw [hw]
      exact K1.out.set 1 (.int .i8 64) _ rfl
    · rw [hw]
      go_wp2_with fail
      go_meet
      rw [hw]
      exact K1.out
  case rest=>
    clear i3 c1 f1 K1
    have K2:=Lib.hid hcut.out
    clear hcut
    obtain ⟨w0,eW⟩:∃ w0:Int,(if s1.wide then 64 else 32)=w0:=⟨_,rfl⟩
    rw [eW] at K2 DA
    have bw0:=Lib.hid (show -128 ≤ w0 ∧ w0 < 128 by rw [← eW];split <;> omega)
    clear eW
    go_upto_block 0 with fail
    go_cut [] (fun wx=>Hid (DK a l.length c l W (codeR l n half ⟨-1,w0,0,0,0,0,0,0⟩ s1).2 (codeR l n half ⟨-1,w0,0,0,0,0,0,0⟩ s1).1 wx))
    case first=>
      rcases n_cases n with hn | hn | hn | hn | hn | hn | hn | hn | hn | hn | hn | hn | hn | hn | hn | hn | hn | hn | hn | hn
      · subst hn
        as_aux_lemma=>
          obtain ⟨v1,ev1⟩:∃ v,byteV l s1 / 8 % 8 + 8 * s1.r=v:=⟨_,rfl⟩
          obtain ⟨v2,ev2⟩:∃ v,byteV l s1 % 8 + 8 * s1.m=v:=⟨_,rfl⟩
          obtain ⟨v3,ev3⟩:∃ v,sg32 (numA l (mem2S l s1) 4)=v:=⟨_,rfl⟩
          have hlo:=K2.out.rd.lo
          have hhi:=K2.out.rd.hi
          have i1:=K2.out.rd.cells.2.1
          by_cases hp:s1.pos < (l.length:Int)
          · obtain ⟨B,o,rfl,hc⟩:=K2.out.rd.bytes.here (by omega)
            obtain ⟨z,hz⟩:∃ z,l[s1.pos.toNat]?=some z:=⟨_,List.getElem?_eq_getElem (by omega)⟩
            have hc1:=hc s1.pos.toNat z hz
            have hv:byteV l s1=z:=by unfold byteV;rw [List.getD_eq_getElem?_getD,hz];rfl
            have HV:=Lib.hid hv
            have HP:=Lib.hid hp
            have tp:decide (s1.pos < (l.length:Int))=true:=by simpa using hp
            clear hc hz hv
            by_cases h192:z < 192
            · have tz:decide (z < 192)=true:=by simpa using h192
              obtain ⟨c30,c31,c32,c33,c34,c35,c36,c37,fx3⟩:=K2.out.cells
              simp only at c30 c31 c32 c33 c34 c35 c36 c37
              have f30:=fx3 0
              have Ks3:=Lib.hid (K2.out.set 0 (.int .i8 27) ⟨27,w0,0,0,0,0,0,0⟩ rfl)
              clear fx3
              go_wp2_with fail
              refine ((show Calls _ _ _ _ _ from by have q:=rmem_n (W.heap.size + 1) _ l.length c l s1 _ Ks3.out.rd rm.out.1 rm.out.2;rw [ev1,ev2,ev3] at q;exact q)).mono ?_
              rintro e w3_ ⟨rfl,rd⟩
              have K3_:=Lib.hid (Ks3.out.call rd)
              clear rd Ks3 K2 c30 c31 c32 c33 c34 c35 c36 c37 f30 i1 hc1 tp tz
              cases half
              case false=>
                obtain ⟨c40,c41,c42,c43,c44,c45,c46,c47,fx4⟩:=K3_.out.cells
                simp only at c40 c41 c42 c43 c44 c45 c46 c47
                have f43:=fx4 3
                have f44:=fx4 4
                have f45:=fx4 5
                have Ks4:=Lib.hid (((K3_.out.set 3 (.int .i8 v1) ⟨27,w0,0,v1,0,0,0,0⟩ rfl).set 4 (.int .i8 v2) ⟨27,w0,0,v1,v2,0,0,0⟩ rfl).set 5 (.int .i64 v3) ⟨27,w0,0,v1,v2,v3,0,0⟩ rfl)
                clear fx4
                go_wp2_with fail
                go_meet
                have E:codeR l 137 false ⟨-1,w0,0,0,0,0,0,0⟩ s1=(⟨27,w0,0,v1,v2,v3,0,0⟩,numS l (mem2S l s1) 4):=by subst ev1 ev2 ev3;unfold codeR;have:=HV.out;have:=HP.out;rw [if_pos rfl,if_pos ⟨by omega,by omega⟩];rfl
                rw [E]
                exact Ks4.out
              case true=>
                obtain ⟨c40,c41,c42,c43,c44,c45,c46,c47,fx4⟩:=K3_.out.cells
                simp only at c40 c41 c42 c43 c44 c45 c46 c47
                have f41:=fx4 1
                have f43:=fx4 3
                have f44:=fx4 4
                have f45:=fx4 5
                have Ks4:=Lib.hid ((((K3_.out.set 3 (.int .i8 v1) ⟨27,w0,0,v1,0,0,0,0⟩ rfl).set 4 (.int .i8 v2) ⟨27,w0,0,v1,v2,0,0,0⟩ rfl).set 5 (.int .i64 v3) ⟨27,w0,0,v1,v2,v3,0,0⟩ rfl).set 1 (.int .i8 16) ⟨27,16,0,v1,v2,v3,0,0⟩ rfl)
                clear fx4
                go_wp2_with fail
                go_meet
                have E:codeR l 137 true ⟨-1,w0,0,0,0,0,0,0⟩ s1=(⟨27,16,0,v1,v2,v3,0,0⟩,numS l (mem2S l s1) 4):=by subst ev1 ev2 ev3;unfold codeR;have:=HV.out;have:=HP.out;rw [if_pos rfl,if_pos ⟨by omega,by omega⟩];rfl
                rw [E]
                exact Ks4.out
            · have tz:decide (z < 192)=false:=by simpa using h192
              have hv:=HV.out
              obtain ⟨c30,c31,c32,c33,c34,c35,c36,c37,fx3⟩:=K2.out.cells
              simp only at c30 c31 c32 c33 c34 c35 c36 c37
              have f30:=fx3 0
              have Ks3:=Lib.hid (K2.out.set 0 (.int .i8 0) ⟨0,w0,0,0,0,0,0,0⟩ rfl)
              clear fx3
              go_wp2_with fail
              refine ((show Calls _ _ _ _ _ from by have q:=rtwo_n (W.heap.size + 1) _ l.length c l s1 _ Ks3.out.rd rm.out.1 rm.out.2;rw [ev1,ev2] at q;exact q)).mono ?_
              rintro e w3_ ⟨rfl,rd⟩
              have K3_:=Lib.hid (Ks3.out.call rd)
              clear rd Ks3 K2 c30 c31 c32 c33 c34 c35 c36 c37 f30 i1 hc1
              obtain ⟨c40,c41,c42,c43,c44,c45,c46,c47,fx4⟩:=K3_.out.cells
              simp only at c40 c41 c42 c43 c44 c45 c46 c47
              have f42:=fx4 2
              have f43:=fx4 3
              have Ks4:=Lib.hid ((K3_.out.set 3 (.int .i8 v1) ⟨0,w0,0,v1,0,0,0,0⟩ rfl).set 2 (.int .i8 v2) ⟨0,w0,v2,v1,0,0,0,0⟩ rfl)
              clear fx4
              go_wp2_with fail
              go_meet
              have E:codeR l 137 half ⟨-1,w0,0,0,0,0,0,0⟩ s1=(⟨0,w0,v2,v1,0,0,0,0⟩,twoS l s1):=by subst ev1 ev2;unfold codeR;rw [if_pos rfl,if_neg (by omega)];rfl
              rw [E]
              exact Ks4.out
          · have tp:decide (s1.pos < (l.length:Int))=false:=by simpa using hp
            obtain ⟨c30,c31,c32,c33,c34,c35,c36,c37,fx3⟩:=K2.out.cells
            simp only at c30 c31 c32 c33 c34 c35 c36 c37
            have f30:=fx3 0
            have Ks3:=Lib.hid (K2.out.set 0 (.int .i8 0) ⟨0,w0,0,0,0,0,0,0⟩ rfl)
            clear fx3
            go_wp2_with fail
            refine ((show Calls _ _ _ _ _ from by have q:=rtwo_n (W.heap.size + 1) _ l.length c l s1 _ Ks3.out.rd rm.out.1 rm.out.2;rw [ev1,ev2] at q;exact q)).mono ?_
            rintro e w3_ ⟨rfl,rd⟩
            have K3_:=Lib.hid (Ks3.out.call rd)
            clear rd Ks3 K2 c30 c31 c32 c33 c34 c35 c36 c37 f30 i1
            obtain ⟨c40,c41,c42,c43,c44,c45,c46,c47,fx4⟩:=K3_.out.cells
            simp only at c40 c41 c42 c43 c44 c45 c46 c47
            have f42:=fx4 2
            have f43:=fx4 3
            have Ks4:=Lib.hid ((K3_.out.set 3 (.int .i8 v1) ⟨0,w0,0,v1,0,0,0,0⟩ rfl).set 2 (.int .i8 v2) ⟨0,w0,v2,v1,0,0,0,0⟩ rfl)
            clear fx4
            go_wp2_with fail
            go_meet
            have E:codeR l 137 half ⟨-1,w0,0,0,0,0,0,0⟩ s1=(⟨0,w0,v2,v1,0,0,0,0⟩,twoS l s1):=by subst ev1 ev2;unfold codeR;rw [if_pos rfl,if_neg (by omega)];rfl
            rw [E]
            exact Ks4.out
      · subst hn
        as_aux_lemma=>
          obtain ⟨v1,ev1⟩:∃ v,byteV l s1 / 8 % 8 + 8 * s1.r=v:=⟨_,rfl⟩
          obtain ⟨v2,ev2⟩:∃ v,byteV l s1 % 8 + 8 * s1.m=v:=⟨_,rfl⟩
          have eC:∀ k:Nat,2 ≤ k → k ≤ 8 → (codI (k:Int) == 1)=decide (k=2):=by
            intro k h2 h8
            rcases (show k=2 ∨ k=3 ∨ k=4 ∨ k=5 ∨ k=6 ∨ k=7 ∨ k=8 by omega) with rfl | rfl | rfl | rfl | rfl | rfl | rfl <;> rfl
          have EC:=Lib.hid eC
          clear eC
          go_wp2_with fail
          go_loopw [9] (fun i wr=>∃ k:Nat,2 ≤ k ∧ k ≤ 9 ∧ i=.int .i8 k ∧ Hid (DK a l.length c l W s1 ⟨if 2 < k then 2 else -1,w0,0,0,0,0,0,0⟩ wr)) (fun i _=>9 - (intOf i).toNat)
          case atStart=>exact ⟨2,by omega,by omega,rfl,Lib.hid (by rw [if_neg (by omega)];exact K2.out)⟩
          case round=>
            obtain ⟨k,h2,h9,rfl,KR⟩:=hrel
            by_cases hlt:k ≤ 8
            · have EK:=EC.out k h2 hlt
              have up:IntKind.i8.wrap ((k:Int) + 1)=((k + 1:Nat):Int):=by have:=i8k_fin ⟨k,by omega⟩;exact this
              have c0:=KR.out.cells.1
              have f0:=KR.out.cells.2.2.2.2.2.2.2.2 0
              by_cases hk:k=2
              · rw [decide_eq_true hk] at EK
                have KS:=Lib.hid (KR.out.set 0 (.int .i8 (k:Int)) ⟨(k:Int),w0,0,0,0,0,0,0⟩ rfl)
                go_wp2_with (refine (cod_n _ _).mono ?_;rintro e z ⟨rfl,rfl⟩)
                go_roundw
                case rel=>exact ⟨k + 1,by omega,by omega,by rw [hk];rfl,Lib.hid (by rw [if_pos (by omega)];have q:=KS.out;rw [hk] at q;exact q)⟩
                case measure=>simp [intOf];omega
              · rw [decide_eq_false hk] at EK
                go_wp2_with (refine (cod_n _ _).mono ?_;rintro e z ⟨rfl,rfl⟩)
                go_roundw
                case rel=>exact ⟨k + 1,by omega,by omega,rfl,Lib.hid (by have e:(if 2 < k + 1 then (2:Int) else -1)=(if 2 < k then 2 else -1):=(if hq:2 < k then by rw [if_pos hq,if_pos (by omega)] else by rw [if_neg hq,if_neg (by omega)]);rw [e];exact KR.out)⟩
                case measure=>simp [intOf];omega
            · obtain rfl:k=9:=by omega
              have KR2:=Lib.hid KR.out
              have K2b:=Lib.hid (show DK a l.length c l W s1 ⟨2,w0,0,0,0,0,0,0⟩ _ from by have q:=KR.out;rw [if_pos (by omega)] at q;exact q)
              clear K2 KR
              obtain ⟨c30,c31,c32,c33,c34,c35,c36,c37,fx3⟩:=K2b.out.cells
              simp only at c30 c31 c32 c33 c34 c35 c36 c37
              clear fx3
              go_wp2_with fail
              refine ((show Calls _ _ _ _ _ from by have q:=rtwo_n (W.heap.size + 1) _ l.length c l s1 _ K2b.out.rd rm.out.1 rm.out.2;rw [ev1,ev2] at q;exact q)).mono ?_
              rintro e w3_ ⟨rfl,rd⟩
              have K3_:=Lib.hid (K2b.out.call rd)
              clear rd K2b c30 c31 c32 c33 c34 c35 c36 c37
              obtain ⟨c40,c41,c42,c43,c44,c45,c46,c47,fx4⟩:=K3_.out.cells
              simp only at c40 c41 c42 c43 c44 c45 c46 c47
              have f42:=fx4 2
              have f43:=fx4 3
              have Ks4:=Lib.hid ((K3_.out.set 3 (.int .i8 v1) ⟨2,w0,0,v1,0,0,0,0⟩ rfl).set 2 (.int .i8 v2) ⟨2,w0,v2,v1,0,0,0,0⟩ rfl)
              clear fx4
              go_wp2_with fail
              go_meet
              have E:codeR l 1 half ⟨-1,w0,0,0,0,0,0,0⟩ s1=(⟨2,w0,v2,v1,0,0,0,0⟩,twoS l s1):=by subst ev1 ev2;rfl
              rw [E]
              exact Ks4.out
      · subst hn
        as_aux_lemma=>
          obtain ⟨v1,ev1⟩:∃ v,byteV l s1 / 8 % 8 + 8 * s1.r=v:=⟨_,rfl⟩
          obtain ⟨v2,ev2⟩:∃ v,byteV l s1 % 8 + 8 * s1.m=v:=⟨_,rfl⟩
          have eC:∀ k:Nat,2 ≤ k → k ≤ 8 → (codI (k:Int) == 9)=decide (k=3):=by
            intro k h2 h8
            rcases (show k=2 ∨ k=3 ∨ k=4 ∨ k=5 ∨ k=6 ∨ k=7 ∨ k=8 by omega) with rfl | rfl | rfl | rfl | rfl | rfl | rfl <;> rfl
          have EC:=Lib.hid eC
          clear eC
          go_wp2_with fail
          go_loopw [9] (fun i wr=>∃ k:Nat,2 ≤ k ∧ k ≤ 9 ∧ i=.int .i8 k ∧ Hid (DK a l.length c l W s1 ⟨if 3 < k then 3 else -1,w0,0,0,0,0,0,0⟩ wr)) (fun i _=>9 - (intOf i).toNat)
          case atStart=>exact ⟨2,by omega,by omega,rfl,Lib.hid (by rw [if_neg (by omega)];exact K2.out)⟩
          case round=>
            obtain ⟨k,h2,h9,rfl,KR⟩:=hrel
            by_cases hlt:k ≤ 8
            · have EK:=EC.out k h2 hlt
              have up:IntKind.i8.wrap ((k:Int) + 1)=((k + 1:Nat):Int):=by have:=i8k_fin ⟨k,by omega⟩;exact this
              have c0:=KR.out.cells.1
              have f0:=KR.out.cells.2.2.2.2.2.2.2.2 0
              by_cases hk:k=3
              · rw [decide_eq_true hk] at EK
                have KS:=Lib.hid (KR.out.set 0 (.int .i8 (k:Int)) ⟨(k:Int),w0,0,0,0,0,0,0⟩ rfl)
                go_wp2_with (refine (cod_n _ _).mono ?_;rintro e z ⟨rfl,rfl⟩)
                go_roundw
                case rel=>exact ⟨k + 1,by omega,by omega,by rw [hk];rfl,Lib.hid (by rw [if_pos (by omega)];have q:=KS.out;rw [hk] at q;exact q)⟩
                case measure=>simp [intOf];omega
              · rw [decide_eq_false hk] at EK
                go_wp2_with (refine (cod_n _ _).mono ?_;rintro e z ⟨rfl,rfl⟩)
                go_roundw
                case rel=>exact ⟨k + 1,by omega,by omega,rfl,Lib.hid (by have e:(if 3 < k + 1 then (3:Int) else -1)=(if 3 < k then 3 else -1):=(if hq:3 < k then by rw [if_pos hq,if_pos (by omega)] else by rw [if_neg hq,if_neg (by omega)]);rw [e];exact KR.out)⟩
                case measure=>simp [intOf];omega
            · obtain rfl:k=9:=by omega
              have KR2:=Lib.hid KR.out
              have K2b:=Lib.hid (show DK a l.length c l W s1 ⟨3,w0,0,0,0,0,0,0⟩ _ from by have q:=KR.out;rw [if_pos (by omega)] at q;exact q)
              clear K2 KR
              obtain ⟨c30,c31,c32,c33,c34,c35,c36,c37,fx3⟩:=K2b.out.cells
              simp only at c30 c31 c32 c33 c34 c35 c36 c37
              clear fx3
              go_wp2_with fail
              refine ((show Calls _ _ _ _ _ from by have q:=rtwo_n (W.heap.size + 1) _ l.length c l s1 _ K2b.out.rd rm.out.1 rm.out.2;rw [ev1,ev2] at q;exact q)).mono ?_
              rintro e w3_ ⟨rfl,rd⟩
              have K3_:=Lib.hid (K2b.out.call rd)
              clear rd K2b c30 c31 c32 c33 c34 c35 c36 c37
              obtain ⟨c40,c41,c42,c43,c44,c45,c46,c47,fx4⟩:=K3_.out.cells
              simp only at c40 c41 c42 c43 c44 c45 c46 c47
              have f42:=fx4 2
              have f43:=fx4 3
              have Ks4:=Lib.hid ((K3_.out.set 3 (.int .i8 v1) ⟨3,w0,0,v1,0,0,0,0⟩ rfl).set 2 (.int .i8 v2) ⟨3,w0,v2,v1,0,0,0,0⟩ rfl)
              clear fx4
              go_wp2_with fail
              go_meet
              have E:codeR l 9 half ⟨-1,w0,0,0,0,0,0,0⟩ s1=(⟨3,w0,v2,v1,0,0,0,0⟩,twoS l s1):=by subst ev1 ev2;rfl
              rw [E]
              exact Ks4.out
      · subst hn
        as_aux_lemma=>
          obtain ⟨v1,ev1⟩:∃ v,byteV l s1 / 8 % 8 + 8 * s1.r=v:=⟨_,rfl⟩
          obtain ⟨v2,ev2⟩:∃ v,byteV l s1 % 8 + 8 * s1.m=v:=⟨_,rfl⟩
          have eC:∀ k:Nat,2 ≤ k → k ≤ 8 → (codI (k:Int) == 33)=decide (k=4):=by
            intro k h2 h8
            rcases (show k=2 ∨ k=3 ∨ k=4 ∨ k=5 ∨ k=6 ∨ k=7 ∨ k=8 by omega) with rfl | rfl | rfl | rfl | rfl | rfl | rfl <;> rfl
          have EC:=Lib.hid eC
          clear eC
          go_wp2_with fail
          go_loopw [9] (fun i wr=>∃ k:Nat,2 ≤ k ∧ k ≤ 9 ∧ i=.int .i8 k ∧ Hid (DK a l.length c l W s1 ⟨if 4 < k then 4 else -1,w0,0,0,0,0,0,0⟩ wr)) (fun i _=>9 - (intOf i).toNat)
          case atStart=>exact ⟨2,by omega,by omega,rfl,Lib.hid (by rw [if_neg (by omega)];exact K2.out)⟩
          case round=>
            obtain ⟨k,h2,h9,rfl,KR⟩:=hrel
            by_cases hlt:k ≤ 8
            · have EK:=EC.out k h2 hlt
              have up:IntKind.i8.wrap ((k:Int) + 1)=((k + 1:Nat):Int):=by have:=i8k_fin ⟨k,by omega⟩;exact this
              have c0:=KR.out.cells.1
              have f0:=KR.out.cells.2.2.2.2.2.2.2.2 0
              by_cases hk:k=4
              · rw [decide_eq_true hk] at EK
                have KS:=Lib.hid (KR.out.set 0 (.int .i8 (k:Int)) ⟨(k:Int),w0,0,0,0,0,0,0⟩ rfl)
                go_wp2_with (refine (cod_n _ _).mono ?_;rintro e z ⟨rfl,rfl⟩)
                go_roundw
                case rel=>exact ⟨k + 1,by omega,by omega,by rw [hk];rfl,Lib.hid (by rw [if_pos (by omega)];have q:=KS.out;rw [hk] at q;exact q)⟩
                case measure=>simp [intOf];omega
              · rw [decide_eq_false hk] at EK
                go_wp2_with (refine (cod_n _ _).mono ?_;rintro e z ⟨rfl,rfl⟩)
                go_roundw
                case rel=>exact ⟨k + 1,by omega,by omega,rfl,Lib.hid (by have e:(if 4 < k + 1 then (4:Int) else -1)=(if 4 < k then 4 else -1):=(if hq:4 < k then by rw [if_pos hq,if_pos (by omega)] else by rw [if_neg hq,if_neg (by omega)]);rw [e];exact KR.out)⟩
                case measure=>simp [intOf];omega
            · obtain rfl:k=9:=by omega
              have KR2:=Lib.hid KR.out
              have K2b:=Lib.hid (show DK a l.length c l W s1 ⟨4,w0,0,0,0,0,0,0⟩ _ from by have q:=KR.out;rw [if_pos (by omega)] at q;exact q)
              clear K2 KR
              obtain ⟨c30,c31,c32,c33,c34,c35,c36,c37,fx3⟩:=K2b.out.cells
              simp only at c30 c31 c32 c33 c34 c35 c36 c37
              clear fx3
              go_wp2_with fail
              refine ((show Calls _ _ _ _ _ from by have q:=rtwo_n (W.heap.size + 1) _ l.length c l s1 _ K2b.out.rd rm.out.1 rm.out.2;rw [ev1,ev2] at q;exact q)).mono ?_
              rintro e w3_ ⟨rfl,rd⟩
              have K3_:=Lib.hid (K2b.out.call rd)
              clear rd K2b c30 c31 c32 c33 c34 c35 c36 c37
              obtain ⟨c40,c41,c42,c43,c44,c45,c46,c47,fx4⟩:=K3_.out.cells
              simp only at c40 c41 c42 c43 c44 c45 c46 c47
              have f42:=fx4 2
              have f43:=fx4 3
              have Ks4:=Lib.hid ((K3_.out.set 3 (.int .i8 v1) ⟨4,w0,0,v1,0,0,0,0⟩ rfl).set 2 (.int .i8 v2) ⟨4,w0,v2,v1,0,0,0,0⟩ rfl)
              clear fx4
              go_wp2_with fail
              go_meet
              have E:codeR l 33 half ⟨-1,w0,0,0,0,0,0,0⟩ s1=(⟨4,w0,v2,v1,0,0,0,0⟩,twoS l s1):=by subst ev1 ev2;rfl
              rw [E]
              exact Ks4.out
      · subst hn
        as_aux_lemma=>
          obtain ⟨v1,ev1⟩:∃ v,byteV l s1 / 8 % 8 + 8 * s1.r=v:=⟨_,rfl⟩
          obtain ⟨v2,ev2⟩:∃ v,byteV l s1 % 8 + 8 * s1.m=v:=⟨_,rfl⟩
          have eC:∀ k:Nat,2 ≤ k → k ≤ 8 → (codI (k:Int) == 41)=decide (k=5):=by
            intro k h2 h8
            rcases (show k=2 ∨ k=3 ∨ k=4 ∨ k=5 ∨ k=6 ∨ k=7 ∨ k=8 by omega) with rfl | rfl | rfl | rfl | rfl | rfl | rfl <;> rfl
          have EC:=Lib.hid eC
          clear eC
          go_wp2_with fail
          go_loopw [9] (fun i wr=>∃ k:Nat,2 ≤ k ∧ k ≤ 9 ∧ i=.int .i8 k ∧ Hid (DK a l.length c l W s1 ⟨if 5 < k then 5 else -1,w0,0,0,0,0,0,0⟩ wr)) (fun i _=>9 - (intOf i).toNat)
          case atStart=>exact ⟨2,by omega,by omega,rfl,Lib.hid (by rw [if_neg (by omega)];exact K2.out)⟩
          case round=>
            obtain ⟨k,h2,h9,rfl,KR⟩:=hrel
            by_cases hlt:k ≤ 8
            · have EK:=EC.out k h2 hlt
              have up:IntKind.i8.wrap ((k:Int) + 1)=((k + 1:Nat):Int):=by have:=i8k_fin ⟨k,by omega⟩;exact this
              have c0:=KR.out.cells.1
              have f0:=KR.out.cells.2.2.2.2.2.2.2.2 0
              by_cases hk:k=5
              · rw [decide_eq_true hk] at EK
                have KS:=Lib.hid (KR.out.set 0 (.int .i8 (k:Int)) ⟨(k:Int),w0,0,0,0,0,0,0⟩ rfl)
                go_wp2_with (refine (cod_n _ _).mono ?_;rintro e z ⟨rfl,rfl⟩)
                go_roundw
                case rel=>exact ⟨k + 1,by omega,by omega,by rw [hk];rfl,Lib.hid (by rw [if_pos (by omega)];have q:=KS.out;rw [hk] at q;exact q)⟩
                case measure=>simp [intOf];omega
              · rw [decide_eq_false hk] at EK
                go_wp2_with (refine (cod_n _ _).mono ?_;rintro e z ⟨rfl,rfl⟩)
                go_roundw
                case rel=>exact ⟨k + 1,by omega,by omega,rfl,Lib.hid (by have e:(if 5 < k + 1 then (5:Int) else -1)=(if 5 < k then 5 else -1):=(if hq:5 < k then by rw [if_pos hq,if_pos (by omega)] else by rw [if_neg hq,if_neg (by omega)]);rw [e];exact KR.out)⟩
                case measure=>simp [intOf];omega
            · obtain rfl:k=9:=by omega
              have KR2:=Lib.hid KR.out
              have K2b:=Lib.hid (show DK a l.length c l W s1 ⟨5,w0,0,0,0,0,0,0⟩ _ from by have q:=KR.out;rw [if_pos (by omega)] at q;exact q)
              clear K2 KR
              obtain ⟨c30,c31,c32,c33,c34,c35,c36,c37,fx3⟩:=K2b.out.cells
              simp only at c30 c31 c32 c33 c34 c35 c36 c37
              clear fx3
              go_wp2_with fail
              refine ((show Calls _ _ _ _ _ from by have q:=rtwo_n (W.heap.size + 1) _ l.length c l s1 _ K2b.out.rd rm.out.1 rm.out.2;rw [ev1,ev2] at q;exact q)).mono ?_
              rintro e w3_ ⟨rfl,rd⟩
              have K3_:=Lib.hid (K2b.out.call rd)
              clear rd K2b c30 c31 c32 c33 c34 c35 c36 c37
              obtain ⟨c40,c41,c42,c43,c44,c45,c46,c47,fx4⟩:=K3_.out.cells
              simp only at c40 c41 c42 c43 c44 c45 c46 c47
              have f42:=fx4 2
              have f43:=fx4 3
              have Ks4:=Lib.hid ((K3_.out.set 3 (.int .i8 v1) ⟨5,w0,0,v1,0,0,0,0⟩ rfl).set 2 (.int .i8 v2) ⟨5,w0,v2,v1,0,0,0,0⟩ rfl)
              clear fx4
              go_wp2_with fail
              go_meet
              have E:codeR l 41 half ⟨-1,w0,0,0,0,0,0,0⟩ s1=(⟨5,w0,v2,v1,0,0,0,0⟩,twoS l s1):=by subst ev1 ev2;rfl
              rw [E]
              exact Ks4.out
      · subst hn
        as_aux_lemma=>
          obtain ⟨v1,ev1⟩:∃ v,byteV l s1 / 8 % 8 + 8 * s1.r=v:=⟨_,rfl⟩
          obtain ⟨v2,ev2⟩:∃ v,byteV l s1 % 8 + 8 * s1.m=v:=⟨_,rfl⟩
          have eC:∀ k:Nat,2 ≤ k → k ≤ 8 → (codI (k:Int) == 49)=decide (k=6):=by
            intro k h2 h8
            rcases (show k=2 ∨ k=3 ∨ k=4 ∨ k=5 ∨ k=6 ∨ k=7 ∨ k=8 by omega) with rfl | rfl | rfl | rfl | rfl | rfl | rfl <;> rfl
          have EC:=Lib.hid eC
          clear eC
          go_wp2_with fail
          go_loopw [9] (fun i wr=>∃ k:Nat,2 ≤ k ∧ k ≤ 9 ∧ i=.int .i8 k ∧ Hid (DK a l.length c l W s1 ⟨if 6 < k then 6 else -1,w0,0,0,0,0,0,0⟩ wr)) (fun i _=>9 - (intOf i).toNat)
          case atStart=>exact ⟨2,by omega,by omega,rfl,Lib.hid (by rw [if_neg (by omega)];exact K2.out)⟩
          case round=>
            obtain ⟨k,h2,h9,rfl,KR⟩:=hrel
            by_cases hlt:k ≤ 8
            · have EK:=EC.out k h2 hlt
              have up:IntKind.i8.wrap ((k:Int) + 1)=((k + 1:Nat):Int):=by have:=i8k_fin ⟨k,by omega⟩;exact this
              have c0:=KR.out.cells.1
              have f0:=KR.out.cells.2.2.2.2.2.2.2.2 0
              by_cases hk:k=6
              · rw [decide_eq_true hk] at EK
                have KS:=Lib.hid (KR.out.set 0 (.int .i8 (k:Int)) ⟨(k:Int),w0,0,0,0,0,0,0⟩ rfl)
                go_wp2_with (refine (cod_n _ _).mono ?_;rintro e z ⟨rfl,rfl⟩)
                go_roundw
                case rel=>exact ⟨k + 1,by omega,by omega,by rw [hk];rfl,Lib.hid (by rw [if_pos (by omega)];have q:=KS.out;rw [hk] at q;exact q)⟩
                case measure=>simp [intOf];omega
              · rw [decide_eq_false hk] at EK
                go_wp2_with (refine (cod_n _ _).mono ?_;rintro e z ⟨rfl,rfl⟩)
                go_roundw
                case rel=>exact ⟨k + 1,by omega,by omega,rfl,Lib.hid (by have e:(if 6 < k + 1 then (6:Int) else -1)=(if 6 < k then 6 else -1):=(if hq:6 < k then by rw [if_pos hq,if_pos (by omega)] else by rw [if_neg hq,if_neg (by omega)]);rw [e];exact KR.out)⟩
                case measure=>simp [intOf];omega
            · obtain rfl:k=9:=by omega
              have KR2:=Lib.hid KR.out
              have K2b:=Lib.hid (show DK a l.length c l W s1 ⟨6,w0,0,0,0,0,0,0⟩ _ from by have q:=KR.out;rw [if_pos (by omega)] at q;exact q)
              clear K2 KR
              obtain ⟨c30,c31,c32,c33,c34,c35,c36,c37,fx3⟩:=K2b.out.cells
              simp only at c30 c31 c32 c33 c34 c35 c36 c37
              clear fx3
              go_wp2_with fail
              refine ((show Calls _ _ _ _ _ from by have q:=rtwo_n (W.heap.size + 1) _ l.length c l s1 _ K2b.out.rd rm.out.1 rm.out.2;rw [ev1,ev2] at q;exact q)).mono ?_
              rintro e w3_ ⟨rfl,rd⟩
              have K3_:=Lib.hid (K2b.out.call rd)
              clear rd K2b c30 c31 c32 c33 c34 c35 c36 c37
              obtain ⟨c40,c41,c42,c43,c44,c45,c46,c47,fx4⟩:=K3_.out.cells
              simp only at c40 c41 c42 c43 c44 c45 c46 c47
              have f42:=fx4 2
              have f43:=fx4 3
              have Ks4:=Lib.hid ((K3_.out.set 3 (.int .i8 v1) ⟨6,w0,0,v1,0,0,0,0⟩ rfl).set 2 (.int .i8 v2) ⟨6,w0,v2,v1,0,0,0,0⟩ rfl)
              clear fx4
              go_wp2_with fail
              go_meet
              have E:codeR l 49 half ⟨-1,w0,0,0,0,0,0,0⟩ s1=(⟨6,w0,v2,v1,0,0,0,0⟩,twoS l s1):=by subst ev1 ev2;rfl
              rw [E]
              exact Ks4.out
      · subst hn
        as_aux_lemma=>
          obtain ⟨v1,ev1⟩:∃ v,byteV l s1 / 8 % 8 + 8 * s1.r=v:=⟨_,rfl⟩
          obtain ⟨v2,ev2⟩:∃ v,byteV l s1 % 8 + 8 * s1.m=v:=⟨_,rfl⟩
          have eC:∀ k:Nat,2 ≤ k → k ≤ 8 → (codI (k:Int) == 57)=decide (k=7):=by
            intro k h2 h8
            rcases (show k=2 ∨ k=3 ∨ k=4 ∨ k=5 ∨ k=6 ∨ k=7 ∨ k=8 by omega) with rfl | rfl | rfl | rfl | rfl | rfl | rfl <;> rfl
          have EC:=Lib.hid eC
          clear eC
          go_wp2_with fail
          go_loopw [9] (fun i wr=>∃ k:Nat,2 ≤ k ∧ k ≤ 9 ∧ i=.int .i8 k ∧ Hid (DK a l.length c l W s1 ⟨if 7 < k then 7 else -1,w0,0,0,0,0,0,0⟩ wr)) (fun i _=>9 - (intOf i).toNat)
          case atStart=>exact ⟨2,by omega,by omega,rfl,Lib.hid (by rw [if_neg (by omega)];exact K2.out)⟩
          case round=>
            obtain ⟨k,h2,h9,rfl,KR⟩:=hrel
            by_cases hlt:k ≤ 8
            · have EK:=EC.out k h2 hlt
              have up:IntKind.i8.wrap ((k:Int) + 1)=((k + 1:Nat):Int):=by have:=i8k_fin ⟨k,by omega⟩;exact this
              have c0:=KR.out.cells.1
              have f0:=KR.out.cells.2.2.2.2.2.2.2.2 0
              by_cases hk:k=7
              · rw [decide_eq_true hk] at EK
                have KS:=Lib.hid (KR.out.set 0 (.int .i8 (k:Int)) ⟨(k:Int),w0,0,0,0,0,0,0⟩ rfl)
                go_wp2_with (refine (cod_n _ _).mono ?_;rintro e z ⟨rfl,rfl⟩)
                go_roundw
                case rel=>exact ⟨k + 1,by omega,by omega,by rw [hk];rfl,Lib.hid (by rw [if_pos (by omega)];have q:=KS.out;rw [hk] at q;exact q)⟩
                case measure=>simp [intOf];omega
              · rw [decide_eq_false hk] at EK
                go_wp2_with (refine (cod_n _ _).mono ?_;rintro e z ⟨rfl,rfl⟩)
                go_roundw
                case rel=>exact ⟨k + 1,by omega,by omega,rfl,Lib.hid (by have e:(if 7 < k + 1 then (7:Int) else -1)=(if 7 < k then 7 else -1):=(if hq:7 < k then by rw [if_pos hq,if_pos (by omega)] else by rw [if_neg hq,if_neg (by omega)]);rw [e];exact KR.out)⟩
                case measure=>simp [intOf];omega
            · obtain rfl:k=9:=by omega
              have KR2:=Lib.hid KR.out
              have K2b:=Lib.hid (show DK a l.length c l W s1 ⟨7,w0,0,0,0,0,0,0⟩ _ from by have q:=KR.out;rw [if_pos (by omega)] at q;exact q)
              clear K2 KR
              obtain ⟨c30,c31,c32,c33,c34,c35,c36,c37,fx3⟩:=K2b.out.cells
              simp only at c30 c31 c32 c33 c34 c35 c36 c37
              clear fx3
              go_wp2_with fail
              refine ((show Calls _ _ _ _ _ from by have q:=rtwo_n (W.heap.size + 1) _ l.length c l s1 _ K2b.out.rd rm.out.1 rm.out.2;rw [ev1,ev2] at q;exact q)).mono ?_
              rintro e w3_ ⟨rfl,rd⟩
              have K3_:=Lib.hid (K2b.out.call rd)
              clear rd K2b c30 c31 c32 c33 c34 c35 c36 c37
              obtain ⟨c40,c41,c42,c43,c44,c45,c46,c47,fx4⟩:=K3_.out.cells
              simp only at c40 c41 c42 c43 c44 c45 c46 c47
              have f42:=fx4 2
              have f43:=fx4 3
              have Ks4:=Lib.hid ((K3_.out.set 3 (.int .i8 v1) ⟨7,w0,0,v1,0,0,0,0⟩ rfl).set 2 (.int .i8 v2) ⟨7,w0,v2,v1,0,0,0,0⟩ rfl)
              clear fx4
              go_wp2_with fail
              go_meet
              have E:codeR l 57 half ⟨-1,w0,0,0,0,0,0,0⟩ s1=(⟨7,w0,v2,v1,0,0,0,0⟩,twoS l s1):=by subst ev1 ev2;rfl
              rw [E]
              exact Ks4.out
      · subst hn
        as_aux_lemma=>
          obtain ⟨v1,ev1⟩:∃ v,byteV l s1 / 8 % 8 + 8 * s1.r=v:=⟨_,rfl⟩
          obtain ⟨v2,ev2⟩:∃ v,byteV l s1 % 8 + 8 * s1.m=v:=⟨_,rfl⟩
          have eC:∀ k:Nat,2 ≤ k → k ≤ 8 → (codI (k:Int) == 133)=decide (k=8):=by
            intro k h2 h8
            rcases (show k=2 ∨ k=3 ∨ k=4 ∨ k=5 ∨ k=6 ∨ k=7 ∨ k=8 by omega) with rfl | rfl | rfl | rfl | rfl | rfl | rfl <;> rfl
          have EC:=Lib.hid eC
          clear eC
          go_wp2_with fail
          go_loopw [9] (fun i wr=>∃ k:Nat,2 ≤ k ∧ k ≤ 9 ∧ i=.int .i8 k ∧ Hid (DK a l.length c l W s1 ⟨if 8 < k then 8 else -1,w0,0,0,0,0,0,0⟩ wr)) (fun i _=>9 - (intOf i).toNat)
          case atStart=>exact ⟨2,by omega,by omega,rfl,Lib.hid (by rw [if_neg (by omega)];exact K2.out)⟩
          case round=>
            obtain ⟨k,h2,h9,rfl,KR⟩:=hrel
            by_cases hlt:k ≤ 8
            · have EK:=EC.out k h2 hlt
              have up:IntKind.i8.wrap ((k:Int) + 1)=((k + 1:Nat):Int):=by have:=i8k_fin ⟨k,by omega⟩;exact this
              have c0:=KR.out.cells.1
              have f0:=KR.out.cells.2.2.2.2.2.2.2.2 0
              by_cases hk:k=8
              · rw [decide_eq_true hk] at EK
                have KS:=Lib.hid (KR.out.set 0 (.int .i8 (k:Int)) ⟨(k:Int),w0,0,0,0,0,0,0⟩ rfl)
                go_wp2_with (refine (cod_n _ _).mono ?_;rintro e z ⟨rfl,rfl⟩)
                go_roundw
                case rel=>exact ⟨k + 1,by omega,by omega,by rw [hk];rfl,Lib.hid (by rw [if_pos (by omega)];have q:=KS.out;rw [hk] at q;exact q)⟩
                case measure=>simp [intOf];omega
              · rw [decide_eq_false hk] at EK
                go_wp2_with (refine (cod_n _ _).mono ?_;rintro e z ⟨rfl,rfl⟩)
                go_roundw
                case rel=>exact ⟨k + 1,by omega,by omega,rfl,Lib.hid (by have e:(if 8 < k + 1 then (8:Int) else -1)=(if 8 < k then 8 else -1):=(if hq:8 < k then by rw [if_pos hq,if_pos (by omega)] else by rw [if_neg hq,if_neg (by omega)]);rw [e];exact KR.out)⟩
                case measure=>simp [intOf];omega
            · obtain rfl:k=9:=by omega
              have KR2:=Lib.hid KR.out
              have K2b:=Lib.hid (show DK a l.length c l W s1 ⟨8,w0,0,0,0,0,0,0⟩ _ from by have q:=KR.out;rw [if_pos (by omega)] at q;exact q)
              clear K2 KR
              obtain ⟨c30,c31,c32,c33,c34,c35,c36,c37,fx3⟩:=K2b.out.cells
              simp only at c30 c31 c32 c33 c34 c35 c36 c37
              clear fx3
              go_wp2_with fail
              refine ((show Calls _ _ _ _ _ from by have q:=rtwo_n (W.heap.size + 1) _ l.length c l s1 _ K2b.out.rd rm.out.1 rm.out.2;rw [ev1,ev2] at q;exact q)).mono ?_
              rintro e w3_ ⟨rfl,rd⟩
              have K3_:=Lib.hid (K2b.out.call rd)
              clear rd K2b c30 c31 c32 c33 c34 c35 c36 c37
              obtain ⟨c40,c41,c42,c43,c44,c45,c46,c47,fx4⟩:=K3_.out.cells
              simp only at c40 c41 c42 c43 c44 c45 c46 c47
              have f42:=fx4 2
              have f43:=fx4 3
              have Ks4:=Lib.hid ((K3_.out.set 3 (.int .i8 v1) ⟨8,w0,0,v1,0,0,0,0⟩ rfl).set 2 (.int .i8 v2) ⟨8,w0,v2,v1,0,0,0,0⟩ rfl)
              clear fx4
              go_wp2_with fail
              go_meet
              have E:codeR l 133 half ⟨-1,w0,0,0,0,0,0,0⟩ s1=(⟨8,w0,v2,v1,0,0,0,0⟩,twoS l s1):=by subst ev1 ev2;rfl
              rw [E]
              exact Ks4.out
      · subst hn
        as_aux_lemma=>
          obtain ⟨v1,ev1⟩:∃ v,byteV l s1 / 8 % 8 + 8 * s1.r=v:=⟨_,rfl⟩
          obtain ⟨v2,ev2⟩:∃ v,byteV l s1 % 8 + 8 * s1.m=v:=⟨_,rfl⟩
          have hbv:=byteV_bd ok.out s1
          have hr1:=rm.out.1
          have e7:bits .and .i8 v1 7=byteV l s1 / 8 % 8:=by rw [and7c (by omega)];omega
          have GP:=Lib.hid (fun W=>grp_129 (byteV l s1 / 8 % 8) (by omega) (by omega) W)
          obtain ⟨op,eop⟩:∃ v,grpI 129 (byteV l s1 / 8 % 8)=v:=⟨_,rfl⟩
          rw [eop] at GP
          obtain ⟨g7,eg7⟩:∃ g,byteV l s1 / 8 % 8=g:=⟨_,rfl⟩
          rw [eg7] at e7 GP
          clear hbv hr1
          obtain ⟨c30,c31,c32,c33,c34,c35,c36,c37,fx3⟩:=K2.out.cells
          simp only at c30 c31 c32 c33 c34 c35 c36 c37
          clear fx3
          go_wp2_with fail
          refine ((show Calls _ _ _ _ _ from by have q:=rtwo_n (W.heap.size + 1) _ l.length c l s1 _ K2.out.rd rm.out.1 rm.out.2;rw [ev1,ev2] at q;exact q)).mono ?_
          rintro e w3_ ⟨rfl,rd⟩
          have K3_:=Lib.hid (K2.out.call rd)
          clear rd K2 c30 c31 c32 c33 c34 c35 c36 c37
          obtain ⟨c40,c41,c42,c43,c44,c45,c46,c47,fx4⟩:=K3_.out.cells
          simp only at c40 c41 c42 c43 c44 c45 c46 c47
          have f40:=fx4 0
          have f42:=fx4 2
          have Ks4:=Lib.hid ((K3_.out.set 0 (.int .i8 op) ⟨op,w0,0,0,0,0,0,0⟩ rfl).set 2 (.int .i8 v2) ⟨op,w0,v2,0,0,0,0,0⟩ rfl)
          clear fx4
          go_wp2_with (with_reducible (refine (GP.out _).mono ?_);rintro e z ⟨rfl,rfl⟩)
          obtain ⟨v4,ev4⟩:∃ v,sg32 (numA l (twoS l s1) 4)=v:=⟨_,rfl⟩
          go_wp2_with fail
          refine ((show Calls _ _ _ _ _ from by have q:=rnum_4 (W.heap.size + 1) _ l.length c l (twoS l s1) _ Ks4.out.rd;rw [ev4] at q;exact q)).mono ?_
          rintro e w4_ ⟨rfl,rd⟩
          have K4_:=Lib.hid (Ks4.out.call rd)
          clear rd Ks4 K3_ c40 c41 c42 c43 c44 c45 c46 c47 f40 f42
          obtain ⟨c50,c51,c52,c53,c54,c55,c56,c57,fx5⟩:=K4_.out.cells
          simp only at c50 c51 c52 c53 c54 c55 c56 c57
          have f56:=fx5 6
          have Ks5:=Lib.hid (K4_.out.set 6 (.int .i64 v4) ⟨op,w0,v2,0,0,0,v4,0⟩ rfl)
          clear fx5
          go_wp2_with fail
          go_meet
          have E:codeR l 129 half ⟨-1,w0,0,0,0,0,0,0⟩ s1=(⟨op,w0,v2,0,0,0,v4,0⟩,numS l (twoS l s1) 4):=by subst ev1 ev2 ev4;exact grpR_num129 eop
          rw [E]
          exact Ks5.out
      · subst hn
        as_aux_lemma=>
          obtain ⟨v1,ev1⟩:∃ v,byteV l s1 / 8 % 8 + 8 * s1.r=v:=⟨_,rfl⟩
          obtain ⟨v2,ev2⟩:∃ v,byteV l s1 % 8 + 8 * s1.m=v:=⟨_,rfl⟩
          have hbv:=byteV_bd ok.out s1
          have hr1:=rm.out.1
          have e7:bits .and .i8 v1 7=byteV l s1 / 8 % 8:=by rw [and7c (by omega)];omega
          have GP:=Lib.hid (fun W=>grp_193 (byteV l s1 / 8 % 8) (by omega) (by omega) W)
          obtain ⟨op,eop⟩:∃ v,grpI 193 (byteV l s1 / 8 % 8)=v:=⟨_,rfl⟩
          rw [eop] at GP
          obtain ⟨g7,eg7⟩:∃ g,byteV l s1 / 8 % 8=g:=⟨_,rfl⟩
          rw [eg7] at e7 GP
          have h15:(op == 15)=false:=by rw [← eop];exact grp_no15_193 _ (by omega) (by omega)
          clear hbv hr1
          obtain ⟨c30,c31,c32,c33,c34,c35,c36,c37,fx3⟩:=K2.out.cells
          simp only at c30 c31 c32 c33 c34 c35 c36 c37
          clear fx3
          go_wp2_with fail
          refine ((show Calls _ _ _ _ _ from by have q:=rtwo_n (W.heap.size + 1) _ l.length c l s1 _ K2.out.rd rm.out.1 rm.out.2;rw [ev1,ev2] at q;exact q)).mono ?_
          rintro e w3_ ⟨rfl,rd⟩
          have K3_:=Lib.hid (K2.out.call rd)
          clear rd K2 c30 c31 c32 c33 c34 c35 c36 c37
          obtain ⟨c40,c41,c42,c43,c44,c45,c46,c47,fx4⟩:=K3_.out.cells
          simp only at c40 c41 c42 c43 c44 c45 c46 c47
          have f40:=fx4 0
          have f42:=fx4 2
          have Ks4:=Lib.hid ((K3_.out.set 0 (.int .i8 op) ⟨op,w0,0,0,0,0,0,0⟩ rfl).set 2 (.int .i8 v2) ⟨op,w0,v2,0,0,0,0,0⟩ rfl)
          clear fx4
          go_wp2_with (with_reducible (refine (GP.out _).mono ?_);rintro e z ⟨rfl,rfl⟩)
          obtain ⟨v4,ev4⟩:∃ v,byteV l (twoS l s1)=v:=⟨_,rfl⟩
          go_wp2_with fail
          refine ((show Calls _ _ _ _ _ from by have q:=rbyte_n (W.heap.size + 1) _ l.length c l (twoS l s1) _ Ks4.out.rd;rw [ev4] at q;exact q)).mono ?_
          rintro e w4_ ⟨rfl,rd⟩
          have K4_:=Lib.hid (Ks4.out.call rd)
          clear rd Ks4 K3_ c40 c41 c42 c43 c44 c45 c46 c47 f40 f42
          obtain ⟨c50,c51,c52,c53,c54,c55,c56,c57,fx5⟩:=K4_.out.cells
          simp only at c50 c51 c52 c53 c54 c55 c56 c57
          have f56:=fx5 6
          have Ks5:=Lib.hid (K4_.out.set 6 (.int .i64 v4) ⟨op,w0,v2,0,0,0,v4,0⟩ rfl)
          clear fx5
          go_wp2_with fail
          go_meet
          have E:codeR l 193 half ⟨-1,w0,0,0,0,0,0,0⟩ s1=(⟨op,w0,v2,0,0,0,v4,0⟩,byteS l (twoS l s1)):=by subst ev1 ev2 ev4;exact grpR_byte eop (by simpa using h15)
          rw [E]
          exact Ks5.out
      · subst hn
        as_aux_lemma=>
          obtain ⟨v1,ev1⟩:∃ v,byteV l s1 / 8 % 8 + 8 * s1.r=v:=⟨_,rfl⟩
          obtain ⟨v2,ev2⟩:∃ v,byteV l s1 % 8 + 8 * s1.m=v:=⟨_,rfl⟩
          have hbv:=byteV_bd ok.out s1
          have hr1:=rm.out.1
          have e7:bits .and .i8 v1 7=byteV l s1 / 8 % 8:=by rw [and7c (by omega)];omega
          have GP:=Lib.hid (fun W=>grp_211 (byteV l s1 / 8 % 8) (by omega) (by omega) W)
          obtain ⟨op,eop⟩:∃ v,grpI 211 (byteV l s1 / 8 % 8)=v:=⟨_,rfl⟩
          rw [eop] at GP
          obtain ⟨g7,eg7⟩:∃ g,byteV l s1 / 8 % 8=g:=⟨_,rfl⟩
          rw [eg7] at e7 GP
          have h15:(op == 15)=false:=by rw [← eop];exact grp_no15_211 _ (by omega) (by omega)
          clear hbv hr1
          obtain ⟨c30,c31,c32,c33,c34,c35,c36,c37,fx3⟩:=K2.out.cells
          simp only at c30 c31 c32 c33 c34 c35 c36 c37
          clear fx3
          go_wp2_with fail
          refine ((show Calls _ _ _ _ _ from by have q:=rtwo_n (W.heap.size + 1) _ l.length c l s1 _ K2.out.rd rm.out.1 rm.out.2;rw [ev1,ev2] at q;exact q)).mono ?_
          rintro e w3_ ⟨rfl,rd⟩
          have K3_:=Lib.hid (K2.out.call rd)
          clear rd K2 c30 c31 c32 c33 c34 c35 c36 c37
          obtain ⟨c40,c41,c42,c43,c44,c45,c46,c47,fx4⟩:=K3_.out.cells
          simp only at c40 c41 c42 c43 c44 c45 c46 c47
          have f40:=fx4 0
          have f42:=fx4 2
          have Ks4:=Lib.hid ((K3_.out.set 0 (.int .i8 op) ⟨op,w0,0,0,0,0,0,0⟩ rfl).set 2 (.int .i8 v2) ⟨op,w0,v2,0,0,0,0,0⟩ rfl)
          clear fx4
          go_wp2_with (with_reducible (refine (GP.out _).mono ?_);rintro e z ⟨rfl,rfl⟩)
          go_meet
          have E:codeR l 211 half ⟨-1,w0,0,0,0,0,0,0⟩ s1=(⟨op,w0,v2,0,0,0,0,0⟩,twoS l s1):=by subst ev1 ev2;exact grpR_none211 eop (by simpa using h15)
          rw [E]
          exact Ks4.out
      · subst hn
        as_aux_lemma=>
          obtain ⟨v1,ev1⟩:∃ v,byteV l s1 / 8 % 8 + 8 * s1.r=v:=⟨_,rfl⟩
          obtain ⟨v2,ev2⟩:∃ v,byteV l s1 % 8 + 8 * s1.m=v:=⟨_,rfl⟩
          have hbv:=byteV_bd ok.out s1
          have hr1:=rm.out.1
          have e7:bits .and .i8 v1 7=byteV l s1 / 8 % 8:=by rw [and7c (by omega)];omega
          have GP:=Lib.hid (fun W=>grp_247 (byteV l s1 / 8 % 8) (by omega) (by omega) W)
          obtain ⟨op,eop⟩:∃ v,grpI 247 (byteV l s1 / 8 % 8)=v:=⟨_,rfl⟩
          rw [eop] at GP
          obtain ⟨g7,eg7⟩:∃ g,byteV l s1 / 8 % 8=g:=⟨_,rfl⟩
          rw [eg7] at e7 GP
          clear hbv hr1
          obtain ⟨c30,c31,c32,c33,c34,c35,c36,c37,fx3⟩:=K2.out.cells
          simp only at c30 c31 c32 c33 c34 c35 c36 c37
          clear fx3
          go_wp2_with fail
          refine ((show Calls _ _ _ _ _ from by have q:=rtwo_n (W.heap.size + 1) _ l.length c l s1 _ K2.out.rd rm.out.1 rm.out.2;rw [ev1,ev2] at q;exact q)).mono ?_
          rintro e w3_ ⟨rfl,rd⟩
          have K3_:=Lib.hid (K2.out.call rd)
          clear rd K2 c30 c31 c32 c33 c34 c35 c36 c37
          rcases Bool.eq_false_or_eq_true (op == 15) with h15 | h15
          · skip
            obtain ⟨c40,c41,c42,c43,c44,c45,c46,c47,fx4⟩:=K3_.out.cells
            simp only at c40 c41 c42 c43 c44 c45 c46 c47
            have f40:=fx4 0
            have f42:=fx4 2
            have Ks4:=Lib.hid ((K3_.out.set 0 (.int .i8 op) ⟨op,w0,0,0,0,0,0,0⟩ rfl).set 2 (.int .i8 v2) ⟨op,w0,v2,0,0,0,0,0⟩ rfl)
            clear fx4
            go_wp2_with (with_reducible (refine (GP.out _).mono ?_);rintro e z ⟨rfl,rfl⟩)
            obtain ⟨v4,ev4⟩:∃ v,sg32 (numA l (twoS l s1) 4)=v:=⟨_,rfl⟩
            go_wp2_with fail
            refine ((show Calls _ _ _ _ _ from by have q:=rnum_4 (W.heap.size + 1) _ l.length c l (twoS l s1) _ Ks4.out.rd;rw [ev4] at q;exact q)).mono ?_
            rintro e w4_ ⟨rfl,rd⟩
            have K4_:=Lib.hid (Ks4.out.call rd)
            clear rd Ks4 K3_ c40 c41 c42 c43 c44 c45 c46 c47 f40 f42
            obtain ⟨c50,c51,c52,c53,c54,c55,c56,c57,fx5⟩:=K4_.out.cells
            simp only at c50 c51 c52 c53 c54 c55 c56 c57
            have f56:=fx5 6
            have Ks5:=Lib.hid (K4_.out.set 6 (.int .i64 v4) ⟨op,w0,v2,0,0,0,v4,0⟩ rfl)
            clear fx5
            go_wp2_with fail
            go_meet
            have E:codeR l 247 half ⟨-1,w0,0,0,0,0,0,0⟩ s1=(⟨op,w0,v2,0,0,0,v4,0⟩,numS l (twoS l s1) 4):=by subst ev1 ev2 ev4;exact grpR_num247 eop (by simpa using h15)
            rw [E]
            exact Ks5.out
          · skip
            obtain ⟨c40,c41,c42,c43,c44,c45,c46,c47,fx4⟩:=K3_.out.cells
            simp only at c40 c41 c42 c43 c44 c45 c46 c47
            have f40:=fx4 0
            have f42:=fx4 2
            have Ks4:=Lib.hid ((K3_.out.set 0 (.int .i8 op) ⟨op,w0,0,0,0,0,0,0⟩ rfl).set 2 (.int .i8 v2) ⟨op,w0,v2,0,0,0,0,0⟩ rfl)
            clear fx4
            go_wp2_with (with_reducible (refine (GP.out _).mono ?_);rintro e z ⟨rfl,rfl⟩)
            go_meet
            have E:codeR l 247 half ⟨-1,w0,0,0,0,0,0,0⟩ s1=(⟨op,w0,v2,0,0,0,0,0⟩,twoS l s1):=by subst ev1 ev2;exact grpR_none247 eop (by simpa using h15)
            rw [E]
            exact Ks4.out
      · subst hn
        as_aux_lemma=>
          obtain ⟨v1,ev1⟩:∃ v,byteV l s1 / 8 % 8 + 8 * s1.r=v:=⟨_,rfl⟩
          obtain ⟨v2,ev2⟩:∃ v,byteV l s1 % 8 + 8 * s1.m=v:=⟨_,rfl⟩
          obtain ⟨v4,ev4⟩:∃ v,sg32 (numA l (twoS l s1) 4)=v:=⟨_,rfl⟩
          obtain ⟨c30,c31,c32,c33,c34,c35,c36,c37,fx3⟩:=K2.out.cells
          simp only at c30 c31 c32 c33 c34 c35 c36 c37
          have f30:=fx3 0
          have Ks3:=Lib.hid (K2.out.set 0 (.int .i8 1) ⟨1,w0,0,0,0,0,0,0⟩ rfl)
          clear fx3
          go_wp2_with fail
          refine ((show Calls _ _ _ _ _ from by have q:=rtwo_n (W.heap.size + 1) _ l.length c l s1 _ Ks3.out.rd rm.out.1 rm.out.2;rw [ev1,ev2] at q;exact q)).mono ?_
          rintro e w3_ ⟨rfl,rd⟩
          have K3_:=Lib.hid (Ks3.out.call rd)
          clear rd Ks3 K2 c30 c31 c32 c33 c34 c35 c36 c37 f30
          obtain ⟨c40,c41,c42,c43,c44,c45,c46,c47,fx4⟩:=K3_.out.cells
          simp only at c40 c41 c42 c43 c44 c45 c46 c47
          have f42:=fx4 2
          have Ks4:=Lib.hid (K3_.out.set 2 (.int .i8 v2) ⟨1,w0,v2,0,0,0,0,0⟩ rfl)
          clear fx4
          go_wp2_with fail
          refine ((show Calls _ _ _ _ _ from by have q:=rnum_4 (W.heap.size + 1) _ l.length c l (twoS l s1) _ Ks4.out.rd;rw [ev4] at q;exact q)).mono ?_
          rintro e w4_ ⟨rfl,rd⟩
          have K4_:=Lib.hid (Ks4.out.call rd)
          clear rd Ks4 K3_ c40 c41 c42 c43 c44 c45 c46 c47 f42
          obtain ⟨c50,c51,c52,c53,c54,c55,c56,c57,fx5⟩:=K4_.out.cells
          simp only at c50 c51 c52 c53 c54 c55 c56 c57
          have f56:=fx5 6
          have Ks5:=Lib.hid (K4_.out.set 6 (.int .i64 v4) ⟨1,w0,v2,0,0,0,v4,0⟩ rfl)
          clear fx5
          go_wp2_with fail
          go_meet
          have E:codeR l 199 half ⟨-1,w0,0,0,0,0,0,0⟩ s1=(⟨1,w0,v2,0,0,0,v4,0⟩,numS l (twoS l s1) 4):=by subst ev1 ev2 ev4;rfl
          rw [E]
          exact Ks5.out
      · subst hn
        as_aux_lemma=>
          obtain ⟨v1,ev1⟩:∃ v,byteV l s1 / 8 % 8 + 8 * s1.r=v:=⟨_,rfl⟩
          obtain ⟨v2,ev2⟩:∃ v,byteV l s1 % 8 + 8 * s1.m=v:=⟨_,rfl⟩
          obtain ⟨v3,ev3⟩:∃ v,sg32 (numA l (mem2S l s1) 4)=v:=⟨_,rfl⟩
          obtain ⟨c30,c31,c32,c33,c34,c35,c36,c37,fx3⟩:=K2.out.cells
          simp only at c30 c31 c32 c33 c34 c35 c36 c37
          have f30:=fx3 0
          have Ks3:=Lib.hid (K2.out.set 0 (.int .i8 26) ⟨26,w0,0,0,0,0,0,0⟩ rfl)
          clear fx3
          go_wp2_with fail
          refine ((show Calls _ _ _ _ _ from by have q:=rmem_n (W.heap.size + 1) _ l.length c l s1 _ Ks3.out.rd rm.out.1 rm.out.2;rw [ev1,ev2,ev3] at q;exact q)).mono ?_
          rintro e w3_ ⟨rfl,rd⟩
          have K3_:=Lib.hid (Ks3.out.call rd)
          clear rd Ks3 K2 c30 c31 c32 c33 c34 c35 c36 c37 f30
          obtain ⟨c40,c41,c42,c43,c44,c45,c46,c47,fx4⟩:=K3_.out.cells
          simp only at c40 c41 c42 c43 c44 c45 c46 c47
          have f42:=fx4 2
          have f44:=fx4 4
          have f45:=fx4 5
          have Ks4:=Lib.hid (((K3_.out.set 2 (.int .i8 v1) ⟨26,w0,v1,0,0,0,0,0⟩ rfl).set 4 (.int .i8 v2) ⟨26,w0,v1,0,v2,0,0,0⟩ rfl).set 5 (.int .i64 v3) ⟨26,w0,v1,0,v2,v3,0,0⟩ rfl)
          clear fx4
          go_wp2_with fail
          go_meet
          have E:codeR l 139 half ⟨-1,w0,0,0,0,0,0,0⟩ s1=(⟨26,w0,v1,0,v2,v3,0,0⟩,numS l (mem2S l s1) 4):=by subst ev1 ev2 ev3;rfl
          rw [E]
          exact Ks4.out
      · subst hn
        as_aux_lemma=>
          obtain ⟨v1,ev1⟩:∃ v,byteV l s1 / 8 % 8 + 8 * s1.r=v:=⟨_,rfl⟩
          obtain ⟨v2,ev2⟩:∃ v,byteV l s1 % 8 + 8 * s1.m=v:=⟨_,rfl⟩
          obtain ⟨v3,ev3⟩:∃ v,sg32 (numA l (mem2S l s1) 4)=v:=⟨_,rfl⟩
          obtain ⟨c30,c31,c32,c33,c34,c35,c36,c37,fx3⟩:=K2.out.cells
          simp only at c30 c31 c32 c33 c34 c35 c36 c37
          have f30:=fx3 0
          have f31:=fx3 1
          have Ks3:=Lib.hid ((K2.out.set 0 (.int .i8 27) ⟨27,w0,0,0,0,0,0,0⟩ rfl).set 1 (.int .i8 8) ⟨27,8,0,0,0,0,0,0⟩ rfl)
          clear fx3
          go_wp2_with fail
          refine ((show Calls _ _ _ _ _ from by have q:=rmem_n (W.heap.size + 1) _ l.length c l s1 _ Ks3.out.rd rm.out.1 rm.out.2;rw [ev1,ev2,ev3] at q;exact q)).mono ?_
          rintro e w3_ ⟨rfl,rd⟩
          have K3_:=Lib.hid (Ks3.out.call rd)
          clear rd Ks3 K2 c30 c31 c32 c33 c34 c35 c36 c37 f30 f31
          obtain ⟨c40,c41,c42,c43,c44,c45,c46,c47,fx4⟩:=K3_.out.cells
          simp only at c40 c41 c42 c43 c44 c45 c46 c47
          have f43:=fx4 3
          have f44:=fx4 4
          have f45:=fx4 5
          have Ks4:=Lib.hid (((K3_.out.set 3 (.int .i8 v1) ⟨27,8,0,v1,0,0,0,0⟩ rfl).set 4 (.int .i8 v2) ⟨27,8,0,v1,v2,0,0,0⟩ rfl).set 5 (.int .i64 v3) ⟨27,8,0,v1,v2,v3,0,0⟩ rfl)
          clear fx4
          go_wp2_with fail
          go_meet
          have E:codeR l 136 half ⟨-1,w0,0,0,0,0,0,0⟩ s1=(⟨27,8,0,v1,v2,v3,0,0⟩,numS l (mem2S l s1) 4):=by subst ev1 ev2 ev3;rfl
          rw [E]
          exact Ks4.out
      · subst hn
        as_aux_lemma=>
          obtain ⟨v4,ev4⟩:∃ v,sg8 (numA l s1 1)=v:=⟨_,rfl⟩
          obtain ⟨c30,c31,c32,c33,c34,c35,c36,c37,fx3⟩:=K2.out.cells
          simp only at c30 c31 c32 c33 c34 c35 c36 c37
          have f30:=fx3 0
          have f31:=fx3 1
          have Ks3:=Lib.hid ((K2.out.set 0 (.int .i8 28) ⟨28,w0,0,0,0,0,0,0⟩ rfl).set 1 (.int .i8 8) ⟨28,8,0,0,0,0,0,0⟩ rfl)
          clear fx3
          go_wp2_with fail
          refine ((show Calls _ _ _ _ _ from by have q:=rnum_1 (W.heap.size + 1) _ l.length c l s1 _ Ks3.out.rd;rw [ev4] at q;exact q)).mono ?_
          rintro e w3_ ⟨rfl,rd⟩
          have K3_:=Lib.hid (Ks3.out.call rd)
          clear rd Ks3 K2 c30 c31 c32 c33 c34 c35 c36 c37 f30 f31
          obtain ⟨c40,c41,c42,c43,c44,c45,c46,c47,fx4⟩:=K3_.out.cells
          simp only at c40 c41 c42 c43 c44 c45 c46 c47
          have f46:=fx4 6
          have Ks4:=Lib.hid (K3_.out.set 6 (.int .i64 v4) ⟨28,8,0,0,0,0,v4,0⟩ rfl)
          clear fx4
          go_wp2_with fail
          go_meet
          have E:codeR l 235 half ⟨-1,w0,0,0,0,0,0,0⟩ s1=(⟨28,8,0,0,0,0,v4,0⟩,numS l s1 1):=by subst ev4;rfl
          rw [E]
          exact Ks4.out
      · subst hn
        as_aux_lemma=>
          obtain ⟨v4,ev4⟩:∃ v,sg32 (numA l s1 4)=v:=⟨_,rfl⟩
          obtain ⟨c30,c31,c32,c33,c34,c35,c36,c37,fx3⟩:=K2.out.cells
          simp only at c30 c31 c32 c33 c34 c35 c36 c37
          have f30:=fx3 0
          have Ks3:=Lib.hid (K2.out.set 0 (.int .i8 28) ⟨28,w0,0,0,0,0,0,0⟩ rfl)
          clear fx3
          go_wp2_with fail
          refine ((show Calls _ _ _ _ _ from by have q:=rnum_4 (W.heap.size + 1) _ l.length c l s1 _ Ks3.out.rd;rw [ev4] at q;exact q)).mono ?_
          rintro e w3_ ⟨rfl,rd⟩
          have K3_:=Lib.hid (Ks3.out.call rd)
          clear rd Ks3 K2 c30 c31 c32 c33 c34 c35 c36 c37 f30
          obtain ⟨c40,c41,c42,c43,c44,c45,c46,c47,fx4⟩:=K3_.out.cells
          simp only at c40 c41 c42 c43 c44 c45 c46 c47
          have f46:=fx4 6
          have Ks4:=Lib.hid (K3_.out.set 6 (.int .i64 v4) ⟨28,w0,0,0,0,0,v4,0⟩ rfl)
          clear fx4
          go_wp2_with fail
          go_meet
          have E:codeR l 233 half ⟨-1,w0,0,0,0,0,0,0⟩ s1=(⟨28,w0,0,0,0,0,v4,0⟩,numS l s1 4):=by subst ev4;rfl
          rw [E]
          exact Ks4.out
      · subst hn
        as_aux_lemma=>
          obtain ⟨c30,c31,c32,c33,c34,c35,c36,c37,fx3⟩:=K2.out.cells
          simp only at c30 c31 c32 c33 c34 c35 c36 c37
          have f30:=fx3 0
          have f31:=fx3 1
          have Ks3:=Lib.hid ((K2.out.set 0 (.int .i8 30) ⟨30,w0,0,0,0,0,0,0⟩ rfl).set 1 (.int .i8 0) ⟨30,0,0,0,0,0,0,0⟩ rfl)
          clear fx3
          go_wp2_with fail
          go_meet
          have E:codeR l 195 half ⟨-1,w0,0,0,0,0,0,0⟩ s1=(⟨30,0,0,0,0,0,0,0⟩,s1):=by rfl
          rw [E]
          exact Ks3.out
      · subst hn
        as_aux_lemma=>
          obtain ⟨y,ey⟩:∃ v,bhX l s1 ⟨-1,w0,0,0,0,0,0,0⟩=v:=⟨_,rfl⟩
          obtain ⟨yop,yw,ydst,ysrc,ybase,ydisp,yimm,ycc⟩:=y
          obtain ⟨c30,c31,c32,c33,c34,c35,c36,c37,fx3⟩:=K2.out.cells
          simp only at c30 c31 c32 c33 c34 c35 c36 c37
          clear fx3
          go_wp2_with fail
          refine ((show Calls _ _ _ _ _ from by have q:=rbh_n (W.heap.size + 1) _ l.length c l s1 ⟨-1,w0,0,0,0,0,0,0⟩ _ K2.out.rd rm.out.1 rm.out.2;rw [ey] at q;exact q)).mono ?_
          rintro e w3_ ⟨rfl,rd⟩
          have K3_:=Lib.hid (K2.out.call rd)
          clear rd K2 c30 c31 c32 c33 c34 c35 c36 c37
          go_wp2_with (with_reducible refine (halt_store 26 _ _ rfl ?_))
          refine ⟨?_,trivial⟩
          refine wpList_store_is rfl 26 _ _ rfl (W.heap.size + 2) (xC ⟨yop,yw,ydst,ysrc,ybase,ydisp,yimm,ycc⟩) rfl rfl _ _ K3_.out.x (by kernel_rfl) rfl (by kernel_rfl) ?_
          intro w8 S8
          have K8:=Lib.hid (K3_.out.store rfl S8)
          clear S8 K3_
          go_wp2_with fail
          go_meet
          rw [show codeR l 15 half ⟨-1,w0,0,0,0,0,0,0⟩ s1=(bhX l s1 ⟨-1,w0,0,0,0,0,0,0⟩,bhS l s1) from rfl,ey]
          exact K8.out
      · skip
        as_aux_lemma=>
          have t0:(n == 137)=false:=beq_eq_false_iff_ne.2 hn.1
          have t1:(n == 1)=false:=beq_eq_false_iff_ne.2 hn.2.1
          have t2:(n == 9)=false:=beq_eq_false_iff_ne.2 hn.2.2.1
          have t3:(n == 33)=false:=beq_eq_false_iff_ne.2 hn.2.2.2.1
          have t4:(n == 41)=false:=beq_eq_false_iff_ne.2 hn.2.2.2.2.1
          have t5:(n == 49)=false:=beq_eq_false_iff_ne.2 hn.2.2.2.2.2.1
          have t6:(n == 57)=false:=beq_eq_false_iff_ne.2 hn.2.2.2.2.2.2.1
          have t7:(n == 133)=false:=beq_eq_false_iff_ne.2 hn.2.2.2.2.2.2.2.1
          have t8:(n == 129)=false:=beq_eq_false_iff_ne.2 hn.2.2.2.2.2.2.2.2.1
          have t9:(n == 193)=false:=beq_eq_false_iff_ne.2 hn.2.2.2.2.2.2.2.2.2.1
          have t10:(n == 211)=false:=beq_eq_false_iff_ne.2 hn.2.2.2.2.2.2.2.2.2.2.1
          have t11:(n == 247)=false:=beq_eq_false_iff_ne.2 hn.2.2.2.2.2.2.2.2.2.2.2.1
          have t12:(n == 199)=false:=beq_eq_false_iff_ne.2 hn.2.2.2.2.2.2.2.2.2.2.2.2.1
          have t13:(n == 139)=false:=beq_eq_false_iff_ne.2 hn.2.2.2.2.2.2.2.2.2.2.2.2.2.1
          have t14:(n == 136)=false:=beq_eq_false_iff_ne.2 hn.2.2.2.2.2.2.2.2.2.2.2.2.2.2.1
          have t15:(n == 235)=false:=beq_eq_false_iff_ne.2 hn.2.2.2.2.2.2.2.2.2.2.2.2.2.2.2.1
          have t16:(n == 233)=false:=beq_eq_false_iff_ne.2 hn.2.2.2.2.2.2.2.2.2.2.2.2.2.2.2.2.1
          have t17:(n == 195)=false:=beq_eq_false_iff_ne.2 hn.2.2.2.2.2.2.2.2.2.2.2.2.2.2.2.2.2.1
          have t18:(n == 15)=false:=beq_eq_false_iff_ne.2 hn.2.2.2.2.2.2.2.2.2.2.2.2.2.2.2.2.2.2
          obtain ⟨y,ey⟩:∃ v,rngX l s1 ⟨-1,w0,0,0,0,0,0,0⟩ n=v:=⟨_,rfl⟩
          obtain ⟨yop,yw,ydst,ysrc,ybase,ydisp,yimm,ycc⟩:=y
          obtain ⟨c30,c31,c32,c33,c34,c35,c36,c37,fx3⟩:=K2.out.cells
          simp only at c30 c31 c32 c33 c34 c35 c36 c37
          clear fx3
          go_wp2_with fail
          refine ((show Calls _ _ _ _ _ from by have q:=rrng_n (W.heap.size + 1) _ l.length c l s1 ⟨-1,w0,0,0,0,0,0,0⟩ n _ K2.out.rd rm.out.2;rw [ey] at q;exact q)).mono ?_
          rintro e w3_ ⟨rfl,rd⟩
          have K3_:=Lib.hid (K2.out.call rd)
          clear rd K2 c30 c31 c32 c33 c34 c35 c36 c37
          go_wp2_with (with_reducible refine (halt_store 26 _ _ rfl ?_))
          refine ⟨?_,trivial⟩
          refine wpList_store_is rfl 26 _ _ rfl (W.heap.size + 2) (xC ⟨yop,yw,ydst,ysrc,ybase,ydisp,yimm,ycc⟩) rfl rfl _ _ K3_.out.x (by kernel_rfl) rfl (by kernel_rfl) ?_
          intro w8 S8
          have K8:=Lib.hid (K3_.out.store rfl S8)
          clear S8 K3_
          go_wp2_with fail
          go_meet
          rw [show codeR l n half ⟨-1,w0,0,0,0,0,0,0⟩ s1=(rngX l s1 ⟨-1,w0,0,0,0,0,0,0⟩ n,rngS l s1 n) from codeR_else hn,ey]
          exact K8.out
    case rest=>
      have K3:=Lib.hid hcut.out
      clear hcut K2
      have hw:=codeR_w l n half ⟨-1,w0,0,0,0,0,0,0⟩ s1 bw0.out
      generalize codeR l n half ⟨-1,w0,0,0,0,0,0,0⟩ s1=p at *
      obtain ⟨x,s⟩:=p
      obtain ⟨pos,bad,wide,rr,mm⟩:=s
      simp only at K3 hw
      have lo:=K3.out.rd.lo
      have hi:=K3.out.rd.hi
      simp only at lo hi
      obtain ⟨m,rfl⟩:∃ m:Nat,pos=(m:Int):=⟨pos.toNat,by omega⟩
      have EA:docA l=if bad=true ∨ mayX x=false then none else if bytesX x=l.take m then some (x,(m:Int)) else none:=by
        unfold docA
        rw [DA.out]
        rfl
      obtain ⟨c0,c1,c2,c3,c4,c5,c6,c7,fx⟩:=K3.out.cells
      obtain ⟨i0,i1,i2,i3,i4,i5,iz⟩:=K3.out.rd.cells
      simp only at i1 i2
      clear fx iz i3 i4 i5 DA
      cases bad
      case true=>
        have ED:rdW (docA l)=.tuple #[.agg (xC zX),.int .i64 0,.int .i64 30]:=by rw [EA,if_pos (.inl rfl)];rfl
        clear c0 c1 c2 c3 c4 c5 c6 c7
        obtain ⟨e30,e31,e32,e33,e34,e35,e36,e37,r3⟩:=xcells8 (x:=zX) K3.out.z
        have r30:=r3 0
        have r31:=r3 1
        have r32:=r3 2
        have r33:=r3 3
        have r34:=r3 4
        have r35:=r3 5
        have r36:=r3 6
        have r37:=r3 7
        clear r3
        go_wp2_with fail
        exact bodyPost_ret (results_row3 rfl _ _ _ W.heap.size _ rfl (run_loadVar_row _ W.heap.size _ _ _ _ _ (row8 (x:=zX) (y:=zX) K3.out.z) Tryd.underlying26 rfl (by kernel_rfl))) rfl ⟨by first | rfl | (rw [ED];rfl),below_own8 K3.out.b (Nat.le_refl _) _ _ _ _ _ _ _ _⟩
      case false=>
        go_wp2_with fail
        refine (emay_n x _ hw).mono ?_
        rintro e w4 ⟨rfl,b4⟩
        have K4:=Lib.hid (K3.out.on b4)
        clear b4 c0 c1 c2 c3 c4 c5 c6 c7 i0 i1 i2 K3
        rcases Bool.eq_false_or_eq_true (mayX x) with hm | hm
        · have BO:=Lib.hid (bytes_ok x (may_ok hm) hm)
          have B1:=bytes_some x (may_ok hm) hm
          have EB:=Lib.hid (fun w=>ebytes_n x w hw)
          rw [hm] at EB
          simp only [cond_true] at EB
          unfold RetX at EB
          rw [hm]
          obtain ⟨c0,c1,c2,c3,c4,c5,c6,c7,fx⟩:=K4.out.cells
          clear fx
          go_wp2_with fail
          refine (EB.out _).mono ?_
          rintro e w5 ⟨v5,rfl,o5,b5⟩
          obtain ⟨p5,k5,rfl,at5⟩:=o5.at BO.out
          have A5:=Lib.hid at5
          have K5:=Lib.hid (K4.out.on b5)
          clear b5 o5 at5 c0 c1 c2 c3 c4 c5 c6 c7 EB K4
          rw [hm] at EA
          obtain ⟨c0,c1,c2,c3,c4,c5,c6,c7,fx⟩:=K5.out.cells
          obtain ⟨i0,i1,i2,i3,i4,i5,iz⟩:=K5.out.rd.cells
          simp only at i1 i2
          clear fx iz i3 i4 i5 i2
          by_cases hL:(bytesX x).length=m
          · subst hL
            obtain ⟨B,o,rfl,hc⟩:=K5.out.rd.bytes.here (by omega)
            clear hc
            have AC:=Lib.hid (at_cut K5.out.rd.bytes 0 (bytesX x).length c (by omega) (by omega) hfit)
            have CA:=Lib.hid (fun w' (bq:Below w5.heap.size w5 w')=>conv_bytes (A5.out.below (w:=w') bq))
            have CB:=Lib.hid (fun w' (bq:Below w5.heap.size w5 w')=>conv_bytes (AC.out.below (w:=w') bq))
            rw [List.drop_zero] at CB
            have TO:=Lib.hid (show Oks (l.take (bytesX x).length) from fun z hz=>ok.out z (List.mem_of_mem_take hz))
            obtain ⟨t1,et1⟩:∃ t,strOfNums (bytesX x)=t:=⟨_,rfl⟩
            obtain ⟨t2,et2⟩:∃ t,strOfNums (l.take (bytesX x).length)=t:=⟨_,rfl⟩
            rw [et1] at CA
            rw [et2] at CB
            have hmc:((bytesX x).length:Int) ≤ (c:Int):=by omega
            have hml:((bytesX x).length:Int) ≤ (l.length:Int):=by omega
            have hm0:(0:Int) ≤ ((bytesX x).length:Int):=by omega
            have KN:=Lib.hid (fun w' (bq:Below w5.heap.size w5 w')=>show w'.cell? ⟨W.heap.size + 1,1,none⟩=some (.int .i64 ((bytesX x).length:Int)) ∧ (convert 22 9 (.slice p5 (bytesX x).length k5)).run Tryd.prog w'=.ok (.string t1) w' ∧ (convert 22 9 (.slice (some ⟨B,o,none⟩) (bytesX x).length c)).run Tryd.prog w'=.ok (.string t2) w' ∧ Below w5.heap.size w5 w' from ⟨(K5.out.on bq).rd.cells.2.1,CA.out w' bq,CB.out w' bq,bq⟩)
            clear CA CB AC A5
            by_cases hB:bytesX x=l.take (bytesX x).length
            · have es:(t1.toList == t2.toList)=true:=by rw [← et1,← et2,← hB];exact beq_self_eq_true _
              have ED:rdW (docA l)=.tuple #[.agg (xC x),.int .i64 ((bytesX x).length:Int),.int .i64 0]:=by rw [EA,if_neg (by simp),if_pos hB];rfl
              clear et1 et2 EA B1 BO TO hB
              generalize (bytesX x).length=m at *
              go_wp2_with fail
              go_region_held3 (fun w'=>w'.cell? ⟨W.heap.size + 1,1,none⟩=some (.int .i64 (m:Int)) ∧ (convert 22 9 (.slice p5 m k5)).run Tryd.prog w'=.ok (.string t1) w' ∧ (convert 22 9 (.slice (some ⟨B,o,none⟩) m c)).run Tryd.prog w'=.ok (.string t2) w' ∧ Below w5.heap.size w5 w') ((go_split_ands;refine KN.out _ ?_;repeat' (first | assumption | exact Below.refl _ _ | apply Below.drew))) (fail)
              all_goals (
                have K6:=Lib.hid (K5.out.on (Below.drew (Below.refl _ _)))
                have Z5:=Lib.hid K5.out.zero
                have KZ:=Lib.hid (fun w' (q:DK0 _ l.length c l W _ x w')=>show w'.cell? ⟨W.heap.size + 2,0,none⟩=some (.int .i8 x.op) ∧ w'.cell? ⟨W.heap.size + 2,1,none⟩=some (.int .i8 x.w) ∧ w'.cell? ⟨W.heap.size + 2,2,none⟩=some (.int .i8 x.dst) ∧ w'.cell? ⟨W.heap.size + 2,3,none⟩=some (.int .i8 x.src) ∧ w'.cell? ⟨W.heap.size + 2,4,none⟩=some (.int .i8 x.base) ∧ w'.cell? ⟨W.heap.size + 2,5,none⟩=some (.int .i64 x.disp) ∧ w'.cell? ⟨W.heap.size + 2,6,none⟩=some (.int .i64 x.imm) ∧ w'.cell? ⟨W.heap.size + 2,7,none⟩=some (.int .i8 x.cc) ∧ w'.cell? ⟨W.heap.size + 1,1,none⟩=some (.int .i64 (m:Int)) ∧ DK0 (some ⟨B,o,none⟩) l.length c l W ⟨(m:Int),false,wide,rr,mm⟩ x w' from by
                  obtain ⟨c0,c1,c2,c3,c4,c5,c6,c7,fx⟩:=xcells8 q.x
                  exact ⟨c0,c1,c2,c3,c4,c5,c6,c7,q.rd.cells.2.1,q⟩)
                clear c0 c1 c2 c3 c4 c5 c6 c7 i1
                obtain ⟨e60,e61,e62,e63,e64,e65,e66,e67,r6⟩:=xcells8 (x:=zX) K5.out.z
                have r60:=r6 0
                have r61:=r6 1
                have r62:=r6 2
                have r63:=r6 3
                have r64:=r6 4
                have r65:=r6 5
                have r66:=r6 6
                have r67:=r6 7
                clear r6
                go_wp2_with fail
                go_region_held3 (fun w'=>w'.cell? ⟨W.heap.size + 2,0,none⟩=some (.int .i8 x.op) ∧ w'.cell? ⟨W.heap.size + 2,1,none⟩=some (.int .i8 x.w) ∧ w'.cell? ⟨W.heap.size + 2,2,none⟩=some (.int .i8 x.dst) ∧ w'.cell? ⟨W.heap.size + 2,3,none⟩=some (.int .i8 x.src) ∧ w'.cell? ⟨W.heap.size + 2,4,none⟩=some (.int .i8 x.base) ∧ w'.cell? ⟨W.heap.size + 2,5,none⟩=some (.int .i64 x.disp) ∧ w'.cell? ⟨W.heap.size + 2,6,none⟩=some (.int .i64 x.imm) ∧ w'.cell? ⟨W.heap.size + 2,7,none⟩=some (.int .i8 x.cc) ∧ w'.cell? ⟨W.heap.size + 1,1,none⟩=some (.int .i64 (m:Int)) ∧ DK0 (some ⟨B,o,none⟩) l.length c l W ⟨(m:Int),false,wide,rr,mm⟩ x w') ((go_split_ands;refine KZ.out _ ?_;repeat' (first | with_reducible exact Z5.out | with_reducible apply DK0.drew | with_reducible apply DK0.setz))) (fail)
                all_goals (
                  go_wp2_with fail
                  exact bodyPost_ret (results_row3 rfl _ _ _ W.heap.size _ rfl (run_loadVar_row _ W.heap.size _ _ _ _ _ (row_drew (row_drew (row8 (x:=zX) (y:=x) K5.out.z))) Tryd.underlying26 rfl (by kernel_rfl))) rfl ⟨by first | rfl | (rw [ED];rfl),(Below.drew (Below.drew (below_own8 K5.out.b (Nat.le_refl _) _ _ _ _ _ _ _ _)))⟩))
            · have es:(t1.toList == t2.toList)=false:=by rw [← et1,← et2];exact str_nd BO.out TO.out hB
              have ED:rdW (docA l)=.tuple #[.agg (xC zX),.int .i64 0,.int .i64 30]:=by rw [EA,if_neg (by simp),if_neg hB];rfl
              clear et1 et2 EA B1 BO TO hB
              generalize (bytesX x).length=m at *
              go_wp2_with fail
              go_region_held3 (fun w'=>w'.cell? ⟨W.heap.size + 1,1,none⟩=some (.int .i64 (m:Int)) ∧ (convert 22 9 (.slice p5 m k5)).run Tryd.prog w'=.ok (.string t1) w' ∧ (convert 22 9 (.slice (some ⟨B,o,none⟩) m c)).run Tryd.prog w'=.ok (.string t2) w' ∧ Below w5.heap.size w5 w') ((go_split_ands;refine KN.out _ ?_;repeat' (first | assumption | exact Below.refl _ _ | apply Below.drew))) (fail)
              all_goals (
                have K6:=Lib.hid (K5.out.on (Below.drew (Below.refl _ _)))
                clear c0 c1 c2 c3 c4 c5 c6 c7 i1
                obtain ⟨e60,e61,e62,e63,e64,e65,e66,e67,r6⟩:=xcells8 (x:=zX) K5.out.z
                have r60:=r6 0
                have r61:=r6 1
                have r62:=r6 2
                have r63:=r6 3
                have r64:=r6 4
                have r65:=r6 5
                have r66:=r6 6
                have r67:=r6 7
                clear r6
                go_wp2_with fail
                exact bodyPost_ret (results_row3 rfl _ _ _ W.heap.size _ rfl (run_loadVar_row _ W.heap.size _ _ _ _ _ (row_drew (row8 (x:=zX) (y:=zX) K5.out.z)) Tryd.underlying26 rfl (by kernel_rfl))) rfl ⟨by first | rfl | (rw [ED];rfl),(Below.drew (below_own8 K5.out.b (Nat.le_refl _) _ _ _ _ _ _ _ _))⟩)
          · have ED:rdW (docA l)=.tuple #[.agg (xC zX),.int .i64 0,.int .i64 30]:=by
              rw [EA,if_neg (by simp),if_neg (fun e=>hL (by have q:=congrArg List.length e;rw [List.length_take,Nat.min_eq_left (by omega)] at q;exact q))]
              rfl
            have tB:((bytesX x).length:Int) ≠ (m:Int):=by omega
            have KN:=Lib.hid (fun w' (bq:Below w5.heap.size w5 w')=>show w'.cell? ⟨W.heap.size + 1,1,none⟩=some (.int .i64 (m:Int)) ∧ Below w5.heap.size w5 w' from ⟨(K5.out.on bq).rd.cells.2.1,bq⟩)
            clear A5 B1 BO EA
            generalize (bytesX x).length=k at *
            go_wp2_with fail
            refine wp_region_inv (fun _=>100000) (fun w'=>w'.cell? ⟨W.heap.size + 1,1,none⟩=some (.int .i64 (m:Int)) ∧ Below w5.heap.size w5 w') (TabV [fun v=>v=.slice p5 k k5,fun v=>v=.int .i64 (k:Int),fun v=>v=.pointer (some ⟨W.heap.size + 1,0,none⟩),fun v=>v=.pointer (some ⟨W.heap.size + 1,0,none⟩),fun v=>v=.pointer (some ⟨W.heap.size + 1,1,none⟩),fun v=>v=.int .i64 (m:Int),fun v=>v=.bool true,fun v=>v=.bool true,fun v=>v=undef,fun v=>v=undef,fun v=>v=undef,fun v=>v=undef,fun v=>v=undef,fun v=>v=undef,fun v=>v=undef,fun v=>v=undef,fun v=>v=undef,fun v=>v=undef,fun v=>v=.bool true]) (by kernel_rfl) (back_of (by kernel_rfl)) (dst_of (by kernel_rfl)) (dep_of (by kernel_rfl)) (in_of (by kernel_rfl)) (KN.out _ (Below.drew (Below.refl _ _))) ?hop ?hq
            case hop=>
              intro i o a w ho hS hdf hsz hrest hdone
              have t5:a.tmps.getD 5 undef=.pointer (some ⟨W.heap.size + 1,0,none⟩):=hrest 5 (not_of (by kernel_rfl))
              have t12:a.tmps.getD 12 undef=.slice p5 k k5:=hrest 12 (not_of (by kernel_rfl))
              have hs:a.tmps.size=229:=hsz.trans rfl
              have hi:i < 19:=(Array.getElem?_eq_some_iff.1 ho).1
              clear hrest hsz hdf
              obtain rfl | rfl | rfl | rfl | rfl | rfl | rfl | rfl | rfl | rfl | rfl | rfl | rfl | rfl | rfl | rfl | rfl | rfl | rfl:i=0 ∨ i=1 ∨ i=2 ∨ i=3 ∨ i=4 ∨ i=5 ∨ i=6 ∨ i=7 ∨ i=8 ∨ i=9 ∨ i=10 ∨ i=11 ∨ i=12 ∨ i=13 ∨ i=14 ∨ i=15 ∨ i=16 ∨ i=17 ∨ i=18:=by omega
              · obtain rfl:=Option.some.inj (show some _=some o from ho)
                refine wpOp_val (v:=.slice p5 k k5) (w':=w) rfl rfl ?_ ⟨_,rfl,?_,hS,fun _ _ _ h=>h⟩
                · simp [execOp,Act.eval,t12]
                · rw [own_put rfl (by rw [hs];omega)];exact rfl
              · obtain rfl:=Option.some.inj (show some _=some o from ho)
                have s204:a.tmps.getD 204 undef=.slice p5 k k5:=hdone _ (Array.mem_of_getElem? (i:=0) rfl) rfl _ rfl
                refine wpOp_val (v:=.int .i64 (k:Int)) (w':=w) rfl rfl ?_ ⟨_,rfl,?_,hS,fun _ _ _ h=>h⟩
                · simp [execOp,Act.eval,s204,go_sem]
                · rw [own_put rfl (by rw [hs];omega)];exact rfl
              · obtain rfl:=Option.some.inj (show some _=some o from ho)
                refine wpOp_val (v:=.pointer (some ⟨W.heap.size + 1,0,none⟩)) (w':=w) rfl rfl ?_ ⟨_,rfl,?_,hS,fun _ _ _ h=>h⟩
                · simp [execOp,Act.eval,t5]
                · rw [own_put rfl (by rw [hs];omega)];exact rfl
              · obtain rfl:=Option.some.inj (show some _=some o from ho)
                have s206:a.tmps.getD 206 undef=.pointer (some ⟨W.heap.size + 1,0,none⟩):=hdone _ (Array.mem_of_getElem? (i:=0) rfl) rfl _ rfl
                refine wpOp_val (v:=.pointer (some ⟨W.heap.size + 1,0,none⟩)) (w':=w) rfl rfl ?_ ⟨_,rfl,?_,hS,fun _ _ _ h=>h⟩
                · simp [execOp,Act.eval,s206,go_sem]
                · rw [own_put rfl (by rw [hs];omega)];exact rfl
              · obtain rfl:=Option.some.inj (show some _=some o from ho)
                have s207:a.tmps.getD 207 undef=.pointer (some ⟨W.heap.size + 1,0,none⟩):=hdone _ (Array.mem_of_getElem? (i:=0) rfl) rfl _ rfl
                refine wpOp_val (v:=.pointer (some ⟨W.heap.size + 1,1,none⟩)) (w':=w) rfl rfl ?_ ⟨_,rfl,?_,hS,fun _ _ _ h=>h⟩
                · simp [execOp,Act.eval,s207,go_sem]
                · rw [own_put rfl (by rw [hs];omega)];exact rfl
              · obtain rfl:=Option.some.inj (show some _=some o from ho)
                have s208:a.tmps.getD 208 undef=.pointer (some ⟨W.heap.size + 1,1,none⟩):=hdone _ (Array.mem_of_getElem? (i:=0) rfl) rfl _ rfl
                refine wpOp_val (v:=.int .i64 (m:Int)) (w':=w) rfl rfl ?_ ⟨_,rfl,?_,hS,fun _ _ _ h=>h⟩
                · simp [execOp,Act.eval,s208,go_sem,hS.1]
                · rw [own_put rfl (by rw [hs];omega)];exact rfl
              · obtain rfl:=Option.some.inj (show some _=some o from ho)
                have s205:a.tmps.getD 205 undef=.int .i64 (k:Int):=hdone _ (Array.mem_of_getElem? (i:=0) rfl) rfl _ rfl
                have s209:a.tmps.getD 209 undef=.int .i64 (m:Int):=hdone _ (Array.mem_of_getElem? (i:=1) rfl) rfl _ rfl
                refine wpOp_val (v:=.bool true) (w':=w) rfl rfl ?_ ⟨_,rfl,?_,hS,fun _ _ _ h=>h⟩
                · simp [execOp,Act.eval,s205,s209,go_sem];omega
                · rw [own_put rfl (by rw [hs];omega)];exact rfl
              · obtain rfl:=Option.some.inj (show some _=some o from ho)
                have s210:a.tmps.getD 210 undef=.bool true:=hdone _ (Array.mem_of_getElem? (i:=0) rfl) rfl _ rfl
                refine wpOp_val (v:=.bool true) (w':=w) rfl rfl ?_ ⟨_,rfl,?_,hS,fun _ _ _ h=>h⟩
                · simp [execOp,Act.eval,s210]
                · rw [own_put rfl (by rw [hs];omega)];exact rfl
              · obtain rfl:=Option.some.inj (show some _=some o from ho)
                have hg:a.tmps.getD 211 undef=.bool true:=hdone _ (Array.mem_of_getElem? (i:=0) rfl) rfl _ rfl
                exact wpOp_no rfl (wanted_no 7 211 (true) hg (by rw [hs];omega) rfl rfl rfl rfl) ⟨_,rfl,by rw [own_put rfl (by rw [hs];omega)];exact rfl,hS,fun _ _ _ h=>h⟩
              · obtain rfl:=Option.some.inj (show some _=some o from ho)
                have hg:a.tmps.getD 211 undef=.bool true:=hdone _ (Array.mem_of_getElem? (i:=1) rfl) rfl _ rfl
                exact wpOp_no rfl (wanted_no 7 211 (true) hg (by rw [hs];omega) rfl rfl rfl rfl) ⟨_,rfl,by rw [own_put rfl (by rw [hs];omega)];exact rfl,hS,fun _ _ _ h=>h⟩
              · obtain rfl:=Option.some.inj (show some _=some o from ho)
                have hg:a.tmps.getD 211 undef=.bool true:=hdone _ (Array.mem_of_getElem? (i:=0) rfl) rfl _ rfl
                exact wpOp_no rfl (wanted_no 7 211 (true) hg (by rw [hs];omega) rfl rfl rfl rfl) ⟨_,rfl,by rw [own_put rfl (by rw [hs];omega)];exact rfl,hS,fun _ _ _ h=>h⟩
              · obtain rfl:=Option.some.inj (show some _=some o from ho)
                have hg:a.tmps.getD 211 undef=.bool true:=hdone _ (Array.mem_of_getElem? (i:=0) rfl) rfl _ rfl
                exact wpOp_no rfl (wanted_no 7 211 (true) hg (by rw [hs];omega) rfl rfl rfl rfl) ⟨_,rfl,by rw [own_put rfl (by rw [hs];omega)];exact rfl,hS,fun _ _ _ h=>h⟩
              · obtain rfl:=Option.some.inj (show some _=some o from ho)
                have hg:a.tmps.getD 211 undef=.bool true:=hdone _ (Array.mem_of_getElem? (i:=1) rfl) rfl _ rfl
                exact wpOp_no rfl (wanted_no 7 211 (true) hg (by rw [hs];omega) rfl rfl rfl rfl) ⟨_,rfl,by rw [own_put rfl (by rw [hs];omega)];exact rfl,hS,fun _ _ _ h=>h⟩
              · obtain rfl:=Option.some.inj (show some _=some o from ho)
                have hg:a.tmps.getD 211 undef=.bool true:=hdone _ (Array.mem_of_getElem? (i:=1) rfl) rfl _ rfl
                exact wpOp_no rfl (wanted_no 7 211 (true) hg (by rw [hs];omega) rfl rfl rfl rfl) ⟨_,rfl,by rw [own_put rfl (by rw [hs];omega)];exact rfl,hS,fun _ _ _ h=>h⟩
              · obtain rfl:=Option.some.inj (show some _=some o from ho)
                have hg:a.tmps.getD 211 undef=.bool true:=hdone _ (Array.mem_of_getElem? (i:=1) rfl) rfl _ rfl
                exact wpOp_no rfl (wanted_no 7 211 (true) hg (by rw [hs];omega) rfl rfl rfl rfl) ⟨_,rfl,by rw [own_put rfl (by rw [hs];omega)];exact rfl,hS,fun _ _ _ h=>h⟩
              · obtain rfl:=Option.some.inj (show some _=some o from ho)
                have hg:a.tmps.getD 211 undef=.bool true:=hdone _ (Array.mem_of_getElem? (i:=2) rfl) rfl _ rfl
                exact wpOp_no rfl (wanted_no 7 211 (true) hg (by rw [hs];omega) rfl rfl rfl rfl) ⟨_,rfl,by rw [own_put rfl (by rw [hs];omega)];exact rfl,hS,fun _ _ _ h=>h⟩
              · obtain rfl:=Option.some.inj (show some _=some o from ho)
                have hg:a.tmps.getD 211 undef=.bool true:=hdone _ (Array.mem_of_getElem? (i:=1) rfl) rfl _ rfl
                exact wpOp_no rfl (wanted_no 7 211 (true) hg (by rw [hs];omega) rfl rfl rfl rfl) ⟨_,rfl,by rw [own_put rfl (by rw [hs];omega)];exact rfl,hS,fun _ _ _ h=>h⟩
              · obtain rfl:=Option.some.inj (show some _=some o from ho)
                have hg:a.tmps.getD 211 undef=.bool true:=hdone _ (Array.mem_of_getElem? (i:=2) rfl) rfl _ rfl
                exact wpOp_no rfl (wanted_no 7 211 (true) hg (by rw [hs];omega) rfl rfl rfl rfl) ⟨_,rfl,by rw [own_put rfl (by rw [hs];omega)];exact rfl,hS,fun _ _ _ h=>h⟩
              · obtain rfl:=Option.some.inj (show some _=some o from ho)
                have s211:a.tmps.getD 211 undef=.bool true:=hdone _ (Array.mem_of_getElem? (i:=0) rfl) rfl _ rfl
                have s221:a.tmps.getD 221 undef=undef:=hdone _ (Array.mem_of_getElem? (i:=1) rfl) rfl _ rfl
                refine wpOp_val (v:=.bool true) (w':=w) rfl rfl ?_ ⟨_,rfl,?_,hS,fun _ _ _ h=>h⟩
                · simp [execOp,Act.eval,s211,go_sem]
                · rw [own_put rfl (by rw [hs];omega)];exact rfl
            case hq=>
              intro u9 w' hS hR9
              have f222:u9 222=.bool true:=hR9 18 _ rfl
              clear hR9
              rw [show outs _ u9=[(204,u9 204),(205,u9 205),(206,u9 206),(207,u9 207),(208,u9 208),(209,u9 209),(210,u9 210),(211,u9 211),(212,u9 212),(213,u9 213),(214,u9 214),(215,u9 215),(216,u9 216),(217,u9 217),(218,u9 218),(219,u9 219),(220,u9 220),(221,u9 221),(222,u9 222)] by kernel_rfl,f222]
              simp only [putAll,List.setIfInBounds_toArray,List.set_cons_zero,List.set_cons_succ]
              generalize u9 204=x204
              generalize u9 205=x205
              generalize u9 206=x206
              generalize u9 207=x207
              generalize u9 208=x208
              generalize u9 209=x209
              generalize u9 210=x210
              generalize u9 211=x211
              generalize u9 212=x212
              generalize u9 213=x213
              generalize u9 214=x214
              generalize u9 215=x215
              generalize u9 216=x216
              generalize u9 217=x217
              generalize u9 218=x218
              generalize u9 219=x219
              generalize u9 220=x220
              generalize u9 221=x221
              clear f222 u9
              have K6:=Lib.hid (K5.out.on hS.2)
              clear hS c0 c1 c2 c3 c4 c5 c6 c7 i1 KN
              obtain ⟨e60,e61,e62,e63,e64,e65,e66,e67,r6⟩:=xcells8 (x:=zX) K6.out.z
              have r60:=r6 0
              have r61:=r6 1
              have r62:=r6 2
              have r63:=r6 3
              have r64:=r6 4
              have r65:=r6 5
              have r66:=r6 6
              have r67:=r6 7
              clear r6
              go_wp2_with fail
              exact bodyPost_ret (results_row3 rfl _ _ _ W.heap.size _ rfl (run_loadVar_row _ W.heap.size _ _ _ _ _ (row8 (x:=zX) (y:=zX) K6.out.z) Tryd.underlying26 rfl (by kernel_rfl))) rfl ⟨by first | rfl | (rw [ED];rfl),below_own8 K6.out.b (Nat.le_refl _) _ _ _ _ _ _ _ _⟩
        · have ED:rdW (docA l)=.tuple #[.agg (xC zX),.int .i64 0,.int .i64 30]:=by rw [EA,if_pos (.inr hm)];rfl
          rw [hm]
          obtain ⟨e40,e41,e42,e43,e44,e45,e46,e47,r4⟩:=xcells8 (x:=zX) K4.out.z
          have r40:=r4 0
          have r41:=r4 1
          have r42:=r4 2
          have r43:=r4 3
          have r44:=r4 4
          have r45:=r4 5
          have r46:=r4 6
          have r47:=r4 7
          clear r4
          go_wp2_with fail
          exact bodyPost_ret (results_row3 rfl _ _ _ W.heap.size _ rfl (run_loadVar_row _ W.heap.size _ _ _ _ _ (row8 (x:=zX) (y:=zX) K4.out.z) Tryd.underlying26 rfl (by kernel_rfl))) rfl ⟨by first | rfl | (rw [ED];rfl),below_own8 K4.out.b (Nat.le_refl _) _ _ _ _ _ _ _ _⟩
end Go.Proofs.YtjhedldplmhmjaaDoor.Mrm
