import Derived.Test.YtigliofiojkhcaaGreatMEx
import Derived.Test.YtigliofiojkhcaaGreatMEa10
import Derived.Test.YtigliofiojkhcaaGreatMRn27
import Derived.Test.YtigliofiojkhcaaGreatMRn04
set_option linter.unusedVariables false
set_option linter.unusedSimpArgs false
set_option linter.unnecessarySimpa false
namespace Go.Proofs.YtigliofiojkhcaaGreat.Ins
open Go.RowKit
set_option maxRecDepth 100000 in
set_option maxHeartbeats 2000000 in
theorem r_check_ctx (c:Int)(a:Option Addr)(len cap:Nat)(W:World)(h:c<0∨(0≤c∧256<c)):
  Calls Tryz.prog 18 #[.agg #[.int .i64 c,.slice a len cap]] W fun e w'=>e=.returned (.tuple #[.int .i64 0,.int .i64 2])∧Below W.heap.size W w':=by
 rcases h with h | ⟨h,h'⟩
 ·go_enter Tryz.func18,Tryz.ntmps18
  go_wp2_with fail
  go_ret2
  exact ⟨rfl,below_new (Below.refl _ _) _⟩
 ·go_enter Tryz.func18,Tryz.ntmps18
  go_wp2_with fail
  go_ret2
  exact ⟨rfl,below_new (Below.refl _ _) _⟩
set_option maxRecDepth 100000 in
set_option maxHeartbeats 2000000 in
theorem r_check_long (c:Int)(a:Option Addr)(len cap:Nat)(W:World)(h0:0≤c)(h1:c≤256)(h:len<1∨(1≤len∧64<len)):
  Calls Tryz.prog 18 #[.agg #[.int .i64 c,.slice a len cap]] W fun e w'=>e=.returned (.tuple #[.int .i64 0,.int .i64 3])∧Below W.heap.size W w':=by
 rcases h with h | ⟨h,h'⟩
 ·go_enter Tryz.func18,Tryz.ntmps18
  go_wp2_with fail
  go_ret2
  exact ⟨rfl,below_new (Below.refl _ _) _⟩
 ·go_enter Tryz.func18,Tryz.ntmps18
  go_wp2_with fail
  go_ret2
  exact ⟨rfl,below_new (Below.refl _ _) _⟩
def chkI (len:Nat)(xs:Nat→In):Int × Int:=
 if (firstF (fun i=>faultI i (xs i) len) len 0).2≠0 then firstF (fun i=>faultI i (xs i) len) len 0
 else if (xs (len - 1)).kind=4∨(xs (len - 1)).kind=6 then (0,0) else ((len:Int) - 1,33)
def ChkE (len:Nat)(xs:Nat→In)(W:World)(e:Ending)(w':World):Prop:=e=.returned (.tuple #[.int .i64 (chkI len xs).1,.int .i64 (chkI len xs).2])∧Below W.heap.size W w'
theorem chk_stop {len:Nat}{xs:Nat→In}{k:Nat}(h:firstF (fun i=>faultI i (xs i) len) len 0=firstF (fun i=>faultI i (xs i) len) (len - k) k)(hk:k<len)(hf:faultI k (xs k) len≠0):chkI len xs=((k:Int),faultI k (xs k) len):=by
 have e:firstF (fun i=>faultI i (xs i) len) (len - k) k=((k:Int),faultI k (xs k) len):=by
  rw [show len - k=(len - (k+1))+1 by omega]
  show (if faultI k (xs k) len=0 then _ else _)=_
  rw [if_neg hf]
 unfold chkI
 rw [h,e,if_pos hf]
theorem chk_go {len:Nat}{xs:Nat→In}{k:Nat}(h:firstF (fun i=>faultI i (xs i) len) len 0=firstF (fun i=>faultI i (xs i) len) (len - k) k)(hk:k<len)(hf:faultI k (xs k) len=0):firstF (fun i=>faultI i (xs i) len) len 0=firstF (fun i=>faultI i (xs i) len) (len - (k+1)) (k+1):=by
 rw [h,show len - k=(len - (k+1))+1 by omega]
 show (if faultI k (xs k) len=0 then _ else _)=_
 rw [if_pos hf]
theorem chk_end {len:Nat}{xs:Nat→In}(h:firstF (fun i=>faultI i (xs i) len) len 0=firstF (fun i=>faultI i (xs i) len) (len - len) len):chkI len xs=if (xs (len - 1)).kind=4∨(xs (len - 1)).kind=6 then (0,0) else ((len:Int) - 1,33):=by
 unfold chkI
 rw [h,Nat.sub_self]
 exact if_neg (fun h=>h rfl)
set_option maxRecDepth 100000 in
set_option maxHeartbeats 8000000 in
theorem r_check_main (c:Int)(a:Option Addr)(len cap:Nat)(xs:Nat→In)(W:World)(hx:Insts W a len cap xs)(h0:0≤c)(h1:c≤256)(g1:1≤len)(g64:len≤64):
  Calls Tryz.prog 18 #[.agg #[.int .i64 c,.slice a len cap]] W (ChkE len xs W):=by
 obtain ⟨B,q,rfl,hcells⟩:=hx.here (by omega)
 have hfit:=hx.fit
 have hle:=hx.le
 have HC:=Lib.hid hcells;clear hcells hx
 go_enter Tryz.func18,Tryz.ntmps18
 go_wp2_with fail
 go_loopw [5] (fun i wr=>∃ k:Nat,k≤len∧i=.int .i64 k∧Hid (Below W.heap.size W wr∧wr.cell? ⟨W.heap.size,1,none⟩=some (.slice (some ⟨B,q,none⟩) len cap)∧W.heap.size<wr.heap.size∧firstF (fun i=>faultI i (xs i) len) len 0=firstF (fun i=>faultI i (xs i) len) (len - k) k)) (fun i _=>len - (intOf i).toNat)
 case atStart=>exact ⟨0,by omega,rfl,Lib.hid ⟨below_new (Below.refl _ _) _,by simp,by simp,by rw [Nat.sub_zero]⟩⟩
 case round=>
  obtain ⟨k,hk,rfl,hR⟩:=hrel
  have hP:=hR.out.2.1
  by_cases hlt:k<len
  ·have HA:=Lib.hid (rangeAt_below hR.out.1 (HC.out k hlt))
   have i9:(Tryz.prog.info? 52).map (·.size)=some (xs k).cells.toList.length:=info_ins
   have HI:=Lib.hid i9
   have M:=Lib.hid (fun W=>r_may (xs k) W)
   have T:=Lib.hid (fun W=>r_target k (xs k) W)
   clear i9
   cases hm:mayI (xs k)
   ·rw [hm] at M
    have hf:faultI k (xs k) len=31:=if_pos hm
    have HS:=Lib.hid (chk_stop hR.out.2.2.2 hlt (by rw [hf];omega))
    rw [hf] at HS
    clear hm hf T
    generalize (xs k).cells=cc at *
    go_wp2_with (refine wpList_load_mid rfl 52 _ rfl B (q+k * 9) rfl cc.toList _ HA.out Tryz.underlying52 rfl HI.out ?_)
    refine (M.out _).mono ?_
    rintro e w2 ⟨rfl,b2⟩
    go_wp2_with fail
    go_ret2
    unfold ChkE
    exact ⟨by rw [HS.out];rfl,below_call hR.out.1 b2⟩
   ·rw [hm] at M
    have hf0:faultI k (xs k) len=if jumpsI k (xs k)=true∧(targetI k (xs k)<0∨(len:Int)≤targetI k (xs k)) then 32 else 0:=by unfold faultI;rw [if_neg (by rw [hm];simp)]
    have HS:=Lib.hid (fun h=>chk_stop hR.out.2.2.2 hlt h)
    have HG:=Lib.hid (fun h=>chk_go hR.out.2.2.2 hlt h)
    clear hm
    generalize faultI k (xs k) len=f at *
    generalize jumpsI k (xs k)=j at *
    generalize targetI k (xs k)=t at *
    generalize (xs k).cells=cc at *
    have hcase:(j=false∧f=0)∨(j=true∧t<0∧f=32)∨(j=true∧0≤t∧len≤t∧f=32)∨(j=true∧0≤t∧t<len∧f=0):=by
     cases j
     ·exact .inl ⟨rfl,by rw [hf0,if_neg (by simp)]⟩
     ·by_cases t0:t<0
      ·exact .inr (.inl ⟨rfl,t0,by rw [hf0,if_pos ⟨rfl,.inl t0⟩]⟩)
      ·by_cases t1:(len:Int)≤t
       ·exact .inr (.inr (.inl ⟨rfl,by omega,t1,by rw [hf0,if_pos ⟨rfl,.inr t1⟩]⟩))
       ·exact .inr (.inr (.inr ⟨rfl,by omega,by omega,by rw [hf0,if_neg (by omega)]⟩))
    clear hf0
    go_wp2_with (refine wpList_load_mid rfl 52 _ rfl B (q+k * 9) rfl cc.toList _ HA.out Tryz.underlying52 rfl HI.out ?_)
    refine (M.out _).mono ?_
    rintro e w2 ⟨rfl,b2⟩
    have W2:=Lib.hid (below_call hR.out.1 b2)
    have hP2:=(b2.cell (p:=⟨W.heap.size,1,none⟩) hR.out.2.2.1).trans hP
    have HA2:=Lib.hid (rangeAt_below b2 HA.out)
    have hz2:W.heap.size<w2.heap.size:=by have:=hR.out.2.2.1;have:=b2.size;omega
    clear b2
    go_wp2_with (refine wpList_load_mid rfl 52 _ rfl B (q+k * 9) rfl cc.toList _ HA2.out Tryz.underlying52 rfl HI.out ?_)
    refine (T.out _).mono ?_
    rintro e w3 ⟨rfl,b3⟩
    have W3:=Lib.hid (below_call W2.out b3)
    have hP3:=Lib.hid ((b3.cell (p:=⟨W.heap.size,1,none⟩) hz2).trans hP2)
    have hz3:=Lib.hid (Nat.lt_of_lt_of_le hz2 b3.size)
    clear b3 hP2 hP hz2
    rcases hcase with ⟨rfl,rfl⟩ | ⟨rfl,t0,rfl⟩ | ⟨rfl,t0,t1,rfl⟩ | ⟨rfl,t0,t1,rfl⟩
    ·go_wp2_with fail
     go_roundw
     case rel=>exact ⟨k+1,by omega,by go_num,Lib.hid ⟨W3.out,hP3.out,hz3.out,HG.out trivial⟩⟩
     case measure=>simp [intOf];omega
    ·go_wp2_with fail
     go_ret2
     unfold ChkE
     exact ⟨by rw [HS.out (by omega)];rfl,W3.out⟩
    ·go_wp2_with fail
     go_ret2
     unfold ChkE
     exact ⟨by rw [HS.out (by omega)];rfl,W3.out⟩
    ·go_wp2_with fail
     go_roundw
     case rel=>exact ⟨k+1,by omega,by go_num,Lib.hid ⟨W3.out,hP3.out,hz3.out,HG.out trivial⟩⟩
     case measure=>simp [intOf];omega
  ·obtain rfl:k=len:=by omega
   have hK:wr.cell? ⟨B,q+(k - 1) * 9,none⟩=some (.int .i8 (xs (k - 1)).kind):=rangeAt_below hR.out.1 (HC.out (k - 1) (by omega)) 0 (.int .i8 (xs (k - 1)).kind) rfl
   have HE:=Lib.hid (chk_end hR.out.2.2.2)
   have W2:=Lib.hid hR.out.1
   clear hR
   generalize (xs (k - 1)).kind=kd at *
   obtain ⟨m,rfl⟩:∃ m,k=m+1:=⟨k - 1,by omega⟩
   have em:((m+1:Nat):Int) - 1=(m:Int):=by omega
   rw [Nat.add_sub_cancel] at hK
   have hc:(kd=4)∨(¬ kd=4∧kd=6)∨(¬ kd=4∧¬ kd=6):=by omega
   rcases hc with rfl | ⟨h4,rfl⟩ | ⟨h4,h6⟩
   ·rw [if_pos (.inl rfl)] at HE
    go_wp2_with fail
    go_ret2
    unfold ChkE
    exact ⟨by rw [HE.out];rfl,W2.out⟩
   ·rw [if_pos (.inr rfl)] at HE
    go_wp2_with fail
    go_ret2
    unfold ChkE
    exact ⟨by rw [HE.out];rfl,W2.out⟩
   ·rw [if_neg (by omega)] at HE
    have e4:(kd != 4)=true:=by simpa using h4
    have e6:(kd != 6)=true:=by simpa using h6
    go_wp2_with fail
    go_ret2
    unfold ChkE
    exact ⟨by rw [HE.out,em];rfl,W2.out⟩
theorem r_check (c:Int)(a:Option Addr)(len cap:Nat)(xs:Nat→In)(W:World)(hx:Insts W a len cap xs):
  Calls Tryz.prog 18 #[.agg #[.int .i64 c,.slice a len cap]] W fun e w'=>e=.returned (.tuple #[.int .i64 (checkI c len xs).1,.int .i64 (checkI c len xs).2])∧Below W.heap.size W w':=by
 by_cases h1:c<0∨256<c
 ·rw [show checkI c len xs=(0,2) from if_pos h1]
  exact r_check_ctx c a len cap W (by omega)
 by_cases h2:len<1∨64<len
 ·rw [show checkI c len xs=(0,3) by unfold checkI;rw [if_neg h1,if_pos h2]]
  exact r_check_long c a len cap W (by omega) (by omega) (by omega)
 ·rw [show checkI c len xs=chkI len xs by unfold checkI;rw [if_neg h1,if_neg h2];rfl]
  exact r_check_main c a len cap xs W hx (by omega) (by omega) (by omega) (by omega)
end Go.Proofs.YtigliofiojkhcaaGreat.Ins
