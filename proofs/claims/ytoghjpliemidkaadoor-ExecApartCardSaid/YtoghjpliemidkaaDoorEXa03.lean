import Derived.Test.YtoghjpliemidkaaDoorEXa01
import Derived.Test.YtoghjpliemidkaaDoorEXa02
import Derived.Test.YtoghjpliemidkaaDoorEXm05
import Derived.Test.YtoghjpliemidkaaDoorEXm32
set_option linter.unusedVariables false
set_option linter.unusedSimpArgs false
set_option linter.unnecessarySimpa false
namespace Go.Proofs.YtoghjpliemidkaaDoor.Mrm
open Go Go.RowKit
set_option linter.unusedVariables false
set_option linter.unusedSimpArgs false
set_option linter.unnecessarySimpa false
set_option maxRecDepth 100000
set_option maxHeartbeats 2000000 in
theorem creads_no (x:Xi) (hX:XOk x) (W:World) (hT:Tabs W) (h:mayX x=false):Calls Tryd.prog 14 #[.agg (xC x)] W fun e w'=>e=.returned (.int .i64 0) ∧ Below W.heap.size W w':=by
  have MY:=Lib.hid (fun W (hT:Tabs W)=>show Calls Tryd.prog 16 #[.agg (xC x)] W fun e w'=>e=.returned (.bool false) ∧ Below W.heap.size W w' by have q:=may_n x hX W hT;rw [h] at q;exact q)
  have HT:=Lib.hid hT
  clear h hX hT
  go_enter Tryd.func14,Tryd.ntmps14
  go_wp2_with fail
  refine (MY.out _ (HT.out.below (below_new (Below.refl _ _) _) (Nat.le_refl _))).mono ?_
  rintro e w1 ⟨rfl,b1⟩
  have B1:=Lib.hid b1
  clear b1
  go_wp2_with fail
  go_ret
  exact ⟨rfl,below_boxed B1.out⟩
theorem creads_n (x:Xi) (hX:XOk x) (W:World) (hT:Tabs W):Calls Tryd.prog 14 #[.agg (xC x)] W fun e w'=>e=.returned (.int .i64 (bif mayX x then readsX x else 0)) ∧ Below W.heap.size W w':=by
  cases h:mayX x
  · exact creads_no x hX W hT h
  · obtain ⟨ho,hd,hs,hb⟩:=may_parts h
    obtain ⟨op,wd,dst,src,base,disp,imm,cc⟩:=x
    simp only at ho hd hs hb
    obtain rfl | rfl | rfl | rfl | rfl | rfl | rfl | rfl | rfl | rfl | rfl | rfl | rfl | rfl | rfl | rfl | rfl | rfl | rfl | rfl | rfl | rfl | rfl | rfl | rfl | rfl | rfl | rfl | rfl | rfl | rfl | rfl:=lt32 ho
    · exact creads_0 wd dst src base disp imm cc W hX hT h hd hs hb
    · exact creads_1 wd dst src base disp imm cc W hX hT h hd hs hb
    · exact creads_2 wd dst src base disp imm cc W hX hT h hd hs hb
    · exact creads_3 wd dst src base disp imm cc W hX hT h hd hs hb
    · exact creads_4 wd dst src base disp imm cc W hX hT h hd hs hb
    · exact creads_5 wd dst src base disp imm cc W hX hT h hd hs hb
    · exact creads_6 wd dst src base disp imm cc W hX hT h hd hs hb
    · exact creads_7 wd dst src base disp imm cc W hX hT h hd hs hb
    · exact creads_8 wd dst src base disp imm cc W hX hT h hd hs hb
    · exact creads_9 wd dst src base disp imm cc W hX hT h hd hs hb
    · exact creads_10 wd dst src base disp imm cc W hX hT h hd hs hb
    · exact creads_11 wd dst src base disp imm cc W hX hT h hd hs hb
    · exact creads_12 wd dst src base disp imm cc W hX hT h hd hs hb
    · exact creads_13 wd dst src base disp imm cc W hX hT h hd hs hb
    · exact creads_14 wd dst src base disp imm cc W hX hT h hd hs hb
    · exact creads_15 wd dst src base disp imm cc W hX hT h hd hs hb
    · exact creads_16 wd dst src base disp imm cc W hX hT h hd hs hb
    · exact creads_17 wd dst src base disp imm cc W hX hT h hd hs hb
    · exact creads_18 wd dst src base disp imm cc W hX hT h hd hs hb
    · exact creads_19 wd dst src base disp imm cc W hX hT h hd hs hb
    · exact creads_20 wd dst src base disp imm cc W hX hT h hd hs hb
    · exact creads_21 wd dst src base disp imm cc W hX hT h hd hs hb
    · exact creads_22 wd dst src base disp imm cc W hX hT h hd hs hb
    · exact creads_23 wd dst src base disp imm cc W hX hT h hd hs hb
    · exact creads_24 wd dst src base disp imm cc W hX hT h hd hs hb
    · exact creads_25 wd dst src base disp imm cc W hX hT h hd hs hb
    · exact creads_26 wd dst src base disp imm cc W hX hT h hd hs hb
    · exact creads_27 wd dst src base disp imm cc W hX hT h hd hs hb
    · exact creads_28 wd dst src base disp imm cc W hX hT h hd hs hb
    · exact creads_29 wd dst src base disp imm cc W hX hT h hd hs hb
    · exact creads_30 wd dst src base disp imm cc W hX hT h hd hs hb
    · exact creads_31 wd dst src base disp imm cc W hX hT h hd hs hb
set_option maxHeartbeats 2000000 in
theorem cwrites_no (x:Xi) (hX:XOk x) (W:World) (hT:Tabs W) (h:mayX x=false):Calls Tryd.prog 13 #[.agg (xC x)] W fun e w'=>e=.returned (.int .i64 0) ∧ Below W.heap.size W w':=by
  have MY:=Lib.hid (fun W (hT:Tabs W)=>show Calls Tryd.prog 16 #[.agg (xC x)] W fun e w'=>e=.returned (.bool false) ∧ Below W.heap.size W w' by have q:=may_n x hX W hT;rw [h] at q;exact q)
  have HT:=Lib.hid hT
  clear h hX hT
  go_enter Tryd.func13,Tryd.ntmps13
  go_wp2_with fail
  refine (MY.out _ (HT.out.below (below_new (Below.refl _ _) _) (Nat.le_refl _))).mono ?_
  rintro e w1 ⟨rfl,b1⟩
  have B1:=Lib.hid b1
  clear b1
  go_wp2_with fail
  go_ret
  exact ⟨rfl,below_boxed B1.out⟩
theorem cwrites_n (x:Xi) (hX:XOk x) (W:World) (hT:Tabs W):Calls Tryd.prog 13 #[.agg (xC x)] W fun e w'=>e=.returned (.int .i64 (bif mayX x then writesX x else 0)) ∧ Below W.heap.size W w':=by
  cases h:mayX x
  · exact cwrites_no x hX W hT h
  · obtain ⟨ho,hd,hs,hb⟩:=may_parts h
    obtain ⟨op,wd,dst,src,base,disp,imm,cc⟩:=x
    simp only at ho hd hs hb
    obtain rfl | rfl | rfl | rfl | rfl | rfl | rfl | rfl | rfl | rfl | rfl | rfl | rfl | rfl | rfl | rfl | rfl | rfl | rfl | rfl | rfl | rfl | rfl | rfl | rfl | rfl | rfl | rfl | rfl | rfl | rfl | rfl:=lt32 ho
    · exact cwrites_0 wd dst src base disp imm cc W hX hT h hd hs hb
    · exact cwrites_1 wd dst src base disp imm cc W hX hT h hd hs hb
    · exact cwrites_2 wd dst src base disp imm cc W hX hT h hd hs hb
    · exact cwrites_3 wd dst src base disp imm cc W hX hT h hd hs hb
    · exact cwrites_4 wd dst src base disp imm cc W hX hT h hd hs hb
    · exact cwrites_5 wd dst src base disp imm cc W hX hT h hd hs hb
    · exact cwrites_6 wd dst src base disp imm cc W hX hT h hd hs hb
    · exact cwrites_7 wd dst src base disp imm cc W hX hT h hd hs hb
    · exact cwrites_8 wd dst src base disp imm cc W hX hT h hd hs hb
    · exact cwrites_9 wd dst src base disp imm cc W hX hT h hd hs hb
    · exact cwrites_10 wd dst src base disp imm cc W hX hT h hd hs hb
    · exact cwrites_11 wd dst src base disp imm cc W hX hT h hd hs hb
    · exact cwrites_12 wd dst src base disp imm cc W hX hT h hd hs hb
    · exact cwrites_13 wd dst src base disp imm cc W hX hT h hd hs hb
    · exact cwrites_14 wd dst src base disp imm cc W hX hT h hd hs hb
    · exact cwrites_15 wd dst src base disp imm cc W hX hT h hd hs hb
    · exact cwrites_16 wd dst src base disp imm cc W hX hT h hd hs hb
    · exact cwrites_17 wd dst src base disp imm cc W hX hT h hd hs hb
    · exact cwrites_18 wd dst src base disp imm cc W hX hT h hd hs hb
    · exact cwrites_19 wd dst src base disp imm cc W hX hT h hd hs hb
    · exact cwrites_20 wd dst src base disp imm cc W hX hT h hd hs hb
    · exact cwrites_21 wd dst src base disp imm cc W hX hT h hd hs hb
    · exact cwrites_22 wd dst src base disp imm cc W hX hT h hd hs hb
    · exact cwrites_23 wd dst src base disp imm cc W hX hT h hd hs hb
    · exact cwrites_24 wd dst src base disp imm cc W hX hT h hd hs hb
    · exact cwrites_25 wd dst src base disp imm cc W hX hT h hd hs hb
    · exact cwrites_26 wd dst src base disp imm cc W hX hT h hd hs hb
    · exact cwrites_27 wd dst src base disp imm cc W hX hT h hd hs hb
    · exact cwrites_28 wd dst src base disp imm cc W hX hT h hd hs hb
    · exact cwrites_29 wd dst src base disp imm cc W hX hT h hd hs hb
    · exact cwrites_30 wd dst src base disp imm cc W hX hT h hd hs hb
    · exact cwrites_31 wd dst src base disp imm cc W hX hT h hd hs hb
end Go.Proofs.YtoghjpliemidkaaDoor.Mrm
namespace Go.Proofs.YtoghjpliemidkaaDoor.Exe
open Go Go.RowKit
open Mrm (Xi zX mayX bytesX readsX writesX)
open Flg (Fl zF addF subF ofF holF holE)
set_option linter.unusedVariables false
set_option linter.unusedSimpArgs false
set_option linter.unnecessarySimpa false
set_option maxRecDepth 100000
def bitB (v:Int) (k:Nat):Int:=bits .and .i64 (v / 2 ^ k) 1
theorem bit1:∀ d k:Fin 16,(bitB ((2:Int) ^ d.1) k.1 == 1)=decide (k.1=d.1):=by decide +kernel
theorem bit0:∀ d k:Fin 16,(bitB ((2:Int) ^ d.1) k.1 == 0)=decide (k.1 ≠ d.1):=by decide +kernel
theorem bit2:∀ d s k:Fin 16,(bitB (bits .or .i64 ((2:Int) ^ d.1) ((2:Int) ^ s.1)) k.1 == 1)=(decide (k.1=d.1) || decide (k.1=s.1)):=by decide +kernel
theorem bitc:∀ d k:Fin 16,(bitB (bits .or .i64 ((2:Int) ^ d.1) 2) k.1 == 1)=(decide (k.1=d.1) || decide (k.1=1)):=by decide +kernel
theorem bitd:∀ d k:Fin 16,(bitB (bits .or .i64 (bits .or .i64 ((2:Int) ^ d.1) 1) 4) k.1 == 1)=(decide (k.1=d.1) || (decide (k.1=0) || decide (k.1=2))):=by decide +kernel
theorem bit5:∀ k:Fin 16,(bitB 5 k.1 == 0)=(decide (k.1 ≠ 0) && decide (k.1 ≠ 2)):=by decide +kernel
theorem bit16:∀ k:Fin 16,(bitB 16 k.1 == 0)=decide (k.1 ≠ 4):=by decide +kernel
theorem bit17:∀ k:Fin 16,(bitB 17 k.1 == 1)=(decide (k.1=0) || decide (k.1=4)):=by decide +kernel
theorem bit2051:∀ k:Fin 16,(bitB 2051 k.1 == 0)=(decide (k.1 ≠ 0) && (decide (k.1 ≠ 1) && decide (k.1 ≠ 11))):=by decide +kernel
theorem bit2051':∀ k:Fin 16,(bitB 2051 k.1 == 1)=(decide (k.1=0) || (decide (k.1=1) || decide (k.1=11))):=by decide +kernel
def putsB (op:Int):Bool:=!(op == 24 || op == 30 || op == 31 || op == 7 || op == 8 || op == 14 || op == 15 || op == 27 || op == 28 || op == 29)
theorem writes_put {x:Xi} (h:putsB x.op=true):writesX x=(2:Int) ^ x.dst.toNat:=by
  unfold putsB at h
  simp only [Bool.not_eq_true',Bool.or_eq_false_iff,beq_eq_false_iff_ne] at h
  unfold writesX
  rw [if_neg (by omega),if_neg (by omega),if_neg (by omega),if_neg (by omega)]
def Puts (m n:Mc) (d:Nat):Prop:=∀ k,k ≠ d → n.r k=m.r k
theorem puts_of {m:Mc} {x:Xi} {l:Int} {n:Mc} (hO:0 ≤ x.op ∧ x.op < 32) (hp:putsB x.op=true) (E:effX m x l=some n):Puts m n x.dst.toNat:=by
  rcases Mrm.lt32 hO with h | h | h | h | h | h | h | h | h | h | h | h | h | h | h | h | h | h | h | h | h | h | h | h | h | h | h | h | h | h | h | h <;> rw [h] at hp
  case inr.inr.inr.inr.inr.inr.inr.inr.inr.inr.inr.inr.inr.inr.inr.inr.inr.inr.inr.inr.inr.inr.inr.inr.inr.inl=>
    rw [eff_25 m l h] at E
    cases hk:m.f.k
    · rw [hk] at E;cases E
    · rw [hk] at E
      cases E
      exact fun k hk=>setR_other _ _ hk
  all_goals first
    | (exfalso;revert hp;decide)
    | (rw [eff_0 m l h] at E;cases E;exact fun k hk=>setR_other _ _ hk)
    | (rw [eff_1 m l h] at E;cases E;exact fun k hk=>setR_other _ _ hk)
    | (rw [eff_2 m l h] at E;cases E;exact fun k hk=>setR_other _ _ hk)
    | (rw [eff_3 m l h] at E;cases E;exact fun k hk=>setR_other _ _ hk)
    | (rw [eff_4 m l h] at E;cases E;exact fun k hk=>setR_other _ _ hk)
    | (rw [eff_5 m l h] at E;cases E;exact fun k hk=>setR_other _ _ hk)
    | (rw [eff_6 m l h] at E;cases E;exact fun k hk=>setR_other _ _ hk)
    | (rw [eff_9 m l h] at E;cases E;exact fun k hk=>setR_other _ _ hk)
    | (rw [eff_10 m l h] at E;cases E;exact fun k hk=>setR_other _ _ hk)
    | (rw [eff_11 m l h] at E;cases E;exact fun k hk=>setR_other _ _ hk)
    | (rw [eff_12 m l h] at E;cases E;exact fun k hk=>setR_other _ _ hk)
    | (rw [eff_13 m l h] at E;cases E;exact fun k hk=>setR_other _ _ hk)
    | (rw [eff_16 m l h] at E;cases E;exact fun k hk=>setR_other _ _ hk)
    | (rw [eff_17 m l h] at E;cases E;exact fun k hk=>setR_other _ _ hk)
    | (rw [eff_18 m l h] at E;cases E;exact fun k hk=>setR_other _ _ hk)
    | (rw [eff_19 m l h] at E;cases E;exact fun k hk=>setR_other _ _ hk)
    | (rw [eff_20 m l h] at E;cases E;exact fun k hk=>setR_other _ _ hk)
    | (rw [eff_21 m l h] at E;cases E;exact fun k hk=>setR_other _ _ hk)
    | (rw [eff_22 m l h] at E;cases E;exact fun k hk=>setR_other _ _ hk)
    | (rw [eff_23 m l h] at E;cases E;exact fun k hk=>setR_other _ _ hk)
    | (rw [eff_26 m l h] at E;cases E;exact fun k hk=>setR_other _ _ hk)
theorem keeps_of {m:Mc} {x:Xi} {l:Int} {n:Mc} (hp:x.op=7 ∨ x.op=8 ∨ x.op=14 ∨ x.op=15 ∨ x.op=27 ∨ x.op=28 ∨ x.op=29) (E:effX m x l=some n):n.r=m.r:=by
  rcases hp with h | h | h | h | h | h | h
  · rw [eff_7 m l h] at E;cases E;rfl
  · rw [eff_8 m l h] at E;cases E;rfl
  · rw [eff_14 m l h] at E;cases E;rfl
  · rw [eff_15 m l h] at E;cases E;rfl
  · rw [eff_27 m l h] at E;cases E;rfl
  · rw [eff_28 m l h] at E;cases E;rfl
  · rw [eff_29 m l h] at E
    cases hk:m.f.k
    · rw [hk] at E;cases E
    · rw [hk] at E
      cases E
      unfold jccM
      cases holF x.cc m.f <;> rfl
theorem stays {m:Mc} {x:Xi} {l:Int} {n:Mc} (hm:mayX x=true) (E:effX m x l=some n) {k:Nat} (hk:k < 16) (hw:(bitB (writesX x) k == 0)=true):n.r k=m.r k:=by
  have p:=Mrm.may_parts' hm
  cases hp:putsB x.op
  · unfold putsB at hp
    simp only [Bool.not_eq_false',Bool.or_eq_true,beq_iff_eq] at hp
    rcases (show x.op=24 ∨ x.op=30 ∨ x.op=31 ∨ (x.op=7 ∨ x.op=8 ∨ x.op=14 ∨ x.op=15 ∨ x.op=27 ∨ x.op=28 ∨ x.op=29) by omega) with h | h | h | h
    · rw [show writesX x=5 by unfold writesX;rw [if_pos h],bit5 ⟨k,hk⟩] at hw
      simp only [Bool.and_eq_true,decide_eq_true_eq] at hw
      rw [eff_24 m l h] at E
      cases hb:divB m x
      · rw [hb] at E;cases E
      · rw [hb] at E
        cases E
        exact (setR_other _ _ hw.2).trans (setR_other _ _ hw.1)
    · rw [show writesX x=16 by unfold writesX;rw [if_neg (by omega),if_pos h],bit16 ⟨k,hk⟩] at hw
      simp only [decide_eq_true_eq] at hw
      rw [eff_30 m l h] at E
      cases E
      exact setR_other _ _ hw
    · rw [show writesX x=2051 by unfold writesX;rw [if_neg (by omega),if_neg (by omega),if_pos h],bit2051 ⟨k,hk⟩] at hw
      simp only [Bool.and_eq_true,decide_eq_true_eq] at hw
      rw [show effX m x l=some (((m.setR 0 l).setR 1 0).setR 11 0) from eff_31 m l h] at E
      cases E
      exact (setR_other _ _ hw.2.2).trans ((setR_other _ _ hw.2.1).trans (setR_other _ _ hw.1))
    · exact congrFun (keeps_of h E) k
  · rw [writes_put hp,show x.dst.toNat=(⟨x.dst.toNat,by omega⟩:Fin 16).1 from rfl,bit0 _ ⟨k,hk⟩] at hw
    exact puts_of p.1 hp E k (by simpa using hw)
end Go.Proofs.YtoghjpliemidkaaDoor.Exe
namespace Go.Proofs.YtoghjpliemidkaaDoor.Exe
open Go Go.RowKit
open Mrm (Xi zX mayX bytesX readsX writesX)
open Flg (Fl zF addF subF ofF holF holE)
set_option linter.unusedVariables false
set_option linter.unusedSimpArgs false
set_option linter.unnecessarySimpa false
set_option maxRecDepth 100000
def Ap (wr:Int) (o:Nat) (b:Int) (n n':Mc):Prop:=n'.f=n.f ∧ n'.a=n.a ∧ (∀ j,j ≠ o → n'.r j=n.r j) ∧ ((bitB wr o == 1)=true ∨ n'.r o=b)
theorem ap_set {m:Mc} {x:Xi} {o:Nat} {b v:Int} {f:Fl} {a:Int} (ho:o < 16) (hd:0 ≤ x.dst ∧ x.dst < 16) (hp:putsB x.op=true):Ap (writesX x) o b ⟨(m.setR x.dst.toNat v).r,f,a⟩ ⟨((m.setR o b).setR x.dst.toNat v).r,f,a⟩:=by
  refine ⟨rfl,rfl,fun j hj=>?_,?_⟩
  · show (if j=x.dst.toNat then v else if j=o then b else m.r j)=(if j=x.dst.toNat then v else m.r j)
    rw [if_neg hj]
  · by_cases e:o=x.dst.toNat
    · left
      rw [writes_put hp,show x.dst.toNat=(⟨x.dst.toNat,by omega⟩:Fin 16).1 from rfl,bit1 _ ⟨o,ho⟩]
      simpa using e
    · right
      show (if o=x.dst.toNat then v else if o=o then b else m.r o)=b
      rw [if_neg e,if_pos rfl]
theorem ap_keep {m:Mc} {wr:Int} {o:Nat} {b:Int} {f:Fl} {a:Int}:Ap wr o b ⟨m.r,f,a⟩ ⟨(m.setR o b).r,f,a⟩:=⟨rfl,rfl,fun j hj=>if_neg hj,.inr (if_pos rfl)⟩
section
variable {x:Xi} {o:Nat} (ho:o < 16)
include ho
theorem rd_1 {d:Int} (hd:0 ≤ d ∧ d < 16) (h:(bitB ((2:Int) ^ d.toNat) o == 1)=false):d.toNat ≠ o:=by
  rw [show d.toNat=(⟨d.toNat,by omega⟩:Fin 16).1 from rfl,bit1 _ ⟨o,ho⟩] at h
  simp only [decide_eq_false_iff_not] at h
  exact fun e=>h e.symm
theorem rd_2 {d s:Int} (hd:0 ≤ d ∧ d < 16) (hs:0 ≤ s ∧ s < 16) (h:(bitB (bits .or .i64 ((2:Int) ^ d.toNat) ((2:Int) ^ s.toNat)) o == 1)=false):d.toNat ≠ o ∧ s.toNat ≠ o:=by
  rw [show d.toNat=(⟨d.toNat,by omega⟩:Fin 16).1 from rfl,show s.toNat=(⟨s.toNat,by omega⟩:Fin 16).1 from rfl,bit2 _ _ ⟨o,ho⟩] at h
  simp only [Bool.or_eq_false_iff,decide_eq_false_iff_not] at h
  exact ⟨fun e=>h.1 e.symm,fun e=>h.2 e.symm⟩
theorem rd_c {d:Int} (hd:0 ≤ d ∧ d < 16) (h:(bitB (bits .or .i64 ((2:Int) ^ d.toNat) 2) o == 1)=false):d.toNat ≠ o ∧ 1 ≠ o:=by
  rw [show d.toNat=(⟨d.toNat,by omega⟩:Fin 16).1 from rfl,bitc _ ⟨o,ho⟩] at h
  simp only [Bool.or_eq_false_iff,decide_eq_false_iff_not] at h
  exact ⟨fun e=>h.1 e.symm,fun e=>h.2 e.symm⟩
theorem rd_d {d:Int} (hd:0 ≤ d ∧ d < 16) (h:(bitB (bits .or .i64 (bits .or .i64 ((2:Int) ^ d.toNat) 1) 4) o == 1)=false):d.toNat ≠ o ∧ 0 ≠ o ∧ 2 ≠ o:=by
  rw [show d.toNat=(⟨d.toNat,by omega⟩:Fin 16).1 from rfl,bitd _ ⟨o,ho⟩] at h
  simp only [Bool.or_eq_false_iff,decide_eq_false_iff_not] at h
  exact ⟨fun e=>h.1 e.symm,fun e=>h.2.1 e.symm,fun e=>h.2.2 e.symm⟩
end
theorem ap_0 {m n:Mc} {x:Xi} {l:Int} {o:Nat} {b:Int} (ho:o < 16) (hd:0 ≤ x.dst ∧ x.dst < 16) (hs:0 ≤ x.src ∧ x.src < 16) (h:x.op=0) (hr:(bitB (readsX x) o == 1)=false) (E:effX m x l=some n):∃ n',effX (m.setR o b) x l=some n' ∧ Ap (writesX x) o b n n':=by
  rw [show readsX x=(2:Int) ^ x.src.toNat by unfold readsX;simp only [h];rfl] at hr
  rw [eff_0 m l h] at E
  have e1:=rd_1 ho hs hr
  rw [eff_0 _ l h,setR_other m b e1]
  cases E
  exact ⟨_,rfl,ap_set ho hd (by rw [h];rfl)⟩
theorem ap_1 {m n:Mc} {x:Xi} {l:Int} {o:Nat} {b:Int} (ho:o < 16) (hd:0 ≤ x.dst ∧ x.dst < 16) (hs:0 ≤ x.src ∧ x.src < 16) (h:x.op=1) (hr:(bitB (readsX x) o == 1)=false) (E:effX m x l=some n):∃ n',effX (m.setR o b) x l=some n' ∧ Ap (writesX x) o b n n':=by
  rw [eff_1 m l h] at E
  rw [eff_1 _ l h]
  cases E
  exact ⟨_,rfl,ap_set ho hd (by rw [h];rfl)⟩
theorem ap_2 {m n:Mc} {x:Xi} {l:Int} {o:Nat} {b:Int} (ho:o < 16) (hd:0 ≤ x.dst ∧ x.dst < 16) (hs:0 ≤ x.src ∧ x.src < 16) (h:x.op=2) (hr:(bitB (readsX x) o == 1)=false) (E:effX m x l=some n):∃ n',effX (m.setR o b) x l=some n' ∧ Ap (writesX x) o b n n':=by
  rw [show readsX x=bits .or .i64 ((2:Int) ^ x.dst.toNat) ((2:Int) ^ x.src.toNat) by unfold readsX;simp only [h];rfl] at hr
  rw [eff_2 m l h] at E
  obtain ⟨e1,e2⟩:=rd_2 ho hd hs hr
  rw [eff_2 _ l h,setR_other m b e1,setR_other m b e2]
  cases E
  exact ⟨_,rfl,ap_set ho hd (by rw [h];rfl)⟩
theorem ap_3 {m n:Mc} {x:Xi} {l:Int} {o:Nat} {b:Int} (ho:o < 16) (hd:0 ≤ x.dst ∧ x.dst < 16) (hs:0 ≤ x.src ∧ x.src < 16) (h:x.op=3) (hr:(bitB (readsX x) o == 1)=false) (E:effX m x l=some n):∃ n',effX (m.setR o b) x l=some n' ∧ Ap (writesX x) o b n n':=by
  rw [show readsX x=bits .or .i64 ((2:Int) ^ x.dst.toNat) ((2:Int) ^ x.src.toNat) by unfold readsX;simp only [h];rfl] at hr
  rw [eff_3 m l h] at E
  obtain ⟨e1,e2⟩:=rd_2 ho hd hs hr
  rw [eff_3 _ l h,setR_other m b e1,setR_other m b e2]
  cases E
  exact ⟨_,rfl,ap_set ho hd (by rw [h];rfl)⟩
theorem ap_4 {m n:Mc} {x:Xi} {l:Int} {o:Nat} {b:Int} (ho:o < 16) (hd:0 ≤ x.dst ∧ x.dst < 16) (hs:0 ≤ x.src ∧ x.src < 16) (h:x.op=4) (hr:(bitB (readsX x) o == 1)=false) (E:effX m x l=some n):∃ n',effX (m.setR o b) x l=some n' ∧ Ap (writesX x) o b n n':=by
  rw [show readsX x=bits .or .i64 ((2:Int) ^ x.dst.toNat) ((2:Int) ^ x.src.toNat) by unfold readsX;simp only [h];rfl] at hr
  rw [eff_4 m l h] at E
  obtain ⟨e1,e2⟩:=rd_2 ho hd hs hr
  rw [eff_4 _ l h,setR_other m b e1,setR_other m b e2]
  cases E
  exact ⟨_,rfl,ap_set ho hd (by rw [h];rfl)⟩
theorem ap_5 {m n:Mc} {x:Xi} {l:Int} {o:Nat} {b:Int} (ho:o < 16) (hd:0 ≤ x.dst ∧ x.dst < 16) (hs:0 ≤ x.src ∧ x.src < 16) (h:x.op=5) (hr:(bitB (readsX x) o == 1)=false) (E:effX m x l=some n):∃ n',effX (m.setR o b) x l=some n' ∧ Ap (writesX x) o b n n':=by
  rw [show readsX x=bits .or .i64 ((2:Int) ^ x.dst.toNat) ((2:Int) ^ x.src.toNat) by unfold readsX;simp only [h];rfl] at hr
  rw [eff_5 m l h] at E
  obtain ⟨e1,e2⟩:=rd_2 ho hd hs hr
  rw [eff_5 _ l h,setR_other m b e1,setR_other m b e2]
  cases E
  exact ⟨_,rfl,ap_set ho hd (by rw [h];rfl)⟩
theorem ap_6 {m n:Mc} {x:Xi} {l:Int} {o:Nat} {b:Int} (ho:o < 16) (hd:0 ≤ x.dst ∧ x.dst < 16) (hs:0 ≤ x.src ∧ x.src < 16) (h:x.op=6) (hr:(bitB (readsX x) o == 1)=false) (E:effX m x l=some n):∃ n',effX (m.setR o b) x l=some n' ∧ Ap (writesX x) o b n n':=by
  rw [show readsX x=bits .or .i64 ((2:Int) ^ x.dst.toNat) ((2:Int) ^ x.src.toNat) by unfold readsX;simp only [h];rfl] at hr
  rw [eff_6 m l h] at E
  obtain ⟨e1,e2⟩:=rd_2 ho hd hs hr
  rw [eff_6 _ l h,setR_other m b e1,setR_other m b e2]
  cases E
  exact ⟨_,rfl,ap_set ho hd (by rw [h];rfl)⟩
theorem ap_7 {m n:Mc} {x:Xi} {l:Int} {o:Nat} {b:Int} (ho:o < 16) (hd:0 ≤ x.dst ∧ x.dst < 16) (hs:0 ≤ x.src ∧ x.src < 16) (h:x.op=7) (hr:(bitB (readsX x) o == 1)=false) (E:effX m x l=some n):∃ n',effX (m.setR o b) x l=some n' ∧ Ap (writesX x) o b n n':=by
  rw [show readsX x=bits .or .i64 ((2:Int) ^ x.dst.toNat) ((2:Int) ^ x.src.toNat) by unfold readsX;simp only [h];rfl] at hr
  rw [eff_7 m l h] at E
  obtain ⟨e1,e2⟩:=rd_2 ho hd hs hr
  rw [eff_7 _ l h,setR_other m b e1,setR_other m b e2]
  cases E
  exact ⟨_,rfl,ap_keep⟩
theorem ap_8 {m n:Mc} {x:Xi} {l:Int} {o:Nat} {b:Int} (ho:o < 16) (hd:0 ≤ x.dst ∧ x.dst < 16) (hs:0 ≤ x.src ∧ x.src < 16) (h:x.op=8) (hr:(bitB (readsX x) o == 1)=false) (E:effX m x l=some n):∃ n',effX (m.setR o b) x l=some n' ∧ Ap (writesX x) o b n n':=by
  rw [show readsX x=bits .or .i64 ((2:Int) ^ x.dst.toNat) ((2:Int) ^ x.src.toNat) by unfold readsX;simp only [h];rfl] at hr
  rw [eff_8 m l h] at E
  obtain ⟨e1,e2⟩:=rd_2 ho hd hs hr
  rw [eff_8 _ l h,setR_other m b e1,setR_other m b e2]
  cases E
  exact ⟨_,rfl,ap_keep⟩
theorem ap_9 {m n:Mc} {x:Xi} {l:Int} {o:Nat} {b:Int} (ho:o < 16) (hd:0 ≤ x.dst ∧ x.dst < 16) (hs:0 ≤ x.src ∧ x.src < 16) (h:x.op=9) (hr:(bitB (readsX x) o == 1)=false) (E:effX m x l=some n):∃ n',effX (m.setR o b) x l=some n' ∧ Ap (writesX x) o b n n':=by
  rw [show readsX x=(2:Int) ^ x.dst.toNat by unfold readsX;simp only [h];rfl] at hr
  rw [eff_9 m l h] at E
  have e1:=rd_1 ho hd hr
  rw [eff_9 _ l h,setR_other m b e1]
  cases E
  exact ⟨_,rfl,ap_set ho hd (by rw [h];rfl)⟩
theorem ap_10 {m n:Mc} {x:Xi} {l:Int} {o:Nat} {b:Int} (ho:o < 16) (hd:0 ≤ x.dst ∧ x.dst < 16) (hs:0 ≤ x.src ∧ x.src < 16) (h:x.op=10) (hr:(bitB (readsX x) o == 1)=false) (E:effX m x l=some n):∃ n',effX (m.setR o b) x l=some n' ∧ Ap (writesX x) o b n n':=by
  rw [show readsX x=(2:Int) ^ x.dst.toNat by unfold readsX;simp only [h];rfl] at hr
  rw [eff_10 m l h] at E
  have e1:=rd_1 ho hd hr
  rw [eff_10 _ l h,setR_other m b e1]
  cases E
  exact ⟨_,rfl,ap_set ho hd (by rw [h];rfl)⟩
theorem ap_11 {m n:Mc} {x:Xi} {l:Int} {o:Nat} {b:Int} (ho:o < 16) (hd:0 ≤ x.dst ∧ x.dst < 16) (hs:0 ≤ x.src ∧ x.src < 16) (h:x.op=11) (hr:(bitB (readsX x) o == 1)=false) (E:effX m x l=some n):∃ n',effX (m.setR o b) x l=some n' ∧ Ap (writesX x) o b n n':=by
  rw [show readsX x=(2:Int) ^ x.dst.toNat by unfold readsX;simp only [h];rfl] at hr
  rw [eff_11 m l h] at E
  have e1:=rd_1 ho hd hr
  rw [eff_11 _ l h,setR_other m b e1]
  cases E
  exact ⟨_,rfl,ap_set ho hd (by rw [h];rfl)⟩
theorem ap_12 {m n:Mc} {x:Xi} {l:Int} {o:Nat} {b:Int} (ho:o < 16) (hd:0 ≤ x.dst ∧ x.dst < 16) (hs:0 ≤ x.src ∧ x.src < 16) (h:x.op=12) (hr:(bitB (readsX x) o == 1)=false) (E:effX m x l=some n):∃ n',effX (m.setR o b) x l=some n' ∧ Ap (writesX x) o b n n':=by
  rw [show readsX x=(2:Int) ^ x.dst.toNat by unfold readsX;simp only [h];rfl] at hr
  rw [eff_12 m l h] at E
  have e1:=rd_1 ho hd hr
  rw [eff_12 _ l h,setR_other m b e1]
  cases E
  exact ⟨_,rfl,ap_set ho hd (by rw [h];rfl)⟩
theorem ap_13 {m n:Mc} {x:Xi} {l:Int} {o:Nat} {b:Int} (ho:o < 16) (hd:0 ≤ x.dst ∧ x.dst < 16) (hs:0 ≤ x.src ∧ x.src < 16) (h:x.op=13) (hr:(bitB (readsX x) o == 1)=false) (E:effX m x l=some n):∃ n',effX (m.setR o b) x l=some n' ∧ Ap (writesX x) o b n n':=by
  rw [show readsX x=(2:Int) ^ x.dst.toNat by unfold readsX;simp only [h];rfl] at hr
  rw [eff_13 m l h] at E
  have e1:=rd_1 ho hd hr
  rw [eff_13 _ l h,setR_other m b e1]
  cases E
  exact ⟨_,rfl,ap_set ho hd (by rw [h];rfl)⟩
theorem ap_14 {m n:Mc} {x:Xi} {l:Int} {o:Nat} {b:Int} (ho:o < 16) (hd:0 ≤ x.dst ∧ x.dst < 16) (hs:0 ≤ x.src ∧ x.src < 16) (h:x.op=14) (hr:(bitB (readsX x) o == 1)=false) (E:effX m x l=some n):∃ n',effX (m.setR o b) x l=some n' ∧ Ap (writesX x) o b n n':=by
  rw [show readsX x=(2:Int) ^ x.dst.toNat by unfold readsX;simp only [h];rfl] at hr
  rw [eff_14 m l h] at E
  have e1:=rd_1 ho hd hr
  rw [eff_14 _ l h,setR_other m b e1]
  cases E
  exact ⟨_,rfl,ap_keep⟩
theorem ap_15 {m n:Mc} {x:Xi} {l:Int} {o:Nat} {b:Int} (ho:o < 16) (hd:0 ≤ x.dst ∧ x.dst < 16) (hs:0 ≤ x.src ∧ x.src < 16) (h:x.op=15) (hr:(bitB (readsX x) o == 1)=false) (E:effX m x l=some n):∃ n',effX (m.setR o b) x l=some n' ∧ Ap (writesX x) o b n n':=by
  rw [show readsX x=(2:Int) ^ x.dst.toNat by unfold readsX;simp only [h];rfl] at hr
  rw [eff_15 m l h] at E
  have e1:=rd_1 ho hd hr
  rw [eff_15 _ l h,setR_other m b e1]
  cases E
  exact ⟨_,rfl,ap_keep⟩
theorem ap_16 {m n:Mc} {x:Xi} {l:Int} {o:Nat} {b:Int} (ho:o < 16) (hd:0 ≤ x.dst ∧ x.dst < 16) (hs:0 ≤ x.src ∧ x.src < 16) (h:x.op=16) (hr:(bitB (readsX x) o == 1)=false) (E:effX m x l=some n):∃ n',effX (m.setR o b) x l=some n' ∧ Ap (writesX x) o b n n':=by
  rw [show readsX x=bits .or .i64 ((2:Int) ^ x.dst.toNat) ((2:Int) ^ x.src.toNat) by unfold readsX;simp only [h];rfl] at hr
  rw [eff_16 m l h] at E
  obtain ⟨e1,e2⟩:=rd_2 ho hd hs hr
  rw [eff_16 _ l h,setR_other m b e1,setR_other m b e2]
  cases E
  exact ⟨_,rfl,ap_set ho hd (by rw [h];rfl)⟩
theorem ap_17 {m n:Mc} {x:Xi} {l:Int} {o:Nat} {b:Int} (ho:o < 16) (hd:0 ≤ x.dst ∧ x.dst < 16) (hs:0 ≤ x.src ∧ x.src < 16) (h:x.op=17) (hr:(bitB (readsX x) o == 1)=false) (E:effX m x l=some n):∃ n',effX (m.setR o b) x l=some n' ∧ Ap (writesX x) o b n n':=by
  rw [show readsX x=(2:Int) ^ x.dst.toNat by unfold readsX;simp only [h];rfl] at hr
  rw [eff_17 m l h] at E
  have e1:=rd_1 ho hd hr
  rw [eff_17 _ l h,setR_other m b e1]
  cases E
  exact ⟨_,rfl,ap_set ho hd (by rw [h];rfl)⟩
theorem ap_18 {m n:Mc} {x:Xi} {l:Int} {o:Nat} {b:Int} (ho:o < 16) (hd:0 ≤ x.dst ∧ x.dst < 16) (hs:0 ≤ x.src ∧ x.src < 16) (h:x.op=18) (hr:(bitB (readsX x) o == 1)=false) (E:effX m x l=some n):∃ n',effX (m.setR o b) x l=some n' ∧ Ap (writesX x) o b n n':=by
  rw [show readsX x=(2:Int) ^ x.dst.toNat by unfold readsX;simp only [h];rfl] at hr
  rw [eff_18 m l h] at E
  have e1:=rd_1 ho hd hr
  rw [eff_18 _ l h,setR_other m b e1]
  cases E
  exact ⟨_,rfl,ap_set ho hd (by rw [h];rfl)⟩
theorem ap_19 {m n:Mc} {x:Xi} {l:Int} {o:Nat} {b:Int} (ho:o < 16) (hd:0 ≤ x.dst ∧ x.dst < 16) (hs:0 ≤ x.src ∧ x.src < 16) (h:x.op=19) (hr:(bitB (readsX x) o == 1)=false) (E:effX m x l=some n):∃ n',effX (m.setR o b) x l=some n' ∧ Ap (writesX x) o b n n':=by
  rw [show readsX x=(2:Int) ^ x.dst.toNat by unfold readsX;simp only [h];rfl] at hr
  rw [eff_19 m l h] at E
  have e1:=rd_1 ho hd hr
  rw [eff_19 _ l h,setR_other m b e1]
  cases E
  exact ⟨_,rfl,ap_set ho hd (by rw [h];rfl)⟩
theorem ap_20 {m n:Mc} {x:Xi} {l:Int} {o:Nat} {b:Int} (ho:o < 16) (hd:0 ≤ x.dst ∧ x.dst < 16) (hs:0 ≤ x.src ∧ x.src < 16) (h:x.op=20) (hr:(bitB (readsX x) o == 1)=false) (E:effX m x l=some n):∃ n',effX (m.setR o b) x l=some n' ∧ Ap (writesX x) o b n n':=by
  rw [show readsX x=bits .or .i64 ((2:Int) ^ x.dst.toNat) (2) by unfold readsX;simp only [h];rfl] at hr
  rw [eff_20 m l h] at E
  obtain ⟨e1,e2⟩:=rd_c ho hd hr
  rw [eff_20 _ l h,setR_other m b e1,setR_other m b e2]
  cases E
  exact ⟨_,rfl,ap_set ho hd (by rw [h];rfl)⟩
theorem ap_21 {m n:Mc} {x:Xi} {l:Int} {o:Nat} {b:Int} (ho:o < 16) (hd:0 ≤ x.dst ∧ x.dst < 16) (hs:0 ≤ x.src ∧ x.src < 16) (h:x.op=21) (hr:(bitB (readsX x) o == 1)=false) (E:effX m x l=some n):∃ n',effX (m.setR o b) x l=some n' ∧ Ap (writesX x) o b n n':=by
  rw [show readsX x=bits .or .i64 ((2:Int) ^ x.dst.toNat) (2) by unfold readsX;simp only [h];rfl] at hr
  rw [eff_21 m l h] at E
  obtain ⟨e1,e2⟩:=rd_c ho hd hr
  rw [eff_21 _ l h,setR_other m b e1,setR_other m b e2]
  cases E
  exact ⟨_,rfl,ap_set ho hd (by rw [h];rfl)⟩
theorem ap_22 {m n:Mc} {x:Xi} {l:Int} {o:Nat} {b:Int} (ho:o < 16) (hd:0 ≤ x.dst ∧ x.dst < 16) (hs:0 ≤ x.src ∧ x.src < 16) (h:x.op=22) (hr:(bitB (readsX x) o == 1)=false) (E:effX m x l=some n):∃ n',effX (m.setR o b) x l=some n' ∧ Ap (writesX x) o b n n':=by
  rw [show readsX x=bits .or .i64 ((2:Int) ^ x.dst.toNat) (2) by unfold readsX;simp only [h];rfl] at hr
  rw [eff_22 m l h] at E
  obtain ⟨e1,e2⟩:=rd_c ho hd hr
  rw [eff_22 _ l h,setR_other m b e1,setR_other m b e2]
  cases E
  exact ⟨_,rfl,ap_set ho hd (by rw [h];rfl)⟩
theorem ap_23 {m n:Mc} {x:Xi} {l:Int} {o:Nat} {b:Int} (ho:o < 16) (hd:0 ≤ x.dst ∧ x.dst < 16) (hs:0 ≤ x.src ∧ x.src < 16) (h:x.op=23) (hr:(bitB (readsX x) o == 1)=false) (E:effX m x l=some n):∃ n',effX (m.setR o b) x l=some n' ∧ Ap (writesX x) o b n n':=by
  rw [show readsX x=(2:Int) ^ x.dst.toNat by unfold readsX;simp only [h];rfl] at hr
  rw [eff_23 m l h] at E
  have e1:=rd_1 ho hd hr
  rw [eff_23 _ l h,setR_other m b e1]
  cases E
  exact ⟨_,rfl,ap_set ho hd (by rw [h];rfl)⟩
theorem ap_24 {m n:Mc} {x:Xi} {l:Int} {o:Nat} {b:Int} (ho:o < 16) (hd:0 ≤ x.dst ∧ x.dst < 16) (hs:0 ≤ x.src ∧ x.src < 16) (h:x.op=24) (hr:(bitB (readsX x) o == 1)=false) (E:effX m x l=some n):∃ n',effX (m.setR o b) x l=some n' ∧ Ap (writesX x) o b n n':=by
  rw [show readsX x=bits .or .i64 (bits .or .i64 ((2:Int) ^ x.dst.toNat) (1)) (4) by unfold readsX;simp only [h];rfl] at hr
  rw [eff_24 m l h] at E
  obtain ⟨e1,e2,e3⟩:=rd_d ho hd hr
  rw [eff_24 _ l h]
  have q:divB (m.setR o b) x=divB m x:=by unfold divB;rw [setR_other m b e1,setR_other m b e3]
  rw [q]
  cases hk:divB m x
  · rw [hk] at E;cases E
  · rw [hk] at E
    cases E
    refine ⟨_,rfl,rfl,rfl,fun j hj=>?_,.inr ?_⟩
    · unfold divM
      rw [setR_other m b e1,setR_other m b e2]
      show (if j=2 then _ else if j=0 then _ else if j=o then b else m.r j)=(if j=2 then _ else if j=0 then _ else m.r j)
      rw [if_neg hj]
    · unfold divM
      show (if o=2 then _ else if o=0 then _ else if o=o then b else m.r o)=b
      rw [if_neg (Ne.symm e3),if_neg (Ne.symm e2),if_pos rfl]
theorem ap_25 {m n:Mc} {x:Xi} {l:Int} {o:Nat} {b:Int} (ho:o < 16) (hd:0 ≤ x.dst ∧ x.dst < 16) (hs:0 ≤ x.src ∧ x.src < 16) (h:x.op=25) (hr:(bitB (readsX x) o == 1)=false) (E:effX m x l=some n):∃ n',effX (m.setR o b) x l=some n' ∧ Ap (writesX x) o b n n':=by
  rw [show readsX x=bits .or .i64 ((2:Int) ^ x.dst.toNat) ((2:Int) ^ x.src.toNat) by unfold readsX;simp only [h];rfl] at hr
  rw [eff_25 m l h] at E
  obtain ⟨e1,e2⟩:=rd_2 ho hd hs hr
  rw [eff_25 _ l h]
  cases hk:m.f.k
  · rw [hk] at E;cases E
  · rw [hk] at E
    cases E
    rw [show (m.setR o b).f.k=true from hk]
    refine ⟨_,rfl,?_⟩
    unfold cmvM
    rw [setR_other m b e1,setR_other m b e2]
    exact ap_set ho hd (by rw [h];rfl)
theorem ap_26 {m n:Mc} {x:Xi} {l:Int} {o:Nat} {b:Int} (ho:o < 16) (hd:0 ≤ x.dst ∧ x.dst < 16) (hs:0 ≤ x.src ∧ x.src < 16) (h:x.op=26) (hr:(bitB (readsX x) o == 1)=false) (E:effX m x l=some n):∃ n',effX (m.setR o b) x l=some n' ∧ Ap (writesX x) o b n n':=by
  rw [eff_26 m l h] at E
  rw [eff_26 _ l h]
  cases E
  exact ⟨_,rfl,ap_set ho hd (by rw [h];rfl)⟩
theorem ap_27 {m n:Mc} {x:Xi} {l:Int} {o:Nat} {b:Int} (ho:o < 16) (hd:0 ≤ x.dst ∧ x.dst < 16) (hs:0 ≤ x.src ∧ x.src < 16) (h:x.op=27) (hr:(bitB (readsX x) o == 1)=false) (E:effX m x l=some n):∃ n',effX (m.setR o b) x l=some n' ∧ Ap (writesX x) o b n n':=by
  rw [eff_27 m l h] at E
  rw [eff_27 _ l h]
  cases E
  exact ⟨_,rfl,ap_keep⟩
theorem ap_28 {m n:Mc} {x:Xi} {l:Int} {o:Nat} {b:Int} (ho:o < 16) (hd:0 ≤ x.dst ∧ x.dst < 16) (hs:0 ≤ x.src ∧ x.src < 16) (h:x.op=28) (hr:(bitB (readsX x) o == 1)=false) (E:effX m x l=some n):∃ n',effX (m.setR o b) x l=some n' ∧ Ap (writesX x) o b n n':=by
  rw [eff_28 m l h] at E
  rw [eff_28 _ l h]
  cases E
  exact ⟨_,rfl,ap_keep⟩
theorem ap_29 {m n:Mc} {x:Xi} {l:Int} {o:Nat} {b:Int} (ho:o < 16) (hd:0 ≤ x.dst ∧ x.dst < 16) (hs:0 ≤ x.src ∧ x.src < 16) (h:x.op=29) (hr:(bitB (readsX x) o == 1)=false) (E:effX m x l=some n):∃ n',effX (m.setR o b) x l=some n' ∧ Ap (writesX x) o b n n':=by
  rw [eff_29 m l h] at E
  rw [eff_29 _ l h]
  cases hk:m.f.k
  · rw [hk] at E;cases E
  · rw [hk] at E
    cases E
    rw [show (m.setR o b).f.k=true from hk]
    refine ⟨_,rfl,?_⟩
    unfold jccM
    rw [show (m.setR o b).f=m.f from rfl]
    cases holF x.cc m.f
    · exact ap_keep
    · exact ap_keep
theorem ap_30 {m n:Mc} {x:Xi} {l:Int} {o:Nat} {b:Int} (ho:o < 16) (hd:0 ≤ x.dst ∧ x.dst < 16) (hs:0 ≤ x.src ∧ x.src < 16) (h:x.op=30) (hr:(bitB (readsX x) o == 1)=false) (E:effX m x l=some n):∃ n',effX (m.setR o b) x l=some n' ∧ Ap (writesX x) o b n n':=by
  rw [show readsX x=17 by unfold readsX;simp only [h];rfl] at hr
  rw [eff_30 m l h] at E
  rw [show (17:Int)=17 from rfl,bit17 ⟨o,ho⟩] at hr
  simp only [Bool.or_eq_false_iff,decide_eq_false_iff_not] at hr
  have e1:4 ≠ o:=fun e=>hr.2 e.symm
  rw [eff_30 _ l h,setR_other m b e1]
  cases E
  refine ⟨_,rfl,rfl,rfl,fun j hj=>?_,.inr ?_⟩
  · show (if j=4 then _ else if j=o then b else m.r j)=(if j=4 then _ else m.r j)
    rw [if_neg hj]
  · show (if o=4 then _ else if o=o then b else m.r o)=b
    rw [if_neg (Ne.symm e1),if_pos rfl]
theorem ap_31 {m n:Mc} {x:Xi} {l:Int} {o:Nat} {b:Int} (ho:o < 16) (hd:0 ≤ x.dst ∧ x.dst < 16) (hs:0 ≤ x.src ∧ x.src < 16) (h:x.op=31) (hr:(bitB (readsX x) o == 1)=false) (E:effX m x l=some n):∃ n',effX (m.setR o b) x l=some n' ∧ Ap (writesX x) o b n n':=by
  rw [show readsX x=1477 by unfold readsX;simp only [h];rfl] at hr
  rw [eff_31 m l h] at E
  rw [show effX (m.setR o b) x l=some ((((m.setR o b).setR 0 l).setR 1 0).setR 11 0) from eff_31 _ l h]
  have hw:writesX x=2051:=by unfold writesX;rw [if_neg (by omega),if_neg (by omega),if_pos h]
  cases E
  refine ⟨_,rfl,rfl,rfl,fun j hj=>?_,?_⟩
  · show (if j=11 then _ else if j=1 then _ else if j=0 then _ else if j=o then b else m.r j)=(if j=11 then _ else if j=1 then _ else if j=0 then _ else m.r j)
    rw [if_neg hj]
  · by_cases e:o=0 ∨ o=1 ∨ o=11
    · left
      rw [hw,bit2051' ⟨o,ho⟩]
      simpa using e
    · right
      show (if o=11 then _ else if o=1 then _ else if o=0 then _ else if o=o then b else m.r o)=b
      rw [if_neg (by omega),if_neg (by omega),if_neg (by omega),if_pos rfl]
theorem apart_of {m n:Mc} {x:Xi} {l:Int} {o:Nat} {b:Int} (ho:o < 16) (hm:mayX x=true) (hr:(bitB (readsX x) o == 1)=false) (E:effX m x l=some n):∃ n',effX (m.setR o b) x l=some n' ∧ Ap (writesX x) o b n n':=by
  have p:=Mrm.may_parts' hm
  rcases Mrm.lt32 p.1 with h | h | h | h | h | h | h | h | h | h | h | h | h | h | h | h | h | h | h | h | h | h | h | h | h | h | h | h | h | h | h | h
  · exact ap_0 ho p.2.1 p.2.2.1 h hr E
  · exact ap_1 ho p.2.1 p.2.2.1 h hr E
  · exact ap_2 ho p.2.1 p.2.2.1 h hr E
  · exact ap_3 ho p.2.1 p.2.2.1 h hr E
  · exact ap_4 ho p.2.1 p.2.2.1 h hr E
  · exact ap_5 ho p.2.1 p.2.2.1 h hr E
  · exact ap_6 ho p.2.1 p.2.2.1 h hr E
  · exact ap_7 ho p.2.1 p.2.2.1 h hr E
  · exact ap_8 ho p.2.1 p.2.2.1 h hr E
  · exact ap_9 ho p.2.1 p.2.2.1 h hr E
  · exact ap_10 ho p.2.1 p.2.2.1 h hr E
  · exact ap_11 ho p.2.1 p.2.2.1 h hr E
  · exact ap_12 ho p.2.1 p.2.2.1 h hr E
  · exact ap_13 ho p.2.1 p.2.2.1 h hr E
  · exact ap_14 ho p.2.1 p.2.2.1 h hr E
  · exact ap_15 ho p.2.1 p.2.2.1 h hr E
  · exact ap_16 ho p.2.1 p.2.2.1 h hr E
  · exact ap_17 ho p.2.1 p.2.2.1 h hr E
  · exact ap_18 ho p.2.1 p.2.2.1 h hr E
  · exact ap_19 ho p.2.1 p.2.2.1 h hr E
  · exact ap_20 ho p.2.1 p.2.2.1 h hr E
  · exact ap_21 ho p.2.1 p.2.2.1 h hr E
  · exact ap_22 ho p.2.1 p.2.2.1 h hr E
  · exact ap_23 ho p.2.1 p.2.2.1 h hr E
  · exact ap_24 ho p.2.1 p.2.2.1 h hr E
  · exact ap_25 ho p.2.1 p.2.2.1 h hr E
  · exact ap_26 ho p.2.1 p.2.2.1 h hr E
  · exact ap_27 ho p.2.1 p.2.2.1 h hr E
  · exact ap_28 ho p.2.1 p.2.2.1 h hr E
  · exact ap_29 ho p.2.1 p.2.2.1 h hr E
  · exact ap_30 ho p.2.1 p.2.2.1 h hr E
  · exact ap_31 ho p.2.1 p.2.2.1 h hr E
end Go.Proofs.YtoghjpliemidkaaDoor.Exe
