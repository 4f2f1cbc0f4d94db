import Derived.Test.YtcnneeimkcnjfaaRows
import Derived.Test.YtcnneeimkcnjfaaBndM
import Derived.Test.YtcnneeimkcnjfaaStore
import Derived.WalkKit
import Derived.WalkSpells
import Derived.WalkLawsBesides
import Derived.Lib.Hide
import Derived.Lib.MinMax
import Derived.Handy
import Derived.BigQuiet
import Derived.Below
import Derived.StillTailTactics
namespace Go.Proofs.Ytcnneeimkcnjfaa.Bnd
open Go.RowKit
set_option linter.unusedVariables false
set_option linter.unusedSimpArgs false
set_option linter.unnecessarySimpa false
theorem retB {a b:Bool} (h:a=b):Ending.returned (.bool a)=.returned (.bool b):=by rw [h]
theorem and_l {p q:Prop} [Decidable p] [Decidable q] (h:p):decide q=(decide p && decide q):=by rw [decide_eq_true h];rfl
theorem mo:Try.prog.follows .mixedOrders=true:=by kernel_rfl
abbrev cR (a b c d:Int):Array Value:=#[.int .u64 a,.int .u64 b,.int .i64 c,.int .i64 d]
abbrev cU (a b:Int):Array Value:=#[.int .u64 a,.int .u64 b]
abbrev cS (a b:Int):Array Value:=#[.int .i64 a,.int .i64 b]
theorem yb {a b:Int} (h:(a == b)=true):a=b:=by simpa using h
theorem retP {k:IntKind} {a b c d:Int} (h1:a=c) (h2:b=d):Ending.returned (.agg #[.int k a,.int k b])=.returned (.agg #[.int k c,.int k d]):=by rw [h1,h2]
theorem retR {a b c d x y z t:Int} (h1:a=x) (h2:b=y) (h3:c=z) (h4:d=t):Ending.returned (.agg #[.int .u64 a,.int .u64 b,.int .i64 c,.int .i64 d])=.returned (.agg #[.int .u64 x,.int .u64 y,.int .i64 z,.int .i64 t]):=by rw [h1,h2,h3,h4]
theorem ofInt_mod (v:Int):(BitVec.ofInt 64 v).toNat=(v % 18446744073709551616).toNat:=by
  rw [BitVec.toNat_ofInt];rfl
def word (k:IntKind):Prop:=k=.u64 ∨ k=.i64
theorem bits_is {k:IntKind} (hk:word k) (x y:Int):bits .and k x y=k.wrap ((BitVec.ofInt 64 x &&& BitVec.ofInt 64 y).toNat:Int) ∧ bits .xor k x y=k.wrap ((BitVec.ofInt 64 x ^^^ BitVec.ofInt 64 y).toNat:Int):=by
  rcases hk with rfl | rfl <;> exact ⟨rfl,rfl⟩
theorem and_1k {k:IntKind} (hk:word k) (x:Int):bits .and k x 1=x % 2:=by
  rw [(bits_is hk x 1).1,BitVec.toNat_and,ofInt_mod,ofInt_mod]
  have e:(x % 18446744073709551616).toNat &&& ((1:Int) % 18446744073709551616).toNat=(x % 18446744073709551616).toNat % 2:=Nat.and_two_pow_sub_one_eq_mod _ 1
  rw [e]
  rcases hk with rfl | rfl
  · rw [IntKind.wrap_u64];omega
  · rw [IntKind.wrap_i64];omega
theorem wS:word .i64:=.inr rfl
theorem Pr.hasB_mk (a b v:Int):Pr.hasB ⟨a,b⟩ v=(decide (a ≤ v) && decide (v ≤ b)):=rfl
theorem hasU_any (p:Pr) (v:Int) (W:World):Calls Try.prog 95 #[p.val .u64,.int .u64 v] W fun e w'=>e=.returned (.bool (p.hasB v)) ∧ Below W.heap.size W w':=by
  obtain ⟨a,b⟩:=p
  rw [Pr.hasB_mk];simp only [Pr.val]
  go_enter Try.func95,Try.ntmps95
  go_wp2
  all_goals go_returns
  all_goals refine ⟨(by first | exact retB rfl | exact retB (by symm;simp only [Bool.and_eq_false_iff,decide_eq_false_iff_not];omega) | exact retB (and_l (by omega))),?_⟩
  all_goals (repeat' (first | exact Below.refl _ _ | assumption | apply below_new | (refine below_call ?_ (by assumption))))
theorem joinU_any (p q:Pr) (W:World):Calls Try.prog 98 #[p.val .u64,q.val .u64] W fun e w'=>e=.returned ((p.join q).val .u64) ∧ Below W.heap.size W w':=by
  obtain ⟨a,b⟩:=p
  obtain ⟨c,d⟩:=q
  simp only [Pr.val,Pr.join]
  go_enter Try.func98,Try.ntmps98
  go_wp2
  all_goals go_returns
  all_goals refine ⟨rfl,?_⟩
  all_goals (repeat' (first | exact Below.refl _ _ | assumption | apply below_new | (refine below_call ?_ (by assumption))))
theorem meetU_any (p q:Pr) (W:World):Calls Try.prog 121 #[p.val .u64,q.val .u64] W fun e w'=>e=.returned ((p.meet q).val .u64) ∧ Below W.heap.size W w':=by
  obtain ⟨a,b⟩:=p
  obtain ⟨c,d⟩:=q
  simp only [Pr.val,Pr.meet]
  go_enter Try.func121,Try.ntmps121
  go_wp2
  all_goals go_returns
  all_goals refine ⟨rfl,?_⟩
  all_goals (repeat' (first | exact Below.refl _ _ | assumption | apply below_new | (refine below_call ?_ (by assumption))))
theorem hasS_any (p:Pr) (v:Int) (W:World):Calls Try.prog 96 #[p.val .i64,.int .i64 v] W fun e w'=>e=.returned (.bool (p.hasB v)) ∧ Below W.heap.size W w':=by
  obtain ⟨a,b⟩:=p
  rw [Pr.hasB_mk];simp only [Pr.val]
  go_enter Try.func96,Try.ntmps96
  go_wp2
  all_goals go_returns
  all_goals refine ⟨(by first | exact retB rfl | exact retB (by symm;simp only [Bool.and_eq_false_iff,decide_eq_false_iff_not];omega) | exact retB (and_l (by omega))),?_⟩
  all_goals (repeat' (first | exact Below.refl _ _ | assumption | apply below_new | (refine below_call ?_ (by assumption))))
theorem joinS_any (p q:Pr) (W:World):Calls Try.prog 99 #[p.val .i64,q.val .i64] W fun e w'=>e=.returned ((p.join q).val .i64) ∧ Below W.heap.size W w':=by
  obtain ⟨a,b⟩:=p
  obtain ⟨c,d⟩:=q
  simp only [Pr.val,Pr.join]
  go_enter Try.func99,Try.ntmps99
  go_wp2
  all_goals go_returns
  all_goals refine ⟨rfl,?_⟩
  all_goals (repeat' (first | exact Below.refl _ _ | assumption | apply below_new | (refine below_call ?_ (by assumption))))
theorem meetS_any (p q:Pr) (W:World):Calls Try.prog 122 #[p.val .i64,q.val .i64] W fun e w'=>e=.returned ((p.meet q).val .i64) ∧ Below W.heap.size W w':=by
  obtain ⟨a,b⟩:=p
  obtain ⟨c,d⟩:=q
  simp only [Pr.val,Pr.meet]
  go_enter Try.func122,Try.ntmps122
  go_wp2
  all_goals go_returns
  all_goals refine ⟨rfl,?_⟩
  all_goals (repeat' (first | exact Below.refl _ _ | assumption | apply below_new | (refine below_call ?_ (by assumption))))
end Go.Proofs.Ytcnneeimkcnjfaa.Bnd
