import Derived.Test.YtigliofiojkhcaaGreatRows
import Derived.Test.YtigliofiojkhcaaGreatMRn04
import Derived.WalkKit
import Derived.WalkSpells
import Derived.WalkLawsBesides
import Derived.Laws.EntriesVeiled
import Derived.Lib.Hide
import Derived.Deep.QuietTactic
import Derived.BigQuiet
import Derived.Handy
set_option linter.unusedVariables false
set_option linter.unusedSimpArgs false
set_option linter.unnecessarySimpa false
namespace Go.Proofs.YtigliofiojkhcaaGreat
open Go.RowKit
theorem neq_of {a b:Int} (h:¬ a=b):(a == b)=false:=by simpa using h
theorem retI {k:IntKind} {a b:Int} (h:a=b):Ending.returned (.int k a)=.returned (.int k b):=by rw [h]
theorem wrap_u16' (n:Int):IntKind.u64.wrap (IntKind.u16.wrap n)=n % 65536:=by
  simp only [IntKind.wrap,IntKind.bits,IntKind.signed];simp;omega
theorem wrap_i8' (n:Int):IntKind.i8.wrap n=(n + 128) % 256 - 128:=by
  simp only [IntKind.wrap,IntKind.bits,IntKind.signed];simp;split <;> omega
theorem wrap_i16' (n:Int):IntKind.i16.wrap n=(n + 32768) % 65536 - 32768:=by
  simp only [IntKind.wrap,IntKind.bits,IntKind.signed];simp;split <;> omega
theorem wrap_i32' (n:Int):wrap32 n=(n + 2147483648) % 4294967296 - 2147483648:=by rw [wrap32]
theorem retB {a b:Bool} (h:a=b):Ending.returned (.bool a)=.returned (.bool b):=by rw [h]
set_option maxHeartbeats 400000 in
theorem cut_any (v w:Int) (W:World):
    Calls Tryz.prog 84 #[.int .u64 v,.int .i8 w] W fun e w'=>e=.returned (.int .u64 (cutI v w)) ∧ W=w':=by
  by_cases a:w=8
  · subst a
    go_enter Tryz.func84,Tryz.ntmps84
    go_wp2
    go_ret
    exact ⟨rfl,rfl⟩
  by_cases b:w=16
  · subst b
    go_enter Tryz.func84,Tryz.ntmps84
    go_wp2
    go_ret
    exact ⟨retI (by rw [cutI_16,wrap_u16']),rfl⟩
  by_cases c:w=32
  · subst c
    go_enter Tryz.func84,Tryz.ntmps84
    go_wp2
    go_ret
    exact ⟨rfl,rfl⟩
  have d:cutI v w=v:=by unfold cutI;rw [if_neg a,if_neg b,if_neg c]
  rw [d];clear d
  have a':=neq_of a
  have b':=neq_of b
  have c':=neq_of c
  go_enter Tryz.func84,Tryz.ntmps84
  go_wp2
  go_ret
  exact ⟨rfl,rfl⟩
set_option maxHeartbeats 400000 in
theorem sign_any (v w:Int) (W:World):
    Calls Tryz.prog 112 #[.int .u64 v,.int .i8 w] W fun e w'=>e=.returned (.int .u64 (signI v w)) ∧ W=w':=by
  by_cases a:w=8
  · subst a
    go_enter Tryz.func112,Tryz.ntmps112
    go_wp2
    go_ret
    exact ⟨retI (by rw [signI_8,IntKind.wrap_u64,wrap_i8']),rfl⟩
  by_cases b:w=16
  · subst b
    go_enter Tryz.func112,Tryz.ntmps112
    go_wp2
    go_ret
    exact ⟨retI (by rw [signI_16,IntKind.wrap_u64,wrap_i16']),rfl⟩
  by_cases c:w=32
  · subst c
    go_enter Tryz.func112,Tryz.ntmps112
    go_wp2
    go_ret
    exact ⟨retI (by rw [signI_32,IntKind.wrap_u64,wrap_i32']),rfl⟩
  have d:signI v w=v:=by unfold signI;rw [if_neg a,if_neg b,if_neg c]
  rw [d];clear d
  have a':=neq_of a
  have b':=neq_of b
  have c':=neq_of c
  go_enter Tryz.func112,Tryz.ntmps112
  go_wp2
  go_ret
  exact ⟨rfl,rfl⟩
set_option maxHeartbeats 400000 in
theorem computes_any (w:Int) (W:World):
    Calls Tryz.prog 83 #[.int .i8 w] W fun e w'=>e=.returned (.bool (longB w)) ∧ W=w':=by
  by_cases a:w=32
  · subst a
    go_enter Tryz.func83,Tryz.ntmps83
    go_wp2
    go_ret
    exact ⟨rfl,rfl⟩
  have d:longB w=(w == 64):=by unfold longB;rw [neq_of a];rfl
  rw [d];clear d
  have a':=neq_of a
  go_enter Tryz.func83,Tryz.ntmps83
  go_wp2
  go_ret
  exact ⟨rfl,rfl⟩
theorem quiet_left {P:Program} {f:FuncId} {args:Array Value} {w:World} {n:Nat} {v:Value}
    (h:Calls P f args (w.drewN n) fun e w'=>e=.returned v ∧ w.drewN n=w'):Calls P f args (w.drewN n) fun e w''=>e=.returned v ∧ ∃ m,w''=w.drewN m:=
  h.mono fun _ _ ⟨he,hm⟩=>⟨he,n,hm.symm⟩
set_option maxHeartbeats 1000000 in
theorem compute_0 (w a b:Int) (W:World):
    Calls Tryz.prog 85 #[.int .i8 0,.int .i8 w,.int .u64 a,.int .u64 b] W fun e w'=>e=.returned (.int .u64 (opI 0 w a b)) ∧ Below W.heap.size W w':=by
  have hmf:∀ (fn:Fn) (first cap:Array Value) (w:World),(Instr.makeFunc fn first cap).run Tryz.prog w=.ok (.func fn first cap) w:=fun _ _ _ _=>rfl
  go_enter Tryz.func85,Tryz.ntmps85
  go_wp2
  go_ret
  refine ⟨retI ?_,((((Below.refl _ _).alloc (Nat.le_refl _) _).alloc (by simp) _).alloc (by simp;omega) _)⟩
  rw [opI_0,IntKind.wrap_u64]
set_option maxHeartbeats 1000000 in
theorem compute_1 (w a b:Int) (W:World):
    Calls Tryz.prog 85 #[.int .i8 1,.int .i8 w,.int .u64 a,.int .u64 b] W fun e w'=>e=.returned (.int .u64 (opI 1 w a b)) ∧ Below W.heap.size W w':=by
  have hmf:∀ (fn:Fn) (first cap:Array Value) (w:World),(Instr.makeFunc fn first cap).run Tryz.prog w=.ok (.func fn first cap) w:=fun _ _ _ _=>rfl
  go_enter Tryz.func85,Tryz.ntmps85
  go_wp2
  go_ret
  refine ⟨retI ?_,((((Below.refl _ _).alloc (Nat.le_refl _) _).alloc (by simp) _).alloc (by simp;omega) _)⟩
  rw [opI_1,IntKind.wrap_u64]
set_option maxHeartbeats 1000000 in
theorem compute_2 (w a b:Int) (W:World):
    Calls Tryz.prog 85 #[.int .i8 2,.int .i8 w,.int .u64 a,.int .u64 b] W fun e w'=>e=.returned (.int .u64 (opI 2 w a b)) ∧ Below W.heap.size W w':=by
  have hmf:∀ (fn:Fn) (first cap:Array Value) (w:World),(Instr.makeFunc fn first cap).run Tryz.prog w=.ok (.func fn first cap) w:=fun _ _ _ _=>rfl
  go_enter Tryz.func85,Tryz.ntmps85
  go_wp2
  go_ret
  refine ⟨retI ?_,((((Below.refl _ _).alloc (Nat.le_refl _) _).alloc (by simp) _).alloc (by simp;omega) _)⟩
  rw [opI_2,IntKind.wrap_u64]
set_option maxHeartbeats 1000000 in
theorem compute_4 (w a b:Int) (W:World) (ha0:0 ≤ a) (ha1:a < 18446744073709551616) (hb0:0 ≤ b) (hb1:b < 18446744073709551616):
    Calls Tryz.prog 85 #[.int .i8 4,.int .i8 w,.int .u64 a,.int .u64 b] W fun e w'=>e=.returned (.int .u64 (opI 4 w a b)) ∧ Below W.heap.size W w':=by
  have hmf:∀ (fn:Fn) (first cap:Array Value) (w:World),(Instr.makeFunc fn first cap).run Tryz.prog w=.ok (.func fn first cap) w:=fun _ _ _ _=>rfl
  go_enter Tryz.func85,Tryz.ntmps85
  go_wp2
  go_ret
  refine ⟨retI ?_,((((Below.refl _ _).alloc (Nat.le_refl _) _).alloc (by simp) _).alloc (by simp;omega) _)⟩
  rw [opI_4,u64_or a b ha0 ha1 hb0 hb1]
set_option maxHeartbeats 1000000 in
theorem compute_5 (w a b:Int) (W:World) (ha0:0 ≤ a) (ha1:a < 18446744073709551616) (hb0:0 ≤ b) (hb1:b < 18446744073709551616):
    Calls Tryz.prog 85 #[.int .i8 5,.int .i8 w,.int .u64 a,.int .u64 b] W fun e w'=>e=.returned (.int .u64 (opI 5 w a b)) ∧ Below W.heap.size W w':=by
  have hmf:∀ (fn:Fn) (first cap:Array Value) (w:World),(Instr.makeFunc fn first cap).run Tryz.prog w=.ok (.func fn first cap) w:=fun _ _ _ _=>rfl
  go_enter Tryz.func85,Tryz.ntmps85
  go_wp2
  go_ret
  refine ⟨retI ?_,((((Below.refl _ _).alloc (Nat.le_refl _) _).alloc (by simp) _).alloc (by simp;omega) _)⟩
  rw [opI_5,u64_and a b ha0 ha1 hb0 hb1]
set_option maxHeartbeats 1000000 in
theorem compute_8 (w a b:Int) (W:World):
    Calls Tryz.prog 85 #[.int .i8 8,.int .i8 w,.int .u64 a,.int .u64 b] W fun e w'=>e=.returned (.int .u64 (opI 8 w a b)) ∧ Below W.heap.size W w':=by
  have hmf:∀ (fn:Fn) (first cap:Array Value) (w:World),(Instr.makeFunc fn first cap).run Tryz.prog w=.ok (.func fn first cap) w:=fun _ _ _ _=>rfl
  go_enter Tryz.func85,Tryz.ntmps85
  go_wp2
  go_ret
  refine ⟨retI ?_,((((Below.refl _ _).alloc (Nat.le_refl _) _).alloc (by simp) _).alloc (by simp;omega) _)⟩
  rw [opI_8,IntKind.wrap_u64]
set_option maxHeartbeats 1000000 in
theorem compute_10 (w a b:Int) (W:World) (ha0:0 ≤ a) (ha1:a < 18446744073709551616) (hb0:0 ≤ b) (hb1:b < 18446744073709551616):
    Calls Tryz.prog 85 #[.int .i8 10,.int .i8 w,.int .u64 a,.int .u64 b] W fun e w'=>e=.returned (.int .u64 (opI 10 w a b)) ∧ Below W.heap.size W w':=by
  have hmf:∀ (fn:Fn) (first cap:Array Value) (w:World),(Instr.makeFunc fn first cap).run Tryz.prog w=.ok (.func fn first cap) w:=fun _ _ _ _=>rfl
  go_enter Tryz.func85,Tryz.ntmps85
  go_wp2
  go_ret
  refine ⟨retI ?_,((((Below.refl _ _).alloc (Nat.le_refl _) _).alloc (by simp) _).alloc (by simp;omega) _)⟩
  rw [opI_10,u64_xor a b ha0 ha1 hb0 hb1]
set_option maxHeartbeats 1000000 in
theorem compute_11 (w a b:Int) (W:World):
    Calls Tryz.prog 85 #[.int .i8 11,.int .i8 w,.int .u64 a,.int .u64 b] W fun e w'=>e=.returned (.int .u64 (opI 11 w a b)) ∧ Below W.heap.size W w':=by
  have hmf:∀ (fn:Fn) (first cap:Array Value) (w:World),(Instr.makeFunc fn first cap).run Tryz.prog w=.ok (.func fn first cap) w:=fun _ _ _ _=>rfl
  go_enter Tryz.func85,Tryz.ntmps85
  go_wp2
  go_ret
  refine ⟨retI ?_,((((Below.refl _ _).alloc (Nat.le_refl _) _).alloc (by simp) _).alloc (by simp;omega) _)⟩
  rw [opI_11]
end Go.Proofs.YtigliofiojkhcaaGreat
namespace Go.Proofs.YtigliofiojkhcaaGreat
open Go.RowKit
set_option maxHeartbeats 1000000 in
theorem compute_6_32 (a b:Int) (W:World) (hb0:0 ≤ b) (hb1:b < 18446744073709551616):
    Calls Tryz.prog 85 #[.int .i8 6,.int .i8 32,.int .u64 a,.int .u64 b] W fun e w'=>e=.returned (.int .u64 (opI 6 32 a b)) ∧ Below W.heap.size W w':=by
  have hmf:∀ (fn:Fn) (first cap:Array Value) (w:World),(Instr.makeFunc fn first cap).run Tryz.prog w=.ok (.func fn first cap) w:=fun _ _ _ _=>rfl
  have e1:=and_31 b hb0 hb1
  have e2:0 ≤ b % 32:=by omega
  have e3:min (b % 32).toNat 64=(b % 32).toNat:=by omega
  have e4:cntI 32 b=(b % 32).toNat:=rfl
  go_enter Tryz.func85,Tryz.ntmps85
  go_wp2
  go_ret
  refine ⟨retI ?_,((((Below.refl _ _).alloc (Nat.le_refl _) _).alloc (by simp) _).alloc (by simp;omega) _)⟩
  rw [opI_6,IntKind.wrap_u64,e4]
set_option maxHeartbeats 1000000 in
theorem compute_7_32 (a b:Int) (W:World) (hb0:0 ≤ b) (hb1:b < 18446744073709551616):
    Calls Tryz.prog 85 #[.int .i8 7,.int .i8 32,.int .u64 a,.int .u64 b] W fun e w'=>e=.returned (.int .u64 (opI 7 32 a b)) ∧ Below W.heap.size W w':=by
  have hmf:∀ (fn:Fn) (first cap:Array Value) (w:World),(Instr.makeFunc fn first cap).run Tryz.prog w=.ok (.func fn first cap) w:=fun _ _ _ _=>rfl
  have e1:=and_31 b hb0 hb1
  have e2:0 ≤ b % 32:=by omega
  have e3:min (b % 32).toNat 64=(b % 32).toNat:=by omega
  have e4:cntI 32 b=(b % 32).toNat:=rfl
  go_enter Tryz.func85,Tryz.ntmps85
  go_wp2
  go_ret
  refine ⟨retI ?_,((((Below.refl _ _).alloc (Nat.le_refl _) _).alloc (by simp) _).alloc (by simp;omega) _)⟩
  rw [opI_7,e4]
set_option maxHeartbeats 400000 in
theorem count_32 (b:Int) (p:Addr) (W:World) (h0:0 ≤ b) (h1:b < 18446744073709551616) (hp:W.cell? p=some (.int .i8 32)):
    Calls Tryz.prog 98 #[.int .u64 b,.pointer (some p)] W fun e w'=>e=.returned (.int .u64 (b % 32)) ∧ W=w':=by
  go_enter Tryz.func98,Tryz.ntmps98
  go_wp2
  go_ret
  exact ⟨retI (by rw [and_31 b h0 h1]),rfl⟩
set_option maxHeartbeats 1000000 in
theorem arsh_32 (a b:Int) (p q:Addr) (W:World) (h0:0 ≤ b) (h1:b < 18446744073709551616) (hq:W.cell? q=some (.int .i8 32))
    (hp:W.cell? p=some (.func (.func 98) #[] #[.pointer (some q)])):
    Calls Tryz.prog 111 #[.int .u64 a,.int .u64 b,.pointer (some q),.pointer (some p)] W fun e w'=>e=.returned (.int .u64 (opI 12 32 a b)) ∧ ∃ n,W.drewN n=w':=by
  have e2:0 ≤ b % 32:=by omega
  have e3:min (b % 32).toNat 64=(b % 32).toNat:=by omega
  go_enter Tryz.func111,Tryz.ntmps111
  go_wp2
  go_quiet ((first | (go_at_call 112;exact quiet_left (sign_any _ _ _)) | (go_at_call 98;exact quiet_left (count_32 _ _ _ h0 h1 hq))))
  go_wp2
  go_ret
  refine ⟨retI ?_,_,rfl⟩
  rw [opI_12,IntKind.wrap_u64,show wrap64 (signI a 32)=sgnI a 32 from (IntWalk.i64_left _).symm.trans (wrap64_sign32 a)];rfl
set_option maxHeartbeats 1000000 in
theorem compute_12_32 (a b:Int) (W:World) (hb0:0 ≤ b) (hb1:b < 18446744073709551616):
    Calls Tryz.prog 85 #[.int .i8 12,.int .i8 32,.int .u64 a,.int .u64 b] W fun e w'=>e=.returned (.int .u64 (opI 12 32 a b)) ∧ Below W.heap.size W w':=by
  have hmf:∀ (fn:Fn) (first cap:Array Value) (w:World),(Instr.makeFunc fn first cap).run Tryz.prog w=.ok (.func fn first cap) w:=fun _ _ _ _=>rfl
  go_enter Tryz.func85,Tryz.ntmps85
  go_wp2_with (go_at_call 111;refine (arsh_32 a b ⟨W.heap.size + 1,0,none⟩ ⟨W.heap.size,0,none⟩ _ hb0 hb1 (by go_simp) (by go_simp)).mono ?_;rintro e w' ⟨rfl,n,rfl⟩)
  go_ret
  refine ⟨rfl,below_drewN ((((Below.refl _ _).alloc (Nat.le_refl _) _).alloc (by simp) _).alloc (by simp;omega) _) _⟩
end Go.Proofs.YtigliofiojkhcaaGreat
namespace Go.Proofs.YtigliofiojkhcaaGreat
open Go.RowKit
set_option maxHeartbeats 1000000 in
theorem compute_6_64 (a b:Int) (W:World) (hb0:0 ≤ b) (hb1:b < 18446744073709551616):
    Calls Tryz.prog 85 #[.int .i8 6,.int .i8 64,.int .u64 a,.int .u64 b] W fun e w'=>e=.returned (.int .u64 (opI 6 64 a b)) ∧ Below W.heap.size W w':=by
  have hmf:∀ (fn:Fn) (first cap:Array Value) (w:World),(Instr.makeFunc fn first cap).run Tryz.prog w=.ok (.func fn first cap) w:=fun _ _ _ _=>rfl
  have e1:=and_63 b hb0 hb1
  have e2:0 ≤ b % 64:=by omega
  have e3:min (b % 64).toNat 64=(b % 64).toNat:=by omega
  have e4:cntI 64 b=(b % 64).toNat:=rfl
  go_enter Tryz.func85,Tryz.ntmps85
  go_wp2
  go_ret
  refine ⟨retI ?_,((((Below.refl _ _).alloc (Nat.le_refl _) _).alloc (by simp) _).alloc (by simp;omega) _)⟩
  rw [opI_6,IntKind.wrap_u64,e4]
set_option maxHeartbeats 1000000 in
theorem compute_7_64 (a b:Int) (W:World) (hb0:0 ≤ b) (hb1:b < 18446744073709551616):
    Calls Tryz.prog 85 #[.int .i8 7,.int .i8 64,.int .u64 a,.int .u64 b] W fun e w'=>e=.returned (.int .u64 (opI 7 64 a b)) ∧ Below W.heap.size W w':=by
  have hmf:∀ (fn:Fn) (first cap:Array Value) (w:World),(Instr.makeFunc fn first cap).run Tryz.prog w=.ok (.func fn first cap) w:=fun _ _ _ _=>rfl
  have e1:=and_63 b hb0 hb1
  have e2:0 ≤ b % 64:=by omega
  have e3:min (b % 64).toNat 64=(b % 64).toNat:=by omega
  have e4:cntI 64 b=(b % 64).toNat:=rfl
  go_enter Tryz.func85,Tryz.ntmps85
  go_wp2
  go_ret
  refine ⟨retI ?_,((((Below.refl _ _).alloc (Nat.le_refl _) _).alloc (by simp) _).alloc (by simp;omega) _)⟩
  rw [opI_7,e4]
set_option maxHeartbeats 400000 in
theorem count_64 (b:Int) (p:Addr) (W:World) (h0:0 ≤ b) (h1:b < 18446744073709551616) (hp:W.cell? p=some (.int .i8 64)):
    Calls Tryz.prog 98 #[.int .u64 b,.pointer (some p)] W fun e w'=>e=.returned (.int .u64 (b % 64)) ∧ W=w':=by
  go_enter Tryz.func98,Tryz.ntmps98
  go_wp2
  go_ret
  exact ⟨retI (by rw [and_63 b h0 h1]),rfl⟩
set_option maxHeartbeats 1000000 in
theorem arsh_64 (a b:Int) (p q:Addr) (W:World) (h0:0 ≤ b) (h1:b < 18446744073709551616) (hq:W.cell? q=some (.int .i8 64))
    (hp:W.cell? p=some (.func (.func 98) #[] #[.pointer (some q)])):
    Calls Tryz.prog 111 #[.int .u64 a,.int .u64 b,.pointer (some q),.pointer (some p)] W fun e w'=>e=.returned (.int .u64 (opI 12 64 a b)) ∧ ∃ n,W.drewN n=w':=by
  have e2:0 ≤ b % 64:=by omega
  have e3:min (b % 64).toNat 64=(b % 64).toNat:=by omega
  go_enter Tryz.func111,Tryz.ntmps111
  go_wp2
  go_quiet ((first | (go_at_call 112;exact quiet_left (sign_any _ _ _)) | (go_at_call 98;exact quiet_left (count_64 _ _ _ h0 h1 hq))))
  go_wp2
  go_ret
  refine ⟨retI ?_,_,rfl⟩
  rw [opI_12,IntKind.wrap_u64,show wrap64 (signI a 64)=sgnI a 64 from (IntWalk.i64_left _).symm.trans (wrap64_sign64 a)];rfl
set_option maxHeartbeats 1000000 in
theorem compute_12_64 (a b:Int) (W:World) (hb0:0 ≤ b) (hb1:b < 18446744073709551616):
    Calls Tryz.prog 85 #[.int .i8 12,.int .i8 64,.int .u64 a,.int .u64 b] W fun e w'=>e=.returned (.int .u64 (opI 12 64 a b)) ∧ Below W.heap.size W w':=by
  have hmf:∀ (fn:Fn) (first cap:Array Value) (w:World),(Instr.makeFunc fn first cap).run Tryz.prog w=.ok (.func fn first cap) w:=fun _ _ _ _=>rfl
  go_enter Tryz.func85,Tryz.ntmps85
  go_wp2_with (go_at_call 111;refine (arsh_64 a b ⟨W.heap.size + 1,0,none⟩ ⟨W.heap.size,0,none⟩ _ hb0 hb1 (by go_simp) (by go_simp)).mono ?_;rintro e w' ⟨rfl,n,rfl⟩)
  go_ret
  refine ⟨rfl,below_drewN ((((Below.refl _ _).alloc (Nat.le_refl _) _).alloc (by simp) _).alloc (by simp;omega) _) _⟩
end Go.Proofs.YtigliofiojkhcaaGreat
namespace Go.Proofs.YtigliofiojkhcaaGreat
open Go.RowKit
set_option maxHeartbeats 1000000 in
theorem compute_3 (w a b:Int) (W:World) (ha0:0 ≤ a) (ha1:a < 18446744073709551616) (hb0:0 ≤ b) (hb1:b < 18446744073709551616):
    Calls Tryz.prog 85 #[.int .i8 3,.int .i8 w,.int .u64 a,.int .u64 b] W fun e w'=>e=.returned (.int .u64 (opI 3 w a b)) ∧ Below W.heap.size W w':=by
  have hmf:∀ (fn:Fn) (first cap:Array Value) (w:World),(Instr.makeFunc fn first cap).run Tryz.prog w=.ok (.func fn first cap) w:=fun _ _ _ _=>rfl
  by_cases hz:b=0
  · subst hz
    clear hb0 hb1
    go_enter Tryz.func85,Tryz.ntmps85
    go_wp2
    go_ret
    refine ⟨retI ?_,((((Below.refl _ _).alloc (Nat.le_refl _) _).alloc (by simp) _).alloc (by simp;omega) _)⟩
    rw [opI_3,if_pos rfl]
  · have hz':=neq_of hz
    go_enter Tryz.func85,Tryz.ntmps85
    go_wp2
    go_ret
    refine ⟨retI ?_,((((Below.refl _ _).alloc (Nat.le_refl _) _).alloc (by simp) _).alloc (by simp;omega) _)⟩
    rw [opI_3,if_neg hz]
set_option maxHeartbeats 1000000 in
theorem compute_9 (w a b:Int) (W:World) (ha0:0 ≤ a) (ha1:a < 18446744073709551616) (hb0:0 ≤ b) (hb1:b < 18446744073709551616):
    Calls Tryz.prog 85 #[.int .i8 9,.int .i8 w,.int .u64 a,.int .u64 b] W fun e w'=>e=.returned (.int .u64 (opI 9 w a b)) ∧ Below W.heap.size W w':=by
  have hmf:∀ (fn:Fn) (first cap:Array Value) (w:World),(Instr.makeFunc fn first cap).run Tryz.prog w=.ok (.func fn first cap) w:=fun _ _ _ _=>rfl
  by_cases hz:b=0
  · subst hz
    clear hb0 hb1
    go_enter Tryz.func85,Tryz.ntmps85
    go_wp2
    go_ret
    refine ⟨retI ?_,((((Below.refl _ _).alloc (Nat.le_refl _) _).alloc (by simp) _).alloc (by simp;omega) _)⟩
    rw [opI_9,if_pos rfl]
  · have hz':=neq_of hz
    go_enter Tryz.func85,Tryz.ntmps85
    go_wp2
    go_ret
    refine ⟨retI ?_,((((Below.refl _ _).alloc (Nat.le_refl _) _).alloc (by simp) _).alloc (by simp;omega) _)⟩
    rw [opI_9,if_neg hz]
end Go.Proofs.YtigliofiojkhcaaGreat
namespace Go.Proofs.YtigliofiojkhcaaGreat
open Go.RowKit
def widthB (w:Int):Bool:=w == 8 || w == 16 || w == 32 || w == 64
theorem compute_any (op w a b:Int) (W:World) (h0:0 ≤ op) (h12:op ≤ 12) (hl:longB w=true) (ha0:0 ≤ a) (ha1:a < 18446744073709551616) (hb0:0 ≤ b) (hb1:b < 18446744073709551616):
    Calls Tryz.prog 85 #[.int .i8 op,.int .i8 w,.int .u64 a,.int .u64 b] W fun e w'=>e=.returned (.int .u64 (opI op w a b)) ∧ Below W.heap.size W w':=by
  have hc:op=0 ∨ op=1 ∨ op=2 ∨ op=3 ∨ op=4 ∨ op=5 ∨ op=6 ∨ op=7 ∨ op=8 ∨ op=9 ∨ op=10 ∨ op=11 ∨ op=12:=by omega
  rcases hc with rfl | rfl | rfl | rfl | rfl | rfl | rfl | rfl | rfl | rfl | rfl | rfl | rfl
  · exact compute_0 w a b W
  · exact compute_1 w a b W
  · exact compute_2 w a b W
  · exact compute_3 w a b W ha0 ha1 hb0 hb1
  · exact compute_4 w a b W ha0 ha1 hb0 hb1
  · exact compute_5 w a b W ha0 ha1 hb0 hb1
  · rcases longB_cases hl with rfl | rfl
    · exact compute_6_32 a b W hb0 hb1
    · exact compute_6_64 a b W hb0 hb1
  · rcases longB_cases hl with rfl | rfl
    · exact compute_7_32 a b W hb0 hb1
    · exact compute_7_64 a b W hb0 hb1
  · exact compute_8 w a b W
  · exact compute_9 w a b W ha0 ha1 hb0 hb1
  · exact compute_10 w a b W ha0 ha1 hb0 hb1
  · exact compute_11 w a b W
  · rcases longB_cases hl with rfl | rfl
    · exact compute_12_32 a b W hb0 hb1
    · exact compute_12_64 a b W hb0 hb1
theorem computes_t (w:Int) (W:World) (h:longB w=true):Calls Tryz.prog 83 #[.int .i8 w] W fun e w'=>e=.returned (.bool true) ∧ W=w':=by
  have:=computes_any w W;rw [h] at this;exact this
theorem computes_f (w:Int) (W:World) (h:longB w=false):Calls Tryz.prog 83 #[.int .i8 w] W fun e w'=>e=.returned (.bool false) ∧ W=w':=by
  have:=computes_any w W;rw [h] at this;exact this
set_option maxHeartbeats 1000000 in
theorem do_any (op w a b:Int) (W:World) (ha0:0 ≤ a) (ha1:a < 18446744073709551616) (hb0:0 ≤ b) (hb1:b < 18446744073709551616):
    Calls Tryz.prog 63 #[.int .i8 op,.int .i8 w,.int .u64 a,.int .u64 b] W fun e w'=>e=.returned (.tuple #[.int .u64 (doI op w a b),.int .i64 (doE op w)]) ∧ Below W.heap.size W w':=by
  by_cases h1:op < 0
  · have e1:doI op w a b=0:=if_neg (by omega)
    have e2:doE op w=2:=if_neg (by omega)
    rw [e1,e2];clear e1 e2
    go_enter Tryz.func63,Tryz.ntmps63
    go_wp2
    go_ret2
    exact ⟨rfl,Below.refl _ _⟩
  by_cases h2:12 < op
  · have e1:doI op w a b=0:=if_neg (by omega)
    have e2:doE op w=2:=if_neg (by omega)
    rw [e1,e2];clear e1 e2
    go_enter Tryz.func63,Tryz.ntmps63
    go_wp2
    go_ret2
    exact ⟨rfl,Below.refl _ _⟩
  cases hl:longB w
  · have e1:doI op w a b=0:=if_neg (by simp [hl])
    have e2:doE op w=2:=if_neg (by simp [hl])
    rw [e1,e2];clear e1 e2
    have HL:=Lib.hid hl;clear hl
    go_enter Tryz.func63,Tryz.ntmps63
    go_wp2_with (go_at_call 83;refine (computes_f _ _ HL.out).mono ?_;rintro e w' ⟨rfl,rfl⟩)
    go_ret2
    exact ⟨rfl,Below.refl _ _⟩
  · have e1:doI op w a b=cutI (opI op w (cutI a w) (cutI b w)) w:=if_pos ⟨by omega,by omega,hl⟩
    have e2:doE op w=0:=if_pos ⟨by omega,by omega,hl⟩
    rw [e1,e2];clear e1 e2
    have HL:=Lib.hid hl;clear hl
    obtain ⟨c0,c1⟩:=cutI_bd a w ha0 ha1
    obtain ⟨d0,d1⟩:=cutI_bd b w hb0 hb1
    go_enter Tryz.func63,Tryz.ntmps63
    go_wp2_with (first | (go_at_call 83;refine (computes_t _ _ HL.out).mono ?_;rintro e w' ⟨rfl,rfl⟩) | (go_at_call 84;refine (cut_any _ _ _).mono ?_;rintro e w' ⟨rfl,rfl⟩) | (go_at_call 85;refine (compute_any op w (cutI a w) (cutI b w) _ (by omega) (by omega) HL.out c0 c1 d0 d1).mono ?_;rintro e w' ⟨rfl,hb⟩))
    go_ret2
    exact ⟨rfl,by assumption⟩
set_option maxHeartbeats 2000000 in
theorem holds_in (cc w a b:Int) (W:World) (h0:0 ≤ cc) (h10:cc ≤ 10) (hl:longB w=true) (ha0:0 ≤ a) (ha1:a < 18446744073709551616) (hb0:0 ≤ b) (hb1:b < 18446744073709551616):
    Calls Tryz.prog 91 #[.int .i8 cc,.int .i8 w,.int .u64 a,.int .u64 b] W fun e w'=>e=.returned (.bool (ccB cc w a b)) ∧ W=w':=by
  have sa:wrap64 (signI a w)=sgnI a w:=by
    rcases longB_cases hl with rfl | rfl
    · exact (IntWalk.i64_left _).symm.trans (wrap64_sign32 a)
    · exact (IntWalk.i64_left _).symm.trans (wrap64_sign64 a)
  have sb:wrap64 (signI b w)=sgnI b w:=by
    rcases longB_cases hl with rfl | rfl
    · exact (IntWalk.i64_left _).symm.trans (wrap64_sign32 b)
    · exact (IntWalk.i64_left _).symm.trans (wrap64_sign64 b)
  have hc:cc=0 ∨ cc=1 ∨ cc=2 ∨ cc=3 ∨ cc=4 ∨ cc=5 ∨ cc=6 ∨ cc=7 ∨ cc=8 ∨ cc=9 ∨ cc=10:=by omega
  clear h0 h10
  rcases hc with rfl | rfl | rfl | rfl | rfl | rfl | rfl | rfl | rfl | rfl | rfl
  all_goals
    go_enter Tryz.func91,Tryz.ntmps91
    go_wp2_with (go_at_call 112;refine (sign_any _ _ _).mono ?_;rintro e w' ⟨rfl,rfl⟩)
    go_ret
    refine ⟨retB ?_,rfl⟩
    first | rfl | (rw [u64_and a b ha0 ha1 hb0 hb1];rfl)
set_option maxHeartbeats 1000000 in
theorem holds_any (cc w a b:Int) (W:World) (ha0:0 ≤ a) (ha1:a < 18446744073709551616) (hb0:0 ≤ b) (hb1:b < 18446744073709551616):
    Calls Tryz.prog 68 #[.int .i8 cc,.int .i8 w,.int .u64 a,.int .u64 b] W fun e w'=>e=.returned (.tuple #[.bool (holdsB cc w a b),.int .i64 (holdsE cc w)]) ∧ W=w':=by
  by_cases h1:cc < 0
  · have e1:holdsB cc w a b=false:=if_neg (by omega)
    have e2:holdsE cc w=2:=if_neg (by omega)
    rw [e1,e2];clear e1 e2
    go_enter Tryz.func68,Tryz.ntmps68
    go_wp2
    go_ret2
    exact ⟨rfl,rfl⟩
  by_cases h2:10 < cc
  · have e1:holdsB cc w a b=false:=if_neg (by omega)
    have e2:holdsE cc w=2:=if_neg (by omega)
    rw [e1,e2];clear e1 e2
    go_enter Tryz.func68,Tryz.ntmps68
    go_wp2
    go_ret2
    exact ⟨rfl,rfl⟩
  cases hl:longB w
  · have e1:holdsB cc w a b=false:=if_neg (by simp [hl])
    have e2:holdsE cc w=2:=if_neg (by simp [hl])
    rw [e1,e2];clear e1 e2
    have HL:=Lib.hid hl;clear hl
    go_enter Tryz.func68,Tryz.ntmps68
    go_wp2_with (go_at_call 83;refine (computes_f _ _ HL.out).mono ?_;rintro e w' ⟨rfl,rfl⟩)
    go_ret2
    exact ⟨rfl,rfl⟩
  · have e1:holdsB cc w a b=ccB cc w (cutI a w) (cutI b w):=if_pos ⟨by omega,by omega,hl⟩
    have e2:holdsE cc w=0:=if_pos ⟨by omega,by omega,hl⟩
    rw [e1,e2];clear e1 e2
    have HL:=Lib.hid hl;clear hl
    obtain ⟨c0,c1⟩:=cutI_bd a w ha0 ha1
    obtain ⟨d0,d1⟩:=cutI_bd b w hb0 hb1
    go_enter Tryz.func68,Tryz.ntmps68
    go_wp2_with (first | (go_at_call 83;refine (computes_t _ _ HL.out).mono ?_;rintro e w' ⟨rfl,rfl⟩) | (go_at_call 84;refine (cut_any _ _ _).mono ?_;rintro e w' ⟨rfl,rfl⟩) | (go_at_call 91;refine (holds_in cc w (cutI a w) (cutI b w) _ (by omega) (by omega) HL.out c0 c1 d0 d1).mono ?_;rintro e w' ⟨rfl,rfl⟩))
    go_ret2
    exact ⟨rfl,rfl⟩
end Go.Proofs.YtigliofiojkhcaaGreat
namespace Go.Proofs.YtigliofiojkhcaaGreat
open Go.RowKit
set_option linter.unusedVariables false
set_option maxRecDepth 100000
def offI (a s:Int):Int:=(a - s) % 18446744073709551616
theorem ret_int {k:IntKind} {a b:Int} (h:a=b):Ending.returned (.int k a)=.returned (.int k b):=by rw [h]
theorem bcell {W w1:World} (hb:Below W.heap.size W w1):(∀ b o,b < W.heap.size → w1.cell? ⟨b,o,none⟩=W.cell? ⟨b,o,none⟩) ∧ (∀ b o,b < W.heap.size → w1.frozen? ⟨b,o,none⟩=W.frozen? ⟨b,o,none⟩):=
  ⟨fun b o h=>hb.cell (p:=⟨b,o,none⟩) h,fun b o h=>hb.frozen (p:=⟨b,o,none⟩) h⟩
set_option maxHeartbeats 400000 in
theorem offset_any (at_ n st sz:Int) (fx:Bool) (p:Option Addr) (ln cp:Nat) (W:World):
    Calls Tryz.prog 116 #[.agg #[.int .u64 at_,.int .u64 n],.agg #[.int .u64 st,.int .u64 sz,.bool fx,.slice p ln cp]] W fun e w'=>e=.returned (.int .u64 (offI at_ st)) ∧ Below W.heap.size W w':=by
  go_enter Tryz.func116,Tryz.ntmps116
  go_wp2
  go_ret
  exact ⟨rfl,((Below.refl _ _).alloc (Nat.le_refl _) _).alloc (by simp) _⟩
def rdB (a n st sz:Int):Bool:=decide (offI a st < sz) && decide (n ≤ sz - offI a st)
theorem offI_bd (a s:Int):0 ≤ offI a s ∧ offI a s < 18446744073709551616:=by unfold offI;omega
set_option maxHeartbeats 400000 in
theorem readable_any (at_ n st sz:Int) (fx:Bool) (p:Option Addr) (ln cp:Nat) (W:World) (hz0:0 ≤ sz) (hz1:sz < 18446744073709551616):
    Calls Tryz.prog 87 #[.agg #[.int .u64 at_,.int .u64 n],.agg #[.int .u64 st,.int .u64 sz,.bool fx,.slice p ln cp]] W fun e w'=>e=.returned (.bool (rdB at_ n st sz)) ∧ Below W.heap.size W w':=by
  obtain ⟨o0,o1⟩:=offI_bd at_ st
  by_cases h:offI at_ st < sz
  · have e:rdB at_ n st sz=decide (n ≤ sz - offI at_ st):=by unfold rdB;rw [decide_eq_true h];rfl
    rw [e]
    go_enter Tryz.func87,Tryz.ntmps87
    go_wp2_with fail
    refine (offset_any _ _ _ _ _ _ _ _ _).mono ?_
    rintro e w1 ⟨rfl,b1⟩
    obtain ⟨hc,hf⟩:=bcell b1
    go_wp2
    go_ret
    exact ⟨rfl,(((Below.refl _ _).alloc (Nat.le_refl _) _).alloc (by simp) _).trans (b1.mono (by simp;omega))⟩
  · have e:rdB at_ n st sz=false:=by unfold rdB;rw [decide_eq_false h];rfl
    rw [e]
    go_enter Tryz.func87,Tryz.ntmps87
    go_wp2_with fail
    refine (offset_any _ _ _ _ _ _ _ _ _).mono ?_
    rintro e w1 ⟨rfl,b1⟩
    obtain ⟨hc,hf⟩:=bcell b1
    go_wp2
    go_ret
    exact ⟨rfl,(((Below.refl _ _).alloc (Nat.le_refl _) _).alloc (by simp) _).trans (b1.mono (by simp;omega))⟩
def wrB (a n st sz:Int) (fx:Bool):Bool:=!fx && rdB a n st sz
set_option maxHeartbeats 400000 in
theorem writable_any (at_ n st sz:Int) (fx:Bool) (p:Option Addr) (ln cp:Nat) (W:World) (hz0:0 ≤ sz) (hz1:sz < 18446744073709551616):
    Calls Tryz.prog 89 #[.agg #[.int .u64 at_,.int .u64 n],.agg #[.int .u64 st,.int .u64 sz,.bool fx,.slice p ln cp]] W fun e w'=>e=.returned (.bool (wrB at_ n st sz fx)) ∧ Below W.heap.size W w':=by
  cases fx
  · go_enter Tryz.func89,Tryz.ntmps89
    go_wp2_with fail
    refine (readable_any _ _ _ _ _ _ _ _ _ hz0 hz1).mono ?_
    rintro e w1 ⟨rfl,b1⟩
    go_wp2
    go_ret
    exact ⟨rfl,(((Below.refl _ _).alloc (Nat.le_refl _) _).alloc (by simp) _).trans (b1.mono (by simp;omega))⟩
  · go_enter Tryz.func89,Tryz.ntmps89
    go_wp2
    go_ret
    exact ⟨rfl,((Below.refl _ _).alloc (Nat.le_refl _) _).alloc (by simp) _⟩
def szB (n:Int):Bool:=n == 1 || n == 2 || n == 4 || n == 8
set_option maxHeartbeats 400000 in
theorem sized_any (at_ n:Int) (W:World):
    Calls Tryz.prog 113 #[.agg #[.int .u64 at_,.int .u64 n]] W fun e w'=>e=.returned (.bool (szB n)) ∧ Below W.heap.size W w':=by
  go_enter Tryz.func113,Tryz.ntmps113
  go_wp2
  all_goals
    go_ret
    exact ⟨by simp_all [szB],(Below.refl _ _).alloc (Nat.le_refl _) _⟩
def limI (a m:Int):Int:=min (max a 0) m
set_option maxHeartbeats 400000 in
theorem limited_any (a m:Int) (h0:0 ≤ m) (h1:m ≤ 9223372036854775807) (W:World):
    Calls Tryz.prog 121 #[.int .i64 a,.int .i64 m] W fun e w'=>e=.returned (.int .u64 (limI a m)) ∧ W=w':=by
  go_enter Tryz.func121,Tryz.ntmps121
  go_wp2
  all_goals
    go_ret
    exact ⟨ret_int (by unfold limI;omega),rfl⟩
end Go.Proofs.YtigliofiojkhcaaGreat
