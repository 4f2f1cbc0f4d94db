import Derived.Test.YtbpehbeakhocnaaGreatDoorIRm02
import Derived.WalkKit
import Derived.WalkSpells
import Derived.WalkLawsBesides
import Derived.Laws.EntriesVeiled
import Derived.Lib.Hide
import Derived.Deep.QuietTactic
import Derived.BigQuiet
import Derived.Test.YtbpehbeakhocnaaGreatDoorIRm01
set_option maxHeartbeats 2000000
set_option linter.unusedVariables false
set_option linter.unusedSimpArgs false
set_option linter.unnecessarySimpa false
namespace Go.Proofs.YtbpehbeakhocnaaGreatDoor
open Go.RowKit
theorem compute_6_32 (a b:Int) (W:World) (hb0:0 ≤ b) (hb1:b < 18446744073709551616):
    Calls Tryz.prog 147 #[.int .i8 6,.int .i8 32,.int .u64 a,.int .u64 b] W fun e w'=>e=.returned (.int .u64 (opI 6 32 a b)) ∧ Below W.heap.size W w':=by
  have hmf:∀ (fn:Fn) (first cap:Array Value) (w:World),(Instr.makeFunc fn first cap).run Tryz.prog w=.ok (.func fn first cap) w:=fun _ _ _ _=>rfl
  have e1:=and_31 b hb0 hb1
  have e2:0 ≤ b % 32:=by omega
  have e3:min (b % 32).toNat 64=(b % 32).toNat:=by omega
  have e4:cntI 32 b=(b % 32).toNat:=rfl
  go_enter Tryz.func147,Tryz.ntmps147
  go_wp2
  go_ret
  refine ⟨retI ?_,((((Below.refl _ _).alloc (Nat.le_refl _) _).alloc (by simp) _).alloc (by simp;omega) _)⟩
  rw [opI_6,IntKind.wrap_u64,e4]
theorem compute_7_32 (a b:Int) (W:World) (hb0:0 ≤ b) (hb1:b < 18446744073709551616):
    Calls Tryz.prog 147 #[.int .i8 7,.int .i8 32,.int .u64 a,.int .u64 b] W fun e w'=>e=.returned (.int .u64 (opI 7 32 a b)) ∧ Below W.heap.size W w':=by
  have hmf:∀ (fn:Fn) (first cap:Array Value) (w:World),(Instr.makeFunc fn first cap).run Tryz.prog w=.ok (.func fn first cap) w:=fun _ _ _ _=>rfl
  have e1:=and_31 b hb0 hb1
  have e2:0 ≤ b % 32:=by omega
  have e3:min (b % 32).toNat 64=(b % 32).toNat:=by omega
  have e4:cntI 32 b=(b % 32).toNat:=rfl
  go_enter Tryz.func147,Tryz.ntmps147
  go_wp2
  go_ret
  refine ⟨retI ?_,((((Below.refl _ _).alloc (Nat.le_refl _) _).alloc (by simp) _).alloc (by simp;omega) _)⟩
  rw [opI_7,e4]
theorem count_32 (b:Int) (p:Addr) (W:World) (h0:0 ≤ b) (h1:b < 18446744073709551616) (hp:W.cell? p=some (.int .i8 32)):
    Calls Tryz.prog 158 #[.int .u64 b,.pointer (some p)] W fun e w'=>e=.returned (.int .u64 (b % 32)) ∧ W=w':=by
  go_enter Tryz.func158,Tryz.ntmps158
  go_wp2
  go_ret
  exact ⟨retI (by rw [and_31 b h0 h1]),rfl⟩
theorem arsh_32 (a b:Int) (p q:Addr) (W:World) (h0:0 ≤ b) (h1:b < 18446744073709551616) (hq:W.cell? q=some (.int .i8 32))
    (hp:W.cell? p=some (.func (.func 158) #[] #[.pointer (some q)])):
    Calls Tryz.prog 171 #[.int .u64 a,.int .u64 b,.pointer (some q),.pointer (some p)] W fun e w'=>e=.returned (.int .u64 (opI 12 32 a b)) ∧ ∃ n,W.drewN n=w':=by
  have e2:0 ≤ b % 32:=by omega
  have e3:min (b % 32).toNat 64=(b % 32).toNat:=by omega
  go_enter Tryz.func171,Tryz.ntmps171
  go_wp2
  go_quiet ((first | (go_at_call 172;exact quiet_left (sign_any _ _ _)) | (go_at_call 158;exact quiet_left (count_32 _ _ _ h0 h1 hq))))
  go_wp2
  go_ret
  refine ⟨retI ?_,_,rfl⟩
  rw [opI_12,IntKind.wrap_u64,show wrap64 (signI a 32)=sgnI a 32 from (IntWalk.i64_left _).symm.trans (wrap64_sign32 a)];rfl
theorem compute_12_32 (a b:Int) (W:World) (hb0:0 ≤ b) (hb1:b < 18446744073709551616):
    Calls Tryz.prog 147 #[.int .i8 12,.int .i8 32,.int .u64 a,.int .u64 b] W fun e w'=>e=.returned (.int .u64 (opI 12 32 a b)) ∧ Below W.heap.size W w':=by
  have hmf:∀ (fn:Fn) (first cap:Array Value) (w:World),(Instr.makeFunc fn first cap).run Tryz.prog w=.ok (.func fn first cap) w:=fun _ _ _ _=>rfl
  go_enter Tryz.func147,Tryz.ntmps147
  go_wp2_with (go_at_call 171;refine (arsh_32 a b ⟨W.heap.size + 1,0,none⟩ ⟨W.heap.size,0,none⟩ _ hb0 hb1 (by go_simp) (by go_simp)).mono ?_;rintro e w' ⟨rfl,n,rfl⟩)
  go_ret
  refine ⟨rfl,below_drewN ((((Below.refl _ _).alloc (Nat.le_refl _) _).alloc (by simp) _).alloc (by simp;omega) _) _⟩
theorem compute_6_64 (a b:Int) (W:World) (hb0:0 ≤ b) (hb1:b < 18446744073709551616):
    Calls Tryz.prog 147 #[.int .i8 6,.int .i8 64,.int .u64 a,.int .u64 b] W fun e w'=>e=.returned (.int .u64 (opI 6 64 a b)) ∧ Below W.heap.size W w':=by
  have hmf:∀ (fn:Fn) (first cap:Array Value) (w:World),(Instr.makeFunc fn first cap).run Tryz.prog w=.ok (.func fn first cap) w:=fun _ _ _ _=>rfl
  have e1:=and_63 b hb0 hb1
  have e2:0 ≤ b % 64:=by omega
  have e3:min (b % 64).toNat 64=(b % 64).toNat:=by omega
  have e4:cntI 64 b=(b % 64).toNat:=rfl
  go_enter Tryz.func147,Tryz.ntmps147
  go_wp2
  go_ret
  refine ⟨retI ?_,((((Below.refl _ _).alloc (Nat.le_refl _) _).alloc (by simp) _).alloc (by simp;omega) _)⟩
  rw [opI_6,IntKind.wrap_u64,e4]
theorem compute_7_64 (a b:Int) (W:World) (hb0:0 ≤ b) (hb1:b < 18446744073709551616):
    Calls Tryz.prog 147 #[.int .i8 7,.int .i8 64,.int .u64 a,.int .u64 b] W fun e w'=>e=.returned (.int .u64 (opI 7 64 a b)) ∧ Below W.heap.size W w':=by
  have hmf:∀ (fn:Fn) (first cap:Array Value) (w:World),(Instr.makeFunc fn first cap).run Tryz.prog w=.ok (.func fn first cap) w:=fun _ _ _ _=>rfl
  have e1:=and_63 b hb0 hb1
  have e2:0 ≤ b % 64:=by omega
  have e3:min (b % 64).toNat 64=(b % 64).toNat:=by omega
  have e4:cntI 64 b=(b % 64).toNat:=rfl
  go_enter Tryz.func147,Tryz.ntmps147
  go_wp2
  go_ret
  refine ⟨retI ?_,((((Below.refl _ _).alloc (Nat.le_refl _) _).alloc (by simp) _).alloc (by simp;omega) _)⟩
  rw [opI_7,e4]
theorem count_64 (b:Int) (p:Addr) (W:World) (h0:0 ≤ b) (h1:b < 18446744073709551616) (hp:W.cell? p=some (.int .i8 64)):
    Calls Tryz.prog 158 #[.int .u64 b,.pointer (some p)] W fun e w'=>e=.returned (.int .u64 (b % 64)) ∧ W=w':=by
  go_enter Tryz.func158,Tryz.ntmps158
  go_wp2
  go_ret
  exact ⟨retI (by rw [and_63 b h0 h1]),rfl⟩
theorem arsh_64 (a b:Int) (p q:Addr) (W:World) (h0:0 ≤ b) (h1:b < 18446744073709551616) (hq:W.cell? q=some (.int .i8 64))
    (hp:W.cell? p=some (.func (.func 158) #[] #[.pointer (some q)])):
    Calls Tryz.prog 171 #[.int .u64 a,.int .u64 b,.pointer (some q),.pointer (some p)] W fun e w'=>e=.returned (.int .u64 (opI 12 64 a b)) ∧ ∃ n,W.drewN n=w':=by
  have e2:0 ≤ b % 64:=by omega
  have e3:min (b % 64).toNat 64=(b % 64).toNat:=by omega
  go_enter Tryz.func171,Tryz.ntmps171
  go_wp2
  go_quiet ((first | (go_at_call 172;exact quiet_left (sign_any _ _ _)) | (go_at_call 158;exact quiet_left (count_64 _ _ _ h0 h1 hq))))
  go_wp2
  go_ret
  refine ⟨retI ?_,_,rfl⟩
  rw [opI_12,IntKind.wrap_u64,show wrap64 (signI a 64)=sgnI a 64 from (IntWalk.i64_left _).symm.trans (wrap64_sign64 a)];rfl
theorem compute_12_64 (a b:Int) (W:World) (hb0:0 ≤ b) (hb1:b < 18446744073709551616):
    Calls Tryz.prog 147 #[.int .i8 12,.int .i8 64,.int .u64 a,.int .u64 b] W fun e w'=>e=.returned (.int .u64 (opI 12 64 a b)) ∧ Below W.heap.size W w':=by
  have hmf:∀ (fn:Fn) (first cap:Array Value) (w:World),(Instr.makeFunc fn first cap).run Tryz.prog w=.ok (.func fn first cap) w:=fun _ _ _ _=>rfl
  go_enter Tryz.func147,Tryz.ntmps147
  go_wp2_with (go_at_call 171;refine (arsh_64 a b ⟨W.heap.size + 1,0,none⟩ ⟨W.heap.size,0,none⟩ _ hb0 hb1 (by go_simp) (by go_simp)).mono ?_;rintro e w' ⟨rfl,n,rfl⟩)
  go_ret
  refine ⟨rfl,below_drewN ((((Below.refl _ _).alloc (Nat.le_refl _) _).alloc (by simp) _).alloc (by simp;omega) _) _⟩
theorem compute_3 (w a b:Int) (W:World) (ha0:0 ≤ a) (ha1:a < 18446744073709551616) (hb0:0 ≤ b) (hb1:b < 18446744073709551616):
    Calls Tryz.prog 147 #[.int .i8 3,.int .i8 w,.int .u64 a,.int .u64 b] W fun e w'=>e=.returned (.int .u64 (opI 3 w a b)) ∧ Below W.heap.size W w':=by
  have hmf:∀ (fn:Fn) (first cap:Array Value) (w:World),(Instr.makeFunc fn first cap).run Tryz.prog w=.ok (.func fn first cap) w:=fun _ _ _ _=>rfl
  by_cases hz:b=0
  · subst hz
    clear hb0 hb1
    go_enter Tryz.func147,Tryz.ntmps147
    go_wp2
    go_ret
    refine ⟨retI ?_,((((Below.refl _ _).alloc (Nat.le_refl _) _).alloc (by simp) _).alloc (by simp;omega) _)⟩
    rw [opI_3,if_pos rfl]
  · have hz':=neq_of hz
    go_enter Tryz.func147,Tryz.ntmps147
    go_wp2
    go_ret
    refine ⟨retI ?_,((((Below.refl _ _).alloc (Nat.le_refl _) _).alloc (by simp) _).alloc (by simp;omega) _)⟩
    rw [opI_3,if_neg hz]
theorem compute_9 (w a b:Int) (W:World) (ha0:0 ≤ a) (ha1:a < 18446744073709551616) (hb0:0 ≤ b) (hb1:b < 18446744073709551616):
    Calls Tryz.prog 147 #[.int .i8 9,.int .i8 w,.int .u64 a,.int .u64 b] W fun e w'=>e=.returned (.int .u64 (opI 9 w a b)) ∧ Below W.heap.size W w':=by
  have hmf:∀ (fn:Fn) (first cap:Array Value) (w:World),(Instr.makeFunc fn first cap).run Tryz.prog w=.ok (.func fn first cap) w:=fun _ _ _ _=>rfl
  by_cases hz:b=0
  · subst hz
    clear hb0 hb1
    go_enter Tryz.func147,Tryz.ntmps147
    go_wp2
    go_ret
    refine ⟨retI ?_,((((Below.refl _ _).alloc (Nat.le_refl _) _).alloc (by simp) _).alloc (by simp;omega) _)⟩
    rw [opI_9,if_pos rfl]
  · have hz':=neq_of hz
    go_enter Tryz.func147,Tryz.ntmps147
    go_wp2
    go_ret
    refine ⟨retI ?_,((((Below.refl _ _).alloc (Nat.le_refl _) _).alloc (by simp) _).alloc (by simp;omega) _)⟩
    rw [opI_9,if_neg hz]
def widthB (w:Int):Bool:=w == 8 || w == 16 || w == 32 || w == 64
theorem compute_any (op w a b:Int) (W:World) (h0:0 ≤ op) (h12:op ≤ 12) (hl:longB w=true) (ha0:0 ≤ a) (ha1:a < 18446744073709551616) (hb0:0 ≤ b) (hb1:b < 18446744073709551616):
    Calls Tryz.prog 147 #[.int .i8 op,.int .i8 w,.int .u64 a,.int .u64 b] W fun e w'=>e=.returned (.int .u64 (opI op w a b)) ∧ Below W.heap.size W w':=by
  have hc:op=0 ∨ op=1 ∨ op=2 ∨ op=3 ∨ op=4 ∨ op=5 ∨ op=6 ∨ op=7 ∨ op=8 ∨ op=9 ∨ op=10 ∨ op=11 ∨ op=12:=by omega
  rcases hc with rfl | rfl | rfl | rfl | rfl | rfl | rfl | rfl | rfl | rfl | rfl | rfl | rfl
  · exact compute_0 w a b W
  · exact compute_1 w a b W
  · exact compute_2 w a b W
  · exact compute_3 w a b W ha0 ha1 hb0 hb1
  · exact compute_4 w a b W ha0 ha1 hb0 hb1
  · exact compute_5 w a b W ha0 ha1 hb0 hb1
  · rcases longB_cases hl with rfl | rfl
    · exact compute_6_32 a b W hb0 hb1
    · exact compute_6_64 a b W hb0 hb1
  · rcases longB_cases hl with rfl | rfl
    · exact compute_7_32 a b W hb0 hb1
    · exact compute_7_64 a b W hb0 hb1
  · exact compute_8 w a b W
  · exact compute_9 w a b W ha0 ha1 hb0 hb1
  · exact compute_10 w a b W ha0 ha1 hb0 hb1
  · exact compute_11 w a b W
  · rcases longB_cases hl with rfl | rfl
    · exact compute_12_32 a b W hb0 hb1
    · exact compute_12_64 a b W hb0 hb1
theorem computes_t (w:Int) (W:World) (h:longB w=true):Calls Tryz.prog 146 #[.int .i8 w] W fun e w'=>e=.returned (.bool true) ∧ W=w':=by
  have:=computes_any w W;rw [h] at this;exact this
theorem computes_f (w:Int) (W:World) (h:longB w=false):Calls Tryz.prog 146 #[.int .i8 w] W fun e w'=>e=.returned (.bool false) ∧ W=w':=by
  have:=computes_any w W;rw [h] at this;exact this
theorem do_any (op w a b:Int) (W:World) (ha0:0 ≤ a) (ha1:a < 18446744073709551616) (hb0:0 ≤ b) (hb1:b < 18446744073709551616):
    Calls Tryz.prog 113 #[.int .i8 op,.int .i8 w,.int .u64 a,.int .u64 b] W fun e w'=>e=.returned (.tuple #[.int .u64 (doI op w a b),.int .i64 (doE op w)]) ∧ Below W.heap.size W w':=by
  by_cases h1:op < 0
  · have e1:doI op w a b=0:=if_neg (by omega)
    have e2:doE op w=2:=if_neg (by omega)
    rw [e1,e2];clear e1 e2
    go_enter Tryz.func113,Tryz.ntmps113
    go_wp2
    go_ret2
    exact ⟨rfl,Below.refl _ _⟩
  by_cases h2:12 < op
  · have e1:doI op w a b=0:=if_neg (by omega)
    have e2:doE op w=2:=if_neg (by omega)
    rw [e1,e2];clear e1 e2
    go_enter Tryz.func113,Tryz.ntmps113
    go_wp2
    go_ret2
    exact ⟨rfl,Below.refl _ _⟩
  cases hl:longB w
  · have e1:doI op w a b=0:=if_neg (by simp [hl])
    have e2:doE op w=2:=if_neg (by simp [hl])
    rw [e1,e2];clear e1 e2
    have HL:=Lib.hid hl;clear hl
    go_enter Tryz.func113,Tryz.ntmps113
    go_wp2_with (go_at_call 146;refine (computes_f _ _ HL.out).mono ?_;rintro e w' ⟨rfl,rfl⟩)
    go_ret2
    exact ⟨rfl,Below.refl _ _⟩
  · have e1:doI op w a b=cutI (opI op w (cutI a w) (cutI b w)) w:=if_pos ⟨by omega,by omega,hl⟩
    have e2:doE op w=0:=if_pos ⟨by omega,by omega,hl⟩
    rw [e1,e2];clear e1 e2
    have HL:=Lib.hid hl;clear hl
    obtain ⟨c0,c1⟩:=cutI_bd a w ha0 ha1
    obtain ⟨d0,d1⟩:=cutI_bd b w hb0 hb1
    go_enter Tryz.func113,Tryz.ntmps113
    go_wp2_with (first | (go_at_call 146;refine (computes_t _ _ HL.out).mono ?_;rintro e w' ⟨rfl,rfl⟩) | (go_at_call 107;refine (cut_any _ _ _).mono ?_;rintro e w' ⟨rfl,rfl⟩) | (go_at_call 147;refine (compute_any op w (cutI a w) (cutI b w) _ (by omega) (by omega) HL.out c0 c1 d0 d1).mono ?_;rintro e w' ⟨rfl,hb⟩))
    go_ret2
    exact ⟨rfl,by assumption⟩
theorem widthB_f {w:Int} (h:widthB w=false):¬ w=8 ∧ ¬ w=16 ∧ ¬ w=32 ∧ ¬ w=64:=by
  unfold widthB at h;simpa [and_assoc] using h
theorem widthB_t {w:Int} (h:widthB w=true):w=8 ∨ w=16 ∨ w=32 ∨ w=64:=by
  unfold widthB at h;simpa [or_assoc] using h
theorem retII {k l:IntKind} {a b c:Int} (h:a=b):Ending.returned (.tuple #[.int k a,.int l c])=.returned (.tuple #[.int k b,.int l c]):=by rw [h]
theorem ofInt_mod (v:Int):(BitVec.ofInt 64 v).toNat=(v % 18446744073709551616).toNat:=by
  rw [BitVec.toNat_ofInt];rfl
theorem and_mask (v:Int) (i:Nat) (hi:i ≤ 63) (m:Int) (hm:m=2 ^ i - 1):bits .and .u64 v m=v % 2 ^ i:=by
  have q:(2:Nat) ^ i ≤ 2 ^ 63:=Nat.pow_le_pow_right (by omega) hi
  have p:0 < (2:Nat) ^ i:=Nat.two_pow_pos i
  have e:(2:Int) ^ i=((2 ^ i:Nat):Int):=by simp
  have q':((2:Nat) ^ 63)=9223372036854775808:=rfl
  show IntKind.u64.wrap ((BitVec.ofInt 64 v &&& BitVec.ofInt 64 m).toNat:Int)=_
  have h2:(BitVec.ofInt 64 m).toNat=2 ^ i - 1:=by
    rw [ofInt_mod,hm,e];omega
  rw [BitVec.toNat_and,ofInt_mod,h2,Nat.and_two_pow_sub_one_eq_mod,IntKind.wrap_u64]
  have h3:(((v % 18446744073709551616).toNat % 2 ^ i:Nat):Int)=(v % 18446744073709551616) % ((2 ^ i:Nat):Int):=by
    rw [Int.natCast_emod,Int.toNat_of_nonneg (by omega)]
  have h4:((2 ^ i:Nat):Int) ∣ 18446744073709551616:=by
    refine ⟨((2 ^ (64 - i):Nat):Int),?_⟩
    rw [← Int.natCast_mul,← Nat.pow_add,show i + (64 - i)=64 by omega];rfl
  have h5:(v % ((2 ^ i:Nat):Int)) < ((2 ^ i:Nat):Int):=Int.emod_lt_of_pos _ (by omega)
  have h6:0 ≤ (v % ((2 ^ i:Nat):Int)):=Int.emod_nonneg _ (by omega)
  rw [h3,Int.emod_emod_of_dvd v h4,e,Int.emod_eq_of_lt h6 (by omega)]
theorem and_255 (v:Int):bits .and .u64 v 255=v % 256:=and_mask v 8 (by omega) 255 rfl
theorem and_65535 (v:Int):bits .and .u64 v 65535=v % 65536:=and_mask v 16 (by omega) 65535 rfl
theorem and_w32 (v:Int):bits .and .u64 v 4294967295=v % 4294967296:=and_mask v 32 (by omega) 4294967295 rfl
theorem and_1 (v:Int):bits .and .u64 v 1=v % 2:=and_mask v 1 (by omega) 1 rfl
theorem refwidth_any (w:Int) (W:World):
    Calls Tryz.prog 68 #[.int .i8 w] W fun e w'=>e=.returned (.bool (widthB w)) ∧ W=w':=by
  by_cases a:w=8
  · subst a
    go_enter Tryz.func68,Tryz.ntmps68
    go_wp2
    go_ret
    exact ⟨rfl,rfl⟩
  by_cases b:w=16
  · subst b
    go_enter Tryz.func68,Tryz.ntmps68
    go_wp2
    go_ret
    exact ⟨rfl,rfl⟩
  by_cases c:w=32
  · subst c
    go_enter Tryz.func68,Tryz.ntmps68
    go_wp2
    go_ret
    exact ⟨rfl,rfl⟩
  have d:widthB w=(w == 64):=by unfold widthB;rw [neq_of a,neq_of b,neq_of c];rfl
  rw [d];clear d
  have a':=neq_of a
  have b':=neq_of b
  have c':=neq_of c
  go_enter Tryz.func68,Tryz.ntmps68
  go_wp2
  go_ret
  exact ⟨rfl,rfl⟩
theorem refwidth_t (w:Int) (W:World) (h:widthB w=true):Calls Tryz.prog 68 #[.int .i8 w] W fun e w'=>e=.returned (.bool true) ∧ W=w':=by
  have:=refwidth_any w W;rw [h] at this;exact this
theorem refwidth_f (w:Int) (W:World) (h:widthB w=false):Calls Tryz.prog 68 #[.int .i8 w] W fun e w'=>e=.returned (.bool false) ∧ W=w':=by
  have:=refwidth_any w W;rw [h] at this;exact this
theorem refcut_any (v w:Int) (W:World):
    Calls Tryz.prog 48 #[.int .u64 v,.int .i8 w] W fun e w'=>e=.returned (.int .u64 (cutI v w)) ∧ W=w':=by
  cases h:widthB w
  · obtain ⟨n1,n2,n3,n4⟩:=widthB_f h
    have d:cutI v w=v:=by unfold cutI;rw [if_neg n1,if_neg n2,if_neg n3]
    rw [d];clear d n1 n2 n3 n4
    have H:=Lib.hid h;clear h
    go_enter Tryz.func48,Tryz.ntmps48
    go_wp2_with (go_at_call 68;refine (refwidth_f _ _ H.out).mono ?_;rintro e w' ⟨rfl,rfl⟩)
    go_ret
    exact ⟨rfl,rfl⟩
  · rcases widthB_t h with rfl | rfl | rfl | rfl
    · have e1:=and_255 v
      go_enter Tryz.func48,Tryz.ntmps48
      go_wp2_with (go_at_call 68;refine (refwidth_t _ _ rfl).mono ?_;rintro e w' ⟨rfl,rfl⟩)
      go_ret
      exact ⟨rfl,rfl⟩
    · have e1:=and_65535 v
      go_enter Tryz.func48,Tryz.ntmps48
      go_wp2_with (go_at_call 68;refine (refwidth_t _ _ rfl).mono ?_;rintro e w' ⟨rfl,rfl⟩)
      go_ret
      exact ⟨rfl,rfl⟩
    · have e1:=and_w32 v
      go_enter Tryz.func48,Tryz.ntmps48
      go_wp2_with (go_at_call 68;refine (refwidth_t _ _ rfl).mono ?_;rintro e w' ⟨rfl,rfl⟩)
      go_ret
      exact ⟨rfl,rfl⟩
    · go_enter Tryz.func48,Tryz.ntmps48
      go_wp2_with (go_at_call 68;refine (refwidth_t _ _ rfl).mono ?_;rintro e w' ⟨rfl,rfl⟩)
      go_ret
      exact ⟨rfl,rfl⟩
theorem refsign_8 (v:Int) (W:World):
    Calls Tryz.prog 96 #[.int .u64 v,.int .i8 8] W fun e w'=>e=.returned (.int .u64 (signI v 8)) ∧ W=w':=by
  have e1:=and_1 (cutI v 8 / 128)
  by_cases hb:cutI v 8 / 128 % 2=1
  · have h1:(cutI v 8 / 128 % 2 == 1)=true:=by simpa using hb
    have HB:=Lib.hid hb;clear hb
    go_enter Tryz.func96,Tryz.ntmps96
    go_wp2_with (first | (go_at_call 68;refine (refwidth_t _ _ rfl).mono ?_;rintro e w' ⟨rfl,rfl⟩) | (go_at_call 48;refine (refcut_any _ _ _).mono ?_;rintro e w' ⟨rfl,rfl⟩))
    go_ret
    refine ⟨retI ?_,rfl⟩
    have hb:=HB.out
    rw [cutI_8] at hb
    rw [IntKind.wrap_u64,cutI_8,signI_8];omega
  · have h1:(cutI v 8 / 128 % 2 == 1)=false:=neq_of hb
    have HB:=Lib.hid hb;clear hb
    go_enter Tryz.func96,Tryz.ntmps96
    go_wp2_with (first | (go_at_call 68;refine (refwidth_t _ _ rfl).mono ?_;rintro e w' ⟨rfl,rfl⟩) | (go_at_call 48;refine (refcut_any _ _ _).mono ?_;rintro e w' ⟨rfl,rfl⟩))
    go_ret
    refine ⟨retI ?_,rfl⟩
    have hb:=HB.out
    rw [cutI_8] at hb
    rw [cutI_8,signI_8];omega
theorem refsign_16 (v:Int) (W:World):
    Calls Tryz.prog 96 #[.int .u64 v,.int .i8 16] W fun e w'=>e=.returned (.int .u64 (signI v 16)) ∧ W=w':=by
  have e1:=and_1 (cutI v 16 / 32768)
  by_cases hb:cutI v 16 / 32768 % 2=1
  · have h1:(cutI v 16 / 32768 % 2 == 1)=true:=by simpa using hb
    have HB:=Lib.hid hb;clear hb
    go_enter Tryz.func96,Tryz.ntmps96
    go_wp2_with (first | (go_at_call 68;refine (refwidth_t _ _ rfl).mono ?_;rintro e w' ⟨rfl,rfl⟩) | (go_at_call 48;refine (refcut_any _ _ _).mono ?_;rintro e w' ⟨rfl,rfl⟩))
    go_ret
    refine ⟨retI ?_,rfl⟩
    have hb:=HB.out
    rw [cutI_16] at hb
    rw [IntKind.wrap_u64,cutI_16,signI_16];omega
  · have h1:(cutI v 16 / 32768 % 2 == 1)=false:=neq_of hb
    have HB:=Lib.hid hb;clear hb
    go_enter Tryz.func96,Tryz.ntmps96
    go_wp2_with (first | (go_at_call 68;refine (refwidth_t _ _ rfl).mono ?_;rintro e w' ⟨rfl,rfl⟩) | (go_at_call 48;refine (refcut_any _ _ _).mono ?_;rintro e w' ⟨rfl,rfl⟩))
    go_ret
    refine ⟨retI ?_,rfl⟩
    have hb:=HB.out
    rw [cutI_16] at hb
    rw [cutI_16,signI_16];omega
theorem refsign_32 (v:Int) (W:World):
    Calls Tryz.prog 96 #[.int .u64 v,.int .i8 32] W fun e w'=>e=.returned (.int .u64 (signI v 32)) ∧ W=w':=by
  have e1:=and_1 (cutI v 32 / 2147483648)
  by_cases hb:cutI v 32 / 2147483648 % 2=1
  · have h1:(cutI v 32 / 2147483648 % 2 == 1)=true:=by simpa using hb
    have HB:=Lib.hid hb;clear hb
    go_enter Tryz.func96,Tryz.ntmps96
    go_wp2_with (first | (go_at_call 68;refine (refwidth_t _ _ rfl).mono ?_;rintro e w' ⟨rfl,rfl⟩) | (go_at_call 48;refine (refcut_any _ _ _).mono ?_;rintro e w' ⟨rfl,rfl⟩))
    go_ret
    refine ⟨retI ?_,rfl⟩
    have hb:=HB.out
    rw [cutI_32] at hb
    rw [IntKind.wrap_u64,cutI_32,signI_32];omega
  · have h1:(cutI v 32 / 2147483648 % 2 == 1)=false:=neq_of hb
    have HB:=Lib.hid hb;clear hb
    go_enter Tryz.func96,Tryz.ntmps96
    go_wp2_with (first | (go_at_call 68;refine (refwidth_t _ _ rfl).mono ?_;rintro e w' ⟨rfl,rfl⟩) | (go_at_call 48;refine (refcut_any _ _ _).mono ?_;rintro e w' ⟨rfl,rfl⟩))
    go_ret
    refine ⟨retI ?_,rfl⟩
    have hb:=HB.out
    rw [cutI_32] at hb
    rw [cutI_32,signI_32];omega
theorem refsign_any (v w:Int) (W:World):
    Calls Tryz.prog 96 #[.int .u64 v,.int .i8 w] W fun e w'=>e=.returned (.int .u64 (signI v w)) ∧ W=w':=by
  cases h:widthB w
  · obtain ⟨n1,n2,n3,n4⟩:=widthB_f h
    have d:signI v w=v:=by unfold signI;rw [if_neg n1,if_neg n2,if_neg n3]
    rw [d];clear d n1 n2 n3 n4
    have H:=Lib.hid h;clear h
    go_enter Tryz.func96,Tryz.ntmps96
    go_wp2_with (go_at_call 68;refine (refwidth_f _ _ H.out).mono ?_;rintro e w' ⟨rfl,rfl⟩)
    go_ret
    exact ⟨rfl,rfl⟩
  · rcases widthB_t h with rfl | rfl | rfl | rfl
    · exact refsign_8 v W
    · exact refsign_16 v W
    · exact refsign_32 v W
    · have e1:=and_1 (cutI v 64 / 9223372036854775808)
      have key:∀ b:Bool,(cutI v 64 / 9223372036854775808 % 2 == 1)=b → Calls Tryz.prog 96 #[.int .u64 v,.int .i8 64] W fun e w'=>e=.returned (.int .u64 v) ∧ W=w':=by
        intro b h1
        cases b
        all_goals
          go_enter Tryz.func96,Tryz.ntmps96
          go_wp2_with (first | (go_at_call 68;refine (refwidth_t _ _ rfl).mono ?_;rintro e w' ⟨rfl,rfl⟩) | (go_at_call 48;refine (refcut_any _ _ _).mono ?_;rintro e w' ⟨rfl,rfl⟩))
          go_ret
          exact ⟨rfl,rfl⟩
      exact key _ rfl
end Go.Proofs.YtbpehbeakhocnaaGreatDoor
namespace Go.Proofs.YtbpehbeakhocnaaGreatDoor.Mrm
open Go Go.RowKit
set_option maxRecDepth 100000
structure Xi where
  op:Int
  w:Int
  dst:Int
  src:Int
  base:Int
  disp:Int
  imm:Int
  cc:Int
deriving DecidableEq
abbrev xC (x:Xi):Array Value:=#[.int .i8 x.op,.int .i8 x.w,.int .i8 x.dst,.int .i8 x.src,.int .i8 x.base,.int .i64 x.disp,.int .i64 x.imm,.int .i8 x.cc]
abbrev xL (x:Xi):List Value:=[.int .i8 x.op,.int .i8 x.w,.int .i8 x.dst,.int .i8 x.src,.int .i8 x.base,.int .i64 x.disp,.int .i64 x.imm,.int .i8 x.cc]
def zX:Xi:=⟨0,0,0,0,0,0,0,0⟩
def eqX (a b:Xi):Bool:=a.op == b.op && a.w == b.w && a.dst == b.dst && a.src == b.src && a.base == b.base && a.disp == b.disp && a.imm == b.imm && a.cc == b.cc
theorem eqX_iff {a b:Xi}:eqX a b=true ↔ a=b:=by
  unfold eqX
  cases a;cases b
  simp [and_assoc]
def clsT:List Int:=[1,2,1,1,1,1,1,1,1,2,2,2,2,2,2,2,1,3,3,3,4,4,4,4,4,5,6,7,8,9,10,10]
def clsI (op:Int):Int:=if 0 ≤ op ∧ op < 32 then clsT.getD op.toNat 0 else 0
def codT:List Int:=[137,0,1,9,33,41,49,57,133,0,1,4,5,6,7,0,0,4,5,7,4,5,7,3,6,0,0,0,0,0,0,0]
def codI (op:Int):Int:=if 0 ≤ op ∧ op < 32 then codT.getD op.toNat 0 else 0
theorem clsI_fin:∀ k:Fin 32,1 ≤ clsI (k.1:Int) ∧ clsI (k.1:Int) ≤ 10:=by decide +kernel
theorem clsI_cases (op:Int):clsI op=0 ∨ clsI op=1 ∨ clsI op=2 ∨ clsI op=3 ∨ clsI op=4 ∨ clsI op=5 ∨ clsI op=6 ∨ clsI op=7 ∨ clsI op=8 ∨ clsI op=9 ∨ clsI op=10:=by
  by_cases h:0 ≤ op ∧ op < 32
  · have:=clsI_fin ⟨op.toNat,by omega⟩
    simp only [Int.toNat_of_nonneg h.1] at this
    omega
  · left;unfold clsI;rw [if_neg h]
def fldX (k:Int) (x:Xi):Xi:=⟨x.op,if k < 10 then x.w else 0,if k ≤ 6 then x.dst else 0,if k=1 ∨ k=5 ∨ k=7 then x.src else 0,if k=6 ∨ k=7 then x.base else 0,if k=6 ∨ k=7 then x.disp else 0,if k=2 ∨ k=3 ∨ k=8 ∨ k=9 then x.imm else 0,if k=5 ∨ k=9 then x.cc else 0⟩
def longB (w:Int):Bool:=w == 32 || w == 64
def fourB (n:Int):Bool:=decide (-2147483648 ≤ n) && decide (n < 2147483648)
def oneB (n:Int):Bool:=decide (-128 ≤ n) && decide (n < 128)
def ccB (c:Int):Bool:=(decide (2 ≤ c) && decide (c ≤ 7)) || (decide (12 ≤ c) && decide (c ≤ 15))
def widB (w:Int):Bool:=w == 8 || w == 16 || w == 32 || w == 64
def jmpB (x:Xi):Bool:=x.w == 32 || (x.w == 8 && oneB x.imm)
def clsB (k:Int) (x:Xi):Bool:=
  if k=1 ∨ k=2 ∨ k=4 then longB x.w else
  if k=3 then longB x.w && (decide (0 ≤ x.imm) && decide (x.imm < x.w)) else
  if k=5 then longB x.w && ccB x.cc else
  if k=6 ∨ k=7 then widB x.w else
  if k=8 then jmpB x else
  if k=9 then jmpB x && ccB x.cc else true
def mayX (x:Xi):Bool:=clsI x.op != 0 && (eqX x (fldX (clsI x.op) x) && (regB x.dst && (regB x.src && (regB x.base && (fourB x.disp && (fourB x.imm && clsB (clsI x.op) x))))))
end Go.Proofs.YtbpehbeakhocnaaGreatDoor.Mrm
