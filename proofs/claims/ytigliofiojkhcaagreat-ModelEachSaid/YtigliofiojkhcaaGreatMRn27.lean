import Derived.Test.YtigliofiojkhcaaGreatMRn03
import Derived.Test.YtigliofiojkhcaaGreatMRn05
set_option linter.unusedVariables false
set_option linter.unusedSimpArgs false
set_option linter.unnecessarySimpa false
namespace Go.Proofs.YtigliofiojkhcaaGreat.Ins
open Go.RowKit
set_option linter.unusedVariables false
set_option maxRecDepth 100000 in
set_option maxHeartbeats 4000000 in
theorem r_target (i:Int) (x:In) (W:World):
    Calls Tryz.prog 42 #[.int .i64 i,.agg x.cells] W fun e w'=>e=.returned (.tuple #[.int .i64 (targetI i x),.bool (jumpsI i x)]) ∧ Below W.heap.size W w':=by
  have hj:jumpsI i x=decide ((x.kind=3 ∨ x.kind=4) ∧ (-1099511627776 ≤ i ∧ i ≤ 1099511627776) ∧ (-1099511627776 ≤ x.off ∧ x.off ≤ 1099511627776)):=by
    unfold jumpsI nearI;rw [Bool.eq_iff_iff];simp [and_assoc]
  unfold targetI
  rw [hj]
  clear hj
  obtain ⟨kind,op,width,size,byReg,dst,src,off,imm⟩:=x
  unfold In.cells
  simp only
  have hc:(¬ kind=3 ∧ ¬ kind=4) ∨ ((kind=3 ∨ kind=4) ∧ (i < -1099511627776 ∨ (-1099511627776 ≤ i ∧ 1099511627776 < i) ∨ (-1099511627776 ≤ i ∧ i ≤ 1099511627776 ∧ off < -1099511627776) ∨ (-1099511627776 ≤ i ∧ i ≤ 1099511627776 ∧ -1099511627776 ≤ off ∧ 1099511627776 < off) ∨ (-1099511627776 ≤ i ∧ i ≤ 1099511627776 ∧ -1099511627776 ≤ off ∧ off ≤ 1099511627776))):=by omega
  rcases hc with ⟨h3,h4⟩ | ⟨rfl | rfl,h1 | ⟨h1,h2⟩ | ⟨h1,h2,h5⟩ | ⟨h1,h2,h5,h6⟩ | ⟨h1,h2,h5,h6⟩⟩
  · rw [decide_eq_false (by omega),if_neg (by simp)]
    go_enter Tryz.func42,Tryz.ntmps42
    go_wp2
    go_ret2
    exact ⟨rfl,below_new (Below.refl _ _) _⟩
  all_goals
    first
    | rw [decide_eq_false (by omega),if_neg (by simp)]
    | rw [decide_eq_true (by omega),if_pos rfl]
    go_enter Tryz.func42,Tryz.ntmps42
    go_wp2
    go_ret2
    exact ⟨rfl,below_new (Below.refl _ _) _⟩
end Go.Proofs.YtigliofiojkhcaaGreat.Ins
namespace Go.Proofs.YtigliofiojkhcaaGreat
open Go.RowKit
set_option linter.unusedVariables false
theorem widthB_f {w:Int} (h:widthB w=false):¬ w=8 ∧ ¬ w=16 ∧ ¬ w=32 ∧ ¬ w=64:=by
  unfold widthB at h;simpa [and_assoc] using h
theorem widthB_t {w:Int} (h:widthB w=true):w=8 ∨ w=16 ∨ w=32 ∨ w=64:=by
  unfold widthB at h;simpa [or_assoc] using h
end Go.Proofs.YtigliofiojkhcaaGreat
namespace Go.Proofs.YtigliofiojkhcaaGreat
open Go.RowKit
set_option linter.unusedVariables false
theorem retII {k l:IntKind} {a b c:Int} (h:a=b):Ending.returned (.tuple #[.int k a,.int l c])=.returned (.tuple #[.int k b,.int l c]):=by rw [h]
theorem ofInt_mod (v:Int):(BitVec.ofInt 64 v).toNat=(v % 18446744073709551616).toNat:=by
  rw [BitVec.toNat_ofInt];rfl
theorem and_mask (v:Int) (i:Nat) (hi:i ≤ 63) (m:Int) (hm:m=2 ^ i - 1):bits .and .u64 v m=v % 2 ^ i:=by
  have q:(2:Nat) ^ i ≤ 2 ^ 63:=Nat.pow_le_pow_right (by omega) hi
  have p:0 < (2:Nat) ^ i:=Nat.two_pow_pos i
  have e:(2:Int) ^ i=((2 ^ i:Nat):Int):=by simp
  have q':((2:Nat) ^ 63)=9223372036854775808:=rfl
  show IntKind.u64.wrap ((BitVec.ofInt 64 v &&& BitVec.ofInt 64 m).toNat:Int)=_
  have h2:(BitVec.ofInt 64 m).toNat=2 ^ i - 1:=by
    rw [ofInt_mod,hm,e];omega
  rw [BitVec.toNat_and,ofInt_mod,h2,Nat.and_two_pow_sub_one_eq_mod,IntKind.wrap_u64]
  have h3:(((v % 18446744073709551616).toNat % 2 ^ i:Nat):Int)=(v % 18446744073709551616) % ((2 ^ i:Nat):Int):=by
    rw [Int.natCast_emod,Int.toNat_of_nonneg (by omega)]
  have h4:((2 ^ i:Nat):Int) ∣ 18446744073709551616:=by
    refine ⟨((2 ^ (64 - i):Nat):Int),?_⟩
    rw [← Int.natCast_mul,← Nat.pow_add,show i + (64 - i)=64 by omega];rfl
  have h5:(v % ((2 ^ i:Nat):Int)) < ((2 ^ i:Nat):Int):=Int.emod_lt_of_pos _ (by omega)
  have h6:0 ≤ (v % ((2 ^ i:Nat):Int)):=Int.emod_nonneg _ (by omega)
  rw [h3,Int.emod_emod_of_dvd v h4,e,Int.emod_eq_of_lt h6 (by omega)]
theorem and_255 (v:Int):bits .and .u64 v 255=v % 256:=and_mask v 8 (by omega) 255 rfl
theorem and_65535 (v:Int):bits .and .u64 v 65535=v % 65536:=and_mask v 16 (by omega) 65535 rfl
theorem and_w32 (v:Int):bits .and .u64 v 4294967295=v % 4294967296:=and_mask v 32 (by omega) 4294967295 rfl
theorem and_1 (v:Int):bits .and .u64 v 1=v % 2:=and_mask v 1 (by omega) 1 rfl
set_option maxHeartbeats 400000 in
theorem refwidth_any (w:Int) (W:World):
    Calls Tryz.prog 94 #[.int .i8 w] W fun e w'=>e=.returned (.bool (widthB w)) ∧ W=w':=by
  by_cases a:w=8
  · subst a
    go_enter Tryz.func94,Tryz.ntmps94
    go_wp2
    go_ret
    exact ⟨rfl,rfl⟩
  by_cases b:w=16
  · subst b
    go_enter Tryz.func94,Tryz.ntmps94
    go_wp2
    go_ret
    exact ⟨rfl,rfl⟩
  by_cases c:w=32
  · subst c
    go_enter Tryz.func94,Tryz.ntmps94
    go_wp2
    go_ret
    exact ⟨rfl,rfl⟩
  have d:widthB w=(w == 64):=by unfold widthB;rw [neq_of a,neq_of b,neq_of c];rfl
  rw [d];clear d
  have a':=neq_of a
  have b':=neq_of b
  have c':=neq_of c
  go_enter Tryz.func94,Tryz.ntmps94
  go_wp2
  go_ret
  exact ⟨rfl,rfl⟩
theorem refwidth_t (w:Int) (W:World) (h:widthB w=true):Calls Tryz.prog 94 #[.int .i8 w] W fun e w'=>e=.returned (.bool true) ∧ W=w':=by
  have:=refwidth_any w W;rw [h] at this;exact this
theorem refwidth_f (w:Int) (W:World) (h:widthB w=false):Calls Tryz.prog 94 #[.int .i8 w] W fun e w'=>e=.returned (.bool false) ∧ W=w':=by
  have:=refwidth_any w W;rw [h] at this;exact this
set_option maxHeartbeats 400000 in
theorem reflong_any (w:Int) (W:World):
    Calls Tryz.prog 77 #[.int .i8 w] W fun e w'=>e=.returned (.bool (longB w)) ∧ W=w':=by
  by_cases a:w=32
  · subst a
    go_enter Tryz.func77,Tryz.ntmps77
    go_wp2
    go_ret
    exact ⟨rfl,rfl⟩
  have d:longB w=(w == 64):=by unfold longB;rw [neq_of a];rfl
  rw [d];clear d
  have a':=neq_of a
  go_enter Tryz.func77,Tryz.ntmps77
  go_wp2
  go_ret
  exact ⟨rfl,rfl⟩
theorem reflong_t (w:Int) (W:World) (h:longB w=true):Calls Tryz.prog 77 #[.int .i8 w] W fun e w'=>e=.returned (.bool true) ∧ W=w':=by
  have:=reflong_any w W;rw [h] at this;exact this
theorem reflong_f (w:Int) (W:World) (h:longB w=false):Calls Tryz.prog 77 #[.int .i8 w] W fun e w'=>e=.returned (.bool false) ∧ W=w':=by
  have:=reflong_any w W;rw [h] at this;exact this
set_option maxHeartbeats 400000 in
theorem refcut_any (v w:Int) (W:World):
    Calls Tryz.prog 78 #[.int .u64 v,.int .i8 w] W fun e w'=>e=.returned (.int .u64 (cutI v w)) ∧ W=w':=by
  cases h:widthB w
  · obtain ⟨n1,n2,n3,n4⟩:=widthB_f h
    have d:cutI v w=v:=by unfold cutI;rw [if_neg n1,if_neg n2,if_neg n3]
    rw [d];clear d n1 n2 n3 n4
    have H:=Lib.hid h;clear h
    go_enter Tryz.func78,Tryz.ntmps78
    go_wp2_with (go_at_call 94;refine (refwidth_f _ _ H.out).mono ?_;rintro e w' ⟨rfl,rfl⟩)
    go_ret
    exact ⟨rfl,rfl⟩
  · rcases widthB_t h with rfl | rfl | rfl | rfl
    · have e1:=and_255 v
      go_enter Tryz.func78,Tryz.ntmps78
      go_wp2_with (go_at_call 94;refine (refwidth_t _ _ rfl).mono ?_;rintro e w' ⟨rfl,rfl⟩)
      go_ret
      exact ⟨rfl,rfl⟩
    · have e1:=and_65535 v
      go_enter Tryz.func78,Tryz.ntmps78
      go_wp2_with (go_at_call 94;refine (refwidth_t _ _ rfl).mono ?_;rintro e w' ⟨rfl,rfl⟩)
      go_ret
      exact ⟨rfl,rfl⟩
    · have e1:=and_w32 v
      go_enter Tryz.func78,Tryz.ntmps78
      go_wp2_with (go_at_call 94;refine (refwidth_t _ _ rfl).mono ?_;rintro e w' ⟨rfl,rfl⟩)
      go_ret
      exact ⟨rfl,rfl⟩
    · go_enter Tryz.func78,Tryz.ntmps78
      go_wp2_with (go_at_call 94;refine (refwidth_t _ _ rfl).mono ?_;rintro e w' ⟨rfl,rfl⟩)
      go_ret
      exact ⟨rfl,rfl⟩
set_option maxHeartbeats 400000 in
theorem refsign_8 (v:Int) (W:World):
    Calls Tryz.prog 79 #[.int .u64 v,.int .i8 8] W fun e w'=>e=.returned (.int .u64 (signI v 8)) ∧ W=w':=by
  have e1:=and_1 (cutI v 8 / 128)
  by_cases hb:cutI v 8 / 128 % 2=1
  · have h1:(cutI v 8 / 128 % 2 == 1)=true:=by simpa using hb
    have HB:=Lib.hid hb;clear hb
    go_enter Tryz.func79,Tryz.ntmps79
    go_wp2_with (first | (go_at_call 94;refine (refwidth_t _ _ rfl).mono ?_;rintro e w' ⟨rfl,rfl⟩) | (go_at_call 78;refine (refcut_any _ _ _).mono ?_;rintro e w' ⟨rfl,rfl⟩))
    go_ret
    refine ⟨retI ?_,rfl⟩
    have hb:=HB.out
    rw [cutI_8] at hb
    rw [IntKind.wrap_u64,cutI_8,signI_8];omega
  · have h1:(cutI v 8 / 128 % 2 == 1)=false:=neq_of hb
    have HB:=Lib.hid hb;clear hb
    go_enter Tryz.func79,Tryz.ntmps79
    go_wp2_with (first | (go_at_call 94;refine (refwidth_t _ _ rfl).mono ?_;rintro e w' ⟨rfl,rfl⟩) | (go_at_call 78;refine (refcut_any _ _ _).mono ?_;rintro e w' ⟨rfl,rfl⟩))
    go_ret
    refine ⟨retI ?_,rfl⟩
    have hb:=HB.out
    rw [cutI_8] at hb
    rw [cutI_8,signI_8];omega
set_option maxHeartbeats 400000 in
theorem refsign_16 (v:Int) (W:World):
    Calls Tryz.prog 79 #[.int .u64 v,.int .i8 16] W fun e w'=>e=.returned (.int .u64 (signI v 16)) ∧ W=w':=by
  have e1:=and_1 (cutI v 16 / 32768)
  by_cases hb:cutI v 16 / 32768 % 2=1
  · have h1:(cutI v 16 / 32768 % 2 == 1)=true:=by simpa using hb
    have HB:=Lib.hid hb;clear hb
    go_enter Tryz.func79,Tryz.ntmps79
    go_wp2_with (first | (go_at_call 94;refine (refwidth_t _ _ rfl).mono ?_;rintro e w' ⟨rfl,rfl⟩) | (go_at_call 78;refine (refcut_any _ _ _).mono ?_;rintro e w' ⟨rfl,rfl⟩))
    go_ret
    refine ⟨retI ?_,rfl⟩
    have hb:=HB.out
    rw [cutI_16] at hb
    rw [IntKind.wrap_u64,cutI_16,signI_16];omega
  · have h1:(cutI v 16 / 32768 % 2 == 1)=false:=neq_of hb
    have HB:=Lib.hid hb;clear hb
    go_enter Tryz.func79,Tryz.ntmps79
    go_wp2_with (first | (go_at_call 94;refine (refwidth_t _ _ rfl).mono ?_;rintro e w' ⟨rfl,rfl⟩) | (go_at_call 78;refine (refcut_any _ _ _).mono ?_;rintro e w' ⟨rfl,rfl⟩))
    go_ret
    refine ⟨retI ?_,rfl⟩
    have hb:=HB.out
    rw [cutI_16] at hb
    rw [cutI_16,signI_16];omega
set_option maxHeartbeats 400000 in
theorem refsign_32 (v:Int) (W:World):
    Calls Tryz.prog 79 #[.int .u64 v,.int .i8 32] W fun e w'=>e=.returned (.int .u64 (signI v 32)) ∧ W=w':=by
  have e1:=and_1 (cutI v 32 / 2147483648)
  by_cases hb:cutI v 32 / 2147483648 % 2=1
  · have h1:(cutI v 32 / 2147483648 % 2 == 1)=true:=by simpa using hb
    have HB:=Lib.hid hb;clear hb
    go_enter Tryz.func79,Tryz.ntmps79
    go_wp2_with (first | (go_at_call 94;refine (refwidth_t _ _ rfl).mono ?_;rintro e w' ⟨rfl,rfl⟩) | (go_at_call 78;refine (refcut_any _ _ _).mono ?_;rintro e w' ⟨rfl,rfl⟩))
    go_ret
    refine ⟨retI ?_,rfl⟩
    have hb:=HB.out
    rw [cutI_32] at hb
    rw [IntKind.wrap_u64,cutI_32,signI_32];omega
  · have h1:(cutI v 32 / 2147483648 % 2 == 1)=false:=neq_of hb
    have HB:=Lib.hid hb;clear hb
    go_enter Tryz.func79,Tryz.ntmps79
    go_wp2_with (first | (go_at_call 94;refine (refwidth_t _ _ rfl).mono ?_;rintro e w' ⟨rfl,rfl⟩) | (go_at_call 78;refine (refcut_any _ _ _).mono ?_;rintro e w' ⟨rfl,rfl⟩))
    go_ret
    refine ⟨retI ?_,rfl⟩
    have hb:=HB.out
    rw [cutI_32] at hb
    rw [cutI_32,signI_32];omega
set_option maxHeartbeats 400000 in
theorem refsign_any (v w:Int) (W:World):
    Calls Tryz.prog 79 #[.int .u64 v,.int .i8 w] W fun e w'=>e=.returned (.int .u64 (signI v w)) ∧ W=w':=by
  cases h:widthB w
  · obtain ⟨n1,n2,n3,n4⟩:=widthB_f h
    have d:signI v w=v:=by unfold signI;rw [if_neg n1,if_neg n2,if_neg n3]
    rw [d];clear d n1 n2 n3 n4
    have H:=Lib.hid h;clear h
    go_enter Tryz.func79,Tryz.ntmps79
    go_wp2_with (go_at_call 94;refine (refwidth_f _ _ H.out).mono ?_;rintro e w' ⟨rfl,rfl⟩)
    go_ret
    exact ⟨rfl,rfl⟩
  · rcases widthB_t h with rfl | rfl | rfl | rfl
    · exact refsign_8 v W
    · exact refsign_16 v W
    · exact refsign_32 v W
    · have e1:=and_1 (cutI v 64 / 9223372036854775808)
      have key:∀ b:Bool,(cutI v 64 / 9223372036854775808 % 2 == 1)=b → Calls Tryz.prog 79 #[.int .u64 v,.int .i8 64] W fun e w'=>e=.returned (.int .u64 v) ∧ W=w':=by
        intro b h1
        cases b
        all_goals
          go_enter Tryz.func79,Tryz.ntmps79
          go_wp2_with (first | (go_at_call 94;refine (refwidth_t _ _ rfl).mono ?_;rintro e w' ⟨rfl,rfl⟩) | (go_at_call 78;refine (refcut_any _ _ _).mono ?_;rintro e w' ⟨rfl,rfl⟩))
          go_ret
          exact ⟨rfl,rfl⟩
      exact key _ rfl
end Go.Proofs.YtigliofiojkhcaaGreat
namespace Go.Proofs.YtigliofiojkhcaaGreat
open Go.RowKit
set_option linter.unusedVariables false
set_option maxRecDepth 100000 in
set_option maxHeartbeats 1000000 in
theorem refdo_0_32 (a b:Int) (W:World) (ha0:0 ≤ a) (ha1:a < 18446744073709551616) (hb0:0 ≤ b) (hb1:b < 18446744073709551616):
    Calls Tryz.prog 45 #[.int .i8 0,.int .i8 32,.int .u64 a,.int .u64 b] W fun e w'=>e=.returned (.tuple #[.int .u64 (doI 0 32 a b),.int .i64 0]) ∧ W=w':=by
  obtain ⟨c0,c1⟩:=cutI_bd a 32 ha0 ha1
  obtain ⟨d0,d1⟩:=cutI_bd b 32 hb0 hb1
  have e1:=and_31 (cutI b 32) d0 d1
  have e2:0 ≤ cutI b 32 % 32:=by omega
  have e3:min (cutI b 32 % 32).toNat 64=(cutI b 32 % 32).toNat:=by omega
  go_enter Tryz.func45,Tryz.ntmps45
  go_wp2_with (first | (go_at_call 77;refine (reflong_t _ _ rfl).mono ?_;rintro e w' ⟨rfl,rfl⟩) | (go_at_call 78;refine (refcut_any _ _ _).mono ?_;rintro e w' ⟨rfl,rfl⟩) | (go_at_call 79;refine (refsign_any _ _ _).mono ?_;rintro e w' ⟨rfl,rfl⟩))
  go_ret2
  refine ⟨retII (congrArg (fun x=>cutI x 32) ?_),rfl⟩
  rw [IntKind.wrap_u64];rfl
set_option maxRecDepth 100000 in
set_option maxHeartbeats 1000000 in
theorem refdo_1_32 (a b:Int) (W:World) (ha0:0 ≤ a) (ha1:a < 18446744073709551616) (hb0:0 ≤ b) (hb1:b < 18446744073709551616):
    Calls Tryz.prog 45 #[.int .i8 1,.int .i8 32,.int .u64 a,.int .u64 b] W fun e w'=>e=.returned (.tuple #[.int .u64 (doI 1 32 a b),.int .i64 0]) ∧ W=w':=by
  obtain ⟨c0,c1⟩:=cutI_bd a 32 ha0 ha1
  obtain ⟨d0,d1⟩:=cutI_bd b 32 hb0 hb1
  have e1:=and_31 (cutI b 32) d0 d1
  have e2:0 ≤ cutI b 32 % 32:=by omega
  have e3:min (cutI b 32 % 32).toNat 64=(cutI b 32 % 32).toNat:=by omega
  go_enter Tryz.func45,Tryz.ntmps45
  go_wp2_with (first | (go_at_call 77;refine (reflong_t _ _ rfl).mono ?_;rintro e w' ⟨rfl,rfl⟩) | (go_at_call 78;refine (refcut_any _ _ _).mono ?_;rintro e w' ⟨rfl,rfl⟩) | (go_at_call 79;refine (refsign_any _ _ _).mono ?_;rintro e w' ⟨rfl,rfl⟩))
  go_ret2
  refine ⟨retII (congrArg (fun x=>cutI x 32) ?_),rfl⟩
  rw [IntKind.wrap_u64];rfl
set_option maxRecDepth 100000 in
set_option maxHeartbeats 1000000 in
theorem refdo_2_32 (a b:Int) (W:World) (ha0:0 ≤ a) (ha1:a < 18446744073709551616) (hb0:0 ≤ b) (hb1:b < 18446744073709551616):
    Calls Tryz.prog 45 #[.int .i8 2,.int .i8 32,.int .u64 a,.int .u64 b] W fun e w'=>e=.returned (.tuple #[.int .u64 (doI 2 32 a b),.int .i64 0]) ∧ W=w':=by
  obtain ⟨c0,c1⟩:=cutI_bd a 32 ha0 ha1
  obtain ⟨d0,d1⟩:=cutI_bd b 32 hb0 hb1
  have e1:=and_31 (cutI b 32) d0 d1
  have e2:0 ≤ cutI b 32 % 32:=by omega
  have e3:min (cutI b 32 % 32).toNat 64=(cutI b 32 % 32).toNat:=by omega
  go_enter Tryz.func45,Tryz.ntmps45
  go_wp2_with (first | (go_at_call 77;refine (reflong_t _ _ rfl).mono ?_;rintro e w' ⟨rfl,rfl⟩) | (go_at_call 78;refine (refcut_any _ _ _).mono ?_;rintro e w' ⟨rfl,rfl⟩) | (go_at_call 79;refine (refsign_any _ _ _).mono ?_;rintro e w' ⟨rfl,rfl⟩))
  go_ret2
  refine ⟨retII (congrArg (fun x=>cutI x 32) ?_),rfl⟩
  rw [IntKind.wrap_u64];rfl
set_option maxRecDepth 100000 in
set_option maxHeartbeats 1000000 in
theorem refdo_3_32 (a b:Int) (W:World) (ha0:0 ≤ a) (ha1:a < 18446744073709551616) (hb0:0 ≤ b) (hb1:b < 18446744073709551616):
    Calls Tryz.prog 45 #[.int .i8 3,.int .i8 32,.int .u64 a,.int .u64 b] W fun e w'=>e=.returned (.tuple #[.int .u64 (doI 3 32 a b),.int .i64 0]) ∧ W=w':=by
  obtain ⟨c0,c1⟩:=cutI_bd a 32 ha0 ha1
  obtain ⟨d0,d1⟩:=cutI_bd b 32 hb0 hb1
  have e1:=and_31 (cutI b 32) d0 d1
  have e2:0 ≤ cutI b 32 % 32:=by omega
  have e3:min (cutI b 32 % 32).toNat 64=(cutI b 32 % 32).toNat:=by omega
  by_cases hz:cutI b 32=0
  · have z1:decide (0 < cutI b 32)=false:=decide_eq_false (by omega)
    have HZ:=Lib.hid hz;clear hz
    go_enter Tryz.func45,Tryz.ntmps45
    go_wp2_with (first | (go_at_call 77;refine (reflong_t _ _ rfl).mono ?_;rintro e w' ⟨rfl,rfl⟩) | (go_at_call 78;refine (refcut_any _ _ _).mono ?_;rintro e w' ⟨rfl,rfl⟩) | (go_at_call 79;refine (refsign_any _ _ _).mono ?_;rintro e w' ⟨rfl,rfl⟩))
    go_ret2
    refine ⟨retII (congrArg (fun x=>cutI x 32) ?_),rfl⟩
    rw [opI_3,if_pos HZ.out]
  · have z1:0 < cutI b 32:=by omega
    have HZ:=Lib.hid hz;clear hz
    go_enter Tryz.func45,Tryz.ntmps45
    go_wp2_with (first | (go_at_call 77;refine (reflong_t _ _ rfl).mono ?_;rintro e w' ⟨rfl,rfl⟩) | (go_at_call 78;refine (refcut_any _ _ _).mono ?_;rintro e w' ⟨rfl,rfl⟩) | (go_at_call 79;refine (refsign_any _ _ _).mono ?_;rintro e w' ⟨rfl,rfl⟩))
    go_ret2
    refine ⟨retII (congrArg (fun x=>cutI x 32) ?_),rfl⟩
    rw [opI_3,if_neg HZ.out]
set_option maxRecDepth 100000 in
set_option maxHeartbeats 1000000 in
theorem refdo_4_32 (a b:Int) (W:World) (ha0:0 ≤ a) (ha1:a < 18446744073709551616) (hb0:0 ≤ b) (hb1:b < 18446744073709551616):
    Calls Tryz.prog 45 #[.int .i8 4,.int .i8 32,.int .u64 a,.int .u64 b] W fun e w'=>e=.returned (.tuple #[.int .u64 (doI 4 32 a b),.int .i64 0]) ∧ W=w':=by
  obtain ⟨c0,c1⟩:=cutI_bd a 32 ha0 ha1
  obtain ⟨d0,d1⟩:=cutI_bd b 32 hb0 hb1
  have e1:=and_31 (cutI b 32) d0 d1
  have e2:0 ≤ cutI b 32 % 32:=by omega
  have e3:min (cutI b 32 % 32).toNat 64=(cutI b 32 % 32).toNat:=by omega
  go_enter Tryz.func45,Tryz.ntmps45
  go_wp2_with (first | (go_at_call 77;refine (reflong_t _ _ rfl).mono ?_;rintro e w' ⟨rfl,rfl⟩) | (go_at_call 78;refine (refcut_any _ _ _).mono ?_;rintro e w' ⟨rfl,rfl⟩) | (go_at_call 79;refine (refsign_any _ _ _).mono ?_;rintro e w' ⟨rfl,rfl⟩))
  go_ret2
  refine ⟨retII (congrArg (fun x=>cutI x 32) ?_),rfl⟩
  rw [u64_or _ _ c0 c1 d0 d1];rfl
set_option maxRecDepth 100000 in
set_option maxHeartbeats 1000000 in
theorem refdo_5_32 (a b:Int) (W:World) (ha0:0 ≤ a) (ha1:a < 18446744073709551616) (hb0:0 ≤ b) (hb1:b < 18446744073709551616):
    Calls Tryz.prog 45 #[.int .i8 5,.int .i8 32,.int .u64 a,.int .u64 b] W fun e w'=>e=.returned (.tuple #[.int .u64 (doI 5 32 a b),.int .i64 0]) ∧ W=w':=by
  obtain ⟨c0,c1⟩:=cutI_bd a 32 ha0 ha1
  obtain ⟨d0,d1⟩:=cutI_bd b 32 hb0 hb1
  have e1:=and_31 (cutI b 32) d0 d1
  have e2:0 ≤ cutI b 32 % 32:=by omega
  have e3:min (cutI b 32 % 32).toNat 64=(cutI b 32 % 32).toNat:=by omega
  go_enter Tryz.func45,Tryz.ntmps45
  go_wp2_with (first | (go_at_call 77;refine (reflong_t _ _ rfl).mono ?_;rintro e w' ⟨rfl,rfl⟩) | (go_at_call 78;refine (refcut_any _ _ _).mono ?_;rintro e w' ⟨rfl,rfl⟩) | (go_at_call 79;refine (refsign_any _ _ _).mono ?_;rintro e w' ⟨rfl,rfl⟩))
  go_ret2
  refine ⟨retII (congrArg (fun x=>cutI x 32) ?_),rfl⟩
  rw [u64_and _ _ c0 c1 d0 d1];rfl
set_option maxRecDepth 100000 in
set_option maxHeartbeats 1000000 in
theorem refdo_6_32 (a b:Int) (W:World) (ha0:0 ≤ a) (ha1:a < 18446744073709551616) (hb0:0 ≤ b) (hb1:b < 18446744073709551616):
    Calls Tryz.prog 45 #[.int .i8 6,.int .i8 32,.int .u64 a,.int .u64 b] W fun e w'=>e=.returned (.tuple #[.int .u64 (doI 6 32 a b),.int .i64 0]) ∧ W=w':=by
  obtain ⟨c0,c1⟩:=cutI_bd a 32 ha0 ha1
  obtain ⟨d0,d1⟩:=cutI_bd b 32 hb0 hb1
  have e1:=and_31 (cutI b 32) d0 d1
  have e2:0 ≤ cutI b 32 % 32:=by omega
  have e3:min (cutI b 32 % 32).toNat 64=(cutI b 32 % 32).toNat:=by omega
  go_enter Tryz.func45,Tryz.ntmps45
  go_wp2_with (first | (go_at_call 77;refine (reflong_t _ _ rfl).mono ?_;rintro e w' ⟨rfl,rfl⟩) | (go_at_call 78;refine (refcut_any _ _ _).mono ?_;rintro e w' ⟨rfl,rfl⟩) | (go_at_call 79;refine (refsign_any _ _ _).mono ?_;rintro e w' ⟨rfl,rfl⟩))
  go_ret2
  refine ⟨retII (congrArg (fun x=>cutI x 32) ?_),rfl⟩
  rw [IntKind.wrap_u64];rfl
set_option maxRecDepth 100000 in
set_option maxHeartbeats 1000000 in
theorem refdo_7_32 (a b:Int) (W:World) (ha0:0 ≤ a) (ha1:a < 18446744073709551616) (hb0:0 ≤ b) (hb1:b < 18446744073709551616):
    Calls Tryz.prog 45 #[.int .i8 7,.int .i8 32,.int .u64 a,.int .u64 b] W fun e w'=>e=.returned (.tuple #[.int .u64 (doI 7 32 a b),.int .i64 0]) ∧ W=w':=by
  obtain ⟨c0,c1⟩:=cutI_bd a 32 ha0 ha1
  obtain ⟨d0,d1⟩:=cutI_bd b 32 hb0 hb1
  have e1:=and_31 (cutI b 32) d0 d1
  have e2:0 ≤ cutI b 32 % 32:=by omega
  have e3:min (cutI b 32 % 32).toNat 64=(cutI b 32 % 32).toNat:=by omega
  go_enter Tryz.func45,Tryz.ntmps45
  go_wp2_with (first | (go_at_call 77;refine (reflong_t _ _ rfl).mono ?_;rintro e w' ⟨rfl,rfl⟩) | (go_at_call 78;refine (refcut_any _ _ _).mono ?_;rintro e w' ⟨rfl,rfl⟩) | (go_at_call 79;refine (refsign_any _ _ _).mono ?_;rintro e w' ⟨rfl,rfl⟩))
  go_ret2
  refine ⟨retII (congrArg (fun x=>cutI x 32) ?_),rfl⟩
  rfl
set_option maxRecDepth 100000 in
set_option maxHeartbeats 1000000 in
theorem refdo_8_32 (a b:Int) (W:World) (ha0:0 ≤ a) (ha1:a < 18446744073709551616) (hb0:0 ≤ b) (hb1:b < 18446744073709551616):
    Calls Tryz.prog 45 #[.int .i8 8,.int .i8 32,.int .u64 a,.int .u64 b] W fun e w'=>e=.returned (.tuple #[.int .u64 (doI 8 32 a b),.int .i64 0]) ∧ W=w':=by
  obtain ⟨c0,c1⟩:=cutI_bd a 32 ha0 ha1
  obtain ⟨d0,d1⟩:=cutI_bd b 32 hb0 hb1
  have e1:=and_31 (cutI b 32) d0 d1
  have e2:0 ≤ cutI b 32 % 32:=by omega
  have e3:min (cutI b 32 % 32).toNat 64=(cutI b 32 % 32).toNat:=by omega
  go_enter Tryz.func45,Tryz.ntmps45
  go_wp2_with (first | (go_at_call 77;refine (reflong_t _ _ rfl).mono ?_;rintro e w' ⟨rfl,rfl⟩) | (go_at_call 78;refine (refcut_any _ _ _).mono ?_;rintro e w' ⟨rfl,rfl⟩) | (go_at_call 79;refine (refsign_any _ _ _).mono ?_;rintro e w' ⟨rfl,rfl⟩))
  go_ret2
  refine ⟨retII (congrArg (fun x=>cutI x 32) ?_),rfl⟩
  rw [IntKind.wrap_u64];rfl
set_option maxRecDepth 100000 in
set_option maxHeartbeats 1000000 in
theorem refdo_9_32 (a b:Int) (W:World) (ha0:0 ≤ a) (ha1:a < 18446744073709551616) (hb0:0 ≤ b) (hb1:b < 18446744073709551616):
    Calls Tryz.prog 45 #[.int .i8 9,.int .i8 32,.int .u64 a,.int .u64 b] W fun e w'=>e=.returned (.tuple #[.int .u64 (doI 9 32 a b),.int .i64 0]) ∧ W=w':=by
  obtain ⟨c0,c1⟩:=cutI_bd a 32 ha0 ha1
  obtain ⟨d0,d1⟩:=cutI_bd b 32 hb0 hb1
  have e1:=and_31 (cutI b 32) d0 d1
  have e2:0 ≤ cutI b 32 % 32:=by omega
  have e3:min (cutI b 32 % 32).toNat 64=(cutI b 32 % 32).toNat:=by omega
  by_cases hz:cutI b 32=0
  · have z1:decide (0 < cutI b 32)=false:=decide_eq_false (by omega)
    have HZ:=Lib.hid hz;clear hz
    go_enter Tryz.func45,Tryz.ntmps45
    go_wp2_with (first | (go_at_call 77;refine (reflong_t _ _ rfl).mono ?_;rintro e w' ⟨rfl,rfl⟩) | (go_at_call 78;refine (refcut_any _ _ _).mono ?_;rintro e w' ⟨rfl,rfl⟩) | (go_at_call 79;refine (refsign_any _ _ _).mono ?_;rintro e w' ⟨rfl,rfl⟩))
    go_ret2
    refine ⟨retII (congrArg (fun x=>cutI x 32) ?_),rfl⟩
    rw [opI_9,if_pos HZ.out]
  · have z1:0 < cutI b 32:=by omega
    have HZ:=Lib.hid hz;clear hz
    go_enter Tryz.func45,Tryz.ntmps45
    go_wp2_with (first | (go_at_call 77;refine (reflong_t _ _ rfl).mono ?_;rintro e w' ⟨rfl,rfl⟩) | (go_at_call 78;refine (refcut_any _ _ _).mono ?_;rintro e w' ⟨rfl,rfl⟩) | (go_at_call 79;refine (refsign_any _ _ _).mono ?_;rintro e w' ⟨rfl,rfl⟩))
    go_ret2
    refine ⟨retII (congrArg (fun x=>cutI x 32) ?_),rfl⟩
    rw [opI_9,if_neg HZ.out]
set_option maxRecDepth 100000 in
set_option maxHeartbeats 1000000 in
theorem refdo_10_32 (a b:Int) (W:World) (ha0:0 ≤ a) (ha1:a < 18446744073709551616) (hb0:0 ≤ b) (hb1:b < 18446744073709551616):
    Calls Tryz.prog 45 #[.int .i8 10,.int .i8 32,.int .u64 a,.int .u64 b] W fun e w'=>e=.returned (.tuple #[.int .u64 (doI 10 32 a b),.int .i64 0]) ∧ W=w':=by
  obtain ⟨c0,c1⟩:=cutI_bd a 32 ha0 ha1
  obtain ⟨d0,d1⟩:=cutI_bd b 32 hb0 hb1
  have e1:=and_31 (cutI b 32) d0 d1
  have e2:0 ≤ cutI b 32 % 32:=by omega
  have e3:min (cutI b 32 % 32).toNat 64=(cutI b 32 % 32).toNat:=by omega
  go_enter Tryz.func45,Tryz.ntmps45
  go_wp2_with (first | (go_at_call 77;refine (reflong_t _ _ rfl).mono ?_;rintro e w' ⟨rfl,rfl⟩) | (go_at_call 78;refine (refcut_any _ _ _).mono ?_;rintro e w' ⟨rfl,rfl⟩) | (go_at_call 79;refine (refsign_any _ _ _).mono ?_;rintro e w' ⟨rfl,rfl⟩))
  go_ret2
  refine ⟨retII (congrArg (fun x=>cutI x 32) ?_),rfl⟩
  rw [u64_xor _ _ c0 c1 d0 d1];rfl
set_option maxRecDepth 100000 in
set_option maxHeartbeats 1000000 in
theorem refdo_11_32 (a b:Int) (W:World) (ha0:0 ≤ a) (ha1:a < 18446744073709551616) (hb0:0 ≤ b) (hb1:b < 18446744073709551616):
    Calls Tryz.prog 45 #[.int .i8 11,.int .i8 32,.int .u64 a,.int .u64 b] W fun e w'=>e=.returned (.tuple #[.int .u64 (doI 11 32 a b),.int .i64 0]) ∧ W=w':=by
  obtain ⟨c0,c1⟩:=cutI_bd a 32 ha0 ha1
  obtain ⟨d0,d1⟩:=cutI_bd b 32 hb0 hb1
  have e1:=and_31 (cutI b 32) d0 d1
  have e2:0 ≤ cutI b 32 % 32:=by omega
  have e3:min (cutI b 32 % 32).toNat 64=(cutI b 32 % 32).toNat:=by omega
  go_enter Tryz.func45,Tryz.ntmps45
  go_wp2_with (first | (go_at_call 77;refine (reflong_t _ _ rfl).mono ?_;rintro e w' ⟨rfl,rfl⟩) | (go_at_call 78;refine (refcut_any _ _ _).mono ?_;rintro e w' ⟨rfl,rfl⟩) | (go_at_call 79;refine (refsign_any _ _ _).mono ?_;rintro e w' ⟨rfl,rfl⟩))
  go_ret2
  refine ⟨retII (congrArg (fun x=>cutI x 32) ?_),rfl⟩
  rfl
set_option maxRecDepth 100000 in
set_option maxHeartbeats 1000000 in
theorem refdo_12_32 (a b:Int) (W:World) (ha0:0 ≤ a) (ha1:a < 18446744073709551616) (hb0:0 ≤ b) (hb1:b < 18446744073709551616):
    Calls Tryz.prog 45 #[.int .i8 12,.int .i8 32,.int .u64 a,.int .u64 b] W fun e w'=>e=.returned (.tuple #[.int .u64 (doI 12 32 a b),.int .i64 0]) ∧ W=w':=by
  obtain ⟨c0,c1⟩:=cutI_bd a 32 ha0 ha1
  obtain ⟨d0,d1⟩:=cutI_bd b 32 hb0 hb1
  have e1:=and_31 (cutI b 32) d0 d1
  have e2:0 ≤ cutI b 32 % 32:=by omega
  have e3:min (cutI b 32 % 32).toNat 64=(cutI b 32 % 32).toNat:=by omega
  go_enter Tryz.func45,Tryz.ntmps45
  go_wp2_with (first | (go_at_call 77;refine (reflong_t _ _ rfl).mono ?_;rintro e w' ⟨rfl,rfl⟩) | (go_at_call 78;refine (refcut_any _ _ _).mono ?_;rintro e w' ⟨rfl,rfl⟩) | (go_at_call 79;refine (refsign_any _ _ _).mono ?_;rintro e w' ⟨rfl,rfl⟩))
  go_ret2
  refine ⟨retII (congrArg (fun x=>cutI x 32) ?_),rfl⟩
  rw [IntKind.wrap_u64,show wrap64 (signI (cutI a 32) 32)=sgnI (cutI a 32) 32 from (IntWalk.i64_left _).symm.trans (wrap64_sign32 _)];rfl
end Go.Proofs.YtigliofiojkhcaaGreat
