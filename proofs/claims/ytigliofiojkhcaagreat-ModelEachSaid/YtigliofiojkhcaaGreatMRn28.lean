import Derived.Test.YtigliofiojkhcaaGreatMRn27
import Derived.Test.YtigliofiojkhcaaGreatMRn24
import Derived.Test.YtigliofiojkhcaaGreatMRn26
import Derived.Test.YtigliofiojkhcaaGreatMRn25
set_option linter.unusedVariables false
set_option linter.unusedSimpArgs false
set_option linter.unnecessarySimpa false
namespace Go.Proofs.YtigliofiojkhcaaGreat
open Go.RowKit
set_option linter.unusedVariables false
set_option maxRecDepth 100000 in
set_option maxHeartbeats 1000000 in
theorem refdo_0_64 (a b:Int) (W:World) (ha0:0 ≤ a) (ha1:a < 18446744073709551616) (hb0:0 ≤ b) (hb1:b < 18446744073709551616):
    Calls Tryz.prog 45 #[.int .i8 0,.int .i8 64,.int .u64 a,.int .u64 b] W fun e w'=>e=.returned (.tuple #[.int .u64 (doI 0 64 a b),.int .i64 0]) ∧ W=w':=by
  obtain ⟨c0,c1⟩:=cutI_bd a 64 ha0 ha1
  obtain ⟨d0,d1⟩:=cutI_bd b 64 hb0 hb1
  have e1:=and_63 (cutI b 64) d0 d1
  have e2:0 ≤ cutI b 64 % 64:=by omega
  have e3:min (cutI b 64 % 64).toNat 64=(cutI b 64 % 64).toNat:=by omega
  go_enter Tryz.func45,Tryz.ntmps45
  go_wp2_with (first | (go_at_call 77;refine (reflong_t _ _ rfl).mono ?_;rintro e w' ⟨rfl,rfl⟩) | (go_at_call 78;refine (refcut_any _ _ _).mono ?_;rintro e w' ⟨rfl,rfl⟩) | (go_at_call 79;refine (refsign_any _ _ _).mono ?_;rintro e w' ⟨rfl,rfl⟩))
  go_ret2
  refine ⟨retII (congrArg (fun x=>cutI x 64) ?_),rfl⟩
  rw [IntKind.wrap_u64];rfl
set_option maxRecDepth 100000 in
set_option maxHeartbeats 1000000 in
theorem refdo_1_64 (a b:Int) (W:World) (ha0:0 ≤ a) (ha1:a < 18446744073709551616) (hb0:0 ≤ b) (hb1:b < 18446744073709551616):
    Calls Tryz.prog 45 #[.int .i8 1,.int .i8 64,.int .u64 a,.int .u64 b] W fun e w'=>e=.returned (.tuple #[.int .u64 (doI 1 64 a b),.int .i64 0]) ∧ W=w':=by
  obtain ⟨c0,c1⟩:=cutI_bd a 64 ha0 ha1
  obtain ⟨d0,d1⟩:=cutI_bd b 64 hb0 hb1
  have e1:=and_63 (cutI b 64) d0 d1
  have e2:0 ≤ cutI b 64 % 64:=by omega
  have e3:min (cutI b 64 % 64).toNat 64=(cutI b 64 % 64).toNat:=by omega
  go_enter Tryz.func45,Tryz.ntmps45
  go_wp2_with (first | (go_at_call 77;refine (reflong_t _ _ rfl).mono ?_;rintro e w' ⟨rfl,rfl⟩) | (go_at_call 78;refine (refcut_any _ _ _).mono ?_;rintro e w' ⟨rfl,rfl⟩) | (go_at_call 79;refine (refsign_any _ _ _).mono ?_;rintro e w' ⟨rfl,rfl⟩))
  go_ret2
  refine ⟨retII (congrArg (fun x=>cutI x 64) ?_),rfl⟩
  rw [IntKind.wrap_u64];rfl
set_option maxRecDepth 100000 in
set_option maxHeartbeats 1000000 in
theorem refdo_2_64 (a b:Int) (W:World) (ha0:0 ≤ a) (ha1:a < 18446744073709551616) (hb0:0 ≤ b) (hb1:b < 18446744073709551616):
    Calls Tryz.prog 45 #[.int .i8 2,.int .i8 64,.int .u64 a,.int .u64 b] W fun e w'=>e=.returned (.tuple #[.int .u64 (doI 2 64 a b),.int .i64 0]) ∧ W=w':=by
  obtain ⟨c0,c1⟩:=cutI_bd a 64 ha0 ha1
  obtain ⟨d0,d1⟩:=cutI_bd b 64 hb0 hb1
  have e1:=and_63 (cutI b 64) d0 d1
  have e2:0 ≤ cutI b 64 % 64:=by omega
  have e3:min (cutI b 64 % 64).toNat 64=(cutI b 64 % 64).toNat:=by omega
  go_enter Tryz.func45,Tryz.ntmps45
  go_wp2_with (first | (go_at_call 77;refine (reflong_t _ _ rfl).mono ?_;rintro e w' ⟨rfl,rfl⟩) | (go_at_call 78;refine (refcut_any _ _ _).mono ?_;rintro e w' ⟨rfl,rfl⟩) | (go_at_call 79;refine (refsign_any _ _ _).mono ?_;rintro e w' ⟨rfl,rfl⟩))
  go_ret2
  refine ⟨retII (congrArg (fun x=>cutI x 64) ?_),rfl⟩
  rw [IntKind.wrap_u64];rfl
set_option maxRecDepth 100000 in
set_option maxHeartbeats 1000000 in
theorem refdo_3_64 (a b:Int) (W:World) (ha0:0 ≤ a) (ha1:a < 18446744073709551616) (hb0:0 ≤ b) (hb1:b < 18446744073709551616):
    Calls Tryz.prog 45 #[.int .i8 3,.int .i8 64,.int .u64 a,.int .u64 b] W fun e w'=>e=.returned (.tuple #[.int .u64 (doI 3 64 a b),.int .i64 0]) ∧ W=w':=by
  obtain ⟨c0,c1⟩:=cutI_bd a 64 ha0 ha1
  obtain ⟨d0,d1⟩:=cutI_bd b 64 hb0 hb1
  have e1:=and_63 (cutI b 64) d0 d1
  have e2:0 ≤ cutI b 64 % 64:=by omega
  have e3:min (cutI b 64 % 64).toNat 64=(cutI b 64 % 64).toNat:=by omega
  by_cases hz:cutI b 64=0
  · have z1:decide (0 < cutI b 64)=false:=decide_eq_false (by omega)
    have HZ:=Lib.hid hz;clear hz
    go_enter Tryz.func45,Tryz.ntmps45
    go_wp2_with (first | (go_at_call 77;refine (reflong_t _ _ rfl).mono ?_;rintro e w' ⟨rfl,rfl⟩) | (go_at_call 78;refine (refcut_any _ _ _).mono ?_;rintro e w' ⟨rfl,rfl⟩) | (go_at_call 79;refine (refsign_any _ _ _).mono ?_;rintro e w' ⟨rfl,rfl⟩))
    go_ret2
    refine ⟨retII (congrArg (fun x=>cutI x 64) ?_),rfl⟩
    rw [opI_3,if_pos HZ.out] <;> rfl
  · have z1:0 < cutI b 64:=by omega
    have HZ:=Lib.hid hz;clear hz
    go_enter Tryz.func45,Tryz.ntmps45
    go_wp2_with (first | (go_at_call 77;refine (reflong_t _ _ rfl).mono ?_;rintro e w' ⟨rfl,rfl⟩) | (go_at_call 78;refine (refcut_any _ _ _).mono ?_;rintro e w' ⟨rfl,rfl⟩) | (go_at_call 79;refine (refsign_any _ _ _).mono ?_;rintro e w' ⟨rfl,rfl⟩))
    go_ret2
    refine ⟨retII (congrArg (fun x=>cutI x 64) ?_),rfl⟩
    rw [opI_3,if_neg HZ.out] <;> rfl
set_option maxRecDepth 100000 in
set_option maxHeartbeats 1000000 in
theorem refdo_4_64 (a b:Int) (W:World) (ha0:0 ≤ a) (ha1:a < 18446744073709551616) (hb0:0 ≤ b) (hb1:b < 18446744073709551616):
    Calls Tryz.prog 45 #[.int .i8 4,.int .i8 64,.int .u64 a,.int .u64 b] W fun e w'=>e=.returned (.tuple #[.int .u64 (doI 4 64 a b),.int .i64 0]) ∧ W=w':=by
  obtain ⟨c0,c1⟩:=cutI_bd a 64 ha0 ha1
  obtain ⟨d0,d1⟩:=cutI_bd b 64 hb0 hb1
  have e1:=and_63 (cutI b 64) d0 d1
  have e2:0 ≤ cutI b 64 % 64:=by omega
  have e3:min (cutI b 64 % 64).toNat 64=(cutI b 64 % 64).toNat:=by omega
  go_enter Tryz.func45,Tryz.ntmps45
  go_wp2_with (first | (go_at_call 77;refine (reflong_t _ _ rfl).mono ?_;rintro e w' ⟨rfl,rfl⟩) | (go_at_call 78;refine (refcut_any _ _ _).mono ?_;rintro e w' ⟨rfl,rfl⟩) | (go_at_call 79;refine (refsign_any _ _ _).mono ?_;rintro e w' ⟨rfl,rfl⟩))
  go_ret2
  refine ⟨retII (congrArg (fun x=>cutI x 64) ?_),rfl⟩
  rw [u64_or _ _ c0 c1 d0 d1];rfl
set_option maxRecDepth 100000 in
set_option maxHeartbeats 1000000 in
theorem refdo_5_64 (a b:Int) (W:World) (ha0:0 ≤ a) (ha1:a < 18446744073709551616) (hb0:0 ≤ b) (hb1:b < 18446744073709551616):
    Calls Tryz.prog 45 #[.int .i8 5,.int .i8 64,.int .u64 a,.int .u64 b] W fun e w'=>e=.returned (.tuple #[.int .u64 (doI 5 64 a b),.int .i64 0]) ∧ W=w':=by
  obtain ⟨c0,c1⟩:=cutI_bd a 64 ha0 ha1
  obtain ⟨d0,d1⟩:=cutI_bd b 64 hb0 hb1
  have e1:=and_63 (cutI b 64) d0 d1
  have e2:0 ≤ cutI b 64 % 64:=by omega
  have e3:min (cutI b 64 % 64).toNat 64=(cutI b 64 % 64).toNat:=by omega
  go_enter Tryz.func45,Tryz.ntmps45
  go_wp2_with (first | (go_at_call 77;refine (reflong_t _ _ rfl).mono ?_;rintro e w' ⟨rfl,rfl⟩) | (go_at_call 78;refine (refcut_any _ _ _).mono ?_;rintro e w' ⟨rfl,rfl⟩) | (go_at_call 79;refine (refsign_any _ _ _).mono ?_;rintro e w' ⟨rfl,rfl⟩))
  go_ret2
  refine ⟨retII (congrArg (fun x=>cutI x 64) ?_),rfl⟩
  rw [u64_and _ _ c0 c1 d0 d1];rfl
set_option maxRecDepth 100000 in
set_option maxHeartbeats 1000000 in
theorem refdo_6_64 (a b:Int) (W:World) (ha0:0 ≤ a) (ha1:a < 18446744073709551616) (hb0:0 ≤ b) (hb1:b < 18446744073709551616):
    Calls Tryz.prog 45 #[.int .i8 6,.int .i8 64,.int .u64 a,.int .u64 b] W fun e w'=>e=.returned (.tuple #[.int .u64 (doI 6 64 a b),.int .i64 0]) ∧ W=w':=by
  obtain ⟨c0,c1⟩:=cutI_bd a 64 ha0 ha1
  obtain ⟨d0,d1⟩:=cutI_bd b 64 hb0 hb1
  have e1:=and_63 (cutI b 64) d0 d1
  have e2:0 ≤ cutI b 64 % 64:=by omega
  have e3:min (cutI b 64 % 64).toNat 64=(cutI b 64 % 64).toNat:=by omega
  go_enter Tryz.func45,Tryz.ntmps45
  go_wp2_with (first | (go_at_call 77;refine (reflong_t _ _ rfl).mono ?_;rintro e w' ⟨rfl,rfl⟩) | (go_at_call 78;refine (refcut_any _ _ _).mono ?_;rintro e w' ⟨rfl,rfl⟩) | (go_at_call 79;refine (refsign_any _ _ _).mono ?_;rintro e w' ⟨rfl,rfl⟩))
  go_ret2
  refine ⟨retII (congrArg (fun x=>cutI x 64) ?_),rfl⟩
  rw [IntKind.wrap_u64];rfl
set_option maxRecDepth 100000 in
set_option maxHeartbeats 1000000 in
theorem refdo_7_64 (a b:Int) (W:World) (ha0:0 ≤ a) (ha1:a < 18446744073709551616) (hb0:0 ≤ b) (hb1:b < 18446744073709551616):
    Calls Tryz.prog 45 #[.int .i8 7,.int .i8 64,.int .u64 a,.int .u64 b] W fun e w'=>e=.returned (.tuple #[.int .u64 (doI 7 64 a b),.int .i64 0]) ∧ W=w':=by
  obtain ⟨c0,c1⟩:=cutI_bd a 64 ha0 ha1
  obtain ⟨d0,d1⟩:=cutI_bd b 64 hb0 hb1
  have e1:=and_63 (cutI b 64) d0 d1
  have e2:0 ≤ cutI b 64 % 64:=by omega
  have e3:min (cutI b 64 % 64).toNat 64=(cutI b 64 % 64).toNat:=by omega
  go_enter Tryz.func45,Tryz.ntmps45
  go_wp2_with (first | (go_at_call 77;refine (reflong_t _ _ rfl).mono ?_;rintro e w' ⟨rfl,rfl⟩) | (go_at_call 78;refine (refcut_any _ _ _).mono ?_;rintro e w' ⟨rfl,rfl⟩) | (go_at_call 79;refine (refsign_any _ _ _).mono ?_;rintro e w' ⟨rfl,rfl⟩))
  go_ret2
  refine ⟨retII (congrArg (fun x=>cutI x 64) ?_),rfl⟩
  rfl
set_option maxRecDepth 100000 in
set_option maxHeartbeats 1000000 in
theorem refdo_8_64 (a b:Int) (W:World) (ha0:0 ≤ a) (ha1:a < 18446744073709551616) (hb0:0 ≤ b) (hb1:b < 18446744073709551616):
    Calls Tryz.prog 45 #[.int .i8 8,.int .i8 64,.int .u64 a,.int .u64 b] W fun e w'=>e=.returned (.tuple #[.int .u64 (doI 8 64 a b),.int .i64 0]) ∧ W=w':=by
  obtain ⟨c0,c1⟩:=cutI_bd a 64 ha0 ha1
  obtain ⟨d0,d1⟩:=cutI_bd b 64 hb0 hb1
  have e1:=and_63 (cutI b 64) d0 d1
  have e2:0 ≤ cutI b 64 % 64:=by omega
  have e3:min (cutI b 64 % 64).toNat 64=(cutI b 64 % 64).toNat:=by omega
  go_enter Tryz.func45,Tryz.ntmps45
  go_wp2_with (first | (go_at_call 77;refine (reflong_t _ _ rfl).mono ?_;rintro e w' ⟨rfl,rfl⟩) | (go_at_call 78;refine (refcut_any _ _ _).mono ?_;rintro e w' ⟨rfl,rfl⟩) | (go_at_call 79;refine (refsign_any _ _ _).mono ?_;rintro e w' ⟨rfl,rfl⟩))
  go_ret2
  refine ⟨retII (congrArg (fun x=>cutI x 64) ?_),rfl⟩
  rw [IntKind.wrap_u64];rfl
set_option maxRecDepth 100000 in
set_option maxHeartbeats 1000000 in
theorem refdo_9_64 (a b:Int) (W:World) (ha0:0 ≤ a) (ha1:a < 18446744073709551616) (hb0:0 ≤ b) (hb1:b < 18446744073709551616):
    Calls Tryz.prog 45 #[.int .i8 9,.int .i8 64,.int .u64 a,.int .u64 b] W fun e w'=>e=.returned (.tuple #[.int .u64 (doI 9 64 a b),.int .i64 0]) ∧ W=w':=by
  obtain ⟨c0,c1⟩:=cutI_bd a 64 ha0 ha1
  obtain ⟨d0,d1⟩:=cutI_bd b 64 hb0 hb1
  have e1:=and_63 (cutI b 64) d0 d1
  have e2:0 ≤ cutI b 64 % 64:=by omega
  have e3:min (cutI b 64 % 64).toNat 64=(cutI b 64 % 64).toNat:=by omega
  by_cases hz:cutI b 64=0
  · have z1:decide (0 < cutI b 64)=false:=decide_eq_false (by omega)
    have HZ:=Lib.hid hz;clear hz
    go_enter Tryz.func45,Tryz.ntmps45
    go_wp2_with (first | (go_at_call 77;refine (reflong_t _ _ rfl).mono ?_;rintro e w' ⟨rfl,rfl⟩) | (go_at_call 78;refine (refcut_any _ _ _).mono ?_;rintro e w' ⟨rfl,rfl⟩) | (go_at_call 79;refine (refsign_any _ _ _).mono ?_;rintro e w' ⟨rfl,rfl⟩))
    go_ret2
    refine ⟨retII (congrArg (fun x=>cutI x 64) ?_),rfl⟩
    rw [opI_9,if_pos HZ.out] <;> rfl
  · have z1:0 < cutI b 64:=by omega
    have HZ:=Lib.hid hz;clear hz
    go_enter Tryz.func45,Tryz.ntmps45
    go_wp2_with (first | (go_at_call 77;refine (reflong_t _ _ rfl).mono ?_;rintro e w' ⟨rfl,rfl⟩) | (go_at_call 78;refine (refcut_any _ _ _).mono ?_;rintro e w' ⟨rfl,rfl⟩) | (go_at_call 79;refine (refsign_any _ _ _).mono ?_;rintro e w' ⟨rfl,rfl⟩))
    go_ret2
    refine ⟨retII (congrArg (fun x=>cutI x 64) ?_),rfl⟩
    rw [opI_9,if_neg HZ.out] <;> rfl
set_option maxRecDepth 100000 in
set_option maxHeartbeats 1000000 in
theorem refdo_10_64 (a b:Int) (W:World) (ha0:0 ≤ a) (ha1:a < 18446744073709551616) (hb0:0 ≤ b) (hb1:b < 18446744073709551616):
    Calls Tryz.prog 45 #[.int .i8 10,.int .i8 64,.int .u64 a,.int .u64 b] W fun e w'=>e=.returned (.tuple #[.int .u64 (doI 10 64 a b),.int .i64 0]) ∧ W=w':=by
  obtain ⟨c0,c1⟩:=cutI_bd a 64 ha0 ha1
  obtain ⟨d0,d1⟩:=cutI_bd b 64 hb0 hb1
  have e1:=and_63 (cutI b 64) d0 d1
  have e2:0 ≤ cutI b 64 % 64:=by omega
  have e3:min (cutI b 64 % 64).toNat 64=(cutI b 64 % 64).toNat:=by omega
  go_enter Tryz.func45,Tryz.ntmps45
  go_wp2_with (first | (go_at_call 77;refine (reflong_t _ _ rfl).mono ?_;rintro e w' ⟨rfl,rfl⟩) | (go_at_call 78;refine (refcut_any _ _ _).mono ?_;rintro e w' ⟨rfl,rfl⟩) | (go_at_call 79;refine (refsign_any _ _ _).mono ?_;rintro e w' ⟨rfl,rfl⟩))
  go_ret2
  refine ⟨retII (congrArg (fun x=>cutI x 64) ?_),rfl⟩
  rw [u64_xor _ _ c0 c1 d0 d1];rfl
set_option maxRecDepth 100000 in
set_option maxHeartbeats 1000000 in
theorem refdo_11_64 (a b:Int) (W:World) (ha0:0 ≤ a) (ha1:a < 18446744073709551616) (hb0:0 ≤ b) (hb1:b < 18446744073709551616):
    Calls Tryz.prog 45 #[.int .i8 11,.int .i8 64,.int .u64 a,.int .u64 b] W fun e w'=>e=.returned (.tuple #[.int .u64 (doI 11 64 a b),.int .i64 0]) ∧ W=w':=by
  obtain ⟨c0,c1⟩:=cutI_bd a 64 ha0 ha1
  obtain ⟨d0,d1⟩:=cutI_bd b 64 hb0 hb1
  have e1:=and_63 (cutI b 64) d0 d1
  have e2:0 ≤ cutI b 64 % 64:=by omega
  have e3:min (cutI b 64 % 64).toNat 64=(cutI b 64 % 64).toNat:=by omega
  go_enter Tryz.func45,Tryz.ntmps45
  go_wp2_with (first | (go_at_call 77;refine (reflong_t _ _ rfl).mono ?_;rintro e w' ⟨rfl,rfl⟩) | (go_at_call 78;refine (refcut_any _ _ _).mono ?_;rintro e w' ⟨rfl,rfl⟩) | (go_at_call 79;refine (refsign_any _ _ _).mono ?_;rintro e w' ⟨rfl,rfl⟩))
  go_ret2
  refine ⟨retII (congrArg (fun x=>cutI x 64) ?_),rfl⟩
  rfl
set_option maxRecDepth 100000 in
set_option maxHeartbeats 1000000 in
theorem refdo_12_64 (a b:Int) (W:World) (ha0:0 ≤ a) (ha1:a < 18446744073709551616) (hb0:0 ≤ b) (hb1:b < 18446744073709551616):
    Calls Tryz.prog 45 #[.int .i8 12,.int .i8 64,.int .u64 a,.int .u64 b] W fun e w'=>e=.returned (.tuple #[.int .u64 (doI 12 64 a b),.int .i64 0]) ∧ W=w':=by
  obtain ⟨c0,c1⟩:=cutI_bd a 64 ha0 ha1
  obtain ⟨d0,d1⟩:=cutI_bd b 64 hb0 hb1
  have e1:=and_63 (cutI b 64) d0 d1
  have e2:0 ≤ cutI b 64 % 64:=by omega
  have e3:min (cutI b 64 % 64).toNat 64=(cutI b 64 % 64).toNat:=by omega
  go_enter Tryz.func45,Tryz.ntmps45
  go_wp2_with (first | (go_at_call 77;refine (reflong_t _ _ rfl).mono ?_;rintro e w' ⟨rfl,rfl⟩) | (go_at_call 78;refine (refcut_any _ _ _).mono ?_;rintro e w' ⟨rfl,rfl⟩) | (go_at_call 79;refine (refsign_any _ _ _).mono ?_;rintro e w' ⟨rfl,rfl⟩))
  go_ret2
  refine ⟨retII (congrArg (fun x=>cutI x 64) ?_),rfl⟩
  rw [IntKind.wrap_u64,show wrap64 (signI (cutI a 64) 64)=sgnI (cutI a 64) 64 from (IntWalk.i64_left _).symm.trans (wrap64_sign64 _)];rfl
end Go.Proofs.YtigliofiojkhcaaGreat
namespace Go.Proofs.YtigliofiojkhcaaGreat
open Go.RowKit
set_option linter.unusedVariables false
theorem refdo_in (op w a b:Int) (W:World) (h0:0 ≤ op) (h12:op ≤ 12) (hl:longB w=true) (ha0:0 ≤ a) (ha1:a < 18446744073709551616) (hb0:0 ≤ b) (hb1:b < 18446744073709551616):
    Calls Tryz.prog 45 #[.int .i8 op,.int .i8 w,.int .u64 a,.int .u64 b] W fun e w'=>e=.returned (.tuple #[.int .u64 (doI op w a b),.int .i64 0]) ∧ W=w':=by
  have hc:op=0 ∨ op=1 ∨ op=2 ∨ op=3 ∨ op=4 ∨ op=5 ∨ op=6 ∨ op=7 ∨ op=8 ∨ op=9 ∨ op=10 ∨ op=11 ∨ op=12:=by omega
  rcases longB_cases hl with rfl | rfl
  · rcases hc with rfl | rfl | rfl | rfl | rfl | rfl | rfl | rfl | rfl | rfl | rfl | rfl | rfl
    · exact refdo_0_32 a b W ha0 ha1 hb0 hb1
    · exact refdo_1_32 a b W ha0 ha1 hb0 hb1
    · exact refdo_2_32 a b W ha0 ha1 hb0 hb1
    · exact refdo_3_32 a b W ha0 ha1 hb0 hb1
    · exact refdo_4_32 a b W ha0 ha1 hb0 hb1
    · exact refdo_5_32 a b W ha0 ha1 hb0 hb1
    · exact refdo_6_32 a b W ha0 ha1 hb0 hb1
    · exact refdo_7_32 a b W ha0 ha1 hb0 hb1
    · exact refdo_8_32 a b W ha0 ha1 hb0 hb1
    · exact refdo_9_32 a b W ha0 ha1 hb0 hb1
    · exact refdo_10_32 a b W ha0 ha1 hb0 hb1
    · exact refdo_11_32 a b W ha0 ha1 hb0 hb1
    · exact refdo_12_32 a b W ha0 ha1 hb0 hb1
  · rcases hc with rfl | rfl | rfl | rfl | rfl | rfl | rfl | rfl | rfl | rfl | rfl | rfl | rfl
    · exact refdo_0_64 a b W ha0 ha1 hb0 hb1
    · exact refdo_1_64 a b W ha0 ha1 hb0 hb1
    · exact refdo_2_64 a b W ha0 ha1 hb0 hb1
    · exact refdo_3_64 a b W ha0 ha1 hb0 hb1
    · exact refdo_4_64 a b W ha0 ha1 hb0 hb1
    · exact refdo_5_64 a b W ha0 ha1 hb0 hb1
    · exact refdo_6_64 a b W ha0 ha1 hb0 hb1
    · exact refdo_7_64 a b W ha0 ha1 hb0 hb1
    · exact refdo_8_64 a b W ha0 ha1 hb0 hb1
    · exact refdo_9_64 a b W ha0 ha1 hb0 hb1
    · exact refdo_10_64 a b W ha0 ha1 hb0 hb1
    · exact refdo_11_64 a b W ha0 ha1 hb0 hb1
    · exact refdo_12_64 a b W ha0 ha1 hb0 hb1
set_option maxRecDepth 100000 in
set_option maxHeartbeats 1000000 in
theorem refdo_any (op w a b:Int) (W:World) (ha0:0 ≤ a) (ha1:a < 18446744073709551616) (hb0:0 ≤ b) (hb1:b < 18446744073709551616):
    Calls Tryz.prog 45 #[.int .i8 op,.int .i8 w,.int .u64 a,.int .u64 b] W fun e w'=>e=.returned (.tuple #[.int .u64 (doI op w a b),.int .i64 (doE op w)]) ∧ W=w':=by
  by_cases h1:op < 0
  · rw [show doI op w a b=0 from if_neg (by omega),show doE op w=2 from if_neg (by omega)]
    go_enter Tryz.func45,Tryz.ntmps45
    go_wp2
    go_ret2
    exact ⟨rfl,rfl⟩
  by_cases h2:12 < op
  · rw [show doI op w a b=0 from if_neg (by omega),show doE op w=2 from if_neg (by omega)]
    go_enter Tryz.func45,Tryz.ntmps45
    go_wp2
    go_ret2
    exact ⟨rfl,rfl⟩
  cases hl:longB w
  · rw [show doI op w a b=0 from if_neg (by simp [hl]),show doE op w=2 from if_neg (by simp [hl])]
    have HL:=Lib.hid hl;clear hl
    go_enter Tryz.func45,Tryz.ntmps45
    go_wp2_with (go_at_call 77;refine (reflong_f _ _ HL.out).mono ?_;rintro e w' ⟨rfl,rfl⟩)
    go_ret2
    exact ⟨rfl,rfl⟩
  · have h:=refdo_in op w a b W (by omega) (by omega) hl ha0 ha1 hb0 hb1
    rw [show doE op w=0 from if_pos ⟨by omega,by omega,hl⟩]
    exact h
theorem retBI {l:IntKind} {a b:Bool} {c:Int} (h:a=b):Ending.returned (.tuple #[.bool a,.int l c])=.returned (.tuple #[.bool b,.int l c]):=by rw [h]
set_option maxRecDepth 100000 in
set_option maxHeartbeats 4000000 in
theorem refholds_in (cc w a b:Int) (W:World) (h0:0 ≤ cc) (h10:cc ≤ 10) (hl:longB w=true) (ha0:0 ≤ a) (ha1:a < 18446744073709551616) (hb0:0 ≤ b) (hb1:b < 18446744073709551616):
    Calls Tryz.prog 51 #[.int .i8 cc,.int .i8 w,.int .u64 a,.int .u64 b] W fun e w'=>e=.returned (.tuple #[.bool (ccB cc w (cutI a w) (cutI b w)),.int .i64 0]) ∧ W=w':=by
  obtain ⟨c0,c1⟩:=cutI_bd a w ha0 ha1
  obtain ⟨d0,d1⟩:=cutI_bd b w hb0 hb1
  have sa:wrap64 (signI (cutI a w) w)=sgnI (cutI a w) w:=by
    rcases longB_cases hl with rfl | rfl
    · exact (IntWalk.i64_left _).symm.trans (wrap64_sign32 _)
    · exact (IntWalk.i64_left _).symm.trans (wrap64_sign64 _)
  have sb:wrap64 (signI (cutI b w) w)=sgnI (cutI b w) w:=by
    rcases longB_cases hl with rfl | rfl
    · exact (IntWalk.i64_left _).symm.trans (wrap64_sign32 _)
    · exact (IntWalk.i64_left _).symm.trans (wrap64_sign64 _)
  have hc:cc=0 ∨ cc=1 ∨ cc=2 ∨ cc=3 ∨ cc=4 ∨ cc=5 ∨ cc=6 ∨ cc=7 ∨ cc=8 ∨ cc=9 ∨ cc=10:=by omega
  clear h0 h10
  have HL:=Lib.hid hl;clear hl
  rcases hc with rfl | rfl | rfl | rfl | rfl | rfl | rfl | rfl | rfl | rfl | rfl
  all_goals
    go_enter Tryz.func51,Tryz.ntmps51
    go_wp2_with (first | (go_at_call 77;refine (reflong_t _ _ HL.out).mono ?_;rintro e w' ⟨rfl,rfl⟩) | (go_at_call 78;refine (refcut_any _ _ _).mono ?_;rintro e w' ⟨rfl,rfl⟩) | (go_at_call 79;refine (refsign_any _ _ _).mono ?_;rintro e w' ⟨rfl,rfl⟩))
    go_ret2
    refine ⟨retBI ?_,rfl⟩
    first | rfl | (rw [u64_and _ _ c0 c1 d0 d1];rfl)
set_option maxRecDepth 100000 in
set_option maxHeartbeats 1000000 in
theorem refholds_any (cc w a b:Int) (W:World) (ha0:0 ≤ a) (ha1:a < 18446744073709551616) (hb0:0 ≤ b) (hb1:b < 18446744073709551616):
    Calls Tryz.prog 51 #[.int .i8 cc,.int .i8 w,.int .u64 a,.int .u64 b] W fun e w'=>e=.returned (.tuple #[.bool (holdsB cc w a b),.int .i64 (holdsE cc w)]) ∧ W=w':=by
  by_cases h1:cc < 0
  · rw [show holdsB cc w a b=false from if_neg (by omega),show holdsE cc w=2 from if_neg (by omega)]
    go_enter Tryz.func51,Tryz.ntmps51
    go_wp2
    go_ret2
    exact ⟨rfl,rfl⟩
  by_cases h2:10 < cc
  · rw [show holdsB cc w a b=false from if_neg (by omega),show holdsE cc w=2 from if_neg (by omega)]
    go_enter Tryz.func51,Tryz.ntmps51
    go_wp2
    go_ret2
    exact ⟨rfl,rfl⟩
  cases hl:longB w
  · rw [show holdsB cc w a b=false from if_neg (by simp [hl]),show holdsE cc w=2 from if_neg (by simp [hl])]
    have HL:=Lib.hid hl;clear hl
    go_enter Tryz.func51,Tryz.ntmps51
    go_wp2_with (go_at_call 77;refine (reflong_f _ _ HL.out).mono ?_;rintro e w' ⟨rfl,rfl⟩)
    go_ret2
    exact ⟨rfl,rfl⟩
  · have h:=refholds_in cc w a b W (by omega) (by omega) hl ha0 ha1 hb0 hb1
    rw [show holdsB cc w a b=ccB cc w (cutI a w) (cutI b w) from if_pos ⟨by omega,by omega,hl⟩,show holdsE cc w=0 from if_pos ⟨by omega,by omega,hl⟩]
    exact h
end Go.Proofs.YtigliofiojkhcaaGreat
namespace Go.Proofs.YtigliofiojkhcaaGreat.Mdl
open Go.RowKit Go.Maps Ins Trc
set_option linter.unusedVariables false
set_option linter.unusedSimpArgs false
set_option maxRecDepth 100000
theorem refAt_trn {M:Rm.RefM} {w w':World} {r β:Nat} {G:List Nat} (h:Rm.RefAt M w r β) (t:Trn G w w') (hr:r ∉ G) (hG:∀ j ∈ G,∃ c ty fr,w.heap[j]?=some (.cells c ty fr) ∧ ty ≠ 5):Rm.RefAt M w' r β:=by
  have cc:∀ {i:Nat} {x:Value},w.cell? ⟨r,i,none⟩=some x → w'.cell? ⟨r,i,none⟩=some x:=fun hx=>(Rm.cell_of_block (t.block r (lt_of_cell hx) hr)).trans hx
  have rr:∀ {R:Rm.Rw},R.at w β → R.at w' β:=fun hR=>⟨own_trn hR.own t (fun j hj hm=>by
    obtain ⟨c,ty,fr,h1,h2⟩:=hG j hm
    exact own_ne hR.own h1 (Ne.symm h2) j hj rfl),hR.bytes,hR.le⟩
  exact ⟨cc h.c0,cc h.c1,cc h.c2,cc h.c3,rr h.k,rr h.x,rr h.fr,rr h.s⟩
theorem byteAt_word {S:MemS} {kf:Nat → Int} {M:Rm.RefM} {w:World} {r β:Nat} (h:Rm.RefAt M w r β) (q:Rm.Rel S kf M) (h1:S.cn ≤ 16384) (h2:S.n ≤ 256) (a m:Int) (hm:1 ≤ m) (hl:¬ locI S.cn S.n S.hs a m=0) (i:Nat) (hi:(i:Int) < m):0 ≤ byteAt S kf (a + i) ∧ byteAt S kf (a + i) < 256:=by
  have c:=locI_cases (cn:=S.cn) (n:=S.n) (hs:=S.hs) (a:=a) (m:=m) hm
  have kl:=q.kl;have xl:=q.xl;have fl:=q.fl;have sl:=q.sl
  have sb:=stkI_bd S.hs
  unfold byteAt plc
  rcases c with c | ⟨_,c1,c2⟩ | ⟨_,c1,c2⟩ | ⟨_,c1,c2⟩ | ⟨c0,c1,c2⟩
  · exact absurd c hl
  · rw [if_pos (by omega),← q.kv _ (by omega)]
    exact h.k.bytes _ (by omega)
  · rw [if_neg (by omega),if_pos (by omega)]
    obtain ⟨j,hj⟩:∃ j:Nat,a + i - 2097152=j:=⟨(a + i - 2097152).toNat,by omega⟩
    rw [hj,show (1 + (j:Int)).toNat=1 + j by omega,← q.xv j (by omega)]
    exact h.x.bytes _ (by omega)
  · rw [if_neg (by omega),if_neg (by omega),if_pos (by omega)]
    obtain ⟨j,hj⟩:∃ j:Nat,a + i - 3145728=j:=⟨(a + i - 3145728).toNat,by omega⟩
    rw [hj,show (258 + (j:Int)).toNat=258 + j by omega,← q.fv j (by omega)]
    exact h.fr.bytes _ (by omega)
  · have c3:a + m ≤ 4194304 + stkI S.hs:=by
      have:locI S.cn S.n S.hs a m=4:=c0
      unfold locI at this
      split at this
      · cases this
      split at this
      · cases this
      split at this
      · cases this
      split at this
      · rename_i h4;exact h4.2
      · cases this
    rw [if_neg (by omega),if_neg (by omega),if_neg (by omega)]
    obtain ⟨j,hj⟩:∃ j:Nat,a + i - 4194304=j:=⟨(a + i - 4194304).toNat,by omega⟩
    rw [hj,show (322 + (j:Int)).toNat=322 + j by omega,← q.sv j (by omega)]
    exact h.s.bytes _ (by omega)
theorem readV_word {S:MemS} {kf:Nat → Int} {M:Rm.RefM} {w:World} {r β:Nat} (h:Rm.RefAt M w r β) (q:Rm.Rel S kf M) (h1:S.cn ≤ 16384) (h2:S.n ≤ 256) (a:Int) {m:Nat} (hm:szB m=true):0 ≤ readV S kf a m ∧ readV S kf a m < 18446744073709551616:=by
  unfold readV
  by_cases hl:locI S.cn S.n S.hs a m=0
  · rw [if_pos hl];exact ⟨by decide,by decide⟩
  · rw [if_neg hl]
    have hm8:=szB_le hm
    have hm1:=szB_pos hm
    have hb:=getI_bd (fun i=>byteAt S kf (a + i)) m (fun i hi=>byteAt_word h q h1 h2 a m hm1 hl i (by omega))
    have hp:(2:Int) ^ (8 * m) ≤ 2 ^ 64:=by
      have:(2:Nat) ^ (8 * m) ≤ 2 ^ 64:=Nat.pow_le_pow_right (by omega) (by omega)
      exact_mod_cast this
    exact ⟨hb.1,Int.lt_of_lt_of_le hb.2 hp⟩
def md6 (E:Env) (r:Nat) (D:Pl) (ctx:Int) (av tv:Value):Md:=⟨ctx,.slice (some ⟨E.pa,E.po,none⟩) E.pl E.pc,.pointer (some ⟨r,0,none⟩),D.r,D.set,fun i=>D.mem.g (258 + i),D.at_,av,tv⟩
def Ans6 (β:Nat) (w:World) (av:Value) (zs:List Int):Prop:=(∀ z ∈ zs,0 ≤ z ∧ z < 18446744073709551616) ∧ ∃ aa ca,av=.slice aa zs.length ca ∧ zs.length ≤ ca ∧
  (zs ≠ [] → ∃ ab ao:Nat,aa=some ⟨ab,ao,none⟩ ∧ ab < β ∧ ∀ j z,zs[j]?=some z → w.cell? ⟨ab,ao + j,none⟩=some (.int .u64 z))
def Prg6 (β:Nat) (E:Env) (w:World):Prop:=E.pa < β ∧ ∀ i,i < E.pl → w.rangeAt E.pa (E.po + i * 9) (E.x i).cells.toList
theorem cell_trn {w w':World} {G:List Nat} {k i:Nat} {v:Value} (t:Trn G w w') (hk:k ∉ G) (h:w.cell? ⟨k,i,none⟩=some v):w'.cell? ⟨k,i,none⟩=some v:=(Rm.cell_of_block (t.block k (lt_of_cell h) hk)).trans h
theorem Ans6.trn {β:Nat} {w w':World} {G:List Nat} {av:Value} {zs:List Int} (h:Ans6 β w av zs) (t:Trn G w w') (hG:∀ j ∈ G,β ≤ j):Ans6 β w' av zs:=by
  obtain ⟨h0,aa,ca,h1,h2,h3⟩:=h
  refine ⟨h0,aa,ca,h1,h2,fun hz=>?_⟩
  obtain ⟨ab,ao,e1,e2,e3⟩:=h3 hz
  exact ⟨ab,ao,e1,e2,fun j z hj=>cell_trn t (fun hm=>by have:=hG ab hm;omega) (e3 j z hj)⟩
theorem Prg6.trn {β:Nat} {E:Env} {w w':World} {G:List Nat} (h:Prg6 β E w) (t:Trn G w w') (hG:∀ j ∈ G,β ≤ j):Prg6 β E w':=
  ⟨h.1,fun i hi j v hv=>cell_trn t (fun hm=>by have:=hG _ hm;have:=h.1;omega) (h.2 i hi j v hv)⟩
theorem load_mid6 {b o:Nat} (x:In) {w:World} (h:w.rangeAt b o x.cells.toList):(loadVar 52 ⟨b,o,none⟩).run Tryz.prog w=.ok (.agg x.cells) w:=
  run_loadVar_mid w b o 52 x.cells.toList _ h Tryz.underlying52 rfl info_ins
theorem ex_ldw6 {P:Program} {ρ:Operand → Value} {o:Oper} {w:World} {t:TypeId} {x:Operand} {p:Addr} {v:Value} (ho:o.op=.load t x) (hx:ρ x=.pointer (some p)) (hl:(loadVar t p).run P w=.ok v w):(execOp ρ o).run P w=.ok (.value v) w:=by
  simp [execOp,ho,hx,Instr.loadAt,Instr.sureAddr,hl,Result.andThen_ok]
structure R6 (E:Env) (g r β:Nat) (D:Pl) (w:World):Prop where
  st:∃ (ctx:Int) (av tv:Value),(md6 E r D ctx av tv).in_ w g ∧ Ans6 β w av D.ans ∧ TrR β w tv D.evs ∧ (∀ j,tv.ownBlock=some j → j ≠ r)
  pr:Prg6 β E w
  mm:∃ M,Rm.RefAt M w r β ∧ Rm.Sep M ∧ Rm.Rel D.mem E.kf M
  words:Words D
  cn:D.mem.cn ≤ 16384
  n:D.mem.n ≤ 256
  ne:g ≠ r
  far:β ≤ g ∧ β ≤ w.heap.size
def τ6 (t:TypeId):Bool:=t == 65 || t == 5 || t == 103
section
variable {E:Env} {g r β:Nat} {D D':Pl} {W w w':World} {ctx:Int} {av tv:Value}
theorem R6.like (R:R6 E g r β D w) (e1:D'.r=D.r) (e2:D'.set=D.set) (e3:D'.at_=D.at_) (e4:D'.ans=D.ans) (e5:D'.evs=D.evs) (e6:D'.mem=D.mem):R6 E g r β D' w:=by
  obtain ⟨ctx,av,tv,h1,h2,h3,h4⟩:=R.st
  refine ⟨⟨ctx,av,tv,?_,by rw [e4];exact h2,by rw [e5];exact h3,h4⟩,R.pr,by rw [e6];exact R.mm,by unfold Words;rw [e1];exact R.words,by rw [e6];exact R.cn,by rw [e6];exact R.n,R.ne,R.far⟩
  unfold md6 at h1 ⊢
  rw [e1,e2,e3,e6];exact h1
theorem R6.turnG (R:R6 E g r β D W) (hin:(md6 E r D ctx av tv).in_ W g) (hA:Ans6 β W av D.ans) (hT:TrR β W tv D.evs) (hn:∀ j,tv.ownBlock=some j → j ≠ r) (hin':(md6 E r D' ctx av tv).in_ w' g) (t:Trn [g] W w') (ha:D'.ans=D.ans) (he:D'.evs=D.evs) (hm:D'.mem=D.mem) (hw:Words D'):R6 E g r β D' w' ∧ TurnT τ6 β W w':=by
  have hg:∀ j ∈ [g],∃ c ty fr,W.heap[j]?=some (.cells c ty fr) ∧ ty=65:=fun j hj=>by
    rw [List.mem_singleton] at hj;subst hj
    exact ⟨_,_,_,hin,rfl⟩
  have hx:∀ (T:TypeId),65 ≠ T → ∀ j ∈ [g],∃ c ty fr,W.heap[j]?=some (.cells c ty fr) ∧ ty ≠ T:=fun T n j hj=>by
    obtain ⟨c,ty,fr,h1,rfl⟩:=hg j hj
    exact ⟨c,_,fr,h1,n⟩
  have hxy:∀ (T U:TypeId),65 ≠ T → 65 ≠ U → ∀ j ∈ [g],∃ c ty fr,W.heap[j]?=some (.cells c ty fr) ∧ ty ≠ T ∧ ty ≠ U:=fun T U n m j hj=>by
    obtain ⟨c,ty,fr,h1,rfl⟩:=hg j hj
    exact ⟨c,_,fr,h1,n,m⟩
  have hβ:∀ j ∈ [g],β ≤ j:=fun j hj=>by
    rw [List.mem_singleton] at hj;subst hj
    exact R.far.1
  obtain ⟨M,m1,m2,m3⟩:=R.mm
  refine ⟨⟨⟨ctx,av,tv,hin',by rw [ha];exact hA.trn t hβ,by rw [he];exact hT.trn t (hxy _ _ (by decide) (by decide)),hn⟩,R.pr.trn t hβ,⟨M,refAt_trn m1 t (by simpa using Ne.symm R.ne) (hx _ (by decide)),m2,by rw [hm];exact m3⟩,hw,by rw [hm];exact R.cn,by rw [hm];exact R.n,R.ne,R.far.1,Nat.le_trans R.far.2 t.size⟩,turn_of t (fun j hj=>?_)⟩
  obtain ⟨c,ty,fr,h1,rfl⟩:=hg j hj
  rw [List.mem_singleton] at hj;subst hj
  exact ⟨R.far.1,c,_,fr,h1,by decide⟩
theorem R6.still (R:R6 E g r β D W) (b:Below W.heap.size W w'):R6 E g r β D w' ∧ TurnT τ6 β W w':=by
  obtain ⟨ctx,av,tv,hin,hA,hT,hn⟩:=R.st
  exact R.turnG hin hA hT hn (Md.below hin b) (Trn.of_below b) rfl rfl rfl R.words
end
def SB (ka kc da:Nat) (w0:World) (z new:Array Value) (T:TypeId) (fl:Nat → Bool) (u:Nat → Value) (w:World):Prop:=
  Below w0.heap.size w0 w ∧ (fl ka=true → ∃ gx,u da=.pointer (some ⟨gx,0,none⟩) ∧ w0.heap.size ≤ gx ∧
    ((fl kc=false ∧ w.heap[gx]?=some (.cells z T (0,0))) ∨ (fl kc=true ∧ w.heap[gx]?=some (.cells new T (0,0)))))
section
variable {ka kc da:Nat} {w0 w w':World} {z new:Array Value} {T:TypeId} {fl:Nat → Bool} {u u':Nat → Value}
theorem SB.loc:Loc [ka,kc] [da] (SB ka kc da w0 z new T):=by
  intro fl fl' u u' w hK hD h
  unfold SB at *
  simp only [hK ka (by simp),hK kc (by simp),hD da (by simp)]
  exact h
theorem SB.start (b:Below w0.heap.size w0 w) (h:fl ka=false):SB ka kc da w0 z new T fl u w:=⟨b,fun e=>absurd (h.symm.trans e) (by decide)⟩
theorem SB.alloc (h:SB ka kc da w0 z new T fl u w) (fc:fl kc=false) (hac:ka ≠ kc) (e:u' da=.pointer (some ⟨w.heap.size,0,none⟩)):SB ka kc da w0 z new T (upd fl ka) u' (w.alloc (.cells z T)):=
  ⟨below_new h.1 _,fun _=>⟨w.heap.size,e,h.1.size,.inl ⟨by unfold upd;rw [if_neg (Ne.symm hac)];exact fc,heap_last w _ _ rfl⟩⟩⟩
theorem SB.at_ (h:SB ka kc da w0 z new T fl u w) (fa:fl ka=true) (fc:fl kc=false):∃ gx,u da=.pointer (some ⟨gx,0,none⟩) ∧ w0.heap.size ≤ gx ∧ w.heap[gx]?=some (.cells z T (0,0)):=by
  obtain ⟨gx,e1,e2,e3⟩:=h.2 fa
  rcases e3 with ⟨_,e3⟩ | ⟨e,_⟩
  · exact ⟨gx,e1,e2,e3⟩
  · rw [fc] at e;cases e
theorem SB.store (h:SB ka kc da w0 z new T fl u w) (fa:fl ka=true) (hac:ka ≠ kc) {gx:Nat} (e:u da=.pointer (some ⟨gx,0,none⟩)) (st:Stored w gx new T w'):SB ka kc da w0 z new T (upd fl kc) u w':=by
  obtain ⟨g2,e1,e2,_⟩:=h.2 fa
  rw [e] at e1
  obtain rfl:gx=g2:=by simpa using e1
  exact ⟨st.below h.1 e2,fun _=>⟨gx,e,e2,.inr ⟨upd_new _ _,st.row⟩⟩⟩
theorem SB.fin (h:SB ka kc da w0 z new T fl u w) (fa:fl ka=true) (fc:fl kc=true):Below w0.heap.size w0 w ∧ ∃ gx,u da=.pointer (some ⟨gx,0,none⟩) ∧ w0.heap.size ≤ gx ∧ w.heap[gx]?=some (.cells new T (0,0)):=by
  obtain ⟨gx,e1,e2,e3⟩:=h.2 fa
  rcases e3 with ⟨e,_⟩ | ⟨_,e3⟩
  · rw [fc] at e;cases e
  · exact ⟨h.1,gx,e1,e2,e3⟩
end
end Go.Proofs.YtigliofiojkhcaaGreat.Mdl
