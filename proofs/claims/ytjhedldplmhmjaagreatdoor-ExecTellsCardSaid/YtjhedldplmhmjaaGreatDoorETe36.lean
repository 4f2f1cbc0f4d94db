import Derived.Test.YtjhedldplmhmjaaGreatDoorETe35
import Derived.Test.YtjhedldplmhmjaaGreatDoorETe03
set_option maxHeartbeats 2000000
set_option linter.unusedVariables false
set_option linter.unusedSimpArgs false
set_option linter.unnecessarySimpa false
namespace Go.Proofs.YtjhedldplmhmjaaGreatDoor.Mrm
open Go Go.RowKit
set_option maxRecDepth 100000
theorem elen_n (x:Xi)(W:World)(hw:-128≤x.w∧x.w<128):Calls Tryz.prog 23 #[.agg (xC x)] W fun e w'=>e=.returned (.int .i64 (bif mayX x then ((bytesX x).length:Int) else 0))∧Below W.heap.size W w':=by
 have BY:=Lib.hid (fun W=>ebytes_n x W hw)
 have HL:((bif mayX x then bytesX x else []).length:Int)=(bif mayX x then ((bytesX x).length:Int) else 0):=by cases mayX x <;> rfl
 rw [← HL]
 generalize (bif mayX x then bytesX x else [])=l at *
 generalize (bif mayX x then (0:Int) else 2)=c at *
 clear HL hw
 go_enter Tryz.func23,Tryz.ntmps23
 go_wp2_with fail
 refine (BY.out _).mono ?_
 rintro e w1 ⟨v,rfl,o1,b1⟩
 have B1:=Lib.hid b1
 have O1:=Lib.hid o1
 clear b1 o1
 obtain ⟨p,c2,rfl⟩:∃ p c2,v=.slice p l.length c2:=by
  have h:=O1.out.2
  rcases h with ⟨h1,h2⟩ | ⟨g,cap,cur,e1,h⟩
  ·obtain rfl:l=[]:=List.eq_nil_of_length_eq_zero h2
   exact ⟨none,0,h1⟩
  ·exact ⟨_,_,e1⟩
 go_wp2_with fail
 go_ret
 exact ⟨rfl,below_boxed B1.out⟩
end Go.Proofs.YtjhedldplmhmjaaGreatDoor.Mrm
namespace Go.Proofs.YtjhedldplmhmjaaGreatDoor
open Go.RowKit
set_option maxRecDepth 100000 in
theorem refdo_0_32 (a b:Int)(W:World)(ha0:0≤a)(ha1:a<18446744073709551616)(hb0:0≤b)(hb1:b<18446744073709551616):
  Calls Tryz.prog 26 #[.int .i8 0,.int .i8 32,.int .u64 a,.int .u64 b] W fun e w'=>e=.returned (.tuple #[.int .u64 (doI 0 32 a b),.int .i64 0])∧W=w':=by
 obtain ⟨c0,c1⟩:=cutI_bd a 32 ha0 ha1
 obtain ⟨d0,d1⟩:=cutI_bd b 32 hb0 hb1
 have e1:=and_31 (cutI b 32) d0 d1
 have e2:0≤cutI b 32 % 32:=by omega
 have e3:min (cutI b 32 % 32).toNat 64=(cutI b 32 % 32).toNat:=by omega
 go_enter Tryz.func26,Tryz.ntmps26
 go_wp2_with (first | (go_at_call 68;refine (reflong_t _ _ rfl).mono ?_;rintro e w' ⟨rfl,rfl⟩) | (go_at_call 28;refine (refcut_any _ _ _).mono ?_;rintro e w' ⟨rfl,rfl⟩) | (go_at_call 69;refine (refsign_any _ _ _).mono ?_;rintro e w' ⟨rfl,rfl⟩))
 go_ret2
 refine ⟨retII (congrArg (fun x=>cutI x 32) ?_),rfl⟩
 rw [IntKind.wrap_u64];rfl
set_option maxRecDepth 100000 in
theorem refdo_1_32 (a b:Int)(W:World)(ha0:0≤a)(ha1:a<18446744073709551616)(hb0:0≤b)(hb1:b<18446744073709551616):
  Calls Tryz.prog 26 #[.int .i8 1,.int .i8 32,.int .u64 a,.int .u64 b] W fun e w'=>e=.returned (.tuple #[.int .u64 (doI 1 32 a b),.int .i64 0])∧W=w':=by
 obtain ⟨c0,c1⟩:=cutI_bd a 32 ha0 ha1
 obtain ⟨d0,d1⟩:=cutI_bd b 32 hb0 hb1
 have e1:=and_31 (cutI b 32) d0 d1
 have e2:0≤cutI b 32 % 32:=by omega
 have e3:min (cutI b 32 % 32).toNat 64=(cutI b 32 % 32).toNat:=by omega
 go_enter Tryz.func26,Tryz.ntmps26
 go_wp2_with (first | (go_at_call 68;refine (reflong_t _ _ rfl).mono ?_;rintro e w' ⟨rfl,rfl⟩) | (go_at_call 28;refine (refcut_any _ _ _).mono ?_;rintro e w' ⟨rfl,rfl⟩) | (go_at_call 69;refine (refsign_any _ _ _).mono ?_;rintro e w' ⟨rfl,rfl⟩))
 go_ret2
 refine ⟨retII (congrArg (fun x=>cutI x 32) ?_),rfl⟩
 rw [IntKind.wrap_u64];rfl
set_option maxRecDepth 100000 in
theorem refdo_2_32 (a b:Int)(W:World)(ha0:0≤a)(ha1:a<18446744073709551616)(hb0:0≤b)(hb1:b<18446744073709551616):
  Calls Tryz.prog 26 #[.int .i8 2,.int .i8 32,.int .u64 a,.int .u64 b] W fun e w'=>e=.returned (.tuple #[.int .u64 (doI 2 32 a b),.int .i64 0])∧W=w':=by
 obtain ⟨c0,c1⟩:=cutI_bd a 32 ha0 ha1
 obtain ⟨d0,d1⟩:=cutI_bd b 32 hb0 hb1
 have e1:=and_31 (cutI b 32) d0 d1
 have e2:0≤cutI b 32 % 32:=by omega
 have e3:min (cutI b 32 % 32).toNat 64=(cutI b 32 % 32).toNat:=by omega
 go_enter Tryz.func26,Tryz.ntmps26
 go_wp2_with (first | (go_at_call 68;refine (reflong_t _ _ rfl).mono ?_;rintro e w' ⟨rfl,rfl⟩) | (go_at_call 28;refine (refcut_any _ _ _).mono ?_;rintro e w' ⟨rfl,rfl⟩) | (go_at_call 69;refine (refsign_any _ _ _).mono ?_;rintro e w' ⟨rfl,rfl⟩))
 go_ret2
 refine ⟨retII (congrArg (fun x=>cutI x 32) ?_),rfl⟩
 rw [IntKind.wrap_u64];rfl
set_option maxRecDepth 100000 in
theorem refdo_3_32 (a b:Int)(W:World)(ha0:0≤a)(ha1:a<18446744073709551616)(hb0:0≤b)(hb1:b<18446744073709551616):
  Calls Tryz.prog 26 #[.int .i8 3,.int .i8 32,.int .u64 a,.int .u64 b] W fun e w'=>e=.returned (.tuple #[.int .u64 (doI 3 32 a b),.int .i64 0])∧W=w':=by
 obtain ⟨c0,c1⟩:=cutI_bd a 32 ha0 ha1
 obtain ⟨d0,d1⟩:=cutI_bd b 32 hb0 hb1
 have e1:=and_31 (cutI b 32) d0 d1
 have e2:0≤cutI b 32 % 32:=by omega
 have e3:min (cutI b 32 % 32).toNat 64=(cutI b 32 % 32).toNat:=by omega
 by_cases hz:cutI b 32=0
 ·have z1:decide (0<cutI b 32)=false:=decide_eq_false (by omega)
  have HZ:=Lib.hid hz;clear hz
  go_enter Tryz.func26,Tryz.ntmps26
  go_wp2_with (first | (go_at_call 68;refine (reflong_t _ _ rfl).mono ?_;rintro e w' ⟨rfl,rfl⟩) | (go_at_call 28;refine (refcut_any _ _ _).mono ?_;rintro e w' ⟨rfl,rfl⟩) | (go_at_call 69;refine (refsign_any _ _ _).mono ?_;rintro e w' ⟨rfl,rfl⟩))
  go_ret2
  refine ⟨retII (congrArg (fun x=>cutI x 32) ?_),rfl⟩
  rw [opI_3,if_pos HZ.out]
 ·have z1:0<cutI b 32:=by omega
  have HZ:=Lib.hid hz;clear hz
  go_enter Tryz.func26,Tryz.ntmps26
  go_wp2_with (first | (go_at_call 68;refine (reflong_t _ _ rfl).mono ?_;rintro e w' ⟨rfl,rfl⟩) | (go_at_call 28;refine (refcut_any _ _ _).mono ?_;rintro e w' ⟨rfl,rfl⟩) | (go_at_call 69;refine (refsign_any _ _ _).mono ?_;rintro e w' ⟨rfl,rfl⟩))
  go_ret2
  refine ⟨retII (congrArg (fun x=>cutI x 32) ?_),rfl⟩
  rw [opI_3,if_neg HZ.out]
set_option maxRecDepth 100000 in
theorem refdo_4_32 (a b:Int)(W:World)(ha0:0≤a)(ha1:a<18446744073709551616)(hb0:0≤b)(hb1:b<18446744073709551616):
  Calls Tryz.prog 26 #[.int .i8 4,.int .i8 32,.int .u64 a,.int .u64 b] W fun e w'=>e=.returned (.tuple #[.int .u64 (doI 4 32 a b),.int .i64 0])∧W=w':=by
 obtain ⟨c0,c1⟩:=cutI_bd a 32 ha0 ha1
 obtain ⟨d0,d1⟩:=cutI_bd b 32 hb0 hb1
 have e1:=and_31 (cutI b 32) d0 d1
 have e2:0≤cutI b 32 % 32:=by omega
 have e3:min (cutI b 32 % 32).toNat 64=(cutI b 32 % 32).toNat:=by omega
 go_enter Tryz.func26,Tryz.ntmps26
 go_wp2_with (first | (go_at_call 68;refine (reflong_t _ _ rfl).mono ?_;rintro e w' ⟨rfl,rfl⟩) | (go_at_call 28;refine (refcut_any _ _ _).mono ?_;rintro e w' ⟨rfl,rfl⟩) | (go_at_call 69;refine (refsign_any _ _ _).mono ?_;rintro e w' ⟨rfl,rfl⟩))
 go_ret2
 refine ⟨retII (congrArg (fun x=>cutI x 32) ?_),rfl⟩
 rw [u64_or _ _ c0 c1 d0 d1];rfl
set_option maxRecDepth 100000 in
theorem refdo_5_32 (a b:Int)(W:World)(ha0:0≤a)(ha1:a<18446744073709551616)(hb0:0≤b)(hb1:b<18446744073709551616):
  Calls Tryz.prog 26 #[.int .i8 5,.int .i8 32,.int .u64 a,.int .u64 b] W fun e w'=>e=.returned (.tuple #[.int .u64 (doI 5 32 a b),.int .i64 0])∧W=w':=by
 obtain ⟨c0,c1⟩:=cutI_bd a 32 ha0 ha1
 obtain ⟨d0,d1⟩:=cutI_bd b 32 hb0 hb1
 have e1:=and_31 (cutI b 32) d0 d1
 have e2:0≤cutI b 32 % 32:=by omega
 have e3:min (cutI b 32 % 32).toNat 64=(cutI b 32 % 32).toNat:=by omega
 go_enter Tryz.func26,Tryz.ntmps26
 go_wp2_with (first | (go_at_call 68;refine (reflong_t _ _ rfl).mono ?_;rintro e w' ⟨rfl,rfl⟩) | (go_at_call 28;refine (refcut_any _ _ _).mono ?_;rintro e w' ⟨rfl,rfl⟩) | (go_at_call 69;refine (refsign_any _ _ _).mono ?_;rintro e w' ⟨rfl,rfl⟩))
 go_ret2
 refine ⟨retII (congrArg (fun x=>cutI x 32) ?_),rfl⟩
 rw [u64_and _ _ c0 c1 d0 d1];rfl
set_option maxRecDepth 100000 in
theorem refdo_6_32 (a b:Int)(W:World)(ha0:0≤a)(ha1:a<18446744073709551616)(hb0:0≤b)(hb1:b<18446744073709551616):
  Calls Tryz.prog 26 #[.int .i8 6,.int .i8 32,.int .u64 a,.int .u64 b] W fun e w'=>e=.returned (.tuple #[.int .u64 (doI 6 32 a b),.int .i64 0])∧W=w':=by
 obtain ⟨c0,c1⟩:=cutI_bd a 32 ha0 ha1
 obtain ⟨d0,d1⟩:=cutI_bd b 32 hb0 hb1
 have e1:=and_31 (cutI b 32) d0 d1
 have e2:0≤cutI b 32 % 32:=by omega
 have e3:min (cutI b 32 % 32).toNat 64=(cutI b 32 % 32).toNat:=by omega
 go_enter Tryz.func26,Tryz.ntmps26
 go_wp2_with (first | (go_at_call 68;refine (reflong_t _ _ rfl).mono ?_;rintro e w' ⟨rfl,rfl⟩) | (go_at_call 28;refine (refcut_any _ _ _).mono ?_;rintro e w' ⟨rfl,rfl⟩) | (go_at_call 69;refine (refsign_any _ _ _).mono ?_;rintro e w' ⟨rfl,rfl⟩))
 go_ret2
 refine ⟨retII (congrArg (fun x=>cutI x 32) ?_),rfl⟩
 rw [IntKind.wrap_u64];rfl
set_option maxRecDepth 100000 in
theorem refdo_7_32 (a b:Int)(W:World)(ha0:0≤a)(ha1:a<18446744073709551616)(hb0:0≤b)(hb1:b<18446744073709551616):
  Calls Tryz.prog 26 #[.int .i8 7,.int .i8 32,.int .u64 a,.int .u64 b] W fun e w'=>e=.returned (.tuple #[.int .u64 (doI 7 32 a b),.int .i64 0])∧W=w':=by
 obtain ⟨c0,c1⟩:=cutI_bd a 32 ha0 ha1
 obtain ⟨d0,d1⟩:=cutI_bd b 32 hb0 hb1
 have e1:=and_31 (cutI b 32) d0 d1
 have e2:0≤cutI b 32 % 32:=by omega
 have e3:min (cutI b 32 % 32).toNat 64=(cutI b 32 % 32).toNat:=by omega
 go_enter Tryz.func26,Tryz.ntmps26
 go_wp2_with (first | (go_at_call 68;refine (reflong_t _ _ rfl).mono ?_;rintro e w' ⟨rfl,rfl⟩) | (go_at_call 28;refine (refcut_any _ _ _).mono ?_;rintro e w' ⟨rfl,rfl⟩) | (go_at_call 69;refine (refsign_any _ _ _).mono ?_;rintro e w' ⟨rfl,rfl⟩))
 go_ret2
 refine ⟨retII (congrArg (fun x=>cutI x 32) ?_),rfl⟩
 rfl
set_option maxRecDepth 100000 in
theorem refdo_8_32 (a b:Int)(W:World)(ha0:0≤a)(ha1:a<18446744073709551616)(hb0:0≤b)(hb1:b<18446744073709551616):
  Calls Tryz.prog 26 #[.int .i8 8,.int .i8 32,.int .u64 a,.int .u64 b] W fun e w'=>e=.returned (.tuple #[.int .u64 (doI 8 32 a b),.int .i64 0])∧W=w':=by
 obtain ⟨c0,c1⟩:=cutI_bd a 32 ha0 ha1
 obtain ⟨d0,d1⟩:=cutI_bd b 32 hb0 hb1
 have e1:=and_31 (cutI b 32) d0 d1
 have e2:0≤cutI b 32 % 32:=by omega
 have e3:min (cutI b 32 % 32).toNat 64=(cutI b 32 % 32).toNat:=by omega
 go_enter Tryz.func26,Tryz.ntmps26
 go_wp2_with (first | (go_at_call 68;refine (reflong_t _ _ rfl).mono ?_;rintro e w' ⟨rfl,rfl⟩) | (go_at_call 28;refine (refcut_any _ _ _).mono ?_;rintro e w' ⟨rfl,rfl⟩) | (go_at_call 69;refine (refsign_any _ _ _).mono ?_;rintro e w' ⟨rfl,rfl⟩))
 go_ret2
 refine ⟨retII (congrArg (fun x=>cutI x 32) ?_),rfl⟩
 rw [IntKind.wrap_u64];rfl
set_option maxRecDepth 100000 in
theorem refdo_9_32 (a b:Int)(W:World)(ha0:0≤a)(ha1:a<18446744073709551616)(hb0:0≤b)(hb1:b<18446744073709551616):
  Calls Tryz.prog 26 #[.int .i8 9,.int .i8 32,.int .u64 a,.int .u64 b] W fun e w'=>e=.returned (.tuple #[.int .u64 (doI 9 32 a b),.int .i64 0])∧W=w':=by
 obtain ⟨c0,c1⟩:=cutI_bd a 32 ha0 ha1
 obtain ⟨d0,d1⟩:=cutI_bd b 32 hb0 hb1
 have e1:=and_31 (cutI b 32) d0 d1
 have e2:0≤cutI b 32 % 32:=by omega
 have e3:min (cutI b 32 % 32).toNat 64=(cutI b 32 % 32).toNat:=by omega
 by_cases hz:cutI b 32=0
 ·have z1:decide (0<cutI b 32)=false:=decide_eq_false (by omega)
  have HZ:=Lib.hid hz;clear hz
  go_enter Tryz.func26,Tryz.ntmps26
  go_wp2_with (first | (go_at_call 68;refine (reflong_t _ _ rfl).mono ?_;rintro e w' ⟨rfl,rfl⟩) | (go_at_call 28;refine (refcut_any _ _ _).mono ?_;rintro e w' ⟨rfl,rfl⟩) | (go_at_call 69;refine (refsign_any _ _ _).mono ?_;rintro e w' ⟨rfl,rfl⟩))
  go_ret2
  refine ⟨retII (congrArg (fun x=>cutI x 32) ?_),rfl⟩
  rw [opI_9,if_pos HZ.out]
 ·have z1:0<cutI b 32:=by omega
  have HZ:=Lib.hid hz;clear hz
  go_enter Tryz.func26,Tryz.ntmps26
  go_wp2_with (first | (go_at_call 68;refine (reflong_t _ _ rfl).mono ?_;rintro e w' ⟨rfl,rfl⟩) | (go_at_call 28;refine (refcut_any _ _ _).mono ?_;rintro e w' ⟨rfl,rfl⟩) | (go_at_call 69;refine (refsign_any _ _ _).mono ?_;rintro e w' ⟨rfl,rfl⟩))
  go_ret2
  refine ⟨retII (congrArg (fun x=>cutI x 32) ?_),rfl⟩
  rw [opI_9,if_neg HZ.out]
set_option maxRecDepth 100000 in
theorem refdo_10_32 (a b:Int)(W:World)(ha0:0≤a)(ha1:a<18446744073709551616)(hb0:0≤b)(hb1:b<18446744073709551616):
  Calls Tryz.prog 26 #[.int .i8 10,.int .i8 32,.int .u64 a,.int .u64 b] W fun e w'=>e=.returned (.tuple #[.int .u64 (doI 10 32 a b),.int .i64 0])∧W=w':=by
 obtain ⟨c0,c1⟩:=cutI_bd a 32 ha0 ha1
 obtain ⟨d0,d1⟩:=cutI_bd b 32 hb0 hb1
 have e1:=and_31 (cutI b 32) d0 d1
 have e2:0≤cutI b 32 % 32:=by omega
 have e3:min (cutI b 32 % 32).toNat 64=(cutI b 32 % 32).toNat:=by omega
 go_enter Tryz.func26,Tryz.ntmps26
 go_wp2_with (first | (go_at_call 68;refine (reflong_t _ _ rfl).mono ?_;rintro e w' ⟨rfl,rfl⟩) | (go_at_call 28;refine (refcut_any _ _ _).mono ?_;rintro e w' ⟨rfl,rfl⟩) | (go_at_call 69;refine (refsign_any _ _ _).mono ?_;rintro e w' ⟨rfl,rfl⟩))
 go_ret2
 refine ⟨retII (congrArg (fun x=>cutI x 32) ?_),rfl⟩
 rw [u64_xor _ _ c0 c1 d0 d1];rfl
set_option maxRecDepth 100000 in
theorem refdo_11_32 (a b:Int)(W:World)(ha0:0≤a)(ha1:a<18446744073709551616)(hb0:0≤b)(hb1:b<18446744073709551616):
  Calls Tryz.prog 26 #[.int .i8 11,.int .i8 32,.int .u64 a,.int .u64 b] W fun e w'=>e=.returned (.tuple #[.int .u64 (doI 11 32 a b),.int .i64 0])∧W=w':=by
 obtain ⟨c0,c1⟩:=cutI_bd a 32 ha0 ha1
 obtain ⟨d0,d1⟩:=cutI_bd b 32 hb0 hb1
 have e1:=and_31 (cutI b 32) d0 d1
 have e2:0≤cutI b 32 % 32:=by omega
 have e3:min (cutI b 32 % 32).toNat 64=(cutI b 32 % 32).toNat:=by omega
 go_enter Tryz.func26,Tryz.ntmps26
 go_wp2_with (first | (go_at_call 68;refine (reflong_t _ _ rfl).mono ?_;rintro e w' ⟨rfl,rfl⟩) | (go_at_call 28;refine (refcut_any _ _ _).mono ?_;rintro e w' ⟨rfl,rfl⟩) | (go_at_call 69;refine (refsign_any _ _ _).mono ?_;rintro e w' ⟨rfl,rfl⟩))
 go_ret2
 refine ⟨retII (congrArg (fun x=>cutI x 32) ?_),rfl⟩
 rfl
set_option maxRecDepth 100000 in
theorem refdo_12_32 (a b:Int)(W:World)(ha0:0≤a)(ha1:a<18446744073709551616)(hb0:0≤b)(hb1:b<18446744073709551616):
  Calls Tryz.prog 26 #[.int .i8 12,.int .i8 32,.int .u64 a,.int .u64 b] W fun e w'=>e=.returned (.tuple #[.int .u64 (doI 12 32 a b),.int .i64 0])∧W=w':=by
 obtain ⟨c0,c1⟩:=cutI_bd a 32 ha0 ha1
 obtain ⟨d0,d1⟩:=cutI_bd b 32 hb0 hb1
 have e1:=and_31 (cutI b 32) d0 d1
 have e2:0≤cutI b 32 % 32:=by omega
 have e3:min (cutI b 32 % 32).toNat 64=(cutI b 32 % 32).toNat:=by omega
 go_enter Tryz.func26,Tryz.ntmps26
 go_wp2_with (first | (go_at_call 68;refine (reflong_t _ _ rfl).mono ?_;rintro e w' ⟨rfl,rfl⟩) | (go_at_call 28;refine (refcut_any _ _ _).mono ?_;rintro e w' ⟨rfl,rfl⟩) | (go_at_call 69;refine (refsign_any _ _ _).mono ?_;rintro e w' ⟨rfl,rfl⟩))
 go_ret2
 refine ⟨retII (congrArg (fun x=>cutI x 32) ?_),rfl⟩
 rw [IntKind.wrap_u64,show wrap64 (signI (cutI a 32) 32)=sgnI (cutI a 32) 32 from (IntWalk.i64_left _).symm.trans (wrap64_sign32 _)];rfl
set_option maxRecDepth 100000 in
theorem refdo_0_64 (a b:Int)(W:World)(ha0:0≤a)(ha1:a<18446744073709551616)(hb0:0≤b)(hb1:b<18446744073709551616):
  Calls Tryz.prog 26 #[.int .i8 0,.int .i8 64,.int .u64 a,.int .u64 b] W fun e w'=>e=.returned (.tuple #[.int .u64 (doI 0 64 a b),.int .i64 0])∧W=w':=by
 obtain ⟨c0,c1⟩:=cutI_bd a 64 ha0 ha1
 obtain ⟨d0,d1⟩:=cutI_bd b 64 hb0 hb1
 have e1:=and_63 (cutI b 64) d0 d1
 have e2:0≤cutI b 64 % 64:=by omega
 have e3:min (cutI b 64 % 64).toNat 64=(cutI b 64 % 64).toNat:=by omega
 go_enter Tryz.func26,Tryz.ntmps26
 go_wp2_with (first | (go_at_call 68;refine (reflong_t _ _ rfl).mono ?_;rintro e w' ⟨rfl,rfl⟩) | (go_at_call 28;refine (refcut_any _ _ _).mono ?_;rintro e w' ⟨rfl,rfl⟩) | (go_at_call 69;refine (refsign_any _ _ _).mono ?_;rintro e w' ⟨rfl,rfl⟩))
 go_ret2
 refine ⟨retII (congrArg (fun x=>cutI x 64) ?_),rfl⟩
 rw [IntKind.wrap_u64];rfl
set_option maxRecDepth 100000 in
theorem refdo_1_64 (a b:Int)(W:World)(ha0:0≤a)(ha1:a<18446744073709551616)(hb0:0≤b)(hb1:b<18446744073709551616):
  Calls Tryz.prog 26 #[.int .i8 1,.int .i8 64,.int .u64 a,.int .u64 b] W fun e w'=>e=.returned (.tuple #[.int .u64 (doI 1 64 a b),.int .i64 0])∧W=w':=by
 obtain ⟨c0,c1⟩:=cutI_bd a 64 ha0 ha1
 obtain ⟨d0,d1⟩:=cutI_bd b 64 hb0 hb1
 have e1:=and_63 (cutI b 64) d0 d1
 have e2:0≤cutI b 64 % 64:=by omega
 have e3:min (cutI b 64 % 64).toNat 64=(cutI b 64 % 64).toNat:=by omega
 go_enter Tryz.func26,Tryz.ntmps26
 go_wp2_with (first | (go_at_call 68;refine (reflong_t _ _ rfl).mono ?_;rintro e w' ⟨rfl,rfl⟩) | (go_at_call 28;refine (refcut_any _ _ _).mono ?_;rintro e w' ⟨rfl,rfl⟩) | (go_at_call 69;refine (refsign_any _ _ _).mono ?_;rintro e w' ⟨rfl,rfl⟩))
 go_ret2
 refine ⟨retII (congrArg (fun x=>cutI x 64) ?_),rfl⟩
 rw [IntKind.wrap_u64];rfl
set_option maxRecDepth 100000 in
theorem refdo_2_64 (a b:Int)(W:World)(ha0:0≤a)(ha1:a<18446744073709551616)(hb0:0≤b)(hb1:b<18446744073709551616):
  Calls Tryz.prog 26 #[.int .i8 2,.int .i8 64,.int .u64 a,.int .u64 b] W fun e w'=>e=.returned (.tuple #[.int .u64 (doI 2 64 a b),.int .i64 0])∧W=w':=by
 obtain ⟨c0,c1⟩:=cutI_bd a 64 ha0 ha1
 obtain ⟨d0,d1⟩:=cutI_bd b 64 hb0 hb1
 have e1:=and_63 (cutI b 64) d0 d1
 have e2:0≤cutI b 64 % 64:=by omega
 have e3:min (cutI b 64 % 64).toNat 64=(cutI b 64 % 64).toNat:=by omega
 go_enter Tryz.func26,Tryz.ntmps26
 go_wp2_with (first | (go_at_call 68;refine (reflong_t _ _ rfl).mono ?_;rintro e w' ⟨rfl,rfl⟩) | (go_at_call 28;refine (refcut_any _ _ _).mono ?_;rintro e w' ⟨rfl,rfl⟩) | (go_at_call 69;refine (refsign_any _ _ _).mono ?_;rintro e w' ⟨rfl,rfl⟩))
 go_ret2
 refine ⟨retII (congrArg (fun x=>cutI x 64) ?_),rfl⟩
 rw [IntKind.wrap_u64];rfl
set_option maxRecDepth 100000 in
theorem refdo_3_64 (a b:Int)(W:World)(ha0:0≤a)(ha1:a<18446744073709551616)(hb0:0≤b)(hb1:b<18446744073709551616):
  Calls Tryz.prog 26 #[.int .i8 3,.int .i8 64,.int .u64 a,.int .u64 b] W fun e w'=>e=.returned (.tuple #[.int .u64 (doI 3 64 a b),.int .i64 0])∧W=w':=by
 obtain ⟨c0,c1⟩:=cutI_bd a 64 ha0 ha1
 obtain ⟨d0,d1⟩:=cutI_bd b 64 hb0 hb1
 have e1:=and_63 (cutI b 64) d0 d1
 have e2:0≤cutI b 64 % 64:=by omega
 have e3:min (cutI b 64 % 64).toNat 64=(cutI b 64 % 64).toNat:=by omega
 by_cases hz:cutI b 64=0
 ·have z1:decide (0<cutI b 64)=false:=decide_eq_false (by omega)
  have HZ:=Lib.hid hz;clear hz
  go_enter Tryz.func26,Tryz.ntmps26
  go_wp2_with (first | (go_at_call 68;refine (reflong_t _ _ rfl).mono ?_;rintro e w' ⟨rfl,rfl⟩) | (go_at_call 28;refine (refcut_any _ _ _).mono ?_;rintro e w' ⟨rfl,rfl⟩) | (go_at_call 69;refine (refsign_any _ _ _).mono ?_;rintro e w' ⟨rfl,rfl⟩))
  go_ret2
  refine ⟨retII (congrArg (fun x=>cutI x 64) ?_),rfl⟩
  rw [opI_3,if_pos HZ.out] <;> rfl
 ·have z1:0<cutI b 64:=by omega
  have HZ:=Lib.hid hz;clear hz
  go_enter Tryz.func26,Tryz.ntmps26
  go_wp2_with (first | (go_at_call 68;refine (reflong_t _ _ rfl).mono ?_;rintro e w' ⟨rfl,rfl⟩) | (go_at_call 28;refine (refcut_any _ _ _).mono ?_;rintro e w' ⟨rfl,rfl⟩) | (go_at_call 69;refine (refsign_any _ _ _).mono ?_;rintro e w' ⟨rfl,rfl⟩))
  go_ret2
  refine ⟨retII (congrArg (fun x=>cutI x 64) ?_),rfl⟩
  rw [opI_3,if_neg HZ.out] <;> rfl
set_option maxRecDepth 100000 in
theorem refdo_4_64 (a b:Int)(W:World)(ha0:0≤a)(ha1:a<18446744073709551616)(hb0:0≤b)(hb1:b<18446744073709551616):
  Calls Tryz.prog 26 #[.int .i8 4,.int .i8 64,.int .u64 a,.int .u64 b] W fun e w'=>e=.returned (.tuple #[.int .u64 (doI 4 64 a b),.int .i64 0])∧W=w':=by
 obtain ⟨c0,c1⟩:=cutI_bd a 64 ha0 ha1
 obtain ⟨d0,d1⟩:=cutI_bd b 64 hb0 hb1
 have e1:=and_63 (cutI b 64) d0 d1
 have e2:0≤cutI b 64 % 64:=by omega
 have e3:min (cutI b 64 % 64).toNat 64=(cutI b 64 % 64).toNat:=by omega
 go_enter Tryz.func26,Tryz.ntmps26
 go_wp2_with (first | (go_at_call 68;refine (reflong_t _ _ rfl).mono ?_;rintro e w' ⟨rfl,rfl⟩) | (go_at_call 28;refine (refcut_any _ _ _).mono ?_;rintro e w' ⟨rfl,rfl⟩) | (go_at_call 69;refine (refsign_any _ _ _).mono ?_;rintro e w' ⟨rfl,rfl⟩))
 go_ret2
 refine ⟨retII (congrArg (fun x=>cutI x 64) ?_),rfl⟩
 rw [u64_or _ _ c0 c1 d0 d1];rfl
set_option maxRecDepth 100000 in
theorem refdo_5_64 (a b:Int)(W:World)(ha0:0≤a)(ha1:a<18446744073709551616)(hb0:0≤b)(hb1:b<18446744073709551616):
  Calls Tryz.prog 26 #[.int .i8 5,.int .i8 64,.int .u64 a,.int .u64 b] W fun e w'=>e=.returned (.tuple #[.int .u64 (doI 5 64 a b),.int .i64 0])∧W=w':=by
 obtain ⟨c0,c1⟩:=cutI_bd a 64 ha0 ha1
 obtain ⟨d0,d1⟩:=cutI_bd b 64 hb0 hb1
 have e1:=and_63 (cutI b 64) d0 d1
 have e2:0≤cutI b 64 % 64:=by omega
 have e3:min (cutI b 64 % 64).toNat 64=(cutI b 64 % 64).toNat:=by omega
 go_enter Tryz.func26,Tryz.ntmps26
 go_wp2_with (first | (go_at_call 68;refine (reflong_t _ _ rfl).mono ?_;rintro e w' ⟨rfl,rfl⟩) | (go_at_call 28;refine (refcut_any _ _ _).mono ?_;rintro e w' ⟨rfl,rfl⟩) | (go_at_call 69;refine (refsign_any _ _ _).mono ?_;rintro e w' ⟨rfl,rfl⟩))
 go_ret2
 refine ⟨retII (congrArg (fun x=>cutI x 64) ?_),rfl⟩
 rw [u64_and _ _ c0 c1 d0 d1];rfl
set_option maxRecDepth 100000 in
theorem refdo_6_64 (a b:Int)(W:World)(ha0:0≤a)(ha1:a<18446744073709551616)(hb0:0≤b)(hb1:b<18446744073709551616):
  Calls Tryz.prog 26 #[.int .i8 6,.int .i8 64,.int .u64 a,.int .u64 b] W fun e w'=>e=.returned (.tuple #[.int .u64 (doI 6 64 a b),.int .i64 0])∧W=w':=by
 obtain ⟨c0,c1⟩:=cutI_bd a 64 ha0 ha1
 obtain ⟨d0,d1⟩:=cutI_bd b 64 hb0 hb1
 have e1:=and_63 (cutI b 64) d0 d1
 have e2:0≤cutI b 64 % 64:=by omega
 have e3:min (cutI b 64 % 64).toNat 64=(cutI b 64 % 64).toNat:=by omega
 go_enter Tryz.func26,Tryz.ntmps26
 go_wp2_with (first | (go_at_call 68;refine (reflong_t _ _ rfl).mono ?_;rintro e w' ⟨rfl,rfl⟩) | (go_at_call 28;refine (refcut_any _ _ _).mono ?_;rintro e w' ⟨rfl,rfl⟩) | (go_at_call 69;refine (refsign_any _ _ _).mono ?_;rintro e w' ⟨rfl,rfl⟩))
 go_ret2
 refine ⟨retII (congrArg (fun x=>cutI x 64) ?_),rfl⟩
 rw [IntKind.wrap_u64];rfl
set_option maxRecDepth 100000 in
theorem refdo_7_64 (a b:Int)(W:World)(ha0:0≤a)(ha1:a<18446744073709551616)(hb0:0≤b)(hb1:b<18446744073709551616):
  Calls Tryz.prog 26 #[.int .i8 7,.int .i8 64,.int .u64 a,.int .u64 b] W fun e w'=>e=.returned (.tuple #[.int .u64 (doI 7 64 a b),.int .i64 0])∧W=w':=by
 obtain ⟨c0,c1⟩:=cutI_bd a 64 ha0 ha1
 obtain ⟨d0,d1⟩:=cutI_bd b 64 hb0 hb1
 have e1:=and_63 (cutI b 64) d0 d1
 have e2:0≤cutI b 64 % 64:=by omega
 have e3:min (cutI b 64 % 64).toNat 64=(cutI b 64 % 64).toNat:=by omega
 go_enter Tryz.func26,Tryz.ntmps26
 go_wp2_with (first | (go_at_call 68;refine (reflong_t _ _ rfl).mono ?_;rintro e w' ⟨rfl,rfl⟩) | (go_at_call 28;refine (refcut_any _ _ _).mono ?_;rintro e w' ⟨rfl,rfl⟩) | (go_at_call 69;refine (refsign_any _ _ _).mono ?_;rintro e w' ⟨rfl,rfl⟩))
 go_ret2
 refine ⟨retII (congrArg (fun x=>cutI x 64) ?_),rfl⟩
 rfl
set_option maxRecDepth 100000 in
theorem refdo_8_64 (a b:Int)(W:World)(ha0:0≤a)(ha1:a<18446744073709551616)(hb0:0≤b)(hb1:b<18446744073709551616):
  Calls Tryz.prog 26 #[.int .i8 8,.int .i8 64,.int .u64 a,.int .u64 b] W fun e w'=>e=.returned (.tuple #[.int .u64 (doI 8 64 a b),.int .i64 0])∧W=w':=by
 obtain ⟨c0,c1⟩:=cutI_bd a 64 ha0 ha1
 obtain ⟨d0,d1⟩:=cutI_bd b 64 hb0 hb1
 have e1:=and_63 (cutI b 64) d0 d1
 have e2:0≤cutI b 64 % 64:=by omega
 have e3:min (cutI b 64 % 64).toNat 64=(cutI b 64 % 64).toNat:=by omega
 go_enter Tryz.func26,Tryz.ntmps26
 go_wp2_with (first | (go_at_call 68;refine (reflong_t _ _ rfl).mono ?_;rintro e w' ⟨rfl,rfl⟩) | (go_at_call 28;refine (refcut_any _ _ _).mono ?_;rintro e w' ⟨rfl,rfl⟩) | (go_at_call 69;refine (refsign_any _ _ _).mono ?_;rintro e w' ⟨rfl,rfl⟩))
 go_ret2
 refine ⟨retII (congrArg (fun x=>cutI x 64) ?_),rfl⟩
 rw [IntKind.wrap_u64];rfl
set_option maxRecDepth 100000 in
theorem refdo_9_64 (a b:Int)(W:World)(ha0:0≤a)(ha1:a<18446744073709551616)(hb0:0≤b)(hb1:b<18446744073709551616):
  Calls Tryz.prog 26 #[.int .i8 9,.int .i8 64,.int .u64 a,.int .u64 b] W fun e w'=>e=.returned (.tuple #[.int .u64 (doI 9 64 a b),.int .i64 0])∧W=w':=by
 obtain ⟨c0,c1⟩:=cutI_bd a 64 ha0 ha1
 obtain ⟨d0,d1⟩:=cutI_bd b 64 hb0 hb1
 have e1:=and_63 (cutI b 64) d0 d1
 have e2:0≤cutI b 64 % 64:=by omega
 have e3:min (cutI b 64 % 64).toNat 64=(cutI b 64 % 64).toNat:=by omega
 by_cases hz:cutI b 64=0
 ·have z1:decide (0<cutI b 64)=false:=decide_eq_false (by omega)
  have HZ:=Lib.hid hz;clear hz
  go_enter Tryz.func26,Tryz.ntmps26
  go_wp2_with (first | (go_at_call 68;refine (reflong_t _ _ rfl).mono ?_;rintro e w' ⟨rfl,rfl⟩) | (go_at_call 28;refine (refcut_any _ _ _).mono ?_;rintro e w' ⟨rfl,rfl⟩) | (go_at_call 69;refine (refsign_any _ _ _).mono ?_;rintro e w' ⟨rfl,rfl⟩))
  go_ret2
  refine ⟨retII (congrArg (fun x=>cutI x 64) ?_),rfl⟩
  rw [opI_9,if_pos HZ.out] <;> rfl
 ·have z1:0<cutI b 64:=by omega
  have HZ:=Lib.hid hz;clear hz
  go_enter Tryz.func26,Tryz.ntmps26
  go_wp2_with (first | (go_at_call 68;refine (reflong_t _ _ rfl).mono ?_;rintro e w' ⟨rfl,rfl⟩) | (go_at_call 28;refine (refcut_any _ _ _).mono ?_;rintro e w' ⟨rfl,rfl⟩) | (go_at_call 69;refine (refsign_any _ _ _).mono ?_;rintro e w' ⟨rfl,rfl⟩))
  go_ret2
  refine ⟨retII (congrArg (fun x=>cutI x 64) ?_),rfl⟩
  rw [opI_9,if_neg HZ.out] <;> rfl
set_option maxRecDepth 100000 in
theorem refdo_10_64 (a b:Int)(W:World)(ha0:0≤a)(ha1:a<18446744073709551616)(hb0:0≤b)(hb1:b<18446744073709551616):
  Calls Tryz.prog 26 #[.int .i8 10,.int .i8 64,.int .u64 a,.int .u64 b] W fun e w'=>e=.returned (.tuple #[.int .u64 (doI 10 64 a b),.int .i64 0])∧W=w':=by
 obtain ⟨c0,c1⟩:=cutI_bd a 64 ha0 ha1
 obtain ⟨d0,d1⟩:=cutI_bd b 64 hb0 hb1
 have e1:=and_63 (cutI b 64) d0 d1
 have e2:0≤cutI b 64 % 64:=by omega
 have e3:min (cutI b 64 % 64).toNat 64=(cutI b 64 % 64).toNat:=by omega
 go_enter Tryz.func26,Tryz.ntmps26
 go_wp2_with (first | (go_at_call 68;refine (reflong_t _ _ rfl).mono ?_;rintro e w' ⟨rfl,rfl⟩) | (go_at_call 28;refine (refcut_any _ _ _).mono ?_;rintro e w' ⟨rfl,rfl⟩) | (go_at_call 69;refine (refsign_any _ _ _).mono ?_;rintro e w' ⟨rfl,rfl⟩))
 go_ret2
 refine ⟨retII (congrArg (fun x=>cutI x 64) ?_),rfl⟩
 rw [u64_xor _ _ c0 c1 d0 d1];rfl
set_option maxRecDepth 100000 in
theorem refdo_11_64 (a b:Int)(W:World)(ha0:0≤a)(ha1:a<18446744073709551616)(hb0:0≤b)(hb1:b<18446744073709551616):
  Calls Tryz.prog 26 #[.int .i8 11,.int .i8 64,.int .u64 a,.int .u64 b] W fun e w'=>e=.returned (.tuple #[.int .u64 (doI 11 64 a b),.int .i64 0])∧W=w':=by
 obtain ⟨c0,c1⟩:=cutI_bd a 64 ha0 ha1
 obtain ⟨d0,d1⟩:=cutI_bd b 64 hb0 hb1
 have e1:=and_63 (cutI b 64) d0 d1
 have e2:0≤cutI b 64 % 64:=by omega
 have e3:min (cutI b 64 % 64).toNat 64=(cutI b 64 % 64).toNat:=by omega
 go_enter Tryz.func26,Tryz.ntmps26
 go_wp2_with (first | (go_at_call 68;refine (reflong_t _ _ rfl).mono ?_;rintro e w' ⟨rfl,rfl⟩) | (go_at_call 28;refine (refcut_any _ _ _).mono ?_;rintro e w' ⟨rfl,rfl⟩) | (go_at_call 69;refine (refsign_any _ _ _).mono ?_;rintro e w' ⟨rfl,rfl⟩))
 go_ret2
 refine ⟨retII (congrArg (fun x=>cutI x 64) ?_),rfl⟩
 rfl
set_option maxRecDepth 100000 in
theorem refdo_12_64 (a b:Int)(W:World)(ha0:0≤a)(ha1:a<18446744073709551616)(hb0:0≤b)(hb1:b<18446744073709551616):
  Calls Tryz.prog 26 #[.int .i8 12,.int .i8 64,.int .u64 a,.int .u64 b] W fun e w'=>e=.returned (.tuple #[.int .u64 (doI 12 64 a b),.int .i64 0])∧W=w':=by
 obtain ⟨c0,c1⟩:=cutI_bd a 64 ha0 ha1
 obtain ⟨d0,d1⟩:=cutI_bd b 64 hb0 hb1
 have e1:=and_63 (cutI b 64) d0 d1
 have e2:0≤cutI b 64 % 64:=by omega
 have e3:min (cutI b 64 % 64).toNat 64=(cutI b 64 % 64).toNat:=by omega
 go_enter Tryz.func26,Tryz.ntmps26
 go_wp2_with (first | (go_at_call 68;refine (reflong_t _ _ rfl).mono ?_;rintro e w' ⟨rfl,rfl⟩) | (go_at_call 28;refine (refcut_any _ _ _).mono ?_;rintro e w' ⟨rfl,rfl⟩) | (go_at_call 69;refine (refsign_any _ _ _).mono ?_;rintro e w' ⟨rfl,rfl⟩))
 go_ret2
 refine ⟨retII (congrArg (fun x=>cutI x 64) ?_),rfl⟩
 rw [IntKind.wrap_u64,show wrap64 (signI (cutI a 64) 64)=sgnI (cutI a 64) 64 from (IntWalk.i64_left _).symm.trans (wrap64_sign64 _)];rfl
theorem refdo_in (op w a b:Int)(W:World)(h0:0≤op)(h12:op≤12)(hl:longB w=true)(ha0:0≤a)(ha1:a<18446744073709551616)(hb0:0≤b)(hb1:b<18446744073709551616):
  Calls Tryz.prog 26 #[.int .i8 op,.int .i8 w,.int .u64 a,.int .u64 b] W fun e w'=>e=.returned (.tuple #[.int .u64 (doI op w a b),.int .i64 0])∧W=w':=by
 have hc:op=0∨op=1∨op=2∨op=3∨op=4∨op=5∨op=6∨op=7∨op=8∨op=9∨op=10∨op=11∨op=12:=by omega
 rcases longB_cases hl with rfl | rfl
 ·rcases hc with rfl | rfl | rfl | rfl | rfl | rfl | rfl | rfl | rfl | rfl | rfl | rfl | rfl
  ·exact refdo_0_32 a b W ha0 ha1 hb0 hb1
  ·exact refdo_1_32 a b W ha0 ha1 hb0 hb1
  ·exact refdo_2_32 a b W ha0 ha1 hb0 hb1
  ·exact refdo_3_32 a b W ha0 ha1 hb0 hb1
  ·exact refdo_4_32 a b W ha0 ha1 hb0 hb1
  ·exact refdo_5_32 a b W ha0 ha1 hb0 hb1
  ·exact refdo_6_32 a b W ha0 ha1 hb0 hb1
  ·exact refdo_7_32 a b W ha0 ha1 hb0 hb1
  ·exact refdo_8_32 a b W ha0 ha1 hb0 hb1
  ·exact refdo_9_32 a b W ha0 ha1 hb0 hb1
  ·exact refdo_10_32 a b W ha0 ha1 hb0 hb1
  ·exact refdo_11_32 a b W ha0 ha1 hb0 hb1
  ·exact refdo_12_32 a b W ha0 ha1 hb0 hb1
 ·rcases hc with rfl | rfl | rfl | rfl | rfl | rfl | rfl | rfl | rfl | rfl | rfl | rfl | rfl
  ·exact refdo_0_64 a b W ha0 ha1 hb0 hb1
  ·exact refdo_1_64 a b W ha0 ha1 hb0 hb1
  ·exact refdo_2_64 a b W ha0 ha1 hb0 hb1
  ·exact refdo_3_64 a b W ha0 ha1 hb0 hb1
  ·exact refdo_4_64 a b W ha0 ha1 hb0 hb1
  ·exact refdo_5_64 a b W ha0 ha1 hb0 hb1
  ·exact refdo_6_64 a b W ha0 ha1 hb0 hb1
  ·exact refdo_7_64 a b W ha0 ha1 hb0 hb1
  ·exact refdo_8_64 a b W ha0 ha1 hb0 hb1
  ·exact refdo_9_64 a b W ha0 ha1 hb0 hb1
  ·exact refdo_10_64 a b W ha0 ha1 hb0 hb1
  ·exact refdo_11_64 a b W ha0 ha1 hb0 hb1
  ·exact refdo_12_64 a b W ha0 ha1 hb0 hb1
set_option maxRecDepth 100000 in
theorem refdo_any (op w a b:Int)(W:World)(ha0:0≤a)(ha1:a<18446744073709551616)(hb0:0≤b)(hb1:b<18446744073709551616):
  Calls Tryz.prog 26 #[.int .i8 op,.int .i8 w,.int .u64 a,.int .u64 b] W fun e w'=>e=.returned (.tuple #[.int .u64 (doI op w a b),.int .i64 (doE op w)])∧W=w':=by
 by_cases h1:op<0
 ·rw [show doI op w a b=0 from if_neg (by omega),show doE op w=2 from if_neg (by omega)]
  go_enter Tryz.func26,Tryz.ntmps26
  go_wp2
  go_ret2
  exact ⟨rfl,rfl⟩
 by_cases h2:12<op
 ·rw [show doI op w a b=0 from if_neg (by omega),show doE op w=2 from if_neg (by omega)]
  go_enter Tryz.func26,Tryz.ntmps26
  go_wp2
  go_ret2
  exact ⟨rfl,rfl⟩
 cases hl:longB w
 ·rw [show doI op w a b=0 from if_neg (by simp [hl]),show doE op w=2 from if_neg (by simp [hl])]
  have HL:=Lib.hid hl;clear hl
  go_enter Tryz.func26,Tryz.ntmps26
  go_wp2_with (go_at_call 68;refine (reflong_f _ _ HL.out).mono ?_;rintro e w' ⟨rfl,rfl⟩)
  go_ret2
  exact ⟨rfl,rfl⟩
 ·have h:=refdo_in op w a b W (by omega) (by omega) hl ha0 ha1 hb0 hb1
  rw [show doE op w=0 from if_pos ⟨by omega,by omega,hl⟩]
  exact h
end Go.Proofs.YtjhedldplmhmjaaGreatDoor
