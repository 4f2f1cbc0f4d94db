import Derived.Test.YtjhedldplmhmjaaGreatDoorETe01
import Derived.WalkKit
import Derived.Test.YtjhedldplmhmjaaGreatDoorRows
import Derived.WalkSpells
import Derived.WalkLawsBesides
import Derived.Laws.EntriesVeiled
import Derived.Lib.Hide
import Derived.Deep.QuietTactic
import Derived.BigQuiet
set_option maxHeartbeats 2000000
set_option linter.unusedVariables false
set_option linter.unusedSimpArgs false
set_option linter.unnecessarySimpa false
namespace Go.Proofs.YtjhedldplmhmjaaGreatDoor.Mrm
open Go.RowKit
set_option maxRecDepth 100000
theorem between_n (m:Int)(h0:0≤m)(h1:m<16)(W:World):Calls Tryz.prog 117 #[.int .i8 m] W (RetV (midL m) W):=by
 unfold midL RetV
 by_cases h:m % 8=4
 ·rw [if_pos h]
  go_enter Tryz.func117,Tryz.ntmps117
  go_wp2
  go_ret
  exact ⟨_,rfl,one_own W 36 (Nat.le_refl _),below_new (Below.refl _ _) _⟩
 ·rw [if_neg h]
  have eb:(m % 8 == 4)=false:=by simpa using h
  clear h
  go_enter Tryz.func117,Tryz.ntmps117
  go_wp2
  go_ret
  exact ⟨_,rfl,Bts.nil _ _,Below.refl _ _⟩
theorem operand_n (q:Bool)(r m:Int)(xa:Option Addr)(l c:Nat)(zs:List Int)(W:World)(hE:BytesAt W xa l c zs)(hl:l≤1000):
  Calls Tryz.prog 116 #[.int .u8 (if q then 192 else 128),.int .i8 r,.int .i8 m,.slice xa l c] W (RetV ([opI (if q then 192 else 128) r m] ++ zs) W):=by
 have ea:=Lib.hid (op_or q r m)
 have EB:=Lib.hid (opI_bd (k:=if q then 192 else 128) (r:=r) (m:=m) (by cases q <;> decide))
 have HE:=Lib.hid hE
 clear hE
 unfold RetV
 generalize opI (if q then 192 else 128) r m=z at *
 generalize (if q then (192:Int) else 128)=k at *
 go_enter Tryz.func116,Tryz.ntmps116
 go_wp2_with (at_builtin;refine wpList_append_b rfl _ _ rfl W.heap.size _ _ rfl (one_own W _ (Nat.le_refl _)) _ l c zs rfl (HE.out.below (below_new (Below.refl _ _) _)) (by simp;omega) (by simp) ?_)
 intro v8 w8 o8 g8
 have B8:=Lib.hid (below_grown (below_new (Below.refl _ W) _) g8 (fun j hj=>by simp [Value.ownBlock] at hj;omega))
 have O8:=Lib.hid (show Bts W.heap.size w8 v8 ([z] ++ zs) by rw [← ea.out];exact o8)
 clear o8 g8
 go_wp2_with fail
 go_ret
 exact ⟨_,rfl,O8.out,B8.out⟩
theorem regs_n (r m:Int)(W:World):Calls Tryz.prog 102 #[.int .i8 r,.int .i8 m] W (RetB (bif bothB r m then regL r m else []) (bif bothB r m then 0 else 2) W):=by
 have B:=Lib.hid (fun W=>both_n r m W)
 unfold RetB
 cases h:bothB r m
 ·rw [h] at B
  go_enter Tryz.func102,Tryz.ntmps102
  go_wp2_with fail
  refine (B.out _).mono ?_
  rintro e w1 ⟨rfl,rfl⟩
  go_wp2_with fail
  go_ret2
  exact ⟨_,rfl,Bts.nil _ _,Below.refl _ _⟩
 ·rw [h] at B
  have O:=Lib.hid (fun W=>operand_n true r m none 0 0 [] W (BytesAt.nil W) (by omega))
  clear h
  go_enter Tryz.func102,Tryz.ntmps102
  go_wp2_with fail
  refine (B.out _).mono ?_
  rintro e w1 ⟨rfl,rfl⟩
  go_wp2_with fail
  refine (O.out _).mono ?_
  rintro e w1 ⟨v,rfl,o1,b1⟩
  go_wp2_with fail
  go_ret2
  exact ⟨_,rfl,o1,b1⟩
theorem num4_n (d:Int)(h0:-9223372036854775808≤d)(h1:d≤9223372036854775807)(W:World):Calls Tryz.prog 104 #[.int .i64 d,.int .i64 4] W (RetB (bif fitB d 4 then numL d 4 else []) (bif fitB d 4 then 0 else 2) W):=num_n d 4 h0 h1 W
def MemB (r m d:Int)(W:World):Ending→World→Prop:=RetB (bif memB r m d then memL r m d else []) (bif memB r m d then 0 else 2) W
theorem mem_n (r m d:Int)(h0:-9223372036854775808≤d)(h1:d≤9223372036854775807)(W:World):Calls Tryz.prog 100 #[.int .i8 r,.int .i8 m,.int .i64 d] W (MemB r m d W):=by
 have B:=Lib.hid (fun W=>both_n r m W)
 have D:=Lib.hid (fun W=>num4_n d h0 h1 W)
 clear h0 h1
 unfold MemB memB
 cases h:bothB r m
 ·rw [h] at B
  unfold RetB
  go_enter Tryz.func100,Tryz.ntmps100
  go_wp2_with fail
  refine (D.out _).mono ?_
  rintro e w1 ⟨v1,rfl,o1,b1⟩
  go_wp2_with fail
  refine (B.out _).mono ?_
  rintro e w2 ⟨rfl,rfl⟩
  go_wp2_with fail
  go_ret2
  exact ⟨_,rfl,Bts.nil _ _,b1⟩
 ·rw [h] at B
  have hm:=(bothB_iff.1 h).2
  cases g:fitB d 4
  ·rw [g] at D
   unfold RetB
   go_enter Tryz.func100,Tryz.ntmps100
   go_wp2_with fail
   refine (D.out _).mono ?_
   rintro e w1 ⟨v1,rfl,o1,b1⟩
   go_wp2_with fail
   refine (B.out _).mono ?_
   rintro e w2 ⟨rfl,rfl⟩
   go_wp2_with fail
   go_ret2
   exact ⟨_,rfl,Bts.nil _ _,b1⟩
  ·rw [g] at D
   have BT:=Lib.hid (fun W=>between_n m hm.1 hm.2 W)
   have OP:=Lib.hid (fun xa l c zs W hE hl=>operand_n false r m xa l c zs W hE hl)
   have OK1:=Lib.hid (numL_ok d 4)
   have OK2:=Lib.hid ((midL_ok m).append (numL_ok d 4))
   have HL:=Lib.hid (numL_length d 4)
   have HM:=Lib.hid (show (midL m).length≤1 by unfold midL;split <;> simp)
   clear h g hm
   show Calls _ _ _ _ (RetB (memL r m d) 0 W)
   unfold RetB memL
   generalize numL d 4=nl at *
   generalize midL m=ml at *
   have H5:=Lib.hid (show (ml ++ nl).length≤1000 by rw [List.length_append];have:=HL.out;have:=HM.out;omega)
   generalize hL:ml ++ nl=L at *
   have EL:=Lib.hid hL
   clear hL
   go_enter Tryz.func100,Tryz.ntmps100
   go_wp2_with fail
   refine (D.out _).mono ?_
   rintro e w1 ⟨v1,rfl,o1,b1⟩
   obtain ⟨xa,c,rfl,E1⟩:=o1.at OK1.out
   have E1:=Lib.hid E1
   have B1:=Lib.hid b1
   clear o1 b1 D
   go_wp2_with fail
   refine (B.out _).mono ?_
   rintro e w2 ⟨rfl,rfl⟩
   go_wp2_with fail
   refine (BT.out _).mono ?_
   rintro e w2 ⟨v2,rfl,o2,b2⟩
   have O2:=Lib.hid o2
   have E2:=Lib.hid (E1.out.below b2)
   have B2:=Lib.hid (below_call B1.out b2)
   have S12:=Lib.hid (Nat.le_trans b2.size (Nat.le_refl _))
   clear o2 b2 B BT E1
   go_wp2_with (at_builtin;refine wpList_append_b rfl _ _ rfl w1.heap.size _ ml rfl O2.out _ _ _ nl rfl E2.out (by have:=HL.out;have:=HM.out;omega) S12.out ?_)
   intro v3 w3 o3 g3
   have B3:=Lib.hid (below_grown B2.out g3 (fun j hj=>Nat.le_trans B1.out.size (O2.out.lt j hj)))
   clear g3
   rw [EL.out] at o3
   obtain ⟨ya,cy,rfl,E3⟩:=o3.at OK2.out
   clear o3
   have E3:=Lib.hid E3
   generalize L.length=n at *
   go_wp2_with fail
   refine (OP.out _ _ _ _ _ E3.out H5.out).mono ?_
   rintro e w4 ⟨v4,rfl,o4,b4⟩
   have O4:=Lib.hid (o4.mono B3.out.size)
   have B4:=Lib.hid (below_call B3.out b4)
   clear o4 b4
   go_wp2_with fail
   go_ret2
   exact ⟨_,rfl,O4.out,B4.out⟩
end Go.Proofs.YtjhedldplmhmjaaGreatDoor.Mrm
namespace Go.Proofs.YtjhedldplmhmjaaGreatDoor
def cutI (v w:Int):Int:=if w=8 then v % 256 else if w=16 then v % 65536 else if w=32 then v % 4294967296 else v
def sgnI (v w:Int):Int:=
 if w=8 then (v+128) % 256 - 128 else if w=16 then (v+32768) % 65536 - 32768 else if w=32 then (v+2147483648) % 4294967296 - 2147483648 else (v+9223372036854775808) % 18446744073709551616 - 9223372036854775808
def signI (v w:Int):Int:=
 if w=8 then ((v+128) % 256 - 128) % 18446744073709551616 else if w=16 then ((v+32768) % 65536 - 32768) % 18446744073709551616 else if w=32 then ((v+2147483648) % 4294967296 - 2147483648) % 18446744073709551616 else v
def longB (w:Int):Bool:=w == 32 || w == 64
def cntI (w b:Int):Nat:=if w=32 then (b % 32).toNat else (b % 64).toNat
def opI (op w a b:Int):Int:=
 if op=0 then (a+b) % 18446744073709551616
 else if op=1 then (a - b) % 18446744073709551616
 else if op=2 then (a * b) % 18446744073709551616
 else if op=3 then (if b=0 then 0 else a / b)
 else if op=4 then ((a.toNat ||| b.toNat:Nat):Int)
 else if op=5 then ((a.toNat &&& b.toNat:Nat):Int)
 else if op=6 then (a * 2 ^ cntI w b) % 18446744073709551616
 else if op=7 then a / 2 ^ cntI w b
 else if op=8 then (-a) % 18446744073709551616
 else if op=9 then (if b=0 then a else a % b)
 else if op=10 then ((a.toNat ^^^ b.toNat:Nat):Int)
 else if op=11 then b
 else (sgnI a w / 2 ^ cntI w b) % 18446744073709551616
theorem opI_0 (w a b:Int):opI 0 w a b=(a+b) % 18446744073709551616:=rfl
theorem opI_1 (w a b:Int):opI 1 w a b=(a - b) % 18446744073709551616:=rfl
theorem opI_2 (w a b:Int):opI 2 w a b=(a * b) % 18446744073709551616:=rfl
theorem opI_3 (w a b:Int):opI 3 w a b=if b=0 then 0 else a / b:=rfl
theorem opI_4 (w a b:Int):opI 4 w a b=((a.toNat ||| b.toNat:Nat):Int):=rfl
theorem opI_5 (w a b:Int):opI 5 w a b=((a.toNat &&& b.toNat:Nat):Int):=rfl
theorem opI_6 (w a b:Int):opI 6 w a b=(a * 2 ^ cntI w b) % 18446744073709551616:=rfl
theorem opI_7 (w a b:Int):opI 7 w a b=a / 2 ^ cntI w b:=rfl
theorem opI_8 (w a b:Int):opI 8 w a b=(-a) % 18446744073709551616:=rfl
theorem opI_9 (w a b:Int):opI 9 w a b=if b=0 then a else a % b:=rfl
theorem opI_10 (w a b:Int):opI 10 w a b=((a.toNat ^^^ b.toNat:Nat):Int):=rfl
theorem opI_11 (w a b:Int):opI 11 w a b=b:=rfl
theorem opI_12 (w a b:Int):opI 12 w a b=(sgnI a w / 2 ^ cntI w b) % 18446744073709551616:=rfl
theorem and_31 (b:Int)(h0:0≤b)(h1:b<18446744073709551616):bits .and .u64 b 31=b % 32:=by
 rw [u64_and b 31 h0 h1 (by omega) (by omega)]
 have:b.toNat &&& (31:Int).toNat=b.toNat % 32:=Nat.and_two_pow_sub_one_eq_mod b.toNat 5
 rw [this];omega
theorem and_63 (b:Int)(h0:0≤b)(h1:b<18446744073709551616):bits .and .u64 b 63=b % 64:=by
 rw [u64_and b 63 h0 h1 (by omega) (by omega)]
 have:b.toNat &&& (63:Int).toNat=b.toNat % 64:=Nat.and_two_pow_sub_one_eq_mod b.toNat 6
 rw [this];omega
def doI (op w a b:Int):Int:=if 0≤op∧op≤12∧longB w=true then cutI (opI op w (cutI a w) (cutI b w)) w else 0
def doE (op w:Int):Int:=if 0≤op∧op≤12∧longB w=true then 0 else 2
def ccB (cc w a b:Int):Bool:=
 if cc=0 then a == b
 else if cc=1 then a != b
 else if cc=2 then decide (b<a)
 else if cc=3 then decide (b≤a)
 else if cc=4 then decide (a<b)
 else if cc=5 then decide (a≤b)
 else if cc=6 then decide (sgnI b w<sgnI a w)
 else if cc=7 then decide (sgnI b w≤sgnI a w)
 else if cc=8 then decide (sgnI a w<sgnI b w)
 else if cc=9 then decide (sgnI a w≤sgnI b w)
 else ((a.toNat &&& b.toNat:Nat):Int) != 0
theorem cutI_8 (v:Int):cutI v 8=v % 256:=rfl
theorem cutI_16 (v:Int):cutI v 16=v % 65536:=rfl
theorem cutI_32 (v:Int):cutI v 32=v % 4294967296:=rfl
theorem cutI_64 (v:Int):cutI v 64=v:=rfl
theorem wrap64_sign32 (v:Int):IntKind.i64.wrap (signI v 32)=sgnI v 32:=by
 rw [IntKind.wrap_i64];unfold signI sgnI;simp only [if_neg (show ¬ (32:Int)=8 by omega),if_neg (show ¬ (32:Int)=16 by omega),if_pos];omega
theorem wrap64_sign64 (v:Int):IntKind.i64.wrap (signI v 64)=sgnI v 64:=by
 rw [IntKind.wrap_i64];unfold signI sgnI;simp only [if_neg (show ¬ (64:Int)=8 by omega),if_neg (show ¬ (64:Int)=16 by omega),if_neg (show ¬ (64:Int)=32 by omega)]
theorem longB_cases {w:Int}(h:longB w=true):w=32∨w=64:=by
 unfold longB at h;simpa using h
theorem cutI_bd (v w:Int)(h0:0≤v)(h1:v<18446744073709551616):0≤cutI v w∧cutI v w<18446744073709551616:=by
 unfold cutI;split
 ·omega
 split
 ·omega
 split
 ·omega
 ·omega
theorem or_bd (a b:Int)(ha1:a<18446744073709551616)(hb1:b<18446744073709551616):((a.toNat ||| b.toNat:Nat):Int)<18446744073709551616:=by
 have:=@Nat.or_lt_two_pow a.toNat b.toNat 64 (by omega) (by omega)
 omega
theorem xor_bd (a b:Int)(ha1:a<18446744073709551616)(hb1:b<18446744073709551616):((a.toNat ^^^ b.toNat:Nat):Int)<18446744073709551616:=by
 have:=@Nat.xor_lt_two_pow a.toNat b.toNat 64 (by omega) (by omega)
 omega
theorem and_bd (a b:Int)(ha1:a<18446744073709551616):((a.toNat &&& b.toNat:Nat):Int)<18446744073709551616:=by
 have:=@Nat.and_le_left a.toNat b.toNat
 omega
theorem div_bd (a d:Int)(h0:0≤a)(h1:a<18446744073709551616)(hd:0≤d):0≤a / d∧a / d<18446744073709551616:=by
 refine ⟨Int.ediv_nonneg h0 hd,?_⟩
 have:=Int.ediv_le_self d h0
 omega
theorem pow_nonneg' (n:Nat):0≤(2:Int) ^ n:=Int.le_of_lt (Int.pow_pos (by omega))
theorem opI_bd (op w a b:Int)(ha0:0≤a)(ha1:a<18446744073709551616)(hb0:0≤b)(hb1:b<18446744073709551616):0≤opI op w a b∧opI op w a b<18446744073709551616:=by
 by_cases c0:op=0
 ·rw [c0,opI_0]
  omega
 by_cases c1:op=1
 ·rw [c1,opI_1]
  omega
 by_cases c2:op=2
 ·rw [c2,opI_2]
  omega
 by_cases c3:op=3
 ·rw [c3,opI_3]
  split
  ·omega
  ·exact div_bd a b ha0 ha1 hb0
 by_cases c4:op=4
 ·rw [c4,opI_4]
  exact ⟨by omega,or_bd a b ha1 hb1⟩
 by_cases c5:op=5
 ·rw [c5,opI_5]
  exact ⟨by omega,and_bd a b ha1⟩
 by_cases c6:op=6
 ·rw [c6,opI_6]
  omega
 by_cases c7:op=7
 ·rw [c7,opI_7]
  exact div_bd a _ ha0 ha1 (pow_nonneg' _)
 by_cases c8:op=8
 ·rw [c8,opI_8]
  omega
 by_cases c9:op=9
 ·rw [c9,opI_9]
  split
  ·omega
  ·have:=Int.emod_nonneg a (show b≠0 by assumption)
   have:=Int.emod_lt_of_pos a (show 0<b by omega)
   omega
 by_cases c10:op=10
 ·rw [c10,opI_10]
  exact ⟨by omega,xor_bd a b ha1 hb1⟩
 by_cases c11:op=11
 ·rw [c11,opI_11]
  omega
 have e:opI op w a b=(sgnI a w / 2 ^ cntI w b) % 18446744073709551616:=by
  unfold opI
  rw [if_neg c0,if_neg c1,if_neg c2,if_neg c3,if_neg c4,if_neg c5,if_neg c6,if_neg c7,if_neg c8,if_neg c9,if_neg c10,if_neg c11]
 rw [e];omega
theorem doI_bd (op w a b:Int)(ha0:0≤a)(ha1:a<18446744073709551616)(hb0:0≤b)(hb1:b<18446744073709551616):0≤doI op w a b∧doI op w a b<18446744073709551616:=by
 unfold doI
 split
 ·obtain ⟨c0,c1⟩:=cutI_bd a w ha0 ha1
  obtain ⟨d0,d1⟩:=cutI_bd b w hb0 hb1
  obtain ⟨e0,e1⟩:=opI_bd op w _ _ c0 c1 d0 d1
  exact cutI_bd _ w e0 e1
 ·omega
theorem signI_8 (v:Int):signI v 8=((v+128) % 256 - 128) % 18446744073709551616:=rfl
theorem signI_16 (v:Int):signI v 16=((v+32768) % 65536 - 32768) % 18446744073709551616:=rfl
theorem signI_32 (v:Int):signI v 32=((v+2147483648) % 4294967296 - 2147483648) % 18446744073709551616:=rfl
open Go.RowKit
theorem neq_of {a b:Int}(h:¬ a=b):(a == b)=false:=by simpa using h
theorem retI {k:IntKind}{a b:Int}(h:a=b):Ending.returned (.int k a)=.returned (.int k b):=by rw [h]
theorem wrap_u16' (n:Int):IntKind.u64.wrap (IntKind.u16.wrap n)=n % 65536:=by
 simp only [IntKind.wrap,IntKind.bits,IntKind.signed];simp;omega
theorem wrap_i8' (n:Int):IntKind.i8.wrap n=(n+128) % 256 - 128:=by
 simp only [IntKind.wrap,IntKind.bits,IntKind.signed];simp;split <;> omega
theorem wrap_i16' (n:Int):IntKind.i16.wrap n=(n+32768) % 65536 - 32768:=by
 simp only [IntKind.wrap,IntKind.bits,IntKind.signed];simp;split <;> omega
theorem wrap_i32' (n:Int):wrap32 n=(n+2147483648) % 4294967296 - 2147483648:=by rw [wrap32]
theorem retB {a b:Bool}(h:a=b):Ending.returned (.bool a)=.returned (.bool b):=by rw [h]
theorem cut_any (v w:Int)(W:World):
  Calls Tryz.prog 34 #[.int .u64 v,.int .i8 w] W fun e w'=>e=.returned (.int .u64 (cutI v w))∧W=w':=by
 by_cases a:w=8
 ·subst a
  go_enter Tryz.func34,Tryz.ntmps34
  go_wp2
  go_ret
  exact ⟨rfl,rfl⟩
 by_cases b:w=16
 ·subst b
  go_enter Tryz.func34,Tryz.ntmps34
  go_wp2
  go_ret
  exact ⟨retI (by rw [cutI_16,wrap_u16']),rfl⟩
 by_cases c:w=32
 ·subst c
  go_enter Tryz.func34,Tryz.ntmps34
  go_wp2
  go_ret
  exact ⟨rfl,rfl⟩
 have d:cutI v w=v:=by unfold cutI;rw [if_neg a,if_neg b,if_neg c]
 rw [d];clear d
 have a':=neq_of a
 have b':=neq_of b
 have c':=neq_of c
 go_enter Tryz.func34,Tryz.ntmps34
 go_wp2
 go_ret
 exact ⟨rfl,rfl⟩
theorem sign_any (v w:Int)(W:World):
  Calls Tryz.prog 133 #[.int .u64 v,.int .i8 w] W fun e w'=>e=.returned (.int .u64 (signI v w))∧W=w':=by
 by_cases a:w=8
 ·subst a
  go_enter Tryz.func133,Tryz.ntmps133
  go_wp2
  go_ret
  exact ⟨retI (by rw [signI_8,IntKind.wrap_u64,wrap_i8']),rfl⟩
 by_cases b:w=16
 ·subst b
  go_enter Tryz.func133,Tryz.ntmps133
  go_wp2
  go_ret
  exact ⟨retI (by rw [signI_16,IntKind.wrap_u64,wrap_i16']),rfl⟩
 by_cases c:w=32
 ·subst c
  go_enter Tryz.func133,Tryz.ntmps133
  go_wp2
  go_ret
  exact ⟨retI (by rw [signI_32,IntKind.wrap_u64,wrap_i32']),rfl⟩
 have d:signI v w=v:=by unfold signI;rw [if_neg a,if_neg b,if_neg c]
 rw [d];clear d
 have a':=neq_of a
 have b':=neq_of b
 have c':=neq_of c
 go_enter Tryz.func133,Tryz.ntmps133
 go_wp2
 go_ret
 exact ⟨rfl,rfl⟩
theorem computes_any (w:Int)(W:World):
  Calls Tryz.prog 108 #[.int .i8 w] W fun e w'=>e=.returned (.bool (longB w))∧W=w':=by
 by_cases a:w=32
 ·subst a
  go_enter Tryz.func108,Tryz.ntmps108
  go_wp2
  go_ret
  exact ⟨rfl,rfl⟩
 have d:longB w=(w == 64):=by unfold longB;rw [neq_of a];rfl
 rw [d];clear d
 have a':=neq_of a
 go_enter Tryz.func108,Tryz.ntmps108
 go_wp2
 go_ret
 exact ⟨rfl,rfl⟩
theorem quiet_left {P:Program}{f:FuncId}{args:Array Value}{w:World}{n:Nat}{v:Value}
  (h:Calls P f args (w.drewN n) fun e w'=>e=.returned v∧w.drewN n=w'):Calls P f args (w.drewN n) fun e w''=>e=.returned v∧∃ m,w''=w.drewN m:=
 h.mono fun _ _ ⟨he,hm⟩=>⟨he,n,hm.symm⟩
theorem compute_0 (w a b:Int)(W:World):
  Calls Tryz.prog 109 #[.int .i8 0,.int .i8 w,.int .u64 a,.int .u64 b] W fun e w'=>e=.returned (.int .u64 (opI 0 w a b))∧Below W.heap.size W w':=by
 have hmf:∀ (fn:Fn) (first cap:Array Value) (w:World),(Instr.makeFunc fn first cap).run Tryz.prog w=.ok (.func fn first cap) w:=fun _ _ _ _=>rfl
 go_enter Tryz.func109,Tryz.ntmps109
 go_wp2
 go_ret
 refine ⟨retI ?_,((((Below.refl _ _).alloc (Nat.le_refl _) _).alloc (by simp) _).alloc (by simp;omega) _)⟩
 rw [opI_0,IntKind.wrap_u64]
theorem compute_1 (w a b:Int)(W:World):
  Calls Tryz.prog 109 #[.int .i8 1,.int .i8 w,.int .u64 a,.int .u64 b] W fun e w'=>e=.returned (.int .u64 (opI 1 w a b))∧Below W.heap.size W w':=by
 have hmf:∀ (fn:Fn) (first cap:Array Value) (w:World),(Instr.makeFunc fn first cap).run Tryz.prog w=.ok (.func fn first cap) w:=fun _ _ _ _=>rfl
 go_enter Tryz.func109,Tryz.ntmps109
 go_wp2
 go_ret
 refine ⟨retI ?_,((((Below.refl _ _).alloc (Nat.le_refl _) _).alloc (by simp) _).alloc (by simp;omega) _)⟩
 rw [opI_1,IntKind.wrap_u64]
theorem compute_2 (w a b:Int)(W:World):
  Calls Tryz.prog 109 #[.int .i8 2,.int .i8 w,.int .u64 a,.int .u64 b] W fun e w'=>e=.returned (.int .u64 (opI 2 w a b))∧Below W.heap.size W w':=by
 have hmf:∀ (fn:Fn) (first cap:Array Value) (w:World),(Instr.makeFunc fn first cap).run Tryz.prog w=.ok (.func fn first cap) w:=fun _ _ _ _=>rfl
 go_enter Tryz.func109,Tryz.ntmps109
 go_wp2
 go_ret
 refine ⟨retI ?_,((((Below.refl _ _).alloc (Nat.le_refl _) _).alloc (by simp) _).alloc (by simp;omega) _)⟩
 rw [opI_2,IntKind.wrap_u64]
theorem compute_4 (w a b:Int)(W:World)(ha0:0≤a)(ha1:a<18446744073709551616)(hb0:0≤b)(hb1:b<18446744073709551616):
  Calls Tryz.prog 109 #[.int .i8 4,.int .i8 w,.int .u64 a,.int .u64 b] W fun e w'=>e=.returned (.int .u64 (opI 4 w a b))∧Below W.heap.size W w':=by
 have hmf:∀ (fn:Fn) (first cap:Array Value) (w:World),(Instr.makeFunc fn first cap).run Tryz.prog w=.ok (.func fn first cap) w:=fun _ _ _ _=>rfl
 go_enter Tryz.func109,Tryz.ntmps109
 go_wp2
 go_ret
 refine ⟨retI ?_,((((Below.refl _ _).alloc (Nat.le_refl _) _).alloc (by simp) _).alloc (by simp;omega) _)⟩
 rw [opI_4,u64_or a b ha0 ha1 hb0 hb1]
theorem compute_5 (w a b:Int)(W:World)(ha0:0≤a)(ha1:a<18446744073709551616)(hb0:0≤b)(hb1:b<18446744073709551616):
  Calls Tryz.prog 109 #[.int .i8 5,.int .i8 w,.int .u64 a,.int .u64 b] W fun e w'=>e=.returned (.int .u64 (opI 5 w a b))∧Below W.heap.size W w':=by
 have hmf:∀ (fn:Fn) (first cap:Array Value) (w:World),(Instr.makeFunc fn first cap).run Tryz.prog w=.ok (.func fn first cap) w:=fun _ _ _ _=>rfl
 go_enter Tryz.func109,Tryz.ntmps109
 go_wp2
 go_ret
 refine ⟨retI ?_,((((Below.refl _ _).alloc (Nat.le_refl _) _).alloc (by simp) _).alloc (by simp;omega) _)⟩
 rw [opI_5,u64_and a b ha0 ha1 hb0 hb1]
theorem compute_8 (w a b:Int)(W:World):
  Calls Tryz.prog 109 #[.int .i8 8,.int .i8 w,.int .u64 a,.int .u64 b] W fun e w'=>e=.returned (.int .u64 (opI 8 w a b))∧Below W.heap.size W w':=by
 have hmf:∀ (fn:Fn) (first cap:Array Value) (w:World),(Instr.makeFunc fn first cap).run Tryz.prog w=.ok (.func fn first cap) w:=fun _ _ _ _=>rfl
 go_enter Tryz.func109,Tryz.ntmps109
 go_wp2
 go_ret
 refine ⟨retI ?_,((((Below.refl _ _).alloc (Nat.le_refl _) _).alloc (by simp) _).alloc (by simp;omega) _)⟩
 rw [opI_8,IntKind.wrap_u64]
theorem compute_10 (w a b:Int)(W:World)(ha0:0≤a)(ha1:a<18446744073709551616)(hb0:0≤b)(hb1:b<18446744073709551616):
  Calls Tryz.prog 109 #[.int .i8 10,.int .i8 w,.int .u64 a,.int .u64 b] W fun e w'=>e=.returned (.int .u64 (opI 10 w a b))∧Below W.heap.size W w':=by
 have hmf:∀ (fn:Fn) (first cap:Array Value) (w:World),(Instr.makeFunc fn first cap).run Tryz.prog w=.ok (.func fn first cap) w:=fun _ _ _ _=>rfl
 go_enter Tryz.func109,Tryz.ntmps109
 go_wp2
 go_ret
 refine ⟨retI ?_,((((Below.refl _ _).alloc (Nat.le_refl _) _).alloc (by simp) _).alloc (by simp;omega) _)⟩
 rw [opI_10,u64_xor a b ha0 ha1 hb0 hb1]
theorem compute_11 (w a b:Int)(W:World):
  Calls Tryz.prog 109 #[.int .i8 11,.int .i8 w,.int .u64 a,.int .u64 b] W fun e w'=>e=.returned (.int .u64 (opI 11 w a b))∧Below W.heap.size W w':=by
 have hmf:∀ (fn:Fn) (first cap:Array Value) (w:World),(Instr.makeFunc fn first cap).run Tryz.prog w=.ok (.func fn first cap) w:=fun _ _ _ _=>rfl
 go_enter Tryz.func109,Tryz.ntmps109
 go_wp2
 go_ret
 refine ⟨retI ?_,((((Below.refl _ _).alloc (Nat.le_refl _) _).alloc (by simp) _).alloc (by simp;omega) _)⟩
 rw [opI_11]
theorem compute_6_32 (a b:Int)(W:World)(hb0:0≤b)(hb1:b<18446744073709551616):
  Calls Tryz.prog 109 #[.int .i8 6,.int .i8 32,.int .u64 a,.int .u64 b] W fun e w'=>e=.returned (.int .u64 (opI 6 32 a b))∧Below W.heap.size W w':=by
 have hmf:∀ (fn:Fn) (first cap:Array Value) (w:World),(Instr.makeFunc fn first cap).run Tryz.prog w=.ok (.func fn first cap) w:=fun _ _ _ _=>rfl
 have e1:=and_31 b hb0 hb1
 have e2:0≤b % 32:=by omega
 have e3:min (b % 32).toNat 64=(b % 32).toNat:=by omega
 have e4:cntI 32 b=(b % 32).toNat:=rfl
 go_enter Tryz.func109,Tryz.ntmps109
 go_wp2
 go_ret
 refine ⟨retI ?_,((((Below.refl _ _).alloc (Nat.le_refl _) _).alloc (by simp) _).alloc (by simp;omega) _)⟩
 rw [opI_6,IntKind.wrap_u64,e4]
theorem compute_7_32 (a b:Int)(W:World)(hb0:0≤b)(hb1:b<18446744073709551616):
  Calls Tryz.prog 109 #[.int .i8 7,.int .i8 32,.int .u64 a,.int .u64 b] W fun e w'=>e=.returned (.int .u64 (opI 7 32 a b))∧Below W.heap.size W w':=by
 have hmf:∀ (fn:Fn) (first cap:Array Value) (w:World),(Instr.makeFunc fn first cap).run Tryz.prog w=.ok (.func fn first cap) w:=fun _ _ _ _=>rfl
 have e1:=and_31 b hb0 hb1
 have e2:0≤b % 32:=by omega
 have e3:min (b % 32).toNat 64=(b % 32).toNat:=by omega
 have e4:cntI 32 b=(b % 32).toNat:=rfl
 go_enter Tryz.func109,Tryz.ntmps109
 go_wp2
 go_ret
 refine ⟨retI ?_,((((Below.refl _ _).alloc (Nat.le_refl _) _).alloc (by simp) _).alloc (by simp;omega) _)⟩
 rw [opI_7,e4]
theorem count_32 (b:Int)(p:Addr)(W:World)(h0:0≤b)(h1:b<18446744073709551616)(hp:W.cell? p=some (.int .i8 32)):
  Calls Tryz.prog 119 #[.int .u64 b,.pointer (some p)] W fun e w'=>e=.returned (.int .u64 (b % 32))∧W=w':=by
 go_enter Tryz.func119,Tryz.ntmps119
 go_wp2
 go_ret
 exact ⟨retI (by rw [and_31 b h0 h1]),rfl⟩
theorem arsh_32 (a b:Int)(p q:Addr)(W:World)(h0:0≤b)(h1:b<18446744073709551616)(hq:W.cell? q=some (.int .i8 32))
  (hp:W.cell? p=some (.func (.func 119) #[] #[.pointer (some q)])):
  Calls Tryz.prog 132 #[.int .u64 a,.int .u64 b,.pointer (some q),.pointer (some p)] W fun e w'=>e=.returned (.int .u64 (opI 12 32 a b))∧∃ n,W.drewN n=w':=by
 have e2:0≤b % 32:=by omega
 have e3:min (b % 32).toNat 64=(b % 32).toNat:=by omega
 go_enter Tryz.func132,Tryz.ntmps132
 go_wp2
 go_quiet ((first | (go_at_call 133;exact quiet_left (sign_any _ _ _)) | (go_at_call 119;exact quiet_left (count_32 _ _ _ h0 h1 hq))))
 go_wp2
 go_ret
 refine ⟨retI ?_,_,rfl⟩
 rw [opI_12,IntKind.wrap_u64,show wrap64 (signI a 32)=sgnI a 32 from (IntWalk.i64_left _).symm.trans (wrap64_sign32 a)];rfl
theorem compute_12_32 (a b:Int)(W:World)(hb0:0≤b)(hb1:b<18446744073709551616):
  Calls Tryz.prog 109 #[.int .i8 12,.int .i8 32,.int .u64 a,.int .u64 b] W fun e w'=>e=.returned (.int .u64 (opI 12 32 a b))∧Below W.heap.size W w':=by
 have hmf:∀ (fn:Fn) (first cap:Array Value) (w:World),(Instr.makeFunc fn first cap).run Tryz.prog w=.ok (.func fn first cap) w:=fun _ _ _ _=>rfl
 go_enter Tryz.func109,Tryz.ntmps109
 go_wp2_with (go_at_call 132;refine (arsh_32 a b ⟨W.heap.size+1,0,none⟩ ⟨W.heap.size,0,none⟩ _ hb0 hb1 (by go_simp) (by go_simp)).mono ?_;rintro e w' ⟨rfl,n,rfl⟩)
 go_ret
 refine ⟨rfl,below_drewN ((((Below.refl _ _).alloc (Nat.le_refl _) _).alloc (by simp) _).alloc (by simp;omega) _) _⟩
theorem compute_6_64 (a b:Int)(W:World)(hb0:0≤b)(hb1:b<18446744073709551616):
  Calls Tryz.prog 109 #[.int .i8 6,.int .i8 64,.int .u64 a,.int .u64 b] W fun e w'=>e=.returned (.int .u64 (opI 6 64 a b))∧Below W.heap.size W w':=by
 have hmf:∀ (fn:Fn) (first cap:Array Value) (w:World),(Instr.makeFunc fn first cap).run Tryz.prog w=.ok (.func fn first cap) w:=fun _ _ _ _=>rfl
 have e1:=and_63 b hb0 hb1
 have e2:0≤b % 64:=by omega
 have e3:min (b % 64).toNat 64=(b % 64).toNat:=by omega
 have e4:cntI 64 b=(b % 64).toNat:=rfl
 go_enter Tryz.func109,Tryz.ntmps109
 go_wp2
 go_ret
 refine ⟨retI ?_,((((Below.refl _ _).alloc (Nat.le_refl _) _).alloc (by simp) _).alloc (by simp;omega) _)⟩
 rw [opI_6,IntKind.wrap_u64,e4]
theorem compute_7_64 (a b:Int)(W:World)(hb0:0≤b)(hb1:b<18446744073709551616):
  Calls Tryz.prog 109 #[.int .i8 7,.int .i8 64,.int .u64 a,.int .u64 b] W fun e w'=>e=.returned (.int .u64 (opI 7 64 a b))∧Below W.heap.size W w':=by
 have hmf:∀ (fn:Fn) (first cap:Array Value) (w:World),(Instr.makeFunc fn first cap).run Tryz.prog w=.ok (.func fn first cap) w:=fun _ _ _ _=>rfl
 have e1:=and_63 b hb0 hb1
 have e2:0≤b % 64:=by omega
 have e3:min (b % 64).toNat 64=(b % 64).toNat:=by omega
 have e4:cntI 64 b=(b % 64).toNat:=rfl
 go_enter Tryz.func109,Tryz.ntmps109
 go_wp2
 go_ret
 refine ⟨retI ?_,((((Below.refl _ _).alloc (Nat.le_refl _) _).alloc (by simp) _).alloc (by simp;omega) _)⟩
 rw [opI_7,e4]
theorem count_64 (b:Int)(p:Addr)(W:World)(h0:0≤b)(h1:b<18446744073709551616)(hp:W.cell? p=some (.int .i8 64)):
  Calls Tryz.prog 119 #[.int .u64 b,.pointer (some p)] W fun e w'=>e=.returned (.int .u64 (b % 64))∧W=w':=by
 go_enter Tryz.func119,Tryz.ntmps119
 go_wp2
 go_ret
 exact ⟨retI (by rw [and_63 b h0 h1]),rfl⟩
theorem arsh_64 (a b:Int)(p q:Addr)(W:World)(h0:0≤b)(h1:b<18446744073709551616)(hq:W.cell? q=some (.int .i8 64))
  (hp:W.cell? p=some (.func (.func 119) #[] #[.pointer (some q)])):
  Calls Tryz.prog 132 #[.int .u64 a,.int .u64 b,.pointer (some q),.pointer (some p)] W fun e w'=>e=.returned (.int .u64 (opI 12 64 a b))∧∃ n,W.drewN n=w':=by
 have e2:0≤b % 64:=by omega
 have e3:min (b % 64).toNat 64=(b % 64).toNat:=by omega
 go_enter Tryz.func132,Tryz.ntmps132
 go_wp2
 go_quiet ((first | (go_at_call 133;exact quiet_left (sign_any _ _ _)) | (go_at_call 119;exact quiet_left (count_64 _ _ _ h0 h1 hq))))
 go_wp2
 go_ret
 refine ⟨retI ?_,_,rfl⟩
 rw [opI_12,IntKind.wrap_u64,show wrap64 (signI a 64)=sgnI a 64 from (IntWalk.i64_left _).symm.trans (wrap64_sign64 a)];rfl
theorem compute_12_64 (a b:Int)(W:World)(hb0:0≤b)(hb1:b<18446744073709551616):
  Calls Tryz.prog 109 #[.int .i8 12,.int .i8 64,.int .u64 a,.int .u64 b] W fun e w'=>e=.returned (.int .u64 (opI 12 64 a b))∧Below W.heap.size W w':=by
 have hmf:∀ (fn:Fn) (first cap:Array Value) (w:World),(Instr.makeFunc fn first cap).run Tryz.prog w=.ok (.func fn first cap) w:=fun _ _ _ _=>rfl
 go_enter Tryz.func109,Tryz.ntmps109
 go_wp2_with (go_at_call 132;refine (arsh_64 a b ⟨W.heap.size+1,0,none⟩ ⟨W.heap.size,0,none⟩ _ hb0 hb1 (by go_simp) (by go_simp)).mono ?_;rintro e w' ⟨rfl,n,rfl⟩)
 go_ret
 refine ⟨rfl,below_drewN ((((Below.refl _ _).alloc (Nat.le_refl _) _).alloc (by simp) _).alloc (by simp;omega) _) _⟩
theorem compute_3 (w a b:Int)(W:World)(ha0:0≤a)(ha1:a<18446744073709551616)(hb0:0≤b)(hb1:b<18446744073709551616):
  Calls Tryz.prog 109 #[.int .i8 3,.int .i8 w,.int .u64 a,.int .u64 b] W fun e w'=>e=.returned (.int .u64 (opI 3 w a b))∧Below W.heap.size W w':=by
 have hmf:∀ (fn:Fn) (first cap:Array Value) (w:World),(Instr.makeFunc fn first cap).run Tryz.prog w=.ok (.func fn first cap) w:=fun _ _ _ _=>rfl
 by_cases hz:b=0
 ·subst hz
  clear hb0 hb1
  go_enter Tryz.func109,Tryz.ntmps109
  go_wp2
  go_ret
  refine ⟨retI ?_,((((Below.refl _ _).alloc (Nat.le_refl _) _).alloc (by simp) _).alloc (by simp;omega) _)⟩
  rw [opI_3,if_pos rfl]
 ·have hz':=neq_of hz
  go_enter Tryz.func109,Tryz.ntmps109
  go_wp2
  go_ret
  refine ⟨retI ?_,((((Below.refl _ _).alloc (Nat.le_refl _) _).alloc (by simp) _).alloc (by simp;omega) _)⟩
  rw [opI_3,if_neg hz]
theorem compute_9 (w a b:Int)(W:World)(ha0:0≤a)(ha1:a<18446744073709551616)(hb0:0≤b)(hb1:b<18446744073709551616):
  Calls Tryz.prog 109 #[.int .i8 9,.int .i8 w,.int .u64 a,.int .u64 b] W fun e w'=>e=.returned (.int .u64 (opI 9 w a b))∧Below W.heap.size W w':=by
 have hmf:∀ (fn:Fn) (first cap:Array Value) (w:World),(Instr.makeFunc fn first cap).run Tryz.prog w=.ok (.func fn first cap) w:=fun _ _ _ _=>rfl
 by_cases hz:b=0
 ·subst hz
  clear hb0 hb1
  go_enter Tryz.func109,Tryz.ntmps109
  go_wp2
  go_ret
  refine ⟨retI ?_,((((Below.refl _ _).alloc (Nat.le_refl _) _).alloc (by simp) _).alloc (by simp;omega) _)⟩
  rw [opI_9,if_pos rfl]
 ·have hz':=neq_of hz
  go_enter Tryz.func109,Tryz.ntmps109
  go_wp2
  go_ret
  refine ⟨retI ?_,((((Below.refl _ _).alloc (Nat.le_refl _) _).alloc (by simp) _).alloc (by simp;omega) _)⟩
  rw [opI_9,if_neg hz]
def widthB (w:Int):Bool:=w == 8 || w == 16 || w == 32 || w == 64
theorem compute_any (op w a b:Int)(W:World)(h0:0≤op)(h12:op≤12)(hl:longB w=true)(ha0:0≤a)(ha1:a<18446744073709551616)(hb0:0≤b)(hb1:b<18446744073709551616):
  Calls Tryz.prog 109 #[.int .i8 op,.int .i8 w,.int .u64 a,.int .u64 b] W fun e w'=>e=.returned (.int .u64 (opI op w a b))∧Below W.heap.size W w':=by
 have hc:op=0∨op=1∨op=2∨op=3∨op=4∨op=5∨op=6∨op=7∨op=8∨op=9∨op=10∨op=11∨op=12:=by omega
 rcases hc with rfl | rfl | rfl | rfl | rfl | rfl | rfl | rfl | rfl | rfl | rfl | rfl | rfl
 ·exact compute_0 w a b W
 ·exact compute_1 w a b W
 ·exact compute_2 w a b W
 ·exact compute_3 w a b W ha0 ha1 hb0 hb1
 ·exact compute_4 w a b W ha0 ha1 hb0 hb1
 ·exact compute_5 w a b W ha0 ha1 hb0 hb1
 ·rcases longB_cases hl with rfl | rfl
  ·exact compute_6_32 a b W hb0 hb1
  ·exact compute_6_64 a b W hb0 hb1
 ·rcases longB_cases hl with rfl | rfl
  ·exact compute_7_32 a b W hb0 hb1
  ·exact compute_7_64 a b W hb0 hb1
 ·exact compute_8 w a b W
 ·exact compute_9 w a b W ha0 ha1 hb0 hb1
 ·exact compute_10 w a b W ha0 ha1 hb0 hb1
 ·exact compute_11 w a b W
 ·rcases longB_cases hl with rfl | rfl
  ·exact compute_12_32 a b W hb0 hb1
  ·exact compute_12_64 a b W hb0 hb1
theorem computes_t (w:Int)(W:World)(h:longB w=true):Calls Tryz.prog 108 #[.int .i8 w] W fun e w'=>e=.returned (.bool true)∧W=w':=by
 have:=computes_any w W;rw [h] at this;exact this
theorem computes_f (w:Int)(W:World)(h:longB w=false):Calls Tryz.prog 108 #[.int .i8 w] W fun e w'=>e=.returned (.bool false)∧W=w':=by
 have:=computes_any w W;rw [h] at this;exact this
theorem do_any (op w a b:Int)(W:World)(ha0:0≤a)(ha1:a<18446744073709551616)(hb0:0≤b)(hb1:b<18446744073709551616):
  Calls Tryz.prog 87 #[.int .i8 op,.int .i8 w,.int .u64 a,.int .u64 b] W fun e w'=>e=.returned (.tuple #[.int .u64 (doI op w a b),.int .i64 (doE op w)])∧Below W.heap.size W w':=by
 by_cases h1:op<0
 ·have e1:doI op w a b=0:=if_neg (by omega)
  have e2:doE op w=2:=if_neg (by omega)
  rw [e1,e2];clear e1 e2
  go_enter Tryz.func87,Tryz.ntmps87
  go_wp2
  go_ret2
  exact ⟨rfl,Below.refl _ _⟩
 by_cases h2:12<op
 ·have e1:doI op w a b=0:=if_neg (by omega)
  have e2:doE op w=2:=if_neg (by omega)
  rw [e1,e2];clear e1 e2
  go_enter Tryz.func87,Tryz.ntmps87
  go_wp2
  go_ret2
  exact ⟨rfl,Below.refl _ _⟩
 cases hl:longB w
 ·have e1:doI op w a b=0:=if_neg (by simp [hl])
  have e2:doE op w=2:=if_neg (by simp [hl])
  rw [e1,e2];clear e1 e2
  have HL:=Lib.hid hl;clear hl
  go_enter Tryz.func87,Tryz.ntmps87
  go_wp2_with (go_at_call 108;refine (computes_f _ _ HL.out).mono ?_;rintro e w' ⟨rfl,rfl⟩)
  go_ret2
  exact ⟨rfl,Below.refl _ _⟩
 ·have e1:doI op w a b=cutI (opI op w (cutI a w) (cutI b w)) w:=if_pos ⟨by omega,by omega,hl⟩
  have e2:doE op w=0:=if_pos ⟨by omega,by omega,hl⟩
  rw [e1,e2];clear e1 e2
  have HL:=Lib.hid hl;clear hl
  obtain ⟨c0,c1⟩:=cutI_bd a w ha0 ha1
  obtain ⟨d0,d1⟩:=cutI_bd b w hb0 hb1
  go_enter Tryz.func87,Tryz.ntmps87
  go_wp2_with (first | (go_at_call 108;refine (computes_t _ _ HL.out).mono ?_;rintro e w' ⟨rfl,rfl⟩) | (go_at_call 34;refine (cut_any _ _ _).mono ?_;rintro e w' ⟨rfl,rfl⟩) | (go_at_call 109;refine (compute_any op w (cutI a w) (cutI b w) _ (by omega) (by omega) HL.out c0 c1 d0 d1).mono ?_;rintro e w' ⟨rfl,hb⟩))
  go_ret2
  exact ⟨rfl,by assumption⟩
theorem widthB_f {w:Int}(h:widthB w=false):¬ w=8∧¬ w=16∧¬ w=32∧¬ w=64:=by
 unfold widthB at h;simpa [and_assoc] using h
theorem widthB_t {w:Int}(h:widthB w=true):w=8∨w=16∨w=32∨w=64:=by
 unfold widthB at h;simpa [or_assoc] using h
end Go.Proofs.YtjhedldplmhmjaaGreatDoor
