import Derived.Test.YtjhedldplmhmjaaGreatDoorETe43
import Derived.Test.YtjhedldplmhmjaaGreatDoorETe31
import Derived.Test.YtjhedldplmhmjaaGreatDoorETe05
set_option maxHeartbeats 16000000
set_option linter.unusedVariables false
set_option linter.unusedSimpArgs false
set_option linter.unnecessarySimpa false
namespace Go.Proofs.YtjhedldplmhmjaaGreatDoor.Exe
open Go Go.RowKit
open Mrm (Xi xC mayX)
set_option maxRecDepth 100000
theorem mg {α:Type}{xs:Array α}{x:α}(i:Nat)(h:xs[i]?=some x):x∈xs:=Array.mem_of_getElem? h
theorem info_X8 {X:Array Value}(h:X.size=8):(Tryz.prog.info? 30).map (·.size)=some X.size:=by rw [h];kernel_rfl
theorem ldRow {ρ:Operand→Value}{o:Oper}{w:World}{x:Operand}{g:Nat}{X:Array Value}{T ty:TypeId}{fr:Nat × Nat}{d:TypeDesc}(ho:o.op=.load ty x)(hx:ρ x=.pointer (some ⟨g,0,none⟩))(hg:w.heap[g]?=some (.cells X T fr))(hu:Tryz.prog.underlying ty=some d)(hd:d.isRow=true)(hi:(Tryz.prog.info? ty).map (·.size)=some X.size):(execOp ρ o).run Tryz.prog w=.ok (.value (.agg X)) w:=by
 have q:=exec_loadR (P:=Tryz.prog) ty x ho g 0 hx hg X.toList (by rw [List.drop_zero,List.take_length]) d hu hd (by simpa using hi)
 simpa using q
def isA (i:Nat):Bool:=Nat.beq i 64 || Nat.beq i 66
theorem putR {L:List (Value→Prop)}{i d:Nat}{a:Act}{o:Oper}{v u:Value}{w:World}{p:Prop}(hd:o.dst=some d)(hlt:d<a.tmps.size)(hT:TabV L i v u w)(hA:isA i=false):TabV L i (own o (a.put o.dst v)) u w∧(isA i=true→p):=by
 rw [own_put hd hlt];exact ⟨hT,fun q=>absurd q (by rw [hA];decide)⟩
theorem tells_n (m:Mc)(x:Xi)(l cc:Int)(hM:MOk m)(hX:Mrm.XOk x)(hl:U64 l)(hcc:-128≤cc∧cc<128)(W:World)(hT:Mrm.Tabs W):
  Calls Tryz.prog 3 #[.agg (mcC m),.agg (xC x),.int .u64 l,.int .i8 cc] W fun e w'=>e=.returned (.bool true)∧Below W.heap.size W w':=by
 have HT:=Lib.hid hT
 have DO:=Lib.hid (fun W' (hT:Mrm.Tabs W')=>do_n m x l W' hT hX hM hl)
 have QD:=Lib.hid (fun W'=>qdo_n m x l W' hX hM hl)
 have AD:=Lib.hid (fun W' (hT:Mrm.Tabs W')=>address_n m x W' hT hX hM)
 have QA:=Lib.hid (fun W'=>qadr_n m x W' hX)
 have NU:=Lib.hid (fun W'=>num_n_ m W' hM)
 have QN:=Lib.hid (fun W'=>qnum_n m W' hM)
 have CC:=Lib.hid (fun W'=>cc_n cc W')
 have QC:=Lib.hid (fun W'=>qcc_n cc W')
 have TC:=Lib.hid (fun W'=>tocc_n cc hcc W')
 have QT:=Lib.hid (fun W'=>qtocc_n cc W')
 have ST:=Lib.hid (fun W' (hT:Mrm.Tabs W')=>stored_n m x W' hT hX hM)
 have QS:=Lib.hid (fun W'=>qsto_n m x W' hX)
 have AR:=Lib.hid (fun W'=>cargs_n m hM W')
 have QR:=Lib.hid (fun W'=>qargs_n m hM W')
 have SW:=Lib.hid (fun v1 v2 W' h1 h2=>same_n m v1 v2 W' h1 h2)
 have WK:=Lib.hid (fun W' (hT:Mrm.Tabs W')=>wakes_n W' hT)
 have SM:=Lib.hid (show (mcC m).size=22 from rfl)
 have SX:=Lib.hid (show (xC x).size=8 from rfl)
 have SD:=Lib.hid (show (mcC (doX m x l)).size=22 from rfl)
 have OD:=Lib.hid (mcC_one (doX m x l))
 have EQ:=Lib.hid (fun w=>eq_mc (doX m x l) w)
 generalize mcC (doX m x l)=D at *
 generalize mcC m=M at *
 generalize xC x=X at *
 generalize doXe m x l=E at *
 generalize adrX m x=a1 at *
 generalize sizX x=a2 at *
 generalize hasX x=a3 at *
 generalize numV m=n1 at *
 generalize numQ m=n2 at NU QN
 generalize ccS cc=s1 at *
 generalize ccB cc=s2 at *
 generalize toC cc=t1 at *
 generalize toB cc=t2 at *
 generalize stoX m x=st at *
 clear hM hX hl hT
 have BZ:=Lib.hid (below_new (below_new (Below.refl W.heap.size W) (.cells M 27)) (.cells X 30))
 have ZM:=Lib.hid (Mrm.heap_below (below_new (Below.refl (W.alloc (.cells M 27)).heap.size (W.alloc (.cells M 27))) (.cells X 30)) (heap_last W (.cells M 27) _ rfl) (Nat.le_refl _))
 have ZX:=Lib.hid (heap_last (W.alloc (.cells M 27)) (.cells X 30) (W.heap.size+1) (by rw [size_alloc]))
 go_enter Tryz.func3,Tryz.ntmps3
 go_wp2_with (with_reducible refine (halt_ldm 27 _ rfl rfl ?_))
 refine ⟨?_,trivial⟩
 generalize (W.alloc (.cells M 27)).alloc (.cells X 30)=z0 at *
 refine wpList_load_row rfl 27 _ rfl _ rfl _ _ _ _ ZM.out Tryz.underlying27 rfl (info_M SM.out) ?_
 go_wp2_with (with_reducible refine (halt_ldm 30 _ rfl rfl ?_))
 refine ⟨?_,trivial⟩
 refine wpList_load_row rfl 30 _ rfl _ rfl _ _ _ _ ZX.out Tryz.underlying30 rfl (info_X8 SX.out) ?_
 go_wp2_with fail
 refine (DO.out _ (HT.out.below BZ.out (Nat.le_refl _))).mono ?_
 rintro e w1 ⟨rfl,b1⟩
 replace BZ:=Lib.hid (below_call BZ.out b1)
 replace ZM:=Lib.hid (Mrm.heap_below b1 ZM.out (Nat.le_refl _))
 replace ZX:=Lib.hid (Mrm.heap_below b1 ZX.out (Nat.le_refl _))
 clear b1
 go_wp2_with (with_reducible refine (halt_store 27 _ _ rfl ?_))
 refine ⟨?_,trivial⟩
 refine wpList_store_is rfl 27 _ _ rfl _ _ rfl rfl _ _ (heap_last _ _ _ rfl) (info_M SD.out) (by rw [SD.out];rfl) OD.out ?_
 intro w2 S2
 have Z1:=Lib.hid S2.row
 have b2:=S2.below (below_new (Below.refl _ _) _) (Nat.le_refl _)
 replace BZ:=Lib.hid (below_call BZ.out b2)
 replace ZM:=Lib.hid (Mrm.heap_below b2 ZM.out (Nat.le_refl _))
 replace ZX:=Lib.hid (Mrm.heap_below b2 ZX.out (Nat.le_refl _))
 clear b2 S2
 go_wp2_with (with_reducible refine (halt_ldm 27 _ rfl rfl ?_))
 refine ⟨?_,trivial⟩
 refine wpList_load_row rfl 27 _ rfl _ rfl _ _ _ _ ZM.out Tryz.underlying27 rfl (info_M SM.out) ?_
 go_wp2_with (with_reducible refine (halt_ldm 30 _ rfl rfl ?_))
 refine ⟨?_,trivial⟩
 refine wpList_load_row rfl 30 _ rfl _ rfl _ _ _ _ ZX.out Tryz.underlying30 rfl (info_X8 SX.out) ?_
 go_wp2_with fail
 refine (QD.out _).mono ?_
 rintro e w3 ⟨rfl,b3⟩
 replace BZ:=Lib.hid (below_call BZ.out b3)
 replace ZM:=Lib.hid (Mrm.heap_below b3 ZM.out (Nat.le_refl _))
 replace ZX:=Lib.hid (Mrm.heap_below b3 ZX.out (Nat.le_refl _))
 replace Z1:=Lib.hid (Mrm.heap_below b3 Z1.out (Nat.le_refl _))
 clear b3
 go_wp2_with (with_reducible refine (halt_store 27 _ _ rfl ?_))
 refine ⟨?_,trivial⟩
 refine wpList_store_is rfl 27 _ _ rfl _ _ rfl rfl _ _ (heap_last _ _ _ rfl) (info_M SD.out) (by rw [SD.out];rfl) OD.out ?_
 intro w4 S4
 have Z2:=Lib.hid S4.row
 have b4:=S4.below (below_new (Below.refl _ _) _) (Nat.le_refl _)
 replace BZ:=Lib.hid (below_call BZ.out b4)
 replace ZM:=Lib.hid (Mrm.heap_below b4 ZM.out (Nat.le_refl _))
 replace ZX:=Lib.hid (Mrm.heap_below b4 ZX.out (Nat.le_refl _))
 replace Z1:=Lib.hid (Mrm.heap_below b4 Z1.out (Nat.le_refl _))
 clear b4 S4
 go_wp2_with (with_reducible refine (halt_ldm 27 _ rfl rfl ?_))
 refine ⟨?_,trivial⟩
 refine wpList_load_row rfl 27 _ rfl _ rfl _ _ _ _ ZM.out Tryz.underlying27 rfl (info_M SM.out) ?_
 go_wp2_with (with_reducible refine (halt_ldm 30 _ rfl rfl ?_))
 refine ⟨?_,trivial⟩
 refine wpList_load_row rfl 30 _ rfl _ rfl _ _ _ _ ZX.out Tryz.underlying30 rfl (info_X8 SX.out) ?_
 go_wp2_with fail
 refine (AD.out _ (HT.out.below BZ.out (Nat.le_refl _))).mono ?_
 rintro e w5 ⟨rfl,b5⟩
 replace BZ:=Lib.hid (below_call BZ.out b5)
 replace ZM:=Lib.hid (Mrm.heap_below b5 ZM.out (Nat.le_refl _))
 replace ZX:=Lib.hid (Mrm.heap_below b5 ZX.out (Nat.le_refl _))
 replace Z1:=Lib.hid (Mrm.heap_below b5 Z1.out (Nat.le_refl _))
 replace Z2:=Lib.hid (Mrm.heap_below b5 Z2.out (Nat.le_refl _))
 clear b5
 go_wp2_with (with_reducible refine (halt_ldm 27 _ rfl rfl ?_))
 refine ⟨?_,trivial⟩
 refine wpList_load_row rfl 27 _ rfl _ rfl _ _ _ _ ZM.out Tryz.underlying27 rfl (info_M SM.out) ?_
 go_wp2_with (with_reducible refine (halt_ldm 30 _ rfl rfl ?_))
 refine ⟨?_,trivial⟩
 refine wpList_load_row rfl 30 _ rfl _ rfl _ _ _ _ ZX.out Tryz.underlying30 rfl (info_X8 SX.out) ?_
 go_wp2_with fail
 refine (QA.out _).mono ?_
 rintro e w6 ⟨rfl,b6⟩
 replace BZ:=Lib.hid (below_call BZ.out b6)
 replace ZM:=Lib.hid (Mrm.heap_below b6 ZM.out (Nat.le_refl _))
 replace ZX:=Lib.hid (Mrm.heap_below b6 ZX.out (Nat.le_refl _))
 replace Z1:=Lib.hid (Mrm.heap_below b6 Z1.out (Nat.le_refl _))
 replace Z2:=Lib.hid (Mrm.heap_below b6 Z2.out (Nat.le_refl _))
 clear b6
 go_wp2_with (with_reducible refine (halt_ldm 27 _ rfl rfl ?_))
 refine ⟨?_,trivial⟩
 refine wpList_load_row rfl 27 _ rfl _ rfl _ _ _ _ ZM.out Tryz.underlying27 rfl (info_M SM.out) ?_
 go_wp2_with fail
 refine (NU.out _).mono ?_
 rintro e w7 ⟨rfl,b7⟩
 replace BZ:=Lib.hid (below_call BZ.out b7)
 replace ZM:=Lib.hid (Mrm.heap_below b7 ZM.out (Nat.le_refl _))
 replace ZX:=Lib.hid (Mrm.heap_below b7 ZX.out (Nat.le_refl _))
 replace Z1:=Lib.hid (Mrm.heap_below b7 Z1.out (Nat.le_refl _))
 replace Z2:=Lib.hid (Mrm.heap_below b7 Z2.out (Nat.le_refl _))
 clear b7
 go_wp2_with (with_reducible refine (halt_ldm 27 _ rfl rfl ?_))
 refine ⟨?_,trivial⟩
 refine wpList_load_row rfl 27 _ rfl _ rfl _ _ _ _ ZM.out Tryz.underlying27 rfl (info_M SM.out) ?_
 go_wp2_with fail
 refine (QN.out _).mono ?_
 rintro e w8 ⟨rfl,b8⟩
 replace BZ:=Lib.hid (below_call BZ.out b8)
 replace ZM:=Lib.hid (Mrm.heap_below b8 ZM.out (Nat.le_refl _))
 replace ZX:=Lib.hid (Mrm.heap_below b8 ZX.out (Nat.le_refl _))
 replace Z1:=Lib.hid (Mrm.heap_below b8 Z1.out (Nat.le_refl _))
 replace Z2:=Lib.hid (Mrm.heap_below b8 Z2.out (Nat.le_refl _))
 clear b8
 go_wp2_with fail
 refine (CC.out _).mono ?_
 rintro e w9 ⟨rfl,b9⟩
 replace BZ:=Lib.hid (below_call BZ.out b9)
 replace ZM:=Lib.hid (Mrm.heap_below b9 ZM.out (Nat.le_refl _))
 replace ZX:=Lib.hid (Mrm.heap_below b9 ZX.out (Nat.le_refl _))
 replace Z1:=Lib.hid (Mrm.heap_below b9 Z1.out (Nat.le_refl _))
 replace Z2:=Lib.hid (Mrm.heap_below b9 Z2.out (Nat.le_refl _))
 clear b9
 go_wp2_with fail
 refine (QC.out _).mono ?_
 rintro e w10 ⟨rfl,rfl⟩
 go_wp2_with fail
 refine (TC.out _).mono ?_
 rintro e w11 ⟨rfl,b11⟩
 replace BZ:=Lib.hid (below_call BZ.out b11)
 replace ZM:=Lib.hid (Mrm.heap_below b11 ZM.out (Nat.le_refl _))
 replace ZX:=Lib.hid (Mrm.heap_below b11 ZX.out (Nat.le_refl _))
 replace Z1:=Lib.hid (Mrm.heap_below b11 Z1.out (Nat.le_refl _))
 replace Z2:=Lib.hid (Mrm.heap_below b11 Z2.out (Nat.le_refl _))
 clear b11
 go_wp2_with fail
 refine (QT.out _).mono ?_
 rintro e w12 ⟨rfl,rfl⟩
 go_wp2_with fail
 refine wp_region_inv (fun _=>100000) (fun w=>Below w11.heap.size w11 w) (fun i v u w=>TabV [fun v=>v=.agg D,fun v=>v=.agg D,fun v=>v=.bool true,fun v=>v=.bool true,fun v=>v=.int .i64 E,fun v=>v=.int .i64 E,fun v=>v=.bool true,fun v=>v=.bool true,fun v=>v=.bool true,fun v=>v=.int .u64 a1,fun v=>v=.int .u64 a1,fun v=>v=.bool true,fun v=>v=.bool true,fun v=>v=.bool true,fun v=>v=.int .i64 a2,fun v=>v=.int .i64 a2,fun v=>v=.bool true,fun v=>v=.bool true,fun v=>v=.bool true,fun v=>v=.bool a3,fun v=>v=.bool a3,fun v=>v=.bool true,fun v=>v=.bool true,fun v=>v=.bool true,fun v=>v=.int .i64 n1,fun v=>v=.int .i64 n1,fun v=>v=.bool true,fun v=>v=.bool true,fun v=>v=.bool true,fun v=>v=.bool n2,fun v=>v=.bool n2,fun v=>v=.bool true,fun v=>v=.bool true,fun v=>v=.bool true,fun v=>v=.int .i8 s1,fun v=>v=.int .i8 s1,fun v=>v=.bool true,fun v=>v=.bool true,fun v=>v=.bool true,fun v=>v=.bool s2,fun v=>v=.bool s2,fun v=>v=.bool true,fun v=>v=.bool true,fun v=>v=.bool true,fun v=>v=.int .i8 t1,fun v=>v=.int .i8 t1,fun v=>v=.bool true,fun v=>v=.bool true,fun v=>v=.bool true,fun v=>v=.bool t2,fun v=>v=.bool t2,fun v=>v=.bool true,fun v=>v=.bool true,fun v=>v=.bool true,fun v=>v=.agg M,fun v=>v=.agg X,fun v=>v=.int .u64 st,fun v=>v=.agg M,fun v=>v=.agg X,fun v=>v=.int .u64 st,fun v=>v=.bool true,fun v=>v=.bool true,fun v=>v=.bool true,fun v=>v=.agg M,fun _=>True,fun v=>v=.agg M,fun _=>True,fun v=>v=.bool true,fun v=>v=.bool true,fun v=>v=.bool true,fun v=>v=.bool true,fun v=>v=.bool true,fun v=>v=.bool true] i v u w∧(isA i=true→ArgsAt m v w)) (by kernel_rfl) (back_of (by kernel_rfl)) (dst_of (by kernel_rfl)) (dep_of (by kernel_rfl)) (in_of (by kernel_rfl)) (Below.drew (Below.refl _ _)) ?hop ?hq
 case hop=>
  intro i o a w ho hS hdf hsz hrest hdone
  have t4:a.tmps.getD 4 undef=.pointer (some ⟨W.heap.size,0,none⟩):=hrest 4 (not_of (by kernel_rfl))
  have t5:a.tmps.getD 5 undef=.pointer (some ⟨W.heap.size+1,0,none⟩):=hrest 5 (not_of (by kernel_rfl))
  have t9:a.tmps.getD 9 undef=.pointer (some ⟨w1.heap.size,0,none⟩):=hrest 9 (not_of (by kernel_rfl))
  have t10:a.tmps.getD 10 undef=.int .i64 E:=hrest 10 (not_of (by kernel_rfl))
  have t11:a.tmps.getD 11 undef=.pointer (some ⟨w3.heap.size,0,none⟩):=hrest 11 (not_of (by kernel_rfl))
  have t12:a.tmps.getD 12 undef=.int .i64 E:=hrest 12 (not_of (by kernel_rfl))
  have t13:a.tmps.getD 13 undef=.int .u64 a1:=hrest 13 (not_of (by kernel_rfl))
  have t14:a.tmps.getD 14 undef=.int .i64 a2:=hrest 14 (not_of (by kernel_rfl))
  have t15:a.tmps.getD 15 undef=.bool a3:=hrest 15 (not_of (by kernel_rfl))
  have t16:a.tmps.getD 16 undef=.int .u64 a1:=hrest 16 (not_of (by kernel_rfl))
  have t17:a.tmps.getD 17 undef=.int .i64 a2:=hrest 17 (not_of (by kernel_rfl))
  have t18:a.tmps.getD 18 undef=.bool a3:=hrest 18 (not_of (by kernel_rfl))
  have t19:a.tmps.getD 19 undef=.int .i64 n1:=hrest 19 (not_of (by kernel_rfl))
  have t20:a.tmps.getD 20 undef=.bool n2:=hrest 20 (not_of (by kernel_rfl))
  have t21:a.tmps.getD 21 undef=.int .i64 n1:=hrest 21 (not_of (by kernel_rfl))
  have t22:a.tmps.getD 22 undef=.bool n2:=hrest 22 (not_of (by kernel_rfl))
  have t23:a.tmps.getD 23 undef=.int .i8 s1:=hrest 23 (not_of (by kernel_rfl))
  have t24:a.tmps.getD 24 undef=.bool s2:=hrest 24 (not_of (by kernel_rfl))
  have t25:a.tmps.getD 25 undef=.int .i8 s1:=hrest 25 (not_of (by kernel_rfl))
  have t26:a.tmps.getD 26 undef=.bool s2:=hrest 26 (not_of (by kernel_rfl))
  have t27:a.tmps.getD 27 undef=.int .i8 t1:=hrest 27 (not_of (by kernel_rfl))
  have t28:a.tmps.getD 28 undef=.bool t2:=hrest 28 (not_of (by kernel_rfl))
  have t29:a.tmps.getD 29 undef=.int .i8 t1:=hrest 29 (not_of (by kernel_rfl))
  have t30:a.tmps.getD 30 undef=.bool t2:=hrest 30 (not_of (by kernel_rfl))
  have hs:a.tmps.size=161:=hsz.trans rfl
  have hi:i<73:=(Array.getElem?_eq_some_iff.1 ho).1
  clear hrest hsz hdf
  obtain rfl | rfl | rfl | rfl | rfl | rfl | rfl | rfl | rfl | rfl | rfl | rfl | rfl | rfl | rfl | rfl | rfl | rfl | rfl | rfl | rfl | rfl | rfl | rfl | rfl | rfl | rfl | rfl | rfl | rfl | rfl | rfl | rfl | rfl | rfl | rfl | rfl | rfl | rfl | rfl | rfl | rfl | rfl | rfl | rfl | rfl | rfl | rfl | rfl | rfl | rfl | rfl | rfl | rfl | rfl | rfl | rfl | rfl | rfl | rfl | rfl | rfl | rfl | rfl | rfl | rfl | rfl | rfl | rfl | rfl | rfl | rfl | rfl:i=0∨i=1∨i=2∨i=3∨i=4∨i=5∨i=6∨i=7∨i=8∨i=9∨i=10∨i=11∨i=12∨i=13∨i=14∨i=15∨i=16∨i=17∨i=18∨i=19∨i=20∨i=21∨i=22∨i=23∨i=24∨i=25∨i=26∨i=27∨i=28∨i=29∨i=30∨i=31∨i=32∨i=33∨i=34∨i=35∨i=36∨i=37∨i=38∨i=39∨i=40∨i=41∨i=42∨i=43∨i=44∨i=45∨i=46∨i=47∨i=48∨i=49∨i=50∨i=51∨i=52∨i=53∨i=54∨i=55∨i=56∨i=57∨i=58∨i=59∨i=60∨i=61∨i=62∨i=63∨i=64∨i=65∨i=66∨i=67∨i=68∨i=69∨i=70∨i=71∨i=72:=by omega
  all_goals obtain rfl:=Option.some.inj (show some _=some o from ho)
  ·exact wpOp_val (v:=.agg D) (w':=w) rfl rfl (ldRow rfl t9 (Mrm.heap_below hS Z1.out (Nat.le_refl _)) Tryz.underlying27 rfl (info_M SD.out)) ⟨_,rfl,putR rfl (by omega) rfl rfl,hS,fun _ _ _ h=>h⟩
  ·exact wpOp_val (v:=.agg D) (w':=w) rfl rfl (ldRow rfl t11 (Mrm.heap_below hS Z2.out (Nat.le_refl _)) Tryz.underlying27 rfl (info_M SD.out)) ⟨_,rfl,putR rfl (by omega) rfl rfl,hS,fun _ _ _ h=>h⟩
  ·have s89:a.tmps.getD 89 undef=.agg D:=(hdone _ (mg 0 rfl) rfl _ rfl).1
   have s90:a.tmps.getD 90 undef=.agg D:=(hdone _ (mg 1 rfl) rfl _ rfl).1
   exact wpOp_val (v:=.bool true) (w':=w) rfl rfl (exec_eql rfl s89 s90 (by kernel_rfl) (EQ.out _)) ⟨_,rfl,putR rfl (by omega) rfl rfl,hS,fun _ _ _ h=>h⟩
  ·have s91:a.tmps.getD 91 undef=.bool true:=(hdone _ (mg 0 rfl) rfl _ rfl).1
   exact wpOp_val (v:=.bool true) (w':=w) rfl rfl (by simp [execOp,Act.eval,s91]) ⟨_,rfl,putR rfl (by omega) rfl rfl,hS,fun _ _ _ h=>h⟩
  ·have hg:a.tmps.getD 92 undef=.bool true:=(hdone _ (mg 0 rfl) rfl _ rfl).1
   exact wpOp_valw (v:=.int .i64 E) (w':=w) rfl (wanted_yes 3 92 true hg (by omega) rfl rfl rfl rfl) (by simp [execOp,Act.eval,t10]) ⟨_,rfl,putR rfl (by omega) rfl rfl,hS,fun _ _ _ h=>h⟩
  ·have hg:a.tmps.getD 92 undef=.bool true:=(hdone _ (mg 0 rfl) rfl _ rfl).1
   exact wpOp_valw (v:=.int .i64 E) (w':=w) rfl (wanted_yes 3 92 true hg (by omega) rfl rfl rfl rfl) (by simp [execOp,Act.eval,t12]) ⟨_,rfl,putR rfl (by omega) rfl rfl,hS,fun _ _ _ h=>h⟩
  ·have hg:a.tmps.getD 92 undef=.bool true:=(hdone _ (mg 2 rfl) rfl _ rfl).1
   have s93:a.tmps.getD 93 undef=.int .i64 E:=(hdone _ (mg 0 rfl) rfl _ rfl).1
   have s94:a.tmps.getD 94 undef=.int .i64 E:=(hdone _ (mg 1 rfl) rfl _ rfl).1
   exact wpOp_valw (v:=.bool true) (w':=w) rfl (wanted_yes 3 92 true hg (by omega) rfl rfl rfl rfl) (by simp [execOp,Act.eval,s93,s94,go_sem]) ⟨_,rfl,putR rfl (by omega) rfl rfl,hS,fun _ _ _ h=>h⟩
  ·have s92:a.tmps.getD 92 undef=.bool true:=(hdone _ (mg 0 rfl) rfl _ rfl).1
   have s95:a.tmps.getD 95 undef=.bool true:=(hdone _ (mg 1 rfl) rfl _ rfl).1
   exact wpOp_val (v:=.bool true) (w':=w) rfl rfl (by simp [execOp,Act.eval,s92,s95,go_sem]) ⟨_,rfl,putR rfl (by omega) rfl rfl,hS,fun _ _ _ h=>h⟩
  ·have s96:a.tmps.getD 96 undef=.bool true:=(hdone _ (mg 0 rfl) rfl _ rfl).1
   exact wpOp_val (v:=.bool true) (w':=w) rfl rfl (by simp [execOp,Act.eval,s96]) ⟨_,rfl,putR rfl (by omega) rfl rfl,hS,fun _ _ _ h=>h⟩
  ·have hg:a.tmps.getD 97 undef=.bool true:=(hdone _ (mg 0 rfl) rfl _ rfl).1
   exact wpOp_valw (v:=.int .u64 a1) (w':=w) rfl (wanted_yes 8 97 true hg (by omega) rfl rfl rfl rfl) (by simp [execOp,Act.eval,t13]) ⟨_,rfl,putR rfl (by omega) rfl rfl,hS,fun _ _ _ h=>h⟩
  ·have hg:a.tmps.getD 97 undef=.bool true:=(hdone _ (mg 0 rfl) rfl _ rfl).1
   exact wpOp_valw (v:=.int .u64 a1) (w':=w) rfl (wanted_yes 8 97 true hg (by omega) rfl rfl rfl rfl) (by simp [execOp,Act.eval,t16]) ⟨_,rfl,putR rfl (by omega) rfl rfl,hS,fun _ _ _ h=>h⟩
  ·have hg:a.tmps.getD 97 undef=.bool true:=(hdone _ (mg 2 rfl) rfl _ rfl).1
   have s98:a.tmps.getD 98 undef=.int .u64 a1:=(hdone _ (mg 0 rfl) rfl _ rfl).1
   have s99:a.tmps.getD 99 undef=.int .u64 a1:=(hdone _ (mg 1 rfl) rfl _ rfl).1
   exact wpOp_valw (v:=.bool true) (w':=w) rfl (wanted_yes 8 97 true hg (by omega) rfl rfl rfl rfl) (by simp [execOp,Act.eval,s98,s99,go_sem]) ⟨_,rfl,putR rfl (by omega) rfl rfl,hS,fun _ _ _ h=>h⟩
  ·have s97:a.tmps.getD 97 undef=.bool true:=(hdone _ (mg 0 rfl) rfl _ rfl).1
   have s100:a.tmps.getD 100 undef=.bool true:=(hdone _ (mg 1 rfl) rfl _ rfl).1
   exact wpOp_val (v:=.bool true) (w':=w) rfl rfl (by simp [execOp,Act.eval,s97,s100,go_sem]) ⟨_,rfl,putR rfl (by omega) rfl rfl,hS,fun _ _ _ h=>h⟩
  ·have s101:a.tmps.getD 101 undef=.bool true:=(hdone _ (mg 0 rfl) rfl _ rfl).1
   exact wpOp_val (v:=.bool true) (w':=w) rfl rfl (by simp [execOp,Act.eval,s101]) ⟨_,rfl,putR rfl (by omega) rfl rfl,hS,fun _ _ _ h=>h⟩
  ·have hg:a.tmps.getD 102 undef=.bool true:=(hdone _ (mg 0 rfl) rfl _ rfl).1
   exact wpOp_valw (v:=.int .i64 a2) (w':=w) rfl (wanted_yes 13 102 true hg (by omega) rfl rfl rfl rfl) (by simp [execOp,Act.eval,t14]) ⟨_,rfl,putR rfl (by omega) rfl rfl,hS,fun _ _ _ h=>h⟩
  ·have hg:a.tmps.getD 102 undef=.bool true:=(hdone _ (mg 0 rfl) rfl _ rfl).1
   exact wpOp_valw (v:=.int .i64 a2) (w':=w) rfl (wanted_yes 13 102 true hg (by omega) rfl rfl rfl rfl) (by simp [execOp,Act.eval,t17]) ⟨_,rfl,putR rfl (by omega) rfl rfl,hS,fun _ _ _ h=>h⟩
  ·have hg:a.tmps.getD 102 undef=.bool true:=(hdone _ (mg 2 rfl) rfl _ rfl).1
   have s103:a.tmps.getD 103 undef=.int .i64 a2:=(hdone _ (mg 0 rfl) rfl _ rfl).1
   have s104:a.tmps.getD 104 undef=.int .i64 a2:=(hdone _ (mg 1 rfl) rfl _ rfl).1
   exact wpOp_valw (v:=.bool true) (w':=w) rfl (wanted_yes 13 102 true hg (by omega) rfl rfl rfl rfl) (by simp [execOp,Act.eval,s103,s104,go_sem]) ⟨_,rfl,putR rfl (by omega) rfl rfl,hS,fun _ _ _ h=>h⟩
  ·have s102:a.tmps.getD 102 undef=.bool true:=(hdone _ (mg 0 rfl) rfl _ rfl).1
   have s105:a.tmps.getD 105 undef=.bool true:=(hdone _ (mg 1 rfl) rfl _ rfl).1
   exact wpOp_val (v:=.bool true) (w':=w) rfl rfl (by simp [execOp,Act.eval,s102,s105,go_sem]) ⟨_,rfl,putR rfl (by omega) rfl rfl,hS,fun _ _ _ h=>h⟩
  ·have s106:a.tmps.getD 106 undef=.bool true:=(hdone _ (mg 0 rfl) rfl _ rfl).1
   exact wpOp_val (v:=.bool true) (w':=w) rfl rfl (by simp [execOp,Act.eval,s106]) ⟨_,rfl,putR rfl (by omega) rfl rfl,hS,fun _ _ _ h=>h⟩
  ·have hg:a.tmps.getD 107 undef=.bool true:=(hdone _ (mg 0 rfl) rfl _ rfl).1
   exact wpOp_valw (v:=.bool a3) (w':=w) rfl (wanted_yes 18 107 true hg (by omega) rfl rfl rfl rfl) (by simp [execOp,Act.eval,t15]) ⟨_,rfl,putR rfl (by omega) rfl rfl,hS,fun _ _ _ h=>h⟩
  ·have hg:a.tmps.getD 107 undef=.bool true:=(hdone _ (mg 0 rfl) rfl _ rfl).1
   exact wpOp_valw (v:=.bool a3) (w':=w) rfl (wanted_yes 18 107 true hg (by omega) rfl rfl rfl rfl) (by simp [execOp,Act.eval,t18]) ⟨_,rfl,putR rfl (by omega) rfl rfl,hS,fun _ _ _ h=>h⟩
  ·have hg:a.tmps.getD 107 undef=.bool true:=(hdone _ (mg 2 rfl) rfl _ rfl).1
   have s108:a.tmps.getD 108 undef=.bool a3:=(hdone _ (mg 0 rfl) rfl _ rfl).1
   have s109:a.tmps.getD 109 undef=.bool a3:=(hdone _ (mg 1 rfl) rfl _ rfl).1
   exact wpOp_valw (v:=.bool true) (w':=w) rfl (wanted_yes 18 107 true hg (by omega) rfl rfl rfl rfl) (by simp [execOp,Act.eval,s108,s109,go_sem]) ⟨_,rfl,putR rfl (by omega) rfl rfl,hS,fun _ _ _ h=>h⟩
  ·have s107:a.tmps.getD 107 undef=.bool true:=(hdone _ (mg 0 rfl) rfl _ rfl).1
   have s110:a.tmps.getD 110 undef=.bool true:=(hdone _ (mg 1 rfl) rfl _ rfl).1
   exact wpOp_val (v:=.bool true) (w':=w) rfl rfl (by simp [execOp,Act.eval,s107,s110,go_sem]) ⟨_,rfl,putR rfl (by omega) rfl rfl,hS,fun _ _ _ h=>h⟩
  ·have s111:a.tmps.getD 111 undef=.bool true:=(hdone _ (mg 0 rfl) rfl _ rfl).1
   exact wpOp_val (v:=.bool true) (w':=w) rfl rfl (by simp [execOp,Act.eval,s111]) ⟨_,rfl,putR rfl (by omega) rfl rfl,hS,fun _ _ _ h=>h⟩
  ·have hg:a.tmps.getD 112 undef=.bool true:=(hdone _ (mg 0 rfl) rfl _ rfl).1
   exact wpOp_valw (v:=.int .i64 n1) (w':=w) rfl (wanted_yes 23 112 true hg (by omega) rfl rfl rfl rfl) (by simp [execOp,Act.eval,t19]) ⟨_,rfl,putR rfl (by omega) rfl rfl,hS,fun _ _ _ h=>h⟩
  ·have hg:a.tmps.getD 112 undef=.bool true:=(hdone _ (mg 0 rfl) rfl _ rfl).1
   exact wpOp_valw (v:=.int .i64 n1) (w':=w) rfl (wanted_yes 23 112 true hg (by omega) rfl rfl rfl rfl) (by simp [execOp,Act.eval,t21]) ⟨_,rfl,putR rfl (by omega) rfl rfl,hS,fun _ _ _ h=>h⟩
  ·have hg:a.tmps.getD 112 undef=.bool true:=(hdone _ (mg 2 rfl) rfl _ rfl).1
   have s113:a.tmps.getD 113 undef=.int .i64 n1:=(hdone _ (mg 0 rfl) rfl _ rfl).1
   have s114:a.tmps.getD 114 undef=.int .i64 n1:=(hdone _ (mg 1 rfl) rfl _ rfl).1
   exact wpOp_valw (v:=.bool true) (w':=w) rfl (wanted_yes 23 112 true hg (by omega) rfl rfl rfl rfl) (by simp [execOp,Act.eval,s113,s114,go_sem]) ⟨_,rfl,putR rfl (by omega) rfl rfl,hS,fun _ _ _ h=>h⟩
  ·have s112:a.tmps.getD 112 undef=.bool true:=(hdone _ (mg 0 rfl) rfl _ rfl).1
   have s115:a.tmps.getD 115 undef=.bool true:=(hdone _ (mg 1 rfl) rfl _ rfl).1
   exact wpOp_val (v:=.bool true) (w':=w) rfl rfl (by simp [execOp,Act.eval,s112,s115,go_sem]) ⟨_,rfl,putR rfl (by omega) rfl rfl,hS,fun _ _ _ h=>h⟩
  ·have s116:a.tmps.getD 116 undef=.bool true:=(hdone _ (mg 0 rfl) rfl _ rfl).1
   exact wpOp_val (v:=.bool true) (w':=w) rfl rfl (by simp [execOp,Act.eval,s116]) ⟨_,rfl,putR rfl (by omega) rfl rfl,hS,fun _ _ _ h=>h⟩
  ·have hg:a.tmps.getD 117 undef=.bool true:=(hdone _ (mg 0 rfl) rfl _ rfl).1
   exact wpOp_valw (v:=.bool n2) (w':=w) rfl (wanted_yes 28 117 true hg (by omega) rfl rfl rfl rfl) (by simp [execOp,Act.eval,t20]) ⟨_,rfl,putR rfl (by omega) rfl rfl,hS,fun _ _ _ h=>h⟩
  ·have hg:a.tmps.getD 117 undef=.bool true:=(hdone _ (mg 0 rfl) rfl _ rfl).1
   exact wpOp_valw (v:=.bool n2) (w':=w) rfl (wanted_yes 28 117 true hg (by omega) rfl rfl rfl rfl) (by simp [execOp,Act.eval,t22]) ⟨_,rfl,putR rfl (by omega) rfl rfl,hS,fun _ _ _ h=>h⟩
  ·have hg:a.tmps.getD 117 undef=.bool true:=(hdone _ (mg 2 rfl) rfl _ rfl).1
   have s118:a.tmps.getD 118 undef=.bool n2:=(hdone _ (mg 0 rfl) rfl _ rfl).1
   have s119:a.tmps.getD 119 undef=.bool n2:=(hdone _ (mg 1 rfl) rfl _ rfl).1
   exact wpOp_valw (v:=.bool true) (w':=w) rfl (wanted_yes 28 117 true hg (by omega) rfl rfl rfl rfl) (by simp [execOp,Act.eval,s118,s119,go_sem]) ⟨_,rfl,putR rfl (by omega) rfl rfl,hS,fun _ _ _ h=>h⟩
  ·have s117:a.tmps.getD 117 undef=.bool true:=(hdone _ (mg 0 rfl) rfl _ rfl).1
   have s120:a.tmps.getD 120 undef=.bool true:=(hdone _ (mg 1 rfl) rfl _ rfl).1
   exact wpOp_val (v:=.bool true) (w':=w) rfl rfl (by simp [execOp,Act.eval,s117,s120,go_sem]) ⟨_,rfl,putR rfl (by omega) rfl rfl,hS,fun _ _ _ h=>h⟩
  ·have s121:a.tmps.getD 121 undef=.bool true:=(hdone _ (mg 0 rfl) rfl _ rfl).1
   exact wpOp_val (v:=.bool true) (w':=w) rfl rfl (by simp [execOp,Act.eval,s121]) ⟨_,rfl,putR rfl (by omega) rfl rfl,hS,fun _ _ _ h=>h⟩
  ·have hg:a.tmps.getD 122 undef=.bool true:=(hdone _ (mg 0 rfl) rfl _ rfl).1
   exact wpOp_valw (v:=.int .i8 s1) (w':=w) rfl (wanted_yes 33 122 true hg (by omega) rfl rfl rfl rfl) (by simp [execOp,Act.eval,t23]) ⟨_,rfl,putR rfl (by omega) rfl rfl,hS,fun _ _ _ h=>h⟩
  ·have hg:a.tmps.getD 122 undef=.bool true:=(hdone _ (mg 0 rfl) rfl _ rfl).1
   exact wpOp_valw (v:=.int .i8 s1) (w':=w) rfl (wanted_yes 33 122 true hg (by omega) rfl rfl rfl rfl) (by simp [execOp,Act.eval,t25]) ⟨_,rfl,putR rfl (by omega) rfl rfl,hS,fun _ _ _ h=>h⟩
  ·have hg:a.tmps.getD 122 undef=.bool true:=(hdone _ (mg 2 rfl) rfl _ rfl).1
   have s123:a.tmps.getD 123 undef=.int .i8 s1:=(hdone _ (mg 0 rfl) rfl _ rfl).1
   have s124:a.tmps.getD 124 undef=.int .i8 s1:=(hdone _ (mg 1 rfl) rfl _ rfl).1
   exact wpOp_valw (v:=.bool true) (w':=w) rfl (wanted_yes 33 122 true hg (by omega) rfl rfl rfl rfl) (by simp [execOp,Act.eval,s123,s124,go_sem]) ⟨_,rfl,putR rfl (by omega) rfl rfl,hS,fun _ _ _ h=>h⟩
  ·have s122:a.tmps.getD 122 undef=.bool true:=(hdone _ (mg 0 rfl) rfl _ rfl).1
   have s125:a.tmps.getD 125 undef=.bool true:=(hdone _ (mg 1 rfl) rfl _ rfl).1
   exact wpOp_val (v:=.bool true) (w':=w) rfl rfl (by simp [execOp,Act.eval,s122,s125,go_sem]) ⟨_,rfl,putR rfl (by omega) rfl rfl,hS,fun _ _ _ h=>h⟩
  ·have s126:a.tmps.getD 126 undef=.bool true:=(hdone _ (mg 0 rfl) rfl _ rfl).1
   exact wpOp_val (v:=.bool true) (w':=w) rfl rfl (by simp [execOp,Act.eval,s126]) ⟨_,rfl,putR rfl (by omega) rfl rfl,hS,fun _ _ _ h=>h⟩
  ·have hg:a.tmps.getD 127 undef=.bool true:=(hdone _ (mg 0 rfl) rfl _ rfl).1
   exact wpOp_valw (v:=.bool s2) (w':=w) rfl (wanted_yes 38 127 true hg (by omega) rfl rfl rfl rfl) (by simp [execOp,Act.eval,t24]) ⟨_,rfl,putR rfl (by omega) rfl rfl,hS,fun _ _ _ h=>h⟩
  ·have hg:a.tmps.getD 127 undef=.bool true:=(hdone _ (mg 0 rfl) rfl _ rfl).1
   exact wpOp_valw (v:=.bool s2) (w':=w) rfl (wanted_yes 38 127 true hg (by omega) rfl rfl rfl rfl) (by simp [execOp,Act.eval,t26]) ⟨_,rfl,putR rfl (by omega) rfl rfl,hS,fun _ _ _ h=>h⟩
  ·have hg:a.tmps.getD 127 undef=.bool true:=(hdone _ (mg 2 rfl) rfl _ rfl).1
   have s128:a.tmps.getD 128 undef=.bool s2:=(hdone _ (mg 0 rfl) rfl _ rfl).1
   have s129:a.tmps.getD 129 undef=.bool s2:=(hdone _ (mg 1 rfl) rfl _ rfl).1
   exact wpOp_valw (v:=.bool true) (w':=w) rfl (wanted_yes 38 127 true hg (by omega) rfl rfl rfl rfl) (by simp [execOp,Act.eval,s128,s129,go_sem]) ⟨_,rfl,putR rfl (by omega) rfl rfl,hS,fun _ _ _ h=>h⟩
  ·have s127:a.tmps.getD 127 undef=.bool true:=(hdone _ (mg 0 rfl) rfl _ rfl).1
   have s130:a.tmps.getD 130 undef=.bool true:=(hdone _ (mg 1 rfl) rfl _ rfl).1
   exact wpOp_val (v:=.bool true) (w':=w) rfl rfl (by simp [execOp,Act.eval,s127,s130,go_sem]) ⟨_,rfl,putR rfl (by omega) rfl rfl,hS,fun _ _ _ h=>h⟩
  ·have s131:a.tmps.getD 131 undef=.bool true:=(hdone _ (mg 0 rfl) rfl _ rfl).1
   exact wpOp_val (v:=.bool true) (w':=w) rfl rfl (by simp [execOp,Act.eval,s131]) ⟨_,rfl,putR rfl (by omega) rfl rfl,hS,fun _ _ _ h=>h⟩
  ·have hg:a.tmps.getD 132 undef=.bool true:=(hdone _ (mg 0 rfl) rfl _ rfl).1
   exact wpOp_valw (v:=.int .i8 t1) (w':=w) rfl (wanted_yes 43 132 true hg (by omega) rfl rfl rfl rfl) (by simp [execOp,Act.eval,t27]) ⟨_,rfl,putR rfl (by omega) rfl rfl,hS,fun _ _ _ h=>h⟩
  ·have hg:a.tmps.getD 132 undef=.bool true:=(hdone _ (mg 0 rfl) rfl _ rfl).1
   exact wpOp_valw (v:=.int .i8 t1) (w':=w) rfl (wanted_yes 43 132 true hg (by omega) rfl rfl rfl rfl) (by simp [execOp,Act.eval,t29]) ⟨_,rfl,putR rfl (by omega) rfl rfl,hS,fun _ _ _ h=>h⟩
  ·have hg:a.tmps.getD 132 undef=.bool true:=(hdone _ (mg 2 rfl) rfl _ rfl).1
   have s133:a.tmps.getD 133 undef=.int .i8 t1:=(hdone _ (mg 0 rfl) rfl _ rfl).1
   have s134:a.tmps.getD 134 undef=.int .i8 t1:=(hdone _ (mg 1 rfl) rfl _ rfl).1
   exact wpOp_valw (v:=.bool true) (w':=w) rfl (wanted_yes 43 132 true hg (by omega) rfl rfl rfl rfl) (by simp [execOp,Act.eval,s133,s134,go_sem]) ⟨_,rfl,putR rfl (by omega) rfl rfl,hS,fun _ _ _ h=>h⟩
  ·have s132:a.tmps.getD 132 undef=.bool true:=(hdone _ (mg 0 rfl) rfl _ rfl).1
   have s135:a.tmps.getD 135 undef=.bool true:=(hdone _ (mg 1 rfl) rfl _ rfl).1
   exact wpOp_val (v:=.bool true) (w':=w) rfl rfl (by simp [execOp,Act.eval,s132,s135,go_sem]) ⟨_,rfl,putR rfl (by omega) rfl rfl,hS,fun _ _ _ h=>h⟩
  ·have s136:a.tmps.getD 136 undef=.bool true:=(hdone _ (mg 0 rfl) rfl _ rfl).1
   exact wpOp_val (v:=.bool true) (w':=w) rfl rfl (by simp [execOp,Act.eval,s136]) ⟨_,rfl,putR rfl (by omega) rfl rfl,hS,fun _ _ _ h=>h⟩
  ·have hg:a.tmps.getD 137 undef=.bool true:=(hdone _ (mg 0 rfl) rfl _ rfl).1
   exact wpOp_valw (v:=.bool t2) (w':=w) rfl (wanted_yes 48 137 true hg (by omega) rfl rfl rfl rfl) (by simp [execOp,Act.eval,t28]) ⟨_,rfl,putR rfl (by omega) rfl rfl,hS,fun _ _ _ h=>h⟩
  ·have hg:a.tmps.getD 137 undef=.bool true:=(hdone _ (mg 0 rfl) rfl _ rfl).1
   exact wpOp_valw (v:=.bool t2) (w':=w) rfl (wanted_yes 48 137 true hg (by omega) rfl rfl rfl rfl) (by simp [execOp,Act.eval,t30]) ⟨_,rfl,putR rfl (by omega) rfl rfl,hS,fun _ _ _ h=>h⟩
  ·have hg:a.tmps.getD 137 undef=.bool true:=(hdone _ (mg 2 rfl) rfl _ rfl).1
   have s138:a.tmps.getD 138 undef=.bool t2:=(hdone _ (mg 0 rfl) rfl _ rfl).1
   have s139:a.tmps.getD 139 undef=.bool t2:=(hdone _ (mg 1 rfl) rfl _ rfl).1
   exact wpOp_valw (v:=.bool true) (w':=w) rfl (wanted_yes 48 137 true hg (by omega) rfl rfl rfl rfl) (by simp [execOp,Act.eval,s138,s139,go_sem]) ⟨_,rfl,putR rfl (by omega) rfl rfl,hS,fun _ _ _ h=>h⟩
  ·have s137:a.tmps.getD 137 undef=.bool true:=(hdone _ (mg 0 rfl) rfl _ rfl).1
   have s140:a.tmps.getD 140 undef=.bool true:=(hdone _ (mg 1 rfl) rfl _ rfl).1
   exact wpOp_val (v:=.bool true) (w':=w) rfl rfl (by simp [execOp,Act.eval,s137,s140,go_sem]) ⟨_,rfl,putR rfl (by omega) rfl rfl,hS,fun _ _ _ h=>h⟩
  ·have s141:a.tmps.getD 141 undef=.bool true:=(hdone _ (mg 0 rfl) rfl _ rfl).1
   exact wpOp_val (v:=.bool true) (w':=w) rfl rfl (by simp [execOp,Act.eval,s141]) ⟨_,rfl,putR rfl (by omega) rfl rfl,hS,fun _ _ _ h=>h⟩
  ·have hg:a.tmps.getD 142 undef=.bool true:=(hdone _ (mg 0 rfl) rfl _ rfl).1
   exact wpOp_valw (v:=.agg M) (w':=w) rfl (wanted_yes 53 142 true hg (by omega) rfl rfl rfl rfl) (ldRow rfl t4 (Mrm.heap_below hS ZM.out (Nat.le_refl _)) Tryz.underlying27 rfl (info_M SM.out)) ⟨_,rfl,putR rfl (by omega) rfl rfl,hS,fun _ _ _ h=>h⟩
  ·have hg:a.tmps.getD 142 undef=.bool true:=(hdone _ (mg 0 rfl) rfl _ rfl).1
   exact wpOp_valw (v:=.agg X) (w':=w) rfl (wanted_yes 53 142 true hg (by omega) rfl rfl rfl rfl) (ldRow rfl t5 (Mrm.heap_below hS ZX.out (Nat.le_refl _)) Tryz.underlying30 rfl (info_X8 SX.out)) ⟨_,rfl,putR rfl (by omega) rfl rfl,hS,fun _ _ _ h=>h⟩
  ·have hg:a.tmps.getD 142 undef=.bool true:=(hdone _ (mg 2 rfl) rfl _ rfl).1
   have s143:a.tmps.getD 143 undef=.agg M:=(hdone _ (mg 0 rfl) rfl _ rfl).1
   have s144:a.tmps.getD 144 undef=.agg X:=(hdone _ (mg 1 rfl) rfl _ rfl).1
   refine wpOp_callw (f:=14) (args:=#[.agg M,.agg X]) rfl (wanted_yes 53 142 true hg (by omega) rfl rfl rfl rfl) ?_ ?_
   ·simp [go_sem,execOp,Act.eval,Deferred.ofValue,callFunc,Tryz.func14,Tryz.f14,s143,s144,resolve,invoke]
   ·refine (ST.out w (HT.out.below (below_call BZ.out hS) (Nat.le_refl _))).mono ?_
    rintro e w' ⟨rfl,b9⟩
    refine ⟨_,rfl,_,rfl,?_,below_call hS b9,fun _ _ _ h=>⟨h.1,fun q=>(h.2 q).below b9 (Nat.le_refl _)⟩⟩
    rw [own_put rfl (by rw [hs];omega)];exact ⟨rfl,fun q=>absurd q (by decide)⟩
  ·have hg:a.tmps.getD 142 undef=.bool true:=(hdone _ (mg 0 rfl) rfl _ rfl).1
   exact wpOp_valw (v:=.agg M) (w':=w) rfl (wanted_yes 53 142 true hg (by omega) rfl rfl rfl rfl) (ldRow rfl t4 (Mrm.heap_below hS ZM.out (Nat.le_refl _)) Tryz.underlying27 rfl (info_M SM.out)) ⟨_,rfl,putR rfl (by omega) rfl rfl,hS,fun _ _ _ h=>h⟩
  ·have hg:a.tmps.getD 142 undef=.bool true:=(hdone _ (mg 0 rfl) rfl _ rfl).1
   exact wpOp_valw (v:=.agg X) (w':=w) rfl (wanted_yes 53 142 true hg (by omega) rfl rfl rfl rfl) (ldRow rfl t5 (Mrm.heap_below hS ZX.out (Nat.le_refl _)) Tryz.underlying30 rfl (info_X8 SX.out)) ⟨_,rfl,putR rfl (by omega) rfl rfl,hS,fun _ _ _ h=>h⟩
  ·have hg:a.tmps.getD 142 undef=.bool true:=(hdone _ (mg 3 rfl) rfl _ rfl).1
   have s146:a.tmps.getD 146 undef=.agg M:=(hdone _ (mg 0 rfl) rfl _ rfl).1
   have s147:a.tmps.getD 147 undef=.agg X:=(hdone _ (mg 1 rfl) rfl _ rfl).1
   refine wpOp_callw (f:=15) (args:=#[.agg M,.agg X]) rfl (wanted_yes 53 142 true hg (by omega) rfl rfl rfl rfl) ?_ ?_
   ·simp [go_sem,execOp,Act.eval,Deferred.ofValue,callFunc,Tryz.func15,Tryz.f15,s146,s147,resolve,invoke]
   ·refine (QS.out w).mono ?_
    rintro e w' ⟨rfl,b9⟩
    refine ⟨_,rfl,_,rfl,?_,below_call hS b9,fun _ _ _ h=>⟨h.1,fun q=>(h.2 q).below b9 (Nat.le_refl _)⟩⟩
    rw [own_put rfl (by rw [hs];omega)];exact ⟨rfl,fun q=>absurd q (by decide)⟩
  ·have hg:a.tmps.getD 142 undef=.bool true:=(hdone _ (mg 2 rfl) rfl _ rfl).1
   have s145:a.tmps.getD 145 undef=.int .u64 st:=(hdone _ (mg 0 rfl) rfl _ rfl).1
   have s148:a.tmps.getD 148 undef=.int .u64 st:=(hdone _ (mg 1 rfl) rfl _ rfl).1
   exact wpOp_valw (v:=.bool true) (w':=w) rfl (wanted_yes 53 142 true hg (by omega) rfl rfl rfl rfl) (by simp [execOp,Act.eval,s145,s148,go_sem]) ⟨_,rfl,putR rfl (by omega) rfl rfl,hS,fun _ _ _ h=>h⟩
  ·have s142:a.tmps.getD 142 undef=.bool true:=(hdone _ (mg 0 rfl) rfl _ rfl).1
   have s149:a.tmps.getD 149 undef=.bool true:=(hdone _ (mg 1 rfl) rfl _ rfl).1
   exact wpOp_val (v:=.bool true) (w':=w) rfl rfl (by simp [execOp,Act.eval,s142,s149,go_sem]) ⟨_,rfl,putR rfl (by omega) rfl rfl,hS,fun _ _ _ h=>h⟩
  ·have s150:a.tmps.getD 150 undef=.bool true:=(hdone _ (mg 0 rfl) rfl _ rfl).1
   exact wpOp_val (v:=.bool true) (w':=w) rfl rfl (by simp [execOp,Act.eval,s150]) ⟨_,rfl,putR rfl (by omega) rfl rfl,hS,fun _ _ _ h=>h⟩
  ·have hg:a.tmps.getD 151 undef=.bool true:=(hdone _ (mg 0 rfl) rfl _ rfl).1
   exact wpOp_valw (v:=.agg M) (w':=w) rfl (wanted_yes 62 151 true hg (by omega) rfl rfl rfl rfl) (ldRow rfl t4 (Mrm.heap_below hS ZM.out (Nat.le_refl _)) Tryz.underlying27 rfl (info_M SM.out)) ⟨_,rfl,putR rfl (by omega) rfl rfl,hS,fun _ _ _ h=>h⟩
  ·have hg:a.tmps.getD 151 undef=.bool true:=(hdone _ (mg 1 rfl) rfl _ rfl).1
   have s152:a.tmps.getD 152 undef=.agg M:=(hdone _ (mg 0 rfl) rfl _ rfl).1
   refine wpOp_callw (f:=17) (args:=#[.agg M]) rfl (wanted_yes 62 151 true hg (by omega) rfl rfl rfl rfl) ?_ ?_
   ·simp [go_sem,execOp,Act.eval,Deferred.ofValue,callFunc,Tryz.func17,Tryz.f17,s152,resolve,invoke]
   ·refine (AR.out w).mono ?_
    rintro e w' ⟨v9,rfl,A9,b9⟩
    refine ⟨_,rfl,_,rfl,?_,below_call hS b9,fun _ _ _ h=>⟨h.1,fun q=>(h.2 q).below b9 (Nat.le_refl _)⟩⟩
    rw [own_put rfl (by rw [hs];omega)];exact ⟨trivial,fun _=>A9⟩
  ·have hg:a.tmps.getD 151 undef=.bool true:=(hdone _ (mg 0 rfl) rfl _ rfl).1
   exact wpOp_valw (v:=.agg M) (w':=w) rfl (wanted_yes 62 151 true hg (by omega) rfl rfl rfl rfl) (ldRow rfl t4 (Mrm.heap_below hS ZM.out (Nat.le_refl _)) Tryz.underlying27 rfl (info_M SM.out)) ⟨_,rfl,putR rfl (by omega) rfl rfl,hS,fun _ _ _ h=>h⟩
  ·have hg:a.tmps.getD 151 undef=.bool true:=(hdone _ (mg 2 rfl) rfl _ rfl).1
   have s154:a.tmps.getD 154 undef=.agg M:=(hdone _ (mg 0 rfl) rfl _ rfl).1
   refine wpOp_callw (f:=18) (args:=#[.agg M]) rfl (wanted_yes 62 151 true hg (by omega) rfl rfl rfl rfl) ?_ ?_
   ·simp [go_sem,execOp,Act.eval,Deferred.ofValue,callFunc,Tryz.func18,Tryz.f18,s154,resolve,invoke]
   ·refine (QR.out w).mono ?_
    rintro e w' ⟨v9,rfl,A9,b9⟩
    refine ⟨_,rfl,_,rfl,?_,below_call hS b9,fun _ _ _ h=>⟨h.1,fun q=>(h.2 q).below b9 (Nat.le_refl _)⟩⟩
    rw [own_put rfl (by rw [hs];omega)];exact ⟨trivial,fun _=>A9⟩
  ·have hg:a.tmps.getD 151 undef=.bool true:=(hdone _ (mg 3 rfl) rfl _ rfl).1
   have r153:=hdone _ (mg 0 rfl) rfl _ rfl
   have r155:=hdone _ (mg 1 rfl) rfl _ rfl
   refine wpOp_callw (f:=16) (args:=#[a.tmps.getD 153 undef,a.tmps.getD 155 undef]) rfl (wanted_yes 62 151 true hg (by omega) rfl rfl rfl rfl) ?_ ?_
   ·simp [go_sem,execOp,Act.eval,Deferred.ofValue,callFunc,Tryz.func16,Tryz.f16,resolve,invoke]
   ·refine (SW.out _ _ w (r153.2 rfl) (r155.2 rfl)).mono ?_
    rintro e w' ⟨rfl,b9⟩
    refine ⟨_,rfl,_,rfl,?_,below_call hS b9,fun _ _ _ h=>⟨h.1,fun q=>(h.2 q).below b9 (Nat.le_refl _)⟩⟩
    rw [own_put rfl (by rw [hs];omega)];exact ⟨rfl,fun q=>absurd q (by decide)⟩
  ·have s151:a.tmps.getD 151 undef=.bool true:=(hdone _ (mg 0 rfl) rfl _ rfl).1
   have s156:a.tmps.getD 156 undef=.bool true:=(hdone _ (mg 1 rfl) rfl _ rfl).1
   exact wpOp_val (v:=.bool true) (w':=w) rfl rfl (by simp [execOp,Act.eval,s151,s156,go_sem]) ⟨_,rfl,putR rfl (by omega) rfl rfl,hS,fun _ _ _ h=>h⟩
  ·have s157:a.tmps.getD 157 undef=.bool true:=(hdone _ (mg 0 rfl) rfl _ rfl).1
   exact wpOp_val (v:=.bool true) (w':=w) rfl rfl (by simp [execOp,Act.eval,s157]) ⟨_,rfl,putR rfl (by omega) rfl rfl,hS,fun _ _ _ h=>h⟩
  ·have hg:a.tmps.getD 158 undef=.bool true:=(hdone _ (mg 0 rfl) rfl _ rfl).1
   refine wpOp_callw (f:=19) (args:=#[]) rfl (wanted_yes 69 158 true hg (by omega) rfl rfl rfl rfl) ?_ ?_
   ·simp [go_sem,execOp,Act.eval,Deferred.ofValue,callFunc,Tryz.func19,Tryz.f19,resolve,invoke]
   ·refine (WK.out w (HT.out.below (below_call BZ.out hS) (Nat.le_refl _))).mono ?_
    rintro e w' ⟨rfl,b9⟩
    refine ⟨_,rfl,_,rfl,?_,below_call hS b9,fun _ _ _ h=>⟨h.1,fun q=>(h.2 q).below b9 (Nat.le_refl _)⟩⟩
    rw [own_put rfl (by rw [hs];omega)];exact ⟨rfl,fun q=>absurd q (by decide)⟩
  ·have s158:a.tmps.getD 158 undef=.bool true:=(hdone _ (mg 0 rfl) rfl _ rfl).1
   have s159:a.tmps.getD 159 undef=.bool true:=(hdone _ (mg 1 rfl) rfl _ rfl).1
   exact wpOp_val (v:=.bool true) (w':=w) rfl rfl (by simp [execOp,Act.eval,s158,s159,go_sem]) ⟨_,rfl,putR rfl (by omega) rfl rfl,hS,fun _ _ _ h=>h⟩
  ·have s160:a.tmps.getD 160 undef=.bool true:=(hdone _ (mg 0 rfl) rfl _ rfl).1
   exact wpOp_val (v:=.bool true) (w':=w) rfl rfl (by simp [execOp,Act.eval,s160]) ⟨_,rfl,putR rfl (by omega) rfl rfl,hS,fun _ _ _ h=>h⟩
 case hq=>
  intro u9 w' hS hR9
  have f8:u9 8=.bool true:=(hR9 72 _ rfl).1
  clear hR9
  rw [show outs _ u9=[(89,u9 89),(90,u9 90),(91,u9 91),(92,u9 92),(93,u9 93),(94,u9 94),(95,u9 95),(96,u9 96),(97,u9 97),(98,u9 98),(99,u9 99),(100,u9 100),(101,u9 101),(102,u9 102),(103,u9 103),(104,u9 104),(105,u9 105),(106,u9 106),(107,u9 107),(108,u9 108),(109,u9 109),(110,u9 110),(111,u9 111),(112,u9 112),(113,u9 113),(114,u9 114),(115,u9 115),(116,u9 116),(117,u9 117),(118,u9 118),(119,u9 119),(120,u9 120),(121,u9 121),(122,u9 122),(123,u9 123),(124,u9 124),(125,u9 125),(126,u9 126),(127,u9 127),(128,u9 128),(129,u9 129),(130,u9 130),(131,u9 131),(132,u9 132),(133,u9 133),(134,u9 134),(135,u9 135),(136,u9 136),(137,u9 137),(138,u9 138),(139,u9 139),(140,u9 140),(141,u9 141),(142,u9 142),(143,u9 143),(144,u9 144),(145,u9 145),(146,u9 146),(147,u9 147),(148,u9 148),(149,u9 149),(150,u9 150),(151,u9 151),(152,u9 152),(153,u9 153),(154,u9 154),(155,u9 155),(156,u9 156),(157,u9 157),(158,u9 158),(159,u9 159),(160,u9 160),(8,u9 8)] by kernel_rfl,f8]
  simp only [putAll,List.setIfInBounds_toArray,List.set_cons_zero,List.set_cons_succ]
  generalize u9 89=x89
  generalize u9 90=x90
  generalize u9 91=x91
  generalize u9 92=x92
  generalize u9 93=x93
  generalize u9 94=x94
  generalize u9 95=x95
  generalize u9 96=x96
  generalize u9 97=x97
  generalize u9 98=x98
  generalize u9 99=x99
  generalize u9 100=x100
  generalize u9 101=x101
  generalize u9 102=x102
  generalize u9 103=x103
  generalize u9 104=x104
  generalize u9 105=x105
  generalize u9 106=x106
  generalize u9 107=x107
  generalize u9 108=x108
  generalize u9 109=x109
  generalize u9 110=x110
  generalize u9 111=x111
  generalize u9 112=x112
  generalize u9 113=x113
  generalize u9 114=x114
  generalize u9 115=x115
  generalize u9 116=x116
  generalize u9 117=x117
  generalize u9 118=x118
  generalize u9 119=x119
  generalize u9 120=x120
  generalize u9 121=x121
  generalize u9 122=x122
  generalize u9 123=x123
  generalize u9 124=x124
  generalize u9 125=x125
  generalize u9 126=x126
  generalize u9 127=x127
  generalize u9 128=x128
  generalize u9 129=x129
  generalize u9 130=x130
  generalize u9 131=x131
  generalize u9 132=x132
  generalize u9 133=x133
  generalize u9 134=x134
  generalize u9 135=x135
  generalize u9 136=x136
  generalize u9 137=x137
  generalize u9 138=x138
  generalize u9 139=x139
  generalize u9 140=x140
  generalize u9 141=x141
  generalize u9 142=x142
  generalize u9 143=x143
  generalize u9 144=x144
  generalize u9 145=x145
  generalize u9 146=x146
  generalize u9 147=x147
  generalize u9 148=x148
  generalize u9 149=x149
  generalize u9 150=x150
  generalize u9 151=x151
  generalize u9 152=x152
  generalize u9 153=x153
  generalize u9 154=x154
  generalize u9 155=x155
  generalize u9 156=x156
  generalize u9 157=x157
  generalize u9 158=x158
  generalize u9 159=x159
  generalize u9 160=x160
  clear f8 u9
  have BF:=below_call BZ.out hS
  go_wp2_with fail
  go_ret
  exact ⟨rfl,BF⟩
theorem bd_i8t {a:Int}(h:(Lit.int .i8 a).wf=true):-128≤a∧a<128:=by
 have:-128≤a∧a≤127:=by simpa [Lit.wf,IntKind.min,IntKind.max,IntKind.bits,IntKind.signed] using h
 exact ⟨this.1,by omega⟩
theorem tells_law (m:Mc)(x:Xi)(l cc:Int)(W:World)(hM:MOk m)(hX:Mrm.XOk x)(h1:(Lit.int .u64 l).wf=true)(h2:(Lit.int .i8 cc).wf=true)(hT:Mrm.Tabs W):Calls Tryz.prog 3 #[.agg (mcC m),.agg (xC x),.int .u64 l,.int .i8 cc] W fun e w'=>e=.returned (.bool true)∧Below W.heap.size W w':=
 tells_n m x l cc hM hX (bd_u64 h1) (bd_i8t h2) W hT
end Go.Proofs.YtjhedldplmhmjaaGreatDoor.Exe
