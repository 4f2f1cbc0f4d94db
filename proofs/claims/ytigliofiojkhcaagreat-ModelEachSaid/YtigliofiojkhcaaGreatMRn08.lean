import Derived.Test.YtigliofiojkhcaaGreatMRn07
import Derived.Deep.WholeRow
import Derived.Test.YtigliofiojkhcaaGreatMRn02
import Derived.Test.YtigliofiojkhcaaGreatMRn04
import Derived.Test.YtigliofiojkhcaaGreatMRn03
import Derived.Test.YtigliofiojkhcaaGreatMRn05
import Derived.WalkKit
import Derived.WalkSpells
import Derived.WalkLawsBesides
import Derived.Lib.Hide
set_option linter.unusedVariables false
set_option linter.unusedSimpArgs false
set_option linter.unnecessarySimpa false
namespace Go.Proofs.YtigliofiojkhcaaGreat
open Go.RowKit
set_option linter.unusedVariables false
set_option maxRecDepth 100000
def placeR (c k z:Int):Regs where
  st k:=if k=1 then 1048576 else if k=2 then 2097152 else if k=3 then 3145728 else if k=4 then 4194304 else 0
  sz j:=if j=1 then limI k 16384 else if j=2 then limI c 256 else if j=3 then 64 else if j=4 then z else 0
  fx k:=if k=1 then true else false
  bp k:=none
  bl k:=0
def regF (a c k:Int) (st:Bool):Int:=firstI fun j=>rdB a 1 ((placeR c k (stkI st)).st j) ((placeR c k (stkI st)).sz j)
def regI (a c k:Int) (st:Bool):Int:=if regF a c k st < 0 then 0 else regF a c k st
theorem MemS.src {S:MemS} {w:World} {b:Nat} (h:S.at w b) (o n cap:Nat) (hi:InBytes o n) (hc:n ≤ cap) (hm:cap ≤ 587):Src w (some ⟨b,o,none⟩) n cap (fun i=>S.g (o + i)):=
  ⟨hc,by omega,fun _=>⟨b,o,rfl,fun i hi'=>by
    unfold InBytes at hi
    rw [h.row.cell (show o + i < 587 by omega)]
    unfold MemS.val
    rw [if_neg (by omega),if_neg (by omega),if_neg (by omega)]⟩,fun i _=>h.bytes _⟩
set_option maxRecDepth 100000 in
set_option maxHeartbeats 1000000 in
theorem context_any (S:MemS) (b:Nat) (W:World) (hS:S.at W b):
    Calls Tryz.prog 39 #[.pointer (some ⟨b,0,none⟩)] W fun e w'=>e=.returned (.slice (some ⟨W.heap.size,0,none⟩) S.n S.n) ∧ Below W.heap.size W w' ∧ w'.rowIs W.heap.size 5 S.n (fun i=>.int .u8 (S.g (1 + i))):=by
  have c257:W.cell? ⟨b,257,none⟩=some (.int .i64 S.n):=hS.row.cell (i:=257) (by omega)
  have hn:=hS.n
  have hn':(S.n:Int) ≤ 256:=by omega
  have HS:=Lib.hid hS;clear hS
  go_enter Tryz.func39,Tryz.ntmps39
  go_wp2_with fail
  go_still_tail 8,(by kernel_rfl)
  go_wp2_with fail
  refine (fresh_any _ _ _ _ _ (MemS.src (show S.at W.drew b from ⟨HS.out.row,HS.out.cn,HS.out.n,HS.out.far,HS.out.bytes⟩) 1 S.n 256 (by unfold InBytes;omega) (by omega) (by omega)) (by omega)).mono ?_
  rintro e w1 ⟨rfl,b1,r1⟩
  go_wp2
  go_ret
  exact ⟨rfl,below_call (Below.drew (Below.refl _ _)) b1,r1⟩
theorem info_frame:(Tryz.prog.info? 47).map (·.size)=some 64:=by kernel_rfl
def zeros (n:Nat):Array Value:=(bytesOf (fun _=>0) n).toArray
theorem bytes_one (f:Nat → Int) (n:Nat):(bytesOf f n).toArray.all (·.oneCell')=true:=all_oneCell_toArray (bytesOf_one _ n)
theorem zero_frame:(Tryz.prog.info? 47).map (fun i=>(i.zero,i.size))=some (some (.agg (zeros 64)),64):=by kernel_rfl
theorem MemS.range {S:MemS} {w:World} {b:Nat} (h:S.at w b):w.rangeAt b 258 (bytesOf (fun i=>S.g (258 + i)) 64):=by
  intro j v hv
  have hj:j < 64:=by have:=(List.getElem?_eq_some_iff.1 hv).1;rwa [bytesOf_length] at this
  rw [bytesOf_get _ _ j hj] at hv
  rw [h.row.cell (show 258 + j < 587 by omega),← hv]
  unfold MemS.val
  rw [if_neg (by omega),if_neg (by omega),if_neg (by omega)]
theorem limI_in (n:Nat) (m:Int) (h:(n:Int) ≤ m):limI n m=n:=by
  unfold limI
  rw [Int.max_eq_left (by omega),Int.min_eq_left h]
end Go.Proofs.YtigliofiojkhcaaGreat
namespace Go.Proofs.YtigliofiojkhcaaGreat
open Go.RowKit
set_option linter.unusedVariables false
set_option maxRecDepth 100000
theorem rdB_iff (a m st sz:Int) (ha0:0 ≤ a) (ha1:a < 18446744073709551616) (hs0:0 ≤ st) (hs1:st ≤ 4194304) (hz0:0 ≤ sz) (hz1:sz ≤ 16384) (hm:1 ≤ m):
    rdB a m st sz=decide (st ≤ a ∧ a + m ≤ st + sz):=by
  unfold rdB offI
  rw [Bool.eq_iff_iff]
  simp only [Bool.and_eq_true,decide_eq_true_eq]
  omega
def locI (cn n:Nat) (hs:Bool) (a m:Int):Nat:=
  if 1048576 ≤ a ∧ a + m ≤ 1048576 + cn then 1 else if 2097152 ≤ a ∧ a + m ≤ 2097152 + n then 2 else if 3145728 ≤ a ∧ a + m ≤ 3145792 then 3
  else if 4194304 ≤ a ∧ a + m ≤ 4194304 + stkI hs then 4 else 0
theorem stkI_bd (hs:Bool):0 ≤ stkI hs ∧ stkI hs ≤ 264:=by unfold stkI;split <;> omega
theorem first_five (P:Nat → Bool) (h0:P 0=false) (k:Nat) (hk:k=if P 1=true then 1 else if P 2=true then 2 else if P 3=true then 3 else if P 4=true then 4 else 0):firstI P=if k=0 then -1 else (k:Int):=by
  unfold firstI
  rw [h0,if_neg (by simp)]
  subst hk
  split
  · rfl
  split
  · rfl
  split
  · rfl
  split
  · rfl
  · rfl
theorem rd_loc (cn n:Nat) (hs:Bool) (c k:Int) (hc:limI k 16384=cn) (hn:limI c 256=n) (a m:Int) (ha0:0 ≤ a) (ha1:a < 18446744073709551616) (hm:1 ≤ m) (h1:cn ≤ 16384) (h2:n ≤ 256):
    (firstI fun j=>rdB a m ((placeR c k (stkI hs)).st j) ((placeR c k (stkI hs)).sz j))=if locI cn n hs a m=0 then -1 else (locI cn n hs a m:Int):=by
  have hz:=stkI_bd hs
  have e0:rdB a m ((placeR c k (stkI hs)).st 0) ((placeR c k (stkI hs)).sz 0)=false:=by
    show rdB a m 0 0=false
    rw [rdB_iff a m 0 0 ha0 ha1 (by omega) (by omega) (by omega) (by omega) hm]
    exact decide_eq_false (by omega)
  have e1:rdB a m ((placeR c k (stkI hs)).st 1) ((placeR c k (stkI hs)).sz 1)=decide (1048576 ≤ a ∧ a + m ≤ 1048576 + cn):=by
    show rdB a m 1048576 (limI k 16384)=_
    rw [hc];exact rdB_iff a m _ _ ha0 ha1 (by omega) (by omega) (by omega) (by omega) hm
  have e2:rdB a m ((placeR c k (stkI hs)).st 2) ((placeR c k (stkI hs)).sz 2)=decide (2097152 ≤ a ∧ a + m ≤ 2097152 + n):=by
    show rdB a m 2097152 (limI c 256)=_
    rw [hn];exact rdB_iff a m _ _ ha0 ha1 (by omega) (by omega) (by omega) (by omega) hm
  have e3:rdB a m ((placeR c k (stkI hs)).st 3) ((placeR c k (stkI hs)).sz 3)=decide (3145728 ≤ a ∧ a + m ≤ 3145792):=by
    show rdB a m 3145728 64=_
    rw [rdB_iff a m _ _ ha0 ha1 (by omega) (by omega) (by omega) (by omega) hm];rfl
  have e4:rdB a m ((placeR c k (stkI hs)).st 4) ((placeR c k (stkI hs)).sz 4)=decide (4194304 ≤ a ∧ a + m ≤ 4194304 + stkI hs):=by
    show rdB a m 4194304 (stkI hs)=_
    exact rdB_iff a m _ _ ha0 ha1 (by omega) (by omega) (by omega) (by omega) hm
  refine first_five _ e0 _ ?_
  rw [e1,e2,e3,e4]
  unfold locI
  simp only [decide_eq_true_eq]
theorem R_rd (S:MemS) (b:Nat) (h1:S.cn ≤ 16384) (h2:S.n ≤ 256) (a m:Int) (ha0:0 ≤ a) (ha1:a < 18446744073709551616) (hm:1 ≤ m):
    (firstI fun j=>rdB a m ((S.R b).st j) ((S.R b).sz j))=if locI S.cn S.n S.hs a m=0 then -1 else (locI S.cn S.n S.hs a m:Int):=
  rd_loc S.cn S.n S.hs S.n S.cn (limI_in _ _ (by omega)) (limI_in _ _ (by omega)) a m ha0 ha1 hm h1 h2
theorem R_wr (S:MemS) (b:Nat) (h1:S.cn ≤ 16384) (h2:S.n ≤ 256) (a m:Int) (ha0:0 ≤ a) (ha1:a < 18446744073709551616) (hm:1 ≤ m):
    (firstI fun j=>wrB a m ((S.R b).st j) ((S.R b).sz j) ((S.R b).fx j))=if locI S.cn S.n S.hs a m ≤ 1 then -1 else (locI S.cn S.n S.hs a m:Int):=by
  have hz:=stkI_bd S.hs
  have e0:wrB a m ((S.R b).st 0) ((S.R b).sz 0) ((S.R b).fx 0)=false:=by
    show (true && rdB a m 0 0)=false
    rw [rdB_iff a m 0 0 ha0 ha1 (by omega) (by omega) (by omega) (by omega) hm,decide_eq_false (by omega)];rfl
  have e2:wrB a m ((S.R b).st 2) ((S.R b).sz 2) ((S.R b).fx 2)=decide (2097152 ≤ a ∧ a + m ≤ 2097152 + S.n):=by
    show (true && rdB a m 2097152 (limI S.n 256))=_
    rw [limI_in _ _ (by omega),rdB_iff a m _ _ ha0 ha1 (by omega) (by omega) (by omega) (by omega) hm];rfl
  have e3:wrB a m ((S.R b).st 3) ((S.R b).sz 3) ((S.R b).fx 3)=decide (3145728 ≤ a ∧ a + m ≤ 3145792):=by
    show (true && rdB a m 3145728 64)=_
    rw [rdB_iff a m _ _ ha0 ha1 (by omega) (by omega) (by omega) (by omega) hm];rfl
  have e4:wrB a m ((S.R b).st 4) ((S.R b).sz 4) ((S.R b).fx 4)=decide (4194304 ≤ a ∧ a + m ≤ 4194304 + stkI S.hs):=by
    show (true && rdB a m 4194304 (stkI S.hs))=_
    rw [rdB_iff a m _ _ ha0 ha1 (by omega) (by omega) (by omega) (by omega) hm];rfl
  have e1:wrB a m ((S.R b).st 1) ((S.R b).sz 1) ((S.R b).fx 1)=false:=rfl
  have key:=first_five (fun j=>wrB a m ((S.R b).st j) ((S.R b).sz j) ((S.R b).fx j)) e0 (if locI S.cn S.n S.hs a m=1 then 0 else locI S.cn S.n S.hs a m) (by
    simp only [e1,e2,e3,e4]
    unfold locI
    simp only [decide_eq_true_eq]
    split
    · simp only [if_pos]
      rw [if_neg (by simp),if_neg (by omega),if_neg (by omega),if_neg (by omega)]
    · rw [if_neg (show ¬ false=true by simp)]
      split
      · rfl
      split
      · rfl
      split <;> rfl)
  rw [key]
  by_cases h:locI S.cn S.n S.hs a m=1
  · rw [h];rfl
  · rw [if_neg h]
    by_cases h':locI S.cn S.n S.hs a m=0
    · rw [if_pos h',if_pos (by omega)]
    · rw [if_neg h',if_neg (by omega)]
end Go.Proofs.YtigliofiojkhcaaGreat
namespace Go.Proofs.YtigliofiojkhcaaGreat
open Go.RowKit
set_option linter.unusedVariables false
set_option maxRecDepth 100000
def plc (a:Int):Nat:=if a < 3145728 then (1 + (a - 2097152)).toNat else if a < 4194304 then (258 + (a - 3145728)).toNat else (322 + (a - 4194304)).toNat
def byteAt (S:MemS) (kf:Nat → Int) (a:Int):Int:=if a < 2097152 then kf (a - 1048576).toNat else S.g (plc a)
structure Mem (S:MemS) (kf:Nat → Int) (w:World) (b:Nat):Prop where
  at_:S.at w b
  code:w.rowIs S.cb 5 S.cn (fun i=>.int .u8 (kf i))
  kb:∀ i,i < S.cn → 0 ≤ kf i ∧ kf i < 256
theorem Mem.below {S:MemS} {kf:Nat → Int} {W w:World} {b:Nat} (h:Mem S kf W b) (hb:Below W.heap.size W w):Mem S kf w b:=
  ⟨h.at_.below hb,h.code.of_block (hb.block _ h.code.lt),h.kb⟩
theorem locI_cases {cn n:Nat} {hs:Bool} {a m:Int} (hm:1 ≤ m):
    locI cn n hs a m=0 ∨ (locI cn n hs a m=1 ∧ 1048576 ≤ a ∧ a + m ≤ 1048576 + cn) ∨ (locI cn n hs a m=2 ∧ 2097152 ≤ a ∧ a + m ≤ 2097152 + n) ∨ (locI cn n hs a m=3 ∧ 3145728 ≤ a ∧ a + m ≤ 3145792) ∨ (locI cn n hs a m=4 ∧ 4194304 ≤ a ∧ a + m ≤ 4194568):=by
  have hz:=stkI_bd hs
  unfold locI
  split
  · right;left;exact ⟨rfl,by omega⟩
  split
  · right;right;left;exact ⟨rfl,by omega⟩
  split
  · right;right;right;left;exact ⟨rfl,by omega⟩
  split
  · right;right;right;right;exact ⟨rfl,by omega⟩
  · left;rfl
def readE (S:MemS) (a m:Int):Int:=if locI S.cn S.n S.hs a m=0 then 20 else 0
def readV (S:MemS) (kf:Nat → Int) (a:Int) (m:Nat):Int:=if locI S.cn S.n S.hs a m=0 then 0 else getI (fun i=>byteAt S kf (a + i)) m
theorem szB_pos {m:Nat} (h:szB m=true):1 ≤ (m:Int):=by have:=szB_le h;omega
theorem read_any (S:MemS) (kf:Nat → Int) (b:Nat) (a:Int) (m:Nat) (W:World) (h:Mem S kf W b) (hm:szB m=true) (ha0:0 ≤ a) (ha1:a < 18446744073709551616):
    Calls Tryz.prog 65 #[.pointer (some ⟨b,0,none⟩),.int .u64 a,.int .i64 m] W fun e w'=>e=.returned (.tuple #[.int .u64 (readV S kf a m),.int .i64 (readE S a m)]) ∧ Below W.heap.size W w':=by
  have hcn:=h.at_.cn
  have hn:=h.at_.n
  have m1:=szB_pos hm
  have hR:=R_rd S b hcn hn a m ha0 ha1 m1
  unfold readV readE
  rcases locI_cases (cn:=S.cn) (n:=S.n) (hs:=S.hs) (a:=a) (m:=m) m1 with e | ⟨e,l1,l2⟩ | ⟨e,l1,l2⟩ | ⟨e,l1,l2⟩ | ⟨e,l1,l2⟩
  · rw [e] at hR ⊢
    rw [if_pos rfl,if_pos rfl]
    exact read_miss S b a m W h.at_ hm hR
  · rw [e] at hR ⊢
    rw [if_neg (by omega),if_neg (by omega)]
    refine read_hit S b a m 1 (a - 1048576).toNat S.cb 0 _ W h.at_ (by omega) hm ?_ hR rfl ?_ ?_ ?_
    · show (a - 1048576) % 18446744073709551616=_;omega
    · show _ ≤ S.cn;omega
    · intro i hi
      rw [h.code.cell (show 0 + (a - 1048576).toNat + i < S.cn by omega)]
      unfold byteAt
      rw [if_pos (by omega),show (a + (i:Int) - 1048576).toNat=0 + (a - 1048576).toNat + i by omega]
    · intro i hi
      unfold byteAt
      rw [if_pos (by omega)]
      exact h.kb _ (by omega)
  · rw [e] at hR ⊢
    rw [if_neg (by omega),if_neg (by omega)]
    refine read_hit S b a m 2 (a - 2097152).toNat b 1 _ W h.at_ (by omega) hm ?_ hR rfl ?_ ?_ ?_
    · show (a - 2097152) % 18446744073709551616=_;omega
    · show _ ≤ S.n;omega
    · intro i hi
      rw [h.at_.row.cell (show 1 + (a - 2097152).toNat + i < 587 by omega)]
      unfold byteAt plc MemS.val
      rw [if_neg (by omega),if_neg (by omega),if_neg (by omega),if_neg (by omega),if_pos (by omega),show (1 + (a + (i:Int) - 2097152)).toNat=1 + (a - 2097152).toNat + i by omega]
    · intro i hi
      unfold byteAt
      rw [if_neg (by omega)]
      exact h.at_.bytes _
  · rw [e] at hR ⊢
    rw [if_neg (by omega),if_neg (by omega)]
    refine read_hit S b a m 3 (a - 3145728).toNat b 258 _ W h.at_ (by omega) hm ?_ hR rfl ?_ ?_ ?_
    · show (a - 3145728) % 18446744073709551616=_;omega
    · show _ ≤ 64;omega
    · intro i hi
      rw [h.at_.row.cell (show 258 + (a - 3145728).toNat + i < 587 by omega)]
      unfold byteAt plc MemS.val
      rw [if_neg (by omega),if_neg (by omega),if_neg (by omega),if_neg (by omega),if_neg (by omega),if_pos (by omega),show (258 + (a + (i:Int) - 3145728)).toNat=258 + (a - 3145728).toNat + i by omega]
    · intro i hi
      unfold byteAt
      rw [if_neg (by omega)]
      exact h.at_.bytes _
  · rw [e] at hR ⊢
    rw [if_neg (by omega),if_neg (by omega)]
    refine read_hit S b a m 4 (a - 4194304).toNat b 322 _ W h.at_ (by omega) hm ?_ hR rfl ?_ ?_ ?_
    · show (a - 4194304) % 18446744073709551616=_;omega
    · show _ ≤ 264;omega
    · intro i hi
      rw [h.at_.row.cell (show 322 + (a - 4194304).toNat + i < 587 by omega)]
      unfold byteAt plc MemS.val
      rw [if_neg (by omega),if_neg (by omega),if_neg (by omega),if_neg (by omega),if_neg (by omega),if_neg (by omega),show (322 + (a + (i:Int) - 4194304)).toNat=322 + (a - 4194304).toNat + i by omega]
    · intro i hi
      unfold byteAt
      rw [if_neg (by omega)]
      exact h.at_.bytes _
def MemS.putAt (S:MemS) (a:Int) (m:Nat) (v:Int):MemS:=S.put (plc a) m (byteI v)
theorem write_no (S:MemS) (b:Nat) (a v:Int) (m:Nat) (W:World) (hS:S.at W b) (hm:szB m=true) (ha0:0 ≤ a) (ha1:a < 18446744073709551616) (hl:locI S.cn S.n S.hs a m ≤ 1):
    Calls Tryz.prog 67 #[.pointer (some ⟨b,0,none⟩),.int .u64 a,.int .i64 m,.int .u64 v] W fun e w'=>e=.returned (.int .i64 20) ∧ Below W.heap.size W w':=by
  have hR:=R_wr S b hS.cn hS.n a m ha0 ha1 (szB_pos hm)
  rw [if_pos hl] at hR
  exact write_miss S b a v m W hS hm hR
theorem write_yes (S:MemS) (b:Nat) (a v:Int) (m:Nat) (W:World) (hS:S.at W b) (hm:szB m=true) (ha0:0 ≤ a) (ha1:a < 18446744073709551616) (hl:1 < locI S.cn S.n S.hs a m) (hv0:0 ≤ v) (hv1:v < 18446744073709551616):
    Calls Tryz.prog 67 #[.pointer (some ⟨b,0,none⟩),.int .u64 a,.int .i64 m,.int .u64 v] W fun e w'=>e=.returned (.int .i64 0) ∧ (S.putAt a m v).at w' b ∧ ChgAt b W w':=by
  have hcn:=hS.cn
  have hn:=hS.n
  have m1:=szB_pos hm
  have hR:=R_wr S b hcn hn a m ha0 ha1 m1
  rw [if_neg (by omega)] at hR
  unfold MemS.putAt
  rcases locI_cases (cn:=S.cn) (n:=S.n) (hs:=S.hs) (a:=a) (m:=m) m1 with e | ⟨e,l1,l2⟩ | ⟨e,l1,l2⟩ | ⟨e,l1,l2⟩ | ⟨e,l1,l2⟩
  · omega
  · omega
  · rw [e] at hR
    rw [show plc a=1 + (a - 2097152).toNat by unfold plc;rw [if_pos (by omega)];omega]
    exact write_hit S b a v m 2 (a - 2097152).toNat 1 W hS (by omega) hm (by show (a - 2097152) % 18446744073709551616=_;omega) hR rfl (by show _ ≤ S.n;omega) (by unfold InBytes;omega) hv0 hv1
  · rw [e] at hR
    rw [show plc a=258 + (a - 3145728).toNat by unfold plc;rw [if_neg (by omega),if_pos (by omega)];omega]
    exact write_hit S b a v m 3 (a - 3145728).toNat 258 W hS (by omega) hm (by show (a - 3145728) % 18446744073709551616=_;omega) hR rfl (by show _ ≤ 64;omega) (by unfold InBytes;omega) hv0 hv1
  · rw [e] at hR
    rw [show plc a=322 + (a - 4194304).toNat by unfold plc;rw [if_neg (by omega),if_neg (by omega)];omega]
    exact write_hit S b a v m 4 (a - 4194304).toNat 322 W hS (by omega) hm (by show (a - 4194304) % 18446744073709551616=_;omega) hR rfl (by show _ ≤ 264;omega) (by unfold InBytes;omega) hv0 hv1
end Go.Proofs.YtigliofiojkhcaaGreat
namespace Go.Proofs.YtigliofiojkhcaaGreat
open Go
set_option linter.unusedVariables false
def TabV (l:List (Value → Prop)) (i:Nat) (v u:Value) (w:World):Prop:=match l[i]? with
  | some p=>p v
  | none=>True
end Go.Proofs.YtigliofiojkhcaaGreat
namespace Go.Proofs.YtigliofiojkhcaaGreat.Mdl
open Go.RowKit
set_option linter.unusedVariables false
set_option maxRecDepth 100000
theorem reg_cases {r:Int} (h0:0 ≤ r) (h1:r ≤ 10):r=0 ∨ r=1 ∨ r=2 ∨ r=3 ∨ r=4 ∨ r=5 ∨ r=6 ∨ r=7 ∨ r=8 ∨ r=9 ∨ r=10:=by omega
set_option maxHeartbeats 1000000 in
theorem only_any (r:Int) (W:World) (h0:0 ≤ r) (h1:r ≤ 10):
    Calls Tryz.prog 62 #[.int .i8 r] W fun e w'=>e=.returned (.int .i64 (onlyI r)) ∧ W=w':=by
  rcases reg_cases h0 h1 with rfl | rfl | rfl | rfl | rfl | rfl | rfl | rfl | rfl | rfl | rfl
  all_goals
    go_enter Tryz.func62,Tryz.ntmps62
    go_wp2
    go_ret
    exact ⟨rfl,rfl⟩
set_option maxHeartbeats 1000000 in
theorem arguments_any (n:Int) (W:World) (h0:0 ≤ n) (h1:n ≤ 5):
    Calls Tryz.prog 71 #[.int .i64 n] W fun e w'=>e=.returned (.int .i64 (argsM n)) ∧ W=w':=by
  have c:n=0 ∨ n=1 ∨ n=2 ∨ n=3 ∨ n=4 ∨ n=5:=by omega
  rcases c with rfl | rfl | rfl | rfl | rfl | rfl
  all_goals
    go_enter Tryz.func71,Tryz.ntmps71
    go_wp2
    go_ret
    exact ⟨rfl,rfl⟩
set_option maxHeartbeats 1000000 in
theorem address_any (b o:Int) (W:World) (hb0:0 ≤ b) (hb1:b < 18446744073709551616) (ho0:-9223372036854775808 ≤ o) (ho1:o ≤ 9223372036854775807):
    Calls Tryz.prog 66 #[.int .u64 b,.int .i64 o] W fun e w'=>e=.returned (.int .u64 ((b + o) % 18446744073709551616)) ∧ W=w':=by
  go_enter Tryz.func66,Tryz.ntmps66
  go_wp2
  go_ret
  have e:IntKind.u64.wrap (b + IntKind.u64.wrap o)=(b + o) % 18446744073709551616:=by rw [IntKind.wrap_u64,IntKind.wrap_u64];omega
  rw [← e]
  exact ⟨rfl,rfl⟩
set_option maxHeartbeats 1000000 in
theorem second_f (kind op width size dst src off imm:Int) (W:World):
    Calls Tryz.prog 72 #[.agg (Ins.In.mk kind op width size false dst src off imm).cells] W fun e w'=>e=.returned (.int .i64 0) ∧ Below W.heap.size W w':=by
  unfold Ins.In.cells
  simp only
  go_enter Tryz.func72,Tryz.ntmps72
  go_wp2
  go_ret
  exact ⟨rfl,below_new (Below.refl _ _) _⟩
set_option maxHeartbeats 1000000 in
theorem second_t (kind op width size dst src off imm:Int) (W:World) (h0:0 ≤ src) (h1:src ≤ 10):
    Calls Tryz.prog 72 #[.agg (Ins.In.mk kind op width size true dst src off imm).cells] W fun e w'=>e=.returned (.int .i64 (onlyI src)) ∧ Below W.heap.size W w':=by
  have O:=Lib.hid (fun W=>only_any src W h0 h1)
  unfold Ins.In.cells
  simp only
  go_enter Tryz.func72,Tryz.ntmps72
  go_wp2_with fail
  refine (O.out _).mono ?_
  rintro e w1 ⟨rfl,rfl⟩
  go_wp2
  go_ret
  exact ⟨rfl,below_new (Below.refl _ _) _⟩
theorem second_any (x:Ins.In) (W:World) (h0:0 ≤ x.src) (h1:x.src ≤ 10):
    Calls Tryz.prog 72 #[.agg x.cells] W fun e w'=>e=.returned (.int .i64 (secondI x)) ∧ Below W.heap.size W w':=by
  obtain ⟨kind,op,width,size,byReg,dst,src,off,imm⟩:=x
  cases byReg
  · exact second_f kind op width size dst src off imm W
  · exact second_t kind op width size dst src off imm W h0 h1
set_option maxHeartbeats 2000000 in
theorem reads_1 (op width size:Int) (byReg:Bool) (dst src off imm:Int) (W:World) (s0:0 ≤ src) (s1:src ≤ 10):
    Calls Tryz.prog 38 #[.agg (Ins.In.mk 1 op width size byReg dst src off imm).cells] W fun e w'=>e=.returned (.int .i64 (onlyI src)) ∧ Below W.heap.size W w':=by
  have S:=Lib.hid (fun W=>only_any src W s0 s1)
  clear s0 s1
  unfold Ins.In.cells
  simp only
  go_enter Tryz.func38,Tryz.ntmps38
  go_wp2_with fail
  refine (S.out _).mono ?_
  rintro e w1 ⟨rfl,rfl⟩
  go_wp2
  go_ret
  exact ⟨rfl,below_new (Below.refl _ _) _⟩
set_option maxHeartbeats 2000000 in
theorem reads_2 (op width size:Int) (byReg:Bool) (dst src off imm:Int) (W:World) (d0:0 ≤ dst) (d1:dst ≤ 10) (s0:0 ≤ src) (s1:src ≤ 10):
    Calls Tryz.prog 38 #[.agg (Ins.In.mk 2 op width size byReg dst src off imm).cells] W fun e w'=>e=.returned (.int .i64 (orM (onlyI dst) (onlyI src))) ∧ Below W.heap.size W w':=by
  have D:=Lib.hid (fun W=>only_any dst W d0 d1)
  clear d0 d1
  have S:=Lib.hid (fun W=>only_any src W s0 s1)
  clear s0 s1
  unfold Ins.In.cells
  simp only
  go_enter Tryz.func38,Tryz.ntmps38
  go_wp2_with fail
  have BW0:Below W.heap.size W (W.alloc (.cells (Ins.In.mk 2 op width size byReg dst src off imm).cells 52)):=below_new (Below.refl _ W) _
  have HH0:(W.alloc (.cells (Ins.In.mk 2 op width size byReg dst src off imm).cells 52)).heap[W.heap.size]?=some (.cells (Ins.In.mk 2 op width size byReg dst src off imm).cells 52 (0,0)):=heap_last W _ _ rfl
  unfold Ins.In.cells at BW0 HH0
  simp only at BW0 HH0
  generalize W.alloc (.cells #[.int .i8 2,.int .i8 op,.int .i8 width,.int .i8 size,.bool byReg,.int .i8 dst,.int .i8 src,.int .i64 off,.int .i64 imm] 52)=w0 at *
  have BW:=Lib.hid BW0;clear BW0
  have HB:Hid (∀ w,Below w0.heap.size w0 w → w.heap[W.heap.size]?=some (.cells (Ins.In.mk 2 op width size byReg dst src off imm).cells 52 (0,0))):=Lib.hid (fun w h=>(h.block _ (Array.getElem?_eq_some_iff.1 HH0).1).trans HH0)
  clear HH0
  have H5:Hid (∀ w,Below w0.heap.size w0 w → w.cell? ⟨W.heap.size,5,none⟩=some (.int .i8 dst)):=Lib.hid (fun w h=>by simp only [World.cell?,HB.out w h];rfl)
  have H6:Hid (∀ w,Below w0.heap.size w0 w → w.cell? ⟨W.heap.size,6,none⟩=some (.int .i8 src)):=Lib.hid (fun w h=>by simp only [World.cell?,HB.out w h];rfl)
  refine wp_region_inv (fun _=>100000) (fun w=>Below w0.heap.size w0 w) (TabV [fun v=>v=.pointer (some ⟨W.heap.size,5,none⟩),fun v=>v=.int .i8 dst,fun v=>v=.int .i64 (onlyI dst),fun v=>v=.pointer (some ⟨W.heap.size,6,none⟩),fun v=>v=.int .i8 src,fun v=>v=.int .i64 (onlyI src),fun v=>v=.int .i64 (orM (onlyI dst) (onlyI src)),fun v=>v=.int .i64 (orM (onlyI dst) (onlyI src))]) (by kernel_rfl) (back_of (by kernel_rfl)) (dst_of (by kernel_rfl)) (dep_of (by kernel_rfl)) (in_of (by kernel_rfl)) (Below.drew (Below.refl _ _)) ?hop ?hq
  case hop=>
    intro i o a w ho hS hdf hsz hrest hdone
    have t1:a.tmps.getD 1 undef=.pointer (some ⟨W.heap.size,0,none⟩):=hrest 1 (not_of (by kernel_rfl))
    have hs:a.tmps.size=49:=hsz.trans rfl
    have hi:i < 8:=(Array.getElem?_eq_some_iff.1 ho).1
    clear hrest hsz hdf
    obtain rfl | rfl | rfl | rfl | rfl | rfl | rfl | rfl:i=0 ∨ i=1 ∨ i=2 ∨ i=3 ∨ i=4 ∨ i=5 ∨ i=6 ∨ i=7:=by omega
    · obtain rfl:=Option.some.inj (show some _=some o from ho)
      refine wpOp_val (v:=.pointer (some ⟨W.heap.size,5,none⟩)) (w':=w) rfl rfl ?_ ⟨_,rfl,?_,hS,fun _ _ _ h=>h⟩
      · simp [execOp,Act.eval,t1,go_sem]
      · rw [own_put rfl (by rw [hs];omega)];exact rfl
    · obtain rfl:=Option.some.inj (show some _=some o from ho)
      have s25:a.tmps.getD 25 undef=.pointer (some ⟨W.heap.size,5,none⟩):=hdone _ (Array.mem_of_getElem? (i:=0) rfl) rfl _ rfl
      refine wpOp_val (v:=.int .i8 dst) (w':=w) rfl rfl ?_ ⟨_,rfl,?_,hS,fun _ _ _ h=>h⟩
      · (have hc:=(H5.out w hS);simp [execOp,Act.eval,s25,hc,go_sem])
      · rw [own_put rfl (by rw [hs];omega)];exact rfl
    · obtain rfl:=Option.some.inj (show some _=some o from ho)
      have s26:a.tmps.getD 26 undef=.int .i8 dst:=hdone _ (Array.mem_of_getElem? (i:=0) rfl) rfl _ rfl
      refine wpOp_call (f:=62) (args:=#[.int .i8 dst]) rfl rfl ?_ ?_
      · simp [go_sem,execOp,Act.eval,Deferred.ofValue,callFunc,Tryz.func62,Tryz.f62,s26,resolve,invoke]
      · refine (D.out w).mono ?_
        rintro e w' ⟨rfl,rfl⟩
        refine ⟨_,rfl,_,rfl,?_,hS,fun _ _ _ h=>h⟩
        rw [own_put rfl (by rw [hs];omega)];exact rfl
    · obtain rfl:=Option.some.inj (show some _=some o from ho)
      refine wpOp_val (v:=.pointer (some ⟨W.heap.size,6,none⟩)) (w':=w) rfl rfl ?_ ⟨_,rfl,?_,hS,fun _ _ _ h=>h⟩
      · simp [execOp,Act.eval,t1,go_sem]
      · rw [own_put rfl (by rw [hs];omega)];exact rfl
    · obtain rfl:=Option.some.inj (show some _=some o from ho)
      have s28:a.tmps.getD 28 undef=.pointer (some ⟨W.heap.size,6,none⟩):=hdone _ (Array.mem_of_getElem? (i:=0) rfl) rfl _ rfl
      refine wpOp_val (v:=.int .i8 src) (w':=w) rfl rfl ?_ ⟨_,rfl,?_,hS,fun _ _ _ h=>h⟩
      · (have hc:=(H6.out w hS);simp [execOp,Act.eval,s28,hc,go_sem])
      · rw [own_put rfl (by rw [hs];omega)];exact rfl
    · obtain rfl:=Option.some.inj (show some _=some o from ho)
      have s29:a.tmps.getD 29 undef=.int .i8 src:=hdone _ (Array.mem_of_getElem? (i:=0) rfl) rfl _ rfl
      refine wpOp_call (f:=62) (args:=#[.int .i8 src]) rfl rfl ?_ ?_
      · simp [go_sem,execOp,Act.eval,Deferred.ofValue,callFunc,Tryz.func62,Tryz.f62,s29,resolve,invoke]
      · refine (S.out w).mono ?_
        rintro e w' ⟨rfl,rfl⟩
        refine ⟨_,rfl,_,rfl,?_,hS,fun _ _ _ h=>h⟩
        rw [own_put rfl (by rw [hs];omega)];exact rfl
    · obtain rfl:=Option.some.inj (show some _=some o from ho)
      have s27:a.tmps.getD 27 undef=.int .i64 (onlyI dst):=hdone _ (Array.mem_of_getElem? (i:=0) rfl) rfl _ rfl
      have s30:a.tmps.getD 30 undef=.int .i64 (onlyI src):=hdone _ (Array.mem_of_getElem? (i:=1) rfl) rfl _ rfl
      refine wpOp_val (v:=.int .i64 (orM (onlyI dst) (onlyI src))) (w':=w) rfl rfl ?_ ⟨_,rfl,?_,hS,fun _ _ _ h=>h⟩
      · simp [execOp,Act.eval,s27,s30,go_sem,orM]
      · rw [own_put rfl (by rw [hs];omega)];exact rfl
    · obtain rfl:=Option.some.inj (show some _=some o from ho)
      have s31:a.tmps.getD 31 undef=.int .i64 (orM (onlyI dst) (onlyI src)):=hdone _ (Array.mem_of_getElem? (i:=0) rfl) rfl _ rfl
      refine wpOp_val (v:=.int .i64 (orM (onlyI dst) (onlyI src))) (w':=w) rfl rfl ?_ ⟨_,rfl,?_,hS,fun _ _ _ h=>h⟩
      · simp [execOp,Act.eval,s31]
      · rw [own_put rfl (by rw [hs];omega)];exact rfl
  case hq=>
    intro u9 w' hS hR9
    have f2:u9 2=.int .i64 (orM (onlyI dst) (onlyI src)):=hR9 7 _ rfl
    clear hR9
    rw [show outs _ u9=[(25,u9 25),(26,u9 26),(27,u9 27),(28,u9 28),(29,u9 29),(30,u9 30),(31,u9 31),(2,u9 2)] by kernel_rfl,f2]
    simp only [putAll,List.setIfInBounds_toArray,List.set_cons_zero,List.set_cons_succ]
    generalize u9 25=x25
    generalize u9 26=x26
    generalize u9 27=x27
    generalize u9 28=x28
    generalize u9 29=x29
    generalize u9 30=x30
    generalize u9 31=x31
    clear f2 u9
    have W1:=Lib.hid (below_call BW.out hS);clear hS
    go_wp2_with fail
    go_ret
    exact ⟨rfl,W1.out⟩
set_option maxHeartbeats 2000000 in
theorem reads_3 (op width size:Int) (byReg:Bool) (dst src off imm:Int) (W:World) (d0:0 ≤ dst) (d1:dst ≤ 10) (s0:0 ≤ src) (s1:src ≤ 10):
    Calls Tryz.prog 38 #[.agg (Ins.In.mk 3 op width size byReg dst src off imm).cells] W fun e w'=>e=.returned (.int .i64 (orM (onlyI dst) (secondI (Ins.In.mk 3 op width size byReg dst src off imm)))) ∧ Below W.heap.size W w':=by
  have D:=Lib.hid (fun W=>only_any dst W d0 d1)
  clear d0 d1
  have T:=Lib.hid (fun W=>second_any (Ins.In.mk 3 op width size byReg dst src off imm) W s0 s1)
  clear s0 s1
  generalize secondI (Ins.In.mk 3 op width size byReg dst src off imm)=z at *
  unfold Ins.In.cells
  simp only
  go_enter Tryz.func38,Tryz.ntmps38
  go_wp2_with fail
  have BW0:Below W.heap.size W (W.alloc (.cells (Ins.In.mk 3 op width size byReg dst src off imm).cells 52)):=below_new (Below.refl _ W) _
  have HH0:(W.alloc (.cells (Ins.In.mk 3 op width size byReg dst src off imm).cells 52)).heap[W.heap.size]?=some (.cells (Ins.In.mk 3 op width size byReg dst src off imm).cells 52 (0,0)):=heap_last W _ _ rfl
  unfold Ins.In.cells at BW0 HH0
  simp only at BW0 HH0
  generalize W.alloc (.cells #[.int .i8 3,.int .i8 op,.int .i8 width,.int .i8 size,.bool byReg,.int .i8 dst,.int .i8 src,.int .i64 off,.int .i64 imm] 52)=w0 at *
  have BW:=Lib.hid BW0;clear BW0
  have HB:Hid (∀ w,Below w0.heap.size w0 w → w.heap[W.heap.size]?=some (.cells (Ins.In.mk 3 op width size byReg dst src off imm).cells 52 (0,0))):=Lib.hid (fun w h=>(h.block _ (Array.getElem?_eq_some_iff.1 HH0).1).trans HH0)
  clear HH0
  have H5:Hid (∀ w,Below w0.heap.size w0 w → w.cell? ⟨W.heap.size,5,none⟩=some (.int .i8 dst)):=Lib.hid (fun w h=>by simp only [World.cell?,HB.out w h];rfl)
  have H6:Hid (∀ w,Below w0.heap.size w0 w → w.cell? ⟨W.heap.size,6,none⟩=some (.int .i8 src)):=Lib.hid (fun w h=>by simp only [World.cell?,HB.out w h];rfl)
  refine wp_region_inv (fun _=>100000) (fun w=>Below w0.heap.size w0 w) (TabV [fun v=>v=.pointer (some ⟨W.heap.size,5,none⟩),fun v=>v=.int .i8 dst,fun v=>v=.int .i64 (onlyI dst),fun v=>v=.agg (Ins.In.mk 3 op width size byReg dst src off imm).cells,fun v=>v=.int .i64 z,fun v=>v=.int .i64 (orM (onlyI dst) z),fun v=>v=.int .i64 (orM (onlyI dst) z)]) (by kernel_rfl) (back_of (by kernel_rfl)) (dst_of (by kernel_rfl)) (dep_of (by kernel_rfl)) (in_of (by kernel_rfl)) (Below.drew (Below.refl _ _)) ?hop ?hq
  case hop=>
    intro i o a w ho hS hdf hsz hrest hdone
    have t1:a.tmps.getD 1 undef=.pointer (some ⟨W.heap.size,0,none⟩):=hrest 1 (not_of (by kernel_rfl))
    have hs:a.tmps.size=49:=hsz.trans rfl
    have hi:i < 7:=(Array.getElem?_eq_some_iff.1 ho).1
    clear hrest hsz hdf
    obtain rfl | rfl | rfl | rfl | rfl | rfl | rfl:i=0 ∨ i=1 ∨ i=2 ∨ i=3 ∨ i=4 ∨ i=5 ∨ i=6:=by omega
    · obtain rfl:=Option.some.inj (show some _=some o from ho)
      refine wpOp_val (v:=.pointer (some ⟨W.heap.size,5,none⟩)) (w':=w) rfl rfl ?_ ⟨_,rfl,?_,hS,fun _ _ _ h=>h⟩
      · simp [execOp,Act.eval,t1,go_sem]
      · rw [own_put rfl (by rw [hs];omega)];exact rfl
    · obtain rfl:=Option.some.inj (show some _=some o from ho)
      have s34:a.tmps.getD 34 undef=.pointer (some ⟨W.heap.size,5,none⟩):=hdone _ (Array.mem_of_getElem? (i:=0) rfl) rfl _ rfl
      refine wpOp_val (v:=.int .i8 dst) (w':=w) rfl rfl ?_ ⟨_,rfl,?_,hS,fun _ _ _ h=>h⟩
      · (have hc:=(H5.out w hS);simp [execOp,Act.eval,s34,hc,go_sem])
      · rw [own_put rfl (by rw [hs];omega)];exact rfl
    · obtain rfl:=Option.some.inj (show some _=some o from ho)
      have s35:a.tmps.getD 35 undef=.int .i8 dst:=hdone _ (Array.mem_of_getElem? (i:=0) rfl) rfl _ rfl
      refine wpOp_call (f:=62) (args:=#[.int .i8 dst]) rfl rfl ?_ ?_
      · simp [go_sem,execOp,Act.eval,Deferred.ofValue,callFunc,Tryz.func62,Tryz.f62,s35,resolve,invoke]
      · refine (D.out w).mono ?_
        rintro e w' ⟨rfl,rfl⟩
        refine ⟨_,rfl,_,rfl,?_,hS,fun _ _ _ h=>h⟩
        rw [own_put rfl (by rw [hs];omega)];exact rfl
    · obtain rfl:=Option.some.inj (show some _=some o from ho)
      refine wpOp_val (v:=.agg (Ins.In.mk 3 op width size byReg dst src off imm).cells) (w':=w) rfl rfl ?_ ⟨_,rfl,?_,hS,fun _ _ _ h=>h⟩
      · simp [execOp,Act.eval,t1,Instr.loadAt,Instr.sureAddr,Ins.load_boxed (Ins.In.mk 3 op width size byReg dst src off imm) (HB.out w hS),Result.andThen_ok]
      · rw [own_put rfl (by rw [hs];omega)];exact rfl
    · obtain rfl:=Option.some.inj (show some _=some o from ho)
      have s37:a.tmps.getD 37 undef=.agg (Ins.In.mk 3 op width size byReg dst src off imm).cells:=hdone _ (Array.mem_of_getElem? (i:=0) rfl) rfl _ rfl
      refine wpOp_call (f:=72) (args:=#[.agg (Ins.In.mk 3 op width size byReg dst src off imm).cells]) rfl rfl ?_ ?_
      · simp [go_sem,execOp,Act.eval,Deferred.ofValue,callFunc,Tryz.func72,Tryz.f72,s37,resolve,invoke]
      · refine (T.out w).mono ?_
        rintro e w' ⟨rfl,b9⟩
        refine ⟨_,rfl,_,rfl,?_,hS.trans (b9.mono hS.size),fun _ _ _ h=>h⟩
        rw [own_put rfl (by rw [hs];omega)];exact rfl
    · obtain rfl:=Option.some.inj (show some _=some o from ho)
      have s36:a.tmps.getD 36 undef=.int .i64 (onlyI dst):=hdone _ (Array.mem_of_getElem? (i:=0) rfl) rfl _ rfl
      have s38:a.tmps.getD 38 undef=.int .i64 z:=hdone _ (Array.mem_of_getElem? (i:=1) rfl) rfl _ rfl
      refine wpOp_val (v:=.int .i64 (orM (onlyI dst) z)) (w':=w) rfl rfl ?_ ⟨_,rfl,?_,hS,fun _ _ _ h=>h⟩
      · simp [execOp,Act.eval,s36,s38,go_sem,orM]
      · rw [own_put rfl (by rw [hs];omega)];exact rfl
    · obtain rfl:=Option.some.inj (show some _=some o from ho)
      have s39:a.tmps.getD 39 undef=.int .i64 (orM (onlyI dst) z):=hdone _ (Array.mem_of_getElem? (i:=0) rfl) rfl _ rfl
      refine wpOp_val (v:=.int .i64 (orM (onlyI dst) z)) (w':=w) rfl rfl ?_ ⟨_,rfl,?_,hS,fun _ _ _ h=>h⟩
      · simp [execOp,Act.eval,s39]
      · rw [own_put rfl (by rw [hs];omega)];exact rfl
  case hq=>
    intro u9 w' hS hR9
    have f2:u9 2=.int .i64 (orM (onlyI dst) z):=hR9 6 _ rfl
    clear hR9
    rw [show outs _ u9=[(34,u9 34),(35,u9 35),(36,u9 36),(37,u9 37),(38,u9 38),(39,u9 39),(2,u9 2)] by kernel_rfl,f2]
    simp only [putAll,List.setIfInBounds_toArray,List.set_cons_zero,List.set_cons_succ]
    generalize u9 34=x34
    generalize u9 35=x35
    generalize u9 36=x36
    generalize u9 37=x37
    generalize u9 38=x38
    generalize u9 39=x39
    clear f2 u9
    have W1:=Lib.hid (below_call BW.out hS);clear hS
    go_wp2_with fail
    go_ret
    exact ⟨rfl,W1.out⟩
set_option maxHeartbeats 2000000 in
theorem reads_0m (width size:Int) (byReg:Bool) (dst src off imm:Int) (W:World) (s0:0 ≤ src) (s1:src ≤ 10):
    Calls Tryz.prog 38 #[.agg (Ins.In.mk 0 11 width size byReg dst src off imm).cells] W fun e w'=>e=.returned (.int .i64 (secondI (Ins.In.mk 0 11 width size byReg dst src off imm))) ∧ Below W.heap.size W w':=by
  have T:=Lib.hid (fun W=>second_any (Ins.In.mk 0 11 width size byReg dst src off imm) W s0 s1)
  have i9:(Tryz.prog.info? 52).map (·.size)=some (Ins.In.mk 0 11 width size byReg dst src off imm).cells.size:=Ins.info_ins
  have HI:=Lib.hid i9
  clear i9 s0 s1
  generalize secondI (Ins.In.mk 0 11 width size byReg dst src off imm)=z at *
  unfold Ins.In.cells at T HI
  simp only at T
  unfold Ins.In.cells
  simp only
  go_enter Tryz.func38,Tryz.ntmps38
  go_wp2_with (refine (halt_load 52 _ rfl ?_))
  refine ⟨?_,trivial⟩
  refine wpList_load_row rfl 52 _ rfl W.heap.size rfl _ _ _ _ (heap_last _ _ _ rfl) Tryz.underlying52 rfl HI.out ?_
  go_wp2_with fail
  refine (T.out _).mono ?_
  rintro e w1 ⟨rfl,b1⟩
  go_wp2
  go_ret
  exact ⟨rfl,below_call (below_new (Below.refl _ _) _) b1⟩
set_option maxHeartbeats 2000000 in
theorem reads_0 (op width size:Int) (byReg:Bool) (dst src off imm:Int) (W:World) (d0:0 ≤ dst) (d1:dst ≤ 10) (s0:0 ≤ src) (s1:src ≤ 10) (hm:¬ op=11):
    Calls Tryz.prog 38 #[.agg (Ins.In.mk 0 op width size byReg dst src off imm).cells] W fun e w'=>e=.returned (.int .i64 (orM (onlyI dst) (secondI (Ins.In.mk 0 op width size byReg dst src off imm)))) ∧ Below W.heap.size W w':=by
  have D:=Lib.hid (fun W=>only_any dst W d0 d1)
  clear d0 d1
  have T:=Lib.hid (fun W=>second_any (Ins.In.mk 0 op width size byReg dst src off imm) W s0 s1)
  clear s0 s1
  generalize secondI (Ins.In.mk 0 op width size byReg dst src off imm)=z at *
  unfold Ins.In.cells
  simp only
  go_enter Tryz.func38,Tryz.ntmps38
  go_wp2_with fail
  have BW0:Below W.heap.size W (W.alloc (.cells (Ins.In.mk 0 op width size byReg dst src off imm).cells 52)):=below_new (Below.refl _ W) _
  have HH0:(W.alloc (.cells (Ins.In.mk 0 op width size byReg dst src off imm).cells 52)).heap[W.heap.size]?=some (.cells (Ins.In.mk 0 op width size byReg dst src off imm).cells 52 (0,0)):=heap_last W _ _ rfl
  unfold Ins.In.cells at BW0 HH0
  simp only at BW0 HH0
  generalize W.alloc (.cells #[.int .i8 0,.int .i8 op,.int .i8 width,.int .i8 size,.bool byReg,.int .i8 dst,.int .i8 src,.int .i64 off,.int .i64 imm] 52)=w0 at *
  have BW:=Lib.hid BW0;clear BW0
  have HB:Hid (∀ w,Below w0.heap.size w0 w → w.heap[W.heap.size]?=some (.cells (Ins.In.mk 0 op width size byReg dst src off imm).cells 52 (0,0))):=Lib.hid (fun w h=>(h.block _ (Array.getElem?_eq_some_iff.1 HH0).1).trans HH0)
  clear HH0
  have H5:Hid (∀ w,Below w0.heap.size w0 w → w.cell? ⟨W.heap.size,5,none⟩=some (.int .i8 dst)):=Lib.hid (fun w h=>by simp only [World.cell?,HB.out w h];rfl)
  have H6:Hid (∀ w,Below w0.heap.size w0 w → w.cell? ⟨W.heap.size,6,none⟩=some (.int .i8 src)):=Lib.hid (fun w h=>by simp only [World.cell?,HB.out w h];rfl)
  refine wp_region_inv (fun _=>100000) (fun w=>Below w0.heap.size w0 w) (TabV [fun v=>v=.pointer (some ⟨W.heap.size,5,none⟩),fun v=>v=.int .i8 dst,fun v=>v=.int .i64 (onlyI dst),fun v=>v=.agg (Ins.In.mk 0 op width size byReg dst src off imm).cells,fun v=>v=.int .i64 z,fun v=>v=.int .i64 (orM (onlyI dst) z),fun v=>v=.int .i64 (orM (onlyI dst) z)]) (by kernel_rfl) (back_of (by kernel_rfl)) (dst_of (by kernel_rfl)) (dep_of (by kernel_rfl)) (in_of (by kernel_rfl)) (Below.drew (Below.refl _ _)) ?hop ?hq
  case hop=>
    intro i o a w ho hS hdf hsz hrest hdone
    have t1:a.tmps.getD 1 undef=.pointer (some ⟨W.heap.size,0,none⟩):=hrest 1 (not_of (by kernel_rfl))
    have hs:a.tmps.size=49:=hsz.trans rfl
    have hi:i < 7:=(Array.getElem?_eq_some_iff.1 ho).1
    clear hrest hsz hdf
    obtain rfl | rfl | rfl | rfl | rfl | rfl | rfl:i=0 ∨ i=1 ∨ i=2 ∨ i=3 ∨ i=4 ∨ i=5 ∨ i=6:=by omega
    · obtain rfl:=Option.some.inj (show some _=some o from ho)
      refine wpOp_val (v:=.pointer (some ⟨W.heap.size,5,none⟩)) (w':=w) rfl rfl ?_ ⟨_,rfl,?_,hS,fun _ _ _ h=>h⟩
      · simp [execOp,Act.eval,t1,go_sem]
      · rw [own_put rfl (by rw [hs];omega)];exact rfl
    · obtain rfl:=Option.some.inj (show some _=some o from ho)
      have s12:a.tmps.getD 12 undef=.pointer (some ⟨W.heap.size,5,none⟩):=hdone _ (Array.mem_of_getElem? (i:=0) rfl) rfl _ rfl
      refine wpOp_val (v:=.int .i8 dst) (w':=w) rfl rfl ?_ ⟨_,rfl,?_,hS,fun _ _ _ h=>h⟩
      · (have hc:=(H5.out w hS);simp [execOp,Act.eval,s12,hc,go_sem])
      · rw [own_put rfl (by rw [hs];omega)];exact rfl
    · obtain rfl:=Option.some.inj (show some _=some o from ho)
      have s13:a.tmps.getD 13 undef=.int .i8 dst:=hdone _ (Array.mem_of_getElem? (i:=0) rfl) rfl _ rfl
      refine wpOp_call (f:=62) (args:=#[.int .i8 dst]) rfl rfl ?_ ?_
      · simp [go_sem,execOp,Act.eval,Deferred.ofValue,callFunc,Tryz.func62,Tryz.f62,s13,resolve,invoke]
      · refine (D.out w).mono ?_
        rintro e w' ⟨rfl,rfl⟩
        refine ⟨_,rfl,_,rfl,?_,hS,fun _ _ _ h=>h⟩
        rw [own_put rfl (by rw [hs];omega)];exact rfl
    · obtain rfl:=Option.some.inj (show some _=some o from ho)
      refine wpOp_val (v:=.agg (Ins.In.mk 0 op width size byReg dst src off imm).cells) (w':=w) rfl rfl ?_ ⟨_,rfl,?_,hS,fun _ _ _ h=>h⟩
      · simp [execOp,Act.eval,t1,Instr.loadAt,Instr.sureAddr,Ins.load_boxed (Ins.In.mk 0 op width size byReg dst src off imm) (HB.out w hS),Result.andThen_ok]
      · rw [own_put rfl (by rw [hs];omega)];exact rfl
    · obtain rfl:=Option.some.inj (show some _=some o from ho)
      have s15:a.tmps.getD 15 undef=.agg (Ins.In.mk 0 op width size byReg dst src off imm).cells:=hdone _ (Array.mem_of_getElem? (i:=0) rfl) rfl _ rfl
      refine wpOp_call (f:=72) (args:=#[.agg (Ins.In.mk 0 op width size byReg dst src off imm).cells]) rfl rfl ?_ ?_
      · simp [go_sem,execOp,Act.eval,Deferred.ofValue,callFunc,Tryz.func72,Tryz.f72,s15,resolve,invoke]
      · refine (T.out w).mono ?_
        rintro e w' ⟨rfl,b9⟩
        refine ⟨_,rfl,_,rfl,?_,hS.trans (b9.mono hS.size),fun _ _ _ h=>h⟩
        rw [own_put rfl (by rw [hs];omega)];exact rfl
    · obtain rfl:=Option.some.inj (show some _=some o from ho)
      have s14:a.tmps.getD 14 undef=.int .i64 (onlyI dst):=hdone _ (Array.mem_of_getElem? (i:=0) rfl) rfl _ rfl
      have s16:a.tmps.getD 16 undef=.int .i64 z:=hdone _ (Array.mem_of_getElem? (i:=1) rfl) rfl _ rfl
      refine wpOp_val (v:=.int .i64 (orM (onlyI dst) z)) (w':=w) rfl rfl ?_ ⟨_,rfl,?_,hS,fun _ _ _ h=>h⟩
      · simp [execOp,Act.eval,s14,s16,go_sem,orM]
      · rw [own_put rfl (by rw [hs];omega)];exact rfl
    · obtain rfl:=Option.some.inj (show some _=some o from ho)
      have s17:a.tmps.getD 17 undef=.int .i64 (orM (onlyI dst) z):=hdone _ (Array.mem_of_getElem? (i:=0) rfl) rfl _ rfl
      refine wpOp_val (v:=.int .i64 (orM (onlyI dst) z)) (w':=w) rfl rfl ?_ ⟨_,rfl,?_,hS,fun _ _ _ h=>h⟩
      · simp [execOp,Act.eval,s17]
      · rw [own_put rfl (by rw [hs];omega)];exact rfl
  case hq=>
    intro u9 w' hS hR9
    have f2:u9 2=.int .i64 (orM (onlyI dst) z):=hR9 6 _ rfl
    clear hR9
    rw [show outs _ u9=[(12,u9 12),(13,u9 13),(14,u9 14),(15,u9 15),(16,u9 16),(17,u9 17),(2,u9 2)] by kernel_rfl,f2]
    simp only [putAll,List.setIfInBounds_toArray,List.set_cons_zero,List.set_cons_succ]
    generalize u9 12=x12
    generalize u9 13=x13
    generalize u9 14=x14
    generalize u9 15=x15
    generalize u9 16=x16
    generalize u9 17=x17
    clear f2 u9
    have W1:=Lib.hid (below_call BW.out hS);clear hS
    go_wp2_with fail
    go_ret
    exact ⟨rfl,W1.out⟩
set_option maxHeartbeats 2000000 in
theorem reads_4 (op width size:Int) (byReg:Bool) (dst src off imm:Int) (W:World):
    Calls Tryz.prog 38 #[.agg (Ins.In.mk 4 op width size byReg dst src off imm).cells] W fun e w'=>e=.returned (.int .i64 (0)) ∧ Below W.heap.size W w':=by
  unfold Ins.In.cells
  simp only
  go_enter Tryz.func38,Tryz.ntmps38
  go_wp2
  go_ret
  exact ⟨rfl,below_new (Below.refl _ _) _⟩
set_option maxHeartbeats 2000000 in
theorem reads_6 (op width size:Int) (byReg:Bool) (dst src off imm:Int) (W:World):
    Calls Tryz.prog 38 #[.agg (Ins.In.mk 6 op width size byReg dst src off imm).cells] W fun e w'=>e=.returned (.int .i64 (onlyI 0)) ∧ Below W.heap.size W w':=by
  have D:=Lib.hid (fun W=>only_any 0 W (by omega) (by omega))
  unfold Ins.In.cells
  simp only
  go_enter Tryz.func38,Tryz.ntmps38
  go_wp2_with fail
  refine (D.out _).mono ?_
  rintro e w1 ⟨rfl,rfl⟩
  go_wp2
  go_ret
  exact ⟨rfl,below_new (Below.refl _ _) _⟩
set_option maxHeartbeats 2000000 in
theorem reads_5 (op width size:Int) (byReg:Bool) (dst src off imm:Int) (W:World):
    Calls Tryz.prog 38 #[.agg (Ins.In.mk 5 op width size byReg dst src off imm).cells] W fun e w'=>e=.returned (.int .i64 (argsM (Ins.argsI imm))) ∧ Below W.heap.size W w':=by
  have A:=Lib.hid (fun W=>Ins.args_any imm W)
  have b:0 ≤ Ins.argsI imm ∧ Ins.argsI imm ≤ 5:=by unfold Ins.argsI;split <;> omega
  have M:=Lib.hid (fun W=>arguments_any (Ins.argsI imm) W b.1 b.2)
  clear b
  generalize Ins.argsI imm=m at *
  unfold Ins.In.cells
  simp only
  go_enter Tryz.func38,Tryz.ntmps38
  go_wp2_with fail
  refine (A.out _).mono ?_
  rintro e w1 ⟨rfl,rfl⟩
  go_wp2_with fail
  refine (M.out _).mono ?_
  rintro e w1 ⟨rfl,rfl⟩
  go_wp2
  go_ret
  exact ⟨rfl,below_new (Below.refl _ _) _⟩
theorem reads_any (x:Ins.In) (W:World) (h:Ins.mayI x=true):
    Calls Tryz.prog 38 #[.agg x.cells] W fun e w'=>e=.returned (.int .i64 (readsM x)) ∧ Below W.heap.size W w':=by
  obtain ⟨⟨d0,d1⟩,⟨s0,s1⟩,-,-,hk⟩:=Ins.mayI_cases h
  clear h
  obtain ⟨kind,op,width,size,byReg,dst,src,off,imm⟩:=x
  simp only at d0 d1 s0 s1 hk
  have hk':kind=0 ∨ kind=1 ∨ kind=2 ∨ kind=3 ∨ kind=4 ∨ kind=5 ∨ kind=6:=by
    rcases hk with h | h | h | h | h | h | h
    · exact .inl h.1
    · exact .inr (.inl h.1)
    · exact .inr (.inr (.inl h.1))
    · exact .inr (.inr (.inr (.inl h.1)))
    · exact .inr (.inr (.inr (.inr (.inl h.1))))
    · exact .inr (.inr (.inr (.inr (.inr (.inl h.1)))))
    · exact .inr (.inr (.inr (.inr (.inr (.inr h.1)))))
  clear hk
  rcases hk' with rfl | rfl | rfl | rfl | rfl | rfl | rfl
  · by_cases hm:op=11
    · subst hm
      exact reads_0m width size byReg dst src off imm W s0 (by omega)
    · rw [show readsM (Ins.In.mk 0 op width size byReg dst src off imm)=orM (onlyI dst) (secondI (Ins.In.mk 0 op width size byReg dst src off imm)) from (if_pos rfl).trans (if_neg hm)]
      exact reads_0 op width size byReg dst src off imm W d0 (by omega) s0 (by omega) hm
  · exact reads_1 op width size byReg dst src off imm W s0 (by omega)
  · exact reads_2 op width size byReg dst src off imm W d0 (by omega) s0 (by omega)
  · exact reads_3 op width size byReg dst src off imm W d0 (by omega) s0 (by omega)
  · exact reads_4 op width size byReg dst src off imm W
  · exact reads_5 op width size byReg dst src off imm W
  · exact reads_6 op width size byReg dst src off imm W
end Go.Proofs.YtigliofiojkhcaaGreat.Mdl
