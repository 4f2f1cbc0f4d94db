import Derived.Test.YtigliofiojkhcaaGreatMEx
import Derived.Test.YtigliofiojkhcaaGreatMEa12
import Derived.Test.YtigliofiojkhcaaGreatMEa01
set_option linter.unusedVariables false
set_option linter.unusedSimpArgs false
set_option linter.unnecessarySimpa false
namespace Go.Proofs.YtigliofiojkhcaaGreat.Mdl
open Go.RowKit Go.Maps Ins Trc
set_option maxRecDepth 100000
def SnapNo (W:World)(r:Int)(e:Ending)(w':World):Prop:=e=.returned (.tuple #[.slice none 0 0,.slice none 0 0,outV ⟨0,0,[],[],0⟩ none 0 none 0,.int .i64 r])∧Below W.heap.size W w'
set_option maxHeartbeats 4000000 in
theorem r6_snaps_chk (r:Int)(c:Int)(pa:Option Addr)(plen pcap:Nat)(x:Nat→In)(ca:Option Addr)(cl cc:Nat)(aa:Option Addr)(al ac:Nat)(fuel:Int)(W:World)(hI:Insts W pa plen pcap x)(hr:(checkI c plen x).2=r)(h0:¬ r=0):
  Calls Tryz.prog 12 #[.agg #[.int .i64 c,.slice pa plen pcap],.slice ca cl cc,.slice aa al ac,.int .i64 fuel] W (SnapNo W r):=by
 have CHK:=Lib.hid (fun w (h:Below W.heap.size W w)=>r_check c pa plen pcap x w (hI.below h))
 rw [hr] at CHK
 have bx0:=below_new (below_new (Below.refl W.heap.size W) (.cells #[.int .i64 c,.slice pa plen pcap] 24)) (.cells #[.int .i8 0,.int .u64 0,.slice none 0 0,.slice none 0 0,.int .i64 0] 33)
 have rz0:=heap_last (W.alloc (.cells #[.int .i64 c,.slice pa plen pcap] 24)) (.cells #[.int .i8 0,.int .u64 0,.slice none 0 0,.slice none 0 0,.int .i64 0] 33) (W.heap.size+1) (by simp)
 have e0:(r != 0)=true:=by simpa using h0
 clear hI hr h0
 go_enter Tryz.func12,Tryz.ntmps12
 go_wp2_with fail
 generalize (W.alloc (.cells #[.int .i64 c,.slice pa plen pcap] 24)).alloc (.cells #[.int .i8 0,.int .u64 0,.slice none 0 0,.slice none 0 0,.int .i64 0] 33)=w0 at *
 refine (CHK.out _ bx0).mono ?_
 rintro e w1 ⟨rfl,b1⟩
 have rz1:=brow b1 rz0
 have bx1:=bx0.trans (b1.mono bx0.size)
 clear b1 rz0 bx0 CHK
 go_wp2_with (with_reducible refine (halt_store 33 _ _ rfl ?_))
 refine ⟨?_,trivial⟩
 refine wpList_store_is rfl 33 _ _ rfl (W.heap.size+1) #[.int .i8 0,.int .u64 0,.slice none 0 0,.slice none 0 0,.int .i64 0] rfl rfl 33 _ rz1 info_out5 rfl (by simp [Value.oneCell']) ?_
 intro w3 s3
 have b3:=s3.below bx1 (by omega)
 have ROW:=Lib.hid s3.row
 clear s3 bx1 rz1
 go_wp2_with fail
 exact bodyPost_ret (res_ttct rfl rfl rfl rfl (load_row _ ROW.out Tryz.underlying33 rfl (by kernel_rfl)) rfl) rfl ⟨rfl,b3⟩
set_option maxHeartbeats 4000000 in
theorem r6_snaps_arg (c:Int)(pa:Option Addr)(plen pcap:Nat)(x:Nat→In)(ca:Option Addr)(cl cc:Nat)(aa:Option Addr)(al ac:Nat)(fuel:Int)(W:World)(hI:Insts W pa plen pcap x)(hr:(checkI c plen x).2=0)(h:¬ ((cl:Int)=c∧0≤fuel∧fuel≤10000)):
  Calls Tryz.prog 12 #[.agg #[.int .i64 c,.slice pa plen pcap],.slice ca cl cc,.slice aa al ac,.int .i64 fuel] W (SnapNo W 2):=by
 have CHK:=Lib.hid (fun w (h:Below W.heap.size W w)=>r_check c pa plen pcap x w (hI.below h))
 rw [hr] at CHK
 have bx0:=below_new (below_new (Below.refl W.heap.size W) (.cells #[.int .i64 c,.slice pa plen pcap] 24)) (.cells #[.int .i8 0,.int .u64 0,.slice none 0 0,.slice none 0 0,.int .i64 0] 33)
 have rz0:=heap_last (W.alloc (.cells #[.int .i64 c,.slice pa plen pcap] 24)) (.cells #[.int .i8 0,.int .u64 0,.slice none 0 0,.slice none 0 0,.int .i64 0] 33) (W.heap.size+1) (by simp)
 have rp0:=(heap_past (W.alloc (.cells #[.int .i64 c,.slice pa plen pcap] 24)) (.cells #[.int .i8 0,.int .u64 0,.slice none 0 0,.slice none 0 0,.int .i64 0] 33) W.heap.size (by simp)).trans (heap_last W (.cells #[.int .i64 c,.slice pa plen pcap] 24) _ rfl)
 clear hI hr
 by_cases q1:(cl:Int)=c
 ·have e0:((cl:Int) != c)=false:=by simpa using q1
  by_cases q2:fuel<0
  ·have e1:decide (fuel<0)=true:=decide_eq_true q2
   clear q1 q2 h
   go_enter Tryz.func12,Tryz.ntmps12
   go_wp2_with fail
   generalize (W.alloc (.cells #[.int .i64 c,.slice pa plen pcap] 24)).alloc (.cells #[.int .i8 0,.int .u64 0,.slice none 0 0,.slice none 0 0,.int .i64 0] 33)=w0 at *
   refine (CHK.out _ bx0).mono ?_
   rintro e w1 ⟨rfl,b1⟩
   have rz1:=brow b1 rz0
   have bx1:=bx0.trans (b1.mono bx0.size)
   have rp1:=brow b1 rp0
   have c0:w1.cell? ⟨W.heap.size,0,none⟩=some (.int .i64 c):=by simp only [World.cell?,rp1];rfl
   clear b1 rz0 bx0 CHK rp0 rp1
   go_wp2_with (with_reducible refine (halt_store 33 _ _ rfl ?_))
   refine ⟨?_,trivial⟩
   refine wpList_store_is rfl 33 _ _ rfl (W.heap.size+1) #[.int .i8 0,.int .u64 0,.slice none 0 0,.slice none 0 0,.int .i64 0] rfl rfl 33 _ rz1 info_out5 rfl (by simp [Value.oneCell']) ?_
   intro w3 s3
   have b3:=s3.below bx1 (by omega)
   have ROW:=Lib.hid s3.row
   clear s3 bx1 rz1 c0
   go_wp2_with fail
   exact bodyPost_ret (res_ttct rfl rfl rfl rfl (load_row _ ROW.out Tryz.underlying33 rfl (by kernel_rfl)) rfl) rfl ⟨rfl,b3⟩
  ·have e1:decide (fuel<0)=false:=decide_eq_false q2
   have e2:decide (10000<fuel)=true:=decide_eq_true (by omega)
   clear q1 q2 h
   go_enter Tryz.func12,Tryz.ntmps12
   go_wp2_with fail
   generalize (W.alloc (.cells #[.int .i64 c,.slice pa plen pcap] 24)).alloc (.cells #[.int .i8 0,.int .u64 0,.slice none 0 0,.slice none 0 0,.int .i64 0] 33)=w0 at *
   refine (CHK.out _ bx0).mono ?_
   rintro e w1 ⟨rfl,b1⟩
   have rz1:=brow b1 rz0
   have bx1:=bx0.trans (b1.mono bx0.size)
   have rp1:=brow b1 rp0
   have c0:w1.cell? ⟨W.heap.size,0,none⟩=some (.int .i64 c):=by simp only [World.cell?,rp1];rfl
   clear b1 rz0 bx0 CHK rp0 rp1
   go_wp2_with (with_reducible refine (halt_store 33 _ _ rfl ?_))
   refine ⟨?_,trivial⟩
   refine wpList_store_is rfl 33 _ _ rfl (W.heap.size+1) #[.int .i8 0,.int .u64 0,.slice none 0 0,.slice none 0 0,.int .i64 0] rfl rfl 33 _ rz1 info_out5 rfl (by simp [Value.oneCell']) ?_
   intro w3 s3
   have b3:=s3.below bx1 (by omega)
   have ROW:=Lib.hid s3.row
   clear s3 bx1 rz1 c0
   go_wp2_with fail
   exact bodyPost_ret (res_ttct rfl rfl rfl rfl (load_row _ ROW.out Tryz.underlying33 rfl (by kernel_rfl)) rfl) rfl ⟨rfl,b3⟩
 ·have e0:((cl:Int) != c)=true:=by simpa using q1
  clear q1 h
  go_enter Tryz.func12,Tryz.ntmps12
  go_wp2_with fail
  generalize (W.alloc (.cells #[.int .i64 c,.slice pa plen pcap] 24)).alloc (.cells #[.int .i8 0,.int .u64 0,.slice none 0 0,.slice none 0 0,.int .i64 0] 33)=w0 at *
  refine (CHK.out _ bx0).mono ?_
  rintro e w1 ⟨rfl,b1⟩
  have rz1:=brow b1 rz0
  have bx1:=bx0.trans (b1.mono bx0.size)
  have rp1:=brow b1 rp0
  have c0:w1.cell? ⟨W.heap.size,0,none⟩=some (.int .i64 c):=by simp only [World.cell?,rp1];rfl
  clear b1 rz0 bx0 CHK rp0 rp1
  go_wp2_with (with_reducible refine (halt_store 33 _ _ rfl ?_))
  refine ⟨?_,trivial⟩
  refine wpList_store_is rfl 33 _ _ rfl (W.heap.size+1) #[.int .i8 0,.int .u64 0,.slice none 0 0,.slice none 0 0,.int .i64 0] rfl rfl 33 _ rz1 info_out5 rfl (by simp [Value.oneCell']) ?_
  intro w3 s3
  have b3:=s3.below bx1 (by omega)
  have ROW:=Lib.hid s3.row
  clear s3 bx1 rz1 c0
  go_wp2_with fail
  exact bodyPost_ret (res_ttct rfl rfl rfl rfl (load_row _ ROW.out Tryz.underlying33 rfl (by kernel_rfl)) rfl) rfl ⟨rfl,b3⟩
end Go.Proofs.YtigliofiojkhcaaGreat.Mdl
namespace Go.Proofs.YtigliofiojkhcaaGreat.Mdl
open Go.RowKit Go.Maps Ins Trc
set_option maxRecDepth 100000
end Go.Proofs.YtigliofiojkhcaaGreat.Mdl
namespace Go.Proofs.YtigliofiojkhcaaGreat.Mdl
open Go.RowKit Go.Maps Ins Trc
set_option maxRecDepth 100000
theorem ats_get (E:Env)(D:Pl){m k:Nat}(h:k<m):(ats E D m)[k]?=some (its E D k).at_:=by
 unfold ats
 rw [List.getElem?_map,List.getElem?_range h];rfl
end Go.Proofs.YtigliofiojkhcaaGreat.Mdl
