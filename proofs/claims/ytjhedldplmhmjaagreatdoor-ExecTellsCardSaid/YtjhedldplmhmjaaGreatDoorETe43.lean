import Derived.Test.YtjhedldplmhmjaaGreatDoorETe42
import Derived.Deep.RegionHeld3
set_option maxHeartbeats 4000000
set_option linter.unusedVariables false
set_option linter.unusedSimpArgs false
set_option linter.unnecessarySimpa false
namespace Go.Proofs.YtjhedldplmhmjaaGreatDoor.Exe
open Go Go.RowKit
set_option maxRecDepth 100000
theorem i8up_fin:∀ k:Fin 10,IntKind.i8.wrap ((k.1:Int)+1)=((k.1+1:Nat):Int):=by decide +kernel
theorem qcc_n (cc:Int)(W:World):Calls Tryz.prog 11 #[.int .i8 cc] W fun e w'=>e=.returned (.tuple #[.int .i8 (ccS cc),.bool (ccB cc)])∧W=w':=by
 have TC:=Lib.hid (fun k W=>qtocc_n k W)
 go_enter Tryz.func11,Tryz.ntmps11
 go_wp2_with fail
 go_loopw [4] (fun i wr=>∃ k:Nat,k≤10∧i=.int .i8 k∧wr=W∧Hid (∀ j:Int,0≤j→j<k→toC j≠cc)) (fun i _=>10 - (intOf i).toNat)
 case atStart=>exact ⟨0,by omega,by first | rfl | trivial,by first | rfl | trivial,Lib.hid (fun j h0 h1=>by omega)⟩
 case round=>
  obtain ⟨k,hk,rfl,rfl,HM⟩:=hrel
  by_cases hlt:k<10
  ·have up:IntKind.i8.wrap ((k:Int)+1)=((k+1:Nat):Int):=i8up_fin ⟨k,hlt⟩
   have g0:decide ((k:Int)<10)=true:=by simp;omega
   cases e1:(toC k == cc)
   ·have ne:toC k≠cc:=by simpa using e1
    have NE:=Lib.hid ne
    clear ne
    go_wp2_with fail
    refine (TC.out _ _).mono ?_
    rintro e w1 ⟨rfl,rfl⟩
    go_wp2_with fail
    go_roundw
    case rel=>exact ⟨k+1,by omega,by go_num,by first | rfl | trivial,Lib.hid (fun j h0 h1=>by
     by_cases hj:j=k
     ·rw [hj];exact NE.out
     ·exact HM.out j h0 (by omega))⟩
    case measure=>simp [intOf];omega
   ·have H:=Lib.hid (cc_hit (x:=(k:Int)) (c:=cc) (by omega) (by omega) (by simpa using e1))
    go_wp2_with fail
    refine (TC.out _ _).mono ?_
    rintro e w1 ⟨rfl,rfl⟩
    go_wp2_with fail
    go_ret2
    exact ⟨(show Ending.returned (.tuple #[.int .i8 (k:Int),.bool true])=_ from by rw [H.out.1,H.out.2]),rfl⟩
  ·obtain rfl:k=10:=by omega
   have H:=Lib.hid (cc_miss (c:=cc) (fun j hj=>HM.out j hj.1 (by omega)))
   go_wp2_with fail
   go_ret2
   exact ⟨(show Ending.returned (.tuple #[.int .i8 0,.bool false])=_ from by rw [H.out.1,H.out.2]),rfl⟩
def argC (m:Mc):Array Value:=#[.int .u64 (m.r 7),.int .u64 (m.r 6),.int .u64 (m.r 2),.int .u64 (m.r 10),.int .u64 (m.r 8)]
def ArgsAt (m:Mc)(v:Value)(w:World):Prop:=
 (numQ m=false∧v=.slice none 0 0)∨(numQ m=true∧∃ g T fr,v=.slice (some ⟨g,0,none⟩) (Ins.argsI (m.r 0)).toNat 5∧w.heap[g]?=some (.cells (argC m) T fr))
theorem ArgsAt.below {m:Mc}{v:Value}{W w:World}{n:Nat}(h:ArgsAt m v W)(b:Below n W w)(hn:W.heap.size≤n):ArgsAt m v w:=by
 rcases h with h | ⟨h1,g,T,fr,h2,h3⟩
 ·exact .inl h
 ·exact .inr ⟨h1,g,T,fr,h2,Mrm.heap_below b h3 hn⟩
theorem halt_ldm {P:Program}{ops:Array Oper}{rest:List Oper}{o:Oper}{a:Act}{w:World}{Q:Exit→Act→World→Prop}(ty:TypeId)(x:Operand)(ho:o.op=.load ty x)(hg:o.guard=none)
 (h:wpList P ops Q (o :: rest) a w∧True):wpList P ops Q (o :: rest) a w:=h.1
theorem info_M {X:Array Value}(h:X.size=22):(Tryz.prog.info? 27).map (·.size)=some X.size:=by rw [h];kernel_rfl
theorem cell_of {w:World}{k:Nat}{A:Array Value}{T:TypeId}{fr:Nat × Nat}(h:w.heap[k]?=some (.cells A T fr))(i:Nat)(v:Value)(hv:A[i]?=some v):w.cell? ⟨k,i,none⟩=some v:=by
 simp only [World.cell?,h];exact hv
theorem argsI_bd (n:Int):∃ k:Nat,Ins.argsI n=(k:Int)∧k≤5:=by
 unfold Ins.argsI
 split
 ·exact ⟨0,rfl,by omega⟩
 ·exact ⟨(n % 6).toNat,by omega,by omega⟩
theorem cargs_n (m:Mc)(hM:MOk m)(w:World):Calls Tryz.prog 17 #[.agg (mcC m)] w fun e w'=>∃ v,e=.returned v∧ArgsAt m v w'∧Below w.heap.size w w':=by
 have NU:=Lib.hid (fun W=>num_n_ m W hM)
 have AG:=Lib.hid (fun W=>Ins.args_any (m.r 0) W)
 have SX:=Lib.hid (show (mcC m).size=22 from rfl)
 have RG:=Lib.hid (fun j (h:j<16)=>mcC_reg m h)
 have BZ:=Lib.hid (below_new (Below.refl w.heap.size w) (.cells (mcC m) 27))
 have XZ:=Lib.hid (heap_last w (.cells (mcC m) 27) _ rfl)
 cases hq:numQ m
 ·have HQ:=Lib.hid hq
  rw [show numV m=0 by unfold numV;rw [hq];rfl,hq] at NU
  clear hq
  generalize mcC m=X at *
  go_enter Tryz.func17,Tryz.ntmps17
  go_wp2_with (with_reducible refine (halt_ldm 27 _ rfl rfl ?_))
  refine ⟨?_,trivial⟩
  generalize w.alloc (.cells X 27)=z0 at *
  refine wpList_load_row rfl 27 _ rfl _ rfl _ _ _ _ XZ.out Tryz.underlying27 rfl (info_M SX.out) ?_
  go_wp2_with fail
  refine (NU.out _).mono ?_
  rintro e w1 ⟨rfl,b1⟩
  go_wp2_with fail
  go_ret
  exact ⟨_,rfl,.inl ⟨HQ.out,rfl⟩,below_call BZ.out b1⟩
 ·have HQ:=Lib.hid hq
  rw [show numV m=m.r 0 by unfold numV;rw [hq];rfl,hq] at NU
  clear hq
  obtain ⟨n,hn,h5⟩:=argsI_bd (m.r 0)
  have HN:=Lib.hid (show (Ins.argsI (m.r 0)).toNat=n by rw [hn];rfl)
  rw [hn] at AG
  clear hn
  have AC:=Lib.hid (show argC m=#[.int .u64 (m.r 7),.int .u64 (m.r 6),.int .u64 (m.r 2),.int .u64 (m.r 10),.int .u64 (m.r 8)] from rfl)
  generalize mcC m=X at *
  go_enter Tryz.func17,Tryz.ntmps17
  go_wp2_with (with_reducible refine (halt_ldm 27 _ rfl rfl ?_))
  refine ⟨?_,trivial⟩
  generalize w.alloc (.cells X 27)=z0 at *
  refine wpList_load_row rfl 27 _ rfl _ rfl _ _ _ _ XZ.out Tryz.underlying27 rfl (info_M SX.out) ?_
  go_wp2_with fail
  refine (NU.out _).mono ?_
  rintro e w1 ⟨rfl,b1⟩
  have B1:=Lib.hid (below_call BZ.out b1)
  have X1:=Mrm.heap_below b1 XZ.out (Nat.le_refl _)
  have c7:=cell_of X1 7 _ (RG.out 7 (by decide))
  have c6:=cell_of X1 6 _ (RG.out 6 (by decide))
  have c2:=cell_of X1 2 _ (RG.out 2 (by decide))
  have c10:=cell_of X1 10 _ (RG.out 10 (by decide))
  have c8:=cell_of X1 8 _ (RG.out 8 (by decide))
  clear X1 b1
  go_wp2_with fail
  refine (AG.out _).mono ?_
  rintro e w2 ⟨rfl,rfl⟩
  go_wp2_with fail
  go_ret
  exact ⟨_,rfl,.inr ⟨HQ.out,w1.heap.size,_,_,(by rw [HN.out];rfl),(by rw [AC.out];exact heap_last _ _ _ rfl)⟩,below_new B1.out _⟩
theorem qargs_n (m:Mc)(hM:MOk m)(w:World):Calls Tryz.prog 18 #[.agg (mcC m)] w fun e w'=>∃ v,e=.returned v∧ArgsAt m v w'∧Below w.heap.size w w':=by
 have NU:=Lib.hid (fun W=>qnum_n m W hM)
 have AG:=Lib.hid (fun W=>Ins.r_args (m.r 0) W)
 have SX:=Lib.hid (show (mcC m).size=22 from rfl)
 have RG:=Lib.hid (fun j (h:j<16)=>mcC_reg m h)
 have BZ:=Lib.hid (below_new (Below.refl w.heap.size w) (.cells (mcC m) 27))
 have XZ:=Lib.hid (heap_last w (.cells (mcC m) 27) _ rfl)
 cases hq:numQ m
 ·have HQ:=Lib.hid hq
  rw [show numV m=0 by unfold numV;rw [hq];rfl,hq] at NU
  clear hq
  generalize mcC m=X at *
  go_enter Tryz.func18,Tryz.ntmps18
  go_wp2_with (with_reducible refine (halt_ldm 27 _ rfl rfl ?_))
  refine ⟨?_,trivial⟩
  generalize w.alloc (.cells X 27)=z0 at *
  refine wpList_load_row rfl 27 _ rfl _ rfl _ _ _ _ XZ.out Tryz.underlying27 rfl (info_M SX.out) ?_
  go_wp2_with fail
  refine (NU.out _).mono ?_
  rintro e w1 ⟨rfl,b1⟩
  go_wp2_with fail
  go_ret
  exact ⟨_,rfl,.inl ⟨HQ.out,rfl⟩,below_call BZ.out b1⟩
 ·have HQ:=Lib.hid hq
  rw [show numV m=m.r 0 by unfold numV;rw [hq];rfl,hq] at NU
  clear hq
  obtain ⟨n,hn,h5⟩:=argsI_bd (m.r 0)
  have HN:=Lib.hid (show (Ins.argsI (m.r 0)).toNat=n by rw [hn];rfl)
  rw [hn] at AG
  clear hn
  have AC:=Lib.hid (show argC m=#[.int .u64 (m.r 7),.int .u64 (m.r 6),.int .u64 (m.r 2),.int .u64 (m.r 10),.int .u64 (m.r 8)] from rfl)
  generalize mcC m=X at *
  go_enter Tryz.func18,Tryz.ntmps18
  go_wp2_with (with_reducible refine (halt_ldm 27 _ rfl rfl ?_))
  refine ⟨?_,trivial⟩
  generalize w.alloc (.cells X 27)=z0 at *
  refine wpList_load_row rfl 27 _ rfl _ rfl _ _ _ _ XZ.out Tryz.underlying27 rfl (info_M SX.out) ?_
  go_wp2_with fail
  refine (NU.out _).mono ?_
  rintro e w1 ⟨rfl,b1⟩
  have B1:=Lib.hid (below_call BZ.out b1)
  have X1:=Mrm.heap_below b1 XZ.out (Nat.le_refl _)
  have c7:=cell_of X1 7 _ (RG.out 7 (by decide))
  have c6:=cell_of X1 6 _ (RG.out 6 (by decide))
  have c2:=cell_of X1 2 _ (RG.out 2 (by decide))
  have c10:=cell_of X1 10 _ (RG.out 10 (by decide))
  have c8:=cell_of X1 8 _ (RG.out 8 (by decide))
  clear X1 b1
  go_wp2_with fail
  refine (AG.out _).mono ?_
  rintro e w2 ⟨rfl,rfl⟩
  go_wp2_with fail
  go_ret
  exact ⟨_,rfl,.inr ⟨HQ.out,w1.heap.size,_,_,(by rw [HN.out];rfl),(by rw [AC.out];exact heap_last _ _ _ rfl)⟩,below_new B1.out _⟩
theorem same_gen (a1 a2:Option Addr)(n c1 c2:Nat)(f:Nat→Int)(hn:n≤5)(w:World)(h1:∀ k,k<n→∃ g,a1=some ⟨g,0,none⟩∧w.cell? ⟨g,k,none⟩=some (.int .u64 (f k)))(h2:∀ k,k<n→∃ g,a2=some ⟨g,0,none⟩∧w.cell? ⟨g,k,none⟩=some (.int .u64 (f k))):
  Calls Tryz.prog 16 #[.slice a1 n c1,.slice a2 n c2] w fun e w'=>e=.returned (.bool true)∧Below w.heap.size w w':=by
 have H1:=Lib.hid h1
 have H2:=Lib.hid h2
 clear h1 h2
 go_enter Tryz.func16,Tryz.ntmps16
 go_wp2_with fail
 go_loopw [13] (fun i wr=>∃ k:Nat,k≤n∧i=.int .i64 k∧Hid (Below w.heap.size w wr)) (fun i _=>n - (intOf i).toNat)
 case atStart=>exact ⟨0,by omega,rfl,Lib.hid (Below.refl _ _)⟩
 case round=>
  obtain ⟨k,hk,rfl,HB⟩:=hrel
  by_cases hlt:k<n
  ·obtain ⟨g1,rfl,q1⟩:=H1.out k hlt
   obtain ⟨g2,rfl,q2⟩:=H2.out k hlt
   have q1:=(HB.out.cell (p:=⟨g1,k,none⟩) (Mrm.lt_cell q1)).trans q1
   have q2:=(HB.out.cell (p:=⟨g2,k,none⟩) (Mrm.lt_cell q2)).trans q2
   have g0:decide ((k:Int)<(n:Int))=true:=by simp;omega
   clear H1 H2
   go_wp2_with fail
   go_quiet (fail)
   go_wp2_with fail
   go_roundw
   case rel=>exact ⟨k+1,by omega,by go_num,Lib.hid (below_drewN HB.out _)⟩
   case measure=>simp [intOf];omega
  ·obtain rfl:k=n:=by omega
   go_wp2_with fail
   go_ret
   exact ⟨rfl,HB.out⟩
theorem same_n (m:Mc)(v1 v2:Value)(w:World)(h1:ArgsAt m v1 w)(h2:ArgsAt m v2 w):Calls Tryz.prog 16 #[v1,v2] w fun e w'=>e=.returned (.bool true)∧Below w.heap.size w w':=by
 obtain ⟨n,hn,h5⟩:=argsI_bd (m.r 0)
 rcases h1 with ⟨q,rfl⟩ | ⟨q,g,T,fr,rfl,r⟩
 ·rcases h2 with ⟨q2,rfl⟩ | ⟨q2,_⟩
  ·exact same_gen none none 0 0 0 (fun _=>0) (by omega) w (fun k h=>by omega) (fun k h=>by omega)
  ·rw [q] at q2;cases q2
 ·rcases h2 with ⟨q2,_⟩ | ⟨q2,g2,T2,fr2,rfl,r2⟩
  ·rw [q] at q2;cases q2
  ·rw [show (Ins.argsI (m.r 0)).toNat=n by rw [hn];rfl]
   have A:∀ k,k<n→(argC m)[k]?=some (.int .u64 (if k=0 then m.r 7 else if k=1 then m.r 6 else if k=2 then m.r 2 else if k=3 then m.r 10 else m.r 8)):=fun k hk=>by
    rcases (show k=0∨k=1∨k=2∨k=3∨k=4 by omega) with rfl | rfl | rfl | rfl | rfl <;> rfl
   exact same_gen _ _ n 5 5 _ h5 w (fun k hk=>⟨g,rfl,cell_of r k _ (A k hk)⟩) (fun k hk=>⟨g2,rfl,cell_of r2 k _ (A k hk)⟩)
end Go.Proofs.YtjhedldplmhmjaaGreatDoor.Exe
