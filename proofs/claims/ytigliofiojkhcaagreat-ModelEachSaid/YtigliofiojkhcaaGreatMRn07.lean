import Derived.Test.YtigliofiojkhcaaGreatMRn06
import Derived.WalkKit
import Derived.ProofKit
import Derived.Test.YtigliofiojkhcaaGreatRows
import Derived.WalkSpells
import Derived.WalkLawsBesides
import Derived.Lib.Hide
import Derived.Deep.LoopGhost
import Derived.Deep.OwnRows
import Derived.Handy
set_option linter.unusedVariables false
set_option linter.unusedSimpArgs false
set_option linter.unnecessarySimpa false
namespace Go.Proofs.YtigliofiojkhcaaGreat
open Go.RowKit
set_option linter.unusedVariables false
set_option maxRecDepth 100000
theorem lt_of_cell {w:World} {b o:Nat} {v:Value} (h:w.cell? ⟨b,o,none⟩=some v):b < w.heap.size:=World.block_lt_of_cell? w _ h
theorem below_drews {W w:World} {B:Nat} (h:Below B W w):∀ n,Below B W (w.drewN n):=fun n=>⟨h.os,h.tape,h.output,h.size,h.block⟩
theorem szB_le {m:Nat} (h:szB m=true):m=1 ∨ m=2 ∨ m=4 ∨ m=8:=by
  have:((m:Int)=1 ∨ (m:Int)=2) ∨ (m:Int)=4 ∨ (m:Int)=8:=by simpa [szB,or_assoc] using h
  omega
theorem limI_bd (a m:Int) (h:0 ≤ m):0 ≤ limI a m ∧ limI a m ≤ m:=by
  exact ⟨Int.le_min.2 ⟨Int.le_max_right _ _,h⟩,Int.min_le_right _ _⟩
def MemS.R (S:MemS) (b:Nat):Regs where
  st k:=if k=1 then 1048576 else if k=2 then 2097152 else if k=3 then 3145728 else if k=4 then 4194304 else 0
  sz k:=if k=1 then limI S.cn 16384 else if k=2 then limI S.n 256 else if k=3 then 64 else if k=4 then stkI S.hs else 0
  fx k:=if k=1 then true else false
  bp k:=if k=1 then some ⟨S.cb,0,none⟩ else if k=2 then some ⟨b,1,none⟩ else if k=3 then some ⟨b,258,none⟩ else if k=4 then some ⟨b,322,none⟩ else none
  bl k:=if k=1 then S.cn else if k=2 then S.n else if k=3 then 64 else if k=4 then 264 else 0
theorem MemS.R_sz (S:MemS) (b:Nat) (k:Nat):0 ≤ (S.R b).sz k ∧ (S.R b).sz k < 18446744073709551616:=by
  show 0 ≤ (if _ then _ else _:Int) ∧ (if _ then _ else _:Int) < _
  have h1:=limI_bd S.cn 16384 (by omega)
  have h2:=limI_bd S.n 256 (by omega)
  split
  · omega
  split
  · omega
  split
  · omega
  split
  · unfold stkI;split <;> omega
  · omega
theorem MemS.R_bl (S:MemS) (b k:Nat) (h1:S.cn ≤ 16384) (h2:S.n ≤ 256):(S.R b).bl k ≤ 16384:=by
  show (if _ then _ else _:Nat) ≤ _
  split
  · omega
  split
  · omega
  split
  · omega
  split <;> omega
theorem MemS.R_at (S:MemS) (b:Nat) {w:World} {g:Nat} {t:TypeId} {fr:Nat × Nat} (h:w.heap[g]?=some (.cells (S.regs b) t fr)):(S.R b).at w g:=by
  intro k hk j v hv
  have e:w.cell? ⟨g,k * 4 + j,none⟩=(S.regs b)[k * 4 + j]?:=by simp [World.cell?,h]
  rw [e]
  have hj:j < 4:=(List.getElem?_eq_some_iff.1 hv).1
  have h5:k=0 ∨ k=1 ∨ k=2 ∨ k=3 ∨ k=4:=by omega
  have h4:j=0 ∨ j=1 ∨ j=2 ∨ j=3:=by omega
  rcases h5 with rfl | rfl | rfl | rfl | rfl <;> rcases h4 with rfl | rfl | rfl | rfl <;> exact hv
theorem MemS.at.below {S:MemS} {W w:World} {b:Nat} (h:S.at W b) (hb:Below W.heap.size W w):S.at w b:=
  ⟨h.row.of_block (hb.block _ h.row.lt),h.cn,h.n,h.far,h.bytes⟩
set_option maxRecDepth 100000 in
set_option maxHeartbeats 2000000 in
theorem part_rd_hit (S:MemS) (b:Nat) (a:Int) (m:Nat) (k q B o:Nat) (W:World) (hS:S.at W b) (hk:k < 5) (hm:szB m=true) (hq:offI a ((S.R b).st k)=q)
    (hidx:firstI (fun k=>rdB a m ((S.R b).st k) ((S.R b).sz k))=k) (hb:(S.R b).bp k=some ⟨B,o,none⟩) (hfit:q + m ≤ (S.R b).bl k):
    Calls Tryz.prog 86 #[.pointer (some ⟨b,0,none⟩),.agg #[.int .u64 a,.int .u64 m],.func (.func 87) #[.agg #[.int .u64 a,.int .u64 m]] #[]] W fun e w'=>e=.returned (.tuple #[.slice (some ⟨B,o + q,none⟩) m m,.int .i64 0]) ∧ Below W.heap.size W w':=by
  have m8:=szB_le hm
  have k5:(k:Int) < 5:=by omega
  have hbl:=S.R_bl b k hS.cn hS.n
  have Z:=fun W=>sized_any a m W
  rw [hm] at Z
  have HZ:=Lib.hid Z;clear Z
  have O:=fun W=>offset_any a m ((S.R b).st k) ((S.R b).sz k) ((S.R b).fx k) ((S.R b).bp k) ((S.R b).bl k) ((S.R b).bl k) W
  rw [hq,hb] at O
  have HO:=Lib.hid O;clear O
  have HI:=Lib.hid (fun g W hR hg=>index_rd a m (S.R b) g W hR hg (S.R_sz b))
  have HX:=Lib.hid hidx;clear hidx
  have HB:=Lib.hid hb;clear hb
  have HQ:=Lib.hid hq;clear hq
  have HS:=Lib.hid hS;clear hS
  have HM:=Lib.hid hm;clear hm
  have hi':=Lib.hid (show (Tryz.prog.info? 140).map (·.size)=some (S.regs b).size from info_regs)
  have h1:=Lib.hid (regs_one S b)
  go_enter Tryz.func86,Tryz.ntmps86
  go_wp2_with fail
  refine (HZ.out _).mono ?_
  rintro e w1 ⟨rfl,b1⟩
  have B1:=Lib.hid (below_call (below_new (Below.refl _ W) _) b1)
  have e0:w1.cell? ⟨W.heap.size,0,none⟩=some (.int .u64 a):=(b1.cell (p:=⟨W.heap.size,0,none⟩) (by simp)).trans (by simp)
  have e1:w1.cell? ⟨W.heap.size,1,none⟩=some (.int .u64 m):=(b1.cell (p:=⟨W.heap.size,1,none⟩) (by simp)).trans (by simp)
  clear b1
  go_wp2_with fail
  refine (regions_any S b _ (HS.out.below B1.out)).mono ?_
  rintro e w2 ⟨rfl,b2⟩
  have B2:=Lib.hid (below_call B1.out b2)
  have s1:W.heap.size < w1.heap.size:=lt_of_cell e0
  have f0:w2.cell? ⟨W.heap.size,0,none⟩=some (.int .u64 a):=(b2.cell (p:=⟨W.heap.size,0,none⟩) s1).trans e0
  have f1:w2.cell? ⟨W.heap.size,1,none⟩=some (.int .u64 m):=(b2.cell (p:=⟨W.heap.size,1,none⟩) s1).trans e1
  have s2:W.heap.size < w2.heap.size:=lt_of_cell f0
  clear b2 e0 e1 s1
  go_wp2_with (refine halt_store 140 _ _ rfl ?_)
  refine ⟨?_,trivial⟩
  refine wpList_store_is rfl 140 _ _ rfl w2.heap.size (S.regs b) rfl rfl 140 zeroRegs (heap_last _ _ _ rfl) hi'.out rfl h1.out ?_
  intro w3 s3
  have B3:=Lib.hid (s3.below (below_new B2.out _) (Nat.le_of_lt s2))
  have g0:w3.cell? ⟨W.heap.size,0,none⟩=some (.int .u64 a):=(s3.cellOther (by omega) 0).trans ((World.cell?_alloc_lt _ _ _ s2).trans f0)
  have g1:w3.cell? ⟨W.heap.size,1,none⟩=some (.int .u64 m):=(s3.cellOther (by omega) 1).trans ((World.cell?_alloc_lt _ _ _ s2).trans f1)
  have HR:=Lib.hid (S.R_at b s3.row)
  have l3:w2.heap.size < w3.heap.size:=by rw [s3.size,size_alloc];omega
  clear s3 f0 f1
  generalize w2.heap.size=g at *
  go_wp2_with fail
  refine (HI.out g _ HR.out l3).mono ?_
  rintro e w4 ⟨rfl,b4⟩
  rw [HX.out]
  have B4:=Lib.hid (below_call B3.out b4)
  have R4:=Regs.at_below HR.out b4 l3
  have j0:w4.cell? ⟨W.heap.size,0,none⟩=some (.int .u64 a):=(b4.cell (p:=⟨W.heap.size,0,none⟩) (by simp;omega)).trans g0
  have j1:w4.cell? ⟨W.heap.size,1,none⟩=some (.int .u64 m):=(b4.cell (p:=⟨W.heap.size,1,none⟩) (by simp;omega)).trans g1
  have c0:w4.cell? ⟨g,k * 4,none⟩=some (.int .u64 ((S.R b).st k)):=R4 k hk 0 _ rfl
  have c1:w4.cell? ⟨g,k * 4 + 1,none⟩=some (.int .u64 ((S.R b).sz k)):=R4 k hk 1 _ rfl
  have c2:w4.cell? ⟨g,k * 4 + 2,none⟩=some (.bool ((S.R b).fx k)):=R4 k hk 2 _ rfl
  have c3:w4.cell? ⟨g,k * 4 + 3,none⟩=some (.slice (some ⟨B,o,none⟩) ((S.R b).bl k) ((S.R b).bl k)):=by have:=R4 k hk 3 _ rfl;rw [HB.out] at this;exact this
  have l4:g < w4.heap.size:=lt_of_cell c0
  clear g0 g1 R4 b4 l3
  go_wp2_with fail
  go_still_tail 4,(by kernel_rfl)
  go_wp2_with (with_reducible refine (HO.out _).mono ?_;rintro e w5 ⟨rfl,b5⟩)
  have n1:w5.cell? ⟨W.heap.size,1,none⟩=some (.int .u64 m):=(b5.cell (p:=⟨W.heap.size,1,none⟩) (Nat.lt_trans s2 l4)).trans j1
  have n3:w5.cell? ⟨g,k * 4 + 3,none⟩=some (.slice (some ⟨B,o,none⟩) ((S.R b).bl k) ((S.R b).bl k)):=(b5.cell (p:=⟨g,k * 4 + 3,none⟩) l4).trans c3
  have B5:=Lib.hid (below_call (Below.drew B4.out) b5)
  clear b5 c0 c1 c2 c3 j0 j1
  have q0:(0:Int) ≤ q:=by omega
  have q1:(0:Int) ≤ (q:Int) + m:=by omega
  have q2:(q:Int) + m ≤ (S.R b).bl k:=by omega
  have q3:(q:Int) ≤ (q:Int) + m:=by omega
  have q5:(q:Int) + m < 18446744073709551616:=by omega
  have q4:IntKind.u64.wrap ((q:Int) + m)=(q:Int) + m:=by rw [IntKind.wrap_u64];omega
  have q6:((q:Int) + m).toNat=q + m:=by omega
  have q7:¬ q + m=q:=by omega
  go_quiet (fail)
  go_wp2
  go_ret2
  exact ⟨rfl,below_drews B5.out nq⟩
set_option maxRecDepth 100000 in
set_option maxHeartbeats 2000000 in
theorem part_rd_miss (S:MemS) (b:Nat) (a:Int) (m:Nat) (W:World) (hS:S.at W b) (hm:szB m=true)
    (hidx:firstI (fun k=>rdB a m ((S.R b).st k) ((S.R b).sz k))=-1):
    Calls Tryz.prog 86 #[.pointer (some ⟨b,0,none⟩),.agg #[.int .u64 a,.int .u64 m],.func (.func 87) #[.agg #[.int .u64 a,.int .u64 m]] #[]] W fun e w'=>e=.returned (.tuple #[.slice none 0 0,.int .i64 20]) ∧ Below W.heap.size W w':=by
  have Z:=fun W=>sized_any a m W
  rw [hm] at Z
  have HZ:=Lib.hid Z;clear Z
  have HI:=Lib.hid (fun g W hR hg=>index_rd a m (S.R b) g W hR hg (S.R_sz b))
  have HX:=Lib.hid hidx;clear hidx
  have HS:=Lib.hid hS;clear hS
  have HM:=Lib.hid hm;clear hm
  have hi':=Lib.hid (show (Tryz.prog.info? 140).map (·.size)=some (S.regs b).size from info_regs)
  have h1:=Lib.hid (regs_one S b)
  go_enter Tryz.func86,Tryz.ntmps86
  go_wp2_with fail
  refine (HZ.out _).mono ?_
  rintro e w1 ⟨rfl,b1⟩
  have B1:=Lib.hid (below_call (below_new (Below.refl _ W) _) b1)
  clear b1
  go_wp2_with fail
  refine (regions_any S b _ (HS.out.below B1.out)).mono ?_
  rintro e w2 ⟨rfl,b2⟩
  have B2:=Lib.hid (below_call B1.out b2)
  clear b2
  go_wp2_with (refine halt_store 140 _ _ rfl ?_)
  refine ⟨?_,trivial⟩
  refine wpList_store_is rfl 140 _ _ rfl w2.heap.size (S.regs b) rfl rfl 140 zeroRegs (heap_last _ _ _ rfl) hi'.out rfl h1.out ?_
  intro w3 s3
  have B3:=Lib.hid (s3.below (below_new B2.out _) B2.out.size)
  have HR:=Lib.hid (S.R_at b s3.row)
  have l3:w2.heap.size < w3.heap.size:=by rw [s3.size,size_alloc];omega
  clear s3
  generalize w2.heap.size=g at *
  go_wp2_with fail
  refine (HI.out g _ HR.out l3).mono ?_
  rintro e w4 ⟨rfl,b4⟩
  rw [HX.out]
  have B4:=Lib.hid (below_call B3.out b4)
  clear b4
  go_wp2
  go_ret2
  exact ⟨rfl,B4.out⟩
set_option maxRecDepth 100000 in
set_option maxHeartbeats 2000000 in
theorem part_wr_hit (S:MemS) (b:Nat) (a:Int) (m:Nat) (k q B o:Nat) (W:World) (hS:S.at W b) (hk:k < 5) (hm:szB m=true) (hq:offI a ((S.R b).st k)=q)
    (hidx:firstI (fun k=>wrB a m ((S.R b).st k) ((S.R b).sz k) ((S.R b).fx k))=k) (hb:(S.R b).bp k=some ⟨B,o,none⟩) (hfit:q + m ≤ (S.R b).bl k):
    Calls Tryz.prog 86 #[.pointer (some ⟨b,0,none⟩),.agg #[.int .u64 a,.int .u64 m],.func (.func 89) #[.agg #[.int .u64 a,.int .u64 m]] #[]] W fun e w'=>e=.returned (.tuple #[.slice (some ⟨B,o + q,none⟩) m m,.int .i64 0]) ∧ Below W.heap.size W w':=by
  have m8:=szB_le hm
  have k5:(k:Int) < 5:=by omega
  have hbl:=S.R_bl b k hS.cn hS.n
  have Z:=fun W=>sized_any a m W
  rw [hm] at Z
  have HZ:=Lib.hid Z;clear Z
  have O:=fun W=>offset_any a m ((S.R b).st k) ((S.R b).sz k) ((S.R b).fx k) ((S.R b).bp k) ((S.R b).bl k) ((S.R b).bl k) W
  rw [hq,hb] at O
  have HO:=Lib.hid O;clear O
  have HI:=Lib.hid (fun g W hR hg=>index_wr a m (S.R b) g W hR hg (S.R_sz b))
  have HX:=Lib.hid hidx;clear hidx
  have HB:=Lib.hid hb;clear hb
  have HQ:=Lib.hid hq;clear hq
  have HS:=Lib.hid hS;clear hS
  have HM:=Lib.hid hm;clear hm
  have hi':=Lib.hid (show (Tryz.prog.info? 140).map (·.size)=some (S.regs b).size from info_regs)
  have h1:=Lib.hid (regs_one S b)
  go_enter Tryz.func86,Tryz.ntmps86
  go_wp2_with fail
  refine (HZ.out _).mono ?_
  rintro e w1 ⟨rfl,b1⟩
  have B1:=Lib.hid (below_call (below_new (Below.refl _ W) _) b1)
  have e0:w1.cell? ⟨W.heap.size,0,none⟩=some (.int .u64 a):=(b1.cell (p:=⟨W.heap.size,0,none⟩) (by simp)).trans (by simp)
  have e1:w1.cell? ⟨W.heap.size,1,none⟩=some (.int .u64 m):=(b1.cell (p:=⟨W.heap.size,1,none⟩) (by simp)).trans (by simp)
  clear b1
  go_wp2_with fail
  refine (regions_any S b _ (HS.out.below B1.out)).mono ?_
  rintro e w2 ⟨rfl,b2⟩
  have B2:=Lib.hid (below_call B1.out b2)
  have s1:W.heap.size < w1.heap.size:=lt_of_cell e0
  have f0:w2.cell? ⟨W.heap.size,0,none⟩=some (.int .u64 a):=(b2.cell (p:=⟨W.heap.size,0,none⟩) s1).trans e0
  have f1:w2.cell? ⟨W.heap.size,1,none⟩=some (.int .u64 m):=(b2.cell (p:=⟨W.heap.size,1,none⟩) s1).trans e1
  have s2:W.heap.size < w2.heap.size:=lt_of_cell f0
  clear b2 e0 e1 s1
  go_wp2_with (refine halt_store 140 _ _ rfl ?_)
  refine ⟨?_,trivial⟩
  refine wpList_store_is rfl 140 _ _ rfl w2.heap.size (S.regs b) rfl rfl 140 zeroRegs (heap_last _ _ _ rfl) hi'.out rfl h1.out ?_
  intro w3 s3
  have B3:=Lib.hid (s3.below (below_new B2.out _) (Nat.le_of_lt s2))
  have g0:w3.cell? ⟨W.heap.size,0,none⟩=some (.int .u64 a):=(s3.cellOther (by omega) 0).trans ((World.cell?_alloc_lt _ _ _ s2).trans f0)
  have g1:w3.cell? ⟨W.heap.size,1,none⟩=some (.int .u64 m):=(s3.cellOther (by omega) 1).trans ((World.cell?_alloc_lt _ _ _ s2).trans f1)
  have HR:=Lib.hid (S.R_at b s3.row)
  have l3:w2.heap.size < w3.heap.size:=by rw [s3.size,size_alloc];omega
  clear s3 f0 f1
  generalize w2.heap.size=g at *
  go_wp2_with fail
  refine (HI.out g _ HR.out l3).mono ?_
  rintro e w4 ⟨rfl,b4⟩
  rw [HX.out]
  have B4:=Lib.hid (below_call B3.out b4)
  have R4:=Regs.at_below HR.out b4 l3
  have j0:w4.cell? ⟨W.heap.size,0,none⟩=some (.int .u64 a):=(b4.cell (p:=⟨W.heap.size,0,none⟩) (by simp;omega)).trans g0
  have j1:w4.cell? ⟨W.heap.size,1,none⟩=some (.int .u64 m):=(b4.cell (p:=⟨W.heap.size,1,none⟩) (by simp;omega)).trans g1
  have c0:w4.cell? ⟨g,k * 4,none⟩=some (.int .u64 ((S.R b).st k)):=R4 k hk 0 _ rfl
  have c1:w4.cell? ⟨g,k * 4 + 1,none⟩=some (.int .u64 ((S.R b).sz k)):=R4 k hk 1 _ rfl
  have c2:w4.cell? ⟨g,k * 4 + 2,none⟩=some (.bool ((S.R b).fx k)):=R4 k hk 2 _ rfl
  have c3:w4.cell? ⟨g,k * 4 + 3,none⟩=some (.slice (some ⟨B,o,none⟩) ((S.R b).bl k) ((S.R b).bl k)):=by have:=R4 k hk 3 _ rfl;rw [HB.out] at this;exact this
  have l4:g < w4.heap.size:=lt_of_cell c0
  clear g0 g1 R4 b4 l3
  go_wp2_with fail
  go_still_tail 4,(by kernel_rfl)
  go_wp2_with (with_reducible refine (HO.out _).mono ?_;rintro e w5 ⟨rfl,b5⟩)
  have n1:w5.cell? ⟨W.heap.size,1,none⟩=some (.int .u64 m):=(b5.cell (p:=⟨W.heap.size,1,none⟩) (Nat.lt_trans s2 l4)).trans j1
  have n3:w5.cell? ⟨g,k * 4 + 3,none⟩=some (.slice (some ⟨B,o,none⟩) ((S.R b).bl k) ((S.R b).bl k)):=(b5.cell (p:=⟨g,k * 4 + 3,none⟩) l4).trans c3
  have B5:=Lib.hid (below_call (Below.drew B4.out) b5)
  clear b5 c0 c1 c2 c3 j0 j1
  have q0:(0:Int) ≤ q:=by omega
  have q1:(0:Int) ≤ (q:Int) + m:=by omega
  have q2:(q:Int) + m ≤ (S.R b).bl k:=by omega
  have q3:(q:Int) ≤ (q:Int) + m:=by omega
  have q5:(q:Int) + m < 18446744073709551616:=by omega
  have q4:IntKind.u64.wrap ((q:Int) + m)=(q:Int) + m:=by rw [IntKind.wrap_u64];omega
  have q6:((q:Int) + m).toNat=q + m:=by omega
  have q7:¬ q + m=q:=by omega
  go_quiet (fail)
  go_wp2
  go_ret2
  exact ⟨rfl,below_drews B5.out nq⟩
set_option maxRecDepth 100000 in
set_option maxHeartbeats 2000000 in
theorem part_wr_miss (S:MemS) (b:Nat) (a:Int) (m:Nat) (W:World) (hS:S.at W b) (hm:szB m=true)
    (hidx:firstI (fun k=>wrB a m ((S.R b).st k) ((S.R b).sz k) ((S.R b).fx k))=-1):
    Calls Tryz.prog 86 #[.pointer (some ⟨b,0,none⟩),.agg #[.int .u64 a,.int .u64 m],.func (.func 89) #[.agg #[.int .u64 a,.int .u64 m]] #[]] W fun e w'=>e=.returned (.tuple #[.slice none 0 0,.int .i64 20]) ∧ Below W.heap.size W w':=by
  have Z:=fun W=>sized_any a m W
  rw [hm] at Z
  have HZ:=Lib.hid Z;clear Z
  have HI:=Lib.hid (fun g W hR hg=>index_wr a m (S.R b) g W hR hg (S.R_sz b))
  have HX:=Lib.hid hidx;clear hidx
  have HS:=Lib.hid hS;clear hS
  have HM:=Lib.hid hm;clear hm
  have hi':=Lib.hid (show (Tryz.prog.info? 140).map (·.size)=some (S.regs b).size from info_regs)
  have h1:=Lib.hid (regs_one S b)
  go_enter Tryz.func86,Tryz.ntmps86
  go_wp2_with fail
  refine (HZ.out _).mono ?_
  rintro e w1 ⟨rfl,b1⟩
  have B1:=Lib.hid (below_call (below_new (Below.refl _ W) _) b1)
  clear b1
  go_wp2_with fail
  refine (regions_any S b _ (HS.out.below B1.out)).mono ?_
  rintro e w2 ⟨rfl,b2⟩
  have B2:=Lib.hid (below_call B1.out b2)
  clear b2
  go_wp2_with (refine halt_store 140 _ _ rfl ?_)
  refine ⟨?_,trivial⟩
  refine wpList_store_is rfl 140 _ _ rfl w2.heap.size (S.regs b) rfl rfl 140 zeroRegs (heap_last _ _ _ rfl) hi'.out rfl h1.out ?_
  intro w3 s3
  have B3:=Lib.hid (s3.below (below_new B2.out _) B2.out.size)
  have HR:=Lib.hid (S.R_at b s3.row)
  have l3:w2.heap.size < w3.heap.size:=by rw [s3.size,size_alloc];omega
  clear s3
  generalize w2.heap.size=g at *
  go_wp2_with fail
  refine (HI.out g _ HR.out l3).mono ?_
  rintro e w4 ⟨rfl,b4⟩
  rw [HX.out]
  have B4:=Lib.hid (below_call B3.out b4)
  clear b4
  go_wp2
  go_ret2
  exact ⟨rfl,B4.out⟩
end Go.Proofs.YtigliofiojkhcaaGreat
namespace Go.Proofs.YtigliofiojkhcaaGreat
open Go.RowKit
def IsRow (k:IntKind) (w:World) (a:Option Addr) (len cap:Nat) (zs:List Int):Prop:=
  (a=none ∧ len=0 ∧ cap=0 ∧ zs=[]) ∨
  ∃ x,a=some x ∧ len ≤ cap ∧ cap ≤ maxLen ∧ zs.length=cap ∧ (∀ i,i < zs.length → w.cell? (x.add i)=some (.int k (zs.getD i 0))) ∧ ∀ n ∈ zs,(Lit.int k n).wf=true
end Go.Proofs.YtigliofiojkhcaaGreat
namespace Go.Proofs.YtigliofiojkhcaaGreat
open Go.RowKit
set_option linter.unusedVariables false
def putN (n:Int):Nat:=(min (max n 0) 8).toNat
def byteI (v:Int) (i:Nat):Int:=v / 2 ^ (8 * i) % 256
theorem info_u8:(Tryz.prog.info? 5).map (fun i=>(i.zero,i.size,i.bytes))=some (some (.int .u8 0),1,1):=by kernel_rfl
theorem byte_next (v:Int) (k i:Nat):(if i=k then Value.int .u8 (v / 2 ^ (8 * k) % 256) else Value.int .u8 (if i < k then byteI v i else 0))=Value.int .u8 (if i < k + 1 then byteI v i else 0):=by
  by_cases h:i=k
  · subst h;rw [if_pos rfl,if_pos (by omega)];rfl
  · rw [if_neg h]
    by_cases h':i < k
    · rw [if_pos h',if_pos (by omega)]
    · rw [if_neg h',if_neg (by omega)]
set_option maxHeartbeats 1000000 in
theorem put_mid (v n:Int) (m:Nat) (hm:n=m) (h8:m ≤ 8) (hv0:0 ≤ v) (hv1:v < 18446744073709551616) (W:World):
    Calls Tryz.prog 90 #[.int .u64 v,.int .i64 n] W fun e w'=>e=.returned (.slice (some ⟨W.heap.size,0,none⟩) m m) ∧ Below W.heap.size W w' ∧ w'.rowIs W.heap.size 5 m (fun i=>.int .u8 (byteI v i)):=by
  subst hm
  have hmk:=fun w=>run_make_row' (P:=Tryz.prog) 25 5 (.int .u8 0) 1 Tryz.underlying25 info_u8 rfl .i64 .i64 m (by omega) (by omega) w
  go_enter Tryz.func90,Tryz.ntmps90
  go_wp2
  go_loopw [13] (fun i wr=>∃ k:Nat,k ≤ m ∧ i=.int .i64 k ∧ Below W.heap.size W wr ∧ wr.rowIs W.heap.size 5 m (fun i=>.int .u8 (if i < k then byteI v i else 0))) (fun i _=>m - (intOf i).toNat)
  case atStart=>exact ⟨0,by omega,rfl,(Below.refl _ _).alloc (Nat.le_refl _) _,(World.rowIs_made _ _ _ _).congr (fun i hi=>rfl)⟩
  case round=>
    obtain ⟨k,hk,rfl,hB,hR⟩:=hrel
    by_cases hlt:k < m
    · have hc:=hR.cell hlt
      have hf:=hR.frozen k
      have e1:min (8 * k) 64=8 * k:=by omega
      go_wp2
      go_roundw
      case rel=>
        refine ⟨k + 1,by omega,by go_num,hB.setCell (Nat.le_refl _) _,?_⟩
        exact (hR.set k _).congr (fun i hi=>byte_next v k i)
      case measure=>simp [intOf];omega
    · obtain rfl:k=m:=by omega
      go_wp2
      go_ret
      exact ⟨rfl,hB,hR.congr (fun i hi=>by rw [if_pos hi])⟩
set_option maxHeartbeats 1000000 in
theorem put_low (v n:Int) (hn:n < 0) (hv0:0 ≤ v) (hv1:v < 18446744073709551616) (W:World):
    Calls Tryz.prog 90 #[.int .u64 v,.int .i64 n] W fun e w'=>e=.returned (.slice (some ⟨W.heap.size,0,none⟩) 0 0) ∧ Below W.heap.size W w' ∧ w'.rowIs W.heap.size 5 0 (fun i=>.int .u8 (byteI v i)):=by
  have hmk:∀ w,(Instr.makeSlice 25 (.int .i64 0) (.int .i64 0)).run Tryz.prog w=.ok (.slice (some ⟨w.heap.size,0,none⟩) 0 0) (w.alloc (.cells (madeCells #[.int .u8 0] 0) 5)):=fun w=>run_make_row' (P:=Tryz.prog) 25 5 (.int .u8 0) 1 Tryz.underlying25 info_u8 rfl .i64 .i64 0 (by omega) (by omega) w
  go_enter Tryz.func90,Tryz.ntmps90
  go_wp2
  go_loopw [13] (fun i wr=>∃ k:Nat,k ≤ 0 ∧ i=.int .i64 k ∧ Below W.heap.size W wr ∧ wr.rowIs W.heap.size 5 0 (fun i=>.int .u8 (if i < k then byteI v i else 0))) (fun i _=>0 - (intOf i).toNat)
  case atStart=>exact ⟨0,by omega,rfl,(Below.refl _ _).alloc (Nat.le_refl _) _,(World.rowIs_made _ _ _ _).congr (fun i hi=>rfl)⟩
  case round=>
    obtain ⟨k,hk,rfl,hB,hR⟩:=hrel
    by_cases hlt:k < 0
    · exact absurd hlt (by omega)
    · obtain rfl:k=0:=by omega
      go_wp2
      go_ret
      exact ⟨rfl,hB,hR.congr (fun i hi=>by rw [if_pos hi])⟩
set_option maxHeartbeats 1000000 in
theorem put_high (v n:Int) (hn:8 < n) (hn':0 ≤ n) (hv0:0 ≤ v) (hv1:v < 18446744073709551616) (W:World):
    Calls Tryz.prog 90 #[.int .u64 v,.int .i64 n] W fun e w'=>e=.returned (.slice (some ⟨W.heap.size,0,none⟩) 8 8) ∧ Below W.heap.size W w' ∧ w'.rowIs W.heap.size 5 8 (fun i=>.int .u8 (byteI v i)):=by
  have hmk:∀ w,(Instr.makeSlice 25 (.int .i64 8) (.int .i64 8)).run Tryz.prog w=.ok (.slice (some ⟨w.heap.size,0,none⟩) 8 8) (w.alloc (.cells (madeCells #[.int .u8 0] 8) 5)):=fun w=>run_make_row' (P:=Tryz.prog) 25 5 (.int .u8 0) 1 Tryz.underlying25 info_u8 rfl .i64 .i64 8 (by omega) (by omega) w
  go_enter Tryz.func90,Tryz.ntmps90
  go_wp2
  go_loopw [13] (fun i wr=>∃ k:Nat,k ≤ 8 ∧ i=.int .i64 k ∧ Below W.heap.size W wr ∧ wr.rowIs W.heap.size 5 8 (fun i=>.int .u8 (if i < k then byteI v i else 0))) (fun i _=>8 - (intOf i).toNat)
  case atStart=>exact ⟨0,by omega,rfl,(Below.refl _ _).alloc (Nat.le_refl _) _,(World.rowIs_made _ _ _ _).congr (fun i hi=>rfl)⟩
  case round=>
    obtain ⟨k,hk,rfl,hB,hR⟩:=hrel
    by_cases hlt:k < 8
    · have hc:=hR.cell hlt
      have hf:=hR.frozen k
      have e1:min (8 * k) 64=8 * k:=by omega
      go_wp2
      go_roundw
      case rel=>
        refine ⟨k + 1,by omega,by go_num,hB.setCell (Nat.le_refl _) _,?_⟩
        exact (hR.set k _).congr (fun i hi=>byte_next v k i)
      case measure=>simp [intOf];omega
    · obtain rfl:k=8:=by omega
      go_wp2
      go_ret
      exact ⟨rfl,hB,hR.congr (fun i hi=>by rw [if_pos hi])⟩
theorem put_any (v n:Int) (hv0:0 ≤ v) (hv1:v < 18446744073709551616) (W:World):
    Calls Tryz.prog 90 #[.int .u64 v,.int .i64 n] W fun e w'=>e=.returned (.slice (some ⟨W.heap.size,0,none⟩) (putN n) (putN n)) ∧ Below W.heap.size W w' ∧ w'.rowIs W.heap.size 5 (putN n) (fun i=>.int .u8 (byteI v i)):=by
  by_cases h:n < 0
  · rw [show putN n=0 by unfold putN;omega];exact put_low v n h hv0 hv1 W
  by_cases h':n ≤ 8
  · rw [show putN n=n.toNat by unfold putN;omega];exact put_mid v n n.toNat (by omega) (by omega) hv0 hv1 W
  · rw [show putN n=8 by unfold putN;omega];exact put_high v n (by omega) (by omega) hv0 hv1 W
def getI (f:Nat → Int):Nat → Int
  | 0=>0
  | k + 1=>getI f k + f k * 2 ^ (8 * k)
theorem getI_bd (f:Nat → Int):∀ k:Nat,(∀ i,i < k → 0 ≤ f i ∧ f i < 256) → 0 ≤ getI f k ∧ getI f k < 2 ^ (8 * k)
  | 0,_=>⟨by unfold getI;omega,by show (0:Int) < 2 ^ (8 * 0);decide⟩
  | k + 1,h=>by
    have ih:=getI_bd f k (fun i hi=>h i (by omega))
    have b:=h k (by omega)
    have p:(0:Int) < 2 ^ (8 * k):=Int.pow_pos (by omega)
    have e:(2:Int) ^ (8 * (k + 1))=256 * 2 ^ (8 * k):=by rw [show 8 * (k + 1)=8 + 8 * k by omega,Int.pow_add];rfl
    have u:f k * 2 ^ (8 * k) ≤ 255 * 2 ^ (8 * k):=Int.mul_le_mul_of_nonneg_right (by omega) (by omega)
    have v:0 ≤ f k * 2 ^ (8 * k):=Int.mul_nonneg b.1 (by omega)
    unfold getI
    rw [e]
    omega
theorem get_step (x y:Int) (k:Nat) (h8:k < 8) (hx0:0 ≤ x) (hx1:x < 2 ^ (8 * k)) (hy0:0 ≤ y) (hy1:y < 256):bits .or .u64 x (y * 2 ^ (8 * k) % 18446744073709551616)=x + y * 2 ^ (8 * k):=by
  have p:(0:Int) < 2 ^ (8 * k):=Int.pow_pos (by omega)
  have q:(2:Int) ^ (8 * k) ≤ 2 ^ 56:=by
    have:=Nat.pow_le_pow_right (show 0 < 2 by omega) (show 8 * k ≤ 56 by omega)
    have e:((2 ^ (8 * k):Nat):Int) ≤ ((2 ^ 56:Nat):Int):=by omega
    simpa using e
  have r:(2:Int) ^ 56=72057594037927936:=rfl
  have u:y * 2 ^ (8 * k) ≤ 255 * 2 ^ (8 * k):=Int.mul_le_mul_of_nonneg_right (by omega) (by omega)
  have v:0 ≤ y * 2 ^ (8 * k):=Int.mul_nonneg hy0 (by omega)
  rw [Int.emod_eq_of_lt v (by omega),u64_or _ _ hx0 (by omega) v (by omega)]
  obtain ⟨X,rfl⟩:=Int.eq_ofNat_of_zero_le hx0
  obtain ⟨Y,rfl⟩:=Int.eq_ofNat_of_zero_le hy0
  have c:((Y:Int) * 2 ^ (8 * k))=((2 ^ (8 * k) * Y:Nat):Int):=by rw [Nat.mul_comm (2 ^ (8 * k)) Y];simp
  have d:X < 2 ^ (8 * k):=by
    have e:(X:Int) < ((2 ^ (8 * k):Nat):Int):=by simpa using hx1
    omega
  rw [c,Int.toNat_natCast,Int.toNat_natCast,Nat.or_comm,← Nat.two_pow_add_eq_or_of_lt d]
  omega
set_option maxHeartbeats 1000000 in
theorem get_few (b off len cap:Nat) (f:Nat → Int) (W:World) (hl:len ≤ 8) (hc:len ≤ cap) (hm:cap ≤ 9223372036854775807) (hf:∀ i,i < len → 0 ≤ f i ∧ f i < 256) (hcell:∀ i,i < len → W.cell? ⟨b,off + i,none⟩=some (.int .u8 (f i))):
    Calls Tryz.prog 88 #[.slice (some ⟨b,off,none⟩) len cap] W fun e w'=>e=.returned (.int .u64 (getI f len)) ∧ W=w':=by
  have HC:=Lib.hid hcell;clear hcell
  have HF:=Lib.hid hf;clear hf
  go_enter Tryz.func88,Tryz.ntmps88
  go_wp2
  go_loop [3,12] (fun v i=>∃ k:Nat,k ≤ len ∧ i=.int .i64 k ∧ v=.int .u64 (getI f k)) (fun _ i=>len - (intOf i).toNat)
  case atStart=>exact ⟨0,by omega,rfl,rfl⟩
  case round=>
    obtain ⟨k,hk,rfl,rfl⟩:=hrel
    by_cases hlt:k < len
    · have hb:=getI_bd f k (fun i hi=>HF.out i (by omega))
      have hy:=HF.out k hlt
      have e1:min (8 * k) 64=8 * k:=by omega
      have e2:=Lib.hid (get_step (getI f k) (f k) k (by omega) hb.1 hb.2 hy.1 hy.2)
      have hx:=HC.out k hlt
      have hy0:=hy.1
      have hy1:=hy.2
      clear hb hy
      go_wp2
      go_round
      case rel=>exact ⟨k + 1,by omega,by go_num,by rw [IntKind.wrap_u64,e2.out];rfl⟩
      case measure=>simp [intOf];omega
    · obtain rfl:k=len:=by omega
      go_wp2
      go_ret
      exact ⟨rfl,rfl⟩
end Go.Proofs.YtigliofiojkhcaaGreat
namespace Go.Proofs.YtigliofiojkhcaaGreat
open Go.RowKit
set_option linter.unusedVariables false
set_option maxRecDepth 100000
structure Src (W:World) (a:Option Addr) (len cap:Nat) (f:Nat → Int):Prop where
  le:len ≤ cap
  max:cap ≤ 9223372036854775807
  here:0 < len → ∃ B o,a=some ⟨B,o,none⟩ ∧ ∀ i,i < len → W.cell? ⟨B,o + i,none⟩=some (.int .u8 (f i))
  bytes:∀ i,i < len → 0 ≤ f i ∧ f i < 256
theorem Src.below {W w:World} {a:Option Addr} {len cap:Nat} {f:Nat → Int} (h:Src W a len cap f) (hb:Below W.heap.size W w):Src w a len cap f:=
  ⟨h.le,h.max,fun h0=>by
    obtain ⟨B,o,e,hc⟩:=h.here h0
    exact ⟨B,o,e,fun i hi=>(hb.cell (p:=⟨B,o + i,none⟩) (lt_of_cell (hc i hi))).trans (hc i hi)⟩,h.bytes⟩
def bytesOf (f:Nat → Int) (n:Nat):List Value:=(List.range n).map fun i=>.int .u8 (f i)
theorem bytesOf_length (f:Nat → Int) (n:Nat):(bytesOf f n).length=n:=by simp [bytesOf]
theorem bytesOf_get (f:Nat → Int) (n i:Nat) (h:i < n):(bytesOf f n)[i]?=some (.int .u8 (f i)):=by simp [bytesOf,h]
theorem bytesOf_one (f:Nat → Int) (n:Nat):∀ v ∈ bytesOf f n,v.oneCell'=true:=by
  intro v hv
  simp only [bytesOf,List.mem_map] at hv
  obtain ⟨i,_,rfl⟩:=hv
  rfl
theorem Src.cells {W:World} {a:Option Addr} {len cap:Nat} {f:Nat → Int} (h:Src W a len cap f) (n:Nat) (hn:n ≤ len) (h0:0 < n):∃ ad,a=some ad ∧ ∀ j v,(bytesOf f n)[j]?=some v → W.cell? (ad.add j)=some v:=by
  obtain ⟨B,o,e,hc⟩:=h.here (by omega)
  refine ⟨_,e,fun j v hv=>?_⟩
  have hj:j < n:=by have:=(List.getElem?_eq_some_iff.1 hv).1;rwa [bytesOf_length] at this
  rw [bytesOf_get f n j hj] at hv
  rw [Addr.add_mid,hc j (by omega)]
  exact hv
theorem info_u8n:(Tryz.prog.info? 5).map (·.size)=some 1:=by kernel_rfl
set_option maxHeartbeats 1000000 in
theorem fresh_any (a:Option Addr) (len cap:Nat) (f:Nat → Int) (W:World) (hs:Src W a len cap f) (hl:len ≤ 1000000):
    Calls Tryz.prog 61 #[.slice a len cap] W fun e w'=>e=.returned (.slice (some ⟨W.heap.size,0,none⟩) len len) ∧ Below W.heap.size W w' ∧ w'.rowIs W.heap.size 5 len (fun i=>.int .u8 (f i)):=by
  have hmk:=fun w=>run_make_row' (P:=Tryz.prog) 25 5 (.int .u8 0) 1 Tryz.underlying25 info_u8 rfl .i64 .i64 len (by omega) (by omega) w
  have h1:=hs.le
  have h2:=hs.max
  have HS:=Lib.hid hs;clear hs
  go_enter Tryz.func61,Tryz.ntmps61
  go_wp2_with (refine wpList_copy_is rfl _ _ 25 25 rfl 5 Tryz.underlying25 info_u8n (some ⟨W.heap.size,0,none⟩) a len len len cap rfl rfl W.heap.size 0 (madeCells #[.int .u8 0] len).toList 5 ?_ (bytesOf f len) ?_ ?_ ?_ (bytesOf_one f len) ?_;(focus (exact heap_last _ _ _ rfl));(focus (rw [bytesOf_length];exact (Nat.min_self _).symm));(focus (intro h0;rw [bytesOf_length] at h0;exact ⟨rfl,(HS.out.below (below_new (Below.refl _ _) _)).cells len (Nat.le_refl _) h0⟩));(focus (rw [bytesOf_length];simp [size_madeCells]));intro w1 s1)
  go_ret
  refine ⟨rfl,s1.below (below_new (Below.refl _ _) _) (Nat.le_refl _),_,s1.row,?_,fun i hi=>?_⟩
  · simp [length_splice,bytesOf_length,size_madeCells]
  · rw [List.getElem?_toArray,splice_get _ _ _ (by simp [bytesOf_length,size_madeCells]),if_neg (by omega),if_pos (by rw [bytesOf_length];omega)]
    exact bytesOf_get f len i hi
def MemS.list (S:MemS):List Value:=(List.range 587).map S.val
theorem MemS.list_length (S:MemS):S.list.length=587:=by simp [MemS.list]
theorem MemS.list_get (S:MemS) (i:Nat) (h:i < 587):S.list[i]?=some (S.val i):=by simp [MemS.list,h]
def blank (cb cn n:Nat) (hs:Bool):MemS:=⟨cb,cn,n,hs,fun _=>0⟩
def MemS.put (S:MemS) (o n:Nat) (f:Nat → Int):MemS:={ S with g:=fun j=>if o ≤ j ∧ j < o + n then f (j - o) else S.g j }
def InBytes (o n:Nat):Prop:=1 ≤ o ∧ o + n ≤ 257 ∨ 258 ≤ o ∧ o + n ≤ 586
theorem MemS.put_list (S:MemS) (o n:Nat) (f:Nat → Int) (h:InBytes o n) (i:Nat) (hi:i < 587):(splice S.list o (bytesOf f n))[i]?=some ((S.put o n f).val i):=by
  unfold InBytes at h
  rw [splice_get _ _ _ (by rw [bytesOf_length,S.list_length];omega),bytesOf_length]
  by_cases h1:i < o
  · rw [if_pos h1,S.list_get i hi]
    have e:(S.put o n f).val i=S.val i:=by
      unfold MemS.val MemS.put
      simp only [if_neg (show ¬ (o ≤ i ∧ i < o + n) by omega)]
    rw [e]
  · rw [if_neg h1]
    by_cases h2:i < o + n
    · rw [if_pos h2,bytesOf_get _ _ _ (by omega)]
      unfold MemS.val MemS.put
      rw [if_neg (by omega),if_neg (by omega),if_neg (by omega)]
      simp only [if_pos (show o ≤ i ∧ i < o + n by omega)]
    · rw [if_neg h2,S.list_get i hi]
      have e:(S.put o n f).val i=S.val i:=by
        unfold MemS.val MemS.put
        simp only [if_neg (show ¬ (o ≤ i ∧ i < o + n) by omega)]
      rw [e]
theorem row_of_stored {S:MemS} {w w':World} {b o n:Nat} {f:Nat → Int} (s:Stored w b (splice S.list o (bytesOf f n)).toArray 111 w') (h:InBytes o n):w'.rowIs b 111 587 (S.put o n f).val:=
  ⟨_,s.row,by unfold InBytes at h;rw [List.size_toArray,length_splice _ _ _ (by rw [bytesOf_length,S.list_length];omega)];exact S.list_length,fun i hi=>by rw [List.getElem?_toArray];exact S.put_list o n f h i hi⟩
def newMem (cb cn n:Nat) (hs:Bool) (f:Nat → Int):MemS:=(blank cb cn n hs).put 1 n f
def NewIs (W:World) (cl:Nat) (cf:Nat → Int) (kl:Nat) (kf:Nat → Int) (st:Bool) (e:Ending) (w':World):Prop:=
  ∃ b cb,e=.returned (.tuple #[.pointer (some ⟨b,0,none⟩),.int .i64 0]) ∧ W.heap.size ≤ b ∧ W.heap.size ≤ cb ∧ Below W.heap.size W w' ∧
    (newMem cb kl cl st cf).at w' b ∧ w'.rowIs cb 5 kl (fun i=>.int .u8 (kf i))
theorem put_bytes {S:MemS} {o n:Nat} {f:Nat → Int} (h:∀ i,0 ≤ S.g i ∧ S.g i < 256) (hf:∀ i,i < n → 0 ≤ f i ∧ f i < 256):∀ i,0 ≤ (S.put o n f).g i ∧ (S.put o n f).g i < 256:=by
  intro i
  show 0 ≤ (if _ then _ else _:Int) ∧ (if _ then _ else _:Int) < _
  split
  · exact hf _ (by omega)
  · exact h i
set_option maxRecDepth 100000 in
set_option maxHeartbeats 1000000 in
theorem new_any (ca:Option Addr) (cl cc:Nat) (cf:Nat → Int) (ka:Option Addr) (kl kc:Nat) (kf:Nat → Int) (st:Bool) (W:World) (hc:Src W ca cl cc cf) (hk:Src W ka kl kc kf) (h1:cl ≤ 256) (h2:kl ≤ 16384):
    Calls Tryz.prog 26 #[.slice ca cl cc,.slice ka kl kc,.bool st] W (NewIs W cl cf kl kf st):=by
  have k1:(cl:Int) ≤ 256:=by omega
  have k2:(kl:Int) ≤ 16384:=by omega
  have HC:=Lib.hid hc;clear hc
  have HK:=Lib.hid hk;clear hk
  go_enter Tryz.func26,Tryz.ntmps26
  go_wp2_with fail
  refine (fresh_any ka kl kc kf _ HK.out (by omega)).mono ?_
  rintro e w1 ⟨rfl,b1,r1⟩
  have B1:=Lib.hid b1;have R1:=Lib.hid r1
  have lt1:=r1.lt
  clear b1 r1
  go_wp2_with (first | (refine wpList_build_is rfl 111 _ rfl (blank W.heap.size kl cl st).list.toArray (by kernel_rfl) ?_) | (refine wpList_copy_is rfl _ _ 25 25 rfl 5 Tryz.underlying25 info_u8n (some ⟨w1.heap.size,1,none⟩) ca 256 256 cl cc rfl rfl w1.heap.size 1 (blank W.heap.size kl cl st).list 111 ?_ (bytesOf cf cl) ?_ ?_ ?_ (bytesOf_one cf cl) ?_;(focus (exact heap_last _ _ _ rfl));(focus (rw [bytesOf_length];exact (Nat.min_eq_left h1).symm));(focus (intro h0;rw [bytesOf_length] at h0;exact ⟨rfl,((HC.out.below B1.out).below (below_new (Below.refl _ _) _)).cells cl (Nat.le_refl _) h0⟩));(focus (rw [bytesOf_length,MemS.list_length];omega));intro w2 s2))
  go_ret2
  refine ⟨w1.heap.size,W.heap.size,rfl,B1.out.size,Nat.le_refl _,s2.below (below_new B1.out _) B1.out.size,⟨row_of_stored s2 (by unfold InBytes;omega),h2,h1,by show W.heap.size ≠ _;omega,put_bytes (fun i=>⟨by show (0:Int) ≤ 0;omega,by show (0:Int) < 256;omega⟩) HC.out.bytes⟩,?_⟩
  exact R1.out.of_block ((s2.other _ (by omega)).trans (heap_past _ _ _ lt1))
end Go.Proofs.YtigliofiojkhcaaGreat
namespace Go.Proofs.YtigliofiojkhcaaGreat
open Go.RowKit
set_option linter.unusedVariables false
set_option maxRecDepth 100000
set_option maxHeartbeats 1000000 in
theorem read_miss (S:MemS) (b:Nat) (a:Int) (m:Nat) (W:World) (hS:S.at W b) (hm:szB m=true) (hidx:firstI (fun k=>rdB a m ((S.R b).st k) ((S.R b).sz k))=-1):
    Calls Tryz.prog 65 #[.pointer (some ⟨b,0,none⟩),.int .u64 a,.int .i64 m] W fun e w'=>e=.returned (.tuple #[.int .u64 0,.int .i64 20]) ∧ Below W.heap.size W w':=by
  have m8:=szB_le hm
  have HP:=Lib.hid (fun W h=>part_rd_miss S b a m W h hm hidx)
  clear hm hidx
  have m0:(0:Int) ≤ m:=by omega
  have m1:(m:Int) ≤ 8:=by omega
  have HS:=Lib.hid hS;clear hS m8
  go_enter Tryz.func65,Tryz.ntmps65
  go_wp2_with fail
  refine (HP.out _ (HS.out.below (below_new (Below.refl _ W) _))).mono ?_
  rintro e w1 ⟨rfl,b1⟩
  go_wp2
  go_ret2
  exact ⟨rfl,below_call (below_new (Below.refl _ W) _) b1⟩
set_option maxHeartbeats 1000000 in
theorem read_hit (S:MemS) (b:Nat) (a:Int) (m:Nat) (k q B o:Nat) (f:Nat → Int) (W:World) (hS:S.at W b) (hk:k < 5) (hm:szB m=true) (hq:offI a ((S.R b).st k)=q)
    (hidx:firstI (fun k=>rdB a m ((S.R b).st k) ((S.R b).sz k))=k) (hb:(S.R b).bp k=some ⟨B,o,none⟩) (hfit:q + m ≤ (S.R b).bl k)
    (hc:∀ i,i < m → W.cell? ⟨B,o + q + i,none⟩=some (.int .u8 (f i))) (hf:∀ i,i < m → 0 ≤ f i ∧ f i < 256):
    Calls Tryz.prog 65 #[.pointer (some ⟨b,0,none⟩),.int .u64 a,.int .i64 m] W fun e w'=>e=.returned (.tuple #[.int .u64 (getI f m),.int .i64 0]) ∧ Below W.heap.size W w':=by
  have m8:=szB_le hm
  have HP:=Lib.hid (fun W h=>part_rd_hit S b a m k q B o W h hk hm hq hidx hb hfit)
  clear hm hidx hq hb hfit
  have m0:(0:Int) ≤ m:=by omega
  have m1:(m:Int) ≤ 8:=by omega
  have HS:=Lib.hid hS;have HC:=Lib.hid hc;have HF:=Lib.hid hf;clear hS hc hf
  have m2:m ≤ 8:=by omega
  have M8:=Lib.hid m8;clear m8
  go_enter Tryz.func65,Tryz.ntmps65
  go_wp2_with fail
  refine (HP.out _ (HS.out.below (below_new (Below.refl _ W) _))).mono ?_
  rintro e w1 ⟨rfl,b1⟩
  have B1:=Lib.hid (below_call (below_new (Below.refl _ W) _) b1)
  clear b1
  go_wp2_with fail
  refine (get_few B (o + q) m m f _ m2 (Nat.le_refl _) (by omega) HF.out (fun i hi=>(B1.out.cell (p:=⟨B,o + q + i,none⟩) (lt_of_cell (HC.out i hi))).trans (HC.out i hi))).mono ?_
  rintro e w2 ⟨rfl,rfl⟩
  go_wp2
  go_ret2
  exact ⟨rfl,B1.out⟩
structure ChgAt (b:Nat) (W w:World):Prop where
  os:w.os=W.os
  tape:w.tape=W.tape
  output:w.output=W.output
  size:W.heap.size ≤ w.heap.size
  block:∀ k,k < W.heap.size → k ≠ b → w.heap[k]?=W.heap[k]?
theorem ChgAt.below {b B:Nat} {W0 W w:World} (h:ChgAt b W w) (h0:Below B W0 W) (hb:B ≤ b) (hB:B ≤ W.heap.size):Below B W0 w:=
  h0.trans ⟨h.os,h.tape,h.output,h.size,fun k hk=>h.block k (by omega) (by omega)⟩
theorem chg_of (b:Nat) {W w1 w:World} {cells:Array Value} {t:TypeId} (hb:Below W.heap.size W w1) (s:Stored w1 b cells t w):ChgAt b W w:=
  ⟨s.os.trans hb.os,s.tape.trans hb.tape,s.output.trans hb.output,by rw [s.size];exact hb.size,fun k hk hn=>(s.other k hn).trans (hb.block k hk)⟩
set_option maxHeartbeats 1000000 in
theorem write_miss (S:MemS) (b:Nat) (a v:Int) (m:Nat) (W:World) (hS:S.at W b) (hm:szB m=true) (hidx:firstI (fun k=>wrB a m ((S.R b).st k) ((S.R b).sz k) ((S.R b).fx k))=-1):
    Calls Tryz.prog 67 #[.pointer (some ⟨b,0,none⟩),.int .u64 a,.int .i64 m,.int .u64 v] W fun e w'=>e=.returned (.int .i64 20) ∧ Below W.heap.size W w':=by
  have m8:=szB_le hm
  have HP:=Lib.hid (fun W h=>part_wr_miss S b a m W h hm hidx)
  clear hm hidx
  have m0:(0:Int) ≤ m:=by omega
  have m1:(m:Int) ≤ 8:=by omega
  have HS:=Lib.hid hS;clear hS m8
  go_enter Tryz.func67,Tryz.ntmps67
  go_wp2_with fail
  refine (HP.out _ (HS.out.below (below_new (Below.refl _ W) _))).mono ?_
  rintro e w1 ⟨rfl,b1⟩
  go_wp2
  go_ret
  exact ⟨rfl,below_call (below_new (Below.refl _ W) _) b1⟩
theorem MemS.heap {S:MemS} {w:World} {b:Nat} (h:S.at w b):w.heap[b]?=some (.cells S.list.toArray 111 (0,0)):=by
  obtain ⟨c,hc,hn,hv⟩:=h.row
  have e:c=S.list.toArray:=by
    apply Array.ext_getElem?
    intro i
    have e2:S.list.toArray[i]?=S.list[i]?:=List.getElem?_toArray
    rw [e2]
    by_cases hi:i < 587
    · rw [hv i hi,S.list_get i hi]
    · rw [Array.getElem?_eq_none (by omega),List.getElem?_eq_none (by rw [S.list_length];omega)]
  rw [← e];exact hc
theorem byteI_bd (v:Int) (i:Nat):0 ≤ byteI v i ∧ byteI v i < 256:=by unfold byteI;omega
theorem row_cells {w:World} {z n:Nat} {t:TypeId} {f:Nat → Int} (h:w.rowIs z t n (fun i=>.int .u8 (f i))):∀ j v,(bytesOf f n)[j]?=some v → w.cell? ((⟨z,0,none⟩:Addr).add j)=some v:=by
  intro j v hv
  have hj:j < n:=by have:=(List.getElem?_eq_some_iff.1 hv).1;rwa [bytesOf_length] at this
  rw [bytesOf_get f n j hj] at hv
  rw [Addr.add_mid,Nat.zero_add,h.cell hj]
  exact hv
set_option maxRecDepth 100000 in
set_option maxHeartbeats 1000000 in
theorem write_hit (S:MemS) (b:Nat) (a v:Int) (m:Nat) (k q o:Nat) (W:World) (hS:S.at W b) (hk:k < 5) (hm:szB m=true) (hq:offI a ((S.R b).st k)=q)
    (hidx:firstI (fun k=>wrB a m ((S.R b).st k) ((S.R b).sz k) ((S.R b).fx k))=k) (hb:(S.R b).bp k=some ⟨b,o,none⟩) (hfit:q + m ≤ (S.R b).bl k)
    (hin:InBytes (o + q) m) (hv0:0 ≤ v) (hv1:v < 18446744073709551616):
    Calls Tryz.prog 67 #[.pointer (some ⟨b,0,none⟩),.int .u64 a,.int .i64 m,.int .u64 v] W fun e w'=>e=.returned (.int .i64 0) ∧ (S.put (o + q) m (byteI v)).at w' b ∧ ChgAt b W w':=by
  have m8:=szB_le hm
  have HP:=Lib.hid (fun W h=>part_wr_hit S b a m k q b o W h hk hm hq hidx hb hfit)
  have P:=fun W=>put_any v m hv0 hv1 W
  rw [show putN m=m by unfold putN;omega] at P
  have HQ:=Lib.hid P;clear P
  clear hm hidx hq hb hfit
  have m0:(0:Int) ≤ m:=by omega
  have m1:(m:Int) ≤ 8:=by omega
  have HS:=Lib.hid hS;have HI:=Lib.hid hin;clear hS hin
  have M8:=Lib.hid m8;clear m8
  go_enter Tryz.func67,Tryz.ntmps67
  go_wp2_with fail
  refine (HP.out _ (HS.out.below (below_new (Below.refl _ W) _))).mono ?_
  rintro e w1 ⟨rfl,b1⟩
  have B1:=Lib.hid (below_call (below_new (Below.refl _ W) _) b1)
  clear b1
  go_wp2_with fail
  refine (HQ.out _).mono ?_
  rintro e w2 ⟨rfl,b2,r2⟩
  have B2:=Lib.hid (below_call B1.out b2)
  have R2:=Lib.hid r2
  clear b2 r2
  go_wp2_with (refine wpList_copy_is rfl _ _ 25 25 rfl 5 Tryz.underlying25 info_u8n (some ⟨b,o + q,none⟩) (some ⟨w1.heap.size,0,none⟩) m m m m rfl rfl b (o + q) S.list 111 (MemS.heap (HS.out.below B2.out)) (bytesOf (byteI v) m) ?_ ?_ ?_ (bytesOf_one _ m) ?_;(focus (rw [bytesOf_length];exact (Nat.min_self _).symm));(focus (intro _;exact ⟨rfl,_,rfl,row_cells R2.out⟩));(focus (have h9:=HI.out;unfold InBytes at h9;rw [bytesOf_length,MemS.list_length];omega));intro w3 s3)
  go_ret
  exact ⟨rfl,⟨row_of_stored s3 HI.out,HS.out.cn,HS.out.n,HS.out.far,put_bytes HS.out.bytes (fun i hi=>byteI_bd v i)⟩,chg_of b B2.out s3⟩
end Go.Proofs.YtigliofiojkhcaaGreat
