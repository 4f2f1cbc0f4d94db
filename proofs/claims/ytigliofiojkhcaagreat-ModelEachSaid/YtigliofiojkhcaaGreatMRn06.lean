import Derived.Test.YtigliofiojkhcaaGreatMRn05
import Derived.Test.YtigliofiojkhcaaGreatMRn01
import Derived.Deep.QuietTactic
import Derived.BigQuiet
import Derived.Laws.EntriesVeiled
import Derived.Deep.OwnRows
import Derived.Laws.Rows
import Derived.Deep.RegionHeld3
import Derived.StillTailTactics
import Derived.RegionTactic
import Derived.ChangeAlike
set_option linter.unusedVariables false
set_option linter.unusedSimpArgs false
set_option linter.unnecessarySimpa false
namespace Go.Proofs.YtigliofiojkhcaaGreat
open Go.RowKit
set_option linter.unusedVariables false
set_option maxRecDepth 100000
def stkI (s:Bool):Int:=if s then 264 else 0
def placeCells (c k:Int) (z:Int):Array Value:=
  #[.int .u64 0,.int .u64 0,.bool false,.slice none 0 0,
    .int .u64 1048576,.int .u64 (limI k 16384),.bool true,.slice none 0 0,
    .int .u64 2097152,.int .u64 (limI c 256),.bool false,.slice none 0 0,
    .int .u64 3145728,.int .u64 64,.bool false,.slice none 0 0,
    .int .u64 4194304,.int .u64 z,.bool false,.slice none 0 0]
theorem info_regs:(Tryz.prog.info? 140).map (·.size)=some 20:=by kernel_rfl
theorem places_one (c k z:Int):(placeCells c k z).all (·.oneCell')=true:=by kernel_rfl
def zeroRegs:Array Value:=
  #[.int .u64 0,.int .u64 0,.bool false,.slice none 0 0,.int .u64 0,.int .u64 0,.bool false,.slice none 0 0,.int .u64 0,.int .u64 0,.bool false,.slice none 0 0,
    .int .u64 0,.int .u64 0,.bool false,.slice none 0 0,.int .u64 0,.int .u64 0,.bool false,.slice none 0 0]
set_option maxRecDepth 100000 in
set_option maxHeartbeats 1000000 in
theorem places_no (c k:Int) (W:World):
    Calls Tryz.prog 120 #[.int .i64 c,.int .i64 k,.bool false] W fun e w'=>e=.returned (.agg (placeCells c k 0)) ∧ Below W.heap.size W w':=by
  have hi:=Lib.hid (show (Tryz.prog.info? 140).map (·.size)=some (placeCells c k 0).size from info_regs)
  have h1:=Lib.hid (places_one c k 0)
  go_enter Tryz.func120,Tryz.ntmps120
  go_wp2_with (first | (go_at_call 121;refine (limited_any _ _ (by omega) (by omega) _).mono ?_;rintro e w' ⟨rfl,rfl⟩) | (refine wpList_build_is rfl 140 _ rfl (placeCells c k 0) (by kernel_rfl) ?_) | (refine halt_store 140 _ _ rfl ?_))
  refine ⟨?_,trivial⟩
  refine wpList_store_is rfl 140 _ _ rfl (W.heap.size + 1) (placeCells c k 0) rfl rfl 140 zeroRegs (heap_last _ _ _ (by rw [size_alloc])) hi.out rfl h1.out ?_
  intro w1 s1
  have r6:w1.heap[W.heap.size]?=some (.cells zeroRegs 140 (0,0)):=(s1.other _ (by omega)).trans ((heap_past _ _ _ (by rw [size_alloc];omega)).trans (heap_last _ _ _ rfl))
  have b1:Below W.heap.size W w1:=s1.below (((Below.refl _ _).alloc (Nat.le_refl _) _).alloc (by simp) _) (by omega)
  have S1:=Lib.hid s1;clear s1
  have R6:=Lib.hid r6;clear r6
  have B1:=Lib.hid b1;clear b1
  go_wp2_with (first | (refine wpList_load_row rfl 140 _ rfl (W.heap.size + 1) rfl 140 (placeCells c k 0) (0,0) _ S1.out.row Tryz.underlying140 rfl hi.out ?_) | (refine halt_store 140 _ _ rfl ?_))
  refine ⟨?_,trivial⟩
  refine wpList_store_is rfl 140 _ _ rfl W.heap.size (placeCells c k 0) rfl rfl 140 zeroRegs R6.out hi.out rfl h1.out ?_
  intro w2 s2
  have S2:=Lib.hid s2;clear s2
  go_wp2
  exact bodyPost_ret (v:=.agg (placeCells c k 0)) (results_cell_row rfl _ _ W.heap.size _ (placeCells c k 0) _ _ rfl S2.out.row Tryz.underlying140 rfl hi.out) rfl ⟨rfl,S2.out.below B1.out (Nat.le_refl _)⟩
set_option maxRecDepth 100000 in
set_option maxHeartbeats 1000000 in
theorem places_yes (c k:Int) (W:World):
    Calls Tryz.prog 120 #[.int .i64 c,.int .i64 k,.bool true] W fun e w'=>e=.returned (.agg (placeCells c k 264)) ∧ Below W.heap.size W w':=by
  have hi:=Lib.hid (show (Tryz.prog.info? 140).map (·.size)=some (placeCells c k 0).size from info_regs)
  have hi':=Lib.hid (show (Tryz.prog.info? 140).map (·.size)=some (placeCells c k 264).size from info_regs)
  have h1:=Lib.hid (places_one c k 0)
  have h1':=Lib.hid (places_one c k 264)
  go_enter Tryz.func120,Tryz.ntmps120
  go_wp2_with (first | (go_at_call 121;refine (limited_any _ _ (by omega) (by omega) _).mono ?_;rintro e w' ⟨rfl,rfl⟩) | (refine wpList_build_is rfl 140 _ rfl (placeCells c k 0) (by kernel_rfl) ?_) | (refine halt_store 140 _ _ rfl ?_))
  refine ⟨?_,trivial⟩
  refine wpList_store_is rfl 140 _ _ rfl (W.heap.size + 1) (placeCells c k 0) rfl rfl 140 zeroRegs (heap_last _ _ _ (by rw [size_alloc])) hi.out rfl h1.out ?_
  intro w1 s1
  have r6:w1.heap[W.heap.size]?=some (.cells zeroRegs 140 (0,0)):=(s1.other _ (by omega)).trans ((heap_past _ _ _ (by rw [size_alloc];omega)).trans (heap_last _ _ _ rfl))
  have b1:Below W.heap.size W w1:=s1.below (((Below.refl _ _).alloc (Nat.le_refl _) _).alloc (by simp) _) (by omega)
  have c17:w1.cell? ⟨W.heap.size + 1,17,none⟩=some (.int .u64 0):=s1.cell 17
  have f17:=s1.frozen 17
  have S1:=Lib.hid s1;clear s1
  have R6:=Lib.hid r6;clear r6
  have B1:=Lib.hid b1;clear b1
  have R7:=Lib.hid (show (w1.setCell ⟨W.heap.size + 1,17,none⟩ (.int .u64 264)).heap[W.heap.size + 1]?=some (.cells (placeCells c k 264) 140 (0,0)) from setCell_row S1.out.row 17 _)
  have R8:=Lib.hid (show (w1.setCell ⟨W.heap.size + 1,17,none⟩ (.int .u64 264)).heap[W.heap.size]?=some (.cells zeroRegs 140 (0,0)) from (setCell_past _ _ _ _ (by show W.heap.size ≠ W.heap.size + 1;omega)).trans R6.out)
  go_wp2_with (first | (refine wpList_load_row rfl 140 _ rfl (W.heap.size + 1) rfl 140 (placeCells c k 264) (0,0) _ R7.out Tryz.underlying140 rfl hi'.out ?_) | (refine halt_store 140 _ _ rfl ?_))
  refine ⟨?_,trivial⟩
  refine wpList_store_is rfl 140 _ _ rfl W.heap.size (placeCells c k 264) rfl rfl 140 zeroRegs R8.out hi'.out rfl h1'.out ?_
  intro w2 s2
  have S2:=Lib.hid s2;clear s2
  go_wp2
  exact bodyPost_ret (v:=.agg (placeCells c k 264)) (results_cell_row rfl _ _ W.heap.size _ (placeCells c k 264) _ _ rfl S2.out.row Tryz.underlying140 rfl hi'.out) rfl ⟨rfl,S2.out.below (B1.out.setCell (by simp) _) (Nat.le_refl _)⟩
theorem places_any (c k:Int) (s:Bool) (W:World):
    Calls Tryz.prog 120 #[.int .i64 c,.int .i64 k,.bool s] W fun e w'=>e=.returned (.agg (placeCells c k (stkI s))) ∧ Below W.heap.size W w':=by
  cases s
  · exact places_no c k W
  · exact places_yes c k W
end Go.Proofs.YtigliofiojkhcaaGreat
namespace Go.Proofs.YtigliofiojkhcaaGreat
open Go.RowKit
set_option linter.unusedVariables false
set_option maxRecDepth 100000
structure Regs where
  st:Nat → Int
  sz:Nat → Int
  fx:Nat → Bool
  bp:Nat → Option Addr
  bl:Nat → Nat
def Regs.cells (R:Regs) (k:Nat):List Value:=[.int .u64 (R.st k),.int .u64 (R.sz k),.bool (R.fx k),.slice (R.bp k) (R.bl k) (R.bl k)]
def Regs.at (R:Regs) (w:World) (g:Nat):Prop:=∀ k,k < 5 → w.rangeAt g (k * 4) (R.cells k)
def firstI (P:Nat → Bool):Int:=if P 0=true then 0 else if P 1=true then 1 else if P 2=true then 2 else if P 3=true then 3 else if P 4=true then 4 else -1
theorem firstI_none {P:Nat → Bool} (h:∀ j,j < 5 → P j=false):firstI P=-1:=by
  unfold firstI;simp [h 0 (by omega),h 1 (by omega),h 2 (by omega),h 3 (by omega),h 4 (by omega)]
theorem firstI_some {P:Nat → Bool} {k:Nat} (hk:k < 5) (h:∀ j,j < k → P j=false) (hP:P k=true):firstI P=k:=by
  have:k=0 ∨ k=1 ∨ k=2 ∨ k=3 ∨ k=4:=by omega
  rcases this with rfl | rfl | rfl | rfl | rfl
  · simp [firstI,hP]
  · simp [firstI,hP,h 0 (by omega)]
  · simp [firstI,hP,h 0 (by omega),h 1 (by omega)]
  · simp [firstI,hP,h 0 (by omega),h 1 (by omega),h 2 (by omega)]
  · simp [firstI,hP,h 0 (by omega),h 1 (by omega),h 2 (by omega),h 3 (by omega)]
theorem Regs.at_below {R:Regs} {W w:World} {g:Nat} (h:R.at W g) (hb:Below W.heap.size W w) (hg:g < W.heap.size):R.at w g:=fun k hk j v hv=>
  (hb.cell (p:=⟨g,k * 4 + j,none⟩) hg).trans (h k hk j v hv)
theorem info_reg:(Tryz.prog.info? 139).map (·.size)=some 4:=by kernel_rfl
set_option maxHeartbeats 1000000 in
theorem index_rd (a n:Int) (R:Regs) (g:Nat) (W:World) (hR:R.at W g) (hg:g < W.heap.size) (hz:∀ k,0 ≤ R.sz k ∧ R.sz k < 18446744073709551616):
    Calls Tryz.prog 115 #[.slice (some ⟨g,0,none⟩) 5 5,.func (.func 87) #[.agg #[.int .u64 a,.int .u64 n]] #[]] W fun e w'=>e=.returned (.int .i64 (firstI fun k=>rdB a n (R.st k) (R.sz k))) ∧ Below W.heap.size W w':=by
  have HR:=Lib.hid hR;clear hR
  have HZ:=Lib.hid hz;clear hz
  go_enter Tryz.func115,Tryz.ntmps115
  go_wp2
  go_loopw [8] (fun i wr=>∃ k:Nat,k ≤ 5 ∧ i=.int .i64 k ∧ Below W.heap.size W wr ∧ Hid (∀ j,j < k → (fun k=>rdB a n (R.st k) (R.sz k)) j=false)) (fun i _=>5 - (intOf i).toNat)
  case atStart=>exact ⟨0,by omega,rfl,Below.refl _ _,fun j hj=>absurd hj (by omega)⟩
  case round=>
    obtain ⟨k,hk,rfl,hB,hF⟩:=hrel
    by_cases hlt:k < 5
    · have HA:=Lib.hid (Regs.at_below HR.out hB hg k hlt)
      have HI:=Lib.hid (show (Tryz.prog.info? 139).map (·.size)=some (R.cells k).length from info_reg)
      cases hP:rdB a n (R.st k) (R.sz k)
      · go_wp2_with (first | (refine wpList_load_mid rfl 139 _ rfl g (k * 4) rfl (R.cells k) _ HA.out Tryz.underlying139 rfl HI.out ?_) | (go_at_call 87;refine (readable_any _ _ _ _ _ _ _ _ _ (HZ.out k).1 (HZ.out k).2).mono ?_;rintro e w1 ⟨rfl,b1⟩))
        go_roundw
        case rel=>exact ⟨k + 1,by omega,by go_num,hB.trans (b1.mono hB.size),fun j hj=>by
          by_cases e:j < k
          · exact hF.out j e
          · obtain rfl:j=k:=by omega
            exact hP⟩
        case measure=>simp [intOf];omega
      · have HE:=Lib.hid (firstI_some (P:=fun k=>rdB a n (R.st k) (R.sz k)) hlt hF.out hP)
        go_wp2_with (first | (refine wpList_load_mid rfl 139 _ rfl g (k * 4) rfl (R.cells k) _ HA.out Tryz.underlying139 rfl HI.out ?_) | (go_at_call 87;refine (readable_any _ _ _ _ _ _ _ _ _ (HZ.out k).1 (HZ.out k).2).mono ?_;rintro e w1 ⟨rfl,b1⟩))
        go_ret
        exact ⟨by rw [HE.out];rfl,hB.trans (b1.mono hB.size)⟩
    · obtain rfl:k=5:=by omega
      have HE:=Lib.hid (firstI_none hF.out)
      go_wp2
      go_ret
      exact ⟨by rw [HE.out];rfl,hB⟩
set_option maxHeartbeats 1000000 in
theorem index_wr (a n:Int) (R:Regs) (g:Nat) (W:World) (hR:R.at W g) (hg:g < W.heap.size) (hz:∀ k,0 ≤ R.sz k ∧ R.sz k < 18446744073709551616):
    Calls Tryz.prog 115 #[.slice (some ⟨g,0,none⟩) 5 5,.func (.func 89) #[.agg #[.int .u64 a,.int .u64 n]] #[]] W fun e w'=>e=.returned (.int .i64 (firstI fun k=>wrB a n (R.st k) (R.sz k) (R.fx k))) ∧ Below W.heap.size W w':=by
  have HR:=Lib.hid hR;clear hR
  have HZ:=Lib.hid hz;clear hz
  go_enter Tryz.func115,Tryz.ntmps115
  go_wp2
  go_loopw [8] (fun i wr=>∃ k:Nat,k ≤ 5 ∧ i=.int .i64 k ∧ Below W.heap.size W wr ∧ Hid (∀ j,j < k → (fun k=>wrB a n (R.st k) (R.sz k) (R.fx k)) j=false)) (fun i _=>5 - (intOf i).toNat)
  case atStart=>exact ⟨0,by omega,rfl,Below.refl _ _,fun j hj=>absurd hj (by omega)⟩
  case round=>
    obtain ⟨k,hk,rfl,hB,hF⟩:=hrel
    by_cases hlt:k < 5
    · have HA:=Lib.hid (Regs.at_below HR.out hB hg k hlt)
      have HI:=Lib.hid (show (Tryz.prog.info? 139).map (·.size)=some (R.cells k).length from info_reg)
      cases hP:wrB a n (R.st k) (R.sz k) (R.fx k)
      · go_wp2_with (first | (refine wpList_load_mid rfl 139 _ rfl g (k * 4) rfl (R.cells k) _ HA.out Tryz.underlying139 rfl HI.out ?_) | (go_at_call 89;refine (writable_any _ _ _ _ _ _ _ _ _ (HZ.out k).1 (HZ.out k).2).mono ?_;rintro e w1 ⟨rfl,b1⟩))
        go_roundw
        case rel=>exact ⟨k + 1,by omega,by go_num,hB.trans (b1.mono hB.size),fun j hj=>by
          by_cases e:j < k
          · exact hF.out j e
          · obtain rfl:j=k:=by omega
            exact hP⟩
        case measure=>simp [intOf];omega
      · have HE:=Lib.hid (firstI_some (P:=fun k=>wrB a n (R.st k) (R.sz k) (R.fx k)) hlt hF.out hP)
        go_wp2_with (first | (refine wpList_load_mid rfl 139 _ rfl g (k * 4) rfl (R.cells k) _ HA.out Tryz.underlying139 rfl HI.out ?_) | (go_at_call 89;refine (writable_any _ _ _ _ _ _ _ _ _ (HZ.out k).1 (HZ.out k).2).mono ?_;rintro e w1 ⟨rfl,b1⟩))
        go_ret
        exact ⟨by rw [HE.out];rfl,hB.trans (b1.mono hB.size)⟩
    · obtain rfl:k=5:=by omega
      have HE:=Lib.hid (firstI_none hF.out)
      go_wp2
      go_ret
      exact ⟨by rw [HE.out];rfl,hB⟩
end Go.Proofs.YtigliofiojkhcaaGreat
namespace Go.Proofs.YtigliofiojkhcaaGreat
open Go.RowKit
set_option linter.unusedVariables false
set_option maxRecDepth 100000
theorem info_bs:(Tryz.prog.info? 25).map (·.size)=some 1:=by kernel_rfl
theorem heap_drew (w:World) (k:Nat):w.drew.heap[k]?=w.heap[k]?:=rfl
structure MemS where
  cb:Nat
  cn:Nat
  n:Nat
  hs:Bool
  g:Nat → Int
def MemS.val (S:MemS) (i:Nat):Value:=
  if i=0 then .slice (some ⟨S.cb,0,none⟩) S.cn S.cn else if i=257 then .int .i64 S.n else if i=586 then .bool S.hs else .int .u8 (S.g i)
structure MemS.at (S:MemS) (w:World) (b:Nat):Prop where
  row:w.rowIs b 111 587 S.val
  cn:S.cn ≤ 16384
  n:S.n ≤ 256
  far:S.cb ≠ b
  bytes:∀ i,0 ≤ S.g i ∧ S.g i < 256
def MemS.regs (S:MemS) (b:Nat):Array Value:=
  #[.int .u64 0,.int .u64 0,.bool false,.slice none 0 0,
    .int .u64 1048576,.int .u64 (limI S.cn 16384),.bool true,.slice (some ⟨S.cb,0,none⟩) S.cn S.cn,
    .int .u64 2097152,.int .u64 (limI S.n 256),.bool false,.slice (some ⟨b,1,none⟩) S.n S.n,
    .int .u64 3145728,.int .u64 64,.bool false,.slice (some ⟨b,258,none⟩) 64 64,
    .int .u64 4194304,.int .u64 (stkI S.hs),.bool false,.slice (some ⟨b,322,none⟩) 264 264]
theorem regs_one (S:MemS) (b:Nat):(S.regs b).all (·.oneCell')=true:=by kernel_rfl
theorem MemS.keep {S:MemS} {W w:World} {b:Nat} (h:S.at W b) (hB:Below W.heap.size W w):w.cell? ⟨b,0,none⟩=some (.slice (some ⟨S.cb,0,none⟩) S.cn S.cn) ∧ w.cell? ⟨b,257,none⟩=some (.int .i64 S.n) ∧ w.cell? ⟨b,586,none⟩=some (.bool S.hs) ∧ Below W.heap.size W w:=
  ⟨(hB.cell (p:=⟨b,0,none⟩) h.row.lt).trans (h.row.cell (i:=0) (by omega)),(hB.cell (p:=⟨b,257,none⟩) h.row.lt).trans (h.row.cell (i:=257) (by omega)),(hB.cell (p:=⟨b,586,none⟩) h.row.lt).trans (h.row.cell (i:=586) (by omega)),hB⟩
set_option maxRecDepth 100000 in
set_option maxHeartbeats 1000000 in
theorem regions_any (S:MemS) (b:Nat) (W:World) (hS:S.at W b):
    Calls Tryz.prog 114 #[.pointer (some ⟨b,0,none⟩)] W fun e w'=>e=.returned (.agg (S.regs b)) ∧ Below W.heap.size W w':=by
  have c0:W.cell? ⟨b,0,none⟩=some (.slice (some ⟨S.cb,0,none⟩) S.cn S.cn):=hS.row.cell (i:=0) (by omega)
  have c257:W.cell? ⟨b,257,none⟩=some (.int .i64 S.n):=hS.row.cell (i:=257) (by omega)
  have c586:W.cell? ⟨b,586,none⟩=some (.bool S.hs):=hS.row.cell (i:=586) (by omega)
  have lb:=hS.row.lt
  have hn:(S.n:Int) ≤ 256:=by have:=hS.n;omega
  have hi:=Lib.hid (show (Tryz.prog.info? 140).map (·.size)=some (placeCells S.n S.cn (stkI S.hs)).size from info_regs)
  have h1:=Lib.hid (places_one S.n S.cn (stkI S.hs))
  have HS:=Lib.hid hS;clear hS
  go_enter Tryz.func114,Tryz.ntmps114
  go_wp2_with fail
  go_region_held3 (fun w'=>w'.cell? ⟨b,0,none⟩=some (.slice (some ⟨S.cb,0,none⟩) S.cn S.cn) ∧ w'.cell? ⟨b,257,none⟩=some (.int .i64 S.n) ∧ w'.cell? ⟨b,586,none⟩=some (.bool S.hs) ∧ Below W.heap.size W w')
    ((go_split_ands;refine MemS.keep HS.out ?_;repeat' (first | assumption | exact Below.refl _ _ | apply Below.drew | apply below_new | exact below_call (by assumption) b1 | (refine below_call ?_ b1) | (refine Stored.below s2 ?_ ?_) | (simp;done) | (have:=b1.size;simp at this ⊢;omega))))
    (first | (go_at_call 120;refine (places_any _ _ _ _).mono ?_;rintro e w1 ⟨rfl,b1⟩) | (refine upon_store_is _ (placeCells S.n S.cn (stkI S.hs)) 140 zeroRegs ?_ rfl h1.out ?_;(focus (first | exact heap_last _ _ _ rfl | exact (b1.block _ (by simp)).trans ((heap_drew _ _).trans (heap_last _ _ _ (by simp)))));intro w2 s2))
  · obtain ⟨d0,d257,d586,b2⟩:=(by assumption:_ ∧ _ ∧ _ ∧ Below W.heap.size W w2)
    have hGW:W.heap.size < w1.heap.size:=by have:=b1.size;simp at this;omega
    have r6:w2.heap[W.heap.size]?=some (.cells zeroRegs 140 (0,0)):=(s2.other _ (by omega)).trans ((heap_past _ _ _ hGW).trans ((b1.block _ (by simp)).trans ((heap_drew _ _).trans (heap_last _ _ _ rfl))))
    generalize hG:w1.heap.size=G at *
    have hG':=Lib.hid hG;clear hG
    have R2:=Lib.hid s2.row;clear s2
    have B2:=Lib.hid b2;clear b2
    have B1:=Lib.hid b1;clear b1
    have R6:=Lib.hid r6;clear r6
    clear c0 c257 c586
    go_wp2_with (refine halt_store 25 _ _ rfl ?_)
    refine ⟨?_,trivial⟩
    refine wpList_store_cell rfl 25 _ _ rfl G 7 _ rfl rfl rfl rfl 140 _ R2.out info_bs (by show 7 < 20;omega) ?_
    intro w3 s3
    clear d0 d257 d586
    obtain ⟨d0,d257,d586,b3⟩:=MemS.keep HS.out (s3.below B2.out (by omega))
    have R3:=Lib.hid s3.row
    have R6':=Lib.hid ((s3.other _ (by omega)).trans R6.out)
    clear s3
    have B3:=Lib.hid b3;clear b3
    go_wp2_with fail
    go_still_tail 14,(by kernel_rfl)
    have D3:=Lib.hid R3.out
    go_wp2_with (refine halt_store 25 _ _ rfl ?_)
    refine ⟨?_,trivial⟩
    refine wpList_store_cell rfl 25 _ _ rfl G 11 _ rfl rfl rfl rfl 140 _ R3.out info_bs (by show 11 < 20;omega) ?_
    intro w4 s4
    clear d0 d257 d586
    obtain ⟨d0,d257,d586,b4⟩:=MemS.keep HS.out (s4.below (Below.drew B3.out) (by omega))
    have R4:=Lib.hid s4.row
    have R6'':=Lib.hid ((s4.other _ (by omega)).trans R6'.out)
    clear s4
    have B4:=Lib.hid b4;clear b4
    go_wp2_with (refine halt_store 25 _ _ rfl ?_)
    refine ⟨?_,trivial⟩
    refine wpList_store_cell rfl 25 _ _ rfl G 15 _ rfl rfl rfl rfl 140 _ R4.out info_bs (by show 15 < 20;omega) ?_
    intro w5 s5
    clear d0 d257 d586
    obtain ⟨d0,d257,d586,b5⟩:=MemS.keep HS.out (s5.below B4.out (by omega))
    have R5:=Lib.hid s5.row
    have R6a:=Lib.hid ((s5.other _ (by omega)).trans R6''.out)
    clear s5
    have B5:=Lib.hid b5;clear b5
    go_wp2_with (refine halt_store 25 _ _ rfl ?_)
    refine ⟨?_,trivial⟩
    refine wpList_store_cell rfl 25 _ _ rfl G 19 _ rfl rfl rfl rfl 140 _ R5.out info_bs (by show 19 < 20;omega) ?_
    intro w6 s6
    have R7:=Lib.hid (show w6.heap[G]?=some (.cells (S.regs b) 140 (0,0)) from s6.row)
    have R6b:=Lib.hid ((s6.other _ (by omega)).trans R6a.out)
    have B6:=Lib.hid (s6.below B5.out (by omega))
    clear s6 d0 d257 d586
    have hi':=Lib.hid (show (Tryz.prog.info? 140).map (·.size)=some (S.regs b).size from info_regs)
    go_wp2_with (first | (refine wpList_load_row rfl 140 _ rfl G rfl 140 (S.regs b) (0,0) _ R7.out Tryz.underlying140 rfl hi'.out ?_) | (refine halt_store 140 _ _ rfl ?_))
    refine ⟨?_,trivial⟩
    refine wpList_store_is rfl 140 _ _ rfl W.heap.size (S.regs b) rfl rfl 140 zeroRegs R6b.out hi'.out rfl (regs_one S b) ?_
    intro w7 s7
    have S7:=Lib.hid s7;clear s7
    go_wp2
    exact bodyPost_ret (v:=.agg (S.regs b)) (results_cell_row rfl _ _ W.heap.size _ (S.regs b) _ _ rfl S7.out.row Tryz.underlying140 rfl hi'.out) rfl ⟨rfl,S7.out.below B6.out (Nat.le_refl _)⟩
  · obtain ⟨d0,d257,d586,b2⟩:=(by assumption:_ ∧ _ ∧ _ ∧ Below W.heap.size W w2)
    have r6:w2.heap[W.heap.size]?=some (.cells zeroRegs 140 (0,0)):=(s2.other _ (by omega)).trans ((b1.block _ (by simp;omega)).trans ((heap_drew _ _).trans ((heap_past _ _ _ (by simp)).trans (heap_last _ _ _ rfl))))
    have hGW:W.heap.size < W.heap.size + 1:=by omega
    generalize hG:W.heap.size + 1=G at *
    have hG':=Lib.hid hG;clear hG
    have R2:=Lib.hid s2.row;clear s2
    have B2:=Lib.hid b2;clear b2
    have B1:=Lib.hid b1;clear b1
    have R6:=Lib.hid r6;clear r6
    clear c0 c257 c586
    go_wp2_with (refine halt_store 25 _ _ rfl ?_)
    refine ⟨?_,trivial⟩
    refine wpList_store_cell rfl 25 _ _ rfl G 7 _ rfl rfl rfl rfl 140 _ R2.out info_bs (by show 7 < 20;omega) ?_
    intro w3 s3
    clear d0 d257 d586
    obtain ⟨d0,d257,d586,b3⟩:=MemS.keep HS.out (s3.below B2.out (by omega))
    have R3:=Lib.hid s3.row
    have R6':=Lib.hid ((s3.other _ (by omega)).trans R6.out)
    clear s3
    have B3:=Lib.hid b3;clear b3
    go_wp2_with fail
    go_still_tail 14,(by kernel_rfl)
    have D3:=Lib.hid R3.out
    go_wp2_with (refine halt_store 25 _ _ rfl ?_)
    refine ⟨?_,trivial⟩
    refine wpList_store_cell rfl 25 _ _ rfl G 11 _ rfl rfl rfl rfl 140 _ R3.out info_bs (by show 11 < 20;omega) ?_
    intro w4 s4
    clear d0 d257 d586
    obtain ⟨d0,d257,d586,b4⟩:=MemS.keep HS.out (s4.below (Below.drew B3.out) (by omega))
    have R4:=Lib.hid s4.row
    have R6'':=Lib.hid ((s4.other _ (by omega)).trans R6'.out)
    clear s4
    have B4:=Lib.hid b4;clear b4
    go_wp2_with (refine halt_store 25 _ _ rfl ?_)
    refine ⟨?_,trivial⟩
    refine wpList_store_cell rfl 25 _ _ rfl G 15 _ rfl rfl rfl rfl 140 _ R4.out info_bs (by show 15 < 20;omega) ?_
    intro w5 s5
    clear d0 d257 d586
    obtain ⟨d0,d257,d586,b5⟩:=MemS.keep HS.out (s5.below B4.out (by omega))
    have R5:=Lib.hid s5.row
    have R6a:=Lib.hid ((s5.other _ (by omega)).trans R6''.out)
    clear s5
    have B5:=Lib.hid b5;clear b5
    go_wp2_with (refine halt_store 25 _ _ rfl ?_)
    refine ⟨?_,trivial⟩
    refine wpList_store_cell rfl 25 _ _ rfl G 19 _ rfl rfl rfl rfl 140 _ R5.out info_bs (by show 19 < 20;omega) ?_
    intro w6 s6
    have R7:=Lib.hid (show w6.heap[G]?=some (.cells (S.regs b) 140 (0,0)) from s6.row)
    have R6b:=Lib.hid ((s6.other _ (by omega)).trans R6a.out)
    have B6:=Lib.hid (s6.below B5.out (by omega))
    clear s6 d0 d257 d586
    have hi':=Lib.hid (show (Tryz.prog.info? 140).map (·.size)=some (S.regs b).size from info_regs)
    go_wp2_with (first | (refine wpList_load_row rfl 140 _ rfl G rfl 140 (S.regs b) (0,0) _ R7.out Tryz.underlying140 rfl hi'.out ?_) | (refine halt_store 140 _ _ rfl ?_))
    refine ⟨?_,trivial⟩
    refine wpList_store_is rfl 140 _ _ rfl W.heap.size (S.regs b) rfl rfl 140 zeroRegs R6b.out hi'.out rfl (regs_one S b) ?_
    intro w7 s7
    have S7:=Lib.hid s7;clear s7
    go_wp2
    exact bodyPost_ret (v:=.agg (S.regs b)) (results_cell_row rfl _ _ W.heap.size _ (S.regs b) _ _ rfl S7.out.row Tryz.underlying140 rfl hi'.out) rfl ⟨rfl,S7.out.below B6.out (Nat.le_refl _)⟩
end Go.Proofs.YtigliofiojkhcaaGreat
