import Derived.Test.YtjhedldplmhmjaaGreatDoorETe27
import Derived.BigRegion
set_option maxHeartbeats 2000000
set_option linter.unusedVariables false
set_option linter.unusedSimpArgs false
set_option linter.unnecessarySimpa false
namespace Go.Proofs.YtjhedldplmhmjaaGreatDoor.Exe
open Go Go.RowKit
open Mrm (Xi xC zX mayX bytesX)
open Flg (Fl fC zF addF subF ofF holF holE mayC)
set_option maxRecDepth 100000
theorem ex_cell {s:Ex}{W:World}{g:Nat}(h:W.heap[g]?=some (.cells (exC s) 48 (0,0)))(i:Nat){v:Value}(hv:(exC s)[i]?=some v):W.cell? ⟨g,i,none⟩=some v:=by
 simp only [World.cell?,h];exact hv
theorem ex_row {s t:Ex}{W:World}{g i:Nat}{v:Value}(h:W.heap[g]?=some (.cells (exC s) 48 (0,0)))(hv:(exC s).setIfInBounds i v=exC t):(W.setCell ⟨g,i,none⟩ v).heap[g]?=some (.cells (exC t) 48 (0,0)):=by
 rw [setCell_row h i v,hv]
theorem ex_frozen {s:Ex}{W:World}{g:Nat}(h:W.heap[g]?=some (.cells (exC s) 48 (0,0)))(i:Nat):W.frozen? ⟨g,i,none⟩=false:=by simp [World.frozen?,h]
theorem But.set (w:World)(g i:Nat)(v:Value):But g w (w.setCell ⟨g,i,none⟩ v):=⟨rfl,rfl,rfl,by rw [Deep.nblk_setCell];exact Nat.le_refl _,fun k _ hne=>setCell_past _ _ _ _ hne⟩
theorem But.drew {g:Nat}{W w:World}(h:But g W w):But g W w.drew:=⟨h.os,h.tape,h.output,h.size,h.block⟩
theorem answer_m (s:Ex)(g:Nat)(v:Int)(W:World)(hr:W.heap[g]?=some (.cells (exC s) 48 (0,0))):Calls Tryz.prog 57 #[.pointer (some ⟨g,0,none⟩),.int .u64 v] W (RetT (.int .i64 0) (exC (((s.upR 0 v).upR 1 0).upR 11 0)) 48 g W):=by
 have c0:=ex_cell hr 0 (exC_reg s (j:=0) (by decide))
 have c1:=ex_cell hr 1 (exC_reg s (j:=1) (by decide))
 have c11:=ex_cell hr 11 (exC_reg s (j:=11) (by decide))
 have f0:=ex_frozen hr 0
 have f1:=ex_frozen hr 1
 have f11:=ex_frozen hr 11
 have R:=Lib.hid (ex_row (ex_row (ex_row hr (exC_set s (j:=0) (by decide) v)) (exC_set _ (j:=1) (by decide) 0)) (exC_set _ (j:=11) (by decide) 0))
 have B:=Lib.hid (((But.set W g 0 (.int .u64 v)).trans (But.set _ g 1 (.int .u64 0))).trans (But.set _ g 11 (.int .u64 0)))
 clear hr
 go_enter Tryz.func57,Tryz.ntmps57
 go_wp2_with fail
 go_region
 go_wp2_with fail
 go_ret
 exact ⟨rfl,B.out.drew,R.out⟩
theorem operand_0 (s:Ex)(g:Nat)(W:World)(hr:W.heap[g]?=some (.cells (exC s) 48 (0,0)))(hs:0≤s.x.src∧s.x.src<16)(hO:s.x.op=0):Calls Tryz.prog 58 #[.pointer (some ⟨g,0,none⟩)] W fun e w'=>e=.returned (.int .u64 (s.m.r s.x.src.toNat))∧Below W.heap.size W w':=by
 have co:W.cell? ⟨g,22,none⟩=some (.int .i8 s.x.op):=ex_cell hr 22 rfl
 rw [hO] at co
 have c3:W.cell? ⟨g,25,none⟩=some (.int .i8 s.x.src):=ex_cell hr 25 rfl
 have c:=ex_cell hr s.x.src.toNat (exC_reg s (by omega))
 generalize s.m.r s.x.src.toNat=v at *
 generalize s.x.src=n at *
 obtain ⟨n,rfl⟩:=Int.eq_ofNat_of_zero_le hs.1
 rw [Int.toNat_natCast] at c
 have hs2:(n:Int)<16:=hs.2
 have hs3:n<16:=by omega
 clear hs
 clear hr hO
 go_enter Tryz.func58,Tryz.ntmps58
 go_wp2_with fail
 go_quiet (fail)
 go_wp2_with fail
 go_ret
 exact ⟨rfl,below_drewN (Below.refl _ W) _⟩
theorem operand_1 (s:Ex)(g:Nat)(W:World)(hr:W.heap[g]?=some (.cells (exC s) 48 (0,0)))(hs:0≤s.x.src∧s.x.src<16)(hO:s.x.op=1):Calls Tryz.prog 58 #[.pointer (some ⟨g,0,none⟩)] W fun e w'=>e=.returned (.int .u64 (IntKind.u64.wrap s.x.imm))∧Below W.heap.size W w':=by
 have co:W.cell? ⟨g,22,none⟩=some (.int .i8 s.x.op):=ex_cell hr 22 rfl
 rw [hO] at co
 have c:W.cell? ⟨g,28,none⟩=some (.int .i64 s.x.imm):=ex_cell hr 28 rfl
 generalize s.x.imm=v at *
 rw [IntKind.wrap_u64]
 clear hr hO hs
 go_enter Tryz.func58,Tryz.ntmps58
 go_wp2
 go_ret
 exact ⟨rfl,Below.refl _ _⟩
theorem operand_2 (s:Ex)(g:Nat)(W:World)(hr:W.heap[g]?=some (.cells (exC s) 48 (0,0)))(hs:0≤s.x.src∧s.x.src<16)(hO:s.x.op=2):Calls Tryz.prog 58 #[.pointer (some ⟨g,0,none⟩)] W fun e w'=>e=.returned (.int .u64 (s.m.r s.x.src.toNat))∧Below W.heap.size W w':=by
 have co:W.cell? ⟨g,22,none⟩=some (.int .i8 s.x.op):=ex_cell hr 22 rfl
 rw [hO] at co
 have c3:W.cell? ⟨g,25,none⟩=some (.int .i8 s.x.src):=ex_cell hr 25 rfl
 have c:=ex_cell hr s.x.src.toNat (exC_reg s (by omega))
 generalize s.m.r s.x.src.toNat=v at *
 generalize s.x.src=n at *
 obtain ⟨n,rfl⟩:=Int.eq_ofNat_of_zero_le hs.1
 rw [Int.toNat_natCast] at c
 have hs2:(n:Int)<16:=hs.2
 have hs3:n<16:=by omega
 clear hs
 clear hr hO
 go_enter Tryz.func58,Tryz.ntmps58
 go_wp2_with fail
 go_quiet (fail)
 go_wp2_with fail
 go_ret
 exact ⟨rfl,below_drewN (Below.refl _ W) _⟩
theorem operand_3 (s:Ex)(g:Nat)(W:World)(hr:W.heap[g]?=some (.cells (exC s) 48 (0,0)))(hs:0≤s.x.src∧s.x.src<16)(hO:s.x.op=3):Calls Tryz.prog 58 #[.pointer (some ⟨g,0,none⟩)] W fun e w'=>e=.returned (.int .u64 (s.m.r s.x.src.toNat))∧Below W.heap.size W w':=by
 have co:W.cell? ⟨g,22,none⟩=some (.int .i8 s.x.op):=ex_cell hr 22 rfl
 rw [hO] at co
 have c3:W.cell? ⟨g,25,none⟩=some (.int .i8 s.x.src):=ex_cell hr 25 rfl
 have c:=ex_cell hr s.x.src.toNat (exC_reg s (by omega))
 generalize s.m.r s.x.src.toNat=v at *
 generalize s.x.src=n at *
 obtain ⟨n,rfl⟩:=Int.eq_ofNat_of_zero_le hs.1
 rw [Int.toNat_natCast] at c
 have hs2:(n:Int)<16:=hs.2
 have hs3:n<16:=by omega
 clear hs
 clear hr hO
 go_enter Tryz.func58,Tryz.ntmps58
 go_wp2_with fail
 go_quiet (fail)
 go_wp2_with fail
 go_ret
 exact ⟨rfl,below_drewN (Below.refl _ W) _⟩
theorem operand_4 (s:Ex)(g:Nat)(W:World)(hr:W.heap[g]?=some (.cells (exC s) 48 (0,0)))(hs:0≤s.x.src∧s.x.src<16)(hO:s.x.op=4):Calls Tryz.prog 58 #[.pointer (some ⟨g,0,none⟩)] W fun e w'=>e=.returned (.int .u64 (s.m.r s.x.src.toNat))∧Below W.heap.size W w':=by
 have co:W.cell? ⟨g,22,none⟩=some (.int .i8 s.x.op):=ex_cell hr 22 rfl
 rw [hO] at co
 have c3:W.cell? ⟨g,25,none⟩=some (.int .i8 s.x.src):=ex_cell hr 25 rfl
 have c:=ex_cell hr s.x.src.toNat (exC_reg s (by omega))
 generalize s.m.r s.x.src.toNat=v at *
 generalize s.x.src=n at *
 obtain ⟨n,rfl⟩:=Int.eq_ofNat_of_zero_le hs.1
 rw [Int.toNat_natCast] at c
 have hs2:(n:Int)<16:=hs.2
 have hs3:n<16:=by omega
 clear hs
 clear hr hO
 go_enter Tryz.func58,Tryz.ntmps58
 go_wp2_with fail
 go_quiet (fail)
 go_wp2_with fail
 go_ret
 exact ⟨rfl,below_drewN (Below.refl _ W) _⟩
theorem operand_5 (s:Ex)(g:Nat)(W:World)(hr:W.heap[g]?=some (.cells (exC s) 48 (0,0)))(hs:0≤s.x.src∧s.x.src<16)(hO:s.x.op=5):Calls Tryz.prog 58 #[.pointer (some ⟨g,0,none⟩)] W fun e w'=>e=.returned (.int .u64 (s.m.r s.x.src.toNat))∧Below W.heap.size W w':=by
 have co:W.cell? ⟨g,22,none⟩=some (.int .i8 s.x.op):=ex_cell hr 22 rfl
 rw [hO] at co
 have c3:W.cell? ⟨g,25,none⟩=some (.int .i8 s.x.src):=ex_cell hr 25 rfl
 have c:=ex_cell hr s.x.src.toNat (exC_reg s (by omega))
 generalize s.m.r s.x.src.toNat=v at *
 generalize s.x.src=n at *
 obtain ⟨n,rfl⟩:=Int.eq_ofNat_of_zero_le hs.1
 rw [Int.toNat_natCast] at c
 have hs2:(n:Int)<16:=hs.2
 have hs3:n<16:=by omega
 clear hs
 clear hr hO
 go_enter Tryz.func58,Tryz.ntmps58
 go_wp2_with fail
 go_quiet (fail)
 go_wp2_with fail
 go_ret
 exact ⟨rfl,below_drewN (Below.refl _ W) _⟩
theorem operand_6 (s:Ex)(g:Nat)(W:World)(hr:W.heap[g]?=some (.cells (exC s) 48 (0,0)))(hs:0≤s.x.src∧s.x.src<16)(hO:s.x.op=6):Calls Tryz.prog 58 #[.pointer (some ⟨g,0,none⟩)] W fun e w'=>e=.returned (.int .u64 (s.m.r s.x.src.toNat))∧Below W.heap.size W w':=by
 have co:W.cell? ⟨g,22,none⟩=some (.int .i8 s.x.op):=ex_cell hr 22 rfl
 rw [hO] at co
 have c3:W.cell? ⟨g,25,none⟩=some (.int .i8 s.x.src):=ex_cell hr 25 rfl
 have c:=ex_cell hr s.x.src.toNat (exC_reg s (by omega))
 generalize s.m.r s.x.src.toNat=v at *
 generalize s.x.src=n at *
 obtain ⟨n,rfl⟩:=Int.eq_ofNat_of_zero_le hs.1
 rw [Int.toNat_natCast] at c
 have hs2:(n:Int)<16:=hs.2
 have hs3:n<16:=by omega
 clear hs
 clear hr hO
 go_enter Tryz.func58,Tryz.ntmps58
 go_wp2_with fail
 go_quiet (fail)
 go_wp2_with fail
 go_ret
 exact ⟨rfl,below_drewN (Below.refl _ W) _⟩
theorem operand_7 (s:Ex)(g:Nat)(W:World)(hr:W.heap[g]?=some (.cells (exC s) 48 (0,0)))(hs:0≤s.x.src∧s.x.src<16)(hO:s.x.op=7):Calls Tryz.prog 58 #[.pointer (some ⟨g,0,none⟩)] W fun e w'=>e=.returned (.int .u64 (s.m.r s.x.src.toNat))∧Below W.heap.size W w':=by
 have co:W.cell? ⟨g,22,none⟩=some (.int .i8 s.x.op):=ex_cell hr 22 rfl
 rw [hO] at co
 have c3:W.cell? ⟨g,25,none⟩=some (.int .i8 s.x.src):=ex_cell hr 25 rfl
 have c:=ex_cell hr s.x.src.toNat (exC_reg s (by omega))
 generalize s.m.r s.x.src.toNat=v at *
 generalize s.x.src=n at *
 obtain ⟨n,rfl⟩:=Int.eq_ofNat_of_zero_le hs.1
 rw [Int.toNat_natCast] at c
 have hs2:(n:Int)<16:=hs.2
 have hs3:n<16:=by omega
 clear hs
 clear hr hO
 go_enter Tryz.func58,Tryz.ntmps58
 go_wp2_with fail
 go_quiet (fail)
 go_wp2_with fail
 go_ret
 exact ⟨rfl,below_drewN (Below.refl _ W) _⟩
theorem operand_8 (s:Ex)(g:Nat)(W:World)(hr:W.heap[g]?=some (.cells (exC s) 48 (0,0)))(hs:0≤s.x.src∧s.x.src<16)(hO:s.x.op=8):Calls Tryz.prog 58 #[.pointer (some ⟨g,0,none⟩)] W fun e w'=>e=.returned (.int .u64 (s.m.r s.x.src.toNat))∧Below W.heap.size W w':=by
 have co:W.cell? ⟨g,22,none⟩=some (.int .i8 s.x.op):=ex_cell hr 22 rfl
 rw [hO] at co
 have c3:W.cell? ⟨g,25,none⟩=some (.int .i8 s.x.src):=ex_cell hr 25 rfl
 have c:=ex_cell hr s.x.src.toNat (exC_reg s (by omega))
 generalize s.m.r s.x.src.toNat=v at *
 generalize s.x.src=n at *
 obtain ⟨n,rfl⟩:=Int.eq_ofNat_of_zero_le hs.1
 rw [Int.toNat_natCast] at c
 have hs2:(n:Int)<16:=hs.2
 have hs3:n<16:=by omega
 clear hs
 clear hr hO
 go_enter Tryz.func58,Tryz.ntmps58
 go_wp2_with fail
 go_quiet (fail)
 go_wp2_with fail
 go_ret
 exact ⟨rfl,below_drewN (Below.refl _ W) _⟩
theorem operand_9 (s:Ex)(g:Nat)(W:World)(hr:W.heap[g]?=some (.cells (exC s) 48 (0,0)))(hs:0≤s.x.src∧s.x.src<16)(hO:s.x.op=9):Calls Tryz.prog 58 #[.pointer (some ⟨g,0,none⟩)] W fun e w'=>e=.returned (.int .u64 (IntKind.u64.wrap s.x.imm))∧Below W.heap.size W w':=by
 have co:W.cell? ⟨g,22,none⟩=some (.int .i8 s.x.op):=ex_cell hr 22 rfl
 rw [hO] at co
 have c:W.cell? ⟨g,28,none⟩=some (.int .i64 s.x.imm):=ex_cell hr 28 rfl
 generalize s.x.imm=v at *
 rw [IntKind.wrap_u64]
 clear hr hO hs
 go_enter Tryz.func58,Tryz.ntmps58
 go_wp2
 go_ret
 exact ⟨rfl,Below.refl _ _⟩
theorem operand_10 (s:Ex)(g:Nat)(W:World)(hr:W.heap[g]?=some (.cells (exC s) 48 (0,0)))(hs:0≤s.x.src∧s.x.src<16)(hO:s.x.op=10):Calls Tryz.prog 58 #[.pointer (some ⟨g,0,none⟩)] W fun e w'=>e=.returned (.int .u64 (IntKind.u64.wrap s.x.imm))∧Below W.heap.size W w':=by
 have co:W.cell? ⟨g,22,none⟩=some (.int .i8 s.x.op):=ex_cell hr 22 rfl
 rw [hO] at co
 have c:W.cell? ⟨g,28,none⟩=some (.int .i64 s.x.imm):=ex_cell hr 28 rfl
 generalize s.x.imm=v at *
 rw [IntKind.wrap_u64]
 clear hr hO hs
 go_enter Tryz.func58,Tryz.ntmps58
 go_wp2
 go_ret
 exact ⟨rfl,Below.refl _ _⟩
theorem operand_11 (s:Ex)(g:Nat)(W:World)(hr:W.heap[g]?=some (.cells (exC s) 48 (0,0)))(hs:0≤s.x.src∧s.x.src<16)(hO:s.x.op=11):Calls Tryz.prog 58 #[.pointer (some ⟨g,0,none⟩)] W fun e w'=>e=.returned (.int .u64 (IntKind.u64.wrap s.x.imm))∧Below W.heap.size W w':=by
 have co:W.cell? ⟨g,22,none⟩=some (.int .i8 s.x.op):=ex_cell hr 22 rfl
 rw [hO] at co
 have c:W.cell? ⟨g,28,none⟩=some (.int .i64 s.x.imm):=ex_cell hr 28 rfl
 generalize s.x.imm=v at *
 rw [IntKind.wrap_u64]
 clear hr hO hs
 go_enter Tryz.func58,Tryz.ntmps58
 go_wp2
 go_ret
 exact ⟨rfl,Below.refl _ _⟩
theorem operand_12 (s:Ex)(g:Nat)(W:World)(hr:W.heap[g]?=some (.cells (exC s) 48 (0,0)))(hs:0≤s.x.src∧s.x.src<16)(hO:s.x.op=12):Calls Tryz.prog 58 #[.pointer (some ⟨g,0,none⟩)] W fun e w'=>e=.returned (.int .u64 (IntKind.u64.wrap s.x.imm))∧Below W.heap.size W w':=by
 have co:W.cell? ⟨g,22,none⟩=some (.int .i8 s.x.op):=ex_cell hr 22 rfl
 rw [hO] at co
 have c:W.cell? ⟨g,28,none⟩=some (.int .i64 s.x.imm):=ex_cell hr 28 rfl
 generalize s.x.imm=v at *
 rw [IntKind.wrap_u64]
 clear hr hO hs
 go_enter Tryz.func58,Tryz.ntmps58
 go_wp2
 go_ret
 exact ⟨rfl,Below.refl _ _⟩
theorem operand_13 (s:Ex)(g:Nat)(W:World)(hr:W.heap[g]?=some (.cells (exC s) 48 (0,0)))(hs:0≤s.x.src∧s.x.src<16)(hO:s.x.op=13):Calls Tryz.prog 58 #[.pointer (some ⟨g,0,none⟩)] W fun e w'=>e=.returned (.int .u64 (IntKind.u64.wrap s.x.imm))∧Below W.heap.size W w':=by
 have co:W.cell? ⟨g,22,none⟩=some (.int .i8 s.x.op):=ex_cell hr 22 rfl
 rw [hO] at co
 have c:W.cell? ⟨g,28,none⟩=some (.int .i64 s.x.imm):=ex_cell hr 28 rfl
 generalize s.x.imm=v at *
 rw [IntKind.wrap_u64]
 clear hr hO hs
 go_enter Tryz.func58,Tryz.ntmps58
 go_wp2
 go_ret
 exact ⟨rfl,Below.refl _ _⟩
theorem operand_14 (s:Ex)(g:Nat)(W:World)(hr:W.heap[g]?=some (.cells (exC s) 48 (0,0)))(hs:0≤s.x.src∧s.x.src<16)(hO:s.x.op=14):Calls Tryz.prog 58 #[.pointer (some ⟨g,0,none⟩)] W fun e w'=>e=.returned (.int .u64 (IntKind.u64.wrap s.x.imm))∧Below W.heap.size W w':=by
 have co:W.cell? ⟨g,22,none⟩=some (.int .i8 s.x.op):=ex_cell hr 22 rfl
 rw [hO] at co
 have c:W.cell? ⟨g,28,none⟩=some (.int .i64 s.x.imm):=ex_cell hr 28 rfl
 generalize s.x.imm=v at *
 rw [IntKind.wrap_u64]
 clear hr hO hs
 go_enter Tryz.func58,Tryz.ntmps58
 go_wp2
 go_ret
 exact ⟨rfl,Below.refl _ _⟩
theorem operand_15 (s:Ex)(g:Nat)(W:World)(hr:W.heap[g]?=some (.cells (exC s) 48 (0,0)))(hs:0≤s.x.src∧s.x.src<16)(hO:s.x.op=15):Calls Tryz.prog 58 #[.pointer (some ⟨g,0,none⟩)] W fun e w'=>e=.returned (.int .u64 (IntKind.u64.wrap s.x.imm))∧Below W.heap.size W w':=by
 have co:W.cell? ⟨g,22,none⟩=some (.int .i8 s.x.op):=ex_cell hr 22 rfl
 rw [hO] at co
 have c:W.cell? ⟨g,28,none⟩=some (.int .i64 s.x.imm):=ex_cell hr 28 rfl
 generalize s.x.imm=v at *
 rw [IntKind.wrap_u64]
 clear hr hO hs
 go_enter Tryz.func58,Tryz.ntmps58
 go_wp2
 go_ret
 exact ⟨rfl,Below.refl _ _⟩
theorem operand_16 (s:Ex)(g:Nat)(W:World)(hr:W.heap[g]?=some (.cells (exC s) 48 (0,0)))(hs:0≤s.x.src∧s.x.src<16)(hO:s.x.op=16):Calls Tryz.prog 58 #[.pointer (some ⟨g,0,none⟩)] W fun e w'=>e=.returned (.int .u64 (s.m.r s.x.src.toNat))∧Below W.heap.size W w':=by
 have co:W.cell? ⟨g,22,none⟩=some (.int .i8 s.x.op):=ex_cell hr 22 rfl
 rw [hO] at co
 have c3:W.cell? ⟨g,25,none⟩=some (.int .i8 s.x.src):=ex_cell hr 25 rfl
 have c:=ex_cell hr s.x.src.toNat (exC_reg s (by omega))
 generalize s.m.r s.x.src.toNat=v at *
 generalize s.x.src=n at *
 obtain ⟨n,rfl⟩:=Int.eq_ofNat_of_zero_le hs.1
 rw [Int.toNat_natCast] at c
 have hs2:(n:Int)<16:=hs.2
 have hs3:n<16:=by omega
 clear hs
 clear hr hO
 go_enter Tryz.func58,Tryz.ntmps58
 go_wp2_with fail
 go_quiet (fail)
 go_wp2_with fail
 go_ret
 exact ⟨rfl,below_drewN (Below.refl _ W) _⟩
theorem operand_17 (s:Ex)(g:Nat)(W:World)(hr:W.heap[g]?=some (.cells (exC s) 48 (0,0)))(hs:0≤s.x.src∧s.x.src<16)(hO:s.x.op=17):Calls Tryz.prog 58 #[.pointer (some ⟨g,0,none⟩)] W fun e w'=>e=.returned (.int .u64 (IntKind.u64.wrap s.x.imm))∧Below W.heap.size W w':=by
 have co:W.cell? ⟨g,22,none⟩=some (.int .i8 s.x.op):=ex_cell hr 22 rfl
 rw [hO] at co
 have c:W.cell? ⟨g,28,none⟩=some (.int .i64 s.x.imm):=ex_cell hr 28 rfl
 generalize s.x.imm=v at *
 rw [IntKind.wrap_u64]
 clear hr hO hs
 go_enter Tryz.func58,Tryz.ntmps58
 go_wp2
 go_ret
 exact ⟨rfl,Below.refl _ _⟩
theorem operand_18 (s:Ex)(g:Nat)(W:World)(hr:W.heap[g]?=some (.cells (exC s) 48 (0,0)))(hs:0≤s.x.src∧s.x.src<16)(hO:s.x.op=18):Calls Tryz.prog 58 #[.pointer (some ⟨g,0,none⟩)] W fun e w'=>e=.returned (.int .u64 (IntKind.u64.wrap s.x.imm))∧Below W.heap.size W w':=by
 have co:W.cell? ⟨g,22,none⟩=some (.int .i8 s.x.op):=ex_cell hr 22 rfl
 rw [hO] at co
 have c:W.cell? ⟨g,28,none⟩=some (.int .i64 s.x.imm):=ex_cell hr 28 rfl
 generalize s.x.imm=v at *
 rw [IntKind.wrap_u64]
 clear hr hO hs
 go_enter Tryz.func58,Tryz.ntmps58
 go_wp2
 go_ret
 exact ⟨rfl,Below.refl _ _⟩
theorem operand_19 (s:Ex)(g:Nat)(W:World)(hr:W.heap[g]?=some (.cells (exC s) 48 (0,0)))(hs:0≤s.x.src∧s.x.src<16)(hO:s.x.op=19):Calls Tryz.prog 58 #[.pointer (some ⟨g,0,none⟩)] W fun e w'=>e=.returned (.int .u64 (IntKind.u64.wrap s.x.imm))∧Below W.heap.size W w':=by
 have co:W.cell? ⟨g,22,none⟩=some (.int .i8 s.x.op):=ex_cell hr 22 rfl
 rw [hO] at co
 have c:W.cell? ⟨g,28,none⟩=some (.int .i64 s.x.imm):=ex_cell hr 28 rfl
 generalize s.x.imm=v at *
 rw [IntKind.wrap_u64]
 clear hr hO hs
 go_enter Tryz.func58,Tryz.ntmps58
 go_wp2
 go_ret
 exact ⟨rfl,Below.refl _ _⟩
theorem operand_20 (s:Ex)(g:Nat)(W:World)(hr:W.heap[g]?=some (.cells (exC s) 48 (0,0)))(hs:0≤s.x.src∧s.x.src<16)(hO:s.x.op=20):Calls Tryz.prog 58 #[.pointer (some ⟨g,0,none⟩)] W fun e w'=>e=.returned (.int .u64 (s.m.r 1))∧Below W.heap.size W w':=by
 have co:W.cell? ⟨g,22,none⟩=some (.int .i8 s.x.op):=ex_cell hr 22 rfl
 rw [hO] at co
 have c:=ex_cell hr 1 (exC_reg s (j:=1) (by decide))
 generalize s.m.r 1=v at *
 clear hr hO hs
 go_enter Tryz.func58,Tryz.ntmps58
 go_wp2
 go_ret
 exact ⟨rfl,Below.refl _ _⟩
theorem operand_21 (s:Ex)(g:Nat)(W:World)(hr:W.heap[g]?=some (.cells (exC s) 48 (0,0)))(hs:0≤s.x.src∧s.x.src<16)(hO:s.x.op=21):Calls Tryz.prog 58 #[.pointer (some ⟨g,0,none⟩)] W fun e w'=>e=.returned (.int .u64 (s.m.r 1))∧Below W.heap.size W w':=by
 have co:W.cell? ⟨g,22,none⟩=some (.int .i8 s.x.op):=ex_cell hr 22 rfl
 rw [hO] at co
 have c:=ex_cell hr 1 (exC_reg s (j:=1) (by decide))
 generalize s.m.r 1=v at *
 clear hr hO hs
 go_enter Tryz.func58,Tryz.ntmps58
 go_wp2
 go_ret
 exact ⟨rfl,Below.refl _ _⟩
theorem operand_22 (s:Ex)(g:Nat)(W:World)(hr:W.heap[g]?=some (.cells (exC s) 48 (0,0)))(hs:0≤s.x.src∧s.x.src<16)(hO:s.x.op=22):Calls Tryz.prog 58 #[.pointer (some ⟨g,0,none⟩)] W fun e w'=>e=.returned (.int .u64 (s.m.r 1))∧Below W.heap.size W w':=by
 have co:W.cell? ⟨g,22,none⟩=some (.int .i8 s.x.op):=ex_cell hr 22 rfl
 rw [hO] at co
 have c:=ex_cell hr 1 (exC_reg s (j:=1) (by decide))
 generalize s.m.r 1=v at *
 clear hr hO hs
 go_enter Tryz.func58,Tryz.ntmps58
 go_wp2
 go_ret
 exact ⟨rfl,Below.refl _ _⟩
theorem operand_23 (s:Ex)(g:Nat)(W:World)(hr:W.heap[g]?=some (.cells (exC s) 48 (0,0)))(hs:0≤s.x.src∧s.x.src<16)(hO:s.x.op=23):Calls Tryz.prog 58 #[.pointer (some ⟨g,0,none⟩)] W fun e w'=>e=.returned (.int .u64 (IntKind.u64.wrap s.x.imm))∧Below W.heap.size W w':=by
 have co:W.cell? ⟨g,22,none⟩=some (.int .i8 s.x.op):=ex_cell hr 22 rfl
 rw [hO] at co
 have c:W.cell? ⟨g,28,none⟩=some (.int .i64 s.x.imm):=ex_cell hr 28 rfl
 generalize s.x.imm=v at *
 rw [IntKind.wrap_u64]
 clear hr hO hs
 go_enter Tryz.func58,Tryz.ntmps58
 go_wp2
 go_ret
 exact ⟨rfl,Below.refl _ _⟩
theorem operand_24 (s:Ex)(g:Nat)(W:World)(hr:W.heap[g]?=some (.cells (exC s) 48 (0,0)))(hs:0≤s.x.src∧s.x.src<16)(hO:s.x.op=24):Calls Tryz.prog 58 #[.pointer (some ⟨g,0,none⟩)] W fun e w'=>e=.returned (.int .u64 (IntKind.u64.wrap s.x.imm))∧Below W.heap.size W w':=by
 have co:W.cell? ⟨g,22,none⟩=some (.int .i8 s.x.op):=ex_cell hr 22 rfl
 rw [hO] at co
 have c:W.cell? ⟨g,28,none⟩=some (.int .i64 s.x.imm):=ex_cell hr 28 rfl
 generalize s.x.imm=v at *
 rw [IntKind.wrap_u64]
 clear hr hO hs
 go_enter Tryz.func58,Tryz.ntmps58
 go_wp2
 go_ret
 exact ⟨rfl,Below.refl _ _⟩
theorem operand_25 (s:Ex)(g:Nat)(W:World)(hr:W.heap[g]?=some (.cells (exC s) 48 (0,0)))(hs:0≤s.x.src∧s.x.src<16)(hO:s.x.op=25):Calls Tryz.prog 58 #[.pointer (some ⟨g,0,none⟩)] W fun e w'=>e=.returned (.int .u64 (s.m.r s.x.src.toNat))∧Below W.heap.size W w':=by
 have co:W.cell? ⟨g,22,none⟩=some (.int .i8 s.x.op):=ex_cell hr 22 rfl
 rw [hO] at co
 have c3:W.cell? ⟨g,25,none⟩=some (.int .i8 s.x.src):=ex_cell hr 25 rfl
 have c:=ex_cell hr s.x.src.toNat (exC_reg s (by omega))
 generalize s.m.r s.x.src.toNat=v at *
 generalize s.x.src=n at *
 obtain ⟨n,rfl⟩:=Int.eq_ofNat_of_zero_le hs.1
 rw [Int.toNat_natCast] at c
 have hs2:(n:Int)<16:=hs.2
 have hs3:n<16:=by omega
 clear hs
 clear hr hO
 go_enter Tryz.func58,Tryz.ntmps58
 go_wp2_with fail
 go_quiet (fail)
 go_wp2_with fail
 go_ret
 exact ⟨rfl,below_drewN (Below.refl _ W) _⟩
theorem operand_26 (s:Ex)(g:Nat)(W:World)(hr:W.heap[g]?=some (.cells (exC s) 48 (0,0)))(hs:0≤s.x.src∧s.x.src<16)(hO:s.x.op=26):Calls Tryz.prog 58 #[.pointer (some ⟨g,0,none⟩)] W fun e w'=>e=.returned (.int .u64 (s.l))∧Below W.heap.size W w':=by
 have co:W.cell? ⟨g,22,none⟩=some (.int .i8 s.x.op):=ex_cell hr 22 rfl
 rw [hO] at co
 have c:W.cell? ⟨g,30,none⟩=some (.int .u64 s.l):=ex_cell hr 30 rfl
 generalize s.l=v at *
 clear hr hO hs
 go_enter Tryz.func58,Tryz.ntmps58
 go_wp2
 go_ret
 exact ⟨rfl,Below.refl _ _⟩
theorem operand_27 (s:Ex)(g:Nat)(W:World)(hr:W.heap[g]?=some (.cells (exC s) 48 (0,0)))(hs:0≤s.x.src∧s.x.src<16)(hO:s.x.op=27):Calls Tryz.prog 58 #[.pointer (some ⟨g,0,none⟩)] W fun e w'=>e=.returned (.int .u64 (IntKind.u64.wrap s.x.imm))∧Below W.heap.size W w':=by
 have co:W.cell? ⟨g,22,none⟩=some (.int .i8 s.x.op):=ex_cell hr 22 rfl
 rw [hO] at co
 have c:W.cell? ⟨g,28,none⟩=some (.int .i64 s.x.imm):=ex_cell hr 28 rfl
 generalize s.x.imm=v at *
 rw [IntKind.wrap_u64]
 clear hr hO hs
 go_enter Tryz.func58,Tryz.ntmps58
 go_wp2
 go_ret
 exact ⟨rfl,Below.refl _ _⟩
theorem operand_28 (s:Ex)(g:Nat)(W:World)(hr:W.heap[g]?=some (.cells (exC s) 48 (0,0)))(hs:0≤s.x.src∧s.x.src<16)(hO:s.x.op=28):Calls Tryz.prog 58 #[.pointer (some ⟨g,0,none⟩)] W fun e w'=>e=.returned (.int .u64 (IntKind.u64.wrap s.x.imm))∧Below W.heap.size W w':=by
 have co:W.cell? ⟨g,22,none⟩=some (.int .i8 s.x.op):=ex_cell hr 22 rfl
 rw [hO] at co
 have c:W.cell? ⟨g,28,none⟩=some (.int .i64 s.x.imm):=ex_cell hr 28 rfl
 generalize s.x.imm=v at *
 rw [IntKind.wrap_u64]
 clear hr hO hs
 go_enter Tryz.func58,Tryz.ntmps58
 go_wp2
 go_ret
 exact ⟨rfl,Below.refl _ _⟩
theorem operand_29 (s:Ex)(g:Nat)(W:World)(hr:W.heap[g]?=some (.cells (exC s) 48 (0,0)))(hs:0≤s.x.src∧s.x.src<16)(hO:s.x.op=29):Calls Tryz.prog 58 #[.pointer (some ⟨g,0,none⟩)] W fun e w'=>e=.returned (.int .u64 (IntKind.u64.wrap s.x.imm))∧Below W.heap.size W w':=by
 have co:W.cell? ⟨g,22,none⟩=some (.int .i8 s.x.op):=ex_cell hr 22 rfl
 rw [hO] at co
 have c:W.cell? ⟨g,28,none⟩=some (.int .i64 s.x.imm):=ex_cell hr 28 rfl
 generalize s.x.imm=v at *
 rw [IntKind.wrap_u64]
 clear hr hO hs
 go_enter Tryz.func58,Tryz.ntmps58
 go_wp2
 go_ret
 exact ⟨rfl,Below.refl _ _⟩
theorem operand_30 (s:Ex)(g:Nat)(W:World)(hr:W.heap[g]?=some (.cells (exC s) 48 (0,0)))(hs:0≤s.x.src∧s.x.src<16)(hO:s.x.op=30):Calls Tryz.prog 58 #[.pointer (some ⟨g,0,none⟩)] W fun e w'=>e=.returned (.int .u64 (s.l))∧Below W.heap.size W w':=by
 have co:W.cell? ⟨g,22,none⟩=some (.int .i8 s.x.op):=ex_cell hr 22 rfl
 rw [hO] at co
 have c:W.cell? ⟨g,30,none⟩=some (.int .u64 s.l):=ex_cell hr 30 rfl
 generalize s.l=v at *
 clear hr hO hs
 go_enter Tryz.func58,Tryz.ntmps58
 go_wp2
 go_ret
 exact ⟨rfl,Below.refl _ _⟩
theorem operand_31 (s:Ex)(g:Nat)(W:World)(hr:W.heap[g]?=some (.cells (exC s) 48 (0,0)))(hs:0≤s.x.src∧s.x.src<16)(hO:s.x.op=31):Calls Tryz.prog 58 #[.pointer (some ⟨g,0,none⟩)] W fun e w'=>e=.returned (.int .u64 (s.l))∧Below W.heap.size W w':=by
 have co:W.cell? ⟨g,22,none⟩=some (.int .i8 s.x.op):=ex_cell hr 22 rfl
 rw [hO] at co
 have c:W.cell? ⟨g,30,none⟩=some (.int .u64 s.l):=ex_cell hr 30 rfl
 generalize s.l=v at *
 clear hr hO hs
 go_enter Tryz.func58,Tryz.ntmps58
 go_wp2
 go_ret
 exact ⟨rfl,Below.refl _ _⟩
end Go.Proofs.YtjhedldplmhmjaaGreatDoor.Exe
