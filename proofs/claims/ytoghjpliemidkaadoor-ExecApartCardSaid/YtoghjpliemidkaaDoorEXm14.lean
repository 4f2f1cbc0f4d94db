import Derived.Test.YtoghjpliemidkaaDoorEXm13
set_option linter.unusedVariables false
set_option linter.unusedSimpArgs false
set_option linter.unnecessarySimpa false
namespace Go.Proofs.YtoghjpliemidkaaDoor.Exe
open Go Go.RowKit
open Mrm (Xi xC zX mayX bytesX)
set_option linter.unusedVariables false
set_option linter.unusedSimpArgs false
set_option linter.unnecessarySimpa false
set_option maxRecDepth 100000
set_option maxHeartbeats 2000000 in
theorem operand_0 (s:Ex) (g:Nat) (W:World) (hr:W.heap[g]?=some (.cells (exC s) 75 (0,0))) (hs:0 ≤ s.x.src ∧ s.x.src < 16) (hO:s.x.op=0):Calls Tryd.prog 85 #[.pointer (some ⟨g,0,none⟩)] W fun e w'=>e=.returned (.int .u64 (s.m.r s.x.src.toNat)) ∧ Below W.heap.size W w':=by
  have co:W.cell? ⟨g,22,none⟩=some (.int .i8 s.x.op):=ex_cell hr 22 rfl
  rw [hO] at co
  have c3:W.cell? ⟨g,25,none⟩=some (.int .i8 s.x.src):=ex_cell hr 25 rfl
  have c:=ex_cell hr s.x.src.toNat (exC_reg s (by omega))
  generalize s.m.r s.x.src.toNat=v at *
  generalize s.x.src=n at *
  obtain ⟨n,rfl⟩:=Int.eq_ofNat_of_zero_le hs.1
  rw [Int.toNat_natCast] at c
  have hs2:(n:Int) < 16:=hs.2
  have hs3:n < 16:=by omega
  clear hs
  clear hr hO
  go_enter Tryd.func85,Tryd.ntmps85
  go_wp2_with fail
  go_quiet (fail)
  go_wp2_with fail
  go_ret
  exact ⟨rfl,below_drewN (Below.refl _ W) _⟩
set_option maxHeartbeats 2000000 in
theorem operand_1 (s:Ex) (g:Nat) (W:World) (hr:W.heap[g]?=some (.cells (exC s) 75 (0,0))) (hs:0 ≤ s.x.src ∧ s.x.src < 16) (hO:s.x.op=1):Calls Tryd.prog 85 #[.pointer (some ⟨g,0,none⟩)] W fun e w'=>e=.returned (.int .u64 (IntKind.u64.wrap s.x.imm)) ∧ Below W.heap.size W w':=by
  have co:W.cell? ⟨g,22,none⟩=some (.int .i8 s.x.op):=ex_cell hr 22 rfl
  rw [hO] at co
  have c:W.cell? ⟨g,28,none⟩=some (.int .i64 s.x.imm):=ex_cell hr 28 rfl
  generalize s.x.imm=v at *
  rw [IntKind.wrap_u64]
  clear hr hO hs
  go_enter Tryd.func85,Tryd.ntmps85
  go_wp2
  go_ret
  exact ⟨rfl,Below.refl _ _⟩
set_option maxHeartbeats 2000000 in
theorem operand_2 (s:Ex) (g:Nat) (W:World) (hr:W.heap[g]?=some (.cells (exC s) 75 (0,0))) (hs:0 ≤ s.x.src ∧ s.x.src < 16) (hO:s.x.op=2):Calls Tryd.prog 85 #[.pointer (some ⟨g,0,none⟩)] W fun e w'=>e=.returned (.int .u64 (s.m.r s.x.src.toNat)) ∧ Below W.heap.size W w':=by
  have co:W.cell? ⟨g,22,none⟩=some (.int .i8 s.x.op):=ex_cell hr 22 rfl
  rw [hO] at co
  have c3:W.cell? ⟨g,25,none⟩=some (.int .i8 s.x.src):=ex_cell hr 25 rfl
  have c:=ex_cell hr s.x.src.toNat (exC_reg s (by omega))
  generalize s.m.r s.x.src.toNat=v at *
  generalize s.x.src=n at *
  obtain ⟨n,rfl⟩:=Int.eq_ofNat_of_zero_le hs.1
  rw [Int.toNat_natCast] at c
  have hs2:(n:Int) < 16:=hs.2
  have hs3:n < 16:=by omega
  clear hs
  clear hr hO
  go_enter Tryd.func85,Tryd.ntmps85
  go_wp2_with fail
  go_quiet (fail)
  go_wp2_with fail
  go_ret
  exact ⟨rfl,below_drewN (Below.refl _ W) _⟩
set_option maxHeartbeats 2000000 in
theorem operand_3 (s:Ex) (g:Nat) (W:World) (hr:W.heap[g]?=some (.cells (exC s) 75 (0,0))) (hs:0 ≤ s.x.src ∧ s.x.src < 16) (hO:s.x.op=3):Calls Tryd.prog 85 #[.pointer (some ⟨g,0,none⟩)] W fun e w'=>e=.returned (.int .u64 (s.m.r s.x.src.toNat)) ∧ Below W.heap.size W w':=by
  have co:W.cell? ⟨g,22,none⟩=some (.int .i8 s.x.op):=ex_cell hr 22 rfl
  rw [hO] at co
  have c3:W.cell? ⟨g,25,none⟩=some (.int .i8 s.x.src):=ex_cell hr 25 rfl
  have c:=ex_cell hr s.x.src.toNat (exC_reg s (by omega))
  generalize s.m.r s.x.src.toNat=v at *
  generalize s.x.src=n at *
  obtain ⟨n,rfl⟩:=Int.eq_ofNat_of_zero_le hs.1
  rw [Int.toNat_natCast] at c
  have hs2:(n:Int) < 16:=hs.2
  have hs3:n < 16:=by omega
  clear hs
  clear hr hO
  go_enter Tryd.func85,Tryd.ntmps85
  go_wp2_with fail
  go_quiet (fail)
  go_wp2_with fail
  go_ret
  exact ⟨rfl,below_drewN (Below.refl _ W) _⟩
set_option maxHeartbeats 2000000 in
theorem operand_4 (s:Ex) (g:Nat) (W:World) (hr:W.heap[g]?=some (.cells (exC s) 75 (0,0))) (hs:0 ≤ s.x.src ∧ s.x.src < 16) (hO:s.x.op=4):Calls Tryd.prog 85 #[.pointer (some ⟨g,0,none⟩)] W fun e w'=>e=.returned (.int .u64 (s.m.r s.x.src.toNat)) ∧ Below W.heap.size W w':=by
  have co:W.cell? ⟨g,22,none⟩=some (.int .i8 s.x.op):=ex_cell hr 22 rfl
  rw [hO] at co
  have c3:W.cell? ⟨g,25,none⟩=some (.int .i8 s.x.src):=ex_cell hr 25 rfl
  have c:=ex_cell hr s.x.src.toNat (exC_reg s (by omega))
  generalize s.m.r s.x.src.toNat=v at *
  generalize s.x.src=n at *
  obtain ⟨n,rfl⟩:=Int.eq_ofNat_of_zero_le hs.1
  rw [Int.toNat_natCast] at c
  have hs2:(n:Int) < 16:=hs.2
  have hs3:n < 16:=by omega
  clear hs
  clear hr hO
  go_enter Tryd.func85,Tryd.ntmps85
  go_wp2_with fail
  go_quiet (fail)
  go_wp2_with fail
  go_ret
  exact ⟨rfl,below_drewN (Below.refl _ W) _⟩
set_option maxHeartbeats 2000000 in
theorem operand_5 (s:Ex) (g:Nat) (W:World) (hr:W.heap[g]?=some (.cells (exC s) 75 (0,0))) (hs:0 ≤ s.x.src ∧ s.x.src < 16) (hO:s.x.op=5):Calls Tryd.prog 85 #[.pointer (some ⟨g,0,none⟩)] W fun e w'=>e=.returned (.int .u64 (s.m.r s.x.src.toNat)) ∧ Below W.heap.size W w':=by
  have co:W.cell? ⟨g,22,none⟩=some (.int .i8 s.x.op):=ex_cell hr 22 rfl
  rw [hO] at co
  have c3:W.cell? ⟨g,25,none⟩=some (.int .i8 s.x.src):=ex_cell hr 25 rfl
  have c:=ex_cell hr s.x.src.toNat (exC_reg s (by omega))
  generalize s.m.r s.x.src.toNat=v at *
  generalize s.x.src=n at *
  obtain ⟨n,rfl⟩:=Int.eq_ofNat_of_zero_le hs.1
  rw [Int.toNat_natCast] at c
  have hs2:(n:Int) < 16:=hs.2
  have hs3:n < 16:=by omega
  clear hs
  clear hr hO
  go_enter Tryd.func85,Tryd.ntmps85
  go_wp2_with fail
  go_quiet (fail)
  go_wp2_with fail
  go_ret
  exact ⟨rfl,below_drewN (Below.refl _ W) _⟩
set_option maxHeartbeats 2000000 in
theorem operand_6 (s:Ex) (g:Nat) (W:World) (hr:W.heap[g]?=some (.cells (exC s) 75 (0,0))) (hs:0 ≤ s.x.src ∧ s.x.src < 16) (hO:s.x.op=6):Calls Tryd.prog 85 #[.pointer (some ⟨g,0,none⟩)] W fun e w'=>e=.returned (.int .u64 (s.m.r s.x.src.toNat)) ∧ Below W.heap.size W w':=by
  have co:W.cell? ⟨g,22,none⟩=some (.int .i8 s.x.op):=ex_cell hr 22 rfl
  rw [hO] at co
  have c3:W.cell? ⟨g,25,none⟩=some (.int .i8 s.x.src):=ex_cell hr 25 rfl
  have c:=ex_cell hr s.x.src.toNat (exC_reg s (by omega))
  generalize s.m.r s.x.src.toNat=v at *
  generalize s.x.src=n at *
  obtain ⟨n,rfl⟩:=Int.eq_ofNat_of_zero_le hs.1
  rw [Int.toNat_natCast] at c
  have hs2:(n:Int) < 16:=hs.2
  have hs3:n < 16:=by omega
  clear hs
  clear hr hO
  go_enter Tryd.func85,Tryd.ntmps85
  go_wp2_with fail
  go_quiet (fail)
  go_wp2_with fail
  go_ret
  exact ⟨rfl,below_drewN (Below.refl _ W) _⟩
set_option maxHeartbeats 2000000 in
theorem operand_7 (s:Ex) (g:Nat) (W:World) (hr:W.heap[g]?=some (.cells (exC s) 75 (0,0))) (hs:0 ≤ s.x.src ∧ s.x.src < 16) (hO:s.x.op=7):Calls Tryd.prog 85 #[.pointer (some ⟨g,0,none⟩)] W fun e w'=>e=.returned (.int .u64 (s.m.r s.x.src.toNat)) ∧ Below W.heap.size W w':=by
  have co:W.cell? ⟨g,22,none⟩=some (.int .i8 s.x.op):=ex_cell hr 22 rfl
  rw [hO] at co
  have c3:W.cell? ⟨g,25,none⟩=some (.int .i8 s.x.src):=ex_cell hr 25 rfl
  have c:=ex_cell hr s.x.src.toNat (exC_reg s (by omega))
  generalize s.m.r s.x.src.toNat=v at *
  generalize s.x.src=n at *
  obtain ⟨n,rfl⟩:=Int.eq_ofNat_of_zero_le hs.1
  rw [Int.toNat_natCast] at c
  have hs2:(n:Int) < 16:=hs.2
  have hs3:n < 16:=by omega
  clear hs
  clear hr hO
  go_enter Tryd.func85,Tryd.ntmps85
  go_wp2_with fail
  go_quiet (fail)
  go_wp2_with fail
  go_ret
  exact ⟨rfl,below_drewN (Below.refl _ W) _⟩
set_option maxHeartbeats 2000000 in
theorem operand_8 (s:Ex) (g:Nat) (W:World) (hr:W.heap[g]?=some (.cells (exC s) 75 (0,0))) (hs:0 ≤ s.x.src ∧ s.x.src < 16) (hO:s.x.op=8):Calls Tryd.prog 85 #[.pointer (some ⟨g,0,none⟩)] W fun e w'=>e=.returned (.int .u64 (s.m.r s.x.src.toNat)) ∧ Below W.heap.size W w':=by
  have co:W.cell? ⟨g,22,none⟩=some (.int .i8 s.x.op):=ex_cell hr 22 rfl
  rw [hO] at co
  have c3:W.cell? ⟨g,25,none⟩=some (.int .i8 s.x.src):=ex_cell hr 25 rfl
  have c:=ex_cell hr s.x.src.toNat (exC_reg s (by omega))
  generalize s.m.r s.x.src.toNat=v at *
  generalize s.x.src=n at *
  obtain ⟨n,rfl⟩:=Int.eq_ofNat_of_zero_le hs.1
  rw [Int.toNat_natCast] at c
  have hs2:(n:Int) < 16:=hs.2
  have hs3:n < 16:=by omega
  clear hs
  clear hr hO
  go_enter Tryd.func85,Tryd.ntmps85
  go_wp2_with fail
  go_quiet (fail)
  go_wp2_with fail
  go_ret
  exact ⟨rfl,below_drewN (Below.refl _ W) _⟩
set_option maxHeartbeats 2000000 in
theorem operand_9 (s:Ex) (g:Nat) (W:World) (hr:W.heap[g]?=some (.cells (exC s) 75 (0,0))) (hs:0 ≤ s.x.src ∧ s.x.src < 16) (hO:s.x.op=9):Calls Tryd.prog 85 #[.pointer (some ⟨g,0,none⟩)] W fun e w'=>e=.returned (.int .u64 (IntKind.u64.wrap s.x.imm)) ∧ Below W.heap.size W w':=by
  have co:W.cell? ⟨g,22,none⟩=some (.int .i8 s.x.op):=ex_cell hr 22 rfl
  rw [hO] at co
  have c:W.cell? ⟨g,28,none⟩=some (.int .i64 s.x.imm):=ex_cell hr 28 rfl
  generalize s.x.imm=v at *
  rw [IntKind.wrap_u64]
  clear hr hO hs
  go_enter Tryd.func85,Tryd.ntmps85
  go_wp2
  go_ret
  exact ⟨rfl,Below.refl _ _⟩
set_option maxHeartbeats 2000000 in
theorem operand_10 (s:Ex) (g:Nat) (W:World) (hr:W.heap[g]?=some (.cells (exC s) 75 (0,0))) (hs:0 ≤ s.x.src ∧ s.x.src < 16) (hO:s.x.op=10):Calls Tryd.prog 85 #[.pointer (some ⟨g,0,none⟩)] W fun e w'=>e=.returned (.int .u64 (IntKind.u64.wrap s.x.imm)) ∧ Below W.heap.size W w':=by
  have co:W.cell? ⟨g,22,none⟩=some (.int .i8 s.x.op):=ex_cell hr 22 rfl
  rw [hO] at co
  have c:W.cell? ⟨g,28,none⟩=some (.int .i64 s.x.imm):=ex_cell hr 28 rfl
  generalize s.x.imm=v at *
  rw [IntKind.wrap_u64]
  clear hr hO hs
  go_enter Tryd.func85,Tryd.ntmps85
  go_wp2
  go_ret
  exact ⟨rfl,Below.refl _ _⟩
set_option maxHeartbeats 2000000 in
theorem operand_11 (s:Ex) (g:Nat) (W:World) (hr:W.heap[g]?=some (.cells (exC s) 75 (0,0))) (hs:0 ≤ s.x.src ∧ s.x.src < 16) (hO:s.x.op=11):Calls Tryd.prog 85 #[.pointer (some ⟨g,0,none⟩)] W fun e w'=>e=.returned (.int .u64 (IntKind.u64.wrap s.x.imm)) ∧ Below W.heap.size W w':=by
  have co:W.cell? ⟨g,22,none⟩=some (.int .i8 s.x.op):=ex_cell hr 22 rfl
  rw [hO] at co
  have c:W.cell? ⟨g,28,none⟩=some (.int .i64 s.x.imm):=ex_cell hr 28 rfl
  generalize s.x.imm=v at *
  rw [IntKind.wrap_u64]
  clear hr hO hs
  go_enter Tryd.func85,Tryd.ntmps85
  go_wp2
  go_ret
  exact ⟨rfl,Below.refl _ _⟩
set_option maxHeartbeats 2000000 in
theorem operand_12 (s:Ex) (g:Nat) (W:World) (hr:W.heap[g]?=some (.cells (exC s) 75 (0,0))) (hs:0 ≤ s.x.src ∧ s.x.src < 16) (hO:s.x.op=12):Calls Tryd.prog 85 #[.pointer (some ⟨g,0,none⟩)] W fun e w'=>e=.returned (.int .u64 (IntKind.u64.wrap s.x.imm)) ∧ Below W.heap.size W w':=by
  have co:W.cell? ⟨g,22,none⟩=some (.int .i8 s.x.op):=ex_cell hr 22 rfl
  rw [hO] at co
  have c:W.cell? ⟨g,28,none⟩=some (.int .i64 s.x.imm):=ex_cell hr 28 rfl
  generalize s.x.imm=v at *
  rw [IntKind.wrap_u64]
  clear hr hO hs
  go_enter Tryd.func85,Tryd.ntmps85
  go_wp2
  go_ret
  exact ⟨rfl,Below.refl _ _⟩
set_option maxHeartbeats 2000000 in
theorem operand_13 (s:Ex) (g:Nat) (W:World) (hr:W.heap[g]?=some (.cells (exC s) 75 (0,0))) (hs:0 ≤ s.x.src ∧ s.x.src < 16) (hO:s.x.op=13):Calls Tryd.prog 85 #[.pointer (some ⟨g,0,none⟩)] W fun e w'=>e=.returned (.int .u64 (IntKind.u64.wrap s.x.imm)) ∧ Below W.heap.size W w':=by
  have co:W.cell? ⟨g,22,none⟩=some (.int .i8 s.x.op):=ex_cell hr 22 rfl
  rw [hO] at co
  have c:W.cell? ⟨g,28,none⟩=some (.int .i64 s.x.imm):=ex_cell hr 28 rfl
  generalize s.x.imm=v at *
  rw [IntKind.wrap_u64]
  clear hr hO hs
  go_enter Tryd.func85,Tryd.ntmps85
  go_wp2
  go_ret
  exact ⟨rfl,Below.refl _ _⟩
set_option maxHeartbeats 2000000 in
theorem operand_14 (s:Ex) (g:Nat) (W:World) (hr:W.heap[g]?=some (.cells (exC s) 75 (0,0))) (hs:0 ≤ s.x.src ∧ s.x.src < 16) (hO:s.x.op=14):Calls Tryd.prog 85 #[.pointer (some ⟨g,0,none⟩)] W fun e w'=>e=.returned (.int .u64 (IntKind.u64.wrap s.x.imm)) ∧ Below W.heap.size W w':=by
  have co:W.cell? ⟨g,22,none⟩=some (.int .i8 s.x.op):=ex_cell hr 22 rfl
  rw [hO] at co
  have c:W.cell? ⟨g,28,none⟩=some (.int .i64 s.x.imm):=ex_cell hr 28 rfl
  generalize s.x.imm=v at *
  rw [IntKind.wrap_u64]
  clear hr hO hs
  go_enter Tryd.func85,Tryd.ntmps85
  go_wp2
  go_ret
  exact ⟨rfl,Below.refl _ _⟩
set_option maxHeartbeats 2000000 in
theorem operand_15 (s:Ex) (g:Nat) (W:World) (hr:W.heap[g]?=some (.cells (exC s) 75 (0,0))) (hs:0 ≤ s.x.src ∧ s.x.src < 16) (hO:s.x.op=15):Calls Tryd.prog 85 #[.pointer (some ⟨g,0,none⟩)] W fun e w'=>e=.returned (.int .u64 (IntKind.u64.wrap s.x.imm)) ∧ Below W.heap.size W w':=by
  have co:W.cell? ⟨g,22,none⟩=some (.int .i8 s.x.op):=ex_cell hr 22 rfl
  rw [hO] at co
  have c:W.cell? ⟨g,28,none⟩=some (.int .i64 s.x.imm):=ex_cell hr 28 rfl
  generalize s.x.imm=v at *
  rw [IntKind.wrap_u64]
  clear hr hO hs
  go_enter Tryd.func85,Tryd.ntmps85
  go_wp2
  go_ret
  exact ⟨rfl,Below.refl _ _⟩
set_option maxHeartbeats 2000000 in
theorem operand_16 (s:Ex) (g:Nat) (W:World) (hr:W.heap[g]?=some (.cells (exC s) 75 (0,0))) (hs:0 ≤ s.x.src ∧ s.x.src < 16) (hO:s.x.op=16):Calls Tryd.prog 85 #[.pointer (some ⟨g,0,none⟩)] W fun e w'=>e=.returned (.int .u64 (s.m.r s.x.src.toNat)) ∧ Below W.heap.size W w':=by
  have co:W.cell? ⟨g,22,none⟩=some (.int .i8 s.x.op):=ex_cell hr 22 rfl
  rw [hO] at co
  have c3:W.cell? ⟨g,25,none⟩=some (.int .i8 s.x.src):=ex_cell hr 25 rfl
  have c:=ex_cell hr s.x.src.toNat (exC_reg s (by omega))
  generalize s.m.r s.x.src.toNat=v at *
  generalize s.x.src=n at *
  obtain ⟨n,rfl⟩:=Int.eq_ofNat_of_zero_le hs.1
  rw [Int.toNat_natCast] at c
  have hs2:(n:Int) < 16:=hs.2
  have hs3:n < 16:=by omega
  clear hs
  clear hr hO
  go_enter Tryd.func85,Tryd.ntmps85
  go_wp2_with fail
  go_quiet (fail)
  go_wp2_with fail
  go_ret
  exact ⟨rfl,below_drewN (Below.refl _ W) _⟩
set_option maxHeartbeats 2000000 in
theorem operand_17 (s:Ex) (g:Nat) (W:World) (hr:W.heap[g]?=some (.cells (exC s) 75 (0,0))) (hs:0 ≤ s.x.src ∧ s.x.src < 16) (hO:s.x.op=17):Calls Tryd.prog 85 #[.pointer (some ⟨g,0,none⟩)] W fun e w'=>e=.returned (.int .u64 (IntKind.u64.wrap s.x.imm)) ∧ Below W.heap.size W w':=by
  have co:W.cell? ⟨g,22,none⟩=some (.int .i8 s.x.op):=ex_cell hr 22 rfl
  rw [hO] at co
  have c:W.cell? ⟨g,28,none⟩=some (.int .i64 s.x.imm):=ex_cell hr 28 rfl
  generalize s.x.imm=v at *
  rw [IntKind.wrap_u64]
  clear hr hO hs
  go_enter Tryd.func85,Tryd.ntmps85
  go_wp2
  go_ret
  exact ⟨rfl,Below.refl _ _⟩
set_option maxHeartbeats 2000000 in
theorem operand_18 (s:Ex) (g:Nat) (W:World) (hr:W.heap[g]?=some (.cells (exC s) 75 (0,0))) (hs:0 ≤ s.x.src ∧ s.x.src < 16) (hO:s.x.op=18):Calls Tryd.prog 85 #[.pointer (some ⟨g,0,none⟩)] W fun e w'=>e=.returned (.int .u64 (IntKind.u64.wrap s.x.imm)) ∧ Below W.heap.size W w':=by
  have co:W.cell? ⟨g,22,none⟩=some (.int .i8 s.x.op):=ex_cell hr 22 rfl
  rw [hO] at co
  have c:W.cell? ⟨g,28,none⟩=some (.int .i64 s.x.imm):=ex_cell hr 28 rfl
  generalize s.x.imm=v at *
  rw [IntKind.wrap_u64]
  clear hr hO hs
  go_enter Tryd.func85,Tryd.ntmps85
  go_wp2
  go_ret
  exact ⟨rfl,Below.refl _ _⟩
set_option maxHeartbeats 2000000 in
theorem operand_19 (s:Ex) (g:Nat) (W:World) (hr:W.heap[g]?=some (.cells (exC s) 75 (0,0))) (hs:0 ≤ s.x.src ∧ s.x.src < 16) (hO:s.x.op=19):Calls Tryd.prog 85 #[.pointer (some ⟨g,0,none⟩)] W fun e w'=>e=.returned (.int .u64 (IntKind.u64.wrap s.x.imm)) ∧ Below W.heap.size W w':=by
  have co:W.cell? ⟨g,22,none⟩=some (.int .i8 s.x.op):=ex_cell hr 22 rfl
  rw [hO] at co
  have c:W.cell? ⟨g,28,none⟩=some (.int .i64 s.x.imm):=ex_cell hr 28 rfl
  generalize s.x.imm=v at *
  rw [IntKind.wrap_u64]
  clear hr hO hs
  go_enter Tryd.func85,Tryd.ntmps85
  go_wp2
  go_ret
  exact ⟨rfl,Below.refl _ _⟩
set_option maxHeartbeats 2000000 in
theorem operand_20 (s:Ex) (g:Nat) (W:World) (hr:W.heap[g]?=some (.cells (exC s) 75 (0,0))) (hs:0 ≤ s.x.src ∧ s.x.src < 16) (hO:s.x.op=20):Calls Tryd.prog 85 #[.pointer (some ⟨g,0,none⟩)] W fun e w'=>e=.returned (.int .u64 (s.m.r 1)) ∧ Below W.heap.size W w':=by
  have co:W.cell? ⟨g,22,none⟩=some (.int .i8 s.x.op):=ex_cell hr 22 rfl
  rw [hO] at co
  have c:=ex_cell hr 1 (exC_reg s (j:=1) (by decide))
  generalize s.m.r 1=v at *
  clear hr hO hs
  go_enter Tryd.func85,Tryd.ntmps85
  go_wp2
  go_ret
  exact ⟨rfl,Below.refl _ _⟩
set_option maxHeartbeats 2000000 in
theorem operand_21 (s:Ex) (g:Nat) (W:World) (hr:W.heap[g]?=some (.cells (exC s) 75 (0,0))) (hs:0 ≤ s.x.src ∧ s.x.src < 16) (hO:s.x.op=21):Calls Tryd.prog 85 #[.pointer (some ⟨g,0,none⟩)] W fun e w'=>e=.returned (.int .u64 (s.m.r 1)) ∧ Below W.heap.size W w':=by
  have co:W.cell? ⟨g,22,none⟩=some (.int .i8 s.x.op):=ex_cell hr 22 rfl
  rw [hO] at co
  have c:=ex_cell hr 1 (exC_reg s (j:=1) (by decide))
  generalize s.m.r 1=v at *
  clear hr hO hs
  go_enter Tryd.func85,Tryd.ntmps85
  go_wp2
  go_ret
  exact ⟨rfl,Below.refl _ _⟩
set_option maxHeartbeats 2000000 in
theorem operand_22 (s:Ex) (g:Nat) (W:World) (hr:W.heap[g]?=some (.cells (exC s) 75 (0,0))) (hs:0 ≤ s.x.src ∧ s.x.src < 16) (hO:s.x.op=22):Calls Tryd.prog 85 #[.pointer (some ⟨g,0,none⟩)] W fun e w'=>e=.returned (.int .u64 (s.m.r 1)) ∧ Below W.heap.size W w':=by
  have co:W.cell? ⟨g,22,none⟩=some (.int .i8 s.x.op):=ex_cell hr 22 rfl
  rw [hO] at co
  have c:=ex_cell hr 1 (exC_reg s (j:=1) (by decide))
  generalize s.m.r 1=v at *
  clear hr hO hs
  go_enter Tryd.func85,Tryd.ntmps85
  go_wp2
  go_ret
  exact ⟨rfl,Below.refl _ _⟩
set_option maxHeartbeats 2000000 in
theorem operand_23 (s:Ex) (g:Nat) (W:World) (hr:W.heap[g]?=some (.cells (exC s) 75 (0,0))) (hs:0 ≤ s.x.src ∧ s.x.src < 16) (hO:s.x.op=23):Calls Tryd.prog 85 #[.pointer (some ⟨g,0,none⟩)] W fun e w'=>e=.returned (.int .u64 (IntKind.u64.wrap s.x.imm)) ∧ Below W.heap.size W w':=by
  have co:W.cell? ⟨g,22,none⟩=some (.int .i8 s.x.op):=ex_cell hr 22 rfl
  rw [hO] at co
  have c:W.cell? ⟨g,28,none⟩=some (.int .i64 s.x.imm):=ex_cell hr 28 rfl
  generalize s.x.imm=v at *
  rw [IntKind.wrap_u64]
  clear hr hO hs
  go_enter Tryd.func85,Tryd.ntmps85
  go_wp2
  go_ret
  exact ⟨rfl,Below.refl _ _⟩
set_option maxHeartbeats 2000000 in
theorem operand_24 (s:Ex) (g:Nat) (W:World) (hr:W.heap[g]?=some (.cells (exC s) 75 (0,0))) (hs:0 ≤ s.x.src ∧ s.x.src < 16) (hO:s.x.op=24):Calls Tryd.prog 85 #[.pointer (some ⟨g,0,none⟩)] W fun e w'=>e=.returned (.int .u64 (IntKind.u64.wrap s.x.imm)) ∧ Below W.heap.size W w':=by
  have co:W.cell? ⟨g,22,none⟩=some (.int .i8 s.x.op):=ex_cell hr 22 rfl
  rw [hO] at co
  have c:W.cell? ⟨g,28,none⟩=some (.int .i64 s.x.imm):=ex_cell hr 28 rfl
  generalize s.x.imm=v at *
  rw [IntKind.wrap_u64]
  clear hr hO hs
  go_enter Tryd.func85,Tryd.ntmps85
  go_wp2
  go_ret
  exact ⟨rfl,Below.refl _ _⟩
set_option maxHeartbeats 2000000 in
theorem operand_25 (s:Ex) (g:Nat) (W:World) (hr:W.heap[g]?=some (.cells (exC s) 75 (0,0))) (hs:0 ≤ s.x.src ∧ s.x.src < 16) (hO:s.x.op=25):Calls Tryd.prog 85 #[.pointer (some ⟨g,0,none⟩)] W fun e w'=>e=.returned (.int .u64 (s.m.r s.x.src.toNat)) ∧ Below W.heap.size W w':=by
  have co:W.cell? ⟨g,22,none⟩=some (.int .i8 s.x.op):=ex_cell hr 22 rfl
  rw [hO] at co
  have c3:W.cell? ⟨g,25,none⟩=some (.int .i8 s.x.src):=ex_cell hr 25 rfl
  have c:=ex_cell hr s.x.src.toNat (exC_reg s (by omega))
  generalize s.m.r s.x.src.toNat=v at *
  generalize s.x.src=n at *
  obtain ⟨n,rfl⟩:=Int.eq_ofNat_of_zero_le hs.1
  rw [Int.toNat_natCast] at c
  have hs2:(n:Int) < 16:=hs.2
  have hs3:n < 16:=by omega
  clear hs
  clear hr hO
  go_enter Tryd.func85,Tryd.ntmps85
  go_wp2_with fail
  go_quiet (fail)
  go_wp2_with fail
  go_ret
  exact ⟨rfl,below_drewN (Below.refl _ W) _⟩
set_option maxHeartbeats 2000000 in
theorem operand_26 (s:Ex) (g:Nat) (W:World) (hr:W.heap[g]?=some (.cells (exC s) 75 (0,0))) (hs:0 ≤ s.x.src ∧ s.x.src < 16) (hO:s.x.op=26):Calls Tryd.prog 85 #[.pointer (some ⟨g,0,none⟩)] W fun e w'=>e=.returned (.int .u64 (s.l)) ∧ Below W.heap.size W w':=by
  have co:W.cell? ⟨g,22,none⟩=some (.int .i8 s.x.op):=ex_cell hr 22 rfl
  rw [hO] at co
  have c:W.cell? ⟨g,30,none⟩=some (.int .u64 s.l):=ex_cell hr 30 rfl
  generalize s.l=v at *
  clear hr hO hs
  go_enter Tryd.func85,Tryd.ntmps85
  go_wp2
  go_ret
  exact ⟨rfl,Below.refl _ _⟩
set_option maxHeartbeats 2000000 in
theorem operand_27 (s:Ex) (g:Nat) (W:World) (hr:W.heap[g]?=some (.cells (exC s) 75 (0,0))) (hs:0 ≤ s.x.src ∧ s.x.src < 16) (hO:s.x.op=27):Calls Tryd.prog 85 #[.pointer (some ⟨g,0,none⟩)] W fun e w'=>e=.returned (.int .u64 (IntKind.u64.wrap s.x.imm)) ∧ Below W.heap.size W w':=by
  have co:W.cell? ⟨g,22,none⟩=some (.int .i8 s.x.op):=ex_cell hr 22 rfl
  rw [hO] at co
  have c:W.cell? ⟨g,28,none⟩=some (.int .i64 s.x.imm):=ex_cell hr 28 rfl
  generalize s.x.imm=v at *
  rw [IntKind.wrap_u64]
  clear hr hO hs
  go_enter Tryd.func85,Tryd.ntmps85
  go_wp2
  go_ret
  exact ⟨rfl,Below.refl _ _⟩
set_option maxHeartbeats 2000000 in
theorem operand_28 (s:Ex) (g:Nat) (W:World) (hr:W.heap[g]?=some (.cells (exC s) 75 (0,0))) (hs:0 ≤ s.x.src ∧ s.x.src < 16) (hO:s.x.op=28):Calls Tryd.prog 85 #[.pointer (some ⟨g,0,none⟩)] W fun e w'=>e=.returned (.int .u64 (IntKind.u64.wrap s.x.imm)) ∧ Below W.heap.size W w':=by
  have co:W.cell? ⟨g,22,none⟩=some (.int .i8 s.x.op):=ex_cell hr 22 rfl
  rw [hO] at co
  have c:W.cell? ⟨g,28,none⟩=some (.int .i64 s.x.imm):=ex_cell hr 28 rfl
  generalize s.x.imm=v at *
  rw [IntKind.wrap_u64]
  clear hr hO hs
  go_enter Tryd.func85,Tryd.ntmps85
  go_wp2
  go_ret
  exact ⟨rfl,Below.refl _ _⟩
set_option maxHeartbeats 2000000 in
theorem operand_29 (s:Ex) (g:Nat) (W:World) (hr:W.heap[g]?=some (.cells (exC s) 75 (0,0))) (hs:0 ≤ s.x.src ∧ s.x.src < 16) (hO:s.x.op=29):Calls Tryd.prog 85 #[.pointer (some ⟨g,0,none⟩)] W fun e w'=>e=.returned (.int .u64 (IntKind.u64.wrap s.x.imm)) ∧ Below W.heap.size W w':=by
  have co:W.cell? ⟨g,22,none⟩=some (.int .i8 s.x.op):=ex_cell hr 22 rfl
  rw [hO] at co
  have c:W.cell? ⟨g,28,none⟩=some (.int .i64 s.x.imm):=ex_cell hr 28 rfl
  generalize s.x.imm=v at *
  rw [IntKind.wrap_u64]
  clear hr hO hs
  go_enter Tryd.func85,Tryd.ntmps85
  go_wp2
  go_ret
  exact ⟨rfl,Below.refl _ _⟩
set_option maxHeartbeats 2000000 in
theorem operand_30 (s:Ex) (g:Nat) (W:World) (hr:W.heap[g]?=some (.cells (exC s) 75 (0,0))) (hs:0 ≤ s.x.src ∧ s.x.src < 16) (hO:s.x.op=30):Calls Tryd.prog 85 #[.pointer (some ⟨g,0,none⟩)] W fun e w'=>e=.returned (.int .u64 (s.l)) ∧ Below W.heap.size W w':=by
  have co:W.cell? ⟨g,22,none⟩=some (.int .i8 s.x.op):=ex_cell hr 22 rfl
  rw [hO] at co
  have c:W.cell? ⟨g,30,none⟩=some (.int .u64 s.l):=ex_cell hr 30 rfl
  generalize s.l=v at *
  clear hr hO hs
  go_enter Tryd.func85,Tryd.ntmps85
  go_wp2
  go_ret
  exact ⟨rfl,Below.refl _ _⟩
set_option maxHeartbeats 2000000 in
theorem operand_31 (s:Ex) (g:Nat) (W:World) (hr:W.heap[g]?=some (.cells (exC s) 75 (0,0))) (hs:0 ≤ s.x.src ∧ s.x.src < 16) (hO:s.x.op=31):Calls Tryd.prog 85 #[.pointer (some ⟨g,0,none⟩)] W fun e w'=>e=.returned (.int .u64 (s.l)) ∧ Below W.heap.size W w':=by
  have co:W.cell? ⟨g,22,none⟩=some (.int .i8 s.x.op):=ex_cell hr 22 rfl
  rw [hO] at co
  have c:W.cell? ⟨g,30,none⟩=some (.int .u64 s.l):=ex_cell hr 30 rfl
  generalize s.l=v at *
  clear hr hO hs
  go_enter Tryd.func85,Tryd.ntmps85
  go_wp2
  go_ret
  exact ⟨rfl,Below.refl _ _⟩
end Go.Proofs.YtoghjpliemidkaaDoor.Exe
