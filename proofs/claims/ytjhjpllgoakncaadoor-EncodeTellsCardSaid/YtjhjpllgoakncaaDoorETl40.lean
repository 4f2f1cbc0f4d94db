import Derived.Test.YtjhjpllgoakncaaDoorETl30
import Derived.Test.YtjhjpllgoakncaaDoorETl39
set_option linter.unusedVariables false
set_option linter.unusedSimpArgs false
set_option linter.unnecessarySimpa false
namespace Go.Proofs.YtjhjpllgoakncaaDoor.Mrm
open Go Go.RowKit
set_option linter.unusedVariables false
set_option linter.unusedSimpArgs false
set_option linter.unnecessarySimpa false
set_option maxRecDepth 100000
theorem p2_wrap {d:Int} (h:0 ≤ d ∧ d < 16):wrap64 (2 ^ d.toNat)=2 ^ d.toNat:=by
  obtain ⟨h0,h1⟩:=h
  have:=(show ∀ k:Fin 16,wrap64 ((2:Int) ^ k.1)=(2:Int) ^ k.1 by decide +kernel) ⟨d.toNat,by omega⟩
  exact this
theorem p2_or0 {d:Int} (h:0 ≤ d ∧ d < 16):bits .or .i64 0 (2 ^ d.toNat)=2 ^ d.toNat:=by
  obtain ⟨h0,h1⟩:=h
  have:=(show ∀ k:Fin 16,bits .or .i64 0 ((2:Int) ^ k.1)=(2:Int) ^ k.1 by decide +kernel) ⟨d.toNat,by omega⟩
  exact this
theorem p2_div {d:Int} (h:0 ≤ d ∧ d < 16):bits .or .i64 (bits .or .i64 (bits .or .i64 0 1) 4) (2 ^ d.toNat)=bits .or .i64 (bits .or .i64 (2 ^ d.toNat) 1) 4:=by
  obtain ⟨h0,h1⟩:=h
  have:=(show ∀ k:Fin 16,bits .or .i64 (bits .or .i64 (bits .or .i64 0 1) 4) ((2:Int) ^ k.1)=bits .or .i64 (bits .or .i64 ((2:Int) ^ k.1) 1) 4 by decide +kernel) ⟨d.toNat,by omega⟩
  exact this
set_option maxHeartbeats 4000000 in
theorem set_1 (r0 q0:Int) (b:Nat) (W:World) (h0:0 ≤ r0 ∧ r0 < 16) (e0:wrap64 (2 ^ r0.toNat)=q0) (hr:W.heap[b]?=some (.cells #[.int .i8 r0] 22 (0,0))):
    Calls Tryd.prog 42 #[.slice (some ⟨b,0,none⟩) 1 1] W fun e w'=>e=.returned (.int .i64 (bits .or .i64 0 q0)) ∧ W=w':=by
  have HR:=Lib.hid hr
  clear hr
  have c0:W.cell? ⟨b,0,none⟩=some (.int .i8 r0):=by
    simp only [World.cell?,HR.out]
    rfl
  obtain ⟨h0a,h0b⟩:=h0
  go_enter Tryd.func42,Tryd.ntmps42
  go_wp2_with fail
  refine wp_loop_rounds 2 ?_
  rw [rounds_succ]
  go_wp2_with fail
  rw [rounds_succ]
  go_wp2_with fail
  go_ret
  exact ⟨rfl,rfl⟩
set_option maxHeartbeats 4000000 in
theorem set_2 (r0 r1 q0 q1:Int) (b:Nat) (W:World) (h0:0 ≤ r0 ∧ r0 < 16) (e0:wrap64 (2 ^ r0.toNat)=q0) (h1:0 ≤ r1 ∧ r1 < 16) (e1:wrap64 (2 ^ r1.toNat)=q1) (hr:W.heap[b]?=some (.cells #[.int .i8 r0,.int .i8 r1] 22 (0,0))):
    Calls Tryd.prog 42 #[.slice (some ⟨b,0,none⟩) 2 2] W fun e w'=>e=.returned (.int .i64 (bits .or .i64 (bits .or .i64 0 q0) q1)) ∧ W=w':=by
  have HR:=Lib.hid hr
  clear hr
  obtain ⟨c0,c1⟩:W.cell? ⟨b,0,none⟩=some (.int .i8 r0) ∧ W.cell? ⟨b,1,none⟩=some (.int .i8 r1):=by
    simp only [World.cell?,HR.out]
    exact ⟨rfl,rfl⟩
  obtain ⟨h0a,h0b⟩:=h0
  obtain ⟨h1a,h1b⟩:=h1
  go_enter Tryd.func42,Tryd.ntmps42
  go_wp2_with fail
  refine wp_loop_rounds 3 ?_
  rw [rounds_succ]
  go_wp2_with fail
  rw [rounds_succ]
  go_wp2_with fail
  rw [rounds_succ]
  go_wp2_with fail
  go_ret
  exact ⟨rfl,rfl⟩
set_option maxHeartbeats 4000000 in
theorem set_3 (r0 r1 r2 q0 q1 q2:Int) (b:Nat) (W:World) (h0:0 ≤ r0 ∧ r0 < 16) (e0:wrap64 (2 ^ r0.toNat)=q0) (h1:0 ≤ r1 ∧ r1 < 16) (e1:wrap64 (2 ^ r1.toNat)=q1) (h2:0 ≤ r2 ∧ r2 < 16) (e2:wrap64 (2 ^ r2.toNat)=q2) (hr:W.heap[b]?=some (.cells #[.int .i8 r0,.int .i8 r1,.int .i8 r2] 22 (0,0))):
    Calls Tryd.prog 42 #[.slice (some ⟨b,0,none⟩) 3 3] W fun e w'=>e=.returned (.int .i64 (bits .or .i64 (bits .or .i64 (bits .or .i64 0 q0) q1) q2)) ∧ W=w':=by
  have HR:=Lib.hid hr
  clear hr
  obtain ⟨c0,c1,c2⟩:W.cell? ⟨b,0,none⟩=some (.int .i8 r0) ∧ W.cell? ⟨b,1,none⟩=some (.int .i8 r1) ∧ W.cell? ⟨b,2,none⟩=some (.int .i8 r2):=by
    simp only [World.cell?,HR.out]
    exact ⟨rfl,rfl,rfl⟩
  obtain ⟨h0a,h0b⟩:=h0
  obtain ⟨h1a,h1b⟩:=h1
  obtain ⟨h2a,h2b⟩:=h2
  go_enter Tryd.func42,Tryd.ntmps42
  go_wp2_with fail
  refine wp_loop_rounds 4 ?_
  rw [rounds_succ]
  go_wp2_with fail
  rw [rounds_succ]
  go_wp2_with fail
  rw [rounds_succ]
  go_wp2_with fail
  rw [rounds_succ]
  go_wp2_with fail
  go_ret
  exact ⟨rfl,rfl⟩
set_option maxHeartbeats 4000000 in
theorem set_6 (r0 r1 r2 r3 r4 r5 q0 q1 q2 q3 q4 q5:Int) (b:Nat) (W:World) (h0:0 ≤ r0 ∧ r0 < 16) (e0:wrap64 (2 ^ r0.toNat)=q0) (h1:0 ≤ r1 ∧ r1 < 16) (e1:wrap64 (2 ^ r1.toNat)=q1) (h2:0 ≤ r2 ∧ r2 < 16) (e2:wrap64 (2 ^ r2.toNat)=q2) (h3:0 ≤ r3 ∧ r3 < 16) (e3:wrap64 (2 ^ r3.toNat)=q3) (h4:0 ≤ r4 ∧ r4 < 16) (e4:wrap64 (2 ^ r4.toNat)=q4) (h5:0 ≤ r5 ∧ r5 < 16) (e5:wrap64 (2 ^ r5.toNat)=q5) (hr:W.heap[b]?=some (.cells #[.int .i8 r0,.int .i8 r1,.int .i8 r2,.int .i8 r3,.int .i8 r4,.int .i8 r5] 22 (0,0))):
    Calls Tryd.prog 42 #[.slice (some ⟨b,0,none⟩) 6 6] W fun e w'=>e=.returned (.int .i64 (bits .or .i64 (bits .or .i64 (bits .or .i64 (bits .or .i64 (bits .or .i64 (bits .or .i64 0 q0) q1) q2) q3) q4) q5)) ∧ W=w':=by
  have HR:=Lib.hid hr
  clear hr
  obtain ⟨c0,c1,c2,c3,c4,c5⟩:W.cell? ⟨b,0,none⟩=some (.int .i8 r0) ∧ W.cell? ⟨b,1,none⟩=some (.int .i8 r1) ∧ W.cell? ⟨b,2,none⟩=some (.int .i8 r2) ∧ W.cell? ⟨b,3,none⟩=some (.int .i8 r3) ∧ W.cell? ⟨b,4,none⟩=some (.int .i8 r4) ∧ W.cell? ⟨b,5,none⟩=some (.int .i8 r5):=by
    simp only [World.cell?,HR.out]
    exact ⟨rfl,rfl,rfl,rfl,rfl,rfl⟩
  obtain ⟨h0a,h0b⟩:=h0
  obtain ⟨h1a,h1b⟩:=h1
  obtain ⟨h2a,h2b⟩:=h2
  obtain ⟨h3a,h3b⟩:=h3
  obtain ⟨h4a,h4b⟩:=h4
  obtain ⟨h5a,h5b⟩:=h5
  go_enter Tryd.func42,Tryd.ntmps42
  go_wp2_with fail
  refine wp_loop_rounds 7 ?_
  rw [rounds_succ]
  go_wp2_with fail
  rw [rounds_succ]
  go_wp2_with fail
  rw [rounds_succ]
  go_wp2_with fail
  rw [rounds_succ]
  go_wp2_with fail
  rw [rounds_succ]
  go_wp2_with fail
  rw [rounds_succ]
  go_wp2_with fail
  rw [rounds_succ]
  go_wp2_with fail
  go_ret
  exact ⟨rfl,rfl⟩
end Go.Proofs.YtjhjpllgoakncaaDoor.Mrm
