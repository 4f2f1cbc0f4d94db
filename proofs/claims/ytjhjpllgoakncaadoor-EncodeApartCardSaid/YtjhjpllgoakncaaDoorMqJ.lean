/-
  Layer 12: operands read (modrm.Read), as contracts. (Written by gen_mrj.py.)
-/
import Derived.Test.YtjhjpllgoakncaaDoorMqI
namespace Go.Proofs.YtjhjpllgoakncaaDoor.Mrm
open Go.RowKit
set_option linter.unusedVariables false
set_option linter.unnecessarySimpa false
set_option linter.unusedSimpArgs false
set_option maxRecDepth 100000

def rdV (r m d : Int) (mem : Bool) (n e : Int) : Value := .tuple #[.int .i8 r, .int .i8 m, .int .i64 d, .bool mem, .int .i64 n, .int .i64 e]
/-- What stands at an operand's first byte. -/
def atN (b : Int) : Nat := if b % 8 = 4 then 2 else 1
def memOk (l : List Int) : Bool := decide (l.getD 0 0 < 192) && (decide (atN (l.getD 0 0) + 4 ≤ l.length) && (decide (¬ l.getD 0 0 % 8 = 4) || decide (l.getD 1 0 = 36)))
def regOk (l : List Int) : Bool := decide (192 ≤ l.getD 0 0)
/-- What Read answers. -/
def readV (l : List Int) : Value :=
  if regOk l = true then rdV (l.getD 0 0 / 8 % 8) (l.getD 0 0 % 8) 0 false 1 0 else
  if (decide (128 ≤ l.getD 0 0) && memOk l) = true then rdV (l.getD 0 0 / 8 % 8) (l.getD 0 0 % 8) (sgn ((l.drop (atN (l.getD 0 0))).take 4)) true (atN (l.getD 0 0) + 4 : Nat) 0
  else rdV 0 0 0 false 0 30
set_option maxHeartbeats 2000000 in
theorem read_nil  (W : World) : Calls Tryd.prog 82 #[.slice none 0 0] W fun e w' => e = .returned (rdV 0 0 0 false 0 30) ∧ Below W.heap.size W w' := by
  go_enter Tryd.func82, Tryd.ntmps82
  go_wp2_with fail
  (try simp only [Exit.inBlock, Exit.then]); refine bodyPost_ret (results_tmp6 rfl _ _ _) rfl ?_
  exact ⟨rfl, Below.refl _ _⟩
set_option maxHeartbeats 2000000 in
theorem read_zero (x : Addr) (c : Nat) (hc : c ≤ 9223372036854775807) (W : World) : Calls Tryd.prog 82 #[.slice (some x) 0 c] W fun e w' => e = .returned (rdV 0 0 0 false 0 30) ∧ Below W.heap.size W w' := by
  go_enter Tryd.func82, Tryd.ntmps82
  go_wp2_with fail
  (try simp only [Exit.inBlock, Exit.then]); refine bodyPost_ret (results_tmp6 rfl _ _ _) rfl ?_
  exact ⟨rfl, Below.refl _ _⟩
set_option maxHeartbeats 2000000 in
theorem read_low (B o len cap : Nat) (z : Int) (h1 : 1 ≤ len) (hc : len ≤ cap) (hm : cap ≤ 9223372036854775807) (z0 : 0 ≤ z) (z1 : z < 256) (hz : z < 128) (W : World) (cz : W.cell? ⟨B, o, none⟩ = some (.int .u8 z)) : Calls Tryd.prog 82 #[.slice (some ⟨B, o, none⟩) len cap] W fun e w' => e = .returned (rdV 0 0 0 false 0 30) ∧ Below W.heap.size W w' := by
  have e0 : ((len : Int) == 0) = false := by simpa using (by omega : ¬ len = 0)
  have hl0 : (0 : Nat) < len := by omega
  go_enter Tryd.func82, Tryd.ntmps82
  go_wp2_with fail
  (try simp only [Exit.inBlock, Exit.then]); refine bodyPost_ret (results_tmp6 rfl _ _ _) rfl ?_
  exact ⟨rfl, Below.refl _ _⟩
set_option maxHeartbeats 2000000 in
theorem read_reg (B o len cap : Nat) (z : Int) (h1 : 1 ≤ len) (hc : len ≤ cap) (hm : cap ≤ 9223372036854775807) (z0 : 0 ≤ z) (z1 : z < 256) (hz : 192 ≤ z) (W : World) (cz : W.cell? ⟨B, o, none⟩ = some (.int .u8 z)) : Calls Tryd.prog 82 #[.slice (some ⟨B, o, none⟩) len cap] W fun e w' => e = .returned (rdV (z / 8 % 8) (z % 8) 0 false 1 0) ∧ Below W.heap.size W w' := by
  have e0 : ((len : Int) == 0) = false := by simpa using (by omega : ¬ len = 0)
  have hl0 : (0 : Nat) < len := by omega
  have hz2 : 128 ≤ z := by omega
  go_enter Tryd.func82, Tryd.ntmps82
  go_wp2_with fail
  go_quiet (fail)
  go_wp2_with fail
  (try simp only [Exit.inBlock, Exit.then]); refine bodyPost_ret (results_tmp6 rfl _ _ _) rfl ?_
  exact ⟨rfl, below_drews (Below.refl _ _) _⟩
theorem between_no (m : Int) (h : ¬ m % 8 = 4) (W : World) (h0 : 0 ≤ m) (h1 : m < 16) : Calls Tryd.prog 77 #[.int .i8 m] W fun e w' => e = .returned (.slice none 0 0) ∧ W = w' := by
  have eb : (m % 8 == 4) = false := by simpa using h
  clear h
  go_enter Tryd.func77, Tryd.ntmps77
  go_wp2
  go_ret
  exact ⟨rfl, rfl⟩
theorem between_4 (W : World) : Calls Tryd.prog 77 #[.int .i8 4] W fun e w' => e = .returned (.slice (some ⟨W.heap.size, 0, none⟩) 1 1) ∧ w' = W.alloc (.cells #[.int .u8 36] 5) := by
  go_enter Tryd.func77, Tryd.ntmps77
  go_wp2
  go_ret
  exact ⟨rfl, rfl⟩
theorem at_cut {W : World} {B o len cap : Nat} {zs : List Int} (h : BytesAt W (some ⟨B, o, none⟩) len cap zs) (k m c : Nat) (hk : k + m ≤ len) (hm : m ≤ c) (hc : c ≤ 9223372036854775807) : BytesAt W (some ⟨B, o + k, none⟩) m c ((zs.drop k).take m) := by
  have hl := h.size
  refine ⟨by simp; omega, hm, hc, fun h0 => ⟨B, o + k, rfl, fun j z hz => ?_⟩, fun z hz => h.ok z (List.mem_of_mem_drop (List.mem_of_mem_take hz)), fun h => by cases h⟩
  have hj : j < m := by have := (List.getElem?_eq_some_iff.1 hz).1; simp at this; omega
  rw [List.getElem?_take_of_lt hj, List.getElem?_drop] at hz
  obtain ⟨b', o', e, hcell⟩ := h.here (by omega)
  injection e with e
  injection e with e1 e2
  subst e1 e2
  rw [Nat.add_assoc]
  exact hcell _ _ hz
theorem between_b (W : World) : Calls Tryd.prog 77 #[.int .i8 4] W fun e w' => ∃ g, e = .returned (.slice (some ⟨g, 0, none⟩) 1 1) ∧ w'.cell? ⟨g, 0, none⟩ = some (.int .u8 36) ∧ Below W.heap.size W w' :=
  (between_4 W).mono fun e w' ⟨h1, h2⟩ => ⟨_, h1, by rw [h2]; unfold World.cell?; rw [heap_last W _ _ rfl]; rfl, by rw [h2]; exact below_new (Below.refl _ _) _⟩
theorem cell_b {W w : World} {B o : Nat} {v : Value} (h : W.cell? ⟨B, o, none⟩ = some v) (b : Below W.heap.size W w) : w.cell? ⟨B, o, none⟩ = some v := (b.cell (p := ⟨B, o, none⟩) (lt_cell h)).trans h
set_option maxHeartbeats 2000000 in
theorem read_e0 (B o len cap : Nat) (z : Int) (h1 : 1 ≤ len) (hc : len ≤ cap) (hm : cap ≤ 9223372036854775807) (z0 : 0 ≤ z) (z1 : z < 256) (hz : 128 ≤ z) (hz2 : z < 192) (hz3 : ¬ z % 8 = 4) (hc1 : cap = 1) (W : World) (cz : W.cell? ⟨B, o, none⟩ = some (.int .u8 z)) : Calls Tryd.prog 82 #[.slice (some ⟨B, o, none⟩) len cap] W fun e w' => e = .returned (rdV 0 0 0 false 0 30) ∧ Below W.heap.size W w' := by
  have e0 : ((len : Int) == 0) = false := by simpa using (by omega : ¬ len = 0)
  have hl0 : (0 : Nat) < len := by omega
  have BT := Lib.hid (fun W => between_no (z % 8) (by omega) W (by omega) (by omega))
  have CU := Lib.hid (fun W => cut_nil0 B o W)
  subst hc1
  obtain rfl : len = 1 := by omega
  clear hz3
  go_enter Tryd.func82, Tryd.ntmps82
  go_wp2_with fail
  go_quiet (fail)
  go_wp2_with fail
  go_quiet (first | (go_at_call 77; exact quiet3 (BT.out _)) | (go_at_call 80; exact quiet3 (CU.out _)))
  go_wp2_with fail
  (try simp only [Exit.inBlock, Exit.then]); refine bodyPost_ret (results_tmp6 rfl _ _ _) rfl ?_
  exact ⟨rfl, below_drews (Below.refl _ _) _⟩
set_option maxHeartbeats 2000000 in
theorem read_e1 (B o len cap : Nat) (z : Int) (h1 : 1 ≤ len) (hc : len ≤ cap) (hm : cap ≤ 9223372036854775807) (z0 : 0 ≤ z) (z1 : z < 256) (hz : 128 ≤ z) (hz2 : z < 192) (hz3 : ¬ z % 8 = 4) (hc1 : 1 < cap) (hs : len < 5) (W : World) (cz : W.cell? ⟨B, o, none⟩ = some (.int .u8 z)) : Calls Tryd.prog 82 #[.slice (some ⟨B, o, none⟩) len cap] W fun e w' => e = .returned (rdV 0 0 0 false 0 30) ∧ Below W.heap.size W w' := by
  have e0 : ((len : Int) == 0) = false := by simpa using (by omega : ¬ len = 0)
  have hl0 : (0 : Nat) < len := by omega
  have BT := Lib.hid (fun W => between_no (z % 8) (by omega) W (by omega) (by omega))
  have CU := Lib.hid (fun W => cut_nil B (o + 1) (len - 1) (cap - 1) W (by omega) (by omega) (by omega))
  have hl1 : len - 1 < 4 := by omega
  clear hz3
  go_enter Tryd.func82, Tryd.ntmps82
  go_wp2_with fail
  go_quiet (fail)
  go_wp2_with fail
  go_quiet (first | (go_at_call 77; exact quiet3 (BT.out _)) | (go_at_call 80; exact quiet3 (CU.out _)))
  go_wp2_with fail
  (try simp only [Exit.inBlock, Exit.then]); refine bodyPost_ret (results_tmp6 rfl _ _ _) rfl ?_
  exact ⟨rfl, below_drews (Below.refl _ _) _⟩
set_option maxHeartbeats 2000000 in
theorem read_m1 (B o len cap : Nat) (z : Int) (h1 : 1 ≤ len) (hc : len ≤ cap) (hm : cap ≤ 9223372036854775807) (z0 : 0 ≤ z) (z1 : z < 256) (zs : List Int) (hz : 128 ≤ z) (hz2 : z < 192) (hz3 : ¬ z % 8 = 4) (hs : 5 ≤ len) (W : World) (cz : W.cell? ⟨B, o, none⟩ = some (.int .u8 z)) (hE : BytesAt W (some ⟨B, o, none⟩) len cap zs) : Calls Tryd.prog 82 #[.slice (some ⟨B, o, none⟩) len cap] W fun e w' => e = .returned (rdV (z / 8 % 8) (z % 8) (sgn ((zs.drop 1).take 4)) true 5 0) ∧ Below W.heap.size W w' := by
  have e0 : ((len : Int) == 0) = false := by simpa using (by omega : ¬ len = 0)
  have hl0 : (0 : Nat) < len := by omega
  have BT := Lib.hid (fun W => between_no (z % 8) (by omega) W (by omega) (by omega))
  have CU := Lib.hid (fun W => cut_nil B (o + 1) (len - 1) (cap - 1) W (by omega) (by omega) (by omega))
  have SG := Lib.hid (fun w' b => signed_n _ _ _ _ w' ((at_cut hE 1 4 4 (by omega) (by omega) (by omega)).below (w := w') b))
  have hl1 : 4 ≤ len - 1 := by omega
  have hl2 : 4 ≤ cap - 1 := by omega
  have hl3 : 1 < cap := by omega
  clear hz3 hE
  generalize sgn ((zs.drop 1).take 4) = sv at *
  go_enter Tryd.func82, Tryd.ntmps82
  go_wp2_with fail
  go_quiet (fail)
  go_wp2_with fail
  go_quiet (first | (go_at_call 77; exact quiet3 (BT.out _)) | (go_at_call 80; exact quiet3 (CU.out _)))
  go_wp2_with fail
  refine (SG.out _ (below_drews (Below.refl _ _) _)).mono ?_
  rintro e w1 ⟨rfl, rfl⟩
  go_wp2_with fail
  (try simp only [Exit.inBlock, Exit.then]); refine bodyPost_ret (results_tmp6 rfl _ _ _) rfl ?_
  exact ⟨retV (show rdV (z / 8 % 8) (z % 8) sv true ((len : Int) - ((len - 1 : Nat) : Int) + 4) 0 = _ by rw [show (len : Int) - ((len - 1 : Nat) : Int) + 4 = 5 by omega]), below_drews (Below.refl _ _) _⟩
set_option maxHeartbeats 4000000 in
theorem read_40 (B o len cap : Nat) (z : Int) (h1 : 1 ≤ len) (hc : len ≤ cap) (hm : cap ≤ 9223372036854775807) (z0 : 0 ≤ z) (z1 : z < 256) (hz : 128 ≤ z) (hz2 : z < 192) (hz3 : z % 8 = 4) (hc1 : cap = 1) (W : World) (cz : W.cell? ⟨B, o, none⟩ = some (.int .u8 z)) : Calls Tryd.prog 82 #[.slice (some ⟨B, o, none⟩) len cap] W fun e w' => e = .returned (rdV 0 0 0 false 0 30) ∧ Below W.heap.size W w' := by
  have e0 : ((len : Int) == 0) = false := by simpa using (by omega : ¬ len = 0)
  have hl0 : (0 : Nat) < len := by omega
  have BT := Lib.hid (fun W => between_b W)
  have CU := Lib.hid (fun g W => cut_none B o 0 g W (by omega))
  subst hc1
  obtain rfl : len = 1 := by omega
  go_enter Tryd.func82, Tryd.ntmps82
  go_wp2_with fail
  go_quiet (fail)
  go_wp2_with fail
  have B1 := Lib.hid (below_drews (Below.refl W.heap.size W) nq)
  generalize W.drewN nq = W1 at *
  go_region_held3 (fun w' => Below W1.heap.size W1 w') ((repeat' (first | assumption | exact B1.out | exact Below.refl _ _ | apply Below.drew | (refine below_call ?_ b1)))) (first
    | (go_at_call 77; refine (BT.out _).mono ?_; rintro e w1 ⟨g, rfl, c1, b1⟩)
    | (go_at_call 80; refine (CU.out _ _).mono ?_; rintro e w2 ⟨rfl, rfl⟩))
  all_goals (
  go_wp2_with fail
  (try simp only [Exit.inBlock, Exit.then]); refine bodyPost_ret (results_tmp6 rfl _ _ _) rfl ?_
  exact ⟨rfl, by repeat' (first | assumption | exact B1.out | exact Below.refl _ _ | apply Below.drew | (refine below_call ?_ b1))⟩)
set_option maxHeartbeats 4000000 in
theorem read_41 (B o len cap : Nat) (z : Int) (h1 : 1 ≤ len) (hc : len ≤ cap) (hm : cap ≤ 9223372036854775807) (z0 : 0 ≤ z) (z1 : z < 256) (hz : 128 ≤ z) (hz2 : z < 192) (hz3 : z % 8 = 4) (hc1 : 1 < cap) (hl1 : len = 1) (W : World) (cz : W.cell? ⟨B, o, none⟩ = some (.int .u8 z)) : Calls Tryd.prog 82 #[.slice (some ⟨B, o, none⟩) len cap] W fun e w' => e = .returned (rdV 0 0 0 false 0 30) ∧ Below W.heap.size W w' := by
  have e0 : ((len : Int) == 0) = false := by simpa using (by omega : ¬ len = 0)
  have hl0 : (0 : Nat) < len := by omega
  have BT := Lib.hid (fun W => between_b W)
  have CU := Lib.hid (fun g W => cut_none B (o + 1) (cap - 1) g W (by omega))
  subst hl1
  go_enter Tryd.func82, Tryd.ntmps82
  go_wp2_with fail
  go_quiet (fail)
  go_wp2_with fail
  have B1 := Lib.hid (below_drews (Below.refl W.heap.size W) nq)
  generalize W.drewN nq = W1 at *
  go_region_held3 (fun w' => Below W1.heap.size W1 w') ((repeat' (first | assumption | exact B1.out | exact Below.refl _ _ | apply Below.drew | (refine below_call ?_ b1)))) (first
    | (go_at_call 77; refine (BT.out _).mono ?_; rintro e w1 ⟨g, rfl, c1, b1⟩)
    | (go_at_call 80; refine (CU.out _ _).mono ?_; rintro e w2 ⟨rfl, rfl⟩))
  all_goals (
  go_wp2_with fail
  (try simp only [Exit.inBlock, Exit.then]); refine bodyPost_ret (results_tmp6 rfl _ _ _) rfl ?_
  exact ⟨rfl, by repeat' (first | assumption | exact B1.out | exact Below.refl _ _ | apply Below.drew | (refine below_call ?_ b1))⟩)
set_option maxHeartbeats 4000000 in
theorem read_4n (B o len cap : Nat) (z : Int) (h1 : 1 ≤ len) (hc : len ≤ cap) (hm : cap ≤ 9223372036854775807) (z0 : 0 ≤ z) (z1 : z < 256) (hz : 128 ≤ z) (hz2 : z < 192) (hz3 : z % 8 = 4) (hl1 : 2 ≤ len) (W : World) (cz : W.cell? ⟨B, o, none⟩ = some (.int .u8 z)) (y : Int) (y0 : 0 ≤ y) (y1 : y < 256) (cy : W.cell? ⟨B, o + 1, none⟩ = some (.int .u8 y)) (hy : ¬ y = 36) : Calls Tryd.prog 82 #[.slice (some ⟨B, o, none⟩) len cap] W fun e w' => e = .returned (rdV 0 0 0 false 0 30) ∧ Below W.heap.size W w' := by
  have e0 : ((len : Int) == 0) = false := by simpa using (by omega : ¬ len = 0)
  have hl0 : (0 : Nat) < len := by omega
  have BT := Lib.hid (fun W => between_b W)
  have CU := Lib.hid (fun g w' (b : Below W.heap.size W w') c1 => cut_no B (o + 1) (len - 1) (cap - 1) g y 36 w' (by omega) (by omega) (by omega) ⟨y0, y1⟩ (by decide) (cell_b cy b) c1 hy)
  have hl3 : 1 < cap := by omega
  have hI1 : (1 : Int) ≤ (len : Int) := by omega
  have hI2 : (len : Int) ≤ (cap : Int) := by omega
  have hI3 : (1 : Int) ≤ (cap : Int) := by omega
  clear cy hy
  go_enter Tryd.func82, Tryd.ntmps82
  go_wp2_with fail
  go_quiet (fail)
  go_wp2_with fail
  have B1 := Lib.hid (below_drews (Below.refl W.heap.size W) nq)
  generalize W.drewN nq = W1 at *
  go_region_held3 (fun w' => Below W1.heap.size W1 w') ((repeat' (first | assumption | exact B1.out | exact Below.refl _ _ | apply Below.drew | (refine below_call ?_ b1)))) (first
    | (go_at_call 77; refine (BT.out _).mono ?_; rintro e w1 ⟨g, rfl, c1, b1⟩)
    | (go_at_call 80; refine (CU.out _ _ (by repeat' (first | assumption | exact B1.out | exact Below.refl _ _ | apply Below.drew | (refine below_call ?_ b1))) c1).mono ?_; rintro e w2 ⟨rfl, rfl⟩))
  all_goals (
  go_wp2_with fail
  (try simp only [Exit.inBlock, Exit.then]); refine bodyPost_ret (results_tmp6 rfl _ _ _) rfl ?_
  exact ⟨rfl, by repeat' (first | assumption | exact B1.out | exact Below.refl _ _ | apply Below.drew | (refine below_call ?_ b1))⟩)
set_option maxHeartbeats 4000000 in
theorem read_4e (B o len cap : Nat) (z : Int) (h1 : 1 ≤ len) (hc : len ≤ cap) (hm : cap ≤ 9223372036854775807) (z0 : 0 ≤ z) (z1 : z < 256) (hz : 128 ≤ z) (hz2 : z < 192) (hz3 : z % 8 = 4) (hl1 : 2 ≤ len) (hc1 : cap = 2) (W : World) (cz : W.cell? ⟨B, o, none⟩ = some (.int .u8 z)) (cy : W.cell? ⟨B, o + 1, none⟩ = some (.int .u8 36)) : Calls Tryd.prog 82 #[.slice (some ⟨B, o, none⟩) len cap] W fun e w' => e = .returned (rdV 0 0 0 false 0 30) ∧ Below W.heap.size W w' := by
  have e0 : ((len : Int) == 0) = false := by simpa using (by omega : ¬ len = 0)
  have hl0 : (0 : Nat) < len := by omega
  have BT := Lib.hid (fun W => between_b W)
  have CU := Lib.hid (fun g w' (b : Below W.heap.size W w') c1 => cut_end B (o + 1) g 36 w' (by decide) (cell_b cy b) c1)
  subst hc1
  obtain rfl : len = 2 := by omega
  clear cy
  go_enter Tryd.func82, Tryd.ntmps82
  go_wp2_with fail
  go_quiet (fail)
  go_wp2_with fail
  have B1 := Lib.hid (below_drews (Below.refl W.heap.size W) nq)
  generalize W.drewN nq = W1 at *
  go_region_held3 (fun w' => Below W1.heap.size W1 w') ((repeat' (first | assumption | exact B1.out | exact Below.refl _ _ | apply Below.drew | (refine below_call ?_ b1)))) (first
    | (go_at_call 77; refine (BT.out _).mono ?_; rintro e w1 ⟨g, rfl, c1, b1⟩)
    | (go_at_call 80; refine (CU.out _ _ (by repeat' (first | assumption | exact B1.out | exact Below.refl _ _ | apply Below.drew | (refine below_call ?_ b1))) c1).mono ?_; rintro e w2 ⟨rfl, rfl⟩))
  all_goals (
  go_wp2_with fail
  (try simp only [Exit.inBlock, Exit.then]); refine bodyPost_ret (results_tmp6 rfl _ _ _) rfl ?_
  exact ⟨rfl, by repeat' (first | assumption | exact B1.out | exact Below.refl _ _ | apply Below.drew | (refine below_call ?_ b1))⟩)
set_option maxHeartbeats 4000000 in
theorem read_4s (B o len cap : Nat) (z : Int) (h1 : 1 ≤ len) (hc : len ≤ cap) (hm : cap ≤ 9223372036854775807) (z0 : 0 ≤ z) (z1 : z < 256) (hz : 128 ≤ z) (hz2 : z < 192) (hz3 : z % 8 = 4) (hl1 : 2 ≤ len) (hc1 : 2 < cap) (hs : len < 6) (W : World) (cz : W.cell? ⟨B, o, none⟩ = some (.int .u8 z)) (cy : W.cell? ⟨B, o + 1, none⟩ = some (.int .u8 36)) : Calls Tryd.prog 82 #[.slice (some ⟨B, o, none⟩) len cap] W fun e w' => e = .returned (rdV 0 0 0 false 0 30) ∧ Below W.heap.size W w' := by
  have e0 : ((len : Int) == 0) = false := by simpa using (by omega : ¬ len = 0)
  have hl0 : (0 : Nat) < len := by omega
  have BT := Lib.hid (fun W => between_b W)
  have CU := Lib.hid (fun g w' (b : Below W.heap.size W w') (c1 : w'.cell? ⟨g, 0, none⟩ = some (.int .u8 36)) => show Calls Tryd.prog 80 #[.slice (some ⟨B, o + 1, none⟩) (len - 1) (cap - 1), .slice (some ⟨g, 0, none⟩) 1 1] w' fun e w'' => e = .returned (.tuple #[.slice (some ⟨B, o + 2, none⟩) (len - 2) (cap - 2), .bool true]) ∧ w' = w'' by
    have h := cut_one B (o + 1) (len - 1) (cap - 1) g 36 w' (by omega) (by omega) (by omega) (by omega) (by decide) (cell_b cy b) c1
    rw [show len - 1 - 1 = len - 2 by omega, show cap - 1 - 1 = cap - 2 by omega] at h
    exact h)
  have hl3 : 1 < cap := by omega
  have hI1 : (1 : Int) ≤ (len : Int) := by omega
  have hI2 : (len : Int) ≤ (cap : Int) := by omega
  have hI3 : (1 : Int) ≤ (cap : Int) := by omega
  clear cy
  have hl4 : len - 2 < 4 := by omega
  go_enter Tryd.func82, Tryd.ntmps82
  go_wp2_with fail
  go_quiet (fail)
  go_wp2_with fail
  have B1 := Lib.hid (below_drews (Below.refl W.heap.size W) nq)
  generalize W.drewN nq = W1 at *
  go_region_held3 (fun w' => Below W1.heap.size W1 w') ((repeat' (first | assumption | exact B1.out | exact Below.refl _ _ | apply Below.drew | (refine below_call ?_ b1)))) (first
    | (go_at_call 77; refine (BT.out _).mono ?_; rintro e w1 ⟨g, rfl, c1, b1⟩)
    | (go_at_call 80; refine (CU.out _ _ (by repeat' (first | assumption | exact B1.out | exact Below.refl _ _ | apply Below.drew | (refine below_call ?_ b1))) c1).mono ?_; rintro e w2 ⟨rfl, rfl⟩))
  all_goals (
  go_wp2_with fail
  (try simp only [Exit.inBlock, Exit.then]); refine bodyPost_ret (results_tmp6 rfl _ _ _) rfl ?_
  exact ⟨rfl, by repeat' (first | assumption | exact B1.out | exact Below.refl _ _ | apply Below.drew | (refine below_call ?_ b1))⟩)
set_option maxHeartbeats 4000000 in
theorem read_4y (B o len cap : Nat) (z : Int) (h1 : 1 ≤ len) (hc : len ≤ cap) (hm : cap ≤ 9223372036854775807) (z0 : 0 ≤ z) (z1 : z < 256) (hz : 128 ≤ z) (hz2 : z < 192) (hz3 : z % 8 = 4) (hs : 6 ≤ len) (W : World) (cz : W.cell? ⟨B, o, none⟩ = some (.int .u8 z)) (cy : W.cell? ⟨B, o + 1, none⟩ = some (.int .u8 36)) (zs : List Int) (hE : BytesAt W (some ⟨B, o, none⟩) len cap zs) : Calls Tryd.prog 82 #[.slice (some ⟨B, o, none⟩) len cap] W fun e w' => e = .returned (rdV (z / 8 % 8) (z % 8) (sgn ((zs.drop 2).take 4)) true 6 0) ∧ Below W.heap.size W w' := by
  have e0 : ((len : Int) == 0) = false := by simpa using (by omega : ¬ len = 0)
  have hl0 : (0 : Nat) < len := by omega
  have BT := Lib.hid (fun W => between_b W)
  have CU := Lib.hid (fun g w' (b : Below W.heap.size W w') (c1 : w'.cell? ⟨g, 0, none⟩ = some (.int .u8 36)) => show Calls Tryd.prog 80 #[.slice (some ⟨B, o + 1, none⟩) (len - 1) (cap - 1), .slice (some ⟨g, 0, none⟩) 1 1] w' fun e w'' => e = .returned (.tuple #[.slice (some ⟨B, o + 2, none⟩) (len - 2) (cap - 2), .bool true]) ∧ w' = w'' by
    have h := cut_one B (o + 1) (len - 1) (cap - 1) g 36 w' (by omega) (by omega) (by omega) (by omega) (by decide) (cell_b cy b) c1
    rw [show len - 1 - 1 = len - 2 by omega, show cap - 1 - 1 = cap - 2 by omega] at h
    exact h)
  have hl3 : 1 < cap := by omega
  have hI1 : (1 : Int) ≤ (len : Int) := by omega
  have hI2 : (len : Int) ≤ (cap : Int) := by omega
  have hI3 : (1 : Int) ≤ (cap : Int) := by omega
  clear cy
  have SG := Lib.hid (fun w' b => signed_n _ _ _ _ w' ((at_cut hE 2 4 4 (by omega) (by omega) (by omega)).below (w := w') b))
  have hl1 : 4 ≤ len - 2 := by omega
  have hl2 : 4 ≤ cap - 2 := by omega
  clear hE
  generalize sgn ((zs.drop 2).take 4) = sv at *
  go_enter Tryd.func82, Tryd.ntmps82
  go_wp2_with fail
  go_quiet (fail)
  go_wp2_with fail
  have B1 := Lib.hid (below_drews (Below.refl W.heap.size W) nq)
  generalize W.drewN nq = W1 at *
  go_region_held3 (fun w' => Below W1.heap.size W1 w') ((repeat' (first | assumption | exact B1.out | exact Below.refl _ _ | apply Below.drew | (refine below_call ?_ b1)))) (first
    | (go_at_call 77; refine (BT.out _).mono ?_; rintro e w1 ⟨g, rfl, c1, b1⟩)
    | (go_at_call 80; refine (CU.out _ _ (by repeat' (first | assumption | exact B1.out | exact Below.refl _ _ | apply Below.drew | (refine below_call ?_ b1))) c1).mono ?_; rintro e w2 ⟨rfl, rfl⟩))
  all_goals (
  go_wp2_with fail
  refine (SG.out _ (by repeat' (first | assumption | exact B1.out | exact Below.refl _ _ | apply Below.drew | (refine below_call ?_ b1)))).mono ?_
  rintro e w3 ⟨rfl, rfl⟩
  go_wp2_with fail
  (try simp only [Exit.inBlock, Exit.then]); refine bodyPost_ret (results_tmp6 rfl _ _ _) rfl ?_
  exact ⟨retV (show rdV (z / 8 % 8) 4 sv true ((len : Int) - ((len - 2 : Nat) : Int) + 4) 0 = _ by rw [show (len : Int) - ((len - 2 : Nat) : Int) + 4 = 6 by omega, hz3]), by repeat' (first | assumption | exact B1.out | exact Below.refl _ _ | apply Below.drew | (refine below_call ?_ b1))⟩)
end Go.Proofs.YtjhjpllgoakncaaDoor.Mrm
