/-
  latheref03.Read, case by case.
-/
import Derived.Test.YtbpefomjmjkciaaRinK
namespace Go.Proofs.Ytbpefomjmjkciaa.Ins
open Go.RowKit
set_option linter.unusedVariables false
set_option maxRecDepth 100000

set_option maxHeartbeats 4000000 in
theorem rr_0 (b off cap : Nat) (y lo hi : Int) (W : World) (n : Int) (h0 : 0 ≤ n) (h1 : n < 32) (hcap : 8 ≤ cap) (hcap2 : cap ≤ 9223372036854775807) (c0 : W.cell? ⟨b, off, none⟩ = some (.int .u8 n)) (R : Rest b off cap y lo hi W) :
    Calls Try.prog 13 #[.slice (some ⟨b, off, none⟩) 8 cap] W (RdR (In.mk 0 (n % 16) 64 0 (plainB n) (y % 16) (y / 16) (sgn16 lo) (sgn32 hi)) W) := by
  have a15 := and15I (c := n) (by omega) (by omega)
  have ao := w_i8 (p := n % 16) (by omega)
  have B := and16J (c := n) (by omega) (by omega)
  have hB : plainB n = decide (n / 16 % 2 = 1) := decide_eq_decide.2 (by omega)
  rw [← hB] at B
  clear hB
  generalize plainB n = bb at *
  have h63 : n < 64 := by omega
  generalize n % 16 = nl at *
  have c1 := R.c1
  have G2 := Lib.hid R.g2
  have G4 := Lib.hid R.g4
  have y15 := and15U R.y0 R.y1
  have yd := w_i8 (p := y % 16) (by have := R.y0; omega)
  have ys := w_i8 (p := y / 16) (by have := R.y0; have := R.y1; omega)
  have S16 := Lib.hid (fun W => rsign_16 lo R.lo0 R.lo1 W)
  have S32 := Lib.hid (fun W => rsign_32 hi R.hi0 R.hi1 W)
  have o16 := wsgn (p := sgn16 lo) (by have := R.lo0; have := R.lo1; unfold sgn16; split <;> omega)
  have o32 := wsgn (p := sgn32 hi) (by have := R.hi0; have := R.hi1; unfold sgn32; split <;> omega)
  have hb : b < W.heap.size := by
    rcases Nat.lt_or_ge b W.heap.size with h' | h'
    · exact h'
    · have e : W.heap[b]? = none := Array.getElem?_eq_none h'
      simp [World.cell?, e] at c1
  clear R
  generalize sgn16 lo = so at *
  generalize sgn32 hi = sh at *
  generalize so % 18446744073709551616 = p16 at *
  generalize sh % 18446744073709551616 = p32 at *
  generalize y % 16 = yl at *
  have M := Lib.hid (show ∀ w, Calls Try.prog 50 #[.agg #[.int .i8 0, .int .i8 nl, .int .i8 64, .int .i8 0, .bool bb, .int .i8 yl, .int .i8 (y / 16), .int .i64 so, .int .i64 sh]] w fun e w' => e = .returned (.bool (mayI (In.mk 0 nl 64 0 bb yl (y / 16) so sh))) ∧ Below w.heap.size w w' from fun w => r_may (In.mk 0 nl 64 0 bb yl (y / 16) so sh) w)
  unfold RdR ReadsAs
  generalize mayI (In.mk 0 nl 64 0 bb yl (y / 16) so sh) = my at *
  have L9 : (In.mk 0 nl 64 0 bb yl (y / 16) so sh).cells = #[.int .i8 0, .int .i8 nl, .int .i8 64, .int .i8 0, .bool bb, .int .i8 yl, .int .i8 (y / 16), .int .i64 so, .int .i64 sh] := rfl
  generalize In.mk 0 nl 64 0 bb yl (y / 16) so sh = x at *
  have LH := Lib.hid L9
  clear L9
  go_enter Try.func13, Try.ntmps13
  go_wp2_with fail
  refine (G2.out _ (by repeat' (first | exact Below.refl _ _ | refine below_new ?_ _ | refine Below.drew ?_))).mono ?_
  rintro e w' ⟨rfl, rfl⟩
  clear G2
  go_wp2_with fail
  refine (S16.out _).mono ?_
  rintro e w' ⟨rfl, rfl⟩
  clear S16
  go_wp2_with fail
  refine (G4.out _ (by repeat' (first | exact Below.refl _ _ | refine below_new ?_ _ | refine Below.drew ?_))).mono ?_
  rintro e w' ⟨rfl, rfl⟩
  clear G4
  go_wp2_with fail
  refine (S32.out _).mono ?_
  rintro e w' ⟨rfl, rfl⟩
  clear S32
  go_wp2_with fail
  refine (M.out _).mono ?_
  rintro e w3 ⟨rfl, b3⟩
  clear M
  have X3 := Lib.hid ((b3.block (W.heap.size + 1) (by simp)).trans (heap_last _ _ _ (by simp)))
  have R3 := Lib.hid ((b3.block W.heap.size (by simp; omega)).trans ((heap_past _ _ _ (by simp)).trans (heap_last W _ _ rfl)))
  have B3 := Lib.hid (below_call (below_new (below_new (Below.refl _ W) _) _) b3)
  clear b3 c0 c1 hb
  rw [← LH.out] at X3
  clear LH
  cases my
  case false =>
    go_wp2_with (with_reducible refine (halt_store 26 _ _ rfl ?_))
    refine ⟨?_, trivial⟩
    refine wpList_store_is rfl 26 _ _ rfl W.heap.size In.nil.cells rfl rfl 26 _ R3.out info_ins rfl (one_cells In.nil) ?_
    intro w7 s7
    obtain ⟨r0, r1, r2, r3, r4, r5, r6, r7, r8⟩ := nine_cells s7.row
    have B7 := Lib.hid (s7.below B3.out (Nat.le_refl _))
    clear s7 B3 X3 R3
    go_wp2_with fail
    refine bodyPost_ret (v := .tuple #[.agg In.nil.cells, .int .i64 31]) (by simp [results, Try.results13, go_sem, r0, r1, r2, r3, r4, r5, r6, r7, r8, In.cells]) rfl ⟨rfl, B7.out⟩
  case true =>
    go_wp2_with (with_reducible refine (halt_load 26 _ rfl ?_))
    refine ⟨?_, trivial⟩
    refine wpList_load_row rfl 26 _ rfl (W.heap.size + 1) rfl _ x.cells _ _ X3.out Try.underlying26 rfl info_ins ?_
    go_wp2_with (with_reducible refine (halt_store 26 _ _ rfl ?_))
    refine ⟨?_, trivial⟩
    refine wpList_store_is rfl 26 _ _ rfl W.heap.size x.cells rfl rfl 26 _ R3.out info_ins rfl (one_cells x) ?_
    intro w7 s7
    obtain ⟨r0, r1, r2, r3, r4, r5, r6, r7, r8⟩ := nine_cells s7.row
    have B7 := Lib.hid (s7.below B3.out (Nat.le_refl _))
    clear s7 B3 X3 R3
    go_wp2_with fail
    refine bodyPost_ret (v := .tuple #[.agg x.cells, .int .i64 0]) (by simp [results, Try.results13, go_sem, r0, r1, r2, r3, r4, r5, r6, r7, r8, In.cells]) rfl ⟨rfl, B7.out⟩

set_option maxHeartbeats 4000000 in
theorem rr_32 (b off cap : Nat) (y lo hi : Int) (W : World) (n : Int) (h0 : 32 ≤ n) (h1 : n < 64) (hcap : 8 ≤ cap) (hcap2 : cap ≤ 9223372036854775807) (c0 : W.cell? ⟨b, off, none⟩ = some (.int .u8 n)) (R : Rest b off cap y lo hi W) :
    Calls Try.prog 13 #[.slice (some ⟨b, off, none⟩) 8 cap] W (RdR (In.mk 0 (n % 16) 32 0 (plainB n) (y % 16) (y / 16) (sgn16 lo) (sgn32 hi)) W) := by
  have a15 := and15I (c := n) (by omega) (by omega)
  have ao := w_i8 (p := n % 16) (by omega)
  have B := and16J (c := n) (by omega) (by omega)
  have hB : plainB n = decide (n / 16 % 2 = 1) := decide_eq_decide.2 (by omega)
  rw [← hB] at B
  clear hB
  generalize plainB n = bb at *
  have h63 : n < 64 := by omega
  generalize n % 16 = nl at *
  have c1 := R.c1
  have G2 := Lib.hid R.g2
  have G4 := Lib.hid R.g4
  have y15 := and15U R.y0 R.y1
  have yd := w_i8 (p := y % 16) (by have := R.y0; omega)
  have ys := w_i8 (p := y / 16) (by have := R.y0; have := R.y1; omega)
  have S16 := Lib.hid (fun W => rsign_16 lo R.lo0 R.lo1 W)
  have S32 := Lib.hid (fun W => rsign_32 hi R.hi0 R.hi1 W)
  have o16 := wsgn (p := sgn16 lo) (by have := R.lo0; have := R.lo1; unfold sgn16; split <;> omega)
  have o32 := wsgn (p := sgn32 hi) (by have := R.hi0; have := R.hi1; unfold sgn32; split <;> omega)
  have hb : b < W.heap.size := by
    rcases Nat.lt_or_ge b W.heap.size with h' | h'
    · exact h'
    · have e : W.heap[b]? = none := Array.getElem?_eq_none h'
      simp [World.cell?, e] at c1
  clear R
  generalize sgn16 lo = so at *
  generalize sgn32 hi = sh at *
  generalize so % 18446744073709551616 = p16 at *
  generalize sh % 18446744073709551616 = p32 at *
  generalize y % 16 = yl at *
  have M := Lib.hid (show ∀ w, Calls Try.prog 50 #[.agg #[.int .i8 0, .int .i8 nl, .int .i8 32, .int .i8 0, .bool bb, .int .i8 yl, .int .i8 (y / 16), .int .i64 so, .int .i64 sh]] w fun e w' => e = .returned (.bool (mayI (In.mk 0 nl 32 0 bb yl (y / 16) so sh))) ∧ Below w.heap.size w w' from fun w => r_may (In.mk 0 nl 32 0 bb yl (y / 16) so sh) w)
  unfold RdR ReadsAs
  generalize mayI (In.mk 0 nl 32 0 bb yl (y / 16) so sh) = my at *
  have L9 : (In.mk 0 nl 32 0 bb yl (y / 16) so sh).cells = #[.int .i8 0, .int .i8 nl, .int .i8 32, .int .i8 0, .bool bb, .int .i8 yl, .int .i8 (y / 16), .int .i64 so, .int .i64 sh] := rfl
  generalize In.mk 0 nl 32 0 bb yl (y / 16) so sh = x at *
  have LH := Lib.hid L9
  clear L9
  go_enter Try.func13, Try.ntmps13
  go_wp2_with fail
  refine (G2.out _ (by repeat' (first | exact Below.refl _ _ | refine below_new ?_ _ | refine Below.drew ?_))).mono ?_
  rintro e w' ⟨rfl, rfl⟩
  clear G2
  go_wp2_with fail
  refine (S16.out _).mono ?_
  rintro e w' ⟨rfl, rfl⟩
  clear S16
  go_wp2_with fail
  refine (G4.out _ (by repeat' (first | exact Below.refl _ _ | refine below_new ?_ _ | refine Below.drew ?_))).mono ?_
  rintro e w' ⟨rfl, rfl⟩
  clear G4
  go_wp2_with fail
  refine (S32.out _).mono ?_
  rintro e w' ⟨rfl, rfl⟩
  clear S32
  go_wp2_with fail
  refine (M.out _).mono ?_
  rintro e w3 ⟨rfl, b3⟩
  clear M
  have X3 := Lib.hid ((b3.block (W.heap.size + 1) (by simp)).trans (heap_last _ _ _ (by simp)))
  have R3 := Lib.hid ((b3.block W.heap.size (by simp; omega)).trans ((heap_past _ _ _ (by simp)).trans (heap_last W _ _ rfl)))
  have B3 := Lib.hid (below_call (below_new (below_new (Below.refl _ W) _) _) b3)
  clear b3 c0 c1 hb
  rw [← LH.out] at X3
  clear LH
  cases my
  case false =>
    go_wp2_with (with_reducible refine (halt_store 26 _ _ rfl ?_))
    refine ⟨?_, trivial⟩
    refine wpList_store_is rfl 26 _ _ rfl W.heap.size In.nil.cells rfl rfl 26 _ R3.out info_ins rfl (one_cells In.nil) ?_
    intro w7 s7
    obtain ⟨r0, r1, r2, r3, r4, r5, r6, r7, r8⟩ := nine_cells s7.row
    have B7 := Lib.hid (s7.below B3.out (Nat.le_refl _))
    clear s7 B3 X3 R3
    go_wp2_with fail
    refine bodyPost_ret (v := .tuple #[.agg In.nil.cells, .int .i64 31]) (by simp [results, Try.results13, go_sem, r0, r1, r2, r3, r4, r5, r6, r7, r8, In.cells]) rfl ⟨rfl, B7.out⟩
  case true =>
    go_wp2_with (with_reducible refine (halt_load 26 _ rfl ?_))
    refine ⟨?_, trivial⟩
    refine wpList_load_row rfl 26 _ rfl (W.heap.size + 1) rfl _ x.cells _ _ X3.out Try.underlying26 rfl info_ins ?_
    go_wp2_with (with_reducible refine (halt_store 26 _ _ rfl ?_))
    refine ⟨?_, trivial⟩
    refine wpList_store_is rfl 26 _ _ rfl W.heap.size x.cells rfl rfl 26 _ R3.out info_ins rfl (one_cells x) ?_
    intro w7 s7
    obtain ⟨r0, r1, r2, r3, r4, r5, r6, r7, r8⟩ := nine_cells s7.row
    have B7 := Lib.hid (s7.below B3.out (Nat.le_refl _))
    clear s7 B3 X3 R3
    go_wp2_with fail
    refine bodyPost_ret (v := .tuple #[.agg x.cells, .int .i64 0]) (by simp [results, Try.results13, go_sem, r0, r1, r2, r3, r4, r5, r6, r7, r8, In.cells]) rfl ⟨rfl, B7.out⟩

set_option maxHeartbeats 4000000 in
theorem rr_80 (b off cap : Nat) (y lo hi : Int) (W : World) (n : Int) (h0 : 80 ≤ n) (h1 : n < 91) (hcap : 8 ≤ cap) (hcap2 : cap ≤ 9223372036854775807) (c0 : W.cell? ⟨b, off, none⟩ = some (.int .u8 n)) (R : Rest b off cap y lo hi W) :
    Calls Try.prog 13 #[.slice (some ⟨b, off, none⟩) 8 cap] W (RdR (In.mk 3 (n % 16) 0 0 false (y % 16) (y / 16) (sgn16 lo) (sgn32 hi)) W) := by
  have a15 := and15I (c := n) (by omega) (by omega)
  have ao := w_i8 (p := n % 16) (by omega)
  have g1 : ¬ n < 64 := by omega
  have g2 : ¬ n < 68 := by omega
  have g3 : 72 ≤ n := by omega
  have g4 : ¬ n < 76 := by omega
  have g5 : 80 ≤ n := by omega
  have g6 : n < 107 := by omega
  have g7 : n % 16 ≤ 10 := by omega
  have g8 : ¬ 96 ≤ n := by omega
  generalize n % 16 = nl at *
  have c1 := R.c1
  have G2 := Lib.hid R.g2
  have G4 := Lib.hid R.g4
  have y15 := and15U R.y0 R.y1
  have yd := w_i8 (p := y % 16) (by have := R.y0; omega)
  have ys := w_i8 (p := y / 16) (by have := R.y0; have := R.y1; omega)
  have S16 := Lib.hid (fun W => rsign_16 lo R.lo0 R.lo1 W)
  have S32 := Lib.hid (fun W => rsign_32 hi R.hi0 R.hi1 W)
  have o16 := wsgn (p := sgn16 lo) (by have := R.lo0; have := R.lo1; unfold sgn16; split <;> omega)
  have o32 := wsgn (p := sgn32 hi) (by have := R.hi0; have := R.hi1; unfold sgn32; split <;> omega)
  have hb : b < W.heap.size := by
    rcases Nat.lt_or_ge b W.heap.size with h' | h'
    · exact h'
    · have e : W.heap[b]? = none := Array.getElem?_eq_none h'
      simp [World.cell?, e] at c1
  clear R
  generalize sgn16 lo = so at *
  generalize sgn32 hi = sh at *
  generalize so % 18446744073709551616 = p16 at *
  generalize sh % 18446744073709551616 = p32 at *
  generalize y % 16 = yl at *
  have M := Lib.hid (show ∀ w, Calls Try.prog 50 #[.agg #[.int .i8 3, .int .i8 nl, .int .i8 0, .int .i8 0, .bool false, .int .i8 yl, .int .i8 (y / 16), .int .i64 so, .int .i64 sh]] w fun e w' => e = .returned (.bool (mayI (In.mk 3 nl 0 0 false yl (y / 16) so sh))) ∧ Below w.heap.size w w' from fun w => r_may (In.mk 3 nl 0 0 false yl (y / 16) so sh) w)
  unfold RdR ReadsAs
  generalize mayI (In.mk 3 nl 0 0 false yl (y / 16) so sh) = my at *
  have L9 : (In.mk 3 nl 0 0 false yl (y / 16) so sh).cells = #[.int .i8 3, .int .i8 nl, .int .i8 0, .int .i8 0, .bool false, .int .i8 yl, .int .i8 (y / 16), .int .i64 so, .int .i64 sh] := rfl
  generalize In.mk 3 nl 0 0 false yl (y / 16) so sh = x at *
  have LH := Lib.hid L9
  clear L9
  go_enter Try.func13, Try.ntmps13
  go_wp2_with fail
  refine (G2.out _ (by repeat' (first | exact Below.refl _ _ | refine below_new ?_ _ | refine Below.drew ?_))).mono ?_
  rintro e w' ⟨rfl, rfl⟩
  clear G2
  go_wp2_with fail
  refine (S16.out _).mono ?_
  rintro e w' ⟨rfl, rfl⟩
  clear S16
  go_wp2_with fail
  refine (G4.out _ (by repeat' (first | exact Below.refl _ _ | refine below_new ?_ _ | refine Below.drew ?_))).mono ?_
  rintro e w' ⟨rfl, rfl⟩
  clear G4
  go_wp2_with fail
  refine (S32.out _).mono ?_
  rintro e w' ⟨rfl, rfl⟩
  clear S32
  go_wp2_with fail
  refine (M.out _).mono ?_
  rintro e w3 ⟨rfl, b3⟩
  clear M
  have X3 := Lib.hid ((b3.block (W.heap.size + 1) (by simp)).trans (heap_last _ _ _ (by simp)))
  have R3 := Lib.hid ((b3.block W.heap.size (by simp; omega)).trans ((heap_past _ _ _ (by simp)).trans (heap_last W _ _ rfl)))
  have B3 := Lib.hid (below_call (below_new (below_new (Below.refl _ W) _) _) b3)
  clear b3 c0 c1 hb
  rw [← LH.out] at X3
  clear LH
  cases my
  case false =>
    go_wp2_with (with_reducible refine (halt_store 26 _ _ rfl ?_))
    refine ⟨?_, trivial⟩
    refine wpList_store_is rfl 26 _ _ rfl W.heap.size In.nil.cells rfl rfl 26 _ R3.out info_ins rfl (one_cells In.nil) ?_
    intro w7 s7
    obtain ⟨r0, r1, r2, r3, r4, r5, r6, r7, r8⟩ := nine_cells s7.row
    have B7 := Lib.hid (s7.below B3.out (Nat.le_refl _))
    clear s7 B3 X3 R3
    go_wp2_with fail
    refine bodyPost_ret (v := .tuple #[.agg In.nil.cells, .int .i64 31]) (by simp [results, Try.results13, go_sem, r0, r1, r2, r3, r4, r5, r6, r7, r8, In.cells]) rfl ⟨rfl, B7.out⟩
  case true =>
    go_wp2_with (with_reducible refine (halt_load 26 _ rfl ?_))
    refine ⟨?_, trivial⟩
    refine wpList_load_row rfl 26 _ rfl (W.heap.size + 1) rfl _ x.cells _ _ X3.out Try.underlying26 rfl info_ins ?_
    go_wp2_with (with_reducible refine (halt_store 26 _ _ rfl ?_))
    refine ⟨?_, trivial⟩
    refine wpList_store_is rfl 26 _ _ rfl W.heap.size x.cells rfl rfl 26 _ R3.out info_ins rfl (one_cells x) ?_
    intro w7 s7
    obtain ⟨r0, r1, r2, r3, r4, r5, r6, r7, r8⟩ := nine_cells s7.row
    have B7 := Lib.hid (s7.below B3.out (Nat.le_refl _))
    clear s7 B3 X3 R3
    go_wp2_with fail
    refine bodyPost_ret (v := .tuple #[.agg x.cells, .int .i64 0]) (by simp [results, Try.results13, go_sem, r0, r1, r2, r3, r4, r5, r6, r7, r8, In.cells]) rfl ⟨rfl, B7.out⟩

set_option maxHeartbeats 4000000 in
theorem rr_96 (b off cap : Nat) (y lo hi : Int) (W : World) (n : Int) (h0 : 96 ≤ n) (h1 : n < 107) (hcap : 8 ≤ cap) (hcap2 : cap ≤ 9223372036854775807) (c0 : W.cell? ⟨b, off, none⟩ = some (.int .u8 n)) (R : Rest b off cap y lo hi W) :
    Calls Try.prog 13 #[.slice (some ⟨b, off, none⟩) 8 cap] W (RdR (In.mk 3 (n % 16) 0 0 true (y % 16) (y / 16) (sgn16 lo) (sgn32 hi)) W) := by
  have a15 := and15I (c := n) (by omega) (by omega)
  have ao := w_i8 (p := n % 16) (by omega)
  have g1 : ¬ n < 64 := by omega
  have g2 : ¬ n < 68 := by omega
  have g3 : 72 ≤ n := by omega
  have g4 : ¬ n < 76 := by omega
  have g5 : 80 ≤ n := by omega
  have g6 : n < 107 := by omega
  have g7 : n % 16 ≤ 10 := by omega
  have g8 : 96 ≤ n := by omega
  generalize n % 16 = nl at *
  have c1 := R.c1
  have G2 := Lib.hid R.g2
  have G4 := Lib.hid R.g4
  have y15 := and15U R.y0 R.y1
  have yd := w_i8 (p := y % 16) (by have := R.y0; omega)
  have ys := w_i8 (p := y / 16) (by have := R.y0; have := R.y1; omega)
  have S16 := Lib.hid (fun W => rsign_16 lo R.lo0 R.lo1 W)
  have S32 := Lib.hid (fun W => rsign_32 hi R.hi0 R.hi1 W)
  have o16 := wsgn (p := sgn16 lo) (by have := R.lo0; have := R.lo1; unfold sgn16; split <;> omega)
  have o32 := wsgn (p := sgn32 hi) (by have := R.hi0; have := R.hi1; unfold sgn32; split <;> omega)
  have hb : b < W.heap.size := by
    rcases Nat.lt_or_ge b W.heap.size with h' | h'
    · exact h'
    · have e : W.heap[b]? = none := Array.getElem?_eq_none h'
      simp [World.cell?, e] at c1
  clear R
  generalize sgn16 lo = so at *
  generalize sgn32 hi = sh at *
  generalize so % 18446744073709551616 = p16 at *
  generalize sh % 18446744073709551616 = p32 at *
  generalize y % 16 = yl at *
  have M := Lib.hid (show ∀ w, Calls Try.prog 50 #[.agg #[.int .i8 3, .int .i8 nl, .int .i8 0, .int .i8 0, .bool true, .int .i8 yl, .int .i8 (y / 16), .int .i64 so, .int .i64 sh]] w fun e w' => e = .returned (.bool (mayI (In.mk 3 nl 0 0 true yl (y / 16) so sh))) ∧ Below w.heap.size w w' from fun w => r_may (In.mk 3 nl 0 0 true yl (y / 16) so sh) w)
  unfold RdR ReadsAs
  generalize mayI (In.mk 3 nl 0 0 true yl (y / 16) so sh) = my at *
  have L9 : (In.mk 3 nl 0 0 true yl (y / 16) so sh).cells = #[.int .i8 3, .int .i8 nl, .int .i8 0, .int .i8 0, .bool true, .int .i8 yl, .int .i8 (y / 16), .int .i64 so, .int .i64 sh] := rfl
  generalize In.mk 3 nl 0 0 true yl (y / 16) so sh = x at *
  have LH := Lib.hid L9
  clear L9
  go_enter Try.func13, Try.ntmps13
  go_wp2_with fail
  refine (G2.out _ (by repeat' (first | exact Below.refl _ _ | refine below_new ?_ _ | refine Below.drew ?_))).mono ?_
  rintro e w' ⟨rfl, rfl⟩
  clear G2
  go_wp2_with fail
  refine (S16.out _).mono ?_
  rintro e w' ⟨rfl, rfl⟩
  clear S16
  go_wp2_with fail
  refine (G4.out _ (by repeat' (first | exact Below.refl _ _ | refine below_new ?_ _ | refine Below.drew ?_))).mono ?_
  rintro e w' ⟨rfl, rfl⟩
  clear G4
  go_wp2_with fail
  refine (S32.out _).mono ?_
  rintro e w' ⟨rfl, rfl⟩
  clear S32
  go_wp2_with fail
  refine (M.out _).mono ?_
  rintro e w3 ⟨rfl, b3⟩
  clear M
  have X3 := Lib.hid ((b3.block (W.heap.size + 1) (by simp)).trans (heap_last _ _ _ (by simp)))
  have R3 := Lib.hid ((b3.block W.heap.size (by simp; omega)).trans ((heap_past _ _ _ (by simp)).trans (heap_last W _ _ rfl)))
  have B3 := Lib.hid (below_call (below_new (below_new (Below.refl _ W) _) _) b3)
  clear b3 c0 c1 hb
  rw [← LH.out] at X3
  clear LH
  cases my
  case false =>
    go_wp2_with (with_reducible refine (halt_store 26 _ _ rfl ?_))
    refine ⟨?_, trivial⟩
    refine wpList_store_is rfl 26 _ _ rfl W.heap.size In.nil.cells rfl rfl 26 _ R3.out info_ins rfl (one_cells In.nil) ?_
    intro w7 s7
    obtain ⟨r0, r1, r2, r3, r4, r5, r6, r7, r8⟩ := nine_cells s7.row
    have B7 := Lib.hid (s7.below B3.out (Nat.le_refl _))
    clear s7 B3 X3 R3
    go_wp2_with fail
    refine bodyPost_ret (v := .tuple #[.agg In.nil.cells, .int .i64 31]) (by simp [results, Try.results13, go_sem, r0, r1, r2, r3, r4, r5, r6, r7, r8, In.cells]) rfl ⟨rfl, B7.out⟩
  case true =>
    go_wp2_with (with_reducible refine (halt_load 26 _ rfl ?_))
    refine ⟨?_, trivial⟩
    refine wpList_load_row rfl 26 _ rfl (W.heap.size + 1) rfl _ x.cells _ _ X3.out Try.underlying26 rfl info_ins ?_
    go_wp2_with (with_reducible refine (halt_store 26 _ _ rfl ?_))
    refine ⟨?_, trivial⟩
    refine wpList_store_is rfl 26 _ _ rfl W.heap.size x.cells rfl rfl 26 _ R3.out info_ins rfl (one_cells x) ?_
    intro w7 s7
    obtain ⟨r0, r1, r2, r3, r4, r5, r6, r7, r8⟩ := nine_cells s7.row
    have B7 := Lib.hid (s7.below B3.out (Nat.le_refl _))
    clear s7 B3 X3 R3
    go_wp2_with fail
    refine bodyPost_ret (v := .tuple #[.agg x.cells, .int .i64 0]) (by simp [results, Try.results13, go_sem, r0, r1, r2, r3, r4, r5, r6, r7, r8, In.cells]) rfl ⟨rfl, B7.out⟩
end Go.Proofs.Ytbpefomjmjkciaa.Ins
