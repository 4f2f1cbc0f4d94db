/-
  The walk of the law InstrEnds.
-/
import Derived.Test.YtbflanpfcbbblaaInsI
import Derived.Test.YtbflanpfcbbblaaInsH
namespace Go.Proofs.Ytbflanpfcbbblaa.Ins
open Go.RowKit
set_option linter.unusedVariables false

/-- What is known of an instruction of a program that may be. -/
theorem ends_facts {c : Int} {len : Nat} {xs : Nat → In} (h : (checkI c len xs).2 = 0) : 1 ≤ len ∧ len ≤ 64 ∧ ∀ k, k < len → mayI (xs k) = true ∧ jumpsI k (xs k) = decide ((xs k).kind = 3 ∨ (xs k).kind = 4) ∧ (((xs k).kind = 3 ∨ (xs k).kind = 4) → ¬ targetI k (xs k) < 0 ∧ ¬ (len : Int) ≤ targetI k (xs k)) ∧ (¬ (xs k).kind = 4 → ¬ (xs k).kind = 6 → k + 1 < len) := by
  unfold checkI at h
  by_cases h1 : c < 0 ∨ 256 < c
  · rw [if_pos h1] at h; simp at h
  rw [if_neg h1] at h
  by_cases h2 : len < 1 ∨ 64 < len
  · rw [if_pos h2] at h; simp at h
  rw [if_neg h2] at h
  by_cases h3 : (firstF (fun i => faultI i (xs i) len) len 0).2 ≠ 0
  · rw [if_pos h3] at h; exact absurd h h3
  rw [if_neg h3] at h
  by_cases h4 : (xs (len - 1)).kind = 4 ∨ (xs (len - 1)).kind = 6
  case neg => rw [if_neg h4] at h; simp at h
  refine ⟨by omega, by omega, fun k hk => ?_⟩
  have hf : faultI k (xs k) len = 0 := firstF_all (fun i => faultI i (xs i) len) len 0 (by omega) k (by omega) (by omega)
  unfold faultI at hf
  have hm : mayI (xs k) = true := by
    cases hm : mayI (xs k)
    · rw [if_pos hm] at hf; omega
    · rfl
  rw [if_neg (by rw [hm]; simp)] at hf
  have hj : jumpsI k (xs k) = decide ((xs k).kind = 3 ∨ (xs k).kind = 4) := by
    obtain ⟨_, _, h5, _⟩ := mayI_cases hm
    have n1 : nearI k = true := decide_eq_true (by omega)
    have n2 : nearI (xs k).off = true := decide_eq_true (by omega)
    unfold jumpsI
    rw [n1, n2]
    simp
  refine ⟨hm, hj, fun hk34 => ?_, fun n4 n6 => ?_⟩
  · rw [hj, decide_eq_true hk34] at hf
    by_cases h5 : targetI k (xs k) < 0 ∨ (len : Int) ≤ targetI k (xs k)
    · rw [if_pos ⟨rfl, h5⟩] at hf; omega
    · omega
  · by_cases e : k = len - 1
    · subst e; omega
    · omega

set_option maxRecDepth 100000 in
set_option maxHeartbeats 8000000 in
theorem instrEnds_walk (c : Int) (a : Option Addr) (len cap : Nat) (xs : Nat → In) (W : World) (hx : Insts W a len cap xs) :
    Calls Try.prog 6 #[.agg #[.int .i64 c, .slice a len cap]] W fun e w' => e = .returned (.bool true) ∧ Below W.heap.size W w' := by
  have G := Lib.hid (fun W => great_any c a len cap W)
  have C := Lib.hid (fun W h => check_any c a len cap xs W h)
  have hfit := hx.fit
  have hle := hx.le
  have HX := Lib.hid hx; clear hx
  by_cases hg : 100 < len
  · rw [decide_eq_true hg] at G
    go_enter Try.func6, Try.ntmps6
    go_wp2_with fail
    refine (G.out _).mono ?_
    rintro e w1 ⟨rfl, b1⟩
    go_wp2_with fail
    refine (wakes_any _).mono ?_
    rintro e w2 ⟨rfl, b2⟩
    go_wp2_with fail
    go_ret
    exact ⟨rfl, below_call (below_call (below_new (Below.refl _ _) _) b1) b2⟩
  rw [decide_eq_false hg] at G
  by_cases hr : (checkI c len xs).2 = 0
  case neg =>
    generalize (checkI c len xs).2 = r at *
    generalize (checkI c len xs).1 = i at *
    have e0 : (r != 0) = true := by simpa using hr
    clear hr
    go_enter Try.func6, Try.ntmps6
    go_wp2_with fail
    refine (G.out _).mono ?_
    rintro e w1 ⟨rfl, b1⟩
    have hP : w1.cell? ⟨W.heap.size, 1, none⟩ = some (.slice a len cap) := (b1.cell (by simp)).trans (by simp)
    have hP0 : w1.cell? ⟨W.heap.size, 0, none⟩ = some (.int .i64 c) := (b1.cell (by simp)).trans (by simp)
    have B1 := Lib.hid (below_call (below_new (Below.refl _ W) _) b1); clear b1
    go_wp2_with fail
    refine (C.out _ (HX.out.below B1.out)).mono ?_
    rintro e w2 ⟨rfl, b2⟩
    go_wp2_with fail
    refine (wakes_any _).mono ?_
    rintro e w3 ⟨rfl, b3⟩
    go_wp2_with fail
    go_ret
    exact ⟨rfl, below_call (below_call B1.out b2) b3⟩
  obtain ⟨g1, g64, hfacts⟩ := ends_facts hr
  have HF := Lib.hid hfacts
  rw [hr] at C
  generalize (checkI c len xs).1 = i0 at *
  clear hr hfacts
  go_enter Try.func6, Try.ntmps6
  go_wp2_with fail
  refine (G.out _).mono ?_
  rintro e w1 ⟨rfl, b1⟩
  have hP : w1.cell? ⟨W.heap.size, 1, none⟩ = some (.slice a len cap) := (b1.cell (by simp)).trans (by simp)
  have hP0 : w1.cell? ⟨W.heap.size, 0, none⟩ = some (.int .i64 c) := (b1.cell (by simp)).trans (by simp)
  have B1 := Lib.hid (below_call (below_new (Below.refl _ W) _) b1)
  have hz : W.heap.size < w1.heap.size := by have := b1.size; simp at this; omega
  clear b1
  go_wp2_with fail
  refine (C.out _ (HX.out.below B1.out)).mono ?_
  rintro e w2 ⟨rfl, b2⟩
  have hP2 := (b2.cell (p := ⟨W.heap.size, 1, none⟩) hz).trans hP
  have B2 := Lib.hid (below_call B1.out b2)
  have hz2 : W.heap.size < w2.heap.size := by have := b2.size; omega
  have HP2 := Lib.hid hP2
  clear b2 hP0 hP
  go_wp2_with fail
  clear hP2
  go_loopw [24] (fun i wr => ∃ k : Nat, k ≤ len ∧ i = .int .i64 k ∧ Hid (Below W.heap.size W wr ∧ wr.cell? ⟨W.heap.size, 1, none⟩ = some (.slice a len cap) ∧ W.heap.size < wr.heap.size)) (fun i _ => len - (intOf i).toNat)
  case atStart => exact ⟨0, by omega, rfl, Lib.hid ⟨B2.out, HP2.out, hz2⟩⟩
  case round =>
    clear hz hz2 B1 B2 HP2
    obtain ⟨k, hk, rfl, hR⟩ := hrel
    by_cases hlt : k < len
    · obtain ⟨B, q, rfl, hcells⟩ := HX.out.here (by omega)
      obtain ⟨hm, hj, ht, hl⟩ := HF.out k hlt
      have HA := Lib.hid (rangeAt_below hR.out.1 (hcells k hlt))
      have i9 : (Try.prog.info? 24).map (·.size) = some (xs k).cells.toList.length := info_ins
      have HI := Lib.hid i9
      have M := Lib.hid (fun W => may_any (xs k) W)
      have T := Lib.hid (fun W => target_any k (xs k) W)
      rw [hm] at M
      rw [hj] at T
      clear i9 hcells hm hj
      generalize targetI k (xs k) = t at *
      have hK : (xs k).cells[0]? = some (.int .i8 (xs k).kind) := rfl
      have HK := Lib.hid hK; clear hK
      have OC := Lib.hid (one_cells (xs k))
      generalize (xs k).kind = kd at *
      have hcase : (kd = 3 ∧ 0 ≤ t ∧ t < len ∧ k + 1 < len) ∨ (kd = 4 ∧ 0 ≤ t ∧ t < len) ∨ (kd = 6) ∨ (¬ kd = 3 ∧ ¬ kd = 4 ∧ ¬ kd = 6 ∧ k + 1 < len) := by
        by_cases h3 : kd = 3
        · exact .inl ⟨h3, by have := ht (.inl h3); omega, by have := ht (.inl h3); omega, hl (by omega) (by omega)⟩
        by_cases h4 : kd = 4
        · exact .inr (.inl ⟨h4, by have := ht (.inr h4); omega, by have := ht (.inr h4); omega⟩)
        by_cases h6 : kd = 6
        · exact .inr (.inr (.inl h6))
        exact .inr (.inr (.inr ⟨h3, h4, h6, hl h4 h6⟩))
      clear ht hl
      go_wp2_with (first | (refine wpList_load_mid rfl 24 _ rfl B (q + k * 9) rfl (xs k).cells.toList _ HA.out Try.underlying24 rfl HI.out ?_) | (refine (halt_store 24 _ _ rfl ?_)))
      refine ⟨?_, trivial⟩
      refine wpList_store_is rfl 24 _ _ rfl wr.heap.size (xs k).cells rfl rfl 24 _ (heap_last wr _ _ rfl) HI.out rfl OC.out ?_
      intro w3 s3
      have W3 := Lib.hid (s3.below (below_new hR.out.1 _) hR.out.1.size)
      have R3 := Lib.hid s3.row
      have P3 := Lib.hid ((s3.cellOther (by have := hR.out.2.2; omega) 1).trans (((below_new (Below.refl _ wr) _).cell (p := ⟨W.heap.size, 1, none⟩) hR.out.2.2).trans hR.out.2.1))
      have Z3 := Lib.hid (show W.heap.size < w3.heap.size by rw [s3.size]; have := hR.out.2.2; simp; omega)
      clear s3 hR
      generalize wr.heap.size = X at *
      generalize (xs k).cells = cc at *
      go_wp2_with (refine (halt_load 24 _ rfl ?_))
      refine ⟨?_, trivial⟩
      refine wpList_load_row rfl 24 _ rfl X rfl _ cc _ _ R3.out Try.underlying24 rfl HI.out ?_
      go_wp2_with fail
      refine (T.out _).mono ?_
      rintro e w4 ⟨rfl, b4⟩
      have W4 := Lib.hid (below_call W3.out b4)
      have R4 := Lib.hid ((b4.block _ (Array.getElem?_eq_some_iff.1 R3.out).1).trans R3.out)
      have P4 := Lib.hid ((b4.cell (p := ⟨W.heap.size, 1, none⟩) Z3.out).trans P3.out)
      have Z4 := Lib.hid (Nat.lt_of_lt_of_le Z3.out b4.size)
      clear b4 T W3 R3 P3 Z3
      have hkc : w4.cell? ⟨X, 0, none⟩ = some (.int .i8 kd) := by simp only [World.cell?, R4.out]; exact HK.out
      rcases hcase with ⟨rfl, t0, t1, l1⟩ | ⟨rfl, t0, t1⟩ | rfl | ⟨n3, n4, n6, l1⟩
      · rw [show decide ((3 : Int) = 3 ∨ (3 : Int) = 4) = true from rfl]
        go_wp2_with (refine (halt_load 24 _ rfl ?_))
        refine ⟨?_, trivial⟩
        refine wpList_load_row rfl 24 _ rfl X rfl _ cc _ _ R4.out Try.underlying24 rfl HI.out ?_
        go_wp2_with fail
        refine (M.out _).mono ?_
        rintro e w5 ⟨rfl, b5⟩
        have hkc5 := (b5.cell (p := ⟨X, 0, none⟩) (lt_of_cell hkc)).trans hkc
        have hP5 := (b5.cell (p := ⟨W.heap.size, 1, none⟩) Z4.out).trans P4.out
        have W5 := Lib.hid (below_call W4.out b5)
        have P5 := Lib.hid hP5
        have Z5 := Lib.hid (Nat.lt_of_lt_of_le Z4.out b5.size)
        clear b5 hkc
        go_wp2_with fail
        go_roundw
        case rel => exact ⟨k + 1, by omega, by go_num, Lib.hid ⟨W5.out, P5.out, Z5.out⟩⟩
        case measure => simp [intOf]; omega
      · rw [show decide ((4 : Int) = 3 ∨ (4 : Int) = 4) = true from rfl]
        go_wp2_with (refine (halt_load 24 _ rfl ?_))
        refine ⟨?_, trivial⟩
        refine wpList_load_row rfl 24 _ rfl X rfl _ cc _ _ R4.out Try.underlying24 rfl HI.out ?_
        go_wp2_with fail
        refine (M.out _).mono ?_
        rintro e w5 ⟨rfl, b5⟩
        have hkc5 := (b5.cell (p := ⟨X, 0, none⟩) (lt_of_cell hkc)).trans hkc
        have hP5 := (b5.cell (p := ⟨W.heap.size, 1, none⟩) Z4.out).trans P4.out
        have W5 := Lib.hid (below_call W4.out b5)
        have P5 := Lib.hid hP5
        have Z5 := Lib.hid (Nat.lt_of_lt_of_le Z4.out b5.size)
        clear b5 hkc
        go_wp2_with fail
        go_roundw
        case rel => exact ⟨k + 1, by omega, by go_num, Lib.hid ⟨W5.out, P5.out, Z5.out⟩⟩
        case measure => simp [intOf]; omega
      · rw [show decide ((6 : Int) = 3 ∨ (6 : Int) = 4) = false from rfl]
        go_wp2_with (refine (halt_load 24 _ rfl ?_))
        refine ⟨?_, trivial⟩
        refine wpList_load_row rfl 24 _ rfl X rfl _ cc _ _ R4.out Try.underlying24 rfl HI.out ?_
        go_wp2_with fail
        refine (M.out _).mono ?_
        rintro e w5 ⟨rfl, b5⟩
        have hkc5 := (b5.cell (p := ⟨X, 0, none⟩) (lt_of_cell hkc)).trans hkc
        have hP5 := (b5.cell (p := ⟨W.heap.size, 1, none⟩) Z4.out).trans P4.out
        have W5 := Lib.hid (below_call W4.out b5)
        have P5 := Lib.hid hP5
        have Z5 := Lib.hid (Nat.lt_of_lt_of_le Z4.out b5.size)
        clear b5 hkc
        go_wp2_with fail
        go_roundw
        case rel => exact ⟨k + 1, by omega, by go_num, Lib.hid ⟨W5.out, P5.out, Z5.out⟩⟩
        case measure => simp [intOf]; omega
      · rw [show decide (kd = 3 ∨ kd = 4) = false from decide_eq_false (by omega)]
        have e3 : (kd == 3) = false := by simpa using n3
        have e4 : (kd == 4) = false := by simpa using n4
        have f4 : (kd != 4) = true := by simpa using n4
        have f6 : (kd != 6) = true := by simpa using n6
        clear n3 n4 n6
        go_wp2_with (refine (halt_load 24 _ rfl ?_))
        refine ⟨?_, trivial⟩
        refine wpList_load_row rfl 24 _ rfl X rfl _ cc _ _ R4.out Try.underlying24 rfl HI.out ?_
        go_wp2_with fail
        refine (M.out _).mono ?_
        rintro e w5 ⟨rfl, b5⟩
        have hkc5 := (b5.cell (p := ⟨X, 0, none⟩) (lt_of_cell hkc)).trans hkc
        have hP5 := (b5.cell (p := ⟨W.heap.size, 1, none⟩) Z4.out).trans P4.out
        have W5 := Lib.hid (below_call W4.out b5)
        have P5 := Lib.hid hP5
        have Z5 := Lib.hid (Nat.lt_of_lt_of_le Z4.out b5.size)
        clear b5 hkc
        go_wp2_with fail
        go_roundw
        case rel => exact ⟨k + 1, by omega, by go_num, Lib.hid ⟨W5.out, P5.out, Z5.out⟩⟩
        case measure => simp [intOf]; omega
    · obtain rfl : k = len := by omega
      have hP3 := hR.out.2.1
      have W3 := Lib.hid hR.out.1
      clear hR
      go_wp2_with fail
      refine (wakes_any _).mono ?_
      rintro e w9 ⟨rfl, b9⟩
      go_wp2_with fail
      go_ret
      exact ⟨rfl, below_call W3.out b9⟩
theorem instrEnds_law (c : Int) (a : Option Addr) (len cap : Nat) (xs : Nat → In) (W : World) (_ : (Lit.int .i64 c).wf = true) (hx : Insts W a len cap xs) :
    Calls Try.prog 6 #[.agg #[.int .i64 c, .slice a len cap]] W fun e w' => e = .returned (.bool true) ∧ Below W.heap.size W w' := instrEnds_walk c a len cap xs W hx
end Go.Proofs.Ytbflanpfcbbblaa.Ins
