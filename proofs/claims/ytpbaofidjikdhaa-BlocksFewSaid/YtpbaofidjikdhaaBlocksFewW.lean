/-
  The walk of the law BlocksFew.
-/
import Derived.Test.YtpbaofidjikdhaaBlkW
namespace Go.Proofs.Ytpbaofidjikdhaa.Blk
open Go.RowKit Go.Maps Go.Sort Ins
set_option linter.unusedVariables false
set_option maxRecDepth 100000

def stopB (xs : Nat → In) (i : Nat) : Bool := decide ((xs i).kind = 3 ∨ (xs i).kind = 4 ∨ (xs i).kind = 6)
theorem cnt_add {p q r : Nat → Bool} : ∀ {n : Nat}, (∀ i, i < n → r i = (p i || q i)) → (∀ i, i < n → p i = true → q i = false) → cnt r n = cnt p n + cnt q n
  | 0, _, _ => rfl
  | n + 1, h, h2 => by
    rw [cnt_succ, cnt_succ, cnt_succ, cnt_add (fun i hi => h i (by omega)) (fun i hi => h2 i (by omega)), h n (by omega)]
    have := h2 n (by omega)
    cases hp : p n
    · simp; omega
    · rw [this hp]; simp; omega
theorem few_facts {c : Int} {len : Nat} {xs : Nat → In} (h : (checkI c len xs).2 = 0) :
    1 ≤ (bksF (sh xs) len len).length ∧ (bksF (sh xs) len len).length ≤ 2 * cnt (stopB xs) len ∧ cnt (stopB xs) len ≤ len ∧ (cnt (stopB xs) len ≤ 1 → (xs (len - 1)).kind = 6 → (bksF (sh xs) len len).length = 1) := by
  obtain ⟨hF, _⟩ := fine_of h
  have h1 := bksF_pos hF
  have h2 := bksF_few (sh xs) len
  have hk := (ends_facts h).2.2
  have h3 : cnt (stopB xs) len = cnt (sh xs).jumps len + cnt (sh xs).exit len := cnt_add (fun i hi => by
    show stopB xs i = (jumpsI i (xs i) || decide ((xs i).kind = 6))
    rw [(hk i hi).2.1]
    unfold stopB
    rw [Bool.eq_iff_iff]; simp; omega) (fun i hi hp => hF.one i hi hp)
  refine ⟨h1, by omega, cnt_le_self _ _, fun h4 h6 => ?_⟩
  have hp := hF.pos
  have h5 : 1 ≤ cnt (sh xs).exit len := by
    have := cnt_lt (sh xs).exit (i := len - 1) (j := len) (by omega) (by show decide _ = true; simp [h6])
    omega
  omega

set_option maxHeartbeats 8000000 in
theorem blocksFew_walk (c : Int) (a : Option Addr) (len cap : Nat) (xs : Nat → In) (W : World) (hx : Insts W a len cap xs) :
    Calls Try.prog 10 #[.agg #[.int .i64 c, .slice a len cap]] W fun e w' => e = .returned (.bool true) ∧ Below W.heap.size W w' := by
  have G := Lib.hid (fun W => great_any c a len cap W)
  have hfit := hx.fit
  have hle := hx.le
  have HX := Lib.hid hx; clear hx
  by_cases hg : 100 < len
  · rw [decide_eq_true hg] at G
    go_enter Try.func10, Try.ntmps10
    go_wp2_with fail
    refine (G.out _).mono ?_
    rintro e w1 ⟨rfl, b1⟩
    go_wp2_with fail
    refine (wakes_any _).mono ?_
    rintro e w2 ⟨rfl, b2⟩
    go_wp2_with fail
    go_ret
    exact ⟨rfl, below_call (below_call (below_new (Below.refl _ _) _) b1) b2⟩
  rw [decide_eq_false hg] at G
  by_cases hr : (checkI c len xs).2 = 0
  case neg =>
    have C := Lib.hid (fun W h => run_no c a len cap xs W h hr)
    generalize (checkI c len xs).2 = r at *
    have e0 : (r != 0) = true := by simpa using hr
    clear hr
    go_enter Try.func10, Try.ntmps10
    go_wp2_with fail
    refine (G.out _).mono ?_
    rintro e w1 ⟨rfl, b1⟩
    have hP : w1.cell? ⟨W.heap.size, 1, none⟩ = some (.slice a len cap) := (b1.cell (by simp)).trans (by simp)
    have hP0 : w1.cell? ⟨W.heap.size, 0, none⟩ = some (.int .i64 c) := (b1.cell (by simp)).trans (by simp)
    have B1 := Lib.hid (below_call (below_new (Below.refl _ W) _) b1); clear b1
    go_wp2_with fail
    refine (C.out _ (HX.out.below B1.out)).mono ?_
    rintro e w2 ⟨rfl, b2⟩
    go_wp2_with fail
    refine (wakes_any _).mono ?_
    rintro e w3 ⟨rfl, b3⟩
    go_wp2_with fail
    go_ret
    exact ⟨rfl, below_call (below_call B1.out b2) b3⟩
  have C := Lib.hid (fun W h => run_yes c a len cap xs W h hr)
  obtain ⟨f1, f2, f3, f4⟩ := few_facts hr
  obtain ⟨g1, g64, _⟩ := ends_facts hr
  clear hr
  generalize sh xs = s at *
  go_enter Try.func10, Try.ntmps10
  go_wp2_with fail
  refine (G.out _).mono ?_
  rintro e w1 ⟨rfl, b1⟩
  have hP : w1.cell? ⟨W.heap.size, 1, none⟩ = some (.slice a len cap) := (b1.cell (by simp)).trans (by simp)
  have hP0 : w1.cell? ⟨W.heap.size, 0, none⟩ = some (.int .i64 c) := (b1.cell (by simp)).trans (by simp)
  have B1 := Lib.hid (below_call (below_new (Below.refl _ W) _) b1)
  have hz : W.heap.size < w1.heap.size := by have := b1.size; simp at this; omega
  clear b1
  go_wp2_with fail
  refine (C.out _ (HX.out.below B1.out)).mono ?_
  rintro e w2 ⟨av, cv, rfl, hb2, b2⟩
  have hP2 := (b2.cell (p := ⟨W.heap.size, 1, none⟩) hz).trans hP
  have B2 := Lib.hid (below_call B1.out b2)
  clear b2 hP0 hP hb2 hz
  obtain ⟨B, q, rfl, hcells⟩ := HX.out.here (by omega)
  have KC := Lib.hid (show ∀ k, k < len → w2.cell? ⟨B, q + k * 9, none⟩ = some (.int .i8 (xs k).kind) from fun k hk => (rangeAt_below B2.out (hcells k hk)) 0 (.int .i8 (xs k).kind) rfl)
  have hlast := KC.out (len - 1) (by omega)
  have SS := Lib.hid (fun k => cnt_succ (stopB xs) k)
  clear hcells
  generalize hLL : (bksF s len len).length = L at *
  clear hLL
  go_wp2_with fail
  go_loop [5, 6] (fun n i => ∃ k : Nat, k ≤ len ∧ i = .int .i64 k ∧ n = .int .i64 (cnt (stopB xs) k)) (fun _ i => len - (intOf i).toNat)
  case atStart => exact ⟨0, by omega, rfl, rfl⟩
  case round =>
    obtain ⟨k, hk, rfl, rfl⟩ := hrel
    have hcl := cnt_le_self (stopB xs) k
    by_cases hlt : k < len
    · have hc := KC.out k hlt
      have HS := Lib.hid (show cnt (stopB xs) (k + 1) = cnt (stopB xs) k + if decide ((xs k).kind = 3 ∨ (xs k).kind = 4 ∨ (xs k).kind = 6) = true then 1 else 0 from SS.out k)
      clear hlast
      generalize (xs k).kind = kd at *
      have hcase : kd = 3 ∨ kd = 4 ∨ kd = 6 ∨ (¬ kd = 3 ∧ ¬ kd = 4 ∧ ¬ kd = 6) := by omega
      rcases hcase with rfl | rfl | rfl | ⟨h3, h4, h6⟩
      · rw [show (if decide ((3 : Int) = 3 ∨ (3 : Int) = 4 ∨ (3 : Int) = 6) = true then 1 else 0) = 1 from rfl] at HS
        go_wp2_with fail
        go_round
        case rel => exact ⟨k + 1, by omega, by go_num, by rw [HS.out]; go_num⟩
        case measure => simp [intOf]; omega
      · rw [show (if decide ((4 : Int) = 3 ∨ (4 : Int) = 4 ∨ (4 : Int) = 6) = true then 1 else 0) = 1 from rfl] at HS
        go_wp2_with fail
        go_round
        case rel => exact ⟨k + 1, by omega, by go_num, by rw [HS.out]; go_num⟩
        case measure => simp [intOf]; omega
      · rw [show (if decide ((6 : Int) = 3 ∨ (6 : Int) = 4 ∨ (6 : Int) = 6) = true then 1 else 0) = 1 from rfl] at HS
        go_wp2_with fail
        go_round
        case rel => exact ⟨k + 1, by omega, by go_num, by rw [HS.out]; go_num⟩
        case measure => simp [intOf]; omega
      · rw [show (if decide (kd = 3 ∨ kd = 4 ∨ kd = 6) = true then 1 else 0) = 0 from if_neg (by rw [decide_eq_true_iff]; omega)] at HS
        have e3 : (kd == 3) = false := by simpa using h3
        have e4 : (kd == 4) = false := by simpa using h4
        have e6 : (kd == 6) = false := by simpa using h6
        clear h3 h4 h6
        go_wp2_with fail
        go_round
        case rel => exact ⟨k + 1, by omega, by go_num, by rw [HS.out]; go_num⟩
        case measure => simp [intOf]; omega
    · obtain rfl : k = len := by omega
      obtain ⟨m, rfl⟩ : ∃ m, k = m + 1 := ⟨k - 1, by omega⟩
      rw [Nat.add_sub_cancel] at hlast
      rw [Nat.add_sub_cancel] at f4
      generalize (xs m).kind = kl at *
      generalize cnt (stopB xs) (m + 1) = n at *
      have em : ((m + 1 : Nat) : Int) - 1 = (m : Int) := by omega
      have hcase : 1 < n ∨ (n ≤ 1 ∧ ¬ kl = 6) ∨ (n ≤ 1 ∧ kl = 6 ∧ L = 1) := by
        by_cases h1 : 1 < n
        · exact .inl h1
        by_cases h2 : kl = 6
        · exact .inr (.inr ⟨by omega, h2, f4 (by omega) h2⟩)
        · exact .inr (.inl ⟨by omega, h2⟩)
      clear f4
      rcases hcase with h1 | ⟨h1, h2⟩ | ⟨h1, rfl, rfl⟩
      · clear hlast
        go_wp2_with fail
        refine (wakes_any _).mono ?_
        rintro e w9 ⟨rfl, b9⟩
        go_wp2_with fail
        go_ret
        exact ⟨rfl, below_call B2.out b9⟩
      · have e6 : (kl != 6) = true := by simpa using h2
        clear h2
        go_wp2_with fail
        refine (wakes_any _).mono ?_
        rintro e w9 ⟨rfl, b9⟩
        go_wp2_with fail
        go_ret
        exact ⟨rfl, below_call B2.out b9⟩
      · have e1 : decide (1 < n) = false := decide_eq_false (by omega)
        go_wp2_with fail
        refine (wakes_any _).mono ?_
        rintro e w9 ⟨rfl, b9⟩
        go_wp2_with fail
        go_ret
        exact ⟨rfl, below_call B2.out b9⟩
theorem blocksFew_law (c : Int) (a : Option Addr) (len cap : Nat) (xs : Nat → In) (W : World) (_ : (Lit.int .i64 c).wf = true) (hx : Insts W a len cap xs) :
    Calls Try.prog 10 #[.agg #[.int .i64 c, .slice a len cap]] W fun e w' => e = .returned (.bool true) ∧ Below W.heap.size W w' := blocksFew_walk c a len cap xs W hx
end Go.Proofs.Ytpbaofidjikdhaa.Blk
