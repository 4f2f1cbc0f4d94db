/-
  Package bounds: ranges, as contracts. (Written by gen_bndb.py.)
-/
import Derived.Test.YtnmgehjccafegaaBndA
namespace Go.Proofs.Ytnmgehjccafegaa.Bnd
open Go.RowKit
set_option linter.unusedVariables false
set_option linter.unusedSimpArgs false
set_option linter.unnecessarySimpa false

theorem joinU_n (a b c d : Int) (W : World) : Calls Try.prog 78 #[.agg #[.int .u64 a, .int .u64 b], .agg #[.int .u64 c, .int .u64 d]] W fun e w' => e = .returned (.agg #[.int .u64 (Pr.join ⟨a, b⟩ ⟨c, d⟩).lo, .int .u64 (Pr.join ⟨a, b⟩ ⟨c, d⟩).hi]) ∧ Below W.heap.size W w' := joinU_any ⟨a, b⟩ ⟨c, d⟩ W

theorem meetU_n (a b c d : Int) (W : World) : Calls Try.prog 56 #[.agg #[.int .u64 a, .int .u64 b], .agg #[.int .u64 c, .int .u64 d]] W fun e w' => e = .returned (.agg #[.int .u64 (Pr.meet ⟨a, b⟩ ⟨c, d⟩).lo, .int .u64 (Pr.meet ⟨a, b⟩ ⟨c, d⟩).hi]) ∧ Below W.heap.size W w' := meetU_any ⟨a, b⟩ ⟨c, d⟩ W

theorem inU_n (a b c d : Int) (W : World) : Calls Try.prog 80 #[.agg #[.int .u64 a, .int .u64 b], .agg #[.int .u64 c, .int .u64 d]] W fun e w' => e = .returned (.bool (Pr.inB ⟨a, b⟩ ⟨c, d⟩)) ∧ Below W.heap.size W w' := inU_any ⟨a, b⟩ ⟨c, d⟩ W

theorem mayU_n (a b : Int) (W : World) : Calls Try.prog 73 #[.agg #[.int .u64 a, .int .u64 b]] W fun e w' => e = .returned (.bool (Pr.mayB ⟨a, b⟩)) ∧ Below W.heap.size W w' := mayU_any ⟨a, b⟩ W

theorem hasU_n (a b v : Int) (W : World) : Calls Try.prog 76 #[.agg #[.int .u64 a, .int .u64 b], .int .u64 v] W fun e w' => e = .returned (.bool (Pr.hasB ⟨a, b⟩ v)) ∧ Below W.heap.size W w' := hasU_any ⟨a, b⟩ v W

theorem noneU_n (a b : Int) (W : World) : Calls Try.prog 113 #[.agg #[.int .u64 a, .int .u64 b]] W fun e w' => e = .returned (.agg #[.int .u64 1, .int .u64 0]) ∧ Below W.heap.size W w' := noneU_any ⟨a, b⟩ W

theorem withoutU_n (a b v : Int) (W : World) (hp : Pr.U ⟨a, b⟩) (hm : a ≤ b) : Calls Try.prog 59 #[.agg #[.int .u64 a, .int .u64 b], .int .u64 v] W fun e w' => e = .returned (.agg #[.int .u64 (Pr.without ⟨a, b⟩ v).lo, .int .u64 (Pr.without ⟨a, b⟩ v).hi]) ∧ Below W.heap.size W w' := withoutU_any ⟨a, b⟩ v W hp hm

theorem atLeastU_n (a b c d : Int) (W : World) : Calls Try.prog 62 #[.agg #[.int .u64 a, .int .u64 b], .agg #[.int .u64 c, .int .u64 d]] W fun e w' => e = .returned (.agg #[.int .u64 (Pr.atLeast ⟨a, b⟩ ⟨c, d⟩).lo, .int .u64 (Pr.atLeast ⟨a, b⟩ ⟨c, d⟩).hi]) ∧ Below W.heap.size W w' := by
  simp only [Pr.atLeast]
  go_enter Try.func62, Try.ntmps62
  go_wp2
  all_goals go_returns
  all_goals refine ⟨rfl, ?_⟩
  all_goals (repeat' (first | exact Below.refl _ _ | assumption | apply below_new | (refine below_call ?_ (by assumption))))

theorem atMostU_n (a b c d : Int) (W : World) : Calls Try.prog 64 #[.agg #[.int .u64 a, .int .u64 b], .agg #[.int .u64 c, .int .u64 d]] W fun e w' => e = .returned (.agg #[.int .u64 (Pr.atMost ⟨a, b⟩ ⟨c, d⟩).lo, .int .u64 (Pr.atMost ⟨a, b⟩ ⟨c, d⟩).hi]) ∧ Below W.heap.size W w' := by
  simp only [Pr.atMost]
  go_enter Try.func64, Try.ntmps64
  go_wp2
  all_goals go_returns
  all_goals refine ⟨rfl, ?_⟩
  all_goals (repeat' (first | exact Below.refl _ _ | assumption | apply below_new | (refine below_call ?_ (by assumption))))

theorem aboveU_n (a b c d : Int) (W : World) (hp : Pr.U ⟨a, b⟩) (hq : Pr.U ⟨c, d⟩) : Calls Try.prog 61 #[.agg #[.int .u64 a, .int .u64 b], .agg #[.int .u64 c, .int .u64 d]] W fun e w' => e = .returned (.agg #[.int .u64 (Pr.above ⟨a, b⟩ ⟨c, d⟩).lo, .int .u64 (Pr.above ⟨a, b⟩ ⟨c, d⟩).hi]) ∧ Below W.heap.size W w' := by
  simp only [Pr.U] at hp hq
  by_cases h : b ≤ c
  · have e1 : Pr.above ⟨a, b⟩ ⟨c, d⟩ = ⟨1, 0⟩ := if_pos h
    rw [e1]
    clear hp hq e1
    go_enter Try.func61, Try.ntmps61
    go_wp2
    all_goals go_returns
    all_goals refine ⟨rfl, ?_⟩
    all_goals (repeat' (first | exact Below.refl _ _ | assumption | apply below_new | (refine below_call ?_ (by assumption))))
  · have e1 : Pr.above ⟨a, b⟩ ⟨c, d⟩ = Pr.atLeast ⟨a, b⟩ ⟨c + 1, d⟩ := if_neg h
    rw [e1]
    have w1 : IntKind.u64.wrap (c + 1) = (c + 1) := by rw [IntKind.wrap_u64]; omega
    simp only [Pr.atLeast]
    clear hp hq e1
    go_enter Try.func61, Try.ntmps61
    go_wp2
    all_goals go_returns
    all_goals refine ⟨rfl, ?_⟩
    all_goals (repeat' (first | exact Below.refl _ _ | assumption | apply below_new | (refine below_call ?_ (by assumption))))

theorem belowU_n (a b c d : Int) (W : World) (hp : Pr.U ⟨a, b⟩) (hq : Pr.U ⟨c, d⟩) : Calls Try.prog 63 #[.agg #[.int .u64 a, .int .u64 b], .agg #[.int .u64 c, .int .u64 d]] W fun e w' => e = .returned (.agg #[.int .u64 (Pr.below ⟨a, b⟩ ⟨c, d⟩).lo, .int .u64 (Pr.below ⟨a, b⟩ ⟨c, d⟩).hi]) ∧ Below W.heap.size W w' := by
  simp only [Pr.U] at hp hq
  by_cases h : d ≤ a
  · have e1 : Pr.below ⟨a, b⟩ ⟨c, d⟩ = ⟨1, 0⟩ := if_pos h
    rw [e1]
    clear hp hq e1
    go_enter Try.func63, Try.ntmps63
    go_wp2
    all_goals go_returns
    all_goals refine ⟨rfl, ?_⟩
    all_goals (repeat' (first | exact Below.refl _ _ | assumption | apply below_new | (refine below_call ?_ (by assumption))))
  · have e1 : Pr.below ⟨a, b⟩ ⟨c, d⟩ = Pr.atMost ⟨a, b⟩ ⟨c, d - 1⟩ := if_neg h
    rw [e1]
    have w1 : IntKind.u64.wrap (d - 1) = (d - 1) := by rw [IntKind.wrap_u64]; omega
    simp only [Pr.atMost]
    clear hp hq e1
    go_enter Try.func63, Try.ntmps63
    go_wp2
    all_goals go_returns
    all_goals refine ⟨rfl, ?_⟩
    all_goals (repeat' (first | exact Below.refl _ _ | assumption | apply below_new | (refine below_call ?_ (by assumption))))

theorem plusU_n (a b c d : Int) (W : World) (hp : Pr.U ⟨a, b⟩) (hq : Pr.U ⟨c, d⟩) : Calls Try.prog 82 #[.agg #[.int .u64 a, .int .u64 b], .agg #[.int .u64 c, .int .u64 d], .agg #[.int .u64 (allU).lo, .int .u64 (allU).hi]] W fun e w' => e = .returned (.agg #[.int .u64 (plusU ⟨a, b⟩ ⟨c, d⟩).lo, .int .u64 (plusU ⟨a, b⟩ ⟨c, d⟩).hi]) ∧ Below W.heap.size W w' := by
  have H1 := sumU_is (a := a) (b := c) (by simp only [Pr.U] at hp hq; unfold inU; omega) (by simp only [Pr.U] at hp hq; unfold inU; omega)
  have H2 := sumU_is (a := b) (b := d) (by simp only [Pr.U] at hp hq; unfold inU; omega) (by simp only [Pr.U] at hp hq; unfold inU; omega)
  have E : plusU ⟨a, b⟩ ⟨c, d⟩ = if sumU a c = true ∧ sumU b d = true then ⟨a + c, b + d⟩ else allU := by
    unfold plusU sumU
    simp only [decide_eq_true_eq]
  rw [E]
  generalize x : sumU a c = c1 at H1 ⊢
  generalize y : sumU b d = c2 at H2 ⊢
  simp only [Pr.U] at hp hq
  clear E
  have sg0 : IntKind.u64.signed = false := rfl
  cases c1
  · rw [if_neg (fun h => by cases h.1)]
    clear hp hq x y
    go_enter Try.func82, Try.ntmps82
    go_wp2
    all_goals go_returns
    all_goals refine ⟨rfl, ?_⟩
    all_goals (repeat' (first | exact Below.refl _ _ | assumption | apply below_new | (refine below_call ?_ (by assumption))))
  · cases c2
    · rw [if_neg (fun h => by cases h.2)]
      clear hp hq x y
      go_enter Try.func82, Try.ntmps82
      go_wp2
      all_goals go_returns
      all_goals refine ⟨rfl, ?_⟩
      all_goals (repeat' (first | exact Below.refl _ _ | assumption | apply below_new | (refine below_call ?_ (by assumption))))
    · rw [if_pos ⟨rfl, rfl⟩]
      unfold sumU at x y
      have x' := of_decide_eq_true x
      have y' := of_decide_eq_true y
      have z1 : IntKind.u64.wrap (a + c) = a + c := by skip; rw [IntKind.wrap_u64]; omega
      have z2 : IntKind.u64.wrap (b + d) = b + d := by skip; rw [IntKind.wrap_u64]; omega
      have Z1 := Lib.hid z1
      have Z2 := Lib.hid z2
      clear hp hq x y x' y' z1 z2
      go_enter Try.func82, Try.ntmps82
      go_wp2
      all_goals go_returns
      all_goals refine ⟨retP Z1.out Z2.out, ?_⟩
      all_goals (repeat' (first | exact Below.refl _ _ | assumption | apply below_new | (refine below_call ?_ (by assumption))))

theorem minusU_n (a b c d : Int) (W : World) (hp : Pr.U ⟨a, b⟩) (hq : Pr.U ⟨c, d⟩) : Calls Try.prog 84 #[.agg #[.int .u64 a, .int .u64 b], .agg #[.int .u64 c, .int .u64 d], .agg #[.int .u64 (allU).lo, .int .u64 (allU).hi]] W fun e w' => e = .returned (.agg #[.int .u64 (minusU ⟨a, b⟩ ⟨c, d⟩).lo, .int .u64 (minusU ⟨a, b⟩ ⟨c, d⟩).hi]) ∧ Below W.heap.size W w' := by
  have H1 := difU_is (a := a) (b := d) (by simp only [Pr.U] at hp hq; unfold inU; omega) (by simp only [Pr.U] at hp hq; unfold inU; omega)
  have H2 := difU_is (a := b) (b := c) (by simp only [Pr.U] at hp hq; unfold inU; omega) (by simp only [Pr.U] at hp hq; unfold inU; omega)
  have E : minusU ⟨a, b⟩ ⟨c, d⟩ = if difU a d = true ∧ difU b c = true then ⟨a - d, b - c⟩ else allU := by
    unfold minusU difU
    simp only [decide_eq_true_eq]
  rw [E]
  generalize x : difU a d = c1 at H1 ⊢
  generalize y : difU b c = c2 at H2 ⊢
  simp only [Pr.U] at hp hq
  clear E
  have sg0 : IntKind.u64.signed = false := rfl
  cases c1
  · rw [if_neg (fun h => by cases h.1)]
    clear hp hq x y
    go_enter Try.func84, Try.ntmps84
    go_wp2
    all_goals go_returns
    all_goals refine ⟨rfl, ?_⟩
    all_goals (repeat' (first | exact Below.refl _ _ | assumption | apply below_new | (refine below_call ?_ (by assumption))))
  · cases c2
    · rw [if_neg (fun h => by cases h.2)]
      clear hp hq x y
      go_enter Try.func84, Try.ntmps84
      go_wp2
      all_goals go_returns
      all_goals refine ⟨rfl, ?_⟩
      all_goals (repeat' (first | exact Below.refl _ _ | assumption | apply below_new | (refine below_call ?_ (by assumption))))
    · rw [if_pos ⟨rfl, rfl⟩]
      unfold difU at x y
      have x' := of_decide_eq_true x
      have y' := of_decide_eq_true y
      have z1 : IntKind.u64.wrap (a - d) = a - d := by skip; rw [IntKind.wrap_u64]; omega
      have z2 : IntKind.u64.wrap (b - c) = b - c := by skip; rw [IntKind.wrap_u64]; omega
      have Z1 := Lib.hid z1
      have Z2 := Lib.hid z2
      clear hp hq x y x' y' z1 z2
      go_enter Try.func84, Try.ntmps84
      go_wp2
      all_goals go_returns
      all_goals refine ⟨retP Z1.out Z2.out, ?_⟩
      all_goals (repeat' (first | exact Below.refl _ _ | assumption | apply below_new | (refine below_call ?_ (by assumption))))

theorem joinS_n (a b c d : Int) (W : World) : Calls Try.prog 79 #[.agg #[.int .i64 a, .int .i64 b], .agg #[.int .i64 c, .int .i64 d]] W fun e w' => e = .returned (.agg #[.int .i64 (Pr.join ⟨a, b⟩ ⟨c, d⟩).lo, .int .i64 (Pr.join ⟨a, b⟩ ⟨c, d⟩).hi]) ∧ Below W.heap.size W w' := joinS_any ⟨a, b⟩ ⟨c, d⟩ W

theorem meetS_n (a b c d : Int) (W : World) : Calls Try.prog 58 #[.agg #[.int .i64 a, .int .i64 b], .agg #[.int .i64 c, .int .i64 d]] W fun e w' => e = .returned (.agg #[.int .i64 (Pr.meet ⟨a, b⟩ ⟨c, d⟩).lo, .int .i64 (Pr.meet ⟨a, b⟩ ⟨c, d⟩).hi]) ∧ Below W.heap.size W w' := meetS_any ⟨a, b⟩ ⟨c, d⟩ W

theorem inS_n (a b c d : Int) (W : World) : Calls Try.prog 81 #[.agg #[.int .i64 a, .int .i64 b], .agg #[.int .i64 c, .int .i64 d]] W fun e w' => e = .returned (.bool (Pr.inB ⟨a, b⟩ ⟨c, d⟩)) ∧ Below W.heap.size W w' := inS_any ⟨a, b⟩ ⟨c, d⟩ W

theorem mayS_n (a b : Int) (W : World) : Calls Try.prog 74 #[.agg #[.int .i64 a, .int .i64 b]] W fun e w' => e = .returned (.bool (Pr.mayB ⟨a, b⟩)) ∧ Below W.heap.size W w' := mayS_any ⟨a, b⟩ W

theorem hasS_n (a b v : Int) (W : World) : Calls Try.prog 77 #[.agg #[.int .i64 a, .int .i64 b], .int .i64 v] W fun e w' => e = .returned (.bool (Pr.hasB ⟨a, b⟩ v)) ∧ Below W.heap.size W w' := hasS_any ⟨a, b⟩ v W

theorem noneS_n (a b : Int) (W : World) : Calls Try.prog 114 #[.agg #[.int .i64 a, .int .i64 b]] W fun e w' => e = .returned (.agg #[.int .i64 1, .int .i64 0]) ∧ Below W.heap.size W w' := noneS_any ⟨a, b⟩ W

theorem withoutS_n (a b v : Int) (W : World) (hp : Pr.S ⟨a, b⟩) (hm : a ≤ b) : Calls Try.prog 60 #[.agg #[.int .i64 a, .int .i64 b], .int .i64 v] W fun e w' => e = .returned (.agg #[.int .i64 (Pr.without ⟨a, b⟩ v).lo, .int .i64 (Pr.without ⟨a, b⟩ v).hi]) ∧ Below W.heap.size W w' := withoutS_any ⟨a, b⟩ v W hp hm

theorem atLeastS_n (a b c d : Int) (W : World) : Calls Try.prog 66 #[.agg #[.int .i64 a, .int .i64 b], .agg #[.int .i64 c, .int .i64 d]] W fun e w' => e = .returned (.agg #[.int .i64 (Pr.atLeast ⟨a, b⟩ ⟨c, d⟩).lo, .int .i64 (Pr.atLeast ⟨a, b⟩ ⟨c, d⟩).hi]) ∧ Below W.heap.size W w' := by
  simp only [Pr.atLeast]
  go_enter Try.func66, Try.ntmps66
  go_wp2
  all_goals go_returns
  all_goals refine ⟨rfl, ?_⟩
  all_goals (repeat' (first | exact Below.refl _ _ | assumption | apply below_new | (refine below_call ?_ (by assumption))))

theorem atMostS_n (a b c d : Int) (W : World) : Calls Try.prog 68 #[.agg #[.int .i64 a, .int .i64 b], .agg #[.int .i64 c, .int .i64 d]] W fun e w' => e = .returned (.agg #[.int .i64 (Pr.atMost ⟨a, b⟩ ⟨c, d⟩).lo, .int .i64 (Pr.atMost ⟨a, b⟩ ⟨c, d⟩).hi]) ∧ Below W.heap.size W w' := by
  simp only [Pr.atMost]
  go_enter Try.func68, Try.ntmps68
  go_wp2
  all_goals go_returns
  all_goals refine ⟨rfl, ?_⟩
  all_goals (repeat' (first | exact Below.refl _ _ | assumption | apply below_new | (refine below_call ?_ (by assumption))))

theorem aboveS_n (a b c d : Int) (W : World) (hp : Pr.S ⟨a, b⟩) (hq : Pr.S ⟨c, d⟩) : Calls Try.prog 65 #[.agg #[.int .i64 a, .int .i64 b], .agg #[.int .i64 c, .int .i64 d]] W fun e w' => e = .returned (.agg #[.int .i64 (Pr.above ⟨a, b⟩ ⟨c, d⟩).lo, .int .i64 (Pr.above ⟨a, b⟩ ⟨c, d⟩).hi]) ∧ Below W.heap.size W w' := by
  simp only [Pr.S] at hp hq
  by_cases h : b ≤ c
  · have e1 : Pr.above ⟨a, b⟩ ⟨c, d⟩ = ⟨1, 0⟩ := if_pos h
    rw [e1]
    clear hp hq e1
    go_enter Try.func65, Try.ntmps65
    go_wp2
    all_goals go_returns
    all_goals refine ⟨rfl, ?_⟩
    all_goals (repeat' (first | exact Below.refl _ _ | assumption | apply below_new | (refine below_call ?_ (by assumption))))
  · have e1 : Pr.above ⟨a, b⟩ ⟨c, d⟩ = Pr.atLeast ⟨a, b⟩ ⟨c + 1, d⟩ := if_neg h
    rw [e1]
    have w1 : wrap64 (c + 1) = (c + 1) := by rw [wrap64]; omega
    simp only [Pr.atLeast]
    clear hp hq e1
    go_enter Try.func65, Try.ntmps65
    go_wp2
    all_goals go_returns
    all_goals refine ⟨rfl, ?_⟩
    all_goals (repeat' (first | exact Below.refl _ _ | assumption | apply below_new | (refine below_call ?_ (by assumption))))

theorem belowS_n (a b c d : Int) (W : World) (hp : Pr.S ⟨a, b⟩) (hq : Pr.S ⟨c, d⟩) : Calls Try.prog 67 #[.agg #[.int .i64 a, .int .i64 b], .agg #[.int .i64 c, .int .i64 d]] W fun e w' => e = .returned (.agg #[.int .i64 (Pr.below ⟨a, b⟩ ⟨c, d⟩).lo, .int .i64 (Pr.below ⟨a, b⟩ ⟨c, d⟩).hi]) ∧ Below W.heap.size W w' := by
  simp only [Pr.S] at hp hq
  by_cases h : d ≤ a
  · have e1 : Pr.below ⟨a, b⟩ ⟨c, d⟩ = ⟨1, 0⟩ := if_pos h
    rw [e1]
    clear hp hq e1
    go_enter Try.func67, Try.ntmps67
    go_wp2
    all_goals go_returns
    all_goals refine ⟨rfl, ?_⟩
    all_goals (repeat' (first | exact Below.refl _ _ | assumption | apply below_new | (refine below_call ?_ (by assumption))))
  · have e1 : Pr.below ⟨a, b⟩ ⟨c, d⟩ = Pr.atMost ⟨a, b⟩ ⟨c, d - 1⟩ := if_neg h
    rw [e1]
    have w1 : wrap64 (d - 1) = (d - 1) := by rw [wrap64]; omega
    simp only [Pr.atMost]
    clear hp hq e1
    go_enter Try.func67, Try.ntmps67
    go_wp2
    all_goals go_returns
    all_goals refine ⟨rfl, ?_⟩
    all_goals (repeat' (first | exact Below.refl _ _ | assumption | apply below_new | (refine below_call ?_ (by assumption))))

theorem plusS_n (a b c d : Int) (W : World) (hp : Pr.S ⟨a, b⟩) (hq : Pr.S ⟨c, d⟩) : Calls Try.prog 83 #[.agg #[.int .i64 a, .int .i64 b], .agg #[.int .i64 c, .int .i64 d], .agg #[.int .i64 (allS).lo, .int .i64 (allS).hi]] W fun e w' => e = .returned (.agg #[.int .i64 (plusS ⟨a, b⟩ ⟨c, d⟩).lo, .int .i64 (plusS ⟨a, b⟩ ⟨c, d⟩).hi]) ∧ Below W.heap.size W w' := by
  have H1 := sumS_is (a := a) (b := c) (by simp only [Pr.S] at hp hq; unfold inS; omega) (by simp only [Pr.S] at hp hq; unfold inS; omega)
  have H2 := sumS_is (a := b) (b := d) (by simp only [Pr.S] at hp hq; unfold inS; omega) (by simp only [Pr.S] at hp hq; unfold inS; omega)
  have E : plusS ⟨a, b⟩ ⟨c, d⟩ = if sumS a c = true ∧ sumS b d = true then ⟨a + c, b + d⟩ else allS := by
    unfold plusS sumS
    simp only [decide_eq_true_eq]
  rw [E]
  generalize x : sumS a c = c1 at H1 ⊢
  generalize y : sumS b d = c2 at H2 ⊢
  simp only [Pr.S] at hp hq
  clear E
  have sg0 : IntKind.i64.signed = true := rfl
  cases c1
  · rw [if_neg (fun h => by cases h.1)]
    clear hp hq x y
    go_enter Try.func83, Try.ntmps83
    go_wp2
    all_goals go_returns
    all_goals refine ⟨rfl, ?_⟩
    all_goals (repeat' (first | exact Below.refl _ _ | assumption | apply below_new | (refine below_call ?_ (by assumption))))
  · cases c2
    · rw [if_neg (fun h => by cases h.2)]
      clear hp hq x y
      go_enter Try.func83, Try.ntmps83
      go_wp2
      all_goals go_returns
      all_goals refine ⟨rfl, ?_⟩
      all_goals (repeat' (first | exact Below.refl _ _ | assumption | apply below_new | (refine below_call ?_ (by assumption))))
    · rw [if_pos ⟨rfl, rfl⟩]
      unfold sumS at x y
      have x' := of_decide_eq_true x
      have y' := of_decide_eq_true y
      have z1 : wrap64 (a + c) = a + c := by unfold inS at x'; rw [wrap64]; omega
      have z2 : wrap64 (b + d) = b + d := by unfold inS at y'; rw [wrap64]; omega
      have Z1 := Lib.hid z1
      have Z2 := Lib.hid z2
      clear hp hq x y x' y' z1 z2
      go_enter Try.func83, Try.ntmps83
      go_wp2
      all_goals go_returns
      all_goals refine ⟨retP Z1.out Z2.out, ?_⟩
      all_goals (repeat' (first | exact Below.refl _ _ | assumption | apply below_new | (refine below_call ?_ (by assumption))))

theorem minusS_n (a b c d : Int) (W : World) (hp : Pr.S ⟨a, b⟩) (hq : Pr.S ⟨c, d⟩) : Calls Try.prog 85 #[.agg #[.int .i64 a, .int .i64 b], .agg #[.int .i64 c, .int .i64 d], .agg #[.int .i64 (allS).lo, .int .i64 (allS).hi]] W fun e w' => e = .returned (.agg #[.int .i64 (minusS ⟨a, b⟩ ⟨c, d⟩).lo, .int .i64 (minusS ⟨a, b⟩ ⟨c, d⟩).hi]) ∧ Below W.heap.size W w' := by
  have H1 := difS_is (a := a) (b := d) (by simp only [Pr.S] at hp hq; unfold inS; omega) (by simp only [Pr.S] at hp hq; unfold inS; omega)
  have H2 := difS_is (a := b) (b := c) (by simp only [Pr.S] at hp hq; unfold inS; omega) (by simp only [Pr.S] at hp hq; unfold inS; omega)
  have E : minusS ⟨a, b⟩ ⟨c, d⟩ = if difS a d = true ∧ difS b c = true then ⟨a - d, b - c⟩ else allS := by
    unfold minusS difS
    simp only [decide_eq_true_eq]
  rw [E]
  generalize x : difS a d = c1 at H1 ⊢
  generalize y : difS b c = c2 at H2 ⊢
  simp only [Pr.S] at hp hq
  clear E
  have sg0 : IntKind.i64.signed = true := rfl
  cases c1
  · rw [if_neg (fun h => by cases h.1)]
    clear hp hq x y
    go_enter Try.func85, Try.ntmps85
    go_wp2
    all_goals go_returns
    all_goals refine ⟨rfl, ?_⟩
    all_goals (repeat' (first | exact Below.refl _ _ | assumption | apply below_new | (refine below_call ?_ (by assumption))))
  · cases c2
    · rw [if_neg (fun h => by cases h.2)]
      clear hp hq x y
      go_enter Try.func85, Try.ntmps85
      go_wp2
      all_goals go_returns
      all_goals refine ⟨rfl, ?_⟩
      all_goals (repeat' (first | exact Below.refl _ _ | assumption | apply below_new | (refine below_call ?_ (by assumption))))
    · rw [if_pos ⟨rfl, rfl⟩]
      unfold difS at x y
      have x' := of_decide_eq_true x
      have y' := of_decide_eq_true y
      have z1 : wrap64 (a - d) = a - d := by unfold inS at x'; rw [wrap64]; omega
      have z2 : wrap64 (b - c) = b - c := by unfold inS at y'; rw [wrap64]; omega
      have Z1 := Lib.hid z1
      have Z2 := Lib.hid z2
      clear hp hq x y x' y' z1 z2
      go_enter Try.func85, Try.ntmps85
      go_wp2
      all_goals go_returns
      all_goals refine ⟨retP Z1.out Z2.out, ?_⟩
      all_goals (repeat' (first | exact Below.refl _ _ | assumption | apply below_new | (refine below_call ?_ (by assumption))))

theorem unsigned_n (a b c d : Int) (W : World) : Calls Try.prog 55 #[.agg #[.int .u64 a, .int .u64 b, .int .i64 c, .int .i64 d]] W fun e w' => e = .returned (.agg #[.int .u64 a, .int .u64 b]) ∧ Below W.heap.size W w' := by
  go_enter Try.func55, Try.ntmps55
  go_wp2
  all_goals go_returns
  all_goals refine ⟨rfl, ?_⟩
  all_goals (repeat' (first | exact Below.refl _ _ | assumption | apply below_new | (refine below_call ?_ (by assumption))))

theorem signed_n (a b c d : Int) (W : World) : Calls Try.prog 57 #[.agg #[.int .u64 a, .int .u64 b, .int .i64 c, .int .i64 d]] W fun e w' => e = .returned (.agg #[.int .i64 c, .int .i64 d]) ∧ Below W.heap.size W w' := by
  go_enter Try.func57, Try.ntmps57
  go_wp2
  all_goals go_returns
  all_goals refine ⟨rfl, ?_⟩
  all_goals (repeat' (first | exact Below.refl _ _ | assumption | apply below_new | (refine below_call ?_ (by assumption))))

theorem both_n (a b c d : Int) (W : World) : Calls Try.prog 54 #[.agg #[.int .u64 a, .int .u64 b], .agg #[.int .i64 c, .int .i64 d]] W fun e w' => e = .returned (.agg #[.int .u64 a, .int .u64 b, .int .i64 c, .int .i64 d]) ∧ Below W.heap.size W w' := by
  go_enter Try.func54, Try.ntmps54
  go_wp2
  all_goals go_returns
  all_goals refine ⟨rfl, ?_⟩
  all_goals (repeat' (first | exact Below.refl _ _ | assumption | apply below_new | (refine below_call ?_ (by assumption))))

theorem upTo_n (b : Int) (W : World) : Calls Try.prog 75 #[.int .u64 b] W fun e w' => e = .returned (.agg #[.int .u64 0, .int .u64 b]) ∧ Below W.heap.size W w' := by
  go_enter Try.func75, Try.ntmps75
  go_wp2
  all_goals go_returns
  all_goals refine ⟨rfl, ?_⟩
  all_goals (repeat' (first | exact Below.refl _ _ | assumption | apply below_new | (refine below_call ?_ (by assumption))))

theorem sameU_n (a b c d : Int) (W : World) (hq : Pr.U ⟨c, d⟩) : Calls Try.prog 69 #[.agg #[.int .i64 a, .int .i64 b], .agg #[.int .u64 c, .int .u64 d]] W fun e w' => e = .returned (.agg #[.int .i64 (sameU ⟨a, b⟩ ⟨c, d⟩).lo, .int .i64 (sameU ⟨a, b⟩ ⟨c, d⟩).hi]) ∧ Below W.heap.size W w' := by
  simp only [Pr.U] at hq
  by_cases h : (c < 9223372036854775808 ↔ d < 9223372036854775808)
  · have e1 : sameU ⟨a, b⟩ ⟨c, d⟩ = ⟨sg c, sg d⟩ := if_pos h
    have e2 : (c / 9223372036854775808 != d / 9223372036854775808) = false := by
      rw [bne_eq_false_iff_eq]; omega
    rw [e1]
    clear hq h e1
    go_enter Try.func69, Try.ntmps69
    go_wp2
    all_goals go_returns
    all_goals refine ⟨retP (by rw [wrap64, sg]) (by rw [wrap64, sg]), ?_⟩
    all_goals (repeat' (first | exact Below.refl _ _ | assumption | apply below_new | (refine below_call ?_ (by assumption))))
  · have e1 : sameU ⟨a, b⟩ ⟨c, d⟩ = ⟨a, b⟩ := if_neg h
    have e2 : (c / 9223372036854775808 != d / 9223372036854775808) = true := by
      rw [bne_iff_ne]; omega
    rw [e1]
    clear hq h e1
    go_enter Try.func69, Try.ntmps69
    go_wp2
    all_goals go_returns
    all_goals refine ⟨rfl, ?_⟩
    all_goals (repeat' (first | exact Below.refl _ _ | assumption | apply below_new | (refine below_call ?_ (by assumption))))

theorem sameS_n (a b c d : Int) (W : World) (hq : Pr.S ⟨c, d⟩) : Calls Try.prog 70 #[.agg #[.int .u64 a, .int .u64 b], .agg #[.int .i64 c, .int .i64 d]] W fun e w' => e = .returned (.agg #[.int .u64 (sameS ⟨a, b⟩ ⟨c, d⟩).lo, .int .u64 (sameS ⟨a, b⟩ ⟨c, d⟩).hi]) ∧ Below W.heap.size W w' := by
  simp only [Pr.S] at hq
  by_cases h : (c < 0 ↔ d < 0)
  · have e1 : sameS ⟨a, b⟩ ⟨c, d⟩ = ⟨un c, un d⟩ := if_pos h
    have e2 : (IntKind.u64.wrap c / 9223372036854775808 != IntKind.u64.wrap d / 9223372036854775808) = false := by
      rw [bne_eq_false_iff_eq, IntKind.wrap_u64, IntKind.wrap_u64]; omega
    rw [e1]
    clear hq h e1
    go_enter Try.func70, Try.ntmps70
    go_wp2
    all_goals go_returns
    all_goals refine ⟨retP (by rw [IntKind.wrap_u64, un]) (by rw [IntKind.wrap_u64, un]), ?_⟩
    all_goals (repeat' (first | exact Below.refl _ _ | assumption | apply below_new | (refine below_call ?_ (by assumption))))
  · have e1 : sameS ⟨a, b⟩ ⟨c, d⟩ = ⟨a, b⟩ := if_neg h
    have e2 : (IntKind.u64.wrap c / 9223372036854775808 != IntKind.u64.wrap d / 9223372036854775808) = true := by
      rw [bne_iff_ne, IntKind.wrap_u64, IntKind.wrap_u64]; omega
    rw [e1]
    clear hq h e1
    go_enter Try.func70, Try.ntmps70
    go_wp2
    all_goals go_returns
    all_goals refine ⟨rfl, ?_⟩
    all_goals (repeat' (first | exact Below.refl _ _ | assumption | apply below_new | (refine below_call ?_ (by assumption))))
end Go.Proofs.Ytnmgehjccafegaa.Bnd
