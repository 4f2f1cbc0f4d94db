/-
  Package bounds: pairs of bounds of both kinds, as contracts. (Written by gen_bnda.py.)
-/
import Derived.Test.YtnmgehjccafegaaRows
import Derived.Test.YtnmgehjccafegaaBndM
import Derived.Test.YtnmgehjccafegaaStore
import Derived.WalkKit
import Derived.WalkSpells
import Derived.WalkLawsBesides
import Derived.Lib.Hide
import Derived.Lib.MinMax
import Derived.Handy
import Derived.BigQuiet
import Derived.Below
import Derived.StillTailTactics
namespace Go.Proofs.Ytnmgehjccafegaa.Bnd
open Go.RowKit
set_option linter.unusedVariables false
set_option linter.unusedSimpArgs false
set_option linter.unnecessarySimpa false

theorem retB {a b : Bool} (h : a = b) : Ending.returned (.bool a) = .returned (.bool b) := by rw [h]
theorem and_l {p q : Prop} [Decidable p] [Decidable q] (h : p) : decide q = (decide p && decide q) := by rw [decide_eq_true h]; rfl
theorem mo : Try.prog.follows .mixedOrders = true := by kernel_rfl
abbrev cR (a b c d : Int) : Array Value := #[.int .u64 a, .int .u64 b, .int .i64 c, .int .i64 d]
abbrev cU (a b : Int) : Array Value := #[.int .u64 a, .int .u64 b]
abbrev cS (a b : Int) : Array Value := #[.int .i64 a, .int .i64 b]
theorem yb {a b : Int} (h : (a == b) = true) : a = b := by simpa using h
theorem nb {a b : Int} (h : (a == b) = false) : ¬ a = b := by simpa using h
theorem retI {k : IntKind} {a b : Int} (h : a = b) : Ending.returned (.int k a) = .returned (.int k b) := by rw [h]
theorem retP {k : IntKind} {a b c d : Int} (h1 : a = c) (h2 : b = d) : Ending.returned (.agg #[.int k a, .int k b]) = .returned (.agg #[.int k c, .int k d]) := by rw [h1, h2]
theorem retR {a b c d x y z t : Int} (h1 : a = x) (h2 : b = y) (h3 : c = z) (h4 : d = t) : Ending.returned (.agg #[.int .u64 a, .int .u64 b, .int .i64 c, .int .i64 d]) = .returned (.agg #[.int .u64 x, .int .u64 y, .int .i64 z, .int .i64 t]) := by rw [h1, h2, h3, h4]

/-! ### Halves of sums -/

theorem ofInt_mod (v : Int) : (BitVec.ofInt 64 v).toNat = (v % 18446744073709551616).toNat := by
  rw [BitVec.toNat_ofInt]; rfl
def word (k : IntKind) : Prop := k = .u64 ∨ k = .i64
theorem wrap_par {k : IntKind} (hk : word k) (n : Int) : k.wrap n % 2 = n % 2 := by
  rcases hk with rfl | rfl
  · rw [IntKind.wrap_u64]; omega
  · rw [IntKind.wrap_i64]; omega
theorem nat_and_par (x y : Nat) : (x &&& y) % 2 = if x % 2 = 1 ∧ y % 2 = 1 then 1 else 0 := by
  have h := Nat.and_mod_two_pow (a := x) (b := y) (n := 1)
  rw [show 2 ^ 1 = 2 from rfl] at h
  rw [h]
  rcases Nat.mod_two_eq_zero_or_one x with a | a <;> rcases Nat.mod_two_eq_zero_or_one y with b | b <;> rw [a, b] <;> rfl
theorem nat_xor_par (x y : Nat) : (x ^^^ y) % 2 = if x % 2 = y % 2 then 0 else 1 := by
  have h := Nat.xor_mod_two_pow (a := x) (b := y) (n := 1)
  rw [show 2 ^ 1 = 2 from rfl] at h
  rw [h]
  rcases Nat.mod_two_eq_zero_or_one x with a | a <;> rcases Nat.mod_two_eq_zero_or_one y with b | b <;> rw [a, b] <;> rfl
theorem bits_is {k : IntKind} (hk : word k) (x y : Int) : bits .and k x y = k.wrap ((BitVec.ofInt 64 x &&& BitVec.ofInt 64 y).toNat : Int) ∧ bits .xor k x y = k.wrap ((BitVec.ofInt 64 x ^^^ BitVec.ofInt 64 y).toNat : Int) := by
  rcases hk with rfl | rfl <;> exact ⟨rfl, rfl⟩
theorem and_par {k : IntKind} (hk : word k) (x y : Int) : bits .and k x y % 2 = if x % 2 = 1 ∧ y % 2 = 1 then 1 else 0 := by
  rw [(bits_is hk x y).1, wrap_par hk, BitVec.toNat_and, ofInt_mod, ofInt_mod]
  have := nat_and_par (x % 18446744073709551616).toNat (y % 18446744073709551616).toNat
  split at this <;> split <;> omega
theorem xor_par {k : IntKind} (hk : word k) (x y : Int) : bits .xor k x y % 2 = if x % 2 = y % 2 then 0 else 1 := by
  rw [(bits_is hk x y).2, wrap_par hk, BitVec.toNat_xor, ofInt_mod, ofInt_mod]
  have := nat_xor_par (x % 18446744073709551616).toNat (y % 18446744073709551616).toNat
  split at this <;> split <;> omega
theorem and_1k {k : IntKind} (hk : word k) (x : Int) : bits .and k x 1 = x % 2 := by
  rw [(bits_is hk x 1).1, BitVec.toNat_and, ofInt_mod, ofInt_mod]
  have e : (x % 18446744073709551616).toNat &&& ((1 : Int) % 18446744073709551616).toNat = (x % 18446744073709551616).toNat % 2 := Nat.and_two_pow_sub_one_eq_mod _ 1
  rw [e]
  rcases hk with rfl | rfl
  · rw [IntKind.wrap_u64]; omega
  · rw [IntKind.wrap_i64]; omega
theorem wU : word .u64 := .inl rfl
theorem wS : word .i64 := .inr rfl

theorem Pr.mayB_mk (a b : Int) : Pr.mayB ⟨a, b⟩ = decide (a ≤ b) := rfl
theorem Pr.hasB_mk (a b v : Int) : Pr.hasB ⟨a, b⟩ v = (decide (a ≤ v) && decide (v ≤ b)) := rfl
theorem Pr.inB_mk (a b c d : Int) : Pr.inB ⟨a, b⟩ ⟨c, d⟩ = (decide (c ≤ a) && decide (b ≤ d)) := rfl

def sumU (a b : Int) : Bool := decide (a + b < 18446744073709551616)
def sumS (a b : Int) : Bool := decide (inS (a + b))
def difU (a b : Int) : Bool := decide (b ≤ a)
def difS (a b : Int) : Bool := decide (inS (a - b))
def inU (v : Int) : Prop := 0 ≤ v ∧ v < 18446744073709551616
theorem sumU_is {a b : Int} (ha : inU a) (hb : inU b) : (IntKind.u64.wrap (a + b) / 2 == IntKind.u64.wrap (IntKind.u64.wrap (a / 2 + b / 2) + bits .and .u64 (bits .and .u64 a b) 1)) = sumU a b := by
  unfold inU at ha hb
  rw [and_1k wU, and_par wU, IntKind.wrap_u64, IntKind.wrap_u64, IntKind.wrap_u64, Bool.eq_iff_iff]
  unfold sumU
  rw [beq_iff_eq, decide_eq_true_eq]
  split <;> omega
theorem sumS_is {a b : Int} (ha : inS a) (hb : inS b) : (wrap64 (a + b) / 2 == wrap64 (wrap64 (a / 2 + b / 2) + bits .and .i64 (bits .and .i64 a b) 1)) = sumS a b := by
  unfold inS at ha hb
  rw [and_1k wS, and_par wS, wrap64, wrap64, wrap64, Bool.eq_iff_iff]
  unfold sumS
  rw [beq_iff_eq, decide_eq_true_eq]
  unfold inS
  split <;> omega
theorem difU_is {a b : Int} (ha : inU a) (hb : inU b) : (IntKind.u64.wrap (a - b) / 2 == IntKind.u64.wrap (IntKind.u64.wrap (a / 2 - b / 2) - bits .and .u64 (bits .and .u64 (bits .xor .u64 IntKind.u64.max a) b) 1)) = difU a b := by
  unfold inU at ha hb
  rw [and_1k wU, and_par wU, xor_par wU, show IntKind.u64.max % 2 = 1 from rfl, IntKind.wrap_u64, IntKind.wrap_u64, IntKind.wrap_u64, Bool.eq_iff_iff]
  unfold difU
  rw [beq_iff_eq, decide_eq_true_eq]
  repeat' split
  all_goals omega
theorem difS_is {a b : Int} (ha : inS a) (hb : inS b) : (wrap64 (a - b) / 2 == wrap64 (wrap64 (a / 2 - b / 2) - bits .and .i64 (bits .and .i64 (bits .xor .i64 (-1) a) b) 1)) = difS a b := by
  unfold inS at ha hb
  rw [and_1k wS, and_par wS, xor_par wS, show (-1 : Int) % 2 = 1 from rfl, wrap64, wrap64, wrap64, Bool.eq_iff_iff]
  unfold difS
  rw [beq_iff_eq, decide_eq_true_eq]
  unfold inS
  repeat' split
  all_goals omega

theorem mayU_any (p : Pr) (W : World) : Calls Try.prog 73 #[p.val .u64] W fun e w' => e = .returned (.bool p.mayB) ∧ Below W.heap.size W w' := by
  obtain ⟨a, b⟩ := p
  rw [Pr.mayB_mk]; simp only [Pr.val]
  go_enter Try.func73, Try.ntmps73
  go_wp2
  all_goals go_returns
  all_goals refine ⟨(by first | exact retB rfl | exact retB (by symm; simp only [Bool.and_eq_false_iff, decide_eq_false_iff_not]; omega) | exact retB (and_l (by omega))), ?_⟩
  all_goals (repeat' (first | exact Below.refl _ _ | assumption | apply below_new | (refine below_call ?_ (by assumption))))

theorem hasU_any (p : Pr) (v : Int) (W : World) : Calls Try.prog 76 #[p.val .u64, .int .u64 v] W fun e w' => e = .returned (.bool (p.hasB v)) ∧ Below W.heap.size W w' := by
  obtain ⟨a, b⟩ := p
  rw [Pr.hasB_mk]; simp only [Pr.val]
  go_enter Try.func76, Try.ntmps76
  go_wp2
  all_goals go_returns
  all_goals refine ⟨(by first | exact retB rfl | exact retB (by symm; simp only [Bool.and_eq_false_iff, decide_eq_false_iff_not]; omega) | exact retB (and_l (by omega))), ?_⟩
  all_goals (repeat' (first | exact Below.refl _ _ | assumption | apply below_new | (refine below_call ?_ (by assumption))))

theorem inU_any (p q : Pr) (W : World) : Calls Try.prog 80 #[p.val .u64, q.val .u64] W fun e w' => e = .returned (.bool (p.inB q)) ∧ Below W.heap.size W w' := by
  obtain ⟨a, b⟩ := p
  obtain ⟨c, d⟩ := q
  rw [Pr.inB_mk]; simp only [Pr.val]
  go_enter Try.func80, Try.ntmps80
  go_wp2
  all_goals go_returns
  all_goals refine ⟨(by first | exact retB rfl | exact retB (by symm; simp only [Bool.and_eq_false_iff, decide_eq_false_iff_not]; omega) | exact retB (and_l (by omega))), ?_⟩
  all_goals (repeat' (first | exact Below.refl _ _ | assumption | apply below_new | (refine below_call ?_ (by assumption))))

theorem joinU_any (p q : Pr) (W : World) : Calls Try.prog 78 #[p.val .u64, q.val .u64] W fun e w' => e = .returned ((p.join q).val .u64) ∧ Below W.heap.size W w' := by
  obtain ⟨a, b⟩ := p
  obtain ⟨c, d⟩ := q
  simp only [Pr.val, Pr.join]
  go_enter Try.func78, Try.ntmps78
  go_wp2
  all_goals go_returns
  all_goals refine ⟨rfl, ?_⟩
  all_goals (repeat' (first | exact Below.refl _ _ | assumption | apply below_new | (refine below_call ?_ (by assumption))))

theorem meetU_any (p q : Pr) (W : World) : Calls Try.prog 56 #[p.val .u64, q.val .u64] W fun e w' => e = .returned ((p.meet q).val .u64) ∧ Below W.heap.size W w' := by
  obtain ⟨a, b⟩ := p
  obtain ⟨c, d⟩ := q
  simp only [Pr.val, Pr.meet]
  go_enter Try.func56, Try.ntmps56
  go_wp2
  all_goals go_returns
  all_goals refine ⟨rfl, ?_⟩
  all_goals (repeat' (first | exact Below.refl _ _ | assumption | apply below_new | (refine below_call ?_ (by assumption))))

theorem noneU_any (p : Pr) (W : World) : Calls Try.prog 113 #[p.val .u64] W fun e w' => e = .returned (noneP.val .u64) ∧ Below W.heap.size W w' := by
  obtain ⟨a, b⟩ := p
  simp only [Pr.val, noneP]
  go_enter Try.func113, Try.ntmps113
  go_wp2
  all_goals go_returns
  all_goals refine ⟨rfl, ?_⟩
  all_goals (repeat' (first | exact Below.refl _ _ | assumption | apply below_new | (refine below_call ?_ (by assumption))))

theorem sumU_any (a b : Int) (W : World) (ha : inU a) (hb : inU b) : Calls Try.prog 115 #[.int .u64 a, .int .u64 b] W fun e w' => e = .returned (.bool (sumU a b)) ∧ Below W.heap.size W w' := by
  have H := Lib.hid (And.intro ha hb)
  clear ha hb
  go_enter Try.func115, Try.ntmps115
  go_wp2
  all_goals go_returns
  all_goals refine ⟨retB (sumU_is H.out.1 H.out.2), ?_⟩
  all_goals (repeat' (first | exact Below.refl _ _ | assumption | apply below_new | (refine below_call ?_ (by assumption))))

theorem difU_any (a b : Int) (W : World) (ha : inU a) (hb : inU b) : Calls Try.prog 117 #[.int .u64 a, .int .u64 b] W fun e w' => e = .returned (.bool (difU a b)) ∧ Below W.heap.size W w' := by
  have H := Lib.hid (And.intro ha hb)
  clear ha hb
  go_enter Try.func117, Try.ntmps117
  go_wp2
  all_goals go_returns
  all_goals refine ⟨retB (difU_is H.out.1 H.out.2), ?_⟩
  all_goals (repeat' (first | exact Below.refl _ _ | assumption | apply below_new | (refine below_call ?_ (by assumption))))

theorem withoutU_any (p : Pr) (v : Int) (W : World) (hp : p.U) (hm : p.lo ≤ p.hi) : Calls Try.prog 59 #[p.val .u64, .int .u64 v] W fun e w' => e = .returned ((p.without v).val .u64) ∧ Below W.heap.size W w' := by
  obtain ⟨a, b⟩ := p
  simp only [Pr.U] at hp
  dsimp only at hm
  unfold Pr.without
  dsimp only
  by_cases h1 : a = v
  · by_cases h2 : b = v
    · rw [if_pos ⟨h1, h2⟩]
      subst h1 h2
      simp only [Pr.val, noneP]
      go_enter Try.func59, Try.ntmps59
      go_wp2
      all_goals go_returns
      all_goals refine ⟨rfl, ?_⟩
      all_goals (repeat' (first | exact Below.refl _ _ | assumption | apply below_new | (refine below_call ?_ (by assumption))))
    · rw [if_neg (fun h => h2 h.2), if_pos h1]
      subst h1
      have e2 : (b == a) = false := by simpa using h2
      have w1 : IntKind.u64.wrap (a + 1) = a + 1 := by rw [IntKind.wrap_u64]; omega
      have H := Lib.hid w1
      clear hp hm h2 w1
      simp only [Pr.val]
      go_enter Try.func59, Try.ntmps59
      go_wp2
      all_goals go_returns
      all_goals refine ⟨retP H.out rfl, ?_⟩
      all_goals (repeat' (first | exact Below.refl _ _ | assumption | apply below_new | (refine below_call ?_ (by assumption))))
  · rw [if_neg (fun h => h1 h.1), if_neg h1]
    have e1 : (a == v) = false := by simpa using h1
    by_cases h2 : b = v
    · rw [if_pos h2]
      subst h2
      have w1 : IntKind.u64.wrap (b - 1) = b - 1 := by rw [IntKind.wrap_u64]; omega
      have H := Lib.hid w1
      clear hp hm h1 w1
      simp only [Pr.val]
      go_enter Try.func59, Try.ntmps59
      go_wp2
      all_goals go_returns
      all_goals refine ⟨retP rfl H.out, ?_⟩
      all_goals (repeat' (first | exact Below.refl _ _ | assumption | apply below_new | (refine below_call ?_ (by assumption))))
    · rw [if_neg h2]
      have e2 : (b == v) = false := by simpa using h2
      clear hp hm h1 h2
      simp only [Pr.val]
      go_enter Try.func59, Try.ntmps59
      go_wp2
      all_goals go_returns
      all_goals refine ⟨rfl, ?_⟩
      all_goals (repeat' (first | exact Below.refl _ _ | assumption | apply below_new | (refine below_call ?_ (by assumption))))

theorem mayS_any (p : Pr) (W : World) : Calls Try.prog 74 #[p.val .i64] W fun e w' => e = .returned (.bool p.mayB) ∧ Below W.heap.size W w' := by
  obtain ⟨a, b⟩ := p
  rw [Pr.mayB_mk]; simp only [Pr.val]
  go_enter Try.func74, Try.ntmps74
  go_wp2
  all_goals go_returns
  all_goals refine ⟨(by first | exact retB rfl | exact retB (by symm; simp only [Bool.and_eq_false_iff, decide_eq_false_iff_not]; omega) | exact retB (and_l (by omega))), ?_⟩
  all_goals (repeat' (first | exact Below.refl _ _ | assumption | apply below_new | (refine below_call ?_ (by assumption))))

theorem hasS_any (p : Pr) (v : Int) (W : World) : Calls Try.prog 77 #[p.val .i64, .int .i64 v] W fun e w' => e = .returned (.bool (p.hasB v)) ∧ Below W.heap.size W w' := by
  obtain ⟨a, b⟩ := p
  rw [Pr.hasB_mk]; simp only [Pr.val]
  go_enter Try.func77, Try.ntmps77
  go_wp2
  all_goals go_returns
  all_goals refine ⟨(by first | exact retB rfl | exact retB (by symm; simp only [Bool.and_eq_false_iff, decide_eq_false_iff_not]; omega) | exact retB (and_l (by omega))), ?_⟩
  all_goals (repeat' (first | exact Below.refl _ _ | assumption | apply below_new | (refine below_call ?_ (by assumption))))

theorem inS_any (p q : Pr) (W : World) : Calls Try.prog 81 #[p.val .i64, q.val .i64] W fun e w' => e = .returned (.bool (p.inB q)) ∧ Below W.heap.size W w' := by
  obtain ⟨a, b⟩ := p
  obtain ⟨c, d⟩ := q
  rw [Pr.inB_mk]; simp only [Pr.val]
  go_enter Try.func81, Try.ntmps81
  go_wp2
  all_goals go_returns
  all_goals refine ⟨(by first | exact retB rfl | exact retB (by symm; simp only [Bool.and_eq_false_iff, decide_eq_false_iff_not]; omega) | exact retB (and_l (by omega))), ?_⟩
  all_goals (repeat' (first | exact Below.refl _ _ | assumption | apply below_new | (refine below_call ?_ (by assumption))))

theorem joinS_any (p q : Pr) (W : World) : Calls Try.prog 79 #[p.val .i64, q.val .i64] W fun e w' => e = .returned ((p.join q).val .i64) ∧ Below W.heap.size W w' := by
  obtain ⟨a, b⟩ := p
  obtain ⟨c, d⟩ := q
  simp only [Pr.val, Pr.join]
  go_enter Try.func79, Try.ntmps79
  go_wp2
  all_goals go_returns
  all_goals refine ⟨rfl, ?_⟩
  all_goals (repeat' (first | exact Below.refl _ _ | assumption | apply below_new | (refine below_call ?_ (by assumption))))

theorem meetS_any (p q : Pr) (W : World) : Calls Try.prog 58 #[p.val .i64, q.val .i64] W fun e w' => e = .returned ((p.meet q).val .i64) ∧ Below W.heap.size W w' := by
  obtain ⟨a, b⟩ := p
  obtain ⟨c, d⟩ := q
  simp only [Pr.val, Pr.meet]
  go_enter Try.func58, Try.ntmps58
  go_wp2
  all_goals go_returns
  all_goals refine ⟨rfl, ?_⟩
  all_goals (repeat' (first | exact Below.refl _ _ | assumption | apply below_new | (refine below_call ?_ (by assumption))))

theorem noneS_any (p : Pr) (W : World) : Calls Try.prog 114 #[p.val .i64] W fun e w' => e = .returned (noneP.val .i64) ∧ Below W.heap.size W w' := by
  obtain ⟨a, b⟩ := p
  simp only [Pr.val, noneP]
  go_enter Try.func114, Try.ntmps114
  go_wp2
  all_goals go_returns
  all_goals refine ⟨rfl, ?_⟩
  all_goals (repeat' (first | exact Below.refl _ _ | assumption | apply below_new | (refine below_call ?_ (by assumption))))

theorem sumS_any (a b : Int) (W : World) (ha : inS a) (hb : inS b) : Calls Try.prog 116 #[.int .i64 a, .int .i64 b] W fun e w' => e = .returned (.bool (sumS a b)) ∧ Below W.heap.size W w' := by
  have H := Lib.hid (And.intro ha hb)
  clear ha hb
  go_enter Try.func116, Try.ntmps116
  go_wp2
  all_goals go_returns
  all_goals refine ⟨retB (sumS_is H.out.1 H.out.2), ?_⟩
  all_goals (repeat' (first | exact Below.refl _ _ | assumption | apply below_new | (refine below_call ?_ (by assumption))))

theorem difS_any (a b : Int) (W : World) (ha : inS a) (hb : inS b) : Calls Try.prog 118 #[.int .i64 a, .int .i64 b] W fun e w' => e = .returned (.bool (difS a b)) ∧ Below W.heap.size W w' := by
  have H := Lib.hid (And.intro ha hb)
  clear ha hb
  go_enter Try.func118, Try.ntmps118
  go_wp2
  all_goals go_returns
  all_goals refine ⟨retB (difS_is H.out.1 H.out.2), ?_⟩
  all_goals (repeat' (first | exact Below.refl _ _ | assumption | apply below_new | (refine below_call ?_ (by assumption))))

theorem withoutS_any (p : Pr) (v : Int) (W : World) (hp : p.S) (hm : p.lo ≤ p.hi) : Calls Try.prog 60 #[p.val .i64, .int .i64 v] W fun e w' => e = .returned ((p.without v).val .i64) ∧ Below W.heap.size W w' := by
  obtain ⟨a, b⟩ := p
  simp only [Pr.S] at hp
  dsimp only at hm
  unfold Pr.without
  dsimp only
  by_cases h1 : a = v
  · by_cases h2 : b = v
    · rw [if_pos ⟨h1, h2⟩]
      subst h1 h2
      simp only [Pr.val, noneP]
      go_enter Try.func60, Try.ntmps60
      go_wp2
      all_goals go_returns
      all_goals refine ⟨rfl, ?_⟩
      all_goals (repeat' (first | exact Below.refl _ _ | assumption | apply below_new | (refine below_call ?_ (by assumption))))
    · rw [if_neg (fun h => h2 h.2), if_pos h1]
      subst h1
      have e2 : (b == a) = false := by simpa using h2
      have w1 : wrap64 (a + 1) = a + 1 := by rw [wrap64]; omega
      have H := Lib.hid w1
      clear hp hm h2 w1
      simp only [Pr.val]
      go_enter Try.func60, Try.ntmps60
      go_wp2
      all_goals go_returns
      all_goals refine ⟨retP H.out rfl, ?_⟩
      all_goals (repeat' (first | exact Below.refl _ _ | assumption | apply below_new | (refine below_call ?_ (by assumption))))
  · rw [if_neg (fun h => h1 h.1), if_neg h1]
    have e1 : (a == v) = false := by simpa using h1
    by_cases h2 : b = v
    · rw [if_pos h2]
      subst h2
      have w1 : wrap64 (b - 1) = b - 1 := by rw [wrap64]; omega
      have H := Lib.hid w1
      clear hp hm h1 w1
      simp only [Pr.val]
      go_enter Try.func60, Try.ntmps60
      go_wp2
      all_goals go_returns
      all_goals refine ⟨retP rfl H.out, ?_⟩
      all_goals (repeat' (first | exact Below.refl _ _ | assumption | apply below_new | (refine below_call ?_ (by assumption))))
    · rw [if_neg h2]
      have e2 : (b == v) = false := by simpa using h2
      clear hp hm h1 h2
      simp only [Pr.val]
      go_enter Try.func60, Try.ntmps60
      go_wp2
      all_goals go_returns
      all_goals refine ⟨rfl, ?_⟩
      all_goals (repeat' (first | exact Below.refl _ _ | assumption | apply below_new | (refine below_call ?_ (by assumption))))
end Go.Proofs.Ytnmgehjccafegaa.Bnd
