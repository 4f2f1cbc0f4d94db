/-
  Intervals in plain numbers: pairs of bounds, ranges, narrowing, what operations and conditions leave. No program is named here.
-/
import Derived.Test.YtnmgehjccafegaaBitsM
namespace Go.Proofs.Ytnmgehjccafegaa.Bnd
set_option linter.unusedVariables false
set_option linter.unnecessarySimpa false
set_option linter.unusedSimpArgs false

/-- The signed number of a word, and the word of a number. -/
def sg (v : Int) : Int := (v + 9223372036854775808) % 18446744073709551616 - 9223372036854775808
def un (v : Int) : Int := v % 18446744073709551616

structure Pr where
  lo : Int
  hi : Int
structure Rg where
  u : Pr
  s : Pr

def Pr.U (p : Pr) : Prop := (0 ≤ p.lo ∧ p.lo < 18446744073709551616) ∧ 0 ≤ p.hi ∧ p.hi < 18446744073709551616
def Pr.S (p : Pr) : Prop := (-9223372036854775808 ≤ p.lo ∧ p.lo < 9223372036854775808) ∧ -9223372036854775808 ≤ p.hi ∧ p.hi < 9223372036854775808
def Rg.Ok (r : Rg) : Prop := r.u.U ∧ r.s.S
def Pr.val (k : IntKind) (p : Pr) : Value := .agg #[.int k p.lo, .int k p.hi]
def Rg.val (r : Rg) : Value := .agg #[.int .u64 r.u.lo, .int .u64 r.u.hi, .int .i64 r.s.lo, .int .i64 r.s.hi]
def eqR (a b : Rg) : Bool := a.u.lo == b.u.lo && (a.u.hi == b.u.hi && (a.s.lo == b.s.lo && a.s.hi == b.s.hi))

def allU : Pr := ⟨0, 18446744073709551615⟩
def allS : Pr := ⟨-9223372036854775808, 9223372036854775807⟩
def allR : Rg := ⟨allU, allS⟩
def oneR (v : Int) : Rg := ⟨⟨v, v⟩, ⟨sg v, sg v⟩⟩
def noneP : Pr := ⟨1, 0⟩

def Pr.mayB (p : Pr) : Bool := decide (p.lo ≤ p.hi)
def Pr.hasB (p : Pr) (v : Int) : Bool := decide (p.lo ≤ v) && decide (v ≤ p.hi)
def Pr.inB (p q : Pr) : Bool := decide (q.lo ≤ p.lo) && decide (p.hi ≤ q.hi)
def Pr.join (p q : Pr) : Pr := ⟨min p.lo q.lo, max p.hi q.hi⟩
def Pr.meet (p q : Pr) : Pr := ⟨max p.lo q.lo, min p.hi q.hi⟩
/-- What bounds of the other kind come to, where they are in one half. -/
def sameU (p q : Pr) : Pr := if (q.lo < 9223372036854775808 ↔ q.hi < 9223372036854775808) then ⟨sg q.lo, sg q.hi⟩ else p
def sameS (p q : Pr) : Pr := if (q.lo < 0 ↔ q.hi < 0) then ⟨un q.lo, un q.hi⟩ else p

def Rg.mayB (r : Rg) : Bool := r.u.mayB && r.s.mayB
def Rg.hasB (r : Rg) (v : Int) : Bool := r.u.hasB v && r.s.hasB (sg v)
def Rg.inB (a b : Rg) : Bool := a.mayB && (b.mayB && (a.u.inB b.u && a.s.inB b.s))
def Rg.nS (r : Rg) : Rg := ⟨r.u, r.s.meet (sameU r.s r.u)⟩
def Rg.nU (r : Rg) : Rg := ⟨r.u.meet (sameS r.u r.s), r.s⟩
def Rg.nar3 (r : Rg) : Rg := r.nS.nU.nS
def Rg.narB (r : Rg) : Bool := r.nar3.mayB
def Rg.nar (r : Rg) : Rg := if r.narB then r.nar3 else allR
def Rg.joinR (a b : Rg) : Rg := if a.mayB && b.mayB then ⟨a.u.join b.u, a.s.join b.s⟩ else allR
def Rg.meet2 (a b : Rg) : Rg := ⟨a.u.meet b.u, a.s.meet b.s⟩
def Rg.meetR (a b : Rg) : Rg := if a.mayB && b.mayB then (a.meet2 b).nar else allR
def Rg.meetB (a b : Rg) : Bool := a.mayB && (b.mayB && (a.meet2 b).narB)
def Rg.oneB (r : Rg) : Bool := r.u.lo == r.u.hi && r.hasB r.u.lo
def Rg.oneV (r : Rg) : Int := if r.oneB then r.u.lo else 0

/-- The least 2^k - 1 that is at least a number. -/
def lenN (n : Nat) : Nat := if n = 0 then 0 else n.log2 + 1
def onesI (n : Nat) : Int := 2 ^ lenN n - 1

def plusU (p q : Pr) : Pr := if p.lo + q.lo < 18446744073709551616 ∧ p.hi + q.hi < 18446744073709551616 then ⟨p.lo + q.lo, p.hi + q.hi⟩ else allU
def inS (v : Int) : Prop := -9223372036854775808 ≤ v ∧ v < 9223372036854775808
instance (v : Int) : Decidable (inS v) := inferInstanceAs (Decidable (_ ∧ _))
def plusS (p q : Pr) : Pr := if inS (p.lo + q.lo) ∧ inS (p.hi + q.hi) then ⟨p.lo + q.lo, p.hi + q.hi⟩ else allS
def minusU (p q : Pr) : Pr := if q.hi ≤ p.lo ∧ q.lo ≤ p.hi then ⟨p.lo - q.hi, p.hi - q.lo⟩ else allU
def minusS (p q : Pr) : Pr := if inS (p.lo - q.hi) ∧ inS (p.hi - q.lo) then ⟨p.lo - q.hi, p.hi - q.lo⟩ else allS

def byN (b : Rg) : Nat := (b.oneV % 64).toNat
/-- The unsigned bounds of results that have no signed ones of their own. -/
def restU (op : Int) (a b : Rg) : Pr :=
  if op = 5 then ⟨0, min a.u.hi b.u.hi⟩
  else if op = 4 then ⟨max a.u.lo b.u.lo, onesI (a.u.hi.toNat ||| b.u.hi.toNat)⟩
  else if op = 10 then ⟨0, onesI (a.u.hi.toNat ||| b.u.hi.toNat)⟩
  else if op = 3 then (if b.u.lo = 0 then ⟨0, a.u.hi⟩ else ⟨a.u.lo / b.u.hi, a.u.hi / b.u.lo⟩)
  else if op = 9 then (if b.u.lo = 0 then ⟨0, a.u.hi⟩ else ⟨0, min a.u.hi (b.u.hi - 1)⟩)
  else if op = 7 then (if b.oneB then ⟨a.u.lo / 2 ^ byN b, a.u.hi / 2 ^ byN b⟩ else allU)
  else if op = 6 then (if b.oneB && decide (a.u.hi * 2 ^ byN b < 18446744073709551616) then ⟨a.u.lo * 2 ^ byN b % 18446744073709551616, a.u.hi * 2 ^ byN b⟩ else allU)
  else allU
def doU (op : Int) (a b : Rg) : Pr := if op = 11 then b.u else if op = 0 then plusU a.u b.u else if op = 1 then minusU a.u b.u else restU op a b
def doS (op : Int) (a b : Rg) : Pr := if op = 11 then b.s else if op = 0 then plusS a.s b.s else if op = 1 then minusS a.s b.s else allS
def Rg.doR (op : Int) (a b : Rg) : Rg := if a.mayB && b.mayB then (⟨doU op a b, doS op a b⟩ : Rg).nar else allR
def low32 : Pr := ⟨0, 4294967295⟩
def Rg.low (r : Rg) : Rg := if r.mayB && decide (r.u.hi ≤ 4294967295) then r else ⟨low32, low32⟩

def Pr.without (p : Pr) (v : Int) : Pr := if p.lo = v ∧ p.hi = v then noneP else if p.lo = v then ⟨p.lo + 1, p.hi⟩ else if p.hi = v then ⟨p.lo, p.hi - 1⟩ else p
def Pr.above (p q : Pr) : Pr := if p.hi ≤ q.lo then noneP else ⟨max p.lo (q.lo + 1), p.hi⟩
def Pr.atLeast (p q : Pr) : Pr := ⟨max p.lo q.lo, p.hi⟩
def Pr.below (p q : Pr) : Pr := if q.hi ≤ p.lo then noneP else ⟨p.lo, min p.hi (q.hi - 1)⟩
def Pr.atMost (p q : Pr) : Pr := ⟨p.lo, min p.hi q.hi⟩
def givC (cc : Int) (a b : Rg) : Rg :=
  if cc = 0 then a.meet2 b
  else if cc = 1 then (if b.oneB then ⟨a.u.without b.oneV, a.s.without (sg b.oneV)⟩ else a)
  else if cc = 2 then ⟨a.u.above b.u, a.s⟩
  else if cc = 3 then ⟨a.u.atLeast b.u, a.s⟩
  else if cc = 4 then ⟨a.u.below b.u, a.s⟩
  else if cc = 5 then ⟨a.u.atMost b.u, a.s⟩
  else if cc = 6 then ⟨a.u, a.s.above b.s⟩
  else if cc = 7 then ⟨a.u, a.s.atLeast b.s⟩
  else if cc = 8 then ⟨a.u, a.s.below b.s⟩
  else if cc = 9 then ⟨a.u, a.s.atMost b.s⟩
  else a
def ccOk (cc : Int) : Bool := decide (0 ≤ cc) && decide (cc ≤ 10)
def Rg.giv (cc : Int) (a b : Rg) : Rg := if a.mayB && (b.mayB && ccOk cc) then (givC cc a b).nar else allR
def Rg.givB (cc : Int) (a b : Rg) : Bool := a.mayB && (b.mayB && (ccOk cc && (givC cc a b).narB))

/-! ### Narrowing -/

theorem may_iff (r : Rg) : r.mayB = true ↔ r.u.lo ≤ r.u.hi ∧ r.s.lo ≤ r.s.hi := by
  simp only [Rg.mayB, Pr.mayB, Bool.and_eq_true, decide_eq_true_eq]
theorem may_nS {r : Rg} (h : r.nS.mayB = true) : r.mayB = true := by
  rw [may_iff] at h ⊢
  simp only [Rg.nS, Pr.meet] at h
  omega
theorem may_nU {r : Rg} (h : r.nU.mayB = true) : r.mayB = true := by
  rw [may_iff] at h ⊢
  simp only [Rg.nU, Pr.meet] at h
  omega
theorem nar_of_no {r : Rg} (h : r.mayB = false) : r.narB = false := by
  cases e : r.narB
  · rfl
  · rw [may_nS (may_nU (may_nS e))] at h; cases h
theorem nar_of_no1 {r : Rg} (h : r.nS.mayB = false) : r.narB = false := by
  cases e : r.narB
  · rfl
  · rw [may_nU (may_nS e)] at h; cases h
theorem nar_of_no2 {r : Rg} (h : r.nS.nU.mayB = false) : r.narB = false := by
  cases e : r.narB
  · rfl
  · rw [may_nS e] at h; cases h

theorem U_all : allU.U := by simp only [Pr.U, allU]; omega
theorem S_all : allS.S := by simp only [Pr.S, allS]; omega
theorem sg_bd (v : Int) : -9223372036854775808 ≤ sg v ∧ sg v < 9223372036854775808 := by unfold sg; omega
theorem un_bd (v : Int) : 0 ≤ un v ∧ un v < 18446744073709551616 := by unfold un; omega
theorem un_sg {v : Int} (h0 : 0 ≤ v) (h1 : v < 18446744073709551616) : un (sg v) = v := by unfold un sg; omega
theorem sg_lo {v : Int} (h0 : 0 ≤ v) (h1 : v < 9223372036854775808) : sg v = v := by unfold sg; omega
theorem sg_hi {v : Int} (h0 : 9223372036854775808 ≤ v) (h1 : v < 18446744073709551616) : sg v = v - 18446744073709551616 := by unfold sg; omega
theorem un_lo {v : Int} (h0 : -9223372036854775808 ≤ v) (h1 : v < 0) : un v = v + 18446744073709551616 := by unfold un; omega
theorem un_hi {v : Int} (h0 : 0 ≤ v) (h1 : v < 9223372036854775808) : un v = v := by unfold un; omega

theorem ok_nS {r : Rg} (h : r.Ok) : r.nS.Ok := by
  obtain ⟨hu, hs⟩ := h
  refine ⟨hu, ?_⟩
  have a := sg_bd r.u.lo
  have b := sg_bd r.u.hi
  simp only [Pr.S, Pr.U, Rg.nS, Pr.meet, sameU] at *
  split <;> (try dsimp only) <;> omega
theorem ok_nU {r : Rg} (h : r.Ok) : r.nU.Ok := by
  obtain ⟨hu, hs⟩ := h
  refine ⟨?_, hs⟩
  have a := un_bd r.s.lo
  have b := un_bd r.s.hi
  simp only [Pr.S, Pr.U, Rg.nU, Pr.meet, sameS] at *
  split <;> (try dsimp only) <;> omega
theorem ok_nar {r : Rg} (h : r.Ok) : r.nar.Ok := by
  unfold Rg.nar
  split
  · exact ok_nS (ok_nU (ok_nS h))
  · exact ⟨U_all, S_all⟩

theorem has_iff (r : Rg) (v : Int) : r.hasB v = true ↔ r.u.lo ≤ v ∧ v ≤ r.u.hi ∧ r.s.lo ≤ sg v ∧ sg v ≤ r.s.hi := by
  simp only [Rg.hasB, Pr.hasB, Bool.and_eq_true, decide_eq_true_eq]
  constructor
  · rintro ⟨⟨a, b⟩, c, d⟩; exact ⟨a, b, c, d⟩
  · rintro ⟨a, b, c, d⟩; exact ⟨⟨a, b⟩, c, d⟩
theorem has_may {r : Rg} {v : Int} (h : r.hasB v = true) : r.mayB = true := by
  rw [has_iff] at h
  rw [may_iff]
  omega
theorem has_nS {r : Rg} {v : Int} (ok : r.Ok) (v0 : 0 ≤ v) (v1 : v < 18446744073709551616) : r.nS.hasB v = r.hasB v := by
  rw [Bool.eq_iff_iff, has_iff, has_iff]
  obtain ⟨hu, hs⟩ := ok
  simp only [Pr.S, Pr.U, Rg.nS, Pr.meet, sameU, sg] at *
  split <;> (try dsimp only) <;> omega
theorem has_nU {r : Rg} {v : Int} (ok : r.Ok) (v0 : 0 ≤ v) (v1 : v < 18446744073709551616) : r.nU.hasB v = r.hasB v := by
  rw [Bool.eq_iff_iff, has_iff, has_iff]
  obtain ⟨hu, hs⟩ := ok
  simp only [Pr.S, Pr.U, Rg.nU, Pr.meet, sameS, sg, un] at *
  split <;> (try dsimp only) <;> omega
theorem has_nar3 {r : Rg} {v : Int} (ok : r.Ok) (v0 : 0 ≤ v) (v1 : v < 18446744073709551616) : r.nar3.hasB v = r.hasB v := by
  unfold Rg.nar3
  rw [has_nS (ok_nU (ok_nS ok)) v0 v1, has_nU (ok_nS ok) v0 v1, has_nS ok v0 v1]
theorem has_nar {r : Rg} {v : Int} (ok : r.Ok) (v0 : 0 ≤ v) (v1 : v < 18446744073709551616) (h : r.hasB v = true) : r.narB = true ∧ r.nar.hasB v = true := by
  rw [← has_nar3 ok v0 v1] at h
  have m : r.narB = true := has_may h
  refine ⟨m, ?_⟩
  unfold Rg.nar
  rw [if_pos m]; exact h
theorem nar_no_has {r : Rg} {v : Int} (ok : r.Ok) (v0 : 0 ≤ v) (v1 : v < 18446744073709551616) (h : r.narB = false) : r.hasB v = false := by
  cases e : r.hasB v
  · rfl
  · rw [(has_nar ok v0 v1 e).1] at h; cases h
theorem nar_has {r : Rg} {v : Int} (ok : r.Ok) (v0 : 0 ≤ v) (v1 : v < 18446744073709551616) (h : r.narB = true) : r.nar.hasB v = r.hasB v := by
  unfold Rg.nar
  rw [if_pos h, has_nar3 ok v0 v1]
theorem all_has {v : Int} (v0 : 0 ≤ v) (v1 : v < 18446744073709551616) : allR.hasB v = true := by
  rw [has_iff]
  have := sg_bd v
  simp only [allR, allU, allS]
  omega
/-- Narrowing takes nothing out, whether it is told All or not. -/
theorem nar_keeps {r : Rg} {v : Int} (ok : r.Ok) (v0 : 0 ≤ v) (v1 : v < 18446744073709551616) (h : r.hasB v = true) : r.nar.hasB v = true := (has_nar ok v0 v1 h).2
theorem nar_may {r : Rg} (h : r.narB = true) : r.nar.mayB = true := by
  unfold Rg.nar; rw [if_pos h]; exact h
theorem in_nS (r : Rg) : r.nS.u = r.u ∧ r.s.lo ≤ r.nS.s.lo ∧ r.nS.s.hi ≤ r.s.hi := by
  refine ⟨rfl, ?_, ?_⟩ <;> simp only [Rg.nS, Pr.meet] <;> omega
theorem in_nU (r : Rg) : r.nU.s = r.s ∧ r.u.lo ≤ r.nU.u.lo ∧ r.nU.u.hi ≤ r.u.hi := by
  refine ⟨rfl, ?_, ?_⟩ <;> simp only [Rg.nU, Pr.meet] <;> omega
theorem in_nar3 (r : Rg) : r.u.lo ≤ r.nar3.u.lo ∧ r.nar3.u.hi ≤ r.u.hi ∧ r.s.lo ≤ r.nar3.s.lo ∧ r.nar3.s.hi ≤ r.s.hi := by
  unfold Rg.nar3
  obtain ⟨a1, a2, a3⟩ := in_nS r
  obtain ⟨b1, b2, b3⟩ := in_nU r.nS
  obtain ⟨c1, c2, c3⟩ := in_nS r.nS.nU
  rw [c1]; rw [a1] at b2 b3; rw [b1] at c2 c3
  omega
end Go.Proofs.Ytnmgehjccafegaa.Bnd
