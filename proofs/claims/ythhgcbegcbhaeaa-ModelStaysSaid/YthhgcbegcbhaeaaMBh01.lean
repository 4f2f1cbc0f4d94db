/-
  Several texts in one: InsM.
-/
import Derived.WalkKit
import Derived.Lib.Hide
set_option linter.unusedVariables false
set_option linter.unusedSimpArgs false
set_option linter.unnecessarySimpa false
namespace Go.Proofs.Ythhgcbegcbhaeaa.Ins
open Go.RowKit
set_option linter.unusedVariables false

/-- An instruction's nine fields. -/
structure In where
  kind : Int
  op : Int
  width : Int
  size : Int
  byReg : Bool
  dst : Int
  src : Int
  off : Int
  imm : Int

/-- Its cells. -/
def In.cells (x : In) : Array Value := #[.int .i8 x.kind, .int .i8 x.op, .int .i8 x.width, .int .i8 x.size, .bool x.byReg, .int .i8 x.dst, .int .i8 x.src, .int .i64 x.off, .int .i64 x.imm]

/-- Each field is a number of its type. -/
structure In.Ok (x : In) : Prop where
  kind : -128 ≤ x.kind ∧ x.kind ≤ 127
  op : -128 ≤ x.op ∧ x.op ≤ 127
  width : -128 ≤ x.width ∧ x.width ≤ 127
  size : -128 ≤ x.size ∧ x.size ≤ 127
  dst : -128 ≤ x.dst ∧ x.dst ≤ 127
  src : -128 ≤ x.src ∧ x.src ≤ 127
  off : -9223372036854775808 ≤ x.off ∧ x.off ≤ 9223372036854775807
  imm : -9223372036854775808 ≤ x.imm ∧ x.imm ≤ 9223372036854775807

def In.nil : In := ⟨0, 0, 0, 0, false, 0, 0, 0, 0⟩

def srcI (x : In) : Int := if x.byReg = true then x.src else 0
def immI (x : In) : Int := if x.byReg = true then 0 else x.imm

/-- The fields that its kind uses. -/
def usedI (x : In) : In :=
  if x.kind = 0 then (if x.op = 8 then ⟨0, 8, x.width, 0, false, x.dst, 0, 0, 0⟩ else ⟨0, x.op, x.width, 0, x.byReg, x.dst, srcI x, 0, immI x⟩)
  else if x.kind = 1 then ⟨1, 0, 0, x.size, false, x.dst, x.src, x.off, 0⟩
  else if x.kind = 2 then ⟨2, 0, 0, x.size, false, x.dst, x.src, x.off, 0⟩
  else if x.kind = 3 then ⟨3, x.op, 0, 0, x.byReg, x.dst, srcI x, x.off, immI x⟩
  else if x.kind = 4 then ⟨4, 0, 0, 0, false, 0, 0, x.off, 0⟩
  else if x.kind = 5 then ⟨5, 0, 0, 0, false, 0, 0, 0, x.imm⟩
  else ⟨x.kind, 0, 0, 0, false, 0, 0, 0, 0⟩

/-- Are two the same? -/
def eqI (x y : In) : Bool := decide (x.kind = y.kind ∧ x.op = y.op ∧ x.width = y.width ∧ x.size = y.size ∧ x.byReg = y.byReg ∧ x.dst = y.dst ∧ x.src = y.src ∧ x.off = y.off ∧ x.imm = y.imm)
theorem eqI_iff {x y : In} : eqI x y = true ↔ x = y := by
  unfold eqI
  rw [decide_eq_true_iff]
  constructor
  · rintro ⟨a, b, c, d, e, f, g, h, i⟩
    cases x; cases y
    simp only at a b c d e f g h i
    subst a b c d e f g h i; rfl
  · rintro rfl; exact ⟨rfl, rfl, rfl, rfl, rfl, rfl, rfl, rfl, rfl⟩

def sizedI (n : Int) : Bool := decide (n = 1 ∨ n = 2 ∨ n = 4 ∨ n = 8)
def regI (r : Int) : Bool := decide (0 ≤ r ∧ r < 11)
def nearI (n : Int) : Bool := decide (-1099511627776 ≤ n ∧ n ≤ 1099511627776)
/-- What its kind asks. -/
def kindI (x : In) : Bool := decide (
  (x.kind = 0 ∧ 0 ≤ x.op ∧ x.op ≤ 12 ∧ (x.width = 32 ∨ x.width = 64) ∧ x.dst ≠ 10) ∨
  (x.kind = 1 ∧ (x.size = 1 ∨ x.size = 2 ∨ x.size = 4 ∨ x.size = 8) ∧ x.dst ≠ 10) ∨
  (x.kind = 2 ∧ (x.size = 1 ∨ x.size = 2 ∨ x.size = 4 ∨ x.size = 8)) ∨
  (x.kind = 3 ∧ 0 ≤ x.op ∧ x.op ≤ 10) ∨
  (x.kind = 5 ∧ 0 ≤ x.imm ∧ x.imm < 16) ∨ x.kind = 4 ∨ x.kind = 6)
/-- What is asked of all fields. -/
def rangeI (x : In) : Bool := decide ((0 ≤ x.dst ∧ x.dst < 11) ∧ (0 ≤ x.src ∧ x.src < 11) ∧ (-32768 ≤ x.off ∧ x.off ≤ 32767) ∧ (-2147483648 ≤ x.imm ∧ x.imm ≤ 2147483647))
def fitsI (x : In) : Bool := rangeI x && kindI x
/-- May it be? -/
def mayI (x : In) : Bool := eqI x (usedI x) && fitsI x

/-- The fields of one that may be, kind by kind. -/
theorem mayI_cases {x : In} (h : mayI x = true) :
    (0 ≤ x.dst ∧ x.dst < 11) ∧ (0 ≤ x.src ∧ x.src < 11) ∧ (-32768 ≤ x.off ∧ x.off ≤ 32767) ∧ (-2147483648 ≤ x.imm ∧ x.imm ≤ 2147483647) ∧
    ((x.kind = 0 ∧ (0 ≤ x.op ∧ x.op ≤ 12) ∧ (x.width = 32 ∨ x.width = 64) ∧ x.size = 0 ∧ x.dst ≠ 10 ∧ x.off = 0 ∧ ((x.byReg = true ∧ x.op ≠ 8 ∧ x.imm = 0) ∨ (x.byReg = false ∧ x.src = 0 ∧ (x.op = 8 → x.imm = 0)))) ∨
     (x.kind = 1 ∧ x.op = 0 ∧ x.width = 0 ∧ (x.size = 1 ∨ x.size = 2 ∨ x.size = 4 ∨ x.size = 8) ∧ x.byReg = false ∧ x.dst ≠ 10 ∧ x.imm = 0) ∨
     (x.kind = 2 ∧ x.op = 0 ∧ x.width = 0 ∧ (x.size = 1 ∨ x.size = 2 ∨ x.size = 4 ∨ x.size = 8) ∧ x.byReg = false ∧ x.imm = 0) ∨
     (x.kind = 3 ∧ (0 ≤ x.op ∧ x.op ≤ 10) ∧ x.width = 0 ∧ x.size = 0 ∧ ((x.byReg = true ∧ x.imm = 0) ∨ (x.byReg = false ∧ x.src = 0))) ∨
     (x.kind = 4 ∧ x.op = 0 ∧ x.width = 0 ∧ x.size = 0 ∧ x.byReg = false ∧ x.dst = 0 ∧ x.src = 0 ∧ x.imm = 0) ∨
     (x.kind = 5 ∧ x.op = 0 ∧ x.width = 0 ∧ x.size = 0 ∧ x.byReg = false ∧ x.dst = 0 ∧ x.src = 0 ∧ x.off = 0 ∧ (0 ≤ x.imm ∧ x.imm < 16)) ∨
     (x.kind = 6 ∧ x.op = 0 ∧ x.width = 0 ∧ x.size = 0 ∧ x.byReg = false ∧ x.dst = 0 ∧ x.src = 0 ∧ x.off = 0 ∧ x.imm = 0)) := by
  unfold mayI fitsI rangeI kindI at h
  rw [Bool.and_eq_true, Bool.and_eq_true, decide_eq_true_iff, decide_eq_true_iff] at h
  obtain ⟨h1, h2, h3⟩ := h
  refine ⟨h2.1, h2.2.1, h2.2.2.1, h2.2.2.2, ?_⟩
  unfold eqI at h1
  rw [decide_eq_true_iff] at h1
  unfold usedI srcI immI at h1
  rcases h3 with ⟨k, h3⟩ | ⟨k, h3⟩ | ⟨k, h3⟩ | ⟨k, h3⟩ | ⟨k, h3⟩ | k | k
  · left
    rw [if_pos k] at h1
    by_cases h8 : x.op = 8
    · rw [if_pos h8] at h1
      obtain ⟨a, b, c, d, e, f, g, i, j⟩ := h1
      exact ⟨k, ⟨by omega, by omega⟩, h3.2.2.1, d, h3.2.2.2, i, .inr ⟨e, g, fun _ => j⟩⟩
    · rw [if_neg h8] at h1
      obtain ⟨a, b, c, d, e, f, g, i, j⟩ := h1
      refine ⟨k, ⟨by omega, by omega⟩, h3.2.2.1, d, h3.2.2.2, i, ?_⟩
      cases hb : x.byReg
      · rw [hb] at g; exact .inr ⟨rfl, g, fun h => absurd h h8⟩
      · rw [hb] at j; exact .inl ⟨rfl, h8, j⟩
  · right; left
    rw [if_neg (by omega), if_pos k] at h1
    obtain ⟨a, b, c, d, e, f, g, i, j⟩ := h1
    exact ⟨k, b, c, h3.1, e, h3.2, j⟩
  · right; right; left
    rw [if_neg (by omega), if_neg (by omega), if_pos k] at h1
    obtain ⟨a, b, c, d, e, f, g, i, j⟩ := h1
    exact ⟨k, b, c, h3, e, j⟩
  · right; right; right; left
    rw [if_neg (by omega), if_neg (by omega), if_neg (by omega), if_pos k] at h1
    obtain ⟨a, b, c, d, e, f, g, i, j⟩ := h1
    refine ⟨k, h3, c, d, ?_⟩
    cases hb : x.byReg
    · rw [hb] at g; exact .inr ⟨rfl, g⟩
    · rw [hb] at j; exact .inl ⟨rfl, j⟩
  · right; right; right; right; right; left
    rw [if_neg (by omega), if_neg (by omega), if_neg (by omega), if_neg (by omega), if_neg (by omega), if_pos k] at h1
    obtain ⟨a, b, c, d, e, f, g, i, j⟩ := h1
    exact ⟨k, b, c, d, e, f, g, i, h3⟩
  · right; right; right; right; left
    rw [if_neg (by omega), if_neg (by omega), if_neg (by omega), if_neg (by omega), if_pos k] at h1
    obtain ⟨a, b, c, d, e, f, g, i, j⟩ := h1
    exact ⟨k, b, c, d, e, f, g, j⟩
  · right; right; right; right; right; right
    rw [if_neg (by omega), if_neg (by omega), if_neg (by omega), if_neg (by omega), if_neg (by omega), if_neg (by omega)] at h1
    obtain ⟨a, b, c, d, e, f, g, i, j⟩ := h1
    exact ⟨k, b, c, d, e, f, g, i, j⟩
/-- And back. -/
theorem mayI_of {x : In} (h : (0 ≤ x.dst ∧ x.dst < 11) ∧ (0 ≤ x.src ∧ x.src < 11) ∧ (-32768 ≤ x.off ∧ x.off ≤ 32767) ∧ (-2147483648 ≤ x.imm ∧ x.imm ≤ 2147483647) ∧
    ((x.kind = 0 ∧ (0 ≤ x.op ∧ x.op ≤ 12) ∧ (x.width = 32 ∨ x.width = 64) ∧ x.size = 0 ∧ x.dst ≠ 10 ∧ x.off = 0 ∧ ((x.byReg = true ∧ x.op ≠ 8 ∧ x.imm = 0) ∨ (x.byReg = false ∧ x.src = 0 ∧ (x.op = 8 → x.imm = 0)))) ∨
     (x.kind = 1 ∧ x.op = 0 ∧ x.width = 0 ∧ (x.size = 1 ∨ x.size = 2 ∨ x.size = 4 ∨ x.size = 8) ∧ x.byReg = false ∧ x.dst ≠ 10 ∧ x.imm = 0) ∨
     (x.kind = 2 ∧ x.op = 0 ∧ x.width = 0 ∧ (x.size = 1 ∨ x.size = 2 ∨ x.size = 4 ∨ x.size = 8) ∧ x.byReg = false ∧ x.imm = 0) ∨
     (x.kind = 3 ∧ (0 ≤ x.op ∧ x.op ≤ 10) ∧ x.width = 0 ∧ x.size = 0 ∧ ((x.byReg = true ∧ x.imm = 0) ∨ (x.byReg = false ∧ x.src = 0))) ∨
     (x.kind = 4 ∧ x.op = 0 ∧ x.width = 0 ∧ x.size = 0 ∧ x.byReg = false ∧ x.dst = 0 ∧ x.src = 0 ∧ x.imm = 0) ∨
     (x.kind = 5 ∧ x.op = 0 ∧ x.width = 0 ∧ x.size = 0 ∧ x.byReg = false ∧ x.dst = 0 ∧ x.src = 0 ∧ x.off = 0 ∧ (0 ≤ x.imm ∧ x.imm < 16)) ∨
     (x.kind = 6 ∧ x.op = 0 ∧ x.width = 0 ∧ x.size = 0 ∧ x.byReg = false ∧ x.dst = 0 ∧ x.src = 0 ∧ x.off = 0 ∧ x.imm = 0))) : mayI x = true := by
  obtain ⟨kind, op, width, size, byReg, dst, src, off, imm⟩ := x
  simp only at h
  obtain ⟨h1, h2, h3, h4, h⟩ := h
  unfold mayI fitsI rangeI kindI eqI usedI srcI immI
  rcases h with ⟨rfl, a, b, rfl, d, rfl, f⟩ | ⟨rfl, rfl, rfl, a, rfl, b, rfl⟩ | ⟨rfl, rfl, rfl, a, rfl, rfl⟩ | ⟨rfl, a, rfl, rfl, f⟩ | ⟨rfl, rfl, rfl, rfl, rfl, rfl, rfl, rfl⟩ | ⟨rfl, rfl, rfl, rfl, rfl, rfl, rfl, rfl, a⟩ | ⟨rfl, rfl, rfl, rfl, rfl, rfl, rfl, rfl, rfl⟩
  · rcases f with ⟨rfl, f, rfl⟩ | ⟨rfl, rfl, f⟩
    · simp [f, a, b, d, h1, h2]
    · by_cases h8 : op = 8
      · subst h8
        obtain rfl := f rfl
        simp [b, d, h1]
      · simp [h8, a, b, d, h1, h4]
  · simp [a, b, h1, h2, h3]
  · simp [a, h1, h2, h3]
  · rcases f with ⟨rfl, rfl⟩ | ⟨rfl, rfl⟩
    · simp [a, h1, h2, h3]
    · simp [a, h1, h3, h4]
  · simp [h3]
  · simp [a, h4]
  · simp
theorem Ok_used {x : In} (h : x.Ok) : (usedI x).Ok := by
  obtain ⟨a, b, c, d, e, f, g, i⟩ := h
  unfold usedI srcI immI
  split
  · split
    · exact ⟨by simp, by simp, c, by simp, e, by simp, by simp, by simp⟩
    · exact ⟨by simp, b, c, by simp, e, by simp only; split <;> omega, by simp, by simp only; split <;> omega⟩
  split
  · exact ⟨by simp, by simp, by simp, d, e, f, g, by simp⟩
  split
  · exact ⟨by simp, by simp, by simp, d, e, f, g, by simp⟩
  split
  · exact ⟨by simp, b, by simp, by simp, e, by simp only; split <;> omega, g, by simp only; split <;> omega⟩
  split
  · exact ⟨by simp, by simp, by simp, by simp, by simp, by simp, g, by simp⟩
  split
  · exact ⟨by simp, by simp, by simp, by simp, by simp, by simp, by simp, i⟩
  · exact ⟨a, by simp, by simp, by simp, by simp, by simp, by simp, by simp⟩

/-! The encoding as one number. -/
def lgI (n : Int) : Int := if n = 2 then 1 else if n = 4 then 2 else if n = 8 then 3 else 0
def bI (b : Bool) : Int := if b = true then 16 else 0
def codeI (x : In) : Int :=
  if x.kind = 1 then 64 + lgI x.size else if x.kind = 2 then 72 + lgI x.size else if x.kind = 3 then 80 + x.op + bI x.byReg else if x.kind = 4 then 111 else if x.kind = 5 then 112 else if x.kind = 6 then 113
  else x.op + bI x.byReg + (if x.width = 32 then 32 else 0)
def packI (x : In) : Int := codeI x + x.dst * 256 + x.src * 4096 + x.off % 65536 * 65536 + x.imm % 4294967296 * 4294967296

def sgn16 (n : Int) : Int := if n < 32768 then n else n - 65536
def sgn32 (n : Int) : Int := if n < 2147483648 then n else n - 4294967296
def plainK (c : Int) : Int := if c < 64 then 0 else if c < 68 then 1 else if 72 ≤ c ∧ c < 76 then 2 else if 80 ≤ c ∧ c < 111 then 3 else if c = 111 then 4 else if c = 112 then 5 else if c = 113 then 6 else -1
def plainO (c : Int) : Int := if c < 64 then c % 16 else if 80 ≤ c ∧ c < 111 then (c - 80) % 16 else 0
def plainW (c : Int) : Int := if c < 32 then 64 else if c < 64 then 32 else 0
def plainS (c : Int) : Int := if c = 64 ∨ c = 72 then 1 else if c = 65 ∨ c = 73 then 2 else if c = 66 ∨ c = 74 then 4 else if c = 67 ∨ c = 75 then 8 else 0
def plainB (c : Int) : Bool := decide ((c < 64 ∧ c / 16 % 2 = 1) ∨ (96 ≤ c ∧ c < 111))
def unpackI (v : Int) : In := ⟨plainK (v % 256), plainO (v % 256), plainW (v % 256), plainS (v % 256), plainB (v % 256), v / 256 % 16, v / 4096 % 16, sgn16 (v / 65536 % 65536), sgn32 (v / 4294967296 % 4294967296)⟩

theorem codeI_bd {x : In} (h : mayI x = true) : 0 ≤ codeI x ∧ codeI x < 114 := by
  obtain ⟨_, _, _, _, h⟩ := mayI_cases h
  unfold codeI bI lgI
  rcases h with ⟨a, h⟩ | ⟨a, h⟩ | ⟨a, h⟩ | ⟨a, h⟩ | ⟨a, h⟩ | ⟨a, h⟩ | ⟨a, h⟩ <;> rw [a] <;> simp <;> (repeat' split) <;> omega
theorem packI_bd {x : In} (h : mayI x = true) : 0 ≤ packI x ∧ packI x < 18446744073709551616 := by
  have := codeI_bd h
  obtain ⟨_, _, _, _, _⟩ := mayI_cases h
  unfold packI
  omega
theorem pack_parts {x : In} (h : mayI x = true) : packI x % 256 = codeI x ∧ packI x / 256 % 16 = x.dst ∧ packI x / 4096 % 16 = x.src ∧ packI x / 65536 % 65536 = x.off % 65536 ∧ packI x / 4294967296 % 4294967296 = x.imm % 4294967296 := by
  have := codeI_bd h
  obtain ⟨_, _, _, _, _⟩ := mayI_cases h
  unfold packI
  refine ⟨by omega, by omega, by omega, by omega, by omega⟩
theorem sgn16_of {n : Int} (h : -32768 ≤ n ∧ n ≤ 32767) : sgn16 (n % 65536) = n := by unfold sgn16; split <;> omega
theorem sgn32_of {n : Int} (h : -2147483648 ≤ n ∧ n ≤ 2147483647) : sgn32 (n % 4294967296) = n := by unfold sgn32; split <;> omega
theorem plainB_eq {c : Int} {b : Bool} (h : ((c < 64 ∧ c / 16 % 2 = 1) ∨ (96 ≤ c ∧ c < 111)) ↔ b = true) : plainB c = b := by
  unfold plainB
  rw [Bool.eq_iff_iff, decide_eq_true_iff]; exact h
theorem in_eq {x y : In} (a : x.kind = y.kind) (b : x.op = y.op) (c : x.width = y.width) (d : x.size = y.size) (e : x.byReg = y.byReg) (f : x.dst = y.dst) (g : x.src = y.src) (h : x.off = y.off) (i : x.imm = y.imm) : x = y :=
  eqI_iff.1 (by unfold eqI; rw [decide_eq_true_iff]; exact ⟨a, b, c, d, e, f, g, h, i⟩)
/-- An encoding's code, kind by kind. -/
theorem code_cases {x : In} (h : mayI x = true) :
    (x.kind = 0 ∧ 0 ≤ x.op ∧ x.op ≤ 12 ∧ x.size = 0 ∧ ((x.byReg = true ∧ x.width = 64 ∧ codeI x = x.op + 16) ∨ (x.byReg = true ∧ x.width = 32 ∧ codeI x = x.op + 48) ∨ (x.byReg = false ∧ x.width = 64 ∧ codeI x = x.op) ∨ (x.byReg = false ∧ x.width = 32 ∧ codeI x = x.op + 32))) ∨
    (x.kind = 1 ∧ x.op = 0 ∧ x.width = 0 ∧ x.byReg = false ∧ ((x.size = 1 ∧ codeI x = 64) ∨ (x.size = 2 ∧ codeI x = 65) ∨ (x.size = 4 ∧ codeI x = 66) ∨ (x.size = 8 ∧ codeI x = 67))) ∨
    (x.kind = 2 ∧ x.op = 0 ∧ x.width = 0 ∧ x.byReg = false ∧ ((x.size = 1 ∧ codeI x = 72) ∨ (x.size = 2 ∧ codeI x = 73) ∨ (x.size = 4 ∧ codeI x = 74) ∨ (x.size = 8 ∧ codeI x = 75))) ∨
    (x.kind = 3 ∧ 0 ≤ x.op ∧ x.op ≤ 10 ∧ x.width = 0 ∧ x.size = 0 ∧ ((x.byReg = true ∧ codeI x = 96 + x.op) ∨ (x.byReg = false ∧ codeI x = 80 + x.op))) ∨
    (x.kind = 4 ∧ x.op = 0 ∧ x.width = 0 ∧ x.size = 0 ∧ x.byReg = false ∧ codeI x = 111) ∨
    (x.kind = 5 ∧ x.op = 0 ∧ x.width = 0 ∧ x.size = 0 ∧ x.byReg = false ∧ codeI x = 112) ∨
    (x.kind = 6 ∧ x.op = 0 ∧ x.width = 0 ∧ x.size = 0 ∧ x.byReg = false ∧ codeI x = 113) := by
  obtain ⟨_, _, _, _, h⟩ := mayI_cases h
  rcases h with ⟨a, ⟨b, c⟩, d, e, _, _, f⟩ | ⟨a, b, c, d, e, _, _⟩ | ⟨a, b, c, d, e, _⟩ | ⟨a, ⟨b, c⟩, d, e, f⟩ | ⟨a, b, c, d, e, _⟩ | ⟨a, b, c, d, e, _⟩ | ⟨a, b, c, d, e, _⟩
  · have hc : codeI x = x.op + bI x.byReg + (if x.width = 32 then 32 else 0) := by
      unfold codeI; rw [if_neg (by omega), if_neg (by omega), if_neg (by omega), if_neg (by omega), if_neg (by omega), if_neg (by omega)]
    refine .inl ⟨a, b, c, e, ?_⟩
    rw [hc]
    rcases f with ⟨f, _⟩ | ⟨f, _⟩ <;> rcases d with d | d <;> rw [f, d] <;> simp [bI] <;> omega
  · have hc : codeI x = 64 + lgI x.size := by unfold codeI; rw [if_pos a]
    refine .inr (.inl ⟨a, b, c, e, ?_⟩)
    rw [hc]
    rcases d with d | d | d | d <;> rw [d] <;> simp [lgI]
  · have hc : codeI x = 72 + lgI x.size := by unfold codeI; rw [if_neg (by omega), if_pos a]
    refine .inr (.inr (.inl ⟨a, b, c, e, ?_⟩))
    rw [hc]
    rcases d with d | d | d | d <;> rw [d] <;> simp [lgI]
  · have hc : codeI x = 80 + x.op + bI x.byReg := by unfold codeI; rw [if_neg (by omega), if_neg (by omega), if_pos a]
    refine .inr (.inr (.inr (.inl ⟨a, b, c, d, e, ?_⟩)))
    rw [hc]
    rcases f with ⟨f, _⟩ | ⟨f, _⟩ <;> rw [f] <;> simp [bI] <;> omega
  · exact .inr (.inr (.inr (.inr (.inl ⟨a, b, c, d, e, by unfold codeI; rw [if_neg (by omega), if_neg (by omega), if_neg (by omega), if_pos a]⟩))))
  · exact .inr (.inr (.inr (.inr (.inr (.inl ⟨a, b, c, d, e, by unfold codeI; rw [if_neg (by omega), if_neg (by omega), if_neg (by omega), if_neg (by omega), if_pos a]⟩)))))
  · exact .inr (.inr (.inr (.inr (.inr (.inr ⟨a, b, c, d, e, by unfold codeI; rw [if_neg (by omega), if_neg (by omega), if_neg (by omega), if_neg (by omega), if_neg (by omega), if_pos a]⟩)))))
theorem plainK_of {x : In} (h : mayI x = true) : plainK (codeI x) = x.kind := by
  have := code_cases h
  generalize codeI x = c at *
  unfold plainK
  (repeat' split) <;> omega
theorem plainO_of {x : In} (h : mayI x = true) : plainO (codeI x) = x.op := by
  have := code_cases h
  generalize codeI x = c at *
  unfold plainO
  (repeat' split) <;> omega
theorem plainW_of {x : In} (h : mayI x = true) : plainW (codeI x) = x.width := by
  have := code_cases h
  generalize codeI x = c at *
  unfold plainW
  (repeat' split) <;> omega
theorem plainS_of {x : In} (h : mayI x = true) : plainS (codeI x) = x.size := by
  have := code_cases h
  generalize codeI x = c at *
  unfold plainS
  (repeat' split) <;> omega
theorem plainB_of {x : In} (h : mayI x = true) : plainB (codeI x) = x.byReg := by
  have := code_cases h
  generalize codeI x = c at *
  apply plainB_eq
  cases hb : x.byReg <;> simp [hb] at this ⊢ <;> omega
theorem unpack_pack {x : In} (h : mayI x = true) : unpackI (packI x) = x := by
  obtain ⟨p1, p2, p3, p4, p5⟩ := pack_parts h
  obtain ⟨h1, h2, h3, h4, _⟩ := mayI_cases h
  refine in_eq ?_ ?_ ?_ ?_ ?_ p2 p3 ?_ ?_
  · show plainK (packI x % 256) = _; rw [p1, plainK_of h]
  · show plainO (packI x % 256) = _; rw [p1, plainO_of h]
  · show plainW (packI x % 256) = _; rw [p1, plainW_of h]
  · show plainS (packI x % 256) = _; rw [p1, plainS_of h]
  · show plainB (packI x % 256) = _; rw [p1, plainB_of h]
  · show sgn16 (packI x / 65536 % 65536) = _
    rw [p4, sgn16_of h3]
  · show sgn32 (packI x / 4294967296 % 4294967296) = _
    rw [p5, sgn32_of h4]
theorem mod16_of (n : Int) (h0 : 0 ≤ n) (h1 : n < 65536) : sgn16 n % 65536 = n := by unfold sgn16; split <;> omega
theorem mod32_of (n : Int) (h0 : 0 ≤ n) (h1 : n < 4294967296) : sgn32 n % 4294967296 = n := by unfold sgn32; split <;> omega
theorem code_plain (c d s o i : Int) (c0 : 0 ≤ c) (c1 : c < 256) (hk : plainK c ≠ -1) : codeI ⟨plainK c, plainO c, plainW c, plainS c, plainB c, d, s, o, i⟩ = c := by
  have hb : plainB c = true ↔ ((c < 64 ∧ c / 16 % 2 = 1) ∨ (96 ≤ c ∧ c < 111)) := by unfold plainB; exact decide_eq_true_iff
  unfold codeI
  simp only
  unfold bI
  by_cases h64 : c < 64
  · have k0 : plainK c = 0 := if_pos h64
    have ho : plainO c = c % 16 := if_pos h64
    rw [k0, ho]
    unfold plainW
    simp
    by_cases h32 : c < 32
    · rw [if_pos h32]
      simp
      by_cases b : plainB c = true
      · rw [if_pos b]; rw [hb] at b; omega
      · rw [if_neg b]; rw [hb] at b; omega
    · rw [if_neg h32, if_pos h64]
      simp
      by_cases b : plainB c = true
      · rw [if_pos b]; rw [hb] at b; omega
      · rw [if_neg b]; rw [hb] at b; omega
  by_cases h68 : c < 68
  · have k0 : plainK c = 1 := by unfold plainK; rw [if_neg h64, if_pos h68]
    clear k0
    have : c = 64 ∨ c = 65 ∨ c = 66 ∨ c = 67 := by omega
    rcases this with rfl | rfl | rfl | rfl <;> rfl
  by_cases h76 : 72 ≤ c ∧ c < 76
  · have k0 : plainK c = 2 := by unfold plainK; rw [if_neg h64, if_neg h68, if_pos h76]
    clear k0
    have : c = 72 ∨ c = 73 ∨ c = 74 ∨ c = 75 := by omega
    rcases this with rfl | rfl | rfl | rfl <;> rfl
  by_cases h111 : 80 ≤ c ∧ c < 111
  · have k0 : plainK c = 3 := by unfold plainK; rw [if_neg h64, if_neg h68, if_neg h76, if_pos h111]
    have ho : plainO c = (c - 80) % 16 := by unfold plainO; rw [if_neg h64, if_pos h111]
    rw [k0, ho]
    simp
    by_cases b : plainB c = true
    · rw [if_pos b]; rw [hb] at b; omega
    · rw [if_neg b]; rw [hb] at b; omega
  by_cases e1 : c = 111
  · subst e1; rfl
  by_cases e2 : c = 112
  · subst e2; rfl
  by_cases e3 : c = 113
  · subst e3; rfl
  exact absurd (by unfold plainK; rw [if_neg h64, if_neg h68, if_neg h76, if_neg h111, if_neg e1, if_neg e2, if_neg e3]) hk
theorem code_unpack (v : Int) (h : mayI (unpackI v) = true) : codeI (unpackI v) = v % 256 := by
  obtain ⟨_, _, _, _, h⟩ := mayI_cases h
  have hk : plainK (v % 256) ≠ -1 := by
    show (unpackI v).kind ≠ -1
    rcases h with ⟨a, _⟩ | ⟨a, _⟩ | ⟨a, _⟩ | ⟨a, _⟩ | ⟨a, _⟩ | ⟨a, _⟩ | ⟨a, _⟩ <;> omega
  exact code_plain (v % 256) _ _ _ _ (by omega) (by omega) hk
theorem pack_unpack (v : Int) (h0 : 0 ≤ v) (h1 : v < 18446744073709551616) (h : mayI (unpackI v) = true) : packI (unpackI v) = v := by
  have hc := code_unpack v h
  unfold packI
  rw [hc]
  have e1 : (unpackI v).off % 65536 = v / 65536 % 65536 := mod16_of _ (by omega) (by omega)
  have e2 : (unpackI v).imm % 4294967296 = v / 4294967296 % 4294967296 := mod32_of _ (by omega) (by omega)
  rw [e1, e2]
  show v % 256 + v / 256 % 16 * 256 + v / 4096 % 16 * 4096 + v / 65536 % 65536 * 65536 + v / 4294967296 % 4294967296 * 4294967296 = v
  omega
theorem Ok_unpack (v : Int) (h0 : 0 ≤ v) (h1 : v < 18446744073709551616) : (unpackI v).Ok := by
  refine ⟨?_, ?_, ?_, ?_, ?_, ?_, ?_, ?_⟩
  · show -128 ≤ plainK (v % 256) ∧ plainK (v % 256) ≤ 127; unfold plainK; (repeat' split) <;> omega
  · show -128 ≤ plainO (v % 256) ∧ plainO (v % 256) ≤ 127; unfold plainO; (repeat' split) <;> omega
  · show -128 ≤ plainW (v % 256) ∧ plainW (v % 256) ≤ 127; unfold plainW; (repeat' split) <;> omega
  · show -128 ≤ plainS (v % 256) ∧ plainS (v % 256) ≤ 127; unfold plainS; (repeat' split) <;> omega
  · show -128 ≤ v / 256 % 16 ∧ v / 256 % 16 ≤ 127; omega
  · show -128 ≤ v / 4096 % 16 ∧ v / 4096 % 16 ≤ 127; omega
  · show -9223372036854775808 ≤ sgn16 (v / 65536 % 65536) ∧ sgn16 (v / 65536 % 65536) ≤ 9223372036854775807; unfold sgn16; split <;> omega
  · show -9223372036854775808 ≤ sgn32 (v / 4294967296 % 4294967296) ∧ sgn32 (v / 4294967296 % 4294967296) ≤ 9223372036854775807; unfold sgn32; split <;> omega
end Go.Proofs.Ythhgcbegcbhaeaa.Ins
