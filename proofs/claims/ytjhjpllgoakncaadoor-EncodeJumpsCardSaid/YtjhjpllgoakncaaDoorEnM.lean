/-
  Layer 13, plain: target instructions, which may be.
-/
import Derived.Test.YtjhjpllgoakncaaDoorMrP
namespace Go.Proofs.YtjhjpllgoakncaaDoor.Mrm
open Go Go.RowKit
set_option maxRecDepth 100000
set_option linter.unusedVariables false
set_option linter.unusedSimpArgs false

structure Xi where
  op : Int
  w : Int
  dst : Int
  src : Int
  base : Int
  disp : Int
  imm : Int
  cc : Int
deriving DecidableEq
abbrev xC (x : Xi) : Array Value := #[.int .i8 x.op, .int .i8 x.w, .int .i8 x.dst, .int .i8 x.src, .int .i8 x.base, .int .i64 x.disp, .int .i64 x.imm, .int .i8 x.cc]
abbrev xL (x : Xi) : List Value := [.int .i8 x.op, .int .i8 x.w, .int .i8 x.dst, .int .i8 x.src, .int .i8 x.base, .int .i64 x.disp, .int .i64 x.imm, .int .i8 x.cc]
def zX : Xi := ⟨0, 0, 0, 0, 0, 0, 0, 0⟩
def eqX (a b : Xi) : Bool := a.op == b.op && a.w == b.w && a.dst == b.dst && a.src == b.src && a.base == b.base && a.disp == b.disp && a.imm == b.imm && a.cc == b.cc
theorem eqX_iff {a b : Xi} : eqX a b = true ↔ a = b := by
  unfold eqX
  cases a; cases b
  simp [and_assoc]
def clsT : List Int := [1, 2, 1, 1, 1, 1, 1, 1, 1, 2, 2, 2, 2, 2, 2, 2, 1, 3, 3, 3, 4, 4, 4, 4, 4, 5, 6, 7, 8, 9, 10, 10]
def clsI (op : Int) : Int := if 0 ≤ op ∧ op < 32 then clsT.getD op.toNat 0 else 0
def codT : List Int := [137, 0, 1, 9, 33, 41, 49, 57, 133, 0, 1, 4, 5, 6, 7, 0, 0, 4, 5, 7, 4, 5, 7, 3, 6, 0, 0, 0, 0, 0, 0, 0]
def codI (op : Int) : Int := if 0 ≤ op ∧ op < 32 then codT.getD op.toNat 0 else 0
theorem clsI_fin : ∀ k : Fin 32, 1 ≤ clsI (k.1 : Int) ∧ clsI (k.1 : Int) ≤ 10 := by decide +kernel
theorem clsI_cases (op : Int) : clsI op = 0 ∨ clsI op = 1 ∨ clsI op = 2 ∨ clsI op = 3 ∨ clsI op = 4 ∨ clsI op = 5 ∨ clsI op = 6 ∨ clsI op = 7 ∨ clsI op = 8 ∨ clsI op = 9 ∨ clsI op = 10 := by
  by_cases h : 0 ≤ op ∧ op < 32
  · have := clsI_fin ⟨op.toNat, by omega⟩
    simp only [Int.toNat_of_nonneg h.1] at this
    omega
  · left; unfold clsI; rw [if_neg h]
/-- What an operation of class k names, alone. -/
def fldX (k : Int) (x : Xi) : Xi := ⟨x.op, if k < 10 then x.w else 0, if k ≤ 6 then x.dst else 0, if k = 1 ∨ k = 5 ∨ k = 7 then x.src else 0, if k = 6 ∨ k = 7 then x.base else 0, if k = 6 ∨ k = 7 then x.disp else 0, if k = 2 ∨ k = 3 ∨ k = 8 ∨ k = 9 then x.imm else 0, if k = 5 ∨ k = 9 then x.cc else 0⟩
def longB (w : Int) : Bool := w == 32 || w == 64
def fourB (n : Int) : Bool := decide (-2147483648 ≤ n) && decide (n < 2147483648)
def oneB (n : Int) : Bool := decide (-128 ≤ n) && decide (n < 128)
def ccB (c : Int) : Bool := (decide (2 ≤ c) && decide (c ≤ 7)) || (decide (12 ≤ c) && decide (c ≤ 15))
def widB (w : Int) : Bool := w == 8 || w == 16 || w == 32 || w == 64
def jmpB (x : Xi) : Bool := x.w == 32 || (x.w == 8 && oneB x.imm)
def clsB (k : Int) (x : Xi) : Bool :=
  if k = 1 ∨ k = 2 ∨ k = 4 then longB x.w else
  if k = 3 then longB x.w && (decide (0 ≤ x.imm) && decide (x.imm < x.w)) else
  if k = 5 then longB x.w && ccB x.cc else
  if k = 6 ∨ k = 7 then widB x.w else
  if k = 8 then jmpB x else
  if k = 9 then jmpB x && ccB x.cc else true
def mayX (x : Xi) : Bool := clsI x.op != 0 && (eqX x (fldX (clsI x.op) x) && (regB x.dst && (regB x.src && (regB x.base && (fourB x.disp && (fourB x.imm && clsB (clsI x.op) x))))))
end Go.Proofs.YtjhjpllgoakncaaDoor.Mrm
