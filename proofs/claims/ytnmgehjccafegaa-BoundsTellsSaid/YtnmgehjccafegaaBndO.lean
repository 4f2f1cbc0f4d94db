/-
  Ranges that came in, opened.
-/
import Derived.Test.YtnmgehjccafegaaRows
import Derived.Test.YtnmgehjccafegaaBndM
import Derived.ProofKit
import Derived.Deep.Slices
import Derived.Deep.Fields
import Derived.ChangeSame
namespace Go.Proofs.Ytnmgehjccafegaa.Bnd
open Go.RowKit Go.ChangeShapes Go.WideShapes Go.Deep
set_option linter.unusedVariables false
set_option maxRecDepth 100000

theorem wf_u64 {a : Int} (h : (Lit.int .u64 a).wf = true) : 0 ≤ a ∧ a < 18446744073709551616 := by
  have : 0 ≤ a ∧ a ≤ 18446744073709551615 := by simpa [Lit.wf, IntKind.min, IntKind.max, IntKind.bits, IntKind.signed] using h
  omega
theorem wf_i64 {a : Int} (h : (Lit.int .i64 a).wf = true) : -9223372036854775808 ≤ a ∧ a < 9223372036854775808 := by
  have : -9223372036854775808 ≤ a ∧ a ≤ 9223372036854775807 := by simpa [Lit.wf, IntKind.min, IntKind.max, IntKind.bits, IntKind.signed] using h
  omega

section
variable {H : Type} {enc : TypeId × Value → H} {w : World} {base : Nat} {held : Bool}
theorem range_cells {n : Nat} {cs : List Value} {x : DataW H × List MemPlace} {spare : Nat → Bool} (h : DataW.trod enc Try.prog w base spare held n 60 cs = some x) : ∃ y : Rg, cs = [.int .u64 y.u.lo, .int .u64 y.u.hi, .int .i64 y.s.lo, .int .i64 y.s.hi] ∧ y.Ok := by
  obtain ⟨xs, n', _, _, hlen, hxl, hf⟩ := DataW.trod_struct Try.underlying60 h
  have hl : cs.length = 4 := hlen.trans (by kernel_rfl)
  match cs, hl with
  | [c0, c1, c2, c3], _ =>
    have ku : Try.prog.cellsOf 30 = 1 := by kernel_rfl
    have ki : Try.prog.cellsOf 2 = 1 := by kernel_rfl
    have hx : xs.length = 4 := hxl
    have f0 := hf 0 _ rfl
    have f1 := hf 1 _ rfl
    have f2 := hf 2 _ rfl
    have f3 := hf 3 _ rfl
    change DataW.trod enc Try.prog w base spare held n' 30 (([c0, c1, c2, c3].drop 0).take (Try.prog.cellsOf 30)) = _ at f0
    change DataW.trod enc Try.prog w base spare held n' 30 (([c0, c1, c2, c3].drop 1).take (Try.prog.cellsOf 30)) = _ at f1
    change DataW.trod enc Try.prog w base spare held n' 2 (([c0, c1, c2, c3].drop 2).take (Try.prog.cellsOf 2)) = _ at f2
    change DataW.trod enc Try.prog w base spare held n' 2 (([c0, c1, c2, c3].drop 3).take (Try.prog.cellsOf 2)) = _ at f3
    rw [ku, List.getElem?_eq_getElem (by omega)] at f0
    rw [ku, List.getElem?_eq_getElem (by omega)] at f1
    rw [ki, List.getElem?_eq_getElem (by omega)] at f2
    rw [ki, List.getElem?_eq_getElem (by omega)] at f3
    obtain ⟨v0, e0, _, w0⟩ := DataW.trod_int Try.underlying30 f0
    obtain ⟨v1, e1, _, w1⟩ := DataW.trod_int Try.underlying30 f1
    obtain ⟨v2, e2, _, w2⟩ := DataW.trod_int Try.underlying2 f2
    obtain ⟨v3, e3, _, w3⟩ := DataW.trod_int Try.underlying2 f3
    simp at e0 e1 e2 e3
    subst e0 e1 e2 e3
    exact ⟨⟨⟨v0, v1⟩, ⟨v2, v3⟩⟩, rfl, ⟨wf_u64 w0, wf_u64 w1⟩, ⟨wf_i64 w2, wf_i64 w3⟩⟩
theorem range_open {r : Reach} {b0 : Nat} {v : Value} {d : DataW H} {p : List MemPlace} {spare : Nat → Bool} (hv : Value.okWide Try.prog w r b0 60 v) (h : DataW.Trod enc Try.prog w base spare held 60 v d p) : ∃ y : Rg, v = y.val ∧ y.Ok := by
  obtain ⟨cs, rfl, hsz⟩ := okWide_struct Try.underlying60 hv
  obtain ⟨fuel, hf⟩ := h
  obtain ⟨y, hy, ok⟩ := range_cells hf
  refine ⟨y, ?_, ok⟩
  have : cs = #[.int .u64 y.u.lo, .int .u64 y.u.hi, .int .i64 y.s.lo, .int .i64 y.s.hi] := by
    apply Array.ext'
    simpa [Value.cells] using hy
  rw [this]; rfl
end
end Go.Proofs.Ytnmgehjccafegaa.Bnd
