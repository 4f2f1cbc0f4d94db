/-
  Flags that came in, opened.
-/
import Derived.Test.YtllnengcmfgmhaaRows
import Derived.Test.YtllnengcmfgmhaaFlM
import Derived.ProofKit
import Derived.Deep.Slices
import Derived.Deep.Fields
import Derived.ChangeSame
namespace Go.Proofs.Ytllnengcmfgmhaa.Flg
open Go Go.RowKit Go.ChangeShapes Go.WideShapes Go.Deep
set_option linter.unusedVariables false
set_option maxRecDepth 100000

section
variable {H : Type} {enc : TypeId × Value → H} {w : World} {base : Nat} {held : Bool}
theorem flags_cells {n : Nat} {cs : List Value} {x : DataW H × List MemPlace} {spare : Nat → Bool} (h : DataW.trod enc Try.prog w base spare held n 25 cs = some x) : ∃ y : Fl, cs = [.bool y.k, .bool y.c, .bool y.z, .bool y.s, .bool y.o] := by
  obtain ⟨xs, n', _, _, hlen, hxl, hf⟩ := DataW.trod_struct Try.underlying25 h
  have hl : cs.length = 5 := hlen.trans (by kernel_rfl)
  match cs, hl with
  | [c0, c1, c2, c3, c4], _ =>
    have ku : Try.prog.cellsOf 4 = 1 := by kernel_rfl
    have hx : xs.length = 5 := hxl
    have f0 := hf 0 _ rfl
    have f1 := hf 1 _ rfl
    have f2 := hf 2 _ rfl
    have f3 := hf 3 _ rfl
    have f4 := hf 4 _ rfl
    change DataW.trod enc Try.prog w base spare held n' 4 (([c0, c1, c2, c3, c4].drop 0).take (Try.prog.cellsOf 4)) = _ at f0
    change DataW.trod enc Try.prog w base spare held n' 4 (([c0, c1, c2, c3, c4].drop 1).take (Try.prog.cellsOf 4)) = _ at f1
    change DataW.trod enc Try.prog w base spare held n' 4 (([c0, c1, c2, c3, c4].drop 2).take (Try.prog.cellsOf 4)) = _ at f2
    change DataW.trod enc Try.prog w base spare held n' 4 (([c0, c1, c2, c3, c4].drop 3).take (Try.prog.cellsOf 4)) = _ at f3
    change DataW.trod enc Try.prog w base spare held n' 4 (([c0, c1, c2, c3, c4].drop 4).take (Try.prog.cellsOf 4)) = _ at f4
    rw [ku, List.getElem?_eq_getElem (by omega)] at f0 f1 f2 f3 f4
    obtain ⟨v0, e0, _⟩ := DataW.trod_bool Try.underlying4 f0
    obtain ⟨v1, e1, _⟩ := DataW.trod_bool Try.underlying4 f1
    obtain ⟨v2, e2, _⟩ := DataW.trod_bool Try.underlying4 f2
    obtain ⟨v3, e3, _⟩ := DataW.trod_bool Try.underlying4 f3
    obtain ⟨v4, e4, _⟩ := DataW.trod_bool Try.underlying4 f4
    simp at e0 e1 e2 e3 e4
    subst e0 e1 e2 e3 e4
    exact ⟨⟨v0, v1, v2, v3, v4⟩, rfl⟩
theorem flags_arg {r : Reach} {b0 : Nat} {v : Value} {d : DataW H} {p : List MemPlace} {spare : Nat → Bool} (hv : Value.okWide Try.prog w r b0 25 v) (h : DataW.Trod enc Try.prog w base spare held 25 v d p) : ∃ y : Fl, v = .agg (fC y) ∧ True := by
  obtain ⟨cs, rfl, hsz⟩ := okWide_struct Try.underlying25 hv
  obtain ⟨fuel, hf⟩ := h
  obtain ⟨y, hy⟩ := flags_cells hf
  refine ⟨y, ?_, trivial⟩
  have : cs = fC y := by
    apply Array.ext'
    simpa [Value.cells] using hy
  rw [this]
end
end Go.Proofs.Ytllnengcmfgmhaa.Flg
