/-
  Rows of words that came in, opened.
-/
import Derived.Test.YtagemgleefdkpaaMBh16
import Derived.ProofKit
import Derived.OpenShut
import Derived.Deep.Slices
import Derived.Deep.Fields
import Derived.ChangeSame
namespace Go.Proofs.Ytagemgleefdkpaa.Trc
open Go.RowKit Go.ChangeShapes Go.WideShapes Go.Deep
set_option linter.unusedVariables false
set_option maxRecDepth 100000

section
variable {H : Type} {enc : TypeId × Value → H} {w : World} {base : Nat} {held : Bool}
theorem u64_bd {z : Int} (h : (Lit.int .u64 z).wf = true) : 0 ≤ z ∧ z < 18446744073709551616 := by
  have : 0 ≤ z ∧ z ≤ 18446744073709551615 := by simpa [Lit.wf, IntKind.min, IntKind.max, IntKind.bits, IntKind.signed] using h
  omega
theorem words_arg {r : Reach} {b0 : Nat} {v : Value} {d : DataW H} {p : List MemPlace} (hv : Value.okWide Try.prog w r b0 26 v) (h : DataW.Trod enc Try.prog w base (fun _ => true) held 26 v d p) :
    ∃ (a : Option Addr) (len cap : Nat) (zs : List Int), v = .slice a len cap ∧ (∀ z ∈ zs, 0 ≤ z ∧ z < 18446744073709551616) ∧ WordsAt w a len cap zs := by
  obtain ⟨a, len, cap, rfl⟩ := okWide_slice Try.underlying26 hv
  obtain ⟨fuel, hf⟩ := h
  rcases open_ints Try.underlying26 Try.underlying30 (by kernel_rfl) hf with ⟨hcs, _⟩ | ⟨x, l, c, zs, hcs, _, hl, hm, hz, _, hcell, hwz⟩
  · simp [Value.cells] at hcs
    obtain ⟨rfl, rfl, rfl⟩ := hcs
    exact ⟨none, 0, 0, [], rfl, fun z h => (by cases h), rfl, Nat.le_refl _, by omega, fun h => absurd h (by decide), fun _ => rfl⟩
  · simp [Value.cells] at hcs
    obtain ⟨rfl, rfl, rfl⟩ := hcs
    have hz' : zs.length = cap := by simpa using hz
    refine ⟨some x, len, cap, zs.take len, rfl, fun z h => u64_bd (hwz z (List.mem_of_mem_take h)), by rw [List.length_take]; omega, hl, by unfold maxLen at hm; omega, fun h0 => ?_, fun h => by cases h⟩
    have hs : x.spot = none := by
      have c0 := hcell 0 (by omega)
      obtain ⟨b, off, spot⟩ := x
      simpa [Addr.add] using World.cell?_spot c0
    obtain ⟨b, off, spot⟩ := x
    simp only at hs
    subst hs
    refine ⟨b, off, rfl, fun j z hj => ?_⟩
    rw [List.getElem?_take] at hj
    split at hj
    · have hlt := (List.getElem?_eq_some_iff.1 hj).1
      have := hcell j hlt
      rw [Addr.add_mid] at this
      rw [this, List.getD_eq_getElem?_getD, hj]; rfl
    · cases hj
end
end Go.Proofs.Ytagemgleefdkpaa.Trc
