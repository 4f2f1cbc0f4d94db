/-
  A slice of acts that came in, opened: it is nil, or each act lies in four cells.
-/
import Derived.Test.YtpbnmbeedjhloaaMemK
import Derived.ProofKit
import Derived.Deep.Slices
import Derived.Deep.Fields
import Derived.ChangeSame
namespace Go.Proofs.Ytpbnmbeedjhloaa
open Go.RowKit Go.ChangeShapes Go.WideShapes Go.Deep
set_option linter.unusedVariables false
set_option maxRecDepth 100000

section
variable {H : Type} {enc : TypeId × Value → H} {w : World} {base : Nat} {held : Bool}
theorem act_cells {n : Nat} {cs : List Value} {x : DataW H × List MemPlace} {spare : Nat → Bool} (h : DataW.trod enc Try.prog w base spare held n 35 cs = some x) :
    ∃ d t k v : Int, cs = [.int .i64 d, .int .u64 t, .int .i64 k, .int .u64 v] ∧ (Lit.int .i64 d).wf = true ∧ (Lit.int .u64 t).wf = true ∧ (Lit.int .i64 k).wf = true ∧ (Lit.int .u64 v).wf = true := by
  obtain ⟨xs, n', _, _, hlen, hxl, hf⟩ := DataW.trod_struct Try.underlying35 h
  have hl : cs.length = 4 := hlen.trans (by kernel_rfl)
  match cs, hl with
  | [c0, c1, c2, c3], _ =>
    have k3 : Try.prog.cellsOf 3 = 1 := by kernel_rfl
    have k33 : Try.prog.cellsOf 33 = 1 := by kernel_rfl
    have hx4 : xs.length = 4 := hxl
    have f0 := hf 0 _ rfl
    have f1 := hf 1 _ rfl
    have f2 := hf 2 _ rfl
    have f3 := hf 3 _ rfl
    change DataW.trod enc Try.prog w base spare held n' 3 (([c0, c1, c2, c3].drop 0).take (Try.prog.cellsOf 3)) = _ at f0
    change DataW.trod enc Try.prog w base spare held n' 33 (([c0, c1, c2, c3].drop 1).take (Try.prog.cellsOf 33)) = _ at f1
    change DataW.trod enc Try.prog w base spare held n' 3 (([c0, c1, c2, c3].drop 2).take (Try.prog.cellsOf 3)) = _ at f2
    change DataW.trod enc Try.prog w base spare held n' 33 (([c0, c1, c2, c3].drop 3).take (Try.prog.cellsOf 33)) = _ at f3
    rw [k3] at f0 f2
    rw [k33] at f1 f3
    rw [List.getElem?_eq_getElem (by omega)] at f0
    rw [List.getElem?_eq_getElem (by omega)] at f1
    rw [List.getElem?_eq_getElem (by omega)] at f2
    rw [List.getElem?_eq_getElem (by omega)] at f3
    obtain ⟨d, e0, _, w0⟩ := DataW.trod_int Try.underlying3 f0
    obtain ⟨t, e1, _, w1⟩ := DataW.trod_int Try.underlying33 f1
    obtain ⟨k, e2, _, w2⟩ := DataW.trod_int Try.underlying3 f2
    obtain ⟨v, e3, _, w3⟩ := DataW.trod_int Try.underlying33 f3
    simp at e0 e1 e2 e3
    subst e0 e1 e2 e3
    exact ⟨d, t, k, v, rfl, w0, w1, w2, w3⟩
theorem acts_open {fuel : Nat} {cs : List Value} {x : DataW H × List MemPlace} (h : DataW.trod enc Try.prog w base (fun _ => true) held fuel 23 cs = some x) :
    ∃ (a : Option Addr) (len cap : Nat) (d t n v : Nat → Int), cs = [.slice a len cap] ∧ Acts w a len cap d t n v := by
  rcases open_slice Try.underlying23 h with ⟨rfl, _⟩ | ⟨a, len, cap, m, n, D, Pl, rfl, _, hl, hm, hmm, _, hi⟩
  · exact ⟨none, 0, 0, fun _ => 0, fun _ => 0, fun _ => 0, fun _ => 0, rfl, Nat.le_refl _, by omega, fun h => absurd h (by omega), fun i h => absurd h (by omega)⟩
  · have hm' : len ≤ m := by rw [hmm]; split <;> omega
    have k4 : Try.prog.cellsOf 35 = 4 := by kernel_rfl
    have spotless : 0 < len → a.spot = none := fun h0 => by
      obtain ⟨cs', hc, ht'⟩ := hi 0 (by omega)
      rw [k4] at hc
      obtain ⟨_, hcl, hat⟩ := World.cells?_some hc
      obtain ⟨d, t, k, v, rfl, w0, w1, w2, w3⟩ := act_cells ht'
      obtain ⟨b, off, spot⟩ := a
      have c0 := hat 0 (by omega)
      simpa [Addr.add] using World.cell?_spot c0
    have key : ∀ i, ∃ q : Int × Int × Int × Int, i < len → w.rangeAt a.block (a.off + i * 4) [.int .i64 q.1, .int .u64 q.2.1, .int .i64 q.2.2.1, .int .u64 q.2.2.2] ∧ a.spot = none ∧
        (-9223372036854775808 ≤ q.1 ∧ q.1 ≤ 9223372036854775807) ∧ (0 ≤ q.2.1 ∧ q.2.1 < 18446744073709551616) ∧ (-9223372036854775808 ≤ q.2.2.1 ∧ q.2.2.1 ≤ 9223372036854775807) ∧ (0 ≤ q.2.2.2 ∧ q.2.2.2 < 18446744073709551616) := by
      intro i
      by_cases hlt : i < len
      · obtain ⟨cs', hc, ht'⟩ := hi i (by omega)
        rw [k4] at hc
        obtain ⟨_, hcl, hat⟩ := World.cells?_some hc
        obtain ⟨d, t, k, v, rfl, w0, w1, w2, w3⟩ := act_cells ht'
        refine ⟨(d, t, k, v), fun _ => ?_⟩
        have hs := spotless (by omega)
        obtain ⟨b, off, spot⟩ := a
        simp only at hs
        subst hs
        refine ⟨fun j u hu => ?_, rfl, bd_i64 w0, bd_u64 w1, bd_i64 w2, bd_u64 w3⟩
        have hj : j < 4 := (List.getElem?_eq_some_iff.1 hu).1
        have := hat j hj
        rw [Addr.add_mid, Addr.add_mid] at this
        exact this.trans hu
      · exact ⟨(0, 0, 0, 0), fun h => absurd h hlt⟩
    refine ⟨some a, len, cap, fun i => (key i).choose.1, fun i => (key i).choose.2.1, fun i => (key i).choose.2.2.1, fun i => (key i).choose.2.2.2, rfl, hl, by unfold maxLen at hm; omega, fun h0 => ?_, fun i hlt => ?_⟩
    · obtain ⟨_, hs, _⟩ := (key 0).choose_spec h0
      refine ⟨a.block, a.off, ?_, fun i hlt => ((key i).choose_spec hlt).1⟩
      obtain ⟨b, off, spot⟩ := a
      simp at hs
      rw [hs]
    · exact ((key i).choose_spec hlt).2.2
end
end Go.Proofs.Ytpbnmbeedjhloaa
