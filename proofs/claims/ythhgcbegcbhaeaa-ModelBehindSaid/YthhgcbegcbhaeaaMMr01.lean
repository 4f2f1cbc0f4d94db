/-
  Several texts in one: InsO, WordsO.
-/
import Derived.Test.YthhgcbegcbhaeaaMBh31
import Derived.ProofKit
import Derived.Deep.Slices
import Derived.Deep.Fields
import Derived.ChangeSame
import Derived.Test.YthhgcbegcbhaeaaMBh16
import Derived.OpenShut
set_option linter.unusedVariables false
set_option linter.unusedSimpArgs false
set_option linter.unnecessarySimpa false
namespace Go.Proofs.Ythhgcbegcbhaeaa.Ins
open Go.RowKit Go.ChangeShapes Go.WideShapes Go.Deep
set_option linter.unusedVariables false
set_option maxRecDepth 100000

theorem bd_i8 {a : Int} (h : (Lit.int .i8 a).wf = true) : -128 ≤ a ∧ a ≤ 127 := by simpa [Lit.wf, IntKind.min, IntKind.max, IntKind.bits, IntKind.signed] using h
theorem bd_i64 {a : Int} (h : (Lit.int .i64 a).wf = true) : -9223372036854775808 ≤ a ∧ a ≤ 9223372036854775807 := by simpa [Lit.wf, IntKind.min, IntKind.max, IntKind.bits, IntKind.signed] using h

section
variable {H : Type} {enc : TypeId × Value → H} {w : World} {base : Nat} {held : Bool}
theorem ins_cells {n : Nat} {cs : List Value} {x : DataW H × List MemPlace} {spare : Nat → Bool} (h : DataW.trod enc Try.prog w base spare held n 55 cs = some x) : ∃ y : In, cs = y.cells.toList ∧ y.Ok := by
  obtain ⟨xs, n', _, _, hlen, hxl, hf⟩ := DataW.trod_struct Try.underlying55 h
  have hl : cs.length = 9 := hlen.trans (by kernel_rfl)
  match cs, hl with
  | [c0, c1, c2, c3, c4, c5, c6, c7, c8], _ =>
    have ki : Try.prog.cellsOf 3 = 1 := by kernel_rfl
    have k8 : Try.prog.cellsOf 29 = 1 := by kernel_rfl
    have kb : Try.prog.cellsOf 4 = 1 := by kernel_rfl
    have hx9 : xs.length = 9 := hxl
    have f0 := hf 0 _ rfl
    have f1 := hf 1 _ rfl
    have f2 := hf 2 _ rfl
    have f3 := hf 3 _ rfl
    have f4 := hf 4 _ rfl
    have f5 := hf 5 _ rfl
    have f6 := hf 6 _ rfl
    have f7 := hf 7 _ rfl
    have f8 := hf 8 _ rfl
    change DataW.trod enc Try.prog w base spare held n' 29 (([c0, c1, c2, c3, c4, c5, c6, c7, c8].drop 0).take (Try.prog.cellsOf 29)) = _ at f0
    change DataW.trod enc Try.prog w base spare held n' 29 (([c0, c1, c2, c3, c4, c5, c6, c7, c8].drop 1).take (Try.prog.cellsOf 29)) = _ at f1
    change DataW.trod enc Try.prog w base spare held n' 29 (([c0, c1, c2, c3, c4, c5, c6, c7, c8].drop 2).take (Try.prog.cellsOf 29)) = _ at f2
    change DataW.trod enc Try.prog w base spare held n' 29 (([c0, c1, c2, c3, c4, c5, c6, c7, c8].drop 3).take (Try.prog.cellsOf 29)) = _ at f3
    change DataW.trod enc Try.prog w base spare held n' 4 (([c0, c1, c2, c3, c4, c5, c6, c7, c8].drop 4).take (Try.prog.cellsOf 4)) = _ at f4
    change DataW.trod enc Try.prog w base spare held n' 29 (([c0, c1, c2, c3, c4, c5, c6, c7, c8].drop 5).take (Try.prog.cellsOf 29)) = _ at f5
    change DataW.trod enc Try.prog w base spare held n' 29 (([c0, c1, c2, c3, c4, c5, c6, c7, c8].drop 6).take (Try.prog.cellsOf 29)) = _ at f6
    change DataW.trod enc Try.prog w base spare held n' 3 (([c0, c1, c2, c3, c4, c5, c6, c7, c8].drop 7).take (Try.prog.cellsOf 3)) = _ at f7
    change DataW.trod enc Try.prog w base spare held n' 3 (([c0, c1, c2, c3, c4, c5, c6, c7, c8].drop 8).take (Try.prog.cellsOf 3)) = _ at f8
    rw [k8, List.getElem?_eq_getElem (by omega)] at f0
    rw [k8, List.getElem?_eq_getElem (by omega)] at f1
    rw [k8, List.getElem?_eq_getElem (by omega)] at f2
    rw [k8, List.getElem?_eq_getElem (by omega)] at f3
    rw [kb, List.getElem?_eq_getElem (by omega)] at f4
    rw [k8, List.getElem?_eq_getElem (by omega)] at f5
    rw [k8, List.getElem?_eq_getElem (by omega)] at f6
    rw [ki, List.getElem?_eq_getElem (by omega)] at f7
    rw [ki, List.getElem?_eq_getElem (by omega)] at f8
    obtain ⟨v0, e0, _, w0⟩ := DataW.trod_int Try.underlying29 f0
    obtain ⟨v1, e1, _, w1⟩ := DataW.trod_int Try.underlying29 f1
    obtain ⟨v2, e2, _, w2⟩ := DataW.trod_int Try.underlying29 f2
    obtain ⟨v3, e3, _, w3⟩ := DataW.trod_int Try.underlying29 f3
    obtain ⟨v4, e4, _⟩ := DataW.trod_bool Try.underlying4 f4
    obtain ⟨v5, e5, _, w5⟩ := DataW.trod_int Try.underlying29 f5
    obtain ⟨v6, e6, _, w6⟩ := DataW.trod_int Try.underlying29 f6
    obtain ⟨v7, e7, _, w7⟩ := DataW.trod_int Try.underlying3 f7
    obtain ⟨v8, e8, _, w8⟩ := DataW.trod_int Try.underlying3 f8
    simp at e0 e1 e2 e3 e4 e5 e6 e7 e8
    subst e0 e1 e2 e3 e4 e5 e6 e7 e8
    exact ⟨⟨v0, v1, v2, v3, v4, v5, v6, v7, v8⟩, rfl, ⟨bd_i8 w0, bd_i8 w1, bd_i8 w2, bd_i8 w3, bd_i8 w5, bd_i8 w6, bd_i64 w7, bd_i64 w8⟩⟩

theorem ins_open {r : Reach} {b0 : Nat} {v : Value} {d : DataW H} {p : List MemPlace} {spare : Nat → Bool} (hv : Value.okWide Try.prog w r b0 55 v) (h : DataW.Trod enc Try.prog w base spare held 55 v d p) : ∃ y : In, v = .agg y.cells ∧ y.Ok := by
  obtain ⟨cs, rfl, hsz⟩ := okWide_struct Try.underlying55 hv
  obtain ⟨fuel, hf⟩ := h
  obtain ⟨y, hy, ok⟩ := ins_cells hf
  refine ⟨y, ?_, ok⟩
  have : cs = y.cells := by
    apply Array.ext'
    simpa [Value.cells] using hy
  rw [this]

theorem insts_open {fuel : Nat} {cs : List Value} {x : DataW H × List MemPlace} (h : DataW.trod enc Try.prog w base (fun _ => true) held fuel 22 cs = some x) :
    ∃ (a : Option Addr) (len cap : Nat) (xs : Nat → In), cs = [.slice a len cap] ∧ Insts w a len cap xs := by
  rcases open_slice Try.underlying22 h with ⟨rfl, _⟩ | ⟨a, len, cap, m, n, D, Pl, rfl, _, hl, hm, hmm, _, hi⟩
  · exact ⟨none, 0, 0, fun _ => In.nil, rfl, Nat.le_refl _, by omega, fun h => absurd h (by omega), fun i h => absurd h (by omega)⟩
  · have hm' : len ≤ m := by rw [hmm]; split <;> omega
    have k9 : Try.prog.cellsOf 55 = 9 := by kernel_rfl
    have spotless : 0 < len → a.spot = none := fun h0 => by
      obtain ⟨cs', hc, ht'⟩ := hi 0 (by omega)
      rw [k9] at hc
      obtain ⟨_, hcl, hat⟩ := World.cells?_some hc
      obtain ⟨y, rfl, _⟩ := ins_cells ht'
      obtain ⟨b, off, spot⟩ := a
      have c0 := hat 0 (by omega)
      simpa [Addr.add] using World.cell?_spot c0
    have key : ∀ i, ∃ y : In, i < len → w.rangeAt a.block (a.off + i * 9) y.cells.toList ∧ a.spot = none ∧ y.Ok := by
      intro i
      by_cases hlt : i < len
      · obtain ⟨cs', hc, ht'⟩ := hi i (by omega)
        rw [k9] at hc
        obtain ⟨_, hcl, hat⟩ := World.cells?_some hc
        obtain ⟨y, rfl, ok⟩ := ins_cells ht'
        refine ⟨y, fun _ => ?_⟩
        have hs := spotless (by omega)
        obtain ⟨b, off, spot⟩ := a
        simp only at hs
        subst hs
        refine ⟨fun j u hu => ?_, rfl, ok⟩
        have hj : j < 9 := (List.getElem?_eq_some_iff.1 hu).1
        have := hat j hj
        rw [Addr.add_mid, Addr.add_mid] at this
        exact this.trans hu
      · exact ⟨In.nil, fun h => absurd h hlt⟩
    refine ⟨some a, len, cap, fun i => (key i).choose, rfl, hl, by unfold maxLen at hm; omega, fun h0 => ?_, fun i hlt => ((key i).choose_spec hlt).2.2⟩
    obtain ⟨_, hs, _⟩ := (key 0).choose_spec h0
    refine ⟨a.block, a.off, ?_, fun i hlt => ((key i).choose_spec hlt).1⟩
    obtain ⟨b, off, spot⟩ := a
    simp at hs
    rw [hs]

theorem prog_open {r : Reach} {b0 : Nat} {v : Value} {d : DataW H} {p : List MemPlace} (hv : Value.okWide Try.prog w r b0 24 v) (h : DataW.Trod enc Try.prog w base (fun _ => true) held 24 v d p) :
    ∃ (c : Int) (a : Option Addr) (len cap : Nat) (xs : Nat → In), v = .agg #[.int .i64 c, .slice a len cap] ∧ (Lit.int .i64 c).wf = true ∧ Insts w a len cap xs := by
  obtain ⟨cs, rfl, hsz⟩ := okWide_struct Try.underlying24 hv
  obtain ⟨fuel, hf⟩ := h
  obtain ⟨ys, n', _, _, hlen, hyl, hg⟩ := DataW.trod_struct Try.underlying24 hf
  obtain ⟨l⟩ := cs
  have hl : l.length = 2 := by
    have := hsz.trans (show Try.prog.cellsOf 24 = 2 by kernel_rfl)
    simpa using this
  match l, hl with
  | [c0, c1], _ =>
    have ki : Try.prog.cellsOf 3 = 1 := by kernel_rfl
    have ks : Try.prog.cellsOf 22 = 1 := by kernel_rfl
    have hy2 : ys.length = 2 := hyl
    have f0 := hg 0 _ rfl
    have f1 := hg 1 _ rfl
    change DataW.trod enc Try.prog w base _ held n' 3 (([c0, c1].drop 0).take (Try.prog.cellsOf 3)) = _ at f0
    change DataW.trod enc Try.prog w base _ held n' 22 (([c0, c1].drop 1).take (Try.prog.cellsOf 22)) = _ at f1
    rw [ki, List.getElem?_eq_getElem (by omega)] at f0
    rw [ks, List.getElem?_eq_getElem (by omega)] at f1
    obtain ⟨c, e0, _, w0⟩ := DataW.trod_int Try.underlying3 f0
    obtain ⟨a, len, cap, xs, e1, hx⟩ := insts_open f1
    simp at e0 e1
    subst e0 e1
    exact ⟨c, a, len, cap, xs, rfl, w0, hx⟩
end
end Go.Proofs.Ythhgcbegcbhaeaa.Ins

namespace Go.Proofs.Ythhgcbegcbhaeaa.Trc
open Go.RowKit Go.ChangeShapes Go.WideShapes Go.Deep
set_option linter.unusedVariables false
set_option maxRecDepth 100000

section
variable {H : Type} {enc : TypeId × Value → H} {w : World} {base : Nat} {held : Bool}
theorem u64_bd {z : Int} (h : (Lit.int .u64 z).wf = true) : 0 ≤ z ∧ z < 18446744073709551616 := by
  have : 0 ≤ z ∧ z ≤ 18446744073709551615 := by simpa [Lit.wf, IntKind.min, IntKind.max, IntKind.bits, IntKind.signed] using h
  omega
theorem words_arg {r : Reach} {b0 : Nat} {v : Value} {d : DataW H} {p : List MemPlace} (hv : Value.okWide Try.prog w r b0 26 v) (h : DataW.Trod enc Try.prog w base (fun _ => true) held 26 v d p) :
    ∃ (a : Option Addr) (len cap : Nat) (zs : List Int), v = .slice a len cap ∧ (∀ z ∈ zs, 0 ≤ z ∧ z < 18446744073709551616) ∧ WordsAt w a len cap zs := by
  obtain ⟨a, len, cap, rfl⟩ := okWide_slice Try.underlying26 hv
  obtain ⟨fuel, hf⟩ := h
  rcases open_ints Try.underlying26 Try.underlying30 (by kernel_rfl) hf with ⟨hcs, _⟩ | ⟨x, l, c, zs, hcs, _, hl, hm, hz, _, hcell, hwz⟩
  · simp [Value.cells] at hcs
    obtain ⟨rfl, rfl, rfl⟩ := hcs
    exact ⟨none, 0, 0, [], rfl, fun z h => (by cases h), rfl, Nat.le_refl _, by omega, fun h => absurd h (by decide), fun _ => rfl⟩
  · simp [Value.cells] at hcs
    obtain ⟨rfl, rfl, rfl⟩ := hcs
    have hz' : zs.length = cap := by simpa using hz
    refine ⟨some x, len, cap, zs.take len, rfl, fun z h => u64_bd (hwz z (List.mem_of_mem_take h)), by rw [List.length_take]; omega, hl, by unfold maxLen at hm; omega, fun h0 => ?_, fun h => by cases h⟩
    have hs : x.spot = none := by
      have c0 := hcell 0 (by omega)
      obtain ⟨b, off, spot⟩ := x
      simpa [Addr.add] using World.cell?_spot c0
    obtain ⟨b, off, spot⟩ := x
    simp only at hs
    subst hs
    refine ⟨b, off, rfl, fun j z hj => ?_⟩
    rw [List.getElem?_take] at hj
    split at hj
    · have hlt := (List.getElem?_eq_some_iff.1 hj).1
      have := hcell j hlt
      rw [Addr.add_mid] at this
      rw [this, List.getD_eq_getElem?_getD, hj]; rfl
    · cases hj
end
end Go.Proofs.Ythhgcbegcbhaeaa.Trc
