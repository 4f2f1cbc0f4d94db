/-
  Rows of words and of bytes, events, rows of them and outcomes that came in, opened.
-/
import Derived.Test.YtpbnmbeedjhloaaTrcD
import Derived.ProofKit
import Derived.OpenShut
import Derived.Deep.Slices
import Derived.Deep.Fields
import Derived.ChangeSame
namespace Go.Proofs.Ytpbnmbeedjhloaa.Trc
open Go.RowKit Go.ChangeShapes Go.WideShapes Go.Deep
set_option linter.unusedVariables false
set_option maxRecDepth 100000

section
variable {H : Type} {enc : TypeId × Value → H} {w : World} {base : Nat} {held : Bool}

theorem u8_bd {z : Int} (h : (Lit.int .u8 z).wf = true) : 0 ≤ z ∧ z < 256 := by
  have : 0 ≤ z ∧ z ≤ 255 := by simpa [Lit.wf, IntKind.min, IntKind.max, IntKind.bits, IntKind.signed] using h
  omega
theorem words_open {fuel : Nat} {cs : List Value} {x : DataW H × List MemPlace} (h : DataW.trod enc Try.prog w base (fun _ => true) held fuel 77 cs = some x) :
    ∃ (a : Option Addr) (len cap : Nat) (zs : List Int), cs = [.slice a len cap] ∧ WordsAt w a len cap zs := by
  rcases open_ints Try.underlying77 Try.underlying33 (by kernel_rfl) h with ⟨hcs, _⟩ | ⟨x, l, c, zs, hcs, _, hl, hm, hz, _, hcell, hwz⟩
  · exact ⟨none, 0, 0, [], hcs, rfl, Nat.le_refl _, by omega, fun h => absurd h (by decide), fun _ => rfl⟩
  · have hz' : zs.length = c := by simpa using hz
    refine ⟨some x, l, c, zs.take l, hcs, by rw [List.length_take]; omega, hl, by unfold maxLen at hm; omega, fun h0 => ?_, fun h => by cases h⟩
    have hs : x.spot = none := by
      have c0 := hcell 0 (by omega)
      obtain ⟨b, off, spot⟩ := x
      simpa [Addr.add] using World.cell?_spot c0
    obtain ⟨b, off, spot⟩ := x
    simp only at hs
    subst hs
    refine ⟨b, off, rfl, fun j z hj => ?_⟩
    rw [List.getElem?_take] at hj
    split at hj
    · have hlt := (List.getElem?_eq_some_iff.1 hj).1
      have := hcell j hlt
      rw [Addr.add_mid] at this
      rw [this, List.getD_eq_getElem?_getD, hj]; rfl
    · cases hj
theorem bytes_open {fuel : Nat} {cs : List Value} {x : DataW H × List MemPlace} (h : DataW.trod enc Try.prog w base (fun _ => true) held fuel 22 cs = some x) :
    ∃ (a : Option Addr) (len cap : Nat) (zs : List Int), cs = [.slice a len cap] ∧ BytesAt w a len cap zs := by
  rcases open_ints Try.underlying22 Try.underlying5 (by kernel_rfl) h with ⟨hcs, _⟩ | ⟨x, l, c, zs, hcs, _, hl, hm, hz, _, hcell, hwz⟩
  · exact ⟨none, 0, 0, [], hcs, rfl, Nat.le_refl _, by omega, fun h => absurd h (by decide), fun z h => (by cases h), fun _ => rfl⟩
  · have hz' : zs.length = c := by simpa using hz
    refine ⟨some x, l, c, zs.take l, hcs, by rw [List.length_take]; omega, hl, by unfold maxLen at hm; omega, fun h0 => ?_, fun z hz => u8_bd (hwz z (List.mem_of_mem_take hz)), fun h => by cases h⟩
    have hs : x.spot = none := by
      have c0 := hcell 0 (by omega)
      obtain ⟨b, off, spot⟩ := x
      simpa [Addr.add] using World.cell?_spot c0
    obtain ⟨b, off, spot⟩ := x
    simp only at hs
    subst hs
    refine ⟨b, off, rfl, fun j z hj => ?_⟩
    rw [List.getElem?_take] at hj
    split at hj
    · have hlt := (List.getElem?_eq_some_iff.1 hj).1
      have := hcell j hlt
      rw [Addr.add_mid] at this
      rw [this, List.getD_eq_getElem?_getD, hj]; rfl
    · cases hj

theorem ev_open {n : Nat} {cs : List Value} {x : DataW H × List MemPlace} (h : DataW.trod enc Try.prog w base (fun _ => true) held n 79 cs = some x) :
    ∃ (y : Ev) (na : Option Addr) (nc : Nat), cs = cellE y na nc ∧ WordsAt w na y.args.length nc y.args := by
  obtain ⟨xs, n', _, _, hlen, hxl, hf⟩ := DataW.trod_struct Try.underlying79 h
  have hl : cs.length = 3 := hlen.trans (by kernel_rfl)
  match cs, hl with
  | [c0, c1, c2], _ =>
    have ki : Try.prog.cellsOf 3 = 1 := by kernel_rfl
    have ks : Try.prog.cellsOf 77 = 1 := by kernel_rfl
    have ku : Try.prog.cellsOf 33 = 1 := by kernel_rfl
    have hx3 : xs.length = 3 := hxl
    have f0 := hf 0 _ rfl
    have f1 := hf 1 _ rfl
    have f2 := hf 2 _ rfl
    change DataW.trod enc Try.prog w base _ held n' 3 (([c0, c1, c2].drop 0).take (Try.prog.cellsOf 3)) = _ at f0
    change DataW.trod enc Try.prog w base _ held n' 77 (([c0, c1, c2].drop 1).take (Try.prog.cellsOf 77)) = _ at f1
    change DataW.trod enc Try.prog w base _ held n' 33 (([c0, c1, c2].drop 2).take (Try.prog.cellsOf 33)) = _ at f2
    rw [ki, List.getElem?_eq_getElem (by omega)] at f0
    rw [ks, List.getElem?_eq_getElem (by omega)] at f1
    rw [ku, List.getElem?_eq_getElem (by omega)] at f2
    obtain ⟨v0, e0, _, w0⟩ := DataW.trod_int Try.underlying3 f0
    obtain ⟨na, len, nc, zs, e1, hz⟩ := words_open f1
    obtain ⟨v2, e2, _, w2⟩ := DataW.trod_int Try.underlying33 f2
    simp at e0 e1 e2
    subst e0 e1 e2
    have hlen := hz.size
    subst hlen
    exact ⟨⟨v0, zs, v2⟩, na, nc, rfl, hz⟩
theorem evs_open {fuel : Nat} {cs : List Value} {x : DataW H × List MemPlace} (h : DataW.trod enc Try.prog w base (fun _ => true) held fuel 74 cs = some x) :
    ∃ (a : Option Addr) (len cap : Nat) (es : List Ev), cs = [.slice a len cap] ∧ EvsAt w a len cap es := by
  rcases open_slice Try.underlying74 h with ⟨rfl, _⟩ | ⟨a, len, cap, m, n, D, Pl, rfl, _, hl, hm, hmm, _, hi⟩
  · exact ⟨none, 0, 0, [], rfl, rfl, Nat.le_refl _, by omega, fun h => absurd h (by decide), fun _ => rfl⟩
  · have hm' : len ≤ m := by rw [hmm]; split <;> omega
    have k3 : Try.prog.cellsOf 79 = 3 := by kernel_rfl
    have spotless : 0 < len → a.spot = none := fun h0 => by
      obtain ⟨cs', hc, ht'⟩ := hi 0 (by omega)
      rw [k3] at hc
      obtain ⟨_, hcl, hat⟩ := World.cells?_some hc
      obtain ⟨y, na, nc, rfl, _⟩ := ev_open ht'
      have c0 := hat 0 (by omega)
      obtain ⟨b, off, spot⟩ := a
      simpa [Addr.add] using World.cell?_spot c0
    have key : ∀ i, ∃ (y : Ev), i < len → ∃ (na : Option Addr) (nc : Nat), w.rangeAt a.block (a.off + i * 3) (cellE y na nc) ∧ a.spot = none ∧ WordsAt w na y.args.length nc y.args := by
      intro i
      by_cases hlt : i < len
      · obtain ⟨cs', hc, ht'⟩ := hi i (by omega)
        rw [k3] at hc
        obtain ⟨_, hcl, hat⟩ := World.cells?_some hc
        obtain ⟨y, na, nc, rfl, hw⟩ := ev_open ht'
        refine ⟨y, fun _ => ⟨na, nc, ?_⟩⟩
        have hs : a.spot = none := spotless (by omega)
        obtain ⟨b, off, spot⟩ := a
        simp only at hs
        subst hs
        refine ⟨fun j u hu => ?_, rfl, hw⟩
        have hj : j < 3 := (List.getElem?_eq_some_iff.1 hu).1
        have := hat j hj
        rw [Addr.add_mid, Addr.add_mid] at this
        exact this.trans hu
      · exact ⟨⟨0, [], 0⟩, fun h => absurd h hlt⟩
    refine ⟨some a, len, cap, (List.range len).map (fun i => (key i).choose), rfl, by simp, hl, by unfold maxLen at hm; omega, fun h0 => ?_, fun h => by cases h⟩
    obtain ⟨_, _, _, hs, _⟩ := (key 0).choose_spec h0
    refine ⟨a.block, a.off, ?_, fun i y hy => ?_⟩
    · obtain ⟨b, off, spot⟩ := a
      simp at hs
      rw [hs]
    · have hlt : i < len := by have := (List.getElem?_eq_some_iff.1 hy).1; simpa using this
      have e : (key i).choose = y := by simpa [hlt] using hy
      obtain ⟨na, nc, h1, _, h2⟩ := (key i).choose_spec hlt
      rw [e] at h1 h2
      exact ⟨na, nc, h1, h2⟩

theorem ev_arg {r : Reach} {b0 : Nat} {v : Value} {d : DataW H} {p : List MemPlace} (hv : Value.okWide Try.prog w r b0 79 v) (h : DataW.Trod enc Try.prog w base (fun _ => true) held 79 v d p) :
    ∃ (y : Ev) (na : Option Addr) (nc : Nat), v = .agg #[.int .i64 y.num, .slice na y.args.length nc, .int .u64 y.ans] ∧ WordsAt w na y.args.length nc y.args := by
  obtain ⟨cs, rfl, hsz⟩ := okWide_struct Try.underlying79 hv
  obtain ⟨fuel, hf⟩ := h
  obtain ⟨y, na, nc, hy, hw⟩ := ev_open hf
  refine ⟨y, na, nc, ?_, hw⟩
  have : cs = (cellE y na nc).toArray := by
    apply Array.ext'
    simpa [Value.cells] using hy
  rw [this]; rfl

theorem out_arg {r : Reach} {b0 : Nat} {v : Value} {d : DataW H} {p : List MemPlace} (hv : Value.okWide Try.prog w r b0 76 v) (h : DataW.Trod enc Try.prog w base (fun _ => true) held 76 v d p) :
    ∃ (x : Out) (ca : Option Addr) (cc : Nat) (ta : Option Addr) (tc : Nat), v = outV x ca cc ta tc ∧ OutAt w x ca cc ta tc := by
  obtain ⟨cs, rfl, hsz⟩ := okWide_struct Try.underlying76 hv
  obtain ⟨fuel, hf⟩ := h
  obtain ⟨ys, n', _, _, hlen, hyl, hg⟩ := DataW.trod_struct Try.underlying76 hf
  obtain ⟨l⟩ := cs
  have hl : l.length = 5 := by
    have := hsz.trans (show Try.prog.cellsOf 76 = 5 by kernel_rfl)
    simpa using this
  match l, hl with
  | [c0, c1, c2, c3, c4], _ =>
    have k8 : Try.prog.cellsOf 44 = 1 := by kernel_rfl
    have ku : Try.prog.cellsOf 33 = 1 := by kernel_rfl
    have kb : Try.prog.cellsOf 22 = 1 := by kernel_rfl
    have ke : Try.prog.cellsOf 74 = 1 := by kernel_rfl
    have ki : Try.prog.cellsOf 3 = 1 := by kernel_rfl
    have hy2 : ys.length = 5 := hyl
    have f0 := hg 0 _ rfl
    have f1 := hg 1 _ rfl
    have f2 := hg 2 _ rfl
    have f3 := hg 3 _ rfl
    have f4 := hg 4 _ rfl
    change DataW.trod enc Try.prog w base _ held n' 44 (([c0, c1, c2, c3, c4].drop 0).take (Try.prog.cellsOf 44)) = _ at f0
    change DataW.trod enc Try.prog w base _ held n' 33 (([c0, c1, c2, c3, c4].drop 1).take (Try.prog.cellsOf 33)) = _ at f1
    change DataW.trod enc Try.prog w base _ held n' 22 (([c0, c1, c2, c3, c4].drop 2).take (Try.prog.cellsOf 22)) = _ at f2
    change DataW.trod enc Try.prog w base _ held n' 74 (([c0, c1, c2, c3, c4].drop 3).take (Try.prog.cellsOf 74)) = _ at f3
    change DataW.trod enc Try.prog w base _ held n' 3 (([c0, c1, c2, c3, c4].drop 4).take (Try.prog.cellsOf 3)) = _ at f4
    rw [k8, List.getElem?_eq_getElem (by omega)] at f0
    rw [ku, List.getElem?_eq_getElem (by omega)] at f1
    rw [kb, List.getElem?_eq_getElem (by omega)] at f2
    rw [ke, List.getElem?_eq_getElem (by omega)] at f3
    rw [ki, List.getElem?_eq_getElem (by omega)] at f4
    obtain ⟨v0, e0, _, _⟩ := DataW.trod_int Try.underlying44 f0
    obtain ⟨v1, e1, _, _⟩ := DataW.trod_int Try.underlying33 f1
    obtain ⟨ca, cl, cc, zs, e2, hz⟩ := bytes_open f2
    obtain ⟨ta, tl, tc, es, e3, he⟩ := evs_open f3
    obtain ⟨v4, e4, _, _⟩ := DataW.trod_int Try.underlying3 f4
    simp at e0 e1 e2 e3 e4
    subst e0 e1 e2 e3 e4
    have h1 := hz.size
    have h2 := he.size
    subst h1 h2
    exact ⟨⟨v0, v1, zs, es, v4⟩, ca, cc, ta, tc, rfl, hz, he⟩

theorem evs_arg {r : Reach} {b0 : Nat} {v : Value} {d : DataW H} {p : List MemPlace} (hv : Value.okWide Try.prog w r b0 74 v) (h : DataW.Trod enc Try.prog w base (fun _ => true) held 74 v d p) :
    ∃ (es : List Ev) (a : Option Addr) (cap : Nat), v = .slice a es.length cap ∧ EvsAt w a es.length cap es := by
  obtain ⟨a, len, cap, rfl⟩ := okWide_slice Try.underlying74 hv
  obtain ⟨fuel, hf⟩ := h
  obtain ⟨a', len', cap', es, hcs, he⟩ := evs_open hf
  simp [Value.cells] at hcs
  obtain ⟨rfl, rfl, rfl⟩ := hcs
  have h1 := he.size
  subst h1
  exact ⟨es, a, cap, rfl, he⟩
end
end Go.Proofs.Ytpbnmbeedjhloaa.Trc
