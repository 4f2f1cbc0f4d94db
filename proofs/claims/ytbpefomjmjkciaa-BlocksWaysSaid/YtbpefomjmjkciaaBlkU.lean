/-
  Slices of blocks that came in, opened.
-/
import Derived.Test.YtbpefomjmjkciaaInsO
import Derived.Test.YtbpefomjmjkciaaBlkC
namespace Go.Proofs.Ytbpefomjmjkciaa.Blk
open Go.RowKit Go.ChangeShapes Go.WideShapes Go.Deep Ins
set_option linter.unusedVariables false
set_option maxRecDepth 100000

section
variable {H : Type} {enc : TypeId × Value → H} {w : World} {base : Nat} {held : Bool}

theorem ints_open {fuel : Nat} {cs : List Value} {x : DataW H × List MemPlace} (h : DataW.trod enc Try.prog w base (fun _ => true) held fuel 50 cs = some x) :
    ∃ (a : Option Addr) (len cap : Nat) (zs : List Int), cs = [.slice a len cap] ∧ IntsAt w a len cap zs := by
  rcases open_ints Try.underlying50 Try.underlying3 (by kernel_rfl) h with ⟨hcs, _⟩ | ⟨x, l, c, zs, hcs, _, hl, hm, hz, _, hcell, hwz⟩
  · exact ⟨none, 0, 0, [], hcs, rfl, Nat.le_refl _, by omega, fun h => absurd h (by decide)⟩
  · have hz' : zs.length = c := by simpa using hz
    refine ⟨some x, l, c, zs.take l, hcs, by rw [List.length_take]; omega, hl, by unfold maxLen at hm; omega, fun h0 => ?_⟩
    have hs : x.spot = none := by
      have c0 := hcell 0 (by omega)
      obtain ⟨b, off, spot⟩ := x
      simpa [Addr.add] using World.cell?_spot c0
    obtain ⟨b, off, spot⟩ := x
    simp only at hs
    subst hs
    refine ⟨b, off, rfl, fun j z hj => ?_⟩
    rw [List.getElem?_take] at hj
    split at hj
    · have hlt := (List.getElem?_eq_some_iff.1 hj).1
      have := hcell j hlt
      rw [Addr.add_mid] at this
      rw [this, List.getD_eq_getElem?_getD, hj]; rfl
    · cases hj

theorem blk_open {n : Nat} {cs : List Value} {x : DataW H × List MemPlace} (h : DataW.trod enc Try.prog w base (fun _ => true) held n 55 cs = some x) :
    ∃ (y : Bk) (na : Option Addr) (nc : Nat), cs = cell3 (y, (na, nc)) ∧ IntsAt w na y.next.length nc y.next := by
  obtain ⟨xs, n', _, _, hlen, hxl, hf⟩ := DataW.trod_struct Try.underlying55 h
  have hl : cs.length = 3 := hlen.trans (by kernel_rfl)
  match cs, hl with
  | [c0, c1, c2], _ =>
    have ki : Try.prog.cellsOf 3 = 1 := by kernel_rfl
    have ks : Try.prog.cellsOf 50 = 1 := by kernel_rfl
    have hx3 : xs.length = 3 := hxl
    have f0 := hf 0 _ rfl
    have f1 := hf 1 _ rfl
    have f2 := hf 2 _ rfl
    change DataW.trod enc Try.prog w base _ held n' 3 (([c0, c1, c2].drop 0).take (Try.prog.cellsOf 3)) = _ at f0
    change DataW.trod enc Try.prog w base _ held n' 3 (([c0, c1, c2].drop 1).take (Try.prog.cellsOf 3)) = _ at f1
    change DataW.trod enc Try.prog w base _ held n' 50 (([c0, c1, c2].drop 2).take (Try.prog.cellsOf 50)) = _ at f2
    rw [ki, List.getElem?_eq_getElem (by omega)] at f0
    rw [ki, List.getElem?_eq_getElem (by omega)] at f1
    rw [ks, List.getElem?_eq_getElem (by omega)] at f2
    obtain ⟨v0, e0, _, w0⟩ := DataW.trod_int Try.underlying3 f0
    obtain ⟨v1, e1, _, w1⟩ := DataW.trod_int Try.underlying3 f1
    obtain ⟨na, len, nc, zs, e2, hz⟩ := ints_open f2
    simp at e0 e1 e2
    subst e0 e1 e2
    have hlen := hz.size
    subst hlen
    exact ⟨⟨v0, v1, zs⟩, na, nc, rfl, hz⟩
theorem blks_open {fuel : Nat} {cs : List Value} {x : DataW H × List MemPlace} (h : DataW.trod enc Try.prog w base (fun _ => true) held fuel 42 cs = some x) :
    ∃ (a : Option Addr) (len cap : Nat) (bs : List Bk), cs = [.slice a len cap] ∧ Blks w a len cap bs := by
  rcases open_slice Try.underlying42 h with ⟨rfl, _⟩ | ⟨a, len, cap, m, n, D, Pl, rfl, _, hl, hm, hmm, _, hi⟩
  · exact ⟨none, 0, 0, [], rfl, rfl, Nat.le_refl _, by omega, fun h => absurd h (by decide)⟩
  · have hm' : len ≤ m := by rw [hmm]; split <;> omega
    have k3 : Try.prog.cellsOf 55 = 3 := by kernel_rfl
    have spotless : 0 < len → a.spot = none := fun h0 => by
      obtain ⟨cs', hc, ht'⟩ := hi 0 (by omega)
      rw [k3] at hc
      obtain ⟨_, hcl, hat⟩ := World.cells?_some hc
      obtain ⟨y, na, nc, rfl, _⟩ := blk_open ht'
      have c0 := hat 0 (by omega)
      obtain ⟨b, off, spot⟩ := a
      simpa [Addr.add] using World.cell?_spot c0
    have key : ∀ i, ∃ (y : Bk), i < len → ∃ (na : Option Addr) (nc : Nat), w.rangeAt a.block (a.off + i * 3) (cell3 (y, (na, nc))) ∧ a.spot = none ∧ IntsAt w na y.next.length nc y.next := by
      intro i
      by_cases hlt : i < len
      · obtain ⟨cs', hc, ht'⟩ := hi i (by omega)
        rw [k3] at hc
        obtain ⟨_, hcl, hat⟩ := World.cells?_some hc
        obtain ⟨y, na, nc, rfl, hw⟩ := blk_open ht'
        refine ⟨y, fun _ => ⟨na, nc, ?_⟩⟩
        have hs : a.spot = none := spotless (by omega)
        obtain ⟨b, off, spot⟩ := a
        simp only at hs
        subst hs
        refine ⟨fun j u hu => ?_, rfl, hw⟩
        have hj : j < 3 := (List.getElem?_eq_some_iff.1 hu).1
        have := hat j hj
        rw [Addr.add_mid, Addr.add_mid] at this
        exact this.trans hu
      · exact ⟨⟨0, 0, []⟩, fun h => absurd h hlt⟩
    refine ⟨some a, len, cap, (List.range len).map (fun i => (key i).choose), rfl, by simp, hl, by unfold maxLen at hm; omega, fun h0 => ?_⟩
    obtain ⟨_, _, _, hs, _⟩ := (key 0).choose_spec h0
    refine ⟨a.block, a.off, ?_, fun i y hy => ?_⟩
    · obtain ⟨b, off, spot⟩ := a
      simp at hs
      rw [hs]
    · have hlt : i < len := by have := (List.getElem?_eq_some_iff.1 hy).1; simpa using this
      have e : (key i).choose = y := by simpa [hlt] using hy
      obtain ⟨na, nc, h1, _, h2⟩ := (key i).choose_spec hlt
      rw [e] at h1 h2
      exact ⟨na, nc, h1, h2⟩
theorem blks_arg {r : Reach} {b0 : Nat} {v : Value} {d : DataW H} {p : List MemPlace} (hv : Value.okWide Try.prog w r b0 42 v) (h : DataW.Trod enc Try.prog w base (fun _ => true) held 42 v d p) :
    ∃ (a : Option Addr) (len cap : Nat) (bs : List Bk), v = .slice a len cap ∧ Blks w a len cap bs := by
  obtain ⟨a, len, cap, rfl⟩ := okWide_slice Try.underlying42 hv
  obtain ⟨fuel, hf⟩ := h
  obtain ⟨a', len', cap', bs, hcs, hx⟩ := blks_open hf
  simp [Value.cells] at hcs
  obtain ⟨rfl, rfl, rfl⟩ := hcs
  exact ⟨a, len, cap, bs, rfl, hx⟩
end
end Go.Proofs.Ytbpefomjmjkciaa.Blk
