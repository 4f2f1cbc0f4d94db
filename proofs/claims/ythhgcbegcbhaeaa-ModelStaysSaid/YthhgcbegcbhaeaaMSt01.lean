/-
  Several texts in one: InsO, WordsO, MdlSn, MdlAg, MdlIn, MdlVs, MdlEc, MdlGq.
-/
import Derived.Test.YthhgcbegcbhaeaaMBh31
import Derived.ProofKit
import Derived.Deep.Slices
import Derived.Deep.Fields
import Derived.ChangeSame
import Derived.Test.YthhgcbegcbhaeaaMBh16
import Derived.OpenShut
import Derived.Test.YthhgcbegcbhaeaaMBh41
import Derived.Test.YthhgcbegcbhaeaaMBh30
import Derived.OwnWalkIn
import Derived.RangeFuncBox
import Derived.RangeFuncNested
import Derived.RangeFuncBound
import Derived.RangeFuncCalls
import Derived.Shelf.RegionOpen
set_option linter.unusedVariables false
set_option linter.unusedSimpArgs false
set_option linter.unnecessarySimpa false
namespace Go.Proofs.Ythhgcbegcbhaeaa.Ins
open Go.RowKit Go.ChangeShapes Go.WideShapes Go.Deep
set_option linter.unusedVariables false
set_option maxRecDepth 100000

theorem bd_i8 {a : Int} (h : (Lit.int .i8 a).wf = true) : -128 ≤ a ∧ a ≤ 127 := by simpa [Lit.wf, IntKind.min, IntKind.max, IntKind.bits, IntKind.signed] using h
theorem bd_i64 {a : Int} (h : (Lit.int .i64 a).wf = true) : -9223372036854775808 ≤ a ∧ a ≤ 9223372036854775807 := by simpa [Lit.wf, IntKind.min, IntKind.max, IntKind.bits, IntKind.signed] using h

section
variable {H : Type} {enc : TypeId × Value → H} {w : World} {base : Nat} {held : Bool}
theorem ins_cells {n : Nat} {cs : List Value} {x : DataW H × List MemPlace} {spare : Nat → Bool} (h : DataW.trod enc Try.prog w base spare held n 55 cs = some x) : ∃ y : In, cs = y.cells.toList ∧ y.Ok := by
  obtain ⟨xs, n', _, _, hlen, hxl, hf⟩ := DataW.trod_struct Try.underlying55 h
  have hl : cs.length = 9 := hlen.trans (by kernel_rfl)
  match cs, hl with
  | [c0, c1, c2, c3, c4, c5, c6, c7, c8], _ =>
    have ki : Try.prog.cellsOf 3 = 1 := by kernel_rfl
    have k8 : Try.prog.cellsOf 29 = 1 := by kernel_rfl
    have kb : Try.prog.cellsOf 4 = 1 := by kernel_rfl
    have hx9 : xs.length = 9 := hxl
    have f0 := hf 0 _ rfl
    have f1 := hf 1 _ rfl
    have f2 := hf 2 _ rfl
    have f3 := hf 3 _ rfl
    have f4 := hf 4 _ rfl
    have f5 := hf 5 _ rfl
    have f6 := hf 6 _ rfl
    have f7 := hf 7 _ rfl
    have f8 := hf 8 _ rfl
    change DataW.trod enc Try.prog w base spare held n' 29 (([c0, c1, c2, c3, c4, c5, c6, c7, c8].drop 0).take (Try.prog.cellsOf 29)) = _ at f0
    change DataW.trod enc Try.prog w base spare held n' 29 (([c0, c1, c2, c3, c4, c5, c6, c7, c8].drop 1).take (Try.prog.cellsOf 29)) = _ at f1
    change DataW.trod enc Try.prog w base spare held n' 29 (([c0, c1, c2, c3, c4, c5, c6, c7, c8].drop 2).take (Try.prog.cellsOf 29)) = _ at f2
    change DataW.trod enc Try.prog w base spare held n' 29 (([c0, c1, c2, c3, c4, c5, c6, c7, c8].drop 3).take (Try.prog.cellsOf 29)) = _ at f3
    change DataW.trod enc Try.prog w base spare held n' 4 (([c0, c1, c2, c3, c4, c5, c6, c7, c8].drop 4).take (Try.prog.cellsOf 4)) = _ at f4
    change DataW.trod enc Try.prog w base spare held n' 29 (([c0, c1, c2, c3, c4, c5, c6, c7, c8].drop 5).take (Try.prog.cellsOf 29)) = _ at f5
    change DataW.trod enc Try.prog w base spare held n' 29 (([c0, c1, c2, c3, c4, c5, c6, c7, c8].drop 6).take (Try.prog.cellsOf 29)) = _ at f6
    change DataW.trod enc Try.prog w base spare held n' 3 (([c0, c1, c2, c3, c4, c5, c6, c7, c8].drop 7).take (Try.prog.cellsOf 3)) = _ at f7
    change DataW.trod enc Try.prog w base spare held n' 3 (([c0, c1, c2, c3, c4, c5, c6, c7, c8].drop 8).take (Try.prog.cellsOf 3)) = _ at f8
    rw [k8, List.getElem?_eq_getElem (by omega)] at f0
    rw [k8, List.getElem?_eq_getElem (by omega)] at f1
    rw [k8, List.getElem?_eq_getElem (by omega)] at f2
    rw [k8, List.getElem?_eq_getElem (by omega)] at f3
    rw [kb, List.getElem?_eq_getElem (by omega)] at f4
    rw [k8, List.getElem?_eq_getElem (by omega)] at f5
    rw [k8, List.getElem?_eq_getElem (by omega)] at f6
    rw [ki, List.getElem?_eq_getElem (by omega)] at f7
    rw [ki, List.getElem?_eq_getElem (by omega)] at f8
    obtain ⟨v0, e0, _, w0⟩ := DataW.trod_int Try.underlying29 f0
    obtain ⟨v1, e1, _, w1⟩ := DataW.trod_int Try.underlying29 f1
    obtain ⟨v2, e2, _, w2⟩ := DataW.trod_int Try.underlying29 f2
    obtain ⟨v3, e3, _, w3⟩ := DataW.trod_int Try.underlying29 f3
    obtain ⟨v4, e4, _⟩ := DataW.trod_bool Try.underlying4 f4
    obtain ⟨v5, e5, _, w5⟩ := DataW.trod_int Try.underlying29 f5
    obtain ⟨v6, e6, _, w6⟩ := DataW.trod_int Try.underlying29 f6
    obtain ⟨v7, e7, _, w7⟩ := DataW.trod_int Try.underlying3 f7
    obtain ⟨v8, e8, _, w8⟩ := DataW.trod_int Try.underlying3 f8
    simp at e0 e1 e2 e3 e4 e5 e6 e7 e8
    subst e0 e1 e2 e3 e4 e5 e6 e7 e8
    exact ⟨⟨v0, v1, v2, v3, v4, v5, v6, v7, v8⟩, rfl, ⟨bd_i8 w0, bd_i8 w1, bd_i8 w2, bd_i8 w3, bd_i8 w5, bd_i8 w6, bd_i64 w7, bd_i64 w8⟩⟩

theorem ins_open {r : Reach} {b0 : Nat} {v : Value} {d : DataW H} {p : List MemPlace} {spare : Nat → Bool} (hv : Value.okWide Try.prog w r b0 55 v) (h : DataW.Trod enc Try.prog w base spare held 55 v d p) : ∃ y : In, v = .agg y.cells ∧ y.Ok := by
  obtain ⟨cs, rfl, hsz⟩ := okWide_struct Try.underlying55 hv
  obtain ⟨fuel, hf⟩ := h
  obtain ⟨y, hy, ok⟩ := ins_cells hf
  refine ⟨y, ?_, ok⟩
  have : cs = y.cells := by
    apply Array.ext'
    simpa [Value.cells] using hy
  rw [this]

theorem insts_open {fuel : Nat} {cs : List Value} {x : DataW H × List MemPlace} (h : DataW.trod enc Try.prog w base (fun _ => true) held fuel 22 cs = some x) :
    ∃ (a : Option Addr) (len cap : Nat) (xs : Nat → In), cs = [.slice a len cap] ∧ Insts w a len cap xs := by
  rcases open_slice Try.underlying22 h with ⟨rfl, _⟩ | ⟨a, len, cap, m, n, D, Pl, rfl, _, hl, hm, hmm, _, hi⟩
  · exact ⟨none, 0, 0, fun _ => In.nil, rfl, Nat.le_refl _, by omega, fun h => absurd h (by omega), fun i h => absurd h (by omega)⟩
  · have hm' : len ≤ m := by rw [hmm]; split <;> omega
    have k9 : Try.prog.cellsOf 55 = 9 := by kernel_rfl
    have spotless : 0 < len → a.spot = none := fun h0 => by
      obtain ⟨cs', hc, ht'⟩ := hi 0 (by omega)
      rw [k9] at hc
      obtain ⟨_, hcl, hat⟩ := World.cells?_some hc
      obtain ⟨y, rfl, _⟩ := ins_cells ht'
      obtain ⟨b, off, spot⟩ := a
      have c0 := hat 0 (by omega)
      simpa [Addr.add] using World.cell?_spot c0
    have key : ∀ i, ∃ y : In, i < len → w.rangeAt a.block (a.off + i * 9) y.cells.toList ∧ a.spot = none ∧ y.Ok := by
      intro i
      by_cases hlt : i < len
      · obtain ⟨cs', hc, ht'⟩ := hi i (by omega)
        rw [k9] at hc
        obtain ⟨_, hcl, hat⟩ := World.cells?_some hc
        obtain ⟨y, rfl, ok⟩ := ins_cells ht'
        refine ⟨y, fun _ => ?_⟩
        have hs := spotless (by omega)
        obtain ⟨b, off, spot⟩ := a
        simp only at hs
        subst hs
        refine ⟨fun j u hu => ?_, rfl, ok⟩
        have hj : j < 9 := (List.getElem?_eq_some_iff.1 hu).1
        have := hat j hj
        rw [Addr.add_mid, Addr.add_mid] at this
        exact this.trans hu
      · exact ⟨In.nil, fun h => absurd h hlt⟩
    refine ⟨some a, len, cap, fun i => (key i).choose, rfl, hl, by unfold maxLen at hm; omega, fun h0 => ?_, fun i hlt => ((key i).choose_spec hlt).2.2⟩
    obtain ⟨_, hs, _⟩ := (key 0).choose_spec h0
    refine ⟨a.block, a.off, ?_, fun i hlt => ((key i).choose_spec hlt).1⟩
    obtain ⟨b, off, spot⟩ := a
    simp at hs
    rw [hs]

theorem prog_open {r : Reach} {b0 : Nat} {v : Value} {d : DataW H} {p : List MemPlace} (hv : Value.okWide Try.prog w r b0 24 v) (h : DataW.Trod enc Try.prog w base (fun _ => true) held 24 v d p) :
    ∃ (c : Int) (a : Option Addr) (len cap : Nat) (xs : Nat → In), v = .agg #[.int .i64 c, .slice a len cap] ∧ (Lit.int .i64 c).wf = true ∧ Insts w a len cap xs := by
  obtain ⟨cs, rfl, hsz⟩ := okWide_struct Try.underlying24 hv
  obtain ⟨fuel, hf⟩ := h
  obtain ⟨ys, n', _, _, hlen, hyl, hg⟩ := DataW.trod_struct Try.underlying24 hf
  obtain ⟨l⟩ := cs
  have hl : l.length = 2 := by
    have := hsz.trans (show Try.prog.cellsOf 24 = 2 by kernel_rfl)
    simpa using this
  match l, hl with
  | [c0, c1], _ =>
    have ki : Try.prog.cellsOf 3 = 1 := by kernel_rfl
    have ks : Try.prog.cellsOf 22 = 1 := by kernel_rfl
    have hy2 : ys.length = 2 := hyl
    have f0 := hg 0 _ rfl
    have f1 := hg 1 _ rfl
    change DataW.trod enc Try.prog w base _ held n' 3 (([c0, c1].drop 0).take (Try.prog.cellsOf 3)) = _ at f0
    change DataW.trod enc Try.prog w base _ held n' 22 (([c0, c1].drop 1).take (Try.prog.cellsOf 22)) = _ at f1
    rw [ki, List.getElem?_eq_getElem (by omega)] at f0
    rw [ks, List.getElem?_eq_getElem (by omega)] at f1
    obtain ⟨c, e0, _, w0⟩ := DataW.trod_int Try.underlying3 f0
    obtain ⟨a, len, cap, xs, e1, hx⟩ := insts_open f1
    simp at e0 e1
    subst e0 e1
    exact ⟨c, a, len, cap, xs, rfl, w0, hx⟩
end
end Go.Proofs.Ythhgcbegcbhaeaa.Ins

namespace Go.Proofs.Ythhgcbegcbhaeaa.Trc
open Go.RowKit Go.ChangeShapes Go.WideShapes Go.Deep
set_option linter.unusedVariables false
set_option maxRecDepth 100000

section
variable {H : Type} {enc : TypeId × Value → H} {w : World} {base : Nat} {held : Bool}
theorem u64_bd {z : Int} (h : (Lit.int .u64 z).wf = true) : 0 ≤ z ∧ z < 18446744073709551616 := by
  have : 0 ≤ z ∧ z ≤ 18446744073709551615 := by simpa [Lit.wf, IntKind.min, IntKind.max, IntKind.bits, IntKind.signed] using h
  omega
theorem words_arg {r : Reach} {b0 : Nat} {v : Value} {d : DataW H} {p : List MemPlace} (hv : Value.okWide Try.prog w r b0 26 v) (h : DataW.Trod enc Try.prog w base (fun _ => true) held 26 v d p) :
    ∃ (a : Option Addr) (len cap : Nat) (zs : List Int), v = .slice a len cap ∧ (∀ z ∈ zs, 0 ≤ z ∧ z < 18446744073709551616) ∧ WordsAt w a len cap zs := by
  obtain ⟨a, len, cap, rfl⟩ := okWide_slice Try.underlying26 hv
  obtain ⟨fuel, hf⟩ := h
  rcases open_ints Try.underlying26 Try.underlying30 (by kernel_rfl) hf with ⟨hcs, _⟩ | ⟨x, l, c, zs, hcs, _, hl, hm, hz, _, hcell, hwz⟩
  · simp [Value.cells] at hcs
    obtain ⟨rfl, rfl, rfl⟩ := hcs
    exact ⟨none, 0, 0, [], rfl, fun z h => (by cases h), rfl, Nat.le_refl _, by omega, fun h => absurd h (by decide), fun _ => rfl⟩
  · simp [Value.cells] at hcs
    obtain ⟨rfl, rfl, rfl⟩ := hcs
    have hz' : zs.length = cap := by simpa using hz
    refine ⟨some x, len, cap, zs.take len, rfl, fun z h => u64_bd (hwz z (List.mem_of_mem_take h)), by rw [List.length_take]; omega, hl, by unfold maxLen at hm; omega, fun h0 => ?_, fun h => by cases h⟩
    have hs : x.spot = none := by
      have c0 := hcell 0 (by omega)
      obtain ⟨b, off, spot⟩ := x
      simpa [Addr.add] using World.cell?_spot c0
    obtain ⟨b, off, spot⟩ := x
    simp only at hs
    subst hs
    refine ⟨b, off, rfl, fun j z hj => ?_⟩
    rw [List.getElem?_take] at hj
    split at hj
    · have hlt := (List.getElem?_eq_some_iff.1 hj).1
      have := hcell j hlt
      rw [Addr.add_mid] at this
      rw [this, List.getD_eq_getElem?_getD, hj]; rfl
    · cases hj
end
end Go.Proofs.Ythhgcbegcbhaeaa.Trc

namespace Go.Proofs.Ythhgcbegcbhaeaa.Mdl
open Go.RowKit Go.Maps Ins Trc
set_option linter.unusedVariables false
set_option linter.unusedSimpArgs false
set_option maxRecDepth 100000

/-- The registers' cells. -/
def regsC (r : Nat → Int) : List Value := [.int .u64 (r 0), .int .u64 (r 1), .int .u64 (r 2), .int .u64 (r 3), .int .u64 (r 4), .int .u64 (r 5), .int .u64 (r 6), .int .u64 (r 7), .int .u64 (r 8), .int .u64 (r 9), .int .u64 (r 10)]
def frmL (g : Nat → Int) : List Value := bytesOf (fun i => g (258 + i)) 64
/-- A snap's cells. -/
def snapC (r : Nat → Int) (set : Int) (g : Nat → Int) : List Value := regsC r ++ .int .i64 set :: frmL g
def Pl.snap (D : Pl) : List Value := snapC D.r D.set D.mem.g
theorem snap_len (r : Nat → Int) (s : Int) (g : Nat → Int) : (snapC r s g).length = 76 := rfl
theorem info_snap : (Try.prog.info? 51).map (·.size) = some 76 := by kernel_rfl
theorem info_regsS : (Try.prog.info? 48).map (·.size) = some 11 := by kernel_rfl
def snapZ : Array Value := (snapC (fun _ => 0) 0 (fun _ => 0)).toArray
theorem zero_snap : (Try.prog.info? 51).map (fun i => (i.zero, i.size)) = some (some (.agg snapZ), 76) := by kernel_rfl
theorem built_snap (r : Nat → Int) (s : Int) (g : Nat → Int) : Try.prog.built 51 [(0, .agg (regsC r).toArray), (1, .int .i64 s), (2, .agg (frmL g).toArray)] = some (snapC r s g).toArray := by kernel_rfl
theorem snap_one (r : Nat → Int) (s : Int) (g : Nat → Int) : (snapC r s g).toArray.all (·.oneCell') = true := by kernel_rfl
theorem load_regs {g : Nat} {s : Mo} {w : World} (h : s.in_ w g) : (loadVar 48 ⟨g, 2, none⟩).run Try.prog w = .ok (.agg (regsC s.r).toArray) w := by
  refine run_loadVar_mid w g 2 48 (regsC s.r) _ (fun j v hj => ?_) Try.underlying48 rfl info_regsS
  have h2 : w.heap[g]? = some (.cells s.cells 76 (0, 0)) := h
  simp only [World.cell?, h2]
  have hl : j < 11 := (List.getElem?_eq_some_iff.1 hj).1
  have : j = 0 ∨ j = 1 ∨ j = 2 ∨ j = 3 ∨ j = 4 ∨ j = 5 ∨ j = 6 ∨ j = 7 ∨ j = 8 ∨ j = 9 ∨ j = 10 := by omega
  rcases this with rfl | rfl | rfl | rfl | rfl | rfl | rfl | rfl | rfl | rfl | rfl <;> exact hj

theorem below_trn2 {W w w' : World} {ge : Nat} (b : Below ge W w) (t : Trn [ge] w w') (h : ge ≤ w.heap.size) : Below ge W w' :=
  ⟨t.os.trans b.os, t.tape.trans b.tape, t.output.trans b.output, Nat.le_trans b.size t.size, fun k hk => (t.block k (by omega) (by simp; omega)).trans (b.block k hk)⟩
set_option maxHeartbeats 8000000 in
theorem snap_any (E : Env) (D : Pl) (W : World) (R : Rel E D W) :
    Calls Try.prog 26 #[.pointer (some ⟨E.g, 0, none⟩)] W fun e w' => e = .returned (.agg D.snap.toArray) ∧ Below W.heap.size W w' := by
  have hz := (zero_of_info zero_snap).1
  obtain ⟨av, tv, hin, hA, hT⟩ := R.st
  have hM := R.mm.at_
  clear hA hT R
  have FR := Lib.hid (fun w h => frame_any D.mem E.b w h)
  have Z0 := below_new (Below.refl W.heap.size W) (.cells snapZ 51)
  have r0 := heap_last W (.cells snapZ 51) _ rfl
  have hin0 := Mo.below hin Z0
  have hM0 := hM.below Z0
  clear hin hM
  go_enter Try.func26, Try.ntmps26
  go_wp2_with fail
  generalize W.alloc (.cells snapZ 51) = w1 at *
  have hlW := Z0.size
  generalize hge : W.heap.size = ge at *
  have HI := Lib.hid (fun w (b : Below w1.heap.size w1 w) => Mo.below hin0 b)
  have HM := Lib.hid (fun w (b : Below w1.heap.size w1 w) => hM0.below b)
  have H0 := Lib.hid (fun w (b : Below w1.heap.size w1 w) => brow b r0)
  have HL := Lib.hid (fun w (b : Below w1.heap.size w1 w) => load_regs (Mo.below hin0 b))
  have HS := Lib.hid (fun w (b : Below w1.heap.size w1 w) => (show w.cell? ⟨E.g, 13, none⟩ = some (.int .i64 D.set) by
    have h2 : w.heap[E.g]? = some (.cells (E.mo D av tv).cells 76 (0, 0)) := Mo.below hin0 b
    simp only [World.cell?, h2]; rfl))
  have HP := Lib.hid (fun w (b : Below w1.heap.size w1 w) => (show w.cell? ⟨E.g, 1, none⟩ = some (.pointer (some ⟨E.b, 0, none⟩)) by
    have h2 : w.heap[E.g]? = some (.cells (E.mo D av tv).cells 76 (0, 0)) := Mo.below hin0 b
    simp only [World.cell?, h2]; rfl))
  have ZZ := Lib.hid Z0
  clear hin0 hM0 r0 Z0
  refine wp_region_invl (SL [3, 7, 11, 12] 14 (fun w => Below w1.heap.size w1 w) (fun w => w.heap[ge]? = some (.cells D.snap.toArray 51 (0, 0)) ∧ Trn [ge] w1 w)) (TabQ [fun v => v = .pointer (some ⟨E.g, 0, none⟩), fun v => v = .pointer (some ⟨E.g, 0, none⟩), fun v => v = .pointer (some ⟨E.g, 2, none⟩), fun v => v = .agg (regsC D.r).toArray, fun v => v = .pointer (some ⟨E.g, 0, none⟩), fun v => v = .pointer (some ⟨E.g, 0, none⟩), fun v => v = .pointer (some ⟨E.g, 13, none⟩), fun v => v = .int .i64 D.set, fun v => v = .pointer (some ⟨E.g, 0, none⟩), fun v => v = .pointer (some ⟨E.g, 0, none⟩), fun v => v = .pointer (some ⟨E.g, 1, none⟩), fun v => v = .pointer (some ⟨E.b, 0, none⟩), fun v => v = .agg (frmL D.mem.g).toArray, fun v => v = .agg D.snap.toArray, fun _ => True]) (by kernel_rfl) (back_of (by kernel_rfl)) (dst_of (by kernel_rfl)) (in_of (by kernel_rfl)) (fun fl h => SL.start (h 14 (by decide)) (Below.drew (Below.refl _ _))) ?hop ?hq
  case hop =>
    intro i o a w fl ho hS hfi hdf hsz hrest hdone
    have t0 : a.tmps.getD 0 undef = .pointer (some ⟨E.g, 0, none⟩) := hrest 0 (not_of (by kernel_rfl))
    have t2 : a.tmps.getD 2 undef = .pointer (some ⟨ge, 0, none⟩) := hrest 2 (not_of (by kernel_rfl))
    have hs : a.tmps.size = 17 := hsz.trans rfl
    have hi : i < 15 := (Array.getElem?_eq_some_iff.1 ho).1
    clear hrest hsz hdf
    obtain rfl | rfl | rfl | rfl | rfl | rfl | rfl | rfl | rfl | rfl | rfl | rfl | rfl | rfl | rfl : i = 0 ∨ i = 1 ∨ i = 2 ∨ i = 3 ∨ i = 4 ∨ i = 5 ∨ i = 6 ∨ i = 7 ∨ i = 8 ∨ i = 9 ∨ i = 10 ∨ i = 11 ∨ i = 12 ∨ i = 13 ∨ i = 14 := by omega
    · obtain rfl := Option.some.inj (show some _ = some o from ho)
      refine wpOp_val (v := .pointer (some ⟨E.g, 0, none⟩)) (w' := w) rfl rfl ?_ ⟨_, rfl, ?_, hS.other (by decide)⟩
      · simp [execOp, Act.eval, t0]
      · rw [own_put rfl (by rw [hs]; omega)]; exact rfl
    · obtain rfl := Option.some.inj (show some _ = some o from ho)
      have s3 : a.tmps.getD 3 undef = .pointer (some ⟨E.g, 0, none⟩) := (hdone _ (Array.mem_of_getElem? (i := 0) rfl) rfl).2 _ rfl
      refine wpOp_val (v := .pointer (some ⟨E.g, 0, none⟩)) (w' := w) rfl rfl ?_ ⟨_, rfl, ?_, hS.other (by decide)⟩
      · simp [execOp, Act.eval, s3, go_sem]
      · rw [own_put rfl (by rw [hs]; omega)]; exact rfl
    · obtain rfl := Option.some.inj (show some _ = some o from ho)
      have s4 : a.tmps.getD 4 undef = .pointer (some ⟨E.g, 0, none⟩) := (hdone _ (Array.mem_of_getElem? (i := 0) rfl) rfl).2 _ rfl
      refine wpOp_val (v := .pointer (some ⟨E.g, 2, none⟩)) (w' := w) rfl rfl ?_ ⟨_, rfl, ?_, hS.other (by decide)⟩
      · simp [execOp, Act.eval, s4, go_sem]
      · rw [own_put rfl (by rw [hs]; omega)]; exact rfl
    · obtain rfl := Option.some.inj (show some _ = some o from ho)
      have s5 : a.tmps.getD 5 undef = .pointer (some ⟨E.g, 2, none⟩) := (hdone _ (Array.mem_of_getElem? (i := 0) rfl) rfl).2 _ rfl
      refine wpOp_val (v := .agg (regsC D.r).toArray) (w' := w) rfl rfl ?_ ⟨_, rfl, ?_, hS.other (by decide)⟩
      · simp [execOp, Act.eval, s5, Instr.loadAt, Instr.sureAddr, HL.out w (hS.was (i := 3) (by simp) hfi).2, Result.andThen_ok]; rfl
      · rw [own_put rfl (by rw [hs]; omega)]; exact rfl
    · obtain rfl := Option.some.inj (show some _ = some o from ho)
      refine wpOp_val (v := .pointer (some ⟨E.g, 0, none⟩)) (w' := w) rfl rfl ?_ ⟨_, rfl, ?_, hS.other (by decide)⟩
      · simp [execOp, Act.eval, t0]
      · rw [own_put rfl (by rw [hs]; omega)]; exact rfl
    · obtain rfl := Option.some.inj (show some _ = some o from ho)
      have s7 : a.tmps.getD 7 undef = .pointer (some ⟨E.g, 0, none⟩) := (hdone _ (Array.mem_of_getElem? (i := 0) rfl) rfl).2 _ rfl
      refine wpOp_val (v := .pointer (some ⟨E.g, 0, none⟩)) (w' := w) rfl rfl ?_ ⟨_, rfl, ?_, hS.other (by decide)⟩
      · simp [execOp, Act.eval, s7, go_sem]
      · rw [own_put rfl (by rw [hs]; omega)]; exact rfl
    · obtain rfl := Option.some.inj (show some _ = some o from ho)
      have s8 : a.tmps.getD 8 undef = .pointer (some ⟨E.g, 0, none⟩) := (hdone _ (Array.mem_of_getElem? (i := 0) rfl) rfl).2 _ rfl
      refine wpOp_val (v := .pointer (some ⟨E.g, 13, none⟩)) (w' := w) rfl rfl ?_ ⟨_, rfl, ?_, hS.other (by decide)⟩
      · simp [execOp, Act.eval, s8, go_sem]
      · rw [own_put rfl (by rw [hs]; omega)]; exact rfl
    · obtain rfl := Option.some.inj (show some _ = some o from ho)
      have s9 : a.tmps.getD 9 undef = .pointer (some ⟨E.g, 13, none⟩) := (hdone _ (Array.mem_of_getElem? (i := 0) rfl) rfl).2 _ rfl
      refine wpOp_val (v := .int .i64 D.set) (w' := w) rfl rfl ?_ ⟨_, rfl, ?_, hS.other (by decide)⟩
      · (have hc := HS.out w (hS.was (i := 7) (by simp) hfi).2; simp [execOp, Act.eval, s9, hc, go_sem])
      · rw [own_put rfl (by rw [hs]; omega)]; exact rfl
    · obtain rfl := Option.some.inj (show some _ = some o from ho)
      refine wpOp_val (v := .pointer (some ⟨E.g, 0, none⟩)) (w' := w) rfl rfl ?_ ⟨_, rfl, ?_, hS.other (by decide)⟩
      · simp [execOp, Act.eval, t0]
      · rw [own_put rfl (by rw [hs]; omega)]; exact rfl
    · obtain rfl := Option.some.inj (show some _ = some o from ho)
      have s11 : a.tmps.getD 11 undef = .pointer (some ⟨E.g, 0, none⟩) := (hdone _ (Array.mem_of_getElem? (i := 0) rfl) rfl).2 _ rfl
      refine wpOp_val (v := .pointer (some ⟨E.g, 0, none⟩)) (w' := w) rfl rfl ?_ ⟨_, rfl, ?_, hS.other (by decide)⟩
      · simp [execOp, Act.eval, s11, go_sem]
      · rw [own_put rfl (by rw [hs]; omega)]; exact rfl
    · obtain rfl := Option.some.inj (show some _ = some o from ho)
      have s12 : a.tmps.getD 12 undef = .pointer (some ⟨E.g, 0, none⟩) := (hdone _ (Array.mem_of_getElem? (i := 0) rfl) rfl).2 _ rfl
      refine wpOp_val (v := .pointer (some ⟨E.g, 1, none⟩)) (w' := w) rfl rfl ?_ ⟨_, rfl, ?_, hS.other (by decide)⟩
      · simp [execOp, Act.eval, s12, go_sem]
      · rw [own_put rfl (by rw [hs]; omega)]; exact rfl
    · obtain rfl := Option.some.inj (show some _ = some o from ho)
      have s13 : a.tmps.getD 13 undef = .pointer (some ⟨E.g, 1, none⟩) := (hdone _ (Array.mem_of_getElem? (i := 0) rfl) rfl).2 _ rfl
      refine wpOp_val (v := .pointer (some ⟨E.b, 0, none⟩)) (w' := w) rfl rfl ?_ ⟨_, rfl, ?_, hS.other (by decide)⟩
      · (have hc := HP.out w (hS.was (i := 11) (by simp) hfi).2; simp [execOp, Act.eval, s13, hc, go_sem])
      · rw [own_put rfl (by rw [hs]; omega)]; exact rfl
    · obtain rfl := Option.some.inj (show some _ = some o from ho)
      have s14 : a.tmps.getD 14 undef = .pointer (some ⟨E.b, 0, none⟩) := (hdone _ (Array.mem_of_getElem? (i := 0) rfl) rfl).2 _ rfl
      have h0 := hS.was (i := 12) (by simp) hfi
      refine wpOp_call (f := 46) (args := #[.pointer (some ⟨E.b, 0, none⟩)]) rfl rfl ?_ ?_
      · simp [go_sem, execOp, Act.eval, Deferred.ofValue, callFunc, Try.func46, Try.f46, s14, resolve, invoke]
      · refine (FR.out w (HM.out w h0.2)).mono ?_
        rintro e w' ⟨rfl, b9⟩
        refine ⟨_, rfl, _, rfl, ?_, SL.moved h0.1 (by decide) (h0.2.trans (b9.mono h0.2.size))⟩
        rw [own_put rfl (by rw [hs]; omega)]; exact rfl
    · obtain rfl := Option.some.inj (show some _ = some o from ho)
      have s6 : a.tmps.getD 6 undef = .agg (regsC D.r).toArray := (hdone _ (Array.mem_of_getElem? (i := 0) rfl) rfl).2 _ rfl
      have s10 : a.tmps.getD 10 undef = .int .i64 D.set := (hdone _ (Array.mem_of_getElem? (i := 1) rfl) rfl).2 _ rfl
      have s15 : a.tmps.getD 15 undef = .agg (frmL D.mem.g).toArray := (hdone _ (Array.mem_of_getElem? (i := 2) rfl) rfl).2 _ rfl
      refine wpOp_val (v := .agg D.snap.toArray) (w' := w) rfl rfl ?_ ⟨_, rfl, ?_, hS.other (by decide)⟩
      · exact exec_build rfl (parts3 (show a.eval _ = _ from s6) (show a.eval _ = _ from s10) (show a.eval _ = _ from s15)) (built_snap _ _ _)
      · rw [own_put rfl (by rw [hs]; omega)]; exact rfl
    · obtain rfl := Option.some.inj (show some _ = some o from ho)
      have s16 : a.tmps.getD 16 undef = .agg D.snap.toArray := (hdone _ (Array.mem_of_getElem? (i := 0) rfl) rfl).2 _ rfl
      have h0 := hS.atK hfi
      have hL : ∀ l ∈ [3, 7, 11, 12], fl l = true := by
        intro l hl
        simp only [List.mem_cons, List.not_mem_nil, or_false] at hl
        rcases hl with rfl | rfl | rfl | rfl
        · exact (hdone _ (Array.mem_of_getElem? (i := 5) rfl) rfl).1
        · exact (hdone _ (Array.mem_of_getElem? (i := 9) rfl) rfl).1
        · exact (hdone _ (Array.mem_of_getElem? (i := 13) rfl) rfl).1
        · exact (hdone _ (Array.mem_of_getElem? (i := 1) rfl) rfl).1
      refine wpOp_skp (w' := w.setRow ge D.snap.toArray) rfl rfl (exec_storeR 51 _ _ rfl ge D.snap.toArray ?_ ?_ (H0.out w h0) info_snap (by kernel_rfl) (snap_one _ _ _)) ⟨undef, rfl, trivial, SL.to hL ⟨(stored_setRow _ _ _ _ _ (H0.out w h0)).row, Trn.trans (Trn.of_below h0) ?_⟩⟩
      · simp [Act.eval, t2]
      · simp [Act.eval, s16]
      · have s := stored_setRow w ge D.snap.toArray _ _ (H0.out w h0)
        exact ⟨s.os, s.tape, s.output, by rw [s.size]; exact Nat.le_refl _, fun k _ hn => s.other k (by simpa using hn)⟩
  case hq =>
    intro u9 w9 fl hfl hS hR9
    have h2 := hS.done (hfl 14 (by decide))
    clear hR9 hS hfl
    rw [show outs _ u9 = [(3, u9 3), (4, u9 4), (5, u9 5), (6, u9 6), (7, u9 7), (8, u9 8), (9, u9 9), (10, u9 10), (11, u9 11), (12, u9 12), (13, u9 13), (14, u9 14), (15, u9 15), (16, u9 16)] by kernel_rfl]
    simp only [putAll, List.setIfInBounds_toArray, List.set_cons_zero, List.set_cons_succ]
    generalize u9 3 = x3
    generalize u9 4 = x4
    generalize u9 5 = x5
    generalize u9 6 = x6
    generalize u9 7 = x7
    generalize u9 8 = x8
    generalize u9 9 = x9
    generalize u9 10 = x10
    generalize u9 11 = x11
    generalize u9 12 = x12
    generalize u9 13 = x13
    generalize u9 14 = x14
    generalize u9 15 = x15
    generalize u9 16 = x16
    clear  u9
    have H2 := Lib.hid h2; clear h2
    go_wp2_with fail
    exact bodyPost_ret (v := .agg D.snap.toArray) (results_cell_row rfl _ _ ge _ D.snap.toArray _ _ rfl H2.out.1 Try.underlying51 rfl info_snap) rfl ⟨rfl, by rw [hge]; exact below_trn2 ZZ.out H2.out.2 hlW⟩
end Go.Proofs.Ythhgcbegcbhaeaa.Mdl

namespace Go.Proofs.Ythhgcbegcbhaeaa.Mdl
open Go.RowKit Go.Maps Ins Trc
set_option linter.unusedVariables false
set_option linter.unusedSimpArgs false
set_option maxRecDepth 100000

theorem info_model : (Try.prog.info? 76).map (·.size) = some 19 := by kernel_rfl
theorem info_pm : (Try.prog.info? 70).map (·.size) = some 1 := by kernel_rfl
theorem info_evsl : (Try.prog.info? 31).map (·.size) = some 1 := by kernel_rfl
theorem mo_one (s : Mo) (h1 : s.prog.oneCell' = true) (h2 : s.memo.oneCell' = true) (h3 : s.answers.oneCell' = true) (h4 : s.trace.oneCell' = true) : s.cells.all (·.oneCell') = true := by
  have hi : ∀ k n, (Value.int k n).oneCell' = true := fun _ _ => rfl
  simp [Mo.cells, h1, h2, h3, h4, hi]
def modelZ : Array Value := #[.slice none 0 0, .pointer none, .int .u64 0, .int .u64 0, .int .u64 0, .int .u64 0, .int .u64 0, .int .u64 0, .int .u64 0, .int .u64 0, .int .u64 0, .int .u64 0, .int .u64 0, .int .i64 0, .int .i64 0, .int .i64 0, .slice none 0 0, .slice none 0 0, .int .i8 0]
theorem zero_model : (Try.prog.info? 76).map (fun i => (i.zero, i.size)) = some (some (.agg modelZ), 19) := by kernel_rfl

def AgainIs (E : Env) (D : Pl) (W : World) (e : Ending) (w' : World) : Prop := ∃ g b, e = .returned (.pointer (some ⟨g, 0, none⟩)) ∧ W.heap.size ≤ g ∧ Below W.heap.size W w' ∧ Rel { E with g := g, b := b, β := W.heap.size } D w'
set_option maxHeartbeats 8000000 in
theorem again_any (E : Env) (D : Pl) (W : World) (R : Rel E D W) (he : D.evs = []) : Calls Try.prog 25 #[.pointer (some ⟨E.g, 0, none⟩)] W (AgainIs E D W) := by
  have hz := (zero_of_info zero_model).1
  obtain ⟨av, tv, hin, hA, hT⟩ := R.st
  obtain ⟨ta, tc, rfl, hev⟩ := hT.evs
  rw [he] at hev hin
  obtain ⟨hz0, aa, ca, rfl, hca, haw⟩ := hA
  have hM := R.mm
  have hcb := hM.code.lt
  have HP := Lib.hid R.pr
  have HW := Lib.hid R.words
  have HE := Lib.hid he
  have CP := Lib.hid (fun w (h : D.mem.at w E.b) h2 => copy_any D.mem E.b w h h2)
  have CE := Lib.hid (fun w (h : EvsAt w ta 0 tc []) => cloneE_any ta tc [] w w h (Below.refl _ _) (by simp))
  have HI := Lib.hid (show W.heap[E.g]? = some (.cells (E.mo D (.slice aa D.ans.length ca) (.slice ta 0 tc)).cells 76 (0, 0)) from hin)
  have HEV := Lib.hid hev
  have HM := Lib.hid hM
  have HAW := Lib.hid (show AnsR W (.slice aa D.ans.length ca) D.ans from ⟨hz0, aa, ca, rfl, hca, haw⟩)
  clear hin hT hev hM hz0 hca haw R he
  have hi := Lib.hid (show (Try.prog.info? 76).map (·.size) = some (E.mo D (.slice aa D.ans.length ca) (.slice ta 0 tc)).cells.size from info_model)
  go_enter Try.func25, Try.ntmps25
  go_wp2_with (first | (refine wpList_load_row rfl 76 _ rfl E.g rfl 76 (E.mo D (.slice aa D.ans.length ca) (.slice ta 0 tc)).cells (0, 0) _ HI.out Try.underlying76 rfl hi.out ?_) | (refine halt_store 76 _ _ rfl ?_))
  refine ⟨?_, trivial⟩
  refine wpList_store_is rfl 76 _ _ rfl W.heap.size (E.mo D (.slice aa D.ans.length ca) (.slice ta 0 tc)).cells rfl rfl 76 _ (heap_last _ _ _ rfl) hi.out rfl (mo_one _ rfl rfl rfl rfl) ?_
  intro w1 s1
  have b1 : Below W.heap.size W w1 := s1.below (below_new (Below.refl _ _) _) (Nat.le_refl _)
  have r1 := s1.row
  have z1 : W.heap.size < w1.heap.size := (Array.getElem?_eq_some_iff.1 r1).1
  have p1 : w1.cell? ⟨E.g, 1, none⟩ = some (.pointer (some ⟨E.b, 0, none⟩)) := by
    have := brow b1 HI.out
    simp only [World.cell?, this]; rfl
  have B1 := Lib.hid b1
  have R1 := Lib.hid r1
  clear s1 b1 r1
  go_wp2_with fail
  refine (CP.out w1 ((HM.out.at_).below B1.out) (by omega)).mono ?_
  rintro e w2 ⟨b, rfl, hb, b2, hS⟩
  have r2 := brow b2 R1.out
  have z2 := b2.size
  have B2 := Lib.hid (B1.out.trans (b2.mono B1.out.size))
  have S2 := Lib.hid hS
  have C2 := Lib.hid (HM.out.code.of_block (B2.out.block _ hcb))
  have hbl : b < w2.heap.size := hS.row.lt
  have hb' : W.heap.size ≤ b := by omega
  have R2 := Lib.hid r2
  clear b2 hS R1 B1 p1 r2
  go_wp2_with (with_reducible refine (halt_store 70 _ _ rfl ?_))
  refine ⟨?_, trivial⟩
  refine wpList_store_cell rfl 70 _ _ rfl W.heap.size 1 (.pointer (some ⟨b, 0, none⟩)) rfl rfl rfl rfl 76 _ R2.out info_pm (by show 1 < 19; decide) ?_
  intro w3 s3
  have r3 := s3.row
  have B3 := Lib.hid (s3.below B2.out (Nat.le_refl _))
  have S3 := Lib.hid (show D.mem.at w3 b from ⟨S2.out.row.of_block (s3.other b (by omega)), S2.out.cn, S2.out.n, S2.out.far, S2.out.bytes⟩)
  have C3 := Lib.hid (C2.out.of_block (s3.other _ (by omega)))
  have z3 : w3.heap.size = w2.heap.size := s3.size
  have q3 : w3.cell? ⟨E.g, 17, none⟩ = some (.slice ta 0 tc) := by
    have := brow B3.out HI.out
    simp only [World.cell?, this]; rfl
  have R3 := Lib.hid r3
  clear s3 r3 B2 S2 C2 R2
  go_wp2_with fail
  refine (CE.out w3 (HEV.out.below B3.out)).mono ?_
  rintro e w4 ⟨v, qs, rfl, hq, ow, _, b4⟩
  obtain rfl : qs = [] := by simpa using hq
  have R4 := Lib.hid (brow b4 R3.out)
  have B4 := Lib.hid (B3.out.trans (b4.mono B3.out.size))
  have S4 := Lib.hid (S3.out.below b4)
  have C4 := Lib.hid (C3.out.of_block (b4.block _ C3.out.lt))
  have O4 := Lib.hid ow
  have z4 := b4.size
  clear hq b4 R3 B3 S3 C3 q3 ow
  go_wp2_with (with_reducible refine (halt_store 31 _ _ rfl ?_))
  refine ⟨?_, trivial⟩
  obtain ⟨v1, v2⟩ := own_slice O4.out
  refine wpList_store_cell rfl 31 _ _ rfl W.heap.size 17 v rfl rfl v1 v2 76 _ R4.out info_evsl (by show 17 < 19; decide) ?_
  intro w5 s5
  have b5 := s5.below B4.out (Nat.le_refl _)
  have t5 : Trn [W.heap.size] w4 w5 := ⟨s5.os, s5.tape, s5.output, by rw [s5.size]; exact Nat.le_refl _, fun k _ hn => s5.other k (by simpa using hn)⟩
  have z5 : w5.heap.size = w4.heap.size := s5.size
  have FO := Lib.hid (show AgainIs E D W (.returned (.pointer (some ⟨W.heap.size, 0, none⟩))) w5 from ⟨W.heap.size, b, rfl, Nat.le_refl _, b5, by
    refine ⟨⟨.slice aa D.ans.length ca, v, s5.row, HAW.out.trn (show Trn [] W w5 from Trn.of_below b5) (fun j hj => by cases hj), [], HE.out.symm, ?_, fun p hp => by cases hp⟩, PrR.trn (E := { E with g := W.heap.size, b := b, β := W.heap.size }) HP.out (show Trn [] W w5 from Trn.of_below b5) (fun j hj => by cases hj), ⟨⟨S4.out.row.of_block (s5.other b (by omega)), S4.out.cn, S4.out.n, S4.out.far, S4.out.bytes⟩, C4.out.of_block (s5.other _ (by omega)), HM.out.kb⟩, HW.out, Nat.le_refl _, hb', by show W.heap.size ≤ _; omega⟩
    rw [HE.out]
    exact own_trn (own_base O4.out (show W.heap.size ≤ w3.heap.size by omega)) t5 (fun j hj hm => by
      have := (World.ownsRow.lt O4.out j hj).1
      rw [List.mem_singleton] at hm
      omega)⟩)
  clear s5 b5 t5 v1 v2
  go_wp2_with fail
  go_ret
  exact FO.out
end Go.Proofs.Ythhgcbegcbhaeaa.Mdl

namespace Go.Proofs.Ythhgcbegcbhaeaa.Mdl
open Go.RowKit Go.Shelf
set_option linter.unusedVariables false
set_option maxRecDepth 100000

section
variable {P : Program} {l n : Nat} {ops : Array Oper} {Q : Exit → Act → World → Prop} {rest : List Oper} {o : Oper} {a : Act} {w : World}
/-- The ways out of one operation: where it goes on, the rest is walked inside. -/
def viaQ (l n : Nat) (P : Program) (ops : Array Oper) (Q : Exit → Act → World → Prop) (rest : List Oper) : Exit → Act → World → Prop
  | .normal, a, w => wpListIn (Fence.wide.inRound l) n P ops Q rest a w
  | e, a, w => Q e a w
theorem in_of_upon {Q' : Exit → Act → World → Prop} {next : Act → World → Prop} (hq : ∀ a w, ¬ Q .outgrown a w) (hp : ∀ c a w, Q' (.panic c) a w → Q (.panic c) a w) (ho : ∀ a w, Q' .outgrown a w → Q .outgrown a w) :
    ∀ r, o.upon P a next Q' r → o.uponIn (Fence.wide.inRound l) n P a next Q r := by
  intro r h
  cases r with
  | ok x w' =>
    cases x with
    | value v => exact h
    | skip => exact h
    | defer d => exact h
    | enter f args =>
      refine ⟨fun _ => by simp [Fence.wide] at *, ?_⟩
      refine (callsIn_wide (n := n - 1)).2 (Calls.mono h ?_)
      rintro e w2 h2
      cases e with
      | returned v => exact h2
      | panicked chain => exact hp _ _ _ h2
      | outgrown =>
        obtain ⟨a, w, h3⟩ := h2
        exact absurd (ho _ _ h3) (hq _ _)
    | row row args =>
      refine ⟨fun _ => by simp [Fence.wide] at *, fun c cs _ => ?_⟩
      obtain ⟨v, w', r, s⟩ := h c cs
      exact ⟨v, w', r, (stepsIn_wide).2 s⟩
    | _ => exact h.elim
  | halt x w' =>
    cases x with
    | panic v => exact hp _ _ _ h
    | _ => exact h.elim
/-- One operation, by a law of the walk outside. -/
theorem wpListIn_via (hg : o.guard = none) (hd : ∀ c, o.op ≠ .defer c) (hq : ∀ a w, ¬ Q .outgrown a w)
    (h : wpList P ops (viaQ l n P ops Q rest) [o] a w) : wpListIn (Fence.wide.inRound l) n P ops Q (o :: rest) a w := by
  have hw : Region.wanted o (yielded ops a.tmps) = true := by simp [Region.wanted, hg]
  unfold wpListIn
  rw [if_pos hw]
  unfold wpList at h
  rw [if_pos hw] at h
  rcases h with h | h
  · refine ⟨fun _ _ => trivial, ?_⟩
    rw [show (Fence.wide.inRound l).round = some l from rfl, ← show (Fence.wide.inRound l).round = some l from rfl, Oper.semAt_plain _ _ _ hd]
    exact in_of_upon (Q' := viaQ l n P ops Q rest) hq (fun _ _ _ h => h) (fun _ _ h => h) _ h
  · obtain ⟨_, a, w, h⟩ := h
    exact absurd h (hq a w)
theorem in_of_list {Q' : Exit → Act → World → Prop} (hq : ∀ a w, ¬ Q .outgrown a w) (ho : ∀ a w, Q' .outgrown a w → Q .outgrown a w) (hp : ∀ c a w, Q' (.panic c) a w → Q (.panic c) a w) (hn : ∀ a w, Q' .normal a w → Q .normal a w) :
    ∀ (rest : List Oper), (∀ o ∈ rest, ∀ c, o.op ≠ .defer c) → ∀ a w, wpList P ops Q' rest a w → wpListIn (Fence.wide.inRound l) n P ops Q rest a w
  | [], _, a, w, h => hn a w h
  | o :: rest, hd, a, w, h => by
    unfold wpListIn
    unfold wpList at h
    by_cases hw : Region.wanted o (yielded ops a.tmps) = true
    · rw [if_pos hw] at h ⊢
      rcases h with h | h
      · refine ⟨fun _ _ => trivial, ?_⟩
        rw [Oper.semAt_plain _ _ _ (hd o List.mem_cons_self)]
        have h2 := in_of_upon (l := l) (n := n) (Q := Q) (Q' := Q') hq hp ho _ h
        revert h2
        generalize (execOp a.eval o).run P w = r
        intro h2
        have key : ∀ (nx nx' : Act → World → Prop), (∀ a w, nx a w → nx' a w) → ∀ r, o.uponIn (Fence.wide.inRound l) n P a nx Q r → o.uponIn (Fence.wide.inRound l) n P a nx' Q r := by
          intro nx nx' hx r h
          cases r with
          | ok x w' =>
            cases x with
            | value v => exact hx _ _ h
            | skip => exact hx _ _ h
            | defer d => exact hx _ _ h
            | enter f args =>
              refine ⟨h.1, ?_⟩
              refine (callsIn_wide (n := n - 1)).2 (Calls.mono ((callsIn_wide (n := n - 1)).1 h.2) ?_)
              rintro e w2 h2
              cases e with
              | returned v => exact hx _ _ h2
              | panicked chain => exact h2
              | outgrown => exact h2
            | row row args => exact ⟨h.1, RowsIn.mono h.2 (fun v w' h => hx _ _ h)⟩
            | round l f tmps assign body =>
              refine ⟨h.1, RoundIn.mono h.2 ?_⟩
              rintro e w2 h2
              cases e with
              | returned v => exact hx _ _ h2
              | panicked chain => exact h2
              | outgrown => exact h2
            | _ => exact h
          | halt x w' =>
            cases x with
            | panic v => exact h
            | _ => exact h
        exact key _ _ (fun a w h => in_of_list hq ho hp hn rest (fun o ho => hd o (List.mem_cons_of_mem _ ho)) a w h) _ h2
      · obtain ⟨_, a, w, h⟩ := h
        exact absurd (ho a w h) (hq a w)
    · rw [if_neg hw] at h ⊢
      exact ⟨fun _ _ => trivial, in_of_list hq ho hp hn rest (fun o ho => hd o (List.mem_cons_of_mem _ ho)) _ _ h⟩
def isDefer : Op → Bool
  | .defer _ => true
  | _ => false
theorem noDefer {ls : List Oper} (h : ls.all (fun o => !isDefer o.op) = true) : ∀ o ∈ ls, ∀ c, o.op ≠ .defer c := fun o ho c e => by
  have := List.all_eq_true.1 h o ho
  rw [e] at this
  simp [isDefer] at this
/-- A region of the body, walked as outside; behind it goes on the body. -/
theorem in_region_seq {id : Nat} {ls : List Oper} {y : Code} (hd : ls.all (fun o => !isDefer o.op) = true) (hq : ∀ a w, ¬ Q .outgrown a w)
    (h : ∀ K : Act → World → Prop, (∀ a w, y.wpIn (Fence.wide.inRound l) n P Q a w → K a w) → wpList P ls.toArray (Exit.then K (fun _ _ _ => False)) ls a w) : (Code.seq (Code.region id ls.toArray false) y).wpIn (Fence.wide.inRound l) n P Q a w := by
  refine wpIn_seq ?_
  refine wpIn_region_lit ?_
  exact in_of_list (Q := Exit.then (y.wpIn (Fence.wide.inRound l) n P Q) Q) (Q' := Exit.then (fun a w => y.wpIn (Fence.wide.inRound l) n P Q a w) (fun _ _ _ => False)) (fun a w h => hq a w h) (fun a w h => h.elim) (fun c a w h => h.elim) (fun a w h => h) _ (noDefer hd) a w (h _ (fun _ _ h => h))
theorem in_region {id : Nat} {ls : List Oper} (hd : ls.all (fun o => !isDefer o.op) = true) (hq : ∀ a w, ¬ Q .outgrown a w)
    (h : ∀ K : Act → World → Prop, (∀ a w, Q .normal a w → K a w) → wpList P ls.toArray (Exit.then K (fun _ _ _ => False)) ls a w) : (Code.region id ls.toArray false).wpIn (Fence.wide.inRound l) n P Q a w := by
  refine wpIn_region_lit ?_
  exact in_of_list (Q' := Exit.then (fun a w => Q .normal a w) (fun _ _ _ => False)) (fun a w h => hq a w h) (fun a w h => h.elim) (fun c a w h => h.elim) (fun a w h => h) _ (noDefer hd) a w (h _ (fun _ _ h => h))
end
end Go.Proofs.Ythhgcbegcbhaeaa.Mdl

namespace Go.Proofs.Ythhgcbegcbhaeaa.Mdl
open Go.RowKit Go.Maps Ins Trc
set_option linter.unusedVariables false
set_option linter.unusedSimpArgs false
set_option maxRecDepth 100000

/-- How often a place is in a row of places. -/
def cntP (l : List Int) (i : Nat) : Int := (l.count (i : Int) : Nat)
theorem cntP_app (l : List Int) (x : Int) (i : Nat) : cntP (l ++ [x]) i = cntP l i + (if (i : Int) = x then 1 else 0) := by
  unfold cntP
  rw [List.count_append, List.count_singleton]
  by_cases h : (i : Int) = x
  · rw [if_pos h, h]; simp
  · rw [if_neg h]
    have : (x == (i : Int)) = false := by simpa using fun e => h e.symm
    simp [this]
theorem cntP_le (l : List Int) (i : Nat) : 0 ≤ cntP l i ∧ cntP l i ≤ l.length := by
  unfold cntP
  have := List.count_le_length (a := (i : Int)) (l := l)
  omega
theorem cntP_take (l : List Int) (k i : Nat) : cntP (l.take k) i ≤ cntP l i := by
  unfold cntP
  have := (List.take_sublist k l).count_le (i : Int)
  omega
theorem ats_len (E : Env) (D : Pl) (k : Nat) : (ats E D k).length = k := by simp [ats]

theorem info_intV : (Try.prog.info? 3).map (·.size) = some 1 := by kernel_rfl
theorem info_intM : (Try.prog.info? 3).map (fun i => (i.zero, i.size, i.bytes)) = some (some (.int .i64 0), 1, 8) := by kernel_rfl
theorem info_intZ : ∃ i, Try.prog.info? 3 = some i ∧ i.zero = some (.int .i64 0) ∧ i.size = 1 ∧ i.bytes = 8 := by
  have h : (Try.prog.info? 3).map (fun i => (i.zero, i.size, i.bytes)) = some (some (.int .i64 0), 1, 8) := by kernel_rfl
  cases hi : Try.prog.info? 3 with
  | none => rw [hi] at h; simp at h
  | some i =>
    rw [hi] at h
    simp at h
    exact ⟨i, rfl, h.1, h.2.1, h.2.2⟩

theorem itsV_fuel (E : Env) (D : Pl) : ∀ k : Nat, (its E D k).fuel = D.fuel - k
  | 0 => by show D.fuel = D.fuel - (0 : Nat); omega
  | k + 1 => by
    show ((its E D k).step E.kf (E.x (its E D k).ix)).fuel = _
    rw [step_fuel, itsV_fuel E D k]; omega
theorem rowIs_own {β : Type} (B V n : Nat) (t : TypeId) (f : β → Nat → Value) : OwnFrom B (fun (s : β) W => W.rowIs V t n (f s)) := fun s w w' row h g hr => by
  obtain ⟨cur, e1, e2, e3⟩ := id h
  exact h.of_block (g.block V h.lt (fun e => by
    obtain ⟨_, o, ho, hc⟩ := hr V e.symm
    rw [e1] at ho
    injection ho with ho
    subst ho
    simp [Obj.isCells] at hc))
theorem rowIs_turn {τ : TypeId → Bool} {β V n : Nat} {t : TypeId} {f : Nat → Value} {A B : World} (h : A.rowIs V t n f) (k : TurnT τ β A B) (hn : τ t = false) : B.rowIs V t n f := by
  obtain ⟨cur, e1, e2, e3⟩ := id h
  exact h.of_block ((Turn.row k e1 hn).trans e1.symm)
theorem wpList_store_row1V {P : Program} {ops : Array Oper} {rest : List Oper} {o : Oper} {a : Act} {w : World} {Q : Exit → Act → World → Prop} (hgd : o.guard = none) (ty : TypeId) (x y : Operand) (ho : o.op = .store ty x y)
    (g i : Nat) (v : Value) (hx : a.eval x = .pointer (some ⟨g, i, none⟩)) (hy : a.eval y = v) (hv : v.cells = #[v]) (h1 : v.oneCell' = true)
    {t : TypeId} {n : Nat} {f : Nat → Value} (hr : w.rowIs g t n f) (hi : (P.info? ty).map (·.size) = some 1) (hlt : i < n)
    (h : ∀ w', w'.rowIs g t n (fun j => if j = i then v else f j) → Trn [g] w w' → wpList P ops Q rest (a.put o.dst undef) w') : wpList P ops Q (o :: rest) a w := by
  obtain ⟨cur, e1, e2, e3⟩ := id hr
  refine wpList_store_cell hgd ty x y ho g i v hx hy hv h1 t cur e1 hi (by omega) (fun w' s => h w' ?_ ⟨s.os, s.tape, s.output, by rw [s.size]; exact Nat.le_refl _, fun k hk hne => s.other k (by simpa using hne)⟩)
  refine ⟨_, s.row, by simp [e2], fun j hj => ?_⟩
  rw [Array.getElem?_setIfInBounds]
  by_cases e : i = j
  · subst e; rw [if_pos rfl, if_pos (by omega)]; show some v = some (if i = i then v else f i); rw [if_pos rfl]
  · rw [if_neg e]; show cur[j]? = some (if j = i then v else f j); rw [if_neg (Ne.symm e)]; exact e3 j hj
/-- What turned were blocks of other types: the body keeps its hands off. -/
theorem keepT_trn {σ : TypeId → Bool} {G : List Nat} {w w' : World} (t : Trn G w w') (h : ∀ j ∈ G, ∃ c ty fr, w.heap[j]? = some (.cells c ty fr) ∧ σ ty = false) : KeepT σ w w' := ⟨t.size, fun k o hk ho => t.row hk (fun hg => by
  obtain ⟨c, ty, fr, h1, h2⟩ := h k hg
  rw [hk] at h1
  injection h1 with h1
  subst h1
  change σ ty = true at ho
  rw [h2] at ho; cases ho)⟩
theorem keepsFrom_trn {G : List Nat} {B : Nat} {w w' : World} (t : Trn G w w') (h : ∀ j ∈ G, ∃ c ty fr, w.heap[j]? = some (.cells c ty fr)) : KeepsFrom B w w' := ⟨t.size, fun k o _ hk ho => t.row hk (fun hg => by
  obtain ⟨c, ty, fr, h1⟩ := h k hg
  rw [hk] at h1
  injection h1 with h1
  subst h1
  simp [Obj.isCells] at ho)⟩

theorem plain_env {E : Env} {x : Nat → In} {plen cb cl m : Nat} {cf : Nat → Int} {fuel : Int} {zs : List Int} (el : E.pl = plen) (ex : E.x = x) (hk : E.kf = fun _ => 0) (F : Fine E) (R : Runs E (ini cb cl cf fuel zs)) (hm : Done E (ini cb cl cf fuel zs) m) :
    Fine (env x plen) ∧ Runs (env x plen) (ini 0 cl cf fuel zs) ∧ Done (env x plen) (ini 0 cl cf fuel zs) m ∧ ats E (ini cb cl cf fuel zs) m = ats (env x plen) (ini 0 cl cf fuel zs) m := by
  subst el ex
  rw [ini_cb] at hm
  refine ⟨⟨Nat.le_refl _, F.len, F.may, F.ok, F.jumps, F.into, F.on⟩, ⟨R.lo, R.hi, R.few, R.fuel⟩, done_env hk _ cb m hm, ?_⟩
  unfold ats
  refine List.map_congr_left (fun j _ => ?_)
  show (its E ((ini 0 cl cf fuel zs).cb cb) j).at_ = _
  rw [its_env hk]; rfl

def VisIs (W : World) (x : Nat → In) (plen cl : Nat) (cf : Nat → Int) (fuel : Int) (zs : List Int) (e : Ending) (w' : World) : Prop :=
  ∃ (m V : Nat), Fine (env x plen) ∧ Runs (env x plen) (ini 0 cl cf fuel zs) ∧ Done (env x plen) (ini 0 cl cf fuel zs) m ∧ e = .returned (.slice (some ⟨V, 0, none⟩) plen plen) ∧
    w'.rowIs V 3 plen (fun i => .int .i64 (cntP (ats (env x plen) (ini 0 cl cf fuel zs) m) i)) ∧ W.heap.size ≤ V ∧ Below W.heap.size W w'

set_option maxHeartbeats 8000000 in
theorem visits_ok (c : Int) (b o plen pcap : Nat) (x : Nat → In) (ca : Option Addr) (cl cc : Nat) (cf : Nat → Int) (aa : Option Addr) (al ac tk : Nat) (zs : List Int) (fuel : Int) (W : World) (hI : Insts W (some ⟨b, o, none⟩) plen pcap x) (hS : Src W ca cl cc cf) (hA : WordsAt W aa al ac zs)
    (hchk : (checkI c plen x).2 = 0) (hlen : (cl : Int) = c) (f0 : 0 ≤ fuel) (f1 : fuel ≤ 10000) (htk : min (al : Int) fuel = (tk : Int)) (hal : al ≤ 1000) (hz : ∀ z ∈ zs, 0 ≤ z ∧ z < 18446744073709551616) :
    Calls Try.prog 14 #[.agg #[.int .i64 c, .slice (some ⟨b, o, none⟩) plen pcap], .slice ca cl cc, .slice aa al ac, .int .i64 fuel] W (VisIs W x plen cl cf fuel (zs.take tk)) := by
  obtain ⟨h1, h64, _⟩ := ends_facts hchk
  have hc := check_c hchk
  have htl : tk ≤ al := by omega
  have ST := Lib.hid (fun w (h : Below W.heap.size W w) => start_ok c b o plen pcap x ca cl cc cf aa al ac tk zs fuel w (hI.below h) (hS.below h) (hA.below h) hchk hlen (by omega) f0 f1 ⟨h1, h64⟩ htk hal htl hz)
  have FI := Lib.hid (fun (E : Env) e1 e2 e3 => fine_env hI hchk (E := E) e1 e2 e3)
  have RU := Lib.hid (fun (E : Env) (h : 1 ≤ E.pl) cb => ini_runs E cb cl cf fuel (zs.take tk) h f0 f1)
  clear hI hS hA hchk hlen hz htk
  generalize zs.take tk = ys at *
  have bx0 := below_new (Below.refl W.heap.size W) (.cells #[.int .i64 c, .slice (some ⟨b, o, none⟩) plen pcap] 24)
  have rz0 := heap_last W (.cells #[.int .i64 c, .slice (some ⟨b, o, none⟩) plen pcap] 24) _ rfl
  have hmf : ∀ (fn : Fn) (first cap : Array Value) (w : World), (Instr.makeFunc fn first cap).run Try.prog w = .ok (.func fn first cap) w := fun _ _ _ _ => rfl
  refine (callsIn_wide (n := 3)).1 (callsIn_of_wp_marks Try.func14 rfl trivial ?_ rfl)
  simp only [Try.ntmps14, List.size_toArray, List.length_cons, List.length_nil, Nat.reduceAdd, Nat.reduceSub, Array.replicate_succ, Array.replicate_zero, List.push_toArray, List.append_toArray, List.nil_append, List.cons_append]
  refine (wpIn_wide (n := 3)).2 ?_
  go_wp2_with fail
  generalize W.alloc (.cells #[.int .i64 c, .slice (some ⟨b, o, none⟩) plen pcap] 24) = w0 at *
  refine (ST.out _ bx0).mono ?_
  rintro e w1 ⟨E, cb, rfl, eb, ex, el, ec, ek, b1, R⟩
  have F := FI.out E ex el ec
  have RR := RU.out E (by omega) cb
  have rz1 := brow b1 rz0
  have bx1 := bx0.trans (b1.mono bx0.size)
  have hb : W.heap.size ≤ E.β := by rw [eb]; exact bx0.size
  have hp1 : w1.cell? ⟨W.heap.size, 1, none⟩ = some (.slice (some ⟨b, o, none⟩) plen pcap) := by simp only [World.cell?, rz1]; rfl
  have l1 := lt_of_cell hp1
  have hcap := Lib.hid ec
  have hmk : ∀ w, (Instr.makeSlice 43 (.int .i64 (plen : Int)) (.int .i64 (plen : Int))).run Try.prog w = .ok (.slice (some ⟨w.heap.size, 0, none⟩) plen plen) (w.alloc (.cells (madeCells #[.int .i64 0] plen) 3)) := fun w => run_make_row' (P := Try.prog) 43 3 (.int .i64 0) 8 Try.underlying43 info_intM rfl .i64 .i64 plen (by omega) (by omega) w
  have hz1 := bx1.size
  have R0 := Lib.hid (World.rowIs_made w1 (.int .i64 0) plen 3)
  have Z1 := below_new (Below.refl w1.heap.size w1) (.cells (madeCells #[Value.int .i64 0] plen) 3)
  have Z2 := below_new Z1 (.cells #[.slice (some ⟨w1.heap.size, 0, none⟩) plen plen] 43)
  have q1 := heap_last (w1.alloc (.cells (madeCells #[Value.int .i64 0] plen) 3)) (.cells #[.slice (some ⟨w1.heap.size, 0, none⟩) plen plen] 43) (w1.heap.size + 1) (by simp)
  have R1 := Lib.hid (R0.out.of_block (heap_past (w1.alloc (.cells (madeCells #[Value.int .i64 0] plen) 3)) (.cells #[.slice (some ⟨w1.heap.size, 0, none⟩) plen plen] 43) w1.heap.size (by simp)))
  have bx2 := bx1.trans (Z2.mono bx1.size)
  have SEQ := Lib.hid (run_seq E F (ini cb cl cf fuel ys) RR rfl 2 w1 R)
  have hB := Lib.hid Z2
  clear ST FI RU rz0 bx0 b1 eb ec rz1 R0 Z1 R bx1
  go_wp2_with fail
  generalize (w1.alloc (.cells (madeCells #[Value.int .i64 0] plen) 3)).alloc (.cells #[.slice (some ⟨w1.heap.size, 0, none⟩) plen plen] 43) = w2 at *
  have hsz2 := bx2.size
  have hsz1 := hz1
  generalize hV : w1.heap.size = V at *
  clear hmk hp1 l1
  refine (wpIn_wide (n := 3)).1 ?_
  refine range_T (by decide) (gf := 19) (pa := #[.pointer (some ⟨E.g, 0, none⟩)]) (lb := #[]) rfl (enters_of Try.func19 (by kernel_rfl) rfl) SEQ.out (by rw [hV]; exact hB.out) (fun _ => rfl)
    (fun pre w => Below W.heap.size W w ∧ w.heap[V + 1]? = some (.cells #[.slice (some ⟨V, 0, none⟩) plen plen] 43 (0, 0)) ∧ w.rowIs V 3 plen (fun i => .int .i64 (cntP pre i))) (fun _ _ _ => False)
    (OwnFrom.and (ownFrom_below (Nat.le_refl _) hsz2) (OwnFrom.and (row_own _ _ _ _) (rowIs_own _ _ _ _ (fun pre i => .int .i64 (cntP pre i))))) (Yr.own E _ _) (fun _ _ _ _ _ h _ _ => h)
    (fun _ A B h t => ⟨TurnT.below h.1 t hb (Nat.le_refl _), Turn.row t h.2.1 (by decide), rowIs_turn h.2.2 t (by decide)⟩) (fun _ _ _ _ h _ => h) (Sr.own E _ _) (Spr.own E _ _) ⟨bx2, q1, R1.out.congr (fun i _ => rfl)⟩ ?a1 ?assign ?body ?done ?stop
  case assign =>
    intro l x W K hK
    refine in_region (by decide) (fun _ _ h => h) ?_
    intro K2 hK2
    go_wp2_with fail
    exact hK
  case body =>
    rintro l pre x9 W9 ⟨i1, i2, i3⟩ ⟨k, y1, y2, rfl, rfl, y5⟩
    obtain ⟨ix, ie⟩ := (RR.its F k y1).ix
    have hlen := ats_len E (ini cb cl cf fuel ys) k
    have hfu : k ≤ 10000 := by
      have := itsV_fuel E (ini cb cl cf fuel ys) k
      have h2 : (ini cb cl cf fuel ys).fuel = fuel := rfl
      omega
    rw [el] at ix
    generalize hix : (its E (ini cb cl cf fuel ys) k).ix = j at *
    rw [ie]
    have hc := i3.cell (i := j) ix
    have hcn := cntP_le (ats E (ini cb cl cf fuel ys) k) j
    rw [hlen] at hcn
    have hb9 : W9.cell? ⟨V + 1, 0, none⟩ = some (.slice (some ⟨V, 0, none⟩) plen plen) := by simp only [World.cell?, i2]; rfl
    generalize hpre : ats E (ini cb cl cf fuel ys) k = pre at *
    have I3 := Lib.hid i3
    have I2 := Lib.hid i2
    have I1 := Lib.hid i1
    clear i3 i2 i1 hpre hix ie y1 y2 y5 F RR SEQ hB R1 q1 bx2 hlen hcap
    refine wpIn_block ?_
    refine in_region (by decide) (fun _ _ h => h) ?_
    intro K hK
    go_wp2_with (with_reducible refine (halt_store 3 _ _ rfl ?_))
    refine ⟨?_, trivial⟩
    refine wpList_store_row1V rfl 3 _ _ rfl V j (.int .i64 (cntP pre j + 1)) rfl rfl rfl rfl I3.out info_intV ix ?_
    intro w4 r4 t4
    have hty : ∃ c fr, W9.heap[V]? = some (.cells c 3 fr) := by
      obtain ⟨cur, e1, _, _⟩ := I3.out
      exact ⟨_, _, e1⟩
    obtain ⟨c4, fr4, hty⟩ := hty
    have FO := Lib.hid (show KeepsFrom w2.heap.size W9 w4 ∧ KeepT σM W9 w4 ∧ (Below W.heap.size W w4 ∧ w4.heap[V + 1]? = some (.cells #[.slice (some ⟨V, 0, none⟩) plen plen] 43 (0, 0)) ∧ w4.rowIs V 3 plen (fun i => .int .i64 (cntP (pre ++ [(j : Int)]) i))) from
      ⟨keepsFrom_trn t4 (fun q hq => by rw [List.mem_singleton] at hq; subst hq; exact ⟨_, _, _, hty⟩), keepT_trn t4 (fun q hq => by rw [List.mem_singleton] at hq; subst hq; exact ⟨_, _, _, hty, by decide⟩),
        below_trn I1.out t4 hsz1, t4.row I2.out (by simp), r4.congr (fun i hi => by
          show (if i = j then Value.int .i64 (cntP pre j + 1) else .int .i64 (cntP pre i)) = _
          rw [cntP_app]
          by_cases e : i = j
          · subst e; rw [if_pos rfl, if_pos rfl]
          · rw [if_neg e, if_neg (by omega)]; rw [Int.add_zero])⟩)
    exact hK _ _ FO.out
  case stop =>
    rintro D c pre W _ _ h _
    exact h.elim
  case done =>
    rintro D xs W9 hD ⟨m, hm, rfl, R9⟩ ⟨b9, r9, v9⟩ hK
    clear SEQ hB R1 q1 bx2
    have hc9 : W9.cell? ⟨V + 1, 0, none⟩ = some (.slice (some ⟨V, 0, none⟩) plen plen) := by simp only [World.cell?, r9]; rfl
    have V9 := Lib.hid v9
    have FO := Lib.hid (fun w' (k : Trn [D] W9 w') (hno : ∃ o, W9.heap[D]? = some o ∧ o.isCells = false) => show VisIs W x plen cl cf fuel ys (.returned (.slice (some ⟨V, 0, none⟩) plen plen)) w' from by
      obtain ⟨F9, R9', D9, A9⟩ := plain_env el ex ek F RR hm
      refine ⟨m, V, F9, R9', D9, rfl, ?_, hsz1, below_trn b9 k (by omega)⟩
      rw [← A9]
      obtain ⟨cur, e1, _, _⟩ := V9.out
      exact V9.out.of_block (k.block V V9.out.lt (fun hq => by
        rw [List.mem_singleton] at hq; subst hq
        obtain ⟨o, ho, hc⟩ := hno
        rw [e1] at ho
        injection ho with ho
        subst ho
        simp [Obj.isCells] at hc)))
    clear R9 v9 b9 r9 F RR hm
    go_wp2_with fail
    exact ⟨by simp, .inl ⟨_, _, rfl, run_takeDeferred hK, _, res_t rfl rfl, FO.out _ ⟨rfl, rfl, rfl, by simp [World.putObj], fun k _ hn => World.putObj_heap_other (by simpa using hn)⟩ ⟨_, hK, rfl⟩⟩⟩
end Go.Proofs.Ythhgcbegcbhaeaa.Mdl

namespace Go.Proofs.Ythhgcbegcbhaeaa.Mdl
open Go.RowKit Go.Maps Ins Trc
set_option linter.unusedVariables false
set_option linter.unusedSimpArgs false
set_option maxRecDepth 100000

/-- The iterator that Each hands back: where it keeps the error and the first state. -/
def eachV (eB gB : Nat) : Value := .func (.func 24) #[] #[.pointer (some ⟨eB, 0, none⟩), .pointer (some ⟨gB, 0, none⟩)]
def EachIs (W : World) (x : Nat → In) (plen cl : Nat) (cf : Nat → Int) (fuel : Int) (zs : List Int) (e : Ending) (w' : World) : Prop :=
  ∃ (E : Env) (cb eB gB : Nat), e = .returned (eachV eB gB) ∧ E.x = x ∧ E.pl = plen ∧ E.pl ≤ E.pc ∧ E.kf = (fun _ => 0) ∧ W.heap.size ≤ eB ∧ W.heap.size ≤ gB ∧ w'.heap[eB]? = some (.cells #[.int .i64 0] 34 (0, 0)) ∧
    w'.heap[gB]? = some (.cells #[.pointer (some ⟨E.g, 0, none⟩)] 59 (0, 0)) ∧ Below W.heap.size W w' ∧ Rel E (ini cb cl cf fuel zs) w'

set_option maxHeartbeats 8000000 in
theorem each_ok (c : Int) (b o plen pcap : Nat) (x : Nat → In) (ca : Option Addr) (cl cc : Nat) (cf : Nat → Int) (aa : Option Addr) (al ac tk : Nat) (zs : List Int) (fuel : Int) (W : World) (hI : Insts W (some ⟨b, o, none⟩) plen pcap x) (hS : Src W ca cl cc cf) (hA : WordsAt W aa al ac zs)
    (hchk : (checkI c plen x).2 = 0) (hlen : (cl : Int) = c) (f0 : 0 ≤ fuel) (f1 : fuel ≤ 10000) (htk : min (al : Int) fuel = (tk : Int)) (hal : al ≤ 1000) (hz : ∀ z ∈ zs, 0 ≤ z ∧ z < 18446744073709551616) :
    Calls Try.prog 15 #[.agg #[.int .i64 c, .slice (some ⟨b, o, none⟩) plen pcap], .slice ca cl cc, .slice aa al ac, .int .i64 fuel] W (EachIs W x plen cl cf fuel (zs.take tk)) := by
  obtain ⟨h1, h64, _⟩ := ends_facts hchk
  have hc := check_c hchk
  have htl : tk ≤ al := by omega
  have ST := Lib.hid (fun w (h : Below W.heap.size W w) => start_ok c b o plen pcap x ca cl cc cf aa al ac tk zs fuel w (hI.below h) (hS.below h) (hA.below h) hchk hlen (by omega) f0 f1 ⟨h1, h64⟩ htk hal htl hz)
  clear hI hS hA hchk hlen hz htk
  generalize zs.take tk = ys at *
  have bx0 := below_new (Below.refl W.heap.size W) (.cells #[.int .i64 c, .slice (some ⟨b, o, none⟩) plen pcap] 24)
  have hmf : ∀ (fn : Fn) (first cap : Array Value) (w : World), (Instr.makeFunc fn first cap).run Try.prog w = .ok (.func fn first cap) w := fun _ _ _ _ => rfl
  go_enter Try.func15, Try.ntmps15
  go_wp2_with fail
  generalize W.alloc (.cells #[.int .i64 c, .slice (some ⟨b, o, none⟩) plen pcap] 24) = w0 at *
  refine (ST.out _ bx0).mono ?_
  rintro e w1 ⟨E, cb, rfl, eb, ex, el, ec, ek, b1, R⟩
  have bx1 := Lib.hid (bx0.trans (b1.mono bx0.size))
  have z1 := bx1.out.size
  have R1 := Lib.hid R
  clear ST bx0 b1 eb R
  go_wp2_with fail
  go_ret
  have q1 := heap_past (w1.alloc (.cells #[.pointer (some ⟨E.g, 0, none⟩)] 59)) (.cells #[.int .i64 0] 34) w1.heap.size (by simp)
  have b2 := below_new (below_new (Below.refl w1.heap.size w1) (.cells #[.pointer (some ⟨E.g, 0, none⟩)] 59)) (.cells #[.int .i64 0] 34)
  exact ⟨E, cb, w1.heap.size + 1, w1.heap.size, rfl, ex, el, ec, ek, by omega, z1, heap_last _ _ _ (by simp), q1.trans (heap_last w1 _ _ rfl), bx1.out.trans (b2.mono z1), (R1.out.still b2).1⟩

def EachNo (r : Int) (W : World) (e : Ending) (w' : World) : Prop :=
  ∃ (eB gB : Nat), e = .returned (eachV eB gB) ∧ W.heap.size ≤ eB ∧ w'.heap[eB]? = some (.cells #[.int .i64 r] 34 (0, 0)) ∧ Below W.heap.size W w'
set_option maxHeartbeats 8000000 in
theorem each_bad (r : Int) (hr : ¬ r = 0) (c : Int) (pa : Option Addr) (plen pcap : Nat) (ca : Option Addr) (cl cc : Nat) (aa : Option Addr) (al ac : Nat) (fuel : Int) (W : World)
    (ST : ∀ w, Below W.heap.size W w → Calls Try.prog 18 #[.agg #[.int .i64 c, .slice pa plen pcap], .slice ca cl cc, .slice aa al ac, .int .i64 fuel] w fun e w' => e = .returned (.tuple #[.pointer none, .int .i64 r]) ∧ Below w.heap.size w w') :
    Calls Try.prog 15 #[.agg #[.int .i64 c, .slice pa plen pcap], .slice ca cl cc, .slice aa al ac, .int .i64 fuel] W (EachNo r W) := by
  have ST := Lib.hid ST
  have bx0 := below_new (Below.refl W.heap.size W) (.cells #[.int .i64 c, .slice pa plen pcap] 24)
  have hmf : ∀ (fn : Fn) (first cap : Array Value) (w : World), (Instr.makeFunc fn first cap).run Try.prog w = .ok (.func fn first cap) w := fun _ _ _ _ => rfl
  clear hr
  go_enter Try.func15, Try.ntmps15
  go_wp2_with fail
  generalize W.alloc (.cells #[.int .i64 c, .slice pa plen pcap] 24) = w0 at *
  refine (ST.out _ bx0).mono ?_
  rintro e w1 ⟨rfl, b1⟩
  have bx1 := Lib.hid (bx0.trans (b1.mono bx0.size))
  have z1 := bx1.out.size
  clear ST bx0 b1
  go_wp2_with fail
  go_ret
  have b2 := below_new (below_new (Below.refl w1.heap.size w1) (.cells #[.pointer none] 59)) (.cells #[.int .i64 r] 34)
  exact ⟨w1.heap.size + 1, w1.heap.size, rfl, by omega, heap_last _ _ _ (by simp), bx1.out.trans (b2.mono z1)⟩
end Go.Proofs.Ythhgcbegcbhaeaa.Mdl

namespace Go.Proofs.Ythhgcbegcbhaeaa.Mdl
open Go.RowKit Go.Shelf
set_option linter.unusedVariables false
set_option maxRecDepth 100000

section
variable {P : Program} {τ σ : TypeId → Bool} {β n : Nat} {α : Type}
/-- A step of the iterator: of what lay ahead of γ, only blocks of the types from β on may have turned. -/
structure TurnG (τ : TypeId → Bool) (β γ : Nat) (A B : World) : Prop where
  os : B.os = A.os
  tape : B.tape = A.tape
  output : B.output = A.output
  size : A.heap.size ≤ B.heap.size
  same : ∀ (k : Nat) (o : Obj), A.heap[k]? = some o → k < γ → (k < β ∨ isT τ o = false) → B.heap[k]? = some o
def AbG (τ : TypeId → Bool) (β γ : Nat) (J : List α → World → Prop) : Prop := ∀ s A B, J s A → TurnG τ β γ A B → J s B
def SeqG (τ σ : TypeId → Bool) (β n : Nat) (P : Program) (g : Nat) (pa lb : Array Value) (encs : α → Array Value) (Y : List α → α → World → Prop) (S Sp : List α → World → Prop) (w : World) : Prop :=
  ∀ (l : Nat) (J Jx : List α → World → Prop) (W : World), Below w.heap.size w W → AbG τ β W.heap.size J → AbG τ β W.heap.size Jx →
    (∀ pre x W1, J pre W1 → Y pre x W1 → YieldAt Fence.wide (n - 1) P l (encs x) W1 fun e W' =>
      (e = .returned (.bool true) ∧ J (pre ++ [x]) W' ∧ KeepT σ W1 W' ∧ KeepsFrom W.heap.size W1 W') ∨ (e = .returned (.bool false) ∧ Jx (pre ++ [x]) W' ∧ KeepT σ W1 W' ∧ KeepsFrom W.heap.size W1 W')) →
    J [] W →
    CallsIn Fence.wide n P g (pa ++ #[.func (.yield l) #[] #[]] ++ lb) W fun e W' => (∃ v, e = .returned v) ∧ ((∃ xs, S xs W' ∧ J xs W') ∨ (∃ pre, Sp pre W' ∧ Jx pre W'))
theorem Book.turnG {l D γ : Nat} {rec : Loop} {A B : World} (h : Book l D rec A) (t : TurnG τ β γ A B) (hl : l < γ) (hD : D < γ) : Book l D rec B := ⟨t.same _ _ h.loop hl (.inr rfl), t.same _ _ h.defers hD (.inr rfl)⟩
theorem TurnG.row {γ : Nat} {A B : World} (t : TurnG τ β γ A B) {g : Nat} {c : Array Value} {ty : TypeId} {fr : Nat × Nat} (h : A.heap[g]? = some (.cells c ty fr)) (hg : g < γ) (hn : τ ty = false) : B.heap[g]? = some (.cells c ty fr) := t.same g _ h hg (.inr hn)
theorem TurnG.of_T {β' γ : Nat} {A B : World} (t : TurnT τ β' A B) (h : γ ≤ β') : TurnG τ β γ A B := ⟨t.os, t.tape, t.output, t.size, fun k o hk hg _ => t.same k o hk (.inl (by omega))⟩
theorem TurnG.of_below {γ : Nat} {A B : World} (b : Below A.heap.size A B) : TurnG τ β γ A B := ⟨b.os, b.tape, b.output, b.size, fun k o hk _ _ => (b.block k (Array.getElem?_eq_some_iff.1 hk).1).trans hk⟩
theorem TurnG.of_grown {γ : Nat} {A B : World} {row : Option Nat} (g : A.grownBy B row) (h : ∀ j, row = some j → γ ≤ j) : TurnG τ β γ A B := ⟨g.os, g.tape, g.output, g.size, fun k o hk hg _ => (g.block k (Array.getElem?_eq_some_iff.1 hk).1 (fun e => by have := h k e.symm; omega)).trans hk⟩
theorem AbG.own {γ B : Nat} {J : List α → World → Prop} (h : AbG τ β γ J) (hB : γ ≤ B) : OwnFrom B J := fun s X Y row hs hg hr => h s X Y hs (.of_grown hg (fun j e => Nat.le_trans hB (hr j e).1))
theorem TurnG.below {γ m : Nat} {w0 A B : World} (b : Below m w0 A) (t : TurnG τ β γ A B) (h : m ≤ β) (hg : m ≤ γ) (hn : m ≤ w0.heap.size) : Below m w0 B :=
  ⟨t.os.trans b.os, t.tape.trans b.tape, t.output.trans b.output, Nat.le_trans b.size t.size, fun k hk => by
    have e1 := b.block k hk
    have hlt : k < w0.heap.size := by omega
    have e2 := Array.getElem?_eq_getElem hlt
    rw [e2] at e1 ⊢
    exact t.same k _ e1 (by omega) (.inl (by omega))⟩

/-- One round, told of the loop's record. -/
theorem round_G {l D B m γ : Nat} {fn : FuncId} {tmps : Array Value} {ps : Array Tmp} {assign body : Code} {dd : Nat} {encs : α → Array Value} {Y : List α → α → World → Prop} {I : List α → World → Prop} {Ix : Code → List α → World → Prop} {a₁ : α → Act}
    (hlγ : l < γ) (hBγ : B ≤ γ) (hlD : l ≠ D) (hlB : B ≤ l) (hDB : B ≤ D) (hI : OwnFrom B I) (hY : ∀ x, OwnFrom B (fun pre => Y pre x)) (hIx : ∀ c, OwnFrom B (Ix c)) (hps : ∀ x, (encs x).size = ps.size)
    (hassign : ∀ (x : α) (W : World) (K : Act → World → Prop), K (a₁ x) W → assign.wpIn (Fence.wide.inRound l) m P (Exit.then K (fun _ _ _ => False)) { tmps := (ps.zip (encs x)).foldl (fun t (p, v) => t.setIfInBounds p v) tmps, defers := [] } W)
    (hbody : ∀ (pre : List α) (x : α) (W : World), I pre W → Y pre x W → body.wpIn (Fence.wide.inRound l) m P (leftT σ B I Ix (pre ++ [x]) W) (a₁ x) W)
    (pre : List α) (x : α) (W : World) (hi : I pre W) (hy0 : Y pre x W) (hk : Book l D { state := .ready, pending := none, fn, tmps, params := ps, assign, body, defers := dd } W) :
    YieldAt Fence.wide m P l (encs x) W fun e W' =>
      (e = .returned (.bool true) ∧ (I (pre ++ [x]) W' ∧ Book l D { state := .ready, pending := none, fn, tmps, params := ps, assign, body, defers := dd } W') ∧ KeepT σ W W' ∧ KeepsFrom γ W W') ∨
      (e = .returned (.bool false) ∧ (∃ c, Ix c (pre ++ [x]) W' ∧ Book l D { state := .done, pending := some c, fn, tmps, params := ps, assign, body, defers := dd } W') ∧ KeepT σ W W' ∧ KeepsFrom γ W W') := by
  obtain ⟨rec, hrec⟩ : ∃ rec : LoopState → Option Code → Loop, rec = fun st pe => { state := st, pending := pe, fn, tmps, params := ps, assign, body, defers := dd } := ⟨_, rfl⟩
  have hk' : Book l D (rec .ready none) W := by rw [hrec]; exact hk
  have hy := run_yield (P := P) (args := encs x) hk.loop (hps x)
  refine ⟨fn, _, assign, body, hy, roundIn_of_wpIn trivial (hassign x W _ ⟨_, run_beginRound hk.loop rfl, ?_⟩)⟩
  have b2 : Book l D (rec .busy none) (W.putObj l (.loop (rec .busy none))) := hk'.put hlD _
  have w2 : KeepT σ W (W.putObj l (.loop (rec .busy none))) := KeepT.putObj _ hk.loop rfl
  have i2 : I pre (W.putObj l (.loop (rec .busy none))) := hI.putObj _ hi hlB hk.loop rfl
  have y2 : Y pre x (W.putObj l (.loop (rec .busy none))) := (hY x).putObj _ hy0 hlB hk.loop rfl
  have e2 : W.putObj l (.loop (rec .busy none)) = W.putObj l (.loop { state := .busy, pending := none, fn, tmps, params := ps, assign, body, defers := dd }) := by rw [hrec]
  rw [← e2]
  refine wpIn_mono (hbody pre x _ i2 y2) ?_
  clear e2
  -- what stands behind the body, whatever its way out
  have fin : ∀ (jump : Option Code) (W3 : World), KeepsFrom B (W.putObj l (.loop (rec .busy none))) W3 → KeepT σ (W.putObj l (.loop (rec .busy none))) W3 →
      (Instr.endRound l jump).run P W3 = .ok (.bool jump.isNone) (W3.putObj l (.loop (rec (if jump.isNone then .ready else .done) jump))) ∧ Book l D (rec .busy none) W3 ∧
      Book l D (rec (if jump.isNone then .ready else .done) jump) (W3.putObj l (.loop (rec (if jump.isNone then .ready else .done) jump))) ∧ KeepT σ W (W3.putObj l (.loop (rec (if jump.isNone then .ready else .done) jump))) ∧ KeepsFrom γ W (W3.putObj l (.loop (rec (if jump.isNone then .ready else .done) jump))) := by
    intro jump W3 hk3 ht3
    have b3 := b2.keeps hk3 hlB hDB
    have r3 := run_endRound (P := P) jump b3.loop
    have g3 : KeepsFrom γ W (W3.putObj l (.loop (rec (if jump.isNone then .ready else .done) jump))) := ⟨by
      have h1 := hk3.size
      have h2 : (W.putObj l (.loop (rec .busy none))).heap.size = W.heap.size := by simp [World.putObj]
      have h3 : (W3.putObj l (.loop (rec (if jump.isNone then .ready else .done) jump))).heap.size = W3.heap.size := by simp [World.putObj]
      omega, fun k o hk h ho => (World.putObj_heap_other (by omega)).trans (hk3.same k o (by omega) ((World.putObj_heap_other (by omega)).trans h) ho)⟩
    refine ⟨?_, b3, b3.put hlD _, w2.trans (ht3.trans (KeepT.putObj _ b3.loop rfl)), g3⟩
    rw [hrec] at r3 ⊢
    exact r3
  rintro e a3 W3 hp
  cases e with
  | normal =>
    obtain ⟨hk3, ht3, hi3⟩ := hp
    obtain ⟨r3, b3, b4, t4, g4⟩ := fin none W3 hk3 ht3
    refine ⟨_, _, r3, .inl ⟨rfl, ⟨hI.putObj _ hi3 hlB b3.loop rfl, ?_⟩, t4, g4⟩⟩
    rw [hrec] at b4 ⊢
    exact b4
  | ret =>
    obtain ⟨hk3, ht3, hi3⟩ := hp
    obtain ⟨r3, b3, b4, t4, g4⟩ := fin (some .ret) W3 hk3 ht3
    refine ⟨_, _, r3, .inr ⟨rfl, ⟨.ret, (hIx _).putObj _ hi3 hlB b3.loop rfl, ?_⟩, t4, g4⟩⟩
    rw [hrec] at b4 ⊢
    exact b4
  | exit id =>
    obtain ⟨hk3, ht3, hi3⟩ := hp
    obtain ⟨r3, b3, b4, t4, g4⟩ := fin (some (.exit id)) W3 hk3 ht3
    refine ⟨_, _, r3, .inr ⟨rfl, ⟨.exit id, (hIx _).putObj _ hi3 hlB b3.loop rfl, ?_⟩, t4, g4⟩⟩
    rw [hrec] at b4 ⊢
    exact b4
  | goto t =>
    obtain ⟨hk3, ht3, hi3⟩ := hp
    obtain ⟨r3, b3, b4, t4, g4⟩ := fin (some (.goto t)) W3 hk3 ht3
    refine ⟨_, _, r3, .inr ⟨rfl, ⟨.goto t, (hIx _).putObj _ hi3 hlB b3.loop rfl, ?_⟩, t4, g4⟩⟩
    rw [hrec] at b4 ⊢
    exact b4
  | panic ch => exact hp.elim
  | outgrown => exact hp.elim

/-- **The law**: outside every other loop; the fence is the wide one. -/
theorem range_G {g : Operand} {ps : Array Tmp} {assign body : Code} {Q : Exit → Act → World → Prop} {a : Act} {w w0 : World} (h1 : 1 ≤ n) {gf : Nat} {pa lb : Array Value}
    (hg : a.eval g = .func (.func gf) pa lb) (eg : ∀ args w, (callFunc gf args).run P w = .ok (.enter gf args) w) {encs : α → Array Value} {Y : List α → α → World → Prop} {S Sp : List α → World → Prop}
    (hseq : SeqG τ σ β (n - 1) P gf pa lb encs Y S Sp w0) (hb0 : Below w0.heap.size w0 w) (hps : ∀ x, (encs x).size = ps.size) (I : List α → World → Prop) (Ix : Code → List α → World → Prop)
    (hI : OwnFrom w.heap.size I) (hY : ∀ x, OwnFrom w.heap.size (fun pre => Y pre x)) (hIx : ∀ c, OwnFrom w.heap.size (Ix c)) (hT : ∀ γ, w.heap.size ≤ γ → AbG τ β γ I) (hTx : ∀ γ c, w.heap.size ≤ γ → AbG τ β γ (Ix c)) (hS : OwnFrom w.heap.size S) (hSp : OwnFrom w.heap.size Sp) (h0 : I [] w) (a₁ : α → Act)
    (hassign : ∀ (l : Nat) (x : α) (W : World) (K : Act → World → Prop), K (a₁ x) W → assign.wpIn (Fence.wide.inRound l) (n - 1 - 1) P (Exit.then K (fun _ _ _ => False)) { tmps := (ps.zip (encs x)).foldl (fun t (p, v) => t.setIfInBounds p v) a.tmps, defers := [] } W)
    (hbody : ∀ (l : Nat) (pre : List α) (x : α) (W : World), I pre W → Y pre x W → body.wpIn (Fence.wide.inRound l) (n - 1 - 1) P (leftT σ w.heap.size I Ix (pre ++ [x]) W) (a₁ x) W)
    (hdone : ∀ (D : Nat) (xs : List α) (W : World), w.heap.size ≤ D → S xs W → I xs W → W.heap[D]? = some (.deferred (some [])) → Q .normal { a with defers := { target := .collected D, args := #[] } :: a.defers } W)
    (hstop : ∀ (D : Nat) (c : Code) (pre : List α) (W : World), w.heap.size ≤ D → Sp pre W → Ix c pre W → W.heap[D]? = some (.deferred (some [])) → c.wpIn Fence.wide n P Q { a with defers := { target := .collected D, args := #[] } :: a.defers } W) :
    (Code.rangeFunc g ps assign body).wpIn Fence.wide n P Q a w := by
  refine wpIn_rangeFunc fun fn _ => ?_
  let rec0 : Loop := { state := .ready, pending := none, fn, tmps := a.tmps, params := ps, assign, body, defers := w.heap.size }
  obtain ⟨W1, hW1⟩ : ∃ W1, (w.alloc (.deferred (some []))).alloc (.loop rec0) = W1 := ⟨_, rfl⟩
  have k1 : Book (w.heap.size + 1) w.heap.size rec0 W1 := by
    rw [← hW1]
    refine ⟨?_, (Below.heap_alloc _ _ _ (by simp)).trans (World.alloc_heap_new w _)⟩
    have := World.alloc_heap_new (w.alloc (.deferred (some []))) (.loop rec0)
    rwa [World.size_alloc] at this
  have hw1 : W1.heap.size = w.heap.size + 2 := by rw [← hW1]; simp
  have i1 : I [] W1 := by rw [← hW1]; exact hI.alloc _ (hI.alloc _ h0)
  have b1 : Below w0.heap.size w0 W1 := by
    rw [← hW1]; exact hb0.trans ((((Below.refl _ w).alloc (Nat.le_refl _) _).alloc (by simp) _).mono hb0.size)
  refine ⟨w.heap.size + 1, [{ target := .collected w.heap.size, args := #[] }], W1, { target := .fn (.func gf) lb, args := pa ++ #[.func (.yield (w.heap.size + 1)) #[] #[]] }, W1, gf,
    pa ++ #[.func (.yield (w.heap.size + 1)) #[] #[]] ++ lb, W1, by rw [← hW1]; exact run_enterLoop_outer _ _ _ _ _, by simp only [resolve, hg]; simp [go_sem], fun _ _ => trivial, by simp [invoke, go_sem, eg], fun _ => h1, ?_⟩
  refine (hseq (w.heap.size + 1) (fun pre W => I pre W ∧ Book (w.heap.size + 1) w.heap.size rec0 W)
    (fun pre W => ∃ c, Ix c pre W ∧ Book (w.heap.size + 1) w.heap.size { rec0 with state := .done, pending := some c } W) W1 b1
    (fun s A B hs t => ⟨hT W1.heap.size (by omega) s A B hs.1 t, hs.2.turnG t (by omega) (by omega)⟩) (fun s A B ⟨c, h, k⟩ t => ⟨c, hTx W1.heap.size c (by omega) s A B h t, k.turnG t (by omega) (by omega)⟩)
    (fun pre x W h hy => round_G (γ := W1.heap.size) (by omega) (by omega) (by omega) (Nat.le_succ _) (Nat.le_refl _) hI hY hIx hps (hassign _) (hbody _) pre x W h.1 hy h.2) ⟨i1, k1⟩).mono ?_
  rintro e W2 ⟨⟨v, rfl⟩, ⟨xs, hs, hi, hk⟩ | ⟨pre, hs, c, hi, hk⟩⟩
  · have r := run_endLoop (P := P) hk.loop (by intro h; cases h)
    exact ⟨none, _, r, hdone _ xs _ (Nat.le_refl _) (hS.putObj _ hs (Nat.le_succ _) hk.loop rfl) (hI.putObj _ hi (Nat.le_succ _) hk.loop rfl) ((World.putObj_heap_other (by omega)).trans hk.defers)⟩
  · have r := run_endLoop (P := P) hk.loop (by intro h; cases h)
    exact ⟨some c, _, r, hstop _ c pre _ (Nat.le_refl _) (hSp.putObj _ hs (Nat.le_succ _) hk.loop rfl) ((hIx c).putObj _ hi (Nat.le_succ _) hk.loop rfl) ((World.putObj_heap_other (by omega)).trans hk.defers)⟩
/-- One round, told of the loop's record. -/
theorem round_H {l D B m γ : Nat} {fn : FuncId} {tmps : Array Value} {ps : Array Tmp} {assign body : Code} {dd : Nat} {encs : α → Array Value} {Y : List α → α → World → Prop} {I : List α → World → Prop} {Ix : Code → List α → World → Prop} {Ax : List α → α → Act → World → Prop}
    (hlγ : l < γ) (hBγ : B ≤ γ) (hlD : l ≠ D) (hlB : B ≤ l) (hDB : B ≤ D) (hI : OwnFrom B I) (hY : ∀ x, OwnFrom B (fun pre => Y pre x)) (hIx : ∀ c, OwnFrom B (Ix c)) (hps : ∀ x, (encs x).size = ps.size)
    (hAx : ∀ pre x a', OwnFrom B (fun (_ : Unit) W => Ax pre x a' W))
    (hassign : ∀ (pre : List α) (x : α) (W : World) (K : Act → World → Prop), I pre W → Y pre x W → (∀ a' W', KeepsFrom B W W' → KeepT σ W W' → Ax pre x a' W' → K a' W') → assign.wpIn (Fence.wide.inRound l) m P (Exit.then K (fun _ _ _ => False)) { tmps := (ps.zip (encs x)).foldl (fun t (p, v) => t.setIfInBounds p v) tmps, defers := [] } W)
    (hbody : ∀ (pre : List α) (x : α) (a' : Act) (W : World), Ax pre x a' W → body.wpIn (Fence.wide.inRound l) m P (leftT σ B I Ix (pre ++ [x]) W) a' W)
    (pre : List α) (x : α) (W : World) (hi : I pre W) (hy0 : Y pre x W) (hk : Book l D { state := .ready, pending := none, fn, tmps, params := ps, assign, body, defers := dd } W) :
    YieldAt Fence.wide m P l (encs x) W fun e W' =>
      (e = .returned (.bool true) ∧ (I (pre ++ [x]) W' ∧ Book l D { state := .ready, pending := none, fn, tmps, params := ps, assign, body, defers := dd } W') ∧ KeepT σ W W' ∧ KeepsFrom γ W W') ∨
      (e = .returned (.bool false) ∧ (∃ c, Ix c (pre ++ [x]) W' ∧ Book l D { state := .done, pending := some c, fn, tmps, params := ps, assign, body, defers := dd } W') ∧ KeepT σ W W' ∧ KeepsFrom γ W W') := by
  obtain ⟨rec, hrec⟩ : ∃ rec : LoopState → Option Code → Loop, rec = fun st pe => { state := st, pending := pe, fn, tmps, params := ps, assign, body, defers := dd } := ⟨_, rfl⟩
  have hk' : Book l D (rec .ready none) W := by rw [hrec]; exact hk
  have hy := run_yield (P := P) (args := encs x) hk.loop (hps x)
  refine ⟨fn, _, assign, body, hy, roundIn_of_wpIn trivial (hassign pre x W _ hi hy0 (fun a' Wa ka ta ax => ?_))⟩
  have hka : Book l D (rec .ready none) Wa := hk'.keeps ka hlB hDB
  have hka' : Book l D { state := .ready, pending := none, fn, tmps, params := ps, assign, body, defers := dd } Wa := by rw [hrec] at hka; exact hka
  refine ⟨_, run_beginRound hka'.loop rfl, ?_⟩
  have b2 : Book l D (rec .busy none) (Wa.putObj l (.loop (rec .busy none))) := hka.put hlD _
  have w2 : KeepT σ W (Wa.putObj l (.loop (rec .busy none))) := ta.trans (KeepT.putObj _ hka.loop rfl)
  have i2 : Ax pre x a' (Wa.putObj l (.loop (rec .busy none))) := (hAx pre x a').putObj (s := ()) _ ax hlB hka.loop rfl
  have e2 : Wa.putObj l (.loop (rec .busy none)) = Wa.putObj l (.loop { state := .busy, pending := none, fn, tmps, params := ps, assign, body, defers := dd }) := by rw [hrec]
  rw [← e2]
  refine wpIn_mono (hbody pre x a' _ i2) ?_
  clear e2
  -- what stands behind the body, whatever its way out
  have fin : ∀ (jump : Option Code) (W3 : World), KeepsFrom B (Wa.putObj l (.loop (rec .busy none))) W3 → KeepT σ (Wa.putObj l (.loop (rec .busy none))) W3 →
      (Instr.endRound l jump).run P W3 = .ok (.bool jump.isNone) (W3.putObj l (.loop (rec (if jump.isNone then .ready else .done) jump))) ∧ Book l D (rec .busy none) W3 ∧
      Book l D (rec (if jump.isNone then .ready else .done) jump) (W3.putObj l (.loop (rec (if jump.isNone then .ready else .done) jump))) ∧ KeepT σ W (W3.putObj l (.loop (rec (if jump.isNone then .ready else .done) jump))) ∧ KeepsFrom γ W (W3.putObj l (.loop (rec (if jump.isNone then .ready else .done) jump))) := by
    intro jump W3 hk3 ht3
    have b3 := b2.keeps hk3 hlB hDB
    have r3 := run_endRound (P := P) jump b3.loop
    have g3 : KeepsFrom γ W (W3.putObj l (.loop (rec (if jump.isNone then .ready else .done) jump))) := ⟨by
      have h1 := hk3.size
      have h2 : (Wa.putObj l (.loop (rec .busy none))).heap.size = Wa.heap.size := by simp [World.putObj]
      have h4 := ka.size
      have h3 : (W3.putObj l (.loop (rec (if jump.isNone then .ready else .done) jump))).heap.size = W3.heap.size := by simp [World.putObj]
      omega, fun k o hk h ho => (World.putObj_heap_other (by omega)).trans (hk3.same k o (by omega) ((World.putObj_heap_other (by omega)).trans (ka.same k o (by omega) h ho)) ho)⟩
    refine ⟨?_, b3, b3.put hlD _, w2.trans (ht3.trans (KeepT.putObj _ b3.loop rfl)), g3⟩
    rw [hrec] at r3 ⊢
    exact r3
  rintro e a3 W3 hp
  cases e with
  | normal =>
    obtain ⟨hk3, ht3, hi3⟩ := hp
    obtain ⟨r3, b3, b4, t4, g4⟩ := fin none W3 hk3 ht3
    refine ⟨_, _, r3, .inl ⟨rfl, ⟨hI.putObj _ hi3 hlB b3.loop rfl, ?_⟩, t4, g4⟩⟩
    rw [hrec] at b4 ⊢
    exact b4
  | ret =>
    obtain ⟨hk3, ht3, hi3⟩ := hp
    obtain ⟨r3, b3, b4, t4, g4⟩ := fin (some .ret) W3 hk3 ht3
    refine ⟨_, _, r3, .inr ⟨rfl, ⟨.ret, (hIx _).putObj _ hi3 hlB b3.loop rfl, ?_⟩, t4, g4⟩⟩
    rw [hrec] at b4 ⊢
    exact b4
  | exit id =>
    obtain ⟨hk3, ht3, hi3⟩ := hp
    obtain ⟨r3, b3, b4, t4, g4⟩ := fin (some (.exit id)) W3 hk3 ht3
    refine ⟨_, _, r3, .inr ⟨rfl, ⟨.exit id, (hIx _).putObj _ hi3 hlB b3.loop rfl, ?_⟩, t4, g4⟩⟩
    rw [hrec] at b4 ⊢
    exact b4
  | goto t =>
    obtain ⟨hk3, ht3, hi3⟩ := hp
    obtain ⟨r3, b3, b4, t4, g4⟩ := fin (some (.goto t)) W3 hk3 ht3
    refine ⟨_, _, r3, .inr ⟨rfl, ⟨.goto t, (hIx _).putObj _ hi3 hlB b3.loop rfl, ?_⟩, t4, g4⟩⟩
    rw [hrec] at b4 ⊢
    exact b4
  | panic ch => exact hp.elim
  | outgrown => exact hp.elim

/-- **The law**: outside every other loop; the fence is the wide one. -/
theorem range_H {g : Operand} {ps : Array Tmp} {assign body : Code} {Q : Exit → Act → World → Prop} {a : Act} {w w0 : World} (h1 : 1 ≤ n) {gf : Nat} {pa lb : Array Value}
    (hg : a.eval g = .func (.func gf) pa lb) (eg : ∀ args w, (callFunc gf args).run P w = .ok (.enter gf args) w) {encs : α → Array Value} {Y : List α → α → World → Prop} {S Sp : List α → World → Prop}
    (hseq : SeqG τ σ β (n - 1) P gf pa lb encs Y S Sp w0) (hb0 : Below w0.heap.size w0 w) (hps : ∀ x, (encs x).size = ps.size) (I : List α → World → Prop) (Ix : Code → List α → World → Prop)
    (hI : OwnFrom w.heap.size I) (hY : ∀ x, OwnFrom w.heap.size (fun pre => Y pre x)) (hIx : ∀ c, OwnFrom w.heap.size (Ix c)) (hT : ∀ γ, w.heap.size ≤ γ → AbG τ β γ I) (hTx : ∀ γ c, w.heap.size ≤ γ → AbG τ β γ (Ix c)) (hS : OwnFrom w.heap.size S) (hSp : OwnFrom w.heap.size Sp) (h0 : I [] w) (Ax : List α → α → Act → World → Prop) (hAx : ∀ pre x a', OwnFrom w.heap.size (fun (_ : Unit) W => Ax pre x a' W))
    (hassign : ∀ (l : Nat) (pre : List α) (x : α) (W : World) (K : Act → World → Prop), I pre W → Y pre x W → (∀ a' W', KeepsFrom w.heap.size W W' → KeepT σ W W' → Ax pre x a' W' → K a' W') → assign.wpIn (Fence.wide.inRound l) (n - 1 - 1) P (Exit.then K (fun _ _ _ => False)) { tmps := (ps.zip (encs x)).foldl (fun t (p, v) => t.setIfInBounds p v) a.tmps, defers := [] } W)
    (hbody : ∀ (l : Nat) (pre : List α) (x : α) (a' : Act) (W : World), Ax pre x a' W → body.wpIn (Fence.wide.inRound l) (n - 1 - 1) P (leftT σ w.heap.size I Ix (pre ++ [x]) W) a' W)
    (hdone : ∀ (D : Nat) (xs : List α) (W : World), w.heap.size ≤ D → S xs W → I xs W → W.heap[D]? = some (.deferred (some [])) → Q .normal { a with defers := { target := .collected D, args := #[] } :: a.defers } W)
    (hstop : ∀ (D : Nat) (c : Code) (pre : List α) (W : World), w.heap.size ≤ D → Sp pre W → Ix c pre W → W.heap[D]? = some (.deferred (some [])) → c.wpIn Fence.wide n P Q { a with defers := { target := .collected D, args := #[] } :: a.defers } W) :
    (Code.rangeFunc g ps assign body).wpIn Fence.wide n P Q a w := by
  refine wpIn_rangeFunc fun fn _ => ?_
  let rec0 : Loop := { state := .ready, pending := none, fn, tmps := a.tmps, params := ps, assign, body, defers := w.heap.size }
  obtain ⟨W1, hW1⟩ : ∃ W1, (w.alloc (.deferred (some []))).alloc (.loop rec0) = W1 := ⟨_, rfl⟩
  have k1 : Book (w.heap.size + 1) w.heap.size rec0 W1 := by
    rw [← hW1]
    refine ⟨?_, (Below.heap_alloc _ _ _ (by simp)).trans (World.alloc_heap_new w _)⟩
    have := World.alloc_heap_new (w.alloc (.deferred (some []))) (.loop rec0)
    rwa [World.size_alloc] at this
  have hw1 : W1.heap.size = w.heap.size + 2 := by rw [← hW1]; simp
  have i1 : I [] W1 := by rw [← hW1]; exact hI.alloc _ (hI.alloc _ h0)
  have b1 : Below w0.heap.size w0 W1 := by
    rw [← hW1]; exact hb0.trans ((((Below.refl _ w).alloc (Nat.le_refl _) _).alloc (by simp) _).mono hb0.size)
  refine ⟨w.heap.size + 1, [{ target := .collected w.heap.size, args := #[] }], W1, { target := .fn (.func gf) lb, args := pa ++ #[.func (.yield (w.heap.size + 1)) #[] #[]] }, W1, gf,
    pa ++ #[.func (.yield (w.heap.size + 1)) #[] #[]] ++ lb, W1, by rw [← hW1]; exact run_enterLoop_outer _ _ _ _ _, by simp only [resolve, hg]; simp [go_sem], fun _ _ => trivial, by simp [invoke, go_sem, eg], fun _ => h1, ?_⟩
  refine (hseq (w.heap.size + 1) (fun pre W => I pre W ∧ Book (w.heap.size + 1) w.heap.size rec0 W)
    (fun pre W => ∃ c, Ix c pre W ∧ Book (w.heap.size + 1) w.heap.size { rec0 with state := .done, pending := some c } W) W1 b1
    (fun s A B hs t => ⟨hT W1.heap.size (by omega) s A B hs.1 t, hs.2.turnG t (by omega) (by omega)⟩) (fun s A B ⟨c, h, k⟩ t => ⟨c, hTx W1.heap.size c (by omega) s A B h t, k.turnG t (by omega) (by omega)⟩)
    (fun pre x W h hy => round_H (γ := W1.heap.size) (by omega) (by omega) (by omega) (Nat.le_succ _) (Nat.le_refl _) hI hY hIx hps hAx (hassign _) (hbody _) pre x W h.1 hy h.2) ⟨i1, k1⟩).mono ?_
  rintro e W2 ⟨⟨v, rfl⟩, ⟨xs, hs, hi, hk⟩ | ⟨pre, hs, c, hi, hk⟩⟩
  · have r := run_endLoop (P := P) hk.loop (by intro h; cases h)
    exact ⟨none, _, r, hdone _ xs _ (Nat.le_refl _) (hS.putObj _ hs (Nat.le_succ _) hk.loop rfl) (hI.putObj _ hi (Nat.le_succ _) hk.loop rfl) ((World.putObj_heap_other (by omega)).trans hk.defers)⟩
  · have r := run_endLoop (P := P) hk.loop (by intro h; cases h)
    exact ⟨some c, _, r, hstop _ c pre _ (Nat.le_refl _) (hSp.putObj _ hs (Nat.le_succ _) hk.loop rfl) ((hIx c).putObj _ hi (Nat.le_succ _) hk.loop rfl) ((World.putObj_heap_other (by omega)).trans hk.defers)⟩
end
end Go.Proofs.Ythhgcbegcbhaeaa.Mdl
