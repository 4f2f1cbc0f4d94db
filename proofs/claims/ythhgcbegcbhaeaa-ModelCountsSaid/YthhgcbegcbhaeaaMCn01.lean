/-
  Several texts in one: InsO, WordsO, MdlSn, MdlAg.
-/
import Derived.Test.YthhgcbegcbhaeaaMBh31
import Derived.ProofKit
import Derived.Deep.Slices
import Derived.Deep.Fields
import Derived.ChangeSame
import Derived.Test.YthhgcbegcbhaeaaMBh16
import Derived.OpenShut
import Derived.Test.YthhgcbegcbhaeaaMBh41
set_option linter.unusedVariables false
set_option linter.unusedSimpArgs false
set_option linter.unnecessarySimpa false
namespace Go.Proofs.Ythhgcbegcbhaeaa.Ins
open Go.RowKit Go.ChangeShapes Go.WideShapes Go.Deep
set_option linter.unusedVariables false
set_option maxRecDepth 100000

theorem bd_i8 {a : Int} (h : (Lit.int .i8 a).wf = true) : -128 ≤ a ∧ a ≤ 127 := by simpa [Lit.wf, IntKind.min, IntKind.max, IntKind.bits, IntKind.signed] using h
theorem bd_i64 {a : Int} (h : (Lit.int .i64 a).wf = true) : -9223372036854775808 ≤ a ∧ a ≤ 9223372036854775807 := by simpa [Lit.wf, IntKind.min, IntKind.max, IntKind.bits, IntKind.signed] using h

section
variable {H : Type} {enc : TypeId × Value → H} {w : World} {base : Nat} {held : Bool}
theorem ins_cells {n : Nat} {cs : List Value} {x : DataW H × List MemPlace} {spare : Nat → Bool} (h : DataW.trod enc Try.prog w base spare held n 55 cs = some x) : ∃ y : In, cs = y.cells.toList ∧ y.Ok := by
  obtain ⟨xs, n', _, _, hlen, hxl, hf⟩ := DataW.trod_struct Try.underlying55 h
  have hl : cs.length = 9 := hlen.trans (by kernel_rfl)
  match cs, hl with
  | [c0, c1, c2, c3, c4, c5, c6, c7, c8], _ =>
    have ki : Try.prog.cellsOf 3 = 1 := by kernel_rfl
    have k8 : Try.prog.cellsOf 29 = 1 := by kernel_rfl
    have kb : Try.prog.cellsOf 4 = 1 := by kernel_rfl
    have hx9 : xs.length = 9 := hxl
    have f0 := hf 0 _ rfl
    have f1 := hf 1 _ rfl
    have f2 := hf 2 _ rfl
    have f3 := hf 3 _ rfl
    have f4 := hf 4 _ rfl
    have f5 := hf 5 _ rfl
    have f6 := hf 6 _ rfl
    have f7 := hf 7 _ rfl
    have f8 := hf 8 _ rfl
    change DataW.trod enc Try.prog w base spare held n' 29 (([c0, c1, c2, c3, c4, c5, c6, c7, c8].drop 0).take (Try.prog.cellsOf 29)) = _ at f0
    change DataW.trod enc Try.prog w base spare held n' 29 (([c0, c1, c2, c3, c4, c5, c6, c7, c8].drop 1).take (Try.prog.cellsOf 29)) = _ at f1
    change DataW.trod enc Try.prog w base spare held n' 29 (([c0, c1, c2, c3, c4, c5, c6, c7, c8].drop 2).take (Try.prog.cellsOf 29)) = _ at f2
    change DataW.trod enc Try.prog w base spare held n' 29 (([c0, c1, c2, c3, c4, c5, c6, c7, c8].drop 3).take (Try.prog.cellsOf 29)) = _ at f3
    change DataW.trod enc Try.prog w base spare held n' 4 (([c0, c1, c2, c3, c4, c5, c6, c7, c8].drop 4).take (Try.prog.cellsOf 4)) = _ at f4
    change DataW.trod enc Try.prog w base spare held n' 29 (([c0, c1, c2, c3, c4, c5, c6, c7, c8].drop 5).take (Try.prog.cellsOf 29)) = _ at f5
    change DataW.trod enc Try.prog w base spare held n' 29 (([c0, c1, c2, c3, c4, c5, c6, c7, c8].drop 6).take (Try.prog.cellsOf 29)) = _ at f6
    change DataW.trod enc Try.prog w base spare held n' 3 (([c0, c1, c2, c3, c4, c5, c6, c7, c8].drop 7).take (Try.prog.cellsOf 3)) = _ at f7
    change DataW.trod enc Try.prog w base spare held n' 3 (([c0, c1, c2, c3, c4, c5, c6, c7, c8].drop 8).take (Try.prog.cellsOf 3)) = _ at f8
    rw [k8, List.getElem?_eq_getElem (by omega)] at f0
    rw [k8, List.getElem?_eq_getElem (by omega)] at f1
    rw [k8, List.getElem?_eq_getElem (by omega)] at f2
    rw [k8, List.getElem?_eq_getElem (by omega)] at f3
    rw [kb, List.getElem?_eq_getElem (by omega)] at f4
    rw [k8, List.getElem?_eq_getElem (by omega)] at f5
    rw [k8, List.getElem?_eq_getElem (by omega)] at f6
    rw [ki, List.getElem?_eq_getElem (by omega)] at f7
    rw [ki, List.getElem?_eq_getElem (by omega)] at f8
    obtain ⟨v0, e0, _, w0⟩ := DataW.trod_int Try.underlying29 f0
    obtain ⟨v1, e1, _, w1⟩ := DataW.trod_int Try.underlying29 f1
    obtain ⟨v2, e2, _, w2⟩ := DataW.trod_int Try.underlying29 f2
    obtain ⟨v3, e3, _, w3⟩ := DataW.trod_int Try.underlying29 f3
    obtain ⟨v4, e4, _⟩ := DataW.trod_bool Try.underlying4 f4
    obtain ⟨v5, e5, _, w5⟩ := DataW.trod_int Try.underlying29 f5
    obtain ⟨v6, e6, _, w6⟩ := DataW.trod_int Try.underlying29 f6
    obtain ⟨v7, e7, _, w7⟩ := DataW.trod_int Try.underlying3 f7
    obtain ⟨v8, e8, _, w8⟩ := DataW.trod_int Try.underlying3 f8
    simp at e0 e1 e2 e3 e4 e5 e6 e7 e8
    subst e0 e1 e2 e3 e4 e5 e6 e7 e8
    exact ⟨⟨v0, v1, v2, v3, v4, v5, v6, v7, v8⟩, rfl, ⟨bd_i8 w0, bd_i8 w1, bd_i8 w2, bd_i8 w3, bd_i8 w5, bd_i8 w6, bd_i64 w7, bd_i64 w8⟩⟩

theorem ins_open {r : Reach} {b0 : Nat} {v : Value} {d : DataW H} {p : List MemPlace} {spare : Nat → Bool} (hv : Value.okWide Try.prog w r b0 55 v) (h : DataW.Trod enc Try.prog w base spare held 55 v d p) : ∃ y : In, v = .agg y.cells ∧ y.Ok := by
  obtain ⟨cs, rfl, hsz⟩ := okWide_struct Try.underlying55 hv
  obtain ⟨fuel, hf⟩ := h
  obtain ⟨y, hy, ok⟩ := ins_cells hf
  refine ⟨y, ?_, ok⟩
  have : cs = y.cells := by
    apply Array.ext'
    simpa [Value.cells] using hy
  rw [this]

theorem insts_open {fuel : Nat} {cs : List Value} {x : DataW H × List MemPlace} (h : DataW.trod enc Try.prog w base (fun _ => true) held fuel 22 cs = some x) :
    ∃ (a : Option Addr) (len cap : Nat) (xs : Nat → In), cs = [.slice a len cap] ∧ Insts w a len cap xs := by
  rcases open_slice Try.underlying22 h with ⟨rfl, _⟩ | ⟨a, len, cap, m, n, D, Pl, rfl, _, hl, hm, hmm, _, hi⟩
  · exact ⟨none, 0, 0, fun _ => In.nil, rfl, Nat.le_refl _, by omega, fun h => absurd h (by omega), fun i h => absurd h (by omega)⟩
  · have hm' : len ≤ m := by rw [hmm]; split <;> omega
    have k9 : Try.prog.cellsOf 55 = 9 := by kernel_rfl
    have spotless : 0 < len → a.spot = none := fun h0 => by
      obtain ⟨cs', hc, ht'⟩ := hi 0 (by omega)
      rw [k9] at hc
      obtain ⟨_, hcl, hat⟩ := World.cells?_some hc
      obtain ⟨y, rfl, _⟩ := ins_cells ht'
      obtain ⟨b, off, spot⟩ := a
      have c0 := hat 0 (by omega)
      simpa [Addr.add] using World.cell?_spot c0
    have key : ∀ i, ∃ y : In, i < len → w.rangeAt a.block (a.off + i * 9) y.cells.toList ∧ a.spot = none ∧ y.Ok := by
      intro i
      by_cases hlt : i < len
      · obtain ⟨cs', hc, ht'⟩ := hi i (by omega)
        rw [k9] at hc
        obtain ⟨_, hcl, hat⟩ := World.cells?_some hc
        obtain ⟨y, rfl, ok⟩ := ins_cells ht'
        refine ⟨y, fun _ => ?_⟩
        have hs := spotless (by omega)
        obtain ⟨b, off, spot⟩ := a
        simp only at hs
        subst hs
        refine ⟨fun j u hu => ?_, rfl, ok⟩
        have hj : j < 9 := (List.getElem?_eq_some_iff.1 hu).1
        have := hat j hj
        rw [Addr.add_mid, Addr.add_mid] at this
        exact this.trans hu
      · exact ⟨In.nil, fun h => absurd h hlt⟩
    refine ⟨some a, len, cap, fun i => (key i).choose, rfl, hl, by unfold maxLen at hm; omega, fun h0 => ?_, fun i hlt => ((key i).choose_spec hlt).2.2⟩
    obtain ⟨_, hs, _⟩ := (key 0).choose_spec h0
    refine ⟨a.block, a.off, ?_, fun i hlt => ((key i).choose_spec hlt).1⟩
    obtain ⟨b, off, spot⟩ := a
    simp at hs
    rw [hs]

theorem prog_open {r : Reach} {b0 : Nat} {v : Value} {d : DataW H} {p : List MemPlace} (hv : Value.okWide Try.prog w r b0 24 v) (h : DataW.Trod enc Try.prog w base (fun _ => true) held 24 v d p) :
    ∃ (c : Int) (a : Option Addr) (len cap : Nat) (xs : Nat → In), v = .agg #[.int .i64 c, .slice a len cap] ∧ (Lit.int .i64 c).wf = true ∧ Insts w a len cap xs := by
  obtain ⟨cs, rfl, hsz⟩ := okWide_struct Try.underlying24 hv
  obtain ⟨fuel, hf⟩ := h
  obtain ⟨ys, n', _, _, hlen, hyl, hg⟩ := DataW.trod_struct Try.underlying24 hf
  obtain ⟨l⟩ := cs
  have hl : l.length = 2 := by
    have := hsz.trans (show Try.prog.cellsOf 24 = 2 by kernel_rfl)
    simpa using this
  match l, hl with
  | [c0, c1], _ =>
    have ki : Try.prog.cellsOf 3 = 1 := by kernel_rfl
    have ks : Try.prog.cellsOf 22 = 1 := by kernel_rfl
    have hy2 : ys.length = 2 := hyl
    have f0 := hg 0 _ rfl
    have f1 := hg 1 _ rfl
    change DataW.trod enc Try.prog w base _ held n' 3 (([c0, c1].drop 0).take (Try.prog.cellsOf 3)) = _ at f0
    change DataW.trod enc Try.prog w base _ held n' 22 (([c0, c1].drop 1).take (Try.prog.cellsOf 22)) = _ at f1
    rw [ki, List.getElem?_eq_getElem (by omega)] at f0
    rw [ks, List.getElem?_eq_getElem (by omega)] at f1
    obtain ⟨c, e0, _, w0⟩ := DataW.trod_int Try.underlying3 f0
    obtain ⟨a, len, cap, xs, e1, hx⟩ := insts_open f1
    simp at e0 e1
    subst e0 e1
    exact ⟨c, a, len, cap, xs, rfl, w0, hx⟩
end
end Go.Proofs.Ythhgcbegcbhaeaa.Ins

namespace Go.Proofs.Ythhgcbegcbhaeaa.Trc
open Go.RowKit Go.ChangeShapes Go.WideShapes Go.Deep
set_option linter.unusedVariables false
set_option maxRecDepth 100000

section
variable {H : Type} {enc : TypeId × Value → H} {w : World} {base : Nat} {held : Bool}
theorem u64_bd {z : Int} (h : (Lit.int .u64 z).wf = true) : 0 ≤ z ∧ z < 18446744073709551616 := by
  have : 0 ≤ z ∧ z ≤ 18446744073709551615 := by simpa [Lit.wf, IntKind.min, IntKind.max, IntKind.bits, IntKind.signed] using h
  omega
theorem words_arg {r : Reach} {b0 : Nat} {v : Value} {d : DataW H} {p : List MemPlace} (hv : Value.okWide Try.prog w r b0 26 v) (h : DataW.Trod enc Try.prog w base (fun _ => true) held 26 v d p) :
    ∃ (a : Option Addr) (len cap : Nat) (zs : List Int), v = .slice a len cap ∧ (∀ z ∈ zs, 0 ≤ z ∧ z < 18446744073709551616) ∧ WordsAt w a len cap zs := by
  obtain ⟨a, len, cap, rfl⟩ := okWide_slice Try.underlying26 hv
  obtain ⟨fuel, hf⟩ := h
  rcases open_ints Try.underlying26 Try.underlying30 (by kernel_rfl) hf with ⟨hcs, _⟩ | ⟨x, l, c, zs, hcs, _, hl, hm, hz, _, hcell, hwz⟩
  · simp [Value.cells] at hcs
    obtain ⟨rfl, rfl, rfl⟩ := hcs
    exact ⟨none, 0, 0, [], rfl, fun z h => (by cases h), rfl, Nat.le_refl _, by omega, fun h => absurd h (by decide), fun _ => rfl⟩
  · simp [Value.cells] at hcs
    obtain ⟨rfl, rfl, rfl⟩ := hcs
    have hz' : zs.length = cap := by simpa using hz
    refine ⟨some x, len, cap, zs.take len, rfl, fun z h => u64_bd (hwz z (List.mem_of_mem_take h)), by rw [List.length_take]; omega, hl, by unfold maxLen at hm; omega, fun h0 => ?_, fun h => by cases h⟩
    have hs : x.spot = none := by
      have c0 := hcell 0 (by omega)
      obtain ⟨b, off, spot⟩ := x
      simpa [Addr.add] using World.cell?_spot c0
    obtain ⟨b, off, spot⟩ := x
    simp only at hs
    subst hs
    refine ⟨b, off, rfl, fun j z hj => ?_⟩
    rw [List.getElem?_take] at hj
    split at hj
    · have hlt := (List.getElem?_eq_some_iff.1 hj).1
      have := hcell j hlt
      rw [Addr.add_mid] at this
      rw [this, List.getD_eq_getElem?_getD, hj]; rfl
    · cases hj
end
end Go.Proofs.Ythhgcbegcbhaeaa.Trc

namespace Go.Proofs.Ythhgcbegcbhaeaa.Mdl
open Go.RowKit Go.Maps Ins Trc
set_option linter.unusedVariables false
set_option linter.unusedSimpArgs false
set_option maxRecDepth 100000

/-- The registers' cells. -/
def regsC (r : Nat → Int) : List Value := [.int .u64 (r 0), .int .u64 (r 1), .int .u64 (r 2), .int .u64 (r 3), .int .u64 (r 4), .int .u64 (r 5), .int .u64 (r 6), .int .u64 (r 7), .int .u64 (r 8), .int .u64 (r 9), .int .u64 (r 10)]
def frmL (g : Nat → Int) : List Value := bytesOf (fun i => g (258 + i)) 64
/-- A snap's cells. -/
def snapC (r : Nat → Int) (set : Int) (g : Nat → Int) : List Value := regsC r ++ .int .i64 set :: frmL g
def Pl.snap (D : Pl) : List Value := snapC D.r D.set D.mem.g
theorem snap_len (r : Nat → Int) (s : Int) (g : Nat → Int) : (snapC r s g).length = 76 := rfl
theorem info_snap : (Try.prog.info? 51).map (·.size) = some 76 := by kernel_rfl
theorem info_regsS : (Try.prog.info? 48).map (·.size) = some 11 := by kernel_rfl
def snapZ : Array Value := (snapC (fun _ => 0) 0 (fun _ => 0)).toArray
theorem zero_snap : (Try.prog.info? 51).map (fun i => (i.zero, i.size)) = some (some (.agg snapZ), 76) := by kernel_rfl
theorem built_snap (r : Nat → Int) (s : Int) (g : Nat → Int) : Try.prog.built 51 [(0, .agg (regsC r).toArray), (1, .int .i64 s), (2, .agg (frmL g).toArray)] = some (snapC r s g).toArray := by kernel_rfl
theorem snap_one (r : Nat → Int) (s : Int) (g : Nat → Int) : (snapC r s g).toArray.all (·.oneCell') = true := by kernel_rfl
theorem load_regs {g : Nat} {s : Mo} {w : World} (h : s.in_ w g) : (loadVar 48 ⟨g, 2, none⟩).run Try.prog w = .ok (.agg (regsC s.r).toArray) w := by
  refine run_loadVar_mid w g 2 48 (regsC s.r) _ (fun j v hj => ?_) Try.underlying48 rfl info_regsS
  have h2 : w.heap[g]? = some (.cells s.cells 76 (0, 0)) := h
  simp only [World.cell?, h2]
  have hl : j < 11 := (List.getElem?_eq_some_iff.1 hj).1
  have : j = 0 ∨ j = 1 ∨ j = 2 ∨ j = 3 ∨ j = 4 ∨ j = 5 ∨ j = 6 ∨ j = 7 ∨ j = 8 ∨ j = 9 ∨ j = 10 := by omega
  rcases this with rfl | rfl | rfl | rfl | rfl | rfl | rfl | rfl | rfl | rfl | rfl <;> exact hj

theorem below_trn2 {W w w' : World} {ge : Nat} (b : Below ge W w) (t : Trn [ge] w w') (h : ge ≤ w.heap.size) : Below ge W w' :=
  ⟨t.os.trans b.os, t.tape.trans b.tape, t.output.trans b.output, Nat.le_trans b.size t.size, fun k hk => (t.block k (by omega) (by simp; omega)).trans (b.block k hk)⟩
set_option maxHeartbeats 8000000 in
theorem snap_any (E : Env) (D : Pl) (W : World) (R : Rel E D W) :
    Calls Try.prog 26 #[.pointer (some ⟨E.g, 0, none⟩)] W fun e w' => e = .returned (.agg D.snap.toArray) ∧ Below W.heap.size W w' := by
  have hz := (zero_of_info zero_snap).1
  obtain ⟨av, tv, hin, hA, hT⟩ := R.st
  have hM := R.mm.at_
  clear hA hT R
  have FR := Lib.hid (fun w h => frame_any D.mem E.b w h)
  have Z0 := below_new (Below.refl W.heap.size W) (.cells snapZ 51)
  have r0 := heap_last W (.cells snapZ 51) _ rfl
  have hin0 := Mo.below hin Z0
  have hM0 := hM.below Z0
  clear hin hM
  go_enter Try.func26, Try.ntmps26
  go_wp2_with fail
  generalize W.alloc (.cells snapZ 51) = w1 at *
  have hlW := Z0.size
  generalize hge : W.heap.size = ge at *
  have HI := Lib.hid (fun w (b : Below w1.heap.size w1 w) => Mo.below hin0 b)
  have HM := Lib.hid (fun w (b : Below w1.heap.size w1 w) => hM0.below b)
  have H0 := Lib.hid (fun w (b : Below w1.heap.size w1 w) => brow b r0)
  have HL := Lib.hid (fun w (b : Below w1.heap.size w1 w) => load_regs (Mo.below hin0 b))
  have HS := Lib.hid (fun w (b : Below w1.heap.size w1 w) => (show w.cell? ⟨E.g, 13, none⟩ = some (.int .i64 D.set) by
    have h2 : w.heap[E.g]? = some (.cells (E.mo D av tv).cells 76 (0, 0)) := Mo.below hin0 b
    simp only [World.cell?, h2]; rfl))
  have HP := Lib.hid (fun w (b : Below w1.heap.size w1 w) => (show w.cell? ⟨E.g, 1, none⟩ = some (.pointer (some ⟨E.b, 0, none⟩)) by
    have h2 : w.heap[E.g]? = some (.cells (E.mo D av tv).cells 76 (0, 0)) := Mo.below hin0 b
    simp only [World.cell?, h2]; rfl))
  have ZZ := Lib.hid Z0
  clear hin0 hM0 r0 Z0
  refine wp_region_invl (SL [3, 7, 11, 12] 14 (fun w => Below w1.heap.size w1 w) (fun w => w.heap[ge]? = some (.cells D.snap.toArray 51 (0, 0)) ∧ Trn [ge] w1 w)) (TabQ [fun v => v = .pointer (some ⟨E.g, 0, none⟩), fun v => v = .pointer (some ⟨E.g, 0, none⟩), fun v => v = .pointer (some ⟨E.g, 2, none⟩), fun v => v = .agg (regsC D.r).toArray, fun v => v = .pointer (some ⟨E.g, 0, none⟩), fun v => v = .pointer (some ⟨E.g, 0, none⟩), fun v => v = .pointer (some ⟨E.g, 13, none⟩), fun v => v = .int .i64 D.set, fun v => v = .pointer (some ⟨E.g, 0, none⟩), fun v => v = .pointer (some ⟨E.g, 0, none⟩), fun v => v = .pointer (some ⟨E.g, 1, none⟩), fun v => v = .pointer (some ⟨E.b, 0, none⟩), fun v => v = .agg (frmL D.mem.g).toArray, fun v => v = .agg D.snap.toArray, fun _ => True]) (by kernel_rfl) (back_of (by kernel_rfl)) (dst_of (by kernel_rfl)) (in_of (by kernel_rfl)) (fun fl h => SL.start (h 14 (by decide)) (Below.drew (Below.refl _ _))) ?hop ?hq
  case hop =>
    intro i o a w fl ho hS hfi hdf hsz hrest hdone
    have t0 : a.tmps.getD 0 undef = .pointer (some ⟨E.g, 0, none⟩) := hrest 0 (not_of (by kernel_rfl))
    have t2 : a.tmps.getD 2 undef = .pointer (some ⟨ge, 0, none⟩) := hrest 2 (not_of (by kernel_rfl))
    have hs : a.tmps.size = 17 := hsz.trans rfl
    have hi : i < 15 := (Array.getElem?_eq_some_iff.1 ho).1
    clear hrest hsz hdf
    obtain rfl | rfl | rfl | rfl | rfl | rfl | rfl | rfl | rfl | rfl | rfl | rfl | rfl | rfl | rfl : i = 0 ∨ i = 1 ∨ i = 2 ∨ i = 3 ∨ i = 4 ∨ i = 5 ∨ i = 6 ∨ i = 7 ∨ i = 8 ∨ i = 9 ∨ i = 10 ∨ i = 11 ∨ i = 12 ∨ i = 13 ∨ i = 14 := by omega
    · obtain rfl := Option.some.inj (show some _ = some o from ho)
      refine wpOp_val (v := .pointer (some ⟨E.g, 0, none⟩)) (w' := w) rfl rfl ?_ ⟨_, rfl, ?_, hS.other (by decide)⟩
      · simp [execOp, Act.eval, t0]
      · rw [own_put rfl (by rw [hs]; omega)]; exact rfl
    · obtain rfl := Option.some.inj (show some _ = some o from ho)
      have s3 : a.tmps.getD 3 undef = .pointer (some ⟨E.g, 0, none⟩) := (hdone _ (Array.mem_of_getElem? (i := 0) rfl) rfl).2 _ rfl
      refine wpOp_val (v := .pointer (some ⟨E.g, 0, none⟩)) (w' := w) rfl rfl ?_ ⟨_, rfl, ?_, hS.other (by decide)⟩
      · simp [execOp, Act.eval, s3, go_sem]
      · rw [own_put rfl (by rw [hs]; omega)]; exact rfl
    · obtain rfl := Option.some.inj (show some _ = some o from ho)
      have s4 : a.tmps.getD 4 undef = .pointer (some ⟨E.g, 0, none⟩) := (hdone _ (Array.mem_of_getElem? (i := 0) rfl) rfl).2 _ rfl
      refine wpOp_val (v := .pointer (some ⟨E.g, 2, none⟩)) (w' := w) rfl rfl ?_ ⟨_, rfl, ?_, hS.other (by decide)⟩
      · simp [execOp, Act.eval, s4, go_sem]
      · rw [own_put rfl (by rw [hs]; omega)]; exact rfl
    · obtain rfl := Option.some.inj (show some _ = some o from ho)
      have s5 : a.tmps.getD 5 undef = .pointer (some ⟨E.g, 2, none⟩) := (hdone _ (Array.mem_of_getElem? (i := 0) rfl) rfl).2 _ rfl
      refine wpOp_val (v := .agg (regsC D.r).toArray) (w' := w) rfl rfl ?_ ⟨_, rfl, ?_, hS.other (by decide)⟩
      · simp [execOp, Act.eval, s5, Instr.loadAt, Instr.sureAddr, HL.out w (hS.was (i := 3) (by simp) hfi).2, Result.andThen_ok]; rfl
      · rw [own_put rfl (by rw [hs]; omega)]; exact rfl
    · obtain rfl := Option.some.inj (show some _ = some o from ho)
      refine wpOp_val (v := .pointer (some ⟨E.g, 0, none⟩)) (w' := w) rfl rfl ?_ ⟨_, rfl, ?_, hS.other (by decide)⟩
      · simp [execOp, Act.eval, t0]
      · rw [own_put rfl (by rw [hs]; omega)]; exact rfl
    · obtain rfl := Option.some.inj (show some _ = some o from ho)
      have s7 : a.tmps.getD 7 undef = .pointer (some ⟨E.g, 0, none⟩) := (hdone _ (Array.mem_of_getElem? (i := 0) rfl) rfl).2 _ rfl
      refine wpOp_val (v := .pointer (some ⟨E.g, 0, none⟩)) (w' := w) rfl rfl ?_ ⟨_, rfl, ?_, hS.other (by decide)⟩
      · simp [execOp, Act.eval, s7, go_sem]
      · rw [own_put rfl (by rw [hs]; omega)]; exact rfl
    · obtain rfl := Option.some.inj (show some _ = some o from ho)
      have s8 : a.tmps.getD 8 undef = .pointer (some ⟨E.g, 0, none⟩) := (hdone _ (Array.mem_of_getElem? (i := 0) rfl) rfl).2 _ rfl
      refine wpOp_val (v := .pointer (some ⟨E.g, 13, none⟩)) (w' := w) rfl rfl ?_ ⟨_, rfl, ?_, hS.other (by decide)⟩
      · simp [execOp, Act.eval, s8, go_sem]
      · rw [own_put rfl (by rw [hs]; omega)]; exact rfl
    · obtain rfl := Option.some.inj (show some _ = some o from ho)
      have s9 : a.tmps.getD 9 undef = .pointer (some ⟨E.g, 13, none⟩) := (hdone _ (Array.mem_of_getElem? (i := 0) rfl) rfl).2 _ rfl
      refine wpOp_val (v := .int .i64 D.set) (w' := w) rfl rfl ?_ ⟨_, rfl, ?_, hS.other (by decide)⟩
      · (have hc := HS.out w (hS.was (i := 7) (by simp) hfi).2; simp [execOp, Act.eval, s9, hc, go_sem])
      · rw [own_put rfl (by rw [hs]; omega)]; exact rfl
    · obtain rfl := Option.some.inj (show some _ = some o from ho)
      refine wpOp_val (v := .pointer (some ⟨E.g, 0, none⟩)) (w' := w) rfl rfl ?_ ⟨_, rfl, ?_, hS.other (by decide)⟩
      · simp [execOp, Act.eval, t0]
      · rw [own_put rfl (by rw [hs]; omega)]; exact rfl
    · obtain rfl := Option.some.inj (show some _ = some o from ho)
      have s11 : a.tmps.getD 11 undef = .pointer (some ⟨E.g, 0, none⟩) := (hdone _ (Array.mem_of_getElem? (i := 0) rfl) rfl).2 _ rfl
      refine wpOp_val (v := .pointer (some ⟨E.g, 0, none⟩)) (w' := w) rfl rfl ?_ ⟨_, rfl, ?_, hS.other (by decide)⟩
      · simp [execOp, Act.eval, s11, go_sem]
      · rw [own_put rfl (by rw [hs]; omega)]; exact rfl
    · obtain rfl := Option.some.inj (show some _ = some o from ho)
      have s12 : a.tmps.getD 12 undef = .pointer (some ⟨E.g, 0, none⟩) := (hdone _ (Array.mem_of_getElem? (i := 0) rfl) rfl).2 _ rfl
      refine wpOp_val (v := .pointer (some ⟨E.g, 1, none⟩)) (w' := w) rfl rfl ?_ ⟨_, rfl, ?_, hS.other (by decide)⟩
      · simp [execOp, Act.eval, s12, go_sem]
      · rw [own_put rfl (by rw [hs]; omega)]; exact rfl
    · obtain rfl := Option.some.inj (show some _ = some o from ho)
      have s13 : a.tmps.getD 13 undef = .pointer (some ⟨E.g, 1, none⟩) := (hdone _ (Array.mem_of_getElem? (i := 0) rfl) rfl).2 _ rfl
      refine wpOp_val (v := .pointer (some ⟨E.b, 0, none⟩)) (w' := w) rfl rfl ?_ ⟨_, rfl, ?_, hS.other (by decide)⟩
      · (have hc := HP.out w (hS.was (i := 11) (by simp) hfi).2; simp [execOp, Act.eval, s13, hc, go_sem])
      · rw [own_put rfl (by rw [hs]; omega)]; exact rfl
    · obtain rfl := Option.some.inj (show some _ = some o from ho)
      have s14 : a.tmps.getD 14 undef = .pointer (some ⟨E.b, 0, none⟩) := (hdone _ (Array.mem_of_getElem? (i := 0) rfl) rfl).2 _ rfl
      have h0 := hS.was (i := 12) (by simp) hfi
      refine wpOp_call (f := 46) (args := #[.pointer (some ⟨E.b, 0, none⟩)]) rfl rfl ?_ ?_
      · simp [go_sem, execOp, Act.eval, Deferred.ofValue, callFunc, Try.func46, Try.f46, s14, resolve, invoke]
      · refine (FR.out w (HM.out w h0.2)).mono ?_
        rintro e w' ⟨rfl, b9⟩
        refine ⟨_, rfl, _, rfl, ?_, SL.moved h0.1 (by decide) (h0.2.trans (b9.mono h0.2.size))⟩
        rw [own_put rfl (by rw [hs]; omega)]; exact rfl
    · obtain rfl := Option.some.inj (show some _ = some o from ho)
      have s6 : a.tmps.getD 6 undef = .agg (regsC D.r).toArray := (hdone _ (Array.mem_of_getElem? (i := 0) rfl) rfl).2 _ rfl
      have s10 : a.tmps.getD 10 undef = .int .i64 D.set := (hdone _ (Array.mem_of_getElem? (i := 1) rfl) rfl).2 _ rfl
      have s15 : a.tmps.getD 15 undef = .agg (frmL D.mem.g).toArray := (hdone _ (Array.mem_of_getElem? (i := 2) rfl) rfl).2 _ rfl
      refine wpOp_val (v := .agg D.snap.toArray) (w' := w) rfl rfl ?_ ⟨_, rfl, ?_, hS.other (by decide)⟩
      · exact exec_build rfl (parts3 (show a.eval _ = _ from s6) (show a.eval _ = _ from s10) (show a.eval _ = _ from s15)) (built_snap _ _ _)
      · rw [own_put rfl (by rw [hs]; omega)]; exact rfl
    · obtain rfl := Option.some.inj (show some _ = some o from ho)
      have s16 : a.tmps.getD 16 undef = .agg D.snap.toArray := (hdone _ (Array.mem_of_getElem? (i := 0) rfl) rfl).2 _ rfl
      have h0 := hS.atK hfi
      have hL : ∀ l ∈ [3, 7, 11, 12], fl l = true := by
        intro l hl
        simp only [List.mem_cons, List.not_mem_nil, or_false] at hl
        rcases hl with rfl | rfl | rfl | rfl
        · exact (hdone _ (Array.mem_of_getElem? (i := 5) rfl) rfl).1
        · exact (hdone _ (Array.mem_of_getElem? (i := 9) rfl) rfl).1
        · exact (hdone _ (Array.mem_of_getElem? (i := 13) rfl) rfl).1
        · exact (hdone _ (Array.mem_of_getElem? (i := 1) rfl) rfl).1
      refine wpOp_skp (w' := w.setRow ge D.snap.toArray) rfl rfl (exec_storeR 51 _ _ rfl ge D.snap.toArray ?_ ?_ (H0.out w h0) info_snap (by kernel_rfl) (snap_one _ _ _)) ⟨undef, rfl, trivial, SL.to hL ⟨(stored_setRow _ _ _ _ _ (H0.out w h0)).row, Trn.trans (Trn.of_below h0) ?_⟩⟩
      · simp [Act.eval, t2]
      · simp [Act.eval, s16]
      · have s := stored_setRow w ge D.snap.toArray _ _ (H0.out w h0)
        exact ⟨s.os, s.tape, s.output, by rw [s.size]; exact Nat.le_refl _, fun k _ hn => s.other k (by simpa using hn)⟩
  case hq =>
    intro u9 w9 fl hfl hS hR9
    have h2 := hS.done (hfl 14 (by decide))
    clear hR9 hS hfl
    rw [show outs _ u9 = [(3, u9 3), (4, u9 4), (5, u9 5), (6, u9 6), (7, u9 7), (8, u9 8), (9, u9 9), (10, u9 10), (11, u9 11), (12, u9 12), (13, u9 13), (14, u9 14), (15, u9 15), (16, u9 16)] by kernel_rfl]
    simp only [putAll, List.setIfInBounds_toArray, List.set_cons_zero, List.set_cons_succ]
    generalize u9 3 = x3
    generalize u9 4 = x4
    generalize u9 5 = x5
    generalize u9 6 = x6
    generalize u9 7 = x7
    generalize u9 8 = x8
    generalize u9 9 = x9
    generalize u9 10 = x10
    generalize u9 11 = x11
    generalize u9 12 = x12
    generalize u9 13 = x13
    generalize u9 14 = x14
    generalize u9 15 = x15
    generalize u9 16 = x16
    clear  u9
    have H2 := Lib.hid h2; clear h2
    go_wp2_with fail
    exact bodyPost_ret (v := .agg D.snap.toArray) (results_cell_row rfl _ _ ge _ D.snap.toArray _ _ rfl H2.out.1 Try.underlying51 rfl info_snap) rfl ⟨rfl, by rw [hge]; exact below_trn2 ZZ.out H2.out.2 hlW⟩
end Go.Proofs.Ythhgcbegcbhaeaa.Mdl

namespace Go.Proofs.Ythhgcbegcbhaeaa.Mdl
open Go.RowKit Go.Maps Ins Trc
set_option linter.unusedVariables false
set_option linter.unusedSimpArgs false
set_option maxRecDepth 100000

theorem info_model : (Try.prog.info? 76).map (·.size) = some 19 := by kernel_rfl
theorem info_pm : (Try.prog.info? 70).map (·.size) = some 1 := by kernel_rfl
theorem info_evsl : (Try.prog.info? 31).map (·.size) = some 1 := by kernel_rfl
theorem mo_one (s : Mo) (h1 : s.prog.oneCell' = true) (h2 : s.memo.oneCell' = true) (h3 : s.answers.oneCell' = true) (h4 : s.trace.oneCell' = true) : s.cells.all (·.oneCell') = true := by
  have hi : ∀ k n, (Value.int k n).oneCell' = true := fun _ _ => rfl
  simp [Mo.cells, h1, h2, h3, h4, hi]
def modelZ : Array Value := #[.slice none 0 0, .pointer none, .int .u64 0, .int .u64 0, .int .u64 0, .int .u64 0, .int .u64 0, .int .u64 0, .int .u64 0, .int .u64 0, .int .u64 0, .int .u64 0, .int .u64 0, .int .i64 0, .int .i64 0, .int .i64 0, .slice none 0 0, .slice none 0 0, .int .i8 0]
theorem zero_model : (Try.prog.info? 76).map (fun i => (i.zero, i.size)) = some (some (.agg modelZ), 19) := by kernel_rfl

def AgainIs (E : Env) (D : Pl) (W : World) (e : Ending) (w' : World) : Prop := ∃ g b, e = .returned (.pointer (some ⟨g, 0, none⟩)) ∧ W.heap.size ≤ g ∧ Below W.heap.size W w' ∧ Rel { E with g := g, b := b, β := W.heap.size } D w'
set_option maxHeartbeats 8000000 in
theorem again_any (E : Env) (D : Pl) (W : World) (R : Rel E D W) (he : D.evs = []) : Calls Try.prog 25 #[.pointer (some ⟨E.g, 0, none⟩)] W (AgainIs E D W) := by
  have hz := (zero_of_info zero_model).1
  obtain ⟨av, tv, hin, hA, hT⟩ := R.st
  obtain ⟨ta, tc, rfl, hev⟩ := hT.evs
  rw [he] at hev hin
  obtain ⟨hz0, aa, ca, rfl, hca, haw⟩ := hA
  have hM := R.mm
  have hcb := hM.code.lt
  have HP := Lib.hid R.pr
  have HW := Lib.hid R.words
  have HE := Lib.hid he
  have CP := Lib.hid (fun w (h : D.mem.at w E.b) h2 => copy_any D.mem E.b w h h2)
  have CE := Lib.hid (fun w (h : EvsAt w ta 0 tc []) => cloneE_any ta tc [] w w h (Below.refl _ _) (by simp))
  have HI := Lib.hid (show W.heap[E.g]? = some (.cells (E.mo D (.slice aa D.ans.length ca) (.slice ta 0 tc)).cells 76 (0, 0)) from hin)
  have HEV := Lib.hid hev
  have HM := Lib.hid hM
  have HAW := Lib.hid (show AnsR W (.slice aa D.ans.length ca) D.ans from ⟨hz0, aa, ca, rfl, hca, haw⟩)
  clear hin hT hev hM hz0 hca haw R he
  have hi := Lib.hid (show (Try.prog.info? 76).map (·.size) = some (E.mo D (.slice aa D.ans.length ca) (.slice ta 0 tc)).cells.size from info_model)
  go_enter Try.func25, Try.ntmps25
  go_wp2_with (first | (refine wpList_load_row rfl 76 _ rfl E.g rfl 76 (E.mo D (.slice aa D.ans.length ca) (.slice ta 0 tc)).cells (0, 0) _ HI.out Try.underlying76 rfl hi.out ?_) | (refine halt_store 76 _ _ rfl ?_))
  refine ⟨?_, trivial⟩
  refine wpList_store_is rfl 76 _ _ rfl W.heap.size (E.mo D (.slice aa D.ans.length ca) (.slice ta 0 tc)).cells rfl rfl 76 _ (heap_last _ _ _ rfl) hi.out rfl (mo_one _ rfl rfl rfl rfl) ?_
  intro w1 s1
  have b1 : Below W.heap.size W w1 := s1.below (below_new (Below.refl _ _) _) (Nat.le_refl _)
  have r1 := s1.row
  have z1 : W.heap.size < w1.heap.size := (Array.getElem?_eq_some_iff.1 r1).1
  have p1 : w1.cell? ⟨E.g, 1, none⟩ = some (.pointer (some ⟨E.b, 0, none⟩)) := by
    have := brow b1 HI.out
    simp only [World.cell?, this]; rfl
  have B1 := Lib.hid b1
  have R1 := Lib.hid r1
  clear s1 b1 r1
  go_wp2_with fail
  refine (CP.out w1 ((HM.out.at_).below B1.out) (by omega)).mono ?_
  rintro e w2 ⟨b, rfl, hb, b2, hS⟩
  have r2 := brow b2 R1.out
  have z2 := b2.size
  have B2 := Lib.hid (B1.out.trans (b2.mono B1.out.size))
  have S2 := Lib.hid hS
  have C2 := Lib.hid (HM.out.code.of_block (B2.out.block _ hcb))
  have hbl : b < w2.heap.size := hS.row.lt
  have hb' : W.heap.size ≤ b := by omega
  have R2 := Lib.hid r2
  clear b2 hS R1 B1 p1 r2
  go_wp2_with (with_reducible refine (halt_store 70 _ _ rfl ?_))
  refine ⟨?_, trivial⟩
  refine wpList_store_cell rfl 70 _ _ rfl W.heap.size 1 (.pointer (some ⟨b, 0, none⟩)) rfl rfl rfl rfl 76 _ R2.out info_pm (by show 1 < 19; decide) ?_
  intro w3 s3
  have r3 := s3.row
  have B3 := Lib.hid (s3.below B2.out (Nat.le_refl _))
  have S3 := Lib.hid (show D.mem.at w3 b from ⟨S2.out.row.of_block (s3.other b (by omega)), S2.out.cn, S2.out.n, S2.out.far, S2.out.bytes⟩)
  have C3 := Lib.hid (C2.out.of_block (s3.other _ (by omega)))
  have z3 : w3.heap.size = w2.heap.size := s3.size
  have q3 : w3.cell? ⟨E.g, 17, none⟩ = some (.slice ta 0 tc) := by
    have := brow B3.out HI.out
    simp only [World.cell?, this]; rfl
  have R3 := Lib.hid r3
  clear s3 r3 B2 S2 C2 R2
  go_wp2_with fail
  refine (CE.out w3 (HEV.out.below B3.out)).mono ?_
  rintro e w4 ⟨v, qs, rfl, hq, ow, _, b4⟩
  obtain rfl : qs = [] := by simpa using hq
  have R4 := Lib.hid (brow b4 R3.out)
  have B4 := Lib.hid (B3.out.trans (b4.mono B3.out.size))
  have S4 := Lib.hid (S3.out.below b4)
  have C4 := Lib.hid (C3.out.of_block (b4.block _ C3.out.lt))
  have O4 := Lib.hid ow
  have z4 := b4.size
  clear hq b4 R3 B3 S3 C3 q3 ow
  go_wp2_with (with_reducible refine (halt_store 31 _ _ rfl ?_))
  refine ⟨?_, trivial⟩
  obtain ⟨v1, v2⟩ := own_slice O4.out
  refine wpList_store_cell rfl 31 _ _ rfl W.heap.size 17 v rfl rfl v1 v2 76 _ R4.out info_evsl (by show 17 < 19; decide) ?_
  intro w5 s5
  have b5 := s5.below B4.out (Nat.le_refl _)
  have t5 : Trn [W.heap.size] w4 w5 := ⟨s5.os, s5.tape, s5.output, by rw [s5.size]; exact Nat.le_refl _, fun k _ hn => s5.other k (by simpa using hn)⟩
  have z5 : w5.heap.size = w4.heap.size := s5.size
  have FO := Lib.hid (show AgainIs E D W (.returned (.pointer (some ⟨W.heap.size, 0, none⟩))) w5 from ⟨W.heap.size, b, rfl, Nat.le_refl _, b5, by
    refine ⟨⟨.slice aa D.ans.length ca, v, s5.row, HAW.out.trn (show Trn [] W w5 from Trn.of_below b5) (fun j hj => by cases hj), [], HE.out.symm, ?_, fun p hp => by cases hp⟩, PrR.trn (E := { E with g := W.heap.size, b := b, β := W.heap.size }) HP.out (show Trn [] W w5 from Trn.of_below b5) (fun j hj => by cases hj), ⟨⟨S4.out.row.of_block (s5.other b (by omega)), S4.out.cn, S4.out.n, S4.out.far, S4.out.bytes⟩, C4.out.of_block (s5.other _ (by omega)), HM.out.kb⟩, HW.out, Nat.le_refl _, hb', by show W.heap.size ≤ _; omega⟩
    rw [HE.out]
    exact own_trn (own_base O4.out (show W.heap.size ≤ w3.heap.size by omega)) t5 (fun j hj hm => by
      have := (World.ownsRow.lt O4.out j hj).1
      rw [List.mem_singleton] at hm
      omega)⟩)
  clear s5 b5 t5 v1 v2
  go_wp2_with fail
  go_ret
  exact FO.out
end Go.Proofs.Ythhgcbegcbhaeaa.Mdl
