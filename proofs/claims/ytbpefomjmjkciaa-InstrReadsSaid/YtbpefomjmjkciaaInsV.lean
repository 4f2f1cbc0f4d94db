/-
  Package instr: what Decode's closure and first do, row by row.
-/
import Derived.Test.YtbpefomjmjkciaaInsR
import Derived.Test.YtbpefomjmjkciaaInsU
import Derived.Laws.AppendOwn
import Derived.Maps.AppendAt
namespace Go.Proofs.Ytbpefomjmjkciaa.Ins
open Go.RowKit
set_option linter.unusedVariables false
set_option maxRecDepth 100000

def cellsI (xs : Nat → In) : Nat → List Value
  | 0 => []
  | n + 1 => cellsI xs n ++ (xs n).cells.toList
theorem cellsI_length (xs : Nat → In) : ∀ n, (cellsI xs n).length = n * 9
  | 0 => rfl
  | n + 1 => by
    show (cellsI xs n ++ (xs n).cells.toList).length = _
    rw [List.length_append, cellsI_length xs n]
    show n * 9 + 9 = _
    omega
theorem cellsI_get (xs : Nat → In) : ∀ {n i k : Nat}, i < n → k < 9 → (cellsI xs n)[i * 9 + k]? = (xs i).cells.toList[k]?
  | n + 1, i, k, hi, hk => by
    show (cellsI xs n ++ (xs n).cells.toList)[i * 9 + k]? = _
    by_cases e : i < n
    · rw [List.getElem?_append_left (by rw [cellsI_length]; omega)]
      exact cellsI_get xs e hk
    · obtain rfl : i = n := by omega
      rw [List.getElem?_append_right (by rw [cellsI_length]; omega), cellsI_length]
      congr 1; omega
theorem cellsI_one (xs : Nat → In) (n : Nat) : ∀ u ∈ cellsI xs n, u.oneCell' = true := by
  intro u hu
  obtain ⟨j, hj⟩ := List.mem_iff_getElem?.1 hu
  have hl : j < n * 9 := by have := (List.getElem?_eq_some_iff.1 hj).1; rw [cellsI_length] at this; exact this
  have h1 := cellsI_get xs (n := n) (i := j / 9) (k := j % 9) (by omega) (by omega)
  rw [show j / 9 * 9 + j % 9 = j by omega, hj] at h1
  have h2 : u ∈ (xs (j / 9)).cells.toList := List.mem_of_getElem? h1.symm
  have h3 := one_cells (xs (j / 9))
  rw [Array.all_eq_true_iff_forall_mem] at h3
  exact h3 u (by simpa using h2)
theorem cellsI_congr {xs ys : Nat → In} : ∀ {n : Nat}, (∀ i, i < n → xs i = ys i) → cellsI xs n = cellsI ys n
  | 0, _ => rfl
  | n + 1, h => by
    show cellsI xs n ++ (xs n).cells.toList = cellsI ys n ++ (ys n).cells.toList
    rw [cellsI_congr (fun i hi => h i (by omega)), h n (by omega)]
theorem insts_src {W : World} {b o len : Nat} {xs : Nat → In} (hc : ∀ i, i < len → W.rangeAt b (o + i * 9) (xs i).cells.toList) : ∀ j u, (cellsI xs len)[j]? = some u → W.cell? ((⟨b, o, none⟩ : Addr).add j) = some u := by
  intro j u hj
  have hl : j < len * 9 := by have := (List.getElem?_eq_some_iff.1 hj).1; rw [cellsI_length] at this; exact this
  have h1 := cellsI_get xs (n := len) (i := j / 9) (k := j % 9) (by omega) (by omega)
  rw [show j / 9 * 9 + j % 9 = j by omega, hj] at h1
  have h2 := hc (j / 9) (by omega) (j % 9) u h1.symm
  rw [Go.WideShapes.add_plain, show o + j = o + j / 9 * 9 + j % 9 by omega]
  exact h2
theorem own_insts {w : World} {base n : Nat} {v : Value} {xs : Nat → In} (h : w.ownsRow base 26 9 v n (cellsI xs n)) (hn : 0 < n) (hok : ∀ i, i < n → (xs i).Ok) :
    ∃ g cap, v = .slice (some ⟨g, 0, none⟩) n cap ∧ base ≤ g ∧ Insts w (some ⟨g, 0, none⟩) n cap xs := by
  rcases h.2 with ⟨_, h0⟩ | ⟨g, cap, cur, e1, e2, e3, e4, e5, e6, e7⟩
  · omega
  · refine ⟨g, cap, e1, e2, ⟨e4, by unfold maxLen at e5; omega, fun _ => ⟨g, 0, rfl, fun i hi k u hu => ?_⟩, hok⟩⟩
    have hk : k < 9 := (List.getElem?_eq_some_iff.1 hu).1
    have h1 := cellsI_get xs hi hk
    rw [← e7, List.getElem?_take_of_lt (by omega), Array.getElem?_toList] at h1
    simp only [World.cell?, e3, Nat.zero_add]
    rw [h1]; exact hu

theorem info_ins40 : ∃ i z, Try.prog.info? 26 = some i ∧ i.zero = some z ∧ z.cells.size = 9 ∧ i.size = 9 ∧ i.bytes ≤ 100 := by
  have h : (Try.prog.info? 26).map (fun i => (i.zero.map (·.cells.size), i.size, decide (i.bytes ≤ 100))) = some (some 9, 9, true) := by kernel_rfl
  cases hi : Try.prog.info? 26 with
  | none => rw [hi] at h; simp at h
  | some i =>
    rw [hi] at h
    simp at h
    obtain ⟨h1, h2, h3⟩ := h
    obtain ⟨z, hz, hz2⟩ := h1
    exact ⟨i, z, rfl, hz, hz2, h2, h3⟩
theorem info_isl : (Try.prog.info? 30).map (·.size) = some 1 := by kernel_rfl
theorem halt_app {P : Program} {ops : Array Oper} {rest : List Oper} {o : Oper} {a : Act} {w : World} {Q : Exit → Act → World → Prop} (s x : Operand) (t : TypeId) (ho : o.op = .call { callee := .builtin .append, args := #[s, x], argTypes := #[t, t] })
    (h : wpList P ops Q (o :: rest) a w ∧ True) : wpList P ops Q (o :: rest) a w := h.1
theorem cells_at (w : World) (cs : Array Value) (t : TypeId) : ∀ j u, cs.toList[j]? = some u → (w.alloc (.cells cs t)).cell? ((⟨w.heap.size, 0, none⟩ : Addr).add j) = some u := by
  intro j u hu
  have := heap_last w (.cells cs t) _ rfl
  rw [Go.WideShapes.add_plain, Nat.zero_add]
  simp only [World.cell?]
  rw [this]
  simpa using hu
theorem ins_one (x : In) : ∀ u ∈ x.cells.toList, u.oneCell' = true := by
  intro u hu
  simp [In.cells] at hu
  rcases hu with rfl | rfl | rfl | rfl | rfl | rfl | rfl | rfl | rfl <;> rfl

/-- What has turned since w0 but for block bp. -/
theorem grown_step {w0 w w' : World} {bp : Nat} {row : Option Nat} (h : w0.grownBy w (some bp)) (g : w.grownBy w' row) (hr : ∀ j, row = some j → w0.heap.size ≤ j ∨ j = bp) : w0.grownBy w' (some bp) :=
  ⟨g.os.trans h.os, g.tape.trans h.tape, g.output.trans h.output, Nat.le_trans h.size g.size, fun k hk hne => by
    rw [g.block k (Nat.lt_of_lt_of_le hk h.size) (fun e => by
      rcases hr k e.symm with h1 | h1
      · omega
      · exact hne (by rw [h1]))]
    exact h.block k hk hne⟩
theorem grown_below2 {w w' : World} (h : Below w.heap.size w w') : w.grownBy w' none := ⟨h.os, h.tape, h.output, h.size, fun k hk _ => h.block k hk⟩
theorem grown_stored2 {w w' : World} {g : Nat} {cells : Array Value} {t : TypeId} (h : Stored w g cells t w') : w.grownBy w' (some g) := ⟨h.os, h.tape, h.output, by rw [h.size]; exact Nat.le_refl _, fun k _ hk => h.other k (fun e => hk (by rw [e]))⟩

/-- The program under way: its context, k instructions. -/
structure Half (w0 : World) (bp : Nat) (c : Int) (k : Nat) (xs : Nat → In) (w : World) : Prop where
  row : ∃ v, w.heap[bp]? = some (.cells #[.int .i64 c, v] 32 (0, 0)) ∧ w.ownsRow w0.heap.size 26 9 v k (cellsI xs k)
  lt : bp < w0.heap.size
  grown : w0.grownBy w (some bp)
/-- A row of eight bytes lies where it lay. -/
def Row8 (w : World) (b o : Nat) (f : Nat → Int) : Prop := ∀ i, i < 8 → w.cell? ⟨b, o + i, none⟩ = some (.int .u8 (f i))

def DecStep (w0 : World) (bp : Nat) (c : Int) (k : Nat) (xs : Nat → In) (r : Int) (w : World) (e : Ending) (w' : World) : Prop :=
  e = .returned (.int .i64 r) ∧ Half w0 bp c (k + 1) xs w'

set_option maxHeartbeats 4000000 in
theorem dec1_any (w0 : World) (bp : Nat) (c : Int) (k : Nat) (xs : Nat → In) (b o : Nat) (f : Nat → Int) (w : World) (h : Half w0 bp c k xs w) (hk : k < 64) (hf : ∀ i, i < 8 → 0 ≤ f i ∧ f i < 256) (hr : Row8 w b o f) (hx : xs k = (readI (getI f 8)).1) :
    Calls Try.prog 55 #[.int .i64 (k : Int), .slice (some ⟨b, o, none⟩) 8 8, .pointer (some ⟨bp, 0, none⟩)] w (DecStep w0 bp c k xs (readI (getI f 8)).2 w) := by
  have RD := Lib.hid (read_8 b o 8 f w (by omega) (by omega) hf hr)
  rw [← hx] at RD
  clear hr hf hx
  obtain ⟨v, h1, h2⟩ := h.row
  have hlt := h.lt
  have HG := Lib.hid h.grown
  have hz0 := h.grown.size
  clear h
  have H1 := Lib.hid h1
  have H2 := Lib.hid h2
  clear h1 h2
  generalize (readI (getI f 8)).2 = r at *
  obtain ⟨ti, tz, hi1, hi2, hi3, hi4, hi5⟩ := info_ins40
  have TI := Lib.hid (And.intro hi1 (And.intro hi2 (And.intro hi3 (And.intro hi4 hi5))))
  clear hi1 hi2 hi3 hi4 hi5
  unfold DecStep
  go_enter Try.func55, Try.ntmps55
  go_wp2_with fail
  refine RD.out.mono ?_
  rintro e w1 ⟨rfl, b1⟩
  have G1 := Lib.hid (grown_below2 b1)
  have hz1 := b1.size
  clear b1 RD
  go_wp2_with (with_reducible refine (halt_store 26 _ _ rfl ?_))
  refine ⟨?_, trivial⟩
  refine wpList_store_is rfl 26 _ _ rfl w1.heap.size (xs k).cells rfl rfl 26 _ (heap_last w1 _ _ rfl) info_ins rfl (one_cells _) ?_
  intro w2 s2
  have X2 := Lib.hid s2.row
  have hz2 : w2.heap.size = w1.heap.size + 1 := by rw [s2.size, size_alloc]
  have b2 : w.grownBy w2 none := ⟨s2.os.trans G1.out.os, s2.tape.trans G1.out.tape, s2.output.trans G1.out.output, by omega, fun j hj _ => by
    rw [s2.other j (by omega), heap_past w1 _ _ (by omega)]; exact G1.out.block j hj (by simp)⟩
  have G2 := Lib.hid b2
  have P2 := Lib.hid ((b2.block bp (by omega) (by simp)).trans H1.out)
  have O2 := Lib.hid (H2.out.kept b2 (Classical.em _))
  clear s2 b2 G1 H1 H2
  generalize hN : w1.heap.size = N at *
  have hp1 : w2.cell? ⟨bp, 1, none⟩ = some v := by simp [World.cell?, P2.out]
  generalize hxk : xs k = x at *
  have HXK := Lib.hid hxk
  clear hxk
  go_wp2_with (with_reducible refine (halt_load 26 _ rfl ?_))
  refine ⟨?_, trivial⟩
  refine wpList_load_row rfl 26 _ rfl N rfl _ x.cells _ _ X2.out Try.underlying26 rfl info_ins ?_
  unfold In.cells
  go_wp2_with (with_reducible refine (halt_app _ _ 30 rfl ?_))
  refine ⟨?_, trivial⟩
  refine wpList_append_own _ rfl _ _ 30 rfl w0.heap.size 26 ti tz 9 ti.bytes Try.underlying30 TI.out.1 TI.out.2.1 TI.out.2.2.2.1 rfl TI.out.2.2.1 (by decide) _ k (cellsI xs k) rfl (O2.out.alloc _) ⟨w2.heap.size, 0, none⟩ 1 1 x.cells.toList (by rw [hz2]; rfl) rfl (cells_at w2 x.cells _) (ins_one x) (by unfold maxLen; omega) (by have := Nat.mul_le_mul (show k + 1 ≤ 65 by omega) TI.out.2.2.2.2; omega) (by simp; omega) ?_
  intro v3 w3 o3 g3 _
  have hub : ∀ j, v.ownBlock = some j → w0.heap.size ≤ j := fun j hj => (World.ownsRow.lt O2.out j hj).1
  have g3' : (w2.alloc (.cells x.cells 26)).grownBy w3 v.ownBlock := g3
  have P3 := Lib.hid ((g3'.block bp (by rw [size_alloc]; omega) (fun e => by have := hub bp e.symm; omega)).trans ((heap_past w2 _ bp (by omega)).trans P2.out))
  have G3 := Lib.hid (grown_step (grown_step (grown_step HG.out G2.out (fun j e => by cases e)) (grown_below2 (below_new (Below.refl _ w2) (.cells x.cells 26))) (fun j e => by cases e)) g3' (fun j e => .inl (hub j e)))
  obtain ⟨gv, capv, rfl⟩ := ownsRow_succ o3
  have hgv := (World.ownsRow.lt o3 gv rfl).1
  have O3 := Lib.hid (show w3.ownsRow w0.heap.size 26 9 (.slice (some ⟨gv, 0, none⟩) (k + 1) capv) (k + 1) (cellsI xs (k + 1)) by
    show w3.ownsRow _ _ _ _ _ (cellsI xs k ++ (xs k).cells.toList)
    rw [HXK.out]; exact o3)
  clear o3 g3 g3' hub hp1 G2 HG P2 O2 X2 TI HXK
  go_wp2_with (with_reducible refine (halt_store 30 _ _ rfl ?_))
  refine ⟨?_, trivial⟩
  refine wpList_store_cell rfl 30 _ _ rfl bp 1 (.slice (some ⟨gv, 0, none⟩) (k + 1) capv) rfl rfl rfl rfl 32 _ P3.out info_isl (by simp) ?_
  intro w4 s4
  have H4 := Lib.hid (show Half w0 bp c (k + 1) xs w4 from ⟨⟨_, s4.row, O3.out.kept (grown_stored2 s4) (.inr (by simp [Value.ownBlock]; omega))⟩, hlt, grown_step G3.out (grown_stored2 s4) (fun j e => by injection e with e; exact .inr e.symm)⟩)
  clear s4 P3 G3 O3
  go_wp2_with fail
  go_ret
  exact ⟨rfl, H4.out⟩
end Go.Proofs.Ytbpefomjmjkciaa.Ins
