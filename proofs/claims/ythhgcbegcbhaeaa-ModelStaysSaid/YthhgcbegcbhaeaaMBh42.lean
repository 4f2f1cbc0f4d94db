/-
  Several texts in one: MdlWp, BlkEa, MdlWk.
-/
import Derived.Test.YthhgcbegcbhaeaaMBh41
import Derived.Test.YthhgcbegcbhaeaaMBh31
import Derived.Test.YthhgcbegcbhaeaaMBh02
import Derived.Maps.AppendAt
import Derived.Great.BuildSlice
set_option linter.unusedVariables false
set_option linter.unusedSimpArgs false
set_option linter.unnecessarySimpa false
namespace Go.Proofs.Ythhgcbegcbhaeaa.Mdl
open Go.RowKit Go.Maps Ins Trc
set_option linter.unusedVariables false
set_option linter.unusedSimpArgs false
set_option maxRecDepth 100000

def five (i : Nat) : In := if i = 0 then ⟨0, 11, 64, 0, false, 0, 0, 0, 5⟩ else ⟨6, 0, 0, 0, false, 0, 0, 0, 0⟩
def leave (_ : Nat) : In := ⟨6, 0, 0, 0, false, 0, 0, 0, 0⟩
def asks (i : Nat) : In := if i = 0 then ⟨5, 0, 0, 0, false, 0, 0, 0, 0⟩ else ⟨6, 0, 0, 0, false, 0, 0, 0, 0⟩
theorem five_ok : (checkI 0 2 five).2 = 0 := by decide +kernel
theorem leave_ok : (checkI 0 1 leave).2 = 0 := by decide +kernel
theorem asks_ok : (checkI 0 2 asks).2 = 0 := by decide +kernel
abbrev d0 : Pl := ini 0 0 (fun _ => 0) 9 []
theorem five_goes : Goes (env five 2) d0 1 := fun j hj => by
  obtain rfl : j = 0 := by omega
  exact ⟨by decide +kernel, by decide +kernel⟩
theorem five_ends : Ends five 2 d0 ⟨1, 5, [], [], 7⟩ := ⟨2, .inr ⟨1, rfl, five_goes, by decide +kernel, by decide +kernel⟩, by kernel_rfl⟩
theorem leave_ends : Ends leave 1 d0 ⟨3, 0, [], [], 8⟩ := ⟨1, .inr ⟨0, rfl, fun j hj => absurd hj (Nat.not_lt_zero _), by decide +kernel, by decide +kernel⟩, by kernel_rfl⟩
theorem asks_ends : Ends asks 2 d0 ⟨2, 0, [], [], 8⟩ := ⟨1, .inr ⟨0, rfl, fun j hj => absurd hj (Nat.not_lt_zero _), by decide +kernel, by decide +kernel⟩, by kernel_rfl⟩
end Go.Proofs.Ythhgcbegcbhaeaa.Mdl

namespace Go.Proofs.Ythhgcbegcbhaeaa.Blk
open Go.RowKit Go.Maps Ins
set_option linter.unusedVariables false
set_option maxRecDepth 100000

theorem firstF_of (f : Nat → Int) : ∀ n k, (∀ i, k ≤ i → i < k + n → f i = 0) → firstF f n k = (0, 0)
  | 0, k, _ => rfl
  | n + 1, k, h => by
    unfold firstF
    rw [if_pos (h k (Nat.le_refl _) (by omega))]
    exact firstF_of f n (k + 1) (fun i h1 h2 => h i (by omega) (by omega))
theorem check_of {c : Int} {len : Nat} {xs : Nat → In} (hc : 0 ≤ c ∧ c ≤ 256) (h1 : 1 ≤ len ∧ len ≤ 64) (hf : ∀ k : Nat, k < len → faultI k (xs k) len = 0) (hl : (xs (len - 1)).kind = 4 ∨ (xs (len - 1)).kind = 6) : (checkI c len xs).2 = 0 := by
  unfold checkI
  rw [if_neg (by omega), if_neg (by omega), firstF_of (fun i => faultI i (xs i) len) len 0 (fun i _ hi => hf i (by omega)), if_neg (by simp), if_pos hl]
theorem check_facts {c : Int} {len : Nat} {xs : Nat → In} (h : (checkI c len xs).2 = 0) : (0 ≤ c ∧ c ≤ 256) ∧ (1 ≤ len ∧ len ≤ 64) ∧ (∀ k : Nat, k < len → faultI k (xs k) len = 0) ∧ ((xs (len - 1)).kind = 4 ∨ (xs (len - 1)).kind = 6) := by
  unfold checkI at h
  by_cases h1 : c < 0 ∨ 256 < c
  · rw [if_pos h1] at h; simp at h
  rw [if_neg h1] at h
  by_cases h2 : len < 1 ∨ 64 < len
  · rw [if_pos h2] at h; simp at h
  rw [if_neg h2] at h
  by_cases h3 : (firstF (fun i => faultI i (xs i) len) len 0).2 ≠ 0
  · rw [if_pos h3] at h; exact absurd h h3
  rw [if_neg h3] at h
  by_cases h4 : (xs (len - 1)).kind = 4 ∨ (xs (len - 1)).kind = 6
  case neg => rw [if_neg h4] at h; simp at h
  exact ⟨by omega, by omega, fun k hk => firstF_all (fun i => faultI i (xs i) len) len 0 (by omega) k (by omega) (by omega), h4⟩

/-- An exit behind the instructions. -/
def exitI : In := ⟨6, 0, 0, 0, false, 0, 0, 0, 0⟩
def moreI (xs : Nat → In) (len : Nat) (i : Nat) : In := if i < len then xs i else exitI
theorem moreI_lt {xs : Nat → In} {len i : Nat} (h : i < len) : moreI xs len i = xs i := if_pos h
theorem moreI_at (xs : Nat → In) (len : Nat) : moreI xs len len = exitI := if_neg (by omega)
theorem fault_more {i : Int} {x : In} {n : Nat} (h : faultI i x n = 0) : faultI i x ((n + 1 : Nat) : Int) = 0 := by
  unfold faultI at *
  by_cases h1 : mayI x = false
  · rw [if_pos h1] at h; omega
  rw [if_neg h1] at h ⊢
  by_cases h2 : jumpsI i x = true ∧ (targetI i x < 0 ∨ (n : Int) ≤ targetI i x)
  · rw [if_pos h2] at h; omega
  · rw [if_neg]
    intro h3
    exact h2 ⟨h3.1, by have := h3.2; omega⟩
theorem check_more {c : Int} {len : Nat} {xs : Nat → In} (h : (checkI c len xs).2 = 0) (hl : len < 64) : (checkI c (len + 1) (moreI xs len)).2 = 0 := by
  obtain ⟨hc, h1, hf, _⟩ := check_facts h
  refine check_of hc (by omega) (fun k hk => ?_) ?_
  · by_cases e : k < len
    · rw [moreI_lt e]; exact fault_more (hf k e)
    · obtain rfl : k = len := by omega
      rw [moreI_at]
      unfold faultI
      rw [if_neg (by decide), if_neg]
      intro h3
      have := h3.1
      unfold jumpsI at this
      simp [exitI] at this
  · rw [Nat.add_sub_cancel, moreI_at]; exact .inr rfl
/-- Instructions' cells, one behind the other. -/
def cellsI (xs : Nat → In) : Nat → List Value
  | 0 => []
  | n + 1 => cellsI xs n ++ (xs n).cells.toList
theorem cellsI_length (xs : Nat → In) : ∀ n, (cellsI xs n).length = n * 9
  | 0 => rfl
  | n + 1 => by
    show (cellsI xs n ++ (xs n).cells.toList).length = _
    rw [List.length_append, cellsI_length xs n]
    show n * 9 + 9 = _
    omega
theorem cellsI_get (xs : Nat → In) : ∀ {n i k : Nat}, i < n → k < 9 → (cellsI xs n)[i * 9 + k]? = (xs i).cells.toList[k]?
  | n + 1, i, k, hi, hk => by
    show (cellsI xs n ++ (xs n).cells.toList)[i * 9 + k]? = _
    by_cases e : i < n
    · rw [List.getElem?_append_left (by rw [cellsI_length]; omega)]
      exact cellsI_get xs e hk
    · obtain rfl : i = n := by omega
      rw [List.getElem?_append_right (by rw [cellsI_length]; omega), cellsI_length]
      congr 1; omega
theorem cellsI_one (xs : Nat → In) (n : Nat) : ∀ u ∈ cellsI xs n, u.oneCell' = true := by
  intro u hu
  obtain ⟨j, hj⟩ := List.mem_iff_getElem?.1 hu
  have hl : j < n * 9 := by have := (List.getElem?_eq_some_iff.1 hj).1; rw [cellsI_length] at this; exact this
  have h1 := cellsI_get xs (n := n) (i := j / 9) (k := j % 9) (by omega) (by omega)
  rw [show j / 9 * 9 + j % 9 = j by omega, hj] at h1
  have h2 : u ∈ (xs (j / 9)).cells.toList := List.mem_of_getElem? h1.symm
  have h3 := one_cells (xs (j / 9))
  rw [Array.all_eq_true_iff_forall_mem] at h3
  exact h3 u (by simpa using h2)
theorem cellsI_congr {xs ys : Nat → In} : ∀ {n : Nat}, (∀ i, i < n → xs i = ys i) → cellsI xs n = cellsI ys n
  | 0, _ => rfl
  | n + 1, h => by
    show cellsI xs n ++ (xs n).cells.toList = cellsI ys n ++ (ys n).cells.toList
    rw [cellsI_congr (fun i hi => h i (by omega)), h n (by omega)]
theorem insts_src {W : World} {b o len : Nat} {xs : Nat → In} (hc : ∀ i, i < len → W.rangeAt b (o + i * 9) (xs i).cells.toList) : ∀ j u, (cellsI xs len)[j]? = some u → W.cell? ((⟨b, o, none⟩ : Addr).add j) = some u := by
  intro j u hj
  have hl : j < len * 9 := by have := (List.getElem?_eq_some_iff.1 hj).1; rw [cellsI_length] at this; exact this
  have h1 := cellsI_get xs (n := len) (i := j / 9) (k := j % 9) (by omega) (by omega)
  rw [show j / 9 * 9 + j % 9 = j by omega, hj] at h1
  have h2 := hc (j / 9) (by omega) (j % 9) u h1.symm
  rw [Go.WideShapes.add_plain, show o + j = o + j / 9 * 9 + j % 9 by omega]
  exact h2
theorem own_insts {w : World} {base n : Nat} {v : Value} {xs : Nat → In} (h : w.ownsRow base 55 9 v n (cellsI xs n)) (hn : 0 < n) (hok : ∀ i, i < n → (xs i).Ok) :
    ∃ g cap, v = .slice (some ⟨g, 0, none⟩) n cap ∧ base ≤ g ∧ Insts w (some ⟨g, 0, none⟩) n cap xs := by
  rcases h.2 with ⟨_, h0⟩ | ⟨g, cap, cur, e1, e2, e3, e4, e5, e6, e7⟩
  · omega
  · refine ⟨g, cap, e1, e2, ⟨e4, by unfold maxLen at e5; omega, fun _ => ⟨g, 0, rfl, fun i hi k u hu => ?_⟩, hok⟩⟩
    have hk : k < 9 := (List.getElem?_eq_some_iff.1 hu).1
    have h1 := cellsI_get xs hi hk
    rw [← e7, List.getElem?_take_of_lt (by omega), Array.getElem?_toList] at h1
    simp only [World.cell?, e3, Nat.zero_add]
    rw [h1]; exact hu
theorem ok_more {xs : Nat → In} {len : Nat} (h : ∀ i, i < len → (xs i).Ok) : ∀ i, i < len + 1 → (moreI xs len i).Ok := by
  intro i hi
  by_cases e : i < len
  · rw [moreI_lt e]; exact h i e
  · obtain rfl : i = len := by omega
    rw [moreI_at]
    exact ⟨by decide, by decide, by decide, by decide, by decide, by decide, by decide, by decide⟩
theorem cellsI_more (xs : Nat → In) (len : Nat) : cellsI (moreI xs len) (len + 1) = cellsI xs len ++ exitI.cells.toList := by
  show cellsI (moreI xs len) len ++ (moreI xs len len).cells.toList = _
  rw [moreI_at, cellsI_congr (fun i hi => moreI_lt hi)]
end Go.Proofs.Ythhgcbegcbhaeaa.Blk

namespace Go.Proofs.Ythhgcbegcbhaeaa.Mdl
open Go.RowKit Go.Maps Ins Trc
set_option linter.unusedVariables false
set_option linter.unusedSimpArgs false
set_option maxRecDepth 100000

theorem info_insn : ∃ i, Try.prog.info? 55 = some i ∧ i.zero = some (.agg In.nil.cells) ∧ i.size = 9 := by
  have h : (Try.prog.info? 55).map (fun i => (i.zero, i.size)) = some (some (.agg In.nil.cells), 9) := by kernel_rfl
  cases hi : Try.prog.info? 55 with
  | none => rw [hi] at h; simp at h
  | some i => rw [hi] at h; simp at h; exact ⟨i, rfl, h.1, h.2⟩
def fcells : Array Value := (five 0).cells ++ (five 1).cells
def acells : Array Value := (asks 0).cells ++ (asks 1).cells
theorem five_insts {w : World} {b : Nat} (h : w.heap[b]? = some (.cells fcells 55 (0, 0))) : Insts w (some ⟨b, 0, none⟩) 2 2 five := by
  refine ⟨Nat.le_refl _, by omega, fun _ => ⟨b, 0, rfl, fun i hi j v hv => ?_⟩, fun i hi => ?_⟩
  · have hj : j < 9 := (List.getElem?_eq_some_iff.1 hv).1
    simp only [World.cell?, h]
    have h1 : i = 0 ∨ i = 1 := by omega
    have h2 : j = 0 ∨ j = 1 ∨ j = 2 ∨ j = 3 ∨ j = 4 ∨ j = 5 ∨ j = 6 ∨ j = 7 ∨ j = 8 := by omega
    rcases h1 with rfl | rfl <;> rcases h2 with rfl | rfl | rfl | rfl | rfl | rfl | rfl | rfl | rfl <;> exact hv
  · have h1 : i = 0 ∨ i = 1 := by omega
    rcases h1 with rfl | rfl <;> exact ⟨by decide, by decide, by decide, by decide, by decide, by decide, by decide, by decide⟩
theorem asks_insts {w : World} {b : Nat} (h : w.heap[b]? = some (.cells acells 55 (0, 0))) : Insts w (some ⟨b, 0, none⟩) 2 2 asks := by
  refine ⟨Nat.le_refl _, by omega, fun _ => ⟨b, 0, rfl, fun i hi j v hv => ?_⟩, fun i hi => ?_⟩
  · have hj : j < 9 := (List.getElem?_eq_some_iff.1 hv).1
    simp only [World.cell?, h]
    have h1 : i = 0 ∨ i = 1 := by omega
    have h2 : j = 0 ∨ j = 1 ∨ j = 2 ∨ j = 3 ∨ j = 4 ∨ j = 5 ∨ j = 6 ∨ j = 7 ∨ j = 8 := by omega
    rcases h1 with rfl | rfl <;> rcases h2 with rfl | rfl | rfl | rfl | rfl | rfl | rfl | rfl | rfl <;> exact hv
  · have h1 : i = 0 ∨ i = 1 := by omega
    rcases h1 with rfl | rfl <;> exact ⟨by decide, by decide, by decide, by decide, by decide, by decide, by decide, by decide⟩
theorem leave_okI (i : Nat) : (leave i).Ok := (show (⟨6, 0, 0, 0, false, 0, 0, 0, 0⟩ : In).Ok from ⟨by decide, by decide, by decide, by decide, by decide, by decide, by decide, by decide⟩)
theorem leave_insts {w : World} {b : Nat} (h : w.heap[b]? = some (.cells fcells 55 (0, 0))) : Insts w (some ⟨b, 9, none⟩) 1 1 leave := by
  refine ⟨Nat.le_refl _, by omega, fun _ => ⟨b, 9, rfl, fun i hi j v hv => ?_⟩, fun i _ => ?_⟩
  case refine_2 => exact leave_okI i
  have hj : j < 9 := (List.getElem?_eq_some_iff.1 hv).1
  simp only [World.cell?, h]
  obtain rfl : i = 0 := by omega
  have h2 : j = 0 ∨ j = 1 ∨ j = 2 ∨ j = 3 ∨ j = 4 ∨ j = 5 ∨ j = 6 ∨ j = 7 ∨ j = 8 := by omega
  rcases h2 with rfl | rfl | rfl | rfl | rfl | rfl | rfl | rfl | rfl <;> exact hv
/-- What Run yields, its outcome told. -/
def RanO (k r l : Int) (W : World) (e : Ending) (w' : World) : Prop := ∃ ca cc ta tc, e = .returned (.tuple #[.agg #[.int .i8 k, .int .u64 r, .slice ca 0 cc, .slice ta 0 tc, .int .i64 l], .int .i64 0]) ∧ Below W.heap.size W w'
theorem small_run (x : Nat → In) (b o plen : Nat) (k r l : Int) (hc : (checkI 0 plen x).2 = 0) (he : Ends x plen d0 ⟨k, r, [], [], l⟩) (W : World) (hI : Insts W (some ⟨b, o, none⟩) plen plen x) :
    Calls Try.prog 9 #[.agg #[.int .i64 0, .slice (some ⟨b, o, none⟩) plen plen], .slice none 0 0, .slice none 0 0, .int .i64 9] W (RanO k r l W) := by
  refine (run_ok 0 b o plen plen x none 0 0 (fun _ => 0) none 0 0 0 [] 9 W hI ⟨Nat.le_refl _, by omega, fun h => absurd h (by omega), fun i h => absurd h (by omega)⟩ ⟨rfl, Nat.le_refl _, by omega, fun h => absurd h (by omega), fun _ => rfl⟩ hc rfl (by omega) (by omega) (by decide) (by omega) (fun z hz => by cases hz)).mono ?_
  intro e w' h
  obtain ⟨oo, oa, ob, ta, tc, _, _, h1, rfl, _, h2⟩ := h.plain
  obtain rfl := Ends.uniq h1 he
  exact ⟨oa, ob, ta, tc, rfl, h2⟩

set_option maxHeartbeats 8000000 in
theorem wakes_any (W : World) : Calls Try.prog 8 #[] W fun e w' => e = .returned (.bool true) ∧ Below W.heap.size W w' := by
  obtain ⟨ti, hi1, hi2, hi3⟩ := info_insn
  have TI := Lib.hid (And.intro hi1 (And.intro hi2 hi3))
  clear hi1 hi2 hi3
  have R1 := Lib.hid (fun b W h => small_run five b 0 2 1 5 7 five_ok five_ends W (five_insts h))
  have R2 := Lib.hid (fun b W h => small_run leave b 9 1 3 0 8 leave_ok leave_ends W (leave_insts h))
  have R3 := Lib.hid (fun b W h => small_run asks b 0 2 2 0 8 asks_ok asks_ends W (asks_insts h))
  go_enter Try.func8, Try.ntmps8
  go_wp2_with (refine wpList_buildSlice rfl 22 55 2 _ rfl fcells ti (.agg In.nil.cells) Try.underlying22 TI.out.1 TI.out.2.1 (by rw [TI.out.2.2]; decide) (by rw [TI.out.2.2]; decide) (by rw [TI.out.2.2]; kernel_rfl) ?_)
  have q0 := heap_last W (.cells fcells 55) _ rfl
  have q1 := heap_past (W.alloc (.cells fcells 55)) (.cells #[.int .i64 0, .slice (some ⟨W.heap.size, 0, none⟩) 2 2] 24) W.heap.size (by simp)
  have q2 := heap_last (W.alloc (.cells fcells 55)) (.cells #[.int .i64 0, .slice (some ⟨W.heap.size, 0, none⟩) 2 2] 24) (W.heap.size + 1) (by simp)
  have B0 := below_new (below_new (Below.refl W.heap.size W) (.cells fcells 55)) (.cells #[.int .i64 0, .slice (some ⟨W.heap.size, 0, none⟩) 2 2] 24)
  have q3 := q1.trans q0
  clear q1 q0
  generalize (W.alloc (.cells fcells 55)).alloc (.cells #[.int .i64 0, .slice (some ⟨W.heap.size, 0, none⟩) 2 2] 24) = w0 at *
  refine (R1.out W.heap.size _ q3).mono ?_
  rintro e w1 ⟨c1, d1, t1, u1, rfl, b1⟩
  have hf1 := Lib.hid (brow b1 q3)
  have hp0 := brow b1 q2
  have hp1 : w1.cell? ⟨W.heap.size + 1, 1, none⟩ = some (.slice (some ⟨W.heap.size, 0, none⟩) 2 2) := by simp only [World.cell?, hp0]; rfl
  have B1 := Lib.hid (B0.trans (b1.mono B0.size))
  have l1 := lt_of_cell hp1
  clear b1 q2 q3 B0 R1 hp0
  go_wp2_with fail
  have B2 := Lib.hid (below_new (Below.refl w1.heap.size w1) (.cells #[.int .i8 1, .int .u64 5, .slice c1 0 d1, .slice t1 0 u1, .int .i64 7] 33))
  have r1 := heap_last w1 (.cells #[.int .i8 1, .int .u64 5, .slice c1 0 d1, .slice t1 0 u1, .int .i64 7] 33) _ rfl
  have n1 : w1.heap.size + 1 = (w1.alloc (.cells #[.int .i8 1, .int .u64 5, .slice c1 0 d1, .slice t1 0 u1, .int .i64 7] 33)).heap.size := by simp
  clear hp1
  generalize w1.alloc (.cells #[.int .i8 1, .int .u64 5, .slice c1 0 d1, .slice t1 0 u1, .int .i64 7] 33) = w2 at *
  refine (R2.out W.heap.size _ (brow B2.out hf1.out)).mono ?_
  rintro e w3 ⟨c2, d2, t2, u2, rfl, b3⟩
  have r1 := brow b3 r1
  have B3 := Lib.hid (B1.out.trans ((B2.out.trans (b3.mono B2.out.size)).mono B1.out.size))
  have z3 := b3.size
  clear b3 B2 R2
  go_wp2_with (refine wpList_buildSlice rfl 22 55 2 _ rfl acells ti (.agg In.nil.cells) Try.underlying22 TI.out.1 TI.out.2.1 (by rw [TI.out.2.2]; decide) (by rw [TI.out.2.2]; decide) (by rw [TI.out.2.2]; kernel_rfl) ?_)
  have r2 := heap_last w3 (.cells #[.int .i8 3, .int .u64 0, .slice c2 0 d2, .slice t2 0 u2, .int .i64 8] 33) _ rfl
  have r2 := (heap_past (w3.alloc (.cells #[.int .i8 3, .int .u64 0, .slice c2 0 d2, .slice t2 0 u2, .int .i64 8] 33)) (.cells acells 55) _ (by simp)).trans r2
  have r3 := heap_last (w3.alloc (.cells #[.int .i8 3, .int .u64 0, .slice c2 0 d2, .slice t2 0 u2, .int .i64 8] 33)) (.cells acells 55) (w3.heap.size + 1) (by simp)
  have B4 := below_new (below_new (Below.refl w3.heap.size w3) (.cells #[.int .i8 3, .int .u64 0, .slice c2 0 d2, .slice t2 0 u2, .int .i64 8] 33)) (.cells acells 55)
  have r1 := brow B4 r1
  have B4 := B3.out.trans (B4.mono B3.out.size)
  generalize (w3.alloc (.cells #[.int .i8 3, .int .u64 0, .slice c2 0 d2, .slice t2 0 u2, .int .i64 8] 33)).alloc (.cells acells 55) = w4 at *
  refine (R3.out _ _ r3).mono ?_
  rintro e w5 ⟨c3, d3, t3, u3, rfl, b5⟩
  have r1 := brow b5 r1
  have r2 := brow b5 r2
  have B5 := Lib.hid (B4.trans (b5.mono B4.size))
  have x0 : w5.cell? ⟨w1.heap.size, 0, none⟩ = some (.int .i8 1) := by simp only [World.cell?, r1]; rfl
  have x1 : w5.cell? ⟨w1.heap.size, 1, none⟩ = some (.int .u64 5) := by simp only [World.cell?, r1]; rfl
  have x4 : w5.cell? ⟨w1.heap.size, 4, none⟩ = some (.int .i64 7) := by simp only [World.cell?, r1]; rfl
  have y0 : w5.cell? ⟨w3.heap.size, 0, none⟩ = some (.int .i8 3) := by simp only [World.cell?, r2]; rfl
  have l1 := lt_of_cell x0
  have l2 := lt_of_cell y0
  clear r1 r2 r3 B4 b5 R3 B3 B1 hf1 TI z3
  go_wp2_with fail
  go_ret
  exact ⟨rfl, below_new B5.out _⟩
end Go.Proofs.Ythhgcbegcbhaeaa.Mdl
