/-
  The document's answer latheref04: blocks laid out one by one, a cell of their row stored.
-/
import Derived.Test.YtpbaofidjikdhaaBlkO
import Derived.Test.YtpbaofidjikdhaaRbH
namespace Go.Proofs.Ytpbaofidjikdhaa.Blk
open Go.RowKit Go.Maps Go.Sort Ins
set_option linter.unusedVariables false
set_option maxRecDepth 100000

/-- A block without its successors. -/
def strip (x : Bk) : Bk := ⟨x.fr, x.to, []⟩
/-- What stands after i instructions. -/
def halfF (s : Sh) (n : Nat) : Nat → List Bk
  | 0 => []
  | i + 1 => (bksF s n i).map strip ++ [⟨openF s n i, (i : Int) + 1, []⟩]
theorem halfF_beg {s : Sh} {n i : Nat} (h : beg s n i = true) : halfF s n (i + 1) = halfF s n i ++ [⟨i, (i : Int) + 1, []⟩] := by
  cases i with
  | zero => rfl
  | succ i =>
    show (bksF s n (i + 1)).map strip ++ [⟨openF s n (i + 1), ((i + 1 : Nat) : Int) + 1, []⟩] = ((bksF s n i).map strip ++ [⟨openF s n i, (i : Int) + 1, []⟩]) ++ _
    rw [bksF_succ, if_pos h, openF_step, if_pos h, List.map_append]
    rfl
theorem halfF_not {s : Sh} {n i : Nat} (h : beg s n i = false) : ∃ l f, halfF s n i = l ++ [⟨f, (i : Int), []⟩] ∧ halfF s n (i + 1) = l ++ [⟨f, (i : Int) + 1, []⟩] := by
  cases i with
  | zero => rw [beg_zero] at h; cases h
  | succ i =>
    refine ⟨(bksF s n i).map strip, openF s n i, rfl, ?_⟩
    show (bksF s n (i + 1)).map strip ++ [⟨openF s n (i + 1), ((i + 1 : Nat) : Int) + 1, []⟩] = _
    rw [bksF_succ, if_neg (by rw [h]; simp), openF_step, if_neg (by rw [h]; simp)]
theorem halfF_end {s : Sh} {n : Nat} (h : Fine s n) : halfF s n n = (bksF s n n).map strip := by
  have hp := h.pos
  obtain ⟨m, rfl⟩ : ∃ m, n = m + 1 := ⟨n - 1, by omega⟩
  show (bksF s (m + 1) m).map strip ++ _ = (bksF s (m + 1) (m + 1)).map strip
  rw [bksF_succ, if_pos (show beg s (m + 1) (m + 1) = true from h.ends), List.map_append]
  rfl
theorem halfF_len (s : Sh) (n i : Nat) : (halfF s n i).length ≤ i := by
  cases i with
  | zero => exact Nat.le_refl _
  | succ i =>
    show ((bksF s n i).map strip ++ [_]).length ≤ _
    rw [List.length_append, List.length_map]
    have h1 := bksF_len s n i
    have h2 := cnt_le_self (beg s n) (i + 1)
    show (bksF s n i).length + 1 ≤ i + 1
    omega
/-- Which block has an instruction hangs on where they begin and end alone. -/
theorem ofL_strip : ∀ (l m : List Bk) (i : Int), l.map strip = m.map strip → ofL l i = ofL m i
  | [], [], i, _ => rfl
  | [], y :: m, i, h => by simp at h
  | x :: l, [], i, h => by simp at h
  | x :: l, y :: m, i, h => by
    rw [List.map_cons, List.map_cons] at h
    injection h with h1 h2
    injection h1 with f t _
    unfold ofL
    rw [f, t, ofL_strip l m i h2]

/-- One cell of a row of one's own stored. -/
theorem wpList_store_own1 {P : Program} {ops : Array Oper} {rest : List Oper} {o : Oper} {a : Act} {w : World} {Q : Exit → Act → World → Prop} (hgd : o.guard = none) (ty : TypeId) (x y : Operand) (ho : o.op = .store ty x y)
    (g i : Nat) (v : Value) (hx : a.eval x = .pointer (some ⟨g, i, none⟩)) (hy : a.eval y = v) (hv : v.cells = #[v]) (h1 : v.oneCell' = true)
    {base : Nat} {e : TypeId} {s n cap : Nat} {xs : List Value} (hr : w.ownsRow base e s (.slice (some ⟨g, 0, none⟩) n cap) n xs) (hi : (P.info? ty).map (·.size) = some 1) (hlt : i < n * s)
    (h : ∀ w', w'.ownsRow base e s (.slice (some ⟨g, 0, none⟩) n cap) n (xs.set i v) → w.grownBy w' (some g) → wpList P ops Q rest (a.put o.dst undef) w') : wpList P ops Q (o :: rest) a w := by
  rcases hr.2 with ⟨h0, h2⟩ | ⟨g', cap', cur, e1, e2, e3, e4, e5, e6, e7⟩
  · subst h2; omega
  injection e1 with a1 a2 a3
  injection a1 with a1
  injection a1 with a1
  subst a1 a3
  have hns : n * s ≤ cap * s := Nat.mul_le_mul_right s e4
  refine wpList_store_cell hgd ty x y ho g i v hx hy hv h1 e cur e3 hi (by omega) (fun w' st => h w' ⟨by rw [List.length_set]; exact hr.1, .inr ⟨g, cap, _, rfl, e2, st.row, e4, e5, by simp [e6], ?_⟩⟩ ⟨st.os, st.tape, st.output, by rw [st.size]; exact Nat.le_refl _, fun k hk hne => st.other k (fun e => hne (by rw [e]))⟩)
  rw [Array.toList_setIfInBounds, ← e7, List.take_set]

theorem cellsOf_setTo : ∀ (l : List (Bk × (Option Addr × Nat))) (j : Nat) (p : Bk × (Option Addr × Nat)) (t : Int), l[j]? = some p → (cellsOf l).set (j * 3 + 1) (.int .i64 t) = cellsOf (l.set j (⟨p.1.fr, t, p.1.next⟩, p.2))
  | [], j, p, t, h => by simp at h
  | q :: l, 0, p, t, h => by
    obtain rfl : q = p := by simpa using h
    rfl
  | q :: l, j + 1, p, t, h => by
    have ih := cellsOf_setTo l j p t (by simpa using h)
    show (cell3 q ++ cellsOf l).set ((j + 1) * 3 + 1) _ = cell3 q ++ cellsOf (l.set j _)
    rw [List.set_append_right _ _ (by show 3 ≤ _; omega), ← ih]
    congr 2
    show (j + 1) * 3 + 1 - 3 = _
    omega
theorem cellsOf_setNext : ∀ (l : List (Bk × (Option Addr × Nat))) (j : Nat) (p : Bk × (Option Addr × Nat)) (na : Option Addr) (nc : Nat) (nx : List Int), l[j]? = some p → (cellsOf l).set (j * 3 + 2) (.slice na nx.length nc) = cellsOf (l.set j (⟨p.1.fr, p.1.to, nx⟩, (na, nc)))
  | [], j, p, na, nc, nx, h => by simp at h
  | q :: l, 0, p, na, nc, nx, h => by
    obtain rfl : q = p := by simpa using h
    rfl
  | q :: l, j + 1, p, na, nc, nx, h => by
    have ih := cellsOf_setNext l j p na nc nx (by simpa using h)
    show (cell3 q ++ cellsOf l).set ((j + 1) * 3 + 2) _ = cell3 q ++ cellsOf (l.set j _)
    rw [List.set_append_right _ _ (by show 3 ≤ _; omega), ← ih]
    congr 2
    show (j + 1) * 3 + 2 - 3 = _
    omega

/-- Own goes on when one block's entry is stored. -/
theorem Own.set {base g cap : Nat} {w w' : World} {ps : List (Bk × (Option Addr × Nat))} (h : Own base w (.slice (some ⟨g, 0, none⟩) ps.length cap) ps) {j : Nat} {p : Bk × (Option Addr × Nat)} (hg : w.grownBy w' (some g))
    (hrow : w'.ownsRow base 76 3 (.slice (some ⟨g, 0, none⟩) ps.length cap) ps.length (cellsOf (ps.set j p))) (hp : IntsAt w p.2.1 p.1.next.length p.2.2 p.1.next) (ha : ∀ ad, p.2.1 = some ad → ad.block ≠ g ∧ ad.block < w.heap.size) :
    Own base w' (.slice (some ⟨g, 0, none⟩) (ps.set j p).length cap) (ps.set j p) := by
  have all : ∀ q ∈ ps.set j p, IntsAt w q.2.1 q.1.next.length q.2.2 q.1.next ∧ ∀ ad, q.2.1 = some ad → some g ≠ some ad.block ∧ ad.block < w.heap.size := by
    intro q hq
    rcases List.mem_or_eq_of_mem_set hq with hq | rfl
    · exact ⟨h.nexts q hq, fun ad e => h.apart q hq ad e⟩
    · exact ⟨hp, fun ad e => ⟨fun e2 => (ha ad e).1 (by injection e2 with e2; exact e2.symm), (ha ad e).2⟩⟩
  have hl : (ps.set j p).length = ps.length := List.length_set
  refine ⟨by rw [hl]; exact hrow, fun q hq => (all q hq).1.grown hg (fun ad e => ((all q hq).2 ad e).1), fun q hq ad e => ⟨((all q hq).2 ad e).1, Nat.lt_of_lt_of_le ((all q hq).2 ad e).2 hg.size⟩⟩
end Go.Proofs.Ytpbaofidjikdhaa.Blk
