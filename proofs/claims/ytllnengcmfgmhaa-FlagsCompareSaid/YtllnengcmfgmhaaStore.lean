/-
  Whole rows stored and loaded, the world behind a store told by what it holds.
-/
import Derived.WalkKit
import Derived.Deep.MidRow
import Derived.Laws.CopyOwn
import Derived.Lib.Hide
import Derived.Deep.OwnRows
import Derived.Laws.Rows
namespace Go.Proofs.Ytllnengcmfgmhaa
open Go Go.RowKit
set_option maxRecDepth 100000
set_option linter.unusedVariables false
variable {P : Program}

/-- Block g now holds these cells; all else is as it was. -/
structure Stored (w : World) (g : Nat) (cells : Array Value) (t : TypeId) (w' : World) : Prop where
  os : w'.os = w.os
  tape : w'.tape = w.tape
  output : w'.output = w.output
  size : w'.heap.size = w.heap.size
  row : w'.heap[g]? = some (.cells cells t (0, 0))
  other : ∀ k, k ≠ g → w'.heap[k]? = w.heap[k]?

theorem stored_setRow (w : World) (g : Nat) (cs old : Array Value) (t : TypeId) (hg : w.heap[g]? = some (.cells old t (0, 0))) : Stored w g cs t (w.setRow g cs) :=
  ⟨rfl, rfl, rfl, by simp [World.setRow], setRow_heap w g _ _ t _ hg, fun k hk => setRow_other w g k cs hk⟩

theorem Stored.below {w w0 w' : World} {g : Nat} {cells : Array Value} {t : TypeId} (h : Stored w g cells t w') {B : Nat} (hb : Below B w0 w) (hB : B ≤ g) : Below B w0 w' :=
  hb.trans ⟨h.os, h.tape, h.output, by rw [h.size]; exact Nat.le_refl _, fun k hk => h.other k (by omega)⟩

theorem Stored.cell {w w' : World} {g : Nat} {cells : Array Value} {t : TypeId} (h : Stored w g cells t w') (i : Nat) : w'.cell? ⟨g, i, none⟩ = cells[i]? := by
  simp [World.cell?, h.row]
theorem Stored.frozen {w w' : World} {g : Nat} {cells : Array Value} {t : TypeId} (h : Stored w g cells t w') (i : Nat) : w'.frozen? ⟨g, i, none⟩ = false := by
  simp [World.frozen?, h.row]
theorem Stored.cellOther {w w' : World} {g : Nat} {cells : Array Value} {t : TypeId} (h : Stored w g cells t w') {k : Nat} (hk : k ≠ g) (i : Nat) : w'.cell? ⟨k, i, none⟩ = w.cell? ⟨k, i, none⟩ := by
  simp [World.cell?, h.other k hk]

/-- A whole row stored into the head of a block. -/
theorem wpList_store_is {ops : Array Oper} {rest : List Oper} {o : Oper} {a : Act} {w : World} {Q : Exit → Act → World → Prop} (hgd : o.guard = none) (ty : TypeId) (x y : Operand) (ho : o.op = .store ty x y)
    (g : Nat) (cells : Array Value) (hx : a.eval x = .pointer (some ⟨g, 0, none⟩)) (hy : a.eval y = .agg cells)
    (t : TypeId) (old : Array Value) (hg : w.heap[g]? = some (.cells old t (0, 0))) (hi : (P.info? ty).map (·.size) = some cells.size)
    (hold : old.size = cells.size) (h1 : cells.all (·.oneCell') = true)
    (h : ∀ w', Stored w g cells t w' → wpList P ops Q rest (a.put o.dst undef) w') : wpList P ops Q (o :: rest) a w :=
  wpList_store_row hgd ty x y ho g cells hx hy t old hg hi hold h1 (h _ (stored_setRow w g cells old t hg))

/-- The same as one step of a region that draws its order. -/
theorem step_store_is {ops : Array Oper} {o : Oper} {a : Act} {w : World} {K : Act → World → Prop} {Q : Exit → Act → World → Prop} {E : Prop} (hgd : o.guard = none) (ty : TypeId) (x y : Operand) (ho : o.op = .store ty x y)
    (g : Nat) (cells : Array Value) (hx : a.eval x = .pointer (some ⟨g, 0, none⟩)) (hy : a.eval y = .agg cells)
    (t : TypeId) (old : Array Value) (hg : w.heap[g]? = some (.cells old t (0, 0))) (hi : (P.info? ty).map (·.size) = some cells.size)
    (hold : old.size = cells.size) (h1 : cells.all (·.oneCell') = true)
    (h : ∀ w', Stored w g cells t w' → K (a.put o.dst undef) w') : if Region.wanted o (yielded ops a.tmps) = true then Oper.wp P o a w K Q else E := by
  have hw : Region.wanted o (yielded ops a.tmps) = true := by simp [Region.wanted, hgd]
  rw [if_pos hw]
  exact wp_store_row ty x y ho g cells hx hy t old hg hi hold h1 (h _ (stored_setRow w g cells old t hg))

/-- The same where the walk has opened the store down to its cells. -/
theorem upon_store_is {o : Oper} {a : Act} {w : World} {K : Act → World → Prop} {Q : Exit → Act → World → Prop} (g : Nat) (cells : Array Value) (t : TypeId) (old : Array Value)
    (hg : w.heap[g]? = some (.cells old t (0, 0))) (hold : old.size = cells.size) (h1 : cells.all (·.oneCell') = true)
    (h : ∀ w', Stored w g cells t w' → K (a.put o.dst undef) w') : o.upon P a K Q (((storeCells ⟨g, 0, none⟩ cells.toList).run P w).andThen fun _ w' => .ok Next.skip w') := by
  have := run_storeCells_from (P := P) g t cells.toList 0 old w hg (by simp; omega) (fun v hv => (Array.all_eq_true_iff_forall_mem.1 h1) v (by simpa using hv))
  rw [this]
  have e : ((old.toList.take 0) ++ cells.toList).toArray = cells := by simp
  rw [e, Result.andThen_ok, Oper.upon_skip]
  exact h _ (stored_setRow w g cells old t hg)

theorem below_new {W w : World} (h : Below W.heap.size W w) (o : Obj) : Below W.heap.size W (w.alloc o) := h.alloc h.size o
theorem below_call {W w w1 : World} (h : Below W.heap.size W w) (b : Below w.heap.size w w1) : Below W.heap.size W w1 := h.trans (b.mono h.size)

/-- A value built of parts, its cells told. -/
theorem wpList_build_is {ops : Array Oper} {rest : List Oper} {o : Oper} {a : Act} {w : World} {Q : Exit → Act → World → Prop} (hg : o.guard = none) (t : TypeId) (parts : Array (Nat × Operand)) (ho : o.op = .build t parts)
    (cells : Array Value) (hf : P.built t (parts.map fun (i, x) => (i, a.eval x)).toList = some cells)
    (h : wpList P ops Q rest (a.put o.dst (.agg cells)) w) : wpList P ops Q (o :: rest) a w :=
  wpList_build hg t parts ho (by rw [hf]; rfl) (by rw [hf]; exact h)

/-- The block that was made last, its number told. -/
theorem heap_last (w : World) (o : Obj) (k : Nat) (h : k = w.heap.size) : (w.alloc o).heap[k]? = some o := by subst h; exact heap_alloc_new w o
theorem heap_past (w : World) (o : Obj) (k : Nat) (h : k < w.heap.size) : (w.alloc o).heap[k]? = w.heap[k]? := Deep.blk_alloc_lt w o k h
theorem size_alloc (w : World) (o : Obj) : (w.alloc o).heap.size = w.heap.size + 1 := Deep.nblk_alloc w o

theorem setCell_row {w : World} {g : Nat} {cs : Array Value} {t : TypeId} {fr : Nat × Nat} (h : w.heap[g]? = some (.cells cs t fr)) (i : Nat) (v : Value) :
    (w.setCell ⟨g, i, none⟩ v).heap[g]? = some (.cells (cs.setIfInBounds i v) t fr) := by
  simp [World.setCell, Array.getElem?_modify, h]
theorem setCell_past (w : World) (a : Addr) (v : Value) (k : Nat) (h : k ≠ a.block) : (w.setCell a v).heap[k]? = w.heap[k]? := Deep.blk_setCell_other w a v k h

theorem stored_setCell {w : World} {g : Nat} {cs : Array Value} {t : TypeId} (h : w.heap[g]? = some (.cells cs t (0, 0))) (i : Nat) (v : Value) : Stored w g (cs.setIfInBounds i v) t (w.setCell ⟨g, i, none⟩ v) :=
  ⟨rfl, rfl, rfl, Deep.nblk_setCell _ _ _, setCell_row h i v, fun k hk => setCell_past _ _ _ _ hk⟩
/-- One cell stored. -/
theorem wpList_store_cell {ops : Array Oper} {rest : List Oper} {o : Oper} {a : Act} {w : World} {Q : Exit → Act → World → Prop} (hgd : o.guard = none) (ty : TypeId) (x y : Operand) (ho : o.op = .store ty x y)
    (g i : Nat) (v : Value) (hx : a.eval x = .pointer (some ⟨g, i, none⟩)) (hy : a.eval y = v) (hv : v.cells = #[v]) (h1 : v.oneCell' = true)
    (t : TypeId) (cells : Array Value) (hg : w.heap[g]? = some (.cells cells t (0, 0))) (hi : (P.info? ty).map (·.size) = some 1) (hlt : i < cells.size)
    (h : ∀ w', Stored w g (cells.setIfInBounds i v) t w' → wpList P ops Q rest (a.put o.dst undef) w') : wpList P ops Q (o :: rest) a w := by
  refine wpList_plain hgd fun _ hK => ?_
  unfold Oper.wp execOp
  have e : ∀ p, storeVar ty p v = storeVar ty p (.agg #[v]) := fun p => by unfold storeVar; rw [hv]; rfl
  have ht : w.there g i (#[v] : Array Value).size := fun j hj => by
    have : j = 0 := by simpa using hj
    subst this
    exact ⟨by simp [World.cell?, hg, hlt], by simp [World.frozen?, hg]⟩
  simp only [ho, hx, hy, Instr.storeAt, Instr.sureAddr, Sem.run_bind, Sem.run_pure, Result.andThen_ok, e, run_storeVar_mid w g i ty #[v] ht hi (by simp [h1])]
  exact hK _ _ (h _ (stored_setCell hg i v))

theorem stored_self {w : World} {g : Nat} {cs : Array Value} {t : TypeId} (h : w.heap[g]? = some (.cells cs t (0, 0))) : Stored w g cs t w := ⟨rfl, rfl, rfl, rfl, h, fun _ _ => rfl⟩
theorem splice_get {α : Type} (L : List α) (off : Nat) (cs : List α) (h : off + cs.length ≤ L.length) (i : Nat) : (splice L off cs)[i]? = if i < off then L[i]? else if i < off + cs.length then cs[i - off]? else L[i]? := by
  unfold splice
  by_cases h1 : i < off
  · rw [if_pos h1, List.getElem?_append_left (by simp; omega), List.getElem?_take_of_lt h1]
  · rw [if_neg h1, List.getElem?_append_right (by simp; omega)]
    have e : (L.take off).length = off := by simp; omega
    rw [e]
    by_cases h2 : i < off + cs.length
    · rw [if_pos h2, List.getElem?_append_left (by omega)]
    · rw [if_neg h2, List.getElem?_append_right (by omega), List.getElem?_drop]
      congr 1; omega
/-- copy(dst, src), dst in a block that is known whole. -/
theorem wpList_copy_is {w : World} {ops : Array Oper} {rest : List Oper} {o : Oper} {a : Act} {Q : Exit → Act → World → Prop} (hgd : o.guard = none) (d s : Operand) (dT sT : TypeId)
    (ho : o.op = .call { callee := .builtin .copy, args := #[d, s], argTypes := #[dT, sT] }) (elem : TypeId) (hu : P.underlying dT = some (.slice elem)) (hsz : (P.info? elem).map (·.size) = some 1)
    (dp sp : Option Addr) (dLen dCap sLen sCap : Nat) (hd : a.eval d = .slice dp dLen dCap) (hs : a.eval s = .slice sp sLen sCap)
    (g off : Nat) (cur : List Value) (t : TypeId) (hg : w.heap[g]? = some (.cells cur.toArray t (0, 0))) (cs : List Value) (hn : cs.length = Nat.min sLen dLen)
    (hpos : 0 < cs.length → dp = some ⟨g, off, none⟩ ∧ ∃ ad, sp = some ad ∧ ∀ j v, cs[j]? = some v → w.cell? (ad.add j) = some v)
    (hfit : off + cs.length ≤ cur.length) (h1 : ∀ v ∈ cs, v.oneCell' = true)
    (h : ∀ w', Stored w g (splice cur off cs).toArray t w' → wpList P ops Q rest (a.put o.dst (goInt cs.length)) w') :
    wpList P ops Q (o :: rest) a w := by
  by_cases h0 : cs.length = 0
  · obtain rfl : cs = [] := List.eq_nil_of_length_eq_zero h0
    refine wpList_copy_nothing hgd d s dT sT ho elem hu hsz dp sp dLen dCap sLen sCap hd hs (by simpa using hn.symm) ?_
    exact h w (by have e : splice cur off [] = cur := by simp [splice]
                  rw [e]; exact stored_self hg)
  · obtain ⟨rfl, ad, rfl, hsrc⟩ := hpos (by omega)
    refine wpList_copy_own hgd d s dT sT ho elem hu hsz g off dLen dCap ad sLen sCap hd hs cur.toArray t hg cs hn hsrc (by simpa using hfit) h1 ?_
    exact h _ (stored_setRow w g _ _ t hg)

/-- To stop a walk: ahead of a store, a load, a build. -/
theorem halt_store {ops : Array Oper} {rest : List Oper} {o : Oper} {a : Act} {w : World} {Q : Exit → Act → World → Prop} (ty : TypeId) (x y : Operand) (ho : o.op = .store ty x y)
    (h : wpList P ops Q (o :: rest) a w ∧ True) : wpList P ops Q (o :: rest) a w := h.1
theorem halt_load {ops : Array Oper} {rest : List Oper} {o : Oper} {a : Act} {w : World} {Q : Exit → Act → World → Prop} (ty : TypeId) (x : Operand) (ho : o.op = .load ty x)
    (h : wpList P ops Q (o :: rest) a w ∧ True) : wpList P ops Q (o :: rest) a w := h.1
theorem halt_build {ops : Array Oper} {rest : List Oper} {o : Oper} {a : Act} {w : World} {Q : Exit → Act → World → Prop} (ty : TypeId) (x : Array (Nat × Operand)) (ho : o.op = .build ty x)
    (h : wpList P ops Q (o :: rest) a w ∧ True) : wpList P ops Q (o :: rest) a w := h.1
end Go.Proofs.Ytllnengcmfgmhaa
