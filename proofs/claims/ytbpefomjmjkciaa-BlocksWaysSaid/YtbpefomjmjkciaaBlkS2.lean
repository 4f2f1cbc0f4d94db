/-
  Package blocks: Reach.
-/
import Derived.Test.YtbpefomjmjkciaaBlkR
namespace Go.Proofs.Ytbpefomjmjkciaa.Blk
open Go.RowKit Go.Maps Go.Sort Ins
set_option linter.unusedVariables false
set_option maxRecDepth 100000

theorem info_bools : (Try.prog.info? 4).map (fun i => (i.zero, i.size, i.bytes)) = some (some (.bool false), 1, 1) := by kernel_rfl
theorem info_fn1 : (Try.prog.info? 100).map (·.size) = some 1 := by kernel_rfl
theorem marks_made (n : Nat) : (madeCells #[Value.bool false] n).toList = marks n (fun _ => false) := by
  rw [toList_madeCells_one]
  unfold marks
  rw [List.map_const', List.length_range]
theorem left_le (f : Nat → Bool) : ∀ k, left f k ≤ k
  | 0 => Nat.le_refl _
  | k + 1 => by
    have := left_le f k
    show left f k + (if f k then 0 else 1) ≤ k + 1
    split <;> omega
/-- What is reached: the least that holds block 0 and all successors of what it holds. -/
def Reached (bs : List Bk) (base n : Nat) (W : World) (e : Ending) (w' : World) : Prop :=
  ∃ g cp f, e = .returned (.slice (some ⟨g, 0, none⟩) n cp) ∧ w'.ownsRow base 4 1 (.slice (some ⟨g, 0, none⟩) n cp) n (marks n f) ∧ Walked bs (· = 0) (fun _ => false) f ∧ f 0 = true ∧ Below W.heap.size W w'

set_option maxHeartbeats 4000000 in
theorem reach_yes (a : Option Addr) (n c : Nat) (bs : List Bk) (W : World) (h : Blks W a n c bs) (hm : mayL bs = true) (h0 : 0 < n) :
    Calls Try.prog 27 #[.slice a n c] W (Reached bs W.heap.size n W) := by
  have h64 : n ≤ 64 := by have := mayL_len hm; have := h.size; omega
  have e0 : ((n : Int) == 0) = false := by simpa using (by omega : ¬ (n : Int) = 0)
  have M := Lib.hid (fun w b => may_any a n c bs w (h.below (w := w) b))
  rw [hm] at M
  have K := Lib.hid (walk_any a n c bs W h hm)
  clear h hm
  have hmf : ∀ (fn : Fn) (first cap : Array Value) (w : World), (Instr.makeFunc fn first cap).run Try.prog w = .ok (.func fn first cap) w := fun _ _ _ _ => rfl
  have hmk : ∀ w, (Instr.makeSlice 47 (.int .i64 (n : Int)) (.int .i64 (n : Int))).run Try.prog w = .ok (.slice (some ⟨w.heap.size, 0, none⟩) n n) (w.alloc (.cells (madeCells #[.bool false] n) 4)) := fun w => run_make_row' (P := Try.prog) 47 4 (.bool false) 1 Try.underlying47 info_bools rfl .i64 .i64 n (by omega) (by omega) w
  go_enter Try.func27, Try.ntmps27
  go_wp2_with (first | (go_at_call 24; refine (M.out _ (below_new (Below.refl _ _) _)).mono ?_; rintro e w1 ⟨rfl, b1⟩; have cP := (b1.cell (p := ⟨W.heap.size, 0, none⟩) (by simp)).trans (show (W.alloc (.cells #[.slice a n c] 42)).cell? ⟨W.heap.size, 0, none⟩ = some (.slice a n c) by simp)) | (with_reducible refine (halt_store 100 _ _ rfl ?_)))
  refine ⟨?_, trivial⟩
  have hz1 : W.heap.size < w1.heap.size := by have := b1.size; simp at this; omega
  have B1 := Lib.hid (below_call (below_new (Below.refl _ W) _) b1)
  have CP := Lib.hid cP
  clear b1 cP
  generalize hN : w1.heap.size = N at *
  generalize hX : ((w1.alloc (Obj.cells (madeCells #[Value.bool false] n) 4)).alloc (Obj.cells #[Value.slice (some { block := N, off := 0 }) n n] 47)).alloc (Obj.cells #[Value.nilFunc] 100) = X at *
  have BX := Lib.hid (show Below W.heap.size W X by rw [← hX]; exact below_new (below_new (below_new B1.out _) _) _)
  have c3 : X.heap[N + 1 + 1]? = some (.cells #[Value.nilFunc] 100 (0, 0)) := by
    rw [← hX]; exact heap_last _ _ _ (by rw [size_alloc, size_alloc, hN])
  have c2 : X.heap[N + 1]? = some (.cells #[Value.slice (some { block := N, off := 0 }) n n] 47 (0, 0)) := by
    rw [← hX, heap_past _ _ _ (by rw [size_alloc, size_alloc, hN]; omega)]; exact heap_last _ _ _ (by rw [size_alloc, hN])
  have c1 : X.heap[N]? = some (.cells (madeCells #[Value.bool false] n) 4 (0, 0)) := by
    rw [← hX, heap_past _ _ _ (by rw [size_alloc, size_alloc, hN]; omega), heap_past _ _ _ (by rw [size_alloc, hN]; omega)]; exact heap_last _ _ _ hN.symm
  have c4 : X.cell? ⟨W.heap.size, 0, none⟩ = some (.slice a n c) := by
    rw [← hX]
    have := (below_new (below_new (below_new (Below.refl w1.heap.size w1) (Obj.cells (madeCells #[Value.bool false] n) 4)) (Obj.cells #[Value.slice (some { block := N, off := 0 }) n n] 47)) (Obj.cells #[Value.nilFunc] 100)).cell (p := ⟨W.heap.size, 0, none⟩) (by simp only; omega)
    exact this.trans CP.out
  have OX : X.ownsRow W.heap.size 4 1 (.slice (some ⟨N, 0, none⟩) n n) n (marks n (fun _ => false)) :=
    ⟨by rw [marks_len]; omega, .inr ⟨N, n, _, rfl, by omega, c1, Nat.le_refl _, by unfold maxLen; omega, by rw [size_madeCells]; omega, by rw [marks_made, Nat.mul_one, List.take_of_length_le (by rw [marks_len]; exact Nat.le_refl _)]⟩⟩
  refine wpList_store_cell rfl 100 _ _ rfl (N + 1 + 1) 0 (.func (.func 61) #[] #[.pointer (some ⟨N + 1, 0, none⟩), .pointer (some ⟨W.heap.size, 0, none⟩), .pointer (some ⟨N + 1 + 1, 0, none⟩)]) rfl rfl rfl rfl _ _ c3 info_fn1 (by simp) ?_
  intro w5 st
  have g5 := grown_stored st
  have O5 := Lib.hid (OX.kept g5 (.inr (by simp [Value.ownBlock]; omega)))
  have cr : w5.cell? ⟨N + 1, 0, none⟩ = some (.slice (some ⟨N, 0, none⟩) n n) := g5.cell (by simp [World.cell?, c2]) (fun e => by injection e with e; exact absurd (show N + 1 = N + 1 + 1 from e) (by omega))
  have cl : w5.cell? ⟨W.heap.size, 0, none⟩ = some (.slice a n c) := g5.cell c4 (fun e => by injection e with e; exact absurd (show W.heap.size = N + 1 + 1 from e) (by omega))
  have cw : w5.cell? ⟨N + 1 + 1, 0, none⟩ = some (.func (.func 61) #[] #[.pointer (some ⟨N + 1, 0, none⟩), .pointer (some ⟨W.heap.size, 0, none⟩), .pointer (some ⟨N + 1 + 1, 0, none⟩)]) := (st.cell 0).trans rfl
  have B5 := Lib.hid (BX.out.grown g5 (BX.out.size) (fun j e => by injection e with e; omega))
  have C := Lib.hid (K.out N (N + 1) W.heap.size (N + 1 + 1) n (by omega) (by omega) (by omega) (n + 1) (fun _ => false) 0 w5 (by have := left_le (fun _ => false) n; omega) h0 B5.out O5.out cr cl cw)
  have CR := Lib.hid cr
  clear c1 c2 c3 c4 OX hX st g5 BX K M cr cl CP
  go_wp2_with fail
  refine C.out.mono ?_
  rintro e w6 ⟨rfl, f', W6, m6, o6, g6⟩
  have cr6 := g6.cell CR.out (fun e => by injection e with e; exact absurd (show N + 1 = N from e) (by omega))
  have B6 := Lib.hid (B5.out.grown g6 (B5.out.size) (fun j e => by injection e with e; omega))
  have O6 := Lib.hid o6
  have K6 := Lib.hid W6
  have M6 := Lib.hid m6
  clear g6 o6 W6 m6 cw
  go_wp2_with fail
  go_ret
  exact ⟨N, n, f', rfl, O6.out, K6.out, M6.out, B6.out⟩

theorem reach_no (a : Option Addr) (n c : Nat) (bs : List Bk) (W : World) (h : Blks W a n c bs) (h0 : mayL bs = false ∨ n = 0) :
    Calls Try.prog 27 #[.slice a n c] W fun e w' => e = .returned (.slice none 0 0) ∧ Below W.heap.size W w' := by
  have hl := h.le
  have hf := h.fit
  have M := Lib.hid (fun w b => may_any a n c bs w (h.below (w := w) b))
  clear h
  by_cases hn : n = 0
  · subst hn
    go_enter Try.func27, Try.ntmps27
    go_wp2_with fail
    go_ret
    exact ⟨rfl, below_new (Below.refl _ _) _⟩
  · have e0 : ((n : Int) == 0) = false := by simpa using (by omega : ¬ (n : Int) = 0)
    rcases h0 with hm | h0
    · rw [hm] at M
      go_enter Try.func27, Try.ntmps27
      go_wp2_with fail
      refine (M.out _ (below_new (Below.refl _ _) _)).mono ?_
      rintro e w1 ⟨rfl, b1⟩
      go_wp2_with fail
      go_ret
      exact ⟨rfl, below_call (below_new (Below.refl _ _) _) b1⟩
    · exact absurd h0 hn
end Go.Proofs.Ytbpefomjmjkciaa.Blk
