/-
  Several texts in one: MdlK.
-/
import Derived.Test.YthhgcbegcbhaeaaMBh22
import Derived.Test.YthhgcbegcbhaeaaMBh23
import Derived.Test.YthhgcbegcbhaeaaMBh27
import Derived.Lib.SliceRun
set_option linter.unusedVariables false
set_option linter.unusedSimpArgs false
set_option linter.unnecessarySimpa false
namespace Go.Proofs.Ythhgcbegcbhaeaa.Mdl
open Go.RowKit
set_option linter.unusedVariables false
set_option linter.unusedSimpArgs false
set_option maxRecDepth 100000

theorem But.trn {g : Nat} {w w' : World} (h : But g w w') : Trn [g] w w' := ⟨h.os, h.tape, h.output, h.size, fun k hk hn => h.block k hk (fun e => hn (by simp [e]))⟩
theorem Trn.but {g : Nat} {w w' : World} (h : Trn [g] w w') : But g w w' := ⟨h.os, h.tape, h.output, h.size, fun k hk hn => h.block k hk (by simp [hn])⟩
section
variable {ρ : Operand → Value} {o : Oper} {w : World} {x y : Operand} {g b i L c : Nat}
/-- The registers of the arguments. -/
theorem ex_slA (ho : o.op = .slice 48 x (some (.const (.int .i8 1))) (some (.const (.int .i8 6))) none) (h1 : ρ (.const (.int .i8 1)) = .int .i8 1) (h6 : ρ (.const (.int .i8 6)) = .int .i8 6) (hx : ρ x = .pointer (some ⟨g, 2, none⟩)) : (execOp ρ o).run Try.prog w = .ok (.value (.slice (some ⟨g, 3, none⟩) 5 10)) w := by
  simp [execOp, ho, hx, h1, h6, go_sem]
theorem ex_slN (n : Nat) (ho : o.op = .slice 26 x none (some y) none) (hx : ρ x = .slice (some ⟨g, 3, none⟩) 5 10) (hy : ρ y = .int .i64 n) (h5 : n ≤ 5) : (execOp ρ o).run Try.prog w = .ok (.value (.slice (some ⟨g, 3, none⟩) n 10)) w := by
  have e : n ≤ 10 := by omega
  simp [execOp, ho, hx, hy, go_sem, e]
  intro h; omega
theorem ex_sl1 (ho : o.op = .slice 26 x (some (.const (.int .i64 1))) none none) (h1 : ρ (.const (.int .i64 1)) = .int .i64 1) (hx : ρ x = .slice (some ⟨b, i, none⟩) L c) (hL : 1 ≤ L) : (execOp ρ o).run Try.prog w = .ok (.value (.slice (some ⟨b, if c = 1 then i else i + 1, none⟩) (L - 1) (c - 1))) w := by
  have e : (1 : Int) ≤ L := by omega
  by_cases h : c = 1
  · subst h
    simp [execOp, ho, hx, h1, go_sem, e]
  · simp [execOp, ho, hx, h1, go_sem, e, h]
theorem ex_ix0 (ho : o.op = .indexAddr 26 x (.const (.int .i64 0))) (h1 : ρ (.const (.int .i64 0)) = .int .i64 0) (hx : ρ x = .slice (some ⟨b, i, none⟩) L c) (hL : 1 ≤ L) : (execOp ρ o).run Try.prog w = .ok (.value (.pointer (some ⟨b, i, none⟩))) w := by
  simp [execOp, ho, hx, h1, go_sem]
  omega
theorem ex_len {ts : Array TypeId} {ad : Option Addr} (ho : o.op = .call ⟨.builtin .len, #[x], ts⟩) (ht : ts = #[26]) (hx : ρ x = .slice ad L c) : (execOp ρ o).run Try.prog w = .ok (.value (.int .i64 (L : Int))) w := by
  subst ht
  simp [execOp, ho, hx, go_sem]
theorem ex_clear {cs new : Array Value} {t : TypeId} (ho : o.op = .call ⟨.builtin .clear, #[x], #[26]⟩) (hx : ρ x = .slice (some ⟨g, 3, none⟩) 5 10) (hr : w.heap[g]? = some (.cells cs t (0, 0))) (h19 : cs.size = 19)
    (hn : new = ((((cs.setIfInBounds 3 (.int .u64 0)).setIfInBounds 4 (.int .u64 0)).setIfInBounds 5 (.int .u64 0)).setIfInBounds 6 (.int .u64 0)).setIfInBounds 7 (.int .u64 0)) :
    ∃ w', (execOp ρ o).run Try.prog w = .ok (.value (.tuple #[])) w' ∧ w'.heap[g]? = some (.cells new t (0, 0)) ∧ Trn [g] w w' := by
  have e := fun ty => Lib.run_clear_slice (P := Try.prog) w 26 30 ty (.int .u64 0) Try.underlying26 Try.zeroValue30 rfl rfl g 3 5 10 (by decide)
    (fun j hj => by simp [World.cell?, hr, h19]; omega) (fun j hj => by simp [World.frozen?, hr])
  refine ⟨w.setCells g 3 (List.replicate 5 (.int .u64 0)), ?_, ?_, ?_⟩
  · simp only [execOp, ho, List.map_toArray, List.map_cons, List.map_nil, hx, resolve, invoke, builtin, Sem.run_bind, Sem.run_pure, Result.andThen_ok, e]
  · have r3 := setCell_row hr 3 (.int .u64 0)
    have r4 := setCell_row r3 4 (.int .u64 0)
    have r5 := setCell_row r4 5 (.int .u64 0)
    have r6 := setCell_row r5 6 (.int .u64 0)
    have r7 := setCell_row r6 7 (.int .u64 0)
    rw [hn]; exact r7
  · have s := fun (w : World) (i : Nat) => But.trn (But.set w g i (.int .u64 0))
    exact ((((s _ 3).trans (s _ 4)).trans (s _ 5)).trans (s _ 6)).trans (s _ 7)
theorem ex_bs1 {c0 c1 c2 : Value} (ho : o.op = .buildSlice 31 1 #[(0, x)]) (hx : ρ x = .agg #[c0, c1, c2]) : (execOp ρ o).run Try.prog w = .ok (.value (.slice (some ⟨w.heap.size, 0, none⟩) 1 1)) (w.alloc (.cells #[c0, c1, c2] 39)) := by
  obtain ⟨ti, i1, i2, i3, i4⟩ := Trc.info_evt
  have hr := run_buildSlice (P := Try.prog) w 31 39 1 (#[(0, x)].map fun (i, x) => (i, ρ x)) #[c0, c1, c2] ti _ Try.underlying31 i1 i2 (by rw [i3]; decide) (by rw [i3]; decide) (by rw [i3]; simp [hx, Instr.fill]; exact ⟨⟨rfl, Nat.le_refl _⟩, by kernel_rfl⟩)
  simp only [execOp, ho, hr, Sem.run_bind, Sem.run_pure, Result.andThen_ok]
/-- append(s, x...), x one event that lies in a block of its own. -/
theorem ex_app {β n : Nat} {v : Value} {cs ev : List Value} {gs : Nat} (ho : o.op = .call ⟨.builtin .append, #[x, y], #[31, 31]⟩) (hx : ρ x = v) (hy : ρ y = .slice (some ⟨gs, 0, none⟩) 1 1) (hown : w.ownsRow β 39 3 v n cs) (hn : n ≤ 10000)
    (h3 : ev.length = 3) (h1 : ∀ u ∈ ev, u.oneCell' = true) (hr : w.heap[gs]? = some (.cells ev.toArray 39 (0, 0))) (hb : β ≤ w.heap.size) :
    ∃ v' w', (execOp ρ o).run Try.prog w = .ok (.value v') w' ∧ w'.ownsRow β 39 3 v' (n + 1) (cs ++ ev) ∧ w.grownBy w' v.ownBlock ∧ (v'.ownBlock = v.ownBlock ∨ v'.ownBlock = some w.heap.size) := by
  obtain ⟨ti, i1, i2, i3, i4⟩ := Trc.info_evt
  obtain ⟨v', w', hr', h2, h3', h4, h5⟩ := run_append_own_at (P := Try.prog) w β 31 o.type 39 ti _ 3 40 Try.underlying31 i1 i2 i3 i4 rfl (by decide) v n cs hown ⟨gs, 0, none⟩ 1 1 ev (by rw [h3]) (fun j u hu => by
    rw [Addr.add_mid]
    simp only [World.cell?, hr]
    simpa using hu) h1 (by unfold maxLen; omega) (by omega) hb
  refine ⟨v', w', ?_, h2, h3', h5⟩
  simp only [execOp, ho, List.map_toArray, List.map_cons, List.map_nil, hx, hy, resolve, invoke, builtin, Sem.run_bind, Sem.run_pure, Result.andThen_ok, hr']
end
/-- The first registers from R1 on. -/
def Mo.argsL (s : Mo) (n : Nat) : List Int := (List.range n).map (fun k => s.r (k + 1))
theorem Mo.argsAt {s : Mo} {w : World} {g n : Nat} (h : s.in_ w g) (hn : n ≤ 5) : Trc.WordsAt w (some ⟨g, 3, none⟩) n 10 (s.argsL n) := by
  refine ⟨by simp [Mo.argsL], by omega, by omega, fun _ => ⟨g, 3, rfl, fun j z hz => ?_⟩, fun h => by cases h⟩
  have hj : j < n := by
    have := (List.getElem?_eq_some_iff.1 hz).1
    simpa [Mo.argsL] using this
  have e : z = s.r (j + 1) := by
    unfold Mo.argsL at hz
    rw [List.getElem?_map, List.getElem?_range hj] at hz
    simpa using hz.symm
  rw [e]
  have := s.reg h (j + 1) (by omega)
  rw [show 2 + (j + 1) = 3 + j by omega] at this
  exact this
theorem own_base {w : World} {b b' n k : Nat} {e : TypeId} {v : Value} {xs : List Value} (h : w.ownsRow b e k v n xs) (hb : b' ≤ b) : w.ownsRow b' e k v n xs := by
  refine ⟨h.1, ?_⟩
  rcases h.2 with h | ⟨g, cap, cur, e1, e2, e3, r⟩
  · exact .inl h
  · exact .inr ⟨g, cap, cur, e1, Nat.le_trans hb e2, e3, r⟩
/-- A row that is none of those that turned. -/
theorem own_trn {w w' : World} {G : List Nat} {b n k : Nat} {e : TypeId} {v : Value} {xs : List Value} (h : w.ownsRow b e k v n xs) (t : Trn G w w') (hn : ∀ j, v.ownBlock = some j → j ∉ G) : w'.ownsRow b e k v n xs := by
  refine ⟨h.1, ?_⟩
  rcases h.2 with h | ⟨g, cap, cur, e1, e2, e3, r⟩
  · exact .inl h
  · exact .inr ⟨g, cap, cur, e1, e2, t.row e3 (hn g (by rw [e1]; rfl)), r⟩
/-- A row of another type than a block is not that block. -/
theorem own_ne {w : World} {b n k g : Nat} {e t : TypeId} {v : Value} {xs : List Value} {c : Array Value} {fr : Nat × Nat} (h : w.ownsRow b e k v n xs) (hg : w.heap[g]? = some (.cells c t fr)) (ne : e ≠ t) : ∀ j, v.ownBlock = some j → j ≠ g := by
  rintro j hj rfl
  rcases h.2 with ⟨rfl, _⟩ | ⟨g', cap, cur, e1, e2, e3, r⟩
  · cases hj
  · rw [e1] at hj
    obtain rfl : g' = j := by simpa [Value.ownBlock] using hj
    rw [hg] at e3
    simp at e3
    exact ne e3.2.1.symm
theorem own_apart {w : World} {b n k b' n' k' : Nat} {e e' : TypeId} {v v' : Value} {xs xs' : List Value} (h : w.ownsRow b e k v n xs) (h' : w.ownsRow b' e' k' v' n' xs') (ne : e ≠ e') : ∀ j, v.ownBlock = some j → j ∉ v'.ownBlock.toList := by
  intro j hj hm
  rcases h'.2 with ⟨rfl, _⟩ | ⟨g', cap, cur, rfl, e2, e3, r⟩
  · simp [Value.ownBlock] at hm
  · obtain rfl : j = g' := by simpa [Value.ownBlock] using hm
    exact own_ne h e3 ne j hj rfl
theorem own_is {w : World} {b n k : Nat} {e : TypeId} {v : Value} {xs : List Value} (h : w.ownsRow b e k v n xs) : ∃ a l c, v = .slice a l c := by
  rcases h.2 with ⟨rfl, _⟩ | ⟨g, cap, cur, rfl, _⟩ <;> exact ⟨_, _, _, rfl⟩
theorem own_slice {w : World} {b n k : Nat} {e : TypeId} {v : Value} {xs : List Value} (h : w.ownsRow b e k v n xs) : v.cells = #[v] ∧ v.oneCell' = true := by
  rcases h.2 with ⟨rfl, _⟩ | ⟨g, cap, cur, rfl, _⟩ <;> exact ⟨rfl, rfl⟩
theorem trn_grown {w w' : World} {row : Option Nat} (h : w.grownBy w' row) : Trn row.toList w w' := ⟨h.os, h.tape, h.output, h.size, fun k hk hn => h.block k hk (by cases row with | none => simp | some j => simp at hn ⊢; exact hn)⟩
end Go.Proofs.Ythhgcbegcbhaeaa.Mdl
