/-
  Several texts in one: TrcQ.
-/
import Derived.Test.YthhgcbegcbhaeaaMBh16
import Derived.Laws.Cover3
set_option linter.unusedVariables false
set_option linter.unusedSimpArgs false
set_option linter.unnecessarySimpa false
namespace Go.Proofs.Ythhgcbegcbhaeaa.Trc
open Go.RowKit Go.Maps
set_option linter.unusedVariables false
set_option maxRecDepth 100000

theorem eql_nil {P : Program} (t e : TypeId) (a : Option Addr) (l c : Nat) (h : P.underlying t = some (.slice e)) (w : World) : (binOp .eql t (.slice a l c) (.slice none 0 0)).run P w = .ok (.bool a.isNone) w := by
  simp only [binOp]
  simp [run_equal_slice_nil w t e a l c h]
theorem below_new2 {W w : World} (h : Below W.heap.size W w) (o : Obj) : Below W.heap.size W (w.alloc o) := h.alloc h.size o
theorem ints_one (k : IntKind) (zs : List Int) : ∀ u ∈ zs.map (Value.int k), u.oneCell' = true := by
  intro u hu
  obtain ⟨z, _, rfl⟩ := List.mem_map.1 hu
  rfl
theorem own_empty (w : World) (base : Nat) (e : TypeId) (s : Nat) (hb : base ≤ w.heap.size) : (w.alloc (.cells #[] e)).ownsRow base e s (.slice (some ⟨w.heap.size, 0, none⟩) 0 0) 0 [] :=
  ⟨by simp, .inr ⟨w.heap.size, 0, #[], rfl, hb, heap_last _ _ _ rfl, Nat.le_refl _, by unfold maxLen; omega, by simp, by simp⟩⟩
theorem info_u8 : ∃ i, Try.prog.info? 5 = some i ∧ i.zero = some (.int .u8 0) ∧ i.size = 1 ∧ i.bytes = 1 := by
  have h : (Try.prog.info? 5).map (fun i => (i.zero, i.size, i.bytes)) = some (some (.int .u8 0), 1, 1) := by kernel_rfl
  cases hi : Try.prog.info? 5 with
  | none => rw [hi] at h; simp at h
  | some i => rw [hi] at h; simp at h; exact ⟨i, rfl, h.1, h.2.1, h.2.2⟩
theorem info_u64 : ∃ i, Try.prog.info? 30 = some i ∧ i.zero = some (.int .u64 0) ∧ i.size = 1 ∧ i.bytes = 8 := by
  have h : (Try.prog.info? 30).map (fun i => (i.zero, i.size, i.bytes)) = some (some (.int .u64 0), 1, 8) := by kernel_rfl
  cases hi : Try.prog.info? 30 with
  | none => rw [hi] at h; simp at h
  | some i => rw [hi] at h; simp at h; exact ⟨i, rfl, h.1, h.2.1, h.2.2⟩

set_option maxHeartbeats 2000000 in
theorem cloneW_any (a : Option Addr) (len cap : Nat) (zs : List Int) (W : World) (h : WordsAt W a len cap zs) (hfew : len ≤ 1000) :
    Calls Try.prog 31 #[.slice a len cap] W fun e w' => ∃ v, e = .returned v ∧ w'.ownsRow W.heap.size 30 1 v len (zs.map (.int .u64)) ∧ Below W.heap.size W w' := by
  cases a with
  | none =>
    obtain rfl : cap = 0 := h.nilc rfl
    obtain rfl : len = 0 := by have := h.le; omega
    obtain rfl : zs = [] := List.eq_nil_of_length_eq_zero h.size.symm
    clear h
    have en := fun w => eql_nil (P := Try.prog) 26 30 none 0 0 Try.underlying26 w
    simp only [Option.isNone_none] at en
    go_enter Try.func31, Try.ntmps31
    go_wp2_with fail
    go_ret
    exact ⟨_, rfl, World.ownsRow_nil _ _ _ _, Below.refl _ _⟩
  | some ad =>
    obtain ⟨ti, i1, i2, i3, i4⟩ := info_u64
    have TI := Lib.hid (And.intro i1 (And.intro i2 (And.intro i3 i4)))
    clear i1 i2 i3 i4
    have HN : Hid (∀ j u, (zs.map (Value.int .u64))[j]? = some u → (W.alloc (.cells #[] 30)).cell? (ad.add j) = some u) := by
      intro j u hu
      have hj : j < zs.length := by simpa using (List.getElem?_eq_some_iff.1 hu).1
      obtain ⟨b, o, e, hc⟩ := h.here (by rw [h.size]; omega)
      injection e with e
      subst e
      have hcj := hc j _ (List.getElem?_eq_getElem hj)
      rw [Addr.add_mid, ((Below.refl W.heap.size W).alloc (Nat.le_refl _) (.cells #[] 30)).cell (p := ⟨b, o + j, none⟩) (lt_of_cell hcj), hcj]
      rw [List.getElem?_map, List.getElem?_eq_getElem hj] at hu
      exact hu
    have HS := Lib.hid h.size
    clear h
    have en := fun w => eql_nil (P := Try.prog) 26 30 (some ad) len cap Try.underlying26 w
    simp only [Option.isNone_some] at en
    go_enter Try.func31, Try.ntmps31
    go_wp2_with (at_builtin; refine wpList_append_own_at _ rfl _ _ 26 rfl W.heap.size 30 ti _ 1 8 Try.underlying26 TI.out.1 TI.out.2.1 TI.out.2.2.1 TI.out.2.2.2 rfl (by decide) _ 0 [] rfl (own_empty W W.heap.size _ _ (Nat.le_refl _)) ad len cap (zs.map (Value.int .u64)) rfl (by rw [List.length_map, ← HS.out]; simp) HN.out (ints_one _ _) (by unfold maxLen; omega) (by omega) (by simp) ?_)
    intro v' w' hr hg hn hat
    have B := Lib.hid (((Below.refl W.heap.size W).alloc (Nat.le_refl _) (.cells #[] 30)).grown hg (by simp) (fun j hj => by simp [Value.ownBlock] at hj; omega))
    have R := Lib.hid hr
    clear hr hg hn hat HN
    go_wp2_with fail
    go_ret
    exact ⟨_, rfl, R.out, B.out⟩
/-- append(s, x...): s empty and the call's own, x a row that was there at W0. -/
theorem wpList_append_new {ops : Array Oper} {rest : List Oper} {o : Oper} {a : Act} {Q : Exit → Act → World → Prop} {w W0 : World} {base : Nat} (hgd : o.guard = none) (s x : Operand)
    (ho : o.op = .call { callee := .builtin .append, args := #[s, x], argTypes := #[31, 31] })
    (v : Value) (hs : a.eval s = v) (hown : w.ownsRow base 39 3 v 0 []) (ad : Addr) (tc : Nat) (es : List Ev) (hx : a.eval x = .slice (some ad) es.length tc) (hE : EvsAt W0 (some ad) es.length tc es) (hB : Below W0.heap.size W0 w)
    (hfew : es.length ≤ 10000) (hbase : base ≤ w.heap.size)
    (h : ∀ v' w' qs, qs.map (·.1) = es → w'.ownsRow base 39 3 v' es.length (cellsE qs) → (∀ p ∈ qs, WordsAt W0 p.2.1 p.1.args.length p.2.2 p.1.args) → w.grownBy w' v.ownBlock → (∀ j, v.ownBlock = some j → base ≤ j) → wpList Try.prog ops Q rest (a.put o.dst v') w') : wpList Try.prog ops Q (o :: rest) a w := by
  obtain ⟨ti, i1, i2, i3, i4⟩ := info_evt
  have hlt : ∀ j, v.ownBlock = some j → base ≤ j := fun j hj => (World.ownsRow.lt hown j hj).1
  by_cases h0 : es.length = 0
  · obtain rfl : es = [] := List.eq_nil_of_length_eq_zero h0
    refine wpList_append_own_at _ hgd s x 31 ho base 39 ti _ 3 40 Try.underlying31 i1 i2 i3 i4 rfl (by decide) v 0 [] hs hown ad 0 tc [] hx rfl (fun j u hu => by simp at hu) (fun u hu => by cases hu) (by unfold maxLen; omega) (by omega) hbase ?_
    intro v' w' hr hg hn hat
    exact h v' w' [] rfl hr (fun p hp => by cases hp) hg hlt
  · obtain ⟨b, off, e, _⟩ := hE.here (by omega)
    injection e with e
    subst e
    obtain ⟨qs, hq1, hq2, hq3⟩ := hE.parts
    have hql : qs.length = es.length := by rw [← hq1, List.length_map]
    refine wpList_append_own_at _ hgd s x 31 ho base 39 ti _ 3 40 Try.underlying31 i1 i2 i3 i4 rfl (by decide) v 0 [] hs hown ⟨b, off, none⟩ es.length tc (cellsE qs) hx (by rw [cellsE_length, hql]) (fun j u hu => ?_) (cellsE_one qs) (by unfold maxLen; omega) (by omega) hbase ?_
    · have := hq2 j u hu
      rw [Addr.add_mid] at this ⊢
      exact (hB.cell (p := ⟨b, off + j, none⟩) (lt_of_cell this)).trans this
    intro v' w' hr hg hn hat
    rw [Nat.zero_add, List.nil_append] at hr
    exact h v' w' qs hq1 hr hq3 hg hlt

set_option maxHeartbeats 2000000 in
theorem cloneE_any (a : Option Addr) (cap : Nat) (es : List Ev) (W0 W : World) (h : EvsAt W0 a es.length cap es) (hB : Below W0.heap.size W0 W) (hfew : es.length ≤ 1000) :
    Calls Try.prog 45 #[.slice a es.length cap] W fun e w' => ∃ v qs, e = .returned v ∧ qs.map (·.1) = es ∧ w'.ownsRow W.heap.size 39 3 v es.length (cellsE qs) ∧ (∀ p ∈ qs, WordsAt W0 p.2.1 p.1.args.length p.2.2 p.1.args) ∧ Below W.heap.size W w' := by
  cases a with
  | none =>
    obtain rfl : cap = 0 := h.nilc rfl
    have h0 : es.length = 0 := by have := h.le; omega
    obtain rfl : es = [] := List.eq_nil_of_length_eq_zero h0
    clear h
    simp only [List.length_nil]
    have en := fun w => eql_nil (P := Try.prog) 31 39 none 0 0 Try.underlying31 w
    simp only [Option.isNone_none] at en
    go_enter Try.func45, Try.ntmps45
    go_wp2_with fail
    go_ret
    exact ⟨_, [], rfl, rfl, World.ownsRow_nil _ _ _ _, (fun p hp => by cases hp), Below.refl _ _⟩
  | some ad =>
    have H := Lib.hid h
    have HB := Lib.hid (below_new2 hB (.cells #[] 39))
    clear h hB
    have en := fun w => eql_nil (P := Try.prog) 31 39 (some ad) es.length cap Try.underlying31 w
    simp only [Option.isNone_some] at en
    go_enter Try.func45, Try.ntmps45
    go_wp2_with (at_builtin; refine wpList_append_new rfl _ _ rfl _ rfl (own_empty W W.heap.size _ _ (Nat.le_refl _)) ad cap es rfl H.out HB.out (by omega) (by simp) ?_)
    intro v' w' qs hq hown hargs hg hl
    have B := Lib.hid (((Below.refl W.heap.size W).alloc (Nat.le_refl _) (.cells #[] 39)).grown hg (by simp) hl)
    have R := Lib.hid hown
    have HA := Lib.hid hargs
    have HQ := Lib.hid hq
    clear hown hg hl hq hargs
    go_wp2_with fail
    go_ret
    exact ⟨_, qs, rfl, HQ.out, R.out, (fun ⟨a1, a2, a3⟩ hp => HA.out a1 a2 a3 hp), B.out⟩

/-- One cell stored, as an equation. -/
theorem exec_store1 {P : Program} {ρ : Operand → Value} {o : Oper} {w : World} (ty : TypeId) (x y : Operand) (ho : o.op = .store ty x y) (g i : Nat) (v : Value) (hx : ρ x = .pointer (some ⟨g, i, none⟩)) (hy : ρ y = v) (hv : v.cells = #[v]) (h1 : v.oneCell' = true)
    (hi : (P.info? ty).map (·.size) = some 1) (hc : (w.cell? ⟨g, i, none⟩).isSome = true) (hf : w.frozen? ⟨g, i, none⟩ = false) : (execOp ρ o).run P w = .ok .skip (w.setCell ⟨g, i, none⟩ v) := by
  have e : ∀ p, storeVar ty p v = storeVar ty p (.agg #[v]) := fun p => by unfold storeVar; rw [hv]; rfl
  have ht : w.there g i (#[v] : Array Value).size := fun j hj => by
    have : j = 0 := by simpa using hj
    subst this
    exact ⟨by simpa using hc, by simpa using hf⟩
  unfold execOp
  simp only [ho, hx, hy, Instr.storeAt, Instr.sureAddr, Sem.run_bind, Sem.run_pure, Result.andThen_ok, e, run_storeVar_mid w g i ty #[v] ht hi (by simp [h1])]
  rfl
end Go.Proofs.Ythhgcbegcbhaeaa.Trc
