/-
  A copy that is written over, beside one that is kept: what goes on whatever is written.
-/
import Derived.Test.YtpbnmbeedjhloaaTrcT
namespace Go.Proofs.Ytpbnmbeedjhloaa.Trc
open Go.RowKit Go.Maps
set_option linter.unusedVariables false
set_option maxRecDepth 100000

theorem wpOp_valE {P : Program} {ops : Array Oper} {Q : Exit → Act → World → Prop} {a : Act} {w : World} {K : Act → World → Prop} {i : Nat} {o : Oper} {k : IntKind} (ho : ops[i]? = some o) (hg : o.guard = none) (hr : ∃ z, (execOp a.eval o).run P w = .ok (.value (.int k z)) w) (h : ∀ z, K (a.put o.dst (.int k z)) w) : wpOp P ops Q i K a w := by
  obtain ⟨z, hz⟩ := hr
  exact wpOp_val ho hg hz (h z)
theorem own_set {w : World} {base : Nat} {e : TypeId} {s n cap g : Nat} {xs : List Value} (h : w.ownsRow base e s (.slice (some ⟨g, 0, none⟩) n cap) n xs) (i : Nat) (v : Value) : (w.setCell ⟨g, i, none⟩ v).ownsRow base e s (.slice (some ⟨g, 0, none⟩) n cap) n (xs.set i v) := by
  rcases h.2 with ⟨h0, _⟩ | ⟨g', cap', cur, e1, e2, e3, e4, e5, e6, e7⟩
  · cases h0
  injection e1 with a1 a2 a3
  injection a1 with a1
  injection a1 with a1
  subst a1 a3
  refine ⟨by rw [List.length_set]; exact h.1, .inr ⟨g, cap, _, rfl, e2, setCell_row e3 i v, e4, e5, by simp [e6], ?_⟩⟩
  rw [Array.toList_setIfInBounds, ← e7, List.take_set]
theorem own_setOther {w : World} {base : Nat} {e : TypeId} {s n b : Nat} {v : Value} {xs : List Value} (h : w.ownsRow base e s v n xs) (hb : v.ownBlock ≠ some b) (i : Nat) (u : Value) : (w.setCell ⟨b, i, none⟩ u).ownsRow base e s v n xs := by
  refine ⟨h.1, ?_⟩
  rcases h.2 with h | ⟨k, cap, cur, e1, e2, e3, r⟩
  · exact .inl h
  · exact .inr ⟨k, cap, cur, e1, e2, (setCell_past _ _ _ _ (fun e => hb (by rw [e1]; show some k = some b; rw [e]))).trans e3, r⟩
theorem own_cell {w : World} {base : Nat} {e : TypeId} {s n cap g : Nat} {xs : List Value} (h : w.ownsRow base e s (.slice (some ⟨g, 0, none⟩) n cap) n xs) {i : Nat} {v : Value} (hv : xs[i]? = some v) : w.cell? ⟨g, i, none⟩ = some v ∧ w.frozen? ⟨g, i, none⟩ = false := by
  rcases h.2 with ⟨h0, _⟩ | ⟨g', cap', cur, e1, e2, e3, e4, e5, e6, e7⟩
  · cases h0
  injection e1 with a1 a2 a3
  injection a1 with a1
  injection a1 with a1
  subst a1 a3
  have hi : i < n * s := by have := (List.getElem?_eq_some_iff.1 hv).1; rw [h.1] at this; exact this
  rw [← e7, List.getElem?_take_of_lt hi, Array.getElem?_toList] at hv
  exact ⟨by simp only [World.cell?, e3]; exact hv, by simp [World.frozen?, e3]⟩
theorem own_some {w : World} {base : Nat} {e : TypeId} {s n cap : Nat} {a : Option Addr} {xs : List Value} (h : w.ownsRow base e s (.slice a n cap) n xs) (hn : 0 < n) : ∃ g, a = some ⟨g, 0, none⟩ := by
  rcases h.2 with ⟨_, h0⟩ | ⟨g, cap', cur, e1, _⟩
  · omega
  · injection e1 with a1; exact ⟨g, a1⟩

/-- The numbers of a copy, whatever they are; its shape. -/
structure Shp (l hi : Nat) (w : World) (cv tv : Value) (m : Nat) (ar : List (Option Addr × Nat × Nat)) : Prop where
  ctx : ∃ zs : List Int, w.ownsRow l 5 1 cv m (zs.map (.int .u8))
  row : ∃ ps : List (Ev × (Option Addr × Nat)), w.ownsRow l 79 3 tv ar.length (cellsE ps) ∧ ∀ (i : Nat) (p : Ev × (Option Addr × Nat)), ps[i]? = some p → ar[i]? = some (p.2.1, p.1.args.length, p.2.2)
  args : ∀ (i : Nat) (q : Option Addr × Nat × Nat), ar[i]? = some q → ∃ zs : List Int, w.ownsRow l 33 1 (.slice q.1 q.2.1 q.2.2) q.2.1 (zs.map (.int .u64))
  hc : ∀ b, cv.ownBlock = some b → b < hi
  hr : ∀ b, tv.ownBlock = some b → b < hi
  ha : ∀ (i : Nat) (q : Option Addr × Nat × Nat), ar[i]? = some q → ∀ ad : Addr, q.1 = some ad → ad.block < hi
theorem Shp.below {l hi m : Nat} {w w' : World} {cv tv : Value} {ar : List (Option Addr × Nat × Nat)} (h : Shp l hi w cv tv m ar) (b : Below w.heap.size w w') : Shp l hi w' cv tv m ar :=
  ⟨h.ctx.imp fun _ h => own_below h b, h.row.imp fun _ h => ⟨own_below h.1 b, h.2⟩, fun i q hq => (h.args i q hq).imp fun _ h => own_below h b, h.hc, h.hr, h.ha⟩
theorem set_ints (k : IntKind) (zs : List Int) (i : Nat) (z : Int) : (zs.map (Value.int k)).set i (.int k z) = (zs.set i z).map (.int k) := by rw [List.map_set]
theorem cellsE_setNum : ∀ (l : List (Ev × (Option Addr × Nat))) (j : Nat) (p : Ev × (Option Addr × Nat)) (n : Int), l[j]? = some p → (cellsE l).set (j * 3) (.int .i64 n) = cellsE (l.set j (⟨n, p.1.args, p.1.ans⟩, p.2))
  | [], j, p, n, h => by simp at h
  | q :: l, 0, p, n, h => by
    obtain rfl : q = p := by simpa using h
    rfl
  | q :: l, j + 1, p, n, h => by
    have ih := cellsE_setNum l j p n (by simpa using h)
    rw [show (j + 1) * 3 = j * 3 + 1 + 1 + 1 by omega]
    rw [List.set_cons_succ]
    show _ = cellE q.1 q.2.1 q.2.2 ++ cellsE (l.set j (⟨n, p.1.args, p.1.ans⟩, p.2))
    rw [← ih]
    rfl
section
variable {l hi m : Nat} {w : World} {cv tv : Value} {ar : List (Option Addr × Nat × Nat)}
theorem ne_of_type {w : World} {l1 l2 : Nat} {e1 e2 : TypeId} {s1 s2 n1 n2 : Nat} {v1 v2 : Value} {x1 x2 : List Value} (h1 : w.ownsRow l1 e1 s1 v1 n1 x1) (h2 : w.ownsRow l2 e2 s2 v2 n2 x2) (he : e1 ≠ e2) {b : Nat} (hb : v1.ownBlock = some b) : v2.ownBlock ≠ some b := by
  intro hb2
  obtain ⟨_, c1, k1⟩ := own_type h1 hb
  obtain ⟨_, c2, k2⟩ := own_type h2 hb2
  rw [k1] at k2
  injection k2 with k2
  injection k2 with _ k2 _
  exact he k2
theorem Shp.setCtx {g c : Nat} (h : Shp l hi w (.slice (some ⟨g, 0, none⟩) m c) tv m ar) (i : Nat) (z : Int) : Shp l hi (w.setCell ⟨g, i, none⟩ (.int .u8 z)) (.slice (some ⟨g, 0, none⟩) m c) tv m ar := by
  obtain ⟨zs, h1⟩ := h.ctx
  refine ⟨⟨zs.set i z, ?_⟩, ?_, fun j q hq => ?_, h.hc, h.hr, h.ha⟩
  · rw [← set_ints]; exact own_set h1 i _
  · obtain ⟨ps, h2, h3⟩ := h.row
    exact ⟨ps, own_setOther h2 (ne_of_type h1 h2 (by decide) rfl) i _, h3⟩
  · obtain ⟨ys, h2⟩ := h.args j q hq
    exact ⟨ys, own_setOther h2 (ne_of_type h1 h2 (by decide) rfl) i _⟩
theorem Shp.setNum {g c i : Nat} (h : Shp l hi w cv (.slice (some ⟨g, 0, none⟩) ar.length c) m ar) (hi' : i < ar.length) (z : Int) : Shp l hi (w.setCell ⟨g, i * 3, none⟩ (.int .i64 z)) cv (.slice (some ⟨g, 0, none⟩) ar.length c) m ar := by
  obtain ⟨ps, h1, h3⟩ := h.row
  have hl : ps.length = ar.length := by have := h1.1; rw [cellsE_length] at this; omega
  obtain ⟨p, hp⟩ : ∃ p, ps[i]? = some p := ⟨_, List.getElem?_eq_getElem (by omega)⟩
  refine ⟨?_, ⟨ps.set i (⟨z, p.1.args, p.1.ans⟩, p.2), ?_, fun j q hq => ?_⟩, fun j q hq => ?_, h.hc, h.hr, h.ha⟩
  · obtain ⟨zs, h2⟩ := h.ctx
    exact ⟨zs, own_setOther h2 (ne_of_type h1 h2 (by decide) rfl) _ _⟩
  · rw [← cellsE_setNum ps i p z hp]; exact own_set h1 _ _
  · by_cases e : j = i
    · subst e
      rw [List.getElem?_set_self (by omega)] at hq
      injection hq with hq
      subst hq
      exact h3 j p hp
    · rw [List.getElem?_set_ne (Ne.symm e)] at hq
      exact h3 j q hq
  · obtain ⟨ys, h2⟩ := h.args j q hq
    exact ⟨ys, own_setOther h2 (ne_of_type h1 h2 (by decide) rfl) _ _⟩
theorem Shp.setArg {j0 g n c : Nat} (h : Shp l hi w cv tv m ar) (hq0 : ar[j0]? = some (some ⟨g, 0, none⟩, n, c)) (i : Nat) (z : Int) : Shp l hi (w.setCell ⟨g, i, none⟩ (.int .u64 z)) cv tv m ar := by
  obtain ⟨y0, h0⟩ := h.args j0 _ hq0
  refine ⟨?_, ?_, fun j q hq => ?_, h.hc, h.hr, h.ha⟩
  · obtain ⟨zs, h2⟩ := h.ctx
    exact ⟨zs, own_setOther h2 (ne_of_type h0 h2 (by decide) rfl) _ _⟩
  · obtain ⟨ps, h2, h3⟩ := h.row
    exact ⟨ps, own_setOther h2 (ne_of_type h0 h2 (by decide) rfl) _ _, h3⟩
  · obtain ⟨ys, h2⟩ := h.args j q hq
    by_cases e : (Value.slice q.1 q.2.1 q.2.2).ownBlock = some g
    · by_cases hn : 0 < q.2.1
      · obtain ⟨g', e'⟩ := own_some h2 hn
        obtain ⟨qa, qn, qc⟩ := q
        simp only at *
        subst e'
        simp [Value.ownBlock] at e
        subst e
        refine ⟨ys.set i z, ?_⟩
        rw [← set_ints]; exact own_set h2 i _
      · rcases h2.2 with ⟨h5, h6⟩ | ⟨g', cap', cur, e1, _⟩
        · rw [h5] at e; cases e
        · obtain ⟨qa, qn, qc⟩ := q
          simp only at *
          injection e1 with e1 _ e3
          subst e1 e3
          simp [Value.ownBlock] at e
          subst e
          refine ⟨ys.set i z, ?_⟩
          rw [← set_ints]; exact own_set h2 i _
    · exact ⟨ys, own_setOther h2 e _ _⟩
end

/-- What goes on while the one copy is written over. -/
structure Lk (W : World) (x : Out) (ca : Option Addr) (cc : Nat) (ta : Option Addr) (tc : Nat) (l hi P Q : Nat) (cv tv cv2 tv2 : Value) (ar : List (Option Addr × Nat × Nat)) (w : World) : Prop where
  below : Below W.heap.size W w
  bn : BoxF w W.heap.size x ca cc ta tc
  bp : w.heap[P]? = some (.cells #[.int .i8 x.kind, .int .u64 x.r0, cv, tv, .int .i64 x.left] 76 (0, 0))
  bq : w.heap[Q]? = some (.cells #[.int .i8 x.kind, .int .u64 x.r0, cv2, tv2, .int .i64 x.left] 76 (0, 0))
  lo : W.heap.size < l
  shp : Shp l hi w cv tv x.ctx.length ar
  kp : ∃ (old l2 : Nat) (ps : List (Ev × (Option Addr × Nat))), hi ≤ l2 ∧ MidAt old l2 w x cv2 tv2 ps x.tr.length
section
variable {W : World} {x : Out} {ca : Option Addr} {cc : Nat} {ta : Option Addr} {tc l hi P Q : Nat} {cv tv cv2 tv2 : Value} {ar : List (Option Addr × Nat × Nat)} {w : World}
theorem Lk.on {w' : World} (h : Lk W x ca cc ta tc l hi P Q cv tv cv2 tv2 ar w) (b : Below w.heap.size w w') : Lk W x ca cc ta tc l hi P Q cv tv cv2 tv2 ar w' :=
  ⟨below_call h.below b, h.bn.below b, (b.block P (Array.getElem?_eq_some_iff.1 h.bp).1).trans h.bp, (b.block Q (Array.getElem?_eq_some_iff.1 h.bq).1).trans h.bq, h.lo, h.shp.below b, by
    obtain ⟨old, l2, ps, h1, h2⟩ := h.kp
    exact ⟨old, l2, ps, h1, h2.below b⟩⟩
theorem Lk.drew (h : Lk W x ca cc ta tc l hi P Q cv tv cv2 tv2 ar w) : Lk W x ca cc ta tc l hi P Q cv tv cv2 tv2 ar w.drew := h.on (Below.drew (Below.refl _ _))
theorem Lk.store {b i : Nat} {v : Value} {e : TypeId} {cur : Array Value} (h : Lk W x ca cc ta tc l hi P Q cv tv cv2 tv2 ar w) (hb : l ≤ b) (hb2 : b < hi) (hc : w.heap[b]? = some (.cells cur e (0, 0))) (he : e ≠ 76) (hs : Shp l hi (w.setCell ⟨b, i, none⟩ v) cv tv x.ctx.length ar) : Lk W x ca cc ta tc l hi P Q cv tv cv2 tv2 ar (w.setCell ⟨b, i, none⟩ v) := by
  have hne : ∀ {q : Nat} {c : Array Value}, w.heap[q]? = some (.cells c 76 (0, 0)) → q ≠ b := by
    rintro q c hq rfl
    rw [hq] at hc
    injection hc with hc
    injection hc with _ hc _
    exact he hc.symm
  refine ⟨h.below.setCell (p := ⟨b, i, none⟩) (by have := h.lo; show _ ≤ b; omega) v, h.bn.setFar i v (by have := h.lo; omega), (setCell_past _ _ _ _ (hne h.bp)).trans h.bp, (setCell_past _ _ _ _ (hne h.bq)).trans h.bq, h.lo, hs, ?_⟩
  obtain ⟨old, l2, ps, h1, h2⟩ := h.kp
  exact ⟨old, l2, ps, h1, h2.setLow (by omega) v⟩
theorem Lk.pcell (h : Lk W x ca cc ta tc l hi P Q cv tv cv2 tv2 ar w) : w.cell? ⟨P, 2, none⟩ = some cv ∧ w.cell? ⟨P, 3, none⟩ = some tv := ⟨by simp only [World.cell?, h.bp]; rfl, by simp only [World.cell?, h.bp]; rfl⟩
theorem Lk.ctx1 {b c i : Nat} (h : Lk W x ca cc ta tc l hi P Q (.slice (some ⟨b, 0, none⟩) x.ctx.length c) tv cv2 tv2 ar w) (hlt : i < x.ctx.length) :
    (∃ z, w.cell? ⟨b, i, none⟩ = some (.int .u8 z)) ∧ w.frozen? ⟨b, i, none⟩ = false ∧ ∀ z, Lk W x ca cc ta tc l hi P Q (.slice (some ⟨b, 0, none⟩) x.ctx.length c) tv cv2 tv2 ar (w.setCell ⟨b, i, none⟩ (.int .u8 z)) := by
  obtain ⟨zs, h1⟩ := h.shp.ctx
  have hl : zs.length = x.ctx.length := by have := h1.1; rw [List.length_map] at this; omega
  obtain ⟨z, hz⟩ : ∃ z, zs[i]? = some z := ⟨_, List.getElem?_eq_getElem (by omega)⟩
  obtain ⟨k1, k2⟩ := own_cell h1 (i := i) (v := .int .u8 z) (by rw [List.getElem?_map, hz]; rfl)
  obtain ⟨k3, cur, k4⟩ := own_type h1 (g := b) rfl
  exact ⟨⟨z, k1⟩, k2, fun z => h.store k3 (h.shp.hc b rfl) k4 (by decide) (h.shp.setCtx i z)⟩
theorem Lk.num1 {b c i : Nat} {q : Option Addr × Nat × Nat} (h : Lk W x ca cc ta tc l hi P Q cv (.slice (some ⟨b, 0, none⟩) ar.length c) cv2 tv2 ar w) (hq : ar[i]? = some q) :
    (∃ z, w.cell? ⟨b, i * 3, none⟩ = some (.int .i64 z)) ∧ w.cell? ⟨b, i * 3 + 1, none⟩ = some (.slice q.1 q.2.1 q.2.2) ∧ w.frozen? ⟨b, i * 3, none⟩ = false ∧ ∀ z, Lk W x ca cc ta tc l hi P Q cv (.slice (some ⟨b, 0, none⟩) ar.length c) cv2 tv2 ar (w.setCell ⟨b, i * 3, none⟩ (.int .i64 z)) := by
  obtain ⟨ps, h1, h3⟩ := h.shp.row
  have hi' : i < ar.length := (List.getElem?_eq_some_iff.1 hq).1
  have hl : ps.length = ar.length := by have := h1.1; rw [cellsE_length] at this; omega
  obtain ⟨p, hp⟩ : ∃ p, ps[i]? = some p := ⟨_, List.getElem?_eq_getElem (by omega)⟩
  have he := h3 i p hp
  rw [hq] at he
  injection he with he
  subst he
  obtain ⟨k1, k2⟩ := own_cell h1 (i := i * 3) (v := .int .i64 p.1.num) (cellsE_get (k := 0) hp (by omega))
  obtain ⟨k5, _⟩ := own_cell h1 (i := i * 3 + 1) (v := .slice p.2.1 p.1.args.length p.2.2) (cellsE_get (k := 1) hp (by omega))
  obtain ⟨k3, cur, k4⟩ := own_type h1 (g := b) rfl
  exact ⟨⟨_, k1⟩, k5, k2, fun z => h.store k3 (h.shp.hr b rfl) k4 (by decide) (h.shp.setNum hi' z)⟩
theorem Lk.arg1 {b n c i k : Nat} (h : Lk W x ca cc ta tc l hi P Q cv tv cv2 tv2 ar w) (hq : ar[i]? = some (some ⟨b, 0, none⟩, n, c)) (hk : k < n) :
    (∃ z, w.cell? ⟨b, k, none⟩ = some (.int .u64 z)) ∧ w.frozen? ⟨b, k, none⟩ = false ∧ ∀ z, Lk W x ca cc ta tc l hi P Q cv tv cv2 tv2 ar (w.setCell ⟨b, k, none⟩ (.int .u64 z)) := by
  obtain ⟨zs, h1⟩ := h.shp.args i _ hq
  have hl : zs.length = n := by have := h1.1; rw [List.length_map] at this; simp only at this; omega
  obtain ⟨z, hz⟩ : ∃ z, zs[k]? = some z := ⟨_, List.getElem?_eq_getElem (by omega)⟩
  obtain ⟨k1, k2⟩ := own_cell h1 (i := k) (v := .int .u64 z) (by rw [List.getElem?_map, hz]; rfl)
  obtain ⟨k3, cur, k4⟩ := own_type h1 (g := b) rfl
  exact ⟨⟨z, k1⟩, k2, fun z => h.store k3 (h.shp.ha i _ hq _ rfl) k4 (by decide) (h.shp.setArg hq k z)⟩
theorem Lk.argSome {i : Nat} {q : Option Addr × Nat × Nat} (h : Lk W x ca cc ta tc l hi P Q cv tv cv2 tv2 ar w) (hq : ar[i]? = some q) : q.2.1 ≤ maxLen ∧ (0 < q.2.1 → ∃ b, q.1 = some ⟨b, 0, none⟩) := by
  obtain ⟨zs, h1⟩ := h.shp.args i _ hq
  refine ⟨?_, own_some h1⟩
  rcases h1.2 with ⟨_, h0⟩ | ⟨g, cap, cur, _, _, _, e4, e5, _⟩
  · omega
  · omega
theorem Lk.keep {ca6 ta6 : Option Addr} {c6 t6 : Nat} (h : Lk W x ca cc ta tc l hi P Q cv tv (.slice ca6 x.ctx.length c6) (.slice ta6 x.tr.length t6) ar w) (ok : ∀ z ∈ x.ctx, 0 ≤ z ∧ z < 256) : OutAt w x ca6 c6 ta6 t6 ∧ Box5 w Q x ca6 c6 ta6 t6 := by
  obtain ⟨old, l2, ps, h1, h2⟩ := h.kp
  obtain ⟨ca', cc', ta', tc', e, h3⟩ := h2.outAt ok
  simp only [outV] at e
  injection e with e
  have e2 := congrArg (fun a => a[2]?) e
  have e3 := congrArg (fun a => a[3]?) e
  simp at e2 e3
  obtain ⟨rfl, rfl⟩ := e2
  obtain ⟨rfl, rfl⟩ := e3
  refine ⟨h3, ?_⟩
  have hq := h.bq
  constructor <;> (simp only [World.cell?, hq]; rfl)
theorem Lk.start {lo B B2 : Nat} {c1 c2 : Array Value} (h1 : CpIn lo B w x (.agg c1)) (h2 : CpIn B B2 w x (.agg c2)) (hlo : W.heap.size < lo) (hb : Below W.heap.size W w) (bn : BoxF w W.heap.size x ca cc ta tc)
    (hP : w.heap[P]? = some (.cells c1 76 (0, 0))) (hQ : w.heap[Q]? = some (.cells c2 76 (0, 0))) :
    ∃ (l : Nat) (ca5 : Option Addr) (cc5 : Nat) (ta5 : Option Addr) (tc5 : Nat) (ca6 : Option Addr) (cc6 : Nat) (ta6 : Option Addr) (tc6 : Nat) (ar : List (Option Addr × Nat × Nat)),
      ar.length = x.tr.length ∧ Lk W x ca cc ta tc l B P Q (.slice ca5 x.ctx.length cc5) (.slice ta5 ar.length tc5) (.slice ca6 x.ctx.length cc6) (.slice ta6 x.tr.length tc6) ar w := by
  obtain ⟨old1, l1, ca5, cc5, ta5, tc5, ps1, e1, hl1, m1, g1, g2, g3⟩ := h1
  injection e1 with e1
  subst e1
  obtain ⟨old2, l2, ca6, cc6, ta6, tc6, ps2, e2, hl2, m2, _, _, _⟩ := h2
  injection e2 with e2
  subst e2
  have hpl : ps1.length = x.tr.length := by rw [← m1.evs, List.length_map]
  have hal : (ps1.map (fun p => (p.2.1, p.1.args.length, p.2.2))).length = x.tr.length := by rw [List.length_map, hpl]
  refine ⟨l1, ca5, cc5, ta5, tc5, ca6, cc6, ta6, tc6, ps1.map (fun p => (p.2.1, p.1.args.length, p.2.2)), hal, ?_⟩
  have get : ∀ (i : Nat) (q : Option Addr × Nat × Nat), (ps1.map (fun p => (p.2.1, p.1.args.length, p.2.2)))[i]? = some q → ∃ p, ps1[i]? = some p ∧ q = (p.2.1, p.1.args.length, p.2.2) := by
    intro i q hq
    rw [List.getElem?_map] at hq
    cases hp : ps1[i]? with
    | none => rw [hp] at hq; cases hq
    | some p => rw [hp] at hq; exact ⟨p, rfl, by simpa using hq.symm⟩
  rw [hal]
  refine ⟨hb, bn, hP, hQ, by omega, ⟨⟨x.ctx, m1.ctx⟩, ⟨ps1, by rw [hal]; exact m1.row, fun i p hp => by rw [List.getElem?_map, hp]; rfl⟩, fun i q hq => ?_, fun b hb => ?_, fun b hb => ?_, fun i q hq ad e => ?_⟩, old2, l2, ps2, hl2, m2⟩
  · obtain ⟨p, hp, rfl⟩ := get i q hq
    exact ⟨p.1.args, m1.done i p hp (by have := (List.getElem?_eq_some_iff.1 hp).1; omega)⟩
  · cases ca5 with
    | none => cases hb
    | some ad => simp [Value.ownBlock] at hb; subst hb; exact g1 _ rfl
  · cases ta5 with
    | none => cases hb
    | some ad => simp [Value.ownBlock] at hb; subst hb; exact g2 _ rfl
  · obtain ⟨p, hp, rfl⟩ := get i q hq
    exact g3 i p hp ad e
end
end Go.Proofs.Ytpbnmbeedjhloaa.Trc
