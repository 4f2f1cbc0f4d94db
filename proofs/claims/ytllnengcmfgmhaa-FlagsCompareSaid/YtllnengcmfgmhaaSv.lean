/-
  More of execution by program: parts of rows stored, calls of function values, elements of arrays, loops that count. No program is named here.
-/
import Derived.Test.YtllnengcmfgmhaaSy
import Derived.Deep.LoopGhost
namespace Go.Proofs.Ytllnengcmfgmhaa
open Go Go.RowKit
set_option linter.unusedVariables false
set_option linter.unusedSimpArgs false

/-! ### A part of a row stored -/
def setL (c : Array Value) : Nat → List Value → Array Value
  | _, [] => c
  | o, v :: vs => setL (c.setIfInBounds o v) (o + 1) vs
theorem setL_size (vs : List Value) : ∀ (c : Array Value) (o : Nat), (setL c o vs).size = c.size := by
  induction vs with
  | nil => intro c o; rfl
  | cons v vs ih => intro c o; show (setL (c.setIfInBounds o v) (o + 1) vs).size = _; rw [ih]; simp
theorem setL_get (vs : List Value) : ∀ (c : Array Value) (o j : Nat), o + vs.length ≤ c.size → (setL c o vs)[j]? = if o ≤ j ∧ j < o + vs.length then vs[j - o]? else c[j]? := by
  induction vs with
  | nil => intro c o j h; rw [if_neg (by simp only [List.length_nil]; omega)]; rfl
  | cons v vs ih =>
    intro c o j h
    show (setL (c.setIfInBounds o v) (o + 1) vs)[j]? = _
    simp only [List.length_cons] at h
    rw [ih _ _ _ (by simpa using (by omega : o + 1 + vs.length ≤ c.size))]
    by_cases e : j = o
    · subst e
      rw [if_neg (by omega), if_pos (by simp)]
      simp [show j < c.size by omega]
    · by_cases h1 : o + 1 ≤ j ∧ j < o + 1 + vs.length
      · rw [if_pos h1, if_pos (by simp only [List.length_cons]; omega)]
        rw [show j - o = (j - (o + 1)) + 1 by omega, List.getElem?_cons_succ]
      · rw [if_neg h1, if_neg (by simp only [List.length_cons]; omega)]
        rw [Array.getElem?_setIfInBounds_ne (by omega)]
theorem stored_trans {w w1 w2 : World} {g : Nat} {c1 c2 : Array Value} {t : TypeId} (h : Stored w g c1 t w1) (k : Stored w1 g c2 t w2) : Stored w g c2 t w2 :=
  ⟨k.os.trans h.os, k.tape.trans h.tape, k.output.trans h.output, k.size.trans h.size, k.row, fun j hj => (k.other j hj).trans (h.other j hj)⟩
theorem stored_setCells {g : Nat} {t : TypeId} (vs : List Value) : ∀ (w : World) (cs : Array Value) (o : Nat), w.heap[g]? = some (.cells cs t (0, 0)) → Stored w g (setL cs o vs) t (w.setCells g o vs) := by
  induction vs with
  | nil => intro w cs o h; exact ⟨rfl, rfl, rfl, rfl, h, fun _ _ => rfl⟩
  | cons v vs ih =>
    intro w cs o h
    have s := stored_setCell h o v
    exact stored_trans s (ih _ _ _ s.row)
section
variable {P : Program} {ρ : Operand → Value} {o : Oper} {w : World}
theorem exec_storeP (ty : TypeId) (x y : Operand) (ho : o.op = .store ty x y) (g i : Nat) (cells : Array Value) (hx : ρ x = .pointer (some ⟨g, i, none⟩)) (hy : ρ y = .agg cells) (h1 : cells.all (·.oneCell') = true)
    (hi : (P.info? ty).map (·.size) = some cells.size) {t : TypeId} {old : Array Value} (hg : w.heap[g]? = some (.cells old t (0, 0))) (hlt : i + cells.size ≤ old.size) : (execOp ρ o).run P w = .ok .skip (w.setCells g i cells.toList) := by
  have ht : w.there g i cells.size := fun j hj => by
    have hl : i + j < old.size := by omega
    refine ⟨?_, ?_⟩
    · rw [exec_load1 hg (v := old[i + j]) (by simp [hl])]; rfl
    · simp [World.frozen?, hg]
  unfold execOp
  simp only [ho, hx, hy, Instr.storeAt, Instr.sureAddr, Sem.run_bind, Sem.run_pure, Result.andThen_ok, run_storeVar_mid w g i ty cells ht hi h1]
/-- An element's address. -/
theorem ex_ia {t e : TypeId} {x y : Operand} {g off n sz q : Nat} {k : IntKind} {i : Int} (ho : o.op = .indexAddr t x y) (hx : ρ x = .pointer (some ⟨g, off, none⟩)) (hy : ρ y = .int k i) (hu : P.underlying t = some (.array n e)) (hs : (P.info? e).map (·.size) = some sz)
    (h0 : 0 ≤ i) (h1 : i < n) (hq : off + i.toNat * sz = q) : (execOp ρ o).run P w = .ok (.value (.pointer (some ⟨g, q, none⟩))) w := by
  subst hq
  cases hi : P.info? e with
  | none => rw [hi] at hs; cases hs
  | some f =>
    rw [hi] at hs
    have hs : f.size = sz := by simpa using hs
    subst hs
    simp [execOp, ho, hx, hy, Instr.indexAt, Instr.sureAddr, run_underlying hu, asIntOf, sizeOf, typeInfo, hi, h0, h1, Addr.add, go_sem]
/-- A function's value called. -/
theorem exec_callv {c : Call} {f : FuncId} {fn : Func} {args : Array Value} {x : Operand} (ho : o.op = .call c) (hc : c.callee = .value x) (hr : ρ x = .func (.func f) #[] #[]) (ha : c.args.map ρ = args) (hf : P.funcs[f]? = some fn)
    (hn : (fn.name == "runtime.NumGoroutine") = false) (hb : fn.body.isNone = false) : (execOp ρ o).run P w = .ok (.enter f args) w := by
  have hb' : ¬ fn.body = none := by
    intro e; rw [e] at hb; cases hb
  have hn' : ¬ fn.name = "runtime.NumGoroutine" := by simpa using hn
  simp [execOp, ho, resolve, hc, hr, ha, Deferred.ofValue, invoke, callFunc, hf, hb', hn', go_sem]
end
section
variable {P : Program} {ops : Array Oper} {Q : Exit → Act → World → Prop} {n : Nat} {a0 : Act} {w0 W : World} {B : List EB} {A : List EA} {l : List (Option Value)} {i : Nat} {o : Oper} {fl : Nat → Bool} {a : Act} {w : World}
theorem Cx.stP (c : Cx ops n a0 w0 W B A l i o fl a w) (hw : Region.wanted o (yielded ops a.tmps) = true) {ty x y} (ho : o.op = .store ty x y) (hd : o.dst = none) (j : Nat) {g off t old cells new} (hj : B[j]? = some ⟨g, t, old, some i, new⟩) (hx : a.eval x = .pointer (some ⟨g, off, none⟩)) (hy : a.eval y = .agg cells)
    (h1 : cells.all (·.oneCell') = true) (hi : (P.info? ty).map (·.size) = some cells.size) (hlt : off + cells.size ≤ old.size) (hnew : setL old off cells.toList = new) (hg : W.heap.size ≤ g) (hk : chkX (B.eraseIdx j) A i none = true) (hne : AllL (fun e => e.g ≠ g) (B.eraseIdx j)) (ht : TabO l i undef) :
    wpOp P ops Q i (Post w0 W B A l i o fl a) a w := by
  have hr := c.ri j hj
  subst hnew
  have st := stored_setCells cells.toList w old off hr
  refine wpOp_skpw c.ho hw (exec_storeP ty x y ho g off cells hx hy h1 hi hr hlt) ⟨undef, rfl, ?_, ?_, ?_⟩
  · unfold own; rw [hd]; exact ht
  · rw [hd]; exact c.S.1.storeBi i j hj hg hk hne st
  · intro k hk1 hn
    refine (st.other k ?_).trans (c.S.2 k hk1 hn)
    intro e
    exact hn ⟨_, List.mem_of_getElem? hj, rfl, e.symm⟩
theorem Cx.callv (c : Cx ops n a0 w0 W B A l i o fl a w) (hw : Region.wanted o (yielded ops a.tmps) = true) {cl : Call} {f : FuncId} {fn : Func} {args : Array Value} {x : Operand} (ho : o.op = .call cl) (hc : cl.callee = .value x) (hr : a.eval x = .func (.func f) #[] #[]) (ha : cl.args.map a.eval = args) (hf : P.funcs[f]? = some fn)
    (hn : okF fn = true) {v : Value} (K : Calls P f args w fun e w' => e = .returned v ∧ Below w.heap.size w w') {d : Nat} (hd : o.dst = some d) (hlt : Nat.blt d n = true) (ht : TabO l i v) (hk : chkX B A i o.dst = true) :
    wpOp P ops Q i (Post w0 W B A l i o fl a) a w := by
  unfold okF at hn
  simp only [Bool.and_eq_true, Bool.not_eq_true'] at hn
  refine wpOp_callw c.ho hw (exec_callv ho hc hr ha hf hn.1 hn.2) (K.mono ?_)
  rintro e w' ⟨rfl, b⟩
  exact ⟨_, rfl, _, rfl, by rw [own_some hd c.sz hlt]; exact ht, c.S.quiet i hk b⟩
end
theorem res_cc {P : Program} {fn : Func} {w : World} {tmps : Array Value} {d e : Tmp} {t u : TypeId} {p q : Addr} {v x : Value} (h : fn.results = #[.cell d t, .cell e u]) (hs : tmps.getD d undef = .pointer (some p)) (hl : (loadVar t p).run P w = .ok v w) (hx : tmps.getD e undef = .pointer (some q)) (hm : (loadVar u q).run P w = .ok x w) : (results fn tmps).run P w = .ok (.tuple #[v, x]) w := by
  have hs' : tmps[d]?.getD undef = .pointer (some p) := by rw [← hs, Array.getD_eq_getD_getElem?]
  have hx' : tmps[e]?.getD undef = .pointer (some q) := by rw [← hx, Array.getD_eq_getD_getElem?]
  simp [results, h, hs', asAddr, hl, hx', hm]
/-! ### Short words, for the commonest operations -/
abbrev oU : Option Value := some undef
abbrev oT : Option Value := some (.bool true)
abbrev oF : Option Value := some (.bool false)
def isUndef (v : Value) : Bool := match v with
  | .tuple a => a.size == 0
  | _ => false
theorem undef_of {v : Value} (h : isUndef v = true) : v = undef := by
  cases v <;> simp [isUndef] at h
  subst h; rfl
def wantP (ops : Array Oper) (n : Nat) (l : List (Option Value)) (o : Oper) (p : Nat) : Option Bool := match o.guard, look ops l o p with
  | some (j, want), some (dj, v) => (match ops[j]? with
    | some oj => (match oj.dst with
      | some d => if d = dj ∧ Nat.blt dj n = true then (match v with | .bool b => some (b == want) | v => if isUndef v = true then some false else none) else none
      | none => none)
    | none => none)
  | _, _ => none
def okD (o : Oper) (n i : Nat) (B : List EB) (A : List EA) : Bool := match o.dst with
  | some d => Nat.blt d n && chkX B A i (some d)
  | none => false
def isU (l : List (Option Value)) (i : Nat) : Bool := match l[i]? with
  | some (some v) => isUndef v
  | _ => false
def mvd (o : Oper) : Option Nat := match o.op with
  | .move (.tmp d) | .assign (.tmp d) => some d
  | _ => none
section
variable {P : Program} {ops : Array Oper} {Q : Exit → Act → World → Prop} {n : Nat} {a0 : Act} {w0 W : World} {B : List EB} {A : List EA} {l : List (Option Value)} {i : Nat} {o : Oper} {fl : Nat → Bool} {a : Act} {w : World}
theorem Cx.want (c : Cx ops n a0 w0 W B A l i o fl a w) {p : Nat} {r : Bool} (h : wantP ops n l o p = some r) : Region.wanted o (yielded ops a.tmps) = r := by
  unfold wantP at h
  cases hg : o.guard with
  | none => rw [hg] at h; cases h
  | some q =>
    obtain ⟨j, want⟩ := q
    cases hu : look ops l o p with
    | none => rw [hg, hu] at h; cases h
    | some q =>
      obtain ⟨dj, v⟩ := q
      rw [hg, hu] at h
      simp only at h
      have hv := c.u p hu
      cases hj : ops[j]? with
      | none => rw [hj] at h; cases h
      | some oj =>
        rw [hj] at h
        simp only at h
        cases hd : oj.dst with
        | none => rw [hd] at h; cases h
        | some d =>
          rw [hd] at h
          simp only at h
          split at h
          · rename_i hlt
            obtain ⟨rfl, hlt⟩ := hlt
            split at h
            · cases h
              exact wanted_of hg hj hd (by rw [c.sz]; exact Nat.le_of_ble_eq_true hlt) hv
            · split at h
              · rename_i hx
                cases h
                exact c.wu hg hj hd hlt (hv.trans (undef_of hx))
              · cases h
          · cases h
theorem kno {L : List Oper} (p : Nat) (t : Hops P ops Q n a0 w0 W B A l (i + 1) L) (h : (wantP ops n l o p = some false) := by exact rfl) (h2 : (okD o n i B A && isU l i) = true := by exact rfl) : Hops P ops Q n a0 w0 W B A l i (o :: L) := hk (fun c => by
  rw [Bool.and_eq_true] at h2
  unfold okD isU at h2
  cases hd : o.dst with
  | none => rw [hd] at h2; cases h2.1
  | some d =>
    rw [hd] at h2
    simp only [Bool.and_eq_true] at h2
    refine c.no (c.want h) hd h2.1.1 ?_ (by rw [hd]; exact h2.1.2)
    have h3 := h2.2
    unfold TabO
    cases hl : l[i]? with
    | none => trivial
    | some q =>
      cases q with
      | none => trivial
      | some v => rw [hl] at h3; exact (undef_of h3).symm) t
theorem Cx.vy (c : Cx ops n a0 w0 W B A l i o fl a w) (p : Nat) {v : Value} (hr : (execOp a.eval o).run P w = .ok (.value v) w) (ht : TabO l i v := by exact rfl) (h : wantP ops n l o p = some true := by exact rfl) (h2 : okD o n i B A = true := by exact rfl) : wpOp P ops Q i (Post w0 W B A l i o fl a) a w := by
  unfold okD at h2
  cases hd : o.dst with
  | none => rw [hd] at h2; cases h2
  | some d =>
    rw [hd] at h2
    simp only [Bool.and_eq_true] at h2
    exact c.val (c.want h) hr hd h2.1 ht (by rw [hd]; exact h2.2)
theorem Cx.q (c : Cx ops n a0 w0 W B A l i o fl a w) {v : Value} (hr : (execOp a.eval o).run P w = .ok (.value v) w) (hk : okV o n i B A = true := by exact rfl) (ht : TabO l i v := by exact rfl) : wpOp P ops Q i (Post w0 W B A l i o fl a) a w := c.v hr hk ht
theorem kmu {L : List Oper} (p : Nat) (t : Hops P ops Q n a0 w0 W B A l (i + 1) L) (h1 : okV o n i B A = true := by exact rfl) (h2 : mvd o = (look ops l o p).map (·.1) := by exact rfl) (h3 : l[i]? = (look ops l o p).map (fun q => some q.2) := by exact rfl) (h4 : (look ops l o p).isSome = true := by exact rfl) : Hops P ops Q n a0 w0 W B A l i (o :: L) := hk (fun {fl a w} c => by
  cases hu : look ops l o p with
  | none => rw [hu] at h4; cases h4
  | some q =>
    obtain ⟨d, v⟩ := q
    rw [hu] at h2 h3
    have hv := c.u p hu
    have hr : (execOp a.eval o).run P w = .ok (.value v) w := by
      unfold mvd at h2
      split at h2
      · rename_i d' ho
        cases h2
        exact ex_mv ho hv
      · rename_i d' ho
        cases h2
        exact ex_as ho hv
      · cases h2
    refine c.v hr h1 ?_
    unfold TabO
    rw [h3]; rfl) t
end
theorem row_eq {w : World} {g : Nat} {c c' : Array Value} {t : TypeId} {fr : Nat × Nat} (h : w.heap[g]? = some (.cells c t fr)) (e : c = c') : w.heap[g]? = some (.cells c' t fr) := by rw [← e]; exact h
/-! ### Loops that count -/
theorem wp_count {P : Program} {Q : Exit → Act → World → Prop} {a : Act} {w : World} {c : Code} (N : Nat) (I : Nat → Act → World → Prop) (h0 : I 0 a w)
    (round : ∀ k a w, k ≤ N → I k a w → c.wp P (Exit.then (fun a' w' => k < N ∧ I (k + 1) a' w') Q) a w) : (Code.loop c).wp P Q a w := by
  refine wp_loop_ghost (fun n a w => ∃ k, k ≤ N ∧ n + k = N ∧ I k a w) N ⟨0, Nat.zero_le _, by omega, h0⟩ ?_
  rintro n a w ⟨k, h1, h2, h3⟩
  refine Code.wp_mono ?_ (round k a w h1 h3)
  intro e a' w' hq
  cases e with
  | normal => exact ⟨n - 1, by have := hq.1; omega, k + 1, hq.1, by have := hq.1; omega, hq.2⟩
  | exit id => exact hq
  | goto l => exact hq
  | ret => exact hq
  | panic ch => exact hq
  | outgrown => exact hq
theorem exit_block {Q : Exit → Act → World → Prop} {a : Act} {w : World} {id : Nat} (h : Q .normal a w) : Exit.inBlock id Q (.exit id) a w := by
  simp only [Exit.inBlock, if_true]; exact h
theorem wrapk {k N : Nat} (h : k < N) (hN : N ≤ 9223372036854775807) : IntKind.i64.wrap ((k : Int) + 1) = ((k + 1 : Nat) : Int) := by rw [IntKind.wrap_i64]; omega
end Go.Proofs.Ytllnengcmfgmhaa
