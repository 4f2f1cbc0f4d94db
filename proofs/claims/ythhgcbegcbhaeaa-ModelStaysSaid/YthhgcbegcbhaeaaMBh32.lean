/-
  Several texts in one: MdlO, MdlP.
-/
import Derived.Test.YthhgcbegcbhaeaaMBh30
import Derived.Test.YthhgcbegcbhaeaaMBh31
set_option linter.unusedVariables false
set_option linter.unusedSimpArgs false
set_option linter.unnecessarySimpa false
namespace Go.Proofs.Ythhgcbegcbhaeaa.Mdl
open Go.RowKit
set_option linter.unusedVariables false
set_option linter.unusedSimpArgs false
set_option maxRecDepth 100000

/-- A run between two instructions, in plain numbers. -/
structure Pl where
  r : Nat → Int
  set : Int
  at_ : Int
  fuel : Int
  fin : Int
  ans : List Int
  evs : List Trc.Ev
  mem : MemS
/-- What stays through a run: where the state, the memory lie; the program. -/
structure Env where
  g : Nat
  b : Nat
  β : Nat
  pa : Nat
  po : Nat
  pl : Nat
  pc : Nat
  x : Nat → Ins.In
  kf : Nat → Int
def Pl.put (D : Pl) (n : Nat) (v : Int) : Pl := { D with r := fun k => if k = n then v else D.r k, set := orM D.set (onlyI n) }
def Pl.opd (D : Pl) (x : Ins.In) : Int := if x.byReg = true then D.r x.src.toNat else x.imm % 18446744073709551616
def Pl.args (D : Pl) (n : Nat) : List Int := (List.range n).map (fun k => D.r (k + 1))
/-- Behind a host's call that was answered. -/
def Pl.called (D : Pl) (imm av : Int) (rest : List Int) : Pl := { D with r := (fun k => match k with | 0 => av | 1 => 0 | 2 => 0 | 3 => 0 | 4 => 0 | 5 => 0 | k => D.r k), set := orM (bits .andNot .i64 D.set (argsM 5)) (onlyI 0), ans := rest, evs := D.evs ++ [⟨imm, D.args (Ins.argsI imm).toNat, av⟩] }
/-- An instruction that may read what it reads; the index is the next one's already. -/
def Pl.exe (D : Pl) (kf : Nat → Int) (x : Ins.In) : Pl × Int :=
  if x.kind = 0 then (D.put x.dst.toNat (doI x.op x.width (D.r x.dst.toNat) (D.opd x)), 0)
  else if x.kind = 1 then (if readE D.mem (adI (D.r x.src.toNat) x.off) x.size.toNat = 0 then (D.put x.dst.toNat (readV D.mem kf (adI (D.r x.src.toNat) x.off) x.size.toNat), 0) else (D, 3))
  else if x.kind = 2 then (if locI D.mem.cn D.mem.n D.mem.hs (adI (D.r x.dst.toNat) x.off) x.size.toNat ≤ 1 then (D, 3) else ({ D with mem := D.mem.putAt (adI (D.r x.dst.toNat) x.off) x.size.toNat (D.r x.src.toNat) }, 0))
  else if x.kind = 3 then (if holdsB x.op 64 (D.r x.dst.toNat) (D.opd x) = true then { D with at_ := Ins.targetI (D.at_ - 1) x } else D, 0)
  else if x.kind = 4 then ({ D with at_ := Ins.targetI (D.at_ - 1) x }, 0)
  else if x.kind = 5 then (match D.ans with | [] => (D, 2) | a :: l => (D.called x.imm a l, 0))
  else (D, 1)
/-- One round: fuel, index, end, then the instruction. -/
def Pl.adv (D : Pl) : Pl := { D with fuel := D.fuel - 1, at_ := D.at_ + 1, fin := 3 }
def Pl.step (D : Pl) (kf : Nat → Int) (x : Ins.In) : Pl :=
  if (andM D.set (readsM x) == readsM x) = true then { (D.adv.exe kf x).1 with fin := (D.adv.exe kf x).2 } else D.adv

/-- The state's record. -/
def Env.mo (E : Env) (D : Pl) (av tv : Value) : Mo := ⟨.slice (some ⟨E.pa, E.po, none⟩) E.pl E.pc, .pointer (some ⟨E.b, 0, none⟩), D.r, D.set, D.at_, D.fuel, av, tv, D.fin⟩
/-- The answers that are left. -/
def AnsR (w : World) (av : Value) (zs : List Int) : Prop := (∀ z ∈ zs, 0 ≤ z ∧ z < 18446744073709551616) ∧ ∃ aa ca, av = .slice aa zs.length ca ∧ zs.length ≤ ca ∧
  (zs ≠ [] → ∃ (ab ao : Nat) (ac : Array Value), aa = some ⟨ab, ao, none⟩ ∧ w.heap[ab]? = some (.cells ac 30 (0, 0)) ∧ ∀ j z, zs[j]? = some z → ac[ao + j]? = some (.int .u64 z))
def cellsV : List (Trc.Ev × Value) → List Value
  | [] => []
  | p :: l => [.int .i64 p.1.num, p.2, .int .u64 p.1.ans] ++ cellsV l
theorem cellsV_append : ∀ l m, cellsV (l ++ m) = cellsV l ++ cellsV m
  | [], m => rfl
  | p :: l, m => by show _ ++ cellsV (l ++ m) = _; rw [cellsV_append l m, ← List.append_assoc]; rfl
/-- The trace: a row of the run's own. -/
def TrR (β : Nat) (w : World) (tv : Value) (es : List Trc.Ev) : Prop := ∃ ps : List (Trc.Ev × Value), ps.map (·.1) = es ∧ w.ownsRow β 39 3 tv es.length (cellsV ps) ∧
  ∀ p ∈ ps, w.ownsRow β 30 1 p.2 p.1.args.length (p.1.args.map (.int .u64))
/-- The program's row. -/
def PrR (E : Env) (w : World) : Prop := ∃ c : Array Value, w.heap[E.pa]? = some (.cells c 55 (0, 0)) ∧ ∀ i, i < E.pl → ∀ j v, (E.x i).cells[j]? = some v → c[E.po + i * 9 + j]? = some v
def Words (D : Pl) : Prop := ∀ k, 0 ≤ D.r k ∧ D.r k < 18446744073709551616
/-- The program is one that may be. -/
structure Fine (E : Env) : Prop where
  le : E.pl ≤ E.pc
  len : 1 ≤ E.pl ∧ E.pl ≤ 64
  may : ∀ k, k < E.pl → Ins.mayI (E.x k) = true
  ok : ∀ k, k < E.pl → (E.x k).Ok
  jumps : ∀ k, k < E.pl → Ins.jumpsI k (E.x k) = decide ((E.x k).kind = 3 ∨ (E.x k).kind = 4)
  into : ∀ k, k < E.pl → ((E.x k).kind = 3 ∨ (E.x k).kind = 4) → 0 ≤ Ins.targetI k (E.x k) ∧ Ins.targetI k (E.x k) < E.pl
  on : ∀ k, k < E.pl → ¬ (E.x k).kind = 4 → ¬ (E.x k).kind = 6 → k + 1 < E.pl
structure Rel (E : Env) (D : Pl) (w : World) : Prop where
  st : ∃ av tv, (E.mo D av tv).in_ w E.g ∧ AnsR w av D.ans ∧ TrR E.β w tv D.evs
  pr : PrR E w
  mm : Mem D.mem E.kf w E.b
  words : Words D
  far : E.β ≤ E.g ∧ E.β ≤ E.b ∧ E.β ≤ w.heap.size

/-- The types of what a run turns. -/
def τM (t : TypeId) : Bool := t == 76 || t == 97 || t == 39
theorem TurnT.refl {τ : TypeId → Bool} {β : Nat} (w : World) : TurnT τ β w w := ⟨rfl, rfl, rfl, Nat.le_refl _, fun _ _ h _ => h⟩
theorem TurnT.trans {τ : TypeId → Bool} {β : Nat} {A B C : World} (h : TurnT τ β A B) (k : TurnT τ β B C) : TurnT τ β A C := ⟨k.os.trans h.os, k.tape.trans h.tape, k.output.trans h.output, Nat.le_trans h.size k.size, fun i o hi ho => k.same i o (h.same i o hi ho) ho⟩
/-- What turned were blocks of the types. -/
theorem turn_of {τ : TypeId → Bool} {β : Nat} {G : List Nat} {w w' : World} (t : Trn G w w') (h : ∀ j ∈ G, β ≤ j ∧ ∃ c t fr, w.heap[j]? = some (.cells c t fr) ∧ τ t = true) : TurnT τ β w w' := by
  refine ⟨t.os, t.tape, t.output, t.size, fun k o hk ho => t.row hk (fun hg => ?_)⟩
  obtain ⟨h1, c, ty, fr, h2, h3⟩ := h k hg
  rcases ho with ho | ho
  · omega
  · rw [hk] at h2
    injection h2 with h2
    subst h2
    change τ ty = false at ho
    rw [h3] at ho; cases ho
theorem Turn.row {τ : TypeId → Bool} {β : Nat} {w w' : World} (t : TurnT τ β w w') {g : Nat} {c : Array Value} {ty : TypeId} {fr : Nat × Nat} (h : w.heap[g]? = some (.cells c ty fr)) (hn : τ ty = false) : w'.heap[g]? = some (.cells c ty fr) := t.same g _ h (.inr hn)

theorem AnsR.trn {w w' : World} {G : List Nat} {av : Value} {zs : List Int} (h : AnsR w av zs) (t : Trn G w w') (hG : ∀ j ∈ G, ∃ c ty fr, w.heap[j]? = some (.cells c ty fr) ∧ ty ≠ 30) : AnsR w' av zs := by
  obtain ⟨h0, aa, ca, h1, h2, h3⟩ := h
  refine ⟨h0, aa, ca, h1, h2, fun hz => ?_⟩
  obtain ⟨ab, ao, ac, e1, e2, e3⟩ := h3 hz
  refine ⟨ab, ao, ac, e1, t.row e2 (fun hg => ?_), e3⟩
  obtain ⟨c, ty, fr, e4, e5⟩ := hG ab hg
  rw [e2] at e4
  simp at e4
  exact e5 e4.2.1.symm
theorem PrR.trn {E : Env} {w w' : World} {G : List Nat} (h : PrR E w) (t : Trn G w w') (hG : ∀ j ∈ G, ∃ c ty fr, w.heap[j]? = some (.cells c ty fr) ∧ ty ≠ 55) : PrR E w' := by
  obtain ⟨c, e2, e3⟩ := h
  refine ⟨c, t.row e2 (fun hg => ?_), e3⟩
  obtain ⟨c, ty, fr, e4, e5⟩ := hG _ hg
  rw [e2] at e4
  simp at e4
  exact e5 e4.2.1.symm
theorem TrR.trn {β : Nat} {w w' : World} {G : List Nat} {tv : Value} {es : List Trc.Ev} (h : TrR β w tv es) (t : Trn G w w') (hG : ∀ j ∈ G, ∃ c ty fr, w.heap[j]? = some (.cells c ty fr) ∧ ty ≠ 30 ∧ ty ≠ 39) : TrR β w' tv es := by
  obtain ⟨ps, h1, h2, h3⟩ := h
  refine ⟨ps, h1, own_trn h2 t (fun j hj hg => ?_), fun p hp => own_trn (h3 p hp) t (fun j hj hg => ?_)⟩
  · obtain ⟨c, ty, fr, e4, e5⟩ := hG _ hg
    exact own_ne h2 e4 e5.2.symm j hj rfl
  · obtain ⟨c, ty, fr, e4, e5⟩ := hG _ hg
    exact own_ne (h3 p hp) e4 e5.1.symm j hj rfl
theorem Mem.trn {S : MemS} {kf : Nat → Int} {w w' : World} {b : Nat} {G : List Nat} (h : Mem S kf w b) (t : Trn G w w') (hG : ∀ j ∈ G, ∃ c ty fr, w.heap[j]? = some (.cells c ty fr) ∧ ty ≠ 97 ∧ ty ≠ 5) : Mem S kf w' b := by
  obtain ⟨c1, r1, r2, r3⟩ := h.at_.row
  obtain ⟨c2, q1, q2, q3⟩ := h.code
  refine ⟨⟨⟨c1, t.row r1 (fun hg => ?_), r2, r3⟩, h.at_.cn, h.at_.n, h.at_.far, h.at_.bytes⟩, ⟨c2, t.row q1 (fun hg => ?_), q2, q3⟩, h.kb⟩
  · obtain ⟨c, ty, fr, e4, e5⟩ := hG _ hg
    rw [r1] at e4; simp at e4; exact e5.1 e4.2.1.symm
  · obtain ⟨c, ty, fr, e4, e5⟩ := hG _ hg
    rw [q1] at e4; simp at e4; exact e5.2 e4.2.1.symm
theorem byteAt_bd2 {S : MemS} {kf : Nat → Int} {w : World} {b : Nat} (h : Mem S kf w b) (a m : Int) (hm : 1 ≤ m) (hl : ¬ locI S.cn S.n S.hs a m = 0) (i : Nat) (hi : (i : Int) < m) : 0 ≤ byteAt S kf (a + i) ∧ byteAt S kf (a + i) < 256 := by
  have hn := h.at_.n
  have hcn := h.at_.cn
  have c := locI_cases (cn := S.cn) (n := S.n) (hs := S.hs) (a := a) (m := m) hm
  unfold byteAt
  split
  · exact h.kb _ (by omega)
  · exact h.at_.bytes _
theorem readV_bd {S : MemS} {kf : Nat → Int} {w : World} {b : Nat} (h : Mem S kf w b) (a : Int) {m : Nat} (hm : szB m = true) : 0 ≤ readV S kf a m ∧ readV S kf a m < 18446744073709551616 := by
  unfold readV
  split
  · omega
  · next hl =>
    have := szB_le hm
    exact get_bd _ m (by omega) (fun i hi => byteAt_bd2 h a m (by omega) hl i (by omega))
theorem doI_word (op w : Int) {a b : Int} (ha : 0 ≤ a ∧ a < 18446744073709551616) (hb : 0 ≤ b ∧ b < 18446744073709551616) : 0 ≤ doI op w a b ∧ doI op w a b < 18446744073709551616 := doI_bd op w a b ha.1 ha.2 hb.1 hb.2
theorem Pl.put_words {D : Pl} (h : Words D) (n : Nat) {v : Int} (hv : 0 ≤ v ∧ v < 18446744073709551616) : Words (D.put n v) := fun k => by
  unfold Pl.put
  simp only
  split
  · exact hv
  · exact h k
theorem Pl.opd_word {D : Pl} (h : Words D) (x : Ins.In) : 0 ≤ D.opd x ∧ D.opd x < 18446744073709551616 := by
  unfold Pl.opd
  split
  · exact h _
  · omega
end Go.Proofs.Ythhgcbegcbhaeaa.Mdl

namespace Go.Proofs.Ythhgcbegcbhaeaa.Mdl
open Go.RowKit
set_option linter.unusedVariables false
set_option linter.unusedSimpArgs false
set_option maxRecDepth 100000

theorem Rel.apart {E : Env} {D : Pl} {W : World} (R : Rel E D W) {av tv : Value} (hin : (E.mo D av tv).in_ W E.g) : E.g ≠ E.b := by
  intro e
  obtain ⟨c, r1, _, _⟩ := R.mm.at_.row
  rw [← e] at r1
  unfold Mo.in_ at hin
  rw [hin] at r1
  simp at r1
/-- The state's block turned, nothing else. -/
theorem Rel.turnG {E : Env} {D D' : Pl} {W w' : World} {av tv : Value} (R : Rel E D W) (hin : (E.mo D av tv).in_ W E.g) (hA : AnsR W av D.ans) (hT : TrR E.β W tv D.evs) (hin' : (E.mo D' av tv).in_ w' E.g) (t : Trn [E.g] W w') (ha : D'.ans = D.ans) (he : D'.evs = D.evs) (hm : D'.mem = D.mem) (hw : Words D') : Rel E D' w' ∧ TurnT τM E.β W w' := by
  have hg : ∀ j ∈ [E.g], ∃ c ty fr, W.heap[j]? = some (.cells c ty fr) ∧ ty = 76 := fun j hj => by
    rw [List.mem_singleton] at hj; subst hj
    exact ⟨_, _, _, hin, rfl⟩
  have hx : ∀ (T : TypeId), 76 ≠ T → ∀ j ∈ [E.g], ∃ c ty fr, W.heap[j]? = some (.cells c ty fr) ∧ ty ≠ T := fun T n j hj => by
    obtain ⟨c, ty, fr, h1, rfl⟩ := hg j hj
    exact ⟨c, _, fr, h1, n⟩
  have hxy : ∀ (T U : TypeId), 76 ≠ T → 76 ≠ U → ∀ j ∈ [E.g], ∃ c ty fr, W.heap[j]? = some (.cells c ty fr) ∧ ty ≠ T ∧ ty ≠ U := fun T U n m j hj => by
    obtain ⟨c, ty, fr, h1, rfl⟩ := hg j hj
    exact ⟨c, _, fr, h1, n, m⟩
  refine ⟨⟨⟨av, tv, hin', by rw [ha]; exact hA.trn t (hx _ (by decide)), by rw [he]; exact hT.trn t (hxy _ _ (by decide) (by decide))⟩, R.pr.trn t (hx _ (by decide)), by rw [hm]; exact Mem.trn R.mm t (hxy _ _ (by decide) (by decide)), hw, R.far.1, R.far.2.1, Nat.le_trans R.far.2.2 t.size⟩, turn_of t (fun j hj => ?_)⟩
  obtain ⟨c, ty, fr, h1, rfl⟩ := hg j hj
  rw [List.mem_singleton] at hj; subst hj
  exact ⟨R.far.1, c, _, fr, h1, by decide⟩
theorem Rel.still {E : Env} {D : Pl} {W w' : World} (R : Rel E D W) (b : Below W.heap.size W w') : Rel E D w' ∧ TurnT τM E.β W w' := by
  obtain ⟨av, tv, hin, hA, hT⟩ := R.st
  exact R.turnG hin hA hT (Mo.below hin b) (Trn.of_below b) rfl rfl rfl R.words

/-- Which method does a kind. -/
def methF (k : Int) : Nat := if k = 0 then 33 else if k = 1 then 34 else if k = 2 then 35 else if k = 3 then 36 else if k = 4 then 37 else if k = 5 then 38 else 39
abbrev Exe (E : Env) (D : Pl) (x : Ins.In) (W : World) : Prop := Calls Try.prog (methF x.kind) #[.pointer (some ⟨E.g, 0, none⟩), .agg x.cells] W fun e w' => e = .returned (.int .i8 (D.exe E.kf x).2) ∧ Rel E (D.exe E.kf x).1 w' ∧ TurnT τM E.β W w'
theorem nat_of {z : Int} (h0 : 0 ≤ z) (h1 : z < 11) : ∃ n : Nat, z = n ∧ n < 11 := ⟨z.toNat, by omega, by omega⟩
theorem opd_is (E : Env) (D : Pl) (av tv : Value) (x : Ins.In) : operandI (E.mo D av tv) x = D.opd x := rfl

theorem exe_0 (E : Env) (D : Pl) (op width size : Int) (byReg : Bool) (dst src off imm : Int) (W : World) (R : Rel E D W) (d0 : 0 ≤ dst) (d1 : dst < 11) (s0 : 0 ≤ src) (s1 : src < 11) : Exe E D ⟨0, op, width, size, byReg, dst, src, off, imm⟩ W := by
  obtain ⟨av, tv, hin, hA, hT⟩ := R.st
  obtain ⟨d, rfl, hd⟩ := nat_of d0 d1
  refine (alu_any (E.mo D av tv) E.g d 0 op width size byReg src off imm W hin R.words hd s0 s1).mono ?_
  rintro e w' ⟨rfl, hin', t⟩
  have := R.turnG (D' := D.put d (doI op width (D.r d) (D.opd ⟨0, op, width, size, byReg, d, src, off, imm⟩))) hin hA hT hin' (But.trn t) rfl rfl rfl (Pl.put_words R.words d (doI_word op width (R.words d) (Pl.opd_word R.words _)))
  exact ⟨rfl, this.1, this.2⟩
theorem exe_1 (E : Env) (D : Pl) (op width size : Int) (byReg : Bool) (dst src off imm : Int) (W : World) (R : Rel E D W) (d0 : 0 ≤ dst) (d1 : dst < 11) (s0 : 0 ≤ src) (s1 : src < 11) (o0 : -9223372036854775808 ≤ off) (o1 : off ≤ 9223372036854775807) (hs : size = 1 ∨ size = 2 ∨ size = 4 ∨ size = 8) : Exe E D ⟨1, op, width, size, byReg, dst, src, off, imm⟩ W := by
  obtain ⟨av, tv, hin, hA, hT⟩ := R.st
  obtain ⟨d, rfl, hd⟩ := nat_of d0 d1
  obtain ⟨n, rfl, hn⟩ := nat_of s0 s1
  obtain ⟨m, rfl⟩ : ∃ m : Nat, size = m := ⟨size.toNat, by omega⟩
  have hm : szB m = true := by rcases hs with h | h | h | h <;> (rw [h]; rfl)
  refine (load_any (E.mo D av tv) E.g d n m E.b D.mem E.kf 1 op width byReg off imm W hin R.words hd hn hm o0 o1 rfl R.mm).mono ?_
  rintro e w' ⟨rfl, hin', t⟩
  by_cases hr : readE D.mem (adI (D.r n) off) m = 0
  · rw [if_pos (show readE D.mem (adI ((E.mo D av tv).r n) off) m = 0 from hr)] at hin' ⊢
    have := R.turnG (D' := D.put d (readV D.mem E.kf (adI (D.r n) off) m)) hin hA hT hin' (But.trn t) rfl rfl rfl (Pl.put_words R.words d (readV_bd R.mm _ hm))
    have ex : D.exe E.kf ⟨1, op, width, m, byReg, d, n, off, imm⟩ = (D.put d (readV D.mem E.kf (adI (D.r n) off) m), 0) := by
      show (if readE D.mem (adI (D.r n) off) m = 0 then _ else _) = _
      rw [if_pos hr]; rfl
    rw [ex]
    exact ⟨rfl, this.1, this.2⟩
  · rw [if_neg (show ¬ readE D.mem (adI ((E.mo D av tv).r n) off) m = 0 from hr)] at hin' ⊢
    have := R.turnG (D' := D) hin hA hT hin' (But.trn t) rfl rfl rfl R.words
    have ex : D.exe E.kf ⟨1, op, width, m, byReg, d, n, off, imm⟩ = (D, 3) := by
      show (if readE D.mem (adI (D.r n) off) m = 0 then _ else _) = _
      rw [if_neg hr]
    rw [ex]
    exact ⟨rfl, this.1, this.2⟩
theorem exe_2 (E : Env) (D : Pl) (op width size : Int) (byReg : Bool) (dst src off imm : Int) (W : World) (R : Rel E D W) (d0 : 0 ≤ dst) (d1 : dst < 11) (s0 : 0 ≤ src) (s1 : src < 11) (o0 : -9223372036854775808 ≤ off) (o1 : off ≤ 9223372036854775807) (hs : size = 1 ∨ size = 2 ∨ size = 4 ∨ size = 8) : Exe E D ⟨2, op, width, size, byReg, dst, src, off, imm⟩ W := by
  obtain ⟨av, tv, hin, hA, hT⟩ := R.st
  obtain ⟨d, rfl, hd⟩ := nat_of d0 d1
  obtain ⟨n, rfl, hn⟩ := nat_of s0 s1
  obtain ⟨m, rfl⟩ : ∃ m : Nat, size = m := ⟨size.toNat, by omega⟩
  have hm : szB m = true := by rcases hs with h | h | h | h <;> (rw [h]; rfl)
  by_cases hl : locI D.mem.cn D.mem.n D.mem.hs (adI (D.r d) off) m ≤ 1
  · have ex : D.exe E.kf ⟨2, op, width, m, byReg, d, n, off, imm⟩ = (D, 3) := by
      show (if locI D.mem.cn D.mem.n D.mem.hs (adI (D.r d) off) m ≤ 1 then _ else _) = _
      rw [if_pos hl]
    unfold Exe
    rw [ex]
    refine (store_no (E.mo D av tv) E.g d n m E.b D.mem E.kf 2 op width byReg off imm W hin R.words hd hn hm o0 o1 rfl R.mm hl).mono ?_
    rintro e w' ⟨rfl, t⟩
    have := R.still t
    exact ⟨rfl, this.1, this.2⟩
  · have ex : D.exe E.kf ⟨2, op, width, m, byReg, d, n, off, imm⟩ = ({ D with mem := D.mem.putAt (adI (D.r d) off) m (D.r n) }, 0) := by
      show (if locI D.mem.cn D.mem.n D.mem.hs (adI (D.r d) off) m ≤ 1 then _ else _) = _
      rw [if_neg hl]; rfl
    unfold Exe
    rw [ex]
    refine (store_yes (E.mo D av tv) E.g d n m E.b D.mem E.kf 2 op width byReg off imm W hin R.words hd hn hm o0 o1 rfl R.mm (by show 1 < locI D.mem.cn D.mem.n D.mem.hs (adI (D.r d) off) m; omega) (R.apart hin)).mono ?_
    rintro e w' ⟨rfl, hat, t0⟩
    have t := But.trn t0
    obtain ⟨c0, r1, _, _⟩ := R.mm.at_.row
    have hg : ∀ j ∈ [E.b], ∃ c ty fr, W.heap[j]? = some (.cells c ty fr) ∧ ty = 97 := fun j hj => by
      rw [List.mem_singleton] at hj; subst hj
      exact ⟨_, _, _, r1, rfl⟩
    have hx : ∀ (T : TypeId), 97 ≠ T → ∀ j ∈ [E.b], ∃ c ty fr, W.heap[j]? = some (.cells c ty fr) ∧ ty ≠ T := fun T n j hj => by
      obtain ⟨c, ty, fr, h1, rfl⟩ := hg j hj
      exact ⟨c, _, fr, h1, n⟩
    have hxy : ∀ (T U : TypeId), 97 ≠ T → 97 ≠ U → ∀ j ∈ [E.b], ∃ c ty fr, W.heap[j]? = some (.cells c ty fr) ∧ ty ≠ T ∧ ty ≠ U := fun T U n m j hj => by
      obtain ⟨c, ty, fr, h1, rfl⟩ := hg j hj
      exact ⟨c, _, fr, h1, n, m⟩
    refine ⟨rfl, ⟨⟨av, tv, t.row hin (by simpa using R.apart hin), hA.trn t (hx _ (by decide)), hT.trn t (hxy _ _ (by decide) (by decide))⟩, R.pr.trn t (hx _ (by decide)), ⟨hat, ?_, R.mm.kb⟩, R.words, R.far.1, R.far.2.1, Nat.le_trans R.far.2.2 t.size⟩, turn_of t (fun j hj => ?_)⟩
    · obtain ⟨c2, q1, q2, q3⟩ := R.mm.code
      exact ⟨c2, t.row (g := D.mem.cb) q1 (by simpa using R.mm.at_.far), q2, q3⟩
    · obtain ⟨c, ty, fr, h1, rfl⟩ := hg j hj
      rw [List.mem_singleton] at hj; subst hj
      exact ⟨R.far.2.1, c, _, fr, h1, by decide⟩
theorem exe_3 (E : Env) (D : Pl) (op width size : Int) (byReg : Bool) (dst src off imm : Int) (W : World) (R : Rel E D W) (d0 : 0 ≤ dst) (d1 : dst < 11) (s0 : 0 ≤ src) (s1 : src < 11) (t1 : 1 ≤ D.at_) (t2 : D.at_ ≤ 64) : Exe E D ⟨3, op, width, size, byReg, dst, src, off, imm⟩ W := by
  obtain ⟨av, tv, hin, hA, hT⟩ := R.st
  obtain ⟨d, rfl, hd⟩ := nat_of d0 d1
  refine (jump_any (E.mo D av tv) E.g d 3 op width size byReg src off imm W hin R.words hd s0 s1 t1 t2).mono ?_
  rintro e w' ⟨rfl, hin', t⟩
  unfold Mo.jump at hin'
  by_cases hh : holdsB op 64 (D.r d) (D.opd ⟨3, op, width, size, byReg, d, src, off, imm⟩) = true
  · have ex : D.exe E.kf ⟨3, op, width, size, byReg, d, src, off, imm⟩ = ({ D with at_ := Ins.targetI (D.at_ - 1) ⟨3, op, width, size, byReg, d, src, off, imm⟩ }, 0) := by
      show ((if holdsB op 64 (D.r d) (D.opd ⟨3, op, width, size, byReg, d, src, off, imm⟩) = true then _ else _), _) = _
      rw [if_pos hh]
    rw [if_pos (by exact hh)] at hin'
    rw [ex]
    have := R.turnG (D' := { D with at_ := Ins.targetI (D.at_ - 1) ⟨3, op, width, size, byReg, d, src, off, imm⟩ }) hin hA hT hin' (But.trn t) rfl rfl rfl R.words
    exact ⟨rfl, this.1, this.2⟩
  · have ex : D.exe E.kf ⟨3, op, width, size, byReg, d, src, off, imm⟩ = (D, 0) := by
      show ((if holdsB op 64 (D.r d) (D.opd ⟨3, op, width, size, byReg, d, src, off, imm⟩) = true then _ else _), _) = _
      rw [if_neg hh]
    rw [if_neg (by exact hh)] at hin'
    rw [ex]
    have := R.turnG (D' := D) hin hA hT hin' (But.trn t) rfl rfl rfl R.words
    exact ⟨rfl, this.1, this.2⟩
theorem exe_4 (E : Env) (D : Pl) (x : Ins.In) (hk : x.kind = 4) (W : World) (R : Rel E D W) (t1 : 1 ≤ D.at_) (t2 : D.at_ ≤ 64) : Exe E D x W := by
  obtain ⟨av, tv, hin, hA, hT⟩ := R.st
  have ex : D.exe E.kf x = ({ D with at_ := Ins.targetI (D.at_ - 1) x }, 0) := by unfold Pl.exe; simp [hk]
  unfold Exe
  rw [ex, show methF x.kind = 37 by rw [hk]; rfl]
  refine (continueAt_any (E.mo D av tv) E.g x W hin t1 t2).mono ?_
  rintro e w' ⟨rfl, hin', t⟩
  have := R.turnG (D' := { D with at_ := Ins.targetI (D.at_ - 1) x }) hin hA hT hin' (But.trn t) rfl rfl rfl R.words
  exact ⟨rfl, this.1, this.2⟩
theorem exe_6 (E : Env) (D : Pl) (x : Ins.In) (hk : x.kind = 6) (W : World) (R : Rel E D W) : Exe E D x W := by
  have ex : D.exe E.kf x = (D, 1) := by unfold Pl.exe; simp [hk]
  unfold Exe
  rw [ex, show methF x.kind = 39 by rw [hk]; rfl]
  refine (exit_any _ x W).mono ?_
  rintro e w' ⟨rfl, t⟩
  have := R.still t
  exact ⟨rfl, this.1, this.2⟩
theorem exe_5 (E : Env) (D : Pl) (op width size : Int) (byReg : Bool) (dst src off imm : Int) (W : World) (R : Rel E D W) (hn : D.evs.length ≤ 10000) : Exe E D ⟨5, op, width, size, byReg, dst, src, off, imm⟩ W := by
  obtain ⟨av, tv, hin, hA, hT⟩ := R.st
  obtain ⟨z0, aa, ca, e1, e2, e3⟩ := hA
  cases hans : D.ans with
  | nil =>
    have ex : D.exe E.kf ⟨5, op, width, size, byReg, dst, src, off, imm⟩ = (D, 2) := by unfold Pl.exe; simp [hans]
    unfold Exe
    rw [ex]
    rw [hans] at e1
    refine (call_no (E.mo D av tv) E.g ca aa _ W hin e1).mono ?_
    rintro e w' ⟨rfl, t⟩
    have := R.still t
    exact ⟨rfl, this.1, this.2⟩
  | cons a l =>
    have ex : D.exe E.kf ⟨5, op, width, size, byReg, dst, src, off, imm⟩ = (D.called imm a l, 0) := by unfold Pl.exe; simp [hans]
    unfold Exe
    rw [ex]
    obtain ⟨ab, ao, ac, rfl, hrow, hac⟩ := e3 (by rw [hans]; simp)
    obtain ⟨ps, p1, p2, p3⟩ := hT
    rw [hans] at e1 e2 hac z0
    have hT' : W.ownsRow E.β 39 3 (E.mo D av tv).trace D.evs.length (cellsV ps) := p2
    refine (call_yes (E.mo D av tv) E.g ab ao (a :: l).length ca E.β D.evs.length a ac (cellsV ps) 5 op width size byReg dst src off imm W hin (by simp) e1 hrow (by simpa using hac 0 a rfl) hT' R.far.2.2 hn).mono ?_
    rintro e w' ⟨rfl, va, tv', o1, o2, hin', t⟩
    have hG : ∀ j ∈ E.g :: (E.mo D av tv).trace.ownBlock.toList, E.β ≤ j ∧ ∃ c ty fr, W.heap[j]? = some (.cells c ty fr) ∧ (ty = 76 ∨ ty = 39) := fun j hj => by
      rcases List.mem_cons.1 hj with rfl | hj
      · exact ⟨R.far.1, _, _, _, hin, .inl rfl⟩
      · have hb : (E.mo D av tv).trace.ownBlock = some j := by simpa using hj
        refine ⟨(World.ownsRow.lt hT' j hb).1, ?_⟩
        rcases hT'.2 with ⟨h, _⟩ | ⟨g', cap, cur, h, h2, h3, _⟩
        · rw [h] at hb; cases hb
        · rw [h] at hb
          obtain rfl : g' = j := by simpa [Value.ownBlock] using hb
          exact ⟨_, _, _, h3, .inr rfl⟩
    have hx : ∀ (T : TypeId), 76 ≠ T → 39 ≠ T → ∀ j ∈ E.g :: (E.mo D av tv).trace.ownBlock.toList, ∃ c ty fr, W.heap[j]? = some (.cells c ty fr) ∧ ty ≠ T := fun T n m j hj => by
      obtain ⟨_, c, ty, fr, h1, h2⟩ := hG j hj
      exact ⟨c, ty, fr, h1, by rcases h2 with rfl | rfl <;> assumption⟩
    have hxy : ∀ (T U : TypeId), 76 ≠ T → 39 ≠ T → 76 ≠ U → 39 ≠ U → ∀ j ∈ E.g :: (E.mo D av tv).trace.ownBlock.toList, ∃ c ty fr, W.heap[j]? = some (.cells c ty fr) ∧ ty ≠ T ∧ ty ≠ U := fun T U n m n' m' j hj => by
      obtain ⟨_, c, ty, fr, h1, h2⟩ := hG j hj
      exact ⟨c, ty, fr, h1, by rcases h2 with rfl | rfl <;> assumption, by rcases h2 with rfl | rfl <;> assumption⟩
    have av0 : 0 ≤ a ∧ a < 18446744073709551616 := z0 a (by simp)
    refine ⟨rfl, ⟨⟨_, tv', hin', ⟨fun z hz => z0 z (by simp [show z ∈ l from hz]), _, _, rfl, ?_, fun hl => ?_⟩, ps ++ [(⟨imm, D.args (Ins.argsI imm).toNat, a⟩, va)], ?_, ?_, fun p hp => ?_⟩, R.pr.trn t (hx _ (by decide) (by decide)), Mem.trn R.mm t (hxy _ _ (by decide) (by decide) (by decide) (by decide)), fun k => ?_, R.far.1, R.far.2.1, Nat.le_trans R.far.2.2 t.size⟩, turn_of t (fun j hj => ?_)⟩
    · show l.length ≤ ca - 1
      simp at e2; omega
    · change l ≠ [] at hl
      have : 0 < l.length := List.length_pos_iff.2 hl
      refine ⟨ab, ao + 1, ac, by rw [if_neg (by simp at e2; omega)], t.row hrow (fun hg => ?_), fun j z hz => ?_⟩
      · obtain ⟨c, ty, fr, h1, h2⟩ := hx 30 (by decide) (by decide) ab hg
        rw [hrow] at h1; simp at h1; exact h2 h1.2.1.symm
      · have := hac (j + 1) z (show (a :: l)[j + 1]? = some z from (List.getElem?_cons_succ).trans hz)
        rw [show ao + 1 + j = ao + (j + 1) by omega]; exact this
    · show List.map _ _ = D.evs ++ _
      rw [List.map_append, p1]; rfl
    · show w'.ownsRow E.β _ 3 tv' (D.evs ++ [_]).length _
      rw [List.length_append, cellsV_append]
      exact o2
    · rcases List.mem_append.1 hp with hp | hp
      · refine own_trn (p3 p hp) t (fun j hj hg => ?_)
        obtain ⟨c, ty, fr, h1, h2⟩ := hx 30 (by decide) (by decide) j hg
        exact own_ne (p3 p hp) h1 h2.symm j hj rfl
      · rw [List.mem_singleton] at hp; subst hp
        have := own_base o1 R.far.2.2
        show w'.ownsRow E.β _ 1 va (D.args (Ins.argsI imm).toNat).length ((D.args (Ins.argsI imm).toNat).map (.int .u64))
        rw [show (D.args (Ins.argsI imm).toNat).length = (Ins.argsI imm).toNat by simp [Pl.args]]
        exact this
    · unfold Pl.called
      simp only
      split <;> first | exact av0 | exact ⟨by decide, by decide⟩ | exact R.words _
    · obtain ⟨h0, c, ty, fr, h1, h2⟩ := hG j hj
      exact ⟨h0, c, ty, fr, h1, by rcases h2 with rfl | rfl <;> decide⟩
/-- An instruction of a program that may be. -/
theorem exe_any (E : Env) (D : Pl) (F : Fine E) (i : Nat) (hi : i < E.pl) (W : World) (R : Rel E D W) (t1 : 1 ≤ D.at_) (t2 : D.at_ ≤ 64) (hn : D.evs.length ≤ 10000) : Exe E D (E.x i) W := by
  have hm := F.may i hi
  have ok := F.ok i hi
  obtain ⟨⟨d0, d1⟩, ⟨s0, s1⟩, _, _, hc⟩ := Ins.mayI_cases hm
  generalize hx : E.x i = x at *
  obtain ⟨kind, op, width, size, byReg, dst, src, off, imm⟩ := x
  simp only at d0 d1 s0 s1 hc
  rcases hc with ⟨h, _⟩ | ⟨h, _, _, hs, _⟩ | ⟨h, _, _, hs, _⟩ | ⟨h, _⟩ | ⟨h, _⟩ | ⟨h, _⟩ | ⟨h, _⟩ <;> subst h
  · exact exe_0 E D op width size byReg dst src off imm W R d0 d1 s0 s1
  · exact exe_1 E D op width size byReg dst src off imm W R d0 d1 s0 s1 ok.off.1 ok.off.2 hs
  · exact exe_2 E D op width size byReg dst src off imm W R d0 d1 s0 s1 ok.off.1 ok.off.2 hs
  · exact exe_3 E D op width size byReg dst src off imm W R d0 d1 s0 s1 t1 t2
  · exact exe_4 E D _ rfl W R t1 t2
  · exact exe_5 E D op width size byReg dst src off imm W R hn
  · exact exe_6 E D _ rfl W R
end Go.Proofs.Ythhgcbegcbhaeaa.Mdl
