/-
  Several texts in one: MdlN, MdlA.
-/
import Derived.Test.YthhgcbegcbhaeaaMBh29
import Derived.Test.YthhgcbegcbhaeaaRows
import Derived.RangeFuncWrites
import Derived.RangeFuncLeaves
import Derived.Shelf.Abstract
import Derived.WalkKit
import Derived.OwnWalkIn
import Derived.TacticsInMore
import Derived.LoopNIn
import Derived.LoopIn
set_option linter.unusedVariables false
set_option linter.unusedSimpArgs false
set_option linter.unnecessarySimpa false
namespace Go.Proofs.Ythhgcbegcbhaeaa.Mdl
open Go.RowKit
set_option linter.unusedVariables false
set_option linter.unusedSimpArgs false
set_option maxRecDepth 100000

theorem Mo.c16 {s : Mo} {w : World} {g : Nat} (h : s.in_ w g) : w.cell? ⟨g, 16, none⟩ = some s.answers := by
  unfold Mo.in_ at h
  simp only [World.cell?, h]; rfl
set_option maxHeartbeats 2000000 in
theorem call_no (s : Mo) (g ca : Nat) (aa : Option Addr) (x : Ins.In) (W : World) (h : s.in_ W g) (hans : s.answers = .slice aa 0 ca) :
    Calls Try.prog 38 #[.pointer (some ⟨g, 0, none⟩), .agg x.cells] W fun e w' => e = .returned (.int .i8 2) ∧ Below W.heap.size W w' := by
  have c16 := s.c16 (s.below h (below_new (Below.refl _ W) (.cells x.cells 55)))
  rw [hans] at c16
  clear h hans
  generalize x.cells = c at *
  go_enter Try.func38, Try.ntmps38
  go_wp2
  go_ret
  exact ⟨rfl, below_new (Below.refl _ _) _⟩
end Go.Proofs.Ythhgcbegcbhaeaa.Mdl

namespace Go.Proofs.Ythhgcbegcbhaeaa.Mdl
open Go.RowKit Go.Shelf
set_option linter.unusedVariables false
set_option maxRecDepth 100000

section
variable {P : Program} {τ σ : TypeId → Bool} {β n : Nat} {α : Type}

/-- Is an object a block of one of the types? -/
def isT (τ : TypeId → Bool) : Obj → Bool
  | .cells _ t _ => τ t
  | _ => false
theorem isT_other {o : Obj} (h : o.isCells = false) : isT τ o = false := by
  cases o <;> first | rfl | (simp [Obj.isCells] at h)
/-- A step of the iterator: of what lay, only blocks of the types from β on may have turned. -/
structure TurnT (τ : TypeId → Bool) (β : Nat) (A B : World) : Prop where
  os : B.os = A.os
  tape : B.tape = A.tape
  output : B.output = A.output
  size : A.heap.size ≤ B.heap.size
  same : ∀ (k : Nat) (o : Obj), A.heap[k]? = some o → (k < β ∨ isT τ o = false) → B.heap[k]? = some o
/-- What a body leaves alone. -/
structure KeepT (τ : TypeId → Bool) (A B : World) : Prop where
  size : A.heap.size ≤ B.heap.size
  same : ∀ (k : Nat) (o : Obj), A.heap[k]? = some o → isT τ o = true → B.heap[k]? = some o
theorem KeepT.refl (A : World) : KeepT τ A A := ⟨Nat.le_refl _, fun _ _ h _ => h⟩
theorem KeepT.trans {A B C : World} (h : KeepT τ A B) (k : KeepT τ B C) : KeepT τ A C := ⟨Nat.le_trans h.size k.size, fun i o hi ho => k.same i o (h.same i o hi ho) ho⟩
theorem KeepT.putObj {W : World} {l : Nat} {o : Obj} (o' : Obj) (hl : W.heap[l]? = some o) (ho : o.isCells = false) : KeepT τ W (W.putObj l o') := by
  have g := grownBy_putObj' W l o'
  refine ⟨g.size, fun k x hk hx => ?_⟩
  by_cases e : k = l
  · subst e
    rw [hl] at hk
    injection hk with hk
    subst hk
    rw [isT_other ho] at hx; cases hx
  · exact (g.block k (Array.getElem?_eq_some_iff.1 hk).1 (fun h => e (by injection h))).trans hk
/-- What abides the iterator's steps. -/
def AbT (τ : TypeId → Bool) (β : Nat) (J : List α → World → Prop) : Prop := ∀ s A B, J s A → TurnT τ β A B → J s B
/-- The iterator's contract. -/
def SeqT (τ σ : TypeId → Bool) (β n : Nat) (P : Program) (g : Nat) (pa lb : Array Value) (encs : α → Array Value) (Y : List α → α → World → Prop) (S Sp : List α → World → Prop) (w : World) : Prop :=
  ∀ (l : Nat) (J Jx : List α → World → Prop) (W : World), Below w.heap.size w W → AbT τ β J → AbT τ β Jx →
    (∀ pre x W1, J pre W1 → Y pre x W1 → YieldAt Fence.wide (n - 1) P l (encs x) W1 fun e W' =>
      (e = .returned (.bool true) ∧ J (pre ++ [x]) W' ∧ KeepT σ W1 W') ∨ (e = .returned (.bool false) ∧ Jx (pre ++ [x]) W' ∧ KeepT σ W1 W')) →
    J [] W →
    CallsIn Fence.wide n P g (pa ++ #[.func (.yield l) #[] #[]] ++ lb) W fun e W' => (∃ v, e = .returned v) ∧ ((∃ xs, S xs W' ∧ J xs W') ∨ (∃ pre, Sp pre W' ∧ Jx pre W'))

/-- How a body may be left. -/
def leftT (σ : TypeId → Bool) (B : Nat) (I : List α → World → Prop) (Ix : Code → List α → World → Prop) (xs : List α) (W : World) : Exit → Act → World → Prop
  | .normal, _, W' => KeepsFrom B W W' ∧ KeepT σ W W' ∧ I xs W'
  | .ret, _, W' => KeepsFrom B W W' ∧ KeepT σ W W' ∧ Ix .ret xs W'
  | .exit id, _, W' => KeepsFrom B W W' ∧ KeepT σ W W' ∧ Ix (.exit id) xs W'
  | .goto t, _, W' => KeepsFrom B W W' ∧ KeepT σ W W' ∧ Ix (.goto t) xs W'
  | _, _, _ => False

/-- The loop's own two blocks. -/
structure Book (l D : Nat) (rec : Loop) (W : World) : Prop where
  loop : W.heap[l]? = some (.loop rec)
  defers : W.heap[D]? = some (.deferred (some []))
theorem Book.turn {l D : Nat} {rec : Loop} {A B : World} (h : Book l D rec A) (t : TurnT τ β A B) : Book l D rec B := ⟨t.same _ _ h.loop (.inr rfl), t.same _ _ h.defers (.inr rfl)⟩
theorem Book.put {l D : Nat} {rec : Loop} {W : World} (h : Book l D rec W) (ne : l ≠ D) (r : Loop) : Book l D r (W.putObj l (.loop r)) :=
  ⟨World.putObj_heap_same (Array.getElem?_eq_some_iff.1 h.loop).1, (World.putObj_heap_other (fun e => ne (by first | exact e | exact e.symm))).trans h.defers⟩
theorem Book.keeps {B l D : Nat} {rec : Loop} {W W' : World} (h : Book l D rec W) (k : KeepsFrom B W W') (hl : B ≤ l) (hD : B ≤ D) : Book l D rec W' := ⟨k.same _ _ hl h.loop rfl, k.same _ _ hD h.defers rfl⟩

/-- One round, told of the loop's record. -/
theorem round_T {l D B m : Nat} {fn : FuncId} {tmps : Array Value} {ps : Array Tmp} {assign body : Code} {dd : Nat} {encs : α → Array Value} {Y : List α → α → World → Prop} {I : List α → World → Prop} {Ix : Code → List α → World → Prop} {a₁ : α → Act}
    (hlD : l ≠ D) (hlB : B ≤ l) (hDB : B ≤ D) (hI : OwnFrom B I) (hY : ∀ x, OwnFrom B (fun pre => Y pre x)) (hIx : ∀ c, OwnFrom B (Ix c)) (hps : ∀ x, (encs x).size = ps.size)
    (hassign : ∀ (x : α) (W : World) (K : Act → World → Prop), K (a₁ x) W → assign.wpIn (Fence.wide.inRound l) m P (Exit.then K (fun _ _ _ => False)) { tmps := (ps.zip (encs x)).foldl (fun t (p, v) => t.setIfInBounds p v) tmps, defers := [] } W)
    (hbody : ∀ (pre : List α) (x : α) (W : World), I pre W → Y pre x W → body.wpIn (Fence.wide.inRound l) m P (leftT σ B I Ix (pre ++ [x]) W) (a₁ x) W)
    (pre : List α) (x : α) (W : World) (hi : I pre W) (hy0 : Y pre x W) (hk : Book l D { state := .ready, pending := none, fn, tmps, params := ps, assign, body, defers := dd } W) :
    YieldAt Fence.wide m P l (encs x) W fun e W' =>
      (e = .returned (.bool true) ∧ (I (pre ++ [x]) W' ∧ Book l D { state := .ready, pending := none, fn, tmps, params := ps, assign, body, defers := dd } W') ∧ KeepT σ W W') ∨
      (e = .returned (.bool false) ∧ (∃ c, Ix c (pre ++ [x]) W' ∧ Book l D { state := .done, pending := some c, fn, tmps, params := ps, assign, body, defers := dd } W') ∧ KeepT σ W W') := by
  obtain ⟨rec, hrec⟩ : ∃ rec : LoopState → Option Code → Loop, rec = fun st pe => { state := st, pending := pe, fn, tmps, params := ps, assign, body, defers := dd } := ⟨_, rfl⟩
  have hk' : Book l D (rec .ready none) W := by rw [hrec]; exact hk
  have hy := run_yield (P := P) (args := encs x) hk.loop (hps x)
  refine ⟨fn, _, assign, body, hy, roundIn_of_wpIn trivial (hassign x W _ ⟨_, run_beginRound hk.loop rfl, ?_⟩)⟩
  have b2 : Book l D (rec .busy none) (W.putObj l (.loop (rec .busy none))) := hk'.put hlD _
  have w2 : KeepT σ W (W.putObj l (.loop (rec .busy none))) := KeepT.putObj _ hk.loop rfl
  have i2 : I pre (W.putObj l (.loop (rec .busy none))) := hI.putObj _ hi hlB hk.loop rfl
  have y2 : Y pre x (W.putObj l (.loop (rec .busy none))) := (hY x).putObj _ hy0 hlB hk.loop rfl
  have e2 : W.putObj l (.loop (rec .busy none)) = W.putObj l (.loop { state := .busy, pending := none, fn, tmps, params := ps, assign, body, defers := dd }) := by rw [hrec]
  rw [← e2]
  refine wpIn_mono (hbody pre x _ i2 y2) ?_
  clear e2
  -- what stands behind the body, whatever its way out
  have fin : ∀ (jump : Option Code) (W3 : World), KeepsFrom B (W.putObj l (.loop (rec .busy none))) W3 → KeepT σ (W.putObj l (.loop (rec .busy none))) W3 →
      (Instr.endRound l jump).run P W3 = .ok (.bool jump.isNone) (W3.putObj l (.loop (rec (if jump.isNone then .ready else .done) jump))) ∧ Book l D (rec .busy none) W3 ∧
      Book l D (rec (if jump.isNone then .ready else .done) jump) (W3.putObj l (.loop (rec (if jump.isNone then .ready else .done) jump))) ∧ KeepT σ W (W3.putObj l (.loop (rec (if jump.isNone then .ready else .done) jump))) := by
    intro jump W3 hk3 ht3
    have b3 := b2.keeps hk3 hlB hDB
    have r3 := run_endRound (P := P) jump b3.loop
    refine ⟨?_, b3, b3.put hlD _, w2.trans (ht3.trans (KeepT.putObj _ b3.loop rfl))⟩
    rw [hrec] at r3 ⊢
    exact r3
  rintro e a3 W3 hp
  cases e with
  | normal =>
    obtain ⟨hk3, ht3, hi3⟩ := hp
    obtain ⟨r3, b3, b4, t4⟩ := fin none W3 hk3 ht3
    refine ⟨_, _, r3, .inl ⟨rfl, ⟨hI.putObj _ hi3 hlB b3.loop rfl, ?_⟩, t4⟩⟩
    rw [hrec] at b4 ⊢
    exact b4
  | ret =>
    obtain ⟨hk3, ht3, hi3⟩ := hp
    obtain ⟨r3, b3, b4, t4⟩ := fin (some .ret) W3 hk3 ht3
    refine ⟨_, _, r3, .inr ⟨rfl, ⟨.ret, (hIx _).putObj _ hi3 hlB b3.loop rfl, ?_⟩, t4⟩⟩
    rw [hrec] at b4 ⊢
    exact b4
  | exit id =>
    obtain ⟨hk3, ht3, hi3⟩ := hp
    obtain ⟨r3, b3, b4, t4⟩ := fin (some (.exit id)) W3 hk3 ht3
    refine ⟨_, _, r3, .inr ⟨rfl, ⟨.exit id, (hIx _).putObj _ hi3 hlB b3.loop rfl, ?_⟩, t4⟩⟩
    rw [hrec] at b4 ⊢
    exact b4
  | goto t =>
    obtain ⟨hk3, ht3, hi3⟩ := hp
    obtain ⟨r3, b3, b4, t4⟩ := fin (some (.goto t)) W3 hk3 ht3
    refine ⟨_, _, r3, .inr ⟨rfl, ⟨.goto t, (hIx _).putObj _ hi3 hlB b3.loop rfl, ?_⟩, t4⟩⟩
    rw [hrec] at b4 ⊢
    exact b4
  | panic ch => exact hp.elim
  | outgrown => exact hp.elim

/-- **The law**: outside every other loop; the fence is the wide one. -/
theorem range_T {g : Operand} {ps : Array Tmp} {assign body : Code} {Q : Exit → Act → World → Prop} {a : Act} {w w0 : World} (h1 : 1 ≤ n) {gf : Nat} {pa lb : Array Value}
    (hg : a.eval g = .func (.func gf) pa lb) (eg : ∀ args w, (callFunc gf args).run P w = .ok (.enter gf args) w) {encs : α → Array Value} {Y : List α → α → World → Prop} {S Sp : List α → World → Prop}
    (hseq : SeqT τ σ β (n - 1) P gf pa lb encs Y S Sp w0) (hb0 : Below w0.heap.size w0 w) (hps : ∀ x, (encs x).size = ps.size) (I : List α → World → Prop) (Ix : Code → List α → World → Prop)
    (hI : OwnFrom w.heap.size I) (hY : ∀ x, OwnFrom w.heap.size (fun pre => Y pre x)) (hIx : ∀ c, OwnFrom w.heap.size (Ix c)) (hT : AbT τ β I) (hTx : ∀ c, AbT τ β (Ix c)) (hS : OwnFrom w.heap.size S) (hSp : OwnFrom w.heap.size Sp) (h0 : I [] w) (a₁ : α → Act)
    (hassign : ∀ (l : Nat) (x : α) (W : World) (K : Act → World → Prop), K (a₁ x) W → assign.wpIn (Fence.wide.inRound l) (n - 1 - 1) P (Exit.then K (fun _ _ _ => False)) { tmps := (ps.zip (encs x)).foldl (fun t (p, v) => t.setIfInBounds p v) a.tmps, defers := [] } W)
    (hbody : ∀ (l : Nat) (pre : List α) (x : α) (W : World), I pre W → Y pre x W → body.wpIn (Fence.wide.inRound l) (n - 1 - 1) P (leftT σ w.heap.size I Ix (pre ++ [x]) W) (a₁ x) W)
    (hdone : ∀ (D : Nat) (xs : List α) (W : World), w.heap.size ≤ D → S xs W → I xs W → W.heap[D]? = some (.deferred (some [])) → Q .normal { a with defers := { target := .collected D, args := #[] } :: a.defers } W)
    (hstop : ∀ (D : Nat) (c : Code) (pre : List α) (W : World), w.heap.size ≤ D → Sp pre W → Ix c pre W → W.heap[D]? = some (.deferred (some [])) → c.wpIn Fence.wide n P Q { a with defers := { target := .collected D, args := #[] } :: a.defers } W) :
    (Code.rangeFunc g ps assign body).wpIn Fence.wide n P Q a w := by
  refine wpIn_rangeFunc fun fn _ => ?_
  let rec0 : Loop := { state := .ready, pending := none, fn, tmps := a.tmps, params := ps, assign, body, defers := w.heap.size }
  obtain ⟨W1, hW1⟩ : ∃ W1, (w.alloc (.deferred (some []))).alloc (.loop rec0) = W1 := ⟨_, rfl⟩
  have k1 : Book (w.heap.size + 1) w.heap.size rec0 W1 := by
    rw [← hW1]
    refine ⟨?_, (Below.heap_alloc _ _ _ (by simp)).trans (World.alloc_heap_new w _)⟩
    have := World.alloc_heap_new (w.alloc (.deferred (some []))) (.loop rec0)
    rwa [World.size_alloc] at this
  have i1 : I [] W1 := by rw [← hW1]; exact hI.alloc _ (hI.alloc _ h0)
  have b1 : Below w0.heap.size w0 W1 := by
    rw [← hW1]; exact hb0.trans ((((Below.refl _ w).alloc (Nat.le_refl _) _).alloc (by simp) _).mono hb0.size)
  refine ⟨w.heap.size + 1, [{ target := .collected w.heap.size, args := #[] }], W1, { target := .fn (.func gf) lb, args := pa ++ #[.func (.yield (w.heap.size + 1)) #[] #[]] }, W1, gf,
    pa ++ #[.func (.yield (w.heap.size + 1)) #[] #[]] ++ lb, W1, by rw [← hW1]; exact run_enterLoop_outer _ _ _ _ _, by simp only [resolve, hg]; simp [go_sem], fun _ _ => trivial, by simp [invoke, go_sem, eg], fun _ => h1, ?_⟩
  refine (hseq (w.heap.size + 1) (fun pre W => I pre W ∧ Book (w.heap.size + 1) w.heap.size rec0 W)
    (fun pre W => ∃ c, Ix c pre W ∧ Book (w.heap.size + 1) w.heap.size { rec0 with state := .done, pending := some c } W) W1 b1
    (fun s A B hs t => ⟨hT s A B hs.1 t, hs.2.turn t⟩) (fun s A B ⟨c, h, k⟩ t => ⟨c, hTx c s A B h t, k.turn t⟩)
    (fun pre x W h hy => round_T (by omega) (Nat.le_succ _) (Nat.le_refl _) hI hY hIx hps (hassign _) (hbody _) pre x W h.1 hy h.2) ⟨i1, k1⟩).mono ?_
  rintro e W2 ⟨⟨v, rfl⟩, ⟨xs, hs, hi, hk⟩ | ⟨pre, hs, c, hi, hk⟩⟩
  · have r := run_endLoop (P := P) hk.loop (by intro h; cases h)
    exact ⟨none, _, r, hdone _ xs _ (Nat.le_refl _) (hS.putObj _ hs (Nat.le_succ _) hk.loop rfl) (hI.putObj _ hi (Nat.le_succ _) hk.loop rfl) ((World.putObj_heap_other (by omega)).trans hk.defers)⟩
  · have r := run_endLoop (P := P) hk.loop (by intro h; cases h)
    exact ⟨some c, _, r, hstop _ c pre _ (Nat.le_refl _) (hSp.putObj _ hs (Nat.le_succ _) hk.loop rfl) ((hIx c).putObj _ hi (Nat.le_succ _) hk.loop rfl) ((World.putObj_heap_other (by omega)).trans hk.defers)⟩
end
end Go.Proofs.Ythhgcbegcbhaeaa.Mdl
