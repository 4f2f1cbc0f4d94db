/-
  Several texts in one: IrQ.
-/
import Derived.Test.YtbpehbeakhocnaaGreatDoorIRm42
set_option linter.unusedVariables false
set_option linter.unusedSimpArgs false
set_option linter.unnecessarySimpa false
namespace Go.Proofs.YtbpehbeakhocnaaGreatDoor.Irn
open Go Go.RowKit
open Mrm (Xi xC xL zX eqX mayX readsX writesX XOk)
open Flg (Fl zF)
open Exe
set_option linter.unusedVariables false
set_option linter.unusedSimpArgs false
set_option linter.unnecessarySimpa false
set_option maxRecDepth 100000

theorem bv_nat {a : Nat} (h : a < 9223372036854775808) : (BitVec.ofInt 64 (a : Int)).toNat = a := by
  rw [BitVec.toNat_ofInt]
  show ((a : Int) % 18446744073709551616).toNat = a
  omega
/-- One bit of a mask. -/
def sbI (n : Int) (r : Nat) : Int := bits .and .i64 (n / 2 ^ r) 1
theorem and_one {q : Nat} (h : q < 2048) : bits .and .i64 (q : Int) 1 = ((q % 2 : Nat) : Int) := by
  show IntKind.i64.wrap ((BitVec.ofInt 64 (q : Int) &&& BitVec.ofInt 64 1).toNat : Int) = _
  rw [BitVec.toNat_and, bv_nat (by omega), show (BitVec.ofInt 64 1).toNat = 1 from rfl, Nat.and_one_is_mod, IntKind.wrap_i64]
  omega
theorem sb_nat {a : Nat} (ha : a < 2048) (r : Nat) : sbI (a : Int) r = if a.testBit r then 1 else 0 := by
  unfold sbI
  have e : (a : Int) / 2 ^ r = ((a / 2 ^ r : Nat) : Int) := by simp
  have hl : a / 2 ^ r < 2048 := Nat.lt_of_le_of_lt (Nat.div_le_self _ _) ha
  rw [e, and_one hl, Nat.testBit_eq_decide_div_mod_eq]
  by_cases h : a / 2 ^ r % 2 = 1
  · rw [h]; simp
  · have : a / 2 ^ r % 2 = 0 := by omega
    rw [this]; simp
section
variable {ρ : Operand → Value} {o : Oper} {w : World} {x y : Operand}
theorem ex_shrS {n : Int} {q : Nat} {t u : TypeId} (ho : o.op = .binOp .shr t x y u) (hx : ρ x = .int .i64 n) (hy : ρ y = .int .i64 (q : Int)) (hq : q < 11) : (execOp ρ o).run Tryz.prog w = .ok (.value (.int .i64 (n / 2 ^ q))) w := by
  have hn : ¬ ((q : Int) < 0) := by omega
  have hm : min q 64 = q := by omega
  simp [execOp, ho, hx, hy, go_sem, hn, hm]
theorem ex_andS {n : Int} {q : Nat} {t u : TypeId} (ho : o.op = .binOp .and t x (.const (.int .i64 1)) u) (hx : ρ x = .int .i64 (n / 2 ^ q)) (h1 : ρ (.const (.int .i64 1)) = .int .i64 1) : (execOp ρ o).run Tryz.prog w = .ok (.value (.int .i64 (sbI n q))) w := by
  simp [execOp, ho, hx, h1, go_sem, sbI]
theorem ex_eqS {n : Int} {b : Bool} {t u : TypeId} (ho : o.op = .binOp .eql t x (.const (.int .i64 0)) u) (hx : ρ x = .int .i64 n) (h1 : ρ (.const (.int .i64 0)) = .int .i64 0) (hb : (n == 0) = b) : (execOp ρ o).run Tryz.prog w = .ok (.value (.bool b)) w := by
  simp [execOp, ho, hx, h1, go_sem, hb]
theorem ex_neI {n m : Int} {b : Bool} {k : IntKind} {t u : TypeId} (ho : o.op = .binOp .neq t x y u) (hx : ρ x = .int k n) (hy : ρ y = .int k m) (hb : (n != m) = b) : (execOp ρ o).run Tryz.prog w = .ok (.value (.bool b)) w := by
  simp [execOp, ho, hx, hy, go_sem]
  exact hb
end
theorem run_shr {q k : Nat} {t : TypeId} (hk : k < 11) (w : World) : (binOp .shr t (.int .i64 (q : Int)) (.int .i64 (k : Int))).run Tryz.prog w = .ok (.int .i64 ((q : Int) / 2 ^ k)) w := by
  have hn : ¬ ((k : Int) < 0) := by omega
  have hm : min k 64 = k := by omega
  simp [go_sem, hn, hm]
/-- What a row does to a register that it does not give. -/
theorem run_keeps {l : List Ii} {s t : Sg} {j : Nat} (hl : ∀ i ∈ l, i.k = 2 → i.r.toNat ≠ j) (h : runI l s = some t) : t.1 j = s.1 j := by
  induction l generalizing s with
  | nil => cases h; rfl
  | cons i l ih =>
    change (stepI i s).bind (runI l) = some t at h
    cases e : stepI i s with
    | none => rw [e] at h; cases h
    | some u =>
      rw [e] at h
      rw [ih (fun x hx => hl x (List.mem_cons_of_mem _ hx)) h]
      have hi := hl i (List.mem_cons_self ..)
      unfold stepI at e
      by_cases h1 : i.k = 1
      · rw [if_pos h1] at e; cases e; rfl
      · rw [if_neg h1] at e
        by_cases h2 : i.k = 2
        · rw [if_pos h2] at e
          cases e
          exact if_neg (fun c => hi h2 c.symm)
        · rw [if_neg h2] at e
          by_cases h3 : doXe s.2 i.x 0 = 0
          · rw [if_pos h3] at e; cases e; rfl
          · rw [if_neg h3] at e; cases e
/-- What a row does where a register that it does not take is another. -/
theorem run_other {l : List Ii} {g g' : Nat → Int} {m : Mc} {t : Sg} {o : Nat} (hl : ∀ i ∈ l, i.k = 1 → i.r.toNat ≠ o) (hg : ∀ j, j ≠ o → g' j = g j) (h : runI l (g, m) = some t) : ∃ h', runI l (g', m) = some (h', t.2) ∧ ∀ j, j ≠ o → h' j = t.1 j := by
  induction l generalizing g g' m with
  | nil => cases h; exact ⟨g', rfl, hg⟩
  | cons i l ih =>
    change (stepI i (g, m)).bind (runI l) = some t at h
    show ∃ h', (stepI i (g', m)).bind (runI l) = some (h', t.2) ∧ _
    have hi := hl i (List.mem_cons_self ..)
    have hl' := fun x hx => hl x (List.mem_cons_of_mem i hx)
    unfold stepI at h ⊢
    by_cases h1 : i.k = 1
    · rw [if_pos h1] at h ⊢
      have e : g' i.r.toNat = g i.r.toNat := hg _ (hi h1)
      show ∃ h', runI l (g', m.setR i.p.toNat (g' i.r.toNat)) = _ ∧ _
      rw [e]
      exact ih hl' hg h
    · rw [if_neg h1] at h ⊢
      by_cases h2 : i.k = 2
      · rw [if_pos h2] at h ⊢
        refine ih hl' (fun j hj => ?_) h
        unfold setG
        split
        · rfl
        · exact hg j hj
      · rw [if_neg h2] at h ⊢
        by_cases h3 : doXe m i.x 0 = 0
        · rw [if_pos h3] at h ⊢
          exact ih hl' hg h
        · rw [if_neg h3] at h; cases h
theorem not_in {kk : Int} {l : List Ii} {j : Nat} (hm : ∀ i ∈ l, mayI i = true) (h2 : kk = 1 ∨ kk = 2) (h : (regN kk l).testBit j = false) : ∀ i ∈ l, i.k = kk → i.r.toNat ≠ j := by
  intro i hi hk hr
  rw [regN_bit, List.any_eq_false] at h
  have := h i hi
  have c := (may_copy (hm i hi) (by omega)).1
  have s : srcB i.r = true := by unfold srcB; simp; omega
  simp [hk, s, hr] at this
theorem run_out {l : List Ii} {g : Nat → Int} (h : (outI l g).2.2 = 0) : ∃ t, runI (l.take (stopL l)) (g, zM) = some t ∧ outI l g = ((t.1, t.2.upA 0), (stopL l : Int), 0) := by
  obtain ⟨hm, he⟩ := out_all h
  cases e : runI (l.take (stopL l)) (g, zM) with
  | none =>
    have := runF_none (fun i hi h1 h2 => by
      have k := taken_ok hm i hi
      rcases stop_kind k.1 k.2 with c | c | c
      · exact c.2
      · exact absurd c h1
      · exact absurd c h2) e
    rw [this] at he
    cases he
  | some t =>
    refine ⟨t, rfl, ?_⟩
    rw [out_is hm, if_pos he, runF_some e]
theorem out_run {l : List Ii} {g : Nat → Int} {t : Sg} (hm : ∀ i ∈ l, mayI i = true) (h : runI (l.take (stopL l)) (g, zM) = some t) : outI l g = ((t.1, t.2.upA 0), (stopL l : Int), 0) := by
  rw [out_is hm, runF_some h]
  rfl
theorem out_keeps {l : List Ii} {g : Nat → Int} (h : (outI l g).2.2 = 0) (j : Nat) (hj : (regN 2 l).testBit j = false) : (outI l g).1.1 j = g j := by
  obtain ⟨t, e, eo⟩ := run_out h
  rw [eo]
  exact run_keeps (fun i hi hk => not_in (out_all h).1 (.inr rfl) hj i (List.mem_of_mem_take hi) hk) e
theorem out_other {l : List Ii} {g : Nat → Int} (h : (outI l g).2.2 = 0) (o : Nat) (by_ : Int) (ho : (regN 1 l).testBit o = false) : ∃ h', outI l (setG g o by_) = ((h', (outI l g).1.2), (outI l g).2.1, 0) ∧ ∀ j, j ≠ o → h' j = (outI l g).1.1 j := by
  obtain ⟨t, e, eo⟩ := run_out h
  obtain ⟨h', e', eh⟩ := run_other (g' := setG g o by_) (o := o) (fun i hi hk => not_in (out_all h).1 (.inl rfl) ho i (List.mem_of_mem_take hi) hk) (fun j hj => if_neg hj) e
  refine ⟨h', ?_, ?_⟩
  · rw [out_run (out_all h).1 e', eo]
  · rw [eo]; exact eh
theorem out_bad {l : List Ii} {g : Nat → Int} (h : (outI l g).2.2 ≠ 0) : (outI l g).1.1 = zG ∧ (outI l g).2.1 = 0 := by
  unfold outI at h ⊢
  split
  · exact ⟨rfl, rfl⟩
  · split
    · rename_i c1 c2
      rw [if_neg c1, if_pos c2] at h
      exact absurd rfl h
    · exact ⟨rfl, rfl⟩
end Go.Proofs.YtbpehbeakhocnaaGreatDoor.Irn
