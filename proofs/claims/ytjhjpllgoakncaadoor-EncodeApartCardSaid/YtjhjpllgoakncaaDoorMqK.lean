/-
  Layer 12: the document's own Read; both, whatever the bytes. (Written by gen_mrk.py.)
-/
import Derived.Test.YtjhjpllgoakncaaDoorMqJ
namespace Go.Proofs.YtjhjpllgoakncaaDoor.Mrm
open Go.RowKit
set_option linter.unusedVariables false
set_option linter.unnecessarySimpa false
set_option linter.unusedSimpArgs false
set_option maxRecDepth 100000

theorem rd_reg {l : List Int} (h : 192 ≤ l.getD 0 0) : readV l = rdV (l.getD 0 0 / 8 % 8) (l.getD 0 0 % 8) 0 false 1 0 := by
  unfold readV
  rw [if_pos (by unfold regOk; exact decide_eq_true h)]
theorem rd_no {l : List Int} (h : l.getD 0 0 < 192) (h2 : (decide (128 ≤ l.getD 0 0) && memOk l) = false) : readV l = rdV 0 0 0 false 0 30 := by
  unfold readV
  rw [if_neg (by unfold regOk; rw [decide_eq_true_eq]; omega), if_neg (by rw [h2]; decide)]
theorem rd_mem {l : List Int} (h : l.getD 0 0 < 192) (h1 : 128 ≤ l.getD 0 0) (h2 : memOk l = true) : readV l = rdV (l.getD 0 0 / 8 % 8) (l.getD 0 0 % 8) (sgn ((l.drop (atN (l.getD 0 0))).take 4)) true (atN (l.getD 0 0) + 4 : Nat) 0 := by
  unfold readV
  rw [if_neg (by unfold regOk; rw [decide_eq_true_eq]; omega), if_pos (by rw [decide_eq_true h1, h2]; rfl)]
theorem memOk_iff {l : List Int} : memOk l = true ↔ l.getD 0 0 < 192 ∧ atN (l.getD 0 0) + 4 ≤ l.length ∧ (l.getD 0 0 % 8 = 4 → l.getD 1 0 = 36) := by
  unfold memOk
  simp only [Bool.and_eq_true, Bool.or_eq_true, decide_eq_true_eq]
  constructor
  · rintro ⟨a, b, c⟩
    exact ⟨a, b, fun h => c.elim (fun g => absurd h g) id⟩
  · rintro ⟨a, b, c⟩
    refine ⟨a, b, ?_⟩
    by_cases h : l.getD 0 0 % 8 = 4
    · exact .inr (c h)
    · exact .inl h
theorem rd_bad {l : List Int} (h : l.getD 0 0 < 192) (h2 : ¬ (atN (l.getD 0 0) + 4 ≤ l.length ∧ (l.getD 0 0 % 8 = 4 → l.getD 1 0 = 36))) : readV l = rdV 0 0 0 false 0 30 :=
  rd_no h (by
    cases g : memOk l
    · rw [Bool.and_false]
    · exact absurd (memOk_iff.1 g).2 h2)
theorem at_not {z : Int} (h : ¬ z % 8 = 4) : atN z = 1 := if_neg h
theorem at_four {z : Int} (h : z % 8 = 4) : atN z = 2 := if_pos h
set_option maxHeartbeats 1000000 in
theorem read_n (a : Option Addr) (len cap : Nat) (zs : List Int) (W : World) (h : BytesAt W a len cap zs) : Calls Tryd.prog 82 #[.slice a len cap] W fun e w' => e = .returned (readV zs) ∧ Below W.heap.size W w' := by
  have hl := h.size
  by_cases h0 : 0 < len
  · obtain ⟨b, o, rfl, hc, hb⟩ := at_cells h h0
    have c0 := hc 0 h0
    rw [Nat.add_zero] at c0
    obtain ⟨b0, b1⟩ := hb 0 h0
    by_cases g1 : 192 ≤ zs.getD 0 0
    · rw [rd_reg g1]
      exact read_reg b o len cap _ h0 h.le h.fit b0 b1 g1 W c0
    by_cases g2 : zs.getD 0 0 < 128
    · rw [rd_no (by omega) (by rw [decide_eq_false (by omega)]; rfl)]
      exact read_low b o len cap _ h0 h.le h.fit b0 b1 g2 W c0
    have f1 : 128 ≤ zs.getD 0 0 := by omega
    have f2 : zs.getD 0 0 < 192 := by omega
    by_cases g3 : zs.getD 0 0 % 8 = 4
    · by_cases g4 : len < 2
      · rw [rd_bad f2 (by rw [at_four g3]; omega)]
        have hle := h.le
        by_cases g5 : cap = 1
        · exact read_40 b o len cap _ h0 h.le h.fit b0 b1 f1 f2 g3 g5 W c0
        · exact read_41 b o len cap _ h0 h.le h.fit b0 b1 f1 f2 g3 (by omega) (by omega) W c0
      have c1 := hc 1 (by omega)
      obtain ⟨y0, y1⟩ := hb 1 (by omega)
      by_cases g5 : zs.getD 1 0 = 36
      · rw [g5] at c1
        by_cases g6 : len < 6
        · rw [rd_bad f2 (by rw [at_four g3]; omega)]
          have hle := h.le
          by_cases g7 : cap = 2
          · exact read_4e b o len cap _ h0 h.le h.fit b0 b1 f1 f2 g3 (by omega) g7 W c0 c1
          · exact read_4s b o len cap _ h0 h.le h.fit b0 b1 f1 f2 g3 (by omega) (by omega) g6 W c0 c1
        · rw [rd_mem f2 f1 (memOk_iff.2 ⟨f2, by rw [at_four g3]; omega, fun _ => g5⟩), at_four g3]
          exact read_4y b o len cap _ h0 h.le h.fit b0 b1 f1 f2 g3 (by omega) W c0 c1 zs h
      · rw [rd_bad f2 (fun g => g5 (g.2 g3))]
        exact read_4n b o len cap _ h0 h.le h.fit b0 b1 f1 f2 g3 (by omega) W c0 _ y0 y1 c1 g5
    · by_cases g4 : len < 5
      · rw [rd_bad f2 (by rw [at_not g3]; omega)]
        have hle := h.le
        by_cases g5 : cap = 1
        · exact read_e0 b o len cap _ h0 h.le h.fit b0 b1 f1 f2 g3 g5 W c0
        · exact read_e1 b o len cap _ h0 h.le h.fit b0 b1 f1 f2 g3 (by omega) g4 W c0
      · rw [rd_mem f2 f1 (memOk_iff.2 ⟨f2, by rw [at_not g3]; omega, fun g => absurd g g3⟩), at_not g3]
        exact read_m1 b o len cap _ h0 h.le h.fit b0 b1 zs f1 f2 g3 (by omega) W c0 h
  · obtain rfl : len = 0 := by omega
    obtain rfl : zs = [] := List.eq_nil_of_length_eq_zero hl.symm
    rw [rd_no (by decide) rfl]
    cases a with
    | none =>
      have := h.nilc rfl
      subst this
      exact read_nil W
    | some x => exact read_zero x cap h.fit W
end Go.Proofs.YtjhjpllgoakncaaDoor.Mrm
