/-
  Package blocks in plain numbers: an exit behind a program.
-/
import Derived.Test.YtpbaofidjikdhaaBlkM
namespace Go.Proofs.Ytpbaofidjikdhaa.Blk
set_option linter.unusedVariables false

/-- The same program, and an exit behind it. -/
structure Behind (s s' : Sh) (n : Nat) : Prop where
  cond : ∀ i, i < n → s'.cond i = s.cond i
  jumps : ∀ i, i < n → s'.jumps i = s.jumps i
  exit : ∀ i, i < n → s'.exit i = s.exit i
  to : ∀ i, i < n → s'.to i = s.to i
  lastX : s'.exit n = true
  lastJ : s'.jumps n = false
  lastC : s'.cond n = false

theorem begB_same {s s' : Sh} {n : Nat} (h : Behind s s' n) : ∀ k z, k ≤ n → begB s' k z = begB s k z
  | 0, z, _ => rfl
  | k + 1, z, hk => by rw [begB_step, begB_step, begB_same h k z (by omega), h.jumps k (by omega), h.exit k (by omega), h.to k (by omega)]
theorem begB_more {s s' : Sh} {n : Nat} (h : Behind s s' n) (z : Int) : begB s' (n + 1) z = (begB s n z || decide ((n : Int) + 1 = z)) := by
  rw [begB_step, begB_same h n z (Nat.le_refl _), h.lastJ, h.lastX]; simp
theorem beg_more {s s' : Sh} {n i : Nat} (h : Behind s s' n) (hi : i ≤ n) : beg s' (n + 1) i = beg s n i := by
  show begB s' (n + 1) i = begB s n i
  rw [begB_more h, decide_eq_false (by omega), Bool.or_false]
theorem cnt_more {s s' : Sh} {n i : Nat} (h : Behind s s' n) (hi : i ≤ n + 1) : cnt (beg s' (n + 1)) i = cnt (beg s n) i := cnt_congr (fun j hj => beg_more h (by omega))
theorem num_more {s s' : Sh} {n : Nat} (h : Behind s s' n) {z : Int} (hz : z ≤ n + 1) : num s' (n + 1) z = num s n z := by
  show ((cnt (beg s' (n + 1)) z.toNat : Nat) : Int) = cnt (beg s n) z.toNat
  rw [cnt_more h (by omega)]
theorem openF_more {s s' : Sh} {n : Nat} (h : Behind s s' n) : ∀ i, i ≤ n → openF s' (n + 1) i = openF s n i
  | 0, _ => rfl
  | i + 1, hi => by
    show (if beg s' (n + 1) (i + 1) = true then i + 1 else openF s' (n + 1) i) = (if beg s n (i + 1) = true then i + 1 else openF s n i)
    rw [beg_more h hi, openF_more h i (by omega)]
theorem nextL_more {s s' : Sh} {n i : Nat} (hF : Fine s n) (h : Behind s s' n) (hi : i < n) : nextL s' (n + 1) i = nextL s n i := by
  unfold nextL
  rw [h.cond i hi, h.jumps i hi, h.exit i hi, h.to i hi, num_more h (z := (i : Int) + 1) (by omega)]
  by_cases hj : s.jumps i = true
  · have := hF.to i hi hj
    rw [num_more h (z := s.to i) (by omega)]
  · have hc : ¬ s.cond i = true := fun hc => hj (hF.cond i hi hc).1
    rw [if_neg hc, if_neg hj, if_neg hc, if_neg hj]
theorem bksF_more {s s' : Sh} {n : Nat} (hF : Fine s n) (h : Behind s s' n) : ∀ i, i ≤ n → bksF s' (n + 1) i = bksF s n i
  | 0, _ => rfl
  | i + 1, hi => by rw [bksF_succ, bksF_succ, beg_more h hi, bksF_more hF h i (by omega), openF_more h i (by omega), nextL_more hF h (by omega)]
theorem openF_here (s : Sh) (n i : Nat) (h : beg s n i = true) : openF s n i = i := by
  cases i with
  | zero => rfl
  | succ i => show (if beg s n (i + 1) = true then i + 1 else openF s n i) = i + 1; rw [if_pos h]
/-- A block more, no other one changed. -/
theorem bksF_behind {s s' : Sh} {n : Nat} (hF : Fine s n) (h : Behind s s' n) : bksF s' (n + 1) (n + 1) = bksF s n n ++ [⟨n, (n : Int) + 1, []⟩] := by
  rw [bksF_succ, bksF_more hF h n (Nat.le_refl _), if_pos, openF_more h n (Nat.le_refl _), openF_here s n n hF.ends]
  · have : nextL s' (n + 1) n = [] := by
      unfold nextL
      rw [h.lastC, h.lastJ, h.lastX]; rfl
    rw [this]
  · show begB s' (n + 1) ((n + 1 : Nat) : Int) = true
    rw [begB_more h]; simp
end Go.Proofs.Ytpbaofidjikdhaa.Blk
