/-
  Package mem: slices.IndexFunc over five regions.
-/
import Derived.Test.YtpbnmbeedjhloaaMemP
namespace Go.Proofs.Ytpbnmbeedjhloaa
open Go.RowKit
set_option linter.unusedVariables false
set_option maxRecDepth 100000

/-- The cells of the regions: a function of the place. -/
structure Regs where
  st : Nat → Int
  sz : Nat → Int
  fx : Nat → Bool
  bp : Nat → Option Addr
  bl : Nat → Nat
def Regs.cells (R : Regs) (k : Nat) : List Value := [.int .u64 (R.st k), .int .u64 (R.sz k), .bool (R.fx k), .slice (R.bp k) (R.bl k) (R.bl k)]
/-- The regions lie in block g. -/
def Regs.at (R : Regs) (w : World) (g : Nat) : Prop := ∀ k, k < 5 → w.rangeAt g (k * 4) (R.cells k)


/-- The first of five. -/
def firstI (P : Nat → Bool) : Int := if P 0 = true then 0 else if P 1 = true then 1 else if P 2 = true then 2 else if P 3 = true then 3 else if P 4 = true then 4 else -1
theorem firstI_none {P : Nat → Bool} (h : ∀ j, j < 5 → P j = false) : firstI P = -1 := by
  unfold firstI; simp [h 0 (by omega), h 1 (by omega), h 2 (by omega), h 3 (by omega), h 4 (by omega)]
theorem firstI_some {P : Nat → Bool} {k : Nat} (hk : k < 5) (h : ∀ j, j < k → P j = false) (hP : P k = true) : firstI P = k := by
  have : k = 0 ∨ k = 1 ∨ k = 2 ∨ k = 3 ∨ k = 4 := by omega
  rcases this with rfl | rfl | rfl | rfl | rfl
  · simp [firstI, hP]
  · simp [firstI, hP, h 0 (by omega)]
  · simp [firstI, hP, h 0 (by omega), h 1 (by omega)]
  · simp [firstI, hP, h 0 (by omega), h 1 (by omega), h 2 (by omega)]
  · simp [firstI, hP, h 0 (by omega), h 1 (by omega), h 2 (by omega), h 3 (by omega)]
theorem Regs.at_below {R : Regs} {W w : World} {g : Nat} (h : R.at W g) (hb : Below W.heap.size W w) (hg : g < W.heap.size) : R.at w g := fun k hk j v hv =>
  (hb.cell (p := ⟨g, k * 4 + j, none⟩) hg).trans (h k hk j v hv)
theorem info_reg : (Try.prog.info? 111).map (·.size) = some 4 := by kernel_rfl

set_option maxHeartbeats 1000000 in
theorem index_rd (a n : Int) (R : Regs) (g : Nat) (W : World) (hR : R.at W g) (hg : g < W.heap.size) (hz : ∀ k, 0 ≤ R.sz k ∧ R.sz k < 18446744073709551616) :
    Calls Try.prog 114 #[.slice (some ⟨g, 0, none⟩) 5 5, .func (.func 71) #[.agg #[.int .u64 a, .int .u64 n]] #[]] W fun e w' => e = .returned (.int .i64 (firstI fun k => rdB a n (R.st k) (R.sz k))) ∧ Below W.heap.size W w' := by
  have HR := Lib.hid hR; clear hR
  have HZ := Lib.hid hz; clear hz
  go_enter Try.func114, Try.ntmps114
  go_wp2
  go_loopw [8] (fun i wr => ∃ k : Nat, k ≤ 5 ∧ i = .int .i64 k ∧ Below W.heap.size W wr ∧ Hid (∀ j, j < k → (fun k => rdB a n (R.st k) (R.sz k)) j = false)) (fun i _ => 5 - (intOf i).toNat)
  case atStart => exact ⟨0, by omega, rfl, Below.refl _ _, fun j hj => absurd hj (by omega)⟩
  case round =>
    obtain ⟨k, hk, rfl, hB, hF⟩ := hrel
    by_cases hlt : k < 5
    · have HA := Lib.hid (Regs.at_below HR.out hB hg k hlt)
      have HI := Lib.hid (show (Try.prog.info? 111).map (·.size) = some (R.cells k).length from info_reg)
      cases hP : rdB a n (R.st k) (R.sz k)
      · go_wp2_with (first | (refine wpList_load_mid rfl 111 _ rfl g (k * 4) rfl (R.cells k) _ HA.out Try.underlying111 rfl HI.out ?_) | (go_at_call 71; refine (readable_any _ _ _ _ _ _ _ _ _ (HZ.out k).1 (HZ.out k).2).mono ?_; rintro e w1 ⟨rfl, b1⟩))
        go_roundw
        case rel => exact ⟨k + 1, by omega, by go_num, hB.trans (b1.mono hB.size), fun j hj => by
          by_cases e : j < k
          · exact hF.out j e
          · obtain rfl : j = k := by omega
            exact hP⟩
        case measure => simp [intOf]; omega
      · have HE := Lib.hid (firstI_some (P := fun k => rdB a n (R.st k) (R.sz k)) hlt hF.out hP)
        go_wp2_with (first | (refine wpList_load_mid rfl 111 _ rfl g (k * 4) rfl (R.cells k) _ HA.out Try.underlying111 rfl HI.out ?_) | (go_at_call 71; refine (readable_any _ _ _ _ _ _ _ _ _ (HZ.out k).1 (HZ.out k).2).mono ?_; rintro e w1 ⟨rfl, b1⟩))
        go_ret
        exact ⟨by rw [HE.out]; rfl, hB.trans (b1.mono hB.size)⟩
    · obtain rfl : k = 5 := by omega
      have HE := Lib.hid (firstI_none hF.out)
      go_wp2
      go_ret
      exact ⟨by rw [HE.out]; rfl, hB⟩

set_option maxHeartbeats 1000000 in
theorem index_wr (a n : Int) (R : Regs) (g : Nat) (W : World) (hR : R.at W g) (hg : g < W.heap.size) (hz : ∀ k, 0 ≤ R.sz k ∧ R.sz k < 18446744073709551616) :
    Calls Try.prog 114 #[.slice (some ⟨g, 0, none⟩) 5 5, .func (.func 67) #[.agg #[.int .u64 a, .int .u64 n]] #[]] W fun e w' => e = .returned (.int .i64 (firstI fun k => wrB a n (R.st k) (R.sz k) (R.fx k))) ∧ Below W.heap.size W w' := by
  have HR := Lib.hid hR; clear hR
  have HZ := Lib.hid hz; clear hz
  go_enter Try.func114, Try.ntmps114
  go_wp2
  go_loopw [8] (fun i wr => ∃ k : Nat, k ≤ 5 ∧ i = .int .i64 k ∧ Below W.heap.size W wr ∧ Hid (∀ j, j < k → (fun k => wrB a n (R.st k) (R.sz k) (R.fx k)) j = false)) (fun i _ => 5 - (intOf i).toNat)
  case atStart => exact ⟨0, by omega, rfl, Below.refl _ _, fun j hj => absurd hj (by omega)⟩
  case round =>
    obtain ⟨k, hk, rfl, hB, hF⟩ := hrel
    by_cases hlt : k < 5
    · have HA := Lib.hid (Regs.at_below HR.out hB hg k hlt)
      have HI := Lib.hid (show (Try.prog.info? 111).map (·.size) = some (R.cells k).length from info_reg)
      cases hP : wrB a n (R.st k) (R.sz k) (R.fx k)
      · go_wp2_with (first | (refine wpList_load_mid rfl 111 _ rfl g (k * 4) rfl (R.cells k) _ HA.out Try.underlying111 rfl HI.out ?_) | (go_at_call 67; refine (writable_any _ _ _ _ _ _ _ _ _ (HZ.out k).1 (HZ.out k).2).mono ?_; rintro e w1 ⟨rfl, b1⟩))
        go_roundw
        case rel => exact ⟨k + 1, by omega, by go_num, hB.trans (b1.mono hB.size), fun j hj => by
          by_cases e : j < k
          · exact hF.out j e
          · obtain rfl : j = k := by omega
            exact hP⟩
        case measure => simp [intOf]; omega
      · have HE := Lib.hid (firstI_some (P := fun k => wrB a n (R.st k) (R.sz k) (R.fx k)) hlt hF.out hP)
        go_wp2_with (first | (refine wpList_load_mid rfl 111 _ rfl g (k * 4) rfl (R.cells k) _ HA.out Try.underlying111 rfl HI.out ?_) | (go_at_call 67; refine (writable_any _ _ _ _ _ _ _ _ _ (HZ.out k).1 (HZ.out k).2).mono ?_; rintro e w1 ⟨rfl, b1⟩))
        go_ret
        exact ⟨by rw [HE.out]; rfl, hB.trans (b1.mono hB.size)⟩
    · obtain rfl : k = 5 := by omega
      have HE := Lib.hid (firstI_none hF.out)
      go_wp2
      go_ret
      exact ⟨by rw [HE.out]; rfl, hB⟩
end Go.Proofs.Ytpbnmbeedjhloaa
