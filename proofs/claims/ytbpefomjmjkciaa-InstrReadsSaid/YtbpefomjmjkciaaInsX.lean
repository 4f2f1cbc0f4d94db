/-
  Package instr: Decode's walk through its rows.
-/
import Derived.Test.YtbpefomjmjkciaaInsV
namespace Go.Proofs.Ytbpefomjmjkciaa.Ins
open Go.RowKit
set_option linter.unusedVariables false
set_option maxRecDepth 100000

/-- The number in row k; its instruction; what is wrong with it. -/
def numI (f : Nat → Int) (k : Nat) : Int := getI (fun i => f (8 * k + i)) 8
def xsI (f : Nat → Int) (k : Nat) : In := (readI (numI f k)).1
def rsI (f : Nat → Int) (k : Nat) : Int := (readI (numI f k)).2

def FirstDec (w0 : World) (bp : Nat) (c : Int) (m : Nat) (f : Nat → Int) (e : Ending) (w' : World) : Prop :=
  e = .returned (.tuple #[.int .i64 (firstF (rsI f) m 0).1, .int .i64 (firstF (rsI f) m 0).2]) ∧ ∃ k, ((firstF (rsI f) m 0).2 = 0 → k = m) ∧ Half w0 bp c k (xsI f) w'

set_option maxHeartbeats 4000000 in
theorem first_dec (w0 : World) (bp g b off m cr : Nat) (c : Int) (f : Nat → Int) (hm : m ≤ 64) (hcr : m ≤ cr) (hcr2 : cr ≤ 9223372036854775807) (hbp : bp < w0.heap.size) (hg : g ≠ bp) (hb : b ≠ bp) (hP : w0.heap[bp]? = some (.cells #[.int .i64 c, .slice none 0 0] 32 (0, 0)))
    (hrow : ∀ k, k < m → w0.cell? ⟨g, k, none⟩ = some (enc8 b off k)) (hf : ∀ j, j < 8 * m → 0 ≤ f j ∧ f j < 256) (hby : ∀ j, j < 8 * m → w0.cell? ⟨b, off + j, none⟩ = some (.int .u8 (f j))) :
    Calls Try.prog 52 #[.slice (some ⟨g, 0, none⟩) m cr, .func (.func 55) #[] #[.pointer (some ⟨bp, 0, none⟩)]] w0 (FirstDec w0 bp c m f) := by
  have ST := Lib.hid (show Half w0 bp c 0 (xsI f) w0 from ⟨⟨_, hP, World.ownsRow_nil _ _ _ _⟩, hbp, World.grownBy.refl _ _⟩)
  have D1 := Lib.hid (show ∀ (k : Nat) (w : World), k < m → Half w0 bp c k (xsI f) w → Calls Try.prog 55 #[.int .i64 (k : Int), .slice (some ⟨b, off + 8 * k, none⟩) 8 8, .pointer (some ⟨bp, 0, none⟩)] w (DecStep w0 bp c k (xsI f) (rsI f k) w) from fun k w hk h =>
    dec1_any w0 bp c k (xsI f) b (off + 8 * k) (fun i => f (8 * k + i)) w h (by omega) (fun i hi => hf _ (by omega)) (fun i hi => by
      have := hby (8 * k + i) (by omega)
      rw [← Nat.add_assoc] at this
      exact h.grown.cell this (fun e => hb (by injection e with e))) rfl)
  have RC := Lib.hid (show ∀ (k : Nat) (w : World) (j : Nat), k < m → Half w0 bp c j (xsI f) w → w.cell? ⟨g, k, none⟩ = some (.slice (some ⟨b, off + 8 * k, none⟩) 8 8) from fun k w j hk h => h.grown.cell (hrow k hk) (fun e => hg (by injection e with e)))
  unfold FirstDec
  generalize hF : firstF (rsI f) m 0 = F at *
  have HF := Lib.hid hF; clear hF
  generalize xsI f = xs at *
  generalize rsI f = rs at *
  clear hP hrow hf hby
  go_enter Try.func52, Try.ntmps52
  go_wp2_with fail
  go_loopw [11] (fun i wr => ∃ k : Nat, k ≤ m ∧ i = .int .i64 k ∧ Hid (Half w0 bp c k xs wr ∧ F = firstF rs (m - k) k)) (fun i _ => m - (intOf i).toNat)
  case atStart => exact ⟨0, by omega, rfl, Lib.hid ⟨ST.out, by rw [Nat.sub_zero]; exact HF.out.symm⟩⟩
  case round =>
    clear ST HF
    obtain ⟨k, hk, rfl, hR⟩ := hrel
    by_cases hlt : k < m
    · have ck := RC.out k wr k hlt hR.out.1
      have DD := Lib.hid (D1.out k wr hlt hR.out.1)
      have HS := Lib.hid (show F = if rs k = 0 then firstF rs (m - (k + 1)) (k + 1) else ((k : Int), rs k) by
        rw [hR.out.2, show m - k = (m - (k + 1)) + 1 by omega]; rfl)
      clear hR
      unfold DecStep at DD
      generalize hr : rs k = r at *
      clear hr
      go_wp2_with fail
      refine DD.out.mono ?_
      rintro e w1 ⟨rfl, h1⟩
      have H1 := Lib.hid h1
      clear h1 DD ck
      by_cases h0 : r = 0
      · have e0 : (r != 0) = false := by simpa using h0
        have HS2 := Lib.hid (show F = firstF rs (m - (k + 1)) (k + 1) by rw [HS.out, if_pos h0])
        clear h0 HS
        go_wp2_with fail
        go_roundw
        case rel => exact ⟨k + 1, by omega, by go_num, Lib.hid ⟨H1.out, HS2.out⟩⟩
        case measure => simp [intOf]; omega
      · have e0 : (r != 0) = true := by simpa using h0
        have HS2 := Lib.hid (show F = ((k : Int), r) by rw [HS.out, if_neg h0])
        have HN := Lib.hid h0
        clear h0 HS
        go_wp2_with fail
        go_ret2
        rw [HS2.out]
        exact ⟨rfl, k + 1, fun h => absurd h HN.out, H1.out⟩
    · obtain rfl : k = m := by omega
      have HE := Lib.hid (show F = (0, 0) by rw [hR.out.2, Nat.sub_self]; rfl)
      have H1 := Lib.hid hR.out.1
      clear hR
      go_wp2_with fail
      go_ret2
      rw [HE.out]
      exact ⟨rfl, k, fun _ => rfl, H1.out⟩
end Go.Proofs.Ytbpefomjmjkciaa.Ins
