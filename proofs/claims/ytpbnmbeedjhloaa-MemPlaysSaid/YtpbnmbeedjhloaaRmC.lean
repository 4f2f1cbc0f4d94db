/-
  The document's own memory, latheref02: reads.
-/
import Derived.Test.YtpbnmbeedjhloaaRmB
namespace Go.Proofs.Ytpbnmbeedjhloaa.Rm
open Go.RowKit
set_option linter.unusedVariables false
set_option maxRecDepth 100000
set_option linter.unnecessarySimpa false
set_option linter.unusedSimpArgs false

theorem Rw.at.open {R : Rw} {w : World} {base : Nat} (h : R.at w base) (h0 : 0 < R.len) : ∃ g, R.a = some ⟨g, 0, none⟩ ∧ base ≤ g ∧ R.len ≤ R.cap ∧ R.cap ≤ 9223372036854775807 ∧ ∀ i, i < R.len → w.cell? ⟨g, i, none⟩ = some (.int .u8 (R.f i)) := by
  have ho := h.own
  rcases ho.2 with ⟨h1, h2⟩ | ⟨g, cap, cur, e1, e2, e3, e4, e5, e6⟩
  · omega
  · have hv : R.a = some ⟨g, 0, none⟩ ∧ R.cap = cap := by unfold Rw.v at e1; injection e1 with x1 x2 x3; exact ⟨x1, x3⟩
    refine ⟨g, hv.1, e2, by omega, by have := e5; unfold maxLen at this; omega, fun i hi => ?_⟩
    have hc := World.ownsRow.cells ho (g := g) (by rw [e1]; rfl) i _ (bytesOf_get R.f R.len i hi)
    rwa [Go.WideShapes.add_plain, Nat.zero_add] at hc
theorem withinB_true {a n base : Int} {len : Nat} (h : withinB a n base len = true) : base ≤ a ∧ a - base < len ∧ n ≤ len - (a - base) := of_decide_eq_true h
/-- Which row it is. -/
def Which (M : RefM) (a k : Int) (R : Rw) : Prop := (k = a - 1048576 ∧ R = M.k) ∨ (k = a - 2097152 ∧ R = M.x) ∨ (k = a - 3145728 ∧ R = M.fr) ∨ (k = a - 4194304 ∧ R = M.s)
/-- A found access lies in its row. -/
theorem found_in {M : RefM} {w : World} {r base : Nat} (h : RefAt M w r base) {a n : Int} {wr : Bool} {v : Value} {k : Int} (hf : FindIs M a n wr v k true) : ∃ R : Rw, R.at w base ∧ v = R.v ∧ 0 ≤ k ∧ k < R.len ∧ k + n ≤ R.len ∧ Which M a k R := by
  rcases hf with ⟨h0, rfl, rfl, _⟩ | ⟨_, h1, rfl, rfl, _⟩ | ⟨_, _, h2, rfl, rfl, _⟩ | ⟨_, _, _, h3, rfl, rfl, _⟩ | ⟨_, _, _, _, h4⟩
  · have := withinB_true h0; exact ⟨M.k, h.k, rfl, by omega, by omega, by omega, .inl ⟨rfl, rfl⟩⟩
  · have := withinB_true h1; exact ⟨M.x, h.x, rfl, by omega, by omega, by omega, .inr (.inl ⟨rfl, rfl⟩)⟩
  · have := withinB_true h2; exact ⟨M.fr, h.fr, rfl, by omega, by omega, by omega, .inr (.inr (.inl ⟨rfl, rfl⟩))⟩
  · have := withinB_true h3; exact ⟨M.s, h.s, rfl, by omega, by omega, by omega, .inr (.inr (.inr ⟨rfl, rfl⟩))⟩
  · cases h4

/-- What a read yields. -/
def RefRead (M : RefM) (a n : Int) (W w : World) (base : Nat) (e : Ending) : Prop :=
  (sizedB n = false ∧ e = .returned (.tuple #[.int .u64 0, .int .i64 2])) ∨
  (sizedB n = true ∧ ∃ v k ok, FindIs M a n false v k ok ∧ ((ok = false ∧ e = .returned (.tuple #[.int .u64 0, .int .i64 20])) ∨ (ok = true ∧ ∃ R : Rw, Which M a k R ∧ R.at W base ∧ v = R.v ∧ 0 ≤ k ∧ k + n ≤ R.len ∧ e = .returned (.tuple #[.int .u64 (getI (fun t => R.f (k.toNat + t)) n.toNat), .int .i64 0]))))
def vI (f : Nat → Int) (k n j : Nat) : Int := getI (fun t => f (k + j + t)) (n - j)
theorem vI_bd (f : Nat → Int) (k n j : Nat) (hn : n ≤ 8) (hb : ∀ i, i < k + n → 0 ≤ f i ∧ f i < 256) : 0 ≤ vI f k n j ∧ vI f k n j < 2 ^ (8 * (n - j)) :=
  getI_bd _ _ fun i hi => hb _ (by omega)
theorem vI_step (f : Nat → Int) (k n j : Nat) (hj : j < n) : vI f k n j = vI f k n (j + 1) * 256 + f (k + j) := by
  unfold vI
  rw [show n - j = 1 + (n - (j + 1)) by omega, getI_add]
  have e1 : getI (fun t => f (k + j + t)) 1 = f (k + j) := by unfold getI getI; simp
  have e2 : getI (fun i => f (k + j + (1 + i))) (n - (j + 1)) = getI (fun t => f (k + (j + 1) + t)) (n - (j + 1)) := getI_congr _ fun i _ => by rw [show k + j + (1 + i) = k + (j + 1) + i by omega]
  simp only [e1, e2]
  omega

theorem or256 {V B : Int} (h0 : 0 ≤ V) (h1 : V < 72057594037927936) (b0 : 0 ≤ B) (b1 : B < 256) : bits .or .u64 (V * 256) B = V * 256 + B := by
  obtain ⟨v, rfl⟩ : ∃ v : Nat, V = v := ⟨V.toNat, by omega⟩
  obtain ⟨b, rfl⟩ : ∃ b : Nat, B = b := ⟨B.toNat, by omega⟩
  rw [show (v : Int) * 256 = ((v * 256 : Nat) : Int) by omega, bits_or_u64_nat _ _ (by omega) (by omega)]
  have hb : b < 2 ^ 8 := by omega
  have := Nat.shiftLeft_add_eq_or_of_lt hb v
  rw [Nat.shiftLeft_eq] at this
  have e : v * 2 ^ 8 = v * 256 := rfl
  rw [e] at this
  omega
theorem pow_le_56 (k : Nat) (h : k ≤ 7) : (2 : Int) ^ (8 * k) ≤ 72057594037927936 := by
  obtain rfl | rfl | rfl | rfl | rfl | rfl | rfl | rfl : k = 0 ∨ k = 1 ∨ k = 2 ∨ k = 3 ∨ k = 4 ∨ k = 5 ∨ k = 6 ∨ k = 7 := by omega
  all_goals decide

set_option maxHeartbeats 2000000 in
theorem r_read (M : RefM) (r base : Nat) (at_ n : Int) (W : World) (h : RefAt M W r base) (a0 : 0 ≤ at_) (a1 : at_ < 18446744073709551616) :
    Calls Try.prog 20 #[.pointer (some ⟨r, 0, none⟩), .int .u64 at_, .int .i64 n] W fun e w' => RefRead M at_ n W W base e ∧ W = w' := by
  have D := r_sized n W
  have F := r_find M r base at_ n false W h a0 a1
  unfold RefRead
  cases hs : sizedB n
  · rw [hs] at D
    have E := Lib.hid D; clear D F h hs
    go_enter Try.func20, Try.ntmps20
    go_wp2_with fail
    refine E.out.mono ?_
    rintro e w ⟨rfl, rfl⟩
    go_wp2_with fail
    go_ret2
    exact ⟨.inl ⟨trivial, rfl⟩, rfl⟩
  · rw [hs] at D
    obtain ⟨m, rfl, hm⟩ : ∃ m : Nat, n = m ∧ (m = 1 ∨ m = 2 ∨ m = 4 ∨ m = 8) := by
      have : ((n = 1 ∨ n = 2) ∨ n = 4) ∨ n = 8 := by simpa [sizedB, or_assoc] using hs
      exact ⟨n.toNat, by omega, by omega⟩
    have E := Lib.hid D; have F' := Lib.hid F; have H := Lib.hid h; clear D F h hs
    go_enter Try.func20, Try.ntmps20
    go_wp2_with fail
    refine E.out.mono ?_
    rintro e w ⟨rfl, rfl⟩
    go_wp2_with fail
    refine F'.out.mono ?_
    rintro e w ⟨⟨v, k, ok, rfl, hf⟩, rfl⟩
    cases ok with
    | false =>
      have HF := Lib.hid hf; clear hf
      go_wp2_with fail
      go_ret2
      exact ⟨.inr ⟨trivial, v, k, false, HF.out, .inl ⟨rfl, rfl⟩⟩, rfl⟩
    | true =>
      obtain ⟨R, hR, hv, k0, kl, kn, hwh⟩ := found_in H.out hf
      have HW := Lib.hid hwh; clear hwh
      have HF := Lib.hid hf; clear hf
      obtain ⟨g, hg, _, hlc, hcm, hc⟩ := hR.open (by omega)
      obtain ⟨K, rfl⟩ : ∃ K : Nat, k = K := ⟨k.toNat, by omega⟩
      have hb := hR.bytes
      have hl6 := hR.le
      have HR := Lib.hid hR; have HC := Lib.hid hc; have HB := Lib.hid hb
      have HV := Lib.hid hv
      clear hR hc hb
      have hv' : v = .slice (some ⟨g, 0, none⟩) R.len R.cap := by rw [hv]; unfold Rw.v; rw [hg]
      clear hv
      subst hv'
      clear hg
      generalize hL : R.len = L at *
      generalize hCp : R.cap = Cp at *
      go_wp2_with fail
      go_loopw [11, 12] (fun x i wr => ∃ j : Nat, j ≤ m ∧ x = .int .u64 (vI R.f K m j) ∧ i = .int .i64 ((j : Int) - 1) ∧ wr = W) (fun _ i _ => (intOf i + 1).toNat)
      case atStart => exact ⟨m, Nat.le_refl _, by unfold vI; rw [Nat.sub_self]; rfl, by go_num, rfl⟩
      case round =>
        obtain ⟨j, hj, rfl, rfl, rfl⟩ := hrel
        rcases j with _ | j
        · go_wp2_with fail
          go_ret2
          refine ⟨.inr ⟨trivial, _, _, true, HF.out, .inr ⟨rfl, R, HW.out, HR.out, HV.out, by omega, by rw [hL]; omega, ?_⟩⟩, rfl⟩
          simp [vI]
        · have hcell := HC.out (K + j) (by omega)
          have hby := HB.out (K + j) (by omega)
          have hst := vI_step R.f K m j (by omega)
          have hbd := vI_bd R.f K m (j + 1) (by omega) (fun i hi => HB.out i (by omega))
          have hp := pow_le_56 (m - (j + 1)) (by omega)
          generalize vI R.f K m (j + 1) = V at *
          generalize R.f (K + j) = B at *
          go_wp2_with fail
          go_roundw
          case rel => exact ⟨j, by omega, by rw [hst, or256 hbd.1 (by omega) hby.1 hby.2], by go_num, trivial⟩
          case measure => simp [intOf]
end Go.Proofs.Ytpbnmbeedjhloaa.Rm
