/-
  Two memories told alike: what the document's own and the program's have in common.
-/
import Derived.Test.YtpbnmbeedjhloaaRmF
namespace Go.Proofs.Ytpbnmbeedjhloaa.Rm
open Go.RowKit
set_option linter.unusedVariables false
set_option maxRecDepth 100000
set_option linter.unnecessarySimpa false
set_option linter.unusedSimpArgs false

/-- The two hold the same bytes. -/
structure Rel (S : MemS) (kf : Nat → Int) (M : RefM) : Prop where
  kl : M.k.len = S.cn
  kv : ∀ i, i < S.cn → M.k.f i = kf i
  xl : M.x.len = S.n
  xv : ∀ i, i < S.n → M.x.f i = S.g (1 + i)
  fl : M.fr.len = 64
  fv : ∀ i, i < 64 → M.fr.f i = S.g (258 + i)
  sl : (M.s.len : Int) = stkI S.hs
  sv : ∀ i, i < M.s.len → M.s.f i = S.g (322 + i)
theorem sized_wrap (n : Int) (h0 : -9223372036854775808 ≤ n) (h1 : n ≤ 9223372036854775807) : szB (IntKind.u64.wrap n) = sizedB n := by
  rw [IntKind.wrap_u64]
  apply Bool.eq_iff_iff.2
  simp only [szB, sizedB, Bool.or_eq_true, beq_iff_eq, decide_eq_true_eq]
  omega
theorem which_loc {S : MemS} {kf : Nat → Int} {M : RefM} (h : Rel S kf M) (h1 : S.cn ≤ 16384) (h2 : S.n ≤ 256) {a k : Int} {m : Nat} {R : Rw} (hw : Which M a k R) (k0 : 0 ≤ k) (kn : k + m ≤ R.len) (hm : 1 ≤ (m : Int)) :
    locI S.cn S.n S.hs a m ≠ 0 ∧ getI (fun t => R.f (k.toNat + t)) m = getI (fun i => byteAt S kf (a + i)) m := by
  have z := stkI_bd S.hs
  rcases hw with ⟨rfl, rfl⟩ | ⟨rfl, rfl⟩ | ⟨rfl, rfl⟩ | ⟨rfl, rfl⟩
  · have := h.kl
    rw [loc_eq1 ⟨by omega, by omega⟩ hm]
    refine ⟨by omega, getI_congr m fun t ht => ?_⟩
    unfold byteAt
    rw [if_pos (by omega), h.kv _ (by omega), show (a + (t : Int) - 1048576).toNat = (a - 1048576).toNat + t by omega]
  · have := h.xl
    rw [loc_eq2 ⟨by omega, by omega⟩ hm h1]
    refine ⟨by omega, getI_congr m fun t ht => ?_⟩
    unfold byteAt plc
    rw [if_neg (by omega), if_pos (by omega), h.xv _ (by omega), show (1 + (a + (t : Int) - 2097152)).toNat = 1 + ((a - 2097152).toNat + t) by omega]
  · have := h.fl
    rw [loc_eq3 ⟨by omega, by omega⟩ hm h1 h2]
    refine ⟨by omega, getI_congr m fun t ht => ?_⟩
    unfold byteAt plc
    rw [if_neg (by omega), if_neg (by omega), if_pos (by omega), h.fv _ (by omega), show (258 + (a + (t : Int) - 3145728)).toNat = 258 + ((a - 3145728).toNat + t) by omega]
  · have := h.sl
    rw [loc_eq4 ⟨by omega, by omega⟩ hm h1 h2]
    refine ⟨by omega, getI_congr m fun t ht => ?_⟩
    unfold byteAt plc
    rw [if_neg (by omega), if_neg (by omega), if_neg (by omega), h.sv _ (by omega), show (322 + (a + (t : Int) - 4194304)).toNat = 322 + ((a - 4194304).toNat + t) by omega]
theorem withinB_false {a n base : Int} {len : Nat} (h : withinB a n base len = false) : ¬ (base ≤ a ∧ a - base < len ∧ n ≤ len - (a - base)) := of_decide_eq_false h
theorem find_none {S : MemS} {kf : Nat → Int} {M : RefM} (h : Rel S kf M) {a k : Int} {m : Nat} {v : Value} {wr : Bool} (hf : FindIs M a m wr v k false) (hm : 1 ≤ (m : Int)) (h1 : S.cn ≤ 16384) : locI S.cn S.n S.hs a m = 0 ∨ (wr = true ∧ locI S.cn S.n S.hs a m = 1) := by
  have l1 := h.kl
  have l2 := h.xl
  have l3 := h.fl
  have l4 := h.sl
  rcases hf with ⟨e0, _, _, e⟩ | ⟨_, _, _, _, e⟩ | ⟨_, _, _, _, _, e⟩ | ⟨_, _, _, _, _, _, e⟩ | ⟨e0, e1, e2, e3, _⟩
  · have := withinB_true e0
    exact .inr ⟨by simpa using e, loc_eq1 ⟨by omega, by omega⟩ hm⟩
  · cases e
  · cases e
  · cases e
  · have := withinB_false e0; have := withinB_false e1; have := withinB_false e2; have := withinB_false e3
    exact .inl (loc_eq0 (by omega) (by omega) (by omega) (by omega))
/-- Reads answer alike. -/
theorem read_rel {S : MemS} {kf : Nat → Int} {M : RefM} (h : Rel S kf M) (h1 : S.cn ≤ 16384) (h2 : S.n ≤ 256) {a : Int} {m : Nat} (hm : 1 ≤ (m : Int)) (hs : sizedB m = true) {W w : World} {base : Nat} {e : Ending} (hr : RefRead M a m W w base e) : e = .returned (.tuple #[.int .u64 (readV S kf a m), .int .i64 (readE S a m)]) := by
  rcases hr with ⟨hb, _⟩ | ⟨_, v, k, ok, hf, ⟨rfl, rfl⟩ | ⟨rfl, R, hw, _, _, k0, kn, rfl⟩⟩
  · rw [hs] at hb; cases hb
  · have hl : locI S.cn S.n S.hs a m = 0 := by
      rcases find_none h hf hm h1 with e | ⟨e, _⟩
      · exact e
      · cases e
    unfold readV readE
    rw [if_pos hl, if_pos hl]
  · obtain ⟨hl, hg⟩ := which_loc h h1 h2 hw k0 kn hm
    unfold readV readE
    rw [if_neg hl, if_neg hl, Int.toNat_natCast, hg]
end Go.Proofs.Ytpbnmbeedjhloaa.Rm
