/-
  The document's own memory, latheref02: writes.
-/
import Derived.Test.YtpbnmbeedjhloaaRmC
namespace Go.Proofs.Ytpbnmbeedjhloaa.Rm
open Go.RowKit
set_option linter.unusedVariables false
set_option maxRecDepth 100000
set_option linter.unnecessarySimpa false
set_option linter.unusedSimpArgs false

/-- Bytes with n of them from a place on written anew. -/
def putF (f : Nat → Int) (k n : Nat) (v : Int) : Nat → Int := fun i => if k ≤ i ∧ i < k + n then byteI v (i - k) else f i
theorem putF_zero (f : Nat → Int) (k : Nat) (v : Int) : putF f k 0 v = f := by
  funext i; unfold putF; rw [if_neg (by omega)]
theorem putF_step (f : Nat → Int) (k n : Nat) (v : Int) : (fun i => if i = k + n then byteI v n else putF f k n v i) = putF f k (n + 1) v := by
  funext i
  unfold putF
  by_cases h : i = k + n
  · subst h
    rw [if_pos rfl, if_pos (by omega), show k + n - k = n by omega]
  · rw [if_neg h]
    by_cases h2 : k ≤ i ∧ i < k + n
    · rw [if_pos h2, if_pos (by omega)]
    · rw [if_neg h2, if_neg (by omega)]
theorem own_store {w : World} {base g L Cp : Nat} {f : Nat → Int} (h : Own w base (.slice (some ⟨g, 0, none⟩) L Cp) L f) {i : Nat} (hi : i < L) : ∃ cur, w.heap[g]? = some (.cells cur 5 (0, 0)) ∧ i < cur.size ∧ base ≤ g ∧ ∀ (b : Int) (w' : World), Stored w g (cur.setIfInBounds i (.int .u8 b)) 5 w' → Own w' base (.slice (some ⟨g, 0, none⟩) L Cp) L (fun j => if j = i then b else f j) := by
  rcases h.2 with ⟨h1, h2⟩ | ⟨g', cap, cur, e1, e2, e3, e4, e5, e6, e7⟩
  · omega
  · injection e1 with x1 x2 x3
    injection x1 with x1
    injection x1 with x1 _ _
    subst x1; subst x3
    refine ⟨cur, e3, by omega, e2, fun b w' s => ⟨by rw [bytesOf_length]; omega, .inr ⟨g, Cp, _, rfl, e2, s.row, e4, e5, by rw [Array.size_setIfInBounds]; exact e6, ?_⟩⟩⟩
    apply List.ext_getElem?
    intro j
    by_cases hj : j < L
    · rw [bytesOf_get _ _ j hj, List.getElem?_take_of_lt (by omega), Array.getElem?_toList, Array.getElem?_setIfInBounds]
      by_cases hij : i = j
      · subst hij
        rw [if_pos rfl, if_pos (by omega), if_pos rfl]
      · rw [if_neg hij, if_neg (fun h => hij h.symm)]
        have := congrArg (fun l => l[j]?) e7
        simp only [List.getElem?_take_of_lt (show j < L * 1 by omega), Array.getElem?_toList] at this
        rw [this, bytesOf_get f L j hj]
    · rw [List.getElem?_eq_none (l := bytesOf _ _) (by rw [bytesOf_length]; omega), List.getElem?_eq_none (by rw [List.length_take]; omega)]

theorem and255 {V : Int} (h0 : 0 ≤ V) (h1 : V < 18446744073709551616) : bits .and .u64 V 255 = V % 256 := by
  obtain ⟨v, rfl⟩ : ∃ v : Nat, V = v := ⟨V.toNat, by omega⟩
  rw [show (255 : Int) = ((255 : Nat) : Int) by rfl, bits_and_u64_nat _ _ (by omega) (by omega)]
  have := Nat.and_two_pow_sub_one_eq_mod v 8
  rw [show 2 ^ 8 - 1 = 255 by rfl, show 2 ^ 8 = 256 by rfl] at this
  omega
theorem shr_step (v : Int) (j : Nat) : v / 2 ^ (8 * j) / 256 = v / 2 ^ (8 * (j + 1)) := by
  rw [Int.ediv_ediv_of_nonneg (Int.pow_nonneg (by omega)), show 8 * (j + 1) = 8 * j + 8 by omega, Int.pow_add]
  rfl
theorem shr_bd {v : Int} (h0 : 0 ≤ v) (h1 : v < 18446744073709551616) (j : Nat) : 0 ≤ v / 2 ^ (8 * j) ∧ v / 2 ^ (8 * j) < 18446744073709551616 :=
  ⟨Int.ediv_nonneg h0 (Int.pow_nonneg (by omega)), Int.lt_of_le_of_lt (Int.ediv_le_self _ h0) h1⟩
theorem ChgAt.refl (b : Nat) (W : World) : ChgAt b W W := ⟨rfl, rfl, rfl, Nat.le_refl _, fun _ _ _ => rfl⟩
theorem ChgAt.store {b : Nat} {W w w' : World} {cells : Array Value} {t : TypeId} (h : ChgAt b W w) (s : Stored w b cells t w') : ChgAt b W w' :=
  ⟨s.os.trans h.os, s.tape.trans h.tape, s.output.trans h.output, by rw [s.size]; exact h.size, fun k hk hn => (s.other k hn).trans (h.block k hk hn)⟩

/-- What a write yields: the row it wrote, that alone. -/
def RefWrite (M : RefM) (a n v : Int) (W w : World) (base : Nat) (e : Ending) : Prop :=
  (sizedB n = false ∧ e = .returned (.int .i64 2) ∧ W = w) ∨
  (sizedB n = true ∧ ∃ u k ok, FindIs M a n true u k ok ∧ ((ok = false ∧ e = .returned (.int .i64 20) ∧ W = w) ∨
    (ok = true ∧ e = .returned (.int .i64 0) ∧ ∃ (R : Rw) (g : Nat), Which M a k R ∧ R.a = some ⟨g, 0, none⟩ ∧ base ≤ g ∧ 0 ≤ k ∧ k + n ≤ R.len ∧ Own w base (.slice (some ⟨g, 0, none⟩) R.len R.cap) R.len (putF R.f k.toNat n.toNat v) ∧ ChgAt g W w)))

set_option maxHeartbeats 2000000 in
theorem r_write (M : RefM) (r base : Nat) (at_ n vv : Int) (W : World) (h : RefAt M W r base) (a0 : 0 ≤ at_) (a1 : at_ < 18446744073709551616) (v0 : 0 ≤ vv) (v1 : vv < 18446744073709551616) :
    Calls Try.prog 18 #[.pointer (some ⟨r, 0, none⟩), .int .u64 at_, .int .i64 n, .int .u64 vv] W fun e w' => RefWrite M at_ n vv W w' base e := by
  have D := r_sized n W
  have F := r_find M r base at_ n true W h a0 a1
  unfold RefWrite
  cases hs : sizedB n
  · rw [hs] at D
    have E := Lib.hid D; clear D F h hs
    go_enter Try.func18, Try.ntmps18
    go_wp2_with fail
    refine E.out.mono ?_
    rintro e w ⟨rfl, rfl⟩
    go_wp2_with fail
    go_ret
    exact .inl ⟨trivial, rfl, rfl⟩
  · rw [hs] at D
    obtain ⟨m, rfl, hm⟩ : ∃ m : Nat, n = m ∧ (m = 1 ∨ m = 2 ∨ m = 4 ∨ m = 8) := by
      have : ((n = 1 ∨ n = 2) ∨ n = 4) ∨ n = 8 := by simpa [sizedB, or_assoc] using hs
      exact ⟨n.toNat, by omega, by omega⟩
    have E := Lib.hid D; have F' := Lib.hid F; have H := Lib.hid h; clear D F h hs
    go_enter Try.func18, Try.ntmps18
    go_wp2_with fail
    refine E.out.mono ?_
    rintro e w ⟨rfl, rfl⟩
    go_wp2_with fail
    refine F'.out.mono ?_
    rintro e w ⟨⟨v, k, ok, rfl, hf⟩, rfl⟩
    cases ok with
    | false =>
      have HF := Lib.hid hf; clear hf
      go_wp2_with fail
      go_ret
      exact .inr ⟨trivial, v, k, false, HF.out, .inl ⟨rfl, rfl, rfl⟩⟩
    | true =>
      obtain ⟨R, hR, hv, k0, kl, kn, hwh⟩ := found_in H.out hf
      have HW := Lib.hid hwh; clear hwh
      have HF := Lib.hid hf; clear hf
      obtain ⟨g, hg, hbg, hlc, hcm, hc⟩ := hR.open (by omega)
      obtain ⟨K, rfl⟩ : ∃ K : Nat, k = K := ⟨k.toNat, by omega⟩
      have ho := hR.own
      have hl6 := hR.le
      have hv' : v = .slice (some ⟨g, 0, none⟩) R.len R.cap := by rw [hv]; unfold Rw.v; rw [hg]
      rw [← hv, hv'] at ho
      have HO := Lib.hid ho
      clear hR hc hv ho
      subst hv'
      have HG := Lib.hid hg; clear hg
      generalize hfe : R.f = f at *
      generalize hLe : R.len = L at *
      generalize hCe : R.cap = Cp at *
      go_wp2_with fail
      go_loopw [3, 12] (fun x i wr => ∃ j : Nat, j ≤ m ∧ x = .int .u64 (vv / 2 ^ (8 * j)) ∧ i = .int .i64 j ∧ Hid (ChgAt g W wr ∧ Own wr base (.slice (some ⟨g, 0, none⟩) L Cp) L (putF f K j vv))) (fun _ i _ => m - (intOf i).toNat)
      case atStart => exact ⟨0, by omega, by simp, rfl, Lib.hid ⟨ChgAt.refl g W, by rw [putF_zero]; exact HO.out⟩⟩
      case round =>
        obtain ⟨j, hj, rfl, rfl, hR⟩ := hrel
        by_cases hlt : j < m
        · obtain ⟨cur, hcur, hsz, _, hst⟩ := own_store hR.out.2 (i := K + j) (by omega)
          have sb := shr_bd v0 v1 j
          have ha := and255 sb.1 sb.2
          have HS := Lib.hid hst; have HCu := Lib.hid hcur
          have hstep := Lib.hid (shr_step vv j)
          have hpf := Lib.hid (putF_step f K j vv)
          have hby : byteI vv j = vv / 2 ^ (8 * j) % 256 := rfl
          have HB := Lib.hid hby
          clear hst hcur hby
          generalize vv / 2 ^ (8 * j) = V at *
          go_wp2_with (refine wpList_store_cell rfl 5 _ _ rfl g (K + j) (.int .u8 (V % 256)) rfl ?_ rfl rfl 5 cur HCu.out info_u8n hsz ?_; (focus (simp [Act.eval, ha])); intro w1 s1)
          have C1 := Lib.hid (ChgAt.store hR.out.1 s1)
          have O1 := Lib.hid (show Own w1 base (.slice (some ⟨g, 0, none⟩) L Cp) L (putF f K (j + 1) vv) by have := HS.out _ _ s1; rw [← HB.out, hpf.out] at this; exact this)
          clear s1 HS HCu
          go_wp2_with fail
          go_roundw
          case rel => exact ⟨j + 1, by omega, by rw [← hstep.out], by go_num, Lib.hid ⟨C1.out, O1.out⟩⟩
          case measure => simp [intOf]; omega
        · obtain rfl : j = m := by omega
          go_wp2_with fail
          go_ret
          exact .inr ⟨trivial, _, _, true, HF.out, .inr ⟨rfl, rfl, R, g, HW.out, HG.out, hbg, k0, by rw [hLe]; exact kn, by rw [hLe, hCe, hfe]; simpa using hR.out.2, hR.out.1⟩⟩
end Go.Proofs.Ytpbnmbeedjhloaa.Rm
