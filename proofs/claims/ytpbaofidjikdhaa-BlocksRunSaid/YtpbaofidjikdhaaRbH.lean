/-
  The document's answer latheref04: where a block begins.
-/
import Derived.Test.YtpbaofidjikdhaaBlkC
import Derived.Test.YtpbaofidjikdhaaRinC
namespace Go.Proofs.Ytpbaofidjikdhaa.Blk
open Go.RowKit Go.Maps Go.Sort Ins
set_option linter.unusedVariables false
set_option maxRecDepth 100000

theorem begB_of (s : Sh) {n : Nat} {z : Int} (h : z = 0 ∨ (∃ j, j < n ∧ s.jumps j = true ∧ s.to j = z) ∨ ∃ j, j < n ∧ (s.jumps j = true ∨ s.exit j = true) ∧ (j : Int) + 1 = z) : begB s n z = true := by
  rcases h with rfl | ⟨j, hj, h1, rfl⟩ | ⟨j, hj, h1, rfl⟩
  · exact begB_zero s n
  · exact begB_to s hj h1
  · exact begB_behind s hj h1

set_option maxHeartbeats 4000000 in
theorem r_begins (c : Int) (a : Option Addr) (len cap : Nat) (xs : Nat → In) (i : Nat) (W : World) (hx : Insts W a len cap xs) (hi : i < len) (h64 : len ≤ 64) (hk : ∀ k, k < len → jumpsI k (xs k) = decide ((xs k).kind = 3 ∨ (xs k).kind = 4)) :
    Calls Try.prog 85 #[.agg #[.int .i64 c, .slice a len cap], .int .i64 i] W fun e w' => e = .returned (.bool (begB (sh xs) len i)) ∧ Below W.heap.size W w' := by
  have hfit := hx.fit
  have hle := hx.le
  have HX := Lib.hid hx; clear hx
  have HK := Lib.hid hk; clear hk
  have BO := Lib.hid (fun h => begB_of (sh xs) (n := len) (z := (i : Int)) h)
  have BC := Lib.hid (fun h => begB_cases (sh xs) (n := len) (z := (i : Int)) h)
  generalize hr : begB (sh xs) len i = r at *
  clear hr
  obtain ⟨B, q, rfl, hcells⟩ := HX.out.here (by omega)
  have HC := Lib.hid hcells; clear hcells
  cases i with
  | zero =>
    have R := Lib.hid (BO.out (.inl rfl))
    go_enter Try.func85, Try.ntmps85
    go_wp2_with fail
    go_ret
    exact ⟨by rw [R.out]; rfl, below_new (Below.refl _ _) _⟩
  | succ m =>
    have i0 : (((m + 1 : Nat) : Int) == 0) = false := by simp only [beq_eq_false_iff_ne]; omega
    have i0' : ((m : Int) + 1 == 0) = false := by simp only [beq_eq_false_iff_ne]; omega
    have hkc : W.cell? ⟨B, q + m * 9, none⟩ = some (.int .i8 (xs m).kind) := HC.out m (by omega) 0 _ rfl
    have hb := lt_of_cell hkc
    have HKm := Lib.hid (HK.out m (by omega))
    have ST := Lib.hid (show ((xs m).kind = 3 ∨ (xs m).kind = 4 ∨ (xs m).kind = 6) → r = true from fun h => BO.out (.inr (.inr ⟨m, by omega, by
      rcases h with h | h | h
      · exact .inl (by show jumpsI m (xs m) = true; rw [HKm.out]; simp [h])
      · exact .inl (by show jumpsI m (xs m) = true; rw [HKm.out]; simp [h])
      · exact .inr (by show decide _ = true; simp [h]), by omega⟩)))
    have NS := Lib.hid (show ¬ ((xs m).kind = 3 ∨ (xs m).kind = 4 ∨ (xs m).kind = 6) → r = true → ∃ j, j < len ∧ jumpsI j (xs j) = true ∧ targetI j (xs j) = ((m + 1 : Nat) : Int) from fun h hr => by
      rcases BC.out hr with h0 | ⟨j, hj, h1, h2⟩ | ⟨j, hj, h1, h2⟩
      · omega
      · exact ⟨j, hj, h1, h2⟩
      · obtain rfl : j = m := by omega
        exfalso
        rcases h1 with h1 | h1
        · have : jumpsI j (xs j) = true := h1
          rw [HKm.out] at this
          have := of_decide_eq_true this
          omega
        · have : decide ((xs j).kind = 6) = true := h1
          have := of_decide_eq_true this
          omega)
    generalize (xs m).kind = kd at *
    have hcase : kd = 3 ∨ kd = 4 ∨ kd = 6 ∨ (¬ kd = 3 ∧ ¬ kd = 4 ∧ ¬ kd = 6) := by omega
    rcases hcase with rfl | rfl | rfl | ⟨h3, h4, h6⟩
    · have R := Lib.hid (ST.out (.inl rfl))
      go_enter Try.func85, Try.ntmps85
      go_wp2_with fail
      go_ret
      exact ⟨by rw [R.out]; rfl, below_new (Below.refl _ _) _⟩
    · have R := Lib.hid (ST.out (.inr (.inl rfl)))
      go_enter Try.func85, Try.ntmps85
      go_wp2_with fail
      go_ret
      exact ⟨by rw [R.out]; rfl, below_new (Below.refl _ _) _⟩
    · have R := Lib.hid (ST.out (.inr (.inr rfl)))
      go_enter Try.func85, Try.ntmps85
      go_wp2_with fail
      go_ret
      exact ⟨by rw [R.out]; rfl, below_new (Below.refl _ _) _⟩
    · have NJ := Lib.hid (NS.out (by omega))
      have e3 : (kd == 3) = false := by simpa using h3
      have e4 : (kd == 4) = false := by simpa using h4
      have e6 : (kd == 6) = false := by simpa using h6
      have YJ := Lib.hid (show ∀ j, j < len → jumpsI j (xs j) = true → targetI j (xs j) = ((m + 1 : Nat) : Int) → r = true from fun j hj h1 h2 => BO.out (.inr (.inl ⟨j, hj, h1, h2⟩)))
      clear h3 h4 h6
      rw [show ((m + 1 : Nat) : Int) = (m : Int) + 1 from by omega]
      go_enter Try.func85, Try.ntmps85
      go_wp2_with fail
      have hpc : (W.alloc (.cells #[.int .i64 c, .slice (some ⟨B, q, none⟩) len cap] 51)).cell? ⟨W.heap.size, 1, none⟩ = some (.slice (some ⟨B, q, none⟩) len cap) := by simp
      have HP := Lib.hid hpc
      clear hpc hkc e3 e4 e6
      go_loopw [6] (fun v wr => ∃ k : Nat, k ≤ len ∧ v = .int .i64 k ∧ Hid (Below W.heap.size W wr ∧ wr.cell? ⟨W.heap.size, 1, none⟩ = some (.slice (some ⟨B, q, none⟩) len cap) ∧ ∀ j, j < k → jumpsI j (xs j) = true → ¬ targetI j (xs j) = ((m + 1 : Nat) : Int))) (fun v _ => len - (intOf v).toNat)
      case atStart => exact ⟨0, by omega, rfl, Lib.hid ⟨below_new (Below.refl _ _) _, HP.out, fun j h => by omega⟩⟩
      case round =>
        clear HP
        obtain ⟨k, hk, rfl, hR⟩ := hrel
        have BW := Lib.hid hR.out.1
        have hp := hR.out.2.1
        have AL := Lib.hid hR.out.2.2
        have hpl := lt_of_cell hp
        clear hR
        by_cases hlt : k < len
        · have HA := Lib.hid (rangeAt_below BW.out (HC.out k hlt))
          have HI := Lib.hid (show (Try.prog.info? 46).map (·.size) = some (xs k).cells.toList.length from info_ins)
          have TG := Lib.hid (fun W => r_target k (xs k) W)
          have YK := Lib.hid (YJ.out k hlt)
          have NX := Lib.hid (show ¬ (jumpsI k (xs k) = true ∧ targetI k (xs k) = ((m + 1 : Nat) : Int)) → ∀ j, j < k + 1 → jumpsI j (xs j) = true → ¬ targetI j (xs j) = ((m + 1 : Nat) : Int) from fun h j hj h1 h2 => by
            by_cases e : j = k
            · subst e; exact h ⟨h1, h2⟩
            · exact AL.out j (by omega) h1 h2)
          generalize targetI k (xs k) = t at *
          cases hj : jumpsI k (xs k)
          · rw [hj] at TG NX
            have N := Lib.hid (NX.out (fun h => by cases h.1))
            clear hj
            go_wp2_with (with_reducible refine wpList_load_mid rfl 46 _ rfl B (q + k * 9) rfl (xs k).cells.toList _ HA.out Try.underlying46 rfl HI.out ?_)
            refine (TG.out _).mono ?_
            rintro e w2 ⟨rfl, b2⟩
            have W2 := Lib.hid (below_call BW.out b2)
            have P2 := Lib.hid ((b2.cell (p := ⟨W.heap.size, 1, none⟩) hpl).trans hp)
            clear b2 hp hpl
            go_wp2_with fail
            go_roundw
            case rel => exact ⟨k + 1, by omega, by go_num, Lib.hid ⟨W2.out, P2.out, N.out⟩⟩
            case measure => simp [intOf]; omega
          · rw [hj] at TG NX YK
            clear hj
            by_cases ht : t = ((m + 1 : Nat) : Int)
            · have R := Lib.hid (YK.out rfl ht)
              subst ht
              go_wp2_with (with_reducible refine wpList_load_mid rfl 46 _ rfl B (q + k * 9) rfl (xs k).cells.toList _ HA.out Try.underlying46 rfl HI.out ?_)
              refine (TG.out _).mono ?_
              rintro e w2 ⟨rfl, b2⟩
              have W2 := Lib.hid (below_call BW.out b2)
              clear b2 hp hpl
              go_wp2_with fail
              go_ret
              exact ⟨by rw [R.out]; rfl, W2.out⟩
            · have N := Lib.hid (NX.out (fun h => ht h.2))
              have t0 : (t == ((m : Int) + 1)) = false := by simp only [beq_eq_false_iff_ne]; omega
              have t1 : (t == ((m + 1 : Nat) : Int)) = false := by simp only [beq_eq_false_iff_ne]; omega
              clear ht
              go_wp2_with (with_reducible refine wpList_load_mid rfl 46 _ rfl B (q + k * 9) rfl (xs k).cells.toList _ HA.out Try.underlying46 rfl HI.out ?_)
              refine (TG.out _).mono ?_
              rintro e w2 ⟨rfl, b2⟩
              have W2 := Lib.hid (below_call BW.out b2)
              have P2 := Lib.hid ((b2.cell (p := ⟨W.heap.size, 1, none⟩) hpl).trans hp)
              clear b2 hp hpl
              go_wp2_with fail
              go_roundw
              case rel => exact ⟨k + 1, by omega, by go_num, Lib.hid ⟨W2.out, P2.out, N.out⟩⟩
              case measure => simp [intOf]; omega
        · obtain rfl : k = len := by omega
          have R := Lib.hid (show r = false by
            cases hr : r
            · rfl
            · obtain ⟨j, hj, h1, h2⟩ := NJ.out hr
              exact absurd h2 (AL.out j hj h1))
          go_wp2_with fail
          go_ret
          exact ⟨by rw [R.out]; rfl, BW.out⟩
end Go.Proofs.Ytpbaofidjikdhaa.Blk
