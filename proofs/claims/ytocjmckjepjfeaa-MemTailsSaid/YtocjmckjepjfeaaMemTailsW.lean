/-
  The walk of the law MemTails.
-/
import Derived.Test.YtocjmckjepjfeaaMemK
namespace Go.Proofs.Ytocjmckjepjfeaa
open Go.RowKit
set_option linter.unusedVariables false

set_option maxRecDepth 100000 in
set_option maxHeartbeats 1000000 in
theorem tails_long (ca : Option Addr) (cl cc : Nat) (ka : Option Addr) (kl kc : Nat) (a : Int) (W : World) (h : 256 < cl ∨ 400 < kl) :
    Calls Try.prog 7 #[.slice ca cl cc, .slice ka kl kc, .int .u64 a] W fun e w' => e = .returned (.bool true) ∧ Below W.heap.size W w' := by
  by_cases h1 : 256 < cl
  · have k1 : (256 : Int) < cl := by omega
    clear h
    go_enter Try.func7, Try.ntmps7
    go_wp2_with fail
    refine (wakes_any _).mono ?_
    rintro e w1 ⟨rfl, b1⟩
    go_wp2
    go_ret
    exact ⟨rfl, b1⟩
  · have k1 : (cl : Int) ≤ 256 := by omega
    have k2 : (400 : Int) < kl := by omega
    clear h h1
    go_enter Try.func7, Try.ntmps7
    go_wp2_with fail
    refine (wakes_any _).mono ?_
    rintro e w1 ⟨rfl, b1⟩
    go_wp2
    go_ret
    exact ⟨rfl, b1⟩

/-- Whatever Fetch hands back. -/
def FetchSome (W : World) (e : Ending) (w' : World) : Prop := ∃ (p : Option Addr) (l : Nat) (r : Int), e = .returned (.tuple #[.slice p l l, .int .i64 r]) ∧ Below W.heap.size W w'
theorem fetch_some (S : MemS) (kf : Nat → Int) (b : Nat) (a : Int) (W : World) (h : Mem S kf W b) (ha0 : 0 ≤ a) (ha1 : a < 18446744073709551616) :
    Calls Try.prog 16 #[.pointer (some ⟨b, 0, none⟩), .int .u64 a] W (FetchSome W) := by
  by_cases g1 : 1048576 ≤ a ∧ a < 1048576 + (S.cn : Int)
  · obtain ⟨q, hq⟩ := Int.eq_ofNat_of_zero_le (show 0 ≤ a - 1048576 by omega)
    exact (fetch_yes S kf b a q (S.cn - q) W h (by omega) (by omega) (by omega)).mono fun e w' ⟨z, h1, _, h3, _⟩ => ⟨_, _, _, h1, h3⟩
  · exact (fetch_no S kf b a W h ha0 ha1 g1).mono fun e w' ⟨h1, h3⟩ => ⟨none, 0, 20, h1, h3⟩

/-- A number of twice as many bytes is those of its halves. -/
theorem read_halves (S : MemS) (kf : Nat → Int) (a : Int) (n : Nat) (hn : 1 ≤ n) (hn4 : n ≤ 4) (hl : ¬ locI S.cn S.n S.hs a ((2 * n : Nat) : Int) = 0) (h1 : S.cn ≤ 16384) (h2 : S.n ≤ 256) (hb : ∀ i, i < 2 * n → 0 ≤ byteAt S kf (a + i) ∧ byteAt S kf (a + i) < 256) :
    readE S a ((2 * n : Nat) : Int) = 0 ∧ readE S a n = 0 ∧ readE S (a + n) n = 0 ∧ a + n < 18446744073709551616 ∧
    readV S kf a (2 * n) = bits .or .u64 (readV S kf (a + n) n * 2 ^ (8 * n) % 18446744073709551616) (readV S kf a n) ∧ 0 ≤ readV S kf a n ∧ readV S kf a n < 18446744073709551616 ∧ 0 ≤ readV S kf (a + n) n ∧ readV S kf (a + n) n < 18446744073709551616 := by
  have z := stkI_bd S.hs
  have l1 : locI S.cn S.n S.hs a n ≠ 0 := by
    intro h; apply hl
    unfold locI at h ⊢
    (repeat' split at h) <;> first | (exact absurd h (by omega)) | skip
    (repeat' split) <;> omega
  have l2 : locI S.cn S.n S.hs (a + n) n ≠ 0 := by
    intro h; apply hl
    unfold locI at h ⊢
    (repeat' split at h) <;> first | (exact absurd h (by omega)) | skip
    (repeat' split) <;> omega
  have l3 : a + n < 18446744073709551616 := by
    have := locI_cases (cn := S.cn) (n := S.n) (hs := S.hs) (a := a) (m := ((2 * n : Nat) : Int)) (by omega)
    omega
  have b1 := getI_bd (fun i => byteAt S kf (a + i)) n (fun i hi => hb i (by omega))
  have b2 := getI_bd (fun i => byteAt S kf (a + n + i)) n (fun i hi => by have := hb (n + i) (by omega); rw [show a + ((n + i : Nat) : Int) = a + n + i by omega] at this; exact this)
  have p : (2 : Int) ^ (8 * n) ≤ 2 ^ 32 := by
    have := Nat.pow_le_pow_right (show 0 < 2 by omega) (show 8 * n ≤ 32 by omega)
    have e : ((2 ^ (8 * n) : Nat) : Int) ≤ ((2 ^ 32 : Nat) : Int) := by omega
    simpa using e
  have p32 : (2 : Int) ^ 32 = 4294967296 := rfl
  have p0 : (0 : Int) < 2 ^ (8 * n) := Int.pow_pos (by omega)
  unfold readE readV
  rw [if_neg hl, if_neg l1, if_neg l2, if_neg hl, if_neg l2, if_neg l1]
  refine ⟨rfl, rfl, rfl, l3, ?_, b1.1, by omega, b2.1, by omega⟩
  rw [show 2 * n = n + n by omega, getI_add, getI_congr (f := fun i => (fun i : Nat => byteAt S kf (a + i)) (n + i)) (g := fun i => byteAt S kf (a + n + i)) n (fun i _ => by show byteAt S kf (a + ((n + i : Nat) : Int)) = _; rw [show a + ((n + i : Nat) : Int) = a + n + i by omega])]
  generalize getI (fun i => byteAt S kf (a + i)) n = lo at *
  generalize getI (fun i => byteAt S kf (a + n + i)) n = hi at *
  have u : hi * 2 ^ (8 * n) ≤ 4294967295 * 4294967296 := by
    have h1 : hi * 2 ^ (8 * n) ≤ hi * 4294967296 := Int.mul_le_mul_of_nonneg_left (by omega) b2.1
    have h2 : hi * 4294967296 ≤ 4294967295 * 4294967296 := Int.mul_le_mul_of_nonneg_right (by omega) (by omega)
    omega
  have v : 0 ≤ hi * 2 ^ (8 * n) := Int.mul_nonneg b2.1 (by omega)
  rw [Int.emod_eq_of_lt v (by omega), u64_or _ _ v (by omega) b1.1 (by omega)]
  obtain ⟨X, rfl⟩ := Int.eq_ofNat_of_zero_le b1.1
  obtain ⟨Y, rfl⟩ := Int.eq_ofNat_of_zero_le b2.1
  have c : ((Y : Int) * 2 ^ (8 * n)) = ((2 ^ (8 * n) * Y : Nat) : Int) := by rw [Nat.mul_comm (2 ^ (8 * n)) Y]; simp
  have d : X < 2 ^ (8 * n) := by
    have e : (X : Int) < ((2 ^ (8 * n) : Nat) : Int) := by simpa using b1.2
    omega
  rw [c, Int.toNat_natCast, Int.toNat_natCast, ← Nat.two_pow_add_eq_or_of_lt d]
  omega

set_option maxRecDepth 100000 in
set_option maxHeartbeats 4000000 in
theorem tails_main (ca : Option Addr) (cl cc : Nat) (cf : Nat → Int) (ka : Option Addr) (kl kc : Nat) (kf : Nat → Int) (a : Int) (W : World) (hc : Src W ca cl cc cf) (hk : Src W ka kl kc kf) (h1 : cl ≤ 256) (h2 : kl ≤ 400) (ha0 : 0 ≤ a) (ha1 : a < 18446744073709551616) :
    Calls Try.prog 7 #[.slice ca cl cc, .slice ka kl kc, .int .u64 a] W fun e w' => e = .returned (.bool true) ∧ Below W.heap.size W w' := by
  have k1 : (cl : Int) ≤ 256 := by omega
  have k2 : (kl : Int) ≤ 400 := by omega
  have HN := Lib.hid (new_any ca cl cc cf ka kl kc kf true W hc hk h1 (by omega))
  have HKB := Lib.hid hk.bytes
  clear hc hk
  go_enter Try.func7, Try.ntmps7
  go_wp2_with fail
  refine HN.out.mono ?_
  rintro e w1 ⟨b, cb, rfl, hb, hcb, b1, hN, hC⟩
  have M1 := Lib.hid (show Mem (newMem cb kl cl true cf) kf w1 b from ⟨hN, hC, HKB.out⟩)
  have B1 := Lib.hid b1
  clear hN hC b1 hcb HN
  generalize hS : newMem cb kl cl true cf = S at *
  have hcn : S.cn = kl := by rw [← hS]; rfl
  have hn : S.n = cl := by rw [← hS]; rfl
  have hcn' : S.cn ≤ 400 := by omega
  have HCN := Lib.hid hcn; have HNN := Lib.hid hn; have HSS := Lib.hid hS
  clear hcn hn hS
  by_cases g1 : 1048576 ≤ a ∧ a < 1048576 + (S.cn : Int)
  · obtain ⟨q, hq0⟩ := Int.eq_ofNat_of_zero_le (show 0 ≤ a - 1048576 by omega)
    have hq : a = 1048576 + (q : Int) := by omega
    clear hq0
    by_cases g2 : q + 1 < S.cn
    · obtain ⟨d, hd⟩ : ∃ d, S.cn = q + (d + 2) := ⟨S.cn - q - 2, by omega⟩
      clear g1 g2
      have F1 := Lib.hid (fun W h => fetch_yes S kf b a q (d + 2) W h hq hd (by omega))
      have F2 := Lib.hid (fun W h => fetch_yes S kf b (a + 1) (q + 1) (d + 1) W h (by omega) (by omega) (by omega))
      have g3 : a + 1 < 18446744073709551616 := by omega
      have g4 : ((d : Int) + 2 == 0) = false := by simp; omega
      have g5 : (1 : Int) ≤ (d : Int) + 2 := by omega
      have g6 : ¬ d + 2 = 1 := by omega
      clear hd hq
      go_wp2_with fail
      refine (F1.out _ M1.out).mono ?_
      rintro e w2 ⟨z, rfl, hz, b2, r2⟩
      have M2 := Lib.hid (M1.out.below b2)
      have B2 := Lib.hid (below_call B1.out b2)
      go_wp2_with fail
      refine (F2.out _ M2.out).mono ?_
      rintro e w3 ⟨z', rfl, hz', b3, r3⟩
      have M3 := Lib.hid (M2.out.below b3)
      have B3 := Lib.hid (below_call B2.out b3)
      have r2' := r2.of_block (b3.block _ r2.lt)
      have cv1 : ∀ n, (convert 22 9 (.slice (some ⟨z, 1, none⟩) (d + 1) (d + 1))).run Try.prog (w3.drewN n) = .ok (.string (strOf (fun i => kf (q + 1 + (0 + i))) (d + 1))) (w3.drewN n) := fun n => by
        have h := conv_row (w := w3.drewN n) (r2'.of_block rfl) 1 (d + 1) (d + 1) (by omega)
        rw [strOf_eq (g := fun i => kf (q + 1 + (0 + i))) (m := d + 1) rfl (fun i _ => by rw [show q + (1 + i) = q + 1 + (0 + i) by omega])] at h
        exact h
      have cv2 : ∀ n, (convert 22 9 (.slice (some ⟨z', 0, none⟩) (d + 1) (d + 1))).run Try.prog (w3.drewN n) = .ok (.string (strOf (fun i => kf (q + 1 + (0 + i))) (d + 1))) (w3.drewN n) := fun n => conv_row (w := w3.drewN n) (r3.of_block rfl) 0 (d + 1) (d + 1) (by omega)
      clear b3 b2 r2 r3 r2' hz hz'
      generalize strOf (fun i => kf (q + 1 + (0 + i))) (d + 1) = X at *
      go_wp2_with fail
      go_quiet (fail)
      have M4 := Lib.hid (M3.out.drew nq)
      have B4 := Lib.hid (below_drews B3.out nq)
      clear B3 M3 M2 B2 M1 B1 F1 HKB
      generalize w3.drewN nq = w4 at *
      go_wp2_with fail
      go_loopw [13] (fun i wr => ∃ j : Nat, (j = 1 ∨ j = 2 ∨ j = 4 ∨ j = 8) ∧ i = .int .i64 j ∧ Hid (Below W.heap.size W wr) ∧ Hid (Mem S kf wr b)) (fun i _ => 8 - (intOf i).toNat)
      case atStart => exact ⟨1, by omega, rfl, B4, M4⟩
      case round =>
        obtain ⟨j, hj, rfl, hB, hM⟩ := hrel
        rcases hj with rfl | rfl | rfl | rfl
        · by_cases hl : locI S.cn S.n S.hs a ((2 * 1 : Nat) : Int) = 0
          · have R := fun W h => read_any S kf b a 2 W h rfl ha0 ha1
            rw [show readE S a (2 : Nat) = 20 from if_pos hl] at R
            have HR := Lib.hid R; clear R
            go_wp2_with fail
            refine (HR.out _ hM.out).mono ?_
            rintro e w5 ⟨rfl, b5⟩
            go_wp2_with fail
            go_roundw
            case rel => exact ⟨2, by omega, rfl, below_call hB.out b5, hM.out.below b5⟩
            case measure => simp [intOf]
          · obtain ⟨e1, e2, e3, e4, e5, e6, e7, e8, e9⟩ := read_halves S kf a 1 (by omega) (by omega) hl hM.out.at_.cn hM.out.at_.n (fun i hi => byteAt_bd hM.out a _ (by omega) hl i (by omega))
            have R1 := fun W h => read_any S kf b a 2 W h rfl ha0 ha1
            have R2 := fun W h => read_any S kf b a 1 W h rfl ha0 ha1
            have R3 := fun W h => read_any S kf b (a + 1) 1 W h rfl (by omega) e4
            rw [show readE S a (2 : Nat) = 0 from e1] at R1
            rw [show readE S a (1 : Nat) = 0 from e2] at R2
            rw [show readE S (a + 1) (1 : Nat) = 0 from e3] at R3
            have HR1 := Lib.hid R1; have HR2 := Lib.hid R2; have HR3 := Lib.hid R3; clear R1 R2 R3 e1 e2 e3
            have tst : (readV S kf a 2 != bits BinOp.or IntKind.u64 (IntKind.u64.wrap (readV S kf (a + 1) 1 * 256)) (readV S kf a 1)) = false := neqF (by rw [IntKind.wrap_u64]; exact e5)
            have e4' : a + 1 < 18446744073709551616 := e4
            clear e4 e5 e6 e7 e8 e9
            go_wp2_with fail
            refine (HR1.out _ hM.out).mono ?_
            rintro e w5 ⟨rfl, b5⟩
            have M5 := Lib.hid (hM.out.below b5)
            go_wp2_with fail
            refine (HR2.out _ M5.out).mono ?_
            rintro e w6 ⟨rfl, b6⟩
            have M6 := Lib.hid (M5.out.below b6)
            go_wp2_with fail
            refine (HR3.out _ M6.out).mono ?_
            rintro e w7 ⟨rfl, b7⟩
            go_wp2_with fail
            go_roundw
            case rel => exact ⟨2, by omega, rfl, below_call (below_call (below_call hB.out b5) b6) b7, M6.out.below b7⟩
            case measure => simp [intOf]
        · by_cases hl : locI S.cn S.n S.hs a ((2 * 2 : Nat) : Int) = 0
          · have R := fun W h => read_any S kf b a 4 W h rfl ha0 ha1
            rw [show readE S a (4 : Nat) = 20 from if_pos hl] at R
            have HR := Lib.hid R; clear R
            go_wp2_with fail
            refine (HR.out _ hM.out).mono ?_
            rintro e w5 ⟨rfl, b5⟩
            go_wp2_with fail
            go_roundw
            case rel => exact ⟨4, by omega, rfl, below_call hB.out b5, hM.out.below b5⟩
            case measure => simp [intOf]
          · obtain ⟨e1, e2, e3, e4, e5, e6, e7, e8, e9⟩ := read_halves S kf a 2 (by omega) (by omega) hl hM.out.at_.cn hM.out.at_.n (fun i hi => byteAt_bd hM.out a _ (by omega) hl i (by omega))
            have R1 := fun W h => read_any S kf b a 4 W h rfl ha0 ha1
            have R2 := fun W h => read_any S kf b a 2 W h rfl ha0 ha1
            have R3 := fun W h => read_any S kf b (a + 2) 2 W h rfl (by omega) e4
            rw [show readE S a (4 : Nat) = 0 from e1] at R1
            rw [show readE S a (2 : Nat) = 0 from e2] at R2
            rw [show readE S (a + 2) (2 : Nat) = 0 from e3] at R3
            have HR1 := Lib.hid R1; have HR2 := Lib.hid R2; have HR3 := Lib.hid R3; clear R1 R2 R3 e1 e2 e3
            have tst : (readV S kf a 4 != bits BinOp.or IntKind.u64 (IntKind.u64.wrap (readV S kf (a + 2) 2 * 65536)) (readV S kf a 2)) = false := neqF (by rw [IntKind.wrap_u64]; exact e5)
            have e4' : a + 2 < 18446744073709551616 := e4
            clear e4 e5 e6 e7 e8 e9
            go_wp2_with fail
            refine (HR1.out _ hM.out).mono ?_
            rintro e w5 ⟨rfl, b5⟩
            have M5 := Lib.hid (hM.out.below b5)
            go_wp2_with fail
            refine (HR2.out _ M5.out).mono ?_
            rintro e w6 ⟨rfl, b6⟩
            have M6 := Lib.hid (M5.out.below b6)
            go_wp2_with fail
            refine (HR3.out _ M6.out).mono ?_
            rintro e w7 ⟨rfl, b7⟩
            go_wp2_with fail
            go_roundw
            case rel => exact ⟨4, by omega, rfl, below_call (below_call (below_call hB.out b5) b6) b7, M6.out.below b7⟩
            case measure => simp [intOf]
        · by_cases hl : locI S.cn S.n S.hs a ((2 * 4 : Nat) : Int) = 0
          · have R := fun W h => read_any S kf b a 8 W h rfl ha0 ha1
            rw [show readE S a (8 : Nat) = 20 from if_pos hl] at R
            have HR := Lib.hid R; clear R
            go_wp2_with fail
            refine (HR.out _ hM.out).mono ?_
            rintro e w5 ⟨rfl, b5⟩
            go_wp2_with fail
            go_roundw
            case rel => exact ⟨8, by omega, rfl, below_call hB.out b5, hM.out.below b5⟩
            case measure => simp [intOf]
          · obtain ⟨e1, e2, e3, e4, e5, e6, e7, e8, e9⟩ := read_halves S kf a 4 (by omega) (by omega) hl hM.out.at_.cn hM.out.at_.n (fun i hi => byteAt_bd hM.out a _ (by omega) hl i (by omega))
            have R1 := fun W h => read_any S kf b a 8 W h rfl ha0 ha1
            have R2 := fun W h => read_any S kf b a 4 W h rfl ha0 ha1
            have R3 := fun W h => read_any S kf b (a + 4) 4 W h rfl (by omega) e4
            rw [show readE S a (8 : Nat) = 0 from e1] at R1
            rw [show readE S a (4 : Nat) = 0 from e2] at R2
            rw [show readE S (a + 4) (4 : Nat) = 0 from e3] at R3
            have HR1 := Lib.hid R1; have HR2 := Lib.hid R2; have HR3 := Lib.hid R3; clear R1 R2 R3 e1 e2 e3
            have tst : (readV S kf a 8 != bits BinOp.or IntKind.u64 (IntKind.u64.wrap (readV S kf (a + 4) 4 * 4294967296)) (readV S kf a 4)) = false := neqF (by rw [IntKind.wrap_u64]; exact e5)
            have e4' : a + 4 < 18446744073709551616 := e4
            clear e4 e5 e6 e7 e8 e9
            go_wp2_with fail
            refine (HR1.out _ hM.out).mono ?_
            rintro e w5 ⟨rfl, b5⟩
            have M5 := Lib.hid (hM.out.below b5)
            go_wp2_with fail
            refine (HR2.out _ M5.out).mono ?_
            rintro e w6 ⟨rfl, b6⟩
            have M6 := Lib.hid (M5.out.below b6)
            go_wp2_with fail
            refine (HR3.out _ M6.out).mono ?_
            rintro e w7 ⟨rfl, b7⟩
            go_wp2_with fail
            go_roundw
            case rel => exact ⟨8, by omega, rfl, below_call (below_call (below_call hB.out b5) b6) b7, M6.out.below b7⟩
            case measure => simp [intOf]
        · go_wp2_with fail
          refine (wakes_any _).mono ?_
          rintro e w5 ⟨rfl, b5⟩
          go_wp2
          go_ret
          exact ⟨rfl, below_call hB.out b5⟩
    · have hd : S.cn = q + 1 := by omega
      clear g1 g2
      have F1 := Lib.hid (fun W h => fetch_yes S kf b a q 1 W h hq hd (by omega))
      have F2 := Lib.hid (fun W h => fetch_no S kf b (a + 1) W h (by omega) (by omega) (by omega))
      have g3 : a + 1 < 18446744073709551616 := by omega
      clear hd hq
      go_wp2_with fail
      refine (F1.out _ M1.out).mono ?_
      rintro e w2 ⟨z, rfl, hz, b2, r2⟩
      have M2 := Lib.hid (M1.out.below b2)
      have B2 := Lib.hid (below_call B1.out b2)
      clear b2 r2
      go_wp2_with fail
      refine (F2.out _ M2.out).mono ?_
      rintro e w3 ⟨rfl, b3⟩
      have M3 := Lib.hid (M2.out.below b3)
      have B3 := Lib.hid (below_call B2.out b3)
      clear b3
      go_wp2_with fail
      go_quiet (fail)
      have M4 := Lib.hid (M3.out.drew nq)
      have B4 := Lib.hid (below_drews B3.out nq)
      clear B3 M3 M2 B2 M1 B1 F1 HKB
      generalize w3.drewN nq = w4 at *
      go_wp2_with fail
      go_loopw [13] (fun i wr => ∃ j : Nat, (j = 1 ∨ j = 2 ∨ j = 4 ∨ j = 8) ∧ i = .int .i64 j ∧ Hid (Below W.heap.size W wr) ∧ Hid (Mem S kf wr b)) (fun i _ => 8 - (intOf i).toNat)
      case atStart => exact ⟨1, by omega, rfl, B4, M4⟩
      case round =>
        obtain ⟨j, hj, rfl, hB, hM⟩ := hrel
        rcases hj with rfl | rfl | rfl | rfl
        · by_cases hl : locI S.cn S.n S.hs a ((2 * 1 : Nat) : Int) = 0
          · have R := fun W h => read_any S kf b a 2 W h rfl ha0 ha1
            rw [show readE S a (2 : Nat) = 20 from if_pos hl] at R
            have HR := Lib.hid R; clear R
            go_wp2_with fail
            refine (HR.out _ hM.out).mono ?_
            rintro e w5 ⟨rfl, b5⟩
            go_wp2_with fail
            go_roundw
            case rel => exact ⟨2, by omega, rfl, below_call hB.out b5, hM.out.below b5⟩
            case measure => simp [intOf]
          · obtain ⟨e1, e2, e3, e4, e5, e6, e7, e8, e9⟩ := read_halves S kf a 1 (by omega) (by omega) hl hM.out.at_.cn hM.out.at_.n (fun i hi => byteAt_bd hM.out a _ (by omega) hl i (by omega))
            have R1 := fun W h => read_any S kf b a 2 W h rfl ha0 ha1
            have R2 := fun W h => read_any S kf b a 1 W h rfl ha0 ha1
            have R3 := fun W h => read_any S kf b (a + 1) 1 W h rfl (by omega) e4
            rw [show readE S a (2 : Nat) = 0 from e1] at R1
            rw [show readE S a (1 : Nat) = 0 from e2] at R2
            rw [show readE S (a + 1) (1 : Nat) = 0 from e3] at R3
            have HR1 := Lib.hid R1; have HR2 := Lib.hid R2; have HR3 := Lib.hid R3; clear R1 R2 R3 e1 e2 e3
            have tst : (readV S kf a 2 != bits BinOp.or IntKind.u64 (IntKind.u64.wrap (readV S kf (a + 1) 1 * 256)) (readV S kf a 1)) = false := neqF (by rw [IntKind.wrap_u64]; exact e5)
            have e4' : a + 1 < 18446744073709551616 := e4
            clear e4 e5 e6 e7 e8 e9
            go_wp2_with fail
            refine (HR1.out _ hM.out).mono ?_
            rintro e w5 ⟨rfl, b5⟩
            have M5 := Lib.hid (hM.out.below b5)
            go_wp2_with fail
            refine (HR2.out _ M5.out).mono ?_
            rintro e w6 ⟨rfl, b6⟩
            have M6 := Lib.hid (M5.out.below b6)
            go_wp2_with fail
            refine (HR3.out _ M6.out).mono ?_
            rintro e w7 ⟨rfl, b7⟩
            go_wp2_with fail
            go_roundw
            case rel => exact ⟨2, by omega, rfl, below_call (below_call (below_call hB.out b5) b6) b7, M6.out.below b7⟩
            case measure => simp [intOf]
        · by_cases hl : locI S.cn S.n S.hs a ((2 * 2 : Nat) : Int) = 0
          · have R := fun W h => read_any S kf b a 4 W h rfl ha0 ha1
            rw [show readE S a (4 : Nat) = 20 from if_pos hl] at R
            have HR := Lib.hid R; clear R
            go_wp2_with fail
            refine (HR.out _ hM.out).mono ?_
            rintro e w5 ⟨rfl, b5⟩
            go_wp2_with fail
            go_roundw
            case rel => exact ⟨4, by omega, rfl, below_call hB.out b5, hM.out.below b5⟩
            case measure => simp [intOf]
          · obtain ⟨e1, e2, e3, e4, e5, e6, e7, e8, e9⟩ := read_halves S kf a 2 (by omega) (by omega) hl hM.out.at_.cn hM.out.at_.n (fun i hi => byteAt_bd hM.out a _ (by omega) hl i (by omega))
            have R1 := fun W h => read_any S kf b a 4 W h rfl ha0 ha1
            have R2 := fun W h => read_any S kf b a 2 W h rfl ha0 ha1
            have R3 := fun W h => read_any S kf b (a + 2) 2 W h rfl (by omega) e4
            rw [show readE S a (4 : Nat) = 0 from e1] at R1
            rw [show readE S a (2 : Nat) = 0 from e2] at R2
            rw [show readE S (a + 2) (2 : Nat) = 0 from e3] at R3
            have HR1 := Lib.hid R1; have HR2 := Lib.hid R2; have HR3 := Lib.hid R3; clear R1 R2 R3 e1 e2 e3
            have tst : (readV S kf a 4 != bits BinOp.or IntKind.u64 (IntKind.u64.wrap (readV S kf (a + 2) 2 * 65536)) (readV S kf a 2)) = false := neqF (by rw [IntKind.wrap_u64]; exact e5)
            have e4' : a + 2 < 18446744073709551616 := e4
            clear e4 e5 e6 e7 e8 e9
            go_wp2_with fail
            refine (HR1.out _ hM.out).mono ?_
            rintro e w5 ⟨rfl, b5⟩
            have M5 := Lib.hid (hM.out.below b5)
            go_wp2_with fail
            refine (HR2.out _ M5.out).mono ?_
            rintro e w6 ⟨rfl, b6⟩
            have M6 := Lib.hid (M5.out.below b6)
            go_wp2_with fail
            refine (HR3.out _ M6.out).mono ?_
            rintro e w7 ⟨rfl, b7⟩
            go_wp2_with fail
            go_roundw
            case rel => exact ⟨4, by omega, rfl, below_call (below_call (below_call hB.out b5) b6) b7, M6.out.below b7⟩
            case measure => simp [intOf]
        · by_cases hl : locI S.cn S.n S.hs a ((2 * 4 : Nat) : Int) = 0
          · have R := fun W h => read_any S kf b a 8 W h rfl ha0 ha1
            rw [show readE S a (8 : Nat) = 20 from if_pos hl] at R
            have HR := Lib.hid R; clear R
            go_wp2_with fail
            refine (HR.out _ hM.out).mono ?_
            rintro e w5 ⟨rfl, b5⟩
            go_wp2_with fail
            go_roundw
            case rel => exact ⟨8, by omega, rfl, below_call hB.out b5, hM.out.below b5⟩
            case measure => simp [intOf]
          · obtain ⟨e1, e2, e3, e4, e5, e6, e7, e8, e9⟩ := read_halves S kf a 4 (by omega) (by omega) hl hM.out.at_.cn hM.out.at_.n (fun i hi => byteAt_bd hM.out a _ (by omega) hl i (by omega))
            have R1 := fun W h => read_any S kf b a 8 W h rfl ha0 ha1
            have R2 := fun W h => read_any S kf b a 4 W h rfl ha0 ha1
            have R3 := fun W h => read_any S kf b (a + 4) 4 W h rfl (by omega) e4
            rw [show readE S a (8 : Nat) = 0 from e1] at R1
            rw [show readE S a (4 : Nat) = 0 from e2] at R2
            rw [show readE S (a + 4) (4 : Nat) = 0 from e3] at R3
            have HR1 := Lib.hid R1; have HR2 := Lib.hid R2; have HR3 := Lib.hid R3; clear R1 R2 R3 e1 e2 e3
            have tst : (readV S kf a 8 != bits BinOp.or IntKind.u64 (IntKind.u64.wrap (readV S kf (a + 4) 4 * 4294967296)) (readV S kf a 4)) = false := neqF (by rw [IntKind.wrap_u64]; exact e5)
            have e4' : a + 4 < 18446744073709551616 := e4
            clear e4 e5 e6 e7 e8 e9
            go_wp2_with fail
            refine (HR1.out _ hM.out).mono ?_
            rintro e w5 ⟨rfl, b5⟩
            have M5 := Lib.hid (hM.out.below b5)
            go_wp2_with fail
            refine (HR2.out _ M5.out).mono ?_
            rintro e w6 ⟨rfl, b6⟩
            have M6 := Lib.hid (M5.out.below b6)
            go_wp2_with fail
            refine (HR3.out _ M6.out).mono ?_
            rintro e w7 ⟨rfl, b7⟩
            go_wp2_with fail
            go_roundw
            case rel => exact ⟨8, by omega, rfl, below_call (below_call (below_call hB.out b5) b6) b7, M6.out.below b7⟩
            case measure => simp [intOf]
        · go_wp2_with fail
          refine (wakes_any _).mono ?_
          rintro e w5 ⟨rfl, b5⟩
          go_wp2
          go_ret
          exact ⟨rfl, below_call hB.out b5⟩
  · skip
    have F1 := Lib.hid (fun W h => fetch_no S kf b a W h ha0 ha1 g1)
    clear g1
    go_wp2_with fail
    refine (F1.out _ M1.out).mono ?_
    rintro e w2 ⟨rfl, b2⟩
    have M2 := Lib.hid (M1.out.below b2)
    have B2 := Lib.hid (below_call B1.out b2)
    clear b2
    go_wp2_with fail
    refine (fetch_some S kf b _ _ M2.out (by rw [IntKind.wrap_u64]; omega) (by rw [IntKind.wrap_u64]; omega)).mono ?_
    rintro e w3 ⟨p3, l3, r3, rfl, b3⟩
    have M3 := Lib.hid (M2.out.below b3)
    have B3 := Lib.hid (below_call B2.out b3)
    clear b3
    go_wp2_with fail
    go_quiet (fail)
    have M4 := Lib.hid (M3.out.drew nq)
    have B4 := Lib.hid (below_drews B3.out nq)
    clear B3 M3 M2 B2 M1 B1 F1 HKB
    generalize w3.drewN nq = w4 at *
    go_wp2_with fail
    go_loopw [13] (fun i wr => ∃ j : Nat, (j = 1 ∨ j = 2 ∨ j = 4 ∨ j = 8) ∧ i = .int .i64 j ∧ Hid (Below W.heap.size W wr) ∧ Hid (Mem S kf wr b)) (fun i _ => 8 - (intOf i).toNat)
    case atStart => exact ⟨1, by omega, rfl, B4, M4⟩
    case round =>
      obtain ⟨j, hj, rfl, hB, hM⟩ := hrel
      rcases hj with rfl | rfl | rfl | rfl
      · by_cases hl : locI S.cn S.n S.hs a ((2 * 1 : Nat) : Int) = 0
        · have R := fun W h => read_any S kf b a 2 W h rfl ha0 ha1
          rw [show readE S a (2 : Nat) = 20 from if_pos hl] at R
          have HR := Lib.hid R; clear R
          go_wp2_with fail
          refine (HR.out _ hM.out).mono ?_
          rintro e w5 ⟨rfl, b5⟩
          go_wp2_with fail
          go_roundw
          case rel => exact ⟨2, by omega, rfl, below_call hB.out b5, hM.out.below b5⟩
          case measure => simp [intOf]
        · obtain ⟨e1, e2, e3, e4, e5, e6, e7, e8, e9⟩ := read_halves S kf a 1 (by omega) (by omega) hl hM.out.at_.cn hM.out.at_.n (fun i hi => byteAt_bd hM.out a _ (by omega) hl i (by omega))
          have R1 := fun W h => read_any S kf b a 2 W h rfl ha0 ha1
          have R2 := fun W h => read_any S kf b a 1 W h rfl ha0 ha1
          have R3 := fun W h => read_any S kf b (a + 1) 1 W h rfl (by omega) e4
          rw [show readE S a (2 : Nat) = 0 from e1] at R1
          rw [show readE S a (1 : Nat) = 0 from e2] at R2
          rw [show readE S (a + 1) (1 : Nat) = 0 from e3] at R3
          have HR1 := Lib.hid R1; have HR2 := Lib.hid R2; have HR3 := Lib.hid R3; clear R1 R2 R3 e1 e2 e3
          have tst : (readV S kf a 2 != bits BinOp.or IntKind.u64 (IntKind.u64.wrap (readV S kf (a + 1) 1 * 256)) (readV S kf a 1)) = false := neqF (by rw [IntKind.wrap_u64]; exact e5)
          have e4' : a + 1 < 18446744073709551616 := e4
          clear e4 e5 e6 e7 e8 e9
          go_wp2_with fail
          refine (HR1.out _ hM.out).mono ?_
          rintro e w5 ⟨rfl, b5⟩
          have M5 := Lib.hid (hM.out.below b5)
          go_wp2_with fail
          refine (HR2.out _ M5.out).mono ?_
          rintro e w6 ⟨rfl, b6⟩
          have M6 := Lib.hid (M5.out.below b6)
          go_wp2_with fail
          refine (HR3.out _ M6.out).mono ?_
          rintro e w7 ⟨rfl, b7⟩
          go_wp2_with fail
          go_roundw
          case rel => exact ⟨2, by omega, rfl, below_call (below_call (below_call hB.out b5) b6) b7, M6.out.below b7⟩
          case measure => simp [intOf]
      · by_cases hl : locI S.cn S.n S.hs a ((2 * 2 : Nat) : Int) = 0
        · have R := fun W h => read_any S kf b a 4 W h rfl ha0 ha1
          rw [show readE S a (4 : Nat) = 20 from if_pos hl] at R
          have HR := Lib.hid R; clear R
          go_wp2_with fail
          refine (HR.out _ hM.out).mono ?_
          rintro e w5 ⟨rfl, b5⟩
          go_wp2_with fail
          go_roundw
          case rel => exact ⟨4, by omega, rfl, below_call hB.out b5, hM.out.below b5⟩
          case measure => simp [intOf]
        · obtain ⟨e1, e2, e3, e4, e5, e6, e7, e8, e9⟩ := read_halves S kf a 2 (by omega) (by omega) hl hM.out.at_.cn hM.out.at_.n (fun i hi => byteAt_bd hM.out a _ (by omega) hl i (by omega))
          have R1 := fun W h => read_any S kf b a 4 W h rfl ha0 ha1
          have R2 := fun W h => read_any S kf b a 2 W h rfl ha0 ha1
          have R3 := fun W h => read_any S kf b (a + 2) 2 W h rfl (by omega) e4
          rw [show readE S a (4 : Nat) = 0 from e1] at R1
          rw [show readE S a (2 : Nat) = 0 from e2] at R2
          rw [show readE S (a + 2) (2 : Nat) = 0 from e3] at R3
          have HR1 := Lib.hid R1; have HR2 := Lib.hid R2; have HR3 := Lib.hid R3; clear R1 R2 R3 e1 e2 e3
          have tst : (readV S kf a 4 != bits BinOp.or IntKind.u64 (IntKind.u64.wrap (readV S kf (a + 2) 2 * 65536)) (readV S kf a 2)) = false := neqF (by rw [IntKind.wrap_u64]; exact e5)
          have e4' : a + 2 < 18446744073709551616 := e4
          clear e4 e5 e6 e7 e8 e9
          go_wp2_with fail
          refine (HR1.out _ hM.out).mono ?_
          rintro e w5 ⟨rfl, b5⟩
          have M5 := Lib.hid (hM.out.below b5)
          go_wp2_with fail
          refine (HR2.out _ M5.out).mono ?_
          rintro e w6 ⟨rfl, b6⟩
          have M6 := Lib.hid (M5.out.below b6)
          go_wp2_with fail
          refine (HR3.out _ M6.out).mono ?_
          rintro e w7 ⟨rfl, b7⟩
          go_wp2_with fail
          go_roundw
          case rel => exact ⟨4, by omega, rfl, below_call (below_call (below_call hB.out b5) b6) b7, M6.out.below b7⟩
          case measure => simp [intOf]
      · by_cases hl : locI S.cn S.n S.hs a ((2 * 4 : Nat) : Int) = 0
        · have R := fun W h => read_any S kf b a 8 W h rfl ha0 ha1
          rw [show readE S a (8 : Nat) = 20 from if_pos hl] at R
          have HR := Lib.hid R; clear R
          go_wp2_with fail
          refine (HR.out _ hM.out).mono ?_
          rintro e w5 ⟨rfl, b5⟩
          go_wp2_with fail
          go_roundw
          case rel => exact ⟨8, by omega, rfl, below_call hB.out b5, hM.out.below b5⟩
          case measure => simp [intOf]
        · obtain ⟨e1, e2, e3, e4, e5, e6, e7, e8, e9⟩ := read_halves S kf a 4 (by omega) (by omega) hl hM.out.at_.cn hM.out.at_.n (fun i hi => byteAt_bd hM.out a _ (by omega) hl i (by omega))
          have R1 := fun W h => read_any S kf b a 8 W h rfl ha0 ha1
          have R2 := fun W h => read_any S kf b a 4 W h rfl ha0 ha1
          have R3 := fun W h => read_any S kf b (a + 4) 4 W h rfl (by omega) e4
          rw [show readE S a (8 : Nat) = 0 from e1] at R1
          rw [show readE S a (4 : Nat) = 0 from e2] at R2
          rw [show readE S (a + 4) (4 : Nat) = 0 from e3] at R3
          have HR1 := Lib.hid R1; have HR2 := Lib.hid R2; have HR3 := Lib.hid R3; clear R1 R2 R3 e1 e2 e3
          have tst : (readV S kf a 8 != bits BinOp.or IntKind.u64 (IntKind.u64.wrap (readV S kf (a + 4) 4 * 4294967296)) (readV S kf a 4)) = false := neqF (by rw [IntKind.wrap_u64]; exact e5)
          have e4' : a + 4 < 18446744073709551616 := e4
          clear e4 e5 e6 e7 e8 e9
          go_wp2_with fail
          refine (HR1.out _ hM.out).mono ?_
          rintro e w5 ⟨rfl, b5⟩
          have M5 := Lib.hid (hM.out.below b5)
          go_wp2_with fail
          refine (HR2.out _ M5.out).mono ?_
          rintro e w6 ⟨rfl, b6⟩
          have M6 := Lib.hid (M5.out.below b6)
          go_wp2_with fail
          refine (HR3.out _ M6.out).mono ?_
          rintro e w7 ⟨rfl, b7⟩
          go_wp2_with fail
          go_roundw
          case rel => exact ⟨8, by omega, rfl, below_call (below_call (below_call hB.out b5) b6) b7, M6.out.below b7⟩
          case measure => simp [intOf]
      · go_wp2_with fail
        refine (wakes_any _).mono ?_
        rintro e w5 ⟨rfl, b5⟩
        go_wp2
        go_ret
        exact ⟨rfl, below_call hB.out b5⟩

theorem memTails_walk (ca : Option Addr) (cl cc : Nat) (cz : List Int) (ka : Option Addr) (kl kc : Nat) (kz : List Int) (a : Int) (W : World) (rc : IsRow .u8 W ca cl cc cz) (rk : IsRow .u8 W ka kl kc kz) (ha : (Lit.int .u64 a).wf = true) :
    Calls Try.prog 7 #[.slice ca cl cc, .slice ka kl kc, .int .u64 a] W fun e w' => e = .returned (.bool true) ∧ Below W.heap.size W w' := by
  obtain ⟨a0, a1⟩ := bd_u64 ha
  by_cases h : 256 < cl ∨ 400 < kl
  · exact tails_long ca cl cc ka kl kc a W h
  · exact tails_main ca cl cc _ ka kl kc _ a W (src_of_isrow rc) (src_of_isrow rk) (by omega) (by omega) a0 a1
end Go.Proofs.Ytocjmckjepjfeaa
