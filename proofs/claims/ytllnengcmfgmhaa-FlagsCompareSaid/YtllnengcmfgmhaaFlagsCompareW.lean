/-
  The walk of the law FlagsCompare. (Written by gen_flt.py.)
-/
import Derived.Test.YtllnengcmfgmhaaFlagsTurnedW
import Derived.Test.YtllnengcmfgmhaaRefH
namespace Go.Proofs.Ytllnengcmfgmhaa.Flg
open Go Go.RowKit
set_option linter.unusedVariables false
set_option linter.unusedSimpArgs false
set_option linter.unnecessarySimpa false
set_option maxRecDepth 100000

def cmpL : List (Int × Int) := [(4, 0), (5, 1), (2, 4), (3, 3), (6, 5), (7, 2), (12, 8), (13, 7), (14, 9), (15, 6)]
theorem cmp_last (w : World) : PairsAt w.heap.size cmpL (w.alloc (.cells #[.int .i8 4, .int .i8 0, .int .i8 5, .int .i8 1, .int .i8 2, .int .i8 4, .int .i8 3, .int .i8 3, .int .i8 6, .int .i8 5, .int .i8 7, .int .i8 2, .int .i8 12, .int .i8 8, .int .i8 13, .int .i8 7, .int .i8 14, .int .i8 9, .int .i8 15, .int .i8 6] 39)) := by
  have h := heap_last w (.cells #[.int .i8 4, .int .i8 0, .int .i8 5, .int .i8 1, .int .i8 2, .int .i8 4, .int .i8 3, .int .i8 3, .int .i8 6, .int .i8 5, .int .i8 7, .int .i8 2, .int .i8 12, .int .i8 8, .int .i8 13, .int .i8 7, .int .i8 14, .int .i8 9, .int .i8 15, .int .i8 6] 39) _ rfl
  intro k p e
  have hk : k < 10 := (List.getElem?_eq_some_iff.1 e).1
  have : k = 0 ∨ k = 1 ∨ k = 2 ∨ k = 3 ∨ k = 4 ∨ k = 5 ∨ k = 6 ∨ k = 7 ∨ k = 8 ∨ k = 9 := by omega
  rcases this with rfl | rfl | rfl | rfl | rfl | rfl | rfl | rfl | rfl | rfl <;> (cases e; simp only [World.cell?, h]; exact ⟨rfl, rfl⟩)
theorem cmp_at {w : Int} (hl : longB w = true) {a b : Int} (k : Nat) (hk : k < 10) (ha : 0 ≤ a ∧ a < 18446744073709551616) (hb : 0 ≤ b ∧ b < 18446744073709551616) : ∃ p q X, cmpL[k]? = some (p, q) ∧ p ≤ 127 ∧ turnC p ≤ 127 ∧ holdsB q w a b = X ∧ holdsE q w = 0 ∧ holE p (subF w a b) = 0 ∧ holF p (subF w a b) = X ∧ mayC p = true ∧ holE (turnC p) (subF w a b) = 0 ∧ holF (turnC p) (subF w a b) = !X := by
  have i := sgn_inj hl ha hb
  have : k = 0 ∨ k = 1 ∨ k = 2 ∨ k = 3 ∨ k = 4 ∨ k = 5 ∨ k = 6 ∨ k = 7 ∨ k = 8 ∨ k = 9 := by omega
  rcases this with rfl | rfl | rfl | rfl | rfl | rfl | rfl | rfl | rfl | rfl
  all_goals (
    refine ⟨_, _, _, rfl, by decide, by decide, rfl, if_pos ⟨by decide, by decide, hl⟩, holE_sub hl a b rfl, ?_, rfl, holE_sub hl a b rfl, ?_⟩
    · rw [hol_cmp hl ha hb rfl, show ∀ q, 0 ≤ q ∧ q ≤ 10 → holdsB q w a b = ccB q w (cutI a w) (cutI b w) from fun q h => if_pos ⟨h.1, h.2, hl⟩] <;> first | rfl | decide
    · rw [show ∀ q, 0 ≤ q ∧ q ≤ 10 → holdsB q w a b = ccB q w (cutI a w) (cutI b w) from fun q h => if_pos ⟨h.1, h.2, hl⟩]
      · rw [hol_cmp hl ha hb rfl]
        generalize hu : cutI a w = u at *
        generalize hv : cutI b w = v at *
        unfold cmpB ccB turnC mayC
        simp only [hu, hv]
        generalize sgnI u w = x at *
        generalize sgnI v w = y at *
        simp
        try (rw [Bool.eq_iff_iff]; simp)
        try omega
      · decide)
theorem over_is {w : Int} (hl : longB w = true) (a b : Int) : addF w a b = ⟨true, decide (cutI (IntKind.u64.wrap (cutI a w + cutI b w)) w < cutI a w), cutI (IntKind.u64.wrap (cutI a w + cutI b w)) w == 0, negB w (addV w a b), (decide (sgnI (cutI a w) w < 0) == decide (sgnI (cutI b w) w < 0)) && (decide (sgnI (cutI (IntKind.u64.wrap (cutI a w + cutI b w)) w) w < 0) != decide (sgnI (cutI a w) w < 0))⟩ := by
  unfold addF aftF overA
  rw [if_pos hl, ← neg_cut hl a, ← neg_cut hl b, addV_is hl a b]
  rfl
theorem sg_w {w : Int} (hl : longB w = true) (v : Int) : wrap64 (signI v w) = sgnI v w := by
  rcases longB_cases hl with rfl | rfl
  · exact (IntWalk.i64_left _).symm.trans (wrap64_sign32 _)
  · exact (IntWalk.i64_left _).symm.trans (wrap64_sign64 _)
set_option maxHeartbeats 4000000 in
theorem compare_32 (a b : Int) (W : World) (ha : 0 ≤ a ∧ a < 18446744073709551616) (hb : 0 ≤ b ∧ b < 18446744073709551616) :
    Calls Try.prog 5 #[.bool false, .int .u64 a, .int .u64 b] W fun e w' => e = .returned (.bool true) ∧ Below W.heap.size W w' := by
  have S1 := Lib.hid (fun W => sub_n 32 a b W ha hb)
  rw [show errW 32 = 0 from rfl] at S1
  have WK := Lib.hid wakes_n
  have HA := Lib.hid ha
  have HB := Lib.hid hb
  clear ha hb
  go_enter Try.func5, Try.ntmps5
  go_wp2_with fail
  refine (S1.out _).mono ?_
  rintro e w1 ⟨rfl, b1⟩
  have B1 := Lib.hid b1
  clear b1
  go_wp2_with fail
  have A1 := Lib.hid ((FlAt.last w1 (subF 32 a b)).below (below_new (Below.refl _ _) (.cells #[.int .i8 4, .int .i8 0, .int .i8 5, .int .i8 1, .int .i8 2, .int .i8 4, .int .i8 3, .int .i8 3, .int .i8 6, .int .i8 5, .int .i8 7, .int .i8 2, .int .i8 12, .int .i8 8, .int .i8 13, .int .i8 7, .int .i8 14, .int .i8 9, .int .i8 15, .int .i8 6] 39)))
  have sz := size_alloc w1 (.cells (fC (subF 32 a b)) 25)
  have P1 := Lib.hid (cmp_last (w1.alloc (.cells (fC (subF 32 a b)) 25)))
  have B3 := Lib.hid (below_new (below_new B1.out (.cells (fC (subF 32 a b)) 25)) (.cells #[.int .i8 4, .int .i8 0, .int .i8 5, .int .i8 1, .int .i8 2, .int .i8 4, .int .i8 3, .int .i8 3, .int .i8 6, .int .i8 5, .int .i8 7, .int .i8 2, .int .i8 12, .int .i8 8, .int .i8 13, .int .i8 7, .int .i8 14, .int .i8 9, .int .i8 15, .int .i8 6] 39))
  rw [sz] at P1
  generalize (w1.alloc (.cells (fC (subF 32 a b)) 25)).alloc (.cells #[.int .i8 4, .int .i8 0, .int .i8 5, .int .i8 1, .int .i8 2, .int .i8 4, .int .i8 3, .int .i8 3, .int .i8 6, .int .i8 5, .int .i8 7, .int .i8 2, .int .i8 12, .int .i8 8, .int .i8 13, .int .i8 7, .int .i8 14, .int .i8 9, .int .i8 15, .int .i8 6] 39) = w3 at *
  clear sz
  generalize w1.heap.size = gf at *
  go_loopw [11] (fun i wr => ∃ k : Nat, k ≤ 10 ∧ i = .int .i64 k ∧ Below w3.heap.size w3 wr) (fun i _ => 10 - (intOf i).toNat)
  case atStart => exact ⟨0, by omega, rfl, Below.refl _ _⟩
  case round =>
    obtain ⟨k, hk, rfl, hB⟩ := hrel
    have HBB := Lib.hid hB
    clear hB
    by_cases hlt : k < 10
    · obtain ⟨p, q, X, hp, m1, m2, t1, t2, t3, t4, t5, t6, t7⟩ := cmp_at (w := 32) rfl k hlt HA.out HB.out
      have HD1 := Lib.hid (fun W => refholds_any q 32 a b W HA.out.1 HA.out.2 HB.out.1 HB.out.2)
      have HD2 := Lib.hid (fun W => holds_n p (subF 32 a b) W m1)
      have HD3 := Lib.hid (fun W => not_n p W m1)
      have HD4 := Lib.hid (fun W => holds_n (turnC p) (subF 32 a b) W m2)
      rw [t1, t2] at HD1
      rw [t3, t4] at HD2
      rw [t5] at HD3
      rw [t6, t7] at HD4
      clear t1 t2 t3 t4 t5 t6 t7 m1 m2
      generalize turnC p = tp at *
      obtain ⟨k1, k2⟩ := (P1.out.below HBB.out) k _ hp
      obtain ⟨f0, f1, f2, f3, f4⟩ := A1.out.below HBB.out
      clear hp
      cases X
      all_goals (
        go_wp2_with fail
        refine (HD1.out _).mono ?_
        rintro e wz ⟨rfl, rfl⟩
        go_wp2_with fail
        have KS := Lib.hid (fun w' (bq : Below wr.heap.size wr w') => show w'.cell? ⟨gf + 1, k * 2, none⟩ = some (.int .i8 p) ∧ w'.cell? ⟨gf, 0, none⟩ = some (.bool (subF 32 a b).k) ∧ w'.cell? ⟨gf, 1, none⟩ = some (.bool (subF 32 a b).c) ∧ w'.cell? ⟨gf, 2, none⟩ = some (.bool (subF 32 a b).z) ∧ w'.cell? ⟨gf, 3, none⟩ = some (.bool (subF 32 a b).s) ∧ w'.cell? ⟨gf, 4, none⟩ = some (.bool (subF 32 a b).o) ∧ Below wr.heap.size wr w' from by obtain ⟨q0, q1, q2, q3, q4⟩ := FlAt.below ⟨f0, f1, f2, f3, f4⟩ bq; exact ⟨(bq.cell (lt_cell k1)).trans k1, q0, q1, q2, q3, q4, bq⟩)
        go_region_held3 (fun w' => w'.cell? ⟨gf + 1, k * 2, none⟩ = some (.int .i8 p) ∧ w'.cell? ⟨gf, 0, none⟩ = some (.bool (subF 32 a b).k) ∧ w'.cell? ⟨gf, 1, none⟩ = some (.bool (subF 32 a b).c) ∧ w'.cell? ⟨gf, 2, none⟩ = some (.bool (subF 32 a b).z) ∧ w'.cell? ⟨gf, 3, none⟩ = some (.bool (subF 32 a b).s) ∧ w'.cell? ⟨gf, 4, none⟩ = some (.bool (subF 32 a b).o) ∧ Below wr.heap.size wr w') ((go_split_ands; refine KS.out _ ?_; repeat' (first | assumption | exact Below.refl _ _ | apply Below.drew | apply below_new | refine below_call ?_ (by assumption)))) (first | (go_at_call 18; refine (HD2.out _).mono ?_; rintro e w9 ⟨rfl, b9⟩))
        all_goals (
          have Q1 := Lib.hid (below_call (Below.drew (Below.refl wr.heap.size wr)) b9)
          clear b9
          obtain ⟨k1b, g0, g1, g2, g3, g4, Bq⟩ := KS.out _ Q1.out
          clear Bq
          go_wp2_with fail
          refine (HD3.out _).mono ?_
          rintro e w8 ⟨rfl, b8⟩
          have Q2 := Lib.hid (below_call Q1.out b8)
          clear b8 g0 g1 g2 g3 g4 k1b
          obtain ⟨k1c, g0, g1, g2, g3, g4, Bq⟩ := KS.out _ Q2.out
          clear Bq k1c
          go_wp2_with fail
          refine (HD4.out _).mono ?_
          rintro e w7 ⟨rfl, b7⟩
          have Q3 := Lib.hid (below_call Q2.out b7)
          clear b7
          go_wp2_with fail
          go_roundw
          case rel => exact ⟨k + 1, by omega, by go_num, below_call HBB.out Q3.out⟩
          case measure => simp [intOf]; omega))
    · obtain rfl : k = 10 := by omega
      have AD := Lib.hid (fun W => add_n 32 a b W HA.out HB.out)
      have RA := Lib.hid (fun W => refcut_any a 32 W)
      have RB := Lib.hid (fun W => refcut_any b 32 W)
      rw [over_is rfl, show errW 32 = 0 from rfl] at AD
      have ns : negB 32 (addV 32 a b) = negB 32 (addV 32 a b) := rfl
      generalize negB 32 (addV 32 a b) = nn at *
      have TA := Lib.hid (fun W => refsign_any (cutI a 32) 32 W)
      have TB := Lib.hid (fun W => refsign_any (cutI b 32) 32 W)
      have va := sg_w (w := 32) rfl (cutI a 32)
      have vb := sg_w (w := 32) rfl (cutI b 32)
      generalize signI (cutI a 32) 32 = ga at *
      generalize signI (cutI b 32) 32 = gb at *
      generalize sgnI (cutI a 32) 32 = xa at *
      generalize sgnI (cutI b 32) 32 = xb at *
      generalize cutI a 32 = ca at *
      generalize cutI b 32 = cb at *
      have RS := Lib.hid (fun W => refcut_any (IntKind.u64.wrap (ca + cb)) 32 W)
      have TS := Lib.hid (fun W => refsign_any (cutI (IntKind.u64.wrap (ca + cb)) 32) 32 W)
      have vs := sg_w (w := 32) rfl (cutI (IntKind.u64.wrap (ca + cb)) 32)
      generalize signI (cutI (IntKind.u64.wrap (ca + cb)) 32) 32 = gs at *
      generalize sgnI (cutI (IntKind.u64.wrap (ca + cb)) 32) 32 = xs at *
      generalize cutI (IntKind.u64.wrap (ca + cb)) 32 = cs at *
      clear ns HA HB S1
      cases ea : decide (xa < 0) <;> cases eb : decide (xb < 0) <;> cases es : decide (xs < 0)
      all_goals (
        rw [ea, eb, es] at AD
        go_wp2_with fail
        refine (AD.out _).mono ?_
        rintro e w8 ⟨rfl, b8⟩
        have Q3 := Lib.hid (below_call B3.out (below_call HBB.out b8))
        clear b8
        go_wp2_with (first | (go_at_call 25; with_reducible refine (RA.out _).mono ?_; rintro e w9 ⟨rfl, rfl⟩) | (go_at_call 25; with_reducible refine (RB.out _).mono ?_; rintro e w9 ⟨rfl, rfl⟩) | (go_at_call 25; with_reducible refine (RS.out _).mono ?_; rintro e w9 ⟨rfl, rfl⟩) | (go_at_call 26; with_reducible refine (TA.out _).mono ?_; rintro e w9 ⟨rfl, rfl⟩) | (go_at_call 26; with_reducible refine (TB.out _).mono ?_; rintro e w9 ⟨rfl, rfl⟩) | (go_at_call 26; with_reducible refine (TS.out _).mono ?_; rintro e w9 ⟨rfl, rfl⟩))
        refine (WK.out _).mono ?_
        rintro e w7 ⟨rfl, b7⟩
        go_wp2_with fail
        go_ret
        exact ⟨rfl, below_call (below_new Q3.out _) b7⟩)
set_option maxHeartbeats 4000000 in
theorem compare_64 (a b : Int) (W : World) (ha : 0 ≤ a ∧ a < 18446744073709551616) (hb : 0 ≤ b ∧ b < 18446744073709551616) :
    Calls Try.prog 5 #[.bool true, .int .u64 a, .int .u64 b] W fun e w' => e = .returned (.bool true) ∧ Below W.heap.size W w' := by
  have S1 := Lib.hid (fun W => sub_n 64 a b W ha hb)
  rw [show errW 64 = 0 from rfl] at S1
  have WK := Lib.hid wakes_n
  have HA := Lib.hid ha
  have HB := Lib.hid hb
  clear ha hb
  go_enter Try.func5, Try.ntmps5
  go_wp2_with fail
  refine (S1.out _).mono ?_
  rintro e w1 ⟨rfl, b1⟩
  have B1 := Lib.hid b1
  clear b1
  go_wp2_with fail
  have A1 := Lib.hid ((FlAt.last w1 (subF 64 a b)).below (below_new (Below.refl _ _) (.cells #[.int .i8 4, .int .i8 0, .int .i8 5, .int .i8 1, .int .i8 2, .int .i8 4, .int .i8 3, .int .i8 3, .int .i8 6, .int .i8 5, .int .i8 7, .int .i8 2, .int .i8 12, .int .i8 8, .int .i8 13, .int .i8 7, .int .i8 14, .int .i8 9, .int .i8 15, .int .i8 6] 39)))
  have sz := size_alloc w1 (.cells (fC (subF 64 a b)) 25)
  have P1 := Lib.hid (cmp_last (w1.alloc (.cells (fC (subF 64 a b)) 25)))
  have B3 := Lib.hid (below_new (below_new B1.out (.cells (fC (subF 64 a b)) 25)) (.cells #[.int .i8 4, .int .i8 0, .int .i8 5, .int .i8 1, .int .i8 2, .int .i8 4, .int .i8 3, .int .i8 3, .int .i8 6, .int .i8 5, .int .i8 7, .int .i8 2, .int .i8 12, .int .i8 8, .int .i8 13, .int .i8 7, .int .i8 14, .int .i8 9, .int .i8 15, .int .i8 6] 39))
  rw [sz] at P1
  generalize (w1.alloc (.cells (fC (subF 64 a b)) 25)).alloc (.cells #[.int .i8 4, .int .i8 0, .int .i8 5, .int .i8 1, .int .i8 2, .int .i8 4, .int .i8 3, .int .i8 3, .int .i8 6, .int .i8 5, .int .i8 7, .int .i8 2, .int .i8 12, .int .i8 8, .int .i8 13, .int .i8 7, .int .i8 14, .int .i8 9, .int .i8 15, .int .i8 6] 39) = w3 at *
  clear sz
  generalize w1.heap.size = gf at *
  go_loopw [11] (fun i wr => ∃ k : Nat, k ≤ 10 ∧ i = .int .i64 k ∧ Below w3.heap.size w3 wr) (fun i _ => 10 - (intOf i).toNat)
  case atStart => exact ⟨0, by omega, rfl, Below.refl _ _⟩
  case round =>
    obtain ⟨k, hk, rfl, hB⟩ := hrel
    have HBB := Lib.hid hB
    clear hB
    by_cases hlt : k < 10
    · obtain ⟨p, q, X, hp, m1, m2, t1, t2, t3, t4, t5, t6, t7⟩ := cmp_at (w := 64) rfl k hlt HA.out HB.out
      have HD1 := Lib.hid (fun W => refholds_any q 64 a b W HA.out.1 HA.out.2 HB.out.1 HB.out.2)
      have HD2 := Lib.hid (fun W => holds_n p (subF 64 a b) W m1)
      have HD3 := Lib.hid (fun W => not_n p W m1)
      have HD4 := Lib.hid (fun W => holds_n (turnC p) (subF 64 a b) W m2)
      rw [t1, t2] at HD1
      rw [t3, t4] at HD2
      rw [t5] at HD3
      rw [t6, t7] at HD4
      clear t1 t2 t3 t4 t5 t6 t7 m1 m2
      generalize turnC p = tp at *
      obtain ⟨k1, k2⟩ := (P1.out.below HBB.out) k _ hp
      obtain ⟨f0, f1, f2, f3, f4⟩ := A1.out.below HBB.out
      clear hp
      cases X
      all_goals (
        go_wp2_with fail
        refine (HD1.out _).mono ?_
        rintro e wz ⟨rfl, rfl⟩
        go_wp2_with fail
        have KS := Lib.hid (fun w' (bq : Below wr.heap.size wr w') => show w'.cell? ⟨gf + 1, k * 2, none⟩ = some (.int .i8 p) ∧ w'.cell? ⟨gf, 0, none⟩ = some (.bool (subF 64 a b).k) ∧ w'.cell? ⟨gf, 1, none⟩ = some (.bool (subF 64 a b).c) ∧ w'.cell? ⟨gf, 2, none⟩ = some (.bool (subF 64 a b).z) ∧ w'.cell? ⟨gf, 3, none⟩ = some (.bool (subF 64 a b).s) ∧ w'.cell? ⟨gf, 4, none⟩ = some (.bool (subF 64 a b).o) ∧ Below wr.heap.size wr w' from by obtain ⟨q0, q1, q2, q3, q4⟩ := FlAt.below ⟨f0, f1, f2, f3, f4⟩ bq; exact ⟨(bq.cell (lt_cell k1)).trans k1, q0, q1, q2, q3, q4, bq⟩)
        go_region_held3 (fun w' => w'.cell? ⟨gf + 1, k * 2, none⟩ = some (.int .i8 p) ∧ w'.cell? ⟨gf, 0, none⟩ = some (.bool (subF 64 a b).k) ∧ w'.cell? ⟨gf, 1, none⟩ = some (.bool (subF 64 a b).c) ∧ w'.cell? ⟨gf, 2, none⟩ = some (.bool (subF 64 a b).z) ∧ w'.cell? ⟨gf, 3, none⟩ = some (.bool (subF 64 a b).s) ∧ w'.cell? ⟨gf, 4, none⟩ = some (.bool (subF 64 a b).o) ∧ Below wr.heap.size wr w') ((go_split_ands; refine KS.out _ ?_; repeat' (first | assumption | exact Below.refl _ _ | apply Below.drew | apply below_new | refine below_call ?_ (by assumption)))) (first | (go_at_call 18; refine (HD2.out _).mono ?_; rintro e w9 ⟨rfl, b9⟩))
        all_goals (
          have Q1 := Lib.hid (below_call (Below.drew (Below.refl wr.heap.size wr)) b9)
          clear b9
          obtain ⟨k1b, g0, g1, g2, g3, g4, Bq⟩ := KS.out _ Q1.out
          clear Bq
          go_wp2_with fail
          refine (HD3.out _).mono ?_
          rintro e w8 ⟨rfl, b8⟩
          have Q2 := Lib.hid (below_call Q1.out b8)
          clear b8 g0 g1 g2 g3 g4 k1b
          obtain ⟨k1c, g0, g1, g2, g3, g4, Bq⟩ := KS.out _ Q2.out
          clear Bq k1c
          go_wp2_with fail
          refine (HD4.out _).mono ?_
          rintro e w7 ⟨rfl, b7⟩
          have Q3 := Lib.hid (below_call Q2.out b7)
          clear b7
          go_wp2_with fail
          go_roundw
          case rel => exact ⟨k + 1, by omega, by go_num, below_call HBB.out Q3.out⟩
          case measure => simp [intOf]; omega))
    · obtain rfl : k = 10 := by omega
      have AD := Lib.hid (fun W => add_n 64 a b W HA.out HB.out)
      have RA := Lib.hid (fun W => refcut_any a 64 W)
      have RB := Lib.hid (fun W => refcut_any b 64 W)
      rw [over_is rfl, show errW 64 = 0 from rfl] at AD
      have ns : negB 64 (addV 64 a b) = negB 64 (addV 64 a b) := rfl
      generalize negB 64 (addV 64 a b) = nn at *
      have TA := Lib.hid (fun W => refsign_any (cutI a 64) 64 W)
      have TB := Lib.hid (fun W => refsign_any (cutI b 64) 64 W)
      have va := sg_w (w := 64) rfl (cutI a 64)
      have vb := sg_w (w := 64) rfl (cutI b 64)
      generalize signI (cutI a 64) 64 = ga at *
      generalize signI (cutI b 64) 64 = gb at *
      generalize sgnI (cutI a 64) 64 = xa at *
      generalize sgnI (cutI b 64) 64 = xb at *
      generalize cutI a 64 = ca at *
      generalize cutI b 64 = cb at *
      have RS := Lib.hid (fun W => refcut_any (IntKind.u64.wrap (ca + cb)) 64 W)
      have TS := Lib.hid (fun W => refsign_any (cutI (IntKind.u64.wrap (ca + cb)) 64) 64 W)
      have vs := sg_w (w := 64) rfl (cutI (IntKind.u64.wrap (ca + cb)) 64)
      generalize signI (cutI (IntKind.u64.wrap (ca + cb)) 64) 64 = gs at *
      generalize sgnI (cutI (IntKind.u64.wrap (ca + cb)) 64) 64 = xs at *
      generalize cutI (IntKind.u64.wrap (ca + cb)) 64 = cs at *
      clear ns HA HB S1
      cases ea : decide (xa < 0) <;> cases eb : decide (xb < 0) <;> cases es : decide (xs < 0)
      all_goals (
        rw [ea, eb, es] at AD
        go_wp2_with fail
        refine (AD.out _).mono ?_
        rintro e w8 ⟨rfl, b8⟩
        have Q3 := Lib.hid (below_call B3.out (below_call HBB.out b8))
        clear b8
        go_wp2_with (first | (go_at_call 25; with_reducible refine (RA.out _).mono ?_; rintro e w9 ⟨rfl, rfl⟩) | (go_at_call 25; with_reducible refine (RB.out _).mono ?_; rintro e w9 ⟨rfl, rfl⟩) | (go_at_call 25; with_reducible refine (RS.out _).mono ?_; rintro e w9 ⟨rfl, rfl⟩) | (go_at_call 26; with_reducible refine (TA.out _).mono ?_; rintro e w9 ⟨rfl, rfl⟩) | (go_at_call 26; with_reducible refine (TB.out _).mono ?_; rintro e w9 ⟨rfl, rfl⟩) | (go_at_call 26; with_reducible refine (TS.out _).mono ?_; rintro e w9 ⟨rfl, rfl⟩))
        refine (WK.out _).mono ?_
        rintro e w7 ⟨rfl, b7⟩
        go_wp2_with fail
        go_ret
        exact ⟨rfl, below_call (below_new Q3.out _) b7⟩)
theorem compare_law (wide : Bool) (a b : Int) (W : World) (ha : (Lit.int .u64 a).wf = true) (hb : (Lit.int .u64 b).wf = true) : Calls Try.prog 5 #[.bool wide, .int .u64 a, .int .u64 b] W fun e w' => e = .returned (.bool true) ∧ Below W.heap.size W w' := by
  cases wide
  · exact compare_32 a b W (bd_u64 ha) (bd_u64 hb)
  · exact compare_64 a b W (bd_u64 ha) (bd_u64 hb)
end Go.Proofs.Ytllnengcmfgmhaa.Flg
