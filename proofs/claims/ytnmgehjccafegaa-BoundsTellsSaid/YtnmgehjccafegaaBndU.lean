/-
  The document's own answer for layer 7: Do. (Written by gen_bndd.py.)
-/
import Derived.Test.YtnmgehjccafegaaBndK
import Derived.Test.YtnmgehjccafegaaBndS
namespace Go.Proofs.Ytnmgehjccafegaa.Bnd
open Go.RowKit
set_option linter.unusedVariables false
set_option linter.unusedSimpArgs false
set_option linter.unnecessarySimpa false
set_option maxRecDepth 100000

theorem faRU60_1_0 (g : Nat) (w : World) : (Instr.fieldAt 60 (.pointer (some ⟨g, 0, none⟩)) 1).run Try.prog w = .ok (.pointer (some ⟨g, 1, none⟩)) w := by simp [go_sem]
theorem faRU60_0_0 (g : Nat) (w : World) : (Instr.fieldAt 60 (.pointer (some ⟨g, 0, none⟩)) 0).run Try.prog w = .ok (.pointer (some ⟨g, 0, none⟩)) w := by simp [go_sem]
theorem faRU60_2_0 (g : Nat) (w : World) : (Instr.fieldAt 60 (.pointer (some ⟨g, 0, none⟩)) 2).run Try.prog w = .ok (.pointer (some ⟨g, 2, none⟩)) w := by simp [go_sem]
theorem faRU60_3_0 (g : Nat) (w : World) : (Instr.fieldAt 60 (.pointer (some ⟨g, 0, none⟩)) 3).run Try.prog w = .ok (.pointer (some ⟨g, 3, none⟩)) w := by simp [go_sem]

theorem nar_via {op : Int} {x y z D : Rg} (hd : (⟨doU op x y, doS op x y⟩ : Rg) = z ∧ D = Rg.doR op x y) (hx : x.Ok) (hy : y.Ok) (mx : x.mayB = true) (my : y.mayB = true) (W : World) : Calls Try.prog 87 #[.agg #[.int .u64 z.u.lo, .int .u64 z.u.hi, .int .i64 z.s.lo, .int .i64 z.s.hi]] W fun e w' => e = .returned (.agg #[.int .u64 (D).u.lo, .int .u64 (D).u.hi, .int .i64 (D).s.lo, .int .i64 (D).s.hi]) ∧ Below W.heap.size W w' := by
  obtain ⟨hd, e0⟩ := hd
  have h := do_ok op hx hy my
  rw [hd] at h
  have e : D = z.nar := by rw [e0]; unfold Rg.doR; rw [mx, my, if_pos (by rfl), hd]
  rw [e]
  exact rnarrowed_n z.u.lo z.u.hi z.s.lo z.s.hi W h
theorem nar_mov {op : Int} {x y z D : Rg} (hd : (⟨doU op x y, doS op x y⟩ : Rg) = z) (eD : D = Rg.doR op x y) (hx : x.Ok) (hy : y.Ok) (mx : x.mayB = true) (my : y.mayB = true) (W : World) : Calls Try.prog 87 #[.agg #[.int .u64 z.u.lo, .int .u64 z.u.hi, .int .i64 z.s.lo, .int .i64 z.s.hi]] W fun e w' => e = .returned (.agg #[.int .u64 (D).u.lo, .int .u64 (D).u.hi, .int .i64 (D).s.lo, .int .i64 (D).s.hi]) ∧ Below W.heap.size W w' := nar_via ⟨hd, eD⟩ hx hy mx my W

set_option maxHeartbeats 40000000 in
theorem rdo_n (op a b c d p q r t : Int) (W : World) (ha : Rg.Ok ⟨⟨a, b⟩, ⟨c, d⟩⟩) (hb : Rg.Ok ⟨⟨p, q⟩, ⟨r, t⟩⟩) : Calls Try.prog 40 #[.int .i8 op, .agg #[.int .u64 a, .int .u64 b, .int .i64 c, .int .i64 d], .agg #[.int .u64 p, .int .u64 q, .int .i64 r, .int .i64 t]] W fun e w' => e = .returned (.agg #[.int .u64 (Rg.doR op ⟨⟨a, b⟩, ⟨c, d⟩⟩ ⟨⟨p, q⟩, ⟨r, t⟩⟩).u.lo, .int .u64 (Rg.doR op ⟨⟨a, b⟩, ⟨c, d⟩⟩ ⟨⟨p, q⟩, ⟨r, t⟩⟩).u.hi, .int .i64 (Rg.doR op ⟨⟨a, b⟩, ⟨c, d⟩⟩ ⟨⟨p, q⟩, ⟨r, t⟩⟩).s.lo, .int .i64 (Rg.doR op ⟨⟨a, b⟩, ⟨c, d⟩⟩ ⟨⟨p, q⟩, ⟨r, t⟩⟩).s.hi]) ∧ Below W.heap.size W w' := by
  have HA := Lib.hid ha
  have HB := Lib.hid hb
  have HO : Hid (((0 ≤ a ∧ a < 18446744073709551616) ∧ 0 ≤ b ∧ b < 18446744073709551616) ∧ (0 ≤ p ∧ p < 18446744073709551616) ∧ 0 ≤ q ∧ q < 18446744073709551616) := Lib.hid ⟨ha.1, hb.1⟩
  have HS : Hid (((inS c) ∧ inS d) ∧ inS r ∧ inS t) := Lib.hid ⟨ha.2, hb.2⟩
  have ok := HO.out
  have ok2 := HS.out
  simp only [inS] at ok2
  have HM1 : Hid (Rg.mayB ⟨⟨a, b⟩, ⟨c, d⟩⟩ = true → Rg.mayB ⟨⟨p, q⟩, ⟨r, t⟩⟩ = true → a ≤ b ∧ p ≤ q) := Lib.hid (fun h h' => ⟨((may_iff _).1 h).1, ((may_iff _).1 h').1⟩)
  have HV : Hid (0 ≤ Rg.oneV ⟨⟨p, q⟩, ⟨r, t⟩⟩) := Lib.hid (by show 0 ≤ (if Rg.oneB ⟨⟨p, q⟩, ⟨r, t⟩⟩ then p else 0); split <;> omega)
  have hv := HV.out
  have HN : Hid (0 ≤ (Rg.oneV ⟨⟨p, q⟩, ⟨r, t⟩⟩) % 64 ∧ (Rg.oneV ⟨⟨p, q⟩, ⟨r, t⟩⟩) % 64 ≤ 64) := Lib.hid (by omega)
  have HP1 : Hid (decide (0 < p) = true → ¬ p = 0) := Lib.hid (fun h => by have := of_decide_eq_true h; omega)
  have HP0 : Hid (decide (0 < p) = false → p = 0) := Lib.hid (fun h => by have := of_decide_eq_false h; omega)
  have HPU1 : Hid (Rg.mayB ⟨⟨a, b⟩, ⟨c, d⟩⟩ = true → Rg.mayB ⟨⟨p, q⟩, ⟨r, t⟩⟩ = true → decide (b ≤ (IntKind.u64.wrap (b + q))) = true → plusU ⟨a, b⟩ ⟨p, q⟩ = ⟨IntKind.u64.wrap (a + p), IntKind.u64.wrap (b + q)⟩) := Lib.hid (fun h1 h2 h => by
    have m := HM1.out h1 h2
    have := of_decide_eq_true h
    rw [IntKind.wrap_u64] at this
    unfold plusU
    rw [if_pos (by dsimp only; omega), IntKind.wrap_u64, IntKind.wrap_u64, Int.emod_eq_of_lt (by omega) (by omega), Int.emod_eq_of_lt (by omega) (by omega)])
  have HPU0 : Hid (Rg.mayB ⟨⟨a, b⟩, ⟨c, d⟩⟩ = true → Rg.mayB ⟨⟨p, q⟩, ⟨r, t⟩⟩ = true → decide (b ≤ (IntKind.u64.wrap (b + q))) = false → plusU ⟨a, b⟩ ⟨p, q⟩ = allU) := Lib.hid (fun h1 h2 h => by
    have := of_decide_eq_false h
    rw [IntKind.wrap_u64] at this
    unfold plusU
    rw [if_neg (by dsimp only; omega)])
  have HMU1 : Hid (Rg.mayB ⟨⟨a, b⟩, ⟨c, d⟩⟩ = true → Rg.mayB ⟨⟨p, q⟩, ⟨r, t⟩⟩ = true → decide (q ≤ a) = true → minusU ⟨a, b⟩ ⟨p, q⟩ = ⟨IntKind.u64.wrap (a - q), IntKind.u64.wrap (b - p)⟩) := Lib.hid (fun h1 h2 h => by
    have m := HM1.out h1 h2
    have := of_decide_eq_true h
    unfold minusU
    rw [if_pos (by dsimp only; omega), IntKind.wrap_u64, IntKind.wrap_u64, Int.emod_eq_of_lt (by omega) (by omega), Int.emod_eq_of_lt (by omega) (by omega)])
  have HMU0 : Hid (Rg.mayB ⟨⟨a, b⟩, ⟨c, d⟩⟩ = true → Rg.mayB ⟨⟨p, q⟩, ⟨r, t⟩⟩ = true → decide (q ≤ a) = false → minusU ⟨a, b⟩ ⟨p, q⟩ = allU) := Lib.hid (fun h1 h2 h => by
    have := of_decide_eq_false h
    unfold minusU
    rw [if_neg (by dsimp only; omega)])
  have HPS1 : Hid (sumS c r = true → sumS d t = true → plusS ⟨c, d⟩ ⟨r, t⟩ = ⟨IntKind.i64.wrap (c + r), IntKind.i64.wrap (d + t)⟩) := Lib.hid (fun h1 h2 => by
    have i1 := of_decide_eq_true h1
    have i2 := of_decide_eq_true h2
    unfold plusS
    rw [if_pos ⟨i1, i2⟩]
    unfold inS at i1 i2
    simp only [IntKind.wrap_i64, Pr.mk.injEq]
    omega)
  have HPS0 : Hid (sumS c r = false → plusS ⟨c, d⟩ ⟨r, t⟩ = allS) := Lib.hid (fun h1 => by unfold plusS; rw [if_neg (fun h => of_decide_eq_false h1 h.1)])
  have HPS2 : Hid (sumS d t = false → plusS ⟨c, d⟩ ⟨r, t⟩ = allS) := Lib.hid (fun h1 => by unfold plusS; rw [if_neg (fun h => of_decide_eq_false h1 h.2)])
  have HMS1 : Hid (difS c t = true → difS d r = true → minusS ⟨c, d⟩ ⟨r, t⟩ = ⟨IntKind.i64.wrap (c - t), IntKind.i64.wrap (d - r)⟩) := Lib.hid (fun h1 h2 => by
    have i1 := of_decide_eq_true h1
    have i2 := of_decide_eq_true h2
    unfold minusS
    rw [if_pos ⟨i1, i2⟩]
    unfold inS at i1 i2
    simp only [IntKind.wrap_i64, Pr.mk.injEq]
    omega)
  have HMS0 : Hid (difS c t = false → minusS ⟨c, d⟩ ⟨r, t⟩ = allS) := Lib.hid (fun h1 => by unfold minusS; rw [if_neg (fun h => of_decide_eq_false h1 h.1)])
  have HMS2 : Hid (difS d r = false → minusS ⟨c, d⟩ ⟨r, t⟩ = allS) := Lib.hid (fun h1 => by unfold minusS; rw [if_neg (fun h => of_decide_eq_false h1 h.2)])
  have HQ : Hid (Rg.mayB ⟨⟨a, b⟩, ⟨c, d⟩⟩ = true → Rg.mayB ⟨⟨p, q⟩, ⟨r, t⟩⟩ = true → decide (0 < p) = true → 0 < q ∧ 0 < p) := Lib.hid (fun h1 h2 h => by
    have m := HM1.out h1 h2
    have := of_decide_eq_true h
    omega)
  have HR : Hid (0 ≤ max b q ∧ max b q < 18446744073709551616) := Lib.hid (by omega)
  have HR2 : Hid (onesI (b.toNat ||| q.toNat) = onesI (Int.toNat (max b q))) := Lib.hid (by unfold onesI; rw [lenN_or, show max b.toNat q.toNat = Int.toNat (max b q) by omega])
  have HM : Hid (Rg.mayB ⟨⟨a, b⟩, ⟨c, d⟩⟩ = true → Rg.mayB ⟨⟨p, q⟩, ⟨r, t⟩⟩ = true → decide (0 < p) = true → min b (IntKind.u64.wrap (q - 1)) = min b (q - 1)) := Lib.hid (fun h1 h2 h => by rw [IntKind.wrap_u64, Int.emod_eq_of_lt (by have := (HQ.out h1 h2 h).1; omega) (by omega)])
  have by_ : ((Rg.oneV ⟨⟨p, q⟩, ⟨r, t⟩⟩) % 64).toNat = byN ⟨⟨p, q⟩, ⟨r, t⟩⟩ := rfl
  have pn := pw (byN ⟨⟨p, q⟩, ⟨r, t⟩⟩)
  have HF : Hid (((((b * 2 ^ Int.toNat ((Rg.oneV ⟨⟨p, q⟩, ⟨r, t⟩⟩) % 64)) % 18446744073709551616) / 2 ^ Int.toNat ((Rg.oneV ⟨⟨p, q⟩, ⟨r, t⟩⟩) % 64)) == b) = decide (b * 2 ^ byN ⟨⟨p, q⟩, ⟨r, t⟩⟩ < 18446744073709551616)) := Lib.hid (by
    rw [by_]
    generalize byN ⟨⟨p, q⟩, ⟨r, t⟩⟩ = n at pn
    have nb := mulp_nn (a := b) (by omega) n
    rw [Bool.eq_iff_iff, beq_iff_eq, decide_eq_true_eq]
    constructor
    · intro h
      have l := Int.ediv_mul_le (b * 2 ^ n % 18446744073709551616) (show (2 : Int) ^ n ≠ 0 by omega)
      rw [h] at l
      have := Int.emod_lt_of_pos (b * 2 ^ n) (show (0 : Int) < 18446744073709551616 by omega)
      omega
    · intro h
      rw [Int.emod_eq_of_lt nb h, Int.mul_ediv_cancel _ (by omega)])
  have HG : Hid (((((b * 2 ^ Int.toNat ((Rg.oneV ⟨⟨p, q⟩, ⟨r, t⟩⟩) % 64)) % 18446744073709551616) / 2 ^ Int.toNat ((Rg.oneV ⟨⟨p, q⟩, ⟨r, t⟩⟩) % 64)) == b) = true → (⟨a * 2 ^ byN ⟨⟨p, q⟩, ⟨r, t⟩⟩ % 18446744073709551616, b * 2 ^ byN ⟨⟨p, q⟩, ⟨r, t⟩⟩⟩ : Pr) = ⟨(a * 2 ^ Int.toNat ((Rg.oneV ⟨⟨p, q⟩, ⟨r, t⟩⟩) % 64)) % 18446744073709551616, (b * 2 ^ Int.toNat ((Rg.oneV ⟨⟨p, q⟩, ⟨r, t⟩⟩) % 64)) % 18446744073709551616⟩) := Lib.hid (fun h => by
    rw [HF.out, decide_eq_true_eq] at h
    have nb := mulp_nn (a := b) (by omega) (byN ⟨⟨p, q⟩, ⟨r, t⟩⟩)
    rw [by_, Int.emod_eq_of_lt nb h])
  obtain ⟨D, eD⟩ : ∃ D, D = Rg.doR op ⟨⟨a, b⟩, ⟨c, d⟩⟩ ⟨⟨p, q⟩, ⟨r, t⟩⟩ := ⟨_, rfl⟩
  have ED := Lib.hid eD
  rw [← eD]
  clear ok ok2 hv by_ pn ha hb eD
  refine calls_abs Try.func40 rfl (Nat.le_of_ble_eq_true rfl) ?_
  intro a0 d0 z0 h0
  replace z0 : a0.tmps.size = 239 := z0
  have s0_0 : a0.tmps.getD 0 undef = .int .i8 op := h0 0 (Nat.le_of_ble_eq_true rfl)
  have s1_0 : a0.tmps.getD 1 undef = .agg (cR a b c d) := h0 1 (Nat.le_of_ble_eq_true rfl)
  have s2_0 : a0.tmps.getD 2 undef = .agg (cR p q r t) := h0 2 (Nat.le_of_ble_eq_true rfl)
  refine wp_seq ?_
  refine go_reg [] [⟨0, 4, 60, (cR a b c d), none, #[]⟩, ⟨1, 5, 60, (cR p q r t), none, #[]⟩, ⟨2, 6, 60, (cR 0 0 0 0), none, #[]⟩] [none, none, none] mo d0 z0 (Below.refl _ _) (by kernel_rfl) trivial (
   hc (fun _ ax _ cx => cx.al (wn rfl) 0 rfl (by simp [execOp, Act.eval, (show ax.tmps.getD 1 undef = .agg (cR a b c d) from (cx.rq 1 s1_0)), go_sem]) rfl rfl rfl rfl rfl trivial) <|
   hc (fun _ ax _ cx => cx.al (wn rfl) 1 rfl (by simp [execOp, Act.eval, (show ax.tmps.getD 2 undef = .agg (cR p q r t) from (cx.rq 2 s2_0)), go_sem]) rfl rfl rfl rfl rfl trivial) <|
   hk (fun cx => cx.al (wn rfl) 2 rfl (by simp [execOp, Act.eval, go_sem]) rfl rfl rfl rfl rfl trivial) <|
   hn) ?_
  intro a1 w1 f1
  obtain ⟨g1, u_g1, q_g1, b_g1⟩ := f1.al.1
  obtain ⟨g2, u_g2, q_g2, b_g2⟩ := f1.al.2.1
  obtain ⟨g3, u_g3, q_g3, b_g3⟩ := f1.al.2.2.1
  refine wp_seq ?_
  refine go_reg [] [⟨1, 7, 60, (cR 0 0 0 0), some 2, (cR allR.u.lo allR.u.hi allR.s.lo allR.s.hi)⟩] [some (.agg (cR allR.u.lo allR.u.hi allR.s.lo allR.s.hi)), none, none] mo f1.d f1.z f1.b (by kernel_rfl) trivial (
   hc (fun _ _ wx cx => cx.c rfl (args0 ) Try.func30 (by decide +kernel) (rall_n wx) rfl rfl) <|
   hk (fun cx => cx.al (wn rfl) 0 rfl (by simp [execOp, Act.eval, go_sem]) rfl rfl rfl rfl (by kernel_rfl) trivial) <|
   hk (fun cx => cx.stA (wn rfl) rfl rfl 0 0 rfl rfl rfl rfl (cx.u 1 rfl) (by kernel_rfl) rfl (by simp [Value.oneCell']) f1.b.size rfl rfl trivial) <|
   hn) ?_
  intro a2 w2 f2
  obtain ⟨g4, u_g4, q_g4, b_g4⟩ := f2.al.1
  refine wp_seq ?_
  refine wp_seq ?_
  cases fk1 : Rg.mayB ⟨⟨a, b⟩, ⟨c, d⟩⟩
  case false =>
   have Ffk1 := Lib.hid fk1; clear fk1
   have b_g1_1 := f2.k b_g1
   have s4_2 := f2.q 4 u_g1
   refine go_reg [bx g1 60 (cR a b c d)] [] [some (.agg (cR a b c d)), some (.bool false), some (.bool true), some (.bool true), some (undef), some (undef), some (undef), some (.bool true)] mo f2.d f2.z f2.b (by kernel_rfl) ⟨b_g1_1, trivial⟩ (
    hk (fun cx => cx.v (ldR rfl (cx.rq 4 s4_2) (cx.rn 0 rfl)) rfl rfl) <|
    hc (fun _ _ wx cx => cx.c rfl (args1 (cx.u 0 rfl)) Try.func28 (by decide +kernel) (rmay_n a b c d wx) rfl (congrArg Value.bool Ffk1.out)) <|
    hk (fun cx => cx.v (ex_not (x := .tmp 20) rfl (cx.u 0 rfl)) rfl rfl) <|
    hk (fun cx => cx.v (ex_mv rfl (cx.u 0 rfl)) rfl rfl) <|
    hk (fun cx => cx.no (cx.wo rfl rfl rfl rfl (cx.u 0 rfl) rfl) rfl rfl rfl rfl) <|
    hk (fun cx => cx.no (cx.wo rfl rfl rfl rfl (cx.u 1 rfl) rfl) rfl rfl rfl rfl) <|
    hk (fun cx => cx.no (cx.wo rfl rfl rfl rfl (cx.u 1 rfl) rfl) rfl rfl rfl rfl) <|
    hk (fun cx => cx.v (ex_pt rfl (cx.u 0 rfl) rfl) rfl rfl) <|
    hn) ?_
   intro a3 w3 f3
   refine wp_cond_true (f3.v 7 rfl rfl rfl) ?_
   refine wp_seq ?_
   have b_g4_3 := f3.k b_g4
   have b_g3_4 := f3.k (f2.k b_g3)
   have s7_5 := f3.q 7 u_g4
   have s6_6 := f3.q 6 (f2.q 6 u_g3)
   refine go_reg [bx g4 60 (cR allR.u.lo allR.u.hi allR.s.lo allR.s.hi), ⟨g3, 60, (cR 0 0 0 0), some 1, (cR allR.u.lo allR.u.hi allR.s.lo allR.s.hi)⟩] [] [some (.agg (cR allR.u.lo allR.u.hi allR.s.lo allR.s.hi)), none] mo f3.d f3.z f3.b (by kernel_rfl) ⟨b_g4_3, b_g3_4, trivial⟩ (
    hk (fun cx => cx.v (ldR rfl (cx.rq 7 s7_5) (cx.rn 0 rfl)) rfl rfl) <|
    hk (fun cx => cx.stR (wn rfl) rfl rfl 1 rfl (cx.rq 6 s6_6) (cx.u 0 rfl) (by kernel_rfl) rfl (by simp [Value.oneCell']) q_g3 rfl ⟨(ne_row b_g3 q_g4).symm, trivial⟩ trivial) <|
    hn) ?_
   intro a4 w4 f4
   refine wp_ret ?_
   have s6_7 := f4.q 6 s6_6
   try simp only [Exit.inBlock, Exit.then]
   refine bodyPost_ret (res_c (fn := Try.f40) rfl s6_7 (load_row 60 f4.rows.2.1 Try.underlying60 rfl (by kernel_rfl))) f4.d ?_
   have HE : (.agg (cR allR.u.lo allR.u.hi allR.s.lo allR.s.hi) : Value) = Rg.val D := by rw [ED.out]; unfold Rg.doR; rw [Ffk1.out]; rfl
   exact ⟨retV HE, f4.b⟩
  have Ffk1 := Lib.hid fk1; clear fk1
  cases fk2 : Rg.mayB ⟨⟨p, q⟩, ⟨r, t⟩⟩
  case false =>
   have Ffk2 := Lib.hid fk2; clear fk2
   have b_g1_8 := f2.k b_g1
   have b_g2_9 := f2.k b_g2
   have s4_10 := f2.q 4 u_g1
   have s5_11 := f2.q 5 u_g2
   refine go_reg [bx g1 60 (cR a b c d), bx g2 60 (cR p q r t)] [] [some (.agg (cR a b c d)), some (.bool true), some (.bool false), some (.bool false), some (.agg (cR p q r t)), some (.bool false), some (.bool true), some (.bool true)] mo f2.d f2.z f2.b (by kernel_rfl) ⟨b_g1_8, b_g2_9, trivial⟩ (
    hk (fun cx => cx.v (ldR rfl (cx.rq 4 s4_10) (cx.rn 0 rfl)) rfl rfl) <|
    hc (fun _ _ wx cx => cx.c rfl (args1 (cx.u 0 rfl)) Try.func28 (by decide +kernel) (rmay_n a b c d wx) rfl (congrArg Value.bool Ffk1.out)) <|
    hk (fun cx => cx.v (ex_not (x := .tmp 20) rfl (cx.u 0 rfl)) rfl rfl) <|
    hk (fun cx => cx.v (ex_mv rfl (cx.u 0 rfl)) rfl rfl) <|
    hk (fun cx => cx.val (cx.wy rfl rfl rfl rfl (cx.u 0 rfl)) (ldR rfl (cx.rq 5 s5_11) (cx.rn 1 rfl)) rfl rfl rfl rfl) <|
    hc (fun _ _ wx cx => cx.call (cx.wy rfl rfl rfl rfl (cx.u 1 rfl)) rfl rfl (args1 (cx.u 0 rfl)) Try.func28 (by decide +kernel) rfl (rmay_n p q r t wx) rfl rfl (congrArg Value.bool Ffk2.out) rfl) <|
    hk (fun cx => cx.val (cx.wy rfl rfl rfl rfl (cx.u 1 rfl)) (ex_not (x := .tmp 24) rfl (cx.u 0 rfl)) rfl rfl rfl rfl) <|
    hk (fun cx => cx.v (ex_pf rfl (cx.u 0 rfl) (cx.u 1 rfl)) rfl rfl) <|
    hn) ?_
   intro a5 w5 f5
   refine wp_cond_true (f5.v 7 rfl rfl rfl) ?_
   refine wp_seq ?_
   have b_g4_12 := f5.k b_g4
   have b_g3_13 := f5.k (f2.k b_g3)
   have s7_14 := f5.q 7 u_g4
   have s6_15 := f5.q 6 (f2.q 6 u_g3)
   refine go_reg [bx g4 60 (cR allR.u.lo allR.u.hi allR.s.lo allR.s.hi), ⟨g3, 60, (cR 0 0 0 0), some 1, (cR allR.u.lo allR.u.hi allR.s.lo allR.s.hi)⟩] [] [some (.agg (cR allR.u.lo allR.u.hi allR.s.lo allR.s.hi)), none] mo f5.d f5.z f5.b (by kernel_rfl) ⟨b_g4_12, b_g3_13, trivial⟩ (
    hk (fun cx => cx.v (ldR rfl (cx.rq 7 s7_14) (cx.rn 0 rfl)) rfl rfl) <|
    hk (fun cx => cx.stR (wn rfl) rfl rfl 1 rfl (cx.rq 6 s6_15) (cx.u 0 rfl) (by kernel_rfl) rfl (by simp [Value.oneCell']) q_g3 rfl ⟨(ne_row b_g3 q_g4).symm, trivial⟩ trivial) <|
    hn) ?_
   intro a6 w6 f6
   refine wp_ret ?_
   have s6_16 := f6.q 6 s6_15
   try simp only [Exit.inBlock, Exit.then]
   refine bodyPost_ret (res_c (fn := Try.f40) rfl s6_16 (load_row 60 f6.rows.2.1 Try.underlying60 rfl (by kernel_rfl))) f6.d ?_
   have HE : (.agg (cR allR.u.lo allR.u.hi allR.s.lo allR.s.hi) : Value) = Rg.val D := by rw [ED.out]; unfold Rg.doR; rw [Ffk1.out, Ffk2.out]; rfl
   exact ⟨retV HE, f6.b⟩
  have Ffk2 := Lib.hid fk2; clear fk2
  have b_g1_17 := f2.k b_g1
  have b_g2_18 := f2.k b_g2
  have s4_19 := f2.q 4 u_g1
  have s5_20 := f2.q 5 u_g2
  refine go_reg [bx g1 60 (cR a b c d), bx g2 60 (cR p q r t)] [] [some (.agg (cR a b c d)), some (.bool true), some (.bool false), some (.bool false), some (.agg (cR p q r t)), some (.bool true), some (.bool false), some (.bool false)] mo f2.d f2.z f2.b (by kernel_rfl) ⟨b_g1_17, b_g2_18, trivial⟩ (
   hk (fun cx => cx.v (ldR rfl (cx.rq 4 s4_19) (cx.rn 0 rfl)) rfl rfl) <|
   hc (fun _ _ wx cx => cx.c rfl (args1 (cx.u 0 rfl)) Try.func28 (by decide +kernel) (rmay_n a b c d wx) rfl (congrArg Value.bool Ffk1.out)) <|
   hk (fun cx => cx.v (ex_not (x := .tmp 20) rfl (cx.u 0 rfl)) rfl rfl) <|
   hk (fun cx => cx.v (ex_mv rfl (cx.u 0 rfl)) rfl rfl) <|
   hk (fun cx => cx.val (cx.wy rfl rfl rfl rfl (cx.u 0 rfl)) (ldR rfl (cx.rq 5 s5_20) (cx.rn 1 rfl)) rfl rfl rfl rfl) <|
   hc (fun _ _ wx cx => cx.call (cx.wy rfl rfl rfl rfl (cx.u 1 rfl)) rfl rfl (args1 (cx.u 0 rfl)) Try.func28 (by decide +kernel) rfl (rmay_n p q r t wx) rfl rfl (congrArg Value.bool Ffk2.out) rfl) <|
   hk (fun cx => cx.val (cx.wy rfl rfl rfl rfl (cx.u 1 rfl)) (ex_not (x := .tmp 24) rfl (cx.u 0 rfl)) rfl rfl rfl rfl) <|
   hk (fun cx => cx.v (ex_pf rfl (cx.u 0 rfl) (cx.u 1 rfl)) rfl rfl) <|
   hn) ?_
  intro a7 w7 f7
  refine wp_cond_false (f7.v 7 rfl rfl rfl) ?_
  refine wp_skip ?_
  refine wp_seq ?_
  cases fk3 : Rg.oneB ⟨⟨p, q⟩, ⟨r, t⟩⟩
  case false =>
   have Ffk3 := Lib.hid fk3; clear fk3
   have b_g2_21 := f7.k b_g2_18
   have s5_22 := f7.q 5 s5_20
   refine go_reg [bx g2 60 (cR p q r t)] [] [some (.agg (cR p q r t)), some (.tuple #[.int .u64 (Rg.oneV ⟨⟨p, q⟩, ⟨r, t⟩⟩), .bool (Rg.oneB ⟨⟨p, q⟩, ⟨r, t⟩⟩)]), some (.tuple #[.int .u64 (Rg.oneV ⟨⟨p, q⟩, ⟨r, t⟩⟩), .bool (Rg.oneB ⟨⟨p, q⟩, ⟨r, t⟩⟩)]), some (.int .u64 (Rg.oneV ⟨⟨p, q⟩, ⟨r, t⟩⟩)), some (.bool false), some (.int .u64 (Rg.oneV ⟨⟨p, q⟩, ⟨r, t⟩⟩)), some (.bool false)] mo f7.d f7.z f7.b (by kernel_rfl) ⟨b_g2_21, trivial⟩ (
    hk (fun cx => cx.v (ldR rfl (cx.rq 5 s5_22) (cx.rn 0 rfl)) rfl rfl) <|
    hc (fun _ _ wx cx => cx.c rfl (args1 (cx.u 0 rfl)) Try.func24 (by decide +kernel) (rsingle_n p q r t wx) rfl rfl) <|
    hk (fun cx => cx.v (ex_mv rfl (cx.u 0 rfl)) rfl rfl) <|
    hk (fun cx => cx.v (ex_ext (x := .tmp 28) rfl (cx.u 0 rfl) rfl) rfl rfl) <|
    hk (fun cx => cx.v (ex_ext (x := .tmp 28) rfl (cx.u 0 rfl) rfl) rfl (congrArg Value.bool Ffk3.out)) <|
    hk (fun cx => cx.v (ex_as rfl (cx.u 0 rfl)) rfl rfl) <|
    hk (fun cx => cx.v (ex_as rfl (cx.u 0 rfl)) rfl rfl) <|
    hn) ?_
   intro a8 w8 f8
   have neM0_1 := (ne_row b_g3 q_g4)
   refine wp_cut (fun aI wI => ∃ z : Rg, ((⟨doU op ⟨⟨a, b⟩, ⟨c, d⟩⟩ ⟨⟨p, q⟩, ⟨r, t⟩⟩, doS op ⟨⟨a, b⟩, ⟨c, d⟩⟩ ⟨⟨p, q⟩, ⟨r, t⟩⟩⟩ : Rg) = z ∧ D = Rg.doR op ⟨⟨a, b⟩, ⟨c, d⟩⟩ ⟨⟨p, q⟩, ⟨r, t⟩⟩) ∧ Mid 239 W [(6, .pointer (some ⟨g3, 0, none⟩)), (7, .pointer (some ⟨g4, 0, none⟩))] [(g3, 60, (cR 0 0 0 0)), (g4, 60, (cR z.u.lo z.u.hi z.s.lo z.s.hi))] aI wI) ?_ ?_
   refine wp_seq ?_
   have s0_23 := f8.q 0 (f7.q 0 (f2.q 0 (f1.q 0 s0_0)))
   refine go_reg [] [] [some (.int .i8 op)] mo f8.d f8.z f8.b (by kernel_rfl) trivial (
    hk (fun cx => cx.v (ex_mv rfl (cx.rq 0 s0_23)) rfl rfl) <|
    hn) ?_
   intro a9 w9 f9
   refine wp_block ?_
   refine wp_seq ?_
   cases fk4 : op == 11
   case true =>
    have Ffk4 := Lib.hid fk4; clear fk4
    refine go_reg [] [] [some (.bool true), some (.bool true)] mo f9.d f9.z f9.b (by kernel_rfl) trivial (
     hk (fun cx => cx.v (ex_eq (x := .tmp 33) rfl (cx.rq 33 (f9.v 0 rfl rfl rfl)) rfl) rfl (congrArg Value.bool Ffk4.out)) <|
     hk (fun cx => cx.v (ex_as rfl (cx.u 0 rfl)) rfl rfl) <|
     hn) ?_
    intro a10 w10 f10
    refine wp_cond_true (f10.v 1 rfl rfl rfl) ?_
    refine wp_seq ?_
    have b_g2_24 := f10.k (f9.k (f8.k b_g2_21))
    have b_g3_25 := f10.k (f9.k (f8.k (f7.k (f2.k b_g3))))
    have s5_26 := f10.q 5 (f9.q 5 (f8.q 5 s5_22))
    have s6_27 := f10.q 6 (f9.q 6 (f8.q 6 (f7.q 6 (f2.q 6 u_g3))))
    refine go_reg [bx g2 60 (cR p q r t), ⟨g3, 60, (cR 0 0 0 0), some 2, (cR D.u.lo D.u.hi D.s.lo D.s.hi)⟩] [] [some (.agg (cR p q r t)), some (.agg (cR D.u.lo D.u.hi D.s.lo D.s.hi)), none] mo f10.d f10.z f10.b (by kernel_rfl) ⟨b_g2_24, b_g3_25, trivial⟩ (
     hk (fun cx => cx.v (ldR rfl (cx.rq 5 s5_26) (cx.rn 0 rfl)) rfl rfl) <|
     hc (fun _ _ wx cx => cx.c rfl (args1 (cx.u 0 rfl)) Try.func87 (by decide +kernel) (nar_mov (op := op) (x := ⟨⟨a, b⟩, ⟨c, d⟩⟩) (y := ⟨⟨p, q⟩, ⟨r, t⟩⟩) (z := ⟨⟨p, q⟩, ⟨r, t⟩⟩) (by unfold doU doS; (try unfold restU); simp only [if_pos (yb Ffk4.out)]; try rfl) ED.out HA.out HB.out Ffk1.out Ffk2.out wx) rfl rfl) <|
     hk (fun cx => cx.stR (wn rfl) rfl rfl 1 rfl (cx.rq 6 s6_27) (cx.u 0 rfl) (by kernel_rfl) rfl (by simp [Value.oneCell']) q_g3 rfl ⟨(ne_ptr (pairAt f1.ps 1 2 (by decide) rfl rfl) u_g2 u_g3), trivial⟩ trivial) <|
     hn) ?_
    intro a11 w11 f11
    refine wp_ret ?_
    have s6_28 := f11.q 6 s6_27
    try simp only [Exit.inBlock, Exit.then]
    refine bodyPost_ret (res_c (fn := Try.f40) rfl s6_28 (load_row 60 f11.rows.2.1 Try.underlying60 rfl (by kernel_rfl))) f11.d ?_
    exact ⟨rfl, f11.b⟩
   have Ffk4 := Lib.hid fk4; clear fk4
   refine go_reg [] [] [some (.bool false), some (.bool false)] mo f9.d f9.z f9.b (by kernel_rfl) trivial (
    hk (fun cx => cx.v (ex_eq (x := .tmp 33) rfl (cx.rq 33 (f9.v 0 rfl rfl rfl)) rfl) rfl (congrArg Value.bool Ffk4.out)) <|
    hk (fun cx => cx.v (ex_as rfl (cx.u 0 rfl)) rfl rfl) <|
    hn) ?_
   intro a12 w12 f12
   refine wp_cond_false (f12.v 1 rfl rfl rfl) ?_
   refine wp_seq ?_
   cases fk5 : op == 0
   case true =>
    have Ffk5 := Lib.hid fk5; clear fk5
    have s33_29 := f12.q 33 (f9.v 0 rfl rfl rfl)
    refine go_reg [] [] [some (.bool true), some (.bool true)] mo f12.d f12.z f12.b (by kernel_rfl) trivial (
     hk (fun cx => cx.v (ex_eq (x := .tmp 33) rfl (cx.rq 33 s33_29) rfl) rfl (congrArg Value.bool Ffk5.out)) <|
     hk (fun cx => cx.v (ex_as rfl (cx.u 0 rfl)) rfl rfl) <|
     hn) ?_
    intro a13 w13 f13
    refine wp_cond_true (f13.v 1 rfl rfl rfl) ?_
    have neM0_1 := (ne_ptr (pairAt f1.ps 0 1 (by decide) rfl rfl) u_g1 u_g2)
    have neM0_2 := (ne_ptr (pairAt f1.ps 0 2 (by decide) rfl rfl) u_g1 u_g3)
    have neM0_3 := (ne_row b_g1 q_g4)
    have neM1_2 := (ne_ptr (pairAt f1.ps 1 2 (by decide) rfl rfl) u_g2 u_g3)
    have neM1_3 := (ne_row b_g2 q_g4)
    have neM2_3 := (ne_row b_g3 q_g4)
    refine wp_cut (fun aI wI => ∃ U : Pr, plusU ⟨a, b⟩ ⟨p, q⟩ = U ∧ Mid 239 W [(4, .pointer (some ⟨g1, 0, none⟩)), (5, .pointer (some ⟨g2, 0, none⟩)), (6, .pointer (some ⟨g3, 0, none⟩)), (7, .pointer (some ⟨g4, 0, none⟩))] [(g1, 60, (cR a b c d)), (g2, 60, (cR p q r t)), (g3, 60, (cR 0 0 0 0)), (g4, 60, (cR U.lo U.hi allR.s.lo allR.s.hi))] aI wI) ?_ ?_
    refine wp_seq ?_
    cases fk6 : decide (b ≤ (IntKind.u64.wrap (b + q)))
    case false =>
     have Ffk6 := Lib.hid fk6; clear fk6
     have b_g1_30 := f13.k (f12.k (f9.k (f8.k (f7.k b_g1_17))))
     have b_g2_31 := f13.k (f12.k (f9.k (f8.k b_g2_21)))
     have s4_32 := f13.q 4 (f12.q 4 (f9.q 4 (f8.q 4 (f7.q 4 s4_19))))
     have s5_33 := f13.q 5 (f12.q 5 (f9.q 5 (f8.q 5 s5_22)))
     refine go_reg [bx g1 60 (cR a b c d), bx g2 60 (cR p q r t)] [] [some (pt g1 1), some (.int .u64 b), some (pt g2 1), some (.int .u64 q), some (.int .u64 (IntKind.u64.wrap (b + q))), some (pt g1 1), some (.int .u64 b), some (.bool false)] mo f13.d f13.z f13.b (by kernel_rfl) ⟨b_g1_30, b_g2_31, trivial⟩ (
      hk (fun cx => cx.v (ex_fa rfl (cx.rq 4 s4_32) (faRU60_1_0 _ _)) rfl rfl) <|
      hk (fun cx => cx.v (ex_ld rfl (cx.u 0 rfl) (cx.rn 0 rfl) rfl Try.isAgg30) rfl rfl) <|
      hk (fun cx => cx.v (ex_fa rfl (cx.rq 5 s5_33) (faRU60_1_0 _ _)) rfl rfl) <|
      hk (fun cx => cx.v (ex_ld rfl (cx.u 0 rfl) (cx.rn 1 rfl) rfl Try.isAgg30) rfl rfl) <|
      hk (fun cx => cx.v (ex_add (x := .tmp 41) (y := .tmp 43) rfl (cx.u 0 rfl) (cx.u 1 rfl)) rfl rfl) <|
      hk (fun cx => cx.v (ex_fa rfl (cx.rq 4 s4_32) (faRU60_1_0 _ _)) rfl rfl) <|
      hk (fun cx => cx.v (ex_ld rfl (cx.u 0 rfl) (cx.rn 0 rfl) rfl Try.isAgg30) rfl rfl) <|
      hk (fun cx => cx.v (ex_ge (x := .tmp 44) (y := .tmp 46) rfl (cx.u 0 rfl) (cx.u 1 rfl)) rfl (congrArg Value.bool Ffk6.out)) <|
      hn) ?_
     intro a14 w14 f14
     refine wp_cond_false (f14.v 7 rfl rfl rfl) ?_
     refine wp_skip ?_
     have s4_34 := f14.q 4 s4_32
     have s5_35 := f14.q 5 s5_33
     have s6_36 := f14.q 6 (f13.q 6 (f12.q 6 (f9.q 6 (f8.q 6 (f7.q 6 (f2.q 6 u_g3))))))
     have s7_37 := f14.q 7 (f13.q 7 (f12.q 7 (f9.q 7 (f8.q 7 (f7.q 7 u_g4)))))
     have b_g1_38 := f14.k b_g1_30
     have b_g2_39 := f14.k b_g2_31
     have b_g3_40 := f14.k (f13.k (f12.k (f9.k (f8.k (f7.k (f2.k b_g3))))))
     have b_g4_41 := f14.k (f13.k (f12.k (f9.k (f8.k (f7.k b_g4)))))
     exact ⟨allR.u, HPU0.out Ffk1.out Ffk2.out Ffk6.out, f14.d, f14.z, f14.b, ⟨s4_34, s5_35, s6_36, s7_37, trivial⟩, ⟨b_g1_38, b_g2_39, b_g3_40, b_g4_41, trivial⟩⟩
    have Ffk6 := Lib.hid fk6; clear fk6
    have b_g1_42 := f13.k (f12.k (f9.k (f8.k (f7.k b_g1_17))))
    have b_g2_43 := f13.k (f12.k (f9.k (f8.k b_g2_21)))
    have s4_44 := f13.q 4 (f12.q 4 (f9.q 4 (f8.q 4 (f7.q 4 s4_19))))
    have s5_45 := f13.q 5 (f12.q 5 (f9.q 5 (f8.q 5 s5_22)))
    refine go_reg [bx g1 60 (cR a b c d), bx g2 60 (cR p q r t)] [] [some (pt g1 1), some (.int .u64 b), some (pt g2 1), some (.int .u64 q), some (.int .u64 (IntKind.u64.wrap (b + q))), some (pt g1 1), some (.int .u64 b), some (.bool true)] mo f13.d f13.z f13.b (by kernel_rfl) ⟨b_g1_42, b_g2_43, trivial⟩ (
     hk (fun cx => cx.v (ex_fa rfl (cx.rq 4 s4_44) (faRU60_1_0 _ _)) rfl rfl) <|
     hk (fun cx => cx.v (ex_ld rfl (cx.u 0 rfl) (cx.rn 0 rfl) rfl Try.isAgg30) rfl rfl) <|
     hk (fun cx => cx.v (ex_fa rfl (cx.rq 5 s5_45) (faRU60_1_0 _ _)) rfl rfl) <|
     hk (fun cx => cx.v (ex_ld rfl (cx.u 0 rfl) (cx.rn 1 rfl) rfl Try.isAgg30) rfl rfl) <|
     hk (fun cx => cx.v (ex_add (x := .tmp 41) (y := .tmp 43) rfl (cx.u 0 rfl) (cx.u 1 rfl)) rfl rfl) <|
     hk (fun cx => cx.v (ex_fa rfl (cx.rq 4 s4_44) (faRU60_1_0 _ _)) rfl rfl) <|
     hk (fun cx => cx.v (ex_ld rfl (cx.u 0 rfl) (cx.rn 0 rfl) rfl Try.isAgg30) rfl rfl) <|
     hk (fun cx => cx.v (ex_ge (x := .tmp 44) (y := .tmp 46) rfl (cx.u 0 rfl) (cx.u 1 rfl)) rfl (congrArg Value.bool Ffk6.out)) <|
     hn) ?_
    intro a15 w15 f15
    refine wp_cond_true (f15.v 7 rfl rfl rfl) ?_
    refine wp_seq ?_
    have b_g1_46 := f15.k b_g1_42
    have b_g2_47 := f15.k b_g2_43
    have b_g4_48 := f15.k (f13.k (f12.k (f9.k (f8.k (f7.k b_g4)))))
    have s4_49 := f15.q 4 s4_44
    have s5_50 := f15.q 5 s5_45
    have s7_51 := f15.q 7 (f13.q 7 (f12.q 7 (f9.q 7 (f8.q 7 (f7.q 7 u_g4)))))
    refine go_reg [bx g1 60 (cR a b c d), bx g2 60 (cR p q r t), ⟨g4, 60, (cR allR.u.lo allR.u.hi allR.s.lo allR.s.hi), some 6, (cR (IntKind.u64.wrap (a + p)) allR.u.hi allR.s.lo allR.s.hi)⟩] [] [some (pt g1 0), some (.int .u64 a), some (pt g2 0), some (.int .u64 p), some (.int .u64 (IntKind.u64.wrap (a + p))), some (pt g4 0), none] mo f15.d f15.z f15.b (by kernel_rfl) ⟨b_g1_46, b_g2_47, b_g4_48, trivial⟩ (
     hk (fun cx => cx.v (ex_fa rfl (cx.rq 4 s4_49) (faRU60_0_0 _ _)) rfl rfl) <|
     hk (fun cx => cx.v (ex_ld rfl (cx.u 0 rfl) (cx.rn 0 rfl) rfl Try.isAgg30) rfl rfl) <|
     hk (fun cx => cx.v (ex_fa rfl (cx.rq 5 s5_50) (faRU60_0_0 _ _)) rfl rfl) <|
     hk (fun cx => cx.v (ex_ld rfl (cx.u 0 rfl) (cx.rn 1 rfl) rfl Try.isAgg30) rfl rfl) <|
     hk (fun cx => cx.v (ex_add (x := .tmp 49) (y := .tmp 51) rfl (cx.u 0 rfl) (cx.u 1 rfl)) rfl rfl) <|
     hk (fun cx => cx.v (ex_fa rfl (cx.rq 7 s7_51) (faRU60_0_0 _ _)) rfl rfl) <|
     hk (fun cx => cx.stC (wn rfl) rfl rfl 2 rfl (cx.u 0 rfl) (cx.u 1 rfl) rfl rfl (by kernel_rfl) rfl rfl (Nat.le_trans f1.b.size q_g4) rfl ⟨(ne_row b_g1 q_g4), (ne_row b_g2 q_g4), trivial⟩ trivial) <|
     hn) ?_
    intro a16 w16 f16
    have b_g1_52 := f16.kp b_g1_46 ⟨.inl rfl, .inl rfl, .inr (ne_row b_g1 q_g4), trivial⟩
    have b_g2_53 := f16.kp b_g2_47 ⟨.inl rfl, .inl rfl, .inr (ne_row b_g2 q_g4), trivial⟩
    have s4_54 := f16.q 4 s4_49
    have s5_55 := f16.q 5 s5_50
    have s7_56 := f16.q 7 s7_51
    refine go_reg [bx g1 60 (cR a b c d), bx g2 60 (cR p q r t), ⟨g4, 60, (cR (IntKind.u64.wrap (a + p)) allR.u.hi allR.s.lo allR.s.hi), some 6, (cR (IntKind.u64.wrap (a + p)) (IntKind.u64.wrap (b + q)) allR.s.lo allR.s.hi)⟩] [] [some (pt g1 1), some (.int .u64 b), some (pt g2 1), some (.int .u64 q), some (.int .u64 (IntKind.u64.wrap (b + q))), some (pt g4 1), none] mo f16.d f16.z f16.b (by kernel_rfl) ⟨b_g1_52, b_g2_53, f16.rows.2.2.1, trivial⟩ (
     hk (fun cx => cx.v (ex_fa rfl (cx.rq 4 s4_54) (faRU60_1_0 _ _)) rfl rfl) <|
     hk (fun cx => cx.v (ex_ld rfl (cx.u 0 rfl) (cx.rn 0 rfl) rfl Try.isAgg30) rfl rfl) <|
     hk (fun cx => cx.v (ex_fa rfl (cx.rq 5 s5_55) (faRU60_1_0 _ _)) rfl rfl) <|
     hk (fun cx => cx.v (ex_ld rfl (cx.u 0 rfl) (cx.rn 1 rfl) rfl Try.isAgg30) rfl rfl) <|
     hk (fun cx => cx.v (ex_add (x := .tmp 55) (y := .tmp 57) rfl (cx.u 0 rfl) (cx.u 1 rfl)) rfl rfl) <|
     hk (fun cx => cx.v (ex_fa rfl (cx.rq 7 s7_56) (faRU60_1_0 _ _)) rfl rfl) <|
     hk (fun cx => cx.stC (wn rfl) rfl rfl 2 rfl (cx.u 0 rfl) (cx.u 1 rfl) rfl rfl (by kernel_rfl) rfl rfl (Nat.le_trans f1.b.size q_g4) rfl ⟨(ne_row b_g1 q_g4), (ne_row b_g2 q_g4), trivial⟩ trivial) <|
     hn) ?_
    intro a17 w17 f17
    have s4_57 := f17.q 4 s4_54
    have s5_58 := f17.q 5 s5_55
    have s6_59 := f17.q 6 (f16.q 6 (f15.q 6 (f13.q 6 (f12.q 6 (f9.q 6 (f8.q 6 (f7.q 6 (f2.q 6 u_g3))))))))
    have s7_60 := f17.q 7 s7_56
    have b_g1_61 := f17.kp b_g1_52 ⟨.inl rfl, .inl rfl, .inr (ne_row b_g1 q_g4), trivial⟩
    have b_g2_62 := f17.kp b_g2_53 ⟨.inl rfl, .inl rfl, .inr (ne_row b_g2 q_g4), trivial⟩
    have b_g3_63 := f17.kp (f16.kp (f15.k (f13.k (f12.k (f9.k (f8.k (f7.k (f2.k b_g3))))))) ⟨.inl rfl, .inl rfl, .inr (ne_row b_g3 q_g4), trivial⟩) ⟨.inl rfl, .inl rfl, .inr (ne_row b_g3 q_g4), trivial⟩
    exact ⟨⟨IntKind.u64.wrap (a + p), IntKind.u64.wrap (b + q)⟩, HPU1.out Ffk1.out Ffk2.out Ffk6.out, f17.d, f17.z, f17.b, ⟨s4_57, s5_58, s6_59, s7_60, trivial⟩, ⟨b_g1_61, b_g2_62, b_g3_63, f17.rows.2.2.1, trivial⟩⟩
    rintro aM wM ⟨U, hU, dM, zM, BM, ⟨sM4, sM5, sM6, sM7, -⟩, ⟨bM_g1, bM_g2, bM_g3, bM_g4, -⟩⟩
    replace sM4 : aM.tmps.getD 4 undef = .pointer (some ⟨g1, 0, none⟩) := sM4
    replace sM5 : aM.tmps.getD 5 undef = .pointer (some ⟨g2, 0, none⟩) := sM5
    replace sM6 : aM.tmps.getD 6 undef = .pointer (some ⟨g3, 0, none⟩) := sM6
    replace sM7 : aM.tmps.getD 7 undef = .pointer (some ⟨g4, 0, none⟩) := sM7
    refine wp_seq ?_
    cases fk7 : sumS c r
    case false =>
     have Ffk7 := Lib.hid fk7; clear fk7
     refine go_reg [bx g1 60 (cR a b c d), bx g2 60 (cR p q r t)] [] [some (pt g1 2), some (.int .i64 c), some (pt g2 2), some (.int .i64 r), some (.tuple #[.int .i64 (IntKind.i64.wrap (c + r)), .bool (sumS c r)]), some (.tuple #[.int .i64 (IntKind.i64.wrap (c + r)), .bool (sumS c r)]), some (.int .i64 (IntKind.i64.wrap (c + r))), some (.bool false), some (.int .i64 (IntKind.i64.wrap (c + r))), some (.bool false)] mo dM zM BM (by kernel_rfl) ⟨bM_g1, bM_g2, trivial⟩ (
      hk (fun cx => cx.v (ex_fa rfl (cx.rq 4 sM4) (faRU60_2_0 _ _)) rfl rfl) <|
      hk (fun cx => cx.v (ex_ld rfl (cx.u 0 rfl) (cx.rn 0 rfl) rfl Try.isAgg2) rfl rfl) <|
      hk (fun cx => cx.v (ex_fa rfl (cx.rq 5 sM5) (faRU60_2_0 _ _)) rfl rfl) <|
      hk (fun cx => cx.v (ex_ld rfl (cx.u 0 rfl) (cx.rn 1 rfl) rfl Try.isAgg2) rfl rfl) <|
      hc (fun _ _ wx cx => cx.c rfl (args2 (cx.u 0 rfl) (cx.u 1 rfl)) Try.func88 (by decide +kernel) (rplus_n c r wx HS.out.1.1 HS.out.2.1) rfl rfl) <|
      hk (fun cx => cx.v (ex_mv rfl (cx.u 0 rfl)) rfl rfl) <|
      hk (fun cx => cx.v (ex_ext (x := .tmp 60) rfl (cx.u 0 rfl) rfl) rfl rfl) <|
      hk (fun cx => cx.v (ex_ext (x := .tmp 60) rfl (cx.u 0 rfl) rfl) rfl (congrArg Value.bool Ffk7.out)) <|
      hk (fun cx => cx.v (ex_as rfl (cx.u 0 rfl)) rfl rfl) <|
      hk (fun cx => cx.v (ex_as rfl (cx.u 0 rfl)) rfl rfl) <|
      hn) ?_
     intro a18 w18 f18
     refine wp_seq ?_
     cases fk8 : sumS d t
     case false =>
      have Ffk8 := Lib.hid fk8; clear fk8
      have b_g1_64 := f18.k bM_g1
      have b_g2_65 := f18.k bM_g2
      have s4_66 := f18.q 4 sM4
      have s5_67 := f18.q 5 sM5
      refine go_reg [bx g1 60 (cR a b c d), bx g2 60 (cR p q r t)] [] [some (pt g1 3), some (.int .i64 d), some (pt g2 3), some (.int .i64 t), some (.tuple #[.int .i64 (IntKind.i64.wrap (d + t)), .bool (sumS d t)]), some (.tuple #[.int .i64 (IntKind.i64.wrap (d + t)), .bool (sumS d t)]), some (.int .i64 (IntKind.i64.wrap (d + t))), some (.bool false), some (.int .i64 (IntKind.i64.wrap (d + t))), some (.bool false)] mo f18.d f18.z f18.b (by kernel_rfl) ⟨b_g1_64, b_g2_65, trivial⟩ (
       hk (fun cx => cx.v (ex_fa rfl (cx.rq 4 s4_66) (faRU60_3_0 _ _)) rfl rfl) <|
       hk (fun cx => cx.v (ex_ld rfl (cx.u 0 rfl) (cx.rn 0 rfl) rfl Try.isAgg2) rfl rfl) <|
       hk (fun cx => cx.v (ex_fa rfl (cx.rq 5 s5_67) (faRU60_3_0 _ _)) rfl rfl) <|
       hk (fun cx => cx.v (ex_ld rfl (cx.u 0 rfl) (cx.rn 1 rfl) rfl Try.isAgg2) rfl rfl) <|
       hc (fun _ _ wx cx => cx.c rfl (args2 (cx.u 0 rfl) (cx.u 1 rfl)) Try.func88 (by decide +kernel) (rplus_n d t wx HS.out.1.2 HS.out.2.2) rfl rfl) <|
       hk (fun cx => cx.v (ex_mv rfl (cx.u 0 rfl)) rfl rfl) <|
       hk (fun cx => cx.v (ex_ext (x := .tmp 68) rfl (cx.u 0 rfl) rfl) rfl rfl) <|
       hk (fun cx => cx.v (ex_ext (x := .tmp 68) rfl (cx.u 0 rfl) rfl) rfl (congrArg Value.bool Ffk8.out)) <|
       hk (fun cx => cx.v (ex_as rfl (cx.u 0 rfl)) rfl rfl) <|
       hk (fun cx => cx.v (ex_as rfl (cx.u 0 rfl)) rfl rfl) <|
       hn) ?_
      intro a19 w19 f19
      refine wp_seq ?_
      have s11_68 := f19.q 11 (f18.v 9 rfl rfl rfl)
      refine go_reg [] [] [some (.bool false), some (.bool false), some (undef), some (.bool false)] mo f19.d f19.z f19.b (by kernel_rfl) trivial (
       hk (fun cx => cx.v (ex_mv rfl (cx.rq 11 s11_68)) rfl rfl) <|
       hk (fun cx => cx.v (ex_mv rfl (cx.u 0 rfl)) rfl rfl) <|
       hk (fun cx => cx.no (cx.wo rfl rfl rfl rfl (cx.u 0 rfl) rfl) rfl rfl rfl rfl) <|
       hk (fun cx => cx.v (ex_pf rfl (cx.u 0 rfl) rfl) rfl rfl) <|
       hn) ?_
      intro a20 w20 f20
      refine wp_cond_false (f20.v 3 rfl rfl rfl) ?_
      refine wp_skip ?_
      have s6_69 := f20.q 6 (f19.q 6 (f18.q 6 sM6))
      have s7_70 := f20.q 7 (f19.q 7 (f18.q 7 sM7))
      have b_g3_71 := f20.k (f19.k (f18.k bM_g3))
      have b_g4_72 := f20.k (f19.k (f18.k bM_g4))
      exact ⟨⟨U, allR.s⟩, ⟨by unfold doU doS; (try unfold restU); simp only [if_neg (nb Ffk4.out), if_pos (yb Ffk5.out)]; rw [hU, HPS0.out Ffk7.out]; try rfl, ED.out⟩, f20.d, f20.z, f20.b, ⟨s6_69, s7_70, trivial⟩, ⟨b_g3_71, b_g4_72, trivial⟩⟩
     have Ffk8 := Lib.hid fk8; clear fk8
     have b_g1_73 := f18.k bM_g1
     have b_g2_74 := f18.k bM_g2
     have s4_75 := f18.q 4 sM4
     have s5_76 := f18.q 5 sM5
     refine go_reg [bx g1 60 (cR a b c d), bx g2 60 (cR p q r t)] [] [some (pt g1 3), some (.int .i64 d), some (pt g2 3), some (.int .i64 t), some (.tuple #[.int .i64 (IntKind.i64.wrap (d + t)), .bool (sumS d t)]), some (.tuple #[.int .i64 (IntKind.i64.wrap (d + t)), .bool (sumS d t)]), some (.int .i64 (IntKind.i64.wrap (d + t))), some (.bool true), some (.int .i64 (IntKind.i64.wrap (d + t))), some (.bool true)] mo f18.d f18.z f18.b (by kernel_rfl) ⟨b_g1_73, b_g2_74, trivial⟩ (
      hk (fun cx => cx.v (ex_fa rfl (cx.rq 4 s4_75) (faRU60_3_0 _ _)) rfl rfl) <|
      hk (fun cx => cx.v (ex_ld rfl (cx.u 0 rfl) (cx.rn 0 rfl) rfl Try.isAgg2) rfl rfl) <|
      hk (fun cx => cx.v (ex_fa rfl (cx.rq 5 s5_76) (faRU60_3_0 _ _)) rfl rfl) <|
      hk (fun cx => cx.v (ex_ld rfl (cx.u 0 rfl) (cx.rn 1 rfl) rfl Try.isAgg2) rfl rfl) <|
      hc (fun _ _ wx cx => cx.c rfl (args2 (cx.u 0 rfl) (cx.u 1 rfl)) Try.func88 (by decide +kernel) (rplus_n d t wx HS.out.1.2 HS.out.2.2) rfl rfl) <|
      hk (fun cx => cx.v (ex_mv rfl (cx.u 0 rfl)) rfl rfl) <|
      hk (fun cx => cx.v (ex_ext (x := .tmp 68) rfl (cx.u 0 rfl) rfl) rfl rfl) <|
      hk (fun cx => cx.v (ex_ext (x := .tmp 68) rfl (cx.u 0 rfl) rfl) rfl (congrArg Value.bool Ffk8.out)) <|
      hk (fun cx => cx.v (ex_as rfl (cx.u 0 rfl)) rfl rfl) <|
      hk (fun cx => cx.v (ex_as rfl (cx.u 0 rfl)) rfl rfl) <|
      hn) ?_
     intro a21 w21 f21
     refine wp_seq ?_
     have s11_77 := f21.q 11 (f18.v 9 rfl rfl rfl)
     refine go_reg [] [] [some (.bool false), some (.bool false), some (undef), some (.bool false)] mo f21.d f21.z f21.b (by kernel_rfl) trivial (
      hk (fun cx => cx.v (ex_mv rfl (cx.rq 11 s11_77)) rfl rfl) <|
      hk (fun cx => cx.v (ex_mv rfl (cx.u 0 rfl)) rfl rfl) <|
      hk (fun cx => cx.no (cx.wo rfl rfl rfl rfl (cx.u 0 rfl) rfl) rfl rfl rfl rfl) <|
      hk (fun cx => cx.v (ex_pf rfl (cx.u 0 rfl) rfl) rfl rfl) <|
      hn) ?_
     intro a22 w22 f22
     refine wp_cond_false (f22.v 3 rfl rfl rfl) ?_
     refine wp_skip ?_
     have s6_78 := f22.q 6 (f21.q 6 (f18.q 6 sM6))
     have s7_79 := f22.q 7 (f21.q 7 (f18.q 7 sM7))
     have b_g3_80 := f22.k (f21.k (f18.k bM_g3))
     have b_g4_81 := f22.k (f21.k (f18.k bM_g4))
     exact ⟨⟨U, allR.s⟩, ⟨by unfold doU doS; (try unfold restU); simp only [if_neg (nb Ffk4.out), if_pos (yb Ffk5.out)]; rw [hU, HPS0.out Ffk7.out]; try rfl, ED.out⟩, f22.d, f22.z, f22.b, ⟨s6_78, s7_79, trivial⟩, ⟨b_g3_80, b_g4_81, trivial⟩⟩
    have Ffk7 := Lib.hid fk7; clear fk7
    refine go_reg [bx g1 60 (cR a b c d), bx g2 60 (cR p q r t)] [] [some (pt g1 2), some (.int .i64 c), some (pt g2 2), some (.int .i64 r), some (.tuple #[.int .i64 (IntKind.i64.wrap (c + r)), .bool (sumS c r)]), some (.tuple #[.int .i64 (IntKind.i64.wrap (c + r)), .bool (sumS c r)]), some (.int .i64 (IntKind.i64.wrap (c + r))), some (.bool true), some (.int .i64 (IntKind.i64.wrap (c + r))), some (.bool true)] mo dM zM BM (by kernel_rfl) ⟨bM_g1, bM_g2, trivial⟩ (
     hk (fun cx => cx.v (ex_fa rfl (cx.rq 4 sM4) (faRU60_2_0 _ _)) rfl rfl) <|
     hk (fun cx => cx.v (ex_ld rfl (cx.u 0 rfl) (cx.rn 0 rfl) rfl Try.isAgg2) rfl rfl) <|
     hk (fun cx => cx.v (ex_fa rfl (cx.rq 5 sM5) (faRU60_2_0 _ _)) rfl rfl) <|
     hk (fun cx => cx.v (ex_ld rfl (cx.u 0 rfl) (cx.rn 1 rfl) rfl Try.isAgg2) rfl rfl) <|
     hc (fun _ _ wx cx => cx.c rfl (args2 (cx.u 0 rfl) (cx.u 1 rfl)) Try.func88 (by decide +kernel) (rplus_n c r wx HS.out.1.1 HS.out.2.1) rfl rfl) <|
     hk (fun cx => cx.v (ex_mv rfl (cx.u 0 rfl)) rfl rfl) <|
     hk (fun cx => cx.v (ex_ext (x := .tmp 60) rfl (cx.u 0 rfl) rfl) rfl rfl) <|
     hk (fun cx => cx.v (ex_ext (x := .tmp 60) rfl (cx.u 0 rfl) rfl) rfl (congrArg Value.bool Ffk7.out)) <|
     hk (fun cx => cx.v (ex_as rfl (cx.u 0 rfl)) rfl rfl) <|
     hk (fun cx => cx.v (ex_as rfl (cx.u 0 rfl)) rfl rfl) <|
     hn) ?_
    intro a23 w23 f23
    refine wp_seq ?_
    cases fk9 : sumS d t
    case false =>
     have Ffk9 := Lib.hid fk9; clear fk9
     have b_g1_82 := f23.k bM_g1
     have b_g2_83 := f23.k bM_g2
     have s4_84 := f23.q 4 sM4
     have s5_85 := f23.q 5 sM5
     refine go_reg [bx g1 60 (cR a b c d), bx g2 60 (cR p q r t)] [] [some (pt g1 3), some (.int .i64 d), some (pt g2 3), some (.int .i64 t), some (.tuple #[.int .i64 (IntKind.i64.wrap (d + t)), .bool (sumS d t)]), some (.tuple #[.int .i64 (IntKind.i64.wrap (d + t)), .bool (sumS d t)]), some (.int .i64 (IntKind.i64.wrap (d + t))), some (.bool false), some (.int .i64 (IntKind.i64.wrap (d + t))), some (.bool false)] mo f23.d f23.z f23.b (by kernel_rfl) ⟨b_g1_82, b_g2_83, trivial⟩ (
      hk (fun cx => cx.v (ex_fa rfl (cx.rq 4 s4_84) (faRU60_3_0 _ _)) rfl rfl) <|
      hk (fun cx => cx.v (ex_ld rfl (cx.u 0 rfl) (cx.rn 0 rfl) rfl Try.isAgg2) rfl rfl) <|
      hk (fun cx => cx.v (ex_fa rfl (cx.rq 5 s5_85) (faRU60_3_0 _ _)) rfl rfl) <|
      hk (fun cx => cx.v (ex_ld rfl (cx.u 0 rfl) (cx.rn 1 rfl) rfl Try.isAgg2) rfl rfl) <|
      hc (fun _ _ wx cx => cx.c rfl (args2 (cx.u 0 rfl) (cx.u 1 rfl)) Try.func88 (by decide +kernel) (rplus_n d t wx HS.out.1.2 HS.out.2.2) rfl rfl) <|
      hk (fun cx => cx.v (ex_mv rfl (cx.u 0 rfl)) rfl rfl) <|
      hk (fun cx => cx.v (ex_ext (x := .tmp 68) rfl (cx.u 0 rfl) rfl) rfl rfl) <|
      hk (fun cx => cx.v (ex_ext (x := .tmp 68) rfl (cx.u 0 rfl) rfl) rfl (congrArg Value.bool Ffk9.out)) <|
      hk (fun cx => cx.v (ex_as rfl (cx.u 0 rfl)) rfl rfl) <|
      hk (fun cx => cx.v (ex_as rfl (cx.u 0 rfl)) rfl rfl) <|
      hn) ?_
     intro a24 w24 f24
     refine wp_seq ?_
     have s11_86 := f24.q 11 (f23.v 9 rfl rfl rfl)
     refine go_reg [] [] [some (.bool true), some (.bool true), some (.bool false), some (.bool false)] mo f24.d f24.z f24.b (by kernel_rfl) trivial (
      hk (fun cx => cx.v (ex_mv rfl (cx.rq 11 s11_86)) rfl rfl) <|
      hk (fun cx => cx.v (ex_mv rfl (cx.u 0 rfl)) rfl rfl) <|
      hk (fun cx => cx.val (cx.wy rfl rfl rfl rfl (cx.u 0 rfl)) (ex_mv rfl (cx.rq 13 (f24.v 9 rfl rfl rfl))) rfl rfl rfl rfl) <|
      hk (fun cx => cx.v (ex_pt rfl (cx.u 0 rfl) (cx.u 1 rfl)) rfl rfl) <|
      hn) ?_
     intro a25 w25 f25
     refine wp_cond_false (f25.v 3 rfl rfl rfl) ?_
     refine wp_skip ?_
     have s6_87 := f25.q 6 (f24.q 6 (f23.q 6 sM6))
     have s7_88 := f25.q 7 (f24.q 7 (f23.q 7 sM7))
     have b_g3_89 := f25.k (f24.k (f23.k bM_g3))
     have b_g4_90 := f25.k (f24.k (f23.k bM_g4))
     exact ⟨⟨U, allR.s⟩, ⟨by unfold doU doS; (try unfold restU); simp only [if_neg (nb Ffk4.out), if_pos (yb Ffk5.out)]; rw [hU, HPS2.out Ffk9.out]; try rfl, ED.out⟩, f25.d, f25.z, f25.b, ⟨s6_87, s7_88, trivial⟩, ⟨b_g3_89, b_g4_90, trivial⟩⟩
    have Ffk9 := Lib.hid fk9; clear fk9
    have b_g1_91 := f23.k bM_g1
    have b_g2_92 := f23.k bM_g2
    have s4_93 := f23.q 4 sM4
    have s5_94 := f23.q 5 sM5
    refine go_reg [bx g1 60 (cR a b c d), bx g2 60 (cR p q r t)] [] [some (pt g1 3), some (.int .i64 d), some (pt g2 3), some (.int .i64 t), some (.tuple #[.int .i64 (IntKind.i64.wrap (d + t)), .bool (sumS d t)]), some (.tuple #[.int .i64 (IntKind.i64.wrap (d + t)), .bool (sumS d t)]), some (.int .i64 (IntKind.i64.wrap (d + t))), some (.bool true), some (.int .i64 (IntKind.i64.wrap (d + t))), some (.bool true)] mo f23.d f23.z f23.b (by kernel_rfl) ⟨b_g1_91, b_g2_92, trivial⟩ (
     hk (fun cx => cx.v (ex_fa rfl (cx.rq 4 s4_93) (faRU60_3_0 _ _)) rfl rfl) <|
     hk (fun cx => cx.v (ex_ld rfl (cx.u 0 rfl) (cx.rn 0 rfl) rfl Try.isAgg2) rfl rfl) <|
     hk (fun cx => cx.v (ex_fa rfl (cx.rq 5 s5_94) (faRU60_3_0 _ _)) rfl rfl) <|
     hk (fun cx => cx.v (ex_ld rfl (cx.u 0 rfl) (cx.rn 1 rfl) rfl Try.isAgg2) rfl rfl) <|
     hc (fun _ _ wx cx => cx.c rfl (args2 (cx.u 0 rfl) (cx.u 1 rfl)) Try.func88 (by decide +kernel) (rplus_n d t wx HS.out.1.2 HS.out.2.2) rfl rfl) <|
     hk (fun cx => cx.v (ex_mv rfl (cx.u 0 rfl)) rfl rfl) <|
     hk (fun cx => cx.v (ex_ext (x := .tmp 68) rfl (cx.u 0 rfl) rfl) rfl rfl) <|
     hk (fun cx => cx.v (ex_ext (x := .tmp 68) rfl (cx.u 0 rfl) rfl) rfl (congrArg Value.bool Ffk9.out)) <|
     hk (fun cx => cx.v (ex_as rfl (cx.u 0 rfl)) rfl rfl) <|
     hk (fun cx => cx.v (ex_as rfl (cx.u 0 rfl)) rfl rfl) <|
     hn) ?_
    intro a26 w26 f26
    refine wp_seq ?_
    have s11_95 := f26.q 11 (f23.v 9 rfl rfl rfl)
    refine go_reg [] [] [some (.bool true), some (.bool true), some (.bool true), some (.bool true)] mo f26.d f26.z f26.b (by kernel_rfl) trivial (
     hk (fun cx => cx.v (ex_mv rfl (cx.rq 11 s11_95)) rfl rfl) <|
     hk (fun cx => cx.v (ex_mv rfl (cx.u 0 rfl)) rfl rfl) <|
     hk (fun cx => cx.val (cx.wy rfl rfl rfl rfl (cx.u 0 rfl)) (ex_mv rfl (cx.rq 13 (f26.v 9 rfl rfl rfl))) rfl rfl rfl rfl) <|
     hk (fun cx => cx.v (ex_pt rfl (cx.u 0 rfl) (cx.u 1 rfl)) rfl rfl) <|
     hn) ?_
    intro a27 w27 f27
    refine wp_cond_true (f27.v 3 rfl rfl rfl) ?_
    refine wp_seq ?_
    have b_g4_96 := f27.k (f26.k (f23.k bM_g4))
    have s10_97 := f27.q 10 (f26.q 10 (f23.v 8 rfl rfl rfl))
    have s7_98 := f27.q 7 (f26.q 7 (f23.q 7 sM7))
    refine go_reg [⟨g4, 60, (cR U.lo U.hi allR.s.lo allR.s.hi), some 2, (cR U.lo U.hi (IntKind.i64.wrap (c + r)) allR.s.hi)⟩] [] [some (.int .i64 (IntKind.i64.wrap (c + r))), some (pt g4 2), none] mo f27.d f27.z f27.b (by kernel_rfl) ⟨b_g4_96, trivial⟩ (
     hk (fun cx => cx.v (ex_mv rfl (cx.rq 10 s10_97)) rfl rfl) <|
     hk (fun cx => cx.v (ex_fa rfl (cx.rq 7 s7_98) (faRU60_2_0 _ _)) rfl rfl) <|
     hk (fun cx => cx.stC (wn rfl) rfl rfl 0 rfl (cx.u 0 rfl) (cx.u 1 rfl) rfl rfl (by kernel_rfl) rfl rfl (Nat.le_trans f1.b.size q_g4) rfl trivial trivial) <|
     hn) ?_
    intro a28 w28 f28
    have s12_99 := f28.q 12 (f27.q 12 (f26.v 8 rfl rfl rfl))
    have s7_100 := f28.q 7 s7_98
    refine go_reg [⟨g4, 60, (cR U.lo U.hi (IntKind.i64.wrap (c + r)) allR.s.hi), some 2, (cR U.lo U.hi (IntKind.i64.wrap (c + r)) (IntKind.i64.wrap (d + t)))⟩] [] [some (.int .i64 (IntKind.i64.wrap (d + t))), some (pt g4 3), none] mo f28.d f28.z f28.b (by kernel_rfl) ⟨f28.rows.1, trivial⟩ (
     hk (fun cx => cx.v (ex_mv rfl (cx.rq 12 s12_99)) rfl rfl) <|
     hk (fun cx => cx.v (ex_fa rfl (cx.rq 7 s7_100) (faRU60_3_0 _ _)) rfl rfl) <|
     hk (fun cx => cx.stC (wn rfl) rfl rfl 0 rfl (cx.u 0 rfl) (cx.u 1 rfl) rfl rfl (by kernel_rfl) rfl rfl (Nat.le_trans f1.b.size q_g4) rfl trivial trivial) <|
     hn) ?_
    intro a29 w29 f29
    have s6_101 := f29.q 6 (f28.q 6 (f27.q 6 (f26.q 6 (f23.q 6 sM6))))
    have s7_102 := f29.q 7 s7_100
    have b_g3_103 := f29.kp (f28.kp (f27.k (f26.k (f23.k bM_g3))) ⟨.inr neM2_3, trivial⟩) ⟨.inr neM2_3, trivial⟩
    exact ⟨⟨U, ⟨IntKind.i64.wrap (c + r), IntKind.i64.wrap (d + t)⟩⟩, ⟨by unfold doU doS; (try unfold restU); simp only [if_neg (nb Ffk4.out), if_pos (yb Ffk5.out)]; rw [hU, HPS1.out Ffk7.out Ffk9.out]; try rfl, ED.out⟩, f29.d, f29.z, f29.b, ⟨s6_101, s7_102, trivial⟩, ⟨b_g3_103, f29.rows.1, trivial⟩⟩
   have Ffk5 := Lib.hid fk5; clear fk5
   have s33_104 := f12.q 33 (f9.v 0 rfl rfl rfl)
   refine go_reg [] [] [some (.bool false), some (.bool false)] mo f12.d f12.z f12.b (by kernel_rfl) trivial (
    hk (fun cx => cx.v (ex_eq (x := .tmp 33) rfl (cx.rq 33 s33_104) rfl) rfl (congrArg Value.bool Ffk5.out)) <|
    hk (fun cx => cx.v (ex_as rfl (cx.u 0 rfl)) rfl rfl) <|
    hn) ?_
   intro a30 w30 f30
   refine wp_cond_false (f30.v 1 rfl rfl rfl) ?_
   refine wp_seq ?_
   cases fk10 : op == 1
   case true =>
    have Ffk10 := Lib.hid fk10; clear fk10
    have s33_105 := f30.q 33 s33_104
    refine go_reg [] [] [some (.bool true), some (.bool true)] mo f30.d f30.z f30.b (by kernel_rfl) trivial (
     hk (fun cx => cx.v (ex_eq (x := .tmp 33) rfl (cx.rq 33 s33_105) rfl) rfl (congrArg Value.bool Ffk10.out)) <|
     hk (fun cx => cx.v (ex_as rfl (cx.u 0 rfl)) rfl rfl) <|
     hn) ?_
    intro a31 w31 f31
    refine wp_cond_true (f31.v 1 rfl rfl rfl) ?_
    have neM0_1 := (ne_ptr (pairAt f1.ps 0 1 (by decide) rfl rfl) u_g1 u_g2)
    have neM0_2 := (ne_ptr (pairAt f1.ps 0 2 (by decide) rfl rfl) u_g1 u_g3)
    have neM0_3 := (ne_row b_g1 q_g4)
    have neM1_2 := (ne_ptr (pairAt f1.ps 1 2 (by decide) rfl rfl) u_g2 u_g3)
    have neM1_3 := (ne_row b_g2 q_g4)
    have neM2_3 := (ne_row b_g3 q_g4)
    refine wp_cut (fun aI wI => ∃ U : Pr, minusU ⟨a, b⟩ ⟨p, q⟩ = U ∧ Mid 239 W [(4, .pointer (some ⟨g1, 0, none⟩)), (5, .pointer (some ⟨g2, 0, none⟩)), (6, .pointer (some ⟨g3, 0, none⟩)), (7, .pointer (some ⟨g4, 0, none⟩))] [(g1, 60, (cR a b c d)), (g2, 60, (cR p q r t)), (g3, 60, (cR 0 0 0 0)), (g4, 60, (cR U.lo U.hi allR.s.lo allR.s.hi))] aI wI) ?_ ?_
    refine wp_seq ?_
    cases fk11 : decide (q ≤ a)
    case false =>
     have Ffk11 := Lib.hid fk11; clear fk11
     have b_g1_106 := f31.k (f30.k (f12.k (f9.k (f8.k (f7.k b_g1_17)))))
     have b_g2_107 := f31.k (f30.k (f12.k (f9.k (f8.k b_g2_21))))
     have s4_108 := f31.q 4 (f30.q 4 (f12.q 4 (f9.q 4 (f8.q 4 (f7.q 4 s4_19)))))
     have s5_109 := f31.q 5 (f30.q 5 (f12.q 5 (f9.q 5 (f8.q 5 s5_22))))
     refine go_reg [bx g1 60 (cR a b c d), bx g2 60 (cR p q r t)] [] [some (pt g1 0), some (.int .u64 a), some (pt g2 1), some (.int .u64 q), some (.bool false)] mo f31.d f31.z f31.b (by kernel_rfl) ⟨b_g1_106, b_g2_107, trivial⟩ (
      hk (fun cx => cx.v (ex_fa rfl (cx.rq 4 s4_108) (faRU60_0_0 _ _)) rfl rfl) <|
      hk (fun cx => cx.v (ex_ld rfl (cx.u 0 rfl) (cx.rn 0 rfl) rfl Try.isAgg30) rfl rfl) <|
      hk (fun cx => cx.v (ex_fa rfl (cx.rq 5 s5_109) (faRU60_1_0 _ _)) rfl rfl) <|
      hk (fun cx => cx.v (ex_ld rfl (cx.u 0 rfl) (cx.rn 1 rfl) rfl Try.isAgg30) rfl rfl) <|
      hk (fun cx => cx.v (ex_ge (x := .tmp 87) (y := .tmp 89) rfl (cx.u 0 rfl) (cx.u 1 rfl)) rfl (congrArg Value.bool Ffk11.out)) <|
      hn) ?_
     intro a32 w32 f32
     refine wp_cond_false (f32.v 4 rfl rfl rfl) ?_
     refine wp_skip ?_
     have s4_110 := f32.q 4 s4_108
     have s5_111 := f32.q 5 s5_109
     have s6_112 := f32.q 6 (f31.q 6 (f30.q 6 (f12.q 6 (f9.q 6 (f8.q 6 (f7.q 6 (f2.q 6 u_g3)))))))
     have s7_113 := f32.q 7 (f31.q 7 (f30.q 7 (f12.q 7 (f9.q 7 (f8.q 7 (f7.q 7 u_g4))))))
     have b_g1_114 := f32.k b_g1_106
     have b_g2_115 := f32.k b_g2_107
     have b_g3_116 := f32.k (f31.k (f30.k (f12.k (f9.k (f8.k (f7.k (f2.k b_g3)))))))
     have b_g4_117 := f32.k (f31.k (f30.k (f12.k (f9.k (f8.k (f7.k b_g4))))))
     exact ⟨allR.u, HMU0.out Ffk1.out Ffk2.out Ffk11.out, f32.d, f32.z, f32.b, ⟨s4_110, s5_111, s6_112, s7_113, trivial⟩, ⟨b_g1_114, b_g2_115, b_g3_116, b_g4_117, trivial⟩⟩
    have Ffk11 := Lib.hid fk11; clear fk11
    have b_g1_118 := f31.k (f30.k (f12.k (f9.k (f8.k (f7.k b_g1_17)))))
    have b_g2_119 := f31.k (f30.k (f12.k (f9.k (f8.k b_g2_21))))
    have s4_120 := f31.q 4 (f30.q 4 (f12.q 4 (f9.q 4 (f8.q 4 (f7.q 4 s4_19)))))
    have s5_121 := f31.q 5 (f30.q 5 (f12.q 5 (f9.q 5 (f8.q 5 s5_22))))
    refine go_reg [bx g1 60 (cR a b c d), bx g2 60 (cR p q r t)] [] [some (pt g1 0), some (.int .u64 a), some (pt g2 1), some (.int .u64 q), some (.bool true)] mo f31.d f31.z f31.b (by kernel_rfl) ⟨b_g1_118, b_g2_119, trivial⟩ (
     hk (fun cx => cx.v (ex_fa rfl (cx.rq 4 s4_120) (faRU60_0_0 _ _)) rfl rfl) <|
     hk (fun cx => cx.v (ex_ld rfl (cx.u 0 rfl) (cx.rn 0 rfl) rfl Try.isAgg30) rfl rfl) <|
     hk (fun cx => cx.v (ex_fa rfl (cx.rq 5 s5_121) (faRU60_1_0 _ _)) rfl rfl) <|
     hk (fun cx => cx.v (ex_ld rfl (cx.u 0 rfl) (cx.rn 1 rfl) rfl Try.isAgg30) rfl rfl) <|
     hk (fun cx => cx.v (ex_ge (x := .tmp 87) (y := .tmp 89) rfl (cx.u 0 rfl) (cx.u 1 rfl)) rfl (congrArg Value.bool Ffk11.out)) <|
     hn) ?_
    intro a33 w33 f33
    refine wp_cond_true (f33.v 4 rfl rfl rfl) ?_
    refine wp_seq ?_
    have b_g1_122 := f33.k b_g1_118
    have b_g2_123 := f33.k b_g2_119
    have b_g4_124 := f33.k (f31.k (f30.k (f12.k (f9.k (f8.k (f7.k b_g4))))))
    have s4_125 := f33.q 4 s4_120
    have s5_126 := f33.q 5 s5_121
    have s7_127 := f33.q 7 (f31.q 7 (f30.q 7 (f12.q 7 (f9.q 7 (f8.q 7 (f7.q 7 u_g4))))))
    refine go_reg [bx g1 60 (cR a b c d), bx g2 60 (cR p q r t), ⟨g4, 60, (cR allR.u.lo allR.u.hi allR.s.lo allR.s.hi), some 6, (cR (IntKind.u64.wrap (a - q)) allR.u.hi allR.s.lo allR.s.hi)⟩] [] [some (pt g1 0), some (.int .u64 a), some (pt g2 1), some (.int .u64 q), some (.int .u64 (IntKind.u64.wrap (a - q))), some (pt g4 0), none] mo f33.d f33.z f33.b (by kernel_rfl) ⟨b_g1_122, b_g2_123, b_g4_124, trivial⟩ (
     hk (fun cx => cx.v (ex_fa rfl (cx.rq 4 s4_125) (faRU60_0_0 _ _)) rfl rfl) <|
     hk (fun cx => cx.v (ex_ld rfl (cx.u 0 rfl) (cx.rn 0 rfl) rfl Try.isAgg30) rfl rfl) <|
     hk (fun cx => cx.v (ex_fa rfl (cx.rq 5 s5_126) (faRU60_1_0 _ _)) rfl rfl) <|
     hk (fun cx => cx.v (ex_ld rfl (cx.u 0 rfl) (cx.rn 1 rfl) rfl Try.isAgg30) rfl rfl) <|
     hk (fun cx => cx.v (ex_sub (x := .tmp 92) (y := .tmp 94) rfl (cx.u 0 rfl) (cx.u 1 rfl)) rfl rfl) <|
     hk (fun cx => cx.v (ex_fa rfl (cx.rq 7 s7_127) (faRU60_0_0 _ _)) rfl rfl) <|
     hk (fun cx => cx.stC (wn rfl) rfl rfl 2 rfl (cx.u 0 rfl) (cx.u 1 rfl) rfl rfl (by kernel_rfl) rfl rfl (Nat.le_trans f1.b.size q_g4) rfl ⟨(ne_row b_g1 q_g4), (ne_row b_g2 q_g4), trivial⟩ trivial) <|
     hn) ?_
    intro a34 w34 f34
    have b_g1_128 := f34.kp b_g1_122 ⟨.inl rfl, .inl rfl, .inr (ne_row b_g1 q_g4), trivial⟩
    have b_g2_129 := f34.kp b_g2_123 ⟨.inl rfl, .inl rfl, .inr (ne_row b_g2 q_g4), trivial⟩
    have s4_130 := f34.q 4 s4_125
    have s5_131 := f34.q 5 s5_126
    have s7_132 := f34.q 7 s7_127
    refine go_reg [bx g1 60 (cR a b c d), bx g2 60 (cR p q r t), ⟨g4, 60, (cR (IntKind.u64.wrap (a - q)) allR.u.hi allR.s.lo allR.s.hi), some 6, (cR (IntKind.u64.wrap (a - q)) (IntKind.u64.wrap (b - p)) allR.s.lo allR.s.hi)⟩] [] [some (pt g1 1), some (.int .u64 b), some (pt g2 0), some (.int .u64 p), some (.int .u64 (IntKind.u64.wrap (b - p))), some (pt g4 1), none] mo f34.d f34.z f34.b (by kernel_rfl) ⟨b_g1_128, b_g2_129, f34.rows.2.2.1, trivial⟩ (
     hk (fun cx => cx.v (ex_fa rfl (cx.rq 4 s4_130) (faRU60_1_0 _ _)) rfl rfl) <|
     hk (fun cx => cx.v (ex_ld rfl (cx.u 0 rfl) (cx.rn 0 rfl) rfl Try.isAgg30) rfl rfl) <|
     hk (fun cx => cx.v (ex_fa rfl (cx.rq 5 s5_131) (faRU60_0_0 _ _)) rfl rfl) <|
     hk (fun cx => cx.v (ex_ld rfl (cx.u 0 rfl) (cx.rn 1 rfl) rfl Try.isAgg30) rfl rfl) <|
     hk (fun cx => cx.v (ex_sub (x := .tmp 98) (y := .tmp 100) rfl (cx.u 0 rfl) (cx.u 1 rfl)) rfl rfl) <|
     hk (fun cx => cx.v (ex_fa rfl (cx.rq 7 s7_132) (faRU60_1_0 _ _)) rfl rfl) <|
     hk (fun cx => cx.stC (wn rfl) rfl rfl 2 rfl (cx.u 0 rfl) (cx.u 1 rfl) rfl rfl (by kernel_rfl) rfl rfl (Nat.le_trans f1.b.size q_g4) rfl ⟨(ne_row b_g1 q_g4), (ne_row b_g2 q_g4), trivial⟩ trivial) <|
     hn) ?_
    intro a35 w35 f35
    have s4_133 := f35.q 4 s4_130
    have s5_134 := f35.q 5 s5_131
    have s6_135 := f35.q 6 (f34.q 6 (f33.q 6 (f31.q 6 (f30.q 6 (f12.q 6 (f9.q 6 (f8.q 6 (f7.q 6 (f2.q 6 u_g3)))))))))
    have s7_136 := f35.q 7 s7_132
    have b_g1_137 := f35.kp b_g1_128 ⟨.inl rfl, .inl rfl, .inr (ne_row b_g1 q_g4), trivial⟩
    have b_g2_138 := f35.kp b_g2_129 ⟨.inl rfl, .inl rfl, .inr (ne_row b_g2 q_g4), trivial⟩
    have b_g3_139 := f35.kp (f34.kp (f33.k (f31.k (f30.k (f12.k (f9.k (f8.k (f7.k (f2.k b_g3)))))))) ⟨.inl rfl, .inl rfl, .inr (ne_row b_g3 q_g4), trivial⟩) ⟨.inl rfl, .inl rfl, .inr (ne_row b_g3 q_g4), trivial⟩
    exact ⟨⟨IntKind.u64.wrap (a - q), IntKind.u64.wrap (b - p)⟩, HMU1.out Ffk1.out Ffk2.out Ffk11.out, f35.d, f35.z, f35.b, ⟨s4_133, s5_134, s6_135, s7_136, trivial⟩, ⟨b_g1_137, b_g2_138, b_g3_139, f35.rows.2.2.1, trivial⟩⟩
    rintro aM wM ⟨U, hU, dM, zM, BM, ⟨sM4, sM5, sM6, sM7, -⟩, ⟨bM_g1, bM_g2, bM_g3, bM_g4, -⟩⟩
    replace sM4 : aM.tmps.getD 4 undef = .pointer (some ⟨g1, 0, none⟩) := sM4
    replace sM5 : aM.tmps.getD 5 undef = .pointer (some ⟨g2, 0, none⟩) := sM5
    replace sM6 : aM.tmps.getD 6 undef = .pointer (some ⟨g3, 0, none⟩) := sM6
    replace sM7 : aM.tmps.getD 7 undef = .pointer (some ⟨g4, 0, none⟩) := sM7
    refine wp_seq ?_
    cases fk12 : difS c t
    case false =>
     have Ffk12 := Lib.hid fk12; clear fk12
     refine go_reg [bx g1 60 (cR a b c d), bx g2 60 (cR p q r t)] [] [some (pt g1 2), some (.int .i64 c), some (pt g2 3), some (.int .i64 t), some (.tuple #[.int .i64 (IntKind.i64.wrap (c - t)), .bool (difS c t)]), some (.tuple #[.int .i64 (IntKind.i64.wrap (c - t)), .bool (difS c t)]), some (.int .i64 (IntKind.i64.wrap (c - t))), some (.bool false), some (.int .i64 (IntKind.i64.wrap (c - t))), some (.bool false)] mo dM zM BM (by kernel_rfl) ⟨bM_g1, bM_g2, trivial⟩ (
      hk (fun cx => cx.v (ex_fa rfl (cx.rq 4 sM4) (faRU60_2_0 _ _)) rfl rfl) <|
      hk (fun cx => cx.v (ex_ld rfl (cx.u 0 rfl) (cx.rn 0 rfl) rfl Try.isAgg2) rfl rfl) <|
      hk (fun cx => cx.v (ex_fa rfl (cx.rq 5 sM5) (faRU60_3_0 _ _)) rfl rfl) <|
      hk (fun cx => cx.v (ex_ld rfl (cx.u 0 rfl) (cx.rn 1 rfl) rfl Try.isAgg2) rfl rfl) <|
      hc (fun _ _ wx cx => cx.c rfl (args2 (cx.u 0 rfl) (cx.u 1 rfl)) Try.func89 (by decide +kernel) (rminus_n c t wx HS.out.1.1 HS.out.2.2) rfl rfl) <|
      hk (fun cx => cx.v (ex_mv rfl (cx.u 0 rfl)) rfl rfl) <|
      hk (fun cx => cx.v (ex_ext (x := .tmp 103) rfl (cx.u 0 rfl) rfl) rfl rfl) <|
      hk (fun cx => cx.v (ex_ext (x := .tmp 103) rfl (cx.u 0 rfl) rfl) rfl (congrArg Value.bool Ffk12.out)) <|
      hk (fun cx => cx.v (ex_as rfl (cx.u 0 rfl)) rfl rfl) <|
      hk (fun cx => cx.v (ex_as rfl (cx.u 0 rfl)) rfl rfl) <|
      hn) ?_
     intro a36 w36 f36
     refine wp_seq ?_
     cases fk13 : difS d r
     case false =>
      have Ffk13 := Lib.hid fk13; clear fk13
      have b_g1_140 := f36.k bM_g1
      have b_g2_141 := f36.k bM_g2
      have s4_142 := f36.q 4 sM4
      have s5_143 := f36.q 5 sM5
      refine go_reg [bx g1 60 (cR a b c d), bx g2 60 (cR p q r t)] [] [some (pt g1 3), some (.int .i64 d), some (pt g2 2), some (.int .i64 r), some (.tuple #[.int .i64 (IntKind.i64.wrap (d - r)), .bool (difS d r)]), some (.tuple #[.int .i64 (IntKind.i64.wrap (d - r)), .bool (difS d r)]), some (.int .i64 (IntKind.i64.wrap (d - r))), some (.bool false), some (.int .i64 (IntKind.i64.wrap (d - r))), some (.bool false)] mo f36.d f36.z f36.b (by kernel_rfl) ⟨b_g1_140, b_g2_141, trivial⟩ (
       hk (fun cx => cx.v (ex_fa rfl (cx.rq 4 s4_142) (faRU60_3_0 _ _)) rfl rfl) <|
       hk (fun cx => cx.v (ex_ld rfl (cx.u 0 rfl) (cx.rn 0 rfl) rfl Try.isAgg2) rfl rfl) <|
       hk (fun cx => cx.v (ex_fa rfl (cx.rq 5 s5_143) (faRU60_2_0 _ _)) rfl rfl) <|
       hk (fun cx => cx.v (ex_ld rfl (cx.u 0 rfl) (cx.rn 1 rfl) rfl Try.isAgg2) rfl rfl) <|
       hc (fun _ _ wx cx => cx.c rfl (args2 (cx.u 0 rfl) (cx.u 1 rfl)) Try.func89 (by decide +kernel) (rminus_n d r wx HS.out.1.2 HS.out.2.1) rfl rfl) <|
       hk (fun cx => cx.v (ex_mv rfl (cx.u 0 rfl)) rfl rfl) <|
       hk (fun cx => cx.v (ex_ext (x := .tmp 111) rfl (cx.u 0 rfl) rfl) rfl rfl) <|
       hk (fun cx => cx.v (ex_ext (x := .tmp 111) rfl (cx.u 0 rfl) rfl) rfl (congrArg Value.bool Ffk13.out)) <|
       hk (fun cx => cx.v (ex_as rfl (cx.u 0 rfl)) rfl rfl) <|
       hk (fun cx => cx.v (ex_as rfl (cx.u 0 rfl)) rfl rfl) <|
       hn) ?_
      intro a37 w37 f37
      refine wp_seq ?_
      have s15_144 := f37.q 15 (f36.v 9 rfl rfl rfl)
      refine go_reg [] [] [some (.bool false), some (.bool false), some (undef), some (.bool false)] mo f37.d f37.z f37.b (by kernel_rfl) trivial (
       hk (fun cx => cx.v (ex_mv rfl (cx.rq 15 s15_144)) rfl rfl) <|
       hk (fun cx => cx.v (ex_mv rfl (cx.u 0 rfl)) rfl rfl) <|
       hk (fun cx => cx.no (cx.wo rfl rfl rfl rfl (cx.u 0 rfl) rfl) rfl rfl rfl rfl) <|
       hk (fun cx => cx.v (ex_pf rfl (cx.u 0 rfl) rfl) rfl rfl) <|
       hn) ?_
      intro a38 w38 f38
      refine wp_cond_false (f38.v 3 rfl rfl rfl) ?_
      refine wp_skip ?_
      have s6_145 := f38.q 6 (f37.q 6 (f36.q 6 sM6))
      have s7_146 := f38.q 7 (f37.q 7 (f36.q 7 sM7))
      have b_g3_147 := f38.k (f37.k (f36.k bM_g3))
      have b_g4_148 := f38.k (f37.k (f36.k bM_g4))
      exact ⟨⟨U, allR.s⟩, ⟨by unfold doU doS; (try unfold restU); simp only [if_neg (nb Ffk4.out), if_neg (nb Ffk5.out), if_pos (yb Ffk10.out)]; rw [hU, HMS0.out Ffk12.out]; try rfl, ED.out⟩, f38.d, f38.z, f38.b, ⟨s6_145, s7_146, trivial⟩, ⟨b_g3_147, b_g4_148, trivial⟩⟩
     have Ffk13 := Lib.hid fk13; clear fk13
     have b_g1_149 := f36.k bM_g1
     have b_g2_150 := f36.k bM_g2
     have s4_151 := f36.q 4 sM4
     have s5_152 := f36.q 5 sM5
     refine go_reg [bx g1 60 (cR a b c d), bx g2 60 (cR p q r t)] [] [some (pt g1 3), some (.int .i64 d), some (pt g2 2), some (.int .i64 r), some (.tuple #[.int .i64 (IntKind.i64.wrap (d - r)), .bool (difS d r)]), some (.tuple #[.int .i64 (IntKind.i64.wrap (d - r)), .bool (difS d r)]), some (.int .i64 (IntKind.i64.wrap (d - r))), some (.bool true), some (.int .i64 (IntKind.i64.wrap (d - r))), some (.bool true)] mo f36.d f36.z f36.b (by kernel_rfl) ⟨b_g1_149, b_g2_150, trivial⟩ (
      hk (fun cx => cx.v (ex_fa rfl (cx.rq 4 s4_151) (faRU60_3_0 _ _)) rfl rfl) <|
      hk (fun cx => cx.v (ex_ld rfl (cx.u 0 rfl) (cx.rn 0 rfl) rfl Try.isAgg2) rfl rfl) <|
      hk (fun cx => cx.v (ex_fa rfl (cx.rq 5 s5_152) (faRU60_2_0 _ _)) rfl rfl) <|
      hk (fun cx => cx.v (ex_ld rfl (cx.u 0 rfl) (cx.rn 1 rfl) rfl Try.isAgg2) rfl rfl) <|
      hc (fun _ _ wx cx => cx.c rfl (args2 (cx.u 0 rfl) (cx.u 1 rfl)) Try.func89 (by decide +kernel) (rminus_n d r wx HS.out.1.2 HS.out.2.1) rfl rfl) <|
      hk (fun cx => cx.v (ex_mv rfl (cx.u 0 rfl)) rfl rfl) <|
      hk (fun cx => cx.v (ex_ext (x := .tmp 111) rfl (cx.u 0 rfl) rfl) rfl rfl) <|
      hk (fun cx => cx.v (ex_ext (x := .tmp 111) rfl (cx.u 0 rfl) rfl) rfl (congrArg Value.bool Ffk13.out)) <|
      hk (fun cx => cx.v (ex_as rfl (cx.u 0 rfl)) rfl rfl) <|
      hk (fun cx => cx.v (ex_as rfl (cx.u 0 rfl)) rfl rfl) <|
      hn) ?_
     intro a39 w39 f39
     refine wp_seq ?_
     have s15_153 := f39.q 15 (f36.v 9 rfl rfl rfl)
     refine go_reg [] [] [some (.bool false), some (.bool false), some (undef), some (.bool false)] mo f39.d f39.z f39.b (by kernel_rfl) trivial (
      hk (fun cx => cx.v (ex_mv rfl (cx.rq 15 s15_153)) rfl rfl) <|
      hk (fun cx => cx.v (ex_mv rfl (cx.u 0 rfl)) rfl rfl) <|
      hk (fun cx => cx.no (cx.wo rfl rfl rfl rfl (cx.u 0 rfl) rfl) rfl rfl rfl rfl) <|
      hk (fun cx => cx.v (ex_pf rfl (cx.u 0 rfl) rfl) rfl rfl) <|
      hn) ?_
     intro a40 w40 f40
     refine wp_cond_false (f40.v 3 rfl rfl rfl) ?_
     refine wp_skip ?_
     have s6_154 := f40.q 6 (f39.q 6 (f36.q 6 sM6))
     have s7_155 := f40.q 7 (f39.q 7 (f36.q 7 sM7))
     have b_g3_156 := f40.k (f39.k (f36.k bM_g3))
     have b_g4_157 := f40.k (f39.k (f36.k bM_g4))
     exact ⟨⟨U, allR.s⟩, ⟨by unfold doU doS; (try unfold restU); simp only [if_neg (nb Ffk4.out), if_neg (nb Ffk5.out), if_pos (yb Ffk10.out)]; rw [hU, HMS0.out Ffk12.out]; try rfl, ED.out⟩, f40.d, f40.z, f40.b, ⟨s6_154, s7_155, trivial⟩, ⟨b_g3_156, b_g4_157, trivial⟩⟩
    have Ffk12 := Lib.hid fk12; clear fk12
    refine go_reg [bx g1 60 (cR a b c d), bx g2 60 (cR p q r t)] [] [some (pt g1 2), some (.int .i64 c), some (pt g2 3), some (.int .i64 t), some (.tuple #[.int .i64 (IntKind.i64.wrap (c - t)), .bool (difS c t)]), some (.tuple #[.int .i64 (IntKind.i64.wrap (c - t)), .bool (difS c t)]), some (.int .i64 (IntKind.i64.wrap (c - t))), some (.bool true), some (.int .i64 (IntKind.i64.wrap (c - t))), some (.bool true)] mo dM zM BM (by kernel_rfl) ⟨bM_g1, bM_g2, trivial⟩ (
     hk (fun cx => cx.v (ex_fa rfl (cx.rq 4 sM4) (faRU60_2_0 _ _)) rfl rfl) <|
     hk (fun cx => cx.v (ex_ld rfl (cx.u 0 rfl) (cx.rn 0 rfl) rfl Try.isAgg2) rfl rfl) <|
     hk (fun cx => cx.v (ex_fa rfl (cx.rq 5 sM5) (faRU60_3_0 _ _)) rfl rfl) <|
     hk (fun cx => cx.v (ex_ld rfl (cx.u 0 rfl) (cx.rn 1 rfl) rfl Try.isAgg2) rfl rfl) <|
     hc (fun _ _ wx cx => cx.c rfl (args2 (cx.u 0 rfl) (cx.u 1 rfl)) Try.func89 (by decide +kernel) (rminus_n c t wx HS.out.1.1 HS.out.2.2) rfl rfl) <|
     hk (fun cx => cx.v (ex_mv rfl (cx.u 0 rfl)) rfl rfl) <|
     hk (fun cx => cx.v (ex_ext (x := .tmp 103) rfl (cx.u 0 rfl) rfl) rfl rfl) <|
     hk (fun cx => cx.v (ex_ext (x := .tmp 103) rfl (cx.u 0 rfl) rfl) rfl (congrArg Value.bool Ffk12.out)) <|
     hk (fun cx => cx.v (ex_as rfl (cx.u 0 rfl)) rfl rfl) <|
     hk (fun cx => cx.v (ex_as rfl (cx.u 0 rfl)) rfl rfl) <|
     hn) ?_
    intro a41 w41 f41
    refine wp_seq ?_
    cases fk14 : difS d r
    case false =>
     have Ffk14 := Lib.hid fk14; clear fk14
     have b_g1_158 := f41.k bM_g1
     have b_g2_159 := f41.k bM_g2
     have s4_160 := f41.q 4 sM4
     have s5_161 := f41.q 5 sM5
     refine go_reg [bx g1 60 (cR a b c d), bx g2 60 (cR p q r t)] [] [some (pt g1 3), some (.int .i64 d), some (pt g2 2), some (.int .i64 r), some (.tuple #[.int .i64 (IntKind.i64.wrap (d - r)), .bool (difS d r)]), some (.tuple #[.int .i64 (IntKind.i64.wrap (d - r)), .bool (difS d r)]), some (.int .i64 (IntKind.i64.wrap (d - r))), some (.bool false), some (.int .i64 (IntKind.i64.wrap (d - r))), some (.bool false)] mo f41.d f41.z f41.b (by kernel_rfl) ⟨b_g1_158, b_g2_159, trivial⟩ (
      hk (fun cx => cx.v (ex_fa rfl (cx.rq 4 s4_160) (faRU60_3_0 _ _)) rfl rfl) <|
      hk (fun cx => cx.v (ex_ld rfl (cx.u 0 rfl) (cx.rn 0 rfl) rfl Try.isAgg2) rfl rfl) <|
      hk (fun cx => cx.v (ex_fa rfl (cx.rq 5 s5_161) (faRU60_2_0 _ _)) rfl rfl) <|
      hk (fun cx => cx.v (ex_ld rfl (cx.u 0 rfl) (cx.rn 1 rfl) rfl Try.isAgg2) rfl rfl) <|
      hc (fun _ _ wx cx => cx.c rfl (args2 (cx.u 0 rfl) (cx.u 1 rfl)) Try.func89 (by decide +kernel) (rminus_n d r wx HS.out.1.2 HS.out.2.1) rfl rfl) <|
      hk (fun cx => cx.v (ex_mv rfl (cx.u 0 rfl)) rfl rfl) <|
      hk (fun cx => cx.v (ex_ext (x := .tmp 111) rfl (cx.u 0 rfl) rfl) rfl rfl) <|
      hk (fun cx => cx.v (ex_ext (x := .tmp 111) rfl (cx.u 0 rfl) rfl) rfl (congrArg Value.bool Ffk14.out)) <|
      hk (fun cx => cx.v (ex_as rfl (cx.u 0 rfl)) rfl rfl) <|
      hk (fun cx => cx.v (ex_as rfl (cx.u 0 rfl)) rfl rfl) <|
      hn) ?_
     intro a42 w42 f42
     refine wp_seq ?_
     have s15_162 := f42.q 15 (f41.v 9 rfl rfl rfl)
     refine go_reg [] [] [some (.bool true), some (.bool true), some (.bool false), some (.bool false)] mo f42.d f42.z f42.b (by kernel_rfl) trivial (
      hk (fun cx => cx.v (ex_mv rfl (cx.rq 15 s15_162)) rfl rfl) <|
      hk (fun cx => cx.v (ex_mv rfl (cx.u 0 rfl)) rfl rfl) <|
      hk (fun cx => cx.val (cx.wy rfl rfl rfl rfl (cx.u 0 rfl)) (ex_mv rfl (cx.rq 17 (f42.v 9 rfl rfl rfl))) rfl rfl rfl rfl) <|
      hk (fun cx => cx.v (ex_pt rfl (cx.u 0 rfl) (cx.u 1 rfl)) rfl rfl) <|
      hn) ?_
     intro a43 w43 f43
     refine wp_cond_false (f43.v 3 rfl rfl rfl) ?_
     refine wp_skip ?_
     have s6_163 := f43.q 6 (f42.q 6 (f41.q 6 sM6))
     have s7_164 := f43.q 7 (f42.q 7 (f41.q 7 sM7))
     have b_g3_165 := f43.k (f42.k (f41.k bM_g3))
     have b_g4_166 := f43.k (f42.k (f41.k bM_g4))
     exact ⟨⟨U, allR.s⟩, ⟨by unfold doU doS; (try unfold restU); simp only [if_neg (nb Ffk4.out), if_neg (nb Ffk5.out), if_pos (yb Ffk10.out)]; rw [hU, HMS2.out Ffk14.out]; try rfl, ED.out⟩, f43.d, f43.z, f43.b, ⟨s6_163, s7_164, trivial⟩, ⟨b_g3_165, b_g4_166, trivial⟩⟩
    have Ffk14 := Lib.hid fk14; clear fk14
    have b_g1_167 := f41.k bM_g1
    have b_g2_168 := f41.k bM_g2
    have s4_169 := f41.q 4 sM4
    have s5_170 := f41.q 5 sM5
    refine go_reg [bx g1 60 (cR a b c d), bx g2 60 (cR p q r t)] [] [some (pt g1 3), some (.int .i64 d), some (pt g2 2), some (.int .i64 r), some (.tuple #[.int .i64 (IntKind.i64.wrap (d - r)), .bool (difS d r)]), some (.tuple #[.int .i64 (IntKind.i64.wrap (d - r)), .bool (difS d r)]), some (.int .i64 (IntKind.i64.wrap (d - r))), some (.bool true), some (.int .i64 (IntKind.i64.wrap (d - r))), some (.bool true)] mo f41.d f41.z f41.b (by kernel_rfl) ⟨b_g1_167, b_g2_168, trivial⟩ (
     hk (fun cx => cx.v (ex_fa rfl (cx.rq 4 s4_169) (faRU60_3_0 _ _)) rfl rfl) <|
     hk (fun cx => cx.v (ex_ld rfl (cx.u 0 rfl) (cx.rn 0 rfl) rfl Try.isAgg2) rfl rfl) <|
     hk (fun cx => cx.v (ex_fa rfl (cx.rq 5 s5_170) (faRU60_2_0 _ _)) rfl rfl) <|
     hk (fun cx => cx.v (ex_ld rfl (cx.u 0 rfl) (cx.rn 1 rfl) rfl Try.isAgg2) rfl rfl) <|
     hc (fun _ _ wx cx => cx.c rfl (args2 (cx.u 0 rfl) (cx.u 1 rfl)) Try.func89 (by decide +kernel) (rminus_n d r wx HS.out.1.2 HS.out.2.1) rfl rfl) <|
     hk (fun cx => cx.v (ex_mv rfl (cx.u 0 rfl)) rfl rfl) <|
     hk (fun cx => cx.v (ex_ext (x := .tmp 111) rfl (cx.u 0 rfl) rfl) rfl rfl) <|
     hk (fun cx => cx.v (ex_ext (x := .tmp 111) rfl (cx.u 0 rfl) rfl) rfl (congrArg Value.bool Ffk14.out)) <|
     hk (fun cx => cx.v (ex_as rfl (cx.u 0 rfl)) rfl rfl) <|
     hk (fun cx => cx.v (ex_as rfl (cx.u 0 rfl)) rfl rfl) <|
     hn) ?_
    intro a44 w44 f44
    refine wp_seq ?_
    have s15_171 := f44.q 15 (f41.v 9 rfl rfl rfl)
    refine go_reg [] [] [some (.bool true), some (.bool true), some (.bool true), some (.bool true)] mo f44.d f44.z f44.b (by kernel_rfl) trivial (
     hk (fun cx => cx.v (ex_mv rfl (cx.rq 15 s15_171)) rfl rfl) <|
     hk (fun cx => cx.v (ex_mv rfl (cx.u 0 rfl)) rfl rfl) <|
     hk (fun cx => cx.val (cx.wy rfl rfl rfl rfl (cx.u 0 rfl)) (ex_mv rfl (cx.rq 17 (f44.v 9 rfl rfl rfl))) rfl rfl rfl rfl) <|
     hk (fun cx => cx.v (ex_pt rfl (cx.u 0 rfl) (cx.u 1 rfl)) rfl rfl) <|
     hn) ?_
    intro a45 w45 f45
    refine wp_cond_true (f45.v 3 rfl rfl rfl) ?_
    refine wp_seq ?_
    have b_g4_172 := f45.k (f44.k (f41.k bM_g4))
    have s14_173 := f45.q 14 (f44.q 14 (f41.v 8 rfl rfl rfl))
    have s7_174 := f45.q 7 (f44.q 7 (f41.q 7 sM7))
    refine go_reg [⟨g4, 60, (cR U.lo U.hi allR.s.lo allR.s.hi), some 2, (cR U.lo U.hi (IntKind.i64.wrap (c - t)) allR.s.hi)⟩] [] [some (.int .i64 (IntKind.i64.wrap (c - t))), some (pt g4 2), none] mo f45.d f45.z f45.b (by kernel_rfl) ⟨b_g4_172, trivial⟩ (
     hk (fun cx => cx.v (ex_mv rfl (cx.rq 14 s14_173)) rfl rfl) <|
     hk (fun cx => cx.v (ex_fa rfl (cx.rq 7 s7_174) (faRU60_2_0 _ _)) rfl rfl) <|
     hk (fun cx => cx.stC (wn rfl) rfl rfl 0 rfl (cx.u 0 rfl) (cx.u 1 rfl) rfl rfl (by kernel_rfl) rfl rfl (Nat.le_trans f1.b.size q_g4) rfl trivial trivial) <|
     hn) ?_
    intro a46 w46 f46
    have s16_175 := f46.q 16 (f45.q 16 (f44.v 8 rfl rfl rfl))
    have s7_176 := f46.q 7 s7_174
    refine go_reg [⟨g4, 60, (cR U.lo U.hi (IntKind.i64.wrap (c - t)) allR.s.hi), some 2, (cR U.lo U.hi (IntKind.i64.wrap (c - t)) (IntKind.i64.wrap (d - r)))⟩] [] [some (.int .i64 (IntKind.i64.wrap (d - r))), some (pt g4 3), none] mo f46.d f46.z f46.b (by kernel_rfl) ⟨f46.rows.1, trivial⟩ (
     hk (fun cx => cx.v (ex_mv rfl (cx.rq 16 s16_175)) rfl rfl) <|
     hk (fun cx => cx.v (ex_fa rfl (cx.rq 7 s7_176) (faRU60_3_0 _ _)) rfl rfl) <|
     hk (fun cx => cx.stC (wn rfl) rfl rfl 0 rfl (cx.u 0 rfl) (cx.u 1 rfl) rfl rfl (by kernel_rfl) rfl rfl (Nat.le_trans f1.b.size q_g4) rfl trivial trivial) <|
     hn) ?_
    intro a47 w47 f47
    have s6_177 := f47.q 6 (f46.q 6 (f45.q 6 (f44.q 6 (f41.q 6 sM6))))
    have s7_178 := f47.q 7 s7_176
    have b_g3_179 := f47.kp (f46.kp (f45.k (f44.k (f41.k bM_g3))) ⟨.inr neM2_3, trivial⟩) ⟨.inr neM2_3, trivial⟩
    exact ⟨⟨U, ⟨IntKind.i64.wrap (c - t), IntKind.i64.wrap (d - r)⟩⟩, ⟨by unfold doU doS; (try unfold restU); simp only [if_neg (nb Ffk4.out), if_neg (nb Ffk5.out), if_pos (yb Ffk10.out)]; rw [hU, HMS1.out Ffk12.out Ffk14.out]; try rfl, ED.out⟩, f47.d, f47.z, f47.b, ⟨s6_177, s7_178, trivial⟩, ⟨b_g3_179, f47.rows.1, trivial⟩⟩
   have Ffk10 := Lib.hid fk10; clear fk10
   have s33_180 := f30.q 33 s33_104
   refine go_reg [] [] [some (.bool false), some (.bool false)] mo f30.d f30.z f30.b (by kernel_rfl) trivial (
    hk (fun cx => cx.v (ex_eq (x := .tmp 33) rfl (cx.rq 33 s33_180) rfl) rfl (congrArg Value.bool Ffk10.out)) <|
    hk (fun cx => cx.v (ex_as rfl (cx.u 0 rfl)) rfl rfl) <|
    hn) ?_
   intro a48 w48 f48
   refine wp_cond_false (f48.v 1 rfl rfl rfl) ?_
   refine wp_seq ?_
   cases fk15 : op == 5
   case true =>
    have Ffk15 := Lib.hid fk15; clear fk15
    have s33_181 := f48.q 33 s33_180
    refine go_reg [] [] [some (.bool true), some (.bool true)] mo f48.d f48.z f48.b (by kernel_rfl) trivial (
     hk (fun cx => cx.v (ex_eq (x := .tmp 33) rfl (cx.rq 33 s33_181) rfl) rfl (congrArg Value.bool Ffk15.out)) <|
     hk (fun cx => cx.v (ex_as rfl (cx.u 0 rfl)) rfl rfl) <|
     hn) ?_
    intro a49 w49 f49
    refine wp_cond_true (f49.v 1 rfl rfl rfl) ?_
    have b_g1_182 := f49.k (f48.k (f30.k (f12.k (f9.k (f8.k (f7.k b_g1_17))))))
    have b_g2_183 := f49.k (f48.k (f30.k (f12.k (f9.k (f8.k b_g2_21)))))
    have b_g4_184 := f49.k (f48.k (f30.k (f12.k (f9.k (f8.k (f7.k b_g4))))))
    have s4_185 := f49.q 4 (f48.q 4 (f30.q 4 (f12.q 4 (f9.q 4 (f8.q 4 (f7.q 4 s4_19))))))
    have s5_186 := f49.q 5 (f48.q 5 (f30.q 5 (f12.q 5 (f9.q 5 (f8.q 5 s5_22)))))
    have s7_187 := f49.q 7 (f48.q 7 (f30.q 7 (f12.q 7 (f9.q 7 (f8.q 7 (f7.q 7 u_g4))))))
    refine go_reg [bx g1 60 (cR a b c d), bx g2 60 (cR p q r t), ⟨g4, 60, (cR allR.u.lo allR.u.hi allR.s.lo allR.s.hi), some 6, (cR allR.u.lo (min b q) allR.s.lo allR.s.hi)⟩] [] [some (pt g1 1), some (.int .u64 b), some (pt g2 1), some (.int .u64 q), some (.int .u64 (min b q)), some (pt g4 1), none] mo f49.d f49.z f49.b (by kernel_rfl) ⟨b_g1_182, b_g2_183, b_g4_184, trivial⟩ (
     hk (fun cx => cx.v (ex_fa rfl (cx.rq 4 s4_185) (faRU60_1_0 _ _)) rfl rfl) <|
     hk (fun cx => cx.v (ex_ld rfl (cx.u 0 rfl) (cx.rn 0 rfl) rfl Try.isAgg30) rfl rfl) <|
     hk (fun cx => cx.v (ex_fa rfl (cx.rq 5 s5_186) (faRU60_1_0 _ _)) rfl rfl) <|
     hk (fun cx => cx.v (ex_ld rfl (cx.u 0 rfl) (cx.rn 1 rfl) rfl Try.isAgg30) rfl rfl) <|
     hk (fun cx => cx.v (ex_min (x := .tmp 130) (y := .tmp 132) rfl (cx.u 0 rfl) (cx.u 1 rfl)) rfl rfl) <|
     hk (fun cx => cx.v (ex_fa rfl (cx.rq 7 s7_187) (faRU60_1_0 _ _)) rfl rfl) <|
     hk (fun cx => cx.stC (wn rfl) rfl rfl 2 rfl (cx.u 0 rfl) (cx.u 1 rfl) rfl rfl (by kernel_rfl) rfl rfl (Nat.le_trans f1.b.size q_g4) rfl ⟨(ne_row b_g1 q_g4), (ne_row b_g2 q_g4), trivial⟩ trivial) <|
     hn) ?_
    intro a50 w50 f50
    have s6_188 := f50.q 6 (f49.q 6 (f48.q 6 (f30.q 6 (f12.q 6 (f9.q 6 (f8.q 6 (f7.q 6 (f2.q 6 u_g3))))))))
    have s7_189 := f50.q 7 s7_187
    have b_g3_190 := f50.kp (f49.k (f48.k (f30.k (f12.k (f9.k (f8.k (f7.k (f2.k b_g3)))))))) ⟨.inl rfl, .inl rfl, .inr (ne_row b_g3 q_g4), trivial⟩
    exact ⟨⟨⟨allR.u.lo, min b q⟩, allR.s⟩, ⟨by unfold doU doS; (try unfold restU); simp only [if_neg (nb Ffk4.out), if_neg (nb Ffk5.out), if_neg (nb Ffk10.out), if_pos (yb Ffk15.out)]; try rfl, ED.out⟩, f50.d, f50.z, f50.b, ⟨s6_188, s7_189, trivial⟩, ⟨b_g3_190, f50.rows.2.2.1, trivial⟩⟩
   have Ffk15 := Lib.hid fk15; clear fk15
   have s33_191 := f48.q 33 s33_180
   refine go_reg [] [] [some (.bool false), some (.bool false)] mo f48.d f48.z f48.b (by kernel_rfl) trivial (
    hk (fun cx => cx.v (ex_eq (x := .tmp 33) rfl (cx.rq 33 s33_191) rfl) rfl (congrArg Value.bool Ffk15.out)) <|
    hk (fun cx => cx.v (ex_as rfl (cx.u 0 rfl)) rfl rfl) <|
    hn) ?_
   intro a51 w51 f51
   refine wp_cond_false (f51.v 1 rfl rfl rfl) ?_
   refine wp_seq ?_
   cases fk16 : op == 4
   case true =>
    have Ffk16 := Lib.hid fk16; clear fk16
    have s33_192 := f51.q 33 s33_191
    refine go_reg [] [] [some (.bool true), some (.bool true)] mo f51.d f51.z f51.b (by kernel_rfl) trivial (
     hk (fun cx => cx.v (ex_eq (x := .tmp 33) rfl (cx.rq 33 s33_192) rfl) rfl (congrArg Value.bool Ffk16.out)) <|
     hk (fun cx => cx.v (ex_as rfl (cx.u 0 rfl)) rfl rfl) <|
     hn) ?_
    intro a52 w52 f52
    refine wp_cond_true (f52.v 1 rfl rfl rfl) ?_
    refine wp_seq ?_
    have b_g1_193 := f52.k (f51.k (f48.k (f30.k (f12.k (f9.k (f8.k (f7.k b_g1_17)))))))
    have b_g2_194 := f52.k (f51.k (f48.k (f30.k (f12.k (f9.k (f8.k b_g2_21))))))
    have b_g4_195 := f52.k (f51.k (f48.k (f30.k (f12.k (f9.k (f8.k (f7.k b_g4)))))))
    have s4_196 := f52.q 4 (f51.q 4 (f48.q 4 (f30.q 4 (f12.q 4 (f9.q 4 (f8.q 4 (f7.q 4 s4_19)))))))
    have s5_197 := f52.q 5 (f51.q 5 (f48.q 5 (f30.q 5 (f12.q 5 (f9.q 5 (f8.q 5 s5_22))))))
    have s7_198 := f52.q 7 (f51.q 7 (f48.q 7 (f30.q 7 (f12.q 7 (f9.q 7 (f8.q 7 (f7.q 7 u_g4)))))))
    refine go_reg [bx g1 60 (cR a b c d), bx g2 60 (cR p q r t), ⟨g4, 60, (cR allR.u.lo allR.u.hi allR.s.lo allR.s.hi), some 6, (cR (max a p) allR.u.hi allR.s.lo allR.s.hi)⟩] [] [some (pt g1 0), some (.int .u64 a), some (pt g2 0), some (.int .u64 p), some (.int .u64 (max a p)), some (pt g4 0), none] mo f52.d f52.z f52.b (by kernel_rfl) ⟨b_g1_193, b_g2_194, b_g4_195, trivial⟩ (
     hk (fun cx => cx.v (ex_fa rfl (cx.rq 4 s4_196) (faRU60_0_0 _ _)) rfl rfl) <|
     hk (fun cx => cx.v (ex_ld rfl (cx.u 0 rfl) (cx.rn 0 rfl) rfl Try.isAgg30) rfl rfl) <|
     hk (fun cx => cx.v (ex_fa rfl (cx.rq 5 s5_197) (faRU60_0_0 _ _)) rfl rfl) <|
     hk (fun cx => cx.v (ex_ld rfl (cx.u 0 rfl) (cx.rn 1 rfl) rfl Try.isAgg30) rfl rfl) <|
     hc (fun _ ax _ cx => cx.v (ex_max (x := .tmp 138) (y := .tmp 140) rfl (cx.u 0 rfl) (cx.u 1 rfl)) rfl rfl) <|
     hk (fun cx => cx.v (ex_fa rfl (cx.rq 7 s7_198) (faRU60_0_0 _ _)) rfl rfl) <|
     hk (fun cx => cx.stC (wn rfl) rfl rfl 2 rfl (cx.u 0 rfl) (cx.u 1 rfl) rfl rfl (by kernel_rfl) rfl rfl (Nat.le_trans f1.b.size q_g4) rfl ⟨(ne_row b_g1 q_g4), (ne_row b_g2 q_g4), trivial⟩ trivial) <|
     hn) ?_
    intro a53 w53 f53
    have b_g1_199 := f53.kp b_g1_193 ⟨.inl rfl, .inl rfl, .inr (ne_row b_g1 q_g4), trivial⟩
    have b_g2_200 := f53.kp b_g2_194 ⟨.inl rfl, .inl rfl, .inr (ne_row b_g2 q_g4), trivial⟩
    have s4_201 := f53.q 4 s4_196
    have s5_202 := f53.q 5 s5_197
    have s7_203 := f53.q 7 s7_198
    refine go_reg [bx g1 60 (cR a b c d), bx g2 60 (cR p q r t), ⟨g4, 60, (cR (max a p) allR.u.hi allR.s.lo allR.s.hi), some 7, (cR (max a p) (onesI (Int.toNat (max b q))) allR.s.lo allR.s.hi)⟩] [] [some (pt g1 1), some (.int .u64 b), some (pt g2 1), some (.int .u64 q), some (.int .u64 (max b q)), some (.int .u64 (onesI (Int.toNat (max b q)))), some (pt g4 1), none] mo f53.d f53.z f53.b (by kernel_rfl) ⟨b_g1_199, b_g2_200, f53.rows.2.2.1, trivial⟩ (
     hk (fun cx => cx.v (ex_fa rfl (cx.rq 4 s4_201) (faRU60_1_0 _ _)) rfl rfl) <|
     hk (fun cx => cx.v (ex_ld rfl (cx.u 0 rfl) (cx.rn 0 rfl) rfl Try.isAgg30) rfl rfl) <|
     hk (fun cx => cx.v (ex_fa rfl (cx.rq 5 s5_202) (faRU60_1_0 _ _)) rfl rfl) <|
     hk (fun cx => cx.v (ex_ld rfl (cx.u 0 rfl) (cx.rn 1 rfl) rfl Try.isAgg30) rfl rfl) <|
     hc (fun _ ax _ cx => cx.v (ex_max (x := .tmp 144) (y := .tmp 146) rfl (cx.u 0 rfl) (cx.u 1 rfl)) rfl rfl) <|
     hc (fun _ ax wx cx => cx.c rfl (args1 (cx.u 0 rfl)) Try.func90 (by decide +kernel) (rfilled_n (max b q) wx HR.out.1 HR.out.2) rfl rfl) <|
     hk (fun cx => cx.v (ex_fa rfl (cx.rq 7 s7_203) (faRU60_1_0 _ _)) rfl rfl) <|
     hk (fun cx => cx.stC (wn rfl) rfl rfl 2 rfl (cx.u 0 rfl) (cx.u 1 rfl) rfl rfl (by kernel_rfl) rfl rfl (Nat.le_trans f1.b.size q_g4) rfl ⟨(ne_row b_g1 q_g4), (ne_row b_g2 q_g4), trivial⟩ trivial) <|
     hn) ?_
    intro a54 w54 f54
    have s6_204 := f54.q 6 (f53.q 6 (f52.q 6 (f51.q 6 (f48.q 6 (f30.q 6 (f12.q 6 (f9.q 6 (f8.q 6 (f7.q 6 (f2.q 6 u_g3))))))))))
    have s7_205 := f54.q 7 s7_203
    have b_g3_206 := f54.kp (f53.kp (f52.k (f51.k (f48.k (f30.k (f12.k (f9.k (f8.k (f7.k (f2.k b_g3))))))))) ⟨.inl rfl, .inl rfl, .inr (ne_row b_g3 q_g4), trivial⟩) ⟨.inl rfl, .inl rfl, .inr (ne_row b_g3 q_g4), trivial⟩
    exact ⟨⟨⟨max a p, onesI (Int.toNat (max b q))⟩, allR.s⟩, ⟨by unfold doU doS; (try unfold restU); simp only [if_neg (nb Ffk4.out), if_neg (nb Ffk5.out), if_neg (nb Ffk10.out), if_neg (nb Ffk15.out), if_pos (yb Ffk16.out)]; rw [HR2.out]; try rfl, ED.out⟩, f54.d, f54.z, f54.b, ⟨s6_204, s7_205, trivial⟩, ⟨b_g3_206, f54.rows.2.2.1, trivial⟩⟩
   have Ffk16 := Lib.hid fk16; clear fk16
   have s33_207 := f51.q 33 s33_191
   refine go_reg [] [] [some (.bool false), some (.bool false)] mo f51.d f51.z f51.b (by kernel_rfl) trivial (
    hk (fun cx => cx.v (ex_eq (x := .tmp 33) rfl (cx.rq 33 s33_207) rfl) rfl (congrArg Value.bool Ffk16.out)) <|
    hk (fun cx => cx.v (ex_as rfl (cx.u 0 rfl)) rfl rfl) <|
    hn) ?_
   intro a55 w55 f55
   refine wp_cond_false (f55.v 1 rfl rfl rfl) ?_
   refine wp_seq ?_
   cases fk17 : op == 10
   case true =>
    have Ffk17 := Lib.hid fk17; clear fk17
    have s33_208 := f55.q 33 s33_207
    refine go_reg [] [] [some (.bool true), some (.bool true)] mo f55.d f55.z f55.b (by kernel_rfl) trivial (
     hk (fun cx => cx.v (ex_eq (x := .tmp 33) rfl (cx.rq 33 s33_208) rfl) rfl (congrArg Value.bool Ffk17.out)) <|
     hk (fun cx => cx.v (ex_as rfl (cx.u 0 rfl)) rfl rfl) <|
     hn) ?_
    intro a56 w56 f56
    refine wp_cond_true (f56.v 1 rfl rfl rfl) ?_
    have b_g1_209 := f56.k (f55.k (f51.k (f48.k (f30.k (f12.k (f9.k (f8.k (f7.k b_g1_17))))))))
    have b_g2_210 := f56.k (f55.k (f51.k (f48.k (f30.k (f12.k (f9.k (f8.k b_g2_21)))))))
    have b_g4_211 := f56.k (f55.k (f51.k (f48.k (f30.k (f12.k (f9.k (f8.k (f7.k b_g4))))))))
    have s4_212 := f56.q 4 (f55.q 4 (f51.q 4 (f48.q 4 (f30.q 4 (f12.q 4 (f9.q 4 (f8.q 4 (f7.q 4 s4_19))))))))
    have s5_213 := f56.q 5 (f55.q 5 (f51.q 5 (f48.q 5 (f30.q 5 (f12.q 5 (f9.q 5 (f8.q 5 s5_22)))))))
    have s7_214 := f56.q 7 (f55.q 7 (f51.q 7 (f48.q 7 (f30.q 7 (f12.q 7 (f9.q 7 (f8.q 7 (f7.q 7 u_g4))))))))
    refine go_reg [bx g1 60 (cR a b c d), bx g2 60 (cR p q r t), ⟨g4, 60, (cR allR.u.lo allR.u.hi allR.s.lo allR.s.hi), some 7, (cR allR.u.lo (onesI (Int.toNat (max b q))) allR.s.lo allR.s.hi)⟩] [] [some (pt g1 1), some (.int .u64 b), some (pt g2 1), some (.int .u64 q), some (.int .u64 (max b q)), some (.int .u64 (onesI (Int.toNat (max b q)))), some (pt g4 1), none] mo f56.d f56.z f56.b (by kernel_rfl) ⟨b_g1_209, b_g2_210, b_g4_211, trivial⟩ (
     hk (fun cx => cx.v (ex_fa rfl (cx.rq 4 s4_212) (faRU60_1_0 _ _)) rfl rfl) <|
     hk (fun cx => cx.v (ex_ld rfl (cx.u 0 rfl) (cx.rn 0 rfl) rfl Try.isAgg30) rfl rfl) <|
     hk (fun cx => cx.v (ex_fa rfl (cx.rq 5 s5_213) (faRU60_1_0 _ _)) rfl rfl) <|
     hk (fun cx => cx.v (ex_ld rfl (cx.u 0 rfl) (cx.rn 1 rfl) rfl Try.isAgg30) rfl rfl) <|
     hc (fun _ ax _ cx => cx.v (ex_max (x := .tmp 153) (y := .tmp 155) rfl (cx.u 0 rfl) (cx.u 1 rfl)) rfl rfl) <|
     hc (fun _ ax wx cx => cx.c rfl (args1 (cx.u 0 rfl)) Try.func90 (by decide +kernel) (rfilled_n (max b q) wx HR.out.1 HR.out.2) rfl rfl) <|
     hk (fun cx => cx.v (ex_fa rfl (cx.rq 7 s7_214) (faRU60_1_0 _ _)) rfl rfl) <|
     hk (fun cx => cx.stC (wn rfl) rfl rfl 2 rfl (cx.u 0 rfl) (cx.u 1 rfl) rfl rfl (by kernel_rfl) rfl rfl (Nat.le_trans f1.b.size q_g4) rfl ⟨(ne_row b_g1 q_g4), (ne_row b_g2 q_g4), trivial⟩ trivial) <|
     hn) ?_
    intro a57 w57 f57
    have s6_215 := f57.q 6 (f56.q 6 (f55.q 6 (f51.q 6 (f48.q 6 (f30.q 6 (f12.q 6 (f9.q 6 (f8.q 6 (f7.q 6 (f2.q 6 u_g3))))))))))
    have s7_216 := f57.q 7 s7_214
    have b_g3_217 := f57.kp (f56.k (f55.k (f51.k (f48.k (f30.k (f12.k (f9.k (f8.k (f7.k (f2.k b_g3)))))))))) ⟨.inl rfl, .inl rfl, .inr (ne_row b_g3 q_g4), trivial⟩
    exact ⟨⟨⟨allR.u.lo, onesI (Int.toNat (max b q))⟩, allR.s⟩, ⟨by unfold doU doS; (try unfold restU); simp only [if_neg (nb Ffk4.out), if_neg (nb Ffk5.out), if_neg (nb Ffk10.out), if_neg (nb Ffk15.out), if_neg (nb Ffk16.out), if_pos (yb Ffk17.out)]; rw [HR2.out]; try rfl, ED.out⟩, f57.d, f57.z, f57.b, ⟨s6_215, s7_216, trivial⟩, ⟨b_g3_217, f57.rows.2.2.1, trivial⟩⟩
   have Ffk17 := Lib.hid fk17; clear fk17
   have s33_218 := f55.q 33 s33_207
   refine go_reg [] [] [some (.bool false), some (.bool false)] mo f55.d f55.z f55.b (by kernel_rfl) trivial (
    hk (fun cx => cx.v (ex_eq (x := .tmp 33) rfl (cx.rq 33 s33_218) rfl) rfl (congrArg Value.bool Ffk17.out)) <|
    hk (fun cx => cx.v (ex_as rfl (cx.u 0 rfl)) rfl rfl) <|
    hn) ?_
   intro a58 w58 f58
   refine wp_cond_false (f58.v 1 rfl rfl rfl) ?_
   refine wp_seq ?_
   cases fk18 : op == 3
   case true =>
    have Ffk18 := Lib.hid fk18; clear fk18
    have s33_219 := f58.q 33 s33_218
    refine go_reg [] [] [some (.bool true), some (.bool true)] mo f58.d f58.z f58.b (by kernel_rfl) trivial (
     hk (fun cx => cx.v (ex_eq (x := .tmp 33) rfl (cx.rq 33 s33_219) rfl) rfl (congrArg Value.bool Ffk18.out)) <|
     hk (fun cx => cx.v (ex_as rfl (cx.u 0 rfl)) rfl rfl) <|
     hn) ?_
    intro a59 w59 f59
    refine wp_cond_true (f59.v 1 rfl rfl rfl) ?_
    refine wp_seq ?_
    have b_g1_220 := f59.k (f58.k (f55.k (f51.k (f48.k (f30.k (f12.k (f9.k (f8.k (f7.k b_g1_17)))))))))
    have b_g4_221 := f59.k (f58.k (f55.k (f51.k (f48.k (f30.k (f12.k (f9.k (f8.k (f7.k b_g4)))))))))
    have s4_222 := f59.q 4 (f58.q 4 (f55.q 4 (f51.q 4 (f48.q 4 (f30.q 4 (f12.q 4 (f9.q 4 (f8.q 4 (f7.q 4 s4_19)))))))))
    have s7_223 := f59.q 7 (f58.q 7 (f55.q 7 (f51.q 7 (f48.q 7 (f30.q 7 (f12.q 7 (f9.q 7 (f8.q 7 (f7.q 7 u_g4)))))))))
    refine go_reg [bx g1 60 (cR a b c d), ⟨g4, 60, (cR allR.u.lo allR.u.hi allR.s.lo allR.s.hi), some 3, (cR allR.u.lo b allR.s.lo allR.s.hi)⟩] [] [some (pt g1 1), some (.int .u64 b), some (pt g4 1), none] mo f59.d f59.z f59.b (by kernel_rfl) ⟨b_g1_220, b_g4_221, trivial⟩ (
     hk (fun cx => cx.v (ex_fa rfl (cx.rq 4 s4_222) (faRU60_1_0 _ _)) rfl rfl) <|
     hk (fun cx => cx.v (ex_ld rfl (cx.u 0 rfl) (cx.rn 0 rfl) rfl Try.isAgg30) rfl rfl) <|
     hk (fun cx => cx.v (ex_fa rfl (cx.rq 7 s7_223) (faRU60_1_0 _ _)) rfl rfl) <|
     hk (fun cx => cx.stC (wn rfl) rfl rfl 1 rfl (cx.u 0 rfl) (cx.u 1 rfl) rfl rfl (by kernel_rfl) rfl rfl (Nat.le_trans f1.b.size q_g4) rfl ⟨(ne_row b_g1 q_g4), trivial⟩ trivial) <|
     hn) ?_
    intro a60 w60 f60
    refine wp_seq ?_
    cases fk19 : decide (0 < p)
    case false =>
     have Ffk19 := Lib.hid fk19; clear fk19
     have b_g2_224 := f60.kp (f59.k (f58.k (f55.k (f51.k (f48.k (f30.k (f12.k (f9.k (f8.k b_g2_21))))))))) ⟨.inl rfl, .inr (ne_row b_g2 q_g4), trivial⟩
     have s5_225 := f60.q 5 (f59.q 5 (f58.q 5 (f55.q 5 (f51.q 5 (f48.q 5 (f30.q 5 (f12.q 5 (f9.q 5 (f8.q 5 s5_22)))))))))
     refine go_reg [bx g2 60 (cR p q r t)] [] [some (pt g2 0), some (.int .u64 p), some (.bool false)] mo f60.d f60.z f60.b (by kernel_rfl) ⟨b_g2_224, trivial⟩ (
      hk (fun cx => cx.v (ex_fa rfl (cx.rq 5 s5_225) (faRU60_0_0 _ _)) rfl rfl) <|
      hk (fun cx => cx.v (ex_ld rfl (cx.u 0 rfl) (cx.rn 0 rfl) rfl Try.isAgg30) rfl rfl) <|
      hk (fun cx => cx.v (ex_gt (x := .tmp 165) rfl (cx.u 0 rfl) rfl) rfl (congrArg Value.bool Ffk19.out)) <|
      hn) ?_
     intro a61 w61 f61
     refine wp_cond_false (f61.v 2 rfl rfl rfl) ?_
     refine wp_skip ?_
     have s6_226 := f61.q 6 (f60.q 6 (f59.q 6 (f58.q 6 (f55.q 6 (f51.q 6 (f48.q 6 (f30.q 6 (f12.q 6 (f9.q 6 (f8.q 6 (f7.q 6 (f2.q 6 u_g3))))))))))))
     have s7_227 := f61.q 7 (f60.q 7 s7_223)
     have b_g3_228 := f61.k (f60.kp (f59.k (f58.k (f55.k (f51.k (f48.k (f30.k (f12.k (f9.k (f8.k (f7.k (f2.k b_g3))))))))))) ⟨.inl rfl, .inr (ne_row b_g3 q_g4), trivial⟩)
     have b_g4_229 := f61.k f60.rows.2.1
     exact ⟨⟨⟨allR.u.lo, b⟩, allR.s⟩, ⟨by unfold doU doS; (try unfold restU); simp only [if_neg (nb Ffk4.out), if_neg (nb Ffk5.out), if_neg (nb Ffk10.out), if_neg (nb Ffk15.out), if_neg (nb Ffk16.out), if_neg (nb Ffk17.out), if_pos (yb Ffk18.out)]; rw [if_pos (show p = 0 from HP0.out Ffk19.out)]; try rfl, ED.out⟩, f61.d, f61.z, f61.b, ⟨s6_226, s7_227, trivial⟩, ⟨b_g3_228, b_g4_229, trivial⟩⟩
    have Ffk19 := Lib.hid fk19; clear fk19
    have b_g2_230 := f60.kp (f59.k (f58.k (f55.k (f51.k (f48.k (f30.k (f12.k (f9.k (f8.k b_g2_21))))))))) ⟨.inl rfl, .inr (ne_row b_g2 q_g4), trivial⟩
    have s5_231 := f60.q 5 (f59.q 5 (f58.q 5 (f55.q 5 (f51.q 5 (f48.q 5 (f30.q 5 (f12.q 5 (f9.q 5 (f8.q 5 s5_22)))))))))
    refine go_reg [bx g2 60 (cR p q r t)] [] [some (pt g2 0), some (.int .u64 p), some (.bool true)] mo f60.d f60.z f60.b (by kernel_rfl) ⟨b_g2_230, trivial⟩ (
     hk (fun cx => cx.v (ex_fa rfl (cx.rq 5 s5_231) (faRU60_0_0 _ _)) rfl rfl) <|
     hk (fun cx => cx.v (ex_ld rfl (cx.u 0 rfl) (cx.rn 0 rfl) rfl Try.isAgg30) rfl rfl) <|
     hk (fun cx => cx.v (ex_gt (x := .tmp 165) rfl (cx.u 0 rfl) rfl) rfl (congrArg Value.bool Ffk19.out)) <|
     hn) ?_
    intro a62 w62 f62
    refine wp_cond_true (f62.v 2 rfl rfl rfl) ?_
    refine wp_seq ?_
    have b_g1_232 := f62.k (f60.kp b_g1_220 ⟨.inl rfl, .inr (ne_row b_g1 q_g4), trivial⟩)
    have b_g2_233 := f62.k b_g2_230
    have b_g4_234 := f62.k f60.rows.2.1
    have s4_235 := f62.q 4 (f60.q 4 s4_222)
    have s5_236 := f62.q 5 s5_231
    have s7_237 := f62.q 7 (f60.q 7 s7_223)
    refine go_reg [bx g1 60 (cR a b c d), bx g2 60 (cR p q r t), ⟨g4, 60, (cR allR.u.lo b allR.s.lo allR.s.hi), some 6, (cR (a / q) b allR.s.lo allR.s.hi)⟩] [] [some (pt g1 0), some (.int .u64 a), some (pt g2 1), some (.int .u64 q), some (.int .u64 (a / q)), some (pt g4 0), none] mo f62.d f62.z f62.b (by kernel_rfl) ⟨b_g1_232, b_g2_233, b_g4_234, trivial⟩ (
     hk (fun cx => cx.v (ex_fa rfl (cx.rq 4 s4_235) (faRU60_0_0 _ _)) rfl rfl) <|
     hk (fun cx => cx.v (ex_ld rfl (cx.u 0 rfl) (cx.rn 0 rfl) rfl Try.isAgg30) rfl rfl) <|
     hk (fun cx => cx.v (ex_fa rfl (cx.rq 5 s5_236) (faRU60_1_0 _ _)) rfl rfl) <|
     hk (fun cx => cx.v (ex_ld rfl (cx.u 0 rfl) (cx.rn 1 rfl) rfl Try.isAgg30) rfl rfl) <|
     hk (fun cx => cx.v (exec_quo (x := .tmp 168) (y := .tmp 170) rfl (cx.u 0 rfl) (cx.u 1 rfl) HO.out.1.1.1 (HQ.out Ffk1.out Ffk2.out Ffk19.out).1 HO.out.1.1.2) rfl rfl) <|
     hk (fun cx => cx.v (ex_fa rfl (cx.rq 7 s7_237) (faRU60_0_0 _ _)) rfl rfl) <|
     hk (fun cx => cx.stC (wn rfl) rfl rfl 2 rfl (cx.u 0 rfl) (cx.u 1 rfl) rfl rfl (by kernel_rfl) rfl rfl (Nat.le_trans f1.b.size q_g4) rfl ⟨(ne_row b_g1 q_g4), (ne_row b_g2 q_g4), trivial⟩ trivial) <|
     hn) ?_
    intro a63 w63 f63
    have b_g1_238 := f63.kp b_g1_232 ⟨.inl rfl, .inl rfl, .inr (ne_row b_g1 q_g4), trivial⟩
    have b_g2_239 := f63.kp b_g2_233 ⟨.inl rfl, .inl rfl, .inr (ne_row b_g2 q_g4), trivial⟩
    have s4_240 := f63.q 4 s4_235
    have s5_241 := f63.q 5 s5_236
    have s7_242 := f63.q 7 s7_237
    refine go_reg [bx g1 60 (cR a b c d), bx g2 60 (cR p q r t), ⟨g4, 60, (cR (a / q) b allR.s.lo allR.s.hi), some 6, (cR (a / q) (b / p) allR.s.lo allR.s.hi)⟩] [] [some (pt g1 1), some (.int .u64 b), some (pt g2 0), some (.int .u64 p), some (.int .u64 (b / p)), some (pt g4 1), none] mo f63.d f63.z f63.b (by kernel_rfl) ⟨b_g1_238, b_g2_239, f63.rows.2.2.1, trivial⟩ (
     hk (fun cx => cx.v (ex_fa rfl (cx.rq 4 s4_240) (faRU60_1_0 _ _)) rfl rfl) <|
     hk (fun cx => cx.v (ex_ld rfl (cx.u 0 rfl) (cx.rn 0 rfl) rfl Try.isAgg30) rfl rfl) <|
     hk (fun cx => cx.v (ex_fa rfl (cx.rq 5 s5_241) (faRU60_0_0 _ _)) rfl rfl) <|
     hk (fun cx => cx.v (ex_ld rfl (cx.u 0 rfl) (cx.rn 1 rfl) rfl Try.isAgg30) rfl rfl) <|
     hk (fun cx => cx.v (exec_quo (x := .tmp 174) (y := .tmp 176) rfl (cx.u 0 rfl) (cx.u 1 rfl) HO.out.1.2.1 (HQ.out Ffk1.out Ffk2.out Ffk19.out).2 HO.out.1.2.2) rfl rfl) <|
     hk (fun cx => cx.v (ex_fa rfl (cx.rq 7 s7_242) (faRU60_1_0 _ _)) rfl rfl) <|
     hk (fun cx => cx.stC (wn rfl) rfl rfl 2 rfl (cx.u 0 rfl) (cx.u 1 rfl) rfl rfl (by kernel_rfl) rfl rfl (Nat.le_trans f1.b.size q_g4) rfl ⟨(ne_row b_g1 q_g4), (ne_row b_g2 q_g4), trivial⟩ trivial) <|
     hn) ?_
    intro a64 w64 f64
    have s6_243 := f64.q 6 (f63.q 6 (f62.q 6 (f60.q 6 (f59.q 6 (f58.q 6 (f55.q 6 (f51.q 6 (f48.q 6 (f30.q 6 (f12.q 6 (f9.q 6 (f8.q 6 (f7.q 6 (f2.q 6 u_g3))))))))))))))
    have s7_244 := f64.q 7 s7_242
    have b_g3_245 := f64.kp (f63.kp (f62.k (f60.kp (f59.k (f58.k (f55.k (f51.k (f48.k (f30.k (f12.k (f9.k (f8.k (f7.k (f2.k b_g3))))))))))) ⟨.inl rfl, .inr (ne_row b_g3 q_g4), trivial⟩)) ⟨.inl rfl, .inl rfl, .inr (ne_row b_g3 q_g4), trivial⟩) ⟨.inl rfl, .inl rfl, .inr (ne_row b_g3 q_g4), trivial⟩
    exact ⟨⟨⟨a / q, b / p⟩, allR.s⟩, ⟨by unfold doU doS; (try unfold restU); simp only [if_neg (nb Ffk4.out), if_neg (nb Ffk5.out), if_neg (nb Ffk10.out), if_neg (nb Ffk15.out), if_neg (nb Ffk16.out), if_neg (nb Ffk17.out), if_pos (yb Ffk18.out)]; rw [if_neg (show ¬ p = 0 from HP1.out Ffk19.out)]; try rfl, ED.out⟩, f64.d, f64.z, f64.b, ⟨s6_243, s7_244, trivial⟩, ⟨b_g3_245, f64.rows.2.2.1, trivial⟩⟩
   have Ffk18 := Lib.hid fk18; clear fk18
   have s33_246 := f58.q 33 s33_218
   refine go_reg [] [] [some (.bool false), some (.bool false)] mo f58.d f58.z f58.b (by kernel_rfl) trivial (
    hk (fun cx => cx.v (ex_eq (x := .tmp 33) rfl (cx.rq 33 s33_246) rfl) rfl (congrArg Value.bool Ffk18.out)) <|
    hk (fun cx => cx.v (ex_as rfl (cx.u 0 rfl)) rfl rfl) <|
    hn) ?_
   intro a65 w65 f65
   refine wp_cond_false (f65.v 1 rfl rfl rfl) ?_
   refine wp_seq ?_
   cases fk20 : op == 9
   case true =>
    have Ffk20 := Lib.hid fk20; clear fk20
    have s33_247 := f65.q 33 s33_246
    refine go_reg [] [] [some (.bool true), some (.bool true)] mo f65.d f65.z f65.b (by kernel_rfl) trivial (
     hk (fun cx => cx.v (ex_eq (x := .tmp 33) rfl (cx.rq 33 s33_247) rfl) rfl (congrArg Value.bool Ffk20.out)) <|
     hk (fun cx => cx.v (ex_as rfl (cx.u 0 rfl)) rfl rfl) <|
     hn) ?_
    intro a66 w66 f66
    refine wp_cond_true (f66.v 1 rfl rfl rfl) ?_
    refine wp_seq ?_
    have b_g1_248 := f66.k (f65.k (f58.k (f55.k (f51.k (f48.k (f30.k (f12.k (f9.k (f8.k (f7.k b_g1_17))))))))))
    have b_g4_249 := f66.k (f65.k (f58.k (f55.k (f51.k (f48.k (f30.k (f12.k (f9.k (f8.k (f7.k b_g4))))))))))
    have s4_250 := f66.q 4 (f65.q 4 (f58.q 4 (f55.q 4 (f51.q 4 (f48.q 4 (f30.q 4 (f12.q 4 (f9.q 4 (f8.q 4 (f7.q 4 s4_19))))))))))
    have s7_251 := f66.q 7 (f65.q 7 (f58.q 7 (f55.q 7 (f51.q 7 (f48.q 7 (f30.q 7 (f12.q 7 (f9.q 7 (f8.q 7 (f7.q 7 u_g4))))))))))
    refine go_reg [bx g1 60 (cR a b c d), ⟨g4, 60, (cR allR.u.lo allR.u.hi allR.s.lo allR.s.hi), some 3, (cR allR.u.lo b allR.s.lo allR.s.hi)⟩] [] [some (pt g1 1), some (.int .u64 b), some (pt g4 1), none] mo f66.d f66.z f66.b (by kernel_rfl) ⟨b_g1_248, b_g4_249, trivial⟩ (
     hk (fun cx => cx.v (ex_fa rfl (cx.rq 4 s4_250) (faRU60_1_0 _ _)) rfl rfl) <|
     hk (fun cx => cx.v (ex_ld rfl (cx.u 0 rfl) (cx.rn 0 rfl) rfl Try.isAgg30) rfl rfl) <|
     hk (fun cx => cx.v (ex_fa rfl (cx.rq 7 s7_251) (faRU60_1_0 _ _)) rfl rfl) <|
     hk (fun cx => cx.stC (wn rfl) rfl rfl 1 rfl (cx.u 0 rfl) (cx.u 1 rfl) rfl rfl (by kernel_rfl) rfl rfl (Nat.le_trans f1.b.size q_g4) rfl ⟨(ne_row b_g1 q_g4), trivial⟩ trivial) <|
     hn) ?_
    intro a67 w67 f67
    refine wp_seq ?_
    cases fk21 : decide (0 < p)
    case false =>
     have Ffk21 := Lib.hid fk21; clear fk21
     have b_g2_252 := f67.kp (f66.k (f65.k (f58.k (f55.k (f51.k (f48.k (f30.k (f12.k (f9.k (f8.k b_g2_21)))))))))) ⟨.inl rfl, .inr (ne_row b_g2 q_g4), trivial⟩
     have s5_253 := f67.q 5 (f66.q 5 (f65.q 5 (f58.q 5 (f55.q 5 (f51.q 5 (f48.q 5 (f30.q 5 (f12.q 5 (f9.q 5 (f8.q 5 s5_22))))))))))
     refine go_reg [bx g2 60 (cR p q r t)] [] [some (pt g2 0), some (.int .u64 p), some (.bool false)] mo f67.d f67.z f67.b (by kernel_rfl) ⟨b_g2_252, trivial⟩ (
      hk (fun cx => cx.v (ex_fa rfl (cx.rq 5 s5_253) (faRU60_0_0 _ _)) rfl rfl) <|
      hk (fun cx => cx.v (ex_ld rfl (cx.u 0 rfl) (cx.rn 0 rfl) rfl Try.isAgg30) rfl rfl) <|
      hk (fun cx => cx.v (ex_gt (x := .tmp 185) rfl (cx.u 0 rfl) rfl) rfl (congrArg Value.bool Ffk21.out)) <|
      hn) ?_
     intro a68 w68 f68
     refine wp_cond_false (f68.v 2 rfl rfl rfl) ?_
     refine wp_skip ?_
     have s6_254 := f68.q 6 (f67.q 6 (f66.q 6 (f65.q 6 (f58.q 6 (f55.q 6 (f51.q 6 (f48.q 6 (f30.q 6 (f12.q 6 (f9.q 6 (f8.q 6 (f7.q 6 (f2.q 6 u_g3)))))))))))))
     have s7_255 := f68.q 7 (f67.q 7 s7_251)
     have b_g3_256 := f68.k (f67.kp (f66.k (f65.k (f58.k (f55.k (f51.k (f48.k (f30.k (f12.k (f9.k (f8.k (f7.k (f2.k b_g3)))))))))))) ⟨.inl rfl, .inr (ne_row b_g3 q_g4), trivial⟩)
     have b_g4_257 := f68.k f67.rows.2.1
     exact ⟨⟨⟨allR.u.lo, b⟩, allR.s⟩, ⟨by unfold doU doS; (try unfold restU); simp only [if_neg (nb Ffk4.out), if_neg (nb Ffk5.out), if_neg (nb Ffk10.out), if_neg (nb Ffk15.out), if_neg (nb Ffk16.out), if_neg (nb Ffk17.out), if_neg (nb Ffk18.out), if_pos (yb Ffk20.out)]; rw [if_pos (show p = 0 from HP0.out Ffk21.out)]; try rfl, ED.out⟩, f68.d, f68.z, f68.b, ⟨s6_254, s7_255, trivial⟩, ⟨b_g3_256, b_g4_257, trivial⟩⟩
    have Ffk21 := Lib.hid fk21; clear fk21
    have b_g2_258 := f67.kp (f66.k (f65.k (f58.k (f55.k (f51.k (f48.k (f30.k (f12.k (f9.k (f8.k b_g2_21)))))))))) ⟨.inl rfl, .inr (ne_row b_g2 q_g4), trivial⟩
    have s5_259 := f67.q 5 (f66.q 5 (f65.q 5 (f58.q 5 (f55.q 5 (f51.q 5 (f48.q 5 (f30.q 5 (f12.q 5 (f9.q 5 (f8.q 5 s5_22))))))))))
    refine go_reg [bx g2 60 (cR p q r t)] [] [some (pt g2 0), some (.int .u64 p), some (.bool true)] mo f67.d f67.z f67.b (by kernel_rfl) ⟨b_g2_258, trivial⟩ (
     hk (fun cx => cx.v (ex_fa rfl (cx.rq 5 s5_259) (faRU60_0_0 _ _)) rfl rfl) <|
     hk (fun cx => cx.v (ex_ld rfl (cx.u 0 rfl) (cx.rn 0 rfl) rfl Try.isAgg30) rfl rfl) <|
     hk (fun cx => cx.v (ex_gt (x := .tmp 185) rfl (cx.u 0 rfl) rfl) rfl (congrArg Value.bool Ffk21.out)) <|
     hn) ?_
    intro a69 w69 f69
    refine wp_cond_true (f69.v 2 rfl rfl rfl) ?_
    have b_g1_260 := f69.k (f67.kp b_g1_248 ⟨.inl rfl, .inr (ne_row b_g1 q_g4), trivial⟩)
    have b_g2_261 := f69.k b_g2_258
    have b_g4_262 := f69.k f67.rows.2.1
    have s4_263 := f69.q 4 (f67.q 4 s4_250)
    have s5_264 := f69.q 5 s5_259
    have s7_265 := f69.q 7 (f67.q 7 s7_251)
    refine go_reg [bx g1 60 (cR a b c d), bx g2 60 (cR p q r t), ⟨g4, 60, (cR allR.u.lo b allR.s.lo allR.s.hi), some 7, (cR allR.u.lo (min b (IntKind.u64.wrap (q - 1))) allR.s.lo allR.s.hi)⟩] [] [some (pt g1 1), some (.int .u64 b), some (pt g2 1), some (.int .u64 q), some (.int .u64 (IntKind.u64.wrap (q - 1))), some (.int .u64 (min b (IntKind.u64.wrap (q - 1)))), some (pt g4 1), none] mo f69.d f69.z f69.b (by kernel_rfl) ⟨b_g1_260, b_g2_261, b_g4_262, trivial⟩ (
     hk (fun cx => cx.v (ex_fa rfl (cx.rq 4 s4_263) (faRU60_1_0 _ _)) rfl rfl) <|
     hk (fun cx => cx.v (ex_ld rfl (cx.u 0 rfl) (cx.rn 0 rfl) rfl Try.isAgg30) rfl rfl) <|
     hk (fun cx => cx.v (ex_fa rfl (cx.rq 5 s5_264) (faRU60_1_0 _ _)) rfl rfl) <|
     hk (fun cx => cx.v (ex_ld rfl (cx.u 0 rfl) (cx.rn 1 rfl) rfl Try.isAgg30) rfl rfl) <|
     hk (fun cx => cx.v (ex_sub (x := .tmp 190) rfl (cx.u 0 rfl) rfl) rfl rfl) <|
     hk (fun cx => cx.v (ex_min (x := .tmp 188) (y := .tmp 191) rfl (cx.u 0 rfl) (cx.u 1 rfl)) rfl rfl) <|
     hk (fun cx => cx.v (ex_fa rfl (cx.rq 7 s7_265) (faRU60_1_0 _ _)) rfl rfl) <|
     hk (fun cx => cx.stC (wn rfl) rfl rfl 2 rfl (cx.u 0 rfl) (cx.u 1 rfl) rfl rfl (by kernel_rfl) rfl rfl (Nat.le_trans f1.b.size q_g4) rfl ⟨(ne_row b_g1 q_g4), (ne_row b_g2 q_g4), trivial⟩ trivial) <|
     hn) ?_
    intro a70 w70 f70
    have s6_266 := f70.q 6 (f69.q 6 (f67.q 6 (f66.q 6 (f65.q 6 (f58.q 6 (f55.q 6 (f51.q 6 (f48.q 6 (f30.q 6 (f12.q 6 (f9.q 6 (f8.q 6 (f7.q 6 (f2.q 6 u_g3))))))))))))))
    have s7_267 := f70.q 7 s7_265
    have b_g3_268 := f70.kp (f69.k (f67.kp (f66.k (f65.k (f58.k (f55.k (f51.k (f48.k (f30.k (f12.k (f9.k (f8.k (f7.k (f2.k b_g3)))))))))))) ⟨.inl rfl, .inr (ne_row b_g3 q_g4), trivial⟩)) ⟨.inl rfl, .inl rfl, .inr (ne_row b_g3 q_g4), trivial⟩
    exact ⟨⟨⟨allR.u.lo, min b (IntKind.u64.wrap (q - 1))⟩, allR.s⟩, ⟨by unfold doU doS; (try unfold restU); simp only [if_neg (nb Ffk4.out), if_neg (nb Ffk5.out), if_neg (nb Ffk10.out), if_neg (nb Ffk15.out), if_neg (nb Ffk16.out), if_neg (nb Ffk17.out), if_neg (nb Ffk18.out), if_pos (yb Ffk20.out)]; rw [if_neg (show ¬ p = 0 from HP1.out Ffk21.out)]; rw [← HM.out Ffk1.out Ffk2.out Ffk21.out]; try rfl, ED.out⟩, f70.d, f70.z, f70.b, ⟨s6_266, s7_267, trivial⟩, ⟨b_g3_268, f70.rows.2.2.1, trivial⟩⟩
   have Ffk20 := Lib.hid fk20; clear fk20
   have s33_269 := f65.q 33 s33_246
   refine go_reg [] [] [some (.bool false), some (.bool false)] mo f65.d f65.z f65.b (by kernel_rfl) trivial (
    hk (fun cx => cx.v (ex_eq (x := .tmp 33) rfl (cx.rq 33 s33_269) rfl) rfl (congrArg Value.bool Ffk20.out)) <|
    hk (fun cx => cx.v (ex_as rfl (cx.u 0 rfl)) rfl rfl) <|
    hn) ?_
   intro a71 w71 f71
   refine wp_cond_false (f71.v 1 rfl rfl rfl) ?_
   refine wp_seq ?_
   cases fk22 : op == 7
   case true =>
    have Ffk22 := Lib.hid fk22; clear fk22
    have s33_270 := f71.q 33 s33_269
    refine go_reg [] [] [some (.bool true), some (.bool true)] mo f71.d f71.z f71.b (by kernel_rfl) trivial (
     hk (fun cx => cx.v (ex_eq (x := .tmp 33) rfl (cx.rq 33 s33_270) rfl) rfl (congrArg Value.bool Ffk22.out)) <|
     hk (fun cx => cx.v (ex_as rfl (cx.u 0 rfl)) rfl rfl) <|
     hn) ?_
    intro a72 w72 f72
    refine wp_cond_true (f72.v 1 rfl rfl rfl) ?_
    refine wp_seq ?_
    have s9_271 := f72.q 9 (f71.q 9 (f65.q 9 (f58.q 9 (f55.q 9 (f51.q 9 (f48.q 9 (f30.q 9 (f12.q 9 (f9.q 9 (f8.v 6 rfl rfl rfl))))))))))
    refine go_reg [] [] [some (.bool false)] mo f72.d f72.z f72.b (by kernel_rfl) trivial (
     hk (fun cx => cx.v (ex_mv rfl (cx.rq 9 s9_271)) rfl rfl) <|
     hn) ?_
    intro a73 w73 f73
    refine wp_cond_false (f73.v 0 rfl rfl rfl) ?_
    refine wp_skip ?_
    have s6_272 := f73.q 6 (f72.q 6 (f71.q 6 (f65.q 6 (f58.q 6 (f55.q 6 (f51.q 6 (f48.q 6 (f30.q 6 (f12.q 6 (f9.q 6 (f8.q 6 (f7.q 6 (f2.q 6 u_g3)))))))))))))
    have s7_273 := f73.q 7 (f72.q 7 (f71.q 7 (f65.q 7 (f58.q 7 (f55.q 7 (f51.q 7 (f48.q 7 (f30.q 7 (f12.q 7 (f9.q 7 (f8.q 7 (f7.q 7 u_g4))))))))))))
    have b_g3_274 := f73.k (f72.k (f71.k (f65.k (f58.k (f55.k (f51.k (f48.k (f30.k (f12.k (f9.k (f8.k (f7.k (f2.k b_g3)))))))))))))
    have b_g4_275 := f73.k (f72.k (f71.k (f65.k (f58.k (f55.k (f51.k (f48.k (f30.k (f12.k (f9.k (f8.k (f7.k b_g4))))))))))))
    exact ⟨allR, ⟨by unfold doU doS; (try unfold restU); simp only [if_neg (nb Ffk4.out), if_neg (nb Ffk5.out), if_neg (nb Ffk10.out), if_neg (nb Ffk15.out), if_neg (nb Ffk16.out), if_neg (nb Ffk17.out), if_neg (nb Ffk18.out), if_neg (nb Ffk20.out), if_pos (yb Ffk22.out)]; rw [if_neg (show ¬ Rg.oneB ⟨⟨p, q⟩, ⟨r, t⟩⟩ = true by rw [Ffk3.out]; decide)]; try rfl, ED.out⟩, f73.d, f73.z, f73.b, ⟨s6_272, s7_273, trivial⟩, ⟨b_g3_274, b_g4_275, trivial⟩⟩
   have Ffk22 := Lib.hid fk22; clear fk22
   have s33_276 := f71.q 33 s33_269
   refine go_reg [] [] [some (.bool false), some (.bool false)] mo f71.d f71.z f71.b (by kernel_rfl) trivial (
    hk (fun cx => cx.v (ex_eq (x := .tmp 33) rfl (cx.rq 33 s33_276) rfl) rfl (congrArg Value.bool Ffk22.out)) <|
    hk (fun cx => cx.v (ex_as rfl (cx.u 0 rfl)) rfl rfl) <|
    hn) ?_
   intro a74 w74 f74
   refine wp_cond_false (f74.v 1 rfl rfl rfl) ?_
   refine wp_seq ?_
   cases fk23 : op == 6
   case true =>
    have Ffk23 := Lib.hid fk23; clear fk23
    have s33_277 := f74.q 33 s33_276
    refine go_reg [] [] [some (.bool true), some (.bool true)] mo f74.d f74.z f74.b (by kernel_rfl) trivial (
     hk (fun cx => cx.v (ex_eq (x := .tmp 33) rfl (cx.rq 33 s33_277) rfl) rfl (congrArg Value.bool Ffk23.out)) <|
     hk (fun cx => cx.v (ex_as rfl (cx.u 0 rfl)) rfl rfl) <|
     hn) ?_
    intro a75 w75 f75
    refine wp_cond_true (f75.v 1 rfl rfl rfl) ?_
    refine wp_seq ?_
    have s9_278 := f75.q 9 (f74.q 9 (f71.q 9 (f65.q 9 (f58.q 9 (f55.q 9 (f51.q 9 (f48.q 9 (f30.q 9 (f12.q 9 (f9.q 9 (f8.v 6 rfl rfl rfl)))))))))))
    refine go_reg [] [] [some (.bool false), some (.bool false), some (undef), some (undef), some (undef), some (undef), some (undef), some (undef), some (undef), some (undef), some (undef), some (undef), some (undef), some (.bool false)] mo f75.d f75.z f75.b (by kernel_rfl) trivial (
     hk (fun cx => cx.v (ex_mv rfl (cx.rq 9 s9_278)) rfl rfl) <|
     hk (fun cx => cx.v (ex_mv rfl (cx.u 0 rfl)) rfl rfl) <|
     hk (fun cx => cx.no (cx.wo rfl rfl rfl rfl (cx.u 0 rfl) rfl) rfl rfl rfl rfl) <|
     hk (fun cx => cx.no (cx.wo rfl rfl rfl rfl (cx.u 1 rfl) rfl) rfl rfl rfl rfl) <|
     hk (fun cx => cx.no (cx.wo rfl rfl rfl rfl (cx.u 0 rfl) rfl) rfl rfl rfl rfl) <|
     hk (fun cx => cx.no (cx.wo rfl rfl rfl rfl (cx.u 1 rfl) rfl) rfl rfl rfl rfl) <|
     hk (fun cx => cx.no (cx.wo rfl rfl rfl rfl (cx.u 2 rfl) rfl) rfl rfl rfl rfl) <|
     hk (fun cx => cx.no (cx.wo rfl rfl rfl rfl (cx.u 0 rfl) rfl) rfl rfl rfl rfl) <|
     hk (fun cx => cx.no (cx.wo rfl rfl rfl rfl (cx.u 1 rfl) rfl) rfl rfl rfl rfl) <|
     hk (fun cx => cx.no (cx.wo rfl rfl rfl rfl (cx.u 2 rfl) rfl) rfl rfl rfl rfl) <|
     hk (fun cx => cx.no (cx.wo rfl rfl rfl rfl (cx.u 0 rfl) rfl) rfl rfl rfl rfl) <|
     hk (fun cx => cx.no (cx.wo rfl rfl rfl rfl (cx.u 1 rfl) rfl) rfl rfl rfl rfl) <|
     hk (fun cx => cx.no (cx.wo rfl rfl rfl rfl (cx.u 2 rfl) rfl) rfl rfl rfl rfl) <|
     hk (fun cx => cx.v (ex_pf rfl (cx.u 0 rfl) rfl) rfl rfl) <|
     hn) ?_
    intro a76 w76 f76
    refine wp_cond_false (f76.v 13 rfl rfl rfl) ?_
    refine wp_skip ?_
    have s6_279 := f76.q 6 (f75.q 6 (f74.q 6 (f71.q 6 (f65.q 6 (f58.q 6 (f55.q 6 (f51.q 6 (f48.q 6 (f30.q 6 (f12.q 6 (f9.q 6 (f8.q 6 (f7.q 6 (f2.q 6 u_g3))))))))))))))
    have s7_280 := f76.q 7 (f75.q 7 (f74.q 7 (f71.q 7 (f65.q 7 (f58.q 7 (f55.q 7 (f51.q 7 (f48.q 7 (f30.q 7 (f12.q 7 (f9.q 7 (f8.q 7 (f7.q 7 u_g4)))))))))))))
    have b_g3_281 := f76.k (f75.k (f74.k (f71.k (f65.k (f58.k (f55.k (f51.k (f48.k (f30.k (f12.k (f9.k (f8.k (f7.k (f2.k b_g3))))))))))))))
    have b_g4_282 := f76.k (f75.k (f74.k (f71.k (f65.k (f58.k (f55.k (f51.k (f48.k (f30.k (f12.k (f9.k (f8.k (f7.k b_g4)))))))))))))
    exact ⟨allR, ⟨by unfold doU doS; (try unfold restU); simp only [if_neg (nb Ffk4.out), if_neg (nb Ffk5.out), if_neg (nb Ffk10.out), if_neg (nb Ffk15.out), if_neg (nb Ffk16.out), if_neg (nb Ffk17.out), if_neg (nb Ffk18.out), if_neg (nb Ffk20.out), if_neg (nb Ffk22.out), if_pos (yb Ffk23.out)]; rw [if_neg (by rw [Ffk3.out, Bool.false_and]; exact Bool.false_ne_true)]; try rfl, ED.out⟩, f76.d, f76.z, f76.b, ⟨s6_279, s7_280, trivial⟩, ⟨b_g3_281, b_g4_282, trivial⟩⟩
   have Ffk23 := Lib.hid fk23; clear fk23
   have s33_283 := f74.q 33 s33_276
   refine go_reg [] [] [some (.bool false), some (.bool false)] mo f74.d f74.z f74.b (by kernel_rfl) trivial (
    hk (fun cx => cx.v (ex_eq (x := .tmp 33) rfl (cx.rq 33 s33_283) rfl) rfl (congrArg Value.bool Ffk23.out)) <|
    hk (fun cx => cx.v (ex_as rfl (cx.u 0 rfl)) rfl rfl) <|
    hn) ?_
   intro a77 w77 f77
   refine wp_cond_false (f77.v 1 rfl rfl rfl) ?_
   refine wp_skip ?_
   have s6_284 := f77.q 6 (f74.q 6 (f71.q 6 (f65.q 6 (f58.q 6 (f55.q 6 (f51.q 6 (f48.q 6 (f30.q 6 (f12.q 6 (f9.q 6 (f8.q 6 (f7.q 6 (f2.q 6 u_g3)))))))))))))
   have s7_285 := f77.q 7 (f74.q 7 (f71.q 7 (f65.q 7 (f58.q 7 (f55.q 7 (f51.q 7 (f48.q 7 (f30.q 7 (f12.q 7 (f9.q 7 (f8.q 7 (f7.q 7 u_g4))))))))))))
   have b_g3_286 := f77.k (f74.k (f71.k (f65.k (f58.k (f55.k (f51.k (f48.k (f30.k (f12.k (f9.k (f8.k (f7.k (f2.k b_g3)))))))))))))
   have b_g4_287 := f77.k (f74.k (f71.k (f65.k (f58.k (f55.k (f51.k (f48.k (f30.k (f12.k (f9.k (f8.k (f7.k b_g4))))))))))))
   exact ⟨allR, ⟨by unfold doU doS; (try unfold restU); simp only [if_neg (nb Ffk4.out), if_neg (nb Ffk5.out), if_neg (nb Ffk10.out), if_neg (nb Ffk15.out), if_neg (nb Ffk16.out), if_neg (nb Ffk17.out), if_neg (nb Ffk18.out), if_neg (nb Ffk20.out), if_neg (nb Ffk22.out), if_neg (nb Ffk23.out)]; try rfl, ED.out⟩, f77.d, f77.z, f77.b, ⟨s6_284, s7_285, trivial⟩, ⟨b_g3_286, b_g4_287, trivial⟩⟩
   rintro aM wM ⟨z, hM, dM, zM, BM, ⟨sM6, sM7, -⟩, ⟨bM_g3, bM_g4, -⟩⟩
   replace sM6 : aM.tmps.getD 6 undef = .pointer (some ⟨g3, 0, none⟩) := sM6
   replace sM7 : aM.tmps.getD 7 undef = .pointer (some ⟨g4, 0, none⟩) := sM7
   refine wp_seq ?_
   refine go_reg [bx g4 60 (cR z.u.lo z.u.hi z.s.lo z.s.hi), ⟨g3, 60, (cR 0 0 0 0), some 2, (cR D.u.lo D.u.hi D.s.lo D.s.hi)⟩] [] [some (.agg (cR z.u.lo z.u.hi z.s.lo z.s.hi)), some (.agg (cR D.u.lo D.u.hi D.s.lo D.s.hi)), none] mo dM zM BM (by kernel_rfl) ⟨bM_g4, bM_g3, trivial⟩ (
    hk (fun cx => cx.v (ldR rfl (cx.rq 7 sM7) (cx.rn 0 rfl)) rfl rfl) <|
    hc (fun _ _ wx cx => cx.c rfl (args1 (cx.u 0 rfl)) Try.func87 (by decide +kernel) (nar_via hM HA.out HB.out Ffk1.out Ffk2.out wx) rfl rfl) <|
    hk (fun cx => cx.stR (wn rfl) rfl rfl 1 rfl (cx.rq 6 sM6) (cx.u 0 rfl) (by kernel_rfl) rfl (by simp [Value.oneCell']) q_g3 rfl ⟨neM0_1.symm, trivial⟩ trivial) <|
    hn) ?_
   intro a78 w78 f78
   refine wp_ret ?_
   have s6_288 := f78.q 6 sM6
   try simp only [Exit.inBlock, Exit.then]
   refine bodyPost_ret (res_c (fn := Try.f40) rfl s6_288 (load_row 60 f78.rows.2.1 Try.underlying60 rfl (by kernel_rfl))) f78.d ?_
   exact ⟨rfl, f78.b⟩
  have Ffk3 := Lib.hid fk3; clear fk3
  have b_g2_289 := f7.k b_g2_18
  have s5_290 := f7.q 5 s5_20
  refine go_reg [bx g2 60 (cR p q r t)] [] [some (.agg (cR p q r t)), some (.tuple #[.int .u64 (Rg.oneV ⟨⟨p, q⟩, ⟨r, t⟩⟩), .bool (Rg.oneB ⟨⟨p, q⟩, ⟨r, t⟩⟩)]), some (.tuple #[.int .u64 (Rg.oneV ⟨⟨p, q⟩, ⟨r, t⟩⟩), .bool (Rg.oneB ⟨⟨p, q⟩, ⟨r, t⟩⟩)]), some (.int .u64 (Rg.oneV ⟨⟨p, q⟩, ⟨r, t⟩⟩)), some (.bool true), some (.int .u64 (Rg.oneV ⟨⟨p, q⟩, ⟨r, t⟩⟩)), some (.bool true)] mo f7.d f7.z f7.b (by kernel_rfl) ⟨b_g2_289, trivial⟩ (
   hk (fun cx => cx.v (ldR rfl (cx.rq 5 s5_290) (cx.rn 0 rfl)) rfl rfl) <|
   hc (fun _ _ wx cx => cx.c rfl (args1 (cx.u 0 rfl)) Try.func24 (by decide +kernel) (rsingle_n p q r t wx) rfl rfl) <|
   hk (fun cx => cx.v (ex_mv rfl (cx.u 0 rfl)) rfl rfl) <|
   hk (fun cx => cx.v (ex_ext (x := .tmp 28) rfl (cx.u 0 rfl) rfl) rfl rfl) <|
   hk (fun cx => cx.v (ex_ext (x := .tmp 28) rfl (cx.u 0 rfl) rfl) rfl (congrArg Value.bool Ffk3.out)) <|
   hk (fun cx => cx.v (ex_as rfl (cx.u 0 rfl)) rfl rfl) <|
   hk (fun cx => cx.v (ex_as rfl (cx.u 0 rfl)) rfl rfl) <|
   hn) ?_
  intro a79 w79 f79
  refine wp_seq ?_
  refine wp_seq ?_
  have s0_291 := f79.q 0 (f7.q 0 (f2.q 0 (f1.q 0 s0_0)))
  refine go_reg [] [] [some (.int .i8 op)] mo f79.d f79.z f79.b (by kernel_rfl) trivial (
   hk (fun cx => cx.v (ex_mv rfl (cx.rq 0 s0_291)) rfl rfl) <|
   hn) ?_
  intro a80 w80 f80
  refine wp_block ?_
  refine wp_seq ?_
  cases fk24 : op == 11
  case true =>
   have Ffk24 := Lib.hid fk24; clear fk24
   refine go_reg [] [] [some (.bool true), some (.bool true)] mo f80.d f80.z f80.b (by kernel_rfl) trivial (
    hk (fun cx => cx.v (ex_eq (x := .tmp 33) rfl (cx.rq 33 (f80.v 0 rfl rfl rfl)) rfl) rfl (congrArg Value.bool Ffk24.out)) <|
    hk (fun cx => cx.v (ex_as rfl (cx.u 0 rfl)) rfl rfl) <|
    hn) ?_
   intro a81 w81 f81
   refine wp_cond_true (f81.v 1 rfl rfl rfl) ?_
   refine wp_seq ?_
   have b_g2_292 := f81.k (f80.k (f79.k b_g2_289))
   have b_g3_293 := f81.k (f80.k (f79.k (f7.k (f2.k b_g3))))
   have s5_294 := f81.q 5 (f80.q 5 (f79.q 5 s5_290))
   have s6_295 := f81.q 6 (f80.q 6 (f79.q 6 (f7.q 6 (f2.q 6 u_g3))))
   refine go_reg [bx g2 60 (cR p q r t), ⟨g3, 60, (cR 0 0 0 0), some 2, (cR D.u.lo D.u.hi D.s.lo D.s.hi)⟩] [] [some (.agg (cR p q r t)), some (.agg (cR D.u.lo D.u.hi D.s.lo D.s.hi)), none] mo f81.d f81.z f81.b (by kernel_rfl) ⟨b_g2_292, b_g3_293, trivial⟩ (
    hk (fun cx => cx.v (ldR rfl (cx.rq 5 s5_294) (cx.rn 0 rfl)) rfl rfl) <|
    hc (fun _ _ wx cx => cx.c rfl (args1 (cx.u 0 rfl)) Try.func87 (by decide +kernel) (nar_mov (op := op) (x := ⟨⟨a, b⟩, ⟨c, d⟩⟩) (y := ⟨⟨p, q⟩, ⟨r, t⟩⟩) (z := ⟨⟨p, q⟩, ⟨r, t⟩⟩) (by unfold doU doS; (try unfold restU); simp only [if_pos (yb Ffk24.out)]; try rfl) ED.out HA.out HB.out Ffk1.out Ffk2.out wx) rfl rfl) <|
    hk (fun cx => cx.stR (wn rfl) rfl rfl 1 rfl (cx.rq 6 s6_295) (cx.u 0 rfl) (by kernel_rfl) rfl (by simp [Value.oneCell']) q_g3 rfl ⟨(ne_ptr (pairAt f1.ps 1 2 (by decide) rfl rfl) u_g2 u_g3), trivial⟩ trivial) <|
    hn) ?_
   intro a82 w82 f82
   refine wp_ret ?_
   have s6_296 := f82.q 6 s6_295
   try simp only [Exit.inBlock, Exit.then]
   refine bodyPost_ret (res_c (fn := Try.f40) rfl s6_296 (load_row 60 f82.rows.2.1 Try.underlying60 rfl (by kernel_rfl))) f82.d ?_
   exact ⟨rfl, f82.b⟩
  have Ffk24 := Lib.hid fk24; clear fk24
  refine go_reg [] [] [some (.bool false), some (.bool false)] mo f80.d f80.z f80.b (by kernel_rfl) trivial (
   hk (fun cx => cx.v (ex_eq (x := .tmp 33) rfl (cx.rq 33 (f80.v 0 rfl rfl rfl)) rfl) rfl (congrArg Value.bool Ffk24.out)) <|
   hk (fun cx => cx.v (ex_as rfl (cx.u 0 rfl)) rfl rfl) <|
   hn) ?_
  intro a83 w83 f83
  refine wp_cond_false (f83.v 1 rfl rfl rfl) ?_
  refine wp_seq ?_
  cases fk25 : op == 0
  case true =>
   have Ffk25 := Lib.hid fk25; clear fk25
   have s33_297 := f83.q 33 (f80.v 0 rfl rfl rfl)
   refine go_reg [] [] [some (.bool true), some (.bool true)] mo f83.d f83.z f83.b (by kernel_rfl) trivial (
    hk (fun cx => cx.v (ex_eq (x := .tmp 33) rfl (cx.rq 33 s33_297) rfl) rfl (congrArg Value.bool Ffk25.out)) <|
    hk (fun cx => cx.v (ex_as rfl (cx.u 0 rfl)) rfl rfl) <|
    hn) ?_
   intro a84 w84 f84
   refine wp_cond_true (f84.v 1 rfl rfl rfl) ?_
   refine wp_seq ?_
   refine wp_seq ?_
   cases fk26 : decide (b ≤ (IntKind.u64.wrap (b + q)))
   case false =>
    have Ffk26 := Lib.hid fk26; clear fk26
    have b_g1_298 := f84.k (f83.k (f80.k (f79.k (f7.k b_g1_17))))
    have b_g2_299 := f84.k (f83.k (f80.k (f79.k b_g2_289)))
    have s4_300 := f84.q 4 (f83.q 4 (f80.q 4 (f79.q 4 (f7.q 4 s4_19))))
    have s5_301 := f84.q 5 (f83.q 5 (f80.q 5 (f79.q 5 s5_290)))
    refine go_reg [bx g1 60 (cR a b c d), bx g2 60 (cR p q r t)] [] [some (pt g1 1), some (.int .u64 b), some (pt g2 1), some (.int .u64 q), some (.int .u64 (IntKind.u64.wrap (b + q))), some (pt g1 1), some (.int .u64 b), some (.bool false)] mo f84.d f84.z f84.b (by kernel_rfl) ⟨b_g1_298, b_g2_299, trivial⟩ (
     hk (fun cx => cx.v (ex_fa rfl (cx.rq 4 s4_300) (faRU60_1_0 _ _)) rfl rfl) <|
     hk (fun cx => cx.v (ex_ld rfl (cx.u 0 rfl) (cx.rn 0 rfl) rfl Try.isAgg30) rfl rfl) <|
     hk (fun cx => cx.v (ex_fa rfl (cx.rq 5 s5_301) (faRU60_1_0 _ _)) rfl rfl) <|
     hk (fun cx => cx.v (ex_ld rfl (cx.u 0 rfl) (cx.rn 1 rfl) rfl Try.isAgg30) rfl rfl) <|
     hk (fun cx => cx.v (ex_add (x := .tmp 41) (y := .tmp 43) rfl (cx.u 0 rfl) (cx.u 1 rfl)) rfl rfl) <|
     hk (fun cx => cx.v (ex_fa rfl (cx.rq 4 s4_300) (faRU60_1_0 _ _)) rfl rfl) <|
     hk (fun cx => cx.v (ex_ld rfl (cx.u 0 rfl) (cx.rn 0 rfl) rfl Try.isAgg30) rfl rfl) <|
     hk (fun cx => cx.v (ex_ge (x := .tmp 44) (y := .tmp 46) rfl (cx.u 0 rfl) (cx.u 1 rfl)) rfl (congrArg Value.bool Ffk26.out)) <|
     hn) ?_
    intro a85 w85 f85
    refine wp_cond_false (f85.v 7 rfl rfl rfl) ?_
    refine wp_skip ?_
    refine wp_seq ?_
    cases fk27 : sumS c r
    case false =>
     have Ffk27 := Lib.hid fk27; clear fk27
     have b_g1_302 := f85.k b_g1_298
     have b_g2_303 := f85.k b_g2_299
     have s4_304 := f85.q 4 s4_300
     have s5_305 := f85.q 5 s5_301
     refine go_reg [bx g1 60 (cR a b c d), bx g2 60 (cR p q r t)] [] [some (pt g1 2), some (.int .i64 c), some (pt g2 2), some (.int .i64 r), some (.tuple #[.int .i64 (IntKind.i64.wrap (c + r)), .bool (sumS c r)]), some (.tuple #[.int .i64 (IntKind.i64.wrap (c + r)), .bool (sumS c r)]), some (.int .i64 (IntKind.i64.wrap (c + r))), some (.bool false), some (.int .i64 (IntKind.i64.wrap (c + r))), some (.bool false)] mo f85.d f85.z f85.b (by kernel_rfl) ⟨b_g1_302, b_g2_303, trivial⟩ (
      hk (fun cx => cx.v (ex_fa rfl (cx.rq 4 s4_304) (faRU60_2_0 _ _)) rfl rfl) <|
      hk (fun cx => cx.v (ex_ld rfl (cx.u 0 rfl) (cx.rn 0 rfl) rfl Try.isAgg2) rfl rfl) <|
      hk (fun cx => cx.v (ex_fa rfl (cx.rq 5 s5_305) (faRU60_2_0 _ _)) rfl rfl) <|
      hk (fun cx => cx.v (ex_ld rfl (cx.u 0 rfl) (cx.rn 1 rfl) rfl Try.isAgg2) rfl rfl) <|
      hc (fun _ _ wx cx => cx.c rfl (args2 (cx.u 0 rfl) (cx.u 1 rfl)) Try.func88 (by decide +kernel) (rplus_n c r wx HS.out.1.1 HS.out.2.1) rfl rfl) <|
      hk (fun cx => cx.v (ex_mv rfl (cx.u 0 rfl)) rfl rfl) <|
      hk (fun cx => cx.v (ex_ext (x := .tmp 60) rfl (cx.u 0 rfl) rfl) rfl rfl) <|
      hk (fun cx => cx.v (ex_ext (x := .tmp 60) rfl (cx.u 0 rfl) rfl) rfl (congrArg Value.bool Ffk27.out)) <|
      hk (fun cx => cx.v (ex_as rfl (cx.u 0 rfl)) rfl rfl) <|
      hk (fun cx => cx.v (ex_as rfl (cx.u 0 rfl)) rfl rfl) <|
      hn) ?_
     intro a86 w86 f86
     refine wp_seq ?_
     cases fk28 : sumS d t
     case false =>
      have Ffk28 := Lib.hid fk28; clear fk28
      have b_g1_306 := f86.k b_g1_302
      have b_g2_307 := f86.k b_g2_303
      have s4_308 := f86.q 4 s4_304
      have s5_309 := f86.q 5 s5_305
      refine go_reg [bx g1 60 (cR a b c d), bx g2 60 (cR p q r t)] [] [some (pt g1 3), some (.int .i64 d), some (pt g2 3), some (.int .i64 t), some (.tuple #[.int .i64 (IntKind.i64.wrap (d + t)), .bool (sumS d t)]), some (.tuple #[.int .i64 (IntKind.i64.wrap (d + t)), .bool (sumS d t)]), some (.int .i64 (IntKind.i64.wrap (d + t))), some (.bool false), some (.int .i64 (IntKind.i64.wrap (d + t))), some (.bool false)] mo f86.d f86.z f86.b (by kernel_rfl) ⟨b_g1_306, b_g2_307, trivial⟩ (
       hk (fun cx => cx.v (ex_fa rfl (cx.rq 4 s4_308) (faRU60_3_0 _ _)) rfl rfl) <|
       hk (fun cx => cx.v (ex_ld rfl (cx.u 0 rfl) (cx.rn 0 rfl) rfl Try.isAgg2) rfl rfl) <|
       hk (fun cx => cx.v (ex_fa rfl (cx.rq 5 s5_309) (faRU60_3_0 _ _)) rfl rfl) <|
       hk (fun cx => cx.v (ex_ld rfl (cx.u 0 rfl) (cx.rn 1 rfl) rfl Try.isAgg2) rfl rfl) <|
       hc (fun _ _ wx cx => cx.c rfl (args2 (cx.u 0 rfl) (cx.u 1 rfl)) Try.func88 (by decide +kernel) (rplus_n d t wx HS.out.1.2 HS.out.2.2) rfl rfl) <|
       hk (fun cx => cx.v (ex_mv rfl (cx.u 0 rfl)) rfl rfl) <|
       hk (fun cx => cx.v (ex_ext (x := .tmp 68) rfl (cx.u 0 rfl) rfl) rfl rfl) <|
       hk (fun cx => cx.v (ex_ext (x := .tmp 68) rfl (cx.u 0 rfl) rfl) rfl (congrArg Value.bool Ffk28.out)) <|
       hk (fun cx => cx.v (ex_as rfl (cx.u 0 rfl)) rfl rfl) <|
       hk (fun cx => cx.v (ex_as rfl (cx.u 0 rfl)) rfl rfl) <|
       hn) ?_
      intro a87 w87 f87
      refine wp_seq ?_
      have s11_310 := f87.q 11 (f86.v 9 rfl rfl rfl)
      refine go_reg [] [] [some (.bool false), some (.bool false), some (undef), some (.bool false)] mo f87.d f87.z f87.b (by kernel_rfl) trivial (
       hk (fun cx => cx.v (ex_mv rfl (cx.rq 11 s11_310)) rfl rfl) <|
       hk (fun cx => cx.v (ex_mv rfl (cx.u 0 rfl)) rfl rfl) <|
       hk (fun cx => cx.no (cx.wo rfl rfl rfl rfl (cx.u 0 rfl) rfl) rfl rfl rfl rfl) <|
       hk (fun cx => cx.v (ex_pf rfl (cx.u 0 rfl) rfl) rfl rfl) <|
       hn) ?_
      intro a88 w88 f88
      refine wp_cond_false (f88.v 3 rfl rfl rfl) ?_
      refine wp_skip ?_
      refine wp_seq ?_
      have b_g4_311 := f88.k (f87.k (f86.k (f85.k (f84.k (f83.k (f80.k (f79.k (f7.k b_g4))))))))
      have b_g3_312 := f88.k (f87.k (f86.k (f85.k (f84.k (f83.k (f80.k (f79.k (f7.k (f2.k b_g3)))))))))
      have s7_313 := f88.q 7 (f87.q 7 (f86.q 7 (f85.q 7 (f84.q 7 (f83.q 7 (f80.q 7 (f79.q 7 (f7.q 7 u_g4))))))))
      have s6_314 := f88.q 6 (f87.q 6 (f86.q 6 (f85.q 6 (f84.q 6 (f83.q 6 (f80.q 6 (f79.q 6 (f7.q 6 (f2.q 6 u_g3)))))))))
      refine go_reg [bx g4 60 (cR allR.u.lo allR.u.hi allR.s.lo allR.s.hi), ⟨g3, 60, (cR 0 0 0 0), some 2, (cR D.u.lo D.u.hi D.s.lo D.s.hi)⟩] [] [some (.agg (cR allR.u.lo allR.u.hi allR.s.lo allR.s.hi)), some (.agg (cR D.u.lo D.u.hi D.s.lo D.s.hi)), none] mo f88.d f88.z f88.b (by kernel_rfl) ⟨b_g4_311, b_g3_312, trivial⟩ (
       hk (fun cx => cx.v (ldR rfl (cx.rq 7 s7_313) (cx.rn 0 rfl)) rfl rfl) <|
       hc (fun _ _ wx cx => cx.c rfl (args1 (cx.u 0 rfl)) Try.func87 (by decide +kernel) (nar_mov (op := op) (x := ⟨⟨a, b⟩, ⟨c, d⟩⟩) (y := ⟨⟨p, q⟩, ⟨r, t⟩⟩) (z := allR) (by unfold doU doS; (try unfold restU); simp only [if_neg (nb Ffk24.out), if_pos (yb Ffk25.out)]; rw [HPU0.out Ffk1.out Ffk2.out Ffk26.out, HPS0.out Ffk27.out]; try rfl) ED.out HA.out HB.out Ffk1.out Ffk2.out wx) rfl rfl) <|
       hk (fun cx => cx.stR (wn rfl) rfl rfl 1 rfl (cx.rq 6 s6_314) (cx.u 0 rfl) (by kernel_rfl) rfl (by simp [Value.oneCell']) q_g3 rfl ⟨(ne_row b_g3 q_g4).symm, trivial⟩ trivial) <|
       hn) ?_
      intro a89 w89 f89
      refine wp_ret ?_
      have s6_315 := f89.q 6 s6_314
      try simp only [Exit.inBlock, Exit.then]
      refine bodyPost_ret (res_c (fn := Try.f40) rfl s6_315 (load_row 60 f89.rows.2.1 Try.underlying60 rfl (by kernel_rfl))) f89.d ?_
      exact ⟨rfl, f89.b⟩
     have Ffk28 := Lib.hid fk28; clear fk28
     have b_g1_316 := f86.k b_g1_302
     have b_g2_317 := f86.k b_g2_303
     have s4_318 := f86.q 4 s4_304
     have s5_319 := f86.q 5 s5_305
     refine go_reg [bx g1 60 (cR a b c d), bx g2 60 (cR p q r t)] [] [some (pt g1 3), some (.int .i64 d), some (pt g2 3), some (.int .i64 t), some (.tuple #[.int .i64 (IntKind.i64.wrap (d + t)), .bool (sumS d t)]), some (.tuple #[.int .i64 (IntKind.i64.wrap (d + t)), .bool (sumS d t)]), some (.int .i64 (IntKind.i64.wrap (d + t))), some (.bool true), some (.int .i64 (IntKind.i64.wrap (d + t))), some (.bool true)] mo f86.d f86.z f86.b (by kernel_rfl) ⟨b_g1_316, b_g2_317, trivial⟩ (
      hk (fun cx => cx.v (ex_fa rfl (cx.rq 4 s4_318) (faRU60_3_0 _ _)) rfl rfl) <|
      hk (fun cx => cx.v (ex_ld rfl (cx.u 0 rfl) (cx.rn 0 rfl) rfl Try.isAgg2) rfl rfl) <|
      hk (fun cx => cx.v (ex_fa rfl (cx.rq 5 s5_319) (faRU60_3_0 _ _)) rfl rfl) <|
      hk (fun cx => cx.v (ex_ld rfl (cx.u 0 rfl) (cx.rn 1 rfl) rfl Try.isAgg2) rfl rfl) <|
      hc (fun _ _ wx cx => cx.c rfl (args2 (cx.u 0 rfl) (cx.u 1 rfl)) Try.func88 (by decide +kernel) (rplus_n d t wx HS.out.1.2 HS.out.2.2) rfl rfl) <|
      hk (fun cx => cx.v (ex_mv rfl (cx.u 0 rfl)) rfl rfl) <|
      hk (fun cx => cx.v (ex_ext (x := .tmp 68) rfl (cx.u 0 rfl) rfl) rfl rfl) <|
      hk (fun cx => cx.v (ex_ext (x := .tmp 68) rfl (cx.u 0 rfl) rfl) rfl (congrArg Value.bool Ffk28.out)) <|
      hk (fun cx => cx.v (ex_as rfl (cx.u 0 rfl)) rfl rfl) <|
      hk (fun cx => cx.v (ex_as rfl (cx.u 0 rfl)) rfl rfl) <|
      hn) ?_
     intro a90 w90 f90
     refine wp_seq ?_
     have s11_320 := f90.q 11 (f86.v 9 rfl rfl rfl)
     refine go_reg [] [] [some (.bool false), some (.bool false), some (undef), some (.bool false)] mo f90.d f90.z f90.b (by kernel_rfl) trivial (
      hk (fun cx => cx.v (ex_mv rfl (cx.rq 11 s11_320)) rfl rfl) <|
      hk (fun cx => cx.v (ex_mv rfl (cx.u 0 rfl)) rfl rfl) <|
      hk (fun cx => cx.no (cx.wo rfl rfl rfl rfl (cx.u 0 rfl) rfl) rfl rfl rfl rfl) <|
      hk (fun cx => cx.v (ex_pf rfl (cx.u 0 rfl) rfl) rfl rfl) <|
      hn) ?_
     intro a91 w91 f91
     refine wp_cond_false (f91.v 3 rfl rfl rfl) ?_
     refine wp_skip ?_
     refine wp_seq ?_
     have b_g4_321 := f91.k (f90.k (f86.k (f85.k (f84.k (f83.k (f80.k (f79.k (f7.k b_g4))))))))
     have b_g3_322 := f91.k (f90.k (f86.k (f85.k (f84.k (f83.k (f80.k (f79.k (f7.k (f2.k b_g3)))))))))
     have s7_323 := f91.q 7 (f90.q 7 (f86.q 7 (f85.q 7 (f84.q 7 (f83.q 7 (f80.q 7 (f79.q 7 (f7.q 7 u_g4))))))))
     have s6_324 := f91.q 6 (f90.q 6 (f86.q 6 (f85.q 6 (f84.q 6 (f83.q 6 (f80.q 6 (f79.q 6 (f7.q 6 (f2.q 6 u_g3)))))))))
     refine go_reg [bx g4 60 (cR allR.u.lo allR.u.hi allR.s.lo allR.s.hi), ⟨g3, 60, (cR 0 0 0 0), some 2, (cR D.u.lo D.u.hi D.s.lo D.s.hi)⟩] [] [some (.agg (cR allR.u.lo allR.u.hi allR.s.lo allR.s.hi)), some (.agg (cR D.u.lo D.u.hi D.s.lo D.s.hi)), none] mo f91.d f91.z f91.b (by kernel_rfl) ⟨b_g4_321, b_g3_322, trivial⟩ (
      hk (fun cx => cx.v (ldR rfl (cx.rq 7 s7_323) (cx.rn 0 rfl)) rfl rfl) <|
      hc (fun _ _ wx cx => cx.c rfl (args1 (cx.u 0 rfl)) Try.func87 (by decide +kernel) (nar_mov (op := op) (x := ⟨⟨a, b⟩, ⟨c, d⟩⟩) (y := ⟨⟨p, q⟩, ⟨r, t⟩⟩) (z := allR) (by unfold doU doS; (try unfold restU); simp only [if_neg (nb Ffk24.out), if_pos (yb Ffk25.out)]; rw [HPU0.out Ffk1.out Ffk2.out Ffk26.out, HPS0.out Ffk27.out]; try rfl) ED.out HA.out HB.out Ffk1.out Ffk2.out wx) rfl rfl) <|
      hk (fun cx => cx.stR (wn rfl) rfl rfl 1 rfl (cx.rq 6 s6_324) (cx.u 0 rfl) (by kernel_rfl) rfl (by simp [Value.oneCell']) q_g3 rfl ⟨(ne_row b_g3 q_g4).symm, trivial⟩ trivial) <|
      hn) ?_
     intro a92 w92 f92
     refine wp_ret ?_
     have s6_325 := f92.q 6 s6_324
     try simp only [Exit.inBlock, Exit.then]
     refine bodyPost_ret (res_c (fn := Try.f40) rfl s6_325 (load_row 60 f92.rows.2.1 Try.underlying60 rfl (by kernel_rfl))) f92.d ?_
     exact ⟨rfl, f92.b⟩
    have Ffk27 := Lib.hid fk27; clear fk27
    have b_g1_326 := f85.k b_g1_298
    have b_g2_327 := f85.k b_g2_299
    have s4_328 := f85.q 4 s4_300
    have s5_329 := f85.q 5 s5_301
    refine go_reg [bx g1 60 (cR a b c d), bx g2 60 (cR p q r t)] [] [some (pt g1 2), some (.int .i64 c), some (pt g2 2), some (.int .i64 r), some (.tuple #[.int .i64 (IntKind.i64.wrap (c + r)), .bool (sumS c r)]), some (.tuple #[.int .i64 (IntKind.i64.wrap (c + r)), .bool (sumS c r)]), some (.int .i64 (IntKind.i64.wrap (c + r))), some (.bool true), some (.int .i64 (IntKind.i64.wrap (c + r))), some (.bool true)] mo f85.d f85.z f85.b (by kernel_rfl) ⟨b_g1_326, b_g2_327, trivial⟩ (
     hk (fun cx => cx.v (ex_fa rfl (cx.rq 4 s4_328) (faRU60_2_0 _ _)) rfl rfl) <|
     hk (fun cx => cx.v (ex_ld rfl (cx.u 0 rfl) (cx.rn 0 rfl) rfl Try.isAgg2) rfl rfl) <|
     hk (fun cx => cx.v (ex_fa rfl (cx.rq 5 s5_329) (faRU60_2_0 _ _)) rfl rfl) <|
     hk (fun cx => cx.v (ex_ld rfl (cx.u 0 rfl) (cx.rn 1 rfl) rfl Try.isAgg2) rfl rfl) <|
     hc (fun _ _ wx cx => cx.c rfl (args2 (cx.u 0 rfl) (cx.u 1 rfl)) Try.func88 (by decide +kernel) (rplus_n c r wx HS.out.1.1 HS.out.2.1) rfl rfl) <|
     hk (fun cx => cx.v (ex_mv rfl (cx.u 0 rfl)) rfl rfl) <|
     hk (fun cx => cx.v (ex_ext (x := .tmp 60) rfl (cx.u 0 rfl) rfl) rfl rfl) <|
     hk (fun cx => cx.v (ex_ext (x := .tmp 60) rfl (cx.u 0 rfl) rfl) rfl (congrArg Value.bool Ffk27.out)) <|
     hk (fun cx => cx.v (ex_as rfl (cx.u 0 rfl)) rfl rfl) <|
     hk (fun cx => cx.v (ex_as rfl (cx.u 0 rfl)) rfl rfl) <|
     hn) ?_
    intro a93 w93 f93
    refine wp_seq ?_
    cases fk29 : sumS d t
    case false =>
     have Ffk29 := Lib.hid fk29; clear fk29
     have b_g1_330 := f93.k b_g1_326
     have b_g2_331 := f93.k b_g2_327
     have s4_332 := f93.q 4 s4_328
     have s5_333 := f93.q 5 s5_329
     refine go_reg [bx g1 60 (cR a b c d), bx g2 60 (cR p q r t)] [] [some (pt g1 3), some (.int .i64 d), some (pt g2 3), some (.int .i64 t), some (.tuple #[.int .i64 (IntKind.i64.wrap (d + t)), .bool (sumS d t)]), some (.tuple #[.int .i64 (IntKind.i64.wrap (d + t)), .bool (sumS d t)]), some (.int .i64 (IntKind.i64.wrap (d + t))), some (.bool false), some (.int .i64 (IntKind.i64.wrap (d + t))), some (.bool false)] mo f93.d f93.z f93.b (by kernel_rfl) ⟨b_g1_330, b_g2_331, trivial⟩ (
      hk (fun cx => cx.v (ex_fa rfl (cx.rq 4 s4_332) (faRU60_3_0 _ _)) rfl rfl) <|
      hk (fun cx => cx.v (ex_ld rfl (cx.u 0 rfl) (cx.rn 0 rfl) rfl Try.isAgg2) rfl rfl) <|
      hk (fun cx => cx.v (ex_fa rfl (cx.rq 5 s5_333) (faRU60_3_0 _ _)) rfl rfl) <|
      hk (fun cx => cx.v (ex_ld rfl (cx.u 0 rfl) (cx.rn 1 rfl) rfl Try.isAgg2) rfl rfl) <|
      hc (fun _ _ wx cx => cx.c rfl (args2 (cx.u 0 rfl) (cx.u 1 rfl)) Try.func88 (by decide +kernel) (rplus_n d t wx HS.out.1.2 HS.out.2.2) rfl rfl) <|
      hk (fun cx => cx.v (ex_mv rfl (cx.u 0 rfl)) rfl rfl) <|
      hk (fun cx => cx.v (ex_ext (x := .tmp 68) rfl (cx.u 0 rfl) rfl) rfl rfl) <|
      hk (fun cx => cx.v (ex_ext (x := .tmp 68) rfl (cx.u 0 rfl) rfl) rfl (congrArg Value.bool Ffk29.out)) <|
      hk (fun cx => cx.v (ex_as rfl (cx.u 0 rfl)) rfl rfl) <|
      hk (fun cx => cx.v (ex_as rfl (cx.u 0 rfl)) rfl rfl) <|
      hn) ?_
     intro a94 w94 f94
     refine wp_seq ?_
     have s11_334 := f94.q 11 (f93.v 9 rfl rfl rfl)
     refine go_reg [] [] [some (.bool true), some (.bool true), some (.bool false), some (.bool false)] mo f94.d f94.z f94.b (by kernel_rfl) trivial (
      hk (fun cx => cx.v (ex_mv rfl (cx.rq 11 s11_334)) rfl rfl) <|
      hk (fun cx => cx.v (ex_mv rfl (cx.u 0 rfl)) rfl rfl) <|
      hk (fun cx => cx.val (cx.wy rfl rfl rfl rfl (cx.u 0 rfl)) (ex_mv rfl (cx.rq 13 (f94.v 9 rfl rfl rfl))) rfl rfl rfl rfl) <|
      hk (fun cx => cx.v (ex_pt rfl (cx.u 0 rfl) (cx.u 1 rfl)) rfl rfl) <|
      hn) ?_
     intro a95 w95 f95
     refine wp_cond_false (f95.v 3 rfl rfl rfl) ?_
     refine wp_skip ?_
     refine wp_seq ?_
     have b_g4_335 := f95.k (f94.k (f93.k (f85.k (f84.k (f83.k (f80.k (f79.k (f7.k b_g4))))))))
     have b_g3_336 := f95.k (f94.k (f93.k (f85.k (f84.k (f83.k (f80.k (f79.k (f7.k (f2.k b_g3)))))))))
     have s7_337 := f95.q 7 (f94.q 7 (f93.q 7 (f85.q 7 (f84.q 7 (f83.q 7 (f80.q 7 (f79.q 7 (f7.q 7 u_g4))))))))
     have s6_338 := f95.q 6 (f94.q 6 (f93.q 6 (f85.q 6 (f84.q 6 (f83.q 6 (f80.q 6 (f79.q 6 (f7.q 6 (f2.q 6 u_g3)))))))))
     refine go_reg [bx g4 60 (cR allR.u.lo allR.u.hi allR.s.lo allR.s.hi), ⟨g3, 60, (cR 0 0 0 0), some 2, (cR D.u.lo D.u.hi D.s.lo D.s.hi)⟩] [] [some (.agg (cR allR.u.lo allR.u.hi allR.s.lo allR.s.hi)), some (.agg (cR D.u.lo D.u.hi D.s.lo D.s.hi)), none] mo f95.d f95.z f95.b (by kernel_rfl) ⟨b_g4_335, b_g3_336, trivial⟩ (
      hk (fun cx => cx.v (ldR rfl (cx.rq 7 s7_337) (cx.rn 0 rfl)) rfl rfl) <|
      hc (fun _ _ wx cx => cx.c rfl (args1 (cx.u 0 rfl)) Try.func87 (by decide +kernel) (nar_mov (op := op) (x := ⟨⟨a, b⟩, ⟨c, d⟩⟩) (y := ⟨⟨p, q⟩, ⟨r, t⟩⟩) (z := allR) (by unfold doU doS; (try unfold restU); simp only [if_neg (nb Ffk24.out), if_pos (yb Ffk25.out)]; rw [HPU0.out Ffk1.out Ffk2.out Ffk26.out, HPS2.out Ffk29.out]; try rfl) ED.out HA.out HB.out Ffk1.out Ffk2.out wx) rfl rfl) <|
      hk (fun cx => cx.stR (wn rfl) rfl rfl 1 rfl (cx.rq 6 s6_338) (cx.u 0 rfl) (by kernel_rfl) rfl (by simp [Value.oneCell']) q_g3 rfl ⟨(ne_row b_g3 q_g4).symm, trivial⟩ trivial) <|
      hn) ?_
     intro a96 w96 f96
     refine wp_ret ?_
     have s6_339 := f96.q 6 s6_338
     try simp only [Exit.inBlock, Exit.then]
     refine bodyPost_ret (res_c (fn := Try.f40) rfl s6_339 (load_row 60 f96.rows.2.1 Try.underlying60 rfl (by kernel_rfl))) f96.d ?_
     exact ⟨rfl, f96.b⟩
    have Ffk29 := Lib.hid fk29; clear fk29
    have b_g1_340 := f93.k b_g1_326
    have b_g2_341 := f93.k b_g2_327
    have s4_342 := f93.q 4 s4_328
    have s5_343 := f93.q 5 s5_329
    refine go_reg [bx g1 60 (cR a b c d), bx g2 60 (cR p q r t)] [] [some (pt g1 3), some (.int .i64 d), some (pt g2 3), some (.int .i64 t), some (.tuple #[.int .i64 (IntKind.i64.wrap (d + t)), .bool (sumS d t)]), some (.tuple #[.int .i64 (IntKind.i64.wrap (d + t)), .bool (sumS d t)]), some (.int .i64 (IntKind.i64.wrap (d + t))), some (.bool true), some (.int .i64 (IntKind.i64.wrap (d + t))), some (.bool true)] mo f93.d f93.z f93.b (by kernel_rfl) ⟨b_g1_340, b_g2_341, trivial⟩ (
     hk (fun cx => cx.v (ex_fa rfl (cx.rq 4 s4_342) (faRU60_3_0 _ _)) rfl rfl) <|
     hk (fun cx => cx.v (ex_ld rfl (cx.u 0 rfl) (cx.rn 0 rfl) rfl Try.isAgg2) rfl rfl) <|
     hk (fun cx => cx.v (ex_fa rfl (cx.rq 5 s5_343) (faRU60_3_0 _ _)) rfl rfl) <|
     hk (fun cx => cx.v (ex_ld rfl (cx.u 0 rfl) (cx.rn 1 rfl) rfl Try.isAgg2) rfl rfl) <|
     hc (fun _ _ wx cx => cx.c rfl (args2 (cx.u 0 rfl) (cx.u 1 rfl)) Try.func88 (by decide +kernel) (rplus_n d t wx HS.out.1.2 HS.out.2.2) rfl rfl) <|
     hk (fun cx => cx.v (ex_mv rfl (cx.u 0 rfl)) rfl rfl) <|
     hk (fun cx => cx.v (ex_ext (x := .tmp 68) rfl (cx.u 0 rfl) rfl) rfl rfl) <|
     hk (fun cx => cx.v (ex_ext (x := .tmp 68) rfl (cx.u 0 rfl) rfl) rfl (congrArg Value.bool Ffk29.out)) <|
     hk (fun cx => cx.v (ex_as rfl (cx.u 0 rfl)) rfl rfl) <|
     hk (fun cx => cx.v (ex_as rfl (cx.u 0 rfl)) rfl rfl) <|
     hn) ?_
    intro a97 w97 f97
    refine wp_seq ?_
    have s11_344 := f97.q 11 (f93.v 9 rfl rfl rfl)
    refine go_reg [] [] [some (.bool true), some (.bool true), some (.bool true), some (.bool true)] mo f97.d f97.z f97.b (by kernel_rfl) trivial (
     hk (fun cx => cx.v (ex_mv rfl (cx.rq 11 s11_344)) rfl rfl) <|
     hk (fun cx => cx.v (ex_mv rfl (cx.u 0 rfl)) rfl rfl) <|
     hk (fun cx => cx.val (cx.wy rfl rfl rfl rfl (cx.u 0 rfl)) (ex_mv rfl (cx.rq 13 (f97.v 9 rfl rfl rfl))) rfl rfl rfl rfl) <|
     hk (fun cx => cx.v (ex_pt rfl (cx.u 0 rfl) (cx.u 1 rfl)) rfl rfl) <|
     hn) ?_
    intro a98 w98 f98
    refine wp_cond_true (f98.v 3 rfl rfl rfl) ?_
    refine wp_seq ?_
    have b_g4_345 := f98.k (f97.k (f93.k (f85.k (f84.k (f83.k (f80.k (f79.k (f7.k b_g4))))))))
    have s10_346 := f98.q 10 (f97.q 10 (f93.v 8 rfl rfl rfl))
    have s7_347 := f98.q 7 (f97.q 7 (f93.q 7 (f85.q 7 (f84.q 7 (f83.q 7 (f80.q 7 (f79.q 7 (f7.q 7 u_g4))))))))
    refine go_reg [⟨g4, 60, (cR allR.u.lo allR.u.hi allR.s.lo allR.s.hi), some 2, (cR allR.u.lo allR.u.hi (IntKind.i64.wrap (c + r)) allR.s.hi)⟩] [] [some (.int .i64 (IntKind.i64.wrap (c + r))), some (pt g4 2), none] mo f98.d f98.z f98.b (by kernel_rfl) ⟨b_g4_345, trivial⟩ (
     hk (fun cx => cx.v (ex_mv rfl (cx.rq 10 s10_346)) rfl rfl) <|
     hk (fun cx => cx.v (ex_fa rfl (cx.rq 7 s7_347) (faRU60_2_0 _ _)) rfl rfl) <|
     hk (fun cx => cx.stC (wn rfl) rfl rfl 0 rfl (cx.u 0 rfl) (cx.u 1 rfl) rfl rfl (by kernel_rfl) rfl rfl (Nat.le_trans f1.b.size q_g4) rfl trivial trivial) <|
     hn) ?_
    intro a99 w99 f99
    have s12_348 := f99.q 12 (f98.q 12 (f97.v 8 rfl rfl rfl))
    have s7_349 := f99.q 7 s7_347
    refine go_reg [⟨g4, 60, (cR allR.u.lo allR.u.hi (IntKind.i64.wrap (c + r)) allR.s.hi), some 2, (cR allR.u.lo allR.u.hi (IntKind.i64.wrap (c + r)) (IntKind.i64.wrap (d + t)))⟩] [] [some (.int .i64 (IntKind.i64.wrap (d + t))), some (pt g4 3), none] mo f99.d f99.z f99.b (by kernel_rfl) ⟨f99.rows.1, trivial⟩ (
     hk (fun cx => cx.v (ex_mv rfl (cx.rq 12 s12_348)) rfl rfl) <|
     hk (fun cx => cx.v (ex_fa rfl (cx.rq 7 s7_349) (faRU60_3_0 _ _)) rfl rfl) <|
     hk (fun cx => cx.stC (wn rfl) rfl rfl 0 rfl (cx.u 0 rfl) (cx.u 1 rfl) rfl rfl (by kernel_rfl) rfl rfl (Nat.le_trans f1.b.size q_g4) rfl trivial trivial) <|
     hn) ?_
    intro a100 w100 f100
    refine wp_seq ?_
    have b_g3_350 := f100.kp (f99.kp (f98.k (f97.k (f93.k (f85.k (f84.k (f83.k (f80.k (f79.k (f7.k (f2.k b_g3)))))))))) ⟨.inr (ne_row b_g3 q_g4), trivial⟩) ⟨.inr (ne_row b_g3 q_g4), trivial⟩
    have s7_351 := f100.q 7 s7_349
    have s6_352 := f100.q 6 (f99.q 6 (f98.q 6 (f97.q 6 (f93.q 6 (f85.q 6 (f84.q 6 (f83.q 6 (f80.q 6 (f79.q 6 (f7.q 6 (f2.q 6 u_g3)))))))))))
    refine go_reg [bx g4 60 (cR allR.u.lo allR.u.hi (IntKind.i64.wrap (c + r)) (IntKind.i64.wrap (d + t))), ⟨g3, 60, (cR 0 0 0 0), some 2, (cR D.u.lo D.u.hi D.s.lo D.s.hi)⟩] [] [some (.agg (cR allR.u.lo allR.u.hi (IntKind.i64.wrap (c + r)) (IntKind.i64.wrap (d + t)))), some (.agg (cR D.u.lo D.u.hi D.s.lo D.s.hi)), none] mo f100.d f100.z f100.b (by kernel_rfl) ⟨f100.rows.1, b_g3_350, trivial⟩ (
     hk (fun cx => cx.v (ldR rfl (cx.rq 7 s7_351) (cx.rn 0 rfl)) rfl rfl) <|
     hc (fun _ _ wx cx => cx.c rfl (args1 (cx.u 0 rfl)) Try.func87 (by decide +kernel) (nar_mov (op := op) (x := ⟨⟨a, b⟩, ⟨c, d⟩⟩) (y := ⟨⟨p, q⟩, ⟨r, t⟩⟩) (z := ⟨allR.u, ⟨IntKind.i64.wrap (c + r), IntKind.i64.wrap (d + t)⟩⟩) (by unfold doU doS; (try unfold restU); simp only [if_neg (nb Ffk24.out), if_pos (yb Ffk25.out)]; rw [HPU0.out Ffk1.out Ffk2.out Ffk26.out, HPS1.out Ffk27.out Ffk29.out]; try rfl) ED.out HA.out HB.out Ffk1.out Ffk2.out wx) rfl rfl) <|
     hk (fun cx => cx.stR (wn rfl) rfl rfl 1 rfl (cx.rq 6 s6_352) (cx.u 0 rfl) (by kernel_rfl) rfl (by simp [Value.oneCell']) q_g3 rfl ⟨(ne_row b_g3 q_g4).symm, trivial⟩ trivial) <|
     hn) ?_
    intro a101 w101 f101
    refine wp_ret ?_
    have s6_353 := f101.q 6 s6_352
    try simp only [Exit.inBlock, Exit.then]
    refine bodyPost_ret (res_c (fn := Try.f40) rfl s6_353 (load_row 60 f101.rows.2.1 Try.underlying60 rfl (by kernel_rfl))) f101.d ?_
    exact ⟨rfl, f101.b⟩
   have Ffk26 := Lib.hid fk26; clear fk26
   have b_g1_354 := f84.k (f83.k (f80.k (f79.k (f7.k b_g1_17))))
   have b_g2_355 := f84.k (f83.k (f80.k (f79.k b_g2_289)))
   have s4_356 := f84.q 4 (f83.q 4 (f80.q 4 (f79.q 4 (f7.q 4 s4_19))))
   have s5_357 := f84.q 5 (f83.q 5 (f80.q 5 (f79.q 5 s5_290)))
   refine go_reg [bx g1 60 (cR a b c d), bx g2 60 (cR p q r t)] [] [some (pt g1 1), some (.int .u64 b), some (pt g2 1), some (.int .u64 q), some (.int .u64 (IntKind.u64.wrap (b + q))), some (pt g1 1), some (.int .u64 b), some (.bool true)] mo f84.d f84.z f84.b (by kernel_rfl) ⟨b_g1_354, b_g2_355, trivial⟩ (
    hk (fun cx => cx.v (ex_fa rfl (cx.rq 4 s4_356) (faRU60_1_0 _ _)) rfl rfl) <|
    hk (fun cx => cx.v (ex_ld rfl (cx.u 0 rfl) (cx.rn 0 rfl) rfl Try.isAgg30) rfl rfl) <|
    hk (fun cx => cx.v (ex_fa rfl (cx.rq 5 s5_357) (faRU60_1_0 _ _)) rfl rfl) <|
    hk (fun cx => cx.v (ex_ld rfl (cx.u 0 rfl) (cx.rn 1 rfl) rfl Try.isAgg30) rfl rfl) <|
    hk (fun cx => cx.v (ex_add (x := .tmp 41) (y := .tmp 43) rfl (cx.u 0 rfl) (cx.u 1 rfl)) rfl rfl) <|
    hk (fun cx => cx.v (ex_fa rfl (cx.rq 4 s4_356) (faRU60_1_0 _ _)) rfl rfl) <|
    hk (fun cx => cx.v (ex_ld rfl (cx.u 0 rfl) (cx.rn 0 rfl) rfl Try.isAgg30) rfl rfl) <|
    hk (fun cx => cx.v (ex_ge (x := .tmp 44) (y := .tmp 46) rfl (cx.u 0 rfl) (cx.u 1 rfl)) rfl (congrArg Value.bool Ffk26.out)) <|
    hn) ?_
   intro a102 w102 f102
   refine wp_cond_true (f102.v 7 rfl rfl rfl) ?_
   refine wp_seq ?_
   have b_g1_358 := f102.k b_g1_354
   have b_g2_359 := f102.k b_g2_355
   have b_g4_360 := f102.k (f84.k (f83.k (f80.k (f79.k (f7.k b_g4)))))
   have s4_361 := f102.q 4 s4_356
   have s5_362 := f102.q 5 s5_357
   have s7_363 := f102.q 7 (f84.q 7 (f83.q 7 (f80.q 7 (f79.q 7 (f7.q 7 u_g4)))))
   refine go_reg [bx g1 60 (cR a b c d), bx g2 60 (cR p q r t), ⟨g4, 60, (cR allR.u.lo allR.u.hi allR.s.lo allR.s.hi), some 6, (cR (IntKind.u64.wrap (a + p)) allR.u.hi allR.s.lo allR.s.hi)⟩] [] [some (pt g1 0), some (.int .u64 a), some (pt g2 0), some (.int .u64 p), some (.int .u64 (IntKind.u64.wrap (a + p))), some (pt g4 0), none] mo f102.d f102.z f102.b (by kernel_rfl) ⟨b_g1_358, b_g2_359, b_g4_360, trivial⟩ (
    hk (fun cx => cx.v (ex_fa rfl (cx.rq 4 s4_361) (faRU60_0_0 _ _)) rfl rfl) <|
    hk (fun cx => cx.v (ex_ld rfl (cx.u 0 rfl) (cx.rn 0 rfl) rfl Try.isAgg30) rfl rfl) <|
    hk (fun cx => cx.v (ex_fa rfl (cx.rq 5 s5_362) (faRU60_0_0 _ _)) rfl rfl) <|
    hk (fun cx => cx.v (ex_ld rfl (cx.u 0 rfl) (cx.rn 1 rfl) rfl Try.isAgg30) rfl rfl) <|
    hk (fun cx => cx.v (ex_add (x := .tmp 49) (y := .tmp 51) rfl (cx.u 0 rfl) (cx.u 1 rfl)) rfl rfl) <|
    hk (fun cx => cx.v (ex_fa rfl (cx.rq 7 s7_363) (faRU60_0_0 _ _)) rfl rfl) <|
    hk (fun cx => cx.stC (wn rfl) rfl rfl 2 rfl (cx.u 0 rfl) (cx.u 1 rfl) rfl rfl (by kernel_rfl) rfl rfl (Nat.le_trans f1.b.size q_g4) rfl ⟨(ne_row b_g1 q_g4), (ne_row b_g2 q_g4), trivial⟩ trivial) <|
    hn) ?_
   intro a103 w103 f103
   have b_g1_364 := f103.kp b_g1_358 ⟨.inl rfl, .inl rfl, .inr (ne_row b_g1 q_g4), trivial⟩
   have b_g2_365 := f103.kp b_g2_359 ⟨.inl rfl, .inl rfl, .inr (ne_row b_g2 q_g4), trivial⟩
   have s4_366 := f103.q 4 s4_361
   have s5_367 := f103.q 5 s5_362
   have s7_368 := f103.q 7 s7_363
   refine go_reg [bx g1 60 (cR a b c d), bx g2 60 (cR p q r t), ⟨g4, 60, (cR (IntKind.u64.wrap (a + p)) allR.u.hi allR.s.lo allR.s.hi), some 6, (cR (IntKind.u64.wrap (a + p)) (IntKind.u64.wrap (b + q)) allR.s.lo allR.s.hi)⟩] [] [some (pt g1 1), some (.int .u64 b), some (pt g2 1), some (.int .u64 q), some (.int .u64 (IntKind.u64.wrap (b + q))), some (pt g4 1), none] mo f103.d f103.z f103.b (by kernel_rfl) ⟨b_g1_364, b_g2_365, f103.rows.2.2.1, trivial⟩ (
    hk (fun cx => cx.v (ex_fa rfl (cx.rq 4 s4_366) (faRU60_1_0 _ _)) rfl rfl) <|
    hk (fun cx => cx.v (ex_ld rfl (cx.u 0 rfl) (cx.rn 0 rfl) rfl Try.isAgg30) rfl rfl) <|
    hk (fun cx => cx.v (ex_fa rfl (cx.rq 5 s5_367) (faRU60_1_0 _ _)) rfl rfl) <|
    hk (fun cx => cx.v (ex_ld rfl (cx.u 0 rfl) (cx.rn 1 rfl) rfl Try.isAgg30) rfl rfl) <|
    hk (fun cx => cx.v (ex_add (x := .tmp 55) (y := .tmp 57) rfl (cx.u 0 rfl) (cx.u 1 rfl)) rfl rfl) <|
    hk (fun cx => cx.v (ex_fa rfl (cx.rq 7 s7_368) (faRU60_1_0 _ _)) rfl rfl) <|
    hk (fun cx => cx.stC (wn rfl) rfl rfl 2 rfl (cx.u 0 rfl) (cx.u 1 rfl) rfl rfl (by kernel_rfl) rfl rfl (Nat.le_trans f1.b.size q_g4) rfl ⟨(ne_row b_g1 q_g4), (ne_row b_g2 q_g4), trivial⟩ trivial) <|
    hn) ?_
   intro a104 w104 f104
   refine wp_seq ?_
   cases fk30 : sumS c r
   case false =>
    have Ffk30 := Lib.hid fk30; clear fk30
    have b_g1_369 := f104.kp b_g1_364 ⟨.inl rfl, .inl rfl, .inr (ne_row b_g1 q_g4), trivial⟩
    have b_g2_370 := f104.kp b_g2_365 ⟨.inl rfl, .inl rfl, .inr (ne_row b_g2 q_g4), trivial⟩
    have s4_371 := f104.q 4 s4_366
    have s5_372 := f104.q 5 s5_367
    refine go_reg [bx g1 60 (cR a b c d), bx g2 60 (cR p q r t)] [] [some (pt g1 2), some (.int .i64 c), some (pt g2 2), some (.int .i64 r), some (.tuple #[.int .i64 (IntKind.i64.wrap (c + r)), .bool (sumS c r)]), some (.tuple #[.int .i64 (IntKind.i64.wrap (c + r)), .bool (sumS c r)]), some (.int .i64 (IntKind.i64.wrap (c + r))), some (.bool false), some (.int .i64 (IntKind.i64.wrap (c + r))), some (.bool false)] mo f104.d f104.z f104.b (by kernel_rfl) ⟨b_g1_369, b_g2_370, trivial⟩ (
     hk (fun cx => cx.v (ex_fa rfl (cx.rq 4 s4_371) (faRU60_2_0 _ _)) rfl rfl) <|
     hk (fun cx => cx.v (ex_ld rfl (cx.u 0 rfl) (cx.rn 0 rfl) rfl Try.isAgg2) rfl rfl) <|
     hk (fun cx => cx.v (ex_fa rfl (cx.rq 5 s5_372) (faRU60_2_0 _ _)) rfl rfl) <|
     hk (fun cx => cx.v (ex_ld rfl (cx.u 0 rfl) (cx.rn 1 rfl) rfl Try.isAgg2) rfl rfl) <|
     hc (fun _ _ wx cx => cx.c rfl (args2 (cx.u 0 rfl) (cx.u 1 rfl)) Try.func88 (by decide +kernel) (rplus_n c r wx HS.out.1.1 HS.out.2.1) rfl rfl) <|
     hk (fun cx => cx.v (ex_mv rfl (cx.u 0 rfl)) rfl rfl) <|
     hk (fun cx => cx.v (ex_ext (x := .tmp 60) rfl (cx.u 0 rfl) rfl) rfl rfl) <|
     hk (fun cx => cx.v (ex_ext (x := .tmp 60) rfl (cx.u 0 rfl) rfl) rfl (congrArg Value.bool Ffk30.out)) <|
     hk (fun cx => cx.v (ex_as rfl (cx.u 0 rfl)) rfl rfl) <|
     hk (fun cx => cx.v (ex_as rfl (cx.u 0 rfl)) rfl rfl) <|
     hn) ?_
    intro a105 w105 f105
    refine wp_seq ?_
    cases fk31 : sumS d t
    case false =>
     have Ffk31 := Lib.hid fk31; clear fk31
     have b_g1_373 := f105.k b_g1_369
     have b_g2_374 := f105.k b_g2_370
     have s4_375 := f105.q 4 s4_371
     have s5_376 := f105.q 5 s5_372
     refine go_reg [bx g1 60 (cR a b c d), bx g2 60 (cR p q r t)] [] [some (pt g1 3), some (.int .i64 d), some (pt g2 3), some (.int .i64 t), some (.tuple #[.int .i64 (IntKind.i64.wrap (d + t)), .bool (sumS d t)]), some (.tuple #[.int .i64 (IntKind.i64.wrap (d + t)), .bool (sumS d t)]), some (.int .i64 (IntKind.i64.wrap (d + t))), some (.bool false), some (.int .i64 (IntKind.i64.wrap (d + t))), some (.bool false)] mo f105.d f105.z f105.b (by kernel_rfl) ⟨b_g1_373, b_g2_374, trivial⟩ (
      hk (fun cx => cx.v (ex_fa rfl (cx.rq 4 s4_375) (faRU60_3_0 _ _)) rfl rfl) <|
      hk (fun cx => cx.v (ex_ld rfl (cx.u 0 rfl) (cx.rn 0 rfl) rfl Try.isAgg2) rfl rfl) <|
      hk (fun cx => cx.v (ex_fa rfl (cx.rq 5 s5_376) (faRU60_3_0 _ _)) rfl rfl) <|
      hk (fun cx => cx.v (ex_ld rfl (cx.u 0 rfl) (cx.rn 1 rfl) rfl Try.isAgg2) rfl rfl) <|
      hc (fun _ _ wx cx => cx.c rfl (args2 (cx.u 0 rfl) (cx.u 1 rfl)) Try.func88 (by decide +kernel) (rplus_n d t wx HS.out.1.2 HS.out.2.2) rfl rfl) <|
      hk (fun cx => cx.v (ex_mv rfl (cx.u 0 rfl)) rfl rfl) <|
      hk (fun cx => cx.v (ex_ext (x := .tmp 68) rfl (cx.u 0 rfl) rfl) rfl rfl) <|
      hk (fun cx => cx.v (ex_ext (x := .tmp 68) rfl (cx.u 0 rfl) rfl) rfl (congrArg Value.bool Ffk31.out)) <|
      hk (fun cx => cx.v (ex_as rfl (cx.u 0 rfl)) rfl rfl) <|
      hk (fun cx => cx.v (ex_as rfl (cx.u 0 rfl)) rfl rfl) <|
      hn) ?_
     intro a106 w106 f106
     refine wp_seq ?_
     have s11_377 := f106.q 11 (f105.v 9 rfl rfl rfl)
     refine go_reg [] [] [some (.bool false), some (.bool false), some (undef), some (.bool false)] mo f106.d f106.z f106.b (by kernel_rfl) trivial (
      hk (fun cx => cx.v (ex_mv rfl (cx.rq 11 s11_377)) rfl rfl) <|
      hk (fun cx => cx.v (ex_mv rfl (cx.u 0 rfl)) rfl rfl) <|
      hk (fun cx => cx.no (cx.wo rfl rfl rfl rfl (cx.u 0 rfl) rfl) rfl rfl rfl rfl) <|
      hk (fun cx => cx.v (ex_pf rfl (cx.u 0 rfl) rfl) rfl rfl) <|
      hn) ?_
     intro a107 w107 f107
     refine wp_cond_false (f107.v 3 rfl rfl rfl) ?_
     refine wp_skip ?_
     refine wp_seq ?_
     have b_g4_378 := f107.k (f106.k (f105.k f104.rows.2.2.1))
     have b_g3_379 := f107.k (f106.k (f105.k (f104.kp (f103.kp (f102.k (f84.k (f83.k (f80.k (f79.k (f7.k (f2.k b_g3))))))) ⟨.inl rfl, .inl rfl, .inr (ne_row b_g3 q_g4), trivial⟩) ⟨.inl rfl, .inl rfl, .inr (ne_row b_g3 q_g4), trivial⟩)))
     have s7_380 := f107.q 7 (f106.q 7 (f105.q 7 (f104.q 7 s7_368)))
     have s6_381 := f107.q 6 (f106.q 6 (f105.q 6 (f104.q 6 (f103.q 6 (f102.q 6 (f84.q 6 (f83.q 6 (f80.q 6 (f79.q 6 (f7.q 6 (f2.q 6 u_g3)))))))))))
     refine go_reg [bx g4 60 (cR (IntKind.u64.wrap (a + p)) (IntKind.u64.wrap (b + q)) allR.s.lo allR.s.hi), ⟨g3, 60, (cR 0 0 0 0), some 2, (cR D.u.lo D.u.hi D.s.lo D.s.hi)⟩] [] [some (.agg (cR (IntKind.u64.wrap (a + p)) (IntKind.u64.wrap (b + q)) allR.s.lo allR.s.hi)), some (.agg (cR D.u.lo D.u.hi D.s.lo D.s.hi)), none] mo f107.d f107.z f107.b (by kernel_rfl) ⟨b_g4_378, b_g3_379, trivial⟩ (
      hk (fun cx => cx.v (ldR rfl (cx.rq 7 s7_380) (cx.rn 0 rfl)) rfl rfl) <|
      hc (fun _ _ wx cx => cx.c rfl (args1 (cx.u 0 rfl)) Try.func87 (by decide +kernel) (nar_mov (op := op) (x := ⟨⟨a, b⟩, ⟨c, d⟩⟩) (y := ⟨⟨p, q⟩, ⟨r, t⟩⟩) (z := ⟨⟨IntKind.u64.wrap (a + p), IntKind.u64.wrap (b + q)⟩, allR.s⟩) (by unfold doU doS; (try unfold restU); simp only [if_neg (nb Ffk24.out), if_pos (yb Ffk25.out)]; rw [HPU1.out Ffk1.out Ffk2.out Ffk26.out, HPS0.out Ffk30.out]; try rfl) ED.out HA.out HB.out Ffk1.out Ffk2.out wx) rfl rfl) <|
      hk (fun cx => cx.stR (wn rfl) rfl rfl 1 rfl (cx.rq 6 s6_381) (cx.u 0 rfl) (by kernel_rfl) rfl (by simp [Value.oneCell']) q_g3 rfl ⟨(ne_row b_g3 q_g4).symm, trivial⟩ trivial) <|
      hn) ?_
     intro a108 w108 f108
     refine wp_ret ?_
     have s6_382 := f108.q 6 s6_381
     try simp only [Exit.inBlock, Exit.then]
     refine bodyPost_ret (res_c (fn := Try.f40) rfl s6_382 (load_row 60 f108.rows.2.1 Try.underlying60 rfl (by kernel_rfl))) f108.d ?_
     exact ⟨rfl, f108.b⟩
    have Ffk31 := Lib.hid fk31; clear fk31
    have b_g1_383 := f105.k b_g1_369
    have b_g2_384 := f105.k b_g2_370
    have s4_385 := f105.q 4 s4_371
    have s5_386 := f105.q 5 s5_372
    refine go_reg [bx g1 60 (cR a b c d), bx g2 60 (cR p q r t)] [] [some (pt g1 3), some (.int .i64 d), some (pt g2 3), some (.int .i64 t), some (.tuple #[.int .i64 (IntKind.i64.wrap (d + t)), .bool (sumS d t)]), some (.tuple #[.int .i64 (IntKind.i64.wrap (d + t)), .bool (sumS d t)]), some (.int .i64 (IntKind.i64.wrap (d + t))), some (.bool true), some (.int .i64 (IntKind.i64.wrap (d + t))), some (.bool true)] mo f105.d f105.z f105.b (by kernel_rfl) ⟨b_g1_383, b_g2_384, trivial⟩ (
     hk (fun cx => cx.v (ex_fa rfl (cx.rq 4 s4_385) (faRU60_3_0 _ _)) rfl rfl) <|
     hk (fun cx => cx.v (ex_ld rfl (cx.u 0 rfl) (cx.rn 0 rfl) rfl Try.isAgg2) rfl rfl) <|
     hk (fun cx => cx.v (ex_fa rfl (cx.rq 5 s5_386) (faRU60_3_0 _ _)) rfl rfl) <|
     hk (fun cx => cx.v (ex_ld rfl (cx.u 0 rfl) (cx.rn 1 rfl) rfl Try.isAgg2) rfl rfl) <|
     hc (fun _ _ wx cx => cx.c rfl (args2 (cx.u 0 rfl) (cx.u 1 rfl)) Try.func88 (by decide +kernel) (rplus_n d t wx HS.out.1.2 HS.out.2.2) rfl rfl) <|
     hk (fun cx => cx.v (ex_mv rfl (cx.u 0 rfl)) rfl rfl) <|
     hk (fun cx => cx.v (ex_ext (x := .tmp 68) rfl (cx.u 0 rfl) rfl) rfl rfl) <|
     hk (fun cx => cx.v (ex_ext (x := .tmp 68) rfl (cx.u 0 rfl) rfl) rfl (congrArg Value.bool Ffk31.out)) <|
     hk (fun cx => cx.v (ex_as rfl (cx.u 0 rfl)) rfl rfl) <|
     hk (fun cx => cx.v (ex_as rfl (cx.u 0 rfl)) rfl rfl) <|
     hn) ?_
    intro a109 w109 f109
    refine wp_seq ?_
    have s11_387 := f109.q 11 (f105.v 9 rfl rfl rfl)
    refine go_reg [] [] [some (.bool false), some (.bool false), some (undef), some (.bool false)] mo f109.d f109.z f109.b (by kernel_rfl) trivial (
     hk (fun cx => cx.v (ex_mv rfl (cx.rq 11 s11_387)) rfl rfl) <|
     hk (fun cx => cx.v (ex_mv rfl (cx.u 0 rfl)) rfl rfl) <|
     hk (fun cx => cx.no (cx.wo rfl rfl rfl rfl (cx.u 0 rfl) rfl) rfl rfl rfl rfl) <|
     hk (fun cx => cx.v (ex_pf rfl (cx.u 0 rfl) rfl) rfl rfl) <|
     hn) ?_
    intro a110 w110 f110
    refine wp_cond_false (f110.v 3 rfl rfl rfl) ?_
    refine wp_skip ?_
    refine wp_seq ?_
    have b_g4_388 := f110.k (f109.k (f105.k f104.rows.2.2.1))
    have b_g3_389 := f110.k (f109.k (f105.k (f104.kp (f103.kp (f102.k (f84.k (f83.k (f80.k (f79.k (f7.k (f2.k b_g3))))))) ⟨.inl rfl, .inl rfl, .inr (ne_row b_g3 q_g4), trivial⟩) ⟨.inl rfl, .inl rfl, .inr (ne_row b_g3 q_g4), trivial⟩)))
    have s7_390 := f110.q 7 (f109.q 7 (f105.q 7 (f104.q 7 s7_368)))
    have s6_391 := f110.q 6 (f109.q 6 (f105.q 6 (f104.q 6 (f103.q 6 (f102.q 6 (f84.q 6 (f83.q 6 (f80.q 6 (f79.q 6 (f7.q 6 (f2.q 6 u_g3)))))))))))
    refine go_reg [bx g4 60 (cR (IntKind.u64.wrap (a + p)) (IntKind.u64.wrap (b + q)) allR.s.lo allR.s.hi), ⟨g3, 60, (cR 0 0 0 0), some 2, (cR D.u.lo D.u.hi D.s.lo D.s.hi)⟩] [] [some (.agg (cR (IntKind.u64.wrap (a + p)) (IntKind.u64.wrap (b + q)) allR.s.lo allR.s.hi)), some (.agg (cR D.u.lo D.u.hi D.s.lo D.s.hi)), none] mo f110.d f110.z f110.b (by kernel_rfl) ⟨b_g4_388, b_g3_389, trivial⟩ (
     hk (fun cx => cx.v (ldR rfl (cx.rq 7 s7_390) (cx.rn 0 rfl)) rfl rfl) <|
     hc (fun _ _ wx cx => cx.c rfl (args1 (cx.u 0 rfl)) Try.func87 (by decide +kernel) (nar_mov (op := op) (x := ⟨⟨a, b⟩, ⟨c, d⟩⟩) (y := ⟨⟨p, q⟩, ⟨r, t⟩⟩) (z := ⟨⟨IntKind.u64.wrap (a + p), IntKind.u64.wrap (b + q)⟩, allR.s⟩) (by unfold doU doS; (try unfold restU); simp only [if_neg (nb Ffk24.out), if_pos (yb Ffk25.out)]; rw [HPU1.out Ffk1.out Ffk2.out Ffk26.out, HPS0.out Ffk30.out]; try rfl) ED.out HA.out HB.out Ffk1.out Ffk2.out wx) rfl rfl) <|
     hk (fun cx => cx.stR (wn rfl) rfl rfl 1 rfl (cx.rq 6 s6_391) (cx.u 0 rfl) (by kernel_rfl) rfl (by simp [Value.oneCell']) q_g3 rfl ⟨(ne_row b_g3 q_g4).symm, trivial⟩ trivial) <|
     hn) ?_
    intro a111 w111 f111
    refine wp_ret ?_
    have s6_392 := f111.q 6 s6_391
    try simp only [Exit.inBlock, Exit.then]
    refine bodyPost_ret (res_c (fn := Try.f40) rfl s6_392 (load_row 60 f111.rows.2.1 Try.underlying60 rfl (by kernel_rfl))) f111.d ?_
    exact ⟨rfl, f111.b⟩
   have Ffk30 := Lib.hid fk30; clear fk30
   have b_g1_393 := f104.kp b_g1_364 ⟨.inl rfl, .inl rfl, .inr (ne_row b_g1 q_g4), trivial⟩
   have b_g2_394 := f104.kp b_g2_365 ⟨.inl rfl, .inl rfl, .inr (ne_row b_g2 q_g4), trivial⟩
   have s4_395 := f104.q 4 s4_366
   have s5_396 := f104.q 5 s5_367
   refine go_reg [bx g1 60 (cR a b c d), bx g2 60 (cR p q r t)] [] [some (pt g1 2), some (.int .i64 c), some (pt g2 2), some (.int .i64 r), some (.tuple #[.int .i64 (IntKind.i64.wrap (c + r)), .bool (sumS c r)]), some (.tuple #[.int .i64 (IntKind.i64.wrap (c + r)), .bool (sumS c r)]), some (.int .i64 (IntKind.i64.wrap (c + r))), some (.bool true), some (.int .i64 (IntKind.i64.wrap (c + r))), some (.bool true)] mo f104.d f104.z f104.b (by kernel_rfl) ⟨b_g1_393, b_g2_394, trivial⟩ (
    hk (fun cx => cx.v (ex_fa rfl (cx.rq 4 s4_395) (faRU60_2_0 _ _)) rfl rfl) <|
    hk (fun cx => cx.v (ex_ld rfl (cx.u 0 rfl) (cx.rn 0 rfl) rfl Try.isAgg2) rfl rfl) <|
    hk (fun cx => cx.v (ex_fa rfl (cx.rq 5 s5_396) (faRU60_2_0 _ _)) rfl rfl) <|
    hk (fun cx => cx.v (ex_ld rfl (cx.u 0 rfl) (cx.rn 1 rfl) rfl Try.isAgg2) rfl rfl) <|
    hc (fun _ _ wx cx => cx.c rfl (args2 (cx.u 0 rfl) (cx.u 1 rfl)) Try.func88 (by decide +kernel) (rplus_n c r wx HS.out.1.1 HS.out.2.1) rfl rfl) <|
    hk (fun cx => cx.v (ex_mv rfl (cx.u 0 rfl)) rfl rfl) <|
    hk (fun cx => cx.v (ex_ext (x := .tmp 60) rfl (cx.u 0 rfl) rfl) rfl rfl) <|
    hk (fun cx => cx.v (ex_ext (x := .tmp 60) rfl (cx.u 0 rfl) rfl) rfl (congrArg Value.bool Ffk30.out)) <|
    hk (fun cx => cx.v (ex_as rfl (cx.u 0 rfl)) rfl rfl) <|
    hk (fun cx => cx.v (ex_as rfl (cx.u 0 rfl)) rfl rfl) <|
    hn) ?_
   intro a112 w112 f112
   refine wp_seq ?_
   cases fk32 : sumS d t
   case false =>
    have Ffk32 := Lib.hid fk32; clear fk32
    have b_g1_397 := f112.k b_g1_393
    have b_g2_398 := f112.k b_g2_394
    have s4_399 := f112.q 4 s4_395
    have s5_400 := f112.q 5 s5_396
    refine go_reg [bx g1 60 (cR a b c d), bx g2 60 (cR p q r t)] [] [some (pt g1 3), some (.int .i64 d), some (pt g2 3), some (.int .i64 t), some (.tuple #[.int .i64 (IntKind.i64.wrap (d + t)), .bool (sumS d t)]), some (.tuple #[.int .i64 (IntKind.i64.wrap (d + t)), .bool (sumS d t)]), some (.int .i64 (IntKind.i64.wrap (d + t))), some (.bool false), some (.int .i64 (IntKind.i64.wrap (d + t))), some (.bool false)] mo f112.d f112.z f112.b (by kernel_rfl) ⟨b_g1_397, b_g2_398, trivial⟩ (
     hk (fun cx => cx.v (ex_fa rfl (cx.rq 4 s4_399) (faRU60_3_0 _ _)) rfl rfl) <|
     hk (fun cx => cx.v (ex_ld rfl (cx.u 0 rfl) (cx.rn 0 rfl) rfl Try.isAgg2) rfl rfl) <|
     hk (fun cx => cx.v (ex_fa rfl (cx.rq 5 s5_400) (faRU60_3_0 _ _)) rfl rfl) <|
     hk (fun cx => cx.v (ex_ld rfl (cx.u 0 rfl) (cx.rn 1 rfl) rfl Try.isAgg2) rfl rfl) <|
     hc (fun _ _ wx cx => cx.c rfl (args2 (cx.u 0 rfl) (cx.u 1 rfl)) Try.func88 (by decide +kernel) (rplus_n d t wx HS.out.1.2 HS.out.2.2) rfl rfl) <|
     hk (fun cx => cx.v (ex_mv rfl (cx.u 0 rfl)) rfl rfl) <|
     hk (fun cx => cx.v (ex_ext (x := .tmp 68) rfl (cx.u 0 rfl) rfl) rfl rfl) <|
     hk (fun cx => cx.v (ex_ext (x := .tmp 68) rfl (cx.u 0 rfl) rfl) rfl (congrArg Value.bool Ffk32.out)) <|
     hk (fun cx => cx.v (ex_as rfl (cx.u 0 rfl)) rfl rfl) <|
     hk (fun cx => cx.v (ex_as rfl (cx.u 0 rfl)) rfl rfl) <|
     hn) ?_
    intro a113 w113 f113
    refine wp_seq ?_
    have s11_401 := f113.q 11 (f112.v 9 rfl rfl rfl)
    refine go_reg [] [] [some (.bool true), some (.bool true), some (.bool false), some (.bool false)] mo f113.d f113.z f113.b (by kernel_rfl) trivial (
     hk (fun cx => cx.v (ex_mv rfl (cx.rq 11 s11_401)) rfl rfl) <|
     hk (fun cx => cx.v (ex_mv rfl (cx.u 0 rfl)) rfl rfl) <|
     hk (fun cx => cx.val (cx.wy rfl rfl rfl rfl (cx.u 0 rfl)) (ex_mv rfl (cx.rq 13 (f113.v 9 rfl rfl rfl))) rfl rfl rfl rfl) <|
     hk (fun cx => cx.v (ex_pt rfl (cx.u 0 rfl) (cx.u 1 rfl)) rfl rfl) <|
     hn) ?_
    intro a114 w114 f114
    refine wp_cond_false (f114.v 3 rfl rfl rfl) ?_
    refine wp_skip ?_
    refine wp_seq ?_
    have b_g4_402 := f114.k (f113.k (f112.k f104.rows.2.2.1))
    have b_g3_403 := f114.k (f113.k (f112.k (f104.kp (f103.kp (f102.k (f84.k (f83.k (f80.k (f79.k (f7.k (f2.k b_g3))))))) ⟨.inl rfl, .inl rfl, .inr (ne_row b_g3 q_g4), trivial⟩) ⟨.inl rfl, .inl rfl, .inr (ne_row b_g3 q_g4), trivial⟩)))
    have s7_404 := f114.q 7 (f113.q 7 (f112.q 7 (f104.q 7 s7_368)))
    have s6_405 := f114.q 6 (f113.q 6 (f112.q 6 (f104.q 6 (f103.q 6 (f102.q 6 (f84.q 6 (f83.q 6 (f80.q 6 (f79.q 6 (f7.q 6 (f2.q 6 u_g3)))))))))))
    refine go_reg [bx g4 60 (cR (IntKind.u64.wrap (a + p)) (IntKind.u64.wrap (b + q)) allR.s.lo allR.s.hi), ⟨g3, 60, (cR 0 0 0 0), some 2, (cR D.u.lo D.u.hi D.s.lo D.s.hi)⟩] [] [some (.agg (cR (IntKind.u64.wrap (a + p)) (IntKind.u64.wrap (b + q)) allR.s.lo allR.s.hi)), some (.agg (cR D.u.lo D.u.hi D.s.lo D.s.hi)), none] mo f114.d f114.z f114.b (by kernel_rfl) ⟨b_g4_402, b_g3_403, trivial⟩ (
     hk (fun cx => cx.v (ldR rfl (cx.rq 7 s7_404) (cx.rn 0 rfl)) rfl rfl) <|
     hc (fun _ _ wx cx => cx.c rfl (args1 (cx.u 0 rfl)) Try.func87 (by decide +kernel) (nar_mov (op := op) (x := ⟨⟨a, b⟩, ⟨c, d⟩⟩) (y := ⟨⟨p, q⟩, ⟨r, t⟩⟩) (z := ⟨⟨IntKind.u64.wrap (a + p), IntKind.u64.wrap (b + q)⟩, allR.s⟩) (by unfold doU doS; (try unfold restU); simp only [if_neg (nb Ffk24.out), if_pos (yb Ffk25.out)]; rw [HPU1.out Ffk1.out Ffk2.out Ffk26.out, HPS2.out Ffk32.out]; try rfl) ED.out HA.out HB.out Ffk1.out Ffk2.out wx) rfl rfl) <|
     hk (fun cx => cx.stR (wn rfl) rfl rfl 1 rfl (cx.rq 6 s6_405) (cx.u 0 rfl) (by kernel_rfl) rfl (by simp [Value.oneCell']) q_g3 rfl ⟨(ne_row b_g3 q_g4).symm, trivial⟩ trivial) <|
     hn) ?_
    intro a115 w115 f115
    refine wp_ret ?_
    have s6_406 := f115.q 6 s6_405
    try simp only [Exit.inBlock, Exit.then]
    refine bodyPost_ret (res_c (fn := Try.f40) rfl s6_406 (load_row 60 f115.rows.2.1 Try.underlying60 rfl (by kernel_rfl))) f115.d ?_
    exact ⟨rfl, f115.b⟩
   have Ffk32 := Lib.hid fk32; clear fk32
   have b_g1_407 := f112.k b_g1_393
   have b_g2_408 := f112.k b_g2_394
   have s4_409 := f112.q 4 s4_395
   have s5_410 := f112.q 5 s5_396
   refine go_reg [bx g1 60 (cR a b c d), bx g2 60 (cR p q r t)] [] [some (pt g1 3), some (.int .i64 d), some (pt g2 3), some (.int .i64 t), some (.tuple #[.int .i64 (IntKind.i64.wrap (d + t)), .bool (sumS d t)]), some (.tuple #[.int .i64 (IntKind.i64.wrap (d + t)), .bool (sumS d t)]), some (.int .i64 (IntKind.i64.wrap (d + t))), some (.bool true), some (.int .i64 (IntKind.i64.wrap (d + t))), some (.bool true)] mo f112.d f112.z f112.b (by kernel_rfl) ⟨b_g1_407, b_g2_408, trivial⟩ (
    hk (fun cx => cx.v (ex_fa rfl (cx.rq 4 s4_409) (faRU60_3_0 _ _)) rfl rfl) <|
    hk (fun cx => cx.v (ex_ld rfl (cx.u 0 rfl) (cx.rn 0 rfl) rfl Try.isAgg2) rfl rfl) <|
    hk (fun cx => cx.v (ex_fa rfl (cx.rq 5 s5_410) (faRU60_3_0 _ _)) rfl rfl) <|
    hk (fun cx => cx.v (ex_ld rfl (cx.u 0 rfl) (cx.rn 1 rfl) rfl Try.isAgg2) rfl rfl) <|
    hc (fun _ _ wx cx => cx.c rfl (args2 (cx.u 0 rfl) (cx.u 1 rfl)) Try.func88 (by decide +kernel) (rplus_n d t wx HS.out.1.2 HS.out.2.2) rfl rfl) <|
    hk (fun cx => cx.v (ex_mv rfl (cx.u 0 rfl)) rfl rfl) <|
    hk (fun cx => cx.v (ex_ext (x := .tmp 68) rfl (cx.u 0 rfl) rfl) rfl rfl) <|
    hk (fun cx => cx.v (ex_ext (x := .tmp 68) rfl (cx.u 0 rfl) rfl) rfl (congrArg Value.bool Ffk32.out)) <|
    hk (fun cx => cx.v (ex_as rfl (cx.u 0 rfl)) rfl rfl) <|
    hk (fun cx => cx.v (ex_as rfl (cx.u 0 rfl)) rfl rfl) <|
    hn) ?_
   intro a116 w116 f116
   refine wp_seq ?_
   have s11_411 := f116.q 11 (f112.v 9 rfl rfl rfl)
   refine go_reg [] [] [some (.bool true), some (.bool true), some (.bool true), some (.bool true)] mo f116.d f116.z f116.b (by kernel_rfl) trivial (
    hk (fun cx => cx.v (ex_mv rfl (cx.rq 11 s11_411)) rfl rfl) <|
    hk (fun cx => cx.v (ex_mv rfl (cx.u 0 rfl)) rfl rfl) <|
    hk (fun cx => cx.val (cx.wy rfl rfl rfl rfl (cx.u 0 rfl)) (ex_mv rfl (cx.rq 13 (f116.v 9 rfl rfl rfl))) rfl rfl rfl rfl) <|
    hk (fun cx => cx.v (ex_pt rfl (cx.u 0 rfl) (cx.u 1 rfl)) rfl rfl) <|
    hn) ?_
   intro a117 w117 f117
   refine wp_cond_true (f117.v 3 rfl rfl rfl) ?_
   refine wp_seq ?_
   have b_g4_412 := f117.k (f116.k (f112.k f104.rows.2.2.1))
   have s10_413 := f117.q 10 (f116.q 10 (f112.v 8 rfl rfl rfl))
   have s7_414 := f117.q 7 (f116.q 7 (f112.q 7 (f104.q 7 s7_368)))
   refine go_reg [⟨g4, 60, (cR (IntKind.u64.wrap (a + p)) (IntKind.u64.wrap (b + q)) allR.s.lo allR.s.hi), some 2, (cR (IntKind.u64.wrap (a + p)) (IntKind.u64.wrap (b + q)) (IntKind.i64.wrap (c + r)) allR.s.hi)⟩] [] [some (.int .i64 (IntKind.i64.wrap (c + r))), some (pt g4 2), none] mo f117.d f117.z f117.b (by kernel_rfl) ⟨b_g4_412, trivial⟩ (
    hk (fun cx => cx.v (ex_mv rfl (cx.rq 10 s10_413)) rfl rfl) <|
    hk (fun cx => cx.v (ex_fa rfl (cx.rq 7 s7_414) (faRU60_2_0 _ _)) rfl rfl) <|
    hk (fun cx => cx.stC (wn rfl) rfl rfl 0 rfl (cx.u 0 rfl) (cx.u 1 rfl) rfl rfl (by kernel_rfl) rfl rfl (Nat.le_trans f1.b.size q_g4) rfl trivial trivial) <|
    hn) ?_
   intro a118 w118 f118
   have s12_415 := f118.q 12 (f117.q 12 (f116.v 8 rfl rfl rfl))
   have s7_416 := f118.q 7 s7_414
   refine go_reg [⟨g4, 60, (cR (IntKind.u64.wrap (a + p)) (IntKind.u64.wrap (b + q)) (IntKind.i64.wrap (c + r)) allR.s.hi), some 2, (cR (IntKind.u64.wrap (a + p)) (IntKind.u64.wrap (b + q)) (IntKind.i64.wrap (c + r)) (IntKind.i64.wrap (d + t)))⟩] [] [some (.int .i64 (IntKind.i64.wrap (d + t))), some (pt g4 3), none] mo f118.d f118.z f118.b (by kernel_rfl) ⟨f118.rows.1, trivial⟩ (
    hk (fun cx => cx.v (ex_mv rfl (cx.rq 12 s12_415)) rfl rfl) <|
    hk (fun cx => cx.v (ex_fa rfl (cx.rq 7 s7_416) (faRU60_3_0 _ _)) rfl rfl) <|
    hk (fun cx => cx.stC (wn rfl) rfl rfl 0 rfl (cx.u 0 rfl) (cx.u 1 rfl) rfl rfl (by kernel_rfl) rfl rfl (Nat.le_trans f1.b.size q_g4) rfl trivial trivial) <|
    hn) ?_
   intro a119 w119 f119
   refine wp_seq ?_
   have b_g3_417 := f119.kp (f118.kp (f117.k (f116.k (f112.k (f104.kp (f103.kp (f102.k (f84.k (f83.k (f80.k (f79.k (f7.k (f2.k b_g3))))))) ⟨.inl rfl, .inl rfl, .inr (ne_row b_g3 q_g4), trivial⟩) ⟨.inl rfl, .inl rfl, .inr (ne_row b_g3 q_g4), trivial⟩)))) ⟨.inr (ne_row b_g3 q_g4), trivial⟩) ⟨.inr (ne_row b_g3 q_g4), trivial⟩
   have s7_418 := f119.q 7 s7_416
   have s6_419 := f119.q 6 (f118.q 6 (f117.q 6 (f116.q 6 (f112.q 6 (f104.q 6 (f103.q 6 (f102.q 6 (f84.q 6 (f83.q 6 (f80.q 6 (f79.q 6 (f7.q 6 (f2.q 6 u_g3)))))))))))))
   refine go_reg [bx g4 60 (cR (IntKind.u64.wrap (a + p)) (IntKind.u64.wrap (b + q)) (IntKind.i64.wrap (c + r)) (IntKind.i64.wrap (d + t))), ⟨g3, 60, (cR 0 0 0 0), some 2, (cR D.u.lo D.u.hi D.s.lo D.s.hi)⟩] [] [some (.agg (cR (IntKind.u64.wrap (a + p)) (IntKind.u64.wrap (b + q)) (IntKind.i64.wrap (c + r)) (IntKind.i64.wrap (d + t)))), some (.agg (cR D.u.lo D.u.hi D.s.lo D.s.hi)), none] mo f119.d f119.z f119.b (by kernel_rfl) ⟨f119.rows.1, b_g3_417, trivial⟩ (
    hk (fun cx => cx.v (ldR rfl (cx.rq 7 s7_418) (cx.rn 0 rfl)) rfl rfl) <|
    hc (fun _ _ wx cx => cx.c rfl (args1 (cx.u 0 rfl)) Try.func87 (by decide +kernel) (nar_mov (op := op) (x := ⟨⟨a, b⟩, ⟨c, d⟩⟩) (y := ⟨⟨p, q⟩, ⟨r, t⟩⟩) (z := ⟨⟨IntKind.u64.wrap (a + p), IntKind.u64.wrap (b + q)⟩, ⟨IntKind.i64.wrap (c + r), IntKind.i64.wrap (d + t)⟩⟩) (by unfold doU doS; (try unfold restU); simp only [if_neg (nb Ffk24.out), if_pos (yb Ffk25.out)]; rw [HPU1.out Ffk1.out Ffk2.out Ffk26.out, HPS1.out Ffk30.out Ffk32.out]; try rfl) ED.out HA.out HB.out Ffk1.out Ffk2.out wx) rfl rfl) <|
    hk (fun cx => cx.stR (wn rfl) rfl rfl 1 rfl (cx.rq 6 s6_419) (cx.u 0 rfl) (by kernel_rfl) rfl (by simp [Value.oneCell']) q_g3 rfl ⟨(ne_row b_g3 q_g4).symm, trivial⟩ trivial) <|
    hn) ?_
   intro a120 w120 f120
   refine wp_ret ?_
   have s6_420 := f120.q 6 s6_419
   try simp only [Exit.inBlock, Exit.then]
   refine bodyPost_ret (res_c (fn := Try.f40) rfl s6_420 (load_row 60 f120.rows.2.1 Try.underlying60 rfl (by kernel_rfl))) f120.d ?_
   exact ⟨rfl, f120.b⟩
  have Ffk25 := Lib.hid fk25; clear fk25
  have s33_421 := f83.q 33 (f80.v 0 rfl rfl rfl)
  refine go_reg [] [] [some (.bool false), some (.bool false)] mo f83.d f83.z f83.b (by kernel_rfl) trivial (
   hk (fun cx => cx.v (ex_eq (x := .tmp 33) rfl (cx.rq 33 s33_421) rfl) rfl (congrArg Value.bool Ffk25.out)) <|
   hk (fun cx => cx.v (ex_as rfl (cx.u 0 rfl)) rfl rfl) <|
   hn) ?_
  intro a121 w121 f121
  refine wp_cond_false (f121.v 1 rfl rfl rfl) ?_
  refine wp_seq ?_
  cases fk33 : op == 1
  case true =>
   have Ffk33 := Lib.hid fk33; clear fk33
   have s33_422 := f121.q 33 s33_421
   refine go_reg [] [] [some (.bool true), some (.bool true)] mo f121.d f121.z f121.b (by kernel_rfl) trivial (
    hk (fun cx => cx.v (ex_eq (x := .tmp 33) rfl (cx.rq 33 s33_422) rfl) rfl (congrArg Value.bool Ffk33.out)) <|
    hk (fun cx => cx.v (ex_as rfl (cx.u 0 rfl)) rfl rfl) <|
    hn) ?_
   intro a122 w122 f122
   refine wp_cond_true (f122.v 1 rfl rfl rfl) ?_
   refine wp_seq ?_
   refine wp_seq ?_
   cases fk34 : decide (q ≤ a)
   case false =>
    have Ffk34 := Lib.hid fk34; clear fk34
    have b_g1_423 := f122.k (f121.k (f83.k (f80.k (f79.k (f7.k b_g1_17)))))
    have b_g2_424 := f122.k (f121.k (f83.k (f80.k (f79.k b_g2_289))))
    have s4_425 := f122.q 4 (f121.q 4 (f83.q 4 (f80.q 4 (f79.q 4 (f7.q 4 s4_19)))))
    have s5_426 := f122.q 5 (f121.q 5 (f83.q 5 (f80.q 5 (f79.q 5 s5_290))))
    refine go_reg [bx g1 60 (cR a b c d), bx g2 60 (cR p q r t)] [] [some (pt g1 0), some (.int .u64 a), some (pt g2 1), some (.int .u64 q), some (.bool false)] mo f122.d f122.z f122.b (by kernel_rfl) ⟨b_g1_423, b_g2_424, trivial⟩ (
     hk (fun cx => cx.v (ex_fa rfl (cx.rq 4 s4_425) (faRU60_0_0 _ _)) rfl rfl) <|
     hk (fun cx => cx.v (ex_ld rfl (cx.u 0 rfl) (cx.rn 0 rfl) rfl Try.isAgg30) rfl rfl) <|
     hk (fun cx => cx.v (ex_fa rfl (cx.rq 5 s5_426) (faRU60_1_0 _ _)) rfl rfl) <|
     hk (fun cx => cx.v (ex_ld rfl (cx.u 0 rfl) (cx.rn 1 rfl) rfl Try.isAgg30) rfl rfl) <|
     hk (fun cx => cx.v (ex_ge (x := .tmp 87) (y := .tmp 89) rfl (cx.u 0 rfl) (cx.u 1 rfl)) rfl (congrArg Value.bool Ffk34.out)) <|
     hn) ?_
    intro a123 w123 f123
    refine wp_cond_false (f123.v 4 rfl rfl rfl) ?_
    refine wp_skip ?_
    refine wp_seq ?_
    cases fk35 : difS c t
    case false =>
     have Ffk35 := Lib.hid fk35; clear fk35
     have b_g1_427 := f123.k b_g1_423
     have b_g2_428 := f123.k b_g2_424
     have s4_429 := f123.q 4 s4_425
     have s5_430 := f123.q 5 s5_426
     refine go_reg [bx g1 60 (cR a b c d), bx g2 60 (cR p q r t)] [] [some (pt g1 2), some (.int .i64 c), some (pt g2 3), some (.int .i64 t), some (.tuple #[.int .i64 (IntKind.i64.wrap (c - t)), .bool (difS c t)]), some (.tuple #[.int .i64 (IntKind.i64.wrap (c - t)), .bool (difS c t)]), some (.int .i64 (IntKind.i64.wrap (c - t))), some (.bool false), some (.int .i64 (IntKind.i64.wrap (c - t))), some (.bool false)] mo f123.d f123.z f123.b (by kernel_rfl) ⟨b_g1_427, b_g2_428, trivial⟩ (
      hk (fun cx => cx.v (ex_fa rfl (cx.rq 4 s4_429) (faRU60_2_0 _ _)) rfl rfl) <|
      hk (fun cx => cx.v (ex_ld rfl (cx.u 0 rfl) (cx.rn 0 rfl) rfl Try.isAgg2) rfl rfl) <|
      hk (fun cx => cx.v (ex_fa rfl (cx.rq 5 s5_430) (faRU60_3_0 _ _)) rfl rfl) <|
      hk (fun cx => cx.v (ex_ld rfl (cx.u 0 rfl) (cx.rn 1 rfl) rfl Try.isAgg2) rfl rfl) <|
      hc (fun _ _ wx cx => cx.c rfl (args2 (cx.u 0 rfl) (cx.u 1 rfl)) Try.func89 (by decide +kernel) (rminus_n c t wx HS.out.1.1 HS.out.2.2) rfl rfl) <|
      hk (fun cx => cx.v (ex_mv rfl (cx.u 0 rfl)) rfl rfl) <|
      hk (fun cx => cx.v (ex_ext (x := .tmp 103) rfl (cx.u 0 rfl) rfl) rfl rfl) <|
      hk (fun cx => cx.v (ex_ext (x := .tmp 103) rfl (cx.u 0 rfl) rfl) rfl (congrArg Value.bool Ffk35.out)) <|
      hk (fun cx => cx.v (ex_as rfl (cx.u 0 rfl)) rfl rfl) <|
      hk (fun cx => cx.v (ex_as rfl (cx.u 0 rfl)) rfl rfl) <|
      hn) ?_
     intro a124 w124 f124
     refine wp_seq ?_
     cases fk36 : difS d r
     case false =>
      have Ffk36 := Lib.hid fk36; clear fk36
      have b_g1_431 := f124.k b_g1_427
      have b_g2_432 := f124.k b_g2_428
      have s4_433 := f124.q 4 s4_429
      have s5_434 := f124.q 5 s5_430
      refine go_reg [bx g1 60 (cR a b c d), bx g2 60 (cR p q r t)] [] [some (pt g1 3), some (.int .i64 d), some (pt g2 2), some (.int .i64 r), some (.tuple #[.int .i64 (IntKind.i64.wrap (d - r)), .bool (difS d r)]), some (.tuple #[.int .i64 (IntKind.i64.wrap (d - r)), .bool (difS d r)]), some (.int .i64 (IntKind.i64.wrap (d - r))), some (.bool false), some (.int .i64 (IntKind.i64.wrap (d - r))), some (.bool false)] mo f124.d f124.z f124.b (by kernel_rfl) ⟨b_g1_431, b_g2_432, trivial⟩ (
       hk (fun cx => cx.v (ex_fa rfl (cx.rq 4 s4_433) (faRU60_3_0 _ _)) rfl rfl) <|
       hk (fun cx => cx.v (ex_ld rfl (cx.u 0 rfl) (cx.rn 0 rfl) rfl Try.isAgg2) rfl rfl) <|
       hk (fun cx => cx.v (ex_fa rfl (cx.rq 5 s5_434) (faRU60_2_0 _ _)) rfl rfl) <|
       hk (fun cx => cx.v (ex_ld rfl (cx.u 0 rfl) (cx.rn 1 rfl) rfl Try.isAgg2) rfl rfl) <|
       hc (fun _ _ wx cx => cx.c rfl (args2 (cx.u 0 rfl) (cx.u 1 rfl)) Try.func89 (by decide +kernel) (rminus_n d r wx HS.out.1.2 HS.out.2.1) rfl rfl) <|
       hk (fun cx => cx.v (ex_mv rfl (cx.u 0 rfl)) rfl rfl) <|
       hk (fun cx => cx.v (ex_ext (x := .tmp 111) rfl (cx.u 0 rfl) rfl) rfl rfl) <|
       hk (fun cx => cx.v (ex_ext (x := .tmp 111) rfl (cx.u 0 rfl) rfl) rfl (congrArg Value.bool Ffk36.out)) <|
       hk (fun cx => cx.v (ex_as rfl (cx.u 0 rfl)) rfl rfl) <|
       hk (fun cx => cx.v (ex_as rfl (cx.u 0 rfl)) rfl rfl) <|
       hn) ?_
      intro a125 w125 f125
      refine wp_seq ?_
      have s15_435 := f125.q 15 (f124.v 9 rfl rfl rfl)
      refine go_reg [] [] [some (.bool false), some (.bool false), some (undef), some (.bool false)] mo f125.d f125.z f125.b (by kernel_rfl) trivial (
       hk (fun cx => cx.v (ex_mv rfl (cx.rq 15 s15_435)) rfl rfl) <|
       hk (fun cx => cx.v (ex_mv rfl (cx.u 0 rfl)) rfl rfl) <|
       hk (fun cx => cx.no (cx.wo rfl rfl rfl rfl (cx.u 0 rfl) rfl) rfl rfl rfl rfl) <|
       hk (fun cx => cx.v (ex_pf rfl (cx.u 0 rfl) rfl) rfl rfl) <|
       hn) ?_
      intro a126 w126 f126
      refine wp_cond_false (f126.v 3 rfl rfl rfl) ?_
      refine wp_skip ?_
      refine wp_seq ?_
      have b_g4_436 := f126.k (f125.k (f124.k (f123.k (f122.k (f121.k (f83.k (f80.k (f79.k (f7.k b_g4)))))))))
      have b_g3_437 := f126.k (f125.k (f124.k (f123.k (f122.k (f121.k (f83.k (f80.k (f79.k (f7.k (f2.k b_g3))))))))))
      have s7_438 := f126.q 7 (f125.q 7 (f124.q 7 (f123.q 7 (f122.q 7 (f121.q 7 (f83.q 7 (f80.q 7 (f79.q 7 (f7.q 7 u_g4)))))))))
      have s6_439 := f126.q 6 (f125.q 6 (f124.q 6 (f123.q 6 (f122.q 6 (f121.q 6 (f83.q 6 (f80.q 6 (f79.q 6 (f7.q 6 (f2.q 6 u_g3))))))))))
      refine go_reg [bx g4 60 (cR allR.u.lo allR.u.hi allR.s.lo allR.s.hi), ⟨g3, 60, (cR 0 0 0 0), some 2, (cR D.u.lo D.u.hi D.s.lo D.s.hi)⟩] [] [some (.agg (cR allR.u.lo allR.u.hi allR.s.lo allR.s.hi)), some (.agg (cR D.u.lo D.u.hi D.s.lo D.s.hi)), none] mo f126.d f126.z f126.b (by kernel_rfl) ⟨b_g4_436, b_g3_437, trivial⟩ (
       hk (fun cx => cx.v (ldR rfl (cx.rq 7 s7_438) (cx.rn 0 rfl)) rfl rfl) <|
       hc (fun _ _ wx cx => cx.c rfl (args1 (cx.u 0 rfl)) Try.func87 (by decide +kernel) (nar_mov (op := op) (x := ⟨⟨a, b⟩, ⟨c, d⟩⟩) (y := ⟨⟨p, q⟩, ⟨r, t⟩⟩) (z := allR) (by unfold doU doS; (try unfold restU); simp only [if_neg (nb Ffk24.out), if_neg (nb Ffk25.out), if_pos (yb Ffk33.out)]; rw [HMU0.out Ffk1.out Ffk2.out Ffk34.out, HMS0.out Ffk35.out]; try rfl) ED.out HA.out HB.out Ffk1.out Ffk2.out wx) rfl rfl) <|
       hk (fun cx => cx.stR (wn rfl) rfl rfl 1 rfl (cx.rq 6 s6_439) (cx.u 0 rfl) (by kernel_rfl) rfl (by simp [Value.oneCell']) q_g3 rfl ⟨(ne_row b_g3 q_g4).symm, trivial⟩ trivial) <|
       hn) ?_
      intro a127 w127 f127
      refine wp_ret ?_
      have s6_440 := f127.q 6 s6_439
      try simp only [Exit.inBlock, Exit.then]
      refine bodyPost_ret (res_c (fn := Try.f40) rfl s6_440 (load_row 60 f127.rows.2.1 Try.underlying60 rfl (by kernel_rfl))) f127.d ?_
      exact ⟨rfl, f127.b⟩
     have Ffk36 := Lib.hid fk36; clear fk36
     have b_g1_441 := f124.k b_g1_427
     have b_g2_442 := f124.k b_g2_428
     have s4_443 := f124.q 4 s4_429
     have s5_444 := f124.q 5 s5_430
     refine go_reg [bx g1 60 (cR a b c d), bx g2 60 (cR p q r t)] [] [some (pt g1 3), some (.int .i64 d), some (pt g2 2), some (.int .i64 r), some (.tuple #[.int .i64 (IntKind.i64.wrap (d - r)), .bool (difS d r)]), some (.tuple #[.int .i64 (IntKind.i64.wrap (d - r)), .bool (difS d r)]), some (.int .i64 (IntKind.i64.wrap (d - r))), some (.bool true), some (.int .i64 (IntKind.i64.wrap (d - r))), some (.bool true)] mo f124.d f124.z f124.b (by kernel_rfl) ⟨b_g1_441, b_g2_442, trivial⟩ (
      hk (fun cx => cx.v (ex_fa rfl (cx.rq 4 s4_443) (faRU60_3_0 _ _)) rfl rfl) <|
      hk (fun cx => cx.v (ex_ld rfl (cx.u 0 rfl) (cx.rn 0 rfl) rfl Try.isAgg2) rfl rfl) <|
      hk (fun cx => cx.v (ex_fa rfl (cx.rq 5 s5_444) (faRU60_2_0 _ _)) rfl rfl) <|
      hk (fun cx => cx.v (ex_ld rfl (cx.u 0 rfl) (cx.rn 1 rfl) rfl Try.isAgg2) rfl rfl) <|
      hc (fun _ _ wx cx => cx.c rfl (args2 (cx.u 0 rfl) (cx.u 1 rfl)) Try.func89 (by decide +kernel) (rminus_n d r wx HS.out.1.2 HS.out.2.1) rfl rfl) <|
      hk (fun cx => cx.v (ex_mv rfl (cx.u 0 rfl)) rfl rfl) <|
      hk (fun cx => cx.v (ex_ext (x := .tmp 111) rfl (cx.u 0 rfl) rfl) rfl rfl) <|
      hk (fun cx => cx.v (ex_ext (x := .tmp 111) rfl (cx.u 0 rfl) rfl) rfl (congrArg Value.bool Ffk36.out)) <|
      hk (fun cx => cx.v (ex_as rfl (cx.u 0 rfl)) rfl rfl) <|
      hk (fun cx => cx.v (ex_as rfl (cx.u 0 rfl)) rfl rfl) <|
      hn) ?_
     intro a128 w128 f128
     refine wp_seq ?_
     have s15_445 := f128.q 15 (f124.v 9 rfl rfl rfl)
     refine go_reg [] [] [some (.bool false), some (.bool false), some (undef), some (.bool false)] mo f128.d f128.z f128.b (by kernel_rfl) trivial (
      hk (fun cx => cx.v (ex_mv rfl (cx.rq 15 s15_445)) rfl rfl) <|
      hk (fun cx => cx.v (ex_mv rfl (cx.u 0 rfl)) rfl rfl) <|
      hk (fun cx => cx.no (cx.wo rfl rfl rfl rfl (cx.u 0 rfl) rfl) rfl rfl rfl rfl) <|
      hk (fun cx => cx.v (ex_pf rfl (cx.u 0 rfl) rfl) rfl rfl) <|
      hn) ?_
     intro a129 w129 f129
     refine wp_cond_false (f129.v 3 rfl rfl rfl) ?_
     refine wp_skip ?_
     refine wp_seq ?_
     have b_g4_446 := f129.k (f128.k (f124.k (f123.k (f122.k (f121.k (f83.k (f80.k (f79.k (f7.k b_g4)))))))))
     have b_g3_447 := f129.k (f128.k (f124.k (f123.k (f122.k (f121.k (f83.k (f80.k (f79.k (f7.k (f2.k b_g3))))))))))
     have s7_448 := f129.q 7 (f128.q 7 (f124.q 7 (f123.q 7 (f122.q 7 (f121.q 7 (f83.q 7 (f80.q 7 (f79.q 7 (f7.q 7 u_g4)))))))))
     have s6_449 := f129.q 6 (f128.q 6 (f124.q 6 (f123.q 6 (f122.q 6 (f121.q 6 (f83.q 6 (f80.q 6 (f79.q 6 (f7.q 6 (f2.q 6 u_g3))))))))))
     refine go_reg [bx g4 60 (cR allR.u.lo allR.u.hi allR.s.lo allR.s.hi), ⟨g3, 60, (cR 0 0 0 0), some 2, (cR D.u.lo D.u.hi D.s.lo D.s.hi)⟩] [] [some (.agg (cR allR.u.lo allR.u.hi allR.s.lo allR.s.hi)), some (.agg (cR D.u.lo D.u.hi D.s.lo D.s.hi)), none] mo f129.d f129.z f129.b (by kernel_rfl) ⟨b_g4_446, b_g3_447, trivial⟩ (
      hk (fun cx => cx.v (ldR rfl (cx.rq 7 s7_448) (cx.rn 0 rfl)) rfl rfl) <|
      hc (fun _ _ wx cx => cx.c rfl (args1 (cx.u 0 rfl)) Try.func87 (by decide +kernel) (nar_mov (op := op) (x := ⟨⟨a, b⟩, ⟨c, d⟩⟩) (y := ⟨⟨p, q⟩, ⟨r, t⟩⟩) (z := allR) (by unfold doU doS; (try unfold restU); simp only [if_neg (nb Ffk24.out), if_neg (nb Ffk25.out), if_pos (yb Ffk33.out)]; rw [HMU0.out Ffk1.out Ffk2.out Ffk34.out, HMS0.out Ffk35.out]; try rfl) ED.out HA.out HB.out Ffk1.out Ffk2.out wx) rfl rfl) <|
      hk (fun cx => cx.stR (wn rfl) rfl rfl 1 rfl (cx.rq 6 s6_449) (cx.u 0 rfl) (by kernel_rfl) rfl (by simp [Value.oneCell']) q_g3 rfl ⟨(ne_row b_g3 q_g4).symm, trivial⟩ trivial) <|
      hn) ?_
     intro a130 w130 f130
     refine wp_ret ?_
     have s6_450 := f130.q 6 s6_449
     try simp only [Exit.inBlock, Exit.then]
     refine bodyPost_ret (res_c (fn := Try.f40) rfl s6_450 (load_row 60 f130.rows.2.1 Try.underlying60 rfl (by kernel_rfl))) f130.d ?_
     exact ⟨rfl, f130.b⟩
    have Ffk35 := Lib.hid fk35; clear fk35
    have b_g1_451 := f123.k b_g1_423
    have b_g2_452 := f123.k b_g2_424
    have s4_453 := f123.q 4 s4_425
    have s5_454 := f123.q 5 s5_426
    refine go_reg [bx g1 60 (cR a b c d), bx g2 60 (cR p q r t)] [] [some (pt g1 2), some (.int .i64 c), some (pt g2 3), some (.int .i64 t), some (.tuple #[.int .i64 (IntKind.i64.wrap (c - t)), .bool (difS c t)]), some (.tuple #[.int .i64 (IntKind.i64.wrap (c - t)), .bool (difS c t)]), some (.int .i64 (IntKind.i64.wrap (c - t))), some (.bool true), some (.int .i64 (IntKind.i64.wrap (c - t))), some (.bool true)] mo f123.d f123.z f123.b (by kernel_rfl) ⟨b_g1_451, b_g2_452, trivial⟩ (
     hk (fun cx => cx.v (ex_fa rfl (cx.rq 4 s4_453) (faRU60_2_0 _ _)) rfl rfl) <|
     hk (fun cx => cx.v (ex_ld rfl (cx.u 0 rfl) (cx.rn 0 rfl) rfl Try.isAgg2) rfl rfl) <|
     hk (fun cx => cx.v (ex_fa rfl (cx.rq 5 s5_454) (faRU60_3_0 _ _)) rfl rfl) <|
     hk (fun cx => cx.v (ex_ld rfl (cx.u 0 rfl) (cx.rn 1 rfl) rfl Try.isAgg2) rfl rfl) <|
     hc (fun _ _ wx cx => cx.c rfl (args2 (cx.u 0 rfl) (cx.u 1 rfl)) Try.func89 (by decide +kernel) (rminus_n c t wx HS.out.1.1 HS.out.2.2) rfl rfl) <|
     hk (fun cx => cx.v (ex_mv rfl (cx.u 0 rfl)) rfl rfl) <|
     hk (fun cx => cx.v (ex_ext (x := .tmp 103) rfl (cx.u 0 rfl) rfl) rfl rfl) <|
     hk (fun cx => cx.v (ex_ext (x := .tmp 103) rfl (cx.u 0 rfl) rfl) rfl (congrArg Value.bool Ffk35.out)) <|
     hk (fun cx => cx.v (ex_as rfl (cx.u 0 rfl)) rfl rfl) <|
     hk (fun cx => cx.v (ex_as rfl (cx.u 0 rfl)) rfl rfl) <|
     hn) ?_
    intro a131 w131 f131
    refine wp_seq ?_
    cases fk37 : difS d r
    case false =>
     have Ffk37 := Lib.hid fk37; clear fk37
     have b_g1_455 := f131.k b_g1_451
     have b_g2_456 := f131.k b_g2_452
     have s4_457 := f131.q 4 s4_453
     have s5_458 := f131.q 5 s5_454
     refine go_reg [bx g1 60 (cR a b c d), bx g2 60 (cR p q r t)] [] [some (pt g1 3), some (.int .i64 d), some (pt g2 2), some (.int .i64 r), some (.tuple #[.int .i64 (IntKind.i64.wrap (d - r)), .bool (difS d r)]), some (.tuple #[.int .i64 (IntKind.i64.wrap (d - r)), .bool (difS d r)]), some (.int .i64 (IntKind.i64.wrap (d - r))), some (.bool false), some (.int .i64 (IntKind.i64.wrap (d - r))), some (.bool false)] mo f131.d f131.z f131.b (by kernel_rfl) ⟨b_g1_455, b_g2_456, trivial⟩ (
      hk (fun cx => cx.v (ex_fa rfl (cx.rq 4 s4_457) (faRU60_3_0 _ _)) rfl rfl) <|
      hk (fun cx => cx.v (ex_ld rfl (cx.u 0 rfl) (cx.rn 0 rfl) rfl Try.isAgg2) rfl rfl) <|
      hk (fun cx => cx.v (ex_fa rfl (cx.rq 5 s5_458) (faRU60_2_0 _ _)) rfl rfl) <|
      hk (fun cx => cx.v (ex_ld rfl (cx.u 0 rfl) (cx.rn 1 rfl) rfl Try.isAgg2) rfl rfl) <|
      hc (fun _ _ wx cx => cx.c rfl (args2 (cx.u 0 rfl) (cx.u 1 rfl)) Try.func89 (by decide +kernel) (rminus_n d r wx HS.out.1.2 HS.out.2.1) rfl rfl) <|
      hk (fun cx => cx.v (ex_mv rfl (cx.u 0 rfl)) rfl rfl) <|
      hk (fun cx => cx.v (ex_ext (x := .tmp 111) rfl (cx.u 0 rfl) rfl) rfl rfl) <|
      hk (fun cx => cx.v (ex_ext (x := .tmp 111) rfl (cx.u 0 rfl) rfl) rfl (congrArg Value.bool Ffk37.out)) <|
      hk (fun cx => cx.v (ex_as rfl (cx.u 0 rfl)) rfl rfl) <|
      hk (fun cx => cx.v (ex_as rfl (cx.u 0 rfl)) rfl rfl) <|
      hn) ?_
     intro a132 w132 f132
     refine wp_seq ?_
     have s15_459 := f132.q 15 (f131.v 9 rfl rfl rfl)
     refine go_reg [] [] [some (.bool true), some (.bool true), some (.bool false), some (.bool false)] mo f132.d f132.z f132.b (by kernel_rfl) trivial (
      hk (fun cx => cx.v (ex_mv rfl (cx.rq 15 s15_459)) rfl rfl) <|
      hk (fun cx => cx.v (ex_mv rfl (cx.u 0 rfl)) rfl rfl) <|
      hk (fun cx => cx.val (cx.wy rfl rfl rfl rfl (cx.u 0 rfl)) (ex_mv rfl (cx.rq 17 (f132.v 9 rfl rfl rfl))) rfl rfl rfl rfl) <|
      hk (fun cx => cx.v (ex_pt rfl (cx.u 0 rfl) (cx.u 1 rfl)) rfl rfl) <|
      hn) ?_
     intro a133 w133 f133
     refine wp_cond_false (f133.v 3 rfl rfl rfl) ?_
     refine wp_skip ?_
     refine wp_seq ?_
     have b_g4_460 := f133.k (f132.k (f131.k (f123.k (f122.k (f121.k (f83.k (f80.k (f79.k (f7.k b_g4)))))))))
     have b_g3_461 := f133.k (f132.k (f131.k (f123.k (f122.k (f121.k (f83.k (f80.k (f79.k (f7.k (f2.k b_g3))))))))))
     have s7_462 := f133.q 7 (f132.q 7 (f131.q 7 (f123.q 7 (f122.q 7 (f121.q 7 (f83.q 7 (f80.q 7 (f79.q 7 (f7.q 7 u_g4)))))))))
     have s6_463 := f133.q 6 (f132.q 6 (f131.q 6 (f123.q 6 (f122.q 6 (f121.q 6 (f83.q 6 (f80.q 6 (f79.q 6 (f7.q 6 (f2.q 6 u_g3))))))))))
     refine go_reg [bx g4 60 (cR allR.u.lo allR.u.hi allR.s.lo allR.s.hi), ⟨g3, 60, (cR 0 0 0 0), some 2, (cR D.u.lo D.u.hi D.s.lo D.s.hi)⟩] [] [some (.agg (cR allR.u.lo allR.u.hi allR.s.lo allR.s.hi)), some (.agg (cR D.u.lo D.u.hi D.s.lo D.s.hi)), none] mo f133.d f133.z f133.b (by kernel_rfl) ⟨b_g4_460, b_g3_461, trivial⟩ (
      hk (fun cx => cx.v (ldR rfl (cx.rq 7 s7_462) (cx.rn 0 rfl)) rfl rfl) <|
      hc (fun _ _ wx cx => cx.c rfl (args1 (cx.u 0 rfl)) Try.func87 (by decide +kernel) (nar_mov (op := op) (x := ⟨⟨a, b⟩, ⟨c, d⟩⟩) (y := ⟨⟨p, q⟩, ⟨r, t⟩⟩) (z := allR) (by unfold doU doS; (try unfold restU); simp only [if_neg (nb Ffk24.out), if_neg (nb Ffk25.out), if_pos (yb Ffk33.out)]; rw [HMU0.out Ffk1.out Ffk2.out Ffk34.out, HMS2.out Ffk37.out]; try rfl) ED.out HA.out HB.out Ffk1.out Ffk2.out wx) rfl rfl) <|
      hk (fun cx => cx.stR (wn rfl) rfl rfl 1 rfl (cx.rq 6 s6_463) (cx.u 0 rfl) (by kernel_rfl) rfl (by simp [Value.oneCell']) q_g3 rfl ⟨(ne_row b_g3 q_g4).symm, trivial⟩ trivial) <|
      hn) ?_
     intro a134 w134 f134
     refine wp_ret ?_
     have s6_464 := f134.q 6 s6_463
     try simp only [Exit.inBlock, Exit.then]
     refine bodyPost_ret (res_c (fn := Try.f40) rfl s6_464 (load_row 60 f134.rows.2.1 Try.underlying60 rfl (by kernel_rfl))) f134.d ?_
     exact ⟨rfl, f134.b⟩
    have Ffk37 := Lib.hid fk37; clear fk37
    have b_g1_465 := f131.k b_g1_451
    have b_g2_466 := f131.k b_g2_452
    have s4_467 := f131.q 4 s4_453
    have s5_468 := f131.q 5 s5_454
    refine go_reg [bx g1 60 (cR a b c d), bx g2 60 (cR p q r t)] [] [some (pt g1 3), some (.int .i64 d), some (pt g2 2), some (.int .i64 r), some (.tuple #[.int .i64 (IntKind.i64.wrap (d - r)), .bool (difS d r)]), some (.tuple #[.int .i64 (IntKind.i64.wrap (d - r)), .bool (difS d r)]), some (.int .i64 (IntKind.i64.wrap (d - r))), some (.bool true), some (.int .i64 (IntKind.i64.wrap (d - r))), some (.bool true)] mo f131.d f131.z f131.b (by kernel_rfl) ⟨b_g1_465, b_g2_466, trivial⟩ (
     hk (fun cx => cx.v (ex_fa rfl (cx.rq 4 s4_467) (faRU60_3_0 _ _)) rfl rfl) <|
     hk (fun cx => cx.v (ex_ld rfl (cx.u 0 rfl) (cx.rn 0 rfl) rfl Try.isAgg2) rfl rfl) <|
     hk (fun cx => cx.v (ex_fa rfl (cx.rq 5 s5_468) (faRU60_2_0 _ _)) rfl rfl) <|
     hk (fun cx => cx.v (ex_ld rfl (cx.u 0 rfl) (cx.rn 1 rfl) rfl Try.isAgg2) rfl rfl) <|
     hc (fun _ _ wx cx => cx.c rfl (args2 (cx.u 0 rfl) (cx.u 1 rfl)) Try.func89 (by decide +kernel) (rminus_n d r wx HS.out.1.2 HS.out.2.1) rfl rfl) <|
     hk (fun cx => cx.v (ex_mv rfl (cx.u 0 rfl)) rfl rfl) <|
     hk (fun cx => cx.v (ex_ext (x := .tmp 111) rfl (cx.u 0 rfl) rfl) rfl rfl) <|
     hk (fun cx => cx.v (ex_ext (x := .tmp 111) rfl (cx.u 0 rfl) rfl) rfl (congrArg Value.bool Ffk37.out)) <|
     hk (fun cx => cx.v (ex_as rfl (cx.u 0 rfl)) rfl rfl) <|
     hk (fun cx => cx.v (ex_as rfl (cx.u 0 rfl)) rfl rfl) <|
     hn) ?_
    intro a135 w135 f135
    refine wp_seq ?_
    have s15_469 := f135.q 15 (f131.v 9 rfl rfl rfl)
    refine go_reg [] [] [some (.bool true), some (.bool true), some (.bool true), some (.bool true)] mo f135.d f135.z f135.b (by kernel_rfl) trivial (
     hk (fun cx => cx.v (ex_mv rfl (cx.rq 15 s15_469)) rfl rfl) <|
     hk (fun cx => cx.v (ex_mv rfl (cx.u 0 rfl)) rfl rfl) <|
     hk (fun cx => cx.val (cx.wy rfl rfl rfl rfl (cx.u 0 rfl)) (ex_mv rfl (cx.rq 17 (f135.v 9 rfl rfl rfl))) rfl rfl rfl rfl) <|
     hk (fun cx => cx.v (ex_pt rfl (cx.u 0 rfl) (cx.u 1 rfl)) rfl rfl) <|
     hn) ?_
    intro a136 w136 f136
    refine wp_cond_true (f136.v 3 rfl rfl rfl) ?_
    refine wp_seq ?_
    have b_g4_470 := f136.k (f135.k (f131.k (f123.k (f122.k (f121.k (f83.k (f80.k (f79.k (f7.k b_g4)))))))))
    have s14_471 := f136.q 14 (f135.q 14 (f131.v 8 rfl rfl rfl))
    have s7_472 := f136.q 7 (f135.q 7 (f131.q 7 (f123.q 7 (f122.q 7 (f121.q 7 (f83.q 7 (f80.q 7 (f79.q 7 (f7.q 7 u_g4)))))))))
    refine go_reg [⟨g4, 60, (cR allR.u.lo allR.u.hi allR.s.lo allR.s.hi), some 2, (cR allR.u.lo allR.u.hi (IntKind.i64.wrap (c - t)) allR.s.hi)⟩] [] [some (.int .i64 (IntKind.i64.wrap (c - t))), some (pt g4 2), none] mo f136.d f136.z f136.b (by kernel_rfl) ⟨b_g4_470, trivial⟩ (
     hk (fun cx => cx.v (ex_mv rfl (cx.rq 14 s14_471)) rfl rfl) <|
     hk (fun cx => cx.v (ex_fa rfl (cx.rq 7 s7_472) (faRU60_2_0 _ _)) rfl rfl) <|
     hk (fun cx => cx.stC (wn rfl) rfl rfl 0 rfl (cx.u 0 rfl) (cx.u 1 rfl) rfl rfl (by kernel_rfl) rfl rfl (Nat.le_trans f1.b.size q_g4) rfl trivial trivial) <|
     hn) ?_
    intro a137 w137 f137
    have s16_473 := f137.q 16 (f136.q 16 (f135.v 8 rfl rfl rfl))
    have s7_474 := f137.q 7 s7_472
    refine go_reg [⟨g4, 60, (cR allR.u.lo allR.u.hi (IntKind.i64.wrap (c - t)) allR.s.hi), some 2, (cR allR.u.lo allR.u.hi (IntKind.i64.wrap (c - t)) (IntKind.i64.wrap (d - r)))⟩] [] [some (.int .i64 (IntKind.i64.wrap (d - r))), some (pt g4 3), none] mo f137.d f137.z f137.b (by kernel_rfl) ⟨f137.rows.1, trivial⟩ (
     hk (fun cx => cx.v (ex_mv rfl (cx.rq 16 s16_473)) rfl rfl) <|
     hk (fun cx => cx.v (ex_fa rfl (cx.rq 7 s7_474) (faRU60_3_0 _ _)) rfl rfl) <|
     hk (fun cx => cx.stC (wn rfl) rfl rfl 0 rfl (cx.u 0 rfl) (cx.u 1 rfl) rfl rfl (by kernel_rfl) rfl rfl (Nat.le_trans f1.b.size q_g4) rfl trivial trivial) <|
     hn) ?_
    intro a138 w138 f138
    refine wp_seq ?_
    have b_g3_475 := f138.kp (f137.kp (f136.k (f135.k (f131.k (f123.k (f122.k (f121.k (f83.k (f80.k (f79.k (f7.k (f2.k b_g3))))))))))) ⟨.inr (ne_row b_g3 q_g4), trivial⟩) ⟨.inr (ne_row b_g3 q_g4), trivial⟩
    have s7_476 := f138.q 7 s7_474
    have s6_477 := f138.q 6 (f137.q 6 (f136.q 6 (f135.q 6 (f131.q 6 (f123.q 6 (f122.q 6 (f121.q 6 (f83.q 6 (f80.q 6 (f79.q 6 (f7.q 6 (f2.q 6 u_g3))))))))))))
    refine go_reg [bx g4 60 (cR allR.u.lo allR.u.hi (IntKind.i64.wrap (c - t)) (IntKind.i64.wrap (d - r))), ⟨g3, 60, (cR 0 0 0 0), some 2, (cR D.u.lo D.u.hi D.s.lo D.s.hi)⟩] [] [some (.agg (cR allR.u.lo allR.u.hi (IntKind.i64.wrap (c - t)) (IntKind.i64.wrap (d - r)))), some (.agg (cR D.u.lo D.u.hi D.s.lo D.s.hi)), none] mo f138.d f138.z f138.b (by kernel_rfl) ⟨f138.rows.1, b_g3_475, trivial⟩ (
     hk (fun cx => cx.v (ldR rfl (cx.rq 7 s7_476) (cx.rn 0 rfl)) rfl rfl) <|
     hc (fun _ _ wx cx => cx.c rfl (args1 (cx.u 0 rfl)) Try.func87 (by decide +kernel) (nar_mov (op := op) (x := ⟨⟨a, b⟩, ⟨c, d⟩⟩) (y := ⟨⟨p, q⟩, ⟨r, t⟩⟩) (z := ⟨allR.u, ⟨IntKind.i64.wrap (c - t), IntKind.i64.wrap (d - r)⟩⟩) (by unfold doU doS; (try unfold restU); simp only [if_neg (nb Ffk24.out), if_neg (nb Ffk25.out), if_pos (yb Ffk33.out)]; rw [HMU0.out Ffk1.out Ffk2.out Ffk34.out, HMS1.out Ffk35.out Ffk37.out]; try rfl) ED.out HA.out HB.out Ffk1.out Ffk2.out wx) rfl rfl) <|
     hk (fun cx => cx.stR (wn rfl) rfl rfl 1 rfl (cx.rq 6 s6_477) (cx.u 0 rfl) (by kernel_rfl) rfl (by simp [Value.oneCell']) q_g3 rfl ⟨(ne_row b_g3 q_g4).symm, trivial⟩ trivial) <|
     hn) ?_
    intro a139 w139 f139
    refine wp_ret ?_
    have s6_478 := f139.q 6 s6_477
    try simp only [Exit.inBlock, Exit.then]
    refine bodyPost_ret (res_c (fn := Try.f40) rfl s6_478 (load_row 60 f139.rows.2.1 Try.underlying60 rfl (by kernel_rfl))) f139.d ?_
    exact ⟨rfl, f139.b⟩
   have Ffk34 := Lib.hid fk34; clear fk34
   have b_g1_479 := f122.k (f121.k (f83.k (f80.k (f79.k (f7.k b_g1_17)))))
   have b_g2_480 := f122.k (f121.k (f83.k (f80.k (f79.k b_g2_289))))
   have s4_481 := f122.q 4 (f121.q 4 (f83.q 4 (f80.q 4 (f79.q 4 (f7.q 4 s4_19)))))
   have s5_482 := f122.q 5 (f121.q 5 (f83.q 5 (f80.q 5 (f79.q 5 s5_290))))
   refine go_reg [bx g1 60 (cR a b c d), bx g2 60 (cR p q r t)] [] [some (pt g1 0), some (.int .u64 a), some (pt g2 1), some (.int .u64 q), some (.bool true)] mo f122.d f122.z f122.b (by kernel_rfl) ⟨b_g1_479, b_g2_480, trivial⟩ (
    hk (fun cx => cx.v (ex_fa rfl (cx.rq 4 s4_481) (faRU60_0_0 _ _)) rfl rfl) <|
    hk (fun cx => cx.v (ex_ld rfl (cx.u 0 rfl) (cx.rn 0 rfl) rfl Try.isAgg30) rfl rfl) <|
    hk (fun cx => cx.v (ex_fa rfl (cx.rq 5 s5_482) (faRU60_1_0 _ _)) rfl rfl) <|
    hk (fun cx => cx.v (ex_ld rfl (cx.u 0 rfl) (cx.rn 1 rfl) rfl Try.isAgg30) rfl rfl) <|
    hk (fun cx => cx.v (ex_ge (x := .tmp 87) (y := .tmp 89) rfl (cx.u 0 rfl) (cx.u 1 rfl)) rfl (congrArg Value.bool Ffk34.out)) <|
    hn) ?_
   intro a140 w140 f140
   refine wp_cond_true (f140.v 4 rfl rfl rfl) ?_
   refine wp_seq ?_
   have b_g1_483 := f140.k b_g1_479
   have b_g2_484 := f140.k b_g2_480
   have b_g4_485 := f140.k (f122.k (f121.k (f83.k (f80.k (f79.k (f7.k b_g4))))))
   have s4_486 := f140.q 4 s4_481
   have s5_487 := f140.q 5 s5_482
   have s7_488 := f140.q 7 (f122.q 7 (f121.q 7 (f83.q 7 (f80.q 7 (f79.q 7 (f7.q 7 u_g4))))))
   refine go_reg [bx g1 60 (cR a b c d), bx g2 60 (cR p q r t), ⟨g4, 60, (cR allR.u.lo allR.u.hi allR.s.lo allR.s.hi), some 6, (cR (IntKind.u64.wrap (a - q)) allR.u.hi allR.s.lo allR.s.hi)⟩] [] [some (pt g1 0), some (.int .u64 a), some (pt g2 1), some (.int .u64 q), some (.int .u64 (IntKind.u64.wrap (a - q))), some (pt g4 0), none] mo f140.d f140.z f140.b (by kernel_rfl) ⟨b_g1_483, b_g2_484, b_g4_485, trivial⟩ (
    hk (fun cx => cx.v (ex_fa rfl (cx.rq 4 s4_486) (faRU60_0_0 _ _)) rfl rfl) <|
    hk (fun cx => cx.v (ex_ld rfl (cx.u 0 rfl) (cx.rn 0 rfl) rfl Try.isAgg30) rfl rfl) <|
    hk (fun cx => cx.v (ex_fa rfl (cx.rq 5 s5_487) (faRU60_1_0 _ _)) rfl rfl) <|
    hk (fun cx => cx.v (ex_ld rfl (cx.u 0 rfl) (cx.rn 1 rfl) rfl Try.isAgg30) rfl rfl) <|
    hk (fun cx => cx.v (ex_sub (x := .tmp 92) (y := .tmp 94) rfl (cx.u 0 rfl) (cx.u 1 rfl)) rfl rfl) <|
    hk (fun cx => cx.v (ex_fa rfl (cx.rq 7 s7_488) (faRU60_0_0 _ _)) rfl rfl) <|
    hk (fun cx => cx.stC (wn rfl) rfl rfl 2 rfl (cx.u 0 rfl) (cx.u 1 rfl) rfl rfl (by kernel_rfl) rfl rfl (Nat.le_trans f1.b.size q_g4) rfl ⟨(ne_row b_g1 q_g4), (ne_row b_g2 q_g4), trivial⟩ trivial) <|
    hn) ?_
   intro a141 w141 f141
   have b_g1_489 := f141.kp b_g1_483 ⟨.inl rfl, .inl rfl, .inr (ne_row b_g1 q_g4), trivial⟩
   have b_g2_490 := f141.kp b_g2_484 ⟨.inl rfl, .inl rfl, .inr (ne_row b_g2 q_g4), trivial⟩
   have s4_491 := f141.q 4 s4_486
   have s5_492 := f141.q 5 s5_487
   have s7_493 := f141.q 7 s7_488
   refine go_reg [bx g1 60 (cR a b c d), bx g2 60 (cR p q r t), ⟨g4, 60, (cR (IntKind.u64.wrap (a - q)) allR.u.hi allR.s.lo allR.s.hi), some 6, (cR (IntKind.u64.wrap (a - q)) (IntKind.u64.wrap (b - p)) allR.s.lo allR.s.hi)⟩] [] [some (pt g1 1), some (.int .u64 b), some (pt g2 0), some (.int .u64 p), some (.int .u64 (IntKind.u64.wrap (b - p))), some (pt g4 1), none] mo f141.d f141.z f141.b (by kernel_rfl) ⟨b_g1_489, b_g2_490, f141.rows.2.2.1, trivial⟩ (
    hk (fun cx => cx.v (ex_fa rfl (cx.rq 4 s4_491) (faRU60_1_0 _ _)) rfl rfl) <|
    hk (fun cx => cx.v (ex_ld rfl (cx.u 0 rfl) (cx.rn 0 rfl) rfl Try.isAgg30) rfl rfl) <|
    hk (fun cx => cx.v (ex_fa rfl (cx.rq 5 s5_492) (faRU60_0_0 _ _)) rfl rfl) <|
    hk (fun cx => cx.v (ex_ld rfl (cx.u 0 rfl) (cx.rn 1 rfl) rfl Try.isAgg30) rfl rfl) <|
    hk (fun cx => cx.v (ex_sub (x := .tmp 98) (y := .tmp 100) rfl (cx.u 0 rfl) (cx.u 1 rfl)) rfl rfl) <|
    hk (fun cx => cx.v (ex_fa rfl (cx.rq 7 s7_493) (faRU60_1_0 _ _)) rfl rfl) <|
    hk (fun cx => cx.stC (wn rfl) rfl rfl 2 rfl (cx.u 0 rfl) (cx.u 1 rfl) rfl rfl (by kernel_rfl) rfl rfl (Nat.le_trans f1.b.size q_g4) rfl ⟨(ne_row b_g1 q_g4), (ne_row b_g2 q_g4), trivial⟩ trivial) <|
    hn) ?_
   intro a142 w142 f142
   refine wp_seq ?_
   cases fk38 : difS c t
   case false =>
    have Ffk38 := Lib.hid fk38; clear fk38
    have b_g1_494 := f142.kp b_g1_489 ⟨.inl rfl, .inl rfl, .inr (ne_row b_g1 q_g4), trivial⟩
    have b_g2_495 := f142.kp b_g2_490 ⟨.inl rfl, .inl rfl, .inr (ne_row b_g2 q_g4), trivial⟩
    have s4_496 := f142.q 4 s4_491
    have s5_497 := f142.q 5 s5_492
    refine go_reg [bx g1 60 (cR a b c d), bx g2 60 (cR p q r t)] [] [some (pt g1 2), some (.int .i64 c), some (pt g2 3), some (.int .i64 t), some (.tuple #[.int .i64 (IntKind.i64.wrap (c - t)), .bool (difS c t)]), some (.tuple #[.int .i64 (IntKind.i64.wrap (c - t)), .bool (difS c t)]), some (.int .i64 (IntKind.i64.wrap (c - t))), some (.bool false), some (.int .i64 (IntKind.i64.wrap (c - t))), some (.bool false)] mo f142.d f142.z f142.b (by kernel_rfl) ⟨b_g1_494, b_g2_495, trivial⟩ (
     hk (fun cx => cx.v (ex_fa rfl (cx.rq 4 s4_496) (faRU60_2_0 _ _)) rfl rfl) <|
     hk (fun cx => cx.v (ex_ld rfl (cx.u 0 rfl) (cx.rn 0 rfl) rfl Try.isAgg2) rfl rfl) <|
     hk (fun cx => cx.v (ex_fa rfl (cx.rq 5 s5_497) (faRU60_3_0 _ _)) rfl rfl) <|
     hk (fun cx => cx.v (ex_ld rfl (cx.u 0 rfl) (cx.rn 1 rfl) rfl Try.isAgg2) rfl rfl) <|
     hc (fun _ _ wx cx => cx.c rfl (args2 (cx.u 0 rfl) (cx.u 1 rfl)) Try.func89 (by decide +kernel) (rminus_n c t wx HS.out.1.1 HS.out.2.2) rfl rfl) <|
     hk (fun cx => cx.v (ex_mv rfl (cx.u 0 rfl)) rfl rfl) <|
     hk (fun cx => cx.v (ex_ext (x := .tmp 103) rfl (cx.u 0 rfl) rfl) rfl rfl) <|
     hk (fun cx => cx.v (ex_ext (x := .tmp 103) rfl (cx.u 0 rfl) rfl) rfl (congrArg Value.bool Ffk38.out)) <|
     hk (fun cx => cx.v (ex_as rfl (cx.u 0 rfl)) rfl rfl) <|
     hk (fun cx => cx.v (ex_as rfl (cx.u 0 rfl)) rfl rfl) <|
     hn) ?_
    intro a143 w143 f143
    refine wp_seq ?_
    cases fk39 : difS d r
    case false =>
     have Ffk39 := Lib.hid fk39; clear fk39
     have b_g1_498 := f143.k b_g1_494
     have b_g2_499 := f143.k b_g2_495
     have s4_500 := f143.q 4 s4_496
     have s5_501 := f143.q 5 s5_497
     refine go_reg [bx g1 60 (cR a b c d), bx g2 60 (cR p q r t)] [] [some (pt g1 3), some (.int .i64 d), some (pt g2 2), some (.int .i64 r), some (.tuple #[.int .i64 (IntKind.i64.wrap (d - r)), .bool (difS d r)]), some (.tuple #[.int .i64 (IntKind.i64.wrap (d - r)), .bool (difS d r)]), some (.int .i64 (IntKind.i64.wrap (d - r))), some (.bool false), some (.int .i64 (IntKind.i64.wrap (d - r))), some (.bool false)] mo f143.d f143.z f143.b (by kernel_rfl) ⟨b_g1_498, b_g2_499, trivial⟩ (
      hk (fun cx => cx.v (ex_fa rfl (cx.rq 4 s4_500) (faRU60_3_0 _ _)) rfl rfl) <|
      hk (fun cx => cx.v (ex_ld rfl (cx.u 0 rfl) (cx.rn 0 rfl) rfl Try.isAgg2) rfl rfl) <|
      hk (fun cx => cx.v (ex_fa rfl (cx.rq 5 s5_501) (faRU60_2_0 _ _)) rfl rfl) <|
      hk (fun cx => cx.v (ex_ld rfl (cx.u 0 rfl) (cx.rn 1 rfl) rfl Try.isAgg2) rfl rfl) <|
      hc (fun _ _ wx cx => cx.c rfl (args2 (cx.u 0 rfl) (cx.u 1 rfl)) Try.func89 (by decide +kernel) (rminus_n d r wx HS.out.1.2 HS.out.2.1) rfl rfl) <|
      hk (fun cx => cx.v (ex_mv rfl (cx.u 0 rfl)) rfl rfl) <|
      hk (fun cx => cx.v (ex_ext (x := .tmp 111) rfl (cx.u 0 rfl) rfl) rfl rfl) <|
      hk (fun cx => cx.v (ex_ext (x := .tmp 111) rfl (cx.u 0 rfl) rfl) rfl (congrArg Value.bool Ffk39.out)) <|
      hk (fun cx => cx.v (ex_as rfl (cx.u 0 rfl)) rfl rfl) <|
      hk (fun cx => cx.v (ex_as rfl (cx.u 0 rfl)) rfl rfl) <|
      hn) ?_
     intro a144 w144 f144
     refine wp_seq ?_
     have s15_502 := f144.q 15 (f143.v 9 rfl rfl rfl)
     refine go_reg [] [] [some (.bool false), some (.bool false), some (undef), some (.bool false)] mo f144.d f144.z f144.b (by kernel_rfl) trivial (
      hk (fun cx => cx.v (ex_mv rfl (cx.rq 15 s15_502)) rfl rfl) <|
      hk (fun cx => cx.v (ex_mv rfl (cx.u 0 rfl)) rfl rfl) <|
      hk (fun cx => cx.no (cx.wo rfl rfl rfl rfl (cx.u 0 rfl) rfl) rfl rfl rfl rfl) <|
      hk (fun cx => cx.v (ex_pf rfl (cx.u 0 rfl) rfl) rfl rfl) <|
      hn) ?_
     intro a145 w145 f145
     refine wp_cond_false (f145.v 3 rfl rfl rfl) ?_
     refine wp_skip ?_
     refine wp_seq ?_
     have b_g4_503 := f145.k (f144.k (f143.k f142.rows.2.2.1))
     have b_g3_504 := f145.k (f144.k (f143.k (f142.kp (f141.kp (f140.k (f122.k (f121.k (f83.k (f80.k (f79.k (f7.k (f2.k b_g3)))))))) ⟨.inl rfl, .inl rfl, .inr (ne_row b_g3 q_g4), trivial⟩) ⟨.inl rfl, .inl rfl, .inr (ne_row b_g3 q_g4), trivial⟩)))
     have s7_505 := f145.q 7 (f144.q 7 (f143.q 7 (f142.q 7 s7_493)))
     have s6_506 := f145.q 6 (f144.q 6 (f143.q 6 (f142.q 6 (f141.q 6 (f140.q 6 (f122.q 6 (f121.q 6 (f83.q 6 (f80.q 6 (f79.q 6 (f7.q 6 (f2.q 6 u_g3))))))))))))
     refine go_reg [bx g4 60 (cR (IntKind.u64.wrap (a - q)) (IntKind.u64.wrap (b - p)) allR.s.lo allR.s.hi), ⟨g3, 60, (cR 0 0 0 0), some 2, (cR D.u.lo D.u.hi D.s.lo D.s.hi)⟩] [] [some (.agg (cR (IntKind.u64.wrap (a - q)) (IntKind.u64.wrap (b - p)) allR.s.lo allR.s.hi)), some (.agg (cR D.u.lo D.u.hi D.s.lo D.s.hi)), none] mo f145.d f145.z f145.b (by kernel_rfl) ⟨b_g4_503, b_g3_504, trivial⟩ (
      hk (fun cx => cx.v (ldR rfl (cx.rq 7 s7_505) (cx.rn 0 rfl)) rfl rfl) <|
      hc (fun _ _ wx cx => cx.c rfl (args1 (cx.u 0 rfl)) Try.func87 (by decide +kernel) (nar_mov (op := op) (x := ⟨⟨a, b⟩, ⟨c, d⟩⟩) (y := ⟨⟨p, q⟩, ⟨r, t⟩⟩) (z := ⟨⟨IntKind.u64.wrap (a - q), IntKind.u64.wrap (b - p)⟩, allR.s⟩) (by unfold doU doS; (try unfold restU); simp only [if_neg (nb Ffk24.out), if_neg (nb Ffk25.out), if_pos (yb Ffk33.out)]; rw [HMU1.out Ffk1.out Ffk2.out Ffk34.out, HMS0.out Ffk38.out]; try rfl) ED.out HA.out HB.out Ffk1.out Ffk2.out wx) rfl rfl) <|
      hk (fun cx => cx.stR (wn rfl) rfl rfl 1 rfl (cx.rq 6 s6_506) (cx.u 0 rfl) (by kernel_rfl) rfl (by simp [Value.oneCell']) q_g3 rfl ⟨(ne_row b_g3 q_g4).symm, trivial⟩ trivial) <|
      hn) ?_
     intro a146 w146 f146
     refine wp_ret ?_
     have s6_507 := f146.q 6 s6_506
     try simp only [Exit.inBlock, Exit.then]
     refine bodyPost_ret (res_c (fn := Try.f40) rfl s6_507 (load_row 60 f146.rows.2.1 Try.underlying60 rfl (by kernel_rfl))) f146.d ?_
     exact ⟨rfl, f146.b⟩
    have Ffk39 := Lib.hid fk39; clear fk39
    have b_g1_508 := f143.k b_g1_494
    have b_g2_509 := f143.k b_g2_495
    have s4_510 := f143.q 4 s4_496
    have s5_511 := f143.q 5 s5_497
    refine go_reg [bx g1 60 (cR a b c d), bx g2 60 (cR p q r t)] [] [some (pt g1 3), some (.int .i64 d), some (pt g2 2), some (.int .i64 r), some (.tuple #[.int .i64 (IntKind.i64.wrap (d - r)), .bool (difS d r)]), some (.tuple #[.int .i64 (IntKind.i64.wrap (d - r)), .bool (difS d r)]), some (.int .i64 (IntKind.i64.wrap (d - r))), some (.bool true), some (.int .i64 (IntKind.i64.wrap (d - r))), some (.bool true)] mo f143.d f143.z f143.b (by kernel_rfl) ⟨b_g1_508, b_g2_509, trivial⟩ (
     hk (fun cx => cx.v (ex_fa rfl (cx.rq 4 s4_510) (faRU60_3_0 _ _)) rfl rfl) <|
     hk (fun cx => cx.v (ex_ld rfl (cx.u 0 rfl) (cx.rn 0 rfl) rfl Try.isAgg2) rfl rfl) <|
     hk (fun cx => cx.v (ex_fa rfl (cx.rq 5 s5_511) (faRU60_2_0 _ _)) rfl rfl) <|
     hk (fun cx => cx.v (ex_ld rfl (cx.u 0 rfl) (cx.rn 1 rfl) rfl Try.isAgg2) rfl rfl) <|
     hc (fun _ _ wx cx => cx.c rfl (args2 (cx.u 0 rfl) (cx.u 1 rfl)) Try.func89 (by decide +kernel) (rminus_n d r wx HS.out.1.2 HS.out.2.1) rfl rfl) <|
     hk (fun cx => cx.v (ex_mv rfl (cx.u 0 rfl)) rfl rfl) <|
     hk (fun cx => cx.v (ex_ext (x := .tmp 111) rfl (cx.u 0 rfl) rfl) rfl rfl) <|
     hk (fun cx => cx.v (ex_ext (x := .tmp 111) rfl (cx.u 0 rfl) rfl) rfl (congrArg Value.bool Ffk39.out)) <|
     hk (fun cx => cx.v (ex_as rfl (cx.u 0 rfl)) rfl rfl) <|
     hk (fun cx => cx.v (ex_as rfl (cx.u 0 rfl)) rfl rfl) <|
     hn) ?_
    intro a147 w147 f147
    refine wp_seq ?_
    have s15_512 := f147.q 15 (f143.v 9 rfl rfl rfl)
    refine go_reg [] [] [some (.bool false), some (.bool false), some (undef), some (.bool false)] mo f147.d f147.z f147.b (by kernel_rfl) trivial (
     hk (fun cx => cx.v (ex_mv rfl (cx.rq 15 s15_512)) rfl rfl) <|
     hk (fun cx => cx.v (ex_mv rfl (cx.u 0 rfl)) rfl rfl) <|
     hk (fun cx => cx.no (cx.wo rfl rfl rfl rfl (cx.u 0 rfl) rfl) rfl rfl rfl rfl) <|
     hk (fun cx => cx.v (ex_pf rfl (cx.u 0 rfl) rfl) rfl rfl) <|
     hn) ?_
    intro a148 w148 f148
    refine wp_cond_false (f148.v 3 rfl rfl rfl) ?_
    refine wp_skip ?_
    refine wp_seq ?_
    have b_g4_513 := f148.k (f147.k (f143.k f142.rows.2.2.1))
    have b_g3_514 := f148.k (f147.k (f143.k (f142.kp (f141.kp (f140.k (f122.k (f121.k (f83.k (f80.k (f79.k (f7.k (f2.k b_g3)))))))) ⟨.inl rfl, .inl rfl, .inr (ne_row b_g3 q_g4), trivial⟩) ⟨.inl rfl, .inl rfl, .inr (ne_row b_g3 q_g4), trivial⟩)))
    have s7_515 := f148.q 7 (f147.q 7 (f143.q 7 (f142.q 7 s7_493)))
    have s6_516 := f148.q 6 (f147.q 6 (f143.q 6 (f142.q 6 (f141.q 6 (f140.q 6 (f122.q 6 (f121.q 6 (f83.q 6 (f80.q 6 (f79.q 6 (f7.q 6 (f2.q 6 u_g3))))))))))))
    refine go_reg [bx g4 60 (cR (IntKind.u64.wrap (a - q)) (IntKind.u64.wrap (b - p)) allR.s.lo allR.s.hi), ⟨g3, 60, (cR 0 0 0 0), some 2, (cR D.u.lo D.u.hi D.s.lo D.s.hi)⟩] [] [some (.agg (cR (IntKind.u64.wrap (a - q)) (IntKind.u64.wrap (b - p)) allR.s.lo allR.s.hi)), some (.agg (cR D.u.lo D.u.hi D.s.lo D.s.hi)), none] mo f148.d f148.z f148.b (by kernel_rfl) ⟨b_g4_513, b_g3_514, trivial⟩ (
     hk (fun cx => cx.v (ldR rfl (cx.rq 7 s7_515) (cx.rn 0 rfl)) rfl rfl) <|
     hc (fun _ _ wx cx => cx.c rfl (args1 (cx.u 0 rfl)) Try.func87 (by decide +kernel) (nar_mov (op := op) (x := ⟨⟨a, b⟩, ⟨c, d⟩⟩) (y := ⟨⟨p, q⟩, ⟨r, t⟩⟩) (z := ⟨⟨IntKind.u64.wrap (a - q), IntKind.u64.wrap (b - p)⟩, allR.s⟩) (by unfold doU doS; (try unfold restU); simp only [if_neg (nb Ffk24.out), if_neg (nb Ffk25.out), if_pos (yb Ffk33.out)]; rw [HMU1.out Ffk1.out Ffk2.out Ffk34.out, HMS0.out Ffk38.out]; try rfl) ED.out HA.out HB.out Ffk1.out Ffk2.out wx) rfl rfl) <|
     hk (fun cx => cx.stR (wn rfl) rfl rfl 1 rfl (cx.rq 6 s6_516) (cx.u 0 rfl) (by kernel_rfl) rfl (by simp [Value.oneCell']) q_g3 rfl ⟨(ne_row b_g3 q_g4).symm, trivial⟩ trivial) <|
     hn) ?_
    intro a149 w149 f149
    refine wp_ret ?_
    have s6_517 := f149.q 6 s6_516
    try simp only [Exit.inBlock, Exit.then]
    refine bodyPost_ret (res_c (fn := Try.f40) rfl s6_517 (load_row 60 f149.rows.2.1 Try.underlying60 rfl (by kernel_rfl))) f149.d ?_
    exact ⟨rfl, f149.b⟩
   have Ffk38 := Lib.hid fk38; clear fk38
   have b_g1_518 := f142.kp b_g1_489 ⟨.inl rfl, .inl rfl, .inr (ne_row b_g1 q_g4), trivial⟩
   have b_g2_519 := f142.kp b_g2_490 ⟨.inl rfl, .inl rfl, .inr (ne_row b_g2 q_g4), trivial⟩
   have s4_520 := f142.q 4 s4_491
   have s5_521 := f142.q 5 s5_492
   refine go_reg [bx g1 60 (cR a b c d), bx g2 60 (cR p q r t)] [] [some (pt g1 2), some (.int .i64 c), some (pt g2 3), some (.int .i64 t), some (.tuple #[.int .i64 (IntKind.i64.wrap (c - t)), .bool (difS c t)]), some (.tuple #[.int .i64 (IntKind.i64.wrap (c - t)), .bool (difS c t)]), some (.int .i64 (IntKind.i64.wrap (c - t))), some (.bool true), some (.int .i64 (IntKind.i64.wrap (c - t))), some (.bool true)] mo f142.d f142.z f142.b (by kernel_rfl) ⟨b_g1_518, b_g2_519, trivial⟩ (
    hk (fun cx => cx.v (ex_fa rfl (cx.rq 4 s4_520) (faRU60_2_0 _ _)) rfl rfl) <|
    hk (fun cx => cx.v (ex_ld rfl (cx.u 0 rfl) (cx.rn 0 rfl) rfl Try.isAgg2) rfl rfl) <|
    hk (fun cx => cx.v (ex_fa rfl (cx.rq 5 s5_521) (faRU60_3_0 _ _)) rfl rfl) <|
    hk (fun cx => cx.v (ex_ld rfl (cx.u 0 rfl) (cx.rn 1 rfl) rfl Try.isAgg2) rfl rfl) <|
    hc (fun _ _ wx cx => cx.c rfl (args2 (cx.u 0 rfl) (cx.u 1 rfl)) Try.func89 (by decide +kernel) (rminus_n c t wx HS.out.1.1 HS.out.2.2) rfl rfl) <|
    hk (fun cx => cx.v (ex_mv rfl (cx.u 0 rfl)) rfl rfl) <|
    hk (fun cx => cx.v (ex_ext (x := .tmp 103) rfl (cx.u 0 rfl) rfl) rfl rfl) <|
    hk (fun cx => cx.v (ex_ext (x := .tmp 103) rfl (cx.u 0 rfl) rfl) rfl (congrArg Value.bool Ffk38.out)) <|
    hk (fun cx => cx.v (ex_as rfl (cx.u 0 rfl)) rfl rfl) <|
    hk (fun cx => cx.v (ex_as rfl (cx.u 0 rfl)) rfl rfl) <|
    hn) ?_
   intro a150 w150 f150
   refine wp_seq ?_
   cases fk40 : difS d r
   case false =>
    have Ffk40 := Lib.hid fk40; clear fk40
    have b_g1_522 := f150.k b_g1_518
    have b_g2_523 := f150.k b_g2_519
    have s4_524 := f150.q 4 s4_520
    have s5_525 := f150.q 5 s5_521
    refine go_reg [bx g1 60 (cR a b c d), bx g2 60 (cR p q r t)] [] [some (pt g1 3), some (.int .i64 d), some (pt g2 2), some (.int .i64 r), some (.tuple #[.int .i64 (IntKind.i64.wrap (d - r)), .bool (difS d r)]), some (.tuple #[.int .i64 (IntKind.i64.wrap (d - r)), .bool (difS d r)]), some (.int .i64 (IntKind.i64.wrap (d - r))), some (.bool false), some (.int .i64 (IntKind.i64.wrap (d - r))), some (.bool false)] mo f150.d f150.z f150.b (by kernel_rfl) ⟨b_g1_522, b_g2_523, trivial⟩ (
     hk (fun cx => cx.v (ex_fa rfl (cx.rq 4 s4_524) (faRU60_3_0 _ _)) rfl rfl) <|
     hk (fun cx => cx.v (ex_ld rfl (cx.u 0 rfl) (cx.rn 0 rfl) rfl Try.isAgg2) rfl rfl) <|
     hk (fun cx => cx.v (ex_fa rfl (cx.rq 5 s5_525) (faRU60_2_0 _ _)) rfl rfl) <|
     hk (fun cx => cx.v (ex_ld rfl (cx.u 0 rfl) (cx.rn 1 rfl) rfl Try.isAgg2) rfl rfl) <|
     hc (fun _ _ wx cx => cx.c rfl (args2 (cx.u 0 rfl) (cx.u 1 rfl)) Try.func89 (by decide +kernel) (rminus_n d r wx HS.out.1.2 HS.out.2.1) rfl rfl) <|
     hk (fun cx => cx.v (ex_mv rfl (cx.u 0 rfl)) rfl rfl) <|
     hk (fun cx => cx.v (ex_ext (x := .tmp 111) rfl (cx.u 0 rfl) rfl) rfl rfl) <|
     hk (fun cx => cx.v (ex_ext (x := .tmp 111) rfl (cx.u 0 rfl) rfl) rfl (congrArg Value.bool Ffk40.out)) <|
     hk (fun cx => cx.v (ex_as rfl (cx.u 0 rfl)) rfl rfl) <|
     hk (fun cx => cx.v (ex_as rfl (cx.u 0 rfl)) rfl rfl) <|
     hn) ?_
    intro a151 w151 f151
    refine wp_seq ?_
    have s15_526 := f151.q 15 (f150.v 9 rfl rfl rfl)
    refine go_reg [] [] [some (.bool true), some (.bool true), some (.bool false), some (.bool false)] mo f151.d f151.z f151.b (by kernel_rfl) trivial (
     hk (fun cx => cx.v (ex_mv rfl (cx.rq 15 s15_526)) rfl rfl) <|
     hk (fun cx => cx.v (ex_mv rfl (cx.u 0 rfl)) rfl rfl) <|
     hk (fun cx => cx.val (cx.wy rfl rfl rfl rfl (cx.u 0 rfl)) (ex_mv rfl (cx.rq 17 (f151.v 9 rfl rfl rfl))) rfl rfl rfl rfl) <|
     hk (fun cx => cx.v (ex_pt rfl (cx.u 0 rfl) (cx.u 1 rfl)) rfl rfl) <|
     hn) ?_
    intro a152 w152 f152
    refine wp_cond_false (f152.v 3 rfl rfl rfl) ?_
    refine wp_skip ?_
    refine wp_seq ?_
    have b_g4_527 := f152.k (f151.k (f150.k f142.rows.2.2.1))
    have b_g3_528 := f152.k (f151.k (f150.k (f142.kp (f141.kp (f140.k (f122.k (f121.k (f83.k (f80.k (f79.k (f7.k (f2.k b_g3)))))))) ⟨.inl rfl, .inl rfl, .inr (ne_row b_g3 q_g4), trivial⟩) ⟨.inl rfl, .inl rfl, .inr (ne_row b_g3 q_g4), trivial⟩)))
    have s7_529 := f152.q 7 (f151.q 7 (f150.q 7 (f142.q 7 s7_493)))
    have s6_530 := f152.q 6 (f151.q 6 (f150.q 6 (f142.q 6 (f141.q 6 (f140.q 6 (f122.q 6 (f121.q 6 (f83.q 6 (f80.q 6 (f79.q 6 (f7.q 6 (f2.q 6 u_g3))))))))))))
    refine go_reg [bx g4 60 (cR (IntKind.u64.wrap (a - q)) (IntKind.u64.wrap (b - p)) allR.s.lo allR.s.hi), ⟨g3, 60, (cR 0 0 0 0), some 2, (cR D.u.lo D.u.hi D.s.lo D.s.hi)⟩] [] [some (.agg (cR (IntKind.u64.wrap (a - q)) (IntKind.u64.wrap (b - p)) allR.s.lo allR.s.hi)), some (.agg (cR D.u.lo D.u.hi D.s.lo D.s.hi)), none] mo f152.d f152.z f152.b (by kernel_rfl) ⟨b_g4_527, b_g3_528, trivial⟩ (
     hk (fun cx => cx.v (ldR rfl (cx.rq 7 s7_529) (cx.rn 0 rfl)) rfl rfl) <|
     hc (fun _ _ wx cx => cx.c rfl (args1 (cx.u 0 rfl)) Try.func87 (by decide +kernel) (nar_mov (op := op) (x := ⟨⟨a, b⟩, ⟨c, d⟩⟩) (y := ⟨⟨p, q⟩, ⟨r, t⟩⟩) (z := ⟨⟨IntKind.u64.wrap (a - q), IntKind.u64.wrap (b - p)⟩, allR.s⟩) (by unfold doU doS; (try unfold restU); simp only [if_neg (nb Ffk24.out), if_neg (nb Ffk25.out), if_pos (yb Ffk33.out)]; rw [HMU1.out Ffk1.out Ffk2.out Ffk34.out, HMS2.out Ffk40.out]; try rfl) ED.out HA.out HB.out Ffk1.out Ffk2.out wx) rfl rfl) <|
     hk (fun cx => cx.stR (wn rfl) rfl rfl 1 rfl (cx.rq 6 s6_530) (cx.u 0 rfl) (by kernel_rfl) rfl (by simp [Value.oneCell']) q_g3 rfl ⟨(ne_row b_g3 q_g4).symm, trivial⟩ trivial) <|
     hn) ?_
    intro a153 w153 f153
    refine wp_ret ?_
    have s6_531 := f153.q 6 s6_530
    try simp only [Exit.inBlock, Exit.then]
    refine bodyPost_ret (res_c (fn := Try.f40) rfl s6_531 (load_row 60 f153.rows.2.1 Try.underlying60 rfl (by kernel_rfl))) f153.d ?_
    exact ⟨rfl, f153.b⟩
   have Ffk40 := Lib.hid fk40; clear fk40
   have b_g1_532 := f150.k b_g1_518
   have b_g2_533 := f150.k b_g2_519
   have s4_534 := f150.q 4 s4_520
   have s5_535 := f150.q 5 s5_521
   refine go_reg [bx g1 60 (cR a b c d), bx g2 60 (cR p q r t)] [] [some (pt g1 3), some (.int .i64 d), some (pt g2 2), some (.int .i64 r), some (.tuple #[.int .i64 (IntKind.i64.wrap (d - r)), .bool (difS d r)]), some (.tuple #[.int .i64 (IntKind.i64.wrap (d - r)), .bool (difS d r)]), some (.int .i64 (IntKind.i64.wrap (d - r))), some (.bool true), some (.int .i64 (IntKind.i64.wrap (d - r))), some (.bool true)] mo f150.d f150.z f150.b (by kernel_rfl) ⟨b_g1_532, b_g2_533, trivial⟩ (
    hk (fun cx => cx.v (ex_fa rfl (cx.rq 4 s4_534) (faRU60_3_0 _ _)) rfl rfl) <|
    hk (fun cx => cx.v (ex_ld rfl (cx.u 0 rfl) (cx.rn 0 rfl) rfl Try.isAgg2) rfl rfl) <|
    hk (fun cx => cx.v (ex_fa rfl (cx.rq 5 s5_535) (faRU60_2_0 _ _)) rfl rfl) <|
    hk (fun cx => cx.v (ex_ld rfl (cx.u 0 rfl) (cx.rn 1 rfl) rfl Try.isAgg2) rfl rfl) <|
    hc (fun _ _ wx cx => cx.c rfl (args2 (cx.u 0 rfl) (cx.u 1 rfl)) Try.func89 (by decide +kernel) (rminus_n d r wx HS.out.1.2 HS.out.2.1) rfl rfl) <|
    hk (fun cx => cx.v (ex_mv rfl (cx.u 0 rfl)) rfl rfl) <|
    hk (fun cx => cx.v (ex_ext (x := .tmp 111) rfl (cx.u 0 rfl) rfl) rfl rfl) <|
    hk (fun cx => cx.v (ex_ext (x := .tmp 111) rfl (cx.u 0 rfl) rfl) rfl (congrArg Value.bool Ffk40.out)) <|
    hk (fun cx => cx.v (ex_as rfl (cx.u 0 rfl)) rfl rfl) <|
    hk (fun cx => cx.v (ex_as rfl (cx.u 0 rfl)) rfl rfl) <|
    hn) ?_
   intro a154 w154 f154
   refine wp_seq ?_
   have s15_536 := f154.q 15 (f150.v 9 rfl rfl rfl)
   refine go_reg [] [] [some (.bool true), some (.bool true), some (.bool true), some (.bool true)] mo f154.d f154.z f154.b (by kernel_rfl) trivial (
    hk (fun cx => cx.v (ex_mv rfl (cx.rq 15 s15_536)) rfl rfl) <|
    hk (fun cx => cx.v (ex_mv rfl (cx.u 0 rfl)) rfl rfl) <|
    hk (fun cx => cx.val (cx.wy rfl rfl rfl rfl (cx.u 0 rfl)) (ex_mv rfl (cx.rq 17 (f154.v 9 rfl rfl rfl))) rfl rfl rfl rfl) <|
    hk (fun cx => cx.v (ex_pt rfl (cx.u 0 rfl) (cx.u 1 rfl)) rfl rfl) <|
    hn) ?_
   intro a155 w155 f155
   refine wp_cond_true (f155.v 3 rfl rfl rfl) ?_
   refine wp_seq ?_
   have b_g4_537 := f155.k (f154.k (f150.k f142.rows.2.2.1))
   have s14_538 := f155.q 14 (f154.q 14 (f150.v 8 rfl rfl rfl))
   have s7_539 := f155.q 7 (f154.q 7 (f150.q 7 (f142.q 7 s7_493)))
   refine go_reg [⟨g4, 60, (cR (IntKind.u64.wrap (a - q)) (IntKind.u64.wrap (b - p)) allR.s.lo allR.s.hi), some 2, (cR (IntKind.u64.wrap (a - q)) (IntKind.u64.wrap (b - p)) (IntKind.i64.wrap (c - t)) allR.s.hi)⟩] [] [some (.int .i64 (IntKind.i64.wrap (c - t))), some (pt g4 2), none] mo f155.d f155.z f155.b (by kernel_rfl) ⟨b_g4_537, trivial⟩ (
    hk (fun cx => cx.v (ex_mv rfl (cx.rq 14 s14_538)) rfl rfl) <|
    hk (fun cx => cx.v (ex_fa rfl (cx.rq 7 s7_539) (faRU60_2_0 _ _)) rfl rfl) <|
    hk (fun cx => cx.stC (wn rfl) rfl rfl 0 rfl (cx.u 0 rfl) (cx.u 1 rfl) rfl rfl (by kernel_rfl) rfl rfl (Nat.le_trans f1.b.size q_g4) rfl trivial trivial) <|
    hn) ?_
   intro a156 w156 f156
   have s16_540 := f156.q 16 (f155.q 16 (f154.v 8 rfl rfl rfl))
   have s7_541 := f156.q 7 s7_539
   refine go_reg [⟨g4, 60, (cR (IntKind.u64.wrap (a - q)) (IntKind.u64.wrap (b - p)) (IntKind.i64.wrap (c - t)) allR.s.hi), some 2, (cR (IntKind.u64.wrap (a - q)) (IntKind.u64.wrap (b - p)) (IntKind.i64.wrap (c - t)) (IntKind.i64.wrap (d - r)))⟩] [] [some (.int .i64 (IntKind.i64.wrap (d - r))), some (pt g4 3), none] mo f156.d f156.z f156.b (by kernel_rfl) ⟨f156.rows.1, trivial⟩ (
    hk (fun cx => cx.v (ex_mv rfl (cx.rq 16 s16_540)) rfl rfl) <|
    hk (fun cx => cx.v (ex_fa rfl (cx.rq 7 s7_541) (faRU60_3_0 _ _)) rfl rfl) <|
    hk (fun cx => cx.stC (wn rfl) rfl rfl 0 rfl (cx.u 0 rfl) (cx.u 1 rfl) rfl rfl (by kernel_rfl) rfl rfl (Nat.le_trans f1.b.size q_g4) rfl trivial trivial) <|
    hn) ?_
   intro a157 w157 f157
   refine wp_seq ?_
   have b_g3_542 := f157.kp (f156.kp (f155.k (f154.k (f150.k (f142.kp (f141.kp (f140.k (f122.k (f121.k (f83.k (f80.k (f79.k (f7.k (f2.k b_g3)))))))) ⟨.inl rfl, .inl rfl, .inr (ne_row b_g3 q_g4), trivial⟩) ⟨.inl rfl, .inl rfl, .inr (ne_row b_g3 q_g4), trivial⟩)))) ⟨.inr (ne_row b_g3 q_g4), trivial⟩) ⟨.inr (ne_row b_g3 q_g4), trivial⟩
   have s7_543 := f157.q 7 s7_541
   have s6_544 := f157.q 6 (f156.q 6 (f155.q 6 (f154.q 6 (f150.q 6 (f142.q 6 (f141.q 6 (f140.q 6 (f122.q 6 (f121.q 6 (f83.q 6 (f80.q 6 (f79.q 6 (f7.q 6 (f2.q 6 u_g3))))))))))))))
   refine go_reg [bx g4 60 (cR (IntKind.u64.wrap (a - q)) (IntKind.u64.wrap (b - p)) (IntKind.i64.wrap (c - t)) (IntKind.i64.wrap (d - r))), ⟨g3, 60, (cR 0 0 0 0), some 2, (cR D.u.lo D.u.hi D.s.lo D.s.hi)⟩] [] [some (.agg (cR (IntKind.u64.wrap (a - q)) (IntKind.u64.wrap (b - p)) (IntKind.i64.wrap (c - t)) (IntKind.i64.wrap (d - r)))), some (.agg (cR D.u.lo D.u.hi D.s.lo D.s.hi)), none] mo f157.d f157.z f157.b (by kernel_rfl) ⟨f157.rows.1, b_g3_542, trivial⟩ (
    hk (fun cx => cx.v (ldR rfl (cx.rq 7 s7_543) (cx.rn 0 rfl)) rfl rfl) <|
    hc (fun _ _ wx cx => cx.c rfl (args1 (cx.u 0 rfl)) Try.func87 (by decide +kernel) (nar_mov (op := op) (x := ⟨⟨a, b⟩, ⟨c, d⟩⟩) (y := ⟨⟨p, q⟩, ⟨r, t⟩⟩) (z := ⟨⟨IntKind.u64.wrap (a - q), IntKind.u64.wrap (b - p)⟩, ⟨IntKind.i64.wrap (c - t), IntKind.i64.wrap (d - r)⟩⟩) (by unfold doU doS; (try unfold restU); simp only [if_neg (nb Ffk24.out), if_neg (nb Ffk25.out), if_pos (yb Ffk33.out)]; rw [HMU1.out Ffk1.out Ffk2.out Ffk34.out, HMS1.out Ffk38.out Ffk40.out]; try rfl) ED.out HA.out HB.out Ffk1.out Ffk2.out wx) rfl rfl) <|
    hk (fun cx => cx.stR (wn rfl) rfl rfl 1 rfl (cx.rq 6 s6_544) (cx.u 0 rfl) (by kernel_rfl) rfl (by simp [Value.oneCell']) q_g3 rfl ⟨(ne_row b_g3 q_g4).symm, trivial⟩ trivial) <|
    hn) ?_
   intro a158 w158 f158
   refine wp_ret ?_
   have s6_545 := f158.q 6 s6_544
   try simp only [Exit.inBlock, Exit.then]
   refine bodyPost_ret (res_c (fn := Try.f40) rfl s6_545 (load_row 60 f158.rows.2.1 Try.underlying60 rfl (by kernel_rfl))) f158.d ?_
   exact ⟨rfl, f158.b⟩
  have Ffk33 := Lib.hid fk33; clear fk33
  have s33_546 := f121.q 33 s33_421
  refine go_reg [] [] [some (.bool false), some (.bool false)] mo f121.d f121.z f121.b (by kernel_rfl) trivial (
   hk (fun cx => cx.v (ex_eq (x := .tmp 33) rfl (cx.rq 33 s33_546) rfl) rfl (congrArg Value.bool Ffk33.out)) <|
   hk (fun cx => cx.v (ex_as rfl (cx.u 0 rfl)) rfl rfl) <|
   hn) ?_
  intro a159 w159 f159
  refine wp_cond_false (f159.v 1 rfl rfl rfl) ?_
  refine wp_seq ?_
  cases fk41 : op == 5
  case true =>
   have Ffk41 := Lib.hid fk41; clear fk41
   have s33_547 := f159.q 33 s33_546
   refine go_reg [] [] [some (.bool true), some (.bool true)] mo f159.d f159.z f159.b (by kernel_rfl) trivial (
    hk (fun cx => cx.v (ex_eq (x := .tmp 33) rfl (cx.rq 33 s33_547) rfl) rfl (congrArg Value.bool Ffk41.out)) <|
    hk (fun cx => cx.v (ex_as rfl (cx.u 0 rfl)) rfl rfl) <|
    hn) ?_
   intro a160 w160 f160
   refine wp_cond_true (f160.v 1 rfl rfl rfl) ?_
   have b_g1_548 := f160.k (f159.k (f121.k (f83.k (f80.k (f79.k (f7.k b_g1_17))))))
   have b_g2_549 := f160.k (f159.k (f121.k (f83.k (f80.k (f79.k b_g2_289)))))
   have b_g4_550 := f160.k (f159.k (f121.k (f83.k (f80.k (f79.k (f7.k b_g4))))))
   have s4_551 := f160.q 4 (f159.q 4 (f121.q 4 (f83.q 4 (f80.q 4 (f79.q 4 (f7.q 4 s4_19))))))
   have s5_552 := f160.q 5 (f159.q 5 (f121.q 5 (f83.q 5 (f80.q 5 (f79.q 5 s5_290)))))
   have s7_553 := f160.q 7 (f159.q 7 (f121.q 7 (f83.q 7 (f80.q 7 (f79.q 7 (f7.q 7 u_g4))))))
   refine go_reg [bx g1 60 (cR a b c d), bx g2 60 (cR p q r t), ⟨g4, 60, (cR allR.u.lo allR.u.hi allR.s.lo allR.s.hi), some 6, (cR allR.u.lo (min b q) allR.s.lo allR.s.hi)⟩] [] [some (pt g1 1), some (.int .u64 b), some (pt g2 1), some (.int .u64 q), some (.int .u64 (min b q)), some (pt g4 1), none] mo f160.d f160.z f160.b (by kernel_rfl) ⟨b_g1_548, b_g2_549, b_g4_550, trivial⟩ (
    hk (fun cx => cx.v (ex_fa rfl (cx.rq 4 s4_551) (faRU60_1_0 _ _)) rfl rfl) <|
    hk (fun cx => cx.v (ex_ld rfl (cx.u 0 rfl) (cx.rn 0 rfl) rfl Try.isAgg30) rfl rfl) <|
    hk (fun cx => cx.v (ex_fa rfl (cx.rq 5 s5_552) (faRU60_1_0 _ _)) rfl rfl) <|
    hk (fun cx => cx.v (ex_ld rfl (cx.u 0 rfl) (cx.rn 1 rfl) rfl Try.isAgg30) rfl rfl) <|
    hk (fun cx => cx.v (ex_min (x := .tmp 130) (y := .tmp 132) rfl (cx.u 0 rfl) (cx.u 1 rfl)) rfl rfl) <|
    hk (fun cx => cx.v (ex_fa rfl (cx.rq 7 s7_553) (faRU60_1_0 _ _)) rfl rfl) <|
    hk (fun cx => cx.stC (wn rfl) rfl rfl 2 rfl (cx.u 0 rfl) (cx.u 1 rfl) rfl rfl (by kernel_rfl) rfl rfl (Nat.le_trans f1.b.size q_g4) rfl ⟨(ne_row b_g1 q_g4), (ne_row b_g2 q_g4), trivial⟩ trivial) <|
    hn) ?_
   intro a161 w161 f161
   refine wp_seq ?_
   have b_g3_554 := f161.kp (f160.k (f159.k (f121.k (f83.k (f80.k (f79.k (f7.k (f2.k b_g3)))))))) ⟨.inl rfl, .inl rfl, .inr (ne_row b_g3 q_g4), trivial⟩
   have s7_555 := f161.q 7 s7_553
   have s6_556 := f161.q 6 (f160.q 6 (f159.q 6 (f121.q 6 (f83.q 6 (f80.q 6 (f79.q 6 (f7.q 6 (f2.q 6 u_g3))))))))
   refine go_reg [bx g4 60 (cR allR.u.lo (min b q) allR.s.lo allR.s.hi), ⟨g3, 60, (cR 0 0 0 0), some 2, (cR D.u.lo D.u.hi D.s.lo D.s.hi)⟩] [] [some (.agg (cR allR.u.lo (min b q) allR.s.lo allR.s.hi)), some (.agg (cR D.u.lo D.u.hi D.s.lo D.s.hi)), none] mo f161.d f161.z f161.b (by kernel_rfl) ⟨f161.rows.2.2.1, b_g3_554, trivial⟩ (
    hk (fun cx => cx.v (ldR rfl (cx.rq 7 s7_555) (cx.rn 0 rfl)) rfl rfl) <|
    hc (fun _ _ wx cx => cx.c rfl (args1 (cx.u 0 rfl)) Try.func87 (by decide +kernel) (nar_mov (op := op) (x := ⟨⟨a, b⟩, ⟨c, d⟩⟩) (y := ⟨⟨p, q⟩, ⟨r, t⟩⟩) (z := ⟨⟨allR.u.lo, min b q⟩, allR.s⟩) (by unfold doU doS; (try unfold restU); simp only [if_neg (nb Ffk24.out), if_neg (nb Ffk25.out), if_neg (nb Ffk33.out), if_pos (yb Ffk41.out)]; try rfl) ED.out HA.out HB.out Ffk1.out Ffk2.out wx) rfl rfl) <|
    hk (fun cx => cx.stR (wn rfl) rfl rfl 1 rfl (cx.rq 6 s6_556) (cx.u 0 rfl) (by kernel_rfl) rfl (by simp [Value.oneCell']) q_g3 rfl ⟨(ne_row b_g3 q_g4).symm, trivial⟩ trivial) <|
    hn) ?_
   intro a162 w162 f162
   refine wp_ret ?_
   have s6_557 := f162.q 6 s6_556
   try simp only [Exit.inBlock, Exit.then]
   refine bodyPost_ret (res_c (fn := Try.f40) rfl s6_557 (load_row 60 f162.rows.2.1 Try.underlying60 rfl (by kernel_rfl))) f162.d ?_
   exact ⟨rfl, f162.b⟩
  have Ffk41 := Lib.hid fk41; clear fk41
  have s33_558 := f159.q 33 s33_546
  refine go_reg [] [] [some (.bool false), some (.bool false)] mo f159.d f159.z f159.b (by kernel_rfl) trivial (
   hk (fun cx => cx.v (ex_eq (x := .tmp 33) rfl (cx.rq 33 s33_558) rfl) rfl (congrArg Value.bool Ffk41.out)) <|
   hk (fun cx => cx.v (ex_as rfl (cx.u 0 rfl)) rfl rfl) <|
   hn) ?_
  intro a163 w163 f163
  refine wp_cond_false (f163.v 1 rfl rfl rfl) ?_
  refine wp_seq ?_
  cases fk42 : op == 4
  case true =>
   have Ffk42 := Lib.hid fk42; clear fk42
   have s33_559 := f163.q 33 s33_558
   refine go_reg [] [] [some (.bool true), some (.bool true)] mo f163.d f163.z f163.b (by kernel_rfl) trivial (
    hk (fun cx => cx.v (ex_eq (x := .tmp 33) rfl (cx.rq 33 s33_559) rfl) rfl (congrArg Value.bool Ffk42.out)) <|
    hk (fun cx => cx.v (ex_as rfl (cx.u 0 rfl)) rfl rfl) <|
    hn) ?_
   intro a164 w164 f164
   refine wp_cond_true (f164.v 1 rfl rfl rfl) ?_
   refine wp_seq ?_
   have b_g1_560 := f164.k (f163.k (f159.k (f121.k (f83.k (f80.k (f79.k (f7.k b_g1_17)))))))
   have b_g2_561 := f164.k (f163.k (f159.k (f121.k (f83.k (f80.k (f79.k b_g2_289))))))
   have b_g4_562 := f164.k (f163.k (f159.k (f121.k (f83.k (f80.k (f79.k (f7.k b_g4)))))))
   have s4_563 := f164.q 4 (f163.q 4 (f159.q 4 (f121.q 4 (f83.q 4 (f80.q 4 (f79.q 4 (f7.q 4 s4_19)))))))
   have s5_564 := f164.q 5 (f163.q 5 (f159.q 5 (f121.q 5 (f83.q 5 (f80.q 5 (f79.q 5 s5_290))))))
   have s7_565 := f164.q 7 (f163.q 7 (f159.q 7 (f121.q 7 (f83.q 7 (f80.q 7 (f79.q 7 (f7.q 7 u_g4)))))))
   refine go_reg [bx g1 60 (cR a b c d), bx g2 60 (cR p q r t), ⟨g4, 60, (cR allR.u.lo allR.u.hi allR.s.lo allR.s.hi), some 6, (cR (max a p) allR.u.hi allR.s.lo allR.s.hi)⟩] [] [some (pt g1 0), some (.int .u64 a), some (pt g2 0), some (.int .u64 p), some (.int .u64 (max a p)), some (pt g4 0), none] mo f164.d f164.z f164.b (by kernel_rfl) ⟨b_g1_560, b_g2_561, b_g4_562, trivial⟩ (
    hk (fun cx => cx.v (ex_fa rfl (cx.rq 4 s4_563) (faRU60_0_0 _ _)) rfl rfl) <|
    hk (fun cx => cx.v (ex_ld rfl (cx.u 0 rfl) (cx.rn 0 rfl) rfl Try.isAgg30) rfl rfl) <|
    hk (fun cx => cx.v (ex_fa rfl (cx.rq 5 s5_564) (faRU60_0_0 _ _)) rfl rfl) <|
    hk (fun cx => cx.v (ex_ld rfl (cx.u 0 rfl) (cx.rn 1 rfl) rfl Try.isAgg30) rfl rfl) <|
    hc (fun _ ax _ cx => cx.v (ex_max (x := .tmp 138) (y := .tmp 140) rfl (cx.u 0 rfl) (cx.u 1 rfl)) rfl rfl) <|
    hk (fun cx => cx.v (ex_fa rfl (cx.rq 7 s7_565) (faRU60_0_0 _ _)) rfl rfl) <|
    hk (fun cx => cx.stC (wn rfl) rfl rfl 2 rfl (cx.u 0 rfl) (cx.u 1 rfl) rfl rfl (by kernel_rfl) rfl rfl (Nat.le_trans f1.b.size q_g4) rfl ⟨(ne_row b_g1 q_g4), (ne_row b_g2 q_g4), trivial⟩ trivial) <|
    hn) ?_
   intro a165 w165 f165
   have b_g1_566 := f165.kp b_g1_560 ⟨.inl rfl, .inl rfl, .inr (ne_row b_g1 q_g4), trivial⟩
   have b_g2_567 := f165.kp b_g2_561 ⟨.inl rfl, .inl rfl, .inr (ne_row b_g2 q_g4), trivial⟩
   have s4_568 := f165.q 4 s4_563
   have s5_569 := f165.q 5 s5_564
   have s7_570 := f165.q 7 s7_565
   refine go_reg [bx g1 60 (cR a b c d), bx g2 60 (cR p q r t), ⟨g4, 60, (cR (max a p) allR.u.hi allR.s.lo allR.s.hi), some 7, (cR (max a p) (onesI (Int.toNat (max b q))) allR.s.lo allR.s.hi)⟩] [] [some (pt g1 1), some (.int .u64 b), some (pt g2 1), some (.int .u64 q), some (.int .u64 (max b q)), some (.int .u64 (onesI (Int.toNat (max b q)))), some (pt g4 1), none] mo f165.d f165.z f165.b (by kernel_rfl) ⟨b_g1_566, b_g2_567, f165.rows.2.2.1, trivial⟩ (
    hk (fun cx => cx.v (ex_fa rfl (cx.rq 4 s4_568) (faRU60_1_0 _ _)) rfl rfl) <|
    hk (fun cx => cx.v (ex_ld rfl (cx.u 0 rfl) (cx.rn 0 rfl) rfl Try.isAgg30) rfl rfl) <|
    hk (fun cx => cx.v (ex_fa rfl (cx.rq 5 s5_569) (faRU60_1_0 _ _)) rfl rfl) <|
    hk (fun cx => cx.v (ex_ld rfl (cx.u 0 rfl) (cx.rn 1 rfl) rfl Try.isAgg30) rfl rfl) <|
    hc (fun _ ax _ cx => cx.v (ex_max (x := .tmp 144) (y := .tmp 146) rfl (cx.u 0 rfl) (cx.u 1 rfl)) rfl rfl) <|
    hc (fun _ ax wx cx => cx.c rfl (args1 (cx.u 0 rfl)) Try.func90 (by decide +kernel) (rfilled_n (max b q) wx HR.out.1 HR.out.2) rfl rfl) <|
    hk (fun cx => cx.v (ex_fa rfl (cx.rq 7 s7_570) (faRU60_1_0 _ _)) rfl rfl) <|
    hk (fun cx => cx.stC (wn rfl) rfl rfl 2 rfl (cx.u 0 rfl) (cx.u 1 rfl) rfl rfl (by kernel_rfl) rfl rfl (Nat.le_trans f1.b.size q_g4) rfl ⟨(ne_row b_g1 q_g4), (ne_row b_g2 q_g4), trivial⟩ trivial) <|
    hn) ?_
   intro a166 w166 f166
   refine wp_seq ?_
   have b_g3_571 := f166.kp (f165.kp (f164.k (f163.k (f159.k (f121.k (f83.k (f80.k (f79.k (f7.k (f2.k b_g3))))))))) ⟨.inl rfl, .inl rfl, .inr (ne_row b_g3 q_g4), trivial⟩) ⟨.inl rfl, .inl rfl, .inr (ne_row b_g3 q_g4), trivial⟩
   have s7_572 := f166.q 7 s7_570
   have s6_573 := f166.q 6 (f165.q 6 (f164.q 6 (f163.q 6 (f159.q 6 (f121.q 6 (f83.q 6 (f80.q 6 (f79.q 6 (f7.q 6 (f2.q 6 u_g3))))))))))
   refine go_reg [bx g4 60 (cR (max a p) (onesI (Int.toNat (max b q))) allR.s.lo allR.s.hi), ⟨g3, 60, (cR 0 0 0 0), some 2, (cR D.u.lo D.u.hi D.s.lo D.s.hi)⟩] [] [some (.agg (cR (max a p) (onesI (Int.toNat (max b q))) allR.s.lo allR.s.hi)), some (.agg (cR D.u.lo D.u.hi D.s.lo D.s.hi)), none] mo f166.d f166.z f166.b (by kernel_rfl) ⟨f166.rows.2.2.1, b_g3_571, trivial⟩ (
    hk (fun cx => cx.v (ldR rfl (cx.rq 7 s7_572) (cx.rn 0 rfl)) rfl rfl) <|
    hc (fun _ ax wx cx => cx.c rfl (args1 (cx.u 0 rfl)) Try.func87 (by decide +kernel) (nar_mov (op := op) (x := ⟨⟨a, b⟩, ⟨c, d⟩⟩) (y := ⟨⟨p, q⟩, ⟨r, t⟩⟩) (z := ⟨⟨max a p, onesI (Int.toNat (max b q))⟩, allR.s⟩) (by unfold doU doS; (try unfold restU); simp only [if_neg (nb Ffk24.out), if_neg (nb Ffk25.out), if_neg (nb Ffk33.out), if_neg (nb Ffk41.out), if_pos (yb Ffk42.out)]; rw [HR2.out]; try rfl) ED.out HA.out HB.out Ffk1.out Ffk2.out wx) rfl rfl) <|
    hk (fun cx => cx.stR (wn rfl) rfl rfl 1 rfl (cx.rq 6 s6_573) (cx.u 0 rfl) (by kernel_rfl) rfl (by simp [Value.oneCell']) q_g3 rfl ⟨(ne_row b_g3 q_g4).symm, trivial⟩ trivial) <|
    hn) ?_
   intro a167 w167 f167
   refine wp_ret ?_
   have s6_574 := f167.q 6 s6_573
   try simp only [Exit.inBlock, Exit.then]
   refine bodyPost_ret (res_c (fn := Try.f40) rfl s6_574 (load_row 60 f167.rows.2.1 Try.underlying60 rfl (by kernel_rfl))) f167.d ?_
   exact ⟨rfl, f167.b⟩
  have Ffk42 := Lib.hid fk42; clear fk42
  have s33_575 := f163.q 33 s33_558
  refine go_reg [] [] [some (.bool false), some (.bool false)] mo f163.d f163.z f163.b (by kernel_rfl) trivial (
   hk (fun cx => cx.v (ex_eq (x := .tmp 33) rfl (cx.rq 33 s33_575) rfl) rfl (congrArg Value.bool Ffk42.out)) <|
   hk (fun cx => cx.v (ex_as rfl (cx.u 0 rfl)) rfl rfl) <|
   hn) ?_
  intro a168 w168 f168
  refine wp_cond_false (f168.v 1 rfl rfl rfl) ?_
  refine wp_seq ?_
  cases fk43 : op == 10
  case true =>
   have Ffk43 := Lib.hid fk43; clear fk43
   have s33_576 := f168.q 33 s33_575
   refine go_reg [] [] [some (.bool true), some (.bool true)] mo f168.d f168.z f168.b (by kernel_rfl) trivial (
    hk (fun cx => cx.v (ex_eq (x := .tmp 33) rfl (cx.rq 33 s33_576) rfl) rfl (congrArg Value.bool Ffk43.out)) <|
    hk (fun cx => cx.v (ex_as rfl (cx.u 0 rfl)) rfl rfl) <|
    hn) ?_
   intro a169 w169 f169
   refine wp_cond_true (f169.v 1 rfl rfl rfl) ?_
   have b_g1_577 := f169.k (f168.k (f163.k (f159.k (f121.k (f83.k (f80.k (f79.k (f7.k b_g1_17))))))))
   have b_g2_578 := f169.k (f168.k (f163.k (f159.k (f121.k (f83.k (f80.k (f79.k b_g2_289)))))))
   have b_g4_579 := f169.k (f168.k (f163.k (f159.k (f121.k (f83.k (f80.k (f79.k (f7.k b_g4))))))))
   have s4_580 := f169.q 4 (f168.q 4 (f163.q 4 (f159.q 4 (f121.q 4 (f83.q 4 (f80.q 4 (f79.q 4 (f7.q 4 s4_19))))))))
   have s5_581 := f169.q 5 (f168.q 5 (f163.q 5 (f159.q 5 (f121.q 5 (f83.q 5 (f80.q 5 (f79.q 5 s5_290)))))))
   have s7_582 := f169.q 7 (f168.q 7 (f163.q 7 (f159.q 7 (f121.q 7 (f83.q 7 (f80.q 7 (f79.q 7 (f7.q 7 u_g4))))))))
   refine go_reg [bx g1 60 (cR a b c d), bx g2 60 (cR p q r t), ⟨g4, 60, (cR allR.u.lo allR.u.hi allR.s.lo allR.s.hi), some 7, (cR allR.u.lo (onesI (Int.toNat (max b q))) allR.s.lo allR.s.hi)⟩] [] [some (pt g1 1), some (.int .u64 b), some (pt g2 1), some (.int .u64 q), some (.int .u64 (max b q)), some (.int .u64 (onesI (Int.toNat (max b q)))), some (pt g4 1), none] mo f169.d f169.z f169.b (by kernel_rfl) ⟨b_g1_577, b_g2_578, b_g4_579, trivial⟩ (
    hk (fun cx => cx.v (ex_fa rfl (cx.rq 4 s4_580) (faRU60_1_0 _ _)) rfl rfl) <|
    hk (fun cx => cx.v (ex_ld rfl (cx.u 0 rfl) (cx.rn 0 rfl) rfl Try.isAgg30) rfl rfl) <|
    hk (fun cx => cx.v (ex_fa rfl (cx.rq 5 s5_581) (faRU60_1_0 _ _)) rfl rfl) <|
    hk (fun cx => cx.v (ex_ld rfl (cx.u 0 rfl) (cx.rn 1 rfl) rfl Try.isAgg30) rfl rfl) <|
    hc (fun _ ax _ cx => cx.v (ex_max (x := .tmp 153) (y := .tmp 155) rfl (cx.u 0 rfl) (cx.u 1 rfl)) rfl rfl) <|
    hc (fun _ ax wx cx => cx.c rfl (args1 (cx.u 0 rfl)) Try.func90 (by decide +kernel) (rfilled_n (max b q) wx HR.out.1 HR.out.2) rfl rfl) <|
    hk (fun cx => cx.v (ex_fa rfl (cx.rq 7 s7_582) (faRU60_1_0 _ _)) rfl rfl) <|
    hk (fun cx => cx.stC (wn rfl) rfl rfl 2 rfl (cx.u 0 rfl) (cx.u 1 rfl) rfl rfl (by kernel_rfl) rfl rfl (Nat.le_trans f1.b.size q_g4) rfl ⟨(ne_row b_g1 q_g4), (ne_row b_g2 q_g4), trivial⟩ trivial) <|
    hn) ?_
   intro a170 w170 f170
   refine wp_seq ?_
   have b_g3_583 := f170.kp (f169.k (f168.k (f163.k (f159.k (f121.k (f83.k (f80.k (f79.k (f7.k (f2.k b_g3)))))))))) ⟨.inl rfl, .inl rfl, .inr (ne_row b_g3 q_g4), trivial⟩
   have s7_584 := f170.q 7 s7_582
   have s6_585 := f170.q 6 (f169.q 6 (f168.q 6 (f163.q 6 (f159.q 6 (f121.q 6 (f83.q 6 (f80.q 6 (f79.q 6 (f7.q 6 (f2.q 6 u_g3))))))))))
   refine go_reg [bx g4 60 (cR allR.u.lo (onesI (Int.toNat (max b q))) allR.s.lo allR.s.hi), ⟨g3, 60, (cR 0 0 0 0), some 2, (cR D.u.lo D.u.hi D.s.lo D.s.hi)⟩] [] [some (.agg (cR allR.u.lo (onesI (Int.toNat (max b q))) allR.s.lo allR.s.hi)), some (.agg (cR D.u.lo D.u.hi D.s.lo D.s.hi)), none] mo f170.d f170.z f170.b (by kernel_rfl) ⟨f170.rows.2.2.1, b_g3_583, trivial⟩ (
    hk (fun cx => cx.v (ldR rfl (cx.rq 7 s7_584) (cx.rn 0 rfl)) rfl rfl) <|
    hc (fun _ ax wx cx => cx.c rfl (args1 (cx.u 0 rfl)) Try.func87 (by decide +kernel) (nar_mov (op := op) (x := ⟨⟨a, b⟩, ⟨c, d⟩⟩) (y := ⟨⟨p, q⟩, ⟨r, t⟩⟩) (z := ⟨⟨allR.u.lo, onesI (Int.toNat (max b q))⟩, allR.s⟩) (by unfold doU doS; (try unfold restU); simp only [if_neg (nb Ffk24.out), if_neg (nb Ffk25.out), if_neg (nb Ffk33.out), if_neg (nb Ffk41.out), if_neg (nb Ffk42.out), if_pos (yb Ffk43.out)]; rw [HR2.out]; try rfl) ED.out HA.out HB.out Ffk1.out Ffk2.out wx) rfl rfl) <|
    hk (fun cx => cx.stR (wn rfl) rfl rfl 1 rfl (cx.rq 6 s6_585) (cx.u 0 rfl) (by kernel_rfl) rfl (by simp [Value.oneCell']) q_g3 rfl ⟨(ne_row b_g3 q_g4).symm, trivial⟩ trivial) <|
    hn) ?_
   intro a171 w171 f171
   refine wp_ret ?_
   have s6_586 := f171.q 6 s6_585
   try simp only [Exit.inBlock, Exit.then]
   refine bodyPost_ret (res_c (fn := Try.f40) rfl s6_586 (load_row 60 f171.rows.2.1 Try.underlying60 rfl (by kernel_rfl))) f171.d ?_
   exact ⟨rfl, f171.b⟩
  have Ffk43 := Lib.hid fk43; clear fk43
  have s33_587 := f168.q 33 s33_575
  refine go_reg [] [] [some (.bool false), some (.bool false)] mo f168.d f168.z f168.b (by kernel_rfl) trivial (
   hk (fun cx => cx.v (ex_eq (x := .tmp 33) rfl (cx.rq 33 s33_587) rfl) rfl (congrArg Value.bool Ffk43.out)) <|
   hk (fun cx => cx.v (ex_as rfl (cx.u 0 rfl)) rfl rfl) <|
   hn) ?_
  intro a172 w172 f172
  refine wp_cond_false (f172.v 1 rfl rfl rfl) ?_
  refine wp_seq ?_
  cases fk44 : op == 3
  case true =>
   have Ffk44 := Lib.hid fk44; clear fk44
   have s33_588 := f172.q 33 s33_587
   refine go_reg [] [] [some (.bool true), some (.bool true)] mo f172.d f172.z f172.b (by kernel_rfl) trivial (
    hk (fun cx => cx.v (ex_eq (x := .tmp 33) rfl (cx.rq 33 s33_588) rfl) rfl (congrArg Value.bool Ffk44.out)) <|
    hk (fun cx => cx.v (ex_as rfl (cx.u 0 rfl)) rfl rfl) <|
    hn) ?_
   intro a173 w173 f173
   refine wp_cond_true (f173.v 1 rfl rfl rfl) ?_
   refine wp_seq ?_
   have b_g1_589 := f173.k (f172.k (f168.k (f163.k (f159.k (f121.k (f83.k (f80.k (f79.k (f7.k b_g1_17)))))))))
   have b_g4_590 := f173.k (f172.k (f168.k (f163.k (f159.k (f121.k (f83.k (f80.k (f79.k (f7.k b_g4)))))))))
   have s4_591 := f173.q 4 (f172.q 4 (f168.q 4 (f163.q 4 (f159.q 4 (f121.q 4 (f83.q 4 (f80.q 4 (f79.q 4 (f7.q 4 s4_19)))))))))
   have s7_592 := f173.q 7 (f172.q 7 (f168.q 7 (f163.q 7 (f159.q 7 (f121.q 7 (f83.q 7 (f80.q 7 (f79.q 7 (f7.q 7 u_g4)))))))))
   refine go_reg [bx g1 60 (cR a b c d), ⟨g4, 60, (cR allR.u.lo allR.u.hi allR.s.lo allR.s.hi), some 3, (cR allR.u.lo b allR.s.lo allR.s.hi)⟩] [] [some (pt g1 1), some (.int .u64 b), some (pt g4 1), none] mo f173.d f173.z f173.b (by kernel_rfl) ⟨b_g1_589, b_g4_590, trivial⟩ (
    hk (fun cx => cx.v (ex_fa rfl (cx.rq 4 s4_591) (faRU60_1_0 _ _)) rfl rfl) <|
    hk (fun cx => cx.v (ex_ld rfl (cx.u 0 rfl) (cx.rn 0 rfl) rfl Try.isAgg30) rfl rfl) <|
    hk (fun cx => cx.v (ex_fa rfl (cx.rq 7 s7_592) (faRU60_1_0 _ _)) rfl rfl) <|
    hk (fun cx => cx.stC (wn rfl) rfl rfl 1 rfl (cx.u 0 rfl) (cx.u 1 rfl) rfl rfl (by kernel_rfl) rfl rfl (Nat.le_trans f1.b.size q_g4) rfl ⟨(ne_row b_g1 q_g4), trivial⟩ trivial) <|
    hn) ?_
   intro a174 w174 f174
   refine wp_seq ?_
   cases fk45 : decide (0 < p)
   case false =>
    have Ffk45 := Lib.hid fk45; clear fk45
    have b_g2_593 := f174.kp (f173.k (f172.k (f168.k (f163.k (f159.k (f121.k (f83.k (f80.k (f79.k b_g2_289))))))))) ⟨.inl rfl, .inr (ne_row b_g2 q_g4), trivial⟩
    have s5_594 := f174.q 5 (f173.q 5 (f172.q 5 (f168.q 5 (f163.q 5 (f159.q 5 (f121.q 5 (f83.q 5 (f80.q 5 (f79.q 5 s5_290)))))))))
    refine go_reg [bx g2 60 (cR p q r t)] [] [some (pt g2 0), some (.int .u64 p), some (.bool false)] mo f174.d f174.z f174.b (by kernel_rfl) ⟨b_g2_593, trivial⟩ (
     hk (fun cx => cx.v (ex_fa rfl (cx.rq 5 s5_594) (faRU60_0_0 _ _)) rfl rfl) <|
     hk (fun cx => cx.v (ex_ld rfl (cx.u 0 rfl) (cx.rn 0 rfl) rfl Try.isAgg30) rfl rfl) <|
     hk (fun cx => cx.v (ex_gt (x := .tmp 165) rfl (cx.u 0 rfl) rfl) rfl (congrArg Value.bool Ffk45.out)) <|
     hn) ?_
    intro a175 w175 f175
    refine wp_cond_false (f175.v 2 rfl rfl rfl) ?_
    refine wp_skip ?_
    refine wp_seq ?_
    have b_g4_595 := f175.k f174.rows.2.1
    have b_g3_596 := f175.k (f174.kp (f173.k (f172.k (f168.k (f163.k (f159.k (f121.k (f83.k (f80.k (f79.k (f7.k (f2.k b_g3))))))))))) ⟨.inl rfl, .inr (ne_row b_g3 q_g4), trivial⟩)
    have s7_597 := f175.q 7 (f174.q 7 s7_592)
    have s6_598 := f175.q 6 (f174.q 6 (f173.q 6 (f172.q 6 (f168.q 6 (f163.q 6 (f159.q 6 (f121.q 6 (f83.q 6 (f80.q 6 (f79.q 6 (f7.q 6 (f2.q 6 u_g3))))))))))))
    refine go_reg [bx g4 60 (cR allR.u.lo b allR.s.lo allR.s.hi), ⟨g3, 60, (cR 0 0 0 0), some 2, (cR D.u.lo D.u.hi D.s.lo D.s.hi)⟩] [] [some (.agg (cR allR.u.lo b allR.s.lo allR.s.hi)), some (.agg (cR D.u.lo D.u.hi D.s.lo D.s.hi)), none] mo f175.d f175.z f175.b (by kernel_rfl) ⟨b_g4_595, b_g3_596, trivial⟩ (
     hk (fun cx => cx.v (ldR rfl (cx.rq 7 s7_597) (cx.rn 0 rfl)) rfl rfl) <|
     hc (fun _ _ wx cx => cx.c rfl (args1 (cx.u 0 rfl)) Try.func87 (by decide +kernel) (nar_mov (op := op) (x := ⟨⟨a, b⟩, ⟨c, d⟩⟩) (y := ⟨⟨p, q⟩, ⟨r, t⟩⟩) (z := ⟨⟨allR.u.lo, b⟩, allR.s⟩) (by unfold doU doS; (try unfold restU); simp only [if_neg (nb Ffk24.out), if_neg (nb Ffk25.out), if_neg (nb Ffk33.out), if_neg (nb Ffk41.out), if_neg (nb Ffk42.out), if_neg (nb Ffk43.out), if_pos (yb Ffk44.out)]; rw [if_pos (show p = 0 from HP0.out Ffk45.out)]; try rfl) ED.out HA.out HB.out Ffk1.out Ffk2.out wx) rfl rfl) <|
     hk (fun cx => cx.stR (wn rfl) rfl rfl 1 rfl (cx.rq 6 s6_598) (cx.u 0 rfl) (by kernel_rfl) rfl (by simp [Value.oneCell']) q_g3 rfl ⟨(ne_row b_g3 q_g4).symm, trivial⟩ trivial) <|
     hn) ?_
    intro a176 w176 f176
    refine wp_ret ?_
    have s6_599 := f176.q 6 s6_598
    try simp only [Exit.inBlock, Exit.then]
    refine bodyPost_ret (res_c (fn := Try.f40) rfl s6_599 (load_row 60 f176.rows.2.1 Try.underlying60 rfl (by kernel_rfl))) f176.d ?_
    exact ⟨rfl, f176.b⟩
   have Ffk45 := Lib.hid fk45; clear fk45
   have b_g2_600 := f174.kp (f173.k (f172.k (f168.k (f163.k (f159.k (f121.k (f83.k (f80.k (f79.k b_g2_289))))))))) ⟨.inl rfl, .inr (ne_row b_g2 q_g4), trivial⟩
   have s5_601 := f174.q 5 (f173.q 5 (f172.q 5 (f168.q 5 (f163.q 5 (f159.q 5 (f121.q 5 (f83.q 5 (f80.q 5 (f79.q 5 s5_290)))))))))
   refine go_reg [bx g2 60 (cR p q r t)] [] [some (pt g2 0), some (.int .u64 p), some (.bool true)] mo f174.d f174.z f174.b (by kernel_rfl) ⟨b_g2_600, trivial⟩ (
    hk (fun cx => cx.v (ex_fa rfl (cx.rq 5 s5_601) (faRU60_0_0 _ _)) rfl rfl) <|
    hk (fun cx => cx.v (ex_ld rfl (cx.u 0 rfl) (cx.rn 0 rfl) rfl Try.isAgg30) rfl rfl) <|
    hk (fun cx => cx.v (ex_gt (x := .tmp 165) rfl (cx.u 0 rfl) rfl) rfl (congrArg Value.bool Ffk45.out)) <|
    hn) ?_
   intro a177 w177 f177
   refine wp_cond_true (f177.v 2 rfl rfl rfl) ?_
   refine wp_seq ?_
   have b_g1_602 := f177.k (f174.kp b_g1_589 ⟨.inl rfl, .inr (ne_row b_g1 q_g4), trivial⟩)
   have b_g2_603 := f177.k b_g2_600
   have b_g4_604 := f177.k f174.rows.2.1
   have s4_605 := f177.q 4 (f174.q 4 s4_591)
   have s5_606 := f177.q 5 s5_601
   have s7_607 := f177.q 7 (f174.q 7 s7_592)
   refine go_reg [bx g1 60 (cR a b c d), bx g2 60 (cR p q r t), ⟨g4, 60, (cR allR.u.lo b allR.s.lo allR.s.hi), some 6, (cR (a / q) b allR.s.lo allR.s.hi)⟩] [] [some (pt g1 0), some (.int .u64 a), some (pt g2 1), some (.int .u64 q), some (.int .u64 (a / q)), some (pt g4 0), none] mo f177.d f177.z f177.b (by kernel_rfl) ⟨b_g1_602, b_g2_603, b_g4_604, trivial⟩ (
    hk (fun cx => cx.v (ex_fa rfl (cx.rq 4 s4_605) (faRU60_0_0 _ _)) rfl rfl) <|
    hk (fun cx => cx.v (ex_ld rfl (cx.u 0 rfl) (cx.rn 0 rfl) rfl Try.isAgg30) rfl rfl) <|
    hk (fun cx => cx.v (ex_fa rfl (cx.rq 5 s5_606) (faRU60_1_0 _ _)) rfl rfl) <|
    hk (fun cx => cx.v (ex_ld rfl (cx.u 0 rfl) (cx.rn 1 rfl) rfl Try.isAgg30) rfl rfl) <|
    hk (fun cx => cx.v (exec_quo (x := .tmp 168) (y := .tmp 170) rfl (cx.u 0 rfl) (cx.u 1 rfl) HO.out.1.1.1 (HQ.out Ffk1.out Ffk2.out Ffk45.out).1 HO.out.1.1.2) rfl rfl) <|
    hk (fun cx => cx.v (ex_fa rfl (cx.rq 7 s7_607) (faRU60_0_0 _ _)) rfl rfl) <|
    hk (fun cx => cx.stC (wn rfl) rfl rfl 2 rfl (cx.u 0 rfl) (cx.u 1 rfl) rfl rfl (by kernel_rfl) rfl rfl (Nat.le_trans f1.b.size q_g4) rfl ⟨(ne_row b_g1 q_g4), (ne_row b_g2 q_g4), trivial⟩ trivial) <|
    hn) ?_
   intro a178 w178 f178
   have b_g1_608 := f178.kp b_g1_602 ⟨.inl rfl, .inl rfl, .inr (ne_row b_g1 q_g4), trivial⟩
   have b_g2_609 := f178.kp b_g2_603 ⟨.inl rfl, .inl rfl, .inr (ne_row b_g2 q_g4), trivial⟩
   have s4_610 := f178.q 4 s4_605
   have s5_611 := f178.q 5 s5_606
   have s7_612 := f178.q 7 s7_607
   refine go_reg [bx g1 60 (cR a b c d), bx g2 60 (cR p q r t), ⟨g4, 60, (cR (a / q) b allR.s.lo allR.s.hi), some 6, (cR (a / q) (b / p) allR.s.lo allR.s.hi)⟩] [] [some (pt g1 1), some (.int .u64 b), some (pt g2 0), some (.int .u64 p), some (.int .u64 (b / p)), some (pt g4 1), none] mo f178.d f178.z f178.b (by kernel_rfl) ⟨b_g1_608, b_g2_609, f178.rows.2.2.1, trivial⟩ (
    hk (fun cx => cx.v (ex_fa rfl (cx.rq 4 s4_610) (faRU60_1_0 _ _)) rfl rfl) <|
    hk (fun cx => cx.v (ex_ld rfl (cx.u 0 rfl) (cx.rn 0 rfl) rfl Try.isAgg30) rfl rfl) <|
    hk (fun cx => cx.v (ex_fa rfl (cx.rq 5 s5_611) (faRU60_0_0 _ _)) rfl rfl) <|
    hk (fun cx => cx.v (ex_ld rfl (cx.u 0 rfl) (cx.rn 1 rfl) rfl Try.isAgg30) rfl rfl) <|
    hk (fun cx => cx.v (exec_quo (x := .tmp 174) (y := .tmp 176) rfl (cx.u 0 rfl) (cx.u 1 rfl) HO.out.1.2.1 (HQ.out Ffk1.out Ffk2.out Ffk45.out).2 HO.out.1.2.2) rfl rfl) <|
    hk (fun cx => cx.v (ex_fa rfl (cx.rq 7 s7_612) (faRU60_1_0 _ _)) rfl rfl) <|
    hk (fun cx => cx.stC (wn rfl) rfl rfl 2 rfl (cx.u 0 rfl) (cx.u 1 rfl) rfl rfl (by kernel_rfl) rfl rfl (Nat.le_trans f1.b.size q_g4) rfl ⟨(ne_row b_g1 q_g4), (ne_row b_g2 q_g4), trivial⟩ trivial) <|
    hn) ?_
   intro a179 w179 f179
   refine wp_seq ?_
   have b_g3_613 := f179.kp (f178.kp (f177.k (f174.kp (f173.k (f172.k (f168.k (f163.k (f159.k (f121.k (f83.k (f80.k (f79.k (f7.k (f2.k b_g3))))))))))) ⟨.inl rfl, .inr (ne_row b_g3 q_g4), trivial⟩)) ⟨.inl rfl, .inl rfl, .inr (ne_row b_g3 q_g4), trivial⟩) ⟨.inl rfl, .inl rfl, .inr (ne_row b_g3 q_g4), trivial⟩
   have s7_614 := f179.q 7 s7_612
   have s6_615 := f179.q 6 (f178.q 6 (f177.q 6 (f174.q 6 (f173.q 6 (f172.q 6 (f168.q 6 (f163.q 6 (f159.q 6 (f121.q 6 (f83.q 6 (f80.q 6 (f79.q 6 (f7.q 6 (f2.q 6 u_g3))))))))))))))
   refine go_reg [bx g4 60 (cR (a / q) (b / p) allR.s.lo allR.s.hi), ⟨g3, 60, (cR 0 0 0 0), some 2, (cR D.u.lo D.u.hi D.s.lo D.s.hi)⟩] [] [some (.agg (cR (a / q) (b / p) allR.s.lo allR.s.hi)), some (.agg (cR D.u.lo D.u.hi D.s.lo D.s.hi)), none] mo f179.d f179.z f179.b (by kernel_rfl) ⟨f179.rows.2.2.1, b_g3_613, trivial⟩ (
    hk (fun cx => cx.v (ldR rfl (cx.rq 7 s7_614) (cx.rn 0 rfl)) rfl rfl) <|
    hc (fun _ _ wx cx => cx.c rfl (args1 (cx.u 0 rfl)) Try.func87 (by decide +kernel) (nar_mov (op := op) (x := ⟨⟨a, b⟩, ⟨c, d⟩⟩) (y := ⟨⟨p, q⟩, ⟨r, t⟩⟩) (z := ⟨⟨a / q, b / p⟩, allR.s⟩) (by unfold doU doS; (try unfold restU); simp only [if_neg (nb Ffk24.out), if_neg (nb Ffk25.out), if_neg (nb Ffk33.out), if_neg (nb Ffk41.out), if_neg (nb Ffk42.out), if_neg (nb Ffk43.out), if_pos (yb Ffk44.out)]; rw [if_neg (show ¬ p = 0 from HP1.out Ffk45.out)]; try rfl) ED.out HA.out HB.out Ffk1.out Ffk2.out wx) rfl rfl) <|
    hk (fun cx => cx.stR (wn rfl) rfl rfl 1 rfl (cx.rq 6 s6_615) (cx.u 0 rfl) (by kernel_rfl) rfl (by simp [Value.oneCell']) q_g3 rfl ⟨(ne_row b_g3 q_g4).symm, trivial⟩ trivial) <|
    hn) ?_
   intro a180 w180 f180
   refine wp_ret ?_
   have s6_616 := f180.q 6 s6_615
   try simp only [Exit.inBlock, Exit.then]
   refine bodyPost_ret (res_c (fn := Try.f40) rfl s6_616 (load_row 60 f180.rows.2.1 Try.underlying60 rfl (by kernel_rfl))) f180.d ?_
   exact ⟨rfl, f180.b⟩
  have Ffk44 := Lib.hid fk44; clear fk44
  have s33_617 := f172.q 33 s33_587
  refine go_reg [] [] [some (.bool false), some (.bool false)] mo f172.d f172.z f172.b (by kernel_rfl) trivial (
   hk (fun cx => cx.v (ex_eq (x := .tmp 33) rfl (cx.rq 33 s33_617) rfl) rfl (congrArg Value.bool Ffk44.out)) <|
   hk (fun cx => cx.v (ex_as rfl (cx.u 0 rfl)) rfl rfl) <|
   hn) ?_
  intro a181 w181 f181
  refine wp_cond_false (f181.v 1 rfl rfl rfl) ?_
  refine wp_seq ?_
  cases fk46 : op == 9
  case true =>
   have Ffk46 := Lib.hid fk46; clear fk46
   have s33_618 := f181.q 33 s33_617
   refine go_reg [] [] [some (.bool true), some (.bool true)] mo f181.d f181.z f181.b (by kernel_rfl) trivial (
    hk (fun cx => cx.v (ex_eq (x := .tmp 33) rfl (cx.rq 33 s33_618) rfl) rfl (congrArg Value.bool Ffk46.out)) <|
    hk (fun cx => cx.v (ex_as rfl (cx.u 0 rfl)) rfl rfl) <|
    hn) ?_
   intro a182 w182 f182
   refine wp_cond_true (f182.v 1 rfl rfl rfl) ?_
   refine wp_seq ?_
   have b_g1_619 := f182.k (f181.k (f172.k (f168.k (f163.k (f159.k (f121.k (f83.k (f80.k (f79.k (f7.k b_g1_17))))))))))
   have b_g4_620 := f182.k (f181.k (f172.k (f168.k (f163.k (f159.k (f121.k (f83.k (f80.k (f79.k (f7.k b_g4))))))))))
   have s4_621 := f182.q 4 (f181.q 4 (f172.q 4 (f168.q 4 (f163.q 4 (f159.q 4 (f121.q 4 (f83.q 4 (f80.q 4 (f79.q 4 (f7.q 4 s4_19))))))))))
   have s7_622 := f182.q 7 (f181.q 7 (f172.q 7 (f168.q 7 (f163.q 7 (f159.q 7 (f121.q 7 (f83.q 7 (f80.q 7 (f79.q 7 (f7.q 7 u_g4))))))))))
   refine go_reg [bx g1 60 (cR a b c d), ⟨g4, 60, (cR allR.u.lo allR.u.hi allR.s.lo allR.s.hi), some 3, (cR allR.u.lo b allR.s.lo allR.s.hi)⟩] [] [some (pt g1 1), some (.int .u64 b), some (pt g4 1), none] mo f182.d f182.z f182.b (by kernel_rfl) ⟨b_g1_619, b_g4_620, trivial⟩ (
    hk (fun cx => cx.v (ex_fa rfl (cx.rq 4 s4_621) (faRU60_1_0 _ _)) rfl rfl) <|
    hk (fun cx => cx.v (ex_ld rfl (cx.u 0 rfl) (cx.rn 0 rfl) rfl Try.isAgg30) rfl rfl) <|
    hk (fun cx => cx.v (ex_fa rfl (cx.rq 7 s7_622) (faRU60_1_0 _ _)) rfl rfl) <|
    hk (fun cx => cx.stC (wn rfl) rfl rfl 1 rfl (cx.u 0 rfl) (cx.u 1 rfl) rfl rfl (by kernel_rfl) rfl rfl (Nat.le_trans f1.b.size q_g4) rfl ⟨(ne_row b_g1 q_g4), trivial⟩ trivial) <|
    hn) ?_
   intro a183 w183 f183
   refine wp_seq ?_
   cases fk47 : decide (0 < p)
   case false =>
    have Ffk47 := Lib.hid fk47; clear fk47
    have b_g2_623 := f183.kp (f182.k (f181.k (f172.k (f168.k (f163.k (f159.k (f121.k (f83.k (f80.k (f79.k b_g2_289)))))))))) ⟨.inl rfl, .inr (ne_row b_g2 q_g4), trivial⟩
    have s5_624 := f183.q 5 (f182.q 5 (f181.q 5 (f172.q 5 (f168.q 5 (f163.q 5 (f159.q 5 (f121.q 5 (f83.q 5 (f80.q 5 (f79.q 5 s5_290))))))))))
    refine go_reg [bx g2 60 (cR p q r t)] [] [some (pt g2 0), some (.int .u64 p), some (.bool false)] mo f183.d f183.z f183.b (by kernel_rfl) ⟨b_g2_623, trivial⟩ (
     hk (fun cx => cx.v (ex_fa rfl (cx.rq 5 s5_624) (faRU60_0_0 _ _)) rfl rfl) <|
     hk (fun cx => cx.v (ex_ld rfl (cx.u 0 rfl) (cx.rn 0 rfl) rfl Try.isAgg30) rfl rfl) <|
     hk (fun cx => cx.v (ex_gt (x := .tmp 185) rfl (cx.u 0 rfl) rfl) rfl (congrArg Value.bool Ffk47.out)) <|
     hn) ?_
    intro a184 w184 f184
    refine wp_cond_false (f184.v 2 rfl rfl rfl) ?_
    refine wp_skip ?_
    refine wp_seq ?_
    have b_g4_625 := f184.k f183.rows.2.1
    have b_g3_626 := f184.k (f183.kp (f182.k (f181.k (f172.k (f168.k (f163.k (f159.k (f121.k (f83.k (f80.k (f79.k (f7.k (f2.k b_g3)))))))))))) ⟨.inl rfl, .inr (ne_row b_g3 q_g4), trivial⟩)
    have s7_627 := f184.q 7 (f183.q 7 s7_622)
    have s6_628 := f184.q 6 (f183.q 6 (f182.q 6 (f181.q 6 (f172.q 6 (f168.q 6 (f163.q 6 (f159.q 6 (f121.q 6 (f83.q 6 (f80.q 6 (f79.q 6 (f7.q 6 (f2.q 6 u_g3)))))))))))))
    refine go_reg [bx g4 60 (cR allR.u.lo b allR.s.lo allR.s.hi), ⟨g3, 60, (cR 0 0 0 0), some 2, (cR D.u.lo D.u.hi D.s.lo D.s.hi)⟩] [] [some (.agg (cR allR.u.lo b allR.s.lo allR.s.hi)), some (.agg (cR D.u.lo D.u.hi D.s.lo D.s.hi)), none] mo f184.d f184.z f184.b (by kernel_rfl) ⟨b_g4_625, b_g3_626, trivial⟩ (
     hk (fun cx => cx.v (ldR rfl (cx.rq 7 s7_627) (cx.rn 0 rfl)) rfl rfl) <|
     hc (fun _ _ wx cx => cx.c rfl (args1 (cx.u 0 rfl)) Try.func87 (by decide +kernel) (nar_mov (op := op) (x := ⟨⟨a, b⟩, ⟨c, d⟩⟩) (y := ⟨⟨p, q⟩, ⟨r, t⟩⟩) (z := ⟨⟨allR.u.lo, b⟩, allR.s⟩) (by unfold doU doS; (try unfold restU); simp only [if_neg (nb Ffk24.out), if_neg (nb Ffk25.out), if_neg (nb Ffk33.out), if_neg (nb Ffk41.out), if_neg (nb Ffk42.out), if_neg (nb Ffk43.out), if_neg (nb Ffk44.out), if_pos (yb Ffk46.out)]; rw [if_pos (show p = 0 from HP0.out Ffk47.out)]; try rfl) ED.out HA.out HB.out Ffk1.out Ffk2.out wx) rfl rfl) <|
     hk (fun cx => cx.stR (wn rfl) rfl rfl 1 rfl (cx.rq 6 s6_628) (cx.u 0 rfl) (by kernel_rfl) rfl (by simp [Value.oneCell']) q_g3 rfl ⟨(ne_row b_g3 q_g4).symm, trivial⟩ trivial) <|
     hn) ?_
    intro a185 w185 f185
    refine wp_ret ?_
    have s6_629 := f185.q 6 s6_628
    try simp only [Exit.inBlock, Exit.then]
    refine bodyPost_ret (res_c (fn := Try.f40) rfl s6_629 (load_row 60 f185.rows.2.1 Try.underlying60 rfl (by kernel_rfl))) f185.d ?_
    exact ⟨rfl, f185.b⟩
   have Ffk47 := Lib.hid fk47; clear fk47
   have b_g2_630 := f183.kp (f182.k (f181.k (f172.k (f168.k (f163.k (f159.k (f121.k (f83.k (f80.k (f79.k b_g2_289)))))))))) ⟨.inl rfl, .inr (ne_row b_g2 q_g4), trivial⟩
   have s5_631 := f183.q 5 (f182.q 5 (f181.q 5 (f172.q 5 (f168.q 5 (f163.q 5 (f159.q 5 (f121.q 5 (f83.q 5 (f80.q 5 (f79.q 5 s5_290))))))))))
   refine go_reg [bx g2 60 (cR p q r t)] [] [some (pt g2 0), some (.int .u64 p), some (.bool true)] mo f183.d f183.z f183.b (by kernel_rfl) ⟨b_g2_630, trivial⟩ (
    hk (fun cx => cx.v (ex_fa rfl (cx.rq 5 s5_631) (faRU60_0_0 _ _)) rfl rfl) <|
    hk (fun cx => cx.v (ex_ld rfl (cx.u 0 rfl) (cx.rn 0 rfl) rfl Try.isAgg30) rfl rfl) <|
    hk (fun cx => cx.v (ex_gt (x := .tmp 185) rfl (cx.u 0 rfl) rfl) rfl (congrArg Value.bool Ffk47.out)) <|
    hn) ?_
   intro a186 w186 f186
   refine wp_cond_true (f186.v 2 rfl rfl rfl) ?_
   have b_g1_632 := f186.k (f183.kp b_g1_619 ⟨.inl rfl, .inr (ne_row b_g1 q_g4), trivial⟩)
   have b_g2_633 := f186.k b_g2_630
   have b_g4_634 := f186.k f183.rows.2.1
   have s4_635 := f186.q 4 (f183.q 4 s4_621)
   have s5_636 := f186.q 5 s5_631
   have s7_637 := f186.q 7 (f183.q 7 s7_622)
   refine go_reg [bx g1 60 (cR a b c d), bx g2 60 (cR p q r t), ⟨g4, 60, (cR allR.u.lo b allR.s.lo allR.s.hi), some 7, (cR allR.u.lo (min b (IntKind.u64.wrap (q - 1))) allR.s.lo allR.s.hi)⟩] [] [some (pt g1 1), some (.int .u64 b), some (pt g2 1), some (.int .u64 q), some (.int .u64 (IntKind.u64.wrap (q - 1))), some (.int .u64 (min b (IntKind.u64.wrap (q - 1)))), some (pt g4 1), none] mo f186.d f186.z f186.b (by kernel_rfl) ⟨b_g1_632, b_g2_633, b_g4_634, trivial⟩ (
    hk (fun cx => cx.v (ex_fa rfl (cx.rq 4 s4_635) (faRU60_1_0 _ _)) rfl rfl) <|
    hk (fun cx => cx.v (ex_ld rfl (cx.u 0 rfl) (cx.rn 0 rfl) rfl Try.isAgg30) rfl rfl) <|
    hk (fun cx => cx.v (ex_fa rfl (cx.rq 5 s5_636) (faRU60_1_0 _ _)) rfl rfl) <|
    hk (fun cx => cx.v (ex_ld rfl (cx.u 0 rfl) (cx.rn 1 rfl) rfl Try.isAgg30) rfl rfl) <|
    hk (fun cx => cx.v (ex_sub (x := .tmp 190) rfl (cx.u 0 rfl) rfl) rfl rfl) <|
    hk (fun cx => cx.v (ex_min (x := .tmp 188) (y := .tmp 191) rfl (cx.u 0 rfl) (cx.u 1 rfl)) rfl rfl) <|
    hk (fun cx => cx.v (ex_fa rfl (cx.rq 7 s7_637) (faRU60_1_0 _ _)) rfl rfl) <|
    hk (fun cx => cx.stC (wn rfl) rfl rfl 2 rfl (cx.u 0 rfl) (cx.u 1 rfl) rfl rfl (by kernel_rfl) rfl rfl (Nat.le_trans f1.b.size q_g4) rfl ⟨(ne_row b_g1 q_g4), (ne_row b_g2 q_g4), trivial⟩ trivial) <|
    hn) ?_
   intro a187 w187 f187
   refine wp_seq ?_
   have b_g3_638 := f187.kp (f186.k (f183.kp (f182.k (f181.k (f172.k (f168.k (f163.k (f159.k (f121.k (f83.k (f80.k (f79.k (f7.k (f2.k b_g3)))))))))))) ⟨.inl rfl, .inr (ne_row b_g3 q_g4), trivial⟩)) ⟨.inl rfl, .inl rfl, .inr (ne_row b_g3 q_g4), trivial⟩
   have s7_639 := f187.q 7 s7_637
   have s6_640 := f187.q 6 (f186.q 6 (f183.q 6 (f182.q 6 (f181.q 6 (f172.q 6 (f168.q 6 (f163.q 6 (f159.q 6 (f121.q 6 (f83.q 6 (f80.q 6 (f79.q 6 (f7.q 6 (f2.q 6 u_g3))))))))))))))
   refine go_reg [bx g4 60 (cR allR.u.lo (min b (IntKind.u64.wrap (q - 1))) allR.s.lo allR.s.hi), ⟨g3, 60, (cR 0 0 0 0), some 2, (cR D.u.lo D.u.hi D.s.lo D.s.hi)⟩] [] [some (.agg (cR allR.u.lo (min b (IntKind.u64.wrap (q - 1))) allR.s.lo allR.s.hi)), some (.agg (cR D.u.lo D.u.hi D.s.lo D.s.hi)), none] mo f187.d f187.z f187.b (by kernel_rfl) ⟨f187.rows.2.2.1, b_g3_638, trivial⟩ (
    hk (fun cx => cx.v (ldR rfl (cx.rq 7 s7_639) (cx.rn 0 rfl)) rfl rfl) <|
    hc (fun _ _ wx cx => cx.c rfl (args1 (cx.u 0 rfl)) Try.func87 (by decide +kernel) (nar_mov (op := op) (x := ⟨⟨a, b⟩, ⟨c, d⟩⟩) (y := ⟨⟨p, q⟩, ⟨r, t⟩⟩) (z := ⟨⟨allR.u.lo, min b (IntKind.u64.wrap (q - 1))⟩, allR.s⟩) (by unfold doU doS; (try unfold restU); simp only [if_neg (nb Ffk24.out), if_neg (nb Ffk25.out), if_neg (nb Ffk33.out), if_neg (nb Ffk41.out), if_neg (nb Ffk42.out), if_neg (nb Ffk43.out), if_neg (nb Ffk44.out), if_pos (yb Ffk46.out)]; rw [if_neg (show ¬ p = 0 from HP1.out Ffk47.out)]; rw [← HM.out Ffk1.out Ffk2.out Ffk47.out]; try rfl) ED.out HA.out HB.out Ffk1.out Ffk2.out wx) rfl rfl) <|
    hk (fun cx => cx.stR (wn rfl) rfl rfl 1 rfl (cx.rq 6 s6_640) (cx.u 0 rfl) (by kernel_rfl) rfl (by simp [Value.oneCell']) q_g3 rfl ⟨(ne_row b_g3 q_g4).symm, trivial⟩ trivial) <|
    hn) ?_
   intro a188 w188 f188
   refine wp_ret ?_
   have s6_641 := f188.q 6 s6_640
   try simp only [Exit.inBlock, Exit.then]
   refine bodyPost_ret (res_c (fn := Try.f40) rfl s6_641 (load_row 60 f188.rows.2.1 Try.underlying60 rfl (by kernel_rfl))) f188.d ?_
   exact ⟨rfl, f188.b⟩
  have Ffk46 := Lib.hid fk46; clear fk46
  have s33_642 := f181.q 33 s33_617
  refine go_reg [] [] [some (.bool false), some (.bool false)] mo f181.d f181.z f181.b (by kernel_rfl) trivial (
   hk (fun cx => cx.v (ex_eq (x := .tmp 33) rfl (cx.rq 33 s33_642) rfl) rfl (congrArg Value.bool Ffk46.out)) <|
   hk (fun cx => cx.v (ex_as rfl (cx.u 0 rfl)) rfl rfl) <|
   hn) ?_
  intro a189 w189 f189
  refine wp_cond_false (f189.v 1 rfl rfl rfl) ?_
  refine wp_seq ?_
  cases fk48 : op == 7
  case true =>
   have Ffk48 := Lib.hid fk48; clear fk48
   have s33_643 := f189.q 33 s33_642
   refine go_reg [] [] [some (.bool true), some (.bool true)] mo f189.d f189.z f189.b (by kernel_rfl) trivial (
    hk (fun cx => cx.v (ex_eq (x := .tmp 33) rfl (cx.rq 33 s33_643) rfl) rfl (congrArg Value.bool Ffk48.out)) <|
    hk (fun cx => cx.v (ex_as rfl (cx.u 0 rfl)) rfl rfl) <|
    hn) ?_
   intro a190 w190 f190
   refine wp_cond_true (f190.v 1 rfl rfl rfl) ?_
   refine wp_seq ?_
   have s9_644 := f190.q 9 (f189.q 9 (f181.q 9 (f172.q 9 (f168.q 9 (f163.q 9 (f159.q 9 (f121.q 9 (f83.q 9 (f80.q 9 (f79.v 6 rfl rfl rfl))))))))))
   refine go_reg [] [] [some (.bool true)] mo f190.d f190.z f190.b (by kernel_rfl) trivial (
    hk (fun cx => cx.v (ex_mv rfl (cx.rq 9 s9_644)) rfl rfl) <|
    hn) ?_
   intro a191 w191 f191
   refine wp_cond_true (f191.v 0 rfl rfl rfl) ?_
   refine wp_seq ?_
   have b_g1_645 := f191.k (f190.k (f189.k (f181.k (f172.k (f168.k (f163.k (f159.k (f121.k (f83.k (f80.k (f79.k (f7.k b_g1_17))))))))))))
   have b_g4_646 := f191.k (f190.k (f189.k (f181.k (f172.k (f168.k (f163.k (f159.k (f121.k (f83.k (f80.k (f79.k (f7.k b_g4))))))))))))
   have s4_647 := f191.q 4 (f190.q 4 (f189.q 4 (f181.q 4 (f172.q 4 (f168.q 4 (f163.q 4 (f159.q 4 (f121.q 4 (f83.q 4 (f80.q 4 (f79.q 4 (f7.q 4 s4_19))))))))))))
   have s8_648 := f191.q 8 (f190.q 8 (f189.q 8 (f181.q 8 (f172.q 8 (f168.q 8 (f163.q 8 (f159.q 8 (f121.q 8 (f83.q 8 (f80.q 8 (f79.v 5 rfl rfl rfl)))))))))))
   have s7_649 := f191.q 7 (f190.q 7 (f189.q 7 (f181.q 7 (f172.q 7 (f168.q 7 (f163.q 7 (f159.q 7 (f121.q 7 (f83.q 7 (f80.q 7 (f79.q 7 (f7.q 7 u_g4))))))))))))
   refine go_reg [bx g1 60 (cR a b c d), ⟨g4, 60, (cR allR.u.lo allR.u.hi allR.s.lo allR.s.hi), some 6, (cR (a / 2 ^ Int.toNat ((Rg.oneV ⟨⟨p, q⟩, ⟨r, t⟩⟩) % 64)) allR.u.hi allR.s.lo allR.s.hi)⟩] [] [some (pt g1 0), some (.int .u64 a), some (.int .u64 (Rg.oneV ⟨⟨p, q⟩, ⟨r, t⟩⟩)), some (.int .u64 ((Rg.oneV ⟨⟨p, q⟩, ⟨r, t⟩⟩) % 64)), some (.int .u64 (a / 2 ^ Int.toNat ((Rg.oneV ⟨⟨p, q⟩, ⟨r, t⟩⟩) % 64))), some (pt g4 0), none] mo f191.d f191.z f191.b (by kernel_rfl) ⟨b_g1_645, b_g4_646, trivial⟩ (
    hk (fun cx => cx.v (ex_fa rfl (cx.rq 4 s4_647) (faRU60_0_0 _ _)) rfl rfl) <|
    hk (fun cx => cx.v (ex_ld rfl (cx.u 0 rfl) (cx.rn 0 rfl) rfl Try.isAgg30) rfl rfl) <|
    hk (fun cx => cx.v (ex_mv rfl (cx.rq 8 s8_648)) rfl rfl) <|
    hk (fun cx => cx.v (exec_rem (x := .tmp 199) rfl (cx.u 0 rfl) rfl HV.out (by decide)) rfl rfl) <|
    hk (fun cx => cx.v (exec_shr (x := .tmp 198) (y := .tmp 200) rfl (cx.u 0 rfl) (cx.u 1 rfl) HN.out.1 HN.out.2) rfl rfl) <|
    hk (fun cx => cx.v (ex_fa rfl (cx.rq 7 s7_649) (faRU60_0_0 _ _)) rfl rfl) <|
    hk (fun cx => cx.stC (wn rfl) rfl rfl 1 rfl (cx.u 0 rfl) (cx.u 1 rfl) rfl rfl (by kernel_rfl) rfl rfl (Nat.le_trans f1.b.size q_g4) rfl ⟨(ne_row b_g1 q_g4), trivial⟩ trivial) <|
    hn) ?_
   intro a192 w192 f192
   have b_g1_650 := f192.kp b_g1_645 ⟨.inl rfl, .inr (ne_row b_g1 q_g4), trivial⟩
   have s4_651 := f192.q 4 s4_647
   have s8_652 := f192.q 8 s8_648
   have s7_653 := f192.q 7 s7_649
   refine go_reg [bx g1 60 (cR a b c d), ⟨g4, 60, (cR (a / 2 ^ Int.toNat ((Rg.oneV ⟨⟨p, q⟩, ⟨r, t⟩⟩) % 64)) allR.u.hi allR.s.lo allR.s.hi), some 6, (cR (a / 2 ^ Int.toNat ((Rg.oneV ⟨⟨p, q⟩, ⟨r, t⟩⟩) % 64)) (b / 2 ^ Int.toNat ((Rg.oneV ⟨⟨p, q⟩, ⟨r, t⟩⟩) % 64)) allR.s.lo allR.s.hi)⟩] [] [some (pt g1 1), some (.int .u64 b), some (.int .u64 (Rg.oneV ⟨⟨p, q⟩, ⟨r, t⟩⟩)), some (.int .u64 ((Rg.oneV ⟨⟨p, q⟩, ⟨r, t⟩⟩) % 64)), some (.int .u64 (b / 2 ^ Int.toNat ((Rg.oneV ⟨⟨p, q⟩, ⟨r, t⟩⟩) % 64))), some (pt g4 1), none] mo f192.d f192.z f192.b (by kernel_rfl) ⟨b_g1_650, f192.rows.2.1, trivial⟩ (
    hk (fun cx => cx.v (ex_fa rfl (cx.rq 4 s4_651) (faRU60_1_0 _ _)) rfl rfl) <|
    hk (fun cx => cx.v (ex_ld rfl (cx.u 0 rfl) (cx.rn 0 rfl) rfl Try.isAgg30) rfl rfl) <|
    hk (fun cx => cx.v (ex_mv rfl (cx.rq 8 s8_652)) rfl rfl) <|
    hk (fun cx => cx.v (exec_rem (x := .tmp 205) rfl (cx.u 0 rfl) rfl HV.out (by decide)) rfl rfl) <|
    hk (fun cx => cx.v (exec_shr (x := .tmp 204) (y := .tmp 206) rfl (cx.u 0 rfl) (cx.u 1 rfl) HN.out.1 HN.out.2) rfl rfl) <|
    hk (fun cx => cx.v (ex_fa rfl (cx.rq 7 s7_653) (faRU60_1_0 _ _)) rfl rfl) <|
    hk (fun cx => cx.stC (wn rfl) rfl rfl 1 rfl (cx.u 0 rfl) (cx.u 1 rfl) rfl rfl (by kernel_rfl) rfl rfl (Nat.le_trans f1.b.size q_g4) rfl ⟨(ne_row b_g1 q_g4), trivial⟩ trivial) <|
    hn) ?_
   intro a193 w193 f193
   refine wp_seq ?_
   have b_g3_654 := f193.kp (f192.kp (f191.k (f190.k (f189.k (f181.k (f172.k (f168.k (f163.k (f159.k (f121.k (f83.k (f80.k (f79.k (f7.k (f2.k b_g3)))))))))))))) ⟨.inl rfl, .inr (ne_row b_g3 q_g4), trivial⟩) ⟨.inl rfl, .inr (ne_row b_g3 q_g4), trivial⟩
   have s7_655 := f193.q 7 s7_653
   have s6_656 := f193.q 6 (f192.q 6 (f191.q 6 (f190.q 6 (f189.q 6 (f181.q 6 (f172.q 6 (f168.q 6 (f163.q 6 (f159.q 6 (f121.q 6 (f83.q 6 (f80.q 6 (f79.q 6 (f7.q 6 (f2.q 6 u_g3)))))))))))))))
   refine go_reg [bx g4 60 (cR (a / 2 ^ Int.toNat ((Rg.oneV ⟨⟨p, q⟩, ⟨r, t⟩⟩) % 64)) (b / 2 ^ Int.toNat ((Rg.oneV ⟨⟨p, q⟩, ⟨r, t⟩⟩) % 64)) allR.s.lo allR.s.hi), ⟨g3, 60, (cR 0 0 0 0), some 2, (cR D.u.lo D.u.hi D.s.lo D.s.hi)⟩] [] [some (.agg (cR (a / 2 ^ Int.toNat ((Rg.oneV ⟨⟨p, q⟩, ⟨r, t⟩⟩) % 64)) (b / 2 ^ Int.toNat ((Rg.oneV ⟨⟨p, q⟩, ⟨r, t⟩⟩) % 64)) allR.s.lo allR.s.hi)), some (.agg (cR D.u.lo D.u.hi D.s.lo D.s.hi)), none] mo f193.d f193.z f193.b (by kernel_rfl) ⟨f193.rows.2.1, b_g3_654, trivial⟩ (
    hk (fun cx => cx.v (ldR rfl (cx.rq 7 s7_655) (cx.rn 0 rfl)) rfl rfl) <|
    hc (fun _ _ wx cx => cx.c rfl (args1 (cx.u 0 rfl)) Try.func87 (by decide +kernel) (nar_mov (op := op) (x := ⟨⟨a, b⟩, ⟨c, d⟩⟩) (y := ⟨⟨p, q⟩, ⟨r, t⟩⟩) (z := ⟨⟨a / 2 ^ Int.toNat ((Rg.oneV ⟨⟨p, q⟩, ⟨r, t⟩⟩) % 64), b / 2 ^ Int.toNat ((Rg.oneV ⟨⟨p, q⟩, ⟨r, t⟩⟩) % 64)⟩, allR.s⟩) (by unfold doU doS; (try unfold restU); simp only [if_neg (nb Ffk24.out), if_neg (nb Ffk25.out), if_neg (nb Ffk33.out), if_neg (nb Ffk41.out), if_neg (nb Ffk42.out), if_neg (nb Ffk43.out), if_neg (nb Ffk44.out), if_neg (nb Ffk46.out), if_pos (yb Ffk48.out)]; rw [if_pos (show Rg.oneB ⟨⟨p, q⟩, ⟨r, t⟩⟩ = true from Ffk3.out)]; try rfl) ED.out HA.out HB.out Ffk1.out Ffk2.out wx) rfl rfl) <|
    hk (fun cx => cx.stR (wn rfl) rfl rfl 1 rfl (cx.rq 6 s6_656) (cx.u 0 rfl) (by kernel_rfl) rfl (by simp [Value.oneCell']) q_g3 rfl ⟨(ne_row b_g3 q_g4).symm, trivial⟩ trivial) <|
    hn) ?_
   intro a194 w194 f194
   refine wp_ret ?_
   have s6_657 := f194.q 6 s6_656
   try simp only [Exit.inBlock, Exit.then]
   refine bodyPost_ret (res_c (fn := Try.f40) rfl s6_657 (load_row 60 f194.rows.2.1 Try.underlying60 rfl (by kernel_rfl))) f194.d ?_
   exact ⟨rfl, f194.b⟩
  have Ffk48 := Lib.hid fk48; clear fk48
  have s33_658 := f189.q 33 s33_642
  refine go_reg [] [] [some (.bool false), some (.bool false)] mo f189.d f189.z f189.b (by kernel_rfl) trivial (
   hk (fun cx => cx.v (ex_eq (x := .tmp 33) rfl (cx.rq 33 s33_658) rfl) rfl (congrArg Value.bool Ffk48.out)) <|
   hk (fun cx => cx.v (ex_as rfl (cx.u 0 rfl)) rfl rfl) <|
   hn) ?_
  intro a195 w195 f195
  refine wp_cond_false (f195.v 1 rfl rfl rfl) ?_
  refine wp_seq ?_
  cases fk49 : op == 6
  case true =>
   have Ffk49 := Lib.hid fk49; clear fk49
   have s33_659 := f195.q 33 s33_658
   refine go_reg [] [] [some (.bool true), some (.bool true)] mo f195.d f195.z f195.b (by kernel_rfl) trivial (
    hk (fun cx => cx.v (ex_eq (x := .tmp 33) rfl (cx.rq 33 s33_659) rfl) rfl (congrArg Value.bool Ffk49.out)) <|
    hk (fun cx => cx.v (ex_as rfl (cx.u 0 rfl)) rfl rfl) <|
    hn) ?_
   intro a196 w196 f196
   refine wp_cond_true (f196.v 1 rfl rfl rfl) ?_
   refine wp_seq ?_
   cases fk50 : (((b * 2 ^ Int.toNat ((Rg.oneV ⟨⟨p, q⟩, ⟨r, t⟩⟩) % 64)) % 18446744073709551616) / 2 ^ Int.toNat ((Rg.oneV ⟨⟨p, q⟩, ⟨r, t⟩⟩) % 64)) == b
   case false =>
    have Ffk50 := Lib.hid fk50; clear fk50
    have b_g1_660 := f196.k (f195.k (f189.k (f181.k (f172.k (f168.k (f163.k (f159.k (f121.k (f83.k (f80.k (f79.k (f7.k b_g1_17))))))))))))
    have s9_661 := f196.q 9 (f195.q 9 (f189.q 9 (f181.q 9 (f172.q 9 (f168.q 9 (f163.q 9 (f159.q 9 (f121.q 9 (f83.q 9 (f80.q 9 (f79.v 6 rfl rfl rfl)))))))))))
    have s4_662 := f196.q 4 (f195.q 4 (f189.q 4 (f181.q 4 (f172.q 4 (f168.q 4 (f163.q 4 (f159.q 4 (f121.q 4 (f83.q 4 (f80.q 4 (f79.q 4 (f7.q 4 s4_19))))))))))))
    have s8_663 := f196.q 8 (f195.q 8 (f189.q 8 (f181.q 8 (f172.q 8 (f168.q 8 (f163.q 8 (f159.q 8 (f121.q 8 (f83.q 8 (f80.q 8 (f79.v 5 rfl rfl rfl)))))))))))
    refine go_reg [bx g1 60 (cR a b c d)] [] [some (.bool true), some (.bool true), some (pt g1 1), some (.int .u64 b), some (.int .u64 (Rg.oneV ⟨⟨p, q⟩, ⟨r, t⟩⟩)), some (.int .u64 ((Rg.oneV ⟨⟨p, q⟩, ⟨r, t⟩⟩) % 64)), some (.int .u64 ((b * 2 ^ Int.toNat ((Rg.oneV ⟨⟨p, q⟩, ⟨r, t⟩⟩) % 64)) % 18446744073709551616)), some (.int .u64 (Rg.oneV ⟨⟨p, q⟩, ⟨r, t⟩⟩)), some (.int .u64 ((Rg.oneV ⟨⟨p, q⟩, ⟨r, t⟩⟩) % 64)), some (.int .u64 (((b * 2 ^ Int.toNat ((Rg.oneV ⟨⟨p, q⟩, ⟨r, t⟩⟩) % 64)) % 18446744073709551616) / 2 ^ Int.toNat ((Rg.oneV ⟨⟨p, q⟩, ⟨r, t⟩⟩) % 64))), some (pt g1 1), some (.int .u64 b), some (.bool false), some (.bool false)] mo f196.d f196.z f196.b (by kernel_rfl) ⟨b_g1_660, trivial⟩ (
     hk (fun cx => cx.v (ex_mv rfl (cx.rq 9 s9_661)) rfl rfl) <|
     hk (fun cx => cx.v (ex_mv rfl (cx.u 0 rfl)) rfl rfl) <|
     hk (fun cx => cx.val (cx.wy rfl rfl rfl rfl (cx.u 0 rfl)) (ex_fa rfl (cx.rq 4 s4_662) (faRU60_1_0 _ _)) rfl rfl rfl rfl) <|
     hk (fun cx => cx.val (cx.wy rfl rfl rfl rfl (cx.u 1 rfl)) (ex_ld rfl (cx.u 0 rfl) (cx.rn 0 rfl) rfl Try.isAgg30) rfl rfl rfl rfl) <|
     hk (fun cx => cx.val (cx.wy rfl rfl rfl rfl (cx.u 0 rfl)) (ex_mv rfl (cx.rq 8 s8_663)) rfl rfl rfl rfl) <|
     hk (fun cx => cx.val (cx.wy rfl rfl rfl rfl (cx.u 1 rfl)) (exec_rem (x := .tmp 215) rfl (cx.u 0 rfl) rfl HV.out (by decide)) rfl rfl rfl rfl) <|
     hk (fun cx => cx.val (cx.wy rfl rfl rfl rfl (cx.u 2 rfl)) (exec_shl (x := .tmp 214) (y := .tmp 216) rfl (cx.u 0 rfl) (cx.u 1 rfl) HN.out.1 HN.out.2) rfl rfl rfl rfl) <|
     hk (fun cx => cx.val (cx.wy rfl rfl rfl rfl (cx.u 0 rfl)) (ex_mv rfl (cx.rq 8 s8_663)) rfl rfl rfl rfl) <|
     hk (fun cx => cx.val (cx.wy rfl rfl rfl rfl (cx.u 1 rfl)) (exec_rem (x := .tmp 218) rfl (cx.u 0 rfl) rfl HV.out (by decide)) rfl rfl rfl rfl) <|
     hk (fun cx => cx.val (cx.wy rfl rfl rfl rfl (cx.u 2 rfl)) (exec_shr (x := .tmp 217) (y := .tmp 219) rfl (cx.u 0 rfl) (cx.u 1 rfl) HN.out.1 HN.out.2) rfl rfl rfl rfl) <|
     hk (fun cx => cx.val (cx.wy rfl rfl rfl rfl (cx.u 0 rfl)) (ex_fa rfl (cx.rq 4 s4_662) (faRU60_1_0 _ _)) rfl rfl rfl rfl) <|
     hk (fun cx => cx.val (cx.wy rfl rfl rfl rfl (cx.u 1 rfl)) (ex_ld rfl (cx.u 0 rfl) (cx.rn 0 rfl) rfl Try.isAgg30) rfl rfl rfl rfl) <|
     hk (fun cx => cx.val (cx.wy rfl rfl rfl rfl (cx.u 2 rfl)) (ex_eq (x := .tmp 220) (y := .tmp 222) rfl (cx.u 0 rfl) (cx.u 1 rfl)) rfl rfl (congrArg Value.bool Ffk50.out) rfl) <|
     hk (fun cx => cx.v (ex_pt rfl (cx.u 0 rfl) (cx.u 1 rfl)) rfl rfl) <|
     hn) ?_
    intro a197 w197 f197
    refine wp_cond_false (f197.v 13 rfl rfl rfl) ?_
    refine wp_skip ?_
    refine wp_seq ?_
    have b_g4_664 := f197.k (f196.k (f195.k (f189.k (f181.k (f172.k (f168.k (f163.k (f159.k (f121.k (f83.k (f80.k (f79.k (f7.k b_g4)))))))))))))
    have b_g3_665 := f197.k (f196.k (f195.k (f189.k (f181.k (f172.k (f168.k (f163.k (f159.k (f121.k (f83.k (f80.k (f79.k (f7.k (f2.k b_g3))))))))))))))
    have s7_666 := f197.q 7 (f196.q 7 (f195.q 7 (f189.q 7 (f181.q 7 (f172.q 7 (f168.q 7 (f163.q 7 (f159.q 7 (f121.q 7 (f83.q 7 (f80.q 7 (f79.q 7 (f7.q 7 u_g4)))))))))))))
    have s6_667 := f197.q 6 (f196.q 6 (f195.q 6 (f189.q 6 (f181.q 6 (f172.q 6 (f168.q 6 (f163.q 6 (f159.q 6 (f121.q 6 (f83.q 6 (f80.q 6 (f79.q 6 (f7.q 6 (f2.q 6 u_g3))))))))))))))
    refine go_reg [bx g4 60 (cR allR.u.lo allR.u.hi allR.s.lo allR.s.hi), ⟨g3, 60, (cR 0 0 0 0), some 2, (cR D.u.lo D.u.hi D.s.lo D.s.hi)⟩] [] [some (.agg (cR allR.u.lo allR.u.hi allR.s.lo allR.s.hi)), some (.agg (cR D.u.lo D.u.hi D.s.lo D.s.hi)), none] mo f197.d f197.z f197.b (by kernel_rfl) ⟨b_g4_664, b_g3_665, trivial⟩ (
     hk (fun cx => cx.v (ldR rfl (cx.rq 7 s7_666) (cx.rn 0 rfl)) rfl rfl) <|
     hc (fun _ _ wx cx => cx.c rfl (args1 (cx.u 0 rfl)) Try.func87 (by decide +kernel) (nar_mov (op := op) (x := ⟨⟨a, b⟩, ⟨c, d⟩⟩) (y := ⟨⟨p, q⟩, ⟨r, t⟩⟩) (z := allR) (by unfold doU doS; (try unfold restU); simp only [if_neg (nb Ffk24.out), if_neg (nb Ffk25.out), if_neg (nb Ffk33.out), if_neg (nb Ffk41.out), if_neg (nb Ffk42.out), if_neg (nb Ffk43.out), if_neg (nb Ffk44.out), if_neg (nb Ffk46.out), if_neg (nb Ffk48.out), if_pos (yb Ffk49.out)]; rw [if_neg (by rw [Ffk3.out, ← HF.out, Ffk50.out]; decide)]; try rfl) ED.out HA.out HB.out Ffk1.out Ffk2.out wx) rfl rfl) <|
     hk (fun cx => cx.stR (wn rfl) rfl rfl 1 rfl (cx.rq 6 s6_667) (cx.u 0 rfl) (by kernel_rfl) rfl (by simp [Value.oneCell']) q_g3 rfl ⟨(ne_row b_g3 q_g4).symm, trivial⟩ trivial) <|
     hn) ?_
    intro a198 w198 f198
    refine wp_ret ?_
    have s6_668 := f198.q 6 s6_667
    try simp only [Exit.inBlock, Exit.then]
    refine bodyPost_ret (res_c (fn := Try.f40) rfl s6_668 (load_row 60 f198.rows.2.1 Try.underlying60 rfl (by kernel_rfl))) f198.d ?_
    exact ⟨rfl, f198.b⟩
   have Ffk50 := Lib.hid fk50; clear fk50
   have b_g1_669 := f196.k (f195.k (f189.k (f181.k (f172.k (f168.k (f163.k (f159.k (f121.k (f83.k (f80.k (f79.k (f7.k b_g1_17))))))))))))
   have s9_670 := f196.q 9 (f195.q 9 (f189.q 9 (f181.q 9 (f172.q 9 (f168.q 9 (f163.q 9 (f159.q 9 (f121.q 9 (f83.q 9 (f80.q 9 (f79.v 6 rfl rfl rfl)))))))))))
   have s4_671 := f196.q 4 (f195.q 4 (f189.q 4 (f181.q 4 (f172.q 4 (f168.q 4 (f163.q 4 (f159.q 4 (f121.q 4 (f83.q 4 (f80.q 4 (f79.q 4 (f7.q 4 s4_19))))))))))))
   have s8_672 := f196.q 8 (f195.q 8 (f189.q 8 (f181.q 8 (f172.q 8 (f168.q 8 (f163.q 8 (f159.q 8 (f121.q 8 (f83.q 8 (f80.q 8 (f79.v 5 rfl rfl rfl)))))))))))
   refine go_reg [bx g1 60 (cR a b c d)] [] [some (.bool true), some (.bool true), some (pt g1 1), some (.int .u64 b), some (.int .u64 (Rg.oneV ⟨⟨p, q⟩, ⟨r, t⟩⟩)), some (.int .u64 ((Rg.oneV ⟨⟨p, q⟩, ⟨r, t⟩⟩) % 64)), some (.int .u64 ((b * 2 ^ Int.toNat ((Rg.oneV ⟨⟨p, q⟩, ⟨r, t⟩⟩) % 64)) % 18446744073709551616)), some (.int .u64 (Rg.oneV ⟨⟨p, q⟩, ⟨r, t⟩⟩)), some (.int .u64 ((Rg.oneV ⟨⟨p, q⟩, ⟨r, t⟩⟩) % 64)), some (.int .u64 (((b * 2 ^ Int.toNat ((Rg.oneV ⟨⟨p, q⟩, ⟨r, t⟩⟩) % 64)) % 18446744073709551616) / 2 ^ Int.toNat ((Rg.oneV ⟨⟨p, q⟩, ⟨r, t⟩⟩) % 64))), some (pt g1 1), some (.int .u64 b), some (.bool true), some (.bool true)] mo f196.d f196.z f196.b (by kernel_rfl) ⟨b_g1_669, trivial⟩ (
    hk (fun cx => cx.v (ex_mv rfl (cx.rq 9 s9_670)) rfl rfl) <|
    hk (fun cx => cx.v (ex_mv rfl (cx.u 0 rfl)) rfl rfl) <|
    hk (fun cx => cx.val (cx.wy rfl rfl rfl rfl (cx.u 0 rfl)) (ex_fa rfl (cx.rq 4 s4_671) (faRU60_1_0 _ _)) rfl rfl rfl rfl) <|
    hk (fun cx => cx.val (cx.wy rfl rfl rfl rfl (cx.u 1 rfl)) (ex_ld rfl (cx.u 0 rfl) (cx.rn 0 rfl) rfl Try.isAgg30) rfl rfl rfl rfl) <|
    hk (fun cx => cx.val (cx.wy rfl rfl rfl rfl (cx.u 0 rfl)) (ex_mv rfl (cx.rq 8 s8_672)) rfl rfl rfl rfl) <|
    hk (fun cx => cx.val (cx.wy rfl rfl rfl rfl (cx.u 1 rfl)) (exec_rem (x := .tmp 215) rfl (cx.u 0 rfl) rfl HV.out (by decide)) rfl rfl rfl rfl) <|
    hk (fun cx => cx.val (cx.wy rfl rfl rfl rfl (cx.u 2 rfl)) (exec_shl (x := .tmp 214) (y := .tmp 216) rfl (cx.u 0 rfl) (cx.u 1 rfl) HN.out.1 HN.out.2) rfl rfl rfl rfl) <|
    hk (fun cx => cx.val (cx.wy rfl rfl rfl rfl (cx.u 0 rfl)) (ex_mv rfl (cx.rq 8 s8_672)) rfl rfl rfl rfl) <|
    hk (fun cx => cx.val (cx.wy rfl rfl rfl rfl (cx.u 1 rfl)) (exec_rem (x := .tmp 218) rfl (cx.u 0 rfl) rfl HV.out (by decide)) rfl rfl rfl rfl) <|
    hk (fun cx => cx.val (cx.wy rfl rfl rfl rfl (cx.u 2 rfl)) (exec_shr (x := .tmp 217) (y := .tmp 219) rfl (cx.u 0 rfl) (cx.u 1 rfl) HN.out.1 HN.out.2) rfl rfl rfl rfl) <|
    hk (fun cx => cx.val (cx.wy rfl rfl rfl rfl (cx.u 0 rfl)) (ex_fa rfl (cx.rq 4 s4_671) (faRU60_1_0 _ _)) rfl rfl rfl rfl) <|
    hk (fun cx => cx.val (cx.wy rfl rfl rfl rfl (cx.u 1 rfl)) (ex_ld rfl (cx.u 0 rfl) (cx.rn 0 rfl) rfl Try.isAgg30) rfl rfl rfl rfl) <|
    hk (fun cx => cx.val (cx.wy rfl rfl rfl rfl (cx.u 2 rfl)) (ex_eq (x := .tmp 220) (y := .tmp 222) rfl (cx.u 0 rfl) (cx.u 1 rfl)) rfl rfl (congrArg Value.bool Ffk50.out) rfl) <|
    hk (fun cx => cx.v (ex_pt rfl (cx.u 0 rfl) (cx.u 1 rfl)) rfl rfl) <|
    hn) ?_
   intro a199 w199 f199
   refine wp_cond_true (f199.v 13 rfl rfl rfl) ?_
   refine wp_seq ?_
   have b_g1_673 := f199.k b_g1_669
   have b_g4_674 := f199.k (f196.k (f195.k (f189.k (f181.k (f172.k (f168.k (f163.k (f159.k (f121.k (f83.k (f80.k (f79.k (f7.k b_g4)))))))))))))
   have s4_675 := f199.q 4 s4_671
   have s8_676 := f199.q 8 s8_672
   have s7_677 := f199.q 7 (f196.q 7 (f195.q 7 (f189.q 7 (f181.q 7 (f172.q 7 (f168.q 7 (f163.q 7 (f159.q 7 (f121.q 7 (f83.q 7 (f80.q 7 (f79.q 7 (f7.q 7 u_g4)))))))))))))
   refine go_reg [bx g1 60 (cR a b c d), ⟨g4, 60, (cR allR.u.lo allR.u.hi allR.s.lo allR.s.hi), some 6, (cR ((a * 2 ^ Int.toNat ((Rg.oneV ⟨⟨p, q⟩, ⟨r, t⟩⟩) % 64)) % 18446744073709551616) allR.u.hi allR.s.lo allR.s.hi)⟩] [] [some (pt g1 0), some (.int .u64 a), some (.int .u64 (Rg.oneV ⟨⟨p, q⟩, ⟨r, t⟩⟩)), some (.int .u64 ((Rg.oneV ⟨⟨p, q⟩, ⟨r, t⟩⟩) % 64)), some (.int .u64 ((a * 2 ^ Int.toNat ((Rg.oneV ⟨⟨p, q⟩, ⟨r, t⟩⟩) % 64)) % 18446744073709551616)), some (pt g4 0), none] mo f199.d f199.z f199.b (by kernel_rfl) ⟨b_g1_673, b_g4_674, trivial⟩ (
    hk (fun cx => cx.v (ex_fa rfl (cx.rq 4 s4_675) (faRU60_0_0 _ _)) rfl rfl) <|
    hk (fun cx => cx.v (ex_ld rfl (cx.u 0 rfl) (cx.rn 0 rfl) rfl Try.isAgg30) rfl rfl) <|
    hk (fun cx => cx.v (ex_mv rfl (cx.rq 8 s8_676)) rfl rfl) <|
    hk (fun cx => cx.v (exec_rem (x := .tmp 227) rfl (cx.u 0 rfl) rfl HV.out (by decide)) rfl rfl) <|
    hk (fun cx => cx.v (exec_shl (x := .tmp 226) (y := .tmp 228) rfl (cx.u 0 rfl) (cx.u 1 rfl) HN.out.1 HN.out.2) rfl rfl) <|
    hk (fun cx => cx.v (ex_fa rfl (cx.rq 7 s7_677) (faRU60_0_0 _ _)) rfl rfl) <|
    hk (fun cx => cx.stC (wn rfl) rfl rfl 1 rfl (cx.u 0 rfl) (cx.u 1 rfl) rfl rfl (by kernel_rfl) rfl rfl (Nat.le_trans f1.b.size q_g4) rfl ⟨(ne_row b_g1 q_g4), trivial⟩ trivial) <|
    hn) ?_
   intro a200 w200 f200
   have b_g1_678 := f200.kp b_g1_673 ⟨.inl rfl, .inr (ne_row b_g1 q_g4), trivial⟩
   have s4_679 := f200.q 4 s4_675
   have s8_680 := f200.q 8 s8_676
   have s7_681 := f200.q 7 s7_677
   refine go_reg [bx g1 60 (cR a b c d), ⟨g4, 60, (cR ((a * 2 ^ Int.toNat ((Rg.oneV ⟨⟨p, q⟩, ⟨r, t⟩⟩) % 64)) % 18446744073709551616) allR.u.hi allR.s.lo allR.s.hi), some 6, (cR ((a * 2 ^ Int.toNat ((Rg.oneV ⟨⟨p, q⟩, ⟨r, t⟩⟩) % 64)) % 18446744073709551616) ((b * 2 ^ Int.toNat ((Rg.oneV ⟨⟨p, q⟩, ⟨r, t⟩⟩) % 64)) % 18446744073709551616) allR.s.lo allR.s.hi)⟩] [] [some (pt g1 1), some (.int .u64 b), some (.int .u64 (Rg.oneV ⟨⟨p, q⟩, ⟨r, t⟩⟩)), some (.int .u64 ((Rg.oneV ⟨⟨p, q⟩, ⟨r, t⟩⟩) % 64)), some (.int .u64 ((b * 2 ^ Int.toNat ((Rg.oneV ⟨⟨p, q⟩, ⟨r, t⟩⟩) % 64)) % 18446744073709551616)), some (pt g4 1), none] mo f200.d f200.z f200.b (by kernel_rfl) ⟨b_g1_678, f200.rows.2.1, trivial⟩ (
    hk (fun cx => cx.v (ex_fa rfl (cx.rq 4 s4_679) (faRU60_1_0 _ _)) rfl rfl) <|
    hk (fun cx => cx.v (ex_ld rfl (cx.u 0 rfl) (cx.rn 0 rfl) rfl Try.isAgg30) rfl rfl) <|
    hk (fun cx => cx.v (ex_mv rfl (cx.rq 8 s8_680)) rfl rfl) <|
    hk (fun cx => cx.v (exec_rem (x := .tmp 233) rfl (cx.u 0 rfl) rfl HV.out (by decide)) rfl rfl) <|
    hk (fun cx => cx.v (exec_shl (x := .tmp 232) (y := .tmp 234) rfl (cx.u 0 rfl) (cx.u 1 rfl) HN.out.1 HN.out.2) rfl rfl) <|
    hk (fun cx => cx.v (ex_fa rfl (cx.rq 7 s7_681) (faRU60_1_0 _ _)) rfl rfl) <|
    hk (fun cx => cx.stC (wn rfl) rfl rfl 1 rfl (cx.u 0 rfl) (cx.u 1 rfl) rfl rfl (by kernel_rfl) rfl rfl (Nat.le_trans f1.b.size q_g4) rfl ⟨(ne_row b_g1 q_g4), trivial⟩ trivial) <|
    hn) ?_
   intro a201 w201 f201
   refine wp_seq ?_
   have b_g3_682 := f201.kp (f200.kp (f199.k (f196.k (f195.k (f189.k (f181.k (f172.k (f168.k (f163.k (f159.k (f121.k (f83.k (f80.k (f79.k (f7.k (f2.k b_g3))))))))))))))) ⟨.inl rfl, .inr (ne_row b_g3 q_g4), trivial⟩) ⟨.inl rfl, .inr (ne_row b_g3 q_g4), trivial⟩
   have s7_683 := f201.q 7 s7_681
   have s6_684 := f201.q 6 (f200.q 6 (f199.q 6 (f196.q 6 (f195.q 6 (f189.q 6 (f181.q 6 (f172.q 6 (f168.q 6 (f163.q 6 (f159.q 6 (f121.q 6 (f83.q 6 (f80.q 6 (f79.q 6 (f7.q 6 (f2.q 6 u_g3))))))))))))))))
   refine go_reg [bx g4 60 (cR ((a * 2 ^ Int.toNat ((Rg.oneV ⟨⟨p, q⟩, ⟨r, t⟩⟩) % 64)) % 18446744073709551616) ((b * 2 ^ Int.toNat ((Rg.oneV ⟨⟨p, q⟩, ⟨r, t⟩⟩) % 64)) % 18446744073709551616) allR.s.lo allR.s.hi), ⟨g3, 60, (cR 0 0 0 0), some 2, (cR D.u.lo D.u.hi D.s.lo D.s.hi)⟩] [] [some (.agg (cR ((a * 2 ^ Int.toNat ((Rg.oneV ⟨⟨p, q⟩, ⟨r, t⟩⟩) % 64)) % 18446744073709551616) ((b * 2 ^ Int.toNat ((Rg.oneV ⟨⟨p, q⟩, ⟨r, t⟩⟩) % 64)) % 18446744073709551616) allR.s.lo allR.s.hi)), some (.agg (cR D.u.lo D.u.hi D.s.lo D.s.hi)), none] mo f201.d f201.z f201.b (by kernel_rfl) ⟨f201.rows.2.1, b_g3_682, trivial⟩ (
    hk (fun cx => cx.v (ldR rfl (cx.rq 7 s7_683) (cx.rn 0 rfl)) rfl rfl) <|
    hc (fun _ _ wx cx => cx.c rfl (args1 (cx.u 0 rfl)) Try.func87 (by decide +kernel) (nar_mov (op := op) (x := ⟨⟨a, b⟩, ⟨c, d⟩⟩) (y := ⟨⟨p, q⟩, ⟨r, t⟩⟩) (z := ⟨⟨(a * 2 ^ Int.toNat ((Rg.oneV ⟨⟨p, q⟩, ⟨r, t⟩⟩) % 64)) % 18446744073709551616, (b * 2 ^ Int.toNat ((Rg.oneV ⟨⟨p, q⟩, ⟨r, t⟩⟩) % 64)) % 18446744073709551616⟩, allR.s⟩) (by unfold doU doS; (try unfold restU); simp only [if_neg (nb Ffk24.out), if_neg (nb Ffk25.out), if_neg (nb Ffk33.out), if_neg (nb Ffk41.out), if_neg (nb Ffk42.out), if_neg (nb Ffk43.out), if_neg (nb Ffk44.out), if_neg (nb Ffk46.out), if_neg (nb Ffk48.out), if_pos (yb Ffk49.out)]; rw [if_pos (by rw [Ffk3.out, ← HF.out, Ffk50.out]; rfl), HG.out Ffk50.out]; try rfl) ED.out HA.out HB.out Ffk1.out Ffk2.out wx) rfl rfl) <|
    hk (fun cx => cx.stR (wn rfl) rfl rfl 1 rfl (cx.rq 6 s6_684) (cx.u 0 rfl) (by kernel_rfl) rfl (by simp [Value.oneCell']) q_g3 rfl ⟨(ne_row b_g3 q_g4).symm, trivial⟩ trivial) <|
    hn) ?_
   intro a202 w202 f202
   refine wp_ret ?_
   have s6_685 := f202.q 6 s6_684
   try simp only [Exit.inBlock, Exit.then]
   refine bodyPost_ret (res_c (fn := Try.f40) rfl s6_685 (load_row 60 f202.rows.2.1 Try.underlying60 rfl (by kernel_rfl))) f202.d ?_
   exact ⟨rfl, f202.b⟩
  have Ffk49 := Lib.hid fk49; clear fk49
  have s33_686 := f195.q 33 s33_658
  refine go_reg [] [] [some (.bool false), some (.bool false)] mo f195.d f195.z f195.b (by kernel_rfl) trivial (
   hk (fun cx => cx.v (ex_eq (x := .tmp 33) rfl (cx.rq 33 s33_686) rfl) rfl (congrArg Value.bool Ffk49.out)) <|
   hk (fun cx => cx.v (ex_as rfl (cx.u 0 rfl)) rfl rfl) <|
   hn) ?_
  intro a203 w203 f203
  refine wp_cond_false (f203.v 1 rfl rfl rfl) ?_
  refine wp_skip ?_
  refine wp_seq ?_
  have b_g4_687 := f203.k (f195.k (f189.k (f181.k (f172.k (f168.k (f163.k (f159.k (f121.k (f83.k (f80.k (f79.k (f7.k b_g4))))))))))))
  have b_g3_688 := f203.k (f195.k (f189.k (f181.k (f172.k (f168.k (f163.k (f159.k (f121.k (f83.k (f80.k (f79.k (f7.k (f2.k b_g3)))))))))))))
  have s7_689 := f203.q 7 (f195.q 7 (f189.q 7 (f181.q 7 (f172.q 7 (f168.q 7 (f163.q 7 (f159.q 7 (f121.q 7 (f83.q 7 (f80.q 7 (f79.q 7 (f7.q 7 u_g4))))))))))))
  have s6_690 := f203.q 6 (f195.q 6 (f189.q 6 (f181.q 6 (f172.q 6 (f168.q 6 (f163.q 6 (f159.q 6 (f121.q 6 (f83.q 6 (f80.q 6 (f79.q 6 (f7.q 6 (f2.q 6 u_g3)))))))))))))
  refine go_reg [bx g4 60 (cR allR.u.lo allR.u.hi allR.s.lo allR.s.hi), ⟨g3, 60, (cR 0 0 0 0), some 2, (cR D.u.lo D.u.hi D.s.lo D.s.hi)⟩] [] [some (.agg (cR allR.u.lo allR.u.hi allR.s.lo allR.s.hi)), some (.agg (cR D.u.lo D.u.hi D.s.lo D.s.hi)), none] mo f203.d f203.z f203.b (by kernel_rfl) ⟨b_g4_687, b_g3_688, trivial⟩ (
   hk (fun cx => cx.v (ldR rfl (cx.rq 7 s7_689) (cx.rn 0 rfl)) rfl rfl) <|
   hc (fun _ _ wx cx => cx.c rfl (args1 (cx.u 0 rfl)) Try.func87 (by decide +kernel) (nar_mov (op := op) (x := ⟨⟨a, b⟩, ⟨c, d⟩⟩) (y := ⟨⟨p, q⟩, ⟨r, t⟩⟩) (z := allR) (by unfold doU doS; (try unfold restU); simp only [if_neg (nb Ffk24.out), if_neg (nb Ffk25.out), if_neg (nb Ffk33.out), if_neg (nb Ffk41.out), if_neg (nb Ffk42.out), if_neg (nb Ffk43.out), if_neg (nb Ffk44.out), if_neg (nb Ffk46.out), if_neg (nb Ffk48.out), if_neg (nb Ffk49.out)]; try rfl) ED.out HA.out HB.out Ffk1.out Ffk2.out wx) rfl rfl) <|
   hk (fun cx => cx.stR (wn rfl) rfl rfl 1 rfl (cx.rq 6 s6_690) (cx.u 0 rfl) (by kernel_rfl) rfl (by simp [Value.oneCell']) q_g3 rfl ⟨(ne_row b_g3 q_g4).symm, trivial⟩ trivial) <|
   hn) ?_
  intro a204 w204 f204
  refine wp_ret ?_
  have s6_691 := f204.q 6 s6_690
  try simp only [Exit.inBlock, Exit.then]
  refine bodyPost_ret (res_c (fn := Try.f40) rfl s6_691 (load_row 60 f204.rows.2.1 Try.underlying60 rfl (by kernel_rfl))) f204.d ?_
  exact ⟨rfl, f204.b⟩
end Go.Proofs.Ytnmgehjccafegaa.Bnd
