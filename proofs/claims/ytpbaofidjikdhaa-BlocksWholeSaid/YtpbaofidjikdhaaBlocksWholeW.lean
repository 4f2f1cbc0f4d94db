/-
  The walk of the law BlocksWhole.
-/
import Derived.Test.YtpbaofidjikdhaaBlkO
import Derived.Test.YtpbaofidjikdhaaRbG
import Derived.Test.YtpbaofidjikdhaaRinC
import Derived.Test.YtpbaofidjikdhaaBlkE
import Derived.Deep.RegionHeld3
namespace Go.Proofs.Ytpbaofidjikdhaa.Blk
open Go.RowKit Go.Maps Go.Sort Ins
set_option linter.unusedVariables false
set_option maxRecDepth 100000

theorem keep_whole {w0 w : World} {p0 p1 : Addr} {v0 v1 : Value} (h0 : w0.cell? p0 = some v0) (h1 : w0.cell? p1 = some v1) (l0 : p0.block < w0.heap.size) (l1 : p1.block < w0.heap.size) (b : Below w0.heap.size w0 w) :
    w.cell? p0 = some v0 ∧ w.cell? p1 = some v1 ∧ Below w0.heap.size w0 w := ⟨(b.cell l0).trans h0, (b.cell l1).trans h1, b⟩

/-- A cell of a row stored. -/
theorem wpList_store_row1 {P : Program} {ops : Array Oper} {rest : List Oper} {o : Oper} {a : Act} {w : World} {Q : Exit → Act → World → Prop} (hgd : o.guard = none) (ty : TypeId) (x y : Operand) (ho : o.op = .store ty x y)
    (g i : Nat) (v : Value) (hx : a.eval x = .pointer (some ⟨g, i, none⟩)) (hy : a.eval y = v) (hv : v.cells = #[v]) (h1 : v.oneCell' = true)
    {t : TypeId} {n : Nat} {f : Nat → Value} (hr : w.rowIs g t n f) (hi : (P.info? ty).map (·.size) = some 1) (hlt : i < n)
    (h : ∀ w', w'.rowIs g t n (fun j => if j = i then v else f j) → w.grownBy w' (some g) → wpList P ops Q rest (a.put o.dst undef) w') : wpList P ops Q (o :: rest) a w := by
  obtain ⟨cur, e1, e2, e3⟩ := id hr
  refine wpList_store_cell hgd ty x y ho g i v hx hy hv h1 t cur e1 hi (by omega) (fun w' s => h w' ?_ ⟨s.os, s.tape, s.output, by rw [s.size]; exact Nat.le_refl _, fun k hk hne => s.other k (fun e => hne (by rw [e]))⟩)
  refine ⟨_, s.row, by simp [e2], fun j hj => ?_⟩
  rw [Array.getElem?_setIfInBounds]
  by_cases e : i = j
  · subst e; rw [if_pos rfl, if_pos (by omega)]; show some v = some (if i = i then v else f i); rw [if_pos rfl]
  · rw [if_neg e]; show cur[j]? = some (if j = i then v else f j); rw [if_neg (Ne.symm e)]; exact e3 j hj
theorem info_one : (Try.prog.info? 3).map (·.size) = some 1 := by kernel_rfl
theorem hid_of {p : Prop} (h : p) : Hid p := Lib.hid h
theorem info_int : (Try.prog.info? 3).map (fun i => (i.zero, i.size, i.bytes)) = some (some (.int .i64 0), 1, 8) := by kernel_rfl

set_option maxHeartbeats 8000000 in
theorem whole_few (c : Int) (a : Option Addr) (len cap : Nat) (xs : Nat → In) (W : World) (hx : Insts W a len cap xs) (hr : (checkI c len xs).2 = 0) :
    Calls Try.prog 8 #[.agg #[.int .i64 c, .slice a len cap]] W fun e w' => e = .returned (.bool true) ∧ Below W.heap.size W w' := by
  have hfit := hx.fit
  have hle := hx.le
  have HX := Lib.hid hx; clear hx
  obtain ⟨hF, h64⟩ := fine_of hr
  have FN := Lib.hid hF
  have G := Lib.hid (fun W => great_any c a len cap W)
  rw [decide_eq_false (by omega)] at G
  obtain ⟨bs, hbs⟩ : ∃ bs, bksF (sh xs) len len = bs := ⟨_, rfl⟩
  have C := Lib.hid (fun W h => run_yes c a len cap xs W h hr)
  have HM := Lib.hid (may_bks hF h64)
  have HT := Lib.hid (fun x => last_to (x := x) hF)
  have hL1 := bksF_pos hF
  have hn1 := hF.pos
  have hL64 : (bksF (sh xs) len len).length ≤ 64 := by have h1 := bksF_len (sh xs) len len; have h2 := cnt_le_self (beg (sh xs) len) (len + 1); omega
  have HR := Lib.hid (show ∀ k, k < len → (sh xs).jumps k = decide ((xs k).kind = 3 ∨ (xs k).kind = 4) from fun k hk => ((ends_facts hr).2.2 k hk).2.1)
  clear hF hr hbs
  generalize hbs : bksF (sh xs) len len = bs at *
  have HBS := Lib.hid hbs; clear hbs
  go_enter Try.func8, Try.ntmps8
  go_wp2_with fail
  refine (G.out _).mono ?_
  rintro e w1 ⟨rfl, b1⟩
  have hP : w1.cell? ⟨W.heap.size, 1, none⟩ = some (.slice a len cap) := (b1.cell (by simp)).trans (by simp)
  have hP0 : w1.cell? ⟨W.heap.size, 0, none⟩ = some (.int .i64 c) := (b1.cell (by simp)).trans (by simp)
  have B1 := Lib.hid (below_call (below_new (Below.refl _ W) _) b1)
  have hz : W.heap.size < w1.heap.size := by have := b1.size; simp at this; omega
  clear b1
  go_wp2_with fail
  refine (C.out _ (HX.out.below B1.out)).mono ?_
  unfold Ran
  rw [HBS.out]
  rintro e w2 ⟨av, cv, rfl, hb2, b2⟩
  have hP2 := (b2.cell (p := ⟨W.heap.size, 1, none⟩) hz).trans hP
  have B2 := Lib.hid (below_call B1.out b2)
  have HB := Lib.hid hb2
  have lp := lt_of_cell hP2
  obtain ⟨bo, oo, rfl, hc8⟩ := hb2.here (by omega)
  obtain ⟨x, hx⟩ : ∃ x, bs[bs.length - 1]? = some x := ⟨_, List.getElem?_eq_getElem (by omega)⟩
  obtain ⟨na, nc, q8, _⟩ := hc8 _ x hx
  have x1 := (blk_cells q8).2.1
  rw [HT.out x hx] at x1
  have l1 := lt_of_cell x1
  have hle8 := hb2.le
  have hfit8 := hb2.fit
  have MY := Lib.hid (fun w b => (may_any _ _ _ _ w (HB.out.below (w := w) b)))
  have RM := Lib.hid (fun w b => (r_may _ _ _ _ w (HB.out.below (w := w) b)).mono (fun _ _ h => h.below))
  rw [HM.out] at MY RM
  clear b2 hP0 hP hc8 q8 hb2 hx HT hz
  generalize hL : bs.length = L at *
  have HL := Lib.hid hL; clear hL
  obtain ⟨M, rfl⟩ : ∃ M, L = M + 1 := ⟨L - 1, by omega⟩
  rw [Nat.add_sub_cancel] at x1
  have K := Lib.hid (fun w b => keep_whole (w := w) x1 hP2 l1 lp b)
  go_wp2_with fail
  have w1e : IntKind.i64.wrap ((M : Int) + 1 - 1) = (M : Int) := by rw [IntWalk.i64_in _ (by omega)]; omega
  have w2e : IntKind.i64.wrap (M : Int) = (M : Int) := IntWalk.i64_in _ (by omega)
  have w3e : (0 : Int) ≤ (M : Int) := by omega
  have w4e : (M : Int) < (M : Int) + 1 := by omega
  have w5e : M < M + 1 := by omega
  have w6e : ((M : Int) + 1 == 0) = false := by simp only [beq_eq_false_iff_ne]; omega
  go_region_held3 (fun w' => w'.cell? ⟨bo, oo + M * 3 + 1, none⟩ = some (.int .i64 (len : Int)) ∧ w'.cell? ⟨W.heap.size, 1, none⟩ = some (.slice a len cap) ∧ Below w2.heap.size w2 w')
    ((first | exact K.out _ (below_call (below_call (Below.drew (Below.refl _ _)) b3) b4) | exact K.out _ (below_call (Below.drew (Below.refl _ _)) b3) | exact K.out _ (Below.drew (Below.refl _ _)) | exact K.out _ (Below.refl _ _)))
    (first | (go_at_call 41; refine (MY.out _ (Below.drew (Below.refl _ _))).mono ?_; rintro e w3 ⟨rfl, b3⟩) | (go_at_call 42; refine (RM.out _ (below_call (Below.drew (Below.refl _ _)) b3)).mono ?_; rintro e w4 ⟨rfl, b4⟩))
  have Q5 := hid_of (K.out _ (below_call (below_call (Below.drew (Below.refl _ _)) b3) b4))
  have hP4 := Q5.out.2.1
  have lp4 := lt_of_cell hP4
  have B4 := Lib.hid (below_call B2.out Q5.out.2.2)
  have HB4 := Lib.hid (HB.out.below Q5.out.2.2)
  have I4 := Lib.hid (HX.out.below B4.out)
  have hmk : ∀ w, (Instr.makeSlice 72 (.int .i64 ((len : Int) + 1)) (.int .i64 ((len : Int) + 1))).run Try.prog w = .ok (.slice (some ⟨w.heap.size, 0, none⟩) (len + 1) (len + 1)) (w.alloc (.cells (madeCells #[.int .i64 0] (len + 1)) 3)) := fun w => by
    have := run_make_row' (P := Try.prog) 72 3 (.int .i64 0) 8 Try.underlying72 info_int rfl .i64 .i64 (len + 1) (by omega) (by omega) w
    rw [show ((len + 1 : Nat) : Int) = (len : Int) + 1 by omega] at this
    exact this
  rename_i hHeld
  clear hHeld b3 b4 K MY RM x1 l1 hP2 lp B2 B1 G C HB HM Q5 w1e w2e w6e
  go_wp2_with fail
  have R5 := Lib.hid ((World.rowIs_made w4 (.int .i64 0) (len + 1) 3).congr (g := fun z => .int .i64 (ledF (sh xs) 0 z)) (fun i hi => rfl))
  have X5 := Lib.hid ((Below.refl w4.heap.size w4).alloc (Nat.le_refl _) (.cells (madeCells #[Value.int .i64 0] (len + 1)) 3))
  clear hmk
  generalize hg : w4.heap.size = g at *
  have HG := Lib.hid hg; clear hg
  have WS := Lib.hid (fun k hk => whole_step (k := k) FN.out hk)
  have WJ := Lib.hid (fun k hk => whole_jump (k := k) FN.out hk)
  have WB := Lib.hid (fun b x hx => whole_blk (b := b) (x := x) FN.out hx)
  have LB := Lib.hid (fun z hz h0 => led_beg (s := sh xs) (n := len) (z := z) hz h0)
  have HJ := Lib.hid (show ∀ k, (sh xs).jumps k = jumpsI k (xs k) from fun k => rfl)
  have HT := Lib.hid (show ∀ k, (sh xs).to k = targetI k (xs k) from fun k => rfl)
  have HE := Lib.hid (show ∀ k, (sh xs).exit k = decide ((xs k).kind = 6) from fun k => rfl)
  have HC := Lib.hid (show ∀ k, (sh xs).cond k = decide ((xs k).kind = 3) from fun k => rfl)
  have HJ2 := Lib.hid (show ∀ k, k < len → (sh xs).jumps k = decide ((xs k).kind = 3 ∨ (xs k).kind = 4) from fun k hk => (HR.out k hk))
  rw [HBS.out] at WS WJ WB
  clear HBS FN HR
  generalize sh xs = s at *
  obtain ⟨B, q, rfl, hcells⟩ := I4.out.here (by omega)
  have XC := Lib.hid (show ∀ w, Below g w4 w → ∀ k, k < len → w.rangeAt B (q + k * 9) (xs k).cells.toList from fun w b k hk => rangeAt_below (by rw [HG.out]; exact b) (hcells k hk))
  have XB := Lib.hid (show ∀ w, Below g w4 w → Blks w (some ⟨bo, oo, none⟩) (M + 1) cv bs from fun w b => HB4.out.below (by rw [HG.out]; exact b))
  have XP := Lib.hid (show ∀ w, Below g w4 w → w.cell? ⟨W.heap.size, 1, none⟩ = some (.slice (some ⟨B, q, none⟩) len cap) from fun w b => (b.cell (p := ⟨W.heap.size, 1, none⟩) lp4).trans hP4)
  have XW := Lib.hid (show ∀ w, Below g w4 w → Below W.heap.size W w from fun w b => below_call B4.out (by rw [HG.out]; exact b))
  have XG := Lib.hid (show ∀ w, Below g w4 w → g ≤ w.heap.size from fun w b => by have := b.size; rw [HG.out] at this; exact this)
  clear hcells HB4 hP4 I4 HX B4 HG
  go_loopw [6] (fun i wr => ∃ k : Nat, k ≤ len ∧ i = .int .i64 k ∧ Hid (Below g w4 wr ∧ wr.rowIs g 3 (len + 1) (fun z => .int .i64 (ledF s k z)))) (fun i _ => len - (intOf i).toNat)
  case atStart => exact ⟨0, by omega, rfl, Lib.hid ⟨X5.out, R5.out⟩⟩
  case round =>
    clear X5 R5
    obtain ⟨k, hk, rfl, hR⟩ := hrel
    have Y := Lib.hid hR.out.1
    have R := Lib.hid hR.out.2
    clear hR
    have hpc := XP.out wr Y.out
    by_cases hlt : k < len
    · have hkc := XC.out wr Y.out k hlt 0 (.int .i8 (xs k).kind) rfl
      rw [Nat.add_zero] at hkc
      obtain ⟨nb, x, hof, hxb, hnb, hxe⟩ := WS.out k hlt
      have hnb' : nb < M + 1 := by have := HL.out; omega
      obtain ⟨_, _, e0, hcb⟩ := (XB.out wr Y.out).here (by omega)
      injection e0 with e0
      injection e0 with e1 e2
      subst e1 e2
      obtain ⟨na, nc, hq, hin⟩ := hcb nb x hxb
      obtain ⟨_, c1, c2⟩ := blk_cells hq
      have OF := Lib.hid (fun w b => of_any _ _ _ bs k w ((XB.out wr Y.out).below (w := w) b))
      rw [hof] at OF
      have TG := Lib.hid (fun W => r_target k (xs k) W)
      rw [← HJ.out, ← HT.out] at TG
      have LS := Lib.hid (ledF_step s k)
      have hbd := ledF_bd s k
      have LBD := Lib.hid hbd
      have XI := Lib.hid hxe
      have hji := HJ2.out k hlt
      have hei := HE.out k
      have HA := Lib.hid (XC.out wr Y.out k hlt)
      have HI := Lib.hid (show (Try.prog.info? 46).map (·.size) = some (xs k).cells.toList.length from info_ins)
      have IN := Lib.hid hin
      have XBN := Lib.hid hxb
      clear hof hxb hnb hxe hcb hq hin hbd
      have hb0 := lt_of_cell hkc
      have hb1 := lt_of_cell hpc
      have hb2 := lt_of_cell c1
      generalize hkd : (xs k).kind = kd at *
      clear hkd
      have hcase : (kd = 3 ∨ kd = 4) ∨ kd = 6 ∨ (¬ kd = 3 ∧ ¬ kd = 4 ∧ ¬ kd = 6) := by omega
      rcases hcase with h34 | rfl | ⟨h3, h4, h6⟩
      · have hj1 : s.jumps k = true := by rw [hji]; exact decide_eq_true h34
        obtain ⟨xt, xn⟩ := XI.out (.inl hj1)
        obtain ⟨t, kb, y, ht, htl, hofT, hyb, hkb, hyf, hn0, hnl⟩ := WJ.out k hlt hj1
        have hkb' : kb < M + 1 := by have := HL.out; omega
        rw [← xn] at hn0 hnl
        rw [xt] at c1
        rw [hj1, ht] at TG
        have LS2 := Lib.hid (show ∀ z, ledF s (k + 1) z = ledF s k z + (if (t : Int) = z then 1 else 0) + if (k : Int) + 1 = z then 1 else 0 from fun z => by rw [LS.out z, hj1, ht]; simp)
        have N0 := Lib.hid hn0
        have YB0 := Lib.hid hyb
        have YF := Lib.hid hyf
        have OT := Lib.hid hofT
        clear hj1 hji hei xt xn ht hofT hyb hkb hyf hn0
        rcases h34 with rfl | rfl
        all_goals
          as_aux_lemma =>
            go_wp2_with fail
            refine (OF.out _ (Below.refl _ _)).mono ?_
            rintro e wA ⟨rfl, bA⟩
            have hkcA := (bA.cell (p := ⟨B, q + k * 9, none⟩) hb0).trans hkc
            have hpcA := (bA.cell (p := ⟨W.heap.size, 1, none⟩) hb1).trans hpc
            have c1A := (bA.cell (p := ⟨bo, oo + nb * 3 + 1, none⟩) hb2).trans c1
            have c2A := (bA.cell (p := ⟨bo, oo + nb * 3 + 2, none⟩) hb2).trans c2
            have YA := Lib.hid (Y.out.trans (bA.mono (XG.out _ Y.out)))
            have RA := Lib.hid (R.out.of_block (bA.block _ R.out.lt))
            have HAA := Lib.hid (rangeAt_below bA HA.out)
            have INA := Lib.hid (IN.out.below bA)
            have XBA := Lib.hid (XB.out wA YA.out)
            clear hkc hpc c1 c2 bA OF
            go_wp2_with (with_reducible refine wpList_load_mid rfl 46 _ rfl B (q + k * 9) rfl (xs k).cells.toList _ HAA.out Try.underlying46 rfl HI.out ?_)
            refine (TG.out _).mono ?_
            as_aux_lemma =>
              rintro e wB ⟨rfl, bB⟩
              have YB := Lib.hid (YA.out.trans (bB.mono (XG.out _ YA.out)))
              have RB := Lib.hid (RA.out.of_block (bB.block _ RA.out.lt))
              have hpcB := XP.out wB YB.out
              have hb1B := lt_of_cell hpcB
              have OF2 := Lib.hid (fun w b => of_any _ _ _ bs t w ((XB.out wB YB.out).below (w := w) b))
              rw [OT.out] at OF2
              clear hkcA hpcA c1A c2A bB XBA HAA
              go_wp2_with fail
              refine (OF2.out _ (Below.refl _ _)).mono ?_
              as_aux_lemma =>
                rintro e wC ⟨rfl, bC⟩
                have YC := Lib.hid (YB.out.trans (bC.mono (XG.out _ YB.out)))
                have RC := Lib.hid (RB.out.of_block (bC.block _ RB.out.lt))
                obtain ⟨_, _, e0, hcC⟩ := (XB.out wC YC.out).here (by omega)
                injection e0 with e0
                injection e0 with e1 e2
                subst e1 e2
                obtain ⟨na2, nc2, hq2, _⟩ := hcC kb y YB0.out
                have d0 := (blk_cells hq2).1
                rw [YF.out] at d0
                obtain ⟨na3, nc3, hq3, hin3⟩ := hcC nb x XBN.out
                have d2 := (blk_cells hq3).2.2
                obtain ⟨bn, on, rfl, hcn⟩ := hin3.here hnl
                have d3 := hcn 0 _ N0.out
                rw [Nat.add_zero] at d3
                have hfN := hin3.le
                have hgN := hin3.fit
                generalize x.next.length = nl at *
                have hn1 : ((nl : Int) == 0) = false := by simp only [beq_eq_false_iff_ne]; omega
                have hcT := RC.out.cell (i := t) (by omega)
                have hbl := LBD.out (t : Int)
                generalize hv : ledF s k (t : Int) = v at *
                have HV := Lib.hid hv
                clear hcC hq2 hq3 hin3 hcn bC OF2 RB YB hpcB hb1B hv
                go_wp2_with (with_reducible refine (halt_store 3 _ _ rfl ?_))
                refine ⟨?_, trivial⟩
                refine wpList_store_row1 rfl 3 _ _ rfl g t (.int .i64 (v + 1)) rfl rfl rfl rfl RC.out info_one (by omega) ?_
                as_aux_lemma =>
                  intro wD rD gD
                  have YD := Lib.hid (YC.out.grown gD (XG.out _ YC.out) (fun j e => by injection e with e; omega))
                  have RD := Lib.hid rD
                  have hcL := rD.cell (i := k + 1) (by omega)
                  clear rD gD hcT d0 d2 d3 YC RC
                  have hbl2 := LBD.out ((k + 1 : Nat) : Int)
                  have hcL2 : wD.cell? ⟨g, k + 1, none⟩ = some (.int .i64 (if k + 1 = t then v + 1 else ledF s k ((k + 1 : Nat) : Int))) := by
                    rw [hcL]
                    show some (if k + 1 = t then Value.int .i64 (v + 1) else .int .i64 _) = _
                    split <;> rfl
                  clear hcL
                  have hb3 : 0 ≤ (if k + 1 = t then v + 1 else ledF s k ((k + 1 : Nat) : Int)) ∧ (if k + 1 = t then v + 1 else ledF s k ((k + 1 : Nat) : Int)) ≤ 200 := by split <;> omega
                  generalize hu : (if k + 1 = t then v + 1 else ledF s k ((k + 1 : Nat) : Int)) = u at *
                  have HU := Lib.hid hu
                  clear hu hbl2
                  go_wp2_with (with_reducible refine (halt_store 3 _ _ rfl ?_))
                  refine ⟨?_, trivial⟩
                  refine wpList_store_row1 rfl 3 _ _ rfl g (k + 1) (.int .i64 (u + 1)) rfl rfl rfl rfl RD.out info_one (by omega) ?_
                  intro wE rE gE
                  have YE := Lib.hid (YD.out.grown gE (XG.out _ YD.out) (fun j e => by injection e with e; omega))
                  have RE := Lib.hid (rE.congr (g := fun z => .int .i64 (ledF s (k + 1) z)) (fun z hz => by
                    show (if z = k + 1 then Value.int .i64 (u + 1) else if z = t then .int .i64 (v + 1) else .int .i64 (ledF s k z)) = .int .i64 (ledF s (k + 1) z)
                    rw [LS2.out]
                    by_cases e : z = k + 1
                    · subst e
                      rw [if_pos rfl, if_pos (show (k : Int) + 1 = ((k + 1 : Nat) : Int) by omega), ← HU.out]
                      by_cases e2 : k + 1 = t
                      · subst e2; rw [if_pos rfl, if_pos rfl, HV.out]
                      · rw [if_neg e2, if_neg (by omega), Int.add_zero]
                    · rw [if_neg e, if_neg (show ¬ (k : Int) + 1 = (z : Int) by omega), Int.add_zero]
                      by_cases e2 : z = t
                      · subst e2; rw [if_pos rfl, if_pos rfl, HV.out]
                      · rw [if_neg e2, if_neg (show ¬ (t : Int) = (z : Int) by omega), Int.add_zero]))
                  clear rE gE hcL2
                  go_wp2_with fail
                  go_roundw
                  case rel => exact ⟨k + 1, by omega, by go_num, Lib.hid ⟨YE.out, RE.out⟩⟩
                  case measure => simp [intOf]; omega
      · as_aux_lemma =>
          have he1 : s.exit k = true := hei
          have hj0 : s.jumps k = false := by rw [hji]; rfl
          obtain ⟨xt, xn⟩ := XI.out (.inr he1)
          rw [xt] at c1
          rw [hj0] at TG
          have LS2 := Lib.hid (show ∀ z, ledF s (k + 1) z = ledF s k z + if (k : Int) + 1 = z then 1 else 0 from fun z => by rw [LS.out z, hj0, he1]; simp)
          clear hj0 he1 hji hei xt xn
          go_wp2_with fail
          refine (OF.out _ (Below.refl _ _)).mono ?_
          rintro e wA ⟨rfl, bA⟩
          have hkcA := (bA.cell (p := ⟨B, q + k * 9, none⟩) hb0).trans hkc
          have hpcA := (bA.cell (p := ⟨W.heap.size, 1, none⟩) hb1).trans hpc
          have c1A := (bA.cell (p := ⟨bo, oo + nb * 3 + 1, none⟩) hb2).trans c1
          have c2A := (bA.cell (p := ⟨bo, oo + nb * 3 + 2, none⟩) hb2).trans c2
          have YA := Lib.hid (Y.out.trans (bA.mono (XG.out _ Y.out)))
          have RA := Lib.hid (R.out.of_block (bA.block _ R.out.lt))
          have HAA := Lib.hid (rangeAt_below bA HA.out)
          have INA := Lib.hid (IN.out.below bA)
          have XBA := Lib.hid (XB.out wA YA.out)
          clear hkc hpc c1 c2 bA OF
          go_wp2_with (with_reducible refine wpList_load_mid rfl 46 _ rfl B (q + k * 9) rfl (xs k).cells.toList _ HAA.out Try.underlying46 rfl HI.out ?_)
          refine (TG.out _).mono ?_
          rintro e wB ⟨rfl, bB⟩
          have YB := Lib.hid (YA.out.trans (bB.mono (XG.out _ YA.out)))
          have RB := Lib.hid (RA.out.of_block (bB.block _ RA.out.lt))
          as_aux_lemma =>
            have hpcB := XP.out wB YB.out
            have hb1B := lt_of_cell hpcB
            have hcL := RB.out.cell (i := k + 1) (by omega)
            have hbl := LBD.out ((k + 1 : Nat) : Int)
            generalize hv : ledF s k ((k + 1 : Nat) : Int) = v at *
            have HV := Lib.hid hv
            clear hkcA hpcA c1A c2A bB hv
            go_wp2_with (with_reducible refine (halt_store 3 _ _ rfl ?_))
            refine ⟨?_, trivial⟩
            refine wpList_store_row1 rfl 3 _ _ rfl g (k + 1) (.int .i64 (v + 1)) rfl rfl rfl rfl RB.out info_one (by omega) ?_
            intro wC rC gC
            have YC := Lib.hid (YB.out.grown gC (XG.out _ YB.out) (fun j e => by injection e with e; omega))
            have RC := Lib.hid (rC.congr (g := fun z => .int .i64 (ledF s (k + 1) z)) (fun z hz => by
              show (if z = k + 1 then Value.int .i64 (v + 1) else .int .i64 (ledF s k z)) = .int .i64 (ledF s (k + 1) z)
              rw [LS2.out]
              by_cases e : z = k + 1
              · subst e; rw [if_pos rfl, if_pos (by omega), HV.out]
              · rw [if_neg e, if_neg (by omega), Int.add_zero]))
            clear rC gC hcL
            go_wp2_with fail
            go_roundw
            case rel => exact ⟨k + 1, by omega, by go_num, Lib.hid ⟨YC.out, RC.out⟩⟩
            case measure => simp [intOf]; omega
      · as_aux_lemma =>
          have hj0 : s.jumps k = false := by rw [hji]; exact decide_eq_false (by omega)
          have he0 : s.exit k = false := by rw [hei]; exact decide_eq_false h6
          rw [hj0] at TG
          have LS2 := Lib.hid (show ∀ z, ledF s (k + 1) z = ledF s k z from fun z => by rw [LS.out z, hj0, he0]; simp)
          have e3 : (kd == 3) = false := by simpa using h3
          have e4 : (kd == 4) = false := by simpa using h4
          have e6 : (kd == 6) = false := by simpa using h6
          clear hj0 he0 h3 h4 h6 hji hei
          go_wp2_with fail
          refine (OF.out _ (Below.refl _ _)).mono ?_
          rintro e wA ⟨rfl, bA⟩
          have hkcA := (bA.cell (p := ⟨B, q + k * 9, none⟩) hb0).trans hkc
          have hpcA := (bA.cell (p := ⟨W.heap.size, 1, none⟩) hb1).trans hpc
          have c1A := (bA.cell (p := ⟨bo, oo + nb * 3 + 1, none⟩) hb2).trans c1
          have c2A := (bA.cell (p := ⟨bo, oo + nb * 3 + 2, none⟩) hb2).trans c2
          have YA := Lib.hid (Y.out.trans (bA.mono (XG.out _ Y.out)))
          have RA := Lib.hid (R.out.of_block (bA.block _ R.out.lt))
          have HAA := Lib.hid (rangeAt_below bA HA.out)
          have INA := Lib.hid (IN.out.below bA)
          have XBA := Lib.hid (XB.out wA YA.out)
          clear hkc hpc c1 c2 bA OF
          go_wp2_with (with_reducible refine wpList_load_mid rfl 46 _ rfl B (q + k * 9) rfl (xs k).cells.toList _ HAA.out Try.underlying46 rfl HI.out ?_)
          refine (TG.out _).mono ?_
          rintro e wB ⟨rfl, bB⟩
          have YB := Lib.hid (YA.out.trans (bB.mono (XG.out _ YA.out)))
          have RB := Lib.hid (RA.out.of_block (bB.block _ RA.out.lt))
          have hpcB := XP.out wB YB.out
          have hb1B := lt_of_cell hpcB
          clear hkcA hpcA c1A c2A bB
          go_wp2_with fail
          go_roundw
          case rel => exact ⟨k + 1, by omega, by go_num, Lib.hid ⟨YB.out, RB.out.congr (fun z hz => by rw [LS2.out])⟩⟩
          case measure => simp [intOf]; omega
    · obtain rfl : k = len := by omega
      clear WS WJ
      go_wp2_with fail
      go_loopw [14] (fun i wr2 => ∃ b : Nat, b ≤ M + 1 ∧ i = .int .i64 b ∧ Hid (Below g w4 wr2 ∧ wr2.rowIs g 3 (k + 1) (fun z => .int .i64 (ledF s k z)))) (fun i _ => M + 1 - (intOf i).toNat)
      case atStart => exact ⟨0, by omega, rfl, Lib.hid ⟨Y.out, R.out⟩⟩
      case round =>
        clear Y R hpc
        obtain ⟨b, hb, rfl, hR2⟩ := hrel
        have Y := Lib.hid hR2.out.1
        have R := Lib.hid hR2.out.2
        clear hR2
        by_cases hbl : b < M + 1
        · as_aux_lemma =>
            obtain ⟨x, hx⟩ : ∃ x, bs[b]? = some x := ⟨_, List.getElem?_eq_getElem (by have := HL.out; omega)⟩
            obtain ⟨e, f, he, hxt, hxf, hf, hbf, hf0, hcs⟩ := WB.out b x hx
            obtain ⟨_, _, e0, hcb⟩ := (XB.out _ Y.out).here (by omega)
            injection e0 with e0
            injection e0 with e1 e2
            subst e1 e2
            obtain ⟨na, nc, hq, hin⟩ := hcb b x hx
            obtain ⟨c0, c1, c2⟩ := blk_cells hq
            rw [hxf] at c0
            rw [hxt] at c1
            have hpc := XP.out _ Y.out
            have hkc := XC.out _ Y.out e he 0 (.int .i8 (xs e).kind) rfl
            rw [Nat.add_zero] at hkc
            have hbf' : 0 < b → 1 ≤ ledF s k f := fun h => LB.out f hbf (by have := hf0 h; omega)
            have hlf := R.out.cell (i := f) (by omega)
            have hcase : ((xs e).kind = 4 ∧ x.next.length ≠ 0) ∨ ((xs e).kind = 6 ∧ x.next.length = 0) ∨ ((¬ (xs e).kind = 4 ∧ ¬ (xs e).kind = 6) ∧ x.next.length ≠ 0 ∧ x.next[x.next.length - 1]? = some ((b : Int) + 1)) := by
              have j1 := HJ2.out e he
              have j2 := HE.out e
              have j3 := HC.out e
              rcases hcs with ⟨q1, q2, q3⟩ | ⟨q1, q2, q3, q4⟩ | ⟨q1, q2, q3⟩
              · rw [q1] at j1
                rw [q2] at j3
                have j1 := of_decide_eq_true j1.symm
                have j3 := of_decide_eq_false j3.symm
                exact .inl ⟨by omega, q3⟩
              · rw [q1] at j2
                exact .inr (.inl ⟨of_decide_eq_true j2.symm, by rw [q4]; rfl⟩)
              · refine .inr (.inr ⟨?_, q2, q3⟩)
                rcases q1 with q1 | ⟨q1, q4⟩
                · rw [q1] at j3
                  have j3 := of_decide_eq_true j3.symm
                  omega
                · rw [q1] at j1
                  rw [q4] at j2
                  have j1 := of_decide_eq_false j1.symm
                  have j2 := of_decide_eq_false j2.symm
                  omega
            have IN := Lib.hid hin.here
            have hnl := hin.le
            have hnf := hin.fit
            have NX := Lib.hid (show ∀ m : Nat, x.next.length = m + 1 → x.next[x.next.length - 1]? = some ((b : Int) + 1) → x.next[m]? = some ((b : Int) + 1) from fun m h1 h2 => by rw [h1, Nat.add_sub_cancel] at h2; exact h2)
            clear hx hxt hxf hbf hf0 hcs hcb hq hin
            generalize ledF s k (f : Int) = v at *
            generalize (xs e).kind = kd at *
            have z1 : IntKind.i64.wrap ((e : Int) + 1 - 1) = (e : Int) := by rw [IntWalk.i64_in _ (by omega)]; omega
            have z2 : IntKind.i64.wrap (e : Int) = (e : Int) := IntWalk.i64_in _ (by omega)
            have z3 : (0 : Int) ≤ (e : Int) := by omega
            have z4 : (e : Int) < (k : Int) := by omega
            have z5 : (0 : Int) ≤ (b : Int) := by omega
            have z6 : (b : Int) < (M : Int) + 1 := by omega
            go_wp2_with fail
            go_quiet (fail)
            have YN := Lib.hid (below_drewN Y.out nq)
            have RN := Lib.hid (R.out.of_block (w' := wr.drewN nq) (by simp))
            clear z1 z2 Y R
            rcases hcase with ⟨rfl, h2⟩ | ⟨rfl, h2⟩ | ⟨⟨h3, h4⟩, h2, h5⟩
            · by_cases h0 : 0 < b
              · as_aux_lemma =>
                  have v0 : (v == 0) = false := by simp only [beq_eq_false_iff_ne]; have := hbf' h0; omega
                  go_wp2_with fail
                  go_roundw
                  case rel => exact ⟨b + 1, by omega, by go_num, Lib.hid ⟨YN.out, RN.out⟩⟩
                  case measure => simp [intOf]; omega
              · as_aux_lemma =>
                  obtain rfl : b = 0 := by omega
                  go_wp2_with fail
                  go_roundw
                  case rel => exact ⟨1, by omega, by first | rfl | go_num, Lib.hid ⟨YN.out, RN.out⟩⟩
                  case measure => first | (simp [intOf]; omega) | (simp [intOf]; done)
            · rw [h2] at c2
              by_cases h0 : 0 < b
              · as_aux_lemma =>
                  have v0 : (v == 0) = false := by simp only [beq_eq_false_iff_ne]; have := hbf' h0; omega
                  go_wp2_with fail
                  go_roundw
                  case rel => exact ⟨b + 1, by omega, by go_num, Lib.hid ⟨YN.out, RN.out⟩⟩
                  case measure => simp [intOf]; omega
              · as_aux_lemma =>
                  obtain rfl : b = 0 := by omega
                  go_wp2_with fail
                  go_roundw
                  case rel => exact ⟨1, by omega, by first | rfl | go_num, Lib.hid ⟨YN.out, RN.out⟩⟩
                  case measure => first | (simp [intOf]; omega) | (simp [intOf]; done)
            · have n4 : (kd != 4) = true := by simpa using h3
              have n6 : (kd != 6) = true := by simpa using h4
              have n7 : (kd == 6) = false := by simpa using h4
              obtain ⟨m, hm⟩ : ∃ m, x.next.length = m + 1 := ⟨x.next.length - 1, by omega⟩
              have hnm := NX.out m hm h5
              obtain ⟨bn, on, rfl, hcn⟩ := IN.out (by omega)
              have c3 := hcn m _ hnm
              rw [hm] at c2 hnl
              have m0 : ((m : Int) + 1 == 0) = false := by simp only [beq_eq_false_iff_ne]; omega
              clear h3 h4 h5 hnm hcn h2 hm NX
              by_cases h0 : 0 < b
              · as_aux_lemma =>
                  have v0 : (v == 0) = false := by simp only [beq_eq_false_iff_ne]; have := hbf' h0; omega
                  go_wp2_with fail
                  go_roundw
                  case rel => exact ⟨b + 1, by omega, by go_num, Lib.hid ⟨YN.out, RN.out⟩⟩
                  case measure => simp [intOf]; omega
              · as_aux_lemma =>
                  obtain rfl : b = 0 := by omega
                  go_wp2_with fail
                  go_roundw
                  case rel => exact ⟨1, by omega, by first | rfl | go_num, Lib.hid ⟨YN.out, RN.out⟩⟩
                  case measure => first | (simp [intOf]; omega) | (simp [intOf]; done)
        · as_aux_lemma =>
            obtain rfl : b = M + 1 := by omega
            go_wp2_with fail
            refine (wakes_any _).mono ?_
            rintro e w9 ⟨rfl, b9⟩
            go_wp2_with fail
            go_ret
            exact ⟨rfl, below_call (XW.out _ Y.out) b9⟩

set_option maxHeartbeats 8000000 in
theorem whole_no (c : Int) (a : Option Addr) (len cap : Nat) (xs : Nat → In) (W : World) (hx : Insts W a len cap xs) (hr : ¬ (checkI c len xs).2 = 0) (hg : ¬ 100 < len) :
    Calls Try.prog 8 #[.agg #[.int .i64 c, .slice a len cap]] W fun e w' => e = .returned (.bool true) ∧ Below W.heap.size W w' := by
  have G := Lib.hid (fun W => great_any c a len cap W)
  rw [decide_eq_false hg] at G
  have C := Lib.hid (fun W h => run_no c a len cap xs W h hr)
  have HX := Lib.hid hx; clear hx
  generalize (checkI c len xs).2 = r at *
  have e0 : (r != 0) = true := by simpa using hr
  clear hr
  go_enter Try.func8, Try.ntmps8
  go_wp2_with fail
  refine (G.out _).mono ?_
  rintro e w1 ⟨rfl, b1⟩
  have hP : w1.cell? ⟨W.heap.size, 1, none⟩ = some (.slice a len cap) := (b1.cell (by simp)).trans (by simp)
  have hP0 : w1.cell? ⟨W.heap.size, 0, none⟩ = some (.int .i64 c) := (b1.cell (by simp)).trans (by simp)
  have B1 := Lib.hid (below_call (below_new (Below.refl _ W) _) b1); clear b1
  go_wp2_with fail
  refine (C.out _ (HX.out.below B1.out)).mono ?_
  rintro e w2 ⟨rfl, b2⟩
  go_wp2_with fail
  refine (wakes_any _).mono ?_
  rintro e w3 ⟨rfl, b3⟩
  go_wp2_with fail
  go_ret
  exact ⟨rfl, below_call (below_call B1.out b2) b3⟩
set_option maxHeartbeats 8000000 in
theorem whole_great (c : Int) (a : Option Addr) (len cap : Nat) (W : World) (hg : 100 < len) :
    Calls Try.prog 8 #[.agg #[.int .i64 c, .slice a len cap]] W fun e w' => e = .returned (.bool true) ∧ Below W.heap.size W w' := by
  have G := Lib.hid (fun W => great_any c a len cap W)
  rw [decide_eq_true hg] at G
  go_enter Try.func8, Try.ntmps8
  go_wp2_with fail
  refine (G.out _).mono ?_
  rintro e w1 ⟨rfl, b1⟩
  go_wp2_with fail
  refine (wakes_any _).mono ?_
  rintro e w2 ⟨rfl, b2⟩
  go_wp2_with fail
  go_ret
  exact ⟨rfl, below_call (below_call (below_new (Below.refl _ _) _) b1) b2⟩
theorem blocksWhole_law (c : Int) (a : Option Addr) (len cap : Nat) (xs : Nat → In) (W : World) (_ : (Lit.int .i64 c).wf = true) (hx : Insts W a len cap xs) :
    Calls Try.prog 8 #[.agg #[.int .i64 c, .slice a len cap]] W fun e w' => e = .returned (.bool true) ∧ Below W.heap.size W w' := by
  by_cases hg : 100 < len
  · exact whole_great c a len cap W hg
  by_cases hr : (checkI c len xs).2 = 0
  · exact whole_few c a len cap xs W hx hr
  · exact whole_no c a len cap xs W hx hr hg
end Go.Proofs.Ytpbaofidjikdhaa.Blk
