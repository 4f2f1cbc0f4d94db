/-
  Several texts in one: IrKeepsW.
-/
import Derived.Test.YtbpehbeakhocnaaGreatDoorIRk01
import Derived.Test.YtbpehbeakhocnaaGreatDoorIRm42
import Derived.Test.YtbpehbeakhocnaaGreatDoorIRm38
set_option linter.unusedVariables false
set_option linter.unusedSimpArgs false
set_option linter.unnecessarySimpa false
namespace Go.Proofs.YtbpehbeakhocnaaGreatDoor.Irn
open Go Go.RowKit
open Mrm (Xi xC xL zX eqX mayX readsX writesX XOk heap_below)
open Flg (Fl fC zF mayC holF)
open Exe
set_option linter.unusedVariables false
set_option linter.unusedSimpArgs false
set_option linter.unnecessarySimpa false
set_option maxRecDepth 100000





/-- What the law keeps. -/
structure KX (W : World) (gR gA gM : Nat) (g A : Nat → Int) (M : Mc) (w : World) : Prop where
  fb : Below W.heap.size W w
  fr : w.heap[gR]? = some (.cells (rgC g) 24 (0, 0))
  fa : w.heap[gA]? = some (.cells (rgC A) 24 (0, 0))
  fm : w.heap[gM]? = some (.cells (mcC M) 30 (0, 0))
theorem KX.keep {W w w' : World} {gR gA gM : Nat} {g A : Nat → Int} {M : Mc} (h : KX W gR gA gM g A M w) (b : Below w.heap.size w w') : KX W gR gA gM g A M w' :=
  ⟨below_call h.fb b, row_heap h.fr b, row_heap h.fa b, row_heap h.fm b⟩
theorem bit_eq {l : List Ii} {kk : Int} {k : Nat} : (sbI (regN kk l : Nat) k == 0) = !(regN kk l).testBit k := by
  rw [sb_nat (regN_lt kk l)]
  cases (regN kk l).testBit k <;> rfl
theorem bit_one {l : List Ii} {kk : Int} {k : Nat} : (bits .and .i64 ((regN kk l : Nat) / 2 ^ k : Int) 1 == 1) = (regN kk l).testBit k := by
  show (sbI (regN kk l : Nat) k == 1) = _
  rw [sb_nat (regN_lt kk l)]
  cases (regN kk l).testBit k <;> rfl
theorem eq_z11 (w : World) : (Op.equalIn 10000 24 (.agg #[.int .u64 0, .int .u64 0, .int .u64 0, .int .u64 0, .int .u64 0, .int .u64 0, .int .u64 0, .int .u64 0, .int .u64 0, .int .u64 0, .int .u64 0]) (.agg #[.int .u64 0, .int .u64 0, .int .u64 0, .int .u64 0, .int .u64 0, .int .u64 0, .int .u64 0, .int .u64 0, .int .u64 0, .int .u64 0, .int .u64 0])).run Tryz.prog w = .ok true w := eq_rg11 zG w
set_option maxHeartbeats 16000000 in
theorem keeps_main (a : Option Addr) (len cap : Nat) (l : List Ii) (g : Nat → Int) (other by_ : Int) (W : World) (hL : Irs W a len cap l) (hg : GOk g) (ho : I64 other) (hb : U64 by_) (hT : Tb W) (l100 : len ≤ 100) :
    Calls Tryz.prog 4 #[.slice a len cap, .agg (rgC g), .int .i64 other, .int .u64 by_] W fun e w' => e = .returned (.bool true) ∧ Below W.heap.size W w' := by
  have mo : Tryz.prog.follows .mixedOrders = true := by kernel_rfl
  have HT := Lib.hid hT
  have HL := Lib.hid hL
  have HG := Lib.hid hg
  have HO := Lib.hid ho
  have HBY := Lib.hid hb
  have e1 := hL.le
  have e2 := hL.fit
  have b0 := below_new (Below.refl W.heap.size W) (.cells (rgC g) 24)
  have r0 : (W.alloc (.cells (rgC g) 24)).heap[W.heap.size]? = some (.cells (rgC g) 24 (0, 0)) := heap_last _ _ _ rfl
  have B0 := Lib.hid b0
  have R0 := Lib.hid r0
  have g1 : decide ((100 : Int) < (len : Int)) = false := by simp; omega
  clear hL hg hT b0 r0 ho hb
  go_enter Tryz.func4, Tryz.ntmps4
  go_wp2_with (with_reducible refine (halt_load 24 _ rfl ?_))
  refine ⟨?_, trivial⟩
  refine wpList_load_row rfl 24 _ rfl _ rfl _ _ _ _ R0.out Tryz.underlying24 rfl (by kernel_rfl) ?_
  go_wp2_with fail
  refine (ido_n a len cap l g _ (HT.out.below B0.out (Nat.le_refl _)) (HL.out.below B0.out (Nat.le_refl _)) (by omega) HG.out).mono ?_
  rintro e w31 ⟨rfl, b3⟩
  have RG_1 := Lib.hid (row_heap R0.out b3)
  have BB1 := Lib.hid (below_call B0.out b3)
  clear b3
  obtain ⟨q1, HQ1⟩ : ∃ q, Hid (outI l g = q) := ⟨_, Lib.hid rfl⟩
  rw [HQ1.out]
  obtain ⟨⟨qg, qm⟩, qa, qe⟩ := q1
  simp only
  go_wp2_with (with_reducible refine (halt_store 24 _ _ rfl ?_))
  refine ⟨?_, trivial⟩
  refine wpList_store_is rfl 24 _ _ rfl w31.heap.size _ rfl rfl 24 _ ((heap_past _ _ _ (by rw [size_alloc]; omega)).trans (heap_last w31 _ _ rfl)) (by kernel_rfl) rfl (by kernel_rfl) ?_
  intro wg1 sg1
  have G1 := Lib.hid sg1.row
  have P1 := Lib.hid (show wg1.heap[w31.heap.size + 1]? = some (.cells (mcC zM) 30 (0, 0)) from (sg1.other _ (by omega)).trans (heap_last _ _ _ (by rw [size_alloc])))
  have C1 := Lib.hid (sg1.below (below_new (below_new (Below.refl w31.heap.size w31) _) _) (Nat.le_refl _))
  clear sg1
  go_wp2_with (with_reducible refine (halt_store 30 _ _ rfl ?_))
  refine ⟨?_, trivial⟩
  refine wpList_store_is rfl 30 _ _ rfl (w31.heap.size + 1) _ rfl rfl _ _ P1.out (by kernel_rfl) rfl (by kernel_rfl) ?_
  intro wm1 sm1
  have D1m := Lib.hid sm1.row
  have D1g := Lib.hid (row_stay G1.out sm1 (by omega))
  have D1b := Lib.hid (sm1.below C1.out (by omega))
  clear sm1 G1 P1 C1
  have RG1 := Lib.hid (row_heap RG_1.out D1b.out)
  have B1 := Lib.hid (below_call BB1.out D1b.out)
  by_cases hq : qe = 0
  case neg =>
    have e0 : (qe != 0) = true := by simpa using hq
    have OB := out_bad (l := l) (g := g) (by rw [HQ1.out]; exact hq)
    rw [HQ1.out] at OB
    obtain ⟨z1, z2⟩ := OB
    simp only at z1 z2
    subst z1 z2
    have EZ := eq_z11
    have DZ := Lib.hid (show wm1.heap[w31.heap.size]? = some (.cells #[.int .u64 0, .int .u64 0, .int .u64 0, .int .u64 0, .int .u64 0, .int .u64 0, .int .u64 0, .int .u64 0, .int .u64 0, .int .u64 0, .int .u64 0] 24 (0, 0)) from D1g.out)
    clear hq
    go_wp2_with (with_reducible refine (halt_load 24 _ rfl ?_))
    refine ⟨?_, trivial⟩
    refine wpList_load_row rfl 24 _ rfl _ rfl _ _ _ _ DZ.out Tryz.underlying24 rfl (by kernel_rfl) ?_
    go_wp2_with fail
    refine (wakes_n _ (HT.out.below B1.out (Nat.le_refl _))).mono ?_
    rintro e w9 ⟨rfl, b9⟩
    have B9 := Lib.hid (below_call B1.out b9)
    clear b9
    go_wp2_with fail
    go_ret
    exact ⟨rfl, B9.out⟩
  case pos =>
    subst hq
    have GV := Lib.hid (gives_n a len cap l wm1 (HL.out.below B1.out (Nat.le_refl _)))
    go_wp2_with fail
    refine GV.out.mono ?_
    rintro e w4 ⟨rfl, b4⟩
    have BV := Lib.hid (below_call B1.out b4)
    have RV := Lib.hid (row_heap RG1.out b4)
    have AV := Lib.hid (row_heap D1g.out b4)
    have MV := Lib.hid (row_heap D1m.out b4)
    clear b4
    go_wp2_with fail
    refine (takes_n a len cap l w4 (HL.out.below BV.out (Nat.le_refl _))).mono ?_
    rintro e w5 ⟨rfl, b5⟩
    obtain ⟨gR, hgR⟩ : ∃ x, x = W.heap.size := ⟨_, rfl⟩
    obtain ⟨gA, hgA⟩ : ∃ x, x = w31.heap.size := ⟨_, rfl⟩
    obtain ⟨gM, hgM⟩ : ∃ x, x = w31.heap.size + 1 := ⟨_, rfl⟩
    have KA := Lib.hid (show KX W gR gA gM g qg qm w5 by
      rw [hgR, hgA, hgM]
      exact ⟨below_call BV.out b5, row_heap RV.out b5, row_heap AV.out b5, row_heap MV.out b5⟩)
    have SZ := Lib.hid (show W.heap.size < w31.heap.size from (Array.getElem?_eq_some_iff.1 RG_1.out).1)
    clear b5 RV AV MV BV GV RG1 D1g D1m B1 D1b BB1 RG_1
    rw [← hgM, ← hgR, ← hgA]
    have HR' := Lib.hid hgR
    have NE := Lib.hid (show gR ≠ gA ∧ gR ≠ gM by have := SZ.out; omega)
    clear hgR hgA hgM
    go_wp2_with fail
    go_loopw [49] (fun i wr => ∃ k : Nat, k ≤ 11 ∧ i = .int .i64 k ∧ Hid (KX W gR gA gM g qg qm wr)) (fun i _ => 11 - (intOf i).toNat)
    case atStart => exact ⟨0, by omega, rfl, KA⟩
    case round =>
      obtain ⟨k, hkl, rfl, KP⟩ := hrel
      by_cases hlt : k < 11
      · have HA := Lib.hid KP.out.fa
        have HR := Lib.hid KP.out.fr
        cases hbit : (regN 2 l).testBit k
        · have HBT := Lib.hid (show (sbI (regN 2 l : Nat) k == 0) = true by rw [bit_eq, hbit]; rfl)
          have HNE := Lib.hid (show (qg k != g k) = false by
            have := out_keeps (l := l) (g := g) (by rw [HQ1.out]) k hbit
            rw [HQ1.out] at this
            simp only at this
            rw [this]
            simp)
          clear hbit
          go_wp2_with fail
          refine go_regz (belS wr) [] [] [some (.int .i64 ((regN 2 l : Nat) : Int)), some (.int .i64 (k : Int)), some (.int .i64 (((regN 2 l : Nat) : Int) / 2 ^ k)), some (.int .i64 (sbI (regN 2 l : Nat) k)), some (.bool true), some (.bool true), some (.int .i64 (k : Int)), some (.pointer (some ⟨gA, k, none⟩)), some (.int .u64 (qg k)), some (.int .i64 (k : Int)), some (.pointer (some ⟨gR, k, none⟩)), some (.int .u64 (g k)), some (.bool false), some (.bool false)] mo (fun fl fl' u u' w hK hD h => h) rfl rfl (by kernel_rfl) (fun fl w1 hfl b _ => b) (
           zc (@fun fl ax wx cx => cx.vg (wn rfl) (ex_mv rfl (cx.rq 13 rfl)) rfl rfl rfl rfl) <|
           zc (@fun fl ax wx cx => cx.vg (wn rfl) (ex_mv rfl (cx.rq 15 rfl)) rfl rfl rfl rfl) <|
           zc (@fun fl ax wx cx => cx.vg (wn rfl) (ex_shrS rfl (cx.u 0 rfl) (cx.u 1 rfl) hlt) rfl rfl rfl rfl) <|
           zc (@fun fl ax wx cx => cx.vg (wn rfl) (ex_andS rfl (cx.u 0 rfl) rfl) rfl rfl rfl rfl) <|
           zc (@fun fl ax wx cx => cx.vg (wn rfl) (ex_eqS rfl (cx.u 0 rfl) rfl HBT.out) rfl rfl rfl rfl) <|
           zc (@fun fl ax wx cx => cx.vg (wn rfl) (ex_mv rfl (cx.u 0 rfl)) rfl rfl rfl rfl) <|
           zc (@fun fl ax wx cx => cx.vg (cx.wy rfl rfl rfl rfl (cx.u 0 rfl)) (ex_mv rfl (cx.rq 15 rfl)) rfl rfl rfl rfl) <|
           zc (@fun fl ax wx cx => cx.vg (cx.wy rfl rfl rfl rfl (cx.u 1 rfl)) (ex_ia (n := 11) (sz := 1) (q := k) rfl (cx.rq 9 rfl) (cx.u 0 rfl) Tryz.underlying24 (by kernel_rfl) (by omega) (by omega) (by omega)) rfl rfl rfl rfl) <|
           zc (@fun fl ax wx cx => cx.vg (cx.wy rfl rfl rfl rfl (cx.u 1 rfl)) (ldRgE hlt rfl (cx.u 0 rfl) (heap_below cx.S HA.out (Nat.le_refl _))) rfl rfl rfl rfl) <|
           zc (@fun fl ax wx cx => cx.vg (cx.wy rfl rfl rfl rfl (cx.u 0 rfl)) (ex_mv rfl (cx.rq 15 rfl)) rfl rfl rfl rfl) <|
           zc (@fun fl ax wx cx => cx.vg (cx.wy rfl rfl rfl rfl (cx.u 1 rfl)) (ex_ia (n := 11) (sz := 1) (q := k) rfl (cx.rq 5 rfl) (cx.u 0 rfl) Tryz.underlying24 (by kernel_rfl) (by omega) (by omega) (by omega)) rfl rfl rfl rfl) <|
           zc (@fun fl ax wx cx => cx.vg (cx.wy rfl rfl rfl rfl (cx.u 1 rfl)) (ldRgE hlt rfl (cx.u 0 rfl) (heap_below cx.S HR.out (Nat.le_refl _))) rfl rfl rfl rfl) <|
           zc (@fun fl ax wx cx => cx.vg (cx.wy rfl rfl rfl rfl (cx.u 2 rfl)) (ex_neI rfl (cx.u 0 rfl) (cx.u 1 rfl) HNE.out) rfl rfl rfl rfl) <|
           zc (@fun fl ax wx cx => cx.vg (wn rfl) (ex_pt rfl (cx.u 0 rfl) (cx.u 1 rfl)) rfl rfl rfl rfl) <|
          zn) ?_
          intro ax1 wx1 fx1
          have Bx1 : Below wr.heap.size wr wx1 := by obtain ⟨_, _, hs⟩ := fx1.s; exact hs
          have gx1_65 : ax1.tmps.getD 65 undef = .bool false := fx1.v 13 rfl rfl rfl
          have BX := Lib.hid Bx1
          clear Bx1
          rw [fx1.frame rfl rfl]
          clear fx1
          rw [show outs _ (fun d => ax1.tmps.getD d undef) = [(52, ax1.tmps.getD 52 undef), (53, ax1.tmps.getD 53 undef), (54, ax1.tmps.getD 54 undef), (55, ax1.tmps.getD 55 undef), (56, ax1.tmps.getD 56 undef), (57, ax1.tmps.getD 57 undef), (58, ax1.tmps.getD 58 undef), (59, ax1.tmps.getD 59 undef), (60, ax1.tmps.getD 60 undef), (61, ax1.tmps.getD 61 undef), (62, ax1.tmps.getD 62 undef), (63, ax1.tmps.getD 63 undef), (64, ax1.tmps.getD 64 undef), (65, ax1.tmps.getD 65 undef)] by kernel_rfl, gx1_65]
          simp only [putAll, List.setIfInBounds_toArray, List.set_cons_zero, List.set_cons_succ, Exit.then]
          generalize ax1.tmps.getD 52 undef = yx1_52
          generalize ax1.tmps.getD 53 undef = yx1_53
          generalize ax1.tmps.getD 54 undef = yx1_54
          generalize ax1.tmps.getD 55 undef = yx1_55
          generalize ax1.tmps.getD 56 undef = yx1_56
          generalize ax1.tmps.getD 57 undef = yx1_57
          generalize ax1.tmps.getD 58 undef = yx1_58
          generalize ax1.tmps.getD 59 undef = yx1_59
          generalize ax1.tmps.getD 60 undef = yx1_60
          generalize ax1.tmps.getD 61 undef = yx1_61
          generalize ax1.tmps.getD 62 undef = yx1_62
          generalize ax1.tmps.getD 63 undef = yx1_63
          generalize ax1.tmps.getD 64 undef = yx1_64
          clear gx1_65 ax1
          go_wp2_with fail
          go_roundw
          case rel => exact ⟨k + 1, by omega, by go_num, Lib.hid (KP.out.keep BX.out)⟩
          case measure => simp [intOf]; omega
        · have HBT := Lib.hid (show (sbI (regN 2 l : Nat) k == 0) = false by rw [bit_eq, hbit]; rfl)
          clear hbit
          go_wp2_with fail
          refine go_regz (belS wr) [] [] [some (.int .i64 ((regN 2 l : Nat) : Int)), some (.int .i64 (k : Int)), some (.int .i64 (((regN 2 l : Nat) : Int) / 2 ^ k)), some (.int .i64 (sbI (regN 2 l : Nat) k)), some (.bool false), some (.bool false), some (undef), some (undef), some (undef), some (undef), some (undef), some (undef), some (undef), some (.bool false)] mo (fun fl fl' u u' w hK hD h => h) rfl rfl (by kernel_rfl) (fun fl w1 hfl b _ => b) (
           zc (@fun fl ax wx cx => cx.vg (wn rfl) (ex_mv rfl (cx.rq 13 rfl)) rfl rfl rfl rfl) <|
           zc (@fun fl ax wx cx => cx.vg (wn rfl) (ex_mv rfl (cx.rq 15 rfl)) rfl rfl rfl rfl) <|
           zc (@fun fl ax wx cx => cx.vg (wn rfl) (ex_shrS rfl (cx.u 0 rfl) (cx.u 1 rfl) hlt) rfl rfl rfl rfl) <|
           zc (@fun fl ax wx cx => cx.vg (wn rfl) (ex_andS rfl (cx.u 0 rfl) rfl) rfl rfl rfl rfl) <|
           zc (@fun fl ax wx cx => cx.vg (wn rfl) (ex_eqS rfl (cx.u 0 rfl) rfl HBT.out) rfl rfl rfl rfl) <|
           zc (@fun fl ax wx cx => cx.vg (wn rfl) (ex_mv rfl (cx.u 0 rfl)) rfl rfl rfl rfl) <|
           zc (@fun fl ax wx cx => cx.ng (cx.wo rfl rfl rfl rfl (cx.u 0 rfl) rfl) rfl rfl rfl rfl) <|
           zc (@fun fl ax wx cx => cx.ng (cx.wo rfl rfl rfl rfl (cx.u 1 rfl) rfl) rfl rfl rfl rfl) <|
           zc (@fun fl ax wx cx => cx.ng (cx.wo rfl rfl rfl rfl (cx.u 1 rfl) rfl) rfl rfl rfl rfl) <|
           zc (@fun fl ax wx cx => cx.ng (cx.wo rfl rfl rfl rfl (cx.u 0 rfl) rfl) rfl rfl rfl rfl) <|
           zc (@fun fl ax wx cx => cx.ng (cx.wo rfl rfl rfl rfl (cx.u 1 rfl) rfl) rfl rfl rfl rfl) <|
           zc (@fun fl ax wx cx => cx.ng (cx.wo rfl rfl rfl rfl (cx.u 1 rfl) rfl) rfl rfl rfl rfl) <|
           zc (@fun fl ax wx cx => cx.ng (cx.wo rfl rfl rfl rfl (cx.u 2 rfl) rfl) rfl rfl rfl rfl) <|
           zc (@fun fl ax wx cx => cx.vg (wn rfl) (ex_pf rfl (cx.u 0 rfl) rfl) rfl rfl rfl rfl) <|
          zn) ?_
          intro ax2 wx2 fx2
          have Bx2 : Below wr.heap.size wr wx2 := by obtain ⟨_, _, hs⟩ := fx2.s; exact hs
          have gx2_65 : ax2.tmps.getD 65 undef = .bool false := fx2.v 13 rfl rfl rfl
          have BX := Lib.hid Bx2
          clear Bx2
          rw [fx2.frame rfl rfl]
          clear fx2
          rw [show outs _ (fun d => ax2.tmps.getD d undef) = [(52, ax2.tmps.getD 52 undef), (53, ax2.tmps.getD 53 undef), (54, ax2.tmps.getD 54 undef), (55, ax2.tmps.getD 55 undef), (56, ax2.tmps.getD 56 undef), (57, ax2.tmps.getD 57 undef), (58, ax2.tmps.getD 58 undef), (59, ax2.tmps.getD 59 undef), (60, ax2.tmps.getD 60 undef), (61, ax2.tmps.getD 61 undef), (62, ax2.tmps.getD 62 undef), (63, ax2.tmps.getD 63 undef), (64, ax2.tmps.getD 64 undef), (65, ax2.tmps.getD 65 undef)] by kernel_rfl, gx2_65]
          simp only [putAll, List.setIfInBounds_toArray, List.set_cons_zero, List.set_cons_succ, Exit.then]
          generalize ax2.tmps.getD 52 undef = yx2_52
          generalize ax2.tmps.getD 53 undef = yx2_53
          generalize ax2.tmps.getD 54 undef = yx2_54
          generalize ax2.tmps.getD 55 undef = yx2_55
          generalize ax2.tmps.getD 56 undef = yx2_56
          generalize ax2.tmps.getD 57 undef = yx2_57
          generalize ax2.tmps.getD 58 undef = yx2_58
          generalize ax2.tmps.getD 59 undef = yx2_59
          generalize ax2.tmps.getD 60 undef = yx2_60
          generalize ax2.tmps.getD 61 undef = yx2_61
          generalize ax2.tmps.getD 62 undef = yx2_62
          generalize ax2.tmps.getD 63 undef = yx2_63
          generalize ax2.tmps.getD 64 undef = yx2_64
          clear gx2_65 ax2
          go_wp2_with fail
          go_roundw
          case rel => exact ⟨k + 1, by omega, by go_num, Lib.hid (KP.out.keep BX.out)⟩
          case measure => simp [intOf]; omega
      · obtain rfl : k = 11 := by omega
        clear KA hkl hlt
        by_cases hr : 0 ≤ other ∧ other < 11
        case neg =>
          have B1 := Lib.hid KP.out.fb
          by_cases h0 : other < 0
          · have d1 : decide (other < 0) = true := by simpa using h0
            clear hr h0
            go_wp2_with fail
            refine (wakes_n _ (HT.out.below B1.out (Nat.le_refl _))).mono ?_
            rintro e w9 ⟨rfl, b9⟩
            have B9 := Lib.hid (below_call B1.out b9)
            clear b9
            go_wp2_with fail
            go_ret
            exact ⟨rfl, B9.out⟩
          · have d1 : decide (other < 0) = false := by simpa using h0
            have d2 : decide (11 ≤ other) = true := by simp; omega
            clear hr h0
            go_wp2_with fail
            refine (wakes_n _ (HT.out.below B1.out (Nat.le_refl _))).mono ?_
            rintro e w9 ⟨rfl, b9⟩
            have B9 := Lib.hid (below_call B1.out b9)
            clear b9
            go_wp2_with fail
            go_ret
            exact ⟨rfl, B9.out⟩
        case pos =>
          obtain ⟨ot, rfl⟩ := Int.eq_ofNat_of_zero_le hr.1
          have ho11 : ot < 11 := by omega
          have d1 : decide ((ot : Int) < 0) = false := by simp
          have d2 : decide (11 ≤ (ot : Int)) = false := by simp; omega
          have SH := fun (q : Nat) (w : World) => run_shr (q := q) (k := ot) (t := 3) ho11 w
          clear hr
          cases hbit : (regN 1 l).testBit ot
          case true =>
            have B1 := Lib.hid KP.out.fb
            have d3 : (bits .and .i64 ((regN 1 l : Nat) / 2 ^ ot : Int) 1 == 1) = true := by rw [bit_one, hbit]
            clear hbit
            go_wp2_with fail
            refine (wakes_n _ (HT.out.below B1.out (Nat.le_refl _))).mono ?_
            rintro e w9 ⟨rfl, b9⟩
            have B9 := Lib.hid (below_call B1.out b9)
            clear b9
            go_wp2_with fail
            go_ret
            exact ⟨rfl, B9.out⟩
          case false =>
            have d3 : (bits .and .i64 ((regN 1 l : Nat) / 2 ^ ot : Int) 1 == 1) = false := by rw [bit_one, hbit]
            obtain ⟨h', hh1, hh2⟩ := out_other (l := l) (g := g) (by rw [HQ1.out]) ot by_ hbit
            rw [HQ1.out] at hh1 hh2
            simp only at hh1 hh2
            have HH1 := Lib.hid hh1
            have HH2 := Lib.hid hh2
            have ne1 : gR ≠ gA := NE.out.1
            have ne2 : gR ≠ gM := NE.out.2
            clear hbit hh1 hh2
            go_wp2_with (with_reducible refine (halt_store 23 _ _ rfl ?_))
            refine ⟨?_, trivial⟩
            refine wpList_store_cell rfl 23 _ _ rfl gR ot (.int .u64 by_) rfl rfl rfl rfl _ _ KP.out.fr (by kernel_rfl) (by rw [rgC_size]; omega) ?_
            intro w6 s6
            have R6 := Lib.hid (show w6.heap[gR]? = some (.cells (rgC (setG g ot by_)) 24 (0, 0)) from (rgC_set g ho11 by_) ▸ s6.row)
            have A6 := Lib.hid (row_stay KP.out.fa s6 ne1.symm)
            have M6 := Lib.hid (row_stay KP.out.fm s6 ne2.symm)
            have B6 := Lib.hid (s6.below KP.out.fb (by rw [HR'.out]; exact Nat.le_refl _))
            clear s6 KP
            go_wp2_with (with_reducible refine (halt_load 24 _ rfl ?_))
            refine ⟨?_, trivial⟩
            refine wpList_load_row rfl 24 _ rfl _ rfl _ _ _ _ R6.out Tryz.underlying24 rfl (by kernel_rfl) ?_
            go_wp2_with fail
            refine (ido_n a len cap l (setG g ot by_) _ (HT.out.below B6.out (Nat.le_refl _)) (HL.out.below B6.out (Nat.le_refl _)) (by omega) (HG.out.set ot HBY.out)).mono ?_
            rintro e w32 ⟨rfl, b3⟩
            have AA_2 := Lib.hid (row_heap A6.out b3)
            have MM_2 := Lib.hid (row_heap M6.out b3)
            have BB2 := Lib.hid (below_call B6.out b3)
            clear b3
            rw [HH1.out]
            go_wp2_with (with_reducible refine (halt_store 24 _ _ rfl ?_))
            refine ⟨?_, trivial⟩
            refine wpList_store_is rfl 24 _ _ rfl w32.heap.size _ rfl rfl 24 _ ((heap_past _ _ _ (by rw [size_alloc]; omega)).trans (heap_last w32 _ _ rfl)) (by kernel_rfl) rfl (by kernel_rfl) ?_
            intro wg2 sg2
            have G2 := Lib.hid sg2.row
            have P2 := Lib.hid (show wg2.heap[w32.heap.size + 1]? = some (.cells (mcC zM) 30 (0, 0)) from (sg2.other _ (by omega)).trans (heap_last _ _ _ (by rw [size_alloc])))
            have C2 := Lib.hid (sg2.below (below_new (below_new (Below.refl w32.heap.size w32) _) _) (Nat.le_refl _))
            clear sg2
            go_wp2_with (with_reducible refine (halt_store 30 _ _ rfl ?_))
            refine ⟨?_, trivial⟩
            refine wpList_store_is rfl 30 _ _ rfl (w32.heap.size + 1) _ rfl rfl _ _ P2.out (by kernel_rfl) rfl (by kernel_rfl) ?_
            intro wm2 sm2
            have D2m := Lib.hid sm2.row
            have D2g := Lib.hid (row_stay G2.out sm2 (by omega))
            have D2b := Lib.hid (sm2.below C2.out (by omega))
            clear sm2 G2 P2 C2
            have AA2 := Lib.hid (row_heap AA_2.out D2b.out)
            have MM2 := Lib.hid (row_heap MM_2.out D2b.out)
            have B2 := Lib.hid (below_call BB2.out D2b.out)
            have EM := eq_mc qm
            have EA : (qa != qa) = false := by simp
            go_wp2_with (with_reducible refine (halt_load 30 _ rfl ?_))
            refine ⟨?_, trivial⟩
            refine Mrm.wpList_gload_row rfl 30 _ rfl _ rfl _ _ _ _ MM2.out Tryz.underlying30 rfl (by kernel_rfl) ?_
            go_wp2_with (with_reducible refine (halt_load 30 _ rfl ?_))
            refine ⟨?_, trivial⟩
            refine Mrm.wpList_gload_row rfl 30 _ rfl _ rfl _ _ _ _ D2m.out Tryz.underlying30 rfl (by kernel_rfl) ?_
            go_wp2_with fail
            obtain ⟨gB, hgB⟩ : ∃ x, x = w32.heap.size := ⟨_, rfl⟩
            have KB := Lib.hid (show Below W.heap.size W wm2 ∧ wm2.heap[gA]? = some (.cells (rgC qg) 24 (0, 0)) ∧ wm2.heap[gB]? = some (.cells (rgC h') 24 (0, 0)) by
              rw [hgB]
              exact ⟨B2.out, AA2.out, D2g.out⟩)
            rw [← hgB]
            clear hgB B2 AA2 D2g MM2 D2m D2b BB2 AA_2 MM_2 A6 M6 R6 B6
            go_loopw [104] (fun i wr => ∃ k : Nat, k ≤ 11 ∧ i = .int .i64 k ∧ Hid (Below W.heap.size W wr ∧ wr.heap[gA]? = some (.cells (rgC qg) 24 (0, 0)) ∧ wr.heap[gB]? = some (.cells (rgC h') 24 (0, 0)))) (fun i _ => 11 - (intOf i).toNat)
            case atStart => exact ⟨0, by omega, rfl, KB⟩
            case round =>
              obtain ⟨k, hkl, rfl, KP⟩ := hrel
              by_cases hlt : k < 11
              · have HA := Lib.hid KP.out.2.1
                have HB := Lib.hid KP.out.2.2
                by_cases hko : k = ot
                · have HBT := Lib.hid (show ((k : Int) != (ot : Int)) = false by rw [hko]; simp)
                  clear hko
                  go_wp2_with fail
                  refine go_regz (belS wr) [] [] [some (.int .i64 (k : Int)), some (.int .i64 (ot : Int)), some (.bool false), some (.bool false), some (undef), some (undef), some (undef), some (undef), some (undef), some (undef), some (undef), some (.bool false)] mo (fun fl fl' u u' w hK hD h => h) rfl rfl (by kernel_rfl) (fun fl w1 hfl b _ => b) (
                   zc (@fun fl ax wx cx => cx.vg (wn rfl) (ex_mv rfl (cx.rq 20 rfl)) rfl rfl rfl rfl) <|
                   zc (@fun fl ax wx cx => cx.vg (wn rfl) (ex_mv rfl (cx.rq 2 rfl)) rfl rfl rfl rfl) <|
                   zc (@fun fl ax wx cx => cx.vg (wn rfl) (ex_neI rfl (cx.u 0 rfl) (cx.u 1 rfl) HBT.out) rfl rfl rfl rfl) <|
                   zc (@fun fl ax wx cx => cx.vg (wn rfl) (ex_mv rfl (cx.u 0 rfl)) rfl rfl rfl rfl) <|
                   zc (@fun fl ax wx cx => cx.ng (cx.wo rfl rfl rfl rfl (cx.u 0 rfl) rfl) rfl rfl rfl rfl) <|
                   zc (@fun fl ax wx cx => cx.ng (cx.wo rfl rfl rfl rfl (cx.u 1 rfl) rfl) rfl rfl rfl rfl) <|
                   zc (@fun fl ax wx cx => cx.ng (cx.wo rfl rfl rfl rfl (cx.u 1 rfl) rfl) rfl rfl rfl rfl) <|
                   zc (@fun fl ax wx cx => cx.ng (cx.wo rfl rfl rfl rfl (cx.u 0 rfl) rfl) rfl rfl rfl rfl) <|
                   zc (@fun fl ax wx cx => cx.ng (cx.wo rfl rfl rfl rfl (cx.u 1 rfl) rfl) rfl rfl rfl rfl) <|
                   zc (@fun fl ax wx cx => cx.ng (cx.wo rfl rfl rfl rfl (cx.u 1 rfl) rfl) rfl rfl rfl rfl) <|
                   zc (@fun fl ax wx cx => cx.ng (cx.wo rfl rfl rfl rfl (cx.u 2 rfl) rfl) rfl rfl rfl rfl) <|
                   zc (@fun fl ax wx cx => cx.vg (wn rfl) (ex_pf rfl (cx.u 0 rfl) rfl) rfl rfl rfl rfl) <|
                  zn) ?_
                  intro ax3 wx3 fx3
                  have Bx3 : Below wr.heap.size wr wx3 := by obtain ⟨_, _, hs⟩ := fx3.s; exact hs
                  have gx3_118 : ax3.tmps.getD 118 undef = .bool false := fx3.v 11 rfl rfl rfl
                  have BX := Lib.hid Bx3
                  clear Bx3
                  rw [fx3.frame rfl rfl]
                  clear fx3
                  rw [show outs _ (fun d => ax3.tmps.getD d undef) = [(107, ax3.tmps.getD 107 undef), (108, ax3.tmps.getD 108 undef), (109, ax3.tmps.getD 109 undef), (110, ax3.tmps.getD 110 undef), (111, ax3.tmps.getD 111 undef), (112, ax3.tmps.getD 112 undef), (113, ax3.tmps.getD 113 undef), (114, ax3.tmps.getD 114 undef), (115, ax3.tmps.getD 115 undef), (116, ax3.tmps.getD 116 undef), (117, ax3.tmps.getD 117 undef), (118, ax3.tmps.getD 118 undef)] by kernel_rfl, gx3_118]
                  simp only [putAll, List.setIfInBounds_toArray, List.set_cons_zero, List.set_cons_succ, Exit.then]
                  generalize ax3.tmps.getD 107 undef = yx3_107
                  generalize ax3.tmps.getD 108 undef = yx3_108
                  generalize ax3.tmps.getD 109 undef = yx3_109
                  generalize ax3.tmps.getD 110 undef = yx3_110
                  generalize ax3.tmps.getD 111 undef = yx3_111
                  generalize ax3.tmps.getD 112 undef = yx3_112
                  generalize ax3.tmps.getD 113 undef = yx3_113
                  generalize ax3.tmps.getD 114 undef = yx3_114
                  generalize ax3.tmps.getD 115 undef = yx3_115
                  generalize ax3.tmps.getD 116 undef = yx3_116
                  generalize ax3.tmps.getD 117 undef = yx3_117
                  clear gx3_118 ax3
                  go_wp2_with fail
                  go_roundw
                  case rel => exact ⟨k + 1, by omega, by go_num, Lib.hid ⟨below_call KP.out.1 BX.out, row_heap HA.out BX.out, row_heap HB.out BX.out⟩⟩
                  case measure => simp [intOf]; omega
                · have HBT := Lib.hid (show ((k : Int) != (ot : Int)) = true by simp; omega)
                  have HNE := Lib.hid (show (qg k != h' k) = false by rw [HH2.out k hko]; simp)
                  clear hko
                  go_wp2_with fail
                  refine go_regz (belS wr) [] [] [some (.int .i64 (k : Int)), some (.int .i64 (ot : Int)), some (.bool true), some (.bool true), some (.int .i64 (k : Int)), some (.pointer (some ⟨gA, k, none⟩)), some (.int .u64 (qg k)), some (.int .i64 (k : Int)), some (.pointer (some ⟨gB, k, none⟩)), some (.int .u64 (h' k)), some (.bool false), some (.bool false)] mo (fun fl fl' u u' w hK hD h => h) rfl rfl (by kernel_rfl) (fun fl w1 hfl b _ => b) (
                   zc (@fun fl ax wx cx => cx.vg (wn rfl) (ex_mv rfl (cx.rq 20 rfl)) rfl rfl rfl rfl) <|
                   zc (@fun fl ax wx cx => cx.vg (wn rfl) (ex_mv rfl (cx.rq 2 rfl)) rfl rfl rfl rfl) <|
                   zc (@fun fl ax wx cx => cx.vg (wn rfl) (ex_neI rfl (cx.u 0 rfl) (cx.u 1 rfl) HBT.out) rfl rfl rfl rfl) <|
                   zc (@fun fl ax wx cx => cx.vg (wn rfl) (ex_mv rfl (cx.u 0 rfl)) rfl rfl rfl rfl) <|
                   zc (@fun fl ax wx cx => cx.vg (cx.wy rfl rfl rfl rfl (cx.u 0 rfl)) (ex_mv rfl (cx.rq 20 rfl)) rfl rfl rfl rfl) <|
                   zc (@fun fl ax wx cx => cx.vg (cx.wy rfl rfl rfl rfl (cx.u 1 rfl)) (ex_ia (n := 11) (sz := 1) (q := k) rfl (cx.rq 9 rfl) (cx.u 0 rfl) Tryz.underlying24 (by kernel_rfl) (by omega) (by omega) (by omega)) rfl rfl rfl rfl) <|
                   zc (@fun fl ax wx cx => cx.vg (cx.wy rfl rfl rfl rfl (cx.u 1 rfl)) (ldRgE hlt rfl (cx.u 0 rfl) (heap_below cx.S HA.out (Nat.le_refl _))) rfl rfl rfl rfl) <|
                   zc (@fun fl ax wx cx => cx.vg (cx.wy rfl rfl rfl rfl (cx.u 0 rfl)) (ex_mv rfl (cx.rq 20 rfl)) rfl rfl rfl rfl) <|
                   zc (@fun fl ax wx cx => cx.vg (cx.wy rfl rfl rfl rfl (cx.u 1 rfl)) (ex_ia (n := 11) (sz := 1) (q := k) rfl (cx.rq 16 rfl) (cx.u 0 rfl) Tryz.underlying24 (by kernel_rfl) (by omega) (by omega) (by omega)) rfl rfl rfl rfl) <|
                   zc (@fun fl ax wx cx => cx.vg (cx.wy rfl rfl rfl rfl (cx.u 1 rfl)) (ldRgE hlt rfl (cx.u 0 rfl) (heap_below cx.S HB.out (Nat.le_refl _))) rfl rfl rfl rfl) <|
                   zc (@fun fl ax wx cx => cx.vg (cx.wy rfl rfl rfl rfl (cx.u 2 rfl)) (ex_neI rfl (cx.u 0 rfl) (cx.u 1 rfl) HNE.out) rfl rfl rfl rfl) <|
                   zc (@fun fl ax wx cx => cx.vg (wn rfl) (ex_pt rfl (cx.u 0 rfl) (cx.u 1 rfl)) rfl rfl rfl rfl) <|
                  zn) ?_
                  intro ax4 wx4 fx4
                  have Bx4 : Below wr.heap.size wr wx4 := by obtain ⟨_, _, hs⟩ := fx4.s; exact hs
                  have gx4_118 : ax4.tmps.getD 118 undef = .bool false := fx4.v 11 rfl rfl rfl
                  have BX := Lib.hid Bx4
                  clear Bx4
                  rw [fx4.frame rfl rfl]
                  clear fx4
                  rw [show outs _ (fun d => ax4.tmps.getD d undef) = [(107, ax4.tmps.getD 107 undef), (108, ax4.tmps.getD 108 undef), (109, ax4.tmps.getD 109 undef), (110, ax4.tmps.getD 110 undef), (111, ax4.tmps.getD 111 undef), (112, ax4.tmps.getD 112 undef), (113, ax4.tmps.getD 113 undef), (114, ax4.tmps.getD 114 undef), (115, ax4.tmps.getD 115 undef), (116, ax4.tmps.getD 116 undef), (117, ax4.tmps.getD 117 undef), (118, ax4.tmps.getD 118 undef)] by kernel_rfl, gx4_118]
                  simp only [putAll, List.setIfInBounds_toArray, List.set_cons_zero, List.set_cons_succ, Exit.then]
                  generalize ax4.tmps.getD 107 undef = yx4_107
                  generalize ax4.tmps.getD 108 undef = yx4_108
                  generalize ax4.tmps.getD 109 undef = yx4_109
                  generalize ax4.tmps.getD 110 undef = yx4_110
                  generalize ax4.tmps.getD 111 undef = yx4_111
                  generalize ax4.tmps.getD 112 undef = yx4_112
                  generalize ax4.tmps.getD 113 undef = yx4_113
                  generalize ax4.tmps.getD 114 undef = yx4_114
                  generalize ax4.tmps.getD 115 undef = yx4_115
                  generalize ax4.tmps.getD 116 undef = yx4_116
                  generalize ax4.tmps.getD 117 undef = yx4_117
                  clear gx4_118 ax4
                  go_wp2_with fail
                  go_roundw
                  case rel => exact ⟨k + 1, by omega, by go_num, Lib.hid ⟨below_call KP.out.1 BX.out, row_heap HA.out BX.out, row_heap HB.out BX.out⟩⟩
                  case measure => simp [intOf]; omega
              · obtain rfl : k = 11 := by omega
                have B1 := Lib.hid KP.out.1
                go_wp2_with fail
                refine (wakes_n _ (HT.out.below B1.out (Nat.le_refl _))).mono ?_
                rintro e w9 ⟨rfl, b9⟩
                have B9 := Lib.hid (below_call B1.out b9)
                clear b9
                go_wp2_with fail
                go_ret
                exact ⟨rfl, B9.out⟩

theorem keeps_long (a : Option Addr) (len cap : Nat) (g : Nat → Int) (other by_ : Int) (W : World) (hT : Tb W) (h : ¬ len ≤ 100) :
    Calls Tryz.prog 4 #[.slice a len cap, .agg (rgC g), .int .i64 other, .int .u64 by_] W fun e w' => e = .returned (.bool true) ∧ Below W.heap.size W w' := by
  have HT := Lib.hid hT
  have B0 := Lib.hid (below_new (Below.refl W.heap.size W) (.cells (rgC g) 24))
  have g1 : decide ((100 : Int) < (len : Int)) = true := by simp; omega
  clear h hT
  go_enter Tryz.func4, Tryz.ntmps4
  go_wp2_with fail
  refine (wakes_n _ (HT.out.below B0.out (Nat.le_refl _))).mono ?_
  rintro e w9 ⟨rfl, b9⟩
  have B9 := Lib.hid (below_call B0.out b9)
  clear b9
  go_wp2_with fail
  go_ret
  exact ⟨rfl, B9.out⟩
theorem keeps_law (a : Option Addr) (len cap : Nat) (l : List Ii) (g : Nat → Int) (other by_ : Int) (W : World) (hL : Irs W a len cap l) (hg : GOk g) (h1 : (Lit.int .i64 other).wf = true) (h2 : (Lit.int .u64 by_).wf = true) (hT : Tb W) :
    Calls Tryz.prog 4 #[.slice a len cap, .agg (rgC g), .int .i64 other, .int .u64 by_] W fun e w' => e = .returned (.bool true) ∧ Below W.heap.size W w' := by
  by_cases h : len ≤ 100
  · exact keeps_main a len cap l g other by_ W hL hg (bd_i64 h1) (bd_u64 h2) hT h
  · exact keeps_long a len cap g other by_ W hT h
end Go.Proofs.YtbpehbeakhocnaaGreatDoor.Irn
