/-
  Several texts in one: IrBehindW.
-/
import Derived.Test.YtbpehbeakhocnaaGreatDoorIRm42
set_option linter.unusedVariables false
set_option linter.unusedSimpArgs false
set_option linter.unnecessarySimpa false
namespace Go.Proofs.YtbpehbeakhocnaaGreatDoor.Irn
open Go Go.RowKit
open Mrm (Xi xC xL zX eqX mayX readsX writesX XOk heap_below)
open Flg (Fl fC zF mayC holF)
open Exe
set_option linter.unusedVariables false
set_option linter.unusedSimpArgs false
set_option linter.unnecessarySimpa false
set_option maxRecDepth 100000


set_option maxHeartbeats 8000000 in
theorem behind_main (a : Option Addr) (len cap : Nat) (l : List Ii) (a2 : Option Addr) (len2 cap2 : Nat) (k : List Ii) (g : Nat → Int) (W : World) (hL : Irs W a len cap l) (hK : Irs W a2 len2 cap2 k) (hg : GOk g) (hT : Tb W) (l60 : len ≤ 60) (k60 : len2 ≤ 60) :
    Calls Tryz.prog 6 #[.slice a len cap, .slice a2 len2 cap2, .agg (rgC g)] W fun e w' => e = .returned (.bool true) ∧ Below W.heap.size W w' := by
  have HT := Lib.hid hT
  have HL := Lib.hid hL
  have HK := Lib.hid hK
  have HG := Lib.hid hg
  have e1 := hL.le
  have e2 := hL.fit
  have e3 := hK.le
  have e4 := hK.fit
  have S1 := Lib.hid hL.size
  have S2 := Lib.hid hK.size
  have b0 := below_new (Below.refl W.heap.size W) (.cells (rgC g) 24)
  have r0 : (W.alloc (.cells (rgC g) 24)).heap[W.heap.size]? = some (.cells (rgC g) 24 (0, 0)) := heap_last _ _ _ rfl
  have B0 := Lib.hid b0
  have R0 := Lib.hid r0
  have g1 : decide ((60 : Int) < (len : Int)) = false := by simp; omega
  have g2 : decide ((60 : Int) < (len2 : Int)) = false := by simp; omega
  clear hL hK hg hT b0 r0
  go_enter Tryz.func6, Tryz.ntmps6
  go_wp2_with fail
  refine (check_n a2 len2 cap2 k _ (HT.out.below B0.out (Nat.le_refl _)) (HK.out.below B0.out (Nat.le_refl _))).mono ?_
  rintro e w2 ⟨rfl, b2⟩
  have RG := Lib.hid (row_heap R0.out b2)
  have BA := Lib.hid (below_call B0.out b2)
  clear b2 R0 B0
  obtain ⟨qc, HQC⟩ : ∃ q, Hid (chkI k = q) := ⟨_, Lib.hid rfl⟩
  rw [HQC.out]
  go_wp2_with (with_reducible refine (halt_load 24 _ rfl ?_))
  refine ⟨?_, trivial⟩
  refine wpList_load_row rfl 24 _ rfl _ rfl _ _ _ _ RG.out Tryz.underlying24 rfl (by kernel_rfl) ?_
  go_wp2_with fail
  refine (ido_n a len cap l g _ (HT.out.below BA.out (Nat.le_refl _)) (HL.out.below BA.out (Nat.le_refl _)) (by omega) HG.out).mono ?_
  rintro e w31 ⟨rfl, b3⟩
  have RG_1 := Lib.hid (row_heap RG.out b3)
  have BB1 := Lib.hid (below_call BA.out b3)
  clear b3
  obtain ⟨q1, HQ1⟩ : ∃ q, Hid (outI l g = q) := ⟨_, Lib.hid rfl⟩
  rw [HQ1.out]
  obtain ⟨⟨qg, qm⟩, qa, qe⟩ := q1
  obtain ⟨qc1, qc2⟩ := qc
  simp only
  go_wp2_with (with_reducible refine (halt_store 24 _ _ rfl ?_))
  refine ⟨?_, trivial⟩
  refine wpList_store_is rfl 24 _ _ rfl w31.heap.size _ rfl rfl 24 _ ((heap_past _ _ _ (by rw [size_alloc]; omega)).trans (heap_last w31 _ _ rfl)) (by kernel_rfl) rfl (by kernel_rfl) ?_
  intro wg1 sg1
  have G1 := Lib.hid sg1.row
  have P1 := Lib.hid (show wg1.heap[w31.heap.size + 1]? = some (.cells (mcC zM) 30 (0, 0)) from (sg1.other _ (by omega)).trans (heap_last _ _ _ (by rw [size_alloc])))
  have C1 := Lib.hid (sg1.below (below_new (below_new (Below.refl w31.heap.size w31) _) _) (Nat.le_refl _))
  clear sg1
  go_wp2_with (with_reducible refine (halt_store 30 _ _ rfl ?_))
  refine ⟨?_, trivial⟩
  refine wpList_store_is rfl 30 _ _ rfl (w31.heap.size + 1) _ rfl rfl _ _ P1.out (by kernel_rfl) rfl (by kernel_rfl) ?_
  intro wm1 sm1
  have D1m := Lib.hid sm1.row
  have D1g := Lib.hid (row_stay G1.out sm1 (by omega))
  have D1b := Lib.hid (sm1.below C1.out (by omega))
  clear sm1 G1 P1 C1
  have RG1 := Lib.hid (row_heap RG_1.out D1b.out)
  have B1 := Lib.hid (below_call BB1.out D1b.out)
  by_cases hc : qc2 = 0
  · by_cases hq : qe = 0
    · subst hc hq
      have EQ := Lib.hid (show outI ((l ++ [exI]) ++ k) g = ((qg, qm), qa, 0) from (out_behind (by rw [HQC.out]) (by rw [HQ1.out])).trans HQ1.out)
      go_wp2_with (at_builtin; refine wpList_append_i rfl _ _ rfl W.heap.size _ [] rfl (own_empty B1.out.size (heap_last _ _ _ rfl)) a len cap l rfl (HL.out.below (below_new B1.out _) (Nat.le_refl _)) (by show 0 + len ≤ 100000; omega) (below_new B1.out _).size ?_)
      intro v1 w5 o1 p1
      have o0 : OwnI W.heap.size (wm1.alloc (.cells #[] 40)) (.slice (some ⟨wm1.heap.size, 0, none⟩) 0 0) [] := own_empty B1.out.size (heap_last _ _ _ rfl)
      have RG5 := Lib.hid (row_app ((heap_past _ _ _ (Array.getElem?_eq_some_iff.1 RG1.out).1).trans RG1.out) o0 p1 (by decide))
      have DG5 := Lib.hid (row_app ((heap_past _ _ _ (Array.getElem?_eq_some_iff.1 D1g.out).1).trans D1g.out) o0 p1 (by decide))
      have DM5 := Lib.hid (row_app ((heap_past _ _ _ (Array.getElem?_eq_some_iff.1 D1m.out).1).trans D1m.out) o0 p1 (by decide))
      have B5 := Lib.hid (below_app (below_new B1.out _) o0 p1 (below_new B1.out _).size)
      have O5 := Lib.hid (show OwnI W.heap.size w5 v1 l from o1)
      clear o0 o1 p1 RG1 D1g D1m B1 D1b BB1 RG_1
      have OX := Lib.hid (O5.out.keep (below_new (Below.refl w5.heap.size w5) (.cells (iC exI) 40)))
      go_wp2_with (at_builtin; refine wpList_append_i rfl _ _ rfl W.heap.size v1 l rfl OX.out (some ⟨w5.heap.size, 0, none⟩) 1 1 [exI] rfl (irs_one (heap_last _ _ _ rfl) ex_ok) (by rw [S1.out]; omega) (below_new B5.out _).size ?_)
      intro v2 w6 o2 p2
      have RG6 := Lib.hid (row_app ((heap_past _ _ _ (Array.getElem?_eq_some_iff.1 RG5.out).1).trans RG5.out) OX.out p2 (by decide))
      have DG6 := Lib.hid (row_app ((heap_past _ _ _ (Array.getElem?_eq_some_iff.1 DG5.out).1).trans DG5.out) OX.out p2 (by decide))
      have DM6 := Lib.hid (row_app ((heap_past _ _ _ (Array.getElem?_eq_some_iff.1 DM5.out).1).trans DM5.out) OX.out p2 (by decide))
      have B6 := Lib.hid (below_app (below_new B5.out _) OX.out p2 (below_new B5.out _).size)
      obtain ⟨lx, hlx⟩ : ∃ x, x = l ++ [exI] := ⟨_, rfl⟩
      have O6 := Lib.hid (show OwnI W.heap.size w6 v2 lx from hlx ▸ o2)
      have NX := Lib.hid (show lx.length = len + 1 by rw [hlx, List.length_append, S1.out]; rfl)
      have HLX := Lib.hid hlx
      clear hlx o2 p2 RG5 DG5 DM5 B5 O5 OX
      go_wp2_with (at_builtin; refine wpList_append_i rfl _ _ rfl W.heap.size v2 lx rfl O6.out a2 len2 cap2 k rfl (HK.out.below B6.out (Nat.le_refl _)) (by rw [NX.out]; omega) B6.out.size ?_)
      intro v3 w7 o3 p3
      have RG7 := Lib.hid (row_app RG6.out O6.out p3 (by decide))
      have DG7 := Lib.hid (row_app DG6.out O6.out p3 (by decide))
      have DM7 := Lib.hid (row_app DM6.out O6.out p3 (by decide))
      have B7 := Lib.hid (below_app B6.out O6.out p3 B6.out.size)
      obtain ⟨la, hla⟩ : ∃ x, x = lx ++ k := ⟨_, rfl⟩
      have NA := Lib.hid (show la.length = len + 1 + len2 by rw [hla, List.length_append, NX.out, S2.out])
      obtain ⟨a3, c3, rfl, i3⟩ := (show OwnI W.heap.size w7 v3 la from hla ▸ o3).irs (fun x hx => by
        rw [hla, HLX.out] at hx
        rcases List.mem_append.1 hx with h | h
        · rcases List.mem_append.1 h with h | h
          · exact HL.out.ok x h
          · rw [List.mem_singleton.1 h]; exact ex_ok
        · exact HK.out.ok x h)
      rw [← HLX.out, ← hla] at EQ
      have HLA := Lib.hid hla
      have I3 := Lib.hid i3
      clear o3 p3 i3 hla RG6 DG6 DM6 B6 O6
      go_wp2_with (with_reducible refine (halt_load 24 _ rfl ?_))
      refine ⟨?_, trivial⟩
      refine wpList_load_row rfl 24 _ rfl _ rfl _ _ _ _ RG7.out Tryz.underlying24 rfl (by kernel_rfl) ?_
      go_wp2_with fail
      refine (ido_n a3 _ c3 la g _ (HT.out.below B7.out (Nat.le_refl _)) I3.out (by rw [NA.out]; omega) HG.out).mono ?_
      rintro e w32 ⟨rfl, b3⟩
      have RG_2 := Lib.hid (row_heap RG7.out b3)
      have DG_2 := Lib.hid (row_heap DG7.out b3)
      have DM_2 := Lib.hid (row_heap DM7.out b3)
      have BB2 := Lib.hid (below_call B7.out b3)
      clear b3
      rw [EQ.out]
      go_wp2_with (with_reducible refine (halt_store 24 _ _ rfl ?_))
      refine ⟨?_, trivial⟩
      refine wpList_store_is rfl 24 _ _ rfl w32.heap.size _ rfl rfl 24 _ ((heap_past _ _ _ (by rw [size_alloc]; omega)).trans (heap_last w32 _ _ rfl)) (by kernel_rfl) rfl (by kernel_rfl) ?_
      intro wg2 sg2
      have G2 := Lib.hid sg2.row
      have P2 := Lib.hid (show wg2.heap[w32.heap.size + 1]? = some (.cells (mcC zM) 30 (0, 0)) from (sg2.other _ (by omega)).trans (heap_last _ _ _ (by rw [size_alloc])))
      have C2 := Lib.hid (sg2.below (below_new (below_new (Below.refl w32.heap.size w32) _) _) (Nat.le_refl _))
      clear sg2
      go_wp2_with (with_reducible refine (halt_store 30 _ _ rfl ?_))
      refine ⟨?_, trivial⟩
      refine wpList_store_is rfl 30 _ _ rfl (w32.heap.size + 1) _ rfl rfl _ _ P2.out (by kernel_rfl) rfl (by kernel_rfl) ?_
      intro wm2 sm2
      have D2m := Lib.hid sm2.row
      have D2g := Lib.hid (row_stay G2.out sm2 (by omega))
      have D2b := Lib.hid (sm2.below C2.out (by omega))
      clear sm2 G2 P2 C2
      have RG2 := Lib.hid (row_heap RG_2.out D2b.out)
      have DG2 := Lib.hid (row_heap DG_2.out D2b.out)
      have DM2 := Lib.hid (row_heap DM_2.out D2b.out)
      have B2 := Lib.hid (below_call BB2.out D2b.out)
      have EG := eq_rg11 qg
      have EM := eq_mc qm
      have EA : (qa == qa) = true := beq_self_eq_true qa
      go_wp2_with (with_reducible refine (halt_load 24 _ rfl ?_))
      refine ⟨?_, trivial⟩
      refine Mrm.wpList_gload_row rfl 24 _ rfl _ rfl _ _ _ _ DG2.out Tryz.underlying24 rfl (by kernel_rfl) ?_
      go_wp2_with (with_reducible refine (halt_load 24 _ rfl ?_))
      refine ⟨?_, trivial⟩
      refine Mrm.wpList_gload_row rfl 24 _ rfl _ rfl _ _ _ _ D2g.out Tryz.underlying24 rfl (by kernel_rfl) ?_
      go_wp2_with (with_reducible refine (halt_load 30 _ rfl ?_))
      refine ⟨?_, trivial⟩
      refine Mrm.wpList_gload_row rfl 30 _ rfl _ rfl _ _ _ _ DM2.out Tryz.underlying30 rfl (by kernel_rfl) ?_
      go_wp2_with (with_reducible refine (halt_load 30 _ rfl ?_))
      refine ⟨?_, trivial⟩
      refine Mrm.wpList_gload_row rfl 30 _ rfl _ rfl _ _ _ _ D2m.out Tryz.underlying30 rfl (by kernel_rfl) ?_
      go_wp2_with fail
      refine (wakes_n _ (HT.out.below B2.out (Nat.le_refl _))).mono ?_
      rintro e w9 ⟨rfl, b9⟩
      have B9 := Lib.hid (below_call B2.out b9)
      clear b9
      go_wp2_with fail
      go_ret
      exact ⟨rfl, B9.out⟩
    · have e0 : (qe != 0) = true := by simpa using hq
      subst hc
      clear hq
      go_wp2_with fail
      refine (wakes_n _ (HT.out.below B1.out (Nat.le_refl _))).mono ?_
      rintro e w9 ⟨rfl, b9⟩
      have B9 := Lib.hid (below_call B1.out b9)
      clear b9
      go_wp2_with fail
      go_ret
      exact ⟨rfl, B9.out⟩
  · have e0 : (qc2 != 0) = true := by simpa using hc
    clear hc
    go_wp2_with fail
    refine (wakes_n _ (HT.out.below B1.out (Nat.le_refl _))).mono ?_
    rintro e w9 ⟨rfl, b9⟩
    have B9 := Lib.hid (below_call B1.out b9)
    clear b9
    go_wp2_with fail
    go_ret
    exact ⟨rfl, B9.out⟩

theorem behind_long (a : Option Addr) (len cap : Nat) (a2 : Option Addr) (len2 cap2 : Nat) (g : Nat → Int) (W : World) (hT : Tb W) (h : ¬ (len ≤ 60 ∧ len2 ≤ 60)) :
    Calls Tryz.prog 6 #[.slice a len cap, .slice a2 len2 cap2, .agg (rgC g)] W fun e w' => e = .returned (.bool true) ∧ Below W.heap.size W w' := by
  have HT := Lib.hid hT
  have B0 := Lib.hid (below_new (Below.refl W.heap.size W) (.cells (rgC g) 24))
  by_cases hl : len ≤ 60
  · have g1 : decide ((60 : Int) < (len : Int)) = false := by simp; omega
    have g2 : decide ((60 : Int) < (len2 : Int)) = true := by simp; omega
    clear h hT
    go_enter Tryz.func6, Tryz.ntmps6
    go_wp2_with fail
    refine (wakes_n _ (HT.out.below B0.out (Nat.le_refl _))).mono ?_
    rintro e w9 ⟨rfl, b9⟩
    have B9 := Lib.hid (below_call B0.out b9)
    clear b9
    go_wp2_with fail
    go_ret
    exact ⟨rfl, B9.out⟩
  · have g1 : decide ((60 : Int) < (len : Int)) = true := by simp; omega
    clear h hT
    go_enter Tryz.func6, Tryz.ntmps6
    go_wp2_with fail
    refine (wakes_n _ (HT.out.below B0.out (Nat.le_refl _))).mono ?_
    rintro e w9 ⟨rfl, b9⟩
    have B9 := Lib.hid (below_call B0.out b9)
    clear b9
    go_wp2_with fail
    go_ret
    exact ⟨rfl, B9.out⟩
theorem behind_law (a : Option Addr) (len cap : Nat) (l : List Ii) (a2 : Option Addr) (len2 cap2 : Nat) (k : List Ii) (g : Nat → Int) (W : World) (hL : Irs W a len cap l) (hK : Irs W a2 len2 cap2 k) (hg : GOk g) (hT : Tb W) :
    Calls Tryz.prog 6 #[.slice a len cap, .slice a2 len2 cap2, .agg (rgC g)] W fun e w' => e = .returned (.bool true) ∧ Below W.heap.size W w' := by
  by_cases h : len ≤ 60 ∧ len2 ≤ 60
  · exact behind_main a len cap l a2 len2 cap2 k g W hL hK hg hT h.1 h.2
  · exact behind_long a len cap a2 len2 cap2 g W hT h
end Go.Proofs.YtbpehbeakhocnaaGreatDoor.Irn
