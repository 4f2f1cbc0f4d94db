/-
  The walk of the law BlocksReach.
-/
import Derived.Test.YtbpefomjmjkciaaBlkT
import Derived.Test.YtbpefomjmjkciaaBlkU
import Derived.Test.YtbpefomjmjkciaaBlkW
namespace Go.Proofs.Ytbpefomjmjkciaa.Blk
open Go.RowKit Go.Maps Go.Sort Ins
set_option linter.unusedVariables false
set_option maxRecDepth 100000

set_option maxHeartbeats 8000000 in
theorem blocksReach_walk (a : Option Addr) (n c : Nat) (bs : List Bk) (W : World) (h : Blks W a n c bs) :
    Calls Try.prog 6 #[.slice a n c] W fun e w' => e = .returned (.bool true) ∧ Below W.heap.size W w' := by
  have l1 := h.le
  have f1 := h.fit
  have GR := Lib.hid (r_great a n c bs W h)
  have MY := Lib.hid (fun w b => r_may a n c bs w (h.below (w := w) b))
  have RE := Lib.hid (fun hm h0 w b => reach_yes a n c bs w (h.below (w := w) b) hm h0)
  have S := Lib.hid h.size
  have H := Lib.hid (fun w b => Blks.below (w := w) h b)
  clear h
  go_enter Try.func6, Try.ntmps6
  go_wp2_with fail
  refine GR.out.mono ?_
  rintro e w1 ⟨g, h1⟩
  obtain ⟨rfl, b1⟩ := h1.below
  have B1 := Lib.hid b1
  clear b1 h1 GR
  cases g
  case true =>
    go_wp2_with fail
    refine (wakes_any _).mono ?_
    rintro e w2 ⟨rfl, b2⟩
    go_wp2_with fail
    go_ret
    exact ⟨rfl, below_call B1.out b2⟩
  go_wp2_with fail
  refine (MY.out _ B1.out).mono ?_
  rintro e w2 h2
  obtain ⟨rfl, b2⟩ := h2.below
  have B2 := Lib.hid (below_call B1.out b2)
  clear h2 b2 B1 MY
  cases hm : mayL bs
  case false =>
    clear hm
    go_wp2_with fail
    refine (wakes_any _).mono ?_
    rintro e w3 ⟨rfl, b3⟩
    go_wp2_with fail
    go_ret
    exact ⟨rfl, below_call B2.out b3⟩
  by_cases h0 : n = 0
  · subst h0
    clear hm
    go_wp2_with fail
    refine (wakes_any _).mono ?_
    rintro e w3 ⟨rfl, b3⟩
    go_wp2_with fail
    go_ret
    exact ⟨rfl, below_call B2.out b3⟩
  have e0 : ((n : Int) == 0) = false := by simpa using (by omega : ¬ (n : Int) = 0)
  go_wp2_with fail
  refine (RE.out hm (by omega) _ B2.out).mono ?_
  rintro e w3 ⟨g, cp, f, rfl, o3, K3, M3, b3⟩
  have B3 := Lib.hid (below_call B2.out b3)
  have hcp : n ≤ cp := by
    rcases o3.2 with ⟨e, _⟩ | ⟨_, _, _, e, _, _, h4, _⟩
    · cases e
    · injection e with _ _ e; subst e; exact h4
  have hcq : cp ≤ 9223372036854775807 := by
    rcases o3.2 with ⟨e, _⟩ | ⟨_, _, _, e, _, _, _, h4, _⟩
    · cases e
    · injection e with _ _ e; subst e; unfold maxLen at h4; omega
  have HM := Lib.hid hm
  have BF := Lib.hid (show ∀ b, befF bs b = befL bs b n from fun b => by unfold befF; rw [HM.out, S.out]; rfl)
  have MZ := Lib.hid (show ∀ (k : Nat) (x : Bk), bs[k]? = some x → ∀ (j : Nat) (z : Int), x.next[j]? = some z → 0 ≤ z ∧ z < n from fun k x hx j z hz => by
    have h1 := mayL_all HM.out hx
    unfold mayB at h1
    rw [Bool.and_eq_true, List.all_eq_true] at h1
    have h2 := of_decide_eq_true (h1.2 z (List.mem_of_getElem? hz))
    have := S.out
    omega)
  have CL := Lib.hid (fun x y (h1 : f x = true) (h2 : Succ bs x y) => K3.closed x y h1 rfl h2)
  have SA := Lib.hid (fun x (hx : f x = true) => K3.some_ahead M3 S.out.symm hx)
  have M3 := Lib.hid M3
  have XB := Lib.hid (show ∀ w, Below w3.heap.size w3 w → Blks w a n c bs from fun w b => H.out w (below_call B3.out b))
  have XS := Lib.hid (show ∀ w, Below w3.heap.size w3 w → ∀ i, i < n → w.cell? ⟨g, i, none⟩ = some (.bool (f i)) from fun w b i hi => by
    rw [(own_below o3 b).cellAt i (by omega), marks_get f hi])
  have XW := Lib.hid (show ∀ w, Below w3.heap.size w3 w → Below W.heap.size W w from fun w b => below_call B3.out b)
  have s0 := (XS.out w3 (Below.refl _ _) 0 (by omega))
  rw [M3.out] at s0
  have YS := Lib.hid (Below.refl w3.heap.size w3)
  clear hm RE H K3 o3 b3 B3 B2
  generalize hG : w3.heap.size = G at *
  have HG := Lib.hid hG
  clear hG
  have XG := Lib.hid (show ∀ w, Below G w3 w → G ≤ w.heap.size from fun w b => by have := b.size; rw [HG.out] at this; exact this)
  go_wp2_with fail
  clear s0
  go_loopw [4] (fun i wr => ∃ k : Nat, k ≤ n ∧ i = .int .i64 k ∧ Hid (Below G w3 wr)) (fun i _ => n - (intOf i).toNat)
  case atStart => exact ⟨0, by omega, rfl, YS⟩
  case round =>
    clear YS
    obtain ⟨k, hk, rfl, Y⟩ := hrel
    by_cases hlt : k < n
    · have BE := Lib.hid (before_any a n c bs (k : Int) wr (XB.out wr Y.out))
      rw [BF.out] at BE
      go_wp2_with fail
      refine BE.out.mono ?_
      rintro e w4 ⟨av, cv, rfl, i4, b4⟩
      have Y4 := Lib.hid (Y.out.trans (b4.mono (XG.out _ Y.out)))
      have I4 := Lib.hid i4
      have hl4 := i4.le
      have hf4 := i4.fit
      clear BE b4 i4 Y
      have ML := Lib.hid (fun z (hz : z ∈ befL bs (k : Int) n) => befL_mem hz)
      have MN := Lib.hid (fun i z y h1 h2 => befL_next (bs := bs) (b := (k : Int)) (k := n) (i := i) (z := z) (y := y) h1 h2)
      have SK := Lib.hid (SA.out k)
      generalize befL bs (k : Int) n = zs at *
      go_wp2_with fail
      go_loopw [6, 7] (fun s i wr => ∃ (j : Nat) (sb : Bool), j ≤ zs.length ∧ i = .int .i64 j ∧ s = .bool sb ∧ Hid (sb = (decide ((k : Int) = 0) || anyT (fun z => f z.toNat) zs j)) ∧ ∃ nd, w4.drewN nd = wr) (fun _ i _ => zs.length - (intOf i).toNat)
      case atStart => exact ⟨0, _, by omega, rfl, rfl, Lib.hid (by rw [anyT_zero, Bool.or_false]; rfl), 0, rfl⟩
      case round =>
        obtain ⟨j, sb, hj, rfl, rfl, SB, nd, rfl⟩ := hrel
        by_cases hjl : j < zs.length
        · obtain ⟨ba, oa, rfl, hc⟩ := I4.out.here (by omega)
          obtain ⟨z, hz⟩ : ∃ z, zs[j]? = some z := ⟨_, List.getElem?_eq_getElem hjl⟩
          obtain ⟨y, hyn, rfl, _⟩ := ML.out z (List.mem_of_getElem? hz)
          have cz := hc j _ hz
          have cy := XS.out w4 Y4.out y hyn
          have SB2 := Lib.hid (show (sb || f y) = (decide ((k : Int) = 0) || anyT (fun z => f z.toNat) zs (j + 1)) by
            rw [anyT_succ hz, SB.out, Bool.or_assoc]; simp)
          have z1 : decide ((y : Int) < 0) = false := decide_eq_false (by omega)
          have z2 : decide (n ≤ y) = false := decide_eq_false (by omega)
          have z3 : (0 : Int) ≤ (y : Int) := by omega
          have z4 : (y : Int) < (n : Int) := by omega
          have HZ := Lib.hid hz
          have HC := Lib.hid hc
          cases j with
          | zero =>
            clear hc hz ML MN
            rw [Nat.add_zero] at cz
            go_wp2_with fail
            go_big_quiet (fail)
            cases sb
            all_goals
              go_wp2_with fail
              go_roundw
              case rel => exact ⟨0 + 1, _, by omega, by go_num, rfl, SB2, nd + nq, by simp⟩
              case measure => simp [intOf]; omega
          | succ j =>
            obtain ⟨v, hv⟩ : ∃ v, zs[j]? = some v := ⟨_, List.getElem?_eq_getElem (by omega)⟩
            have cv := hc j _ hv
            have hvz := MN.out j v _ hv hz
            have v1 : decide ((y : Int) ≤ v) = false := decide_eq_false (Int.not_le.2 hvz)
            have v2 : v < (y : Int) := hvz
            clear hc hz hv hvz ML MN
            have w2 : ((j + 1 : Nat) : Int) - 1 = (j : Int) := by omega
            go_wp2_with fail
            go_big_quiet (fail)
            cases sb
            all_goals
              go_wp2_with fail
              go_roundw
              case rel => exact ⟨j + 1 + 1, _, by omega, by go_num, rfl, SB2, nd + nq, by simp⟩
              case measure => simp [intOf]; omega
        · obtain rfl : j = zs.length := by omega
          have SK2 := Lib.hid (show f k = true → sb = true from fun h => by rw [SB.out]; exact SK.out h)
          have ck := XS.out w4 Y4.out k hlt
          obtain ⟨bb, ob, rfl, gb⟩ := (XB.out w4 Y4.out).here (by omega)
          obtain ⟨x, hx⟩ : ∃ x, bs[k]? = some x := ⟨_, List.getElem?_eq_getElem (by have := S.out; omega)⟩
          obtain ⟨na, nc, q1, i1⟩ := gb k x hx
          obtain ⟨x0, x1, x2⟩ := blk_cells q1
          have HX := Lib.hid hx
          have IX := Lib.hid i1
          have hnl := i1.le
          have hnf := i1.fit
          have MK := Lib.hid (MZ.out k x hx)
          clear hx gb q1 i1 x0 x1 SB I4 SK ML MN
          have hd : f k = false ∨ (f k = true ∧ sb = true) := by
            cases hfk : f k
            · exact .inl rfl
            · exact .inr ⟨rfl, SK2.out hfk⟩
          clear SK2
          generalize hfk : f k = fk at *
          have FK := Lib.hid hfk
          clear hfk
          rcases hd with rfl | ⟨rfl, rfl⟩
          all_goals
            go_wp2_with fail
            go_loopw [8] (fun i wr => ∃ j : Nat, j ≤ x.next.length ∧ i = .int .i64 j ∧ Hid (Below G w3 wr)) (fun i _ => x.next.length - (intOf i).toNat)
            case atStart => exact ⟨0, by omega, rfl, Lib.hid (below_drewN Y4.out nd)⟩
            case round =>
              clear ck x2 IX hnl hnf
              obtain ⟨j, hj, rfl, Y5⟩ := hrel
              obtain ⟨_, _, e0, gb⟩ := (XB.out wr Y5.out).here (by omega)
              injection e0 with e0
              injection e0 with e1 e2
              subst e1 e2
              obtain ⟨na5, nc5, q1, i1⟩ := gb k x HX.out
              obtain ⟨_, _, x2⟩ := blk_cells q1
              have hnl := i1.le
              have hnf := i1.fit
              by_cases hjl : j < x.next.length
              · obtain ⟨bn, on, rfl, hc⟩ := i1.here (by omega)
                obtain ⟨z, hz⟩ : ∃ z, x.next[j]? = some z := ⟨_, List.getElem?_eq_getElem hjl⟩
                have hzz := MK.out j z hz
                obtain ⟨y, rfl⟩ : ∃ y : Nat, z = (y : Int) := ⟨z.toNat, by omega⟩
                have cz := hc j _ hz
                have BE := Lib.hid (before_any _ n c bs (y : Int) wr (XB.out wr Y5.out))
                rw [BF.out] at BE
                have SB := Lib.hid (some_back S.out.symm HX.out (List.mem_of_getElem? hz))
                have SY := Lib.hid (show Succ bs k y from ⟨x, HX.out, List.mem_of_getElem? hz⟩)
                have hyn : y < n := by omega
                clear gb q1 i1 hc hz hzz
                go_wp2_with fail
                refine BE.out.mono ?_
                rintro e w6 ⟨av6, cv6, rfl, i6, b6⟩
                have Y6 := Lib.hid (Y5.out.trans (b6.mono (XG.out _ Y5.out)))
                have I6 := Lib.hid i6
                have hl6 := i6.le
                have hf6 := i6.fit
                clear BE b6 i6 Y5 x2 cz
                generalize befL bs (y : Int) n = vs at *
                go_wp2_with fail
                go_loopw [10, 12] (fun s i wx => ∃ (t : Nat) (tb : Bool), t ≤ vs.length ∧ i = .int .i64 t ∧ s = .bool tb ∧ Hid (tb = anyT (fun v => v == (k : Int)) vs t) ∧ ∃ nd, w6.drewN nd = wx) (fun _ i _ => vs.length - (intOf i).toNat)
                case atStart => exact ⟨0, _, by omega, rfl, rfl, Lib.hid (by rw [anyT_zero]), 0, rfl⟩
                case round =>
                  obtain ⟨t, tb, ht, rfl, rfl, TB, md, rfl⟩ := hrel
                  by_cases htl : t < vs.length
                  · obtain ⟨bv, ov, rfl, hc⟩ := I6.out.here (by omega)
                    obtain ⟨v, hv⟩ : ∃ v, vs[t]? = some v := ⟨_, List.getElem?_eq_getElem htl⟩
                    have cv := hc t _ hv
                    have TB2 := Lib.hid (show (tb || (v == (k : Int))) = anyT (fun v => v == (k : Int)) vs (t + 1) by rw [anyT_succ hv, TB.out])
                    clear hc hv TB
                    cases tb
                    all_goals
                      go_wp2_with fail
                      go_roundw
                      case rel => exact ⟨t + 1, _, by omega, by go_num, rfl, TB2, md, by simp⟩
                      case measure => simp [intOf]; omega
                  · obtain rfl : t = vs.length := by omega
                    obtain rfl : tb = true := by rw [TB.out]; exact SB.out
                    have ck6 := XS.out w6 Y6.out k hlt
                    rw [FK.out] at ck6
                    have cy6 := XS.out w6 Y6.out y hyn
                    first | (have hy1 := CL.out k y FK.out SY.out; rw [hy1] at cy6; clear hy1) | skip
                    clear TB SB I6
                    go_wp2_with fail
                    go_roundw
                    case rel => exact ⟨j + 1, by omega, by go_num, Lib.hid (below_drewN Y6.out md)⟩
                    case measure => simp [intOf]; omega
              · obtain rfl : j = x.next.length := by omega
                clear gb q1 i1
                go_wp2_with fail
                go_roundw
                case rel => exact ⟨k + 1, by omega, by go_num, Y5⟩
                case measure => simp [intOf]; omega
    · obtain rfl : k = n := by omega
      go_wp2_with fail
      refine (wakes_any _).mono ?_
      rintro e w5 ⟨rfl, b5⟩
      go_wp2_with fail
      go_ret
      exact ⟨rfl, below_call (XW.out _ Y.out) b5⟩
end Go.Proofs.Ytbpefomjmjkciaa.Blk
