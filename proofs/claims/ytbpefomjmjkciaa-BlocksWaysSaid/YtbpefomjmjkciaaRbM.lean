/-
  The document's answer latheref04: Before.
-/
import Derived.Test.YtbpefomjmjkciaaBlkQ
import Derived.Test.YtbpefomjmjkciaaRbG
namespace Go.Proofs.Ytbpefomjmjkciaa.Blk
open Go.RowKit Go.Maps Go.Sort Ins
set_option linter.unusedVariables false
set_option maxRecDepth 100000

set_option maxHeartbeats 4000000 in
theorem r_before (a : Option Addr) (n c : Nat) (bs : List Bk) (b : Int) (W : World) (h : Blks W a n c bs) :
    Calls Try.prog 31 #[.slice a n c, .int .i64 b] W (IntsOut (befF bs b) W) := by
  have M := Lib.hid (r_may a n c bs W h)
  have l1 := h.le
  have f1 := h.fit
  have S := Lib.hid h.size
  have H := Lib.hid (fun w b => Blks.below (w := w) h b)
  clear h
  cases hm : mayL bs
  case false =>
    have D := Lib.hid (show befF bs b = [] by unfold befF; rw [hm]; rfl)
    rw [hm] at M
    clear hm
    go_enter Try.func31, Try.ntmps31
    go_wp2_with fail
    refine M.out.mono ?_
    rintro e w1 hq
    obtain ⟨rfl, b1⟩ := hq.below
    clear hq
    go_wp2_with fail
    go_ret
    rw [D.out]
    exact ⟨none, 0, rfl, ⟨rfl, Nat.le_refl _, by omega, fun h => absurd h (by simp)⟩, b1⟩
  have h64 : n ≤ 64 := by have := mayL_len hm; have := S.out; omega
  have D := Lib.hid (show befF bs b = befL bs b n by unfold befF; rw [hm, S.out]; rfl)
  rw [hm] at M
  clear hm
  obtain ⟨tj, hj1, hj2, hj3, hj4⟩ := int_info
  have TJ := Lib.hid (And.intro hj1 (And.intro hj2 (And.intro hj3 hj4)))
  clear hj1 hj2 hj3 hj4
  go_enter Try.func31, Try.ntmps31
  go_wp2_with fail
  refine M.out.mono ?_
  rintro e w1 hq
  obtain ⟨rfl, b1⟩ := hq.below
  have B1 := Lib.hid b1
  clear b1 M hq
  go_wp2_with fail
  go_loopw [5, 6] (fun v i wr => ∃ k : Nat, k ≤ n ∧ i = .int .i64 k ∧ Hid (Below W.heap.size W wr ∧ wr.ownsRow W.heap.size 3 1 v (befL bs b k).length ((befL bs b k).map (Value.int .i64)))) (fun _ i _ => n - (intOf i).toNat)
  case atStart => exact ⟨0, by omega, rfl, Lib.hid ⟨B1.out, World.ownsRow_nil _ _ _ _⟩⟩
  case round =>
    clear B1
    obtain ⟨k, hk, rfl, hR⟩ := hrel
    have BW := Lib.hid hR.out.1
    have OB := Lib.hid hR.out.2
    clear hR
    by_cases hlt : k < n
    · obtain ⟨b1, o1, rfl, g1⟩ := (H.out wr BW.out).here (by omega)
      obtain ⟨x, hx⟩ : ∃ x, bs[k]? = some x := ⟨_, List.getElem?_eq_getElem (by have := S.out; omega)⟩
      obtain ⟨na1, nc1, q1, i1⟩ := g1 k x hx
      obtain ⟨x0, x1, x2⟩ := blk_cells q1
      have HX := Lib.hid hx
      have hb1 := lt_of_cell x0
      have IB := Lib.hid i1.here
      have hnl := i1.le
      have hnf := i1.fit
      have HB := Lib.hid (hasB_eq (b := b) hx)
      clear g1 hx q1 i1 x0 x1
      have BY := Lib.hid (befL_yes (bs := bs) (b := b) (k := k))
      have BN := Lib.hid (befL_no (bs := bs) (b := b) (k := k))
      have BL := Lib.hid (befL_len bs b k)
      have NX := Lib.hid (show b ∉ x.next → befL bs b (k + 1) = befL bs b k from fun h => BN.out (HB.out.trans (decide_eq_false h)))
      have YX := Lib.hid (show b ∈ x.next → befL bs b (k + 1) = befL bs b k ++ [(k : Int)] from fun h => BY.out (HB.out.trans (decide_eq_true h)))
      clear BY BN HB
      generalize befL bs b k = zs at *
      generalize x.next = xn at *
      go_wp2_with fail
      go_loopw [5, 7] (fun v' i wy => ∃ t : Nat, t ≤ xn.length ∧ i = .int .i64 t ∧ v' = u5 ∧ wy = wr ∧ Hid (∀ (j : Nat) (z : Int), j < t → xn[j]? = some z → z ≠ b)) (fun _ i _ => xn.length - (intOf i).toNat)
      case atStart => exact ⟨0, by omega, rfl, rfl, rfl, Lib.hid (fun j z h => by omega)⟩
      case round =>
        obtain ⟨t, ht, rfl, rfl, rfl, NT⟩ := hrel
        by_cases htl : t < xn.length
        · obtain ⟨bn, on, rfl, hc⟩ := IB.out (by omega)
          obtain ⟨z, hz⟩ : ∃ z, xn[t]? = some z := ⟨_, List.getElem?_eq_getElem htl⟩
          have cz := hc t _ hz
          have HZ := Lib.hid hz
          clear hc hz
          by_cases e : z = b
          · have e0 : (z == b) = true := by simpa using e
            have E2 := Lib.hid (YX.out (by rw [← e]; exact List.mem_of_getElem? HZ.out))
            clear e
            have Z2 := Lib.hid BW.out.size
            go_wp2_with (at_builtin; refine wpList_append_own_at _ rfl _ _ 50 rfl W.heap.size 3 tj _ 1 8 Try.underlying50 TJ.out.1 TJ.out.2.1 TJ.out.2.2.1 TJ.out.2.2.2 rfl (by decide) _ zs.length (zs.map (Value.int .i64)) rfl (own_below OB.out ((Below.refl _ wr).alloc (Nat.le_refl _) _)) ⟨wr.heap.size, 0, none⟩ 1 1 [.int .i64 (k : Int)] rfl rfl (cells_new wr _ _) (int_one _) (by have := BL.out; unfold maxLen; omega) (by have := BL.out; omega) (by have := Z2.out; simp; omega) ?_)
            intro v3 x3 o3 g3 n3 l3
            have hub : ∀ j, u5.ownBlock = some j → W.heap.size ≤ j := fun j hj => (World.ownsRow.lt OB.out j hj).1
            have B3 := Lib.hid ((below_new BW.out (.cells #[.int .i64 (k : Int)] 3)).grown g3 (by have := Z2.out; simp; omega) (fun j hj => by have := hub j hj; omega))
            have O3 := Lib.hid (show x3.ownsRow W.heap.size 3 1 v3 (befL bs b (k + 1)).length ((befL bs b (k + 1)).map (Value.int .i64)) by
              rw [E2.out, List.map_append, List.length_append]; exact o3)
            clear o3 g3 n3 l3 hub
            go_wp2_with fail
            go_roundw
            case rel => exact ⟨k + 1, by omega, by go_num, Lib.hid ⟨B3.out, O3.out⟩⟩
            case measure => simp [intOf]; omega
          · have e0 : (z == b) = false := by simpa using e
            have NE := Lib.hid e
            clear e
            go_wp2_with fail
            go_roundw
            case rel => exact ⟨t + 1, by omega, by go_num, by trivial, by trivial, Lib.hid (fun j y hj hy => by
              by_cases e : j = t
              · subst e
                have := HZ.out
                rw [hy] at this
                injection this with this
                subst this
                exact NE.out
              · exact NT.out j y (by omega) hy)⟩
            case measure => simp [intOf]; omega
        · obtain rfl : t = xn.length := by omega
          have E2 := Lib.hid (NX.out (fun hm => by
            obtain ⟨j, hj⟩ := List.mem_iff_getElem?.1 hm
            exact NT.out j b (List.getElem?_eq_some_iff.1 hj).1 hj rfl))
          go_wp2_with fail
          go_roundw
          case rel => exact ⟨k + 1, by omega, by go_num, Lib.hid ⟨BW.out, by rw [E2.out]; exact OB.out⟩⟩
          case measure => simp [intOf]; omega
    · obtain rfl : k = n := by omega
      obtain ⟨av, cv, rfl, hI, hA⟩ := int_own OB.out
      have HI := Lib.hid hI
      clear hI hA
      go_wp2_with fail
      go_ret
      rw [D.out]
      exact ⟨av, cv, rfl, HI.out, BW.out⟩
end Go.Proofs.Ytbpefomjmjkciaa.Blk
