/-
  Package blocks: Before.
-/
import Derived.Test.YtbpefomjmjkciaaBlkG
import Derived.Test.YtbpefomjmjkciaaBlkP
namespace Go.Proofs.Ytbpefomjmjkciaa.Blk
open Go.RowKit Go.Maps Go.Sort Ins
set_option linter.unusedVariables false
set_option maxRecDepth 100000

/-- Blocks that keep the form are 64 at most. -/
theorem mayL_len {bs : List Bk} (h : mayL bs = true) : bs.length ≤ 64 := by
  have all : ∀ k, k ≤ bs.length → (k : Int) ≤ endB bs k ∧ endB bs k ≤ 64 := by
    intro k
    induction k with
    | zero => intro _; exact ⟨Int.le_refl _, by show (0 : Int) ≤ 64; omega⟩
    | succ k ih =>
      intro hk
      obtain ⟨x, hx⟩ : ∃ x, bs[k]? = some x := ⟨_, List.getElem?_eq_getElem (by omega)⟩
      have h1 := mayL_all h hx
      unfold mayB at h1
      rw [Bool.and_eq_true] at h1
      have h2 := of_decide_eq_true h1.1
      have h3 := ih (by omega)
      rw [endB_succ hx]
      omega
  have := all bs.length (Nat.le_refl _)
  omega

/-- Is b among the successors of block k? -/
def hasB (bs : List Bk) (b : Int) (k : Nat) : Bool := match bs[k]? with | some x => decide (b ∈ x.next) | none => false
/-- Those of the first k blocks that have b among their successors. -/
def befL (bs : List Bk) (b : Int) : Nat → List Int
  | 0 => []
  | k + 1 => if hasB bs b k then befL bs b k ++ [(k : Int)] else befL bs b k
theorem befL_len (bs : List Bk) (b : Int) : ∀ k, (befL bs b k).length ≤ k
  | 0 => Nat.le_refl _
  | k + 1 => by
    have := befL_len bs b k
    show (if hasB bs b k then befL bs b k ++ [(k : Int)] else befL bs b k).length ≤ k + 1
    split
    · rw [List.length_append]; simp; omega
    · omega
theorem befL_yes {bs : List Bk} {b : Int} {k : Nat} (h : hasB bs b k = true) : befL bs b (k + 1) = befL bs b k ++ [(k : Int)] := if_pos h
theorem befL_no {bs : List Bk} {b : Int} {k : Nat} (h : hasB bs b k = false) : befL bs b (k + 1) = befL bs b k := if_neg (by rw [h]; simp)
theorem hasB_eq {bs : List Bk} {b : Int} {k : Nat} {x : Bk} (h : bs[k]? = some x) : hasB bs b k = decide (b ∈ x.next) := by unfold hasB; rw [h]

theorem int_one (z : Int) : ∀ u ∈ [Value.int .i64 z], u.oneCell' = true := by
  intro u hu
  simp at hu
  subst hu; rfl
theorem int_info : ∃ i, Try.prog.info? 3 = some i ∧ i.zero = some (.int .i64 0) ∧ i.size = 1 ∧ i.bytes = 8 := ⟨_, rfl, by kernel_rfl, by kernel_rfl, by kernel_rfl⟩
/-- A row of numbers of one's own can be read. -/
theorem int_own {base : Nat} {w : World} {v : Value} {zs : List Int} (h : w.ownsRow base 3 1 v zs.length (zs.map (Value.int .i64))) : ∃ a cap, v = .slice a zs.length cap ∧ IntsAt w a zs.length cap zs ∧ ∀ ad, a = some ad → base ≤ ad.block ∧ ad.block < w.heap.size := by
  rcases h.2 with ⟨rfl, h0⟩ | ⟨g, cap, cur, rfl, e2, e3, e4, e5, e6, e7⟩
  · exact ⟨none, 0, by rw [h0], ⟨rfl, by omega, by omega, fun h => by omega⟩, fun _ e => by cases e⟩
  · refine ⟨_, cap, rfl, ⟨rfl, e4, by unfold maxLen at e5; omega, fun _ => ⟨g, 0, rfl, fun j z hz => ?_⟩⟩, fun ad e => by injection e with e; subst e; exact ⟨e2, (Array.getElem?_eq_some_iff.1 e3).1⟩⟩
    have hj : j < zs.length := (List.getElem?_eq_some_iff.1 hz).1
    have h1 : (zs.map (Value.int .i64))[j]? = some (.int .i64 z) := by rw [List.getElem?_map, hz]; rfl
    rw [← e7, List.getElem?_take_of_lt (by omega), Array.getElem?_toList] at h1
    simp only [World.cell?, e3, Nat.zero_add]
    simpa using h1

/-- A row of numbers comes out, new, and all else is as it was. -/
def IntsOut (zs : List Int) (W : World) (e : Ending) (w' : World) : Prop :=
  ∃ a cap, e = .returned (.slice a zs.length cap) ∧ IntsAt w' a zs.length cap zs ∧ Below W.heap.size W w'
/-- What Before says. -/
def befF (bs : List Bk) (b : Int) : List Int := if mayL bs then befL bs b bs.length else []

set_option maxHeartbeats 4000000 in
theorem before_any (a : Option Addr) (n c : Nat) (bs : List Bk) (b : Int) (W : World) (h : Blks W a n c bs) :
    Calls Try.prog 30 #[.slice a n c, .int .i64 b] W (IntsOut (befF bs b) W) := by
  have M := Lib.hid (may_any a n c bs W h)
  have l1 := h.le
  have f1 := h.fit
  have S := Lib.hid h.size
  have H := Lib.hid (fun w b => Blks.below (w := w) h b)
  clear h
  cases hm : mayL bs
  case false =>
    have D := Lib.hid (show befF bs b = [] by unfold befF; rw [hm]; rfl)
    rw [hm] at M
    clear hm
    go_enter Try.func30, Try.ntmps30
    go_wp2_with fail
    refine M.out.mono ?_
    rintro e w1 ⟨rfl, b1⟩
    go_wp2_with fail
    go_ret
    rw [D.out]
    exact ⟨none, 0, rfl, ⟨rfl, Nat.le_refl _, by omega, fun h => absurd h (by simp)⟩, b1⟩
  have h64 : n ≤ 64 := by have := mayL_len hm; have := S.out; omega
  have D := Lib.hid (show befF bs b = befL bs b n by unfold befF; rw [hm, S.out]; rfl)
  rw [hm] at M
  clear hm
  obtain ⟨tj, hj1, hj2, hj3, hj4⟩ := int_info
  have TJ := Lib.hid (And.intro hj1 (And.intro hj2 (And.intro hj3 hj4)))
  clear hj1 hj2 hj3 hj4
  go_enter Try.func30, Try.ntmps30
  go_wp2_with fail
  refine M.out.mono ?_
  rintro e w1 ⟨rfl, b1⟩
  have B1 := Lib.hid b1
  clear b1 M
  go_wp2_with fail
  go_loopw [5, 13] (fun v i wr => ∃ k : Nat, k ≤ n ∧ i = .int .i64 k ∧ Hid (Below W.heap.size W wr ∧ wr.ownsRow W.heap.size 3 1 v (befL bs b k).length ((befL bs b k).map (Value.int .i64)))) (fun _ i _ => n - (intOf i).toNat)
  case atStart => exact ⟨0, by omega, rfl, Lib.hid ⟨B1.out, World.ownsRow_nil _ _ _ _⟩⟩
  case round =>
    clear B1
    obtain ⟨k, hk, rfl, hR⟩ := hrel
    have BW := Lib.hid hR.out.1
    have OB := Lib.hid hR.out.2
    clear hR
    by_cases hlt : k < n
    · obtain ⟨b1, o1, rfl, g1⟩ := (H.out wr BW.out).here (by omega)
      obtain ⟨x, hx⟩ : ∃ x, bs[k]? = some x := ⟨_, List.getElem?_eq_getElem (by have := S.out; omega)⟩
      obtain ⟨na1, nc1, q1, i1⟩ := g1 k x hx
      obtain ⟨x0, x1, x2⟩ := blk_cells q1
      have HX := Lib.hid hx
      have hb1 := lt_of_cell x0
      have IB := Lib.hid (fun w b' => contains_any na1 x.next.length nc1 x.next b w (i1.below (w := w) b'))
      have HB := Lib.hid (hasB_eq (b := b) hx)
      clear g1 hx q1 i1
      have BY := Lib.hid (befL_yes (bs := bs) (b := b) (k := k))
      have BN := Lib.hid (befL_no (bs := bs) (b := b) (k := k))
      have BL := Lib.hid (befL_len bs b k)
      generalize befL bs b k = zs at *
      generalize x.fr = xf at *
      generalize x.to = xt at *
      generalize x.next = xn at *
      go_wp2_with fail
      refine (IB.out _ (below_new (Below.refl _ _) _)).mono ?_
      rintro e w2 hq
      obtain ⟨rfl, b2⟩ := hq.below
      have B2 := Lib.hid (below_call (below_new BW.out _) b2)
      have O2 := Lib.hid (own_below OB.out (below_call (below_new (Below.refl _ wr) _) b2))
      clear b2 hq IB x0 x1 x2 OB
      have Z2 := Lib.hid B2.out.size
      cases hd : decide (b ∈ xn)
      · have E2 := Lib.hid (BN.out (HB.out.trans hd))
        clear hd
        go_wp2_with fail
        go_roundw
        case rel => exact ⟨k + 1, by omega, by go_num, Lib.hid ⟨B2.out, by rw [E2.out]; exact O2.out⟩⟩
        case measure => simp [intOf]; omega
      · have E2 := Lib.hid (BY.out (HB.out.trans hd))
        clear hd
        go_wp2_with (at_builtin; refine wpList_append_own_at _ rfl _ _ 50 rfl W.heap.size 3 tj _ 1 8 Try.underlying50 TJ.out.1 TJ.out.2.1 TJ.out.2.2.1 TJ.out.2.2.2 rfl (by decide) _ zs.length (zs.map (Value.int .i64)) rfl (own_below O2.out ((Below.refl _ w2).alloc (Nat.le_refl _) _)) ⟨w2.heap.size, 0, none⟩ 1 1 [.int .i64 (k : Int)] rfl rfl (cells_new w2 _ _) (int_one _) (by have := BL.out; unfold maxLen; omega) (by have := BL.out; omega) (by have := Z2.out; simp; omega) ?_)
        intro v3 x3 o3 g3 n3 l3
        have hub : ∀ j, u5.ownBlock = some j → W.heap.size ≤ j := fun j hj => (World.ownsRow.lt O2.out j hj).1
        have B3 := Lib.hid ((below_new B2.out (.cells #[.int .i64 (k : Int)] 3)).grown g3 (by have := Z2.out; simp; omega) (fun j hj => by have := hub j hj; omega))
        have O3 := Lib.hid (show x3.ownsRow W.heap.size 3 1 v3 (befL bs b (k + 1)).length ((befL bs b (k + 1)).map (Value.int .i64)) by
          rw [E2.out, List.map_append, List.length_append]; exact o3)
        clear o3 g3 n3 l3 hub
        go_wp2_with fail
        go_roundw
        case rel => exact ⟨k + 1, by omega, by go_num, Lib.hid ⟨B3.out, O3.out⟩⟩
        case measure => simp [intOf]; omega
    · obtain rfl : k = n := by omega
      obtain ⟨av, cv, rfl, hI, hA⟩ := int_own OB.out
      have HI := Lib.hid hI
      clear hI hA
      go_wp2_with fail
      go_ret
      rw [D.out]
      exact ⟨av, cv, rfl, HI.out, BW.out⟩
end Go.Proofs.Ytbpefomjmjkciaa.Blk
