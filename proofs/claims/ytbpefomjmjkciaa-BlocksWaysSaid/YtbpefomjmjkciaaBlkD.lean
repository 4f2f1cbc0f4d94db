/-
  Package blocks: Same.
-/
import Derived.Test.YtbpefomjmjkciaaRbA
namespace Go.Proofs.Ytbpefomjmjkciaa.Blk
open Go.RowKit Go.Maps Go.Sort Ins
set_option linter.unusedVariables false
set_option maxRecDepth 100000

set_option maxHeartbeats 1000000 in
theorem equal_any (a1 a2 : Option Addr) (n1 c1 n2 c2 : Nat) (zs ys : List Int) (W : World) (h1 : IntsAt W a1 n1 c1 zs) (h2 : IntsAt W a2 n2 c2 ys) :
    Calls Try.prog 65 #[.slice a1 n1 c1, .slice a2 n2 c2] W (QB (decide (zs = ys)) W) := by
  generalize hd : decide (zs = ys) = d
  have HD := Lib.hid hd; clear hd
  have l1 := h1.le
  have f1 := h1.fit
  have l2 := h2.le
  have f2 := h2.fit
  have S1 := Lib.hid h1.size
  have S2 := Lib.hid h2.size
  have H1 := Lib.hid h1.here
  have H2 := Lib.hid h2.here
  clear h1 h2
  by_cases hn : n1 = n2
  case neg =>
    have D := Lib.hid (show d = false from HD.out.symm.trans <| decide_eq_false (fun e => hn (by rw [S1.out, S2.out, e])))
    have e0 : ((n1 : Int) != (n2 : Int)) = true := by simpa using (by omega : ¬ (n1 : Int) = n2)
    clear hn
    go_enter Try.func65, Try.ntmps65
    go_wp2
    go_ret
    exact ⟨by rw [D.out]; rfl, 0, rfl⟩
  subst hn
  go_enter Try.func65, Try.ntmps65
  go_wp2_with fail
  go_loopw [13] (fun i wr => ∃ k : Nat, k ≤ n1 ∧ i = .int .i64 k ∧ (∃ n, W.drewN n = wr) ∧ Hid (∀ j, j < k → zs[j]? = ys[j]?)) (fun i _ => n1 - (intOf i).toNat)
  case atStart => exact ⟨0, by omega, rfl, ⟨0, rfl⟩, Lib.hid (fun j h => by omega)⟩
  case round =>
    obtain ⟨k, hk, rfl, ⟨nd, rfl⟩, hR⟩ := hrel
    by_cases hlt : k < n1
    · obtain ⟨b1, o1, rfl, g1⟩ := H1.out (by omega)
      obtain ⟨b2, o2, rfl, g2⟩ := H2.out (by omega)
      obtain ⟨z, hz⟩ : ∃ z, zs[k]? = some z := ⟨_, List.getElem?_eq_getElem (by have := S1.out; omega)⟩
      obtain ⟨y, hy⟩ : ∃ y, ys[k]? = some y := ⟨_, List.getElem?_eq_getElem (by have := S2.out; omega)⟩
      have x1 := g1 k z hz
      have x2 := g2 k y hy
      have HZ := Lib.hid hz
      have HY := Lib.hid hy
      clear g1 g2 hz hy
      have y3 : (0 : Int) ≤ (k : Int) := by omega
      have y1 : (k : Int) < (n1 : Int) := by omega
      by_cases e : z = y
      · subst e
        go_wp2_with fail
        go_quiet (fail)
        go_wp2_with fail
        go_roundw
        case rel => exact ⟨k + 1, by omega, by go_num, ⟨nd + nq, by simp⟩, Lib.hid (fun j hj => by
          by_cases e : j = k
          · subst e; rw [HZ.out, HY.out]
          · exact hR.out j (by omega))⟩
        case measure => simp [intOf]; omega
      · have e0 : (z != y) = true := by simpa using e
        have D := Lib.hid (show d = false from HD.out.symm.trans <| decide_eq_false (fun e2 => e (by have := HZ.out; rw [e2, HY.out] at this; injection this with this; exact this.symm)))
        clear e
        go_wp2_with fail
        go_quiet (fail)
        go_wp2_with fail
        go_ret
        exact ⟨by rw [D.out]; rfl, nd + nq, by simp⟩
    · obtain rfl : k = n1 := by omega
      have D := Lib.hid (show d = true from HD.out.symm.trans <| decide_eq_true (List.ext_getElem? (fun j => by
        by_cases hj : j < k
        · exact hR.out j hj
        · rw [List.getElem?_eq_none (by have := S1.out; omega), List.getElem?_eq_none (by have := S2.out; omega)])))
      go_wp2_with fail
      go_ret
      exact ⟨by rw [D.out]; rfl, nd, rfl⟩

set_option maxHeartbeats 2000000 in
theorem like_any (x y : Bk) (na1 na2 : Option Addr) (nc1 nc2 : Nat) (W : World) (h1 : IntsAt W na1 x.next.length nc1 x.next) (h2 : IntsAt W na2 y.next.length nc2 y.next) :
    Calls Try.prog 64 #[.agg #[.int .i64 x.fr, .int .i64 x.to, .slice na1 x.next.length nc1], .agg #[.int .i64 y.fr, .int .i64 y.to, .slice na2 y.next.length nc2]] W fun e w' => e = .returned (.bool (decide (x = y))) ∧ Below W.heap.size W w' := by
  have E := Lib.hid (fun W h1 h2 => equal_any na1 na2 x.next.length nc1 y.next.length nc2 x.next y.next W h1 h2)
  have H1 := Lib.hid (fun w b => IntsAt.below (w := w) h1 b)
  have H2 := Lib.hid (fun w b => IntsAt.below (w := w) h2 b)
  clear h1 h2
  generalize hd : decide (x = y) = d
  have HD := Lib.hid hd; clear hd
  obtain ⟨xf, xt, xn⟩ := x
  obtain ⟨yf, yt, yn⟩ := y
  simp only at *
  have NE := Lib.hid (show ¬ (xf = yf ∧ xt = yt ∧ xn = yn) → d = false from fun h => HD.out.symm.trans <| decide_eq_false (fun e => h (by injection e with a1 a2 a3; exact ⟨a1, a2, a3⟩)))
  have YE := Lib.hid (show xf = yf ∧ xt = yt ∧ xn = yn → d = true from fun h => HD.out.symm.trans <| decide_eq_true (by rw [h.1, h.2.1, h.2.2]))
  by_cases ef : xf = yf
  case neg =>
    have e0 : (xf == yf) = false := by simpa using ef
    have D := Lib.hid (NE.out (fun h => ef h.1))
    clear ef
    go_enter Try.func64, Try.ntmps64
    go_wp2_with fail
    go_ret
    exact ⟨by rw [D.out]; rfl, below_new (below_new (Below.refl _ W) _) _⟩
  subst ef
  by_cases et : xt = yt
  case neg =>
    have e0 : (xt == yt) = false := by simpa using et
    have D := Lib.hid (NE.out (fun h => et h.2.1))
    clear et
    go_enter Try.func64, Try.ntmps64
    go_wp2_with fail
    go_ret
    exact ⟨by rw [D.out]; rfl, below_new (below_new (Below.refl _ W) _) _⟩
  subst et
  have D := Lib.hid (show d = decide (xn = yn) by
    by_cases en : xn = yn
    · rw [YE.out ⟨rfl, rfl, en⟩, decide_eq_true en]
    · rw [NE.out (fun h => en h.2.2), decide_eq_false en])
  clear HD NE YE
  generalize decide (xn = yn) = dd at *
  go_enter Try.func64, Try.ntmps64
  go_wp2_with fail
  have bb := fun o1 o2 => ((Below.refl W.heap.size W).alloc (Nat.le_refl _) o1).alloc (by simp) o2
  refine (E.out _ (H1.out _ (bb _ _)) (H2.out _ (bb _ _))).mono ?_
  rintro e w1 h1
  obtain ⟨rfl, b1⟩ := h1.below
  clear h1 bb
  go_wp2_with fail
  go_ret
  exact ⟨by rw [D.out]; rfl, below_call (below_new (below_new (Below.refl _ W) _) _) b1⟩

set_option maxHeartbeats 4000000 in
theorem equalFunc_any (a1 a2 : Option Addr) (n1 c1 n2 c2 : Nat) (bs cs : List Bk) (W : World) (h1 : Blks W a1 n1 c1 bs) (h2 : Blks W a2 n2 c2 cs) :
    Calls Try.prog 63 #[.slice a1 n1 c1, .slice a2 n2 c2, .func (.func 64) #[] #[]] W fun e w' => e = .returned (.bool (decide (bs = cs))) ∧ Below W.heap.size W w' := by
  generalize hd : decide (bs = cs) = d
  have HD := Lib.hid hd; clear hd
  have l1 := h1.le
  have f1 := h1.fit
  have l2 := h2.le
  have f2 := h2.fit
  have S1 := Lib.hid h1.size
  have S2 := Lib.hid h2.size
  have H1 := Lib.hid (fun w b => Blks.below (w := w) h1 b)
  have H2 := Lib.hid (fun w b => Blks.below (w := w) h2 b)
  clear h1 h2
  by_cases hn : n1 = n2
  case neg =>
    have D := Lib.hid (show d = false from HD.out.symm.trans <| decide_eq_false (fun e => hn (by rw [S1.out, S2.out, e])))
    have e0 : ((n1 : Int) != (n2 : Int)) = true := by simpa using (by omega : ¬ (n1 : Int) = n2)
    clear hn
    go_enter Try.func63, Try.ntmps63
    go_wp2
    go_ret
    exact ⟨by rw [D.out]; rfl, Below.refl _ _⟩
  subst hn
  go_enter Try.func63, Try.ntmps63
  go_wp2_with fail
  go_loopw [17] (fun i wr => ∃ k : Nat, k ≤ n1 ∧ i = .int .i64 k ∧ Hid (Below W.heap.size W wr ∧ ∀ j, j < k → bs[j]? = cs[j]?)) (fun i _ => n1 - (intOf i).toNat)
  case atStart => exact ⟨0, by omega, rfl, Lib.hid ⟨Below.refl _ _, fun j h => by omega⟩⟩
  case round =>
    obtain ⟨k, hk, rfl, hR⟩ := hrel
    by_cases hlt : k < n1
    · obtain ⟨b1, o1, rfl, g1⟩ := (H1.out wr hR.out.1).here (by omega)
      obtain ⟨b2, o2, rfl, g2⟩ := (H2.out wr hR.out.1).here (by omega)
      obtain ⟨x, hx⟩ : ∃ x, bs[k]? = some x := ⟨_, List.getElem?_eq_getElem (by have := S1.out; omega)⟩
      obtain ⟨y, hy⟩ : ∃ y, cs[k]? = some y := ⟨_, List.getElem?_eq_getElem (by have := S2.out; omega)⟩
      obtain ⟨na1, nc1, q1, i1⟩ := g1 k x hx
      obtain ⟨na2, nc2, q2, i2⟩ := g2 k y hy
      obtain ⟨x0, x1, x2⟩ := blk_cells q1
      obtain ⟨y0, y1, y2⟩ := blk_cells q2
      have LK := Lib.hid (fun w b => like_any x y na1 na2 nc1 nc2 w (i1.below (w := w) b) (i2.below b))
      have HX := Lib.hid hx
      have HY := Lib.hid hy
      have BW := Lib.hid hR.out.1
      have AL := Lib.hid hR.out.2
      clear g1 g2 hx hy q1 q2 i1 i2 hR
      have NE := Lib.hid (show ¬ x = y → d = false from fun h => HD.out.symm.trans <| decide_eq_false (fun e => h (by
        have := HX.out; rw [e, HY.out] at this; injection this with this; exact this.symm)))
      have EQ := Lib.hid (show x = y → bs[k]? = cs[k]? from fun e => by rw [HX.out, HY.out, e])
      have hlb1 := lt_of_cell x0
      have hlb2 := lt_of_cell y0
      clear HX HY
      generalize hdd : decide (x = y) = dd at LK
      have DD := Lib.hid hdd; clear hdd
      generalize x.fr = xf at *
      generalize x.to = xt at *
      generalize x.next.length = xl at *
      generalize y.fr = yf at *
      generalize y.to = yt at *
      generalize y.next.length = yl at *
      go_wp2_with fail
      have bb := fun o1 o2 => ((Below.refl wr.heap.size wr).alloc (Nat.le_refl _) o1).alloc (by simp) o2
      refine (LK.out _ (bb _ _)).mono ?_
      rintro e w1 ⟨rfl, b3⟩
      have W1 := Lib.hid (below_call (below_new (below_new BW.out _) _) b3)
      clear bb b3 x0 x1 x2 y0 y1 y2 hlb1 hlb2 BW LK
      cases dd
      · have D := Lib.hid (NE.out (of_decide_eq_false DD.out))
        go_wp2_with fail
        go_ret
        exact ⟨by rw [D.out]; rfl, W1.out⟩
      · have EQ2 := Lib.hid (EQ.out (of_decide_eq_true DD.out))
        go_wp2_with fail
        go_roundw
        case rel => exact ⟨k + 1, by omega, by go_num, Lib.hid ⟨W1.out, fun j hj => by
          by_cases e : j = k
          · subst e; exact EQ2.out
          · exact AL.out j (by omega)⟩⟩
        case measure => simp [intOf]; omega
    · obtain rfl : k = n1 := by omega
      have D := Lib.hid (show d = true from HD.out.symm.trans <| decide_eq_true (List.ext_getElem? (fun j => by
        by_cases hj : j < k
        · exact hR.out.2 j hj
        · rw [List.getElem?_eq_none (by have := S1.out; omega), List.getElem?_eq_none (by have := S2.out; omega)])))
      have BW := Lib.hid hR.out.1
      go_wp2_with fail
      go_ret
      exact ⟨by rw [D.out]; rfl, BW.out⟩

theorem sameBlk_any (a1 a2 : Option Addr) (n1 c1 n2 c2 : Nat) (bs cs : List Bk) (W : World) (h1 : Blks W a1 n1 c1 bs) (h2 : Blks W a2 n2 c2 cs) :
    Calls Try.prog 32 #[.slice a1 n1 c1, .slice a2 n2 c2] W fun e w' => e = .returned (.bool (decide (bs = cs))) ∧ Below W.heap.size W w' := by
  have E := Lib.hid (equalFunc_any a1 a2 n1 c1 n2 c2 bs cs W h1 h2)
  clear h1 h2
  generalize decide (bs = cs) = d at *
  go_enter Try.func32, Try.ntmps32
  go_wp2_with fail
  refine E.out.mono ?_
  rintro e w1 ⟨rfl, b1⟩
  go_wp2_with fail
  go_ret
  exact ⟨rfl, b1⟩
end Go.Proofs.Ytbpefomjmjkciaa.Blk
