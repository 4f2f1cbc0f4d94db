/-
  Package trace: events compared; Begins.
-/
import Derived.Test.YtpbnmbeedjhloaaTrcA
namespace Go.Proofs.Ytpbnmbeedjhloaa.Trc
open Go.RowKit
set_option linter.unusedVariables false

set_option maxHeartbeats 2000000 in
theorem sameEvent_any (x y : Ev) (na1 na2 : Option Addr) (nc1 nc2 : Nat) (W : World) (h1 : WordsAt W na1 x.args.length nc1 x.args) (h2 : WordsAt W na2 y.args.length nc2 y.args) :
    Calls Try.prog 106 #[.agg #[.int .i64 x.num, .slice na1 x.args.length nc1, .int .u64 x.ans], .agg #[.int .i64 y.num, .slice na2 y.args.length nc2, .int .u64 y.ans]] W fun e w' => e = .returned (.bool (decide (x = y))) ∧ Below W.heap.size W w' := by
  have E := Lib.hid (fun W h1 h2 => beginsW_any na1 na2 x.args.length nc1 y.args.length nc2 x.args y.args W h1 h2)
  have H1 := Lib.hid (fun w b => WordsAt.below (w := w) h1 b)
  have H2 := Lib.hid (fun w b => WordsAt.below (w := w) h2 b)
  clear h1 h2
  generalize hd : decide (x = y) = d
  have HD := Lib.hid hd; clear hd
  obtain ⟨xf, xn, xt⟩ := x
  obtain ⟨yf, yn, yt⟩ := y
  simp only at *
  have NE := Lib.hid (show ¬ (xf = yf ∧ xt = yt ∧ xn = yn) → d = false from fun h => HD.out.symm.trans <| decide_eq_false (fun e => h (by injection e with a1 a2 a3; exact ⟨a1, a3, a2⟩)))
  have YE := Lib.hid (show xf = yf ∧ xt = yt ∧ xn = yn → d = true from fun h => HD.out.symm.trans <| decide_eq_true (by rw [h.1, h.2.1, h.2.2]))
  by_cases ef : xf = yf
  case neg =>
    have e0 : (xf == yf) = false := by simpa using ef
    have D := Lib.hid (NE.out (fun h => ef h.1))
    clear ef
    go_enter Try.func106, Try.ntmps106
    go_wp2_with fail
    go_ret
    exact ⟨by rw [D.out]; rfl, below_new (below_new (Below.refl _ W) _) _⟩
  subst ef
  by_cases et : xt = yt
  case neg =>
    have e0 : (xt == yt) = false := by simpa using et
    have D := Lib.hid (NE.out (fun h => et h.2.1))
    clear et
    go_enter Try.func106, Try.ntmps106
    go_wp2_with fail
    go_ret
    exact ⟨by rw [D.out]; rfl, below_new (below_new (Below.refl _ W) _) _⟩
  subst et
  by_cases el : xn.length = yn.length
  case neg =>
    have e0 : ((xn.length : Int) == (yn.length : Int)) = false := by simpa using (by omega : ¬ (xn.length : Int) = yn.length)
    have D := Lib.hid (NE.out (fun h => el (by rw [h.2.2])))
    clear el E
    generalize xn.length = n1 at *
    generalize yn.length = n2 at *
    go_enter Try.func106, Try.ntmps106
    go_wp2_with fail
    go_ret
    exact ⟨by rw [D.out]; rfl, below_new (below_new (Below.refl _ W) _) _⟩
  have D := Lib.hid (show d = preB xn yn by
    rw [preB_same el]
    by_cases en : xn = yn
    · rw [YE.out ⟨rfl, rfl, en⟩, decide_eq_true en]
    · rw [NE.out (fun h => en h.2.2), decide_eq_false en])
  clear HD NE YE
  generalize preB xn yn = dd at *
  have e0 : ((xn.length : Int) == (yn.length : Int)) = true := by simp; omega
  clear el
  generalize xn.length = n1 at *
  generalize yn.length = n2 at *
  go_enter Try.func106, Try.ntmps106
  go_wp2_with fail
  have bb := fun o1 o2 => ((Below.refl W.heap.size W).alloc (Nat.le_refl _) o1).alloc (by simp) o2
  refine (E.out _ (H1.out _ (bb _ _)) (H2.out _ (bb _ _))).mono ?_
  rintro e w1 ⟨rfl, rfl⟩
  clear bb
  go_wp2_with fail
  go_ret
  exact ⟨by rw [D.out]; rfl, below_new (below_new (Below.refl _ W) _) _⟩

set_option maxHeartbeats 2000000 in
theorem equalE_any (a1 a2 : Option Addr) (n1 c1 n2 c2 : Nat) (bs cs : List Ev) (W : World) (h1 : EvsAt W a1 n1 c1 bs) (h2 : EvsAt W a2 n2 c2 cs) :
    Calls Try.prog 134 #[.slice a1 n1 c1, .slice a2 n2 c2, .func (.func 106) #[] #[]] W fun e w' => e = .returned (.bool (decide (bs = cs))) ∧ Below W.heap.size W w' := by
  generalize hd : decide (bs = cs) = d
  have HD := Lib.hid hd; clear hd
  have l1 := h1.le
  have f1 := h1.fit
  have l2 := h2.le
  have f2 := h2.fit
  have S1 := Lib.hid h1.size
  have S2 := Lib.hid h2.size
  have H1 := Lib.hid (fun w b => EvsAt.below (w := w) h1 b)
  have H2 := Lib.hid (fun w b => EvsAt.below (w := w) h2 b)
  clear h1 h2
  by_cases hn : n1 = n2
  case neg =>
    have D := Lib.hid (show d = false from HD.out.symm.trans <| decide_eq_false (fun e => hn (by rw [S1.out, S2.out, e])))
    have e0 : ((n1 : Int) != (n2 : Int)) = true := by simpa using (by omega : ¬ (n1 : Int) = n2)
    clear hn
    go_enter Try.func134, Try.ntmps134
    go_wp2
    go_ret
    exact ⟨by rw [D.out]; rfl, Below.refl _ _⟩
  subst hn
  go_enter Try.func134, Try.ntmps134
  go_wp2_with fail
  go_loopw [17] (fun i wr => ∃ k : Nat, k ≤ n1 ∧ i = .int .i64 k ∧ Hid (Below W.heap.size W wr ∧ ∀ j, j < k → bs[j]? = cs[j]?)) (fun i _ => n1 - (intOf i).toNat)
  case atStart => exact ⟨0, by omega, rfl, Lib.hid ⟨Below.refl _ _, fun j h => by omega⟩⟩
  case round =>
    obtain ⟨k, hk, rfl, hR⟩ := hrel
    by_cases hlt : k < n1
    · obtain ⟨b1, o1, rfl, g1⟩ := (H1.out wr hR.out.1).here (by omega)
      obtain ⟨b2, o2, rfl, g2⟩ := (H2.out wr hR.out.1).here (by omega)
      obtain ⟨x, hx⟩ : ∃ x, bs[k]? = some x := ⟨_, List.getElem?_eq_getElem (by have := S1.out; omega)⟩
      obtain ⟨y, hy⟩ : ∃ y, cs[k]? = some y := ⟨_, List.getElem?_eq_getElem (by have := S2.out; omega)⟩
      obtain ⟨na1, nc1, q1, i1⟩ := g1 k x hx
      obtain ⟨na2, nc2, q2, i2⟩ := g2 k y hy
      obtain ⟨x0, x1, x2⟩ := ev_cells q1
      obtain ⟨y0, y1, y2⟩ := ev_cells q2
      have LK := Lib.hid (fun w b => sameEvent_any x y na1 na2 nc1 nc2 w (i1.below (w := w) b) (i2.below b))
      have HX := Lib.hid hx
      have HY := Lib.hid hy
      have BW := Lib.hid hR.out.1
      have AL := Lib.hid hR.out.2
      clear g1 g2 hx hy q1 q2 i1 i2 hR
      have NE := Lib.hid (show ¬ x = y → d = false from fun h => HD.out.symm.trans <| decide_eq_false (fun e => h (by
        have := HX.out; rw [e, HY.out] at this; injection this with this; exact this.symm)))
      have EQ := Lib.hid (show x = y → bs[k]? = cs[k]? from fun e => by rw [HX.out, HY.out, e])
      have hlb1 := lt_of_cell x0
      have hlb2 := lt_of_cell y0
      clear HX HY
      generalize hdd : decide (x = y) = dd at LK
      have DD := Lib.hid hdd; clear hdd
      generalize x.num = xf at *
      generalize x.ans = xt at *
      generalize x.args.length = xl at *
      generalize y.num = yf at *
      generalize y.ans = yt at *
      generalize y.args.length = yl at *
      go_wp2_with fail
      have bb := fun o1 o2 => ((Below.refl wr.heap.size wr).alloc (Nat.le_refl _) o1).alloc (by simp) o2
      refine (LK.out _ (bb _ _)).mono ?_
      rintro e w1 ⟨rfl, b3⟩
      have W1 := Lib.hid (below_call (below_new (below_new BW.out _) _) b3)
      clear bb b3 x0 x1 x2 y0 y1 y2 hlb1 hlb2 BW LK
      cases dd
      · have D := Lib.hid (NE.out (of_decide_eq_false DD.out))
        go_wp2_with fail
        go_ret
        exact ⟨by rw [D.out]; rfl, W1.out⟩
      · have EQ2 := Lib.hid (EQ.out (of_decide_eq_true DD.out))
        go_wp2_with fail
        go_roundw
        case rel => exact ⟨k + 1, by omega, by go_num, Lib.hid ⟨W1.out, fun j hj => by
          by_cases e : j = k
          · subst e; exact EQ2.out
          · exact AL.out j (by omega)⟩⟩
        case measure => simp [intOf]; omega
    · obtain rfl : k = n1 := by omega
      have D := Lib.hid (show d = true from HD.out.symm.trans <| decide_eq_true (List.ext_getElem? (fun j => by
        by_cases hj : j < k
        · exact hR.out.2 j hj
        · rw [List.getElem?_eq_none (by have := S1.out; omega), List.getElem?_eq_none (by have := S2.out; omega)])))
      have BW := Lib.hid hR.out.1
      go_wp2_with fail
      go_ret
      exact ⟨by rw [D.out]; rfl, BW.out⟩

theorem beginsE_any (a1 a2 : Option Addr) (n1 c1 n2 c2 : Nat) (zs ys : List Ev) (W : World) (h1 : EvsAt W a1 n1 c1 zs) (h2 : EvsAt W a2 n2 c2 ys) :
    Calls Try.prog 105 #[.slice a1 n1 c1, .slice a2 n2 c2, .func (.func 106) #[] #[]] W fun e w' => e = .returned (.bool (preB zs ys)) ∧ Below W.heap.size W w' := by
  have l1 := h1.le
  have f1 := h1.fit
  have l2 := h2.le
  have f2 := h2.fit
  by_cases hn : n1 ≤ n2
  · have E := Lib.hid (fun W h h' => equalE_any a1 a2 n1 c1 n1 c2 zs (ys.take n1) W h h')
    have H1 := Lib.hid h1
    have H2 := Lib.hid (h2.take hn)
    have HP := Lib.hid (show decide (zs = ys.take n1) = preB zs ys by unfold preB; rw [h1.size])
    rw [HP.out] at E
    clear h1 h2 HP
    generalize preB zs ys = d at *
    generalize ys.take n1 = yt at *
    go_enter Try.func105, Try.ntmps105
    go_wp2_with fail
    refine (E.out _ H1.out H2.out).mono ?_
    rintro e w1 ⟨rfl, b1⟩
    go_wp2_with fail
    go_ret
    exact ⟨rfl, b1⟩
  · rw [preB_long (by rw [← h1.size, ← h2.size]; omega)]
    clear h1 h2
    go_enter Try.func105, Try.ntmps105
    go_wp2_with fail
    go_ret
    exact ⟨rfl, Below.refl _ _⟩
theorem begins_any (a1 a2 : Option Addr) (n1 c1 n2 c2 : Nat) (zs ys : List Ev) (W : World) (h1 : EvsAt W a1 n1 c1 zs) (h2 : EvsAt W a2 n2 c2 ys) :
    Calls Try.prog 54 #[.slice a1 n1 c1, .slice a2 n2 c2] W fun e w' => e = .returned (.bool (preB zs ys)) ∧ Below W.heap.size W w' := by
  have E := Lib.hid (beginsE_any a1 a2 n1 c1 n2 c2 zs ys W h1 h2)
  clear h1 h2
  generalize preB zs ys = d at *
  go_enter Try.func54, Try.ntmps54
  go_wp2_with fail
  refine E.out.mono ?_
  rintro e w1 ⟨rfl, b1⟩
  go_wp2_with fail
  go_ret
  exact ⟨rfl, b1⟩
end Go.Proofs.Ytpbnmbeedjhloaa.Trc
