/-
  The document's answer latheref04: rows of numbers, rows of blocks compared.
-/
import Derived.Test.YtbpefomjmjkciaaBlkC
import Derived.Deep.QuietTactic
import Derived.BigQuiet
namespace Go.Proofs.Ytbpefomjmjkciaa.Blk
open Go.RowKit Go.Maps Go.Sort Ins
set_option linter.unusedVariables false

instance instBk : DecidableEq Bk := fun x y => decidable_of_iff (x.fr = y.fr ∧ x.to = y.to ∧ x.next = y.next) ⟨fun ⟨a, b, c⟩ => by cases x; cases y; simp only at a b c; subst a b c; rfl, fun e => by subst e; exact ⟨rfl, rfl, rfl⟩⟩

theorem drewN_add (W : World) (n m : Nat) : (W.drewN n).drewN m = W.drewN (n + m) := by simp

/-- A bool, and nothing has turned. -/
def QB (b : Bool) (W : World) (e : Ending) (w' : World) : Prop := e = .returned (.bool b) ∧ ∃ n, W.drewN n = w'
theorem QB.quiet {P : Program} {f : FuncId} {args : Array Value} {w : World} {n : Nat} {b : Bool} (h : Calls P f args (w.drewN n) (QB b (w.drewN n))) : Calls P f args (w.drewN n) fun e w'' => e = .returned (.bool b) ∧ ∃ m, w'' = w.drewN m :=
  h.mono fun _ _ ⟨he, m, hm⟩ => ⟨he, n + m, by rw [← hm]; simp⟩
theorem QB.quiet2 {P : Program} {f : FuncId} {args : Array Value} {w : World} {n m : Nat} {b : Bool} (h : Calls P f args (w.drewN (n + m)) (QB b (w.drewN (n + m)))) : Calls P f args (w.drewN (n + m)) fun e w'' => e = .returned (.bool b) ∧ ∃ k, w'' = w.drewN (n + k) :=
  h.mono fun _ _ ⟨he, k, hm⟩ => ⟨he, m + k, by rw [← hm]; simp [Nat.add_assoc]⟩
theorem QB.below {b : Bool} {W w' : World} {e : Ending} (h : QB b W e w') : e = .returned (.bool b) ∧ Below W.heap.size W w' := by
  obtain ⟨he, n, rfl⟩ := h
  exact ⟨he, below_drewN (Below.refl _ _) n⟩

set_option maxHeartbeats 1000000 in
theorem r_ints (a1 a2 : Option Addr) (n1 c1 n2 c2 : Nat) (zs ys : List Int) (W : World) (h1 : IntsAt W a1 n1 c1 zs) (h2 : IntsAt W a2 n2 c2 ys) :
    Calls Try.prog 29 #[.slice a1 n1 c1, .slice a2 n2 c2] W (QB (decide (zs = ys)) W) := by
  generalize hd : decide (zs = ys) = d
  have HD := Lib.hid hd; clear hd
  have l1 := h1.le
  have f1 := h1.fit
  have l2 := h2.le
  have f2 := h2.fit
  have S1 := Lib.hid h1.size
  have S2 := Lib.hid h2.size
  have H1 := Lib.hid h1.here
  have H2 := Lib.hid h2.here
  clear h1 h2
  by_cases hn : n1 = n2
  case neg =>
    have D := Lib.hid (show d = false from HD.out.symm.trans <| decide_eq_false (fun e => hn (by rw [S1.out, S2.out, e])))
    have e0 : ((n1 : Int) != (n2 : Int)) = true := by simpa using (by omega : ¬ (n1 : Int) = n2)
    clear hn
    go_enter Try.func29, Try.ntmps29
    go_wp2
    go_ret
    exact ⟨by rw [D.out]; rfl, 0, rfl⟩
  subst hn
  go_enter Try.func29, Try.ntmps29
  go_wp2_with fail
  go_loopw [5] (fun i wr => ∃ k : Nat, k ≤ n1 ∧ i = .int .i64 k ∧ (∃ n, W.drewN n = wr) ∧ Hid (∀ j, j < k → zs[j]? = ys[j]?)) (fun i _ => n1 - (intOf i).toNat)
  case atStart => exact ⟨0, by omega, rfl, ⟨0, rfl⟩, Lib.hid (fun j h => by omega)⟩
  case round =>
    obtain ⟨k, hk, rfl, ⟨nd, rfl⟩, hR⟩ := hrel
    by_cases hlt : k < n1
    · obtain ⟨b1, o1, rfl, g1⟩ := H1.out (by omega)
      obtain ⟨b2, o2, rfl, g2⟩ := H2.out (by omega)
      obtain ⟨z, hz⟩ : ∃ z, zs[k]? = some z := ⟨_, List.getElem?_eq_getElem (by have := S1.out; omega)⟩
      obtain ⟨y, hy⟩ : ∃ y, ys[k]? = some y := ⟨_, List.getElem?_eq_getElem (by have := S2.out; omega)⟩
      have x1 := g1 k z hz
      have x2 := g2 k y hy
      have HZ := Lib.hid hz
      have HY := Lib.hid hy
      clear g1 g2 hz hy
      have y3 : (0 : Int) ≤ (k : Int) := by omega
      have y1 : (k : Int) < (n1 : Int) := by omega
      by_cases e : z = y
      · subst e
        go_wp2_with fail
        go_quiet (fail)
        go_wp2_with fail
        go_roundw
        case rel => exact ⟨k + 1, by omega, by go_num, ⟨nd + nq, by simp⟩, Lib.hid (fun j hj => by
          by_cases e : j = k
          · subst e; rw [HZ.out, HY.out]
          · exact hR.out j (by omega))⟩
        case measure => simp [intOf]; omega
      · have e0 : (z != y) = true := by simpa using e
        have D := Lib.hid (show d = false from HD.out.symm.trans <| decide_eq_false (fun e2 => e (by have := HZ.out; rw [e2, HY.out] at this; injection this with this; exact this.symm)))
        clear e
        go_wp2_with fail
        go_quiet (fail)
        go_wp2_with fail
        go_ret
        exact ⟨by rw [D.out]; rfl, nd + nq, by simp⟩
    · obtain rfl : k = n1 := by omega
      have D := Lib.hid (show d = true from HD.out.symm.trans <| decide_eq_true (List.ext_getElem? (fun j => by
        by_cases hj : j < k
        · exact hR.out j hj
        · rw [List.getElem?_eq_none (by have := S1.out; omega), List.getElem?_eq_none (by have := S2.out; omega)])))
      go_wp2_with fail
      go_ret
      exact ⟨by rw [D.out]; rfl, nd, rfl⟩

theorem blk_cells {W : World} {b o : Nat} {x : Bk} {na : Option Addr} {nc : Nat} (h : W.rangeAt b o (cell3 (x, (na, nc)))) :
    W.cell? ⟨b, o, none⟩ = some (.int .i64 x.fr) ∧ W.cell? ⟨b, o + 1, none⟩ = some (.int .i64 x.to) ∧ W.cell? ⟨b, o + 2, none⟩ = some (.slice na x.next.length nc) := ⟨h 0 _ rfl, h 1 _ rfl, h 2 _ rfl⟩

set_option maxRecDepth 100000 in
set_option maxHeartbeats 4000000 in
theorem r_same (a1 a2 : Option Addr) (n1 c1 n2 c2 : Nat) (bs cs : List Bk) (W : World) (h1 : Blks W a1 n1 c1 bs) (h2 : Blks W a2 n2 c2 cs) :
    Calls Try.prog 33 #[.slice a1 n1 c1, .slice a2 n2 c2] W (QB (decide (bs = cs)) W) := by
  generalize hd : decide (bs = cs) = d
  have HD := Lib.hid hd; clear hd
  have l1 := h1.le
  have f1 := h1.fit
  have l2 := h2.le
  have f2 := h2.fit
  have S1 := Lib.hid h1.size
  have S2 := Lib.hid h2.size
  have H1 := Lib.hid h1.here
  have H2 := Lib.hid h2.here
  clear h1 h2
  by_cases hn : n1 = n2
  case neg =>
    have D := Lib.hid (show d = false from HD.out.symm.trans <| decide_eq_false (fun e => hn (by rw [S1.out, S2.out, e])))
    have e0 : ((n1 : Int) != (n2 : Int)) = true := by simpa using (by omega : ¬ (n1 : Int) = n2)
    clear hn
    go_enter Try.func33, Try.ntmps33
    go_wp2
    go_ret
    exact ⟨by rw [D.out]; rfl, 0, rfl⟩
  subst hn
  go_enter Try.func33, Try.ntmps33
  go_wp2_with fail
  go_loopw [5] (fun i wr => ∃ k : Nat, k ≤ n1 ∧ i = .int .i64 k ∧ (∃ n, W.drewN n = wr) ∧ Hid (∀ j, j < k → bs[j]? = cs[j]?)) (fun i _ => n1 - (intOf i).toNat)
  case atStart => exact ⟨0, by omega, rfl, ⟨0, rfl⟩, Lib.hid (fun j h => by omega)⟩
  case round =>
    obtain ⟨k, hk, rfl, ⟨nd, rfl⟩, hR⟩ := hrel
    by_cases hlt : k < n1
    · obtain ⟨b1, o1, rfl, g1⟩ := H1.out (by omega)
      obtain ⟨b2, o2, rfl, g2⟩ := H2.out (by omega)
      obtain ⟨x, hx⟩ : ∃ x, bs[k]? = some x := ⟨_, List.getElem?_eq_getElem (by have := S1.out; omega)⟩
      obtain ⟨y, hy⟩ : ∃ y, cs[k]? = some y := ⟨_, List.getElem?_eq_getElem (by have := S2.out; omega)⟩
      obtain ⟨na1, nc1, q1, i1⟩ := g1 k x hx
      obtain ⟨na2, nc2, q2, i2⟩ := g2 k y hy
      obtain ⟨x0, x1, x2⟩ := blk_cells q1
      obtain ⟨y0, y1, y2⟩ := blk_cells q2
      have I1 := Lib.hid (fun n => i1.below (below_drewN (Below.refl _ W) n))
      have I2 := Lib.hid (fun n => i2.below (below_drewN (Below.refl _ W) n))
      have IN := Lib.hid (fun n => r_ints na1 na2 _ nc1 _ nc2 x.next y.next (W.drewN n) (I1.out n) (I2.out n))
      have HX := Lib.hid hx
      have HY := Lib.hid hy
      clear g1 g2 hx hy q1 q2 i1 i2 I1 I2
      obtain ⟨xf, xt, xn⟩ := x
      obtain ⟨yf, yt, yn⟩ := y
      simp only at *
      have y3 : (0 : Int) ≤ (k : Int) := by omega
      have y4 : (k : Int) < (n1 : Int) := by omega
      have NE := Lib.hid (show ¬ (xf = yf ∧ xt = yt ∧ xn = yn) → d = false from fun h => HD.out.symm.trans <| decide_eq_false (fun e => h (by
        have := HX.out; rw [e, HY.out] at this; injection this with this; injection this with a1 a2 a3; exact ⟨a1.symm, a2.symm, a3.symm⟩)))
      by_cases ef : xf = yf
      case neg =>
        have e0 : (xf != yf) = true := by simpa using ef
        have D := Lib.hid (NE.out (fun h => ef h.1))
        clear ef IN
        go_wp2_with fail
        go_quiet (fail)
        go_wp2_with fail
        go_ret
        exact ⟨by rw [D.out]; rfl, nd + nq, by simp⟩
      subst ef
      by_cases et : xt = yt
      case neg =>
        have e0 : (xt != yt) = true := by simpa using et
        have D := Lib.hid (NE.out (fun h => et h.2.1))
        clear et IN
        go_wp2_with fail
        go_quiet (fail)
        go_wp2_with fail
        go_ret
        exact ⟨by rw [D.out]; rfl, nd + nq, by simp⟩
      subst et
      by_cases en : xn = yn
      · subst en
        rw [decide_eq_true rfl] at IN
        go_wp2_with fail
        go_quiet ((go_at_call 29; exact QB.quiet2 (IN.out _)))
        go_wp2_with fail
        go_roundw
        case rel => exact ⟨k + 1, by omega, by go_num, ⟨nd + nq, by simp⟩, Lib.hid (fun j hj => by
          by_cases e : j = k
          · subst e; rw [HX.out, HY.out]
          · exact hR.out j (by omega))⟩
        case measure => simp [intOf]; omega
      · have D := Lib.hid (NE.out (fun h => en h.2.2))
        rw [decide_eq_false en] at IN
        clear en
        go_wp2_with fail
        go_quiet ((go_at_call 29; exact QB.quiet2 (IN.out _)))
        go_wp2_with fail
        go_ret
        exact ⟨by rw [D.out]; rfl, nd + nq, by simp⟩
    · obtain rfl : k = n1 := by omega
      have D := Lib.hid (show d = true from HD.out.symm.trans <| decide_eq_true (List.ext_getElem? (fun j => by
        by_cases hj : j < k
        · exact hR.out j hj
        · rw [List.getElem?_eq_none (by have := S1.out; omega), List.getElem?_eq_none (by have := S2.out; omega)])))
      go_wp2_with fail
      go_ret
      exact ⟨by rw [D.out]; rfl, nd, rfl⟩
end Go.Proofs.Ytbpefomjmjkciaa.Blk
