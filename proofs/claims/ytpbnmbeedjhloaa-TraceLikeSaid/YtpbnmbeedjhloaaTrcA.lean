/-
  Outcomes of runs: rows of words and of events in memory; words compared.
-/
import Derived.Test.YtpbnmbeedjhloaaRows
import Derived.Test.YtpbnmbeedjhloaaStore
import Derived.WalkKit
import Derived.WalkSpells
import Derived.WalkLawsBesides
import Derived.Lib.Hide
import Derived.Handy
import Derived.BigQuiet
import Derived.Deep.QuietTactic
import Derived.Deep.RegionHeld3
import Derived.Deep.MidRow
namespace Go.Proofs.Ytpbnmbeedjhloaa.Trc
open Go.RowKit
set_option linter.unusedVariables false

theorem retB {a b : Bool} (h : a = b) : Ending.returned (.bool a) = .returned (.bool b) := by rw [h]
theorem below_drewN {B : Nat} {W w : World} (h : Below B W w) : ∀ n, Below B W (w.drewN n)
  | 0 => h
  | n + 1 => (below_drewN h n).drew
theorem lt_of_cell {w : World} {b o : Nat} {v : Value} (h : w.cell? ⟨b, o, none⟩ = some v) : b < w.heap.size := World.block_lt_of_cell? w _ h
theorem rangeAt_below {W w : World} {b o : Nat} {cs : List Value} (h : Below W.heap.size W w) (hc : W.rangeAt b o cs) : w.rangeAt b o cs := fun j v hv => by
  have := hc j v hv
  exact (h.cell (p := ⟨b, o + j, none⟩) (lt_of_cell this)).trans this

/-- A row of numbers of 64 bits that can be read. -/
structure WordsAt (W : World) (a : Option Addr) (len cap : Nat) (zs : List Int) : Prop where
  size : len = zs.length
  le : len ≤ cap
  fit : cap ≤ 9223372036854775807
  here : 0 < len → ∃ b o, a = some ⟨b, o, none⟩ ∧ ∀ j z, zs[j]? = some z → W.cell? ⟨b, o + j, none⟩ = some (.int .u64 z)
  nilc : a = none → cap = 0
theorem WordsAt.below {W w : World} {a : Option Addr} {len cap : Nat} {zs : List Int} (h : WordsAt W a len cap zs) (b : Below W.heap.size W w) : WordsAt w a len cap zs :=
  ⟨h.size, h.le, h.fit, fun hp => by
    obtain ⟨b', o, e, hc⟩ := h.here hp
    exact ⟨b', o, e, fun j z hz => (b.cell (p := ⟨b', o + j, none⟩) (lt_of_cell (hc j z hz))).trans (hc j z hz)⟩, h.nilc⟩
theorem WordsAt.take {W : World} {a : Option Addr} {len cap : Nat} {zs : List Int} (h : WordsAt W a len cap zs) {n : Nat} (hn : n ≤ len) : WordsAt W a n cap (zs.take n) :=
  ⟨by rw [List.length_take, ← h.size]; omega, Nat.le_trans hn h.le, h.fit, fun hp => by
    obtain ⟨b', o, e, hc⟩ := h.here (by omega)
    refine ⟨b', o, e, fun j z hz => hc j z ?_⟩
    rw [List.getElem?_take] at hz
    split at hz
    · exact hz
    · exact absurd hz (by simp), h.nilc⟩

/-- An event. -/
structure Ev where
  num : Int
  args : List Int
  ans : Int
instance instEv : DecidableEq Ev := fun x y => decidable_of_iff (x.num = y.num ∧ x.args = y.args ∧ x.ans = y.ans) ⟨fun ⟨a, b, c⟩ => by cases x; cases y; simp only at a b c; subst a b c; rfl, fun e => by subst e; exact ⟨rfl, rfl, rfl⟩⟩
/-- An event's three cells; where its arguments lie. -/
def cellE (x : Ev) (na : Option Addr) (nc : Nat) : List Value := [.int .i64 x.num, .slice na x.args.length nc, .int .u64 x.ans]
/-- A row of events that can be read. -/
structure EvsAt (W : World) (a : Option Addr) (len cap : Nat) (es : List Ev) : Prop where
  size : len = es.length
  le : len ≤ cap
  fit : cap ≤ 9223372036854775807
  here : 0 < len → ∃ b o, a = some ⟨b, o, none⟩ ∧ ∀ i x, es[i]? = some x → ∃ na nc, W.rangeAt b (o + i * 3) (cellE x na nc) ∧ WordsAt W na x.args.length nc x.args
  nilc : a = none → cap = 0
theorem EvsAt.below {W w : World} {a : Option Addr} {len cap : Nat} {es : List Ev} (h : EvsAt W a len cap es) (b : Below W.heap.size W w) : EvsAt w a len cap es :=
  ⟨h.size, h.le, h.fit, fun hp => by
    obtain ⟨b', o, e, hc⟩ := h.here hp
    refine ⟨b', o, e, fun i x hx => ?_⟩
    obtain ⟨na, nc, h1, h2⟩ := hc i x hx
    exact ⟨na, nc, rangeAt_below b h1, h2.below b⟩, h.nilc⟩
theorem EvsAt.take {W : World} {a : Option Addr} {len cap : Nat} {es : List Ev} (h : EvsAt W a len cap es) {n : Nat} (hn : n ≤ len) : EvsAt W a n cap (es.take n) :=
  ⟨by rw [List.length_take, ← h.size]; omega, Nat.le_trans hn h.le, h.fit, fun hp => by
    obtain ⟨b', o, e, hc⟩ := h.here (by omega)
    refine ⟨b', o, e, fun j z hz => hc j z ?_⟩
    rw [List.getElem?_take] at hz
    split at hz
    · exact hz
    · exact absurd hz (by simp), h.nilc⟩
theorem EvsAt.nil (W : World) : EvsAt W none 0 0 [] := ⟨rfl, Nat.le_refl _, by omega, fun h => absurd h (by decide), fun _ => rfl⟩
theorem ev_cells {W : World} {b o : Nat} {x : Ev} {na : Option Addr} {nc : Nat} (h : W.rangeAt b o (cellE x na nc)) :
    W.cell? ⟨b, o, none⟩ = some (.int .i64 x.num) ∧ W.cell? ⟨b, o + 1, none⟩ = some (.slice na x.args.length nc) ∧ W.cell? ⟨b, o + 2, none⟩ = some (.int .u64 x.ans) := ⟨h 0 _ rfl, h 1 _ rfl, h 2 _ rfl⟩

/-- Is a row the other one's beginning? -/
def preB {α : Type} [DecidableEq α] (l m : List α) : Bool := decide (l = m.take l.length)
theorem preB_iff {α : Type} [DecidableEq α] {l m : List α} : preB l m = true ↔ ∃ r, m = l ++ r := by
  unfold preB
  rw [decide_eq_true_iff]
  constructor
  · intro h
    exact ⟨m.drop l.length, by have := List.take_append_drop l.length m; rw [← h] at this; exact this.symm⟩
  · rintro ⟨r, rfl⟩
    simp
theorem preB_long {α : Type} [DecidableEq α] {l m : List α} (h : m.length < l.length) : preB l m = false := by
  cases hp : preB l m
  · rfl
  · obtain ⟨r, rfl⟩ := preB_iff.1 hp
    simp at h; omega
theorem preB_same {α : Type} [DecidableEq α] {l m : List α} (h : l.length = m.length) : preB l m = decide (l = m) := by
  unfold preB; rw [h, List.take_length]

theorem sameWord_any (x y : Int) (W : World) : Calls Try.prog 136 #[.int .u64 x, .int .u64 y] W fun e w' => e = .returned (.bool (x == y)) ∧ W = w' := by
  go_enter Try.func136, Try.ntmps136
  go_wp2
  go_ret
  exact ⟨rfl, rfl⟩

set_option maxHeartbeats 1000000 in
theorem equalW_any (a1 a2 : Option Addr) (n1 c1 n2 c2 : Nat) (zs ys : List Int) (W : World) (h1 : WordsAt W a1 n1 c1 zs) (h2 : WordsAt W a2 n2 c2 ys) :
    Calls Try.prog 146 #[.slice a1 n1 c1, .slice a2 n2 c2, .func (.func 136) #[] #[]] W fun e w' => e = .returned (.bool (decide (zs = ys))) ∧ W = w' := by
  generalize hd : decide (zs = ys) = d
  have HD := Lib.hid hd; clear hd
  have l1 := h1.le
  have f1 := h1.fit
  have l2 := h2.le
  have f2 := h2.fit
  have S1 := Lib.hid h1.size
  have S2 := Lib.hid h2.size
  have H1 := Lib.hid h1.here
  have H2 := Lib.hid h2.here
  clear h1 h2
  by_cases hn : n1 = n2
  case neg =>
    have D := Lib.hid (show d = false from HD.out.symm.trans <| decide_eq_false (fun e => hn (by rw [S1.out, S2.out, e])))
    have e0 : ((n1 : Int) != (n2 : Int)) = true := by simpa using (by omega : ¬ (n1 : Int) = n2)
    clear hn
    go_enter Try.func146, Try.ntmps146
    go_wp2
    go_ret
    exact ⟨by rw [D.out]; rfl, rfl⟩
  subst hn
  go_enter Try.func146, Try.ntmps146
  go_wp2_with fail
  go_loop [17] (fun i => ∃ k : Nat, k ≤ n1 ∧ i = .int .i64 k ∧ Hid (∀ j, j < k → zs[j]? = ys[j]?)) (fun i => n1 - (intOf i).toNat)
  case atStart => exact ⟨0, by omega, rfl, Lib.hid (fun j h => by omega)⟩
  case round =>
    obtain ⟨k, hk, rfl, hR⟩ := hrel
    by_cases hlt : k < n1
    · obtain ⟨b1, o1, rfl, g1⟩ := H1.out (by omega)
      obtain ⟨b2, o2, rfl, g2⟩ := H2.out (by omega)
      obtain ⟨z, hz⟩ : ∃ z, zs[k]? = some z := ⟨_, List.getElem?_eq_getElem (by have := S1.out; omega)⟩
      obtain ⟨y, hy⟩ : ∃ y, ys[k]? = some y := ⟨_, List.getElem?_eq_getElem (by have := S2.out; omega)⟩
      have x1 := g1 k z hz
      have x2 := g2 k y hy
      have HZ := Lib.hid hz
      have HY := Lib.hid hy
      clear g1 g2 hz hy
      have y3 : (0 : Int) ≤ (k : Int) := by omega
      have y1 : (k : Int) < (n1 : Int) := by omega
      have SW := Lib.hid (fun W => sameWord_any z y W)
      generalize hb : (z == y) = bb at SW
      have HB := Lib.hid hb; clear hb
      go_wp2_with fail
      refine (SW.out _).mono ?_
      rintro e w1 ⟨rfl, rfl⟩
      clear SW
      cases bb
      · have D := Lib.hid (show d = false from HD.out.symm.trans <| decide_eq_false (fun e2 => by
          have h := HZ.out
          rw [e2, HY.out] at h
          injection h with h
          have := HB.out
          rw [h] at this
          simp at this))
        go_wp2_with fail
        go_ret
        exact ⟨by rw [D.out]; rfl, rfl⟩
      · have E := Lib.hid (show z = y by simpa using HB.out)
        go_wp2_with fail
        go_round
        case rel => exact ⟨k + 1, by omega, by go_num, Lib.hid (fun j hj => by
          by_cases e : j = k
          · subst e; rw [HZ.out, HY.out, E.out]
          · exact hR.out j (by omega))⟩
        case measure => simp [intOf]; omega
    · obtain rfl : k = n1 := by omega
      have D := Lib.hid (show d = true from HD.out.symm.trans <| decide_eq_true (List.ext_getElem? (fun j => by
        by_cases hj : j < k
        · exact hR.out j hj
        · rw [List.getElem?_eq_none (by have := S1.out; omega), List.getElem?_eq_none (by have := S2.out; omega)])))
      go_wp2_with fail
      go_ret
      exact ⟨by rw [D.out]; rfl, rfl⟩

theorem beginsW_any (a1 a2 : Option Addr) (n1 c1 n2 c2 : Nat) (zs ys : List Int) (W : World) (h1 : WordsAt W a1 n1 c1 zs) (h2 : WordsAt W a2 n2 c2 ys) :
    Calls Try.prog 135 #[.slice a1 n1 c1, .slice a2 n2 c2, .func (.func 136) #[] #[]] W fun e w' => e = .returned (.bool (preB zs ys)) ∧ W = w' := by
  have l1 := h1.le
  have f1 := h1.fit
  have l2 := h2.le
  have f2 := h2.fit
  by_cases hn : n1 ≤ n2
  · have E := Lib.hid (fun W h h' => equalW_any a1 a2 n1 c1 n1 c2 zs (ys.take n1) W h h')
    have H1 := Lib.hid h1
    have H2 := Lib.hid (h2.take hn)
    have HP := Lib.hid (show decide (zs = ys.take n1) = preB zs ys by unfold preB; rw [h1.size])
    rw [HP.out] at E
    clear h1 h2 HP
    generalize preB zs ys = d at *
    generalize ys.take n1 = yt at *
    go_enter Try.func135, Try.ntmps135
    go_wp2_with fail
    refine (E.out _ H1.out H2.out).mono ?_
    rintro e w1 ⟨rfl, rfl⟩
    go_wp2_with fail
    go_ret
    exact ⟨rfl, rfl⟩
  · rw [preB_long (by rw [← h1.size, ← h2.size]; omega)]
    clear h1 h2
    go_enter Try.func135, Try.ntmps135
    go_wp2_with fail
    go_ret
    exact ⟨rfl, rfl⟩
end Go.Proofs.Ytpbnmbeedjhloaa.Trc
