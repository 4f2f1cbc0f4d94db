/-
  bytes.Equal, HasPrefix, CutPrefix where the prefix is nothing or one byte.
-/
import Derived.Test.YtjhjpllgoakncaaDoorMqH
namespace Go.Proofs.YtjhjpllgoakncaaDoor.Mrm
open Go.RowKit
set_option linter.unusedVariables false
set_option linter.unnecessarySimpa false
set_option linter.unusedSimpArgs false
set_option maxRecDepth 100000

theorem quiet3 {P : Program} {f : FuncId} {args : Array Value} {w : World} {n m : Nat} {v : Value} (h : Calls P f args (w.drewN (n + m)) fun e w' => e = .returned v ∧ w.drewN (n + m) = w') : Calls P f args (w.drewN (n + m)) fun e w'' => e = .returned v ∧ ∃ k, w'' = w.drewN (n + k) :=
  h.mono fun _ _ ⟨he, hm⟩ => ⟨he, m, hm.symm⟩
theorem equal_n (a1 a2 : Option Addr) (n1 c1 n2 c2 : Nat) (zs ys : List Int) (W : World) (h1 : BytesAt W a1 n1 c1 zs) (h2 : BytesAt W a2 n2 c2 ys) :
    Calls Tryd.prog 71 #[.slice a1 n1 c1, .slice a2 n2 c2] W fun e w' => e = .returned (.bool (decide (zs = ys))) ∧ W = w' := by
  have q1 := conv_bytes h1
  have q2 := conv_bytes h2
  by_cases e : zs = ys
  · rw [decide_eq_true e]
    subst e
    clear h1 h2
    generalize strOfNums zs = s at *
    go_enter Tryd.func71, Tryd.ntmps71
    go_wp2_with fail
    go_ret
    exact ⟨rfl, rfl⟩
  · rw [decide_eq_false e]
    have e0 : ((strOfNums zs).toList == (strOfNums ys).toList) = false := by
      rw [beq_eq_false_iff_ne]
      exact fun h => e (str_inj h1.ok h2.ok (by
        rw [ByteArray.toList_eq, ByteArray.toList_eq] at h
        exact ByteArray.ext (Array.toList_inj.1 h)))
    clear h1 h2 e
    generalize strOfNums zs = s at *
    generalize strOfNums ys = t at *
    go_enter Tryd.func71, Tryd.ntmps71
    go_wp2_with fail
    go_ret
    exact ⟨rfl, rfl⟩
theorem at_empty (W : World) (B o c : Nat) (hc : c ≤ 9223372036854775807) : BytesAt W (some ⟨B, o, none⟩) 0 c [] := ⟨rfl, Nat.zero_le _, hc, fun h => absurd h (by decide), fun z hz => (by cases hz), fun h => by cases h⟩
theorem at_one (W : World) (B o c : Nat) (z : Int) (h0 : 0 ≤ z ∧ z < 256) (h : W.cell? ⟨B, o, none⟩ = some (.int .u8 z)) (h1 : 1 ≤ c) (hc : c ≤ 9223372036854775807) : BytesAt W (some ⟨B, o, none⟩) 1 c [z] :=
  ⟨rfl, h1, hc, fun _ => ⟨B, o, rfl, fun j y hy => by
    have hj : j < 1 := (List.getElem?_eq_some_iff.1 hy).1
    obtain rfl : j = 0 := by omega
    obtain rfl : z = y := by simpa using hy
    exact h⟩, one_ok h0, fun h => by cases h⟩
theorem prefix_nil (B o n c : Nat) (W : World) (hn : n ≤ c) (hc : c ≤ 9223372036854775807) :
    Calls Tryd.prog 45 #[.slice (some ⟨B, o, none⟩) n c, .slice none 0 0] W fun e w' => e = .returned (.bool true) ∧ W = w' := by
  have E := Lib.hid (fun W => equal_n (some ⟨B, o, none⟩) none 0 c 0 0 [] [] W (at_empty W B o c hc) (BytesAt.nil W))
  rw [decide_eq_true rfl] at E
  go_enter Tryd.func45, Tryd.ntmps45
  go_wp2_with fail
  refine (E.out _).mono ?_
  rintro e w1 ⟨rfl, rfl⟩
  go_wp2_with fail
  go_ret
  exact ⟨rfl, rfl⟩
theorem prefix_none (B o c g : Nat) (W : World) (hc : c ≤ 9223372036854775807) :
    Calls Tryd.prog 45 #[.slice (some ⟨B, o, none⟩) 0 c, .slice (some ⟨g, 0, none⟩) 1 1] W fun e w' => e = .returned (.bool false) ∧ W = w' := by
  go_enter Tryd.func45, Tryd.ntmps45
  go_wp2_with fail
  go_ret
  exact ⟨rfl, rfl⟩
theorem prefix_one (B o n c g : Nat) (z p : Int) (W : World) (h1 : 1 ≤ n) (hn : n ≤ c) (hc : c ≤ 9223372036854775807) (hz : 0 ≤ z ∧ z < 256) (hp : 0 ≤ p ∧ p < 256) (cz : W.cell? ⟨B, o, none⟩ = some (.int .u8 z)) (cp : W.cell? ⟨g, 0, none⟩ = some (.int .u8 p)) :
    Calls Tryd.prog 45 #[.slice (some ⟨B, o, none⟩) n c, .slice (some ⟨g, 0, none⟩) 1 1] W fun e w' => e = .returned (.bool (decide (z = p))) ∧ W = w' := by
  have E := Lib.hid (equal_n (some ⟨B, o, none⟩) (some ⟨g, 0, none⟩) 1 c 1 1 [z] [p] W (at_one W B o c z hz cz (by omega) hc) (at_one W g 0 1 p hp cp (by omega) (by omega)))
  rw [show decide ([z] = [p]) = decide (z = p) from decide_eq_decide.2 (by simp)] at E
  have h1c : 1 ≤ c := by omega
  clear cz cp hz hp
  go_enter Tryd.func45, Tryd.ntmps45
  go_wp2_with fail
  refine E.out.mono ?_
  rintro e w1 ⟨rfl, rfl⟩
  go_wp2_with fail
  go_ret
  exact ⟨rfl, rfl⟩
theorem cut_nil (B o n c : Nat) (W : World) (h0 : 0 < c) (hn : n ≤ c) (hc : c ≤ 9223372036854775807) :
    Calls Tryd.prog 80 #[.slice (some ⟨B, o, none⟩) n c, .slice none 0 0] W fun e w' => e = .returned (.tuple #[.slice (some ⟨B, o, none⟩) n c, .bool true]) ∧ W = w' := by
  have E := Lib.hid (fun W => prefix_nil B o n c W hn hc)
  go_enter Tryd.func80, Tryd.ntmps80
  go_wp2_with fail
  refine (E.out _).mono ?_
  rintro e w1 ⟨rfl, rfl⟩
  go_wp2_with fail
  go_ret2
  exact ⟨rfl, rfl⟩
theorem cut_nil0 (B o : Nat) (W : World) :
    Calls Tryd.prog 80 #[.slice (some ⟨B, o, none⟩) 0 0, .slice none 0 0] W fun e w' => e = .returned (.tuple #[.slice (some ⟨B, o, none⟩) 0 0, .bool true]) ∧ W = w' := by
  have E := Lib.hid (fun W => prefix_nil B o 0 0 W (by omega) (by omega))
  go_enter Tryd.func80, Tryd.ntmps80
  go_wp2_with fail
  refine (E.out _).mono ?_
  rintro e w1 ⟨rfl, rfl⟩
  go_wp2_with fail
  go_ret2
  exact ⟨rfl, rfl⟩
theorem cut_none (B o c g : Nat) (W : World) (hc : c ≤ 9223372036854775807) :
    Calls Tryd.prog 80 #[.slice (some ⟨B, o, none⟩) 0 c, .slice (some ⟨g, 0, none⟩) 1 1] W fun e w' => e = .returned (.tuple #[.slice (some ⟨B, o, none⟩) 0 c, .bool false]) ∧ W = w' := by
  have E := Lib.hid (fun W => prefix_none B o c g W hc)
  go_enter Tryd.func80, Tryd.ntmps80
  go_wp2_with fail
  refine (E.out _).mono ?_
  rintro e w1 ⟨rfl, rfl⟩
  go_wp2_with fail
  go_ret2
  exact ⟨rfl, rfl⟩
theorem cut_no (B o n c g : Nat) (z p : Int) (W : World) (h1 : 1 ≤ n) (hn : n ≤ c) (hc : c ≤ 9223372036854775807) (hz : 0 ≤ z ∧ z < 256) (hp : 0 ≤ p ∧ p < 256) (cz : W.cell? ⟨B, o, none⟩ = some (.int .u8 z)) (cp : W.cell? ⟨g, 0, none⟩ = some (.int .u8 p)) (hne : ¬ z = p) :
    Calls Tryd.prog 80 #[.slice (some ⟨B, o, none⟩) n c, .slice (some ⟨g, 0, none⟩) 1 1] W fun e w' => e = .returned (.tuple #[.slice (some ⟨B, o, none⟩) n c, .bool false]) ∧ W = w' := by
  have E := Lib.hid (prefix_one B o n c g z p W h1 hn hc hz hp cz cp)
  rw [decide_eq_false hne] at E
  clear hz hp cz cp hne
  go_enter Tryd.func80, Tryd.ntmps80
  go_wp2_with fail
  refine E.out.mono ?_
  rintro e w1 ⟨rfl, rfl⟩
  go_wp2_with fail
  go_ret2
  exact ⟨rfl, rfl⟩
theorem cut_one (B o n c g : Nat) (p : Int) (W : World) (h1 : 1 ≤ n) (hn : n ≤ c) (h2 : 1 < c) (hc : c ≤ 9223372036854775807) (hp : 0 ≤ p ∧ p < 256) (cz : W.cell? ⟨B, o, none⟩ = some (.int .u8 p)) (cp : W.cell? ⟨g, 0, none⟩ = some (.int .u8 p)) :
    Calls Tryd.prog 80 #[.slice (some ⟨B, o, none⟩) n c, .slice (some ⟨g, 0, none⟩) 1 1] W fun e w' => e = .returned (.tuple #[.slice (some ⟨B, o + 1, none⟩) (n - 1) (c - 1), .bool true]) ∧ W = w' := by
  have E := Lib.hid (prefix_one B o n c g p p W h1 hn hc hp hp cz cp)
  rw [decide_eq_true rfl] at E
  clear hp cz cp
  go_enter Tryd.func80, Tryd.ntmps80
  go_wp2_with fail
  refine E.out.mono ?_
  rintro e w1 ⟨rfl, rfl⟩
  go_wp2_with fail
  go_ret2
  exact ⟨rfl, rfl⟩
theorem cut_end (B o g : Nat) (p : Int) (W : World) (hp : 0 ≤ p ∧ p < 256) (cz : W.cell? ⟨B, o, none⟩ = some (.int .u8 p)) (cp : W.cell? ⟨g, 0, none⟩ = some (.int .u8 p)) :
    Calls Tryd.prog 80 #[.slice (some ⟨B, o, none⟩) 1 1, .slice (some ⟨g, 0, none⟩) 1 1] W fun e w' => e = .returned (.tuple #[.slice (some ⟨B, o, none⟩) 0 0, .bool true]) ∧ W = w' := by
  have E := Lib.hid (prefix_one B o 1 1 g p p W (by omega) (by omega) (by omega) hp hp cz cp)
  rw [decide_eq_true rfl] at E
  clear hp cz cp
  go_enter Tryd.func80, Tryd.ntmps80
  go_wp2_with fail
  refine E.out.mono ?_
  rintro e w1 ⟨rfl, rfl⟩
  go_wp2_with fail
  go_ret2
  exact ⟨rfl, rfl⟩
end Go.Proofs.YtjhjpllgoakncaaDoor.Mrm
