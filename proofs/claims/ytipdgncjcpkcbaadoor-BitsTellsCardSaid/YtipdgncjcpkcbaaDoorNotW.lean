/-
  The call Not of package bits over its table of opposites; the law BitsNot.
-/
import Derived.Test.YtipdgncjcpkcbaaDoorLawKit
namespace Go.Proofs.YtipdgncjcpkcbaaDoor
open Go.RowKit
set_option linter.unusedVariables false

/-- The table's numbers. -/
def opps : List Int := [1, 0, 5, 4, 3, 2, 9, 8, 7, 6]
def oppI (cc : Int) : Int := opps.getD cc.toNat 0
def notB (cc : Int) : Bool := decide (0 ≤ cc ∧ cc < 10)
def notI (cc : Int) : Int := if 0 ≤ cc ∧ cc < 10 then oppI cc else 0

/-- The table stands in memory as it was laid. -/
def Opps (W : World) : Prop := ∀ i, i < 10 → W.cell? ⟨0, i, none⟩ = some (.int .i8 (opps.getD i 0))
theorem Opps.below {W w' : World} (h : Opps W) {B : Nat} (hb : Below B W w') (hB : W.heap.size ≤ B) : Opps w' := fun i hi =>
  (hb.cell (p := ⟨0, i, none⟩) (Nat.lt_of_lt_of_le (lt_of_cell (h i hi)) hB)).trans (h i hi)

set_option maxHeartbeats 1000000 in
theorem not_any (cc : Int) (hcc : -128 ≤ cc ∧ cc ≤ 127) (W : World) (hO : Opps W) :
    Calls Tryd.prog 9 #[.int .i8 cc] W fun e w' => e = .returned (.tuple #[.int .i8 (notI cc), .bool (notB cc)]) ∧ W = w' := by
  have HO := Lib.hid hO; clear hO
  obtain ⟨c0, c1⟩ := hcc
  by_cases h0 : cc < 0
  · have e1 : notI cc = 0 := if_neg (by omega)
    have e2 : notB cc = false := decide_eq_false (by omega)
    rw [e1, e2]; clear e1 e2
    go_enter Tryd.func9, Tryd.ntmps9
    go_wp2
    go_ret2
    exact ⟨rfl, rfl⟩
  by_cases h1 : 10 ≤ cc
  · have e1 : notI cc = 0 := if_neg (by omega)
    have e2 : notB cc = false := decide_eq_false (by omega)
    rw [e1, e2]; clear e1 e2
    go_enter Tryd.func9, Tryd.ntmps9
    go_wp2
    go_ret2
    exact ⟨rfl, rfl⟩
  · obtain ⟨k, rfl⟩ := Int.eq_ofNat_of_zero_le (show 0 ≤ cc by omega)
    have hk : k < 10 := by omega
    have e1 : notI (k : Int) = opps.getD k 0 := by unfold notI; rw [if_pos ⟨by omega, by omega⟩]; rfl
    have e2 : notB (k : Int) = true := decide_eq_true (by omega)
    rw [e1, e2]; clear e1 e2
    have hc := HO.out k hk
    go_enter Tryd.func9, Tryd.ntmps9
    go_wp2
    go_ret2
    exact ⟨rfl, rfl⟩
end Go.Proofs.YtipdgncjcpkcbaaDoor
