/-
  What the walks of layer 13's laws share.
-/
import Derived.Test.YtjhjpllgoakncaaDoorEcW
import Derived.Deep.RegionHeld3
namespace Go.Proofs.YtjhjpllgoakncaaDoor.Mrm
open Go Go.RowKit
set_option linter.unusedVariables false
set_option linter.unnecessarySimpa false
set_option linter.unusedSimpArgs false
set_option maxRecDepth 100000

theorem eqX_false {x y : Xi} (h : ¬ x = y) : eqX x y = false := by
  cases e : eqX x y
  · rfl
  · exact absurd (eqX_iff.1 e) h
theorem eqX_refl (x : Xi) : eqX x x = true := eqX_iff.2 rfl
theorem bts_slice {base : Nat} {w : World} {v : Value} {l : List Int} (h : Bts base w v l) : ∃ p c, v = .slice p l.length c := by
  rcases h.2 with ⟨h1, h2⟩ | ⟨g, cap, cur, e1, h⟩
  · obtain rfl : l = [] := List.eq_nil_of_length_eq_zero h2
    exact ⟨none, 0, h1⟩
  · exact ⟨_, _, e1⟩
theorem info_X {X : Array Value} (h : X.size = 8) : (Tryd.prog.info? 24).map (·.size) = some X.size := by rw [h]; kernel_rfl
theorem wpList_gload_row {P : Program} {ops : Array Oper} {rest : List Oper} {o : Oper} {a : Act} {w : World} {Q : Exit → Act → World → Prop} (hw : Region.wanted o (yielded ops a.tmps) = true) (ty : TypeId) (x : Operand) (ho : o.op = .load ty x)
    (g : Nat) (hx : a.eval x = .pointer (some ⟨g, 0, none⟩)) (t : TypeId) (cs : Array Value) (fr : Nat × Nat) (d : TypeDesc) (hg : w.heap[g]? = some (.cells cs t fr))
    (hu : P.underlying ty = some d) (hd : (match d with | .struct _ | .array _ _ => true | _ => false) = true) (hi : (P.info? ty).map (·.size) = some cs.size)
    (h : wpList P ops Q rest (a.put o.dst (.agg cs)) w) : wpList P ops Q (o :: rest) a w :=
  wpList_step fun K hK => by rw [if_pos hw]; exact wp_load_row ty x ho g hx t cs fr d hg hu hd hi (hK _ _ h)
theorem halt_load0 {P : Program} {ops : Array Oper} {rest : List Oper} {o : Oper} {a : Act} {w : World} {Q : Exit → Act → World → Prop} (ty : TypeId) (x : Operand) (ho : o.op = .load ty x) (hg : o.guard = none)
    (h : wpList P ops Q (o :: rest) a w ∧ True) : wpList P ops Q (o :: rest) a w := h.1
theorem str_ne {zs ys : List Int} (h1 : Oks zs) (h2 : Oks ys) (h : ¬ zs = ys) : ((strOfNums zs).toList == (strOfNums ys).toList) = false := by
  rw [beq_eq_false_iff_ne]
  exact fun e => h (str_inj h1 h2 (by
    rw [ByteArray.toList_eq, ByteArray.toList_eq] at e
    exact ByteArray.ext (Array.toList_inj.1 e)))
theorem bytL_ok (x : Xi) (hX : XOk x) : Oks (bytL x) := by
  unfold bytL
  cases h : mayX x
  · intro z hz; cases hz
  · exact bytes_ok x hX h
theorem bytL_len (x : Xi) (hX : XOk x) : (bytL x).length ≤ 14 := by
  unfold bytL
  cases h : mayX x
  · exact Nat.zero_le _
  · exact bytes_len x hX h
theorem bytL_no {x : Xi} (h : mayX x = false) : bytL x = [] ∧ bytC x = 2 := by unfold bytL bytC; rw [h]; exact ⟨rfl, rfl⟩
theorem bytL_yes {x : Xi} (h : mayX x = true) : bytL x = bytesX x ∧ bytC x = 0 := by unfold bytL bytC; rw [h]; exact ⟨rfl, rfl⟩
end Go.Proofs.YtjhjpllgoakncaaDoor.Mrm
