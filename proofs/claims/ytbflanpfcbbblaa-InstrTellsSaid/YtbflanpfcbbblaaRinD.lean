/-
  The document's answers latheref01.Put, latheref03.Bytes.
-/
import Derived.Test.YtbflanpfcbbblaaRinB
import Derived.Test.YtbflanpfcbbblaaRinC
import Derived.Test.YtbflanpfcbbblaaInsJ
import Derived.Lib.MinMax
namespace Go.Proofs.Ytbflanpfcbbblaa.Ins
open Go.RowKit
set_option linter.unusedVariables false

theorem one_new (w : World) (u : Value) (t : TypeId) : ∀ j x, ([u] : List Value)[j]? = some x → (w.alloc (.cells #[u] t)).cell? ((⟨w.heap.size, 0, none⟩ : Addr).add j) = some x := by
  intro j x hx
  have hj : j = 0 := by
    have := (List.getElem?_eq_some_iff.1 hx).1
    simp at this; omega
  subst hj
  obtain rfl : u = x := by simpa using hx
  rw [Go.WideShapes.add_plain]
  simp
/-- A number's bytes as a slice of the call's own. -/
def PutOwn (v : Int) (n : Nat) (W : World) (e : Ending) (w' : World) : Prop :=
  ∃ x, e = .returned x ∧ w'.ownsRow W.heap.size 5 1 x n (u8s ((List.range n).map (byteI v))) ∧ Below W.heap.size W w'

set_option maxRecDepth 100000 in
set_option maxHeartbeats 4000000 in
theorem r_put (v : Int) (n : Nat) (hn : n ≤ 8) (hv0 : 0 ≤ v) (hv1 : v < 18446744073709551616) (W : World) :
    Calls Try.prog 31 #[.int .u64 v, .int .i64 n] W (PutOwn v n W) := by
  have emx : min (n : Int) 8 = (n : Int) := by omega
  obtain ⟨ti, hi1, hi2, hi3, hi4⟩ := info_u8a
  have TI := Lib.hid (And.intro hi1 (And.intro hi2 (And.intro hi3 hi4)))
  clear hi1 hi2 hi3 hi4
  go_enter Try.func31, Try.ntmps31
  go_wp2_with fail
  go_loopw [5, 6] (fun x i wr => ∃ k : Nat, k ≤ n ∧ i = .int .i64 k ∧ Hid (Below W.heap.size W wr ∧ wr.ownsRow W.heap.size 5 1 x k (u8s ((List.range k).map (byteI v))))) (fun _ i _ => n - (intOf i).toNat)
  case atStart => exact ⟨0, by omega, rfl, Lib.hid ⟨Below.refl _ _, World.ownsRow_nil _ _ _ _⟩⟩
  case round =>
    obtain ⟨k, hk, rfl, hR⟩ := hrel
    by_cases hlt : k < n
    · have h63 : k + 1 ≤ 8 := by omega
      have O1 := Lib.hid (owns_below hR.out.2 (below_new (Below.refl _ wr) (.cells #[.int .u8 (v / 2 ^ (8 * k) % 256)] 5)))
      have W1 := Lib.hid (below_new hR.out.1 (.cells #[.int .u8 (v / 2 ^ (8 * k) % 256)] 5))
      have HN := Lib.hid (show u8s ((List.range (k + 1)).map (byteI v)) = u8s ((List.range k).map (byteI v)) ++ [.int .u8 (v / 2 ^ (8 * k) % 256)] by rw [List.range_succ, List.map_append, u8s_append]; rfl)
      have HC := Lib.hid (one_new wr (.int .u8 (v / 2 ^ (8 * k) % 256)) 5)
      go_wp2_with (at_builtin; refine wpList_append_own _ rfl _ _ 30 rfl W.heap.size 5 ti (.int .u8 0) 1 1 Try.underlying30 TI.out.1 TI.out.2.1 TI.out.2.2.1 TI.out.2.2.2 rfl (by decide) _ k _ rfl O1.out ⟨wr.heap.size, 0, none⟩ 1 1 [.int .u8 (v / 2 ^ (8 * k) % 256)] rfl rfl HC.out (by intro u hu; simp at hu; rw [hu]; rfl) (by unfold maxLen; omega) (by omega) W1.out.size ?_)
      intro v8 w8 o8 g8 n8
      have W8 := Lib.hid (below_grown W1.out g8 (fun j hj => (World.ownsRow.lt O1.out j hj).1))
      have O8 := Lib.hid (show w8.ownsRow W.heap.size 5 1 v8 (k + 1) (u8s ((List.range (k + 1)).map (byteI v))) by rw [HN.out]; exact o8)
      clear o8 g8 n8 HN
      go_wp2_with fail
      go_roundw
      case rel => exact ⟨k + 1, by omega, by go_num, Lib.hid ⟨W8.out, O8.out⟩⟩
      case measure => simp [intOf]; omega
    · obtain rfl : k = n := by omega
      go_wp2_with fail
      go_ret
      exact ⟨_, rfl, hR.out.2, hR.out.1⟩
end Go.Proofs.Ytbflanpfcbbblaa.Ins
