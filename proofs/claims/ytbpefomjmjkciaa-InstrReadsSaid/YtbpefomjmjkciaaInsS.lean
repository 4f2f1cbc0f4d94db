/-
  slices.Chunk at 8 bytes: its closure, for every loop body.
-/
import Derived.Test.YtbpefomjmjkciaaInsA
import Derived.RangeFuncBox
import Derived.RangeFuncLeaves
import Derived.RangeFuncNested
import Derived.RangeFuncBound
import Derived.RangeFuncCalls
import Derived.Shelf.Abstract
import Derived.Shelf.RegionOpen
import Derived.WalkKit
import Derived.OwnWalkIn
import Derived.TacticsInMore
import Derived.LoopNIn
import Derived.LoopIn
import Derived.Maps.AppendAt
import Derived.Lib.MinMax
import Derived.Lib.Hide
namespace Go.Proofs.Ytbpefomjmjkciaa.Ins
open Go.RowKit Go.Shelf
set_option linter.unusedVariables false
set_option maxRecDepth 100000
attribute [local go_sem] Oper.semAt_some

/-- What has come when k rounds are over. -/
def upto (k : Nat) : List Nat := List.range k
theorem upto_succ (k : Nat) : upto (k + 1) = upto k ++ [k] := by simp [upto, List.range_succ]
theorem upto_length (k : Nat) : (upto k).length = k := by simp [upto]
/-- The slice of eight from place 8 k on. -/
def enc8 (b off k : Nat) : Value := .slice (some ⟨b, off + 8 * k, none⟩) 8 8

set_option maxHeartbeats 2000000 in
theorem chunk1_in (n : Nat) (hn : 1 ≤ n) (l Bs Bn n₀ b off m cap : Nat) (hm : m ≤ 64) (hcap : 8 * m ≤ cap) (hcap2 : cap ≤ 9223372036854775807) (hBs : Bs < n₀) (hBn : Bn < n₀) (J Jx : List Nat → World → Prop)
    (hY : ∀ pre x W, J pre W → pre.length < m → YieldAt Fence.wide (n - 1) Try.prog l #[enc8 b off x] W fun e W' =>
      (e = .returned (.bool true) ∧ J (pre ++ [x]) W' ∧ Below n₀ W W') ∨ (e = .returned (.bool false) ∧ Jx (pre ++ [x]) W'))
    (W : World) (hJ : AbidesFrom W.heap.size J) (cS : W.cell? ⟨Bs, 0, none⟩ = some (.slice (some ⟨b, off, none⟩) (8 * m) cap)) (cN : W.cell? ⟨Bn, 0, none⟩ = some (.int .i64 8)) (h0 : J [] W) :
    CallsIn Fence.wide n Try.prog 83 #[.func (.yield l) #[] #[], .pointer (some ⟨Bs, 0, none⟩), .pointer (some ⟨Bn, 0, none⟩)] W fun e W' => (∃ v, e = .returned v) ∧
      ((∃ ys, ys = upto m ∧ J ys W') ∨ (∃ pre, (∃ k, k ≤ m ∧ pre = upto k) ∧ Jx pre W')) := by
  refine callsIn_of_wp Try.func83 rfl trivial ?_ rfl
  simp only [Try.ntmps83, List.size_toArray, List.length_cons, List.length_nil, Nat.reduceAdd, Nat.reduceSub, Array.replicate_succ, Array.replicate_zero, List.push_toArray, List.append_toArray, List.nil_append, List.cons_append]
  gi_wp2
  gi_loopw [4] (fun i wr => ∃ k : Nat, k ≤ m ∧ i = .int .i64 ((8 * k : Nat) : Int) ∧ J (upto k) wr ∧ Below n₀ W wr)
    (fun i _ => 8 * m - (intOf i).toNat)
  case atStart => exact ⟨0, Nat.zero_le _, rfl, h0, Below.refl _ _⟩
  case round =>
    obtain ⟨k, hk, rfl, hJs, hnx⟩ := hrel
    have cS' := (hnx.cell (p := ⟨Bs, 0, none⟩) hBs).trans cS
    have cN' := (hnx.cell (p := ⟨Bn, 0, none⟩) hBn).trans cN
    by_cases hlt : k < m
    · have i0 : (0 : Int) ≤ ((8 * k : Nat) : Int) := by omega
      have i1 : ((8 * k : Nat) : Int) < ((8 * m : Nat) : Int) := by omega
      have i2 : ((8 * k : Nat) : Int) + 8 ≤ ((8 * m : Nat) : Int) := by omega
      have mn : min (8 : Int) ((8 * m - 8 * k : Nat) : Int) = 8 := by omega
      have e8 : (8 * (k : Int) + 8).toNat - 8 * k = 8 := by omega
      gi_wp2
      have mo : Try.prog.follows .mixedOrders = true := by kernel_rfl
      gi_quiet (fail)
      have bd := below_drewN (Below.refl wr.heap.size wr) nq
      obtain ⟨fn, tmps, assign, body, hy, hR⟩ := hY _ k (wr.drewN nq) (hJ _ _ _ none hJs ⟨bd.os, bd.tape, bd.output, bd.size, fun k hk _ => bd.block k hk⟩ (fun r e => by cases e)) (by rw [upto_length]; exact hlt)
      dsimp only [enc8] at hy
      gi_wp2
      refine hR.mono ?_
      rintro e W3 (⟨rfl, hJ3, hk3⟩ | ⟨rfl, hJx3⟩)
      · have hn3 := (below_drewN hnx nq).trans hk3
        have cN3 := (hn3.cell (p := ⟨Bn, 0, none⟩) hBn).trans cN
        gi_wp2
        go_roundw
        case rel => exact ⟨k + 1, by omega, by go_num, by rw [upto_succ]; exact hJ3, hn3⟩
        case measure => simp [intOf]; omega
      · gi_wp2
        refine bodyPost_ret (results_none rfl _ _ _) rfl ?_
        exact ⟨⟨_, rfl⟩, .inr ⟨_, ⟨k + 1, by omega, (upto_succ _).symm⟩, hJx3⟩⟩
    · obtain rfl : k = m := by omega
      gi_wp2
      go_end0
      exact ⟨⟨_, rfl⟩, .inl ⟨_, rfl, hJs⟩⟩
end Go.Proofs.Ytbpefomjmjkciaa.Ins
