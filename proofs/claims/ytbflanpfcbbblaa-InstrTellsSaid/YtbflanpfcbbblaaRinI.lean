/-
  The document's answer latheref03: Bytes of any, Encode.
-/
import Derived.Test.YtbflanpfcbbblaaRinE
import Derived.Test.YtbflanpfcbbblaaRinG
import Derived.Test.YtbflanpfcbbblaaInstrEndsW
namespace Go.Proofs.Ytbflanpfcbbblaa.Ins
open Go.RowKit
set_option linter.unusedVariables false

set_option maxRecDepth 100000 in
set_option maxHeartbeats 1000000 in
theorem r_bytes_no (x : In) (W : World) (h : mayI x = false) : Calls Try.prog 11 #[.agg x.cells] W fun e w' => e = .returned (.tuple #[.slice none 0 0, .int .i64 31]) ∧ Below W.heap.size W w' := by
  have M := Lib.hid (fun W => r_may x W)
  rw [h] at M
  generalize hc : x.cells = c at *
  have L0 : (W.alloc (.cells c 24)).heap[W.heap.size]? = some (.cells c 24 (0, 0)) := heap_last W _ _ rfl
  have i9 : (Try.prog.info? 24).map (·.size) = some c.size := by rw [← hc]; exact info_ins
  have HL := Lib.hid L0; have HI := Lib.hid i9
  clear L0 i9 hc h
  go_enter Try.func11, Try.ntmps11
  go_wp2_with (refine (halt_load 24 _ rfl ?_))
  refine ⟨?_, trivial⟩
  refine wpList_load_row rfl 24 _ rfl W.heap.size rfl _ c _ _ HL.out Try.underlying24 rfl HI.out ?_
  go_wp2_with fail
  refine (M.out _).mono ?_
  rintro e w1 ⟨rfl, b1⟩
  go_wp2_with fail
  go_ret2
  exact ⟨rfl, below_boxed b1⟩

/-- What Encode yields of a program that may be. -/
def REnc (c : Int) (len : Nat) (xs : Nat → In) (W : World) (e : Ending) (w' : World) : Prop :=
  ∃ v, e = .returned (.tuple #[v, .int .i64 0]) ∧ w'.ownsRow W.heap.size 5 1 v (2 + 8 * len) (u8s (encN c xs len)) ∧ Below W.heap.size W w'

set_option maxRecDepth 100000 in
set_option maxHeartbeats 1000000 in
theorem r_encode_no (c : Int) (a : Option Addr) (len cap : Nat) (xs : Nat → In) (W : World) (hx : Insts W a len cap xs) (h0 : ¬ (checkI c len xs).2 = 0) :
    Calls Try.prog 23 #[.agg #[.int .i64 c, .slice a len cap]] W fun e w' => e = .returned (.tuple #[.slice none 0 0, .int .i64 (checkI c len xs).2]) ∧ Below W.heap.size W w' := by
  have C := Lib.hid (fun W h => r_check c a len cap xs W h)
  have HX := Lib.hid hx; clear hx
  generalize (checkI c len xs).2 = r at *
  generalize (checkI c len xs).1 = i at *
  have e0 : (r != 0) = true := by simpa using h0
  clear h0
  go_enter Try.func23, Try.ntmps23
  go_wp2_with fail
  refine (C.out _ (HX.out.below (below_new (Below.refl _ _) _))).mono ?_
  rintro e w2 ⟨rfl, b2⟩
  go_wp2_with fail
  go_ret2
  exact ⟨rfl, below_boxed b2⟩

set_option maxRecDepth 100000 in
set_option maxHeartbeats 8000000 in
theorem r_encode_yes (c : Int) (a : Option Addr) (len cap : Nat) (xs : Nat → In) (W : World) (hx : Insts W a len cap xs) (h0 : (checkI c len xs).2 = 0) (hc0 : 0 ≤ c) (hc1 : c ≤ 256) :
    Calls Try.prog 23 #[.agg #[.int .i64 c, .slice a len cap]] W (REnc c len xs W) := by
  have C := Lib.hid (fun W h => r_check c a len cap xs W h)
  rw [h0] at C
  have l64 : 1 ≤ len ∧ len ≤ 64 ∧ ∀ k, k < len → mayI (xs k) = true := by
    obtain ⟨g1, g2, g3⟩ := ends_facts h0
    exact ⟨g1, g2, fun k hk => (g3 k hk).1⟩
  obtain ⟨g1, g64, hmay⟩ := l64
  have HM := Lib.hid hmay
  obtain ⟨B, q, rfl, hcells⟩ := hx.here (by omega)
  have hfit := hx.fit
  have hle := hx.le
  have HX := Lib.hid hx; have HC := Lib.hid hcells; clear hx hcells hmay h0
  generalize (checkI c len xs).1 = i0 at *
  have PU := Lib.hid (fun W => r_put c 2 (by omega) hc0 (by omega) W)
  obtain ⟨ti, hi1, hi2, hi3, hi4⟩ := info_u8a
  have TI := Lib.hid (And.intro hi1 (And.intro hi2 (And.intro hi3 hi4)))
  clear hi1 hi2 hi3 hi4
  go_enter Try.func23, Try.ntmps23
  go_wp2_with fail
  refine (C.out _ (HX.out.below (below_new (Below.refl _ _) _))).mono ?_
  rintro e w2 ⟨rfl, b2⟩
  have hP0 : w2.cell? ⟨W.heap.size, 0, none⟩ = some (.int .i64 c) := (b2.cell (by simp)).trans (by simp)
  have hP1 : w2.cell? ⟨W.heap.size, 1, none⟩ = some (.slice (some ⟨B, q, none⟩) len cap) := (b2.cell (by simp)).trans (by simp)
  have B2 := Lib.hid (below_boxed b2); clear b2
  go_wp2_with fail
  refine (PU.out _).mono ?_
  rintro e w3 ⟨v3, rfl, o3, b3⟩
  have X3 := Lib.hid (show Below W.heap.size W w3 ∧ w3.cell? ⟨W.heap.size, 1, none⟩ = some (.slice (some ⟨B, q, none⟩) len cap) ∧ W.heap.size < w3.heap.size ∧ w3.ownsRow (W.heap.size + 1) 5 1 v3 (2 + 8 * 0) (u8s (encN c xs 0)) from
    ⟨below_call B2.out b3, (b3.cell (p := ⟨W.heap.size, 1, none⟩) (lt_of_cell hP1)).trans hP1, Nat.lt_of_lt_of_le (lt_of_cell hP1) b3.size, owns_mono (lt_of_cell hP1) o3⟩)
  clear b3 o3 hP0 hP1
  go_wp2_with fail
  go_loopw [6, 7] (fun v i wr => ∃ k : Nat, k ≤ len ∧ i = .int .i64 k ∧ Hid (Below W.heap.size W wr ∧ wr.cell? ⟨W.heap.size, 1, none⟩ = some (.slice (some ⟨B, q, none⟩) len cap) ∧ W.heap.size < wr.heap.size ∧ wr.ownsRow (W.heap.size + 1) 5 1 v (2 + 8 * k) (u8s (encN c xs k)))) (fun _ i _ => len - (intOf i).toNat)
  case atStart => exact ⟨0, by omega, rfl, X3⟩
  case round =>
    clear X3 B2
    obtain ⟨k, hk, rfl, hR⟩ := hrel
    have hP := hR.out.2.1
    by_cases hlt : k < len
    · have HA := Lib.hid (rangeAt_below hR.out.1 (HC.out k hlt))
      have i9 : (Try.prog.info? 24).map (·.size) = some (xs k).cells.toList.length := info_ins
      have HI := Lib.hid i9
      have BY := Lib.hid (fun W => r_bytes_yes (xs k) W (HM.out k hlt))
      have HN := Lib.hid (show u8s (encN c xs (k + 1)) = u8s (encN c xs k) ++ u8s ((List.range 8).map (byteI (packI (xs k)))) from u8s_append _ _)
      have k3 := Lib.hid (show (u8s ((List.range 8).map (byteI (packI (xs k))))).length = 8 * 1 by simp [u8s])
      have k4 := Lib.hid (u8s_one ((List.range 8).map (byteI (packI (xs k)))))
      clear i9
      unfold RBytes at BY
      generalize u8s ((List.range 8).map (byteI (packI (xs k)))) = nl at *
      generalize (xs k).cells = cc at *
      go_wp2_with (refine wpList_load_mid rfl 24 _ rfl B (q + k * 9) rfl cc.toList _ HA.out Try.underlying24 rfl HI.out ?_)
      refine (BY.out _).mono ?_
      rintro e w4 ⟨v4, rfl, o4, b4⟩
      obtain ⟨g4, p4, rfl, hs4⟩ := own_src o4 (by omega)
      have W4 := Lib.hid (below_call hR.out.1 b4)
      have P4 := Lib.hid ((b4.cell (p := ⟨W.heap.size, 1, none⟩) hR.out.2.2.1).trans hP)
      have Z4 := Lib.hid (Nat.lt_of_lt_of_le hR.out.2.2.1 b4.size)
      have O4 := Lib.hid (owns_below hR.out.2.2.2 b4)
      have S4 := Lib.hid hs4
      clear o4 b4 hs4 hP hR BY
      go_wp2_with (at_builtin; refine wpList_append_own w4 rfl _ _ 30 rfl (W.heap.size + 1) 5 ti (.int .u8 0) 1 1 Try.underlying30 TI.out.1 TI.out.2.1 TI.out.2.2.1 TI.out.2.2.2 rfl (by decide) _ (2 + 8 * k) _ rfl O4.out ⟨g4, 0, none⟩ 8 p4 nl rfl k3.out S4.out k4.out (by unfold maxLen; omega) (by omega) Z4.out ?_)
      intro v5 w5 o5 g5 _
      have X5 := Lib.hid (show Below W.heap.size W w5 ∧ w5.cell? ⟨W.heap.size, 1, none⟩ = some (.slice (some ⟨B, q, none⟩) len cap) ∧ W.heap.size < w5.heap.size ∧ w5.ownsRow (W.heap.size + 1) 5 1 v5 (2 + 8 * (k + 1)) (u8s (encN c xs (k + 1))) from
        ⟨below_grown W4.out g5 (fun j hj => by have := (World.ownsRow.lt O4.out j hj).1; omega), (World.cell?_of_block (g5.block W.heap.size Z4.out (fun e => by have := (World.ownsRow.lt O4.out _ e.symm).1; omega))).trans P4.out, Nat.lt_of_lt_of_le Z4.out g5.size, by rw [HN.out, show 2 + 8 * (k + 1) = 2 + 8 * k + 8 by omega]; exact o5⟩)
      clear o5 g5
      go_wp2_with fail
      go_roundw
      case rel => exact ⟨k + 1, by omega, by go_num, X5⟩
      case measure => simp [intOf]; omega
    · obtain rfl : k = len := by omega
      have O9 := Lib.hid (owns_mono (Nat.le_succ W.heap.size) hR.out.2.2.2)
      have W9 := Lib.hid hR.out.1
      clear hR
      go_wp2_with fail
      go_ret2
      exact ⟨_, rfl, O9.out, W9.out⟩
end Go.Proofs.Ytbflanpfcbbblaa.Ins
