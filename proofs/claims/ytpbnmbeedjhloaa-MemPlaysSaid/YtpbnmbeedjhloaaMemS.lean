/-
  Package mem: reads and writes of a memory.
-/
import Derived.Test.YtpbnmbeedjhloaaMemO
namespace Go.Proofs.Ytpbnmbeedjhloaa
open Go.RowKit
set_option linter.unusedVariables false
set_option maxRecDepth 100000

theorem szB_wrap (n : Int) : szB (IntKind.u64.wrap n) = szB (n % 18446744073709551616) := by rw [IntKind.wrap_u64]

set_option maxHeartbeats 1000000 in
theorem read_nil (a n : Int) (W : World) :
    Calls Try.prog 19 #[.pointer none, .int .u64 a, .int .i64 n] W fun e w' => e = .returned (.tuple #[.int .u64 0, .int .i64 1]) ∧ Below W.heap.size W w' := by
  go_enter Try.func19, Try.ntmps19
  go_wp2_with fail
  refine (part_rd_nil _ _ _).mono ?_
  rintro e w1 ⟨rfl, b1⟩
  go_wp2
  go_ret2
  exact ⟨rfl, below_call (below_new (Below.refl _ W) _) b1⟩
set_option maxHeartbeats 1000000 in
theorem read_bad (b : Nat) (a n : Int) (W : World) (hn : szB (IntKind.u64.wrap n) = false) :
    Calls Try.prog 19 #[.pointer (some ⟨b, 0, none⟩), .int .u64 a, .int .i64 n] W fun e w' => e = .returned (.tuple #[.int .u64 0, .int .i64 2]) ∧ Below W.heap.size W w' := by
  have HN := Lib.hid hn; clear hn
  go_enter Try.func19, Try.ntmps19
  go_wp2_with fail
  refine (part_rd_bad b a _ _ HN.out).mono ?_
  rintro e w1 ⟨rfl, b1⟩
  go_wp2
  go_ret2
  exact ⟨rfl, below_call (below_new (Below.refl _ W) _) b1⟩
set_option maxHeartbeats 1000000 in
theorem read_miss (S : MemS) (b : Nat) (a : Int) (m : Nat) (W : World) (hS : S.at W b) (hm : szB m = true) (hidx : firstI (fun k => rdB a m ((S.R b).st k) ((S.R b).sz k)) = -1) :
    Calls Try.prog 19 #[.pointer (some ⟨b, 0, none⟩), .int .u64 a, .int .i64 m] W fun e w' => e = .returned (.tuple #[.int .u64 0, .int .i64 20]) ∧ Below W.heap.size W w' := by
  have m8 := szB_le hm
  have HP := Lib.hid (fun W h => part_rd_miss S b a m W h hm hidx)
  clear hm hidx
  have m0 : (0 : Int) ≤ m := by omega
  have m1 : (m : Int) ≤ 8 := by omega
  have HS := Lib.hid hS; clear hS m8
  go_enter Try.func19, Try.ntmps19
  go_wp2_with fail
  refine (HP.out _ (HS.out.below (below_new (Below.refl _ W) _))).mono ?_
  rintro e w1 ⟨rfl, b1⟩
  go_wp2
  go_ret2
  exact ⟨rfl, below_call (below_new (Below.refl _ W) _) b1⟩
set_option maxHeartbeats 1000000 in
theorem read_hit (S : MemS) (b : Nat) (a : Int) (m : Nat) (k q B o : Nat) (f : Nat → Int) (W : World) (hS : S.at W b) (hk : k < 5) (hm : szB m = true) (hq : offI a ((S.R b).st k) = q)
    (hidx : firstI (fun k => rdB a m ((S.R b).st k) ((S.R b).sz k)) = k) (hb : (S.R b).bp k = some ⟨B, o, none⟩) (hfit : q + m ≤ (S.R b).bl k)
    (hc : ∀ i, i < m → W.cell? ⟨B, o + q + i, none⟩ = some (.int .u8 (f i))) (hf : ∀ i, i < m → 0 ≤ f i ∧ f i < 256) :
    Calls Try.prog 19 #[.pointer (some ⟨b, 0, none⟩), .int .u64 a, .int .i64 m] W fun e w' => e = .returned (.tuple #[.int .u64 (getI f m), .int .i64 0]) ∧ Below W.heap.size W w' := by
  have m8 := szB_le hm
  have HP := Lib.hid (fun W h => part_rd_hit S b a m k q B o W h hk hm hq hidx hb hfit)
  clear hm hidx hq hb hfit
  have m0 : (0 : Int) ≤ m := by omega
  have m1 : (m : Int) ≤ 8 := by omega
  have HS := Lib.hid hS; have HC := Lib.hid hc; have HF := Lib.hid hf; clear hS hc hf
  have m2 : m ≤ 8 := by omega
  have M8 := Lib.hid m8; clear m8
  go_enter Try.func19, Try.ntmps19
  go_wp2_with fail
  refine (HP.out _ (HS.out.below (below_new (Below.refl _ W) _))).mono ?_
  rintro e w1 ⟨rfl, b1⟩
  have B1 := Lib.hid (below_call (below_new (Below.refl _ W) _) b1)
  clear b1
  go_wp2_with fail
  refine (get_few B (o + q) m m f _ m2 (Nat.le_refl _) (by omega) HF.out (fun i hi => (B1.out.cell (p := ⟨B, o + q + i, none⟩) (lt_of_cell (HC.out i hi))).trans (HC.out i hi))).mono ?_
  rintro e w2 ⟨rfl, rfl⟩
  go_wp2
  go_ret2
  exact ⟨rfl, B1.out⟩

/-- All that was ahead is as it was, but block b. -/
structure ChgAt (b : Nat) (W w : World) : Prop where
  os : w.os = W.os
  tape : w.tape = W.tape
  output : w.output = W.output
  size : W.heap.size ≤ w.heap.size
  block : ∀ k, k < W.heap.size → k ≠ b → w.heap[k]? = W.heap[k]?
theorem ChgAt.below {b B : Nat} {W0 W w : World} (h : ChgAt b W w) (h0 : Below B W0 W) (hb : B ≤ b) (hB : B ≤ W.heap.size) : Below B W0 w :=
  h0.trans ⟨h.os, h.tape, h.output, h.size, fun k hk => h.block k (by omega) (by omega)⟩
theorem chg_of (b : Nat) {W w1 w : World} {cells : Array Value} {t : TypeId} (hb : Below W.heap.size W w1) (s : Stored w1 b cells t w) : ChgAt b W w :=
  ⟨s.os.trans hb.os, s.tape.trans hb.tape, s.output.trans hb.output, by rw [s.size]; exact hb.size, fun k hk hn => (s.other k hn).trans (hb.block k hk)⟩

set_option maxHeartbeats 1000000 in
theorem write_nil (a n v : Int) (W : World) :
    Calls Try.prog 17 #[.pointer none, .int .u64 a, .int .i64 n, .int .u64 v] W fun e w' => e = .returned (.int .i64 1) ∧ Below W.heap.size W w' := by
  go_enter Try.func17, Try.ntmps17
  go_wp2_with fail
  refine (part_wr_nil _ _ _).mono ?_
  rintro e w1 ⟨rfl, b1⟩
  go_wp2
  go_ret
  exact ⟨rfl, below_call (below_new (Below.refl _ W) _) b1⟩
set_option maxHeartbeats 1000000 in
theorem write_bad (b : Nat) (a n v : Int) (W : World) (hn : szB (IntKind.u64.wrap n) = false) :
    Calls Try.prog 17 #[.pointer (some ⟨b, 0, none⟩), .int .u64 a, .int .i64 n, .int .u64 v] W fun e w' => e = .returned (.int .i64 2) ∧ Below W.heap.size W w' := by
  have HN := Lib.hid hn; clear hn
  go_enter Try.func17, Try.ntmps17
  go_wp2_with fail
  refine (part_wr_bad b a _ _ HN.out).mono ?_
  rintro e w1 ⟨rfl, b1⟩
  go_wp2
  go_ret
  exact ⟨rfl, below_call (below_new (Below.refl _ W) _) b1⟩
set_option maxHeartbeats 1000000 in
theorem write_miss (S : MemS) (b : Nat) (a v : Int) (m : Nat) (W : World) (hS : S.at W b) (hm : szB m = true) (hidx : firstI (fun k => wrB a m ((S.R b).st k) ((S.R b).sz k) ((S.R b).fx k)) = -1) :
    Calls Try.prog 17 #[.pointer (some ⟨b, 0, none⟩), .int .u64 a, .int .i64 m, .int .u64 v] W fun e w' => e = .returned (.int .i64 20) ∧ Below W.heap.size W w' := by
  have m8 := szB_le hm
  have HP := Lib.hid (fun W h => part_wr_miss S b a m W h hm hidx)
  clear hm hidx
  have m0 : (0 : Int) ≤ m := by omega
  have m1 : (m : Int) ≤ 8 := by omega
  have HS := Lib.hid hS; clear hS m8
  go_enter Try.func17, Try.ntmps17
  go_wp2_with fail
  refine (HP.out _ (HS.out.below (below_new (Below.refl _ W) _))).mono ?_
  rintro e w1 ⟨rfl, b1⟩
  go_wp2
  go_ret
  exact ⟨rfl, below_call (below_new (Below.refl _ W) _) b1⟩

theorem MemS.heap {S : MemS} {w : World} {b : Nat} (h : S.at w b) : w.heap[b]? = some (.cells S.list.toArray 97 (0, 0)) := by
  obtain ⟨c, hc, hn, hv⟩ := h.row
  have e : c = S.list.toArray := by
    apply Array.ext_getElem?
    intro i
    have e2 : S.list.toArray[i]? = S.list[i]? := List.getElem?_toArray
    rw [e2]
    by_cases hi : i < 587
    · rw [hv i hi, S.list_get i hi]
    · rw [Array.getElem?_eq_none (by omega), List.getElem?_eq_none (by rw [S.list_length]; omega)]
  rw [← e]; exact hc

theorem byteI_bd (v : Int) (i : Nat) : 0 ≤ byteI v i ∧ byteI v i < 256 := by unfold byteI; omega
theorem row_cells {w : World} {z n : Nat} {t : TypeId} {f : Nat → Int} (h : w.rowIs z t n (fun i => .int .u8 (f i))) : ∀ j v, (bytesOf f n)[j]? = some v → w.cell? ((⟨z, 0, none⟩ : Addr).add j) = some v := by
  intro j v hv
  have hj : j < n := by have := (List.getElem?_eq_some_iff.1 hv).1; rwa [bytesOf_length] at this
  rw [bytesOf_get f n j hj] at hv
  rw [Addr.add_mid, Nat.zero_add, h.cell hj]
  exact hv
set_option maxRecDepth 100000 in
set_option maxHeartbeats 1000000 in
theorem write_hit (S : MemS) (b : Nat) (a v : Int) (m : Nat) (k q o : Nat) (W : World) (hS : S.at W b) (hk : k < 5) (hm : szB m = true) (hq : offI a ((S.R b).st k) = q)
    (hidx : firstI (fun k => wrB a m ((S.R b).st k) ((S.R b).sz k) ((S.R b).fx k)) = k) (hb : (S.R b).bp k = some ⟨b, o, none⟩) (hfit : q + m ≤ (S.R b).bl k)
    (hin : InBytes (o + q) m) (hv0 : 0 ≤ v) (hv1 : v < 18446744073709551616) :
    Calls Try.prog 17 #[.pointer (some ⟨b, 0, none⟩), .int .u64 a, .int .i64 m, .int .u64 v] W fun e w' => e = .returned (.int .i64 0) ∧ (S.put (o + q) m (byteI v)).at w' b ∧ ChgAt b W w' := by
  have m8 := szB_le hm
  have HP := Lib.hid (fun W h => part_wr_hit S b a m k q b o W h hk hm hq hidx hb hfit)
  have P := fun W => put_any v m hv0 hv1 W
  rw [show putN m = m by unfold putN; omega] at P
  have HQ := Lib.hid P; clear P
  clear hm hidx hq hb hfit
  have m0 : (0 : Int) ≤ m := by omega
  have m1 : (m : Int) ≤ 8 := by omega
  have HS := Lib.hid hS; have HI := Lib.hid hin; clear hS hin
  have M8 := Lib.hid m8; clear m8
  go_enter Try.func17, Try.ntmps17
  go_wp2_with fail
  refine (HP.out _ (HS.out.below (below_new (Below.refl _ W) _))).mono ?_
  rintro e w1 ⟨rfl, b1⟩
  have B1 := Lib.hid (below_call (below_new (Below.refl _ W) _) b1)
  clear b1
  go_wp2_with fail
  refine (HQ.out _).mono ?_
  rintro e w2 ⟨rfl, b2, r2⟩
  have B2 := Lib.hid (below_call B1.out b2)
  have R2 := Lib.hid r2
  clear b2 r2
  go_wp2_with (refine wpList_copy_is rfl _ _ 22 22 rfl 5 Try.underlying22 info_u8n (some ⟨b, o + q, none⟩) (some ⟨w1.heap.size, 0, none⟩) m m m m rfl rfl b (o + q) S.list 97 (MemS.heap (HS.out.below B2.out)) (bytesOf (byteI v) m) ?_ ?_ ?_ (bytesOf_one _ m) ?_; (focus (rw [bytesOf_length]; exact (Nat.min_self _).symm)); (focus (intro _; exact ⟨rfl, _, rfl, row_cells R2.out⟩)); (focus (have h9 := HI.out; unfold InBytes at h9; rw [bytesOf_length, MemS.list_length]; omega)); intro w3 s3)
  go_ret
  exact ⟨rfl, ⟨row_of_stored s3 HI.out, HS.out.cn, HS.out.n, HS.out.far, put_bytes HS.out.bytes (fun i hi => byteI_bd v i)⟩, chg_of b B2.out s3⟩
end Go.Proofs.Ytpbnmbeedjhloaa
