/-
  Several texts in one: MemO, MemS.
-/
import Derived.Test.YthhgcbegcbhaeaaMBh10
import Derived.Test.YthhgcbegcbhaeaaMBh11
set_option linter.unusedVariables false
set_option linter.unusedSimpArgs false
set_option linter.unnecessarySimpa false
namespace Go.Proofs.Ythhgcbegcbhaeaa
open Go.RowKit
set_option linter.unusedVariables false
set_option maxRecDepth 100000

/-- A slice of bytes that can be read: its bytes. -/
structure Src (W : World) (a : Option Addr) (len cap : Nat) (f : Nat → Int) : Prop where
  le : len ≤ cap
  max : cap ≤ 9223372036854775807
  here : 0 < len → ∃ B o, a = some ⟨B, o, none⟩ ∧ ∀ i, i < len → W.cell? ⟨B, o + i, none⟩ = some (.int .u8 (f i))
  bytes : ∀ i, i < len → 0 ≤ f i ∧ f i < 256
theorem Src.below {W w : World} {a : Option Addr} {len cap : Nat} {f : Nat → Int} (h : Src W a len cap f) (hb : Below W.heap.size W w) : Src w a len cap f :=
  ⟨h.le, h.max, fun h0 => by
    obtain ⟨B, o, e, hc⟩ := h.here h0
    exact ⟨B, o, e, fun i hi => (hb.cell (p := ⟨B, o + i, none⟩) (lt_of_cell (hc i hi))).trans (hc i hi)⟩, h.bytes⟩
def bytesOf (f : Nat → Int) (n : Nat) : List Value := (List.range n).map fun i => .int .u8 (f i)
theorem bytesOf_length (f : Nat → Int) (n : Nat) : (bytesOf f n).length = n := by simp [bytesOf]
theorem bytesOf_get (f : Nat → Int) (n i : Nat) (h : i < n) : (bytesOf f n)[i]? = some (.int .u8 (f i)) := by simp [bytesOf, h]
theorem bytesOf_one (f : Nat → Int) (n : Nat) : ∀ v ∈ bytesOf f n, v.oneCell' = true := by
  intro v hv
  simp only [bytesOf, List.mem_map] at hv
  obtain ⟨i, _, rfl⟩ := hv
  rfl
theorem Src.cells {W : World} {a : Option Addr} {len cap : Nat} {f : Nat → Int} (h : Src W a len cap f) (n : Nat) (hn : n ≤ len) (h0 : 0 < n) : ∃ ad, a = some ad ∧ ∀ j v, (bytesOf f n)[j]? = some v → W.cell? (ad.add j) = some v := by
  obtain ⟨B, o, e, hc⟩ := h.here (by omega)
  refine ⟨_, e, fun j v hv => ?_⟩
  have hj : j < n := by have := (List.getElem?_eq_some_iff.1 hv).1; rwa [bytesOf_length] at this
  rw [bytesOf_get f n j hj] at hv
  rw [Addr.add_mid, hc j (by omega)]
  exact hv
theorem info_u8n : (Try.prog.info? 5).map (·.size) = some 1 := by kernel_rfl

set_option maxHeartbeats 1000000 in
theorem fresh_any (a : Option Addr) (len cap : Nat) (f : Nat → Int) (W : World) (hs : Src W a len cap f) (hl : len ≤ 1000000) :
    Calls Try.prog 53 #[.slice a len cap] W fun e w' => e = .returned (.slice (some ⟨W.heap.size, 0, none⟩) len len) ∧ Below W.heap.size W w' ∧ w'.rowIs W.heap.size 5 len (fun i => .int .u8 (f i)) := by
  have hmk := fun w => run_make_row' (P := Try.prog) 25 5 (.int .u8 0) 1 Try.underlying25 info_u8 rfl .i64 .i64 len (by omega) (by omega) w
  have h1 := hs.le
  have h2 := hs.max
  have HS := Lib.hid hs; clear hs
  go_enter Try.func53, Try.ntmps53
  go_wp2_with (refine wpList_copy_is rfl _ _ 25 25 rfl 5 Try.underlying25 info_u8n (some ⟨W.heap.size, 0, none⟩) a len len len cap rfl rfl W.heap.size 0 (madeCells #[.int .u8 0] len).toList 5 ?_ (bytesOf f len) ?_ ?_ ?_ (bytesOf_one f len) ?_; (focus (exact heap_last _ _ _ rfl)); (focus (rw [bytesOf_length]; exact (Nat.min_self _).symm)); (focus (intro h0; rw [bytesOf_length] at h0; exact ⟨rfl, (HS.out.below (below_new (Below.refl _ _) _)).cells len (Nat.le_refl _) h0⟩)); (focus (rw [bytesOf_length]; simp [size_madeCells])); intro w1 s1)
  go_ret
  refine ⟨rfl, s1.below (below_new (Below.refl _ _) _) (Nat.le_refl _), _, s1.row, ?_, fun i hi => ?_⟩
  · simp [length_splice, bytesOf_length, size_madeCells]
  · rw [List.getElem?_toArray, splice_get _ _ _ (by simp [bytesOf_length, size_madeCells]), if_neg (by omega), if_pos (by rw [bytesOf_length]; omega)]
    exact bytesOf_get f len i hi

/-- The cells of a memory. -/
def MemS.list (S : MemS) : List Value := (List.range 587).map S.val
theorem MemS.list_length (S : MemS) : S.list.length = 587 := by simp [MemS.list]
theorem MemS.list_get (S : MemS) (i : Nat) (h : i < 587) : S.list[i]? = some (S.val i) := by simp [MemS.list, h]
/-- A memory of zeros. -/
def blank (cb cn n : Nat) (hs : Bool) : MemS := ⟨cb, cn, n, hs, fun _ => 0⟩
theorem blank_one (S : MemS) : S.list.toArray.all (·.oneCell') = true := all_oneCell_toArray (by
  intro v hv
  simp only [MemS.list, List.mem_map] at hv
  obtain ⟨i, _, rfl⟩ := hv
  unfold MemS.val
  split
  · rfl
  split
  · rfl
  split <;> rfl)
/-- The memory with n bytes from a place on written anew. -/
def MemS.put (S : MemS) (o n : Nat) (f : Nat → Int) : MemS := { S with g := fun j => if o ≤ j ∧ j < o + n then f (j - o) else S.g j }
/-- Places of bytes. -/
def InBytes (o n : Nat) : Prop := 1 ≤ o ∧ o + n ≤ 257 ∨ 258 ≤ o ∧ o + n ≤ 586
theorem MemS.put_list (S : MemS) (o n : Nat) (f : Nat → Int) (h : InBytes o n) (i : Nat) (hi : i < 587) : (splice S.list o (bytesOf f n))[i]? = some ((S.put o n f).val i) := by
  unfold InBytes at h
  rw [splice_get _ _ _ (by rw [bytesOf_length, S.list_length]; omega), bytesOf_length]
  by_cases h1 : i < o
  · rw [if_pos h1, S.list_get i hi]
    have e : (S.put o n f).val i = S.val i := by
      unfold MemS.val MemS.put
      simp only [if_neg (show ¬ (o ≤ i ∧ i < o + n) by omega)]
    rw [e]
  · rw [if_neg h1]
    by_cases h2 : i < o + n
    · rw [if_pos h2, bytesOf_get _ _ _ (by omega)]
      unfold MemS.val MemS.put
      rw [if_neg (by omega), if_neg (by omega), if_neg (by omega)]
      simp only [if_pos (show o ≤ i ∧ i < o + n by omega)]
    · rw [if_neg h2, S.list_get i hi]
      have e : (S.put o n f).val i = S.val i := by
        unfold MemS.val MemS.put
        simp only [if_neg (show ¬ (o ≤ i ∧ i < o + n) by omega)]
      rw [e]
theorem row_of_stored {S : MemS} {w w' : World} {b o n : Nat} {f : Nat → Int} (s : Stored w b (splice S.list o (bytesOf f n)).toArray 97 w') (h : InBytes o n) : w'.rowIs b 97 587 (S.put o n f).val :=
  ⟨_, s.row, by unfold InBytes at h; rw [List.size_toArray, length_splice _ _ _ (by rw [bytesOf_length, S.list_length]; omega)]; exact S.list_length, fun i hi => by rw [List.getElem?_toArray]; exact S.put_list o n f h i hi⟩

theorem info_mem : (Try.prog.info? 97).map (·.size) = some 587 := by kernel_rfl
/-- A new memory. -/
def newMem (cb cn n : Nat) (hs : Bool) (f : Nat → Int) : MemS := (blank cb cn n hs).put 1 n f

set_option maxRecDepth 100000 in
theorem built_mem (cb cn n : Nat) (hs : Bool) : Try.prog.built 97 [(0, .slice (some ⟨cb, 0, none⟩) cn cn), (2, .int .i64 n), (5, .bool hs)] = some (blank cb cn n hs).list.toArray := by kernel_rfl

/-- What New hands back, where the sizes are let be. -/
def NewIs (W : World) (cl : Nat) (cf : Nat → Int) (kl : Nat) (kf : Nat → Int) (st : Bool) (e : Ending) (w' : World) : Prop :=
  ∃ b cb, e = .returned (.tuple #[.pointer (some ⟨b, 0, none⟩), .int .i64 0]) ∧ W.heap.size ≤ b ∧ W.heap.size ≤ cb ∧ Below W.heap.size W w' ∧
    (newMem cb kl cl st cf).at w' b ∧ w'.rowIs cb 5 kl (fun i => .int .u8 (kf i))
theorem put_bytes {S : MemS} {o n : Nat} {f : Nat → Int} (h : ∀ i, 0 ≤ S.g i ∧ S.g i < 256) (hf : ∀ i, i < n → 0 ≤ f i ∧ f i < 256) : ∀ i, 0 ≤ (S.put o n f).g i ∧ (S.put o n f).g i < 256 := by
  intro i
  show 0 ≤ (if _ then _ else _ : Int) ∧ (if _ then _ else _ : Int) < _
  split
  · exact hf _ (by omega)
  · exact h i

set_option maxRecDepth 100000 in
set_option maxHeartbeats 1000000 in
theorem new_any (ca : Option Addr) (cl cc : Nat) (cf : Nat → Int) (ka : Option Addr) (kl kc : Nat) (kf : Nat → Int) (st : Bool) (W : World) (hc : Src W ca cl cc cf) (hk : Src W ka kl kc kf) (h1 : cl ≤ 256) (h2 : kl ≤ 16384) :
    Calls Try.prog 29 #[.slice ca cl cc, .slice ka kl kc, .bool st] W (NewIs W cl cf kl kf st) := by
  have k1 : (cl : Int) ≤ 256 := by omega
  have k2 : (kl : Int) ≤ 16384 := by omega
  have HC := Lib.hid hc; clear hc
  have HK := Lib.hid hk; clear hk
  go_enter Try.func29, Try.ntmps29
  go_wp2_with fail
  refine (fresh_any ka kl kc kf _ HK.out (by omega)).mono ?_
  rintro e w1 ⟨rfl, b1, r1⟩
  have B1 := Lib.hid b1; have R1 := Lib.hid r1
  have lt1 := r1.lt
  clear b1 r1
  go_wp2_with (first | (refine wpList_build_is rfl 97 _ rfl (blank W.heap.size kl cl st).list.toArray (by kernel_rfl) ?_) | (refine wpList_copy_is rfl _ _ 25 25 rfl 5 Try.underlying25 info_u8n (some ⟨w1.heap.size, 1, none⟩) ca 256 256 cl cc rfl rfl w1.heap.size 1 (blank W.heap.size kl cl st).list 97 ?_ (bytesOf cf cl) ?_ ?_ ?_ (bytesOf_one cf cl) ?_; (focus (exact heap_last _ _ _ rfl)); (focus (rw [bytesOf_length]; exact (Nat.min_eq_left h1).symm)); (focus (intro h0; rw [bytesOf_length] at h0; exact ⟨rfl, ((HC.out.below B1.out).below (below_new (Below.refl _ _) _)).cells cl (Nat.le_refl _) h0⟩)); (focus (rw [bytesOf_length, MemS.list_length]; omega)); intro w2 s2))
  go_ret2
  refine ⟨w1.heap.size, W.heap.size, rfl, B1.out.size, Nat.le_refl _, s2.below (below_new B1.out _) B1.out.size, ⟨row_of_stored s2 (by unfold InBytes; omega), h2, h1, by show W.heap.size ≠ _; omega, put_bytes (fun i => ⟨by show (0 : Int) ≤ 0; omega, by show (0 : Int) < 256; omega⟩) HC.out.bytes⟩, ?_⟩
  exact R1.out.of_block ((s2.other _ (by omega)).trans (heap_past _ _ _ lt1))

set_option maxHeartbeats 400000 in
theorem new_long (ca : Option Addr) (cl cc : Nat) (ka : Option Addr) (kl kc : Nat) (st : Bool) (W : World) (h : 256 < cl ∨ 16384 < kl) :
    Calls Try.prog 29 #[.slice ca cl cc, .slice ka kl kc, .bool st] W fun e w' => e = .returned (.tuple #[.pointer none, .int .i64 3]) ∧ W = w' := by
  by_cases h1 : 256 < cl
  · have k1 : (256 : Int) < cl := by omega
    clear h
    go_enter Try.func29, Try.ntmps29
    go_wp2
    go_ret2
    exact ⟨rfl, rfl⟩
  · have k1 : (cl : Int) ≤ 256 := by omega
    have k2 : (16384 : Int) < kl := by omega
    clear h h1
    go_enter Try.func29, Try.ntmps29
    go_wp2
    go_ret2
    exact ⟨rfl, rfl⟩
end Go.Proofs.Ythhgcbegcbhaeaa

namespace Go.Proofs.Ythhgcbegcbhaeaa
open Go.RowKit
set_option linter.unusedVariables false
set_option maxRecDepth 100000

theorem szB_wrap (n : Int) : szB (IntKind.u64.wrap n) = szB (n % 18446744073709551616) := by rw [IntKind.wrap_u64]

set_option maxHeartbeats 1000000 in
theorem read_nil (a n : Int) (W : World) :
    Calls Try.prog 57 #[.pointer none, .int .u64 a, .int .i64 n] W fun e w' => e = .returned (.tuple #[.int .u64 0, .int .i64 1]) ∧ Below W.heap.size W w' := by
  go_enter Try.func57, Try.ntmps57
  go_wp2_with fail
  refine (part_rd_nil _ _ _).mono ?_
  rintro e w1 ⟨rfl, b1⟩
  go_wp2
  go_ret2
  exact ⟨rfl, below_call (below_new (Below.refl _ W) _) b1⟩
set_option maxHeartbeats 1000000 in
theorem read_bad (b : Nat) (a n : Int) (W : World) (hn : szB (IntKind.u64.wrap n) = false) :
    Calls Try.prog 57 #[.pointer (some ⟨b, 0, none⟩), .int .u64 a, .int .i64 n] W fun e w' => e = .returned (.tuple #[.int .u64 0, .int .i64 2]) ∧ Below W.heap.size W w' := by
  have HN := Lib.hid hn; clear hn
  go_enter Try.func57, Try.ntmps57
  go_wp2_with fail
  refine (part_rd_bad b a _ _ HN.out).mono ?_
  rintro e w1 ⟨rfl, b1⟩
  go_wp2
  go_ret2
  exact ⟨rfl, below_call (below_new (Below.refl _ W) _) b1⟩
set_option maxHeartbeats 1000000 in
theorem read_miss (S : MemS) (b : Nat) (a : Int) (m : Nat) (W : World) (hS : S.at W b) (hm : szB m = true) (hidx : firstI (fun k => rdB a m ((S.R b).st k) ((S.R b).sz k)) = -1) :
    Calls Try.prog 57 #[.pointer (some ⟨b, 0, none⟩), .int .u64 a, .int .i64 m] W fun e w' => e = .returned (.tuple #[.int .u64 0, .int .i64 20]) ∧ Below W.heap.size W w' := by
  have m8 := szB_le hm
  have HP := Lib.hid (fun W h => part_rd_miss S b a m W h hm hidx)
  clear hm hidx
  have m0 : (0 : Int) ≤ m := by omega
  have m1 : (m : Int) ≤ 8 := by omega
  have HS := Lib.hid hS; clear hS m8
  go_enter Try.func57, Try.ntmps57
  go_wp2_with fail
  refine (HP.out _ (HS.out.below (below_new (Below.refl _ W) _))).mono ?_
  rintro e w1 ⟨rfl, b1⟩
  go_wp2
  go_ret2
  exact ⟨rfl, below_call (below_new (Below.refl _ W) _) b1⟩
set_option maxHeartbeats 1000000 in
theorem read_hit (S : MemS) (b : Nat) (a : Int) (m : Nat) (k q B o : Nat) (f : Nat → Int) (W : World) (hS : S.at W b) (hk : k < 5) (hm : szB m = true) (hq : offI a ((S.R b).st k) = q)
    (hidx : firstI (fun k => rdB a m ((S.R b).st k) ((S.R b).sz k)) = k) (hb : (S.R b).bp k = some ⟨B, o, none⟩) (hfit : q + m ≤ (S.R b).bl k)
    (hc : ∀ i, i < m → W.cell? ⟨B, o + q + i, none⟩ = some (.int .u8 (f i))) (hf : ∀ i, i < m → 0 ≤ f i ∧ f i < 256) :
    Calls Try.prog 57 #[.pointer (some ⟨b, 0, none⟩), .int .u64 a, .int .i64 m] W fun e w' => e = .returned (.tuple #[.int .u64 (getI f m), .int .i64 0]) ∧ Below W.heap.size W w' := by
  have m8 := szB_le hm
  have HP := Lib.hid (fun W h => part_rd_hit S b a m k q B o W h hk hm hq hidx hb hfit)
  clear hm hidx hq hb hfit
  have m0 : (0 : Int) ≤ m := by omega
  have m1 : (m : Int) ≤ 8 := by omega
  have HS := Lib.hid hS; have HC := Lib.hid hc; have HF := Lib.hid hf; clear hS hc hf
  have m2 : m ≤ 8 := by omega
  have M8 := Lib.hid m8; clear m8
  go_enter Try.func57, Try.ntmps57
  go_wp2_with fail
  refine (HP.out _ (HS.out.below (below_new (Below.refl _ W) _))).mono ?_
  rintro e w1 ⟨rfl, b1⟩
  have B1 := Lib.hid (below_call (below_new (Below.refl _ W) _) b1)
  clear b1
  go_wp2_with fail
  refine (get_few B (o + q) m m f _ m2 (Nat.le_refl _) (by omega) HF.out (fun i hi => (B1.out.cell (p := ⟨B, o + q + i, none⟩) (lt_of_cell (HC.out i hi))).trans (HC.out i hi))).mono ?_
  rintro e w2 ⟨rfl, rfl⟩
  go_wp2
  go_ret2
  exact ⟨rfl, B1.out⟩

/-- All that was ahead is as it was, but block b. -/
structure ChgAt (b : Nat) (W w : World) : Prop where
  os : w.os = W.os
  tape : w.tape = W.tape
  output : w.output = W.output
  size : W.heap.size ≤ w.heap.size
  block : ∀ k, k < W.heap.size → k ≠ b → w.heap[k]? = W.heap[k]?
theorem ChgAt.below {b B : Nat} {W0 W w : World} (h : ChgAt b W w) (h0 : Below B W0 W) (hb : B ≤ b) (hB : B ≤ W.heap.size) : Below B W0 w :=
  h0.trans ⟨h.os, h.tape, h.output, h.size, fun k hk => h.block k (by omega) (by omega)⟩
theorem chg_of (b : Nat) {W w1 w : World} {cells : Array Value} {t : TypeId} (hb : Below W.heap.size W w1) (s : Stored w1 b cells t w) : ChgAt b W w :=
  ⟨s.os.trans hb.os, s.tape.trans hb.tape, s.output.trans hb.output, by rw [s.size]; exact hb.size, fun k hk hn => (s.other k hn).trans (hb.block k hk)⟩

set_option maxHeartbeats 1000000 in
theorem write_nil (a n v : Int) (W : World) :
    Calls Try.prog 59 #[.pointer none, .int .u64 a, .int .i64 n, .int .u64 v] W fun e w' => e = .returned (.int .i64 1) ∧ Below W.heap.size W w' := by
  go_enter Try.func59, Try.ntmps59
  go_wp2_with fail
  refine (part_wr_nil _ _ _).mono ?_
  rintro e w1 ⟨rfl, b1⟩
  go_wp2
  go_ret
  exact ⟨rfl, below_call (below_new (Below.refl _ W) _) b1⟩
set_option maxHeartbeats 1000000 in
theorem write_bad (b : Nat) (a n v : Int) (W : World) (hn : szB (IntKind.u64.wrap n) = false) :
    Calls Try.prog 59 #[.pointer (some ⟨b, 0, none⟩), .int .u64 a, .int .i64 n, .int .u64 v] W fun e w' => e = .returned (.int .i64 2) ∧ Below W.heap.size W w' := by
  have HN := Lib.hid hn; clear hn
  go_enter Try.func59, Try.ntmps59
  go_wp2_with fail
  refine (part_wr_bad b a _ _ HN.out).mono ?_
  rintro e w1 ⟨rfl, b1⟩
  go_wp2
  go_ret
  exact ⟨rfl, below_call (below_new (Below.refl _ W) _) b1⟩
set_option maxHeartbeats 1000000 in
theorem write_miss (S : MemS) (b : Nat) (a v : Int) (m : Nat) (W : World) (hS : S.at W b) (hm : szB m = true) (hidx : firstI (fun k => wrB a m ((S.R b).st k) ((S.R b).sz k) ((S.R b).fx k)) = -1) :
    Calls Try.prog 59 #[.pointer (some ⟨b, 0, none⟩), .int .u64 a, .int .i64 m, .int .u64 v] W fun e w' => e = .returned (.int .i64 20) ∧ Below W.heap.size W w' := by
  have m8 := szB_le hm
  have HP := Lib.hid (fun W h => part_wr_miss S b a m W h hm hidx)
  clear hm hidx
  have m0 : (0 : Int) ≤ m := by omega
  have m1 : (m : Int) ≤ 8 := by omega
  have HS := Lib.hid hS; clear hS m8
  go_enter Try.func59, Try.ntmps59
  go_wp2_with fail
  refine (HP.out _ (HS.out.below (below_new (Below.refl _ W) _))).mono ?_
  rintro e w1 ⟨rfl, b1⟩
  go_wp2
  go_ret
  exact ⟨rfl, below_call (below_new (Below.refl _ W) _) b1⟩

theorem MemS.heap {S : MemS} {w : World} {b : Nat} (h : S.at w b) : w.heap[b]? = some (.cells S.list.toArray 97 (0, 0)) := by
  obtain ⟨c, hc, hn, hv⟩ := h.row
  have e : c = S.list.toArray := by
    apply Array.ext_getElem?
    intro i
    have e2 : S.list.toArray[i]? = S.list[i]? := List.getElem?_toArray
    rw [e2]
    by_cases hi : i < 587
    · rw [hv i hi, S.list_get i hi]
    · rw [Array.getElem?_eq_none (by omega), List.getElem?_eq_none (by rw [S.list_length]; omega)]
  rw [← e]; exact hc

theorem byteI_bd (v : Int) (i : Nat) : 0 ≤ byteI v i ∧ byteI v i < 256 := by unfold byteI; omega
theorem row_cells {w : World} {z n : Nat} {t : TypeId} {f : Nat → Int} (h : w.rowIs z t n (fun i => .int .u8 (f i))) : ∀ j v, (bytesOf f n)[j]? = some v → w.cell? ((⟨z, 0, none⟩ : Addr).add j) = some v := by
  intro j v hv
  have hj : j < n := by have := (List.getElem?_eq_some_iff.1 hv).1; rwa [bytesOf_length] at this
  rw [bytesOf_get f n j hj] at hv
  rw [Addr.add_mid, Nat.zero_add, h.cell hj]
  exact hv
set_option maxRecDepth 100000 in
set_option maxHeartbeats 1000000 in
theorem write_hit (S : MemS) (b : Nat) (a v : Int) (m : Nat) (k q o : Nat) (W : World) (hS : S.at W b) (hk : k < 5) (hm : szB m = true) (hq : offI a ((S.R b).st k) = q)
    (hidx : firstI (fun k => wrB a m ((S.R b).st k) ((S.R b).sz k) ((S.R b).fx k)) = k) (hb : (S.R b).bp k = some ⟨b, o, none⟩) (hfit : q + m ≤ (S.R b).bl k)
    (hin : InBytes (o + q) m) (hv0 : 0 ≤ v) (hv1 : v < 18446744073709551616) :
    Calls Try.prog 59 #[.pointer (some ⟨b, 0, none⟩), .int .u64 a, .int .i64 m, .int .u64 v] W fun e w' => e = .returned (.int .i64 0) ∧ (S.put (o + q) m (byteI v)).at w' b ∧ ChgAt b W w' := by
  have m8 := szB_le hm
  have HP := Lib.hid (fun W h => part_wr_hit S b a m k q b o W h hk hm hq hidx hb hfit)
  have P := fun W => put_any v m hv0 hv1 W
  rw [show putN m = m by unfold putN; omega] at P
  have HQ := Lib.hid P; clear P
  clear hm hidx hq hb hfit
  have m0 : (0 : Int) ≤ m := by omega
  have m1 : (m : Int) ≤ 8 := by omega
  have HS := Lib.hid hS; have HI := Lib.hid hin; clear hS hin
  have M8 := Lib.hid m8; clear m8
  go_enter Try.func59, Try.ntmps59
  go_wp2_with fail
  refine (HP.out _ (HS.out.below (below_new (Below.refl _ W) _))).mono ?_
  rintro e w1 ⟨rfl, b1⟩
  have B1 := Lib.hid (below_call (below_new (Below.refl _ W) _) b1)
  clear b1
  go_wp2_with fail
  refine (HQ.out _).mono ?_
  rintro e w2 ⟨rfl, b2, r2⟩
  have B2 := Lib.hid (below_call B1.out b2)
  have R2 := Lib.hid r2
  clear b2 r2
  go_wp2_with (refine wpList_copy_is rfl _ _ 25 25 rfl 5 Try.underlying25 info_u8n (some ⟨b, o + q, none⟩) (some ⟨w1.heap.size, 0, none⟩) m m m m rfl rfl b (o + q) S.list 97 (MemS.heap (HS.out.below B2.out)) (bytesOf (byteI v) m) ?_ ?_ ?_ (bytesOf_one _ m) ?_; (focus (rw [bytesOf_length]; exact (Nat.min_self _).symm)); (focus (intro _; exact ⟨rfl, _, rfl, row_cells R2.out⟩)); (focus (have h9 := HI.out; unfold InBytes at h9; rw [bytesOf_length, MemS.list_length]; omega)); intro w3 s3)
  go_ret
  exact ⟨rfl, ⟨row_of_stored s3 HI.out, HS.out.cn, HS.out.n, HS.out.far, put_bytes HS.out.bytes (fun i hi => byteI_bd v i)⟩, chg_of b B2.out s3⟩
end Go.Proofs.Ythhgcbegcbhaeaa
