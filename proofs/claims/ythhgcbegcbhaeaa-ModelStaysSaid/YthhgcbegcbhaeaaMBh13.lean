/-
  Several texts in one: MemTa, MemA, MemB.
-/
import Derived.Test.YthhgcbegcbhaeaaMBh12
import Derived.Deep.WholeRow
set_option linter.unusedVariables false
set_option linter.unusedSimpArgs false
set_option linter.unnecessarySimpa false
namespace Go.Proofs.Ythhgcbegcbhaeaa
open Go.RowKit
set_option linter.unusedVariables false
set_option maxRecDepth 100000

/-- The regions without bytes, by their places. -/
def placeR (c k z : Int) : Regs where
  st k := if k = 1 then 1048576 else if k = 2 then 2097152 else if k = 3 then 3145728 else if k = 4 then 4194304 else 0
  sz j := if j = 1 then limI k 16384 else if j = 2 then limI c 256 else if j = 3 then 64 else if j = 4 then z else 0
  fx k := if k = 1 then true else false
  bp k := none
  bl k := 0
theorem placeR_sz (c k : Int) (st : Bool) (j : Nat) : 0 ≤ (placeR c k (stkI st)).sz j ∧ (placeR c k (stkI st)).sz j < 18446744073709551616 := by
  show 0 ≤ (if _ then _ else _ : Int) ∧ (if _ then _ else _ : Int) < _
  have h1 := limI_bd k 16384 (by omega)
  have h2 := limI_bd c 256 (by omega)
  split
  · omega
  split
  · omega
  split
  · omega
  split
  · unfold stkI; split <;> omega
  · omega
theorem placeR_at (c k z : Int) {w : World} {g : Nat} {t : TypeId} {fr : Nat × Nat} (h : w.heap[g]? = some (.cells (placeCells c k z) t fr)) : (placeR c k z).at w g := by
  intro i hk j v hv
  have e : w.cell? ⟨g, i * 4 + j, none⟩ = (placeCells c k z)[i * 4 + j]? := by simp [World.cell?, h]
  rw [e]
  have hj : j < 4 := (List.getElem?_eq_some_iff.1 hv).1
  have h5 : i = 0 ∨ i = 1 ∨ i = 2 ∨ i = 3 ∨ i = 4 := by omega
  have h4 : j = 0 ∨ j = 1 ∨ j = 2 ∨ j = 3 := by omega
  rcases h5 with rfl | rfl | rfl | rfl | rfl <;> rcases h4 with rfl | rfl | rfl | rfl <;> exact hv
theorem firstI_bd (P : Nat → Bool) : -1 ≤ firstI P ∧ firstI P ≤ 4 := by
  unfold firstI
  split
  · omega
  split
  · omega
  split
  · omega
  split
  · omega
  split <;> omega
/-- The first region that has the address. -/
def regF (a c k : Int) (st : Bool) : Int := firstI fun j => rdB a 1 ((placeR c k (stkI st)).st j) ((placeR c k (stkI st)).sz j)
def regI (a c k : Int) (st : Bool) : Int := if regF a c k st < 0 then 0 else regF a c k st

set_option maxHeartbeats 1000000 in
theorem context_nil (W : World) : Calls Try.prog 42 #[.pointer none] W fun e w' => e = .returned (.slice none 0 0) ∧ W = w' := by
  go_enter Try.func42, Try.ntmps42
  go_wp2
  go_ret
  exact ⟨rfl, rfl⟩
set_option maxHeartbeats 1000000 in
theorem copy_nil (W : World) : Calls Try.prog 44 #[.pointer none] W fun e w' => e = .returned (.pointer none) ∧ W = w' := by
  go_enter Try.func44, Try.ntmps44
  go_wp2
  go_ret
  exact ⟨rfl, rfl⟩
/-- A part of a memory as a slice of bytes. -/
theorem MemS.src {S : MemS} {w : World} {b : Nat} (h : S.at w b) (o n cap : Nat) (hi : InBytes o n) (hc : n ≤ cap) (hm : cap ≤ 587) : Src w (some ⟨b, o, none⟩) n cap (fun i => S.g (o + i)) :=
  ⟨hc, by omega, fun _ => ⟨b, o, rfl, fun i hi' => by
    unfold InBytes at hi
    rw [h.row.cell (show o + i < 587 by omega)]
    unfold MemS.val
    rw [if_neg (by omega), if_neg (by omega), if_neg (by omega)]⟩, fun i _ => h.bytes _⟩

set_option maxRecDepth 100000 in
set_option maxHeartbeats 1000000 in
theorem context_any (S : MemS) (b : Nat) (W : World) (hS : S.at W b) :
    Calls Try.prog 42 #[.pointer (some ⟨b, 0, none⟩)] W fun e w' => e = .returned (.slice (some ⟨W.heap.size, 0, none⟩) S.n S.n) ∧ Below W.heap.size W w' ∧ w'.rowIs W.heap.size 5 S.n (fun i => .int .u8 (S.g (1 + i))) := by
  have c257 : W.cell? ⟨b, 257, none⟩ = some (.int .i64 S.n) := hS.row.cell (i := 257) (by omega)
  have hn := hS.n
  have hn' : (S.n : Int) ≤ 256 := by omega
  have HS := Lib.hid hS; clear hS
  go_enter Try.func42, Try.ntmps42
  go_wp2_with fail
  go_still_tail 8, (by kernel_rfl)
  go_wp2_with fail
  refine (fresh_any _ _ _ _ _ (MemS.src (show S.at W.drew b from ⟨HS.out.row, HS.out.cn, HS.out.n, HS.out.far, HS.out.bytes⟩) 1 S.n 256 (by unfold InBytes; omega) (by omega) (by omega)) (by omega)).mono ?_
  rintro e w1 ⟨rfl, b1, r1⟩
  go_wp2
  go_ret
  exact ⟨rfl, below_call (Below.drew (Below.refl _ _)) b1, r1⟩

theorem info_frame : (Try.prog.info? 49).map (·.size) = some 64 := by kernel_rfl
def zeros (n : Nat) : Array Value := (bytesOf (fun _ => 0) n).toArray
theorem zeros_one (n : Nat) : (zeros n).all (·.oneCell') = true := all_oneCell_toArray (bytesOf_one _ n)
theorem bytes_one (f : Nat → Int) (n : Nat) : (bytesOf f n).toArray.all (·.oneCell') = true := all_oneCell_toArray (bytesOf_one _ n)
theorem zero_frame : (Try.prog.info? 49).map (fun i => (i.zero, i.size)) = some (some (.agg (zeros 64)), 64) := by kernel_rfl
theorem built_frame : Try.prog.built 49 [] = some (zeros 64) := by kernel_rfl
/-- A block's frame, by value. -/
def MemS.frm (S : MemS) : Array Value := (bytesOf (fun i => S.g (258 + i)) 64).toArray

set_option maxRecDepth 100000 in
set_option maxHeartbeats 1000000 in
theorem frame_nil (W : World) : Calls Try.prog 46 #[.pointer none] W fun e w' => e = .returned (.agg (zeros 64)) ∧ Below W.heap.size W w' := by
  have hz := (zero_of_info zero_frame).1
  have hi := Lib.hid (show (Try.prog.info? 49).map (·.size) = some (zeros 64).size from info_frame)
  go_enter Try.func46, Try.ntmps46
  go_wp2_with (first | (refine wpList_build_is rfl 49 _ rfl (zeros 64) (by kernel_rfl) ?_) | (refine halt_store 49 _ _ rfl ?_))
  refine ⟨?_, trivial⟩
  refine wpList_store_is rfl 49 _ _ rfl W.heap.size (zeros 64) rfl rfl 49 _ (heap_last _ _ _ rfl) hi.out ?_ (zeros_one 64) ?_
  · rfl
  intro w1 s1
  have S1 := Lib.hid s1; clear s1
  go_wp2
  exact bodyPost_ret (v := .agg (zeros 64)) (results_cell_row rfl _ _ W.heap.size _ (zeros 64) _ _ rfl S1.out.row Try.underlying49 rfl hi.out) rfl ⟨rfl, S1.out.below (below_new (Below.refl _ _) _) (Nat.le_refl _)⟩
theorem MemS.range {S : MemS} {w : World} {b : Nat} (h : S.at w b) : w.rangeAt b 258 (bytesOf (fun i => S.g (258 + i)) 64) := by
  intro j v hv
  have hj : j < 64 := by have := (List.getElem?_eq_some_iff.1 hv).1; rwa [bytesOf_length] at this
  rw [bytesOf_get _ _ j hj] at hv
  rw [h.row.cell (show 258 + j < 587 by omega), ← hv]
  unfold MemS.val
  rw [if_neg (by omega), if_neg (by omega), if_neg (by omega)]
set_option maxRecDepth 100000 in
set_option maxHeartbeats 1000000 in
theorem frame_any (S : MemS) (b : Nat) (W : World) (hS : S.at W b) : Calls Try.prog 46 #[.pointer (some ⟨b, 0, none⟩)] W fun e w' => e = .returned (.agg S.frm) ∧ Below W.heap.size W w' := by
  have hz := (zero_of_info zero_frame).1
  have hi := Lib.hid (show (Try.prog.info? 49).map (·.size) = some S.frm.size from info_frame.trans (by unfold MemS.frm; rw [List.size_toArray, bytesOf_length]))
  have hi' := Lib.hid (show (Try.prog.info? 49).map (·.size) = some (bytesOf (fun i => S.g (258 + i)) 64).length from info_frame.trans (by rw [bytesOf_length]))
  have hr := Lib.hid (MemS.range hS)
  have lb := hS.row.lt
  clear hS
  go_enter Try.func46, Try.ntmps46
  go_wp2_with (first | (refine wpList_load_mid rfl 49 _ rfl b 258 rfl (bytesOf (fun i => S.g (258 + i)) 64) _ (World.rangeAt_alloc hr.out _) Try.underlying49 rfl hi'.out ?_) | (refine halt_store 49 _ _ rfl ?_))
  refine ⟨?_, trivial⟩
  refine wpList_store_is rfl 49 _ _ rfl W.heap.size S.frm rfl rfl 49 _ (heap_last _ _ _ rfl) hi.out ?_ (bytes_one _ 64) ?_
  · show (zeros 64).size = _
    unfold MemS.frm zeros; rw [List.size_toArray, bytesOf_length, List.size_toArray, bytesOf_length]
  intro w1 s1
  have S1 := Lib.hid s1; clear s1
  go_wp2
  exact bodyPost_ret (v := .agg S.frm) (results_cell_row rfl _ _ W.heap.size _ S.frm _ _ rfl S1.out.row Try.underlying49 rfl hi.out) rfl ⟨rfl, S1.out.below (below_new (Below.refl _ _) _) (Nat.le_refl _)⟩

/-- A memory that nobody has laid: its cells are zero. -/
def memZero : List Value := (List.range 587).map fun i => if i = 0 then .slice none 0 0 else if i = 257 then .int .i64 0 else if i = 586 then .bool false else .int .u8 0
theorem memZero_length : memZero.length = 587 := by simp [memZero]
set_option maxRecDepth 100000 in
theorem zero_mem : (Try.prog.info? 97).map (fun i => (i.zero, i.size)) = some (some (.agg memZero.toArray), 587) := by kernel_rfl
/-- What Copy hands back: a new block with the same cells. -/
def CopyIs (W : World) (S : MemS) (e : Ending) (w' : World) : Prop :=
  ∃ b, e = .returned (.pointer (some ⟨b, 0, none⟩)) ∧ W.heap.size ≤ b ∧ Below W.heap.size W w' ∧ S.at w' b
set_option maxRecDepth 100000 in
set_option maxHeartbeats 1000000 in
theorem copy_any (S : MemS) (b : Nat) (W : World) (hS : S.at W b) (hcb : S.cb < W.heap.size) : Calls Try.prog 44 #[.pointer (some ⟨b, 0, none⟩)] W (CopyIs W S) := by
  have hz := (zero_of_info zero_mem).1
  have hi := Lib.hid (show (Try.prog.info? 97).map (·.size) = some S.list.toArray.size from info_mem.trans (by rw [List.size_toArray, S.list_length]))
  have HS := Lib.hid hS; clear hS
  go_enter Try.func44, Try.ntmps44
  go_wp2_with (first | (refine wpList_load_row rfl 97 _ rfl b rfl 97 S.list.toArray (0, 0) _ (MemS.heap HS.out) Try.underlying97 rfl hi.out ?_) | (refine halt_store 97 _ _ rfl ?_))
  refine ⟨?_, trivial⟩
  refine wpList_store_is rfl 97 _ _ rfl W.heap.size S.list.toArray rfl rfl 97 _ (heap_last _ _ _ rfl) hi.out ?_ (blank_one S) ?_
  · rw [List.size_toArray, List.size_toArray, S.list_length]; exact memZero_length
  intro w1 s1
  have S1 := Lib.hid s1; clear s1
  go_wp2
  go_ret
  exact ⟨W.heap.size, rfl, Nat.le_refl _, S1.out.below (below_new (Below.refl _ _) _) (Nat.le_refl _),
    ⟨_, S1.out.row, by rw [List.size_toArray, S.list_length], fun i hi => by rw [List.getElem?_toArray]; exact S.list_get i hi⟩, HS.out.cn, HS.out.n, by omega, HS.out.bytes⟩
theorem limI_in (n : Nat) (m : Int) (h : (n : Int) ≤ m) : limI n m = n := by
  unfold limI
  rw [Int.max_eq_left (by omega), Int.min_eq_left h]

end Go.Proofs.Ythhgcbegcbhaeaa

namespace Go.Proofs.Ythhgcbegcbhaeaa
open Go.RowKit
set_option linter.unusedVariables false
set_option maxRecDepth 100000

theorem rdB_iff (a m st sz : Int) (ha0 : 0 ≤ a) (ha1 : a < 18446744073709551616) (hs0 : 0 ≤ st) (hs1 : st ≤ 4194304) (hz0 : 0 ≤ sz) (hz1 : sz ≤ 16384) (hm : 1 ≤ m) :
    rdB a m st sz = decide (st ≤ a ∧ a + m ≤ st + sz) := by
  unfold rdB offI
  rw [Bool.eq_iff_iff]
  simp only [Bool.and_eq_true, decide_eq_true_eq]
  omega
/-- In which region m bytes from an address on lie: 0 if in none. -/
def locI (cn n : Nat) (hs : Bool) (a m : Int) : Nat :=
  if 1048576 ≤ a ∧ a + m ≤ 1048576 + cn then 1 else if 2097152 ≤ a ∧ a + m ≤ 2097152 + n then 2 else if 3145728 ≤ a ∧ a + m ≤ 3145792 then 3
  else if 4194304 ≤ a ∧ a + m ≤ 4194304 + stkI hs then 4 else 0
theorem stkI_bd (hs : Bool) : 0 ≤ stkI hs ∧ stkI hs ≤ 264 := by unfold stkI; split <;> omega
theorem first_five (P : Nat → Bool) (h0 : P 0 = false) (k : Nat) (hk : k = if P 1 = true then 1 else if P 2 = true then 2 else if P 3 = true then 3 else if P 4 = true then 4 else 0) : firstI P = if k = 0 then -1 else (k : Int) := by
  unfold firstI
  rw [h0, if_neg (by simp)]
  subst hk
  split
  · rfl
  split
  · rfl
  split
  · rfl
  split
  · rfl
  · rfl
theorem rd_loc (cn n : Nat) (hs : Bool) (c k : Int) (hc : limI k 16384 = cn) (hn : limI c 256 = n) (a m : Int) (ha0 : 0 ≤ a) (ha1 : a < 18446744073709551616) (hm : 1 ≤ m) (h1 : cn ≤ 16384) (h2 : n ≤ 256) :
    (firstI fun j => rdB a m ((placeR c k (stkI hs)).st j) ((placeR c k (stkI hs)).sz j)) = if locI cn n hs a m = 0 then -1 else (locI cn n hs a m : Int) := by
  have hz := stkI_bd hs
  have e0 : rdB a m ((placeR c k (stkI hs)).st 0) ((placeR c k (stkI hs)).sz 0) = false := by
    show rdB a m 0 0 = false
    rw [rdB_iff a m 0 0 ha0 ha1 (by omega) (by omega) (by omega) (by omega) hm]
    exact decide_eq_false (by omega)
  have e1 : rdB a m ((placeR c k (stkI hs)).st 1) ((placeR c k (stkI hs)).sz 1) = decide (1048576 ≤ a ∧ a + m ≤ 1048576 + cn) := by
    show rdB a m 1048576 (limI k 16384) = _
    rw [hc]; exact rdB_iff a m _ _ ha0 ha1 (by omega) (by omega) (by omega) (by omega) hm
  have e2 : rdB a m ((placeR c k (stkI hs)).st 2) ((placeR c k (stkI hs)).sz 2) = decide (2097152 ≤ a ∧ a + m ≤ 2097152 + n) := by
    show rdB a m 2097152 (limI c 256) = _
    rw [hn]; exact rdB_iff a m _ _ ha0 ha1 (by omega) (by omega) (by omega) (by omega) hm
  have e3 : rdB a m ((placeR c k (stkI hs)).st 3) ((placeR c k (stkI hs)).sz 3) = decide (3145728 ≤ a ∧ a + m ≤ 3145792) := by
    show rdB a m 3145728 64 = _
    rw [rdB_iff a m _ _ ha0 ha1 (by omega) (by omega) (by omega) (by omega) hm]; rfl
  have e4 : rdB a m ((placeR c k (stkI hs)).st 4) ((placeR c k (stkI hs)).sz 4) = decide (4194304 ≤ a ∧ a + m ≤ 4194304 + stkI hs) := by
    show rdB a m 4194304 (stkI hs) = _
    exact rdB_iff a m _ _ ha0 ha1 (by omega) (by omega) (by omega) (by omega) hm
  refine first_five _ e0 _ ?_
  rw [e1, e2, e3, e4]
  unfold locI
  simp only [decide_eq_true_eq]

/-- Region's answer. -/
theorem regI_loc (cn n : Nat) (hs : Bool) (c k : Int) (hc : limI k 16384 = cn) (hn : limI c 256 = n) (a : Int) (ha0 : 0 ≤ a) (ha1 : a < 18446744073709551616) (h1 : cn ≤ 16384) (h2 : n ≤ 256) :
    regI a c k hs = (locI cn n hs a 1 : Int) := by
  unfold regI regF
  rw [rd_loc cn n hs c k hc hn a 1 ha0 ha1 (by omega) h1 h2]
  by_cases h : locI cn n hs a 1 = 0
  · rw [if_pos h, h]; rfl
  · rw [if_neg h, if_neg (by omega)]

theorem R_rd (S : MemS) (b : Nat) (h1 : S.cn ≤ 16384) (h2 : S.n ≤ 256) (a m : Int) (ha0 : 0 ≤ a) (ha1 : a < 18446744073709551616) (hm : 1 ≤ m) :
    (firstI fun j => rdB a m ((S.R b).st j) ((S.R b).sz j)) = if locI S.cn S.n S.hs a m = 0 then -1 else (locI S.cn S.n S.hs a m : Int) :=
  rd_loc S.cn S.n S.hs S.n S.cn (limI_in _ _ (by omega)) (limI_in _ _ (by omega)) a m ha0 ha1 hm h1 h2
theorem firstI_congr {P Q : Nat → Bool} (h : ∀ j, j < 5 → P j = Q j) : firstI P = firstI Q := by
  unfold firstI; rw [h 0 (by omega), h 1 (by omega), h 2 (by omega), h 3 (by omega), h 4 (by omega)]
theorem locI_le (cn n : Nat) (hs : Bool) (a m : Int) : locI cn n hs a m ≤ 4 := by
  unfold locI
  split
  · omega
  split
  · omega
  split
  · omega
  split <;> omega
theorem R_wr (S : MemS) (b : Nat) (h1 : S.cn ≤ 16384) (h2 : S.n ≤ 256) (a m : Int) (ha0 : 0 ≤ a) (ha1 : a < 18446744073709551616) (hm : 1 ≤ m) :
    (firstI fun j => wrB a m ((S.R b).st j) ((S.R b).sz j) ((S.R b).fx j)) = if locI S.cn S.n S.hs a m ≤ 1 then -1 else (locI S.cn S.n S.hs a m : Int) := by
  have hz := stkI_bd S.hs
  have e0 : wrB a m ((S.R b).st 0) ((S.R b).sz 0) ((S.R b).fx 0) = false := by
    show (true && rdB a m 0 0) = false
    rw [rdB_iff a m 0 0 ha0 ha1 (by omega) (by omega) (by omega) (by omega) hm, decide_eq_false (by omega)]; rfl
  have e2 : wrB a m ((S.R b).st 2) ((S.R b).sz 2) ((S.R b).fx 2) = decide (2097152 ≤ a ∧ a + m ≤ 2097152 + S.n) := by
    show (true && rdB a m 2097152 (limI S.n 256)) = _
    rw [limI_in _ _ (by omega), rdB_iff a m _ _ ha0 ha1 (by omega) (by omega) (by omega) (by omega) hm]; rfl
  have e3 : wrB a m ((S.R b).st 3) ((S.R b).sz 3) ((S.R b).fx 3) = decide (3145728 ≤ a ∧ a + m ≤ 3145792) := by
    show (true && rdB a m 3145728 64) = _
    rw [rdB_iff a m _ _ ha0 ha1 (by omega) (by omega) (by omega) (by omega) hm]; rfl
  have e4 : wrB a m ((S.R b).st 4) ((S.R b).sz 4) ((S.R b).fx 4) = decide (4194304 ≤ a ∧ a + m ≤ 4194304 + stkI S.hs) := by
    show (true && rdB a m 4194304 (stkI S.hs)) = _
    rw [rdB_iff a m _ _ ha0 ha1 (by omega) (by omega) (by omega) (by omega) hm]; rfl
  have e1 : wrB a m ((S.R b).st 1) ((S.R b).sz 1) ((S.R b).fx 1) = false := rfl
  have key := first_five (fun j => wrB a m ((S.R b).st j) ((S.R b).sz j) ((S.R b).fx j)) e0 (if locI S.cn S.n S.hs a m = 1 then 0 else locI S.cn S.n S.hs a m) (by
    simp only [e1, e2, e3, e4]
    unfold locI
    simp only [decide_eq_true_eq]
    split
    · simp only [if_pos]
      rw [if_neg (by simp), if_neg (by omega), if_neg (by omega), if_neg (by omega)]
    · rw [if_neg (show ¬ false = true by simp)]
      split
      · rfl
      split
      · rfl
      split <;> rfl)
  rw [key]
  by_cases h : locI S.cn S.n S.hs a m = 1
  · rw [h]; rfl
  · rw [if_neg h]
    by_cases h' : locI S.cn S.n S.hs a m = 0
    · rw [if_pos h', if_pos (by omega)]
    · rw [if_neg h', if_neg (by omega)]
end Go.Proofs.Ythhgcbegcbhaeaa

namespace Go.Proofs.Ythhgcbegcbhaeaa
open Go.RowKit
set_option linter.unusedVariables false
set_option maxRecDepth 100000

/-- The cell of an address that can be written. -/
def plc (a : Int) : Nat := if a < 3145728 then (1 + (a - 2097152)).toNat else if a < 4194304 then (258 + (a - 3145728)).toNat else (322 + (a - 4194304)).toNat
/-- The byte at an address. -/
def byteAt (S : MemS) (kf : Nat → Int) (a : Int) : Int := if a < 2097152 then kf (a - 1048576).toNat else S.g (plc a)
/-- A memory with its code. -/
structure Mem (S : MemS) (kf : Nat → Int) (w : World) (b : Nat) : Prop where
  at_ : S.at w b
  code : w.rowIs S.cb 5 S.cn (fun i => .int .u8 (kf i))
  kb : ∀ i, i < S.cn → 0 ≤ kf i ∧ kf i < 256
theorem Mem.below {S : MemS} {kf : Nat → Int} {W w : World} {b : Nat} (h : Mem S kf W b) (hb : Below W.heap.size W w) : Mem S kf w b :=
  ⟨h.at_.below hb, h.code.of_block (hb.block _ h.code.lt), h.kb⟩
theorem locI_cases {cn n : Nat} {hs : Bool} {a m : Int} (hm : 1 ≤ m) :
    locI cn n hs a m = 0 ∨ (locI cn n hs a m = 1 ∧ 1048576 ≤ a ∧ a + m ≤ 1048576 + cn) ∨ (locI cn n hs a m = 2 ∧ 2097152 ≤ a ∧ a + m ≤ 2097152 + n) ∨ (locI cn n hs a m = 3 ∧ 3145728 ≤ a ∧ a + m ≤ 3145792) ∨ (locI cn n hs a m = 4 ∧ 4194304 ≤ a ∧ a + m ≤ 4194568) := by
  have hz := stkI_bd hs
  unfold locI
  split
  · right; left; exact ⟨rfl, by omega⟩
  split
  · right; right; left; exact ⟨rfl, by omega⟩
  split
  · right; right; right; left; exact ⟨rfl, by omega⟩
  split
  · right; right; right; right; exact ⟨rfl, by omega⟩
  · left; rfl

/-- What Read tells. -/
def readE (S : MemS) (a m : Int) : Int := if locI S.cn S.n S.hs a m = 0 then 20 else 0
def readV (S : MemS) (kf : Nat → Int) (a : Int) (m : Nat) : Int := if locI S.cn S.n S.hs a m = 0 then 0 else getI (fun i => byteAt S kf (a + i)) m
theorem szB_pos {m : Nat} (h : szB m = true) : 1 ≤ (m : Int) := by have := szB_le h; omega

theorem read_any (S : MemS) (kf : Nat → Int) (b : Nat) (a : Int) (m : Nat) (W : World) (h : Mem S kf W b) (hm : szB m = true) (ha0 : 0 ≤ a) (ha1 : a < 18446744073709551616) :
    Calls Try.prog 57 #[.pointer (some ⟨b, 0, none⟩), .int .u64 a, .int .i64 m] W fun e w' => e = .returned (.tuple #[.int .u64 (readV S kf a m), .int .i64 (readE S a m)]) ∧ Below W.heap.size W w' := by
  have hcn := h.at_.cn
  have hn := h.at_.n
  have m1 := szB_pos hm
  have hR := R_rd S b hcn hn a m ha0 ha1 m1
  unfold readV readE
  rcases locI_cases (cn := S.cn) (n := S.n) (hs := S.hs) (a := a) (m := m) m1 with e | ⟨e, l1, l2⟩ | ⟨e, l1, l2⟩ | ⟨e, l1, l2⟩ | ⟨e, l1, l2⟩
  · rw [e] at hR ⊢
    rw [if_pos rfl, if_pos rfl]
    exact read_miss S b a m W h.at_ hm hR
  · rw [e] at hR ⊢
    rw [if_neg (by omega), if_neg (by omega)]
    refine read_hit S b a m 1 (a - 1048576).toNat S.cb 0 _ W h.at_ (by omega) hm ?_ hR rfl ?_ ?_ ?_
    · show (a - 1048576) % 18446744073709551616 = _; omega
    · show _ ≤ S.cn; omega
    · intro i hi
      rw [h.code.cell (show 0 + (a - 1048576).toNat + i < S.cn by omega)]
      unfold byteAt
      rw [if_pos (by omega), show (a + (i : Int) - 1048576).toNat = 0 + (a - 1048576).toNat + i by omega]
    · intro i hi
      unfold byteAt
      rw [if_pos (by omega)]
      exact h.kb _ (by omega)
  · rw [e] at hR ⊢
    rw [if_neg (by omega), if_neg (by omega)]
    refine read_hit S b a m 2 (a - 2097152).toNat b 1 _ W h.at_ (by omega) hm ?_ hR rfl ?_ ?_ ?_
    · show (a - 2097152) % 18446744073709551616 = _; omega
    · show _ ≤ S.n; omega
    · intro i hi
      rw [h.at_.row.cell (show 1 + (a - 2097152).toNat + i < 587 by omega)]
      unfold byteAt plc MemS.val
      rw [if_neg (by omega), if_neg (by omega), if_neg (by omega), if_neg (by omega), if_pos (by omega), show (1 + (a + (i : Int) - 2097152)).toNat = 1 + (a - 2097152).toNat + i by omega]
    · intro i hi
      unfold byteAt
      rw [if_neg (by omega)]
      exact h.at_.bytes _
  · rw [e] at hR ⊢
    rw [if_neg (by omega), if_neg (by omega)]
    refine read_hit S b a m 3 (a - 3145728).toNat b 258 _ W h.at_ (by omega) hm ?_ hR rfl ?_ ?_ ?_
    · show (a - 3145728) % 18446744073709551616 = _; omega
    · show _ ≤ 64; omega
    · intro i hi
      rw [h.at_.row.cell (show 258 + (a - 3145728).toNat + i < 587 by omega)]
      unfold byteAt plc MemS.val
      rw [if_neg (by omega), if_neg (by omega), if_neg (by omega), if_neg (by omega), if_neg (by omega), if_pos (by omega), show (258 + (a + (i : Int) - 3145728)).toNat = 258 + (a - 3145728).toNat + i by omega]
    · intro i hi
      unfold byteAt
      rw [if_neg (by omega)]
      exact h.at_.bytes _
  · rw [e] at hR ⊢
    rw [if_neg (by omega), if_neg (by omega)]
    refine read_hit S b a m 4 (a - 4194304).toNat b 322 _ W h.at_ (by omega) hm ?_ hR rfl ?_ ?_ ?_
    · show (a - 4194304) % 18446744073709551616 = _; omega
    · show _ ≤ 264; omega
    · intro i hi
      rw [h.at_.row.cell (show 322 + (a - 4194304).toNat + i < 587 by omega)]
      unfold byteAt plc MemS.val
      rw [if_neg (by omega), if_neg (by omega), if_neg (by omega), if_neg (by omega), if_neg (by omega), if_neg (by omega), show (322 + (a + (i : Int) - 4194304)).toNat = 322 + (a - 4194304).toNat + i by omega]
    · intro i hi
      unfold byteAt
      rw [if_neg (by omega)]
      exact h.at_.bytes _

/-- The memory behind a write that is let be. -/
def MemS.putAt (S : MemS) (a : Int) (m : Nat) (v : Int) : MemS := S.put (plc a) m (byteI v)
theorem write_no (S : MemS) (b : Nat) (a v : Int) (m : Nat) (W : World) (hS : S.at W b) (hm : szB m = true) (ha0 : 0 ≤ a) (ha1 : a < 18446744073709551616) (hl : locI S.cn S.n S.hs a m ≤ 1) :
    Calls Try.prog 59 #[.pointer (some ⟨b, 0, none⟩), .int .u64 a, .int .i64 m, .int .u64 v] W fun e w' => e = .returned (.int .i64 20) ∧ Below W.heap.size W w' := by
  have hR := R_wr S b hS.cn hS.n a m ha0 ha1 (szB_pos hm)
  rw [if_pos hl] at hR
  exact write_miss S b a v m W hS hm hR
theorem write_yes (S : MemS) (b : Nat) (a v : Int) (m : Nat) (W : World) (hS : S.at W b) (hm : szB m = true) (ha0 : 0 ≤ a) (ha1 : a < 18446744073709551616) (hl : 1 < locI S.cn S.n S.hs a m) (hv0 : 0 ≤ v) (hv1 : v < 18446744073709551616) :
    Calls Try.prog 59 #[.pointer (some ⟨b, 0, none⟩), .int .u64 a, .int .i64 m, .int .u64 v] W fun e w' => e = .returned (.int .i64 0) ∧ (S.putAt a m v).at w' b ∧ ChgAt b W w' := by
  have hcn := hS.cn
  have hn := hS.n
  have m1 := szB_pos hm
  have hR := R_wr S b hcn hn a m ha0 ha1 m1
  rw [if_neg (by omega)] at hR
  unfold MemS.putAt
  rcases locI_cases (cn := S.cn) (n := S.n) (hs := S.hs) (a := a) (m := m) m1 with e | ⟨e, l1, l2⟩ | ⟨e, l1, l2⟩ | ⟨e, l1, l2⟩ | ⟨e, l1, l2⟩
  · omega
  · omega
  · rw [e] at hR
    rw [show plc a = 1 + (a - 2097152).toNat by unfold plc; rw [if_pos (by omega)]; omega]
    exact write_hit S b a v m 2 (a - 2097152).toNat 1 W hS (by omega) hm (by show (a - 2097152) % 18446744073709551616 = _; omega) hR rfl (by show _ ≤ S.n; omega) (by unfold InBytes; omega) hv0 hv1
  · rw [e] at hR
    rw [show plc a = 258 + (a - 3145728).toNat by unfold plc; rw [if_neg (by omega), if_pos (by omega)]; omega]
    exact write_hit S b a v m 3 (a - 3145728).toNat 258 W hS (by omega) hm (by show (a - 3145728) % 18446744073709551616 = _; omega) hR rfl (by show _ ≤ 64; omega) (by unfold InBytes; omega) hv0 hv1
  · rw [e] at hR
    rw [show plc a = 322 + (a - 4194304).toNat by unfold plc; rw [if_neg (by omega), if_neg (by omega)]; omega]
    exact write_hit S b a v m 4 (a - 4194304).toNat 322 W hS (by omega) hm (by show (a - 4194304) % 18446744073709551616 = _; omega) hR rfl (by show _ ≤ 264; omega) (by unfold InBytes; omega) hv0 hv1
/-- What is read behind a write. -/
theorem byteAt_put (S : MemS) (kf : Nat → Int) (a x v : Int) (m : Nat) (m1 : 1 ≤ (m : Int)) (hl : 1 < locI S.cn S.n S.hs a m) (hx : locI S.cn S.n S.hs x 1 ≠ 0) (hn : S.n ≤ 256) (hcn : S.cn ≤ 16384) :
    byteAt (S.putAt a m v) kf x = if a ≤ x ∧ x < a + m then byteI v (x - a).toNat else byteAt S kf x := by
  have c1 := locI_cases (cn := S.cn) (n := S.n) (hs := S.hs) (a := a) (m := m) m1
  have c2 := locI_cases (cn := S.cn) (n := S.n) (hs := S.hs) (a := x) (m := 1) (by omega)
  unfold byteAt MemS.putAt MemS.put
  by_cases hx2 : x < 2097152
  · rw [if_pos hx2, if_pos hx2, if_neg (by omega)]
  · rw [if_neg hx2, if_neg hx2]
    show (if plc a ≤ plc x ∧ plc x < plc a + m then byteI v (plc x - plc a) else S.g (plc x)) = _
    have hp : (plc a ≤ plc x ∧ plc x < plc a + m) ↔ (a ≤ x ∧ x < a + m) := by
      unfold plc; (repeat' split) <;> omega
    by_cases hy : a ≤ x ∧ x < a + m
    · rw [if_pos (hp.2 hy), if_pos hy]
      congr 1
      unfold plc; (repeat' split) <;> omega
    · rw [if_neg (fun h => hy (hp.1 h)), if_neg hy]
end Go.Proofs.Ythhgcbegcbhaeaa
