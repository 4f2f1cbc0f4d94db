/-
  The document's own memory, latheref02: its frame.
-/
import Derived.Test.YtpbnmbeedjhloaaRmE
namespace Go.Proofs.Ytpbnmbeedjhloaa.Rm
open Go.RowKit
set_option linter.unusedVariables false
set_option maxRecDepth 100000
set_option linter.unnecessarySimpa false
set_option linter.unusedSimpArgs false

/-- The first j bytes, else none. -/
def pfx (f : Nat → Int) (j : Nat) : Nat → Int := fun i => if i < j then f i else 0
theorem bytesOf_eq {f g : Nat → Int} {n : Nat} (h : ∀ i, i < n → f i = g i) : bytesOf f n = bytesOf g n := by
  apply List.ext_getElem?
  intro i
  by_cases hi : i < n
  · rw [bytesOf_get _ _ i hi, bytesOf_get _ _ i hi, h i hi]
  · rw [List.getElem?_eq_none (by rw [bytesOf_length]; omega), List.getElem?_eq_none (by rw [bytesOf_length]; omega)]
theorem pfx_zero (f : Nat → Int) : (bytesOf (pfx f 0) 64).toArray = zeros 64 := by
  unfold zeros
  rw [bytesOf_eq (f := pfx f 0) (g := fun _ => 0) (fun i hi => by unfold pfx; rw [if_neg (by omega)])]
theorem pfx_step (f : Nat → Int) (j : Nat) (hj : j < 64) : (bytesOf (pfx f j) 64).toArray.setIfInBounds j (.int .u8 (f j)) = (bytesOf (pfx f (j + 1)) 64).toArray := by
  rw [List.setIfInBounds_toArray]
  congr 1
  apply List.ext_getElem?
  intro i
  rw [List.getElem?_set]
  by_cases hi : i < 64
  · rw [bytesOf_get _ _ i hi, bytesOf_get _ _ i hi, bytesOf_length]
    unfold pfx
    by_cases h : j = i
    · subst h; rw [if_pos rfl, if_pos hj, if_pos (by omega)]
    · rw [if_neg h]
      by_cases h2 : i < j
      · rw [if_pos h2, if_pos (by omega)]
      · rw [if_neg h2, if_neg (by omega)]
  · rw [if_neg (by omega), List.getElem?_eq_none (by rw [bytesOf_length]; omega), List.getElem?_eq_none (by rw [bytesOf_length]; omega)]

/-- Between two rounds. -/
def FrRel (W : World) (f : Nat → Int) (j : Nat) (w : World) : Prop := Below W.heap.size W w ∧ w.heap[W.heap.size]? = some (.cells (zeros 64) 94 (0, 0)) ∧ w.heap[W.heap.size + 1]? = some (.cells (bytesOf (pfx f j) 64).toArray 94 (0, 0))
theorem fr_step {W w w' : World} {f : Nat → Int} {j : Nat} (h : FrRel W f j w) (hj : j < 64) (s : Stored w (W.heap.size + 1) ((bytesOf (pfx f j) 64).toArray.setIfInBounds j (.int .u8 (f j))) 94 w') : FrRel W f (j + 1) w' :=
  ⟨s.below h.1 (by omega), (s.other _ (by omega)).trans h.2.1, by rw [← pfx_step f j hj]; exact s.row⟩

set_option maxRecDepth 100000 in
set_option maxHeartbeats 2000000 in
theorem r_frame (M : RefM) (r base : Nat) (W : World) (h : RefAt M W r base) (h64 : M.fr.len = 64) :
    Calls Try.prog 79 #[.pointer (some ⟨r, 0, none⟩)] W fun e w' => e = .returned (.agg (bytesOf M.fr.f 64).toArray) ∧ Below W.heap.size W w' := by
  have hz := (zero_of_info zero_frame).1
  have hi := Lib.hid (show (Try.prog.info? 94).map (·.size) = some (bytesOf (pfx M.fr.f 64) 64).toArray.size from info_frame.trans (by rw [List.size_toArray, bytesOf_length]))
  have hpf := Lib.hid (show (bytesOf (pfx M.fr.f 64) 64).toArray = (bytesOf M.fr.f 64).toArray by rw [bytesOf_eq (f := pfx M.fr.f 64) (g := M.fr.f) (fun i hi => by unfold pfx; rw [if_pos hi])])
  obtain ⟨g, hg, hbg, hlc, hcm, hc⟩ := h.fr.open (by omega)
  have c2 := h.c2
  simp only [Rw.v] at c2
  rw [hg, h64] at c2
  rw [h64] at hc hlc
  have C2 := Lib.hid c2; have HC := Lib.hid hc
  clear h c2 hc hg h64
  generalize M.fr.f = f at *
  generalize M.fr.cap = Cp at *
  go_enter Try.func79, Try.ntmps79
  go_wp2_with fail
  go_loopw [4] (fun i wr => ∃ j : Nat, j ≤ 64 ∧ i = .int .i64 j ∧ Hid (FrRel W f j wr)) (fun i _ => 64 - (intOf i).toNat)
  case atStart => exact ⟨0, by omega, rfl, Lib.hid ⟨below_new (below_new (Below.refl _ W) _) _, (heap_past _ _ _ (by simp)).trans (heap_last _ _ _ rfl), by rw [pfx_zero]; exact heap_last _ _ _ (by simp)⟩⟩
  case round =>
    obtain ⟨j, hj, rfl, hR⟩ := hrel
    by_cases hlt : j < 64
    · have c2 := (hR.out.1.cell (p := ⟨r, 2, none⟩) (lt_of_cell C2.out)).trans C2.out
      have cj := (hR.out.1.cell (p := ⟨g, j, none⟩) (lt_of_cell (HC.out j hlt))).trans (HC.out j hlt)
      have k64 : (j : Int) < 64 := by omega
      go_wp2_with (refine wpList_store_cell rfl 5 _ _ rfl (W.heap.size + 1) j (.int .u8 (f j)) rfl rfl rfl rfl 94 _ hR.out.2.2 info_u8n (by rw [List.size_toArray, bytesOf_length]; exact hlt) ?_; intro w1 s1)
      have R1 := Lib.hid (fr_step hR.out hlt s1)
      clear s1 c2 cj
      go_wp2_with fail
      go_roundw
      case rel => exact ⟨j + 1, by omega, by go_num, R1⟩
      case measure => simp [intOf]; omega
    · obtain rfl : j = 64 := by omega
      go_wp2_with (first | (refine wpList_load_row rfl 94 _ rfl (W.heap.size + 1) rfl _ (bytesOf (pfx f 64) 64).toArray _ _ hR.out.2.2 Try.underlying94 rfl hi.out ?_) | (refine halt_store 94 _ _ rfl ?_))
      refine ⟨?_, trivial⟩
      refine wpList_store_is rfl 94 _ _ rfl W.heap.size (bytesOf (pfx f 64) 64).toArray rfl rfl 94 _ hR.out.2.1 hi.out ?_ (bytes_one _ 64) ?_
      · unfold zeros; rw [List.size_toArray, bytesOf_length, List.size_toArray, bytesOf_length]
      intro w1 s1
      have S1 := Lib.hid s1; clear s1
      go_wp2
      refine bodyPost_ret (v := .agg (bytesOf (pfx f 64) 64).toArray) (results_cell_row rfl _ _ W.heap.size _ _ _ _ rfl S1.out.row Try.underlying94 rfl hi.out) rfl ⟨by rw [hpf.out], S1.out.below hR.out.1 (Nat.le_refl _)⟩
end Go.Proofs.Ytpbnmbeedjhloaa.Rm
