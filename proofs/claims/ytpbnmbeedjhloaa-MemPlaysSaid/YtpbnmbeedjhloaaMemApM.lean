/-
  What the law MemApart rests on: a write, whatever its size and place; frames compared.
-/
import Derived.Test.YtpbnmbeedjhloaaMemK
import Derived.Test.YtpbnmbeedjhloaaActs
import Derived.Test.YtpbnmbeedjhloaaOrd
import Derived.ChangeKeysEq
namespace Go.Proofs.Ytpbnmbeedjhloaa.Apart
open Go.RowKit
set_option linter.unusedVariables false
set_option maxRecDepth 100000

theorem retB {a b : Bool} (h : a = b) : Ending.returned (.bool a) = .returned (.bool b) := by rw [h]
/-- What is known in a round. -/
structure BackSt (W : World) (kf : Nat → Int) (b b' X : Nat) (S So : MemS) (d t n v : Int) (w : World) : Prop where
  below : Below W.heap.size W w
  mem : Mem S kf w b
  old : Mem So kf w b'
  act : XAt w X d t n v
theorem BackSt.next {W : World} {kf : Nat → Int} {b b' X : Nat} {S So : MemS} {d t n v : Int} {w w' : World} (h : BackSt W kf b b' X S So d t n v w) (k : Below w.heap.size w w') : BackSt W kf b b' X S So d t n v w' :=
  ⟨below_call h.below k, h.mem.below k, h.old.below k, h.act.below k⟩
/-- What is known between two rounds. -/
def BackRel (W : World) (kf : Nat → Int) (kl cl b : Nat) (w : World) : Prop := Below W.heap.size W w ∧ ∃ S, Mem S kf w b ∧ S.cn = kl ∧ S.n = cl ∧ S.hs = true
theorem rangeAt_below {W w : World} {B o : Nat} {cs : List Value} (hb : Below W.heap.size W w) (h : W.rangeAt B o cs) : w.rangeAt B o cs := fun j v hv =>
  (hb.cell (p := ⟨B, o + j, none⟩) (lt_of_cell (h j v hv))).trans (h j v hv)
theorem info_act : (Try.prog.info? 35).map (·.size) = some 4 := by kernel_rfl
theorem chg_below {b : Nat} {W w : World} (h : Below W.heap.size W w) : ChgAt b W w := ⟨h.os, h.tape, h.output, h.size, fun k hk _ => h.block k hk⟩

/-- The region of an access is its first byte's. -/
theorem loc_first {cn n : Nat} {hs : Bool} {a m : Int} (hm : 1 ≤ m) (h : locI cn n hs a m ≠ 0) (h1 : cn ≤ 16384) (h2 : n ≤ 256) : locI cn n hs a 1 = locI cn n hs a m := by
  have hz := stkI_bd hs
  by_cases d1 : 1048576 ≤ a ∧ a + m ≤ 1048576 + cn
  · rw [loc_eq1 d1 hm, loc_eq1 ⟨by omega, by omega⟩ (by omega)]
  by_cases d2 : 2097152 ≤ a ∧ a + m ≤ 2097152 + n
  · rw [loc_eq2 d2 hm h1, loc_eq2 ⟨by omega, by omega⟩ (by omega) h1]
  by_cases d3 : 3145728 ≤ a ∧ a + m ≤ 3145792
  · rw [loc_eq3 d3 hm h1 h2, loc_eq3 ⟨by omega, by omega⟩ (by omega) h1 h2]
  by_cases d4 : 4194304 ≤ a ∧ a + m ≤ 4194304 + stkI hs
  · rw [loc_eq4 d4 hm h1 h2, loc_eq4 ⟨by omega, by omega⟩ (by omega) h1 h2]
  exact absurd (loc_eq0 d1 d2 d3 d4) h
/-- What a write into region r leaves alone. -/
def Keeps (S S' : MemS) (r : Int) : Prop := (r ≠ 2 → ∀ i, i < S.n → S'.g (1 + i) = S.g (1 + i)) ∧ (r ≠ 3 → ∀ i, i < 64 → S'.g (258 + i) = S.g (258 + i)) ∧ (r ≠ 4 → ∀ i, i < 264 → S'.g (322 + i) = S.g (322 + i))
theorem put_keep (S : MemS) (a v : Int) (m : Nat) (hm : 1 ≤ (m : Int)) (hl : 1 < locI S.cn S.n S.hs a m) (h1 : S.cn ≤ 16384) (h2 : S.n ≤ 256) : Keeps S (S.putAt a m v) (locI S.cn S.n S.hs a 1) := by
  rw [loc_first hm (by omega) h1 h2]
  unfold Keeps MemS.putAt MemS.put
  simp only
  rcases locI_cases (cn := S.cn) (n := S.n) (hs := S.hs) (a := a) (m := m) hm with e | ⟨e, l1, l2⟩ | ⟨e, l1, l2⟩ | ⟨e, l1, l2⟩ | ⟨e, l1, l2⟩
  · omega
  · omega
  · rw [e]
    have p : plc a = (1 + (a - 2097152)).toNat := by unfold plc; rw [if_pos (by omega)]
    refine ⟨fun h => absurd rfl h, fun _ i hi => if_neg (by omega), fun _ i hi => if_neg (by omega)⟩
  · rw [e]
    have p : plc a = (258 + (a - 3145728)).toNat := by unfold plc; rw [if_neg (by omega), if_pos (by omega)]
    refine ⟨fun _ i hi => if_neg (by omega), fun h => absurd rfl h, fun _ i hi => if_neg (by omega)⟩
  · rw [e]
    have p : plc a = (322 + (a - 4194304)).toNat := by unfold plc; rw [if_neg (by omega), if_neg (by omega)]
    refine ⟨fun _ i hi => if_neg (by omega), fun _ i hi => if_neg (by omega), fun h => absurd rfl h⟩

/-- What a write comes to. -/
def WrIs (S : MemS) (kf : Nat → Int) (b : Nat) (a : Int) (W : World) (e : Ending) (w' : World) : Prop :=
  ∃ (f : Int) (S' : MemS), e = .returned (.int .i64 f) ∧ Mem S' kf w' b ∧ ChgAt b W w' ∧ (S'.cn = S.cn ∧ S'.n = S.n ∧ S'.hs = S.hs) ∧ (f = 0 → Keeps S S' (locI S.cn S.n S.hs a 1)) ∧ (¬ f = 0 → Keeps S S' 0)
theorem keeps_self (S : MemS) (r : Int) : Keeps S S r := ⟨fun _ _ _ => rfl, fun _ _ _ => rfl, fun _ _ _ => rfl⟩
theorem write_all (S : MemS) (kf : Nat → Int) (b : Nat) (a nk v : Int) (W : World) (h : Mem S kf W b) (ha0 : 0 ≤ a) (ha1 : a < 18446744073709551616) (hn0 : -9223372036854775808 ≤ nk) (hn1 : nk ≤ 9223372036854775807) (hv0 : 0 ≤ v) (hv1 : v < 18446744073709551616) :
    Calls Try.prog 17 #[.pointer (some ⟨b, 0, none⟩), .int .u64 a, .int .i64 nk, .int .u64 v] W (WrIs S kf b a W) := by
  cases hs : szB (IntKind.u64.wrap nk)
  · refine (write_bad b a nk v W hs).mono ?_
    rintro e w ⟨rfl, k⟩
    exact ⟨2, S, rfl, h.below k, chg_below k, ⟨rfl, rfl, rfl⟩, fun h => absurd h (by omega), fun _ => keeps_self S 0⟩
  · obtain ⟨m, rfl, hm⟩ : ∃ m : Nat, nk = m ∧ szB m = true := by
      have hw : IntKind.u64.wrap nk = nk % 18446744073709551616 := IntKind.wrap_u64 nk
      rw [hw] at hs
      have hc : ((nk % 18446744073709551616 = 1 ∨ nk % 18446744073709551616 = 2) ∨ nk % 18446744073709551616 = 4) ∨ nk % 18446744073709551616 = 8 := by simpa [szB] using hs
      refine ⟨nk.toNat, by omega, ?_⟩
      rw [show ((nk.toNat : Nat) : Int) = nk % 18446744073709551616 by omega]
      exact hs
    have m1 := szB_pos hm
    by_cases hl : locI S.cn S.n S.hs a m ≤ 1
    · refine (write_no S b a v m W h.at_ hm ha0 ha1 hl).mono ?_
      rintro e w ⟨rfl, k⟩
      exact ⟨20, S, rfl, h.below k, chg_below k, ⟨rfl, rfl, rfl⟩, fun h => absurd h (by omega), fun _ => keeps_self S 0⟩
    · refine (write_yes S b a v m W h.at_ hm ha0 ha1 (by omega) hv0 hv1).mono ?_
      rintro e w ⟨rfl, k, hC⟩
      exact ⟨0, S.putAt a m v, rfl, h.chg k hC, hC, ⟨rfl, rfl, rfl⟩, fun _ => put_keep S a v m m1 (by omega) h.at_.cn h.at_.n, fun h => absurd rfl h⟩

/-- A frame compared with itself. -/
theorem items_refl (f : Nat → Int) (n : Nat) (w : World) : ∀ is : List Nat, (∀ i ∈ is, i < n) → (Op.eqItems 9999 5 (Try.prog.cellsOf 5) (bytesOf f n).toArray (bytesOf f n).toArray is).run Try.prog w = .ok true w
  | [], _ => by simp [Op.eqItems]
  | i :: is, h => by
    have hi := h i (List.mem_cons_self ..)
    have c1 : Try.prog.cellsOf 5 = 1 := by kernel_rfl
    have ih := items_refl f n w is (fun j hj => h j (List.mem_cons_of_mem _ hj))
    rw [c1] at ih ⊢
    have hx : (bytesOf f n).toArray[i * 1]? = some (.int .u8 (f i)) := by rw [Nat.mul_one, List.getElem?_toArray]; exact bytesOf_get f n i hi
    have hp := run_part_plain (P := Try.prog) w (e := 5) (by kernel_rfl) hx
    have he := run_equalIn_int (P := Try.prog) w 9998 5 .u8 .u8 (f i) (f i) Try.underlying5
    simp only [Op.eqItems, Sem.run_bind, hp, he, Result.andThen_ok, beq_self_eq_true, Bool.not_true, Bool.false_eq_true, if_false, ih]
theorem frame_refl (f : Nat → Int) (w : World) : (Op.equalIn 10000 94 (.agg (bytesOf f 64).toArray) (.agg (bytesOf f 64).toArray)).run Try.prog w = .ok true w := by
  cases hi : Try.prog.info? 5 with
  | none => have := info_u8; rw [hi] at this; simp at this
  | some ie =>
    rw [run_equalIn_array (P := Try.prog) w 9999 (t := 94) (e := 5) (n := 64) _ _ Try.underlying94 hi]
    exact items_refl f 64 w _ (fun i hi => List.mem_range.1 hi)
end Go.Proofs.Ytpbnmbeedjhloaa.Apart
