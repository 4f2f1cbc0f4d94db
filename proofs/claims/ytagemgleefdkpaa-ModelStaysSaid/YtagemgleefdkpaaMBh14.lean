/-
  Several texts in one: MemB, OrdT.
-/
import Derived.Test.YtagemgleefdkpaaMBh13
import Derived.Test.YtagemgleefdkpaaMBh05
set_option linter.unusedVariables false
set_option linter.unusedSimpArgs false
set_option linter.unnecessarySimpa false
namespace Go.Proofs.Ytagemgleefdkpaa
open Go.RowKit
set_option linter.unusedVariables false
set_option maxRecDepth 100000

/-- The cell of an address that can be written. -/
def plc (a : Int) : Nat := if a < 3145728 then (1 + (a - 2097152)).toNat else if a < 4194304 then (258 + (a - 3145728)).toNat else (322 + (a - 4194304)).toNat
/-- The byte at an address. -/
def byteAt (S : MemS) (kf : Nat → Int) (a : Int) : Int := if a < 2097152 then kf (a - 1048576).toNat else S.g (plc a)
/-- A memory with its code. -/
structure Mem (S : MemS) (kf : Nat → Int) (w : World) (b : Nat) : Prop where
  at_ : S.at w b
  code : w.rowIs S.cb 5 S.cn (fun i => .int .u8 (kf i))
  kb : ∀ i, i < S.cn → 0 ≤ kf i ∧ kf i < 256
theorem Mem.below {S : MemS} {kf : Nat → Int} {W w : World} {b : Nat} (h : Mem S kf W b) (hb : Below W.heap.size W w) : Mem S kf w b :=
  ⟨h.at_.below hb, h.code.of_block (hb.block _ h.code.lt), h.kb⟩
theorem locI_cases {cn n : Nat} {hs : Bool} {a m : Int} (hm : 1 ≤ m) :
    locI cn n hs a m = 0 ∨ (locI cn n hs a m = 1 ∧ 1048576 ≤ a ∧ a + m ≤ 1048576 + cn) ∨ (locI cn n hs a m = 2 ∧ 2097152 ≤ a ∧ a + m ≤ 2097152 + n) ∨ (locI cn n hs a m = 3 ∧ 3145728 ≤ a ∧ a + m ≤ 3145792) ∨ (locI cn n hs a m = 4 ∧ 4194304 ≤ a ∧ a + m ≤ 4194568) := by
  have hz := stkI_bd hs
  unfold locI
  split
  · right; left; exact ⟨rfl, by omega⟩
  split
  · right; right; left; exact ⟨rfl, by omega⟩
  split
  · right; right; right; left; exact ⟨rfl, by omega⟩
  split
  · right; right; right; right; exact ⟨rfl, by omega⟩
  · left; rfl

/-- What Read tells. -/
def readE (S : MemS) (a m : Int) : Int := if locI S.cn S.n S.hs a m = 0 then 20 else 0
def readV (S : MemS) (kf : Nat → Int) (a : Int) (m : Nat) : Int := if locI S.cn S.n S.hs a m = 0 then 0 else getI (fun i => byteAt S kf (a + i)) m
theorem szB_pos {m : Nat} (h : szB m = true) : 1 ≤ (m : Int) := by have := szB_le h; omega

theorem read_any (S : MemS) (kf : Nat → Int) (b : Nat) (a : Int) (m : Nat) (W : World) (h : Mem S kf W b) (hm : szB m = true) (ha0 : 0 ≤ a) (ha1 : a < 18446744073709551616) :
    Calls Try.prog 57 #[.pointer (some ⟨b, 0, none⟩), .int .u64 a, .int .i64 m] W fun e w' => e = .returned (.tuple #[.int .u64 (readV S kf a m), .int .i64 (readE S a m)]) ∧ Below W.heap.size W w' := by
  have hcn := h.at_.cn
  have hn := h.at_.n
  have m1 := szB_pos hm
  have hR := R_rd S b hcn hn a m ha0 ha1 m1
  unfold readV readE
  rcases locI_cases (cn := S.cn) (n := S.n) (hs := S.hs) (a := a) (m := m) m1 with e | ⟨e, l1, l2⟩ | ⟨e, l1, l2⟩ | ⟨e, l1, l2⟩ | ⟨e, l1, l2⟩
  · rw [e] at hR ⊢
    rw [if_pos rfl, if_pos rfl]
    exact read_miss S b a m W h.at_ hm hR
  · rw [e] at hR ⊢
    rw [if_neg (by omega), if_neg (by omega)]
    refine read_hit S b a m 1 (a - 1048576).toNat S.cb 0 _ W h.at_ (by omega) hm ?_ hR rfl ?_ ?_ ?_
    · show (a - 1048576) % 18446744073709551616 = _; omega
    · show _ ≤ S.cn; omega
    · intro i hi
      rw [h.code.cell (show 0 + (a - 1048576).toNat + i < S.cn by omega)]
      unfold byteAt
      rw [if_pos (by omega), show (a + (i : Int) - 1048576).toNat = 0 + (a - 1048576).toNat + i by omega]
    · intro i hi
      unfold byteAt
      rw [if_pos (by omega)]
      exact h.kb _ (by omega)
  · rw [e] at hR ⊢
    rw [if_neg (by omega), if_neg (by omega)]
    refine read_hit S b a m 2 (a - 2097152).toNat b 1 _ W h.at_ (by omega) hm ?_ hR rfl ?_ ?_ ?_
    · show (a - 2097152) % 18446744073709551616 = _; omega
    · show _ ≤ S.n; omega
    · intro i hi
      rw [h.at_.row.cell (show 1 + (a - 2097152).toNat + i < 587 by omega)]
      unfold byteAt plc MemS.val
      rw [if_neg (by omega), if_neg (by omega), if_neg (by omega), if_neg (by omega), if_pos (by omega), show (1 + (a + (i : Int) - 2097152)).toNat = 1 + (a - 2097152).toNat + i by omega]
    · intro i hi
      unfold byteAt
      rw [if_neg (by omega)]
      exact h.at_.bytes _
  · rw [e] at hR ⊢
    rw [if_neg (by omega), if_neg (by omega)]
    refine read_hit S b a m 3 (a - 3145728).toNat b 258 _ W h.at_ (by omega) hm ?_ hR rfl ?_ ?_ ?_
    · show (a - 3145728) % 18446744073709551616 = _; omega
    · show _ ≤ 64; omega
    · intro i hi
      rw [h.at_.row.cell (show 258 + (a - 3145728).toNat + i < 587 by omega)]
      unfold byteAt plc MemS.val
      rw [if_neg (by omega), if_neg (by omega), if_neg (by omega), if_neg (by omega), if_neg (by omega), if_pos (by omega), show (258 + (a + (i : Int) - 3145728)).toNat = 258 + (a - 3145728).toNat + i by omega]
    · intro i hi
      unfold byteAt
      rw [if_neg (by omega)]
      exact h.at_.bytes _
  · rw [e] at hR ⊢
    rw [if_neg (by omega), if_neg (by omega)]
    refine read_hit S b a m 4 (a - 4194304).toNat b 322 _ W h.at_ (by omega) hm ?_ hR rfl ?_ ?_ ?_
    · show (a - 4194304) % 18446744073709551616 = _; omega
    · show _ ≤ 264; omega
    · intro i hi
      rw [h.at_.row.cell (show 322 + (a - 4194304).toNat + i < 587 by omega)]
      unfold byteAt plc MemS.val
      rw [if_neg (by omega), if_neg (by omega), if_neg (by omega), if_neg (by omega), if_neg (by omega), if_neg (by omega), show (322 + (a + (i : Int) - 4194304)).toNat = 322 + (a - 4194304).toNat + i by omega]
    · intro i hi
      unfold byteAt
      rw [if_neg (by omega)]
      exact h.at_.bytes _

/-- The memory behind a write that is let be. -/
def MemS.putAt (S : MemS) (a : Int) (m : Nat) (v : Int) : MemS := S.put (plc a) m (byteI v)
theorem write_no (S : MemS) (b : Nat) (a v : Int) (m : Nat) (W : World) (hS : S.at W b) (hm : szB m = true) (ha0 : 0 ≤ a) (ha1 : a < 18446744073709551616) (hl : locI S.cn S.n S.hs a m ≤ 1) :
    Calls Try.prog 59 #[.pointer (some ⟨b, 0, none⟩), .int .u64 a, .int .i64 m, .int .u64 v] W fun e w' => e = .returned (.int .i64 20) ∧ Below W.heap.size W w' := by
  have hR := R_wr S b hS.cn hS.n a m ha0 ha1 (szB_pos hm)
  rw [if_pos hl] at hR
  exact write_miss S b a v m W hS hm hR
theorem write_yes (S : MemS) (b : Nat) (a v : Int) (m : Nat) (W : World) (hS : S.at W b) (hm : szB m = true) (ha0 : 0 ≤ a) (ha1 : a < 18446744073709551616) (hl : 1 < locI S.cn S.n S.hs a m) (hv0 : 0 ≤ v) (hv1 : v < 18446744073709551616) :
    Calls Try.prog 59 #[.pointer (some ⟨b, 0, none⟩), .int .u64 a, .int .i64 m, .int .u64 v] W fun e w' => e = .returned (.int .i64 0) ∧ (S.putAt a m v).at w' b ∧ ChgAt b W w' := by
  have hcn := hS.cn
  have hn := hS.n
  have m1 := szB_pos hm
  have hR := R_wr S b hcn hn a m ha0 ha1 m1
  rw [if_neg (by omega)] at hR
  unfold MemS.putAt
  rcases locI_cases (cn := S.cn) (n := S.n) (hs := S.hs) (a := a) (m := m) m1 with e | ⟨e, l1, l2⟩ | ⟨e, l1, l2⟩ | ⟨e, l1, l2⟩ | ⟨e, l1, l2⟩
  · omega
  · omega
  · rw [e] at hR
    rw [show plc a = 1 + (a - 2097152).toNat by unfold plc; rw [if_pos (by omega)]; omega]
    exact write_hit S b a v m 2 (a - 2097152).toNat 1 W hS (by omega) hm (by show (a - 2097152) % 18446744073709551616 = _; omega) hR rfl (by show _ ≤ S.n; omega) (by unfold InBytes; omega) hv0 hv1
  · rw [e] at hR
    rw [show plc a = 258 + (a - 3145728).toNat by unfold plc; rw [if_neg (by omega), if_pos (by omega)]; omega]
    exact write_hit S b a v m 3 (a - 3145728).toNat 258 W hS (by omega) hm (by show (a - 3145728) % 18446744073709551616 = _; omega) hR rfl (by show _ ≤ 64; omega) (by unfold InBytes; omega) hv0 hv1
  · rw [e] at hR
    rw [show plc a = 322 + (a - 4194304).toNat by unfold plc; rw [if_neg (by omega), if_neg (by omega)]; omega]
    exact write_hit S b a v m 4 (a - 4194304).toNat 322 W hS (by omega) hm (by show (a - 4194304) % 18446744073709551616 = _; omega) hR rfl (by show _ ≤ 264; omega) (by unfold InBytes; omega) hv0 hv1
/-- What is read behind a write. -/
theorem byteAt_put (S : MemS) (kf : Nat → Int) (a x v : Int) (m : Nat) (m1 : 1 ≤ (m : Int)) (hl : 1 < locI S.cn S.n S.hs a m) (hx : locI S.cn S.n S.hs x 1 ≠ 0) (hn : S.n ≤ 256) (hcn : S.cn ≤ 16384) :
    byteAt (S.putAt a m v) kf x = if a ≤ x ∧ x < a + m then byteI v (x - a).toNat else byteAt S kf x := by
  have c1 := locI_cases (cn := S.cn) (n := S.n) (hs := S.hs) (a := a) (m := m) m1
  have c2 := locI_cases (cn := S.cn) (n := S.n) (hs := S.hs) (a := x) (m := 1) (by omega)
  unfold byteAt MemS.putAt MemS.put
  by_cases hx2 : x < 2097152
  · rw [if_pos hx2, if_pos hx2, if_neg (by omega)]
  · rw [if_neg hx2, if_neg hx2]
    show (if plc a ≤ plc x ∧ plc x < plc a + m then byteI v (plc x - plc a) else S.g (plc x)) = _
    have hp : (plc a ≤ plc x ∧ plc x < plc a + m) ↔ (a ≤ x ∧ x < a + m) := by
      unfold plc; (repeat' split) <;> omega
    by_cases hy : a ≤ x ∧ x < a + m
    · rw [if_pos (hp.2 hy), if_pos hy]
      congr 1
      unfold plc; (repeat' split) <;> omega
    · rw [if_neg (fun h => hy (hp.1 h)), if_neg hy]
end Go.Proofs.Ytagemgleefdkpaa

namespace Go.Proofs.Ytagemgleefdkpaa
open Go
set_option linter.unusedVariables false

/-- What the operations yield: one entry each. -/
def TabR (l : List (Value → World → Prop)) (i : Nat) (v u : Value) (w : World) : Prop := match l[i]? with
  | some p => p v w
  | none => True

/-- The same, of the values alone. -/
def TabV (l : List (Value → Prop)) (i : Nat) (v u : Value) (w : World) : Prop := match l[i]? with
  | some p => p v
  | none => True

theorem wanted_cond {ops : Array Oper} {a : Act} {o oj : Oper} (j d : Nat) (C b want : Bool) (h : a.tmps.getD d undef = (bif C then .bool b else undef)) (hlt : d < a.tmps.size) (hg : o.guard = some (j, want)) (hj : ops[j]? = some oj) (hd : oj.dst = some d) :
    Region.wanted o (yielded ops a.tmps) = (C && (b == want)) := by
  cases C
  · have e : a.tmps[d]? = some undef := by
      rw [Array.getElem?_eq_getElem hlt]
      simp only [Array.getD_eq_getD_getElem?, Array.getElem?_eq_getElem hlt, Option.getD_some] at h
      rw [h]; rfl
    have y : yielded ops a.tmps j = none := by
      unfold yielded
      rw [hj]
      simp only [Option.bind_some, hd, e]
      rfl
    unfold Region.wanted
    rw [hg]
    simp only [y]
    rfl
  · have e : a.tmps[d]? = some (.bool b) := by
      rw [Array.getElem?_eq_getElem hlt]
      simp only [Array.getD_eq_getD_getElem?, Array.getElem?_eq_getElem hlt, Option.getD_some] at h
      rw [h]; rfl
    have y : yielded ops a.tmps j = some b := by
      unfold yielded
      rw [hj]
      simp only [Option.bind_some, hd, e]
    unfold Region.wanted
    rw [hg]
    simp only [y]
    cases b <;> cases want <;> rfl
end Go.Proofs.Ytagemgleefdkpaa
