/-
  The document's own memory, latheref02: where an access is.
-/
import Derived.Test.YtpbnmbeedjhloaaRmA
import Derived.OwnWalk
namespace Go.Proofs.Ytpbnmbeedjhloaa.Rm
open Go.RowKit
set_option linter.unusedVariables false
set_option maxRecDepth 100000
set_option linter.unnecessarySimpa false
set_option linter.unusedSimpArgs false

/-- A row of bytes: its slice, its bytes. -/
structure Rw where
  a : Option Addr
  len : Nat
  cap : Nat
  f : Nat → Int
def Rw.v (R : Rw) : Value := .slice R.a R.len R.cap
structure Rw.at (R : Rw) (w : World) (base : Nat) : Prop where
  own : Own w base R.v R.len R.f
  bytes : ∀ i, i < R.len → 0 ≤ R.f i ∧ R.f i < 256
  le : R.len ≤ 1000000
/-- The memory by the document: its four rows. -/
structure RefM where
  k : Rw
  x : Rw
  fr : Rw
  s : Rw
structure RefAt (M : RefM) (w : World) (r base : Nat) : Prop where
  c0 : w.cell? ⟨r, 0, none⟩ = some M.k.v
  c1 : w.cell? ⟨r, 1, none⟩ = some M.x.v
  c2 : w.cell? ⟨r, 2, none⟩ = some M.fr.v
  c3 : w.cell? ⟨r, 3, none⟩ = some M.s.v
  k : M.k.at w base
  x : M.x.at w base
  fr : M.fr.at w base
  s : M.s.at w base
theorem Rw.at.below {R : Rw} {w w' : World} {base : Nat} (h : R.at w base) (b : Below w.heap.size w w') : R.at w' base := ⟨owns_below h.own b, h.bytes, h.le⟩
theorem RefAt.below {M : RefM} {w w' : World} {r base : Nat} (h : RefAt M w r base) (b : Below w.heap.size w w') : RefAt M w' r base :=
  ⟨(b.cell (p := ⟨r, 0, none⟩) (lt_of_cell h.c0)).trans h.c0, (b.cell (p := ⟨r, 1, none⟩) (lt_of_cell h.c1)).trans h.c1, (b.cell (p := ⟨r, 2, none⟩) (lt_of_cell h.c2)).trans h.c2, (b.cell (p := ⟨r, 3, none⟩) (lt_of_cell h.c3)).trans h.c3, h.k.below b, h.x.below b, h.fr.below b, h.s.below b⟩

/-- Where an access is: the row, the place in it, whether it is let be. -/
def FindIs (M : RefM) (at_ n : Int) (wr : Bool) (v : Value) (k : Int) (ok : Bool) : Prop :=
  (withinB at_ n 1048576 M.k.len = true ∧ v = M.k.v ∧ k = at_ - 1048576 ∧ ok = !wr) ∨
  (withinB at_ n 1048576 M.k.len = false ∧ withinB at_ n 2097152 M.x.len = true ∧ v = M.x.v ∧ k = at_ - 2097152 ∧ ok = true) ∨
  (withinB at_ n 1048576 M.k.len = false ∧ withinB at_ n 2097152 M.x.len = false ∧ withinB at_ n 3145728 M.fr.len = true ∧ v = M.fr.v ∧ k = at_ - 3145728 ∧ ok = true) ∨
  (withinB at_ n 1048576 M.k.len = false ∧ withinB at_ n 2097152 M.x.len = false ∧ withinB at_ n 3145728 M.fr.len = false ∧ withinB at_ n 4194304 M.s.len = true ∧ v = M.s.v ∧ k = at_ - 4194304 ∧ ok = true) ∨
  (withinB at_ n 1048576 M.k.len = false ∧ withinB at_ n 2097152 M.x.len = false ∧ withinB at_ n 3145728 M.fr.len = false ∧ withinB at_ n 4194304 M.s.len = false ∧ ok = false)
def Found (M : RefM) (at_ n : Int) (wr : Bool) (W : World) (e : Ending) (w' : World) : Prop := (∃ v k ok, e = .returned (.tuple #[v, .int .i64 k, .bool ok]) ∧ FindIs M at_ n wr v k ok) ∧ W = w'

set_option maxHeartbeats 1000000 in
theorem find0 (M : RefM) (r base : Nat) (at_ n : Int) (wr : Bool) (W : World) (h : RefAt M W r base) (a0 : 0 ≤ at_) (a1 : at_ < 18446744073709551616) (h0 : withinB at_ n 1048576 M.k.len = true) :
    Calls Try.prog 70 #[.pointer (some ⟨r, 0, none⟩), .int .u64 at_, .int .i64 n, .bool wr] W (Found M at_ n wr W) := by
  have D0 := r_within at_ n 1048576 M.k.a M.k.len M.k.cap W a0 a1 (by decide) (by decide) h.k.le
  rw [h0] at D0
  have E0 := Lib.hid D0; clear D0
  have c0 := h.c0; have c1 := h.c1; have c2 := h.c2; have c3 := h.c3
  have HH := Lib.hid (And.intro h (And.intro h0 trivial)); clear h
  simp only [Rw.v] at c0 c1 c2 c3
  have G : ∀ v k ok, FindIs M at_ n wr v k ok → Found M at_ n wr W (.returned (.tuple #[v, .int .i64 k, .bool ok])) W := fun v k ok hf => ⟨⟨v, k, ok, rfl, hf⟩, rfl⟩
  have GG := Lib.hid (G M.k.v (at_ - 1048576) (!wr) (.inl ⟨h0, rfl, rfl, rfl⟩))
  clear G h0
  go_enter Try.func70, Try.ntmps70
  go_wp2_with fail
  refine E0.out.mono ?_
  rintro e w ⟨⟨k, rfl, hk⟩, rfl⟩
  obtain rfl := hk trivial
  go_wp2_with fail
  go_ret3
  exact GG.out
set_option maxHeartbeats 1000000 in
theorem find1 (M : RefM) (r base : Nat) (at_ n : Int) (wr : Bool) (W : World) (h : RefAt M W r base) (a0 : 0 ≤ at_) (a1 : at_ < 18446744073709551616) (h0 : withinB at_ n 1048576 M.k.len = false) (h1 : withinB at_ n 2097152 M.x.len = true) :
    Calls Try.prog 70 #[.pointer (some ⟨r, 0, none⟩), .int .u64 at_, .int .i64 n, .bool wr] W (Found M at_ n wr W) := by
  have D0 := r_within at_ n 1048576 M.k.a M.k.len M.k.cap W a0 a1 (by decide) (by decide) h.k.le
  rw [h0] at D0
  have D1 := r_within at_ n 2097152 M.x.a M.x.len M.x.cap W a0 a1 (by decide) (by decide) h.x.le
  rw [h1] at D1
  have E0 := Lib.hid D0; clear D0
  have E1 := Lib.hid D1; clear D1
  have c0 := h.c0; have c1 := h.c1; have c2 := h.c2; have c3 := h.c3
  have HH := Lib.hid (And.intro h (And.intro h0 trivial)); clear h
  simp only [Rw.v] at c0 c1 c2 c3
  have G : ∀ v k ok, FindIs M at_ n wr v k ok → Found M at_ n wr W (.returned (.tuple #[v, .int .i64 k, .bool ok])) W := fun v k ok hf => ⟨⟨v, k, ok, rfl, hf⟩, rfl⟩
  have GG := Lib.hid (G M.x.v (at_ - 2097152) true (.inr (.inl ⟨h0, h1, rfl, rfl, rfl⟩)))
  clear G h0 h1
  go_enter Try.func70, Try.ntmps70
  go_wp2_with fail
  refine E0.out.mono ?_
  rintro e w ⟨⟨k0, rfl, hk⟩, rfl⟩
  clear hk
  go_wp2_with fail
  refine E1.out.mono ?_
  rintro e w ⟨⟨k, rfl, hk⟩, rfl⟩
  obtain rfl := hk trivial
  go_wp2_with fail
  go_ret3
  exact GG.out
set_option maxHeartbeats 1000000 in
theorem find2 (M : RefM) (r base : Nat) (at_ n : Int) (wr : Bool) (W : World) (h : RefAt M W r base) (a0 : 0 ≤ at_) (a1 : at_ < 18446744073709551616) (h0 : withinB at_ n 1048576 M.k.len = false) (h1 : withinB at_ n 2097152 M.x.len = false) (h2 : withinB at_ n 3145728 M.fr.len = true) :
    Calls Try.prog 70 #[.pointer (some ⟨r, 0, none⟩), .int .u64 at_, .int .i64 n, .bool wr] W (Found M at_ n wr W) := by
  have D0 := r_within at_ n 1048576 M.k.a M.k.len M.k.cap W a0 a1 (by decide) (by decide) h.k.le
  rw [h0] at D0
  have D1 := r_within at_ n 2097152 M.x.a M.x.len M.x.cap W a0 a1 (by decide) (by decide) h.x.le
  rw [h1] at D1
  have D2 := r_within at_ n 3145728 M.fr.a M.fr.len M.fr.cap W a0 a1 (by decide) (by decide) h.fr.le
  rw [h2] at D2
  have E0 := Lib.hid D0; clear D0
  have E1 := Lib.hid D1; clear D1
  have E2 := Lib.hid D2; clear D2
  have c0 := h.c0; have c1 := h.c1; have c2 := h.c2; have c3 := h.c3
  have HH := Lib.hid (And.intro h (And.intro h0 trivial)); clear h
  simp only [Rw.v] at c0 c1 c2 c3
  have G : ∀ v k ok, FindIs M at_ n wr v k ok → Found M at_ n wr W (.returned (.tuple #[v, .int .i64 k, .bool ok])) W := fun v k ok hf => ⟨⟨v, k, ok, rfl, hf⟩, rfl⟩
  have GG := Lib.hid (G M.fr.v (at_ - 3145728) true (.inr (.inr (.inl ⟨h0, h1, h2, rfl, rfl, rfl⟩))))
  clear G h0 h1 h2
  go_enter Try.func70, Try.ntmps70
  go_wp2_with fail
  refine E0.out.mono ?_
  rintro e w ⟨⟨k0, rfl, hk⟩, rfl⟩
  clear hk
  go_wp2_with fail
  refine E1.out.mono ?_
  rintro e w ⟨⟨k1, rfl, hk⟩, rfl⟩
  clear hk
  go_wp2_with fail
  refine E2.out.mono ?_
  rintro e w ⟨⟨k, rfl, hk⟩, rfl⟩
  obtain rfl := hk trivial
  go_wp2_with fail
  go_ret3
  exact GG.out
set_option maxHeartbeats 1000000 in
theorem find3 (M : RefM) (r base : Nat) (at_ n : Int) (wr : Bool) (W : World) (h : RefAt M W r base) (a0 : 0 ≤ at_) (a1 : at_ < 18446744073709551616) (h0 : withinB at_ n 1048576 M.k.len = false) (h1 : withinB at_ n 2097152 M.x.len = false) (h2 : withinB at_ n 3145728 M.fr.len = false) (h3 : withinB at_ n 4194304 M.s.len = true) :
    Calls Try.prog 70 #[.pointer (some ⟨r, 0, none⟩), .int .u64 at_, .int .i64 n, .bool wr] W (Found M at_ n wr W) := by
  have D0 := r_within at_ n 1048576 M.k.a M.k.len M.k.cap W a0 a1 (by decide) (by decide) h.k.le
  rw [h0] at D0
  have D1 := r_within at_ n 2097152 M.x.a M.x.len M.x.cap W a0 a1 (by decide) (by decide) h.x.le
  rw [h1] at D1
  have D2 := r_within at_ n 3145728 M.fr.a M.fr.len M.fr.cap W a0 a1 (by decide) (by decide) h.fr.le
  rw [h2] at D2
  have D3 := r_within at_ n 4194304 M.s.a M.s.len M.s.cap W a0 a1 (by decide) (by decide) h.s.le
  rw [h3] at D3
  have E0 := Lib.hid D0; clear D0
  have E1 := Lib.hid D1; clear D1
  have E2 := Lib.hid D2; clear D2
  have E3 := Lib.hid D3; clear D3
  have c0 := h.c0; have c1 := h.c1; have c2 := h.c2; have c3 := h.c3
  have HH := Lib.hid (And.intro h (And.intro h0 trivial)); clear h
  simp only [Rw.v] at c0 c1 c2 c3
  have G : ∀ v k ok, FindIs M at_ n wr v k ok → Found M at_ n wr W (.returned (.tuple #[v, .int .i64 k, .bool ok])) W := fun v k ok hf => ⟨⟨v, k, ok, rfl, hf⟩, rfl⟩
  have GG := Lib.hid (G M.s.v (at_ - 4194304) true (.inr (.inr (.inr (.inl ⟨h0, h1, h2, h3, rfl, rfl, rfl⟩)))))
  clear G h0 h1 h2 h3
  go_enter Try.func70, Try.ntmps70
  go_wp2_with fail
  refine E0.out.mono ?_
  rintro e w ⟨⟨k0, rfl, hk⟩, rfl⟩
  clear hk
  go_wp2_with fail
  refine E1.out.mono ?_
  rintro e w ⟨⟨k1, rfl, hk⟩, rfl⟩
  clear hk
  go_wp2_with fail
  refine E2.out.mono ?_
  rintro e w ⟨⟨k2, rfl, hk⟩, rfl⟩
  clear hk
  go_wp2_with fail
  refine E3.out.mono ?_
  rintro e w ⟨⟨k, rfl, hk⟩, rfl⟩
  obtain rfl := hk trivial
  go_wp2_with fail
  go_ret3
  exact GG.out
set_option maxHeartbeats 1000000 in
theorem find4 (M : RefM) (r base : Nat) (at_ n : Int) (wr : Bool) (W : World) (h : RefAt M W r base) (a0 : 0 ≤ at_) (a1 : at_ < 18446744073709551616) (h0 : withinB at_ n 1048576 M.k.len = false) (h1 : withinB at_ n 2097152 M.x.len = false) (h2 : withinB at_ n 3145728 M.fr.len = false) (h3 : withinB at_ n 4194304 M.s.len = false) :
    Calls Try.prog 70 #[.pointer (some ⟨r, 0, none⟩), .int .u64 at_, .int .i64 n, .bool wr] W (Found M at_ n wr W) := by
  have D0 := r_within at_ n 1048576 M.k.a M.k.len M.k.cap W a0 a1 (by decide) (by decide) h.k.le
  rw [h0] at D0
  have D1 := r_within at_ n 2097152 M.x.a M.x.len M.x.cap W a0 a1 (by decide) (by decide) h.x.le
  rw [h1] at D1
  have D2 := r_within at_ n 3145728 M.fr.a M.fr.len M.fr.cap W a0 a1 (by decide) (by decide) h.fr.le
  rw [h2] at D2
  have D3 := r_within at_ n 4194304 M.s.a M.s.len M.s.cap W a0 a1 (by decide) (by decide) h.s.le
  rw [h3] at D3
  have E0 := Lib.hid D0; clear D0
  have E1 := Lib.hid D1; clear D1
  have E2 := Lib.hid D2; clear D2
  have E3 := Lib.hid D3; clear D3
  have c0 := h.c0; have c1 := h.c1; have c2 := h.c2; have c3 := h.c3
  have HH := Lib.hid (And.intro h (And.intro h0 trivial)); clear h
  simp only [Rw.v] at c0 c1 c2 c3
  have G : ∀ v k ok, FindIs M at_ n wr v k ok → Found M at_ n wr W (.returned (.tuple #[v, .int .i64 k, .bool ok])) W := fun v k ok hf => ⟨⟨v, k, ok, rfl, hf⟩, rfl⟩
  have GG := Lib.hid (fun v k => G v k false (.inr (.inr (.inr (.inr ⟨h0, h1, h2, h3, rfl⟩)))))
  clear G h0 h1 h2 h3
  go_enter Try.func70, Try.ntmps70
  go_wp2_with fail
  refine E0.out.mono ?_
  rintro e w ⟨⟨k0, rfl, hk⟩, rfl⟩
  clear hk
  go_wp2_with fail
  refine E1.out.mono ?_
  rintro e w ⟨⟨k1, rfl, hk⟩, rfl⟩
  clear hk
  go_wp2_with fail
  refine E2.out.mono ?_
  rintro e w ⟨⟨k2, rfl, hk⟩, rfl⟩
  clear hk
  go_wp2_with fail
  refine E3.out.mono ?_
  rintro e w ⟨⟨k3, rfl, hk⟩, rfl⟩
  clear hk
  go_wp2_with fail
  go_ret3
  exact GG.out _ _
theorem r_find (M : RefM) (r base : Nat) (at_ n : Int) (wr : Bool) (W : World) (h : RefAt M W r base) (a0 : 0 ≤ at_) (a1 : at_ < 18446744073709551616) :
    Calls Try.prog 70 #[.pointer (some ⟨r, 0, none⟩), .int .u64 at_, .int .i64 n, .bool wr] W (Found M at_ n wr W) := by
  cases h0 : withinB at_ n 1048576 M.k.len
  · cases h1 : withinB at_ n 2097152 M.x.len
    · cases h2 : withinB at_ n 3145728 M.fr.len
      · cases h3 : withinB at_ n 4194304 M.s.len
        · exact find4 M r base at_ n wr W h a0 a1 h0 h1 h2 h3
        · exact find3 M r base at_ n wr W h a0 a1 h0 h1 h2 h3
      · exact find2 M r base at_ n wr W h a0 a1 h0 h1 h2
    · exact find1 M r base at_ n wr W h a0 a1 h0 h1
  · exact find0 M r base at_ n wr W h a0 a1 h0
end Go.Proofs.Ytpbnmbeedjhloaa.Rm
