/-
  The document's own memory, latheref02: what is handed out.
-/
import Derived.Test.YtpbnmbeedjhloaaRmD
namespace Go.Proofs.Ytpbnmbeedjhloaa.Rm
open Go.RowKit
set_option linter.unusedVariables false
set_option maxRecDepth 100000
set_option linter.unnecessarySimpa false
set_option linter.unusedSimpArgs false

theorem Rw.at.src {R : Rw} {w : World} {base : Nat} (h : R.at w base) : Src w R.a R.len R.cap R.f := by
  have ho := h.own
  rcases ho.2 with ⟨h1, h2⟩ | ⟨g, cap, cur, e1, e2, e3, e4, e5, e6⟩
  · have hv : R.cap = 0 := by unfold Rw.v at h1; injection h1 with x1 x2 x3
    exact ⟨by omega, by omega, fun h0 => by omega, h.bytes⟩
  · have hv : R.a = some ⟨g, 0, none⟩ ∧ R.cap = cap := by unfold Rw.v at e1; injection e1 with x1 x2 x3; exact ⟨x1, x3⟩
    refine ⟨by omega, by have := e5; unfold maxLen at this; omega, fun h0 => ?_, h.bytes⟩
    obtain ⟨g', e1', _, _, _, hc⟩ := h.open h0
    exact ⟨g', 0, e1', fun i hi => by rw [Nat.zero_add]; exact hc i hi⟩
/-- A row handed out. -/
def Gives (f : Nat → Int) (n : Nat) (W : World) (e : Ending) (w' : World) : Prop := ∃ v, e = .returned v ∧ Below W.heap.size W w' ∧ Own w' W.heap.size v n f

theorem r_context (M : RefM) (r base : Nat) (W : World) (h : RefAt M W r base) :
    Calls Try.prog 77 #[.pointer (some ⟨r, 0, none⟩)] W (Gives M.x.f M.x.len W) := by
  have S := Lib.hid (r_same M.x.a M.x.len M.x.cap M.x.f W h.x.src h.x.le)
  have c1 := h.c1
  clear h
  simp only [Rw.v] at c1
  go_enter Try.func77, Try.ntmps77
  go_wp2_with fail
  refine S.out.mono ?_
  rintro e w ⟨v, rfl, b1, o1⟩
  go_wp2
  go_ret
  exact ⟨_, rfl, b1, o1⟩
theorem r_stack (M : RefM) (r base : Nat) (W : World) (h : RefAt M W r base) :
    Calls Try.prog 81 #[.pointer (some ⟨r, 0, none⟩)] W (Gives M.s.f M.s.len W) := by
  have S := Lib.hid (r_same M.s.a M.s.len M.s.cap M.s.f W h.s.src h.s.le)
  have c3 := h.c3
  clear h
  simp only [Rw.v] at c3
  go_enter Try.func81, Try.ntmps81
  go_wp2_with fail
  refine S.out.mono ?_
  rintro e w ⟨v, rfl, b1, o1⟩
  go_wp2
  go_ret
  exact ⟨_, rfl, b1, o1⟩
theorem Src.tail {W : World} {a : Option Addr} {len cap : Nat} {f : Nat → Int} {B o q : Nat} (h : Src W a len cap f) (ha : a = some ⟨B, o, none⟩) (hq : q < len) : Src W (some ⟨B, o + q, none⟩) (len - q) (cap - q) (fun i => f (q + i)) := by
  refine ⟨by have := h.le; omega, by have := h.max; omega, fun _ => ⟨B, o + q, rfl, fun i hi => ?_⟩, fun i hi => h.bytes _ (by omega)⟩
  obtain ⟨B', o', e, hc⟩ := h.here (by omega)
  rw [ha] at e
  injection e with e
  injection e with e1 e2 _
  subst e1; subst e2
  rw [Nat.add_assoc]
  exact hc (q + i) (by omega)

/-- What Fetch yields. -/
def RefFetch (M : RefM) (at_ : Int) (W : World) (e : Ending) (w' : World) : Prop :=
  (withinB at_ 1 1048576 M.k.len = false ∧ e = .returned (.tuple #[.slice none 0 0, .int .i64 20]) ∧ W = w') ∨
  (withinB at_ 1 1048576 M.k.len = true ∧ ∃ v, e = .returned (.tuple #[v, .int .i64 0]) ∧ Below W.heap.size W w' ∧ Own w' W.heap.size v (M.k.len - (at_ - 1048576).toNat) (fun i => M.k.f ((at_ - 1048576).toNat + i)))
set_option maxHeartbeats 1000000 in
theorem r_fetch (M : RefM) (r base : Nat) (at_ : Int) (W : World) (h : RefAt M W r base) (a0 : 0 ≤ at_) (a1 : at_ < 18446744073709551616) :
    Calls Try.prog 22 #[.pointer (some ⟨r, 0, none⟩), .int .u64 at_] W (RefFetch M at_ W) := by
  have D := r_within at_ 1 1048576 M.k.a M.k.len M.k.cap W a0 a1 (by decide) (by decide) h.k.le
  unfold RefFetch
  cases hw : withinB at_ 1 1048576 M.k.len
  · rw [hw] at D
    have E := Lib.hid D; clear D hw
    have c0 := h.c0
    clear h
    simp only [Rw.v] at c0
    go_enter Try.func22, Try.ntmps22
    go_wp2_with fail
    refine E.out.mono ?_
    rintro e w ⟨⟨k, rfl, hk⟩, rfl⟩
    go_wp2_with fail
    go_ret2
    exact .inl ⟨trivial, rfl, rfl⟩
  · rw [hw] at D
    have hb := withinB_true hw
    have E := Lib.hid D; clear D hw
    obtain ⟨q, rfl⟩ : ∃ q : Nat, at_ = 1048576 + q := ⟨(at_ - 1048576).toNat, by omega⟩
    have hq : (1048576 + (q : Int) - 1048576).toNat = q := by omega
    have hq' : (1048576 + (q : Int) - 1048576) = q := by omega
    rw [hq'] at E
    rw [hq]
    have c0 := h.c0
    obtain ⟨g, hg, _, hlc, hcm, _⟩ := h.k.open (by omega)
    have T := Src.tail h.k.src hg (q := q) (by omega)
    rw [Nat.zero_add] at T
    have hl6 := h.k.le
    have S := Lib.hid (r_same _ _ _ _ W T (by omega))
    clear T h
    simp only [Rw.v] at c0
    rw [hg] at c0 E
    clear hg
    generalize M.k.f = f at *
    generalize M.k.len = L at *
    generalize M.k.cap = Cp at *
    go_enter Try.func22, Try.ntmps22
    go_wp2_with fail
    refine E.out.mono ?_
    rintro e w ⟨⟨k, rfl, hk⟩, rfl⟩
    obtain rfl := hk trivial
    go_wp2_with fail
    refine S.out.mono ?_
    rintro e w ⟨v, rfl, b1, o1⟩
    go_wp2_with fail
    go_ret2
    exact .inr ⟨trivial, v, rfl, b1, o1⟩
end Go.Proofs.Ytpbnmbeedjhloaa.Rm
