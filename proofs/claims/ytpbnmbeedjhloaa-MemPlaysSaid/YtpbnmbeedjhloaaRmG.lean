/-
  The document's own memory, latheref02: a new one.
-/
import Derived.Test.YtpbnmbeedjhloaaRmI
import Derived.Test.YtpbnmbeedjhloaaOrdP
namespace Go.Proofs.Ytpbnmbeedjhloaa.Rm
open Go.RowKit
set_option linter.unusedVariables false
set_option maxRecDepth 100000
set_option linter.unnecessarySimpa false
set_option linter.unusedSimpArgs false

theorem own_shape {w : World} {base n : Nat} {v : Value} {f : Nat → Int} (h : Own w base v n f) : ∃ a c, v = .slice a n c := by
  rcases h.2 with ⟨rfl, rfl⟩ | ⟨g, cap, cur, rfl, _⟩
  · exact ⟨_, _, rfl⟩
  · exact ⟨_, _, rfl⟩
/-- Two values whose blocks are apart. -/
def Apt (x y : Value) : Prop := ∀ g : Nat, x.ownBlock = some g → y.ownBlock ≠ some g
theorem apt_symm {x y : Value} (h : Apt x y) : Apt y x := fun g h1 h2 => h g h2 h1
theorem apt_new {w w' : World} {b n n' : Nat} {x y : Value} {f f' : Nat → Int} (h : Own w b y n f) (h' : Own w' w.heap.size x n' f') : Apt x y := fun g h1 h2 => by
  have := (World.ownsRow.lt h g h2).2
  have := (World.ownsRow.lt h' g h1).1
  omega
theorem own_made (w : World) (base n : Nat) (hb : base ≤ w.heap.size) (hn : n ≤ 264) : Own (w.alloc (.cells (zeros n) 5)) base (.slice (some ⟨w.heap.size, 0, none⟩) n n) n (fun _ => 0) := by
  refine ⟨by rw [bytesOf_length]; omega, .inr ⟨w.heap.size, n, _, rfl, hb, heap_last _ _ _ rfl, Nat.le_refl _, by unfold maxLen; omega, by unfold zeros; rw [List.size_toArray, bytesOf_length]; omega, ?_⟩⟩
  unfold zeros
  rw [Nat.mul_one]
  exact List.take_of_length_le (by rw [bytesOf_length]; omega)
/-- Three rows of a memory that is being made. -/
def Three (base kl : Nat) (kf : Nat → Int) (cl : Nat) (cf : Nat → Int) (w : World) (v1 v3 v4 : Value) : Prop :=
  Own w base v1 kl kf ∧ Own w base v3 cl cf ∧ Own w base v4 64 (fun _ => 0) ∧ Apt v1 v3 ∧ Apt v1 v4 ∧ Apt v3 v4
theorem own_past {w w' : World} {base n : Nat} {v : Value} {f : Nat → Int} (h : Own w base v n f) (b : ∀ k, k < w.heap.size → w'.heap[k]? = w.heap[k]?) : Own w' base v n f := owns_past h b
theorem three_past {base kl : Nat} {kf : Nat → Int} {cl : Nat} {cf : Nat → Int} {w w' : World} {v1 v3 v4 : Value} (h : Three base kl kf cl cf w v1 v3 v4) (b : ∀ k, k < w.heap.size → w'.heap[k]? = w.heap[k]?) : Three base kl kf cl cf w' v1 v3 v4 :=
  ⟨own_past h.1 b, own_past h.2.1 b, own_past h.2.2.1 b, h.2.2.2⟩
def newR (base : Nat) (ka : Option Addr) (kl kc : Nat) (kf : Nat → Int) (ca : Option Addr) (cl cc : Nat) (cf : Nat → Int) : Nat → Value → Value → World → Prop
  | 0, x, _, _ => x = .slice ka kl kc
  | 1, x, _, w => Own w base x kl kf
  | 2, x, _, _ => x = .slice ca cl cc
  | 3, x, _, w => Own w base x cl cf
  | 4, x, _, w => Own w base x 64 (fun _ => 0)
  | 5, x, _, w => ∃ v1 v3 v4, x = .agg #[v1, v3, v4, .slice none 0 0] ∧ Three base kl kf cl cf w v1 v3 v4
  | _, x, _, w => ∃ r v1 v3 v4, x = .pointer (some ⟨r, 0, none⟩) ∧ base ≤ r ∧ w.heap[r]? = some (.cells #[v1, v3, v4, .slice none 0 0] 99 (0, 0)) ∧ Three base kl kf cl cf w v1 v3 v4
theorem newR_past {base : Nat} {ka : Option Addr} {kl kc : Nat} {kf : Nat → Int} {ca : Option Addr} {cl cc : Nat} {cf : Nat → Int} {w w' : World} (b : ∀ k, k < w.heap.size → w'.heap[k]? = w.heap[k]?) {j : Nat} {x u : Value} (h : newR base ka kl kc kf ca cl cc cf j x u w) : newR base ka kl kc kf ca cl cc cf j x u w' := by
  unfold newR at *
  split at h
  · exact h
  · exact own_past h b
  · exact h
  · exact own_past h b
  · exact own_past h b
  · obtain ⟨v1, v3, v4, h1, h2⟩ := h; exact ⟨v1, v3, v4, h1, three_past h2 b⟩
  · obtain ⟨r, v1, v3, v4, h1, h0, h2, h3⟩ := h; exact ⟨r, v1, v3, v4, h1, h0, (b r (Array.getElem?_eq_some_iff.1 h2).1).trans h2, three_past h3 b⟩
/-- What New yields. -/
def NewRef (W : World) (kl : Nat) (kf : Nat → Int) (cl : Nat) (cf : Nat → Int) (st : Bool) (e : Ending) (w : World) : Prop :=
  ∃ (r : Nat) (M : RefM), e = .returned (.tuple #[.pointer (some ⟨r, 0, none⟩), .int .i64 0]) ∧ W.heap.size ≤ r ∧ Below W.heap.size W w ∧ RefAt M w r W.heap.size ∧ Sep M ∧
    (M.k.len = kl ∧ M.k.f = kf) ∧ (M.x.len = cl ∧ M.x.f = cf) ∧ (M.fr.len = 64 ∧ M.fr.f = fun _ => 0) ∧ ((M.s.len : Int) = stkI st ∧ M.s.f = fun _ => 0)
theorem own_stored {w w' : World} {base n r : Nat} {v : Value} {f : Nat → Int} {c cs : Array Value} (h : Own w base v n f) (hr : w.heap[r]? = some (.cells c 99 (0, 0))) (s : Stored w r cs 99 w') : Own w' base v n f := by
  refine ⟨h.1, ?_⟩
  rcases h.2 with h1 | ⟨g, cap, cur, e1, e2, e3, q⟩
  · exact .inl h1
  · have hne : g ≠ r := fun e => by
      subst e
      rw [hr] at e3
      injection e3 with e3
      injection e3 with _ e4
      exact absurd e4 (by decide)
    exact .inr ⟨g, cap, cur, e1, e2, (s.other g hne).trans e3, q⟩
theorem ap_of {R R' : Rw} (h : Apt R.v R'.v) : R.ap R' := fun g h1 h2 => h g (by unfold Rw.v; rw [h1]; rfl) (by unfold Rw.v; rw [h2]; rfl)
theorem new_ref {W w : World} {kl cl : Nat} {kf cf : Nat → Int} {st : Bool} {a1 a3 a4 a5 : Option Addr} {c1 c3 c4 c5 l5 r : Nat} (hb : Below W.heap.size W w) (hr0 : W.heap.size ≤ r) (hrow : w.heap[r]? = some (.cells #[.slice a1 kl c1, .slice a3 cl c3, .slice a4 64 c4, .slice a5 l5 c5] 99 (0, 0)))
    (T : Three W.heap.size kl kf cl cf w (.slice a1 kl c1) (.slice a3 cl c3) (.slice a4 64 c4)) (h5 : Own w W.heap.size (.slice a5 l5 c5) l5 (fun _ => 0)) (hl5 : (l5 : Int) = stkI st)
    (d1 : Apt (.slice a1 kl c1) (.slice a5 l5 c5)) (d3 : Apt (.slice a3 cl c3) (.slice a5 l5 c5)) (d4 : Apt (.slice a4 64 c4) (.slice a5 l5 c5))
    (bk : ∀ i, i < kl → 0 ≤ kf i ∧ kf i < 256) (bc : ∀ i, i < cl → 0 ≤ cf i ∧ cf i < 256) (h1 : cl ≤ 256) (h2 : kl ≤ 16384) : NewRef W kl kf cl cf st (.returned (.tuple #[.pointer (some ⟨r, 0, none⟩), .int .i64 0])) w := by
  have z := stkI_bd st
  refine ⟨r, ⟨⟨a1, kl, c1, kf⟩, ⟨a3, cl, c3, cf⟩, ⟨a4, 64, c4, fun _ => 0⟩, ⟨a5, l5, c5, fun _ => 0⟩⟩, rfl, hr0, hb, ⟨by simp [World.cell?, hrow, Rw.v], by simp [World.cell?, hrow, Rw.v], by simp [World.cell?, hrow, Rw.v], by simp [World.cell?, hrow, Rw.v], ⟨T.1, bk, by show kl ≤ _; omega⟩, ⟨T.2.1, bc, by show cl ≤ _; omega⟩, ⟨T.2.2.1, fun _ _ => ⟨by show (0 : Int) ≤ 0; omega, by show (0 : Int) < 256; omega⟩, by show 64 ≤ _; omega⟩, ⟨h5, fun _ _ => ⟨by show (0 : Int) ≤ 0; omega, by show (0 : Int) < 256; omega⟩, by show l5 ≤ _; omega⟩⟩, ⟨ap_of T.2.2.2.1, ap_of T.2.2.2.2.1, ap_of d1, ap_of T.2.2.2.2.2, ap_of d3, ap_of d4⟩, ⟨rfl, rfl⟩, ⟨rfl, rfl⟩, ⟨rfl, rfl⟩, ⟨hl5, rfl⟩⟩
def rowOp (i : Nat) : Bool := i == 1 || i == 3 || i == 4
def newD (i j : Nat) (x y : Value) : Prop := rowOp i = true → rowOp j = true → Apt x y
theorem newD_new {base : Nat} {ka : Option Addr} {kl kc : Nat} {kf : Nat → Int} {ca : Option Addr} {cl cc : Nat} {cf : Nat → Int} {w w' : World} {n : Nat} {f : Nat → Int} {v : Value} (h : Own w' w.heap.size v n f) (i j : Nat) (x u : Value) (hr : newR base ka kl kc kf ca cl cc cf j x u w) : newD i j v x ∧ newD j i x v := by
  have key : rowOp j = true → Apt v x := by
    intro hj
    have : j = 1 ∨ j = 3 ∨ j = 4 := by simpa [rowOp, or_assoc] using hj
    rcases this with rfl | rfl | rfl
    · exact apt_new hr h
    · exact apt_new hr h
    · exact apt_new hr h
  exact ⟨fun _ hj => key hj, fun hj _ => apt_symm (key hj)⟩
theorem newD_no {i : Nat} (hi : rowOp i = false) (j : Nat) (x y : Value) : newD i j x y ∧ newD j i y x :=
  ⟨fun h => (by rw [hi] at h; cases h), fun _ h => (by rw [hi] at h; cases h)⟩

set_option maxRecDepth 100000 in
set_option maxHeartbeats 2000000 in
theorem r_new (ka : Option Addr) (kl kc : Nat) (kf : Nat → Int) (ca : Option Addr) (cl cc : Nat) (cf : Nat → Int) (st : Bool) (W : World) (hc : Src W ca cl cc cf) (hk : Src W ka kl kc kf) (h1 : cl ≤ 256) (h2 : kl ≤ 16384) :
    Calls Try.prog 16 #[.slice ca cl cc, .slice ka kl kc, .bool st] W (NewRef W kl kf cl cf st) := by
  have m64 : ∀ w, (Instr.makeSlice 22 (.int .i64 64) (.int .i64 64)).run Try.prog w = .ok (.slice (some ⟨w.heap.size, 0, none⟩) 64 64) (w.alloc (.cells (zeros 64) 5)) := fun _ => by kernel_rfl
  have hbd : ∀ (a1 : Option Addr) (c1 : Nat) (a3 : Option Addr) (c3 : Nat) (a4 : Option Addr) (c4 : Nat) (w : World), (Instr.build 99 #[(0, .slice a1 kl c1), (1, .slice a3 cl c3), (2, .slice a4 64 c4)]).run Try.prog w = .ok (.agg #[.slice a1 kl c1, .slice a3 cl c3, .slice a4 64 c4, .slice none 0 0]) w := fun _ _ _ _ _ _ _ => by kernel_rfl
  have hbx : ∀ (a1 : Option Addr) (c1 : Nat) (a3 : Option Addr) (c3 : Nat) (a4 : Option Addr) (c4 : Nat) (w : World), (Instr.box 99 (.agg #[.slice a1 kl c1, .slice a3 cl c3, .slice a4 64 c4, .slice none 0 0])).run Try.prog w = .ok (.pointer (some ⟨w.heap.size, 0, none⟩)) (w.alloc (.cells #[.slice a1 kl c1, .slice a3 cl c3, .slice a4 64 c4, .slice none 0 0] 99)) := fun _ _ _ _ _ _ _ => by kernel_rfl
  have BK := Lib.hid hk.bytes; have BC := Lib.hid hc.bytes
  have m264 : ∀ w, (Instr.makeSlice 22 (.int .i64 264) (.int .i64 264)).run Try.prog w = .ok (.slice (some ⟨w.heap.size, 0, none⟩) 264 264) (w.alloc (.cells (zeros 264) 5)) := fun _ => by kernel_rfl
  have k1 : (cl : Int) ≤ 256 := by omega
  have k2 : (kl : Int) ≤ 16384 := by omega
  have HC := Lib.hid hc
  have HK := Lib.hid hk
  clear hc hk
  go_enter Try.func16, Try.ntmps16
  go_wp2_with fail
  refine wp_region_inv2 (fun i => 100000) (fun w => Below W.heap.size W w) (newR W.heap.size ka kl kc kf ca cl cc cf) newD (by kernel_rfl) (back_of (by kernel_rfl)) (dst_of (by kernel_rfl)) (dep_of (by kernel_rfl)) (in_of (by kernel_rfl)) (Below.drew (Below.refl _ W)) ?hop ?hq
  case hop =>
    intro i o a w ho hS hdf hsz hrest hdone hpair
    have e0 : a.tmps.getD 0 undef = .slice ca cl cc := hrest 0 (not_of (by kernel_rfl))
    have e1 : a.tmps.getD 1 undef = .slice ka kl kc := hrest 1 (not_of (by kernel_rfl))
    have hs : a.tmps.size = 30 := hsz.trans rfl
    have hi : i < 8 := (Array.getElem?_eq_some_iff.1 ho).1
    obtain rfl | rfl | rfl | rfl | rfl | rfl | rfl | rfl : i = 0 ∨ i = 1 ∨ i = 2 ∨ i = 3 ∨ i = 4 ∨ i = 5 ∨ i = 6 ∨ i = 7 := by omega
    · obtain rfl := Option.some.inj (show some _ = some o from ho)
      refine wpOp_val (v := .slice ka kl kc) (w' := w) rfl rfl ?_ ⟨_, rfl, ?_, hS, fun _ _ _ h => h, fun _ _ _ _ _ => newD_no rfl _ _ _⟩
      · simp [execOp, Act.eval, e1]
      · rw [own_put rfl (by rw [hs]; omega)]; rfl
    · obtain rfl := Option.some.inj (show some _ = some o from ho)
      have h17 : a.tmps.getD 17 undef = .slice ka kl kc := hdone _ (Array.mem_of_getElem? (i := 0) rfl) rfl _ rfl
      refine wpOp_call (f := 65) (args := #[.slice ka kl kc]) rfl rfl ?_ ?_
      · simp [go_sem, execOp, Act.eval, Deferred.ofValue, callFunc, Try.func65, Try.f65, h17, resolve, invoke]
      · refine (r_same ka kl kc kf w (HK.out.below hS) (by omega)).mono ?_
        rintro e w' ⟨v, rfl, b9, o9⟩
        refine ⟨_, rfl, _, rfl, ?_, below_call hS b9, fun _ _ _ h => newR_past (fun g hg => b9.block g hg) h, fun j x u _ hr => ?_⟩
        · rw [own_put rfl (by rw [hs]; omega)]; exact owns_mono hS.size o9
        · rw [own_put rfl (by rw [hs]; omega)]; exact newD_new o9 _ _ _ _ hr
    · obtain rfl := Option.some.inj (show some _ = some o from ho)
      refine wpOp_val (v := .slice ca cl cc) (w' := w) rfl rfl ?_ ⟨_, rfl, ?_, hS, fun _ _ _ h => h, fun _ _ _ _ _ => newD_no rfl _ _ _⟩
      · simp [execOp, Act.eval, e0]
      · rw [own_put rfl (by rw [hs]; omega)]; rfl
    · obtain rfl := Option.some.inj (show some _ = some o from ho)
      have h19 : a.tmps.getD 19 undef = .slice ca cl cc := hdone _ (Array.mem_of_getElem? (i := 0) rfl) rfl _ rfl
      refine wpOp_call (f := 65) (args := #[.slice ca cl cc]) rfl rfl ?_ ?_
      · simp [go_sem, execOp, Act.eval, Deferred.ofValue, callFunc, Try.func65, Try.f65, h19, resolve, invoke]
      · refine (r_same ca cl cc cf w (HC.out.below hS) (by omega)).mono ?_
        rintro e w' ⟨v, rfl, b9, o9⟩
        refine ⟨_, rfl, _, rfl, ?_, below_call hS b9, fun _ _ _ h => newR_past (fun g hg => b9.block g hg) h, fun j x u _ hr => ?_⟩
        · rw [own_put rfl (by rw [hs]; omega)]; exact owns_mono hS.size o9
        · rw [own_put rfl (by rw [hs]; omega)]; exact newD_new o9 _ _ _ _ hr
    · obtain rfl := Option.some.inj (show some _ = some o from ho)
      refine wpOp_val (v := .slice (some ⟨w.heap.size, 0, none⟩) 64 64) (w' := w.alloc (.cells (zeros 64) 5)) rfl rfl ?_ ⟨_, rfl, ?_, below_new hS _, fun _ _ _ h => newR_past (fun g hg => heap_past _ _ _ hg) h, fun j x u _ hr => ?_⟩
      · simp [execOp, Act.eval, m64]
      · rw [own_put rfl (by rw [hs]; omega)]; exact own_made w _ 64 hS.size (by omega)
      · rw [own_put rfl (by rw [hs]; omega)]; exact newD_new (own_made w _ 64 (Nat.le_refl _) (by omega)) _ _ _ _ hr
    · obtain rfl := Option.some.inj (show some _ = some o from ho)
      have s18 : Own w W.heap.size (a.tmps.getD 18 undef) kl kf := hdone _ (Array.mem_of_getElem? (i := 0) rfl) rfl _ rfl
      have s20 : Own w W.heap.size (a.tmps.getD 20 undef) cl cf := hdone _ (Array.mem_of_getElem? (i := 1) rfl) rfl _ rfl
      have s21 : Own w W.heap.size (a.tmps.getD 21 undef) 64 (fun _ => 0) := hdone _ (Array.mem_of_getElem? (i := 2) rfl) rfl _ rfl
      have p1 : Apt (a.tmps.getD 18 undef) (a.tmps.getD 20 undef) := hpair _ (Array.mem_of_getElem? (i := 0) rfl) rfl _ (Array.mem_of_getElem? (i := 1) rfl) rfl (by decide) _ _ rfl rfl rfl rfl
      have p2 : Apt (a.tmps.getD 18 undef) (a.tmps.getD 21 undef) := hpair _ (Array.mem_of_getElem? (i := 0) rfl) rfl _ (Array.mem_of_getElem? (i := 2) rfl) rfl (by decide) _ _ rfl rfl rfl rfl
      have p3 : Apt (a.tmps.getD 20 undef) (a.tmps.getD 21 undef) := hpair _ (Array.mem_of_getElem? (i := 1) rfl) rfl _ (Array.mem_of_getElem? (i := 2) rfl) rfl (by decide) _ _ rfl rfl rfl rfl
      obtain ⟨a1, c1, q1⟩ := own_shape s18
      obtain ⟨a3, c3, q3⟩ := own_shape s20
      obtain ⟨a4, c4, q4⟩ := own_shape s21
      rw [q1] at s18 p1 p2
      rw [q3] at s20 p1 p3
      rw [q4] at s21 p2 p3
      refine wpOp_val (v := .agg #[.slice a1 kl c1, .slice a3 cl c3, .slice a4 64 c4, .slice none 0 0]) (w' := w) rfl rfl ?_ ⟨_, rfl, ?_, hS, fun _ _ _ h => h, fun _ _ _ _ _ => newD_no rfl _ _ _⟩
      · have q1' : a.tmps[18]?.getD undef = .slice a1 kl c1 := by rw [← q1, Array.getD_eq_getD_getElem?]
        have q3' : a.tmps[20]?.getD undef = .slice a3 cl c3 := by rw [← q3, Array.getD_eq_getD_getElem?]
        have q4' : a.tmps[21]?.getD undef = .slice a4 64 c4 := by rw [← q4, Array.getD_eq_getD_getElem?]
        simp [execOp, Act.eval, q1', q3', q4', hbd]
      · rw [own_put rfl (by rw [hs]; omega)]; exact ⟨_, _, _, rfl, s18, s20, s21, p1, p2, p3⟩
    · obtain rfl := Option.some.inj (show some _ = some o from ho)
      obtain ⟨v1, v3, v4, e22, T⟩ : ∃ v1 v3 v4, a.tmps.getD 22 undef = .agg #[v1, v3, v4, .slice none 0 0] ∧ Three W.heap.size kl kf cl cf w v1 v3 v4 := hdone _ (Array.mem_of_getElem? (i := 0) rfl) rfl _ rfl
      obtain ⟨a1, c1, rfl⟩ := own_shape T.1
      obtain ⟨a3, c3, rfl⟩ := own_shape T.2.1
      obtain ⟨a4, c4, rfl⟩ := own_shape T.2.2.1
      refine wpOp_val (v := .pointer (some ⟨w.heap.size, 0, none⟩)) (w' := w.alloc (.cells #[.slice a1 kl c1, .slice a3 cl c3, .slice a4 64 c4, .slice none 0 0] 99)) rfl rfl ?_ ⟨_, rfl, ?_, below_new hS _, fun _ _ _ h => newR_past (fun g hg => heap_past _ _ _ hg) h, fun _ _ _ _ _ => newD_no rfl _ _ _⟩
      · simp [execOp, Act.eval, e22, hbx]
      · rw [own_put rfl (by rw [hs]; omega)]; exact ⟨_, _, _, _, rfl, hS.size, heap_last _ _ _ rfl, three_past T fun g hg => heap_past _ _ _ hg⟩
    · obtain rfl := Option.some.inj (show some _ = some o from ho)
      obtain ⟨r, v1, v3, v4, e23, hr0, hrow, T⟩ : ∃ r v1 v3 v4, a.tmps.getD 23 undef = .pointer (some ⟨r, 0, none⟩) ∧ W.heap.size ≤ r ∧ w.heap[r]? = some (.cells #[v1, v3, v4, .slice none 0 0] 99 (0, 0)) ∧ Three W.heap.size kl kf cl cf w v1 v3 v4 := hdone _ (Array.mem_of_getElem? (i := 0) rfl) rfl _ rfl
      refine wpOp_val (v := .pointer (some ⟨r, 0, none⟩)) (w' := w) rfl rfl ?_ ⟨_, rfl, ?_, hS, fun _ _ _ h => h, fun _ _ _ _ _ => newD_no rfl _ _ _⟩
      · simp [execOp, Act.eval, e23]
      · rw [own_put rfl (by rw [hs]; omega)]; exact ⟨r, v1, v3, v4, rfl, hr0, hrow, T⟩
  case hq =>
    intro u w' hS hR hDD
    have f7 : ∃ r v1 v3 v4, u 8 = .pointer (some ⟨r, 0, none⟩) ∧ W.heap.size ≤ r ∧ w'.heap[r]? = some (.cells #[v1, v3, v4, .slice none 0 0] 99 (0, 0)) ∧ Three W.heap.size kl kf cl cf w' v1 v3 v4 := hR 7 _ rfl
    obtain ⟨r, v1, v3, v4, e8, hr0, hrow, T⟩ := f7
    clear hR hDD
    rw [show outs _ u = [(17, u 17), (18, u 18), (19, u 19), (20, u 20), (21, u 21), (22, u 22), (23, u 23), (8, u 8)] by kernel_rfl, e8]
    simp only [putAll, List.setIfInBounds_toArray, List.set_cons_zero, List.set_cons_succ]
    generalize u 17 = u17; generalize u 18 = u18; generalize u 19 = u19; generalize u 20 = u20; generalize u 21 = u21; generalize u 22 = u22; generalize u 23 = u23
    clear e8 u
    obtain ⟨a1, c1, rfl⟩ := own_shape T.1
    obtain ⟨a3, c3, rfl⟩ := own_shape T.2.1
    obtain ⟨a4, c4, rfl⟩ := own_shape T.2.2.1
    have HS := Lib.hid hS
    have HT := Lib.hid T; have HR := Lib.hid hrow
    clear hS T hrow
    cases st with
    | false =>
      go_wp2_with fail
      go_ret2
      exact new_ref HS.out hr0 HR.out HT.out (World.ownsRow_nil _ _ _ _) rfl (fun g _ h => by cases h) (fun g _ h => by cases h) (fun g _ h => by cases h) BK.out BC.out h1 h2
    | true =>
      have hrl := (Array.getElem?_eq_some_iff.1 HR.out).1
      have HM := Lib.hid (own_made w' W.heap.size 264 HS.out.size (by omega))
      have HM0 := Lib.hid (own_made w' w'.heap.size 264 (Nat.le_refl _) (by omega))
      go_wp2_with (refine wpList_store_cell rfl 22 _ _ rfl r 3 (.slice (some ⟨w'.heap.size, 0, none⟩) 264 264) rfl rfl rfl rfl 99 _ ((heap_past _ _ _ hrl).trans HR.out) info_bs (by show 3 < 4; omega) ?_; intro w5 s5)
      have S5 := Lib.hid s5; clear s5
      go_wp2_with fail
      go_ret2
      have past : ∀ k, k < w'.heap.size → (w'.alloc (.cells (zeros 264) 5)).heap[k]? = w'.heap[k]? := fun k hk => heap_past _ _ _ hk
      have hr' := (past r hrl).trans HR.out
      have T' := three_past HT.out past
      exact new_ref (S5.out.below (below_new HS.out _) hr0) hr0 S5.out.row ⟨own_stored T'.1 hr' S5.out, own_stored T'.2.1 hr' S5.out, own_stored T'.2.2.1 hr' S5.out, T'.2.2.2⟩ (own_stored HM.out hr' S5.out) rfl (apt_symm (apt_new HT.out.1 HM0.out)) (apt_symm (apt_new HT.out.2.1 HM0.out)) (apt_symm (apt_new HT.out.2.2.1 HM0.out)) BK.out BC.out h1 h2
end Go.Proofs.Ytpbnmbeedjhloaa.Rm
