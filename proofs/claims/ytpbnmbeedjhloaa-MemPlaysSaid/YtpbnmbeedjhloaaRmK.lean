/-
  Two memories told alike: alike, of layer 2's laws.
-/
import Derived.Test.YtpbnmbeedjhloaaRmI
import Derived.Test.YtpbnmbeedjhloaaOrdT
import Derived.Test.YtpbnmbeedjhloaaMemApM
namespace Go.Proofs.Ytpbnmbeedjhloaa.Rm
open Go.RowKit
set_option linter.unusedVariables false
set_option maxRecDepth 100000

/-- A slice that is this string, now and later. -/
def StrIn (v : Value) (C : ByteArray) (w : World) : Prop := ∀ w', Below w.heap.size w w' → (convert 22 9 v).run Try.prog w' = .ok (.string C) w'
theorem StrIn.below {v : Value} {C : ByteArray} {w w' : World} (h : StrIn v C w) (b : Below w.heap.size w w') : StrIn v C w' := fun w2 b2 => h w2 (below_call b b2)
theorem StrIn.now {v : Value} {C : ByteArray} {w : World} (h : StrIn v C w) : (convert 22 9 v).run Try.prog w = .ok (.string C) w := h w (Below.refl _ _)
theorem str_row {w : World} {z n : Nat} {t : TypeId} {f : Nat → Int} (h : w.rowIs z t n (fun i => .int .u8 (f i))) (cap : Nat) : StrIn (.slice (some ⟨z, 0, none⟩) n cap) (strOf f n) w := fun w' b => by
  have := conv_row (h.of_block (b.block z h.lt)) 0 n cap (by omega)
  simp only [Nat.zero_add] at this
  exact this
theorem str_own {w : World} {base n : Nat} {v : Value} {f : Nat → Int} (h : Own w base v n f) : StrIn v (strOf f n) w := fun w' b => by
  have h' := owns_below h b
  rcases h'.2 with ⟨rfl, h0⟩ | ⟨g, cap, cur, rfl, e2, e3, e4, e5, e6, e7⟩
  · subst h0
    have := conv_empty none 0 w'
    rw [this, strOf_eq (f := f) (g := fun _ => 0) rfl (fun i hi => by omega)]
  · exact run_convert_bytes_arg (P := Try.prog) w' 22 5 Try.underlying22 Try.underlying5 g 0 n cap _ (by simp) (fun i hi => by
      have h1 : (cur.toList.take (n * 1))[i]? = some (.int .u8 (f i)) := by rw [e7]; exact bytesOf_get f n i hi
      rw [List.getElem?_take_of_lt (by omega), Array.getElem?_toList] at h1
      rw [Nat.zero_add]
      simp only [World.cell?, e3]
      rw [show (if (none : Option Nat).isSome = true then none else cur[i]?) = cur[i]? from rfl, h1]
      simp [List.getD, hi]) 9 Try.underlying9

theorem context_str (S : MemS) (b : Nat) (W : World) (hS : S.at W b) :
    Calls Try.prog 76 #[.pointer (some ⟨b, 0, none⟩)] W fun e w' => ∃ v, e = .returned v ∧ Below W.heap.size W w' ∧ StrIn v (strOf (fun i => S.g (1 + i)) S.n) w' :=
  (context_any S b W hS).mono fun e w' ⟨he, hb, hr⟩ => ⟨_, he, hb, str_row hr _⟩
theorem stack_str (S : MemS) (b : Nat) (W : World) (hS : S.at W b) (n : Nat) (hn : (n : Int) = stkI S.hs) :
    Calls Try.prog 80 #[.pointer (some ⟨b, 0, none⟩)] W fun e w' => ∃ v, e = .returned v ∧ Below W.heap.size W w' ∧ StrIn v (strOf (fun i => S.g (322 + i)) n) w' := by
  cases hh : S.hs
  · rw [hh] at hn
    have h0 : n = 0 := by simp [stkI] at hn; omega
    subst h0
    exact (stack_no S b W hS hh).mono fun e w' ⟨he, hw⟩ => ⟨_, he, by subst hw; exact Below.refl _ _, fun w2 _ => by rw [conv_empty none 0 w2, strOf_eq (f := fun i => S.g (322 + i)) (g := fun _ => 0) rfl (fun i hi => by omega)]⟩
  · rw [hh] at hn
    have h0 : n = 264 := by simp [stkI] at hn; omega
    subst h0
    exact (stack_yes S b W hS hh).mono fun e w' ⟨he, hb, hr⟩ => ⟨_, he, hb, str_row hr _⟩
theorem r_context_str (M : RefM) (r base : Nat) (W : World) (h : RefAt M W r base) :
    Calls Try.prog 77 #[.pointer (some ⟨r, 0, none⟩)] W fun e w' => ∃ v, e = .returned v ∧ Below W.heap.size W w' ∧ StrIn v (strOf M.x.f M.x.len) w' :=
  (r_context M r base W h).mono fun e w' ⟨v, he, hb, ho⟩ => ⟨v, he, hb, str_own ho⟩
theorem r_stack_str (M : RefM) (r base : Nat) (W : World) (h : RefAt M W r base) :
    Calls Try.prog 81 #[.pointer (some ⟨r, 0, none⟩)] W fun e w' => ∃ v, e = .returned v ∧ Below W.heap.size W w' ∧ StrIn v (strOf M.s.f M.s.len) w' :=
  (r_stack M r base W h).mono fun e w' ⟨v, he, hb, ho⟩ => ⟨v, he, hb, str_own ho⟩

theorem Rel.ctx {S : MemS} {kf : Nat → Int} {M : RefM} (h : Rel S kf M) : strOf M.x.f M.x.len = strOf (fun i => S.g (1 + i)) S.n := strOf_eq h.xl (fun i hi => h.xv i (by have := h.xl; omega))
theorem Rel.stk {S : MemS} {kf : Nat → Int} {M : RefM} (h : Rel S kf M) : strOf M.s.f M.s.len = strOf (fun i => S.g (322 + i)) M.s.len := strOf_eq rfl (fun i hi => h.sv i hi)
theorem Rel.frm {S : MemS} {kf : Nat → Int} {M : RefM} (h : Rel S kf M) : (bytesOf M.fr.f 64).toArray = S.frm := by
  unfold MemS.frm
  rw [bytesOf_eq (fun i hi => h.fv i hi)]
def AllM (w w' : World) : List (Value → World → Prop) → Prop
  | [] => True
  | p :: l => (∀ x, p x w → p x w') ∧ AllM w w' l
theorem tabR_mono {w w' : World} : ∀ {L : List (Value → World → Prop)}, AllM w w' L → ∀ j x u, TabR L j x u w → TabR L j x u w'
  | [], _, j, x, u, h => by unfold TabR at *; simp at *
  | p :: l, hm, 0, x, u, h => hm.1 x h
  | p :: l, hm, j + 1, x, u, h => by
    have := tabR_mono hm.2 j x u
    unfold TabR at *
    simp only [List.getElem?_cons_succ] at *
    exact this h
set_option maxHeartbeats 8000000 in
theorem alike_any (S : MemS) (kf : Nat → Int) (M : RefM) (b r base : Nat) (W : World) (h : Mem S kf W b) (hM : RefAt M W r base) (hr : Rel S kf M) :
    Calls Try.prog 24 #[.pointer (some ⟨b, 0, none⟩), .pointer (some ⟨r, 0, none⟩)] W fun e w' => e = .returned (.bool true) ∧ Below W.heap.size W w' := by
  have CA := Lib.hid (fun w (k : Below W.heap.size W w) => context_str S b w (h.below k).at_)
  have CB := Lib.hid (fun w (k : Below W.heap.size W w) => r_context_str M r base w (hM.below k))
  have SA := Lib.hid (fun w (k : Below W.heap.size W w) => stack_str S b w (h.below k).at_ M.s.len hr.sl)
  have SB := Lib.hid (fun w (k : Below W.heap.size W w) => r_stack_str M r base w (hM.below k))
  have FA := Lib.hid (fun w (k : Below W.heap.size W w) => frame_any S b w (h.below k).at_)
  have FB := Lib.hid (fun w (k : Below W.heap.size W w) => r_frame M r base w (hM.below k) hr.fl)
  rw [hr.ctx] at CB
  rw [hr.stk] at SB
  have FE := Lib.hid (fun w => Apart.frame_refl M.fr.f w)
  rw [hr.frm] at FB FE
  clear h hM hr
  generalize strOf (fun i => S.g (1 + i)) S.n = C1 at *
  generalize strOf (fun i => S.g (322 + i)) M.s.len = C3 at *
  generalize S.frm = fm at *
  go_enter Try.func24, Try.ntmps24
  go_wp2_with fail
  refine wp_region_inv (fun _ => 100000) (fun w => Below W.heap.size W w) (TabR [fun v _ => v = .pointer (some ⟨b, 0, none⟩), fun v w => StrIn v C1 w, fun v _ => v = .string C1, fun v _ => v = .pointer (some ⟨r, 0, none⟩), fun v w => StrIn v C1 w, fun v _ => v = .string C1, fun v _ => v = .bool true, fun v _ => v = .bool true, fun v _ => v = .pointer (some ⟨b, 0, none⟩), fun v _ => v = .agg fm, fun v _ => v = .pointer (some ⟨r, 0, none⟩), fun v _ => v = .agg fm, fun v _ => v = .bool true, fun v _ => v = .bool true, fun v _ => v = .bool true, fun v _ => v = .pointer (some ⟨b, 0, none⟩), fun v w => StrIn v C3 w, fun v _ => v = .string C3, fun v _ => v = .pointer (some ⟨r, 0, none⟩), fun v w => StrIn v C3 w, fun v _ => v = .string C3, fun v _ => v = .bool true, fun v _ => v = .bool true, fun v _ => v = .bool true]) (by kernel_rfl) (back_of (by kernel_rfl)) (dst_of (by kernel_rfl)) (dep_of (by kernel_rfl)) (in_of (by kernel_rfl)) (Below.drew (Below.refl _ _)) ?hop ?hq
  case hop =>
    intro i o a w ho hS hdf hsz hrest hdone
    have t0 : a.tmps.getD 0 undef = .pointer (some ⟨b, 0, none⟩) := hrest 0 (not_of (by kernel_rfl))
    have t1 : a.tmps.getD 1 undef = .pointer (some ⟨r, 0, none⟩) := hrest 1 (not_of (by kernel_rfl))
    have hs : a.tmps.size = 28 := hsz.trans rfl
    have hi : i < 24 := (Array.getElem?_eq_some_iff.1 ho).1
    clear hrest hsz hdf
    obtain rfl | rfl | rfl | rfl | rfl | rfl | rfl | rfl | rfl | rfl | rfl | rfl | rfl | rfl | rfl | rfl | rfl | rfl | rfl | rfl | rfl | rfl | rfl | rfl : i = 0 ∨ i = 1 ∨ i = 2 ∨ i = 3 ∨ i = 4 ∨ i = 5 ∨ i = 6 ∨ i = 7 ∨ i = 8 ∨ i = 9 ∨ i = 10 ∨ i = 11 ∨ i = 12 ∨ i = 13 ∨ i = 14 ∨ i = 15 ∨ i = 16 ∨ i = 17 ∨ i = 18 ∨ i = 19 ∨ i = 20 ∨ i = 21 ∨ i = 22 ∨ i = 23 := by omega
    · obtain rfl := Option.some.inj (show some _ = some o from ho)
      refine wpOp_val (v := .pointer (some ⟨b, 0, none⟩)) (w' := w) rfl rfl ?_ ⟨_, rfl, ?_, hS, fun _ _ _ h => h⟩
      · simp [execOp, Act.eval, t0]
      · rw [own_put rfl (by rw [hs]; omega)]; exact rfl
    · obtain rfl := Option.some.inj (show some _ = some o from ho)
      have s5 : a.tmps.getD 5 undef = .pointer (some ⟨b, 0, none⟩) := hdone _ (Array.mem_of_getElem? (i := 0) rfl) rfl _ rfl
      refine wpOp_call (f := 76) (args := #[.pointer (some ⟨b, 0, none⟩)]) rfl rfl ?_ ?_
      · simp [go_sem, execOp, Act.eval, Deferred.ofValue, callFunc, Try.func76, Try.f76, s5, resolve, invoke]
      · refine (CA.out w hS).mono ?_
        rintro e w' ⟨v9, rfl, b9, h9⟩
        refine ⟨_, rfl, _, rfl, ?_, hS.trans (b9.mono hS.size), tabR_mono ⟨fun _ h => h, fun _ h => h.below b9, fun _ h => h, fun _ h => h, fun _ h => h.below b9, fun _ h => h, fun _ h => h, fun _ h => h, fun _ h => h, fun _ h => h, fun _ h => h, fun _ h => h, fun _ h => h, fun _ h => h, fun _ h => h, fun _ h => h, fun _ h => h.below b9, fun _ h => h, fun _ h => h, fun _ h => h.below b9, fun _ h => h, fun _ h => h, fun _ h => h, fun _ h => h, trivial⟩⟩
        rw [own_put rfl (by rw [hs]; omega)]; exact h9
    · obtain rfl := Option.some.inj (show some _ = some o from ho)
      have r6 := hdone _ (Array.mem_of_getElem? (i := 0) rfl) rfl _ rfl
      refine wpOp_val (v := .string C1) (w' := w) rfl rfl ?_ ⟨_, rfl, ?_, hS, fun _ _ _ h => h⟩
      · (have q9 : StrIn (a.tmps.getD 6 undef) C1 w := r6; have q8 := q9.now; generalize hv9 : a.tmps.getD 6 undef = v9 at q8; simp [execOp, Act.eval, hv9, q8])
      · rw [own_put rfl (by rw [hs]; omega)]; exact rfl
    · obtain rfl := Option.some.inj (show some _ = some o from ho)
      refine wpOp_val (v := .pointer (some ⟨r, 0, none⟩)) (w' := w) rfl rfl ?_ ⟨_, rfl, ?_, hS, fun _ _ _ h => h⟩
      · simp [execOp, Act.eval, t1]
      · rw [own_put rfl (by rw [hs]; omega)]; exact rfl
    · obtain rfl := Option.some.inj (show some _ = some o from ho)
      have s8 : a.tmps.getD 8 undef = .pointer (some ⟨r, 0, none⟩) := hdone _ (Array.mem_of_getElem? (i := 0) rfl) rfl _ rfl
      refine wpOp_call (f := 77) (args := #[.pointer (some ⟨r, 0, none⟩)]) rfl rfl ?_ ?_
      · simp [go_sem, execOp, Act.eval, Deferred.ofValue, callFunc, Try.func77, Try.f77, s8, resolve, invoke]
      · refine (CB.out w hS).mono ?_
        rintro e w' ⟨v9, rfl, b9, h9⟩
        refine ⟨_, rfl, _, rfl, ?_, hS.trans (b9.mono hS.size), tabR_mono ⟨fun _ h => h, fun _ h => h.below b9, fun _ h => h, fun _ h => h, fun _ h => h.below b9, fun _ h => h, fun _ h => h, fun _ h => h, fun _ h => h, fun _ h => h, fun _ h => h, fun _ h => h, fun _ h => h, fun _ h => h, fun _ h => h, fun _ h => h, fun _ h => h.below b9, fun _ h => h, fun _ h => h, fun _ h => h.below b9, fun _ h => h, fun _ h => h, fun _ h => h, fun _ h => h, trivial⟩⟩
        rw [own_put rfl (by rw [hs]; omega)]; exact h9
    · obtain rfl := Option.some.inj (show some _ = some o from ho)
      have r9 := hdone _ (Array.mem_of_getElem? (i := 0) rfl) rfl _ rfl
      refine wpOp_val (v := .string C1) (w' := w) rfl rfl ?_ ⟨_, rfl, ?_, hS, fun _ _ _ h => h⟩
      · (have q9 : StrIn (a.tmps.getD 9 undef) C1 w := r9; have q8 := q9.now; generalize hv9 : a.tmps.getD 9 undef = v9 at q8; simp [execOp, Act.eval, hv9, q8])
      · rw [own_put rfl (by rw [hs]; omega)]; exact rfl
    · obtain rfl := Option.some.inj (show some _ = some o from ho)
      have s7 : a.tmps.getD 7 undef = .string C1 := hdone _ (Array.mem_of_getElem? (i := 0) rfl) rfl _ rfl
      have s10 : a.tmps.getD 10 undef = .string C1 := hdone _ (Array.mem_of_getElem? (i := 1) rfl) rfl _ rfl
      refine wpOp_val (v := .bool true) (w' := w) rfl rfl ?_ ⟨_, rfl, ?_, hS, fun _ _ _ h => h⟩
      · simp [execOp, Act.eval, s7, s10, go_sem]
      · rw [own_put rfl (by rw [hs]; omega)]; exact rfl
    · obtain rfl := Option.some.inj (show some _ = some o from ho)
      have s11 : a.tmps.getD 11 undef = .bool true := hdone _ (Array.mem_of_getElem? (i := 0) rfl) rfl _ rfl
      refine wpOp_val (v := .bool true) (w' := w) rfl rfl ?_ ⟨_, rfl, ?_, hS, fun _ _ _ h => h⟩
      · simp [execOp, Act.eval, s11]
      · rw [own_put rfl (by rw [hs]; omega)]; exact rfl
    · obtain rfl := Option.some.inj (show some _ = some o from ho)
      have hg : a.tmps.getD 12 undef = .bool true := hdone _ (Array.mem_of_getElem? (i := 0) rfl) rfl _ rfl
      refine wpOp_valw (v := .pointer (some ⟨b, 0, none⟩)) (w' := w) rfl (wanted_yes 7 12 true hg (by rw [hs]; omega) rfl rfl rfl rfl) ?_ ⟨_, rfl, ?_, hS, fun _ _ _ h => h⟩
      · simp [execOp, Act.eval, t0]
      · rw [own_put rfl (by rw [hs]; omega)]; exact rfl
    · obtain rfl := Option.some.inj (show some _ = some o from ho)
      have hg : a.tmps.getD 12 undef = .bool true := hdone _ (Array.mem_of_getElem? (i := 1) rfl) rfl _ rfl
      have s13 : a.tmps.getD 13 undef = .pointer (some ⟨b, 0, none⟩) := hdone _ (Array.mem_of_getElem? (i := 0) rfl) rfl _ rfl
      refine wpOp_callw (f := 78) (args := #[.pointer (some ⟨b, 0, none⟩)]) rfl (wanted_yes 7 12 true hg (by rw [hs]; omega) rfl rfl rfl rfl) ?_ ?_
      · simp [go_sem, execOp, Act.eval, Deferred.ofValue, callFunc, Try.func78, Try.f78, s13, resolve, invoke]
      · refine (FA.out w hS).mono ?_
        rintro e w' ⟨rfl, b9⟩
        refine ⟨_, rfl, _, rfl, ?_, hS.trans (b9.mono hS.size), tabR_mono ⟨fun _ h => h, fun _ h => h.below b9, fun _ h => h, fun _ h => h, fun _ h => h.below b9, fun _ h => h, fun _ h => h, fun _ h => h, fun _ h => h, fun _ h => h, fun _ h => h, fun _ h => h, fun _ h => h, fun _ h => h, fun _ h => h, fun _ h => h, fun _ h => h.below b9, fun _ h => h, fun _ h => h, fun _ h => h.below b9, fun _ h => h, fun _ h => h, fun _ h => h, fun _ h => h, trivial⟩⟩
        rw [own_put rfl (by rw [hs]; omega)]; exact rfl
    · obtain rfl := Option.some.inj (show some _ = some o from ho)
      have hg : a.tmps.getD 12 undef = .bool true := hdone _ (Array.mem_of_getElem? (i := 0) rfl) rfl _ rfl
      refine wpOp_valw (v := .pointer (some ⟨r, 0, none⟩)) (w' := w) rfl (wanted_yes 7 12 true hg (by rw [hs]; omega) rfl rfl rfl rfl) ?_ ⟨_, rfl, ?_, hS, fun _ _ _ h => h⟩
      · simp [execOp, Act.eval, t1]
      · rw [own_put rfl (by rw [hs]; omega)]; exact rfl
    · obtain rfl := Option.some.inj (show some _ = some o from ho)
      have hg : a.tmps.getD 12 undef = .bool true := hdone _ (Array.mem_of_getElem? (i := 2) rfl) rfl _ rfl
      have s15 : a.tmps.getD 15 undef = .pointer (some ⟨r, 0, none⟩) := hdone _ (Array.mem_of_getElem? (i := 0) rfl) rfl _ rfl
      refine wpOp_callw (f := 79) (args := #[.pointer (some ⟨r, 0, none⟩)]) rfl (wanted_yes 7 12 true hg (by rw [hs]; omega) rfl rfl rfl rfl) ?_ ?_
      · simp [go_sem, execOp, Act.eval, Deferred.ofValue, callFunc, Try.func79, Try.f79, s15, resolve, invoke]
      · refine (FB.out w hS).mono ?_
        rintro e w' ⟨rfl, b9⟩
        refine ⟨_, rfl, _, rfl, ?_, hS.trans (b9.mono hS.size), tabR_mono ⟨fun _ h => h, fun _ h => h.below b9, fun _ h => h, fun _ h => h, fun _ h => h.below b9, fun _ h => h, fun _ h => h, fun _ h => h, fun _ h => h, fun _ h => h, fun _ h => h, fun _ h => h, fun _ h => h, fun _ h => h, fun _ h => h, fun _ h => h, fun _ h => h.below b9, fun _ h => h, fun _ h => h, fun _ h => h.below b9, fun _ h => h, fun _ h => h, fun _ h => h, fun _ h => h, trivial⟩⟩
        rw [own_put rfl (by rw [hs]; omega)]; exact rfl
    · obtain rfl := Option.some.inj (show some _ = some o from ho)
      have hg : a.tmps.getD 12 undef = .bool true := hdone _ (Array.mem_of_getElem? (i := 2) rfl) rfl _ rfl
      have s14 : a.tmps.getD 14 undef = .agg fm := hdone _ (Array.mem_of_getElem? (i := 0) rfl) rfl _ rfl
      have s16 : a.tmps.getD 16 undef = .agg fm := hdone _ (Array.mem_of_getElem? (i := 1) rfl) rfl _ rfl
      refine wpOp_valw (v := .bool true) (w' := w) rfl (wanted_yes 7 12 true hg (by rw [hs]; omega) rfl rfl rfl rfl) ?_ ⟨_, rfl, ?_, hS, fun _ _ _ h => h⟩
      · exact exec_eql rfl s14 s16 (by kernel_rfl) (FE.out w)
      · rw [own_put rfl (by rw [hs]; omega)]; exact rfl
    · obtain rfl := Option.some.inj (show some _ = some o from ho)
      have s12 : a.tmps.getD 12 undef = .bool true := hdone _ (Array.mem_of_getElem? (i := 0) rfl) rfl _ rfl
      have s17 : a.tmps.getD 17 undef = .bool true := hdone _ (Array.mem_of_getElem? (i := 1) rfl) rfl _ rfl
      refine wpOp_val (v := .bool true) (w' := w) rfl rfl ?_ ⟨_, rfl, ?_, hS, fun _ _ _ h => h⟩
      · simp [execOp, Act.eval, s12, s17, go_sem]
      · rw [own_put rfl (by rw [hs]; omega)]; exact rfl
    · obtain rfl := Option.some.inj (show some _ = some o from ho)
      have s18 : a.tmps.getD 18 undef = .bool true := hdone _ (Array.mem_of_getElem? (i := 0) rfl) rfl _ rfl
      refine wpOp_val (v := .bool true) (w' := w) rfl rfl ?_ ⟨_, rfl, ?_, hS, fun _ _ _ h => h⟩
      · simp [execOp, Act.eval, s18]
      · rw [own_put rfl (by rw [hs]; omega)]; exact rfl
    · obtain rfl := Option.some.inj (show some _ = some o from ho)
      have hg : a.tmps.getD 19 undef = .bool true := hdone _ (Array.mem_of_getElem? (i := 0) rfl) rfl _ rfl
      refine wpOp_valw (v := .pointer (some ⟨b, 0, none⟩)) (w' := w) rfl (wanted_yes 14 19 true hg (by rw [hs]; omega) rfl rfl rfl rfl) ?_ ⟨_, rfl, ?_, hS, fun _ _ _ h => h⟩
      · simp [execOp, Act.eval, t0]
      · rw [own_put rfl (by rw [hs]; omega)]; exact rfl
    · obtain rfl := Option.some.inj (show some _ = some o from ho)
      have hg : a.tmps.getD 19 undef = .bool true := hdone _ (Array.mem_of_getElem? (i := 1) rfl) rfl _ rfl
      have s20 : a.tmps.getD 20 undef = .pointer (some ⟨b, 0, none⟩) := hdone _ (Array.mem_of_getElem? (i := 0) rfl) rfl _ rfl
      refine wpOp_callw (f := 80) (args := #[.pointer (some ⟨b, 0, none⟩)]) rfl (wanted_yes 14 19 true hg (by rw [hs]; omega) rfl rfl rfl rfl) ?_ ?_
      · simp [go_sem, execOp, Act.eval, Deferred.ofValue, callFunc, Try.func80, Try.f80, s20, resolve, invoke]
      · refine (SA.out w hS).mono ?_
        rintro e w' ⟨v9, rfl, b9, h9⟩
        refine ⟨_, rfl, _, rfl, ?_, hS.trans (b9.mono hS.size), tabR_mono ⟨fun _ h => h, fun _ h => h.below b9, fun _ h => h, fun _ h => h, fun _ h => h.below b9, fun _ h => h, fun _ h => h, fun _ h => h, fun _ h => h, fun _ h => h, fun _ h => h, fun _ h => h, fun _ h => h, fun _ h => h, fun _ h => h, fun _ h => h, fun _ h => h.below b9, fun _ h => h, fun _ h => h, fun _ h => h.below b9, fun _ h => h, fun _ h => h, fun _ h => h, fun _ h => h, trivial⟩⟩
        rw [own_put rfl (by rw [hs]; omega)]; exact h9
    · obtain rfl := Option.some.inj (show some _ = some o from ho)
      have hg : a.tmps.getD 19 undef = .bool true := hdone _ (Array.mem_of_getElem? (i := 1) rfl) rfl _ rfl
      have r21 := hdone _ (Array.mem_of_getElem? (i := 0) rfl) rfl _ rfl
      refine wpOp_valw (v := .string C3) (w' := w) rfl (wanted_yes 14 19 true hg (by rw [hs]; omega) rfl rfl rfl rfl) ?_ ⟨_, rfl, ?_, hS, fun _ _ _ h => h⟩
      · (have q9 : StrIn (a.tmps.getD 21 undef) C3 w := r21; have q8 := q9.now; generalize hv9 : a.tmps.getD 21 undef = v9 at q8; simp [execOp, Act.eval, hv9, q8])
      · rw [own_put rfl (by rw [hs]; omega)]; exact rfl
    · obtain rfl := Option.some.inj (show some _ = some o from ho)
      have hg : a.tmps.getD 19 undef = .bool true := hdone _ (Array.mem_of_getElem? (i := 0) rfl) rfl _ rfl
      refine wpOp_valw (v := .pointer (some ⟨r, 0, none⟩)) (w' := w) rfl (wanted_yes 14 19 true hg (by rw [hs]; omega) rfl rfl rfl rfl) ?_ ⟨_, rfl, ?_, hS, fun _ _ _ h => h⟩
      · simp [execOp, Act.eval, t1]
      · rw [own_put rfl (by rw [hs]; omega)]; exact rfl
    · obtain rfl := Option.some.inj (show some _ = some o from ho)
      have hg : a.tmps.getD 19 undef = .bool true := hdone _ (Array.mem_of_getElem? (i := 2) rfl) rfl _ rfl
      have s23 : a.tmps.getD 23 undef = .pointer (some ⟨r, 0, none⟩) := hdone _ (Array.mem_of_getElem? (i := 0) rfl) rfl _ rfl
      refine wpOp_callw (f := 81) (args := #[.pointer (some ⟨r, 0, none⟩)]) rfl (wanted_yes 14 19 true hg (by rw [hs]; omega) rfl rfl rfl rfl) ?_ ?_
      · simp [go_sem, execOp, Act.eval, Deferred.ofValue, callFunc, Try.func81, Try.f81, s23, resolve, invoke]
      · refine (SB.out w hS).mono ?_
        rintro e w' ⟨v9, rfl, b9, h9⟩
        refine ⟨_, rfl, _, rfl, ?_, hS.trans (b9.mono hS.size), tabR_mono ⟨fun _ h => h, fun _ h => h.below b9, fun _ h => h, fun _ h => h, fun _ h => h.below b9, fun _ h => h, fun _ h => h, fun _ h => h, fun _ h => h, fun _ h => h, fun _ h => h, fun _ h => h, fun _ h => h, fun _ h => h, fun _ h => h, fun _ h => h, fun _ h => h.below b9, fun _ h => h, fun _ h => h, fun _ h => h.below b9, fun _ h => h, fun _ h => h, fun _ h => h, fun _ h => h, trivial⟩⟩
        rw [own_put rfl (by rw [hs]; omega)]; exact h9
    · obtain rfl := Option.some.inj (show some _ = some o from ho)
      have hg : a.tmps.getD 19 undef = .bool true := hdone _ (Array.mem_of_getElem? (i := 1) rfl) rfl _ rfl
      have r24 := hdone _ (Array.mem_of_getElem? (i := 0) rfl) rfl _ rfl
      refine wpOp_valw (v := .string C3) (w' := w) rfl (wanted_yes 14 19 true hg (by rw [hs]; omega) rfl rfl rfl rfl) ?_ ⟨_, rfl, ?_, hS, fun _ _ _ h => h⟩
      · (have q9 : StrIn (a.tmps.getD 24 undef) C3 w := r24; have q8 := q9.now; generalize hv9 : a.tmps.getD 24 undef = v9 at q8; simp [execOp, Act.eval, hv9, q8])
      · rw [own_put rfl (by rw [hs]; omega)]; exact rfl
    · obtain rfl := Option.some.inj (show some _ = some o from ho)
      have hg : a.tmps.getD 19 undef = .bool true := hdone _ (Array.mem_of_getElem? (i := 2) rfl) rfl _ rfl
      have s22 : a.tmps.getD 22 undef = .string C3 := hdone _ (Array.mem_of_getElem? (i := 0) rfl) rfl _ rfl
      have s25 : a.tmps.getD 25 undef = .string C3 := hdone _ (Array.mem_of_getElem? (i := 1) rfl) rfl _ rfl
      refine wpOp_valw (v := .bool true) (w' := w) rfl (wanted_yes 14 19 true hg (by rw [hs]; omega) rfl rfl rfl rfl) ?_ ⟨_, rfl, ?_, hS, fun _ _ _ h => h⟩
      · simp [execOp, Act.eval, s22, s25, go_sem]
      · rw [own_put rfl (by rw [hs]; omega)]; exact rfl
    · obtain rfl := Option.some.inj (show some _ = some o from ho)
      have s19 : a.tmps.getD 19 undef = .bool true := hdone _ (Array.mem_of_getElem? (i := 0) rfl) rfl _ rfl
      have s26 : a.tmps.getD 26 undef = .bool true := hdone _ (Array.mem_of_getElem? (i := 1) rfl) rfl _ rfl
      refine wpOp_val (v := .bool true) (w' := w) rfl rfl ?_ ⟨_, rfl, ?_, hS, fun _ _ _ h => h⟩
      · simp [execOp, Act.eval, s19, s26, go_sem]
      · rw [own_put rfl (by rw [hs]; omega)]; exact rfl
    · obtain rfl := Option.some.inj (show some _ = some o from ho)
      have s27 : a.tmps.getD 27 undef = .bool true := hdone _ (Array.mem_of_getElem? (i := 0) rfl) rfl _ rfl
      refine wpOp_val (v := .bool true) (w' := w) rfl rfl ?_ ⟨_, rfl, ?_, hS, fun _ _ _ h => h⟩
      · simp [execOp, Act.eval, s27]
      · rw [own_put rfl (by rw [hs]; omega)]; exact rfl
  case hq =>
    intro u9 w' hS hR9
    have f4 : u9 4 = .bool true := hR9 23 _ rfl
    clear hR9
    rw [show outs _ u9 = [(5, u9 5), (6, u9 6), (7, u9 7), (8, u9 8), (9, u9 9), (10, u9 10), (11, u9 11), (12, u9 12), (13, u9 13), (14, u9 14), (15, u9 15), (16, u9 16), (17, u9 17), (18, u9 18), (19, u9 19), (20, u9 20), (21, u9 21), (22, u9 22), (23, u9 23), (24, u9 24), (25, u9 25), (26, u9 26), (27, u9 27), (4, u9 4)] by kernel_rfl, f4]
    simp only [putAll, List.setIfInBounds_toArray, List.set_cons_zero, List.set_cons_succ]
    generalize u9 5 = x5
    generalize u9 6 = x6
    generalize u9 7 = x7
    generalize u9 8 = x8
    generalize u9 9 = x9
    generalize u9 10 = x10
    generalize u9 11 = x11
    generalize u9 12 = x12
    generalize u9 13 = x13
    generalize u9 14 = x14
    generalize u9 15 = x15
    generalize u9 16 = x16
    generalize u9 17 = x17
    generalize u9 18 = x18
    generalize u9 19 = x19
    generalize u9 20 = x20
    generalize u9 21 = x21
    generalize u9 22 = x22
    generalize u9 23 = x23
    generalize u9 24 = x24
    generalize u9 25 = x25
    generalize u9 26 = x26
    generalize u9 27 = x27
    clear f4 u9
    have W1 := Lib.hid hS; clear hS
    go_wp2_with fail
    go_ret
    exact ⟨rfl, W1.out⟩
end Go.Proofs.Ytpbnmbeedjhloaa.Rm
