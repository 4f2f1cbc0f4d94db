/-
  The walk of the law MemPlays.
-/
import Derived.Test.YtpbnmbeedjhloaaRmL
import Derived.Test.YtpbnmbeedjhloaaOrdL
import Derived.Laws.Bits64
namespace Go.Proofs.Ytpbnmbeedjhloaa.Rm
open Go.RowKit
set_option linter.unusedVariables false
set_option maxRecDepth 100000

def TabQ (l : List (Value → Prop)) (i : Nat) (v : Value) : Prop := match l[i]? with
  | some p => p v
  | none => True
/-- Two writes on their way. -/
def SW (P0 P1 P2 : World → Prop) (fl : Nat → Bool) (w : World) : Prop := match fl 7, fl 15 with
  | false, false => P0 w
  | true, false => P1 w
  | true, true => P2 w
  | false, true => False
section
variable {P0 P1 P2 : World → Prop} {fl : Nat → Bool} {w w' : World}
theorem SW.start (h7 : fl 7 = false) (h15 : fl 15 = false) (h : P0 w) : SW P0 P1 P2 fl w := by unfold SW; rw [h7, h15]; exact h
theorem SW.other {i : Nat} (h : SW P0 P1 P2 fl w) (h7 : i ≠ 7) (h15 : i ≠ 15) : SW P0 P1 P2 (fun j => if j = i then true else fl j) w := by
  unfold SW at *
  simp only [if_neg (Ne.symm h7), if_neg (Ne.symm h15)]
  exact h
theorem SW.at0 (h : SW P0 P1 P2 fl w) (h7 : fl 7 = false) : P0 w := by
  unfold SW at h
  rw [h7] at h
  cases h15 : fl 15 <;> rw [h15] at h
  · exact h
  · exact h.elim
theorem SW.at1 (h : SW P0 P1 P2 fl w) (h7 : fl 7 = true) (h15 : fl 15 = false) : P1 w := by unfold SW at h; rw [h7, h15] at h; exact h
theorem SW.at2 (h : SW P0 P1 P2 fl w) (h15 : fl 15 = true) : P2 w := by
  unfold SW at h
  rw [h15] at h
  cases h7 : fl 7 <;> rw [h7] at h
  · exact h.elim
  · exact h
theorem SW.to1 (h : SW P0 P1 P2 fl w) (h' : P1 w') (h7 : fl 7 = false) : SW P0 P1 P2 (fun j => if j = 7 then true else fl j) w' := by
  have h15 : fl 15 = false := by
    unfold SW at h
    rw [h7] at h
    cases h15 : fl 15
    · rfl
    · rw [h15] at h; exact h.elim
  unfold SW
  simp only [if_pos rfl, if_neg (show ¬ (15 : Nat) = 7 by decide), h15]
  exact h'
theorem SW.to2 (h7 : fl 7 = true) (h' : P2 w') : SW P0 P1 P2 (fun j => if j = 15 then true else fl j) w' := by
  unfold SW
  simp only [if_pos rfl, if_neg (show ¬ (7 : Nat) = 15 by decide), h7]
  exact h'
theorem SW.all {R : World → Prop} (h : SW P0 P1 P2 fl w) (h0 : ∀ w, P0 w → R w) (h1 : ∀ w, P1 w → R w) (h2 : ∀ w, P2 w → R w) : R w := by
  unfold SW at h
  cases h7 : fl 7 <;> cases h15 : fl 15 <;> rw [h7, h15] at h
  · exact h0 w h
  · exact h.elim
  · exact h1 w h
  · exact h2 w h
end
theorem play_start {W w1 w2 : World} {b cb r cl kl : Nat} {cf kf : Nat → Int} {st : Bool} {M : RefM} (hb : W.heap.size ≤ b) (b1 : Below W.heap.size W w1) (hN : (newMem cb kl cl st cf).at w1 b) (hC : w1.rowIs cb 5 kl (fun i => .int .u8 (kf i))) (hkb : ∀ i, i < kl → 0 ≤ kf i ∧ kf i < 256) (h256 : cl ≤ 256)
    (hr : w1.heap.size ≤ r) (b2 : Below w1.heap.size w1 w2) (hM : RefAt M w2 r w1.heap.size) (hs : Sep M) (k1 : M.k.len = kl ∧ M.k.f = kf) (k2 : M.x.len = cl ∧ M.x.f = cf) (k3 : M.fr.len = 64 ∧ M.fr.f = fun _ => 0) (k4 : (M.s.len : Int) = stkI st ∧ M.s.f = fun _ => 0) :
    Play W kf r w1.heap.size b (newMem cb kl cl st cf) M w2 := by
  have hg : ∀ j, (newMem cb kl cl st cf).g j = if 1 ≤ j ∧ j < 1 + cl then cf (j - 1) else 0 := fun j => rfl
  refine ⟨below_call b1 b2, (⟨hN, hC, hkb⟩ : Mem (newMem cb kl cl st cf) kf w1 b).below b2, hM, ⟨k1.1, fun i _ => by rw [k1.2], k2.1, fun i hi => ?_, k3.1, fun i hi => ?_, k4.1, fun i hi => ?_⟩, hs, hC.lt, ?_, hb, b1.size⟩
  · have hi' : i < cl := hi
    rw [k2.2, hg, if_pos (by omega), show 1 + i - 1 = i by omega]
  · rw [k3.2, hg, if_neg (by omega)]
  · rw [k4.2, hg, if_neg (by omega)]
  · have := hN.row.lt
    omega
theorem xor_bd {v : Int} (h0 : 0 ≤ v) (h1 : v < 18446744073709551616) : 0 ≤ bits .xor .u64 IntKind.u64.max v ∧ bits .xor .u64 IntKind.u64.max v < 18446744073709551616 := by
  obtain ⟨n, rfl⟩ := Int.eq_ofNat_of_zero_le h0
  rw [show IntKind.u64.max = ((18446744073709551615 : Nat) : Int) from by decide, bits_xor_u64_nat _ _ (by decide) (by omega)]
  have := Nat.xor_lt_two_pow (x := 18446744073709551615) (y := n) (n := 64) (by decide) (by omega)
  omega
theorem rangeAt_below2 {W w : World} {b o : Nat} {cs : List Value} (h : Below W.heap.size W w) (hc : W.rangeAt b o cs) : w.rangeAt b o cs := fun j v hv => by
  have := hc j v hv
  exact (h.cell (p := ⟨b, o + j, none⟩) (lt_of_cell this)).trans this
def greatP (cl kl ll : Nat) : Bool := decide (400 < (cl : Int)) || (decide (400 < (kl : Int)) && decide ((kl : Int) ≤ 16384)) || decide (40000 < (kl : Int)) || decide (200 < (ll : Int))
set_option maxHeartbeats 1000000 in
theorem great_any (ca : Option Addr) (cl cc : Nat) (ka : Option Addr) (kl kc : Nat) (la : Option Addr) (ll lc : Nat) (W : World) :
    Calls Try.prog 13 #[.slice ca cl cc, .slice ka kl kc, .slice la ll lc] W fun e w' => e = .returned (.bool (greatP cl kl ll)) ∧ W = w' := by
  go_enter Try.func13, Try.ntmps13
  go_wp2
  all_goals
    go_ret
    refine ⟨Apart.retB ?_, rfl⟩
    unfold greatP
    rw [Bool.eq_iff_iff]
    simp
    try omega

set_option maxHeartbeats 32000000 in
theorem plays_main (ca : Option Addr) (cl cc : Nat) (cf : Nat → Int) (ka : Option Addr) (kl kc : Nat) (kf : Nat → Int) (st : Bool) (la : Option Addr) (ll lc : Nat) (d t n v : Nat → Int) (W : World) (hc : Src W ca cl cc cf) (hk : Src W ka kl kc kf) (hl : Acts W la ll lc d t n v) (h1 : cl ≤ 256) (h2 : kl ≤ 400) (h3 : ll ≤ 200) :
    Calls Try.prog 3 #[.slice ca cl cc, .slice ka kl kc, .bool st, .slice la ll lc] W fun e w' => e = .returned (.bool true) ∧ Below W.heap.size W w' := by
  have G := fun W => great_any ca cl cc ka kl kc la ll lc W
  rw [show greatP cl kl ll = false by unfold greatP; simp; omega] at G
  have HG := Lib.hid G; clear G
  have HN := Lib.hid (new_any ca cl cc cf ka kl kc kf st W hc hk h1 (by omega))
  have HR := Lib.hid (fun w (b : Below W.heap.size W w) => r_new ka kl kc kf ca cl cc cf st w (hc.below b) (hk.below b) h1 (by omega))
  have HKB := Lib.hid hk.bytes
  have HL := Lib.hid hl
  clear hc hk hl
  go_enter Try.func3, Try.ntmps3
  go_wp2_with fail
  refine (HG.out _).mono ?_
  rintro e w' ⟨rfl, rfl⟩
  go_wp2_with fail
  refine HN.out.mono ?_
  rintro e w1 ⟨b, cb, rfl, hb, hcb, b1, hN, hC⟩
  go_wp2_with fail
  refine (HR.out _ b1).mono ?_
  rintro e w2 ⟨r, M, rfl, hr, b2, hM, hsep, k1, k2, k3, k4⟩
  have R1 := Lib.hid (play_start hb b1 hN hC HKB.out h1 hr b2 hM hsep k1 k2 k3 k4)
  generalize w1.heap.size = base at R1
  clear hb hcb b1 hN hC hr b2 hM hsep k1 k2 k3 k4 HN HG HR HKB
  go_wp2_with fail
  go_loopw [13, 9] (fun i p wr => ∃ (k b : Nat), k ≤ ll ∧ i = .int .i64 k ∧ p = .pointer (some ⟨b, 0, none⟩) ∧ Hid (∃ S M, Play W kf r base b S M wr)) (fun i _ _ => ll - (intOf i).toNat)
  case atStart => exact ⟨0, b, by omega, rfl, rfl, Lib.hid ⟨_, M, R1.out⟩⟩
  case round =>
    obtain ⟨k, b, hk, rfl, rfl, hR⟩ := hrel
    clear R1
    by_cases hlt : k < ll
    · obtain ⟨B, o, rfl, hcells⟩ := HL.out.here (by omega)
      obtain ⟨S, M, hp0⟩ := hR.out
      have hcl := rangeAt_below2 hp0.below (hcells k hlt)
      have y0 : wr.cell? ⟨B, o + k * 4, none⟩ = some (.int .i64 (d k)) := hcl 0 _ rfl
      have y1 : wr.cell? ⟨B, o + k * 4 + 1, none⟩ = some (.int .u64 (t k)) := hcl 1 _ rfl
      have y2 : wr.cell? ⟨B, o + k * 4 + 2, none⟩ = some (.int .i64 (n k)) := hcl 2 _ rfl
      have y3 : wr.cell? ⟨B, o + k * 4 + 3, none⟩ = some (.int .u64 (v k)) := hcl 3 _ rfl
      obtain ⟨hd, ⟨ht0, ht1⟩, ⟨hn0, hn1⟩, hv0, hv1⟩ := HL.out.nums k hlt
      have HP0 := Lib.hid hp0
      clear hcells hcl hp0 hd hR
      generalize d k = dk at *
      generalize t k = tk at *
      generalize n k = nk at *
      generalize v k = vk at *
      have HX0 := Lib.hid (show XBox (wr.alloc (.cells #[.int .i64 dk, .int .u64 tk, .int .i64 nk, .int .u64 vk] 35)) wr.heap.size dk tk nk vk by
        have h := heap_last wr (.cells #[.int .i64 dk, .int .u64 tk, .int .i64 nk, .int .u64 vk] 35) _ rfl
        exact ⟨⟨by simp only [World.cell?]; rw [h]; rfl, by simp only [World.cell?]; rw [h]; rfl, by simp only [World.cell?]; rw [h]; rfl, by simp only [World.cell?]; rw [h]; rfl⟩, _, h⟩)
      have HPA := Lib.hid (HP0.out.on (below_new (Below.refl _ wr) (.cells #[.int .i64 dk, .int .u64 tk, .int .i64 nk, .int .u64 vk] 35)))
      clear HP0
      have hcase : dk = 0 ∨ dk = 1 ∨ dk = 2 ∨ (¬ dk = 0 ∧ ¬ dk = 1 ∧ ¬ dk = 2) := by omega
      rcases hcase with rfl | rfl | rfl | ⟨z0, z1, z2⟩
      · as_aux_lemma =>
        obtain ⟨ev, P1, P2, ca9, cb9, q0, q1, q2, pl, d1, d2⟩ := play_write HPA.out HX0.out ht0 ht1 hn0 hn1 hv0 hv1
        go_wp2_with fail
        generalize hX : wr.heap.size = X at *
        generalize hw0 : wr.alloc (.cells #[.int .i64 0, .int .u64 tk, .int .i64 nk, .int .u64 vk] 35) = w0 at *
        have CA := Lib.hid ca9; have CB := Lib.hid cb9; have PL := Lib.hid pl
        have XS := Lib.hid (fun fl w (h : SW (fun w => Below w0.heap.size w0 w) P1 P2 fl w) => h.all q0 q1 q2)
        have HP := Lib.hid True.intro
        have HX := Lib.hid True.intro
        clear ca9 cb9 q0 q1 q2 pl d1 d2 y0 y1 y2 y3 HPA HX0 hw0 hX
        refine wp_region_invl (SW (fun w => Below w0.heap.size w0 w) P1 P2) (TabQ [fun v => v = .pointer (some ⟨b, 0, none⟩), fun v => v = .pointer (some ⟨X, 1, none⟩), fun v => v = .int .u64 tk, fun v => v = .pointer (some ⟨X, 2, none⟩), fun v => v = .int .i64 nk, fun v => v = .pointer (some ⟨X, 3, none⟩), fun v => v = .int .u64 vk, fun v => v = .int .i64 ev, fun v => v = .pointer (some ⟨r, 0, none⟩), fun v => v = .pointer (some ⟨X, 1, none⟩), fun v => v = .int .u64 tk, fun v => v = .pointer (some ⟨X, 2, none⟩), fun v => v = .int .i64 nk, fun v => v = .pointer (some ⟨X, 3, none⟩), fun v => v = .int .u64 vk, fun v => v = .int .i64 ev, fun v => v = .bool false]) (by kernel_rfl) (back_of (by kernel_rfl)) (dst_of (by kernel_rfl)) (in_of (by kernel_rfl)) (fun fl h => SW.start (h 7 (by decide)) (h 15 (by decide)) (Below.drew (Below.refl _ _))) ?hop ?hq
        case hop =>
          intro i o a w fl ho hS hfi hdf hsz hrest hdone
          have t9 : a.tmps.getD 9 undef = .pointer (some ⟨b, 0, none⟩) := hrest 9 (not_of (by kernel_rfl))
          have t11 : a.tmps.getD 11 undef = .pointer (some ⟨r, 0, none⟩) := hrest 11 (not_of (by kernel_rfl))
          have t14 : a.tmps.getD 14 undef = .pointer (some ⟨X, 0, none⟩) := hrest 14 (not_of (by kernel_rfl))
          have hs : a.tmps.size = 163 := hsz.trans rfl
          have hi : i < 17 := (Array.getElem?_eq_some_iff.1 ho).1
          clear hrest hsz hdf
          obtain rfl | rfl | rfl | rfl | rfl | rfl | rfl | rfl | rfl | rfl | rfl | rfl | rfl | rfl | rfl | rfl | rfl : i = 0 ∨ i = 1 ∨ i = 2 ∨ i = 3 ∨ i = 4 ∨ i = 5 ∨ i = 6 ∨ i = 7 ∨ i = 8 ∨ i = 9 ∨ i = 10 ∨ i = 11 ∨ i = 12 ∨ i = 13 ∨ i = 14 ∨ i = 15 ∨ i = 16 := by omega
          · obtain rfl := Option.some.inj (show some _ = some o from ho)
            refine wpOp_val (v := .pointer (some ⟨b, 0, none⟩)) (w' := w) rfl rfl ?_ ⟨_, rfl, ?_, hS.other (by decide) (by decide)⟩
            · simp [execOp, Act.eval, t9]
            · rw [own_put rfl (by rw [hs]; omega)]; exact rfl
          · obtain rfl := Option.some.inj (show some _ = some o from ho)
            refine wpOp_val (v := .pointer (some ⟨X, 1, none⟩)) (w' := w) rfl rfl ?_ ⟨_, rfl, ?_, hS.other (by decide) (by decide)⟩
            · simp [execOp, Act.eval, t14, go_sem]
            · rw [own_put rfl (by rw [hs]; omega)]; exact rfl
          · obtain rfl := Option.some.inj (show some _ = some o from ho)
            have s88 : a.tmps.getD 88 undef = .pointer (some ⟨X, 1, none⟩) := (hdone _ (Array.mem_of_getElem? (i := 0) rfl) rfl).2 _ rfl
            refine wpOp_val (v := .int .u64 tk) (w' := w) rfl rfl ?_ ⟨_, rfl, ?_, hS.other (by decide) (by decide)⟩
            · (have hc := (XS.out fl w hS).1.2.1; simp [execOp, Act.eval, s88, hc, go_sem])
            · rw [own_put rfl (by rw [hs]; omega)]; exact rfl
          · obtain rfl := Option.some.inj (show some _ = some o from ho)
            refine wpOp_val (v := .pointer (some ⟨X, 2, none⟩)) (w' := w) rfl rfl ?_ ⟨_, rfl, ?_, hS.other (by decide) (by decide)⟩
            · simp [execOp, Act.eval, t14, go_sem]
            · rw [own_put rfl (by rw [hs]; omega)]; exact rfl
          · obtain rfl := Option.some.inj (show some _ = some o from ho)
            have s90 : a.tmps.getD 90 undef = .pointer (some ⟨X, 2, none⟩) := (hdone _ (Array.mem_of_getElem? (i := 0) rfl) rfl).2 _ rfl
            refine wpOp_val (v := .int .i64 nk) (w' := w) rfl rfl ?_ ⟨_, rfl, ?_, hS.other (by decide) (by decide)⟩
            · (have hc := (XS.out fl w hS).1.2.2.1; simp [execOp, Act.eval, s90, hc, go_sem])
            · rw [own_put rfl (by rw [hs]; omega)]; exact rfl
          · obtain rfl := Option.some.inj (show some _ = some o from ho)
            refine wpOp_val (v := .pointer (some ⟨X, 3, none⟩)) (w' := w) rfl rfl ?_ ⟨_, rfl, ?_, hS.other (by decide) (by decide)⟩
            · simp [execOp, Act.eval, t14, go_sem]
            · rw [own_put rfl (by rw [hs]; omega)]; exact rfl
          · obtain rfl := Option.some.inj (show some _ = some o from ho)
            have s92 : a.tmps.getD 92 undef = .pointer (some ⟨X, 3, none⟩) := (hdone _ (Array.mem_of_getElem? (i := 0) rfl) rfl).2 _ rfl
            refine wpOp_val (v := .int .u64 vk) (w' := w) rfl rfl ?_ ⟨_, rfl, ?_, hS.other (by decide) (by decide)⟩
            · (have hc := (XS.out fl w hS).1.2.2.2; simp [execOp, Act.eval, s92, hc, go_sem])
            · rw [own_put rfl (by rw [hs]; omega)]; exact rfl
          · obtain rfl := Option.some.inj (show some _ = some o from ho)
            have s87 : a.tmps.getD 87 undef = .pointer (some ⟨b, 0, none⟩) := (hdone _ (Array.mem_of_getElem? (i := 0) rfl) rfl).2 _ rfl
            have s89 : a.tmps.getD 89 undef = .int .u64 tk := (hdone _ (Array.mem_of_getElem? (i := 1) rfl) rfl).2 _ rfl
            have s91 : a.tmps.getD 91 undef = .int .i64 nk := (hdone _ (Array.mem_of_getElem? (i := 2) rfl) rfl).2 _ rfl
            have s93 : a.tmps.getD 93 undef = .int .u64 vk := (hdone _ (Array.mem_of_getElem? (i := 3) rfl) rfl).2 _ rfl
            have h0 := hS.at0 hfi
            refine wpOp_call (f := 17) (args := #[.pointer (some ⟨b, 0, none⟩), .int .u64 tk, .int .i64 nk, .int .u64 vk]) rfl rfl ?_ ?_
            · simp [go_sem, execOp, Act.eval, Deferred.ofValue, callFunc, Try.func17, Try.f17, s87, s89, s91, s93, resolve, invoke]
            · refine (CA.out w h0).mono ?_
              rintro e w' ⟨rfl, h9⟩
              refine ⟨_, rfl, _, rfl, ?_, SW.to1 hS h9 hfi⟩
              rw [own_put rfl (by rw [hs]; omega)]; exact rfl
          · obtain rfl := Option.some.inj (show some _ = some o from ho)
            refine wpOp_val (v := .pointer (some ⟨r, 0, none⟩)) (w' := w) rfl rfl ?_ ⟨_, rfl, ?_, hS.other (by decide) (by decide)⟩
            · simp [execOp, Act.eval, t11]
            · rw [own_put rfl (by rw [hs]; omega)]; exact rfl
          · obtain rfl := Option.some.inj (show some _ = some o from ho)
            refine wpOp_val (v := .pointer (some ⟨X, 1, none⟩)) (w' := w) rfl rfl ?_ ⟨_, rfl, ?_, hS.other (by decide) (by decide)⟩
            · simp [execOp, Act.eval, t14, go_sem]
            · rw [own_put rfl (by rw [hs]; omega)]; exact rfl
          · obtain rfl := Option.some.inj (show some _ = some o from ho)
            have s96 : a.tmps.getD 96 undef = .pointer (some ⟨X, 1, none⟩) := (hdone _ (Array.mem_of_getElem? (i := 0) rfl) rfl).2 _ rfl
            refine wpOp_val (v := .int .u64 tk) (w' := w) rfl rfl ?_ ⟨_, rfl, ?_, hS.other (by decide) (by decide)⟩
            · (have hc := (XS.out fl w hS).1.2.1; simp [execOp, Act.eval, s96, hc, go_sem])
            · rw [own_put rfl (by rw [hs]; omega)]; exact rfl
          · obtain rfl := Option.some.inj (show some _ = some o from ho)
            refine wpOp_val (v := .pointer (some ⟨X, 2, none⟩)) (w' := w) rfl rfl ?_ ⟨_, rfl, ?_, hS.other (by decide) (by decide)⟩
            · simp [execOp, Act.eval, t14, go_sem]
            · rw [own_put rfl (by rw [hs]; omega)]; exact rfl
          · obtain rfl := Option.some.inj (show some _ = some o from ho)
            have s98 : a.tmps.getD 98 undef = .pointer (some ⟨X, 2, none⟩) := (hdone _ (Array.mem_of_getElem? (i := 0) rfl) rfl).2 _ rfl
            refine wpOp_val (v := .int .i64 nk) (w' := w) rfl rfl ?_ ⟨_, rfl, ?_, hS.other (by decide) (by decide)⟩
            · (have hc := (XS.out fl w hS).1.2.2.1; simp [execOp, Act.eval, s98, hc, go_sem])
            · rw [own_put rfl (by rw [hs]; omega)]; exact rfl
          · obtain rfl := Option.some.inj (show some _ = some o from ho)
            refine wpOp_val (v := .pointer (some ⟨X, 3, none⟩)) (w' := w) rfl rfl ?_ ⟨_, rfl, ?_, hS.other (by decide) (by decide)⟩
            · simp [execOp, Act.eval, t14, go_sem]
            · rw [own_put rfl (by rw [hs]; omega)]; exact rfl
          · obtain rfl := Option.some.inj (show some _ = some o from ho)
            have s100 : a.tmps.getD 100 undef = .pointer (some ⟨X, 3, none⟩) := (hdone _ (Array.mem_of_getElem? (i := 0) rfl) rfl).2 _ rfl
            refine wpOp_val (v := .int .u64 vk) (w' := w) rfl rfl ?_ ⟨_, rfl, ?_, hS.other (by decide) (by decide)⟩
            · (have hc := (XS.out fl w hS).1.2.2.2; simp [execOp, Act.eval, s100, hc, go_sem])
            · rw [own_put rfl (by rw [hs]; omega)]; exact rfl
          · obtain rfl := Option.some.inj (show some _ = some o from ho)
            have s95 : a.tmps.getD 95 undef = .pointer (some ⟨r, 0, none⟩) := (hdone _ (Array.mem_of_getElem? (i := 0) rfl) rfl).2 _ rfl
            have s97 : a.tmps.getD 97 undef = .int .u64 tk := (hdone _ (Array.mem_of_getElem? (i := 1) rfl) rfl).2 _ rfl
            have s99 : a.tmps.getD 99 undef = .int .i64 nk := (hdone _ (Array.mem_of_getElem? (i := 2) rfl) rfl).2 _ rfl
            have s101 : a.tmps.getD 101 undef = .int .u64 vk := (hdone _ (Array.mem_of_getElem? (i := 3) rfl) rfl).2 _ rfl
            have h0 := hS.at1 (hdone _ (Array.mem_of_getElem? (i := 4) rfl) rfl).1 hfi
            refine wpOp_call (f := 18) (args := #[.pointer (some ⟨r, 0, none⟩), .int .u64 tk, .int .i64 nk, .int .u64 vk]) rfl rfl ?_ ?_
            · simp [go_sem, execOp, Act.eval, Deferred.ofValue, callFunc, Try.func18, Try.f18, s95, s97, s99, s101, resolve, invoke]
            · refine (CB.out w h0).mono ?_
              rintro e w' ⟨rfl, h9⟩
              refine ⟨_, rfl, _, rfl, ?_, SW.to2 (hdone _ (Array.mem_of_getElem? (i := 4) rfl) rfl).1 h9⟩
              rw [own_put rfl (by rw [hs]; omega)]; exact rfl
          · obtain rfl := Option.some.inj (show some _ = some o from ho)
            have s94 : a.tmps.getD 94 undef = .int .i64 ev := (hdone _ (Array.mem_of_getElem? (i := 0) rfl) rfl).2 _ rfl
            have s102 : a.tmps.getD 102 undef = .int .i64 ev := (hdone _ (Array.mem_of_getElem? (i := 1) rfl) rfl).2 _ rfl
            refine wpOp_val (v := .bool false) (w' := w) rfl rfl ?_ ⟨_, rfl, ?_, hS.other (by decide) (by decide)⟩
            · simp [execOp, Act.eval, s94, s102, go_sem]
            · rw [own_put rfl (by rw [hs]; omega)]; exact rfl
        case hq =>
          intro u9 w9 fl hfl hS hR9
          have h2 := hS.at2 (hfl 15 (by decide))
          have f103 : u9 103 = .bool false := hR9 16 _ rfl
          clear hR9 hS hfl
          rw [show outs _ u9 = [(87, u9 87), (88, u9 88), (89, u9 89), (90, u9 90), (91, u9 91), (92, u9 92), (93, u9 93), (94, u9 94), (95, u9 95), (96, u9 96), (97, u9 97), (98, u9 98), (99, u9 99), (100, u9 100), (101, u9 101), (102, u9 102), (103, u9 103)] by kernel_rfl, f103]
          simp only [putAll, List.setIfInBounds_toArray, List.set_cons_zero, List.set_cons_succ]
          generalize u9 87 = x87
          generalize u9 88 = x88
          generalize u9 89 = x89
          generalize u9 90 = x90
          generalize u9 91 = x91
          generalize u9 92 = x92
          generalize u9 93 = x93
          generalize u9 94 = x94
          generalize u9 95 = x95
          generalize u9 96 = x96
          generalize u9 97 = x97
          generalize u9 98 = x98
          generalize u9 99 = x99
          generalize u9 100 = x100
          generalize u9 101 = x101
          generalize u9 102 = x102
          clear f103 u9
          obtain ⟨S2, M2, hp2⟩ := PL.out w9 h2
          have PP := Lib.hid hp2
          clear hp2 h2 CA CB XS PL HP HX
          go_wp2_with fail
          refine (alike_any S2 kf M2 b r base _ PP.out.mem PP.out.ref PP.out.rel).mono ?_
          rintro e w20 ⟨rfl, d20⟩
          have PN := Lib.hid (PP.out.on d20)
          clear d20 PP
          go_wp2_with fail
          go_roundw
          case rel => exact ⟨k + 1, b, by omega, by go_num, rfl, Lib.hid ⟨S2, M2, PN.out⟩⟩
          case measure => simp [intOf]; omega
      · as_aux_lemma =>
        obtain ⟨vv, ev, ca9, cb9⟩ := play_read HPA.out ht0 ht1 hn0 hn1
        have CA := Lib.hid ca9; have CB := Lib.hid cb9
        clear ca9 cb9
        go_wp2_with fail
        refine (CA.out _ (Below.refl _ _)).mono ?_
        rintro e w1 ⟨rfl, b1⟩
        obtain ⟨x0, x1, x2, x3⟩ := (HX0.out.below b1).1
        have PP := Lib.hid (HPA.out.on b1)
        have B1 := Lib.hid b1
        clear b1 y0 y1 y2 y3 HPA HX0
        go_wp2_with fail
        refine (CB.out _ B1.out).mono ?_
        rintro e w2 ⟨rfl, rfl⟩
        clear CA CB B1
        go_wp2_with fail
        refine (alike_any S kf M b r base _ PP.out.mem PP.out.ref PP.out.rel).mono ?_
        rintro e w20 ⟨rfl, d20⟩
        have PN := Lib.hid (PP.out.on d20)
        clear d20 PP
        go_wp2_with fail
        go_roundw
        case rel => exact ⟨k + 1, b, by omega, by go_num, rfl, Lib.hid ⟨S, M, PN.out⟩⟩
        case measure => simp [intOf]; omega
      · as_aux_lemma =>
        obtain ⟨C, ev, ca9, cb9⟩ := play_fetch HPA.out ht0 ht1
        have CA := Lib.hid ca9; have CB := Lib.hid cb9
        clear ca9 cb9
        go_wp2_with fail
        refine (CA.out _ (Below.refl _ _)).mono ?_
        rintro e w1 ⟨v1, rfl, b1, s1⟩
        obtain ⟨x0, x1, x2, x3⟩ := (HX0.out.below b1).1
        have P1 := Lib.hid (HPA.out.on b1)
        have B1 := Lib.hid b1
        have S1 := Lib.hid s1
        clear b1 s1 y0 y1 y2 y3 HPA HX0
        go_wp2_with fail
        refine (CB.out _ B1.out).mono ?_
        rintro e w2 ⟨v2, rfl, b2, s2⟩
        have PP := Lib.hid (P1.out.on b2)
        have g1 := (S1.out.below b2).now
        have g2 := s2.now
        clear CA CB B1 b2 s2 P1 S1 x0 x1 x2 x3
        go_wp2_with fail
        refine (alike_any S kf M b r base _ PP.out.mem PP.out.ref PP.out.rel).mono ?_
        rintro e w20 ⟨rfl, d20⟩
        have PN := Lib.hid (PP.out.on d20)
        clear d20 PP
        go_wp2_with fail
        go_roundw
        case rel => exact ⟨k + 1, b, by omega, by go_num, rfl, Lib.hid ⟨S, M, PN.out⟩⟩
        case measure => simp [intOf]; omega
      · as_aux_lemma =>
        have e0 : (dk == 0) = false := by simpa using z0
        have e1 : (dk == 1) = false := by simpa using z1
        have e2 : (dk == 2) = false := by simpa using z2
        clear z0 z1 z2
        have CP := Lib.hid (copy_any S b _ HPA.out.mem.at_ HPA.out.mem.code.lt)
        go_wp2_with fail
        refine CP.out.mono ?_
        rintro e w1 ⟨b', rfl, hb', b1, hN1⟩
        have hbl := HPA.out.mem.at_.row.lt
        have hrl := lt_of_cell HPA.out.ref.c0
        have P1 := Lib.hid (HPA.out.on b1)
        have Q1 := Lib.hid hN1
        have BN := Lib.hid (And.intro (show b ≠ b' by omega) (And.intro (show b' ≠ r by omega) (show W.heap.size ≤ b' by have := HPA.out.below.size; omega)))
        have X1 := Lib.hid (HX0.out.below b1)
        clear b1 hN1 hb' hbl hrl y0 y1 y2 y3 HPA HX0 CP
        have AL := Lib.hid (alike_any S kf M b r base w1 P1.out.mem P1.out.ref P1.out.rel)
        go_wp2_with fail
        refine AL.out.mono ?_
        rintro e w2 ⟨rfl, b2⟩
        have P2 := Lib.hid (P1.out.on b2)
        have Q2 := Lib.hid (Q1.out.below b2)
        obtain ⟨x0, x1, x2, x3⟩ := (X1.out.below b2).1
        clear b2 P1 Q1 X1 AL
        have WA := Lib.hid (fun vv h0 h1 => Apart.write_all S kf b 3145728 8 vv w2 P2.out.mem (by decide) (by decide) (by decide) (by decide) h0 h1)
        go_wp2_with fail
        refine (WA.out _ ?_ ?_).mono ?_
        · exact (xor_bd hv0 hv1).1
        · exact (xor_bd hv0 hv1).2
        rintro e w3 ⟨f9, S9, rfl, _, hch, _⟩
        obtain ⟨c9, hc9⟩ := row_type P2.out.mem.at_.row
        have PP := Lib.hid (show Play W kf r base b' S M w3 from ⟨hch.below P2.out.below P2.out.bW P2.out.below.size, (⟨Q2.out, P2.out.mem.code, P2.out.mem.kb⟩ : Mem S kf w2 b').other hch (Ne.symm BN.out.1) P2.out.mem.at_.far, ref_chg P2.out.ref hch hc9 (by decide) P2.out.br, P2.out.rel, P2.out.sep, P2.out.cb, BN.out.2.1, BN.out.2.2, P2.out.baseW⟩)
        clear hch hc9 P2 Q2 BN x0 x1 x2 x3 WA
        go_wp2_with fail
        refine (alike_any S kf M b' r base _ PP.out.mem PP.out.ref PP.out.rel).mono ?_
        rintro e w20 ⟨rfl, d20⟩
        have PN := Lib.hid (PP.out.on d20)
        clear d20 PP
        go_wp2_with fail
        go_roundw
        case rel => exact ⟨k + 1, b', by omega, by go_num, rfl, Lib.hid ⟨S, M, PN.out⟩⟩
        case measure => simp [intOf]; omega
    · obtain rfl : k = ll := by omega
      obtain ⟨S, M, hp⟩ := hR.out
      have HB := Lib.hid hp.below
      clear hR hp
      go_wp2_with fail
      refine (wakes_any _).mono ?_
      rintro e w9 ⟨rfl, b9⟩
      go_wp2_with fail
      go_ret
      exact ⟨rfl, below_call HB.out b9⟩
set_option maxHeartbeats 4000000 in
theorem plays_long (ca : Option Addr) (cl cc : Nat) (ka : Option Addr) (kl kc : Nat) (st : Bool) (la : Option Addr) (ll lc : Nat) (W : World) (h : 256 < cl ∨ 16384 < kl ∨ greatP cl kl ll = true) (hll : lc ≤ 9223372036854775807) (hle : ll ≤ lc) :
    Calls Try.prog 3 #[.slice ca cl cc, .slice ka kl kc, .bool st, .slice la ll lc] W fun e w' => e = .returned (.bool true) ∧ Below W.heap.size W w' := by
  have G := Lib.hid (fun W => great_any ca cl cc ka kl kc la ll lc W)
  cases hg : greatP cl kl ll
  · rw [hg] at G
    have hlong : 256 < cl ∨ 16384 < kl := by
      rcases h with h | h | h
      · exact .inl h
      · exact .inr h
      · rw [hg] at h; cases h
    have N1 := Lib.hid (fun w => new_long ca cl cc ka kl kc st w hlong)
    have N2 := Lib.hid (fun w => r_new_long ca cl cc ka kl kc st w hlong)
    clear h hlong hg
    go_enter Try.func3, Try.ntmps3
    go_wp2_with fail
    refine (G.out _).mono ?_
    rintro e w' ⟨rfl, rfl⟩
    go_wp2_with fail
    refine (N1.out _).mono ?_
    rintro e w1 ⟨rfl, rfl⟩
    go_wp2_with fail
    refine (N2.out _).mono ?_
    rintro e w2 ⟨rfl, rfl⟩
    go_wp2_with fail
    go_loopw [13] (fun i wr => i = .int .i64 0 ∧ wr = W) (fun _ _ => 0)
    case atStart => exact ⟨rfl, rfl⟩
    case round =>
      obtain ⟨rfl, rfl⟩ := hrel
      by_cases h0 : 0 < ll
      · have e0 : decide ((0 : Int) < (ll : Int)) = true := decide_eq_true (by omega)
        go_wp2_with fail
        refine (wakes_any _).mono ?_
        rintro e w9 ⟨rfl, b9⟩
        go_wp2_with fail
        go_ret
        exact ⟨rfl, b9⟩
      · have e0 : decide ((0 : Int) < (ll : Int)) = false := decide_eq_false (by omega)
        go_wp2_with fail
        refine (wakes_any _).mono ?_
        rintro e w9 ⟨rfl, b9⟩
        go_wp2_with fail
        go_ret
        exact ⟨rfl, b9⟩
  · rw [hg] at G
    clear h hg
    go_enter Try.func3, Try.ntmps3
    go_wp2_with fail
    refine (G.out _).mono ?_
    rintro e w' ⟨rfl, rfl⟩
    go_wp2_with fail
    refine (wakes_any _).mono ?_
    rintro e w9 ⟨rfl, b9⟩
    go_wp2_with fail
    go_ret
    exact ⟨rfl, b9⟩
theorem plays_law (ca : Option Addr) (cl cc : Nat) (cz : List Int) (ka : Option Addr) (kl kc : Nat) (kz : List Int) (st : Bool) (la : Option Addr) (ll lc : Nat) (d t n v : Nat → Int) (W : World) (rc : IsRow .u8 W ca cl cc cz) (rk : IsRow .u8 W ka kl kc kz) (hl : Acts W la ll lc d t n v) :
    Calls Try.prog 3 #[.slice ca cl cc, .slice ka kl kc, .bool st, .slice la ll lc] W fun e w' => e = .returned (.bool true) ∧ Below W.heap.size W w' := by
  by_cases h : 256 < cl ∨ 16384 < kl ∨ greatP cl kl ll = true
  · exact plays_long ca cl cc ka kl kc st la ll lc W h hl.max hl.le
  · have h3 : greatP cl kl ll = false := by cases hg : greatP cl kl ll; rfl; exact absurd (.inr (.inr hg)) h
    unfold greatP at h3
    simp at h3
    exact plays_main ca cl cc _ ka kl kc _ st la ll lc d t n v W (src_of_isrow rc) (src_of_isrow rk) hl (by omega) (by omega) (by omega)
end Go.Proofs.Ytpbnmbeedjhloaa.Rm
