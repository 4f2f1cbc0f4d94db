/-
  The walk of the law FlagsTurned. (Written by gen_flt.py.)
-/
import Derived.Test.YtllnengcmfgmhaaFlI
import Derived.WalkKit
import Derived.WalkSpells
import Derived.WalkLawsBesides
import Derived.Handy
import Derived.StillTailTactics
import Derived.Deep.RegionHeld3
import Derived.Deep.LoopGhost
import Derived.RegionTactic
import Derived.Deep.QuietTactic
import Derived.BigQuiet
import Derived.Test.YtllnengcmfgmhaaStore
namespace Go.Proofs.Ytllnengcmfgmhaa.Flg
open Go Go.RowKit
set_option linter.unusedVariables false
set_option linter.unusedSimpArgs false
set_option linter.unnecessarySimpa false
set_option maxRecDepth 100000

theorem below_boxed {W w' : World} {o : Obj} (h : Below (W.alloc o).heap.size (W.alloc o) w') : Below W.heap.size W w' := below_call (below_new (Below.refl _ _) _) h
/-- Flags in a block. -/
structure FlAt (g : Nat) (f : Fl) (w : World) : Prop where
  k : w.cell? ⟨g, 0, none⟩ = some (.bool f.k)
  c : w.cell? ⟨g, 1, none⟩ = some (.bool f.c)
  z : w.cell? ⟨g, 2, none⟩ = some (.bool f.z)
  s : w.cell? ⟨g, 3, none⟩ = some (.bool f.s)
  o : w.cell? ⟨g, 4, none⟩ = some (.bool f.o)
theorem lt_cell {w : World} {b o : Nat} {v : Value} (h : w.cell? ⟨b, o, none⟩ = some v) : b < w.heap.size := by
  rcases Nat.lt_or_ge b w.heap.size with h' | h'
  · exact h'
  · have : w.heap[b]? = none := Array.getElem?_eq_none h'
    simp [World.cell?, this] at h
theorem FlAt.below {g : Nat} {f : Fl} {w w' : World} (h : FlAt g f w) (b : Below w.heap.size w w') : FlAt g f w' :=
  ⟨(b.cell (lt_cell h.k)).trans h.k, (b.cell (lt_cell h.c)).trans h.c, (b.cell (lt_cell h.z)).trans h.z, (b.cell (lt_cell h.s)).trans h.s, (b.cell (lt_cell h.o)).trans h.o⟩
theorem FlAt.last (w : World) (f : Fl) : FlAt w.heap.size f (w.alloc (.cells (fC f) 25)) := by
  have h := heap_last w (.cells (fC f) 25) _ rfl
  constructor <;> (simp only [World.cell?, h]; rfl)
/-- A row of pairs of small numbers. -/
def PairsAt (g : Nat) (l : List (Int × Int)) (w : World) : Prop := ∀ k p, l[k]? = some p → w.cell? ⟨g, k * 2, none⟩ = some (.int .i8 p.1) ∧ w.cell? ⟨g, k * 2 + 1, none⟩ = some (.int .i8 p.2)
theorem PairsAt.below {g : Nat} {l : List (Int × Int)} {w w' : World} (h : PairsAt g l w) (b : Below w.heap.size w w') : PairsAt g l w' := fun k p e => ⟨(b.cell (lt_cell (h k p e).1)).trans (h k p e).1, (b.cell (lt_cell (h k p e).2)).trans (h k p e).2⟩
def turnL : List (Int × Int) := [(4, 4), (2, 7), (3, 6), (12, 15), (13, 14)]
theorem subF_t {w : Int} (hl : longB w = true) (a b : Int) : subF w a b = aftF w (subV w a b) (decide (cutI a w < cutI b w)) (overS w a b (subV w a b)) := if_pos hl
theorem sub_zero {w : Int} (hl : longB w = true) {a b : Int} (ha : 0 ≤ a ∧ a < 18446744073709551616) (hb : 0 ≤ b ∧ b < 18446744073709551616) : (subV w a b == 0) = (cutI a w == cutI b w) := by
  unfold subV
  rw [opI_1, Bool.eq_iff_iff, beq_iff_eq, beq_iff_eq]
  rcases longB_cases hl with rfl | rfl
  · rw [cutI_32, cutI_32, cutI_32]; omega
  · rw [cutI_64, cutI_64, cutI_64]; omega
/-- Behind a difference: the sign's bit against overflow is the order with the sign. -/
theorem sub_less {w : Int} (hl : longB w = true) {a b : Int} (ha : 0 ≤ a ∧ a < 18446744073709551616) (hb : 0 ≤ b ∧ b < 18446744073709551616) : (negB w (subV w a b) != overS w a b (subV w a b)) = decide (sgnI (cutI a w) w < sgnI (cutI b w) w) := by
  have na : negB w a = negB w (cutI a w) := (neg_cut hl a).symm
  have nb : negB w b = negB w (cutI b w) := (neg_cut hl b).symm
  have key : ∀ p q r : Bool, (r != ((p != q) && (r != p))) = if p = q then r else p := by decide
  unfold overS
  rw [key, na, nb]
  have e : subV w a b = cutI ((cutI a w - cutI b w) % 18446744073709551616) w := by unfold subV; rw [opI_1]
  rw [e]
  have ar : ((sgnI (cutI a w) w < 0 ↔ sgnI (cutI b w) w < 0) → (sgnI (cutI ((cutI a w - cutI b w) % 18446744073709551616) w) w < 0 ↔ sgnI (cutI a w) w < sgnI (cutI b w) w)) ∧ (¬ (sgnI (cutI a w) w < 0 ↔ sgnI (cutI b w) w < 0) → (sgnI (cutI a w) w < 0 ↔ sgnI (cutI a w) w < sgnI (cutI b w) w)) := by
    clear key na nb e
    rcases longB_cases hl with rfl | rfl
    · rw [cutI_32, cutI_32, cutI_32, sgn_32, sgn_32, sgn_32]
      constructor <;> intro h <;> omega
    · rw [cutI_64, cutI_64, cutI_64, sgn_64, sgn_64, sgn_64]
      constructor <;> intro h <;> omega
  unfold negB
  clear e key na nb
  generalize sgnI (cutI a w) w = x at *
  generalize sgnI (cutI b w) w = y at *
  generalize sgnI (cutI ((cutI a w - cutI b w) % 18446744073709551616) w) w = r at *
  by_cases p : x < 0 <;> by_cases q : y < 0 <;> by_cases s : r < 0 <;> by_cases u : x < y <;> simp [p, q, s, u] at ar ⊢
theorem sgn_inj {w : Int} (hl : longB w = true) {a b : Int} (ha : 0 ≤ a ∧ a < 18446744073709551616) (hb : 0 ≤ b ∧ b < 18446744073709551616) : cutI a w = cutI b w ↔ sgnI (cutI a w) w = sgnI (cutI b w) w := by
  rcases longB_cases hl with rfl | rfl
  · simp only [cutI_32, sgn_32]; omega
  · simp only [cutI_64, sgn_64]; omega
/-- What the ten conditions say behind a difference. -/
def cmpB (cc w a b : Int) : Bool :=
  if cc = 2 then decide (cutI a w < cutI b w) else if cc = 3 then decide (cutI b w ≤ cutI a w) else if cc = 4 then cutI a w == cutI b w else if cc = 5 then cutI a w != cutI b w
  else if cc = 6 then decide (cutI a w ≤ cutI b w) else if cc = 7 then decide (cutI b w < cutI a w)
  else if cc = 12 then decide (sgnI (cutI a w) w < sgnI (cutI b w) w) else if cc = 13 then decide (sgnI (cutI b w) w ≤ sgnI (cutI a w) w)
  else if cc = 14 then decide (sgnI (cutI a w) w ≤ sgnI (cutI b w) w) else decide (sgnI (cutI b w) w < sgnI (cutI a w) w)
theorem hol_cmp {w : Int} (hl : longB w = true) {a b : Int} (ha : 0 ≤ a ∧ a < 18446744073709551616) (hb : 0 ≤ b ∧ b < 18446744073709551616) {cc : Int} (hm : mayC cc = true) : holF cc (subF w a b) = cmpB cc w a b := by
  have z := sub_zero hl ha hb
  have l := sub_less hl ha hb
  have i := sgn_inj hl ha hb
  have e : holF cc (subF w a b) = ccF cc (subF w a b) := if_pos ⟨hm, by rw [subF_t hl]; rfl⟩
  rw [e, subF_t hl]
  unfold aftF ccF cmpB
  simp only [z]
  generalize negB w (subV w a b) = s at *
  generalize overS w a b (subV w a b) = o at *
  generalize sgnI (cutI a w) w = x at *
  generalize sgnI (cutI b w) w = y at *
  generalize cutI a w = u at *
  generalize cutI b w = v at *
  have l2 : (s == o) = !decide (x < y) := by rw [← l]; cases s <;> cases o <;> rfl
  rw [l, l2]
  rcases may_cases hm with rfl | rfl | rfl | rfl | rfl | rfl | rfl | rfl | rfl | rfl <;> simp only [↓reduceIte, Int.reduceEq]
  all_goals (rw [Bool.eq_iff_iff]; simp; try omega)
theorem holE_sub {w : Int} (hl : longB w = true) (a b : Int) {cc : Int} (hm : mayC cc = true) : holE cc (subF w a b) = 0 := by
  unfold holE
  rw [if_pos hm, subF_t hl]
  rfl
theorem turn_end {w : Int} (hl : longB w = true) {a b : Int} (ha : 0 ≤ a ∧ a < 18446744073709551616) (hb : 0 ≤ b ∧ b < 18446744073709551616) : ((subF w a b).z == (subF w b a).z) = true ∧ ((subF w a b).c = true → (subF w b a).c = false) := by
  rw [subF_t hl, subF_t hl]
  unfold aftF
  simp only [sub_zero hl ha hb, sub_zero hl hb ha]
  constructor
  · rw [beq_iff_eq, Bool.eq_iff_iff, beq_iff_eq, beq_iff_eq]; omega
  · intro h
    rw [decide_eq_true_iff] at h
    rw [decide_eq_false_iff_not]
    omega
theorem pairs_last (w : World) : PairsAt w.heap.size turnL (w.alloc (.cells #[.int .i8 4, .int .i8 4, .int .i8 2, .int .i8 7, .int .i8 3, .int .i8 6, .int .i8 12, .int .i8 15, .int .i8 13, .int .i8 14] 39)) := by
  have h := heap_last w (.cells #[.int .i8 4, .int .i8 4, .int .i8 2, .int .i8 7, .int .i8 3, .int .i8 6, .int .i8 12, .int .i8 15, .int .i8 13, .int .i8 14] 39) _ rfl
  intro k p e
  have hk : k < 5 := (List.getElem?_eq_some_iff.1 e).1
  have : k = 0 ∨ k = 1 ∨ k = 2 ∨ k = 3 ∨ k = 4 := by omega
  rcases this with rfl | rfl | rfl | rfl | rfl <;> (cases e; simp only [World.cell?, h]; exact ⟨rfl, rfl⟩)
theorem turn_at {w : Int} (hl : longB w = true) {a b : Int} (k : Nat) (hk : k < 5) (ha : 0 ≤ a ∧ a < 18446744073709551616) (hb : 0 ≤ b ∧ b < 18446744073709551616) : ∃ p q, turnL[k]? = some (p, q) ∧ p ≤ 127 ∧ q ≤ 127 ∧ (holE p (subF w a b) = 0 ∧ holE q (subF w b a) = 0 ∧ holF p (subF w a b) = holF q (subF w b a)) := by
  have : k = 0 ∨ k = 1 ∨ k = 2 ∨ k = 3 ∨ k = 4 := by omega
  rcases this with rfl | rfl | rfl | rfl | rfl
  all_goals (
    refine ⟨_, _, rfl, by decide, by decide, holE_sub hl a b rfl, holE_sub hl b a rfl, ?_⟩
    rw [hol_cmp hl ha hb rfl, hol_cmp hl hb ha rfl]
    try rfl)
  show (cutI a w == cutI b w) = (cutI b w == cutI a w)
  rw [Bool.eq_iff_iff, beq_iff_eq, beq_iff_eq]
  omega
set_option maxHeartbeats 4000000 in
theorem turned_32 (a b : Int) (W : World) (ha : 0 ≤ a ∧ a < 18446744073709551616) (hb : 0 ≤ b ∧ b < 18446744073709551616) :
    Calls Try.prog 7 #[.bool false, .int .u64 a, .int .u64 b] W fun e w' => e = .returned (.bool true) ∧ Below W.heap.size W w' := by
  have S1 := Lib.hid (fun W => sub_n 32 a b W ha hb)
  have S2 := Lib.hid (fun W => sub_n 32 b a W hb ha)
  have WK := Lib.hid wakes_n
  have HA := Lib.hid ha
  have HB := Lib.hid hb
  clear ha hb
  go_enter Try.func7, Try.ntmps7
  go_wp2_with fail
  refine (S1.out _).mono ?_
  rintro e w1 ⟨rfl, b1⟩
  have B1 := Lib.hid b1
  clear b1
  go_wp2_with fail
  refine (S2.out _).mono ?_
  rintro e w2 ⟨rfl, b2⟩
  have A1 := Lib.hid ((FlAt.last w1 (subF 32 a b)).below b2)
  have B2 := Lib.hid (below_call B1.out (below_boxed b2))
  clear b2
  go_wp2_with fail
  have A2 := Lib.hid ((A1.out.below (below_new (Below.refl _ _) (.cells (fC (subF 32 b a)) 25))).below (below_new (Below.refl _ _) (.cells #[.int .i8 4, .int .i8 4, .int .i8 2, .int .i8 7, .int .i8 3, .int .i8 6, .int .i8 12, .int .i8 15, .int .i8 13, .int .i8 14] 39)))
  have C2 := Lib.hid ((FlAt.last w2 (subF 32 b a)).below (below_new (Below.refl _ _) (.cells #[.int .i8 4, .int .i8 4, .int .i8 2, .int .i8 7, .int .i8 3, .int .i8 6, .int .i8 12, .int .i8 15, .int .i8 13, .int .i8 14] 39)))
  have P2 := Lib.hid (pairs_last (w2.alloc (.cells (fC (subF 32 b a)) 25)))
  have B3 := Lib.hid (below_new (below_new B2.out (.cells (fC (subF 32 b a)) 25)) (.cells #[.int .i8 4, .int .i8 4, .int .i8 2, .int .i8 7, .int .i8 3, .int .i8 6, .int .i8 12, .int .i8 15, .int .i8 13, .int .i8 14] 39))
  have sz := size_alloc w2 (.cells (fC (subF 32 b a)) 25)
  rw [sz] at P2
  generalize (w2.alloc (.cells (fC (subF 32 b a)) 25)).alloc (.cells #[.int .i8 4, .int .i8 4, .int .i8 2, .int .i8 7, .int .i8 3, .int .i8 6, .int .i8 12, .int .i8 15, .int .i8 13, .int .i8 14] 39) = w3 at *
  clear sz
  generalize w1.heap.size = gf at *
  generalize w2.heap.size = gg at *
  go_loopw [13] (fun i wr => ∃ k : Nat, k ≤ 5 ∧ i = .int .i64 k ∧ Below w3.heap.size w3 wr) (fun i _ => 5 - (intOf i).toNat)
  case atStart => exact ⟨0, by omega, rfl, Below.refl _ _⟩
  case round =>
    obtain ⟨k, hk, rfl, hB⟩ := hrel
    have HBB := Lib.hid hB
    clear hB
    by_cases hlt : k < 5
    · obtain ⟨p, q, hp, m1, m2, tf⟩ : ∃ p q, turnL[k]? = some (p, q) ∧ p ≤ 127 ∧ q ≤ 127 ∧ (holE p (subF 32 a b) = 0 ∧ holE q (subF 32 b a) = 0 ∧ holF p (subF 32 a b) = holF q (subF 32 b a)) := turn_at rfl k hlt HA.out HB.out
      obtain ⟨t1, t2, t3⟩ := tf
      have HD1 := Lib.hid (fun W => holds_n p (subF 32 a b) W m1)
      have HD2 := Lib.hid (fun W => holds_n q (subF 32 b a) W m2)
      rw [t1] at HD1
      rw [t2, ← t3] at HD2
      clear t1 t2 t3 m1 m2
      obtain ⟨k1, k2⟩ := (P2.out.below HBB.out) k _ hp
      obtain ⟨f0, f1, f2, f3, f4⟩ := A2.out.below HBB.out
      obtain ⟨h0, h1, h2, h3, h4⟩ := C2.out.below HBB.out
      clear hp
      go_wp2_with fail
      have KS := Lib.hid (fun w' (bq : Below wr.heap.size wr w') => show w'.cell? ⟨gg + 1, k * 2, none⟩ = some (.int .i8 p) ∧ w'.cell? ⟨gf, 0, none⟩ = some (.bool (subF 32 a b).k) ∧ w'.cell? ⟨gf, 1, none⟩ = some (.bool (subF 32 a b).c) ∧ w'.cell? ⟨gf, 2, none⟩ = some (.bool (subF 32 a b).z) ∧ w'.cell? ⟨gf, 3, none⟩ = some (.bool (subF 32 a b).s) ∧ w'.cell? ⟨gf, 4, none⟩ = some (.bool (subF 32 a b).o) ∧ Below wr.heap.size wr w' from by obtain ⟨q0, q1, q2, q3, q4⟩ := FlAt.below ⟨f0, f1, f2, f3, f4⟩ bq; exact ⟨(bq.cell (lt_cell k1)).trans k1, q0, q1, q2, q3, q4, bq⟩)
      go_region_held3 (fun w' => w'.cell? ⟨gg + 1, k * 2, none⟩ = some (.int .i8 p) ∧ w'.cell? ⟨gf, 0, none⟩ = some (.bool (subF 32 a b).k) ∧ w'.cell? ⟨gf, 1, none⟩ = some (.bool (subF 32 a b).c) ∧ w'.cell? ⟨gf, 2, none⟩ = some (.bool (subF 32 a b).z) ∧ w'.cell? ⟨gf, 3, none⟩ = some (.bool (subF 32 a b).s) ∧ w'.cell? ⟨gf, 4, none⟩ = some (.bool (subF 32 a b).o) ∧ Below wr.heap.size wr w') ((go_split_ands; refine KS.out _ ?_; repeat' (first | assumption | exact Below.refl _ _ | apply Below.drew | apply below_new | refine below_call ?_ (by assumption)))) (first | (go_at_call 18; refine (HD1.out _).mono ?_; rintro e w9 ⟨rfl, b9⟩))
      all_goals (
        have Q1 := Lib.hid (below_call (Below.drew (Below.refl wr.heap.size wr)) b9)
        clear b9 f0 f1 f2 f3 f4 KS k1
        have l2 := (Q1.out.cell (lt_cell k2)).trans k2
        obtain ⟨f0, f1, f2, f3, f4⟩ := FlAt.below ⟨h0, h1, h2, h3, h4⟩ Q1.out
        clear k2 h0 h1 h2 h3 h4
        go_wp2_with fail
        have KS := Lib.hid (fun w' (bq : Below w9.heap.size w9 w') => show w'.cell? ⟨gg + 1, k * 2 + 1, none⟩ = some (.int .i8 q) ∧ w'.cell? ⟨gg, 0, none⟩ = some (.bool (subF 32 b a).k) ∧ w'.cell? ⟨gg, 1, none⟩ = some (.bool (subF 32 b a).c) ∧ w'.cell? ⟨gg, 2, none⟩ = some (.bool (subF 32 b a).z) ∧ w'.cell? ⟨gg, 3, none⟩ = some (.bool (subF 32 b a).s) ∧ w'.cell? ⟨gg, 4, none⟩ = some (.bool (subF 32 b a).o) ∧ Below w9.heap.size w9 w' from by obtain ⟨q0, q1, q2, q3, q4⟩ := FlAt.below ⟨f0, f1, f2, f3, f4⟩ bq; exact ⟨(bq.cell (lt_cell l2)).trans l2, q0, q1, q2, q3, q4, bq⟩)
        go_region_held3 (fun w' => w'.cell? ⟨gg + 1, k * 2 + 1, none⟩ = some (.int .i8 q) ∧ w'.cell? ⟨gg, 0, none⟩ = some (.bool (subF 32 b a).k) ∧ w'.cell? ⟨gg, 1, none⟩ = some (.bool (subF 32 b a).c) ∧ w'.cell? ⟨gg, 2, none⟩ = some (.bool (subF 32 b a).z) ∧ w'.cell? ⟨gg, 3, none⟩ = some (.bool (subF 32 b a).s) ∧ w'.cell? ⟨gg, 4, none⟩ = some (.bool (subF 32 b a).o) ∧ Below w9.heap.size w9 w') ((go_split_ands; refine KS.out _ ?_; repeat' (first | assumption | exact Below.refl _ _ | apply Below.drew | apply below_new | refine below_call ?_ (by assumption)))) (first | (go_at_call 18; refine (HD2.out _).mono ?_; rintro e w8 ⟨rfl, b8⟩))
        all_goals (
          have Q2 := Lib.hid (below_call Q1.out (below_call (Below.drew (Below.refl w9.heap.size w9)) b8))
          clear b8 f0 f1 f2 f3 f4 KS l2
          go_wp2_with fail
          go_roundw
          case rel => exact ⟨k + 1, by omega, by go_num, below_call HBB.out Q2.out⟩
          case measure => simp [intOf]; omega))
    · obtain rfl : k = 5 := by omega
      obtain ⟨f0, f1, f2, f3, f4⟩ := A2.out.below HBB.out
      obtain ⟨h0, h1, h2, h3, h4⟩ := C2.out.below HBB.out
      obtain ⟨z1, z2⟩ := turn_end (w := 32) rfl HA.out HB.out
      generalize (subF 32 a b).z = za at *
      generalize (subF 32 b a).z = zb at *
      generalize (subF 32 a b).c = ca at *
      generalize (subF 32 b a).c = cb at *
      rcases (show ca = false ∨ (ca = true ∧ cb = false) by cases ca <;> simp_all) with rfl | ⟨rfl, rfl⟩
      all_goals (
        go_wp2_with fail
        refine (WK.out _).mono ?_
        rintro e w8 ⟨rfl, b8⟩
        go_wp2_with fail
        go_ret
        exact ⟨rfl, below_call B3.out (below_call HBB.out b8)⟩)
set_option maxHeartbeats 4000000 in
theorem turned_64 (a b : Int) (W : World) (ha : 0 ≤ a ∧ a < 18446744073709551616) (hb : 0 ≤ b ∧ b < 18446744073709551616) :
    Calls Try.prog 7 #[.bool true, .int .u64 a, .int .u64 b] W fun e w' => e = .returned (.bool true) ∧ Below W.heap.size W w' := by
  have S1 := Lib.hid (fun W => sub_n 64 a b W ha hb)
  have S2 := Lib.hid (fun W => sub_n 64 b a W hb ha)
  have WK := Lib.hid wakes_n
  have HA := Lib.hid ha
  have HB := Lib.hid hb
  clear ha hb
  go_enter Try.func7, Try.ntmps7
  go_wp2_with fail
  refine (S1.out _).mono ?_
  rintro e w1 ⟨rfl, b1⟩
  have B1 := Lib.hid b1
  clear b1
  go_wp2_with fail
  refine (S2.out _).mono ?_
  rintro e w2 ⟨rfl, b2⟩
  have A1 := Lib.hid ((FlAt.last w1 (subF 64 a b)).below b2)
  have B2 := Lib.hid (below_call B1.out (below_boxed b2))
  clear b2
  go_wp2_with fail
  have A2 := Lib.hid ((A1.out.below (below_new (Below.refl _ _) (.cells (fC (subF 64 b a)) 25))).below (below_new (Below.refl _ _) (.cells #[.int .i8 4, .int .i8 4, .int .i8 2, .int .i8 7, .int .i8 3, .int .i8 6, .int .i8 12, .int .i8 15, .int .i8 13, .int .i8 14] 39)))
  have C2 := Lib.hid ((FlAt.last w2 (subF 64 b a)).below (below_new (Below.refl _ _) (.cells #[.int .i8 4, .int .i8 4, .int .i8 2, .int .i8 7, .int .i8 3, .int .i8 6, .int .i8 12, .int .i8 15, .int .i8 13, .int .i8 14] 39)))
  have P2 := Lib.hid (pairs_last (w2.alloc (.cells (fC (subF 64 b a)) 25)))
  have B3 := Lib.hid (below_new (below_new B2.out (.cells (fC (subF 64 b a)) 25)) (.cells #[.int .i8 4, .int .i8 4, .int .i8 2, .int .i8 7, .int .i8 3, .int .i8 6, .int .i8 12, .int .i8 15, .int .i8 13, .int .i8 14] 39))
  have sz := size_alloc w2 (.cells (fC (subF 64 b a)) 25)
  rw [sz] at P2
  generalize (w2.alloc (.cells (fC (subF 64 b a)) 25)).alloc (.cells #[.int .i8 4, .int .i8 4, .int .i8 2, .int .i8 7, .int .i8 3, .int .i8 6, .int .i8 12, .int .i8 15, .int .i8 13, .int .i8 14] 39) = w3 at *
  clear sz
  generalize w1.heap.size = gf at *
  generalize w2.heap.size = gg at *
  go_loopw [13] (fun i wr => ∃ k : Nat, k ≤ 5 ∧ i = .int .i64 k ∧ Below w3.heap.size w3 wr) (fun i _ => 5 - (intOf i).toNat)
  case atStart => exact ⟨0, by omega, rfl, Below.refl _ _⟩
  case round =>
    obtain ⟨k, hk, rfl, hB⟩ := hrel
    have HBB := Lib.hid hB
    clear hB
    by_cases hlt : k < 5
    · obtain ⟨p, q, hp, m1, m2, tf⟩ : ∃ p q, turnL[k]? = some (p, q) ∧ p ≤ 127 ∧ q ≤ 127 ∧ (holE p (subF 64 a b) = 0 ∧ holE q (subF 64 b a) = 0 ∧ holF p (subF 64 a b) = holF q (subF 64 b a)) := turn_at rfl k hlt HA.out HB.out
      obtain ⟨t1, t2, t3⟩ := tf
      have HD1 := Lib.hid (fun W => holds_n p (subF 64 a b) W m1)
      have HD2 := Lib.hid (fun W => holds_n q (subF 64 b a) W m2)
      rw [t1] at HD1
      rw [t2, ← t3] at HD2
      clear t1 t2 t3 m1 m2
      obtain ⟨k1, k2⟩ := (P2.out.below HBB.out) k _ hp
      obtain ⟨f0, f1, f2, f3, f4⟩ := A2.out.below HBB.out
      obtain ⟨h0, h1, h2, h3, h4⟩ := C2.out.below HBB.out
      clear hp
      go_wp2_with fail
      have KS := Lib.hid (fun w' (bq : Below wr.heap.size wr w') => show w'.cell? ⟨gg + 1, k * 2, none⟩ = some (.int .i8 p) ∧ w'.cell? ⟨gf, 0, none⟩ = some (.bool (subF 64 a b).k) ∧ w'.cell? ⟨gf, 1, none⟩ = some (.bool (subF 64 a b).c) ∧ w'.cell? ⟨gf, 2, none⟩ = some (.bool (subF 64 a b).z) ∧ w'.cell? ⟨gf, 3, none⟩ = some (.bool (subF 64 a b).s) ∧ w'.cell? ⟨gf, 4, none⟩ = some (.bool (subF 64 a b).o) ∧ Below wr.heap.size wr w' from by obtain ⟨q0, q1, q2, q3, q4⟩ := FlAt.below ⟨f0, f1, f2, f3, f4⟩ bq; exact ⟨(bq.cell (lt_cell k1)).trans k1, q0, q1, q2, q3, q4, bq⟩)
      go_region_held3 (fun w' => w'.cell? ⟨gg + 1, k * 2, none⟩ = some (.int .i8 p) ∧ w'.cell? ⟨gf, 0, none⟩ = some (.bool (subF 64 a b).k) ∧ w'.cell? ⟨gf, 1, none⟩ = some (.bool (subF 64 a b).c) ∧ w'.cell? ⟨gf, 2, none⟩ = some (.bool (subF 64 a b).z) ∧ w'.cell? ⟨gf, 3, none⟩ = some (.bool (subF 64 a b).s) ∧ w'.cell? ⟨gf, 4, none⟩ = some (.bool (subF 64 a b).o) ∧ Below wr.heap.size wr w') ((go_split_ands; refine KS.out _ ?_; repeat' (first | assumption | exact Below.refl _ _ | apply Below.drew | apply below_new | refine below_call ?_ (by assumption)))) (first | (go_at_call 18; refine (HD1.out _).mono ?_; rintro e w9 ⟨rfl, b9⟩))
      all_goals (
        have Q1 := Lib.hid (below_call (Below.drew (Below.refl wr.heap.size wr)) b9)
        clear b9 f0 f1 f2 f3 f4 KS k1
        have l2 := (Q1.out.cell (lt_cell k2)).trans k2
        obtain ⟨f0, f1, f2, f3, f4⟩ := FlAt.below ⟨h0, h1, h2, h3, h4⟩ Q1.out
        clear k2 h0 h1 h2 h3 h4
        go_wp2_with fail
        have KS := Lib.hid (fun w' (bq : Below w9.heap.size w9 w') => show w'.cell? ⟨gg + 1, k * 2 + 1, none⟩ = some (.int .i8 q) ∧ w'.cell? ⟨gg, 0, none⟩ = some (.bool (subF 64 b a).k) ∧ w'.cell? ⟨gg, 1, none⟩ = some (.bool (subF 64 b a).c) ∧ w'.cell? ⟨gg, 2, none⟩ = some (.bool (subF 64 b a).z) ∧ w'.cell? ⟨gg, 3, none⟩ = some (.bool (subF 64 b a).s) ∧ w'.cell? ⟨gg, 4, none⟩ = some (.bool (subF 64 b a).o) ∧ Below w9.heap.size w9 w' from by obtain ⟨q0, q1, q2, q3, q4⟩ := FlAt.below ⟨f0, f1, f2, f3, f4⟩ bq; exact ⟨(bq.cell (lt_cell l2)).trans l2, q0, q1, q2, q3, q4, bq⟩)
        go_region_held3 (fun w' => w'.cell? ⟨gg + 1, k * 2 + 1, none⟩ = some (.int .i8 q) ∧ w'.cell? ⟨gg, 0, none⟩ = some (.bool (subF 64 b a).k) ∧ w'.cell? ⟨gg, 1, none⟩ = some (.bool (subF 64 b a).c) ∧ w'.cell? ⟨gg, 2, none⟩ = some (.bool (subF 64 b a).z) ∧ w'.cell? ⟨gg, 3, none⟩ = some (.bool (subF 64 b a).s) ∧ w'.cell? ⟨gg, 4, none⟩ = some (.bool (subF 64 b a).o) ∧ Below w9.heap.size w9 w') ((go_split_ands; refine KS.out _ ?_; repeat' (first | assumption | exact Below.refl _ _ | apply Below.drew | apply below_new | refine below_call ?_ (by assumption)))) (first | (go_at_call 18; refine (HD2.out _).mono ?_; rintro e w8 ⟨rfl, b8⟩))
        all_goals (
          have Q2 := Lib.hid (below_call Q1.out (below_call (Below.drew (Below.refl w9.heap.size w9)) b8))
          clear b8 f0 f1 f2 f3 f4 KS l2
          go_wp2_with fail
          go_roundw
          case rel => exact ⟨k + 1, by omega, by go_num, below_call HBB.out Q2.out⟩
          case measure => simp [intOf]; omega))
    · obtain rfl : k = 5 := by omega
      obtain ⟨f0, f1, f2, f3, f4⟩ := A2.out.below HBB.out
      obtain ⟨h0, h1, h2, h3, h4⟩ := C2.out.below HBB.out
      obtain ⟨z1, z2⟩ := turn_end (w := 64) rfl HA.out HB.out
      generalize (subF 64 a b).z = za at *
      generalize (subF 64 b a).z = zb at *
      generalize (subF 64 a b).c = ca at *
      generalize (subF 64 b a).c = cb at *
      rcases (show ca = false ∨ (ca = true ∧ cb = false) by cases ca <;> simp_all) with rfl | ⟨rfl, rfl⟩
      all_goals (
        go_wp2_with fail
        refine (WK.out _).mono ?_
        rintro e w8 ⟨rfl, b8⟩
        go_wp2_with fail
        go_ret
        exact ⟨rfl, below_call B3.out (below_call HBB.out b8)⟩)
theorem turned_law (wide : Bool) (a b : Int) (W : World) (ha : (Lit.int .u64 a).wf = true) (hb : (Lit.int .u64 b).wf = true) : Calls Try.prog 7 #[.bool wide, .int .u64 a, .int .u64 b] W fun e w' => e = .returned (.bool true) ∧ Below W.heap.size W w' := by
  cases wide
  · exact turned_32 a b W (bd_u64 ha) (bd_u64 hb)
  · exact turned_64 a b W (bd_u64 ha) (bd_u64 hb)
end Go.Proofs.Ytllnengcmfgmhaa.Flg
