/-
  The walk of the law InstrReads.
-/
import Derived.Test.YtbpefomjmjkciaaInsZ
import Derived.Test.YtbpefomjmjkciaaRinH
import Derived.Test.YtbpefomjmjkciaaRinM
namespace Go.Proofs.Ytbpefomjmjkciaa.Ins
open Go.RowKit
set_option linter.unusedVariables false
set_option maxRecDepth 100000

theorem read_uu (a : Option Addr) (len cap : Nat) (f : Nat → Int) (W : World) (h : Byt W a len cap f) :
    ∃ y r, (∀ w, Below W.heap.size W w → Calls Try.prog 12 #[.slice a len cap] w (ReadsAs y r w)) ∧ (∀ w, Below W.heap.size W w → Calls Try.prog 13 #[.slice a len cap] w (ReadsAs y r w)) := by
  by_cases h8 : len = 8
  · subst h8
    refine ⟨(readI (getI f 8)).1, (readI (getI f 8)).2, fun w b => ?_, fun w b => ?_⟩
    · have h' := h.below b
      obtain ⟨b', o, rfl, hc⟩ := h'.here (by omega)
      exact read_8 b' o cap f w h'.le h'.fit h'.bd hc
    · have h' := h.below b
      obtain ⟨b', o, rfl, hc⟩ := h'.here (by omega)
      exact r_read_8 b' o cap f w h'.le h'.fit h'.bd hc
  · exact ⟨In.nil, 30, fun w b => read_no a len cap w h8 h.le h.fit, fun w b => r_read_no a len cap w h8 h.le h.fit⟩
def dC (len : Nat) (f : Nat → Int) : Int := if (decR len f).2 = 0 then getI f 2 else 0
def dM (len : Nat) (f : Nat → Int) : Nat := if (decR len f).2 = 0 then (len - 2) / 8 else 0
def dA (len : Nat) (f : Nat → Int) : Int := if (decR len f).2 = 0 then 0 else (decR len f).1
/-- What Decode yields, fixed by the bytes. -/
def DecV (len : Nat) (f : Nat → Int) (W : World) (e : Ending) (w' : World) : Prop :=
  ∃ a cap, e = .returned (.tuple #[.agg #[.int .i64 (dC len f), .slice a (dM len f) cap], .int .i64 (dA len f), .int .i64 (decR len f).2]) ∧ Insts w' a (dM len f) cap (xsI (tailF f)) ∧ Below W.heap.size W w'
theorem decV_of {len : Nat} {f : Nat → Int} {W : World} {e : Ending} {w' : World} (h : DecAs len f W e w') : DecV len f W e w' := by
  unfold DecV dC dM dA
  by_cases h0 : (decR len f).2 = 0
  · obtain ⟨q, cq, rfl, iq, b⟩ := h.2 h0
    rw [if_pos h0, if_pos h0, if_pos h0, h0]
    exact ⟨q, cq, rfl, iq, b⟩
  · obtain ⟨rfl, b⟩ := h.1 h0
    rw [if_neg h0, if_neg h0, if_neg h0]
    exact ⟨none, 0, rfl, ⟨Nat.le_refl _, by omega, fun h => absurd h (by omega), fun i h => absurd h (by omega)⟩, b⟩

set_option maxHeartbeats 8000000 in
theorem instrReads_walk (ab : Option Addr) (lb cb : Nat) (f : Nat → Int) (W : World) (hb : Byt W ab lb cb f) :
    Calls Try.prog 3 #[.slice ab lb cb] W fun e w' => e = .returned (.bool true) ∧ Below W.heap.size W w' := by
  have hbl := hb.le
  have hbf := hb.fit
  have WK := Lib.hid (fun w => wakes_any w)
  by_cases hg2 : 900 < lb
  · have g2 : (900 : Int) < (lb : Int) := by omega
    go_enter Try.func3, Try.ntmps3
    go_wp2_with fail
    refine (WK.out _).mono ?_
    rintro e w2 ⟨rfl, b2⟩
    go_wp2_with fail
    go_ret
    exact ⟨rfl, b2⟩
  have g2 : (lb : Int) ≤ 900 := by omega
  obtain ⟨y, r, R1, R2⟩ := read_uu ab lb cb f W hb
  have RA := Lib.hid R1
  have RB := Lib.hid R2
  have DA := Lib.hid (fun w b => (decode_any ab lb cb f w (hb.below (w := w) b)).mono fun _ _ => decV_of)
  have DB := Lib.hid (fun w b => (r_decode_any ab lb cb f w (hb.below (w := w) b)).mono fun _ _ => decV_of)
  unfold DecV at DA DB
  unfold ReadsAs at RA RB
  have EQ : ∀ w, (Op.equalIn 10000 26 (.agg y.cells) (.agg y.cells)).run Try.prog w = .ok true w := fun w => by rw [eq_run y y w, eqI_iff.2 rfl]
  have SM := Lib.hid (show ∀ c m, sameI c c m m (xsI (tailF f)) (xsI (tailF f)) = true from fun c m => sameI_iff.2 ⟨rfl, rfl, fun _ _ => rfl⟩)
  clear R1 R2 hb
  generalize dC lb f = c at *
  generalize dM lb f = m at *
  generalize dA lb f = da at *
  generalize (decR lb f).2 = dr at *
  generalize xsI (tailF f) = xs at *
  have s1 : (da == da) = true := by simp
  have s2 : (dr == dr) = true := by simp
  have s3 : (r == r) = true := by simp
  go_enter Try.func3, Try.ntmps3
  go_wp2_with fail
  refine (RA.out _ (Below.refl _ _)).mono ?_
  rintro e w1 ⟨rfl, b1⟩
  have B1 := Lib.hid b1
  clear b1 RA
  go_wp2_with (with_reducible refine (halt_store 26 _ _ rfl ?_))
  refine ⟨?_, trivial⟩
  refine wpList_store_is rfl 26 _ _ rfl w1.heap.size y.cells rfl rfl 26 _ (heap_last w1 _ _ rfl) info_ins rfl (one_cells y) ?_
  intro w2 q2
  have X2 := Lib.hid q2.row
  have B2 := Lib.hid (below_call B1.out (q2.below (below_new (Below.refl w1.heap.size w1) _) (Nat.le_refl _)))
  have hz2 : w1.heap.size < w2.heap.size := by rw [q2.size, size_alloc]; omega
  clear q2 B1
  generalize hN : w1.heap.size = N at *
  go_wp2_with fail
  refine (RB.out _ B2.out).mono ?_
  rintro e w3 ⟨rfl, b3⟩
  have B3 := Lib.hid (below_call B2.out b3)
  have X3 := Lib.hid ((b3.block N hz2).trans X2.out)
  have hz3 := b3.size
  clear b3 RB B2 X2
  go_wp2_with (with_reducible refine (halt_store 26 _ _ rfl ?_))
  refine ⟨?_, trivial⟩
  refine wpList_store_is rfl 26 _ _ rfl w3.heap.size y.cells rfl rfl 26 _ (heap_last w3 _ _ rfl) info_ins rfl (one_cells y) ?_
  intro w4 q4
  have b4 := q4.below (below_new (Below.refl w3.heap.size w3) _) (Nat.le_refl _)
  have Y4 := Lib.hid q4.row
  have B4 := Lib.hid (below_call B3.out b4)
  have X4 := Lib.hid ((b4.block N (by omega)).trans X3.out)
  have hz4 : w3.heap.size < w4.heap.size := by rw [q4.size, size_alloc]; omega
  clear q4 B3 b4 X3
  generalize hM : w3.heap.size = M at *
  go_wp2_with fail
  refine (DA.out _ B4.out).mono ?_
  rintro e w5 ⟨a5, c5, rfl, i5, b5⟩
  have b5' := below_call b5 (below_new (Below.refl w5.heap.size w5) (.cells #[.int .i64 c, .slice a5 m c5] 32))
  have B5 := Lib.hid (below_call B4.out b5')
  have X5 := Lib.hid ((b5'.block N (by omega)).trans X4.out)
  have Y5 := Lib.hid ((b5'.block M (by omega)).trans Y4.out)
  have I5 := Lib.hid (i5.below (below_new (Below.refl w5.heap.size w5) (.cells #[.int .i64 c, .slice a5 m c5] 32)))
  have P5 := Lib.hid (heap_last w5 (.cells #[.int .i64 c, .slice a5 m c5] 32) _ rfl)
  have hz5 := b5'.size
  clear b5 b5' i5 DA B4 X4 Y4
  go_wp2_with fail
  refine (DB.out _ B5.out).mono ?_
  rintro e w6 ⟨a6, c6, rfl, i6, b6⟩
  have hz6 := b6.size
  rw [size_alloc] at hz6
  have b6' := below_call b6 (below_new (Below.refl w6.heap.size w6) (.cells #[.int .i64 c, .slice a6 m c6] 32))
  have B6 := Lib.hid (below_call B5.out b6')
  have X6 := Lib.hid ((b6'.block N (by omega)).trans X5.out)
  have Y6 := Lib.hid ((b6'.block M (by omega)).trans Y5.out)
  have P6 := Lib.hid ((b6'.block w5.heap.size (by rw [size_alloc]; omega)).trans P5.out)
  have Q6 := Lib.hid (heap_last w6 (.cells #[.int .i64 c, .slice a6 m c6] 32) _ rfl)
  have I6 := Lib.hid (I5.out.below b6')
  have J6 := Lib.hid (i6.below (below_new (Below.refl w6.heap.size w6) (.cells #[.int .i64 c, .slice a6 m c6] 32)))
  clear b6 b6' i6 DB B5 X5 Y5 P5 I5
  have hw5 : w5.heap.size < w6.heap.size := by omega
  have p0 : (w6.alloc (.cells #[.int .i64 c, .slice a6 m c6] 32)).cell? ⟨w5.heap.size, 0, none⟩ = some (.int .i64 c) := by simp only [World.cell?, P6.out]; rfl
  have p1 : (w6.alloc (.cells #[.int .i64 c, .slice a6 m c6] 32)).cell? ⟨w5.heap.size, 1, none⟩ = some (.slice a5 m c5) := by simp only [World.cell?, P6.out]; rfl
  go_wp2_with (with_reducible refine (halt_load 26 _ rfl ?_))
  refine ⟨?_, trivial⟩
  refine wpList_load_row rfl 26 _ rfl N rfl _ y.cells _ _ X6.out Try.underlying26 rfl info_ins ?_
  go_wp2_with (with_reducible refine (halt_load 26 _ rfl ?_))
  refine ⟨?_, trivial⟩
  refine wpList_load_row rfl 26 _ rfl M rfl _ y.cells _ _ Y6.out Try.underlying26 rfl info_ins ?_
  go_wp2_with fail
  refine (r_same c a5 m c5 xs c a6 m c6 xs _ I6.out J6.out).mono ?_
  rw [SM.out]
  rintro e w7 ⟨rfl, b7⟩
  have B7 := Lib.hid (below_call B6.out b7)
  clear b7 B6 X6 Y6 P6 Q6 I6 J6 p0 p1 SM
  go_wp2_with fail
  refine (WK.out _).mono ?_
  rintro e w8 ⟨rfl, b8⟩
  go_wp2_with fail
  go_ret
  exact ⟨rfl, below_call B7.out b8⟩
theorem instrReads_law (ab : Option Addr) (lb cb : Nat) (zs : List Int) (W : World) (hb : IsRow .u8 W ab lb cb zs) :
    Calls Try.prog 3 #[.slice ab lb cb] W fun e w' => e = .returned (.bool true) ∧ Below W.heap.size W w' := by
  obtain ⟨f, h⟩ := byt_of hb
  exact instrReads_walk ab lb cb f W h
end Go.Proofs.Ytbpefomjmjkciaa.Ins
