/-
  Package blocks: successors.
-/
import Derived.Test.YtbpefomjmjkciaaBlkA
import Derived.Great.BuildSlice
namespace Go.Proofs.Ytbpefomjmjkciaa.Blk
open Go.RowKit Go.Maps Go.Sort Ins
set_option linter.unusedVariables false

/-- A row of numbers that can be read. -/
structure IntsAt (W : World) (a : Option Addr) (len cap : Nat) (zs : List Int) : Prop where
  size : len = zs.length
  le : len ≤ cap
  fit : cap ≤ 9223372036854775807
  here : 0 < len → ∃ b o, a = some ⟨b, o, none⟩ ∧ ∀ j z, zs[j]? = some z → W.cell? ⟨b, o + j, none⟩ = some (.int .i64 z)

theorem IntsAt.below {W w : World} {a : Option Addr} {len cap : Nat} {zs : List Int} (h : IntsAt W a len cap zs) (b : Below W.heap.size W w) : IntsAt w a len cap zs :=
  ⟨h.size, h.le, h.fit, fun hp => by
    obtain ⟨b', o, e, hc⟩ := h.here hp
    exact ⟨b', o, e, fun j z hz => (b.cell (p := ⟨b', o + j, none⟩) (lt_of_cell (hc j z hz))).trans (hc j z hz)⟩⟩

def NextOf (s : Sh) (n i : Nat) (W : World) (e : Ending) (w' : World) : Prop :=
  ∃ na nc, e = .returned (.slice na (nextL s n i).length nc) ∧ IntsAt w' na (nextL s n i).length nc (nextL s n i) ∧ (∀ a, na = some a → W.heap.size ≤ a.block ∧ a.block < w'.heap.size) ∧ Below W.heap.size W w'

theorem look {D : DataW Unit} {f : Int → Bool} {g : Int → Int} (h : Nums D f g) {z c : Int} (hz : f z = true) (hc : D.atKey (.int .i64 z) (.lit (.int .i64 0)) = .lit (.int .i64 c)) : c = g z := by
  rw [h.vals z hz] at hc
  injection hc with hc; injection hc with _ hc; exact hc.symm

theorem next_mk {s : Sh} {n i : Nat} {W w' : World} {na : Option Addr} {nc : Nat} {zs : List Int} (h : nextL s n i = zs) (h1 : IntsAt w' na zs.length nc zs) (h2 : ∀ a, na = some a → W.heap.size ≤ a.block ∧ a.block < w'.heap.size) (h3 : Below W.heap.size W w') :
    NextOf s n i W (.returned (.slice na zs.length nc)) w' := by
  subst h; exact ⟨na, nc, rfl, h1, h2, h3⟩
theorem ints_alloc (w : World) (zs : List Int) (t : TypeId) (h : zs.length ≤ 64) : IntsAt (w.alloc (.cells (zs.map (Value.int .i64)).toArray t)) (some ⟨w.heap.size, 0, none⟩) zs.length zs.length zs :=
  ⟨rfl, Nat.le_refl _, by omega, fun _ => ⟨_, _, rfl, fun j z hz => by
    have := heap_last w (.cells (zs.map (Value.int .i64)).toArray t) _ rfl
    simp only [World.cell?]
    rw [this]
    simp [hz]⟩⟩
theorem zero_int (w : World) : (zeroValue 3).run Try.prog w = .ok (.int .i64 0) w := by kernel_rfl

set_option maxRecDepth 100000 in
set_option maxHeartbeats 4000000 in
theorem successors_any (i n : Nat) (xs : Nat → In) (b N : Nat) (D : DataW Unit) (W : World) (hi : i < n) (h64 : n ≤ 64) (h4j : (xs i).kind = 4 → jumpsI i (xs i) = true) (hbeg : begB (sh xs) n ((i : Int) + 1) = true) (hF : Fine (sh xs) n) (own : W.ownsMap Try.prog 3 (plainElem (H := Unit) Try.prog 3) b N D) (hN : Nums D (begB (sh xs) n) (num (sh xs) n)) :
    Calls Try.prog 89 #[.int .i64 i, .agg (xs i).cells, .map (some b)] W (NextOf (sh xs) n i W) := by
  have OW := Lib.hid own; clear own
  have NU := Lib.hid hN; clear hN
  have FN := Lib.hid hF; clear hF
  have HB := Lib.hid hbeg; clear hbeg
  have T := Lib.hid (fun W => target_any i (xs i) W)
  have HK := Lib.hid (show (xs i).cells[0]? = some (.int .i8 (xs i).kind) from rfl)
  have i9 : (Try.prog.info? 26).map (·.size) = some (xs i).cells.size := info_ins
  have HI := Lib.hid i9; clear i9
  have HC := Lib.hid (show (sh xs).cond i = decide ((xs i).kind = 3) from rfl)
  have HE := Lib.hid (show (sh xs).exit i = decide ((xs i).kind = 6) from rfl)
  have HJ := Lib.hid (show (sh xs).jumps i = jumpsI i (xs i) from rfl)
  have HT := Lib.hid (show (sh xs).to i = targetI i (xs i) from rfl)
  have HJ2 := Lib.hid (show jumpsI i (xs i) = true → (xs i).kind = 3 ∨ (xs i).kind = 4 from fun h => by unfold jumpsI at h; simp at h; exact h.1.1)
  rw [← show (sh xs).jumps i = jumpsI i (xs i) from rfl] at h4j
  generalize sh xs = s at *
  rw [← HJ.out, ← HT.out] at T
  rw [← HJ.out] at HJ2
  clear HJ HT
  generalize (xs i).kind = kd at *
  generalize (xs i).cells = cc at *
  have hcase : kd = 3 ∨ kd = 4 ∨ kd = 6 ∨ (¬ kd = 3 ∧ ¬ kd = 4 ∧ ¬ kd = 6) := by omega
  rcases hcase with rfl | rfl | rfl | ⟨h3, h4, h6⟩
  · have hc : s.cond i = true := HC.out
    obtain ⟨hj, hl⟩ := FN.out.cond i hi hc
    obtain ⟨t0, t1⟩ := FN.out.to i hi hj
    have G1 := Lib.hid (begB_to s hi hj)
    have G2 := Lib.hid (begB_behind s hi (.inl hj))
    have HX := Lib.hid (show nextL s n i = [num s n (s.to i), num s n ((i : Int) + 1)] by unfold nextL; rw [if_pos hc])
    clear hc hj
    generalize s.to i = t at *
    go_enter Try.func89, Try.ntmps89
    go_wp2_with (refine (halt_load 26 _ rfl ?_))
    refine ⟨?_, trivial⟩
    refine wpList_load_row rfl 26 _ rfl W.heap.size rfl _ cc _ _ (heap_last _ _ _ rfl) Try.underlying26 rfl HI.out ?_
    go_wp2_with fail
    refine (T.out _).mono ?_
    rintro e w1 ⟨rfl, b1⟩
    have R1 := Lib.hid ((b1.block W.heap.size (by simp)).trans (heap_last W (.cells cc 26) _ rfl))
    have O1 := Lib.hid (owns_below_map (OW.out.alloc _) b1)
    have B1 := Lib.hid (below_call (below_new (Below.refl _ W) (.cells cc 26)) b1)
    have hkc : w1.cell? ⟨W.heap.size, 0, none⟩ = some (.int .i8 3) := by simp only [World.cell?, R1.out]; exact HK.out
    clear b1
    go_wp2_with (refine (halt_lookup 125 _ _ _ rfl ?_))
    refine ⟨?_, trivial⟩
    refine wpList_lookup_own_int _ rfl _ _ 125 rfl 3 3 .i64 lawI Try.underlying125 Try.underlying3 (zero_int _) b N D rfl O1.out _ (.int .i64 t) rfl (keyOf_int_mk Try.underlying3 (WalkArith.wf_i64 (by omega))) ?_
    intro c1 hc1 _
    obtain rfl := look NU.out G1.out hc1
    clear hc1
    go_wp2_with (refine (halt_lookup 125 _ _ _ rfl ?_))
    refine ⟨?_, trivial⟩
    refine wpList_lookup_own_int _ rfl _ _ 125 rfl 3 3 .i64 lawI Try.underlying125 Try.underlying3 (zero_int _) b N D rfl O1.out _ (.int .i64 ((i : Int) + 1)) rfl (keyOf_int_mk Try.underlying3 (WalkArith.wf_i64 (by omega))) ?_
    intro c2 hc2 _
    obtain rfl := look NU.out G2.out hc2
    clear hc2
    go_wp2_with fail
    go_ret
    refine next_mk HX.out ?_ ?_ (below_new B1.out _)
    · exact ints_alloc w1 [_, _] 3 (by simp)
    · rintro a ⟨⟩; have := B1.out.size; simp; omega
  · have hj : s.jumps i = true := h4j rfl
    have hc : ¬ s.cond i = true := by rw [HC.out]; decide
    obtain ⟨t0, t1⟩ := FN.out.to i hi hj
    have G1 := Lib.hid (begB_to s hi hj)
    have HX := Lib.hid (show nextL s n i = [num s n (s.to i)] by unfold nextL; rw [if_neg hc, if_pos hj])
    clear hc hj h4j
    generalize s.to i = t at *
    go_enter Try.func89, Try.ntmps89
    go_wp2_with (refine (halt_load 26 _ rfl ?_))
    refine ⟨?_, trivial⟩
    refine wpList_load_row rfl 26 _ rfl W.heap.size rfl _ cc _ _ (heap_last _ _ _ rfl) Try.underlying26 rfl HI.out ?_
    go_wp2_with fail
    refine (T.out _).mono ?_
    rintro e w1 ⟨rfl, b1⟩
    have R1 := Lib.hid ((b1.block W.heap.size (by simp)).trans (heap_last W (.cells cc 26) _ rfl))
    have O1 := Lib.hid (owns_below_map (OW.out.alloc _) b1)
    have B1 := Lib.hid (below_call (below_new (Below.refl _ W) (.cells cc 26)) b1)
    have hkc : w1.cell? ⟨W.heap.size, 0, none⟩ = some (.int .i8 4) := by simp only [World.cell?, R1.out]; exact HK.out
    clear b1
    go_wp2_with (refine (halt_lookup 125 _ _ _ rfl ?_))
    refine ⟨?_, trivial⟩
    refine wpList_lookup_own_int _ rfl _ _ 125 rfl 3 3 .i64 lawI Try.underlying125 Try.underlying3 (zero_int _) b N D rfl O1.out _ (.int .i64 t) rfl (keyOf_int_mk Try.underlying3 (WalkArith.wf_i64 (by omega))) ?_
    intro c1 hc1 _
    obtain rfl := look NU.out G1.out hc1
    clear hc1
    go_wp2_with fail
    go_ret
    refine next_mk HX.out ?_ ?_ (below_new B1.out _)
    · exact ints_alloc w1 [_] 3 (by simp)
    · rintro a ⟨⟩; have := B1.out.size; simp; omega
  · have hx : s.exit i = true := HE.out
    have hj : ¬ s.jumps i = true := fun h => by have := HJ2.out h; omega
    have hc : ¬ s.cond i = true := by rw [HC.out]; decide
    have HX := Lib.hid (show nextL s n i = [] by unfold nextL; rw [if_neg hc, if_neg hj, if_pos hx])
    clear hc hj hx h4j
    generalize s.to i = t at *
    go_enter Try.func89, Try.ntmps89
    go_wp2_with (refine (halt_load 26 _ rfl ?_))
    refine ⟨?_, trivial⟩
    refine wpList_load_row rfl 26 _ rfl W.heap.size rfl _ cc _ _ (heap_last _ _ _ rfl) Try.underlying26 rfl HI.out ?_
    go_wp2_with fail
    refine (T.out _).mono ?_
    rintro e w1 ⟨rfl, b1⟩
    have R1 := Lib.hid ((b1.block W.heap.size (by simp)).trans (heap_last W (.cells cc 26) _ rfl))
    have O1 := Lib.hid (owns_below_map (OW.out.alloc _) b1)
    have B1 := Lib.hid (below_call (below_new (Below.refl _ W) (.cells cc 26)) b1)
    have hkc : w1.cell? ⟨W.heap.size, 0, none⟩ = some (.int .i8 6) := by simp only [World.cell?, R1.out]; exact HK.out
    clear b1
    go_wp2_with fail
    go_ret
    refine next_mk HX.out ?_ ?_ B1.out
    · exact ⟨rfl, Nat.le_refl _, by simp, fun h => absurd h (by simp)⟩
    · rintro a ⟨⟩
  · have hx : ¬ s.exit i = true := by rw [HE.out]; simp [h6]
    have hj : ¬ s.jumps i = true := fun h => by have := HJ2.out h; omega
    have hc : ¬ s.cond i = true := by rw [HC.out]; simp [h3]
    have G1 := HB
    have HX := Lib.hid (show nextL s n i = [num s n ((i : Int) + 1)] by unfold nextL; rw [if_neg hc, if_neg hj, if_neg hx])
    have e3 : (kd == 3) = false := by simpa using h3
    have e4 : (kd == 4) = false := by simpa using h4
    have e6 : (kd == 6) = false := by simpa using h6
    clear hc hj hx h4j h3 h4 h6
    generalize s.to i = t at *
    go_enter Try.func89, Try.ntmps89
    go_wp2_with (refine (halt_load 26 _ rfl ?_))
    refine ⟨?_, trivial⟩
    refine wpList_load_row rfl 26 _ rfl W.heap.size rfl _ cc _ _ (heap_last _ _ _ rfl) Try.underlying26 rfl HI.out ?_
    go_wp2_with fail
    refine (T.out _).mono ?_
    rintro e w1 ⟨rfl, b1⟩
    have R1 := Lib.hid ((b1.block W.heap.size (by simp)).trans (heap_last W (.cells cc 26) _ rfl))
    have O1 := Lib.hid (owns_below_map (OW.out.alloc _) b1)
    have B1 := Lib.hid (below_call (below_new (Below.refl _ W) (.cells cc 26)) b1)
    have hkc : w1.cell? ⟨W.heap.size, 0, none⟩ = some (.int .i8 kd) := by simp only [World.cell?, R1.out]; exact HK.out
    clear b1
    go_wp2_with (refine (halt_lookup 125 _ _ _ rfl ?_))
    refine ⟨?_, trivial⟩
    refine wpList_lookup_own_int _ rfl _ _ 125 rfl 3 3 .i64 lawI Try.underlying125 Try.underlying3 (zero_int _) b N D rfl O1.out _ (.int .i64 ((i : Int) + 1)) rfl (keyOf_int_mk Try.underlying3 (WalkArith.wf_i64 (by omega))) ?_
    intro c1 hc1 _
    obtain rfl := look NU.out G1.out hc1
    clear hc1
    go_wp2_with fail
    go_ret
    refine next_mk HX.out ?_ ?_ (below_new B1.out _)
    · exact ints_alloc w1 [_] 3 (by simp)
    · rintro a ⟨⟩; have := B1.out.size; simp; omega
end Go.Proofs.Ytbpefomjmjkciaa.Blk
