/-
  The walk of the law BlocksWays.
-/
import Derived.Test.YtbpefomjmjkciaaBlkV
import Derived.Test.YtbpefomjmjkciaaRbM
import Derived.Test.YtbpefomjmjkciaaBlkU
import Derived.Test.YtbpefomjmjkciaaBlkD
import Derived.Test.YtbpefomjmjkciaaBlkW
namespace Go.Proofs.Ytbpefomjmjkciaa.Blk
open Go.RowKit Go.Maps Go.Sort Ins
set_option linter.unusedVariables false
set_option maxRecDepth 100000

set_option maxHeartbeats 8000000 in
theorem blocksWays_walk (a : Option Addr) (n c : Nat) (bs : List Bk) (a2 : Option Addr) (n2 c2 : Nat) (cs : List Bk) (b : Int) (W : World) (h : Blks W a n c bs) (h2 : Blks W a2 n2 c2 cs) :
    Calls Try.prog 5 #[.slice a n c, .slice a2 n2 c2, .int .i64 b] W fun e w' => e = .returned (.bool true) ∧ Below W.heap.size W w' := by
  have GR := Lib.hid (fun w b => r_great a n c bs w (h.below (w := w) b))
  have GR2 := Lib.hid (fun w b => r_great a2 n2 c2 cs w (h2.below (w := w) b))
  have OA := Lib.hid (fun w y => of_any a n c bs b w (h.below (w := w) y))
  have OR := Lib.hid (fun w y => r_of a n c bs b w (h.below (w := w) y))
  have MY := Lib.hid (fun w b => may_any a n c bs w (h.below (w := w) b))
  have MR := Lib.hid (fun w b => r_may a n c bs w (h.below (w := w) b))
  have RE := Lib.hid (fun w b => reach_to a n c bs w (h.below (w := w) b))
  have RR := Lib.hid (fun w b => r_reach_to a n c bs w (h.below (w := w) b))
  have BE := Lib.hid (fun w y => before_any a n c bs b w (h.below (w := w) y))
  have BR := Lib.hid (fun w y => r_before a n c bs b w (h.below (w := w) y))
  have SM := Lib.hid (fun w y => sameBlk_any a a2 n c n2 c2 bs cs w (h.below (w := w) y) (h2.below (w := w) y))
  have SR := Lib.hid (fun w y => r_same a a2 n c n2 c2 bs cs w (h.below (w := w) y) (h2.below (w := w) y))
  clear h h2
  generalize decide (bs = cs) = sm at *
  generalize hof : ofL bs b = p at *
  clear hof
  obtain ⟨k, ok⟩ := p
  generalize mayL bs = my at *
  generalize befF bs b = zs at *
  have s0 : (sm == sm) = true := by simp
  have s1 : (my == my) = true := by simp
  have s2 : (k == k) = true := by simp
  have s3 : (ok == ok) = true := by simp
  go_enter Try.func5, Try.ntmps5
  go_wp2_with fail
  refine (GR.out _ (Below.refl _ _)).mono ?_
  rintro e w1 ⟨g, h1⟩
  obtain ⟨rfl, b1⟩ := h1.below
  have B1 := Lib.hid b1
  clear b1 h1 GR
  cases g
  case true =>
    go_wp2_with fail
    refine (wakes_any _).mono ?_
    rintro e w2 ⟨rfl, b2⟩
    go_wp2_with fail
    go_ret
    exact ⟨rfl, below_call B1.out b2⟩
  go_wp2_with fail
  refine (GR2.out _ B1.out).mono ?_
  rintro e w2 ⟨g, h1⟩
  obtain ⟨rfl, b2⟩ := h1.below
  have B2 := Lib.hid (below_call B1.out b2)
  clear b2 h1 GR2 B1
  cases g
  case true =>
    go_wp2_with fail
    refine (wakes_any _).mono ?_
    rintro e w3 ⟨rfl, b3⟩
    go_wp2_with fail
    go_ret
    exact ⟨rfl, below_call B2.out b3⟩
  go_wp2_with fail
  refine (OA.out _ B2.out).mono ?_
  rintro e w3 ⟨rfl, b3⟩
  have B3 := Lib.hid (below_call B2.out b3)
  clear b3 B2 OA
  go_wp2_with fail
  refine (OR.out _ B3.out).mono ?_
  rintro e w3 ⟨rfl, rfl⟩
  clear OR
  go_wp2_with fail
  refine (MY.out _ B3.out).mono ?_
  rintro e w4 ⟨rfl, b4⟩
  have B4 := Lib.hid (below_call B3.out b4)
  clear b4 B3 MY
  go_wp2_with fail
  refine (MR.out _ B4.out).mono ?_
  rintro e w5 hq
  obtain ⟨rfl, b5⟩ := hq.below
  have B5 := Lib.hid (below_call B4.out b5)
  clear b5 B4 MR hq
  go_wp2_with fail
  refine (RE.out _ B5.out).mono ?_
  rintro e w6 ⟨s1, m, p1, f, rfl, h1, e1, k1, b6⟩
  have B6 := Lib.hid (below_call B5.out b6)
  have H1 := Lib.hid h1
  have K1 := Lib.hid k1
  have E1 := Lib.hid e1
  clear b6 B5 RE h1 k1 e1
  go_wp2_with fail
  refine (RR.out _ B6.out).mono ?_
  rintro e w7 ⟨s2, m2, p2, f2, rfl, h2, e2, k2, b7⟩
  have B7 := Lib.hid (below_call B6.out b7)
  obtain rfl : m = m2 := by rw [e2]; exact E1.out
  have BS := Lib.hid (show Calls Try.prog 26 #[.slice s1 m p1, .slice s2 m p2] w7 (QB true w7) by
    by_cases h0 : m = 0
    · exact bools_same s1 s2 m p1 p2 f w7 (H1.out.below b7) ⟨h2.le, h2.fit, fun h => by omega⟩
    · obtain ⟨y1, y2⟩ := K1.out h0
      obtain ⟨y3, y4⟩ := k2 h0
      obtain rfl := reached_one y1 y3 y2 y4
      exact bools_same s1 s2 m p1 p2 f w7 (H1.out.below b7) h2)
  clear b7 B6 RR h2 k2 e2 H1 K1 E1
  go_wp2_with fail
  refine BS.out.mono ?_
  rintro e w8 hq
  obtain ⟨rfl, b8⟩ := hq.below
  have B8 := Lib.hid (below_call B7.out b8)
  clear b8 B7 BS hq
  go_wp2_with fail
  refine (BE.out _ B8.out).mono ?_
  rintro e w9 ⟨i1, q1, rfl, j1, b9⟩
  have B9 := Lib.hid (below_call B8.out b9)
  have J1 := Lib.hid j1
  clear b9 B8 BE j1
  go_wp2_with fail
  refine (BR.out _ B9.out).mono ?_
  rintro e w10 ⟨i2, q2, rfl, j2, b10⟩
  have B10 := Lib.hid (below_call B9.out b10)
  have IS := Lib.hid (r_ints i1 i2 zs.length q1 zs.length q2 zs zs w10 (J1.out.below b10) j2)
  rw [decide_eq_true rfl] at IS
  clear b10 B9 BR j2 J1
  go_wp2_with fail
  refine IS.out.mono ?_
  rintro e w11 hq
  obtain ⟨rfl, b11⟩ := hq.below
  have B11 := Lib.hid (below_call B10.out b11)
  clear b11 B10 IS hq
  go_wp2_with fail
  refine (SM.out _ B11.out).mono ?_
  rintro e w12 ⟨rfl, b12⟩
  have B12 := Lib.hid (below_call B11.out b12)
  clear b12 B11 SM
  go_wp2_with fail
  refine (SR.out _ B12.out).mono ?_
  rintro e w13 hq
  obtain ⟨rfl, b13⟩ := hq.below
  have B13 := Lib.hid (below_call B12.out b13)
  clear b13 B12 SR hq
  go_wp2_with fail
  refine (wakes_any _).mono ?_
  rintro e w14 ⟨rfl, b14⟩
  go_wp2_with fail
  go_ret
  exact ⟨rfl, below_call B13.out b14⟩
theorem blocksWays_law (a : Option Addr) (n c : Nat) (bs : List Bk) (a2 : Option Addr) (n2 c2 : Nat) (cs : List Bk) (b : Int) (W : World) (h : Blks W a n c bs) (h2 : Blks W a2 n2 c2 cs) (_ : (Lit.int .i64 b).wf = true) :
    Calls Try.prog 5 #[.slice a n c, .slice a2 n2 c2, .int .i64 b] W fun e w' => e = .returned (.bool true) ∧ Below W.heap.size W w' := blocksWays_walk a n c bs a2 n2 c2 cs b W h h2
end Go.Proofs.Ytbpefomjmjkciaa.Blk
