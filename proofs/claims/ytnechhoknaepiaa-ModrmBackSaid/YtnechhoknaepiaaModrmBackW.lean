/-
  The walk of the law ModrmBack. (Written by gen_mrt.py.)
-/
import Derived.Test.YtnechhoknaepiaaModrmBackA
import Derived.Test.YtnechhoknaepiaaModrmBackB
import Derived.Test.YtnechhoknaepiaaModrmBackC
import Derived.Test.YtnechhoknaepiaaModrmBackD
import Derived.Test.YtnechhoknaepiaaModrmBackE
namespace Go.Proofs.Ytnechhoknaepiaa.Mrm
open Go.RowKit
set_option linter.unusedVariables false
set_option linter.unnecessarySimpa false
set_option linter.unusedSimpArgs false
set_option maxRecDepth 100000

theorem read_ways (zs : List Int) (ok : Oks zs) :
    readV zs = rdV 0 0 0 false 0 30 ∨
    (∃ z : Int, 192 ≤ z ∧ z < 256 ∧ readV zs = rdV (z / 8 % 8) (z % 8) 0 false 1 0 ∧ zs.take 1 = [z] ∧ 1 ≤ zs.length) ∨
    ∃ (r m d : Int) (k : Nat), (-9223372036854775808 ≤ d ∧ d ≤ 9223372036854775807) ∧ readV zs = rdV r m d true (k : Int) 0 ∧ memB r m d = true ∧ memL r m d = zs.take k ∧ 0 < k ∧ k ≤ zs.length := by
  by_cases q1 : 192 ≤ zs.getD 0 0
  · have hl : 0 < zs.length := by
      cases zs with
      | nil => exact absurd q1 (by decide)
      | cons a l => exact Nat.zero_lt_succ _
    have e : zs.take 1 = [zs.getD 0 0] := take_cons hl
    have hz := ok (zs.getD 0 0) (List.mem_of_mem_take (by rw [e]; exact List.mem_singleton.2 rfl : zs.getD 0 0 ∈ zs.take 1))
    exact .inr (.inl ⟨_, q1, hz.2, rd_reg q1, e, hl⟩)
  · by_cases q2 : (decide (128 ≤ zs.getD 0 0) && memOk zs) = true
    · rw [Bool.and_eq_true, decide_eq_true_iff] at q2
      obtain ⟨h1, h2⟩ := q2
      obtain ⟨g1, g2⟩ := mem_again h1 h2 ok
      have h3 := (memOk_iff.1 h2).2.1
      have hf : fitB (sgn ((zs.drop (atN (zs.getD 0 0))).take 4)) 4 = true := by
        unfold memB at g1
        exact (Bool.and_eq_true_iff.1 g1).2
      have := fitB_iff4.1 hf
      exact .inr (.inr ⟨_, _, _, atN (zs.getD 0 0) + 4, by omega, rd_mem (by omega) h1 h2, g1, g2, by omega, h3⟩)
    · exact .inl (rd_no (by omega) (by simpa using q2))
set_option maxHeartbeats 1000000 in
theorem back_law (a0 : Bool) (a1 a2 a3 a4 a5 : Int) (a6 : Option Addr) (len6 cap6 : Nat) (z6 : List Int) (w : World) (w1 : (Lit.int .i8 a1).wf = true) (w2 : (Lit.int .i8 a2).wf = true) (w3 : (Lit.int .i64 a3).wf = true) (w4 : (Lit.int .i64 a4).wf = true) (w5 : (Lit.int .i64 a5).wf = true) (w6 : IsRow .u8 w a6 len6 cap6 z6) :
    Calls Try.prog 5 #[.bool a0, .int .i8 a1, .int .i8 a2, .int .i64 a3, .int .i64 a4, .int .i64 a5, .slice a6 len6 cap6] w fun e w' => e = .returned (.bool true) ∧ Below w.heap.size w w' := by
  have hE := BytesAt.row w6
  have d3 := bd_i64b w3
  have d4 := bd_i64b w4
  clear w1 w2 w3 w4 w5 w6
  generalize z6.take len6 = zs at *
  by_cases hl : len6 ≤ 100
  case neg =>
    have WK := Lib.hid wakes_n
    have hl2 : (100 : Int) < (len6 : Int) := by omega
    clear hE hl d3 d4
    go_enter Try.func5, Try.ntmps5
    go_wp2_with fail
    refine (WK.out _).mono ?_
    rintro e y1 ⟨rfl, b1⟩
    go_wp2_with fail
    go_ret
    exact ⟨rfl, b1⟩
  have hz := hE.size
  rcases read_ways zs hE.ok with g4 | ⟨z, z1, z2, g4, g5, bl1⟩ | ⟨r, m, d, k, dd, g4, g5, g6, k0, k1⟩
  · skip
    cases g1 : bothB a1 a2
    · cases g3 : numB a4 a5
      · exact back_fff_no a0 a1 a2 a3 a4 a5 a6 len6 cap6 zs w d3 d4 hE hl g1 g3 g4
      · exact back_fft_no a0 a1 a2 a3 a4 a5 a6 len6 cap6 zs w d3 d4 hE hl g1 g3 g4
    cases g2 : fitB a3 4
    · cases g3 : numB a4 a5
      · exact back_tff_no a0 a1 a2 a3 a4 a5 a6 len6 cap6 zs w d3 d4 hE hl g1 g2 g3 g4
      · exact back_tft_no a0 a1 a2 a3 a4 a5 a6 len6 cap6 zs w d3 d4 hE hl g1 g2 g3 g4
    cases g3 : numB a4 a5
    · exact back_ttf_no a0 a1 a2 a3 a4 a5 a6 len6 cap6 zs w d3 d4 hE hl g1 g2 g3 g4
    · exact back_ttt_no a0 a1 a2 a3 a4 a5 a6 len6 cap6 zs w d3 d4 hE hl g1 g2 g3 g4
  · obtain ⟨B, o, rfl, _⟩ := hE.here (by omega)
    cases g1 : bothB a1 a2
    · cases g3 : numB a4 a5
      · exact back_fff_reg a0 a1 a2 a3 a4 a5 B o len6 cap6 zs w d3 d4 hE hl g1 g3 z z1 z2 g4 g5 (by omega)
      · exact back_fft_reg a0 a1 a2 a3 a4 a5 B o len6 cap6 zs w d3 d4 hE hl g1 g3 z z1 z2 g4 g5 (by omega)
    cases g2 : fitB a3 4
    · cases g3 : numB a4 a5
      · exact back_tff_reg a0 a1 a2 a3 a4 a5 B o len6 cap6 zs w d3 d4 hE hl g1 g2 g3 z z1 z2 g4 g5 (by omega)
      · exact back_tft_reg a0 a1 a2 a3 a4 a5 B o len6 cap6 zs w d3 d4 hE hl g1 g2 g3 z z1 z2 g4 g5 (by omega)
    cases g3 : numB a4 a5
    · exact back_ttf_reg a0 a1 a2 a3 a4 a5 B o len6 cap6 zs w d3 d4 hE hl g1 g2 g3 z z1 z2 g4 g5 (by omega)
    · exact back_ttt_reg a0 a1 a2 a3 a4 a5 B o len6 cap6 zs w d3 d4 hE hl g1 g2 g3 z z1 z2 g4 g5 (by omega)
  · obtain ⟨B, o, rfl, _⟩ := hE.here (by omega)
    cases g1 : bothB a1 a2
    · cases g3 : numB a4 a5
      · exact back_fff_mem a0 a1 a2 a3 a4 a5 B o len6 cap6 zs w d3 d4 hE hl g1 g3 r m d k dd g4 g5 g6 k0 (by omega)
      · exact back_fft_mem a0 a1 a2 a3 a4 a5 B o len6 cap6 zs w d3 d4 hE hl g1 g3 r m d k dd g4 g5 g6 k0 (by omega)
    cases g2 : fitB a3 4
    · cases g3 : numB a4 a5
      · exact back_tff_mem a0 a1 a2 a3 a4 a5 B o len6 cap6 zs w d3 d4 hE hl g1 g2 g3 r m d k dd g4 g5 g6 k0 (by omega)
      · exact back_tft_mem a0 a1 a2 a3 a4 a5 B o len6 cap6 zs w d3 d4 hE hl g1 g2 g3 r m d k dd g4 g5 g6 k0 (by omega)
    cases g3 : numB a4 a5
    · exact back_ttf_mem a0 a1 a2 a3 a4 a5 B o len6 cap6 zs w d3 d4 hE hl g1 g2 g3 r m d k dd g4 g5 g6 k0 (by omega)
    · exact back_ttt_mem a0 a1 a2 a3 a4 a5 B o len6 cap6 zs w d3 d4 hE hl g1 g2 g3 r m d k dd g4 g5 g6 k0 (by omega)
end Go.Proofs.Ytnechhoknaepiaa.Mrm
