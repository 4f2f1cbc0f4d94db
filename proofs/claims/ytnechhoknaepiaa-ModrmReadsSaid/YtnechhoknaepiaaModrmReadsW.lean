/-
  The walk of the law ModrmReads. (Written by gen_mrr.py.)
-/
import Derived.Test.YtnechhoknaepiaaMrW
namespace Go.Proofs.Ytnechhoknaepiaa.Mrm
open Go.RowKit
set_option linter.unusedVariables false
set_option linter.unnecessarySimpa false
set_option linter.unusedSimpArgs false
set_option maxRecDepth 100000

theorem readV_is (l : List Int) : ∃ (r m d : Int) (mem : Bool) (n e : Int), readV l = .tuple #[.int .i8 r, .int .i8 m, .int .i64 d, .bool mem, .int .i64 n, .int .i64 e] := by
  unfold readV
  split
  · exact ⟨_, _, _, _, _, _, rfl⟩
  · split
    · exact ⟨_, _, _, _, _, _, rfl⟩
    · exact ⟨_, _, _, _, _, _, rfl⟩
theorem bd_u8 {a : Int} (h : (Lit.int .u8 a).wf = true) : 0 ≤ a ∧ a < 256 := by
  have : 0 ≤ a ∧ a ≤ 255 := by simpa [Lit.wf, IntKind.min, IntKind.max, IntKind.bits, IntKind.signed] using h
  omega
set_option maxHeartbeats 4000000 in
theorem reads_law (a0 : Int) (a1 : Option Addr) (len1 cap1 : Nat) (z1 : List Int) (w : World) (w0 : (Lit.int .u8 a0).wf = true) (w1 : IsRow .u8 w a1 len1 cap1 z1) :
    Calls Try.prog 4 #[.int .u8 a0, .slice a1 len1 cap1] w fun e w' => e = .returned (.bool true) ∧ Below w.heap.size w w' := by
  have hE := BytesAt.row w1
  obtain ⟨d0, d1⟩ := bd_u8 w0
  have WK := Lib.hid wakes_n
  clear w0 w1
  by_cases hl : 100 < len1
  · have hl2 : (100 : Int) < (len1 : Int) := by omega
    clear hE hl
    go_enter Try.func4, Try.ntmps4
    go_wp2_with fail
    refine (WK.out _).mono ?_
    rintro e y1 ⟨rfl, b1⟩
    go_wp2_with fail
    go_ret
    exact ⟨rfl, b1⟩
  · have hl2 : (len1 : Int) ≤ 100 := by omega
    have RX := Lib.hid (fun W => readrex_n a0 d0 d1 W)
    have QX := Lib.hid (fun W => qreadrex_n a0 d0 d1 W)
    have RR := Lib.hid (fun W' b => read_n a1 len1 cap1 _ W' (hE.below (w := W') b))
    have QR := Lib.hid (fun W' b => qread_n a1 len1 cap1 _ W' (hE.below (w := W') b))
    have RS := Lib.hid (fun W' b => signed_n a1 len1 cap1 _ W' (hE.below (w := W') b))
    have QS := Lib.hid (fun W' b => qsigned_n a1 len1 cap1 _ W' (hE.below (w := W') b))
    obtain ⟨r, m, d, mem, n, e, hv⟩ := readV_is (z1.take len1)
    rw [hv] at RR QR
    unfold rrV at RX QX
    clear hE hl d0 d1 hv
    generalize sgn (z1.take len1) = sv at *
    generalize (rexB a0 && wB a0) = x1 at *
    generalize (bif rexB a0 then hiI a0 4 else 0) = x2 at *
    generalize (bif rexB a0 then hiI a0 1 else 0) = x3 at *
    generalize rexB a0 = x4 at *
    go_enter Try.func4, Try.ntmps4
    go_wp2_with fail
    refine (RX.out _).mono ?_
    rintro e y1 ⟨rfl, rfl⟩
    go_wp2_with fail
    refine (QX.out _).mono ?_
    rintro e y1 ⟨rfl, rfl⟩
    go_wp2_with fail
    refine (RR.out _ (Below.refl _ _)).mono ?_
    rintro e y1 ⟨rfl, b1⟩
    have B1 := Lib.hid b1
    clear b1
    go_wp2_with fail
    refine (QR.out _ B1.out).mono ?_
    rintro e y2 ⟨rfl, b2⟩
    have B2 := Lib.hid (below_call B1.out b2)
    clear b2
    go_wp2_with fail
    refine (RS.out _ B2.out).mono ?_
    rintro e y3 ⟨rfl, rfl⟩
    go_wp2_with fail
    refine (QS.out _ B2.out).mono ?_
    rintro e y3 ⟨rfl, rfl⟩
    go_wp2_with fail
    refine (WK.out _).mono ?_
    rintro e y4 ⟨rfl, b4⟩
    have B4 := Lib.hid (below_call B2.out b4)
    clear b4
    go_wp2_with fail
    go_ret
    exact ⟨rfl, B4.out⟩
end Go.Proofs.Ytnechhoknaepiaa.Mrm
