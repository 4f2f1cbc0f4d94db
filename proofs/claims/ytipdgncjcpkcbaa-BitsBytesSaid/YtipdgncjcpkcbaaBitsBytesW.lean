/-
  The walk of the law BitsBytes.
-/
import Derived.Test.YtipdgncjcpkcbaaBitsBytesLow
import Derived.Test.YtipdgncjcpkcbaaBitsBytesMid
import Derived.Test.YtipdgncjcpkcbaaBitsBytesEight
import Derived.Test.YtipdgncjcpkcbaaBitsBytesHigh
namespace Go.Proofs.Ytipdgncjcpkcbaa
open Go.RowKit
set_option linter.unusedVariables false

theorem bitsBytes_walk (v n : Int) (a : Option Addr) (len cap : Nat) (zs : List Int) (W : World) (wv : (Lit.int .u64 v).wf = true) (wn : (Lit.int .i64 n).wf = true) (row : IsRow .u8 W a len cap zs) :
    Calls Try.prog 4 #[.int .u64 v, .int .i64 n, .slice a len cap] W fun e w' => e = .returned (.bool true) ∧ Below W.heap.size W w' := by
  obtain ⟨v0, v1⟩ := bd_u64 wv
  rcases row with ⟨rfl, rfl, rfl, _⟩ | ⟨x, rfl, hl, hm, hz, hcell, hwz⟩
  · by_cases n0 : n < 0
    · exact law_low_nil v n n0 W v0 v1
    by_cases n1 : n < 8
    · obtain ⟨m, rfl⟩ := Int.eq_ofNat_of_zero_le (show 0 ≤ n by omega)
      exact law_mid_nil v m (by omega) W v0 v1
    by_cases n2 : n = 8
    · subst n2
      exact law_eight_nil v  W v0 v1
    exact law_high_nil v n (by omega) (by omega) W v0 v1
  · have hm' : cap ≤ 9223372036854775807 := by unfold maxLen at hm; omega
    by_cases z : len = 0
    · subst z
      by_cases n0 : n < 0
      · exact law_low_zero v n n0 x cap hm' W v0 v1
      by_cases n1 : n < 8
      · obtain ⟨m, rfl⟩ := Int.eq_ofNat_of_zero_le (show 0 ≤ n by omega)
        exact law_mid_zero v m (by omega) x cap hm' W v0 v1
      by_cases n2 : n = 8
      · subst n2
        exact law_eight_zero v  x cap hm' W v0 v1
      exact law_high_zero v n (by omega) (by omega) x cap hm' W v0 v1
    obtain ⟨b, off, spot⟩ := x
    have c0 := hcell 0 (by omega)
    obtain rfl : spot = none := by simpa [Addr.add] using World.cell?_spot c0
    have cells : ∀ i, i < len → W.cell? ⟨b, off + i, none⟩ = some (.int .u8 (zs.getD i 0)) := fun i hi => by have h := hcell i (by omega); rw [Go.WideShapes.add_plain] at h; exact h
    have bds : ∀ i, i < len → 0 ≤ zs.getD i 0 ∧ zs.getD i 0 < 256 := fun i hi => by
      have hi' : i < zs.length := by omega
      have e : zs.getD i 0 = zs[i] := by simp [List.getD, hi']
      rw [e]
      exact bd_u8' (hwz _ (List.getElem_mem hi'))
    by_cases l8 : len ≤ 8
    · by_cases n0 : n < 0
      · exact law_low_few v n n0 b off len cap (fun i => zs.getD i 0) hl hm' W l8 v0 v1 bds cells
      by_cases n1 : n < 8
      · obtain ⟨m, rfl⟩ := Int.eq_ofNat_of_zero_le (show 0 ≤ n by omega)
        exact law_mid_few v m (by omega) b off len cap (fun i => zs.getD i 0) hl hm' W l8 v0 v1 bds cells
      by_cases n2 : n = 8
      · subst n2
        exact law_eight_few v  b off len cap (fun i => zs.getD i 0) hl hm' W l8 v0 v1 bds cells
      exact law_high_few v n (by omega) (by omega) b off len cap (fun i => zs.getD i 0) hl hm' W l8 v0 v1 bds cells
    by_cases l40 : len ≤ 40
    · by_cases n0 : n < 0
      · exact law_low_many v n n0 b off len cap (fun i => zs.getD i 0) hl hm' W (by omega) l40 v0 v1 (fun i hi => bds i (by omega)) (fun i hi => cells i (by omega))
      by_cases n1 : n < 8
      · obtain ⟨m, rfl⟩ := Int.eq_ofNat_of_zero_le (show 0 ≤ n by omega)
        exact law_mid_many v m (by omega) b off len cap (fun i => zs.getD i 0) hl hm' W (by omega) l40 v0 v1 (fun i hi => bds i (by omega)) (fun i hi => cells i (by omega))
      by_cases n2 : n = 8
      · subst n2
        exact law_eight_many v  b off len cap (fun i => zs.getD i 0) hl hm' W (by omega) l40 v0 v1 (fun i hi => bds i (by omega)) (fun i hi => cells i (by omega))
      exact law_high_many v n (by omega) (by omega) b off len cap (fun i => zs.getD i 0) hl hm' W (by omega) l40 v0 v1 (fun i hi => bds i (by omega)) (fun i hi => cells i (by omega))
    by_cases n0 : n < 0
    · exact law_low_long v n n0 b off len cap (fun i => zs.getD i 0) hl hm' W (by omega) v0 v1
    by_cases n1 : n < 8
    · obtain ⟨m, rfl⟩ := Int.eq_ofNat_of_zero_le (show 0 ≤ n by omega)
      exact law_mid_long v m (by omega) b off len cap (fun i => zs.getD i 0) hl hm' W (by omega) v0 v1
    by_cases n2 : n = 8
    · subst n2
      exact law_eight_long v  b off len cap (fun i => zs.getD i 0) hl hm' W (by omega) v0 v1
    exact law_high_long v n (by omega) (by omega) b off len cap (fun i => zs.getD i 0) hl hm' W (by omega) v0 v1
end Go.Proofs.Ytipdgncjcpkcbaa
