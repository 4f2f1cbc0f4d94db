/-
  Layer 12: Signed where there is nothing; the document's own Signed. (Written by gen_mrh.py.)
-/
import Derived.Test.YtjhjpllgoakncaaDoorMqG
namespace Go.Proofs.YtjhjpllgoakncaaDoor.Mrm
open Go.RowKit
set_option linter.unusedVariables false
set_option linter.unnecessarySimpa false
set_option linter.unusedSimpArgs false
set_option maxRecDepth 100000

theorem signed_nil (W : World) : Calls Tryd.prog 83 #[.slice none 0 0] W fun e w' => e = .returned (.int .i64 0) ∧ W = w' := by
  have U := Lib.hid (fun W => unused_n 0 (by omega) W)
  go_enter Tryd.func83, Tryd.ntmps83
  go_wp2
  go_rounds 1
  go_ret
  exact ⟨rfl, rfl⟩
theorem signed_zero (x : Addr) (cap : Nat) (hm : cap ≤ 9223372036854775807) (W : World) : Calls Tryd.prog 83 #[.slice (some x) 0 cap] W fun e w' => e = .returned (.int .i64 0) ∧ W = w' := by
  have U := Lib.hid (fun W => unused_n 0 (by omega) W)
  go_enter Tryd.func83, Tryd.ntmps83
  go_wp2
  go_rounds 1
  go_ret
  exact ⟨rfl, rfl⟩
theorem getI_cons (f : Nat → Int) : ∀ m : Nat, getI f (m + 1) = getI (fun i => f (i + 1)) m * 256 + f 0
  | 0 => by show (0 : Int) + f 0 * 2 ^ (8 * 0) = 0 * 256 + f 0; rw [show (2 : Int) ^ (8 * 0) = 1 from rfl]; omega
  | m + 1 => by
    show getI f (m + 1) + f (m + 1) * 2 ^ (8 * (m + 1)) = (getI (fun i => f (i + 1)) m + f (m + 1) * 2 ^ (8 * m)) * 256 + f 0
    rw [getI_cons f m, show 8 * (m + 1) = 8 * m + 8 by omega, Int.pow_add, show (2 : Int) ^ 8 = 256 from rfl, Int.add_mul, Int.mul_assoc]
    omega
theorem dn_step (u y : Int) (hu0 : 0 ≤ u) (hu1 : u < 72057594037927936) (hy0 : 0 ≤ y) (hy1 : y < 256) : bits .or .u64 (IntKind.u64.wrap (u * 256)) y = u * 256 + y := by
  rw [IntKind.wrap_u64, Int.emod_eq_of_lt (by omega) (by omega), u64_or _ _ (by omega) (by omega) hy0 (by omega)]
  obtain ⟨U, rfl⟩ := Int.eq_ofNat_of_zero_le hu0
  obtain ⟨Y, rfl⟩ := Int.eq_ofNat_of_zero_le hy0
  have d : Y < 2 ^ 8 := by omega
  rw [show ((U : Int) * 256).toNat = 2 ^ 8 * U by omega, Int.toNat_natCast, ← Nat.two_pow_add_eq_or_of_lt d]
  omega
theorem getI_lt (f : Nat → Int) (m : Nat) (h : m < 8) (hf : ∀ i, i < m → 0 ≤ f i ∧ f i < 256) : 0 ≤ getI f m ∧ getI f m < 72057594037927936 := by
  have b := getI_bd f m hf
  refine ⟨b.1, Int.lt_of_lt_of_le b.2 ?_⟩
  have := Nat.pow_le_pow_right (show 0 < 2 by omega) (show 8 * m ≤ 56 by omega)
  have e : ((2 ^ (8 * m) : Nat) : Int) ≤ ((2 ^ 56 : Nat) : Int) := by omega
  simpa using e
theorem at_cells {W : World} {a : Option Addr} {len cap : Nat} {zs : List Int} (h : BytesAt W a len cap zs) (h0 : 0 < len) : ∃ b o, a = some ⟨b, o, none⟩ ∧ (∀ i, i < len → W.cell? ⟨b, o + i, none⟩ = some (.int .u8 (zs.getD i 0))) ∧ ∀ i, i < len → 0 ≤ zs.getD i 0 ∧ zs.getD i 0 < 256 := by
  obtain ⟨b, o, e, hc⟩ := h.here h0
  have hz : ∀ i, i < len → zs[i]? = some (zs.getD i 0) := fun i hi => by
    rw [List.getD_eq_getElem?_getD, List.getElem?_eq_getElem (by rw [← h.size]; exact hi)]; rfl
  exact ⟨b, o, e, fun i hi => hc i _ (hz i hi), fun i hi => h.ok _ (List.mem_of_getElem? (hz i hi))⟩
theorem sgn_few {zs : List Int} {n : Nat} (h : n = zs.length) (hn : n ≤ 8) : sgn zs = sgV n (getI (fun i => zs.getD i 0) n) := by
  unfold sgn cntN
  rw [← h, Nat.min_eq_left hn]
theorem sgn_many {zs : List Int} {n : Nat} (h : n = zs.length) (hn : 8 < n) : sgn zs = sgV 8 (getI (fun i => zs.getD i 0) 8) := by
  unfold sgn cntN
  rw [← h, Nat.min_eq_right (by omega)]
theorem sgn_none {zs : List Int} (h : 0 = zs.length) : sgn zs = 0 := sgn_few h (by omega)
theorem signed_n (a : Option Addr) (len cap : Nat) (zs : List Int) (W : World) (h : BytesAt W a len cap zs) : Calls Tryd.prog 83 #[.slice a len cap] W fun e w' => e = .returned (.int .i64 (sgn zs)) ∧ W = w' := by
  by_cases h0 : 0 < len
  · obtain ⟨b, o, rfl, hc, hb⟩ := at_cells h h0
    by_cases h8 : len ≤ 8
    · rw [sgn_few h.size h8]
      exact signed_few b o len cap _ W h8 h0 h.le h.fit hb hc
    · rw [sgn_many h.size (by omega)]
      exact signed_many b o len cap _ W (by omega) h.le h.fit (fun i hi => hb i (by omega)) (fun i hi => hc i (by omega))
  · obtain rfl : len = 0 := by omega
    rw [sgn_none h.size]
    cases a with
    | none => 
      have := h.nilc rfl
      subst this
      exact signed_nil W
    | some x => exact signed_zero x cap h.fit W
end Go.Proofs.YtjhjpllgoakncaaDoor.Mrm
