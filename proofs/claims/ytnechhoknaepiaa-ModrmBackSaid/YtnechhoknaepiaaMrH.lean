/-
  Layer 12: Signed where there is nothing; the document's own Signed. (Written by gen_mrh.py.)
-/
import Derived.Test.YtnechhoknaepiaaMrG
namespace Go.Proofs.Ytnechhoknaepiaa.Mrm
open Go.RowKit
set_option linter.unusedVariables false
set_option linter.unnecessarySimpa false
set_option linter.unusedSimpArgs false
set_option maxRecDepth 100000

theorem signed_nil (W : World) : Calls Try.prog 24 #[.slice none 0 0] W fun e w' => e = .returned (.int .i64 0) ∧ W = w' := by
  have U := Lib.hid (fun W => unused_n 0 (by omega) W)
  go_enter Try.func24, Try.ntmps24
  go_wp2
  go_rounds 1
  go_ret
  exact ⟨rfl, rfl⟩
theorem signed_zero (x : Addr) (cap : Nat) (hm : cap ≤ 9223372036854775807) (W : World) : Calls Try.prog 24 #[.slice (some x) 0 cap] W fun e w' => e = .returned (.int .i64 0) ∧ W = w' := by
  have U := Lib.hid (fun W => unused_n 0 (by omega) W)
  go_enter Try.func24, Try.ntmps24
  go_wp2
  go_rounds 1
  go_ret
  exact ⟨rfl, rfl⟩
theorem qsigned_nil (W : World) : Calls Try.prog 25 #[.slice none 0 0] W fun e w' => e = .returned (.int .i64 0) ∧ W = w' := by
  go_enter Try.func25, Try.ntmps25
  go_wp2
  go_ret
  exact ⟨rfl, rfl⟩
theorem qsigned_zero (x : Addr) (cap : Nat) (hm : cap ≤ 9223372036854775807) (W : World) : Calls Try.prog 25 #[.slice (some x) 0 cap] W fun e w' => e = .returned (.int .i64 0) ∧ W = w' := by
  go_enter Try.func25, Try.ntmps25
  go_wp2
  go_ret
  exact ⟨rfl, rfl⟩
theorem getI_cons (f : Nat → Int) : ∀ m : Nat, getI f (m + 1) = getI (fun i => f (i + 1)) m * 256 + f 0
  | 0 => by show (0 : Int) + f 0 * 2 ^ (8 * 0) = 0 * 256 + f 0; rw [show (2 : Int) ^ (8 * 0) = 1 from rfl]; omega
  | m + 1 => by
    show getI f (m + 1) + f (m + 1) * 2 ^ (8 * (m + 1)) = (getI (fun i => f (i + 1)) m + f (m + 1) * 2 ^ (8 * m)) * 256 + f 0
    rw [getI_cons f m, show 8 * (m + 1) = 8 * m + 8 by omega, Int.pow_add, show (2 : Int) ^ 8 = 256 from rfl, Int.add_mul, Int.mul_assoc]
    omega
theorem dn_step (u y : Int) (hu0 : 0 ≤ u) (hu1 : u < 72057594037927936) (hy0 : 0 ≤ y) (hy1 : y < 256) : bits .or .u64 (IntKind.u64.wrap (u * 256)) y = u * 256 + y := by
  rw [IntKind.wrap_u64, Int.emod_eq_of_lt (by omega) (by omega), u64_or _ _ (by omega) (by omega) hy0 (by omega)]
  obtain ⟨U, rfl⟩ := Int.eq_ofNat_of_zero_le hu0
  obtain ⟨Y, rfl⟩ := Int.eq_ofNat_of_zero_le hy0
  have d : Y < 2 ^ 8 := by omega
  rw [show ((U : Int) * 256).toNat = 2 ^ 8 * U by omega, Int.toNat_natCast, ← Nat.two_pow_add_eq_or_of_lt d]
  omega
theorem getI_lt (f : Nat → Int) (m : Nat) (h : m < 8) (hf : ∀ i, i < m → 0 ≤ f i ∧ f i < 256) : 0 ≤ getI f m ∧ getI f m < 72057594037927936 := by
  have b := getI_bd f m hf
  refine ⟨b.1, Int.lt_of_lt_of_le b.2 ?_⟩
  have := Nat.pow_le_pow_right (show 0 < 2 by omega) (show 8 * m ≤ 56 by omega)
  have e : ((2 ^ (8 * m) : Nat) : Int) ≤ ((2 ^ 56 : Nat) : Int) := by omega
  simpa using e
set_option maxHeartbeats 2000000 in
theorem qsigned_few (b o len cap : Nat) (f : Nat → Int) (W : World) (hl : len ≤ 8) (h1 : 1 ≤ len) (hc : len ≤ cap) (hm : cap ≤ 9223372036854775807) (hf : ∀ i, i < len → 0 ≤ f i ∧ f i < 256) (hcell : ∀ i, i < len → W.cell? ⟨b, o + i, none⟩ = some (.int .u8 (f i))) :
    Calls Try.prog 25 #[.slice (some ⟨b, o, none⟩) len cap] W fun e w' => e = .returned (.int .i64 (sgV len (getI f len))) ∧ W = w' := by
  have HC := Lib.hid hcell; clear hcell
  have HF := Lib.hid hf; clear hf
  have h3 : ((len : Int) == 0) = false := by simpa using (by omega : ¬ len = 0)
  go_enter Try.func25, Try.ntmps25
  go_wp2
  go_loop [4, 5] (fun u i => ∃ j : Nat, j ≤ len ∧ i = .int .i64 ((j : Int) - 1) ∧ u = .int .u64 (getI (fun t => f (j + t)) (len - j))) (fun _ i => (intOf i + 1).toNat)
  case atStart => exact ⟨len, by omega, by go_num, by rw [Nat.sub_self]; rfl⟩
  case round =>
    obtain ⟨j, hj, rfl, rfl⟩ := hrel
    by_cases h0 : j = 0
    · subst h0
      have HG := Lib.hid (getI_bd f len (fun i hi => HF.out i (by omega)))
      have HS := Lib.hid (sg_is len (getI f len) (by omega) (by omega) HG.out.1 HG.out.2)
      have EG := Lib.hid (show getI (fun t => f (0 + t)) (len - 0) = getI f len by rw [Nat.sub_zero]; congr 1; funext t; rw [Nat.zero_add])
      rw [EG.out]
      go_wp2
      go_ret
      exact ⟨retV (congrArg (Value.int .i64) HS.out), rfl⟩
    · obtain ⟨p, rfl⟩ : ∃ p, j = p + 1 := ⟨j - 1, by omega⟩
      have HB := Lib.hid (getI_lt (fun t => f (p + 1 + t)) (len - (p + 1)) (by omega) (fun i hi => HF.out _ (by omega)))
      have hy := HF.out p (by omega)
      have HS := Lib.hid (dn_step _ (f p) HB.out.1 HB.out.2 hy.1 hy.2)
      have EN := Lib.hid (show getI (fun t => f (p + 1 + t)) (len - (p + 1)) * 256 + f p = getI (fun t => f (p + t)) (len - p) by
        rw [show len - p = len - (p + 1) + 1 by omega, getI_cons]
        have ef : (fun i => f (p + (i + 1))) = fun t => f (p + 1 + t) := by funext t; rw [show p + (t + 1) = p + 1 + t by omega]
        show _ = getI (fun i => f (p + (i + 1))) _ * 256 + f p
        rw [ef])
      have hx := HC.out p (by omega)
      have hy0 := hy.1
      have hy1 := hy.2
      have hp : p < len := by omega
      clear hy h0
      rw [show (((p + 1 : Nat) : Int) - 1) = (p : Int) by omega]
      generalize getI (fun t => f (p + 1 + t)) (len - (p + 1)) = g at *
      go_wp2
      go_round
      case rel => exact ⟨p, by omega, by go_num, by rw [← EN.out]; exact congrArg (Value.int .u64) HS.out⟩
      case measure => simp [intOf] <;> omega
set_option maxHeartbeats 2000000 in
theorem qsigned_many (b o len cap : Nat) (f : Nat → Int) (W : World) (hl : 8 < len) (hc : len ≤ cap) (hm : cap ≤ 9223372036854775807) (hf : ∀ i, i < 8 → 0 ≤ f i ∧ f i < 256) (hcell : ∀ i, i < 8 → W.cell? ⟨b, o + i, none⟩ = some (.int .u8 (f i))) :
    Calls Try.prog 25 #[.slice (some ⟨b, o, none⟩) len cap] W fun e w' => e = .returned (.int .i64 (sgV 8 (getI f 8))) ∧ W = w' := by
  have HC := Lib.hid hcell; clear hcell
  have HF := Lib.hid hf; clear hf
  go_enter Try.func25, Try.ntmps25
  go_wp2
  go_loop [4, 5] (fun u i => ∃ j : Nat, j ≤ 8 ∧ i = .int .i64 ((j : Int) - 1) ∧ u = .int .u64 (getI (fun t => f (j + t)) (8 - j))) (fun _ i => (intOf i + 1).toNat)
  case atStart => exact ⟨8, by omega, by go_num, by rw [Nat.sub_self]; rfl⟩
  case round =>
    obtain ⟨j, hj, rfl, rfl⟩ := hrel
    by_cases h0 : j = 0
    · subst h0
      have HG := Lib.hid (getI_bd f 8 (fun i hi => HF.out i (by omega)))
      have HS := Lib.hid (sg_8 (getI f 8) HG.out.1 HG.out.2)
      have EG := Lib.hid (show getI (fun t => f (0 + t)) (8 - 0) = getI f 8 by rw [Nat.sub_zero]; congr 1; funext t; rw [Nat.zero_add])
      rw [EG.out]
      go_wp2
      go_ret
      exact ⟨retV (congrArg (Value.int .i64) HS.out), rfl⟩
    · obtain ⟨p, rfl⟩ : ∃ p, j = p + 1 := ⟨j - 1, by omega⟩
      have HB := Lib.hid (getI_lt (fun t => f (p + 1 + t)) (8 - (p + 1)) (by omega) (fun i hi => HF.out _ (by omega)))
      have hy := HF.out p (by omega)
      have HS := Lib.hid (dn_step _ (f p) HB.out.1 HB.out.2 hy.1 hy.2)
      have EN := Lib.hid (show getI (fun t => f (p + 1 + t)) (8 - (p + 1)) * 256 + f p = getI (fun t => f (p + t)) (8 - p) by
        rw [show 8 - p = 8 - (p + 1) + 1 by omega, getI_cons]
        have ef : (fun i => f (p + (i + 1))) = fun t => f (p + 1 + t) := by funext t; rw [show p + (t + 1) = p + 1 + t by omega]
        show _ = getI (fun i => f (p + (i + 1))) _ * 256 + f p
        rw [ef])
      have hx := HC.out p (by omega)
      have hy0 := hy.1
      have hy1 := hy.2
      have hp : p < len := by omega
      clear hy h0
      rw [show (((p + 1 : Nat) : Int) - 1) = (p : Int) by omega]
      generalize getI (fun t => f (p + 1 + t)) (8 - (p + 1)) = g at *
      go_wp2
      go_round
      case rel => exact ⟨p, by omega, by go_num, by rw [← EN.out]; exact congrArg (Value.int .u64) HS.out⟩
      case measure => simp [intOf] <;> omega
theorem at_cells {W : World} {a : Option Addr} {len cap : Nat} {zs : List Int} (h : BytesAt W a len cap zs) (h0 : 0 < len) : ∃ b o, a = some ⟨b, o, none⟩ ∧ (∀ i, i < len → W.cell? ⟨b, o + i, none⟩ = some (.int .u8 (zs.getD i 0))) ∧ ∀ i, i < len → 0 ≤ zs.getD i 0 ∧ zs.getD i 0 < 256 := by
  obtain ⟨b, o, e, hc⟩ := h.here h0
  have hz : ∀ i, i < len → zs[i]? = some (zs.getD i 0) := fun i hi => by
    rw [List.getD_eq_getElem?_getD, List.getElem?_eq_getElem (by rw [← h.size]; exact hi)]; rfl
  exact ⟨b, o, e, fun i hi => hc i _ (hz i hi), fun i hi => h.ok _ (List.mem_of_getElem? (hz i hi))⟩
theorem sgn_few {zs : List Int} {n : Nat} (h : n = zs.length) (hn : n ≤ 8) : sgn zs = sgV n (getI (fun i => zs.getD i 0) n) := by
  unfold sgn cntN
  rw [← h, Nat.min_eq_left hn]
theorem sgn_many {zs : List Int} {n : Nat} (h : n = zs.length) (hn : 8 < n) : sgn zs = sgV 8 (getI (fun i => zs.getD i 0) 8) := by
  unfold sgn cntN
  rw [← h, Nat.min_eq_right (by omega)]
theorem sgn_none {zs : List Int} (h : 0 = zs.length) : sgn zs = 0 := sgn_few h (by omega)
theorem signed_n (a : Option Addr) (len cap : Nat) (zs : List Int) (W : World) (h : BytesAt W a len cap zs) : Calls Try.prog 24 #[.slice a len cap] W fun e w' => e = .returned (.int .i64 (sgn zs)) ∧ W = w' := by
  by_cases h0 : 0 < len
  · obtain ⟨b, o, rfl, hc, hb⟩ := at_cells h h0
    by_cases h8 : len ≤ 8
    · rw [sgn_few h.size h8]
      exact signed_few b o len cap _ W h8 h0 h.le h.fit hb hc
    · rw [sgn_many h.size (by omega)]
      exact signed_many b o len cap _ W (by omega) h.le h.fit (fun i hi => hb i (by omega)) (fun i hi => hc i (by omega))
  · obtain rfl : len = 0 := by omega
    rw [sgn_none h.size]
    cases a with
    | none => 
      have := h.nilc rfl
      subst this
      exact signed_nil W
    | some x => exact signed_zero x cap h.fit W
theorem qsigned_n (a : Option Addr) (len cap : Nat) (zs : List Int) (W : World) (h : BytesAt W a len cap zs) : Calls Try.prog 25 #[.slice a len cap] W fun e w' => e = .returned (.int .i64 (sgn zs)) ∧ W = w' := by
  by_cases h0 : 0 < len
  · obtain ⟨b, o, rfl, hc, hb⟩ := at_cells h h0
    by_cases h8 : len ≤ 8
    · rw [sgn_few h.size h8]
      exact qsigned_few b o len cap _ W h8 h0 h.le h.fit hb hc
    · rw [sgn_many h.size (by omega)]
      exact qsigned_many b o len cap _ W (by omega) h.le h.fit (fun i hi => hb i (by omega)) (fun i hi => hc i (by omega))
  · obtain rfl : len = 0 := by omega
    rw [sgn_none h.size]
    cases a with
    | none => 
      have := h.nilc rfl
      subst this
      exact qsigned_nil W
    | some x => exact qsigned_zero x cap h.fit W
end Go.Proofs.Ytnechhoknaepiaa.Mrm
