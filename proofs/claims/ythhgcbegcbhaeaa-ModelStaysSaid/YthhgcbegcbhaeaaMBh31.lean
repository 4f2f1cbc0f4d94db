/-
  Several texts in one: BitsBytesM, InsH, InsT.
-/
import Derived.Test.YthhgcbegcbhaeaaMBh11
import Derived.Test.YthhgcbegcbhaeaaMBh06
import Derived.Deep.MidRow
set_option linter.unusedVariables false
set_option linter.unusedSimpArgs false
set_option linter.unnecessarySimpa false
namespace Go.Proofs.Ythhgcbegcbhaeaa
open Go.RowKit
set_option linter.unusedVariables false

theorem mod_step (v q : Int) (hv : 0 ≤ v) (hq : 0 ≤ q) : v % (q * 256) = v % q + v / q % 256 * q := by
  obtain ⟨V, rfl⟩ := Int.eq_ofNat_of_zero_le hv
  obtain ⟨Q, rfl⟩ := Int.eq_ofNat_of_zero_le hq
  have h : V % (Q * 256) = V % Q + Q * (V / Q % 256) := Nat.mod_mul
  have g : ((V % (Q * 256) : Nat) : Int) = ((V % Q + Q * (V / Q % 256) : Nat) : Int) := by rw [h]
  rw [Nat.mul_comm Q (V / Q % 256)] at g
  simpa using g
theorem pow_step (k : Nat) : (2 : Int) ^ (8 * (k + 1)) = 2 ^ (8 * k) * 256 := by rw [show 8 * (k + 1) = 8 * k + 8 by omega, Int.pow_add]; rfl
theorem bytes_back (v : Int) (hv : 0 ≤ v) : ∀ m : Nat, getI (byteI v) m = v % 2 ^ (8 * m)
  | 0 => by show (0 : Int) = v % 1; omega
  | m + 1 => by
    show getI (byteI v) m + byteI v m * 2 ^ (8 * m) = _
    rw [bytes_back v hv m, pow_step, mod_step v _ hv (Int.le_of_lt (Int.pow_pos (by omega)))]; rfl
theorem byte_of (f : Nat → Int) : ∀ k : Nat, (∀ i, i < k → 0 ≤ f i ∧ f i < 256) → ∀ i, i < k → byteI (getI f k) i = f i
  | 0, _, i, hi => by omega
  | k + 1, h, i, hi => by
    have b := getI_bd f k (fun i hi => h i (by omega))
    have p : (0 : Int) < 2 ^ (8 * i) := Int.pow_pos (by omega)
    by_cases e : i = k
    · subst e
      show (getI f i + f i * 2 ^ (8 * i)) / 2 ^ (8 * i) % 256 = f i
      rw [Int.add_mul_ediv_right _ _ (by omega), Int.ediv_eq_zero_of_lt b.1 b.2]
      have := h i hi
      omega
    · have ih := byte_of f k (fun i hi => h i (by omega)) i (by omega)
      show (getI f k + f k * 2 ^ (8 * k)) / 2 ^ (8 * i) % 256 = f i
      have s : (2 : Int) ^ (8 * k) = 2 ^ (8 * (k - i - 1)) * 256 * 2 ^ (8 * i) := by
        rw [← pow_step, ← Int.pow_add]; congr 1; omega
      rw [s, ← Int.mul_assoc, Int.add_mul_ediv_right _ _ (by omega), ← Int.mul_assoc, Int.add_mul_emod_self_right]
      exact ih
theorem and_low (v : Int) (m : Nat) (hm : m < 8) (h0 : 0 ≤ v) (h1 : v < 18446744073709551616) : bits .and .u64 v (2 ^ (8 * m) - 1) = v % 2 ^ (8 * m) := by
  have p : (0 : Int) < 2 ^ (8 * m) := Int.pow_pos (by omega)
  have q : (2 : Int) ^ (8 * m) ≤ 2 ^ 56 := by
    have := Nat.pow_le_pow_right (show 0 < 2 by omega) (show 8 * m ≤ 56 by omega)
    have e : ((2 ^ (8 * m) : Nat) : Int) ≤ ((2 ^ 56 : Nat) : Int) := by omega
    simpa using e
  have r : (2 : Int) ^ 56 = 72057594037927936 := rfl
  rw [u64_and v _ h0 h1 (by omega) (by omega)]
  obtain ⟨V, rfl⟩ := Int.eq_ofNat_of_zero_le h0
  have c : ((2 : Int) ^ (8 * m) - 1).toNat = 2 ^ (8 * m) - 1 := by
    have e : (2 : Int) ^ (8 * m) = ((2 ^ (8 * m) : Nat) : Int) := by simp
    rw [e]; omega
  rw [c, Int.toNat_natCast, Nat.and_two_pow_sub_one_eq_mod]
  simp

theorem bd_i64 {a : Int} (h : (Lit.int .i64 a).wf = true) : -9223372036854775808 ≤ a ∧ a ≤ 9223372036854775807 := by
  simpa [Lit.wf, IntKind.min, IntKind.max, IntKind.bits, IntKind.signed] using h

theorem lt_of_cell {w : World} {b o : Nat} {v : Value} (h : w.cell? ⟨b, o, none⟩ = some v) : b < w.heap.size := by
  rcases Nat.lt_or_ge b w.heap.size with h' | h'
  · exact h'
  · have : w.heap[b]? = none := Array.getElem?_eq_none h'
    simp [World.cell?, this] at h
theorem get_bd (f : Nat → Int) (k : Nat) (hk : k ≤ 8) (h : ∀ i, i < k → 0 ≤ f i ∧ f i < 256) : 0 ≤ getI f k ∧ getI f k < 18446744073709551616 := by
  have b := getI_bd f k h
  refine ⟨b.1, Int.lt_of_lt_of_le b.2 ?_⟩
  have := Nat.pow_le_pow_right (show 0 < 2 by omega) (show 8 * k ≤ 64 by omega)
  have e : ((2 ^ (8 * k) : Nat) : Int) ≤ ((2 ^ 64 : Nat) : Int) := by omega
  simpa using e


theorem bd_u8' {a : Int} (h : (Lit.int .u8 a).wf = true) : 0 ≤ a ∧ a < 256 := by
  have : 0 ≤ a ∧ a ≤ 255 := by simpa [Lit.wf, IntKind.min, IntKind.max, IntKind.bits, IntKind.signed] using h
  omega
theorem get_row (v : Int) (m B : Nat) (w : World) (X : Int) (h8 : m ≤ 8) (hr : w.rowIs B 5 m (fun i => .int .u8 (byteI v i))) (hX : getI (byteI v) m = X) :
    Calls Try.prog 71 #[.slice (some ⟨B, 0, none⟩) m m] w fun e w' => e = .returned (.int .u64 X) ∧ w = w' := by
  rw [← hX]
  exact get_few B 0 m m (byteI v) w h8 (Nat.le_refl _) (by omega) (fun i hi => by unfold byteI; omega) (fun i hi => by rw [Nat.zero_add]; exact hr.cell hi)
theorem want_mid (v : Int) (m : Nat) (h8 : m < 8) (h0 : 0 ≤ v) (h1 : v < 18446744073709551616) : (v % 2 ^ (8 * m) == bits BinOp.and IntKind.u64 v (IntKind.u64.wrap (IntKind.u64.wrap (2 ^ (8 * m)) - 1))) = true := by
  have p : (0 : Int) < 2 ^ (8 * m) := Int.pow_pos (by omega)
  have q : (2 : Int) ^ (8 * m) ≤ 2 ^ 56 := by
    have := Nat.pow_le_pow_right (show 0 < 2 by omega) (show 8 * m ≤ 56 by omega)
    have e : ((2 ^ (8 * m) : Nat) : Int) ≤ ((2 ^ 56 : Nat) : Int) := by omega
    simpa using e
  have r : (2 : Int) ^ 56 = 72057594037927936 := rfl
  have e1 : IntKind.u64.wrap (2 ^ (8 * m)) = 2 ^ (8 * m) := by rw [IntKind.wrap_u64]; exact Int.emod_eq_of_lt (by omega) (by omega)
  have e2 : IntKind.u64.wrap (2 ^ (8 * m) - 1) = 2 ^ (8 * m) - 1 := by rw [IntKind.wrap_u64]; exact Int.emod_eq_of_lt (by omega) (by omega)
  rw [e1, e2, and_low v m h8 h0 h1]
  exact beq_self_eq_true _
theorem and_zero (v : Int) (h0 : 0 ≤ v) (h1 : v < 18446744073709551616) : bits .and .u64 v 0 = 0 := by
  rw [u64_and v 0 h0 h1 (by omega) (by omega)]; simp
end Go.Proofs.Ythhgcbegcbhaeaa

namespace Go.Proofs.Ythhgcbegcbhaeaa.Ins
open Go.RowKit
set_option linter.unusedVariables false

/-- A slice of instructions that can be read. -/
structure Insts (W : World) (a : Option Addr) (len cap : Nat) (xs : Nat → In) : Prop where
  le : len ≤ cap
  fit : cap ≤ 9223372036854775807
  here : 0 < len → ∃ b o, a = some ⟨b, o, none⟩ ∧ ∀ i, i < len → W.rangeAt b (o + i * 9) (xs i).cells.toList
  ok : ∀ i, i < len → (xs i).Ok

theorem rangeAt_below {W w : World} {b o : Nat} {cs : List Value} (h : Below W.heap.size W w) (hc : W.rangeAt b o cs) : w.rangeAt b o cs := fun j v hv => by
  have := hc j v hv
  exact (h.cell (p := ⟨b, o + j, none⟩) (lt_of_cell this)).trans this

theorem Insts.below {W w : World} {a : Option Addr} {len cap : Nat} {xs : Nat → In} (h : Insts W a len cap xs) (b : Below W.heap.size W w) : Insts w a len cap xs :=
  ⟨h.le, h.fit, fun hp => by
    obtain ⟨b', o, e, hc⟩ := h.here hp
    exact ⟨b', o, e, fun i hi => rangeAt_below b (hc i hi)⟩, h.ok⟩
/-- The first that is not 0. -/
def firstF (f : Nat → Int) : Nat → Nat → Int × Int
  | 0, _ => (0, 0)
  | n + 1, k => if f k = 0 then firstF f n (k + 1) else ((k : Int), f k)

theorem one_cells (x : In) : x.cells.all (·.oneCell') = true := by simp [In.cells, Value.oneCell']

theorem firstF_zero (f : Nat → Int) : ∀ n k, (firstF f n k).2 = 0 → firstF f n k = (0, 0)
  | 0, k, _ => rfl
  | n + 1, k, h => by
    unfold firstF at *
    by_cases h0 : f k = 0
    · rw [if_pos h0] at h ⊢; exact firstF_zero f n (k + 1) h
    · rw [if_neg h0] at h; exact absurd h h0
theorem firstF_all (f : Nat → Int) : ∀ n k, (firstF f n k).2 = 0 → ∀ i, k ≤ i → i < k + n → f i = 0
  | 0, k, _, i, h1, h2 => by omega
  | n + 1, k, h, i, h1, h2 => by
    unfold firstF at h
    by_cases h0 : f k = 0
    · rw [if_pos h0] at h
      by_cases e : i = k
      · subst e; exact h0
      · exact firstF_all f n (k + 1) h i (by omega) (by omega)
    · rw [if_neg h0] at h; exact absurd h h0
set_option maxRecDepth 100000 in
set_option maxHeartbeats 2000000 in
theorem first_any (a : Option Addr) (len cap : Nat) (xs : Nat → In) (n : Int) (b o : Nat) (W : World) (hx : Insts W a len cap xs) (hn : W.cell? ⟨b, o, none⟩ = some (.int .i64 n)) :
    Calls Try.prog 50 #[.slice a len cap, .func (.func 51) #[] #[.pointer (some ⟨b, o, none⟩)]] W fun e w' => e = .returned (.tuple #[.int .i64 (firstF (fun i => faultI i (xs i) n) len 0).1, .int .i64 (firstF (fun i => faultI i (xs i) n) len 0).2]) ∧ Below W.heap.size W w' := by
  have l1 := hx.le
  have l2 := hx.fit
  have HX := Lib.hid hx; clear hx
  have hb : b < W.heap.size := lt_of_cell hn
  have HN := Lib.hid hn; clear hn
  generalize hf : (fun i : Nat => faultI i (xs i) n) = f
  have HF := Lib.hid hf; clear hf
  go_enter Try.func50, Try.ntmps50
  go_wp2_with fail
  go_loopw [11] (fun i wr => ∃ k : Nat, k ≤ len ∧ i = .int .i64 k ∧ Hid (Below W.heap.size W wr ∧ firstF f len 0 = firstF f (len - k) k)) (fun i _ => len - (intOf i).toNat)
  case atStart => exact ⟨0, by omega, rfl, Lib.hid ⟨Below.refl _ _, by rw [Nat.sub_zero]⟩⟩
  case round =>
    obtain ⟨k, hk, rfl, hR⟩ := hrel
    by_cases hlt : k < len
    · obtain ⟨B, q, rfl, hcells⟩ := HX.out.here (by omega)
      have HA := Lib.hid (rangeAt_below hR.out.1 (hcells k hlt))
      have HC := Lib.hid (fun W b o hn => handed_any k (xs k) n b o W hn)
      have hfk : faultI k (xs k) n = f k := by rw [← HF.out]
      rw [hfk] at HC
      have h9 : (xs k).cells.toList.length = 9 := rfl
      have i9 : (Try.prog.info? 55).map (·.size) = some (xs k).cells.toList.length := info_ins
      have HI := Lib.hid i9; clear i9 hcells hfk
      go_wp2_with (first | (refine wpList_load_mid rfl 55 _ rfl B (q + k * 9) rfl (xs k).cells.toList _ HA.out Try.underlying55 rfl HI.out ?_) | (refine (halt_store 55 _ _ rfl ?_)))
      refine ⟨?_, trivial⟩
      refine wpList_store_is rfl 55 _ _ rfl wr.heap.size (xs k).cells rfl rfl 55 _ (heap_last wr _ _ rfl) HI.out rfl (one_cells _) ?_
      intro w1 s1
      have W1 := Lib.hid (s1.below (below_new hR.out.1 _) hR.out.1.size)
      have R1 := Lib.hid s1.row
      have N1 := Lib.hid ((W1.out.cell (p := ⟨b, o, none⟩) hb).trans HN.out)
      have HE := Lib.hid hR.out.2
      clear s1 hR
      generalize wr.heap.size = X at *
      generalize (xs k).cells = c at *
      go_wp2_with (refine (halt_load 55 _ rfl ?_))
      refine ⟨?_, trivial⟩
      refine wpList_load_row rfl 55 _ rfl X rfl _ c _ _ R1.out Try.underlying55 rfl HI.out ?_
      go_wp2_with fail
      refine (HC.out _ b o N1.out).mono ?_
      rintro e w2 ⟨rfl, b2⟩
      have W2 := Lib.hid (below_call W1.out b2); clear b2
      clear HC HI R1 N1 HA
      have hs : len - k = (len - (k + 1)) + 1 := by omega
      have hst : firstF f (len - k) k = if f k = 0 then firstF f (len - (k + 1)) (k + 1) else ((k : Int), f k) := by rw [hs]; rfl
      have HS := Lib.hid hst; clear hst hs HF
      by_cases h0 : f k = 0
      · have e0 : (f k != 0) = false := by simpa using h0
        have H0 := Lib.hid h0; clear h0
        go_wp2_with fail
        go_roundw
        case rel => exact ⟨k + 1, by omega, by go_num, Lib.hid ⟨W2.out, by rw [HE.out, HS.out, if_pos H0.out]⟩⟩
        case measure => simp [intOf]; omega
      · have e0 : (f k != 0) = true := by simpa using h0
        have H0 := Lib.hid h0; clear h0
        go_wp2_with fail
        go_ret2
        exact ⟨by rw [HE.out, HS.out, if_neg H0.out]; rfl, W2.out⟩
    · obtain rfl : k = len := by omega
      have HE := Lib.hid hR.out.2
      have W2 := Lib.hid hR.out.1
      clear hR
      go_wp2_with fail
      go_ret2
      exact ⟨by rw [HE.out, Nat.sub_self]; rfl, W2.out⟩

/-- What is wrong with a program, and where. -/
def checkI (c : Int) (len : Nat) (xs : Nat → In) : Int × Int :=
  if c < 0 ∨ 256 < c then (0, 2) else if len < 1 ∨ 64 < len then (0, 3)
  else if (firstF (fun i => faultI i (xs i) len) len 0).2 ≠ 0 then firstF (fun i => faultI i (xs i) len) len 0
  else if (xs (len - 1)).kind = 4 ∨ (xs (len - 1)).kind = 6 then (0, 0) else ((len : Int) - 1, 33)

set_option maxRecDepth 100000 in
set_option maxHeartbeats 2000000 in
theorem check_lim (c : Int) (a : Option Addr) (len cap : Nat) (r : Int) (W : World) (hr : (if c < 0 ∨ 256 < c then (2 : Int) else if (len : Int) < 1 ∨ 64 < (len : Int) then 3 else 0) = r) (h0 : ¬ r = 0) :
    Calls Try.prog 28 #[.agg #[.int .i64 c, .slice a len cap]] W fun e w' => e = .returned (.tuple #[.int .i64 0, .int .i64 r]) ∧ Below W.heap.size W w' := by
  have L := Lib.hid (limits_any c len)
  rw [hr] at L
  have e0 : (r != 0) = true := by simpa using h0
  clear hr h0
  go_enter Try.func28, Try.ntmps28
  go_wp2_with fail
  refine (L.out _).mono ?_
  rintro e w' ⟨rfl, rfl⟩
  go_wp2_with fail
  go_ret2
  exact ⟨rfl, below_new (below_new (Below.refl _ _) _) _⟩

set_option maxRecDepth 100000 in
set_option maxHeartbeats 2000000 in
theorem check_first (c : Int) (a : Option Addr) (len cap : Nat) (xs : Nat → In) (W : World) (hx : Insts W a len cap xs) (hr : (if c < 0 ∨ 256 < c then (2 : Int) else if (len : Int) < 1 ∨ 64 < (len : Int) then 3 else 0) = 0)
    (i r : Int) (hf : firstF (fun i => faultI i (xs i) len) len 0 = (i, r)) (h0 : ¬ r = 0) :
    Calls Try.prog 28 #[.agg #[.int .i64 c, .slice a len cap]] W fun e w' => e = .returned (.tuple #[.int .i64 i, .int .i64 r]) ∧ Below W.heap.size W w' := by
  have L := Lib.hid (limits_any c len)
  rw [hr] at L
  have e0 : (r != 0) = true := by simpa using h0
  have F := Lib.hid (fun b o W (h : Insts W a len cap xs) hn => first_any a len cap xs len b o W h hn)
  rw [hf] at F
  have HX := Lib.hid hx
  have hmf : ∀ (fn : Fn) (first cap : Array Value) (w : World), (Instr.makeFunc fn first cap).run Try.prog w = .ok (.func fn first cap) w := fun _ _ _ _ => rfl
  clear hr h0 hf hx
  go_enter Try.func28, Try.ntmps28
  go_wp2_with fail
  refine (L.out _).mono ?_
  rintro e w' ⟨rfl, rfl⟩
  go_wp2_with fail
  refine (F.out _ _ _ (HX.out.below (below_new (below_new (Below.refl _ _) _) _)) (by simp)).mono ?_
  rintro e w1 ⟨rfl, b1⟩
  have B1 := Lib.hid (below_call (below_new (below_new (Below.refl _ W) _) _) b1); clear b1
  go_wp2_with fail
  go_ret2
  exact ⟨rfl, B1.out⟩

set_option maxRecDepth 100000 in
set_option maxHeartbeats 2000000 in
theorem check_last (c : Int) (a : Option Addr) (len cap : Nat) (xs : Nat → In) (W : World) (hx : Insts W a len cap xs) (hr : (if c < 0 ∨ 256 < c then (2 : Int) else if (len : Int) < 1 ∨ 64 < (len : Int) then 3 else 0) = 0)
    (hf : firstF (fun i => faultI i (xs i) len) len 0 = (0, 0)) (h1 : 1 ≤ len) (h64 : len ≤ 64) :
    Calls Try.prog 28 #[.agg #[.int .i64 c, .slice a len cap]] W fun e w' => e = .returned (.tuple (if (xs (len - 1)).kind = 4 ∨ (xs (len - 1)).kind = 6 then #[.int .i64 0, .int .i64 0] else #[.int .i64 ((len : Int) - 1), .int .i64 33])) ∧ Below W.heap.size W w' := by
  have L := Lib.hid (limits_any c len)
  rw [hr] at L
  have F := Lib.hid (fun b o W (h : Insts W a len cap xs) hn => first_any a len cap xs len b o W h hn)
  rw [hf] at F
  obtain ⟨B, o, rfl, hcells⟩ := hx.here (by omega)
  have hk : W.cell? ⟨B, o + (len - 1) * 9, none⟩ = some (.int .i8 (xs (len - 1)).kind) := hcells (len - 1) (by omega) 0 (.int .i8 (xs (len - 1)).kind) rfl
  have hB := lt_of_cell hk
  have hle := hx.le
  have hfit := hx.fit
  have HX := Lib.hid hx
  have HK := Lib.hid hk
  have hmf : ∀ (fn : Fn) (first cap : Array Value) (w : World), (Instr.makeFunc fn first cap).run Try.prog w = .ok (.func fn first cap) w := fun _ _ _ _ => rfl
  clear hr hf hx hcells hk
  generalize (xs (len - 1)).kind = kd at *
  obtain ⟨m, rfl⟩ : ∃ m, len = m + 1 := ⟨len - 1, by omega⟩
  have em : ((m + 1 : Nat) : Int) - 1 = (m : Int) := by omega
  rw [Nat.add_sub_cancel] at HK
  have hc : (kd = 4) ∨ (¬ kd = 4 ∧ kd = 6) ∨ (¬ kd = 4 ∧ ¬ kd = 6) := by omega
  rcases hc with rfl | ⟨h4, rfl⟩ | ⟨h4, h6⟩
  · rw [if_pos (.inl rfl)]
    go_enter Try.func28, Try.ntmps28
    go_wp2_with fail
    refine (L.out _).mono ?_
    rintro e w' ⟨rfl, rfl⟩
    go_wp2_with fail
    refine (F.out _ _ _ (HX.out.below (below_new (below_new (Below.refl _ _) _) _)) (by simp)).mono ?_
    rintro e w1 ⟨rfl, b1⟩
    have B1 := Lib.hid (below_call (below_new (below_new (Below.refl _ W) _) _) b1)
    have hK := (B1.out.cell (p := ⟨B, o + m * 9, none⟩) hB).trans HK.out
    have hL : w1.cell? ⟨W.heap.size + 1, 0, none⟩ = some (.int .i64 ((m + 1 : Nat) : Int)) := (b1.cell (by simp)).trans (by simp)
    have hP : w1.cell? ⟨W.heap.size, 1, none⟩ = some (.slice (some ⟨B, o, none⟩) (m + 1) cap) := (b1.cell (by simp; omega)).trans (by simp)
    clear b1
    go_wp2_with fail
    go_ret2
    exact ⟨by first | rfl | (rw [em]; rfl), B1.out⟩
  · rw [if_pos (.inr rfl)]
    go_enter Try.func28, Try.ntmps28
    go_wp2_with fail
    refine (L.out _).mono ?_
    rintro e w' ⟨rfl, rfl⟩
    go_wp2_with fail
    refine (F.out _ _ _ (HX.out.below (below_new (below_new (Below.refl _ _) _) _)) (by simp)).mono ?_
    rintro e w1 ⟨rfl, b1⟩
    have B1 := Lib.hid (below_call (below_new (below_new (Below.refl _ W) _) _) b1)
    have hK := (B1.out.cell (p := ⟨B, o + m * 9, none⟩) hB).trans HK.out
    have hL : w1.cell? ⟨W.heap.size + 1, 0, none⟩ = some (.int .i64 ((m + 1 : Nat) : Int)) := (b1.cell (by simp)).trans (by simp)
    have hP : w1.cell? ⟨W.heap.size, 1, none⟩ = some (.slice (some ⟨B, o, none⟩) (m + 1) cap) := (b1.cell (by simp; omega)).trans (by simp)
    clear b1
    go_wp2_with fail
    go_ret2
    exact ⟨by first | rfl | (rw [em]; rfl), B1.out⟩
  · rw [if_neg (by omega)]
    have e4 : (kd != 4) = true := by simpa using h4
    have e6 : (kd != 6) = true := by simpa using h6
    go_enter Try.func28, Try.ntmps28
    go_wp2_with fail
    refine (L.out _).mono ?_
    rintro e w' ⟨rfl, rfl⟩
    go_wp2_with fail
    refine (F.out _ _ _ (HX.out.below (below_new (below_new (Below.refl _ _) _) _)) (by simp)).mono ?_
    rintro e w1 ⟨rfl, b1⟩
    have B1 := Lib.hid (below_call (below_new (below_new (Below.refl _ W) _) _) b1)
    have hK := (B1.out.cell (p := ⟨B, o + m * 9, none⟩) hB).trans HK.out
    have hL : w1.cell? ⟨W.heap.size + 1, 0, none⟩ = some (.int .i64 ((m + 1 : Nat) : Int)) := (b1.cell (by simp)).trans (by simp)
    have hP : w1.cell? ⟨W.heap.size, 1, none⟩ = some (.slice (some ⟨B, o, none⟩) (m + 1) cap) := (b1.cell (by simp; omega)).trans (by simp)
    clear b1
    go_wp2_with fail
    go_ret2
    exact ⟨by first | rfl | (rw [em]; rfl), B1.out⟩

theorem check_any (c : Int) (a : Option Addr) (len cap : Nat) (xs : Nat → In) (W : World) (hx : Insts W a len cap xs) :
    Calls Try.prog 28 #[.agg #[.int .i64 c, .slice a len cap]] W fun e w' => e = .returned (.tuple #[.int .i64 (checkI c len xs).1, .int .i64 (checkI c len xs).2]) ∧ Below W.heap.size W w' := by
  unfold checkI
  by_cases h1 : c < 0 ∨ 256 < c
  · rw [if_pos h1]
    exact check_lim c a len cap 2 W (by rw [if_pos h1]) (by omega)
  by_cases h2 : len < 1 ∨ 64 < len
  · rw [if_neg h1, if_pos h2]
    exact check_lim c a len cap 3 W (by rw [if_neg h1, if_pos (by omega)]) (by omega)
  rw [if_neg h1, if_neg h2]
  have hr : (if c < 0 ∨ 256 < c then (2 : Int) else if (len : Int) < 1 ∨ 64 < (len : Int) then 3 else 0) = 0 := by rw [if_neg h1, if_neg (by omega)]
  by_cases h3 : (firstF (fun i => faultI i (xs i) len) len 0).2 ≠ 0
  · rw [if_pos h3]
    exact check_first c a len cap xs W hx hr _ _ rfl h3
  · rw [if_neg h3]
    have hf : firstF (fun i => faultI i (xs i) len) len 0 = (0, 0) := firstF_zero _ _ _ (by omega)
    have := check_last c a len cap xs W hx hr hf (by omega) (by omega)
    refine this.mono ?_
    rintro e w' ⟨rfl, b⟩
    refine ⟨?_, b⟩
    split <;> rfl
end Go.Proofs.Ythhgcbegcbhaeaa.Ins

namespace Go.Proofs.Ythhgcbegcbhaeaa.Ins
open Go.RowKit
set_option linter.unusedVariables false

/-- What is known of an instruction of a program that may be. -/
theorem ends_facts {c : Int} {len : Nat} {xs : Nat → In} (h : (checkI c len xs).2 = 0) : 1 ≤ len ∧ len ≤ 64 ∧ ∀ k, k < len → mayI (xs k) = true ∧ jumpsI k (xs k) = decide ((xs k).kind = 3 ∨ (xs k).kind = 4) ∧ (((xs k).kind = 3 ∨ (xs k).kind = 4) → ¬ targetI k (xs k) < 0 ∧ ¬ (len : Int) ≤ targetI k (xs k)) ∧ (¬ (xs k).kind = 4 → ¬ (xs k).kind = 6 → k + 1 < len) := by
  unfold checkI at h
  by_cases h1 : c < 0 ∨ 256 < c
  · rw [if_pos h1] at h; simp at h
  rw [if_neg h1] at h
  by_cases h2 : len < 1 ∨ 64 < len
  · rw [if_pos h2] at h; simp at h
  rw [if_neg h2] at h
  by_cases h3 : (firstF (fun i => faultI i (xs i) len) len 0).2 ≠ 0
  · rw [if_pos h3] at h; exact absurd h h3
  rw [if_neg h3] at h
  by_cases h4 : (xs (len - 1)).kind = 4 ∨ (xs (len - 1)).kind = 6
  case neg => rw [if_neg h4] at h; simp at h
  refine ⟨by omega, by omega, fun k hk => ?_⟩
  have hf : faultI k (xs k) len = 0 := firstF_all (fun i => faultI i (xs i) len) len 0 (by omega) k (by omega) (by omega)
  unfold faultI at hf
  have hm : mayI (xs k) = true := by
    cases hm : mayI (xs k)
    · rw [if_pos hm] at hf; omega
    · rfl
  rw [if_neg (by rw [hm]; simp)] at hf
  have hj : jumpsI k (xs k) = decide ((xs k).kind = 3 ∨ (xs k).kind = 4) := by
    obtain ⟨_, _, h5, _⟩ := mayI_cases hm
    have n1 : nearI k = true := decide_eq_true (by omega)
    have n2 : nearI (xs k).off = true := decide_eq_true (by omega)
    unfold jumpsI
    rw [n1, n2]
    simp
  refine ⟨hm, hj, fun hk34 => ?_, fun n4 n6 => ?_⟩
  · rw [hj, decide_eq_true hk34] at hf
    by_cases h5 : targetI k (xs k) < 0 ∨ (len : Int) ≤ targetI k (xs k)
    · rw [if_pos ⟨rfl, h5⟩] at hf; omega
    · omega
  · by_cases e : k = len - 1
    · subst e; omega
    · omega
end Go.Proofs.Ythhgcbegcbhaeaa.Ins
