/-
  Package mem: slices that came in; bytes as strings; sums of bytes.
-/
import Derived.Test.YtpbnmbeedjhloaaMemL
import Derived.Laws.BytesArg
namespace Go.Proofs.Ytpbnmbeedjhloaa
open Go.RowKit
set_option linter.unusedVariables false
set_option maxRecDepth 100000

theorem bd_u8' {a : Int} (h : (Lit.int .u8 a).wf = true) : 0 ≤ a ∧ a < 256 := by
  simp [Lit.wf, IntKind.min, IntKind.max, IntKind.bits, IntKind.signed] at h
  omega
theorem bd_u64 {a : Int} (h : (Lit.int .u64 a).wf = true) : 0 ≤ a ∧ a < 18446744073709551616 := by
  simp [Lit.wf, IntKind.min, IntKind.max, IntKind.bits, IntKind.signed] at h
  omega
theorem bd_i64 {a : Int} (h : (Lit.int .i64 a).wf = true) : -9223372036854775808 ≤ a ∧ a ≤ 9223372036854775807 := by
  simp [Lit.wf, IntKind.min, IntKind.max, IntKind.bits, IntKind.signed] at h
  omega
theorem src_of_isrow {W : World} {a : Option Addr} {len cap : Nat} {zs : List Int} (h : IsRow .u8 W a len cap zs) : Src W a len cap (fun i => zs.getD i 0) := by
  rcases h with ⟨rfl, rfl, rfl, _⟩ | ⟨x, rfl, hl, hm, hz, hcell, hwz⟩
  · exact ⟨Nat.le_refl _, by omega, fun h => absurd h (by omega), fun i h => absurd h (by omega)⟩
  · refine ⟨hl, by unfold maxLen at hm; omega, fun h => ?_, fun i hi => ?_⟩
    · obtain ⟨b, off, spot⟩ := x
      have c0 := hcell 0 (by omega)
      obtain rfl : spot = none := by simpa [Addr.add] using World.cell?_spot c0
      exact ⟨b, off, rfl, fun i hi => by have h := hcell i (by omega); rw [Go.WideShapes.add_plain] at h; exact h⟩
    · have hi' : i < zs.length := by omega
      have e : zs.getD i 0 = zs[i] := by simp [List.getD, hi']
      show 0 ≤ zs.getD i 0 ∧ zs.getD i 0 < 256
      rw [e]
      exact bd_u8' (hwz _ (List.getElem_mem hi'))
/-- A row's bytes as a string. -/
def strOf (f : Nat → Int) (n : Nat) : ByteArray := strOfNums ((List.range n).map f)
theorem conv_row {w : World} {z n : Nat} {t : TypeId} {f : Nat → Int} (h : w.rowIs z t n (fun i => .int .u8 (f i))) (o m cap : Nat) (hm : o + m ≤ n) :
    (convert 22 9 (.slice (some ⟨z, o, none⟩) m cap)).run Try.prog w = .ok (.string (strOf (fun i => f (o + i)) m)) w :=
  run_convert_bytes_arg (P := Try.prog) w 22 5 Try.underlying22 Try.underlying5 z o m cap _ (by simp) (fun i hi => by
    rw [h.cell (show o + i < n by omega)]
    simp [List.getD, hi]) 9 Try.underlying9
theorem strOf_eq {f g : Nat → Int} {n m : Nat} (hn : n = m) (h : ∀ i, i < n → f i = g i) : strOf f n = strOf g m := by
  subst hn
  unfold strOf
  congr 1
  exact List.map_congr_left (fun i hi => h i (by simpa using hi))

theorem getI_congr {f g : Nat → Int} : ∀ n, (∀ i, i < n → f i = g i) → getI f n = getI g n
  | 0, _ => rfl
  | n + 1, h => by unfold getI; rw [getI_congr n (fun i hi => h i (by omega)), h n (by omega)]
theorem getI_add (f : Nat → Int) (n : Nat) : ∀ m, getI f (n + m) = getI f n + getI (fun i => f (n + i)) m * 2 ^ (8 * n)
  | 0 => by show _ = getI f n + 0 * _; rw [Int.zero_mul, Int.add_zero]; rfl
  | m + 1 => by
    show getI f (n + m) + f (n + m) * 2 ^ (8 * (n + m)) = getI f n + (getI (fun i => f (n + i)) m + f (n + m) * 2 ^ (8 * m)) * 2 ^ (8 * n)
    rw [getI_add f n m, Int.add_mul, show 8 * (n + m) = 8 * m + 8 * n by omega, Int.pow_add]
    rw [Int.mul_assoc (f (n + m)), Int.add_assoc]

/-- Fetch behind an address that is no code. -/
theorem fetch_no (S : MemS) (kf : Nat → Int) (b : Nat) (a : Int) (W : World) (h : Mem S kf W b) (ha0 : 0 ≤ a) (ha1 : a < 18446744073709551616) (hc : ¬ (1048576 ≤ a ∧ a < 1048576 + S.cn)) :
    Calls Try.prog 21 #[.pointer (some ⟨b, 0, none⟩), .int .u64 a] W fun e w' => e = .returned (.tuple #[.slice none 0 0, .int .i64 20]) ∧ Below W.heap.size W w' :=
  fetch_miss S b a W h.at_ (by
    have hcn := h.at_.cn
    rw [rdB_iff a 1 1048576 S.cn ha0 ha1 (by omega) (by omega) (by omega) (by omega) (by omega)]
    exact decide_eq_false (by omega))
/-- What Fetch hands back: a row that holds the code's rest. -/
def FetchIs (W : World) (kf : Nat → Int) (q l : Nat) (e : Ending) (w' : World) : Prop :=
  ∃ z, e = .returned (.tuple #[.slice (some ⟨z, 0, none⟩) l l, .int .i64 0]) ∧ W.heap.size ≤ z ∧ Below W.heap.size W w' ∧ w'.rowIs z 5 l (fun i => .int .u8 (kf (q + i)))
theorem fetch_yes (S : MemS) (kf : Nat → Int) (b : Nat) (a : Int) (q l : Nat) (W : World) (h : Mem S kf W b) (hq : a = 1048576 + q) (hc : S.cn = q + l) (hl : 0 < l) :
    Calls Try.prog 21 #[.pointer (some ⟨b, 0, none⟩), .int .u64 a] W (FetchIs W kf q l) := by
  have hcn := h.at_.cn
  have e : S.cn - q = l := by omega
  exact (fetch_hit S b a q kf W h.at_ (by unfold offI; omega) (by omega) h.code h.kb).mono fun e' w' ⟨z, h1, h2, h3, h4⟩ => ⟨z, by rw [e] at h1; exact h1, h2, h3, by rw [e] at h4; exact h4⟩

theorem byteAt_bd {S : MemS} {kf : Nat → Int} {w : World} {b : Nat} (h : Mem S kf w b) (a m : Int) (hm : 1 ≤ m) (hl : ¬ locI S.cn S.n S.hs a m = 0) (i : Nat) (hi : (i : Int) < m) : 0 ≤ byteAt S kf (a + i) ∧ byteAt S kf (a + i) < 256 := by
  have hn := h.at_.n
  have hcn := h.at_.cn
  have c := locI_cases (cn := S.cn) (n := S.n) (hs := S.hs) (a := a) (m := m) hm
  unfold byteAt
  split
  · exact h.kb _ (by omega)
  · exact h.at_.bytes _
theorem neqF {a b : Int} (h : a = b) : (a != b) = false := by simpa using h
theorem Mem.drew {S : MemS} {kf : Nat → Int} {w : World} {b : Nat} (h : Mem S kf w b) (n : Nat) : Mem S kf (w.drewN n) b := ⟨⟨h.at_.row, h.at_.cn, h.at_.n, h.at_.far, h.at_.bytes⟩, h.code, h.kb⟩

/-- Acts that came in. -/
structure Acts (W : World) (a : Option Addr) (len cap : Nat) (d t n v : Nat → Int) : Prop where
  le : len ≤ cap
  max : cap ≤ 9223372036854775807
  here : 0 < len → ∃ B o, a = some ⟨B, o, none⟩ ∧ ∀ i, i < len → W.rangeAt B (o + i * 4) [.int .i64 (d i), .int .u64 (t i), .int .i64 (n i), .int .u64 (v i)]
  nums : ∀ i, i < len → (-9223372036854775808 ≤ d i ∧ d i ≤ 9223372036854775807) ∧ (0 ≤ t i ∧ t i < 18446744073709551616) ∧ (-9223372036854775808 ≤ n i ∧ n i ≤ 9223372036854775807) ∧ (0 ≤ v i ∧ v i < 18446744073709551616)
/-- An act laid into a block of its own. -/
def XAt (w : World) (X : Nat) (d t n v : Int) : Prop := w.cell? ⟨X, 0, none⟩ = some (.int .i64 d) ∧ w.cell? ⟨X, 1, none⟩ = some (.int .u64 t) ∧ w.cell? ⟨X, 2, none⟩ = some (.int .i64 n) ∧ w.cell? ⟨X, 3, none⟩ = some (.int .u64 v)
theorem XAt.lt {w : World} {X : Nat} {d t n v : Int} (h : XAt w X d t n v) : X < w.heap.size := lt_of_cell h.1
theorem XAt.below {w w' : World} {X : Nat} {d t n v : Int} (h : XAt w X d t n v) (b : Below w.heap.size w w') : XAt w' X d t n v :=
  ⟨(b.cell (p := ⟨X, 0, none⟩) h.lt).trans h.1, (b.cell (p := ⟨X, 1, none⟩) h.lt).trans h.2.1, (b.cell (p := ⟨X, 2, none⟩) h.lt).trans h.2.2.1, (b.cell (p := ⟨X, 3, none⟩) h.lt).trans h.2.2.2⟩
theorem XAt.chg {w w' : World} {X b : Nat} {d t n v : Int} (h : XAt w X d t n v) (hC : ChgAt b w w') (hb : X ≠ b) : XAt w' X d t n v :=
  have e : ∀ i, w'.cell? ⟨X, i, none⟩ = w.cell? ⟨X, i, none⟩ := fun i => by simp only [World.cell?, hC.block X h.lt hb]
  ⟨(e 0).trans h.1, (e 1).trans h.2.1, (e 2).trans h.2.2.1, (e 3).trans h.2.2.2⟩
theorem Mem.other {So : MemS} {kf : Nat → Int} {w w' : World} {b b' : Nat} (h : Mem So kf w b') (hC : ChgAt b w w') (hb : b' ≠ b) (hcb : So.cb ≠ b) : Mem So kf w' b' :=
  ⟨⟨h.at_.row.of_block (hC.block _ h.at_.row.lt hb), h.at_.cn, h.at_.n, h.at_.far, h.at_.bytes⟩, h.code.of_block (hC.block _ h.code.lt hcb), h.kb⟩
theorem readV_one (S : MemS) (kf : Nat → Int) (a : Int) (h : ¬ locI S.cn S.n S.hs a 1 = 0) : readV S kf a 1 = byteAt S kf a := by
  unfold readV
  rw [show ((1 : Nat) : Int) = 1 from rfl, if_neg h]
  show (0 : Int) + byteAt S kf (a + (0 : Nat)) * 2 ^ (8 * 0) = _
  rw [show a + ((0 : Nat) : Int) = a by omega]
  simp
theorem and_255 (v : Int) (h0 : 0 ≤ v) (h1 : v < 18446744073709551616) : bits .and .u64 v 255 = v % 256 := by
  rw [u64_and v 255 h0 h1 (by omega) (by omega)]
  have : v.toNat &&& (255 : Int).toNat = v.toNat % 256 := Nat.and_two_pow_sub_one_eq_mod v.toNat 8
  rw [this]; omega
theorem loc_eq1 {cn n : Nat} {hs : Bool} {a m : Int} (h : 1048576 ≤ a ∧ a + m ≤ 1048576 + cn) (hm : 1 ≤ m) : locI cn n hs a m = 1 := by unfold locI; rw [if_pos h]
theorem loc_eq2 {cn n : Nat} {hs : Bool} {a m : Int} (h : 2097152 ≤ a ∧ a + m ≤ 2097152 + n) (hm : 1 ≤ m) (h1 : cn ≤ 16384) : locI cn n hs a m = 2 := by unfold locI; rw [if_neg (by omega), if_pos h]
theorem loc_eq3 {cn n : Nat} {hs : Bool} {a m : Int} (h : 3145728 ≤ a ∧ a + m ≤ 3145792) (hm : 1 ≤ m) (h1 : cn ≤ 16384) (h2 : n ≤ 256) : locI cn n hs a m = 3 := by unfold locI; rw [if_neg (by omega), if_neg (by omega), if_pos h]
theorem loc_eq4 {cn n : Nat} {hs : Bool} {a m : Int} (h : 4194304 ≤ a ∧ a + m ≤ 4194304 + stkI hs) (hm : 1 ≤ m) (h1 : cn ≤ 16384) (h2 : n ≤ 256) : locI cn n hs a m = 4 := by unfold locI; rw [if_neg (by omega), if_neg (by omega), if_neg (by omega), if_pos h]
theorem loc_eq0 {cn n : Nat} {hs : Bool} {a m : Int} (h1 : ¬ (1048576 ≤ a ∧ a + m ≤ 1048576 + cn)) (h2 : ¬ (2097152 ≤ a ∧ a + m ≤ 2097152 + n)) (h3 : ¬ (3145728 ≤ a ∧ a + m ≤ 3145792)) (h4 : ¬ (4194304 ≤ a ∧ a + m ≤ 4194304 + stkI hs)) : locI cn n hs a m = 0 := by
  unfold locI; rw [if_neg h1, if_neg h2, if_neg h3, if_neg h4]
/-- An access is let be just if its first and its last byte are in one region. -/
theorem loc_ends (cn n : Nat) (hs : Bool) (t : Int) (m : Nat) (hm : szB m = true) (ht0 : 0 ≤ t) (ht1 : t < 18446744073709551616) (h1 : cn ≤ 16384) (h2 : n ≤ 256) :
    locI cn n hs t m = if 0 < locI cn n hs t 1 ∧ locI cn n hs t 1 = locI cn n hs ((t + ((m : Int) - 1)) % 18446744073709551616) 1 then locI cn n hs t 1 else 0 := by
  have m8 := szB_le hm
  have z := stkI_bd hs
  by_cases hw : t + ((m : Int) - 1) < 18446744073709551616
  · rw [Int.emod_eq_of_lt (by omega) hw]
    have cm := locI_cases (cn := cn) (n := n) (hs := hs) (a := t) (m := m) (by omega)
    have ce := locI_cases (cn := cn) (n := n) (hs := hs) (a := t + ((m : Int) - 1)) (m := 1) (by omega)
    have c1 := locI_cases (cn := cn) (n := n) (hs := hs) (a := t) (m := 1) (by omega)
    by_cases d1 : 1048576 ≤ t ∧ t + m ≤ 1048576 + cn
    · rw [loc_eq1 (m := m) d1 (by omega), loc_eq1 (a := t) (m := 1) ⟨by omega, by omega⟩ (by omega), loc_eq1 (a := t + ((m : Int) - 1)) (m := 1) ⟨by omega, by omega⟩ (by omega)]; rfl
    by_cases d2 : 2097152 ≤ t ∧ t + m ≤ 2097152 + n
    · rw [loc_eq2 (m := m) d2 (by omega) h1, loc_eq2 (a := t) (m := 1) ⟨by omega, by omega⟩ (by omega) h1, loc_eq2 (a := t + ((m : Int) - 1)) (m := 1) ⟨by omega, by omega⟩ (by omega) h1]; rfl
    by_cases d3 : 3145728 ≤ t ∧ t + m ≤ 3145792
    · rw [loc_eq3 (m := m) d3 (by omega) h1 h2, loc_eq3 (a := t) (m := 1) ⟨by omega, by omega⟩ (by omega) h1 h2, loc_eq3 (a := t + ((m : Int) - 1)) (m := 1) ⟨by omega, by omega⟩ (by omega) h1 h2]; rfl
    by_cases d4 : 4194304 ≤ t ∧ t + m ≤ 4194304 + stkI hs
    · rw [loc_eq4 (m := m) d4 (by omega) h1 h2, loc_eq4 (a := t) (m := 1) ⟨by omega, by omega⟩ (by omega) h1 h2, loc_eq4 (a := t + ((m : Int) - 1)) (m := 1) ⟨by omega, by omega⟩ (by omega) h1 h2]; rfl
    rw [loc_eq0 d1 d2 d3 d4]
    symm
    apply if_neg
    rintro ⟨p, e⟩
    have x4 : locI cn n hs (t + ((m : Int) - 1)) 1 = 4 → t + ((m : Int) - 1) + 1 ≤ 4194304 + stkI hs := fun h => by
      by_cases d : 4194304 ≤ t + ((m : Int) - 1) ∧ t + ((m : Int) - 1) + 1 ≤ 4194304 + stkI hs
      · exact d.2
      · exfalso
        unfold locI at h
        rw [if_neg d] at h
        split at h
        · omega
        split at h
        · omega
        split at h <;> omega
    omega
  · have e1 : locI cn n hs t 1 = 0 := by
      unfold locI
      rw [if_neg (by omega), if_neg (by omega), if_neg (by omega), if_neg (by omega)]
    have e2 : locI cn n hs t m = 0 := by
      unfold locI
      rw [if_neg (by omega), if_neg (by omega), if_neg (by omega), if_neg (by omega)]
    rw [e1, e2]; simp
theorem loc_nowrap {cn n : Nat} {hs : Bool} {tk A j : Int} {m : Nat} (h : locI cn n hs tk m ≠ 0) (hA : A = (tk + j) % 18446744073709551616) (hj : j < 100) (hj0 : -100 ≤ j) (hm : 1 ≤ (m : Int)) (hcn : cn ≤ 16384) (hn : n ≤ 256) : A = tk + j := by
  have c := locI_cases (cn := cn) (n := n) (hs := hs) (a := tk) (m := m) hm
  have : 1048576 ≤ tk ∧ tk ≤ 4194568 := by omega
  rw [hA, Int.emod_eq_of_lt (by omega) (by omega)]
theorem loc_part {cn n : Nat} {hs : Bool} {tk A j : Int} {m : Nat} (h : locI cn n hs tk m ≠ 0) (hA : A = tk + j) (h0 : 0 ≤ j) (h1 : j < m) (hcn : cn ≤ 16384) (hn : n ≤ 256) : locI cn n hs A 1 ≠ 0 := by
  subst hA
  by_cases d1 : 1048576 ≤ tk ∧ tk + m ≤ 1048576 + cn
  · rw [loc_eq1 ⟨by omega, by omega⟩ (by omega)]; omega
  by_cases d2 : 2097152 ≤ tk ∧ tk + m ≤ 2097152 + n
  · rw [loc_eq2 ⟨by omega, by omega⟩ (by omega) hcn]; omega
  by_cases d3 : 3145728 ≤ tk ∧ tk + m ≤ 3145792
  · rw [loc_eq3 ⟨by omega, by omega⟩ (by omega) hcn hn]; omega
  by_cases d4 : 4194304 ≤ tk ∧ tk + m ≤ 4194304 + stkI hs
  · rw [loc_eq4 ⟨by omega, by omega⟩ (by omega) hcn hn]; omega
  exact absurd (loc_eq0 d1 d2 d3 d4) h
theorem byte_and (v : Int) (j : Nat) (h0 : 0 ≤ v) (h1 : v < 18446744073709551616) : byteI v j = bits .and .u64 (v / 2 ^ (8 * j)) 255 := by
  have p : (0 : Int) < 2 ^ (8 * j) := Int.pow_pos (by omega)
  have q0 : 0 ≤ v / 2 ^ (8 * j) := Int.ediv_nonneg h0 (by omega)
  have q1 : v / 2 ^ (8 * j) ≤ v := Int.ediv_le_self _ h0
  rw [and_255 _ q0 (by omega)]; rfl
/-- A number as far as it has been put together from its highest bytes. -/
def wantI (S : MemS) (kf : Nat → Int) (tk : Int) (m j : Nat) : Int := getI (fun i => byteAt S kf (tk + j + i)) (m - j)
theorem wantI_0 (S : MemS) (kf : Nat → Int) (tk : Int) (m : Nat) (h : ¬ locI S.cn S.n S.hs tk m = 0) : readV S kf tk m = wantI S kf tk m 0 := by
  unfold readV wantI
  rw [if_neg h]
  exact getI_congr m (fun i _ => by rw [show tk + ((0 : Nat) : Int) + i = tk + i by omega])
theorem wantI_m (S : MemS) (kf : Nat → Int) (tk : Int) (m : Nat) : wantI S kf tk m m = 0 := by unfold wantI; rw [Nat.sub_self]; rfl
theorem wantI_bd (S : MemS) (kf : Nat → Int) (tk : Int) (m j : Nat) (hm : m ≤ 8) (hb : ∀ i : Nat, i < m → 0 ≤ byteAt S kf (tk + i) ∧ byteAt S kf (tk + i) < 256) : 0 ≤ wantI S kf tk m j ∧ wantI S kf tk m j < 2 ^ (8 * (m - j)) := by
  unfold wantI
  exact getI_bd _ _ (fun i hi => by have := hb (j + i) (by omega); rw [show tk + ((j + i : Nat) : Int) = tk + j + i by omega] at this; exact this)
theorem wantI_step (S : MemS) (kf : Nat → Int) (tk : Int) (m p : Nat) (hp : p < m) (hm : m ≤ 8) (hb : ∀ i : Nat, i < m → 0 ≤ byteAt S kf (tk + i) ∧ byteAt S kf (tk + i) < 256) :
    bits .or .u64 (IntKind.u64.wrap (wantI S kf tk m (p + 1) * 256)) (byteAt S kf (tk + p)) = wantI S kf tk m p := by
  have b1 := wantI_bd S kf tk m (p + 1) hm hb
  have b2 := hb p hp
  have e : wantI S kf tk m p = byteAt S kf (tk + p) + wantI S kf tk m (p + 1) * 2 ^ (8 * 1) := by
    unfold wantI
    rw [show m - p = 1 + (m - (p + 1)) by omega, getI_add]
    congr 1
    · show (0 : Int) + byteAt S kf (tk + p + ((0 : Nat) : Int)) * 2 ^ (8 * 0) = _
      rw [show tk + (p : Int) + ((0 : Nat) : Int) = tk + p by omega]; simp
    · congr 1
      exact getI_congr _ (fun i _ => by show byteAt S kf (tk + p + ((1 + i : Nat) : Int)) = _; rw [show tk + (p : Int) + ((1 + i : Nat) : Int) = tk + ((p + 1 : Nat) : Int) + i by omega])
  have q : (2 : Int) ^ (8 * (m - (p + 1))) ≤ 2 ^ 56 := by
    have := Nat.pow_le_pow_right (show 0 < 2 by omega) (show 8 * (m - (p + 1)) ≤ 56 by omega)
    have e : ((2 ^ (8 * (m - (p + 1))) : Nat) : Int) ≤ ((2 ^ 56 : Nat) : Int) := by omega
    simpa using e
  have r : (2 : Int) ^ 56 = 72057594037927936 := rfl
  have t : (2 : Int) ^ (8 * 1) = 256 := rfl
  rw [e, t, IntKind.wrap_u64]
  generalize wantI S kf tk m (p + 1) = x at *
  generalize byteAt S kf (tk + p) = y at *
  rw [Int.emod_eq_of_lt (by omega) (by omega), u64_or _ _ (by omega) (by omega) b2.1 (by omega)]
  obtain ⟨Z, rfl⟩ := Int.eq_ofNat_of_zero_le b1.1
  obtain ⟨Y, rfl⟩ := Int.eq_ofNat_of_zero_le b2.1
  have c : ((Z : Int) * 256) = ((2 ^ 8 * Z : Nat) : Int) := by omega
  rw [c, Int.toNat_natCast, Int.toNat_natCast, ← Nat.two_pow_add_eq_or_of_lt (by omega : Y < 2 ^ 8)]
  omega
theorem conv_empty (a : Option Addr) (cap : Nat) (w : World) : (convert 22 9 (.slice a 0 cap)).run Try.prog w = .ok (.string (strOf (fun _ => 0) 0)) w := by
  cases a with
  | none => exact run_convert_bytes_nil (P := Try.prog) w 22 5 Try.underlying22 Try.underlying5 0 cap 9 Try.underlying9
  | some x =>
    rw [run_convert_bytes_string w 22 9 5 (some x) 0 cap Try.underlying22 Try.underlying5 Try.underlying9, run_bytesToString w x 0 cap [] (by simp [loadCells, loadCellsFrom])]
    rfl
theorem conv_src {w : World} {a : Option Addr} {n cap : Nat} {f : Nat → Int} (h : Src w a n cap f) : (convert 22 9 (.slice a n cap)).run Try.prog w = .ok (.string (strOf f n)) w := by
  by_cases h0 : n = 0
  · subst h0; exact conv_empty a cap w
  · obtain ⟨B, o, rfl, hc⟩ := h.here (by omega)
    exact run_convert_bytes_arg (P := Try.prog) w 22 5 Try.underlying22 Try.underlying5 B o n cap _ (by simp) (fun i hi => by
      rw [hc i hi]
      simp [List.getD, hi]) 9 Try.underlying9
/-- All the code fetched. -/
def FetchAll (W : World) (kf : Nat → Int) (kl : Nat) (e : Ending) (w' : World) : Prop :=
  ∃ (p : Option Addr) (l : Nat) (fe : Int), e = .returned (.tuple #[.slice p l l, .int .i64 fe]) ∧ (fe == 0) = decide (0 < (kl : Int)) ∧ Below W.heap.size W w' ∧
    (convert 22 9 (.slice p l l)).run Try.prog w' = .ok (.string (strOf kf kl)) w'
theorem fetch_code (S : MemS) (kf : Nat → Int) (b kl : Nat) (W : World) (h : Mem S kf W b) (hk : S.cn = kl) :
    Calls Try.prog 21 #[.pointer (some ⟨b, 0, none⟩), .int .u64 1048576] W (FetchAll W kf kl) := by
  by_cases h0 : kl = 0
  · subst h0
    refine (fetch_no S kf b 1048576 W h (by omega) (by omega) (by omega)).mono ?_
    rintro e w1 ⟨rfl, b1⟩
    exact ⟨none, 0, 20, rfl, by decide, b1, conv_empty none 0 w1⟩
  · refine (fetch_yes S kf b 1048576 0 kl W h (by omega) (by omega) (by omega)).mono ?_
    rintro e w1 ⟨z, rfl, _, b1, r1⟩
    refine ⟨some ⟨z, 0, none⟩, kl, 0, rfl, ?_, b1, ?_⟩
    · rw [decide_eq_true (by omega)]; rfl
    · rw [conv_row r1 0 kl kl (by omega), strOf_eq (g := kf) (m := kl) rfl (fun i _ => by rw [show 0 + (0 + i) = i by omega])]
end Go.Proofs.Ytpbnmbeedjhloaa
