/-
  Package instr: the encoding as one number, and as bytes.
-/
import Derived.Test.YtbpefomjmjkciaaInsD
import Derived.Test.YtbpefomjmjkciaaBytesV
namespace Go.Proofs.Ytbpefomjmjkciaa.Ins
open Go.RowKit
set_option linter.unusedVariables false

theorem or_add {a b : Int} (k : Nat) (ha0 : 0 ≤ a) (ha1 : a < 2 ^ k) (hb0 : 0 ≤ b) (hk : b * 2 ^ k < 18446744073709551616) (hk' : a < 18446744073709551616) : bits .or .u64 a (b * 2 ^ k) = a + b * 2 ^ k := by
  have p : (0 : Int) < 2 ^ k := Int.pow_pos (by omega)
  have v : 0 ≤ b * 2 ^ k := Int.mul_nonneg hb0 (by omega)
  rw [u64_or _ _ ha0 hk' v hk]
  obtain ⟨X, rfl⟩ := Int.eq_ofNat_of_zero_le ha0
  obtain ⟨Y, rfl⟩ := Int.eq_ofNat_of_zero_le hb0
  have c : ((Y : Int) * 2 ^ k) = ((2 ^ k * Y : Nat) : Int) := by rw [Nat.mul_comm (2 ^ k) Y]; simp
  have d : X < 2 ^ k := by
    have e : (X : Int) < ((2 ^ k : Nat) : Int) := by simpa using ha1
    omega
  rw [c, Int.toNat_natCast, Int.toNat_natCast, Nat.or_comm, ← Nat.two_pow_add_eq_or_of_lt d]
  omega

theorem or8 {a b : Int} (h0 : 0 ≤ a) (h1 : a < 256) (h2 : 0 ≤ b) (h3 : b < 256) : bits .or .u64 a (b * 256) = a + b * 256 := or_add 8 h0 h1 h2 (by omega) (by omega)
theorem or12 {a b : Int} (h0 : 0 ≤ a) (h1 : a < 4096) (h2 : 0 ≤ b) (h3 : b < 256) : bits .or .u64 a (b * 4096) = a + b * 4096 := or_add 12 h0 h1 h2 (by omega) (by omega)
theorem or16 {a b : Int} (h0 : 0 ≤ a) (h1 : a < 65536) (h2 : 0 ≤ b) (h3 : b < 65536) : bits .or .u64 a (b * 65536) = a + b * 65536 := or_add 16 h0 h1 h2 (by omega) (by omega)
theorem or32 {a b : Int} (h0 : 0 ≤ a) (h1 : a < 4294967296) (h2 : 0 ≤ b) (h3 : b < 4294967296) : bits .or .u64 a (b * 4294967296) = a + b * 4294967296 := or_add 32 h0 h1 h2 (by omega) (by omega)

set_option maxRecDepth 100000 in
set_option maxHeartbeats 4000000 in
theorem packed_any (x : In) (W : World) (h : mayI x = true) : Calls Try.prog 58 #[.agg x.cells] W fun e w' => e = .returned (.int .u64 (packI x)) ∧ Below W.heap.size W w' := by
  have C := Lib.hid (fun W => code_any x W h)
  have N := Lib.hid (nine x W 26)
  have cb := codeI_bd h
  obtain ⟨d, s, _, _, _⟩ := mayI_cases h
  unfold packI
  clear h
  generalize codeI x = c at *
  obtain ⟨kind, op, width, size, byReg, dst, src, off, imm⟩ := x
  unfold In.cells at *
  simp only at *
  go_enter Try.func58, Try.ntmps58
  go_wp2
  go_region_held3 (fun w' => w'.cell? ⟨W.heap.size, 0, none⟩ = some (.int .i8 kind) ∧ w'.cell? ⟨W.heap.size, 1, none⟩ = some (.int .i8 op) ∧ w'.cell? ⟨W.heap.size, 2, none⟩ = some (.int .i8 width) ∧ w'.cell? ⟨W.heap.size, 3, none⟩ = some (.int .i8 size) ∧ w'.cell? ⟨W.heap.size, 4, none⟩ = some (.bool byReg) ∧ w'.cell? ⟨W.heap.size, 5, none⟩ = some (.int .i8 dst) ∧ w'.cell? ⟨W.heap.size, 6, none⟩ = some (.int .i8 src) ∧ w'.cell? ⟨W.heap.size, 7, none⟩ = some (.int .i64 off) ∧ w'.cell? ⟨W.heap.size, 8, none⟩ = some (.int .i64 imm) ∧ Below (W.alloc (.cells #[.int .i8 kind, .int .i8 op, .int .i8 width, .int .i8 size, .bool byReg, .int .i8 dst, .int .i8 src, .int .i64 off, .int .i64 imm] 26)).heap.size (W.alloc (.cells #[.int .i8 kind, .int .i8 op, .int .i8 width, .int .i8 size, .bool byReg, .int .i8 dst, .int .i8 src, .int .i64 off, .int .i64 imm] 26)) w')
    ((go_split_ands; refine N.out _ ?_; repeat' (first | assumption | exact Below.refl _ _ | apply Below.drew | (refine below_call ?_ b1))))
    ((go_at_call 87; refine (C.out _).mono ?_; rintro e w1 ⟨rfl, b1⟩))
  go_wp2_with fail
  go_ret
  go_split_ands
  refine ⟨retI ?_, below_boxed (by assumption)⟩
  have w16 : IntKind.u64.wrap (IntKind.u64.wrap (IntKind.u16.wrap off) * 65536) = off % 65536 * 65536 := by
    simp [IntKind.wrap, IntKind.signed, IntKind.bits]; omega
  rw [w16, or8 (by omega) (by omega) (by omega) (by omega), or12 (by omega) (by omega) (by omega) (by omega), or16 (by omega) (by omega) (by omega) (by omega), or32 (by omega) (by omega) (by omega) (by omega)]

/-- The bytes of one that may be. -/
def BytesOf (x : In) (W : World) (e : Ending) (w' : World) : Prop :=
  ∃ z, e = .returned (.tuple #[.slice (some ⟨z, 0, none⟩) 8 8, .int .i64 0]) ∧ W.heap.size ≤ z ∧ Below W.heap.size W w' ∧ w'.rowIs z 5 8 (fun i => .int .u8 (byteI (packI x) i))
set_option maxRecDepth 100000 in
set_option maxHeartbeats 1000000 in
theorem bytes_yes (x : In) (W : World) (h : mayI x = true) : Calls Try.prog 18 #[.agg x.cells] W (BytesOf x W) := by
  have M := Lib.hid (fun W => may_any x W)
  rw [h] at M
  have P := Lib.hid (fun W => packed_any x W h)
  have pb := packI_bd h
  have LD := Lib.hid (fun w b h => load_boxed x (b := b) (w := w) h)
  have PU := Lib.hid (fun W => put_any (packI x) 8 pb.1 pb.2 W)
  clear h pb
  unfold BytesOf
  generalize packI x = v at *
  generalize hc : x.cells = c at *
  have L0 : (W.alloc (.cells c 26)).heap[W.heap.size]? = some (.cells c 26 (0, 0)) := heap_last W _ _ rfl
  have i9 : (Try.prog.info? 26).map (·.size) = some c.size := by rw [← hc]; exact info_ins
  have HL := Lib.hid L0; have HI := Lib.hid i9
  clear L0 i9 hc
  go_enter Try.func18, Try.ntmps18
  go_wp2_with (refine (halt_load 26 _ rfl ?_))
  refine ⟨?_, trivial⟩
  refine wpList_load_row rfl 26 _ rfl W.heap.size rfl _ c _ _ HL.out Try.underlying26 rfl HI.out ?_
  go_wp2_with fail
  refine (M.out _).mono ?_
  rintro e w1 ⟨rfl, b1⟩
  have HL1 := Lib.hid ((b1.block _ (by simp)).trans HL.out)
  have B1 := Lib.hid b1; clear b1
  go_wp2_with (refine (halt_load 26 _ rfl ?_))
  refine ⟨?_, trivial⟩
  refine wpList_load_row rfl 26 _ rfl W.heap.size rfl _ c _ _ HL1.out Try.underlying26 rfl HI.out ?_
  go_wp2_with fail
  refine (P.out _).mono ?_
  rintro e w2 ⟨rfl, b2⟩
  have B2 := Lib.hid (below_call B1.out b2); clear b2
  go_wp2_with fail
  refine (PU.out _).mono ?_
  rintro e w3 ⟨rfl, b3, r3⟩
  have hsz : W.heap.size ≤ w2.heap.size := by have := (below_boxed B2.out).size; omega
  go_wp2_with fail
  go_ret2
  exact ⟨_, rfl, hsz, below_call (below_boxed B2.out) b3, r3⟩
set_option maxRecDepth 100000 in
set_option maxHeartbeats 1000000 in
theorem bytes_no (x : In) (W : World) (h : mayI x = false) : Calls Try.prog 18 #[.agg x.cells] W fun e w' => e = .returned (.tuple #[.slice none 0 0, .int .i64 31]) ∧ Below W.heap.size W w' := by
  have M := Lib.hid (fun W => may_any x W)
  rw [h] at M
  generalize hc : x.cells = c at *
  have L0 : (W.alloc (.cells c 26)).heap[W.heap.size]? = some (.cells c 26 (0, 0)) := heap_last W _ _ rfl
  have i9 : (Try.prog.info? 26).map (·.size) = some c.size := by rw [← hc]; exact info_ins
  have HL := Lib.hid L0; have HI := Lib.hid i9
  clear L0 i9 hc h
  go_enter Try.func18, Try.ntmps18
  go_wp2_with (refine (halt_load 26 _ rfl ?_))
  refine ⟨?_, trivial⟩
  refine wpList_load_row rfl 26 _ rfl W.heap.size rfl _ c _ _ HL.out Try.underlying26 rfl HI.out ?_
  go_wp2_with fail
  refine (M.out _).mono ?_
  rintro e w1 ⟨rfl, b1⟩
  go_wp2_with fail
  go_ret2
  exact ⟨rfl, below_boxed b1⟩
end Go.Proofs.Ytbpefomjmjkciaa.Ins
