/-
  Package instr: unpacked, Read.
-/
import Derived.Test.YtbpefomjmjkciaaInsQ
import Derived.Test.YtbpefomjmjkciaaInsI
import Derived.Test.YtbpefomjmjkciaaInsH
namespace Go.Proofs.Ytbpefomjmjkciaa.Ins
open Go.RowKit
set_option linter.unusedVariables false
set_option maxRecDepth 100000

theorem and15 (x : Int) (h0 : 0 ≤ x) (h1 : x < 18446744073709551616) : bits .and .u64 x 15 = x % 16 := by
  exact bits_mask .u64 64 (Nat.le_refl _) (fun n a b => by rw [IntKind.wrap_u64]; exact Int.emod_eq_of_lt a (by simpa using b)) 4 (by omega) x h0 (by simpa using h1)
theorem info_i8c : (Try.prog.info? 24).map (·.size) = some 1 := by kernel_rfl
theorem info_i64c : (Try.prog.info? 3).map (·.size) = some 1 := by kernel_rfl

/-- A struct of nine in a block, as a result's cell is read. -/
theorem nine_cells {w : World} {g : Nat} {x : In} {t : TypeId} (h : w.heap[g]? = some (.cells x.cells t (0, 0))) :
    w.cell? ⟨g, 0, none⟩ = some (.int .i8 x.kind) ∧ w.cell? ⟨g, 1, none⟩ = some (.int .i8 x.op) ∧ w.cell? ⟨g, 2, none⟩ = some (.int .i8 x.width) ∧ w.cell? ⟨g, 3, none⟩ = some (.int .i8 x.size) ∧ w.cell? ⟨g, 4, none⟩ = some (.bool x.byReg) ∧ w.cell? ⟨g, 5, none⟩ = some (.int .i8 x.dst) ∧ w.cell? ⟨g, 6, none⟩ = some (.int .i8 x.src) ∧ w.cell? ⟨g, 7, none⟩ = some (.int .i64 x.off) ∧ w.cell? ⟨g, 8, none⟩ = some (.int .i64 x.imm) := by
  simp [World.cell?, h, In.cells]

set_option maxHeartbeats 2000000 in
theorem unpacked_any (v : Int) (h0 : 0 ≤ v) (h1 : v < 18446744073709551616) (W : World) : Calls Try.prog 45 #[.int .u64 v] W fun e w' => e = .returned (.agg (unpackI v).cells) ∧ Below W.heap.size W w' := by
  have P := Lib.hid (fun W => plain_any (v % 256) (by omega) (by omega) W)
  have X := Lib.hid (show unpackI v = { plainI (v % 256) with dst := v / 256 % 16, src := v / 4096 % 16, off := sgn16 (v / 65536 % 65536), imm := sgn32 (v / 4294967296 % 4294967296) } from rfl)
  generalize plainI (v % 256) = x at *
  generalize unpackI v = y at *
  have w5 : IntKind.i8.wrap (bits BinOp.and IntKind.u64 (v / 256) 15) = v / 256 % 16 := by
    rw [and15 _ (by omega) (by omega)]; unfold IntKind.wrap; simp [IntKind.bits, IntKind.signed]; omega
  have w6 : IntKind.i8.wrap (bits BinOp.and IntKind.u64 (v / 4096) 15) = v / 4096 % 16 := by
    rw [and15 _ (by omega) (by omega)]; unfold IntKind.wrap; simp [IntKind.bits, IntKind.signed]; omega
  have w7 : wrap64 (IntKind.i16.wrap (v / 65536)) = sgn16 (v / 65536 % 65536) := by
    unfold sgn16 wrap64 IntKind.wrap; simp [IntKind.bits, IntKind.signed]; split <;> omega
  have w8 : wrap64 (wrap32 (v / 4294967296)) = sgn32 (v / 4294967296 % 4294967296) := by
    unfold sgn32 wrap64 wrap32; split <;> omega
  generalize v / 256 % 16 = d at *
  generalize v / 4096 % 16 = s at *
  generalize sgn16 (v / 65536 % 65536) = o at *
  generalize sgn32 (v / 4294967296 % 4294967296) = m at *
  go_enter Try.func45, Try.ntmps45
  go_wp2_with fail
  refine (P.out _).mono ?_
  rintro e w1 ⟨rfl, b1⟩
  have hz := b1.size
  have R1 := Lib.hid ((b1.block W.heap.size (by simp)).trans (heap_last W _ _ rfl))
  have B1 := Lib.hid (below_call (below_new (Below.refl _ W) _) b1)
  simp at hz
  clear b1 P
  go_wp2_with (with_reducible refine (halt_store 26 _ _ rfl ?_))
  refine ⟨?_, trivial⟩
  refine wpList_store_is rfl 26 _ _ rfl w1.heap.size x.cells rfl rfl 26 _ (heap_last w1 _ _ rfl) info_ins rfl (one_cells x) ?_
  intro w2 s2
  have R2 := Lib.hid ((s2.other W.heap.size (by omega)).trans ((heap_past w1 _ _ (by omega)).trans R1.out))
  have B2 := Lib.hid (s2.below (below_new B1.out _) (by omega))
  have S2 := Lib.hid s2.row
  have z2 := s2.size
  clear s2 R1
  generalize hN : w1.heap.size = N at *
  go_wp2_with (with_reducible refine (halt_store 24 _ _ rfl ?_))
  refine ⟨?_, trivial⟩
  refine wpList_store_cell rfl 24 _ _ rfl N 5 (.int .i8 d) rfl rfl rfl rfl 26 _ S2.out info_i8c (by simp [In.cells]) ?_
  intro w3 s3
  have R3 := Lib.hid ((s3.other W.heap.size (by omega)).trans R2.out)
  have B3 := Lib.hid (s3.below B2.out (by omega))
  have S3 := Lib.hid (show w3.heap[N]? = some (.cells ({ x with dst := d } : In).cells 26 (0, 0)) from s3.row)
  clear s3 R2 B2 S2
  go_wp2_with (with_reducible refine (halt_store 24 _ _ rfl ?_))
  refine ⟨?_, trivial⟩
  refine wpList_store_cell rfl 24 _ _ rfl N 6 (.int .i8 s) rfl rfl rfl rfl 26 _ S3.out info_i8c (by simp [In.cells]) ?_
  intro w4 s4
  have R4 := Lib.hid ((s4.other W.heap.size (by omega)).trans R3.out)
  have B4 := Lib.hid (s4.below B3.out (by omega))
  have S4 := Lib.hid (show w4.heap[N]? = some (.cells ({ x with dst := d, src := s } : In).cells 26 (0, 0)) from s4.row)
  clear s4 R3 B3 S3
  go_wp2_with (with_reducible refine (halt_store 3 _ _ rfl ?_))
  refine ⟨?_, trivial⟩
  refine wpList_store_cell rfl 3 _ _ rfl N 7 (.int .i64 (wrap64 (IntKind.i16.wrap (v / 65536)))) rfl rfl rfl rfl 26 _ S4.out info_i64c (by simp [In.cells]) ?_
  intro w5 s5
  have R5 := Lib.hid ((s5.other W.heap.size (by omega)).trans R4.out)
  have B5 := Lib.hid (s5.below B4.out (by omega))
  have S5 := Lib.hid (show w5.heap[N]? = some (.cells ({ x with dst := d, src := s, off := o } : In).cells 26 (0, 0)) by have := s5.row; rw [w7] at this; exact this)
  clear s5 R4 B4 S4
  go_wp2_with (with_reducible refine (halt_store 3 _ _ rfl ?_))
  refine ⟨?_, trivial⟩
  refine wpList_store_cell rfl 3 _ _ rfl N 8 (.int .i64 (wrap64 (wrap32 (v / 4294967296)))) rfl rfl rfl rfl 26 _ S5.out info_i64c (by simp [In.cells]) ?_
  intro w6 s6
  have R6 := Lib.hid ((s6.other W.heap.size (by omega)).trans R5.out)
  have B6 := Lib.hid (s6.below B5.out (by omega))
  have S6 := Lib.hid (show w6.heap[N]? = some (.cells y.cells 26 (0, 0)) by have := s6.row; rw [w8] at this; rw [X.out]; exact this)
  clear s6 R5 B5 S5 X
  go_wp2_with (with_reducible refine (halt_load 26 _ rfl ?_))
  refine ⟨?_, trivial⟩
  refine wpList_load_row rfl 26 _ rfl N rfl _ y.cells _ _ S6.out Try.underlying26 rfl info_ins ?_
  go_wp2_with (with_reducible refine (halt_store 26 _ _ rfl ?_))
  refine ⟨?_, trivial⟩
  refine wpList_store_is rfl 26 _ _ rfl W.heap.size y.cells rfl rfl 26 _ R6.out info_ins rfl (one_cells y) ?_
  intro w7 s7
  obtain ⟨r0, r1, r2, r3, r4, r5, r6, r7, r8⟩ := nine_cells s7.row
  have B7 := Lib.hid (s7.below B6.out (Nat.le_refl _))
  clear s7 B6 S6 R6
  go_wp2_with fail
  refine bodyPost_ret (v := .agg y.cells) (by simp [results, Try.results45, go_sem, r0, r1, r2, r3, r4, r5, r6, r7, r8, In.cells]) rfl ⟨rfl, B7.out⟩

/-- What eight bytes read as. -/
def readI (v : Int) : In × Int := if mayI (unpackI v) = true then (unpackI v, 0) else (In.nil, 31)
/-- What Read yields. -/
def ReadsAs (x : In) (r : Int) (W : World) (e : Ending) (w' : World) : Prop := e = .returned (.tuple #[.agg x.cells, .int .i64 r]) ∧ Below W.heap.size W w'

set_option maxHeartbeats 2000000 in
theorem read_no (a : Option Addr) (len cap : Nat) (W : World) (h : len ≠ 8) (hc : len ≤ cap) (hm : cap ≤ 9223372036854775807) :
    Calls Try.prog 12 #[.slice a len cap] W (ReadsAs In.nil 30 W) := by
  have e0 : ((len : Int) != 8) = true := by simp; omega
  unfold ReadsAs
  go_enter Try.func12, Try.ntmps12
  go_wp2
  refine bodyPost_ret (v := .tuple #[.agg In.nil.cells, .int .i64 30]) (by simp [results, Try.results12, go_sem, In.cells, In.nil]) rfl ⟨rfl, ?_⟩
  repeat (refine Below.setCell ?_ (by simp only; omega) _)
  exact below_new (Below.refl _ _) _

set_option maxHeartbeats 2000000 in
theorem read_8 (b off cap : Nat) (f : Nat → Int) (W : World) (hc : 8 ≤ cap) (hm : cap ≤ 9223372036854775807) (hf : ∀ i, i < 8 → 0 ≤ f i ∧ f i < 256) (hcell : ∀ i, i < 8 → W.cell? ⟨b, off + i, none⟩ = some (.int .u8 (f i))) :
    Calls Try.prog 12 #[.slice (some ⟨b, off, none⟩) 8 cap] W (ReadsAs (readI (getI f 8)).1 (readI (getI f 8)).2 W) := by
  have hv := getI_bd f 8 hf
  have hb : b < W.heap.size := by
    have := hcell 0 (by omega)
    rcases Nat.lt_or_ge b W.heap.size with h' | h'
    · exact h'
    · have e : W.heap[b]? = none := Array.getElem?_eq_none h'
      simp [World.cell?, e] at this
  have G := Lib.hid (fun (w : World) (bb : Below W.heap.size W w) => get_few b off 8 cap f w (Nat.le_refl _) hc hm hf (fun i hi => (bb.cell (p := ⟨b, off + i, none⟩) hb).trans (hcell i hi)))
  have U := Lib.hid (fun w => unpacked_any (getI f 8) hv.1 (by have := hv.2; simpa using this) w)
  have M := Lib.hid (fun w => may_any (unpackI (getI f 8)) w)
  have R := Lib.hid (show readI (getI f 8) = if mayI (unpackI (getI f 8)) = true then (unpackI (getI f 8), 0) else (In.nil, 31) from rfl)
  clear hf hcell hv
  generalize readI (getI f 8) = rr at *
  generalize unpackI (getI f 8) = x at *
  generalize getI f 8 = v at *
  generalize mayI x = my at *
  unfold ReadsAs
  go_enter Try.func12, Try.ntmps12
  go_wp2_with fail
  refine (G.out _ (below_new (Below.refl _ _) _)).mono ?_
  rintro e w1 ⟨rfl, rfl⟩
  clear G
  go_wp2_with fail
  refine (U.out _).mono ?_
  rintro e w2 ⟨rfl, b2⟩
  have R2 := Lib.hid ((b2.block W.heap.size (by simp)).trans (heap_last W _ _ rfl))
  have hz := b2.size
  simp at hz
  have B2 := Lib.hid (below_call (below_new (Below.refl _ W) _) b2)
  clear b2 U
  go_wp2_with (with_reducible refine (halt_store 26 _ _ rfl ?_))
  refine ⟨?_, trivial⟩
  refine wpList_store_is rfl 26 _ _ rfl w2.heap.size x.cells rfl rfl 26 _ (heap_last w2 _ _ rfl) info_ins rfl (one_cells x) ?_
  intro w3 s3
  have R3 := Lib.hid ((s3.other W.heap.size (by omega)).trans ((heap_past w2 _ _ (by omega)).trans R2.out))
  have B3 := Lib.hid (s3.below (below_new B2.out _) (by omega))
  have S3 := Lib.hid s3.row
  have hz3 : w2.heap.size < w3.heap.size := by rw [s3.size]; simp
  clear s3 B2 R2
  generalize hN : w2.heap.size = N at *
  go_wp2_with (with_reducible refine (halt_load 26 _ rfl ?_))
  refine ⟨?_, trivial⟩
  refine wpList_load_row rfl 26 _ rfl N rfl _ x.cells _ _ S3.out Try.underlying26 rfl info_ins ?_
  go_wp2_with fail
  refine (M.out _).mono ?_
  rintro e w4 ⟨rfl, b4⟩
  have R4 := Lib.hid ((b4.block W.heap.size (by omega)).trans R3.out)
  have S4 := Lib.hid ((b4.block N (by omega)).trans S3.out)
  have B4 := Lib.hid (below_call B3.out b4)
  clear b4 R3 S3 B3 M
  cases my
  case false =>
    have RR : rr = (In.nil, 31) := R.out
    subst RR
    clear R
    go_wp2_with (with_reducible refine (halt_store 26 _ _ rfl ?_))
    refine ⟨?_, trivial⟩
    refine wpList_store_is rfl 26 _ _ rfl W.heap.size In.nil.cells rfl rfl 26 _ R4.out info_ins rfl (one_cells In.nil) ?_
    intro w7 s7
    obtain ⟨r0, r1, r2, r3, r4, r5, r6, r7, r8⟩ := nine_cells s7.row
    have B7 := Lib.hid (s7.below B4.out (Nat.le_refl _))
    clear s7 B4 S4 R4
    go_wp2_with fail
    refine bodyPost_ret (v := .tuple #[.agg In.nil.cells, .int .i64 31]) (by simp [results, Try.results12, go_sem, r0, r1, r2, r3, r4, r5, r6, r7, r8, In.cells]) rfl ⟨rfl, B7.out⟩
  case true =>
    have RR : rr = (x, 0) := R.out
    subst RR
    clear R
    go_wp2_with (with_reducible refine (halt_load 26 _ rfl ?_))
    refine ⟨?_, trivial⟩
    refine wpList_load_row rfl 26 _ rfl N rfl _ x.cells _ _ S4.out Try.underlying26 rfl info_ins ?_
    go_wp2_with (with_reducible refine (halt_store 26 _ _ rfl ?_))
    refine ⟨?_, trivial⟩
    refine wpList_store_is rfl 26 _ _ rfl W.heap.size x.cells rfl rfl 26 _ R4.out info_ins rfl (one_cells x) ?_
    intro w7 s7
    obtain ⟨r0, r1, r2, r3, r4, r5, r6, r7, r8⟩ := nine_cells s7.row
    have B7 := Lib.hid (s7.below B4.out (Nat.le_refl _))
    clear s7 B4 S4 R4
    go_wp2_with fail
    refine bodyPost_ret (v := .tuple #[.agg x.cells, .int .i64 0]) (by simp [results, Try.results12, go_sem, r0, r1, r2, r3, r4, r5, r6, r7, r8, In.cells]) rfl ⟨rfl, B7.out⟩
end Go.Proofs.Ytbpefomjmjkciaa.Ins
