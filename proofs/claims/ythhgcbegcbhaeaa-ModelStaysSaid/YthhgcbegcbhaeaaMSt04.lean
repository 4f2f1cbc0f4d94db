/-
  Several texts in one: RinC, RinG, MdlSx, MdlSy.
-/
import Derived.Test.YthhgcbegcbhaeaaMBh06
import Derived.Test.YthhgcbegcbhaeaaMSt03
import Derived.Test.YthhgcbegcbhaeaaMBh31
import Derived.Test.YthhgcbegcbhaeaaMBh42
import Derived.Test.YthhgcbegcbhaeaaMBh43
import Derived.Test.YthhgcbegcbhaeaaMSt02
import Derived.ChangeKeysEq
import Derived.LoopIn
import Derived.BigFrame
set_option linter.unusedVariables false
set_option linter.unusedSimpArgs false
set_option linter.unnecessarySimpa false
namespace Go.Proofs.Ythhgcbegcbhaeaa.Ins
open Go.RowKit
set_option linter.unusedVariables false

set_option maxRecDepth 100000 in
set_option maxHeartbeats 4000000 in
theorem r_target (i : Int) (x : In) (W : World) :
    Calls Try.prog 16 #[.int .i64 i, .agg x.cells] W fun e w' => e = .returned (.tuple #[.int .i64 (targetI i x), .bool (jumpsI i x)]) ∧ Below W.heap.size W w' := by
  have hj : jumpsI i x = decide ((x.kind = 3 ∨ x.kind = 4) ∧ (-1099511627776 ≤ i ∧ i ≤ 1099511627776) ∧ (-1099511627776 ≤ x.off ∧ x.off ≤ 1099511627776)) := by
    unfold jumpsI nearI; rw [Bool.eq_iff_iff]; simp [and_assoc]
  unfold targetI
  rw [hj]
  clear hj
  obtain ⟨kind, op, width, size, byReg, dst, src, off, imm⟩ := x
  unfold In.cells
  simp only
  have hc : (¬ kind = 3 ∧ ¬ kind = 4) ∨ ((kind = 3 ∨ kind = 4) ∧ (i < -1099511627776 ∨ (-1099511627776 ≤ i ∧ 1099511627776 < i) ∨ (-1099511627776 ≤ i ∧ i ≤ 1099511627776 ∧ off < -1099511627776) ∨ (-1099511627776 ≤ i ∧ i ≤ 1099511627776 ∧ -1099511627776 ≤ off ∧ 1099511627776 < off) ∨ (-1099511627776 ≤ i ∧ i ≤ 1099511627776 ∧ -1099511627776 ≤ off ∧ off ≤ 1099511627776))) := by omega
  rcases hc with ⟨h3, h4⟩ | ⟨rfl | rfl, h1 | ⟨h1, h2⟩ | ⟨h1, h2, h5⟩ | ⟨h1, h2, h5, h6⟩ | ⟨h1, h2, h5, h6⟩⟩
  · rw [decide_eq_false (by omega), if_neg (by simp)]
    go_enter Try.func16, Try.ntmps16
    go_wp2
    go_ret2
    exact ⟨rfl, below_new (Below.refl _ _) _⟩
  all_goals
    first
    | rw [decide_eq_false (by omega), if_neg (by simp)]
    | rw [decide_eq_true (by omega), if_pos rfl]
    go_enter Try.func16, Try.ntmps16
    go_wp2
    go_ret2
    exact ⟨rfl, below_new (Below.refl _ _) _⟩
end Go.Proofs.Ythhgcbegcbhaeaa.Ins

namespace Go.Proofs.Ythhgcbegcbhaeaa.Ins
open Go.RowKit
set_option linter.unusedVariables false

set_option maxRecDepth 100000 in
set_option maxHeartbeats 2000000 in
theorem r_check_ctx (c : Int) (a : Option Addr) (len cap : Nat) (W : World) (h : c < 0 ∨ (0 ≤ c ∧ 256 < c)) :
    Calls Try.prog 17 #[.agg #[.int .i64 c, .slice a len cap]] W fun e w' => e = .returned (.tuple #[.int .i64 0, .int .i64 2]) ∧ Below W.heap.size W w' := by
  rcases h with h | ⟨h, h'⟩
  · go_enter Try.func17, Try.ntmps17
    go_wp2_with fail
    go_ret2
    exact ⟨rfl, below_new (Below.refl _ _) _⟩
  · go_enter Try.func17, Try.ntmps17
    go_wp2_with fail
    go_ret2
    exact ⟨rfl, below_new (Below.refl _ _) _⟩
set_option maxRecDepth 100000 in
set_option maxHeartbeats 2000000 in
theorem r_check_long (c : Int) (a : Option Addr) (len cap : Nat) (W : World) (h0 : 0 ≤ c) (h1 : c ≤ 256) (h : len < 1 ∨ (1 ≤ len ∧ 64 < len)) :
    Calls Try.prog 17 #[.agg #[.int .i64 c, .slice a len cap]] W fun e w' => e = .returned (.tuple #[.int .i64 0, .int .i64 3]) ∧ Below W.heap.size W w' := by
  rcases h with h | ⟨h, h'⟩
  · go_enter Try.func17, Try.ntmps17
    go_wp2_with fail
    go_ret2
    exact ⟨rfl, below_new (Below.refl _ _) _⟩
  · go_enter Try.func17, Try.ntmps17
    go_wp2_with fail
    go_ret2
    exact ⟨rfl, below_new (Below.refl _ _) _⟩

/-- What Check yields of a program whose size may be. -/
def chkI (len : Nat) (xs : Nat → In) : Int × Int :=
  if (firstF (fun i => faultI i (xs i) len) len 0).2 ≠ 0 then firstF (fun i => faultI i (xs i) len) len 0
  else if (xs (len - 1)).kind = 4 ∨ (xs (len - 1)).kind = 6 then (0, 0) else ((len : Int) - 1, 33)
/-- What Check yields, in its ending. -/
def ChkE (len : Nat) (xs : Nat → In) (W : World) (e : Ending) (w' : World) : Prop := e = .returned (.tuple #[.int .i64 (chkI len xs).1, .int .i64 (chkI len xs).2]) ∧ Below W.heap.size W w'
theorem chk_stop {len : Nat} {xs : Nat → In} {k : Nat} (h : firstF (fun i => faultI i (xs i) len) len 0 = firstF (fun i => faultI i (xs i) len) (len - k) k) (hk : k < len) (hf : faultI k (xs k) len ≠ 0) : chkI len xs = ((k : Int), faultI k (xs k) len) := by
  have e : firstF (fun i => faultI i (xs i) len) (len - k) k = ((k : Int), faultI k (xs k) len) := by
    rw [show len - k = (len - (k + 1)) + 1 by omega]
    show (if faultI k (xs k) len = 0 then _ else _) = _
    rw [if_neg hf]
  unfold chkI
  rw [h, e, if_pos hf]
theorem chk_go {len : Nat} {xs : Nat → In} {k : Nat} (h : firstF (fun i => faultI i (xs i) len) len 0 = firstF (fun i => faultI i (xs i) len) (len - k) k) (hk : k < len) (hf : faultI k (xs k) len = 0) : firstF (fun i => faultI i (xs i) len) len 0 = firstF (fun i => faultI i (xs i) len) (len - (k + 1)) (k + 1) := by
  rw [h, show len - k = (len - (k + 1)) + 1 by omega]
  show (if faultI k (xs k) len = 0 then _ else _) = _
  rw [if_pos hf]
theorem chk_end {len : Nat} {xs : Nat → In} (h : firstF (fun i => faultI i (xs i) len) len 0 = firstF (fun i => faultI i (xs i) len) (len - len) len) : chkI len xs = if (xs (len - 1)).kind = 4 ∨ (xs (len - 1)).kind = 6 then (0, 0) else ((len : Int) - 1, 33) := by
  unfold chkI
  rw [h, Nat.sub_self]
  exact if_neg (fun h => h rfl)

set_option maxRecDepth 100000 in
set_option maxHeartbeats 8000000 in
theorem r_check_main (c : Int) (a : Option Addr) (len cap : Nat) (xs : Nat → In) (W : World) (hx : Insts W a len cap xs) (h0 : 0 ≤ c) (h1 : c ≤ 256) (g1 : 1 ≤ len) (g64 : len ≤ 64) :
    Calls Try.prog 17 #[.agg #[.int .i64 c, .slice a len cap]] W (ChkE len xs W) := by
  obtain ⟨B, q, rfl, hcells⟩ := hx.here (by omega)
  have hfit := hx.fit
  have hle := hx.le
  have HC := Lib.hid hcells; clear hcells hx
  go_enter Try.func17, Try.ntmps17
  go_wp2_with fail
  go_loopw [5] (fun i wr => ∃ k : Nat, k ≤ len ∧ i = .int .i64 k ∧ Hid (Below W.heap.size W wr ∧ wr.cell? ⟨W.heap.size, 1, none⟩ = some (.slice (some ⟨B, q, none⟩) len cap) ∧ W.heap.size < wr.heap.size ∧ firstF (fun i => faultI i (xs i) len) len 0 = firstF (fun i => faultI i (xs i) len) (len - k) k)) (fun i _ => len - (intOf i).toNat)
  case atStart => exact ⟨0, by omega, rfl, Lib.hid ⟨below_new (Below.refl _ _) _, by simp, by simp, by rw [Nat.sub_zero]⟩⟩
  case round =>
    obtain ⟨k, hk, rfl, hR⟩ := hrel
    have hP := hR.out.2.1
    by_cases hlt : k < len
    · have HA := Lib.hid (rangeAt_below hR.out.1 (HC.out k hlt))
      have i9 : (Try.prog.info? 55).map (·.size) = some (xs k).cells.toList.length := info_ins
      have HI := Lib.hid i9
      have M := Lib.hid (fun W => r_may (xs k) W)
      have T := Lib.hid (fun W => r_target k (xs k) W)
      clear i9
      cases hm : mayI (xs k)
      · rw [hm] at M
        have hf : faultI k (xs k) len = 31 := if_pos hm
        have HS := Lib.hid (chk_stop hR.out.2.2.2 hlt (by rw [hf]; omega))
        rw [hf] at HS
        clear hm hf T
        generalize (xs k).cells = cc at *
        go_wp2_with (refine wpList_load_mid rfl 55 _ rfl B (q + k * 9) rfl cc.toList _ HA.out Try.underlying55 rfl HI.out ?_)
        refine (M.out _).mono ?_
        rintro e w2 ⟨rfl, b2⟩
        go_wp2_with fail
        go_ret2
        unfold ChkE
        exact ⟨by rw [HS.out]; rfl, below_call hR.out.1 b2⟩
      · rw [hm] at M
        have hf0 : faultI k (xs k) len = if jumpsI k (xs k) = true ∧ (targetI k (xs k) < 0 ∨ (len : Int) ≤ targetI k (xs k)) then 32 else 0 := by unfold faultI; rw [if_neg (by rw [hm]; simp)]
        have HS := Lib.hid (fun h => chk_stop hR.out.2.2.2 hlt h)
        have HG := Lib.hid (fun h => chk_go hR.out.2.2.2 hlt h)
        clear hm
        generalize faultI k (xs k) len = f at *
        generalize jumpsI k (xs k) = j at *
        generalize targetI k (xs k) = t at *
        generalize (xs k).cells = cc at *
        have hcase : (j = false ∧ f = 0) ∨ (j = true ∧ t < 0 ∧ f = 32) ∨ (j = true ∧ 0 ≤ t ∧ len ≤ t ∧ f = 32) ∨ (j = true ∧ 0 ≤ t ∧ t < len ∧ f = 0) := by
          cases j
          · exact .inl ⟨rfl, by rw [hf0, if_neg (by simp)]⟩
          · by_cases t0 : t < 0
            · exact .inr (.inl ⟨rfl, t0, by rw [hf0, if_pos ⟨rfl, .inl t0⟩]⟩)
            · by_cases t1 : (len : Int) ≤ t
              · exact .inr (.inr (.inl ⟨rfl, by omega, t1, by rw [hf0, if_pos ⟨rfl, .inr t1⟩]⟩))
              · exact .inr (.inr (.inr ⟨rfl, by omega, by omega, by rw [hf0, if_neg (by omega)]⟩))
        clear hf0
        go_wp2_with (refine wpList_load_mid rfl 55 _ rfl B (q + k * 9) rfl cc.toList _ HA.out Try.underlying55 rfl HI.out ?_)
        refine (M.out _).mono ?_
        rintro e w2 ⟨rfl, b2⟩
        have W2 := Lib.hid (below_call hR.out.1 b2)
        have hP2 := (b2.cell (p := ⟨W.heap.size, 1, none⟩) hR.out.2.2.1).trans hP
        have HA2 := Lib.hid (rangeAt_below b2 HA.out)
        have hz2 : W.heap.size < w2.heap.size := by have := hR.out.2.2.1; have := b2.size; omega
        clear b2
        go_wp2_with (refine wpList_load_mid rfl 55 _ rfl B (q + k * 9) rfl cc.toList _ HA2.out Try.underlying55 rfl HI.out ?_)
        refine (T.out _).mono ?_
        rintro e w3 ⟨rfl, b3⟩
        have W3 := Lib.hid (below_call W2.out b3)
        have hP3 := Lib.hid ((b3.cell (p := ⟨W.heap.size, 1, none⟩) hz2).trans hP2)
        have hz3 := Lib.hid (Nat.lt_of_lt_of_le hz2 b3.size)
        clear b3 hP2 hP hz2
        rcases hcase with ⟨rfl, rfl⟩ | ⟨rfl, t0, rfl⟩ | ⟨rfl, t0, t1, rfl⟩ | ⟨rfl, t0, t1, rfl⟩
        · go_wp2_with fail
          go_roundw
          case rel => exact ⟨k + 1, by omega, by go_num, Lib.hid ⟨W3.out, hP3.out, hz3.out, HG.out trivial⟩⟩
          case measure => simp [intOf]; omega
        · go_wp2_with fail
          go_ret2
          unfold ChkE
          exact ⟨by rw [HS.out (by omega)]; rfl, W3.out⟩
        · go_wp2_with fail
          go_ret2
          unfold ChkE
          exact ⟨by rw [HS.out (by omega)]; rfl, W3.out⟩
        · go_wp2_with fail
          go_roundw
          case rel => exact ⟨k + 1, by omega, by go_num, Lib.hid ⟨W3.out, hP3.out, hz3.out, HG.out trivial⟩⟩
          case measure => simp [intOf]; omega
    · obtain rfl : k = len := by omega
      have hK : wr.cell? ⟨B, q + (k - 1) * 9, none⟩ = some (.int .i8 (xs (k - 1)).kind) := rangeAt_below hR.out.1 (HC.out (k - 1) (by omega)) 0 (.int .i8 (xs (k - 1)).kind) rfl
      have HE := Lib.hid (chk_end hR.out.2.2.2)
      have W2 := Lib.hid hR.out.1
      clear hR
      generalize (xs (k - 1)).kind = kd at *
      obtain ⟨m, rfl⟩ : ∃ m, k = m + 1 := ⟨k - 1, by omega⟩
      have em : ((m + 1 : Nat) : Int) - 1 = (m : Int) := by omega
      rw [Nat.add_sub_cancel] at hK
      have hc : (kd = 4) ∨ (¬ kd = 4 ∧ kd = 6) ∨ (¬ kd = 4 ∧ ¬ kd = 6) := by omega
      rcases hc with rfl | ⟨h4, rfl⟩ | ⟨h4, h6⟩
      · rw [if_pos (.inl rfl)] at HE
        go_wp2_with fail
        go_ret2
        unfold ChkE
        exact ⟨by rw [HE.out]; rfl, W2.out⟩
      · rw [if_pos (.inr rfl)] at HE
        go_wp2_with fail
        go_ret2
        unfold ChkE
        exact ⟨by rw [HE.out]; rfl, W2.out⟩
      · rw [if_neg (by omega)] at HE
        have e4 : (kd != 4) = true := by simpa using h4
        have e6 : (kd != 6) = true := by simpa using h6
        go_wp2_with fail
        go_ret2
        unfold ChkE
        exact ⟨by rw [HE.out, em]; rfl, W2.out⟩
theorem r_check (c : Int) (a : Option Addr) (len cap : Nat) (xs : Nat → In) (W : World) (hx : Insts W a len cap xs) :
    Calls Try.prog 17 #[.agg #[.int .i64 c, .slice a len cap]] W fun e w' => e = .returned (.tuple #[.int .i64 (checkI c len xs).1, .int .i64 (checkI c len xs).2]) ∧ Below W.heap.size W w' := by
  by_cases h1 : c < 0 ∨ 256 < c
  · rw [show checkI c len xs = (0, 2) from if_pos h1]
    exact r_check_ctx c a len cap W (by omega)
  by_cases h2 : len < 1 ∨ 64 < len
  · rw [show checkI c len xs = (0, 3) by unfold checkI; rw [if_neg h1, if_pos h2]]
    exact r_check_long c a len cap W (by omega) (by omega) (by omega)
  · rw [show checkI c len xs = chkI len xs by unfold checkI; rw [if_neg h1, if_neg h2]; rfl]
    exact r_check_main c a len cap xs W hx (by omega) (by omega) (by omega) (by omega)
end Go.Proofs.Ythhgcbegcbhaeaa.Ins

namespace Go.Proofs.Ythhgcbegcbhaeaa.Mdl
open Go.RowKit Go.Maps Ins Trc Blk
set_option linter.unusedVariables false
set_option linter.unusedSimpArgs false
set_option maxRecDepth 100000

theorem items_reflS (f : Nat → Int) (n : Nat) (w : World) : ∀ is : List Nat, (∀ i ∈ is, i < n) → (Op.eqItems 9999 5 (Try.prog.cellsOf 5) (bytesOf f n).toArray (bytesOf f n).toArray is).run Try.prog w = .ok true w
  | [], _ => by simp [Op.eqItems]
  | i :: is, h => by
    have hi := h i (List.mem_cons_self ..)
    have c1 : Try.prog.cellsOf 5 = 1 := by kernel_rfl
    have ih := items_reflS f n w is (fun j hj => h j (List.mem_cons_of_mem _ hj))
    rw [c1] at ih ⊢
    have hx : (bytesOf f n).toArray[i * 1]? = some (.int .u8 (f i)) := by rw [Nat.mul_one, List.getElem?_toArray]; exact bytesOf_get f n i hi
    have hp := run_part_plain (P := Try.prog) w (e := 5) (by kernel_rfl) hx
    have he := run_equalIn_int (P := Try.prog) w 9998 5 .u8 .u8 (f i) (f i) Try.underlying5
    simp only [Op.eqItems, Sem.run_bind, hp, he, Result.andThen_ok, beq_self_eq_true, Bool.not_true, Bool.false_eq_true, if_false, ih]
theorem frame_reflS (g : Nat → Int) (w : World) : (Op.equalIn 10000 49 (.agg (frmL g).toArray) (.agg (frmL g).toArray)).run Try.prog w = .ok true w := by
  cases hi : Try.prog.info? 5 with
  | none =>
    have : (Try.prog.info? 5).isSome = true := by kernel_rfl
    rw [hi] at this; cases this
  | some ie =>
    unfold frmL
    rw [run_equalIn_array (P := Try.prog) w 9999 (t := 49) (e := 5) (n := 64) _ _ Try.underlying49 hi]
    exact items_reflS (fun i => g (258 + i)) 64 w _ (fun i hi => List.mem_range.1 hi)
theorem wantedU {ops : Array Oper} {a : Act} {o oj : Oper} {j d : Nat} {want : Bool} (hg : o.guard = some (j, want)) (hj : ops[j]? = some oj) (hd : oj.dst = some d) (h : a.tmps.getD d undef = undef) : Region.wanted o (yielded ops a.tmps) = false := by
  have y : yielded ops a.tmps j = none := by
    unfold yielded
    rw [hj]
    simp only [Option.bind_some, hd]
    cases e : a.tmps[d]? with
    | none => rfl
    | some v =>
      have : v = undef := by
        simpa only [Array.getD_eq_getD_getElem?, e, Option.getD_some] using h
      subst this
      rfl
  unfold Region.wanted
  rw [hg]
  simp only [y]
  rfl
section
variable {ρ : Operand → Value} {o : Oper} {x y z : Operand} {w : World}
theorem ex_ixR {g q : Nat} (ho : o.op = .indexAddr 48 x y) (hx : ρ x = .pointer (some ⟨g, 0, none⟩)) (hy : ρ y = .int .i64 (q : Int)) (hq : q < 11) : (execOp ρ o).run Try.prog w = .ok (.value (.pointer (some ⟨g, q, none⟩))) w := by
  have hn : (0 : Int) ≤ (q : Int) := by omega
  have hi : (Instr.indexAt 48 (.pointer (some ⟨g, 0, none⟩)) (.int .i64 (q : Int))).run Try.prog w = .ok (.pointer (some ⟨g, q, none⟩)) w := by
    simp [Instr.indexAt, go_sem, hn, hq]
  simp [execOp, ho, hx, hy, hi, Result.andThen_ok]
theorem ex_ldc {t : TypeId} {p : Addr} {v : Value} (ho : o.op = .load t x) (hx : ρ x = .pointer (some p)) (hc : w.cell? p = some v) (ha : ∀ w, (isAgg t).run Try.prog w = .ok false w) : (execOp ρ o).run Try.prog w = .ok (.value v) w := by
  have hl : (loadVar t p).run Try.prog w = .ok v w := by simp [loadVar, hc, ha, go_sem]
  simp [execOp, ho, hx, Instr.loadAt, Instr.sureAddr, hl, Result.andThen_ok]
theorem ex_shrS {n : Int} {q : Nat} {t u : TypeId} (ho : o.op = .binOp .shr t x y u) (hx : ρ x = .int .i64 n) (hy : ρ y = .int .i64 (q : Int)) (hq : q < 11) : (execOp ρ o).run Try.prog w = .ok (.value (.int .i64 (n / 2 ^ q))) w := by
  have hn : ¬ ((q : Int) < 0) := by omega
  simp [execOp, ho, hx, hy, go_sem, hn]
theorem ex_andS {n : Int} {q : Nat} {t u : TypeId} (ho : o.op = .binOp .and t x (.const (.int .i64 1)) u) (hx : ρ x = .int .i64 (n / 2 ^ q)) (h1 : ρ (.const (.int .i64 1)) = .int .i64 1) : (execOp ρ o).run Try.prog w = .ok (.value (.int .i64 (sbI n q))) w := by
  simp [execOp, ho, hx, h1, go_sem, sbI]
theorem ex_eqS {n : Int} {t u : TypeId} (ho : o.op = .binOp .eql t x (.const (.int .i64 0)) u) (hx : ρ x = .int .i64 n) (h1 : ρ (.const (.int .i64 0)) = .int .i64 0) : (execOp ρ o).run Try.prog w = .ok (.value (.bool (n == 0))) w := by
  simp [execOp, ho, hx, h1, go_sem]
theorem ex_neX {k : IntKind} {n : Int} {t u : TypeId} (ho : o.op = .binOp .neq t x y u) (hx : ρ x = .int k n) (hy : ρ y = .int k n) : (execOp ρ o).run Try.prog w = .ok (.value (.bool false)) w := by
  simp [execOp, ho, hx, hy, go_sem]
theorem faSnap0 (g : Nat) (w : World) : (Instr.fieldAt 51 (.pointer (some ⟨g, 0, none⟩)) 0).run Try.prog w = .ok (.pointer (some ⟨g, 0, none⟩)) w := by simp [go_sem]
theorem faSnap1 (g : Nat) (w : World) : (Instr.fieldAt 51 (.pointer (some ⟨g, 0, none⟩)) 1).run Try.prog w = .ok (.pointer (some ⟨g, 11, none⟩)) w := by simp [go_sem]
theorem faSnap2 (g : Nat) (w : World) : (Instr.fieldAt 51 (.pointer (some ⟨g, 0, none⟩)) 2).run Try.prog w = .ok (.pointer (some ⟨g, 12, none⟩)) w := by simp [go_sem]
end
theorem snap_reg (r : Nat → Int) (s : Int) (g : Nat → Int) {q : Nat} (h : q < 11) : (snapC r s g).toArray[q]? = some (.int .u64 (r q)) := by
  rcases q with _ | _ | _ | _ | _ | _ | _ | _ | _ | _ | _ | q <;> first | rfl | omega
theorem snap_set (r : Nat → Int) (s : Int) (g : Nat → Int) : (snapC r s g).toArray[11]? = some (.int .i64 s) := rfl
theorem cell_row {w : World} {g i : Nat} {c : Array Value} {t : TypeId} {v : Value} (h : w.heap[g]? = some (.cells c t (0, 0))) (hv : c[i]? = some v) : w.cell? ⟨g, i, none⟩ = some v := by simp only [World.cell?, h]; exact hv
theorem snap_frm (r : Nat → Int) (s : Int) (g : Nat → Int) (j : Nat) (v : Value) (h : (frmL g)[j]? = some v) : (snapC r s g).toArray[12 + j]? = some v := by
  rw [List.getElem?_toArray]
  show (regsC r ++ (.int .i64 s :: frmL g))[12 + j]? = some v
  rw [List.getElem?_append_right (by show 11 ≤ _; omega)]
  show (Value.int .i64 s :: frmL g)[12 + j - 11]? = some v
  rw [show 12 + j - 11 = j + 1 by omega]
  exact h
theorem info_frmS : (Try.prog.info? 49).map (·.size) = some 64 := by kernel_rfl
theorem load_frm {w : World} {b : Nat} {r : Nat → Int} {s : Int} {g : Nat → Int} (h : w.heap[b]? = some (.cells (snapC r s g).toArray 51 (0, 0))) : (loadVar 49 ⟨b, 12, none⟩).run Try.prog w = .ok (.agg (frmL g).toArray) w :=
  run_loadVar_mid w b 12 49 (frmL g) _ (fun j v hj => cell_row h (snap_frm r s g j v hj)) Try.underlying49 rfl info_frmS
theorem ex_neF {ρ : Operand → Value} {o : Oper} {x y : Operand} {w : World} {u : TypeId} {g : Nat → Int} (ho : o.op = .binOp .neq 49 x y u) (hx : ρ x = .agg (frmL g).toArray) (hy : ρ y = .agg (frmL g).toArray) : (execOp ρ o).run Try.prog w = .ok (.value (.bool false)) w := by
  have h : (Op.equal 49 (.agg (frmL g).toArray) (.agg (frmL g).toArray)).run Try.prog w = .ok true w := by
    first
    | exact frame_reflS g w
    | (simp only [Op.equal]; exact frame_reflS g w)
  simp [execOp, ho, hx, hy, binOp, go_sem, h]
theorem faIns0 (g : Nat) (w : World) : (Instr.fieldAt 55 (.pointer (some ⟨g, 0, none⟩)) 0).run Try.prog w = .ok (.pointer (some ⟨g, 0, none⟩)) w := by simp [go_sem]
theorem ex_ldwS {P : Program} {ρ : Operand → Value} {o : Oper} {w : World} {t : TypeId} {x : Operand} {p : Addr} {v : Value} (ho : o.op = .load t x) (hx : ρ x = .pointer (some p)) (hl : (loadVar t p).run P w = .ok v w) : (execOp ρ o).run P w = .ok (.value v) w := by
  simp [execOp, ho, hx, Instr.loadAt, Instr.sureAddr, hl, Result.andThen_ok]

theorem wpList_ld64 {ops : Array Oper} {rest : List Oper} {o : Oper} {a : Act} {w : World} {Q : Exit → Act → World → Prop} (hw : Region.wanted o (yielded ops a.tmps) = true) (x : Operand) (ho : o.op = .load 49 x) (b : Nat) (hx : a.eval x = .pointer (some ⟨b, 12, none⟩)) (g : Nat → Int)
    (hl : (loadVar 49 ⟨b, 12, none⟩).run Try.prog w = .ok (.agg (frmL g).toArray) w) (h : wpList Try.prog ops Q rest (a.put o.dst (.agg (frmL g).toArray)) w) : wpList Try.prog ops Q (o :: rest) a w :=
  Go.BigFrame.wpList_want hw fun K hK => by
    unfold Oper.wp
    rw [ex_ldwS ho hx hl]
    exact hK _ _ h
theorem wpList_ne64 {ops : Array Oper} {rest : List Oper} {o : Oper} {a : Act} {w : World} {Q : Exit → Act → World → Prop} (hw : Region.wanted o (yielded ops a.tmps) = true) (x y : Operand) (u : TypeId) (ho : o.op = .binOp .neq 49 x y u) (g : Nat → Int) (hx : a.eval x = .agg (frmL g).toArray) (hy : a.eval y = .agg (frmL g).toArray)
    (h : wpList Try.prog ops Q rest (a.put o.dst (.bool false)) w) : wpList Try.prog ops Q (o :: rest) a w :=
  Go.BigFrame.wpList_want hw fun K hK => by
    unfold Oper.wp
    rw [ex_neF ho hx hy]
    exact hK _ _ h
theorem shl_dst {ds : Int} (h0 : 0 ≤ ds) (h1 : ds < 11) (w : World) : (Op.shift .shl .i64 1 .i8 ds).run Try.prog w = .ok (.int .i64 ((2 ^ ds.toNat : Nat) : Int)) w := by
  obtain ⟨n, rfl⟩ : ∃ n : Nat, ds = n := ⟨ds.toNat, by omega⟩
  have hn : n < 11 := by omega
  clear h0 h1
  rcases n with _ | _ | _ | _ | _ | _ | _ | _ | _ | _ | _ | n <;> first | rfl | omega
end Go.Proofs.Ythhgcbegcbhaeaa.Mdl

namespace Go.Proofs.Ythhgcbegcbhaeaa.Mdl
open Go.RowKit Go.Maps Ins Trc Blk
set_option linter.unusedVariables false
set_option linter.unusedSimpArgs false
set_option maxRecDepth 100000

theorem seq_not_nilS (eB gB : Nat) (w : World) : (binOp .eql 46 (.func (.func 24) #[] #[.pointer (some ⟨eB, 0, none⟩), .pointer (some ⟨gB, 0, none⟩)]) .nilFunc).run Try.prog w = .ok (.bool false) w := by kernel_rfl
theorem load_boolS {w : World} {g : Nat} {v : Bool} (h : w.heap[g]? = some (.cells #[.bool v] 4 (0, 0))) : (loadVar 4 ⟨g, 0, none⟩).run Try.prog w = .ok (.bool v) w := by
  have hc : w.cell? ⟨g, 0, none⟩ = some (.bool v) := by simp only [World.cell?, h]; rfl
  simp [loadVar, hc, go_sem]
/-- ModelStays, while no places are gone over. -/
def SN (W : World) (pre : List (Int × List Value)) (w : World) : Prop := Below W.heap.size W w ∧ w.heap[W.heap.size + 1]? = some (.cells #[.bool false] 4 (0, 0))
theorem SN.ab {W : World} {β γ : Nat} (hg : W.heap.size + 1 < γ) (hβ : W.heap.size ≤ β) : AbG τM β γ (SN W) := fun pre A B h t =>
  ⟨TurnG.below h.1 t hβ (by omega) (Nat.le_refl _), TurnG.row t h.2 (by omega) (by decide)⟩
section
variable (c : Int) (pa : Option Addr) (plen pcap : Nat) (x : Nat → In) (ca : Option Addr) (cl cc : Nat) (aa : Option Addr) (al ac : Nat) (fuel : Int) (W : World)
set_option maxHeartbeats 4000000 in
theorem stays_bad (r : Int) (hr : ¬ r = 0) (ck er : Int) (h1 : plen ≤ 100) (h2 : cl ≤ 400) (h3 : al ≤ 400) (h4 : ¬ (2000 < fuel ∧ fuel ≤ 10000))
    (CHK : ∀ w, Below W.heap.size W w → Calls Try.prog 17 #[.agg #[.int .i64 c, .slice pa plen pcap]] w fun e w' => e = .returned (.tuple #[.int .i64 ck, .int .i64 er]) ∧ Below w.heap.size w w')
    (ST : ∀ w, Below W.heap.size W w → Calls Try.prog 18 #[.agg #[.int .i64 c, .slice pa plen pcap], .slice ca cl cc, .slice aa al ac, .int .i64 fuel] w fun e w' => e = .returned (.tuple #[.pointer none, .int .i64 r]) ∧ Below w.heap.size w w') :
    Calls Try.prog 5 #[.agg #[.int .i64 c, .slice pa plen pcap], .slice ca cl cc, .slice aa al ac, .int .i64 fuel] W fun e w' => e = .returned (.bool true) ∧ Below W.heap.size W w' := by
  have hz0 := (zero_of_info zero_snap).1
  have GR := Lib.hid (fun W => great_no c pa plen pcap ca cl cc aa al ac fuel W h1 h2 h3 h4)
  have EB := Lib.hid (fun w (h : Below W.heap.size W w) => each_bad r hr c pa plen pcap ca cl cc aa al ac fuel w (fun w2 b => ST w2 (h.trans (b.mono h.size))))
  have CHK := Lib.hid CHK
  have HR0 := Lib.hid hr
  have hmf : ∀ (fn : Fn) (first cap : Array Value) (w : World), (Instr.makeFunc fn first cap).run Try.prog w = .ok (.func fn first cap) w := fun _ _ _ _ => rfl
  clear h1 h2 h3 h4 ST hr
  refine (callsIn_wide (n := 4)).1 (callsIn_of_wp_marks Try.func5 rfl trivial ?_ rfl)
  simp only [Try.ntmps5, List.size_toArray, List.length_cons, List.length_nil, Nat.reduceAdd, Nat.reduceSub, Array.replicate_succ, Array.replicate_zero, List.push_toArray, List.append_toArray, List.nil_append, List.cons_append]
  refine (wpIn_wide (n := 4)).2 ?_
  go_wp2_with fail
  refine (GR.out _).mono ?_
  rintro e w1 ⟨rfl, b1⟩
  have q0 := heap_past (W.alloc (.cells #[.int .i64 c, .slice pa plen pcap] 24)) (.cells #[.bool false] 4) W.heap.size (by simp)
  have q0 := brow b1 (q0.trans (heap_last W (.cells #[.int .i64 c, .slice pa plen pcap] 24) _ rfl))
  have q1 := brow b1 (heap_last (W.alloc (.cells #[.int .i64 c, .slice pa plen pcap] 24)) (.cells #[.bool false] 4) (W.heap.size + 1) (by simp))
  have p0 : w1.cell? ⟨W.heap.size, 0, none⟩ = some (.int .i64 c) := by simp only [World.cell?, q0]; rfl
  have p1 : w1.cell? ⟨W.heap.size, 1, none⟩ = some (.slice pa plen pcap) := by simp only [World.cell?, q0]; rfl
  have B1 := Lib.hid (below_call (below_new (below_new (Below.refl _ W) _) _) b1)
  have Q0 := Lib.hid q0
  have Q1 := Lib.hid q1
  clear b1 GR q0 q1
  go_wp2_with fail
  refine (CHK.out w1 B1.out).mono ?_
  rintro e w5 ⟨rfl, b2⟩
  have B5 := Lib.hid (below_call B1.out b2)
  have Q0c := Lib.hid (brow b2 Q0.out)
  have Q1c := Lib.hid (brow b2 Q1.out)
  have p0 : w5.cell? ⟨W.heap.size, 0, none⟩ = some (.int .i64 c) := by simp only [World.cell?, Q0c.out]; rfl
  have p1 : w5.cell? ⟨W.heap.size, 1, none⟩ = some (.slice pa plen pcap) := by simp only [World.cell?, Q0c.out]; rfl
  clear b2 Q0 Q1 B1 CHK
  go_wp2_with fail
  refine (EB.out w5 B5.out).mono ?_
  rintro e w6 ⟨eB, gB, rfl, heB, re, b6⟩
  have Q1d := Lib.hid (brow b6 Q1c.out)
  have B6 := Lib.hid (B5.out.trans (b6.mono B5.out.size))
  have RE := Lib.hid re
  clear b6 Q0c Q1c B5 EB re p0 p1
  unfold eachV
  have hbf := seq_not_nilS eB gB
  by_cases e0 : er = 0
  case neg =>
    have e1 : (er != 0) = true := by simpa using e0
    clear e0 RE
    have z6 := B6.out.size
    go_wp2_with fail
    refine (wakes_any _).mono ?_
    rintro e w7 ⟨rfl, b7⟩
    have Q7 := brow b7 Q1d.out
    have B7 := Lib.hid (below_call B6.out b7)
    clear b7 B6 Q1d
    go_wp2_with (with_reducible refine (halt_store 4 _ _ rfl ?_))
    refine ⟨?_, trivial⟩
    refine wpList_store_cell rfl 4 _ _ rfl (W.heap.size + 1) 0 (.bool true) rfl rfl rfl rfl 4 _ Q7 (by kernel_rfl) (by simp) ?_
    intro w8 s8
    have r8 := s8.row
    have B8 := Lib.hid (s8.below B7.out (by omega))
    clear s8 Q7
    go_wp2_with fail
    exact ⟨_, res_c rfl rfl (load_boolS r8), rfl, B8.out⟩
  case pos =>
    subst e0
    have SEQ := Lib.hid (each_none r HR0.out eB gB 3 w6 RE.out (fun _ _ _ => False))
    have z6 := B6.out.size
    have zl : W.heap.size + 1 < w6.heap.size := (Array.getElem?_eq_some_iff.1 Q1d.out).1
    have a6 := below_new (below_new (Below.refl w6.heap.size w6) (.cells snapZ 51)) (.cells #[.int .i64 (-1)] 3)
    have s2 := heap_last (w6.alloc (.cells snapZ 51)) (.cells #[.int .i64 (-1)] 3) (w6.heap.size + 1) (by simp)
    clear RE
    go_wp2_with fail
    have CW0 : SN W [] ((w6.alloc (.cells snapZ 51)).alloc (.cells #[.int .i64 (-1)] 3)) :=
      ⟨B6.out.trans (a6.mono B6.out.size), brow a6 Q1d.out⟩
    have A6 := Lib.hid a6
    clear s2 a6 Q1d B6
    generalize (w6.alloc (.cells snapZ 51)).alloc (.cells #[.int .i64 (-1)] 3) = w7 at *
    have z67 := A6.out.size
    refine (wpIn_wide (n := 4)).1 ?_
    refine range_H (by decide) (gf := 24) (pa := #[]) (lb := #[.pointer (some ⟨eB, 0, none⟩), .pointer (some ⟨gB, 0, none⟩)]) rfl (enters_of Try.func24 (by kernel_rfl) rfl) SEQ.out A6.out (fun _ => rfl)
      (SN W) (fun _ _ _ => False)
      ((SN.ab (β := w6.heap.size) (γ := w7.heap.size) (by omega) (by omega)).own (Nat.le_refl _)) (fun _ _ _ _ _ h _ _ => h) (fun _ _ _ _ _ h _ _ => h)
      (fun γ hγ => SN.ab (by omega) (by omega)) (fun _ _ _ _ _ _ h _ => h) (fun _ _ _ _ h _ _ => h) (fun _ _ _ _ h _ _ => h) CW0 (fun _ _ _ _ => False)
      (fun _ _ _ _ _ _ _ h _ _ => h) ?assign ?body ?done ?stop
    case stop =>
      rintro D9 c9 pre W9 _ h _ _
      exact h.elim
    case assign =>
      rintro l pre x W9 K _ h _
      exact h.elim
    case body =>
      rintro l pre x a' W9 h
      exact h.elim
    case done =>
      rintro D9 xs W9 hD _ hC hK
      have zD : W.heap.size + 1 < D9 := by omega
      have HC := Lib.hid hC
      have HKD := Lib.hid hK
      clear hC hK SEQ A6
      go_wp2_with fail
      refine (wakes_any _).mono ?_
      rintro e w10 ⟨rfl, b10⟩
      have r10 := brow b10 HC.out.2
      have k10 := brow b10 HKD.out
      have B10 := Lib.hid (HC.out.1.trans (b10.mono HC.out.1.size))
      have zW := HC.out.1.size
      clear b10
      go_wp2_with (with_reducible refine (halt_store 4 _ _ rfl ?_))
      refine ⟨?_, trivial⟩
      refine wpList_store_cell rfl 4 _ _ rfl (W.heap.size + 1) 0 (.bool true) rfl rfl rfl rfl 4 _ r10 (by kernel_rfl) (by simp) ?_
      intro w11 s11
      have hne : D9 ≠ W.heap.size + 1 := fun e => by omega
      have r11 := s11.row
      have k11 := (s11.other D9 hne).trans k10
      have B11 := Lib.hid (s11.below B10.out (by omega))
      clear s11 r10 k10
      go_wp2_with fail
      have t12 : Trn [D9] w11 (w11.putObj D9 (.deferred none)) := ⟨rfl, rfl, rfl, by simp [World.putObj], fun k _ hn => World.putObj_heap_other (by simpa using hn)⟩
      have r12 := t12.row r11 (by simp; omega)
      refine ⟨by simp, .inl ⟨_, _, rfl, run_takeDeferred k11, _, res_c rfl rfl (load_boolS r12), rfl, B11.out.trans ⟨rfl, rfl, rfl, t12.size, fun k hk => t12.block k (by have := B11.out.size; omega) (by simp; omega)⟩⟩⟩
set_option maxHeartbeats 4000000 in
theorem stays_great (h : ¬ (plen ≤ 100 ∧ cl ≤ 400 ∧ al ≤ 400 ∧ ¬ (2000 < fuel ∧ fuel ≤ 10000))) :
    Calls Try.prog 5 #[.agg #[.int .i64 c, .slice pa plen pcap], .slice ca cl cc, .slice aa al ac, .int .i64 fuel] W fun e w' => e = .returned (.bool true) ∧ Below W.heap.size W w' := by
  have GR := Lib.hid (fun W => great_yes c pa plen pcap ca cl cc aa al ac fuel W h)
  clear h
  go_enter Try.func5, Try.ntmps5
  go_wp2_with fail
  refine (GR.out _).mono ?_
  rintro e w1 ⟨rfl, b1⟩
  have q1 := brow b1 (heap_last (W.alloc (.cells #[.int .i64 c, .slice pa plen pcap] 24)) (.cells #[.bool false] 4) (W.heap.size + 1) (by simp))
  have B1 := Lib.hid (below_call (below_new (below_new (Below.refl _ W) _) _) b1)
  have z1 := B1.out.size
  have Q1 := Lib.hid q1
  clear b1 GR q1
  go_wp2_with fail
  refine (wakes_any _).mono ?_
  rintro e w4 ⟨rfl, b4⟩
  have Q4 := brow b4 Q1.out
  have B4 := Lib.hid (below_call B1.out b4)
  clear b4 B1 Q1
  go_wp2_with (with_reducible refine (halt_store 4 _ _ rfl ?_))
  refine ⟨?_, trivial⟩
  refine wpList_store_cell rfl 4 _ _ rfl (W.heap.size + 1) 0 (.bool true) rfl rfl rfl rfl 4 _ Q4 (by kernel_rfl) (by simp) ?_
  intro w5 s5
  have r5 := s5.row
  have B5 := Lib.hid (s5.below B4.out (by omega))
  clear s5 Q4
  go_wp2_with fail
  exact bodyPost_ret (v := .bool true) (res_c rfl rfl (load_boolS r5)) rfl ⟨rfl, B5.out⟩
end
end Go.Proofs.Ythhgcbegcbhaeaa.Mdl
