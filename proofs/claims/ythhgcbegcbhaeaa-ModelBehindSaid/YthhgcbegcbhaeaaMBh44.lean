/-
  Several texts in one: ModelBehindW.
-/
import Derived.Test.YthhgcbegcbhaeaaMBh42
import Derived.Test.YthhgcbegcbhaeaaMBh43
set_option linter.unusedVariables false
set_option linter.unusedSimpArgs false
set_option linter.unnecessarySimpa false
namespace Go.Proofs.Ythhgcbegcbhaeaa.Mdl
open Go.RowKit Go.Maps Ins Trc Blk
set_option linter.unusedVariables false
set_option linter.unusedSimpArgs false
set_option maxRecDepth 100000

theorem info_ins40 : ∃ i z, Try.prog.info? 55 = some i ∧ i.zero = some z ∧ z.cells.size = 9 ∧ i.size = 9 ∧ i.bytes ≤ 100 := by
  have h : (Try.prog.info? 55).map (fun i => (i.zero.map (·.cells.size), i.size, decide (i.bytes ≤ 100))) = some (some 9, 9, true) := by kernel_rfl
  cases hi : Try.prog.info? 55 with
  | none => rw [hi] at h; simp at h
  | some i =>
    rw [hi] at h
    simp at h
    obtain ⟨h1, h2, h3⟩ := h
    obtain ⟨z, hz, hz2⟩ := h1
    exact ⟨i, z, rfl, hz, hz2, h2, h3⟩
theorem halt_append {P : Program} {ops : Array Oper} {rest : List Oper} {o : Oper} {a : Act} {w : World} {Q : Exit → Act → World → Prop} (s x : Operand) (t : TypeId) (ho : o.op = .call { callee := .builtin .append, args := #[s, x], argTypes := #[t, t] })
    (h : wpList P ops Q (o :: rest) a w ∧ True) : wpList P ops Q (o :: rest) a w := h.1
theorem info_sl : (Try.prog.info? 22).map (·.size) = some 1 := by kernel_rfl
theorem more_more (x : Nat → In) {p n : Nat} (h : p ≤ n) : moreI (moreI x p) n = moreI x p := by
  funext i
  by_cases e : i < n
  · rw [moreI_lt e]
  · show (if i < n then _ else exitI) = (if i < p then _ else exitI)
    rw [if_neg e, if_neg (by omega)]
theorem check_mores {c : Int} {p : Nat} {x : Nat → In} (h : (checkI c p x).2 = 0) : ∀ k, p + k ≤ 64 → (checkI c (p + k) (moreI x p)).2 = 0
  | 0, _ => by
    obtain ⟨hc, h1, hf, hl⟩ := check_facts h
    exact check_of hc h1 (fun k hk => by rw [moreI_lt (show k < p by omega)]; exact hf k (by omega)) (by rw [Nat.add_zero, moreI_lt (by omega)]; exact hl)
  | k + 1, hk => by
    have := check_more (check_mores h k (by omega)) (by omega)
    rwa [more_more x (by omega)] at this
theorem cells_mores (x : Nat → In) {p n : Nat} (h : p ≤ n) : cellsI (moreI x p) (n + 1) = cellsI (moreI x p) n ++ exitI.cells.toList := by
  show cellsI (moreI x p) n ++ (moreI x p n).cells.toList = _
  rw [show moreI x p n = exitI from if_neg (by omega)]

/-- What Run yields where it may: its outcome in a block's cells. -/
def RanB (oo : Out) (W : World) (e : Ending) (w' : World) : Prop :=
  ∃ (oa : Option Addr) (ob : Nat) (ta : Option Addr) (tc : Nat), e = .returned (.tuple #[outV oo oa ob ta tc, .int .i64 0]) ∧ OutAt w' oo oa ob ta tc ∧ Below W.heap.size W w'

theorem behind_bad (c : Int) (pa : Option Addr) (plen pcap : Nat) (x : Nat → In) (ca : Option Addr) (cl cc : Nat) (aa : Option Addr) (al ac : Nat) (fuel more r : Int) (W : World) (hr : ¬ r = 0)
    (h1 : plen ≤ 100) (h2 : cl ≤ 400) (h3 : al ≤ 400) (h4 : ¬ (2000 < fuel ∧ fuel ≤ 10000))
    (ST : ∀ w, Below W.heap.size W w → Calls Try.prog 18 #[.agg #[.int .i64 c, .slice pa plen pcap], .slice ca cl cc, .slice aa al ac, .int .i64 fuel] w fun e w' => e = .returned (.tuple #[.pointer none, .int .i64 r]) ∧ Below w.heap.size w w') :
    Calls Try.prog 6 #[.agg #[.int .i64 c, .slice pa plen pcap], .slice ca cl cc, .slice aa al ac, .int .i64 fuel, .int .i64 more] W fun e w' => e = .returned (.bool true) ∧ Below W.heap.size W w' := by
  have GR := Lib.hid (fun W => great_no c pa plen pcap ca cl cc aa al ac fuel W h1 h2 h3 h4)
  have RB := Lib.hid (fun w (h : Below W.heap.size W w) => run_bad r hr c pa plen pcap ca cl cc aa al ac fuel w (fun w2 b => ST w2 (h.trans (b.mono h.size))))
  have e0 : (r != 0) = true := by simpa using hr
  clear h1 h2 h3 h4 ST hr
  go_enter Try.func6, Try.ntmps6
  go_wp2_with fail
  refine (GR.out _).mono ?_
  rintro e w1 ⟨rfl, b1⟩
  have c0 := (b1.cell (p := ⟨W.heap.size, 0, none⟩) (by simp)).trans (show _ = some (Value.int .i64 c) by simp)
  have c1 := (b1.cell (p := ⟨W.heap.size, 1, none⟩) (by simp)).trans (show _ = some (Value.slice pa plen pcap) by simp)
  have B1 := Lib.hid (below_call (below_new (Below.refl _ W) _) b1)
  clear b1
  go_wp2_with fail
  refine (RB.out _ B1.out).mono ?_
  rintro e w2 ⟨rfl, b2⟩
  have B2 := Lib.hid (below_call B1.out b2)
  clear b2 B1 c0 c1
  unfold outV
  go_wp2_with fail
  refine (wakes_any _).mono ?_
  rintro e w3 ⟨rfl, b3⟩
  go_wp2_with fail
  go_ret
  exact ⟨rfl, below_call (below_new B2.out _) b3⟩

theorem sameB_refl (o : Out) : sameB o o = true := by
  unfold sameB endB
  simp
theorem cells_new2 (w : World) (cs : List Value) (t : TypeId) : ∀ j u, cs[j]? = some u → (w.alloc (.cells cs.toArray t)).cell? ((⟨w.heap.size, 0, none⟩ : Addr).add j) = some u := by
  intro j u hu
  have := heap_last w (.cells cs.toArray t) _ rfl
  rw [Go.WideShapes.add_plain, Nat.zero_add]
  simp only [World.cell?]
  rw [this]
  simpa using hu
/-- While exits are appended: the outcome's block, the program's, its row. -/
structure QS (w2 : World) (c : Int) (x : Nat → In) (p n : Nat) (oc : Array Value) (w : World) : Prop where
  bel : Below w2.heap.size w2 w
  out : w.heap[w2.heap.size]? = some (.cells oc 33 (0, 0))
  prog : ∃ g cap, w.heap[w2.heap.size + 1]? = some (.cells #[.int .i64 c, .slice (some ⟨g, 0, none⟩) n cap] 24 (0, 0)) ∧ w.ownsRow (w2.heap.size + 2) 55 9 (.slice (some ⟨g, 0, none⟩) n cap) n (cellsI (moreI x p) n)
theorem QS.store {w2 w w' : World} {c : Int} {x : Nat → In} {p n g cap : Nat} {oc old : Array Value} (bel : Below w2.heap.size w2 w) (out : w.heap[w2.heap.size]? = some (.cells oc 33 (0, 0))) (hp : w.heap[w2.heap.size + 1]? = some (.cells old 24 (0, 0)))
    (ho : w.ownsRow (w2.heap.size + 2) 55 9 (.slice (some ⟨g, 0, none⟩) n cap) n (cellsI (moreI x p) n)) (s : Stored w (w2.heap.size + 1) #[.int .i64 c, .slice (some ⟨g, 0, none⟩) n cap] 24 w') : QS w2 c x p n oc w' := by
  have t : Trn [w2.heap.size + 1] w w' := ⟨s.os, s.tape, s.output, by rw [s.size]; exact Nat.le_refl _, fun k _ hn => s.other k (by simpa using hn)⟩
  exact ⟨s.below bel (by omega), t.row out (by simp), g, cap, s.row, own_trn ho t (fun j hj => by simpa using own_ne ho hp (by decide) j hj)⟩
set_option maxHeartbeats 16000000 in
theorem behind_ok (c : Int) (b o plen pcap : Nat) (x : Nat → In) (ca : Option Addr) (cl cc : Nat) (cf : Nat → Int) (aa : Option Addr) (al ac : Nat) (zs : List Int) (fuel more : Int) (W : World) (hI : Insts W (some ⟨b, o, none⟩) plen pcap x) (hS : Src W ca cl cc cf) (hA : WordsAt W aa al ac zs)
    (hz : ∀ z ∈ zs, 0 ≤ z ∧ z < 18446744073709551616) (hchk : (checkI c plen x).2 = 0) (hlen : (cl : Int) = c) (f0 : 0 ≤ fuel) (f1 : fuel ≤ 10000) (h3 : al ≤ 400) (h4 : ¬ (2000 < fuel ∧ fuel ≤ 10000)) :
    Calls Try.prog 6 #[.agg #[.int .i64 c, .slice (some ⟨b, o, none⟩) plen pcap], .slice ca cl cc, .slice aa al ac, .int .i64 fuel, .int .i64 more] W fun e w' => e = .returned (.bool true) ∧ Below W.heap.size W w' := by
  have hle := hI.le
  have hfit := hI.fit
  obtain ⟨h1, h64, _⟩ := ends_facts hchk
  have hcc := check_c hchk
  have GR := Lib.hid (fun W => great_no c (some ⟨b, o, none⟩) plen pcap ca cl cc aa al ac fuel W (by omega) (by omega) h3 h4)
  obtain ⟨tk, htk⟩ : ∃ tk : Nat, min (al : Int) fuel = (tk : Int) := ⟨(min (al : Int) fuel).toNat, by omega⟩
  have RUN := Lib.hid (fun w (h : Below W.heap.size W w) => (run_ok c b o plen pcap x ca cl cc cf aa al ac tk zs fuel w (hI.below h) (hS.below h) (hA.below h) hchk hlen f0 f1 htk (by omega) hz).mono (fun _ _ h => h.plain))
  have RUN2 := Lib.hid (fun w (h : Below W.heap.size W w) g k p2 (hk : plen + k ≤ 64) (hi2 : Insts w (some ⟨g, 0, none⟩) (plen + k) p2 (moreI x plen)) (oo : Out) (F : Fine (env x plen)) (R : Runs (env x plen) (ini 0 cl cf fuel (zs.take tk))) (E : Ends x plen (ini 0 cl cf fuel (zs.take tk)) oo) =>
    (show Calls Try.prog 9 _ w (RanB oo w) from (run_ok c g 0 (plen + k) p2 (moreI x plen) ca cl cc cf aa al ac tk zs fuel w hi2 (hS.below h) (hA.below h) (check_mores hchk k hk) hlen f0 f1 htk (by omega) hz).mono (fun _ _ h => by
      obtain ⟨o2, oa, ob, ta, tc, _, _, E2, rfl, ho, hb⟩ := h.plain
      obtain rfl := ends_behind (Nat.le_add_right plen k) (fun i hi => moreI_lt hi) F R E E2
      exact ⟨oa, ob, ta, tc, rfl, ho, hb⟩)))
  have OK := Lib.hid hI.ok
  have HX := Lib.hid hI
  obtain ⟨ti, tz, hi1, hi2, hi3, hi4, hi5⟩ := info_ins40
  have TI := Lib.hid (And.intro hi1 (And.intro hi2 (And.intro hi3 (And.intro hi4 hi5))))
  clear hi1 hi2 hi3 hi4 hi5 hI hS hA hz hchk hlen f0 f1 h3 h4 htk
  generalize zs.take tk = ys at *
  go_enter Try.func6, Try.ntmps6
  go_wp2_with fail
  refine (GR.out _).mono ?_
  rintro e w1 ⟨rfl, b1⟩
  have c0 := (b1.cell (p := ⟨W.heap.size, 0, none⟩) (by simp)).trans (show _ = some (Value.int .i64 c) by simp)
  have c1 := (b1.cell (p := ⟨W.heap.size, 1, none⟩) (by simp)).trans (show _ = some (Value.slice (some ⟨b, o, none⟩) plen pcap) by simp)
  have B1 := Lib.hid (below_call (below_new (Below.refl _ W) _) b1)
  clear b1 GR
  go_wp2_with fail
  refine (RUN.out _ B1.out).mono ?_
  rintro e w2 ⟨oo, oa, ob, ta, tc, F, RR, EN, rfl, OA, b2⟩
  have c0 := (b2.cell (lt_of_cell c0)).trans c0
  have c1 := (b2.cell (lt_of_cell c1)).trans c1
  have B2 := Lib.hid (below_call B1.out b2)
  have l0 := lt_of_cell c0
  have R2 := Lib.hid (fun w h g k p2 hk hi2 => RUN2.out w h g k p2 hk hi2 oo F RR EN)
  have OA := Lib.hid OA
  clear b2 B1 RUN RUN2 F RR EN
  unfold outV at *
  go_wp2_with (refine (halt_append _ _ 22 rfl ?_))
  refine ⟨?_, trivial⟩
  have ball := below_new (below_new (Below.refl w2.heap.size w2) (.cells #[.int .i8 oo.kind, .int .u64 oo.r0, .slice oa oo.ctx.length ob, .slice ta oo.tr.length tc, .int .i64 oo.left] 33)) (.cells #[.int .i64 c, .slice none 0 0] 24)
  have qo := (heap_past (w2.alloc (.cells #[.int .i8 oo.kind, .int .u64 oo.r0, .slice oa oo.ctx.length ob, .slice ta oo.tr.length tc, .int .i64 oo.left] 33)) (.cells #[.int .i64 c, .slice none 0 0] 24) _ (by simp)).trans (heap_last w2 (.cells #[.int .i8 oo.kind, .int .u64 oo.r0, .slice oa oo.ctx.length ob, .slice ta oo.tr.length tc, .int .i64 oo.left] 33) _ rfl)
  have qp := heap_last (w2.alloc (.cells #[.int .i8 oo.kind, .int .u64 oo.r0, .slice oa oo.ctx.length ob, .slice ta oo.tr.length tc, .int .i64 oo.left] 33)) (.cells #[.int .i64 c, .slice none 0 0] 24) (w2.heap.size + 1) (by simp)
  have z3 : w2.heap.size + 2 ≤ ((w2.alloc (.cells #[.int .i8 oo.kind, .int .u64 oo.r0, .slice oa oo.ctx.length ob, .slice ta oo.tr.length tc, .int .i64 oo.left] 33)).alloc (.cells #[.int .i64 c, .slice none 0 0] 24)).heap.size := by simp
  generalize (w2.alloc (.cells #[.int .i8 oo.kind, .int .u64 oo.r0, .slice oa oo.ctx.length ob, .slice ta oo.tr.length tc, .int .i64 oo.left] 33)).alloc (.cells #[.int .i64 c, .slice none 0 0] 24) = w3 at *
  obtain ⟨b', o', eb, hcells⟩ := HX.out.here (by omega)
  obtain ⟨rfl, rfl⟩ : b = b' ∧ o = o' := by simpa using eb
  have W2 := B2.out
  have b3 := W2.trans (ball.mono W2.size)
  have rows : ∀ i, i < plen → w3.rangeAt b (o + i * 9) (moreI x plen i).cells.toList := fun i hi => by rw [moreI_lt hi]; exact Ins.rangeAt_below b3 (hcells i hi)
  clear eb hcells W2 b3
  refine wpList_append_own _ rfl _ _ 22 rfl (w2.heap.size + 2) 55 ti tz 9 ti.bytes Try.underlying22 TI.out.1 TI.out.2.1 TI.out.2.2.2.1 rfl TI.out.2.2.1 (by decide) _ 0 [] rfl (World.ownsRow_nil _ _ _ _) ⟨b, o, none⟩ plen pcap (cellsI (moreI x plen) plen) rfl (cellsI_length _ _) (insts_src rows) (cellsI_one _ _) (by unfold maxLen; omega) (by have := Nat.mul_le_mul (show 0 + plen ≤ 64 by omega) TI.out.2.2.2.2; omega) z3 ?_
  intro v1 w4 o4 g4 _
  have o4' : w4.ownsRow (w2.heap.size + 2) 55 9 v1 plen (cellsI (moreI x plen) plen) := by simpa using o4
  have t4 : Trn [] w3 w4 := trn_grown g4
  obtain ⟨gv, capv, rfl, hgv, _⟩ := own_insts o4' (by omega) (fun i hi => by rw [moreI_lt hi]; exact OK.out i hi)
  have qo4 := t4.row qo (by simp)
  have qp4 := t4.row qp (by simp)
  have be4 := ball.trans (t4.below.mono ball.size)
  clear o4 g4 t4 qo qp ball z3 rows
  have c0 := (be4.cell (lt_of_cell c0)).trans c0
  clear c0 c1 l0
  have QO := Lib.hid qo4
  have QP := Lib.hid qp4
  have BE := Lib.hid be4
  have O4 := Lib.hid o4'
  clear qo4 qp4 be4 o4'
  go_wp2_with (refine (halt_store 22 _ _ rfl ?_))
  refine ⟨?_, trivial⟩
  refine wpList_store_cell rfl 22 _ _ rfl (w2.heap.size + 1) 1 (.slice (some ⟨gv, 0, none⟩) plen capv) rfl rfl rfl rfl 24 _ QP.out info_sl (by simp) ?_
  intro w5 s5
  have Q5 := Lib.hid (QS.store BE.out QO.out QP.out O4.out (c := c) s5)
  clear s5 BE QO QP O4
  go_wp2_with fail
  go_loopw [14] (fun i wr => ∃ k : Nat, plen + k ≤ 64 ∧ i = .int .i64 k ∧ Hid (QS w2 c x plen (plen + k) #[.int .i8 oo.kind, .int .u64 oo.r0, .slice oa oo.ctx.length ob, .slice ta oo.tr.length tc, .int .i64 oo.left] wr)) (fun i _ => 64 - (intOf i).toNat)
  case atStart => exact ⟨0, by omega, rfl, Lib.hid Q5.out⟩
  case round =>
    clear Q5
    obtain ⟨k, hk, rfl, hQ⟩ := hrel
    obtain ⟨g, cap, hp, ho⟩ := hQ.out.prog
    have okm : ∀ i, i < plen + k → (moreI x plen i).Ok := fun i hi => by
      by_cases e : i < plen
      · rw [moreI_lt e]; exact OK.out i e
      · rw [show moreI x plen i = exitI from if_neg e]
        exact ⟨by decide, by decide, by decide, by decide, by decide, by decide, by decide, by decide⟩
    have hI7 : Insts wr (some ⟨g, 0, none⟩) (plen + k) cap (moreI x plen) := by
      obtain ⟨g', cap', e, _, h⟩ := own_insts ho (by omega) okm
      injection e with e1 _ e3
      injection e1 with e1
      injection e1 with e1
      subst e1 e3
      exact h
    have hcap := hI7.le
    have hcap2 := hI7.fit
    have gl := (World.ownsRow.lt ho g rfl)
    have x0 : wr.cell? ⟨w2.heap.size + 1, 0, none⟩ = some (.int .i64 c) := by simp only [World.cell?, hp]; rfl
    have x1 : wr.cell? ⟨w2.heap.size + 1, 1, none⟩ = some (.slice (some ⟨g, 0, none⟩) (plen + k) cap) := by simp only [World.cell?, hp]; rfl
    have I7 := Lib.hid hI7
    have HO := Lib.hid ho
    have HP := Lib.hid hp
    clear hI7 ho hp okm
    by_cases hm : (k : Int) < more
    case neg =>
      go_wp2_with fail
      refine (R2.out _ (B2.out.trans (hQ.out.bel.mono B2.out.size)) g k cap hk I7.out).mono ?_
      rintro e w8 ⟨oa2, ob2, ta2, tc2, rfl, OA8, b8⟩
      have r8 := brow b8 hQ.out.out
      have y0 : w8.cell? ⟨w2.heap.size, 0, none⟩ = some (.int .i8 oo.kind) := by simp only [World.cell?, r8]; rfl
      have y1 : w8.cell? ⟨w2.heap.size, 1, none⟩ = some (.int .u64 oo.r0) := by simp only [World.cell?, r8]; rfl
      have y2 : w8.cell? ⟨w2.heap.size, 2, none⟩ = some (.slice oa oo.ctx.length ob) := by simp only [World.cell?, r8]; rfl
      have y3 : w8.cell? ⟨w2.heap.size, 3, none⟩ = some (.slice ta oo.tr.length tc) := by simp only [World.cell?, r8]; rfl
      have y4 : w8.cell? ⟨w2.heap.size, 4, none⟩ = some (.int .i64 oo.left) := by simp only [World.cell?, r8]; rfl
      have l8 := lt_of_cell y0
      have b28 := hQ.out.bel.trans (b8.mono hQ.out.bel.size)
      have SM := Lib.hid (fun w (h : Below w8.heap.size w8 w) => r_same oo oo oa ta oa2 ta2 ob tc ob2 tc2 w ((OA.out.below b28).below h) (OA8.below h))
      rw [sameB_refl] at SM
      have B8 := Lib.hid (B2.out.trans (b28.mono B2.out.size))
      clear r8 b8 b28 OA8 x0 x1 I7 HO HP hQ R2
      unfold outV at *
      go_wp2_with fail
      refine (SM.out _ (below_new (Below.refl _ _) _)).mono ?_
      rintro e w9 ⟨rfl, b9⟩
      have B9 := Lib.hid (below_call (below_new B8.out _) b9)
      clear b9 SM B8 y0 y1 y2 y3 y4
      go_wp2_with fail
      refine (wakes_any _).mono ?_
      rintro e w10 ⟨rfl, b10⟩
      go_wp2_with fail
      go_ret
      exact ⟨rfl, below_call B9.out b10⟩
    by_cases hn : plen + k < 64
    case neg =>
      go_wp2_with fail
      refine (R2.out _ (B2.out.trans (hQ.out.bel.mono B2.out.size)) g k cap hk I7.out).mono ?_
      rintro e w8 ⟨oa2, ob2, ta2, tc2, rfl, OA8, b8⟩
      have r8 := brow b8 hQ.out.out
      have y0 : w8.cell? ⟨w2.heap.size, 0, none⟩ = some (.int .i8 oo.kind) := by simp only [World.cell?, r8]; rfl
      have y1 : w8.cell? ⟨w2.heap.size, 1, none⟩ = some (.int .u64 oo.r0) := by simp only [World.cell?, r8]; rfl
      have y2 : w8.cell? ⟨w2.heap.size, 2, none⟩ = some (.slice oa oo.ctx.length ob) := by simp only [World.cell?, r8]; rfl
      have y3 : w8.cell? ⟨w2.heap.size, 3, none⟩ = some (.slice ta oo.tr.length tc) := by simp only [World.cell?, r8]; rfl
      have y4 : w8.cell? ⟨w2.heap.size, 4, none⟩ = some (.int .i64 oo.left) := by simp only [World.cell?, r8]; rfl
      have l8 := lt_of_cell y0
      have b28 := hQ.out.bel.trans (b8.mono hQ.out.bel.size)
      have SM := Lib.hid (fun w (h : Below w8.heap.size w8 w) => r_same oo oo oa ta oa2 ta2 ob tc ob2 tc2 w ((OA.out.below b28).below h) (OA8.below h))
      rw [sameB_refl] at SM
      have B8 := Lib.hid (B2.out.trans (b28.mono B2.out.size))
      clear r8 b8 b28 OA8 x0 x1 I7 HO HP hQ R2
      unfold outV at *
      go_wp2_with fail
      refine (SM.out _ (below_new (Below.refl _ _) _)).mono ?_
      rintro e w9 ⟨rfl, b9⟩
      have B9 := Lib.hid (below_call (below_new B8.out _) b9)
      clear b9 SM B8 y0 y1 y2 y3 y4
      go_wp2_with fail
      refine (wakes_any _).mono ?_
      rintro e w10 ⟨rfl, b10⟩
      go_wp2_with fail
      go_ret
      exact ⟨rfl, below_call B9.out b10⟩
    have hz0 : w2.heap.size + 2 ≤ (wr.alloc (.cells exitI.cells 55)).heap.size := by have := gl.1; have := gl.2; simp; omega
    have OC := Lib.hid (show ∀ u ∈ exitI.cells.toList, u.oneCell' = true from by have := one_cells exitI; rw [Array.all_eq_true_iff_forall_mem] at this; exact fun u hu => this u (by simpa using hu))
    go_wp2_with (refine (halt_append _ _ 22 rfl ?_))
    refine ⟨?_, trivial⟩
    have b5 := below_new (Below.refl wr.heap.size wr) (.cells exitI.cells 55)
    have o5 := own_below HO.out b5
    refine wpList_append_own _ rfl _ _ 22 rfl (w2.heap.size + 2) 55 ti tz 9 ti.bytes Try.underlying22 TI.out.1 TI.out.2.1 TI.out.2.2.2.1 rfl TI.out.2.2.1 (by decide) _ (plen + k) (cellsI (moreI x plen) (plen + k)) rfl o5 ⟨wr.heap.size, 0, none⟩ 1 1 exitI.cells.toList rfl rfl (cells_new2 wr _ _) OC.out (by unfold maxLen; omega) (by have := Nat.mul_le_mul (show plen + k + 1 ≤ 65 by omega) TI.out.2.2.2.2; omega) hz0 ?_
    intro v2 w6 o6 g6 _
    have o6' : w6.ownsRow (w2.heap.size + 2) 55 9 v2 (plen + (k + 1)) (cellsI (moreI x plen) (plen + (k + 1))) := by
      rw [← Nat.add_assoc, cells_mores x (Nat.le_add_right _ _)]; exact o6
    have t6 : Trn [g] _ w6 := trn_grown g6
    obtain ⟨g2, cap2, rfl, hg2, _⟩ := own_insts o6' (by omega) (fun i hi => by
      by_cases e : i < plen
      · rw [moreI_lt e]; exact OK.out i e
      · rw [show moreI x plen i = exitI from if_neg e]
        exact ⟨by decide, by decide, by decide, by decide, by decide, by decide, by decide, by decide⟩)
    have qo6 := t6.row (brow b5 hQ.out.out) (by have := gl.1; simp; omega)
    have qp6 := t6.row (brow b5 HP.out) (by have := gl.1; simp; omega)
    have be6 := below_trn (hQ.out.bel.trans (b5.mono hQ.out.bel.size)) t6 (by have := gl.1; omega)
    have QO := Lib.hid qo6
    have QP := Lib.hid qp6
    have BE := Lib.hid be6
    have O6 := Lib.hid o6'
    clear qo6 qp6 be6 o6' o6 g6 t6 o5 b5 HO HP hQ I7 x0 x1 hz0 gl OC
    go_wp2_with (refine (halt_store 22 _ _ rfl ?_))
    refine ⟨?_, trivial⟩
    refine wpList_store_cell rfl 22 _ _ rfl (w2.heap.size + 1) 1 (.slice (some ⟨g2, 0, none⟩) (plen + (k + 1)) cap2) rfl rfl rfl rfl 24 _ QP.out info_sl (by simp) ?_
    intro w7 s7
    have Q7 := Lib.hid (QS.store BE.out QO.out QP.out O6.out (c := c) s7)
    clear s7 BE QO QP O6
    go_wp2_with fail
    go_roundw
    case rel => exact ⟨k + 1, by omega, by go_num, Lib.hid Q7.out⟩
    case measure => simp [intOf]; omega

theorem behind_great (c : Int) (pa : Option Addr) (plen pcap : Nat) (ca : Option Addr) (cl cc : Nat) (aa : Option Addr) (al ac : Nat) (fuel more : Int) (W : World) (h : ¬ (plen ≤ 100 ∧ cl ≤ 400 ∧ al ≤ 400 ∧ ¬ (2000 < fuel ∧ fuel ≤ 10000))) :
    Calls Try.prog 6 #[.agg #[.int .i64 c, .slice pa plen pcap], .slice ca cl cc, .slice aa al ac, .int .i64 fuel, .int .i64 more] W fun e w' => e = .returned (.bool true) ∧ Below W.heap.size W w' := by
  have GR := Lib.hid (fun W => great_yes c pa plen pcap ca cl cc aa al ac fuel W h)
  clear h
  go_enter Try.func6, Try.ntmps6
  go_wp2_with fail
  refine (GR.out _).mono ?_
  rintro e w1 ⟨rfl, b1⟩
  have B1 := Lib.hid (below_call (below_new (Below.refl _ W) _) b1)
  clear b1
  go_wp2_with fail
  refine (wakes_any _).mono ?_
  rintro e w3 ⟨rfl, b3⟩
  go_wp2_with fail
  go_ret
  exact ⟨rfl, below_call B1.out b3⟩

theorem behind_law (c : Int) (pa : Option Addr) (plen pcap : Nat) (x : Nat → In) (ca : Option Addr) (cl cc : Nat) (cz : List Int) (aa : Option Addr) (al ac : Nat) (az : List Int) (fuel more : Int) (W : World) (_ : (Lit.int .i64 c).wf = true) (hI : Insts W pa plen pcap x) (rc : IsRow .u8 W ca cl cc cz)
    (hz : ∀ z ∈ az, 0 ≤ z ∧ z < 18446744073709551616) (hA : WordsAt W aa al ac az) (_ : (Lit.int .i64 fuel).wf = true) (_ : (Lit.int .i64 more).wf = true) :
    Calls Try.prog 6 #[.agg #[.int .i64 c, .slice pa plen pcap], .slice ca cl cc, .slice aa al ac, .int .i64 fuel, .int .i64 more] W fun e w' => e = .returned (.bool true) ∧ Below W.heap.size W w' := by
  by_cases hg : plen ≤ 100 ∧ cl ≤ 400 ∧ al ≤ 400 ∧ ¬ (2000 < fuel ∧ fuel ≤ 10000)
  case neg => exact behind_great c pa plen pcap ca cl cc aa al ac fuel more W hg
  obtain ⟨g1, g2, g3, g4⟩ := hg
  by_cases hchk : (checkI c plen x).2 = 0
  case neg => exact behind_bad c pa plen pcap x ca cl cc aa al ac fuel more _ W hchk g1 g2 g3 g4 (fun w h => start_chk c pa plen pcap x ca cl cc aa al ac fuel w (hI.below h) hchk)
  by_cases ha : (cl : Int) = c ∧ 0 ≤ fuel ∧ fuel ≤ 10000
  case neg => exact behind_bad c pa plen pcap x ca cl cc aa al ac fuel more 2 W (by decide) g1 g2 g3 g4 (fun w h => start_arg c pa plen pcap x ca cl cc aa al ac fuel w (hI.below h) hchk ha)
  obtain ⟨h1, _, _⟩ := ends_facts hchk
  obtain ⟨b, o, rfl, _⟩ := hI.here (by omega)
  exact behind_ok c b o plen pcap x ca cl cc _ aa al ac az fuel more W hI (src_row rc) hA hz hchk ha.1 ha.2.1 ha.2.2 g3 g4
end Go.Proofs.Ythhgcbegcbhaeaa.Mdl
