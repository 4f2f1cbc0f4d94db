/-
  The walk of the law TraceTells.
-/
import Derived.Test.YtpbnmbeedjhloaaTrcL
import Derived.Test.YtpbnmbeedjhloaaTrcO
import Derived.Test.YtpbnmbeedjhloaaTrcF
import Derived.Test.YtpbnmbeedjhloaaTrcS
namespace Go.Proofs.Ytpbnmbeedjhloaa.Trc
open Go.RowKit
set_option linter.unusedVariables false
set_option maxRecDepth 100000

theorem MidAt.outAt {old lo : Nat} {w : World} {x : Out} {cv tv : Value} {ps : List (Ev × (Option Addr × Nat))} (h : MidAt old lo w x cv tv ps x.tr.length) (ok : ∀ z ∈ x.ctx, 0 ≤ z ∧ z < 256) : ∃ ca cc ta tc, Value.agg #[.int .i8 x.kind, .int .u64 x.r0, cv, tv, .int .i64 x.left] = outV x ca cc ta tc ∧ OutAt w x ca cc ta tc := by
  obtain ⟨ca, cc, rfl⟩ := own_slice h.ctx
  have hc := own_bytes h.ctx ok
  have hpl : ps.length = x.tr.length := by rw [← h.evs, List.length_map]
  have hE : ∃ a cap, tv = .slice a x.tr.length cap ∧ EvsAt w a x.tr.length cap x.tr := by
    rcases h.row.2 with ⟨rfl, h0⟩ | ⟨g, cap, cur, rfl, e2, e3, e4, e5, e6, e7⟩
    · refine ⟨none, 0, by rw [h0], ?_⟩
      have : x.tr = [] := List.eq_nil_of_length_eq_zero h0
      rw [this]; exact EvsAt.nil w
    · refine ⟨_, cap, rfl, ⟨rfl, e4, by unfold maxLen at e5; omega, fun _ => ⟨g, 0, rfl, fun i e he => ?_⟩, fun h => by cases h⟩⟩
      have hi : i < x.tr.length := (List.getElem?_eq_some_iff.1 he).1
      obtain ⟨p, hp⟩ : ∃ p, ps[i]? = some p := ⟨_, List.getElem?_eq_getElem (by omega)⟩
      have hpe : x.tr[i]? = some p.1 := by rw [← h.evs, List.getElem?_map, hp]; rfl
      rw [he] at hpe
      injection hpe with hpe
      subst hpe
      refine ⟨p.2.1, p.2.2, ?_, own_words (h.done i p hp hi)⟩
      intro k u hu
      have hk : k < 3 := (List.getElem?_eq_some_iff.1 hu).1
      have h1 := cellsE_get hp hk
      rw [← e7, List.getElem?_take_of_lt (by omega), Array.getElem?_toList] at h1
      simp only [World.cell?, e3, Nat.zero_add]
      rw [h1]; exact hu
  obtain ⟨ta, tc, rfl, he⟩ := hE
  exact ⟨ca, cc, ta, tc, rfl, hc, he⟩

theorem info_out : (Try.prog.info? 76).map (·.size) = some 5 := by kernel_rfl
theorem load_out {w : World} {b : Nat} {x : Out} {ca ta : Option Addr} {cc tc : Nat} (h : Box5 w b x ca cc ta tc) : (loadVar 76 ⟨b, 0, none⟩).run Try.prog w = .ok (.agg #[.int .i8 x.kind, .int .u64 x.r0, .slice ca x.ctx.length cc, .slice ta x.tr.length tc, .int .i64 x.left]) w :=
  run_loadVar_mid w b 0 76 [.int .i8 x.kind, .int .u64 x.r0, .slice ca x.ctx.length cc, .slice ta x.tr.length tc, .int .i64 x.left] _ (fun j v hj => by
    have hl : j < 5 := (List.getElem?_eq_some_iff.1 hj).1
    obtain rfl | rfl | rfl | rfl | rfl : j = 0 ∨ j = 1 ∨ j = 2 ∨ j = 3 ∨ j = 4 := by omega
    · exact h.c0.trans hj
    · exact h.c1.trans hj
    · exact h.c2.trans hj
    · exact h.c3.trans hj
    · exact h.c4.trans hj) Try.underlying76 rfl info_out
def evC (z : Ev) (na : Option Addr) (nc : Nat) : Obj := .cells #[.int .i64 z.num, .slice na z.args.length nc, .int .u64 z.ans] 79
theorem bxE (W : World) (z : Ev) (na : Option Addr) (nc : Nat) (o1 o2 : Obj) : (((W.alloc o1).alloc o2).alloc (evC z na nc)).rangeAt (W.heap.size + 1 + 1) 0 (cellE z na nc) := by
  have h := heap_last ((W.alloc o1).alloc o2) (evC z na nc) (W.heap.size + 1 + 1) (by rw [size_alloc, size_alloc])
  intro j v hj
  have hl : j < 3 := (List.getElem?_eq_some_iff.1 hj).1
  generalize ((W.alloc o1).alloc o2).alloc (evC z na nc) = w' at *
  simp only [World.cell?, h, evC]
  obtain rfl | rfl | rfl : j = 0 ∨ j = 1 ∨ j = 2 := by omega
  · exact hj
  · exact hj
  · exact hj

set_option maxHeartbeats 32000000 in
theorem traceTells_walk (x : Out) (ca1 : Option Addr) (cc1 : Nat) (ta1 : Option Addr) (tc1 : Nat) (y : Out) (ca2 : Option Addr) (cc2 : Nat) (ta2 : Option Addr) (tc2 : Nat) (z : Ev) (na : Option Addr) (nc : Nat) (n : Int) (W : World) (h1 : OutAt W x ca1 cc1 ta1 tc1) (h2 : OutAt W y ca2 cc2 ta2 tc2) (h3 : WordsAt W na z.args.length nc z.args) :
    Calls Try.prog 8 #[outV x ca1 cc1 ta1 tc1, outV y ca2 cc2 ta2 tc2, .agg #[.int .i64 z.num, .slice na z.args.length nc, .int .u64 z.ans], .int .i64 n] W fun e w' => e = .returned (.bool true) ∧ Below W.heap.size W w' := by
  have XA := Lib.hid (bx1 W x ca1 ta1 cc1 tc1 (outC y ca2 cc2 ta2 tc2) (evC z na nc)).toBox5
  have XB := Lib.hid (bx2 W y ca2 ta2 cc2 tc2 (outC x ca1 cc1 ta1 tc1) (evC z na nc)).toBox5
  have XE := Lib.hid (bxE W z na nc (outC x ca1 cc1 ta1 tc1) (outC y ca2 cc2 ta2 tc2))
  have BW := Lib.hid (bb3 W (outC x ca1 cc1 ta1 tc1) (outC y ca2 cc2 ta2 tc2) (evC z na nc))
  have GA := Lib.hid (fun w b => great_any x ca1 ta1 cc1 tc1 w (h1.below (w := w) b))
  have GB := Lib.hid (fun w b => great_any y ca2 ta2 cc2 tc2 w (h2.below (w := w) b))
  have FEW := Lib.hid (fun (h : greatB x = false) => great_few h)
  have HOK := Lib.hid h1.ctx.ok
  have hwl := h3.le
  have hwf := h3.fit
  have SM0 := Lib.hid (fun w b => same_any x y ca1 ta1 ca2 ta2 cc1 tc1 cc2 tc2 w (h1.below (w := w) b) (h2.below b))
  have RSM0 := Lib.hid (fun w b => r_same x y ca1 ta1 ca2 ta2 cc1 tc1 cc2 tc2 w (h1.below (w := w) b) (h2.below b))
  have LK0 := Lib.hid (fun w b => like_any x y ca1 ta1 ca2 ta2 cc1 tc1 cc2 tc2 w (h1.below (w := w) b) (h2.below b))
  have RLK0 := Lib.hid (fun w b => r_like x y ca1 ta1 ca2 ta2 cc1 tc1 cc2 tc2 w (h1.below (w := w) b) (h2.below b))
  have BG0 := Lib.hid (fun w b => begins_any ta1 ta2 x.tr.length tc1 y.tr.length tc2 x.tr y.tr w (h1.below (w := w) b).tr (h2.below b).tr)
  have RBG0 := Lib.hid (fun w b => r_begins ta1 ta2 x.tr.length tc1 y.tr.length tc2 x.tr y.tr w (h1.below (w := w) b).tr (h2.below b).tr)
  have BC0 := Lib.hid (fun w b => becomes_any x y ca1 ta1 ca2 ta2 cc1 tc1 cc2 tc2 w (h1.below (w := w) b) (h2.below b))
  have RBC0 := Lib.hid (fun w b => r_becomes x y ca1 ta1 ca2 ta2 cc1 tc1 cc2 tc2 w (h1.below (w := w) b) (h2.below b))
  have MY : Hid (∀ w, Calls Try.prog 58 #[.agg #[.int .i64 z.num, .slice na z.args.length nc, .int .u64 z.ans]] w fun e w' => e = .returned (.bool (mayB z)) ∧ Below w.heap.size w w') := fun w => may_any z na nc w (by omega)
  have RMY : Hid (∀ w, Calls Try.prog 59 #[.agg #[.int .i64 z.num, .slice na z.args.length nc, .int .u64 z.ans]] w fun e w' => e = .returned (.bool (mayB z)) ∧ Below w.heap.size w w') := fun w => r_may z na nc w (by omega)
  have FU := Lib.hid (fun w => fuel_any n w)
  have RFU := Lib.hid (fun w => r_fuel n w)
  have CP0 := Lib.hid (fun w b hf => copy_any x ca1 cc1 ta1 tc1 w (h1.below (w := w) b) hf)
  have SC0 := Lib.hid (fun w b ca cc ta tc h => r_same x x ca ta ca1 ta1 cc tc cc1 tc1 w h (h1.below (w := w) b))
  rw [sameB_iff.2 rfl] at SC0
  clear h1 h2 h3
  generalize greatB x = ga at GA FEW
  generalize greatB y = gb at GB
  generalize sameB x y = s at *
  generalize likeB x y = l at *
  generalize preB x.tr y.tr = p at *
  generalize becB x y = b at *
  generalize mayB z = m at *
  generalize fuelI n = f at *
  simp only [outV]
  go_enter Try.func8, Try.ntmps8
  go_wp2_with fail
  refine (GA.out _ BW.out).mono ?_
  rintro e w1 ⟨rfl, d1⟩
  replace XA := Lib.hid (XA.out.below d1)
  replace XB := Lib.hid (XB.out.below d1)
  replace XE := Lib.hid (rangeAt_below d1 XE.out)
  replace BW := Lib.hid (below_call BW.out d1)
  clear d1
  obtain ⟨b0, b1, b2, b3, b4⟩ := XB.out.all
  obtain ⟨e0, e1, e2⟩ := ev_cells XE.out
  cases ga
  case true =>
    go_wp2_with fail
    refine (wakes_any _).mono ?_
    rintro e w9 ⟨rfl, b9⟩
    go_wp2_with fail
    go_ret
    exact ⟨rfl, below_call BW.out b9⟩
  go_wp2_with fail
  refine (GB.out _ BW.out).mono ?_
  rintro e w2 ⟨rfl, d2⟩
  replace XA := Lib.hid (XA.out.below d2)
  replace XB := Lib.hid (XB.out.below d2)
  replace XE := Lib.hid (rangeAt_below d2 XE.out)
  replace BW := Lib.hid (below_call BW.out d2)
  clear d2 b0 b1 b2 b3 b4 e0 e1 e2
  obtain ⟨e0, e1, e2⟩ := ev_cells XE.out
  cases gb
  case true =>
    go_wp2_with fail
    refine (wakes_any _).mono ?_
    rintro e w9 ⟨rfl, b9⟩
    go_wp2_with fail
    go_ret
    exact ⟨rfl, below_call BW.out b9⟩
  by_cases hz : 20 < z.args.length
  · have ez : decide ((20 : Int) < (z.args.length : Int)) = true := decide_eq_true (by omega)
    go_wp2_with fail
    refine (wakes_any _).mono ?_
    rintro e w9 ⟨rfl, b9⟩
    go_wp2_with fail
    go_ret
    exact ⟨rfl, below_call BW.out b9⟩
  have ez : decide ((20 : Int) < (z.args.length : Int)) = false := decide_eq_false (by omega)
  go_wp2_with fail
  generalize w2 = w3 at *
  have hfew := FEW.out (by trivial)
  have hB := BW.out
  have SM := Lib.hid (fun w (h : Below w3.heap.size w3 w) => SM0.out w (below_call hB h))
  have RSM := Lib.hid (fun w (h : Below w3.heap.size w3 w) => RSM0.out w (below_call hB h))
  have LK := Lib.hid (fun w (h : Below w3.heap.size w3 w) => LK0.out w (below_call hB h))
  have RLK := Lib.hid (fun w (h : Below w3.heap.size w3 w) => RLK0.out w (below_call hB h))
  have BG := Lib.hid (fun w (h : Below w3.heap.size w3 w) => BG0.out w (below_call hB h))
  have RBG := Lib.hid (fun w (h : Below w3.heap.size w3 w) => RBG0.out w (below_call hB h))
  have BC := Lib.hid (fun w (h : Below w3.heap.size w3 w) => BC0.out w (below_call hB h))
  have RBC := Lib.hid (fun w (h : Below w3.heap.size w3 w) => RBC0.out w (below_call hB h))
  have CP := Lib.hid (fun w (h : Below w3.heap.size w3 w) => CP0.out w (below_call hB h) hfew)
  have SC := Lib.hid (fun w (h : Below w3.heap.size w3 w) => SC0.out w (below_call hB h))
  have HX := Lib.hid (fun w (h : Below w3.heap.size w3 w) => XA.out.below h)
  have HY := Lib.hid (fun w (h : Below w3.heap.size w3 w) => XB.out.below h)
  have HE := Lib.hid (fun w (h : Below w3.heap.size w3 w) => rangeAt_below h XE.out)
  clear SM0 RSM0 LK0 RLK0 BG0 RBG0 BC0 RBC0 CP0 SC0 XA XB XE hB hfew FEW GA GB e0 e1 e2
  refine wp_region_inv (fun _ => 100000) (fun w => Below w3.heap.size w3 w) (TabR [fun v _ => v = .agg #[.int .i8 x.kind, .int .u64 x.r0, .slice ca1 x.ctx.length cc1, .slice ta1 x.tr.length tc1, .int .i64 x.left], fun v _ => v = .agg #[.int .i8 y.kind, .int .u64 y.r0, .slice ca2 y.ctx.length cc2, .slice ta2 y.tr.length tc2, .int .i64 y.left], fun v _ => v = .bool s, fun v _ => v = .agg #[.int .i8 x.kind, .int .u64 x.r0, .slice ca1 x.ctx.length cc1, .slice ta1 x.tr.length tc1, .int .i64 x.left], fun v _ => v = .agg #[.int .i8 y.kind, .int .u64 y.r0, .slice ca2 y.ctx.length cc2, .slice ta2 y.tr.length tc2, .int .i64 y.left], fun v _ => v = .bool s, fun v _ => v = .bool true, fun v _ => v = .bool true, fun v _ => v = .agg #[.int .i8 x.kind, .int .u64 x.r0, .slice ca1 x.ctx.length cc1, .slice ta1 x.tr.length tc1, .int .i64 x.left], fun v _ => v = .agg #[.int .i8 y.kind, .int .u64 y.r0, .slice ca2 y.ctx.length cc2, .slice ta2 y.tr.length tc2, .int .i64 y.left], fun v _ => v = .bool l, fun v _ => v = .agg #[.int .i8 x.kind, .int .u64 x.r0, .slice ca1 x.ctx.length cc1, .slice ta1 x.tr.length tc1, .int .i64 x.left], fun v _ => v = .agg #[.int .i8 y.kind, .int .u64 y.r0, .slice ca2 y.ctx.length cc2, .slice ta2 y.tr.length tc2, .int .i64 y.left], fun v _ => v = .bool l, fun v _ => v = .bool true, fun v _ => v = .bool true, fun v _ => v = .bool true, fun v _ => v = .pointer (some ⟨W.heap.size, 3, none⟩), fun v _ => v = .slice ta1 x.tr.length tc1, fun v _ => v = .pointer (some ⟨W.heap.size + 1, 3, none⟩), fun v _ => v = .slice ta2 y.tr.length tc2, fun v _ => v = .bool p, fun v _ => v = .pointer (some ⟨W.heap.size, 3, none⟩), fun v _ => v = .slice ta1 x.tr.length tc1, fun v _ => v = .pointer (some ⟨W.heap.size + 1, 3, none⟩), fun v _ => v = .slice ta2 y.tr.length tc2, fun v _ => v = .bool p, fun v _ => v = .bool true, fun v _ => v = .bool true, fun v _ => v = .bool true, fun v _ => v = .agg #[.int .i8 x.kind, .int .u64 x.r0, .slice ca1 x.ctx.length cc1, .slice ta1 x.tr.length tc1, .int .i64 x.left], fun v _ => v = .agg #[.int .i8 y.kind, .int .u64 y.r0, .slice ca2 y.ctx.length cc2, .slice ta2 y.tr.length tc2, .int .i64 y.left], fun v _ => v = .bool b, fun v _ => v = .agg #[.int .i8 x.kind, .int .u64 x.r0, .slice ca1 x.ctx.length cc1, .slice ta1 x.tr.length tc1, .int .i64 x.left], fun v _ => v = .agg #[.int .i8 y.kind, .int .u64 y.r0, .slice ca2 y.ctx.length cc2, .slice ta2 y.tr.length tc2, .int .i64 y.left], fun v _ => v = .bool b, fun v _ => v = .bool true, fun v _ => v = .bool true, fun v _ => v = .bool true, fun v _ => v = .agg #[.int .i64 z.num, .slice na z.args.length nc, .int .u64 z.ans], fun v _ => v = .bool m, fun v _ => v = .agg #[.int .i64 z.num, .slice na z.args.length nc, .int .u64 z.ans], fun v _ => v = .bool m, fun v _ => v = .bool true, fun v _ => v = .bool true, fun v _ => v = .bool true, fun v _ => v = .int .i64 n, fun v _ => v = .int .i64 f, fun v _ => v = .int .i64 n, fun v _ => v = .int .i64 f, fun v _ => v = .bool true, fun v _ => v = .bool true, fun v _ => v = .bool true, fun v _ => v = .agg #[.int .i8 x.kind, .int .u64 x.r0, .slice ca1 x.ctx.length cc1, .slice ta1 x.tr.length tc1, .int .i64 x.left], fun v w => ∃ ca cc ta tc, v = outV x ca cc ta tc ∧ OutAt w x ca cc ta tc, fun v _ => v = .agg #[.int .i8 x.kind, .int .u64 x.r0, .slice ca1 x.ctx.length cc1, .slice ta1 x.tr.length tc1, .int .i64 x.left], fun v _ => v = .bool true, fun v _ => v = .bool true, fun v _ => v = .bool true, fun v _ => v = .bool true, fun v _ => v = .bool true, fun v _ => v = .bool true]) (by kernel_rfl) (back_of (by kernel_rfl)) (dst_of (by kernel_rfl)) (dep_of (by kernel_rfl)) (in_of (by kernel_rfl)) (Below.drew (Below.refl _ _)) ?hop ?hq
  case hop =>
    intro i o a w ho hS hdf hsz hrest hdone
    have t3 : a.tmps.getD 3 undef = .int .i64 n := hrest 3 (not_of (by kernel_rfl))
    have t4 : a.tmps.getD 4 undef = .pointer (some ⟨W.heap.size, 0, none⟩) := hrest 4 (not_of (by kernel_rfl))
    have t5 : a.tmps.getD 5 undef = .pointer (some ⟨W.heap.size + 1, 0, none⟩) := hrest 5 (not_of (by kernel_rfl))
    have t6 : a.tmps.getD 6 undef = .pointer (some ⟨W.heap.size + 1 + 1, 0, none⟩) := hrest 6 (not_of (by kernel_rfl))
    have hs : a.tmps.size = 83 := hsz.trans rfl
    have hi : i < 62 := (Array.getElem?_eq_some_iff.1 ho).1
    clear hrest hsz hdf
    obtain rfl | rfl | rfl | rfl | rfl | rfl | rfl | rfl | rfl | rfl | rfl | rfl | rfl | rfl | rfl | rfl | rfl | rfl | rfl | rfl | rfl | rfl | rfl | rfl | rfl | rfl | rfl | rfl | rfl | rfl | rfl | rfl | rfl | rfl | rfl | rfl | rfl | rfl | rfl | rfl | rfl | rfl | rfl | rfl | rfl | rfl | rfl | rfl | rfl | rfl | rfl | rfl | rfl | rfl | rfl | rfl | rfl | rfl | rfl | rfl | rfl | rfl : i = 0 ∨ i = 1 ∨ i = 2 ∨ i = 3 ∨ i = 4 ∨ i = 5 ∨ i = 6 ∨ i = 7 ∨ i = 8 ∨ i = 9 ∨ i = 10 ∨ i = 11 ∨ i = 12 ∨ i = 13 ∨ i = 14 ∨ i = 15 ∨ i = 16 ∨ i = 17 ∨ i = 18 ∨ i = 19 ∨ i = 20 ∨ i = 21 ∨ i = 22 ∨ i = 23 ∨ i = 24 ∨ i = 25 ∨ i = 26 ∨ i = 27 ∨ i = 28 ∨ i = 29 ∨ i = 30 ∨ i = 31 ∨ i = 32 ∨ i = 33 ∨ i = 34 ∨ i = 35 ∨ i = 36 ∨ i = 37 ∨ i = 38 ∨ i = 39 ∨ i = 40 ∨ i = 41 ∨ i = 42 ∨ i = 43 ∨ i = 44 ∨ i = 45 ∨ i = 46 ∨ i = 47 ∨ i = 48 ∨ i = 49 ∨ i = 50 ∨ i = 51 ∨ i = 52 ∨ i = 53 ∨ i = 54 ∨ i = 55 ∨ i = 56 ∨ i = 57 ∨ i = 58 ∨ i = 59 ∨ i = 60 ∨ i = 61 := by omega
    · obtain rfl := Option.some.inj (show some _ = some o from ho)
      refine wpOp_val (v := .agg #[.int .i8 x.kind, .int .u64 x.r0, .slice ca1 x.ctx.length cc1, .slice ta1 x.tr.length tc1, .int .i64 x.left]) (w' := w) rfl rfl ?_ ⟨_, rfl, ?_, hS, fun _ _ _ h => h⟩
      · simp [execOp, Act.eval, t4, Instr.loadAt, Instr.sureAddr, load_out (HX.out w hS), Result.andThen_ok]
      · rw [own_put rfl (by rw [hs]; omega)]; exact rfl
    · obtain rfl := Option.some.inj (show some _ = some o from ho)
      refine wpOp_val (v := .agg #[.int .i8 y.kind, .int .u64 y.r0, .slice ca2 y.ctx.length cc2, .slice ta2 y.tr.length tc2, .int .i64 y.left]) (w' := w) rfl rfl ?_ ⟨_, rfl, ?_, hS, fun _ _ _ h => h⟩
      · simp [execOp, Act.eval, t5, Instr.loadAt, Instr.sureAddr, load_out (HY.out w hS), Result.andThen_ok]
      · rw [own_put rfl (by rw [hs]; omega)]; exact rfl
    · obtain rfl := Option.some.inj (show some _ = some o from ho)
      have s22 : a.tmps.getD 22 undef = .agg #[.int .i8 x.kind, .int .u64 x.r0, .slice ca1 x.ctx.length cc1, .slice ta1 x.tr.length tc1, .int .i64 x.left] := hdone _ (Array.mem_of_getElem? (i := 0) rfl) rfl _ rfl
      have s23 : a.tmps.getD 23 undef = .agg #[.int .i8 y.kind, .int .u64 y.r0, .slice ca2 y.ctx.length cc2, .slice ta2 y.tr.length tc2, .int .i64 y.left] := hdone _ (Array.mem_of_getElem? (i := 1) rfl) rfl _ rfl
      refine wpOp_call (f := 50) (args := #[.agg #[.int .i8 x.kind, .int .u64 x.r0, .slice ca1 x.ctx.length cc1, .slice ta1 x.tr.length tc1, .int .i64 x.left], .agg #[.int .i8 y.kind, .int .u64 y.r0, .slice ca2 y.ctx.length cc2, .slice ta2 y.tr.length tc2, .int .i64 y.left]]) rfl rfl ?_ ?_
      · simp [go_sem, execOp, Act.eval, Deferred.ofValue, callFunc, Try.func50, Try.f50, s22, s23, resolve, invoke]
      · refine (SM.out w hS).mono ?_
        rintro e w' ⟨rfl, b9⟩
        refine ⟨_, rfl, _, rfl, ?_, hS.trans (b9.mono hS.size), tabR_mono ⟨fun _ h => h, fun _ h => h, fun _ h => h, fun _ h => h, fun _ h => h, fun _ h => h, fun _ h => h, fun _ h => h, fun _ h => h, fun _ h => h, fun _ h => h, fun _ h => h, fun _ h => h, fun _ h => h, fun _ h => h, fun _ h => h, fun _ h => h, fun _ h => h, fun _ h => h, fun _ h => h, fun _ h => h, fun _ h => h, fun _ h => h, fun _ h => h, fun _ h => h, fun _ h => h, fun _ h => h, fun _ h => h, fun _ h => h, fun _ h => h, fun _ h => h, fun _ h => h, fun _ h => h, fun _ h => h, fun _ h => h, fun _ h => h, fun _ h => h, fun _ h => h, fun _ h => h, fun _ h => h, fun _ h => h, fun _ h => h, fun _ h => h, fun _ h => h, fun _ h => h, fun _ h => h, fun _ h => h, fun _ h => h, fun _ h => h, fun _ h => h, fun _ h => h, fun _ h => h, fun _ h => h, fun _ h => h, fun _ ⟨ca, cc, ta, tc, h1, h2⟩ => ⟨ca, cc, ta, tc, h1, h2.below b9⟩, fun _ h => h, fun _ h => h, fun _ h => h, fun _ h => h, fun _ h => h, fun _ h => h, fun _ h => h, trivial⟩⟩
        rw [own_put rfl (by rw [hs]; omega)]; exact rfl
    · obtain rfl := Option.some.inj (show some _ = some o from ho)
      refine wpOp_val (v := .agg #[.int .i8 x.kind, .int .u64 x.r0, .slice ca1 x.ctx.length cc1, .slice ta1 x.tr.length tc1, .int .i64 x.left]) (w' := w) rfl rfl ?_ ⟨_, rfl, ?_, hS, fun _ _ _ h => h⟩
      · simp [execOp, Act.eval, t4, Instr.loadAt, Instr.sureAddr, load_out (HX.out w hS), Result.andThen_ok]
      · rw [own_put rfl (by rw [hs]; omega)]; exact rfl
    · obtain rfl := Option.some.inj (show some _ = some o from ho)
      refine wpOp_val (v := .agg #[.int .i8 y.kind, .int .u64 y.r0, .slice ca2 y.ctx.length cc2, .slice ta2 y.tr.length tc2, .int .i64 y.left]) (w' := w) rfl rfl ?_ ⟨_, rfl, ?_, hS, fun _ _ _ h => h⟩
      · simp [execOp, Act.eval, t5, Instr.loadAt, Instr.sureAddr, load_out (HY.out w hS), Result.andThen_ok]
      · rw [own_put rfl (by rw [hs]; omega)]; exact rfl
    · obtain rfl := Option.some.inj (show some _ = some o from ho)
      have s25 : a.tmps.getD 25 undef = .agg #[.int .i8 x.kind, .int .u64 x.r0, .slice ca1 x.ctx.length cc1, .slice ta1 x.tr.length tc1, .int .i64 x.left] := hdone _ (Array.mem_of_getElem? (i := 0) rfl) rfl _ rfl
      have s26 : a.tmps.getD 26 undef = .agg #[.int .i8 y.kind, .int .u64 y.r0, .slice ca2 y.ctx.length cc2, .slice ta2 y.tr.length tc2, .int .i64 y.left] := hdone _ (Array.mem_of_getElem? (i := 1) rfl) rfl _ rfl
      refine wpOp_call (f := 51) (args := #[.agg #[.int .i8 x.kind, .int .u64 x.r0, .slice ca1 x.ctx.length cc1, .slice ta1 x.tr.length tc1, .int .i64 x.left], .agg #[.int .i8 y.kind, .int .u64 y.r0, .slice ca2 y.ctx.length cc2, .slice ta2 y.tr.length tc2, .int .i64 y.left]]) rfl rfl ?_ ?_
      · simp [go_sem, execOp, Act.eval, Deferred.ofValue, callFunc, Try.func51, Try.f51, s25, s26, resolve, invoke]
      · refine (RSM.out w hS).mono ?_
        rintro e w' ⟨rfl, b9⟩
        refine ⟨_, rfl, _, rfl, ?_, hS.trans (b9.mono hS.size), tabR_mono ⟨fun _ h => h, fun _ h => h, fun _ h => h, fun _ h => h, fun _ h => h, fun _ h => h, fun _ h => h, fun _ h => h, fun _ h => h, fun _ h => h, fun _ h => h, fun _ h => h, fun _ h => h, fun _ h => h, fun _ h => h, fun _ h => h, fun _ h => h, fun _ h => h, fun _ h => h, fun _ h => h, fun _ h => h, fun _ h => h, fun _ h => h, fun _ h => h, fun _ h => h, fun _ h => h, fun _ h => h, fun _ h => h, fun _ h => h, fun _ h => h, fun _ h => h, fun _ h => h, fun _ h => h, fun _ h => h, fun _ h => h, fun _ h => h, fun _ h => h, fun _ h => h, fun _ h => h, fun _ h => h, fun _ h => h, fun _ h => h, fun _ h => h, fun _ h => h, fun _ h => h, fun _ h => h, fun _ h => h, fun _ h => h, fun _ h => h, fun _ h => h, fun _ h => h, fun _ h => h, fun _ h => h, fun _ h => h, fun _ ⟨ca, cc, ta, tc, h1, h2⟩ => ⟨ca, cc, ta, tc, h1, h2.below b9⟩, fun _ h => h, fun _ h => h, fun _ h => h, fun _ h => h, fun _ h => h, fun _ h => h, fun _ h => h, trivial⟩⟩
        rw [own_put rfl (by rw [hs]; omega)]; exact rfl
    · obtain rfl := Option.some.inj (show some _ = some o from ho)
      have s24 : a.tmps.getD 24 undef = .bool s := hdone _ (Array.mem_of_getElem? (i := 0) rfl) rfl _ rfl
      have s27 : a.tmps.getD 27 undef = .bool s := hdone _ (Array.mem_of_getElem? (i := 1) rfl) rfl _ rfl
      refine wpOp_val (v := .bool true) (w' := w) rfl rfl ?_ ⟨_, rfl, ?_, hS, fun _ _ _ h => h⟩
      · simp [execOp, Act.eval, s24, s27, go_sem]
      · rw [own_put rfl (by rw [hs]; omega)]; exact rfl
    · obtain rfl := Option.some.inj (show some _ = some o from ho)
      have s28 : a.tmps.getD 28 undef = .bool true := hdone _ (Array.mem_of_getElem? (i := 0) rfl) rfl _ rfl
      refine wpOp_val (v := .bool true) (w' := w) rfl rfl ?_ ⟨_, rfl, ?_, hS, fun _ _ _ h => h⟩
      · simp [execOp, Act.eval, s28]
      · rw [own_put rfl (by rw [hs]; omega)]; exact rfl
    · obtain rfl := Option.some.inj (show some _ = some o from ho)
      have hg : a.tmps.getD 29 undef = .bool true := hdone _ (Array.mem_of_getElem? (i := 0) rfl) rfl _ rfl
      refine wpOp_valw (v := .agg #[.int .i8 x.kind, .int .u64 x.r0, .slice ca1 x.ctx.length cc1, .slice ta1 x.tr.length tc1, .int .i64 x.left]) (w' := w) rfl (wanted_yes 7 29 true hg (by rw [hs]; omega) rfl rfl rfl rfl) ?_ ⟨_, rfl, ?_, hS, fun _ _ _ h => h⟩
      · simp [execOp, Act.eval, t4, Instr.loadAt, Instr.sureAddr, load_out (HX.out w hS), Result.andThen_ok]
      · rw [own_put rfl (by rw [hs]; omega)]; exact rfl
    · obtain rfl := Option.some.inj (show some _ = some o from ho)
      have hg : a.tmps.getD 29 undef = .bool true := hdone _ (Array.mem_of_getElem? (i := 0) rfl) rfl _ rfl
      refine wpOp_valw (v := .agg #[.int .i8 y.kind, .int .u64 y.r0, .slice ca2 y.ctx.length cc2, .slice ta2 y.tr.length tc2, .int .i64 y.left]) (w' := w) rfl (wanted_yes 7 29 true hg (by rw [hs]; omega) rfl rfl rfl rfl) ?_ ⟨_, rfl, ?_, hS, fun _ _ _ h => h⟩
      · simp [execOp, Act.eval, t5, Instr.loadAt, Instr.sureAddr, load_out (HY.out w hS), Result.andThen_ok]
      · rw [own_put rfl (by rw [hs]; omega)]; exact rfl
    · obtain rfl := Option.some.inj (show some _ = some o from ho)
      have hg : a.tmps.getD 29 undef = .bool true := hdone _ (Array.mem_of_getElem? (i := 2) rfl) rfl _ rfl
      have s30 : a.tmps.getD 30 undef = .agg #[.int .i8 x.kind, .int .u64 x.r0, .slice ca1 x.ctx.length cc1, .slice ta1 x.tr.length tc1, .int .i64 x.left] := hdone _ (Array.mem_of_getElem? (i := 0) rfl) rfl _ rfl
      have s31 : a.tmps.getD 31 undef = .agg #[.int .i8 y.kind, .int .u64 y.r0, .slice ca2 y.ctx.length cc2, .slice ta2 y.tr.length tc2, .int .i64 y.left] := hdone _ (Array.mem_of_getElem? (i := 1) rfl) rfl _ rfl
      refine wpOp_callw (f := 52) (args := #[.agg #[.int .i8 x.kind, .int .u64 x.r0, .slice ca1 x.ctx.length cc1, .slice ta1 x.tr.length tc1, .int .i64 x.left], .agg #[.int .i8 y.kind, .int .u64 y.r0, .slice ca2 y.ctx.length cc2, .slice ta2 y.tr.length tc2, .int .i64 y.left]]) rfl (wanted_yes 7 29 true hg (by rw [hs]; omega) rfl rfl rfl rfl) ?_ ?_
      · simp [go_sem, execOp, Act.eval, Deferred.ofValue, callFunc, Try.func52, Try.f52, s30, s31, resolve, invoke]
      · refine (LK.out w hS).mono ?_
        rintro e w' ⟨rfl, b9⟩
        refine ⟨_, rfl, _, rfl, ?_, hS.trans (b9.mono hS.size), tabR_mono ⟨fun _ h => h, fun _ h => h, fun _ h => h, fun _ h => h, fun _ h => h, fun _ h => h, fun _ h => h, fun _ h => h, fun _ h => h, fun _ h => h, fun _ h => h, fun _ h => h, fun _ h => h, fun _ h => h, fun _ h => h, fun _ h => h, fun _ h => h, fun _ h => h, fun _ h => h, fun _ h => h, fun _ h => h, fun _ h => h, fun _ h => h, fun _ h => h, fun _ h => h, fun _ h => h, fun _ h => h, fun _ h => h, fun _ h => h, fun _ h => h, fun _ h => h, fun _ h => h, fun _ h => h, fun _ h => h, fun _ h => h, fun _ h => h, fun _ h => h, fun _ h => h, fun _ h => h, fun _ h => h, fun _ h => h, fun _ h => h, fun _ h => h, fun _ h => h, fun _ h => h, fun _ h => h, fun _ h => h, fun _ h => h, fun _ h => h, fun _ h => h, fun _ h => h, fun _ h => h, fun _ h => h, fun _ h => h, fun _ ⟨ca, cc, ta, tc, h1, h2⟩ => ⟨ca, cc, ta, tc, h1, h2.below b9⟩, fun _ h => h, fun _ h => h, fun _ h => h, fun _ h => h, fun _ h => h, fun _ h => h, fun _ h => h, trivial⟩⟩
        rw [own_put rfl (by rw [hs]; omega)]; exact rfl
    · obtain rfl := Option.some.inj (show some _ = some o from ho)
      have hg : a.tmps.getD 29 undef = .bool true := hdone _ (Array.mem_of_getElem? (i := 0) rfl) rfl _ rfl
      refine wpOp_valw (v := .agg #[.int .i8 x.kind, .int .u64 x.r0, .slice ca1 x.ctx.length cc1, .slice ta1 x.tr.length tc1, .int .i64 x.left]) (w' := w) rfl (wanted_yes 7 29 true hg (by rw [hs]; omega) rfl rfl rfl rfl) ?_ ⟨_, rfl, ?_, hS, fun _ _ _ h => h⟩
      · simp [execOp, Act.eval, t4, Instr.loadAt, Instr.sureAddr, load_out (HX.out w hS), Result.andThen_ok]
      · rw [own_put rfl (by rw [hs]; omega)]; exact rfl
    · obtain rfl := Option.some.inj (show some _ = some o from ho)
      have hg : a.tmps.getD 29 undef = .bool true := hdone _ (Array.mem_of_getElem? (i := 0) rfl) rfl _ rfl
      refine wpOp_valw (v := .agg #[.int .i8 y.kind, .int .u64 y.r0, .slice ca2 y.ctx.length cc2, .slice ta2 y.tr.length tc2, .int .i64 y.left]) (w' := w) rfl (wanted_yes 7 29 true hg (by rw [hs]; omega) rfl rfl rfl rfl) ?_ ⟨_, rfl, ?_, hS, fun _ _ _ h => h⟩
      · simp [execOp, Act.eval, t5, Instr.loadAt, Instr.sureAddr, load_out (HY.out w hS), Result.andThen_ok]
      · rw [own_put rfl (by rw [hs]; omega)]; exact rfl
    · obtain rfl := Option.some.inj (show some _ = some o from ho)
      have hg : a.tmps.getD 29 undef = .bool true := hdone _ (Array.mem_of_getElem? (i := 3) rfl) rfl _ rfl
      have s33 : a.tmps.getD 33 undef = .agg #[.int .i8 x.kind, .int .u64 x.r0, .slice ca1 x.ctx.length cc1, .slice ta1 x.tr.length tc1, .int .i64 x.left] := hdone _ (Array.mem_of_getElem? (i := 0) rfl) rfl _ rfl
      have s34 : a.tmps.getD 34 undef = .agg #[.int .i8 y.kind, .int .u64 y.r0, .slice ca2 y.ctx.length cc2, .slice ta2 y.tr.length tc2, .int .i64 y.left] := hdone _ (Array.mem_of_getElem? (i := 1) rfl) rfl _ rfl
      refine wpOp_callw (f := 53) (args := #[.agg #[.int .i8 x.kind, .int .u64 x.r0, .slice ca1 x.ctx.length cc1, .slice ta1 x.tr.length tc1, .int .i64 x.left], .agg #[.int .i8 y.kind, .int .u64 y.r0, .slice ca2 y.ctx.length cc2, .slice ta2 y.tr.length tc2, .int .i64 y.left]]) rfl (wanted_yes 7 29 true hg (by rw [hs]; omega) rfl rfl rfl rfl) ?_ ?_
      · simp [go_sem, execOp, Act.eval, Deferred.ofValue, callFunc, Try.func53, Try.f53, s33, s34, resolve, invoke]
      · refine (RLK.out w hS).mono ?_
        rintro e w' ⟨rfl, b9⟩
        refine ⟨_, rfl, _, rfl, ?_, hS.trans (b9.mono hS.size), tabR_mono ⟨fun _ h => h, fun _ h => h, fun _ h => h, fun _ h => h, fun _ h => h, fun _ h => h, fun _ h => h, fun _ h => h, fun _ h => h, fun _ h => h, fun _ h => h, fun _ h => h, fun _ h => h, fun _ h => h, fun _ h => h, fun _ h => h, fun _ h => h, fun _ h => h, fun _ h => h, fun _ h => h, fun _ h => h, fun _ h => h, fun _ h => h, fun _ h => h, fun _ h => h, fun _ h => h, fun _ h => h, fun _ h => h, fun _ h => h, fun _ h => h, fun _ h => h, fun _ h => h, fun _ h => h, fun _ h => h, fun _ h => h, fun _ h => h, fun _ h => h, fun _ h => h, fun _ h => h, fun _ h => h, fun _ h => h, fun _ h => h, fun _ h => h, fun _ h => h, fun _ h => h, fun _ h => h, fun _ h => h, fun _ h => h, fun _ h => h, fun _ h => h, fun _ h => h, fun _ h => h, fun _ h => h, fun _ h => h, fun _ ⟨ca, cc, ta, tc, h1, h2⟩ => ⟨ca, cc, ta, tc, h1, h2.below b9⟩, fun _ h => h, fun _ h => h, fun _ h => h, fun _ h => h, fun _ h => h, fun _ h => h, fun _ h => h, trivial⟩⟩
        rw [own_put rfl (by rw [hs]; omega)]; exact rfl
    · obtain rfl := Option.some.inj (show some _ = some o from ho)
      have hg : a.tmps.getD 29 undef = .bool true := hdone _ (Array.mem_of_getElem? (i := 2) rfl) rfl _ rfl
      have s32 : a.tmps.getD 32 undef = .bool l := hdone _ (Array.mem_of_getElem? (i := 0) rfl) rfl _ rfl
      have s35 : a.tmps.getD 35 undef = .bool l := hdone _ (Array.mem_of_getElem? (i := 1) rfl) rfl _ rfl
      refine wpOp_valw (v := .bool true) (w' := w) rfl (wanted_yes 7 29 true hg (by rw [hs]; omega) rfl rfl rfl rfl) ?_ ⟨_, rfl, ?_, hS, fun _ _ _ h => h⟩
      · simp [execOp, Act.eval, s32, s35, go_sem]
      · rw [own_put rfl (by rw [hs]; omega)]; exact rfl
    · obtain rfl := Option.some.inj (show some _ = some o from ho)
      have s29 : a.tmps.getD 29 undef = .bool true := hdone _ (Array.mem_of_getElem? (i := 0) rfl) rfl _ rfl
      have s36 : a.tmps.getD 36 undef = .bool true := hdone _ (Array.mem_of_getElem? (i := 1) rfl) rfl _ rfl
      refine wpOp_val (v := .bool true) (w' := w) rfl rfl ?_ ⟨_, rfl, ?_, hS, fun _ _ _ h => h⟩
      · simp [execOp, Act.eval, s29, s36, go_sem]
      · rw [own_put rfl (by rw [hs]; omega)]; exact rfl
    · obtain rfl := Option.some.inj (show some _ = some o from ho)
      have s37 : a.tmps.getD 37 undef = .bool true := hdone _ (Array.mem_of_getElem? (i := 0) rfl) rfl _ rfl
      refine wpOp_val (v := .bool true) (w' := w) rfl rfl ?_ ⟨_, rfl, ?_, hS, fun _ _ _ h => h⟩
      · simp [execOp, Act.eval, s37]
      · rw [own_put rfl (by rw [hs]; omega)]; exact rfl
    · obtain rfl := Option.some.inj (show some _ = some o from ho)
      have hg : a.tmps.getD 38 undef = .bool true := hdone _ (Array.mem_of_getElem? (i := 0) rfl) rfl _ rfl
      refine wpOp_valw (v := .pointer (some ⟨W.heap.size, 3, none⟩)) (w' := w) rfl (wanted_yes 16 38 true hg (by rw [hs]; omega) rfl rfl rfl rfl) ?_ ⟨_, rfl, ?_, hS, fun _ _ _ h => h⟩
      · simp [execOp, Act.eval, t4, go_sem]
      · rw [own_put rfl (by rw [hs]; omega)]; exact rfl
    · obtain rfl := Option.some.inj (show some _ = some o from ho)
      have hg : a.tmps.getD 38 undef = .bool true := hdone _ (Array.mem_of_getElem? (i := 1) rfl) rfl _ rfl
      have s39 : a.tmps.getD 39 undef = .pointer (some ⟨W.heap.size, 3, none⟩) := hdone _ (Array.mem_of_getElem? (i := 0) rfl) rfl _ rfl
      refine wpOp_valw (v := .slice ta1 x.tr.length tc1) (w' := w) rfl (wanted_yes 16 38 true hg (by rw [hs]; omega) rfl rfl rfl rfl) ?_ ⟨_, rfl, ?_, hS, fun _ _ _ h => h⟩
      · (have hc := (HX.out w hS).c3; simp [execOp, Act.eval, s39, hc, go_sem])
      · rw [own_put rfl (by rw [hs]; omega)]; exact rfl
    · obtain rfl := Option.some.inj (show some _ = some o from ho)
      have hg : a.tmps.getD 38 undef = .bool true := hdone _ (Array.mem_of_getElem? (i := 0) rfl) rfl _ rfl
      refine wpOp_valw (v := .pointer (some ⟨W.heap.size + 1, 3, none⟩)) (w' := w) rfl (wanted_yes 16 38 true hg (by rw [hs]; omega) rfl rfl rfl rfl) ?_ ⟨_, rfl, ?_, hS, fun _ _ _ h => h⟩
      · simp [execOp, Act.eval, t5, go_sem]
      · rw [own_put rfl (by rw [hs]; omega)]; exact rfl
    · obtain rfl := Option.some.inj (show some _ = some o from ho)
      have hg : a.tmps.getD 38 undef = .bool true := hdone _ (Array.mem_of_getElem? (i := 1) rfl) rfl _ rfl
      have s41 : a.tmps.getD 41 undef = .pointer (some ⟨W.heap.size + 1, 3, none⟩) := hdone _ (Array.mem_of_getElem? (i := 0) rfl) rfl _ rfl
      refine wpOp_valw (v := .slice ta2 y.tr.length tc2) (w' := w) rfl (wanted_yes 16 38 true hg (by rw [hs]; omega) rfl rfl rfl rfl) ?_ ⟨_, rfl, ?_, hS, fun _ _ _ h => h⟩
      · (have hc := (HY.out w hS).c3; simp [execOp, Act.eval, s41, hc, go_sem])
      · rw [own_put rfl (by rw [hs]; omega)]; exact rfl
    · obtain rfl := Option.some.inj (show some _ = some o from ho)
      have hg : a.tmps.getD 38 undef = .bool true := hdone _ (Array.mem_of_getElem? (i := 2) rfl) rfl _ rfl
      have s40 : a.tmps.getD 40 undef = .slice ta1 x.tr.length tc1 := hdone _ (Array.mem_of_getElem? (i := 0) rfl) rfl _ rfl
      have s42 : a.tmps.getD 42 undef = .slice ta2 y.tr.length tc2 := hdone _ (Array.mem_of_getElem? (i := 1) rfl) rfl _ rfl
      refine wpOp_callw (f := 54) (args := #[.slice ta1 x.tr.length tc1, .slice ta2 y.tr.length tc2]) rfl (wanted_yes 16 38 true hg (by rw [hs]; omega) rfl rfl rfl rfl) ?_ ?_
      · simp [go_sem, execOp, Act.eval, Deferred.ofValue, callFunc, Try.func54, Try.f54, s40, s42, resolve, invoke]
      · refine (BG.out w hS).mono ?_
        rintro e w' ⟨rfl, b9⟩
        refine ⟨_, rfl, _, rfl, ?_, hS.trans (b9.mono hS.size), tabR_mono ⟨fun _ h => h, fun _ h => h, fun _ h => h, fun _ h => h, fun _ h => h, fun _ h => h, fun _ h => h, fun _ h => h, fun _ h => h, fun _ h => h, fun _ h => h, fun _ h => h, fun _ h => h, fun _ h => h, fun _ h => h, fun _ h => h, fun _ h => h, fun _ h => h, fun _ h => h, fun _ h => h, fun _ h => h, fun _ h => h, fun _ h => h, fun _ h => h, fun _ h => h, fun _ h => h, fun _ h => h, fun _ h => h, fun _ h => h, fun _ h => h, fun _ h => h, fun _ h => h, fun _ h => h, fun _ h => h, fun _ h => h, fun _ h => h, fun _ h => h, fun _ h => h, fun _ h => h, fun _ h => h, fun _ h => h, fun _ h => h, fun _ h => h, fun _ h => h, fun _ h => h, fun _ h => h, fun _ h => h, fun _ h => h, fun _ h => h, fun _ h => h, fun _ h => h, fun _ h => h, fun _ h => h, fun _ h => h, fun _ ⟨ca, cc, ta, tc, h1, h2⟩ => ⟨ca, cc, ta, tc, h1, h2.below b9⟩, fun _ h => h, fun _ h => h, fun _ h => h, fun _ h => h, fun _ h => h, fun _ h => h, fun _ h => h, trivial⟩⟩
        rw [own_put rfl (by rw [hs]; omega)]; exact rfl
    · obtain rfl := Option.some.inj (show some _ = some o from ho)
      have hg : a.tmps.getD 38 undef = .bool true := hdone _ (Array.mem_of_getElem? (i := 0) rfl) rfl _ rfl
      refine wpOp_valw (v := .pointer (some ⟨W.heap.size, 3, none⟩)) (w' := w) rfl (wanted_yes 16 38 true hg (by rw [hs]; omega) rfl rfl rfl rfl) ?_ ⟨_, rfl, ?_, hS, fun _ _ _ h => h⟩
      · simp [execOp, Act.eval, t4, go_sem]
      · rw [own_put rfl (by rw [hs]; omega)]; exact rfl
    · obtain rfl := Option.some.inj (show some _ = some o from ho)
      have hg : a.tmps.getD 38 undef = .bool true := hdone _ (Array.mem_of_getElem? (i := 1) rfl) rfl _ rfl
      have s44 : a.tmps.getD 44 undef = .pointer (some ⟨W.heap.size, 3, none⟩) := hdone _ (Array.mem_of_getElem? (i := 0) rfl) rfl _ rfl
      refine wpOp_valw (v := .slice ta1 x.tr.length tc1) (w' := w) rfl (wanted_yes 16 38 true hg (by rw [hs]; omega) rfl rfl rfl rfl) ?_ ⟨_, rfl, ?_, hS, fun _ _ _ h => h⟩
      · (have hc := (HX.out w hS).c3; simp [execOp, Act.eval, s44, hc, go_sem])
      · rw [own_put rfl (by rw [hs]; omega)]; exact rfl
    · obtain rfl := Option.some.inj (show some _ = some o from ho)
      have hg : a.tmps.getD 38 undef = .bool true := hdone _ (Array.mem_of_getElem? (i := 0) rfl) rfl _ rfl
      refine wpOp_valw (v := .pointer (some ⟨W.heap.size + 1, 3, none⟩)) (w' := w) rfl (wanted_yes 16 38 true hg (by rw [hs]; omega) rfl rfl rfl rfl) ?_ ⟨_, rfl, ?_, hS, fun _ _ _ h => h⟩
      · simp [execOp, Act.eval, t5, go_sem]
      · rw [own_put rfl (by rw [hs]; omega)]; exact rfl
    · obtain rfl := Option.some.inj (show some _ = some o from ho)
      have hg : a.tmps.getD 38 undef = .bool true := hdone _ (Array.mem_of_getElem? (i := 1) rfl) rfl _ rfl
      have s46 : a.tmps.getD 46 undef = .pointer (some ⟨W.heap.size + 1, 3, none⟩) := hdone _ (Array.mem_of_getElem? (i := 0) rfl) rfl _ rfl
      refine wpOp_valw (v := .slice ta2 y.tr.length tc2) (w' := w) rfl (wanted_yes 16 38 true hg (by rw [hs]; omega) rfl rfl rfl rfl) ?_ ⟨_, rfl, ?_, hS, fun _ _ _ h => h⟩
      · (have hc := (HY.out w hS).c3; simp [execOp, Act.eval, s46, hc, go_sem])
      · rw [own_put rfl (by rw [hs]; omega)]; exact rfl
    · obtain rfl := Option.some.inj (show some _ = some o from ho)
      have hg : a.tmps.getD 38 undef = .bool true := hdone _ (Array.mem_of_getElem? (i := 3) rfl) rfl _ rfl
      have s45 : a.tmps.getD 45 undef = .slice ta1 x.tr.length tc1 := hdone _ (Array.mem_of_getElem? (i := 0) rfl) rfl _ rfl
      have s47 : a.tmps.getD 47 undef = .slice ta2 y.tr.length tc2 := hdone _ (Array.mem_of_getElem? (i := 1) rfl) rfl _ rfl
      refine wpOp_callw (f := 55) (args := #[.slice ta1 x.tr.length tc1, .slice ta2 y.tr.length tc2]) rfl (wanted_yes 16 38 true hg (by rw [hs]; omega) rfl rfl rfl rfl) ?_ ?_
      · simp [go_sem, execOp, Act.eval, Deferred.ofValue, callFunc, Try.func55, Try.f55, s45, s47, resolve, invoke]
      · refine (RBG.out w hS).mono ?_
        rintro e w' ⟨rfl, b9⟩
        refine ⟨_, rfl, _, rfl, ?_, hS.trans (b9.mono hS.size), tabR_mono ⟨fun _ h => h, fun _ h => h, fun _ h => h, fun _ h => h, fun _ h => h, fun _ h => h, fun _ h => h, fun _ h => h, fun _ h => h, fun _ h => h, fun _ h => h, fun _ h => h, fun _ h => h, fun _ h => h, fun _ h => h, fun _ h => h, fun _ h => h, fun _ h => h, fun _ h => h, fun _ h => h, fun _ h => h, fun _ h => h, fun _ h => h, fun _ h => h, fun _ h => h, fun _ h => h, fun _ h => h, fun _ h => h, fun _ h => h, fun _ h => h, fun _ h => h, fun _ h => h, fun _ h => h, fun _ h => h, fun _ h => h, fun _ h => h, fun _ h => h, fun _ h => h, fun _ h => h, fun _ h => h, fun _ h => h, fun _ h => h, fun _ h => h, fun _ h => h, fun _ h => h, fun _ h => h, fun _ h => h, fun _ h => h, fun _ h => h, fun _ h => h, fun _ h => h, fun _ h => h, fun _ h => h, fun _ h => h, fun _ ⟨ca, cc, ta, tc, h1, h2⟩ => ⟨ca, cc, ta, tc, h1, h2.below b9⟩, fun _ h => h, fun _ h => h, fun _ h => h, fun _ h => h, fun _ h => h, fun _ h => h, fun _ h => h, trivial⟩⟩
        rw [own_put rfl (by rw [hs]; omega)]; exact rfl
    · obtain rfl := Option.some.inj (show some _ = some o from ho)
      have hg : a.tmps.getD 38 undef = .bool true := hdone _ (Array.mem_of_getElem? (i := 2) rfl) rfl _ rfl
      have s43 : a.tmps.getD 43 undef = .bool p := hdone _ (Array.mem_of_getElem? (i := 0) rfl) rfl _ rfl
      have s48 : a.tmps.getD 48 undef = .bool p := hdone _ (Array.mem_of_getElem? (i := 1) rfl) rfl _ rfl
      refine wpOp_valw (v := .bool true) (w' := w) rfl (wanted_yes 16 38 true hg (by rw [hs]; omega) rfl rfl rfl rfl) ?_ ⟨_, rfl, ?_, hS, fun _ _ _ h => h⟩
      · simp [execOp, Act.eval, s43, s48, go_sem]
      · rw [own_put rfl (by rw [hs]; omega)]; exact rfl
    · obtain rfl := Option.some.inj (show some _ = some o from ho)
      have s38 : a.tmps.getD 38 undef = .bool true := hdone _ (Array.mem_of_getElem? (i := 0) rfl) rfl _ rfl
      have s49 : a.tmps.getD 49 undef = .bool true := hdone _ (Array.mem_of_getElem? (i := 1) rfl) rfl _ rfl
      refine wpOp_val (v := .bool true) (w' := w) rfl rfl ?_ ⟨_, rfl, ?_, hS, fun _ _ _ h => h⟩
      · simp [execOp, Act.eval, s38, s49, go_sem]
      · rw [own_put rfl (by rw [hs]; omega)]; exact rfl
    · obtain rfl := Option.some.inj (show some _ = some o from ho)
      have s50 : a.tmps.getD 50 undef = .bool true := hdone _ (Array.mem_of_getElem? (i := 0) rfl) rfl _ rfl
      refine wpOp_val (v := .bool true) (w' := w) rfl rfl ?_ ⟨_, rfl, ?_, hS, fun _ _ _ h => h⟩
      · simp [execOp, Act.eval, s50]
      · rw [own_put rfl (by rw [hs]; omega)]; exact rfl
    · obtain rfl := Option.some.inj (show some _ = some o from ho)
      have hg : a.tmps.getD 51 undef = .bool true := hdone _ (Array.mem_of_getElem? (i := 0) rfl) rfl _ rfl
      refine wpOp_valw (v := .agg #[.int .i8 x.kind, .int .u64 x.r0, .slice ca1 x.ctx.length cc1, .slice ta1 x.tr.length tc1, .int .i64 x.left]) (w' := w) rfl (wanted_yes 29 51 true hg (by rw [hs]; omega) rfl rfl rfl rfl) ?_ ⟨_, rfl, ?_, hS, fun _ _ _ h => h⟩
      · simp [execOp, Act.eval, t4, Instr.loadAt, Instr.sureAddr, load_out (HX.out w hS), Result.andThen_ok]
      · rw [own_put rfl (by rw [hs]; omega)]; exact rfl
    · obtain rfl := Option.some.inj (show some _ = some o from ho)
      have hg : a.tmps.getD 51 undef = .bool true := hdone _ (Array.mem_of_getElem? (i := 0) rfl) rfl _ rfl
      refine wpOp_valw (v := .agg #[.int .i8 y.kind, .int .u64 y.r0, .slice ca2 y.ctx.length cc2, .slice ta2 y.tr.length tc2, .int .i64 y.left]) (w' := w) rfl (wanted_yes 29 51 true hg (by rw [hs]; omega) rfl rfl rfl rfl) ?_ ⟨_, rfl, ?_, hS, fun _ _ _ h => h⟩
      · simp [execOp, Act.eval, t5, Instr.loadAt, Instr.sureAddr, load_out (HY.out w hS), Result.andThen_ok]
      · rw [own_put rfl (by rw [hs]; omega)]; exact rfl
    · obtain rfl := Option.some.inj (show some _ = some o from ho)
      have hg : a.tmps.getD 51 undef = .bool true := hdone _ (Array.mem_of_getElem? (i := 2) rfl) rfl _ rfl
      have s52 : a.tmps.getD 52 undef = .agg #[.int .i8 x.kind, .int .u64 x.r0, .slice ca1 x.ctx.length cc1, .slice ta1 x.tr.length tc1, .int .i64 x.left] := hdone _ (Array.mem_of_getElem? (i := 0) rfl) rfl _ rfl
      have s53 : a.tmps.getD 53 undef = .agg #[.int .i8 y.kind, .int .u64 y.r0, .slice ca2 y.ctx.length cc2, .slice ta2 y.tr.length tc2, .int .i64 y.left] := hdone _ (Array.mem_of_getElem? (i := 1) rfl) rfl _ rfl
      refine wpOp_callw (f := 56) (args := #[.agg #[.int .i8 x.kind, .int .u64 x.r0, .slice ca1 x.ctx.length cc1, .slice ta1 x.tr.length tc1, .int .i64 x.left], .agg #[.int .i8 y.kind, .int .u64 y.r0, .slice ca2 y.ctx.length cc2, .slice ta2 y.tr.length tc2, .int .i64 y.left]]) rfl (wanted_yes 29 51 true hg (by rw [hs]; omega) rfl rfl rfl rfl) ?_ ?_
      · simp [go_sem, execOp, Act.eval, Deferred.ofValue, callFunc, Try.func56, Try.f56, s52, s53, resolve, invoke]
      · refine (BC.out w hS).mono ?_
        rintro e w' ⟨rfl, b9⟩
        refine ⟨_, rfl, _, rfl, ?_, hS.trans (b9.mono hS.size), tabR_mono ⟨fun _ h => h, fun _ h => h, fun _ h => h, fun _ h => h, fun _ h => h, fun _ h => h, fun _ h => h, fun _ h => h, fun _ h => h, fun _ h => h, fun _ h => h, fun _ h => h, fun _ h => h, fun _ h => h, fun _ h => h, fun _ h => h, fun _ h => h, fun _ h => h, fun _ h => h, fun _ h => h, fun _ h => h, fun _ h => h, fun _ h => h, fun _ h => h, fun _ h => h, fun _ h => h, fun _ h => h, fun _ h => h, fun _ h => h, fun _ h => h, fun _ h => h, fun _ h => h, fun _ h => h, fun _ h => h, fun _ h => h, fun _ h => h, fun _ h => h, fun _ h => h, fun _ h => h, fun _ h => h, fun _ h => h, fun _ h => h, fun _ h => h, fun _ h => h, fun _ h => h, fun _ h => h, fun _ h => h, fun _ h => h, fun _ h => h, fun _ h => h, fun _ h => h, fun _ h => h, fun _ h => h, fun _ h => h, fun _ ⟨ca, cc, ta, tc, h1, h2⟩ => ⟨ca, cc, ta, tc, h1, h2.below b9⟩, fun _ h => h, fun _ h => h, fun _ h => h, fun _ h => h, fun _ h => h, fun _ h => h, fun _ h => h, trivial⟩⟩
        rw [own_put rfl (by rw [hs]; omega)]; exact rfl
    · obtain rfl := Option.some.inj (show some _ = some o from ho)
      have hg : a.tmps.getD 51 undef = .bool true := hdone _ (Array.mem_of_getElem? (i := 0) rfl) rfl _ rfl
      refine wpOp_valw (v := .agg #[.int .i8 x.kind, .int .u64 x.r0, .slice ca1 x.ctx.length cc1, .slice ta1 x.tr.length tc1, .int .i64 x.left]) (w' := w) rfl (wanted_yes 29 51 true hg (by rw [hs]; omega) rfl rfl rfl rfl) ?_ ⟨_, rfl, ?_, hS, fun _ _ _ h => h⟩
      · simp [execOp, Act.eval, t4, Instr.loadAt, Instr.sureAddr, load_out (HX.out w hS), Result.andThen_ok]
      · rw [own_put rfl (by rw [hs]; omega)]; exact rfl
    · obtain rfl := Option.some.inj (show some _ = some o from ho)
      have hg : a.tmps.getD 51 undef = .bool true := hdone _ (Array.mem_of_getElem? (i := 0) rfl) rfl _ rfl
      refine wpOp_valw (v := .agg #[.int .i8 y.kind, .int .u64 y.r0, .slice ca2 y.ctx.length cc2, .slice ta2 y.tr.length tc2, .int .i64 y.left]) (w' := w) rfl (wanted_yes 29 51 true hg (by rw [hs]; omega) rfl rfl rfl rfl) ?_ ⟨_, rfl, ?_, hS, fun _ _ _ h => h⟩
      · simp [execOp, Act.eval, t5, Instr.loadAt, Instr.sureAddr, load_out (HY.out w hS), Result.andThen_ok]
      · rw [own_put rfl (by rw [hs]; omega)]; exact rfl
    · obtain rfl := Option.some.inj (show some _ = some o from ho)
      have hg : a.tmps.getD 51 undef = .bool true := hdone _ (Array.mem_of_getElem? (i := 3) rfl) rfl _ rfl
      have s55 : a.tmps.getD 55 undef = .agg #[.int .i8 x.kind, .int .u64 x.r0, .slice ca1 x.ctx.length cc1, .slice ta1 x.tr.length tc1, .int .i64 x.left] := hdone _ (Array.mem_of_getElem? (i := 0) rfl) rfl _ rfl
      have s56 : a.tmps.getD 56 undef = .agg #[.int .i8 y.kind, .int .u64 y.r0, .slice ca2 y.ctx.length cc2, .slice ta2 y.tr.length tc2, .int .i64 y.left] := hdone _ (Array.mem_of_getElem? (i := 1) rfl) rfl _ rfl
      refine wpOp_callw (f := 57) (args := #[.agg #[.int .i8 x.kind, .int .u64 x.r0, .slice ca1 x.ctx.length cc1, .slice ta1 x.tr.length tc1, .int .i64 x.left], .agg #[.int .i8 y.kind, .int .u64 y.r0, .slice ca2 y.ctx.length cc2, .slice ta2 y.tr.length tc2, .int .i64 y.left]]) rfl (wanted_yes 29 51 true hg (by rw [hs]; omega) rfl rfl rfl rfl) ?_ ?_
      · simp [go_sem, execOp, Act.eval, Deferred.ofValue, callFunc, Try.func57, Try.f57, s55, s56, resolve, invoke]
      · refine (RBC.out w hS).mono ?_
        rintro e w' ⟨rfl, b9⟩
        refine ⟨_, rfl, _, rfl, ?_, hS.trans (b9.mono hS.size), tabR_mono ⟨fun _ h => h, fun _ h => h, fun _ h => h, fun _ h => h, fun _ h => h, fun _ h => h, fun _ h => h, fun _ h => h, fun _ h => h, fun _ h => h, fun _ h => h, fun _ h => h, fun _ h => h, fun _ h => h, fun _ h => h, fun _ h => h, fun _ h => h, fun _ h => h, fun _ h => h, fun _ h => h, fun _ h => h, fun _ h => h, fun _ h => h, fun _ h => h, fun _ h => h, fun _ h => h, fun _ h => h, fun _ h => h, fun _ h => h, fun _ h => h, fun _ h => h, fun _ h => h, fun _ h => h, fun _ h => h, fun _ h => h, fun _ h => h, fun _ h => h, fun _ h => h, fun _ h => h, fun _ h => h, fun _ h => h, fun _ h => h, fun _ h => h, fun _ h => h, fun _ h => h, fun _ h => h, fun _ h => h, fun _ h => h, fun _ h => h, fun _ h => h, fun _ h => h, fun _ h => h, fun _ h => h, fun _ h => h, fun _ ⟨ca, cc, ta, tc, h1, h2⟩ => ⟨ca, cc, ta, tc, h1, h2.below b9⟩, fun _ h => h, fun _ h => h, fun _ h => h, fun _ h => h, fun _ h => h, fun _ h => h, fun _ h => h, trivial⟩⟩
        rw [own_put rfl (by rw [hs]; omega)]; exact rfl
    · obtain rfl := Option.some.inj (show some _ = some o from ho)
      have hg : a.tmps.getD 51 undef = .bool true := hdone _ (Array.mem_of_getElem? (i := 2) rfl) rfl _ rfl
      have s54 : a.tmps.getD 54 undef = .bool b := hdone _ (Array.mem_of_getElem? (i := 0) rfl) rfl _ rfl
      have s57 : a.tmps.getD 57 undef = .bool b := hdone _ (Array.mem_of_getElem? (i := 1) rfl) rfl _ rfl
      refine wpOp_valw (v := .bool true) (w' := w) rfl (wanted_yes 29 51 true hg (by rw [hs]; omega) rfl rfl rfl rfl) ?_ ⟨_, rfl, ?_, hS, fun _ _ _ h => h⟩
      · simp [execOp, Act.eval, s54, s57, go_sem]
      · rw [own_put rfl (by rw [hs]; omega)]; exact rfl
    · obtain rfl := Option.some.inj (show some _ = some o from ho)
      have s51 : a.tmps.getD 51 undef = .bool true := hdone _ (Array.mem_of_getElem? (i := 0) rfl) rfl _ rfl
      have s58 : a.tmps.getD 58 undef = .bool true := hdone _ (Array.mem_of_getElem? (i := 1) rfl) rfl _ rfl
      refine wpOp_val (v := .bool true) (w' := w) rfl rfl ?_ ⟨_, rfl, ?_, hS, fun _ _ _ h => h⟩
      · simp [execOp, Act.eval, s51, s58, go_sem]
      · rw [own_put rfl (by rw [hs]; omega)]; exact rfl
    · obtain rfl := Option.some.inj (show some _ = some o from ho)
      have s59 : a.tmps.getD 59 undef = .bool true := hdone _ (Array.mem_of_getElem? (i := 0) rfl) rfl _ rfl
      refine wpOp_val (v := .bool true) (w' := w) rfl rfl ?_ ⟨_, rfl, ?_, hS, fun _ _ _ h => h⟩
      · simp [execOp, Act.eval, s59]
      · rw [own_put rfl (by rw [hs]; omega)]; exact rfl
    · obtain rfl := Option.some.inj (show some _ = some o from ho)
      have hg : a.tmps.getD 60 undef = .bool true := hdone _ (Array.mem_of_getElem? (i := 0) rfl) rfl _ rfl
      refine wpOp_valw (v := .agg #[.int .i64 z.num, .slice na z.args.length nc, .int .u64 z.ans]) (w' := w) rfl (wanted_yes 38 60 true hg (by rw [hs]; omega) rfl rfl rfl rfl) ?_ ⟨_, rfl, ?_, hS, fun _ _ _ h => h⟩
      · simp [execOp, Act.eval, t6, Instr.loadAt, Instr.sureAddr, load_ev z na nc (HE.out w hS), Result.andThen_ok]
      · rw [own_put rfl (by rw [hs]; omega)]; exact rfl
    · obtain rfl := Option.some.inj (show some _ = some o from ho)
      have hg : a.tmps.getD 60 undef = .bool true := hdone _ (Array.mem_of_getElem? (i := 1) rfl) rfl _ rfl
      have s61 : a.tmps.getD 61 undef = .agg #[.int .i64 z.num, .slice na z.args.length nc, .int .u64 z.ans] := hdone _ (Array.mem_of_getElem? (i := 0) rfl) rfl _ rfl
      refine wpOp_callw (f := 58) (args := #[.agg #[.int .i64 z.num, .slice na z.args.length nc, .int .u64 z.ans]]) rfl (wanted_yes 38 60 true hg (by rw [hs]; omega) rfl rfl rfl rfl) ?_ ?_
      · simp [go_sem, execOp, Act.eval, Deferred.ofValue, callFunc, Try.func58, Try.f58, s61, resolve, invoke]
      · refine (MY.out w).mono ?_
        rintro e w' ⟨rfl, b9⟩
        refine ⟨_, rfl, _, rfl, ?_, hS.trans (b9.mono hS.size), tabR_mono ⟨fun _ h => h, fun _ h => h, fun _ h => h, fun _ h => h, fun _ h => h, fun _ h => h, fun _ h => h, fun _ h => h, fun _ h => h, fun _ h => h, fun _ h => h, fun _ h => h, fun _ h => h, fun _ h => h, fun _ h => h, fun _ h => h, fun _ h => h, fun _ h => h, fun _ h => h, fun _ h => h, fun _ h => h, fun _ h => h, fun _ h => h, fun _ h => h, fun _ h => h, fun _ h => h, fun _ h => h, fun _ h => h, fun _ h => h, fun _ h => h, fun _ h => h, fun _ h => h, fun _ h => h, fun _ h => h, fun _ h => h, fun _ h => h, fun _ h => h, fun _ h => h, fun _ h => h, fun _ h => h, fun _ h => h, fun _ h => h, fun _ h => h, fun _ h => h, fun _ h => h, fun _ h => h, fun _ h => h, fun _ h => h, fun _ h => h, fun _ h => h, fun _ h => h, fun _ h => h, fun _ h => h, fun _ h => h, fun _ ⟨ca, cc, ta, tc, h1, h2⟩ => ⟨ca, cc, ta, tc, h1, h2.below b9⟩, fun _ h => h, fun _ h => h, fun _ h => h, fun _ h => h, fun _ h => h, fun _ h => h, fun _ h => h, trivial⟩⟩
        rw [own_put rfl (by rw [hs]; omega)]; exact rfl
    · obtain rfl := Option.some.inj (show some _ = some o from ho)
      have hg : a.tmps.getD 60 undef = .bool true := hdone _ (Array.mem_of_getElem? (i := 0) rfl) rfl _ rfl
      refine wpOp_valw (v := .agg #[.int .i64 z.num, .slice na z.args.length nc, .int .u64 z.ans]) (w' := w) rfl (wanted_yes 38 60 true hg (by rw [hs]; omega) rfl rfl rfl rfl) ?_ ⟨_, rfl, ?_, hS, fun _ _ _ h => h⟩
      · simp [execOp, Act.eval, t6, Instr.loadAt, Instr.sureAddr, load_ev z na nc (HE.out w hS), Result.andThen_ok]
      · rw [own_put rfl (by rw [hs]; omega)]; exact rfl
    · obtain rfl := Option.some.inj (show some _ = some o from ho)
      have hg : a.tmps.getD 60 undef = .bool true := hdone _ (Array.mem_of_getElem? (i := 2) rfl) rfl _ rfl
      have s63 : a.tmps.getD 63 undef = .agg #[.int .i64 z.num, .slice na z.args.length nc, .int .u64 z.ans] := hdone _ (Array.mem_of_getElem? (i := 0) rfl) rfl _ rfl
      refine wpOp_callw (f := 59) (args := #[.agg #[.int .i64 z.num, .slice na z.args.length nc, .int .u64 z.ans]]) rfl (wanted_yes 38 60 true hg (by rw [hs]; omega) rfl rfl rfl rfl) ?_ ?_
      · simp [go_sem, execOp, Act.eval, Deferred.ofValue, callFunc, Try.func59, Try.f59, s63, resolve, invoke]
      · refine (RMY.out w).mono ?_
        rintro e w' ⟨rfl, b9⟩
        refine ⟨_, rfl, _, rfl, ?_, hS.trans (b9.mono hS.size), tabR_mono ⟨fun _ h => h, fun _ h => h, fun _ h => h, fun _ h => h, fun _ h => h, fun _ h => h, fun _ h => h, fun _ h => h, fun _ h => h, fun _ h => h, fun _ h => h, fun _ h => h, fun _ h => h, fun _ h => h, fun _ h => h, fun _ h => h, fun _ h => h, fun _ h => h, fun _ h => h, fun _ h => h, fun _ h => h, fun _ h => h, fun _ h => h, fun _ h => h, fun _ h => h, fun _ h => h, fun _ h => h, fun _ h => h, fun _ h => h, fun _ h => h, fun _ h => h, fun _ h => h, fun _ h => h, fun _ h => h, fun _ h => h, fun _ h => h, fun _ h => h, fun _ h => h, fun _ h => h, fun _ h => h, fun _ h => h, fun _ h => h, fun _ h => h, fun _ h => h, fun _ h => h, fun _ h => h, fun _ h => h, fun _ h => h, fun _ h => h, fun _ h => h, fun _ h => h, fun _ h => h, fun _ h => h, fun _ h => h, fun _ ⟨ca, cc, ta, tc, h1, h2⟩ => ⟨ca, cc, ta, tc, h1, h2.below b9⟩, fun _ h => h, fun _ h => h, fun _ h => h, fun _ h => h, fun _ h => h, fun _ h => h, fun _ h => h, trivial⟩⟩
        rw [own_put rfl (by rw [hs]; omega)]; exact rfl
    · obtain rfl := Option.some.inj (show some _ = some o from ho)
      have hg : a.tmps.getD 60 undef = .bool true := hdone _ (Array.mem_of_getElem? (i := 2) rfl) rfl _ rfl
      have s62 : a.tmps.getD 62 undef = .bool m := hdone _ (Array.mem_of_getElem? (i := 0) rfl) rfl _ rfl
      have s64 : a.tmps.getD 64 undef = .bool m := hdone _ (Array.mem_of_getElem? (i := 1) rfl) rfl _ rfl
      refine wpOp_valw (v := .bool true) (w' := w) rfl (wanted_yes 38 60 true hg (by rw [hs]; omega) rfl rfl rfl rfl) ?_ ⟨_, rfl, ?_, hS, fun _ _ _ h => h⟩
      · simp [execOp, Act.eval, s62, s64, go_sem]
      · rw [own_put rfl (by rw [hs]; omega)]; exact rfl
    · obtain rfl := Option.some.inj (show some _ = some o from ho)
      have s60 : a.tmps.getD 60 undef = .bool true := hdone _ (Array.mem_of_getElem? (i := 0) rfl) rfl _ rfl
      have s65 : a.tmps.getD 65 undef = .bool true := hdone _ (Array.mem_of_getElem? (i := 1) rfl) rfl _ rfl
      refine wpOp_val (v := .bool true) (w' := w) rfl rfl ?_ ⟨_, rfl, ?_, hS, fun _ _ _ h => h⟩
      · simp [execOp, Act.eval, s60, s65, go_sem]
      · rw [own_put rfl (by rw [hs]; omega)]; exact rfl
    · obtain rfl := Option.some.inj (show some _ = some o from ho)
      have s66 : a.tmps.getD 66 undef = .bool true := hdone _ (Array.mem_of_getElem? (i := 0) rfl) rfl _ rfl
      refine wpOp_val (v := .bool true) (w' := w) rfl rfl ?_ ⟨_, rfl, ?_, hS, fun _ _ _ h => h⟩
      · simp [execOp, Act.eval, s66]
      · rw [own_put rfl (by rw [hs]; omega)]; exact rfl
    · obtain rfl := Option.some.inj (show some _ = some o from ho)
      have hg : a.tmps.getD 67 undef = .bool true := hdone _ (Array.mem_of_getElem? (i := 0) rfl) rfl _ rfl
      refine wpOp_valw (v := .int .i64 n) (w' := w) rfl (wanted_yes 45 67 true hg (by rw [hs]; omega) rfl rfl rfl rfl) ?_ ⟨_, rfl, ?_, hS, fun _ _ _ h => h⟩
      · simp [execOp, Act.eval, t3]
      · rw [own_put rfl (by rw [hs]; omega)]; exact rfl
    · obtain rfl := Option.some.inj (show some _ = some o from ho)
      have hg : a.tmps.getD 67 undef = .bool true := hdone _ (Array.mem_of_getElem? (i := 1) rfl) rfl _ rfl
      have s68 : a.tmps.getD 68 undef = .int .i64 n := hdone _ (Array.mem_of_getElem? (i := 0) rfl) rfl _ rfl
      refine wpOp_callw (f := 60) (args := #[.int .i64 n]) rfl (wanted_yes 45 67 true hg (by rw [hs]; omega) rfl rfl rfl rfl) ?_ ?_
      · simp [go_sem, execOp, Act.eval, Deferred.ofValue, callFunc, Try.func60, Try.f60, s68, resolve, invoke]
      · refine (FU.out w).mono ?_
        rintro e w' ⟨rfl, rfl⟩
        refine ⟨_, rfl, _, rfl, ?_, hS, fun _ _ _ h => h⟩
        rw [own_put rfl (by rw [hs]; omega)]; exact rfl
    · obtain rfl := Option.some.inj (show some _ = some o from ho)
      have hg : a.tmps.getD 67 undef = .bool true := hdone _ (Array.mem_of_getElem? (i := 0) rfl) rfl _ rfl
      refine wpOp_valw (v := .int .i64 n) (w' := w) rfl (wanted_yes 45 67 true hg (by rw [hs]; omega) rfl rfl rfl rfl) ?_ ⟨_, rfl, ?_, hS, fun _ _ _ h => h⟩
      · simp [execOp, Act.eval, t3]
      · rw [own_put rfl (by rw [hs]; omega)]; exact rfl
    · obtain rfl := Option.some.inj (show some _ = some o from ho)
      have hg : a.tmps.getD 67 undef = .bool true := hdone _ (Array.mem_of_getElem? (i := 2) rfl) rfl _ rfl
      have s70 : a.tmps.getD 70 undef = .int .i64 n := hdone _ (Array.mem_of_getElem? (i := 0) rfl) rfl _ rfl
      refine wpOp_callw (f := 61) (args := #[.int .i64 n]) rfl (wanted_yes 45 67 true hg (by rw [hs]; omega) rfl rfl rfl rfl) ?_ ?_
      · simp [go_sem, execOp, Act.eval, Deferred.ofValue, callFunc, Try.func61, Try.f61, s70, resolve, invoke]
      · refine (RFU.out w).mono ?_
        rintro e w' ⟨rfl, rfl⟩
        refine ⟨_, rfl, _, rfl, ?_, hS, fun _ _ _ h => h⟩
        rw [own_put rfl (by rw [hs]; omega)]; exact rfl
    · obtain rfl := Option.some.inj (show some _ = some o from ho)
      have hg : a.tmps.getD 67 undef = .bool true := hdone _ (Array.mem_of_getElem? (i := 2) rfl) rfl _ rfl
      have s69 : a.tmps.getD 69 undef = .int .i64 f := hdone _ (Array.mem_of_getElem? (i := 0) rfl) rfl _ rfl
      have s71 : a.tmps.getD 71 undef = .int .i64 f := hdone _ (Array.mem_of_getElem? (i := 1) rfl) rfl _ rfl
      refine wpOp_valw (v := .bool true) (w' := w) rfl (wanted_yes 45 67 true hg (by rw [hs]; omega) rfl rfl rfl rfl) ?_ ⟨_, rfl, ?_, hS, fun _ _ _ h => h⟩
      · simp [execOp, Act.eval, s69, s71, go_sem]
      · rw [own_put rfl (by rw [hs]; omega)]; exact rfl
    · obtain rfl := Option.some.inj (show some _ = some o from ho)
      have s67 : a.tmps.getD 67 undef = .bool true := hdone _ (Array.mem_of_getElem? (i := 0) rfl) rfl _ rfl
      have s72 : a.tmps.getD 72 undef = .bool true := hdone _ (Array.mem_of_getElem? (i := 1) rfl) rfl _ rfl
      refine wpOp_val (v := .bool true) (w' := w) rfl rfl ?_ ⟨_, rfl, ?_, hS, fun _ _ _ h => h⟩
      · simp [execOp, Act.eval, s67, s72, go_sem]
      · rw [own_put rfl (by rw [hs]; omega)]; exact rfl
    · obtain rfl := Option.some.inj (show some _ = some o from ho)
      have s73 : a.tmps.getD 73 undef = .bool true := hdone _ (Array.mem_of_getElem? (i := 0) rfl) rfl _ rfl
      refine wpOp_val (v := .bool true) (w' := w) rfl rfl ?_ ⟨_, rfl, ?_, hS, fun _ _ _ h => h⟩
      · simp [execOp, Act.eval, s73]
      · rw [own_put rfl (by rw [hs]; omega)]; exact rfl
    · obtain rfl := Option.some.inj (show some _ = some o from ho)
      have hg : a.tmps.getD 74 undef = .bool true := hdone _ (Array.mem_of_getElem? (i := 0) rfl) rfl _ rfl
      refine wpOp_valw (v := .agg #[.int .i8 x.kind, .int .u64 x.r0, .slice ca1 x.ctx.length cc1, .slice ta1 x.tr.length tc1, .int .i64 x.left]) (w' := w) rfl (wanted_yes 52 74 true hg (by rw [hs]; omega) rfl rfl rfl rfl) ?_ ⟨_, rfl, ?_, hS, fun _ _ _ h => h⟩
      · simp [execOp, Act.eval, t4, Instr.loadAt, Instr.sureAddr, load_out (HX.out w hS), Result.andThen_ok]
      · rw [own_put rfl (by rw [hs]; omega)]; exact rfl
    · obtain rfl := Option.some.inj (show some _ = some o from ho)
      have hg : a.tmps.getD 74 undef = .bool true := hdone _ (Array.mem_of_getElem? (i := 1) rfl) rfl _ rfl
      have s75 : a.tmps.getD 75 undef = .agg #[.int .i8 x.kind, .int .u64 x.r0, .slice ca1 x.ctx.length cc1, .slice ta1 x.tr.length tc1, .int .i64 x.left] := hdone _ (Array.mem_of_getElem? (i := 0) rfl) rfl _ rfl
      refine wpOp_callw (f := 62) (args := #[.agg #[.int .i8 x.kind, .int .u64 x.r0, .slice ca1 x.ctx.length cc1, .slice ta1 x.tr.length tc1, .int .i64 x.left]]) rfl (wanted_yes 52 74 true hg (by rw [hs]; omega) rfl rfl rfl rfl) ?_ ?_
      · simp [go_sem, execOp, Act.eval, Deferred.ofValue, callFunc, Try.func62, Try.f62, s75, resolve, invoke]
      · refine (CP.out w hS).mono ?_
        rintro e w' ⟨cv, tv, ps, rfl, hm9, b9⟩
        refine ⟨_, rfl, _, rfl, ?_, hS.trans (b9.mono hS.size), tabR_mono ⟨fun _ h => h, fun _ h => h, fun _ h => h, fun _ h => h, fun _ h => h, fun _ h => h, fun _ h => h, fun _ h => h, fun _ h => h, fun _ h => h, fun _ h => h, fun _ h => h, fun _ h => h, fun _ h => h, fun _ h => h, fun _ h => h, fun _ h => h, fun _ h => h, fun _ h => h, fun _ h => h, fun _ h => h, fun _ h => h, fun _ h => h, fun _ h => h, fun _ h => h, fun _ h => h, fun _ h => h, fun _ h => h, fun _ h => h, fun _ h => h, fun _ h => h, fun _ h => h, fun _ h => h, fun _ h => h, fun _ h => h, fun _ h => h, fun _ h => h, fun _ h => h, fun _ h => h, fun _ h => h, fun _ h => h, fun _ h => h, fun _ h => h, fun _ h => h, fun _ h => h, fun _ h => h, fun _ h => h, fun _ h => h, fun _ h => h, fun _ h => h, fun _ h => h, fun _ h => h, fun _ h => h, fun _ h => h, fun _ ⟨ca, cc, ta, tc, h1, h2⟩ => ⟨ca, cc, ta, tc, h1, h2.below b9⟩, fun _ h => h, fun _ h => h, fun _ h => h, fun _ h => h, fun _ h => h, fun _ h => h, fun _ h => h, trivial⟩⟩
        rw [own_put rfl (by rw [hs]; omega)]; exact hm9.outAt HOK.out
    · obtain rfl := Option.some.inj (show some _ = some o from ho)
      have hg : a.tmps.getD 74 undef = .bool true := hdone _ (Array.mem_of_getElem? (i := 0) rfl) rfl _ rfl
      refine wpOp_valw (v := .agg #[.int .i8 x.kind, .int .u64 x.r0, .slice ca1 x.ctx.length cc1, .slice ta1 x.tr.length tc1, .int .i64 x.left]) (w' := w) rfl (wanted_yes 52 74 true hg (by rw [hs]; omega) rfl rfl rfl rfl) ?_ ⟨_, rfl, ?_, hS, fun _ _ _ h => h⟩
      · simp [execOp, Act.eval, t4, Instr.loadAt, Instr.sureAddr, load_out (HX.out w hS), Result.andThen_ok]
      · rw [own_put rfl (by rw [hs]; omega)]; exact rfl
    · obtain rfl := Option.some.inj (show some _ = some o from ho)
      have hg : a.tmps.getD 74 undef = .bool true := hdone _ (Array.mem_of_getElem? (i := 3) rfl) rfl _ rfl
      have r76 := hdone _ (Array.mem_of_getElem? (i := 0) rfl) rfl _ rfl
      have s77 : a.tmps.getD 77 undef = .agg #[.int .i8 x.kind, .int .u64 x.r0, .slice ca1 x.ctx.length cc1, .slice ta1 x.tr.length tc1, .int .i64 x.left] := hdone _ (Array.mem_of_getElem? (i := 1) rfl) rfl _ rfl
      have q76 : ∃ ca cc ta tc, a.tmps.getD 76 undef = outV x ca cc ta tc ∧ OutAt w x ca cc ta tc := r76
      obtain ⟨ca9, cc9, ta9, tc9, e76, h76⟩ := q76
      refine wpOp_callw (f := 51) (args := #[outV x ca9 cc9 ta9 tc9, .agg #[.int .i8 x.kind, .int .u64 x.r0, .slice ca1 x.ctx.length cc1, .slice ta1 x.tr.length tc1, .int .i64 x.left]]) rfl (wanted_yes 52 74 true hg (by rw [hs]; omega) rfl rfl rfl rfl) ?_ ?_
      · simp [go_sem, execOp, Act.eval, Deferred.ofValue, callFunc, Try.func51, Try.f51, e76, s77, resolve, invoke]
      · refine (SC.out w hS _ _ _ _ h76).mono ?_
        rintro e w' ⟨rfl, b9⟩
        refine ⟨_, rfl, _, rfl, ?_, hS.trans (b9.mono hS.size), tabR_mono ⟨fun _ h => h, fun _ h => h, fun _ h => h, fun _ h => h, fun _ h => h, fun _ h => h, fun _ h => h, fun _ h => h, fun _ h => h, fun _ h => h, fun _ h => h, fun _ h => h, fun _ h => h, fun _ h => h, fun _ h => h, fun _ h => h, fun _ h => h, fun _ h => h, fun _ h => h, fun _ h => h, fun _ h => h, fun _ h => h, fun _ h => h, fun _ h => h, fun _ h => h, fun _ h => h, fun _ h => h, fun _ h => h, fun _ h => h, fun _ h => h, fun _ h => h, fun _ h => h, fun _ h => h, fun _ h => h, fun _ h => h, fun _ h => h, fun _ h => h, fun _ h => h, fun _ h => h, fun _ h => h, fun _ h => h, fun _ h => h, fun _ h => h, fun _ h => h, fun _ h => h, fun _ h => h, fun _ h => h, fun _ h => h, fun _ h => h, fun _ h => h, fun _ h => h, fun _ h => h, fun _ h => h, fun _ h => h, fun _ ⟨ca, cc, ta, tc, h1, h2⟩ => ⟨ca, cc, ta, tc, h1, h2.below b9⟩, fun _ h => h, fun _ h => h, fun _ h => h, fun _ h => h, fun _ h => h, fun _ h => h, fun _ h => h, trivial⟩⟩
        rw [own_put rfl (by rw [hs]; omega)]; exact rfl
    · obtain rfl := Option.some.inj (show some _ = some o from ho)
      have s74 : a.tmps.getD 74 undef = .bool true := hdone _ (Array.mem_of_getElem? (i := 0) rfl) rfl _ rfl
      have s78 : a.tmps.getD 78 undef = .bool true := hdone _ (Array.mem_of_getElem? (i := 1) rfl) rfl _ rfl
      refine wpOp_val (v := .bool true) (w' := w) rfl rfl ?_ ⟨_, rfl, ?_, hS, fun _ _ _ h => h⟩
      · simp [execOp, Act.eval, s74, s78, go_sem]
      · rw [own_put rfl (by rw [hs]; omega)]; exact rfl
    · obtain rfl := Option.some.inj (show some _ = some o from ho)
      have s79 : a.tmps.getD 79 undef = .bool true := hdone _ (Array.mem_of_getElem? (i := 0) rfl) rfl _ rfl
      refine wpOp_val (v := .bool true) (w' := w) rfl rfl ?_ ⟨_, rfl, ?_, hS, fun _ _ _ h => h⟩
      · simp [execOp, Act.eval, s79]
      · rw [own_put rfl (by rw [hs]; omega)]; exact rfl
    · obtain rfl := Option.some.inj (show some _ = some o from ho)
      have hg : a.tmps.getD 80 undef = .bool true := hdone _ (Array.mem_of_getElem? (i := 0) rfl) rfl _ rfl
      refine wpOp_callw (f := 49) (args := #[]) rfl (wanted_yes 58 80 true hg (by rw [hs]; omega) rfl rfl rfl rfl) ?_ ?_
      · simp [go_sem, execOp, Act.eval, Deferred.ofValue, callFunc, Try.func49, Try.f49, resolve, invoke]
      · refine (wakes_any w).mono ?_
        rintro e w' ⟨rfl, b9⟩
        refine ⟨_, rfl, _, rfl, ?_, hS.trans (b9.mono hS.size), tabR_mono ⟨fun _ h => h, fun _ h => h, fun _ h => h, fun _ h => h, fun _ h => h, fun _ h => h, fun _ h => h, fun _ h => h, fun _ h => h, fun _ h => h, fun _ h => h, fun _ h => h, fun _ h => h, fun _ h => h, fun _ h => h, fun _ h => h, fun _ h => h, fun _ h => h, fun _ h => h, fun _ h => h, fun _ h => h, fun _ h => h, fun _ h => h, fun _ h => h, fun _ h => h, fun _ h => h, fun _ h => h, fun _ h => h, fun _ h => h, fun _ h => h, fun _ h => h, fun _ h => h, fun _ h => h, fun _ h => h, fun _ h => h, fun _ h => h, fun _ h => h, fun _ h => h, fun _ h => h, fun _ h => h, fun _ h => h, fun _ h => h, fun _ h => h, fun _ h => h, fun _ h => h, fun _ h => h, fun _ h => h, fun _ h => h, fun _ h => h, fun _ h => h, fun _ h => h, fun _ h => h, fun _ h => h, fun _ h => h, fun _ ⟨ca, cc, ta, tc, h1, h2⟩ => ⟨ca, cc, ta, tc, h1, h2.below b9⟩, fun _ h => h, fun _ h => h, fun _ h => h, fun _ h => h, fun _ h => h, fun _ h => h, fun _ h => h, trivial⟩⟩
        rw [own_put rfl (by rw [hs]; omega)]; exact rfl
    · obtain rfl := Option.some.inj (show some _ = some o from ho)
      have s80 : a.tmps.getD 80 undef = .bool true := hdone _ (Array.mem_of_getElem? (i := 0) rfl) rfl _ rfl
      have s81 : a.tmps.getD 81 undef = .bool true := hdone _ (Array.mem_of_getElem? (i := 1) rfl) rfl _ rfl
      refine wpOp_val (v := .bool true) (w' := w) rfl rfl ?_ ⟨_, rfl, ?_, hS, fun _ _ _ h => h⟩
      · simp [execOp, Act.eval, s80, s81, go_sem]
      · rw [own_put rfl (by rw [hs]; omega)]; exact rfl
    · obtain rfl := Option.some.inj (show some _ = some o from ho)
      have s82 : a.tmps.getD 82 undef = .bool true := hdone _ (Array.mem_of_getElem? (i := 0) rfl) rfl _ rfl
      refine wpOp_val (v := .bool true) (w' := w) rfl rfl ?_ ⟨_, rfl, ?_, hS, fun _ _ _ h => h⟩
      · simp [execOp, Act.eval, s82]
      · rw [own_put rfl (by rw [hs]; omega)]; exact rfl
  case hq =>
    intro u9 w' hS hR9
    have f8 : u9 8 = .bool true := hR9 61 _ rfl
    clear hR9
    rw [show outs _ u9 = [(22, u9 22), (23, u9 23), (24, u9 24), (25, u9 25), (26, u9 26), (27, u9 27), (28, u9 28), (29, u9 29), (30, u9 30), (31, u9 31), (32, u9 32), (33, u9 33), (34, u9 34), (35, u9 35), (36, u9 36), (37, u9 37), (38, u9 38), (39, u9 39), (40, u9 40), (41, u9 41), (42, u9 42), (43, u9 43), (44, u9 44), (45, u9 45), (46, u9 46), (47, u9 47), (48, u9 48), (49, u9 49), (50, u9 50), (51, u9 51), (52, u9 52), (53, u9 53), (54, u9 54), (55, u9 55), (56, u9 56), (57, u9 57), (58, u9 58), (59, u9 59), (60, u9 60), (61, u9 61), (62, u9 62), (63, u9 63), (64, u9 64), (65, u9 65), (66, u9 66), (67, u9 67), (68, u9 68), (69, u9 69), (70, u9 70), (71, u9 71), (72, u9 72), (73, u9 73), (74, u9 74), (75, u9 75), (76, u9 76), (77, u9 77), (78, u9 78), (79, u9 79), (80, u9 80), (81, u9 81), (82, u9 82), (8, u9 8)] by kernel_rfl, f8]
    simp only [putAll, List.setIfInBounds_toArray, List.set_cons_zero, List.set_cons_succ]
    generalize u9 22 = x22
    generalize u9 23 = x23
    generalize u9 24 = x24
    generalize u9 25 = x25
    generalize u9 26 = x26
    generalize u9 27 = x27
    generalize u9 28 = x28
    generalize u9 29 = x29
    generalize u9 30 = x30
    generalize u9 31 = x31
    generalize u9 32 = x32
    generalize u9 33 = x33
    generalize u9 34 = x34
    generalize u9 35 = x35
    generalize u9 36 = x36
    generalize u9 37 = x37
    generalize u9 38 = x38
    generalize u9 39 = x39
    generalize u9 40 = x40
    generalize u9 41 = x41
    generalize u9 42 = x42
    generalize u9 43 = x43
    generalize u9 44 = x44
    generalize u9 45 = x45
    generalize u9 46 = x46
    generalize u9 47 = x47
    generalize u9 48 = x48
    generalize u9 49 = x49
    generalize u9 50 = x50
    generalize u9 51 = x51
    generalize u9 52 = x52
    generalize u9 53 = x53
    generalize u9 54 = x54
    generalize u9 55 = x55
    generalize u9 56 = x56
    generalize u9 57 = x57
    generalize u9 58 = x58
    generalize u9 59 = x59
    generalize u9 60 = x60
    generalize u9 61 = x61
    generalize u9 62 = x62
    generalize u9 63 = x63
    generalize u9 64 = x64
    generalize u9 65 = x65
    generalize u9 66 = x66
    generalize u9 67 = x67
    generalize u9 68 = x68
    generalize u9 69 = x69
    generalize u9 70 = x70
    generalize u9 71 = x71
    generalize u9 72 = x72
    generalize u9 73 = x73
    generalize u9 74 = x74
    generalize u9 75 = x75
    generalize u9 76 = x76
    generalize u9 77 = x77
    generalize u9 78 = x78
    generalize u9 79 = x79
    generalize u9 80 = x80
    generalize u9 81 = x81
    generalize u9 82 = x82
    clear f8 u9
    have W1 := Lib.hid (below_call BW.out hS); clear hS
    go_wp2_with fail
    go_ret
    exact ⟨rfl, W1.out⟩
theorem traceTells_law (x : Out) (ca1 : Option Addr) (cc1 : Nat) (ta1 : Option Addr) (tc1 : Nat) (y : Out) (ca2 : Option Addr) (cc2 : Nat) (ta2 : Option Addr) (tc2 : Nat) (z : Ev) (na : Option Addr) (nc : Nat) (n : Int) (W : World) (h1 : OutAt W x ca1 cc1 ta1 tc1) (h2 : OutAt W y ca2 cc2 ta2 tc2) (h3 : WordsAt W na z.args.length nc z.args) (_ : (Lit.int .i64 n).wf = true) :
    Calls Try.prog 8 #[outV x ca1 cc1 ta1 tc1, outV y ca2 cc2 ta2 tc2, .agg #[.int .i64 z.num, .slice na z.args.length nc, .int .u64 z.ans], .int .i64 n] W fun e w' => e = .returned (.bool true) ∧ Below W.heap.size W w' := traceTells_walk x ca1 cc1 ta1 tc1 y ca2 cc2 ta2 tc2 z na nc n W h1 h2 h3
end Go.Proofs.Ytpbnmbeedjhloaa.Trc
