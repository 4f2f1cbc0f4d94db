/-
  Several texts in one: ModelMoreW.
-/
import Derived.Test.YthhgcbegcbhaeaaMBh42
import Derived.Test.YthhgcbegcbhaeaaMBh43
import Derived.Test.YthhgcbegcbhaeaaMMr02
set_option linter.unusedVariables false
set_option linter.unusedSimpArgs false
set_option linter.unnecessarySimpa false
namespace Go.Proofs.Ythhgcbegcbhaeaa.Mdl
open Go.RowKit Go.Maps Ins Trc Blk
set_option linter.unusedVariables false
set_option linter.unusedSimpArgs false
set_option maxRecDepth 100000

theorem own_wordsM {w : World} {base : Nat} {v : Value} {zs : List Int} (h : w.ownsRow base 30 1 v zs.length (zs.map (.int .u64))) : ∃ a c, v = .slice a zs.length c ∧ WordsAt w a zs.length c zs := by
  rcases h.2 with ⟨e1, e2⟩ | ⟨g, cap, cur, e1, e2, e3, e4, e5, e6, e7⟩
  · refine ⟨none, 0, by rw [e1, e2], rfl, by omega, by omega, fun h => absurd h (by omega), fun _ => rfl⟩
  · refine ⟨_, cap, e1, rfl, e4, by unfold maxLen at e5; omega, fun _ => ⟨g, 0, rfl, fun j z hz => ?_⟩, fun h => by cases h⟩
    have hl := (List.getElem?_eq_some_iff.1 hz).1
    have : (zs.map (Value.int .u64))[j]? = some (.int .u64 z) := by rw [List.getElem?_map, hz]; rfl
    rw [← e7, List.getElem?_take_of_lt (by omega), Array.getElem?_toList] at this
    simp only [World.cell?, e3, Nat.zero_add]
    rw [this]; rfl
theorem tmod_nn {a : Int} (h : 0 ≤ a) : 0 ≤ a.tmod 1001 ∧ a.tmod 1001 < 1001 := ⟨Int.tmod_nonneg 1001 h, Int.tmod_lt_of_pos a (by decide)⟩
theorem tmod_bd (a : Int) : -1001 < a.tmod 1001 ∧ a.tmod 1001 < 1001 := by
  rcases Int.le_total 0 a with h | h
  · have := tmod_nn h; omega
  · have e : a.tmod 1001 = -((-a).tmod 1001) := by rw [Int.neg_tmod]; omega
    have := tmod_nn (show 0 ≤ -a by omega); omega
theorem halt_appendM {P : Program} {ops : Array Oper} {rest : List Oper} {o : Oper} {a : Act} {w : World} {Q : Exit → Act → World → Prop} (s x : Operand) (t : TypeId) (ho : o.op = .call { callee := .builtin .append, args := #[s, x], argTypes := #[t, t] })
    (h : wpList P ops Q (o :: rest) a w ∧ True) : wpList P ops Q (o :: rest) a w := h.1
theorem sameB_selfM (o : Out) : sameB o o = true := by
  unfold sameB endB
  simp
/-- Words appended to a row of one's own. -/
theorem append_words {ops : Array Oper} {rest : List Oper} {o : Oper} {a : Act} {w : World} {Q : Exit → Act → World → Prop} (hgd : o.guard = none) (s x : Operand) (ho : o.op = .call { callee := .builtin .append, args := #[s, x], argTypes := #[26, 26] })
    (base : Nat) (v : Value) (zs ys : List Int) (hs : a.eval s = v) (hown : w.ownsRow base 30 1 v zs.length (zs.map (.int .u64))) (aa : Option Addr) (m c : Nat) (hx : a.eval x = .slice aa m c) (hy : WordsAt w aa m c ys) (hb : base ≤ w.heap.size) (h63 : zs.length + m ≤ 100000)
    (h : ∀ v' w', w'.ownsRow base 30 1 v' (zs ++ ys).length ((zs ++ ys).map (.int .u64)) → Trn v.ownBlock.toList w w' → wpList Try.prog ops Q rest (a.put o.dst v') w') : wpList Try.prog ops Q (o :: rest) a w := by
  obtain ⟨ti, i1, i2, i3, i4⟩ := info_u64
  cases aa with
  | none =>
    have hc := hy.nilc rfl
    have hm := hy.le
    have hsz := hy.size
    obtain rfl : c = 0 := hc
    obtain rfl : m = 0 := by omega
    obtain rfl : ys = [] := List.length_eq_zero_iff.1 hsz.symm
    refine wpList_append_own_none hgd s x 26 ho base 30 ti 1 Try.underlying26 i1 v zs.length _ hs hown hx (h v w ?_ (Trn.refl _))
    rw [List.append_nil]; exact hown
  | some ad =>
    refine wpList_append_own _ hgd s x 26 ho base 30 ti _ 1 8 Try.underlying26 i1 i2 i3 i4 rfl (by decide) v zs.length (zs.map (.int .u64)) hs hown ad m c (ys.map (.int .u64)) hx (by rw [List.length_map, ← hy.size]; simp) (fun j u hu => ?_) (ints_one _ _) (by unfold maxLen; omega) (by omega) hb ?_
    · have hj := (List.getElem?_eq_some_iff.1 hu).1
      rw [List.length_map] at hj
      obtain ⟨b, o, e, hc⟩ := hy.here (by rw [hy.size]; omega)
      injection e with e
      subst e
      rw [List.getElem?_map] at hu
      cases hz : ys[j]? with
      | none => rw [hz] at hu; cases hu
      | some z =>
        rw [hz] at hu
        obtain rfl : Value.int .u64 z = u := by simpa using hu
        rw [Go.WideShapes.add_plain]
        exact hc j z hz
    · intro v' w' h1 h2 _
      refine h v' w' ?_ (trn_grown h2)
      rw [List.length_append, List.map_append, ← hy.size]; exact h1

/-- The law's world: the program's box, both outcomes' boxes. -/
structure Mor (W : World) (c : Int) (b o plen pcap : Nat) (p2 p3 : Nat) (x' y' : Out) (oa : Option Addr) (ob : Nat) (ta : Option Addr) (tc : Nat) (oa2 : Option Addr) (ob2 : Nat) (ta2 : Option Addr) (tc2 : Nat) (w : World) : Prop where
  bel : Below W.heap.size W w
  p0 : w.cell? ⟨W.heap.size, 0, none⟩ = some (.int .i64 c)
  p1 : w.cell? ⟨W.heap.size, 1, none⟩ = some (.slice (some ⟨b, o, none⟩) plen pcap)
  x : Box5 w p2 x' oa ob ta tc
  y : Box5 w p3 y' oa2 ob2 ta2 tc2
  xo : OutAt w x' oa ob ta tc
  yo : OutAt w y' oa2 ob2 ta2 tc2
theorem Mor.below {W : World} {c : Int} {b o plen pcap : Nat} {p2 p3 : Nat} {x y : Out} {oa : Option Addr} {ob : Nat} {ta : Option Addr} {tc : Nat} {oa2 : Option Addr} {ob2 : Nat} {ta2 : Option Addr} {tc2 : Nat} {w w' : World} (h : Mor W c b o plen pcap p2 p3 x y oa ob ta tc oa2 ob2 ta2 tc2 w) (k : Below w.heap.size w w') : Mor W c b o plen pcap p2 p3 x y oa ob ta tc oa2 ob2 ta2 tc2 w' :=
  ⟨h.bel.trans (k.mono h.bel.size), (k.cell (lt_of_cell h.p0)).trans h.p0, (k.cell (lt_of_cell h.p1)).trans h.p1, h.x.below k, h.y.below k, h.xo.below k, h.yo.below k⟩

set_option maxHeartbeats 16000000 in
theorem more_ok (c : Int) (b o plen pcap : Nat) (x : Nat → In) (ca : Option Addr) (cl cc : Nat) (cf : Nat → Int) (aa : Option Addr) (al ac : Nat) (zs : List Int) (ba : Option Addr) (bl bc : Nat) (ys : List Int) (fuel more : Int) (W : World) (hI : Insts W (some ⟨b, o, none⟩) plen pcap x) (hS : Src W ca cl cc cf) (hA : WordsAt W aa al ac zs) (hB : WordsAt W ba bl bc ys)
    (hz : ∀ z ∈ zs, 0 ≤ z ∧ z < 18446744073709551616) (hy : ∀ z ∈ ys, 0 ≤ z ∧ z < 18446744073709551616) (hchk : (checkI c plen x).2 = 0) (hlen : (cl : Int) = c) (f0 : 0 ≤ fuel) (f1 : fuel ≤ 10000) (h3 : al ≤ 400) (h4 : ¬ (2000 < fuel ∧ fuel ≤ 10000)) (h5 : bl ≤ 400) :
    Calls Try.prog 3 #[.agg #[.int .i64 c, .slice (some ⟨b, o, none⟩) plen pcap], .slice ca cl cc, .slice aa al ac, .slice ba bl bc, .int .i64 fuel, .int .i64 more] W fun e w' => e = .returned (.bool true) ∧ Below W.heap.size W w' := by
  have hle := hI.le
  have hfit := hI.fit
  obtain ⟨h1, h64, _⟩ := ends_facts hchk
  have hcc := check_c hchk
  have GR := Lib.hid (fun W => great_no c (some ⟨b, o, none⟩) plen pcap ca cl cc aa al ac fuel W (by omega) (by omega) h3 h4)
  obtain ⟨tk, htk⟩ : ∃ tk : Nat, min (al : Int) fuel = (tk : Int) := ⟨(min (al : Int) fuel).toNat, by omega⟩
  obtain ⟨M, hM⟩ : ∃ M, (wrap64 (more.tmod 1001 + 1001)).tmod 1001 = M := ⟨_, rfl⟩
  have hm1 : -1001 < more.tmod 1001 ∧ more.tmod 1001 < 1001 := tmod_bd more
  have hw1 : wrap64 (more.tmod 1001 + 1001) = more.tmod 1001 + 1001 := IntWalk.wrap64_in _ (by omega)
  have hM0 : 0 ≤ M ∧ M ≤ 1000 := by
    rw [← hM, hw1]
    have := tmod_nn (show 0 ≤ more.tmod 1001 + 1001 by omega)
    omega
  have hF : wrap64 (fuel + M) = fuel + M := IntWalk.wrap64_in _ (by omega)
  obtain ⟨tk2, htk2⟩ : ∃ tk2 : Nat, min (al : Int) (fuel + M) = (tk2 : Int) := ⟨(min (al : Int) (fuel + M)).toNat, by omega⟩
  have RUN := Lib.hid (fun w (h : Below W.heap.size W w) => (run_ok c b o plen pcap x ca cl cc cf aa al ac tk zs fuel w (hI.below h) (hS.below h) (hA.below h) hchk hlen f0 f1 htk (by omega) hz).mono (fun _ _ h => h.plain))
  have RUN2 := Lib.hid (fun w (h : Below W.heap.size W w) (hf : fuel + M ≤ 10000) => (run_ok c b o plen pcap x ca cl cc cf aa al ac tk2 zs (fuel + M) w (hI.below h) (hS.below h) (hA.below h) hchk hlen (by omega) hf htk2 (by omega) hz).mono (fun _ _ h => h.plain))
  have RUN3 := Lib.hid (fun w (h : Below W.heap.size W w) (oa3 : Option Addr) (n oc3 t3 : Nat) (us : List Int) (hu : ∀ z ∈ us, 0 ≤ z ∧ z < 18446744073709551616) (ht : min (n : Int) fuel = (t3 : Int)) (hn : n ≤ 800) (hO : WordsAt w oa3 n oc3 us) => (run_ok c b o plen pcap x ca cl cc cf oa3 n oc3 t3 us fuel w (hI.below h) (hS.below h) hO hchk hlen f0 f1 ht (by omega) hu).mono (fun _ _ h => h.plain))
  have EI := Lib.hid (fun o F R h => ends_is (x := x) (n := plen) (cl := cl) (cf := cf) (fuel := fuel) (zs := zs) (al := al) (tk := tk) F R hA.size.symm htk (o := o) h)
  have EM := Lib.hid (fun o o2 F R h h2 => ends_more (x := x) (n := plen) (cl := cl) (cf := cf) (fuel := fuel) (zs := zs) (al := al) (tk := tk) F R (more := M) (tk' := tk2) hM0.1 hA.size.symm htk htk2 (o := o) (o2 := o2) h h2)
  have EO := Lib.hid (fun v o o2 F R h h0 h2 h3 => ends_other (x := x) (n := plen) (cl := cl) (cf := cf) (fuel := fuel) (zs := zs) (al := al) (tk := tk) F R hA.size.symm htk (v := v) (o := o) (o2 := o2) h h0 h2 h3)
  have HA := Lib.hid hA
  have HB := Lib.hid hB
  have HZ := Lib.hid hz
  have HY := Lib.hid hy
  have hbl : decide (400 < (bl : Int)) = false := decide_eq_false (by omega)
  clear hI hS hA hB hz hy hchk hlen f0 f1 h4 htk htk2 hm1 hw1
  go_enter Try.func3, Try.ntmps3
  go_wp2_with fail
  refine (GR.out _).mono ?_
  rintro e w1 ⟨rfl, b1⟩
  have c0 := (b1.cell (p := ⟨W.heap.size, 0, none⟩) (by simp)).trans (show _ = some (Value.int .i64 c) by simp)
  have c1 := (b1.cell (p := ⟨W.heap.size, 1, none⟩) (by simp)).trans (show _ = some (Value.slice (some ⟨b, o, none⟩) plen pcap) by simp)
  have B1 := Lib.hid (below_call (below_new (Below.refl _ W) _) b1)
  clear b1 GR
  go_wp2_with fail
  refine (RUN.out _ B1.out).mono ?_
  rintro e w2 ⟨oo, oa, ob, ta, tc, F, RR, EN, rfl, OA, b2⟩
  have c0 := (b2.cell (lt_of_cell c0)).trans c0
  have c1 := (b2.cell (lt_of_cell c1)).trans c1
  have B2 := Lib.hid (below_call B1.out b2)
  have l0 := lt_of_cell c0
  have OA := Lib.hid OA
  have AI := Lib.hid (EI.out oo F RR EN)
  have EM2 := Lib.hid (fun o2 h2 => EM.out oo o2 F RR EN h2)
  have EO2 := Lib.hid (fun v o2 h0 h2 h3 => EO.out v oo o2 F RR EN h0 h2 h3)
  have r0 := Lib.hid (Box5.new w2 oo oa ta ob tc 33 _ rfl)
  clear b2 B1 RUN F RR EN EI EM EO
  unfold outV at *
  by_cases hmf : fuel + M ≤ 10000
  case neg =>
    have hmd : decide (10000 < fuel + M) = true := decide_eq_true (by omega)
    go_wp2_with fail
    refine (wakes_any _).mono ?_
    rintro e w3 ⟨rfl, b3⟩
    go_wp2_with fail
    go_ret
    exact ⟨rfl, below_call (below_new B2.out _) b3⟩
  have hmd : decide (10000 < fuel + M) = false := decide_eq_false (by omega)
  go_wp2_with fail
  refine (RUN2.out _ (below_new B2.out _) hmf).mono ?_
  rintro e w3 ⟨o2, oa2, ob2, ta2, tc2, F2, RR2, EN2, rfl, OB, b3⟩
  have MO : ∀ (k : Out) (hk : o2 = k), Hid (Mor W c b o plen pcap w2.heap.size w3.heap.size oo k oa ob ta tc oa2 ob2 ta2 tc2 (w3.alloc (.cells #[.int .i8 k.kind, .int .u64 k.r0, .slice oa2 k.ctx.length ob2, .slice ta2 k.tr.length tc2, .int .i64 k.left] 33))) := fun k hk => by
    subst hk
    have q1 := below_new (Below.refl w3.heap.size w3) (.cells #[.int .i8 o2.kind, .int .u64 o2.r0, .slice oa2 o2.ctx.length ob2, .slice ta2 o2.tr.length tc2, .int .i64 o2.left] 33)
    have q2 := b3.trans (q1.mono b3.size)
    have q3 := below_new (Below.refl w2.heap.size w2) (.cells #[.int .i8 oo.kind, .int .u64 oo.r0, .slice oa oo.ctx.length ob, .slice ta oo.tr.length tc, .int .i64 oo.left] 33)
    have q4 := q3.trans (q2.mono q3.size)
    exact Lib.hid ⟨B2.out.trans (q4.mono B2.out.size), (q4.cell (lt_of_cell c0)).trans c0, (q4.cell (lt_of_cell c1)).trans c1, r0.out.below q2, Box5.new w3 o2 oa2 ta2 ob2 tc2 _ _ rfl, OA.out.below q4, OB.below q1⟩
  have q5 := (r0.out.below b3).all
  obtain ⟨x0, x1, x2, x3, x4⟩ := q5
  have lx := lt_of_cell x0
  have EE := Lib.hid (EM2.out o2 EN2)
  have eL0 : decide (oo.left < 0) = false := decide_eq_false (by have := AI.out.left; omega)
  have eL1 : decide (fuel < oo.left) = false := decide_eq_false (by have := AI.out.left; omega)
  have eU : decide ((al : Int) < (oo.tr.length : Int)) = false := decide_eq_false (by have := AI.out.used; omega)
  have eU2 : decide (al < oo.tr.length) = false := decide_eq_false (by have := AI.out.used; omega)
  have hus : oo.tr.length ≤ al := AI.out.used
  have MO2 := Lib.hid (MO o2 rfl).out
  have MO3 := Lib.hid MO
  clear MO b3 OA OB F2 RR2 EN2 EM2 r0 RUN2 c0 c1 l0
  unfold outV at *
  have BG := Lib.hid (fun w b => r_begins ta ta2 oo.tr.length tc o2.tr.length tc2 oo.tr o2.tr w ((MO2.out.below (w' := w) b).xo.tr) ((MO2.out.below b).yo.tr))
  rw [EE.out.1] at BG
  go_wp2_with fail
  refine (BG.out _ (Below.refl _ _)).mono ?_
  rintro e w4 ⟨rfl, b4⟩
  have M4 := Lib.hid (MO2.out.below b4)
  clear b4 MO2 MO3 BG x0 x1 x2 x3 x4 lx
  go_wp2_with fail
  go_loopw [18] (fun i wr => ∃ k : Nat, k ≤ oo.tr.length ∧ i = .int .i64 k ∧ Hid (Mor W c b o plen pcap w2.heap.size w3.heap.size oo o2 oa ob ta tc oa2 ob2 ta2 tc2 wr)) (fun i _ => oo.tr.length - (intOf i).toNat)
  case atStart => exact ⟨0, by omega, rfl, M4⟩
  case round =>
    clear M4
    obtain ⟨k, hk, rfl, HM⟩ := hrel
    by_cases hlt : k < oo.tr.length
    · obtain ⟨tb, t0, rfl, g1⟩ := (HM.out.xo.tr).here (by omega)
      obtain ⟨ev, hev⟩ : ∃ ev, oo.tr[k]? = some ev := ⟨_, List.getElem?_eq_getElem hlt⟩
      obtain ⟨na, nc, q1, i1⟩ := g1 k ev hev
      obtain ⟨zb, zo, rfl, g2⟩ := (HA.out.below (W := W) HM.out.bel).here (by omega)
      have hza : zs[k]? = some ev.ans := by
        have h1 := congrArg (fun l => l[k]?) AI.out.ans
        simp only [List.getElem?_map, hev, Option.map_some] at h1
        rw [List.getElem?_take_of_lt hlt] at h1
        exact h1.symm
      have ZA := Lib.hid (fun w (b : Below wr.heap.size wr w) => (b.cell (p := ⟨zb, zo + k, none⟩) (lt_of_cell (g2 k _ hza))).trans (g2 k _ hza))
      have QX := Lib.hid q1
      have MY := Lib.hid (fun W => r_may ev na nc W (by have := i1.le; have := i1.fit; omega))
      rw [AI.out.may ev (List.mem_of_getElem? hev)] at MY
      clear g1 g2 hza q1 i1
      have HEV := Lib.hid hev
      clear hev
      go_wp2_with fail
      refine wp_region_inv (fun _ => 100000) (fun w => Below wr.heap.size wr w) (TabV [fun v => v = .pointer (some ⟨w2.heap.size, 3, none⟩), fun v => v = .slice (some ⟨tb, t0, none⟩) oo.tr.length tc, fun v => v = .int .i64 k, fun v => v = .pointer (some ⟨tb, t0 + k * 3, none⟩), fun v => v = .pointer (some ⟨tb, t0 + k * 3 + 2, none⟩), fun v => v = .int .u64 ev.ans, fun v => v = .slice (some ⟨zb, zo, none⟩) al ac, fun v => v = .int .i64 k, fun v => v = .pointer (some ⟨zb, zo + k, none⟩), fun v => v = .int .u64 ev.ans, fun v => v = .bool false, fun v => v = .bool false, fun v => v = .pointer (some ⟨w2.heap.size, 3, none⟩), fun v => v = .slice (some ⟨tb, t0, none⟩) oo.tr.length tc, fun v => v = .int .i64 k, fun v => v = .pointer (some ⟨tb, t0 + k * 3, none⟩), fun v => v = .agg #[.int .i64 ev.num, .slice na ev.args.length nc, .int .u64 ev.ans], fun v => v = .bool true, fun v => v = .bool false, fun v => v = .bool false]) (by kernel_rfl) (back_of (by kernel_rfl)) (dst_of (by kernel_rfl)) (dep_of (by kernel_rfl)) (in_of (by kernel_rfl)) (Below.drew (Below.refl _ _)) ?hop ?hq
      case hop =>
        intro i o a w ho hS hdf hsz hrest hdone
        have t2 : a.tmps.getD 2 undef = .slice (some ⟨zb, zo, none⟩) al ac := hrest 2 (not_of (by kernel_rfl))
        have t13 : a.tmps.getD 13 undef = .pointer (some ⟨w2.heap.size, 0, none⟩) := hrest 13 (not_of (by kernel_rfl))
        have t18 : a.tmps.getD 18 undef = .int .i64 k := hrest 18 (not_of (by kernel_rfl))
        have hs : a.tmps.size = 187 := hsz.trans rfl
        have hi : i < 20 := (Array.getElem?_eq_some_iff.1 ho).1
        clear hrest hsz hdf
        obtain rfl | rfl | rfl | rfl | rfl | rfl | rfl | rfl | rfl | rfl | rfl | rfl | rfl | rfl | rfl | rfl | rfl | rfl | rfl | rfl : i = 0 ∨ i = 1 ∨ i = 2 ∨ i = 3 ∨ i = 4 ∨ i = 5 ∨ i = 6 ∨ i = 7 ∨ i = 8 ∨ i = 9 ∨ i = 10 ∨ i = 11 ∨ i = 12 ∨ i = 13 ∨ i = 14 ∨ i = 15 ∨ i = 16 ∨ i = 17 ∨ i = 18 ∨ i = 19 := by omega
        · obtain rfl := Option.some.inj (show some _ = some o from ho)
          refine wpOp_val (v := .pointer (some ⟨w2.heap.size, 3, none⟩)) (w' := w) rfl rfl ?_ ⟨_, rfl, ?_, hS, fun _ _ _ h => h⟩
          · simp [execOp, Act.eval, t13, go_sem]
          · rw [own_put rfl (by rw [hs]; omega)]; exact rfl
        · obtain rfl := Option.some.inj (show some _ = some o from ho)
          have s98 : a.tmps.getD 98 undef = .pointer (some ⟨w2.heap.size, 3, none⟩) := hdone _ (Array.mem_of_getElem? (i := 0) rfl) rfl _ rfl
          refine wpOp_val (v := .slice (some ⟨tb, t0, none⟩) oo.tr.length tc) (w' := w) rfl rfl ?_ ⟨_, rfl, ?_, hS, fun _ _ _ h => h⟩
          · (have hc := (HM.out.below hS).x.c3; simp [execOp, Act.eval, s98, hc, go_sem])
          · rw [own_put rfl (by rw [hs]; omega)]; exact rfl
        · obtain rfl := Option.some.inj (show some _ = some o from ho)
          refine wpOp_val (v := .int .i64 k) (w' := w) rfl rfl ?_ ⟨_, rfl, ?_, hS, fun _ _ _ h => h⟩
          · simp [execOp, Act.eval, t18]
          · rw [own_put rfl (by rw [hs]; omega)]; exact rfl
        · obtain rfl := Option.some.inj (show some _ = some o from ho)
          have s99 : a.tmps.getD 99 undef = .slice (some ⟨tb, t0, none⟩) oo.tr.length tc := hdone _ (Array.mem_of_getElem? (i := 0) rfl) rfl _ rfl
          have s100 : a.tmps.getD 100 undef = .int .i64 k := hdone _ (Array.mem_of_getElem? (i := 1) rfl) rfl _ rfl
          refine wpOp_val (v := .pointer (some ⟨tb, t0 + k * 3, none⟩)) (w' := w) rfl rfl ?_ ⟨_, rfl, ?_, hS, fun _ _ _ h => h⟩
          · (simp [execOp, Act.eval, s99, s100, go_sem]; try exact fun h => absurd h (by omega))
          · rw [own_put rfl (by rw [hs]; omega)]; exact rfl
        · obtain rfl := Option.some.inj (show some _ = some o from ho)
          have s101 : a.tmps.getD 101 undef = .pointer (some ⟨tb, t0 + k * 3, none⟩) := hdone _ (Array.mem_of_getElem? (i := 0) rfl) rfl _ rfl
          refine wpOp_val (v := .pointer (some ⟨tb, t0 + k * 3 + 2, none⟩)) (w' := w) rfl rfl ?_ ⟨_, rfl, ?_, hS, fun _ _ _ h => h⟩
          · simp [execOp, Act.eval, s101, go_sem]
          · rw [own_put rfl (by rw [hs]; omega)]; exact rfl
        · obtain rfl := Option.some.inj (show some _ = some o from ho)
          have s102 : a.tmps.getD 102 undef = .pointer (some ⟨tb, t0 + k * 3 + 2, none⟩) := hdone _ (Array.mem_of_getElem? (i := 0) rfl) rfl _ rfl
          refine wpOp_val (v := .int .u64 ev.ans) (w' := w) rfl rfl ?_ ⟨_, rfl, ?_, hS, fun _ _ _ h => h⟩
          · (have hc := (ev_cells (Trc.rangeAt_below hS QX.out)).2.2; simp [execOp, Act.eval, s102, hc, go_sem])
          · rw [own_put rfl (by rw [hs]; omega)]; exact rfl
        · obtain rfl := Option.some.inj (show some _ = some o from ho)
          refine wpOp_val (v := .slice (some ⟨zb, zo, none⟩) al ac) (w' := w) rfl rfl ?_ ⟨_, rfl, ?_, hS, fun _ _ _ h => h⟩
          · simp [execOp, Act.eval, t2]
          · rw [own_put rfl (by rw [hs]; omega)]; exact rfl
        · obtain rfl := Option.some.inj (show some _ = some o from ho)
          refine wpOp_val (v := .int .i64 k) (w' := w) rfl rfl ?_ ⟨_, rfl, ?_, hS, fun _ _ _ h => h⟩
          · simp [execOp, Act.eval, t18]
          · rw [own_put rfl (by rw [hs]; omega)]; exact rfl
        · obtain rfl := Option.some.inj (show some _ = some o from ho)
          have s104 : a.tmps.getD 104 undef = .slice (some ⟨zb, zo, none⟩) al ac := hdone _ (Array.mem_of_getElem? (i := 0) rfl) rfl _ rfl
          have s105 : a.tmps.getD 105 undef = .int .i64 k := hdone _ (Array.mem_of_getElem? (i := 1) rfl) rfl _ rfl
          refine wpOp_val (v := .pointer (some ⟨zb, zo + k, none⟩)) (w' := w) rfl rfl ?_ ⟨_, rfl, ?_, hS, fun _ _ _ h => h⟩
          · (simp [execOp, Act.eval, s104, s105, go_sem]; try exact fun h => absurd h (by omega))
          · rw [own_put rfl (by rw [hs]; omega)]; exact rfl
        · obtain rfl := Option.some.inj (show some _ = some o from ho)
          have s106 : a.tmps.getD 106 undef = .pointer (some ⟨zb, zo + k, none⟩) := hdone _ (Array.mem_of_getElem? (i := 0) rfl) rfl _ rfl
          refine wpOp_val (v := .int .u64 ev.ans) (w' := w) rfl rfl ?_ ⟨_, rfl, ?_, hS, fun _ _ _ h => h⟩
          · (have hc := (ZA.out _ hS); simp [execOp, Act.eval, s106, hc, go_sem])
          · rw [own_put rfl (by rw [hs]; omega)]; exact rfl
        · obtain rfl := Option.some.inj (show some _ = some o from ho)
          have s103 : a.tmps.getD 103 undef = .int .u64 ev.ans := hdone _ (Array.mem_of_getElem? (i := 0) rfl) rfl _ rfl
          have s107 : a.tmps.getD 107 undef = .int .u64 ev.ans := hdone _ (Array.mem_of_getElem? (i := 1) rfl) rfl _ rfl
          refine wpOp_val (v := .bool false) (w' := w) rfl rfl ?_ ⟨_, rfl, ?_, hS, fun _ _ _ h => h⟩
          · simp [execOp, Act.eval, s103, s107, go_sem]
          · rw [own_put rfl (by rw [hs]; omega)]; exact rfl
        · obtain rfl := Option.some.inj (show some _ = some o from ho)
          have s108 : a.tmps.getD 108 undef = .bool false := hdone _ (Array.mem_of_getElem? (i := 0) rfl) rfl _ rfl
          refine wpOp_val (v := .bool false) (w' := w) rfl rfl ?_ ⟨_, rfl, ?_, hS, fun _ _ _ h => h⟩
          · simp [execOp, Act.eval, s108]
          · rw [own_put rfl (by rw [hs]; omega)]; exact rfl
        · obtain rfl := Option.some.inj (show some _ = some o from ho)
          have hg : a.tmps.getD 109 undef = .bool false := hdone _ (Array.mem_of_getElem? (i := 0) rfl) rfl _ rfl
          refine wpOp_valw (v := .pointer (some ⟨w2.heap.size, 3, none⟩)) (w' := w) rfl (wanted_yes 11 109 false hg (by rw [hs]; omega) rfl rfl rfl rfl) ?_ ⟨_, rfl, ?_, hS, fun _ _ _ h => h⟩
          · simp [execOp, Act.eval, t13, go_sem]
          · rw [own_put rfl (by rw [hs]; omega)]; exact rfl
        · obtain rfl := Option.some.inj (show some _ = some o from ho)
          have hg : a.tmps.getD 109 undef = .bool false := hdone _ (Array.mem_of_getElem? (i := 1) rfl) rfl _ rfl
          have s110 : a.tmps.getD 110 undef = .pointer (some ⟨w2.heap.size, 3, none⟩) := hdone _ (Array.mem_of_getElem? (i := 0) rfl) rfl _ rfl
          refine wpOp_valw (v := .slice (some ⟨tb, t0, none⟩) oo.tr.length tc) (w' := w) rfl (wanted_yes 11 109 false hg (by rw [hs]; omega) rfl rfl rfl rfl) ?_ ⟨_, rfl, ?_, hS, fun _ _ _ h => h⟩
          · (have hc := (HM.out.below hS).x.c3; simp [execOp, Act.eval, s110, hc, go_sem])
          · rw [own_put rfl (by rw [hs]; omega)]; exact rfl
        · obtain rfl := Option.some.inj (show some _ = some o from ho)
          have hg : a.tmps.getD 109 undef = .bool false := hdone _ (Array.mem_of_getElem? (i := 0) rfl) rfl _ rfl
          refine wpOp_valw (v := .int .i64 k) (w' := w) rfl (wanted_yes 11 109 false hg (by rw [hs]; omega) rfl rfl rfl rfl) ?_ ⟨_, rfl, ?_, hS, fun _ _ _ h => h⟩
          · simp [execOp, Act.eval, t18]
          · rw [own_put rfl (by rw [hs]; omega)]; exact rfl
        · obtain rfl := Option.some.inj (show some _ = some o from ho)
          have hg : a.tmps.getD 109 undef = .bool false := hdone _ (Array.mem_of_getElem? (i := 2) rfl) rfl _ rfl
          have s111 : a.tmps.getD 111 undef = .slice (some ⟨tb, t0, none⟩) oo.tr.length tc := hdone _ (Array.mem_of_getElem? (i := 0) rfl) rfl _ rfl
          have s112 : a.tmps.getD 112 undef = .int .i64 k := hdone _ (Array.mem_of_getElem? (i := 1) rfl) rfl _ rfl
          refine wpOp_valw (v := .pointer (some ⟨tb, t0 + k * 3, none⟩)) (w' := w) rfl (wanted_yes 11 109 false hg (by rw [hs]; omega) rfl rfl rfl rfl) ?_ ⟨_, rfl, ?_, hS, fun _ _ _ h => h⟩
          · (simp [execOp, Act.eval, s111, s112, go_sem]; try exact fun h => absurd h (by omega))
          · rw [own_put rfl (by rw [hs]; omega)]; exact rfl
        · obtain rfl := Option.some.inj (show some _ = some o from ho)
          have hg : a.tmps.getD 109 undef = .bool false := hdone _ (Array.mem_of_getElem? (i := 1) rfl) rfl _ rfl
          have s113 : a.tmps.getD 113 undef = .pointer (some ⟨tb, t0 + k * 3, none⟩) := hdone _ (Array.mem_of_getElem? (i := 0) rfl) rfl _ rfl
          refine wpOp_valw (v := .agg #[.int .i64 ev.num, .slice na ev.args.length nc, .int .u64 ev.ans]) (w' := w) rfl (wanted_yes 11 109 false hg (by rw [hs]; omega) rfl rfl rfl rfl) ?_ ⟨_, rfl, ?_, hS, fun _ _ _ h => h⟩
          · simp [execOp, Act.eval, s113, Instr.loadAt, Instr.sureAddr, load_ev ev na nc (Trc.rangeAt_below hS QX.out), Result.andThen_ok]
          · rw [own_put rfl (by rw [hs]; omega)]; exact rfl
        · obtain rfl := Option.some.inj (show some _ = some o from ho)
          have hg : a.tmps.getD 109 undef = .bool false := hdone _ (Array.mem_of_getElem? (i := 1) rfl) rfl _ rfl
          have s114 : a.tmps.getD 114 undef = .agg #[.int .i64 ev.num, .slice na ev.args.length nc, .int .u64 ev.ans] := hdone _ (Array.mem_of_getElem? (i := 0) rfl) rfl _ rfl
          refine wpOp_callw (f := 11) (args := #[.agg #[.int .i64 ev.num, .slice na ev.args.length nc, .int .u64 ev.ans]]) rfl (wanted_yes 11 109 false hg (by rw [hs]; omega) rfl rfl rfl rfl) ?_ ?_
          · simp [go_sem, execOp, Act.eval, Deferred.ofValue, callFunc, Try.func11, Try.f11, s114, resolve, invoke]
          · refine (MY.out w).mono ?_
            rintro e w' ⟨rfl, b9⟩
            refine ⟨_, rfl, _, rfl, ?_, hS.trans (b9.mono hS.size), fun _ _ _ h => h⟩
            rw [own_put rfl (by rw [hs]; omega)]; exact rfl
        · obtain rfl := Option.some.inj (show some _ = some o from ho)
          have hg : a.tmps.getD 109 undef = .bool false := hdone _ (Array.mem_of_getElem? (i := 1) rfl) rfl _ rfl
          have s115 : a.tmps.getD 115 undef = .bool true := hdone _ (Array.mem_of_getElem? (i := 0) rfl) rfl _ rfl
          refine wpOp_valw (v := .bool false) (w' := w) rfl (wanted_yes 11 109 false hg (by rw [hs]; omega) rfl rfl rfl rfl) ?_ ⟨_, rfl, ?_, hS, fun _ _ _ h => h⟩
          · simp [execOp, Act.eval, s115, go_sem]
          · rw [own_put rfl (by rw [hs]; omega)]; exact rfl
        · obtain rfl := Option.some.inj (show some _ = some o from ho)
          have s109 : a.tmps.getD 109 undef = .bool false := hdone _ (Array.mem_of_getElem? (i := 0) rfl) rfl _ rfl
          have s116 : a.tmps.getD 116 undef = .bool false := hdone _ (Array.mem_of_getElem? (i := 1) rfl) rfl _ rfl
          refine wpOp_val (v := .bool false) (w' := w) rfl rfl ?_ ⟨_, rfl, ?_, hS, fun _ _ _ h => h⟩
          · simp [execOp, Act.eval, s109, s116, go_sem]
          · rw [own_put rfl (by rw [hs]; omega)]; exact rfl
      case hq =>
        intro u9 w' hS hR9
        have f117 : u9 117 = .bool false := hR9 19 _ rfl
        clear hR9
        rw [show outs _ u9 = [(98, u9 98), (99, u9 99), (100, u9 100), (101, u9 101), (102, u9 102), (103, u9 103), (104, u9 104), (105, u9 105), (106, u9 106), (107, u9 107), (108, u9 108), (109, u9 109), (110, u9 110), (111, u9 111), (112, u9 112), (113, u9 113), (114, u9 114), (115, u9 115), (116, u9 116), (117, u9 117)] by kernel_rfl, f117]
        simp only [putAll, List.setIfInBounds_toArray, List.set_cons_zero, List.set_cons_succ]
        generalize u9 98 = x98
        generalize u9 99 = x99
        generalize u9 100 = x100
        generalize u9 101 = x101
        generalize u9 102 = x102
        generalize u9 103 = x103
        generalize u9 104 = x104
        generalize u9 105 = x105
        generalize u9 106 = x106
        generalize u9 107 = x107
        generalize u9 108 = x108
        generalize u9 109 = x109
        generalize u9 110 = x110
        generalize u9 111 = x111
        generalize u9 112 = x112
        generalize u9 113 = x113
        generalize u9 114 = x114
        generalize u9 115 = x115
        generalize u9 116 = x116
        clear f117 u9
        have M2 := Lib.hid (HM.out.below hS); clear hS HM
        go_wp2_with fail
        go_roundw
        case rel => exact ⟨k + 1, by omega, by go_num, M2⟩
        case measure => simp [intOf]; omega
    · obtain rfl : k = oo.tr.length := by omega
      obtain ⟨x0, x1, x2, x3, x4⟩ := HM.out.x.all
      obtain ⟨y0, y1, y2, y3, y4⟩ := HM.out.y.all
      clear hlt
      by_cases hk0 : oo.kind = 0
      · have e1 : (oo.kind == 0) = true := by simpa using hk0
        have e2 : (oo.left == 0) = true := by simpa using AI.out.out hk0
        have e3 : decide (o2.left ≤ M) = true := decide_eq_true (EE.out.2.1 hk0)
        go_wp2_with fail
        refine (wakes_any _).mono ?_
        rintro e w5 ⟨rfl, b5⟩
        go_wp2_with fail
        go_ret
        exact ⟨rfl, below_call HM.out.bel b5⟩
      have e1 : (oo.kind == 0) = false := by simpa using hk0
      have hE := EE.out.2.2 hk0
      have hlf : o2.left = oo.left + M := by rw [hE]
      have hlk : likeB oo o2 = true := by
        rw [hE]
        unfold likeB endB
        simp
      have LK := Lib.hid (fun w (k : Below wr.heap.size wr w) => r_like oo o2 oa ta oa2 ta2 ob tc ob2 tc2 w ((HM.out.below k).xo) ((HM.out.below k).yo))
      rw [hlk] at LK
      have hwl : wrap64 (oo.left + M) = oo.left + M := IntWalk.wrap64_in _ (by have := AI.out.left; omega)
      have e4 : (o2.left != oo.left + M) = false := by rw [hlf]; simp
      clear hE hlk hlf
      unfold outV at *
      go_wp2_with fail
      refine (LK.out _ (Below.refl _ _)).mono ?_
      rintro e w5 ⟨rfl, b5⟩
      have M5 := Lib.hid (HM.out.below b5)
      clear b5 LK HM x0 x1 x2 x3 x4 y0 y1 y2 y3 y4 wr
      obtain ⟨x0, x1, x2, x3, x4⟩ := M5.out.x.all
      obtain ⟨y0, y1, y2, y3, y4⟩ := M5.out.y.all
      by_cases hk2 : oo.kind = 2
      · have e5 : (oo.kind == 2) = true := by simpa using hk2
        have e6 : ((oo.tr.length : Int) != (al : Int)) = false := by have := AI.out.refu hk2; simp [this]
        go_wp2_with fail
        refine (wakes_any _).mono ?_
        rintro e w6 ⟨rfl, b6⟩
        go_wp2_with fail
        go_ret
        exact ⟨rfl, below_call M5.out.bel b6⟩
      have e5 : (oo.kind == 2) = false := by simpa using hk2
      have hac := HA.out.le
      have hacf := HA.out.fit
      have hus2 : oo.tr.length ≤ ac := by omega
      go_wp2_with (with_reducible refine (halt_appendM _ _ 26 rfl ?_))
      refine ⟨?_, trivial⟩
      refine append_words rfl _ _ rfl w5.heap.size (.slice none 0 0) [] (zs.take oo.tr.length) rfl (World.ownsRow_nil _ _ _ _) aa oo.tr.length ac rfl ((HA.out.below M5.out.bel).take hus) (Nat.le_refl _) (by simp; omega) ?_
      intro v1 w6 o6 t6
      rw [List.nil_append] at o6
      have b6 : Below w5.heap.size w5 w6 := t6.below
      have M6 := Lib.hid (M5.out.below b6)
      have O6 := Lib.hid o6
      have B6 := Lib.hid b6
      have hl6 : (zs.take oo.tr.length).length = oo.tr.length := by rw [List.length_take, ← HA.out.size]; omega
      have HL6 := Lib.hid hl6
      clear o6 t6 b6 x0 x1 x2 x3 x4 y0 y1 y2 y3 y4 hl6
      go_wp2_with (with_reducible refine (halt_appendM _ _ 26 rfl ?_))
      refine ⟨?_, trivial⟩
      refine append_words rfl _ _ rfl w5.heap.size v1 (zs.take oo.tr.length) ys rfl O6.out ba bl bc rfl (HB.out.below M6.out.bel) B6.out.size (by rw [HL6.out]; omega) ?_
      intro v2 w7 o7 t7
      have b7 : Below w5.heap.size w5 w7 := by
        have hg : ∀ j, v1.ownBlock = some j → w5.heap.size ≤ j := fun j hj => (World.ownsRow.lt O6.out j hj).1
        exact B6.out.trans ⟨t7.os, t7.tape, t7.output, t7.size, fun k hk => t7.block k (by have := B6.out.size; omega) (fun hm => by
          have := hg k (by simpa using hm)
          omega)⟩
      obtain ⟨oa3, oc3, e3, hO⟩ := own_wordsM o7
      obtain ⟨n3, hn5⟩ : ∃ n3, (zs.take oo.tr.length ++ ys).length = n3 := ⟨_, rfl⟩
      rw [hn5] at e3 hO
      subst e3
      have M7 := Lib.hid (M5.out.below b7)
      obtain ⟨x0, x1, x2, x3, x4⟩ := M7.out.x.all
      have p0 := M7.out.p0
      have p1 := M7.out.p1
      have lp := lt_of_cell p0
      have hn3 : (zs.take oo.tr.length ++ ys).length ≤ 800 := by rw [List.length_append, HL6.out, ← HB.out.size]; omega
      have hn4 : oo.tr.length ≤ (zs.take oo.tr.length ++ ys).length := by rw [List.length_append, HL6.out]; omega
      have hu3 : ∀ z ∈ zs.take oo.tr.length ++ ys, 0 ≤ z ∧ z < 18446744073709551616 := fun z hm => by
        rcases List.mem_append.1 hm with h | h
        · exact HZ.out z (List.mem_of_mem_take h)
        · exact HY.out z h
      rw [hn5] at hn3 hn4
      have huf := AI.out.usedF
      obtain ⟨t3, ht3⟩ : ∃ t3 : Nat, min (n3 : Int) fuel = (t3 : Int) := ⟨(min (n3 : Int) fuel).toNat, by omega⟩
      have htk3 : (zs.take oo.tr.length ++ ys).take t3 = zs.take oo.tr.length ++ ys.take (t3 - oo.tr.length) := by
        rw [List.take_append, HL6.out, List.take_take, Nat.min_eq_right (by omega)]
      have R3 := Lib.hid (RUN3.out w7 M7.out.bel oa3 n3 oc3 t3 _ hu3 ht3 hn3 hO)
      rw [htk3] at R3
      clear RUN3 B6 O6 M6 o7 t7 b7 hO hu3 htk3 ht3 hn5 HL6
      go_wp2_with fail
      refine R3.out.mono ?_
      rintro e w8 ⟨o3, oa4, ob4, ta4, tc4, F3, RR3, EN3, rfl, OC, b8⟩
      obtain rfl := EO2.out _ o3 hk0 hk2 EN3
      have M8 := Lib.hid (M7.out.below b8)
      obtain ⟨x0, x1, x2, x3, x4⟩ := M8.out.x.all
      have lx := lt_of_cell x0
      have SM := Lib.hid (fun w (h : Below w8.heap.size w8 w) => r_same o3 o3 oa ta oa4 ta4 ob tc ob4 tc4 w ((M8.out.xo).below h) (OC.below h))
      rw [sameB_selfM] at SM
      clear R3 F3 RR3 EN3 M7 b8 OC EO2 EE AI p0 p1 lp
      unfold outV at *
      go_wp2_with fail
      refine (SM.out _ (below_new (Below.refl _ _) _)).mono ?_
      rintro e w9 ⟨rfl, b9⟩
      have B9 := Lib.hid (below_call (below_new M8.out.bel _) b9)
      clear b9 SM M8 x0 x1 x2 x3 x4 lx
      go_wp2_with fail
      refine (wakes_any _).mono ?_
      rintro e w10 ⟨rfl, b10⟩
      go_wp2_with fail
      go_ret
      exact ⟨rfl, below_call B9.out b10⟩

section
variable (c : Int) (pa : Option Addr) (plen pcap : Nat) (x : Nat → In) (ca : Option Addr) (cl cc : Nat) (aa : Option Addr) (al ac : Nat) (ba : Option Addr) (bl bc : Nat) (fuel more : Int) (W : World)
theorem more_bad (r : Int) (hr : ¬ r = 0) (h1 : plen ≤ 100) (h2 : cl ≤ 400) (h3 : al ≤ 400) (h4 : ¬ (2000 < fuel ∧ fuel ≤ 10000)) (h5 : bl ≤ 400)
    (ST : ∀ w, Below W.heap.size W w → Calls Try.prog 18 #[.agg #[.int .i64 c, .slice pa plen pcap], .slice ca cl cc, .slice aa al ac, .int .i64 fuel] w fun e w' => e = .returned (.tuple #[.pointer none, .int .i64 r]) ∧ Below w.heap.size w w') :
    Calls Try.prog 3 #[.agg #[.int .i64 c, .slice pa plen pcap], .slice ca cl cc, .slice aa al ac, .slice ba bl bc, .int .i64 fuel, .int .i64 more] W fun e w' => e = .returned (.bool true) ∧ Below W.heap.size W w' := by
  have GR := Lib.hid (fun W => great_no c pa plen pcap ca cl cc aa al ac fuel W h1 h2 h3 h4)
  have RB := Lib.hid (fun w (h : Below W.heap.size W w) => run_bad r hr c pa plen pcap ca cl cc aa al ac fuel w (fun w2 b => ST w2 (h.trans (b.mono h.size))))
  have e0 : (r != 0) = true := by simpa using hr
  have hbl : decide (400 < (bl : Int)) = false := decide_eq_false (by omega)
  clear h1 h2 h3 h4 ST hr h5
  go_enter Try.func3, Try.ntmps3
  go_wp2_with fail
  refine (GR.out _).mono ?_
  rintro e w1 ⟨rfl, b1⟩
  have c0 := (b1.cell (p := ⟨W.heap.size, 0, none⟩) (by simp)).trans (show _ = some (Value.int .i64 c) by simp)
  have c1 := (b1.cell (p := ⟨W.heap.size, 1, none⟩) (by simp)).trans (show _ = some (Value.slice pa plen pcap) by simp)
  have B1 := Lib.hid (below_call (below_new (Below.refl _ W) _) b1)
  clear b1
  go_wp2_with fail
  refine (RB.out _ B1.out).mono ?_
  rintro e w2 ⟨rfl, b2⟩
  have B2 := Lib.hid (below_call B1.out b2)
  clear b2 B1 c0 c1
  unfold outV
  go_wp2_with fail
  refine (wakes_any _).mono ?_
  rintro e w3 ⟨rfl, b3⟩
  go_wp2_with fail
  go_ret
  exact ⟨rfl, below_call (below_new B2.out _) b3⟩
theorem more_great (h : ¬ (plen ≤ 100 ∧ cl ≤ 400 ∧ al ≤ 400 ∧ ¬ (2000 < fuel ∧ fuel ≤ 10000))) :
    Calls Try.prog 3 #[.agg #[.int .i64 c, .slice pa plen pcap], .slice ca cl cc, .slice aa al ac, .slice ba bl bc, .int .i64 fuel, .int .i64 more] W fun e w' => e = .returned (.bool true) ∧ Below W.heap.size W w' := by
  have GR := Lib.hid (fun W => great_yes c pa plen pcap ca cl cc aa al ac fuel W h)
  clear h
  go_enter Try.func3, Try.ntmps3
  go_wp2_with fail
  refine (GR.out _).mono ?_
  rintro e w1 ⟨rfl, b1⟩
  have B1 := Lib.hid (below_call (below_new (Below.refl _ W) _) b1)
  clear b1
  go_wp2_with fail
  refine (wakes_any _).mono ?_
  rintro e w3 ⟨rfl, b3⟩
  go_wp2_with fail
  go_ret
  exact ⟨rfl, below_call B1.out b3⟩
theorem more_far (h1 : plen ≤ 100) (h2 : cl ≤ 400) (h3 : al ≤ 400) (h4 : ¬ (2000 < fuel ∧ fuel ≤ 10000)) (h5 : ¬ bl ≤ 400) :
    Calls Try.prog 3 #[.agg #[.int .i64 c, .slice pa plen pcap], .slice ca cl cc, .slice aa al ac, .slice ba bl bc, .int .i64 fuel, .int .i64 more] W fun e w' => e = .returned (.bool true) ∧ Below W.heap.size W w' := by
  have GR := Lib.hid (fun W => great_no c pa plen pcap ca cl cc aa al ac fuel W h1 h2 h3 h4)
  have hbl : decide (400 < (bl : Int)) = true := decide_eq_true (by omega)
  clear h1 h2 h3 h4 h5
  go_enter Try.func3, Try.ntmps3
  go_wp2_with fail
  refine (GR.out _).mono ?_
  rintro e w1 ⟨rfl, b1⟩
  have B1 := Lib.hid (below_call (below_new (Below.refl _ W) _) b1)
  clear b1
  go_wp2_with fail
  refine (wakes_any _).mono ?_
  rintro e w3 ⟨rfl, b3⟩
  go_wp2_with fail
  go_ret
  exact ⟨rfl, below_call B1.out b3⟩
end
theorem more_law (c : Int) (pa : Option Addr) (plen pcap : Nat) (x : Nat → In) (ca : Option Addr) (cl cc : Nat) (cz : List Int) (aa : Option Addr) (al ac : Nat) (az : List Int) (ba : Option Addr) (bl bc : Nat) (bz : List Int) (fuel more : Int) (W : World) (_ : (Lit.int .i64 c).wf = true) (hI : Insts W pa plen pcap x) (rc : IsRow .u8 W ca cl cc cz)
    (hz : ∀ z ∈ az, 0 ≤ z ∧ z < 18446744073709551616) (hA : WordsAt W aa al ac az) (hy : ∀ z ∈ bz, 0 ≤ z ∧ z < 18446744073709551616) (hB : WordsAt W ba bl bc bz) (_ : (Lit.int .i64 fuel).wf = true) (_ : (Lit.int .i64 more).wf = true) :
    Calls Try.prog 3 #[.agg #[.int .i64 c, .slice pa plen pcap], .slice ca cl cc, .slice aa al ac, .slice ba bl bc, .int .i64 fuel, .int .i64 more] W fun e w' => e = .returned (.bool true) ∧ Below W.heap.size W w' := by
  by_cases hg : plen ≤ 100 ∧ cl ≤ 400 ∧ al ≤ 400 ∧ ¬ (2000 < fuel ∧ fuel ≤ 10000)
  case neg => exact more_great c pa plen pcap ca cl cc aa al ac ba bl bc fuel more W hg
  obtain ⟨g1, g2, g3, g4⟩ := hg
  by_cases g5 : bl ≤ 400
  case neg => exact more_far c pa plen pcap ca cl cc aa al ac ba bl bc fuel more W g1 g2 g3 g4 g5
  by_cases hchk : (checkI c plen x).2 = 0
  case neg => exact more_bad c pa plen pcap ca cl cc aa al ac ba bl bc fuel more W _ hchk g1 g2 g3 g4 g5 (fun w h => start_chk c pa plen pcap x ca cl cc aa al ac fuel w (hI.below h) hchk)
  by_cases ha : (cl : Int) = c ∧ 0 ≤ fuel ∧ fuel ≤ 10000
  case neg => exact more_bad c pa plen pcap ca cl cc aa al ac ba bl bc fuel more W 2 (by decide) g1 g2 g3 g4 g5 (fun w h => start_arg c pa plen pcap x ca cl cc aa al ac fuel w (hI.below h) hchk ha)
  obtain ⟨h1, _, _⟩ := ends_facts hchk
  obtain ⟨b, o, rfl, _⟩ := hI.here (by omega)
  exact more_ok c b o plen pcap x ca cl cc _ aa al ac az ba bl bc bz fuel more W hI (src_row rc) hA hB hz hy hchk ha.1 ha.2.1 ha.2.2 g3 g4 g5
end Go.Proofs.Ythhgcbegcbhaeaa.Mdl
