/-
  The walk of the law MemBack.
-/
import Derived.Test.YtocjmckjepjfeaaMemK
import Derived.Deep.DeepCutAuto
namespace Go.Proofs.Ytocjmckjepjfeaa
open Go.RowKit
set_option linter.unusedVariables false

theorem retB {a b : Bool} (h : a = b) : Ending.returned (.bool a) = .returned (.bool b) := by rw [h]
/-- Are the inputs too great? -/
def greatB (cl kl ll : Nat) : Bool := decide (400 < (cl : Int)) || (decide (400 < (kl : Int)) && decide ((kl : Int) ≤ 16384)) || decide (40000 < (kl : Int)) || decide (200 < (ll : Int))
set_option maxHeartbeats 1000000 in
theorem great_any (ca : Option Addr) (cl cc : Nat) (ka : Option Addr) (kl kc : Nat) (la : Option Addr) (ll lc : Nat) (W : World) :
    Calls Try.prog 8 #[.slice ca cl cc, .slice ka kl kc, .slice la ll lc] W fun e w' => e = .returned (.bool (greatB cl kl ll)) ∧ W = w' := by
  go_enter Try.func8, Try.ntmps8
  go_wp2
  all_goals
    go_ret
    refine ⟨retB ?_, rfl⟩
    unfold greatB
    rw [Bool.eq_iff_iff]
    simp
    try omega
/-- What is known in a round. -/
structure BackSt (W : World) (kf : Nat → Int) (b b' X : Nat) (S So : MemS) (d t n v : Int) (w : World) : Prop where
  below : Below W.heap.size W w
  mem : Mem S kf w b
  old : Mem So kf w b'
  act : XAt w X d t n v
theorem BackSt.next {W : World} {kf : Nat → Int} {b b' X : Nat} {S So : MemS} {d t n v : Int} {w w' : World} (h : BackSt W kf b b' X S So d t n v w) (k : Below w.heap.size w w') : BackSt W kf b b' X S So d t n v w' :=
  ⟨below_call h.below k, h.mem.below k, h.old.below k, h.act.below k⟩
/-- What is known between two rounds. -/
def BackRel (W : World) (kf : Nat → Int) (kl cl b : Nat) (w : World) : Prop := Below W.heap.size W w ∧ ∃ S, Mem S kf w b ∧ S.cn = kl ∧ S.n = cl ∧ S.hs = true
theorem World.rangeAt_below {W w : World} {B o : Nat} {cs : List Value} (hb : Below W.heap.size W w) (h : W.rangeAt B o cs) : w.rangeAt B o cs := fun j v hv =>
  (hb.cell (p := ⟨B, o + j, none⟩) (lt_of_cell (h j v hv))).trans (h j v hv)
theorem info_act : (Try.prog.info? 35).map (·.size) = some 4 := by kernel_rfl

set_option maxRecDepth 100000 in
set_option maxHeartbeats 12000000 in
theorem back_main (ca : Option Addr) (cl cc : Nat) (cf : Nat → Int) (ka : Option Addr) (kl kc : Nat) (kf : Nat → Int) (la : Option Addr) (ll lc : Nat) (d t n v : Nat → Int) (W : World) (hc : Src W ca cl cc cf) (hk : Src W ka kl kc kf) (hl : Acts W la ll lc d t n v) (h1 : cl ≤ 256) (h2 : kl ≤ 400) (h3 : ll ≤ 100) :
    Calls Try.prog 5 #[.slice ca cl cc, .slice ka kl kc, .slice la ll lc] W fun e w' => e = .returned (.bool true) ∧ Below W.heap.size W w' := by
  have k1 : (cl : Int) ≤ 256 := by omega
  have k2 : (kl : Int) ≤ 400 := by omega
  have k3 : (ll : Int) ≤ 100 := by omega
  have G := fun W => great_any ca cl cc ka kl kc la ll lc W
  rw [show greatB cl kl ll = false by unfold greatB; simp; omega] at G
  have HG := Lib.hid G; clear G
  have HN := Lib.hid (new_any ca cl cc cf ka kl kc kf true W hc hk h1 (by omega))
  have HKB := Lib.hid hk.bytes
  have HK := Lib.hid hk
  have HL := Lib.hid hl
  clear hc hk hl
  go_enter Try.func5, Try.ntmps5
  go_wp2_with fail
  refine (HG.out _).mono ?_
  rintro e w' ⟨rfl, rfl⟩
  go_wp2_with fail
  refine HN.out.mono ?_
  rintro e w1 ⟨b, cb, rfl, hb, hcb, b1, hN, hC⟩
  have R1 := Lib.hid (show BackRel W kf kl cl b w1 from ⟨b1, newMem cb kl cl true cf, ⟨hN, hC, HKB.out⟩, rfl, rfl, rfl⟩)
  clear hN hC b1 hcb HN HG
  go_wp2_with fail
  go_loopw [9] (fun i wr => ∃ k : Nat, k ≤ ll ∧ i = .int .i64 k ∧ Hid (BackRel W kf kl cl b wr)) (fun i _ => ll - (intOf i).toNat)
  case atStart => exact ⟨0, by omega, rfl, R1⟩
  case round =>
    obtain ⟨k, hk, rfl, hR⟩ := hrel
    by_cases hlt : k < ll
    · obtain ⟨B, o, rfl, hcells⟩ := HL.out.here (by omega)
      obtain ⟨hB0, S, hM0, hcn, hn, hhs⟩ := hR.out
      have HC := Lib.hid (World.rangeAt_below hB0 (hcells k hlt))
      have HI := Lib.hid (show (Try.prog.info? 35).map (·.size) = some [Value.int .i64 (d k), .int .u64 (t k), .int .i64 (n k), .int .u64 (v k)].length from info_act)
      obtain ⟨hd, ⟨ht0, ht1⟩, ⟨hn0, hn1⟩, hv0, hv1⟩ := HL.out.nums k hlt
      have HB := Lib.hid hB0; have HM := Lib.hid hM0; have HH := Lib.hid (And.intro hcn (And.intro hn hhs))
      clear hcells hB0 hM0 hcn hn hhs hd
      generalize d k = dk at *
      generalize t k = tk at *
      generalize n k = nk at *
      generalize v k = vk at *
      cases hm : szB nk
      · have n4 : (nk != 1) = true ∧ (nk != 2) = true ∧ (nk != 4) = true ∧ (nk != 8) = true := by
          simpa [szB, and_assoc] using hm
        obtain ⟨n1, n2, n4, n8⟩ := n4
        clear hm
        as_aux_lemma =>
          go_wp2_with (refine wpList_load_mid rfl 35 _ rfl B (o + k * 4) rfl [.int .i64 dk, .int .u64 tk, .int .i64 nk, .int .u64 vk] _ HC.out Try.underlying35 rfl HI.out ?_)
          go_roundw
          case rel =>
            obtain ⟨h1, h2, h3⟩ := HH.out
            exact ⟨k + 1, by omega, by go_num, below_new HB.out _, S, HM.out.below (below_new (Below.refl _ _) _), h1, h2, h3⟩
          case measure => simp [intOf]; omega
      obtain ⟨m, rfl⟩ : ∃ m : Nat, nk = m := by
        have : (nk = 1 ∨ nk = 2) ∨ nk = 4 ∨ nk = 8 := by simpa [szB, or_assoc] using hm
        exact ⟨nk.toNat, by omega⟩
      have m8 := szB_le hm
      have m1 : (1 : Int) ≤ m := by omega
      have m2 : (m : Int) ≤ 8 := by omega
      have HM8 := Lib.hid m8
      have HSZ := Lib.hid hm
      clear m8 hm hn0 hn1
      go_upto_region 10 with (refine wpList_load_mid rfl 35 _ rfl B (o + k * 4) rfl [.int .i64 dk, .int .u64 tk, .int .i64 m, .int .u64 vk] _ HC.out Try.underlying35 rfl HI.out ?_)
      have M1 := Lib.hid (HM.out.below (below_new (Below.refl _ wr) (.cells #[.int .i64 dk, .int .u64 tk, .int .i64 m, .int .u64 vk] 35)))
      have B1 := Lib.hid (below_new HB.out (.cells #[.int .i64 dk, .int .u64 tk, .int .i64 m, .int .u64 vk] 35))
      go_cut [89] (fun s wx => s = .bool false ∧ wx = wr.alloc (.cells #[.int .i64 dk, .int .u64 tk, .int .i64 m, .int .u64 vk] 35))
      case first =>
        as_aux_lemma =>
          rcases HM8.out with rfl | rfl | rfl | rfl
          all_goals
            go_wp2
            go_meet
            exact ⟨rfl, rfl⟩
      case rest =>
        obtain ⟨rfl, rfl⟩ := hcut
        have X1 := Lib.hid (show XAt (wr.alloc (.cells #[.int .i64 dk, .int .u64 tk, .int .i64 m, .int .u64 vk] 35)) wr.heap.size dk tk m vk from ⟨by simp, by simp, by simp, by simp⟩)
        have XL : wr.heap.size < (wr.alloc (.cells #[.int .i64 dk, .int .u64 tk, .int .i64 m, .int .u64 vk] 35)).heap.size := by simp
        have bX : b ≠ wr.heap.size := by have := HM.out.at_.row.lt; omega
        generalize wr.heap.size = X at *
        generalize wr.alloc (.cells #[.int .i64 dk, .int .u64 tk, .int .i64 m, .int .u64 vk] 35) = v1 at *
        clear HC HI
        obtain ⟨x0, x1, x2, x3⟩ := X1.out
        have te0 : 0 ≤ (tk + ((m : Int) - 1)) % 18446744073709551616 ∧ (tk + ((m : Int) - 1)) % 18446744073709551616 < 18446744073709551616 := by omega
        have F1 := Lib.hid (fun W => region_of kl cl true tk W ht0 ht1 (by omega) h1)
        have F2 := Lib.hid (fun W => region_of kl cl true ((tk + ((m : Int) - 1)) % 18446744073709551616) W te0.1 te0.2 (by omega) h1)
        have LE := Lib.hid (loc_ends kl cl true tk m HSZ.out ht0 ht1 (by omega) h1)
        have WR := Lib.hid (IntKind.wrap_u64 (tk + ((m : Int) - 1)))
        go_wp2_with fail
        refine (F1.out _).mono ?_
        rintro e w2 ⟨rfl, b2⟩
        have X2 := Lib.hid (X1.out.below b2)
        have M2 := Lib.hid (M1.out.below b2)
        have B2 := Lib.hid (below_call B1.out b2)
        clear x0 x1 x2 x3 b2
        obtain ⟨x0, x1, x2, x3⟩ := X2.out
        go_wp2_with fail
        rw [WR.out]
        refine (F2.out _).mono ?_
        rintro e w3 ⟨rfl, b3⟩
        have X3 := Lib.hid (X2.out.below b3)
        have M3 := Lib.hid (M2.out.below b3)
        have B3 := Lib.hid (below_call B2.out b3)
        clear x0 x1 x2 x3 b3 F1 F2 te0 WR
        generalize locI kl cl true ((tk + ((m : Int) - 1)) % 18446744073709551616) 1 = le at *
        generalize hl1 : locI kl cl true tk 1 = lf at *
        go_upto_region 13 with fail
        go_cut [13] (fun s wx => s = .bool (decide (0 < lf ∧ lf = le)) ∧ w3 = wx)
        case first =>
          as_aux_lemma =>
            by_cases p : 0 < lf
            · by_cases q : lf = le
              · subst q
                have p' : (0 : Int) < lf := by omega
                go_wp2
                go_meet
                exact ⟨by rw [decide_eq_true ⟨p, rfl⟩], rfl⟩
              · have p' : (0 : Int) < lf := by omega
                have q' : ((lf : Int) == le) = false := by simp; omega
                go_wp2
                go_meet
                exact ⟨by rw [decide_eq_false (fun h => q h.2)], rfl⟩
            · obtain rfl : lf = 0 := by omega
              go_wp2
              go_meet
              exact ⟨by rw [decide_eq_false (fun h => absurd h.1 (by omega))], rfl⟩
        case rest =>
          obtain ⟨rfl, rfl⟩ := hcut
          by_cases p : ¬ (0 < lf ∧ lf = le)
          · as_aux_lemma =>
              have hwt : decide (0 < lf ∧ lf = le) = false := decide_eq_false p
              have HLm := Lib.hid (show locI S.cn S.n S.hs tk m = 0 by rw [HH.out.1, HH.out.2.1, HH.out.2.2, LE.out, if_neg p])
              rw [hwt]
              clear hwt p
              go_wp2_with fail
              refine (copy_any S b _ M3.out.at_ M3.out.code.lt).mono ?_
              rintro e w4 ⟨b', rfl, hb', b4, hN4⟩
              have M4 := Lib.hid (M3.out.below b4)
              have bb : b < b' := by have := M3.out.at_.row.lt; omega
              have T4 := Lib.hid (show BackSt W kf b b' X S S dk tk m vk w4 from ⟨below_call B3.out b4, M4.out, ⟨hN4, M4.out.code, M4.out.kb⟩, X3.out.below b4⟩)
              clear b4 hN4 hb'
              obtain ⟨x0, x1, x2, x3⟩ := T4.out.act
              go_wp2_with fail
              refine (write_no S b tk vk m _ M4.out.at_ HSZ.out ht0 ht1 (by rw [HLm.out]; omega)).mono ?_
              rintro e w5 ⟨rfl, b5⟩
              have T5 := Lib.hid (T4.out.next b5)
              clear b5
              clear x0 x1 x2 x3
              obtain ⟨x0, x1, x2, x3⟩ := T5.out.act
              go_wp2_with fail
              clear x0 x1 x2 x3
              go_loopw [16] (fun i wr => ∃ j : Int, -9 ≤ j ∧ j ≤ m + 9 ∧ i = .int .i64 j ∧ Hid (BackSt W kf b b' X S S dk tk m vk wr)) (fun i _ => ((m : Int) + 9 - intOf i).toNat)
              case atStart => exact ⟨-9, by omega, by omega, rfl, T5⟩
              case round =>
                obtain ⟨j, j0, j1, rfl, hT⟩ := hrel
                obtain ⟨x0, x1, x2, x3⟩ := hT.out.act
                by_cases hj : j < m + 9
                · obtain ⟨A, hA, hA0, hA1, hA2⟩ : ∃ A, IntKind.u64.wrap (tk + IntKind.u64.wrap j) = A ∧ 0 ≤ A ∧ A < 18446744073709551616 ∧ Hid (A = (tk + j) % 18446744073709551616) := ⟨_, rfl, by rw [IntKind.wrap_u64]; omega, by rw [IntKind.wrap_u64]; omega, by rw [IntKind.wrap_u64, IntKind.wrap_u64]; show _ = _; omega⟩
                  have hA3 : IntKind.u64.wrap (tk + j) = A := by rw [IntKind.wrap_u64]; exact hA2.out.symm
                  have V1 := Lib.hid (fun W h => read_any S kf b A 1 W h rfl hA0 hA1)
                  have V2 := Lib.hid (fun W h => read_any S kf b' A 1 W h rfl hA0 hA1)
                  go_wp2_with fail
                  refine (V1.out _ hT.out.mem).mono ?_
                  rintro e w6 ⟨rfl, b6⟩
                  have T6 := Lib.hid (hT.out.next b6)
                  clear x0 x1 x2 x3 b6
                  obtain ⟨x0, x1, x2, x3⟩ := T6.out.act
                  go_wp2_with fail
                  refine (V2.out _ T6.out.old).mono ?_
                  rintro e w7 ⟨rfl, b7⟩
                  have T7 := Lib.hid (T6.out.next b7)
                  clear x0 x1 x2 x3 b7
                  obtain ⟨x0, x1, x2, x3⟩ := T7.out.act
                  go_wp2_with fail
                  all_goals
                    go_roundw
                    case rel => exact ⟨j + 1, by omega, by omega, rfl, T7⟩
                    case measure => simp [intOf]; omega
                · obtain rfl : j = m + 9 := by omega
                  have U := fun W h => read_any S kf b tk m W h HSZ.out ht0 ht1
                  rw [show readE S tk m = 20 from if_pos HLm.out] at U
                  have HU := Lib.hid U; clear U
                  go_wp2_with fail
                  refine (HU.out _ hT.out.mem).mono ?_
                  rintro e w8 ⟨rfl, b8⟩
                  have T8 := Lib.hid (hT.out.next b8)
                  clear x0 x1 x2 x3 b8
                  obtain ⟨x0, x1, x2, x3⟩ := T8.out.act
                  go_wp2_with fail
                  clear x0 x1 x2 x3
                  go_loopw [24, 25] (fun s i wr => s = .int .u64 0 ∧ i = .int .i64 ((m : Int) - 1) ∧ Hid (BackSt W kf b b' X S S dk tk m vk wr)) (fun _ i _ => (intOf i).toNat)
                  case atStart => exact ⟨rfl, rfl, T8⟩
                  case round =>
                    obtain ⟨rfl, rfl, TX⟩ := hrel
                    obtain ⟨x0, x1, x2, x3⟩ := TX.out.act
                    go_wp2_with fail
                    refine (fetch_code S kf b kl _ TX.out.mem (HH.out.1)).mono ?_
                    rintro e w9 ⟨p9, l9, fe, rfl, hfe, b9, cv9⟩
                    have T9 := Lib.hid (TX.out.next b9)
                    have cvk := conv_src (HK.out.below T9.out.below)
                    clear b9
                    generalize strOf kf kl = XS at *
                    clear x0 x1 x2 x3
                    go_wp2_with fail
                    go_roundw
                    case rel =>
                      obtain ⟨h1, h2, h3⟩ := HH.out
                      exact ⟨k + 1, by omega, by go_num, T9.out.below, S, T9.out.mem, h1, h2, h3⟩
                    case measure => simp [intOf]; omega
          have p : 0 < lf ∧ lf = le := Decidable.not_not.1 p
          by_cases p1 : lf = 1
          · as_aux_lemma =>
              have hwt : decide (0 < lf ∧ lf = le) = true := decide_eq_true p
              obtain rfl : lf = 1 := p1
              have HLm := Lib.hid (show locI S.cn S.n S.hs tk m = 1 by rw [HH.out.1, HH.out.2.1, HH.out.2.2, LE.out, if_pos p])
              rw [hwt]
              clear hwt p
              go_wp2_with fail
              refine (copy_any S b _ M3.out.at_ M3.out.code.lt).mono ?_
              rintro e w4 ⟨b', rfl, hb', b4, hN4⟩
              have M4 := Lib.hid (M3.out.below b4)
              have bb : b < b' := by have := M3.out.at_.row.lt; omega
              have T4 := Lib.hid (show BackSt W kf b b' X S S dk tk m vk w4 from ⟨below_call B3.out b4, M4.out, ⟨hN4, M4.out.code, M4.out.kb⟩, X3.out.below b4⟩)
              clear b4 hN4 hb'
              obtain ⟨x0, x1, x2, x3⟩ := T4.out.act
              go_wp2_with fail
              refine (write_no S b tk vk m _ M4.out.at_ HSZ.out ht0 ht1 (by rw [HLm.out]; omega)).mono ?_
              rintro e w5 ⟨rfl, b5⟩
              have T5 := Lib.hid (T4.out.next b5)
              clear b5
              clear x0 x1 x2 x3
              obtain ⟨x0, x1, x2, x3⟩ := T5.out.act
              go_wp2_with fail
              clear x0 x1 x2 x3
              go_loopw [16] (fun i wr => ∃ j : Int, -9 ≤ j ∧ j ≤ m + 9 ∧ i = .int .i64 j ∧ Hid (BackSt W kf b b' X S S dk tk m vk wr)) (fun i _ => ((m : Int) + 9 - intOf i).toNat)
              case atStart => exact ⟨-9, by omega, by omega, rfl, T5⟩
              case round =>
                obtain ⟨j, j0, j1, rfl, hT⟩ := hrel
                obtain ⟨x0, x1, x2, x3⟩ := hT.out.act
                by_cases hj : j < m + 9
                · obtain ⟨A, hA, hA0, hA1, hA2⟩ : ∃ A, IntKind.u64.wrap (tk + IntKind.u64.wrap j) = A ∧ 0 ≤ A ∧ A < 18446744073709551616 ∧ Hid (A = (tk + j) % 18446744073709551616) := ⟨_, rfl, by rw [IntKind.wrap_u64]; omega, by rw [IntKind.wrap_u64]; omega, by rw [IntKind.wrap_u64, IntKind.wrap_u64]; show _ = _; omega⟩
                  have hA3 : IntKind.u64.wrap (tk + j) = A := by rw [IntKind.wrap_u64]; exact hA2.out.symm
                  have V1 := Lib.hid (fun W h => read_any S kf b A 1 W h rfl hA0 hA1)
                  have V2 := Lib.hid (fun W h => read_any S kf b' A 1 W h rfl hA0 hA1)
                  go_wp2_with fail
                  refine (V1.out _ hT.out.mem).mono ?_
                  rintro e w6 ⟨rfl, b6⟩
                  have T6 := Lib.hid (hT.out.next b6)
                  clear x0 x1 x2 x3 b6
                  obtain ⟨x0, x1, x2, x3⟩ := T6.out.act
                  go_wp2_with fail
                  refine (V2.out _ T6.out.old).mono ?_
                  rintro e w7 ⟨rfl, b7⟩
                  have T7 := Lib.hid (T6.out.next b7)
                  clear x0 x1 x2 x3 b7
                  obtain ⟨x0, x1, x2, x3⟩ := T7.out.act
                  go_wp2_with fail
                  all_goals
                    go_roundw
                    case rel => exact ⟨j + 1, by omega, by omega, rfl, T7⟩
                    case measure => simp [intOf]; omega
                · obtain rfl : j = m + 9 := by omega
                  have hlo : ¬ locI S.cn S.n S.hs tk m = 0 := by show ¬ locI S.cn S.n S.hs tk m = 0; rw [HLm.out]; omega
                  have hbs := fun (i : Nat) (hi : i < m) => byteAt_bd hT.out.mem tk m m1 hlo i (by omega)
                  have U := fun W h => read_any S kf b tk m W h HSZ.out ht0 ht1
                  rw [show readE S tk m = 0 from if_neg hlo] at U
                  have HU := Lib.hid U; clear U
                  have HW0 := Lib.hid (neqF (wantI_0 S kf tk m hlo))
                  have HWm := Lib.hid (wantI_m S kf tk m)
                  have HWs := Lib.hid (fun p hp => wantI_step S kf tk m p hp (by omega) hbs)
                  have HWb := Lib.hid (fun j => wantI_bd S kf tk m j (by omega) hbs)
                  have HBS := Lib.hid hbs
                  have HLO := Lib.hid hlo
                  clear hbs hlo
                  go_wp2_with fail
                  refine (HU.out _ hT.out.mem).mono ?_
                  rintro e w8 ⟨rfl, b8⟩
                  have T8 := Lib.hid (hT.out.next b8)
                  clear x0 x1 x2 x3 b8
                  obtain ⟨x0, x1, x2, x3⟩ := T8.out.act
                  go_wp2_with fail
                  clear x0 x1 x2 x3
                  go_loopw [24, 25] (fun s i wr => ∃ p : Nat, p ≤ m ∧ s = .int .u64 (wantI S kf tk m p) ∧ i = .int .i64 ((p : Int) - 1) ∧ Hid (BackSt W kf b b' X S S dk tk m vk wr)) (fun _ i _ => (intOf i + 1).toNat)
                  case atStart => exact ⟨m, Nat.le_refl _, by rw [HWm.out], rfl, T8⟩
                  case round =>
                    obtain ⟨p, hp, rfl, rfl, TX⟩ := hrel
                    obtain ⟨x0, x1, x2, x3⟩ := TX.out.act
                    by_cases hp0 : p = 0
                    · subst hp0
                      have tst := HW0.out
                      go_wp2_with fail
                      refine (fetch_code S kf b kl _ TX.out.mem (HH.out.1)).mono ?_
                      rintro e w9 ⟨p9, l9, fe, rfl, hfe, b9, cv9⟩
                      have T9 := Lib.hid (TX.out.next b9)
                      have cvk := conv_src (HK.out.below T9.out.below)
                      clear b9
                      generalize strOf kf kl = XS at *
                      clear x0 x1 x2 x3
                      go_wp2_with fail
                      go_roundw
                      case rel =>
                        obtain ⟨h1, h2, h3⟩ := HH.out
                        exact ⟨k + 1, by omega, by go_num, T9.out.below, S, T9.out.mem, h1, h2, h3⟩
                      case measure => simp [intOf]; omega
                    · obtain ⟨q, rfl⟩ : ∃ q, p = q + 1 := ⟨p - 1, by omega⟩
                      have eq1 : ((q + 1 : Nat) : Int) - 1 = q := by omega
                      rw [eq1]
                      clear eq1 hp0
                      have q0 : (0 : Int) ≤ q := by omega
                      have hq : IntKind.u64.wrap (tk + (q : Int)) = tk + q := by
                        have := loc_nowrap (A := (tk + (q : Int)) % 18446744073709551616) (j := q) HLO.out rfl (by omega) (by omega) m1 TX.out.mem.at_.cn TX.out.mem.at_.n
                        rw [IntKind.wrap_u64]; exact this
                      have hq1 : tk + (q : Int) < 18446744073709551616 := by rw [IntKind.wrap_u64] at hq; omega
                      have hqL : ¬ locI S.cn S.n S.hs (tk + q) 1 = 0 := loc_part HLO.out rfl (by omega) (by omega) TX.out.mem.at_.cn TX.out.mem.at_.n
                      have U := fun W h => read_any S kf b (tk + q) 1 W h rfl (by omega) hq1
                      rw [show readE S (tk + q) (1 : Nat) = 0 from if_neg hqL, readV_one _ _ _ hqL] at U
                      have HV := Lib.hid U; clear U hqL
                      have st := HWs.out q (by omega)
                      have q2 : (q : Int) < 9223372036854775807 := by omega
                      go_wp2_with fail
                      refine (HV.out _ TX.out.mem).mono ?_
                      rintro e w9 ⟨rfl, b9⟩
                      have T9 := Lib.hid (TX.out.next b9)
                      clear x0 x1 x2 x3 b9
                      go_wp2_with fail
                      go_roundw
                      case rel => exact ⟨q, by omega, rfl, rfl, T9⟩
                      case measure => (first | (simp [intOf]; done) | (simp [intOf]; omega))
          · as_aux_lemma =>
              have hwt : decide (0 < lf ∧ lf = le) = true := decide_eq_true p
              have hl2 : (1 : Int) < lf := by omega
              have HLm := Lib.hid (show locI S.cn S.n S.hs tk m = lf by rw [HH.out.1, HH.out.2.1, HH.out.2.2, LE.out, if_pos p])
              rw [hwt]
              clear hwt p
              go_wp2_with fail
              refine (copy_any S b _ M3.out.at_ M3.out.code.lt).mono ?_
              rintro e w4 ⟨b', rfl, hb', b4, hN4⟩
              have M4 := Lib.hid (M3.out.below b4)
              have bb : b < b' := by have := M3.out.at_.row.lt; omega
              have T4 := Lib.hid (show BackSt W kf b b' X S S dk tk m vk w4 from ⟨below_call B3.out b4, M4.out, ⟨hN4, M4.out.code, M4.out.kb⟩, X3.out.below b4⟩)
              clear b4 hN4 hb'
              obtain ⟨x0, x1, x2, x3⟩ := T4.out.act
              go_wp2_with fail
              refine (write_yes S b tk vk m _ M4.out.at_ HSZ.out ht0 ht1 (by rw [HLm.out]; omega) hv0 hv1).mono ?_
              rintro e w5 ⟨rfl, hN5, hC5⟩
              have T5 := Lib.hid (show BackSt W kf b b' X (S.putAt tk m vk) S dk tk m vk w5 from ⟨hC5.below T4.out.below hb T4.out.below.size, T4.out.mem.chg hN5 hC5, T4.out.old.other hC5 (by omega) M4.out.at_.far, T4.out.act.chg hC5 (by omega)⟩)
              clear hN5 hC5
              clear x0 x1 x2 x3
              obtain ⟨x0, x1, x2, x3⟩ := T5.out.act
              go_wp2_with fail
              clear x0 x1 x2 x3
              go_loopw [16] (fun i wr => ∃ j : Int, -9 ≤ j ∧ j ≤ m + 9 ∧ i = .int .i64 j ∧ Hid (BackSt W kf b b' X (S.putAt tk m vk) S dk tk m vk wr)) (fun i _ => ((m : Int) + 9 - intOf i).toNat)
              case atStart => exact ⟨-9, by omega, by omega, rfl, T5⟩
              case round =>
                obtain ⟨j, j0, j1, rfl, hT⟩ := hrel
                obtain ⟨x0, x1, x2, x3⟩ := hT.out.act
                by_cases hj : j < m + 9
                · obtain ⟨A, hA, hA0, hA1, hA2⟩ : ∃ A, IntKind.u64.wrap (tk + IntKind.u64.wrap j) = A ∧ 0 ≤ A ∧ A < 18446744073709551616 ∧ Hid (A = (tk + j) % 18446744073709551616) := ⟨_, rfl, by rw [IntKind.wrap_u64]; omega, by rw [IntKind.wrap_u64]; omega, by rw [IntKind.wrap_u64, IntKind.wrap_u64]; show _ = _; omega⟩
                  have hA3 : IntKind.u64.wrap (tk + j) = A := by rw [IntKind.wrap_u64]; exact hA2.out.symm
                  have c0 := HLm.out
                  by_cases hin : 0 ≤ j ∧ j < m
                  · obtain ⟨jn, rfl⟩ := Int.eq_ofNat_of_zero_le hin.1
                    have f0 := hin.1
                    have f1 := hin.2
                    have hAt : A = tk + jn := loc_nowrap (by rw [c0]; omega) hA2.out (by omega) (by omega) m1 hT.out.old.at_.cn hT.out.old.at_.n
                    have hloc : ¬ locI S.cn S.n S.hs A 1 = 0 := loc_part (by rw [c0]; omega) hAt hin.1 hin.2 hT.out.old.at_.cn hT.out.old.at_.n
                    have U1 := fun W h => read_any (S.putAt tk m vk) kf b A 1 W h rfl hA0 hA1
                    have U2 := fun W h => read_any S kf b' A 1 W h rfl hA0 hA1
                    rw [show readE (S.putAt tk m vk) A (1 : Nat) = 0 from if_neg hloc, readV_one (S.putAt tk m vk) kf A hloc, byteAt_put S kf tk A vk m m1 (by rw [c0]; omega) hloc hT.out.old.at_.n hT.out.old.at_.cn, if_pos ⟨by omega, by omega⟩, show (A - tk).toNat = jn by omega, byte_and vk jn hv0 hv1] at U1
                    rw [show readE S A (1 : Nat) = 0 from if_neg hloc, readV_one _ _ _ hloc] at U2
                    have V1 := Lib.hid U1; have V2 := Lib.hid U2
                    have e1 : min (8 * jn) 64 = 8 * jn := by omega
                    clear hA2
                    clear U1 U2 hloc hAt c0 hin
                    go_wp2_with fail
                    refine (V1.out _ hT.out.mem).mono ?_
                    rintro e w6 ⟨rfl, b6⟩
                    have T6 := Lib.hid (hT.out.next b6)
                    clear x0 x1 x2 x3 b6
                    obtain ⟨x0, x1, x2, x3⟩ := T6.out.act
                    go_wp2_with fail
                    refine (V2.out _ T6.out.old).mono ?_
                    rintro e w7 ⟨rfl, b7⟩
                    have T7 := Lib.hid (T6.out.next b7)
                    clear x0 x1 x2 x3 b7
                    obtain ⟨x0, x1, x2, x3⟩ := T7.out.act
                    go_wp2_with fail
                    all_goals
                      go_roundw
                      case rel => exact ⟨(jn : Int) + 1, by omega, by omega, rfl, T7⟩
                      case measure => simp [intOf]; omega
                  · have hAt : A = tk + j := loc_nowrap (by rw [c0]; omega) hA2.out (by omega) (by omega) m1 hT.out.old.at_.cn hT.out.old.at_.n
                    have V1 := Lib.hid (fun W h => read_any (S.putAt tk m vk) kf b A 1 W h rfl hA0 hA1)
                    have hv : readV (S.putAt tk m vk) kf A 1 = readV S kf A 1 := by
                      by_cases hz : locI S.cn S.n S.hs A 1 = 0
                      · exact (if_pos hz).trans (if_pos hz).symm
                      · rw [readV_one (S.putAt tk m vk) kf A hz, readV_one S kf A hz, byteAt_put S kf tk A vk m m1 (by rw [c0]; omega) hz hT.out.old.at_.n hT.out.old.at_.cn, if_neg (by omega)]
                    have U2 := fun W h => read_any S kf b' A 1 W h rfl hA0 hA1
                    rw [← hv] at U2
                    have V2 := Lib.hid (show ∀ W, Mem S kf W b' → Calls Try.prog 14 #[.pointer (some ⟨b', 0, none⟩), .int .u64 A, .int .i64 (1 : Nat)] W fun e w' => e = .returned (.tuple #[.int .u64 (readV (S.putAt tk m vk) kf A 1), .int .i64 (readE (S.putAt tk m vk) A (1 : Nat))]) ∧ Below W.heap.size W w' from U2)
                    clear U2 hv hAt c0
                    have hout : j < 0 ∨ (m : Int) ≤ j := by omega
                    clear hin
                    rcases hout with f0 | f0
                    all_goals
                      go_wp2_with fail
                      refine (V1.out _ hT.out.mem).mono ?_
                      rintro e w6 ⟨rfl, b6⟩
                      have T6 := Lib.hid (hT.out.next b6)
                      clear x0 x1 x2 x3 b6
                      obtain ⟨x0, x1, x2, x3⟩ := T6.out.act
                      go_wp2_with fail
                      refine (V2.out _ T6.out.old).mono ?_
                      rintro e w7 ⟨rfl, b7⟩
                      have T7 := Lib.hid (T6.out.next b7)
                      clear x0 x1 x2 x3 b7
                      obtain ⟨x0, x1, x2, x3⟩ := T7.out.act
                      go_wp2_with fail
                      all_goals
                        go_roundw
                        case rel => exact ⟨j + 1, by omega, by omega, rfl, T7⟩
                        case measure => simp [intOf]; omega
                · obtain rfl : j = m + 9 := by omega
                  have hlo : ¬ locI (S.putAt tk m vk).cn (S.putAt tk m vk).n (S.putAt tk m vk).hs tk m = 0 := by show ¬ locI S.cn S.n S.hs tk m = 0; rw [HLm.out]; omega
                  have hbs := fun (i : Nat) (hi : i < m) => byteAt_bd hT.out.mem tk m m1 hlo i (by omega)
                  have U := fun W h => read_any (S.putAt tk m vk) kf b tk m W h HSZ.out ht0 ht1
                  rw [show readE (S.putAt tk m vk) tk m = 0 from if_neg hlo] at U
                  have HU := Lib.hid U; clear U
                  have HW0 := Lib.hid (neqF (wantI_0 (S.putAt tk m vk) kf tk m hlo))
                  have HWm := Lib.hid (wantI_m (S.putAt tk m vk) kf tk m)
                  have HWs := Lib.hid (fun p hp => wantI_step (S.putAt tk m vk) kf tk m p hp (by omega) hbs)
                  have HWb := Lib.hid (fun j => wantI_bd (S.putAt tk m vk) kf tk m j (by omega) hbs)
                  have HBS := Lib.hid hbs
                  have HLO := Lib.hid hlo
                  clear hbs hlo
                  go_wp2_with fail
                  refine (HU.out _ hT.out.mem).mono ?_
                  rintro e w8 ⟨rfl, b8⟩
                  have T8 := Lib.hid (hT.out.next b8)
                  clear x0 x1 x2 x3 b8
                  obtain ⟨x0, x1, x2, x3⟩ := T8.out.act
                  go_wp2_with fail
                  clear x0 x1 x2 x3
                  go_loopw [24, 25] (fun s i wr => ∃ p : Nat, p ≤ m ∧ s = .int .u64 (wantI (S.putAt tk m vk) kf tk m p) ∧ i = .int .i64 ((p : Int) - 1) ∧ Hid (BackSt W kf b b' X (S.putAt tk m vk) S dk tk m vk wr)) (fun _ i _ => (intOf i + 1).toNat)
                  case atStart => exact ⟨m, Nat.le_refl _, by rw [HWm.out], rfl, T8⟩
                  case round =>
                    obtain ⟨p, hp, rfl, rfl, TX⟩ := hrel
                    obtain ⟨x0, x1, x2, x3⟩ := TX.out.act
                    by_cases hp0 : p = 0
                    · subst hp0
                      have tst := HW0.out
                      go_wp2_with fail
                      refine (fetch_code (S.putAt tk m vk) kf b kl _ TX.out.mem (HH.out.1)).mono ?_
                      rintro e w9 ⟨p9, l9, fe, rfl, hfe, b9, cv9⟩
                      have T9 := Lib.hid (TX.out.next b9)
                      have cvk := conv_src (HK.out.below T9.out.below)
                      clear b9
                      generalize strOf kf kl = XS at *
                      clear x0 x1 x2 x3
                      go_wp2_with fail
                      go_roundw
                      case rel =>
                        obtain ⟨h1, h2, h3⟩ := HH.out
                        exact ⟨k + 1, by omega, by go_num, T9.out.below, (S.putAt tk m vk), T9.out.mem, h1, h2, h3⟩
                      case measure => simp [intOf]; omega
                    · obtain ⟨q, rfl⟩ : ∃ q, p = q + 1 := ⟨p - 1, by omega⟩
                      have eq1 : ((q + 1 : Nat) : Int) - 1 = q := by omega
                      rw [eq1]
                      clear eq1 hp0
                      have q0 : (0 : Int) ≤ q := by omega
                      have hq : IntKind.u64.wrap (tk + (q : Int)) = tk + q := by
                        have := loc_nowrap (A := (tk + (q : Int)) % 18446744073709551616) (j := q) HLO.out rfl (by omega) (by omega) m1 TX.out.mem.at_.cn TX.out.mem.at_.n
                        rw [IntKind.wrap_u64]; exact this
                      have hq1 : tk + (q : Int) < 18446744073709551616 := by rw [IntKind.wrap_u64] at hq; omega
                      have hqL : ¬ locI (S.putAt tk m vk).cn (S.putAt tk m vk).n (S.putAt tk m vk).hs (tk + q) 1 = 0 := loc_part HLO.out rfl (by omega) (by omega) TX.out.mem.at_.cn TX.out.mem.at_.n
                      have U := fun W h => read_any (S.putAt tk m vk) kf b (tk + q) 1 W h rfl (by omega) hq1
                      rw [show readE (S.putAt tk m vk) (tk + q) (1 : Nat) = 0 from if_neg hqL, readV_one _ _ _ hqL] at U
                      have HV := Lib.hid U; clear U hqL
                      have st := HWs.out q (by omega)
                      have q2 : (q : Int) < 9223372036854775807 := by omega
                      go_wp2_with fail
                      refine (HV.out _ TX.out.mem).mono ?_
                      rintro e w9 ⟨rfl, b9⟩
                      have T9 := Lib.hid (TX.out.next b9)
                      clear x0 x1 x2 x3 b9
                      go_wp2_with fail
                      go_roundw
                      case rel => exact ⟨q, by omega, rfl, rfl, T9⟩
                      case measure => (first | (simp [intOf]; done) | (simp [intOf]; omega))
    · obtain rfl : k = ll := by omega
      go_wp2_with fail
      refine (wakes_any _).mono ?_
      rintro e w9 ⟨rfl, b9⟩
      go_wp2
      go_ret
      exact ⟨rfl, below_call hR.out.1 b9⟩

theorem great_t {ca : Option Addr} {cl cc : Nat} {ka : Option Addr} {kl kc : Nat} {la : Option Addr} {ll lc : Nat} {g : Bool} (h : greatB cl kl ll = g) (W : World) :
    Calls Try.prog 8 #[.slice ca cl cc, .slice ka kl kc, .slice la ll lc] W fun e w' => e = .returned (.bool g) ∧ W = w' := by
  have := great_any ca cl cc ka kl kc la ll lc W
  rw [h] at this
  exact this
set_option maxRecDepth 100000 in
set_option maxHeartbeats 2000000 in
theorem back_long (ca : Option Addr) (cl cc : Nat) (ka : Option Addr) (kl kc : Nat) (la : Option Addr) (ll lc : Nat) (W : World) (h : 256 < cl ∨ 400 < kl ∨ 100 < ll) :
    Calls Try.prog 5 #[.slice ca cl cc, .slice ka kl kc, .slice la ll lc] W fun e w' => e = .returned (.bool true) ∧ Below W.heap.size W w' := by
  cases g : greatB cl kl ll
  · have G := Lib.hid g
    by_cases h1 : 256 < cl
    · have k1 : (256 : Int) < cl := by omega
      clear h g h1
      go_enter Try.func5, Try.ntmps5
      go_wp2_with fail
      refine (great_t G.out _).mono ?_
      rintro e w' ⟨rfl, rfl⟩
      go_wp2_with fail
      refine (wakes_any _).mono ?_
      rintro e w1 ⟨rfl, b1⟩
      go_wp2
      go_ret
      exact ⟨rfl, b1⟩
    by_cases h2 : 400 < kl
    · have k1 : (cl : Int) ≤ 256 := by omega
      have k2 : (400 : Int) < kl := by omega
      clear h g h1 h2
      go_enter Try.func5, Try.ntmps5
      go_wp2_with fail
      refine (great_t G.out _).mono ?_
      rintro e w' ⟨rfl, rfl⟩
      go_wp2_with fail
      refine (wakes_any _).mono ?_
      rintro e w1 ⟨rfl, b1⟩
      go_wp2
      go_ret
      exact ⟨rfl, b1⟩
    · have k1 : (cl : Int) ≤ 256 := by omega
      have k2 : (kl : Int) ≤ 400 := by omega
      have k3 : (100 : Int) < ll := by omega
      clear h g h1 h2
      go_enter Try.func5, Try.ntmps5
      go_wp2_with fail
      refine (great_t G.out _).mono ?_
      rintro e w' ⟨rfl, rfl⟩
      go_wp2_with fail
      refine (wakes_any _).mono ?_
      rintro e w1 ⟨rfl, b1⟩
      go_wp2
      go_ret
      exact ⟨rfl, b1⟩
  · have G := Lib.hid g
    clear h g
    go_enter Try.func5, Try.ntmps5
    go_wp2_with fail
    refine (great_t G.out _).mono ?_
    rintro e w' ⟨rfl, rfl⟩
    go_wp2_with fail
    refine (wakes_any _).mono ?_
    rintro e w1 ⟨rfl, b1⟩
    go_wp2
    go_ret
    exact ⟨rfl, b1⟩
theorem memBack_walk (ca : Option Addr) (cl cc : Nat) (cz : List Int) (ka : Option Addr) (kl kc : Nat) (kz : List Int) (la : Option Addr) (ll lc : Nat) (d t n v : Nat → Int) (W : World) (rc : IsRow .u8 W ca cl cc cz) (rk : IsRow .u8 W ka kl kc kz) (hl : Acts W la ll lc d t n v) :
    Calls Try.prog 5 #[.slice ca cl cc, .slice ka kl kc, .slice la ll lc] W fun e w' => e = .returned (.bool true) ∧ Below W.heap.size W w' := by
  by_cases h : 256 < cl ∨ 400 < kl ∨ 100 < ll
  · exact back_long ca cl cc ka kl kc la ll lc W h
  · exact back_main ca cl cc _ ka kl kc _ la ll lc d t n v W (src_of_isrow rc) (src_of_isrow rk) hl (by omega) (by omega) (by omega)
end Go.Proofs.Ytocjmckjepjfeaa
