/-
  The walk of the law InstrBack.
-/
import Derived.Test.YtbpefomjmjkciaaInsZ
import Derived.Test.YtbpefomjmjkciaaRinH
import Derived.Deep.DeepCutAuto
namespace Go.Proofs.Ytbpefomjmjkciaa.Ins
open Go.RowKit
set_option linter.unusedVariables false
set_option maxRecDepth 100000

set_option maxHeartbeats 16000000 in
theorem instrBack_walk (x : In) (c : Int) (a : Option Addr) (len cap : Nat) (xs : Nat → In) (ab : Option Addr) (lb cb : Nat) (f : Nat → Int) (W : World) (hxo : x.Ok) (hx : Insts W a len cap xs) (hb : Byt W ab lb cb f) :
    Calls Try.prog 4 #[.agg x.cells, .agg #[.int .i64 c, .slice a len cap], .slice ab lb cb] W fun e w' => e = .returned (.bool true) ∧ Below W.heap.size W w' := by
  have hle := hx.le
  have hfit := hx.fit
  have hbl := hb.le
  have hbf := hb.fit
  have HX := Lib.hid hx
  have HB := Lib.hid hb
  clear hx hb hxo
  have GR := Lib.hid (fun w => great_any c a len cap w)
  have WK := Lib.hid (fun w => wakes_any w)
  have K0 := Lib.hid (show Kept2 W x c a len cap ((W.alloc (.cells x.cells 26)).alloc (.cells #[.int .i64 c, .slice a len cap] 32)) from
    ⟨below_new (below_new (Below.refl _ _) _) _, (heap_past _ _ _ (by simp)).trans (heap_last W _ _ rfl), heap_last _ _ _ (by simp)⟩)
  by_cases hg : 100 < len
  · rw [decide_eq_true hg] at GR
    go_enter Try.func4, Try.ntmps4
    go_wp2_with fail
    refine (GR.out _).mono ?_
    rintro e w1 ⟨rfl, b1⟩
    have K1 := Lib.hid (K0.out.step b1)
    clear b1 GR
    go_wp2_with fail
    refine (WK.out _).mono ?_
    rintro e w2 ⟨rfl, b2⟩
    go_wp2_with fail
    go_ret
    exact ⟨rfl, below_call K1.out.below b2⟩
  rw [decide_eq_false hg] at GR
  by_cases hg2 : 900 < lb
  · have g2 : (900 : Int) < (lb : Int) := by omega
    go_enter Try.func4, Try.ntmps4
    go_wp2_with fail
    refine (GR.out _).mono ?_
    rintro e w1 ⟨rfl, b1⟩
    have K1 := Lib.hid (K0.out.step b1)
    clear b1 GR
    go_wp2_with fail
    refine (WK.out _).mono ?_
    rintro e w2 ⟨rfl, b2⟩
    go_wp2_with fail
    go_ret
    exact ⟨rfl, below_call K1.out.below b2⟩
  have g2 : (lb : Int) ≤ 900 := by omega
  go_enter Try.func4, Try.ntmps4
  go_wp2_with fail
  refine (GR.out _).mono ?_
  rintro e w1 ⟨rfl, b1⟩
  have K1 := Lib.hid (K0.out.step b1)
  clear b1 GR K0
  go_wp2_with (with_reducible refine (halt_load 26 _ rfl ?_))
  refine ⟨?_, trivial⟩
  refine wpList_load_row rfl 26 _ rfl W.heap.size rfl _ x.cells _ _ K1.out.bx Try.underlying26 rfl info_ins ?_
  go_wp2_with fail
  refine (bytes_any x _).mono ?_
  rintro e w2 ⟨v, rfl, b2, hv⟩
  have K2 := Lib.hid (K1.out.step b2)
  have HV := Lib.hid hv
  clear b2 hv K1
  go_upto_if 36 with fail
  go_cut [7, 8, 9, 10] (fun p1 p2 p q wx => Hid (Kept2 W x c a len cap wx))
  case first =>
    cases hm : mayI x
    case false =>
      have e0 : (errI false == 0) = false := rfl
      clear hm HV
      go_wp2_with fail
      go_meet
      exact K2
    case true =>
      obtain ⟨z, rfl, r⟩ := HV.out hm
      have RD := Lib.hid (read_8 z 0 8 (byteI (packI x)) w2 (by omega) (by omega) (fun i _ => byteI_bd _ i) (fun i hi => by rw [Nat.zero_add]; exact r.cell hi))
      rw [read_pack hm] at RD
      have EQ : ∀ w, (Op.equalIn 10000 26 (.agg x.cells) (.agg x.cells)).run Try.prog w = .ok true w := fun w => by rw [eq_run x x w, eqI_iff.2 rfl]
      have e0 : (errI true == 0) = true := rfl
      unfold ReadsAs at RD
      clear hm HV r
      go_wp2_with fail
      refine RD.out.mono ?_
      rintro e w3 ⟨rfl, b3⟩
      have K3 := Lib.hid (K2.out.step b3)
      clear b3 RD K2
      go_wp2_with (with_reducible refine (halt_store 26 _ _ rfl ?_))
      refine ⟨?_, trivial⟩
      refine wpList_store_is rfl 26 _ _ rfl w3.heap.size x.cells rfl rfl 26 _ (heap_last w3 _ _ rfl) info_ins rfl (one_cells x) ?_
      intro w4 s4
      have S4 := Lib.hid s4.row
      have K4 := Lib.hid (K3.out.step (s4.below (below_new (Below.refl w3.heap.size w3) _) (Nat.le_refl _)))
      clear s4 K3
      go_wp2_with (with_reducible refine (halt_load 26 _ rfl ?_))
      refine ⟨?_, trivial⟩
      refine wpList_gload_row rfl 26 _ rfl w3.heap.size rfl _ x.cells _ _ S4.out Try.underlying26 rfl info_ins ?_
      go_wp2_with (with_reducible refine (halt_load 26 _ rfl ?_))
      refine ⟨?_, trivial⟩
      refine wpList_gload_row rfl 26 _ rfl W.heap.size rfl _ x.cells _ _ K4.out.bx Try.underlying26 rfl info_ins ?_
      go_wp2_with fail
      go_meet
      exact K4
  case rest =>
    have K3 := hcut
    clear hcut HV K2
    obtain ⟨k0, k1⟩ := K3.out.cells
    go_wp2_with fail
    refine (encode_any c a len cap xs _ (HX.out.below K3.out.below)).mono ?_
    rintro e w3 ⟨v3, rfl, b3, hv⟩
    have K4 := Lib.hid (K3.out.step b3)
    have HV := Lib.hid hv
    clear hv b3 k0 k1 K3
    go_upto_if 60 with fail
    go_cut [7, 8, 11, 12, 13] (fun p1 p2 p q r wx => Hid (Kept2 W x c a len cap wx))
    case first =>
      by_cases hm : (checkI c len xs).2 = 0
      case neg =>
        have e0 : ((checkI c len xs).2 == 0) = false := by simpa using hm
        clear hm HV
        go_wp2_with fail
        go_meet
        exact K4
      case pos =>
        have o3 := HV.out hm
        have cc := check_ctx hm
        obtain ⟨hl1, hl2, hall⟩ := ends_facts hm
        obtain ⟨D1, D2, D3⟩ := dec_enc hm (fun i hi => (hall i hi).1) cc
        obtain ⟨av, cv, rfl, hby⟩ := byt_own o3 (by omega) (encN_bd c xs len)
        have DU := Lib.hid (decode_any av (2 + 8 * len) cv (encF c xs len) w3 hby)
        have SL := Lib.hid (show sameI c c len len (xsI (tailF (encF c xs len))) xs = true from sameI_iff.2 ⟨rfl, rfl, D3⟩)
        have e0 : ((checkI c len xs).2 == 0) = true := by simpa using hm
        have hcv := hby.le
        have hcf := hby.fit
        clear hm HV o3 hall D3 hby
        unfold DecAs DecYes at DU
        rw [D2, show (2 + 8 * len - 2) / 8 = len by omega] at DU
        have DY := Lib.hid D1
        clear D1 D2
        generalize xsI (tailF (encF c xs len)) = ys at *
        generalize decR (2 + 8 * len) (encF c xs len) = dr at *
        generalize (checkI c len xs).2 = cr at *
        go_wp2_with fail
        refine DU.out.mono ?_
        rintro e w4 hd
        obtain ⟨q, cq, rfl, iq, b4⟩ := hd.2 DY.out
        have K5 := Lib.hid (K4.out.step b4)
        have IQ := Lib.hid iq
        have hql := iq.le
        have hqf := iq.fit
        clear hd DU DY iq b4 K4
        obtain ⟨k0, k1⟩ := (K5.out.step (below_new (Below.refl w4.heap.size w4) (.cells #[.int .i64 c, .slice q len cq] 32))).cells
        go_wp2_with fail
        refine (r_same c q len cq ys c a len cap xs _ (IQ.out.below (below_new (Below.refl w4.heap.size w4) _)) (HX.out.below (K5.out.step (below_new (Below.refl w4.heap.size w4) _)).below)).mono ?_
        rw [SL.out]
        rintro e w5 ⟨rfl, b5⟩
        have K6 := Lib.hid ((K5.out.step (below_new (Below.refl w4.heap.size w4) (.cells #[.int .i64 c, .slice q len cq] 32))).step b5)
        obtain ⟨m0, m1⟩ := K6.out.cells
        clear b5 k0 k1 K5 IQ SL
        go_wp2_with fail
        go_meet
        exact K6
    case rest =>
      have K5 := hcut
      clear hcut HV K4
      obtain ⟨y, r, RDf, hr⟩ := read_u ab lb cb f W HB.out
      have HR := Lib.hid hr
      have RD := Lib.hid (RDf wc K5.out.below)
      unfold ReadsAs at RD
      clear hr RDf
      go_wp2_with fail
      refine RD.out.mono ?_
      rintro e w5 ⟨rfl, b5⟩
      have K6 := Lib.hid (K5.out.step b5)
      clear b5 RD K5
      go_wp2_with (with_reducible refine (halt_store 26 _ _ rfl ?_))
      refine ⟨?_, trivial⟩
      refine wpList_store_is rfl 26 _ _ rfl w5.heap.size y.cells rfl rfl 26 _ (heap_last w5 _ _ rfl) info_ins rfl (one_cells y) ?_
      intro w6 s6
      have S6 := Lib.hid s6.row
      have K7 := Lib.hid (K6.out.step (s6.below (below_new (Below.refl w5.heap.size w5) _) (Nat.le_refl _)))
      clear s6 K6
      go_upto_if 95 with fail
      go_cut [16, 17] (fun p q wx => Hid (Kept2 W x c a len cap wx))
      case first =>
        by_cases h0 : r = 0
        case neg =>
          have e0 : (r == 0) = false := by simpa using h0
          clear h0 HR
          go_wp2_with fail
          go_meet
          exact K7
        case pos =>
          obtain ⟨h8, hmy, hby⟩ := HR.out h0
          subst h0 h8
          clear HR
          have BY := Lib.hid (fun w => bytes_yes y w hmy)
          unfold BytesOf at BY
          have BB := Lib.hid hby
          clear hby hmy
          go_wp2_with (with_reducible refine (halt_load 26 _ rfl ?_))
          refine ⟨?_, trivial⟩
          refine wpList_load_row rfl 26 _ rfl w5.heap.size rfl _ y.cells _ _ S6.out Try.underlying26 rfl info_ins ?_
          go_wp2_with fail
          refine (BY.out _).mono ?_
          rintro e w7 ⟨z, rfl, hz, b7, r7⟩
          have K8 := Lib.hid (K7.out.step b7)
          have c1 := conv_row r7 8
          have c2 := conv_byt (HB.out.below K8.out.below) (by omega)
          rw [strOf_eq (g := f) rfl BB.out] at c1
          clear b7 r7 K7 BY BB S6
          generalize strOf f 8 = S at *
          have s1 : (S.toList == S.toList) = true := by simp
          go_wp2_with fail
          go_meet
          exact K8
      case rest =>
        have K8 := hcut
        clear hcut HR S6 K7
        have DU := Lib.hid (decode_u ab lb cb f wc (HB.out.below K8.out.below))
        unfold DecU at DU
        go_wp2_with fail
        refine DU.out.mono ?_
        rintro e w7 ⟨c2, a2, m2, cap2, at2, r2, rfl, b7, hr2⟩
        have HR := Lib.hid hr2
        have K9 := Lib.hid (K8.out.step b7)
        clear DU hr2 b7 K8
        go_upto_if 117 with fail
        have K9' := Lib.hid (K9.out.step (below_new (Below.refl w7.heap.size w7) (.cells #[.int .i64 c2, .slice a2 m2 cap2] 32)))
        go_cut [20, 21] (fun p q wx => Hid (Kept2 W x c a len cap wx))
        case first =>
          by_cases h0 : r2 = 0
          case neg =>
            have e0 : (r2 == 0) = false := by simpa using h0
            clear h0 HR
            go_wp2_with fail
            go_meet
            exact K9'
          case pos =>
            obtain ⟨rfl, rfl, rfl, hi, h1⟩ := HR.out h0
            subst h0
            clear HR
            obtain ⟨hlb, hck, hen⟩ := enc_dec HB.out.bd h1
            have cc := check_ctx hck
            have EY := Lib.hid (fun w b => encode_yes (getI f 2) a2 ((lb - 2) / 8) cap2 (xsI (tailF f)) w (hi.below (w := w) b) hck cc.1 cc.2)
            have ES := Lib.hid (show strOfNums (encN (getI f 2) (xsI (tailF f)) ((lb - 2) / 8)) = strOf f lb by
              rw [hen _ (Nat.le_refl _), ← hlb]; rfl)
            have h2lb : 2 ≤ lb := by omega
            clear h1 hi hlb hck hen cc
            unfold Encoded at EY
            generalize hm2 : (lb - 2) / 8 = m2 at *
            clear hm2
            generalize xsI (tailF f) = ys at *
            generalize getI f 2 = c2 at *
            go_wp2_with fail
            refine (EY.out _ (below_new (Below.refl w7.heap.size w7) _)).mono ?_
            rintro e w8 ⟨v8, rfl, o8, b8⟩
            have K10 := Lib.hid (K9'.out.step b8)
            have c1 := conv_own o8 (by omega)
            have c2' := conv_byt (HB.out.below K10.out.below) (by omega)
            rw [ES.out] at c1
            clear b8 o8 K9 K9' EY ES
            generalize strOf f lb = S at *
            have s1 : (S.toList == S.toList) = true := by simp
            go_wp2_with fail
            go_meet
            exact K10
        case rest =>
          have K10 := hcut
          clear hcut HR K9 K9'
          go_wp2_with fail
          refine (WK.out _).mono ?_
          rintro e w8 ⟨rfl, b8⟩
          go_wp2_with fail
          go_ret
          exact ⟨rfl, below_call K10.out.below b8⟩
theorem instrBack_law (x : In) (c : Int) (a : Option Addr) (len cap : Nat) (xs : Nat → In) (ab : Option Addr) (lb cb : Nat) (zs : List Int) (W : World) (hxo : x.Ok) (_ : (Lit.int .i64 c).wf = true) (hx : Insts W a len cap xs) (hb : IsRow .u8 W ab lb cb zs) :
    Calls Try.prog 4 #[.agg x.cells, .agg #[.int .i64 c, .slice a len cap], .slice ab lb cb] W fun e w' => e = .returned (.bool true) ∧ Below W.heap.size W w' := by
  obtain ⟨f, h⟩ := byt_of hb
  exact instrBack_walk x c a len cap xs ab lb cb f W hxo hx h
end Go.Proofs.Ytbpefomjmjkciaa.Ins
