/-
  Several texts in one: ModelStaysW.
-/
import Derived.Test.YthhgcbegcbhaeaaMBh42
import Derived.Test.YthhgcbegcbhaeaaMBh43
import Derived.Test.YthhgcbegcbhaeaaMSt02
import Derived.Test.YthhgcbegcbhaeaaMSt04
import Derived.ChangeKeysEq
import Derived.LoopIn
set_option linter.unusedVariables false
set_option linter.unusedSimpArgs false
set_option linter.unnecessarySimpa false
namespace Go.Proofs.Ythhgcbegcbhaeaa.Mdl
open Go.RowKit Go.Maps Ins Trc Blk
set_option linter.unusedVariables false
set_option linter.unusedSimpArgs false
set_option maxRecDepth 100000

theorem faProgS (g : Nat) (w : World) : (Instr.fieldAt 24 (.pointer (some ⟨g, 0, none⟩)) 1).run Try.prog w = .ok (.pointer (some ⟨g, 1, none⟩)) w := by simp [go_sem]
theorem load_midS {b o : Nat} (x : In) {w : World} (h : w.rangeAt b o x.cells.toList) : (loadVar 55 ⟨b, o, none⟩).run Try.prog w = .ok (.agg x.cells) w :=
  run_loadVar_mid w b o 55 x.cells.toList _ h Try.underlying55 rfl info_ins
def wasL (pre : List (Int × List Value)) : List Value := (pre.getLast?.map (·.2)).getD snapZ.toList
theorem wasL_succ (E : Env) (D : Pl) (k : Nat) : wasL (snapsE E D (k + 1)) = (its E D k).snap := by
  unfold wasL
  rw [snapsE_succ, List.getLast?_append]
  rfl
/-- ModelStays, while the places are gone over. -/
structure SW (W : World) (c : Int) (b o plen pcap g6 : Nat) (pre : List (Int × List Value)) (w : World) : Prop where
  bel : Below W.heap.size W w
  prog : w.heap[W.heap.size]? = some (.cells #[.int .i64 c, .slice (some ⟨b, o, none⟩) plen pcap] 24 (0, 0))
  res : w.heap[W.heap.size + 1]? = some (.cells #[.bool false] 4 (0, 0))
  was : w.heap[g6]? = some (.cells (wasL pre).toArray 51 (0, 0))
  last : w.heap[g6 + 1]? = some (.cells #[.int .i64 (lastL pre)] 3 (0, 0))
theorem SW.mv {W : World} {c : Int} {b o plen pcap g6 : Nat} {pre : List (Int × List Value)} {w w' : World} (h : SW W c b o plen pcap g6 pre w) (γ : Nat) (hg : W.heap.size + 1 < γ ∧ g6 + 1 < γ) (bel : Below W.heap.size W w')
    (mv : ∀ (g : Nat) (cs : Array Value) (t : TypeId), g < γ → τM t = false → w.heap[g]? = some (.cells cs t (0, 0)) → w'.heap[g]? = some (.cells cs t (0, 0))) : SW W c b o plen pcap g6 pre w' :=
  ⟨bel, mv _ _ _ (by omega) (by decide) h.prog, mv _ _ _ (by omega) (by decide) h.res, mv _ _ _ (by omega) (by decide) h.was, mv _ _ _ (by omega) (by decide) h.last⟩
theorem SW.below {W : World} {c : Int} {b o plen pcap g6 : Nat} {pre : List (Int × List Value)} {w w' : World} (h : SW W c b o plen pcap g6 pre w) (k : Below w.heap.size w w') : SW W c b o plen pcap g6 pre w' :=
  h.mv (W.heap.size + 2 + g6 + 2) (by omega) (h.bel.trans (k.mono h.bel.size)) (fun g cs t _ _ hg => brow k hg)
theorem SW.ab {W : World} {c : Int} {b o plen pcap g6 : Nat} {β γ : Nat} (hg : W.heap.size + 1 < γ ∧ g6 + 1 < γ) (hβ : W.heap.size ≤ β) : AbG τM β γ (SW W c b o plen pcap g6) := fun pre A B h t =>
  h.mv γ hg (TurnG.below h.bel t hβ (by omega) (Nat.le_refl _)) (fun g cs ty h1 h2 h3 => TurnG.row t h3 h1 h2)

set_option maxHeartbeats 16000000 in
theorem stays_ok (c : Int) (b o plen pcap : Nat) (x : Nat → In) (ca : Option Addr) (cl cc : Nat) (cf : Nat → Int) (aa : Option Addr) (al ac : Nat) (zs : List Int) (fuel : Int) (W : World) (hI : Insts W (some ⟨b, o, none⟩) plen pcap x) (hS : Src W ca cl cc cf) (hA : WordsAt W aa al ac zs)
    (hz : ∀ z ∈ zs, 0 ≤ z ∧ z < 18446744073709551616) (hchk : (checkI c plen x).2 = 0) (hlen : (cl : Int) = c) (f0 : 0 ≤ fuel) (f1 : fuel ≤ 10000) (h3 : al ≤ 400) (h4 : ¬ (2000 < fuel ∧ fuel ≤ 10000)) :
    Calls Try.prog 5 #[.agg #[.int .i64 c, .slice (some ⟨b, o, none⟩) plen pcap], .slice ca cl cc, .slice aa al ac, .int .i64 fuel] W fun e w' => e = .returned (.bool true) ∧ Below W.heap.size W w' := by
  have mo : Try.prog.follows .mixedOrders = true := by kernel_rfl
  have hz0 := (zero_of_info zero_snap).1
  have hle := hI.le
  have hfit := hI.fit
  obtain ⟨h1, h64, _⟩ := ends_facts hchk
  have hcc := check_c hchk
  have GR := Lib.hid (fun W => great_no c (some ⟨b, o, none⟩) plen pcap ca cl cc aa al ac fuel W (by omega) (by omega) h3 h4)
  obtain ⟨tk, htk⟩ : ∃ tk : Nat, min (al : Int) fuel = (tk : Int) := ⟨(min (al : Int) fuel).toNat, by omega⟩
  have CHK := Lib.hid (fun w (h : Below W.heap.size W w) => r_check c (some ⟨b, o, none⟩) plen pcap x w (hI.below h))
  rw [hchk] at CHK
  have EAC := Lib.hid (fun w (h : Below W.heap.size W w) => each_ok c b o plen pcap x ca cl cc cf aa al ac tk zs fuel w (hI.below h) (hS.below h) (hA.below h) hchk hlen f0 f1 htk (by omega) hz)
  have HI := Lib.hid (fun w (h : Below W.heap.size W w) => hI.below h)
  have FI := Lib.hid (fun (E : Env) e1 e2 e3 => fine_env hI hchk (E := E) e1 e2 e3)
  have RU := Lib.hid (fun (E : Env) (h : 1 ≤ E.pl) cb => ini_runs E cb cl cf fuel (zs.take tk) h f0 f1)
  have hmf : ∀ (fn : Fn) (first cap : Array Value) (w : World), (Instr.makeFunc fn first cap).run Try.prog w = .ok (.func fn first cap) w := fun _ _ _ _ => rfl
  clear hI hS hA hz hchk hlen h3 h4 htk
  generalize zs.take tk = ys at *
  generalize (checkI c plen x).1 = ck at *
  refine (callsIn_wide (n := 4)).1 (callsIn_of_wp_marks Try.func5 rfl trivial ?_ rfl)
  simp only [Try.ntmps5, List.size_toArray, List.length_cons, List.length_nil, Nat.reduceAdd, Nat.reduceSub, Array.replicate_succ, Array.replicate_zero, List.push_toArray, List.append_toArray, List.nil_append, List.cons_append]
  refine (wpIn_wide (n := 4)).2 ?_
  go_wp2_with fail
  refine (GR.out _).mono ?_
  rintro e w1 ⟨rfl, b1⟩
  have q0 := heap_past (W.alloc (.cells #[.int .i64 c, .slice (some ⟨b, o, none⟩) plen pcap] 24)) (.cells #[.bool false] 4) W.heap.size (by simp)
  have q0 := brow b1 (q0.trans (heap_last W (.cells #[.int .i64 c, .slice (some ⟨b, o, none⟩) plen pcap] 24) _ rfl))
  have q1 := brow b1 (heap_last (W.alloc (.cells #[.int .i64 c, .slice (some ⟨b, o, none⟩) plen pcap] 24)) (.cells #[.bool false] 4) (W.heap.size + 1) (by simp))
  have B1 := Lib.hid (below_call (below_new (below_new (Below.refl _ W) _) _) b1)
  have p0 : w1.cell? ⟨W.heap.size, 0, none⟩ = some (.int .i64 c) := by simp only [World.cell?, q0]; rfl
  have p1 : w1.cell? ⟨W.heap.size, 1, none⟩ = some (.slice (some ⟨b, o, none⟩) plen pcap) := by simp only [World.cell?, q0]; rfl
  have Q0 := Lib.hid q0
  have Q1 := Lib.hid q1
  clear b1 GR q0 q1
  go_wp2_with fail
  refine (CHK.out w1 B1.out).mono ?_
  rintro e w5 ⟨rfl, b2⟩
  have B5 := Lib.hid (below_call B1.out b2)
  have Q0c := Lib.hid (brow b2 Q0.out)
  have Q1c := Lib.hid (brow b2 Q1.out)
  have p0 : w5.cell? ⟨W.heap.size, 0, none⟩ = some (.int .i64 c) := by simp only [World.cell?, Q0c.out]; rfl
  have p1 : w5.cell? ⟨W.heap.size, 1, none⟩ = some (.slice (some ⟨b, o, none⟩) plen pcap) := by simp only [World.cell?, Q0c.out]; rfl
  clear b2 Q0 Q1 B1 CHK
  go_wp2_with fail
  refine (EAC.out w5 B5.out).mono ?_
  rintro e w6 ⟨E, cb, eB, gB, rfl, ex, el, ec, ek, heB, hgB, re, rg, b6, R6⟩
  have Q0d := Lib.hid (brow b6 Q0c.out)
  have Q1d := Lib.hid (brow b6 Q1c.out)
  have B6 := Lib.hid (B5.out.trans (b6.mono B5.out.size))
  have HR6 := Lib.hid R6
  have RE := Lib.hid re
  have RG := Lib.hid rg
  clear b6 Q0c Q1c B5 EAC re rg R6 p0 p1
  unfold eachV
  have hbf := seq_not_nilS eB gB
  have F6 := FI.out E ex el ec
  have RR6 := RU.out E (by omega) cb
  have SEQ := Lib.hid (each_seq E F6 (ini cb cl cf fuel ys) RR6 rfl rfl eB gB 3 (by decide) w6 HR6.out RE.out RG.out)
  have z6 := B6.out.size
  have zl : W.heap.size + 1 < w6.heap.size := (Array.getElem?_eq_some_iff.1 Q1d.out).1
  have a6 := below_new (below_new (Below.refl w6.heap.size w6) (.cells snapZ 51)) (.cells #[.int .i64 (-1)] 3)
  have s1 := (heap_past (w6.alloc (.cells snapZ 51)) (.cells #[.int .i64 (-1)] 3) w6.heap.size (by simp)).trans (heap_last w6 (.cells snapZ 51) _ rfl)
  have s2 := heap_last (w6.alloc (.cells snapZ 51)) (.cells #[.int .i64 (-1)] 3) (w6.heap.size + 1) (by simp)
  clear FI RU HR6 RE RG
  go_wp2_with fail
  have CW0 : SW W c b o plen pcap w6.heap.size [] ((w6.alloc (.cells snapZ 51)).alloc (.cells #[.int .i64 (-1)] 3)) :=
    ⟨B6.out.trans (a6.mono B6.out.size), brow a6 Q0d.out, brow a6 Q1d.out, s1, s2⟩
  have A6 := Lib.hid a6
  clear s1 s2 a6 Q0d Q1d B6
  generalize (w6.alloc (.cells snapZ 51)).alloc (.cells #[.int .i64 (-1)] 3) = w7 at *
  have z67 := A6.out.size
  have zs7 : w6.heap.size + 1 < w7.heap.size := (Array.getElem?_eq_some_iff.1 CW0.last).1
  refine (wpIn_wide (n := 4)).1 ?_
  refine range_H (by decide) (gf := 24) (pa := #[]) (lb := #[.pointer (some ⟨eB, 0, none⟩), .pointer (some ⟨gB, 0, none⟩)]) rfl (enters_of Try.func24 (by kernel_rfl) rfl) SEQ.out A6.out (fun _ => rfl)
    (SW W c b o plen pcap w6.heap.size) (fun _ _ _ => False)
    ((SW.ab (β := w6.heap.size) (γ := w7.heap.size) (by omega) (by omega)).own (Nat.le_refl _)) (YE.own E _ _) (fun _ _ _ _ _ h _ _ => h)
    (fun γ hγ => SW.ab (by omega) (by omega)) (fun _ _ _ _ _ _ h _ => h) (SE.own E _ _) (SpE.own E _ _) CW0 (AxC ?fr 0 (SW W c b o plen pcap w6.heap.size) (YE E (ini cb cl cf fuel ys)))
    (AxC.own ((SW.ab (β := w6.heap.size) (γ := w7.heap.size) (by omega) (by omega)).own (Nat.le_refl _)) (YE.own E _ _)) ?assign ?body ?done ?stop
  case stop =>
    rintro D9 c9 pre W9 _ _ h _
    exact h.elim
  case assign =>
    rintro l pre ⟨i, s⟩ W9 K hi hy hK
    have hsn : (Try.prog.info? 51).map (·.size) = some s.toArray.size ∧ s.toArray.all (·.oneCell') = true ∧ snapZ.size = s.toArray.size := by
      obtain ⟨k, _, _, _, hx⟩ := hy
      obtain ⟨_, rfl⟩ := Prod.mk.inj hx
      exact ⟨info_snap, snap_one _ _ _, rfl⟩
    have HSN := Lib.hid hsn
    have hz := (zero_of_info zero_snap).1
    have HI9 := Lib.hid hi
    have HY9 := Lib.hid hy
    have HK := Lib.hid hK
    clear hsn hi hy hK
    simp only [encE]
    refine in_region_seq (by decide) (fun _ _ h => h) ?_
    intro K1 hK1
    go_wp2_with fail
    refine in_region (by decide) (fun _ _ h => h) ?_
    intro K2 hK2
    go_wp2_with (with_reducible refine (halt_store 51 _ _ rfl ?_))
    refine ⟨?_, trivial⟩
    obtain ⟨sb, hsb⟩ : ∃ sb, sb = W9.heap.size := ⟨_, rfl⟩
    rw [← hsb]
    refine wpList_store_is rfl 51 _ _ rfl sb s.toArray rfl rfl 51 _ (by rw [hsb]; exact heap_last _ _ _ rfl) HSN.out.1 HSN.out.2.2 HSN.out.2.1 ?_
    intro w' st
    have bw : Below W9.heap.size W9 w' := st.below (below_new (Below.refl _ _) _) (by omega)
    refine hK2 _ _ (HK.out _ w' ⟨bw.size, fun q o _ hq _ => brow bw hq⟩ ⟨bw.size, fun q o hq _ => brow bw hq⟩ ⟨sb, ?_, HI9.out.below bw, HY9.out, st.row, Nat.zero_le _⟩)
    show _ = ?fr i s sb
    rfl
  case body =>
    rintro l pre ⟨i, s⟩ a' W9 ⟨sb, rfl, hC, ⟨k, y1, y2, rfl, hx⟩, hs, hsb⟩
    obtain ⟨rfl, rfl⟩ := Prod.mk.inj hx
    obtain ⟨jx, je⟩ := (RR6.its F6 k y1).ix
    rw [el] at jx
    obtain ⟨j, hj⟩ : ∃ j, (its E (ini cb cl cf fuel ys) k).ix = j := ⟨_, rfl⟩
    rw [hj] at jx je
    have hp : W9.cell? ⟨W.heap.size, 1, none⟩ = some (.slice (some ⟨b, o, none⟩) plen pcap) := by
      have := hC.prog
      simp only [World.cell?, this]; rfl
    have hl : W9.cell? ⟨w6.heap.size + 1, 0, none⟩ = some (.int .i64 (lastL (snapsE E (ini cb cl cf fuel ys) k))) := by
      have := hC.last
      simp only [World.cell?, this]; rfl
    have HL9 := Lib.hid hC.last
    have CB9 := Lib.hid hC.bel
    have HPG := Lib.hid hC.prog
    have HW9 := Lib.hid hC.was
    have hzS : snapZ.size = 76 := rfl
    have hws : (wasL (snapsE E (ini cb cl cf fuel ys) k)).toArray.size = (its E (ini cb cl cf fuel ys) k).snap.toArray.size := by
      cases k with
      | zero => rfl
      | succ q => rw [wasL_succ]; rfl
    have HWS := Lib.hid hws
    -- what is kept behind the round
    have FIN := Lib.hid (show ∀ w9, Below W9.heap.size W9 w9 → ∀ w10 w11, Stored w9 w6.heap.size (its E (ini cb cl cf fuel ys) k).snap.toArray 51 w10 → Stored w10 (w6.heap.size + 1) #[.int .i64 (j : Int)] 3 w11 →
        KeepsFrom w7.heap.size W9 w11 ∧ KeepT σE W9 w11 ∧ SW W c b o plen pcap w6.heap.size (snapsE E (ini cb cl cf fuel ys) k ++ [((j : Int), (its E (ini cb cl cf fuel ys) k).snap)]) w11 from by
      intro w9 hb9 w10 w11 s10 s11
      have hC := hC.below hb9
      have k0 : KeepsFrom w7.heap.size W9 w9 := ⟨hb9.size, fun q o _ hq _ => brow hb9 hq⟩
      have k1 : KeepT σE W9 w9 := ⟨hb9.size, fun q o hq _ => brow hb9 hq⟩
      have t10 : Trn [w6.heap.size] w9 w10 := ⟨s10.os, s10.tape, s10.output, by rw [s10.size]; exact Nat.le_refl _, fun q _ hn => s10.other q (by simpa using hn)⟩
      have t11 : Trn [w6.heap.size + 1] w10 w11 := ⟨s11.os, s11.tape, s11.output, by rw [s11.size]; exact Nat.le_refl _, fun q _ hn => s11.other q (by simpa using hn)⟩
      have tt : Trn [w6.heap.size, w6.heap.size + 1] w9 w11 := (t10.weak (fun q hq => by simp at hq ⊢; omega)).trans (t11.weak (fun q hq => by simp at hq ⊢; omega))
      have ty : ∀ q ∈ [w6.heap.size, w6.heap.size + 1], ∃ c ty fr, w9.heap[q]? = some (.cells c ty fr) ∧ (ty = 51 ∨ ty = 3) := fun q hq => by
        simp only [List.mem_cons, List.not_mem_nil, or_false] at hq
        rcases hq with rfl | rfl
        · exact ⟨_, _, _, hC.was, .inl rfl⟩
        · exact ⟨_, _, _, hC.last, .inr rfl⟩
      have bel : Below W.heap.size W w11 := ⟨tt.os.trans hC.bel.os, tt.tape.trans hC.bel.tape, tt.output.trans hC.bel.output, Nat.le_trans hC.bel.size tt.size, fun q hq => (tt.block q (by have := hC.bel.size; omega) (fun hm => by simp at hm; omega)).trans (hC.bel.block q hq)⟩
      have hn1 : W.heap.size ∉ [w6.heap.size, w6.heap.size + 1] := by simp; omega
      have hn2 : W.heap.size + 1 ∉ [w6.heap.size, w6.heap.size + 1] := by simp; omega
      refine ⟨k0.trans (keepsFrom_trn tt (fun q hq => by obtain ⟨c, t, fr, h1, _⟩ := ty q hq; exact ⟨c, t, fr, h1⟩)), k1.trans (keepT_trn tt (fun q hq => by obtain ⟨c, t, fr, h1, rfl | rfl⟩ := ty q hq <;> exact ⟨c, _, fr, h1, by decide⟩)), bel, tt.row hC.prog hn1, tt.row hC.res hn2, ?_, ?_⟩
      · have := (s11.other w6.heap.size (by omega)).trans s10.row
        rw [this]
        unfold wasL
        rw [List.getLast?_append]; rfl
      · rw [s11.row]
        unfold lastL
        rw [List.getLast?_append]; rfl)
    have HS := Lib.hid hs
    have Y1 := Lib.hid y1
    have eG : decide ((j : Int) < 0) = false := decide_eq_false (by omega)
    have eL : decide (plen ≤ j) = false := decide_eq_false (by omega)
    simp only
    rw [je]
    clear hC hs hx y1 y2 hj hws
    refine wpIn_block ?_
    refine wpIn_seq ?_
    by_cases k0 : k = 0
    · rw [show lastL (snapsE E (ini cb cl cf fuel ys) k) = -1 by rw [k0]; rfl] at hl
      have HBQ := Lib.hid (Below.refl W9.heap.size W9)
      clear k0
      refine in_region_seq (by decide) (fun _ _ h => h) ?_
      intro K1 hK1
      go_wp2_with fail
      refine wpIn_cond_false rfl ?_
      refine wpIn_skip ?_
      simp only [Exit.then]
      refine wpIn_seq ?_
      refine wpIn_seq ?_
      refine in_region (by decide) (fun _ _ h => h) ?_
      intro K2 hK2
      go_wp2_with fail
      refine wpIn_cond_false rfl ?_
      refine wpIn_skip ?_
      simp only [Exit.then]
      refine in_region_seq (by decide) (fun _ _ h => h) ?_
      intro K3 hK3
      go_wp2_with (with_reducible refine (halt_load 51 _ rfl ?_))
      refine ⟨?_, trivial⟩
      refine wpList_load_row rfl 51 _ rfl sb rfl 51 (its E (ini cb cl cf fuel ys) k).snap.toArray (0, 0) _ HS.out Try.underlying51 rfl info_snap ?_
      refine wpList_store_is rfl 51 _ _ rfl w6.heap.size (its E (ini cb cl cf fuel ys) k).snap.toArray rfl rfl 51 _ HW9.out info_snap HWS.out (snap_one _ _ _) ?_
      intro w10 s10
      have l10 := (s10.other (w6.heap.size + 1) (by omega)).trans HL9.out
      have S10 := Lib.hid s10
      refine hK3 _ _ ?_
      clear s10 hK3
      refine in_region (by decide) (fun _ _ h => h) ?_
      intro K4 hK4
      go_wp2_with (with_reducible refine (halt_store 3 _ _ rfl ?_))
      refine ⟨?_, trivial⟩
      refine wpList_store_cell rfl 3 _ _ rfl (w6.heap.size + 1) 0 (.int .i64 (j : Int)) rfl rfl rfl rfl 3 _ l10 info_intV (by simp) ?_
      intro w11 s11
      exact hK4 _ _ (FIN.out _ HBQ.out w10 w11 S10.out s11)
    ·
      obtain ⟨k', hk'⟩ : ∃ k', k = k' + 1 := ⟨k - 1, by omega⟩
      have gk' : Goes E (ini cb cl cf fuel ys) k' := fun q hq => Y1.out q (by omega)
      have Rk' := RR6.its F6 k' gk'
      obtain ⟨px, pe⟩ := Rk'.ix
      rw [el] at px
      have hlast : lastL (snapsE E (ini cb cl cf fuel ys) k) = (its E (ini cb cl cf fuel ys) k').at_ := by rw [hk']; exact lastL_succ _ _ _
      have hwas : wasL (snapsE E (ini cb cl cf fuel ys) k) = (its E (ini cb cl cf fuel ys) k').snap := by rw [hk']; exact wasL_succ _ _ _
      obtain ⟨⟨d0, d1⟩, _⟩ := mayI_cases (F6.may _ Rk'.ix.1)
      have ST := step_stays E.kf d0 d1 (setOk_its F6 RR6 (ini_set cb cl cf fuel ys) k' gk')
      have hin : (its E (ini cb cl cf fuel ys) k').step E.kf (E.x (its E (ini cb cl cf fuel ys) k').ix) = its E (ini cb cl cf fuel ys) k := by rw [hk']; rfl
      rw [hin] at ST
      clear hin
      rw [ex] at ST d0 d1
      generalize (its E (ini cb cl cf fuel ys) k').ix = p at *
      rw [pe] at hlast
      rw [hlast] at hl HL9
      obtain ⟨b', o', eb', hcells⟩ := (HI.out W9 CB9.out).here (by omega)
      obtain ⟨rfl, rfl⟩ : b = b' ∧ o = o' := by simpa using eb'
      have HPR := Lib.hid (hcells p px)
      have eP : decide (0 ≤ (p : Int)) = true := decide_eq_true (by omega)
      have ST := Lib.hid ST.2
      have DD := Lib.hid (And.intro d0 d1)
      rw [hwas] at HW9 HWS
      clear hcells pe hlast gk' Rk' hk' k0 hwas d0 d1
      refine in_region_seq (by decide) (fun _ _ h => h) ?_
      intro K1 hK1
      go_wp2_with fail
      refine wpIn_cond_false rfl ?_
      refine wpIn_skip ?_
      simp only [Exit.then]
      refine wpIn_seq ?_
      refine wpIn_seq ?_
      refine in_region (by decide) (fun _ _ h => h) ?_
      intro K2 hK2
      go_wp2_with fail
      refine wpIn_cond_true rfl ?_
      have i9 := Lib.hid (show (Try.prog.info? 55).map (·.size) = some (x p).cells.toList.length from info_ins)
      refine in_region_seq (by decide) (fun _ _ h => h) ?_
      intro K3 hK3
      go_wp2_with (first | (with_reducible refine wpList_load_mid rfl 55 _ rfl b (o + p * 9) rfl (x p).cells.toList _ HPR.out Try.underlying55 rfl i9.out ?_) | (with_reducible refine (halt_store 55 _ _ rfl ?_)))
      refine ⟨?_, trivial⟩
      refine wpList_store_is rfl 55 _ _ rfl W9.heap.size (x p).cells rfl rfl 55 _ (heap_last W9 _ _ rfl) info_ins rfl (one_cells (x p)) ?_
      intro w8 s8
      have HBQ := Lib.hid (s8.below (below_new (Below.refl W9.heap.size W9) _) (by omega))
      have HX8 := Lib.hid s8.row
      have z9 := (Array.getElem?_eq_some_iff.1 HS.out).1
      refine hK3 _ _ ?_
      clear s8 hK3 i9
      refine in_region_seq (by decide) (fun _ _ h => h) ?_
      intro K4 hK4
      go_wp2_with fail
      have hkd : w8.cell? ⟨W9.heap.size, 0, none⟩ = some (.int .i8 (x p).kind) := cell_row HX8.out rfl
      have hds : w8.cell? ⟨W9.heap.size, 5, none⟩ = some (.int .i8 (x p).dst) := cell_row HX8.out rfl
      obtain ⟨wi, hwi⟩ : ∃ wi, writesI (x p) = wi := ⟨_, rfl⟩
      rw [hwi] at ST
      unfold writesI at hwi
      have KD0 := Lib.hid (show (x p).cells[0]? = some (.int .i8 (x p).kind) from rfl)
      generalize (x p).kind = kd at *
      have hsh := shl_dst DD.out.1 DD.out.2
      generalize (x p).dst = ds at *
      refine wpIn_seq ?_
      refine wpIn_seq ?_
      refine in_region (by decide) (fun _ _ h => h) ?_
      intro K5 hK5
      go_wp2_with fail
      refine wpIn_block ?_
      refine wpIn_seq ?_
      by_cases k0 : kd = 0
      · have e0 : (kd == 0) = true := by simpa using k0
        rw [if_pos (.inl k0)] at hwi
        rw [hwi] at hsh
        refine wpIn_seq ?_
        refine in_region (by decide) (fun _ _ h => h) ?_
        intro K6 hK6
        go_wp2_with fail
        refine wpIn_cond_true rfl ?_
        refine wpIn_skip ?_
        simp only [Exit.then]
        refine wpIn_cond_true rfl ?_
        refine in_region (by decide) (fun _ _ h => h) ?_
        intro K7 hK7
        go_wp2_with fail
        refine wpIn_seq ?_
        refine wpIn_seq ?_
        refine in_region (by decide) (fun _ _ h => h) ?_
        intro K9 hK9
        go_wp2_with fail
        refine wpIn_block ?_
        gi_loopw [18] (fun i wr => ∃ q : Nat, q ≤ 11 ∧ i = .int .i64 q ∧ Below w8.heap.size w8 wr) (fun i _ => 11 - (intOf i).toNat)
        case atStart => exact ⟨0, by omega, rfl, Below.refl _ _⟩
        case round =>
          obtain ⟨q, hq, rfl, hbr⟩ := hrel
          have RW1 := Lib.hid (fun w (h : Below wr.heap.size wr w) => brow h (brow hbr (brow HBQ.out HS.out)))
          have RW2 := Lib.hid (fun w (h : Below wr.heap.size wr w) => brow h (brow hbr (brow HBQ.out HW9.out)))
          refine wpIn_seq ?_
          refine wpIn_seq ?_
          refine in_region (by decide) (fun _ _ h => h) ?_
          intro K10 hK10
          by_cases hlt : q < 11
          · have eQ : decide ((q : Int) < 11) = true := decide_eq_true (by omega)
            go_wp2_with fail
            refine wpIn_cond_true rfl ?_
            refine wpIn_skip ?_
            simp only [Exit.then]
            refine wpIn_seq ?_
            refine wpIn_block ?_
            refine wpIn_seq ?_
            obtain ⟨rq, hrq⟩ : ∃ rq, (its E (ini cb cl cf fuel ys) k).r q = rq := ⟨_, rfl⟩
            obtain ⟨s1, hs1⟩ : ∃ s1, (its E (ini cb cl cf fuel ys) k).set = s1 := ⟨_, rfl⟩
            obtain ⟨s2, hs2⟩ : ∃ s2, (its E (ini cb cl cf fuel ys) k').set = s2 := ⟨_, rfl⟩
            have C1 := Lib.hid (fun w h => cell_row (RW1.out w h) (show (its E (ini cb cl cf fuel ys) k).snap.toArray[q]? = some (.int .u64 rq) by rw [← hrq]; exact snap_reg _ _ _ hlt))
            have C3 := Lib.hid (fun w h => cell_row (RW1.out w h) (show (its E (ini cb cl cf fuel ys) k).snap.toArray[11]? = some (.int .i64 s1) by rw [← hs1]; exact snap_set _ _ _))
            have C4 := Lib.hid (fun w h => cell_row (RW2.out w h) (show (its E (ini cb cl cf fuel ys) k').snap.toArray[11]? = some (.int .i64 s2) by rw [← hs2]; exact snap_set _ _ _))
            cases hwq : sbI wi q == 0 with
            | true =>
              obtain ⟨hrr, hbb⟩ := ST.out.1 q hlt (by simpa using hwq)
              have C2 := Lib.hid (fun w h => cell_row (RW2.out w h) (show (its E (ini cb cl cf fuel ys) k').snap.toArray[q]? = some (.int .u64 rq) by rw [← hrq, hrr]; exact snap_reg _ _ _ hlt))
              have hbit : sbI s2 q = sbI s1 q := by rw [← hs1, ← hs2, hbb]
              refine go_regd (F := Fence.wide.inRound l) (m := 4 - 1 - 1) (fun fl u w => Below wr.heap.size wr w) [] [] [some (.int .i64 wi), some (.int .i64 (q : Int)), some (.int .i64 (wi / 2 ^ q)), some (.int .i64 (sbI wi q)), some (.bool true), some (.bool true), some (.int .i64 (q : Int)), some (.pointer (some ⟨sb, 0, none⟩)), some (.pointer (some ⟨sb, q, none⟩)), some (.int .u64 rq), some (.int .i64 (q : Int)), some (.pointer (some ⟨w6.heap.size, 0, none⟩)), some (.pointer (some ⟨w6.heap.size, q, none⟩)), some (.int .u64 rq), some (.bool false), some (.bool false), some (.pointer (some ⟨sb, 11, none⟩)), some (.int .i64 s1), some (.int .i64 (q : Int)), some (.int .i64 (s1 / 2 ^ q)), some (.int .i64 (sbI s1 q)), some (.pointer (some ⟨w6.heap.size, 11, none⟩)), some (.int .i64 s2), some (.int .i64 (q : Int)), some (.int .i64 (s2 / 2 ^ q)), some (.int .i64 (sbI s1 q)), some (.bool false), some (.bool false), some (.bool false)] mo (fun fl fl' u u' w hK hD h => h) rfl rfl (by kernel_rfl) (fun fl w1 hfl b _ => b) (
              yc (@fun fl ax wx cx => cx.iv (fun _ => trivial) (ex_mv rfl (cx.rq 17 rfl)) rfl rfl rfl) <|
              yc (@fun fl ax wx cx => cx.iv (fun _ => trivial) (ex_mv rfl (cx.rq 18 rfl)) rfl rfl rfl) <|
              yc (@fun fl ax wx cx => cx.iv (fun _ => trivial) (ex_shrS rfl (cx.u 0 rfl) (cx.u 1 rfl) hlt) rfl rfl rfl) <|
              yc (@fun fl ax wx cx => cx.iv (fun _ => trivial) (ex_andS rfl (cx.u 0 rfl) rfl) rfl rfl rfl) <|
              yc (@fun fl ax wx cx => cx.iv (fun _ => trivial) ((ex_eqS rfl (cx.u 0 rfl) rfl).trans (by rw [hwq])) rfl rfl rfl) <|
              yc (@fun fl ax wx cx => cx.iv (fun _ => trivial) (ex_mv rfl (cx.u 0 rfl)) rfl rfl rfl) <|
              yc (@fun fl ax wx cx => cx.ival (fun _ => trivial) (cx.wy rfl rfl rfl rfl (cx.u 0 rfl)) (ex_mv rfl (cx.rq 18 rfl)) rfl rfl rfl rfl rfl) <|
              yc (@fun fl ax wx cx => cx.ival (fun _ => trivial) (cx.wy rfl rfl rfl rfl (cx.u 0 rfl)) (ex_fa rfl (cx.rq 15 rfl) (faSnap0 _ _)) rfl rfl rfl rfl rfl) <|
              yc (@fun fl ax wx cx => cx.ival (fun _ => trivial) (cx.wy rfl rfl rfl rfl (cx.u 2 rfl)) (ex_ixR rfl (cx.u 0 rfl) (cx.u 1 rfl) hlt) rfl rfl rfl rfl rfl) <|
              yc (@fun fl ax wx cx => cx.ival (fun _ => trivial) (cx.wy rfl rfl rfl rfl (cx.u 1 rfl)) (ex_ldc rfl (cx.u 0 rfl) (C1.out wx cx.S) Try.isAgg30) rfl rfl rfl rfl rfl) <|
              yc (@fun fl ax wx cx => cx.ival (fun _ => trivial) (cx.wy rfl rfl rfl rfl (cx.u 0 rfl)) (ex_mv rfl (cx.rq 18 rfl)) rfl rfl rfl rfl rfl) <|
              yc (@fun fl ax wx cx => cx.ival (fun _ => trivial) (cx.wy rfl rfl rfl rfl (cx.u 0 rfl)) (ex_fa rfl (cx.rq 12 rfl) (faSnap0 _ _)) rfl rfl rfl rfl rfl) <|
              yc (@fun fl ax wx cx => cx.ival (fun _ => trivial) (cx.wy rfl rfl rfl rfl (cx.u 2 rfl)) (ex_ixR rfl (cx.u 0 rfl) (cx.u 1 rfl) hlt) rfl rfl rfl rfl rfl) <|
              yc (@fun fl ax wx cx => cx.ival (fun _ => trivial) (cx.wy rfl rfl rfl rfl (cx.u 1 rfl)) (ex_ldc rfl (cx.u 0 rfl) (C2.out wx cx.S) Try.isAgg30) rfl rfl rfl rfl rfl) <|
              yc (@fun fl ax wx cx => cx.ival (fun _ => trivial) (cx.wy rfl rfl rfl rfl (cx.u 2 rfl)) (ex_neX rfl (cx.u 0 rfl) (cx.u 1 rfl)) rfl rfl rfl rfl rfl) <|
              yc (@fun fl ax wx cx => cx.ival (fun _ => trivial) (cx.wy rfl rfl rfl rfl (cx.u 1 rfl)) (ex_mv rfl (cx.u 0 rfl)) rfl rfl rfl rfl rfl) <|
              yc (@fun fl ax wx cx => cx.ival (fun _ => trivial) (cx.wy rfl rfl rfl rfl (cx.u 0 rfl)) (ex_fa rfl (cx.rq 15 rfl) (faSnap1 _ _)) rfl rfl rfl rfl rfl) <|
              yc (@fun fl ax wx cx => cx.ival (fun _ => trivial) (cx.wy rfl rfl rfl rfl (cx.u 1 rfl)) (ex_ldc rfl (cx.u 0 rfl) (C3.out wx cx.S) Try.isAgg3) rfl rfl rfl rfl rfl) <|
              yc (@fun fl ax wx cx => cx.ival (fun _ => trivial) (cx.wy rfl rfl rfl rfl (cx.u 0 rfl)) (ex_mv rfl (cx.rq 18 rfl)) rfl rfl rfl rfl rfl) <|
              yc (@fun fl ax wx cx => cx.ival (fun _ => trivial) (cx.wy rfl rfl rfl rfl (cx.u 2 rfl)) (ex_shrS rfl (cx.u 0 rfl) (cx.u 1 rfl) hlt) rfl rfl rfl rfl rfl) <|
              yc (@fun fl ax wx cx => cx.ival (fun _ => trivial) (cx.wy rfl rfl rfl rfl (cx.u 1 rfl)) (ex_andS rfl (cx.u 0 rfl) rfl) rfl rfl rfl rfl rfl) <|
              yc (@fun fl ax wx cx => cx.ival (fun _ => trivial) (cx.wy rfl rfl rfl rfl (cx.u 0 rfl)) (ex_fa rfl (cx.rq 12 rfl) (faSnap1 _ _)) rfl rfl rfl rfl rfl) <|
              yc (@fun fl ax wx cx => cx.ival (fun _ => trivial) (cx.wy rfl rfl rfl rfl (cx.u 1 rfl)) (ex_ldc rfl (cx.u 0 rfl) (C4.out wx cx.S) Try.isAgg3) rfl rfl rfl rfl rfl) <|
              yc (@fun fl ax wx cx => cx.ival (fun _ => trivial) (cx.wy rfl rfl rfl rfl (cx.u 0 rfl)) (ex_mv rfl (cx.rq 18 rfl)) rfl rfl rfl rfl rfl) <|
              yc (@fun fl ax wx cx => cx.ival (fun _ => trivial) (cx.wy rfl rfl rfl rfl (cx.u 2 rfl)) (ex_shrS rfl (cx.u 0 rfl) (cx.u 1 rfl) hlt) rfl rfl rfl rfl rfl) <|
              yc (@fun fl ax wx cx => cx.ival (fun _ => trivial) (cx.wy rfl rfl rfl rfl (cx.u 1 rfl)) ((ex_andS (n := s2) (q := q) rfl (cx.u 0 rfl) rfl).trans (by rw [hbit])) rfl rfl rfl rfl rfl) <|
              yc (@fun fl ax wx cx => cx.ival (fun _ => trivial) (cx.wy rfl rfl rfl rfl (cx.u 2 rfl)) (ex_neX rfl (cx.u 0 rfl) (cx.u 1 rfl)) rfl rfl rfl rfl rfl) <|
              yc (@fun fl ax wx cx => cx.ival (fun _ => trivial) (cx.wy rfl rfl rfl rfl (cx.u 2 rfl)) (ex_pf rfl (cx.u 0 rfl) (cx.u 1 rfl)) rfl rfl rfl rfl rfl) <|
              yc (@fun fl ax wx cx => cx.iv (fun _ => trivial) (ex_pt rfl (cx.u 0 rfl) (cx.u 1 rfl)) rfl rfl rfl) <|
              yn) ?_
              intro a9 w9 f9
              obtain ⟨fl9, _, hb9⟩ := f9.s
              have g101 := f9.v 28 rfl rfl rfl
              rw [f9.frame rfl rfl]
              clear f9
              rw [show outs _ (fun d => a9.tmps.getD d undef) = [(73, a9.tmps.getD 73 undef), (74, a9.tmps.getD 74 undef), (75, a9.tmps.getD 75 undef), (76, a9.tmps.getD 76 undef), (77, a9.tmps.getD 77 undef), (78, a9.tmps.getD 78 undef), (79, a9.tmps.getD 79 undef), (80, a9.tmps.getD 80 undef), (81, a9.tmps.getD 81 undef), (82, a9.tmps.getD 82 undef), (83, a9.tmps.getD 83 undef), (84, a9.tmps.getD 84 undef), (85, a9.tmps.getD 85 undef), (86, a9.tmps.getD 86 undef), (87, a9.tmps.getD 87 undef), (88, a9.tmps.getD 88 undef), (89, a9.tmps.getD 89 undef), (90, a9.tmps.getD 90 undef), (91, a9.tmps.getD 91 undef), (92, a9.tmps.getD 92 undef), (93, a9.tmps.getD 93 undef), (94, a9.tmps.getD 94 undef), (95, a9.tmps.getD 95 undef), (96, a9.tmps.getD 96 undef), (97, a9.tmps.getD 97 undef), (98, a9.tmps.getD 98 undef), (99, a9.tmps.getD 99 undef), (100, a9.tmps.getD 100 undef), (101, a9.tmps.getD 101 undef)] by kernel_rfl, g101]
              simp only [putAll, List.setIfInBounds_toArray, List.set_cons_zero, List.set_cons_succ, Exit.then]
              generalize a9.tmps.getD 73 undef = y0
              generalize a9.tmps.getD 74 undef = y1
              generalize a9.tmps.getD 75 undef = y2
              generalize a9.tmps.getD 76 undef = y3
              generalize a9.tmps.getD 77 undef = y4
              generalize a9.tmps.getD 78 undef = y5
              generalize a9.tmps.getD 79 undef = y6
              generalize a9.tmps.getD 80 undef = y7
              generalize a9.tmps.getD 81 undef = y8
              generalize a9.tmps.getD 82 undef = y9
              generalize a9.tmps.getD 83 undef = y10
              generalize a9.tmps.getD 84 undef = y11
              generalize a9.tmps.getD 85 undef = y12
              generalize a9.tmps.getD 86 undef = y13
              generalize a9.tmps.getD 87 undef = y14
              generalize a9.tmps.getD 88 undef = y15
              generalize a9.tmps.getD 89 undef = y16
              generalize a9.tmps.getD 90 undef = y17
              generalize a9.tmps.getD 91 undef = y18
              generalize a9.tmps.getD 92 undef = y19
              generalize a9.tmps.getD 93 undef = y20
              generalize a9.tmps.getD 94 undef = y21
              generalize a9.tmps.getD 95 undef = y22
              generalize a9.tmps.getD 96 undef = y23
              generalize a9.tmps.getD 97 undef = y24
              generalize a9.tmps.getD 98 undef = y25
              generalize a9.tmps.getD 99 undef = y26
              generalize a9.tmps.getD 100 undef = y27
              clear g101
              refine wpIn_cond_false rfl ?_
              refine wpIn_skip ?_
              simp only [Exit.then, Exit.inBlock]
              refine in_region (by decide) (fun _ _ h => h) ?_
              intro K11 hK11
              go_wp2_with fail
              go_roundw
              case rel => exact ⟨q + 1, by omega, by go_num, hbr.trans (hb9.mono hbr.size)⟩
              case measure => simp [intOf]; omega
            | false =>
              refine go_regd (F := Fence.wide.inRound l) (m := 4 - 1 - 1) (fun fl u w => Below wr.heap.size wr w) [] [] [some (.int .i64 wi), some (.int .i64 (q : Int)), some (.int .i64 (wi / 2 ^ q)), some (.int .i64 (sbI wi q)), some (.bool false), some (.bool false), some (undef), some (undef), some (undef), some (undef), some (undef), some (undef), some (undef), some (undef), some (undef), some (undef), some (undef), some (undef), some (undef), some (undef), some (undef), some (undef), some (undef), some (undef), some (undef), some (undef), some (undef), some (undef), some (.bool false)] mo (fun fl fl' u u' w hK hD h => h) rfl rfl (by kernel_rfl) (fun fl w1 hfl b _ => b) (
              yc (@fun fl ax wx cx => cx.iv (fun _ => trivial) (ex_mv rfl (cx.rq 17 rfl)) rfl rfl rfl) <|
              yc (@fun fl ax wx cx => cx.iv (fun _ => trivial) (ex_mv rfl (cx.rq 18 rfl)) rfl rfl rfl) <|
              yc (@fun fl ax wx cx => cx.iv (fun _ => trivial) (ex_shrS rfl (cx.u 0 rfl) (cx.u 1 rfl) hlt) rfl rfl rfl) <|
              yc (@fun fl ax wx cx => cx.iv (fun _ => trivial) (ex_andS rfl (cx.u 0 rfl) rfl) rfl rfl rfl) <|
              yc (@fun fl ax wx cx => cx.iv (fun _ => trivial) ((ex_eqS rfl (cx.u 0 rfl) rfl).trans (by rw [hwq])) rfl rfl rfl) <|
              yc (@fun fl ax wx cx => cx.iv (fun _ => trivial) (ex_mv rfl (cx.u 0 rfl)) rfl rfl rfl) <|
              yc (@fun fl ax wx cx => cx.ino (fun _ => trivial) (cx.wo rfl rfl rfl rfl (cx.u 0 rfl) rfl) rfl rfl rfl rfl) <|
              yc (@fun fl ax wx cx => cx.ino (fun _ => trivial) (cx.wo rfl rfl rfl rfl (cx.u 0 rfl) rfl) rfl rfl rfl rfl) <|
              yc (@fun fl ax wx cx => cx.ino (fun _ => trivial) (cx.wo rfl rfl rfl rfl (cx.u 2 rfl) rfl) rfl rfl rfl rfl) <|
              yc (@fun fl ax wx cx => cx.ino (fun _ => trivial) (cx.wo rfl rfl rfl rfl (cx.u 1 rfl) rfl) rfl rfl rfl rfl) <|
              yc (@fun fl ax wx cx => cx.ino (fun _ => trivial) (cx.wo rfl rfl rfl rfl (cx.u 0 rfl) rfl) rfl rfl rfl rfl) <|
              yc (@fun fl ax wx cx => cx.ino (fun _ => trivial) (cx.wo rfl rfl rfl rfl (cx.u 0 rfl) rfl) rfl rfl rfl rfl) <|
              yc (@fun fl ax wx cx => cx.ino (fun _ => trivial) (cx.wo rfl rfl rfl rfl (cx.u 2 rfl) rfl) rfl rfl rfl rfl) <|
              yc (@fun fl ax wx cx => cx.ino (fun _ => trivial) (cx.wo rfl rfl rfl rfl (cx.u 1 rfl) rfl) rfl rfl rfl rfl) <|
              yc (@fun fl ax wx cx => cx.ino (fun _ => trivial) (cx.wo rfl rfl rfl rfl (cx.u 2 rfl) rfl) rfl rfl rfl rfl) <|
              yc (@fun fl ax wx cx => cx.ino (fun _ => trivial) (cx.wo rfl rfl rfl rfl (cx.u 1 rfl) rfl) rfl rfl rfl rfl) <|
              yc (@fun fl ax wx cx => cx.ino (fun _ => trivial) (wantedU rfl rfl rfl (cx.u 0 rfl)) rfl rfl rfl rfl) <|
              yc (@fun fl ax wx cx => cx.ino (fun _ => trivial) (wantedU rfl rfl rfl (cx.u 1 rfl)) rfl rfl rfl rfl) <|
              yc (@fun fl ax wx cx => cx.ino (fun _ => trivial) (wantedU rfl rfl rfl (cx.u 0 rfl)) rfl rfl rfl rfl) <|
              yc (@fun fl ax wx cx => cx.ino (fun _ => trivial) (wantedU rfl rfl rfl (cx.u 2 rfl)) rfl rfl rfl rfl) <|
              yc (@fun fl ax wx cx => cx.ino (fun _ => trivial) (wantedU rfl rfl rfl (cx.u 1 rfl)) rfl rfl rfl rfl) <|
              yc (@fun fl ax wx cx => cx.ino (fun _ => trivial) (wantedU rfl rfl rfl (cx.u 0 rfl)) rfl rfl rfl rfl) <|
              yc (@fun fl ax wx cx => cx.ino (fun _ => trivial) (wantedU rfl rfl rfl (cx.u 1 rfl)) rfl rfl rfl rfl) <|
              yc (@fun fl ax wx cx => cx.ino (fun _ => trivial) (wantedU rfl rfl rfl (cx.u 0 rfl)) rfl rfl rfl rfl) <|
              yc (@fun fl ax wx cx => cx.ino (fun _ => trivial) (wantedU rfl rfl rfl (cx.u 2 rfl)) rfl rfl rfl rfl) <|
              yc (@fun fl ax wx cx => cx.ino (fun _ => trivial) (wantedU rfl rfl rfl (cx.u 1 rfl)) rfl rfl rfl rfl) <|
              yc (@fun fl ax wx cx => cx.ino (fun _ => trivial) (wantedU rfl rfl rfl (cx.u 2 rfl)) rfl rfl rfl rfl) <|
              yc (@fun fl ax wx cx => cx.ino (fun _ => trivial) (cx.wo rfl rfl rfl rfl (cx.u 2 rfl) rfl) rfl rfl rfl rfl) <|
              yc (@fun fl ax wx cx => cx.iv (fun _ => trivial) (ex_pf rfl (cx.u 0 rfl) rfl) rfl rfl rfl) <|
              yn) ?_
              intro a9 w9 f9
              obtain ⟨fl9, _, hb9⟩ := f9.s
              have g101 := f9.v 28 rfl rfl rfl
              rw [f9.frame rfl rfl]
              clear f9
              rw [show outs _ (fun d => a9.tmps.getD d undef) = [(73, a9.tmps.getD 73 undef), (74, a9.tmps.getD 74 undef), (75, a9.tmps.getD 75 undef), (76, a9.tmps.getD 76 undef), (77, a9.tmps.getD 77 undef), (78, a9.tmps.getD 78 undef), (79, a9.tmps.getD 79 undef), (80, a9.tmps.getD 80 undef), (81, a9.tmps.getD 81 undef), (82, a9.tmps.getD 82 undef), (83, a9.tmps.getD 83 undef), (84, a9.tmps.getD 84 undef), (85, a9.tmps.getD 85 undef), (86, a9.tmps.getD 86 undef), (87, a9.tmps.getD 87 undef), (88, a9.tmps.getD 88 undef), (89, a9.tmps.getD 89 undef), (90, a9.tmps.getD 90 undef), (91, a9.tmps.getD 91 undef), (92, a9.tmps.getD 92 undef), (93, a9.tmps.getD 93 undef), (94, a9.tmps.getD 94 undef), (95, a9.tmps.getD 95 undef), (96, a9.tmps.getD 96 undef), (97, a9.tmps.getD 97 undef), (98, a9.tmps.getD 98 undef), (99, a9.tmps.getD 99 undef), (100, a9.tmps.getD 100 undef), (101, a9.tmps.getD 101 undef)] by kernel_rfl, g101]
              simp only [putAll, List.setIfInBounds_toArray, List.set_cons_zero, List.set_cons_succ, Exit.then]
              generalize a9.tmps.getD 73 undef = y0
              generalize a9.tmps.getD 74 undef = y1
              generalize a9.tmps.getD 75 undef = y2
              generalize a9.tmps.getD 76 undef = y3
              generalize a9.tmps.getD 77 undef = y4
              generalize a9.tmps.getD 78 undef = y5
              generalize a9.tmps.getD 79 undef = y6
              generalize a9.tmps.getD 80 undef = y7
              generalize a9.tmps.getD 81 undef = y8
              generalize a9.tmps.getD 82 undef = y9
              generalize a9.tmps.getD 83 undef = y10
              generalize a9.tmps.getD 84 undef = y11
              generalize a9.tmps.getD 85 undef = y12
              generalize a9.tmps.getD 86 undef = y13
              generalize a9.tmps.getD 87 undef = y14
              generalize a9.tmps.getD 88 undef = y15
              generalize a9.tmps.getD 89 undef = y16
              generalize a9.tmps.getD 90 undef = y17
              generalize a9.tmps.getD 91 undef = y18
              generalize a9.tmps.getD 92 undef = y19
              generalize a9.tmps.getD 93 undef = y20
              generalize a9.tmps.getD 94 undef = y21
              generalize a9.tmps.getD 95 undef = y22
              generalize a9.tmps.getD 96 undef = y23
              generalize a9.tmps.getD 97 undef = y24
              generalize a9.tmps.getD 98 undef = y25
              generalize a9.tmps.getD 99 undef = y26
              generalize a9.tmps.getD 100 undef = y27
              clear g101
              refine wpIn_cond_false rfl ?_
              refine wpIn_skip ?_
              simp only [Exit.then, Exit.inBlock]
              refine in_region (by decide) (fun _ _ h => h) ?_
              intro K11 hK11
              go_wp2_with fail
              go_roundw
              case rel => exact ⟨q + 1, by omega, by go_num, hbr.trans (hb9.mono hbr.size)⟩
              case measure => simp [intOf]; omega
          · obtain rfl : q = 11 := by omega
            go_wp2_with fail
            refine wpIn_cond_false rfl ?_
            refine wpIn_exit ?_
            simp only [Exit.then, Exit.inBlock, if_true]
            refine wpIn_seq ?_
            have hk8 : wr.cell? ⟨W9.heap.size, 0, none⟩ = some (.int .i8 kd) := cell_row (brow hbr HX8.out) KD0.out
            by_cases k2 : kd = 2
            · omega
            · have e2 : (kd != 2) = true := by simpa using k2
              obtain ⟨gm, hgm⟩ : ∃ gm, (its E (ini cb cl cf fuel ys) k).mem.g = gm := ⟨_, rfl⟩
              have hmm := ST.out.2 k2
              have C5 := Lib.hid (show (loadVar 49 ⟨sb, 12, none⟩).run Try.prog wr = .ok (.agg (frmL gm).toArray) wr by rw [← hgm]; exact load_frm (RW1.out wr (Below.refl _ _)))
              have C6 := Lib.hid (show (loadVar 49 ⟨w6.heap.size, 12, none⟩).run Try.prog wr = .ok (.agg (frmL gm).toArray) wr by rw [← hgm, hmm]; exact load_frm (RW2.out wr (Below.refl _ _)))
              refine in_region (by decide) (fun _ _ h => h) ?_
              intro K12 hK12
              go_wp2_with (first | (refine wpList_ld64 rfl _ rfl sb rfl gm C5.out ?_) | (refine wpList_ld64 rfl _ rfl w6.heap.size rfl gm C6.out ?_) | (refine wpList_ne64 rfl _ _ _ rfl gm rfl rfl ?_))
              refine wpIn_cond_false rfl ?_
              refine wpIn_skip ?_
              simp only [Exit.then]
              have HBQ := Lib.hid (HBQ.out.trans (hbr.mono HBQ.out.size))
              have HS := Lib.hid (brow HBQ.out HS.out)
              have HW9 := Lib.hid (brow HBQ.out HW9.out)
              have HL9 := Lib.hid (brow HBQ.out HL9.out)
              refine in_region_seq (by decide) (fun _ _ h => h) ?_
              intro K3 hK3
              go_wp2_with (with_reducible refine (halt_load 51 _ rfl ?_))
              refine ⟨?_, trivial⟩
              refine wpList_load_row rfl 51 _ rfl sb rfl 51 (its E (ini cb cl cf fuel ys) k).snap.toArray (0, 0) _ HS.out Try.underlying51 rfl info_snap ?_
              refine wpList_store_is rfl 51 _ _ rfl w6.heap.size (its E (ini cb cl cf fuel ys) k).snap.toArray rfl rfl 51 _ HW9.out info_snap HWS.out (snap_one _ _ _) ?_
              intro w10 s10
              have l10 := (s10.other (w6.heap.size + 1) (by omega)).trans HL9.out
              have S10 := Lib.hid s10
              refine hK3 _ _ ?_
              clear s10 hK3
              refine in_region (by decide) (fun _ _ h => h) ?_
              intro K4 hK4
              go_wp2_with (with_reducible refine (halt_store 3 _ _ rfl ?_))
              refine ⟨?_, trivial⟩
              refine wpList_store_cell rfl 3 _ _ rfl (w6.heap.size + 1) 0 (.int .i64 (j : Int)) rfl rfl rfl rfl 3 _ l10 info_intV (by simp) ?_
              intro w11 s11
              exact hK4 _ _ (FIN.out _ HBQ.out w10 w11 S10.out s11)
      · have e0 : (kd == 0) = false := by simpa using k0
        refine wpIn_seq ?_
        refine in_region (by decide) (fun _ _ h => h) ?_
        intro K6 hK6
        go_wp2_with fail
        refine wpIn_cond_false rfl ?_
        by_cases k1 : kd = 1
        · have e1 : (kd == 1) = true := by simpa using k1
          rw [if_pos (.inr k1)] at hwi
          rw [hwi] at hsh
          refine in_region (by decide) (fun _ _ h => h) ?_
          intro K6 hK6
          go_wp2_with fail
          refine wpIn_cond_true rfl ?_
          refine in_region (by decide) (fun _ _ h => h) ?_
          intro K7 hK7
          go_wp2_with fail
          refine wpIn_seq ?_
          refine wpIn_seq ?_
          refine in_region (by decide) (fun _ _ h => h) ?_
          intro K9 hK9
          go_wp2_with fail
          refine wpIn_block ?_
          gi_loopw [18] (fun i wr => ∃ q : Nat, q ≤ 11 ∧ i = .int .i64 q ∧ Below w8.heap.size w8 wr) (fun i _ => 11 - (intOf i).toNat)
          case atStart => exact ⟨0, by omega, rfl, Below.refl _ _⟩
          case round =>
            obtain ⟨q, hq, rfl, hbr⟩ := hrel
            have RW1 := Lib.hid (fun w (h : Below wr.heap.size wr w) => brow h (brow hbr (brow HBQ.out HS.out)))
            have RW2 := Lib.hid (fun w (h : Below wr.heap.size wr w) => brow h (brow hbr (brow HBQ.out HW9.out)))
            refine wpIn_seq ?_
            refine wpIn_seq ?_
            refine in_region (by decide) (fun _ _ h => h) ?_
            intro K10 hK10
            by_cases hlt : q < 11
            · have eQ : decide ((q : Int) < 11) = true := decide_eq_true (by omega)
              go_wp2_with fail
              refine wpIn_cond_true rfl ?_
              refine wpIn_skip ?_
              simp only [Exit.then]
              refine wpIn_seq ?_
              refine wpIn_block ?_
              refine wpIn_seq ?_
              obtain ⟨rq, hrq⟩ : ∃ rq, (its E (ini cb cl cf fuel ys) k).r q = rq := ⟨_, rfl⟩
              obtain ⟨s1, hs1⟩ : ∃ s1, (its E (ini cb cl cf fuel ys) k).set = s1 := ⟨_, rfl⟩
              obtain ⟨s2, hs2⟩ : ∃ s2, (its E (ini cb cl cf fuel ys) k').set = s2 := ⟨_, rfl⟩
              have C1 := Lib.hid (fun w h => cell_row (RW1.out w h) (show (its E (ini cb cl cf fuel ys) k).snap.toArray[q]? = some (.int .u64 rq) by rw [← hrq]; exact snap_reg _ _ _ hlt))
              have C3 := Lib.hid (fun w h => cell_row (RW1.out w h) (show (its E (ini cb cl cf fuel ys) k).snap.toArray[11]? = some (.int .i64 s1) by rw [← hs1]; exact snap_set _ _ _))
              have C4 := Lib.hid (fun w h => cell_row (RW2.out w h) (show (its E (ini cb cl cf fuel ys) k').snap.toArray[11]? = some (.int .i64 s2) by rw [← hs2]; exact snap_set _ _ _))
              cases hwq : sbI wi q == 0 with
              | true =>
                obtain ⟨hrr, hbb⟩ := ST.out.1 q hlt (by simpa using hwq)
                have C2 := Lib.hid (fun w h => cell_row (RW2.out w h) (show (its E (ini cb cl cf fuel ys) k').snap.toArray[q]? = some (.int .u64 rq) by rw [← hrq, hrr]; exact snap_reg _ _ _ hlt))
                have hbit : sbI s2 q = sbI s1 q := by rw [← hs1, ← hs2, hbb]
                refine go_regd (F := Fence.wide.inRound l) (m := 4 - 1 - 1) (fun fl u w => Below wr.heap.size wr w) [] [] [some (.int .i64 wi), some (.int .i64 (q : Int)), some (.int .i64 (wi / 2 ^ q)), some (.int .i64 (sbI wi q)), some (.bool true), some (.bool true), some (.int .i64 (q : Int)), some (.pointer (some ⟨sb, 0, none⟩)), some (.pointer (some ⟨sb, q, none⟩)), some (.int .u64 rq), some (.int .i64 (q : Int)), some (.pointer (some ⟨w6.heap.size, 0, none⟩)), some (.pointer (some ⟨w6.heap.size, q, none⟩)), some (.int .u64 rq), some (.bool false), some (.bool false), some (.pointer (some ⟨sb, 11, none⟩)), some (.int .i64 s1), some (.int .i64 (q : Int)), some (.int .i64 (s1 / 2 ^ q)), some (.int .i64 (sbI s1 q)), some (.pointer (some ⟨w6.heap.size, 11, none⟩)), some (.int .i64 s2), some (.int .i64 (q : Int)), some (.int .i64 (s2 / 2 ^ q)), some (.int .i64 (sbI s1 q)), some (.bool false), some (.bool false), some (.bool false)] mo (fun fl fl' u u' w hK hD h => h) rfl rfl (by kernel_rfl) (fun fl w1 hfl b _ => b) (
                yc (@fun fl ax wx cx => cx.iv (fun _ => trivial) (ex_mv rfl (cx.rq 17 rfl)) rfl rfl rfl) <|
                yc (@fun fl ax wx cx => cx.iv (fun _ => trivial) (ex_mv rfl (cx.rq 18 rfl)) rfl rfl rfl) <|
                yc (@fun fl ax wx cx => cx.iv (fun _ => trivial) (ex_shrS rfl (cx.u 0 rfl) (cx.u 1 rfl) hlt) rfl rfl rfl) <|
                yc (@fun fl ax wx cx => cx.iv (fun _ => trivial) (ex_andS rfl (cx.u 0 rfl) rfl) rfl rfl rfl) <|
                yc (@fun fl ax wx cx => cx.iv (fun _ => trivial) ((ex_eqS rfl (cx.u 0 rfl) rfl).trans (by rw [hwq])) rfl rfl rfl) <|
                yc (@fun fl ax wx cx => cx.iv (fun _ => trivial) (ex_mv rfl (cx.u 0 rfl)) rfl rfl rfl) <|
                yc (@fun fl ax wx cx => cx.ival (fun _ => trivial) (cx.wy rfl rfl rfl rfl (cx.u 0 rfl)) (ex_mv rfl (cx.rq 18 rfl)) rfl rfl rfl rfl rfl) <|
                yc (@fun fl ax wx cx => cx.ival (fun _ => trivial) (cx.wy rfl rfl rfl rfl (cx.u 0 rfl)) (ex_fa rfl (cx.rq 15 rfl) (faSnap0 _ _)) rfl rfl rfl rfl rfl) <|
                yc (@fun fl ax wx cx => cx.ival (fun _ => trivial) (cx.wy rfl rfl rfl rfl (cx.u 2 rfl)) (ex_ixR rfl (cx.u 0 rfl) (cx.u 1 rfl) hlt) rfl rfl rfl rfl rfl) <|
                yc (@fun fl ax wx cx => cx.ival (fun _ => trivial) (cx.wy rfl rfl rfl rfl (cx.u 1 rfl)) (ex_ldc rfl (cx.u 0 rfl) (C1.out wx cx.S) Try.isAgg30) rfl rfl rfl rfl rfl) <|
                yc (@fun fl ax wx cx => cx.ival (fun _ => trivial) (cx.wy rfl rfl rfl rfl (cx.u 0 rfl)) (ex_mv rfl (cx.rq 18 rfl)) rfl rfl rfl rfl rfl) <|
                yc (@fun fl ax wx cx => cx.ival (fun _ => trivial) (cx.wy rfl rfl rfl rfl (cx.u 0 rfl)) (ex_fa rfl (cx.rq 12 rfl) (faSnap0 _ _)) rfl rfl rfl rfl rfl) <|
                yc (@fun fl ax wx cx => cx.ival (fun _ => trivial) (cx.wy rfl rfl rfl rfl (cx.u 2 rfl)) (ex_ixR rfl (cx.u 0 rfl) (cx.u 1 rfl) hlt) rfl rfl rfl rfl rfl) <|
                yc (@fun fl ax wx cx => cx.ival (fun _ => trivial) (cx.wy rfl rfl rfl rfl (cx.u 1 rfl)) (ex_ldc rfl (cx.u 0 rfl) (C2.out wx cx.S) Try.isAgg30) rfl rfl rfl rfl rfl) <|
                yc (@fun fl ax wx cx => cx.ival (fun _ => trivial) (cx.wy rfl rfl rfl rfl (cx.u 2 rfl)) (ex_neX rfl (cx.u 0 rfl) (cx.u 1 rfl)) rfl rfl rfl rfl rfl) <|
                yc (@fun fl ax wx cx => cx.ival (fun _ => trivial) (cx.wy rfl rfl rfl rfl (cx.u 1 rfl)) (ex_mv rfl (cx.u 0 rfl)) rfl rfl rfl rfl rfl) <|
                yc (@fun fl ax wx cx => cx.ival (fun _ => trivial) (cx.wy rfl rfl rfl rfl (cx.u 0 rfl)) (ex_fa rfl (cx.rq 15 rfl) (faSnap1 _ _)) rfl rfl rfl rfl rfl) <|
                yc (@fun fl ax wx cx => cx.ival (fun _ => trivial) (cx.wy rfl rfl rfl rfl (cx.u 1 rfl)) (ex_ldc rfl (cx.u 0 rfl) (C3.out wx cx.S) Try.isAgg3) rfl rfl rfl rfl rfl) <|
                yc (@fun fl ax wx cx => cx.ival (fun _ => trivial) (cx.wy rfl rfl rfl rfl (cx.u 0 rfl)) (ex_mv rfl (cx.rq 18 rfl)) rfl rfl rfl rfl rfl) <|
                yc (@fun fl ax wx cx => cx.ival (fun _ => trivial) (cx.wy rfl rfl rfl rfl (cx.u 2 rfl)) (ex_shrS rfl (cx.u 0 rfl) (cx.u 1 rfl) hlt) rfl rfl rfl rfl rfl) <|
                yc (@fun fl ax wx cx => cx.ival (fun _ => trivial) (cx.wy rfl rfl rfl rfl (cx.u 1 rfl)) (ex_andS rfl (cx.u 0 rfl) rfl) rfl rfl rfl rfl rfl) <|
                yc (@fun fl ax wx cx => cx.ival (fun _ => trivial) (cx.wy rfl rfl rfl rfl (cx.u 0 rfl)) (ex_fa rfl (cx.rq 12 rfl) (faSnap1 _ _)) rfl rfl rfl rfl rfl) <|
                yc (@fun fl ax wx cx => cx.ival (fun _ => trivial) (cx.wy rfl rfl rfl rfl (cx.u 1 rfl)) (ex_ldc rfl (cx.u 0 rfl) (C4.out wx cx.S) Try.isAgg3) rfl rfl rfl rfl rfl) <|
                yc (@fun fl ax wx cx => cx.ival (fun _ => trivial) (cx.wy rfl rfl rfl rfl (cx.u 0 rfl)) (ex_mv rfl (cx.rq 18 rfl)) rfl rfl rfl rfl rfl) <|
                yc (@fun fl ax wx cx => cx.ival (fun _ => trivial) (cx.wy rfl rfl rfl rfl (cx.u 2 rfl)) (ex_shrS rfl (cx.u 0 rfl) (cx.u 1 rfl) hlt) rfl rfl rfl rfl rfl) <|
                yc (@fun fl ax wx cx => cx.ival (fun _ => trivial) (cx.wy rfl rfl rfl rfl (cx.u 1 rfl)) ((ex_andS (n := s2) (q := q) rfl (cx.u 0 rfl) rfl).trans (by rw [hbit])) rfl rfl rfl rfl rfl) <|
                yc (@fun fl ax wx cx => cx.ival (fun _ => trivial) (cx.wy rfl rfl rfl rfl (cx.u 2 rfl)) (ex_neX rfl (cx.u 0 rfl) (cx.u 1 rfl)) rfl rfl rfl rfl rfl) <|
                yc (@fun fl ax wx cx => cx.ival (fun _ => trivial) (cx.wy rfl rfl rfl rfl (cx.u 2 rfl)) (ex_pf rfl (cx.u 0 rfl) (cx.u 1 rfl)) rfl rfl rfl rfl rfl) <|
                yc (@fun fl ax wx cx => cx.iv (fun _ => trivial) (ex_pt rfl (cx.u 0 rfl) (cx.u 1 rfl)) rfl rfl rfl) <|
                yn) ?_
                intro a9 w9 f9
                obtain ⟨fl9, _, hb9⟩ := f9.s
                have g101 := f9.v 28 rfl rfl rfl
                rw [f9.frame rfl rfl]
                clear f9
                rw [show outs _ (fun d => a9.tmps.getD d undef) = [(73, a9.tmps.getD 73 undef), (74, a9.tmps.getD 74 undef), (75, a9.tmps.getD 75 undef), (76, a9.tmps.getD 76 undef), (77, a9.tmps.getD 77 undef), (78, a9.tmps.getD 78 undef), (79, a9.tmps.getD 79 undef), (80, a9.tmps.getD 80 undef), (81, a9.tmps.getD 81 undef), (82, a9.tmps.getD 82 undef), (83, a9.tmps.getD 83 undef), (84, a9.tmps.getD 84 undef), (85, a9.tmps.getD 85 undef), (86, a9.tmps.getD 86 undef), (87, a9.tmps.getD 87 undef), (88, a9.tmps.getD 88 undef), (89, a9.tmps.getD 89 undef), (90, a9.tmps.getD 90 undef), (91, a9.tmps.getD 91 undef), (92, a9.tmps.getD 92 undef), (93, a9.tmps.getD 93 undef), (94, a9.tmps.getD 94 undef), (95, a9.tmps.getD 95 undef), (96, a9.tmps.getD 96 undef), (97, a9.tmps.getD 97 undef), (98, a9.tmps.getD 98 undef), (99, a9.tmps.getD 99 undef), (100, a9.tmps.getD 100 undef), (101, a9.tmps.getD 101 undef)] by kernel_rfl, g101]
                simp only [putAll, List.setIfInBounds_toArray, List.set_cons_zero, List.set_cons_succ, Exit.then]
                generalize a9.tmps.getD 73 undef = y0
                generalize a9.tmps.getD 74 undef = y1
                generalize a9.tmps.getD 75 undef = y2
                generalize a9.tmps.getD 76 undef = y3
                generalize a9.tmps.getD 77 undef = y4
                generalize a9.tmps.getD 78 undef = y5
                generalize a9.tmps.getD 79 undef = y6
                generalize a9.tmps.getD 80 undef = y7
                generalize a9.tmps.getD 81 undef = y8
                generalize a9.tmps.getD 82 undef = y9
                generalize a9.tmps.getD 83 undef = y10
                generalize a9.tmps.getD 84 undef = y11
                generalize a9.tmps.getD 85 undef = y12
                generalize a9.tmps.getD 86 undef = y13
                generalize a9.tmps.getD 87 undef = y14
                generalize a9.tmps.getD 88 undef = y15
                generalize a9.tmps.getD 89 undef = y16
                generalize a9.tmps.getD 90 undef = y17
                generalize a9.tmps.getD 91 undef = y18
                generalize a9.tmps.getD 92 undef = y19
                generalize a9.tmps.getD 93 undef = y20
                generalize a9.tmps.getD 94 undef = y21
                generalize a9.tmps.getD 95 undef = y22
                generalize a9.tmps.getD 96 undef = y23
                generalize a9.tmps.getD 97 undef = y24
                generalize a9.tmps.getD 98 undef = y25
                generalize a9.tmps.getD 99 undef = y26
                generalize a9.tmps.getD 100 undef = y27
                clear g101
                refine wpIn_cond_false rfl ?_
                refine wpIn_skip ?_
                simp only [Exit.then, Exit.inBlock]
                refine in_region (by decide) (fun _ _ h => h) ?_
                intro K11 hK11
                go_wp2_with fail
                go_roundw
                case rel => exact ⟨q + 1, by omega, by go_num, hbr.trans (hb9.mono hbr.size)⟩
                case measure => simp [intOf]; omega
              | false =>
                refine go_regd (F := Fence.wide.inRound l) (m := 4 - 1 - 1) (fun fl u w => Below wr.heap.size wr w) [] [] [some (.int .i64 wi), some (.int .i64 (q : Int)), some (.int .i64 (wi / 2 ^ q)), some (.int .i64 (sbI wi q)), some (.bool false), some (.bool false), some (undef), some (undef), some (undef), some (undef), some (undef), some (undef), some (undef), some (undef), some (undef), some (undef), some (undef), some (undef), some (undef), some (undef), some (undef), some (undef), some (undef), some (undef), some (undef), some (undef), some (undef), some (undef), some (.bool false)] mo (fun fl fl' u u' w hK hD h => h) rfl rfl (by kernel_rfl) (fun fl w1 hfl b _ => b) (
                yc (@fun fl ax wx cx => cx.iv (fun _ => trivial) (ex_mv rfl (cx.rq 17 rfl)) rfl rfl rfl) <|
                yc (@fun fl ax wx cx => cx.iv (fun _ => trivial) (ex_mv rfl (cx.rq 18 rfl)) rfl rfl rfl) <|
                yc (@fun fl ax wx cx => cx.iv (fun _ => trivial) (ex_shrS rfl (cx.u 0 rfl) (cx.u 1 rfl) hlt) rfl rfl rfl) <|
                yc (@fun fl ax wx cx => cx.iv (fun _ => trivial) (ex_andS rfl (cx.u 0 rfl) rfl) rfl rfl rfl) <|
                yc (@fun fl ax wx cx => cx.iv (fun _ => trivial) ((ex_eqS rfl (cx.u 0 rfl) rfl).trans (by rw [hwq])) rfl rfl rfl) <|
                yc (@fun fl ax wx cx => cx.iv (fun _ => trivial) (ex_mv rfl (cx.u 0 rfl)) rfl rfl rfl) <|
                yc (@fun fl ax wx cx => cx.ino (fun _ => trivial) (cx.wo rfl rfl rfl rfl (cx.u 0 rfl) rfl) rfl rfl rfl rfl) <|
                yc (@fun fl ax wx cx => cx.ino (fun _ => trivial) (cx.wo rfl rfl rfl rfl (cx.u 0 rfl) rfl) rfl rfl rfl rfl) <|
                yc (@fun fl ax wx cx => cx.ino (fun _ => trivial) (cx.wo rfl rfl rfl rfl (cx.u 2 rfl) rfl) rfl rfl rfl rfl) <|
                yc (@fun fl ax wx cx => cx.ino (fun _ => trivial) (cx.wo rfl rfl rfl rfl (cx.u 1 rfl) rfl) rfl rfl rfl rfl) <|
                yc (@fun fl ax wx cx => cx.ino (fun _ => trivial) (cx.wo rfl rfl rfl rfl (cx.u 0 rfl) rfl) rfl rfl rfl rfl) <|
                yc (@fun fl ax wx cx => cx.ino (fun _ => trivial) (cx.wo rfl rfl rfl rfl (cx.u 0 rfl) rfl) rfl rfl rfl rfl) <|
                yc (@fun fl ax wx cx => cx.ino (fun _ => trivial) (cx.wo rfl rfl rfl rfl (cx.u 2 rfl) rfl) rfl rfl rfl rfl) <|
                yc (@fun fl ax wx cx => cx.ino (fun _ => trivial) (cx.wo rfl rfl rfl rfl (cx.u 1 rfl) rfl) rfl rfl rfl rfl) <|
                yc (@fun fl ax wx cx => cx.ino (fun _ => trivial) (cx.wo rfl rfl rfl rfl (cx.u 2 rfl) rfl) rfl rfl rfl rfl) <|
                yc (@fun fl ax wx cx => cx.ino (fun _ => trivial) (cx.wo rfl rfl rfl rfl (cx.u 1 rfl) rfl) rfl rfl rfl rfl) <|
                yc (@fun fl ax wx cx => cx.ino (fun _ => trivial) (wantedU rfl rfl rfl (cx.u 0 rfl)) rfl rfl rfl rfl) <|
                yc (@fun fl ax wx cx => cx.ino (fun _ => trivial) (wantedU rfl rfl rfl (cx.u 1 rfl)) rfl rfl rfl rfl) <|
                yc (@fun fl ax wx cx => cx.ino (fun _ => trivial) (wantedU rfl rfl rfl (cx.u 0 rfl)) rfl rfl rfl rfl) <|
                yc (@fun fl ax wx cx => cx.ino (fun _ => trivial) (wantedU rfl rfl rfl (cx.u 2 rfl)) rfl rfl rfl rfl) <|
                yc (@fun fl ax wx cx => cx.ino (fun _ => trivial) (wantedU rfl rfl rfl (cx.u 1 rfl)) rfl rfl rfl rfl) <|
                yc (@fun fl ax wx cx => cx.ino (fun _ => trivial) (wantedU rfl rfl rfl (cx.u 0 rfl)) rfl rfl rfl rfl) <|
                yc (@fun fl ax wx cx => cx.ino (fun _ => trivial) (wantedU rfl rfl rfl (cx.u 1 rfl)) rfl rfl rfl rfl) <|
                yc (@fun fl ax wx cx => cx.ino (fun _ => trivial) (wantedU rfl rfl rfl (cx.u 0 rfl)) rfl rfl rfl rfl) <|
                yc (@fun fl ax wx cx => cx.ino (fun _ => trivial) (wantedU rfl rfl rfl (cx.u 2 rfl)) rfl rfl rfl rfl) <|
                yc (@fun fl ax wx cx => cx.ino (fun _ => trivial) (wantedU rfl rfl rfl (cx.u 1 rfl)) rfl rfl rfl rfl) <|
                yc (@fun fl ax wx cx => cx.ino (fun _ => trivial) (wantedU rfl rfl rfl (cx.u 2 rfl)) rfl rfl rfl rfl) <|
                yc (@fun fl ax wx cx => cx.ino (fun _ => trivial) (cx.wo rfl rfl rfl rfl (cx.u 2 rfl) rfl) rfl rfl rfl rfl) <|
                yc (@fun fl ax wx cx => cx.iv (fun _ => trivial) (ex_pf rfl (cx.u 0 rfl) rfl) rfl rfl rfl) <|
                yn) ?_
                intro a9 w9 f9
                obtain ⟨fl9, _, hb9⟩ := f9.s
                have g101 := f9.v 28 rfl rfl rfl
                rw [f9.frame rfl rfl]
                clear f9
                rw [show outs _ (fun d => a9.tmps.getD d undef) = [(73, a9.tmps.getD 73 undef), (74, a9.tmps.getD 74 undef), (75, a9.tmps.getD 75 undef), (76, a9.tmps.getD 76 undef), (77, a9.tmps.getD 77 undef), (78, a9.tmps.getD 78 undef), (79, a9.tmps.getD 79 undef), (80, a9.tmps.getD 80 undef), (81, a9.tmps.getD 81 undef), (82, a9.tmps.getD 82 undef), (83, a9.tmps.getD 83 undef), (84, a9.tmps.getD 84 undef), (85, a9.tmps.getD 85 undef), (86, a9.tmps.getD 86 undef), (87, a9.tmps.getD 87 undef), (88, a9.tmps.getD 88 undef), (89, a9.tmps.getD 89 undef), (90, a9.tmps.getD 90 undef), (91, a9.tmps.getD 91 undef), (92, a9.tmps.getD 92 undef), (93, a9.tmps.getD 93 undef), (94, a9.tmps.getD 94 undef), (95, a9.tmps.getD 95 undef), (96, a9.tmps.getD 96 undef), (97, a9.tmps.getD 97 undef), (98, a9.tmps.getD 98 undef), (99, a9.tmps.getD 99 undef), (100, a9.tmps.getD 100 undef), (101, a9.tmps.getD 101 undef)] by kernel_rfl, g101]
                simp only [putAll, List.setIfInBounds_toArray, List.set_cons_zero, List.set_cons_succ, Exit.then]
                generalize a9.tmps.getD 73 undef = y0
                generalize a9.tmps.getD 74 undef = y1
                generalize a9.tmps.getD 75 undef = y2
                generalize a9.tmps.getD 76 undef = y3
                generalize a9.tmps.getD 77 undef = y4
                generalize a9.tmps.getD 78 undef = y5
                generalize a9.tmps.getD 79 undef = y6
                generalize a9.tmps.getD 80 undef = y7
                generalize a9.tmps.getD 81 undef = y8
                generalize a9.tmps.getD 82 undef = y9
                generalize a9.tmps.getD 83 undef = y10
                generalize a9.tmps.getD 84 undef = y11
                generalize a9.tmps.getD 85 undef = y12
                generalize a9.tmps.getD 86 undef = y13
                generalize a9.tmps.getD 87 undef = y14
                generalize a9.tmps.getD 88 undef = y15
                generalize a9.tmps.getD 89 undef = y16
                generalize a9.tmps.getD 90 undef = y17
                generalize a9.tmps.getD 91 undef = y18
                generalize a9.tmps.getD 92 undef = y19
                generalize a9.tmps.getD 93 undef = y20
                generalize a9.tmps.getD 94 undef = y21
                generalize a9.tmps.getD 95 undef = y22
                generalize a9.tmps.getD 96 undef = y23
                generalize a9.tmps.getD 97 undef = y24
                generalize a9.tmps.getD 98 undef = y25
                generalize a9.tmps.getD 99 undef = y26
                generalize a9.tmps.getD 100 undef = y27
                clear g101
                refine wpIn_cond_false rfl ?_
                refine wpIn_skip ?_
                simp only [Exit.then, Exit.inBlock]
                refine in_region (by decide) (fun _ _ h => h) ?_
                intro K11 hK11
                go_wp2_with fail
                go_roundw
                case rel => exact ⟨q + 1, by omega, by go_num, hbr.trans (hb9.mono hbr.size)⟩
                case measure => simp [intOf]; omega
            · obtain rfl : q = 11 := by omega
              go_wp2_with fail
              refine wpIn_cond_false rfl ?_
              refine wpIn_exit ?_
              simp only [Exit.then, Exit.inBlock, if_true]
              refine wpIn_seq ?_
              have hk8 : wr.cell? ⟨W9.heap.size, 0, none⟩ = some (.int .i8 kd) := cell_row (brow hbr HX8.out) KD0.out
              by_cases k2 : kd = 2
              · omega
              · have e2 : (kd != 2) = true := by simpa using k2
                obtain ⟨gm, hgm⟩ : ∃ gm, (its E (ini cb cl cf fuel ys) k).mem.g = gm := ⟨_, rfl⟩
                have hmm := ST.out.2 k2
                have C5 := Lib.hid (show (loadVar 49 ⟨sb, 12, none⟩).run Try.prog wr = .ok (.agg (frmL gm).toArray) wr by rw [← hgm]; exact load_frm (RW1.out wr (Below.refl _ _)))
                have C6 := Lib.hid (show (loadVar 49 ⟨w6.heap.size, 12, none⟩).run Try.prog wr = .ok (.agg (frmL gm).toArray) wr by rw [← hgm, hmm]; exact load_frm (RW2.out wr (Below.refl _ _)))
                refine in_region (by decide) (fun _ _ h => h) ?_
                intro K12 hK12
                go_wp2_with (first | (refine wpList_ld64 rfl _ rfl sb rfl gm C5.out ?_) | (refine wpList_ld64 rfl _ rfl w6.heap.size rfl gm C6.out ?_) | (refine wpList_ne64 rfl _ _ _ rfl gm rfl rfl ?_))
                refine wpIn_cond_false rfl ?_
                refine wpIn_skip ?_
                simp only [Exit.then]
                have HBQ := Lib.hid (HBQ.out.trans (hbr.mono HBQ.out.size))
                have HS := Lib.hid (brow HBQ.out HS.out)
                have HW9 := Lib.hid (brow HBQ.out HW9.out)
                have HL9 := Lib.hid (brow HBQ.out HL9.out)
                refine in_region_seq (by decide) (fun _ _ h => h) ?_
                intro K3 hK3
                go_wp2_with (with_reducible refine (halt_load 51 _ rfl ?_))
                refine ⟨?_, trivial⟩
                refine wpList_load_row rfl 51 _ rfl sb rfl 51 (its E (ini cb cl cf fuel ys) k).snap.toArray (0, 0) _ HS.out Try.underlying51 rfl info_snap ?_
                refine wpList_store_is rfl 51 _ _ rfl w6.heap.size (its E (ini cb cl cf fuel ys) k).snap.toArray rfl rfl 51 _ HW9.out info_snap HWS.out (snap_one _ _ _) ?_
                intro w10 s10
                have l10 := (s10.other (w6.heap.size + 1) (by omega)).trans HL9.out
                have S10 := Lib.hid s10
                refine hK3 _ _ ?_
                clear s10 hK3
                refine in_region (by decide) (fun _ _ h => h) ?_
                intro K4 hK4
                go_wp2_with (with_reducible refine (halt_store 3 _ _ rfl ?_))
                refine ⟨?_, trivial⟩
                refine wpList_store_cell rfl 3 _ _ rfl (w6.heap.size + 1) 0 (.int .i64 (j : Int)) rfl rfl rfl rfl 3 _ l10 info_intV (by simp) ?_
                intro w11 s11
                exact hK4 _ _ (FIN.out _ HBQ.out w10 w11 S10.out s11)
        · have e1 : (kd == 1) = false := by simpa using k1
          rw [if_neg (by omega)] at hwi
          refine in_region (by decide) (fun _ _ h => h) ?_
          intro K6 hK6
          go_wp2_with fail
          refine wpIn_cond_false rfl ?_
          refine wpIn_seq ?_
          by_cases k5 : kd = 5
          · have e5 : (kd == 5) = true := by simpa using k5
            rw [if_pos k5] at hwi
            subst hwi
            refine in_region (by decide) (fun _ _ h => h) ?_
            intro K7 hK7
            go_wp2_with fail
            refine wpIn_cond_true rfl ?_
            refine in_region (by decide) (fun _ _ h => h) ?_
            intro K8 hK8
            go_wp2_with fail
            refine wpIn_seq ?_
            refine wpIn_seq ?_
            refine in_region (by decide) (fun _ _ h => h) ?_
            intro K9 hK9
            go_wp2_with fail
            refine wpIn_block ?_
            gi_loopw [18] (fun i wr => ∃ q : Nat, q ≤ 11 ∧ i = .int .i64 q ∧ Below w8.heap.size w8 wr) (fun i _ => 11 - (intOf i).toNat)
            case atStart => exact ⟨0, by omega, rfl, Below.refl _ _⟩
            case round =>
              obtain ⟨q, hq, rfl, hbr⟩ := hrel
              have RW1 := Lib.hid (fun w (h : Below wr.heap.size wr w) => brow h (brow hbr (brow HBQ.out HS.out)))
              have RW2 := Lib.hid (fun w (h : Below wr.heap.size wr w) => brow h (brow hbr (brow HBQ.out HW9.out)))
              refine wpIn_seq ?_
              refine wpIn_seq ?_
              refine in_region (by decide) (fun _ _ h => h) ?_
              intro K10 hK10
              by_cases hlt : q < 11
              · have eQ : decide ((q : Int) < 11) = true := decide_eq_true (by omega)
                go_wp2_with fail
                refine wpIn_cond_true rfl ?_
                refine wpIn_skip ?_
                simp only [Exit.then]
                refine wpIn_seq ?_
                refine wpIn_block ?_
                refine wpIn_seq ?_
                obtain ⟨rq, hrq⟩ : ∃ rq, (its E (ini cb cl cf fuel ys) k).r q = rq := ⟨_, rfl⟩
                obtain ⟨s1, hs1⟩ : ∃ s1, (its E (ini cb cl cf fuel ys) k).set = s1 := ⟨_, rfl⟩
                obtain ⟨s2, hs2⟩ : ∃ s2, (its E (ini cb cl cf fuel ys) k').set = s2 := ⟨_, rfl⟩
                have C1 := Lib.hid (fun w h => cell_row (RW1.out w h) (show (its E (ini cb cl cf fuel ys) k).snap.toArray[q]? = some (.int .u64 rq) by rw [← hrq]; exact snap_reg _ _ _ hlt))
                have C3 := Lib.hid (fun w h => cell_row (RW1.out w h) (show (its E (ini cb cl cf fuel ys) k).snap.toArray[11]? = some (.int .i64 s1) by rw [← hs1]; exact snap_set _ _ _))
                have C4 := Lib.hid (fun w h => cell_row (RW2.out w h) (show (its E (ini cb cl cf fuel ys) k').snap.toArray[11]? = some (.int .i64 s2) by rw [← hs2]; exact snap_set _ _ _))
                cases hwq : sbI 63 q == 0 with
                | true =>
                  obtain ⟨hrr, hbb⟩ := ST.out.1 q hlt (by simpa using hwq)
                  have C2 := Lib.hid (fun w h => cell_row (RW2.out w h) (show (its E (ini cb cl cf fuel ys) k').snap.toArray[q]? = some (.int .u64 rq) by rw [← hrq, hrr]; exact snap_reg _ _ _ hlt))
                  have hbit : sbI s2 q = sbI s1 q := by rw [← hs1, ← hs2, hbb]
                  refine go_regd (F := Fence.wide.inRound l) (m := 4 - 1 - 1) (fun fl u w => Below wr.heap.size wr w) [] [] [some (.int .i64 63), some (.int .i64 (q : Int)), some (.int .i64 (63 / 2 ^ q)), some (.int .i64 (sbI 63 q)), some (.bool true), some (.bool true), some (.int .i64 (q : Int)), some (.pointer (some ⟨sb, 0, none⟩)), some (.pointer (some ⟨sb, q, none⟩)), some (.int .u64 rq), some (.int .i64 (q : Int)), some (.pointer (some ⟨w6.heap.size, 0, none⟩)), some (.pointer (some ⟨w6.heap.size, q, none⟩)), some (.int .u64 rq), some (.bool false), some (.bool false), some (.pointer (some ⟨sb, 11, none⟩)), some (.int .i64 s1), some (.int .i64 (q : Int)), some (.int .i64 (s1 / 2 ^ q)), some (.int .i64 (sbI s1 q)), some (.pointer (some ⟨w6.heap.size, 11, none⟩)), some (.int .i64 s2), some (.int .i64 (q : Int)), some (.int .i64 (s2 / 2 ^ q)), some (.int .i64 (sbI s1 q)), some (.bool false), some (.bool false), some (.bool false)] mo (fun fl fl' u u' w hK hD h => h) rfl rfl (by kernel_rfl) (fun fl w1 hfl b _ => b) (
                  yc (@fun fl ax wx cx => cx.iv (fun _ => trivial) (ex_mv rfl (cx.rq 17 rfl)) rfl rfl rfl) <|
                  yc (@fun fl ax wx cx => cx.iv (fun _ => trivial) (ex_mv rfl (cx.rq 18 rfl)) rfl rfl rfl) <|
                  yc (@fun fl ax wx cx => cx.iv (fun _ => trivial) (ex_shrS rfl (cx.u 0 rfl) (cx.u 1 rfl) hlt) rfl rfl rfl) <|
                  yc (@fun fl ax wx cx => cx.iv (fun _ => trivial) (ex_andS rfl (cx.u 0 rfl) rfl) rfl rfl rfl) <|
                  yc (@fun fl ax wx cx => cx.iv (fun _ => trivial) ((ex_eqS rfl (cx.u 0 rfl) rfl).trans (by rw [hwq])) rfl rfl rfl) <|
                  yc (@fun fl ax wx cx => cx.iv (fun _ => trivial) (ex_mv rfl (cx.u 0 rfl)) rfl rfl rfl) <|
                  yc (@fun fl ax wx cx => cx.ival (fun _ => trivial) (cx.wy rfl rfl rfl rfl (cx.u 0 rfl)) (ex_mv rfl (cx.rq 18 rfl)) rfl rfl rfl rfl rfl) <|
                  yc (@fun fl ax wx cx => cx.ival (fun _ => trivial) (cx.wy rfl rfl rfl rfl (cx.u 0 rfl)) (ex_fa rfl (cx.rq 15 rfl) (faSnap0 _ _)) rfl rfl rfl rfl rfl) <|
                  yc (@fun fl ax wx cx => cx.ival (fun _ => trivial) (cx.wy rfl rfl rfl rfl (cx.u 2 rfl)) (ex_ixR rfl (cx.u 0 rfl) (cx.u 1 rfl) hlt) rfl rfl rfl rfl rfl) <|
                  yc (@fun fl ax wx cx => cx.ival (fun _ => trivial) (cx.wy rfl rfl rfl rfl (cx.u 1 rfl)) (ex_ldc rfl (cx.u 0 rfl) (C1.out wx cx.S) Try.isAgg30) rfl rfl rfl rfl rfl) <|
                  yc (@fun fl ax wx cx => cx.ival (fun _ => trivial) (cx.wy rfl rfl rfl rfl (cx.u 0 rfl)) (ex_mv rfl (cx.rq 18 rfl)) rfl rfl rfl rfl rfl) <|
                  yc (@fun fl ax wx cx => cx.ival (fun _ => trivial) (cx.wy rfl rfl rfl rfl (cx.u 0 rfl)) (ex_fa rfl (cx.rq 12 rfl) (faSnap0 _ _)) rfl rfl rfl rfl rfl) <|
                  yc (@fun fl ax wx cx => cx.ival (fun _ => trivial) (cx.wy rfl rfl rfl rfl (cx.u 2 rfl)) (ex_ixR rfl (cx.u 0 rfl) (cx.u 1 rfl) hlt) rfl rfl rfl rfl rfl) <|
                  yc (@fun fl ax wx cx => cx.ival (fun _ => trivial) (cx.wy rfl rfl rfl rfl (cx.u 1 rfl)) (ex_ldc rfl (cx.u 0 rfl) (C2.out wx cx.S) Try.isAgg30) rfl rfl rfl rfl rfl) <|
                  yc (@fun fl ax wx cx => cx.ival (fun _ => trivial) (cx.wy rfl rfl rfl rfl (cx.u 2 rfl)) (ex_neX rfl (cx.u 0 rfl) (cx.u 1 rfl)) rfl rfl rfl rfl rfl) <|
                  yc (@fun fl ax wx cx => cx.ival (fun _ => trivial) (cx.wy rfl rfl rfl rfl (cx.u 1 rfl)) (ex_mv rfl (cx.u 0 rfl)) rfl rfl rfl rfl rfl) <|
                  yc (@fun fl ax wx cx => cx.ival (fun _ => trivial) (cx.wy rfl rfl rfl rfl (cx.u 0 rfl)) (ex_fa rfl (cx.rq 15 rfl) (faSnap1 _ _)) rfl rfl rfl rfl rfl) <|
                  yc (@fun fl ax wx cx => cx.ival (fun _ => trivial) (cx.wy rfl rfl rfl rfl (cx.u 1 rfl)) (ex_ldc rfl (cx.u 0 rfl) (C3.out wx cx.S) Try.isAgg3) rfl rfl rfl rfl rfl) <|
                  yc (@fun fl ax wx cx => cx.ival (fun _ => trivial) (cx.wy rfl rfl rfl rfl (cx.u 0 rfl)) (ex_mv rfl (cx.rq 18 rfl)) rfl rfl rfl rfl rfl) <|
                  yc (@fun fl ax wx cx => cx.ival (fun _ => trivial) (cx.wy rfl rfl rfl rfl (cx.u 2 rfl)) (ex_shrS rfl (cx.u 0 rfl) (cx.u 1 rfl) hlt) rfl rfl rfl rfl rfl) <|
                  yc (@fun fl ax wx cx => cx.ival (fun _ => trivial) (cx.wy rfl rfl rfl rfl (cx.u 1 rfl)) (ex_andS rfl (cx.u 0 rfl) rfl) rfl rfl rfl rfl rfl) <|
                  yc (@fun fl ax wx cx => cx.ival (fun _ => trivial) (cx.wy rfl rfl rfl rfl (cx.u 0 rfl)) (ex_fa rfl (cx.rq 12 rfl) (faSnap1 _ _)) rfl rfl rfl rfl rfl) <|
                  yc (@fun fl ax wx cx => cx.ival (fun _ => trivial) (cx.wy rfl rfl rfl rfl (cx.u 1 rfl)) (ex_ldc rfl (cx.u 0 rfl) (C4.out wx cx.S) Try.isAgg3) rfl rfl rfl rfl rfl) <|
                  yc (@fun fl ax wx cx => cx.ival (fun _ => trivial) (cx.wy rfl rfl rfl rfl (cx.u 0 rfl)) (ex_mv rfl (cx.rq 18 rfl)) rfl rfl rfl rfl rfl) <|
                  yc (@fun fl ax wx cx => cx.ival (fun _ => trivial) (cx.wy rfl rfl rfl rfl (cx.u 2 rfl)) (ex_shrS rfl (cx.u 0 rfl) (cx.u 1 rfl) hlt) rfl rfl rfl rfl rfl) <|
                  yc (@fun fl ax wx cx => cx.ival (fun _ => trivial) (cx.wy rfl rfl rfl rfl (cx.u 1 rfl)) ((ex_andS (n := s2) (q := q) rfl (cx.u 0 rfl) rfl).trans (by rw [hbit])) rfl rfl rfl rfl rfl) <|
                  yc (@fun fl ax wx cx => cx.ival (fun _ => trivial) (cx.wy rfl rfl rfl rfl (cx.u 2 rfl)) (ex_neX rfl (cx.u 0 rfl) (cx.u 1 rfl)) rfl rfl rfl rfl rfl) <|
                  yc (@fun fl ax wx cx => cx.ival (fun _ => trivial) (cx.wy rfl rfl rfl rfl (cx.u 2 rfl)) (ex_pf rfl (cx.u 0 rfl) (cx.u 1 rfl)) rfl rfl rfl rfl rfl) <|
                  yc (@fun fl ax wx cx => cx.iv (fun _ => trivial) (ex_pt rfl (cx.u 0 rfl) (cx.u 1 rfl)) rfl rfl rfl) <|
                  yn) ?_
                  intro a9 w9 f9
                  obtain ⟨fl9, _, hb9⟩ := f9.s
                  have g101 := f9.v 28 rfl rfl rfl
                  rw [f9.frame rfl rfl]
                  clear f9
                  rw [show outs _ (fun d => a9.tmps.getD d undef) = [(73, a9.tmps.getD 73 undef), (74, a9.tmps.getD 74 undef), (75, a9.tmps.getD 75 undef), (76, a9.tmps.getD 76 undef), (77, a9.tmps.getD 77 undef), (78, a9.tmps.getD 78 undef), (79, a9.tmps.getD 79 undef), (80, a9.tmps.getD 80 undef), (81, a9.tmps.getD 81 undef), (82, a9.tmps.getD 82 undef), (83, a9.tmps.getD 83 undef), (84, a9.tmps.getD 84 undef), (85, a9.tmps.getD 85 undef), (86, a9.tmps.getD 86 undef), (87, a9.tmps.getD 87 undef), (88, a9.tmps.getD 88 undef), (89, a9.tmps.getD 89 undef), (90, a9.tmps.getD 90 undef), (91, a9.tmps.getD 91 undef), (92, a9.tmps.getD 92 undef), (93, a9.tmps.getD 93 undef), (94, a9.tmps.getD 94 undef), (95, a9.tmps.getD 95 undef), (96, a9.tmps.getD 96 undef), (97, a9.tmps.getD 97 undef), (98, a9.tmps.getD 98 undef), (99, a9.tmps.getD 99 undef), (100, a9.tmps.getD 100 undef), (101, a9.tmps.getD 101 undef)] by kernel_rfl, g101]
                  simp only [putAll, List.setIfInBounds_toArray, List.set_cons_zero, List.set_cons_succ, Exit.then]
                  generalize a9.tmps.getD 73 undef = y0
                  generalize a9.tmps.getD 74 undef = y1
                  generalize a9.tmps.getD 75 undef = y2
                  generalize a9.tmps.getD 76 undef = y3
                  generalize a9.tmps.getD 77 undef = y4
                  generalize a9.tmps.getD 78 undef = y5
                  generalize a9.tmps.getD 79 undef = y6
                  generalize a9.tmps.getD 80 undef = y7
                  generalize a9.tmps.getD 81 undef = y8
                  generalize a9.tmps.getD 82 undef = y9
                  generalize a9.tmps.getD 83 undef = y10
                  generalize a9.tmps.getD 84 undef = y11
                  generalize a9.tmps.getD 85 undef = y12
                  generalize a9.tmps.getD 86 undef = y13
                  generalize a9.tmps.getD 87 undef = y14
                  generalize a9.tmps.getD 88 undef = y15
                  generalize a9.tmps.getD 89 undef = y16
                  generalize a9.tmps.getD 90 undef = y17
                  generalize a9.tmps.getD 91 undef = y18
                  generalize a9.tmps.getD 92 undef = y19
                  generalize a9.tmps.getD 93 undef = y20
                  generalize a9.tmps.getD 94 undef = y21
                  generalize a9.tmps.getD 95 undef = y22
                  generalize a9.tmps.getD 96 undef = y23
                  generalize a9.tmps.getD 97 undef = y24
                  generalize a9.tmps.getD 98 undef = y25
                  generalize a9.tmps.getD 99 undef = y26
                  generalize a9.tmps.getD 100 undef = y27
                  clear g101
                  refine wpIn_cond_false rfl ?_
                  refine wpIn_skip ?_
                  simp only [Exit.then, Exit.inBlock]
                  refine in_region (by decide) (fun _ _ h => h) ?_
                  intro K11 hK11
                  go_wp2_with fail
                  go_roundw
                  case rel => exact ⟨q + 1, by omega, by go_num, hbr.trans (hb9.mono hbr.size)⟩
                  case measure => simp [intOf]; omega
                | false =>
                  refine go_regd (F := Fence.wide.inRound l) (m := 4 - 1 - 1) (fun fl u w => Below wr.heap.size wr w) [] [] [some (.int .i64 63), some (.int .i64 (q : Int)), some (.int .i64 (63 / 2 ^ q)), some (.int .i64 (sbI 63 q)), some (.bool false), some (.bool false), some (undef), some (undef), some (undef), some (undef), some (undef), some (undef), some (undef), some (undef), some (undef), some (undef), some (undef), some (undef), some (undef), some (undef), some (undef), some (undef), some (undef), some (undef), some (undef), some (undef), some (undef), some (undef), some (.bool false)] mo (fun fl fl' u u' w hK hD h => h) rfl rfl (by kernel_rfl) (fun fl w1 hfl b _ => b) (
                  yc (@fun fl ax wx cx => cx.iv (fun _ => trivial) (ex_mv rfl (cx.rq 17 rfl)) rfl rfl rfl) <|
                  yc (@fun fl ax wx cx => cx.iv (fun _ => trivial) (ex_mv rfl (cx.rq 18 rfl)) rfl rfl rfl) <|
                  yc (@fun fl ax wx cx => cx.iv (fun _ => trivial) (ex_shrS rfl (cx.u 0 rfl) (cx.u 1 rfl) hlt) rfl rfl rfl) <|
                  yc (@fun fl ax wx cx => cx.iv (fun _ => trivial) (ex_andS rfl (cx.u 0 rfl) rfl) rfl rfl rfl) <|
                  yc (@fun fl ax wx cx => cx.iv (fun _ => trivial) ((ex_eqS rfl (cx.u 0 rfl) rfl).trans (by rw [hwq])) rfl rfl rfl) <|
                  yc (@fun fl ax wx cx => cx.iv (fun _ => trivial) (ex_mv rfl (cx.u 0 rfl)) rfl rfl rfl) <|
                  yc (@fun fl ax wx cx => cx.ino (fun _ => trivial) (cx.wo rfl rfl rfl rfl (cx.u 0 rfl) rfl) rfl rfl rfl rfl) <|
                  yc (@fun fl ax wx cx => cx.ino (fun _ => trivial) (cx.wo rfl rfl rfl rfl (cx.u 0 rfl) rfl) rfl rfl rfl rfl) <|
                  yc (@fun fl ax wx cx => cx.ino (fun _ => trivial) (cx.wo rfl rfl rfl rfl (cx.u 2 rfl) rfl) rfl rfl rfl rfl) <|
                  yc (@fun fl ax wx cx => cx.ino (fun _ => trivial) (cx.wo rfl rfl rfl rfl (cx.u 1 rfl) rfl) rfl rfl rfl rfl) <|
                  yc (@fun fl ax wx cx => cx.ino (fun _ => trivial) (cx.wo rfl rfl rfl rfl (cx.u 0 rfl) rfl) rfl rfl rfl rfl) <|
                  yc (@fun fl ax wx cx => cx.ino (fun _ => trivial) (cx.wo rfl rfl rfl rfl (cx.u 0 rfl) rfl) rfl rfl rfl rfl) <|
                  yc (@fun fl ax wx cx => cx.ino (fun _ => trivial) (cx.wo rfl rfl rfl rfl (cx.u 2 rfl) rfl) rfl rfl rfl rfl) <|
                  yc (@fun fl ax wx cx => cx.ino (fun _ => trivial) (cx.wo rfl rfl rfl rfl (cx.u 1 rfl) rfl) rfl rfl rfl rfl) <|
                  yc (@fun fl ax wx cx => cx.ino (fun _ => trivial) (cx.wo rfl rfl rfl rfl (cx.u 2 rfl) rfl) rfl rfl rfl rfl) <|
                  yc (@fun fl ax wx cx => cx.ino (fun _ => trivial) (cx.wo rfl rfl rfl rfl (cx.u 1 rfl) rfl) rfl rfl rfl rfl) <|
                  yc (@fun fl ax wx cx => cx.ino (fun _ => trivial) (wantedU rfl rfl rfl (cx.u 0 rfl)) rfl rfl rfl rfl) <|
                  yc (@fun fl ax wx cx => cx.ino (fun _ => trivial) (wantedU rfl rfl rfl (cx.u 1 rfl)) rfl rfl rfl rfl) <|
                  yc (@fun fl ax wx cx => cx.ino (fun _ => trivial) (wantedU rfl rfl rfl (cx.u 0 rfl)) rfl rfl rfl rfl) <|
                  yc (@fun fl ax wx cx => cx.ino (fun _ => trivial) (wantedU rfl rfl rfl (cx.u 2 rfl)) rfl rfl rfl rfl) <|
                  yc (@fun fl ax wx cx => cx.ino (fun _ => trivial) (wantedU rfl rfl rfl (cx.u 1 rfl)) rfl rfl rfl rfl) <|
                  yc (@fun fl ax wx cx => cx.ino (fun _ => trivial) (wantedU rfl rfl rfl (cx.u 0 rfl)) rfl rfl rfl rfl) <|
                  yc (@fun fl ax wx cx => cx.ino (fun _ => trivial) (wantedU rfl rfl rfl (cx.u 1 rfl)) rfl rfl rfl rfl) <|
                  yc (@fun fl ax wx cx => cx.ino (fun _ => trivial) (wantedU rfl rfl rfl (cx.u 0 rfl)) rfl rfl rfl rfl) <|
                  yc (@fun fl ax wx cx => cx.ino (fun _ => trivial) (wantedU rfl rfl rfl (cx.u 2 rfl)) rfl rfl rfl rfl) <|
                  yc (@fun fl ax wx cx => cx.ino (fun _ => trivial) (wantedU rfl rfl rfl (cx.u 1 rfl)) rfl rfl rfl rfl) <|
                  yc (@fun fl ax wx cx => cx.ino (fun _ => trivial) (wantedU rfl rfl rfl (cx.u 2 rfl)) rfl rfl rfl rfl) <|
                  yc (@fun fl ax wx cx => cx.ino (fun _ => trivial) (cx.wo rfl rfl rfl rfl (cx.u 2 rfl) rfl) rfl rfl rfl rfl) <|
                  yc (@fun fl ax wx cx => cx.iv (fun _ => trivial) (ex_pf rfl (cx.u 0 rfl) rfl) rfl rfl rfl) <|
                  yn) ?_
                  intro a9 w9 f9
                  obtain ⟨fl9, _, hb9⟩ := f9.s
                  have g101 := f9.v 28 rfl rfl rfl
                  rw [f9.frame rfl rfl]
                  clear f9
                  rw [show outs _ (fun d => a9.tmps.getD d undef) = [(73, a9.tmps.getD 73 undef), (74, a9.tmps.getD 74 undef), (75, a9.tmps.getD 75 undef), (76, a9.tmps.getD 76 undef), (77, a9.tmps.getD 77 undef), (78, a9.tmps.getD 78 undef), (79, a9.tmps.getD 79 undef), (80, a9.tmps.getD 80 undef), (81, a9.tmps.getD 81 undef), (82, a9.tmps.getD 82 undef), (83, a9.tmps.getD 83 undef), (84, a9.tmps.getD 84 undef), (85, a9.tmps.getD 85 undef), (86, a9.tmps.getD 86 undef), (87, a9.tmps.getD 87 undef), (88, a9.tmps.getD 88 undef), (89, a9.tmps.getD 89 undef), (90, a9.tmps.getD 90 undef), (91, a9.tmps.getD 91 undef), (92, a9.tmps.getD 92 undef), (93, a9.tmps.getD 93 undef), (94, a9.tmps.getD 94 undef), (95, a9.tmps.getD 95 undef), (96, a9.tmps.getD 96 undef), (97, a9.tmps.getD 97 undef), (98, a9.tmps.getD 98 undef), (99, a9.tmps.getD 99 undef), (100, a9.tmps.getD 100 undef), (101, a9.tmps.getD 101 undef)] by kernel_rfl, g101]
                  simp only [putAll, List.setIfInBounds_toArray, List.set_cons_zero, List.set_cons_succ, Exit.then]
                  generalize a9.tmps.getD 73 undef = y0
                  generalize a9.tmps.getD 74 undef = y1
                  generalize a9.tmps.getD 75 undef = y2
                  generalize a9.tmps.getD 76 undef = y3
                  generalize a9.tmps.getD 77 undef = y4
                  generalize a9.tmps.getD 78 undef = y5
                  generalize a9.tmps.getD 79 undef = y6
                  generalize a9.tmps.getD 80 undef = y7
                  generalize a9.tmps.getD 81 undef = y8
                  generalize a9.tmps.getD 82 undef = y9
                  generalize a9.tmps.getD 83 undef = y10
                  generalize a9.tmps.getD 84 undef = y11
                  generalize a9.tmps.getD 85 undef = y12
                  generalize a9.tmps.getD 86 undef = y13
                  generalize a9.tmps.getD 87 undef = y14
                  generalize a9.tmps.getD 88 undef = y15
                  generalize a9.tmps.getD 89 undef = y16
                  generalize a9.tmps.getD 90 undef = y17
                  generalize a9.tmps.getD 91 undef = y18
                  generalize a9.tmps.getD 92 undef = y19
                  generalize a9.tmps.getD 93 undef = y20
                  generalize a9.tmps.getD 94 undef = y21
                  generalize a9.tmps.getD 95 undef = y22
                  generalize a9.tmps.getD 96 undef = y23
                  generalize a9.tmps.getD 97 undef = y24
                  generalize a9.tmps.getD 98 undef = y25
                  generalize a9.tmps.getD 99 undef = y26
                  generalize a9.tmps.getD 100 undef = y27
                  clear g101
                  refine wpIn_cond_false rfl ?_
                  refine wpIn_skip ?_
                  simp only [Exit.then, Exit.inBlock]
                  refine in_region (by decide) (fun _ _ h => h) ?_
                  intro K11 hK11
                  go_wp2_with fail
                  go_roundw
                  case rel => exact ⟨q + 1, by omega, by go_num, hbr.trans (hb9.mono hbr.size)⟩
                  case measure => simp [intOf]; omega
              · obtain rfl : q = 11 := by omega
                go_wp2_with fail
                refine wpIn_cond_false rfl ?_
                refine wpIn_exit ?_
                simp only [Exit.then, Exit.inBlock, if_true]
                refine wpIn_seq ?_
                have hk8 : wr.cell? ⟨W9.heap.size, 0, none⟩ = some (.int .i8 kd) := cell_row (brow hbr HX8.out) KD0.out
                by_cases k2 : kd = 2
                · omega
                · have e2 : (kd != 2) = true := by simpa using k2
                  obtain ⟨gm, hgm⟩ : ∃ gm, (its E (ini cb cl cf fuel ys) k).mem.g = gm := ⟨_, rfl⟩
                  have hmm := ST.out.2 k2
                  have C5 := Lib.hid (show (loadVar 49 ⟨sb, 12, none⟩).run Try.prog wr = .ok (.agg (frmL gm).toArray) wr by rw [← hgm]; exact load_frm (RW1.out wr (Below.refl _ _)))
                  have C6 := Lib.hid (show (loadVar 49 ⟨w6.heap.size, 12, none⟩).run Try.prog wr = .ok (.agg (frmL gm).toArray) wr by rw [← hgm, hmm]; exact load_frm (RW2.out wr (Below.refl _ _)))
                  refine in_region (by decide) (fun _ _ h => h) ?_
                  intro K12 hK12
                  go_wp2_with (first | (refine wpList_ld64 rfl _ rfl sb rfl gm C5.out ?_) | (refine wpList_ld64 rfl _ rfl w6.heap.size rfl gm C6.out ?_) | (refine wpList_ne64 rfl _ _ _ rfl gm rfl rfl ?_))
                  refine wpIn_cond_false rfl ?_
                  refine wpIn_skip ?_
                  simp only [Exit.then]
                  have HBQ := Lib.hid (HBQ.out.trans (hbr.mono HBQ.out.size))
                  have HS := Lib.hid (brow HBQ.out HS.out)
                  have HW9 := Lib.hid (brow HBQ.out HW9.out)
                  have HL9 := Lib.hid (brow HBQ.out HL9.out)
                  refine in_region_seq (by decide) (fun _ _ h => h) ?_
                  intro K3 hK3
                  go_wp2_with (with_reducible refine (halt_load 51 _ rfl ?_))
                  refine ⟨?_, trivial⟩
                  refine wpList_load_row rfl 51 _ rfl sb rfl 51 (its E (ini cb cl cf fuel ys) k).snap.toArray (0, 0) _ HS.out Try.underlying51 rfl info_snap ?_
                  refine wpList_store_is rfl 51 _ _ rfl w6.heap.size (its E (ini cb cl cf fuel ys) k).snap.toArray rfl rfl 51 _ HW9.out info_snap HWS.out (snap_one _ _ _) ?_
                  intro w10 s10
                  have l10 := (s10.other (w6.heap.size + 1) (by omega)).trans HL9.out
                  have S10 := Lib.hid s10
                  refine hK3 _ _ ?_
                  clear s10 hK3
                  refine in_region (by decide) (fun _ _ h => h) ?_
                  intro K4 hK4
                  go_wp2_with (with_reducible refine (halt_store 3 _ _ rfl ?_))
                  refine ⟨?_, trivial⟩
                  refine wpList_store_cell rfl 3 _ _ rfl (w6.heap.size + 1) 0 (.int .i64 (j : Int)) rfl rfl rfl rfl 3 _ l10 info_intV (by simp) ?_
                  intro w11 s11
                  exact hK4 _ _ (FIN.out _ HBQ.out w10 w11 S10.out s11)
          · have e5 : (kd == 5) = false := by simpa using k5
            rw [if_neg k5] at hwi
            subst hwi
            refine in_region (by decide) (fun _ _ h => h) ?_
            intro K7 hK7
            go_wp2_with fail
            refine wpIn_cond_false rfl ?_
            refine wpIn_skip ?_
            simp only [Exit.then, Exit.inBlock]
            refine wpIn_seq ?_
            refine wpIn_seq ?_
            refine in_region (by decide) (fun _ _ h => h) ?_
            intro K9 hK9
            go_wp2_with fail
            refine wpIn_block ?_
            gi_loopw [18] (fun i wr => ∃ q : Nat, q ≤ 11 ∧ i = .int .i64 q ∧ Below w8.heap.size w8 wr) (fun i _ => 11 - (intOf i).toNat)
            case atStart => exact ⟨0, by omega, rfl, Below.refl _ _⟩
            case round =>
              obtain ⟨q, hq, rfl, hbr⟩ := hrel
              have RW1 := Lib.hid (fun w (h : Below wr.heap.size wr w) => brow h (brow hbr (brow HBQ.out HS.out)))
              have RW2 := Lib.hid (fun w (h : Below wr.heap.size wr w) => brow h (brow hbr (brow HBQ.out HW9.out)))
              refine wpIn_seq ?_
              refine wpIn_seq ?_
              refine in_region (by decide) (fun _ _ h => h) ?_
              intro K10 hK10
              by_cases hlt : q < 11
              · have eQ : decide ((q : Int) < 11) = true := decide_eq_true (by omega)
                go_wp2_with fail
                refine wpIn_cond_true rfl ?_
                refine wpIn_skip ?_
                simp only [Exit.then]
                refine wpIn_seq ?_
                refine wpIn_block ?_
                refine wpIn_seq ?_
                obtain ⟨rq, hrq⟩ : ∃ rq, (its E (ini cb cl cf fuel ys) k).r q = rq := ⟨_, rfl⟩
                obtain ⟨s1, hs1⟩ : ∃ s1, (its E (ini cb cl cf fuel ys) k).set = s1 := ⟨_, rfl⟩
                obtain ⟨s2, hs2⟩ : ∃ s2, (its E (ini cb cl cf fuel ys) k').set = s2 := ⟨_, rfl⟩
                have C1 := Lib.hid (fun w h => cell_row (RW1.out w h) (show (its E (ini cb cl cf fuel ys) k).snap.toArray[q]? = some (.int .u64 rq) by rw [← hrq]; exact snap_reg _ _ _ hlt))
                have C3 := Lib.hid (fun w h => cell_row (RW1.out w h) (show (its E (ini cb cl cf fuel ys) k).snap.toArray[11]? = some (.int .i64 s1) by rw [← hs1]; exact snap_set _ _ _))
                have C4 := Lib.hid (fun w h => cell_row (RW2.out w h) (show (its E (ini cb cl cf fuel ys) k').snap.toArray[11]? = some (.int .i64 s2) by rw [← hs2]; exact snap_set _ _ _))
                cases hwq : sbI 0 q == 0 with
                | true =>
                  obtain ⟨hrr, hbb⟩ := ST.out.1 q hlt (by simpa using hwq)
                  have C2 := Lib.hid (fun w h => cell_row (RW2.out w h) (show (its E (ini cb cl cf fuel ys) k').snap.toArray[q]? = some (.int .u64 rq) by rw [← hrq, hrr]; exact snap_reg _ _ _ hlt))
                  have hbit : sbI s2 q = sbI s1 q := by rw [← hs1, ← hs2, hbb]
                  refine go_regd (F := Fence.wide.inRound l) (m := 4 - 1 - 1) (fun fl u w => Below wr.heap.size wr w) [] [] [some (.int .i64 0), some (.int .i64 (q : Int)), some (.int .i64 (0 / 2 ^ q)), some (.int .i64 (sbI 0 q)), some (.bool true), some (.bool true), some (.int .i64 (q : Int)), some (.pointer (some ⟨sb, 0, none⟩)), some (.pointer (some ⟨sb, q, none⟩)), some (.int .u64 rq), some (.int .i64 (q : Int)), some (.pointer (some ⟨w6.heap.size, 0, none⟩)), some (.pointer (some ⟨w6.heap.size, q, none⟩)), some (.int .u64 rq), some (.bool false), some (.bool false), some (.pointer (some ⟨sb, 11, none⟩)), some (.int .i64 s1), some (.int .i64 (q : Int)), some (.int .i64 (s1 / 2 ^ q)), some (.int .i64 (sbI s1 q)), some (.pointer (some ⟨w6.heap.size, 11, none⟩)), some (.int .i64 s2), some (.int .i64 (q : Int)), some (.int .i64 (s2 / 2 ^ q)), some (.int .i64 (sbI s1 q)), some (.bool false), some (.bool false), some (.bool false)] mo (fun fl fl' u u' w hK hD h => h) rfl rfl (by kernel_rfl) (fun fl w1 hfl b _ => b) (
                  yc (@fun fl ax wx cx => cx.iv (fun _ => trivial) (ex_mv rfl (cx.rq 17 rfl)) rfl rfl rfl) <|
                  yc (@fun fl ax wx cx => cx.iv (fun _ => trivial) (ex_mv rfl (cx.rq 18 rfl)) rfl rfl rfl) <|
                  yc (@fun fl ax wx cx => cx.iv (fun _ => trivial) (ex_shrS rfl (cx.u 0 rfl) (cx.u 1 rfl) hlt) rfl rfl rfl) <|
                  yc (@fun fl ax wx cx => cx.iv (fun _ => trivial) (ex_andS rfl (cx.u 0 rfl) rfl) rfl rfl rfl) <|
                  yc (@fun fl ax wx cx => cx.iv (fun _ => trivial) ((ex_eqS rfl (cx.u 0 rfl) rfl).trans (by rw [hwq])) rfl rfl rfl) <|
                  yc (@fun fl ax wx cx => cx.iv (fun _ => trivial) (ex_mv rfl (cx.u 0 rfl)) rfl rfl rfl) <|
                  yc (@fun fl ax wx cx => cx.ival (fun _ => trivial) (cx.wy rfl rfl rfl rfl (cx.u 0 rfl)) (ex_mv rfl (cx.rq 18 rfl)) rfl rfl rfl rfl rfl) <|
                  yc (@fun fl ax wx cx => cx.ival (fun _ => trivial) (cx.wy rfl rfl rfl rfl (cx.u 0 rfl)) (ex_fa rfl (cx.rq 15 rfl) (faSnap0 _ _)) rfl rfl rfl rfl rfl) <|
                  yc (@fun fl ax wx cx => cx.ival (fun _ => trivial) (cx.wy rfl rfl rfl rfl (cx.u 2 rfl)) (ex_ixR rfl (cx.u 0 rfl) (cx.u 1 rfl) hlt) rfl rfl rfl rfl rfl) <|
                  yc (@fun fl ax wx cx => cx.ival (fun _ => trivial) (cx.wy rfl rfl rfl rfl (cx.u 1 rfl)) (ex_ldc rfl (cx.u 0 rfl) (C1.out wx cx.S) Try.isAgg30) rfl rfl rfl rfl rfl) <|
                  yc (@fun fl ax wx cx => cx.ival (fun _ => trivial) (cx.wy rfl rfl rfl rfl (cx.u 0 rfl)) (ex_mv rfl (cx.rq 18 rfl)) rfl rfl rfl rfl rfl) <|
                  yc (@fun fl ax wx cx => cx.ival (fun _ => trivial) (cx.wy rfl rfl rfl rfl (cx.u 0 rfl)) (ex_fa rfl (cx.rq 12 rfl) (faSnap0 _ _)) rfl rfl rfl rfl rfl) <|
                  yc (@fun fl ax wx cx => cx.ival (fun _ => trivial) (cx.wy rfl rfl rfl rfl (cx.u 2 rfl)) (ex_ixR rfl (cx.u 0 rfl) (cx.u 1 rfl) hlt) rfl rfl rfl rfl rfl) <|
                  yc (@fun fl ax wx cx => cx.ival (fun _ => trivial) (cx.wy rfl rfl rfl rfl (cx.u 1 rfl)) (ex_ldc rfl (cx.u 0 rfl) (C2.out wx cx.S) Try.isAgg30) rfl rfl rfl rfl rfl) <|
                  yc (@fun fl ax wx cx => cx.ival (fun _ => trivial) (cx.wy rfl rfl rfl rfl (cx.u 2 rfl)) (ex_neX rfl (cx.u 0 rfl) (cx.u 1 rfl)) rfl rfl rfl rfl rfl) <|
                  yc (@fun fl ax wx cx => cx.ival (fun _ => trivial) (cx.wy rfl rfl rfl rfl (cx.u 1 rfl)) (ex_mv rfl (cx.u 0 rfl)) rfl rfl rfl rfl rfl) <|
                  yc (@fun fl ax wx cx => cx.ival (fun _ => trivial) (cx.wy rfl rfl rfl rfl (cx.u 0 rfl)) (ex_fa rfl (cx.rq 15 rfl) (faSnap1 _ _)) rfl rfl rfl rfl rfl) <|
                  yc (@fun fl ax wx cx => cx.ival (fun _ => trivial) (cx.wy rfl rfl rfl rfl (cx.u 1 rfl)) (ex_ldc rfl (cx.u 0 rfl) (C3.out wx cx.S) Try.isAgg3) rfl rfl rfl rfl rfl) <|
                  yc (@fun fl ax wx cx => cx.ival (fun _ => trivial) (cx.wy rfl rfl rfl rfl (cx.u 0 rfl)) (ex_mv rfl (cx.rq 18 rfl)) rfl rfl rfl rfl rfl) <|
                  yc (@fun fl ax wx cx => cx.ival (fun _ => trivial) (cx.wy rfl rfl rfl rfl (cx.u 2 rfl)) (ex_shrS rfl (cx.u 0 rfl) (cx.u 1 rfl) hlt) rfl rfl rfl rfl rfl) <|
                  yc (@fun fl ax wx cx => cx.ival (fun _ => trivial) (cx.wy rfl rfl rfl rfl (cx.u 1 rfl)) (ex_andS rfl (cx.u 0 rfl) rfl) rfl rfl rfl rfl rfl) <|
                  yc (@fun fl ax wx cx => cx.ival (fun _ => trivial) (cx.wy rfl rfl rfl rfl (cx.u 0 rfl)) (ex_fa rfl (cx.rq 12 rfl) (faSnap1 _ _)) rfl rfl rfl rfl rfl) <|
                  yc (@fun fl ax wx cx => cx.ival (fun _ => trivial) (cx.wy rfl rfl rfl rfl (cx.u 1 rfl)) (ex_ldc rfl (cx.u 0 rfl) (C4.out wx cx.S) Try.isAgg3) rfl rfl rfl rfl rfl) <|
                  yc (@fun fl ax wx cx => cx.ival (fun _ => trivial) (cx.wy rfl rfl rfl rfl (cx.u 0 rfl)) (ex_mv rfl (cx.rq 18 rfl)) rfl rfl rfl rfl rfl) <|
                  yc (@fun fl ax wx cx => cx.ival (fun _ => trivial) (cx.wy rfl rfl rfl rfl (cx.u 2 rfl)) (ex_shrS rfl (cx.u 0 rfl) (cx.u 1 rfl) hlt) rfl rfl rfl rfl rfl) <|
                  yc (@fun fl ax wx cx => cx.ival (fun _ => trivial) (cx.wy rfl rfl rfl rfl (cx.u 1 rfl)) ((ex_andS (n := s2) (q := q) rfl (cx.u 0 rfl) rfl).trans (by rw [hbit])) rfl rfl rfl rfl rfl) <|
                  yc (@fun fl ax wx cx => cx.ival (fun _ => trivial) (cx.wy rfl rfl rfl rfl (cx.u 2 rfl)) (ex_neX rfl (cx.u 0 rfl) (cx.u 1 rfl)) rfl rfl rfl rfl rfl) <|
                  yc (@fun fl ax wx cx => cx.ival (fun _ => trivial) (cx.wy rfl rfl rfl rfl (cx.u 2 rfl)) (ex_pf rfl (cx.u 0 rfl) (cx.u 1 rfl)) rfl rfl rfl rfl rfl) <|
                  yc (@fun fl ax wx cx => cx.iv (fun _ => trivial) (ex_pt rfl (cx.u 0 rfl) (cx.u 1 rfl)) rfl rfl rfl) <|
                  yn) ?_
                  intro a9 w9 f9
                  obtain ⟨fl9, _, hb9⟩ := f9.s
                  have g101 := f9.v 28 rfl rfl rfl
                  rw [f9.frame rfl rfl]
                  clear f9
                  rw [show outs _ (fun d => a9.tmps.getD d undef) = [(73, a9.tmps.getD 73 undef), (74, a9.tmps.getD 74 undef), (75, a9.tmps.getD 75 undef), (76, a9.tmps.getD 76 undef), (77, a9.tmps.getD 77 undef), (78, a9.tmps.getD 78 undef), (79, a9.tmps.getD 79 undef), (80, a9.tmps.getD 80 undef), (81, a9.tmps.getD 81 undef), (82, a9.tmps.getD 82 undef), (83, a9.tmps.getD 83 undef), (84, a9.tmps.getD 84 undef), (85, a9.tmps.getD 85 undef), (86, a9.tmps.getD 86 undef), (87, a9.tmps.getD 87 undef), (88, a9.tmps.getD 88 undef), (89, a9.tmps.getD 89 undef), (90, a9.tmps.getD 90 undef), (91, a9.tmps.getD 91 undef), (92, a9.tmps.getD 92 undef), (93, a9.tmps.getD 93 undef), (94, a9.tmps.getD 94 undef), (95, a9.tmps.getD 95 undef), (96, a9.tmps.getD 96 undef), (97, a9.tmps.getD 97 undef), (98, a9.tmps.getD 98 undef), (99, a9.tmps.getD 99 undef), (100, a9.tmps.getD 100 undef), (101, a9.tmps.getD 101 undef)] by kernel_rfl, g101]
                  simp only [putAll, List.setIfInBounds_toArray, List.set_cons_zero, List.set_cons_succ, Exit.then]
                  generalize a9.tmps.getD 73 undef = y0
                  generalize a9.tmps.getD 74 undef = y1
                  generalize a9.tmps.getD 75 undef = y2
                  generalize a9.tmps.getD 76 undef = y3
                  generalize a9.tmps.getD 77 undef = y4
                  generalize a9.tmps.getD 78 undef = y5
                  generalize a9.tmps.getD 79 undef = y6
                  generalize a9.tmps.getD 80 undef = y7
                  generalize a9.tmps.getD 81 undef = y8
                  generalize a9.tmps.getD 82 undef = y9
                  generalize a9.tmps.getD 83 undef = y10
                  generalize a9.tmps.getD 84 undef = y11
                  generalize a9.tmps.getD 85 undef = y12
                  generalize a9.tmps.getD 86 undef = y13
                  generalize a9.tmps.getD 87 undef = y14
                  generalize a9.tmps.getD 88 undef = y15
                  generalize a9.tmps.getD 89 undef = y16
                  generalize a9.tmps.getD 90 undef = y17
                  generalize a9.tmps.getD 91 undef = y18
                  generalize a9.tmps.getD 92 undef = y19
                  generalize a9.tmps.getD 93 undef = y20
                  generalize a9.tmps.getD 94 undef = y21
                  generalize a9.tmps.getD 95 undef = y22
                  generalize a9.tmps.getD 96 undef = y23
                  generalize a9.tmps.getD 97 undef = y24
                  generalize a9.tmps.getD 98 undef = y25
                  generalize a9.tmps.getD 99 undef = y26
                  generalize a9.tmps.getD 100 undef = y27
                  clear g101
                  refine wpIn_cond_false rfl ?_
                  refine wpIn_skip ?_
                  simp only [Exit.then, Exit.inBlock]
                  refine in_region (by decide) (fun _ _ h => h) ?_
                  intro K11 hK11
                  go_wp2_with fail
                  go_roundw
                  case rel => exact ⟨q + 1, by omega, by go_num, hbr.trans (hb9.mono hbr.size)⟩
                  case measure => simp [intOf]; omega
                | false =>
                  refine go_regd (F := Fence.wide.inRound l) (m := 4 - 1 - 1) (fun fl u w => Below wr.heap.size wr w) [] [] [some (.int .i64 0), some (.int .i64 (q : Int)), some (.int .i64 (0 / 2 ^ q)), some (.int .i64 (sbI 0 q)), some (.bool false), some (.bool false), some (undef), some (undef), some (undef), some (undef), some (undef), some (undef), some (undef), some (undef), some (undef), some (undef), some (undef), some (undef), some (undef), some (undef), some (undef), some (undef), some (undef), some (undef), some (undef), some (undef), some (undef), some (undef), some (.bool false)] mo (fun fl fl' u u' w hK hD h => h) rfl rfl (by kernel_rfl) (fun fl w1 hfl b _ => b) (
                  yc (@fun fl ax wx cx => cx.iv (fun _ => trivial) (ex_mv rfl (cx.rq 17 rfl)) rfl rfl rfl) <|
                  yc (@fun fl ax wx cx => cx.iv (fun _ => trivial) (ex_mv rfl (cx.rq 18 rfl)) rfl rfl rfl) <|
                  yc (@fun fl ax wx cx => cx.iv (fun _ => trivial) (ex_shrS rfl (cx.u 0 rfl) (cx.u 1 rfl) hlt) rfl rfl rfl) <|
                  yc (@fun fl ax wx cx => cx.iv (fun _ => trivial) (ex_andS rfl (cx.u 0 rfl) rfl) rfl rfl rfl) <|
                  yc (@fun fl ax wx cx => cx.iv (fun _ => trivial) ((ex_eqS rfl (cx.u 0 rfl) rfl).trans (by rw [hwq])) rfl rfl rfl) <|
                  yc (@fun fl ax wx cx => cx.iv (fun _ => trivial) (ex_mv rfl (cx.u 0 rfl)) rfl rfl rfl) <|
                  yc (@fun fl ax wx cx => cx.ino (fun _ => trivial) (cx.wo rfl rfl rfl rfl (cx.u 0 rfl) rfl) rfl rfl rfl rfl) <|
                  yc (@fun fl ax wx cx => cx.ino (fun _ => trivial) (cx.wo rfl rfl rfl rfl (cx.u 0 rfl) rfl) rfl rfl rfl rfl) <|
                  yc (@fun fl ax wx cx => cx.ino (fun _ => trivial) (cx.wo rfl rfl rfl rfl (cx.u 2 rfl) rfl) rfl rfl rfl rfl) <|
                  yc (@fun fl ax wx cx => cx.ino (fun _ => trivial) (cx.wo rfl rfl rfl rfl (cx.u 1 rfl) rfl) rfl rfl rfl rfl) <|
                  yc (@fun fl ax wx cx => cx.ino (fun _ => trivial) (cx.wo rfl rfl rfl rfl (cx.u 0 rfl) rfl) rfl rfl rfl rfl) <|
                  yc (@fun fl ax wx cx => cx.ino (fun _ => trivial) (cx.wo rfl rfl rfl rfl (cx.u 0 rfl) rfl) rfl rfl rfl rfl) <|
                  yc (@fun fl ax wx cx => cx.ino (fun _ => trivial) (cx.wo rfl rfl rfl rfl (cx.u 2 rfl) rfl) rfl rfl rfl rfl) <|
                  yc (@fun fl ax wx cx => cx.ino (fun _ => trivial) (cx.wo rfl rfl rfl rfl (cx.u 1 rfl) rfl) rfl rfl rfl rfl) <|
                  yc (@fun fl ax wx cx => cx.ino (fun _ => trivial) (cx.wo rfl rfl rfl rfl (cx.u 2 rfl) rfl) rfl rfl rfl rfl) <|
                  yc (@fun fl ax wx cx => cx.ino (fun _ => trivial) (cx.wo rfl rfl rfl rfl (cx.u 1 rfl) rfl) rfl rfl rfl rfl) <|
                  yc (@fun fl ax wx cx => cx.ino (fun _ => trivial) (wantedU rfl rfl rfl (cx.u 0 rfl)) rfl rfl rfl rfl) <|
                  yc (@fun fl ax wx cx => cx.ino (fun _ => trivial) (wantedU rfl rfl rfl (cx.u 1 rfl)) rfl rfl rfl rfl) <|
                  yc (@fun fl ax wx cx => cx.ino (fun _ => trivial) (wantedU rfl rfl rfl (cx.u 0 rfl)) rfl rfl rfl rfl) <|
                  yc (@fun fl ax wx cx => cx.ino (fun _ => trivial) (wantedU rfl rfl rfl (cx.u 2 rfl)) rfl rfl rfl rfl) <|
                  yc (@fun fl ax wx cx => cx.ino (fun _ => trivial) (wantedU rfl rfl rfl (cx.u 1 rfl)) rfl rfl rfl rfl) <|
                  yc (@fun fl ax wx cx => cx.ino (fun _ => trivial) (wantedU rfl rfl rfl (cx.u 0 rfl)) rfl rfl rfl rfl) <|
                  yc (@fun fl ax wx cx => cx.ino (fun _ => trivial) (wantedU rfl rfl rfl (cx.u 1 rfl)) rfl rfl rfl rfl) <|
                  yc (@fun fl ax wx cx => cx.ino (fun _ => trivial) (wantedU rfl rfl rfl (cx.u 0 rfl)) rfl rfl rfl rfl) <|
                  yc (@fun fl ax wx cx => cx.ino (fun _ => trivial) (wantedU rfl rfl rfl (cx.u 2 rfl)) rfl rfl rfl rfl) <|
                  yc (@fun fl ax wx cx => cx.ino (fun _ => trivial) (wantedU rfl rfl rfl (cx.u 1 rfl)) rfl rfl rfl rfl) <|
                  yc (@fun fl ax wx cx => cx.ino (fun _ => trivial) (wantedU rfl rfl rfl (cx.u 2 rfl)) rfl rfl rfl rfl) <|
                  yc (@fun fl ax wx cx => cx.ino (fun _ => trivial) (cx.wo rfl rfl rfl rfl (cx.u 2 rfl) rfl) rfl rfl rfl rfl) <|
                  yc (@fun fl ax wx cx => cx.iv (fun _ => trivial) (ex_pf rfl (cx.u 0 rfl) rfl) rfl rfl rfl) <|
                  yn) ?_
                  intro a9 w9 f9
                  obtain ⟨fl9, _, hb9⟩ := f9.s
                  have g101 := f9.v 28 rfl rfl rfl
                  rw [f9.frame rfl rfl]
                  clear f9
                  rw [show outs _ (fun d => a9.tmps.getD d undef) = [(73, a9.tmps.getD 73 undef), (74, a9.tmps.getD 74 undef), (75, a9.tmps.getD 75 undef), (76, a9.tmps.getD 76 undef), (77, a9.tmps.getD 77 undef), (78, a9.tmps.getD 78 undef), (79, a9.tmps.getD 79 undef), (80, a9.tmps.getD 80 undef), (81, a9.tmps.getD 81 undef), (82, a9.tmps.getD 82 undef), (83, a9.tmps.getD 83 undef), (84, a9.tmps.getD 84 undef), (85, a9.tmps.getD 85 undef), (86, a9.tmps.getD 86 undef), (87, a9.tmps.getD 87 undef), (88, a9.tmps.getD 88 undef), (89, a9.tmps.getD 89 undef), (90, a9.tmps.getD 90 undef), (91, a9.tmps.getD 91 undef), (92, a9.tmps.getD 92 undef), (93, a9.tmps.getD 93 undef), (94, a9.tmps.getD 94 undef), (95, a9.tmps.getD 95 undef), (96, a9.tmps.getD 96 undef), (97, a9.tmps.getD 97 undef), (98, a9.tmps.getD 98 undef), (99, a9.tmps.getD 99 undef), (100, a9.tmps.getD 100 undef), (101, a9.tmps.getD 101 undef)] by kernel_rfl, g101]
                  simp only [putAll, List.setIfInBounds_toArray, List.set_cons_zero, List.set_cons_succ, Exit.then]
                  generalize a9.tmps.getD 73 undef = y0
                  generalize a9.tmps.getD 74 undef = y1
                  generalize a9.tmps.getD 75 undef = y2
                  generalize a9.tmps.getD 76 undef = y3
                  generalize a9.tmps.getD 77 undef = y4
                  generalize a9.tmps.getD 78 undef = y5
                  generalize a9.tmps.getD 79 undef = y6
                  generalize a9.tmps.getD 80 undef = y7
                  generalize a9.tmps.getD 81 undef = y8
                  generalize a9.tmps.getD 82 undef = y9
                  generalize a9.tmps.getD 83 undef = y10
                  generalize a9.tmps.getD 84 undef = y11
                  generalize a9.tmps.getD 85 undef = y12
                  generalize a9.tmps.getD 86 undef = y13
                  generalize a9.tmps.getD 87 undef = y14
                  generalize a9.tmps.getD 88 undef = y15
                  generalize a9.tmps.getD 89 undef = y16
                  generalize a9.tmps.getD 90 undef = y17
                  generalize a9.tmps.getD 91 undef = y18
                  generalize a9.tmps.getD 92 undef = y19
                  generalize a9.tmps.getD 93 undef = y20
                  generalize a9.tmps.getD 94 undef = y21
                  generalize a9.tmps.getD 95 undef = y22
                  generalize a9.tmps.getD 96 undef = y23
                  generalize a9.tmps.getD 97 undef = y24
                  generalize a9.tmps.getD 98 undef = y25
                  generalize a9.tmps.getD 99 undef = y26
                  generalize a9.tmps.getD 100 undef = y27
                  clear g101
                  refine wpIn_cond_false rfl ?_
                  refine wpIn_skip ?_
                  simp only [Exit.then, Exit.inBlock]
                  refine in_region (by decide) (fun _ _ h => h) ?_
                  intro K11 hK11
                  go_wp2_with fail
                  go_roundw
                  case rel => exact ⟨q + 1, by omega, by go_num, hbr.trans (hb9.mono hbr.size)⟩
                  case measure => simp [intOf]; omega
              · obtain rfl : q = 11 := by omega
                go_wp2_with fail
                refine wpIn_cond_false rfl ?_
                refine wpIn_exit ?_
                simp only [Exit.then, Exit.inBlock, if_true]
                refine wpIn_seq ?_
                have hk8 : wr.cell? ⟨W9.heap.size, 0, none⟩ = some (.int .i8 kd) := cell_row (brow hbr HX8.out) KD0.out
                by_cases k2 : kd = 2
                · have e2 : (kd != 2) = false := by rw [k2]; rfl
                  refine in_region (by decide) (fun _ _ h => h) ?_
                  intro K12 hK12
                  go_wp2_with (fail)
                  refine wpIn_cond_false rfl ?_
                  refine wpIn_skip ?_
                  simp only [Exit.then]
                  have HBQ := Lib.hid (HBQ.out.trans (hbr.mono HBQ.out.size))
                  have HS := Lib.hid (brow HBQ.out HS.out)
                  have HW9 := Lib.hid (brow HBQ.out HW9.out)
                  have HL9 := Lib.hid (brow HBQ.out HL9.out)
                  refine in_region_seq (by decide) (fun _ _ h => h) ?_
                  intro K3 hK3
                  go_wp2_with (with_reducible refine (halt_load 51 _ rfl ?_))
                  refine ⟨?_, trivial⟩
                  refine wpList_load_row rfl 51 _ rfl sb rfl 51 (its E (ini cb cl cf fuel ys) k).snap.toArray (0, 0) _ HS.out Try.underlying51 rfl info_snap ?_
                  refine wpList_store_is rfl 51 _ _ rfl w6.heap.size (its E (ini cb cl cf fuel ys) k).snap.toArray rfl rfl 51 _ HW9.out info_snap HWS.out (snap_one _ _ _) ?_
                  intro w10 s10
                  have l10 := (s10.other (w6.heap.size + 1) (by omega)).trans HL9.out
                  have S10 := Lib.hid s10
                  refine hK3 _ _ ?_
                  clear s10 hK3
                  refine in_region (by decide) (fun _ _ h => h) ?_
                  intro K4 hK4
                  go_wp2_with (with_reducible refine (halt_store 3 _ _ rfl ?_))
                  refine ⟨?_, trivial⟩
                  refine wpList_store_cell rfl 3 _ _ rfl (w6.heap.size + 1) 0 (.int .i64 (j : Int)) rfl rfl rfl rfl 3 _ l10 info_intV (by simp) ?_
                  intro w11 s11
                  exact hK4 _ _ (FIN.out _ HBQ.out w10 w11 S10.out s11)
                · have e2 : (kd != 2) = true := by simpa using k2
                  obtain ⟨gm, hgm⟩ : ∃ gm, (its E (ini cb cl cf fuel ys) k).mem.g = gm := ⟨_, rfl⟩
                  have hmm := ST.out.2 k2
                  have C5 := Lib.hid (show (loadVar 49 ⟨sb, 12, none⟩).run Try.prog wr = .ok (.agg (frmL gm).toArray) wr by rw [← hgm]; exact load_frm (RW1.out wr (Below.refl _ _)))
                  have C6 := Lib.hid (show (loadVar 49 ⟨w6.heap.size, 12, none⟩).run Try.prog wr = .ok (.agg (frmL gm).toArray) wr by rw [← hgm, hmm]; exact load_frm (RW2.out wr (Below.refl _ _)))
                  refine in_region (by decide) (fun _ _ h => h) ?_
                  intro K12 hK12
                  go_wp2_with (first | (refine wpList_ld64 rfl _ rfl sb rfl gm C5.out ?_) | (refine wpList_ld64 rfl _ rfl w6.heap.size rfl gm C6.out ?_) | (refine wpList_ne64 rfl _ _ _ rfl gm rfl rfl ?_))
                  refine wpIn_cond_false rfl ?_
                  refine wpIn_skip ?_
                  simp only [Exit.then]
                  have HBQ := Lib.hid (HBQ.out.trans (hbr.mono HBQ.out.size))
                  have HS := Lib.hid (brow HBQ.out HS.out)
                  have HW9 := Lib.hid (brow HBQ.out HW9.out)
                  have HL9 := Lib.hid (brow HBQ.out HL9.out)
                  refine in_region_seq (by decide) (fun _ _ h => h) ?_
                  intro K3 hK3
                  go_wp2_with (with_reducible refine (halt_load 51 _ rfl ?_))
                  refine ⟨?_, trivial⟩
                  refine wpList_load_row rfl 51 _ rfl sb rfl 51 (its E (ini cb cl cf fuel ys) k).snap.toArray (0, 0) _ HS.out Try.underlying51 rfl info_snap ?_
                  refine wpList_store_is rfl 51 _ _ rfl w6.heap.size (its E (ini cb cl cf fuel ys) k).snap.toArray rfl rfl 51 _ HW9.out info_snap HWS.out (snap_one _ _ _) ?_
                  intro w10 s10
                  have l10 := (s10.other (w6.heap.size + 1) (by omega)).trans HL9.out
                  have S10 := Lib.hid s10
                  refine hK3 _ _ ?_
                  clear s10 hK3
                  refine in_region (by decide) (fun _ _ h => h) ?_
                  intro K4 hK4
                  go_wp2_with (with_reducible refine (halt_store 3 _ _ rfl ?_))
                  refine ⟨?_, trivial⟩
                  refine wpList_store_cell rfl 3 _ _ rfl (w6.heap.size + 1) 0 (.int .i64 (j : Int)) rfl rfl rfl rfl 3 _ l10 info_intV (by simp) ?_
                  intro w11 s11
                  exact hK4 _ _ (FIN.out _ HBQ.out w10 w11 S10.out s11)
  case done =>
    rintro D9 xs W9 hD ⟨m9, hm, rfl⟩ hC hK
    clear hm
    have zD : W.heap.size + 1 < D9 := by omega
    have HC := Lib.hid hC
    have HKD := Lib.hid hK
    clear hC hK SEQ A6
    go_wp2_with fail
    refine (wakes_any _).mono ?_
    rintro e w10 ⟨rfl, b10⟩
    have r10 := brow b10 HC.out.res
    have k10 := brow b10 HKD.out
    have B10 := Lib.hid (HC.out.bel.trans (b10.mono HC.out.bel.size))
    have zW := HC.out.bel.size
    clear b10
    go_wp2_with (with_reducible refine (halt_store 4 _ _ rfl ?_))
    refine ⟨?_, trivial⟩
    refine wpList_store_cell rfl 4 _ _ rfl (W.heap.size + 1) 0 (.bool true) rfl rfl rfl rfl 4 _ r10 (by kernel_rfl) (by simp) ?_
    intro w11 s11
    have hne : D9 ≠ W.heap.size + 1 := fun e => by omega
    have r11 := s11.row
    have k11 := (s11.other D9 hne).trans k10
    have B11 := Lib.hid (s11.below B10.out (by omega))
    clear s11 r10 k10
    go_wp2_with fail
    have t12 : Trn [D9] w11 (w11.putObj D9 (.deferred none)) := ⟨rfl, rfl, rfl, by simp [World.putObj], fun k _ hn => World.putObj_heap_other (by simpa using hn)⟩
    have r12 := t12.row r11 (by simp; omega)
    refine ⟨by simp, .inl ⟨_, _, rfl, run_takeDeferred k11, _, res_c rfl rfl (load_boolS r12), rfl, B11.out.trans ⟨rfl, rfl, rfl, t12.size, fun k hk => t12.block k (by have := B11.out.size; omega) (by simp; omega)⟩⟩⟩
theorem stays_law (c : Int) (pa : Option Addr) (plen pcap : Nat) (x : Nat → In) (ca : Option Addr) (cl cc : Nat) (cz : List Int) (aa : Option Addr) (al ac : Nat) (az : List Int) (fuel : Int) (W : World) (_ : (Lit.int .i64 c).wf = true) (hI : Insts W pa plen pcap x) (rc : IsRow .u8 W ca cl cc cz)
    (hz : ∀ z ∈ az, 0 ≤ z ∧ z < 18446744073709551616) (hA : WordsAt W aa al ac az) (_ : (Lit.int .i64 fuel).wf = true) :
    Calls Try.prog 5 #[.agg #[.int .i64 c, .slice pa plen pcap], .slice ca cl cc, .slice aa al ac, .int .i64 fuel] W fun e w' => e = .returned (.bool true) ∧ Below W.heap.size W w' := by
  by_cases hg : plen ≤ 100 ∧ cl ≤ 400 ∧ al ≤ 400 ∧ ¬ (2000 < fuel ∧ fuel ≤ 10000)
  case neg => exact stays_great c pa plen pcap ca cl cc aa al ac fuel W hg
  obtain ⟨g1, g2, g3, g4⟩ := hg
  by_cases hchk : (checkI c plen x).2 = 0
  case neg => exact stays_bad c pa plen pcap ca cl cc aa al ac fuel W _ hchk _ _ g1 g2 g3 g4 (fun w h => r_check c pa plen pcap x w (hI.below h)) (fun w h => start_chk c pa plen pcap x ca cl cc aa al ac fuel w (hI.below h) hchk)
  by_cases ha : (cl : Int) = c ∧ 0 ≤ fuel ∧ fuel ≤ 10000
  case neg => exact stays_bad c pa plen pcap ca cl cc aa al ac fuel W 2 (by decide) _ _ g1 g2 g3 g4 (fun w h => r_check c pa plen pcap x w (hI.below h)) (fun w h => start_arg c pa plen pcap x ca cl cc aa al ac fuel w (hI.below h) hchk ha)
  obtain ⟨h1, _, _⟩ := ends_facts hchk
  obtain ⟨b, o, rfl, _⟩ := hI.here (by omega)
  exact stays_ok c b o plen pcap x ca cl cc _ aa al ac az fuel W hI (src_row rc) hA hz hchk ha.1 ha.2.1 ha.2.2 g3 g4
end Go.Proofs.Ythhgcbegcbhaeaa.Mdl
