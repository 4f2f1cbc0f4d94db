/-
  Several texts in one: ModelCountsW.
-/
import Derived.Test.YthhgcbegcbhaeaaMBh42
import Derived.Test.YthhgcbegcbhaeaaMBh43
import Derived.Test.YthhgcbegcbhaeaaMCn04
set_option linter.unusedVariables false
set_option linter.unusedSimpArgs false
set_option linter.unnecessarySimpa false
namespace Go.Proofs.Ythhgcbegcbhaeaa.Mdl
open Go.RowKit Go.Maps Ins Trc Blk
set_option linter.unusedVariables false
set_option linter.unusedSimpArgs false
set_option maxRecDepth 100000

theorem seq_not_nil (eB gB : Nat) (w : World) : (binOp .eql 46 (.func (.func 24) #[] #[.pointer (some ⟨eB, 0, none⟩), .pointer (some ⟨gB, 0, none⟩)]) .nilFunc).run Try.prog w = .ok (.bool false) w := by kernel_rfl
theorem load_bool {w : World} {g : Nat} {v : Bool} (h : w.heap[g]? = some (.cells #[.bool v] 4 (0, 0))) : (loadVar 4 ⟨g, 0, none⟩).run Try.prog w = .ok (.bool v) w := by
  have hc : w.cell? ⟨g, 0, none⟩ = some (.bool v) := by simp only [World.cell?, h]; rfl
  simp [loadVar, hc, go_sem]
theorem faProg (g : Nat) (w : World) : (Instr.fieldAt 24 (.pointer (some ⟨g, 0, none⟩)) 1).run Try.prog w = .ok (.pointer (some ⟨g, 1, none⟩)) w := by simp [go_sem]
theorem load_midM {b o : Nat} (x : In) {w : World} (h : w.rangeAt b o x.cells.toList) : (loadVar 55 ⟨b, o, none⟩).run Try.prog w = .ok (.agg x.cells) w :=
  run_loadVar_mid w b o 55 x.cells.toList _ h Try.underlying55 rfl info_ins
theorem ex_ldw {P : Program} {ρ : Operand → Value} {o : Oper} {w : World} {t : TypeId} {x : Operand} {p : Addr} {v : Value} (ho : o.op = .load t x) (hx : ρ x = .pointer (some p)) (hl : (loadVar t p).run P w = .ok v w) : (execOp ρ o).run P w = .ok (.value v) w := by
  simp [execOp, ho, hx, Instr.loadAt, Instr.sureAddr, hl, Result.andThen_ok]
set_option maxHeartbeats 16000000 in
theorem counts_ok (c : Int) (b o plen pcap : Nat) (x : Nat → In) (ca : Option Addr) (cl cc : Nat) (cf : Nat → Int) (aa : Option Addr) (al ac : Nat) (zs : List Int) (fuel : Int) (W : World) (hI : Insts W (some ⟨b, o, none⟩) plen pcap x) (hS : Src W ca cl cc cf) (hA : WordsAt W aa al ac zs)
    (hz : ∀ z ∈ zs, 0 ≤ z ∧ z < 18446744073709551616) (hchk : (checkI c plen x).2 = 0) (hlen : (cl : Int) = c) (f0 : 0 ≤ fuel) (f1 : fuel ≤ 10000) (h3 : al ≤ 400) (h4 : ¬ (2000 < fuel ∧ fuel ≤ 10000)) :
    Calls Try.prog 4 #[.agg #[.int .i64 c, .slice (some ⟨b, o, none⟩) plen pcap], .slice ca cl cc, .slice aa al ac, .int .i64 fuel] W fun e w' => e = .returned (.bool true) ∧ Below W.heap.size W w' := by
  have mo : Try.prog.follows .mixedOrders = true := by kernel_rfl
  have hle := hI.le
  have hfit := hI.fit
  obtain ⟨h1, h64, _⟩ := ends_facts hchk
  have hcc := check_c hchk
  have GR := Lib.hid (fun W => great_no c (some ⟨b, o, none⟩) plen pcap ca cl cc aa al ac fuel W (by omega) (by omega) h3 h4)
  obtain ⟨tk, htk⟩ : ∃ tk : Nat, min (al : Int) fuel = (tk : Int) := ⟨(min (al : Int) fuel).toNat, by omega⟩
  have RUN := Lib.hid (fun w (h : Below W.heap.size W w) => (run_ok c b o plen pcap x ca cl cc cf aa al ac tk zs fuel w (hI.below h) (hS.below h) (hA.below h) hchk hlen f0 f1 htk (by omega) hz).mono (fun _ _ h => h.plain))
  have VIS := Lib.hid (fun w (h : Below W.heap.size W w) => visits_ok c b o plen pcap x ca cl cc cf aa al ac tk zs fuel w (hI.below h) (hS.below h) (hA.below h) hchk hlen f0 f1 htk (by omega) hz)
  have EAC := Lib.hid (fun w (h : Below W.heap.size W w) => each_ok c b o plen pcap x ca cl cc cf aa al ac tk zs fuel w (hI.below h) (hS.below h) (hA.below h) hchk hlen f0 f1 htk (by omega) hz)
  have HI := Lib.hid (fun w (h : Below W.heap.size W w) => hI.below h)
  have FI := Lib.hid (fun (E : Env) e1 e2 e3 => fine_env hI hchk (E := E) e1 e2 e3)
  have RU := Lib.hid (fun (E : Env) (h : 1 ≤ E.pl) cb => ini_runs E cb cl cf fuel (zs.take tk) h f0 f1)
  have hmf : ∀ (fn : Fn) (first cap : Array Value) (w : World), (Instr.makeFunc fn first cap).run Try.prog w = .ok (.func fn first cap) w := fun _ _ _ _ => rfl
  clear hI hS hA hz hchk hlen h3 h4 htk
  generalize zs.take tk = ys at *
  refine (callsIn_wide (n := 4)).1 (callsIn_of_wp_marks Try.func4 rfl trivial ?_ rfl)
  simp only [Try.ntmps4, List.size_toArray, List.length_cons, List.length_nil, Nat.reduceAdd, Nat.reduceSub, Array.replicate_succ, Array.replicate_zero, List.push_toArray, List.append_toArray, List.nil_append, List.cons_append]
  refine (wpIn_wide (n := 4)).2 ?_
  go_wp2_with fail
  refine (GR.out _).mono ?_
  rintro e w1 ⟨rfl, b1⟩
  have q0 := heap_past (W.alloc (.cells #[.int .i64 c, .slice (some ⟨b, o, none⟩) plen pcap] 24)) (.cells #[.bool false] 4) W.heap.size (by simp)
  have q0 := brow b1 (q0.trans (heap_last W (.cells #[.int .i64 c, .slice (some ⟨b, o, none⟩) plen pcap] 24) _ rfl))
  have q1 := brow b1 (heap_last (W.alloc (.cells #[.int .i64 c, .slice (some ⟨b, o, none⟩) plen pcap] 24)) (.cells #[.bool false] 4) (W.heap.size + 1) (by simp))
  have B1 := Lib.hid (below_call (below_new (below_new (Below.refl _ W) _) _) b1)
  have p0 : w1.cell? ⟨W.heap.size, 0, none⟩ = some (.int .i64 c) := by simp only [World.cell?, q0]; rfl
  have p1 : w1.cell? ⟨W.heap.size, 1, none⟩ = some (.slice (some ⟨b, o, none⟩) plen pcap) := by simp only [World.cell?, q0]; rfl
  have Q0 := Lib.hid q0
  have Q1 := Lib.hid q1
  clear b1 GR q0 q1
  go_wp2_with fail
  refine (RUN.out w1 B1.out).mono ?_
  rintro e w2 ⟨oo, oa, ob, ta, tc, F0, RR0, ⟨m, DN, hoo⟩, rfl, _, b2⟩
  have hmle : m ≤ 10000 := by
    have := done_le DN (by exact f0)
    have h2 : (ini 0 cl cf fuel ys).fuel = fuel := rfl
    omega
  have HLF := Lib.hid (show oo.left = fuel - m by rw [hoo]; exact itsV_fuel _ _ m)
  have B2 := Lib.hid (below_call B1.out b2)
  have Q0b := Lib.hid (brow b2 Q0.out)
  have Q1b := Lib.hid (brow b2 Q1.out)
  have p0 : w2.cell? ⟨W.heap.size, 0, none⟩ = some (.int .i64 c) := by simp only [World.cell?, Q0b.out]; rfl
  have p1 : w2.cell? ⟨W.heap.size, 1, none⟩ = some (.slice (some ⟨b, o, none⟩) plen pcap) := by simp only [World.cell?, Q0b.out]; rfl
  have l2 := lt_of_cell p0
  have a2 := below_new (Below.refl w2.heap.size w2) (.cells #[.int .i8 oo.kind, .int .u64 oo.r0, .slice oa oo.ctx.length ob, .slice ta oo.tr.length tc, .int .i64 oo.left] 33)
  have r2 := heap_last w2 (.cells #[.int .i8 oo.kind, .int .u64 oo.r0, .slice oa oo.ctx.length ob, .slice ta oo.tr.length tc, .int .i64 oo.left] 33) _ rfl
  have Z2 := Lib.hid (B2.out.trans (a2.mono B2.out.size))
  clear b2 Q0 Q1 hoo
  unfold outV at *
  go_wp2_with fail
  generalize w2.alloc (.cells #[.int .i8 oo.kind, .int .u64 oo.r0, .slice oa oo.ctx.length ob, .slice ta oo.tr.length tc, .int .i64 oo.left] 33) = w3 at *
  refine (VIS.out w3 Z2.out).mono ?_
  rintro e w4 ⟨m4, V, _, _, DN4, rfl, hV, hVl, b4⟩
  obtain rfl : m = m4 := Done.uniq DN DN4
  have hVW : W.heap.size ≤ V := by have := Z2.out.size; omega
  have a24 := a2.trans (b4.mono a2.size)
  have Q0c := Lib.hid (brow a24 Q0b.out)
  have Q1c := Lib.hid (brow a24 Q1b.out)
  have R4 := Lib.hid (brow b4 r2)
  have B4 := Lib.hid (B2.out.trans (a24.mono B2.out.size))
  have p0 : w4.cell? ⟨W.heap.size, 0, none⟩ = some (.int .i64 c) := by simp only [World.cell?, Q0c.out]; rfl
  have p1 : w4.cell? ⟨W.heap.size, 1, none⟩ = some (.slice (some ⟨b, o, none⟩) plen pcap) := by simp only [World.cell?, Q0c.out]; rfl
  have l4 := lt_of_cell p0
  have a4 := below_new (Below.refl w4.heap.size w4) (.cells #[.slice (some ⟨V, 0, none⟩) plen plen] 43)
  have r4 := heap_last w4 (.cells #[.slice (some ⟨V, 0, none⟩) plen plen] 43) _ rfl
  have HV := Lib.hid hV
  clear b4 a24 Q0b Q1b r2 DN4 hV B2 Z2 RUN VIS B1 a2
  go_wp2_with fail
  generalize w4.alloc (.cells #[.slice (some ⟨V, 0, none⟩) plen plen] 43) = w5 at *
  refine (EAC.out w5 (B4.out.trans (a4.mono B4.out.size))).mono ?_
  rintro e w6 ⟨E, cb, eB, gB, rfl, ex, el, ec, ek, heB, hgB, re, rg, b6, R6⟩
  have a46 := a4.trans (b6.mono a4.size)
  have Q0d := Lib.hid (brow a46 Q0c.out)
  have Q1d := Lib.hid (brow a46 Q1c.out)
  have R6a := Lib.hid (brow a46 R4.out)
  have R6b := Lib.hid (brow b6 r4)
  have HV6 := Lib.hid (HV.out.of_block (a46.block _ HV.out.lt))
  have B6 := Lib.hid (B4.out.trans (a46.mono B4.out.size))
  have c11 : w6.cell? ⟨w4.heap.size, 0, none⟩ = some (.slice (some ⟨V, 0, none⟩) plen plen) := by simp only [World.cell?, R6b.out]; rfl
  have p1 : w6.cell? ⟨W.heap.size, 1, none⟩ = some (.slice (some ⟨b, o, none⟩) plen pcap) := by simp only [World.cell?, Q0d.out]; rfl
  have HR6 := Lib.hid R6
  have RE := Lib.hid re
  have RG := Lib.hid rg
  clear b6 a46 Q0c Q1c R4 r4 HV B4 EAC a4 re rg R6
  unfold eachV
  have hbf := seq_not_nil eB gB
  have F6 := FI.out E ex el ec
  have RR6 := RU.out E (by omega) cb
  have DE : Done E (ini cb cl cf fuel ys) m := by
    rw [ini_cb]
    rcases DN with ⟨h1, h2⟩ | ⟨q, rfl, h1, h2, h3⟩
    · refine .inl ⟨(goes_env ek _ cb m).2 (by rw [ex, el]; exact h1), ?_⟩
      rw [its_env ek, ex, el]; exact h2
    · refine .inr ⟨q, rfl, (goes_env ek _ cb q).2 (by rw [ex, el]; exact h1), ?_, ?_⟩
      · rw [its_env ek, ex, el]; exact h2
      · rw [its_env ek, ex, el]; exact h3
  obtain ⟨_, _, _, HAT⟩ := plain_env el ex ek F6 RR6 DE
  have SEQ := Lib.hid (each_seq E F6 (ini cb cl cf fuel ys) RR6 rfl rfl eB gB 3 (by decide) w6 HR6.out RE.out RG.out)
  have z6 := B6.out.size
  have zl : W.heap.size + 1 < w6.heap.size := (Array.getElem?_eq_some_iff.1 Q1d.out).1
  have zl2 : w2.heap.size < w6.heap.size := (Array.getElem?_eq_some_iff.1 R6a.out).1
  have zl4 : w4.heap.size < w6.heap.size := (Array.getElem?_eq_some_iff.1 R6b.out).1
  have zlV : V < w6.heap.size := HV6.out.lt
  have a6 := below_new (below_new (Below.refl w6.heap.size w6) (.cells #[.int .i64 0] 3)) (.cells #[.int .i64 (-1)] 3)
  have s1 := (heap_past (w6.alloc (.cells #[.int .i64 0] 3)) (.cells #[.int .i64 (-1)] 3) w6.heap.size (by simp)).trans (heap_last w6 (.cells #[.int .i64 0] 3) _ rfl)
  have s2 := heap_last (w6.alloc (.cells #[.int .i64 0] 3)) (.cells #[.int .i64 (-1)] 3) (w6.heap.size + 1) (by simp)
  clear FI RU HR6 RE RG p0 DN
  rw [← HAT] at HV6
  go_wp2_with fail
  have CW0 : CW W c b o plen pcap w2.heap.size w4.heap.size V w6.heap.size #[.int .i8 oo.kind, .int .u64 oo.r0, .slice oa oo.ctx.length ob, .slice ta oo.tr.length tc, .int .i64 oo.left] (ats E (ini cb cl cf fuel ys) m) [] ((w6.alloc (.cells #[.int .i64 0] 3)).alloc (.cells #[.int .i64 (-1)] 3)) :=
    ⟨B6.out.trans (a6.mono B6.out.size), brow a6 Q0d.out, brow a6 Q1d.out, brow a6 R6a.out, brow a6 R6b.out, s1, s2, (HV6.out.of_block (a6.block _ zlV)).congr (fun i _ => by
      show Value.int .i64 _ = Value.int .i64 (_ - cntP [] i)
      rw [show cntP [] i = 0 from rfl, Int.sub_zero])⟩
  have A6 := Lib.hid a6
  clear s1 s2 a6 Q0d Q1d R6a R6b HV6 B6
  generalize (w6.alloc (.cells #[.int .i64 0] 3)).alloc (.cells #[.int .i64 (-1)] 3) = w7 at *
  have z67 := A6.out.size
  have zs7 : w6.heap.size + 1 < w7.heap.size := (Array.getElem?_eq_some_iff.1 CW0.last).1
  refine (wpIn_wide (n := 4)).1 ?_
  refine range_H (by decide) (gf := 24) (pa := #[]) (lb := #[.pointer (some ⟨eB, 0, none⟩), .pointer (some ⟨gB, 0, none⟩)]) rfl (enters_of Try.func24 (by kernel_rfl) rfl) SEQ.out A6.out (fun _ => rfl)
    (CW W c b o plen pcap w2.heap.size w4.heap.size V w6.heap.size #[.int .i8 oo.kind, .int .u64 oo.r0, .slice oa oo.ctx.length ob, .slice ta oo.tr.length tc, .int .i64 oo.left] (ats E (ini cb cl cf fuel ys) m)) (fun _ _ _ => False)
    ((CW.ab (β := w6.heap.size) (γ := w7.heap.size) (by omega) (by omega)).own (Nat.le_refl _)) (YE.own E _ _) (fun _ _ _ _ _ h _ _ => h)
    (fun γ hγ => CW.ab (by omega) (by omega)) (fun _ _ _ _ _ _ h _ => h) (SE.own E _ _) (SpE.own E _ _) CW0 (AxC ?fr 0 (CW W c b o plen pcap w2.heap.size w4.heap.size V w6.heap.size #[.int .i8 oo.kind, .int .u64 oo.r0, .slice oa oo.ctx.length ob, .slice ta oo.tr.length tc, .int .i64 oo.left] (ats E (ini cb cl cf fuel ys) m)) (YE E (ini cb cl cf fuel ys)))
    (AxC.own ((CW.ab (β := w6.heap.size) (γ := w7.heap.size) (by omega) (by omega)).own (Nat.le_refl _)) (YE.own E _ _)) ?assign ?body ?done ?stop
  case stop =>
    rintro D9 c9 pre W9 _ _ h _
    exact h.elim
  case assign =>
    rintro l pre ⟨i, s⟩ W9 K hi hy hK
    have hsn : (Try.prog.info? 51).map (·.size) = some s.toArray.size ∧ s.toArray.all (·.oneCell') = true ∧ snapZ.size = s.toArray.size := by
      obtain ⟨k, _, _, _, hx⟩ := hy
      obtain ⟨_, rfl⟩ := Prod.mk.inj hx
      exact ⟨info_snap, snap_one _ _ _, rfl⟩
    have HSN := Lib.hid hsn
    have hz := (zero_of_info zero_snap).1
    have HI9 := Lib.hid hi
    have HY9 := Lib.hid hy
    have HK := Lib.hid hK
    clear hsn hi hy hK
    simp only [encE]
    refine in_region_seq (by decide) (fun _ _ h => h) ?_
    intro K1 hK1
    go_wp2_with fail
    refine in_region (by decide) (fun _ _ h => h) ?_
    intro K2 hK2
    go_wp2_with (with_reducible refine (halt_store 51 _ _ rfl ?_))
    refine ⟨?_, trivial⟩
    obtain ⟨sb, hsb⟩ : ∃ sb, sb = W9.heap.size := ⟨_, rfl⟩
    rw [← hsb]
    refine wpList_store_is rfl 51 _ _ rfl sb s.toArray rfl rfl 51 _ (by rw [hsb]; exact heap_last _ _ _ rfl) HSN.out.1 HSN.out.2.2 HSN.out.2.1 ?_
    intro w' st
    have bw : Below W9.heap.size W9 w' := st.below (below_new (Below.refl _ _) _) (by omega)
    refine hK2 _ _ (HK.out _ w' ⟨bw.size, fun q o _ hq _ => brow bw hq⟩ ⟨bw.size, fun q o hq _ => brow bw hq⟩ ⟨sb, ?_, HI9.out.below bw, HY9.out, st.row, Nat.zero_le _⟩)
    show _ = ?fr i s sb
    rfl
  case body =>
    rintro l pre ⟨i, s⟩ a' W9 ⟨sb, rfl, hC, ⟨k, y1, y2, rfl, hx⟩, hs, hsb⟩
    obtain ⟨rfl, rfl⟩ := Prod.mk.inj hx
    obtain ⟨jx, je⟩ := (RR6.its F6 k y1).ix
    rw [el] at jx
    obtain ⟨j, hj⟩ : ∃ j, (its E (ini cb cl cf fuel ys) k).ix = j := ⟨_, rfl⟩
    rw [hj] at jx je
    have hk : k ≤ 10000 := by
      have := itsV_fuel E (ini cb cl cf fuel ys) k
      have h2 : (ini cb cl cf fuel ys).fuel = fuel := rfl
      omega
    have hn : W9.cell? ⟨w6.heap.size, 0, none⟩ = some (.int .i64 (k : Int)) := by
      have := hC.n
      rw [snapsE_len] at this
      simp only [World.cell?, this]; rfl
    have hv : W9.cell? ⟨w4.heap.size, 0, none⟩ = some (.slice (some ⟨V, 0, none⟩) plen plen) := by
      have := hC.vis
      simp only [World.cell?, this]; rfl
    have hp : W9.cell? ⟨W.heap.size, 1, none⟩ = some (.slice (some ⟨b, o, none⟩) plen pcap) := by
      have := hC.prog
      simp only [World.cell?, this]; rfl
    have hl : W9.cell? ⟨w6.heap.size + 1, 0, none⟩ = some (.int .i64 (lastL (snapsE E (ini cb cl cf fuel ys) k))) := by
      have := hC.last
      simp only [World.cell?, this]; rfl
    have hcj : W9.cell? ⟨V, j, none⟩ = some (.int .i64 (cntP (ats E (ini cb cl cf fuel ys) m) j - cntP (ats E (ini cb cl cf fuel ys) k) j)) := by
      have := hC.row.cell (i := j) jx
      rw [ats_snaps] at this
      exact this
    have hr1 : W9.cell? ⟨sb, 1, none⟩ = some (.int .u64 ((its E (ini cb cl cf fuel ys) k).r 1)) := by simp only [World.cell?, hs]; rfl
    have hr10 : W9.cell? ⟨sb, 10, none⟩ = some (.int .u64 ((its E (ini cb cl cf fuel ys) k).r 10)) := by simp only [World.cell?, hs]; rfl
    have HROW := Lib.hid (show W9.rowIs V 3 plen (fun i => .int .i64 (cntP (ats E (ini cb cl cf fuel ys) m) i - cntP (ats E (ini cb cl cf fuel ys) k) i)) from by
      have := hC.row
      rw [ats_snaps] at this
      exact this)
    have HN9 := Lib.hid (show W9.heap[w6.heap.size]? = some (.cells #[.int .i64 (k : Int)] 3 (0, 0)) by have := hC.n; rw [snapsE_len] at this; exact this)
    have CB9 := Lib.hid hC.bel
    have HPG := Lib.hid hC.prog
    have HL9 := Lib.hid hC.last
    have hVn : V ≠ w6.heap.size := fun e => by omega
    have HTY : ∃ c4 fr4, W9.heap[V]? = some (.cells c4 3 fr4) := by
      obtain ⟨cur, e1, _, _⟩ := HROW.out
      exact ⟨_, _, e1⟩
    obtain ⟨c4, fr4, hty⟩ := HTY
    obtain ⟨v, hv0⟩ : ∃ v, cntP (ats E (ini cb cl cf fuel ys) m) j - cntP (ats E (ini cb cl cf fuel ys) k) j = v := ⟨_, rfl⟩
    have hvb : -20000 ≤ v ∧ v ≤ 20000 := by
      have h1 := cntP_le (ats E (ini cb cl cf fuel ys) m) j
      have h2 := cntP_le (ats E (ini cb cl cf fuel ys) k) j
      rw [ats_len] at h1 h2
      omega
    -- what is kept behind the round
    have FIN := Lib.hid (show ∀ w9, Below W9.heap.size W9 w9 → ∀ w10 w11 w12, w10.rowIs V 3 plen (fun q => if q = j then .int .i64 (v - 1) else .int .i64 (cntP (ats E (ini cb cl cf fuel ys) m) q - cntP (ats E (ini cb cl cf fuel ys) k) q)) → Trn [V] w9 w10 → Stored w10 (w6.heap.size + 1) #[.int .i64 (j : Int)] 3 w11 → Stored w11 w6.heap.size #[.int .i64 ((k : Int) + 1)] 3 w12 →
        KeepsFrom w7.heap.size W9 w12 ∧ KeepT σE W9 w12 ∧ CW W c b o plen pcap w2.heap.size w4.heap.size V w6.heap.size #[.int .i8 oo.kind, .int .u64 oo.r0, .slice oa oo.ctx.length ob, .slice ta oo.tr.length tc, .int .i64 oo.left] (ats E (ini cb cl cf fuel ys) m) (snapsE E (ini cb cl cf fuel ys) k ++ [((j : Int), (its E (ini cb cl cf fuel ys) k).snap)]) w12 from by
      intro w9 hb9 w10 w11 w12 r10 t10 s11 s12
      have hC := hC.below hb9
      have hty := brow hb9 hty
      have k0 : KeepsFrom w7.heap.size W9 w9 := ⟨hb9.size, fun q o _ hq _ => brow hb9 hq⟩
      have k1 : KeepT σE W9 w9 := ⟨hb9.size, fun q o hq _ => brow hb9 hq⟩
      have t11 : Trn [w6.heap.size + 1] w10 w11 := ⟨s11.os, s11.tape, s11.output, by rw [s11.size]; exact Nat.le_refl _, fun q _ hn => s11.other q (by simpa using hn)⟩
      have t12 : Trn [w6.heap.size] w11 w12 := ⟨s12.os, s12.tape, s12.output, by rw [s12.size]; exact Nat.le_refl _, fun q _ hn => s12.other q (by simpa using hn)⟩
      have tt : Trn [V, w6.heap.size + 1, w6.heap.size] w9 w12 := ((t10.weak (fun q hq => by simp at hq ⊢; omega)).trans (t11.weak (fun q hq => by simp at hq ⊢; omega))).trans (t12.weak (fun q hq => by simp at hq ⊢; omega))
      have ty : ∀ q ∈ [V, w6.heap.size + 1, w6.heap.size], ∃ c ty fr, w9.heap[q]? = some (.cells c ty fr) ∧ ty = 3 := fun q hq => by
        simp only [List.mem_cons, List.not_mem_nil, or_false] at hq
        rcases hq with rfl | rfl | rfl
        · exact ⟨_, _, _, hty, rfl⟩
        · exact ⟨_, _, _, hC.last, rfl⟩
        · exact ⟨_, _, _, hC.n, rfl⟩
      have bel : Below W.heap.size W w12 := ⟨tt.os.trans hC.bel.os, tt.tape.trans hC.bel.tape, tt.output.trans hC.bel.output, Nat.le_trans hC.bel.size tt.size, fun q hq => (tt.block q (by have := hC.bel.size; omega) (fun hm => by simp at hm; omega)).trans (hC.bel.block q hq)⟩
      have other : ∀ {g : Nat} {cs : Array Value} {t : TypeId}, w9.heap[g]? = some (.cells cs t (0, 0)) → t ≠ 3 → w12.heap[g]? = some (.cells cs t (0, 0)) := fun {g cs t} hg hn => tt.row hg (fun hm => by
        obtain ⟨c, t2, fr, h1, h2⟩ := ty g hm
        rw [hg] at h1
        injection h1 with h1
        injection h1 with _ h1 _
        exact hn (h1.trans h2))
      refine ⟨k0.trans (keepsFrom_trn tt (fun q hq => by obtain ⟨c, t, fr, h1, _⟩ := ty q hq; exact ⟨c, t, fr, h1⟩)), k1.trans (keepT_trn tt (fun q hq => by obtain ⟨c, t, fr, h1, rfl⟩ := ty q hq; exact ⟨c, _, fr, h1, by decide⟩)), bel, other hC.prog (by decide), other hC.res (by decide), other hC.out (by decide), other hC.vis (by decide), ?_, ?_, ?_⟩
      · rw [List.length_append, snapsE_len]; exact s12.row
      · have := (s12.other (w6.heap.size + 1) (by omega)).trans s11.row
        rw [this]
        unfold lastL
        rw [List.getLast?_append]; rfl
      · have e1 := r10.of_block ((s12.other V hVn).trans (s11.other V (by omega)))
        refine e1.congr (fun q hq => ?_)
        rw [List.map_append, ats_snaps]
        show (if q = j then Value.int .i64 (v - 1) else _) = Value.int .i64 (_ - cntP (_ ++ [(j : Int)]) q)
        rw [cntP_app]
        by_cases e : q = j
        · subst e; rw [if_pos rfl, if_pos rfl, ← hv0]; congr 1; omega
        · rw [if_neg e, if_neg (by omega), Int.add_zero])
    rw [hv0] at hcj
    have HS := Lib.hid hs
    have Y1 := Lib.hid y1
    have Y2 := Lib.hid y2
    have eG : decide ((j : Int) < 0) = false := decide_eq_false (by omega)
    have eL : decide (plen ≤ j) = false := decide_eq_false (by omega)
    simp only
    rw [je]
    have HJ9 := Lib.hid hj
    clear hC hs hx y1 y2 hj HAT hv0 hty
    refine wpIn_block ?_
    refine wpIn_seq ?_
    by_cases k0 : k = 0
    · have e1 : (its E (ini cb cl cf fuel ys) k).r 1 = 2097152 := by rw [k0]; rfl
      have e10 : (its E (ini cb cl cf fuel ys) k).r 10 = 3145792 := by rw [k0]; rfl
      have hj0 : j = 0 := by have : (its E (ini cb cl cf fuel ys) k).at_ = 0 := by rw [k0]; rfl
                             omega
      have eK : ((k : Int) == 0) = true := by rw [k0]; rfl
      have HBQ := Lib.hid (Below.refl W9.heap.size W9)
      have eJ : ((j : Int) != 0) = false := by rw [hj0]; rfl
      clear hj0
      rw [e1] at hr1
      rw [e10] at hr10
      rw [show lastL (snapsE E (ini cb cl cf fuel ys) k) = -1 by rw [k0]; rfl] at hl
      clear k0
      refine in_region_seq (by decide) (fun _ _ h => h) ?_
      intro K1 hK1
      go_wp2_with fail
      refine wpIn_cond_false rfl ?_
      refine wpIn_skip ?_
      simp only [Exit.then]
      refine wpIn_seq ?_
      refine wpIn_seq ?_
      refine in_region (by decide) (fun _ _ h => h) ?_
      intro K2 hK2
      go_wp2_with fail
      refine wpIn_cond_false rfl ?_
      refine wpIn_skip ?_
      simp only [Exit.then]
      refine in_region_seq (by decide) (fun _ _ h => h) ?_
      intro K3 hK3
      go_wp2_with (with_reducible refine (halt_store 3 _ _ rfl ?_))
      refine ⟨?_, trivial⟩
      refine wpList_store_row1V rfl 3 _ _ rfl V j (.int .i64 (v - 1)) rfl rfl rfl rfl HROW.out info_intV jx ?_
      intro w10 r10 t10
      have R10 := Lib.hid r10
      have n10 := t10.row HN9.out (by simp; omega)
      have l10 := t10.row HL9.out (by simp; omega)
      have cn10 : w10.cell? ⟨w6.heap.size, 0, none⟩ = some (.int .i64 (k : Int)) := by simp only [World.cell?, n10]; rfl
      have T10 := Lib.hid t10
      have N10 := Lib.hid n10
      have L10 := Lib.hid l10
      clear r10 t10 n10 l10
      go_wp2_with fail
      refine in_region_seq (by decide) (fun _ _ h => h) ?_
      intro K4 hK4
      go_wp2_with (with_reducible refine (halt_store 3 _ _ rfl ?_))
      refine ⟨?_, trivial⟩
      refine wpList_store_cell rfl 3 _ _ rfl (w6.heap.size + 1) 0 (.int .i64 (j : Int)) rfl rfl rfl rfl 3 _ L10.out info_intV (by simp) ?_
      intro w11 s11
      have n11 := (s11.other w6.heap.size (by omega)).trans N10.out
      have cn11 : w11.cell? ⟨w6.heap.size, 0, none⟩ = some (.int .i64 (k : Int)) := by simp only [World.cell?, n11]; rfl
      have S11 := Lib.hid s11
      have N11 := Lib.hid n11
      clear s11 n11 cn10
      go_wp2_with fail
      refine in_region (by decide) (fun _ _ h => h) ?_
      intro K5 hK5
      go_wp2_with (with_reducible refine (halt_store 3 _ _ rfl ?_))
      refine ⟨?_, trivial⟩
      refine wpList_store_cell rfl 3 _ _ rfl w6.heap.size 0 (.int .i64 ((k : Int) + 1)) rfl rfl rfl rfl 3 _ N11.out info_intV (by simp) ?_
      intro w12 s12
      exact hK5 _ _ (FIN.out _ HBQ.out w10 w11 w12 R10.out T10.out S11.out s12)
    · obtain ⟨k', hk'⟩ : ∃ k', k = k' + 1 := ⟨k - 1, by omega⟩
      have gk' : Goes E (ini cb cl cf fuel ys) k' := fun q hq => Y1.out q (by omega)
      have Rk' := RR6.its F6 k' gk'
      obtain ⟨px, pe⟩ := Rk'.ix
      rw [el] at px
      have hlast : lastL (snapsE E (ini cb cl cf fuel ys) k) = (its E (ini cb cl cf fuel ys) k').at_ := by rw [hk']; exact lastL_succ _ _ _
      have NX := step_next F6 Rk' (by have := (Y1.out k' (by omega)).2; exact this)
      rw [show (its E (ini cb cl cf fuel ys) k').step E.kf (E.x (its E (ini cb cl cf fuel ys) k').ix) = its E (ini cb cl cf fuel ys) k by rw [hk']; rfl, je] at NX
      have JM := F6.jumps _ (show (its E (ini cb cl cf fuel ys) k').ix < E.pl by omega)
      rw [ex] at NX JM
      generalize (its E (ini cb cl cf fuel ys) k').ix = p at *
      rw [pe] at NX hlast
      rw [hlast] at hl HL9
      obtain ⟨b', o', eb', hcells⟩ := (HI.out W9 CB9.out).here (by omega)
      obtain ⟨rfl, rfl⟩ : b = b' ∧ o = o' := by simpa using eb'
      have HPR := Lib.hid (hcells p px)
      have eK : ((k : Int) == 0) = false := by simp; omega
      have eP : decide (0 ≤ (p : Int)) = true := decide_eq_true (by omega)
      have NX := Lib.hid NX
      have JM := Lib.hid JM
      clear hcells pe hlast gk' Rk' hk' k0
      refine in_region_seq (by decide) (fun _ _ h => h) ?_
      intro K1 hK1
      go_wp2_with fail
      refine wpIn_cond_false rfl ?_
      refine wpIn_skip ?_
      simp only [Exit.then]
      refine wpIn_seq ?_
      refine wpIn_seq ?_
      refine in_region (by decide) (fun _ _ h => h) ?_
      intro K2 hK2
      go_wp2_with fail
      refine wpIn_cond_true rfl ?_
      refine wpIn_seq ?_
      obtain ⟨T, hT⟩ : ∃ T, targetI p (x p) = T := ⟨_, rfl⟩
      obtain ⟨Jb, hJb⟩ : ∃ Jb, jumpsI p (x p) = Jb := ⟨_, rfl⟩
      have TG := Lib.hid (fun w => r_target (p : Int) (x p) w)
      rw [hT, hJb] at TG
      refine go_regd (F := Fence.wide.inRound l) (m := 4 - 1 - 1) (fun fl u w => Below W9.heap.size W9 w) [] [] [some (.int .i64 (p : Int)), some (.pointer (some ⟨W.heap.size, 1, none⟩)), some (.slice (some ⟨b, o, none⟩) plen pcap), some (.int .i64 (p : Int)), some (.pointer (some ⟨b, o + p * 9, none⟩)), some (.agg (x p).cells), some (.tuple #[.int .i64 T, .bool Jb]), some (.tuple #[.int .i64 T, .bool Jb]), some (.int .i64 T), some (.bool Jb), some (.int .i64 T), some (.bool Jb)] mo (fun fl fl' u u' w hK hD h => h) rfl rfl (by kernel_rfl) (fun fl w1 hfl b _ => b) (
       yc (@fun fl ax wx cx => cx.iv (fun _ => trivial) (ex_ld rfl (cx.rq 14 rfl) (brow cx.S HL9.out) rfl Try.isAgg3) rfl rfl rfl) <|
       yc (@fun fl ax wx cx => cx.iv (fun _ => trivial) (ex_fa rfl (cx.rq 4 rfl) (faProg _ _)) rfl rfl rfl) <|
       yc (@fun fl ax wx cx => cx.iv (fun _ => trivial) (ex_ld rfl (cx.u 0 rfl) (brow cx.S HPG.out) rfl Try.isAgg22) rfl rfl rfl) <|
       yc (@fun fl ax wx cx => cx.iv (fun _ => trivial) (ex_ld rfl (cx.rq 14 rfl) (brow cx.S HL9.out) rfl Try.isAgg3) rfl rfl rfl) <|
       yc (@fun fl ax wx cx => cx.iv (fun _ => trivial) (ex_ixI rfl (cx.u 0 rfl) (cx.u 1 rfl) px) rfl rfl rfl) <|
       yc (@fun fl ax wx cx => cx.iv (fun _ => trivial) (ex_ldw rfl (cx.u 0 rfl) (load_midM (x p) (Ins.rangeAt_below cx.S HPR.out))) rfl rfl rfl) <|
       yc (@fun fl ax wx cx => by
         refine wpOpIn_call (fun _ => trivial) rfl cx.ho (wn rfl) (noDefer_of rfl) (exec_call rfl rfl rfl (args2 (cx.u 0 rfl) (cx.u 1 rfl)) Try.func16 (by decide +kernel) (by decide +kernel)) ((callsIn_wide (n := 4 - 1 - 1 - 1)).2 ((TG.out wx).mono ?_))
         rintro e w' ⟨rfl, b9⟩
         exact ⟨_, rfl, _, rfl, own_some (n := 171) rfl cx.sz rfl, cx.S.trans (b9.mono cx.S.size)⟩) <|
       yc (@fun fl ax wx cx => cx.iv (fun _ => trivial) (ex_mv rfl (cx.u 0 rfl)) rfl rfl rfl) <|
       yc (@fun fl ax wx cx => cx.iv (fun _ => trivial) (ex_ext rfl (cx.u 0 rfl) rfl) rfl rfl rfl) <|
       yc (@fun fl ax wx cx => cx.iv (fun _ => trivial) (ex_ext rfl (cx.u 0 rfl) rfl) rfl rfl rfl) <|
       yc (@fun fl ax wx cx => cx.iv (fun _ => trivial) (ex_as rfl (cx.u 0 rfl)) rfl rfl rfl) <|
       yc (@fun fl ax wx cx => cx.iv (fun _ => trivial) (ex_as rfl (cx.u 0 rfl)) rfl rfl rfl) <|
       yn) ?_
      intro a9 w9 f9
      obtain ⟨fl9, _, hb9⟩ := f9.s
      have g17 := f9.v 10 rfl rfl rfl
      have g18 := f9.v 11 rfl rfl rfl
      rw [f9.frame rfl rfl]
      clear f9
      rw [show outs _ (fun d => a9.tmps.getD d undef) = [(97, a9.tmps.getD 97 undef), (98, a9.tmps.getD 98 undef), (99, a9.tmps.getD 99 undef), (100, a9.tmps.getD 100 undef), (101, a9.tmps.getD 101 undef), (102, a9.tmps.getD 102 undef), (103, a9.tmps.getD 103 undef), (96, a9.tmps.getD 96 undef), (104, a9.tmps.getD 104 undef), (105, a9.tmps.getD 105 undef), (17, a9.tmps.getD 17 undef), (18, a9.tmps.getD 18 undef)] by kernel_rfl, g17, g18]
      simp only [putAll, List.setIfInBounds_toArray, List.set_cons_zero, List.set_cons_succ, Exit.then]
      generalize a9.tmps.getD 97 undef = y1
      generalize a9.tmps.getD 98 undef = y2
      generalize a9.tmps.getD 99 undef = y3
      generalize a9.tmps.getD 100 undef = y4
      generalize a9.tmps.getD 101 undef = y5
      generalize a9.tmps.getD 102 undef = y6
      generalize a9.tmps.getD 103 undef = y7
      generalize a9.tmps.getD 96 undef = y8
      generalize a9.tmps.getD 104 undef = y9
      generalize a9.tmps.getD 105 undef = y10
      have HBQ := Lib.hid hb9
      have HROW := Lib.hid (HROW.out.of_block (hb9.block _ HROW.out.lt))
      have HN9 := Lib.hid (brow hb9 HN9.out)
      have HL9 := Lib.hid (brow hb9 HL9.out)
      have hv := (hb9.cell (lt_of_cell hv)).trans hv
      have hcj := (hb9.cell (lt_of_cell hcj)).trans hcj
      have hl := (hb9.cell (lt_of_cell hl)).trans hl
      have hp := (hb9.cell (lt_of_cell hp)).trans hp
      have hkd : w9.cell? ⟨b, o + p * 9, none⟩ = some (.int .i8 (x p).kind) := Ins.rangeAt_below hb9 HPR.out 0 _ rfl
      have NXo := NX.out
      have JMo := JM.out
      rw [hT] at NXo
      rw [hJb] at JMo
      generalize (x p).kind = kd at *
      clear g17 g18 hb9 TG NX JM HPG HPR hT hJb hn
      have e6 : (kd == 6) = false := by simpa using NXo.2.2
      by_cases jn : (j : Int) = p + 1
      · have eA : ((j : Int) != (p : Int) + 1) = false := by simpa using jn
        by_cases k4 : kd = 4
        · have e4 : (kd == 4) = true := by simpa using k4
          have eT : ((j : Int) != T) = false := by simpa using NXo.2.1 k4
          clear NXo JMo jn k4
          refine in_region_seq (by decide) (fun _ _ h => h) ?_
          intro K6 hK6
          go_wp2_with fail
          refine wpIn_cond_false rfl ?_
          refine wpIn_skip ?_
          simp only [Exit.then]
          refine in_region_seq (by decide) (fun _ _ h => h) ?_
          intro K3 hK3
          go_wp2_with (with_reducible refine (halt_store 3 _ _ rfl ?_))
          refine ⟨?_, trivial⟩
          refine wpList_store_row1V rfl 3 _ _ rfl V j (.int .i64 (v - 1)) rfl rfl rfl rfl HROW.out info_intV jx ?_
          intro w10 r10 t10
          have R10 := Lib.hid r10
          have n10 := t10.row HN9.out (by simp; omega)
          have l10 := t10.row HL9.out (by simp; omega)
          have cn10 : w10.cell? ⟨w6.heap.size, 0, none⟩ = some (.int .i64 (k : Int)) := by simp only [World.cell?, n10]; rfl
          have T10 := Lib.hid t10
          have N10 := Lib.hid n10
          have L10 := Lib.hid l10
          clear r10 t10 n10 l10
          go_wp2_with fail
          refine in_region_seq (by decide) (fun _ _ h => h) ?_
          intro K4 hK4
          go_wp2_with (with_reducible refine (halt_store 3 _ _ rfl ?_))
          refine ⟨?_, trivial⟩
          refine wpList_store_cell rfl 3 _ _ rfl (w6.heap.size + 1) 0 (.int .i64 (j : Int)) rfl rfl rfl rfl 3 _ L10.out info_intV (by simp) ?_
          intro w11 s11
          have n11 := (s11.other w6.heap.size (by omega)).trans N10.out
          have cn11 : w11.cell? ⟨w6.heap.size, 0, none⟩ = some (.int .i64 (k : Int)) := by simp only [World.cell?, n11]; rfl
          have S11 := Lib.hid s11
          have N11 := Lib.hid n11
          clear s11 n11 cn10
          go_wp2_with fail
          refine in_region (by decide) (fun _ _ h => h) ?_
          intro K5 hK5
          go_wp2_with (with_reducible refine (halt_store 3 _ _ rfl ?_))
          refine ⟨?_, trivial⟩
          refine wpList_store_cell rfl 3 _ _ rfl w6.heap.size 0 (.int .i64 ((k : Int) + 1)) rfl rfl rfl rfl 3 _ N11.out info_intV (by simp) ?_
          intro w12 s12
          exact hK5 _ _ (FIN.out _ HBQ.out w10 w11 w12 R10.out T10.out S11.out s12)
        · have e4 : (kd == 4) = false := by simpa using k4
          clear NXo JMo jn k4
          refine in_region_seq (by decide) (fun _ _ h => h) ?_
          intro K6 hK6
          go_wp2_with fail
          refine wpIn_cond_false rfl ?_
          refine wpIn_skip ?_
          simp only [Exit.then]
          refine in_region_seq (by decide) (fun _ _ h => h) ?_
          intro K3 hK3
          go_wp2_with (with_reducible refine (halt_store 3 _ _ rfl ?_))
          refine ⟨?_, trivial⟩
          refine wpList_store_row1V rfl 3 _ _ rfl V j (.int .i64 (v - 1)) rfl rfl rfl rfl HROW.out info_intV jx ?_
          intro w10 r10 t10
          have R10 := Lib.hid r10
          have n10 := t10.row HN9.out (by simp; omega)
          have l10 := t10.row HL9.out (by simp; omega)
          have cn10 : w10.cell? ⟨w6.heap.size, 0, none⟩ = some (.int .i64 (k : Int)) := by simp only [World.cell?, n10]; rfl
          have T10 := Lib.hid t10
          have N10 := Lib.hid n10
          have L10 := Lib.hid l10
          clear r10 t10 n10 l10
          go_wp2_with fail
          refine in_region_seq (by decide) (fun _ _ h => h) ?_
          intro K4 hK4
          go_wp2_with (with_reducible refine (halt_store 3 _ _ rfl ?_))
          refine ⟨?_, trivial⟩
          refine wpList_store_cell rfl 3 _ _ rfl (w6.heap.size + 1) 0 (.int .i64 (j : Int)) rfl rfl rfl rfl 3 _ L10.out info_intV (by simp) ?_
          intro w11 s11
          have n11 := (s11.other w6.heap.size (by omega)).trans N10.out
          have cn11 : w11.cell? ⟨w6.heap.size, 0, none⟩ = some (.int .i64 (k : Int)) := by simp only [World.cell?, n11]; rfl
          have S11 := Lib.hid s11
          have N11 := Lib.hid n11
          clear s11 n11 cn10
          go_wp2_with fail
          refine in_region (by decide) (fun _ _ h => h) ?_
          intro K5 hK5
          go_wp2_with (with_reducible refine (halt_store 3 _ _ rfl ?_))
          refine ⟨?_, trivial⟩
          refine wpList_store_cell rfl 3 _ _ rfl w6.heap.size 0 (.int .i64 ((k : Int) + 1)) rfl rfl rfl rfl 3 _ N11.out info_intV (by simp) ?_
          intro w12 s12
          exact hK5 _ _ (FIN.out _ HBQ.out w10 w11 w12 R10.out T10.out S11.out s12)
      · have eA : ((j : Int) != (p : Int) + 1) = true := by simpa using jn
        have hjt := NXo.1.resolve_left jn
        obtain rfl : Jb = true := by rw [JMo]; simpa using hjt.1
        have eT : ((j : Int) != T) = false := by simpa using hjt.2
        by_cases k4 : kd = 4
        · have e4 : (kd == 4) = true := by simpa using k4
          clear NXo JMo jn k4 hjt
          refine in_region_seq (by decide) (fun _ _ h => h) ?_
          intro K6 hK6
          go_wp2_with fail
          refine wpIn_cond_false rfl ?_
          refine wpIn_skip ?_
          simp only [Exit.then]
          refine in_region_seq (by decide) (fun _ _ h => h) ?_
          intro K3 hK3
          go_wp2_with (with_reducible refine (halt_store 3 _ _ rfl ?_))
          refine ⟨?_, trivial⟩
          refine wpList_store_row1V rfl 3 _ _ rfl V j (.int .i64 (v - 1)) rfl rfl rfl rfl HROW.out info_intV jx ?_
          intro w10 r10 t10
          have R10 := Lib.hid r10
          have n10 := t10.row HN9.out (by simp; omega)
          have l10 := t10.row HL9.out (by simp; omega)
          have cn10 : w10.cell? ⟨w6.heap.size, 0, none⟩ = some (.int .i64 (k : Int)) := by simp only [World.cell?, n10]; rfl
          have T10 := Lib.hid t10
          have N10 := Lib.hid n10
          have L10 := Lib.hid l10
          clear r10 t10 n10 l10
          go_wp2_with fail
          refine in_region_seq (by decide) (fun _ _ h => h) ?_
          intro K4 hK4
          go_wp2_with (with_reducible refine (halt_store 3 _ _ rfl ?_))
          refine ⟨?_, trivial⟩
          refine wpList_store_cell rfl 3 _ _ rfl (w6.heap.size + 1) 0 (.int .i64 (j : Int)) rfl rfl rfl rfl 3 _ L10.out info_intV (by simp) ?_
          intro w11 s11
          have n11 := (s11.other w6.heap.size (by omega)).trans N10.out
          have cn11 : w11.cell? ⟨w6.heap.size, 0, none⟩ = some (.int .i64 (k : Int)) := by simp only [World.cell?, n11]; rfl
          have S11 := Lib.hid s11
          have N11 := Lib.hid n11
          clear s11 n11 cn10
          go_wp2_with fail
          refine in_region (by decide) (fun _ _ h => h) ?_
          intro K5 hK5
          go_wp2_with (with_reducible refine (halt_store 3 _ _ rfl ?_))
          refine ⟨?_, trivial⟩
          refine wpList_store_cell rfl 3 _ _ rfl w6.heap.size 0 (.int .i64 ((k : Int) + 1)) rfl rfl rfl rfl 3 _ N11.out info_intV (by simp) ?_
          intro w12 s12
          exact hK5 _ _ (FIN.out _ HBQ.out w10 w11 w12 R10.out T10.out S11.out s12)
        · have e4 : (kd == 4) = false := by simpa using k4
          clear NXo JMo jn k4 hjt
          refine in_region_seq (by decide) (fun _ _ h => h) ?_
          intro K6 hK6
          go_wp2_with fail
          refine wpIn_cond_false rfl ?_
          refine wpIn_skip ?_
          simp only [Exit.then]
          refine in_region_seq (by decide) (fun _ _ h => h) ?_
          intro K3 hK3
          go_wp2_with (with_reducible refine (halt_store 3 _ _ rfl ?_))
          refine ⟨?_, trivial⟩
          refine wpList_store_row1V rfl 3 _ _ rfl V j (.int .i64 (v - 1)) rfl rfl rfl rfl HROW.out info_intV jx ?_
          intro w10 r10 t10
          have R10 := Lib.hid r10
          have n10 := t10.row HN9.out (by simp; omega)
          have l10 := t10.row HL9.out (by simp; omega)
          have cn10 : w10.cell? ⟨w6.heap.size, 0, none⟩ = some (.int .i64 (k : Int)) := by simp only [World.cell?, n10]; rfl
          have T10 := Lib.hid t10
          have N10 := Lib.hid n10
          have L10 := Lib.hid l10
          clear r10 t10 n10 l10
          go_wp2_with fail
          refine in_region_seq (by decide) (fun _ _ h => h) ?_
          intro K4 hK4
          go_wp2_with (with_reducible refine (halt_store 3 _ _ rfl ?_))
          refine ⟨?_, trivial⟩
          refine wpList_store_cell rfl 3 _ _ rfl (w6.heap.size + 1) 0 (.int .i64 (j : Int)) rfl rfl rfl rfl 3 _ L10.out info_intV (by simp) ?_
          intro w11 s11
          have n11 := (s11.other w6.heap.size (by omega)).trans N10.out
          have cn11 : w11.cell? ⟨w6.heap.size, 0, none⟩ = some (.int .i64 (k : Int)) := by simp only [World.cell?, n11]; rfl
          have S11 := Lib.hid s11
          have N11 := Lib.hid n11
          clear s11 n11 cn10
          go_wp2_with fail
          refine in_region (by decide) (fun _ _ h => h) ?_
          intro K5 hK5
          go_wp2_with (with_reducible refine (halt_store 3 _ _ rfl ?_))
          refine ⟨?_, trivial⟩
          refine wpList_store_cell rfl 3 _ _ rfl w6.heap.size 0 (.int .i64 ((k : Int) + 1)) rfl rfl rfl rfl 3 _ N11.out info_intV (by simp) ?_
          intro w12 s12
          exact hK5 _ _ (FIN.out _ HBQ.out w10 w11 w12 R10.out T10.out S11.out s12)
  case done =>
    rintro D9 xs W9 hD ⟨m9, hm, rfl⟩ hC hK
    obtain rfl : m = m9 := Done.uniq DE hm
    have hn : W9.cell? ⟨w6.heap.size, 0, none⟩ = some (.int .i64 (m : Int)) := by
      have := hC.n
      rw [snapsE_len] at this
      simp only [World.cell?, this]; rfl
    have hv : W9.cell? ⟨w4.heap.size, 0, none⟩ = some (.slice (some ⟨V, 0, none⟩) plen plen) := by
      have := hC.vis
      simp only [World.cell?, this]; rfl
    have ho : W9.cell? ⟨w2.heap.size, 4, none⟩ = some (.int .i64 oo.left) := by
      have := hC.out
      simp only [World.cell?, this]; rfl
    have HZ := Lib.hid (show ∀ q, q < plen → W9.cell? ⟨V, q, none⟩ = some (.int .i64 0) from fun q hq => by
      have := hC.row.cell (i := q) hq
      rw [ats_snaps, Int.sub_self] at this
      exact this)
    have hsub : wrap64 (fuel - oo.left) = m := by
      rw [HLF.out, IntWalk.wrap64_in _ (by omega)]; omega
    have hsub2 : fuel - oo.left = m := by rw [HLF.out]; omega
    have HC := Lib.hid hC
    have HKD := Lib.hid hK
    clear hC hm DE hK SEQ A6 HLF HAT
    go_wp2_with fail
    go_loopw [19] (fun i wr => ∃ q : Nat, q ≤ plen ∧ i = .int .i64 q ∧ wr = W9) (fun i _ => plen - (intOf i).toNat)
    case atStart => exact ⟨0, by omega, rfl, by first | rfl | trivial⟩
    case round =>
      obtain ⟨q, hq, rfl, rfl⟩ := hrel
      by_cases hlt : q < plen
      · have hz := HZ.out q hlt
        go_wp2_with fail
        go_roundw
        case rel => exact ⟨q + 1, by omega, by go_num, by first | rfl | trivial⟩
        case measure => simp [intOf]; omega
      · obtain rfl : q = plen := by omega
        go_wp2_with fail
        refine (wakes_any _).mono ?_
        rintro e w10 ⟨rfl, b10⟩
        have r10 := brow b10 HC.out.res
        have k10 := brow b10 HKD.out
        have B10 := Lib.hid (HC.out.bel.trans (b10.mono HC.out.bel.size))
        have zW := HC.out.bel.size
        clear b10 hv ho hn
        go_wp2_with (with_reducible refine (halt_store 4 _ _ rfl ?_))
        refine ⟨?_, trivial⟩
        refine wpList_store_cell rfl 4 _ _ rfl (W.heap.size + 1) 0 (.bool true) rfl rfl rfl rfl 4 _ r10 (by kernel_rfl) (by simp) ?_
        intro w11 s11
        have hne : D9 ≠ W.heap.size + 1 := fun e => by omega
        have r11 := s11.row
        have k11 := (s11.other D9 hne).trans k10
        have B11 := Lib.hid (s11.below B10.out (by omega))
        clear s11 r10 k10
        go_wp2_with fail
        have t12 : Trn [D9] w11 (w11.putObj D9 (.deferred none)) := ⟨rfl, rfl, rfl, by simp [World.putObj], fun k _ hn => World.putObj_heap_other (by simpa using hn)⟩
        have r12 := t12.row r11 (by simp; omega)
        refine ⟨by simp, .inl ⟨_, _, rfl, run_takeDeferred k11, _, res_c rfl rfl (load_bool r12), rfl, B11.out.trans ⟨rfl, rfl, rfl, t12.size, fun k hk => t12.block k (by have := B11.out.size; omega) (by simp; omega)⟩⟩⟩

section
variable (c : Int) (pa : Option Addr) (plen pcap : Nat) (x : Nat → In) (ca : Option Addr) (cl cc : Nat) (aa : Option Addr) (al ac : Nat) (fuel : Int) (W : World)
set_option maxHeartbeats 4000000 in
theorem counts_bad (r : Int) (hr : ¬ r = 0) (h1 : plen ≤ 100) (h2 : cl ≤ 400) (h3 : al ≤ 400) (h4 : ¬ (2000 < fuel ∧ fuel ≤ 10000))
    (ST : ∀ w, Below W.heap.size W w → Calls Try.prog 18 #[.agg #[.int .i64 c, .slice pa plen pcap], .slice ca cl cc, .slice aa al ac, .int .i64 fuel] w fun e w' => e = .returned (.tuple #[.pointer none, .int .i64 r]) ∧ Below w.heap.size w w') :
    Calls Try.prog 4 #[.agg #[.int .i64 c, .slice pa plen pcap], .slice ca cl cc, .slice aa al ac, .int .i64 fuel] W fun e w' => e = .returned (.bool true) ∧ Below W.heap.size W w' := by
  have GR := Lib.hid (fun W => great_no c pa plen pcap ca cl cc aa al ac fuel W h1 h2 h3 h4)
  have RB := Lib.hid (fun w (h : Below W.heap.size W w) => run_bad r hr c pa plen pcap ca cl cc aa al ac fuel w (fun w2 b => ST w2 (h.trans (b.mono h.size))))
  have VB := Lib.hid (fun w (h : Below W.heap.size W w) => visits_bad r hr c pa plen pcap ca cl cc aa al ac fuel w (fun w2 b => ST w2 (h.trans (b.mono h.size))))
  have e0 : (r != 0) = true := by simpa using hr
  clear h1 h2 h3 h4 ST hr
  go_enter Try.func4, Try.ntmps4
  go_wp2_with fail
  refine (GR.out _).mono ?_
  rintro e w1 ⟨rfl, b1⟩
  have q0 := heap_past (W.alloc (.cells #[.int .i64 c, .slice pa plen pcap] 24)) (.cells #[.bool false] 4) W.heap.size (by simp)
  have q0 := brow b1 (q0.trans (heap_last W (.cells #[.int .i64 c, .slice pa plen pcap] 24) _ rfl))
  have q1 := brow b1 (heap_last (W.alloc (.cells #[.int .i64 c, .slice pa plen pcap] 24)) (.cells #[.bool false] 4) (W.heap.size + 1) (by simp))
  have p0 : w1.cell? ⟨W.heap.size, 0, none⟩ = some (.int .i64 c) := by simp only [World.cell?, q0]; rfl
  have p1 : w1.cell? ⟨W.heap.size, 1, none⟩ = some (.slice pa plen pcap) := by simp only [World.cell?, q0]; rfl
  have B1 := Lib.hid (below_call (below_new (below_new (Below.refl _ W) _) _) b1)
  have Q1 := Lib.hid q1
  have z1 := B1.out.size
  clear b1 GR q0 q1
  go_wp2_with fail
  refine (RB.out _ B1.out).mono ?_
  rintro e w2 ⟨rfl, b2⟩
  have p0 := (b2.cell (lt_of_cell p0)).trans p0
  have p1 := (b2.cell (lt_of_cell p1)).trans p1
  have lp := lt_of_cell p0
  have Q2 := Lib.hid (brow b2 Q1.out)
  have B2 := Lib.hid (below_call B1.out b2)
  clear b2 B1 Q1 RB
  unfold outV
  go_wp2_with fail
  refine (VB.out _ (below_new B2.out _)).mono ?_
  rintro e w3 ⟨rfl, b3⟩
  have Q3 := Lib.hid (brow b3 (heap_past w2 _ _ (Array.getElem?_eq_some_iff.1 Q2.out).1 |>.trans Q2.out))
  have B3 := Lib.hid (below_call (below_new B2.out _) b3)
  clear b3 B2 Q2 VB p0 p1 lp
  go_wp2_with fail
  refine (wakes_any _).mono ?_
  rintro e w4 ⟨rfl, b4⟩
  have Q4 := brow b4 (heap_past w3 _ _ (Array.getElem?_eq_some_iff.1 Q3.out).1 |>.trans Q3.out)
  have B4 := Lib.hid (below_call (below_new B3.out _) b4)
  have z4 := B4.out.size
  clear b4 B3 Q3
  go_wp2_with (with_reducible refine (halt_store 4 _ _ rfl ?_))
  refine ⟨?_, trivial⟩
  refine wpList_store_cell rfl 4 _ _ rfl (W.heap.size + 1) 0 (.bool true) rfl rfl rfl rfl 4 _ Q4 (by kernel_rfl) (by simp) ?_
  intro w5 s5
  have r5 := s5.row
  have B5 := Lib.hid (s5.below B4.out (by omega))
  clear s5 Q4
  go_wp2_with fail
  exact bodyPost_ret (v := .bool true) (res_c rfl rfl (load_bool r5)) rfl ⟨rfl, B5.out⟩
set_option maxHeartbeats 4000000 in
theorem counts_great (h : ¬ (plen ≤ 100 ∧ cl ≤ 400 ∧ al ≤ 400 ∧ ¬ (2000 < fuel ∧ fuel ≤ 10000))) :
    Calls Try.prog 4 #[.agg #[.int .i64 c, .slice pa plen pcap], .slice ca cl cc, .slice aa al ac, .int .i64 fuel] W fun e w' => e = .returned (.bool true) ∧ Below W.heap.size W w' := by
  have GR := Lib.hid (fun W => great_yes c pa plen pcap ca cl cc aa al ac fuel W h)
  clear h
  go_enter Try.func4, Try.ntmps4
  go_wp2_with fail
  refine (GR.out _).mono ?_
  rintro e w1 ⟨rfl, b1⟩
  have q1 := brow b1 (heap_last (W.alloc (.cells #[.int .i64 c, .slice pa plen pcap] 24)) (.cells #[.bool false] 4) (W.heap.size + 1) (by simp))
  have B1 := Lib.hid (below_call (below_new (below_new (Below.refl _ W) _) _) b1)
  have z1 := B1.out.size
  have Q1 := Lib.hid q1
  clear b1 GR q1
  go_wp2_with fail
  refine (wakes_any _).mono ?_
  rintro e w4 ⟨rfl, b4⟩
  have Q4 := brow b4 Q1.out
  have B4 := Lib.hid (below_call B1.out b4)
  clear b4 B1 Q1
  go_wp2_with (with_reducible refine (halt_store 4 _ _ rfl ?_))
  refine ⟨?_, trivial⟩
  refine wpList_store_cell rfl 4 _ _ rfl (W.heap.size + 1) 0 (.bool true) rfl rfl rfl rfl 4 _ Q4 (by kernel_rfl) (by simp) ?_
  intro w5 s5
  have r5 := s5.row
  have B5 := Lib.hid (s5.below B4.out (by omega))
  clear s5 Q4
  go_wp2_with fail
  exact bodyPost_ret (v := .bool true) (res_c rfl rfl (load_bool r5)) rfl ⟨rfl, B5.out⟩
end
theorem counts_law (c : Int) (pa : Option Addr) (plen pcap : Nat) (x : Nat → In) (ca : Option Addr) (cl cc : Nat) (cz : List Int) (aa : Option Addr) (al ac : Nat) (az : List Int) (fuel : Int) (W : World) (_ : (Lit.int .i64 c).wf = true) (hI : Insts W pa plen pcap x) (rc : IsRow .u8 W ca cl cc cz)
    (hz : ∀ z ∈ az, 0 ≤ z ∧ z < 18446744073709551616) (hA : WordsAt W aa al ac az) (_ : (Lit.int .i64 fuel).wf = true) :
    Calls Try.prog 4 #[.agg #[.int .i64 c, .slice pa plen pcap], .slice ca cl cc, .slice aa al ac, .int .i64 fuel] W fun e w' => e = .returned (.bool true) ∧ Below W.heap.size W w' := by
  by_cases hg : plen ≤ 100 ∧ cl ≤ 400 ∧ al ≤ 400 ∧ ¬ (2000 < fuel ∧ fuel ≤ 10000)
  case neg => exact counts_great c pa plen pcap ca cl cc aa al ac fuel W hg
  obtain ⟨g1, g2, g3, g4⟩ := hg
  by_cases hchk : (checkI c plen x).2 = 0
  case neg => exact counts_bad c pa plen pcap ca cl cc aa al ac fuel W _ hchk g1 g2 g3 g4 (fun w h => start_chk c pa plen pcap x ca cl cc aa al ac fuel w (hI.below h) hchk)
  by_cases ha : (cl : Int) = c ∧ 0 ≤ fuel ∧ fuel ≤ 10000
  case neg => exact counts_bad c pa plen pcap ca cl cc aa al ac fuel W 2 (by decide) g1 g2 g3 g4 (fun w h => start_arg c pa plen pcap x ca cl cc aa al ac fuel w (hI.below h) hchk ha)
  obtain ⟨h1, _, _⟩ := ends_facts hchk
  obtain ⟨b, o, rfl, _⟩ := hI.here (by omega)
  exact counts_ok c b o plen pcap x ca cl cc _ aa al ac az fuel W hI (src_row rc) hA hz hchk ha.1 ha.2.1 ha.2.2 g3 g4
end Go.Proofs.Ythhgcbegcbhaeaa.Mdl
