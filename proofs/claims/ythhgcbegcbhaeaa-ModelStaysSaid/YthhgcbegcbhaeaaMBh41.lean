/-
  Several texts in one: MdlV, MdlX, MdlY.
-/
import Derived.Test.YthhgcbegcbhaeaaMBh37
import Derived.Test.YthhgcbegcbhaeaaMBh40
set_option linter.unusedVariables false
set_option linter.unusedSimpArgs false
set_option linter.unnecessarySimpa false
namespace Go.Proofs.Ythhgcbegcbhaeaa.Mdl
open Go.RowKit Go.Maps Ins Trc
set_option linter.unusedVariables false
set_option linter.unusedSimpArgs false
set_option maxRecDepth 100000

set_option maxHeartbeats 4000000 in
theorem start_chk (c : Int) (pa : Option Addr) (plen pcap : Nat) (x : Nat → In) (ca : Option Addr) (cl cc : Nat) (aa : Option Addr) (al ac : Nat) (fuel : Int) (W : World) (hI : Insts W pa plen pcap x) (hchk : (checkI c plen x).2 ≠ 0) :
    Calls Try.prog 18 #[.agg #[.int .i64 c, .slice pa plen pcap], .slice ca cl cc, .slice aa al ac, .int .i64 fuel] W fun e w' => e = .returned (.tuple #[.pointer none, .int .i64 (checkI c plen x).2]) ∧ Below W.heap.size W w' := by
  have CHK := Lib.hid (fun W h => check_any c pa plen pcap x W h)
  have HI := Lib.hid (fun w (h : Below W.heap.size W w) => hI.below h)
  clear hI
  generalize (checkI c plen x).1 = k1 at *
  generalize (checkI c plen x).2 = k2 at *
  have e0 : (k2 != 0) = true := by simpa using hchk
  clear hchk
  have bx0 := below_new (Below.refl W.heap.size W) (.cells #[.int .i64 c, .slice pa plen pcap] 24)
  have rw0 := heap_last W (.cells #[.int .i64 c, .slice pa plen pcap] 24) _ rfl
  go_enter Try.func18, Try.ntmps18
  go_wp2_with fail
  generalize W.alloc (.cells #[.int .i64 c, .slice pa plen pcap] 24) = w0 at *
  refine (CHK.out _ (HI.out _ bx0)).mono ?_
  rintro e w1 ⟨rfl, b1⟩
  have bx1 := bx0.trans (b1.mono bx0.size)
  clear b1
  go_wp2_with fail
  go_ret2
  exact ⟨rfl, by assumption⟩

set_option maxHeartbeats 4000000 in
theorem start_arg (c : Int) (pa : Option Addr) (plen pcap : Nat) (x : Nat → In) (ca : Option Addr) (cl cc : Nat) (aa : Option Addr) (al ac : Nat) (fuel : Int) (W : World) (hI : Insts W pa plen pcap x) (hchk : (checkI c plen x).2 = 0) (h : ¬ ((cl : Int) = c ∧ 0 ≤ fuel ∧ fuel ≤ 10000)) :
    Calls Try.prog 18 #[.agg #[.int .i64 c, .slice pa plen pcap], .slice ca cl cc, .slice aa al ac, .int .i64 fuel] W fun e w' => e = .returned (.tuple #[.pointer none, .int .i64 2]) ∧ Below W.heap.size W w' := by
  have CHK := Lib.hid (fun W h => check_any c pa plen pcap x W h)
  have HI := Lib.hid (fun w (h : Below W.heap.size W w) => hI.below h)
  clear hI
  rw [hchk] at CHK
  generalize (checkI c plen x).1 = k1 at *
  clear hchk
  have bx0 := below_new (Below.refl W.heap.size W) (.cells #[.int .i64 c, .slice pa plen pcap] 24)
  have rw0 := heap_last W (.cells #[.int .i64 c, .slice pa plen pcap] 24) _ rfl
  by_cases h1 : (cl : Int) = c
  case neg =>
    have e1 : ((cl : Int) != c) = true := by simpa using h1
    clear h h1
    go_enter Try.func18, Try.ntmps18
    go_wp2_with fail
    generalize W.alloc (.cells #[.int .i64 c, .slice pa plen pcap] 24) = w0 at *
    refine (CHK.out _ (HI.out _ bx0)).mono ?_
    rintro e w1 ⟨rfl, b1⟩
    have rw1 := brow b1 rw0
    have bx1 := bx0.trans (b1.mono bx0.size)
    have c0 : w1.cell? ⟨W.heap.size, 0, none⟩ = some (.int .i64 c) := by simp only [World.cell?, rw1]; rfl
    clear b1 rw0 bx0
    go_wp2_with fail
    go_ret2
    exact ⟨rfl, by assumption⟩
  by_cases h2 : fuel < 0
  case pos =>
    subst h1
    clear h
    go_enter Try.func18, Try.ntmps18
    go_wp2_with fail
    generalize W.alloc (.cells #[.int .i64 (cl : Int), .slice pa plen pcap] 24) = w0 at *
    refine (CHK.out _ (HI.out _ bx0)).mono ?_
    rintro e w1 ⟨rfl, b1⟩
    have rw1 := brow b1 rw0
    have bx1 := bx0.trans (b1.mono bx0.size)
    have c0 : w1.cell? ⟨W.heap.size, 0, none⟩ = some (.int .i64 cl) := by simp only [World.cell?, rw1]; rfl
    clear b1 rw0 bx0
    go_wp2_with fail
    go_ret2
    exact ⟨rfl, by assumption⟩
  have h3 : 10000 < fuel := by omega
  subst h1
  clear h
  go_enter Try.func18, Try.ntmps18
  go_wp2_with fail
  generalize W.alloc (.cells #[.int .i64 (cl : Int), .slice pa plen pcap] 24) = w0 at *
  refine (CHK.out _ (HI.out _ bx0)).mono ?_
  rintro e w1 ⟨rfl, b1⟩
  have rw1 := brow b1 rw0
  have bx1 := bx0.trans (b1.mono bx0.size)
  have c0 : w1.cell? ⟨W.heap.size, 0, none⟩ = some (.int .i64 cl) := by simp only [World.cell?, rw1]; rfl
  clear b1 rw0 bx0
  go_wp2_with fail
  go_ret2
  exact ⟨rfl, by assumption⟩
end Go.Proofs.Ythhgcbegcbhaeaa.Mdl

namespace Go.Proofs.Ythhgcbegcbhaeaa.Mdl
open Go.RowKit Go.Maps Ins Trc
set_option linter.unusedVariables false
set_option linter.unusedSimpArgs false
set_option maxRecDepth 100000

theorem fine_env {c : Int} {W : World} {pa : Option Addr} {plen pcap : Nat} {x : Nat → In} (hI : Insts W pa plen pcap x) (h : (checkI c plen x).2 = 0) {E : Env} (e1 : E.x = x) (e2 : E.pl = plen) (e3 : E.pl ≤ E.pc) : Fine E := by
  obtain ⟨h1, h64, hf⟩ := ends_facts h
  subst e1 e2
  exact ⟨e3, ⟨h1, h64⟩, fun k hk => (hf k hk).1, fun k hk => hI.ok k hk, fun k hk => (hf k hk).2.1, fun k hk hj => by have := (hf k hk).2.2.1 hj; omega, fun k hk => (hf k hk).2.2.2⟩
theorem check_c {c : Int} {plen : Nat} {x : Nat → In} (h : (checkI c plen x).2 = 0) : 0 ≤ c ∧ c ≤ 256 := by
  unfold checkI at h
  by_cases h1 : c < 0 ∨ 256 < c
  · rw [if_pos h1] at h; simp at h
  · omega
theorem ini_runs (E : Env) (cb cl : Nat) (cf : Nat → Int) (fuel : Int) (zs : List Int) (h1 : 1 ≤ E.pl) (f0 : 0 ≤ fuel) (f1 : fuel ≤ 10000) : Runs E (ini cb cl cf fuel zs) :=
  ⟨Int.le_refl 0, by show (0 : Int) < E.pl; omega, by show ((([] : List Trc.Ev).length : Nat) : Int) + fuel ≤ 10000; simp; omega, f0⟩
theorem Rel.ownF (E : Env) (f : Nat → Pl) (p : Nat → List Int → Int → Prop) (B : Nat) (x : Int) : OwnFrom B (fun (pre : List Int) W => ∃ k, p k pre x ∧ Rel E (f k) W) := fun s W W' row ⟨k, h1, h2⟩ hg hr => ⟨k, h1, Rel.own E (f k) B s W W' row h2 hg hr⟩
theorem Yr.own (E : Env) (D : Pl) (B : Nat) (x : Int) : OwnFrom B (fun pre => Yr E D pre x) := fun s W W' row ⟨k, h1, h2, h3, h4, h5⟩ hg hr => ⟨k, h1, h2, h3, h4, Rel.own E _ B s W W' row h5 hg hr⟩
theorem Sr.own (E : Env) (D : Pl) (B : Nat) : OwnFrom B (Sr E D) := fun s W W' row ⟨k, h1, h2, h3⟩ hg hr => ⟨k, h1, h2, Rel.own E _ B s W W' row h3 hg hr⟩
theorem Spr.own (E : Env) (D : Pl) (B : Nat) : OwnFrom B (Spr E D) := fun s W W' row h _ _ => h
/-- A block of the caller's that no run turns. -/
theorem row_own {β : Type} (B r : Nat) (c : Array Value) (t : TypeId) : OwnFrom B (fun (_ : β) W => W.heap[r]? = some (.cells c t (0, 0))) := fun s w w' row h g hr => (g.block r (Array.getElem?_eq_some_iff.1 h).1 (fun e => by
  obtain ⟨_, o, ho, hc⟩ := hr r e.symm
  rw [h] at ho
  injection ho with ho
  subst ho
  simp [Obj.isCells] at hc)).trans h
theorem TurnT.below {τ : TypeId → Bool} {β n : Nat} {w0 A B : World} (b : Below n w0 A) (t : TurnT τ β A B) (h : n ≤ β) (hn : n ≤ w0.heap.size) : Below n w0 B :=
  ⟨t.os.trans b.os, t.tape.trans b.tape, t.output.trans b.output, Nat.le_trans b.size t.size, fun k hk => by
    have e1 := b.block k hk
    have hlt : k < w0.heap.size := by omega
    have e2 := Array.getElem?_eq_getElem hlt
    rw [e2] at e1 ⊢
    exact t.same k _ e1 (.inl (by omega))⟩

def RunIs (W : World) (x : Nat → In) (plen cl : Nat) (cf : Nat → Int) (fuel : Int) (zs : List Int) (e : Ending) (w' : World) : Prop :=
  ∃ (E : Env) (cb m : Nat) (oa : Option Addr) (ob : Nat) (ta : Option Addr) (tc : Nat), E.x = x ∧ E.pl = plen ∧ E.kf = (fun _ => 0) ∧ Fine E ∧ Runs E (ini cb cl cf fuel zs) ∧ Done E (ini cb cl cf fuel zs) m ∧
    e = .returned (.tuple #[outV (its E (ini cb cl cf fuel zs) m).out oa ob ta tc, .int .i64 0]) ∧ OutAt w' (its E (ini cb cl cf fuel zs) m).out oa ob ta tc ∧ Below W.heap.size W w'

set_option maxHeartbeats 8000000 in
theorem run_ok (c : Int) (b o plen pcap : Nat) (x : Nat → In) (ca : Option Addr) (cl cc : Nat) (cf : Nat → Int) (aa : Option Addr) (al ac tk : Nat) (zs : List Int) (fuel : Int) (W : World) (hI : Insts W (some ⟨b, o, none⟩) plen pcap x) (hS : Src W ca cl cc cf) (hA : WordsAt W aa al ac zs)
    (hchk : (checkI c plen x).2 = 0) (hlen : (cl : Int) = c) (f0 : 0 ≤ fuel) (f1 : fuel ≤ 10000) (htk : min (al : Int) fuel = (tk : Int)) (hal : al ≤ 1000) (hz : ∀ z ∈ zs, 0 ≤ z ∧ z < 18446744073709551616) :
    Calls Try.prog 9 #[.agg #[.int .i64 c, .slice (some ⟨b, o, none⟩) plen pcap], .slice ca cl cc, .slice aa al ac, .int .i64 fuel] W (RunIs W x plen cl cf fuel (zs.take tk)) := by
  obtain ⟨h1, h64, _⟩ := ends_facts hchk
  have hc := check_c hchk
  have htl : tk ≤ al := by omega
  have ST := Lib.hid (fun w (h : Below W.heap.size W w) => start_ok c b o plen pcap x ca cl cc cf aa al ac tk zs fuel w (hI.below h) (hS.below h) (hA.below h) hchk hlen (by omega) f0 f1 ⟨h1, h64⟩ htk hal htl hz)
  have FI := Lib.hid (fun (E : Env) e1 e2 e3 => fine_env hI hchk (E := E) e1 e2 e3)
  have RU := Lib.hid (fun (E : Env) (h : 1 ≤ E.pl) cb => ini_runs E cb cl cf fuel (zs.take tk) h f0 f1)
  clear hI hS hA hchk hlen hz htk
  generalize zs.take tk = ys at *
  have bx0 := below_new (below_new (Below.refl W.heap.size W) (.cells #[.int .i64 c, .slice (some ⟨b, o, none⟩) plen pcap] 24)) (.cells #[.int .i8 0, .int .u64 0, .slice none 0 0, .slice none 0 0, .int .i64 0] 33)
  have rz0 := heap_last (W.alloc (.cells #[.int .i64 c, .slice (some ⟨b, o, none⟩) plen pcap] 24)) (.cells #[.int .i8 0, .int .u64 0, .slice none 0 0, .slice none 0 0, .int .i64 0] 33) (W.heap.size + 1) (by simp)
  have hmf : ∀ (fn : Fn) (first cap : Array Value) (w : World), (Instr.makeFunc fn first cap).run Try.prog w = .ok (.func fn first cap) w := fun _ _ _ _ => rfl
  refine (callsIn_wide (n := 3)).1 (callsIn_of_wp_marks Try.func9 rfl trivial ?_ rfl)
  simp only [Try.ntmps9, List.size_toArray, List.length_cons, List.length_nil, Nat.reduceAdd, Nat.reduceSub, Array.replicate_succ, Array.replicate_zero, List.push_toArray, List.append_toArray, List.nil_append, List.cons_append]
  refine (wpIn_wide (n := 3)).2 ?_
  go_wp2_with fail
  generalize (W.alloc (.cells #[.int .i64 c, .slice (some ⟨b, o, none⟩) plen pcap] 24)).alloc (.cells #[.int .i8 0, .int .u64 0, .slice none 0 0, .slice none 0 0, .int .i64 0] 33) = w0 at *
  refine (ST.out _ bx0).mono ?_
  rintro e w1 ⟨E, cb, rfl, eb, ex, el, ec, ek, b1, R⟩
  have F := FI.out E ex el ec
  have RR := RU.out E (by omega) cb
  have rz1 := brow b1 rz0
  have bx1 := bx0.trans (b1.mono bx0.size)
  have hb : W.heap.size ≤ E.β := by rw [eb]; exact bx0.size
  have hb2 : W.heap.size + 1 < E.β := by rw [eb]; exact (Array.getElem?_eq_some_iff.1 rz0).1
  have hw1 := bx1.size
  have SEQ := Lib.hid (run_seq E F (ini cb cl cf fuel ys) RR rfl 2 w1 R)
  clear ST FI RU rz0 bx0 b1 eb ec R
  go_wp2_with fail
  refine (wpIn_wide (n := 3)).1 ?_
  refine range_T (by decide) (gf := 19) (pa := #[.pointer (some ⟨E.g, 0, none⟩)]) (lb := #[]) rfl (enters_of Try.func19 (by kernel_rfl) rfl) SEQ.out (Below.refl _ _) (fun _ => rfl)
    (fun _ w => Below W.heap.size W w ∧ w.heap[W.heap.size + 1]? = some (.cells #[.int .i8 0, .int .u64 0, .slice none 0 0, .slice none 0 0, .int .i64 0] 33 (0, 0))) (fun _ _ _ => False)
    (OwnFrom.and (ownFrom_below (Nat.le_refl _) bx1.size) (row_own _ _ _ _)) (Yr.own E _ _) (fun _ _ _ _ _ h _ _ => h)
    (fun _ A B h t => ⟨TurnT.below h.1 t hb (Nat.le_refl _), Turn.row t h.2 (by decide)⟩) (fun _ _ _ _ h _ => h) (Sr.own E _ _) (Spr.own E _ _) ⟨bx1, rz1⟩ ?a1 ?assign ?body ?done ?stop
  case assign =>
    intro l x W K hK
    refine wpIn_skip ?_
    exact hK
  case body =>
    rintro l pre x W hi hy
    refine wpIn_block (wpIn_skip ?_)
    exact ⟨KeepsFrom.refl _ _, KeepT.refl _, hi⟩
  case stop =>
    rintro D c pre W _ _ h _
    exact h.elim
  case done =>
    rintro D xs W9 hD ⟨m, hm, _, R9⟩ ⟨hb9, hr9⟩ hK
    have OU := Lib.hid (outcome_any E (its E (ini cb cl cf fuel ys) m) W9 R9)
    go_wp2_with fail
    refine OU.out.mono ?_
    rintro e w5 ⟨oa, ob, ta, tc, rfl, oat, b5⟩
    have hr5 := brow b5 hr9
    have hK5 := brow b5 hK
    have bx5 := hb9.trans (b5.mono hb9.size)
    have hK9 := Lib.hid hK
    clear OU b5 hb9 hr9 hK SEQ rz1 bx1 R9
    have hlt : W.heap.size ≤ W.heap.size + 1 := by omega
    have FO := Lib.hid (fun w' (h : OutAt w' (its E (ini cb cl cf fuel ys) m).out oa ob ta tc) (k : Below W.heap.size W w') => (show RunIs W x plen cl cf fuel ys _ w' from ⟨E, cb, m, oa, ob, ta, tc, ex, el, ek, F, RR, hm, rfl, h, k⟩))
    generalize (its E (ini cb cl cf fuel ys) m).out = oo at *
    unfold outV at *
    generalize oo.ctx.length = ocl at *
    generalize oo.tr.length = otl at *
    go_wp2_with (with_reducible refine (halt_store 33 _ _ rfl ?_))
    refine ⟨?_, trivial⟩
    refine wpList_store_is rfl 33 _ _ rfl (W.heap.size + 1) _ rfl rfl _ _ hr5 (by kernel_rfl) rfl (by simp [Value.oneCell']) ?_
    intro w6 s6
    have bx6 := s6.below bx5 hlt
    have hK6 := (s6.other D (fun e => by subst e; rw [hr5] at hK5; injection hK5 with hK5; cases hK5)).trans hK5
    have hr6 := s6.row
    have t6 : Trn [W.heap.size + 1] w5 w6 := ⟨s6.os, s6.tape, s6.output, by rw [s6.size]; exact Nat.le_refl _, fun k _ hn => s6.other k (by simpa using hn)⟩
    clear s6 bx5 hK5 hr5 hlt
    go_wp2_with fail
    have hlt6 : D < w6.heap.size := (Array.getElem?_eq_some_iff.1 hK6).1
    have t7 : Trn [D] w6 (w6.putObj D (.deferred none)) := ⟨rfl, rfl, rfl, by simp [World.putObj], fun k _ hn => World.putObj_heap_other (by simpa using hn)⟩
    refine ⟨by simp, .inl ⟨_, _, rfl, run_takeDeferred hK6, _, res_ct rfl rfl (load_row _ (t7.row hr6 (fun hm => by rw [List.mem_singleton] at hm; rw [hm, hK6] at hr6; injection hr6 with hr6; cases hr6)) Try.underlying33 rfl (by kernel_rfl)) rfl, FO.out _ ?_ (bx6.trans ?_)⟩⟩
    · refine oat [W.heap.size + 1, D] _ (fun g hg => ?_) ((t6.weak (fun k hk => by simp at hk; simp [hk])).trans (t7.weak (fun k hk => by simp at hk; simp [hk])))
      simp only [List.mem_cons, List.not_mem_nil, or_false] at hg
      rcases hg with rfl | rfl
      · exact .inl hb2
      · exact .inr ⟨_, hK9.out, rfl⟩
    · exact ⟨rfl, rfl, rfl, t7.size, fun k hk => t7.block k (by have := bx6.size; omega) (by simp; omega)⟩
end Go.Proofs.Ythhgcbegcbhaeaa.Mdl

namespace Go.Proofs.Ythhgcbegcbhaeaa.Mdl
open Go.RowKit Go.Maps Ins Trc
set_option linter.unusedVariables false
set_option linter.unusedSimpArgs false
set_option maxRecDepth 100000

def Pl.cb (D : Pl) (c : Nat) : Pl := { D with mem := { D.mem with cb := c } }
theorem exe_cb (D : Pl) (c : Nat) (kf : Nat → Int) (x : In) : (D.cb c).exe kf x = ((D.exe kf x).1.cb c, (D.exe kf x).2) := by
  unfold Pl.exe
  by_cases k0 : x.kind = 0
  · rw [if_pos k0, if_pos k0]; rfl
  rw [if_neg k0, if_neg k0]
  by_cases k1 : x.kind = 1
  · rw [if_pos k1, if_pos k1]
    show (if readE D.mem (adI (D.r x.src.toNat) x.off) x.size.toNat = 0 then _ else _) = _
    by_cases h : readE D.mem (adI (D.r x.src.toNat) x.off) x.size.toNat = 0
    · rw [if_pos h, if_pos h]; rfl
    · rw [if_neg h, if_neg h]
  rw [if_neg k1, if_neg k1]
  by_cases k2 : x.kind = 2
  · rw [if_pos k2, if_pos k2]
    show (if locI D.mem.cn D.mem.n D.mem.hs (adI (D.r x.dst.toNat) x.off) x.size.toNat ≤ 1 then _ else _) = _
    by_cases h : locI D.mem.cn D.mem.n D.mem.hs (adI (D.r x.dst.toNat) x.off) x.size.toNat ≤ 1
    · rw [if_pos h, if_pos h]
    · rw [if_neg h, if_neg h]; rfl
  rw [if_neg k2, if_neg k2]
  by_cases k3 : x.kind = 3
  · rw [if_pos k3, if_pos k3]
    show ((if holdsB x.op 64 (D.r x.dst.toNat) (D.opd x) = true then _ else _ : Pl), (0 : Int)) = _
    by_cases h : holdsB x.op 64 (D.r x.dst.toNat) (D.opd x) = true
    · rw [if_pos h, if_pos h]; rfl
    · rw [if_neg h, if_neg h]
  rw [if_neg k3, if_neg k3]
  by_cases k4 : x.kind = 4
  · rw [if_pos k4, if_pos k4]; rfl
  rw [if_neg k4, if_neg k4]
  by_cases k5 : x.kind = 5
  · rw [if_pos k5, if_pos k5]
    show (match D.ans with | [] => _ | a :: l => _) = _
    cases D.ans <;> rfl
  rw [if_neg k5, if_neg k5]
theorem step_cb (D : Pl) (c : Nat) (kf : Nat → Int) (x : In) : (D.cb c).step kf x = (D.step kf x).cb c := by
  have h := exe_cb D.adv c kf x
  unfold Pl.step
  show (if (andM D.set (readsM x) == readsM x) = true then _ else _) = _
  by_cases hr : (andM D.set (readsM x) == readsM x) = true
  · rw [if_pos hr, if_pos hr]
    show { ((D.adv.cb c).exe kf x).1 with fin := ((D.adv.cb c).exe kf x).2 } = _
    rw [h]; rfl
  · rw [if_neg hr, if_neg hr]; rfl
/-- The environment that a program in plain numbers has. -/
def env (x : Nat → In) (n : Nat) : Env := ⟨0, 0, 0, 0, 0, n, n, x, fun _ => 0⟩
theorem its_env {E : Env} (hk : E.kf = fun _ => 0) (D : Pl) (c : Nat) : ∀ k, its E (D.cb c) k = (its (env E.x E.pl) D k).cb c
  | 0 => rfl
  | k + 1 => by
    show (its E (D.cb c) k).step E.kf (E.x (its E (D.cb c) k).ix) = ((its (env E.x E.pl) D k).step (fun _ => 0) (E.x (its (env E.x E.pl) D k).ix)).cb c
    rw [its_env hk D c k, hk, step_cb]; rfl
theorem goes_env {E : Env} (hk : E.kf = fun _ => 0) (D : Pl) (c : Nat) (k : Nat) : Goes E (D.cb c) k ↔ Goes (env E.x E.pl) D k := by
  unfold Goes
  constructor
  · intro h j hj
    have := h j hj
    rw [its_env hk, its_env hk] at this
    exact this
  · intro h j hj
    rw [its_env hk, its_env hk]
    exact h j hj
theorem done_env {E : Env} (hk : E.kf = fun _ => 0) (D : Pl) (c : Nat) (m : Nat) : Done E (D.cb c) m → Done (env E.x E.pl) D m := by
  rintro (⟨h1, h2⟩ | ⟨k, rfl, h1, h2, h3⟩)
  · rw [its_env hk] at h2
    exact .inl ⟨(goes_env hk D c m).1 h1, h2⟩
  · rw [its_env hk] at h2 h3
    exact .inr ⟨k, rfl, (goes_env hk D c k).1 h1, h2, h3⟩
/-- How the run of a program ends. -/
def Ends (x : Nat → In) (n : Nat) (D : Pl) (oo : Out) : Prop := ∃ m, Done (env x n) D m ∧ oo = (its (env x n) D m).out
theorem Done.uniq {E : Env} {D : Pl} {m m' : Nat} (h : Done E D m) (h' : Done E D m') : m = m' := by
  have key : ∀ {m m' : Nat}, Done E D m → Done E D m' → ¬ m < m' := by
    rintro m m' (⟨h1, h2⟩ | ⟨k, rfl, h1, h2, h3⟩) h' hlt
    · rcases h' with ⟨g1, g2⟩ | ⟨k', rfl, g1, g2, g3⟩
      · exact h2 (g1 m hlt).1
      · by_cases e : m = k'
        · subst e; exact h2 g2
        · exact h2 (g1 m (by omega)).1
    · rcases h' with ⟨g1, g2⟩ | ⟨k', rfl, g1, g2, g3⟩
      · exact h3 (g1 k (by omega)).2
      · exact h3 (g1 k (by omega)).2
  have a := key h h'
  have b := key h' h
  omega
theorem Ends.uniq {x : Nat → In} {n : Nat} {D : Pl} {o o' : Out} (h : Ends x n D o) (h' : Ends x n D o') : o = o' := by
  obtain ⟨m, h1, rfl⟩ := h
  obtain ⟨m', h2, rfl⟩ := h'
  rw [Done.uniq h1 h2]
/-- Only the instructions ahead of the program's end count. -/
theorem its_like {x y : Nat → In} {n n' : Nat} (hn : n ≤ n') (hxy : ∀ i, i < n → y i = x i) {D : Pl} (F : Fine (env x n)) (R : Runs (env x n) D) : ∀ k, Goes (env x n) D k → its (env y n') D k = its (env x n) D k ∧ (0 < (its (env x n) D k).fuel → its (env y n') D (k + 1) = its (env x n) D (k + 1))
  | 0, _ => ⟨rfl, fun _ => by
    have := R.ix.1
    show D.step (fun _ => 0) (y D.ix) = D.step (fun _ => 0) (x D.ix)
    rw [hxy _ this]⟩
  | k + 1, g => by
    have g0 : Goes (env x n) D k := fun j hj => g j (by omega)
    have h := (its_like hn hxy F R k g0).2 (g k (by omega)).1
    refine ⟨h, fun _ => ?_⟩
    have := (R.its F (k + 1) g).ix.1
    show (its (env y n') D (k + 1)).step (fun _ => 0) (y (its (env y n') D (k + 1)).ix) = (its (env x n) D (k + 1)).step (fun _ => 0) (x (its (env x n) D (k + 1)).ix)
    rw [h, hxy _ this]
theorem ends_behind {x y : Nat → In} {n n' : Nat} (hn : n ≤ n') (hxy : ∀ i, i < n → y i = x i) {D : Pl} (F : Fine (env x n)) (R : Runs (env x n) D) {o o' : Out} (h : Ends x n D o) (h' : Ends y n' D o') : o = o' := by
  obtain ⟨m, h1, rfl⟩ := h
  refine Ends.uniq (n := n') (x := y) ?_ h'
  have goes : ∀ k, Goes (env x n) D k → Goes (env y n') D k := fun k g j hj => by
    have g0 : Goes (env x n) D j := fun i hi => g i (by omega)
    have a := its_like hn hxy F R j g0
    rw [a.1, a.2 (g j hj).1]
    exact g j hj
  rcases h1 with ⟨g, f⟩ | ⟨k, rfl, g, f, e⟩
  · have a := its_like hn hxy F R m g
    exact ⟨m, .inl ⟨goes m g, by rw [a.1]; exact f⟩, by rw [a.1]⟩
  · have a := its_like hn hxy F R k g
    exact ⟨k + 1, .inr ⟨k, rfl, goes k g, by rw [a.1]; exact f, by rw [a.2 f]; exact e⟩, by rw [a.2 f]⟩

/-- The first state, wherever its code lies. -/
theorem ini_cb (cb cl : Nat) (cf : Nat → Int) (fuel : Int) (zs : List Int) : ini cb cl cf fuel zs = (ini 0 cl cf fuel zs).cb cb := rfl
def RunIs2 (W : World) (x : Nat → In) (plen cl : Nat) (cf : Nat → Int) (fuel : Int) (zs : List Int) (e : Ending) (w' : World) : Prop :=
  ∃ (oo : Out) (oa : Option Addr) (ob : Nat) (ta : Option Addr) (tc : Nat), Fine (env x plen) ∧ Runs (env x plen) (ini 0 cl cf fuel zs) ∧ Ends x plen (ini 0 cl cf fuel zs) oo ∧ e = .returned (.tuple #[outV oo oa ob ta tc, .int .i64 0]) ∧ OutAt w' oo oa ob ta tc ∧ Below W.heap.size W w'
theorem RunIs.plain {W : World} {x : Nat → In} {plen cl : Nat} {cf : Nat → Int} {fuel : Int} {zs : List Int} {e : Ending} {w' : World} (h : RunIs W x plen cl cf fuel zs e w') : RunIs2 W x plen cl cf fuel zs e w' := by
  obtain ⟨E, cb, m, oa, ob, ta, tc, rfl, rfl, hk, F, R, hd, rfl, ho, hb⟩ := h
  rw [ini_cb] at hd ho ⊢
  have hit := its_env hk (ini 0 cl cf fuel zs) cb m
  have ho2 : (its E ((ini 0 cl cf fuel zs).cb cb) m).out = (its (env E.x E.pl) (ini 0 cl cf fuel zs) m).out := by rw [hit]; rfl
  rw [ho2] at ho ⊢
  exact ⟨_, oa, ob, ta, tc, ⟨Nat.le_refl _, F.len, F.may, F.ok, F.jumps, F.into, F.on⟩, ⟨R.lo, R.hi, R.few, R.fuel⟩, ⟨m, done_env hk _ cb m hd, rfl⟩, rfl, ho, hb⟩
end Go.Proofs.Ythhgcbegcbhaeaa.Mdl
