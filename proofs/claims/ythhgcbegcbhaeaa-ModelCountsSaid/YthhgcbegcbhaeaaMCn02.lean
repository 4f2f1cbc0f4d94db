/-
  Several texts in one: MdlIn, MdlVs, MdlEc.
-/
import Derived.Test.YthhgcbegcbhaeaaMBh30
import Derived.OwnWalkIn
import Derived.Test.YthhgcbegcbhaeaaMBh41
import Derived.RangeFuncBox
import Derived.RangeFuncNested
import Derived.RangeFuncBound
import Derived.RangeFuncCalls
import Derived.Shelf.RegionOpen
import Derived.Test.YthhgcbegcbhaeaaMCn01
set_option linter.unusedVariables false
set_option linter.unusedSimpArgs false
set_option linter.unnecessarySimpa false
namespace Go.Proofs.Ythhgcbegcbhaeaa.Mdl
open Go.RowKit Go.Shelf
set_option linter.unusedVariables false
set_option maxRecDepth 100000

section
variable {P : Program} {l n : Nat} {ops : Array Oper} {Q : Exit → Act → World → Prop} {rest : List Oper} {o : Oper} {a : Act} {w : World}
/-- The ways out of one operation: where it goes on, the rest is walked inside. -/
def viaQ (l n : Nat) (P : Program) (ops : Array Oper) (Q : Exit → Act → World → Prop) (rest : List Oper) : Exit → Act → World → Prop
  | .normal, a, w => wpListIn (Fence.wide.inRound l) n P ops Q rest a w
  | e, a, w => Q e a w
theorem in_of_upon {Q' : Exit → Act → World → Prop} {next : Act → World → Prop} (hq : ∀ a w, ¬ Q .outgrown a w) (hp : ∀ c a w, Q' (.panic c) a w → Q (.panic c) a w) (ho : ∀ a w, Q' .outgrown a w → Q .outgrown a w) :
    ∀ r, o.upon P a next Q' r → o.uponIn (Fence.wide.inRound l) n P a next Q r := by
  intro r h
  cases r with
  | ok x w' =>
    cases x with
    | value v => exact h
    | skip => exact h
    | defer d => exact h
    | enter f args =>
      refine ⟨fun _ => by simp [Fence.wide] at *, ?_⟩
      refine (callsIn_wide (n := n - 1)).2 (Calls.mono h ?_)
      rintro e w2 h2
      cases e with
      | returned v => exact h2
      | panicked chain => exact hp _ _ _ h2
      | outgrown =>
        obtain ⟨a, w, h3⟩ := h2
        exact absurd (ho _ _ h3) (hq _ _)
    | row row args =>
      refine ⟨fun _ => by simp [Fence.wide] at *, fun c cs _ => ?_⟩
      obtain ⟨v, w', r, s⟩ := h c cs
      exact ⟨v, w', r, (stepsIn_wide).2 s⟩
    | _ => exact h.elim
  | halt x w' =>
    cases x with
    | panic v => exact hp _ _ _ h
    | _ => exact h.elim
/-- One operation, by a law of the walk outside. -/
theorem wpListIn_via (hg : o.guard = none) (hd : ∀ c, o.op ≠ .defer c) (hq : ∀ a w, ¬ Q .outgrown a w)
    (h : wpList P ops (viaQ l n P ops Q rest) [o] a w) : wpListIn (Fence.wide.inRound l) n P ops Q (o :: rest) a w := by
  have hw : Region.wanted o (yielded ops a.tmps) = true := by simp [Region.wanted, hg]
  unfold wpListIn
  rw [if_pos hw]
  unfold wpList at h
  rw [if_pos hw] at h
  rcases h with h | h
  · refine ⟨fun _ _ => trivial, ?_⟩
    rw [show (Fence.wide.inRound l).round = some l from rfl, ← show (Fence.wide.inRound l).round = some l from rfl, Oper.semAt_plain _ _ _ hd]
    exact in_of_upon (Q' := viaQ l n P ops Q rest) hq (fun _ _ _ h => h) (fun _ _ h => h) _ h
  · obtain ⟨_, a, w, h⟩ := h
    exact absurd h (hq a w)
theorem in_of_list {Q' : Exit → Act → World → Prop} (hq : ∀ a w, ¬ Q .outgrown a w) (ho : ∀ a w, Q' .outgrown a w → Q .outgrown a w) (hp : ∀ c a w, Q' (.panic c) a w → Q (.panic c) a w) (hn : ∀ a w, Q' .normal a w → Q .normal a w) :
    ∀ (rest : List Oper), (∀ o ∈ rest, ∀ c, o.op ≠ .defer c) → ∀ a w, wpList P ops Q' rest a w → wpListIn (Fence.wide.inRound l) n P ops Q rest a w
  | [], _, a, w, h => hn a w h
  | o :: rest, hd, a, w, h => by
    unfold wpListIn
    unfold wpList at h
    by_cases hw : Region.wanted o (yielded ops a.tmps) = true
    · rw [if_pos hw] at h ⊢
      rcases h with h | h
      · refine ⟨fun _ _ => trivial, ?_⟩
        rw [Oper.semAt_plain _ _ _ (hd o List.mem_cons_self)]
        have h2 := in_of_upon (l := l) (n := n) (Q := Q) (Q' := Q') hq hp ho _ h
        revert h2
        generalize (execOp a.eval o).run P w = r
        intro h2
        have key : ∀ (nx nx' : Act → World → Prop), (∀ a w, nx a w → nx' a w) → ∀ r, o.uponIn (Fence.wide.inRound l) n P a nx Q r → o.uponIn (Fence.wide.inRound l) n P a nx' Q r := by
          intro nx nx' hx r h
          cases r with
          | ok x w' =>
            cases x with
            | value v => exact hx _ _ h
            | skip => exact hx _ _ h
            | defer d => exact hx _ _ h
            | enter f args =>
              refine ⟨h.1, ?_⟩
              refine (callsIn_wide (n := n - 1)).2 (Calls.mono ((callsIn_wide (n := n - 1)).1 h.2) ?_)
              rintro e w2 h2
              cases e with
              | returned v => exact hx _ _ h2
              | panicked chain => exact h2
              | outgrown => exact h2
            | row row args => exact ⟨h.1, RowsIn.mono h.2 (fun v w' h => hx _ _ h)⟩
            | round l f tmps assign body =>
              refine ⟨h.1, RoundIn.mono h.2 ?_⟩
              rintro e w2 h2
              cases e with
              | returned v => exact hx _ _ h2
              | panicked chain => exact h2
              | outgrown => exact h2
            | _ => exact h
          | halt x w' =>
            cases x with
            | panic v => exact h
            | _ => exact h
        exact key _ _ (fun a w h => in_of_list hq ho hp hn rest (fun o ho => hd o (List.mem_cons_of_mem _ ho)) a w h) _ h2
      · obtain ⟨_, a, w, h⟩ := h
        exact absurd (ho a w h) (hq a w)
    · rw [if_neg hw] at h ⊢
      exact ⟨fun _ _ => trivial, in_of_list hq ho hp hn rest (fun o ho => hd o (List.mem_cons_of_mem _ ho)) _ _ h⟩
def isDefer : Op → Bool
  | .defer _ => true
  | _ => false
theorem noDefer {ls : List Oper} (h : ls.all (fun o => !isDefer o.op) = true) : ∀ o ∈ ls, ∀ c, o.op ≠ .defer c := fun o ho c e => by
  have := List.all_eq_true.1 h o ho
  rw [e] at this
  simp [isDefer] at this
/-- A region of the body, walked as outside; behind it goes on the body. -/
theorem in_region_seq {id : Nat} {ls : List Oper} {y : Code} (hd : ls.all (fun o => !isDefer o.op) = true) (hq : ∀ a w, ¬ Q .outgrown a w)
    (h : ∀ K : Act → World → Prop, (∀ a w, y.wpIn (Fence.wide.inRound l) n P Q a w → K a w) → wpList P ls.toArray (Exit.then K (fun _ _ _ => False)) ls a w) : (Code.seq (Code.region id ls.toArray false) y).wpIn (Fence.wide.inRound l) n P Q a w := by
  refine wpIn_seq ?_
  refine wpIn_region_lit ?_
  exact in_of_list (Q := Exit.then (y.wpIn (Fence.wide.inRound l) n P Q) Q) (Q' := Exit.then (fun a w => y.wpIn (Fence.wide.inRound l) n P Q a w) (fun _ _ _ => False)) (fun a w h => hq a w h) (fun a w h => h.elim) (fun c a w h => h.elim) (fun a w h => h) _ (noDefer hd) a w (h _ (fun _ _ h => h))
theorem in_region {id : Nat} {ls : List Oper} (hd : ls.all (fun o => !isDefer o.op) = true) (hq : ∀ a w, ¬ Q .outgrown a w)
    (h : ∀ K : Act → World → Prop, (∀ a w, Q .normal a w → K a w) → wpList P ls.toArray (Exit.then K (fun _ _ _ => False)) ls a w) : (Code.region id ls.toArray false).wpIn (Fence.wide.inRound l) n P Q a w := by
  refine wpIn_region_lit ?_
  exact in_of_list (Q' := Exit.then (fun a w => Q .normal a w) (fun _ _ _ => False)) (fun a w h => hq a w h) (fun a w h => h.elim) (fun c a w h => h.elim) (fun a w h => h) _ (noDefer hd) a w (h _ (fun _ _ h => h))
end
end Go.Proofs.Ythhgcbegcbhaeaa.Mdl

namespace Go.Proofs.Ythhgcbegcbhaeaa.Mdl
open Go.RowKit Go.Maps Ins Trc
set_option linter.unusedVariables false
set_option linter.unusedSimpArgs false
set_option maxRecDepth 100000

/-- How often a place is in a row of places. -/
def cntP (l : List Int) (i : Nat) : Int := (l.count (i : Int) : Nat)
theorem cntP_app (l : List Int) (x : Int) (i : Nat) : cntP (l ++ [x]) i = cntP l i + (if (i : Int) = x then 1 else 0) := by
  unfold cntP
  rw [List.count_append, List.count_singleton]
  by_cases h : (i : Int) = x
  · rw [if_pos h, h]; simp
  · rw [if_neg h]
    have : (x == (i : Int)) = false := by simpa using fun e => h e.symm
    simp [this]
theorem cntP_le (l : List Int) (i : Nat) : 0 ≤ cntP l i ∧ cntP l i ≤ l.length := by
  unfold cntP
  have := List.count_le_length (a := (i : Int)) (l := l)
  omega
theorem cntP_take (l : List Int) (k i : Nat) : cntP (l.take k) i ≤ cntP l i := by
  unfold cntP
  have := (List.take_sublist k l).count_le (i : Int)
  omega
theorem ats_len (E : Env) (D : Pl) (k : Nat) : (ats E D k).length = k := by simp [ats]

theorem info_intV : (Try.prog.info? 3).map (·.size) = some 1 := by kernel_rfl
theorem info_intM : (Try.prog.info? 3).map (fun i => (i.zero, i.size, i.bytes)) = some (some (.int .i64 0), 1, 8) := by kernel_rfl
theorem info_intZ : ∃ i, Try.prog.info? 3 = some i ∧ i.zero = some (.int .i64 0) ∧ i.size = 1 ∧ i.bytes = 8 := by
  have h : (Try.prog.info? 3).map (fun i => (i.zero, i.size, i.bytes)) = some (some (.int .i64 0), 1, 8) := by kernel_rfl
  cases hi : Try.prog.info? 3 with
  | none => rw [hi] at h; simp at h
  | some i =>
    rw [hi] at h
    simp at h
    exact ⟨i, rfl, h.1, h.2.1, h.2.2⟩

theorem itsV_fuel (E : Env) (D : Pl) : ∀ k : Nat, (its E D k).fuel = D.fuel - k
  | 0 => by show D.fuel = D.fuel - (0 : Nat); omega
  | k + 1 => by
    show ((its E D k).step E.kf (E.x (its E D k).ix)).fuel = _
    rw [step_fuel, itsV_fuel E D k]; omega
theorem rowIs_own {β : Type} (B V n : Nat) (t : TypeId) (f : β → Nat → Value) : OwnFrom B (fun (s : β) W => W.rowIs V t n (f s)) := fun s w w' row h g hr => by
  obtain ⟨cur, e1, e2, e3⟩ := id h
  exact h.of_block (g.block V h.lt (fun e => by
    obtain ⟨_, o, ho, hc⟩ := hr V e.symm
    rw [e1] at ho
    injection ho with ho
    subst ho
    simp [Obj.isCells] at hc))
theorem rowIs_turn {τ : TypeId → Bool} {β V n : Nat} {t : TypeId} {f : Nat → Value} {A B : World} (h : A.rowIs V t n f) (k : TurnT τ β A B) (hn : τ t = false) : B.rowIs V t n f := by
  obtain ⟨cur, e1, e2, e3⟩ := id h
  exact h.of_block ((Turn.row k e1 hn).trans e1.symm)
theorem wpList_store_row1V {P : Program} {ops : Array Oper} {rest : List Oper} {o : Oper} {a : Act} {w : World} {Q : Exit → Act → World → Prop} (hgd : o.guard = none) (ty : TypeId) (x y : Operand) (ho : o.op = .store ty x y)
    (g i : Nat) (v : Value) (hx : a.eval x = .pointer (some ⟨g, i, none⟩)) (hy : a.eval y = v) (hv : v.cells = #[v]) (h1 : v.oneCell' = true)
    {t : TypeId} {n : Nat} {f : Nat → Value} (hr : w.rowIs g t n f) (hi : (P.info? ty).map (·.size) = some 1) (hlt : i < n)
    (h : ∀ w', w'.rowIs g t n (fun j => if j = i then v else f j) → Trn [g] w w' → wpList P ops Q rest (a.put o.dst undef) w') : wpList P ops Q (o :: rest) a w := by
  obtain ⟨cur, e1, e2, e3⟩ := id hr
  refine wpList_store_cell hgd ty x y ho g i v hx hy hv h1 t cur e1 hi (by omega) (fun w' s => h w' ?_ ⟨s.os, s.tape, s.output, by rw [s.size]; exact Nat.le_refl _, fun k hk hne => s.other k (by simpa using hne)⟩)
  refine ⟨_, s.row, by simp [e2], fun j hj => ?_⟩
  rw [Array.getElem?_setIfInBounds]
  by_cases e : i = j
  · subst e; rw [if_pos rfl, if_pos (by omega)]; show some v = some (if i = i then v else f i); rw [if_pos rfl]
  · rw [if_neg e]; show cur[j]? = some (if j = i then v else f j); rw [if_neg (Ne.symm e)]; exact e3 j hj
/-- What turned were blocks of other types: the body keeps its hands off. -/
theorem keepT_trn {σ : TypeId → Bool} {G : List Nat} {w w' : World} (t : Trn G w w') (h : ∀ j ∈ G, ∃ c ty fr, w.heap[j]? = some (.cells c ty fr) ∧ σ ty = false) : KeepT σ w w' := ⟨t.size, fun k o hk ho => t.row hk (fun hg => by
  obtain ⟨c, ty, fr, h1, h2⟩ := h k hg
  rw [hk] at h1
  injection h1 with h1
  subst h1
  change σ ty = true at ho
  rw [h2] at ho; cases ho)⟩
theorem keepsFrom_trn {G : List Nat} {B : Nat} {w w' : World} (t : Trn G w w') (h : ∀ j ∈ G, ∃ c ty fr, w.heap[j]? = some (.cells c ty fr)) : KeepsFrom B w w' := ⟨t.size, fun k o _ hk ho => t.row hk (fun hg => by
  obtain ⟨c, ty, fr, h1⟩ := h k hg
  rw [hk] at h1
  injection h1 with h1
  subst h1
  simp [Obj.isCells] at ho)⟩

theorem plain_env {E : Env} {x : Nat → In} {plen cb cl m : Nat} {cf : Nat → Int} {fuel : Int} {zs : List Int} (el : E.pl = plen) (ex : E.x = x) (hk : E.kf = fun _ => 0) (F : Fine E) (R : Runs E (ini cb cl cf fuel zs)) (hm : Done E (ini cb cl cf fuel zs) m) :
    Fine (env x plen) ∧ Runs (env x plen) (ini 0 cl cf fuel zs) ∧ Done (env x plen) (ini 0 cl cf fuel zs) m ∧ ats E (ini cb cl cf fuel zs) m = ats (env x plen) (ini 0 cl cf fuel zs) m := by
  subst el ex
  rw [ini_cb] at hm
  refine ⟨⟨Nat.le_refl _, F.len, F.may, F.ok, F.jumps, F.into, F.on⟩, ⟨R.lo, R.hi, R.few, R.fuel⟩, done_env hk _ cb m hm, ?_⟩
  unfold ats
  refine List.map_congr_left (fun j _ => ?_)
  show (its E ((ini 0 cl cf fuel zs).cb cb) j).at_ = _
  rw [its_env hk]; rfl

def VisIs (W : World) (x : Nat → In) (plen cl : Nat) (cf : Nat → Int) (fuel : Int) (zs : List Int) (e : Ending) (w' : World) : Prop :=
  ∃ (m V : Nat), Fine (env x plen) ∧ Runs (env x plen) (ini 0 cl cf fuel zs) ∧ Done (env x plen) (ini 0 cl cf fuel zs) m ∧ e = .returned (.slice (some ⟨V, 0, none⟩) plen plen) ∧
    w'.rowIs V 3 plen (fun i => .int .i64 (cntP (ats (env x plen) (ini 0 cl cf fuel zs) m) i)) ∧ W.heap.size ≤ V ∧ Below W.heap.size W w'

set_option maxHeartbeats 8000000 in
theorem visits_ok (c : Int) (b o plen pcap : Nat) (x : Nat → In) (ca : Option Addr) (cl cc : Nat) (cf : Nat → Int) (aa : Option Addr) (al ac tk : Nat) (zs : List Int) (fuel : Int) (W : World) (hI : Insts W (some ⟨b, o, none⟩) plen pcap x) (hS : Src W ca cl cc cf) (hA : WordsAt W aa al ac zs)
    (hchk : (checkI c plen x).2 = 0) (hlen : (cl : Int) = c) (f0 : 0 ≤ fuel) (f1 : fuel ≤ 10000) (htk : min (al : Int) fuel = (tk : Int)) (hal : al ≤ 1000) (hz : ∀ z ∈ zs, 0 ≤ z ∧ z < 18446744073709551616) :
    Calls Try.prog 14 #[.agg #[.int .i64 c, .slice (some ⟨b, o, none⟩) plen pcap], .slice ca cl cc, .slice aa al ac, .int .i64 fuel] W (VisIs W x plen cl cf fuel (zs.take tk)) := by
  obtain ⟨h1, h64, _⟩ := ends_facts hchk
  have hc := check_c hchk
  have htl : tk ≤ al := by omega
  have ST := Lib.hid (fun w (h : Below W.heap.size W w) => start_ok c b o plen pcap x ca cl cc cf aa al ac tk zs fuel w (hI.below h) (hS.below h) (hA.below h) hchk hlen (by omega) f0 f1 ⟨h1, h64⟩ htk hal htl hz)
  have FI := Lib.hid (fun (E : Env) e1 e2 e3 => fine_env hI hchk (E := E) e1 e2 e3)
  have RU := Lib.hid (fun (E : Env) (h : 1 ≤ E.pl) cb => ini_runs E cb cl cf fuel (zs.take tk) h f0 f1)
  clear hI hS hA hchk hlen hz htk
  generalize zs.take tk = ys at *
  have bx0 := below_new (Below.refl W.heap.size W) (.cells #[.int .i64 c, .slice (some ⟨b, o, none⟩) plen pcap] 24)
  have rz0 := heap_last W (.cells #[.int .i64 c, .slice (some ⟨b, o, none⟩) plen pcap] 24) _ rfl
  have hmf : ∀ (fn : Fn) (first cap : Array Value) (w : World), (Instr.makeFunc fn first cap).run Try.prog w = .ok (.func fn first cap) w := fun _ _ _ _ => rfl
  refine (callsIn_wide (n := 3)).1 (callsIn_of_wp_marks Try.func14 rfl trivial ?_ rfl)
  simp only [Try.ntmps14, List.size_toArray, List.length_cons, List.length_nil, Nat.reduceAdd, Nat.reduceSub, Array.replicate_succ, Array.replicate_zero, List.push_toArray, List.append_toArray, List.nil_append, List.cons_append]
  refine (wpIn_wide (n := 3)).2 ?_
  go_wp2_with fail
  generalize W.alloc (.cells #[.int .i64 c, .slice (some ⟨b, o, none⟩) plen pcap] 24) = w0 at *
  refine (ST.out _ bx0).mono ?_
  rintro e w1 ⟨E, cb, rfl, eb, ex, el, ec, ek, b1, R⟩
  have F := FI.out E ex el ec
  have RR := RU.out E (by omega) cb
  have rz1 := brow b1 rz0
  have bx1 := bx0.trans (b1.mono bx0.size)
  have hb : W.heap.size ≤ E.β := by rw [eb]; exact bx0.size
  have hp1 : w1.cell? ⟨W.heap.size, 1, none⟩ = some (.slice (some ⟨b, o, none⟩) plen pcap) := by simp only [World.cell?, rz1]; rfl
  have l1 := lt_of_cell hp1
  have hcap := Lib.hid ec
  have hmk : ∀ w, (Instr.makeSlice 43 (.int .i64 (plen : Int)) (.int .i64 (plen : Int))).run Try.prog w = .ok (.slice (some ⟨w.heap.size, 0, none⟩) plen plen) (w.alloc (.cells (madeCells #[.int .i64 0] plen) 3)) := fun w => run_make_row' (P := Try.prog) 43 3 (.int .i64 0) 8 Try.underlying43 info_intM rfl .i64 .i64 plen (by omega) (by omega) w
  have hz1 := bx1.size
  have R0 := Lib.hid (World.rowIs_made w1 (.int .i64 0) plen 3)
  have Z1 := below_new (Below.refl w1.heap.size w1) (.cells (madeCells #[Value.int .i64 0] plen) 3)
  have Z2 := below_new Z1 (.cells #[.slice (some ⟨w1.heap.size, 0, none⟩) plen plen] 43)
  have q1 := heap_last (w1.alloc (.cells (madeCells #[Value.int .i64 0] plen) 3)) (.cells #[.slice (some ⟨w1.heap.size, 0, none⟩) plen plen] 43) (w1.heap.size + 1) (by simp)
  have R1 := Lib.hid (R0.out.of_block (heap_past (w1.alloc (.cells (madeCells #[Value.int .i64 0] plen) 3)) (.cells #[.slice (some ⟨w1.heap.size, 0, none⟩) plen plen] 43) w1.heap.size (by simp)))
  have bx2 := bx1.trans (Z2.mono bx1.size)
  have SEQ := Lib.hid (run_seq E F (ini cb cl cf fuel ys) RR rfl 2 w1 R)
  have hB := Lib.hid Z2
  clear ST FI RU rz0 bx0 b1 eb ec rz1 R0 Z1 R bx1
  go_wp2_with fail
  generalize (w1.alloc (.cells (madeCells #[Value.int .i64 0] plen) 3)).alloc (.cells #[.slice (some ⟨w1.heap.size, 0, none⟩) plen plen] 43) = w2 at *
  have hsz2 := bx2.size
  have hsz1 := hz1
  generalize hV : w1.heap.size = V at *
  clear hmk hp1 l1
  refine (wpIn_wide (n := 3)).1 ?_
  refine range_T (by decide) (gf := 19) (pa := #[.pointer (some ⟨E.g, 0, none⟩)]) (lb := #[]) rfl (enters_of Try.func19 (by kernel_rfl) rfl) SEQ.out (by rw [hV]; exact hB.out) (fun _ => rfl)
    (fun pre w => Below W.heap.size W w ∧ w.heap[V + 1]? = some (.cells #[.slice (some ⟨V, 0, none⟩) plen plen] 43 (0, 0)) ∧ w.rowIs V 3 plen (fun i => .int .i64 (cntP pre i))) (fun _ _ _ => False)
    (OwnFrom.and (ownFrom_below (Nat.le_refl _) hsz2) (OwnFrom.and (row_own _ _ _ _) (rowIs_own _ _ _ _ (fun pre i => .int .i64 (cntP pre i))))) (Yr.own E _ _) (fun _ _ _ _ _ h _ _ => h)
    (fun _ A B h t => ⟨TurnT.below h.1 t hb (Nat.le_refl _), Turn.row t h.2.1 (by decide), rowIs_turn h.2.2 t (by decide)⟩) (fun _ _ _ _ h _ => h) (Sr.own E _ _) (Spr.own E _ _) ⟨bx2, q1, R1.out.congr (fun i _ => rfl)⟩ ?a1 ?assign ?body ?done ?stop
  case assign =>
    intro l x W K hK
    refine in_region (by decide) (fun _ _ h => h) ?_
    intro K2 hK2
    go_wp2_with fail
    exact hK
  case body =>
    rintro l pre x9 W9 ⟨i1, i2, i3⟩ ⟨k, y1, y2, rfl, rfl, y5⟩
    obtain ⟨ix, ie⟩ := (RR.its F k y1).ix
    have hlen := ats_len E (ini cb cl cf fuel ys) k
    have hfu : k ≤ 10000 := by
      have := itsV_fuel E (ini cb cl cf fuel ys) k
      have h2 : (ini cb cl cf fuel ys).fuel = fuel := rfl
      omega
    rw [el] at ix
    generalize hix : (its E (ini cb cl cf fuel ys) k).ix = j at *
    rw [ie]
    have hc := i3.cell (i := j) ix
    have hcn := cntP_le (ats E (ini cb cl cf fuel ys) k) j
    rw [hlen] at hcn
    have hb9 : W9.cell? ⟨V + 1, 0, none⟩ = some (.slice (some ⟨V, 0, none⟩) plen plen) := by simp only [World.cell?, i2]; rfl
    generalize hpre : ats E (ini cb cl cf fuel ys) k = pre at *
    have I3 := Lib.hid i3
    have I2 := Lib.hid i2
    have I1 := Lib.hid i1
    clear i3 i2 i1 hpre hix ie y1 y2 y5 F RR SEQ hB R1 q1 bx2 hlen hcap
    refine wpIn_block ?_
    refine in_region (by decide) (fun _ _ h => h) ?_
    intro K hK
    go_wp2_with (with_reducible refine (halt_store 3 _ _ rfl ?_))
    refine ⟨?_, trivial⟩
    refine wpList_store_row1V rfl 3 _ _ rfl V j (.int .i64 (cntP pre j + 1)) rfl rfl rfl rfl I3.out info_intV ix ?_
    intro w4 r4 t4
    have hty : ∃ c fr, W9.heap[V]? = some (.cells c 3 fr) := by
      obtain ⟨cur, e1, _, _⟩ := I3.out
      exact ⟨_, _, e1⟩
    obtain ⟨c4, fr4, hty⟩ := hty
    have FO := Lib.hid (show KeepsFrom w2.heap.size W9 w4 ∧ KeepT σM W9 w4 ∧ (Below W.heap.size W w4 ∧ w4.heap[V + 1]? = some (.cells #[.slice (some ⟨V, 0, none⟩) plen plen] 43 (0, 0)) ∧ w4.rowIs V 3 plen (fun i => .int .i64 (cntP (pre ++ [(j : Int)]) i))) from
      ⟨keepsFrom_trn t4 (fun q hq => by rw [List.mem_singleton] at hq; subst hq; exact ⟨_, _, _, hty⟩), keepT_trn t4 (fun q hq => by rw [List.mem_singleton] at hq; subst hq; exact ⟨_, _, _, hty, by decide⟩),
        below_trn I1.out t4 hsz1, t4.row I2.out (by simp), r4.congr (fun i hi => by
          show (if i = j then Value.int .i64 (cntP pre j + 1) else .int .i64 (cntP pre i)) = _
          rw [cntP_app]
          by_cases e : i = j
          · subst e; rw [if_pos rfl, if_pos rfl]
          · rw [if_neg e, if_neg (by omega)]; rw [Int.add_zero])⟩)
    exact hK _ _ FO.out
  case stop =>
    rintro D c pre W _ _ h _
    exact h.elim
  case done =>
    rintro D xs W9 hD ⟨m, hm, rfl, R9⟩ ⟨b9, r9, v9⟩ hK
    clear SEQ hB R1 q1 bx2
    have hc9 : W9.cell? ⟨V + 1, 0, none⟩ = some (.slice (some ⟨V, 0, none⟩) plen plen) := by simp only [World.cell?, r9]; rfl
    have V9 := Lib.hid v9
    have FO := Lib.hid (fun w' (k : Trn [D] W9 w') (hno : ∃ o, W9.heap[D]? = some o ∧ o.isCells = false) => show VisIs W x plen cl cf fuel ys (.returned (.slice (some ⟨V, 0, none⟩) plen plen)) w' from by
      obtain ⟨F9, R9', D9, A9⟩ := plain_env el ex ek F RR hm
      refine ⟨m, V, F9, R9', D9, rfl, ?_, hsz1, below_trn b9 k (by omega)⟩
      rw [← A9]
      obtain ⟨cur, e1, _, _⟩ := V9.out
      exact V9.out.of_block (k.block V V9.out.lt (fun hq => by
        rw [List.mem_singleton] at hq; subst hq
        obtain ⟨o, ho, hc⟩ := hno
        rw [e1] at ho
        injection ho with ho
        subst ho
        simp [Obj.isCells] at hc)))
    clear R9 v9 b9 r9 F RR hm
    go_wp2_with fail
    exact ⟨by simp, .inl ⟨_, _, rfl, run_takeDeferred hK, _, res_t rfl rfl, FO.out _ ⟨rfl, rfl, rfl, by simp [World.putObj], fun k _ hn => World.putObj_heap_other (by simpa using hn)⟩ ⟨_, hK, rfl⟩⟩⟩
end Go.Proofs.Ythhgcbegcbhaeaa.Mdl

namespace Go.Proofs.Ythhgcbegcbhaeaa.Mdl
open Go.RowKit Go.Maps Ins Trc
set_option linter.unusedVariables false
set_option linter.unusedSimpArgs false
set_option maxRecDepth 100000

/-- The iterator that Each hands back: where it keeps the error and the first state. -/
def eachV (eB gB : Nat) : Value := .func (.func 24) #[] #[.pointer (some ⟨eB, 0, none⟩), .pointer (some ⟨gB, 0, none⟩)]
def EachIs (W : World) (x : Nat → In) (plen cl : Nat) (cf : Nat → Int) (fuel : Int) (zs : List Int) (e : Ending) (w' : World) : Prop :=
  ∃ (E : Env) (cb eB gB : Nat), e = .returned (eachV eB gB) ∧ E.x = x ∧ E.pl = plen ∧ E.pl ≤ E.pc ∧ E.kf = (fun _ => 0) ∧ W.heap.size ≤ eB ∧ W.heap.size ≤ gB ∧ w'.heap[eB]? = some (.cells #[.int .i64 0] 34 (0, 0)) ∧
    w'.heap[gB]? = some (.cells #[.pointer (some ⟨E.g, 0, none⟩)] 59 (0, 0)) ∧ Below W.heap.size W w' ∧ Rel E (ini cb cl cf fuel zs) w'

set_option maxHeartbeats 8000000 in
theorem each_ok (c : Int) (b o plen pcap : Nat) (x : Nat → In) (ca : Option Addr) (cl cc : Nat) (cf : Nat → Int) (aa : Option Addr) (al ac tk : Nat) (zs : List Int) (fuel : Int) (W : World) (hI : Insts W (some ⟨b, o, none⟩) plen pcap x) (hS : Src W ca cl cc cf) (hA : WordsAt W aa al ac zs)
    (hchk : (checkI c plen x).2 = 0) (hlen : (cl : Int) = c) (f0 : 0 ≤ fuel) (f1 : fuel ≤ 10000) (htk : min (al : Int) fuel = (tk : Int)) (hal : al ≤ 1000) (hz : ∀ z ∈ zs, 0 ≤ z ∧ z < 18446744073709551616) :
    Calls Try.prog 15 #[.agg #[.int .i64 c, .slice (some ⟨b, o, none⟩) plen pcap], .slice ca cl cc, .slice aa al ac, .int .i64 fuel] W (EachIs W x plen cl cf fuel (zs.take tk)) := by
  obtain ⟨h1, h64, _⟩ := ends_facts hchk
  have hc := check_c hchk
  have htl : tk ≤ al := by omega
  have ST := Lib.hid (fun w (h : Below W.heap.size W w) => start_ok c b o plen pcap x ca cl cc cf aa al ac tk zs fuel w (hI.below h) (hS.below h) (hA.below h) hchk hlen (by omega) f0 f1 ⟨h1, h64⟩ htk hal htl hz)
  clear hI hS hA hchk hlen hz htk
  generalize zs.take tk = ys at *
  have bx0 := below_new (Below.refl W.heap.size W) (.cells #[.int .i64 c, .slice (some ⟨b, o, none⟩) plen pcap] 24)
  have hmf : ∀ (fn : Fn) (first cap : Array Value) (w : World), (Instr.makeFunc fn first cap).run Try.prog w = .ok (.func fn first cap) w := fun _ _ _ _ => rfl
  go_enter Try.func15, Try.ntmps15
  go_wp2_with fail
  generalize W.alloc (.cells #[.int .i64 c, .slice (some ⟨b, o, none⟩) plen pcap] 24) = w0 at *
  refine (ST.out _ bx0).mono ?_
  rintro e w1 ⟨E, cb, rfl, eb, ex, el, ec, ek, b1, R⟩
  have bx1 := Lib.hid (bx0.trans (b1.mono bx0.size))
  have z1 := bx1.out.size
  have R1 := Lib.hid R
  clear ST bx0 b1 eb R
  go_wp2_with fail
  go_ret
  have q1 := heap_past (w1.alloc (.cells #[.pointer (some ⟨E.g, 0, none⟩)] 59)) (.cells #[.int .i64 0] 34) w1.heap.size (by simp)
  have b2 := below_new (below_new (Below.refl w1.heap.size w1) (.cells #[.pointer (some ⟨E.g, 0, none⟩)] 59)) (.cells #[.int .i64 0] 34)
  exact ⟨E, cb, w1.heap.size + 1, w1.heap.size, rfl, ex, el, ec, ek, by omega, z1, heap_last _ _ _ (by simp), q1.trans (heap_last w1 _ _ rfl), bx1.out.trans (b2.mono z1), (R1.out.still b2).1⟩

def EachNo (r : Int) (W : World) (e : Ending) (w' : World) : Prop :=
  ∃ (eB gB : Nat), e = .returned (eachV eB gB) ∧ W.heap.size ≤ eB ∧ w'.heap[eB]? = some (.cells #[.int .i64 r] 34 (0, 0)) ∧ Below W.heap.size W w'
set_option maxHeartbeats 8000000 in
theorem each_bad (r : Int) (hr : ¬ r = 0) (c : Int) (pa : Option Addr) (plen pcap : Nat) (ca : Option Addr) (cl cc : Nat) (aa : Option Addr) (al ac : Nat) (fuel : Int) (W : World)
    (ST : ∀ w, Below W.heap.size W w → Calls Try.prog 18 #[.agg #[.int .i64 c, .slice pa plen pcap], .slice ca cl cc, .slice aa al ac, .int .i64 fuel] w fun e w' => e = .returned (.tuple #[.pointer none, .int .i64 r]) ∧ Below w.heap.size w w') :
    Calls Try.prog 15 #[.agg #[.int .i64 c, .slice pa plen pcap], .slice ca cl cc, .slice aa al ac, .int .i64 fuel] W (EachNo r W) := by
  have ST := Lib.hid ST
  have bx0 := below_new (Below.refl W.heap.size W) (.cells #[.int .i64 c, .slice pa plen pcap] 24)
  have hmf : ∀ (fn : Fn) (first cap : Array Value) (w : World), (Instr.makeFunc fn first cap).run Try.prog w = .ok (.func fn first cap) w := fun _ _ _ _ => rfl
  clear hr
  go_enter Try.func15, Try.ntmps15
  go_wp2_with fail
  generalize W.alloc (.cells #[.int .i64 c, .slice pa plen pcap] 24) = w0 at *
  refine (ST.out _ bx0).mono ?_
  rintro e w1 ⟨rfl, b1⟩
  have bx1 := Lib.hid (bx0.trans (b1.mono bx0.size))
  have z1 := bx1.out.size
  clear ST bx0 b1
  go_wp2_with fail
  go_ret
  have b2 := below_new (below_new (Below.refl w1.heap.size w1) (.cells #[.pointer none] 59)) (.cells #[.int .i64 r] 34)
  exact ⟨w1.heap.size + 1, w1.heap.size, rfl, by omega, heap_last _ _ _ (by simp), bx1.out.trans (b2.mono z1)⟩
end Go.Proofs.Ythhgcbegcbhaeaa.Mdl
