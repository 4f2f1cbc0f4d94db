/-
  Several texts in one: MdlEs, MdlCn, RinC.
-/
import Derived.Test.YthhgcbegcbhaeaaMCn02
import Derived.Test.YthhgcbegcbhaeaaMCn03
import Derived.Test.YthhgcbegcbhaeaaMBh43
import Derived.Test.YthhgcbegcbhaeaaMBh06
set_option linter.unusedVariables false
set_option linter.unusedSimpArgs false
set_option linter.unnecessarySimpa false
namespace Go.Proofs.Ythhgcbegcbhaeaa.Mdl
open Go.RowKit Go.Maps Ins Trc
set_option linter.unusedVariables false
set_option linter.unusedSimpArgs false
set_option maxRecDepth 100000

theorem its_with {E E' : Env} (hk : E'.kf = E.kf) (hx : E'.x = E.x) (D : Pl) : ∀ k, its E' D k = its E D k
  | 0 => rfl
  | k + 1 => by
    show (its E' D k).step E'.kf (E'.x (its E' D k).ix) = (its E D k).step E.kf (E.x (its E D k).ix)
    rw [its_with hk hx D k, hk, hx]
theorem goes_with {E E' : Env} (hk : E'.kf = E.kf) (hx : E'.x = E.x) (D : Pl) (k : Nat) : Goes E' D k ↔ Goes E D k := by
  unfold Goes
  simp only [its_with hk hx]
theorem done_with {E E' : Env} (hk : E'.kf = E.kf) (hx : E'.x = E.x) (D : Pl) (m : Nat) : Done E' D m ↔ Done E D m := by
  unfold Done
  simp only [its_with hk hx, goes_with hk hx]
/-- The places of the first rounds, and what the state is ahead of each. -/
def snapsE (E : Env) (D : Pl) (k : Nat) : List (Int × List Value) := (List.range k).map (fun j => ((its E D j).at_, (its E D j).snap))
theorem snapsE_succ (E : Env) (D : Pl) (k : Nat) : snapsE E D (k + 1) = snapsE E D k ++ [((its E D k).at_, (its E D k).snap)] := by simp [snapsE, List.range_succ]
theorem snapsE_len (E : Env) (D : Pl) (k : Nat) : (snapsE E D k).length = k := by simp [snapsE]
def YE (E : Env) (D : Pl) (pre : List (Int × List Value)) (x : Int × List Value) (W : World) : Prop := ∃ k, Goes E D k ∧ 0 < (its E D k).fuel ∧ pre = snapsE E D k ∧ x = ((its E D k).at_, (its E D k).snap)
def SE (E : Env) (D : Pl) (xs : List (Int × List Value)) (W : World) : Prop := ∃ m, Done E D m ∧ xs = snapsE E D m
def SpE (E : Env) (D : Pl) (pre : List (Int × List Value)) (W : World) : Prop := ∃ k, Goes E D k ∧ 0 < (its E D k).fuel ∧ pre = snapsE E D (k + 1)
def encE (x : Int × List Value) : Array Value := #[.int .i64 x.1, .agg x.2.toArray]
/-- What a body leaves alone. -/
def σE (t : TypeId) : Bool := σM t || t == 66 || t == 59
theorem keepE {A B : World} (h : KeepT σE A B) : KeepT σM A B := ⟨h.size, fun k o hk ho => h.same k o hk (by
  cases o with
  | cells c t fr =>
    change σM t = true at ho
    show (σM t || _ || _) = true
    rw [ho]; rfl
  | _ => cases ho)⟩
theorem keepE_row {A B : World} (h : KeepT σE A B) {g : Nat} {c : Array Value} {t : TypeId} {fr : Nat × Nat} (hg : A.heap[g]? = some (.cells c t fr)) (ht : σE t = true) : B.heap[g]? = some (.cells c t fr) := h.same g _ hg ht

section
variable {F : Fence} {n m : Nat} {P : Program} {ops : Array Oper} {Q : Exit → Act → World → Prop} {i : Nat} {o : Oper} {K : Act → World → Prop} {a : Act} {w w' : World}
theorem wpOpIn_yield2 (hF : ∀ f, F.fn f) (hn : F.depth = none) (ho : ops[i]? = some o) (hw : Region.wanted o (yielded ops a.tmps) = true) {l : Nat} {x y z : Operand} {ts : Array TypeId} {v u : Value} (hop : o.op = .call ⟨.value x, #[y, z], ts⟩) (hx : a.eval x = .func (.yield l) #[] #[]) (hy : a.eval y = v) (hz : a.eval z = u)
    (h : YieldAt F (n - 1) P l #[v, u] w fun e w' => ∃ v, e = .returned v ∧ K (a.put o.dst v) w') : wpOpIn F n P ops Q i K a w := by
  unfold wpOpIn
  rw [ho]
  simp only [hw, if_true]
  refine ⟨fun f _ => hF f, ?_⟩
  obtain ⟨fn, tmps, assign, body, h1, h2⟩ := h
  have hr : (execOp a.eval o).run P w = .ok (.round l fn tmps assign body) w := by
    simp only [execOp, hop, List.map_toArray, List.map_cons, List.map_nil, resolve, hx, hy, hz, Deferred.ofValue, invoke, callFunc, Sem.run_bind, Sem.run_pure, Result.andThen_ok]
    simpa using h1
  rw [Oper.semAt_eq _ _ _ (fun c e => by rw [hop] at e; cases e), hr]
  refine ⟨fun h => (by rw [hn] at h; cases h), RoundIn.mono h2 ?_⟩
  rintro e w2 ⟨v, rfl, hk⟩
  exact hk
theorem yieldAt_in {l l' n m : Nat} {P : Program} {args : Array Value} {W : World} {R : Ending → World → Prop} (h : YieldAt Fence.wide n P l' args W R) : YieldAt (Fence.wide.inRound l) m P l' args W R := by
  obtain ⟨fn, tmps, assign, body, h1, h2⟩ := h
  exact ⟨fn, tmps, assign, body, h1, h2.1, fun c cs hroom => h2.2 c cs (room_wide _)⟩
end

/-- While a place is handed on: yield (4), whether it goes on (5). -/
def S9 (A B C : World → Prop) (fl : Nat → Bool) (u : Nat → Value) (w : World) : Prop := (fl 4 = false ∧ A w) ∨ (fl 4 = true ∧ ∃ bb : Bool, u 17 = .bool bb ∧ (fl 5 = true → u 18 = .bool (!bb)) ∧ (match bb with | true => B w | false => C w))
section
variable {A B C : World → Prop} {fl : Nat → Bool} {u : Nat → Value} {w : World}
theorem S9.loc : Loc [4, 5] [17, 18] (S9 A B C) := by
  intro fl fl' u u' w hK hD h
  unfold S9 at *
  simp only [hK 4 (by decide), hK 5 (by decide), hD 17 (by decide), hD 18 (by decide)]
  exact h
theorem S9.was (h : S9 A B C fl u w) (f : fl 4 = false) : A w := by
  rcases h with h | h
  · exact h.2
  · rw [f] at h; cases h.1
end
set_option maxHeartbeats 16000000 in
theorem each_seq (E : Env) (F : Fine E) (D : Pl) (H : Runs E D) (hfin : D.fin = 0) (he : D.evs = []) (eB gB n : Nat) (hn : 2 ≤ n) (w0 : World) (R0 : Rel E D w0) (h1 : w0.heap[eB]? = some (.cells #[.int .i64 0] 34 (0, 0))) (h2 : w0.heap[gB]? = some (.cells #[.pointer (some ⟨E.g, 0, none⟩)] 59 (0, 0))) :
    SeqG τM σE w0.heap.size n Try.prog 24 #[] #[.pointer (some ⟨eB, 0, none⟩), .pointer (some ⟨gB, 0, none⟩)] encE (YE E D) (SE E D) (SpE E D) w0 := by
  intro l J Jx W hB hJ hJx hY hJ0
  have mo : Try.prog.follows .mixedOrders = true := by kernel_rfl
  have R := (R0.still hB).1
  have hzW := hB.size
  have hmf : ∀ (fn : Fn) (first cap : Array Value) (w : World), (Instr.makeFunc fn first cap).run Try.prog w = .ok (.func fn first cap) w := fun _ _ _ _ => rfl
  have ce := brow hB h1
  have cg := brow hB h2
  have x1 : W.cell? ⟨eB, 0, none⟩ = some (.int .i64 0) := by simp only [World.cell?, ce]; rfl
  have x2 : W.cell? ⟨gB, 0, none⟩ = some (.pointer (some ⟨E.g, 0, none⟩)) := by simp only [World.cell?, cg]; rfl
  have l1 := lt_of_cell x1
  have l2 := lt_of_cell x2
  have b1 := below_new (Below.refl W.heap.size W) (.cells #[.func (.yield l) #[] #[]] 66)
  have R1 := Lib.hid (R.still b1).1
  have r1 := heap_last W (.cells #[.func (.yield l) #[] #[]] 66) _ rfl
  have J0 := Lib.hid hJ0
  have HJ := Lib.hid hJ
  have HJX := Lib.hid hJx
  have HY := Lib.hid hY
  clear hJ0 hJ hJx hY R0 R ce cg hB h1 h2
  show CallsIn Fence.wide n Try.prog 24 #[.func (.yield l) #[] #[], .pointer (some ⟨eB, 0, none⟩), .pointer (some ⟨gB, 0, none⟩)] W _
  refine callsIn_of_wp_marks Try.func24 rfl trivial ?_ rfl
  simp only [Try.ntmps24, List.size_toArray, List.length_cons, List.length_nil, Nat.reduceAdd, Nat.reduceSub, Array.replicate_succ, Array.replicate_zero, List.push_toArray, List.append_toArray, List.nil_append, List.cons_append]
  refine (wpIn_wide (n := n)).2 ?_
  go_wp2_with fail
  generalize W.alloc (.cells #[.func (.yield l) #[] #[]] 66) = w1 at *
  refine (again_any E D w1 R1.out he).mono ?_
  rintro e w2 ⟨g, b, rfl, hg, b2, R2⟩
  have hW1 := b1.size
  have r2 := brow b2 r1
  have b3 := below_new (Below.refl w2.heap.size w2) (.cells #[.pointer (some ⟨g, 0, none⟩)] 59)
  have r3 := brow b3 r2
  have q3 := heap_last w2 (.cells #[.pointer (some ⟨g, 0, none⟩)] 59) _ rfl
  have b13 := (b1.trans (b2.mono hW1)).trans (b3.mono (Nat.le_trans hW1 b2.size))
  obtain ⟨E2, hE2⟩ : ∃ E2 : Env, E2 = { E with g := g, b := b, β := w1.heap.size } := ⟨_, rfl⟩
  have R2' : Rel E2 D w2 := by rw [hE2]; exact R2
  have eg : E2.g = g := by rw [hE2]
  have eβ : E2.β = w1.heap.size := by rw [hE2]
  have ekf : E2.kf = E.kf := by rw [hE2]
  have ex : E2.x = E.x := by rw [hE2]
  have F2 : Fine E2 := by rw [hE2]; exact ⟨F.le, F.len, F.may, F.ok, F.jumps, F.into, F.on⟩
  have H2 : Runs E2 D := by rw [hE2]; exact ⟨H.lo, H.hi, H.few, H.fuel⟩
  have SEQ := Lib.hid (run_seq E2 F2 D H2 hfin (n - 1) w2 R2')
  have hz2 := b2.size
  have J3 := Lib.hid (HJ.out _ _ _ J0.out (.of_below b13))
  have HB3 := Lib.hid b3
  clear R1 R2 R2' J0 r2 b2 b1 r1 b13 hE2 x1 x2
  subst eg
  go_wp2_with fail
  generalize w2.alloc (.cells #[.pointer (some ⟨E2.g, 0, none⟩)] 59) = w3 at *
  have hz3 := b3.size
  clear b3
  refine (wpIn_wide (n := n)).1 ?_
  refine range_T (by omega) (gf := 19) (pa := #[.pointer (some ⟨E2.g, 0, none⟩)]) (lb := #[]) rfl (enters_of Try.func19 (by kernel_rfl) rfl) SEQ.out HB3.out (fun _ => rfl)
    (fun pre w => J (snapsE E D pre.length) w ∧ w.heap[W.heap.size]? = some (.cells #[.func (.yield l) #[] #[]] 66 (0, 0)) ∧ w.heap[w2.heap.size]? = some (.cells #[.pointer (some ⟨E2.g, 0, none⟩)] 59 (0, 0)))
    (fun cc pre w => cc = .ret ∧ Jx (snapsE E D pre.length) w)
    (OwnFrom.and (fun s X Y row hs hgr hr => HJ.out _ X Y hs (.of_grown hgr (fun j e => by have := (hr j e).1; omega))) (OwnFrom.and (row_own _ _ _ _) (row_own _ _ _ _))) (Yr.own E2 _ _)
    (fun cc s X Y row hs hgr hr => ⟨hs.1, HJX.out _ X Y hs.2 (.of_grown hgr (fun j e => by have := (hr j e).1; omega))⟩)
    (fun s A B h t => ⟨HJ.out _ A B h.1 (TurnG.of_T t (by omega)), Turn.row t h.2.1 (by decide), Turn.row t h.2.2 (by decide)⟩)
    (fun cc s A B h t => ⟨h.1, HJX.out _ A B h.2 (TurnG.of_T t (by omega))⟩) (Sr.own E2 _ _) (Spr.own E2 _ _) ⟨J3.out, r3, q3⟩ ?a1 ?assign ?body ?done ?stop
  case assign =>
    intro l x W K hK
    refine in_region (by decide) (fun _ _ h => h) ?_
    intro K2 hK2
    go_wp2_with fail
    exact hK
  case body =>
    rintro l9 pre x9 W9 ⟨j1, j2, j3⟩ ⟨k, y1, y2, rfl, rfl, y5⟩
    have hlen : (ats E2 D k).length = k := ats_len _ _ _
    rw [hlen] at j1
    have gk : Goes E D k := (goes_with ekf ex D k).1 y1
    have ei : its E2 D k = its E D k := its_with ekf ex D k
    rw [ei] at y2 y5
    have SN := Lib.hid (fun w (b : Below W9.heap.size W9 w) => snap_any E2 (its E D k) w (y5.still b).1)
    have YD := Lib.hid (fun w (b : Below W9.heap.size W9 w) => HY.out (snapsE E D k) ((its E D k).at_, (its E D k).snap) w (HJ.out _ W9 w j1 (.of_below b)) ⟨k, gk, y2, rfl, rfl⟩)
    rw [ei]
    refine wpIn_block ?_
    refine wpIn_seq ?_
    refine go_regd (F := Fence.wide.inRound l9) (m := n - 1 - 1) (S9 (fun w => Below W9.heap.size W9 w) (fun w => J (snapsE E D (k + 1)) w ∧ KeepT σE W9 w ∧ KeepsFrom W.heap.size W9 w) (fun w => Jx (snapsE E D (k + 1)) w ∧ KeepT σE W9 w ∧ KeepsFrom W.heap.size W9 w)) [4, 5] [17, 18] [some (.func (.yield l) #[] #[]), some (.int .i64 (its E D k).at_), some (.pointer (some ⟨E2.g, 0, none⟩)), some (.agg (its E D k).snap.toArray), none, none] mo S9.loc rfl rfl (by kernel_rfl) (fun fl w1 hfl b _ => .inl ⟨hfl 4 (by decide), b⟩) (
     yc (@fun fl ax wx cx => cx.iv (fun _ => trivial) (ex_ld rfl (cx.rq 3 rfl) (brow (cx.S.was (cx.later 4 (by kernel_rfl))) j2) rfl Try.isAgg66) rfl rfl rfl) <|
     yc (@fun fl ax wx cx => cx.iv (fun _ => trivial) (ex_mv rfl (cx.rq 5 rfl)) rfl rfl rfl) <|
     yc (@fun fl ax wx cx => cx.iv (fun _ => trivial) (ex_ld rfl (cx.rq 4 rfl) (brow (cx.S.was (not_yet (i := 3) (k := 4) cx.clo (cx.later 3 (by kernel_rfl)) (by kernel_rfl))) j3) rfl Try.isAgg59) rfl rfl rfl) <|
     yc (@fun fl ax wx cx => by
       have f4 := cx.later 4 (by kernel_rfl)
       have hb := cx.S.was f4
       refine wpOpIn_call (fun _ => trivial) rfl cx.ho (wn rfl) (noDefer_of rfl) (exec_call rfl rfl rfl (args1 (cx.u 0 rfl)) Try.func26 (by decide +kernel) (by decide +kernel)) ((callsIn_wide (n := n - 1 - 1 - 1)).2 ((SN.out wx hb).mono ?_))
       rintro e w' ⟨rfl, b9⟩
       exact ⟨_, rfl, _, rfl, own_some (n := 19) rfl cx.sz rfl, .inl ⟨(upd_old fl rfl).trans f4, hb.trans (b9.mono hb.size)⟩⟩) <|
     yc (@fun fl ax wx cx => by
       have f4 : fl 4 = false := cx.fi
       have hb := cx.S.was f4
       refine wpOpIn_yield2 (fun _ => trivial) rfl cx.ho (wn rfl) rfl (cx.u 0 rfl) (cx.u 1 rfl) (cx.u 2 rfl) (yieldAt_in (n := n - 1) ?_)
       refine YieldAt.mono (YD.out wx hb) ?_
       rw [← snapsE_succ]
       have kb : KeepT σE W9 wx := ⟨hb.size, fun q o hq _ => brow hb hq⟩
       have kf : KeepsFrom W.heap.size W9 wx := ⟨hb.size, fun q o _ hq _ => brow hb hq⟩
       rintro e w9 (⟨rfl, h1, h2, h3⟩ | ⟨rfl, h1, h2, h3⟩)
       · exact ⟨_, rfl, _, rfl, trivial, .inr ⟨upd_new _ _, true, slot_new cx.sz rfl, fun h => absurd ((upd_old fl rfl).symm.trans h) (by rw [cx.later 5 (by kernel_rfl)]; decide), h1, kb.trans h2, kf.trans h3⟩⟩
       · exact ⟨_, rfl, _, rfl, trivial, .inr ⟨upd_new _ _, false, slot_new cx.sz rfl, fun h => absurd ((upd_old fl rfl).symm.trans h) (by rw [cx.later 5 (by kernel_rfl)]; decide), h1, kb.trans h2, kf.trans h3⟩⟩) <|
     yc (@fun fl ax wx cx => by
       rcases cx.S with h | ⟨h, bb, h17, _, h2⟩
       · exact absurd h.1 (by rw [show fl 4 = true from cx.did 0 rfl rfl]; decide)
       · refine wpOpIn_v (fun _ => trivial) cx.ho (wn rfl) (noDefer_of rfl) (ex_not (x := .tmp 17) (c := bb) rfl (show ax.eval (.tmp 17) = _ from h17)) ⟨_, rfl, trivial, ?_⟩
         exact .inr ⟨(upd_old fl rfl).trans h, bb, (slot_old rfl).trans h17, fun _ => slot_new cx.sz rfl, h2⟩) <|
     yn) ?_
    intro a9 w9 f9
    obtain ⟨fl, hfl, hs⟩ := f9.s
    rcases hs with hs | ⟨_, bb, _, h18, hs⟩
    · exact absurd hs.1 (by rw [hfl 4 (by decide)]; decide)
    have h18 := h18 (hfl 5 (by decide))
    cases bb with
    | true =>
      obtain ⟨hj9, kp9, kf9⟩ := hs
      refine wpIn_cond_false (show a9.eval (.tmp 18) = .bool false from h18) ?_
      refine wpIn_skip ?_
      refine ⟨⟨kf9.size, fun q o hq h ho => kf9.same q o (by omega) h ho⟩, keepE kp9, ?_, keepE_row kp9 j2 (by decide), keepE_row kp9 j3 (by decide)⟩
      rw [List.length_append, hlen]; exact hj9
    | false =>
      obtain ⟨hj9, kp9, kf9⟩ := hs
      refine wpIn_cond_true (show a9.eval (.tmp 18) = .bool true from h18) ?_
      refine wpIn_ret ?_
      refine ⟨⟨kf9.size, fun q o hq h ho => kf9.same q o (by omega) h ho⟩, keepE kp9, rfl, ?_⟩
      rw [List.length_append, hlen]; exact hj9
  case stop =>
    rintro D9 c pre W9 hD ⟨k, s1, s2, rfl⟩ ⟨rfl, hx⟩ hK
    rw [ats_len] at hx
    have FO := Lib.hid (show ∃ pre, SpE E D pre (W9.putObj D9 (.deferred none)) ∧ Jx pre (W9.putObj D9 (.deferred none)) from
      ⟨_, ⟨k, (goes_with ekf ex D k).1 s1, by rw [← its_with ekf ex D k]; exact s2, rfl⟩, HJX.out _ W9 _ hx ⟨rfl, rfl, rfl, by simp [World.putObj], fun q o hq hg _ => (World.putObj_heap_other (by omega)).trans hq⟩⟩)
    clear hx s1 s2
    refine (wpIn_wide (n := n)).2 ?_
    go_wp2_with fail
    exact ⟨by simp, .inl ⟨_, _, rfl, run_takeDeferred hK, _, results_none rfl _ _ _, ⟨_, rfl⟩, .inr FO.out⟩⟩
  case done =>
    rintro D9 xs W9 hD ⟨m, hm, rfl, R9⟩ ⟨j9, _, _⟩ hK
    rw [ats_len] at j9
    have FO := Lib.hid (show ∃ xs, SE E D xs (W9.putObj D9 (.deferred none)) ∧ J xs (W9.putObj D9 (.deferred none)) from
      ⟨_, ⟨m, (done_with ekf ex D m).1 hm, rfl⟩, HJ.out _ W9 _ j9 ⟨rfl, rfl, rfl, by simp [World.putObj], fun q o hq hg _ => (World.putObj_heap_other (by omega)).trans hq⟩⟩)
    clear j9 hm R9
    go_wp2_with fail
    exact ⟨by simp, .inl ⟨_, _, rfl, run_takeDeferred hK, _, results_none rfl _ _ _, ⟨_, rfl⟩, .inl FO.out⟩⟩
end Go.Proofs.Ythhgcbegcbhaeaa.Mdl

namespace Go.Proofs.Ythhgcbegcbhaeaa.Mdl
open Go.RowKit Go.Maps Ins Trc
set_option linter.unusedVariables false
set_option linter.unusedSimpArgs false
set_option maxRecDepth 100000

theorem exe_next {D : Pl} {kf : Nat → Int} {x : In} (h : (D.exe kf x).2 = 0) :
    ((D.exe kf x).1.at_ = D.at_ ∨ ((x.kind = 3 ∨ x.kind = 4) ∧ (D.exe kf x).1.at_ = targetI (D.at_ - 1) x)) ∧ (x.kind = 4 → (D.exe kf x).1.at_ = targetI (D.at_ - 1) x) ∧ (0 ≤ x.kind → x.kind < 7 → ¬ x.kind = 6) := by
  unfold Pl.exe at h ⊢
  by_cases k0 : x.kind = 0
  · rw [if_pos k0] at h ⊢; exact ⟨.inl rfl, fun e => by omega, fun _ _ => by omega⟩
  rw [if_neg k0] at h ⊢
  by_cases k1 : x.kind = 1
  · rw [if_pos k1] at h ⊢
    refine ⟨.inl ?_, fun e => by omega, fun _ _ => by omega⟩
    split <;> rfl
  rw [if_neg k1] at h ⊢
  by_cases k2 : x.kind = 2
  · rw [if_pos k2] at h ⊢
    refine ⟨.inl ?_, fun e => by omega, fun _ _ => by omega⟩
    split <;> rfl
  rw [if_neg k2] at h ⊢
  by_cases k3 : x.kind = 3
  · rw [if_pos k3] at h ⊢
    refine ⟨?_, fun e => by omega, fun _ _ => by omega⟩
    show ((if holdsB x.op 64 (D.r x.dst.toNat) (D.opd x) = true then _ else _ : Pl)).at_ = _ ∨ _ ∧ ((if holdsB x.op 64 (D.r x.dst.toNat) (D.opd x) = true then _ else _ : Pl)).at_ = _
    by_cases hh : holdsB x.op 64 (D.r x.dst.toNat) (D.opd x) = true
    · rw [if_pos hh]; exact .inr ⟨.inl k3, rfl⟩
    · rw [if_neg hh]; exact .inl rfl
  rw [if_neg k3] at h ⊢
  by_cases k4 : x.kind = 4
  · rw [if_pos k4] at h ⊢
    exact ⟨.inr ⟨.inr k4, rfl⟩, fun _ => rfl, fun _ _ => by omega⟩
  rw [if_neg k4] at h ⊢
  by_cases k5 : x.kind = 5
  · rw [if_pos k5] at h ⊢
    refine ⟨.inl ?_, fun e => by omega, fun _ _ => by omega⟩
    cases D.ans <;> rfl
  rw [if_neg k5] at h
  exact absurd h (by show ¬ (1 : Int) = 0; decide)
/-- Where the next round stands. -/
theorem step_next {E : Env} (F : Fine E) {D : Pl} (R : Runs E D) (h : (D.step E.kf (E.x D.ix)).fin = 0) :
    ((D.step E.kf (E.x D.ix)).at_ = D.at_ + 1 ∨ (((E.x D.ix).kind = 3 ∨ (E.x D.ix).kind = 4) ∧ (D.step E.kf (E.x D.ix)).at_ = targetI D.at_ (E.x D.ix))) ∧ ((E.x D.ix).kind = 4 → (D.step E.kf (E.x D.ix)).at_ = targetI D.at_ (E.x D.ix)) ∧ ¬ (E.x D.ix).kind = 6 := by
  have hm := F.may _ R.ix.1
  obtain ⟨_, _, _, _, hc⟩ := mayI_cases hm
  cases hr : (andM D.set (readsM (E.x D.ix)) == readsM (E.x D.ix)) with
  | false => rw [step_no hr] at h; exact absurd h (by show ¬ (3 : Int) = 0; decide)
  | true =>
    rw [step_yes hr] at h ⊢
    have := exe_next (D := D.adv) (kf := E.kf) (x := E.x D.ix) h
    rw [show D.adv.at_ - 1 = D.at_ from by show D.at_ + 1 - 1 = _; omega] at this
    exact ⟨this.1, this.2.1, this.2.2 (by omega) (by omega)⟩

set_option maxHeartbeats 4000000 in
theorem visits_bad (r : Int) (hr : ¬ r = 0) (c : Int) (pa : Option Addr) (plen pcap : Nat) (ca : Option Addr) (cl cc : Nat) (aa : Option Addr) (al ac : Nat) (fuel : Int) (W : World)
    (ST : ∀ w, Below W.heap.size W w → Calls Try.prog 18 #[.agg #[.int .i64 c, .slice pa plen pcap], .slice ca cl cc, .slice aa al ac, .int .i64 fuel] w fun e w' => e = .returned (.tuple #[.pointer none, .int .i64 r]) ∧ Below w.heap.size w w') :
    Calls Try.prog 14 #[.agg #[.int .i64 c, .slice pa plen pcap], .slice ca cl cc, .slice aa al ac, .int .i64 fuel] W fun e w' => e = .returned (.slice none 0 0) ∧ Below W.heap.size W w' := by
  have ST := Lib.hid ST
  have e0 : (r != 0) = true := by simpa using hr
  have bx0 := below_new (Below.refl W.heap.size W) (.cells #[.int .i64 c, .slice pa plen pcap] 24)
  clear hr
  refine (callsIn_wide (n := 3)).1 (callsIn_of_wp_marks Try.func14 rfl trivial ?_ rfl)
  simp only [Try.ntmps14, List.size_toArray, List.length_cons, List.length_nil, Nat.reduceAdd, Nat.reduceSub, Array.replicate_succ, Array.replicate_zero, List.push_toArray, List.append_toArray, List.nil_append, List.cons_append]
  refine (wpIn_wide (n := 3)).2 ?_
  go_wp2_with fail
  generalize W.alloc (.cells #[.int .i64 c, .slice pa plen pcap] 24) = w0 at *
  refine (ST.out _ bx0).mono ?_
  rintro e w1 ⟨rfl, b1⟩
  have bx1 := Lib.hid (bx0.trans (b1.mono bx0.size))
  clear ST bx0 b1
  go_wp2_with fail
  exact ⟨_, res_t rfl rfl, rfl, bx1.out⟩

/-- The iterator where it may not run: nothing. -/
theorem each_none (r : Int) (hr : ¬ r = 0) (eB gB n : Nat) (w0 : World) (h1 : w0.heap[eB]? = some (.cells #[.int .i64 r] 34 (0, 0))) (Y : List (Int × List Value) → Int × List Value → World → Prop) :
    SeqG τM σE w0.heap.size n Try.prog 24 #[] #[.pointer (some ⟨eB, 0, none⟩), .pointer (some ⟨gB, 0, none⟩)] encE Y (fun xs _ => xs = []) (fun _ _ => False) w0 := by
  intro l J Jx W hB hJ hJx hY hJ0
  have ce := brow hB h1
  have x1 : W.cell? ⟨eB, 0, none⟩ = some (.int .i64 r) := by simp only [World.cell?, ce]; rfl
  have l1 := lt_of_cell x1
  have e0 : (r != 0) = true := by simpa using hr
  have b1 := below_new (Below.refl W.heap.size W) (.cells #[.func (.yield l) #[] #[]] 66)
  have J1 := Lib.hid (hJ _ _ _ hJ0 (.of_below b1))
  clear hJ0 hJ hJx hY ce hB h1 hr b1
  show CallsIn Fence.wide n Try.prog 24 #[.func (.yield l) #[] #[], .pointer (some ⟨eB, 0, none⟩), .pointer (some ⟨gB, 0, none⟩)] W _
  refine callsIn_of_wp_marks Try.func24 rfl trivial ?_ rfl
  simp only [Try.ntmps24, List.size_toArray, List.length_cons, List.length_nil, Nat.reduceAdd, Nat.reduceSub, Array.replicate_succ, Array.replicate_zero, List.push_toArray, List.append_toArray, List.nil_append, List.cons_append]
  refine (wpIn_wide (n := n)).2 ?_
  go_wp2_with fail
  exact ⟨_, results_none rfl _ _ _, ⟨_, rfl⟩, .inl ⟨[], rfl, J1.out⟩⟩

theorem done_le {E : Env} {D : Pl} {m : Nat} (h : Done E D m) (h0 : 0 ≤ D.fuel) : (m : Int) ≤ D.fuel := by
  rcases h with ⟨g, _⟩ | ⟨k, rfl, _, f, _⟩
  · cases m with
    | zero => exact h0
    | succ k =>
      have := (g k (by omega)).1
      rw [itsV_fuel] at this
      omega
  · rw [itsV_fuel] at f
    omega
/-! ### The laws that go over the places: what lies ahead of the loop, what a round's variable lies in -/
theorem ats_snaps (E : Env) (D : Pl) (k : Nat) : (snapsE E D k).map (·.1) = ats E D k := by simp [snapsE, ats]
def lastL (pre : List (Int × List Value)) : Int := (pre.getLast?.map (·.1)).getD (-1)
theorem lastL_zero (E : Env) (D : Pl) : lastL (snapsE E D 0) = -1 := rfl
theorem lastL_succ (E : Env) (D : Pl) (k : Nat) : lastL (snapsE E D (k + 1)) = (its E D k).at_ := by
  unfold lastL
  rw [snapsE_succ, List.getLast?_append]
  rfl
/-- What a round begins with: the variable's box. -/
def AxC (fr : Int → List Value → Nat → Act) (B : Nat) (I : List (Int × List Value) → World → Prop) (Yk : List (Int × List Value) → Int × List Value → World → Prop) (pre : List (Int × List Value)) (x : Int × List Value) (a' : Act) (W' : World) : Prop :=
  ∃ sb, a' = fr x.1 x.2 sb ∧ I pre W' ∧ Yk pre x W' ∧ W'.heap[sb]? = some (.cells x.2.toArray 51 (0, 0)) ∧ B ≤ sb
theorem AxC.own {fr : Int → List Value → Nat → Act} {B B' : Nat} {I : List (Int × List Value) → World → Prop} {Yk : List (Int × List Value) → Int × List Value → World → Prop} (hI : OwnFrom B I) (hY : ∀ x, OwnFrom B (fun pre => Yk pre x)) (pre : List (Int × List Value)) (x : Int × List Value) (a' : Act) : OwnFrom B (fun (_ : Unit) W => AxC fr B' I Yk pre x a' W) :=
  fun s X Y row ⟨sb, h1, h2, h3, h4, h5⟩ hg hr => ⟨sb, h1, hI _ X Y row h2 hg hr, hY x _ X Y row h3 hg hr, row_own B sb _ _ () X Y row h4 hg hr, h5⟩
theorem YE.own (E : Env) (D : Pl) (B : Nat) (x : Int × List Value) : OwnFrom B (fun pre => YE E D pre x) := fun _ _ _ _ h _ _ => h
theorem SE.own (E : Env) (D : Pl) (B : Nat) : OwnFrom B (SE E D) := fun _ _ _ _ h _ _ => h
theorem SpE.own (E : Env) (D : Pl) (B : Nat) : OwnFrom B (SpE E D) := fun _ _ _ _ h _ _ => h
/-- ModelCounts, while the places are gone over. -/
structure CW (W : World) (c : Int) (b o plen pcap g2 g4 V g6 : Nat) (oc : Array Value) (fm : List Int) (pre : List (Int × List Value)) (w : World) : Prop where
  bel : Below W.heap.size W w
  prog : w.heap[W.heap.size]? = some (.cells #[.int .i64 c, .slice (some ⟨b, o, none⟩) plen pcap] 24 (0, 0))
  res : w.heap[W.heap.size + 1]? = some (.cells #[.bool false] 4 (0, 0))
  out : w.heap[g2]? = some (.cells oc 33 (0, 0))
  vis : w.heap[g4]? = some (.cells #[.slice (some ⟨V, 0, none⟩) plen plen] 43 (0, 0))
  n : w.heap[g6]? = some (.cells #[.int .i64 pre.length] 3 (0, 0))
  last : w.heap[g6 + 1]? = some (.cells #[.int .i64 (lastL pre)] 3 (0, 0))
  row : w.rowIs V 3 plen (fun i => .int .i64 (cntP fm i - cntP (pre.map (·.1)) i))
theorem CW.mv {W : World} {c : Int} {b o plen pcap g2 g4 V g6 : Nat} {oc : Array Value} {fm : List Int} {pre : List (Int × List Value)} {w w' : World} (h : CW W c b o plen pcap g2 g4 V g6 oc fm pre w) (γ : Nat) (hg : W.heap.size + 1 < γ ∧ g2 < γ ∧ g4 < γ ∧ V < γ ∧ g6 + 1 < γ) (bel : Below W.heap.size W w')
    (mv : ∀ (g : Nat) (cs : Array Value) (t : TypeId), g < γ → τM t = false → w.heap[g]? = some (.cells cs t (0, 0)) → w'.heap[g]? = some (.cells cs t (0, 0))) : CW W c b o plen pcap g2 g4 V g6 oc fm pre w' := by
  obtain ⟨h1, h2, h3, h4, h5⟩ := hg
  refine ⟨bel, mv _ _ _ (by omega) (by decide) h.prog, mv _ _ _ (by omega) (by decide) h.res, mv _ _ _ (by omega) (by decide) h.out, mv _ _ _ (by omega) (by decide) h.vis, mv _ _ _ (by omega) (by decide) h.n, mv _ _ _ (by omega) (by decide) h.last, ?_⟩
  obtain ⟨cur, e1, e2, e3⟩ := id h.row
  exact h.row.of_block ((mv _ _ _ h4 (by decide) e1).trans e1.symm)
theorem CW.below {W : World} {c : Int} {b o plen pcap g2 g4 V g6 : Nat} {oc : Array Value} {fm : List Int} {pre : List (Int × List Value)} {w w' : World} (h : CW W c b o plen pcap g2 g4 V g6 oc fm pre w) (k : Below w.heap.size w w') : CW W c b o plen pcap g2 g4 V g6 oc fm pre w' := by
  refine h.mv (W.heap.size + 2 + g2 + 1 + g4 + 1 + V + 1 + g6 + 2) (by omega) (h.bel.trans (k.mono h.bel.size)) (fun g cs t _ _ hg => brow k hg)
theorem CW.ab {W : World} {c : Int} {b o plen pcap g2 g4 V g6 : Nat} {oc : Array Value} {fm : List Int} {β γ : Nat} (hg : W.heap.size + 1 < γ ∧ g2 < γ ∧ g4 < γ ∧ V < γ ∧ g6 + 1 < γ) (hβ : W.heap.size ≤ β) : AbG τM β γ (CW W c b o plen pcap g2 g4 V g6 oc fm) := fun pre A B h t =>
  h.mv γ hg (TurnG.below h.bel t hβ (by omega) (Nat.le_refl _)) (fun g cs ty h1 h2 h3 => TurnG.row t h3 h1 h2)
end Go.Proofs.Ythhgcbegcbhaeaa.Mdl

namespace Go.Proofs.Ythhgcbegcbhaeaa.Ins
open Go.RowKit
set_option linter.unusedVariables false

set_option maxRecDepth 100000 in
set_option maxHeartbeats 4000000 in
theorem r_target (i : Int) (x : In) (W : World) :
    Calls Try.prog 16 #[.int .i64 i, .agg x.cells] W fun e w' => e = .returned (.tuple #[.int .i64 (targetI i x), .bool (jumpsI i x)]) ∧ Below W.heap.size W w' := by
  have hj : jumpsI i x = decide ((x.kind = 3 ∨ x.kind = 4) ∧ (-1099511627776 ≤ i ∧ i ≤ 1099511627776) ∧ (-1099511627776 ≤ x.off ∧ x.off ≤ 1099511627776)) := by
    unfold jumpsI nearI; rw [Bool.eq_iff_iff]; simp [and_assoc]
  unfold targetI
  rw [hj]
  clear hj
  obtain ⟨kind, op, width, size, byReg, dst, src, off, imm⟩ := x
  unfold In.cells
  simp only
  have hc : (¬ kind = 3 ∧ ¬ kind = 4) ∨ ((kind = 3 ∨ kind = 4) ∧ (i < -1099511627776 ∨ (-1099511627776 ≤ i ∧ 1099511627776 < i) ∨ (-1099511627776 ≤ i ∧ i ≤ 1099511627776 ∧ off < -1099511627776) ∨ (-1099511627776 ≤ i ∧ i ≤ 1099511627776 ∧ -1099511627776 ≤ off ∧ 1099511627776 < off) ∨ (-1099511627776 ≤ i ∧ i ≤ 1099511627776 ∧ -1099511627776 ≤ off ∧ off ≤ 1099511627776))) := by omega
  rcases hc with ⟨h3, h4⟩ | ⟨rfl | rfl, h1 | ⟨h1, h2⟩ | ⟨h1, h2, h5⟩ | ⟨h1, h2, h5, h6⟩ | ⟨h1, h2, h5, h6⟩⟩
  · rw [decide_eq_false (by omega), if_neg (by simp)]
    go_enter Try.func16, Try.ntmps16
    go_wp2
    go_ret2
    exact ⟨rfl, below_new (Below.refl _ _) _⟩
  all_goals
    first
    | rw [decide_eq_false (by omega), if_neg (by simp)]
    | rw [decide_eq_true (by omega), if_pos rfl]
    go_enter Try.func16, Try.ntmps16
    go_wp2
    go_ret2
    exact ⟨rfl, below_new (Below.refl _ _) _⟩
end Go.Proofs.Ythhgcbegcbhaeaa.Ins
