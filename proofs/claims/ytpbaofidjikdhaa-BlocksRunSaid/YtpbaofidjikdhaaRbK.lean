/-
  The document's answer latheref04: Run, where the program may be.
-/
import Derived.Test.YtpbaofidjikdhaaRbI
import Derived.Test.YtpbaofidjikdhaaRinG
namespace Go.Proofs.Ytpbaofidjikdhaa.Blk
open Go.RowKit Go.Maps Go.Sort Ins
set_option linter.unusedVariables false
set_option linter.unusedSimpArgs false
set_option maxRecDepth 100000

/-- A block without a row of its own. -/
def bare (x : Bk) : Bk × (Option Addr × Nat) := (x, (none, 0))
theorem Own.form {base : Nat} {w : World} {v : Value} {ps : List (Bk × (Option Addr × Nat))} (h : Own base w v ps) (hp : 0 < ps.length) : ∃ g cap, v = .slice (some ⟨g, 0, none⟩) ps.length cap ∧ base ≤ g ∧ g < w.heap.size ∧ ps.length ≤ cap := by
  rcases h.row.2 with ⟨rfl, h0⟩ | ⟨g, cap, cur, rfl, e2, e3, e4, e5, e6, e7⟩
  · omega
  · exact ⟨g, cap, rfl, e2, (Array.getElem?_eq_some_iff.1 e3).1, e4⟩
theorem IntsAt.none (w : World) : IntsAt w none 0 0 [] := ⟨rfl, Nat.le_refl _, by omega, fun h => absurd h (by omega)⟩

theorem own_last {base g cap m : Nat} {w w' : World} {l : List Bk} {f t t' : Int} (h : Own base w (.slice (some ⟨g, 0, none⟩) (m + 1) cap) ((l ++ [(⟨f, t, []⟩ : Bk)]).map bare)) (hm : l.length = m)
    (r : w'.ownsRow base 76 3 (.slice (some ⟨g, 0, none⟩) (m + 1) cap) (m + 1) ((cellsOf ((l ++ [(⟨f, t, []⟩ : Bk)]).map bare)).set (m * 3 + 1) (.int .i64 t'))) (hg : w.grownBy w' (some g)) :
    Own base w' (.slice (some ⟨g, 0, none⟩) (m + 1) cap) ((l ++ [(⟨f, t', []⟩ : Bk)]).map bare) := by
  subst hm
  have hl : ((l ++ [(⟨f, t, []⟩ : Bk)]).map bare).length = l.length + 1 := by simp
  have e1 : ((l ++ [(⟨f, t, []⟩ : Bk)]).map bare)[l.length]? = some (bare ⟨f, t, []⟩) := by simp
  rw [cellsOf_setTo _ _ _ _ e1] at r
  rw [← hl] at r h
  have h2 := Own.set (j := l.length) (p := bare ⟨f, t', []⟩) h hg r (IntsAt.none w) (fun ad e => by cases e)
  have e2 : ((l ++ [(⟨f, t, []⟩ : Bk)]).map bare).set l.length (bare ⟨f, t', []⟩) = (l ++ [(⟨f, t', []⟩ : Bk)]).map bare := by simp [List.set_append]
  rw [e2] at h2
  rw [show l.length + 1 = ((l ++ [(⟨f, t', []⟩ : Bk)]).map bare).length by simp]
  exact h2
theorem info_one' : (Try.prog.info? 3).map (·.size) = some 1 := by kernel_rfl

/-- Blocks of one's own, but for one's successors. -/
structure OwnX (N base : Nat) (w : World) (g cap L : Nat) (ds : List (Bk × (Option Addr × Nat))) (p : Bk × (Option Addr × Nat)) (rest : List (Bk × (Option Addr × Nat))) : Prop where
  row : w.ownsRow base 76 3 (.slice (some ⟨g, 0, none⟩) L cap) L (cellsOf (ds ++ p :: rest))
  len : (ds ++ p :: rest).length = L
  nexts : ∀ q ∈ ds ++ rest, IntsAt w q.2.1 q.1.next.length q.2.2 q.1.next
  apart : ∀ q ∈ ds ++ rest, ∀ ad, q.2.1 = some ad → g ≠ ad.block ∧ ad.block < N
  big : N ≤ w.heap.size
theorem mem_but {α : Type} {ds rest : List α} {p q : α} (h : q ∈ ds ++ rest) : q ∈ ds ++ p :: rest := by
  rcases List.mem_append.1 h with h | h
  · exact List.mem_append.2 (.inl h)
  · exact List.mem_append.2 (.inr (List.mem_cons_of_mem _ h))
theorem OwnX.of {base : Nat} {w : World} {g cap L : Nat} {ds rest : List (Bk × (Option Addr × Nat))} {p : Bk × (Option Addr × Nat)} (hl : (ds ++ p :: rest).length = L) (h : Own base w (.slice (some ⟨g, 0, none⟩) L cap) (ds ++ p :: rest)) : OwnX w.heap.size base w g cap L ds p rest :=
  ⟨by have := h.row; rw [hl] at this; exact this, hl, fun q hq => h.nexts q (mem_but hq), fun q hq ad e => by have := h.apart q (mem_but hq) ad e; exact ⟨fun e2 => this.1 (by show some g = _; rw [e2]), this.2⟩, Nat.le_refl _⟩
theorem OwnX.below {N base : Nat} {w w' : World} {g cap L : Nat} {ds rest : List (Bk × (Option Addr × Nat))} {p : Bk × (Option Addr × Nat)} (h : OwnX N base w g cap L ds p rest) (b : Below w.heap.size w w') : OwnX N base w' g cap L ds p rest :=
  ⟨own_below h.row b, h.len, fun q hq => (h.nexts q hq).below b, h.apart, Nat.le_trans h.big b.size⟩
theorem OwnX.grown {N base : Nat} {w w' : World} {g cap L : Nat} {ds rest : List (Bk × (Option Addr × Nat))} {p : Bk × (Option Addr × Nat)} {row : Option Nat} (h : OwnX N base w g cap L ds p rest) (hg : w.grownBy w' row) (hr : ∀ j, row = some j → N ≤ j ∧ j ≠ g) : OwnX N base w' g cap L ds p rest :=
  ⟨h.row.kept hg (.inr (fun e => (hr g e.symm).2 rfl)), h.len, fun q hq => (h.nexts q hq).grown hg (fun ad e e2 => by have h1 := (h.apart q hq ad e).2; have h2 := (hr _ e2).1; omega), h.apart, Nat.le_trans h.big hg.size⟩
theorem OwnX.store {N base : Nat} {w w' : World} {g cap L b : Nat} {ds rest : List (Bk × (Option Addr × Nat))} {p : Bk × (Option Addr × Nat)} {na : Option Addr} {nc : Nat} {nx : List Int} (h : OwnX N base w g cap L ds p rest) (hb : ds.length = b) (hg : w.grownBy w' (some g))
    (r : w'.ownsRow base 76 3 (.slice (some ⟨g, 0, none⟩) L cap) L ((cellsOf (ds ++ p :: rest)).set (b * 3 + 2) (.slice na nx.length nc))) : OwnX N base w' g cap L ds (⟨p.1.fr, p.1.to, nx⟩, (na, nc)) rest := by
  subst hb
  have e1 : (ds ++ p :: rest)[ds.length]? = some p := by simp
  rw [cellsOf_setNext _ _ _ na nc nx e1] at r
  have e2 : (ds ++ p :: rest).set ds.length (⟨p.1.fr, p.1.to, nx⟩, (na, nc)) = ds ++ (⟨p.1.fr, p.1.to, nx⟩, (na, nc)) :: rest := by simp [List.set_append]
  rw [e2] at r
  exact ⟨r, by have := h.len; simpa using this, fun q hq => (h.nexts q hq).grown hg (fun ad e e2 => (h.apart q hq ad e).1 (by injection e2)), h.apart, Nat.le_trans h.big hg.size⟩
theorem OwnX.done {N base : Nat} {w : World} {g cap L : Nat} {ds rest : List (Bk × (Option Addr × Nat))} {p : Bk × (Option Addr × Nat)} (h : OwnX N base w g cap L ds p rest) (hp : IntsAt w p.2.1 p.1.next.length p.2.2 p.1.next) (ha : ∀ ad, p.2.1 = some ad → g ≠ ad.block ∧ ad.block < w.heap.size) :
    Own base w (.slice (some ⟨g, 0, none⟩) L cap) (ds ++ p :: rest) := by
  have all : ∀ q ∈ ds ++ p :: rest, q = p ∨ q ∈ ds ++ rest := by
    intro q hq
    rcases List.mem_append.1 hq with hq | hq
    · exact .inr (List.mem_append.2 (.inl hq))
    · rcases List.mem_cons.1 hq with rfl | hq
      · exact .inl rfl
      · exact .inr (List.mem_append.2 (.inr hq))
  refine ⟨by rw [h.len]; exact h.row, fun q hq => ?_, fun q hq ad e => ?_⟩
  · rcases all q hq with rfl | hq
    · exact hp
    · exact h.nexts q hq
  · have : g ≠ ad.block ∧ ad.block < w.heap.size := by
      rcases all q hq with rfl | hq
      · exact ha ad e
      · exact ⟨(h.apart q hq ad e).1, Nat.lt_of_lt_of_le (h.apart q hq ad e).2 h.big⟩
    exact ⟨fun e2 => this.1 (by injection e2), this.2⟩
theorem OwnX.cells {N base : Nat} {w : World} {g cap L b : Nat} {ds rest : List (Bk × (Option Addr × Nat))} {p : Bk × (Option Addr × Nat)} (h : OwnX N base w g cap L ds p rest) (hb : ds.length = b) :
    w.cell? ⟨g, b * 3 + 1, none⟩ = some (.int .i64 p.1.to) ∧ w.cell? ⟨g, b * 3 + 2, none⟩ = some (.slice p.2.1 p.1.next.length p.2.2) := by
  subst hb
  rcases h.row.2 with ⟨h0, _⟩ | ⟨g', cap', cur, e1, e2, e3, e4, e5, e6, e7⟩
  · cases h0
  injection e1 with a1 a2 a3
  injection a1 with a1
  injection a1 with a1
  subst a1 a3
  have hlt : ds.length < L := by have := h.len; simp at this; omega
  have key : ∀ k u, k < 3 → (cell3 p)[k]? = some u → w.cell? ⟨g, ds.length * 3 + k, none⟩ = some u := by
    intro k u hk hu
    have h1 := cellsOf_get (l := ds ++ p :: rest) (i := ds.length) (p := p) (by simp) hk
    rw [← e7, List.getElem?_take_of_lt (by omega), Array.getElem?_toList] at h1
    simp only [World.cell?, e3]
    rw [h1]; exact hu
  exact ⟨key 1 _ (by omega) rfl, key 2 _ (by omega) rfl⟩
theorem ints_own {base : Nat} {w : World} {v : Value} {n : Nat} {zs : List Int} (h : w.ownsRow base 3 1 v n (zs.map (Value.int .i64))) (hn : 0 < n) : ∃ g cap, v = .slice (some ⟨g, 0, none⟩) n cap ∧ base ≤ g ∧ g < w.heap.size ∧ IntsAt w (some ⟨g, 0, none⟩) n cap zs := by
  have hl := h.1
  rw [List.length_map] at hl
  rcases h.2 with ⟨rfl, h0⟩ | ⟨g, cap, cur, rfl, e2, e3, e4, e5, e6, e7⟩
  · omega
  · refine ⟨g, cap, rfl, e2, (Array.getElem?_eq_some_iff.1 e3).1, by omega, e4, by unfold maxLen at e5; omega, fun _ => ⟨g, 0, rfl, fun j z hz => ?_⟩⟩
    have hj : j < n := by have := (List.getElem?_eq_some_iff.1 hz).1; omega
    have h1 : (zs.map (Value.int .i64))[j]? = some (.int .i64 z) := by rw [List.getElem?_map, hz]; rfl
    rw [← e7, List.getElem?_take_of_lt (by omega), Array.getElem?_toList] at h1
    simp only [World.cell?, e3, Nat.zero_add]
    simpa using h1
theorem one_int (z : Int) : ∀ u ∈ [Value.int .i64 z], u.oneCell' = true := by
  intro u hu
  simp at hu
  subst hu; rfl
theorem info_nexts : (Try.prog.info? 72).map (·.size) = some 1 := by kernel_rfl
theorem info_intx : (Try.prog.info? 3).map (fun i => (i.zero, i.size, i.bytes)) = some (some (.int .i64 0), 1, 8) := by kernel_rfl
theorem info_inta : ∃ i, Try.prog.info? 3 = some i ∧ i.zero = some (.int .i64 0) ∧ i.size = 1 ∧ i.bytes = 8 := by
  have h := info_intx
  cases hi : Try.prog.info? 3 with
  | none => rw [hi] at h; simp at h
  | some i => rw [hi] at h; simp at h; exact ⟨i, rfl, h.1, h.2.1, h.2.2⟩
/-- One block told, in its place. -/
theorem run_blk {s : Sh} {n b : Nat} {x : Bk} (h : Fine s n) (hx : (bksF s n n)[b]? = some x) : ∃ e, e < n ∧ x = ⟨x.fr, (e : Int) + 1, nextL s n e⟩ ∧ num s n ((e : Int) + 1) = (b : Int) + 1 ∧
    (s.jumps e = true → ofL (bksF s n n) (s.to e) = (num s n (s.to e), true) ∧ 0 ≤ num s n (s.to e) ∧ num s n (s.to e) ≤ n) := by
  obtain ⟨e, h1, h2, rfl, h4⟩ := bksF_get s n n b x hx
  refine ⟨e, h1, rfl, ?_, fun hj => ?_⟩
  · have := cnt_open s n e
    show ((cnt (beg s n) ((e : Int) + 1).toNat : Nat) : Int) = _
    rw [show ((e : Int) + 1).toNat = e + 1 by omega]
    omega
  · obtain ⟨t0, t1⟩ := h.to e h1 hj
    obtain ⟨t, ht⟩ : ∃ t : Nat, s.to e = t := ⟨(s.to e).toNat, by omega⟩
    have hb : beg s n t = true := by have := begB_to s h1 hj; rw [ht] at this; exact this
    obtain ⟨e', q1, q2⟩ := of_begin h (by omega) hb
    rw [ht]
    have hn : num s n (t : Int) = (cnt (beg s n) t : Int) := rfl
    rw [hn]
    have := cnt_le_self (beg s n) t
    exact ⟨q1, by omega, by omega⟩

set_option maxHeartbeats 4000000 in
theorem r_run_yes (c : Int) (a : Option Addr) (len cap : Nat) (xs : Nat → In) (W : World) (hx : Insts W a len cap xs) (h0 : (checkI c len xs).2 = 0) :
    Calls Try.prog 36 #[.agg #[.int .i64 c, .slice a len cap]] W (Ran (sh xs) len W) := by
  have C := Lib.hid (fun W h => r_check c a len cap xs W h)
  rw [h0] at C
  have hfit := hx.fit
  have hle := hx.le
  have HX := Lib.hid hx; clear hx
  obtain ⟨hF, h64⟩ := fine_of h0
  have FN := Lib.hid hF; clear hF
  have JK := Lib.hid (show ∀ k, k < len → jumpsI k (xs k) = decide ((xs k).kind = 3 ∨ (xs k).kind = 4) from fun k hk => ((ends_facts h0).2.2 k hk).2.1)
  have BG := Lib.hid (fun i W h hi => r_begins c a len cap xs i W h hi h64 JK.out)
  clear h0
  generalize (checkI c len xs).1 = i0 at *
  go_enter Try.func36, Try.ntmps36
  go_wp2_with fail
  refine (C.out _ (HX.out.below (below_new (Below.refl _ _) _))).mono ?_
  rintro e w2 ⟨rfl, b2⟩
  have hP1 : w2.cell? ⟨W.heap.size, 1, none⟩ = some (.slice a len cap) := (b2.cell (by simp)).trans (by simp)
  have hP0 : w2.cell? ⟨W.heap.size, 0, none⟩ = some (.int .i64 c) := (b2.cell (by simp)).trans (by simp)
  have B2 := Lib.hid (below_call (below_new (Below.refl _ W) _) b2)
  have hz2 : W.heap.size < w2.heap.size := by have := b2.size; simp at this; omega
  clear b2 C
  generalize hB0 : w2.heap.size = B0 at hz2
  have HB0 := Lib.hid hB0; clear hB0
  have P0 := Lib.hid hP0
  have P1 := Lib.hid hP1
  clear hP0 hP1
  go_wp2_with fail
  go_loopw [6, 7] (fun v i wr => ∃ k : Nat, k ≤ len ∧ i = .int .i64 k ∧ Hid (Below W.heap.size W wr ∧ B0 ≤ wr.heap.size ∧ wr.cell? ⟨W.heap.size, 1, none⟩ = some (.slice a len cap) ∧ wr.cell? ⟨W.heap.size, 0, none⟩ = some (.int .i64 c) ∧ Own B0 wr v ((halfF (sh xs) len k).map bare))) (fun _ i _ => len - (intOf i).toNat)
  case atStart => exact ⟨0, by omega, rfl, Lib.hid ⟨B2.out, by rw [HB0.out]; exact Nat.le_refl _, P1.out, P0.out, Own.nil _ _⟩⟩
  case round =>
    clear P0 P1 B2 HB0
    obtain ⟨k, hk, rfl, hR⟩ := hrel
    have OB := Lib.hid hR.out.2.2.2.2
    have BW := Lib.hid hR.out.1
    have SZ := Lib.hid hR.out.2.1
    have hp1 := hR.out.2.2.1
    have hp0 := hR.out.2.2.2.1
    clear hR
    by_cases hlt : k < len
    · have BK := Lib.hid (fun W h => BG.out k W h hlt)
      go_wp2_with fail
      refine (BK.out _ (HX.out.below BW.out)).mono ?_
      rintro e w3 ⟨rfl, b3⟩
      have W3 := Lib.hid (below_call BW.out b3)
      have V3 := Lib.hid (OB.out.below b3)
      have Z3 := Lib.hid (Nat.le_trans SZ.out b3.size)
      have P1 := Lib.hid ((b3.cell (p := ⟨W.heap.size, 1, none⟩) (lt_of_cell hp1)).trans hp1)
      have P0 := Lib.hid ((b3.cell (p := ⟨W.heap.size, 0, none⟩) (lt_of_cell hp0)).trans hp0)
      clear b3 BW OB SZ hp1 hp0
      obtain ⟨ti, hi1, hi2, hi3, hi4⟩ := info_blka
      have TI := Lib.hid (And.intro hi1 (And.intro hi2 (And.intro hi3 hi4)))
      clear hi1 hi2 hi3 hi4
      have LN := Lib.hid (halfF_len (sh xs) len k)
      cases hb : begB (sh xs) len (k : Int)
      · have hh := halfF_not (s := sh xs) (n := len) (i := k) hb
        obtain ⟨l, f, e1, e2⟩ := hh
        rw [e1] at V3 LN
        clear hb
        have E2 := Lib.hid e2
        clear e1 e2
        obtain ⟨g, cp, rfl, hg1, hg2, hg3⟩ := V3.out.form (by simp)
        have lm : ((l ++ [(⟨f, k, []⟩ : Bk)]).map bare).length = l.length + 1 := by simp
        have hm64 : l.length ≤ 64 := by have := LN.out; rw [List.length_append] at this; simp at this; omega
        rw [lm] at hg3 V3 ⊢
        have RW := Lib.hid (show w3.ownsRow B0 76 3 (.slice (some ⟨g, 0, none⟩) (l.length + 1) cp) (l.length + 1) (cellsOf ((l ++ [(⟨f, k, []⟩ : Bk)]).map bare)) from by have := V3.out.row; rw [lm] at this; exact this)
        clear lm LN
        have VW := V3
        have WW := W3
        have ZW := Z3
        have PW1 := P1
        have PW0 := P0
        clear V3 W3 Z3 P1 P0
        generalize hm : l.length = m at *
        have LM := Lib.hid hm; clear hm
        go_wp2_with (refine (halt_store 3 _ _ rfl ?_))
        refine ⟨?_, trivial⟩
        refine wpList_store_own1 rfl 3 _ _ rfl g (m * 3 + 1) (.int .i64 ((k : Int) + 1)) rfl rfl rfl rfl RW.out info_one' (by omega) ?_
        intro w4 r4 g4
        have V4 := Lib.hid (own_last VW.out LM.out r4 g4)
        have W4 := Lib.hid (WW.out.grown g4 (by have := WW.out.size; exact this) (fun j e => by injection e with e; omega))
        have Z4 := Lib.hid (Nat.le_trans ZW.out g4.size)
        have Q1 := Lib.hid (g4.cell PW1.out (fun e => by injection e with e; simp at e; omega))
        have Q0 := Lib.hid (g4.cell PW0.out (fun e => by injection e with e; simp at e; omega))
        clear r4 g4 VW WW ZW RW PW1 PW0
        go_wp2_with fail
        go_roundw
        case rel => exact ⟨k + 1, by omega, by go_num, Lib.hid ⟨W4.out, Z4.out, Q1.out, Q0.out, by rw [E2.out]; exact V4.out⟩⟩
        case measure => simp [intOf]; omega
      · have E2 := Lib.hid (halfF_beg (s := sh xs) (n := len) (i := k) hb)
        clear hb
        generalize halfF (sh xs) len k = l at *
        go_wp2_with (at_builtin; refine wpList_append_own_at _ rfl _ _ 60 rfl B0 76 ti _ 3 40 Try.underlying60 TI.out.1 TI.out.2.1 TI.out.2.2.1 TI.out.2.2.2 rfl (by decide) _ (l.map bare).length _ rfl (V3.out.below ((Below.refl _ w3).alloc (Nat.le_refl _) _)).row ⟨w3.heap.size, 0, none⟩ 1 1 (cell3 (bare ⟨(k : Int), 0, []⟩)) rfl rfl (cells_new w3 _ _) (cell3_one _) (by have := LN.out; rw [List.length_map]; unfold maxLen; omega) (by have := LN.out; rw [List.length_map]; omega) (by have := Z3.out; simp; omega) ?_)
        intro v7 w7 o7 g7 n7 l7
        have ball := Lib.hid ((Below.refl w3.heap.size w3).alloc (Nat.le_refl _) (.cells #[Value.int IntKind.i64 (k : Int), Value.int IntKind.i64 0, Value.slice none 0 0] 76))
        have V7 := Lib.hid (Own.append (V3.out.below ball.out) (p := bare ⟨(k : Int), 0, []⟩) (IntsAt.none _) (fun ad e => by cases e) (by rw [List.length_map]; exact o7) g7 (by simpa using l7))
        have hub : ∀ j, u6.ownBlock = some j → B0 ≤ j := fun j hj => (World.ownsRow.lt V3.out.row j hj).1
        have W7 := Lib.hid ((below_new W3.out (.cells #[Value.int IntKind.i64 (k : Int), Value.int IntKind.i64 0, Value.slice none 0 0] 76)).grown g7 (by have := W3.out.size; simp; omega) (fun j hj => by have := hub j hj; omega))
        have Z7 := Lib.hid (show B0 ≤ w7.heap.size by have := g7.size; have := Z3.out; simp at *; omega)
        have P71 := Lib.hid (g7.cell ((ball.out.cell (p := ⟨W.heap.size, 1, none⟩) (lt_of_cell P1.out)).trans P1.out) (fun e => by have := hub _ e.symm; simp at this; omega))
        have P70 := Lib.hid (g7.cell ((ball.out.cell (p := ⟨W.heap.size, 0, none⟩) (lt_of_cell P0.out)).trans P0.out) (fun e => by have := hub _ e.symm; simp at this; omega))
        have el : l.map bare ++ [bare ⟨(k : Int), 0, []⟩] = (l ++ [(⟨(k : Int), 0, []⟩ : Bk)]).map bare := by simp
        rw [el] at V7
        clear o7 g7 n7 l7 hub el ball V3 W3 Z3 P1 P0
        obtain ⟨g, cp, rfl, hg1, hg2, hg3⟩ := V7.out.form (by simp)
        have lm : ((l ++ [(⟨k, 0, []⟩ : Bk)]).map bare).length = l.length + 1 := by simp
        have hm64 : l.length ≤ 64 := by have := LN.out; omega
        rw [lm] at hg3 V7 ⊢
        have RW := Lib.hid (show w7.ownsRow B0 76 3 (.slice (some ⟨g, 0, none⟩) (l.length + 1) cp) (l.length + 1) (cellsOf ((l ++ [(⟨k, 0, []⟩ : Bk)]).map bare)) from by have := V7.out.row; rw [lm] at this; exact this)
        clear lm LN
        have VW := V7
        have WW := W7
        have ZW := Z7
        have PW1 := P71
        have PW0 := P70
        clear V7 W7 Z7 P71 P70
        generalize hm : l.length = m at *
        have LM := Lib.hid hm; clear hm
        go_wp2_with (refine (halt_store 3 _ _ rfl ?_))
        refine ⟨?_, trivial⟩
        refine wpList_store_own1 rfl 3 _ _ rfl g (m * 3 + 1) (.int .i64 ((k : Int) + 1)) rfl rfl rfl rfl RW.out info_one' (by omega) ?_
        intro w4 r4 g4
        have V4 := Lib.hid (own_last VW.out LM.out r4 g4)
        have W4 := Lib.hid (WW.out.grown g4 (by have := WW.out.size; exact this) (fun j e => by injection e with e; omega))
        have Z4 := Lib.hid (Nat.le_trans ZW.out g4.size)
        have Q1 := Lib.hid (g4.cell PW1.out (fun e => by injection e with e; simp at e; omega))
        have Q0 := Lib.hid (g4.cell PW0.out (fun e => by injection e with e; simp at e; omega))
        clear r4 g4 VW WW ZW RW PW1 PW0
        go_wp2_with fail
        go_roundw
        case rel => exact ⟨k + 1, by omega, by go_num, Lib.hid ⟨W4.out, Z4.out, Q1.out, Q0.out, by rw [E2.out]; exact V4.out⟩⟩
        case measure => simp [intOf]; omega
    · obtain rfl : k = len := by omega
      rw [halfF_end FN.out] at OB
      have hpos := bksF_pos FN.out
      have RB := Lib.hid (fun b x hx => run_blk (b := b) (x := x) FN.out hx)
      have hL64 : (bksF (sh xs) k k).length ≤ 64 := by have h1 := bksF_len (sh xs) k k; have h2 := cnt_le_self (beg (sh xs) k) (k + 1); omega
      have HJ := Lib.hid (show ∀ e, e < k → (sh xs).jumps e = decide ((xs e).kind = 3 ∨ (xs e).kind = 4) from fun e he => JK.out e he)
      have HT := Lib.hid (show ∀ e, (sh xs).to e = targetI e (xs e) from fun e => rfl)
      have HJ0 := Lib.hid (show ∀ e, (sh xs).jumps e = jumpsI e (xs e) from fun e => rfl)
      have NX := Lib.hid (show ∀ e, nextL (sh xs) k e = if (xs e).kind = 3 then [num (sh xs) k ((sh xs).to e), num (sh xs) k ((e : Int) + 1)] else if (sh xs).jumps e = true then [num (sh xs) k ((sh xs).to e)] else if (xs e).kind = 6 then [] else [num (sh xs) k ((e : Int) + 1)] from fun e => by
        unfold nextL
        rw [show (sh xs).cond e = decide ((xs e).kind = 3) from rfl, show (sh xs).exit e = decide ((xs e).kind = 6) from rfl]
        simp only [decide_eq_true_eq])
      obtain ⟨g, cp, rfl, hg1, hg2, hg3⟩ := OB.out.form (by simpa using Nat.lt_of_lt_of_le Nat.zero_lt_one hpos)
      generalize hnum : num (sh xs) k = nm at *
      generalize hbs : bksF (sh xs) k k = bs at *
      have HBS := Lib.hid hbs
      generalize sh xs = s at *
      clear BG FN JK hbs hnum
      have hps : (List.map bare (List.map strip bs)).length = bs.length := by simp
      rw [hps] at OB hg3 ⊢
      generalize hL : bs.length = L at *
      have HL := Lib.hid hL; clear hL
      obtain ⟨tj, hj1, hj2, hj3, hj4⟩ := info_inta
      have TJ := Lib.hid (And.intro hj1 (And.intro hj2 (And.intro hj3 hj4)))
      clear hj1 hj2 hj3 hj4 hps
      go_wp2_with fail
      go_loopw [8] (fun v wr2 => ∃ b : Nat, b ≤ L ∧ v = .int .i64 b ∧ Hid (Below W.heap.size W wr2 ∧ B0 ≤ wr2.heap.size ∧ wr2.cell? ⟨W.heap.size, 1, none⟩ = some (.slice a k cap) ∧ ∃ ds, ds.map (·.1) = bs.take b ∧ Own B0 wr2 (.slice (some ⟨g, 0, none⟩) L cp) (ds ++ ((bs.drop b).map strip).map bare))) (fun v _ => L - (intOf v).toNat)
      case atStart => exact ⟨0, by omega, rfl, Lib.hid ⟨BW.out, SZ.out, hp1, [], rfl, OB.out⟩⟩
      case round =>
        clear OB BW SZ hp1 hp0
        obtain ⟨b, hb, rfl, hR2⟩ := hrel
        obtain ⟨ds, hds, hown⟩ := hR2.out.2.2.2
        have hpc := hR2.out.2.2.1
        have BW := Lib.hid hR2.out.1
        have SZ := Lib.hid hR2.out.2.1
        clear hR2
        by_cases hbl : b < L
        · obtain ⟨x, hx⟩ : ∃ x, bs[b]? = some x := ⟨_, List.getElem?_eq_getElem (by have := HL.out; omega)⟩
          obtain ⟨e, he, hxe, hne, hto⟩ := RB.out b x hx
          have hdr : bs.drop b = x :: bs.drop (b + 1) := by
            have h1 := (List.getElem?_eq_some_iff.1 hx)
            obtain ⟨h1, h2⟩ := h1
            rw [← h2]; exact List.drop_eq_getElem_cons h1
          have htk : bs.take (b + 1) = bs.take b ++ [x] := by
            obtain ⟨h1, h2⟩ := List.getElem?_eq_some_iff.1 hx
            rw [← h2]; simp
          have hdl : ds.length = b := by
            have h1 := congrArg List.length hds
            rw [List.length_map, List.length_take] at h1
            have := HL.out; omega
          have hsp : (ds ++ ((bs.drop b).map strip).map bare).map (·.1) = bs.take b ++ (bs.drop b).map strip := by rw [List.map_append, hds]; simp [bare, Function.comp_def]
          have hof : ∀ i, ofL ((ds ++ ((bs.drop b).map strip).map bare).map (·.1)) i = ofL bs i := fun i => ofL_strip _ _ i (by
            rw [hsp, List.map_append, List.map_map, show strip ∘ strip = strip from rfl, ← List.map_append, List.take_append_drop])
          have hlen : (ds ++ ((bs.drop b).map strip).map bare).length = L := by simp; have := HL.out; omega
          obtain ⟨av, cv, eav, hblk⟩ := hown.blks
          injection eav with ea1 ea2 ea3
          subst ea1 ea3
          have OF := Lib.hid (fun i w bl => r_of _ _ _ _ i w (hblk.below (w := w) bl))
          rw [hlen] at OF
          simp only [hof] at OF
          rw [hdr] at hown hlen
          have X0 := Lib.hid (OwnX.of hlen hown)
          obtain ⟨c1, c2⟩ := X0.out.cells hdl
          have DS := Lib.hid hds
          have TK := Lib.hid htk
          have DL := Lib.hid hdl
          have XE := Lib.hid hxe
          have hxt : x.to = (e : Int) + 1 := by rw [hxe]
          have HB9 := Lib.hid hblk
          clear hds hdr htk hsp hof hlen hblk hown hx hdl ea2
          generalize hrest : ((bs.drop (b + 1)).map strip).map bare = rest at *
          have RE := Lib.hid hrest; clear hrest
          rw [show (bare (strip x)).1.to = (e : Int) + 1 from hxt] at c1
          clear hxe hxt
          have TG := Lib.hid (fun W => r_target e (xs e) W)
          rw [← HJ0.out, ← HT.out] at TG
          have hje := HJ.out e he
          have hnx := NX.out e
          have XNX := Lib.hid (show x.next = nextL s k e by rw [XE.out])
          obtain ⟨B, q, rfl, hcells⟩ := HX.out.here (by omega)
          have XK := Lib.hid (show ∀ w, Below W.heap.size W w → w.rangeAt B (q + e * 9) (xs e).cells.toList from fun w b => rangeAt_below b (hcells e he))
          have HA := Lib.hid (XK.out _ BW.out)
          have HI := Lib.hid (show (Try.prog.info? 46).map (·.size) = some (xs e).cells.toList.length from info_ins)
          have HK0 := Lib.hid (show (xs e).cells.toList[0]? = some (.int .i8 (xs e).kind) from rfl)
          clear hcells
          generalize hkd : (xs e).kind = kd at *
          clear hkd
          have z1 : IntKind.i64.wrap ((e : Int) + 1 - 1) = (e : Int) := by rw [IntWalk.i64_in _ (by omega)]; omega
          have z2 : IntKind.i64.wrap (e : Int) = (e : Int) := IntWalk.i64_in _ (by omega)
          have z3 : (0 : Int) ≤ (e : Int) := by omega
          have z4 : (e : Int) < (k : Int) := by omega
          have z5 : (0 : Int) ≤ (b : Int) := by omega
          have z6 : (b : Int) < (L : Int) := by omega
          have hcase : kd = 3 ∨ kd = 4 ∨ kd = 6 ∨ (¬ kd = 3 ∧ ¬ kd = 4 ∧ ¬ kd = 6) := by omega
          rcases hcase with rfl | rfl | rfl | ⟨h3, h4, h6⟩
          · as_aux_lemma =>
              have hj : s.jumps e = true := by rw [hje]; rfl
              obtain ⟨o1, o2, o3⟩ := hto hj
              rw [hj] at TG
              have OFt := Lib.hid (fun w bl => OF.out (s.to e) w bl)
              rw [o1] at OFt
              rw [if_pos rfl, hne] at hnx
              generalize s.to e = t at *
              generalize nm t = nt at *
              have hxn : x.next = nextL s k e := XNX.out
              have XN := Lib.hid (show x = ⟨x.fr, x.to, [nt, (b : Int) + 1]⟩ from by
                rw [← hxn.trans hnx])
              clear hj o1 hje hnx hxn hto hne OF
              go_wp2_with (with_reducible refine wpList_load_mid rfl 46 _ rfl B (q + e * 9) rfl (xs e).cells.toList _ HA.out Try.underlying46 rfl HI.out ?_)
              refine (TG.out _).mono ?_
              rintro e5 w5 ⟨rfl, b5⟩
              have W5 := Lib.hid (below_call BW.out b5)
              have Z5 := Lib.hid (Nat.le_trans SZ.out b5.size)
              have X5 := Lib.hid (X0.out.below b5)
              have p5 := (b5.cell (p := ⟨W.heap.size, 1, none⟩) (lt_of_cell hpc)).trans hpc
              have d2 : w5.cell? ⟨g, b * 3 + 2, none⟩ = some (.slice none 0 0) := (X5.out.cells DL.out).2
              have hg5 : g < w5.heap.size := (World.ownsRow.lt X5.out.row g rfl).2
              have hN5 : wr.heap.size ≤ w5.heap.size := b5.size
              have B5 := Lib.hid b5
              clear b5 c1 c2 hpc BW SZ X0 HA
              go_wp2_with fail
              refine (OFt.out _ B5.out).mono ?_
              rintro e6 w6 ⟨rfl, rfl⟩
              clear B5 OFt
              go_wp2_with (at_builtin; refine wpList_append_own_at _ rfl _ _ 72 rfl w5.heap.size 3 tj _ 1 8 Try.underlying72 TJ.out.1 TJ.out.2.1 TJ.out.2.2.1 TJ.out.2.2.2 rfl (by decide) _ 0 [] rfl (World.ownsRow_nil _ _ _ _) ⟨w5.heap.size, 0, none⟩ 1 1 [.int .i64 nt] rfl rfl (cells_new w5 _ _) (one_int _) (by unfold maxLen; omega) (by omega) (by simp) ?_)
              intro v1 x1 o1 g1 n1 l1
              have ball := Lib.hid ((Below.refl w5.heap.size w5).alloc (Nat.le_refl _) (.cells #[Value.int .i64 nt] 3))
              obtain ⟨g2, c2', rfl, q1, q2, q3⟩ := ints_own (zs := [nt]) (n := 1) o1 (by omega)
              have XA := Lib.hid ((X5.out.below ball.out).grown g1 (fun j e => by simp [Value.ownBlock] at e))
              have WA := Lib.hid ((below_new W5.out (.cells #[Value.int .i64 nt] 3)).grown g1 (by have := W5.out.size; simp; omega) (fun j e => by simp [Value.ownBlock] at e))
              have ZA := Lib.hid (show B0 ≤ x1.heap.size by have := g1.size; have := Z5.out; simp at *; omega)
              have PA := Lib.hid (g1.cell ((ball.out.cell (p := ⟨W.heap.size, 1, none⟩) (lt_of_cell p5)).trans p5) (fun e => by simp [Value.ownBlock] at e))
              have hne2 : g2 ≠ g := by omega
              have O1 := Lib.hid o1
              have Q3 := Lib.hid q3
              clear g1 n1 l1 o1 q3 p5 d2 W5 Z5 X5 ball
              go_wp2_with (refine (halt_store 72 _ _ rfl ?_))
              refine ⟨?_, trivial⟩
              refine wpList_store_own1 rfl 72 _ _ rfl g (b * 3 + 2) (.slice (some ⟨g2, 0, none⟩) 1 c2') rfl rfl rfl rfl XA.out.row info_nexts (by omega) ?_
              intro x2 r2 h2
              have XB := Lib.hid (XA.out.store (nx := [nt]) DL.out h2 r2)
              have IB := Lib.hid (Q3.out.grown h2 (fun ad e e2 => by injection e with e; injection e2 with e2; subst e; exact hne2 e2.symm))
              have WB := Lib.hid (WA.out.grown h2 (by exact WA.out.size) (fun j e => by injection e with e; omega))
              have ZB := Lib.hid (Nat.le_trans ZA.out h2.size)
              have hpB := h2.cell PA.out (fun e => by injection e with e; simp at e; omega)
              have O2 := Lib.hid (O1.out.kept h2 (.inr (fun e => hne2 (by injection e))))
              have hs2 : g2 < x2.heap.size := by have := h2.size; omega
              clear r2 h2 XA WA ZA PA O1 Q3 q2
              have hk5 := XK.out _ WB.out 0 (.int .i8 3) HK0.out
              rw [Nat.add_zero] at hk5
              have d3 := (XB.out.cells DL.out).2
              go_wp2_with (at_builtin; refine wpList_append_own_at _ rfl _ _ 72 rfl w5.heap.size 3 tj _ 1 8 Try.underlying72 TJ.out.1 TJ.out.2.1 TJ.out.2.2.1 TJ.out.2.2.2 rfl (by decide) _ 1 [.int .i64 nt] rfl (own_below O2.out ((Below.refl _ x2).alloc (Nat.le_refl _) _)) ⟨x2.heap.size, 0, none⟩ 1 1 [.int .i64 ((b : Int) + 1)] rfl rfl (cells_new x2 _ _) (one_int _) (by unfold maxLen; omega) (by omega) (by simp; omega) ?_)
              intro v3 x3 o3 g3 n3 l3
              have ball2 := Lib.hid ((Below.refl x2.heap.size x2).alloc (Nat.le_refl _) (.cells #[Value.int .i64 ((b : Int) + 1)] 3))
              have hrow2 : ∀ j, (Value.slice (some ⟨g2, 0, none⟩) 1 c2').ownBlock = some j → j = g2 := fun j e => by injection e with e; exact e.symm
              have XC := Lib.hid ((XB.out.below ball2.out).grown g3 (fun j e => ⟨by rw [hrow2 j e]; omega, by rw [hrow2 j e]; exact hne2⟩))
              have WC := Lib.hid ((below_new WB.out (.cells #[Value.int .i64 ((b : Int) + 1)] 3)).grown g3 (by have := WB.out.size; simp; omega) (fun j e => by rw [hrow2 j e]; omega))
              have ZC := Lib.hid (show B0 ≤ x3.heap.size by have := g3.size; have := ZB.out; simp at *; omega)
              have PC := Lib.hid (g3.cell ((ball2.out.cell (p := ⟨W.heap.size, 1, none⟩) (lt_of_cell hpB)).trans hpB) (fun e => by injection e with e; simp at e; omega))
              obtain ⟨g4, c4, rfl, s1, s2, s3⟩ := ints_own (zs := [nt, (b : Int) + 1]) (n := 2) o3 (by omega)
              have hne4 : g4 ≠ g := by omega
              have S3 := Lib.hid s3
              clear g3 n3 l3 o3 s3 ball2 XB IB WB ZB hpB O2 hk5 d3
              go_wp2_with (refine (halt_store 72 _ _ rfl ?_))
              refine ⟨?_, trivial⟩
              refine wpList_store_own1 rfl 72 _ _ rfl g (b * 3 + 2) (.slice (some ⟨g4, 0, none⟩) 2 c4) rfl rfl rfl rfl XC.out.row info_nexts (by omega) ?_
              intro x4 r4 h4
              have XD := Lib.hid (XC.out.store (nx := [nt, (b : Int) + 1]) DL.out h4 r4)
              have ID := Lib.hid (S3.out.grown h4 (fun ad e e2 => by injection e with e; injection e2 with e2; subst e; exact hne4 e2.symm))
              have WD := Lib.hid (WC.out.grown h4 (by exact WC.out.size) (fun j e => by injection e with e; omega))
              have ZD := Lib.hid (Nat.le_trans ZC.out h4.size)
              have PD := Lib.hid (h4.cell PC.out (fun e => by injection e with e; simp at e; omega))
              have hs4 : g4 < x4.heap.size := by have := h4.size; omega
              clear r4 h4 XC WC ZC PC S3
              go_wp2_with fail
              go_roundw
              case rel => exact ⟨b + 1, by omega, by go_num, Lib.hid ⟨WD.out, ZD.out, PD.out, ds ++ [(⟨x.fr, x.to, [nt, (b : Int) + 1]⟩, (some ⟨g4, 0, none⟩, c4))], by rw [List.map_append, DS.out, TK.out]; show _ ++ [_] = _; rw [← XN.out], by rw [RE.out, List.append_assoc]; exact XD.out.done ID.out (fun ad e => by injection e with e; subst e; exact ⟨hne4.symm, hs4⟩)⟩⟩
              case measure => simp [intOf]; omega
          · as_aux_lemma =>
              have hj : s.jumps e = true := by rw [hje]; rfl
              obtain ⟨o1, o2, o3⟩ := hto hj
              rw [hj] at TG
              have OFt := Lib.hid (fun w bl => OF.out (s.to e) w bl)
              rw [o1] at OFt
              rw [if_neg (by decide), if_pos hj] at hnx
              generalize s.to e = t at *
              generalize nm t = nt at *
              have hxn : x.next = nextL s k e := XNX.out
              have XN := Lib.hid (show x = ⟨x.fr, x.to, [nt]⟩ from by
                rw [← hxn.trans hnx])
              clear hj o1 hje hnx hxn hto hne OF
              go_wp2_with (with_reducible refine wpList_load_mid rfl 46 _ rfl B (q + e * 9) rfl (xs e).cells.toList _ HA.out Try.underlying46 rfl HI.out ?_)
              refine (TG.out _).mono ?_
              rintro e5 w5 ⟨rfl, b5⟩
              have W5 := Lib.hid (below_call BW.out b5)
              have Z5 := Lib.hid (Nat.le_trans SZ.out b5.size)
              have X5 := Lib.hid (X0.out.below b5)
              have p5 := (b5.cell (p := ⟨W.heap.size, 1, none⟩) (lt_of_cell hpc)).trans hpc
              have d2 : w5.cell? ⟨g, b * 3 + 2, none⟩ = some (.slice none 0 0) := (X5.out.cells DL.out).2
              have hg5 : g < w5.heap.size := (World.ownsRow.lt X5.out.row g rfl).2
              have hN5 : wr.heap.size ≤ w5.heap.size := b5.size
              have B5 := Lib.hid b5
              clear b5 c1 c2 hpc BW SZ X0 HA
              go_wp2_with fail
              refine (OFt.out _ B5.out).mono ?_
              rintro e6 w6 ⟨rfl, rfl⟩
              clear B5 OFt
              go_wp2_with (at_builtin; refine wpList_append_own_at _ rfl _ _ 72 rfl w5.heap.size 3 tj _ 1 8 Try.underlying72 TJ.out.1 TJ.out.2.1 TJ.out.2.2.1 TJ.out.2.2.2 rfl (by decide) _ 0 [] rfl (World.ownsRow_nil _ _ _ _) ⟨w5.heap.size, 0, none⟩ 1 1 [.int .i64 nt] rfl rfl (cells_new w5 _ _) (one_int _) (by unfold maxLen; omega) (by omega) (by simp) ?_)
              intro v1 x1 o1 g1 n1 l1
              have ball := Lib.hid ((Below.refl w5.heap.size w5).alloc (Nat.le_refl _) (.cells #[Value.int .i64 nt] 3))
              obtain ⟨g2, c2', rfl, q1, q2, q3⟩ := ints_own (zs := [nt]) (n := 1) o1 (by omega)
              have XA := Lib.hid ((X5.out.below ball.out).grown g1 (fun j e => by simp [Value.ownBlock] at e))
              have WA := Lib.hid ((below_new W5.out (.cells #[Value.int .i64 nt] 3)).grown g1 (by have := W5.out.size; simp; omega) (fun j e => by simp [Value.ownBlock] at e))
              have ZA := Lib.hid (show B0 ≤ x1.heap.size by have := g1.size; have := Z5.out; simp at *; omega)
              have PA := Lib.hid (g1.cell ((ball.out.cell (p := ⟨W.heap.size, 1, none⟩) (lt_of_cell p5)).trans p5) (fun e => by simp [Value.ownBlock] at e))
              have hne2 : g2 ≠ g := by omega
              have O1 := Lib.hid o1
              have Q3 := Lib.hid q3
              clear g1 n1 l1 o1 q3 p5 d2 W5 Z5 X5 ball
              go_wp2_with (refine (halt_store 72 _ _ rfl ?_))
              refine ⟨?_, trivial⟩
              refine wpList_store_own1 rfl 72 _ _ rfl g (b * 3 + 2) (.slice (some ⟨g2, 0, none⟩) 1 c2') rfl rfl rfl rfl XA.out.row info_nexts (by omega) ?_
              intro x2 r2 h2
              have XB := Lib.hid (XA.out.store (nx := [nt]) DL.out h2 r2)
              have IB := Lib.hid (Q3.out.grown h2 (fun ad e e2 => by injection e with e; injection e2 with e2; subst e; exact hne2 e2.symm))
              have WB := Lib.hid (WA.out.grown h2 (by exact WA.out.size) (fun j e => by injection e with e; omega))
              have ZB := Lib.hid (Nat.le_trans ZA.out h2.size)
              have hpB := h2.cell PA.out (fun e => by injection e with e; simp at e; omega)
              have O2 := Lib.hid (O1.out.kept h2 (.inr (fun e => hne2 (by injection e))))
              have hs2 : g2 < x2.heap.size := by have := h2.size; omega
              clear r2 h2 XA WA ZA PA O1 Q3 q2
              have hk5 := XK.out _ WB.out 0 (.int .i8 4) HK0.out
              rw [Nat.add_zero] at hk5
              go_wp2_with fail
              go_roundw
              case rel => exact ⟨b + 1, by omega, by go_num, Lib.hid ⟨WB.out, ZB.out, hpB, ds ++ [(⟨x.fr, x.to, [nt]⟩, (some ⟨g2, 0, none⟩, c2'))], by rw [List.map_append, DS.out, TK.out]; show _ ++ [_] = _; rw [← XN.out], by rw [RE.out, List.append_assoc]; exact XB.out.done IB.out (fun ad e => by injection e with e; subst e; exact ⟨hne2.symm, hs2⟩)⟩⟩
              case measure => simp [intOf]; omega
          · as_aux_lemma =>
              have hj : s.jumps e = false := by rw [hje]; rfl
              rw [hj] at TG
              rw [if_neg (by decide), if_neg (by rw [hj]; simp), if_pos rfl] at hnx
              have hxn : x.next = nextL s k e := XNX.out
              have XN := Lib.hid (show x = ⟨x.fr, x.to, []⟩ from by
                rw [← hxn.trans hnx])
              clear hj hje hnx hxn hto hne OF
              go_wp2_with (with_reducible refine wpList_load_mid rfl 46 _ rfl B (q + e * 9) rfl (xs e).cells.toList _ HA.out Try.underlying46 rfl HI.out ?_)
              refine (TG.out _).mono ?_
              rintro e5 w5 ⟨rfl, b5⟩
              have W5 := Lib.hid (below_call BW.out b5)
              have Z5 := Lib.hid (Nat.le_trans SZ.out b5.size)
              have X5 := Lib.hid (X0.out.below b5)
              have p5 := (b5.cell (p := ⟨W.heap.size, 1, none⟩) (lt_of_cell hpc)).trans hpc
              have d2 : w5.cell? ⟨g, b * 3 + 2, none⟩ = some (.slice none 0 0) := (X5.out.cells DL.out).2
              have hg5 : g < w5.heap.size := (World.ownsRow.lt X5.out.row g rfl).2
              have hN5 : wr.heap.size ≤ w5.heap.size := b5.size
              have B5 := Lib.hid b5
              clear b5 c1 c2 hpc BW SZ X0 HA
              have hk5 := XK.out _ W5.out 0 (.int .i8 6) HK0.out
              rw [Nat.add_zero] at hk5
              go_wp2_with fail
              go_roundw
              case rel => exact ⟨b + 1, by omega, by go_num, Lib.hid ⟨W5.out, Z5.out, p5, ds ++ [(⟨x.fr, x.to, []⟩, (none, 0))], by rw [List.map_append, DS.out, TK.out]; show _ ++ [_] = _; rw [← XN.out], by rw [RE.out, List.append_assoc]; exact X5.out.done (IntsAt.none _) (fun ad e => by cases e)⟩⟩
              case measure => simp [intOf]; omega
          · as_aux_lemma =>
              have hj : s.jumps e = false := by rw [hje]; exact decide_eq_false (by omega)
              rw [hj] at TG
              rw [if_neg h3, if_neg (by rw [hj]; simp), if_neg h6, hne] at hnx
              have hxn : x.next = nextL s k e := XNX.out
              have XN := Lib.hid (show x = ⟨x.fr, x.to, [(b : Int) + 1]⟩ from by
                rw [← hxn.trans hnx])
              have n4 : (kd != 4) = true := by simpa using h4
              have n6 : (kd != 6) = true := by simpa using h6
              clear hj hje hnx hxn hto hne OF h3 h4 h6
              go_wp2_with (with_reducible refine wpList_load_mid rfl 46 _ rfl B (q + e * 9) rfl (xs e).cells.toList _ HA.out Try.underlying46 rfl HI.out ?_)
              refine (TG.out _).mono ?_
              rintro e5 w5 ⟨rfl, b5⟩
              have W5 := Lib.hid (below_call BW.out b5)
              have Z5 := Lib.hid (Nat.le_trans SZ.out b5.size)
              have X5 := Lib.hid (X0.out.below b5)
              have p5 := (b5.cell (p := ⟨W.heap.size, 1, none⟩) (lt_of_cell hpc)).trans hpc
              have d2 : w5.cell? ⟨g, b * 3 + 2, none⟩ = some (.slice none 0 0) := (X5.out.cells DL.out).2
              have hg5 : g < w5.heap.size := (World.ownsRow.lt X5.out.row g rfl).2
              have hN5 : wr.heap.size ≤ w5.heap.size := b5.size
              have B5 := Lib.hid b5
              clear b5 c1 c2 hpc BW SZ X0 HA
              have hk5 := XK.out _ W5.out 0 (.int .i8 kd) HK0.out
              rw [Nat.add_zero] at hk5
              go_wp2_with (at_builtin; refine wpList_append_own_at _ rfl _ _ 72 rfl w5.heap.size 3 tj _ 1 8 Try.underlying72 TJ.out.1 TJ.out.2.1 TJ.out.2.2.1 TJ.out.2.2.2 rfl (by decide) _ 0 [] rfl (World.ownsRow_nil _ _ _ _) ⟨w5.heap.size, 0, none⟩ 1 1 [.int .i64 ((b : Int) + 1)] rfl rfl (cells_new w5 _ _) (one_int _) (by unfold maxLen; omega) (by omega) (by simp) ?_)
              intro v1 x1 o1 g1 n1 l1
              have ball := Lib.hid ((Below.refl w5.heap.size w5).alloc (Nat.le_refl _) (.cells #[Value.int .i64 ((b : Int) + 1)] 3))
              obtain ⟨g2, c2', rfl, q1, q2, q3⟩ := ints_own (zs := [((b : Int) + 1)]) (n := 1) o1 (by omega)
              have XA := Lib.hid ((X5.out.below ball.out).grown g1 (fun j e => by simp [Value.ownBlock] at e))
              have WA := Lib.hid ((below_new W5.out (.cells #[Value.int .i64 ((b : Int) + 1)] 3)).grown g1 (by have := W5.out.size; simp; omega) (fun j e => by simp [Value.ownBlock] at e))
              have ZA := Lib.hid (show B0 ≤ x1.heap.size by have := g1.size; have := Z5.out; simp at *; omega)
              have PA := Lib.hid (g1.cell ((ball.out.cell (p := ⟨W.heap.size, 1, none⟩) (lt_of_cell p5)).trans p5) (fun e => by simp [Value.ownBlock] at e))
              have hne2 : g2 ≠ g := by omega
              have O1 := Lib.hid o1
              have Q3 := Lib.hid q3
              clear g1 n1 l1 o1 q3 p5 d2 hk5 W5 Z5 X5 ball
              go_wp2_with (refine (halt_store 72 _ _ rfl ?_))
              refine ⟨?_, trivial⟩
              refine wpList_store_own1 rfl 72 _ _ rfl g (b * 3 + 2) (.slice (some ⟨g2, 0, none⟩) 1 c2') rfl rfl rfl rfl XA.out.row info_nexts (by omega) ?_
              intro x2 r2 h2
              have XB := Lib.hid (XA.out.store (nx := [((b : Int) + 1)]) DL.out h2 r2)
              have IB := Lib.hid (Q3.out.grown h2 (fun ad e e2 => by injection e with e; injection e2 with e2; subst e; exact hne2 e2.symm))
              have WB := Lib.hid (WA.out.grown h2 (by exact WA.out.size) (fun j e => by injection e with e; omega))
              have ZB := Lib.hid (Nat.le_trans ZA.out h2.size)
              have hpB := h2.cell PA.out (fun e => by injection e with e; simp at e; omega)
              have O2 := Lib.hid (O1.out.kept h2 (.inr (fun e => hne2 (by injection e))))
              have hs2 : g2 < x2.heap.size := by have := h2.size; omega
              clear r2 h2 XA WA ZA PA O1 Q3 q2
              go_wp2_with fail
              go_roundw
              case rel => exact ⟨b + 1, by omega, by go_num, Lib.hid ⟨WB.out, ZB.out, hpB, ds ++ [(⟨x.fr, x.to, [(b : Int) + 1]⟩, (some ⟨g2, 0, none⟩, c2'))], by rw [List.map_append, DS.out, TK.out]; show _ ++ [_] = _; rw [← XN.out], by rw [RE.out, List.append_assoc]; exact XB.out.done IB.out (fun ad e => by injection e with e; subst e; exact ⟨hne2.symm, hs2⟩)⟩⟩
              case measure => simp [intOf]; omega
        · obtain rfl : b = L := by omega
          have hd0 : bs.drop b = [] := List.drop_eq_nil_of_le (by have := HL.out; omega)
          have ht0 : bs.take b = bs := List.take_of_length_le (by have := HL.out; omega)
          rw [hd0] at hown
          rw [ht0] at hds
          rw [List.map_nil, List.map_nil, List.append_nil] at hown
          obtain ⟨av, cv, eav, hb9⟩ := hown.blks
          injection eav with ea1 ea2 ea3
          subst ea1 ea3
          rw [hds, ← ea2] at hb9
          have H9 := Lib.hid hb9
          clear hb9 hown hd0 ht0 hds
          go_wp2_with fail
          go_ret2
          show Ran _ _ _ _ _
          unfold Ran
          rw [HBS.out, HL.out]
          exact ⟨_, _, rfl, H9.out, BW.out⟩
end Go.Proofs.Ytpbaofidjikdhaa.Blk
