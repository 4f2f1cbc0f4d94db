/-
  Package instr: Decode.
-/
import Derived.Test.YtbpefomjmjkciaaInsX
import Derived.Deep.DeepCutAuto
namespace Go.Proofs.Ytbpefomjmjkciaa.Ins
open Go.RowKit
set_option linter.unusedVariables false
set_option maxRecDepth 100000

/-- A row of bytes that can be read. -/
structure Byt (W : World) (a : Option Addr) (len cap : Nat) (f : Nat → Int) : Prop where
  le : len ≤ cap
  fit : cap ≤ 9223372036854775807
  here : 0 < len → ∃ b o, a = some ⟨b, o, none⟩ ∧ ∀ j, j < len → W.cell? ⟨b, o + j, none⟩ = some (.int .u8 (f j))
  bd : ∀ j, j < len → 0 ≤ f j ∧ f j < 256
theorem Byt.below {W w : World} {a : Option Addr} {len cap : Nat} {f : Nat → Int} (h : Byt W a len cap f) (b : Below W.heap.size W w) : Byt w a len cap f :=
  ⟨h.le, h.fit, fun hp => by
    obtain ⟨b', o, e, hc⟩ := h.here hp
    exact ⟨b', o, e, fun j hj => (b.cell (p := ⟨b', o + j, none⟩) (lt_of_cell (hc j hj))).trans (hc j hj)⟩, h.bd⟩

def limI (c : Int) (m : Nat) : Int := if c < 0 ∨ 256 < c then 2 else if (m : Int) < 1 ∨ 64 < (m : Int) then 3 else 0
def tailF (f : Nat → Int) (j : Nat) : Int := f (2 + j)
/-- What is wrong with bytes as a program, and where. -/
def decR (len : Nat) (f : Nat → Int) : Int × Int :=
  if len < 2 ∨ (len - 2) % 8 ≠ 0 then (0, 30)
  else if limI (getI f 2) ((len - 2) / 8) ≠ 0 then (0, limI (getI f 2) ((len - 2) / 8))
  else if (firstF (rsI (tailF f)) ((len - 2) / 8) 0).2 ≠ 0 then firstF (rsI (tailF f)) ((len - 2) / 8) 0
  else checkI (getI f 2) ((len - 2) / 8) (xsI (tailF f))

/-- What Decode yields where it fails. -/
def DecNo (at_ r : Int) (W : World) (e : Ending) (w' : World) : Prop := e = .returned (.tuple #[.agg #[.int .i64 0, .slice none 0 0], .int .i64 at_, .int .i64 r]) ∧ Below W.heap.size W w'
/-- Where it does not. -/
def DecYes (c : Int) (m : Nat) (xs : Nat → In) (W : World) (e : Ending) (w' : World) : Prop := ∃ a cap, e = .returned (.tuple #[.agg #[.int .i64 c, .slice a m cap], .int .i64 0, .int .i64 0]) ∧ Insts w' a m cap xs ∧ Below W.heap.size W w'

set_option maxHeartbeats 4000000 in
theorem decode_code (a : Option Addr) (len cap : Nat) (f : Nat → Int) (W : World) (h : Byt W a len cap f) (h0 : len < 2 ∨ (len - 2) % 8 ≠ 0) :
    Calls Try.prog 14 #[.slice a len cap] W (DecNo 0 30 W) := by
  have h1 := h.le
  have h2 := h.fit
  clear h
  unfold DecNo
  have e1 : decide ((len : Int) < 2) = true ∨ (decide ((len : Int) < 2) = false ∧ (Int.tmod ((len : Int) - 2) 8 != 0) = true) := by
    by_cases hl : len < 2
    · exact .inl (decide_eq_true (by omega))
    · refine .inr ⟨decide_eq_false (by omega), ?_⟩
      have h3 : ¬ (len - 2) % 8 = 0 := h0.resolve_left hl
      have h4 : Int.tmod ((len : Int) - 2) 8 = (((len - 2) % 8 : Nat) : Int) := by
        rw [show ((len : Int) - 2) = ((len - 2 : Nat) : Int) by omega]
        rfl
      rw [h4]
      simp
      omega
  clear h0
  rcases e1 with e1 | ⟨e1, e2⟩
  · go_enter Try.func14, Try.ntmps14
    go_wp2
    refine bodyPost_ret (v := .tuple #[.agg #[.int .i64 0, .slice none 0 0], .int .i64 0, .int .i64 30]) (by simp [results, Try.results14, go_sem]) rfl ⟨rfl, below_new (Below.refl _ _) _⟩
  · go_enter Try.func14, Try.ntmps14
    go_wp2
    refine bodyPost_ret (v := .tuple #[.agg #[.int .i64 0, .slice none 0 0], .int .i64 0, .int .i64 30]) (by simp [results, Try.results14, go_sem]) rfl ⟨rfl, below_new (Below.refl _ _) _⟩

/-- Behind Decode's first statements. -/
structure DecBox (W : World) (c : Int) (w : World) : Prop where
  res : w.heap[W.heap.size]? = some (.cells #[.int .i64 0, .slice none 0 0] 32 (0, 0))
  box : w.heap[W.heap.size + 1]? = some (.cells #[.int .i64 c, .slice none 0 0] 32 (0, 0))
  below : Below W.heap.size W w

theorem ok_xsI (f : Nat → Int) (k : Nat) (h : ∀ i, i < 8 → 0 ≤ f (8 * k + i) ∧ f (8 * k + i) < 256) : (xsI f k).Ok := by
  have hb := getI_bd (fun i => f (8 * k + i)) 8 h
  unfold xsI readI numI
  split
  · exact Ok_unpack _ hb.1 (by have := hb.2; simpa using this)
  · exact ⟨by decide, by decide, by decide, by decide, by decide, by decide, by decide, by decide⟩
theorem heap_drew2 (w : World) (k : Nat) : w.drew.heap[k]? = w.heap[k]? := rfl
theorem info_prog2 : (Try.prog.info? 32).map (·.size) = some 2 := by kernel_rfl
def DecAs (len : Nat) (f : Nat → Int) (W : World) (e : Ending) (w' : World) : Prop :=
  ((decR len f).2 ≠ 0 → DecNo (decR len f).1 (decR len f).2 W e w') ∧ ((decR len f).2 = 0 → DecYes (getI f 2) ((len - 2) / 8) (xsI (tailF f)) W e w')

set_option maxHeartbeats 8000000 in
theorem decode_main (a : Option Addr) (m cap : Nat) (f : Nat → Int) (W : World) (h : Byt W a (2 + 8 * m) cap f) :
    Calls Try.prog 14 #[.slice a (2 + 8 * m) cap] W (DecAs (2 + 8 * m) f W) := by
  have h1 := h.le
  have h2 := h.fit
  obtain ⟨b, o, rfl, hc⟩ := h.here (by omega)
  have hb : b < W.heap.size := lt_of_cell (hc 0 (by omega))
  have G := Lib.hid (fun (w : World) (bb : Below W.heap.size W w) => get_few b o 2 cap f w (by omega) (by omega) h2 (fun i hi => h.bd i (by omega)) (fun i hi => (bb.cell (p := ⟨b, o + i, none⟩) hb).trans (hc i (by omega))))
  have gb := getI_bd f 2 (fun i hi => h.bd i (by omega))
  have g0 := gb.1
  have g1 : getI f 2 < 65536 := by have := gb.2; simpa using this
  have TB := Lib.hid (show ∀ j, j < 8 * m → 0 ≤ tailF f j ∧ tailF f j < 256 from fun j hj => h.bd (2 + j) (by omega))
  have TC := Lib.hid (show ∀ w, Below W.heap.size W w → ∀ j, j < 8 * m → w.cell? ⟨b, o + 2 + j, none⟩ = some (.int .u8 (tailF f j)) from fun w bb j hj => by
    have := (bb.cell (p := ⟨b, o + (2 + j), none⟩) hb).trans (hc (2 + j) (by omega))
    rw [← Nat.add_assoc] at this
    exact this)
  have OK := Lib.hid (show ∀ i, i < m → (xsI (tailF f) i).Ok from fun i hi => ok_xsI _ _ (fun j hj => TB.out _ (by omega)))
  clear h hc gb
  have q8 : (2 + 8 * m - 2) / 8 = m := by omega
  have D0 := Lib.hid (show limI (getI f 2) m ≠ 0 → decR (2 + 8 * m) f = (0, limI (getI f 2) m) from fun h => by
    unfold decR; rw [if_neg (by omega), q8, if_pos h])
  have D1 := Lib.hid (show limI (getI f 2) m = 0 → (firstF (rsI (tailF f)) m 0).2 ≠ 0 → decR (2 + 8 * m) f = firstF (rsI (tailF f)) m 0 from fun h h' => by
    unfold decR; rw [if_neg (by omega), q8, if_neg (by rw [h]; simp), if_pos h'])
  have D2 := Lib.hid (show limI (getI f 2) m = 0 → (firstF (rsI (tailF f)) m 0).2 = 0 → decR (2 + 8 * m) f = checkI (getI f 2) m (xsI (tailF f)) from fun h h' => by
    unfold decR; rw [if_neg (by omega), q8, if_neg (by rw [h]; simp), if_neg (by rw [h']; simp)])
  have GOAL := Lib.hid (show ∀ e w', ((decR (2 + 8 * m) f).2 ≠ 0 → DecNo (decR (2 + 8 * m) f).1 (decR (2 + 8 * m) f).2 W e w') → ((decR (2 + 8 * m) f).2 = 0 → DecYes (getI f 2) m (xsI (tailF f)) W e w') → DecAs (2 + 8 * m) f W e w' from fun e w' ha hb => ⟨ha, by rw [q8]; exact hb⟩)
  have LM := Lib.hid (fun W => limits_any (getI f 2) (m : Int) W)
  have LI := Lib.hid (show limI (getI f 2) m = 0 → getI f 2 ≤ 256 ∧ 1 ≤ m ∧ m ≤ 64 from fun h => by
    unfold limI at h
    split at h
    · cases h
    · split at h
      · cases h
      · omega)
  have CK := Lib.hid (fun a cap w (h : Insts w a m cap (xsI (tailF f))) => check_any (getI f 2) a m cap (xsI (tailF f)) w h)
  generalize hR : decR (2 + 8 * m) f = R at *
  clear hR
  generalize hA : DecAs (2 + 8 * m) f W = PA at *
  clear hA
  generalize getI f 2 = c at *
  change Hid (∀ W, Calls _ _ _ _ fun e w' => e = .returned (.int .i64 (limI c m)) ∧ _) at LM
  generalize limI c m = lr at *
  have e1 : decide (((2 + 8 * m : Nat) : Int) < 2) = false := decide_eq_false (by omega)
  have t1 : ((2 + 8 * m : Nat) : Int) - 2 = ((8 * m : Nat) : Int) := by omega
  have t2 : (((8 * m : Nat) : Int).tmod 8 != 0) = false := by
    rw [show ((8 * m : Nat) : Int).tmod 8 = ((8 * m % 8 : Nat) : Int) from rfl, Nat.mul_mod_right]; rfl
  have t3 : ((8 * m : Nat) : Int).tdiv 8 = (m : Int) := by
    rw [show ((8 * m : Nat) : Int).tdiv 8 = ((8 * m / 8 : Nat) : Int) from rfl]; omega
  have hL2 : 2 ≤ 2 + 8 * m := by omega
  have hL3 : (2 : Int) ≤ ((2 + 8 * m : Nat) : Int) := by omega
  have hL8 : 2 + 8 * m - 2 = 8 * m := by omega
  generalize hL : 2 + 8 * m = L at *
  have wcc : IntKind.i64.wrap c = c := by unfold IntKind.wrap; simp [IntKind.bits, IntKind.signed]; omega
  go_enter Try.func14, Try.ntmps14
  go_upto_region 3 with fail
  go_cut [5, 6] (fun p r wx => p = .pointer (some ⟨W.heap.size + 1, 0, none⟩) ∧ (∃ ra, r = .slice ra (8 * m) (cap - 2) ∧ (2 < cap → ra = some ⟨b, o + 2, none⟩)) ∧ Hid (DecBox W c wx))
  case first =>
    by_cases hc2 : cap = 2
    · subst hc2
      obtain rfl : m = 0 := by omega
      obtain rfl : L = 2 := by omega
      go_region_with (go_at_call 46; refine (G.out _ ?_).mono ?_; (focus (repeat' (first | exact Below.refl _ _ | refine below_new ?_ _ | refine Below.drew ?_))); rintro e w' ⟨rfl, rfl⟩)
      all_goals
        go_wp2_with fail
        go_meet
        exact ⟨rfl, ⟨_, rfl, fun h => absurd h (by omega)⟩, Lib.hid ⟨(heap_drew2 _ _).trans ((heap_past _ _ _ (by simp)).trans (heap_last W _ _ rfl)), (heap_drew2 _ _).trans (heap_last _ _ _ (by simp)), Below.drew (below_new (below_new (Below.refl _ _) _) _)⟩⟩
    · have hc3 : 2 < cap := by omega
      go_region_with (go_at_call 46; refine (G.out _ ?_).mono ?_; (focus (repeat' (first | exact Below.refl _ _ | refine below_new ?_ _ | refine Below.drew ?_))); rintro e w' ⟨rfl, rfl⟩)
      all_goals
        go_wp2_with fail
        go_meet
        exact ⟨rfl, ⟨_, rfl, fun _ => rfl⟩, Lib.hid ⟨(heap_drew2 _ _).trans ((heap_past _ _ _ (by simp)).trans (heap_last W _ _ rfl)), (heap_drew2 _ _).trans (heap_last _ _ _ (by simp)), Below.drew (below_new (below_new (Below.refl _ _) _) _)⟩⟩
  case rest =>
    obtain ⟨rfl, ⟨ra, rfl, hra⟩, HB⟩ := hcut
    clear G e1 t1 t2 hL2 hL3 wcc
    have hz := HB.out.below.size
    have hz2 : W.heap.size + 1 < wc.heap.size := (Array.getElem?_eq_some_iff.1 HB.out.box).1
    have p0 : wc.cell? ⟨W.heap.size + 1, 0, none⟩ = some (.int .i64 c) := by simp [World.cell?, HB.out.box]
    go_wp2_with fail
    refine (LM.out _).mono ?_
    rintro e w1 ⟨rfl, rfl⟩
    clear LM p0
    by_cases h0 : lr = 0
    case neg =>
      have e0 : (lr != 0) = true := by simpa using h0
      have RR : R = (0, lr) := D0.out h0
      have FIN := Lib.hid (fun w' (b : Below W.heap.size W w') => GOAL.out (.returned (.tuple #[.agg #[.int .i64 0, .slice none 0 0], .int .i64 0, .int .i64 lr])) w' (fun _ => by rw [RR]; exact ⟨rfl, b⟩) (fun h => absurd h (by rw [RR]; exact h0)))
      clear GOAL D0 D1 D2 RR CK TB TC OK LI h0
      go_wp2_with (with_reducible refine (halt_store 32 _ _ rfl ?_))
      refine ⟨?_, trivial⟩
      refine wpList_store_is rfl 32 _ _ rfl W.heap.size #[.int .i64 0, .slice none 0 0] rfl rfl 32 _ HB.out.res info_prog2 rfl (by simp [Value.oneCell']) ?_
      intro w7 s7
      have r0 : w7.cell? ⟨W.heap.size, 0, none⟩ = some (.int .i64 0) := (s7.cell 0).trans rfl
      have r1 : w7.cell? ⟨W.heap.size, 1, none⟩ = some (.slice none 0 0) := (s7.cell 1).trans rfl
      have B7 := Lib.hid (s7.below HB.out.below (Nat.le_refl _))
      clear s7 HB
      go_wp2_with fail
      refine bodyPost_ret (v := .tuple #[.agg #[.int .i64 0, .slice none 0 0], .int .i64 0, .int .i64 lr]) (by simp [results, Try.results14, go_sem, r0, r1]) rfl (FIN.out _ B7.out)
    case pos =>
      subst h0
      obtain ⟨hc256, hm1, hm64⟩ := LI.out rfl
      obtain rfl := hra (by omega)
      have D1' := Lib.hid (D1.out rfl)
      have D2' := Lib.hid (D2.out rfl)
      clear D0 D1 D2 LI hra
      have hmf : ∀ (fn : Fn) (first cap : Array Value) (w : World), (Instr.makeFunc fn first cap).run Try.prog w = .ok (.func fn first cap) w := fun _ _ _ _ => rfl
      go_wp2_with fail
      refine (chunk_any _ _ _ _).mono ?_
      rintro e w2 ⟨rfl, rfl⟩
      have CO := Lib.hid (collect_any wc.heap.size (wc.heap.size + 1) b (o + 2) m (cap - 2) hm64 (by omega) (by omega) ((wc.alloc (.cells #[.slice (some ⟨b, o + 2, none⟩) (8 * m) (cap - 2)] 22)).alloc (.cells #[.int .i64 8] 3)) (by simp; omega) (by simp)
        (by rw [show ((wc.alloc (.cells #[.slice (some ⟨b, o + 2, none⟩) (8 * m) (cap - 2)] 22)).alloc (.cells #[.int .i64 8] 3)).cell? ⟨wc.heap.size, 0, none⟩ = _ from World.cell?_of_block (heap_past _ _ _ (by simp))]; simp) (by simp))
      have B2 := Lib.hid (below_new (below_new (Below.refl wc.heap.size wc) (.cells #[.slice (some ⟨b, o + 2, none⟩) (8 * m) (cap - 2)] 22)) (.cells #[.int .i64 8] 3))
      go_wp2_with fail
      refine CO.out.mono ?_
      rintro e w3 ⟨v3, rfl, o3, b3⟩
      have b3' := below_call B2.out b3
      have B3 := Lib.hid (below_call HB.out.below b3')
      have R3 := Lib.hid ((b3'.block W.heap.size (by omega)).trans HB.out.res)
      have P3 := (b3'.block (W.heap.size + 1) hz2).trans HB.out.box
      obtain ⟨g, cr, rfl⟩ : ∃ g cr, v3 = .slice (some ⟨g, 0, none⟩) m cr := by
        rcases o3.2 with ⟨_, h⟩ | ⟨g, cr, _, e, _⟩
        · omega
        · exact ⟨g, cr, e⟩
      have hgw := World.ownsRow.lt o3 g rfl
      have hg1 : wc.heap.size < g := by have := hgw.1; simp at this; omega
      have hcr : m ≤ cr ∧ cr ≤ 9223372036854775807 := by
        rcases o3.2 with ⟨e, _⟩ | ⟨_, _, _, e, _, _, h4, h5, _⟩
        · cases e
        · injection e with _ _ e; subst e; unfold maxLen at h5; exact ⟨h4, h5⟩
      have hs3 : W.heap.size + 1 < w3.heap.size := by have := b3'.size; omega
      have FD := Lib.hid (first_dec w3 (W.heap.size + 1) g b (o + 2) m cr c (tailF f) hm64 hcr.1 hcr.2 hs3 (by omega) (by omega) P3
        (fun k hk => by rw [o3.cellAt k (by omega)]; simp [upto, hk]) TB.out (TC.out w3 B3.out))
      clear o3 b3 b3' CO B2 HB TB TC hgw hg1
      unfold FirstDec at FD
      generalize firstF (rsI (tailF f)) m 0 = F at *
      obtain ⟨fa, fe⟩ := F
      simp only at FD D1' D2'
      go_wp2_with fail
      refine FD.out.mono ?_
      rintro e w4 ⟨rfl, k, hk, H4⟩
      have B4 := Lib.hid (B3.out.grown H4.grown B3.out.size (fun j e => by injection e with e; omega))
      have R4 := Lib.hid ((H4.grown.block W.heap.size (by omega) (fun e => by injection e with e; omega)).trans R3.out)
      have HH := Lib.hid H4
      have HK := Lib.hid hk
      clear FD H4 hk R3 B3 P3
      by_cases h1 : fe = 0
      case neg =>
        have e0 : (fe == 0) = false := by simpa using h1
        have e1 : (fe != 0) = true := by simpa using h1
        have RR : R = (fa, fe) := D1'.out h1
        have FIN := Lib.hid (fun w' (b : Below W.heap.size W w') => GOAL.out (.returned (.tuple #[.agg #[.int .i64 0, .slice none 0 0], .int .i64 fa, .int .i64 fe])) w' (fun _ => by rw [RR]; exact ⟨rfl, b⟩) (fun h => absurd h (by rw [RR]; exact h1)))
        clear GOAL D1' D2' RR CK OK h1 HH HK
        go_wp2_with (with_reducible refine (halt_store 32 _ _ rfl ?_))
        refine ⟨?_, trivial⟩
        refine wpList_store_is rfl 32 _ _ rfl W.heap.size #[.int .i64 0, .slice none 0 0] rfl rfl 32 _ R4.out info_prog2 rfl (by simp [Value.oneCell']) ?_
        intro w7 s7
        have r0 : w7.cell? ⟨W.heap.size, 0, none⟩ = some (.int .i64 0) := (s7.cell 0).trans rfl
        have r1 : w7.cell? ⟨W.heap.size, 1, none⟩ = some (.slice none 0 0) := (s7.cell 1).trans rfl
        have B7 := Lib.hid (s7.below B4.out (Nat.le_refl _))
        clear s7 R4 B4
        go_wp2_with fail
        refine bodyPost_ret (v := .tuple #[.agg #[.int .i64 0, .slice none 0 0], .int .i64 fa, .int .i64 fe]) (by simp [results, Try.results14, go_sem, r0, r1]) rfl (FIN.out _ B7.out)
      case pos =>
        subst h1
        obtain rfl := HK.out rfl
        obtain ⟨v5, hP5, hO5⟩ := HH.out.row
        obtain ⟨gv, cv, rfl, hgv, hI5⟩ := own_insts hO5 (by omega) OK.out
        have I5 := Lib.hid hI5
        have D3 := Lib.hid (D2'.out rfl)
        have P5 := Lib.hid hP5
        have C5 := Lib.hid (CK.out _ _ _ hI5)
        have hb5 : W.heap.size + 1 < w4.heap.size := (Array.getElem?_eq_some_iff.1 hP5).1
        have q0 : w4.cell? ⟨W.heap.size + 1, 0, none⟩ = some (.int .i64 c) := by simp [World.cell?, hP5]
        have q1 : w4.cell? ⟨W.heap.size + 1, 1, none⟩ = some (.slice (some ⟨gv, 0, none⟩) k cv) := by simp [World.cell?, hP5]
        clear hP5 hO5 hI5 HH HK D1' D2' CK
        generalize checkI c k (xsI (tailF f)) = cq at *
        obtain ⟨ca, ce⟩ := cq
        simp only at C5
        go_wp2_with fail
        refine C5.out.mono ?_
        rintro e w6 ⟨rfl, b6⟩
        have B6 := Lib.hid (below_call B4.out b6)
        have R6 := Lib.hid ((b6.block W.heap.size (by omega)).trans R4.out)
        have P6 := Lib.hid ((b6.block (W.heap.size + 1) hb5).trans P5.out)
        have I6 := Lib.hid (I5.out.below b6)
        have z0 := (b6.cell (p := ⟨W.heap.size + 1, 0, none⟩) hb5).trans q0
        have z1 := (b6.cell (p := ⟨W.heap.size + 1, 1, none⟩) hb5).trans q1
        clear b6 R4 P5 I5 B4 C5 q0 q1
        by_cases h2 : ce = 0
        case neg =>
          have e1 : (ce != 0) = true := by simpa using h2
          have FIN := Lib.hid (fun w' (b : Below W.heap.size W w') => GOAL.out (.returned (.tuple #[.agg #[.int .i64 0, .slice none 0 0], .int .i64 ca, .int .i64 ce])) w' (fun _ => by rw [D3.out]; exact ⟨rfl, b⟩) (fun h => absurd h (by rw [D3.out]; exact h2)))
          clear GOAL D3 OK h2 I6
          go_wp2_with (with_reducible refine (halt_store 32 _ _ rfl ?_))
          refine ⟨?_, trivial⟩
          refine wpList_store_is rfl 32 _ _ rfl W.heap.size #[.int .i64 0, .slice none 0 0] rfl rfl 32 _ R6.out info_prog2 rfl (by simp [Value.oneCell']) ?_
          intro w7 s7
          have r0 : w7.cell? ⟨W.heap.size, 0, none⟩ = some (.int .i64 0) := (s7.cell 0).trans rfl
          have r1 : w7.cell? ⟨W.heap.size, 1, none⟩ = some (.slice none 0 0) := (s7.cell 1).trans rfl
          have B7 := Lib.hid (s7.below B6.out (Nat.le_refl _))
          clear s7 R6 B6
          go_wp2_with fail
          refine bodyPost_ret (v := .tuple #[.agg #[.int .i64 0, .slice none 0 0], .int .i64 ca, .int .i64 ce]) (by simp [results, Try.results14, go_sem, r0, r1]) rfl (FIN.out _ B7.out)
        case pos =>
          subst h2
          have FIN := Lib.hid (fun w' (b : Below W.heap.size W w') (i : Insts w' (some ⟨gv, 0, none⟩) k cv (xsI (tailF f))) => GOAL.out (.returned (.tuple #[.agg #[.int .i64 c, .slice (some ⟨gv, 0, none⟩) k cv], .int .i64 0, .int .i64 0])) w' (fun h => absurd (by rw [D3.out]) h) (fun _ => ⟨_, _, rfl, i, b⟩))
          clear GOAL D3 OK
          go_wp2_with (with_reducible refine (halt_store 32 _ _ rfl ?_))
          refine ⟨?_, trivial⟩
          refine wpList_store_is rfl 32 _ _ rfl W.heap.size #[.int .i64 c, .slice (some ⟨gv, 0, none⟩) k cv] rfl rfl 32 _ R6.out info_prog2 rfl (by simp [Value.oneCell']) ?_
          intro w7 s7
          have r0 : w7.cell? ⟨W.heap.size, 0, none⟩ = some (.int .i64 c) := (s7.cell 0).trans rfl
          have r1 : w7.cell? ⟨W.heap.size, 1, none⟩ = some (.slice (some ⟨gv, 0, none⟩) k cv) := (s7.cell 1).trans rfl
          have B7 := Lib.hid (s7.below B6.out (Nat.le_refl _))
          have I7 := Lib.hid (show Insts w7 (some ⟨gv, 0, none⟩) k cv (xsI (tailF f)) from ⟨I6.out.le, I6.out.fit, fun hp => by
            obtain ⟨b', o', e, hc⟩ := I6.out.here hp
            injection e with e
            injection e with e1 e2
            subst e1 e2
            refine ⟨_, _, rfl, fun i hi j u hu => ?_⟩
            have := hc i hi j u hu
            rw [← this]
            exact World.cell?_of_block (s7.other _ (by simp only; omega)), I6.out.ok⟩)
          clear s7 R6 B6 I6 P6
          go_wp2_with fail
          refine bodyPost_ret (v := .tuple #[.agg #[.int .i64 c, .slice (some ⟨gv, 0, none⟩) k cv], .int .i64 0, .int .i64 0]) (by simp [results, Try.results14, go_sem, r0, r1]) rfl (FIN.out _ B7.out I7.out)

theorem decode_any (a : Option Addr) (len cap : Nat) (f : Nat → Int) (W : World) (h : Byt W a len cap f) :
    Calls Try.prog 14 #[.slice a len cap] W (DecAs len f W) := by
  by_cases h0 : len < 2 ∨ (len - 2) % 8 ≠ 0
  · have e : decR len f = (0, 30) := by unfold decR; rw [if_pos h0]
    refine (decode_code a len cap f W h h0).mono fun e' w' hn => ⟨fun _ => by rw [e]; exact hn, fun h => by rw [e] at h; cases h⟩
  · obtain ⟨m, rfl⟩ : ∃ m, len = 2 + 8 * m := ⟨(len - 2) / 8, by omega⟩
    exact decode_main a m cap f W h
end Go.Proofs.Ytbpefomjmjkciaa.Ins
