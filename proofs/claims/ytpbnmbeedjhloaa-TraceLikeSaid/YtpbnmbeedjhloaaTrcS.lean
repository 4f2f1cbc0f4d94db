/-
  Package trace: Copy.
-/
import Derived.Test.YtpbnmbeedjhloaaTrcR
namespace Go.Proofs.Ytpbnmbeedjhloaa.Trc
open Go.RowKit Go.Maps
set_option linter.unusedVariables false
set_option maxRecDepth 100000

/-- Five values in a block of their own. -/
structure BoxV (w : World) (b : Nat) (v0 v1 v2 v3 v4 : Value) : Prop where
  c0 : w.cell? ⟨b, 0, none⟩ = some v0
  c1 : w.cell? ⟨b, 1, none⟩ = some v1
  c2 : w.cell? ⟨b, 2, none⟩ = some v2
  c3 : w.cell? ⟨b, 3, none⟩ = some v3
  c4 : w.cell? ⟨b, 4, none⟩ = some v4
  fz : ∀ i, w.frozen? ⟨b, i, none⟩ = false
theorem BoxF.v {w : World} {b : Nat} {x : Out} {ca ta : Option Addr} {cc tc : Nat} (h : BoxF w b x ca cc ta tc) : BoxV w b (.int .i8 x.kind) (.int .u64 x.r0) (.slice ca x.ctx.length cc) (.slice ta x.tr.length tc) (.int .i64 x.left) := ⟨h.c0, h.c1, h.c2, h.c3, h.c4, h.fz⟩
section
variable {w w' : World} {b : Nat} {v0 v1 v2 v3 v4 : Value}
theorem BoxV.lt (h : BoxV w b v0 v1 v2 v3 v4) : b < w.heap.size := lt_of_cell h.c0
theorem BoxV.below (h : BoxV w b v0 v1 v2 v3 v4) (k : Below w.heap.size w w') : BoxV w' b v0 v1 v2 v3 v4 :=
  ⟨(k.cell h.lt).trans h.c0, (k.cell h.lt).trans h.c1, (k.cell h.lt).trans h.c2, (k.cell h.lt).trans h.c3, (k.cell h.lt).trans h.c4, fun i => (k.frozen (p := ⟨b, i, none⟩) h.lt).trans (h.fz i)⟩
theorem BoxV.set2 (h : BoxV w b v0 v1 v2 v3 v4) (v : Value) : BoxV (w.setCell ⟨b, 2, none⟩ v) b v0 v1 v v3 v4 :=
  ⟨(World.cell?_setCell_other _ _ _ _ (by simp)).trans h.c0, (World.cell?_setCell_other _ _ _ _ (by simp)).trans h.c1, World.cell?_setCell_same' _ _ _ (by rw [h.c2]; rfl), (World.cell?_setCell_other _ _ _ _ (by simp)).trans h.c3, (World.cell?_setCell_other _ _ _ _ (by simp)).trans h.c4, fun i => by simpa using h.fz i⟩
theorem BoxV.set3 (h : BoxV w b v0 v1 v2 v3 v4) (v : Value) : BoxV (w.setCell ⟨b, 3, none⟩ v) b v0 v1 v2 v v4 :=
  ⟨(World.cell?_setCell_other _ _ _ _ (by simp)).trans h.c0, (World.cell?_setCell_other _ _ _ _ (by simp)).trans h.c1, (World.cell?_setCell_other _ _ _ _ (by simp)).trans h.c2, World.cell?_setCell_same' _ _ _ (by rw [h.c3]; rfl), (World.cell?_setCell_other _ _ _ _ (by simp)).trans h.c4, fun i => by simpa using h.fz i⟩
theorem BoxV.far (h : BoxV w b v0 v1 v2 v3 v4) {c i : Nat} {v : Value} (hc : c ≠ b) : BoxV (w.setCell ⟨c, i, none⟩ v) b v0 v1 v2 v3 v4 :=
  ⟨(World.cell?_setCell_far _ _ _ _ hc).trans h.c0, (World.cell?_setCell_far _ _ _ _ hc).trans h.c1, (World.cell?_setCell_far _ _ _ _ hc).trans h.c2, (World.cell?_setCell_far _ _ _ _ hc).trans h.c3, (World.cell?_setCell_far _ _ _ _ hc).trans h.c4, fun j => by simpa using h.fz j⟩
end
/-- All that was there is as it was, but block g; nothing has gone. -/
structure Gr (g : Nat) (w w' : World) : Prop where
  os : w'.os = w.os
  tape : w'.tape = w.tape
  output : w'.output = w.output
  size : w.heap.size ≤ w'.heap.size
  block : ∀ k, k < w.heap.size → k ≠ g → w'.heap[k]? = w.heap[k]?
theorem Gr.refl (g : Nat) (w : World) : Gr g w w.drew := ⟨rfl, rfl, rfl, Nat.le_refl _, fun _ _ _ => rfl⟩
theorem Gr.trans {g : Nat} {w w' w2 : World} (h : Gr g w w') (b : Below w'.heap.size w' w2) : Gr g w w2 := ⟨b.os.trans h.os, b.tape.trans h.tape, b.output.trans h.output, Nat.le_trans h.size b.size, fun k hk hne => (b.block k (by have := h.size; omega)).trans (h.block k hk hne)⟩
theorem Gr.set {w w' : World} (g : Nat) (h : Gr g w w') (i : Nat) (v : Value) : Gr g w (w'.setCell ⟨g, i, none⟩ v) :=
  ⟨h.os, h.tape, h.output, by have := h.size; rw [Deep.nblk_setCell]; exact this, fun k hk hne => (setCell_past _ _ _ _ hne).trans (h.block k hk hne)⟩
theorem Gr.grown {g : Nat} {w w' : World} (h : Gr g w w') : w.grownBy w' (some g) := ⟨h.os, h.tape, h.output, h.size, fun k hk hne => h.block k hk (fun e => hne (by rw [e]))⟩
theorem Gr.cell {g : Nat} {w w' : World} (h : Gr g w w') {b i : Nat} {v : Value} (hc : w.cell? ⟨b, i, none⟩ = some v) (hb : b ≠ g) : w'.cell? ⟨b, i, none⟩ = some v := by
  simp only [World.cell?] at hc ⊢
  rw [h.block b (lt_of_cell (o := i) hc) hb]; exact hc
theorem BoxV.gr {w w' : World} {b g : Nat} {v0 v1 v2 v3 v4 : Value} (h : BoxV w b v0 v1 v2 v3 v4) (k : Gr g w w') (hb : b ≠ g) : BoxV w' b v0 v1 v2 v3 v4 :=
  ⟨k.cell h.c0 hb, k.cell h.c1 hb, k.cell h.c2 hb, k.cell h.c3 hb, k.cell h.c4 hb, fun i => by
    have := h.fz i
    unfold World.frozen? at this ⊢
    simp only at this ⊢
    rw [k.block b h.lt hb]; exact this⟩
theorem below_gr {W w w' : World} {B g : Nat} (h : Below B W w) (k : Gr g w w') (hB : B ≤ w.heap.size) (hg : B ≤ g) : Below B W w' := h.trans ⟨k.os, k.tape, k.output, k.size, fun j hj => k.block j (by omega) (by omega)⟩
theorem _root_.Go.RowKit.Below.gr {W w w' : World} {g : Nat} (h : Below W.heap.size W w) (k : Gr g w w') (hg : W.heap.size ≤ g) : Below W.heap.size W w' := below_gr h k h.size hg
/-- What block g holds on the region's way: as it was, or with one cell stored. -/
def Cu (g i : Nat) (cur : Array Value) (w : World) : Prop := ∃ c, w.heap[g]? = some (.cells c 79 (0, 0)) ∧ (c = cur ∨ ∃ v, c = cur.setIfInBounds i v)
theorem own_low {w : World} {base : Nat} {e : TypeId} {s n : Nat} {v : Value} {xs : List Value} (h : w.ownsRow base e s v n xs) {g : Nat} (hg : g < base) {p : Nat} (u : Value) : (w.setCell ⟨g, p, none⟩ u).ownsRow base e s v n xs := ownsRow_setCell_below h hg u
def AllM (w w' : World) : List (Value → World → Prop) → Prop
  | [] => True
  | p :: l => (∀ x, p x w → p x w') ∧ AllM w w' l
theorem tabR_mono {w w' : World} : ∀ {L : List (Value → World → Prop)}, AllM w w' L → ∀ j x u, TabR L j x u w → TabR L j x u w'
  | [], _, j, x, u, h => by unfold TabR at *; simp at *
  | p :: l, hm, 0, x, u, h => hm.1 x h
  | p :: l, hm, j + 1, x, u, h => by
    have := tabR_mono hm.2 j x u
    unfold TabR at *
    simp only [List.getElem?_cons_succ] at *
    exact this h
theorem Cu.call {g i : Nat} {cur : Array Value} {w0 w w' : World} (h : Cu g i cur w) (hS : Gr g w0 w) (b : Below w.heap.size w w') : Gr g w0 w' ∧ Cu g i cur w' := by
  obtain ⟨c, h1, h2⟩ := h
  exact ⟨hS.trans b, c, (b.block g (Array.getElem?_eq_some_iff.1 h1).1).trans h1, h2⟩

theorem MidAt.setLow {old lo : Nat} {w : World} {x : Out} {cv tv : Value} {ps : List (Ev × (Option Addr × Nat))} (h : MidAt old lo w x cv tv ps x.tr.length) {b i : Nat} (hb : b < lo) (v : Value) : MidAt old lo (w.setCell ⟨b, i, none⟩ v) x cv tv ps x.tr.length :=
  ⟨own_low h.ctx hb v, own_low h.row hb v, h.evs, fun i p hp hi => own_low (h.done i p hp hi) hb v, fun i p hp hi => by
    have h1 := (List.getElem?_eq_some_iff.1 hp).1
    have h2 := congrArg List.length h.evs
    rw [List.length_map] at h2
    omega, h.apart1, h.apart2⟩
theorem WordsAt.setFar {w : World} {a : Option Addr} {len cap : Nat} {zs : List Int} (h : WordsAt w a len cap zs) {b i : Nat} (hb : 0 < len → ∀ ad, a = some ad → ad.block ≠ b) (v : Value) : WordsAt (w.setCell ⟨b, i, none⟩ v) a len cap zs :=
  ⟨h.size, h.le, h.fit, fun hp => by
    obtain ⟨b', o, e, hc⟩ := h.here hp
    exact ⟨b', o, e, fun j z hz => (World.cell?_setCell_far _ _ _ _ (fun e2 => hb hp _ e e2.symm)).trans (hc j z hz)⟩, h.nilc⟩

set_option maxHeartbeats 16000000 in
theorem copy_any (x : Out) (ca : Option Addr) (cc : Nat) (ta : Option Addr) (tc : Nat) (W : World) (h : OutAt W x ca cc ta tc) (hf : x.tr.length ≤ 100 ∧ x.ctx.length ≤ 1000 ∧ ∀ (i : Nat) (e : Ev), x.tr[i]? = some e → e.args.length ≤ 20) :
    Calls Try.prog 62 #[outV x ca cc ta tc] W fun e w' => ∃ cv tv ps, e = .returned (.agg #[.int .i8 x.kind, .int .u64 x.r0, cv, tv, .int .i64 x.left]) ∧ MidAt W.heap.size (W.heap.size + 2) w' x cv tv ps x.tr.length ∧ Below W.heap.size W w' := by
  have CB := Lib.hid (fun w b => cloneB_any ca x.ctx.length cc x.ctx w (h.ctx.below (w := w) b) hf.2.1)
  have CE := Lib.hid (fun w b => cloneE_any ta tc x.tr W w h.tr b (by omega))
  have HF := Lib.hid hf.2.2
  have hf1 := hf.1
  clear h hf
  have BX := Lib.hid (((BoxF.new W x ca ta cc tc).past (outC ⟨0, 0, [], [], 0⟩ none 0 none 0)).v)
  have BR := Lib.hid (by have h := (BoxF.new (W.alloc (outC x ca cc ta tc)) ⟨0, 0, [], [], 0⟩ none none 0 0).v; rw [size_alloc] at h; exact h)
  have BW := Lib.hid (bb2 W (outC x ca cc ta tc) (outC ⟨0, 0, [], [], 0⟩ none 0 none 0))
  simp only [outV]
  go_enter Try.func62, Try.ntmps62
  go_wp2_with fail
  refine (CB.out _ BW.out).mono ?_
  rintro e w1 ⟨cv, rfl, o1, b1⟩
  have s1 : ((W.alloc (outC x ca cc ta tc)).alloc (outC ⟨0, 0, [], [], 0⟩ none 0 none 0)).heap.size = W.heap.size + 2 := by rw [size_alloc, size_alloc]
  have O1 := Lib.hid (show w1.ownsRow (W.heap.size + 2) 5 1 cv x.ctx.length (x.ctx.map (.int .u8)) from s1 ▸ o1)
  replace BX := Lib.hid (BX.out.below b1)
  replace BR := Lib.hid (BR.out.below b1)
  replace BW := Lib.hid (below_call BW.out b1)
  clear s1 o1 b1 CB
  obtain ⟨ca5, cc5, rfl⟩ := own_slice O1.out
  have p2 := BX.out.c2
  have pf := BX.out.fz 2
  have p3 := BX.out.c3
  replace BX := Lib.hid (BX.out.set2 (.slice ca5 x.ctx.length cc5))
  replace BR := Lib.hid (BR.out.far (c := W.heap.size) (i := 2) (v := .slice ca5 x.ctx.length cc5) (by omega))
  replace BW := Lib.hid (BW.out.setCell (p := ⟨W.heap.size, 2, none⟩) (Nat.le_refl _) (.slice ca5 x.ctx.length cc5))
  replace O1 := Lib.hid (own_low (g := W.heap.size) O1.out (by omega) (p := 2) (.slice ca5 x.ctx.length cc5))
  go_wp2_with fail
  refine (CE.out _ BW.out).mono ?_
  rintro e w2 ⟨tv, ps, rfl, hev, o2, hargs, b2⟩
  have hz := BW.out.size
  have hz2 := BR.out.lt
  have hrow := own_base o2 (b' := W.heap.size + 2) (by omega)
  have hctx := own_below O1.out b2
  have hap : ∀ b, (Value.slice ca5 x.ctx.length cc5).ownBlock = some b → tv.ownBlock ≠ some b := fun b h1 h2 => by
    have := (World.ownsRow.lt O1.out b h1).2
    have := (World.ownsRow.lt o2 b h2).1
    omega
  replace BX := Lib.hid (BX.out.below b2)
  replace BR := Lib.hid (BR.out.below b2)
  replace BW := Lib.hid (below_call BW.out b2)
  obtain ⟨ta5, tc5, rfl⟩ := own_slice hrow
  have p20 := BX.out.c0
  have p21 := BX.out.c1
  have p22 := BX.out.c2
  have p23 := BX.out.c3
  have p24 := BX.out.c4
  have pf3 := BX.out.fz 3
  replace BX := Lib.hid (BX.out.set3 (.slice ta5 x.tr.length tc5))
  replace BR := Lib.hid (BR.out.far (c := W.heap.size) (i := 3) (v := .slice ta5 x.tr.length tc5) (by omega))
  replace BW := Lib.hid (BW.out.setCell (p := ⟨W.heap.size, 3, none⟩) (Nat.le_refl _) (.slice ta5 x.tr.length tc5))
  have MM := Lib.hid (⟨own_low hctx (by omega) _, own_low hrow (by omega) _, hev, fun i p hp hi => by omega, fun i p hp hi => ⟨(hargs p (List.mem_of_getElem? hp)).below BW.out, fun hp0 ad e => (hargs p (List.mem_of_getElem? hp)).lt hp0 ad e⟩, hap, fun i p hp hi => by omega⟩ : MidAt W.heap.size (W.heap.size + 2) (w2.setCell ⟨W.heap.size, 3, none⟩ (.slice ta5 x.tr.length tc5)) x (.slice ca5 x.ctx.length cc5) (.slice ta5 x.tr.length tc5) ps 0)
  clear hz hz2 hrow hctx hap hev o2 hargs b2 O1 CE p2 p3 pf
  go_wp2_with fail
  go_loopw [16] (fun i wr => ∃ k : Nat, k ≤ x.tr.length ∧ i = .int .i64 k ∧ Hid (Below W.heap.size W wr ∧ BoxV wr W.heap.size (.int .i8 x.kind) (.int .u64 x.r0) (.slice ca5 x.ctx.length cc5) (.slice ta5 x.tr.length tc5) (.int .i64 x.left) ∧ BoxV wr (W.heap.size + 1) (.int .i8 0) (.int .u64 0) (.slice none 0 0) (.slice none 0 0) (.int .i64 0) ∧ ∃ ps, MidAt W.heap.size (W.heap.size + 2) wr x (.slice ca5 x.ctx.length cc5) (.slice ta5 x.tr.length tc5) ps k)) (fun i _ => x.tr.length - (intOf i).toNat)
  case atStart => exact ⟨0, by omega, rfl, Lib.hid ⟨BW.out, BX.out, BR.out, ps, MM.out⟩⟩
  case round =>
    obtain ⟨k, hk, rfl, hR⟩ := hrel
    clear p20 p21 p22 p23 p24 pf3 BX BR BW MM
    obtain ⟨BW0, BX0, BR0, ps, MM0⟩ := hR.out
    have BW := Lib.hid BW0
    have BX := Lib.hid BX0
    have BR := Lib.hid BR0
    have MM := Lib.hid MM0
    clear hR
    by_cases hlt : k < x.tr.length
    · have hpl : ps.length = x.tr.length := by rw [← MM0.evs, List.length_map]
      obtain ⟨p, hp⟩ : ∃ p, ps[k]? = some p := ⟨_, List.getElem?_eq_getElem (by omega)⟩
      have hpe : x.tr[k]? = some p.1 := by rw [← MM0.evs, List.getElem?_map, hp]; rfl
      obtain ⟨hw1, hw2⟩ := MM0.rest k p hp (Nat.le_refl _)
      obtain ⟨y, na, nc⟩ := p
      simp only at *
      have hrow := MM0.row
      rcases hrow.2 with ⟨h0, h00⟩ | ⟨g, cap, cur, e1, e2, e3, e4, e5, e6, e7⟩
      · exfalso; omega
      injection e1 with e1 _ e8
      subst e1 e8
      have hcg := fun j (hj : j < 3) => cellsE_get hp hj
      have hcell : ∀ j, j < 3 → wr.cell? ⟨g, k * 3 + j, none⟩ = (cellE y na nc)[j]? := fun j hj => by
        have h1 := cellsE_get hp hj
        rw [← e7, List.getElem?_take_of_lt (by omega), Array.getElem?_toList] at h1
        simp only [World.cell?, e3]
        exact h1
      have x0 : wr.cell? ⟨g, k * 3, none⟩ = some (.int .i64 y.num) := hcell 0 (by omega)
      have x1 : wr.cell? ⟨g, k * 3 + 1, none⟩ = some (.slice na y.args.length nc) := hcell 1 (by omega)
      have x2 : wr.cell? ⟨g, k * 3 + 2, none⟩ = some (.int .u64 y.ans) := hcell 2 (by omega)
      have h20 := HF.out k y hpe
      have hle := hw1.le
      have hfit := hw1.fit
      have HP := Lib.hid hp
      have HW := Lib.hid hw1
      have HW2 := Lib.hid hw2
      have GK0 := Lib.hid (And.intro (show k * 3 + 1 < cur.size by omega) (show g < wr.heap.size from (Array.getElem?_eq_some_iff.1 e3).1))
      have GG := Lib.hid (And.intro e2 e3)
      have b0 := BX0.c0
      have b1 := BX0.c1
      have b2 := BX0.c2
      have b3 := BX0.c3
      have b4 := BX0.c4
      have b5 := BR0.c0
      clear hp hpe hw1 hw2 hrow e2 e3 e4 e5 e6 e7 hcg hcell BW0 BX0 BR0 MM0 HF
      go_wp2_with fail
      have hbl : Below wr.heap.size wr (wr.alloc (.cells #[.int .i64 y.num, .slice na y.args.length nc, .int .u64 y.ans] 79)) := below_new (Below.refl _ _) _
      have hM1 : (wr.alloc (.cells #[.int .i64 y.num, .slice na y.args.length nc, .int .u64 y.ans] 79)).cell? ⟨wr.heap.size, 1, none⟩ = some (.slice na y.args.length nc) := by
        have h := heap_last wr (.cells #[.int .i64 y.num, .slice na y.args.length nc, .int .u64 y.ans] 79) _ rfl
        simp only [World.cell?]; rw [h]; rfl
      generalize wr.alloc (.cells #[.int .i64 y.num, .slice na y.args.length nc, .int .u64 y.ans] 79) = w5 at *
      have GH := Lib.hid ((hbl.block g GK0.out.2).trans GG.out.2)
      have GK := Lib.hid (And.intro GK0.out.1 (Nat.lt_of_lt_of_le GK0.out.2 hbl.size))
      have BX5 := Lib.hid (BX.out.below hbl)
      have BR5 := Lib.hid (BR.out.below hbl)
      have BW5 := Lib.hid (below_call BW.out hbl)
      replace MM := Lib.hid (MM.out.below hbl)
      have HL := Lib.hid (fun w (h : Gr g w5 w) => And.intro (h.cell BX5.out.c3 (by have := GG.out.1; omega)) (h.cell hM1 (by have := GK0.out.2; omega)))
      have CW := Lib.hid (fun w (h : Gr g w5 w) => cloneW_any na y.args.length nc y.args w ((HW.out.below hbl).grown h.grown (fun hp0 ad e eg => by injection eg with eg; have := HW2.out hp0 ad e; have := GG.out.1; omega)) (by omega))
      have hg2 := GG.out.1
      clear hbl hM1 GG GK0 HW HW2 BX BR BW x0 x1 x2 b0 b1 b2 b3 b4 b5
      refine wp_region_inv (fun _ => 100000) (fun w => Gr g w5 w ∧ Cu g (k * 3 + 1) cur w) (TabR [fun v _ => v = .pointer (some ⟨W.heap.size, 3, none⟩), fun v _ => v = .slice (some ⟨g, 0, none⟩) x.tr.length tc5, fun v _ => v = .int .i64 k, fun v _ => v = .pointer (some ⟨wr.heap.size, 1, none⟩), fun v _ => v = .slice na y.args.length nc, fun v w => w.ownsRow w5.heap.size 33 1 v y.args.length (y.args.map (.int .u64)), fun v _ => v = .pointer (some ⟨g, k * 3, none⟩), fun v _ => v = .pointer (some ⟨g, k * 3 + 1, none⟩), fun _ w => ∃ c, w.heap[g]? = some (.cells (cur.setIfInBounds (k * 3 + 1) c) 79 (0, 0)) ∧ w.ownsRow w5.heap.size 33 1 c y.args.length (y.args.map (.int .u64))]) (by kernel_rfl) (back_of (by kernel_rfl)) (dst_of (by kernel_rfl)) (dep_of (by kernel_rfl)) (in_of (by kernel_rfl)) ⟨Gr.refl _ _, cur, GH.out, .inl rfl⟩ ?hop ?hq
      case hop =>
        intro i o a w ho hS hdf hsz hrest hdone
        have t1 : a.tmps.getD 1 undef = .pointer (some ⟨W.heap.size, 0, none⟩) := hrest 1 (not_of (by kernel_rfl))
        have t3 : a.tmps.getD 3 undef = .int .i64 k := hrest 3 (not_of (by kernel_rfl))
        have t4 : a.tmps.getD 4 undef = .pointer (some ⟨wr.heap.size, 0, none⟩) := hrest 4 (not_of (by kernel_rfl))
        have hs : a.tmps.size = 31 := hsz.trans rfl
        have hi : i < 9 := (Array.getElem?_eq_some_iff.1 ho).1
        clear hrest hsz hdf
        obtain rfl | rfl | rfl | rfl | rfl | rfl | rfl | rfl | rfl : i = 0 ∨ i = 1 ∨ i = 2 ∨ i = 3 ∨ i = 4 ∨ i = 5 ∨ i = 6 ∨ i = 7 ∨ i = 8 := by omega
        · obtain rfl := Option.some.inj (show some _ = some o from ho)
          refine wpOp_val (v := .pointer (some ⟨W.heap.size, 3, none⟩)) (w' := w) rfl rfl ?_ ⟨_, rfl, ?_, hS, fun _ _ _ h => h⟩
          · simp [execOp, Act.eval, t1, go_sem]
          · rw [own_put rfl (by rw [hs]; omega)]; exact rfl
        · obtain rfl := Option.some.inj (show some _ = some o from ho)
          have s21 : a.tmps.getD 21 undef = .pointer (some ⟨W.heap.size, 3, none⟩) := hdone _ (Array.mem_of_getElem? (i := 0) rfl) rfl _ rfl
          refine wpOp_val (v := .slice (some ⟨g, 0, none⟩) x.tr.length tc5) (w' := w) rfl rfl ?_ ⟨_, rfl, ?_, hS, fun _ _ _ h => h⟩
          · (have hc := (HL.out w hS.1).1; simp [execOp, Act.eval, s21, hc, go_sem])
          · rw [own_put rfl (by rw [hs]; omega)]; exact rfl
        · obtain rfl := Option.some.inj (show some _ = some o from ho)
          refine wpOp_val (v := .int .i64 k) (w' := w) rfl rfl ?_ ⟨_, rfl, ?_, hS, fun _ _ _ h => h⟩
          · simp [execOp, Act.eval, t3]
          · rw [own_put rfl (by rw [hs]; omega)]; exact rfl
        · obtain rfl := Option.some.inj (show some _ = some o from ho)
          refine wpOp_val (v := .pointer (some ⟨wr.heap.size, 1, none⟩)) (w' := w) rfl rfl ?_ ⟨_, rfl, ?_, hS, fun _ _ _ h => h⟩
          · simp [execOp, Act.eval, t4, go_sem]
          · rw [own_put rfl (by rw [hs]; omega)]; exact rfl
        · obtain rfl := Option.some.inj (show some _ = some o from ho)
          have s24 : a.tmps.getD 24 undef = .pointer (some ⟨wr.heap.size, 1, none⟩) := hdone _ (Array.mem_of_getElem? (i := 0) rfl) rfl _ rfl
          refine wpOp_val (v := .slice na y.args.length nc) (w' := w) rfl rfl ?_ ⟨_, rfl, ?_, hS, fun _ _ _ h => h⟩
          · (have hc := (HL.out w hS.1).2; simp [execOp, Act.eval, s24, hc, go_sem])
          · rw [own_put rfl (by rw [hs]; omega)]; exact rfl
        · obtain rfl := Option.some.inj (show some _ = some o from ho)
          have s25 : a.tmps.getD 25 undef = .slice na y.args.length nc := hdone _ (Array.mem_of_getElem? (i := 0) rfl) rfl _ rfl
          refine wpOp_call (f := 112) (args := #[.slice na y.args.length nc]) rfl rfl ?_ ?_
          · simp [go_sem, execOp, Act.eval, Deferred.ofValue, callFunc, Try.func112, Try.f112, s25, resolve, invoke]
          · refine (CW.out _ hS.1).mono ?_
            rintro e w' ⟨v, rfl, o9, b9⟩
            refine ⟨_, rfl, _, rfl, ?_, hS.2.call hS.1 b9, tabR_mono ⟨fun _ h => h, fun _ h => h, fun _ h => h, fun _ h => h, fun _ h => h, fun _ h => own_below h b9, fun _ h => h, fun _ h => h, fun _ ⟨c, h1, h2⟩ => ⟨c, (b9.block g (Array.getElem?_eq_some_iff.1 h1).1).trans h1, own_below h2 b9⟩, trivial⟩⟩
            rw [own_put rfl (by rw [hs]; omega)]; exact own_base o9 hS.1.size
        · obtain rfl := Option.some.inj (show some _ = some o from ho)
          have s22 : a.tmps.getD 22 undef = .slice (some ⟨g, 0, none⟩) x.tr.length tc5 := hdone _ (Array.mem_of_getElem? (i := 0) rfl) rfl _ rfl
          have s23 : a.tmps.getD 23 undef = .int .i64 k := hdone _ (Array.mem_of_getElem? (i := 1) rfl) rfl _ rfl
          refine wpOp_val (v := .pointer (some ⟨g, k * 3, none⟩)) (w' := w) rfl rfl ?_ ⟨_, rfl, ?_, hS, fun _ _ _ h => h⟩
          · (simp [execOp, Act.eval, s22, s23, go_sem]; try exact fun h => absurd h (by omega))
          · rw [own_put rfl (by rw [hs]; omega)]; exact rfl
        · obtain rfl := Option.some.inj (show some _ = some o from ho)
          have s27 : a.tmps.getD 27 undef = .pointer (some ⟨g, k * 3, none⟩) := hdone _ (Array.mem_of_getElem? (i := 0) rfl) rfl _ rfl
          refine wpOp_val (v := .pointer (some ⟨g, k * 3 + 1, none⟩)) (w' := w) rfl rfl ?_ ⟨_, rfl, ?_, hS, fun _ _ _ h => h⟩
          · simp [execOp, Act.eval, s27, go_sem]
          · rw [own_put rfl (by rw [hs]; omega)]; exact rfl
        · obtain rfl := Option.some.inj (show some _ = some o from ho)
          have s28 : a.tmps.getD 28 undef = .pointer (some ⟨g, k * 3 + 1, none⟩) := hdone _ (Array.mem_of_getElem? (i := 0) rfl) rfl _ rfl
          have r26 := hdone _ (Array.mem_of_getElem? (i := 1) rfl) rfl _ rfl
          have q26 : w.ownsRow w5.heap.size 33 1 (a.tmps.getD 26 undef) y.args.length (y.args.map (.int .u64)) := r26
          clear r26
          have r26 := q26
          clear q26
          generalize hv26 : a.tmps.getD 26 undef = v26 at r26
          obtain ⟨na2, nc2, rfl⟩ := own_slice r26
          obtain ⟨cur9, hc9, hc92⟩ := hS.2
          have hsz9 : k * 3 + 1 < cur9.size := by
            rcases hc92 with rfl | ⟨c, rfl⟩
            · exact GK.out.1
            · rw [Array.size_setIfInBounds]; exact GK.out.1
          have h8 : (w.setCell ⟨g, k * 3 + 1, none⟩ (.slice na2 y.args.length nc2)).heap[g]? = some (.cells (cur.setIfInBounds (k * 3 + 1) (.slice na2 y.args.length nc2)) 79 (0, 0)) := by
            rw [setCell_row hc9]
            rcases hc92 with rfl | ⟨c, rfl⟩
            · rfl
            · rw [Array.setIfInBounds_setIfInBounds]
          have ggl : g < w5.heap.size := GK.out.2
          have q8 := own_low r26 ggl (p := k * 3 + 1) (.slice na2 y.args.length nc2)
          refine wpOp_skp (w' := w.setCell ⟨g, k * 3 + 1, none⟩ (.slice na2 y.args.length nc2)) rfl rfl (exec_store1 77 _ _ rfl g (k * 3 + 1) (.slice na2 y.args.length nc2) ?_ ?_ rfl rfl (by kernel_rfl) ?_ ?_) ⟨undef, rfl, ⟨_, h8, q8⟩, ⟨hS.1.set g _ _, _, h8, .inr ⟨_, rfl⟩⟩, tabR_mono ⟨fun _ h => h, fun _ h => h, fun _ h => h, fun _ h => h, fun _ h => h, fun _ h => own_low h ggl _, fun _ h => h, fun _ h => h, fun _ h => ⟨_, h8, q8⟩, trivial⟩⟩
          · simp [Act.eval, s28]
          · simp [Act.eval, hv26]
          · simp only [World.cell?, hc9]; simp [hsz9]
          · simp [World.frozen?, hc9]
      case hq =>
        intro u9 w' hS hR9
        have hR8 : ∃ c, w'.heap[g]? = some (.cells (cur.setIfInBounds (k * 3 + 1) c) 79 (0, 0)) ∧ w'.ownsRow w5.heap.size 33 1 c y.args.length (y.args.map (.int .u64)) := hR9 8 _ rfl
        clear hR9
        rw [show outs _ u9 = [(21, u9 21), (22, u9 22), (23, u9 23), (24, u9 24), (25, u9 25), (26, u9 26), (27, u9 27), (28, u9 28)] by kernel_rfl]
        simp only [putAll, List.setIfInBounds_toArray, List.set_cons_zero, List.set_cons_succ]
        generalize u9 21 = x21
        generalize u9 22 = x22
        generalize u9 23 = x23
        generalize u9 24 = x24
        generalize u9 25 = x25
        generalize u9 26 = x26
        generalize u9 27 = x27
        generalize u9 28 = x28
        clear u9
        obtain ⟨c9, hst9, hv9⟩ := hR8
        have BX6 := Lib.hid (BX5.out.gr hS.1 (by omega))
        have BR6 := Lib.hid (BR5.out.gr hS.1 (by omega))
        have BW6 := Lib.hid (BW5.out.gr hS.1 (by omega))
        obtain ⟨ps9, m9⟩ := MM.out.step (by omega) HP.out GH.out hS.1.grown hst9 hv9
        have M9 := Lib.hid m9
        clear hst9 hv9 hS m9
        go_wp2_with fail
        go_roundw
        case rel => exact ⟨k + 1, by omega, by go_num, Lib.hid ⟨BW6.out, BX6.out, BR6.out, ps9, M9.out⟩⟩
        case measure => simp [intOf]; omega
    · obtain rfl : k = x.tr.length := by omega
      have b0 := BX0.c0
      have b1 := BX0.c1
      have b2 := BX0.c2
      have b3 := BX0.c3
      have b4 := BX0.c4
      have r0 := BR0.c0
      have r1 := BR0.c1
      have r2 := BR0.c2
      have r3 := BR0.c3
      have r4 := BR0.c4
      have rf := BR0.fz
      clear BX0 BR0 BW0 MM0 HF
      go_wp2_with fail
      refine bodyPost_ret (v := .agg #[.int .i8 x.kind, .int .u64 x.r0, .slice ca5 x.ctx.length cc5, .slice ta5 x.tr.length tc5, .int .i64 x.left]) (by simp [results, Try.results62, go_sem, r0, r1, r2, r3, r4]) rfl ⟨_, _, ps, rfl, ?_, ?_⟩
      · exact ((((MM.out.setLow (b := W.heap.size + 1) (by omega) _).setLow (b := W.heap.size + 1) (by omega) _).setLow (b := W.heap.size + 1) (by omega) _).setLow (b := W.heap.size + 1) (by omega) _).setLow (b := W.heap.size + 1) (by omega) _
      · repeat (refine Below.setCell ?_ (by simp only; omega) _)
        exact BW.out
end Go.Proofs.Ytpbnmbeedjhloaa.Trc
