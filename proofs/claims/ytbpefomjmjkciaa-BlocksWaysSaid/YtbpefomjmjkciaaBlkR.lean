/-
  Package blocks: the walk of Reach (a closure that calls itself through a cell).
-/
import Derived.Test.YtbpefomjmjkciaaBlkQ
namespace Go.Proofs.Ytbpefomjmjkciaa.Blk
open Go.RowKit Go.Maps Go.Sort Ins
set_option linter.unusedVariables false
set_option maxRecDepth 100000

/-- One cell of a row of one's own stored. -/
theorem store_row1 {P : Program} {ops : Array Oper} {rest : List Oper} {o : Oper} {a : Act} {w : World} {Q : Exit → Act → World → Prop} (hgd : o.guard = none) (ty : TypeId) (x y : Operand) (ho : o.op = .store ty x y)
    (g i : Nat) (v : Value) (hx : a.eval x = .pointer (some ⟨g, i, none⟩)) (hy : a.eval y = v) (hv : v.cells = #[v]) (h1 : v.oneCell' = true)
    {base : Nat} {e : TypeId} {s n cap : Nat} {xs : List Value} (hr : w.ownsRow base e s (.slice (some ⟨g, 0, none⟩) n cap) n xs) (hi : (P.info? ty).map (·.size) = some 1) (hlt : i < n * s)
    (h : ∀ w', w'.ownsRow base e s (.slice (some ⟨g, 0, none⟩) n cap) n (xs.set i v) → w.grownBy w' (some g) → wpList P ops Q rest (a.put o.dst undef) w') : wpList P ops Q (o :: rest) a w := by
  rcases hr.2 with ⟨h0, h2⟩ | ⟨g', cap', cur, e1, e2, e3, e4, e5, e6, e7⟩
  · subst h2; omega
  injection e1 with a1 a2 a3
  injection a1 with a1
  injection a1 with a1
  subst a1 a3
  have hns : n * s ≤ cap * s := Nat.mul_le_mul_right s e4
  refine wpList_store_cell hgd ty x y ho g i v hx hy hv h1 e cur e3 hi (by omega) (fun w' st => h w' ⟨by rw [List.length_set]; exact hr.1, .inr ⟨g, cap, _, rfl, e2, st.row, e4, e5, by simp [e6], ?_⟩⟩ ⟨st.os, st.tape, st.output, by rw [st.size]; exact Nat.le_refl _, fun k hk hne => st.other k (fun e => hne (by rw [e]))⟩)
  rw [Array.toList_setIfInBounds, ← e7, List.take_set]

def upd (f : Nat → Bool) (b : Nat) : Nat → Bool := fun i => if i = b then true else f i
theorem upd_at (f : Nat → Bool) (b : Nat) : upd f b b = true := if_pos rfl
theorem upd_ne (f : Nat → Bool) {b i : Nat} (h : i ≠ b) : upd f b i = f i := if_neg h
theorem upd_more {f : Nat → Bool} {b i : Nat} (h : f i = true) : upd f b i = true := by
  by_cases e : i = b
  · rw [e]; exact upd_at f b
  · rw [upd_ne f e]; exact h
def marks (n : Nat) (f : Nat → Bool) : List Value := (List.range n).map fun i => .bool (f i)
theorem marks_get {n : Nat} (f : Nat → Bool) {i : Nat} (h : i < n) : (marks n f)[i]? = some (.bool (f i)) := by simp [marks, h]
theorem marks_len (n : Nat) (f : Nat → Bool) : (marks n f).length = n := by simp [marks]
theorem marks_set (n : Nat) (f : Nat → Bool) (b : Nat) : (marks n f).set b (.bool true) = marks n (upd f b) := by
  apply List.ext_getElem?
  intro i
  rw [List.getElem?_set]
  by_cases hi : i < n
  · rw [marks_get _ hi, marks_get _ hi, marks_len]
    by_cases e : b = i
    · subst e; rw [if_pos rfl, if_pos hi, upd_at]
    · rw [if_neg e, upd_ne f (fun h => e h.symm)]
  · rw [List.getElem?_eq_none (by rw [marks_len]; omega), List.getElem?_eq_none (by rw [marks_len]; omega), marks_len]
    by_cases e : b = i
    · subst e; rw [if_pos rfl, if_neg hi]
    · rw [if_neg e]
/-- How many of the first k are not marked. -/
def left (f : Nat → Bool) : Nat → Nat
  | 0 => 0
  | k + 1 => left f k + if f k then 0 else 1
theorem left_mono {f g : Nat → Bool} (h : ∀ i, f i = true → g i = true) : ∀ k, left g k ≤ left f k
  | 0 => Nat.le_refl _
  | k + 1 => by
    have ih := left_mono h k
    show left g k + (if g k then 0 else 1) ≤ left f k + (if f k then 0 else 1)
    cases hf : f k
    · cases g k <;> simp <;> omega
    · rw [h k hf]; simp; exact ih
theorem left_upd {f : Nat → Bool} {b : Nat} (hb : f b = false) : ∀ k, b < k → left (upd f b) k < left f k
  | 0, h => by omega
  | k + 1, h => by
    show left (upd f b) k + (if upd f b k then 0 else 1) < left f k + (if f k then 0 else 1)
    by_cases e : k = b
    · subst e
      have := left_mono (f := f) (g := upd f k) (fun i hi => upd_more hi) k
      rw [upd_at, hb]; simp; omega
    · rw [upd_ne f e]
      have := left_upd hb k (by omega)
      omega

/-- Is y a successor of x? -/
def Succ (bs : List Bk) (x y : Nat) : Prop := ∃ k, bs[x]? = some k ∧ (y : Int) ∈ k.next
/-- A walk from s turned the marks f into g. -/
structure Walked (bs : List Bk) (s : Nat → Prop) (f g : Nat → Bool) : Prop where
  more : ∀ x, f x = true → g x = true
  closed : ∀ x y, g x = true → f x = false → Succ bs x y → g y = true
  sound : ∀ C : Nat → Prop, (∀ x y, C x → Succ bs x y → C y) → (∀ x, s x → C x) → ∀ x, g x = true → f x = true ∨ C x
theorem Walked.refl (bs : List Bk) (s : Nat → Prop) (f : Nat → Bool) : Walked bs s f f :=
  ⟨fun _ h => h, fun x y h1 h2 => (by rw [h1] at h2; cases h2), fun _ _ _ x h => Or.inl h⟩
theorem Walked.step {bs : List Bk} {s t : Nat → Prop} {f g h : Nat → Bool} (a : Walked bs s f g) (b : Walked bs t g h) (ht : ∀ x, t x → s x) : Walked bs s f h := by
  refine ⟨fun x hx => b.more x (a.more x hx), fun x y h1 h2 h3 => ?_, fun C hC hs x hx => ?_⟩
  · cases hg : g x
    · exact b.closed x y h1 hg h3
    · exact b.more y (a.closed x y hg h2 h3)
  · rcases b.sound C hC (fun x hx => hs x (ht x hx)) x hx with h1 | h1
    · exact a.sound C hC hs x h1
    · exact .inr h1
theorem Walked.done {bs : List Bk} {b : Nat} {f g : Nat → Bool} (a : Walked bs (Succ bs b) (upd f b) g) (h : ∀ y, Succ bs b y → g y = true) : Walked bs (· = b) f g ∧ g b = true := by
  refine ⟨⟨fun x hx => a.more x (upd_more hx), fun x y h1 h2 h3 => ?_, fun C hC hs x hx => ?_⟩, a.more b (upd_at f b)⟩
  · by_cases e : x = b
    · subst e; exact h y h3
    · exact a.closed x y h1 (by rw [upd_ne f e]; exact h2) h3
  · have hb := hs b rfl
    rcases a.sound C hC (fun x hx => hC b x hb hx) x hx with h1 | h1
    · by_cases e : x = b
      · subst e; exact .inr hb
      · rw [upd_ne f e] at h1; exact .inl h1
    · exact .inr h1

theorem info_bool1 : (Try.prog.info? 4).map (·.size) = some 1 := by kernel_rfl
def WalkTo (bs : List Bk) (base g n cp b : Nat) (f : Nat → Bool) (w : World) (e : Ending) (w' : World) : Prop :=
  e = .returned (.tuple #[]) ∧ ∃ f', Walked bs (· = b) f f' ∧ f' b = true ∧ w'.ownsRow base 4 1 (.slice (some ⟨g, 0, none⟩) n cp) n (marks n f') ∧ w.grownBy w' (some g)

set_option maxHeartbeats 4000000 in
theorem walk_any (a : Option Addr) (n c : Nat) (bs : List Bk) (W : World) (h : Blks W a n c bs) (hm : mayL bs = true) (g pr pl pw cp : Nat) (n1 : g ≠ pr) (n2 : g ≠ pl) (n3 : g ≠ pw) : ∀ (m : Nat) (f : Nat → Bool) (b : Nat) (w : World), left f n < m → b < n → Below W.heap.size W w →
    w.ownsRow W.heap.size 4 1 (.slice (some ⟨g, 0, none⟩) n cp) n (marks n f) → w.cell? ⟨pr, 0, none⟩ = some (.slice (some ⟨g, 0, none⟩) n cp) → w.cell? ⟨pl, 0, none⟩ = some (.slice a n c) →
    w.cell? ⟨pw, 0, none⟩ = some (.func (.func 61) #[] #[.pointer (some ⟨pr, 0, none⟩), .pointer (some ⟨pl, 0, none⟩), .pointer (some ⟨pw, 0, none⟩)]) →
    Calls Try.prog 61 #[.int .i64 b, .pointer (some ⟨pr, 0, none⟩), .pointer (some ⟨pl, 0, none⟩), .pointer (some ⟨pw, 0, none⟩)] w (WalkTo bs W.heap.size g n cp b f w) := by
  have h64 : n ≤ 64 := by have := mayL_len hm; have := h.size; omega
  have S := Lib.hid h.size
  have H := Lib.hid (fun w b => Blks.below (w := w) h b)
  have MA := Lib.hid (show ∀ (k : Nat) (x : Bk), bs[k]? = some x → ∀ (j : Nat) (z : Int), x.next[j]? = some z → 0 ≤ z ∧ z < n from fun k x hx j z hz => by
    have h1 := mayL_all hm hx
    unfold mayB at h1
    rw [Bool.and_eq_true, List.all_eq_true] at h1
    have h2 := of_decide_eq_true (h1.2 z (List.mem_of_getElem? hz))
    have := S.out
    omega)
  clear h hm
  intro m
  induction m with
  | zero => intro f b w h0; omega
  | succ m ih =>
    have IH := Lib.hid ih
    clear ih
    intro f b w hl hb BW OW cr cl cw
    have hgb : W.heap.size ≤ g := (World.ownsRow.lt OW g rfl).1
    have cb : w.cell? ⟨g, b, none⟩ = some (.bool (f b)) := by
      have := OW.cellAt b (by omega)
      rw [this, marks_get f hb]
    have hbn : (b : Int) < (n : Int) := by omega
    have hb0 : (0 : Int) ≤ (b : Int) := by omega
    have HL := Lib.hid hl
    have OB := Lib.hid OW
    have BB := Lib.hid BW
    clear hl OW BW
    cases hf : f b
    case true =>
      rw [hf] at cb
      have HF := Lib.hid hf; clear hf
      go_enter Try.func61, Try.ntmps61
      go_wp2_with fail
      first | refine bodyPost_ret (results_none rfl _ _ _) rfl ?_ | (refine ⟨_, results_none rfl _ _ _, rfl, ?_⟩) | (refine ⟨_, results_none rfl _ _ _, ?_⟩)
      exact ⟨rfl, f, Walked.refl _ _ _, HF.out, OB.out, World.grownBy.refl _ _⟩
    rw [hf] at cb
    have LU := Lib.hid (left_upd hf n hb)
    have HF := Lib.hid hf; clear hf
    go_enter Try.func61, Try.ntmps61
    go_wp2_with (refine (halt_store 4 _ _ rfl ?_))
    refine ⟨?_, trivial⟩
    refine store_row1 rfl 4 _ _ rfl g b (.bool true) rfl rfl rfl rfl OB.out info_bool1 (by omega) ?_
    intro w2 r2 h2
    rw [marks_set] at r2
    have cr2 := h2.cell cr (fun e => n1 (by injection e with e; exact e.symm))
    have cl2 := h2.cell cl (fun e => n2 (by injection e with e; exact e.symm))
    have cw2 := h2.cell cw (fun e => n3 (by injection e with e; exact e.symm))
    have CR := Lib.hid cr
    have CL := Lib.hid cl
    have CW := Lib.hid cw
    have B2 := Lib.hid (BB.out.grown h2 (BB.out.size) (fun j e => by injection e with e; omega))
    have O2 := Lib.hid r2
    have G2 := Lib.hid h2
    obtain ⟨b1, o1, rfl, g1⟩ := (H.out W (Below.refl _ _)).here (by omega)
    obtain ⟨x, hx⟩ : ∃ x, bs[b]? = some x := ⟨_, List.getElem?_eq_getElem (by have := S.out; omega)⟩
    obtain ⟨na1, nc1, q1, i1⟩ := g1 b x hx
    obtain ⟨x0, x1, x2⟩ := blk_cells (rangeAt_below B2.out q1)
    have HX := Lib.hid hx
    have MZ := Lib.hid (MA.out b x hx)
    have II := Lib.hid i1
    clear g1 q1 i1 hx x0 x1 r2 h2 cr cl cw cb
    go_wp2_with fail
    have IN := Lib.hid (fun w' b' => II.out.below (w := w') b')
    have hnl := II.out.le
    have hnf := II.out.fit
    clear II
    generalize hxn : x.next = xn at *
    go_loopw [20] (fun i wr => ∃ j : Nat, j ≤ xn.length ∧ i = .int .i64 j ∧ Hid (∃ f', Walked bs (Succ bs b) (upd f b) f' ∧ (∀ t z, t < j → xn[t]? = some (z : Int) → f' z.toNat = true) ∧ wr.ownsRow W.heap.size 4 1 (.slice (some ⟨g, 0, none⟩) n cp) n (marks n f') ∧ w.grownBy wr (some g))) (fun i _ => xn.length - (intOf i).toNat)
    case atStart => exact ⟨0, by omega, rfl, Lib.hid ⟨_, Walked.refl _ _ _, fun t z h => by omega, O2.out, G2.out⟩⟩
    case round =>
      obtain ⟨j, hj, rfl, hR⟩ := hrel
      obtain ⟨f', hW, hN, hO, hG⟩ := hR.out
      have WK := Lib.hid hW
      have NK := Lib.hid hN
      have OK := Lib.hid hO
      have GK := Lib.hid hG
      have BK := Lib.hid (BB.out.grown hG (BB.out.size) (fun j e => by injection e with e; omega))
      have crk := hG.cell CR.out (fun e => n1 (by injection e with e; exact e.symm))
      have clk := hG.cell CL.out (fun e => n2 (by injection e with e; exact e.symm))
      have cwk := hG.cell CW.out (fun e => n3 (by injection e with e; exact e.symm))
      clear hR hW hN hO hG
      by_cases hlt : j < xn.length
      · obtain ⟨bn, on, rfl, hc⟩ := (IN.out _ BK.out).here (by omega)
        obtain ⟨z, hz⟩ : ∃ z, xn[j]? = some z := ⟨_, List.getElem?_eq_getElem hlt⟩
        have hcz := hc j z hz
        have hzz := MZ.out j z hz
        obtain ⟨y, rfl⟩ : ∃ y : Nat, z = (y : Int) := ⟨z.toNat, by omega⟩
        have SB := Lib.hid (show Succ bs b y from ⟨x, HX.out, by rw [hxn]; exact List.mem_of_getElem? hz⟩)
        have HZ := Lib.hid hz
        have CA := Lib.hid (IH.out f' y wr (by have h1 := left_mono WK.out.more n; have h2 := LU.out; have h3 := HL.out; omega) (by omega) BK.out OK.out crk clk cwk)
        clear hc hz hzz crk clk
        go_wp2_with fail
        refine CA.out.mono ?_
        rintro e w5 ⟨rfl, f5, W5, m5, o5, g5⟩
        have WK5 := Lib.hid W5
        have M5 := Lib.hid m5
        have O5 := Lib.hid o5
        have G5 := Lib.hid g5
        clear W5 m5 o5 g5
        go_wp2_with fail
        go_roundw
        case rel => exact ⟨j + 1, by omega, by go_num, Lib.hid ⟨f5, WK.out.step WK5.out (fun v e => by subst e; exact SB.out), fun t z ht hz => by
          by_cases e : t = j
          · subst e
            have := HZ.out
            rw [hz] at this
            injection this with this
            subst this
            exact M5.out
          · exact WK5.out.more _ (NK.out t z (by omega) hz), O5.out, GK.out.trans G5.out⟩⟩
        case measure => simp [intOf]; omega
      · obtain rfl : j = xn.length := by omega
        go_wp2_with fail
        first | refine bodyPost_ret (results_none rfl _ _ _) rfl ?_ | (refine ⟨_, results_none rfl _ _ _, rfl, ?_⟩) | (refine ⟨_, results_none rfl _ _ _, ?_⟩)
        have D := WK.out.done (fun y ⟨k, hk, hy⟩ => by
          obtain rfl : x = k := by have := HX.out; rw [hk] at this; injection this with this; exact this.symm
          rw [hxn] at hy
          obtain ⟨t, ht⟩ := List.mem_iff_getElem?.1 hy
          have := NK.out t y (List.getElem?_eq_some_iff.1 ht).1 ht
          simpa using this)
        exact ⟨rfl, f', D.1, D.2, OK.out, GK.out⟩
end Go.Proofs.Ytbpefomjmjkciaa.Blk
