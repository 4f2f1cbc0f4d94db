/-
  Rows of bytes: of one's own, read, appended to, as strings.
-/
import Derived.Test.YtjhjpllgoakncaaDoorRows
import Derived.WalkKit
import Derived.WalkSpells
import Derived.WalkLawsBesides
import Derived.Lib.Hide
import Derived.Test.YtjhjpllgoakncaaDoorRow
import Derived.Deep.LoopGhost
import Derived.Deep.OwnRows
import Derived.Handy
import Derived.Test.YtjhjpllgoakncaaDoorStore
import Derived.Laws.AppendOwn
import Derived.Laws.AppendOwnNone
import Derived.Laws.BytesArg
import Derived.Deep.QuietTactic
import Derived.BigQuiet
import Derived.Deep.RegionHeld3
import Derived.StillTailTactics
import Derived.RegionTactic
namespace Go.Proofs.YtjhjpllgoakncaaDoor.Mrm
open Go.RowKit
set_option maxRecDepth 100000
set_option linter.unusedVariables false
set_option linter.unnecessarySimpa false
set_option linter.unusedSimpArgs false

theorem results_tmp4 {fn : Func} {t u v x : Tmp} (h : fn.results = #[.tmp t, .tmp u, .tmp v, .tmp x]) (tmps : Array Value) (P : Program) (w : World) :
    (results fn tmps).run P w = .ok (.tuple #[tmps.getD t undef, tmps.getD u undef, tmps.getD v undef, tmps.getD x undef]) w := by
  simp [results, h]
theorem results_tmp6 {fn : Func} {t u v x y z : Tmp} (h : fn.results = #[.tmp t, .tmp u, .tmp v, .tmp x, .tmp y, .tmp z]) (tmps : Array Value) (P : Program) (w : World) :
    (results fn tmps).run P w = .ok (.tuple #[tmps.getD t undef, tmps.getD u undef, tmps.getD v undef, tmps.getD x undef, tmps.getD y undef, tmps.getD z undef]) w := by
  simp [results, h]
def u8s (l : List Int) : List Value := l.map (.int .u8)
theorem u8s_one (l : List Int) : ∀ u ∈ u8s l, u.oneCell' = true := by
  intro u hu
  obtain ⟨n, _, rfl⟩ := List.mem_map.1 hu
  rfl
theorem u8s_append (l m : List Int) : u8s (l ++ m) = u8s l ++ u8s m := List.map_append
theorem lt_cell {w : World} {b o : Nat} {v : Value} (h : w.cell? ⟨b, o, none⟩ = some v) : b < w.heap.size := by
  rcases Nat.lt_or_ge b w.heap.size with h' | h'
  · exact h'
  · have : w.heap[b]? = none := Array.getElem?_eq_none h'
    simp [World.cell?, this] at h
/-- Bytes. -/
def Oks (l : List Int) : Prop := ∀ z ∈ l, 0 ≤ z ∧ z < 256
/-- A row of bytes that can be read. -/
structure BytesAt (W : World) (a : Option Addr) (len cap : Nat) (zs : List Int) : Prop where
  size : len = zs.length
  le : len ≤ cap
  fit : cap ≤ 9223372036854775807
  here : 0 < len → ∃ b o, a = some ⟨b, o, none⟩ ∧ ∀ j z, zs[j]? = some z → W.cell? ⟨b, o + j, none⟩ = some (.int .u8 z)
  ok : Oks zs
  nilc : a = none → cap = 0
theorem BytesAt.below {W w : World} {a : Option Addr} {len cap : Nat} {zs : List Int} (h : BytesAt W a len cap zs) (b : Below W.heap.size W w) : BytesAt w a len cap zs :=
  ⟨h.size, h.le, h.fit, fun hp => by
    obtain ⟨b', o, e, hc⟩ := h.here hp
    exact ⟨b', o, e, fun j z hz => (b.cell (p := ⟨b', o + j, none⟩) (lt_cell (hc j z hz))).trans (hc j z hz)⟩, h.ok, h.nilc⟩
theorem BytesAt.nil (W : World) : BytesAt W none 0 0 [] := ⟨rfl, Nat.le_refl _, by omega, fun h => absurd h (by decide), fun z hz => (by cases hz), fun _ => rfl⟩
theorem BytesAt.row {W : World} {a : Option Addr} {len cap : Nat} {zs : List Int} (h : IsRow .u8 W a len cap zs) : BytesAt W a len cap (zs.take len) := by
  rcases h with ⟨rfl, rfl, rfl, rfl⟩ | ⟨x, rfl, h1, h2, h3, h4, h5⟩
  · exact BytesAt.nil W
  · refine ⟨by simp; omega, h1, by unfold maxLen at h2; omega, fun h0 => ?_, fun z hz => ?_, fun h => by cases h⟩
    · have c0 := h4 0 (by omega)
      obtain ⟨b, off, spot⟩ := x
      obtain rfl : spot = none := by simpa [Addr.add] using World.cell?_spot c0
      refine ⟨b, off, rfl, fun j z hz => ?_⟩
      have hj : j < len := by have := (List.getElem?_eq_some_iff.1 hz).1; simp at this; omega
      rw [List.getElem?_take_of_lt hj] at hz
      have := h4 j (by omega)
      rw [Addr.add_mid] at this
      rw [this, List.getD_eq_getElem?_getD, hz]; rfl
    · have := h5 z (List.mem_of_mem_take hz)
      have : 0 ≤ z ∧ z ≤ 255 := by simpa [Lit.wf, IntKind.min, IntKind.max, IntKind.bits, IntKind.signed] using this
      omega
theorem str_inj {zs ys : List Int} (h1 : Oks zs) (h2 : Oks ys) (h : strOfNums zs = strOfNums ys) : zs = ys := by
  have e := congrArg (fun s : ByteArray => s.data.toList) h
  simp only [strOfNums_data] at e
  have el := congrArg List.length e
  simp at el
  apply List.ext_getElem?
  intro j
  by_cases hj : j < zs.length
  · have e2 := congrArg (fun l => l[j]?) e
    simp only [List.getElem?_map, List.getElem?_eq_getElem hj, List.getElem?_eq_getElem (show j < ys.length by omega), Option.map_some] at e2 ⊢
    injection e2 with e2
    have a1 := h1 _ (List.getElem_mem hj)
    have a2 := h2 _ (List.getElem_mem (show j < ys.length by omega))
    have e3 := congrArg UInt8.toNat e2
    simp only [UInt8.toNat_ofNat'] at e3
    congr 1
    omega
  · rw [List.getElem?_eq_none (by omega), List.getElem?_eq_none (by omega)]
theorem conv_bytes {W : World} {a : Option Addr} {len cap : Nat} {zs : List Int} (h : BytesAt W a len cap zs) :
    (convert 25 9 (.slice a len cap)).run Tryd.prog W = .ok (.string (strOfNums zs)) W := by
  by_cases h0 : 0 < len
  · obtain ⟨b, o, rfl, hc⟩ := h.here h0
    exact run_convert_bytes_arg (P := Tryd.prog) W 25 5 Tryd.underlying25 Tryd.underlying5 b o len cap zs h.size.symm (fun i hi => by
      rw [hc i (zs.getD i 0) (by rw [List.getD_eq_getElem?_getD, List.getElem?_eq_getElem (by rw [← h.size]; exact hi)]; rfl)]) 9 Tryd.underlying9
  · obtain rfl : len = 0 := by omega
    obtain rfl : zs = [] := List.eq_nil_of_length_eq_zero h.size.symm
    cases a with
    | none => exact run_convert_bytes_nil (P := Tryd.prog) W 25 5 Tryd.underlying25 Tryd.underlying5 0 cap 9 Tryd.underlying9
    | some x =>
      rw [run_convert_bytes_string W 25 9 5 (some x) 0 cap Tryd.underlying25 Tryd.underlying5 Tryd.underlying9, run_bytesToString W x 0 cap [] (by simp [loadCells, loadCellsFrom])]
      rfl

theorem retV {a b : Value} (h : a = b) : Ending.returned a = .returned b := by rw [h]
/-! ### Rows of one's own -/
def Bts (base : Nat) (w : World) (v : Value) (l : List Int) : Prop := w.ownsRow base 5 1 v l.length (u8s l)
theorem Bts.below {base : Nat} {w w' : World} {v : Value} {l : List Int} (h : Bts base w v l) (b : Below w.heap.size w w') : Bts base w' v l := by
  refine ⟨h.1, ?_⟩
  rcases h.2 with h | ⟨g, cap, cur, e1, e2, e3, r⟩
  · exact .inl h
  · exact .inr ⟨g, cap, cur, e1, e2, (b.block g (Array.getElem?_eq_some_iff.1 e3).1).trans e3, r⟩
theorem Bts.mono {b b' : Nat} {w : World} {v : Value} {l : List Int} (h : Bts b w v l) (hb : b' ≤ b) : Bts b' w v l := by
  refine ⟨h.1, ?_⟩
  rcases h.2 with h | ⟨g, cap, cur, e1, e2, r⟩
  · exact .inl h
  · exact .inr ⟨g, cap, cur, e1, by omega, r⟩
theorem Bts.nil (base : Nat) (w : World) : Bts base w (.slice none 0 0) [] := World.ownsRow_nil _ _ _ _
theorem Bts.at {base : Nat} {w : World} {v : Value} {l : List Int} (h : Bts base w v l) (ok : Oks l) : ∃ a c, v = .slice a l.length c ∧ BytesAt w a l.length c l := by
  rcases h.2 with ⟨h1, h2⟩ | ⟨g, cap, cur, e1, e2, e3, e4, e5, e6, e7⟩
  · obtain rfl : l = [] := List.eq_nil_of_length_eq_zero h2
    exact ⟨none, 0, h1, BytesAt.nil w⟩
  · refine ⟨_, cap, e1, rfl, e4, by unfold maxLen at e5; omega, fun _ => ⟨g, 0, rfl, fun j z hz => ?_⟩, ok, fun h => by cases h⟩
    have hj : j < l.length := (List.getElem?_eq_some_iff.1 hz).1
    have h1 : (cur.toList.take (l.length * 1))[j]? = some (.int .u8 z) := by rw [e7]; unfold u8s; rw [List.getElem?_map, hz]; rfl
    rw [List.getElem?_take_of_lt (by omega), Array.getElem?_toList] at h1
    simp only [World.cell?, e3, Nat.zero_add]
    exact h1
theorem conv_own {base : Nat} {w : World} {v : Value} {l : List Int} (h : Bts base w v l) (ok : Oks l) : (convert 25 9 v).run Tryd.prog w = .ok (.string (strOfNums l)) w := by
  obtain ⟨a, c, rfl, hb⟩ := h.at ok
  exact conv_bytes hb
theorem one_own {base : Nat} (w : World) (p : Int) (hb : base ≤ w.heap.size) : Bts base (w.alloc (.cells #[.int .u8 p] 5)) (.slice (some ⟨w.heap.size, 0, none⟩) 1 1) [p] :=
  ⟨rfl, .inr ⟨w.heap.size, 1, _, rfl, hb, heap_last w _ _ rfl, Nat.le_refl _, by decide, rfl, rfl⟩⟩
theorem one_at (w : World) (p : Int) (hp : 0 ≤ p ∧ p < 256) : BytesAt (w.alloc (.cells #[.int .u8 p] 5)) (some ⟨w.heap.size, 0, none⟩) 1 1 [p] := by
  obtain ⟨a, c, e, h⟩ := (one_own (base := 0) w p (Nat.zero_le _)).at (fun z hz => by
    obtain rfl : z = p := by simpa using hz
    exact hp)
  injection e with e1 e2 e3
  subst e1 e3
  exact h
theorem row_own {w : World} {z n base : Nat} {f : Nat → Int} (h : w.rowIs z 5 n (fun i => .int .u8 (f i))) (hb : base ≤ z) (hm : n ≤ maxLen) : Bts base w (.slice (some ⟨z, 0, none⟩) n n) ((List.range n).map f) := by
  obtain ⟨cur, h1, h2, h3⟩ := h
  refine ⟨by simp [u8s], .inr ⟨z, n, cur, by simp, hb, h1, by simp, hm, by omega, ?_⟩⟩
  apply List.ext_getElem?
  intro i
  simp only [List.length_map, List.length_range]
  by_cases hi : i < n
  · have := h3 i hi
    rw [List.getElem?_take_of_lt (by omega), Array.getElem?_toList, this]
    simp [u8s, hi]
  · rw [List.getElem?_eq_none (by simp; omega), List.getElem?_eq_none (by simp [u8s]; omega)]
theorem below_grown {W w w' : World} {row : Option Nat} (h : Below W.heap.size W w) (g : w.grownBy w' row) (hr : ∀ k, row = some k → W.heap.size ≤ k) : Below W.heap.size W w' :=
  h.trans ⟨g.os, g.tape, g.output, g.size, fun k hk => g.block k (Nat.lt_of_lt_of_le hk h.size) (fun e => by have := hr k e.symm; omega)⟩
theorem Bts.lt {base : Nat} {w : World} {v : Value} {l : List Int} (h : Bts base w v l) : ∀ k, v.ownBlock = some k → base ≤ k := fun k hk => (World.ownsRow.lt h k hk).1
theorem below_drews {W w : World} {m : Nat} (h : Below m W w) : ∀ n, Below m W (w.drewN n)
  | 0 => h
  | n + 1 => (below_drews h n).drew
theorem info_u8a : ∃ i, Tryd.prog.info? 5 = some i ∧ i.zero = some (.int .u8 0) ∧ i.size = 1 ∧ i.bytes = 1 := by
  have h : (Tryd.prog.info? 5).map (fun i => (i.zero, i.size, i.bytes)) = some (some (.int .u8 0), 1, 1) := by kernel_rfl
  cases hi : Tryd.prog.info? 5 with
  | none => rw [hi] at h; simp at h
  | some i => rw [hi] at h; simp at h; exact ⟨i, rfl, h.1, h.2.1, h.2.2⟩
/-- append(s, x...). -/
theorem wpList_append_b {ops : Array Oper} {rest : List Oper} {o : Oper} {a : Act} {Q : Exit → Act → World → Prop} {w : World} (hgd : o.guard = none) (s x : Operand)
    (ho : o.op = .call { callee := .builtin .append, args := #[s, x], argTypes := #[25, 25] })
    (base : Nat) (v : Value) (l : List Int) (hs : a.eval s = v) (hown : Bts base w v l) (xa : Option Addr) (m c : Nat) (zs : List Int) (hx : a.eval x = .slice xa m c) (hE : BytesAt w xa m c zs)
    (hfew : l.length + m ≤ 100000) (hb : base ≤ w.heap.size)
    (h : ∀ v' w', Bts base w' v' (l ++ zs) → w.grownBy w' v.ownBlock → wpList Tryd.prog ops Q rest (a.put o.dst v') w') : wpList Tryd.prog ops Q (o :: rest) a w := by
  obtain ⟨ti, i1, i2, i3, i4⟩ := info_u8a
  have hl := hE.size
  cases xa with
  | none =>
    have h0 := hE.nilc rfl
    have h1 := hE.le
    obtain rfl : zs = [] := List.eq_nil_of_length_eq_zero (by omega)
    obtain rfl : m = 0 := by omega
    subst h0
    refine wpList_append_own_none hgd s x 25 ho base 5 ti 1 Tryd.underlying25 i1 v l.length (u8s l) hs hown hx ?_
    exact h v w (by rw [List.append_nil]; exact hown) ⟨rfl, rfl, rfl, Nat.le_refl _, fun _ _ _ => rfl⟩
  | some ad =>
    refine wpList_append_own w hgd s x 25 ho base 5 ti (.int .u8 0) 1 1 Tryd.underlying25 i1 i2 i3 i4 rfl (by decide) v l.length (u8s l) hs hown ad m c (u8s zs) hx (by simp [u8s]; omega) (fun j u hu => ?_) (u8s_one zs) (by unfold maxLen; omega) (by omega) hb (fun v' w' o g _ => h v' w' ?_ g)
    · unfold u8s at hu
      rw [List.getElem?_map] at hu
      cases hz : zs[j]? with
      | none => rw [hz] at hu; cases hu
      | some z =>
        rw [hz] at hu
        obtain rfl : Value.int .u8 z = u := by simpa using hu
        have hj : j < zs.length := (List.getElem?_eq_some_iff.1 hz).1
        obtain ⟨b', o', e, hc⟩ := hE.here (by omega)
        injection e with e
        subst e
        rw [Addr.add_mid]
        exact hc j z hz
    · unfold Bts
      rw [u8s_append, List.length_append, ← hl]
      exact o
/-- What a call that makes bytes hands back. -/
def RetB (l : List Int) (c : Int) (W : World) (e : Ending) (w' : World) : Prop := ∃ v, e = .returned (.tuple #[v, .int .i64 c]) ∧ Bts W.heap.size w' v l ∧ Below W.heap.size W w'
/-- What a call that makes bytes alone hands back. -/
def RetV (l : List Int) (W : World) (e : Ending) (w' : World) : Prop := ∃ v, e = .returned v ∧ Bts W.heap.size w' v l ∧ Below W.heap.size W w'
end Go.Proofs.YtjhjpllgoakncaaDoor.Mrm
