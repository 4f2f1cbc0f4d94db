/-
  Whatever Bytes and Encode yield; a slice of bytes that came in.
-/
import Derived.Test.YtbpefomjmjkciaaInsN
import Derived.Test.YtbpefomjmjkciaaInsKm
namespace Go.Proofs.Ytbpefomjmjkciaa.Ins
open Go.RowKit
set_option linter.unusedVariables false
set_option maxRecDepth 100000

def errI (b : Bool) : Int := if b = true then 0 else 31
/-- Whatever Bytes yields. -/
def BytesAny (x : In) (W : World) (e : Ending) (w' : World) : Prop :=
  ∃ v, e = .returned (.tuple #[v, .int .i64 (errI (mayI x))]) ∧ Below W.heap.size W w' ∧ (mayI x = true → ∃ z, v = .slice (some ⟨z, 0, none⟩) 8 8 ∧ w'.rowIs z 5 8 (fun i => .int .u8 (byteI (packI x) i)))
theorem bytes_any (x : In) (W : World) : Calls Try.prog 18 #[.agg x.cells] W (BytesAny x W) := by
  cases h : mayI x
  · refine (bytes_no x W h).mono ?_
    rintro e w ⟨rfl, b⟩
    exact ⟨_, by rw [h]; rfl, b, fun h' => by rw [h] at h'; cases h'⟩
  · refine (bytes_yes x W h).mono ?_
    rintro e w ⟨z, rfl, hz, b, r⟩
    exact ⟨_, by rw [h]; rfl, b, fun _ => ⟨z, rfl, r⟩⟩
/-- Whatever Encode yields. -/
def EncodeAny (c : Int) (len : Nat) (xs : Nat → In) (W : World) (e : Ending) (w' : World) : Prop :=
  ∃ v, e = .returned (.tuple #[v, .int .i64 (checkI c len xs).2]) ∧ Below W.heap.size W w' ∧ ((checkI c len xs).2 = 0 → w'.ownsRow W.heap.size 5 1 v (2 + 8 * len) (u8s (encN c xs len)))
theorem check_ctx {c : Int} {len : Nat} {xs : Nat → In} (h : (checkI c len xs).2 = 0) : 0 ≤ c ∧ c ≤ 256 := by
  unfold checkI at h
  by_cases h1 : c < 0 ∨ 256 < c
  · rw [if_pos h1] at h; simp at h
  · omega
theorem encode_any (c : Int) (a : Option Addr) (len cap : Nat) (xs : Nat → In) (W : World) (hx : Insts W a len cap xs) : Calls Try.prog 19 #[.agg #[.int .i64 c, .slice a len cap]] W (EncodeAny c len xs W) := by
  by_cases h : (checkI c len xs).2 = 0
  · have hc := check_ctx h
    refine (encode_yes c a len cap xs W hx h hc.1 hc.2).mono ?_
    rintro e w ⟨v, rfl, o, b⟩
    exact ⟨v, by rw [h], b, fun _ => o⟩
  · refine (encode_no c a len cap xs W hx h).mono ?_
    rintro e w ⟨rfl, b⟩
    exact ⟨_, rfl, b, fun h' => absurd h' h⟩
theorem conv_own {w : World} {base n : Nat} {v : Value} {l : List Int} (h : w.ownsRow base 5 1 v n (u8s l)) (hn : 0 < n) : (convert 22 9 v).run Try.prog w = .ok (.string (strOfNums l)) w := by
  obtain ⟨hl, h⟩ := h
  have hl' : l.length = n := by simpa [u8s] using hl
  rcases h with ⟨_, h⟩ | ⟨g, cap, cur, rfl, _, hg, _, _, hs, ht⟩
  · omega
  · refine run_convert_bytes_arg (P := Try.prog) w 22 5 Try.underlying22 Try.underlying5 g 0 n cap l hl' (fun i hi => ?_) 9 Try.underlying9
    have hi' : i < n := hi
    have e := congrArg (fun l : List Value => l[i]?) ht
    simp only [List.getElem?_take_of_lt (show i < n * 1 by omega), Array.getElem?_toList, u8s, List.getElem?_map] at e
    rw [Nat.zero_add]
    simp only [World.cell?, hg, e]
    rw [List.getElem?_eq_getElem (by omega)]
    simp [List.getD, hl', hi']

theorem byt_of {w : World} {a : Option Addr} {len cap : Nat} {zs : List Int} (h : IsRow .u8 w a len cap zs) : ∃ f, Byt w a len cap f := by
  rcases h with ⟨rfl, rfl, rfl, rfl⟩ | ⟨x, rfl, h1, h2, h3, h4, h5⟩
  · exact ⟨fun _ => 0, Nat.le_refl _, by omega, fun h => absurd h (by omega), fun j h => absurd h (by omega)⟩
  · refine ⟨fun j => zs.getD j 0, h1, by unfold maxLen at h2; omega, fun h0 => ?_, fun j hj => ?_⟩
    · have hs : x.spot = none := by
        have c0 := h4 0 (by omega)
        obtain ⟨b, off, spot⟩ := x
        simpa [Addr.add] using World.cell?_spot c0
      obtain ⟨b, off, spot⟩ := x
      simp only at hs
      subst hs
      refine ⟨b, off, rfl, fun j hj => ?_⟩
      have := h4 j (by omega)
      rw [Addr.add_mid] at this
      exact this
    · refine bd_u8' (h5 _ ?_)
      rw [List.getD_eq_getElem?_getD, List.getElem?_eq_getElem (by omega)]
      exact List.getElem_mem _
/-- A row of one's own read as bytes. -/
theorem byt_own {w : World} {base n : Nat} {v : Value} {l : List Int} (h : w.ownsRow base 5 1 v n (u8s l)) (hn : 0 < n) (hb : ∀ z ∈ l, 0 ≤ z ∧ z < 256) :
    ∃ a cap, v = .slice a n cap ∧ Byt w a n cap (fun j => (l[j]?).getD 0) := by
  have hl' : l.length = n := by have := h.1; simpa [u8s] using this
  rcases h.2 with ⟨_, h⟩ | ⟨g, cap, cur, rfl, _, hg, h4, h5, hs, ht⟩
  · omega
  · refine ⟨_, cap, rfl, h4, by unfold maxLen at h5; omega, fun _ => ⟨g, 0, rfl, fun j hj => ?_⟩, fun j hj => ?_⟩
    · have e := congrArg (fun l : List Value => l[j]?) ht
      simp only [List.getElem?_take_of_lt (show j < n * 1 by omega), Array.getElem?_toList, u8s, List.getElem?_map] at e
      rw [Nat.zero_add]
      simp only [World.cell?, hg, e]
      rw [List.getElem?_eq_getElem (by omega)]
      simp
    · rw [List.getElem?_eq_getElem (by omega)]
      exact hb _ (List.getElem_mem _)
/-- What the law keeps: its two boxes. -/
structure Kept2 (W : World) (x : In) (c : Int) (a : Option Addr) (len cap : Nat) (w : World) : Prop where
  below : Below W.heap.size W w
  bx : w.heap[W.heap.size]? = some (.cells x.cells 26 (0, 0))
  bp : w.heap[W.heap.size + 1]? = some (.cells #[.int .i64 c, .slice a len cap] 32 (0, 0))
theorem Kept2.step {W w w' : World} {x : In} {c : Int} {a : Option Addr} {len cap : Nat} (h : Kept2 W x c a len cap w) (b : Below w.heap.size w w') : Kept2 W x c a len cap w' :=
  ⟨below_call h.below b, (b.block _ (Array.getElem?_eq_some_iff.1 h.bx).1).trans h.bx, (b.block _ (Array.getElem?_eq_some_iff.1 h.bp).1).trans h.bp⟩
theorem Kept2.cells {W w : World} {x : In} {c : Int} {a : Option Addr} {len cap : Nat} (h : Kept2 W x c a len cap w) : w.cell? ⟨W.heap.size + 1, 0, none⟩ = some (.int .i64 c) ∧ w.cell? ⟨W.heap.size + 1, 1, none⟩ = some (.slice a len cap) := by
  simp [World.cell?, h.bp]

/-- A guarded load of a whole row. -/
theorem wpList_gload_row {P : Program} {ops : Array Oper} {rest : List Oper} {o : Oper} {a : Act} {w : World} {Q : Exit → Act → World → Prop} (hw : Region.wanted o (yielded ops a.tmps) = true) (ty : TypeId) (x : Operand) (ho : o.op = .load ty x)
    (g : Nat) (hx : a.eval x = .pointer (some ⟨g, 0, none⟩)) (t : TypeId) (cs : Array Value) (fr : Nat × Nat) (d : TypeDesc) (hg : w.heap[g]? = some (.cells cs t fr))
    (hu : P.underlying ty = some d) (hd : (match d with | .struct _ | .array _ _ => true | _ => false) = true) (hi : (P.info? ty).map (·.size) = some cs.size)
    (h : wpList P ops Q rest (a.put o.dst (.agg cs)) w) : wpList P ops Q (o :: rest) a w :=
  wpList_step fun K hK => by rw [if_pos hw]; exact wp_load_row ty x ho g hx t cs fr d hg hu hd hi (hK _ _ h)
/-- Whatever Decode yields. -/
def DecU (len : Nat) (f : Nat → Int) (W : World) (e : Ending) (w' : World) : Prop :=
  ∃ c a m cap at_ r, e = .returned (.tuple #[.agg #[.int .i64 c, .slice a m cap], .int .i64 at_, .int .i64 r]) ∧ Below W.heap.size W w' ∧ (r = 0 → at_ = 0 ∧ c = getI f 2 ∧ m = (len - 2) / 8 ∧ Insts w' a m cap (xsI (tailF f)) ∧ (decR len f).2 = 0)
theorem decode_u (a : Option Addr) (len cap : Nat) (f : Nat → Int) (W : World) (h : Byt W a len cap f) : Calls Try.prog 14 #[.slice a len cap] W (DecU len f W) := by
  refine (decode_any a len cap f W h).mono fun e w' hd => ?_
  by_cases h0 : (decR len f).2 = 0
  · obtain ⟨q, cq, rfl, iq, b⟩ := hd.2 h0
    exact ⟨_, _, _, _, _, _, rfl, b, fun _ => ⟨rfl, rfl, rfl, iq, h0⟩⟩
  · obtain ⟨rfl, b⟩ := hd.1 h0
    exact ⟨_, _, _, _, _, _, rfl, b, fun h => absurd h h0⟩
/-- Whatever Read yields. -/
theorem read_u (a : Option Addr) (len cap : Nat) (f : Nat → Int) (W : World) (h : Byt W a len cap f) :
    ∃ y r, (∀ w, Below W.heap.size W w → Calls Try.prog 12 #[.slice a len cap] w (ReadsAs y r w)) ∧ (r = 0 → len = 8 ∧ mayI y = true ∧ ∀ i, i < 8 → byteI (packI y) i = f i) := by
  by_cases h8 : len = 8
  · subst h8
    refine ⟨_, _, fun w b => ?_, fun h0 => ⟨rfl, bytes_of_read (f := f) (fun i hi => h.bd i hi) h0⟩⟩
    have h' := h.below b
    obtain ⟨b', o, rfl, hc⟩ := h'.here (by omega)
    exact read_8 b' o cap f w h'.le h'.fit h'.bd hc
  · exact ⟨_, _, fun w b => read_no a len cap w h8 h.le h.fit, fun h0 => absurd h0 (by decide)⟩
theorem conv_byt {w : World} {a : Option Addr} {len cap : Nat} {f : Nat → Int} (h : Byt w a len cap f) (h0 : 0 < len) : (convert 22 9 (.slice a len cap)).run Try.prog w = .ok (.string (strOf f len)) w := by
  obtain ⟨b, o, rfl, hc⟩ := h.here h0
  exact conv_cells b o len cap f hc
end Go.Proofs.Ytbpefomjmjkciaa.Ins
