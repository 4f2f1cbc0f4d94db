/-
  Package blocks: a map of numbers told by what it has; its keys, sorted.
-/
import Derived.Test.YtbpefomjmjkciaaLayK
import Derived.Test.YtbpefomjmjkciaaBlkM
import Derived.Maps.OwnSet
import Derived.WalkKit
import Derived.Lib.Hide
namespace Go.Proofs.Ytbpefomjmjkciaa.Blk
open Go.RowKit Go.Maps Go.Sort Go.Shelf
set_option linter.unusedVariables false

/-- What a map of numbers has, and where it leads. -/
structure Nums (D : DataW Unit) (f : Int → Bool) (g : Int → Int) : Prop where
  keys : ∀ z : Int, Maps.has D (.int .i64 z) = f z
  vals : ∀ z : Int, f z = true → ∀ d, D.atKey (.int .i64 z) d = .lit (.int .i64 (g z))
  tidy : Maps.Tidy D
theorem Nums.empty : Nums (.map []) (fun _ => false) (fun _ => 0) := ⟨fun _ => rfl, (fun _ h => by cases h), tidy_empty⟩
theorem is_key (a : Int) : WideAt.IsKeyLit (.int .i64 a) := trivial
theorem lit_ne {a b : Int} (h : ¬ a = b) : Lit.int .i64 a ≠ Lit.int .i64 b := fun e => h (by injection e)
theorem Nums.put {D : DataW Unit} {f : Int → Bool} {g : Int → Int} (h : Nums D f g) (a v : Int) :
    Nums (D.put (.int .i64 a) (.lit (.int .i64 v))) (fun z => f z || decide (a = z)) (fun z => if a = z then v else g z) := by
  refine ⟨fun z => ?_, fun z hz d => ?_, h.tidy.put (is_key a) _⟩
  · by_cases e : a = z
    · subst e; rw [has_put_same h.tidy.isMap (is_key _)]; simp
    · rw [has_put_other (lit_ne (Ne.symm e)), h.keys, decide_eq_false e, Bool.or_false]
  · by_cases e : a = z
    · subst e; rw [atKey_put_same h.tidy.isMap (is_key _), if_pos rfl]
    · rw [atKey_put_other (lit_ne (Ne.symm e)), if_neg e]
      exact h.vals z (by simpa [e] using hz) d
theorem Nums.congr {D : DataW Unit} {f f' : Int → Bool} {g g' : Int → Int} (h : Nums D f g) (hf : ∀ z, f z = f' z) (hg : ∀ z, f' z = true → g z = g' z) : Nums D f' g' :=
  ⟨fun z => (h.keys z).trans (hf z), fun z hz d => by rw [h.vals z ((hf z).trans hz) d, hg z hz], h.tidy⟩

/-- A map literal's entry: as a store. -/
theorem wpList_insert_own {H : Type} {P : Program} (w : World) {ops : Array Oper} {rest : List Oper} {o : Oper} {a : Act} {Q : Exit → Act → World → Prop}
    (hg : o.guard = none) (m x v : Operand) (t : TypeId) (hop : o.op = Op.insert t m x v)
    (k e : TypeId) (K : Keyed P k) (ht : P.underlying t = some (.map k e)) (R : Value → Option (DataW H × List MemPlace)) (b n : Nat) (D : DataW H)
    (hm : a.eval m = .map (some b)) (hown : w.ownsMap P k R b n D) (hn : n < maxLen) (key val : Value) (kl : Lit) (hx : a.eval x = key) (hv : a.eval v = val) (hkey : keyOf P k key = some kl)
    (d : DataW H) (ps : List MemPlace) (hval : R val = some (d, ps))
    (hK : ∀ w', w'.ownsMap P k R b (n + 1) (D.put kl d) → w.grownBy w' (some b) → wpList P ops Q rest (a.put o.dst undef) w') :
    wpList P ops Q (o :: rest) a w := by
  refine wpList_plain hg fun K' hK' => ?_
  obtain ⟨w', hrun, r1, r2⟩ := hown.update K ht hn hkey hval
  unfold Oper.wp
  simp [execOp, hop, hm, hx, hv, hrun, Result.andThen]
  exact hK' _ _ (hK w' r1 r2)

/-- To stop a walk ahead of a map's operation. -/
theorem halt_insert {P : Program} {ops : Array Oper} {rest : List Oper} {o : Oper} {a : Act} {w : World} {Q : Exit → Act → World → Prop} (t : TypeId) (m x v : Operand) (ho : o.op = .insert t m x v)
    (h : wpList P ops Q (o :: rest) a w ∧ True) : wpList P ops Q (o :: rest) a w := h.1
theorem halt_update {P : Program} {ops : Array Oper} {rest : List Oper} {o : Oper} {a : Act} {w : World} {Q : Exit → Act → World → Prop} (t : TypeId) (m x v : Operand) (ho : o.op = .mapUpdate t m x v)
    (h : wpList P ops Q (o :: rest) a w ∧ True) : wpList P ops Q (o :: rest) a w := h.1
theorem halt_lookup {P : Program} {ops : Array Oper} {rest : List Oper} {o : Oper} {a : Act} {w : World} {Q : Exit → Act → World → Prop} (t : TypeId) (m x : Operand) (c : Bool) (ho : o.op = .lookup t m x c)
    (h : wpList P ops Q (o :: rest) a w ∧ True) : wpList P ops Q (o :: rest) a w := h.1

theorem sortsA (m : Nat) : AnyZI.SortsIn Try.prog Try.sortedA_ren Fence.wide m :=
  ⟨fun blk off cap ss W hH hblk hsz => callsIn_wide.2 (AnyM.slices_Sort_int Try.sortA blk off cap ss W hH hblk hsz),
   fun p cap W => callsIn_wide.2 (AnyM.slices_Sort_int_none Try.sortA p cap W)⟩

theorem keys_any (mb : Option Nat) (W : World) : Calls Try.prog 115 #[.map mb] W fun e w' =>
    e = .returned (.func (.func 130) #[] #[.pointer (some ⟨W.heap.size, 0, none⟩)]) ∧ w' = W.alloc (.cells #[.map mb] 125) :=
  (callsIn_wide (n := 5)).1 (AnyZI.keys_in Try.keysA Fence.wide 5 trivial rfl mb W)

/-- Keys that are sorted: a list that has each just once, rising. -/
theorem sort_keys {D : DataW Unit} {f : Int → Bool} {g : Int → Int} (hN : Nums D f g) {L : List Int} (hL : L.Pairwise (· < ·)) (hm : ∀ x, x ∈ L ↔ f x = true) (hk : ∀ es, D = .map es → ∀ p ∈ es, ∃ x, p.1 = .int .i64 x)
    {ss : List Int} (h : ss.Perm (intKeys D)) : ss.mergeSort (fun x y => decide (x ≤ y)) = L := by
  obtain ⟨es, rfl, hp⟩ := hN.tidy
  have hnd : L.Nodup := hL.imp (fun h => by omega)
  have h2 : L.Perm (intKeys (.map es : DataW Unit)) := perm_intKeys hp (hk es rfl) hnd (fun x => by rw [hm x, hN.keys x])
  have h3 := mergeSort_of_perm_i (h.trans h2.symm)
  have h4 : L.mergeSort leI = L := List.mergeSort_of_pairwise (hL.imp (fun h => by simp [leI]; omega))
  exact h3.trans h4

set_option maxRecDepth 100000 in
theorem sorted_any {D : DataW Unit} {f : Int → Bool} {g : Int → Int} {R : Value → Option (DataW Unit × List MemPlace)} (b nn B : Nat) (W : World) (hB : W.cell? ⟨B, 0, none⟩ = some (.map (some b))) (hB' : B < W.heap.size)
    (hown : W.ownsMap Try.prog 3 R b nn D) (hN : Nums D f g) (L : List Int) (hL : L.Pairwise (· < ·)) (hm : ∀ x, x ∈ L ↔ f x = true) (hs : nn ≤ 1000000) :
    Calls Try.prog 114 #[.func (.func 130) #[] #[.pointer (some ⟨B, 0, none⟩)]] W fun e w' =>
      ∃ v, e = .returned v ∧ w'.ownsRow W.heap.size 3 1 v L.length (L.map encZ) ∧ Below W.heap.size W w' := by
  have hsz := hown.size_le
  have hseq : SeqGives Fence.wide 2 Try.prog 130 #[.pointer (some ⟨B, 0, none⟩)] encZ (fun ss => ss.Perm (intKeys D)) (Maps.size D) W :=
    AnyZI.keys_gives (ρ := Try.keysA_ren) { Try.keysA with } Fence.wide _ trivial rfl (by omega) B b nn D W hB' hB hown
  have cS := AnyZI.sorted_in Try.sortedA Fence.wide 5 trivial trivial trivial trivial rfl (by omega) (sortsA _) (enters_of Try.func129 (by kernel_rfl) rfl) 130 #[.pointer (some ⟨B, 0, none⟩)] trivial
    (enters_of Try.func130 (by kernel_rfl) rfl) _ _ (by unfold maxLen; omega) (by omega) W hseq
  change CallsIn _ _ Try.prog 114 _ _ _ at cS
  refine ((callsIn_wide (n := 5)).1 cS).mono ?_
  rintro e w' ⟨v, ss, rfl, hS, hrow, _, hb⟩
  have hk : ∀ es, D = .map es → ∀ p ∈ es, ∃ x, p.1 = .int .i64 x := by
    intro es he p hp
    obtain ⟨es', e1, h1⟩ := World.ownsMap.keysOf hown
    rw [he] at e1
    obtain rfl : es = es' := by injection e1
    obtain ⟨v, hv⟩ := h1 p hp
    obtain ⟨x, _, hx, _⟩ := Maps.keyOf_i64 Try.underlying3 hv
    exact ⟨x, hx⟩
  have he := sort_keys hN hL hm hk hS
  rw [he] at hrow
  have hl : L.length = ss.length := by rw [← he, List.length_mergeSort]
  rw [← hl] at hrow
  exact ⟨v, rfl, hrow, hb⟩
end Go.Proofs.Ytbpefomjmjkciaa.Blk
