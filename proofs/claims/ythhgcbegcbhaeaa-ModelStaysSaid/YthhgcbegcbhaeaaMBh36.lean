/-
  Several texts in one: MdlS.
-/
import Derived.Test.YthhgcbegcbhaeaaMBh35
set_option linter.unusedVariables false
set_option linter.unusedSimpArgs false
set_option linter.unnecessarySimpa false
namespace Go.Proofs.Ythhgcbegcbhaeaa.Mdl
open Go.RowKit Go.Maps Ins Trc
set_option linter.unusedVariables false
set_option linter.unusedSimpArgs false
set_option maxRecDepth 100000

def flatI (xs : Nat → In) : Nat → List Value
  | 0 => []
  | n + 1 => flatI xs n ++ (xs n).cells.toList
theorem flatI_length (xs : Nat → In) : ∀ n, (flatI xs n).length = n * 9
  | 0 => rfl
  | n + 1 => by
    show (flatI xs n ++ (xs n).cells.toList).length = _
    rw [List.length_append, flatI_length xs n]
    show n * 9 + 9 = _
    omega
theorem flatI_get (xs : Nat → In) : ∀ n i j, i < n → j < 9 → (flatI xs n)[i * 9 + j]? = (xs i).cells[j]?
  | 0, i, j, h, _ => by omega
  | n + 1, i, j, h, hj => by
    show (flatI xs n ++ (xs n).cells.toList)[i * 9 + j]? = _
    by_cases e : i = n
    · subst e
      rw [List.getElem?_append_right (by rw [flatI_length]; omega), flatI_length, show i * 9 + j - i * 9 = j by omega, Array.getElem?_toList]
    · rw [List.getElem?_append_left (by rw [flatI_length]; omega)]
      exact flatI_get xs n i j (by omega) hj
theorem flatI_one (xs : Nat → In) : ∀ n, ∀ u ∈ flatI xs n, u.oneCell' = true
  | 0, u, h => by cases h
  | n + 1, u, h => by
    rcases List.mem_append.1 h with h | h
    · exact flatI_one xs n u h
    · simp [In.cells] at h
      rcases h with rfl | rfl | rfl | rfl | rfl | rfl | rfl | rfl | rfl <;> rfl
theorem info_in : ∃ i, Try.prog.info? 55 = some i ∧ i.zero = some (.agg In.nil.cells) ∧ i.size = 9 ∧ i.bytes = 24 := by
  have h : (Try.prog.info? 55).map (fun i => (i.zero, i.size, i.bytes)) = some (some (.agg In.nil.cells), 9, 24) := by kernel_rfl
  cases hi : Try.prog.info? 55 with
  | none => rw [hi] at h; simp at h
  | some i => rw [hi] at h; simp at h; exact ⟨i, rfl, h.1, h.2.1, h.2.2⟩

set_option maxHeartbeats 2000000 in
theorem cloneI_any (b o len cap : Nat) (xs : Nat → In) (W : World) (h : Insts W (some ⟨b, o, none⟩) len cap xs) (h1 : 1 ≤ len) (hfew : len ≤ 1000) :
    Calls Try.prog 30 #[.slice (some ⟨b, o, none⟩) len cap] W fun e w' => ∃ v, e = .returned v ∧ w'.ownsRow W.heap.size 55 9 v len (flatI xs len) ∧ Below W.heap.size W w' := by
  obtain ⟨ti, i1, i2, i3, i4⟩ := info_in
  have TI := Lib.hid (And.intro i1 (And.intro i2 (And.intro i3 i4)))
  clear i1 i2 i3 i4
  have HN : Hid (∀ j u, (flatI xs len)[j]? = some u → (W.alloc (.cells #[] 55)).cell? ((⟨b, o, none⟩ : Addr).add j) = some u) := by
    intro j u hu
    have hj : j < len * 9 := by have := (List.getElem?_eq_some_iff.1 hu).1; rw [flatI_length] at this; exact this
    obtain ⟨b', o', e, hc⟩ := h.here (by omega)
    injection e with e
    injection e with e1 e2
    subst e1 e2
    have e3 : j / 9 * 9 + j % 9 = j := by omega
    have hcj := flatI_get xs len (j / 9) (j % 9) (by omega) (by omega)
    rw [e3, hu] at hcj
    have h2 := hc (j / 9) (by omega) (j % 9) u (by rw [Array.getElem?_toList]; exact hcj.symm)
    rw [show o + j / 9 * 9 + j % 9 = o + j by omega] at h2
    rw [Addr.add_mid, ((Below.refl W.heap.size W).alloc (Nat.le_refl _) (.cells #[] 55)).cell (p := ⟨b, o + j, none⟩) (Trc.lt_of_cell h2), h2]
  clear h
  have HL := Lib.hid (flatI_length xs len)
  have H1 := Lib.hid (flatI_one xs len)
  generalize flatI xs len = fl at *
  have en := fun w => eql_nil (P := Try.prog) 22 55 (some ⟨b, o, none⟩) len cap Try.underlying22 w
  simp only [Option.isNone_some] at en
  have h0 : 0 < len := h1
  clear h1
  go_enter Try.func30, Try.ntmps30
  go_wp2_with (at_builtin; refine wpList_append_own_at _ rfl _ _ 22 rfl W.heap.size 55 ti _ 9 24 Try.underlying22 TI.out.1 TI.out.2.1 TI.out.2.2.1 TI.out.2.2.2 rfl (by decide) _ 0 [] rfl (own_empty W W.heap.size _ _ (Nat.le_refl _)) ⟨b, o, none⟩ len cap fl rfl HL.out HN.out H1.out (by unfold maxLen; omega) (by omega) (by simp) ?_)
  intro v' w' hr hg hn hat
  have B := Lib.hid (((Below.refl W.heap.size W).alloc (Nat.le_refl _) (.cells #[] 55)).grown hg (by simp) (fun j hj => by simp [Value.ownBlock] at hj; omega))
  have R := Lib.hid hr
  clear hr hg hn hat HN
  go_wp2_with fail
  go_ret
  exact ⟨_, rfl, R.out, B.out⟩
end Go.Proofs.Ythhgcbegcbhaeaa.Mdl
