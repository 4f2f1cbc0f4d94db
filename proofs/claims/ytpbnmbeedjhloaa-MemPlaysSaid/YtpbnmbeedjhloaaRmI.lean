/-
  Two memories told alike: writes.
-/
import Derived.Test.YtpbnmbeedjhloaaRmH
namespace Go.Proofs.Ytpbnmbeedjhloaa.Rm
open Go.RowKit
set_option linter.unusedVariables false
set_option maxRecDepth 100000
set_option linter.unnecessarySimpa false
set_option linter.unusedSimpArgs false

/-- Two rows apart. -/
def Rw.ap (R R' : Rw) : Prop := ∀ g : Nat, R.a = some ⟨g, 0, none⟩ → R'.a ≠ some ⟨g, 0, none⟩
theorem Rw.ap.symm {R R' : Rw} (h : R.ap R') : R'.ap R := fun g h1 h2 => h g h2 h1
structure Sep (M : RefM) : Prop where
  kx : M.k.ap M.x
  kf : M.k.ap M.fr
  ks : M.k.ap M.s
  xf : M.x.ap M.fr
  xs : M.x.ap M.s
  fs : M.fr.ap M.s
theorem cell_of_block {w w' : World} {b i : Nat} (h : w'.heap[b]? = w.heap[b]?) : w'.cell? ⟨b, i, none⟩ = w.cell? ⟨b, i, none⟩ := by
  unfold World.cell?; simp only [h]
theorem at_other {R R' : Rw} {W w : World} {base g : Nat} (h : R'.at W base) (hc : ChgAt g W w) (hg : R.a = some ⟨g, 0, none⟩) (ha : R.ap R') : R'.at w base := by
  refine ⟨⟨h.own.1, ?_⟩, h.bytes, h.le⟩
  rcases h.own.2 with h1 | ⟨g', cap, cur, e1, e2, e3, r⟩
  · exact .inl h1
  · have hv : R'.a = some ⟨g', 0, none⟩ := by unfold Rw.v at e1; injection e1
    have hne : g' ≠ g := fun e => by subst e; exact ha _ hg hv
    exact .inr ⟨g', cap, cur, e1, e2, (hc.block g' (Array.getElem?_eq_some_iff.1 e3).1 hne).trans e3, r⟩
/-- A row written. -/
def Rw.put (R : Rw) (k m : Nat) (v : Int) : Rw := { R with f := putF R.f k m v }
theorem byteI_bd (v : Int) (i : Nat) : 0 ≤ byteI v i ∧ byteI v i < 256 := by unfold byteI; omega
theorem put_at {R : Rw} {W w : World} {base g k m : Nat} {v : Int} (h : R.at W base) (hg : R.a = some ⟨g, 0, none⟩) (ho : Own w base (.slice (some ⟨g, 0, none⟩) R.len R.cap) R.len (putF R.f k m v)) : (R.put k m v).at w base := by
  refine ⟨?_, fun i hi => ?_, h.le⟩
  · have e : (R.put k m v).v = .slice (some ⟨g, 0, none⟩) R.len R.cap := by unfold Rw.v Rw.put; simp only [hg]
    rw [e]; exact ho
  · show 0 ≤ putF R.f k m v i ∧ putF R.f k m v i < 256
    unfold putF
    split
    · exact byteI_bd _ _
    · exact h.bytes i hi
theorem ne_row {M : RefM} {R : Rw} {W : World} {r base g : Nat} {v : Value} (hc : W.cell? ⟨r, 0, none⟩ = some M.k.v) (h : R.at W base) (h0 : 0 < R.len) (hg : R.a = some ⟨g, 0, none⟩) : r ≠ g := by
  rintro rfl
  obtain ⟨g', e, _, _, _, hx⟩ := h.open h0
  rw [hg] at e
  injection e with e
  injection e with e
  subst e
  have := hx 0 h0
  rw [hc] at this
  unfold Rw.v at this
  cases this
/-- What a write leaves between the two. -/
def WrRel (S : MemS) (kf : Nat → Int) (r base : Nat) (a : Int) (m : Nat) (v : Int) (W w : World) (e : Ending) : Prop :=
  (locI S.cn S.n S.hs a m ≤ 1 ∧ e = .returned (.int .i64 20) ∧ W = w) ∨
  (1 < locI S.cn S.n S.hs a m ∧ e = .returned (.int .i64 0) ∧ ∃ (M' : RefM) (g : Nat), RefAt M' w r base ∧ Sep M' ∧ Rel (S.putAt a m v) kf M' ∧ base ≤ g ∧ ChgAt g W w)
theorem write_rel {S : MemS} {kf : Nat → Int} {M : RefM} (h : Rel S kf M) (hsep : Sep M) (h1 : S.cn ≤ 16384) (h2 : S.n ≤ 256) {a v : Int} {m : Nat} (hm : 1 ≤ (m : Int)) (hs : sizedB m = true) {W w : World} {r base : Nat} (hM : RefAt M W r base) {e : Ending} (hr : RefWrite M a m v W w base e) : WrRel S kf r base a m v W w e := by
  have z := stkI_bd S.hs
  rcases hr with ⟨hb, _⟩ | ⟨_, u, k, ok, hf, ⟨rfl, rfl, rfl⟩ | ⟨rfl, rfl, R, g, hw, hg, hbg, k0, kn, ho, hch⟩⟩
  · rw [hs] at hb; cases hb
  · left
    rcases find_none h hf hm h1 with e | ⟨_, e⟩
    · exact ⟨by omega, rfl, rfl⟩
    · exact ⟨by omega, rfl, rfl⟩
  · right
    rw [Int.toNat_natCast] at ho
    have keep : ∀ {i : Nat} {x : Value}, r ≠ g → W.cell? ⟨r, i, none⟩ = some x → w.cell? ⟨r, i, none⟩ = some x := fun hne hx => (cell_of_block (hch.block r (lt_of_cell hx) hne)).trans hx
    rcases hw with ⟨rfl, rfl⟩ | ⟨rfl, rfl⟩ | ⟨rfl, rfl⟩ | ⟨rfl, rfl⟩
    · exfalso
      rcases hf with ⟨_, _, _, e⟩ | ⟨e0, _⟩ | ⟨e0, _⟩ | ⟨e0, _⟩ | ⟨e0, _⟩
      · cases e
      all_goals (have := withinB_false e0; omega)
    · have l := h.xl
      have hne := ne_row (v := u) hM.c0 hM.x (by omega) hg
      rw [loc_eq2 ⟨by omega, by omega⟩ hm h1]
      refine ⟨by omega, rfl, { M with x := M.x.put (a - 2097152).toNat m v }, g, ⟨keep hne hM.c0, keep hne hM.c1, keep hne hM.c2, keep hne hM.c3, at_other hM.k hch hg hsep.kx.symm, put_at hM.x hg ho, at_other hM.fr hch hg hsep.xf, at_other hM.s hch hg hsep.xs⟩, ⟨hsep.kx, hsep.kf, hsep.ks, hsep.xf, hsep.xs, hsep.fs⟩, ⟨h.kl, h.kv, h.xl, fun i hi => ?_, h.fl, fun i hi => ?_, h.sl, fun i hi => ?_⟩, hbg, hch⟩
      · have hv := h.xv i hi
        show putF _ _ _ _ _ = if _ then _ else _
        unfold putF plc
        rw [if_pos (show a < 3145728 by omega)]
        by_cases hin : (a - 2097152).toNat ≤ i ∧ i < (a - 2097152).toNat + m
        · rw [if_pos hin, if_pos (by omega), show 1 + i - (1 + (a - 2097152)).toNat = i - (a - 2097152).toNat by omega]
        · rw [if_neg hin, if_neg (by omega), hv]
      · rw [h.fv i hi]
        show _ = if _ then _ else _
        unfold plc
        rw [if_pos (show a < 3145728 by omega), if_neg (by omega)]
      · rw [h.sv i hi]
        show _ = if _ then _ else _
        unfold plc
        rw [if_pos (show a < 3145728 by omega), if_neg (by omega)]
    · have l := h.fl
      have hne := ne_row (v := u) hM.c0 hM.fr (by omega) hg
      rw [loc_eq3 ⟨by omega, by omega⟩ hm h1 h2]
      refine ⟨by omega, rfl, { M with fr := M.fr.put (a - 3145728).toNat m v }, g, ⟨keep hne hM.c0, keep hne hM.c1, keep hne hM.c2, keep hne hM.c3, at_other hM.k hch hg hsep.kf.symm, at_other hM.x hch hg hsep.xf.symm, put_at hM.fr hg ho, at_other hM.s hch hg hsep.fs⟩, ⟨hsep.kx, hsep.kf, hsep.ks, hsep.xf, hsep.xs, hsep.fs⟩, ⟨h.kl, h.kv, h.xl, fun i hi => ?_, h.fl, fun i hi => ?_, h.sl, fun i hi => ?_⟩, hbg, hch⟩
      · rw [h.xv i hi]
        show _ = if _ then _ else _
        have hi' : i < S.n := hi
        unfold plc
        rw [if_neg (show ¬ a < 3145728 by omega), if_pos (show a < 4194304 by omega), if_neg (by omega)]
      · have hv := h.fv i hi
        show putF _ _ _ _ _ = if _ then _ else _
        unfold putF plc
        rw [if_neg (show ¬ a < 3145728 by omega), if_pos (show a < 4194304 by omega)]
        by_cases hin : (a - 3145728).toNat ≤ i ∧ i < (a - 3145728).toNat + m
        · rw [if_pos hin, if_pos (by omega), show 258 + i - (258 + (a - 3145728)).toNat = i - (a - 3145728).toNat by omega]
        · rw [if_neg hin, if_neg (by omega), hv]
      · rw [h.sv i hi]
        show _ = if _ then _ else _
        unfold plc
        rw [if_neg (show ¬ a < 3145728 by omega), if_pos (show a < 4194304 by omega), if_neg (by omega)]
    · have l := h.sl
      have hne := ne_row (v := u) hM.c0 hM.s (by omega) hg
      rw [loc_eq4 ⟨by omega, by omega⟩ hm h1 h2]
      refine ⟨by omega, rfl, { M with s := M.s.put (a - 4194304).toNat m v }, g, ⟨keep hne hM.c0, keep hne hM.c1, keep hne hM.c2, keep hne hM.c3, at_other hM.k hch hg hsep.ks.symm, at_other hM.x hch hg hsep.xs.symm, at_other hM.fr hch hg hsep.fs.symm, put_at hM.s hg ho⟩, ⟨hsep.kx, hsep.kf, hsep.ks, hsep.xf, hsep.xs, hsep.fs⟩, ⟨h.kl, h.kv, h.xl, fun i hi => ?_, h.fl, fun i hi => ?_, h.sl, fun i hi => ?_⟩, hbg, hch⟩
      · rw [h.xv i hi]
        show _ = if _ then _ else _
        have hi' : i < S.n := hi
        unfold plc
        rw [if_neg (show ¬ a < 3145728 by omega), if_neg (show ¬ a < 4194304 by omega), if_neg (by omega)]
      · rw [h.fv i hi]
        show _ = if _ then _ else _
        unfold plc
        rw [if_neg (show ¬ a < 3145728 by omega), if_neg (show ¬ a < 4194304 by omega), if_neg (by omega)]
      · have hv := h.sv i hi
        show putF _ _ _ _ _ = if _ then _ else _
        unfold putF plc
        rw [if_neg (show ¬ a < 3145728 by omega), if_neg (show ¬ a < 4194304 by omega)]
        by_cases hin : (a - 4194304).toNat ≤ i ∧ i < (a - 4194304).toNat + m
        · rw [if_pos hin, if_pos (by omega), show 322 + i - (322 + (a - 4194304)).toNat = i - (a - 4194304).toNat by omega]
        · rw [if_neg hin, if_neg (by omega), hv]
end Go.Proofs.Ytpbnmbeedjhloaa.Rm
