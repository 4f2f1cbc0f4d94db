/-
  Two memories told alike: what each act of the law MemPlays leaves.
-/
import Derived.Test.YtpbnmbeedjhloaaRmK
import Derived.Test.YtpbnmbeedjhloaaRmJ
import Derived.Test.YtpbnmbeedjhloaaRmG
namespace Go.Proofs.Ytpbnmbeedjhloaa.Rm
open Go.RowKit
set_option linter.unusedVariables false
set_option maxRecDepth 100000

theorem row_type {w : World} {b n : Nat} {t : TypeId} {f : Nat → Value} (h : w.rowIs b t n f) : ∃ c, w.heap[b]? = some (.cells c t (0, 0)) := by obtain ⟨c, h1, _⟩ := h; exact ⟨c, h1⟩
theorem own_ty {w : World} {base n : Nat} {v : Value} {f : Nat → Int} (h : Own w base v n f) {g : Nat} (hg : v.ownBlock = some g) : base ≤ g ∧ ∃ c, w.heap[g]? = some (.cells c 5 (0, 0)) := by
  rcases h.2 with ⟨h1, _⟩ | ⟨g', cap, cur, e1, e2, e3, _⟩
  · rw [h1] at hg; cases hg
  · rw [e1] at hg
    injection hg with hg
    subst hg
    exact ⟨e2, cur, e3⟩
theorem own_chg {w w' : World} {base n b : Nat} {v : Value} {f : Nat → Int} {c : Array Value} {t : TypeId} (h : Own w base v n f) (hc : ChgAt b w w') (hb : w.heap[b]? = some (.cells c t (0, 0))) (ht : t ≠ 5) : Own w' base v n f := by
  refine ⟨h.1, ?_⟩
  rcases h.2 with h1 | ⟨g, cap, cur, e1, e2, e3, r⟩
  · exact .inl h1
  · have hne : g ≠ b := by
      rintro rfl
      rw [hb] at e3
      injection e3 with e3
      injection e3 with _ e3 _
      exact ht e3
    exact .inr ⟨g, cap, cur, e1, e2, (hc.block g (Array.getElem?_eq_some_iff.1 e3).1 hne).trans e3, r⟩
theorem ref_chg {M : RefM} {w w' : World} {r base b : Nat} {c : Array Value} {t : TypeId} (h : RefAt M w r base) (hc : ChgAt b w w') (hb : w.heap[b]? = some (.cells c t (0, 0))) (ht : t ≠ 5) (hr : b ≠ r) : RefAt M w' r base := by
  have cell : ∀ {i : Nat} {x : Value}, w.cell? ⟨r, i, none⟩ = some x → w'.cell? ⟨r, i, none⟩ = some x := fun hx => (cell_of_block (hc.block r (lt_of_cell hx) (Ne.symm hr))).trans hx
  have row : ∀ {R : Rw}, R.at w base → R.at w' base := fun h => ⟨own_chg h.own hc hb ht, h.bytes, h.le⟩
  exact ⟨cell h.c0, cell h.c1, cell h.c2, cell h.c3, row h.k, row h.x, row h.fr, row h.s⟩
/-- A write in the document's memory: one row of bytes, that alone. -/
theorem ref_row {M : RefM} {W w : World} {r base : Nat} {a n v : Int} {e : Ending} (hM : RefAt M W r base) (hr : RefWrite M a n v W w base e) : W = w ∨ ∃ g c, base ≤ g ∧ W.heap[g]? = some (.cells c 5 (0, 0)) ∧ ChgAt g W w := by
  rcases hr with ⟨_, _, h⟩ | ⟨_, u, k, ok, hf, ⟨_, _, h⟩ | ⟨_, _, R, g, hw, hg, hbg, k0, kn, ho, hch⟩⟩
  · exact .inl h
  · exact .inl h
  · right
    have hR : R.at W base := by
      rcases hw with ⟨_, rfl⟩ | ⟨_, rfl⟩ | ⟨_, rfl⟩ | ⟨_, rfl⟩
      · exact hM.k
      · exact hM.x
      · exact hM.fr
      · exact hM.s
    obtain ⟨_, c, h2⟩ := own_ty hR.own (g := g) (by unfold Rw.v; rw [hg]; rfl)
    exact ⟨g, c, hbg, h2, hch⟩

/-- Between two acts. -/
structure Play (W : World) (kf : Nat → Int) (r base b : Nat) (S : MemS) (M : RefM) (w : World) : Prop where
  below : Below W.heap.size W w
  mem : Mem S kf w b
  ref : RefAt M w r base
  rel : Rel S kf M
  sep : Sep M
  cb : S.cb < base
  br : b ≠ r
  bW : W.heap.size ≤ b
  baseW : W.heap.size ≤ base
theorem Play.on {W : World} {kf : Nat → Int} {r base b : Nat} {S : MemS} {M : RefM} {w w' : World} (h : Play W kf r base b S M w) (k : Below w.heap.size w w') : Play W kf r base b S M w' :=
  ⟨below_call h.below k, h.mem.below k, h.ref.below k, h.rel, h.sep, h.cb, h.br, h.bW, h.baseW⟩
theorem xat_chg {w w' : World} {X b : Nat} {d t n v : Int} {c1 c2 : Array Value} {t1 t2 : TypeId} (h : XAt w X d t n v) (hC : ChgAt b w w') (hX : w.heap[X]? = some (.cells c1 t1 (0, 0))) (hb : w.heap[b]? = some (.cells c2 t2 (0, 0))) (ht : t1 ≠ t2) : XAt w' X d t n v :=
  h.chg hC (by
    rintro rfl
    rw [hX] at hb
    injection hb with hb
    injection hb with _ hb _
    exact ht hb)
/-- What is told of the act's own block. -/
def XBox (w : World) (X : Nat) (d t n v : Int) : Prop := XAt w X d t n v ∧ ∃ c, w.heap[X]? = some (.cells c 35 (0, 0))
theorem XBox.below {w w' : World} {X : Nat} {d t n v : Int} (h : XBox w X d t n v) (b : Below w.heap.size w w') : XBox w' X d t n v := by
  obtain ⟨h1, c, h2⟩ := h
  exact ⟨h1.below b, c, (b.block X h1.lt).trans h2⟩
theorem XBox.chg {w w' : World} {X b : Nat} {d t n v : Int} {c2 : Array Value} {t2 : TypeId} (h : XBox w X d t n v) (hC : ChgAt b w w') (hb : w.heap[b]? = some (.cells c2 t2 (0, 0))) (ht : 35 ≠ t2) : XBox w' X d t n v := by
  obtain ⟨h1, c, h2⟩ := h
  refine ⟨xat_chg h1 hC h2 hb ht, c, (hC.block X h1.lt ?_).trans h2⟩
  rintro rfl
  rw [h2] at hb
  injection hb with hb
  injection hb with _ hb _
  exact ht hb

/-- Both write; both answer alike, and are alike behind it. -/
theorem play_write {W : World} {kf : Nat → Int} {r base b : Nat} {S : MemS} {M : RefM} {w0 : World} {X : Nat} {d t n v : Int} (h : Play W kf r base b S M w0) (hx : XBox w0 X d t n v) (t0 : 0 ≤ t) (t1 : t < 18446744073709551616) (n0 : -9223372036854775808 ≤ n) (n1 : n ≤ 9223372036854775807) (v0 : 0 ≤ v) (v1 : v < 18446744073709551616) :
    ∃ (ev : Int) (P1 P2 : World → Prop),
      (∀ w, Below w0.heap.size w0 w → Calls Try.prog 17 #[.pointer (some ⟨b, 0, none⟩), .int .u64 t, .int .i64 n, .int .u64 v] w fun e w' => e = .returned (.int .i64 ev) ∧ P1 w') ∧
      (∀ w, P1 w → Calls Try.prog 18 #[.pointer (some ⟨r, 0, none⟩), .int .u64 t, .int .i64 n, .int .u64 v] w fun e w' => e = .returned (.int .i64 ev) ∧ P2 w') ∧
      (∀ w, Below w0.heap.size w0 w → XBox w X d t n v) ∧ (∀ w, P1 w → XBox w X d t n v) ∧ (∀ w, P2 w → XBox w X d t n v) ∧ (∀ w, P2 w → ∃ S' M', Play W kf r base b S' M' w) ∧ (∀ w, P1 w → P1 w.drew) ∧ (∀ w, P2 w → P2 w.drew) := by
  have sw := sized_wrap n n0 n1
  cases hs : szB (IntKind.u64.wrap n)
  · rw [hs] at sw
    refine ⟨2, fun w => Below w0.heap.size w0 w, fun w => Below w0.heap.size w0 w, fun w k => ?_, fun w k => ?_, fun w k => hx.below k, fun w k => hx.below k, fun w k => hx.below k, fun w k => ⟨S, M, h.on k⟩, fun w k => k.drew, fun w k => k.drew⟩
    · exact (write_bad b t n v w hs).mono fun e w' ⟨he, hb⟩ => ⟨he, below_call k hb⟩
    · refine (r_write M r base t n v w (h.ref.below k) t0 t1 v0 v1).mono fun e w' hr => ?_
      rcases hr with ⟨_, he, rfl⟩ | ⟨hb, _⟩
      · exact ⟨he, k⟩
      · rw [← sw] at hb; cases hb
  · rw [hs] at sw
    obtain ⟨m, rfl⟩ : ∃ m : Nat, n = m := by
      have : (n = 1 ∨ n = 2) ∨ n = 4 ∨ n = 8 := by have := sw.symm; simpa [sizedB, or_assoc] using this
      exact ⟨n.toNat, by omega⟩
    have hm8 : m = 1 ∨ m = 2 ∨ m = 4 ∨ m = 8 := by
      have := sw.symm; simp [sizedB] at this; omega
    have hsm : szB m = true := by rcases hm8 with rfl | rfl | rfl | rfl <;> decide
    have hm1 : 1 ≤ (m : Int) := by omega
    have hcn := h.mem.at_.cn
    have hnn := h.mem.at_.n
    by_cases hl : 1 < locI S.cn S.n S.hs t m
    · refine ⟨0, fun w => ∃ w1, Below w0.heap.size w0 w1 ∧ (S.putAt t m v).at w b ∧ ChgAt b w1 w, fun w => (∃ S' M', Play W kf r base b S' M' w) ∧ XBox w X d t m v, fun w k => ?_, fun w k => ?_, fun w k => hx.below k, fun w k => ?_, fun w k => k.2, fun w k => k.1, fun w k => ?_, fun w k => ?_⟩
      · exact (write_yes S b t v m w (h.mem.below k).at_ hsm t0 t1 hl v0 v1).mono fun e w' ⟨he, h1, h2⟩ => ⟨he, w, k, h1, h2⟩
      · obtain ⟨w1, k1, k2, k3⟩ := k
        have hp := h.on k1
        obtain ⟨cb, hcb⟩ := row_type hp.mem.at_.row
        have hmem : Mem (S.putAt t m v) kf w b := hp.mem.chg k2 k3
        have href := ref_chg hp.ref k3 hcb (by decide) hp.br
        have hxb := (hx.below k1).chg k3 hcb (by decide)
        have hbl : Below W.heap.size W w := k3.below hp.below hp.bW hp.below.size
        refine (r_write M r base t m v w href t0 t1 v0 v1).mono fun e w' hr => ?_
        have hrow := ref_row href hr
        rcases write_rel hp.rel hp.sep hcn hnn hm1 (by rw [← sw]) href hr with ⟨h1, _⟩ | ⟨_, he, M', g, hM', hs', hr', hbg, hch⟩
        · omega
        · refine ⟨he, ?_⟩
          obtain ⟨cb2, hcb2⟩ := row_type hmem.at_.row
          rcases hrow with rfl | ⟨g2, c2, hg2, hc2, hch2⟩
          · exact ⟨⟨_, M', hbl, hmem, hM', hr', hs', hp.cb, hp.br, hp.bW, hp.baseW⟩, hxb⟩
          · refine ⟨⟨_, M', hch2.below hbl (Nat.le_trans hp.baseW hg2) hbl.size, hmem.other hch2 ?_ ?_, hM', hr', hs', hp.cb, hp.br, hp.bW, hp.baseW⟩, hxb.chg hch2 hc2 (by decide)⟩
            · rintro rfl
              rw [hcb2] at hc2
              injection hc2 with hc2
              injection hc2 with _ hc2 _
              exact absurd hc2 (by decide)
            · have := hp.cb
              show S.cb ≠ g2
              omega
      · obtain ⟨w1, k1, k2, k3⟩ := k
        obtain ⟨cb, hcb⟩ := row_type (h.mem.below k1).at_.row
        exact (hx.below k1).chg k3 hcb (by decide)
      · obtain ⟨w1, k1, k2, k3⟩ := k
        exact ⟨w1, k1, k2.below (Below.drew (Below.refl _ _)), ⟨k3.os, k3.tape, k3.output, k3.size, k3.block⟩⟩
      · obtain ⟨⟨S', M', hp⟩, hb⟩ := k
        exact ⟨⟨S', M', hp.on (Below.drew (Below.refl _ _))⟩, hb.below (Below.drew (Below.refl _ _))⟩
    · refine ⟨20, fun w => Below w0.heap.size w0 w, fun w => Below w0.heap.size w0 w, fun w k => ?_, fun w k => ?_, fun w k => hx.below k, fun w k => hx.below k, fun w k => hx.below k, fun w k => ⟨S, M, h.on k⟩, fun w k => k.drew, fun w k => k.drew⟩
      · exact (write_no S b t v m w (h.mem.below k).at_ hsm t0 t1 (by omega)).mono fun e w' ⟨he, hb⟩ => ⟨he, below_call k hb⟩
      · refine (r_write M r base t m v w (h.ref.below k) t0 t1 v0 v1).mono fun e w' hr => ?_
        rcases write_rel h.rel h.sep hcn hnn hm1 (by rw [← sw]) (h.ref.below k) hr with ⟨_, he, rfl⟩ | ⟨h1, _⟩
        · exact ⟨he, k⟩
        · omega

/-- Both read alike. -/
theorem play_read {W : World} {kf : Nat → Int} {r base b : Nat} {S : MemS} {M : RefM} {w0 : World} {t n : Int} (h : Play W kf r base b S M w0) (t0 : 0 ≤ t) (t1 : t < 18446744073709551616) (n0 : -9223372036854775808 ≤ n) (n1 : n ≤ 9223372036854775807) :
    ∃ (vv ev : Int), (∀ w, Below w0.heap.size w0 w → Calls Try.prog 19 #[.pointer (some ⟨b, 0, none⟩), .int .u64 t, .int .i64 n] w fun e w' => e = .returned (.tuple #[.int .u64 vv, .int .i64 ev]) ∧ Below w.heap.size w w') ∧
      (∀ w, Below w0.heap.size w0 w → Calls Try.prog 20 #[.pointer (some ⟨r, 0, none⟩), .int .u64 t, .int .i64 n] w fun e w' => e = .returned (.tuple #[.int .u64 vv, .int .i64 ev]) ∧ w = w') := by
  have sw := sized_wrap n n0 n1
  cases hs : szB (IntKind.u64.wrap n)
  · rw [hs] at sw
    refine ⟨0, 2, fun w k => read_bad b t n w hs, fun w k => ?_⟩
    refine (r_read M r base t n w (h.ref.below k) t0 t1).mono fun e w' ⟨hr, hw⟩ => ?_
    rcases hr with ⟨_, he⟩ | ⟨hb, _⟩
    · exact ⟨he, hw⟩
    · rw [← sw] at hb; cases hb
  · rw [hs] at sw
    obtain ⟨m, rfl⟩ : ∃ m : Nat, n = m := by
      have : (n = 1 ∨ n = 2) ∨ n = 4 ∨ n = 8 := by have := sw.symm; simpa [sizedB, or_assoc] using this
      exact ⟨n.toNat, by omega⟩
    have hm8 : m = 1 ∨ m = 2 ∨ m = 4 ∨ m = 8 := by
      have := sw.symm; simp [sizedB] at this; omega
    have hsm : szB m = true := by rcases hm8 with rfl | rfl | rfl | rfl <;> decide
    refine ⟨readV S kf t m, readE S t m, fun w k => read_any S kf b t m w (h.mem.below k) hsm t0 t1, fun w k => ?_⟩
    exact (r_read M r base t m w (h.ref.below k) t0 t1).mono fun e w' ⟨hr, hw⟩ => ⟨read_rel h.rel h.mem.at_.cn h.mem.at_.n (by omega) (by rw [← sw]) hr, hw⟩

/-- Both fetch alike. -/
theorem play_fetch {W : World} {kf : Nat → Int} {r base b : Nat} {S : MemS} {M : RefM} {w0 : World} {t : Int} (h : Play W kf r base b S M w0) (t0 : 0 ≤ t) (t1 : t < 18446744073709551616) :
    ∃ (C : ByteArray) (ev : Int), (∀ w, Below w0.heap.size w0 w → Calls Try.prog 21 #[.pointer (some ⟨b, 0, none⟩), .int .u64 t] w fun e w' => ∃ v, e = .returned (.tuple #[v, .int .i64 ev]) ∧ Below w.heap.size w w' ∧ StrIn v C w') ∧
      (∀ w, Below w0.heap.size w0 w → Calls Try.prog 22 #[.pointer (some ⟨r, 0, none⟩), .int .u64 t] w fun e w' => ∃ v, e = .returned (.tuple #[v, .int .i64 ev]) ∧ Below w.heap.size w w' ∧ StrIn v C w') := by
  have hk := h.rel.kl
  have nil : ∀ w, StrIn (.slice none 0 0) (strOf (fun _ => 0) 0) w := fun w w' _ => conv_empty none 0 w'
  by_cases hc : 1048576 ≤ t ∧ t < 1048576 + S.cn
  · obtain ⟨q, hq⟩ : ∃ q : Nat, t = 1048576 + q := ⟨(t - 1048576).toNat, by omega⟩
    have hql : q < S.cn := by omega
    refine ⟨strOf (fun i => kf (q + i)) (S.cn - q), 0, fun w k => ?_, fun w k => ?_⟩
    · exact (fetch_yes S kf b t q (S.cn - q) w (h.mem.below k) hq (by omega) (by omega)).mono fun e w' ⟨z, he, _, hb, hr⟩ => ⟨_, he, hb, str_row hr _⟩
    · refine (r_fetch M r base t w (h.ref.below k) t0 t1).mono fun e w' hr => ?_
      rcases hr with ⟨hb, _⟩ | ⟨_, v, he, hb, ho⟩
      · exact absurd ⟨hc.1, by omega, by omega⟩ (withinB_false hb)
      · refine ⟨v, he, hb, ?_⟩
        have e := str_own ho
        rw [show (t - 1048576).toNat = q by omega] at e
        rw [strOf_eq (g := fun i => kf (q + i)) (m := S.cn - q) (by omega) (fun i hi => h.rel.kv _ (by omega))] at e
        exact e
  · refine ⟨strOf (fun _ => 0) 0, 20, fun w k => ?_, fun w k => ?_⟩
    · exact (fetch_no S kf b t w (h.mem.below k) t0 t1 hc).mono fun e w' ⟨he, hb⟩ => ⟨_, he, hb, nil _⟩
    · refine (r_fetch M r base t w (h.ref.below k) t0 t1).mono fun e w' hr => ?_
      rcases hr with ⟨_, he, hw⟩ | ⟨hb, _⟩
      · exact ⟨_, he, by subst hw; exact Below.refl _ _, nil _⟩
      · have := withinB_true hb
        exact absurd ⟨by omega, by omega⟩ hc
end Go.Proofs.Ytpbnmbeedjhloaa.Rm
