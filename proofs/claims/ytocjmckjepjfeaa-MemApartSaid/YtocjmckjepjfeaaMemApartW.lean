/-
  The walk of the law MemApart.
-/
import Derived.Test.YtocjmckjepjfeaaMemApM
import Derived.Deep.DeepCutAuto
namespace Go.Proofs.Ytocjmckjepjfeaa.Apart
open Go.RowKit
set_option linter.unusedVariables false
set_option linter.unnecessarySimpa false
set_option linter.unusedSimpArgs false

def kf3 (i : Nat) : Int := ([1, 2, 3] : List Int).getD i 0
theorem src3 (w : World) : Src (w.alloc (.cells #[.int .u8 1, .int .u8 2, .int .u8 3] 5)) (some ⟨w.heap.size, 0, none⟩) 3 3 kf3 :=
  ⟨Nat.le_refl _, by omega, fun _ => ⟨w.heap.size, 0, rfl, fun i hi => by
    have : i = 0 ∨ i = 1 ∨ i = 2 := by omega
    rcases this with rfl | rfl | rfl <;> simp [kf3]⟩, fun i hi => by
    have : i = 0 ∨ i = 1 ∨ i = 2 := by omega
    rcases this with rfl | rfl | rfl <;> decide⟩

/-- What the operations of the region that takes the three parts yield. -/
def apartR (w4 : World) (S : MemS) (b : Nat) (C1 C3 : ByteArray) : Nat → Value → Value → World → Prop
  | 0, x, _, _ => x = .pointer (some ⟨b, 0, none⟩)
  | 1, x, _, w => ∃ z, x = .slice (some ⟨z, 0, none⟩) S.n S.n ∧ w.rowIs z 5 S.n (fun i => .int .u8 (S.g (1 + i))) ∧ w4.heap.size ≤ z
  | 2, x, _, _ => x = .string C1
  | 3, x, _, _ => x = .pointer (some ⟨b, 0, none⟩)
  | 4, x, _, _ => x = .agg S.frm
  | 5, x, _, _ => x = .pointer (some ⟨b, 0, none⟩)
  | 6, x, _, w => ∃ z, x = .slice (some ⟨z, 0, none⟩) 264 264 ∧ w.rowIs z 5 264 (fun i => .int .u8 (S.g (322 + i))) ∧ w4.heap.size ≤ z
  | 7, x, _, _ => x = .string C3
  | 8, x, _, w => ∃ g c, x = .pointer (some ⟨g, 0, none⟩) ∧ w.heap[g]? = some (.cells c 45 (0, 0)) ∧ c.size = 64 ∧ w4.heap.size ≤ g
  | 9, x, _, _ => x = .string C1
  | 10, _, u, w => ∃ g, u = .pointer (some ⟨g, 0, none⟩) ∧ w.heap[g]? = some (.cells S.frm 45 (0, 0)) ∧ w4.heap.size ≤ g
  | 11, x, _, _ => x = .string C3
  | _, _, _, _ => True
theorem heap_lt {w : World} {g : Nat} {o : Obj} (h : w.heap[g]? = some o) : g < w.heap.size := (Array.getElem?_eq_some_iff.1 h).1
theorem apartR_grow {w4 : World} {S : MemS} {b : Nat} {C1 C3 : ByteArray} {w w' : World} (h : ∀ g, g < w.heap.size → w'.heap[g]? = w.heap[g]?) {j : Nat} {x u : Value} (hr : apartR w4 S b C1 C3 j x u w) : apartR w4 S b C1 C3 j x u w' := by
  unfold apartR at *
  split at hr
  · exact hr
  · obtain ⟨z, h1, h2, h3⟩ := hr; exact ⟨z, h1, h2.of_block (h z h2.lt), h3⟩
  · exact hr
  · exact hr
  · exact hr
  · exact hr
  · obtain ⟨z, h1, h2, h3⟩ := hr; exact ⟨z, h1, h2.of_block (h z h2.lt), h3⟩
  · exact hr
  · obtain ⟨g, c, h1, h2, h3⟩ := hr; exact ⟨g, c, h1, (h g (heap_lt h2)).trans h2, h3⟩
  · exact hr
  · obtain ⟨g, h1, h2, h3⟩ := hr; exact ⟨g, h1, (h g (heap_lt h2)).trans h2, h3⟩
  · exact hr
  · trivial
theorem apartR_below {w4 : World} {S : MemS} {b : Nat} {C1 C3 : ByteArray} {w w' : World} (h : Below w.heap.size w w') {j : Nat} {x u : Value} (hr : apartR w4 S b C1 C3 j x u w) : apartR w4 S b C1 C3 j x u w' := apartR_grow (fun g hg => h.block g hg) hr

theorem apartR_store {w4 : World} {S : MemS} {b : Nat} {C1 C3 : ByteArray} {w w' : World} {g : Nat} {c : Array Value} (s : Stored w g S.frm 45 w') (hc : w.heap[g]? = some (.cells c 45 (0, 0))) {j : Nat} {x u : Value} (hr : apartR w4 S b C1 C3 j x u w) : apartR w4 S b C1 C3 j x u w' := by
  have hz : ∀ {z n : Nat} {f : Nat → Value}, w.rowIs z 5 n f → z ≠ g := by
    rintro z n f ⟨c', h', _⟩ rfl
    rw [hc] at h'
    simp at h'
  have h64 : S.frm.size = 64 := by unfold MemS.frm; rw [List.size_toArray, bytesOf_length]
  unfold apartR at *
  split at hr
  · exact hr
  · obtain ⟨z, h1, h2, h3⟩ := hr; exact ⟨z, h1, h2.of_block (s.other z (hz h2)), h3⟩
  · exact hr
  · exact hr
  · exact hr
  · exact hr
  · obtain ⟨z, h1, h2, h3⟩ := hr; exact ⟨z, h1, h2.of_block (s.other z (hz h2)), h3⟩
  · exact hr
  · obtain ⟨g', c', h1, h2, h3⟩ := hr
    by_cases e : g' = g
    · subst e; exact ⟨g', _, h1, s.row, h64, h3.2⟩
    · exact ⟨g', c', h1, (s.other g' e).trans h2, h3⟩
  · exact hr
  · obtain ⟨g', h1, h2, h3⟩ := hr
    by_cases e : g' = g
    · subst e; exact ⟨g', h1, s.row, h3⟩
    · exact ⟨g', h1, (s.other g' e).trans h2, h3⟩
  · exact hr
  · trivial

theorem bytesOf_eq {f g : Nat → Int} {n : Nat} (h : ∀ i, i < n → f i = g i) : bytesOf f n = bytesOf g n := by
  apply List.ext_getElem?
  intro i
  by_cases hi : i < n
  · rw [bytesOf_get _ _ i hi, bytesOf_get _ _ i hi, h i hi]
  · rw [List.getElem?_eq_none (by rw [bytesOf_length]; omega), List.getElem?_eq_none (by rw [bytesOf_length]; omega)]
/-- What stays alike, as the law asks it. -/
theorem keeps_told {S S' : MemS} {r : Int} {C1 C3 : ByteArray} (h : Keeps S S' r) (hn : S'.n = S.n) (h1 : strOf (fun i => S.g (1 + (0 + i))) S.n = C1) (h3 : strOf (fun i => S.g (322 + (0 + i))) 264 = C3) :
    ((r != 2) = true → strOf (fun i => S'.g (1 + (0 + i))) S'.n = C1) ∧ ((r != 3) = true → S'.frm = S.frm) ∧ ((r != 4) = true → strOf (fun i => S'.g (322 + (0 + i))) 264 = C3) := by
  refine ⟨fun hb => ?_, fun hb => ?_, fun hb => ?_⟩
  · rw [← h1]
    exact strOf_eq hn (fun i hi => by rw [Nat.zero_add]; exact h.1 (by simpa using hb) i (by omega))
  · unfold MemS.frm
    rw [bytesOf_eq (h.2.1 (by simpa using hb))]
  · rw [← h3]
    exact strOf_eq rfl (fun i hi => by rw [Nat.zero_add]; exact h.2.2 (by simpa using hb) i hi)
def apR16 (r : Int) (b : Nat) (S S' : MemS) (C1 C3 : ByteArray) : Nat → Value → Value → World → Prop
  | 0, v, _, w => v = .int .i8 r
  | 1, v, _, w => v = .bool (r != 2)
  | 2, v, _, w => v = .bool (r != 2)
  | 3, v, _, w => (r != 2) = true → v = .pointer (some ⟨b, 0, none⟩)
  | 4, v, _, w => (r != 2) = true → ∃ z, v = .slice (some ⟨z, 0, none⟩) S'.n S'.n ∧ w.rowIs z 5 S'.n (fun i => .int .u8 (S'.g (1 + i)))
  | 5, v, _, w => (r != 2) = true → v = .string C1
  | 6, v, _, w => (r != 2) = true → v = .string C1
  | 7, v, _, w => (r != 2) = true → v = .bool false
  | 8, v, _, w => v = .bool false
  | 9, v, _, w => v = .bool false
  | 10, v, _, w => v = .int .i8 r
  | 11, v, _, w => v = .bool (r != 3)
  | 12, v, _, w => v = .bool (r != 3)
  | 13, v, _, w => (r != 3) = true → v = .pointer (some ⟨b, 0, none⟩)
  | 14, v, _, w => (r != 3) = true → v = .agg S.frm
  | 15, v, _, w => (r != 3) = true → v = .agg S.frm
  | 16, v, _, w => (r != 3) = true → v = .bool false
  | 17, v, _, w => v = .bool false
  | 18, v, _, w => v = .bool false
  | 19, v, _, w => v = .bool false
  | 20, v, _, w => v = .int .i8 r
  | 21, v, _, w => v = .bool (r != 4)
  | 22, v, _, w => v = .bool (r != 4)
  | 23, v, _, w => (r != 4) = true → v = .pointer (some ⟨b, 0, none⟩)
  | 24, v, _, w => (r != 4) = true → ∃ z, v = .slice (some ⟨z, 0, none⟩) 264 264 ∧ w.rowIs z 5 264 (fun i => .int .u8 (S'.g (322 + i)))
  | 25, v, _, w => (r != 4) = true → v = .string C3
  | 26, v, _, w => (r != 4) = true → v = .string C3
  | 27, v, _, w => (r != 4) = true → v = .bool false
  | 28, v, _, w => v = .bool false
  | 29, v, _, w => v = .bool false
  | _, _, _, _ => True
theorem apR16_below {r : Int} {b : Nat} {S S' : MemS} {C1 C3 : ByteArray} {w w' : World} (k : Below w.heap.size w w') {j : Nat} {v u : Value} (h : apR16 r b S S' C1 C3 j v u w) : apR16 r b S S' C1 C3 j v u w' := by
  unfold apR16 at *
  split at h <;> first
  | exact h
  | trivial
  | (obtain ⟨z, h1, h2⟩ := h; exact ⟨z, h1, h2.of_block (k.block z h2.lt)⟩)
  | (intro hb; obtain ⟨z, h1, h2⟩ := h hb; exact ⟨z, h1, h2.of_block (k.block z h2.lt)⟩)
def apR18 (b' : Nat) (S : MemS) (C1 C3 : ByteArray) : Nat → Value → Value → World → Prop
  | 0, v, _, w => v = .pointer (some ⟨b', 0, none⟩)
  | 1, v, _, w => v = .bool false
  | 2, v, _, w => v = .bool false
  | 3, v, _, w => v = .pointer (some ⟨b', 0, none⟩)
  | 4, v, _, w => ∃ z, v = .slice (some ⟨z, 0, none⟩) S.n S.n ∧ w.rowIs z 5 S.n (fun i => .int .u8 (S.g (1 + i)))
  | 5, v, _, w => v = .string C1
  | 6, v, _, w => v = .string C1
  | 7, v, _, w => v = .bool false
  | 8, v, _, w => v = .bool false
  | 9, v, _, w => v = .bool false
  | 10, v, _, w => v = .pointer (some ⟨b', 0, none⟩)
  | 11, v, _, w => v = .agg S.frm
  | 12, v, _, w => v = .agg S.frm
  | 13, v, _, w => v = .bool false
  | 14, v, _, w => v = .bool false
  | 15, v, _, w => v = .bool false
  | 16, v, _, w => v = .pointer (some ⟨b', 0, none⟩)
  | 17, v, _, w => ∃ z, v = .slice (some ⟨z, 0, none⟩) 264 264 ∧ w.rowIs z 5 264 (fun i => .int .u8 (S.g (322 + i)))
  | 18, v, _, w => v = .string C3
  | 19, v, _, w => v = .string C3
  | 20, v, _, w => v = .bool false
  | 21, v, _, w => v = .bool false
  | _, _, _, _ => True
theorem apR18_below {b' : Nat} {S : MemS} {C1 C3 : ByteArray} {w w' : World} (k : Below w.heap.size w w') {j : Nat} {v u : Value} (h : apR18 b' S C1 C3 j v u w) : apR18 b' S C1 C3 j v u w' := by
  unfold apR18 at *
  split at h <;> first
  | exact h
  | trivial
  | (obtain ⟨z, h1, h2⟩ := h; exact ⟨z, h1, h2.of_block (k.block z h2.lt)⟩)
  | (intro hb; obtain ⟨z, h1, h2⟩ := h hb; exact ⟨z, h1, h2.of_block (k.block z h2.lt)⟩)

set_option maxRecDepth 100000 in
set_option maxHeartbeats 16000000 in
theorem apart_main (ca : Option Addr) (cl cc : Nat) (cf : Nat → Int) (la : Option Addr) (ll lc : Nat) (d t n v : Nat → Int) (W : World) (hc : Src W ca cl cc cf) (hl : Acts W la ll lc d t n v) (h1 : cl ≤ 256) (h3 : ll ≤ 60) :
    Calls Try.prog 6 #[.slice ca cl cc, .slice la ll lc] W fun e w' => e = .returned (.bool true) ∧ Below W.heap.size W w' := by
  have k1 : (cl : Int) ≤ 256 := by omega
  have k3 : (ll : Int) ≤ 60 := by omega
  have HC := Lib.hid hc
  have HL := Lib.hid hl
  clear hc hl
  go_enter Try.func6, Try.ntmps6
  go_wp2_with fail
  refine (new_any ca cl cc cf _ 3 3 kf3 true _ (HC.out.below (below_new (Below.refl _ W) _)) (src3 W) h1 (by omega)).mono ?_
  rintro e w1 ⟨b, cb, rfl, hb, hcb, b1, hN, hC⟩
  have hWb : W.heap.size ≤ b := by simp at hb; omega
  have R1 := Lib.hid (show BackRel W kf3 3 cl b w1 from ⟨below_call (below_new (Below.refl _ W) _) b1, newMem cb 3 cl true cf, ⟨hN, hC, (src3 W).bytes⟩, rfl, rfl, rfl⟩)
  clear hN hC b1 hcb hb
  go_wp2_with fail
  go_loopw [7] (fun i wr => ∃ k : Nat, k ≤ ll ∧ i = .int .i64 k ∧ Hid (BackRel W kf3 3 cl b wr)) (fun i _ => ll - (intOf i).toNat)
  case atStart => exact ⟨0, by omega, rfl, R1⟩
  case round =>
    obtain ⟨k, hk, rfl, hR⟩ := hrel
    by_cases hlt : k < ll
    · obtain ⟨B, o, rfl, hcells⟩ := HL.out.here (by omega)
      obtain ⟨hB0, S, hM0, hcn, hn, hhs⟩ := hR.out
      have HA := Lib.hid (rangeAt_below hB0 (hcells k hlt))
      have HI := Lib.hid (show (Try.prog.info? 35).map (·.size) = some [Value.int .i64 (d k), .int .u64 (t k), .int .i64 (n k), .int .u64 (v k)].length from info_act)
      obtain ⟨hd, ⟨ht0, ht1⟩, ⟨hn0, hn1⟩, hv0, hv1⟩ := HL.out.nums k hlt
      have HB := Lib.hid hB0; have HM := Lib.hid hM0; have HH := Lib.hid (And.intro hcn (And.intro hn hhs))
      clear hcells hB0 hM0 hcn hn hhs hd
      generalize d k = dk at *
      generalize t k = tk at *
      generalize n k = nk at *
      generalize v k = vk at *
      go_upto_region 10 with (refine wpList_load_mid rfl 35 _ rfl B (o + k * 4) rfl [.int .i64 dk, .int .u64 tk, .int .i64 nk, .int .u64 vk] _ HA.out Try.underlying35 rfl HI.out ?_)
      have M1 := Lib.hid (HM.out.below (below_new (Below.refl _ wr) (.cells #[.int .i64 dk, .int .u64 tk, .int .i64 nk, .int .u64 vk] 35)))
      have B1 := Lib.hid (below_new HB.out (.cells #[.int .i64 dk, .int .u64 tk, .int .i64 nk, .int .u64 vk] 35))
      have X1 := Lib.hid (show XAt (wr.alloc (.cells #[.int .i64 dk, .int .u64 tk, .int .i64 nk, .int .u64 vk] 35)) wr.heap.size dk tk nk vk from ⟨by simp, by simp, by simp, by simp⟩)
      have bX : b ≠ wr.heap.size := by have := HM.out.at_.row.lt; omega
      generalize wr.heap.size = X at *
      generalize wr.alloc (.cells #[.int .i64 dk, .int .u64 tk, .int .i64 nk, .int .u64 vk] 35) = v1 at *
      clear HA HI
      go_wp2_with fail
      refine (copy_any S b _ M1.out.at_ M1.out.code.lt).mono ?_
      rintro e w4 ⟨b', rfl, hb', b4, hN4⟩
      have M4 := Lib.hid (M1.out.below b4)
      have bb : b < b' := by have := M1.out.at_.row.lt; omega
      have T4 := Lib.hid (show BackSt W kf3 b b' X S S dk tk nk vk w4 from ⟨below_call B1.out b4, M4.out, ⟨hN4, M4.out.code, M4.out.kb⟩, X1.out.below b4⟩)
      clear b4 hN4 hb'
      go_wp2_with fail
      generalize hC1 : strOf (fun i => S.g (1 + (0 + i))) S.n = C1
      generalize hC3 : strOf (fun i => S.g (322 + (0 + i))) 264 = C3
      refine wp_region_inv (fun i => if i = 10 then 11 else 100000) (fun w => Below w4.heap.size w4 w) (apartR w4 S b C1 C3) (by kernel_rfl) (back_of (by kernel_rfl)) (dst_of (by kernel_rfl)) (dep_of (by kernel_rfl)) (in_of (by kernel_rfl)) (Below.drew (Below.refl _ w4)) ?hop ?hq
      case hop =>
        intro i o a w ho hS hdf hsz hrest hdone
        have e5 : a.tmps.getD 5 undef = .pointer (some ⟨b, 0, none⟩) := hrest 5 (not_of (by kernel_rfl))
        have hs124 : a.tmps.size = 124 := hsz.trans rfl
        have hi : i < 12 := (Array.getElem?_eq_some_iff.1 ho).1
        have MW := (T4.out.mem.below hS)
        obtain rfl | rfl | rfl | rfl | rfl | rfl | rfl | rfl | rfl | rfl | rfl | rfl : i = 0 ∨ i = 1 ∨ i = 2 ∨ i = 3 ∨ i = 4 ∨ i = 5 ∨ i = 6 ∨ i = 7 ∨ i = 8 ∨ i = 9 ∨ i = 10 ∨ i = 11 := by omega
        · obtain rfl := Option.some.inj (show some _ = some o from ho)
          refine wpOp_val (v := .pointer (some ⟨b, 0, none⟩)) (w' := w) rfl rfl ?_ ⟨_, rfl, ?_, hS, fun _ _ _ h => h⟩
          · simp [execOp, Act.eval, e5]
          · rw [own_put rfl (by rw [hs124]; omega)]; rfl
        · obtain rfl := Option.some.inj (show some _ = some o from ho)
          have h48 : a.tmps.getD 48 undef = .pointer (some ⟨b, 0, none⟩) := hdone _ (Array.mem_of_getElem? (i := 0) rfl) rfl _ rfl
          refine wpOp_call (f := 20) (args := #[.pointer (some ⟨b, 0, none⟩)]) rfl rfl ?_ ?_
          · simp [go_sem, execOp, Act.eval, Deferred.ofValue, callFunc, Try.func20, Try.f20, h48, resolve, invoke]
          · refine (context_any S b _ MW.at_).mono ?_
            rintro e w' ⟨rfl, b9, r9⟩
            refine ⟨_, rfl, _, rfl, ?_, below_call hS b9, fun _ _ _ h => apartR_below b9 h⟩
            rw [own_put rfl (by rw [hs124]; omega)]
            exact ⟨_, rfl, r9, hS.size⟩
        · obtain rfl := Option.some.inj (show some _ = some o from ho)
          obtain ⟨z, hz, rz, _⟩ : ∃ z, a.tmps.getD 49 undef = .slice (some ⟨z, 0, none⟩) S.n S.n ∧ _ := hdone _ (Array.mem_of_getElem? (i := 0) rfl) rfl _ rfl
          refine wpOp_val (v := .string C1) (w' := w) rfl rfl ?_ ⟨_, rfl, ?_, hS, fun _ _ _ h => h⟩
          · have hcv := conv_row rz 0 S.n S.n (by omega)
            rw [hC1] at hcv
            simp [execOp, Act.eval, hz, hcv]
          · rw [own_put rfl (by rw [hs124]; omega)]; rfl
        · obtain rfl := Option.some.inj (show some _ = some o from ho)
          refine wpOp_val (v := .pointer (some ⟨b, 0, none⟩)) (w' := w) rfl rfl ?_ ⟨_, rfl, ?_, hS, fun _ _ _ h => h⟩
          · simp [execOp, Act.eval, e5]
          · rw [own_put rfl (by rw [hs124]; omega)]; rfl
        · obtain rfl := Option.some.inj (show some _ = some o from ho)
          have hsl : a.tmps.getD 51 undef = .pointer (some ⟨b, 0, none⟩) := hdone _ (Array.mem_of_getElem? (i := 0) rfl) rfl _ rfl
          refine wpOp_call (f := 22) (args := #[.pointer (some ⟨b, 0, none⟩)]) rfl rfl ?_ ?_
          · simp [go_sem, execOp, Act.eval, Deferred.ofValue, callFunc, Try.func22, Try.f22, hsl, resolve, invoke]
          · refine (frame_any S b _ MW.at_).mono ?_
            rintro e w' ⟨rfl, b9⟩
            refine ⟨_, rfl, _, rfl, ?_, below_call hS b9, fun _ _ _ h => apartR_below b9 h⟩
            rw [own_put rfl (by rw [hs124]; omega)]
            rfl
        · obtain rfl := Option.some.inj (show some _ = some o from ho)
          refine wpOp_val (v := .pointer (some ⟨b, 0, none⟩)) (w' := w) rfl rfl ?_ ⟨_, rfl, ?_, hS, fun _ _ _ h => h⟩
          · simp [execOp, Act.eval, e5]
          · rw [own_put rfl (by rw [hs124]; omega)]; rfl
        · obtain rfl := Option.some.inj (show some _ = some o from ho)
          have hsl : a.tmps.getD 53 undef = .pointer (some ⟨b, 0, none⟩) := hdone _ (Array.mem_of_getElem? (i := 0) rfl) rfl _ rfl
          refine wpOp_call (f := 21) (args := #[.pointer (some ⟨b, 0, none⟩)]) rfl rfl ?_ ?_
          · simp [go_sem, execOp, Act.eval, Deferred.ofValue, callFunc, Try.func21, Try.f21, hsl, resolve, invoke]
          · refine (stack_yes S b _ MW.at_ HH.out.2.2).mono ?_
            rintro e w' ⟨rfl, b9, r9⟩
            refine ⟨_, rfl, _, rfl, ?_, below_call hS b9, fun _ _ _ h => apartR_below b9 h⟩
            rw [own_put rfl (by rw [hs124]; omega)]
            exact ⟨_, rfl, r9, hS.size⟩
        · obtain rfl := Option.some.inj (show some _ = some o from ho)
          obtain ⟨z, hz, rz, _⟩ : ∃ z, a.tmps.getD 54 undef = .slice (some ⟨z, 0, none⟩) 264 264 ∧ _ := hdone _ (Array.mem_of_getElem? (i := 0) rfl) rfl _ rfl
          refine wpOp_val (v := .string C3) (w' := w) rfl rfl ?_ ⟨_, rfl, ?_, hS, fun _ _ _ h => h⟩
          · have hcv := conv_row rz 0 264 264 (by omega)
            rw [hC3] at hcv
            simp [execOp, Act.eval, hz, hcv]
          · rw [own_put rfl (by rw [hs124]; omega)]; rfl
        · obtain rfl := Option.some.inj (show some _ = some o from ho)
          refine wpOp_val (v := .pointer (some ⟨w.heap.size, 0, none⟩)) (w' := w.alloc (.cells (zeros 64) 45)) rfl rfl ?_ ⟨_, rfl, ?_, below_new hS _, fun _ _ _ h => apartR_grow (fun g hg => heap_past _ _ _ hg) h⟩
          · simp [execOp, Instr.alloc, (zero_of_info zero_frame).1, newVar, newRow, Value.cells]
          · rw [own_put rfl (by rw [hs124]; omega)]
            exact ⟨_, _, rfl, heap_last _ _ _ rfl, by unfold zeros; rw [List.size_toArray, bytesOf_length], hS.size⟩
        · obtain rfl := Option.some.inj (show some _ = some o from ho)
          have hsl : a.tmps.getD 50 undef = .string C1 := hdone _ (Array.mem_of_getElem? (i := 0) rfl) rfl _ rfl
          refine wpOp_val (v := .string C1) (w' := w) rfl rfl ?_ ⟨_, rfl, ?_, hS, fun _ _ _ h => h⟩
          · simp [execOp, Act.eval, hsl]
          · rw [own_put rfl (by rw [hs124]; omega)]; rfl
        · obtain rfl := Option.some.inj (show some _ = some o from ho)
          obtain ⟨g, c, hg, hc, hcs, hgl⟩ : ∃ g c, a.tmps.getD 11 undef = .pointer (some ⟨g, 0, none⟩) ∧ _ := hdone _ (Array.mem_of_getElem? (i := 0) rfl) rfl _ rfl
          have hfr : a.tmps.getD 52 undef = .agg S.frm := hdone _ (Array.mem_of_getElem? (i := 1) rfl) rfl _ rfl
          have hfs : c.size = S.frm.size := by rw [hcs]; unfold MemS.frm; rw [List.size_toArray, bytesOf_length]
          have hst : (storeVar 45 ⟨g, 0, none⟩ (.agg S.frm)).run Try.prog w = .ok () (w.setRow g S.frm) := run_storeVar_row w g _ _ c S.frm hc (info_frame.trans (by rw [← hfs, hcs])) hfs (bytes_one _ 64)
          have s9 := stored_setRow w g S.frm c _ hc
          refine wpOp_skp (w' := w.setRow g S.frm) rfl rfl ?_ ⟨undef, rfl, ⟨g, hg, s9.row, hgl⟩, s9.below hS hgl, fun _ _ _ h => apartR_store s9 hc h⟩
          simp [execOp, Act.eval, hg, hfr, Instr.storeAt, Instr.sureAddr, hst, Sem.run_pure, Result.andThen_ok]
        · obtain rfl := Option.some.inj (show some _ = some o from ho)
          have hsl : a.tmps.getD 55 undef = .string C3 := hdone _ (Array.mem_of_getElem? (i := 0) rfl) rfl _ rfl
          refine wpOp_val (v := .string C3) (w' := w) rfl rfl ?_ ⟨_, rfl, ?_, hS, fun _ _ _ h => h⟩
          · simp [execOp, Act.eval, hsl]
          · rw [own_put rfl (by rw [hs124]; omega)]; rfl
      case hq =>
        intro u w' hS hR
        have f9 : u 10 = .string C1 := hR 9 _ rfl
        have f10 : ∃ g, u 11 = .pointer (some ⟨g, 0, none⟩) ∧ w'.heap[g]? = some (.cells S.frm 45 (0, 0)) ∧ w4.heap.size ≤ g := hR 10 _ rfl
        have f11 : u 12 = .string C3 := hR 11 _ rfl
        obtain ⟨g, fg, hrow, hgl⟩ := f10
        clear hR
        rw [show outs _ u = [(48, u 48), (49, u 49), (50, u 50), (51, u 51), (52, u 52), (53, u 53), (54, u 54), (55, u 55), (11, u 11), (10, u 10), (12, u 12)] by kernel_rfl, f9, f11, fg]
        simp only [putAll, List.setIfInBounds_toArray, List.set_cons_zero, List.set_cons_succ]
        generalize u 48 = u48; generalize u 49 = u49; generalize u 50 = u50; generalize u 51 = u51; generalize u 52 = u52; generalize u 53 = u53; generalize u 54 = u54; generalize u 55 = u55
        clear f9 f11 fg u
        have T5 := Lib.hid (T4.out.next hS)
        obtain ⟨x0, x1, x2, x3⟩ := T5.out.act
        have HRW := Lib.hid hrow; clear hrow
        go_wp2_with fail
        refine (write_all S kf3 b tk nk vk _ T5.out.mem ht0 ht1 hn0 hn1 hv0 hv1).mono ?_
        rintro e w6 ⟨f, S', rfl, M6, C6, E6, kf0, kf1⟩
        have hbl : b < w4.heap.size := M4.out.at_.row.lt
        have T6 := Lib.hid (show BackSt W kf3 b b' X S' S dk tk nk vk w6 from ⟨C6.below T5.out.below hWb T5.out.below.size, M6, T5.out.old.other C6 (by omega) M4.out.at_.far, T5.out.act.chg C6 (by omega)⟩)
        have HRW6 := Lib.hid ((C6.block g (heap_lt HRW.out) (by omega)).trans HRW.out)
        have HH' := Lib.hid (show S'.cn = 3 ∧ S'.n = cl ∧ S'.hs = true from ⟨E6.1.trans HH.out.1, E6.2.1.trans HH.out.2.1, E6.2.2.trans HH.out.2.2⟩)
        have KF := Lib.hid (show (f = 0 → Keeps S S' (locI 3 cl true tk 1)) ∧ (¬ f = 0 → Keeps S S' 0) from ⟨fun h => by have := kf0 h; rw [HH.out.1, HH.out.2.1, HH.out.2.2] at this; exact this, kf1⟩)
        have CC := Lib.hid (And.intro hC1 hC3)
        have EN := Lib.hid E6.2.1
        have HFI := Lib.hid (show (Try.prog.info? 45).map (·.size) = some S.frm.size from info_frame.trans (by unfold MemS.frm; rw [List.size_toArray, bytesOf_length]))
        clear M6 C6 E6 kf0 kf1 x0 x1 x2 x3 HRW T5 hC1 hC3
        obtain ⟨x0, x1, x2, x3⟩ := T6.out.act
        go_wp2_with fail
        refine (region_of 3 cl true tk _ ht0 ht1 (by omega) (by omega)).mono ?_
        rintro e w7 ⟨rfl, b7⟩
        have T7 := Lib.hid (T6.out.next b7)
        have HRW := Lib.hid ((b7.block g (heap_lt HRW6.out)).trans HRW6.out)
        have HM := Lib.hid T7.out.mem
        clear b7 x0 x1 x2 x3 T6 HRW6
        by_cases hf : f = 0
        · have KC := Lib.hid (keeps_told (KF.out.1 hf) EN.out CC.out.1 CC.out.2)
          subst hf
          clear KF
          go_wp2_with fail
          refine wp_region_inv (fun _ => 100000) (fun w => Below w7.heap.size w7 w) (apR16 ((locI 3 cl true tk 1 : Nat) : Int) b S S' C1 C3) (by kernel_rfl) (back_of (by kernel_rfl)) (dst_of (by kernel_rfl)) (dep_of (by kernel_rfl)) (in_of (by kernel_rfl)) (Below.drew (Below.refl _ _)) ?hop ?hq
          case hop =>
            intro i o a w ho hS hdf hsz hrest hdone
            have t5 : a.tmps.getD 5 undef = .pointer (some ⟨b, 0, none⟩) := hrest 5 (not_of (by kernel_rfl))
            have t10 : a.tmps.getD 10 undef = .string C1 := hrest 10 (not_of (by kernel_rfl))
            have t11 : a.tmps.getD 11 undef = .pointer (some ⟨g, 0, none⟩) := hrest 11 (not_of (by kernel_rfl))
            have t12 : a.tmps.getD 12 undef = .string C3 := hrest 12 (not_of (by kernel_rfl))
            have t14 : a.tmps.getD 14 undef = .int .i8 ((locI 3 cl true tk 1 : Nat) : Int) := hrest 14 (not_of (by kernel_rfl))
            have hs : a.tmps.size = 124 := hsz.trans rfl
            have hi : i < 30 := (Array.getElem?_eq_some_iff.1 ho).1
            clear hrest hsz hdf
            obtain rfl | rfl | rfl | rfl | rfl | rfl | rfl | rfl | rfl | rfl | rfl | rfl | rfl | rfl | rfl | rfl | rfl | rfl | rfl | rfl | rfl | rfl | rfl | rfl | rfl | rfl | rfl | rfl | rfl | rfl : i = 0 ∨ i = 1 ∨ i = 2 ∨ i = 3 ∨ i = 4 ∨ i = 5 ∨ i = 6 ∨ i = 7 ∨ i = 8 ∨ i = 9 ∨ i = 10 ∨ i = 11 ∨ i = 12 ∨ i = 13 ∨ i = 14 ∨ i = 15 ∨ i = 16 ∨ i = 17 ∨ i = 18 ∨ i = 19 ∨ i = 20 ∨ i = 21 ∨ i = 22 ∨ i = 23 ∨ i = 24 ∨ i = 25 ∨ i = 26 ∨ i = 27 ∨ i = 28 ∨ i = 29 := by omega
            · obtain rfl := Option.some.inj (show some _ = some o from ho)
              refine wpOp_val (v := .int .i8 ((locI 3 cl true tk 1 : Nat) : Int)) (w' := w) rfl rfl ?_ ⟨_, rfl, ?_, hS, fun _ _ _ h => h⟩
              · simp [execOp, Act.eval, t14]
              · rw [own_put rfl (by rw [hs]; omega)]; exact rfl
            · obtain rfl := Option.some.inj (show some _ = some o from ho)
              have s71 : a.tmps.getD 71 undef = .int .i8 ((locI 3 cl true tk 1 : Nat) : Int) := hdone _ (Array.mem_of_getElem? (i := 0) rfl) rfl _ rfl
              refine wpOp_val (v := .bool (((locI 3 cl true tk 1 : Nat) : Int) != 2)) (w' := w) rfl rfl ?_ ⟨_, rfl, ?_, hS, fun _ _ _ h => h⟩
              · simp [execOp, Act.eval, s71, go_sem]
              · rw [own_put rfl (by rw [hs]; omega)]; exact rfl
            · obtain rfl := Option.some.inj (show some _ = some o from ho)
              have s72 : a.tmps.getD 72 undef = .bool (((locI 3 cl true tk 1 : Nat) : Int) != 2) := hdone _ (Array.mem_of_getElem? (i := 0) rfl) rfl _ rfl
              refine wpOp_val (v := .bool (((locI 3 cl true tk 1 : Nat) : Int) != 2)) (w' := w) rfl rfl ?_ ⟨_, rfl, ?_, hS, fun _ _ _ h => h⟩
              · simp [execOp, Act.eval, s72]
              · rw [own_put rfl (by rw [hs]; omega)]; exact rfl
            · obtain rfl := Option.some.inj (show some _ = some o from ho)
              have hg : a.tmps.getD 73 undef = .bool ((((locI 3 cl true tk 1 : Nat) : Int) != 2)) := hdone _ (Array.mem_of_getElem? (i := 0) rfl) rfl _ rfl
              by_cases hb : ((((locI 3 cl true tk 1 : Nat) : Int) != 2)) = true
              case neg => exact wpOp_no rfl (wanted_no 2 73 ((((locI 3 cl true tk 1 : Nat) : Int) != 2)) hg (by rw [hs]; omega) rfl rfl rfl (by simpa using hb)) ⟨_, rfl, fun h => absurd h hb, hS, fun _ _ _ h => id h⟩
              refine wpOp_valw (v := .pointer (some ⟨b, 0, none⟩)) (w' := w) rfl (wanted_yes 2 73 ((((locI 3 cl true tk 1 : Nat) : Int) != 2)) hg (by rw [hs]; omega) rfl rfl rfl (by simpa using hb)) ?_ ⟨_, rfl, ?_, hS, fun _ _ _ h => h⟩
              · simp [execOp, Act.eval, t5]
              · rw [own_put rfl (by rw [hs]; omega)]; exact fun _ => rfl
            · obtain rfl := Option.some.inj (show some _ = some o from ho)
              have s74 : (((locI 3 cl true tk 1 : Nat) : Int) != 2) = true → a.tmps.getD 74 undef = .pointer (some ⟨b, 0, none⟩) := hdone _ (Array.mem_of_getElem? (i := 0) rfl) rfl _ rfl
              have hg : a.tmps.getD 73 undef = .bool ((((locI 3 cl true tk 1 : Nat) : Int) != 2)) := hdone _ (Array.mem_of_getElem? (i := 1) rfl) rfl _ rfl
              by_cases hb : ((((locI 3 cl true tk 1 : Nat) : Int) != 2)) = true
              case neg => exact wpOp_no rfl (wanted_no 2 73 ((((locI 3 cl true tk 1 : Nat) : Int) != 2)) hg (by rw [hs]; omega) rfl rfl rfl (by simpa using hb)) ⟨_, rfl, fun h => absurd h hb, hS, fun _ _ _ h => id h⟩
              refine wpOp_callw (f := 20) (args := #[.pointer (some ⟨b, 0, none⟩)]) rfl (wanted_yes 2 73 ((((locI 3 cl true tk 1 : Nat) : Int) != 2)) hg (by rw [hs]; omega) rfl rfl rfl (by simpa using hb)) ?_ ?_
              · simp [go_sem, execOp, Act.eval, Deferred.ofValue, callFunc, Try.func20, Try.f20, s74 hb, resolve, invoke]
              · refine (context_any S' b _ ((HM.out.below hS).at_)).mono ?_
                rintro e w' ⟨rfl, b9, r9⟩
                refine ⟨_, rfl, _, rfl, ?_, below_call hS b9, fun _ _ _ h => apR16_below b9 h⟩
                rw [own_put rfl (by rw [hs]; omega)]; exact fun _ => ⟨_, rfl, r9⟩
            · obtain rfl := Option.some.inj (show some _ = some o from ho)
              have s75 : (((locI 3 cl true tk 1 : Nat) : Int) != 2) = true → ∃ z, a.tmps.getD 75 undef = .slice (some ⟨z, 0, none⟩) S'.n S'.n ∧ w.rowIs z 5 S'.n (fun i => .int .u8 (S'.g (1 + i))) := hdone _ (Array.mem_of_getElem? (i := 0) rfl) rfl _ rfl
              have hg : a.tmps.getD 73 undef = .bool ((((locI 3 cl true tk 1 : Nat) : Int) != 2)) := hdone _ (Array.mem_of_getElem? (i := 1) rfl) rfl _ rfl
              by_cases hb : ((((locI 3 cl true tk 1 : Nat) : Int) != 2)) = true
              case neg => exact wpOp_no rfl (wanted_no 2 73 ((((locI 3 cl true tk 1 : Nat) : Int) != 2)) hg (by rw [hs]; omega) rfl rfl rfl (by simpa using hb)) ⟨_, rfl, fun h => absurd h hb, hS, fun _ _ _ h => id h⟩
              obtain ⟨z, hz, rz⟩ := s75 hb
              have hcv := (conv_row rz 0 S'.n S'.n (by omega)).trans (congrArg (fun s => Result.ok (Value.string s) w) (KC.out.1 hb))
              refine wpOp_valw (v := .string C1) (w' := w) rfl (wanted_yes 2 73 ((((locI 3 cl true tk 1 : Nat) : Int) != 2)) hg (by rw [hs]; omega) rfl rfl rfl (by simpa using hb)) ?_ ⟨_, rfl, ?_, hS, fun _ _ _ h => h⟩
              · simp [execOp, Act.eval, hz, hcv]
              · rw [own_put rfl (by rw [hs]; omega)]; exact fun _ => rfl
            · obtain rfl := Option.some.inj (show some _ = some o from ho)
              have hg : a.tmps.getD 73 undef = .bool ((((locI 3 cl true tk 1 : Nat) : Int) != 2)) := hdone _ (Array.mem_of_getElem? (i := 0) rfl) rfl _ rfl
              by_cases hb : ((((locI 3 cl true tk 1 : Nat) : Int) != 2)) = true
              case neg => exact wpOp_no rfl (wanted_no 2 73 ((((locI 3 cl true tk 1 : Nat) : Int) != 2)) hg (by rw [hs]; omega) rfl rfl rfl (by simpa using hb)) ⟨_, rfl, fun h => absurd h hb, hS, fun _ _ _ h => id h⟩
              refine wpOp_valw (v := .string C1) (w' := w) rfl (wanted_yes 2 73 ((((locI 3 cl true tk 1 : Nat) : Int) != 2)) hg (by rw [hs]; omega) rfl rfl rfl (by simpa using hb)) ?_ ⟨_, rfl, ?_, hS, fun _ _ _ h => h⟩
              · simp [execOp, Act.eval, t10]
              · rw [own_put rfl (by rw [hs]; omega)]; exact fun _ => rfl
            · obtain rfl := Option.some.inj (show some _ = some o from ho)
              have s76 : (((locI 3 cl true tk 1 : Nat) : Int) != 2) = true → a.tmps.getD 76 undef = .string C1 := hdone _ (Array.mem_of_getElem? (i := 0) rfl) rfl _ rfl
              have s77 : (((locI 3 cl true tk 1 : Nat) : Int) != 2) = true → a.tmps.getD 77 undef = .string C1 := hdone _ (Array.mem_of_getElem? (i := 1) rfl) rfl _ rfl
              have hg : a.tmps.getD 73 undef = .bool ((((locI 3 cl true tk 1 : Nat) : Int) != 2)) := hdone _ (Array.mem_of_getElem? (i := 2) rfl) rfl _ rfl
              by_cases hb : ((((locI 3 cl true tk 1 : Nat) : Int) != 2)) = true
              case neg => exact wpOp_no rfl (wanted_no 2 73 ((((locI 3 cl true tk 1 : Nat) : Int) != 2)) hg (by rw [hs]; omega) rfl rfl rfl (by simpa using hb)) ⟨_, rfl, fun h => absurd h hb, hS, fun _ _ _ h => id h⟩
              refine wpOp_valw (v := .bool false) (w' := w) rfl (wanted_yes 2 73 ((((locI 3 cl true tk 1 : Nat) : Int) != 2)) hg (by rw [hs]; omega) rfl rfl rfl (by simpa using hb)) ?_ ⟨_, rfl, ?_, hS, fun _ _ _ h => h⟩
              · simp [execOp, Act.eval, s76 hb, s77 hb, go_sem]
              · rw [own_put rfl (by rw [hs]; omega)]; exact fun _ => rfl
            · obtain rfl := Option.some.inj (show some _ = some o from ho)
              have s73 : a.tmps.getD 73 undef = .bool (((locI 3 cl true tk 1 : Nat) : Int) != 2) := hdone _ (Array.mem_of_getElem? (i := 0) rfl) rfl _ rfl
              have s78 : (((locI 3 cl true tk 1 : Nat) : Int) != 2) = true → a.tmps.getD 78 undef = .bool false := hdone _ (Array.mem_of_getElem? (i := 1) rfl) rfl _ rfl
              refine wpOp_val (v := .bool false) (w' := w) rfl rfl ?_ ⟨_, rfl, ?_, hS, fun _ _ _ h => h⟩
              · (cases hb : (((locI 3 cl true tk 1 : Nat) : Int) != 2)) <;> first | (simp only [hb] at s73 s78; simp [execOp, Act.eval, s73, s78, go_sem]; done) | (simp only [hb] at s73; simp [execOp, Act.eval, s73, go_sem]; done)
              · rw [own_put rfl (by rw [hs]; omega)]; exact rfl
            · obtain rfl := Option.some.inj (show some _ = some o from ho)
              have s79 : a.tmps.getD 79 undef = .bool false := hdone _ (Array.mem_of_getElem? (i := 0) rfl) rfl _ rfl
              refine wpOp_val (v := .bool false) (w' := w) rfl rfl ?_ ⟨_, rfl, ?_, hS, fun _ _ _ h => h⟩
              · simp [execOp, Act.eval, s79]
              · rw [own_put rfl (by rw [hs]; omega)]; exact rfl
            · obtain rfl := Option.some.inj (show some _ = some o from ho)
              have hg : a.tmps.getD 80 undef = .bool (false) := hdone _ (Array.mem_of_getElem? (i := 0) rfl) rfl _ rfl
              refine wpOp_valw (v := .int .i8 ((locI 3 cl true tk 1 : Nat) : Int)) (w' := w) rfl (wanted_yes 9 80 false hg (by rw [hs]; omega) rfl rfl rfl rfl) ?_ ⟨_, rfl, ?_, hS, fun _ _ _ h => h⟩
              · simp [execOp, Act.eval, t14]
              · rw [own_put rfl (by rw [hs]; omega)]; exact rfl
            · obtain rfl := Option.some.inj (show some _ = some o from ho)
              have s81 : a.tmps.getD 81 undef = .int .i8 ((locI 3 cl true tk 1 : Nat) : Int) := hdone _ (Array.mem_of_getElem? (i := 0) rfl) rfl _ rfl
              have hg : a.tmps.getD 80 undef = .bool (false) := hdone _ (Array.mem_of_getElem? (i := 1) rfl) rfl _ rfl
              refine wpOp_valw (v := .bool (((locI 3 cl true tk 1 : Nat) : Int) != 3)) (w' := w) rfl (wanted_yes 9 80 false hg (by rw [hs]; omega) rfl rfl rfl rfl) ?_ ⟨_, rfl, ?_, hS, fun _ _ _ h => h⟩
              · simp [execOp, Act.eval, s81, go_sem]
              · rw [own_put rfl (by rw [hs]; omega)]; exact rfl
            · obtain rfl := Option.some.inj (show some _ = some o from ho)
              have s82 : a.tmps.getD 82 undef = .bool (((locI 3 cl true tk 1 : Nat) : Int) != 3) := hdone _ (Array.mem_of_getElem? (i := 0) rfl) rfl _ rfl
              have hg : a.tmps.getD 80 undef = .bool (false) := hdone _ (Array.mem_of_getElem? (i := 1) rfl) rfl _ rfl
              refine wpOp_valw (v := .bool (((locI 3 cl true tk 1 : Nat) : Int) != 3)) (w' := w) rfl (wanted_yes 9 80 false hg (by rw [hs]; omega) rfl rfl rfl rfl) ?_ ⟨_, rfl, ?_, hS, fun _ _ _ h => h⟩
              · simp [execOp, Act.eval, s82]
              · rw [own_put rfl (by rw [hs]; omega)]; exact rfl
            · obtain rfl := Option.some.inj (show some _ = some o from ho)
              have hg : a.tmps.getD 83 undef = .bool ((((locI 3 cl true tk 1 : Nat) : Int) != 3)) := hdone _ (Array.mem_of_getElem? (i := 0) rfl) rfl _ rfl
              by_cases hb : ((((locI 3 cl true tk 1 : Nat) : Int) != 3)) = true
              case neg => exact wpOp_no rfl (wanted_no 12 83 ((((locI 3 cl true tk 1 : Nat) : Int) != 3)) hg (by rw [hs]; omega) rfl rfl rfl (by simpa using hb)) ⟨_, rfl, fun h => absurd h hb, hS, fun _ _ _ h => id h⟩
              refine wpOp_valw (v := .pointer (some ⟨b, 0, none⟩)) (w' := w) rfl (wanted_yes 12 83 ((((locI 3 cl true tk 1 : Nat) : Int) != 3)) hg (by rw [hs]; omega) rfl rfl rfl (by simpa using hb)) ?_ ⟨_, rfl, ?_, hS, fun _ _ _ h => h⟩
              · simp [execOp, Act.eval, t5]
              · rw [own_put rfl (by rw [hs]; omega)]; exact fun _ => rfl
            · obtain rfl := Option.some.inj (show some _ = some o from ho)
              have s84 : (((locI 3 cl true tk 1 : Nat) : Int) != 3) = true → a.tmps.getD 84 undef = .pointer (some ⟨b, 0, none⟩) := hdone _ (Array.mem_of_getElem? (i := 0) rfl) rfl _ rfl
              have hg : a.tmps.getD 83 undef = .bool ((((locI 3 cl true tk 1 : Nat) : Int) != 3)) := hdone _ (Array.mem_of_getElem? (i := 1) rfl) rfl _ rfl
              by_cases hb : ((((locI 3 cl true tk 1 : Nat) : Int) != 3)) = true
              case neg => exact wpOp_no rfl (wanted_no 12 83 ((((locI 3 cl true tk 1 : Nat) : Int) != 3)) hg (by rw [hs]; omega) rfl rfl rfl (by simpa using hb)) ⟨_, rfl, fun h => absurd h hb, hS, fun _ _ _ h => id h⟩
              refine wpOp_callw (f := 22) (args := #[.pointer (some ⟨b, 0, none⟩)]) rfl (wanted_yes 12 83 ((((locI 3 cl true tk 1 : Nat) : Int) != 3)) hg (by rw [hs]; omega) rfl rfl rfl (by simpa using hb)) ?_ ?_
              · simp [go_sem, execOp, Act.eval, Deferred.ofValue, callFunc, Try.func22, Try.f22, s84 hb, resolve, invoke]
              · refine (frame_any S' b _ ((HM.out.below hS).at_)).mono ?_
                rintro e w' ⟨rfl, b9⟩
                refine ⟨_, rfl, _, rfl, ?_, below_call hS b9, fun _ _ _ h => apR16_below b9 h⟩
                rw [own_put rfl (by rw [hs]; omega)]; exact fun _ => congrArg _ (KC.out.2.1 hb)
            · obtain rfl := Option.some.inj (show some _ = some o from ho)
              have hg : a.tmps.getD 83 undef = .bool ((((locI 3 cl true tk 1 : Nat) : Int) != 3)) := hdone _ (Array.mem_of_getElem? (i := 0) rfl) rfl _ rfl
              by_cases hb : ((((locI 3 cl true tk 1 : Nat) : Int) != 3)) = true
              case neg => exact wpOp_no rfl (wanted_no 12 83 ((((locI 3 cl true tk 1 : Nat) : Int) != 3)) hg (by rw [hs]; omega) rfl rfl rfl (by simpa using hb)) ⟨_, rfl, fun h => absurd h hb, hS, fun _ _ _ h => id h⟩
              have hrw : w.heap[g]? = some (.cells S.frm 45 (0, 0)) := (hS.block g (Array.getElem?_eq_some_iff.1 HRW.out).1).trans HRW.out
              have ld := run_loadVar_row (P := Try.prog) w g _ 45 S.frm _ _ hrw Try.underlying45 rfl HFI.out
              refine wpOp_valw (v := .agg S.frm) (w' := w) rfl (wanted_yes 12 83 ((((locI 3 cl true tk 1 : Nat) : Int) != 3)) hg (by rw [hs]; omega) rfl rfl rfl (by simpa using hb)) ?_ ⟨_, rfl, ?_, hS, fun _ _ _ h => h⟩
              · simp [execOp, Act.eval, t11, Instr.loadAt, Instr.sureAddr, ld, Result.andThen_ok]
              · rw [own_put rfl (by rw [hs]; omega)]; exact fun _ => rfl
            · obtain rfl := Option.some.inj (show some _ = some o from ho)
              have s85 : (((locI 3 cl true tk 1 : Nat) : Int) != 3) = true → a.tmps.getD 85 undef = .agg S.frm := hdone _ (Array.mem_of_getElem? (i := 0) rfl) rfl _ rfl
              have s86 : (((locI 3 cl true tk 1 : Nat) : Int) != 3) = true → a.tmps.getD 86 undef = .agg S.frm := hdone _ (Array.mem_of_getElem? (i := 1) rfl) rfl _ rfl
              have hg : a.tmps.getD 83 undef = .bool ((((locI 3 cl true tk 1 : Nat) : Int) != 3)) := hdone _ (Array.mem_of_getElem? (i := 2) rfl) rfl _ rfl
              by_cases hb : ((((locI 3 cl true tk 1 : Nat) : Int) != 3)) = true
              case neg => exact wpOp_no rfl (wanted_no 12 83 ((((locI 3 cl true tk 1 : Nat) : Int) != 3)) hg (by rw [hs]; omega) rfl rfl rfl (by simpa using hb)) ⟨_, rfl, fun h => absurd h hb, hS, fun _ _ _ h => id h⟩
              refine wpOp_valw (v := .bool false) (w' := w) rfl (wanted_yes 12 83 ((((locI 3 cl true tk 1 : Nat) : Int) != 3)) hg (by rw [hs]; omega) rfl rfl rfl (by simpa using hb)) ?_ ⟨_, rfl, ?_, hS, fun _ _ _ h => h⟩
              · exact exec_neq rfl (s85 hb) (s86 hb) (by kernel_rfl) (frame_refl _ w)
              · rw [own_put rfl (by rw [hs]; omega)]; exact fun _ => rfl
            · obtain rfl := Option.some.inj (show some _ = some o from ho)
              have s83 : a.tmps.getD 83 undef = .bool (((locI 3 cl true tk 1 : Nat) : Int) != 3) := hdone _ (Array.mem_of_getElem? (i := 0) rfl) rfl _ rfl
              have s87 : (((locI 3 cl true tk 1 : Nat) : Int) != 3) = true → a.tmps.getD 87 undef = .bool false := hdone _ (Array.mem_of_getElem? (i := 1) rfl) rfl _ rfl
              have hg : a.tmps.getD 80 undef = .bool (false) := hdone _ (Array.mem_of_getElem? (i := 2) rfl) rfl _ rfl
              refine wpOp_valw (v := .bool false) (w' := w) rfl (wanted_yes 9 80 false hg (by rw [hs]; omega) rfl rfl rfl rfl) ?_ ⟨_, rfl, ?_, hS, fun _ _ _ h => h⟩
              · (cases hb : (((locI 3 cl true tk 1 : Nat) : Int) != 3)) <;> first | (simp only [hb] at s83 s87; simp [execOp, Act.eval, s83, s87, go_sem]; done) | (simp only [hb] at s83; simp [execOp, Act.eval, s83, go_sem]; done)
              · rw [own_put rfl (by rw [hs]; omega)]; exact rfl
            · obtain rfl := Option.some.inj (show some _ = some o from ho)
              have s80 : a.tmps.getD 80 undef = .bool false := hdone _ (Array.mem_of_getElem? (i := 0) rfl) rfl _ rfl
              have s88 : a.tmps.getD 88 undef = .bool false := hdone _ (Array.mem_of_getElem? (i := 1) rfl) rfl _ rfl
              refine wpOp_val (v := .bool false) (w' := w) rfl rfl ?_ ⟨_, rfl, ?_, hS, fun _ _ _ h => h⟩
              · simp [execOp, Act.eval, s80, s88, go_sem]
              · rw [own_put rfl (by rw [hs]; omega)]; exact rfl
            · obtain rfl := Option.some.inj (show some _ = some o from ho)
              have s89 : a.tmps.getD 89 undef = .bool false := hdone _ (Array.mem_of_getElem? (i := 0) rfl) rfl _ rfl
              refine wpOp_val (v := .bool false) (w' := w) rfl rfl ?_ ⟨_, rfl, ?_, hS, fun _ _ _ h => h⟩
              · simp [execOp, Act.eval, s89]
              · rw [own_put rfl (by rw [hs]; omega)]; exact rfl
            · obtain rfl := Option.some.inj (show some _ = some o from ho)
              have hg : a.tmps.getD 90 undef = .bool (false) := hdone _ (Array.mem_of_getElem? (i := 0) rfl) rfl _ rfl
              refine wpOp_valw (v := .int .i8 ((locI 3 cl true tk 1 : Nat) : Int)) (w' := w) rfl (wanted_yes 19 90 false hg (by rw [hs]; omega) rfl rfl rfl rfl) ?_ ⟨_, rfl, ?_, hS, fun _ _ _ h => h⟩
              · simp [execOp, Act.eval, t14]
              · rw [own_put rfl (by rw [hs]; omega)]; exact rfl
            · obtain rfl := Option.some.inj (show some _ = some o from ho)
              have s91 : a.tmps.getD 91 undef = .int .i8 ((locI 3 cl true tk 1 : Nat) : Int) := hdone _ (Array.mem_of_getElem? (i := 0) rfl) rfl _ rfl
              have hg : a.tmps.getD 90 undef = .bool (false) := hdone _ (Array.mem_of_getElem? (i := 1) rfl) rfl _ rfl
              refine wpOp_valw (v := .bool (((locI 3 cl true tk 1 : Nat) : Int) != 4)) (w' := w) rfl (wanted_yes 19 90 false hg (by rw [hs]; omega) rfl rfl rfl rfl) ?_ ⟨_, rfl, ?_, hS, fun _ _ _ h => h⟩
              · simp [execOp, Act.eval, s91, go_sem]
              · rw [own_put rfl (by rw [hs]; omega)]; exact rfl
            · obtain rfl := Option.some.inj (show some _ = some o from ho)
              have s92 : a.tmps.getD 92 undef = .bool (((locI 3 cl true tk 1 : Nat) : Int) != 4) := hdone _ (Array.mem_of_getElem? (i := 0) rfl) rfl _ rfl
              have hg : a.tmps.getD 90 undef = .bool (false) := hdone _ (Array.mem_of_getElem? (i := 1) rfl) rfl _ rfl
              refine wpOp_valw (v := .bool (((locI 3 cl true tk 1 : Nat) : Int) != 4)) (w' := w) rfl (wanted_yes 19 90 false hg (by rw [hs]; omega) rfl rfl rfl rfl) ?_ ⟨_, rfl, ?_, hS, fun _ _ _ h => h⟩
              · simp [execOp, Act.eval, s92]
              · rw [own_put rfl (by rw [hs]; omega)]; exact rfl
            · obtain rfl := Option.some.inj (show some _ = some o from ho)
              have hg : a.tmps.getD 93 undef = .bool ((((locI 3 cl true tk 1 : Nat) : Int) != 4)) := hdone _ (Array.mem_of_getElem? (i := 0) rfl) rfl _ rfl
              by_cases hb : ((((locI 3 cl true tk 1 : Nat) : Int) != 4)) = true
              case neg => exact wpOp_no rfl (wanted_no 22 93 ((((locI 3 cl true tk 1 : Nat) : Int) != 4)) hg (by rw [hs]; omega) rfl rfl rfl (by simpa using hb)) ⟨_, rfl, fun h => absurd h hb, hS, fun _ _ _ h => id h⟩
              refine wpOp_valw (v := .pointer (some ⟨b, 0, none⟩)) (w' := w) rfl (wanted_yes 22 93 ((((locI 3 cl true tk 1 : Nat) : Int) != 4)) hg (by rw [hs]; omega) rfl rfl rfl (by simpa using hb)) ?_ ⟨_, rfl, ?_, hS, fun _ _ _ h => h⟩
              · simp [execOp, Act.eval, t5]
              · rw [own_put rfl (by rw [hs]; omega)]; exact fun _ => rfl
            · obtain rfl := Option.some.inj (show some _ = some o from ho)
              have s94 : (((locI 3 cl true tk 1 : Nat) : Int) != 4) = true → a.tmps.getD 94 undef = .pointer (some ⟨b, 0, none⟩) := hdone _ (Array.mem_of_getElem? (i := 0) rfl) rfl _ rfl
              have hg : a.tmps.getD 93 undef = .bool ((((locI 3 cl true tk 1 : Nat) : Int) != 4)) := hdone _ (Array.mem_of_getElem? (i := 1) rfl) rfl _ rfl
              by_cases hb : ((((locI 3 cl true tk 1 : Nat) : Int) != 4)) = true
              case neg => exact wpOp_no rfl (wanted_no 22 93 ((((locI 3 cl true tk 1 : Nat) : Int) != 4)) hg (by rw [hs]; omega) rfl rfl rfl (by simpa using hb)) ⟨_, rfl, fun h => absurd h hb, hS, fun _ _ _ h => id h⟩
              refine wpOp_callw (f := 21) (args := #[.pointer (some ⟨b, 0, none⟩)]) rfl (wanted_yes 22 93 ((((locI 3 cl true tk 1 : Nat) : Int) != 4)) hg (by rw [hs]; omega) rfl rfl rfl (by simpa using hb)) ?_ ?_
              · simp [go_sem, execOp, Act.eval, Deferred.ofValue, callFunc, Try.func21, Try.f21, s94 hb, resolve, invoke]
              · refine (stack_yes S' b _ ((HM.out.below hS).at_) HH'.out.2.2).mono ?_
                rintro e w' ⟨rfl, b9, r9⟩
                refine ⟨_, rfl, _, rfl, ?_, below_call hS b9, fun _ _ _ h => apR16_below b9 h⟩
                rw [own_put rfl (by rw [hs]; omega)]; exact fun _ => ⟨_, rfl, r9⟩
            · obtain rfl := Option.some.inj (show some _ = some o from ho)
              have s95 : (((locI 3 cl true tk 1 : Nat) : Int) != 4) = true → ∃ z, a.tmps.getD 95 undef = .slice (some ⟨z, 0, none⟩) 264 264 ∧ w.rowIs z 5 264 (fun i => .int .u8 (S'.g (322 + i))) := hdone _ (Array.mem_of_getElem? (i := 0) rfl) rfl _ rfl
              have hg : a.tmps.getD 93 undef = .bool ((((locI 3 cl true tk 1 : Nat) : Int) != 4)) := hdone _ (Array.mem_of_getElem? (i := 1) rfl) rfl _ rfl
              by_cases hb : ((((locI 3 cl true tk 1 : Nat) : Int) != 4)) = true
              case neg => exact wpOp_no rfl (wanted_no 22 93 ((((locI 3 cl true tk 1 : Nat) : Int) != 4)) hg (by rw [hs]; omega) rfl rfl rfl (by simpa using hb)) ⟨_, rfl, fun h => absurd h hb, hS, fun _ _ _ h => id h⟩
              obtain ⟨z, hz, rz⟩ := s95 hb
              have hcv := (conv_row rz 0 264 264 (by omega)).trans (congrArg (fun s => Result.ok (Value.string s) w) (KC.out.2.2 hb))
              refine wpOp_valw (v := .string C3) (w' := w) rfl (wanted_yes 22 93 ((((locI 3 cl true tk 1 : Nat) : Int) != 4)) hg (by rw [hs]; omega) rfl rfl rfl (by simpa using hb)) ?_ ⟨_, rfl, ?_, hS, fun _ _ _ h => h⟩
              · simp [execOp, Act.eval, hz, hcv]
              · rw [own_put rfl (by rw [hs]; omega)]; exact fun _ => rfl
            · obtain rfl := Option.some.inj (show some _ = some o from ho)
              have hg : a.tmps.getD 93 undef = .bool ((((locI 3 cl true tk 1 : Nat) : Int) != 4)) := hdone _ (Array.mem_of_getElem? (i := 0) rfl) rfl _ rfl
              by_cases hb : ((((locI 3 cl true tk 1 : Nat) : Int) != 4)) = true
              case neg => exact wpOp_no rfl (wanted_no 22 93 ((((locI 3 cl true tk 1 : Nat) : Int) != 4)) hg (by rw [hs]; omega) rfl rfl rfl (by simpa using hb)) ⟨_, rfl, fun h => absurd h hb, hS, fun _ _ _ h => id h⟩
              refine wpOp_valw (v := .string C3) (w' := w) rfl (wanted_yes 22 93 ((((locI 3 cl true tk 1 : Nat) : Int) != 4)) hg (by rw [hs]; omega) rfl rfl rfl (by simpa using hb)) ?_ ⟨_, rfl, ?_, hS, fun _ _ _ h => h⟩
              · simp [execOp, Act.eval, t12]
              · rw [own_put rfl (by rw [hs]; omega)]; exact fun _ => rfl
            · obtain rfl := Option.some.inj (show some _ = some o from ho)
              have s96 : (((locI 3 cl true tk 1 : Nat) : Int) != 4) = true → a.tmps.getD 96 undef = .string C3 := hdone _ (Array.mem_of_getElem? (i := 0) rfl) rfl _ rfl
              have s97 : (((locI 3 cl true tk 1 : Nat) : Int) != 4) = true → a.tmps.getD 97 undef = .string C3 := hdone _ (Array.mem_of_getElem? (i := 1) rfl) rfl _ rfl
              have hg : a.tmps.getD 93 undef = .bool ((((locI 3 cl true tk 1 : Nat) : Int) != 4)) := hdone _ (Array.mem_of_getElem? (i := 2) rfl) rfl _ rfl
              by_cases hb : ((((locI 3 cl true tk 1 : Nat) : Int) != 4)) = true
              case neg => exact wpOp_no rfl (wanted_no 22 93 ((((locI 3 cl true tk 1 : Nat) : Int) != 4)) hg (by rw [hs]; omega) rfl rfl rfl (by simpa using hb)) ⟨_, rfl, fun h => absurd h hb, hS, fun _ _ _ h => id h⟩
              refine wpOp_valw (v := .bool false) (w' := w) rfl (wanted_yes 22 93 ((((locI 3 cl true tk 1 : Nat) : Int) != 4)) hg (by rw [hs]; omega) rfl rfl rfl (by simpa using hb)) ?_ ⟨_, rfl, ?_, hS, fun _ _ _ h => h⟩
              · simp [execOp, Act.eval, s96 hb, s97 hb, go_sem]
              · rw [own_put rfl (by rw [hs]; omega)]; exact fun _ => rfl
            · obtain rfl := Option.some.inj (show some _ = some o from ho)
              have s93 : a.tmps.getD 93 undef = .bool (((locI 3 cl true tk 1 : Nat) : Int) != 4) := hdone _ (Array.mem_of_getElem? (i := 0) rfl) rfl _ rfl
              have s98 : (((locI 3 cl true tk 1 : Nat) : Int) != 4) = true → a.tmps.getD 98 undef = .bool false := hdone _ (Array.mem_of_getElem? (i := 1) rfl) rfl _ rfl
              have hg : a.tmps.getD 90 undef = .bool (false) := hdone _ (Array.mem_of_getElem? (i := 2) rfl) rfl _ rfl
              refine wpOp_valw (v := .bool false) (w' := w) rfl (wanted_yes 19 90 false hg (by rw [hs]; omega) rfl rfl rfl rfl) ?_ ⟨_, rfl, ?_, hS, fun _ _ _ h => h⟩
              · (cases hb : (((locI 3 cl true tk 1 : Nat) : Int) != 4)) <;> first | (simp only [hb] at s93 s98; simp [execOp, Act.eval, s93, s98, go_sem]; done) | (simp only [hb] at s93; simp [execOp, Act.eval, s93, go_sem]; done)
              · rw [own_put rfl (by rw [hs]; omega)]; exact rfl
            · obtain rfl := Option.some.inj (show some _ = some o from ho)
              have s90 : a.tmps.getD 90 undef = .bool false := hdone _ (Array.mem_of_getElem? (i := 0) rfl) rfl _ rfl
              have s99 : a.tmps.getD 99 undef = .bool false := hdone _ (Array.mem_of_getElem? (i := 1) rfl) rfl _ rfl
              refine wpOp_val (v := .bool false) (w' := w) rfl rfl ?_ ⟨_, rfl, ?_, hS, fun _ _ _ h => h⟩
              · simp [execOp, Act.eval, s90, s99, go_sem]
              · rw [own_put rfl (by rw [hs]; omega)]; exact rfl
          case hq =>
            intro u w' hS hR
            have f : u 100 = .bool false := hR 29 _ rfl
            clear hR
            rw [show outs _ u = [(71, u 71), (72, u 72), (73, u 73), (74, u 74), (75, u 75), (76, u 76), (77, u 77), (78, u 78), (79, u 79), (80, u 80), (81, u 81), (82, u 82), (83, u 83), (84, u 84), (85, u 85), (86, u 86), (87, u 87), (88, u 88), (89, u 89), (90, u 90), (91, u 91), (92, u 92), (93, u 93), (94, u 94), (95, u 95), (96, u 96), (97, u 97), (98, u 98), (99, u 99), (100, u 100)] by kernel_rfl, f]
            simp only [putAll, List.setIfInBounds_toArray, List.set_cons_zero, List.set_cons_succ]
            generalize u 71 = z71; generalize u 72 = z72; generalize u 73 = z73; generalize u 74 = z74; generalize u 75 = z75; generalize u 76 = z76; generalize u 77 = z77; generalize u 78 = z78; generalize u 79 = z79; generalize u 80 = z80; generalize u 81 = z81; generalize u 82 = z82; generalize u 83 = z83; generalize u 84 = z84; generalize u 85 = z85; generalize u 86 = z86; generalize u 87 = z87; generalize u 88 = z88; generalize u 89 = z89; generalize u 90 = z90; generalize u 91 = z91; generalize u 92 = z92; generalize u 93 = z93; generalize u 94 = z94; generalize u 95 = z95; generalize u 96 = z96; generalize u 97 = z97; generalize u 98 = z98; generalize u 99 = z99
            clear f u
            have T8 := Lib.hid (T7.out.next hS)
            have HO := Lib.hid T8.out.old
            have HRW2 := Lib.hid ((hS.block g (Array.getElem?_eq_some_iff.1 HRW.out).1).trans HRW.out)
            clear hS T7 HM HRW
            generalize hw8 : w' = w8 at *
            clear hw8
            go_wp2_with fail
            refine wp_region_inv (fun _ => 100000) (fun w => Below w8.heap.size w8 w) (apR18 b' S C1 C3) (by kernel_rfl) (back_of (by kernel_rfl)) (dst_of (by kernel_rfl)) (dep_of (by kernel_rfl)) (in_of (by kernel_rfl)) (Below.drew (Below.refl _ _)) ?hop ?hq
            case hop =>
              intro i o a w ho hS hdf hsz hrest hdone
              have t9 : a.tmps.getD 9 undef = .pointer (some ⟨b', 0, none⟩) := hrest 9 (not_of (by kernel_rfl))
              have t10 : a.tmps.getD 10 undef = .string C1 := hrest 10 (not_of (by kernel_rfl))
              have t11 : a.tmps.getD 11 undef = .pointer (some ⟨g, 0, none⟩) := hrest 11 (not_of (by kernel_rfl))
              have t12 : a.tmps.getD 12 undef = .string C3 := hrest 12 (not_of (by kernel_rfl))
              have hs : a.tmps.size = 124 := hsz.trans rfl
              have hi : i < 22 := (Array.getElem?_eq_some_iff.1 ho).1
              clear hrest hsz hdf
              obtain rfl | rfl | rfl | rfl | rfl | rfl | rfl | rfl | rfl | rfl | rfl | rfl | rfl | rfl | rfl | rfl | rfl | rfl | rfl | rfl | rfl | rfl : i = 0 ∨ i = 1 ∨ i = 2 ∨ i = 3 ∨ i = 4 ∨ i = 5 ∨ i = 6 ∨ i = 7 ∨ i = 8 ∨ i = 9 ∨ i = 10 ∨ i = 11 ∨ i = 12 ∨ i = 13 ∨ i = 14 ∨ i = 15 ∨ i = 16 ∨ i = 17 ∨ i = 18 ∨ i = 19 ∨ i = 20 ∨ i = 21 := by omega
              · obtain rfl := Option.some.inj (show some _ = some o from ho)
                refine wpOp_val (v := .pointer (some ⟨b', 0, none⟩)) (w' := w) rfl rfl ?_ ⟨_, rfl, ?_, hS, fun _ _ _ h => h⟩
                · simp [execOp, Act.eval, t9]
                · rw [own_put rfl (by rw [hs]; omega)]; exact rfl
              · obtain rfl := Option.some.inj (show some _ = some o from ho)
                have s101 : a.tmps.getD 101 undef = .pointer (some ⟨b', 0, none⟩) := hdone _ (Array.mem_of_getElem? (i := 0) rfl) rfl _ rfl
                refine wpOp_val (v := .bool false) (w' := w) rfl rfl ?_ ⟨_, rfl, ?_, hS, fun _ _ _ h => h⟩
                · simp [execOp, Act.eval, s101, go_sem]
                · rw [own_put rfl (by rw [hs]; omega)]; exact rfl
              · obtain rfl := Option.some.inj (show some _ = some o from ho)
                have s102 : a.tmps.getD 102 undef = .bool false := hdone _ (Array.mem_of_getElem? (i := 0) rfl) rfl _ rfl
                refine wpOp_val (v := .bool false) (w' := w) rfl rfl ?_ ⟨_, rfl, ?_, hS, fun _ _ _ h => h⟩
                · simp [execOp, Act.eval, s102]
                · rw [own_put rfl (by rw [hs]; omega)]; exact rfl
              · obtain rfl := Option.some.inj (show some _ = some o from ho)
                have hg : a.tmps.getD 103 undef = .bool (false) := hdone _ (Array.mem_of_getElem? (i := 0) rfl) rfl _ rfl
                refine wpOp_valw (v := .pointer (some ⟨b', 0, none⟩)) (w' := w) rfl (wanted_yes 2 103 false hg (by rw [hs]; omega) rfl rfl rfl rfl) ?_ ⟨_, rfl, ?_, hS, fun _ _ _ h => h⟩
                · simp [execOp, Act.eval, t9]
                · rw [own_put rfl (by rw [hs]; omega)]; exact rfl
              · obtain rfl := Option.some.inj (show some _ = some o from ho)
                have s104 : a.tmps.getD 104 undef = .pointer (some ⟨b', 0, none⟩) := hdone _ (Array.mem_of_getElem? (i := 0) rfl) rfl _ rfl
                have hg : a.tmps.getD 103 undef = .bool (false) := hdone _ (Array.mem_of_getElem? (i := 1) rfl) rfl _ rfl
                refine wpOp_callw (f := 20) (args := #[.pointer (some ⟨b', 0, none⟩)]) rfl (wanted_yes 2 103 false hg (by rw [hs]; omega) rfl rfl rfl rfl) ?_ ?_
                · simp [go_sem, execOp, Act.eval, Deferred.ofValue, callFunc, Try.func20, Try.f20, s104, resolve, invoke]
                · refine (context_any S b' _ ((HO.out.below hS).at_)).mono ?_
                  rintro e w' ⟨rfl, b9, r9⟩
                  refine ⟨_, rfl, _, rfl, ?_, below_call hS b9, fun _ _ _ h => apR18_below b9 h⟩
                  rw [own_put rfl (by rw [hs]; omega)]; exact ⟨_, rfl, r9⟩
              · obtain rfl := Option.some.inj (show some _ = some o from ho)
                have s105 : ∃ z, a.tmps.getD 105 undef = .slice (some ⟨z, 0, none⟩) S.n S.n ∧ w.rowIs z 5 S.n (fun i => .int .u8 (S.g (1 + i))) := hdone _ (Array.mem_of_getElem? (i := 0) rfl) rfl _ rfl
                have hg : a.tmps.getD 103 undef = .bool (false) := hdone _ (Array.mem_of_getElem? (i := 1) rfl) rfl _ rfl
                obtain ⟨z, hz, rz⟩ := s105
                have hcv := (conv_row rz 0 S.n S.n (by omega)).trans (congrArg (fun s => Result.ok (Value.string s) w) CC.out.1)
                refine wpOp_valw (v := .string C1) (w' := w) rfl (wanted_yes 2 103 false hg (by rw [hs]; omega) rfl rfl rfl rfl) ?_ ⟨_, rfl, ?_, hS, fun _ _ _ h => h⟩
                · simp [execOp, Act.eval, hz, hcv]
                · rw [own_put rfl (by rw [hs]; omega)]; exact rfl
              · obtain rfl := Option.some.inj (show some _ = some o from ho)
                have hg : a.tmps.getD 103 undef = .bool (false) := hdone _ (Array.mem_of_getElem? (i := 0) rfl) rfl _ rfl
                refine wpOp_valw (v := .string C1) (w' := w) rfl (wanted_yes 2 103 false hg (by rw [hs]; omega) rfl rfl rfl rfl) ?_ ⟨_, rfl, ?_, hS, fun _ _ _ h => h⟩
                · simp [execOp, Act.eval, t10]
                · rw [own_put rfl (by rw [hs]; omega)]; exact rfl
              · obtain rfl := Option.some.inj (show some _ = some o from ho)
                have s106 : a.tmps.getD 106 undef = .string C1 := hdone _ (Array.mem_of_getElem? (i := 0) rfl) rfl _ rfl
                have s107 : a.tmps.getD 107 undef = .string C1 := hdone _ (Array.mem_of_getElem? (i := 1) rfl) rfl _ rfl
                have hg : a.tmps.getD 103 undef = .bool (false) := hdone _ (Array.mem_of_getElem? (i := 2) rfl) rfl _ rfl
                refine wpOp_valw (v := .bool false) (w' := w) rfl (wanted_yes 2 103 false hg (by rw [hs]; omega) rfl rfl rfl rfl) ?_ ⟨_, rfl, ?_, hS, fun _ _ _ h => h⟩
                · simp [execOp, Act.eval, s106, s107, go_sem]
                · rw [own_put rfl (by rw [hs]; omega)]; exact rfl
              · obtain rfl := Option.some.inj (show some _ = some o from ho)
                have s103 : a.tmps.getD 103 undef = .bool false := hdone _ (Array.mem_of_getElem? (i := 0) rfl) rfl _ rfl
                have s108 : a.tmps.getD 108 undef = .bool false := hdone _ (Array.mem_of_getElem? (i := 1) rfl) rfl _ rfl
                refine wpOp_val (v := .bool false) (w' := w) rfl rfl ?_ ⟨_, rfl, ?_, hS, fun _ _ _ h => h⟩
                · simp [execOp, Act.eval, s103, s108, go_sem]
                · rw [own_put rfl (by rw [hs]; omega)]; exact rfl
              · obtain rfl := Option.some.inj (show some _ = some o from ho)
                have s109 : a.tmps.getD 109 undef = .bool false := hdone _ (Array.mem_of_getElem? (i := 0) rfl) rfl _ rfl
                refine wpOp_val (v := .bool false) (w' := w) rfl rfl ?_ ⟨_, rfl, ?_, hS, fun _ _ _ h => h⟩
                · simp [execOp, Act.eval, s109]
                · rw [own_put rfl (by rw [hs]; omega)]; exact rfl
              · obtain rfl := Option.some.inj (show some _ = some o from ho)
                have hg : a.tmps.getD 110 undef = .bool (false) := hdone _ (Array.mem_of_getElem? (i := 0) rfl) rfl _ rfl
                refine wpOp_valw (v := .pointer (some ⟨b', 0, none⟩)) (w' := w) rfl (wanted_yes 9 110 false hg (by rw [hs]; omega) rfl rfl rfl rfl) ?_ ⟨_, rfl, ?_, hS, fun _ _ _ h => h⟩
                · simp [execOp, Act.eval, t9]
                · rw [own_put rfl (by rw [hs]; omega)]; exact rfl
              · obtain rfl := Option.some.inj (show some _ = some o from ho)
                have s111 : a.tmps.getD 111 undef = .pointer (some ⟨b', 0, none⟩) := hdone _ (Array.mem_of_getElem? (i := 0) rfl) rfl _ rfl
                have hg : a.tmps.getD 110 undef = .bool (false) := hdone _ (Array.mem_of_getElem? (i := 1) rfl) rfl _ rfl
                refine wpOp_callw (f := 22) (args := #[.pointer (some ⟨b', 0, none⟩)]) rfl (wanted_yes 9 110 false hg (by rw [hs]; omega) rfl rfl rfl rfl) ?_ ?_
                · simp [go_sem, execOp, Act.eval, Deferred.ofValue, callFunc, Try.func22, Try.f22, s111, resolve, invoke]
                · refine (frame_any S b' _ ((HO.out.below hS).at_)).mono ?_
                  rintro e w' ⟨rfl, b9⟩
                  refine ⟨_, rfl, _, rfl, ?_, below_call hS b9, fun _ _ _ h => apR18_below b9 h⟩
                  rw [own_put rfl (by rw [hs]; omega)]; exact rfl
              · obtain rfl := Option.some.inj (show some _ = some o from ho)
                have hg : a.tmps.getD 110 undef = .bool (false) := hdone _ (Array.mem_of_getElem? (i := 0) rfl) rfl _ rfl
                have hrw : w.heap[g]? = some (.cells S.frm 45 (0, 0)) := (hS.block g (Array.getElem?_eq_some_iff.1 HRW2.out).1).trans HRW2.out
                have ld := run_loadVar_row (P := Try.prog) w g _ 45 S.frm _ _ hrw Try.underlying45 rfl HFI.out
                refine wpOp_valw (v := .agg S.frm) (w' := w) rfl (wanted_yes 9 110 false hg (by rw [hs]; omega) rfl rfl rfl rfl) ?_ ⟨_, rfl, ?_, hS, fun _ _ _ h => h⟩
                · simp [execOp, Act.eval, t11, Instr.loadAt, Instr.sureAddr, ld, Result.andThen_ok]
                · rw [own_put rfl (by rw [hs]; omega)]; exact rfl
              · obtain rfl := Option.some.inj (show some _ = some o from ho)
                have s112 : a.tmps.getD 112 undef = .agg S.frm := hdone _ (Array.mem_of_getElem? (i := 0) rfl) rfl _ rfl
                have s113 : a.tmps.getD 113 undef = .agg S.frm := hdone _ (Array.mem_of_getElem? (i := 1) rfl) rfl _ rfl
                have hg : a.tmps.getD 110 undef = .bool (false) := hdone _ (Array.mem_of_getElem? (i := 2) rfl) rfl _ rfl
                refine wpOp_valw (v := .bool false) (w' := w) rfl (wanted_yes 9 110 false hg (by rw [hs]; omega) rfl rfl rfl rfl) ?_ ⟨_, rfl, ?_, hS, fun _ _ _ h => h⟩
                · exact exec_neq rfl s112 s113 (by kernel_rfl) (frame_refl _ w)
                · rw [own_put rfl (by rw [hs]; omega)]; exact rfl
              · obtain rfl := Option.some.inj (show some _ = some o from ho)
                have s110 : a.tmps.getD 110 undef = .bool false := hdone _ (Array.mem_of_getElem? (i := 0) rfl) rfl _ rfl
                have s114 : a.tmps.getD 114 undef = .bool false := hdone _ (Array.mem_of_getElem? (i := 1) rfl) rfl _ rfl
                refine wpOp_val (v := .bool false) (w' := w) rfl rfl ?_ ⟨_, rfl, ?_, hS, fun _ _ _ h => h⟩
                · simp [execOp, Act.eval, s110, s114, go_sem]
                · rw [own_put rfl (by rw [hs]; omega)]; exact rfl
              · obtain rfl := Option.some.inj (show some _ = some o from ho)
                have s115 : a.tmps.getD 115 undef = .bool false := hdone _ (Array.mem_of_getElem? (i := 0) rfl) rfl _ rfl
                refine wpOp_val (v := .bool false) (w' := w) rfl rfl ?_ ⟨_, rfl, ?_, hS, fun _ _ _ h => h⟩
                · simp [execOp, Act.eval, s115]
                · rw [own_put rfl (by rw [hs]; omega)]; exact rfl
              · obtain rfl := Option.some.inj (show some _ = some o from ho)
                have hg : a.tmps.getD 116 undef = .bool (false) := hdone _ (Array.mem_of_getElem? (i := 0) rfl) rfl _ rfl
                refine wpOp_valw (v := .pointer (some ⟨b', 0, none⟩)) (w' := w) rfl (wanted_yes 15 116 false hg (by rw [hs]; omega) rfl rfl rfl rfl) ?_ ⟨_, rfl, ?_, hS, fun _ _ _ h => h⟩
                · simp [execOp, Act.eval, t9]
                · rw [own_put rfl (by rw [hs]; omega)]; exact rfl
              · obtain rfl := Option.some.inj (show some _ = some o from ho)
                have s117 : a.tmps.getD 117 undef = .pointer (some ⟨b', 0, none⟩) := hdone _ (Array.mem_of_getElem? (i := 0) rfl) rfl _ rfl
                have hg : a.tmps.getD 116 undef = .bool (false) := hdone _ (Array.mem_of_getElem? (i := 1) rfl) rfl _ rfl
                refine wpOp_callw (f := 21) (args := #[.pointer (some ⟨b', 0, none⟩)]) rfl (wanted_yes 15 116 false hg (by rw [hs]; omega) rfl rfl rfl rfl) ?_ ?_
                · simp [go_sem, execOp, Act.eval, Deferred.ofValue, callFunc, Try.func21, Try.f21, s117, resolve, invoke]
                · refine (stack_yes S b' _ ((HO.out.below hS).at_) HH.out.2.2).mono ?_
                  rintro e w' ⟨rfl, b9, r9⟩
                  refine ⟨_, rfl, _, rfl, ?_, below_call hS b9, fun _ _ _ h => apR18_below b9 h⟩
                  rw [own_put rfl (by rw [hs]; omega)]; exact ⟨_, rfl, r9⟩
              · obtain rfl := Option.some.inj (show some _ = some o from ho)
                have s118 : ∃ z, a.tmps.getD 118 undef = .slice (some ⟨z, 0, none⟩) 264 264 ∧ w.rowIs z 5 264 (fun i => .int .u8 (S.g (322 + i))) := hdone _ (Array.mem_of_getElem? (i := 0) rfl) rfl _ rfl
                have hg : a.tmps.getD 116 undef = .bool (false) := hdone _ (Array.mem_of_getElem? (i := 1) rfl) rfl _ rfl
                obtain ⟨z, hz, rz⟩ := s118
                have hcv := (conv_row rz 0 264 264 (by omega)).trans (congrArg (fun s => Result.ok (Value.string s) w) CC.out.2)
                refine wpOp_valw (v := .string C3) (w' := w) rfl (wanted_yes 15 116 false hg (by rw [hs]; omega) rfl rfl rfl rfl) ?_ ⟨_, rfl, ?_, hS, fun _ _ _ h => h⟩
                · simp [execOp, Act.eval, hz, hcv]
                · rw [own_put rfl (by rw [hs]; omega)]; exact rfl
              · obtain rfl := Option.some.inj (show some _ = some o from ho)
                have hg : a.tmps.getD 116 undef = .bool (false) := hdone _ (Array.mem_of_getElem? (i := 0) rfl) rfl _ rfl
                refine wpOp_valw (v := .string C3) (w' := w) rfl (wanted_yes 15 116 false hg (by rw [hs]; omega) rfl rfl rfl rfl) ?_ ⟨_, rfl, ?_, hS, fun _ _ _ h => h⟩
                · simp [execOp, Act.eval, t12]
                · rw [own_put rfl (by rw [hs]; omega)]; exact rfl
              · obtain rfl := Option.some.inj (show some _ = some o from ho)
                have s119 : a.tmps.getD 119 undef = .string C3 := hdone _ (Array.mem_of_getElem? (i := 0) rfl) rfl _ rfl
                have s120 : a.tmps.getD 120 undef = .string C3 := hdone _ (Array.mem_of_getElem? (i := 1) rfl) rfl _ rfl
                have hg : a.tmps.getD 116 undef = .bool (false) := hdone _ (Array.mem_of_getElem? (i := 2) rfl) rfl _ rfl
                refine wpOp_valw (v := .bool false) (w' := w) rfl (wanted_yes 15 116 false hg (by rw [hs]; omega) rfl rfl rfl rfl) ?_ ⟨_, rfl, ?_, hS, fun _ _ _ h => h⟩
                · simp [execOp, Act.eval, s119, s120, go_sem]
                · rw [own_put rfl (by rw [hs]; omega)]; exact rfl
              · obtain rfl := Option.some.inj (show some _ = some o from ho)
                have s116 : a.tmps.getD 116 undef = .bool false := hdone _ (Array.mem_of_getElem? (i := 0) rfl) rfl _ rfl
                have s121 : a.tmps.getD 121 undef = .bool false := hdone _ (Array.mem_of_getElem? (i := 1) rfl) rfl _ rfl
                refine wpOp_val (v := .bool false) (w' := w) rfl rfl ?_ ⟨_, rfl, ?_, hS, fun _ _ _ h => h⟩
                · simp [execOp, Act.eval, s116, s121, go_sem]
                · rw [own_put rfl (by rw [hs]; omega)]; exact rfl
            case hq =>
              intro u w' hS hR
              have f : u 122 = .bool false := hR 21 _ rfl
              clear hR
              rw [show outs _ u = [(101, u 101), (102, u 102), (103, u 103), (104, u 104), (105, u 105), (106, u 106), (107, u 107), (108, u 108), (109, u 109), (110, u 110), (111, u 111), (112, u 112), (113, u 113), (114, u 114), (115, u 115), (116, u 116), (117, u 117), (118, u 118), (119, u 119), (120, u 120), (121, u 121), (122, u 122)] by kernel_rfl, f]
              simp only [putAll, List.setIfInBounds_toArray, List.set_cons_zero, List.set_cons_succ]
              generalize u 101 = z101; generalize u 102 = z102; generalize u 103 = z103; generalize u 104 = z104; generalize u 105 = z105; generalize u 106 = z106; generalize u 107 = z107; generalize u 108 = z108; generalize u 109 = z109; generalize u 110 = z110; generalize u 111 = z111; generalize u 112 = z112; generalize u 113 = z113; generalize u 114 = z114; generalize u 115 = z115; generalize u 116 = z116; generalize u 117 = z117; generalize u 118 = z118; generalize u 119 = z119; generalize u 120 = z120; generalize u 121 = z121
              clear f u
              have T9 := Lib.hid (T8.out.next hS)
              clear hS T8
              go_wp2_with fail
              go_roundw
              case rel => exact ⟨k + 1, by omega, by go_num, Lib.hid ⟨T9.out.below, S', T9.out.mem, HH'.out.1, HH'.out.2.1, HH'.out.2.2⟩⟩
              case measure => simp [intOf]; omega
        · have KC := Lib.hid (keeps_told (KF.out.2 hf) EN.out CC.out.1 CC.out.2)
          have e0 : (f != 0) = true := by simpa using hf
          clear KF hf
          go_wp2_with fail
          refine wp_region_inv (fun _ => 100000) (fun w => Below w7.heap.size w7 w) (apR16 0 b S S' C1 C3) (by kernel_rfl) (back_of (by kernel_rfl)) (dst_of (by kernel_rfl)) (dep_of (by kernel_rfl)) (in_of (by kernel_rfl)) (Below.drew (Below.refl _ _)) ?hop ?hq
          case hop =>
            intro i o a w ho hS hdf hsz hrest hdone
            have t5 : a.tmps.getD 5 undef = .pointer (some ⟨b, 0, none⟩) := hrest 5 (not_of (by kernel_rfl))
            have t10 : a.tmps.getD 10 undef = .string C1 := hrest 10 (not_of (by kernel_rfl))
            have t11 : a.tmps.getD 11 undef = .pointer (some ⟨g, 0, none⟩) := hrest 11 (not_of (by kernel_rfl))
            have t12 : a.tmps.getD 12 undef = .string C3 := hrest 12 (not_of (by kernel_rfl))
            have t14 : a.tmps.getD 14 undef = .int .i8 0 := hrest 14 (not_of (by kernel_rfl))
            have hs : a.tmps.size = 124 := hsz.trans rfl
            have hi : i < 30 := (Array.getElem?_eq_some_iff.1 ho).1
            clear hrest hsz hdf
            obtain rfl | rfl | rfl | rfl | rfl | rfl | rfl | rfl | rfl | rfl | rfl | rfl | rfl | rfl | rfl | rfl | rfl | rfl | rfl | rfl | rfl | rfl | rfl | rfl | rfl | rfl | rfl | rfl | rfl | rfl : i = 0 ∨ i = 1 ∨ i = 2 ∨ i = 3 ∨ i = 4 ∨ i = 5 ∨ i = 6 ∨ i = 7 ∨ i = 8 ∨ i = 9 ∨ i = 10 ∨ i = 11 ∨ i = 12 ∨ i = 13 ∨ i = 14 ∨ i = 15 ∨ i = 16 ∨ i = 17 ∨ i = 18 ∨ i = 19 ∨ i = 20 ∨ i = 21 ∨ i = 22 ∨ i = 23 ∨ i = 24 ∨ i = 25 ∨ i = 26 ∨ i = 27 ∨ i = 28 ∨ i = 29 := by omega
            · obtain rfl := Option.some.inj (show some _ = some o from ho)
              refine wpOp_val (v := .int .i8 0) (w' := w) rfl rfl ?_ ⟨_, rfl, ?_, hS, fun _ _ _ h => h⟩
              · simp [execOp, Act.eval, t14]
              · rw [own_put rfl (by rw [hs]; omega)]; exact rfl
            · obtain rfl := Option.some.inj (show some _ = some o from ho)
              have s71 : a.tmps.getD 71 undef = .int .i8 0 := hdone _ (Array.mem_of_getElem? (i := 0) rfl) rfl _ rfl
              refine wpOp_val (v := .bool (0 != 2)) (w' := w) rfl rfl ?_ ⟨_, rfl, ?_, hS, fun _ _ _ h => h⟩
              · simp [execOp, Act.eval, s71, go_sem]
              · rw [own_put rfl (by rw [hs]; omega)]; exact rfl
            · obtain rfl := Option.some.inj (show some _ = some o from ho)
              have s72 : a.tmps.getD 72 undef = .bool (0 != 2) := hdone _ (Array.mem_of_getElem? (i := 0) rfl) rfl _ rfl
              refine wpOp_val (v := .bool (0 != 2)) (w' := w) rfl rfl ?_ ⟨_, rfl, ?_, hS, fun _ _ _ h => h⟩
              · simp [execOp, Act.eval, s72]
              · rw [own_put rfl (by rw [hs]; omega)]; exact rfl
            · obtain rfl := Option.some.inj (show some _ = some o from ho)
              have hg : a.tmps.getD 73 undef = .bool ((0 != 2)) := hdone _ (Array.mem_of_getElem? (i := 0) rfl) rfl _ rfl
              by_cases hb : ((0 != 2)) = true
              case neg => exact wpOp_no rfl (wanted_no 2 73 ((0 != 2)) hg (by rw [hs]; omega) rfl rfl rfl (by simpa using hb)) ⟨_, rfl, fun h => absurd h hb, hS, fun _ _ _ h => id h⟩
              refine wpOp_valw (v := .pointer (some ⟨b, 0, none⟩)) (w' := w) rfl (wanted_yes 2 73 ((0 != 2)) hg (by rw [hs]; omega) rfl rfl rfl (by simpa using hb)) ?_ ⟨_, rfl, ?_, hS, fun _ _ _ h => h⟩
              · simp [execOp, Act.eval, t5]
              · rw [own_put rfl (by rw [hs]; omega)]; exact fun _ => rfl
            · obtain rfl := Option.some.inj (show some _ = some o from ho)
              have s74 : (0 != 2) = true → a.tmps.getD 74 undef = .pointer (some ⟨b, 0, none⟩) := hdone _ (Array.mem_of_getElem? (i := 0) rfl) rfl _ rfl
              have hg : a.tmps.getD 73 undef = .bool ((0 != 2)) := hdone _ (Array.mem_of_getElem? (i := 1) rfl) rfl _ rfl
              by_cases hb : ((0 != 2)) = true
              case neg => exact wpOp_no rfl (wanted_no 2 73 ((0 != 2)) hg (by rw [hs]; omega) rfl rfl rfl (by simpa using hb)) ⟨_, rfl, fun h => absurd h hb, hS, fun _ _ _ h => id h⟩
              refine wpOp_callw (f := 20) (args := #[.pointer (some ⟨b, 0, none⟩)]) rfl (wanted_yes 2 73 ((0 != 2)) hg (by rw [hs]; omega) rfl rfl rfl (by simpa using hb)) ?_ ?_
              · simp [go_sem, execOp, Act.eval, Deferred.ofValue, callFunc, Try.func20, Try.f20, s74 hb, resolve, invoke]
              · refine (context_any S' b _ ((HM.out.below hS).at_)).mono ?_
                rintro e w' ⟨rfl, b9, r9⟩
                refine ⟨_, rfl, _, rfl, ?_, below_call hS b9, fun _ _ _ h => apR16_below b9 h⟩
                rw [own_put rfl (by rw [hs]; omega)]; exact fun _ => ⟨_, rfl, r9⟩
            · obtain rfl := Option.some.inj (show some _ = some o from ho)
              have s75 : (0 != 2) = true → ∃ z, a.tmps.getD 75 undef = .slice (some ⟨z, 0, none⟩) S'.n S'.n ∧ w.rowIs z 5 S'.n (fun i => .int .u8 (S'.g (1 + i))) := hdone _ (Array.mem_of_getElem? (i := 0) rfl) rfl _ rfl
              have hg : a.tmps.getD 73 undef = .bool ((0 != 2)) := hdone _ (Array.mem_of_getElem? (i := 1) rfl) rfl _ rfl
              by_cases hb : ((0 != 2)) = true
              case neg => exact wpOp_no rfl (wanted_no 2 73 ((0 != 2)) hg (by rw [hs]; omega) rfl rfl rfl (by simpa using hb)) ⟨_, rfl, fun h => absurd h hb, hS, fun _ _ _ h => id h⟩
              obtain ⟨z, hz, rz⟩ := s75 hb
              have hcv := (conv_row rz 0 S'.n S'.n (by omega)).trans (congrArg (fun s => Result.ok (Value.string s) w) (KC.out.1 hb))
              refine wpOp_valw (v := .string C1) (w' := w) rfl (wanted_yes 2 73 ((0 != 2)) hg (by rw [hs]; omega) rfl rfl rfl (by simpa using hb)) ?_ ⟨_, rfl, ?_, hS, fun _ _ _ h => h⟩
              · simp [execOp, Act.eval, hz, hcv]
              · rw [own_put rfl (by rw [hs]; omega)]; exact fun _ => rfl
            · obtain rfl := Option.some.inj (show some _ = some o from ho)
              have hg : a.tmps.getD 73 undef = .bool ((0 != 2)) := hdone _ (Array.mem_of_getElem? (i := 0) rfl) rfl _ rfl
              by_cases hb : ((0 != 2)) = true
              case neg => exact wpOp_no rfl (wanted_no 2 73 ((0 != 2)) hg (by rw [hs]; omega) rfl rfl rfl (by simpa using hb)) ⟨_, rfl, fun h => absurd h hb, hS, fun _ _ _ h => id h⟩
              refine wpOp_valw (v := .string C1) (w' := w) rfl (wanted_yes 2 73 ((0 != 2)) hg (by rw [hs]; omega) rfl rfl rfl (by simpa using hb)) ?_ ⟨_, rfl, ?_, hS, fun _ _ _ h => h⟩
              · simp [execOp, Act.eval, t10]
              · rw [own_put rfl (by rw [hs]; omega)]; exact fun _ => rfl
            · obtain rfl := Option.some.inj (show some _ = some o from ho)
              have s76 : (0 != 2) = true → a.tmps.getD 76 undef = .string C1 := hdone _ (Array.mem_of_getElem? (i := 0) rfl) rfl _ rfl
              have s77 : (0 != 2) = true → a.tmps.getD 77 undef = .string C1 := hdone _ (Array.mem_of_getElem? (i := 1) rfl) rfl _ rfl
              have hg : a.tmps.getD 73 undef = .bool ((0 != 2)) := hdone _ (Array.mem_of_getElem? (i := 2) rfl) rfl _ rfl
              by_cases hb : ((0 != 2)) = true
              case neg => exact wpOp_no rfl (wanted_no 2 73 ((0 != 2)) hg (by rw [hs]; omega) rfl rfl rfl (by simpa using hb)) ⟨_, rfl, fun h => absurd h hb, hS, fun _ _ _ h => id h⟩
              refine wpOp_valw (v := .bool false) (w' := w) rfl (wanted_yes 2 73 ((0 != 2)) hg (by rw [hs]; omega) rfl rfl rfl (by simpa using hb)) ?_ ⟨_, rfl, ?_, hS, fun _ _ _ h => h⟩
              · simp [execOp, Act.eval, s76 hb, s77 hb, go_sem]
              · rw [own_put rfl (by rw [hs]; omega)]; exact fun _ => rfl
            · obtain rfl := Option.some.inj (show some _ = some o from ho)
              have s73 : a.tmps.getD 73 undef = .bool (0 != 2) := hdone _ (Array.mem_of_getElem? (i := 0) rfl) rfl _ rfl
              have s78 : (0 != 2) = true → a.tmps.getD 78 undef = .bool false := hdone _ (Array.mem_of_getElem? (i := 1) rfl) rfl _ rfl
              refine wpOp_val (v := .bool false) (w' := w) rfl rfl ?_ ⟨_, rfl, ?_, hS, fun _ _ _ h => h⟩
              · (cases hb : (0 != 2)) <;> first | (simp only [hb] at s73 s78; simp [execOp, Act.eval, s73, s78, go_sem]; done) | (simp only [hb] at s73; simp [execOp, Act.eval, s73, go_sem]; done)
              · rw [own_put rfl (by rw [hs]; omega)]; exact rfl
            · obtain rfl := Option.some.inj (show some _ = some o from ho)
              have s79 : a.tmps.getD 79 undef = .bool false := hdone _ (Array.mem_of_getElem? (i := 0) rfl) rfl _ rfl
              refine wpOp_val (v := .bool false) (w' := w) rfl rfl ?_ ⟨_, rfl, ?_, hS, fun _ _ _ h => h⟩
              · simp [execOp, Act.eval, s79]
              · rw [own_put rfl (by rw [hs]; omega)]; exact rfl
            · obtain rfl := Option.some.inj (show some _ = some o from ho)
              have hg : a.tmps.getD 80 undef = .bool (false) := hdone _ (Array.mem_of_getElem? (i := 0) rfl) rfl _ rfl
              refine wpOp_valw (v := .int .i8 0) (w' := w) rfl (wanted_yes 9 80 false hg (by rw [hs]; omega) rfl rfl rfl rfl) ?_ ⟨_, rfl, ?_, hS, fun _ _ _ h => h⟩
              · simp [execOp, Act.eval, t14]
              · rw [own_put rfl (by rw [hs]; omega)]; exact rfl
            · obtain rfl := Option.some.inj (show some _ = some o from ho)
              have s81 : a.tmps.getD 81 undef = .int .i8 0 := hdone _ (Array.mem_of_getElem? (i := 0) rfl) rfl _ rfl
              have hg : a.tmps.getD 80 undef = .bool (false) := hdone _ (Array.mem_of_getElem? (i := 1) rfl) rfl _ rfl
              refine wpOp_valw (v := .bool (0 != 3)) (w' := w) rfl (wanted_yes 9 80 false hg (by rw [hs]; omega) rfl rfl rfl rfl) ?_ ⟨_, rfl, ?_, hS, fun _ _ _ h => h⟩
              · simp [execOp, Act.eval, s81, go_sem]
              · rw [own_put rfl (by rw [hs]; omega)]; exact rfl
            · obtain rfl := Option.some.inj (show some _ = some o from ho)
              have s82 : a.tmps.getD 82 undef = .bool (0 != 3) := hdone _ (Array.mem_of_getElem? (i := 0) rfl) rfl _ rfl
              have hg : a.tmps.getD 80 undef = .bool (false) := hdone _ (Array.mem_of_getElem? (i := 1) rfl) rfl _ rfl
              refine wpOp_valw (v := .bool (0 != 3)) (w' := w) rfl (wanted_yes 9 80 false hg (by rw [hs]; omega) rfl rfl rfl rfl) ?_ ⟨_, rfl, ?_, hS, fun _ _ _ h => h⟩
              · simp [execOp, Act.eval, s82]
              · rw [own_put rfl (by rw [hs]; omega)]; exact rfl
            · obtain rfl := Option.some.inj (show some _ = some o from ho)
              have hg : a.tmps.getD 83 undef = .bool ((0 != 3)) := hdone _ (Array.mem_of_getElem? (i := 0) rfl) rfl _ rfl
              by_cases hb : ((0 != 3)) = true
              case neg => exact wpOp_no rfl (wanted_no 12 83 ((0 != 3)) hg (by rw [hs]; omega) rfl rfl rfl (by simpa using hb)) ⟨_, rfl, fun h => absurd h hb, hS, fun _ _ _ h => id h⟩
              refine wpOp_valw (v := .pointer (some ⟨b, 0, none⟩)) (w' := w) rfl (wanted_yes 12 83 ((0 != 3)) hg (by rw [hs]; omega) rfl rfl rfl (by simpa using hb)) ?_ ⟨_, rfl, ?_, hS, fun _ _ _ h => h⟩
              · simp [execOp, Act.eval, t5]
              · rw [own_put rfl (by rw [hs]; omega)]; exact fun _ => rfl
            · obtain rfl := Option.some.inj (show some _ = some o from ho)
              have s84 : (0 != 3) = true → a.tmps.getD 84 undef = .pointer (some ⟨b, 0, none⟩) := hdone _ (Array.mem_of_getElem? (i := 0) rfl) rfl _ rfl
              have hg : a.tmps.getD 83 undef = .bool ((0 != 3)) := hdone _ (Array.mem_of_getElem? (i := 1) rfl) rfl _ rfl
              by_cases hb : ((0 != 3)) = true
              case neg => exact wpOp_no rfl (wanted_no 12 83 ((0 != 3)) hg (by rw [hs]; omega) rfl rfl rfl (by simpa using hb)) ⟨_, rfl, fun h => absurd h hb, hS, fun _ _ _ h => id h⟩
              refine wpOp_callw (f := 22) (args := #[.pointer (some ⟨b, 0, none⟩)]) rfl (wanted_yes 12 83 ((0 != 3)) hg (by rw [hs]; omega) rfl rfl rfl (by simpa using hb)) ?_ ?_
              · simp [go_sem, execOp, Act.eval, Deferred.ofValue, callFunc, Try.func22, Try.f22, s84 hb, resolve, invoke]
              · refine (frame_any S' b _ ((HM.out.below hS).at_)).mono ?_
                rintro e w' ⟨rfl, b9⟩
                refine ⟨_, rfl, _, rfl, ?_, below_call hS b9, fun _ _ _ h => apR16_below b9 h⟩
                rw [own_put rfl (by rw [hs]; omega)]; exact fun _ => congrArg _ (KC.out.2.1 hb)
            · obtain rfl := Option.some.inj (show some _ = some o from ho)
              have hg : a.tmps.getD 83 undef = .bool ((0 != 3)) := hdone _ (Array.mem_of_getElem? (i := 0) rfl) rfl _ rfl
              by_cases hb : ((0 != 3)) = true
              case neg => exact wpOp_no rfl (wanted_no 12 83 ((0 != 3)) hg (by rw [hs]; omega) rfl rfl rfl (by simpa using hb)) ⟨_, rfl, fun h => absurd h hb, hS, fun _ _ _ h => id h⟩
              have hrw : w.heap[g]? = some (.cells S.frm 45 (0, 0)) := (hS.block g (Array.getElem?_eq_some_iff.1 HRW.out).1).trans HRW.out
              have ld := run_loadVar_row (P := Try.prog) w g _ 45 S.frm _ _ hrw Try.underlying45 rfl HFI.out
              refine wpOp_valw (v := .agg S.frm) (w' := w) rfl (wanted_yes 12 83 ((0 != 3)) hg (by rw [hs]; omega) rfl rfl rfl (by simpa using hb)) ?_ ⟨_, rfl, ?_, hS, fun _ _ _ h => h⟩
              · simp [execOp, Act.eval, t11, Instr.loadAt, Instr.sureAddr, ld, Result.andThen_ok]
              · rw [own_put rfl (by rw [hs]; omega)]; exact fun _ => rfl
            · obtain rfl := Option.some.inj (show some _ = some o from ho)
              have s85 : (0 != 3) = true → a.tmps.getD 85 undef = .agg S.frm := hdone _ (Array.mem_of_getElem? (i := 0) rfl) rfl _ rfl
              have s86 : (0 != 3) = true → a.tmps.getD 86 undef = .agg S.frm := hdone _ (Array.mem_of_getElem? (i := 1) rfl) rfl _ rfl
              have hg : a.tmps.getD 83 undef = .bool ((0 != 3)) := hdone _ (Array.mem_of_getElem? (i := 2) rfl) rfl _ rfl
              by_cases hb : ((0 != 3)) = true
              case neg => exact wpOp_no rfl (wanted_no 12 83 ((0 != 3)) hg (by rw [hs]; omega) rfl rfl rfl (by simpa using hb)) ⟨_, rfl, fun h => absurd h hb, hS, fun _ _ _ h => id h⟩
              refine wpOp_valw (v := .bool false) (w' := w) rfl (wanted_yes 12 83 ((0 != 3)) hg (by rw [hs]; omega) rfl rfl rfl (by simpa using hb)) ?_ ⟨_, rfl, ?_, hS, fun _ _ _ h => h⟩
              · exact exec_neq rfl (s85 hb) (s86 hb) (by kernel_rfl) (frame_refl _ w)
              · rw [own_put rfl (by rw [hs]; omega)]; exact fun _ => rfl
            · obtain rfl := Option.some.inj (show some _ = some o from ho)
              have s83 : a.tmps.getD 83 undef = .bool (0 != 3) := hdone _ (Array.mem_of_getElem? (i := 0) rfl) rfl _ rfl
              have s87 : (0 != 3) = true → a.tmps.getD 87 undef = .bool false := hdone _ (Array.mem_of_getElem? (i := 1) rfl) rfl _ rfl
              have hg : a.tmps.getD 80 undef = .bool (false) := hdone _ (Array.mem_of_getElem? (i := 2) rfl) rfl _ rfl
              refine wpOp_valw (v := .bool false) (w' := w) rfl (wanted_yes 9 80 false hg (by rw [hs]; omega) rfl rfl rfl rfl) ?_ ⟨_, rfl, ?_, hS, fun _ _ _ h => h⟩
              · (cases hb : (0 != 3)) <;> first | (simp only [hb] at s83 s87; simp [execOp, Act.eval, s83, s87, go_sem]; done) | (simp only [hb] at s83; simp [execOp, Act.eval, s83, go_sem]; done)
              · rw [own_put rfl (by rw [hs]; omega)]; exact rfl
            · obtain rfl := Option.some.inj (show some _ = some o from ho)
              have s80 : a.tmps.getD 80 undef = .bool false := hdone _ (Array.mem_of_getElem? (i := 0) rfl) rfl _ rfl
              have s88 : a.tmps.getD 88 undef = .bool false := hdone _ (Array.mem_of_getElem? (i := 1) rfl) rfl _ rfl
              refine wpOp_val (v := .bool false) (w' := w) rfl rfl ?_ ⟨_, rfl, ?_, hS, fun _ _ _ h => h⟩
              · simp [execOp, Act.eval, s80, s88, go_sem]
              · rw [own_put rfl (by rw [hs]; omega)]; exact rfl
            · obtain rfl := Option.some.inj (show some _ = some o from ho)
              have s89 : a.tmps.getD 89 undef = .bool false := hdone _ (Array.mem_of_getElem? (i := 0) rfl) rfl _ rfl
              refine wpOp_val (v := .bool false) (w' := w) rfl rfl ?_ ⟨_, rfl, ?_, hS, fun _ _ _ h => h⟩
              · simp [execOp, Act.eval, s89]
              · rw [own_put rfl (by rw [hs]; omega)]; exact rfl
            · obtain rfl := Option.some.inj (show some _ = some o from ho)
              have hg : a.tmps.getD 90 undef = .bool (false) := hdone _ (Array.mem_of_getElem? (i := 0) rfl) rfl _ rfl
              refine wpOp_valw (v := .int .i8 0) (w' := w) rfl (wanted_yes 19 90 false hg (by rw [hs]; omega) rfl rfl rfl rfl) ?_ ⟨_, rfl, ?_, hS, fun _ _ _ h => h⟩
              · simp [execOp, Act.eval, t14]
              · rw [own_put rfl (by rw [hs]; omega)]; exact rfl
            · obtain rfl := Option.some.inj (show some _ = some o from ho)
              have s91 : a.tmps.getD 91 undef = .int .i8 0 := hdone _ (Array.mem_of_getElem? (i := 0) rfl) rfl _ rfl
              have hg : a.tmps.getD 90 undef = .bool (false) := hdone _ (Array.mem_of_getElem? (i := 1) rfl) rfl _ rfl
              refine wpOp_valw (v := .bool (0 != 4)) (w' := w) rfl (wanted_yes 19 90 false hg (by rw [hs]; omega) rfl rfl rfl rfl) ?_ ⟨_, rfl, ?_, hS, fun _ _ _ h => h⟩
              · simp [execOp, Act.eval, s91, go_sem]
              · rw [own_put rfl (by rw [hs]; omega)]; exact rfl
            · obtain rfl := Option.some.inj (show some _ = some o from ho)
              have s92 : a.tmps.getD 92 undef = .bool (0 != 4) := hdone _ (Array.mem_of_getElem? (i := 0) rfl) rfl _ rfl
              have hg : a.tmps.getD 90 undef = .bool (false) := hdone _ (Array.mem_of_getElem? (i := 1) rfl) rfl _ rfl
              refine wpOp_valw (v := .bool (0 != 4)) (w' := w) rfl (wanted_yes 19 90 false hg (by rw [hs]; omega) rfl rfl rfl rfl) ?_ ⟨_, rfl, ?_, hS, fun _ _ _ h => h⟩
              · simp [execOp, Act.eval, s92]
              · rw [own_put rfl (by rw [hs]; omega)]; exact rfl
            · obtain rfl := Option.some.inj (show some _ = some o from ho)
              have hg : a.tmps.getD 93 undef = .bool ((0 != 4)) := hdone _ (Array.mem_of_getElem? (i := 0) rfl) rfl _ rfl
              by_cases hb : ((0 != 4)) = true
              case neg => exact wpOp_no rfl (wanted_no 22 93 ((0 != 4)) hg (by rw [hs]; omega) rfl rfl rfl (by simpa using hb)) ⟨_, rfl, fun h => absurd h hb, hS, fun _ _ _ h => id h⟩
              refine wpOp_valw (v := .pointer (some ⟨b, 0, none⟩)) (w' := w) rfl (wanted_yes 22 93 ((0 != 4)) hg (by rw [hs]; omega) rfl rfl rfl (by simpa using hb)) ?_ ⟨_, rfl, ?_, hS, fun _ _ _ h => h⟩
              · simp [execOp, Act.eval, t5]
              · rw [own_put rfl (by rw [hs]; omega)]; exact fun _ => rfl
            · obtain rfl := Option.some.inj (show some _ = some o from ho)
              have s94 : (0 != 4) = true → a.tmps.getD 94 undef = .pointer (some ⟨b, 0, none⟩) := hdone _ (Array.mem_of_getElem? (i := 0) rfl) rfl _ rfl
              have hg : a.tmps.getD 93 undef = .bool ((0 != 4)) := hdone _ (Array.mem_of_getElem? (i := 1) rfl) rfl _ rfl
              by_cases hb : ((0 != 4)) = true
              case neg => exact wpOp_no rfl (wanted_no 22 93 ((0 != 4)) hg (by rw [hs]; omega) rfl rfl rfl (by simpa using hb)) ⟨_, rfl, fun h => absurd h hb, hS, fun _ _ _ h => id h⟩
              refine wpOp_callw (f := 21) (args := #[.pointer (some ⟨b, 0, none⟩)]) rfl (wanted_yes 22 93 ((0 != 4)) hg (by rw [hs]; omega) rfl rfl rfl (by simpa using hb)) ?_ ?_
              · simp [go_sem, execOp, Act.eval, Deferred.ofValue, callFunc, Try.func21, Try.f21, s94 hb, resolve, invoke]
              · refine (stack_yes S' b _ ((HM.out.below hS).at_) HH'.out.2.2).mono ?_
                rintro e w' ⟨rfl, b9, r9⟩
                refine ⟨_, rfl, _, rfl, ?_, below_call hS b9, fun _ _ _ h => apR16_below b9 h⟩
                rw [own_put rfl (by rw [hs]; omega)]; exact fun _ => ⟨_, rfl, r9⟩
            · obtain rfl := Option.some.inj (show some _ = some o from ho)
              have s95 : (0 != 4) = true → ∃ z, a.tmps.getD 95 undef = .slice (some ⟨z, 0, none⟩) 264 264 ∧ w.rowIs z 5 264 (fun i => .int .u8 (S'.g (322 + i))) := hdone _ (Array.mem_of_getElem? (i := 0) rfl) rfl _ rfl
              have hg : a.tmps.getD 93 undef = .bool ((0 != 4)) := hdone _ (Array.mem_of_getElem? (i := 1) rfl) rfl _ rfl
              by_cases hb : ((0 != 4)) = true
              case neg => exact wpOp_no rfl (wanted_no 22 93 ((0 != 4)) hg (by rw [hs]; omega) rfl rfl rfl (by simpa using hb)) ⟨_, rfl, fun h => absurd h hb, hS, fun _ _ _ h => id h⟩
              obtain ⟨z, hz, rz⟩ := s95 hb
              have hcv := (conv_row rz 0 264 264 (by omega)).trans (congrArg (fun s => Result.ok (Value.string s) w) (KC.out.2.2 hb))
              refine wpOp_valw (v := .string C3) (w' := w) rfl (wanted_yes 22 93 ((0 != 4)) hg (by rw [hs]; omega) rfl rfl rfl (by simpa using hb)) ?_ ⟨_, rfl, ?_, hS, fun _ _ _ h => h⟩
              · simp [execOp, Act.eval, hz, hcv]
              · rw [own_put rfl (by rw [hs]; omega)]; exact fun _ => rfl
            · obtain rfl := Option.some.inj (show some _ = some o from ho)
              have hg : a.tmps.getD 93 undef = .bool ((0 != 4)) := hdone _ (Array.mem_of_getElem? (i := 0) rfl) rfl _ rfl
              by_cases hb : ((0 != 4)) = true
              case neg => exact wpOp_no rfl (wanted_no 22 93 ((0 != 4)) hg (by rw [hs]; omega) rfl rfl rfl (by simpa using hb)) ⟨_, rfl, fun h => absurd h hb, hS, fun _ _ _ h => id h⟩
              refine wpOp_valw (v := .string C3) (w' := w) rfl (wanted_yes 22 93 ((0 != 4)) hg (by rw [hs]; omega) rfl rfl rfl (by simpa using hb)) ?_ ⟨_, rfl, ?_, hS, fun _ _ _ h => h⟩
              · simp [execOp, Act.eval, t12]
              · rw [own_put rfl (by rw [hs]; omega)]; exact fun _ => rfl
            · obtain rfl := Option.some.inj (show some _ = some o from ho)
              have s96 : (0 != 4) = true → a.tmps.getD 96 undef = .string C3 := hdone _ (Array.mem_of_getElem? (i := 0) rfl) rfl _ rfl
              have s97 : (0 != 4) = true → a.tmps.getD 97 undef = .string C3 := hdone _ (Array.mem_of_getElem? (i := 1) rfl) rfl _ rfl
              have hg : a.tmps.getD 93 undef = .bool ((0 != 4)) := hdone _ (Array.mem_of_getElem? (i := 2) rfl) rfl _ rfl
              by_cases hb : ((0 != 4)) = true
              case neg => exact wpOp_no rfl (wanted_no 22 93 ((0 != 4)) hg (by rw [hs]; omega) rfl rfl rfl (by simpa using hb)) ⟨_, rfl, fun h => absurd h hb, hS, fun _ _ _ h => id h⟩
              refine wpOp_valw (v := .bool false) (w' := w) rfl (wanted_yes 22 93 ((0 != 4)) hg (by rw [hs]; omega) rfl rfl rfl (by simpa using hb)) ?_ ⟨_, rfl, ?_, hS, fun _ _ _ h => h⟩
              · simp [execOp, Act.eval, s96 hb, s97 hb, go_sem]
              · rw [own_put rfl (by rw [hs]; omega)]; exact fun _ => rfl
            · obtain rfl := Option.some.inj (show some _ = some o from ho)
              have s93 : a.tmps.getD 93 undef = .bool (0 != 4) := hdone _ (Array.mem_of_getElem? (i := 0) rfl) rfl _ rfl
              have s98 : (0 != 4) = true → a.tmps.getD 98 undef = .bool false := hdone _ (Array.mem_of_getElem? (i := 1) rfl) rfl _ rfl
              have hg : a.tmps.getD 90 undef = .bool (false) := hdone _ (Array.mem_of_getElem? (i := 2) rfl) rfl _ rfl
              refine wpOp_valw (v := .bool false) (w' := w) rfl (wanted_yes 19 90 false hg (by rw [hs]; omega) rfl rfl rfl rfl) ?_ ⟨_, rfl, ?_, hS, fun _ _ _ h => h⟩
              · (cases hb : (0 != 4)) <;> first | (simp only [hb] at s93 s98; simp [execOp, Act.eval, s93, s98, go_sem]; done) | (simp only [hb] at s93; simp [execOp, Act.eval, s93, go_sem]; done)
              · rw [own_put rfl (by rw [hs]; omega)]; exact rfl
            · obtain rfl := Option.some.inj (show some _ = some o from ho)
              have s90 : a.tmps.getD 90 undef = .bool false := hdone _ (Array.mem_of_getElem? (i := 0) rfl) rfl _ rfl
              have s99 : a.tmps.getD 99 undef = .bool false := hdone _ (Array.mem_of_getElem? (i := 1) rfl) rfl _ rfl
              refine wpOp_val (v := .bool false) (w' := w) rfl rfl ?_ ⟨_, rfl, ?_, hS, fun _ _ _ h => h⟩
              · simp [execOp, Act.eval, s90, s99, go_sem]
              · rw [own_put rfl (by rw [hs]; omega)]; exact rfl
          case hq =>
            intro u w' hS hR
            have f : u 100 = .bool false := hR 29 _ rfl
            clear hR
            rw [show outs _ u = [(71, u 71), (72, u 72), (73, u 73), (74, u 74), (75, u 75), (76, u 76), (77, u 77), (78, u 78), (79, u 79), (80, u 80), (81, u 81), (82, u 82), (83, u 83), (84, u 84), (85, u 85), (86, u 86), (87, u 87), (88, u 88), (89, u 89), (90, u 90), (91, u 91), (92, u 92), (93, u 93), (94, u 94), (95, u 95), (96, u 96), (97, u 97), (98, u 98), (99, u 99), (100, u 100)] by kernel_rfl, f]
            simp only [putAll, List.setIfInBounds_toArray, List.set_cons_zero, List.set_cons_succ]
            generalize u 71 = z71; generalize u 72 = z72; generalize u 73 = z73; generalize u 74 = z74; generalize u 75 = z75; generalize u 76 = z76; generalize u 77 = z77; generalize u 78 = z78; generalize u 79 = z79; generalize u 80 = z80; generalize u 81 = z81; generalize u 82 = z82; generalize u 83 = z83; generalize u 84 = z84; generalize u 85 = z85; generalize u 86 = z86; generalize u 87 = z87; generalize u 88 = z88; generalize u 89 = z89; generalize u 90 = z90; generalize u 91 = z91; generalize u 92 = z92; generalize u 93 = z93; generalize u 94 = z94; generalize u 95 = z95; generalize u 96 = z96; generalize u 97 = z97; generalize u 98 = z98; generalize u 99 = z99
            clear f u
            have T8 := Lib.hid (T7.out.next hS)
            have HO := Lib.hid T8.out.old
            have HRW2 := Lib.hid ((hS.block g (Array.getElem?_eq_some_iff.1 HRW.out).1).trans HRW.out)
            clear hS T7 HM HRW
            generalize hw8 : w' = w8 at *
            clear hw8
            go_wp2_with fail
            refine wp_region_inv (fun _ => 100000) (fun w => Below w8.heap.size w8 w) (apR18 b' S C1 C3) (by kernel_rfl) (back_of (by kernel_rfl)) (dst_of (by kernel_rfl)) (dep_of (by kernel_rfl)) (in_of (by kernel_rfl)) (Below.drew (Below.refl _ _)) ?hop ?hq
            case hop =>
              intro i o a w ho hS hdf hsz hrest hdone
              have t9 : a.tmps.getD 9 undef = .pointer (some ⟨b', 0, none⟩) := hrest 9 (not_of (by kernel_rfl))
              have t10 : a.tmps.getD 10 undef = .string C1 := hrest 10 (not_of (by kernel_rfl))
              have t11 : a.tmps.getD 11 undef = .pointer (some ⟨g, 0, none⟩) := hrest 11 (not_of (by kernel_rfl))
              have t12 : a.tmps.getD 12 undef = .string C3 := hrest 12 (not_of (by kernel_rfl))
              have hs : a.tmps.size = 124 := hsz.trans rfl
              have hi : i < 22 := (Array.getElem?_eq_some_iff.1 ho).1
              clear hrest hsz hdf
              obtain rfl | rfl | rfl | rfl | rfl | rfl | rfl | rfl | rfl | rfl | rfl | rfl | rfl | rfl | rfl | rfl | rfl | rfl | rfl | rfl | rfl | rfl : i = 0 ∨ i = 1 ∨ i = 2 ∨ i = 3 ∨ i = 4 ∨ i = 5 ∨ i = 6 ∨ i = 7 ∨ i = 8 ∨ i = 9 ∨ i = 10 ∨ i = 11 ∨ i = 12 ∨ i = 13 ∨ i = 14 ∨ i = 15 ∨ i = 16 ∨ i = 17 ∨ i = 18 ∨ i = 19 ∨ i = 20 ∨ i = 21 := by omega
              · obtain rfl := Option.some.inj (show some _ = some o from ho)
                refine wpOp_val (v := .pointer (some ⟨b', 0, none⟩)) (w' := w) rfl rfl ?_ ⟨_, rfl, ?_, hS, fun _ _ _ h => h⟩
                · simp [execOp, Act.eval, t9]
                · rw [own_put rfl (by rw [hs]; omega)]; exact rfl
              · obtain rfl := Option.some.inj (show some _ = some o from ho)
                have s101 : a.tmps.getD 101 undef = .pointer (some ⟨b', 0, none⟩) := hdone _ (Array.mem_of_getElem? (i := 0) rfl) rfl _ rfl
                refine wpOp_val (v := .bool false) (w' := w) rfl rfl ?_ ⟨_, rfl, ?_, hS, fun _ _ _ h => h⟩
                · simp [execOp, Act.eval, s101, go_sem]
                · rw [own_put rfl (by rw [hs]; omega)]; exact rfl
              · obtain rfl := Option.some.inj (show some _ = some o from ho)
                have s102 : a.tmps.getD 102 undef = .bool false := hdone _ (Array.mem_of_getElem? (i := 0) rfl) rfl _ rfl
                refine wpOp_val (v := .bool false) (w' := w) rfl rfl ?_ ⟨_, rfl, ?_, hS, fun _ _ _ h => h⟩
                · simp [execOp, Act.eval, s102]
                · rw [own_put rfl (by rw [hs]; omega)]; exact rfl
              · obtain rfl := Option.some.inj (show some _ = some o from ho)
                have hg : a.tmps.getD 103 undef = .bool (false) := hdone _ (Array.mem_of_getElem? (i := 0) rfl) rfl _ rfl
                refine wpOp_valw (v := .pointer (some ⟨b', 0, none⟩)) (w' := w) rfl (wanted_yes 2 103 false hg (by rw [hs]; omega) rfl rfl rfl rfl) ?_ ⟨_, rfl, ?_, hS, fun _ _ _ h => h⟩
                · simp [execOp, Act.eval, t9]
                · rw [own_put rfl (by rw [hs]; omega)]; exact rfl
              · obtain rfl := Option.some.inj (show some _ = some o from ho)
                have s104 : a.tmps.getD 104 undef = .pointer (some ⟨b', 0, none⟩) := hdone _ (Array.mem_of_getElem? (i := 0) rfl) rfl _ rfl
                have hg : a.tmps.getD 103 undef = .bool (false) := hdone _ (Array.mem_of_getElem? (i := 1) rfl) rfl _ rfl
                refine wpOp_callw (f := 20) (args := #[.pointer (some ⟨b', 0, none⟩)]) rfl (wanted_yes 2 103 false hg (by rw [hs]; omega) rfl rfl rfl rfl) ?_ ?_
                · simp [go_sem, execOp, Act.eval, Deferred.ofValue, callFunc, Try.func20, Try.f20, s104, resolve, invoke]
                · refine (context_any S b' _ ((HO.out.below hS).at_)).mono ?_
                  rintro e w' ⟨rfl, b9, r9⟩
                  refine ⟨_, rfl, _, rfl, ?_, below_call hS b9, fun _ _ _ h => apR18_below b9 h⟩
                  rw [own_put rfl (by rw [hs]; omega)]; exact ⟨_, rfl, r9⟩
              · obtain rfl := Option.some.inj (show some _ = some o from ho)
                have s105 : ∃ z, a.tmps.getD 105 undef = .slice (some ⟨z, 0, none⟩) S.n S.n ∧ w.rowIs z 5 S.n (fun i => .int .u8 (S.g (1 + i))) := hdone _ (Array.mem_of_getElem? (i := 0) rfl) rfl _ rfl
                have hg : a.tmps.getD 103 undef = .bool (false) := hdone _ (Array.mem_of_getElem? (i := 1) rfl) rfl _ rfl
                obtain ⟨z, hz, rz⟩ := s105
                have hcv := (conv_row rz 0 S.n S.n (by omega)).trans (congrArg (fun s => Result.ok (Value.string s) w) CC.out.1)
                refine wpOp_valw (v := .string C1) (w' := w) rfl (wanted_yes 2 103 false hg (by rw [hs]; omega) rfl rfl rfl rfl) ?_ ⟨_, rfl, ?_, hS, fun _ _ _ h => h⟩
                · simp [execOp, Act.eval, hz, hcv]
                · rw [own_put rfl (by rw [hs]; omega)]; exact rfl
              · obtain rfl := Option.some.inj (show some _ = some o from ho)
                have hg : a.tmps.getD 103 undef = .bool (false) := hdone _ (Array.mem_of_getElem? (i := 0) rfl) rfl _ rfl
                refine wpOp_valw (v := .string C1) (w' := w) rfl (wanted_yes 2 103 false hg (by rw [hs]; omega) rfl rfl rfl rfl) ?_ ⟨_, rfl, ?_, hS, fun _ _ _ h => h⟩
                · simp [execOp, Act.eval, t10]
                · rw [own_put rfl (by rw [hs]; omega)]; exact rfl
              · obtain rfl := Option.some.inj (show some _ = some o from ho)
                have s106 : a.tmps.getD 106 undef = .string C1 := hdone _ (Array.mem_of_getElem? (i := 0) rfl) rfl _ rfl
                have s107 : a.tmps.getD 107 undef = .string C1 := hdone _ (Array.mem_of_getElem? (i := 1) rfl) rfl _ rfl
                have hg : a.tmps.getD 103 undef = .bool (false) := hdone _ (Array.mem_of_getElem? (i := 2) rfl) rfl _ rfl
                refine wpOp_valw (v := .bool false) (w' := w) rfl (wanted_yes 2 103 false hg (by rw [hs]; omega) rfl rfl rfl rfl) ?_ ⟨_, rfl, ?_, hS, fun _ _ _ h => h⟩
                · simp [execOp, Act.eval, s106, s107, go_sem]
                · rw [own_put rfl (by rw [hs]; omega)]; exact rfl
              · obtain rfl := Option.some.inj (show some _ = some o from ho)
                have s103 : a.tmps.getD 103 undef = .bool false := hdone _ (Array.mem_of_getElem? (i := 0) rfl) rfl _ rfl
                have s108 : a.tmps.getD 108 undef = .bool false := hdone _ (Array.mem_of_getElem? (i := 1) rfl) rfl _ rfl
                refine wpOp_val (v := .bool false) (w' := w) rfl rfl ?_ ⟨_, rfl, ?_, hS, fun _ _ _ h => h⟩
                · simp [execOp, Act.eval, s103, s108, go_sem]
                · rw [own_put rfl (by rw [hs]; omega)]; exact rfl
              · obtain rfl := Option.some.inj (show some _ = some o from ho)
                have s109 : a.tmps.getD 109 undef = .bool false := hdone _ (Array.mem_of_getElem? (i := 0) rfl) rfl _ rfl
                refine wpOp_val (v := .bool false) (w' := w) rfl rfl ?_ ⟨_, rfl, ?_, hS, fun _ _ _ h => h⟩
                · simp [execOp, Act.eval, s109]
                · rw [own_put rfl (by rw [hs]; omega)]; exact rfl
              · obtain rfl := Option.some.inj (show some _ = some o from ho)
                have hg : a.tmps.getD 110 undef = .bool (false) := hdone _ (Array.mem_of_getElem? (i := 0) rfl) rfl _ rfl
                refine wpOp_valw (v := .pointer (some ⟨b', 0, none⟩)) (w' := w) rfl (wanted_yes 9 110 false hg (by rw [hs]; omega) rfl rfl rfl rfl) ?_ ⟨_, rfl, ?_, hS, fun _ _ _ h => h⟩
                · simp [execOp, Act.eval, t9]
                · rw [own_put rfl (by rw [hs]; omega)]; exact rfl
              · obtain rfl := Option.some.inj (show some _ = some o from ho)
                have s111 : a.tmps.getD 111 undef = .pointer (some ⟨b', 0, none⟩) := hdone _ (Array.mem_of_getElem? (i := 0) rfl) rfl _ rfl
                have hg : a.tmps.getD 110 undef = .bool (false) := hdone _ (Array.mem_of_getElem? (i := 1) rfl) rfl _ rfl
                refine wpOp_callw (f := 22) (args := #[.pointer (some ⟨b', 0, none⟩)]) rfl (wanted_yes 9 110 false hg (by rw [hs]; omega) rfl rfl rfl rfl) ?_ ?_
                · simp [go_sem, execOp, Act.eval, Deferred.ofValue, callFunc, Try.func22, Try.f22, s111, resolve, invoke]
                · refine (frame_any S b' _ ((HO.out.below hS).at_)).mono ?_
                  rintro e w' ⟨rfl, b9⟩
                  refine ⟨_, rfl, _, rfl, ?_, below_call hS b9, fun _ _ _ h => apR18_below b9 h⟩
                  rw [own_put rfl (by rw [hs]; omega)]; exact rfl
              · obtain rfl := Option.some.inj (show some _ = some o from ho)
                have hg : a.tmps.getD 110 undef = .bool (false) := hdone _ (Array.mem_of_getElem? (i := 0) rfl) rfl _ rfl
                have hrw : w.heap[g]? = some (.cells S.frm 45 (0, 0)) := (hS.block g (Array.getElem?_eq_some_iff.1 HRW2.out).1).trans HRW2.out
                have ld := run_loadVar_row (P := Try.prog) w g _ 45 S.frm _ _ hrw Try.underlying45 rfl HFI.out
                refine wpOp_valw (v := .agg S.frm) (w' := w) rfl (wanted_yes 9 110 false hg (by rw [hs]; omega) rfl rfl rfl rfl) ?_ ⟨_, rfl, ?_, hS, fun _ _ _ h => h⟩
                · simp [execOp, Act.eval, t11, Instr.loadAt, Instr.sureAddr, ld, Result.andThen_ok]
                · rw [own_put rfl (by rw [hs]; omega)]; exact rfl
              · obtain rfl := Option.some.inj (show some _ = some o from ho)
                have s112 : a.tmps.getD 112 undef = .agg S.frm := hdone _ (Array.mem_of_getElem? (i := 0) rfl) rfl _ rfl
                have s113 : a.tmps.getD 113 undef = .agg S.frm := hdone _ (Array.mem_of_getElem? (i := 1) rfl) rfl _ rfl
                have hg : a.tmps.getD 110 undef = .bool (false) := hdone _ (Array.mem_of_getElem? (i := 2) rfl) rfl _ rfl
                refine wpOp_valw (v := .bool false) (w' := w) rfl (wanted_yes 9 110 false hg (by rw [hs]; omega) rfl rfl rfl rfl) ?_ ⟨_, rfl, ?_, hS, fun _ _ _ h => h⟩
                · exact exec_neq rfl s112 s113 (by kernel_rfl) (frame_refl _ w)
                · rw [own_put rfl (by rw [hs]; omega)]; exact rfl
              · obtain rfl := Option.some.inj (show some _ = some o from ho)
                have s110 : a.tmps.getD 110 undef = .bool false := hdone _ (Array.mem_of_getElem? (i := 0) rfl) rfl _ rfl
                have s114 : a.tmps.getD 114 undef = .bool false := hdone _ (Array.mem_of_getElem? (i := 1) rfl) rfl _ rfl
                refine wpOp_val (v := .bool false) (w' := w) rfl rfl ?_ ⟨_, rfl, ?_, hS, fun _ _ _ h => h⟩
                · simp [execOp, Act.eval, s110, s114, go_sem]
                · rw [own_put rfl (by rw [hs]; omega)]; exact rfl
              · obtain rfl := Option.some.inj (show some _ = some o from ho)
                have s115 : a.tmps.getD 115 undef = .bool false := hdone _ (Array.mem_of_getElem? (i := 0) rfl) rfl _ rfl
                refine wpOp_val (v := .bool false) (w' := w) rfl rfl ?_ ⟨_, rfl, ?_, hS, fun _ _ _ h => h⟩
                · simp [execOp, Act.eval, s115]
                · rw [own_put rfl (by rw [hs]; omega)]; exact rfl
              · obtain rfl := Option.some.inj (show some _ = some o from ho)
                have hg : a.tmps.getD 116 undef = .bool (false) := hdone _ (Array.mem_of_getElem? (i := 0) rfl) rfl _ rfl
                refine wpOp_valw (v := .pointer (some ⟨b', 0, none⟩)) (w' := w) rfl (wanted_yes 15 116 false hg (by rw [hs]; omega) rfl rfl rfl rfl) ?_ ⟨_, rfl, ?_, hS, fun _ _ _ h => h⟩
                · simp [execOp, Act.eval, t9]
                · rw [own_put rfl (by rw [hs]; omega)]; exact rfl
              · obtain rfl := Option.some.inj (show some _ = some o from ho)
                have s117 : a.tmps.getD 117 undef = .pointer (some ⟨b', 0, none⟩) := hdone _ (Array.mem_of_getElem? (i := 0) rfl) rfl _ rfl
                have hg : a.tmps.getD 116 undef = .bool (false) := hdone _ (Array.mem_of_getElem? (i := 1) rfl) rfl _ rfl
                refine wpOp_callw (f := 21) (args := #[.pointer (some ⟨b', 0, none⟩)]) rfl (wanted_yes 15 116 false hg (by rw [hs]; omega) rfl rfl rfl rfl) ?_ ?_
                · simp [go_sem, execOp, Act.eval, Deferred.ofValue, callFunc, Try.func21, Try.f21, s117, resolve, invoke]
                · refine (stack_yes S b' _ ((HO.out.below hS).at_) HH.out.2.2).mono ?_
                  rintro e w' ⟨rfl, b9, r9⟩
                  refine ⟨_, rfl, _, rfl, ?_, below_call hS b9, fun _ _ _ h => apR18_below b9 h⟩
                  rw [own_put rfl (by rw [hs]; omega)]; exact ⟨_, rfl, r9⟩
              · obtain rfl := Option.some.inj (show some _ = some o from ho)
                have s118 : ∃ z, a.tmps.getD 118 undef = .slice (some ⟨z, 0, none⟩) 264 264 ∧ w.rowIs z 5 264 (fun i => .int .u8 (S.g (322 + i))) := hdone _ (Array.mem_of_getElem? (i := 0) rfl) rfl _ rfl
                have hg : a.tmps.getD 116 undef = .bool (false) := hdone _ (Array.mem_of_getElem? (i := 1) rfl) rfl _ rfl
                obtain ⟨z, hz, rz⟩ := s118
                have hcv := (conv_row rz 0 264 264 (by omega)).trans (congrArg (fun s => Result.ok (Value.string s) w) CC.out.2)
                refine wpOp_valw (v := .string C3) (w' := w) rfl (wanted_yes 15 116 false hg (by rw [hs]; omega) rfl rfl rfl rfl) ?_ ⟨_, rfl, ?_, hS, fun _ _ _ h => h⟩
                · simp [execOp, Act.eval, hz, hcv]
                · rw [own_put rfl (by rw [hs]; omega)]; exact rfl
              · obtain rfl := Option.some.inj (show some _ = some o from ho)
                have hg : a.tmps.getD 116 undef = .bool (false) := hdone _ (Array.mem_of_getElem? (i := 0) rfl) rfl _ rfl
                refine wpOp_valw (v := .string C3) (w' := w) rfl (wanted_yes 15 116 false hg (by rw [hs]; omega) rfl rfl rfl rfl) ?_ ⟨_, rfl, ?_, hS, fun _ _ _ h => h⟩
                · simp [execOp, Act.eval, t12]
                · rw [own_put rfl (by rw [hs]; omega)]; exact rfl
              · obtain rfl := Option.some.inj (show some _ = some o from ho)
                have s119 : a.tmps.getD 119 undef = .string C3 := hdone _ (Array.mem_of_getElem? (i := 0) rfl) rfl _ rfl
                have s120 : a.tmps.getD 120 undef = .string C3 := hdone _ (Array.mem_of_getElem? (i := 1) rfl) rfl _ rfl
                have hg : a.tmps.getD 116 undef = .bool (false) := hdone _ (Array.mem_of_getElem? (i := 2) rfl) rfl _ rfl
                refine wpOp_valw (v := .bool false) (w' := w) rfl (wanted_yes 15 116 false hg (by rw [hs]; omega) rfl rfl rfl rfl) ?_ ⟨_, rfl, ?_, hS, fun _ _ _ h => h⟩
                · simp [execOp, Act.eval, s119, s120, go_sem]
                · rw [own_put rfl (by rw [hs]; omega)]; exact rfl
              · obtain rfl := Option.some.inj (show some _ = some o from ho)
                have s116 : a.tmps.getD 116 undef = .bool false := hdone _ (Array.mem_of_getElem? (i := 0) rfl) rfl _ rfl
                have s121 : a.tmps.getD 121 undef = .bool false := hdone _ (Array.mem_of_getElem? (i := 1) rfl) rfl _ rfl
                refine wpOp_val (v := .bool false) (w' := w) rfl rfl ?_ ⟨_, rfl, ?_, hS, fun _ _ _ h => h⟩
                · simp [execOp, Act.eval, s116, s121, go_sem]
                · rw [own_put rfl (by rw [hs]; omega)]; exact rfl
            case hq =>
              intro u w' hS hR
              have f : u 122 = .bool false := hR 21 _ rfl
              clear hR
              rw [show outs _ u = [(101, u 101), (102, u 102), (103, u 103), (104, u 104), (105, u 105), (106, u 106), (107, u 107), (108, u 108), (109, u 109), (110, u 110), (111, u 111), (112, u 112), (113, u 113), (114, u 114), (115, u 115), (116, u 116), (117, u 117), (118, u 118), (119, u 119), (120, u 120), (121, u 121), (122, u 122)] by kernel_rfl, f]
              simp only [putAll, List.setIfInBounds_toArray, List.set_cons_zero, List.set_cons_succ]
              generalize u 101 = z101; generalize u 102 = z102; generalize u 103 = z103; generalize u 104 = z104; generalize u 105 = z105; generalize u 106 = z106; generalize u 107 = z107; generalize u 108 = z108; generalize u 109 = z109; generalize u 110 = z110; generalize u 111 = z111; generalize u 112 = z112; generalize u 113 = z113; generalize u 114 = z114; generalize u 115 = z115; generalize u 116 = z116; generalize u 117 = z117; generalize u 118 = z118; generalize u 119 = z119; generalize u 120 = z120; generalize u 121 = z121
              clear f u
              have T9 := Lib.hid (T8.out.next hS)
              clear hS T8
              go_wp2_with fail
              go_roundw
              case rel => exact ⟨k + 1, by omega, by go_num, Lib.hid ⟨T9.out.below, S', T9.out.mem, HH'.out.1, HH'.out.2.1, HH'.out.2.2⟩⟩
              case measure => simp [intOf]; omega
    · obtain rfl : k = ll := by omega
      go_wp2_with fail
      refine (wakes_any _).mono ?_
      rintro e w9 ⟨rfl, b9⟩
      go_wp2
      go_ret
      exact ⟨rfl, below_call hR.out.1 b9⟩
end Go.Proofs.Ytocjmckjepjfeaa.Apart
