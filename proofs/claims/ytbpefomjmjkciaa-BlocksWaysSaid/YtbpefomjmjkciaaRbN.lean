/-
  The document's answer latheref04: Reach.
-/
import Derived.Test.YtbpefomjmjkciaaBlkT
namespace Go.Proofs.Ytbpefomjmjkciaa.Blk
open Go.RowKit Go.Maps Go.Sort Ins
set_option linter.unusedVariables false
set_option maxRecDepth 100000

/-- Marks that are owed: block 0, and what is behind a marked one. -/
structure RS (bs : List Bk) (f : Nat → Bool) : Prop where
  zero : f 0 = true
  sound : ∀ C : Nat → Prop, (∀ x y, C x → Succ bs x y → C y) → C 0 → ∀ x, f x = true → C x
theorem RS.start (bs : List Bk) : RS bs (upd (fun _ => false) 0) := ⟨upd_at _ 0, fun C _ h0 x hx => by
  by_cases e : x = 0
  · subst e; exact h0
  · rw [upd_ne _ e] at hx; cases hx⟩
theorem RS.more {bs : List Bk} {f : Nat → Bool} (h : RS bs f) {b y : Nat} (hb : f b = true) (hs : Succ bs b y) : RS bs (upd f y) := ⟨upd_more h.zero, fun C hC h0 x hx => by
  by_cases e : x = y
  · subst e; exact hC b x (h.sound C hC h0 b hb) hs
  · rw [upd_ne _ e] at hx; exact h.sound C hC h0 x hx⟩
theorem RS.walked {bs : List Bk} {f : Nat → Bool} (h : RS bs f) (hc : ∀ x y, f x = true → Succ bs x y → f y = true) : Walked bs (· = 0) (fun _ => false) f :=
  ⟨fun x hx => (by cases hx), fun x y h1 _ h2 => hc x y h1 h2, fun C hC hs x hx => .inr (h.sound C hC (hs 0 rfl) x hx)⟩

/-- Between two rounds. -/
structure RD (bs : List Bk) (base g n cp : Nat) (W : World) (f : Nat → Bool) (w : World) : Prop where
  rs : RS bs f
  row : w.ownsRow base 4 1 (.slice (some ⟨g, 0, none⟩) n cp) n (marks n f)
  below : Below W.heap.size W w

set_option maxHeartbeats 8000000 in
theorem r_reach_yes (a : Option Addr) (n c : Nat) (bs : List Bk) (W : World) (h : Blks W a n c bs) (hm : mayL bs = true) (h0 : 0 < n) :
    Calls Try.prog 28 #[.slice a n c] W (Reached bs W.heap.size n W) := by
  have h64 : n ≤ 64 := by have := mayL_len hm; have := h.size; omega
  have hc1 := h.le
  have hc2 := h.fit
  have e0 : ((n : Int) == 0) = false := by simpa using (by omega : ¬ (n : Int) = 0)
  have M := Lib.hid (r_may a n c bs W h)
  rw [hm] at M
  have S := Lib.hid h.size
  have H := Lib.hid (fun w b => Blks.below (w := w) h b)
  have MA := Lib.hid (show ∀ (k : Nat) (x : Bk), bs[k]? = some x → ∀ (j : Nat) (z : Int), x.next[j]? = some z → 0 ≤ z ∧ z < n from fun k x hx j z hz => by
    have h1 := mayL_all hm hx
    unfold mayB at h1
    rw [Bool.and_eq_true, List.all_eq_true] at h1
    have h2 := of_decide_eq_true (h1.2 z (List.mem_of_getElem? hz))
    have := S.out
    omega)
  clear h hm
  have hmk : ∀ w, (Instr.makeSlice 47 (.int .i64 (n : Int)) (.int .i64 (n : Int))).run Try.prog w = .ok (.slice (some ⟨w.heap.size, 0, none⟩) n n) (w.alloc (.cells (madeCells #[.bool false] n) 4)) := fun w => run_make_row' (P := Try.prog) 47 4 (.bool false) 1 Try.underlying47 info_bools rfl .i64 .i64 n (by omega) (by omega) w
  go_enter Try.func28, Try.ntmps28
  go_wp2_with fail
  refine M.out.mono ?_
  rintro e w1 hq
  obtain ⟨rfl, b1⟩ := hq.below
  have B1 := Lib.hid b1
  have hz1 := b1.size
  clear b1 hq M
  go_wp2_with (with_reducible refine (halt_store 4 _ _ rfl ?_))
  refine ⟨?_, trivial⟩
  generalize hN : w1.heap.size = N at *
  generalize hX : w1.alloc (Obj.cells (madeCells #[Value.bool false] n) 4) = X at *
  have BX := Lib.hid (show Below W.heap.size W X by rw [← hX]; exact below_new B1.out _)
  have c1 : X.heap[N]? = some (.cells (madeCells #[Value.bool false] n) 4 (0, 0)) := by rw [← hX]; exact heap_last _ _ _ hN.symm
  have OX : X.ownsRow W.heap.size 4 1 (.slice (some ⟨N, 0, none⟩) n n) n (marks n (fun _ => false)) :=
    ⟨by rw [marks_len]; omega, .inr ⟨N, n, _, rfl, by omega, c1, Nat.le_refl _, by unfold maxLen; omega, by rw [size_madeCells]; omega, by rw [marks_made, Nat.mul_one, List.take_of_length_le (by rw [marks_len]; exact Nat.le_refl _)]⟩⟩
  refine store_row1 rfl 4 _ _ rfl N 0 (.bool true) rfl rfl rfl rfl OX info_bool1 (by omega) ?_
  intro w2 r2 g2
  rw [marks_set] at r2
  have R2 := Lib.hid (show RD bs W.heap.size N n n W (upd (fun _ => false) 0) w2 from ⟨RS.start bs, r2, BX.out.grown g2 BX.out.size (fun j e => by injection e with e; omega)⟩)
  clear r2 g2 c1 OX BX hX B1
  go_wp2_with fail
  go_loopg [4] (left (upd (fun _ => false) 0) n + 1) (fun g ag wr => ∃ (again : Bool) (f : Nat → Bool), ag = .bool again ∧ Hid (RD bs W.heap.size N n n W f wr) ∧ Hid ((again = true ∧ g = left f n + 1) ∨ (again = false ∧ ∀ x y, f x = true → Succ bs x y → f y = true)))
  case atStart => exact ⟨true, _, rfl, R2, Lib.hid (.inl ⟨rfl, rfl⟩)⟩
  case round =>
    clear R2
    obtain ⟨again, f, rfl, R, HG⟩ := hrel
    cases again
    case false =>
      have CL := Lib.hid (HG.out.resolve_left (fun h => by cases h.1)).2
      go_wp2_with fail
      go_ret
      exact ⟨N, n, f, rfl, R.out.row, R.out.rs.walked CL.out, R.out.rs.zero, R.out.below⟩
    case true =>
      have GE := (HG.out.resolve_right (fun h => by cases h.1)).2
      clear HG
      subst GE
      go_wp2_with fail
      go_loopg [4, 5] n (fun g ag bi wr => ∃ (k : Nat) (ag' : Bool) (f' : Nat → Bool), k + g = n ∧ ag = .bool ag' ∧ bi = .int .i64 k ∧ Hid (RD bs W.heap.size N n n W f' wr ∧ (∀ x, f x = true → f' x = true) ∧ (ag' = true → left f' n < left f n) ∧ (ag' = false → f' = f ∧ ∀ x, x < k → f x = true → ∀ y, Succ bs x y → f y = true)))
      case atStart => exact ⟨0, false, f, by omega, rfl, rfl, Lib.hid ⟨R.out, fun _ h => h, fun h => (by cases h), fun _ => ⟨rfl, fun x h => (by omega)⟩⟩⟩
      case round =>
        clear R
        obtain ⟨k, ag', f', hkg, rfl, rfl, HK⟩ := hrel
        by_cases hlt : k < n
        · go_wp2_with fail
          obtain ⟨x, hx⟩ : ∃ x, bs[k]? = some x := ⟨_, List.getElem?_eq_getElem (by have := S.out; omega)⟩
          have HX := Lib.hid hx
          have MK := Lib.hid (MA.out k x hx)
          have h2 : x.next.length ≤ 9223372036854775807 := by
            obtain ⟨_, _, _, gb⟩ := (H.out W (Below.refl _ _)).here (by omega)
            obtain ⟨_, _, _, i1⟩ := gb k x hx
            have := i1.le
            have := i1.fit
            omega
          clear hx
          go_loopg [4, 6] x.next.length (fun g ag ki wr => ∃ (t : Nat) (ag2 : Bool) (f2 : Nat → Bool), t + g = x.next.length ∧ ag = .bool ag2 ∧ ki = .int .i64 t ∧ Hid (RD bs W.heap.size N n n W f2 wr ∧ (∀ x, f x = true → f2 x = true) ∧ (ag2 = true → left f2 n < left f n) ∧ (ag2 = false → f2 = f ∧ (∀ x, x < k → f x = true → ∀ y, Succ bs x y → f y = true) ∧ ∀ (j y : Nat), j < t → x.next[j]? = some (y : Int) → f y = true)))
          case atStart => exact ⟨0, ag', f', by omega, rfl, rfl, Lib.hid ⟨HK.out.1, HK.out.2.1, HK.out.2.2.1, fun h => ⟨(HK.out.2.2.2 h).1, (HK.out.2.2.2 h).2, fun j y h => by omega⟩⟩⟩
          case round =>
            clear HK
            obtain ⟨t, ag2, f2, htg, rfl, rfl, HT⟩ := hrel
            obtain ⟨bb, ob, rfl, gb⟩ := (H.out _ HT.out.1.below).here (by omega)
            obtain ⟨na, nc, q1, i1⟩ := gb k x HX.out
            obtain ⟨x0, x1, x2⟩ := blk_cells q1
            have hnl := i1.le
            have hnf := i1.fit
            have ck : wr.cell? ⟨N, k, none⟩ = some (.bool (f2 k)) := by
              rw [HT.out.1.row.cellAt k (by omega), marks_get f2 hlt]
            by_cases htl : t < x.next.length
            · cases hk2 : f2 k
              case false =>
                rw [hk2] at ck
                have E := Lib.hid (show ag2 = false → f k = true → False from fun h1 h2 => by have := (HT.out.2.2.2 h1).1; subst this; rw [hk2] at h2; cases h2)
                clear hk2 gb q1 i1 x0 x1
                go_wp2_with fail
                go_roundg (n - (k + 1))
                case measure => omega
                case rel => exact ⟨k + 1, ag2, f2, by omega, rfl, by go_num, Lib.hid ⟨HT.out.1, HT.out.2.1, HT.out.2.2.1, fun h => ⟨(HT.out.2.2.2 h).1, fun x' h1 h2 y h3 => by
                  by_cases e : x' = k
                  · subst e; exact (E.out h h2).elim
                  · exact (HT.out.2.2.2 h).2.1 x' (by omega) h2 y h3⟩⟩⟩
              case true =>
                rw [hk2] at ck
                obtain ⟨bn, on, rfl, hc⟩ := i1.here (by omega)
                obtain ⟨z, hz⟩ : ∃ z, x.next[t]? = some z := ⟨_, List.getElem?_eq_getElem htl⟩
                have hzz := MK.out t z hz
                obtain ⟨y, rfl⟩ : ∃ y : Nat, z = (y : Int) := ⟨z.toNat, by omega⟩
                have cz := hc t _ hz
                have hyn : y < n := by omega
                have cy : wr.cell? ⟨N, y, none⟩ = some (.bool (f2 y)) := by
                  rw [HT.out.1.row.cellAt y (by omega), marks_get f2 hyn]
                have HZ := Lib.hid hz
                have SY := Lib.hid (show Succ bs k y from ⟨x, HX.out, List.mem_of_getElem? hz⟩)
                have K2 := Lib.hid hk2
                clear hk2 gb q1 i1 hc hz hzz x0 x1
                cases hy : f2 y
                case true =>
                  rw [hy] at cy
                  have Y2 := Lib.hid hy
                  clear hy
                  go_wp2_with fail
                  go_roundg (x.next.length - (t + 1))
                  case measure => omega
                  case rel => exact ⟨t + 1, ag2, f2, by omega, rfl, by go_num, Lib.hid ⟨HT.out.1, HT.out.2.1, HT.out.2.2.1, fun h => ⟨(HT.out.2.2.2 h).1, (HT.out.2.2.2 h).2.1, fun j v h1 h2 => by
                    by_cases e : j = t
                    · subst e
                      have := HZ.out
                      rw [h2] at this
                      injection this with this
                      have e2 : v = y := by omega
                      subst e2
                      have e3 := (HT.out.2.2.2 h).1
                      rw [← e3]; exact Y2.out
                    · exact (HT.out.2.2.2 h).2.2 j v (by omega) h2⟩⟩⟩
                case false =>
                  rw [hy] at cy
                  have Y2 := Lib.hid hy
                  clear hy
                  go_wp2_with (with_reducible refine (halt_store 4 _ _ rfl ?_))
                  refine ⟨?_, trivial⟩
                  refine store_row1 rfl 4 _ _ rfl N y (.bool true) rfl rfl rfl rfl HT.out.1.row info_bool1 (by omega) ?_
                  intro w5 r5 g5
                  rw [marks_set] at r5
                  have hNb : W.heap.size ≤ N := (World.ownsRow.lt HT.out.1.row N rfl).1
                  have R5 := Lib.hid (show RD bs W.heap.size N n n W (upd f2 y) w5 from ⟨HT.out.1.rs.more K2.out SY.out, r5, HT.out.1.below.grown g5 HT.out.1.below.size (fun j e => by injection e with e; omega)⟩)
                  have LL := Lib.hid (show left (upd f2 y) n < left f n from Nat.lt_of_lt_of_le (left_upd Y2.out n hyn) (left_mono HT.out.2.1 n))
                  have MO := Lib.hid (show ∀ x, f x = true → upd f2 y x = true from fun x h => upd_more (HT.out.2.1 x h))
                  clear r5 g5 ck cy cz x2 HT
                  go_wp2_with fail
                  go_roundg (x.next.length - (t + 1))
                  case measure => omega
                  case rel => exact ⟨t + 1, true, _, by omega, rfl, by go_num, Lib.hid ⟨R5.out, MO.out, fun _ => LL.out, fun h => (by cases h)⟩⟩
            · obtain rfl : t = x.next.length := by omega
              clear gb q1 i1 x0 x1
              go_wp2_with fail
              go_roundg (n - (k + 1))
              case measure => omega
              case rel => exact ⟨k + 1, ag2, f2, by omega, rfl, by go_num, Lib.hid ⟨HT.out.1, HT.out.2.1, HT.out.2.2.1, fun h => ⟨(HT.out.2.2.2 h).1, fun x' h1 h2 y h3 => by
                by_cases e : x' = k
                · subst e
                  obtain ⟨x3, h4, h5⟩ := h3
                  obtain rfl : x = x3 := by have := HX.out; rw [h4] at this; injection this with this; exact this.symm
                  obtain ⟨j, hj⟩ := List.mem_iff_getElem?.1 h5
                  exact (HT.out.2.2.2 h).2.2 j y (List.getElem?_eq_some_iff.1 hj).1 hj
                · exact (HT.out.2.2.2 h).2.1 x' (by omega) h2 y h3⟩⟩⟩
        · obtain rfl : k = n := by omega
          cases ag'
          case false =>
            have E1 := (HK.out.2.2.2 rfl).1
            have E2 := Lib.hid ((HK.out.2.2.2 rfl).2)
            subst E1
            have G0 : 0 < left f' k + 1 := by omega
            go_wp2_with fail
            go_roundg 0
            case measure => omega
            case rel => exact ⟨false, f', rfl, Lib.hid HK.out.1, Lib.hid (.inr ⟨rfl, fun x y h1 h2 => E2.out x (by have := succ_lt h2; have := S.out; omega) h1 y h2⟩)⟩
          case true =>
            have G0 : left f' k + 1 < left f k + 1 := by have := HK.out.2.2.1 rfl; omega
            go_wp2_with fail
            go_roundg (left f' k + 1)
            case measure => omega
            case rel => exact ⟨true, f', rfl, Lib.hid HK.out.1, Lib.hid (.inl ⟨rfl, rfl⟩)⟩

theorem r_reach_no (a : Option Addr) (n c : Nat) (bs : List Bk) (W : World) (h : Blks W a n c bs) (h0 : mayL bs = false ∨ n = 0) :
    Calls Try.prog 28 #[.slice a n c] W fun e w' => e = .returned (.slice none 0 0) ∧ Below W.heap.size W w' := by
  have hl := h.le
  have hf := h.fit
  have M := Lib.hid (r_may a n c bs W h)
  clear h
  cases hm : mayL bs
  case false =>
    rw [hm] at M
    go_enter Try.func28, Try.ntmps28
    go_wp2_with fail
    refine M.out.mono ?_
    rintro e w1 hq
    obtain ⟨rfl, b1⟩ := hq.below
    clear hq
    go_wp2_with fail
    go_ret
    exact ⟨rfl, b1⟩
  case true =>
    have hn : n = 0 := by
      rcases h0 with h | h
      · rw [hm] at h; cases h
      · exact h
    subst hn
    rw [hm] at M
    clear hm h0
    go_enter Try.func28, Try.ntmps28
    go_wp2_with fail
    refine M.out.mono ?_
    rintro e w1 hq
    obtain ⟨rfl, b1⟩ := hq.below
    clear hq
    go_wp2_with fail
    go_ret
    exact ⟨rfl, b1⟩

/-- What is reached is told by what is asked of it. -/
theorem reached_one {bs : List Bk} {f g : Nat → Bool} (hf : Walked bs (· = 0) (fun _ => false) f) (hg : Walked bs (· = 0) (fun _ => false) g) (f0 : f 0 = true) (g0 : g 0 = true) : f = g := by
  funext x
  have h1 : f x = true → g x = true := fun h => (hf.sound (fun y => g y = true) (fun a b ha hs => hg.closed a b ha rfl hs) (fun y e => by subst e; exact g0) x h).resolve_left (fun h => by cases h)
  have h2 : g x = true → f x = true := fun h => (hg.sound (fun y => f y = true) (fun a b ha hs => hf.closed a b ha rfl hs) (fun y e => by subst e; exact f0) x h).resolve_left (fun h => by cases h)
  cases hx : f x <;> cases hy : g x <;> simp_all
end Go.Proofs.Ytbpefomjmjkciaa.Blk
