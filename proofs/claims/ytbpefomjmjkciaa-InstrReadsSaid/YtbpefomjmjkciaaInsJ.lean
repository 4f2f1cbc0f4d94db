/-
  Package instr: Encode.
-/
import Derived.Test.YtbpefomjmjkciaaInsH
import Derived.Test.YtbpefomjmjkciaaInsI
import Derived.Test.YtbpefomjmjkciaaInsT
import Derived.Laws.AppendOwn
namespace Go.Proofs.Ytbpefomjmjkciaa.Ins
open Go.RowKit
set_option linter.unusedVariables false

def u8s (l : List Int) : List Value := l.map (.int .u8)
theorem owns_below {w w' : World} {base : Nat} {e : TypeId} {s n : Nat} {v : Value} {xs : List Value} (h : w.ownsRow base e s v n xs) (b : Below w.heap.size w w') : w'.ownsRow base e s v n xs := by
  refine ⟨h.1, ?_⟩
  rcases h.2 with h | ⟨g, cap, cur, e1, e2, e3, r⟩
  · exact .inl h
  · exact .inr ⟨g, cap, cur, e1, e2, (b.block g (Array.getElem?_eq_some_iff.1 e3).1).trans e3, r⟩
theorem owns_past {w w' : World} {base : Nat} {e : TypeId} {s n : Nat} {v : Value} {xs : List Value} (h : w.ownsRow base e s v n xs) (b : ∀ k, k < w.heap.size → w'.heap[k]? = w.heap[k]?) : w'.ownsRow base e s v n xs := by
  refine ⟨h.1, ?_⟩
  rcases h.2 with h | ⟨g, cap, cur, e1, e2, e3, r⟩
  · exact .inl h
  · exact .inr ⟨g, cap, cur, e1, e2, (b g (Array.getElem?_eq_some_iff.1 e3).1).trans e3, r⟩
theorem row_cells {w : World} {z n : Nat} {t : TypeId} {f : Nat → Int} (h : w.rowIs z t n (fun i => .int .u8 (f i))) : ∀ j u, (u8s ((List.range n).map f))[j]? = some u → w.cell? ((⟨z, 0, none⟩ : Addr).add j) = some u := by
  intro j u hu
  unfold u8s at hu
  have hj : j < n := by
    by_cases hj : j < n
    · exact hj
    · rw [List.getElem?_eq_none (by simp; omega)] at hu; cases hu
  have : u = .int .u8 (f j) := by simpa [hj] using hu.symm
  rw [Go.WideShapes.add_plain, Nat.zero_add, h.cell hj, this]
theorem u8s_one (l : List Int) : ∀ u ∈ u8s l, u.oneCell' = true := by
  intro u hu
  obtain ⟨n, _, rfl⟩ := List.mem_map.1 hu
  rfl
theorem u8s_append (l m : List Int) : u8s (l ++ m) = u8s l ++ u8s m := List.map_append
theorem below_grown {W w w' : World} {row : Option Nat} (h : Below W.heap.size W w) (g : w.grownBy w' row) (hr : ∀ k, row = some k → W.heap.size ≤ k) : Below W.heap.size W w' :=
  h.trans ⟨g.os, g.tape, g.output, g.size, fun k hk => g.block k (Nat.lt_of_lt_of_le hk h.size) (fun e => by have := hr k e.symm; omega)⟩

/-- A program's bytes, as far as k instructions. -/
def encN (c : Int) (xs : Nat → In) : Nat → List Int
  | 0 => [byteI c 0, byteI c 1]
  | k + 1 => encN c xs k ++ (List.range 8).map (byteI (packI (xs k)))
theorem encN_length (c : Int) (xs : Nat → In) : ∀ k, (encN c xs k).length = 2 + 8 * k
  | 0 => rfl
  | k + 1 => by unfold encN; rw [List.length_append, encN_length c xs k]; simp; omega

/-- What Encode yields. -/
def Encoded (c : Int) (len : Nat) (xs : Nat → In) (W : World) (e : Ending) (w' : World) : Prop :=
  ∃ v, e = .returned (.tuple #[v, .int .i64 0]) ∧ w'.ownsRow W.heap.size 5 1 v (2 + 8 * len) (u8s (encN c xs len)) ∧ Below W.heap.size W w'

theorem info_u8a : ∃ i, Try.prog.info? 5 = some i ∧ i.zero = some (.int .u8 0) ∧ i.size = 1 ∧ i.bytes = 1 := by
  have h := info_u8
  cases hi : Try.prog.info? 5 with
  | none => rw [hi] at h; simp at h
  | some i => rw [hi] at h; simp at h; exact ⟨i, rfl, h.1, h.2.1, h.2.2⟩
theorem row_own {w : World} {z n base : Nat} {f : Nat → Int} (h : w.rowIs z 5 n (fun i => .int .u8 (f i))) (hb : base ≤ z) (hm : n ≤ maxLen) : w.ownsRow base 5 1 (.slice (some ⟨z, 0, none⟩) n n) n (u8s ((List.range n).map f)) := by
  obtain ⟨cur, h1, h2, h3⟩ := h
  refine ⟨by simp [u8s], .inr ⟨z, n, cur, rfl, hb, h1, Nat.le_refl _, hm, by omega, ?_⟩⟩
  apply List.ext_getElem?
  intro i
  by_cases hi : i < n
  · have := h3 i hi
    rw [List.getElem?_take_of_lt (by omega), Array.getElem?_toList, this]
    simp [u8s, hi]
  · rw [List.getElem?_eq_none (by simp; omega), List.getElem?_eq_none (by simp [u8s]; omega)]

theorem put_8 (v : Int) (h0 : 0 ≤ v) (h1 : v < 18446744073709551616) (W : World) :
    Calls Try.prog 57 #[.int .u64 v, .int .i64 8] W fun e w' => e = .returned (.slice (some ⟨W.heap.size, 0, none⟩) 8 8) ∧ Below W.heap.size W w' ∧ w'.rowIs W.heap.size 5 8 (fun i => .int .u8 (byteI v i)) := put_any v 8 h0 h1 W
theorem put_2 (v : Int) (h0 : 0 ≤ v) (h1 : v < 18446744073709551616) (W : World) :
    Calls Try.prog 57 #[.int .u64 v, .int .i64 2] W fun e w' => e = .returned (.slice (some ⟨W.heap.size, 0, none⟩) 2 2) ∧ Below W.heap.size W w' ∧ w'.rowIs W.heap.size 5 2 (fun i => .int .u8 (byteI v i)) := put_any v 2 h0 h1 W
set_option maxRecDepth 100000 in
set_option maxHeartbeats 2000000 in
theorem encode_no (c : Int) (a : Option Addr) (len cap : Nat) (xs : Nat → In) (W : World) (hx : Insts W a len cap xs) (h0 : ¬ (checkI c len xs).2 = 0) :
    Calls Try.prog 19 #[.agg #[.int .i64 c, .slice a len cap]] W fun e w' => e = .returned (.tuple #[.slice none 0 0, .int .i64 (checkI c len xs).2]) ∧ Below W.heap.size W w' := by
  have C := Lib.hid (fun W h => check_any c a len cap xs W h)
  have HX := Lib.hid hx; clear hx
  generalize (checkI c len xs).2 = r at *
  generalize (checkI c len xs).1 = i at *
  have e0 : (r != 0) = true := by simpa using h0
  clear h0
  go_enter Try.func19, Try.ntmps19
  go_wp2_with fail
  refine (C.out _ (HX.out.below (below_new (Below.refl _ _) _))).mono ?_
  rintro e w2 ⟨rfl, b2⟩
  go_wp2_with fail
  go_ret2
  exact ⟨rfl, below_boxed b2⟩

set_option maxRecDepth 100000 in
set_option maxHeartbeats 4000000 in
theorem encode_yes (c : Int) (a : Option Addr) (len cap : Nat) (xs : Nat → In) (W : World) (hx : Insts W a len cap xs) (h0 : (checkI c len xs).2 = 0) (hc0 : 0 ≤ c) (hc1 : c ≤ 256) :
    Calls Try.prog 19 #[.agg #[.int .i64 c, .slice a len cap]] W (Encoded c len xs W) := by
  have C := Lib.hid (fun W h => check_any c a len cap xs W h)
  rw [h0] at C
  have hfit := hx.fit
  have hle := hx.le
  have HX := Lib.hid hx; clear hx
  generalize (checkI c len xs).1 = i0 at *
  have PU := Lib.hid (fun W => put_2 c hc0 (by omega) W)
  go_enter Try.func19, Try.ntmps19
  go_wp2_with fail
  refine (C.out _ (HX.out.below (below_new (Below.refl _ _) _))).mono ?_
  rintro e w2 ⟨rfl, b2⟩
  have hP0 : w2.cell? ⟨W.heap.size, 0, none⟩ = some (.int .i64 c) := (b2.cell (by simp)).trans (by simp)
  have hP1 : w2.cell? ⟨W.heap.size, 1, none⟩ = some (.slice a len cap) := (b2.cell (by simp)).trans (by simp)
  have B2 := Lib.hid (below_boxed b2); clear b2
  go_wp2_with fail
  refine (PU.out _).mono ?_
  rintro e w3 ⟨rfl, b3, r3⟩
  have hP3 := (b3.cell (p := ⟨W.heap.size, 1, none⟩) (lt_of_cell hP1)).trans hP1
  have O3 := Lib.hid (row_own r3 B2.out.size (by decide))
  have B3 := Lib.hid (below_call B2.out b3)
  clear b3 r3 hP0 hP1
  have hge : 0 ≤ c := hc0
  go_wp2_with fail
  clear hP3
  obtain ⟨ti, hi1, hi2, hi3, hi4⟩ := info_u8a
  have TI := Lib.hid (And.intro hi1 (And.intro hi2 (And.intro hi3 hi4)))
  clear hi1 hi2 hi3 hi4
  have l64 : 1 ≤ len ∧ len ≤ 64 ∧ ∀ k, k < len → mayI (xs k) = true := by
    obtain ⟨g1, g2, g3⟩ := ends_facts h0
    exact ⟨g1, g2, fun k hk => (g3 k hk).1⟩
  have L := Lib.hid l64; clear l64 h0
  go_loopw [6, 24] (fun v i wr => ∃ k : Nat, k ≤ len ∧ i = .int .i64 k ∧ Hid (Below W.heap.size W wr ∧ wr.ownsRow W.heap.size 5 1 v (2 + 8 * k) (u8s (encN c xs k)))) (fun _ i _ => len - (intOf i).toNat)
  case atStart => exact ⟨0, by omega, rfl, Lib.hid ⟨B3.out, O3.out⟩⟩
  case round =>
    clear B2 O3 B3
    obtain ⟨k, hk, rfl, hR⟩ := hrel
    by_cases hlt : k < len
    · obtain ⟨B, q, rfl, hcells⟩ := HX.out.here (by omega)
      have HA := Lib.hid (rangeAt_below hR.out.1 (hcells k hlt))
      have hm := L.out.2.2 k hlt
      have l6 := L.out.2.1
      have PK := Lib.hid (fun W => packed_any (xs k) W hm)
      have pb := packI_bd hm
      have PT := Lib.hid (fun W => put_8 (packI (xs k)) pb.1 pb.2 W)
      have i9 : (Try.prog.info? 26).map (·.size) = some (xs k).cells.toList.length := info_ins
      have HI := Lib.hid i9
      have OC := Lib.hid (one_cells (xs k))
      have HN := Lib.hid (show u8s (encN c xs (k + 1)) = u8s (encN c xs k) ++ u8s ((List.range 8).map (byteI (packI (xs k)))) from u8s_append _ _)
      have HL8 := Lib.hid (show (u8s ((List.range 8).map (byteI (packI (xs k))))).length = 8 * 1 by simp [u8s])
      have H1 := Lib.hid (u8s_one ((List.range 8).map (byteI (packI (xs k)))))
      clear i9 hcells hm pb
      generalize packI (xs k) = pv at *
      go_wp2_with (first | (refine wpList_load_mid rfl 26 _ rfl B (q + k * 9) rfl (xs k).cells.toList _ HA.out Try.underlying26 rfl HI.out ?_) | (refine (halt_store 26 _ _ rfl ?_)))
      refine ⟨?_, trivial⟩
      refine wpList_store_is rfl 26 _ _ rfl wr.heap.size (xs k).cells rfl rfl 26 _ (heap_last wr _ _ rfl) HI.out rfl OC.out ?_
      intro w5 s5
      have W5 := Lib.hid (s5.below (below_new hR.out.1 _) hR.out.1.size)
      have R5 := Lib.hid s5.row
      have V5 := Lib.hid (owns_past hR.out.2 (fun j hj => (s5.other j (by omega)).trans (heap_past wr _ j hj)))
      clear s5 hR
      generalize wr.heap.size = X at *
      generalize (xs k).cells = cc at *
      go_wp2_with (refine (halt_load 26 _ rfl ?_))
      refine ⟨?_, trivial⟩
      refine wpList_load_row rfl 26 _ rfl X rfl _ cc _ _ R5.out Try.underlying26 rfl HI.out ?_
      go_wp2_with fail
      refine (PK.out _).mono ?_
      rintro e w6 ⟨rfl, b6⟩
      have W6 := Lib.hid (below_call W5.out b6)
      have V6 := Lib.hid (owns_below V5.out b6)
      clear b6 W5 V5 R5 PK
      go_wp2_with fail
      refine (PT.out _).mono ?_
      rintro e w7 ⟨rfl, b7, r7⟩
      have W7 := Lib.hid (below_call W6.out b7)
      have V7 := Lib.hid (owns_below V6.out b7)
      have R7 := Lib.hid r7
      clear b7 r7 V6 PT
      have RC := Lib.hid (show ∀ j u, (u8s ((List.range 8).map (byteI pv)))[j]? = some u → w7.cell? ((⟨w6.heap.size, 0, none⟩ : Addr).add j) = some u from row_cells R7.out)
      clear R7
      generalize u8s ((List.range 8).map (byteI pv)) = nl at *
      go_wp2_with (at_builtin; refine wpList_append_own w7 rfl _ _ 22 rfl W.heap.size 5 ti (.int .u8 0) 1 1 Try.underlying22 TI.out.1 TI.out.2.1 TI.out.2.2.1 TI.out.2.2.2 rfl (by decide) _ (2 + 8 * k) _ rfl V7.out ⟨w6.heap.size, 0, none⟩ 8 8 nl rfl HL8.out RC.out H1.out (by unfold maxLen; omega) (by omega) W7.out.size ?_)
      intro v8 w8 o8 g8 n8
      have W8 := Lib.hid (below_grown W7.out g8 (fun j hj => (World.ownsRow.lt V7.out j hj).1))
      have O8 := Lib.hid (show w8.ownsRow W.heap.size 5 1 v8 (2 + 8 * (k + 1)) (u8s (encN c xs (k + 1))) by rw [HN.out, show 2 + 8 * (k + 1) = 2 + 8 * k + 8 by omega]; exact o8)
      clear o8 g8 n8
      go_wp2_with fail
      go_roundw
      case rel => exact ⟨k + 1, by omega, by go_num, Lib.hid ⟨W8.out, O8.out⟩⟩
      case measure => simp [intOf]; omega
    · obtain rfl : k = len := by omega
      go_wp2_with fail
      go_ret2
      exact ⟨_, rfl, hR.out.2, hR.out.1⟩
end Go.Proofs.Ytbpefomjmjkciaa.Ins
