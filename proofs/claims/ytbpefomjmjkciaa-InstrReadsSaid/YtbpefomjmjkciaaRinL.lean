/-
  latheref03.Read, whole.
-/
import Derived.Test.YtbpefomjmjkciaaRinKa
import Derived.Test.YtbpefomjmjkciaaRinKb
import Derived.Test.YtbpefomjmjkciaaRinKc
import Derived.Test.YtbpefomjmjkciaaRinKd
namespace Go.Proofs.Ytbpefomjmjkciaa.Ins
open Go.RowKit
set_option linter.unusedVariables false
set_option maxRecDepth 100000

theorem getI8 (f : Nat → Int) : getI f 8 = f 0 + f 1 * 256 + f 2 * 65536 + f 3 * 16777216 + f 4 * 4294967296 + f 5 * 1099511627776 + f 6 * 281474976710656 + f 7 * 72057594037927936 := by simp [getI]
theorem getI2 (f : Nat → Int) : getI f 2 = f 0 + f 1 * 256 := by simp [getI]
theorem getI4 (f : Nat → Int) : getI f 4 = f 0 + f 1 * 256 + f 2 * 65536 + f 3 * 16777216 := by simp [getI]
theorem parts8 {f : Nat → Int} (h : ∀ i, i < 8 → 0 ≤ f i ∧ f i < 256) : getI f 8 % 256 = f 0 ∧ getI f 8 / 256 % 16 = f 1 % 16 ∧ getI f 8 / 4096 % 16 = f 1 / 16 ∧ getI f 8 / 65536 % 65536 = getI (fun i => f (2 + i)) 2 ∧ getI f 8 / 4294967296 % 4294967296 = getI (fun i => f (4 + i)) 4 := by
  rw [getI8, getI2, getI4]
  have h0 := h 0 (by omega)
  have h1 := h 1 (by omega)
  have h2 := h 2 (by omega)
  have h3 := h 3 (by omega)
  have h4 := h 4 (by omega)
  have h5 := h 5 (by omega)
  have h6 := h 6 (by omega)
  have h7 := h 7 (by omega)
  simp only [Nat.add_zero, Nat.reduceAdd]
  generalize f 0 = x0 at *
  generalize f 1 = x1 at *
  generalize f 2 = x2 at *
  generalize f 3 = x3 at *
  generalize f 4 = x4 at *
  generalize f 5 = x5 at *
  generalize f 6 = x6 at *
  generalize f 7 = x7 at *
  refine ⟨?_, ?_, ?_, ?_, ?_⟩ <;> omega
theorem readI_eq (v : Int) : (readI v).1 = (if mayI (unpackI v) = true then unpackI v else In.nil) ∧ (readI v).2 = (if mayI (unpackI v) = true then 0 else 31) := by
  unfold readI
  split <;> exact ⟨rfl, rfl⟩
theorem rdr_of {x : In} {v : Int} {W w' : World} {e : Ending} (hx : x = unpackI v) (h : RdR x W e w') : ReadsAs (readI v).1 (readI v).2 W e w' := by
  subst hx
  rw [(readI_eq v).1, (readI_eq v).2]
  exact h
theorem not_may {x : In} (h : x.kind = -1 ∨ (x.kind = 3 ∧ 10 < x.op)) : mayI x = false := by
  cases hm : mayI x
  · rfl
  · have := (mayI_cases hm).2.2.2.2
    omega
theorem readI_no {v : Int} (h : mayI (unpackI v) = false) : readI v = (In.nil, 31) := by
  unfold readI
  rw [if_neg (by rw [h]; simp)]

set_option maxHeartbeats 2000000 in
theorem r_read_8 (b off cap : Nat) (f : Nat → Int) (W : World) (hc : 8 ≤ cap) (hm : cap ≤ 9223372036854775807) (hf : ∀ i, i < 8 → 0 ≤ f i ∧ f i < 256) (hcell : ∀ i, i < 8 → W.cell? ⟨b, off + i, none⟩ = some (.int .u8 (f i))) :
    Calls Try.prog 13 #[.slice (some ⟨b, off, none⟩) 8 cap] W (ReadsAs (readI (getI f 8)).1 (readI (getI f 8)).2 W) := by
  have hb : b < W.heap.size := by
    have := hcell 0 (by omega)
    rcases Nat.lt_or_ge b W.heap.size with h' | h'
    · exact h'
    · have e : W.heap[b]? = none := Array.getElem?_eq_none h'
      simp [World.cell?, e] at this
  have c0 : W.cell? ⟨b, off, none⟩ = some (.int .u8 (f 0)) := hcell 0 (by omega)
  have c1 := hcell 1 (by omega)
  obtain ⟨p0, p1, p2, p3, p4⟩ := parts8 hf
  have hn := hf 0 (by omega)
  have l1 := getI_bd (fun i => f (2 + i)) 2 (fun i hi => hf _ (by omega))
  have l2 := getI_bd (fun i => f (4 + i)) 4 (fun i hi => hf _ (by omega))
  have R : Rest b off cap (f 1) (getI (fun i => f (2 + i)) 2) (getI (fun i => f (4 + i)) 4) W := ⟨c1, (hf 1 (by omega)).1, (hf 1 (by omega)).2, l1.1, by have := l1.2; simpa using this, l2.1, by have := l2.2; simpa using this,
    fun w bb => r_get b (off + 2) 2 (cap - 2) (fun i => f (2 + i)) w (by omega) (by omega) (by omega) (fun i hi => hf _ (by omega)) (fun i hi => by
      have := (bb.cell (p := ⟨b, off + (2 + i), none⟩) hb).trans (hcell (2 + i) (by omega))
      rw [← Nat.add_assoc] at this; exact this),
    fun w bb => r_get b (off + 4) 4 (cap - 4) (fun i => f (4 + i)) w (by omega) (by omega) (by omega) (fun i hi => hf _ (by omega)) (fun i hi => by
      have := (bb.cell (p := ⟨b, off + (4 + i), none⟩) hb).trans (hcell (4 + i) (by omega))
      rw [← Nat.add_assoc] at this; exact this)⟩
  clear l1 l2 c1 hcell hf
  have U : unpackI (getI f 8) = In.mk (plainK (f 0)) (plainO (f 0)) (plainW (f 0)) (plainS (f 0)) (plainB (f 0)) (f 1 % 16) (f 1 / 16) (sgn16 (getI (fun i => f (2 + i)) 2)) (sgn32 (getI (fun i => f (4 + i)) 4)) := by
    unfold unpackI; rw [p0, p1, p2, p3, p4]
  clear p0 p1 p2 p3 p4
  generalize getI f 8 = v at *
  generalize getI (fun i => f (2 + i)) 2 = lo at *
  generalize getI (fun i => f (4 + i)) 4 = hi at *
  generalize f 1 = y at *
  generalize f 0 = n at *
  by_cases a1 : n < 32
  · have a0 := hn.1
    refine (rr_0 b off cap y lo hi W n hn.1 a1 hc hm c0 R).mono fun e w' h => rdr_of ?_ h
    rw [U]
    congr 1
    · unfold plainK; (repeat' split) <;> omega
    · unfold plainO; (repeat' split) <;> omega
    · unfold plainW; (repeat' split) <;> omega
    · unfold plainS; (repeat' split) <;> omega
  by_cases a2 : n < 64
  · refine (rr_32 b off cap y lo hi W n (by omega) a2 hc hm c0 R).mono fun e w' h => rdr_of ?_ h
    rw [U]
    congr 1
    · unfold plainK; (repeat' split) <;> omega
    · unfold plainO; (repeat' split) <;> omega
    · unfold plainW; (repeat' split) <;> omega
    · unfold plainS; (repeat' split) <;> omega
  by_cases a3 : n < 68
  · rcases (by omega : n = 64 ∨ n = 65 ∨ n = 66 ∨ n = 67) with rfl | rfl | rfl | rfl
    · exact (rr_64 b off cap y lo hi W hc hm c0 R).mono fun e w' h => rdr_of U.symm h
    · exact (rr_65 b off cap y lo hi W hc hm c0 R).mono fun e w' h => rdr_of U.symm h
    · exact (rr_66 b off cap y lo hi W hc hm c0 R).mono fun e w' h => rdr_of U.symm h
    · exact (rr_67 b off cap y lo hi W hc hm c0 R).mono fun e w' h => rdr_of U.symm h
  by_cases a4 : n < 72
  · have hno : mayI (unpackI v) = false := not_may (by rw [U]; exact .inl (by show plainK n = -1; unfold plainK; (repeat' split) <;> omega))
    rw [readI_no hno]
    exact rd_68 b off cap n W (by omega) (by omega) hc hm c0
  by_cases a5 : n < 76
  · rcases (by omega : n = 72 ∨ n = 73 ∨ n = 74 ∨ n = 75) with rfl | rfl | rfl | rfl
    · exact (rr_72 b off cap y lo hi W hc hm c0 R).mono fun e w' h => rdr_of U.symm h
    · exact (rr_73 b off cap y lo hi W hc hm c0 R).mono fun e w' h => rdr_of U.symm h
    · exact (rr_74 b off cap y lo hi W hc hm c0 R).mono fun e w' h => rdr_of U.symm h
    · exact (rr_75 b off cap y lo hi W hc hm c0 R).mono fun e w' h => rdr_of U.symm h
  by_cases a6 : n < 80
  · have hno : mayI (unpackI v) = false := not_may (by rw [U]; exact .inl (by show plainK n = -1; unfold plainK; (repeat' split) <;> omega))
    rw [readI_no hno]
    exact rd_76 b off cap n W (by omega) (by omega) hc hm c0
  by_cases a7 : n < 91
  · refine (rr_80 b off cap y lo hi W n (by omega) a7 hc hm c0 R).mono fun e w' h => rdr_of ?_ h
    rw [U]
    congr 1
    · unfold plainK; (repeat' split) <;> omega
    · unfold plainO; (repeat' split) <;> omega
    · unfold plainW; (repeat' split) <;> omega
    · unfold plainS; (repeat' split) <;> omega
    · exact (decide_eq_false (by omega) : plainB n = false).symm
  by_cases a8 : n < 96
  · have hno : mayI (unpackI v) = false := not_may (by rw [U]; exact .inr ⟨by show plainK n = 3; unfold plainK; (repeat' split) <;> omega, by show 10 < plainO n; unfold plainO; (repeat' split) <;> omega⟩)
    rw [readI_no hno]
    exact rd_91 b off cap n W (by omega) (by omega) hc hm c0
  by_cases a9 : n < 107
  · refine (rr_96 b off cap y lo hi W n (by omega) a9 hc hm c0 R).mono fun e w' h => rdr_of ?_ h
    rw [U]
    congr 1
    · unfold plainK; (repeat' split) <;> omega
    · unfold plainO; (repeat' split) <;> omega
    · unfold plainW; (repeat' split) <;> omega
    · unfold plainS; (repeat' split) <;> omega
    · exact (decide_eq_true (by omega) : plainB n = true).symm
  by_cases a10 : n < 111
  · have hno : mayI (unpackI v) = false := not_may (by rw [U]; exact .inr ⟨by show plainK n = 3; unfold plainK; (repeat' split) <;> omega, by show 10 < plainO n; unfold plainO; (repeat' split) <;> omega⟩)
    rw [readI_no hno]
    exact rd_107 b off cap n W (by omega) (by omega) hc hm c0
  by_cases a11 : n < 114
  · rcases (by omega : n = 111 ∨ n = 112 ∨ n = 113) with rfl | rfl | rfl
    · exact (rr_111 b off cap y lo hi W hc hm c0 R).mono fun e w' h => rdr_of U.symm h
    · exact (rr_112 b off cap y lo hi W hc hm c0 R).mono fun e w' h => rdr_of U.symm h
    · exact (rr_113 b off cap y lo hi W hc hm c0 R).mono fun e w' h => rdr_of U.symm h
  · have hno : mayI (unpackI v) = false := not_may (by rw [U]; exact .inl (by show plainK n = -1; unfold plainK; (repeat' split) <;> omega))
    rw [readI_no hno]
    exact rd_114 b off cap n W (by omega) (by omega) hc hm c0

set_option maxHeartbeats 2000000 in
theorem r_read_no (a : Option Addr) (len cap : Nat) (W : World) (h : len ≠ 8) (hc : len ≤ cap) (hm : cap ≤ 9223372036854775807) :
    Calls Try.prog 13 #[.slice a len cap] W (ReadsAs In.nil 30 W) := by
  have e0 : ((len : Int) != 8) = true := by simp; omega
  unfold ReadsAs
  go_enter Try.func13, Try.ntmps13
  go_wp2
  refine bodyPost_ret (v := .tuple #[.agg In.nil.cells, .int .i64 30]) (by simp [results, Try.results13, go_sem, In.cells, In.nil]) rfl ⟨rfl, ?_⟩
  repeat (refine Below.setCell ?_ (by simp only; omega) _)
  exact below_new (Below.refl _ _) _
end Go.Proofs.Ytbpefomjmjkciaa.Ins
