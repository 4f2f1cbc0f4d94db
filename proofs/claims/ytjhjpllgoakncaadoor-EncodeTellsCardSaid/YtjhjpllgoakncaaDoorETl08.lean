import Derived.Test.YtjhjpllgoakncaaDoorETl07
set_option linter.unusedVariables false
set_option linter.unusedSimpArgs false
set_option linter.unnecessarySimpa false
namespace Go.Proofs.YtjhjpllgoakncaaDoor.Mrm
open Go Go.RowKit
set_option linter.unusedVariables false
set_option linter.unnecessarySimpa false
set_option linter.unusedSimpArgs false
set_option maxRecDepth 100000
theorem put4_at (v:Int) (W:World):Calls Tryd.prog 28 #[.int .u64 (IntKind.u64.wrap v),.int .i64 4] W fun e w'=>∃ a c,e=.returned (.slice a 4 c) ∧ BytesAt w' a 4 c (numL v 4) ∧ Below W.heap.size W w':=by
  refine (put4_n v W).mono ?_
  rintro e w' ⟨u,rfl,o,b⟩
  obtain ⟨a,c,rfl,h⟩:=o.at (numL_ok v 4)
  exact ⟨a,c,rfl,h,b⟩
set_option maxHeartbeats 2000000 in
theorem ememory_n (r m d:Int) (hr:0 ≤ r ∧ r < 16) (hm:0 ≤ m ∧ m < 16) (W:World):Calls Tryd.prog 29 #[.int .i8 r,.int .i8 m,.int .i64 d] W (RetV (memL r m d) W):=by
  have e1:=and7c hr
  have e2:=and7c hm
  have PT:=Lib.hid (fun W=>put4_at d W)
  have HL:=Lib.hid (numL_length d 4)
  unfold RetV memL midL opI
  generalize numL d 4=nl at *
  generalize hA:r % 8=a at *
  generalize hB:m % 8=b at *
  have a0:0 ≤ a ∧ a < 8:=by omega
  have b0:0 ≤ b ∧ b < 8:=by omega
  obtain ⟨a1,a2⟩:=a0
  obtain ⟨b1,b2⟩:=b0
  clear hA hB hr hm
  by_cases c4:b=4
  · rw [if_pos c4,show (128 + a * 8 + b:Int)=128 + 8 * a + 4 by omega]
    subst c4
    have O2:=Lib.hid (one_own (base:=W.heap.size) W (128 + 8 * a + 4) (Nat.le_refl _))
    have E36:=Lib.hid (show BytesAt ((W.alloc (.cells #[.int .u8 (128 + 8 * a + 4)] 5)).alloc (.cells #[.int .u8 36] 5)) (some ⟨W.heap.size + 1,0,none⟩) 1 1 [36] by
      have h:=one_at (W.alloc (.cells #[.int .u8 (128 + 8 * a + 4)] 5)) 36 (by decide)
      rw [show (W.alloc (.cells #[.int .u8 (128 + 8 * a + 4)] 5)).heap.size=W.heap.size + 1 by simp] at h
      exact h)
    go_enter Tryd.func29,Tryd.ntmps29
    go_wp2_with (at_builtin;refine wpList_append_b rfl _ _ rfl W.heap.size _ [128 + 8 * a + 4] rfl (O2.out.below (below_new (Below.refl _ _) _)) _ 1 1 [36] rfl E36.out (by simp) (by simp;omega) ?_)
    intro v3 w3 o3 g3
    have BA:=Lib.hid (below_new (below_new (Below.refl W.heap.size W) (.cells #[.int .u8 (128 + 8 * a + 4)] 5)) (.cells #[.int .u8 36] 5))
    have B3:=Lib.hid (below_grown BA.out g3 (fun j hj=>by simp [Value.ownBlock] at hj;omega))
    have O3:=Lib.hid o3
    clear o3 g3 BA E36 O2
    go_wp2_with fail
    refine (PT.out _).mono ?_
    rintro e w4 ⟨xa,xc,rfl,e4,b4⟩
    have B4:=Lib.hid (below_call B3.out b4)
    have O4:=Lib.hid (O3.out.below b4)
    have E4:=Lib.hid e4
    clear e4 b4 O3
    go_wp2_with (at_builtin;refine wpList_append_b rfl _ _ rfl W.heap.size _ _ rfl O4.out _ _ _ nl rfl E4.out (by simp) B4.out.size ?_)
    intro v5 w5 o5 g5
    have B5:=Lib.hid (below_grown B4.out g5 (fun j hj=>O4.out.lt j hj))
    have O5:=Lib.hid o5
    clear o5 g5
    go_wp2_with fail
    go_ret
    exact ⟨_,rfl,O5.out,B5.out⟩
  · rw [if_neg c4,show (128 + a * 8 + b:Int)=128 + 8 * a + b by omega]
    have c5:(b == 4)=false:=by simpa using c4
    have O2:=Lib.hid (one_own (base:=W.heap.size) W (128 + 8 * a + b) (Nat.le_refl _))
    have B2:=Lib.hid (below_new (Below.refl W.heap.size W) (.cells #[.int .u8 (128 + 8 * a + b)] 5))
    clear c4
    go_enter Tryd.func29,Tryd.ntmps29
    go_wp2_with fail
    refine (PT.out _).mono ?_
    rintro e w4 ⟨xa,xc,rfl,e4,b4⟩
    have B4:=Lib.hid (below_call B2.out b4)
    have O4:=Lib.hid (O2.out.below b4)
    have E4:=Lib.hid e4
    clear e4 b4 O2
    go_wp2_with (at_builtin;refine wpList_append_b rfl _ _ rfl W.heap.size _ _ rfl O4.out _ _ _ nl rfl E4.out (by simp) B4.out.size ?_)
    intro v5 w5 o5 g5
    have B5:=Lib.hid (below_grown B4.out g5 (fun j hj=>O4.out.lt j hj))
    have O5:=Lib.hid o5
    clear o5 g5
    go_wp2_with fail
    go_ret
    exact ⟨_,rfl,O5.out,B5.out⟩
theorem ebit_n (n:Int) (h:0 ≤ n ∧ n < 16) (W:World):Calls Tryd.prog 43 #[.int .i8 n] W fun e w'=>e=.returned (.int .i64 (2 ^ n.toNat)) ∧ W=w':=by
  obtain rfl | rfl | rfl | rfl | rfl | rfl | rfl | rfl | rfl | rfl | rfl | rfl | rfl | rfl | rfl | rfl:n=0 ∨ n=1 ∨ n=2 ∨ n=3 ∨ n=4 ∨ n=5 ∨ n=6 ∨ n=7 ∨ n=8 ∨ n=9 ∨ n=10 ∨ n=11 ∨ n=12 ∨ n=13 ∨ n=14 ∨ n=15:=by omega
  all_goals (
    clear h
    go_enter Tryd.func43,Tryd.ntmps43
    go_wp2
    go_ret
    exact ⟨rfl,rfl⟩)
end Go.Proofs.YtjhjpllgoakncaaDoor.Mrm
