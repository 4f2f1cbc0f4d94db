import Derived.Test.YtbpehbeakhocnaaGreatDoorIRm07
set_option maxHeartbeats 2000000
set_option linter.unusedVariables false
set_option linter.unusedSimpArgs false
set_option linter.unnecessarySimpa false
namespace Go.Proofs.YtbpehbeakhocnaaGreatDoor.Mrm
open Go Go.RowKit
set_option maxRecDepth 100000
theorem numL_u (v:Int):numL (v % 18446744073709551616) 4=numL v 4:=by
  show [byS _ 0,byS _ 1,byS _ 2,byS _ 3]=[byS v 0,byS v 1,byS v 2,byS v 3]
  unfold byS
  rw [show (2:Int) ^ (8 * 0)=1 from rfl,show (2:Int) ^ (8 * 1)=256 from rfl,show (2:Int) ^ (8 * 2)=65536 from rfl,show (2:Int) ^ (8 * 3)=16777216 from rfl]
  rw [show v % 18446744073709551616 / 1 % 256=v / 1 % 256 by omega,show v % 18446744073709551616 / 256 % 256=v / 256 % 256 by omega,show v % 18446744073709551616 / 65536 % 256=v / 65536 % 256 by omega,show v % 18446744073709551616 / 16777216 % 256=v / 16777216 % 256 by omega]
theorem put4_u (u:Int) (W:World):Calls Tryz.prog 118 #[.int .u64 u,.int .i64 4] W (RetV (numL u 4) W):=by
  unfold RetV
  go_enter Tryz.func118,Tryz.ntmps118
  go_wp2
  go_loopw [5,6] (fun x i wr=>∃ k:Nat,k ≤ 4 ∧ i=.int .i64 k ∧ Hid (Below W.heap.size W wr ∧ Bts W.heap.size wr x (numL u k))) (fun x i _=>4 - (intOf i).toNat)
  case atStart=>exact ⟨0,by omega,rfl,Lib.hid ⟨Below.refl _ _,Bts.nil _ _⟩⟩
  case round=>
    obtain ⟨k,hk,rfl,hR⟩:=hrel
    by_cases hlt:k < 4
    · have e1:min (8 * k) 64=8 * k:=by omega
      have HL:=Lib.hid (numL_length u k)
      have B0:=Lib.hid hR.out.1
      have O0:=Lib.hid hR.out.2
      clear hR
      go_wp2_with (at_builtin;refine wpList_append_b rfl _ _ rfl W.heap.size _ (numL u k) rfl (O0.out.below (below_new (Below.refl _ _) _)) _ 1 1 _ rfl (one_at _ _ (by omega)) (by rw [HL.out];omega) (Nat.le_trans B0.out.size (by simp)) ?_)
      intro v8 w8 o8 g8
      have O8:=Lib.hid (show Bts W.heap.size w8 v8 (numL u (k + 1)) by rw [numL_next];exact o8)
      have B8:=Lib.hid (below_grown (below_new B0.out _) g8 (fun j hj=>O0.out.lt j hj))
      clear o8 g8 O0
      go_wp2_with fail
      go_roundw
      case rel=>exact ⟨k + 1,by omega,by go_num,Lib.hid ⟨B8.out,O8.out⟩⟩
      case measure=>simp [intOf];omega
    · obtain rfl:k=4:=by omega
      go_wp2
      go_ret
      exact ⟨_,rfl,hR.out.2,hR.out.1⟩
theorem put4_n (v:Int) (W:World):Calls Tryz.prog 118 #[.int .u64 (IntKind.u64.wrap v),.int .i64 4] W (RetV (numL v 4) W):=by
  rw [IntKind.wrap_u64,← numL_u v]
  exact put4_u _ W
def rexN (wide:Bool) (r m:Int):Int:=(bif wide then 8 else 0) + (bif decide (7 < r) then 4 else 0) + (bif decide (7 < m) then 1 else 0)
def rexL (wide:Bool) (r m:Int) (al:Bool):List Int:=if rexN wide r m=0 ∧ al=false then [] else [64 + rexN wide r m]
theorem add_u8 {z:Int} (h:0 ≤ z ∧ z < 256):IntKind.u8.wrap z=z:=by simp [IntKind.wrap,IntKind.signed,IntKind.bits];omega
theorem erex_0000 (r m:Int) (W:World) (hr:r ≤ 7) (hm:m ≤ 7):Calls Tryz.prog 116 #[.bool false,.int .i8 r,.int .i8 m,.bool false] W (RetV [] W):=by
  unfold RetV
  go_enter Tryz.func116,Tryz.ntmps116
  go_wp2
  go_ret
  exact ⟨_,rfl,Bts.nil _ _,Below.refl _ _⟩
theorem erex_0001 (r m:Int) (W:World) (hr:r ≤ 7) (hm:m ≤ 7):Calls Tryz.prog 116 #[.bool false,.int .i8 r,.int .i8 m,.bool true] W (RetV [64] W):=by
  unfold RetV
  go_enter Tryz.func116,Tryz.ntmps116
  go_wp2
  go_ret
  exact ⟨_,rfl,one_own W _ (Nat.le_refl _),below_new (Below.refl _ _) _⟩
theorem erex_0012 (r m:Int) (al:Bool) (W:World) (hr:r ≤ 7) (hm:7 < m):Calls Tryz.prog 116 #[.bool false,.int .i8 r,.int .i8 m,.bool al] W (RetV [65] W):=by
  unfold RetV
  go_enter Tryz.func116,Tryz.ntmps116
  go_wp2
  go_ret
  exact ⟨_,rfl,one_own W _ (Nat.le_refl _),below_new (Below.refl _ _) _⟩
theorem erex_0102 (r m:Int) (al:Bool) (W:World) (hr:7 < r) (hm:m ≤ 7):Calls Tryz.prog 116 #[.bool false,.int .i8 r,.int .i8 m,.bool al] W (RetV [68] W):=by
  unfold RetV
  go_enter Tryz.func116,Tryz.ntmps116
  go_wp2
  go_ret
  exact ⟨_,rfl,one_own W _ (Nat.le_refl _),below_new (Below.refl _ _) _⟩
theorem erex_0112 (r m:Int) (al:Bool) (W:World) (hr:7 < r) (hm:7 < m):Calls Tryz.prog 116 #[.bool false,.int .i8 r,.int .i8 m,.bool al] W (RetV [69] W):=by
  unfold RetV
  go_enter Tryz.func116,Tryz.ntmps116
  go_wp2
  go_ret
  exact ⟨_,rfl,one_own W _ (Nat.le_refl _),below_new (Below.refl _ _) _⟩
theorem erex_1002 (r m:Int) (al:Bool) (W:World) (hr:r ≤ 7) (hm:m ≤ 7):Calls Tryz.prog 116 #[.bool true,.int .i8 r,.int .i8 m,.bool al] W (RetV [72] W):=by
  unfold RetV
  go_enter Tryz.func116,Tryz.ntmps116
  go_wp2
  go_ret
  exact ⟨_,rfl,one_own W _ (Nat.le_refl _),below_new (Below.refl _ _) _⟩
theorem erex_1012 (r m:Int) (al:Bool) (W:World) (hr:r ≤ 7) (hm:7 < m):Calls Tryz.prog 116 #[.bool true,.int .i8 r,.int .i8 m,.bool al] W (RetV [73] W):=by
  unfold RetV
  go_enter Tryz.func116,Tryz.ntmps116
  go_wp2
  go_ret
  exact ⟨_,rfl,one_own W _ (Nat.le_refl _),below_new (Below.refl _ _) _⟩
theorem erex_1102 (r m:Int) (al:Bool) (W:World) (hr:7 < r) (hm:m ≤ 7):Calls Tryz.prog 116 #[.bool true,.int .i8 r,.int .i8 m,.bool al] W (RetV [76] W):=by
  unfold RetV
  go_enter Tryz.func116,Tryz.ntmps116
  go_wp2
  go_ret
  exact ⟨_,rfl,one_own W _ (Nat.le_refl _),below_new (Below.refl _ _) _⟩
theorem erex_1112 (r m:Int) (al:Bool) (W:World) (hr:7 < r) (hm:7 < m):Calls Tryz.prog 116 #[.bool true,.int .i8 r,.int .i8 m,.bool al] W (RetV [77] W):=by
  unfold RetV
  go_enter Tryz.func116,Tryz.ntmps116
  go_wp2
  go_ret
  exact ⟨_,rfl,one_own W _ (Nat.le_refl _),below_new (Below.refl _ _) _⟩
theorem erex_n (wd:Bool) (r m:Int) (al:Bool) (W:World):Calls Tryz.prog 116 #[.bool wd,.int .i8 r,.int .i8 m,.bool al] W (RetV (rexL wd r m al) W):=by
  unfold rexL rexN
  by_cases hr:7 < r
  · rw [decide_eq_true hr]
    by_cases hm:7 < m
    · rw [decide_eq_true hm]
      cases wd
      · exact erex_0112 r m al W hr hm
      · exact erex_1112 r m al W hr hm
    · rw [decide_eq_false hm]
      cases wd
      · exact erex_0102 r m al W hr (by omega)
      · exact erex_1102 r m al W hr (by omega)
  · rw [decide_eq_false hr]
    by_cases hm:7 < m
    · rw [decide_eq_true hm]
      cases wd
      · exact erex_0012 r m al W (by omega) hm
      · exact erex_1012 r m al W (by omega) hm
    · rw [decide_eq_false hm]
      cases wd
      · cases al
        · exact erex_0000 r m W (by omega) (by omega)
        · exact erex_0001 r m W (by omega) (by omega)
      · exact erex_1002 r m al W (by omega) (by omega)
theorem and7c_fin:∀ r:Fin 16,bits .and .i8 (r.1:Int) 7=(r.1:Int) % 8:=by decide +kernel
theorem and7c {r:Int} (h:0 ≤ r ∧ r < 16):bits .and .i8 r 7=r % 8:=by
  have:=and7c_fin ⟨r.toNat,by omega⟩
  simp only [Int.toNat_of_nonneg h.1] at this
  exact this
theorem edirect_n (r m:Int) (hr:0 ≤ r ∧ r < 16) (hm:0 ≤ m ∧ m < 16) (W:World):Calls Tryz.prog 117 #[.int .i8 r,.int .i8 m] W fun e w'=>e=.returned (.int .u8 (opI 192 r m)) ∧ W=w':=by
  have e1:=and7c hr
  have e2:=and7c hm
  unfold opI
  generalize hA:r % 8=a at *
  generalize hB:m % 8=b at *
  have a0:0 ≤ a ∧ a < 8:=by omega
  have b0:0 ≤ b ∧ b < 8:=by omega
  obtain ⟨a1,a2⟩:=a0
  obtain ⟨b1,b2⟩:=b0
  clear hA hB hr hm
  go_enter Tryz.func117,Tryz.ntmps117
  go_wp2
  go_ret
  exact ⟨retV (show Value.int .u8 _=_ by congr 1;omega),rfl⟩
end Go.Proofs.YtbpehbeakhocnaaGreatDoor.Mrm
