import Derived.Test.YtjhjpllgoakncaaDoorETl01
set_option linter.unusedVariables false
set_option linter.unusedSimpArgs false
set_option linter.unnecessarySimpa false
namespace Go.Proofs.YtjhjpllgoakncaaDoor.Mrm
open Go.RowKit
set_option linter.unusedVariables false
set_option linter.unnecessarySimpa false
set_option linter.unusedSimpArgs false
set_option maxRecDepth 100000
theorem register_n (r:Int) (W:World):Calls Tryd.prog 86 #[.int .i8 r] W fun e w'=>e=.returned (.bool (regB r)) ∧ W=w':=by
  by_cases h0:0 ≤ r
  · go_enter Tryd.func86,Tryd.ntmps86
    go_wp2
    go_ret
    exact ⟨retV (by unfold regB;simp [h0]),rfl⟩
  · have e:regB r=false:=by unfold regB;simp [h0]
    rw [e]
    have h1:r < 0:=by omega
    clear h0 e
    go_enter Tryd.func86,Tryd.ntmps86
    go_wp2
    go_ret
    exact ⟨rfl,rfl⟩
theorem both_n (r m:Int) (W:World):Calls Tryd.prog 75 #[.int .i8 r,.int .i8 m] W fun e w'=>e=.returned (.bool (bothB r m)) ∧ W=w':=by
  have R:=Lib.hid (fun W=>register_n r W)
  have M:=Lib.hid (fun W=>register_n m W)
  unfold bothB
  generalize regB r=b at *
  generalize regB m=c at *
  cases b
  · go_enter Tryd.func75,Tryd.ntmps75
    go_wp2_with (first | (refine (R.out _).mono ?_;rintro e w1 ⟨rfl,rfl⟩))
    go_ret
    exact ⟨rfl,rfl⟩
  · go_enter Tryd.func75,Tryd.ntmps75
    go_wp2_with fail
    refine (R.out _).mono ?_
    rintro e w1 ⟨rfl,rfl⟩
    go_wp2_with fail
    refine (M.out _).mono ?_
    rintro e w1 ⟨rfl,rfl⟩
    go_wp2
    go_ret
    exact ⟨rfl,rfl⟩
theorem bit_n (b:Bool) (v:Int) (W:World):Calls Tryd.prog 85 #[.bool b,.int .u8 v] W fun e w'=>e=.returned (.int .u8 (bitI b v)) ∧ W=w':=by
  cases b
  · go_enter Tryd.func85,Tryd.ntmps85
    go_wp2
    go_ret
    exact ⟨rfl,rfl⟩
  · go_enter Tryd.func85,Tryd.ntmps85
    go_wp2
    go_ret
    exact ⟨rfl,rfl⟩
theorem rex_n (w:Bool) (r m:Int) (W:World):Calls Tryd.prog 74 #[.bool w,.int .i8 r,.int .i8 m] W fun e w'=>e=.returned (.tuple #[.int .u8 (bif bothB r m then rexI w r m else 0),.int .i64 (bif bothB r m then 0 else 2)]) ∧ W=w':=by
  have B:=Lib.hid (fun W=>both_n r m W)
  cases h:bothB r m
  · rw [h] at B
    go_enter Tryd.func74,Tryd.ntmps74
    go_wp2_with fail
    refine (B.out _).mono ?_
    rintro e w1 ⟨rfl,rfl⟩
    go_wp2
    go_ret2
    exact ⟨rfl,rfl⟩
  · rw [h] at B
    have T1:=Lib.hid (fun W=>bit_n w 8 W)
    have T2:=Lib.hid (fun W=>bit_n (decide (8 ≤ r)) 4 W)
    have T3:=Lib.hid (fun W=>bit_n (decide (8 ≤ m)) 1 W)
    have HE:=Lib.hid (rex_or w (decide (8 ≤ r)) (decide (8 ≤ m)))
    clear h
    unfold rexI
    generalize bitI w 8=x1 at *
    generalize bitI (decide (8 ≤ r)) 4=x2 at *
    generalize bitI (decide (8 ≤ m)) 1=x3 at *
    go_enter Tryd.func74,Tryd.ntmps74
    go_wp2_with fail
    refine (B.out _).mono ?_
    rintro e w1 ⟨rfl,rfl⟩
    go_wp2_with fail
    refine (T1.out _).mono ?_
    rintro e w1 ⟨rfl,rfl⟩
    go_wp2_with fail
    refine (T2.out _).mono ?_
    rintro e w1 ⟨rfl,rfl⟩
    go_wp2_with fail
    refine (T3.out _).mono ?_
    rintro e w1 ⟨rfl,rfl⟩
    go_wp2
    go_ret2
    exact ⟨by rw [HE.out];rfl,rfl⟩
theorem needs_n (r m:Int) (W:World):Calls Tryd.prog 73 #[.int .i8 r,.int .i8 m] W fun e w'=>e=.returned (.bool (needB r m)) ∧ W=w':=by
  have B:=Lib.hid (fun W=>both_n r m W)
  unfold needB
  cases h:bothB r m
  · rw [h] at B
    go_enter Tryd.func73,Tryd.ntmps73
    go_wp2_with fail
    refine (B.out _).mono ?_
    rintro e w1 ⟨rfl,rfl⟩
    go_wp2
    go_ret
    exact ⟨rfl,rfl⟩
  · rw [h] at B
    clear h
    by_cases h8:8 ≤ r
    · go_enter Tryd.func73,Tryd.ntmps73
      go_wp2_with fail
      refine (B.out _).mono ?_
      rintro e w1 ⟨rfl,rfl⟩
      go_wp2
      go_ret
      exact ⟨retV (by simp [h8]),rfl⟩
    · have h7:r < 8:=by omega
      go_enter Tryd.func73,Tryd.ntmps73
      go_wp2_with fail
      refine (B.out _).mono ?_
      rintro e w1 ⟨rfl,rfl⟩
      go_wp2
      go_ret
      exact ⟨retV (by simp [h8]),rfl⟩
end Go.Proofs.YtjhjpllgoakncaaDoor.Mrm
