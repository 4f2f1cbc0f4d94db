import Derived.Test.YtjhedldplmhmjaaGreatDoorRows
import Derived.Test.YtjhedldplmhmjaaGreatDoorETe01
import Derived.WalkKit
import Derived.WalkSpells
import Derived.WalkLawsBesides
import Derived.Lib.Hide
import Derived.Handy
set_option linter.unusedVariables false
set_option linter.unusedSimpArgs false
set_option linter.unnecessarySimpa false
namespace Go.Proofs.YtjhedldplmhmjaaGreatDoor.Ins
open Go.RowKit
def argsI (n:Int):Int:=if n<0∨16≤n then 0 else n % 6
theorem args_any (n:Int)(W:World):Calls Tryz.prog 35 #[.int .i64 n] W fun e w'=>e=.returned (.int .i64 (argsI n))∧W=w':=by
 have hc:n<0∨(0≤n∧16≤n)∨(0≤n∧n<16):=by omega
 rcases hc with h | ⟨h,h'⟩ | ⟨h,h'⟩
 ·rw [show argsI n=0 from if_pos (by omega)]
  go_enter Tryz.func35,Tryz.ntmps35
  go_wp2
  go_ret
  exact ⟨rfl,rfl⟩
 ·rw [show argsI n=0 from if_pos (by omega)]
  go_enter Tryz.func35,Tryz.ntmps35
  go_wp2
  go_ret
  exact ⟨rfl,rfl⟩
 ·rw [show argsI n=n % 6 from if_neg (by omega)]
  go_enter Tryz.func35,Tryz.ntmps35
  go_wp2
  go_ret
  exact ⟨rfl,rfl⟩
theorem r_args (n:Int)(W:World):Calls Tryz.prog 36 #[.int .i64 n] W fun e w'=>e=.returned (.int .i64 (argsI n))∧W=w':=by
 have hc:n<0∨(0≤n∧16≤n)∨(0≤n∧n<16):=by omega
 rcases hc with h | ⟨h,h'⟩ | ⟨h,h'⟩
 ·rw [show argsI n=0 from if_pos (by omega)]
  go_enter Tryz.func36,Tryz.ntmps36
  go_wp2
  go_ret
  exact ⟨rfl,rfl⟩
 ·rw [show argsI n=0 from if_pos (by omega)]
  go_enter Tryz.func36,Tryz.ntmps36
  go_wp2
  go_ret
  exact ⟨rfl,rfl⟩
 ·rw [show argsI n=n % 6 from if_neg (by omega)]
  go_enter Tryz.func36,Tryz.ntmps36
  go_wp2
  go_ret
  exact ⟨rfl,rfl⟩
end Go.Proofs.YtjhedldplmhmjaaGreatDoor.Ins
