import Derived.Test.YtcnneeimkcnjfaaSbB
import Derived.Test.YtcnneeimkcnjfaaBndN
import Derived.Test.YtcnneeimkcnjfaaSx
import Derived.Test.YtcnneeimkcnjfaaSxA
import Derived.Test.YtcnneeimkcnjfaaChecked
import Derived.Shelf.Strconv.Itoa0
import Derived.Lib.ItoaNum
namespace Go.Proofs.Ytcnneeimkcnjfaa.Bnd
open Go.RowKit Go.Shelf
set_option linter.unusedVariables false
def lenRen:Ren:=⟨fun | 129=>127 | n=>n,fun | 46=>55 | 53=>23 | 3=>3 | 4=>4 | 5=>5 | 9=>9 | n=>n,fun | n=>n⟩
theorem lenLay:Lays.n129 Try.prog lenRen:={
  mixed:=by kernel_rfl,
  f129:=Try.func127.trans (congrArg some (by kernel_rfl)),
  t3:=Try.underlying3,a3:=Try.isAgg3,z3:=Try.sizeOf3,v3:=Try.zeroValue3,
  t4:=Try.underlying4,a4:=Try.isAgg4,z4:=Try.sizeOf4,v4:=Try.zeroValue4,
  t5:=Try.underlying5,a5:=Try.isAgg5,z5:=Try.sizeOf5,v5:=Try.zeroValue5,
  t9:=Try.underlying9,a9:=Try.isAgg9,z9:=Try.sizeOf9,v9:=Try.zeroValue9,
  t46:=Try.underlying55,a46:=Try.isAgg55,z46:=Try.sizeOf55,v46:=Try.zeroValue55,
  t53:=Try.underlying23,a53:=Try.isAgg23,z53:=Try.sizeOf23,v53:=Try.zeroValue23 }
theorem bitLen_is {n:Nat} (h:n < 18446744073709551616):Lib.bitLen n=lenN n:=by
  by_cases h0:n=0
  · subst h0;rfl
  · obtain ⟨a,b,c⟩:=Lib.bitLenAux_bounds 64 n h h0
    exact (lenN_is h0 c b a).symm
theorem len64_any (x:Int) (W:World) (h0:0 ≤ x) (h1:x < 18446744073709551616):Calls Try.prog 127 #[.int .u64 x] W fun e w'=>e=.returned (.int .i64 (lenN x.toNat)) ∧ Below W.heap.size W w':=by
  refine (show Calls Try.prog 127 #[.int .u64 x] W _ from Any.bits_Len64 lenLay x W h0 (by omega)).mono ?_
  rintro e w' ⟨rfl,rfl⟩
  exact ⟨by rw [bitLen_is (by omega)],Below.refl _ _⟩
end Go.Proofs.Ytcnneeimkcnjfaa.Bnd
