import Derived.WalkKit
namespace Go.Proofs.Ytcnneeimkcnjfaa
def cutI (v w:Int):Int:=if w=8 then v % 256 else if w=16 then v % 65536 else if w=32 then v % 4294967296 else v
theorem cutI_bd (v w:Int) (h0:0 ≤ v) (h1:v < 18446744073709551616):0 ≤ cutI v w ∧ cutI v w < 18446744073709551616:=by
  unfold cutI;split
  · omega
  split
  · omega
  split
  · omega
  · omega
end Go.Proofs.Ytcnneeimkcnjfaa
