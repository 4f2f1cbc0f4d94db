import Derived.WalkKit
import Derived.Deep.MidRow
import Derived.Laws.CopyOwn
import Derived.Lib.Hide
import Derived.Deep.OwnRows
import Derived.Laws.Rows
namespace Go.Proofs.Ytcnneeimkcnjfaa
open Go Go.RowKit
set_option linter.unusedVariables false
variable {P:Program}
structure Stored (w:World) (g:Nat) (cells:Array Value) (t:TypeId) (w':World):Prop where
  os:w'.os=w.os
  tape:w'.tape=w.tape
  output:w'.output=w.output
  size:w'.heap.size=w.heap.size
  row:w'.heap[g]?=some (.cells cells t (0,0))
  other:∀ k,k ≠ g → w'.heap[k]?=w.heap[k]?
theorem stored_setRow (w:World) (g:Nat) (cs old:Array Value) (t:TypeId) (hg:w.heap[g]?=some (.cells old t (0,0))):Stored w g cs t (w.setRow g cs):=
  ⟨rfl,rfl,rfl,by simp [World.setRow],setRow_heap w g _ _ t _ hg,fun k hk=>setRow_other w g k cs hk⟩
theorem Stored.below {w w0 w':World} {g:Nat} {cells:Array Value} {t:TypeId} (h:Stored w g cells t w') {B:Nat} (hb:Below B w0 w) (hB:B ≤ g):Below B w0 w':=
  hb.trans ⟨h.os,h.tape,h.output,by rw [h.size];exact Nat.le_refl _,fun k hk=>h.other k (by omega)⟩
theorem Stored.cell {w w':World} {g:Nat} {cells:Array Value} {t:TypeId} (h:Stored w g cells t w') (i:Nat):w'.cell? ⟨g,i,none⟩=cells[i]?:=by
  simp [World.cell?,h.row]
theorem below_new {W w:World} (h:Below W.heap.size W w) (o:Obj):Below W.heap.size W (w.alloc o):=h.alloc h.size o
theorem below_call {W w w1:World} (h:Below W.heap.size W w) (b:Below w.heap.size w w1):Below W.heap.size W w1:=h.trans (b.mono h.size)
theorem heap_last (w:World) (o:Obj) (k:Nat) (h:k=w.heap.size):(w.alloc o).heap[k]?=some o:=by subst h;exact heap_alloc_new w o
theorem heap_past (w:World) (o:Obj) (k:Nat) (h:k < w.heap.size):(w.alloc o).heap[k]?=w.heap[k]?:=Deep.blk_alloc_lt w o k h
theorem setCell_row {w:World} {g:Nat} {cs:Array Value} {t:TypeId} {fr:Nat × Nat} (h:w.heap[g]?=some (.cells cs t fr)) (i:Nat) (v:Value):
    (w.setCell ⟨g,i,none⟩ v).heap[g]?=some (.cells (cs.setIfInBounds i v) t fr):=by
  simp [World.setCell,Array.getElem?_modify,h]
theorem setCell_past (w:World) (a:Addr) (v:Value) (k:Nat) (h:k ≠ a.block):(w.setCell a v).heap[k]?=w.heap[k]?:=Deep.blk_setCell_other w a v k h
theorem stored_setCell {w:World} {g:Nat} {cs:Array Value} {t:TypeId} (h:w.heap[g]?=some (.cells cs t (0,0))) (i:Nat) (v:Value):Stored w g (cs.setIfInBounds i v) t (w.setCell ⟨g,i,none⟩ v):=
  ⟨rfl,rfl,rfl,Deep.nblk_setCell _ _ _,setCell_row h i v,fun k hk=>setCell_past _ _ _ _ hk⟩
end Go.Proofs.Ytcnneeimkcnjfaa
