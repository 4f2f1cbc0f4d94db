/-
  Several texts in one: TrcDr.
-/
import Derived.Test.YthhgcbegcbhaeaaMBh38
import Derived.Lib.MinMax
set_option linter.unusedVariables false
set_option linter.unusedSimpArgs false
set_option linter.unnecessarySimpa false
namespace Go.Proofs.Ythhgcbegcbhaeaa.Trc
open Go.RowKit
set_option linter.unusedVariables false

/-- An outcome. -/
structure Out where
  kind : Int
  r0 : Int
  ctx : List Int
  tr : List Ev
  left : Int
def outV (x : Out) (ca : Option Addr) (cc : Nat) (ta : Option Addr) (tc : Nat) : Value := .agg #[.int .i8 x.kind, .int .u64 x.r0, .slice ca x.ctx.length cc, .slice ta x.tr.length tc, .int .i64 x.left]
/-- Its rows can be read. -/
structure OutAt (W : World) (x : Out) (ca : Option Addr) (cc : Nat) (ta : Option Addr) (tc : Nat) : Prop where
  ctx : BytesAt W ca x.ctx.length cc x.ctx
  tr : EvsAt W ta x.tr.length tc x.tr
theorem OutAt.below {W w : World} {x : Out} {ca ta : Option Addr} {cc tc : Nat} (h : OutAt W x ca cc ta tc) (b : Below W.heap.size W w) : OutAt w x ca cc ta tc := ⟨h.ctx.below b, h.tr.below b⟩

def endB (x y : Out) : Bool := x.r0 == y.r0 && decide (x.ctx = y.ctx)
def sameB (x y : Out) : Bool := x.kind == y.kind && x.left == y.left && decide (x.tr = y.tr) && endB x y
def likeB (x y : Out) : Bool := x.kind == y.kind && decide (x.tr = y.tr) && (x.kind != 1 || endB x y)
def becB (x y : Out) : Bool := x.kind == 0 && preB x.tr y.tr

theorem bb2 (W : World) (o1 o2 : Obj) : Below W.heap.size W ((W.alloc o1).alloc o2) := below_new (below_new (Below.refl _ W) _) _

/-- An outcome in a block of its own. -/
structure Box5 (w : World) (b : Nat) (x : Out) (ca : Option Addr) (cc : Nat) (ta : Option Addr) (tc : Nat) : Prop where
  c0 : w.cell? ⟨b, 0, none⟩ = some (.int .i8 x.kind)
  c1 : w.cell? ⟨b, 1, none⟩ = some (.int .u64 x.r0)
  c2 : w.cell? ⟨b, 2, none⟩ = some (.slice ca x.ctx.length cc)
  c3 : w.cell? ⟨b, 3, none⟩ = some (.slice ta x.tr.length tc)
  c4 : w.cell? ⟨b, 4, none⟩ = some (.int .i64 x.left)
theorem Box5.below {w w' : World} {b : Nat} {x : Out} {ca ta : Option Addr} {cc tc : Nat} (h : Box5 w b x ca cc ta tc) (k : Below w.heap.size w w') : Box5 w' b x ca cc ta tc :=
  ⟨(k.cell (lt_of_cell h.c0)).trans h.c0, (k.cell (lt_of_cell h.c0)).trans h.c1, (k.cell (lt_of_cell h.c0)).trans h.c2, (k.cell (lt_of_cell h.c0)).trans h.c3, (k.cell (lt_of_cell h.c0)).trans h.c4⟩
theorem Box5.new (w : World) (x : Out) (ca ta : Option Addr) (cc tc : Nat) (t : TypeId) (b : Nat) (hb : b = w.heap.size) :
    Box5 (w.alloc (.cells #[.int .i8 x.kind, .int .u64 x.r0, .slice ca x.ctx.length cc, .slice ta x.tr.length tc, .int .i64 x.left] t)) b x ca cc ta tc := by
  have h := heap_last w (.cells #[.int .i8 x.kind, .int .u64 x.r0, .slice ca x.ctx.length cc, .slice ta x.tr.length tc, .int .i64 x.left] t) b hb
  constructor <;> (simp only [World.cell?]; rw [h]; rfl)
theorem Box5.past {w : World} {b : Nat} {x : Out} {ca ta : Option Addr} {cc tc : Nat} (h : Box5 w b x ca cc ta tc) (o : Obj) : Box5 (w.alloc o) b x ca cc ta tc := h.below (below_new (Below.refl _ _) _)
theorem Box5.all {w : World} {b : Nat} {x : Out} {ca ta : Option Addr} {cc tc : Nat} (h : Box5 w b x ca cc ta tc) : w.cell? ⟨b, 0, none⟩ = some (.int .i8 x.kind) ∧ w.cell? ⟨b, 1, none⟩ = some (.int .u64 x.r0) ∧ w.cell? ⟨b, 2, none⟩ = some (.slice ca x.ctx.length cc) ∧ w.cell? ⟨b, 3, none⟩ = some (.slice ta x.tr.length tc) ∧ w.cell? ⟨b, 4, none⟩ = some (.int .i64 x.left) := ⟨h.c0, h.c1, h.c2, h.c3, h.c4⟩
end Go.Proofs.Ythhgcbegcbhaeaa.Trc
