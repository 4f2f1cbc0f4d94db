import Derived.Test.YtjhedldplmhmjaaDoorERd36
import Derived.Test.YtjhedldplmhmjaaDoorERd26
import Derived.Test.YtjhedldplmhmjaaDoorERd01
import Derived.StillTailTactics
import Derived.Lib.MinMax
set_option linter.unusedVariables false
set_option linter.unusedSimpArgs false
set_option linter.unnecessarySimpa false
namespace Go.Proofs.YtjhedldplmhmjaaDoor.Mrm
open Go Go.RowKit
set_option linter.unusedVariables false
set_option linter.unusedSimpArgs false
set_option linter.unnecessarySimpa false
set_option maxRecDepth 100000
theorem inop_q0 (W:World):Calls Tryd.prog 51 #[.int .i8 0] W fun e w'=>e=.returned (.bool false) ∧ W=w':=by
  go_enter Tryd.func51,Tryd.ntmps51
  go_wp2_with fail
  go_ret
  exact ⟨rfl,rfl⟩
theorem imm_q0 (W:World):Calls Tryd.prog 53 #[.int .i8 0] W fun e w'=>e=.returned (.int .i64 0) ∧ W=w':=by
  go_enter Tryd.func53,Tryd.ntmps53
  go_wp2_with fail
  go_ret
  exact ⟨rfl,rfl⟩
theorem inop_q1 (W:World):Calls Tryd.prog 51 #[.int .i8 1] W fun e w'=>e=.returned (.bool true) ∧ W=w':=by
  go_enter Tryd.func51,Tryd.ntmps51
  go_wp2_with fail
  go_ret
  exact ⟨rfl,rfl⟩
theorem imm_q1 (W:World):Calls Tryd.prog 53 #[.int .i8 1] W fun e w'=>e=.returned (.int .i64 0) ∧ W=w':=by
  go_enter Tryd.func53,Tryd.ntmps53
  go_wp2_with fail
  go_ret
  exact ⟨rfl,rfl⟩
theorem inop_q2 (W:World):Calls Tryd.prog 51 #[.int .i8 2] W fun e w'=>e=.returned (.bool true) ∧ W=w':=by
  go_enter Tryd.func51,Tryd.ntmps51
  go_wp2_with fail
  go_ret
  exact ⟨rfl,rfl⟩
theorem imm_q2 (W:World):Calls Tryd.prog 53 #[.int .i8 2] W fun e w'=>e=.returned (.int .i64 0) ∧ W=w':=by
  go_enter Tryd.func53,Tryd.ntmps53
  go_wp2_with fail
  go_ret
  exact ⟨rfl,rfl⟩
theorem inop_q3 (W:World):Calls Tryd.prog 51 #[.int .i8 3] W fun e w'=>e=.returned (.bool true) ∧ W=w':=by
  go_enter Tryd.func51,Tryd.ntmps51
  go_wp2_with fail
  go_ret
  exact ⟨rfl,rfl⟩
theorem imm_q3 (W:World):Calls Tryd.prog 53 #[.int .i8 3] W fun e w'=>e=.returned (.int .i64 4) ∧ W=w':=by
  go_enter Tryd.func53,Tryd.ntmps53
  go_wp2_with fail
  go_ret
  exact ⟨rfl,rfl⟩
theorem inop_q4 (W:World):Calls Tryd.prog 51 #[.int .i8 4] W fun e w'=>e=.returned (.bool true) ∧ W=w':=by
  go_enter Tryd.func51,Tryd.ntmps51
  go_wp2_with fail
  go_ret
  exact ⟨rfl,rfl⟩
theorem imm_q4 (W:World):Calls Tryd.prog 53 #[.int .i8 4] W fun e w'=>e=.returned (.int .i64 1) ∧ W=w':=by
  go_enter Tryd.func53,Tryd.ntmps53
  go_wp2_with fail
  go_ret
  exact ⟨rfl,rfl⟩
theorem inop_q5 (W:World):Calls Tryd.prog 51 #[.int .i8 5] W fun e w'=>e=.returned (.bool true) ∧ W=w':=by
  go_enter Tryd.func51,Tryd.ntmps51
  go_wp2_with fail
  go_ret
  exact ⟨rfl,rfl⟩
theorem imm_q5 (W:World):Calls Tryd.prog 53 #[.int .i8 5] W fun e w'=>e=.returned (.int .i64 0) ∧ W=w':=by
  go_enter Tryd.func53,Tryd.ntmps53
  go_wp2_with fail
  go_ret
  exact ⟨rfl,rfl⟩
theorem inop_q6 (W:World):Calls Tryd.prog 51 #[.int .i8 6] W fun e w'=>e=.returned (.bool false) ∧ W=w':=by
  go_enter Tryd.func51,Tryd.ntmps51
  go_wp2_with fail
  go_ret
  exact ⟨rfl,rfl⟩
theorem imm_q6 (W:World):Calls Tryd.prog 53 #[.int .i8 6] W fun e w'=>e=.returned (.int .i64 4) ∧ W=w':=by
  go_enter Tryd.func53,Tryd.ntmps53
  go_wp2_with fail
  go_ret
  exact ⟨rfl,rfl⟩
theorem inop_q7 (W:World):Calls Tryd.prog 51 #[.int .i8 7] W fun e w'=>e=.returned (.bool true) ∧ W=w':=by
  go_enter Tryd.func51,Tryd.ntmps51
  go_wp2_with fail
  go_ret
  exact ⟨rfl,rfl⟩
theorem imm_q7 (W:World):Calls Tryd.prog 53 #[.int .i8 7] W fun e w'=>e=.returned (.int .i64 0) ∧ W=w':=by
  go_enter Tryd.func53,Tryd.ntmps53
  go_wp2_with fail
  go_ret
  exact ⟨rfl,rfl⟩
theorem inop_q8 (W:World):Calls Tryd.prog 51 #[.int .i8 8] W fun e w'=>e=.returned (.bool true) ∧ W=w':=by
  go_enter Tryd.func51,Tryd.ntmps51
  go_wp2_with fail
  go_ret
  exact ⟨rfl,rfl⟩
theorem imm_q8 (W:World):Calls Tryd.prog 53 #[.int .i8 8] W fun e w'=>e=.returned (.int .i64 0) ∧ W=w':=by
  go_enter Tryd.func53,Tryd.ntmps53
  go_wp2_with fail
  go_ret
  exact ⟨rfl,rfl⟩
theorem inop_q9 (W:World):Calls Tryd.prog 51 #[.int .i8 9] W fun e w'=>e=.returned (.bool false) ∧ W=w':=by
  go_enter Tryd.func51,Tryd.ntmps51
  go_wp2_with fail
  go_ret
  exact ⟨rfl,rfl⟩
theorem imm_q9 (W:World):Calls Tryd.prog 53 #[.int .i8 9] W fun e w'=>e=.returned (.int .i64 4) ∧ W=w':=by
  go_enter Tryd.func53,Tryd.ntmps53
  go_wp2_with fail
  go_ret
  exact ⟨rfl,rfl⟩
theorem inop_q10 (W:World):Calls Tryd.prog 51 #[.int .i8 10] W fun e w'=>e=.returned (.bool false) ∧ W=w':=by
  go_enter Tryd.func51,Tryd.ntmps51
  go_wp2_with fail
  go_ret
  exact ⟨rfl,rfl⟩
theorem imm_q10 (W:World):Calls Tryd.prog 53 #[.int .i8 10] W fun e w'=>e=.returned (.int .i64 1) ∧ W=w':=by
  go_enter Tryd.func53,Tryd.ntmps53
  go_wp2_with fail
  go_ret
  exact ⟨rfl,rfl⟩
theorem row_heap {W w:World} {k:Nat} {A:Array Value} {T:TypeId} (h:W.heap[k]?=some (.cells A T (0,0))) (b:Below W.heap.size W w):w.heap[k]?=some (.cells A T (0,0)):=
  (b.block k (Array.getElem?_eq_some_iff.1 h).1).trans h
theorem row_cell {w:World} {k:Nat} {A:Array Value} {T:TypeId} (h:w.heap[k]?=some (.cells A T (0,0))) (i:Nat) (v:Value) (hv:A[i]?=some v):w.cell? ⟨k,i,none⟩=some v:=by
  simp only [World.cell?,h]
  simpa using hv
theorem rows3 {W w1:World} {A B C:Array Value} {T U V:TypeId} (b:Below (((W.alloc (.cells A T)).alloc (.cells B U)).alloc (.cells C V)).heap.size (((W.alloc (.cells A T)).alloc (.cells B U)).alloc (.cells C V)) w1):
    w1.heap[W.heap.size]?=some (.cells A T (0,0)) ∧ w1.heap[W.heap.size + 1]?=some (.cells B U (0,0)) ∧ w1.heap[W.heap.size + 1 + 1]?=some (.cells C V (0,0)):=by
  refine ⟨row_heap ?_ b,row_heap ?_ b,row_heap ?_ b⟩
  · exact (heap_past _ _ _ (by rw [size_alloc,size_alloc];omega)).trans ((heap_past _ _ _ (by rw [size_alloc];omega)).trans (heap_last _ _ _ rfl))
  · exact (heap_past _ _ _ (by rw [size_alloc,size_alloc];omega)).trans (heap_last _ _ _ (size_alloc _ _).symm)
  · exact heap_last _ _ _ (by rw [size_alloc,size_alloc])
structure Pp (W:World) (g:Nat) (F C Z X:Array Value) (w:World):Prop where
  f:w.heap[g]?=some (.cells F 56 (0,0))
  c:w.heap[W.heap.size]?=some (.cells C 61 (0,0))
  z:w.heap[W.heap.size + 1]?=some (.cells Z 64 (0,0))
  x:w.heap[W.heap.size + 1 + 1]?=some (.cells X 64 (0,0))
  b:Below W.heap.size W w
  l:g < W.heap.size
theorem Pp.st {W w w':World} {g:Nat} {F C Z X X':Array Value} (h:Pp W g F C Z X w) (s:Stored w (W.heap.size + 1 + 1) X' 64 w'):Pp W g F C Z X' w':=
  have l:=h.l
  ⟨(s.other g (by omega)).trans h.f,(s.other _ (by omega)).trans h.c,(s.other _ (by omega)).trans h.z,s.row,s.below h.b (by omega),h.l⟩
theorem Pp.stz {W w w':World} {g:Nat} {F C Z X Z':Array Value} (h:Pp W g F C Z X w) (s:Stored w (W.heap.size + 1) Z' 64 w'):Pp W g F C Z' X w':=
  have l:=h.l
  ⟨(s.other g (by omega)).trans h.f,(s.other _ (by omega)).trans h.c,s.row,(s.other _ (by omega)).trans h.x,s.below h.b (by omega),h.l⟩
theorem Pp.drew {W w:World} {g:Nat} {F C Z X:Array Value} (h:Pp W g F C Z X w):Pp W g F C Z X w.drew:=
  ⟨h.f,h.c,h.z,h.x,h.b.drew,h.l⟩
theorem Pp.start {W w:World} {g:Nat} {F C Z X:Array Value} (hf:W.heap[g]?=some (.cells F 56 (0,0)))
    (b:Below (((W.alloc (.cells C 61)).alloc (.cells Z 64)).alloc (.cells X 64)).heap.size (((W.alloc (.cells C 61)).alloc (.cells Z 64)).alloc (.cells X 64)) w):Pp W g F C Z X w:=by
  obtain ⟨r1,r2,r3⟩:=rows3 b
  have B:=below_call (below_new (below_new (below_new (Below.refl _ _) _) _) _) b
  exact ⟨row_heap hf B,r1,r2,r3,B,(Array.getElem?_eq_some_iff.1 hf).1⟩
set_option maxHeartbeats 4000000 in
theorem parts_op (g B o len cap n mm k:Nat) (wide mem:Bool) (rh mh v r m d er im sh at_ va dg lo:Int) (W:World)
    (hf:W.heap[g]?=some (.cells #[.bool wide,.int .i8 rh,.int .i8 mh,.int .u16 v,.slice (some ⟨B,o,none⟩) len cap] 56 (0,0)))
    (v0:0 ≤ v) (v1:v < 65536) (hn:n ≤ len) (hl:len ≤ cap) (hc:cap ≤ 9223372036854775807) (hlo:¬ lo=15) (hcap:n < cap)
    (IO:Hid (∀ W,Calls Tryd.prog 51 #[.int .i8 sh] W fun e w'=>e=.returned (.bool true) ∧ W=w'))
    (IM:Hid (∀ W,Calls Tryd.prog 53 #[.int .i8 sh] W fun e w'=>e=.returned (.int .i64 (k:Int)) ∧ W=w'))
    (RD:Hid (∀ w,Below W.heap.size W w → Calls Tryd.prog 57 #[.slice (some ⟨B,o,none⟩) len cap] w fun e w'=>e=.returned (.tuple #[.int .i8 r,.int .i8 m,.int .i64 d,.bool mem,.int .i64 (n:Int),.int .i64 er]) ∧ Below w.heap.size w w'))
    (SG:Hid (∀ w,Below W.heap.size W w → Calls Tryd.prog 58 #[.slice (some ⟨B,o + n,none⟩) mm (cap - n)] w fun e w'=>e=.returned (.int .i64 im) ∧ w=w'))
    (mE:min ((len - n:Nat):Int) (k:Int)=(mm:Int)):
    Calls Tryd.prog 27 #[.pointer (some ⟨g,0,none⟩),.agg #[.int .i8 sh,.int .i8 at_,.int .u16 va,.int .i8 dg,.int .u16 lo]] W fun e w'=>e=.returned (.agg #[.int .i8 (bits .or .i8 r rh),.int .i8 (bits .or .i8 m mh),.int .i64 d,.int .i64 im,.int .i8 0]) ∧ Below W.heap.size W w':=by
  have L4:=cell_b (row_cell hf 4 _ rfl) (show Below W.heap.size W (((W.alloc (.cells #[.int .i8 sh,.int .i8 at_,.int .u16 va,.int .i8 dg,.int .u16 lo] 61)).alloc (.cells #[.int .i8 0,.int .i8 0,.int .i64 0,.int .i64 0,.int .i8 0] 64)).alloc (.cells #[.int .i8 0,.int .i8 0,.int .i64 0,.int .i64 0,.int .i8 0] 64)) from below_new (below_new (below_new (Below.refl _ _) _) _) _)
  have L3:=cell_b (row_cell hf 3 _ rfl) (show Below W.heap.size W (((W.alloc (.cells #[.int .i8 sh,.int .i8 at_,.int .u16 va,.int .i8 dg,.int .u16 lo] 61)).alloc (.cells #[.int .i8 0,.int .i8 0,.int .i64 0,.int .i64 0,.int .i8 0] 64)).alloc (.cells #[.int .i8 0,.int .i8 0,.int .i64 0,.int .i64 0,.int .i8 0] 64)) from below_new (below_new (below_new (Below.refl _ _) _) _) _)
  have HF:=Lib.hid hf
  clear hf
  go_enter Tryd.func27,Tryd.ntmps27
  go_wp2_with fail
  refine (IO.out _).mono ?_
  rintro e w1 ⟨rfl,rfl⟩
  go_wp2_with fail
  refine (RD.out _ (below_new (below_new (below_new (Below.refl _ _) _) _) _)).mono ?_
  rintro e w1 ⟨rfl,b1⟩
  have Q0:=Lib.hid (Pp.start HF.out b1)
  clear b1
  go_wp2_with (with_reducible refine (halt_store 24 _ _ rfl ?_))
  refine ⟨?_,trivial⟩
  refine wpList_store_cell rfl 24 _ _ rfl (W.heap.size + 1 + 1) 0 (.int .i8 r) rfl rfl rfl rfl _ _ Q0.out.x (by kernel_rfl) (Nat.le_of_ble_eq_true rfl) ?_
  intro ws ss
  have Q1:=Lib.hid (Q0.out.st ss)
  clear ss Q0
  go_wp2_with (with_reducible refine (halt_store 24 _ _ rfl ?_))
  refine ⟨?_,trivial⟩
  refine wpList_store_cell rfl 24 _ _ rfl (W.heap.size + 1 + 1) 1 (.int .i8 m) rfl rfl rfl rfl _ _ Q1.out.x (by kernel_rfl) (Nat.le_of_ble_eq_true rfl) ?_
  intro ws ss
  have Q2:=Lib.hid (Q1.out.st ss)
  clear ss Q1
  go_wp2_with (with_reducible refine (halt_store 3 _ _ rfl ?_))
  refine ⟨?_,trivial⟩
  refine wpList_store_cell rfl 3 _ _ rfl (W.heap.size + 1 + 1) 2 (.int .i64 d) rfl rfl rfl rfl _ _ Q2.out.x (by kernel_rfl) (Nat.le_of_ble_eq_true rfl) ?_
  intro ws ss
  have Q3:=Lib.hid (Q2.out.st ss)
  clear ss Q2
  go_wp2_with fail
  have x0:=row_cell Q3.out.x 0 _ rfl
  have f1:=row_cell Q3.out.f 1 _ rfl
  go_still_tail 8,(by kernel_rfl)
  clear x0 f1
  go_wp2_with (with_reducible refine (halt_store 24 _ _ rfl ?_))
  refine ⟨?_,trivial⟩
  refine wpList_store_cell rfl 24 _ _ rfl (W.heap.size + 1 + 1) 0 (.int .i8 (bits .or .i8 r rh)) rfl rfl rfl rfl _ _ Q3.out.drew.x (by kernel_rfl) (Nat.le_of_ble_eq_true rfl) ?_
  intro ws ss
  have Q4:=Lib.hid (Q3.out.drew.st ss)
  clear ss Q3
  go_wp2_with fail
  have x0:=row_cell Q4.out.x 1 _ rfl
  have f1:=row_cell Q4.out.f 2 _ rfl
  go_still_tail 8,(by kernel_rfl)
  clear x0 f1
  go_wp2_with (with_reducible refine (halt_store 24 _ _ rfl ?_))
  refine ⟨?_,trivial⟩
  refine wpList_store_cell rfl 24 _ _ rfl (W.heap.size + 1 + 1) 1 (.int .i8 (bits .or .i8 m mh)) rfl rfl rfl rfl _ _ Q4.out.drew.x (by kernel_rfl) (Nat.le_of_ble_eq_true rfl) ?_
  intro ws ss
  have Q5:=Lib.hid (Q4.out.drew.st ss)
  clear ss Q4
  have c0:=row_cell Q5.out.c 0 _ rfl
  go_wp2_with fail
  refine (IM.out _).mono ?_
  rintro e w7 ⟨rfl,rfl⟩
  go_wp2_with fail
  refine (SG.out _ Q5.out.b).mono ?_
  rintro e w7 ⟨rfl,rfl⟩
  go_wp2_with (with_reducible refine (halt_store 3 _ _ rfl ?_))
  refine ⟨?_,trivial⟩
  refine wpList_store_cell rfl 3 _ _ rfl (W.heap.size + 1 + 1) 3 (.int .i64 im) rfl rfl rfl rfl _ _ Q5.out.x (by kernel_rfl) (Nat.le_of_ble_eq_true rfl) ?_
  intro ws ss
  have Q6:=Lib.hid (Q5.out.st ss)
  clear ss Q5
  go_wp2_with (with_reducible refine (halt_load 64 _ rfl ?_))
  refine ⟨?_,trivial⟩
  refine wpList_load_row rfl 64 _ rfl _ rfl _ _ _ _ Q6.out.x Tryd.underlying64 rfl (by kernel_rfl) ?_
  go_wp2_with (with_reducible refine (halt_store 64 _ _ rfl ?_))
  refine ⟨?_,trivial⟩
  refine wpList_store_is rfl 64 _ _ rfl (W.heap.size + 1) _ rfl rfl _ _ Q6.out.z (by kernel_rfl) rfl (by kernel_rfl) ?_
  intro ws ss
  have Q7:=Q6.out.stz ss
  clear ss Q6
  go_wp2_with fail
  have r0:=row_cell Q7.z 0 _ rfl
  have r1:=row_cell Q7.z 1 _ rfl
  have r2:=row_cell Q7.z 2 _ rfl
  have r3:=row_cell Q7.z 3 _ rfl
  have r4:=row_cell Q7.z 4 _ rfl
  refine bodyPost_ret (v:=.agg #[.int .i8 (bits .or .i8 r rh),.int .i8 (bits .or .i8 m mh),.int .i64 d,.int .i64 im,.int .i8 0]) (by simp [results,Tryd.results27,go_sem,r0,r1,r2,r3,r4]) rfl ⟨rfl,Q7.b⟩
set_option maxHeartbeats 4000000 in
theorem parts_oph (g B o len cap n mm k:Nat) (wide mem:Bool) (rh mh v r m d er im sh at_ va dg:Int) (W:World)
    (hf:W.heap[g]?=some (.cells #[.bool wide,.int .i8 rh,.int .i8 mh,.int .u16 v,.slice (some ⟨B,o,none⟩) len cap] 56 (0,0)))
    (v0:0 ≤ v) (v1:v < 65536) (hn:n ≤ len) (hl:len ≤ cap) (hc:cap ≤ 9223372036854775807) (hcap:n < cap)
    (IO:Hid (∀ W,Calls Tryd.prog 51 #[.int .i8 sh] W fun e w'=>e=.returned (.bool true) ∧ W=w'))
    (IM:Hid (∀ W,Calls Tryd.prog 53 #[.int .i8 sh] W fun e w'=>e=.returned (.int .i64 (k:Int)) ∧ W=w'))
    (RD:Hid (∀ w,Below W.heap.size W w → Calls Tryd.prog 57 #[.slice (some ⟨B,o,none⟩) len cap] w fun e w'=>e=.returned (.tuple #[.int .i8 r,.int .i8 m,.int .i64 d,.bool mem,.int .i64 (n:Int),.int .i64 er]) ∧ Below w.heap.size w w'))
    (SG:Hid (∀ w,Below W.heap.size W w → Calls Tryd.prog 58 #[.slice (some ⟨B,o + n,none⟩) mm (cap - n)] w fun e w'=>e=.returned (.int .i64 im) ∧ w=w'))
    (mE:min ((len - n:Nat):Int) (k:Int)=(mm:Int)):
    Calls Tryd.prog 27 #[.pointer (some ⟨g,0,none⟩),.agg #[.int .i8 sh,.int .i8 at_,.int .u16 va,.int .i8 dg,.int .u16 15]] W fun e w'=>e=.returned (.agg #[.int .i8 (bits .or .i8 r rh),.int .i8 (bits .or .i8 m mh),.int .i64 d,.int .i64 im,.int .i8 (IntKind.i8.wrap (bits .and .u16 v 15))]) ∧ Below W.heap.size W w':=by
  have L4:=cell_b (row_cell hf 4 _ rfl) (show Below W.heap.size W (((W.alloc (.cells #[.int .i8 sh,.int .i8 at_,.int .u16 va,.int .i8 dg,.int .u16 15] 61)).alloc (.cells #[.int .i8 0,.int .i8 0,.int .i64 0,.int .i64 0,.int .i8 0] 64)).alloc (.cells #[.int .i8 0,.int .i8 0,.int .i64 0,.int .i64 0,.int .i8 0] 64)) from below_new (below_new (below_new (Below.refl _ _) _) _) _)
  have L3:=cell_b (row_cell hf 3 _ rfl) (show Below W.heap.size W (((W.alloc (.cells #[.int .i8 sh,.int .i8 at_,.int .u16 va,.int .i8 dg,.int .u16 15] 61)).alloc (.cells #[.int .i8 0,.int .i8 0,.int .i64 0,.int .i64 0,.int .i8 0] 64)).alloc (.cells #[.int .i8 0,.int .i8 0,.int .i64 0,.int .i64 0,.int .i8 0] 64)) from below_new (below_new (below_new (Below.refl _ _) _) _) _)
  have HF:=Lib.hid hf
  clear hf
  go_enter Tryd.func27,Tryd.ntmps27
  go_wp2_with fail
  refine (IO.out _).mono ?_
  rintro e w1 ⟨rfl,rfl⟩
  go_wp2_with fail
  refine (RD.out _ (below_new (below_new (below_new (Below.refl _ _) _) _) _)).mono ?_
  rintro e w1 ⟨rfl,b1⟩
  have Q0:=Lib.hid (Pp.start HF.out b1)
  clear b1
  go_wp2_with (with_reducible refine (halt_store 24 _ _ rfl ?_))
  refine ⟨?_,trivial⟩
  refine wpList_store_cell rfl 24 _ _ rfl (W.heap.size + 1 + 1) 0 (.int .i8 r) rfl rfl rfl rfl _ _ Q0.out.x (by kernel_rfl) (Nat.le_of_ble_eq_true rfl) ?_
  intro ws ss
  have Q1:=Lib.hid (Q0.out.st ss)
  clear ss Q0
  go_wp2_with (with_reducible refine (halt_store 24 _ _ rfl ?_))
  refine ⟨?_,trivial⟩
  refine wpList_store_cell rfl 24 _ _ rfl (W.heap.size + 1 + 1) 1 (.int .i8 m) rfl rfl rfl rfl _ _ Q1.out.x (by kernel_rfl) (Nat.le_of_ble_eq_true rfl) ?_
  intro ws ss
  have Q2:=Lib.hid (Q1.out.st ss)
  clear ss Q1
  go_wp2_with (with_reducible refine (halt_store 3 _ _ rfl ?_))
  refine ⟨?_,trivial⟩
  refine wpList_store_cell rfl 3 _ _ rfl (W.heap.size + 1 + 1) 2 (.int .i64 d) rfl rfl rfl rfl _ _ Q2.out.x (by kernel_rfl) (Nat.le_of_ble_eq_true rfl) ?_
  intro ws ss
  have Q3:=Lib.hid (Q2.out.st ss)
  clear ss Q2
  go_wp2_with fail
  have x0:=row_cell Q3.out.x 0 _ rfl
  have f1:=row_cell Q3.out.f 1 _ rfl
  go_still_tail 8,(by kernel_rfl)
  clear x0 f1
  go_wp2_with (with_reducible refine (halt_store 24 _ _ rfl ?_))
  refine ⟨?_,trivial⟩
  refine wpList_store_cell rfl 24 _ _ rfl (W.heap.size + 1 + 1) 0 (.int .i8 (bits .or .i8 r rh)) rfl rfl rfl rfl _ _ Q3.out.drew.x (by kernel_rfl) (Nat.le_of_ble_eq_true rfl) ?_
  intro ws ss
  have Q4:=Lib.hid (Q3.out.drew.st ss)
  clear ss Q3
  go_wp2_with fail
  have x0:=row_cell Q4.out.x 1 _ rfl
  have f1:=row_cell Q4.out.f 2 _ rfl
  go_still_tail 8,(by kernel_rfl)
  clear x0 f1
  go_wp2_with (with_reducible refine (halt_store 24 _ _ rfl ?_))
  refine ⟨?_,trivial⟩
  refine wpList_store_cell rfl 24 _ _ rfl (W.heap.size + 1 + 1) 1 (.int .i8 (bits .or .i8 m mh)) rfl rfl rfl rfl _ _ Q4.out.drew.x (by kernel_rfl) (Nat.le_of_ble_eq_true rfl) ?_
  intro ws ss
  have Q5:=Lib.hid (Q4.out.drew.st ss)
  clear ss Q4
  have c0:=row_cell Q5.out.c 0 _ rfl
  go_wp2_with fail
  refine (IM.out _).mono ?_
  rintro e w7 ⟨rfl,rfl⟩
  go_wp2_with fail
  refine (SG.out _ Q5.out.b).mono ?_
  rintro e w7 ⟨rfl,rfl⟩
  go_wp2_with (with_reducible refine (halt_store 3 _ _ rfl ?_))
  refine ⟨?_,trivial⟩
  refine wpList_store_cell rfl 3 _ _ rfl (W.heap.size + 1 + 1) 3 (.int .i64 im) rfl rfl rfl rfl _ _ Q5.out.x (by kernel_rfl) (Nat.le_of_ble_eq_true rfl) ?_
  intro ws ss
  have Q6:=Lib.hid (Q5.out.st ss)
  clear ss Q5
  go_wp2_with (with_reducible refine (halt_load 64 _ rfl ?_))
  refine ⟨?_,trivial⟩
  refine wpList_load_row rfl 64 _ rfl _ rfl _ _ _ _ Q6.out.x Tryd.underlying64 rfl (by kernel_rfl) ?_
  go_wp2_with (with_reducible refine (halt_store 64 _ _ rfl ?_))
  refine ⟨?_,trivial⟩
  refine wpList_store_is rfl 64 _ _ rfl (W.heap.size + 1) _ rfl rfl _ _ Q6.out.z (by kernel_rfl) rfl (by kernel_rfl) ?_
  intro ws ss
  have Q7:=Q6.out.stz ss
  clear ss Q6
  go_wp2_with fail
  have r0:=row_cell Q7.z 0 _ rfl
  have r1:=row_cell Q7.z 1 _ rfl
  have r2:=row_cell Q7.z 2 _ rfl
  have r3:=row_cell Q7.z 3 _ rfl
  have r4:=row_cell Q7.z 4 _ rfl
  refine bodyPost_ret (v:=.agg #[.int .i8 (bits .or .i8 r rh),.int .i8 (bits .or .i8 m mh),.int .i64 d,.int .i64 im,.int .i8 (IntKind.i8.wrap (bits .and .u16 v 15))]) (by simp [results,Tryd.results27,go_sem,r0,r1,r2,r3,r4]) rfl ⟨rfl,Q7.b⟩
set_option maxHeartbeats 4000000 in
theorem parts_ope (g B o n k:Nat) (wide mem:Bool) (rh mh v r m d er im sh at_ va dg lo:Int) (W:World)
    (hf:W.heap[g]?=some (.cells #[.bool wide,.int .i8 rh,.int .i8 mh,.int .u16 v,.slice (some ⟨B,o,none⟩) n n] 56 (0,0)))
    (v0:0 ≤ v) (v1:v < 65536) (hc:n ≤ 9223372036854775807) (hlo:¬ lo=15)
    (IO:Hid (∀ W,Calls Tryd.prog 51 #[.int .i8 sh] W fun e w'=>e=.returned (.bool true) ∧ W=w'))
    (IM:Hid (∀ W,Calls Tryd.prog 53 #[.int .i8 sh] W fun e w'=>e=.returned (.int .i64 (k:Int)) ∧ W=w'))
    (RD:Hid (∀ w,Below W.heap.size W w → Calls Tryd.prog 57 #[.slice (some ⟨B,o,none⟩) n n] w fun e w'=>e=.returned (.tuple #[.int .i8 r,.int .i8 m,.int .i64 d,.bool mem,.int .i64 (n:Int),.int .i64 er]) ∧ Below w.heap.size w w'))
    (SG:Hid (∀ w,Below W.heap.size W w → Calls Tryd.prog 58 #[.slice (some ⟨B,o,none⟩) 0 0] w fun e w'=>e=.returned (.int .i64 im) ∧ w=w'))
    (mE:min (0:Int) (k:Int)=0):
    Calls Tryd.prog 27 #[.pointer (some ⟨g,0,none⟩),.agg #[.int .i8 sh,.int .i8 at_,.int .u16 va,.int .i8 dg,.int .u16 lo]] W fun e w'=>e=.returned (.agg #[.int .i8 (bits .or .i8 r rh),.int .i8 (bits .or .i8 m mh),.int .i64 d,.int .i64 im,.int .i8 0]) ∧ Below W.heap.size W w':=by
  have L4:=cell_b (row_cell hf 4 _ rfl) (show Below W.heap.size W (((W.alloc (.cells #[.int .i8 sh,.int .i8 at_,.int .u16 va,.int .i8 dg,.int .u16 lo] 61)).alloc (.cells #[.int .i8 0,.int .i8 0,.int .i64 0,.int .i64 0,.int .i8 0] 64)).alloc (.cells #[.int .i8 0,.int .i8 0,.int .i64 0,.int .i64 0,.int .i8 0] 64)) from below_new (below_new (below_new (Below.refl _ _) _) _) _)
  have L3:=cell_b (row_cell hf 3 _ rfl) (show Below W.heap.size W (((W.alloc (.cells #[.int .i8 sh,.int .i8 at_,.int .u16 va,.int .i8 dg,.int .u16 lo] 61)).alloc (.cells #[.int .i8 0,.int .i8 0,.int .i64 0,.int .i64 0,.int .i8 0] 64)).alloc (.cells #[.int .i8 0,.int .i8 0,.int .i64 0,.int .i64 0,.int .i8 0] 64)) from below_new (below_new (below_new (Below.refl _ _) _) _) _)
  have HF:=Lib.hid hf
  clear hf
  go_enter Tryd.func27,Tryd.ntmps27
  go_wp2_with fail
  refine (IO.out _).mono ?_
  rintro e w1 ⟨rfl,rfl⟩
  go_wp2_with fail
  refine (RD.out _ (below_new (below_new (below_new (Below.refl _ _) _) _) _)).mono ?_
  rintro e w1 ⟨rfl,b1⟩
  have Q0:=Lib.hid (Pp.start HF.out b1)
  clear b1
  go_wp2_with (with_reducible refine (halt_store 24 _ _ rfl ?_))
  refine ⟨?_,trivial⟩
  refine wpList_store_cell rfl 24 _ _ rfl (W.heap.size + 1 + 1) 0 (.int .i8 r) rfl rfl rfl rfl _ _ Q0.out.x (by kernel_rfl) (Nat.le_of_ble_eq_true rfl) ?_
  intro ws ss
  have Q1:=Lib.hid (Q0.out.st ss)
  clear ss Q0
  go_wp2_with (with_reducible refine (halt_store 24 _ _ rfl ?_))
  refine ⟨?_,trivial⟩
  refine wpList_store_cell rfl 24 _ _ rfl (W.heap.size + 1 + 1) 1 (.int .i8 m) rfl rfl rfl rfl _ _ Q1.out.x (by kernel_rfl) (Nat.le_of_ble_eq_true rfl) ?_
  intro ws ss
  have Q2:=Lib.hid (Q1.out.st ss)
  clear ss Q1
  go_wp2_with (with_reducible refine (halt_store 3 _ _ rfl ?_))
  refine ⟨?_,trivial⟩
  refine wpList_store_cell rfl 3 _ _ rfl (W.heap.size + 1 + 1) 2 (.int .i64 d) rfl rfl rfl rfl _ _ Q2.out.x (by kernel_rfl) (Nat.le_of_ble_eq_true rfl) ?_
  intro ws ss
  have Q3:=Lib.hid (Q2.out.st ss)
  clear ss Q2
  go_wp2_with fail
  have x0:=row_cell Q3.out.x 0 _ rfl
  have f1:=row_cell Q3.out.f 1 _ rfl
  go_still_tail 8,(by kernel_rfl)
  clear x0 f1
  go_wp2_with (with_reducible refine (halt_store 24 _ _ rfl ?_))
  refine ⟨?_,trivial⟩
  refine wpList_store_cell rfl 24 _ _ rfl (W.heap.size + 1 + 1) 0 (.int .i8 (bits .or .i8 r rh)) rfl rfl rfl rfl _ _ Q3.out.drew.x (by kernel_rfl) (Nat.le_of_ble_eq_true rfl) ?_
  intro ws ss
  have Q4:=Lib.hid (Q3.out.drew.st ss)
  clear ss Q3
  go_wp2_with fail
  have x0:=row_cell Q4.out.x 1 _ rfl
  have f1:=row_cell Q4.out.f 2 _ rfl
  go_still_tail 8,(by kernel_rfl)
  clear x0 f1
  go_wp2_with (with_reducible refine (halt_store 24 _ _ rfl ?_))
  refine ⟨?_,trivial⟩
  refine wpList_store_cell rfl 24 _ _ rfl (W.heap.size + 1 + 1) 1 (.int .i8 (bits .or .i8 m mh)) rfl rfl rfl rfl _ _ Q4.out.drew.x (by kernel_rfl) (Nat.le_of_ble_eq_true rfl) ?_
  intro ws ss
  have Q5:=Lib.hid (Q4.out.drew.st ss)
  clear ss Q4
  have c0:=row_cell Q5.out.c 0 _ rfl
  go_wp2_with fail
  refine (IM.out _).mono ?_
  rintro e w7 ⟨rfl,rfl⟩
  go_wp2_with fail
  refine (SG.out _ Q5.out.b).mono ?_
  rintro e w7 ⟨rfl,rfl⟩
  go_wp2_with (with_reducible refine (halt_store 3 _ _ rfl ?_))
  refine ⟨?_,trivial⟩
  refine wpList_store_cell rfl 3 _ _ rfl (W.heap.size + 1 + 1) 3 (.int .i64 im) rfl rfl rfl rfl _ _ Q5.out.x (by kernel_rfl) (Nat.le_of_ble_eq_true rfl) ?_
  intro ws ss
  have Q6:=Lib.hid (Q5.out.st ss)
  clear ss Q5
  go_wp2_with (with_reducible refine (halt_load 64 _ rfl ?_))
  refine ⟨?_,trivial⟩
  refine wpList_load_row rfl 64 _ rfl _ rfl _ _ _ _ Q6.out.x Tryd.underlying64 rfl (by kernel_rfl) ?_
  go_wp2_with (with_reducible refine (halt_store 64 _ _ rfl ?_))
  refine ⟨?_,trivial⟩
  refine wpList_store_is rfl 64 _ _ rfl (W.heap.size + 1) _ rfl rfl _ _ Q6.out.z (by kernel_rfl) rfl (by kernel_rfl) ?_
  intro ws ss
  have Q7:=Q6.out.stz ss
  clear ss Q6
  go_wp2_with fail
  have r0:=row_cell Q7.z 0 _ rfl
  have r1:=row_cell Q7.z 1 _ rfl
  have r2:=row_cell Q7.z 2 _ rfl
  have r3:=row_cell Q7.z 3 _ rfl
  have r4:=row_cell Q7.z 4 _ rfl
  refine bodyPost_ret (v:=.agg #[.int .i8 (bits .or .i8 r rh),.int .i8 (bits .or .i8 m mh),.int .i64 d,.int .i64 im,.int .i8 0]) (by simp [results,Tryd.results27,go_sem,r0,r1,r2,r3,r4]) rfl ⟨rfl,Q7.b⟩
set_option maxHeartbeats 4000000 in
theorem parts_ophe (g B o n k:Nat) (wide mem:Bool) (rh mh v r m d er im sh at_ va dg:Int) (W:World)
    (hf:W.heap[g]?=some (.cells #[.bool wide,.int .i8 rh,.int .i8 mh,.int .u16 v,.slice (some ⟨B,o,none⟩) n n] 56 (0,0)))
    (v0:0 ≤ v) (v1:v < 65536) (hc:n ≤ 9223372036854775807)
    (IO:Hid (∀ W,Calls Tryd.prog 51 #[.int .i8 sh] W fun e w'=>e=.returned (.bool true) ∧ W=w'))
    (IM:Hid (∀ W,Calls Tryd.prog 53 #[.int .i8 sh] W fun e w'=>e=.returned (.int .i64 (k:Int)) ∧ W=w'))
    (RD:Hid (∀ w,Below W.heap.size W w → Calls Tryd.prog 57 #[.slice (some ⟨B,o,none⟩) n n] w fun e w'=>e=.returned (.tuple #[.int .i8 r,.int .i8 m,.int .i64 d,.bool mem,.int .i64 (n:Int),.int .i64 er]) ∧ Below w.heap.size w w'))
    (SG:Hid (∀ w,Below W.heap.size W w → Calls Tryd.prog 58 #[.slice (some ⟨B,o,none⟩) 0 0] w fun e w'=>e=.returned (.int .i64 im) ∧ w=w'))
    (mE:min (0:Int) (k:Int)=0):
    Calls Tryd.prog 27 #[.pointer (some ⟨g,0,none⟩),.agg #[.int .i8 sh,.int .i8 at_,.int .u16 va,.int .i8 dg,.int .u16 15]] W fun e w'=>e=.returned (.agg #[.int .i8 (bits .or .i8 r rh),.int .i8 (bits .or .i8 m mh),.int .i64 d,.int .i64 im,.int .i8 (IntKind.i8.wrap (bits .and .u16 v 15))]) ∧ Below W.heap.size W w':=by
  have L4:=cell_b (row_cell hf 4 _ rfl) (show Below W.heap.size W (((W.alloc (.cells #[.int .i8 sh,.int .i8 at_,.int .u16 va,.int .i8 dg,.int .u16 15] 61)).alloc (.cells #[.int .i8 0,.int .i8 0,.int .i64 0,.int .i64 0,.int .i8 0] 64)).alloc (.cells #[.int .i8 0,.int .i8 0,.int .i64 0,.int .i64 0,.int .i8 0] 64)) from below_new (below_new (below_new (Below.refl _ _) _) _) _)
  have L3:=cell_b (row_cell hf 3 _ rfl) (show Below W.heap.size W (((W.alloc (.cells #[.int .i8 sh,.int .i8 at_,.int .u16 va,.int .i8 dg,.int .u16 15] 61)).alloc (.cells #[.int .i8 0,.int .i8 0,.int .i64 0,.int .i64 0,.int .i8 0] 64)).alloc (.cells #[.int .i8 0,.int .i8 0,.int .i64 0,.int .i64 0,.int .i8 0] 64)) from below_new (below_new (below_new (Below.refl _ _) _) _) _)
  have HF:=Lib.hid hf
  clear hf
  go_enter Tryd.func27,Tryd.ntmps27
  go_wp2_with fail
  refine (IO.out _).mono ?_
  rintro e w1 ⟨rfl,rfl⟩
  go_wp2_with fail
  refine (RD.out _ (below_new (below_new (below_new (Below.refl _ _) _) _) _)).mono ?_
  rintro e w1 ⟨rfl,b1⟩
  have Q0:=Lib.hid (Pp.start HF.out b1)
  clear b1
  go_wp2_with (with_reducible refine (halt_store 24 _ _ rfl ?_))
  refine ⟨?_,trivial⟩
  refine wpList_store_cell rfl 24 _ _ rfl (W.heap.size + 1 + 1) 0 (.int .i8 r) rfl rfl rfl rfl _ _ Q0.out.x (by kernel_rfl) (Nat.le_of_ble_eq_true rfl) ?_
  intro ws ss
  have Q1:=Lib.hid (Q0.out.st ss)
  clear ss Q0
  go_wp2_with (with_reducible refine (halt_store 24 _ _ rfl ?_))
  refine ⟨?_,trivial⟩
  refine wpList_store_cell rfl 24 _ _ rfl (W.heap.size + 1 + 1) 1 (.int .i8 m) rfl rfl rfl rfl _ _ Q1.out.x (by kernel_rfl) (Nat.le_of_ble_eq_true rfl) ?_
  intro ws ss
  have Q2:=Lib.hid (Q1.out.st ss)
  clear ss Q1
  go_wp2_with (with_reducible refine (halt_store 3 _ _ rfl ?_))
  refine ⟨?_,trivial⟩
  refine wpList_store_cell rfl 3 _ _ rfl (W.heap.size + 1 + 1) 2 (.int .i64 d) rfl rfl rfl rfl _ _ Q2.out.x (by kernel_rfl) (Nat.le_of_ble_eq_true rfl) ?_
  intro ws ss
  have Q3:=Lib.hid (Q2.out.st ss)
  clear ss Q2
  go_wp2_with fail
  have x0:=row_cell Q3.out.x 0 _ rfl
  have f1:=row_cell Q3.out.f 1 _ rfl
  go_still_tail 8,(by kernel_rfl)
  clear x0 f1
  go_wp2_with (with_reducible refine (halt_store 24 _ _ rfl ?_))
  refine ⟨?_,trivial⟩
  refine wpList_store_cell rfl 24 _ _ rfl (W.heap.size + 1 + 1) 0 (.int .i8 (bits .or .i8 r rh)) rfl rfl rfl rfl _ _ Q3.out.drew.x (by kernel_rfl) (Nat.le_of_ble_eq_true rfl) ?_
  intro ws ss
  have Q4:=Lib.hid (Q3.out.drew.st ss)
  clear ss Q3
  go_wp2_with fail
  have x0:=row_cell Q4.out.x 1 _ rfl
  have f1:=row_cell Q4.out.f 2 _ rfl
  go_still_tail 8,(by kernel_rfl)
  clear x0 f1
  go_wp2_with (with_reducible refine (halt_store 24 _ _ rfl ?_))
  refine ⟨?_,trivial⟩
  refine wpList_store_cell rfl 24 _ _ rfl (W.heap.size + 1 + 1) 1 (.int .i8 (bits .or .i8 m mh)) rfl rfl rfl rfl _ _ Q4.out.drew.x (by kernel_rfl) (Nat.le_of_ble_eq_true rfl) ?_
  intro ws ss
  have Q5:=Lib.hid (Q4.out.drew.st ss)
  clear ss Q4
  have c0:=row_cell Q5.out.c 0 _ rfl
  go_wp2_with fail
  refine (IM.out _).mono ?_
  rintro e w7 ⟨rfl,rfl⟩
  go_wp2_with fail
  refine (SG.out _ Q5.out.b).mono ?_
  rintro e w7 ⟨rfl,rfl⟩
  go_wp2_with (with_reducible refine (halt_store 3 _ _ rfl ?_))
  refine ⟨?_,trivial⟩
  refine wpList_store_cell rfl 3 _ _ rfl (W.heap.size + 1 + 1) 3 (.int .i64 im) rfl rfl rfl rfl _ _ Q5.out.x (by kernel_rfl) (Nat.le_of_ble_eq_true rfl) ?_
  intro ws ss
  have Q6:=Lib.hid (Q5.out.st ss)
  clear ss Q5
  go_wp2_with (with_reducible refine (halt_load 64 _ rfl ?_))
  refine ⟨?_,trivial⟩
  refine wpList_load_row rfl 64 _ rfl _ rfl _ _ _ _ Q6.out.x Tryd.underlying64 rfl (by kernel_rfl) ?_
  go_wp2_with (with_reducible refine (halt_store 64 _ _ rfl ?_))
  refine ⟨?_,trivial⟩
  refine wpList_store_is rfl 64 _ _ rfl (W.heap.size + 1) _ rfl rfl _ _ Q6.out.z (by kernel_rfl) rfl (by kernel_rfl) ?_
  intro ws ss
  have Q7:=Q6.out.stz ss
  clear ss Q6
  go_wp2_with fail
  have r0:=row_cell Q7.z 0 _ rfl
  have r1:=row_cell Q7.z 1 _ rfl
  have r2:=row_cell Q7.z 2 _ rfl
  have r3:=row_cell Q7.z 3 _ rfl
  have r4:=row_cell Q7.z 4 _ rfl
  refine bodyPost_ret (v:=.agg #[.int .i8 (bits .or .i8 r rh),.int .i8 (bits .or .i8 m mh),.int .i64 d,.int .i64 im,.int .i8 (IntKind.i8.wrap (bits .and .u16 v 15))]) (by simp [results,Tryd.results27,go_sem,r0,r1,r2,r3,r4]) rfl ⟨rfl,Q7.b⟩
set_option maxHeartbeats 4000000 in
theorem parts_no (g B o len cap mm k:Nat) (wide:Bool) (rh mh v im sh at_ va dg lo:Int) (W:World)
    (hf:W.heap[g]?=some (.cells #[.bool wide,.int .i8 rh,.int .i8 mh,.int .u16 v,.slice (some ⟨B,o,none⟩) len cap] 56 (0,0)))
    (hl:len ≤ cap) (hc:cap ≤ 9223372036854775807) (hlo:¬ lo=15) (hs6:¬ sh=6)
    (IO:Hid (∀ W,Calls Tryd.prog 51 #[.int .i8 sh] W fun e w'=>e=.returned (.bool false) ∧ W=w'))
    (IM:Hid (∀ W,Calls Tryd.prog 53 #[.int .i8 sh] W fun e w'=>e=.returned (.int .i64 (k:Int)) ∧ W=w'))
    (SG:Hid (∀ w,Below W.heap.size W w → Calls Tryd.prog 58 #[.slice (some ⟨B,o,none⟩) mm cap] w fun e w'=>e=.returned (.int .i64 im) ∧ w=w'))
    (mE:min (len:Int) (k:Int)=(mm:Int)) (hm:mm ≤ len):
    Calls Tryd.prog 27 #[.pointer (some ⟨g,0,none⟩),.agg #[.int .i8 sh,.int .i8 at_,.int .u16 va,.int .i8 dg,.int .u16 lo]] W fun e w'=>e=.returned (.agg #[.int .i8 (bits .or .i8 0 rh),.int .i8 (bits .or .i8 0 mh),.int .i64 0,.int .i64 im,.int .i8 0]) ∧ Below W.heap.size W w':=by
  have L4:=cell_b (row_cell hf 4 _ rfl) (show Below W.heap.size W (((W.alloc (.cells #[.int .i8 sh,.int .i8 at_,.int .u16 va,.int .i8 dg,.int .u16 lo] 61)).alloc (.cells #[.int .i8 0,.int .i8 0,.int .i64 0,.int .i64 0,.int .i8 0] 64)).alloc (.cells #[.int .i8 0,.int .i8 0,.int .i64 0,.int .i64 0,.int .i8 0] 64)) from below_new (below_new (below_new (Below.refl _ _) _) _) _)
  have L3:=cell_b (row_cell hf 3 _ rfl) (show Below W.heap.size W (((W.alloc (.cells #[.int .i8 sh,.int .i8 at_,.int .u16 va,.int .i8 dg,.int .u16 lo] 61)).alloc (.cells #[.int .i8 0,.int .i8 0,.int .i64 0,.int .i64 0,.int .i8 0] 64)).alloc (.cells #[.int .i8 0,.int .i8 0,.int .i64 0,.int .i64 0,.int .i8 0] 64)) from below_new (below_new (below_new (Below.refl _ _) _) _) _)
  have Q3:=Lib.hid (Pp.start hf (Below.refl _ (((W.alloc (.cells #[.int .i8 sh,.int .i8 at_,.int .u16 va,.int .i8 dg,.int .u16 lo] 61)).alloc (.cells #[.int .i8 0,.int .i8 0,.int .i64 0,.int .i64 0,.int .i8 0] 64)).alloc (.cells #[.int .i8 0,.int .i8 0,.int .i64 0,.int .i64 0,.int .i8 0] 64))))
  have hl:(len:Int) ≤ (cap:Int):=by omega
  have hm:(mm:Int) ≤ (len:Int):=by omega
  have hm2:(mm:Int) ≤ (cap:Int):=by omega
  clear hf
  go_enter Tryd.func27,Tryd.ntmps27
  go_wp2_with fail
  refine (IO.out _).mono ?_
  rintro e w1 ⟨rfl,rfl⟩
  go_wp2_with fail
  generalize (((W.alloc (.cells #[.int .i8 sh,.int .i8 at_,.int .u16 va,.int .i8 dg,.int .u16 lo] 61)).alloc (.cells #[.int .i8 0,.int .i8 0,.int .i64 0,.int .i64 0,.int .i8 0] 64)).alloc (.cells #[.int .i8 0,.int .i8 0,.int .i64 0,.int .i64 0,.int .i8 0] 64))=w3 at *
  have x0:=row_cell Q3.out.x 0 _ rfl
  have f1:=row_cell Q3.out.f 1 _ rfl
  go_still_tail 8,(by kernel_rfl)
  clear x0 f1
  go_wp2_with (with_reducible refine (halt_store 24 _ _ rfl ?_))
  refine ⟨?_,trivial⟩
  refine wpList_store_cell rfl 24 _ _ rfl (W.heap.size + 1 + 1) 0 (.int .i8 (bits .or .i8 0 rh)) rfl rfl rfl rfl _ _ Q3.out.drew.x (by kernel_rfl) (Nat.le_of_ble_eq_true rfl) ?_
  intro ws ss
  have Q4:=Lib.hid (Q3.out.drew.st ss)
  clear ss Q3
  go_wp2_with fail
  have x0:=row_cell Q4.out.x 1 _ rfl
  have f1:=row_cell Q4.out.f 2 _ rfl
  go_still_tail 8,(by kernel_rfl)
  clear x0 f1
  go_wp2_with (with_reducible refine (halt_store 24 _ _ rfl ?_))
  refine ⟨?_,trivial⟩
  refine wpList_store_cell rfl 24 _ _ rfl (W.heap.size + 1 + 1) 1 (.int .i8 (bits .or .i8 0 mh)) rfl rfl rfl rfl _ _ Q4.out.drew.x (by kernel_rfl) (Nat.le_of_ble_eq_true rfl) ?_
  intro ws ss
  have Q5:=Lib.hid (Q4.out.drew.st ss)
  clear ss Q4
  have c0:=row_cell Q5.out.c 0 _ rfl
  go_wp2_with fail
  refine (IM.out _).mono ?_
  rintro e w7 ⟨rfl,rfl⟩
  go_wp2_with fail
  refine (SG.out _ Q5.out.b).mono ?_
  rintro e w7 ⟨rfl,rfl⟩
  go_wp2_with (with_reducible refine (halt_store 3 _ _ rfl ?_))
  refine ⟨?_,trivial⟩
  refine wpList_store_cell rfl 3 _ _ rfl (W.heap.size + 1 + 1) 3 (.int .i64 im) rfl rfl rfl rfl _ _ Q5.out.x (by kernel_rfl) (Nat.le_of_ble_eq_true rfl) ?_
  intro ws ss
  have Q6:=Lib.hid (Q5.out.st ss)
  clear ss Q5
  go_wp2_with (with_reducible refine (halt_load 64 _ rfl ?_))
  refine ⟨?_,trivial⟩
  refine wpList_load_row rfl 64 _ rfl _ rfl _ _ _ _ Q6.out.x Tryd.underlying64 rfl (by kernel_rfl) ?_
  go_wp2_with (with_reducible refine (halt_store 64 _ _ rfl ?_))
  refine ⟨?_,trivial⟩
  refine wpList_store_is rfl 64 _ _ rfl (W.heap.size + 1) _ rfl rfl _ _ Q6.out.z (by kernel_rfl) rfl (by kernel_rfl) ?_
  intro ws ss
  have Q7:=Q6.out.stz ss
  clear ss Q6
  go_wp2_with fail
  have r0:=row_cell Q7.z 0 _ rfl
  have r1:=row_cell Q7.z 1 _ rfl
  have r2:=row_cell Q7.z 2 _ rfl
  have r3:=row_cell Q7.z 3 _ rfl
  have r4:=row_cell Q7.z 4 _ rfl
  refine bodyPost_ret (v:=.agg #[.int .i8 (bits .or .i8 0 rh),.int .i8 (bits .or .i8 0 mh),.int .i64 0,.int .i64 im,.int .i8 0]) (by simp [results,Tryd.results27,go_sem,r0,r1,r2,r3,r4]) rfl ⟨rfl,Q7.b⟩
set_option maxHeartbeats 4000000 in
theorem parts_noh (g B o len cap mm k:Nat) (wide:Bool) (rh mh v im sh at_ va dg:Int) (W:World)
    (hf:W.heap[g]?=some (.cells #[.bool wide,.int .i8 rh,.int .i8 mh,.int .u16 v,.slice (some ⟨B,o,none⟩) len cap] 56 (0,0)))
    (hl:len ≤ cap) (hc:cap ≤ 9223372036854775807) (hs6:¬ sh=6)
    (IO:Hid (∀ W,Calls Tryd.prog 51 #[.int .i8 sh] W fun e w'=>e=.returned (.bool false) ∧ W=w'))
    (IM:Hid (∀ W,Calls Tryd.prog 53 #[.int .i8 sh] W fun e w'=>e=.returned (.int .i64 (k:Int)) ∧ W=w'))
    (SG:Hid (∀ w,Below W.heap.size W w → Calls Tryd.prog 58 #[.slice (some ⟨B,o,none⟩) mm cap] w fun e w'=>e=.returned (.int .i64 im) ∧ w=w'))
    (mE:min (len:Int) (k:Int)=(mm:Int)) (hm:mm ≤ len):
    Calls Tryd.prog 27 #[.pointer (some ⟨g,0,none⟩),.agg #[.int .i8 sh,.int .i8 at_,.int .u16 va,.int .i8 dg,.int .u16 15]] W fun e w'=>e=.returned (.agg #[.int .i8 (bits .or .i8 0 rh),.int .i8 (bits .or .i8 0 mh),.int .i64 0,.int .i64 im,.int .i8 (IntKind.i8.wrap (bits .and .u16 v 15))]) ∧ Below W.heap.size W w':=by
  have L4:=cell_b (row_cell hf 4 _ rfl) (show Below W.heap.size W (((W.alloc (.cells #[.int .i8 sh,.int .i8 at_,.int .u16 va,.int .i8 dg,.int .u16 15] 61)).alloc (.cells #[.int .i8 0,.int .i8 0,.int .i64 0,.int .i64 0,.int .i8 0] 64)).alloc (.cells #[.int .i8 0,.int .i8 0,.int .i64 0,.int .i64 0,.int .i8 0] 64)) from below_new (below_new (below_new (Below.refl _ _) _) _) _)
  have L3:=cell_b (row_cell hf 3 _ rfl) (show Below W.heap.size W (((W.alloc (.cells #[.int .i8 sh,.int .i8 at_,.int .u16 va,.int .i8 dg,.int .u16 15] 61)).alloc (.cells #[.int .i8 0,.int .i8 0,.int .i64 0,.int .i64 0,.int .i8 0] 64)).alloc (.cells #[.int .i8 0,.int .i8 0,.int .i64 0,.int .i64 0,.int .i8 0] 64)) from below_new (below_new (below_new (Below.refl _ _) _) _) _)
  have Q3:=Lib.hid (Pp.start hf (Below.refl _ (((W.alloc (.cells #[.int .i8 sh,.int .i8 at_,.int .u16 va,.int .i8 dg,.int .u16 15] 61)).alloc (.cells #[.int .i8 0,.int .i8 0,.int .i64 0,.int .i64 0,.int .i8 0] 64)).alloc (.cells #[.int .i8 0,.int .i8 0,.int .i64 0,.int .i64 0,.int .i8 (IntKind.i8.wrap (bits .and .u16 v 15))] 64))))
  have hl:(len:Int) ≤ (cap:Int):=by omega
  have hm:(mm:Int) ≤ (len:Int):=by omega
  have hm2:(mm:Int) ≤ (cap:Int):=by omega
  clear hf
  go_enter Tryd.func27,Tryd.ntmps27
  go_wp2_with fail
  refine (IO.out _).mono ?_
  rintro e w1 ⟨rfl,rfl⟩
  go_wp2_with fail
  generalize (((W.alloc (.cells #[.int .i8 sh,.int .i8 at_,.int .u16 va,.int .i8 dg,.int .u16 15] 61)).alloc (.cells #[.int .i8 0,.int .i8 0,.int .i64 0,.int .i64 0,.int .i8 0] 64)).alloc (.cells #[.int .i8 0,.int .i8 0,.int .i64 0,.int .i64 0,.int .i8 (IntKind.i8.wrap (bits .and .u16 v 15))] 64))=w3 at *
  have x0:=row_cell Q3.out.x 0 _ rfl
  have f1:=row_cell Q3.out.f 1 _ rfl
  go_still_tail 8,(by kernel_rfl)
  clear x0 f1
  go_wp2_with (with_reducible refine (halt_store 24 _ _ rfl ?_))
  refine ⟨?_,trivial⟩
  refine wpList_store_cell rfl 24 _ _ rfl (W.heap.size + 1 + 1) 0 (.int .i8 (bits .or .i8 0 rh)) rfl rfl rfl rfl _ _ Q3.out.drew.x (by kernel_rfl) (Nat.le_of_ble_eq_true rfl) ?_
  intro ws ss
  have Q4:=Lib.hid (Q3.out.drew.st ss)
  clear ss Q3
  go_wp2_with fail
  have x0:=row_cell Q4.out.x 1 _ rfl
  have f1:=row_cell Q4.out.f 2 _ rfl
  go_still_tail 8,(by kernel_rfl)
  clear x0 f1
  go_wp2_with (with_reducible refine (halt_store 24 _ _ rfl ?_))
  refine ⟨?_,trivial⟩
  refine wpList_store_cell rfl 24 _ _ rfl (W.heap.size + 1 + 1) 1 (.int .i8 (bits .or .i8 0 mh)) rfl rfl rfl rfl _ _ Q4.out.drew.x (by kernel_rfl) (Nat.le_of_ble_eq_true rfl) ?_
  intro ws ss
  have Q5:=Lib.hid (Q4.out.drew.st ss)
  clear ss Q4
  have c0:=row_cell Q5.out.c 0 _ rfl
  go_wp2_with fail
  refine (IM.out _).mono ?_
  rintro e w7 ⟨rfl,rfl⟩
  go_wp2_with fail
  refine (SG.out _ Q5.out.b).mono ?_
  rintro e w7 ⟨rfl,rfl⟩
  go_wp2_with (with_reducible refine (halt_store 3 _ _ rfl ?_))
  refine ⟨?_,trivial⟩
  refine wpList_store_cell rfl 3 _ _ rfl (W.heap.size + 1 + 1) 3 (.int .i64 im) rfl rfl rfl rfl _ _ Q5.out.x (by kernel_rfl) (Nat.le_of_ble_eq_true rfl) ?_
  intro ws ss
  have Q6:=Lib.hid (Q5.out.st ss)
  clear ss Q5
  go_wp2_with (with_reducible refine (halt_load 64 _ rfl ?_))
  refine ⟨?_,trivial⟩
  refine wpList_load_row rfl 64 _ rfl _ rfl _ _ _ _ Q6.out.x Tryd.underlying64 rfl (by kernel_rfl) ?_
  go_wp2_with (with_reducible refine (halt_store 64 _ _ rfl ?_))
  refine ⟨?_,trivial⟩
  refine wpList_store_is rfl 64 _ _ rfl (W.heap.size + 1) _ rfl rfl _ _ Q6.out.z (by kernel_rfl) rfl (by kernel_rfl) ?_
  intro ws ss
  have Q7:=Q6.out.stz ss
  clear ss Q6
  go_wp2_with fail
  have r0:=row_cell Q7.z 0 _ rfl
  have r1:=row_cell Q7.z 1 _ rfl
  have r2:=row_cell Q7.z 2 _ rfl
  have r3:=row_cell Q7.z 3 _ rfl
  have r4:=row_cell Q7.z 4 _ rfl
  refine bodyPost_ret (v:=.agg #[.int .i8 (bits .or .i8 0 rh),.int .i8 (bits .or .i8 0 mh),.int .i64 0,.int .i64 im,.int .i8 (IntKind.i8.wrap (bits .and .u16 v 15))]) (by simp [results,Tryd.results27,go_sem,r0,r1,r2,r3,r4]) rfl ⟨rfl,Q7.b⟩
set_option maxHeartbeats 4000000 in
theorem parts_six (g B o len cap mm k:Nat) (wide:Bool) (rh mh v im at_ va dg lo:Int) (W:World)
    (hf:W.heap[g]?=some (.cells #[.bool wide,.int .i8 rh,.int .i8 mh,.int .u16 v,.slice (some ⟨B,o,none⟩) len cap] 56 (0,0)))
    (hl:len ≤ cap) (hc:cap ≤ 9223372036854775807) (hlo:¬ lo=15)
    (IO:Hid (∀ W,Calls Tryd.prog 51 #[.int .i8 6] W fun e w'=>e=.returned (.bool false) ∧ W=w'))
    (IM:Hid (∀ W,Calls Tryd.prog 53 #[.int .i8 6] W fun e w'=>e=.returned (.int .i64 (k:Int)) ∧ W=w'))
    (SG:Hid (∀ w,Below W.heap.size W w → Calls Tryd.prog 58 #[.slice (some ⟨B,o,none⟩) mm cap] w fun e w'=>e=.returned (.int .i64 im) ∧ w=w'))
    (mE:min (len:Int) (k:Int)=(mm:Int)) (hm:mm ≤ len):
    Calls Tryd.prog 27 #[.pointer (some ⟨g,0,none⟩),.agg #[.int .i8 6,.int .i8 at_,.int .u16 va,.int .i8 dg,.int .u16 lo]] W fun e w'=>e=.returned (.agg #[.int .i8 (bits .or .i8 0 rh),.int .i8 (bits .or .i8 (IntKind.i8.wrap (bits .and .u16 v 7)) mh),.int .i64 0,.int .i64 im,.int .i8 0]) ∧ Below W.heap.size W w':=by
  have L4:=cell_b (row_cell hf 4 _ rfl) (show Below W.heap.size W (((W.alloc (.cells #[.int .i8 6,.int .i8 at_,.int .u16 va,.int .i8 dg,.int .u16 lo] 61)).alloc (.cells #[.int .i8 0,.int .i8 0,.int .i64 0,.int .i64 0,.int .i8 0] 64)).alloc (.cells #[.int .i8 0,.int .i8 0,.int .i64 0,.int .i64 0,.int .i8 0] 64)) from below_new (below_new (below_new (Below.refl _ _) _) _) _)
  have L3:=cell_b (row_cell hf 3 _ rfl) (show Below W.heap.size W (((W.alloc (.cells #[.int .i8 6,.int .i8 at_,.int .u16 va,.int .i8 dg,.int .u16 lo] 61)).alloc (.cells #[.int .i8 0,.int .i8 0,.int .i64 0,.int .i64 0,.int .i8 0] 64)).alloc (.cells #[.int .i8 0,.int .i8 0,.int .i64 0,.int .i64 0,.int .i8 0] 64)) from below_new (below_new (below_new (Below.refl _ _) _) _) _)
  have Q3:=Lib.hid (Pp.start hf (Below.refl _ (((W.alloc (.cells #[.int .i8 6,.int .i8 at_,.int .u16 va,.int .i8 dg,.int .u16 lo] 61)).alloc (.cells #[.int .i8 0,.int .i8 0,.int .i64 0,.int .i64 0,.int .i8 0] 64)).alloc (.cells #[.int .i8 0,.int .i8 (IntKind.i8.wrap (bits .and .u16 v 7)),.int .i64 0,.int .i64 0,.int .i8 0] 64))))
  have hl:(len:Int) ≤ (cap:Int):=by omega
  have hm:(mm:Int) ≤ (len:Int):=by omega
  have hm2:(mm:Int) ≤ (cap:Int):=by omega
  clear hf
  go_enter Tryd.func27,Tryd.ntmps27
  go_wp2_with fail
  refine (IO.out _).mono ?_
  rintro e w1 ⟨rfl,rfl⟩
  go_wp2_with fail
  generalize (((W.alloc (.cells #[.int .i8 6,.int .i8 at_,.int .u16 va,.int .i8 dg,.int .u16 lo] 61)).alloc (.cells #[.int .i8 0,.int .i8 0,.int .i64 0,.int .i64 0,.int .i8 0] 64)).alloc (.cells #[.int .i8 0,.int .i8 (IntKind.i8.wrap (bits .and .u16 v 7)),.int .i64 0,.int .i64 0,.int .i8 0] 64))=w3 at *
  have x0:=row_cell Q3.out.x 0 _ rfl
  have f1:=row_cell Q3.out.f 1 _ rfl
  go_still_tail 8,(by kernel_rfl)
  clear x0 f1
  go_wp2_with (with_reducible refine (halt_store 24 _ _ rfl ?_))
  refine ⟨?_,trivial⟩
  refine wpList_store_cell rfl 24 _ _ rfl (W.heap.size + 1 + 1) 0 (.int .i8 (bits .or .i8 0 rh)) rfl rfl rfl rfl _ _ Q3.out.drew.x (by kernel_rfl) (Nat.le_of_ble_eq_true rfl) ?_
  intro ws ss
  have Q4:=Lib.hid (Q3.out.drew.st ss)
  clear ss Q3
  go_wp2_with fail
  have x0:=row_cell Q4.out.x 1 _ rfl
  have f1:=row_cell Q4.out.f 2 _ rfl
  go_still_tail 8,(by kernel_rfl)
  clear x0 f1
  go_wp2_with (with_reducible refine (halt_store 24 _ _ rfl ?_))
  refine ⟨?_,trivial⟩
  refine wpList_store_cell rfl 24 _ _ rfl (W.heap.size + 1 + 1) 1 (.int .i8 (bits .or .i8 (IntKind.i8.wrap (bits .and .u16 v 7)) mh)) rfl rfl rfl rfl _ _ Q4.out.drew.x (by kernel_rfl) (Nat.le_of_ble_eq_true rfl) ?_
  intro ws ss
  have Q5:=Lib.hid (Q4.out.drew.st ss)
  clear ss Q4
  have c0:=row_cell Q5.out.c 0 _ rfl
  go_wp2_with fail
  refine (IM.out _).mono ?_
  rintro e w7 ⟨rfl,rfl⟩
  go_wp2_with fail
  refine (SG.out _ Q5.out.b).mono ?_
  rintro e w7 ⟨rfl,rfl⟩
  go_wp2_with (with_reducible refine (halt_store 3 _ _ rfl ?_))
  refine ⟨?_,trivial⟩
  refine wpList_store_cell rfl 3 _ _ rfl (W.heap.size + 1 + 1) 3 (.int .i64 im) rfl rfl rfl rfl _ _ Q5.out.x (by kernel_rfl) (Nat.le_of_ble_eq_true rfl) ?_
  intro ws ss
  have Q6:=Lib.hid (Q5.out.st ss)
  clear ss Q5
  go_wp2_with (with_reducible refine (halt_load 64 _ rfl ?_))
  refine ⟨?_,trivial⟩
  refine wpList_load_row rfl 64 _ rfl _ rfl _ _ _ _ Q6.out.x Tryd.underlying64 rfl (by kernel_rfl) ?_
  go_wp2_with (with_reducible refine (halt_store 64 _ _ rfl ?_))
  refine ⟨?_,trivial⟩
  refine wpList_store_is rfl 64 _ _ rfl (W.heap.size + 1) _ rfl rfl _ _ Q6.out.z (by kernel_rfl) rfl (by kernel_rfl) ?_
  intro ws ss
  have Q7:=Q6.out.stz ss
  clear ss Q6
  go_wp2_with fail
  have r0:=row_cell Q7.z 0 _ rfl
  have r1:=row_cell Q7.z 1 _ rfl
  have r2:=row_cell Q7.z 2 _ rfl
  have r3:=row_cell Q7.z 3 _ rfl
  have r4:=row_cell Q7.z 4 _ rfl
  refine bodyPost_ret (v:=.agg #[.int .i8 (bits .or .i8 0 rh),.int .i8 (bits .or .i8 (IntKind.i8.wrap (bits .and .u16 v 7)) mh),.int .i64 0,.int .i64 im,.int .i8 0]) (by simp [results,Tryd.results27,go_sem,r0,r1,r2,r3,r4]) rfl ⟨rfl,Q7.b⟩
end Go.Proofs.YtjhedldplmhmjaaDoor.Mrm
