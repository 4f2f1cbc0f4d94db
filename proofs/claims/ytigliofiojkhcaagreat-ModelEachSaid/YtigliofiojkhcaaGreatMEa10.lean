import Derived.Test.YtigliofiojkhcaaGreatMEx
import Derived.Test.YtigliofiojkhcaaGreatMEa09
set_option linter.unusedVariables false
set_option linter.unusedSimpArgs false
set_option linter.unnecessarySimpa false
namespace Go.Proofs.YtigliofiojkhcaaGreat.Ins
open Go.RowKit
def rmR (x:In)(W:World):Nat→Value→Value→World→Prop
 | 0,v,_,_=>v=.pointer (some ⟨W.heap.size,0,none⟩)
 | 1,v,_,_=>v=.int .i8 x.kind
 | 2,v,_,_=>v=.bool (decide (x.kind<0))
 | 3,v,_,_=>v=.bool (decide (x.kind<0))
 | 4,v,_,_=>decide (x.kind<0)=false→v=.pointer (some ⟨W.heap.size,0,none⟩)
 | 5,v,_,_=>decide (x.kind<0)=false→v=.int .i8 x.kind
 | 6,v,_,_=>decide (x.kind<0)=false→v=.bool (decide (6<x.kind))
 | 7,v,_,_=>v=.bool ((decide (x.kind<0) || decide (6<x.kind)))
 | 8,v,_,_=>v=.bool ((decide (x.kind<0) || decide (6<x.kind)))
 | 9,v,_,_=>(decide (x.kind<0) || decide (6<x.kind))=false→v=.agg x.cells
 | 10,v,_,_=>(decide (x.kind<0) || decide (6<x.kind))=false→v=.agg x.cells
 | 11,v,_,_=>(decide (x.kind<0) || decide (6<x.kind))=false→v=.agg (usedI x).cells
 | 12,v,_,_=>(decide (x.kind<0) || decide (6<x.kind))=false→v=.bool (!eqI x (usedI x))
 | 13,v,_,_=>v=.bool (((decide (x.kind<0) || decide (6<x.kind)) || !eqI x (usedI x)))
 | 14,v,_,_=>v=.bool (((decide (x.kind<0) || decide (6<x.kind)) || !eqI x (usedI x)))
 | 15,v,_,_=>((decide (x.kind<0) || decide (6<x.kind)) || !eqI x (usedI x))=false→v=.pointer (some ⟨W.heap.size,5,none⟩)
 | 16,v,_,_=>((decide (x.kind<0) || decide (6<x.kind)) || !eqI x (usedI x))=false→v=.int .i8 x.dst
 | 17,v,_,_=>((decide (x.kind<0) || decide (6<x.kind)) || !eqI x (usedI x))=false→v=.bool (decide (x.dst<0))
 | 18,v,_,_=>v=.bool ((((decide (x.kind<0) || decide (6<x.kind)) || !eqI x (usedI x)) || decide (x.dst<0)))
 | 19,v,_,_=>v=.bool ((((decide (x.kind<0) || decide (6<x.kind)) || !eqI x (usedI x)) || decide (x.dst<0)))
 | 20,v,_,_=>(((decide (x.kind<0) || decide (6<x.kind)) || !eqI x (usedI x)) || decide (x.dst<0))=false→v=.pointer (some ⟨W.heap.size,5,none⟩)
 | 21,v,_,_=>(((decide (x.kind<0) || decide (6<x.kind)) || !eqI x (usedI x)) || decide (x.dst<0))=false→v=.int .i8 x.dst
 | 22,v,_,_=>(((decide (x.kind<0) || decide (6<x.kind)) || !eqI x (usedI x)) || decide (x.dst<0))=false→v=.bool (decide (10<x.dst))
 | 23,v,_,_=>v=.bool (((((decide (x.kind<0) || decide (6<x.kind)) || !eqI x (usedI x)) || decide (x.dst<0)) || decide (10<x.dst)))
 | 24,v,_,_=>v=.bool (((((decide (x.kind<0) || decide (6<x.kind)) || !eqI x (usedI x)) || decide (x.dst<0)) || decide (10<x.dst)))
 | 25,v,_,_=>((((decide (x.kind<0) || decide (6<x.kind)) || !eqI x (usedI x)) || decide (x.dst<0)) || decide (10<x.dst))=false→v=.pointer (some ⟨W.heap.size,6,none⟩)
 | 26,v,_,_=>((((decide (x.kind<0) || decide (6<x.kind)) || !eqI x (usedI x)) || decide (x.dst<0)) || decide (10<x.dst))=false→v=.int .i8 x.src
 | 27,v,_,_=>((((decide (x.kind<0) || decide (6<x.kind)) || !eqI x (usedI x)) || decide (x.dst<0)) || decide (10<x.dst))=false→v=.bool (decide (x.src<0))
 | 28,v,_,_=>v=.bool ((((((decide (x.kind<0) || decide (6<x.kind)) || !eqI x (usedI x)) || decide (x.dst<0)) || decide (10<x.dst)) || decide (x.src<0)))
 | 29,v,_,_=>v=.bool ((((((decide (x.kind<0) || decide (6<x.kind)) || !eqI x (usedI x)) || decide (x.dst<0)) || decide (10<x.dst)) || decide (x.src<0)))
 | 30,v,_,_=>(((((decide (x.kind<0) || decide (6<x.kind)) || !eqI x (usedI x)) || decide (x.dst<0)) || decide (10<x.dst)) || decide (x.src<0))=false→v=.pointer (some ⟨W.heap.size,6,none⟩)
 | 31,v,_,_=>(((((decide (x.kind<0) || decide (6<x.kind)) || !eqI x (usedI x)) || decide (x.dst<0)) || decide (10<x.dst)) || decide (x.src<0))=false→v=.int .i8 x.src
 | 32,v,_,_=>(((((decide (x.kind<0) || decide (6<x.kind)) || !eqI x (usedI x)) || decide (x.dst<0)) || decide (10<x.dst)) || decide (x.src<0))=false→v=.bool (decide (10<x.src))
 | 33,v,_,_=>v=.bool (((((((decide (x.kind<0) || decide (6<x.kind)) || !eqI x (usedI x)) || decide (x.dst<0)) || decide (10<x.dst)) || decide (x.src<0)) || decide (10<x.src)))
 | 34,v,_,_=>v=.bool (((((((decide (x.kind<0) || decide (6<x.kind)) || !eqI x (usedI x)) || decide (x.dst<0)) || decide (10<x.dst)) || decide (x.src<0)) || decide (10<x.src)))
 | 35,v,_,_=>((((((decide (x.kind<0) || decide (6<x.kind)) || !eqI x (usedI x)) || decide (x.dst<0)) || decide (10<x.dst)) || decide (x.src<0)) || decide (10<x.src))=false→v=.pointer (some ⟨W.heap.size,7,none⟩)
 | 36,v,_,_=>((((((decide (x.kind<0) || decide (6<x.kind)) || !eqI x (usedI x)) || decide (x.dst<0)) || decide (10<x.dst)) || decide (x.src<0)) || decide (10<x.src))=false→v=.int .i64 x.off
 | 37,v,_,_=>((((((decide (x.kind<0) || decide (6<x.kind)) || !eqI x (usedI x)) || decide (x.dst<0)) || decide (10<x.dst)) || decide (x.src<0)) || decide (10<x.src))=false→v=.bool (decide (x.off < -32768))
 | 38,v,_,_=>v=.bool ((((((((decide (x.kind<0) || decide (6<x.kind)) || !eqI x (usedI x)) || decide (x.dst<0)) || decide (10<x.dst)) || decide (x.src<0)) || decide (10<x.src)) || decide (x.off < -32768)))
 | 39,v,_,_=>v=.bool ((((((((decide (x.kind<0) || decide (6<x.kind)) || !eqI x (usedI x)) || decide (x.dst<0)) || decide (10<x.dst)) || decide (x.src<0)) || decide (10<x.src)) || decide (x.off < -32768)))
 | 40,v,_,_=>(((((((decide (x.kind<0) || decide (6<x.kind)) || !eqI x (usedI x)) || decide (x.dst<0)) || decide (10<x.dst)) || decide (x.src<0)) || decide (10<x.src)) || decide (x.off < -32768))=false→v=.pointer (some ⟨W.heap.size,7,none⟩)
 | 41,v,_,_=>(((((((decide (x.kind<0) || decide (6<x.kind)) || !eqI x (usedI x)) || decide (x.dst<0)) || decide (10<x.dst)) || decide (x.src<0)) || decide (10<x.src)) || decide (x.off < -32768))=false→v=.int .i64 x.off
 | 42,v,_,_=>(((((((decide (x.kind<0) || decide (6<x.kind)) || !eqI x (usedI x)) || decide (x.dst<0)) || decide (10<x.dst)) || decide (x.src<0)) || decide (10<x.src)) || decide (x.off < -32768))=false→v=.bool (decide (32768≤x.off))
 | 43,v,_,_=>v=.bool (((((((((decide (x.kind<0) || decide (6<x.kind)) || !eqI x (usedI x)) || decide (x.dst<0)) || decide (10<x.dst)) || decide (x.src<0)) || decide (10<x.src)) || decide (x.off < -32768)) || decide (32768≤x.off)))
 | 44,v,_,_=>v=.bool (((((((((decide (x.kind<0) || decide (6<x.kind)) || !eqI x (usedI x)) || decide (x.dst<0)) || decide (10<x.dst)) || decide (x.src<0)) || decide (10<x.src)) || decide (x.off < -32768)) || decide (32768≤x.off)))
 | 45,v,_,_=>((((((((decide (x.kind<0) || decide (6<x.kind)) || !eqI x (usedI x)) || decide (x.dst<0)) || decide (10<x.dst)) || decide (x.src<0)) || decide (10<x.src)) || decide (x.off < -32768)) || decide (32768≤x.off))=false→v=.pointer (some ⟨W.heap.size,8,none⟩)
 | 46,v,_,_=>((((((((decide (x.kind<0) || decide (6<x.kind)) || !eqI x (usedI x)) || decide (x.dst<0)) || decide (10<x.dst)) || decide (x.src<0)) || decide (10<x.src)) || decide (x.off < -32768)) || decide (32768≤x.off))=false→v=.int .i64 x.imm
 | 47,v,_,_=>((((((((decide (x.kind<0) || decide (6<x.kind)) || !eqI x (usedI x)) || decide (x.dst<0)) || decide (10<x.dst)) || decide (x.src<0)) || decide (10<x.src)) || decide (x.off < -32768)) || decide (32768≤x.off))=false→v=.bool (decide (x.imm < -2147483648))
 | 48,v,_,_=>v=.bool ((((((((((decide (x.kind<0) || decide (6<x.kind)) || !eqI x (usedI x)) || decide (x.dst<0)) || decide (10<x.dst)) || decide (x.src<0)) || decide (10<x.src)) || decide (x.off < -32768)) || decide (32768≤x.off)) || decide (x.imm < -2147483648)))
 | 49,v,_,_=>v=.bool ((((((((((decide (x.kind<0) || decide (6<x.kind)) || !eqI x (usedI x)) || decide (x.dst<0)) || decide (10<x.dst)) || decide (x.src<0)) || decide (10<x.src)) || decide (x.off < -32768)) || decide (32768≤x.off)) || decide (x.imm < -2147483648)))
 | 50,v,_,_=>(((((((((decide (x.kind<0) || decide (6<x.kind)) || !eqI x (usedI x)) || decide (x.dst<0)) || decide (10<x.dst)) || decide (x.src<0)) || decide (10<x.src)) || decide (x.off < -32768)) || decide (32768≤x.off)) || decide (x.imm < -2147483648))=false→v=.pointer (some ⟨W.heap.size,8,none⟩)
 | 51,v,_,_=>(((((((((decide (x.kind<0) || decide (6<x.kind)) || !eqI x (usedI x)) || decide (x.dst<0)) || decide (10<x.dst)) || decide (x.src<0)) || decide (10<x.src)) || decide (x.off < -32768)) || decide (32768≤x.off)) || decide (x.imm < -2147483648))=false→v=.int .i64 x.imm
 | 52,v,_,_=>(((((((((decide (x.kind<0) || decide (6<x.kind)) || !eqI x (usedI x)) || decide (x.dst<0)) || decide (10<x.dst)) || decide (x.src<0)) || decide (10<x.src)) || decide (x.off < -32768)) || decide (32768≤x.off)) || decide (x.imm < -2147483648))=false→v=.bool (decide (2147483648≤x.imm))
 | 53,v,_,_=>v=.bool (((((((((((decide (x.kind<0) || decide (6<x.kind)) || !eqI x (usedI x)) || decide (x.dst<0)) || decide (10<x.dst)) || decide (x.src<0)) || decide (10<x.src)) || decide (x.off < -32768)) || decide (32768≤x.off)) || decide (x.imm < -2147483648)) || decide (2147483648≤x.imm)))
 | _,_,_,_=>True
theorem rmR_any {x:In}{W:World}{w w':World}{j:Nat}{a b:Value}(h:rmR x W j a b w):rmR x W j a b w':=by
 unfold rmR at *
 split at h <;> first | exact h | trivial
theorem nine_of {x:In}{w:World}{b:Nat}{t:TypeId}(h:w.heap[b]?=some (.cells x.cells t (0,0))):
  w.cell? ⟨b,0,none⟩=some (.int .i8 x.kind)∧w.cell? ⟨b,1,none⟩=some (.int .i8 x.op)∧w.cell? ⟨b,2,none⟩=some (.int .i8 x.width)∧w.cell? ⟨b,3,none⟩=some (.int .i8 x.size)∧w.cell? ⟨b,4,none⟩=some (.bool x.byReg)∧w.cell? ⟨b,5,none⟩=some (.int .i8 x.dst)∧w.cell? ⟨b,6,none⟩=some (.int .i8 x.src)∧w.cell? ⟨b,7,none⟩=some (.int .i64 x.off)∧w.cell? ⟨b,8,none⟩=some (.int .i64 x.imm):=by
 simp only [World.cell?,h]
 exact ⟨rfl,rfl,rfl,rfl,rfl,rfl,rfl,rfl,rfl⟩
def badI (x:In):Bool:=((((((((((decide (x.kind<0) || decide (6<x.kind)) || !eqI x (usedI x)) || decide (x.dst<0)) || decide (10<x.dst)) || decide (x.src<0)) || decide (10<x.src)) || decide (x.off < -32768)) || decide (32768≤x.off)) || decide (x.imm < -2147483648)) || decide (2147483648≤x.imm))
theorem r_sized_t (n:Int)(W:World)(h:n=1∨n=2∨n=4∨n=8):Calls Tryz.prog 75 #[.int .i8 n] W fun e w'=>e=.returned (.bool true)∧W=w':=by
 have:=r_sized n W;rw [show sizedI n=true from decide_eq_true h] at this;exact this
theorem r_sized_f (n:Int)(W:World)(h:¬ (n=1∨n=2∨n=4∨n=8)):Calls Tryz.prog 75 #[.int .i8 n] W fun e w'=>e=.returned (.bool false)∧W=w':=by
 have:=r_sized n W;rw [show sizedI n=false from decide_eq_false h] at this;exact this
theorem bad_no {x:In}(h:badI x=true):mayI x=false:=by
 unfold badI at h
 simp only [Bool.or_eq_true,decide_eq_true_iff,Bool.not_eq_true'] at h
 unfold mayI fitsI rangeI kindI
 cases he:eqI x (usedI x)
 ·rfl
 ·rw [Bool.true_and,Bool.and_eq_false_iff,decide_eq_false_iff_not,decide_eq_false_iff_not]
  rw [he] at h
  simp only [Bool.true_eq_false,or_false] at h
  omega
theorem bad_yes {x:In}(h:badI x=false):mayI x=kindI x∧(0≤x.kind∧x.kind≤6)∧(0≤x.dst∧x.dst≤10):=by
 unfold badI at h
 simp only [Bool.or_eq_false_iff,decide_eq_false_iff_not,Bool.not_eq_false'] at h
 have hr:rangeI x=true:=decide_eq_true (by omega)
 have he:eqI x (usedI x)=true:=by simp_all
 unfold mayI fitsI
 rw [hr,he]
 refine ⟨rfl,by omega,by omega⟩
set_option maxRecDepth 100000 in
set_option maxHeartbeats 8000000 in
theorem r_may (x:In)(W:World):Calls Tryz.prog 41 #[.agg x.cells] W fun e w'=>e=.returned (.bool (mayI x))∧Below W.heap.size W w':=by
 have hcx:∀ t,(W.alloc (.cells x.cells t)).heap[W.heap.size]?=some (.cells x.cells t (0,0)):=fun t=>heap_last W _ _ rfl
 have HCX:=Lib.hid hcx;clear hcx
 generalize hm:mayI x=m
 have HM:=Lib.hid hm;clear hm
 generalize hcc:x.cells=cc
 go_enter Tryz.func41,Tryz.ntmps41
 go_wp2_with fail
 subst hcc
 refine wp_region_inv (fun _=>100000) (fun w=>Below W.heap.size W w∧w.heap[W.heap.size]?=some (.cells x.cells 52 (0,0))) (rmR x W) (by kernel_rfl) (back_of (by kernel_rfl)) (dst_of (by kernel_rfl)) (dep_of (by kernel_rfl)) (in_of (by kernel_rfl)) ⟨Below.drew (below_new (Below.refl _ _) _),HCX.out _⟩ ?hop ?hq
 case hop=>
  intro i o a w ho hS hdf hsz hrest hdone
  have t1:a.tmps.getD 1 undef=.pointer (some ⟨W.heap.size,0,none⟩):=hrest 1 (not_of (by kernel_rfl))
  have hs:a.tmps.size=119:=hsz.trans rfl
  have hi:i<54:=(Array.getElem?_eq_some_iff.1 ho).1
  clear hrest hsz hdf
  obtain rfl | rfl | rfl | rfl | rfl | rfl | rfl | rfl | rfl | rfl | rfl | rfl | rfl | rfl | rfl | rfl | rfl | rfl | rfl | rfl | rfl | rfl | rfl | rfl | rfl | rfl | rfl | rfl | rfl | rfl | rfl | rfl | rfl | rfl | rfl | rfl | rfl | rfl | rfl | rfl | rfl | rfl | rfl | rfl | rfl | rfl | rfl | rfl | rfl | rfl | rfl | rfl | rfl | rfl:i=0∨i=1∨i=2∨i=3∨i=4∨i=5∨i=6∨i=7∨i=8∨i=9∨i=10∨i=11∨i=12∨i=13∨i=14∨i=15∨i=16∨i=17∨i=18∨i=19∨i=20∨i=21∨i=22∨i=23∨i=24∨i=25∨i=26∨i=27∨i=28∨i=29∨i=30∨i=31∨i=32∨i=33∨i=34∨i=35∨i=36∨i=37∨i=38∨i=39∨i=40∨i=41∨i=42∨i=43∨i=44∨i=45∨i=46∨i=47∨i=48∨i=49∨i=50∨i=51∨i=52∨i=53:=by omega
  ·obtain rfl:=Option.some.inj (show some _=some o from ho)
   refine wpOp_val (v:=.pointer (some ⟨W.heap.size,0,none⟩)) (w':=w) rfl rfl ?_ ⟨_,rfl,?_,hS,fun _ _ _ h=>rmR_any h⟩
   ·simp [execOp,Act.eval,t1,go_sem]
   ·rw [own_put rfl (by rw [hs];omega)];exact rfl
  ·obtain rfl:=Option.some.inj (show some _=some o from ho)
   have s3:a.tmps.getD 3 undef=.pointer (some ⟨W.heap.size,0,none⟩):=hdone _ (Array.mem_of_getElem? (i:=0) rfl) rfl _ rfl
   have hc:w.cell? ⟨W.heap.size,0,none⟩=some (.int .i8 x.kind):=by simp only [World.cell?,hS.2];rfl
   refine wpOp_val (v:=.int .i8 x.kind) (w':=w) rfl rfl ?_ ⟨_,rfl,?_,hS,fun _ _ _ h=>rmR_any h⟩
   ·simp [execOp,Act.eval,s3,hc,go_sem]
   ·rw [own_put rfl (by rw [hs];omega)];exact rfl
  ·obtain rfl:=Option.some.inj (show some _=some o from ho)
   have s4:a.tmps.getD 4 undef=.int .i8 x.kind:=hdone _ (Array.mem_of_getElem? (i:=0) rfl) rfl _ rfl
   refine wpOp_val (v:=.bool (decide (x.kind<0))) (w':=w) rfl rfl ?_ ⟨_,rfl,?_,hS,fun _ _ _ h=>rmR_any h⟩
   ·simp [execOp,Act.eval,s4,go_sem]
   ·rw [own_put rfl (by rw [hs];omega)];exact rfl
  ·obtain rfl:=Option.some.inj (show some _=some o from ho)
   have s5:a.tmps.getD 5 undef=.bool (decide (x.kind<0)):=hdone _ (Array.mem_of_getElem? (i:=0) rfl) rfl _ rfl
   refine wpOp_val (v:=.bool (decide (x.kind<0))) (w':=w) rfl rfl ?_ ⟨_,rfl,?_,hS,fun _ _ _ h=>rmR_any h⟩
   ·simp [execOp,Act.eval,s5]
   ·rw [own_put rfl (by rw [hs];omega)];exact rfl
  ·obtain rfl:=Option.some.inj (show some _=some o from ho)
   have hg:a.tmps.getD 6 undef=.bool (decide (x.kind<0)):=hdone _ (Array.mem_of_getElem? (i:=0) rfl) rfl _ rfl
   by_cases hb:(decide (x.kind<0))=false
   case neg=>exact wpOp_no rfl (wanted_no 3 6 (decide (x.kind<0)) hg (by rw [hs];omega) rfl rfl rfl (by simpa using hb)) ⟨_,rfl,fun h=>absurd h hb,hS,fun _ _ _ h=>rmR_any h⟩
   refine wpOp_valw (v:=.pointer (some ⟨W.heap.size,0,none⟩)) (w':=w) rfl (wanted_yes 3 6 (decide (x.kind<0)) hg (by rw [hs];omega) rfl rfl rfl (by simpa using hb)) ?_ ⟨_,rfl,?_,hS,fun _ _ _ h=>rmR_any h⟩
   ·simp [execOp,Act.eval,t1,go_sem]
   ·rw [own_put rfl (by rw [hs];omega)];exact fun _=>rfl
  ·obtain rfl:=Option.some.inj (show some _=some o from ho)
   have s7:decide (x.kind<0)=false→a.tmps.getD 7 undef=.pointer (some ⟨W.heap.size,0,none⟩):=hdone _ (Array.mem_of_getElem? (i:=0) rfl) rfl _ rfl
   have hg:a.tmps.getD 6 undef=.bool (decide (x.kind<0)):=hdone _ (Array.mem_of_getElem? (i:=1) rfl) rfl _ rfl
   by_cases hb:(decide (x.kind<0))=false
   case neg=>exact wpOp_no rfl (wanted_no 3 6 (decide (x.kind<0)) hg (by rw [hs];omega) rfl rfl rfl (by simpa using hb)) ⟨_,rfl,fun h=>absurd h hb,hS,fun _ _ _ h=>rmR_any h⟩
   have hc:w.cell? ⟨W.heap.size,0,none⟩=some (.int .i8 x.kind):=by simp only [World.cell?,hS.2];rfl
   refine wpOp_valw (v:=.int .i8 x.kind) (w':=w) rfl (wanted_yes 3 6 (decide (x.kind<0)) hg (by rw [hs];omega) rfl rfl rfl (by simpa using hb)) ?_ ⟨_,rfl,?_,hS,fun _ _ _ h=>rmR_any h⟩
   ·simp [execOp,Act.eval,s7 hb,hc,go_sem]
   ·rw [own_put rfl (by rw [hs];omega)];exact fun _=>rfl
  ·obtain rfl:=Option.some.inj (show some _=some o from ho)
   have s8:decide (x.kind<0)=false→a.tmps.getD 8 undef=.int .i8 x.kind:=hdone _ (Array.mem_of_getElem? (i:=0) rfl) rfl _ rfl
   have hg:a.tmps.getD 6 undef=.bool (decide (x.kind<0)):=hdone _ (Array.mem_of_getElem? (i:=1) rfl) rfl _ rfl
   by_cases hb:(decide (x.kind<0))=false
   case neg=>exact wpOp_no rfl (wanted_no 3 6 (decide (x.kind<0)) hg (by rw [hs];omega) rfl rfl rfl (by simpa using hb)) ⟨_,rfl,fun h=>absurd h hb,hS,fun _ _ _ h=>rmR_any h⟩
   refine wpOp_valw (v:=.bool (decide (6<x.kind))) (w':=w) rfl (wanted_yes 3 6 (decide (x.kind<0)) hg (by rw [hs];omega) rfl rfl rfl (by simpa using hb)) ?_ ⟨_,rfl,?_,hS,fun _ _ _ h=>rmR_any h⟩
   ·simp [execOp,Act.eval,s8 hb,go_sem]
   ·rw [own_put rfl (by rw [hs];omega)];exact fun _=>rfl
  ·obtain rfl:=Option.some.inj (show some _=some o from ho)
   have s6:a.tmps.getD 6 undef=.bool (decide (x.kind<0)):=hdone _ (Array.mem_of_getElem? (i:=0) rfl) rfl _ rfl
   have s9:decide (x.kind<0)=false→a.tmps.getD 9 undef=.bool (decide (6<x.kind)):=hdone _ (Array.mem_of_getElem? (i:=1) rfl) rfl _ rfl
   refine wpOp_val (v:=.bool ((decide (x.kind<0) || decide (6<x.kind)))) (w':=w) rfl rfl ?_ ⟨_,rfl,?_,hS,fun _ _ _ h=>rmR_any h⟩
   ·(cases hb:decide (x.kind<0)) <;> first | (simp only [hb] at s6 s9;simp [execOp,Act.eval,s6,s9,go_sem];done) | (simp only [hb] at s6;simp [execOp,Act.eval,s6,go_sem];done)
   ·rw [own_put rfl (by rw [hs];omega)];exact rfl
  ·obtain rfl:=Option.some.inj (show some _=some o from ho)
   have s10:a.tmps.getD 10 undef=.bool ((decide (x.kind<0) || decide (6<x.kind))):=hdone _ (Array.mem_of_getElem? (i:=0) rfl) rfl _ rfl
   refine wpOp_val (v:=.bool ((decide (x.kind<0) || decide (6<x.kind)))) (w':=w) rfl rfl ?_ ⟨_,rfl,?_,hS,fun _ _ _ h=>rmR_any h⟩
   ·simp [execOp,Act.eval,s10]
   ·rw [own_put rfl (by rw [hs];omega)];exact rfl
  ·obtain rfl:=Option.some.inj (show some _=some o from ho)
   have hg:a.tmps.getD 11 undef=.bool ((decide (x.kind<0) || decide (6<x.kind))):=hdone _ (Array.mem_of_getElem? (i:=0) rfl) rfl _ rfl
   by_cases hb:((decide (x.kind<0) || decide (6<x.kind)))=false
   case neg=>exact wpOp_no rfl (wanted_no 8 11 ((decide (x.kind<0) || decide (6<x.kind))) hg (by rw [hs];omega) rfl rfl rfl (by simpa using hb)) ⟨_,rfl,fun h=>absurd h hb,hS,fun _ _ _ h=>rmR_any h⟩
   refine wpOp_valw (v:=.agg x.cells) (w':=w) rfl (wanted_yes 8 11 ((decide (x.kind<0) || decide (6<x.kind))) hg (by rw [hs];omega) rfl rfl rfl (by simpa using hb)) ?_ ⟨_,rfl,?_,hS,fun _ _ _ h=>rmR_any h⟩
   ·simp [execOp,Act.eval,t1,Instr.loadAt,Instr.sureAddr,load_boxed x hS.2,Result.andThen_ok]
   ·rw [own_put rfl (by rw [hs];omega)];exact fun _=>rfl
  ·obtain rfl:=Option.some.inj (show some _=some o from ho)
   have hg:a.tmps.getD 11 undef=.bool ((decide (x.kind<0) || decide (6<x.kind))):=hdone _ (Array.mem_of_getElem? (i:=0) rfl) rfl _ rfl
   by_cases hb:((decide (x.kind<0) || decide (6<x.kind)))=false
   case neg=>exact wpOp_no rfl (wanted_no 8 11 ((decide (x.kind<0) || decide (6<x.kind))) hg (by rw [hs];omega) rfl rfl rfl (by simpa using hb)) ⟨_,rfl,fun h=>absurd h hb,hS,fun _ _ _ h=>rmR_any h⟩
   refine wpOp_valw (v:=.agg x.cells) (w':=w) rfl (wanted_yes 8 11 ((decide (x.kind<0) || decide (6<x.kind))) hg (by rw [hs];omega) rfl rfl rfl (by simpa using hb)) ?_ ⟨_,rfl,?_,hS,fun _ _ _ h=>rmR_any h⟩
   ·simp [execOp,Act.eval,t1,Instr.loadAt,Instr.sureAddr,load_boxed x hS.2,Result.andThen_ok]
   ·rw [own_put rfl (by rw [hs];omega)];exact fun _=>rfl
  ·obtain rfl:=Option.some.inj (show some _=some o from ho)
   have s13:(decide (x.kind<0) || decide (6<x.kind))=false→a.tmps.getD 13 undef=.agg x.cells:=hdone _ (Array.mem_of_getElem? (i:=0) rfl) rfl _ rfl
   have hg:a.tmps.getD 11 undef=.bool ((decide (x.kind<0) || decide (6<x.kind))):=hdone _ (Array.mem_of_getElem? (i:=2) rfl) rfl _ rfl
   by_cases hb:((decide (x.kind<0) || decide (6<x.kind)))=false
   case neg=>exact wpOp_no rfl (wanted_no 8 11 ((decide (x.kind<0) || decide (6<x.kind))) hg (by rw [hs];omega) rfl rfl rfl (by simpa using hb)) ⟨_,rfl,fun h=>absurd h hb,hS,fun _ _ _ h=>rmR_any h⟩
   refine wpOp_callw (f:=74) (args:=#[.agg x.cells]) rfl (wanted_yes 8 11 ((decide (x.kind<0) || decide (6<x.kind))) hg (by rw [hs];omega) rfl rfl rfl (by simpa using hb)) ?_ ?_
   ·simp [go_sem,execOp,Act.eval,Deferred.ofValue,callFunc,Tryz.func74,Tryz.f74,s13 hb,resolve,invoke]
   ·refine (r_fields x _).mono ?_
    rintro e w' ⟨rfl,b9⟩
    refine ⟨_,rfl,_,rfl,?_,box_keep hS b9,fun _ _ _ h=>rmR_any h⟩
    rw [own_put rfl (by rw [hs];omega)];exact fun _=>rfl
  ·obtain rfl:=Option.some.inj (show some _=some o from ho)
   have s12:(decide (x.kind<0) || decide (6<x.kind))=false→a.tmps.getD 12 undef=.agg x.cells:=hdone _ (Array.mem_of_getElem? (i:=0) rfl) rfl _ rfl
   have s14:(decide (x.kind<0) || decide (6<x.kind))=false→a.tmps.getD 14 undef=.agg (usedI x).cells:=hdone _ (Array.mem_of_getElem? (i:=1) rfl) rfl _ rfl
   have hg:a.tmps.getD 11 undef=.bool ((decide (x.kind<0) || decide (6<x.kind))):=hdone _ (Array.mem_of_getElem? (i:=2) rfl) rfl _ rfl
   by_cases hb:((decide (x.kind<0) || decide (6<x.kind)))=false
   case neg=>exact wpOp_no rfl (wanted_no 8 11 ((decide (x.kind<0) || decide (6<x.kind))) hg (by rw [hs];omega) rfl rfl rfl (by simpa using hb)) ⟨_,rfl,fun h=>absurd h hb,hS,fun _ _ _ h=>rmR_any h⟩
   refine wpOp_valw (v:=.bool (!eqI x (usedI x))) (w':=w) rfl (wanted_yes 8 11 ((decide (x.kind<0) || decide (6<x.kind))) hg (by rw [hs];omega) rfl rfl rfl (by simpa using hb)) ?_ ⟨_,rfl,?_,hS,fun _ _ _ h=>rmR_any h⟩
   ·exact exec_neq rfl (s12 hb) (s14 hb) (by kernel_rfl) (eq_run x (usedI x) w)
   ·rw [own_put rfl (by rw [hs];omega)];exact fun _=>rfl
  ·obtain rfl:=Option.some.inj (show some _=some o from ho)
   have s11:a.tmps.getD 11 undef=.bool ((decide (x.kind<0) || decide (6<x.kind))):=hdone _ (Array.mem_of_getElem? (i:=0) rfl) rfl _ rfl
   have s15:(decide (x.kind<0) || decide (6<x.kind))=false→a.tmps.getD 15 undef=.bool (!eqI x (usedI x)):=hdone _ (Array.mem_of_getElem? (i:=1) rfl) rfl _ rfl
   refine wpOp_val (v:=.bool (((decide (x.kind<0) || decide (6<x.kind)) || !eqI x (usedI x)))) (w':=w) rfl rfl ?_ ⟨_,rfl,?_,hS,fun _ _ _ h=>rmR_any h⟩
   ·(cases hb:(decide (x.kind<0) || decide (6<x.kind))) <;> first | (simp only [hb] at s11 s15;simp [execOp,Act.eval,s11,s15,go_sem];done) | (simp only [hb] at s11;simp [execOp,Act.eval,s11,go_sem];done)
   ·rw [own_put rfl (by rw [hs];omega)];exact rfl
  ·obtain rfl:=Option.some.inj (show some _=some o from ho)
   have s16:a.tmps.getD 16 undef=.bool (((decide (x.kind<0) || decide (6<x.kind)) || !eqI x (usedI x))):=hdone _ (Array.mem_of_getElem? (i:=0) rfl) rfl _ rfl
   refine wpOp_val (v:=.bool (((decide (x.kind<0) || decide (6<x.kind)) || !eqI x (usedI x)))) (w':=w) rfl rfl ?_ ⟨_,rfl,?_,hS,fun _ _ _ h=>rmR_any h⟩
   ·simp [execOp,Act.eval,s16]
   ·rw [own_put rfl (by rw [hs];omega)];exact rfl
  ·obtain rfl:=Option.some.inj (show some _=some o from ho)
   have hg:a.tmps.getD 17 undef=.bool (((decide (x.kind<0) || decide (6<x.kind)) || !eqI x (usedI x))):=hdone _ (Array.mem_of_getElem? (i:=0) rfl) rfl _ rfl
   by_cases hb:(((decide (x.kind<0) || decide (6<x.kind)) || !eqI x (usedI x)))=false
   case neg=>exact wpOp_no rfl (wanted_no 14 17 (((decide (x.kind<0) || decide (6<x.kind)) || !eqI x (usedI x))) hg (by rw [hs];omega) rfl rfl rfl (by simpa using hb)) ⟨_,rfl,fun h=>absurd h hb,hS,fun _ _ _ h=>rmR_any h⟩
   refine wpOp_valw (v:=.pointer (some ⟨W.heap.size,5,none⟩)) (w':=w) rfl (wanted_yes 14 17 (((decide (x.kind<0) || decide (6<x.kind)) || !eqI x (usedI x))) hg (by rw [hs];omega) rfl rfl rfl (by simpa using hb)) ?_ ⟨_,rfl,?_,hS,fun _ _ _ h=>rmR_any h⟩
   ·simp [execOp,Act.eval,t1,go_sem]
   ·rw [own_put rfl (by rw [hs];omega)];exact fun _=>rfl
  ·obtain rfl:=Option.some.inj (show some _=some o from ho)
   have s18:((decide (x.kind<0) || decide (6<x.kind)) || !eqI x (usedI x))=false→a.tmps.getD 18 undef=.pointer (some ⟨W.heap.size,5,none⟩):=hdone _ (Array.mem_of_getElem? (i:=0) rfl) rfl _ rfl
   have hg:a.tmps.getD 17 undef=.bool (((decide (x.kind<0) || decide (6<x.kind)) || !eqI x (usedI x))):=hdone _ (Array.mem_of_getElem? (i:=1) rfl) rfl _ rfl
   by_cases hb:(((decide (x.kind<0) || decide (6<x.kind)) || !eqI x (usedI x)))=false
   case neg=>exact wpOp_no rfl (wanted_no 14 17 (((decide (x.kind<0) || decide (6<x.kind)) || !eqI x (usedI x))) hg (by rw [hs];omega) rfl rfl rfl (by simpa using hb)) ⟨_,rfl,fun h=>absurd h hb,hS,fun _ _ _ h=>rmR_any h⟩
   have hc:w.cell? ⟨W.heap.size,5,none⟩=some (.int .i8 x.dst):=by simp only [World.cell?,hS.2];rfl
   refine wpOp_valw (v:=.int .i8 x.dst) (w':=w) rfl (wanted_yes 14 17 (((decide (x.kind<0) || decide (6<x.kind)) || !eqI x (usedI x))) hg (by rw [hs];omega) rfl rfl rfl (by simpa using hb)) ?_ ⟨_,rfl,?_,hS,fun _ _ _ h=>rmR_any h⟩
   ·simp [execOp,Act.eval,s18 hb,hc,go_sem]
   ·rw [own_put rfl (by rw [hs];omega)];exact fun _=>rfl
  ·obtain rfl:=Option.some.inj (show some _=some o from ho)
   have s19:((decide (x.kind<0) || decide (6<x.kind)) || !eqI x (usedI x))=false→a.tmps.getD 19 undef=.int .i8 x.dst:=hdone _ (Array.mem_of_getElem? (i:=0) rfl) rfl _ rfl
   have hg:a.tmps.getD 17 undef=.bool (((decide (x.kind<0) || decide (6<x.kind)) || !eqI x (usedI x))):=hdone _ (Array.mem_of_getElem? (i:=1) rfl) rfl _ rfl
   by_cases hb:(((decide (x.kind<0) || decide (6<x.kind)) || !eqI x (usedI x)))=false
   case neg=>exact wpOp_no rfl (wanted_no 14 17 (((decide (x.kind<0) || decide (6<x.kind)) || !eqI x (usedI x))) hg (by rw [hs];omega) rfl rfl rfl (by simpa using hb)) ⟨_,rfl,fun h=>absurd h hb,hS,fun _ _ _ h=>rmR_any h⟩
   refine wpOp_valw (v:=.bool (decide (x.dst<0))) (w':=w) rfl (wanted_yes 14 17 (((decide (x.kind<0) || decide (6<x.kind)) || !eqI x (usedI x))) hg (by rw [hs];omega) rfl rfl rfl (by simpa using hb)) ?_ ⟨_,rfl,?_,hS,fun _ _ _ h=>rmR_any h⟩
   ·simp [execOp,Act.eval,s19 hb,go_sem]
   ·rw [own_put rfl (by rw [hs];omega)];exact fun _=>rfl
  ·obtain rfl:=Option.some.inj (show some _=some o from ho)
   have s17:a.tmps.getD 17 undef=.bool (((decide (x.kind<0) || decide (6<x.kind)) || !eqI x (usedI x))):=hdone _ (Array.mem_of_getElem? (i:=0) rfl) rfl _ rfl
   have s20:((decide (x.kind<0) || decide (6<x.kind)) || !eqI x (usedI x))=false→a.tmps.getD 20 undef=.bool (decide (x.dst<0)):=hdone _ (Array.mem_of_getElem? (i:=1) rfl) rfl _ rfl
   refine wpOp_val (v:=.bool ((((decide (x.kind<0) || decide (6<x.kind)) || !eqI x (usedI x)) || decide (x.dst<0)))) (w':=w) rfl rfl ?_ ⟨_,rfl,?_,hS,fun _ _ _ h=>rmR_any h⟩
   ·(cases hb:((decide (x.kind<0) || decide (6<x.kind)) || !eqI x (usedI x))) <;> first | (simp only [hb] at s17 s20;simp [execOp,Act.eval,s17,s20,go_sem];done) | (simp only [hb] at s17;simp [execOp,Act.eval,s17,go_sem];done)
   ·rw [own_put rfl (by rw [hs];omega)];exact rfl
  ·obtain rfl:=Option.some.inj (show some _=some o from ho)
   have s21:a.tmps.getD 21 undef=.bool ((((decide (x.kind<0) || decide (6<x.kind)) || !eqI x (usedI x)) || decide (x.dst<0))):=hdone _ (Array.mem_of_getElem? (i:=0) rfl) rfl _ rfl
   refine wpOp_val (v:=.bool ((((decide (x.kind<0) || decide (6<x.kind)) || !eqI x (usedI x)) || decide (x.dst<0)))) (w':=w) rfl rfl ?_ ⟨_,rfl,?_,hS,fun _ _ _ h=>rmR_any h⟩
   ·simp [execOp,Act.eval,s21]
   ·rw [own_put rfl (by rw [hs];omega)];exact rfl
  ·obtain rfl:=Option.some.inj (show some _=some o from ho)
   have hg:a.tmps.getD 22 undef=.bool ((((decide (x.kind<0) || decide (6<x.kind)) || !eqI x (usedI x)) || decide (x.dst<0))):=hdone _ (Array.mem_of_getElem? (i:=0) rfl) rfl _ rfl
   by_cases hb:((((decide (x.kind<0) || decide (6<x.kind)) || !eqI x (usedI x)) || decide (x.dst<0)))=false
   case neg=>exact wpOp_no rfl (wanted_no 19 22 ((((decide (x.kind<0) || decide (6<x.kind)) || !eqI x (usedI x)) || decide (x.dst<0))) hg (by rw [hs];omega) rfl rfl rfl (by simpa using hb)) ⟨_,rfl,fun h=>absurd h hb,hS,fun _ _ _ h=>rmR_any h⟩
   refine wpOp_valw (v:=.pointer (some ⟨W.heap.size,5,none⟩)) (w':=w) rfl (wanted_yes 19 22 ((((decide (x.kind<0) || decide (6<x.kind)) || !eqI x (usedI x)) || decide (x.dst<0))) hg (by rw [hs];omega) rfl rfl rfl (by simpa using hb)) ?_ ⟨_,rfl,?_,hS,fun _ _ _ h=>rmR_any h⟩
   ·simp [execOp,Act.eval,t1,go_sem]
   ·rw [own_put rfl (by rw [hs];omega)];exact fun _=>rfl
  ·obtain rfl:=Option.some.inj (show some _=some o from ho)
   have s23:(((decide (x.kind<0) || decide (6<x.kind)) || !eqI x (usedI x)) || decide (x.dst<0))=false→a.tmps.getD 23 undef=.pointer (some ⟨W.heap.size,5,none⟩):=hdone _ (Array.mem_of_getElem? (i:=0) rfl) rfl _ rfl
   have hg:a.tmps.getD 22 undef=.bool ((((decide (x.kind<0) || decide (6<x.kind)) || !eqI x (usedI x)) || decide (x.dst<0))):=hdone _ (Array.mem_of_getElem? (i:=1) rfl) rfl _ rfl
   by_cases hb:((((decide (x.kind<0) || decide (6<x.kind)) || !eqI x (usedI x)) || decide (x.dst<0)))=false
   case neg=>exact wpOp_no rfl (wanted_no 19 22 ((((decide (x.kind<0) || decide (6<x.kind)) || !eqI x (usedI x)) || decide (x.dst<0))) hg (by rw [hs];omega) rfl rfl rfl (by simpa using hb)) ⟨_,rfl,fun h=>absurd h hb,hS,fun _ _ _ h=>rmR_any h⟩
   have hc:w.cell? ⟨W.heap.size,5,none⟩=some (.int .i8 x.dst):=by simp only [World.cell?,hS.2];rfl
   refine wpOp_valw (v:=.int .i8 x.dst) (w':=w) rfl (wanted_yes 19 22 ((((decide (x.kind<0) || decide (6<x.kind)) || !eqI x (usedI x)) || decide (x.dst<0))) hg (by rw [hs];omega) rfl rfl rfl (by simpa using hb)) ?_ ⟨_,rfl,?_,hS,fun _ _ _ h=>rmR_any h⟩
   ·simp [execOp,Act.eval,s23 hb,hc,go_sem]
   ·rw [own_put rfl (by rw [hs];omega)];exact fun _=>rfl
  ·obtain rfl:=Option.some.inj (show some _=some o from ho)
   have s24:(((decide (x.kind<0) || decide (6<x.kind)) || !eqI x (usedI x)) || decide (x.dst<0))=false→a.tmps.getD 24 undef=.int .i8 x.dst:=hdone _ (Array.mem_of_getElem? (i:=0) rfl) rfl _ rfl
   have hg:a.tmps.getD 22 undef=.bool ((((decide (x.kind<0) || decide (6<x.kind)) || !eqI x (usedI x)) || decide (x.dst<0))):=hdone _ (Array.mem_of_getElem? (i:=1) rfl) rfl _ rfl
   by_cases hb:((((decide (x.kind<0) || decide (6<x.kind)) || !eqI x (usedI x)) || decide (x.dst<0)))=false
   case neg=>exact wpOp_no rfl (wanted_no 19 22 ((((decide (x.kind<0) || decide (6<x.kind)) || !eqI x (usedI x)) || decide (x.dst<0))) hg (by rw [hs];omega) rfl rfl rfl (by simpa using hb)) ⟨_,rfl,fun h=>absurd h hb,hS,fun _ _ _ h=>rmR_any h⟩
   refine wpOp_valw (v:=.bool (decide (10<x.dst))) (w':=w) rfl (wanted_yes 19 22 ((((decide (x.kind<0) || decide (6<x.kind)) || !eqI x (usedI x)) || decide (x.dst<0))) hg (by rw [hs];omega) rfl rfl rfl (by simpa using hb)) ?_ ⟨_,rfl,?_,hS,fun _ _ _ h=>rmR_any h⟩
   ·simp [execOp,Act.eval,s24 hb,go_sem]
   ·rw [own_put rfl (by rw [hs];omega)];exact fun _=>rfl
  ·obtain rfl:=Option.some.inj (show some _=some o from ho)
   have s22:a.tmps.getD 22 undef=.bool ((((decide (x.kind<0) || decide (6<x.kind)) || !eqI x (usedI x)) || decide (x.dst<0))):=hdone _ (Array.mem_of_getElem? (i:=0) rfl) rfl _ rfl
   have s25:(((decide (x.kind<0) || decide (6<x.kind)) || !eqI x (usedI x)) || decide (x.dst<0))=false→a.tmps.getD 25 undef=.bool (decide (10<x.dst)):=hdone _ (Array.mem_of_getElem? (i:=1) rfl) rfl _ rfl
   refine wpOp_val (v:=.bool (((((decide (x.kind<0) || decide (6<x.kind)) || !eqI x (usedI x)) || decide (x.dst<0)) || decide (10<x.dst)))) (w':=w) rfl rfl ?_ ⟨_,rfl,?_,hS,fun _ _ _ h=>rmR_any h⟩
   ·(cases hb:(((decide (x.kind<0) || decide (6<x.kind)) || !eqI x (usedI x)) || decide (x.dst<0))) <;> first | (simp only [hb] at s22 s25;simp [execOp,Act.eval,s22,s25,go_sem];done) | (simp only [hb] at s22;simp [execOp,Act.eval,s22,go_sem];done)
   ·rw [own_put rfl (by rw [hs];omega)];exact rfl
  ·obtain rfl:=Option.some.inj (show some _=some o from ho)
   have s26:a.tmps.getD 26 undef=.bool (((((decide (x.kind<0) || decide (6<x.kind)) || !eqI x (usedI x)) || decide (x.dst<0)) || decide (10<x.dst))):=hdone _ (Array.mem_of_getElem? (i:=0) rfl) rfl _ rfl
   refine wpOp_val (v:=.bool (((((decide (x.kind<0) || decide (6<x.kind)) || !eqI x (usedI x)) || decide (x.dst<0)) || decide (10<x.dst)))) (w':=w) rfl rfl ?_ ⟨_,rfl,?_,hS,fun _ _ _ h=>rmR_any h⟩
   ·simp [execOp,Act.eval,s26]
   ·rw [own_put rfl (by rw [hs];omega)];exact rfl
  ·obtain rfl:=Option.some.inj (show some _=some o from ho)
   have hg:a.tmps.getD 27 undef=.bool (((((decide (x.kind<0) || decide (6<x.kind)) || !eqI x (usedI x)) || decide (x.dst<0)) || decide (10<x.dst))):=hdone _ (Array.mem_of_getElem? (i:=0) rfl) rfl _ rfl
   by_cases hb:(((((decide (x.kind<0) || decide (6<x.kind)) || !eqI x (usedI x)) || decide (x.dst<0)) || decide (10<x.dst)))=false
   case neg=>exact wpOp_no rfl (wanted_no 24 27 (((((decide (x.kind<0) || decide (6<x.kind)) || !eqI x (usedI x)) || decide (x.dst<0)) || decide (10<x.dst))) hg (by rw [hs];omega) rfl rfl rfl (by simpa using hb)) ⟨_,rfl,fun h=>absurd h hb,hS,fun _ _ _ h=>rmR_any h⟩
   refine wpOp_valw (v:=.pointer (some ⟨W.heap.size,6,none⟩)) (w':=w) rfl (wanted_yes 24 27 (((((decide (x.kind<0) || decide (6<x.kind)) || !eqI x (usedI x)) || decide (x.dst<0)) || decide (10<x.dst))) hg (by rw [hs];omega) rfl rfl rfl (by simpa using hb)) ?_ ⟨_,rfl,?_,hS,fun _ _ _ h=>rmR_any h⟩
   ·simp [execOp,Act.eval,t1,go_sem]
   ·rw [own_put rfl (by rw [hs];omega)];exact fun _=>rfl
  ·obtain rfl:=Option.some.inj (show some _=some o from ho)
   have s28:((((decide (x.kind<0) || decide (6<x.kind)) || !eqI x (usedI x)) || decide (x.dst<0)) || decide (10<x.dst))=false→a.tmps.getD 28 undef=.pointer (some ⟨W.heap.size,6,none⟩):=hdone _ (Array.mem_of_getElem? (i:=0) rfl) rfl _ rfl
   have hg:a.tmps.getD 27 undef=.bool (((((decide (x.kind<0) || decide (6<x.kind)) || !eqI x (usedI x)) || decide (x.dst<0)) || decide (10<x.dst))):=hdone _ (Array.mem_of_getElem? (i:=1) rfl) rfl _ rfl
   by_cases hb:(((((decide (x.kind<0) || decide (6<x.kind)) || !eqI x (usedI x)) || decide (x.dst<0)) || decide (10<x.dst)))=false
   case neg=>exact wpOp_no rfl (wanted_no 24 27 (((((decide (x.kind<0) || decide (6<x.kind)) || !eqI x (usedI x)) || decide (x.dst<0)) || decide (10<x.dst))) hg (by rw [hs];omega) rfl rfl rfl (by simpa using hb)) ⟨_,rfl,fun h=>absurd h hb,hS,fun _ _ _ h=>rmR_any h⟩
   have hc:w.cell? ⟨W.heap.size,6,none⟩=some (.int .i8 x.src):=by simp only [World.cell?,hS.2];rfl
   refine wpOp_valw (v:=.int .i8 x.src) (w':=w) rfl (wanted_yes 24 27 (((((decide (x.kind<0) || decide (6<x.kind)) || !eqI x (usedI x)) || decide (x.dst<0)) || decide (10<x.dst))) hg (by rw [hs];omega) rfl rfl rfl (by simpa using hb)) ?_ ⟨_,rfl,?_,hS,fun _ _ _ h=>rmR_any h⟩
   ·simp [execOp,Act.eval,s28 hb,hc,go_sem]
   ·rw [own_put rfl (by rw [hs];omega)];exact fun _=>rfl
  ·obtain rfl:=Option.some.inj (show some _=some o from ho)
   have s29:((((decide (x.kind<0) || decide (6<x.kind)) || !eqI x (usedI x)) || decide (x.dst<0)) || decide (10<x.dst))=false→a.tmps.getD 29 undef=.int .i8 x.src:=hdone _ (Array.mem_of_getElem? (i:=0) rfl) rfl _ rfl
   have hg:a.tmps.getD 27 undef=.bool (((((decide (x.kind<0) || decide (6<x.kind)) || !eqI x (usedI x)) || decide (x.dst<0)) || decide (10<x.dst))):=hdone _ (Array.mem_of_getElem? (i:=1) rfl) rfl _ rfl
   by_cases hb:(((((decide (x.kind<0) || decide (6<x.kind)) || !eqI x (usedI x)) || decide (x.dst<0)) || decide (10<x.dst)))=false
   case neg=>exact wpOp_no rfl (wanted_no 24 27 (((((decide (x.kind<0) || decide (6<x.kind)) || !eqI x (usedI x)) || decide (x.dst<0)) || decide (10<x.dst))) hg (by rw [hs];omega) rfl rfl rfl (by simpa using hb)) ⟨_,rfl,fun h=>absurd h hb,hS,fun _ _ _ h=>rmR_any h⟩
   refine wpOp_valw (v:=.bool (decide (x.src<0))) (w':=w) rfl (wanted_yes 24 27 (((((decide (x.kind<0) || decide (6<x.kind)) || !eqI x (usedI x)) || decide (x.dst<0)) || decide (10<x.dst))) hg (by rw [hs];omega) rfl rfl rfl (by simpa using hb)) ?_ ⟨_,rfl,?_,hS,fun _ _ _ h=>rmR_any h⟩
   ·simp [execOp,Act.eval,s29 hb,go_sem]
   ·rw [own_put rfl (by rw [hs];omega)];exact fun _=>rfl
  ·obtain rfl:=Option.some.inj (show some _=some o from ho)
   have s27:a.tmps.getD 27 undef=.bool (((((decide (x.kind<0) || decide (6<x.kind)) || !eqI x (usedI x)) || decide (x.dst<0)) || decide (10<x.dst))):=hdone _ (Array.mem_of_getElem? (i:=0) rfl) rfl _ rfl
   have s30:((((decide (x.kind<0) || decide (6<x.kind)) || !eqI x (usedI x)) || decide (x.dst<0)) || decide (10<x.dst))=false→a.tmps.getD 30 undef=.bool (decide (x.src<0)):=hdone _ (Array.mem_of_getElem? (i:=1) rfl) rfl _ rfl
   refine wpOp_val (v:=.bool ((((((decide (x.kind<0) || decide (6<x.kind)) || !eqI x (usedI x)) || decide (x.dst<0)) || decide (10<x.dst)) || decide (x.src<0)))) (w':=w) rfl rfl ?_ ⟨_,rfl,?_,hS,fun _ _ _ h=>rmR_any h⟩
   ·(cases hb:((((decide (x.kind<0) || decide (6<x.kind)) || !eqI x (usedI x)) || decide (x.dst<0)) || decide (10<x.dst))) <;> first | (simp only [hb] at s27 s30;simp [execOp,Act.eval,s27,s30,go_sem];done) | (simp only [hb] at s27;simp [execOp,Act.eval,s27,go_sem];done)
   ·rw [own_put rfl (by rw [hs];omega)];exact rfl
  ·obtain rfl:=Option.some.inj (show some _=some o from ho)
   have s31:a.tmps.getD 31 undef=.bool ((((((decide (x.kind<0) || decide (6<x.kind)) || !eqI x (usedI x)) || decide (x.dst<0)) || decide (10<x.dst)) || decide (x.src<0))):=hdone _ (Array.mem_of_getElem? (i:=0) rfl) rfl _ rfl
   refine wpOp_val (v:=.bool ((((((decide (x.kind<0) || decide (6<x.kind)) || !eqI x (usedI x)) || decide (x.dst<0)) || decide (10<x.dst)) || decide (x.src<0)))) (w':=w) rfl rfl ?_ ⟨_,rfl,?_,hS,fun _ _ _ h=>rmR_any h⟩
   ·simp [execOp,Act.eval,s31]
   ·rw [own_put rfl (by rw [hs];omega)];exact rfl
  ·obtain rfl:=Option.some.inj (show some _=some o from ho)
   have hg:a.tmps.getD 32 undef=.bool ((((((decide (x.kind<0) || decide (6<x.kind)) || !eqI x (usedI x)) || decide (x.dst<0)) || decide (10<x.dst)) || decide (x.src<0))):=hdone _ (Array.mem_of_getElem? (i:=0) rfl) rfl _ rfl
   by_cases hb:((((((decide (x.kind<0) || decide (6<x.kind)) || !eqI x (usedI x)) || decide (x.dst<0)) || decide (10<x.dst)) || decide (x.src<0)))=false
   case neg=>exact wpOp_no rfl (wanted_no 29 32 ((((((decide (x.kind<0) || decide (6<x.kind)) || !eqI x (usedI x)) || decide (x.dst<0)) || decide (10<x.dst)) || decide (x.src<0))) hg (by rw [hs];omega) rfl rfl rfl (by simpa using hb)) ⟨_,rfl,fun h=>absurd h hb,hS,fun _ _ _ h=>rmR_any h⟩
   refine wpOp_valw (v:=.pointer (some ⟨W.heap.size,6,none⟩)) (w':=w) rfl (wanted_yes 29 32 ((((((decide (x.kind<0) || decide (6<x.kind)) || !eqI x (usedI x)) || decide (x.dst<0)) || decide (10<x.dst)) || decide (x.src<0))) hg (by rw [hs];omega) rfl rfl rfl (by simpa using hb)) ?_ ⟨_,rfl,?_,hS,fun _ _ _ h=>rmR_any h⟩
   ·simp [execOp,Act.eval,t1,go_sem]
   ·rw [own_put rfl (by rw [hs];omega)];exact fun _=>rfl
  ·obtain rfl:=Option.some.inj (show some _=some o from ho)
   have s33:(((((decide (x.kind<0) || decide (6<x.kind)) || !eqI x (usedI x)) || decide (x.dst<0)) || decide (10<x.dst)) || decide (x.src<0))=false→a.tmps.getD 33 undef=.pointer (some ⟨W.heap.size,6,none⟩):=hdone _ (Array.mem_of_getElem? (i:=0) rfl) rfl _ rfl
   have hg:a.tmps.getD 32 undef=.bool ((((((decide (x.kind<0) || decide (6<x.kind)) || !eqI x (usedI x)) || decide (x.dst<0)) || decide (10<x.dst)) || decide (x.src<0))):=hdone _ (Array.mem_of_getElem? (i:=1) rfl) rfl _ rfl
   by_cases hb:((((((decide (x.kind<0) || decide (6<x.kind)) || !eqI x (usedI x)) || decide (x.dst<0)) || decide (10<x.dst)) || decide (x.src<0)))=false
   case neg=>exact wpOp_no rfl (wanted_no 29 32 ((((((decide (x.kind<0) || decide (6<x.kind)) || !eqI x (usedI x)) || decide (x.dst<0)) || decide (10<x.dst)) || decide (x.src<0))) hg (by rw [hs];omega) rfl rfl rfl (by simpa using hb)) ⟨_,rfl,fun h=>absurd h hb,hS,fun _ _ _ h=>rmR_any h⟩
   have hc:w.cell? ⟨W.heap.size,6,none⟩=some (.int .i8 x.src):=by simp only [World.cell?,hS.2];rfl
   refine wpOp_valw (v:=.int .i8 x.src) (w':=w) rfl (wanted_yes 29 32 ((((((decide (x.kind<0) || decide (6<x.kind)) || !eqI x (usedI x)) || decide (x.dst<0)) || decide (10<x.dst)) || decide (x.src<0))) hg (by rw [hs];omega) rfl rfl rfl (by simpa using hb)) ?_ ⟨_,rfl,?_,hS,fun _ _ _ h=>rmR_any h⟩
   ·simp [execOp,Act.eval,s33 hb,hc,go_sem]
   ·rw [own_put rfl (by rw [hs];omega)];exact fun _=>rfl
  ·obtain rfl:=Option.some.inj (show some _=some o from ho)
   have s34:(((((decide (x.kind<0) || decide (6<x.kind)) || !eqI x (usedI x)) || decide (x.dst<0)) || decide (10<x.dst)) || decide (x.src<0))=false→a.tmps.getD 34 undef=.int .i8 x.src:=hdone _ (Array.mem_of_getElem? (i:=0) rfl) rfl _ rfl
   have hg:a.tmps.getD 32 undef=.bool ((((((decide (x.kind<0) || decide (6<x.kind)) || !eqI x (usedI x)) || decide (x.dst<0)) || decide (10<x.dst)) || decide (x.src<0))):=hdone _ (Array.mem_of_getElem? (i:=1) rfl) rfl _ rfl
   by_cases hb:((((((decide (x.kind<0) || decide (6<x.kind)) || !eqI x (usedI x)) || decide (x.dst<0)) || decide (10<x.dst)) || decide (x.src<0)))=false
   case neg=>exact wpOp_no rfl (wanted_no 29 32 ((((((decide (x.kind<0) || decide (6<x.kind)) || !eqI x (usedI x)) || decide (x.dst<0)) || decide (10<x.dst)) || decide (x.src<0))) hg (by rw [hs];omega) rfl rfl rfl (by simpa using hb)) ⟨_,rfl,fun h=>absurd h hb,hS,fun _ _ _ h=>rmR_any h⟩
   refine wpOp_valw (v:=.bool (decide (10<x.src))) (w':=w) rfl (wanted_yes 29 32 ((((((decide (x.kind<0) || decide (6<x.kind)) || !eqI x (usedI x)) || decide (x.dst<0)) || decide (10<x.dst)) || decide (x.src<0))) hg (by rw [hs];omega) rfl rfl rfl (by simpa using hb)) ?_ ⟨_,rfl,?_,hS,fun _ _ _ h=>rmR_any h⟩
   ·simp [execOp,Act.eval,s34 hb,go_sem]
   ·rw [own_put rfl (by rw [hs];omega)];exact fun _=>rfl
  ·obtain rfl:=Option.some.inj (show some _=some o from ho)
   have s32:a.tmps.getD 32 undef=.bool ((((((decide (x.kind<0) || decide (6<x.kind)) || !eqI x (usedI x)) || decide (x.dst<0)) || decide (10<x.dst)) || decide (x.src<0))):=hdone _ (Array.mem_of_getElem? (i:=0) rfl) rfl _ rfl
   have s35:(((((decide (x.kind<0) || decide (6<x.kind)) || !eqI x (usedI x)) || decide (x.dst<0)) || decide (10<x.dst)) || decide (x.src<0))=false→a.tmps.getD 35 undef=.bool (decide (10<x.src)):=hdone _ (Array.mem_of_getElem? (i:=1) rfl) rfl _ rfl
   refine wpOp_val (v:=.bool (((((((decide (x.kind<0) || decide (6<x.kind)) || !eqI x (usedI x)) || decide (x.dst<0)) || decide (10<x.dst)) || decide (x.src<0)) || decide (10<x.src)))) (w':=w) rfl rfl ?_ ⟨_,rfl,?_,hS,fun _ _ _ h=>rmR_any h⟩
   ·(cases hb:(((((decide (x.kind<0) || decide (6<x.kind)) || !eqI x (usedI x)) || decide (x.dst<0)) || decide (10<x.dst)) || decide (x.src<0))) <;> first | (simp only [hb] at s32 s35;simp [execOp,Act.eval,s32,s35,go_sem];done) | (simp only [hb] at s32;simp [execOp,Act.eval,s32,go_sem];done)
   ·rw [own_put rfl (by rw [hs];omega)];exact rfl
  ·obtain rfl:=Option.some.inj (show some _=some o from ho)
   have s36:a.tmps.getD 36 undef=.bool (((((((decide (x.kind<0) || decide (6<x.kind)) || !eqI x (usedI x)) || decide (x.dst<0)) || decide (10<x.dst)) || decide (x.src<0)) || decide (10<x.src))):=hdone _ (Array.mem_of_getElem? (i:=0) rfl) rfl _ rfl
   refine wpOp_val (v:=.bool (((((((decide (x.kind<0) || decide (6<x.kind)) || !eqI x (usedI x)) || decide (x.dst<0)) || decide (10<x.dst)) || decide (x.src<0)) || decide (10<x.src)))) (w':=w) rfl rfl ?_ ⟨_,rfl,?_,hS,fun _ _ _ h=>rmR_any h⟩
   ·simp [execOp,Act.eval,s36]
   ·rw [own_put rfl (by rw [hs];omega)];exact rfl
  ·obtain rfl:=Option.some.inj (show some _=some o from ho)
   have hg:a.tmps.getD 37 undef=.bool (((((((decide (x.kind<0) || decide (6<x.kind)) || !eqI x (usedI x)) || decide (x.dst<0)) || decide (10<x.dst)) || decide (x.src<0)) || decide (10<x.src))):=hdone _ (Array.mem_of_getElem? (i:=0) rfl) rfl _ rfl
   by_cases hb:(((((((decide (x.kind<0) || decide (6<x.kind)) || !eqI x (usedI x)) || decide (x.dst<0)) || decide (10<x.dst)) || decide (x.src<0)) || decide (10<x.src)))=false
   case neg=>exact wpOp_no rfl (wanted_no 34 37 (((((((decide (x.kind<0) || decide (6<x.kind)) || !eqI x (usedI x)) || decide (x.dst<0)) || decide (10<x.dst)) || decide (x.src<0)) || decide (10<x.src))) hg (by rw [hs];omega) rfl rfl rfl (by simpa using hb)) ⟨_,rfl,fun h=>absurd h hb,hS,fun _ _ _ h=>rmR_any h⟩
   refine wpOp_valw (v:=.pointer (some ⟨W.heap.size,7,none⟩)) (w':=w) rfl (wanted_yes 34 37 (((((((decide (x.kind<0) || decide (6<x.kind)) || !eqI x (usedI x)) || decide (x.dst<0)) || decide (10<x.dst)) || decide (x.src<0)) || decide (10<x.src))) hg (by rw [hs];omega) rfl rfl rfl (by simpa using hb)) ?_ ⟨_,rfl,?_,hS,fun _ _ _ h=>rmR_any h⟩
   ·simp [execOp,Act.eval,t1,go_sem]
   ·rw [own_put rfl (by rw [hs];omega)];exact fun _=>rfl
  ·obtain rfl:=Option.some.inj (show some _=some o from ho)
   have s38:((((((decide (x.kind<0) || decide (6<x.kind)) || !eqI x (usedI x)) || decide (x.dst<0)) || decide (10<x.dst)) || decide (x.src<0)) || decide (10<x.src))=false→a.tmps.getD 38 undef=.pointer (some ⟨W.heap.size,7,none⟩):=hdone _ (Array.mem_of_getElem? (i:=0) rfl) rfl _ rfl
   have hg:a.tmps.getD 37 undef=.bool (((((((decide (x.kind<0) || decide (6<x.kind)) || !eqI x (usedI x)) || decide (x.dst<0)) || decide (10<x.dst)) || decide (x.src<0)) || decide (10<x.src))):=hdone _ (Array.mem_of_getElem? (i:=1) rfl) rfl _ rfl
   by_cases hb:(((((((decide (x.kind<0) || decide (6<x.kind)) || !eqI x (usedI x)) || decide (x.dst<0)) || decide (10<x.dst)) || decide (x.src<0)) || decide (10<x.src)))=false
   case neg=>exact wpOp_no rfl (wanted_no 34 37 (((((((decide (x.kind<0) || decide (6<x.kind)) || !eqI x (usedI x)) || decide (x.dst<0)) || decide (10<x.dst)) || decide (x.src<0)) || decide (10<x.src))) hg (by rw [hs];omega) rfl rfl rfl (by simpa using hb)) ⟨_,rfl,fun h=>absurd h hb,hS,fun _ _ _ h=>rmR_any h⟩
   have hc:w.cell? ⟨W.heap.size,7,none⟩=some (.int .i64 x.off):=by simp only [World.cell?,hS.2];rfl
   refine wpOp_valw (v:=.int .i64 x.off) (w':=w) rfl (wanted_yes 34 37 (((((((decide (x.kind<0) || decide (6<x.kind)) || !eqI x (usedI x)) || decide (x.dst<0)) || decide (10<x.dst)) || decide (x.src<0)) || decide (10<x.src))) hg (by rw [hs];omega) rfl rfl rfl (by simpa using hb)) ?_ ⟨_,rfl,?_,hS,fun _ _ _ h=>rmR_any h⟩
   ·simp [execOp,Act.eval,s38 hb,hc,go_sem]
   ·rw [own_put rfl (by rw [hs];omega)];exact fun _=>rfl
  ·obtain rfl:=Option.some.inj (show some _=some o from ho)
   have s39:((((((decide (x.kind<0) || decide (6<x.kind)) || !eqI x (usedI x)) || decide (x.dst<0)) || decide (10<x.dst)) || decide (x.src<0)) || decide (10<x.src))=false→a.tmps.getD 39 undef=.int .i64 x.off:=hdone _ (Array.mem_of_getElem? (i:=0) rfl) rfl _ rfl
   have hg:a.tmps.getD 37 undef=.bool (((((((decide (x.kind<0) || decide (6<x.kind)) || !eqI x (usedI x)) || decide (x.dst<0)) || decide (10<x.dst)) || decide (x.src<0)) || decide (10<x.src))):=hdone _ (Array.mem_of_getElem? (i:=1) rfl) rfl _ rfl
   by_cases hb:(((((((decide (x.kind<0) || decide (6<x.kind)) || !eqI x (usedI x)) || decide (x.dst<0)) || decide (10<x.dst)) || decide (x.src<0)) || decide (10<x.src)))=false
   case neg=>exact wpOp_no rfl (wanted_no 34 37 (((((((decide (x.kind<0) || decide (6<x.kind)) || !eqI x (usedI x)) || decide (x.dst<0)) || decide (10<x.dst)) || decide (x.src<0)) || decide (10<x.src))) hg (by rw [hs];omega) rfl rfl rfl (by simpa using hb)) ⟨_,rfl,fun h=>absurd h hb,hS,fun _ _ _ h=>rmR_any h⟩
   refine wpOp_valw (v:=.bool (decide (x.off < -32768))) (w':=w) rfl (wanted_yes 34 37 (((((((decide (x.kind<0) || decide (6<x.kind)) || !eqI x (usedI x)) || decide (x.dst<0)) || decide (10<x.dst)) || decide (x.src<0)) || decide (10<x.src))) hg (by rw [hs];omega) rfl rfl rfl (by simpa using hb)) ?_ ⟨_,rfl,?_,hS,fun _ _ _ h=>rmR_any h⟩
   ·simp [execOp,Act.eval,s39 hb,go_sem]
   ·rw [own_put rfl (by rw [hs];omega)];exact fun _=>rfl
  ·obtain rfl:=Option.some.inj (show some _=some o from ho)
   have s37:a.tmps.getD 37 undef=.bool (((((((decide (x.kind<0) || decide (6<x.kind)) || !eqI x (usedI x)) || decide (x.dst<0)) || decide (10<x.dst)) || decide (x.src<0)) || decide (10<x.src))):=hdone _ (Array.mem_of_getElem? (i:=0) rfl) rfl _ rfl
   have s40:((((((decide (x.kind<0) || decide (6<x.kind)) || !eqI x (usedI x)) || decide (x.dst<0)) || decide (10<x.dst)) || decide (x.src<0)) || decide (10<x.src))=false→a.tmps.getD 40 undef=.bool (decide (x.off < -32768)):=hdone _ (Array.mem_of_getElem? (i:=1) rfl) rfl _ rfl
   refine wpOp_val (v:=.bool ((((((((decide (x.kind<0) || decide (6<x.kind)) || !eqI x (usedI x)) || decide (x.dst<0)) || decide (10<x.dst)) || decide (x.src<0)) || decide (10<x.src)) || decide (x.off < -32768)))) (w':=w) rfl rfl ?_ ⟨_,rfl,?_,hS,fun _ _ _ h=>rmR_any h⟩
   ·(cases hb:((((((decide (x.kind<0) || decide (6<x.kind)) || !eqI x (usedI x)) || decide (x.dst<0)) || decide (10<x.dst)) || decide (x.src<0)) || decide (10<x.src))) <;> first | (simp only [hb] at s37 s40;simp [execOp,Act.eval,s37,s40,go_sem];done) | (simp only [hb] at s37;simp [execOp,Act.eval,s37,go_sem];done)
   ·rw [own_put rfl (by rw [hs];omega)];exact rfl
  ·obtain rfl:=Option.some.inj (show some _=some o from ho)
   have s41:a.tmps.getD 41 undef=.bool ((((((((decide (x.kind<0) || decide (6<x.kind)) || !eqI x (usedI x)) || decide (x.dst<0)) || decide (10<x.dst)) || decide (x.src<0)) || decide (10<x.src)) || decide (x.off < -32768))):=hdone _ (Array.mem_of_getElem? (i:=0) rfl) rfl _ rfl
   refine wpOp_val (v:=.bool ((((((((decide (x.kind<0) || decide (6<x.kind)) || !eqI x (usedI x)) || decide (x.dst<0)) || decide (10<x.dst)) || decide (x.src<0)) || decide (10<x.src)) || decide (x.off < -32768)))) (w':=w) rfl rfl ?_ ⟨_,rfl,?_,hS,fun _ _ _ h=>rmR_any h⟩
   ·simp [execOp,Act.eval,s41]
   ·rw [own_put rfl (by rw [hs];omega)];exact rfl
  ·obtain rfl:=Option.some.inj (show some _=some o from ho)
   have hg:a.tmps.getD 42 undef=.bool ((((((((decide (x.kind<0) || decide (6<x.kind)) || !eqI x (usedI x)) || decide (x.dst<0)) || decide (10<x.dst)) || decide (x.src<0)) || decide (10<x.src)) || decide (x.off < -32768))):=hdone _ (Array.mem_of_getElem? (i:=0) rfl) rfl _ rfl
   by_cases hb:((((((((decide (x.kind<0) || decide (6<x.kind)) || !eqI x (usedI x)) || decide (x.dst<0)) || decide (10<x.dst)) || decide (x.src<0)) || decide (10<x.src)) || decide (x.off < -32768)))=false
   case neg=>exact wpOp_no rfl (wanted_no 39 42 ((((((((decide (x.kind<0) || decide (6<x.kind)) || !eqI x (usedI x)) || decide (x.dst<0)) || decide (10<x.dst)) || decide (x.src<0)) || decide (10<x.src)) || decide (x.off < -32768))) hg (by rw [hs];omega) rfl rfl rfl (by simpa using hb)) ⟨_,rfl,fun h=>absurd h hb,hS,fun _ _ _ h=>rmR_any h⟩
   refine wpOp_valw (v:=.pointer (some ⟨W.heap.size,7,none⟩)) (w':=w) rfl (wanted_yes 39 42 ((((((((decide (x.kind<0) || decide (6<x.kind)) || !eqI x (usedI x)) || decide (x.dst<0)) || decide (10<x.dst)) || decide (x.src<0)) || decide (10<x.src)) || decide (x.off < -32768))) hg (by rw [hs];omega) rfl rfl rfl (by simpa using hb)) ?_ ⟨_,rfl,?_,hS,fun _ _ _ h=>rmR_any h⟩
   ·simp [execOp,Act.eval,t1,go_sem]
   ·rw [own_put rfl (by rw [hs];omega)];exact fun _=>rfl
  ·obtain rfl:=Option.some.inj (show some _=some o from ho)
   have s43:(((((((decide (x.kind<0) || decide (6<x.kind)) || !eqI x (usedI x)) || decide (x.dst<0)) || decide (10<x.dst)) || decide (x.src<0)) || decide (10<x.src)) || decide (x.off < -32768))=false→a.tmps.getD 43 undef=.pointer (some ⟨W.heap.size,7,none⟩):=hdone _ (Array.mem_of_getElem? (i:=0) rfl) rfl _ rfl
   have hg:a.tmps.getD 42 undef=.bool ((((((((decide (x.kind<0) || decide (6<x.kind)) || !eqI x (usedI x)) || decide (x.dst<0)) || decide (10<x.dst)) || decide (x.src<0)) || decide (10<x.src)) || decide (x.off < -32768))):=hdone _ (Array.mem_of_getElem? (i:=1) rfl) rfl _ rfl
   by_cases hb:((((((((decide (x.kind<0) || decide (6<x.kind)) || !eqI x (usedI x)) || decide (x.dst<0)) || decide (10<x.dst)) || decide (x.src<0)) || decide (10<x.src)) || decide (x.off < -32768)))=false
   case neg=>exact wpOp_no rfl (wanted_no 39 42 ((((((((decide (x.kind<0) || decide (6<x.kind)) || !eqI x (usedI x)) || decide (x.dst<0)) || decide (10<x.dst)) || decide (x.src<0)) || decide (10<x.src)) || decide (x.off < -32768))) hg (by rw [hs];omega) rfl rfl rfl (by simpa using hb)) ⟨_,rfl,fun h=>absurd h hb,hS,fun _ _ _ h=>rmR_any h⟩
   have hc:w.cell? ⟨W.heap.size,7,none⟩=some (.int .i64 x.off):=by simp only [World.cell?,hS.2];rfl
   refine wpOp_valw (v:=.int .i64 x.off) (w':=w) rfl (wanted_yes 39 42 ((((((((decide (x.kind<0) || decide (6<x.kind)) || !eqI x (usedI x)) || decide (x.dst<0)) || decide (10<x.dst)) || decide (x.src<0)) || decide (10<x.src)) || decide (x.off < -32768))) hg (by rw [hs];omega) rfl rfl rfl (by simpa using hb)) ?_ ⟨_,rfl,?_,hS,fun _ _ _ h=>rmR_any h⟩
   ·simp [execOp,Act.eval,s43 hb,hc,go_sem]
   ·rw [own_put rfl (by rw [hs];omega)];exact fun _=>rfl
  ·obtain rfl:=Option.some.inj (show some _=some o from ho)
   have s44:(((((((decide (x.kind<0) || decide (6<x.kind)) || !eqI x (usedI x)) || decide (x.dst<0)) || decide (10<x.dst)) || decide (x.src<0)) || decide (10<x.src)) || decide (x.off < -32768))=false→a.tmps.getD 44 undef=.int .i64 x.off:=hdone _ (Array.mem_of_getElem? (i:=0) rfl) rfl _ rfl
   have hg:a.tmps.getD 42 undef=.bool ((((((((decide (x.kind<0) || decide (6<x.kind)) || !eqI x (usedI x)) || decide (x.dst<0)) || decide (10<x.dst)) || decide (x.src<0)) || decide (10<x.src)) || decide (x.off < -32768))):=hdone _ (Array.mem_of_getElem? (i:=1) rfl) rfl _ rfl
   by_cases hb:((((((((decide (x.kind<0) || decide (6<x.kind)) || !eqI x (usedI x)) || decide (x.dst<0)) || decide (10<x.dst)) || decide (x.src<0)) || decide (10<x.src)) || decide (x.off < -32768)))=false
   case neg=>exact wpOp_no rfl (wanted_no 39 42 ((((((((decide (x.kind<0) || decide (6<x.kind)) || !eqI x (usedI x)) || decide (x.dst<0)) || decide (10<x.dst)) || decide (x.src<0)) || decide (10<x.src)) || decide (x.off < -32768))) hg (by rw [hs];omega) rfl rfl rfl (by simpa using hb)) ⟨_,rfl,fun h=>absurd h hb,hS,fun _ _ _ h=>rmR_any h⟩
   refine wpOp_valw (v:=.bool (decide (32768≤x.off))) (w':=w) rfl (wanted_yes 39 42 ((((((((decide (x.kind<0) || decide (6<x.kind)) || !eqI x (usedI x)) || decide (x.dst<0)) || decide (10<x.dst)) || decide (x.src<0)) || decide (10<x.src)) || decide (x.off < -32768))) hg (by rw [hs];omega) rfl rfl rfl (by simpa using hb)) ?_ ⟨_,rfl,?_,hS,fun _ _ _ h=>rmR_any h⟩
   ·simp [execOp,Act.eval,s44 hb,go_sem]
   ·rw [own_put rfl (by rw [hs];omega)];exact fun _=>rfl
  ·obtain rfl:=Option.some.inj (show some _=some o from ho)
   have s42:a.tmps.getD 42 undef=.bool ((((((((decide (x.kind<0) || decide (6<x.kind)) || !eqI x (usedI x)) || decide (x.dst<0)) || decide (10<x.dst)) || decide (x.src<0)) || decide (10<x.src)) || decide (x.off < -32768))):=hdone _ (Array.mem_of_getElem? (i:=0) rfl) rfl _ rfl
   have s45:(((((((decide (x.kind<0) || decide (6<x.kind)) || !eqI x (usedI x)) || decide (x.dst<0)) || decide (10<x.dst)) || decide (x.src<0)) || decide (10<x.src)) || decide (x.off < -32768))=false→a.tmps.getD 45 undef=.bool (decide (32768≤x.off)):=hdone _ (Array.mem_of_getElem? (i:=1) rfl) rfl _ rfl
   refine wpOp_val (v:=.bool (((((((((decide (x.kind<0) || decide (6<x.kind)) || !eqI x (usedI x)) || decide (x.dst<0)) || decide (10<x.dst)) || decide (x.src<0)) || decide (10<x.src)) || decide (x.off < -32768)) || decide (32768≤x.off)))) (w':=w) rfl rfl ?_ ⟨_,rfl,?_,hS,fun _ _ _ h=>rmR_any h⟩
   ·(cases hb:(((((((decide (x.kind<0) || decide (6<x.kind)) || !eqI x (usedI x)) || decide (x.dst<0)) || decide (10<x.dst)) || decide (x.src<0)) || decide (10<x.src)) || decide (x.off < -32768))) <;> first | (simp only [hb] at s42 s45;simp [execOp,Act.eval,s42,s45,go_sem];done) | (simp only [hb] at s42;simp [execOp,Act.eval,s42,go_sem];done)
   ·rw [own_put rfl (by rw [hs];omega)];exact rfl
  ·obtain rfl:=Option.some.inj (show some _=some o from ho)
   have s46:a.tmps.getD 46 undef=.bool (((((((((decide (x.kind<0) || decide (6<x.kind)) || !eqI x (usedI x)) || decide (x.dst<0)) || decide (10<x.dst)) || decide (x.src<0)) || decide (10<x.src)) || decide (x.off < -32768)) || decide (32768≤x.off))):=hdone _ (Array.mem_of_getElem? (i:=0) rfl) rfl _ rfl
   refine wpOp_val (v:=.bool (((((((((decide (x.kind<0) || decide (6<x.kind)) || !eqI x (usedI x)) || decide (x.dst<0)) || decide (10<x.dst)) || decide (x.src<0)) || decide (10<x.src)) || decide (x.off < -32768)) || decide (32768≤x.off)))) (w':=w) rfl rfl ?_ ⟨_,rfl,?_,hS,fun _ _ _ h=>rmR_any h⟩
   ·simp [execOp,Act.eval,s46]
   ·rw [own_put rfl (by rw [hs];omega)];exact rfl
  ·obtain rfl:=Option.some.inj (show some _=some o from ho)
   have hg:a.tmps.getD 47 undef=.bool (((((((((decide (x.kind<0) || decide (6<x.kind)) || !eqI x (usedI x)) || decide (x.dst<0)) || decide (10<x.dst)) || decide (x.src<0)) || decide (10<x.src)) || decide (x.off < -32768)) || decide (32768≤x.off))):=hdone _ (Array.mem_of_getElem? (i:=0) rfl) rfl _ rfl
   by_cases hb:(((((((((decide (x.kind<0) || decide (6<x.kind)) || !eqI x (usedI x)) || decide (x.dst<0)) || decide (10<x.dst)) || decide (x.src<0)) || decide (10<x.src)) || decide (x.off < -32768)) || decide (32768≤x.off)))=false
   case neg=>exact wpOp_no rfl (wanted_no 44 47 (((((((((decide (x.kind<0) || decide (6<x.kind)) || !eqI x (usedI x)) || decide (x.dst<0)) || decide (10<x.dst)) || decide (x.src<0)) || decide (10<x.src)) || decide (x.off < -32768)) || decide (32768≤x.off))) hg (by rw [hs];omega) rfl rfl rfl (by simpa using hb)) ⟨_,rfl,fun h=>absurd h hb,hS,fun _ _ _ h=>rmR_any h⟩
   refine wpOp_valw (v:=.pointer (some ⟨W.heap.size,8,none⟩)) (w':=w) rfl (wanted_yes 44 47 (((((((((decide (x.kind<0) || decide (6<x.kind)) || !eqI x (usedI x)) || decide (x.dst<0)) || decide (10<x.dst)) || decide (x.src<0)) || decide (10<x.src)) || decide (x.off < -32768)) || decide (32768≤x.off))) hg (by rw [hs];omega) rfl rfl rfl (by simpa using hb)) ?_ ⟨_,rfl,?_,hS,fun _ _ _ h=>rmR_any h⟩
   ·simp [execOp,Act.eval,t1,go_sem]
   ·rw [own_put rfl (by rw [hs];omega)];exact fun _=>rfl
  ·obtain rfl:=Option.some.inj (show some _=some o from ho)
   have s48:((((((((decide (x.kind<0) || decide (6<x.kind)) || !eqI x (usedI x)) || decide (x.dst<0)) || decide (10<x.dst)) || decide (x.src<0)) || decide (10<x.src)) || decide (x.off < -32768)) || decide (32768≤x.off))=false→a.tmps.getD 48 undef=.pointer (some ⟨W.heap.size,8,none⟩):=hdone _ (Array.mem_of_getElem? (i:=0) rfl) rfl _ rfl
   have hg:a.tmps.getD 47 undef=.bool (((((((((decide (x.kind<0) || decide (6<x.kind)) || !eqI x (usedI x)) || decide (x.dst<0)) || decide (10<x.dst)) || decide (x.src<0)) || decide (10<x.src)) || decide (x.off < -32768)) || decide (32768≤x.off))):=hdone _ (Array.mem_of_getElem? (i:=1) rfl) rfl _ rfl
   by_cases hb:(((((((((decide (x.kind<0) || decide (6<x.kind)) || !eqI x (usedI x)) || decide (x.dst<0)) || decide (10<x.dst)) || decide (x.src<0)) || decide (10<x.src)) || decide (x.off < -32768)) || decide (32768≤x.off)))=false
   case neg=>exact wpOp_no rfl (wanted_no 44 47 (((((((((decide (x.kind<0) || decide (6<x.kind)) || !eqI x (usedI x)) || decide (x.dst<0)) || decide (10<x.dst)) || decide (x.src<0)) || decide (10<x.src)) || decide (x.off < -32768)) || decide (32768≤x.off))) hg (by rw [hs];omega) rfl rfl rfl (by simpa using hb)) ⟨_,rfl,fun h=>absurd h hb,hS,fun _ _ _ h=>rmR_any h⟩
   have hc:w.cell? ⟨W.heap.size,8,none⟩=some (.int .i64 x.imm):=by simp only [World.cell?,hS.2];rfl
   refine wpOp_valw (v:=.int .i64 x.imm) (w':=w) rfl (wanted_yes 44 47 (((((((((decide (x.kind<0) || decide (6<x.kind)) || !eqI x (usedI x)) || decide (x.dst<0)) || decide (10<x.dst)) || decide (x.src<0)) || decide (10<x.src)) || decide (x.off < -32768)) || decide (32768≤x.off))) hg (by rw [hs];omega) rfl rfl rfl (by simpa using hb)) ?_ ⟨_,rfl,?_,hS,fun _ _ _ h=>rmR_any h⟩
   ·simp [execOp,Act.eval,s48 hb,hc,go_sem]
   ·rw [own_put rfl (by rw [hs];omega)];exact fun _=>rfl
  ·obtain rfl:=Option.some.inj (show some _=some o from ho)
   have s49:((((((((decide (x.kind<0) || decide (6<x.kind)) || !eqI x (usedI x)) || decide (x.dst<0)) || decide (10<x.dst)) || decide (x.src<0)) || decide (10<x.src)) || decide (x.off < -32768)) || decide (32768≤x.off))=false→a.tmps.getD 49 undef=.int .i64 x.imm:=hdone _ (Array.mem_of_getElem? (i:=0) rfl) rfl _ rfl
   have hg:a.tmps.getD 47 undef=.bool (((((((((decide (x.kind<0) || decide (6<x.kind)) || !eqI x (usedI x)) || decide (x.dst<0)) || decide (10<x.dst)) || decide (x.src<0)) || decide (10<x.src)) || decide (x.off < -32768)) || decide (32768≤x.off))):=hdone _ (Array.mem_of_getElem? (i:=1) rfl) rfl _ rfl
   by_cases hb:(((((((((decide (x.kind<0) || decide (6<x.kind)) || !eqI x (usedI x)) || decide (x.dst<0)) || decide (10<x.dst)) || decide (x.src<0)) || decide (10<x.src)) || decide (x.off < -32768)) || decide (32768≤x.off)))=false
   case neg=>exact wpOp_no rfl (wanted_no 44 47 (((((((((decide (x.kind<0) || decide (6<x.kind)) || !eqI x (usedI x)) || decide (x.dst<0)) || decide (10<x.dst)) || decide (x.src<0)) || decide (10<x.src)) || decide (x.off < -32768)) || decide (32768≤x.off))) hg (by rw [hs];omega) rfl rfl rfl (by simpa using hb)) ⟨_,rfl,fun h=>absurd h hb,hS,fun _ _ _ h=>rmR_any h⟩
   refine wpOp_valw (v:=.bool (decide (x.imm < -2147483648))) (w':=w) rfl (wanted_yes 44 47 (((((((((decide (x.kind<0) || decide (6<x.kind)) || !eqI x (usedI x)) || decide (x.dst<0)) || decide (10<x.dst)) || decide (x.src<0)) || decide (10<x.src)) || decide (x.off < -32768)) || decide (32768≤x.off))) hg (by rw [hs];omega) rfl rfl rfl (by simpa using hb)) ?_ ⟨_,rfl,?_,hS,fun _ _ _ h=>rmR_any h⟩
   ·simp [execOp,Act.eval,s49 hb,go_sem]
   ·rw [own_put rfl (by rw [hs];omega)];exact fun _=>rfl
  ·obtain rfl:=Option.some.inj (show some _=some o from ho)
   have s47:a.tmps.getD 47 undef=.bool (((((((((decide (x.kind<0) || decide (6<x.kind)) || !eqI x (usedI x)) || decide (x.dst<0)) || decide (10<x.dst)) || decide (x.src<0)) || decide (10<x.src)) || decide (x.off < -32768)) || decide (32768≤x.off))):=hdone _ (Array.mem_of_getElem? (i:=0) rfl) rfl _ rfl
   have s50:((((((((decide (x.kind<0) || decide (6<x.kind)) || !eqI x (usedI x)) || decide (x.dst<0)) || decide (10<x.dst)) || decide (x.src<0)) || decide (10<x.src)) || decide (x.off < -32768)) || decide (32768≤x.off))=false→a.tmps.getD 50 undef=.bool (decide (x.imm < -2147483648)):=hdone _ (Array.mem_of_getElem? (i:=1) rfl) rfl _ rfl
   refine wpOp_val (v:=.bool ((((((((((decide (x.kind<0) || decide (6<x.kind)) || !eqI x (usedI x)) || decide (x.dst<0)) || decide (10<x.dst)) || decide (x.src<0)) || decide (10<x.src)) || decide (x.off < -32768)) || decide (32768≤x.off)) || decide (x.imm < -2147483648)))) (w':=w) rfl rfl ?_ ⟨_,rfl,?_,hS,fun _ _ _ h=>rmR_any h⟩
   ·(cases hb:((((((((decide (x.kind<0) || decide (6<x.kind)) || !eqI x (usedI x)) || decide (x.dst<0)) || decide (10<x.dst)) || decide (x.src<0)) || decide (10<x.src)) || decide (x.off < -32768)) || decide (32768≤x.off))) <;> first | (simp only [hb] at s47 s50;simp [execOp,Act.eval,s47,s50,go_sem];done) | (simp only [hb] at s47;simp [execOp,Act.eval,s47,go_sem];done)
   ·rw [own_put rfl (by rw [hs];omega)];exact rfl
  ·obtain rfl:=Option.some.inj (show some _=some o from ho)
   have s51:a.tmps.getD 51 undef=.bool ((((((((((decide (x.kind<0) || decide (6<x.kind)) || !eqI x (usedI x)) || decide (x.dst<0)) || decide (10<x.dst)) || decide (x.src<0)) || decide (10<x.src)) || decide (x.off < -32768)) || decide (32768≤x.off)) || decide (x.imm < -2147483648))):=hdone _ (Array.mem_of_getElem? (i:=0) rfl) rfl _ rfl
   refine wpOp_val (v:=.bool ((((((((((decide (x.kind<0) || decide (6<x.kind)) || !eqI x (usedI x)) || decide (x.dst<0)) || decide (10<x.dst)) || decide (x.src<0)) || decide (10<x.src)) || decide (x.off < -32768)) || decide (32768≤x.off)) || decide (x.imm < -2147483648)))) (w':=w) rfl rfl ?_ ⟨_,rfl,?_,hS,fun _ _ _ h=>rmR_any h⟩
   ·simp [execOp,Act.eval,s51]
   ·rw [own_put rfl (by rw [hs];omega)];exact rfl
  ·obtain rfl:=Option.some.inj (show some _=some o from ho)
   have hg:a.tmps.getD 52 undef=.bool ((((((((((decide (x.kind<0) || decide (6<x.kind)) || !eqI x (usedI x)) || decide (x.dst<0)) || decide (10<x.dst)) || decide (x.src<0)) || decide (10<x.src)) || decide (x.off < -32768)) || decide (32768≤x.off)) || decide (x.imm < -2147483648))):=hdone _ (Array.mem_of_getElem? (i:=0) rfl) rfl _ rfl
   by_cases hb:((((((((((decide (x.kind<0) || decide (6<x.kind)) || !eqI x (usedI x)) || decide (x.dst<0)) || decide (10<x.dst)) || decide (x.src<0)) || decide (10<x.src)) || decide (x.off < -32768)) || decide (32768≤x.off)) || decide (x.imm < -2147483648)))=false
   case neg=>exact wpOp_no rfl (wanted_no 49 52 ((((((((((decide (x.kind<0) || decide (6<x.kind)) || !eqI x (usedI x)) || decide (x.dst<0)) || decide (10<x.dst)) || decide (x.src<0)) || decide (10<x.src)) || decide (x.off < -32768)) || decide (32768≤x.off)) || decide (x.imm < -2147483648))) hg (by rw [hs];omega) rfl rfl rfl (by simpa using hb)) ⟨_,rfl,fun h=>absurd h hb,hS,fun _ _ _ h=>rmR_any h⟩
   refine wpOp_valw (v:=.pointer (some ⟨W.heap.size,8,none⟩)) (w':=w) rfl (wanted_yes 49 52 ((((((((((decide (x.kind<0) || decide (6<x.kind)) || !eqI x (usedI x)) || decide (x.dst<0)) || decide (10<x.dst)) || decide (x.src<0)) || decide (10<x.src)) || decide (x.off < -32768)) || decide (32768≤x.off)) || decide (x.imm < -2147483648))) hg (by rw [hs];omega) rfl rfl rfl (by simpa using hb)) ?_ ⟨_,rfl,?_,hS,fun _ _ _ h=>rmR_any h⟩
   ·simp [execOp,Act.eval,t1,go_sem]
   ·rw [own_put rfl (by rw [hs];omega)];exact fun _=>rfl
  ·obtain rfl:=Option.some.inj (show some _=some o from ho)
   have s53:(((((((((decide (x.kind<0) || decide (6<x.kind)) || !eqI x (usedI x)) || decide (x.dst<0)) || decide (10<x.dst)) || decide (x.src<0)) || decide (10<x.src)) || decide (x.off < -32768)) || decide (32768≤x.off)) || decide (x.imm < -2147483648))=false→a.tmps.getD 53 undef=.pointer (some ⟨W.heap.size,8,none⟩):=hdone _ (Array.mem_of_getElem? (i:=0) rfl) rfl _ rfl
   have hg:a.tmps.getD 52 undef=.bool ((((((((((decide (x.kind<0) || decide (6<x.kind)) || !eqI x (usedI x)) || decide (x.dst<0)) || decide (10<x.dst)) || decide (x.src<0)) || decide (10<x.src)) || decide (x.off < -32768)) || decide (32768≤x.off)) || decide (x.imm < -2147483648))):=hdone _ (Array.mem_of_getElem? (i:=1) rfl) rfl _ rfl
   by_cases hb:((((((((((decide (x.kind<0) || decide (6<x.kind)) || !eqI x (usedI x)) || decide (x.dst<0)) || decide (10<x.dst)) || decide (x.src<0)) || decide (10<x.src)) || decide (x.off < -32768)) || decide (32768≤x.off)) || decide (x.imm < -2147483648)))=false
   case neg=>exact wpOp_no rfl (wanted_no 49 52 ((((((((((decide (x.kind<0) || decide (6<x.kind)) || !eqI x (usedI x)) || decide (x.dst<0)) || decide (10<x.dst)) || decide (x.src<0)) || decide (10<x.src)) || decide (x.off < -32768)) || decide (32768≤x.off)) || decide (x.imm < -2147483648))) hg (by rw [hs];omega) rfl rfl rfl (by simpa using hb)) ⟨_,rfl,fun h=>absurd h hb,hS,fun _ _ _ h=>rmR_any h⟩
   have hc:w.cell? ⟨W.heap.size,8,none⟩=some (.int .i64 x.imm):=by simp only [World.cell?,hS.2];rfl
   refine wpOp_valw (v:=.int .i64 x.imm) (w':=w) rfl (wanted_yes 49 52 ((((((((((decide (x.kind<0) || decide (6<x.kind)) || !eqI x (usedI x)) || decide (x.dst<0)) || decide (10<x.dst)) || decide (x.src<0)) || decide (10<x.src)) || decide (x.off < -32768)) || decide (32768≤x.off)) || decide (x.imm < -2147483648))) hg (by rw [hs];omega) rfl rfl rfl (by simpa using hb)) ?_ ⟨_,rfl,?_,hS,fun _ _ _ h=>rmR_any h⟩
   ·simp [execOp,Act.eval,s53 hb,hc,go_sem]
   ·rw [own_put rfl (by rw [hs];omega)];exact fun _=>rfl
  ·obtain rfl:=Option.some.inj (show some _=some o from ho)
   have s54:(((((((((decide (x.kind<0) || decide (6<x.kind)) || !eqI x (usedI x)) || decide (x.dst<0)) || decide (10<x.dst)) || decide (x.src<0)) || decide (10<x.src)) || decide (x.off < -32768)) || decide (32768≤x.off)) || decide (x.imm < -2147483648))=false→a.tmps.getD 54 undef=.int .i64 x.imm:=hdone _ (Array.mem_of_getElem? (i:=0) rfl) rfl _ rfl
   have hg:a.tmps.getD 52 undef=.bool ((((((((((decide (x.kind<0) || decide (6<x.kind)) || !eqI x (usedI x)) || decide (x.dst<0)) || decide (10<x.dst)) || decide (x.src<0)) || decide (10<x.src)) || decide (x.off < -32768)) || decide (32768≤x.off)) || decide (x.imm < -2147483648))):=hdone _ (Array.mem_of_getElem? (i:=1) rfl) rfl _ rfl
   by_cases hb:((((((((((decide (x.kind<0) || decide (6<x.kind)) || !eqI x (usedI x)) || decide (x.dst<0)) || decide (10<x.dst)) || decide (x.src<0)) || decide (10<x.src)) || decide (x.off < -32768)) || decide (32768≤x.off)) || decide (x.imm < -2147483648)))=false
   case neg=>exact wpOp_no rfl (wanted_no 49 52 ((((((((((decide (x.kind<0) || decide (6<x.kind)) || !eqI x (usedI x)) || decide (x.dst<0)) || decide (10<x.dst)) || decide (x.src<0)) || decide (10<x.src)) || decide (x.off < -32768)) || decide (32768≤x.off)) || decide (x.imm < -2147483648))) hg (by rw [hs];omega) rfl rfl rfl (by simpa using hb)) ⟨_,rfl,fun h=>absurd h hb,hS,fun _ _ _ h=>rmR_any h⟩
   refine wpOp_valw (v:=.bool (decide (2147483648≤x.imm))) (w':=w) rfl (wanted_yes 49 52 ((((((((((decide (x.kind<0) || decide (6<x.kind)) || !eqI x (usedI x)) || decide (x.dst<0)) || decide (10<x.dst)) || decide (x.src<0)) || decide (10<x.src)) || decide (x.off < -32768)) || decide (32768≤x.off)) || decide (x.imm < -2147483648))) hg (by rw [hs];omega) rfl rfl rfl (by simpa using hb)) ?_ ⟨_,rfl,?_,hS,fun _ _ _ h=>rmR_any h⟩
   ·simp [execOp,Act.eval,s54 hb,go_sem]
   ·rw [own_put rfl (by rw [hs];omega)];exact fun _=>rfl
  ·obtain rfl:=Option.some.inj (show some _=some o from ho)
   have s52:a.tmps.getD 52 undef=.bool ((((((((((decide (x.kind<0) || decide (6<x.kind)) || !eqI x (usedI x)) || decide (x.dst<0)) || decide (10<x.dst)) || decide (x.src<0)) || decide (10<x.src)) || decide (x.off < -32768)) || decide (32768≤x.off)) || decide (x.imm < -2147483648))):=hdone _ (Array.mem_of_getElem? (i:=0) rfl) rfl _ rfl
   have s55:(((((((((decide (x.kind<0) || decide (6<x.kind)) || !eqI x (usedI x)) || decide (x.dst<0)) || decide (10<x.dst)) || decide (x.src<0)) || decide (10<x.src)) || decide (x.off < -32768)) || decide (32768≤x.off)) || decide (x.imm < -2147483648))=false→a.tmps.getD 55 undef=.bool (decide (2147483648≤x.imm)):=hdone _ (Array.mem_of_getElem? (i:=1) rfl) rfl _ rfl
   refine wpOp_val (v:=.bool (((((((((((decide (x.kind<0) || decide (6<x.kind)) || !eqI x (usedI x)) || decide (x.dst<0)) || decide (10<x.dst)) || decide (x.src<0)) || decide (10<x.src)) || decide (x.off < -32768)) || decide (32768≤x.off)) || decide (x.imm < -2147483648)) || decide (2147483648≤x.imm)))) (w':=w) rfl rfl ?_ ⟨_,rfl,?_,hS,fun _ _ _ h=>rmR_any h⟩
   ·(cases hb:(((((((((decide (x.kind<0) || decide (6<x.kind)) || !eqI x (usedI x)) || decide (x.dst<0)) || decide (10<x.dst)) || decide (x.src<0)) || decide (10<x.src)) || decide (x.off < -32768)) || decide (32768≤x.off)) || decide (x.imm < -2147483648))) <;> first | (simp only [hb] at s52 s55;simp [execOp,Act.eval,s52,s55,go_sem];done) | (simp only [hb] at s52;simp [execOp,Act.eval,s52,go_sem];done)
   ·rw [own_put rfl (by rw [hs];omega)];exact rfl
 case hq=>
  intro u w' hS hR
  have f:u 56=.bool (((((((((((decide (x.kind<0) || decide (6<x.kind)) || !eqI x (usedI x)) || decide (x.dst<0)) || decide (10<x.dst)) || decide (x.src<0)) || decide (10<x.src)) || decide (x.off < -32768)) || decide (32768≤x.off)) || decide (x.imm < -2147483648)) || decide (2147483648≤x.imm))):=hR 53 _ rfl
  clear hR
  rw [show outs _ u=[(3,u 3),(4,u 4),(5,u 5),(6,u 6),(7,u 7),(8,u 8),(9,u 9),(10,u 10),(11,u 11),(12,u 12),(13,u 13),(14,u 14),(15,u 15),(16,u 16),(17,u 17),(18,u 18),(19,u 19),(20,u 20),(21,u 21),(22,u 22),(23,u 23),(24,u 24),(25,u 25),(26,u 26),(27,u 27),(28,u 28),(29,u 29),(30,u 30),(31,u 31),(32,u 32),(33,u 33),(34,u 34),(35,u 35),(36,u 36),(37,u 37),(38,u 38),(39,u 39),(40,u 40),(41,u 41),(42,u 42),(43,u 43),(44,u 44),(45,u 45),(46,u 46),(47,u 47),(48,u 48),(49,u 49),(50,u 50),(51,u 51),(52,u 52),(53,u 53),(54,u 54),(55,u 55),(56,u 56)] by kernel_rfl,f]
  simp only [putAll,List.setIfInBounds_toArray,List.set_cons_zero,List.set_cons_succ]
  generalize u 3=x3;generalize u 4=x4;generalize u 5=x5;generalize u 6=x6;generalize u 7=x7;generalize u 8=x8;generalize u 9=x9;generalize u 10=x10;generalize u 11=x11;generalize u 12=x12;generalize u 13=x13;generalize u 14=x14;generalize u 15=x15;generalize u 16=x16;generalize u 17=x17;generalize u 18=x18;generalize u 19=x19;generalize u 20=x20;generalize u 21=x21;generalize u 22=x22;generalize u 23=x23;generalize u 24=x24;generalize u 25=x25;generalize u 26=x26;generalize u 27=x27;generalize u 28=x28;generalize u 29=x29;generalize u 30=x30;generalize u 31=x31;generalize u 32=x32;generalize u 33=x33;generalize u 34=x34;generalize u 35=x35;generalize u 36=x36;generalize u 37=x37;generalize u 38=x38;generalize u 39=x39;generalize u 40=x40;generalize u 41=x41;generalize u 42=x42;generalize u 43=x43;generalize u 44=x44;generalize u 45=x45;generalize u 46=x46;generalize u 47=x47;generalize u 48=x48;generalize u 49=x49;generalize u 50=x50;generalize u 51=x51;generalize u 52=x52;generalize u 53=x53;generalize u 54=x54;generalize u 55=x55
  clear f u
  have B:=Lib.hid hS.1
  have hrow:=hS.2
  clear hS
  cases hbad:badI x
  case true=>
   obtain rfl:m=false:=HM.out.symm.trans (bad_no hbad)
   have hq:(((((((((((decide (x.kind<0) || decide (6<x.kind)) || !eqI x (usedI x)) || decide (x.dst<0)) || decide (10<x.dst)) || decide (x.src<0)) || decide (10<x.src)) || decide (x.off < -32768)) || decide (32768≤x.off)) || decide (x.imm < -2147483648)) || decide (2147483648≤x.imm)))=true:=hbad
   rw [hq]
   clear hq hbad hrow
   go_wp2_with fail
   go_ret
   exact ⟨rfl,B.out⟩
  have hq:(((((((((((decide (x.kind<0) || decide (6<x.kind)) || !eqI x (usedI x)) || decide (x.dst<0)) || decide (10<x.dst)) || decide (x.src<0)) || decide (10<x.src)) || decide (x.off < -32768)) || decide (32768≤x.off)) || decide (x.imm < -2147483648)) || decide (2147483648≤x.imm)))=false:=hbad
  rw [hq]
  clear hq
  obtain ⟨hm,hk,hd⟩:=bad_yes hbad
  have HK:=Lib.hid (hm.symm.trans HM.out)
  clear hm hbad HM
  obtain ⟨n0,n1,n2,n3,n4,n5,n6,n7,n8⟩:=nine_of hrow
  clear hrow
  generalize x.cells=cc at *
  obtain ⟨kind,op,width,size,byReg,dst,src,off,imm⟩:=x
  simp only at *
  have hkc:kind=0∨kind=1∨kind=2∨kind=3∨kind=4∨kind=5∨kind=6:=by omega
  clear hk
  rcases hkc with rfl | rfl | rfl | rfl | rfl | rfl | rfl
  ·go_wp2_with fail
   all_goals
    go_ret
    exact ⟨retB (by rw [← HK.out];unfold kindI;rw [Bool.eq_iff_iff,decide_eq_true_iff];simp <;> omega),B.out⟩
  ·by_cases hz:size=1∨size=2∨size=4∨size=8
   ·have HZ:=Lib.hid (fun W=>r_sized_t size W hz)
    go_wp2_with (go_at_call 75;refine (HZ.out _).mono ?_;rintro e w9 ⟨rfl,rfl⟩)
    all_goals
     go_ret
     exact ⟨retB (by rw [← HK.out];unfold kindI;rw [Bool.eq_iff_iff,decide_eq_true_iff];simp <;> omega),B.out⟩
   ·have HZ:=Lib.hid (fun W=>r_sized_f size W hz)
    go_wp2_with (go_at_call 75;refine (HZ.out _).mono ?_;rintro e w9 ⟨rfl,rfl⟩)
    all_goals
     go_ret
     exact ⟨retB (by rw [← HK.out];unfold kindI;rw [Bool.eq_iff_iff,decide_eq_true_iff];simp <;> omega),B.out⟩
  ·by_cases hz:size=1∨size=2∨size=4∨size=8
   ·have HZ:=Lib.hid (fun W=>r_sized_t size W hz)
    go_wp2_with (go_at_call 75;refine (HZ.out _).mono ?_;rintro e w9 ⟨rfl,rfl⟩)
    go_ret
    exact ⟨retB (by rw [← HK.out];unfold kindI;rw [Bool.eq_iff_iff,decide_eq_true_iff];simp <;> omega),B.out⟩
   ·have HZ:=Lib.hid (fun W=>r_sized_f size W hz)
    go_wp2_with (go_at_call 75;refine (HZ.out _).mono ?_;rintro e w9 ⟨rfl,rfl⟩)
    go_ret
    exact ⟨retB (by rw [← HK.out];unfold kindI;rw [Bool.eq_iff_iff,decide_eq_true_iff];simp <;> omega),B.out⟩
  ·go_wp2_with fail
   all_goals
    go_ret
    exact ⟨retB (by rw [← HK.out];unfold kindI;rw [Bool.eq_iff_iff,decide_eq_true_iff];simp <;> omega),B.out⟩
  ·go_wp2_with fail
   go_ret
   exact ⟨retB (by rw [← HK.out];unfold kindI;rw [Bool.eq_iff_iff,decide_eq_true_iff];simp <;> omega),B.out⟩
  ·go_wp2_with fail
   all_goals
    go_ret
    exact ⟨retB (by rw [← HK.out];unfold kindI;rw [Bool.eq_iff_iff,decide_eq_true_iff];simp <;> omega),B.out⟩
  ·go_wp2_with fail
   go_ret
   exact ⟨retB (by rw [← HK.out];unfold kindI;rw [Bool.eq_iff_iff,decide_eq_true_iff];simp <;> omega),B.out⟩
end Go.Proofs.YtigliofiojkhcaaGreat.Ins
