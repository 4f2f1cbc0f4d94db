import Derived.Test.YtjhedldplmhmjaaDoorERd30
import Derived.Test.YtjhedldplmhmjaaDoorERd16
import Derived.Test.YtjhedldplmhmjaaDoorERd01
set_option linter.unusedVariables false
set_option linter.unusedSimpArgs false
set_option linter.unnecessarySimpa false
namespace Go.Proofs.YtjhedldplmhmjaaDoor.Mrm
open Go Go.RowKit
set_option linter.unusedVariables false
set_option linter.unusedSimpArgs false
set_option linter.unnecessarySimpa false
set_option maxRecDepth 100000
def hiB (r:Int):Int:=if 7 < r then 8 else 0
def stripH (l:List Int):Bool × List Int:=if l.headD 0=102 then (true,l.tail) else (false,l)
theorem rexN_fin (wd:Bool):∀ r m:Fin 16,(64 + rexN wd r.1 m.1) / 16=4 ∧ decide ((64 + rexN wd r.1 m.1) / 8 % 2=1)=wd ∧ (64 + rexN wd r.1 m.1) / 4 % 2 * 8=hiB r.1 ∧ (64 + rexN wd r.1 m.1) % 2 * 8=hiB m.1 ∧ (rexN wd r.1 m.1=0 → wd=false ∧ hiB r.1=0 ∧ hiB m.1=0):=by cases wd <;> decide +kernel
theorem rexN_is (wd:Bool) {r m:Int} (hr:0 ≤ r ∧ r < 16) (hm:0 ≤ m ∧ m < 16):(64 + rexN wd r m) / 16=4 ∧ decide ((64 + rexN wd r m) / 8 % 2=1)=wd ∧ (64 + rexN wd r m) / 4 % 2 * 8=hiB r ∧ (64 + rexN wd r m) % 2 * 8=hiB m ∧ (rexN wd r m=0 → wd=false ∧ hiB r=0 ∧ hiB m=0):=by
  have:=rexN_fin wd ⟨r.toNat,by omega⟩ ⟨m.toNat,by omega⟩
  simp only [Int.toNat_of_nonneg hr.1,Int.toNat_of_nonneg hm.1] at this
  exact this
theorem numL4 (v:Int):numL v 4=[v % 256,v / 256 % 256,v / 65536 % 256,v / 16777216 % 256]:=by
  show [v / 2 ^ (8 * 0) % 256,v / 2 ^ (8 * 1) % 256,v / 2 ^ (8 * 2) % 256,v / 2 ^ (8 * 3) % 256]=_
  simp
theorem bytes_ok (x:Xi) (hX:XOk x) (h:mayX x=true):Oks (bytesX x):=by
  rw [← encX_is x hX h]
  unfold encX encP operandP immP
  refine Oks.append (Oks.append (aheadP_ok _ _ _) ?_) (numL_ok _ _)
  cases inMemB (codeOfP x.op x.w).1.sh
  · cases inOpB (codeOfP x.op x.w).1.sh
    · intro z hz;cases hz
    · exact regL_ok _ _
  · exact memL_ok _ _ _
theorem may_two {x:Xi} (h:mayX x=true):fourB x.disp=true ∧ fourB x.imm=true ∧ ((clsI x.op=8 ∨ clsI x.op=9) → x.w=8 → oneB x.imm=true):=by
  unfold mayX at h
  simp only [Bool.and_eq_true] at h
  refine ⟨h.2.2.2.2.2.1,h.2.2.2.2.2.2.1,fun hk hw=>?_⟩
  have hb:=h.2.2.2.2.2.2.2
  rcases hk with hk | hk <;> rw [hk] at hb <;> unfold clsB jmpB at hb <;> rw [hw] at hb <;> simp at hb
  · exact hb
  · exact hb.1
theorem bytes_some (x:Xi) (hX:XOk x) (h:mayX x=true):1 ≤ (bytesX x).length:=by
  rw [← encX_is x hX h]
  unfold encX encP aheadP
  simp only [List.length_append,List.length_cons,List.length_nil]
  omega
theorem may_ok {x:Xi} (h:mayX x=true):XOk x:=by
  unfold mayX at h
  simp only [Bool.and_eq_true] at h
  obtain ⟨h0,h1,h2,h3,h4,h5,h6,h7⟩:=h
  have he:=eqX_iff.1 h1
  have hw:x.w=(if clsI x.op < 10 then x.w else 0):=congrArg Xi.w he
  have hc:x.cc=(if clsI x.op=5 ∨ clsI x.op=9 then x.cc else 0):=congrArg Xi.cc he
  unfold regB at h2 h3 h4
  unfold fourB at h5 h6
  simp only [Bool.and_eq_true,decide_eq_true_eq] at h2 h3 h4 h5 h6
  have ho:0 ≤ x.op ∧ x.op < 32:=by
    by_cases hn:0 ≤ x.op ∧ x.op < 32
    · exact hn
    · unfold clsI at h0
      rw [if_neg hn] at h0
      exact absurd h0 (by decide)
  have key:(-128 ≤ x.w ∧ x.w < 128) ∧ (-128 ≤ x.cc ∧ x.cc < 128):=by
    clear h1 he h2 h3 h4 h5 h6
    rcases clsI_cases x.op with hk | hk | hk | hk | hk | hk | hk | hk | hk | hk | hk <;> rw [hk] at hw hc h7 h0 <;> simp [clsB,longB,widB,jmpB,ccB] at hw hc h7 h0 <;> omega
  exact ⟨by omega,key.1,by omega,by omega,by omega,by omega,by omega,key.2⟩
end Go.Proofs.YtjhedldplmhmjaaDoor.Mrm
namespace Go.Proofs.YtjhedldplmhmjaaDoor.Mrm
open Go Go.RowKit
set_option linter.unusedVariables false
set_option linter.unnecessarySimpa false
set_option linter.unusedSimpArgs false
set_option maxRecDepth 100000
def dW (a:Option Addr) (len c:Nat) (W:World):World:=((W.alloc (.cells (xC zX) 26)).alloc (.cells (rC (.slice a len c) rd0) 39)).alloc (.cells (xC ⟨-1,32,0,0,0,0,0,0⟩) 26)
theorem dW_below (a:Option Addr) (len c:Nat) (W:World):Below W.heap.size W (dW a len c W):=
  (((Below.refl _ _).alloc (Nat.le_refl _) _).alloc (by show W.heap.size ≤ (W.heap.push _).size;simp) _).alloc (by show W.heap.size ≤ ((W.heap.push _).push _).size;simp only [Array.size_push];omega) _
theorem dW_rows (a:Option Addr) (len c:Nat) (W:World):(dW a len c W).heap.size=W.heap.size + 3 ∧ (dW a len c W).heap[W.heap.size]?=some (.cells (xC zX) 26 (0,0)) ∧ (dW a len c W).heap[W.heap.size + 1]?=some (.cells (rC (.slice a len c) rd0) 39 (0,0)) ∧ (dW a len c W).heap[W.heap.size + 2]?=some (.cells (xC ⟨-1,32,0,0,0,0,0,0⟩) 26 (0,0)):=by
  show (((W.heap.push _).push _).push _).size=_ ∧ (((W.heap.push _).push _).push _)[W.heap.size]?=_ ∧ (((W.heap.push _).push _).push _)[W.heap.size + 1]?=_ ∧ (((W.heap.push _).push _).push _)[W.heap.size + 2]?=_
  have e1:W.heap.size ≠ W.heap.size + 1:=by omega
  have e2:W.heap.size ≠ W.heap.size + 1 + 1:=by omega
  have e3:W.heap.size + 1 ≠ W.heap.size + 1 + 1:=by omega
  refine ⟨by simp,?_,?_,?_⟩
  · rw [Array.getElem?_push,if_neg (by simp only [Array.size_push];omega),Array.getElem?_push,if_neg (by simp only [Array.size_push];omega),Array.getElem?_push,if_pos rfl]
  · rw [Array.getElem?_push,if_neg (by simp only [Array.size_push];omega),Array.getElem?_push,if_pos (by simp only [Array.size_push])]
  · rw [Array.getElem?_push,if_pos (by simp only [Array.size_push])]
theorem dW_rd {a:Option Addr} {len c:Nat} {l:List Int} {W:World} (h:BytesAt W a len c l) (hb:∀ ad,a=some ad → 0 < len → ad.block < W.heap.size):RdAt (W.heap.size + 1) a len c l rd0 (dW a len c W):=
  ⟨(dW_rows a len c W).2.2.1,h.below (dW_below a len c W),fun ad e h=>by have:=hb ad e h;omega,Int.le_refl _,by show (0:Int) ≤ len;omega⟩
theorem results_row3 {fn:Func} {p u v:Tmp} {ty:TypeId} (h:fn.results=#[.cell p ty,.tmp u,.tmp v]) (tmps:Array Value) (P:Program) (w:World) (g:Nat) (cs:Array Value)
    (hp:tmps.getD p undef=.pointer (some ⟨g,0,none⟩)) (hr:(loadVar ty ⟨g,0,none⟩).run P w=.ok (.agg cs) w):
    (results fn tmps).run P w=.ok (.tuple #[.agg cs,tmps.getD u undef,tmps.getD v undef]) w:=by
  have hp':tmps[p]?.getD undef=.pointer (some ⟨g,0,none⟩):=by simpa using hp
  simp [results,h,hp',asAddr,hr,Sem.run_bind,Result.andThen]
end Go.Proofs.YtjhedldplmhmjaaDoor.Mrm
namespace Go.Proofs.YtjhedldplmhmjaaDoor.Mrm
open Go Go.RowKit
set_option linter.unusedVariables false
set_option linter.unusedSimpArgs false
set_option maxRecDepth 100000
theorem pre1S_rm (l:List Int):(pre1S l rd0).r=0 ∧ (pre1S l rd0).m=0:=by
  have h1:=byteS_r l rd0
  have h2:=byteS_r l (byteS l rd0)
  unfold pre1S
  split
  · exact ⟨h2.1.trans h1.1,h2.2.1.trans h1.2.1⟩
  · exact ⟨h1.1,h1.2.1⟩
theorem preS_rm (l:List Int):(0 ≤ (preS l rd0).r ∧ (preS l rd0).r ≤ 1) ∧ (0 ≤ (preS l rd0).m ∧ (preS l rd0).m ≤ 1):=by
  have h1:=pre1S_rm l
  have h2:=byteS_r l (rexS (pre1V l rd0) (pre1S l rd0))
  unfold preS
  split
  · rw [h2.1,h2.2.1]
    unfold rexS
    simp only
    omega
  · rw [h1.1,h1.2]
    omega
theorem below_own {B:Nat} {W w:World} (h:Below B W w) {b:Nat} (hb:B ≤ b) (i:Nat) (v:Value):Below B W (w.setCell ⟨b,i,none⟩ v):=
  h.trans ⟨rfl,rfl,rfl,by rw [Deep.nblk_setCell];exact Nat.le_refl _,fun k hk=>setCell_past _ _ _ _ (show k ≠ b by omega)⟩
theorem below_own8 {B:Nat} {W w:World} (h:Below B W w) {b:Nat} (hb:B ≤ b) (v0 v1 v2 v3 v4 v5 v6 v7:Value):
    Below B W ((((((((w.setCell ⟨b,0,none⟩ v0).setCell ⟨b,1,none⟩ v1).setCell ⟨b,2,none⟩ v2).setCell ⟨b,3,none⟩ v3).setCell ⟨b,4,none⟩ v4).setCell ⟨b,5,none⟩ v5).setCell ⟨b,6,none⟩ v6).setCell ⟨b,7,none⟩ v7):=
  below_own (below_own (below_own (below_own (below_own (below_own (below_own (below_own h hb 0 v0) hb 1 v1) hb 2 v2) hb 3 v3) hb 4 v4) hb 5 v5) hb 6 v6) hb 7 v7
end Go.Proofs.YtjhedldplmhmjaaDoor.Mrm
namespace Go.Proofs.YtjhedldplmhmjaaDoor.Mrm
open Go Go.RowKit
set_option linter.unusedVariables false
set_option linter.unusedSimpArgs false
set_option maxRecDepth 100000
structure DK (a:Option Addr) (len c:Nat) (l:List Int) (W:World) (s:Rdr) (x:Xi) (w:World):Prop where
  rd:RdAt (W.heap.size + 1) a len c l s w
  x:w.heap[W.heap.size + 2]?=some (.cells (xC x) 26 (0,0))
  z:w.heap[W.heap.size]?=some (.cells (xC zX) 26 (0,0))
  b:Below W.heap.size W w
  sz:W.heap.size + 3 ≤ w.heap.size
  ap:∀ ad,a=some ad → 0 < len → ad.block < W.heap.size
section
variable {a:Option Addr} {len c:Nat} {l:List Int} {W w w':World} {s t:Rdr} {x y:Xi}
theorem DK.start (h:BytesAt W a len c l) (hb:∀ ad,a=some ad → 0 < len → ad.block < W.heap.size):DK a len c l W rd0 ⟨-1,32,0,0,0,0,0,0⟩ (dW a len c W):=
  ⟨dW_rd h hb,(dW_rows a len c W).2.2.2,(dW_rows a len c W).2.1,dW_below a len c W,Nat.le_of_eq (dW_rows a len c W).1.symm,hb⟩
theorem DK.call (K:DK a len c l W s x w) (r:Red (W.heap.size + 1) a len c l t w w'):DK a len c l W t x w':=
  ⟨r.1,(r.2.block _ (by have:=K.sz;omega) (by omega)).trans K.x,(r.2.block _ (by have:=K.sz;omega) (by omega)).trans K.z,below_gx K.b r.2 (by have:=K.sz;omega) (by omega),by have:=K.sz;have:=r.2.size;omega,K.ap⟩
theorem DK.on (K:DK a len c l W s x w) (b:Below w.heap.size w w'):DK a len c l W s x w':=K.call ⟨K.rd.below b,.of b⟩
theorem DK.set (K:DK a len c l W s x w) (i:Nat) (v:Value) (y:Xi) (e:(xC x).setIfInBounds i v=xC y):DK a len c l W s y (w.setCell ⟨W.heap.size + 2,i,none⟩ v):=by
  have G:Gx (W.heap.size + 2) w (w.setCell ⟨W.heap.size + 2,i,none⟩ v):=(Gx.refl _ _).set _ i v
  have hs:=K.sz
  refine ⟨⟨(setCell_past _ _ _ _ (show W.heap.size + 1 ≠ W.heap.size + 2 by omega)).trans K.rd.blk,K.rd.bytes.gx G (fun ad e h=>by have:=K.ap ad e h;omega),K.rd.apart,K.rd.lo,K.rd.hi⟩,?_,(setCell_past _ _ _ _ (show W.heap.size ≠ W.heap.size + 2 by omega)).trans K.z,below_own K.b (by omega) i v,by rw [Deep.nblk_setCell];exact hs,K.ap⟩
  rw [setCell_row K.x i v,e]
theorem DK.cells (K:DK a len c l W s x w):w.cell? ⟨W.heap.size + 2,0,none⟩=some (.int .i8 x.op) ∧ w.cell? ⟨W.heap.size + 2,1,none⟩=some (.int .i8 x.w) ∧ w.cell? ⟨W.heap.size + 2,2,none⟩=some (.int .i8 x.dst) ∧ w.cell? ⟨W.heap.size + 2,3,none⟩=some (.int .i8 x.src) ∧ w.cell? ⟨W.heap.size + 2,4,none⟩=some (.int .i8 x.base) ∧ w.cell? ⟨W.heap.size + 2,5,none⟩=some (.int .i64 x.disp) ∧ w.cell? ⟨W.heap.size + 2,6,none⟩=some (.int .i64 x.imm) ∧ w.cell? ⟨W.heap.size + 2,7,none⟩=some (.int .i8 x.cc) ∧ ∀ i,w.frozen? ⟨W.heap.size + 2,i,none⟩=false:=xcells8 K.x
end
structure DK0 (a:Option Addr) (len c:Nat) (l:List Int) (W:World) (s:Rdr) (x:Xi) (w:World):Prop where
  rd:RdAt (W.heap.size + 1) a len c l s w
  x:w.heap[W.heap.size + 2]?=some (.cells (xC x) 26 (0,0))
  ap:∀ ad,a=some ad → 0 < len → ad.block < W.heap.size
theorem DK.zero {a:Option Addr} {len c:Nat} {l:List Int} {W w:World} {s:Rdr} {x:Xi} (K:DK a len c l W s x w):DK0 a len c l W s x w:=⟨K.rd,K.x,K.ap⟩
theorem DK0.drew {a:Option Addr} {len c:Nat} {l:List Int} {W w:World} {s:Rdr} {x:Xi} (K:DK0 a len c l W s x w):DK0 a len c l W s x w.drew:=
  ⟨K.rd.below (Below.drew (Below.refl _ _)),K.x,K.ap⟩
theorem DK0.setz {a:Option Addr} {len c:Nat} {l:List Int} {W w:World} {s:Rdr} {x:Xi} (K:DK0 a len c l W s x w) (i:Nat) (v:Value):DK0 a len c l W s x (w.setCell ⟨W.heap.size,i,none⟩ v):=
  ⟨⟨(setCell_past _ _ _ _ (show W.heap.size + 1 ≠ W.heap.size by omega)).trans K.rd.blk,K.rd.bytes.gx ((Gx.refl _ _).set _ i v) (fun ad e h=>by have:=K.ap ad e h;omega),K.rd.apart,K.rd.lo,K.rd.hi⟩,(setCell_past _ _ _ _ (show W.heap.size + 2 ≠ W.heap.size by omega)).trans K.x,K.ap⟩
theorem DK.store {a:Option Addr} {len c:Nat} {l:List Int} {W w w':World} {s:Rdr} {x y:Xi} {T:TypeId} (hT:T=26) (K:DK a len c l W s x w) (S:Stored w (W.heap.size + 2) (xC y) T w'):DK a len c l W s y w':=by
  subst hT
  have G:Gx (W.heap.size + 2) w w':=⟨S.os,S.tape,S.output,Nat.le_of_eq S.size.symm,fun k _ hk=>S.other k hk⟩
  exact ⟨⟨(S.other _ (by omega)).trans K.rd.blk,K.rd.bytes.gx G (fun ad e h=>by have:=K.ap ad e h;omega),K.rd.apart,K.rd.lo,K.rd.hi⟩,S.row,(S.other _ (by omega)).trans K.z,S.below K.b (by omega),by rw [S.size];exact K.sz,K.ap⟩
end Go.Proofs.YtjhedldplmhmjaaDoor.Mrm
