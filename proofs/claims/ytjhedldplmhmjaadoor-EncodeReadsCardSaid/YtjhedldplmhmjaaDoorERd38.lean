import Derived.Test.YtjhedldplmhmjaaDoorERd37
import Derived.Test.YtjhedldplmhmjaaDoorERd17
import Derived.Test.YtjhedldplmhmjaaDoorRows
import Derived.RangeFuncWrites
import Derived.RangeFuncLeaves
import Derived.Shelf.Abstract
import Derived.WalkKit
import Derived.OwnWalkIn
import Derived.TacticsInMore
import Derived.LoopNIn
import Derived.LoopIn
set_option linter.unusedVariables false
set_option linter.unusedSimpArgs false
set_option linter.unnecessarySimpa false
namespace Go.Proofs.YtjhedldplmhmjaaDoor.Mrm
open Go Go.RowKit
set_option linter.unusedVariables false
set_option linter.unusedSimpArgs false
set_option linter.unnecessarySimpa false
set_option maxRecDepth 100000
def memG (l:List Int):Bool:=decide (128 ≤ l.getD 0 0) && memOk l
def rgF (l:List Int):Int:=if regOk l=true then l.getD 0 0 / 8 % 8 else if memG l=true then l.getD 0 0 / 8 % 8 else 0
def rmF (l:List Int):Int:=if regOk l=true then l.getD 0 0 % 8 else if memG l=true then l.getD 0 0 % 8 else 0
def dF (l:List Int):Int:=if regOk l=true then 0 else if memG l=true then sgn ((l.drop (atN (l.getD 0 0))).take 4) else 0
def meF (l:List Int):Bool:=if regOk l=true then false else if memG l=true then true else false
def nF (l:List Int):Nat:=if regOk l=true then 1 else if memG l=true then atN (l.getD 0 0) + 4 else 0
def erF (l:List Int):Int:=if regOk l=true then 0 else if memG l=true then 0 else 30
theorem readV_is (l:List Int):readV l=.tuple #[.int .i8 (rgF l),.int .i8 (rmF l),.int .i64 (dF l),.bool (meF l),.int .i64 (nF l:Int),.int .i64 (erF l)]:=by
  unfold readV rgF rmF dF meF nF erF
  by_cases h:regOk l=true
  · simp only [h,if_true];rfl
  · simp only [h,if_false]
    by_cases h2:memG l=true
    · rw [if_pos (show (decide (128 ≤ l.getD 0 0) && memOk l)=true from h2)]
      simp only [h2,if_true];rfl
    · rw [if_neg (show ¬ (decide (128 ≤ l.getD 0 0) && memOk l)=true from h2)]
      simp only [h2,if_false];rfl
theorem nF_le (l:List Int):nF l ≤ l.length:=by
  unfold nF
  split
  · rename_i h
    cases l with
    | nil=>exact absurd h (by decide)
    | cons=>simp
  · split
    · rename_i h
      unfold memG at h
      exact (memOk_iff.1 (Bool.and_eq_true_iff.1 h).2).2.1
    · omega
def partsF (f:Fd) (c:Cd):Pt:=
  ⟨bits .or .i8 (bif inOpB c.sh then rgF f.bh else 0) f.rh,bits .or .i8 (bif inOpB c.sh then rmF f.bh else bif c.sh == 6 then IntKind.i8.wrap (bits .and .u16 f.va 7) else 0) f.mh,bif inOpB c.sh then dF f.bh else 0,
    sgn ((f.bh.drop (bif inOpB c.sh then nF f.bh else 0)).take (immN c.sh).toNat),bif c.lo == 15 then IntKind.i8.wrap (bits .and .u16 f.va 15) else 0⟩
theorem take_min (l:List Int) (n k:Nat):(l.drop n).take (min (l.length - n) k)=(l.drop n).take k:=by
  by_cases h:k ≤ l.length - n
  · rw [Nat.min_eq_right h]
  · rw [Nat.min_eq_left (by omega),List.take_of_length_le (by simp),List.take_of_length_le (by simp;omega)]
theorem min_cast (a b:Nat):min (a:Int) (b:Int)=((min a b:Nat):Int):=by omega
set_option maxHeartbeats 1000000 in
theorem pop_n (g B o len cap k:Nat) (f:Fd) (sh at_ va dg lo:Int) (W:World) (hf:W.heap[g]?=some (.cells (fdC f (.slice (some ⟨B,o,none⟩) len cap)) 56 (0,0))) (hb:BytesAt W (some ⟨B,o,none⟩) len cap f.bh) (v0:0 ≤ f.va) (v1:f.va < 65536)
    (IO:Hid (∀ W,Calls Tryd.prog 51 #[.int .i8 sh] W fun e w'=>e=.returned (.bool true) ∧ W=w'))
    (IM:Hid (∀ W,Calls Tryd.prog 53 #[.int .i8 sh] W fun e w'=>e=.returned (.int .i64 (k:Int)) ∧ W=w')):
    Calls Tryd.prog 27 #[.pointer (some ⟨g,0,none⟩),.agg #[.int .i8 sh,.int .i8 at_,.int .u16 va,.int .i8 dg,.int .u16 lo]] W fun e w'=>e=.returned (.agg #[.int .i8 (bits .or .i8 (rgF f.bh) f.rh),.int .i8 (bits .or .i8 (rmF f.bh) f.mh),.int .i64 (dF f.bh),.int .i64 (sgn ((f.bh.drop (nF f.bh)).take k)),.int .i8 (bif lo == 15 then IntKind.i8.wrap (bits .and .u16 f.va 15) else 0)]) ∧ Below W.heap.size W w':=by
  have hs:=hb.size
  have hle:=hb.le
  have hfit:=hb.fit
  have hn:=nF_le f.bh
  have RD:=Lib.hid (fun (w:World) (b:Below W.heap.size W w)=>show Calls Tryd.prog 57 #[.slice (some ⟨B,o,none⟩) len cap] w fun e w'=>e=.returned (.tuple #[.int .i8 (rgF f.bh),.int .i8 (rmF f.bh),.int .i64 (dF f.bh),.bool (meF f.bh),.int .i64 (nF f.bh:Int),.int .i64 (erF f.bh)]) ∧ Below w.heap.size w w' from by
    have q:=read_n _ len cap f.bh w (hb.below b)
    rw [readV_is] at q
    exact q)
  by_cases hcap:nF f.bh < cap
  · have SG:=Lib.hid (fun (w:World) (b:Below W.heap.size W w)=>signed_n (some ⟨B,o + nF f.bh,none⟩) (min (len - nF f.bh) k) (cap - nF f.bh) _ w ((at_cut hb (nF f.bh) (min (len - nF f.bh) k) (cap - nF f.bh) (by omega) (by omega) (by omega)).below b))
    rw [hs,take_min] at SG
    rw [← hs] at SG
    by_cases hlo:lo=15
    · subst hlo
      exact parts_oph g B o len cap (nF f.bh) _ k f.wide (meF f.bh) f.rh f.mh f.va (rgF f.bh) (rmF f.bh) (dF f.bh) (erF f.bh) _ sh at_ va dg W hf v0 v1 (by omega) hle hfit hcap IO IM RD SG (min_cast _ _)
    · rw [show (lo == 15)=false from beq_eq_false_iff_ne.2 hlo,cond_false]
      exact parts_op g B o len cap (nF f.bh) _ k f.wide (meF f.bh) f.rh f.mh f.va (rgF f.bh) (rmF f.bh) (dF f.bh) (erF f.bh) _ sh at_ va dg lo W hf v0 v1 (by omega) hle hfit hlo hcap IO IM RD SG (min_cast _ _)
  · obtain rfl:len=nF f.bh:=by omega
    obtain rfl:cap=nF f.bh:=by omega
    have SG:=Lib.hid (fun (w:World) (b:Below W.heap.size W w)=>signed_n (some ⟨B,o,none⟩) 0 0 [] w (at_empty w B o 0 (by decide)))
    have e0:(f.bh.drop (nF f.bh)).take k=[]:=by rw [List.drop_of_length_le (by omega),List.take_nil]
    rw [e0]
    by_cases hlo:lo=15
    · subst hlo
      exact parts_ophe g B o (nF f.bh) k f.wide (meF f.bh) f.rh f.mh f.va (rgF f.bh) (rmF f.bh) (dF f.bh) (erF f.bh) _ sh at_ va dg W hf v0 v1 hfit IO IM RD SG (by omega)
    · rw [show (lo == 15)=false from beq_eq_false_iff_ne.2 hlo,cond_false]
      exact parts_ope g B o (nF f.bh) k f.wide (meF f.bh) f.rh f.mh f.va (rgF f.bh) (rmF f.bh) (dF f.bh) (erF f.bh) _ sh at_ va dg lo W hf v0 v1 hfit hlo IO IM RD SG (by omega)
theorem sg_not (B o len cap k:Nat) (l:List Int) (W:World) (hb:BytesAt W (some ⟨B,o,none⟩) len cap l) (w:World) (b:Below W.heap.size W w):Calls Tryd.prog 58 #[.slice (some ⟨B,o,none⟩) (min len k) cap] w fun e w'=>e=.returned (.int .i64 (sgn ((l.drop 0).take k))) ∧ w=w':=by
  have q:=signed_n (some ⟨B,o,none⟩) (min len k) cap _ w ((at_take hb (min len k) (by omega)).below b)
  have e:=take_min l 0 k
  have hs:=hb.size
  rw [Nat.sub_zero,List.drop_zero,← hs] at e
  rw [e] at q
  exact q
theorem parts_n (g B o len cap:Nat) (f:Fd) (c:Cd) (hc:c ∈ allC) (W:World) (hf:W.heap[g]?=some (.cells (fdC f (.slice (some ⟨B,o,none⟩) len cap)) 56 (0,0))) (hb:BytesAt W (some ⟨B,o,none⟩) len cap f.bh) (v0:0 ≤ f.va) (v1:f.va < 65536):
    Calls Tryd.prog 27 #[.pointer (some ⟨g,0,none⟩),.agg (cdC c)] W fun e w'=>e=.returned (.agg #[.int .i8 (partsF f c).reg,.int .i8 (partsF f c).rm,.int .i64 (partsF f c).disp,.int .i64 (partsF f c).imm,.int .i8 (partsF f c).cc]) ∧ Below W.heap.size W w':=by
  have h:=allC_cases c hc
  have hle:=hb.le
  have hfit:=hb.fit
  obtain ⟨sh,at_,va,dg,lo⟩:=c
  simp only at h
  rcases h with ⟨rfl,rfl⟩ | ⟨rfl,rfl⟩ | ⟨rfl,rfl⟩ | ⟨rfl,rfl⟩ | ⟨rfl,rfl⟩ | ⟨rfl,rfl⟩ | ⟨rfl,rfl⟩ | ⟨rfl,rfl⟩ | ⟨rfl,rfl⟩ | ⟨rfl,rfl⟩ | ⟨rfl,rfl⟩ | ⟨rfl,rfl⟩ | ⟨rfl,rfl⟩ | ⟨rfl,rfl⟩
  · exact pop_n g B o len cap 0 f 1 at_ va dg 0 W hf hb v0 v1 (Lib.hid inop_q1) (Lib.hid imm_q1)
  · exact pop_n g B o len cap 4 f 3 at_ va dg 0 W hf hb v0 v1 (Lib.hid inop_q3) (Lib.hid imm_q3)
  · exact pop_n g B o len cap 0 f 2 at_ va dg 0 W hf hb v0 v1 (Lib.hid inop_q2) (Lib.hid imm_q2)
  · exact pop_n g B o len cap 1 f 4 at_ va dg 0 W hf hb v0 v1 (Lib.hid inop_q4) (Lib.hid imm_q4)
  · exact pop_n g B o len cap 0 f 5 at_ va dg 0 W hf hb v0 v1 (Lib.hid inop_q5) (Lib.hid imm_q5)
  · exact pop_n g B o len cap 0 f 2 at_ va dg 15 W hf hb v0 v1 (Lib.hid inop_q2) (Lib.hid imm_q2)
  · exact pop_n g B o len cap 0 f 7 at_ va dg 0 W hf hb v0 v1 (Lib.hid inop_q7) (Lib.hid imm_q7)
  · exact pop_n g B o len cap 0 f 8 at_ va dg 0 W hf hb v0 v1 (Lib.hid inop_q8) (Lib.hid imm_q8)
  · exact parts_no g B o len cap _ 4 f.wide f.rh f.mh f.va _ 9 at_ va dg 0 W hf hle hfit (by decide) (by decide) (Lib.hid inop_q9) (Lib.hid imm_q9) (Lib.hid (sg_not B o len cap 4 f.bh W hb)) (min_cast _ _) (by omega)
  · exact parts_noh g B o len cap _ 4 f.wide f.rh f.mh f.va _ 9 at_ va dg W hf hle hfit (by decide) (Lib.hid inop_q9) (Lib.hid imm_q9) (Lib.hid (sg_not B o len cap 4 f.bh W hb)) (min_cast _ _) (by omega)
  · exact parts_no g B o len cap _ 0 f.wide f.rh f.mh f.va _ 0 at_ va dg 0 W hf hle hfit (by decide) (by decide) (Lib.hid inop_q0) (Lib.hid imm_q0) (Lib.hid (sg_not B o len cap 0 f.bh W hb)) (min_cast _ _) (by omega)
  · exact parts_six g B o len cap _ 4 f.wide f.rh f.mh f.va _ at_ va dg 7 W hf hle hfit (by decide) (Lib.hid inop_q6) (Lib.hid imm_q6) (Lib.hid (sg_not B o len cap 4 f.bh W hb)) (min_cast _ _) (by omega)
  · exact parts_no g B o len cap _ 1 f.wide f.rh f.mh f.va _ 10 at_ va dg 0 W hf hle hfit (by decide) (by decide) (Lib.hid inop_q10) (Lib.hid imm_q10) (Lib.hid (sg_not B o len cap 1 f.bh W hb)) (min_cast _ _) (by omega)
  · exact parts_noh g B o len cap _ 1 f.wide f.rh f.mh f.va _ 10 at_ va dg W hf hle hfit (by decide) (Lib.hid inop_q10) (Lib.hid imm_q10) (Lib.hid (sg_not B o len cap 1 f.bh W hb)) (min_cast _ _) (by omega)
end Go.Proofs.YtjhedldplmhmjaaDoor.Mrm
namespace Go.Proofs.YtjhedldplmhmjaaDoor.Mdl
open Go.RowKit Go.Shelf
set_option linter.unusedVariables false
set_option maxRecDepth 100000
section
variable {P:Program} {τ σ:TypeId → Bool} {β n:Nat} {α:Type}
def isT (τ:TypeId → Bool):Obj → Bool
  | .cells _ t _=>τ t
  | _=>false
theorem isT_other {o:Obj} (h:o.isCells=false):isT τ o=false:=by
  cases o <;> first | rfl | (simp [Obj.isCells] at h)
structure TurnT (τ:TypeId → Bool) (β:Nat) (A B:World):Prop where
  os:B.os=A.os
  tape:B.tape=A.tape
  output:B.output=A.output
  size:A.heap.size ≤ B.heap.size
  same:∀ (k:Nat) (o:Obj),A.heap[k]?=some o → (k < β ∨ isT τ o=false) → B.heap[k]?=some o
structure KeepT (τ:TypeId → Bool) (A B:World):Prop where
  size:A.heap.size ≤ B.heap.size
  same:∀ (k:Nat) (o:Obj),A.heap[k]?=some o → isT τ o=true → B.heap[k]?=some o
theorem KeepT.refl (A:World):KeepT τ A A:=⟨Nat.le_refl _,fun _ _ h _=>h⟩
theorem KeepT.trans {A B C:World} (h:KeepT τ A B) (k:KeepT τ B C):KeepT τ A C:=⟨Nat.le_trans h.size k.size,fun i o hi ho=>k.same i o (h.same i o hi ho) ho⟩
theorem KeepT.putObj {W:World} {l:Nat} {o:Obj} (o':Obj) (hl:W.heap[l]?=some o) (ho:o.isCells=false):KeepT τ W (W.putObj l o'):=by
  have g:=grownBy_putObj' W l o'
  refine ⟨g.size,fun k x hk hx=>?_⟩
  by_cases e:k=l
  · subst e
    rw [hl] at hk
    injection hk with hk
    subst hk
    rw [isT_other ho] at hx;cases hx
  · exact (g.block k (Array.getElem?_eq_some_iff.1 hk).1 (fun h=>e (by injection h))).trans hk
structure Book (l D:Nat) (rec:Loop) (W:World):Prop where
  loop:W.heap[l]?=some (.loop rec)
  defers:W.heap[D]?=some (.deferred (some []))
theorem Book.turn {l D:Nat} {rec:Loop} {A B:World} (h:Book l D rec A) (t:TurnT τ β A B):Book l D rec B:=⟨t.same _ _ h.loop (.inr rfl),t.same _ _ h.defers (.inr rfl)⟩
theorem Book.put {l D:Nat} {rec:Loop} {W:World} (h:Book l D rec W) (ne:l ≠ D) (r:Loop):Book l D r (W.putObj l (.loop r)):=
  ⟨World.putObj_heap_same (Array.getElem?_eq_some_iff.1 h.loop).1,(World.putObj_heap_other (fun e=>ne (by first | exact e | exact e.symm))).trans h.defers⟩
theorem Book.keeps {B l D:Nat} {rec:Loop} {W W':World} (h:Book l D rec W) (k:KeepsFrom B W W') (hl:B ≤ l) (hD:B ≤ D):Book l D rec W':=⟨k.same _ _ hl h.loop rfl,k.same _ _ hD h.defers rfl⟩
end
end Go.Proofs.YtjhedldplmhmjaaDoor.Mdl
namespace Go.Proofs.YtjhedldplmhmjaaDoor.Mdl
open Go.RowKit Go.Shelf
set_option linter.unusedVariables false
set_option maxRecDepth 100000
section
variable {P:Program} {τ σ:TypeId → Bool} {β n:Nat} {α:Type}
structure TurnG (τ:TypeId → Bool) (β γ:Nat) (A B:World):Prop where
  os:B.os=A.os
  tape:B.tape=A.tape
  output:B.output=A.output
  size:A.heap.size ≤ B.heap.size
  same:∀ (k:Nat) (o:Obj),A.heap[k]?=some o → k < γ → (k < β ∨ isT τ o=false) → B.heap[k]?=some o
def AbG (τ:TypeId → Bool) (β γ:Nat) (J:List α → World → Prop):Prop:=∀ s A B,J s A → TurnG τ β γ A B → J s B
theorem Book.turnG {l D γ:Nat} {rec:Loop} {A B:World} (h:Book l D rec A) (t:TurnG τ β γ A B) (hl:l < γ) (hD:D < γ):Book l D rec B:=⟨t.same _ _ h.loop hl (.inr rfl),t.same _ _ h.defers hD (.inr rfl)⟩
theorem TurnG.row {γ:Nat} {A B:World} (t:TurnG τ β γ A B) {g:Nat} {c:Array Value} {ty:TypeId} {fr:Nat × Nat} (h:A.heap[g]?=some (.cells c ty fr)) (hg:g < γ) (hn:τ ty=false):B.heap[g]?=some (.cells c ty fr):=t.same g _ h hg (.inr hn)
theorem TurnG.of_below {γ:Nat} {A B:World} (b:Below A.heap.size A B):TurnG τ β γ A B:=⟨b.os,b.tape,b.output,b.size,fun k o hk _ _=>(b.block k (Array.getElem?_eq_some_iff.1 hk).1).trans hk⟩
theorem TurnG.of_grown {γ:Nat} {A B:World} {row:Option Nat} (g:A.grownBy B row) (h:∀ j,row=some j → γ ≤ j):TurnG τ β γ A B:=⟨g.os,g.tape,g.output,g.size,fun k o hk hg _=>(g.block k (Array.getElem?_eq_some_iff.1 hk).1 (fun e=>by have:=h k e.symm;omega)).trans hk⟩
theorem AbG.own {γ B:Nat} {J:List α → World → Prop} (h:AbG τ β γ J) (hB:γ ≤ B):OwnFrom B J:=fun s X Y row hs hg hr=>h s X Y hs (.of_grown hg (fun j e=>Nat.le_trans hB (hr j e).1))
theorem TurnG.below {γ m:Nat} {w0 A B:World} (b:Below m w0 A) (t:TurnG τ β γ A B) (h:m ≤ β) (hg:m ≤ γ) (hn:m ≤ w0.heap.size):Below m w0 B:=
  ⟨t.os.trans b.os,t.tape.trans b.tape,t.output.trans b.output,Nat.le_trans b.size t.size,fun k hk=>by
    have e1:=b.block k hk
    have hlt:k < w0.heap.size:=by omega
    have e2:=Array.getElem?_eq_getElem hlt
    rw [e2] at e1 ⊢
    exact t.same k _ e1 (by omega) (.inl (by omega))⟩
end
end Go.Proofs.YtjhedldplmhmjaaDoor.Mdl
namespace Go.Proofs.YtjhedldplmhmjaaDoor.Mdl
open Go.RowKit Go.Shelf
set_option linter.unusedVariables false
set_option maxRecDepth 100000
section
variable {P:Program} {τ:TypeId → Bool} {κ:Nat → TypeId → Bool} {β n:Nat} {α:Type}
def isK (κ:Nat → TypeId → Bool) (k:Nat):Obj → Bool
  | .cells _ t _=>κ k t
  | _=>false
theorem isK_other {k:Nat} {o:Obj} (h:o.isCells=false):isK κ k o=false:=by
  cases o <;> first | rfl | (simp [Obj.isCells] at h)
structure KeepK (κ:Nat → TypeId → Bool) (A B:World):Prop where
  size:A.heap.size ≤ B.heap.size
  same:∀ (k:Nat) (o:Obj),A.heap[k]?=some o → isK κ k o=true → B.heap[k]?=some o
theorem KeepK.refl (A:World):KeepK κ A A:=⟨Nat.le_refl _,fun _ _ h _=>h⟩
theorem KeepK.trans {A B C:World} (h:KeepK κ A B) (k:KeepK κ B C):KeepK κ A C:=⟨Nat.le_trans h.size k.size,fun i o hi ho=>k.same i o (h.same i o hi ho) ho⟩
theorem KeepK.putObj {W:World} {l:Nat} {o:Obj} (o':Obj) (hl:W.heap[l]?=some o) (ho:o.isCells=false):KeepK κ W (W.putObj l o'):=by
  have g:=grownBy_putObj' W l o'
  refine ⟨g.size,fun k x hk hx=>?_⟩
  by_cases e:k=l
  · subst e
    rw [hl] at hk
    injection hk with hk
    subst hk
    rw [isK_other ho] at hx;cases hx
  · exact (g.block k (Array.getElem?_eq_some_iff.1 hk).1 (fun h=>e (by injection h))).trans hk
def leftK (κ:Nat → TypeId → Bool) (B:Nat) (I:List α → World → Prop) (Ix:Code → List α → World → Prop) (xs:List α) (W:World):Exit → Act → World → Prop
  | .normal,_,W'=>KeepsFrom B W W' ∧ KeepK κ W W' ∧ I xs W'
  | .ret,_,W'=>KeepsFrom B W W' ∧ KeepK κ W W' ∧ Ix .ret xs W'
  | .exit id,_,W'=>KeepsFrom B W W' ∧ KeepK κ W W' ∧ Ix (.exit id) xs W'
  | .goto t,_,W'=>KeepsFrom B W W' ∧ KeepK κ W W' ∧ Ix (.goto t) xs W'
  | _,_,_=>False
def SeqK (τ:TypeId → Bool) (κ:Nat → TypeId → Bool) (β n:Nat) (P:Program) (g:Nat) (pa lb:Array Value) (encs:α → Array Value) (Y:List α → α → World → Prop) (S Sp:List α → World → Prop) (w:World):Prop:=
  ∀ (l:Nat) (J Jx:List α → World → Prop) (W:World),Below w.heap.size w W → AbG τ β W.heap.size J → AbG τ β W.heap.size Jx →
    (∀ pre x W1,J pre W1 → Y pre x W1 → YieldAt Fence.wide (n - 1) P l (encs x) W1 fun e W'=>
      (e=.returned (.bool true) ∧ J (pre ++ [x]) W' ∧ KeepK κ W1 W' ∧ KeepsFrom W.heap.size W1 W') ∨ (e=.returned (.bool false) ∧ Jx (pre ++ [x]) W' ∧ KeepK κ W1 W' ∧ KeepsFrom W.heap.size W1 W')) →
    J [] W →
    CallsIn Fence.wide n P g (pa ++ #[.func (.yield l) #[] #[]] ++ lb) W fun e W'=>(∃ v,e=.returned v) ∧ ((∃ xs,S xs W' ∧ J xs W') ∨ (∃ pre,Sp pre W' ∧ Jx pre W'))
theorem round_K {l D B m γ:Nat} {fn:FuncId} {tmps:Array Value} {ps:Array Tmp} {assign body:Code} {dd:Nat} {encs:α → Array Value} {Y:List α → α → World → Prop} {I:List α → World → Prop} {Ix:Code → List α → World → Prop} {Ax:List α → α → Act → World → Prop}
    (hlγ:l < γ) (hBγ:B ≤ γ) (hlD:l ≠ D) (hlB:B ≤ l) (hDB:B ≤ D) (hI:OwnFrom B I) (hY:∀ x,OwnFrom B (fun pre=>Y pre x)) (hIx:∀ c,OwnFrom B (Ix c)) (hps:∀ x,(encs x).size=ps.size)
    (hAx:∀ pre x a',OwnFrom B (fun (_:Unit) W=>Ax pre x a' W))
    (hassign:∀ (pre:List α) (x:α) (W:World) (K:Act → World → Prop),I pre W → Y pre x W → (∀ a' W',KeepsFrom B W W' → KeepK κ W W' → Ax pre x a' W' → K a' W') → assign.wpIn (Fence.wide.inRound l) m P (Exit.then K (fun _ _ _=>False)) { tmps:=(ps.zip (encs x)).foldl (fun t (p,v)=>t.setIfInBounds p v) tmps,defers:=[] } W)
    (hbody:∀ (pre:List α) (x:α) (a':Act) (W:World),Ax pre x a' W → body.wpIn (Fence.wide.inRound l) m P (leftK κ B I Ix (pre ++ [x]) W) a' W)
    (pre:List α) (x:α) (W:World) (hi:I pre W) (hy0:Y pre x W) (hk:Book l D { state:=.ready,pending:=none,fn,tmps,params:=ps,assign,body,defers:=dd } W):
    YieldAt Fence.wide m P l (encs x) W fun e W'=>
      (e=.returned (.bool true) ∧ (I (pre ++ [x]) W' ∧ Book l D { state:=.ready,pending:=none,fn,tmps,params:=ps,assign,body,defers:=dd } W') ∧ KeepK κ W W' ∧ KeepsFrom γ W W') ∨
      (e=.returned (.bool false) ∧ (∃ c,Ix c (pre ++ [x]) W' ∧ Book l D { state:=.done,pending:=some c,fn,tmps,params:=ps,assign,body,defers:=dd } W') ∧ KeepK κ W W' ∧ KeepsFrom γ W W'):=by
  obtain ⟨rec,hrec⟩:∃ rec:LoopState → Option Code → Loop,rec=fun st pe=>{ state:=st,pending:=pe,fn,tmps,params:=ps,assign,body,defers:=dd }:=⟨_,rfl⟩
  have hk':Book l D (rec .ready none) W:=by rw [hrec];exact hk
  have hy:=run_yield (P:=P) (args:=encs x) hk.loop (hps x)
  refine ⟨fn,_,assign,body,hy,roundIn_of_wpIn trivial (hassign pre x W _ hi hy0 (fun a' Wa ka ta ax=>?_))⟩
  have hka:Book l D (rec .ready none) Wa:=hk'.keeps ka hlB hDB
  have hka':Book l D { state:=.ready,pending:=none,fn,tmps,params:=ps,assign,body,defers:=dd } Wa:=by rw [hrec] at hka;exact hka
  refine ⟨_,run_beginRound hka'.loop rfl,?_⟩
  have b2:Book l D (rec .busy none) (Wa.putObj l (.loop (rec .busy none))):=hka.put hlD _
  have w2:KeepK κ W (Wa.putObj l (.loop (rec .busy none))):=ta.trans (KeepK.putObj _ hka.loop rfl)
  have i2:Ax pre x a' (Wa.putObj l (.loop (rec .busy none))):=(hAx pre x a').putObj (s:=()) _ ax hlB hka.loop rfl
  have e2:Wa.putObj l (.loop (rec .busy none))=Wa.putObj l (.loop { state:=.busy,pending:=none,fn,tmps,params:=ps,assign,body,defers:=dd }):=by rw [hrec]
  rw [← e2]
  refine wpIn_mono (hbody pre x a' _ i2) ?_
  clear e2
  have fin:∀ (jump:Option Code) (W3:World),KeepsFrom B (Wa.putObj l (.loop (rec .busy none))) W3 → KeepK κ (Wa.putObj l (.loop (rec .busy none))) W3 →
      (Instr.endRound l jump).run P W3=.ok (.bool jump.isNone) (W3.putObj l (.loop (rec (if jump.isNone then .ready else .done) jump))) ∧ Book l D (rec .busy none) W3 ∧
      Book l D (rec (if jump.isNone then .ready else .done) jump) (W3.putObj l (.loop (rec (if jump.isNone then .ready else .done) jump))) ∧ KeepK κ W (W3.putObj l (.loop (rec (if jump.isNone then .ready else .done) jump))) ∧ KeepsFrom γ W (W3.putObj l (.loop (rec (if jump.isNone then .ready else .done) jump))):=by
    intro jump W3 hk3 ht3
    have b3:=b2.keeps hk3 hlB hDB
    have r3:=run_endRound (P:=P) jump b3.loop
    have g3:KeepsFrom γ W (W3.putObj l (.loop (rec (if jump.isNone then .ready else .done) jump))):=⟨by
      have h1:=hk3.size
      have h2:(Wa.putObj l (.loop (rec .busy none))).heap.size=Wa.heap.size:=by simp [World.putObj]
      have h4:=ka.size
      have h3:(W3.putObj l (.loop (rec (if jump.isNone then .ready else .done) jump))).heap.size=W3.heap.size:=by simp [World.putObj]
      omega,fun k o hk h ho=>(World.putObj_heap_other (by omega)).trans (hk3.same k o (by omega) ((World.putObj_heap_other (by omega)).trans (ka.same k o (by omega) h ho)) ho)⟩
    refine ⟨?_,b3,b3.put hlD _,w2.trans (ht3.trans (KeepK.putObj _ b3.loop rfl)),g3⟩
    rw [hrec] at r3 ⊢
    exact r3
  rintro e a3 W3 hp
  cases e with
  | normal=>
    obtain ⟨hk3,ht3,hi3⟩:=hp
    obtain ⟨r3,b3,b4,t4,g4⟩:=fin none W3 hk3 ht3
    refine ⟨_,_,r3,.inl ⟨rfl,⟨hI.putObj _ hi3 hlB b3.loop rfl,?_⟩,t4,g4⟩⟩
    rw [hrec] at b4 ⊢
    exact b4
  | ret=>
    obtain ⟨hk3,ht3,hi3⟩:=hp
    obtain ⟨r3,b3,b4,t4,g4⟩:=fin (some .ret) W3 hk3 ht3
    refine ⟨_,_,r3,.inr ⟨rfl,⟨.ret,(hIx _).putObj _ hi3 hlB b3.loop rfl,?_⟩,t4,g4⟩⟩
    rw [hrec] at b4 ⊢
    exact b4
  | exit id=>
    obtain ⟨hk3,ht3,hi3⟩:=hp
    obtain ⟨r3,b3,b4,t4,g4⟩:=fin (some (.exit id)) W3 hk3 ht3
    refine ⟨_,_,r3,.inr ⟨rfl,⟨.exit id,(hIx _).putObj _ hi3 hlB b3.loop rfl,?_⟩,t4,g4⟩⟩
    rw [hrec] at b4 ⊢
    exact b4
  | goto t=>
    obtain ⟨hk3,ht3,hi3⟩:=hp
    obtain ⟨r3,b3,b4,t4,g4⟩:=fin (some (.goto t)) W3 hk3 ht3
    refine ⟨_,_,r3,.inr ⟨rfl,⟨.goto t,(hIx _).putObj _ hi3 hlB b3.loop rfl,?_⟩,t4,g4⟩⟩
    rw [hrec] at b4 ⊢
    exact b4
  | panic ch=>exact hp.elim
  | outgrown=>exact hp.elim
theorem range_K {g:Operand} {ps:Array Tmp} {assign body:Code} {Q:Exit → Act → World → Prop} {a:Act} {w w0:World} (h1:1 ≤ n) {gf:Nat} {pa lb:Array Value}
    (hg:a.eval g=.func (.func gf) pa lb) (eg:∀ args w,(callFunc gf args).run P w=.ok (.enter gf args) w) {encs:α → Array Value} {Y:List α → α → World → Prop} {S Sp:List α → World → Prop}
    (hseq:SeqK τ κ β (n - 1) P gf pa lb encs Y S Sp w0) (hb0:Below w0.heap.size w0 w) (hps:∀ x,(encs x).size=ps.size) (I:List α → World → Prop) (Ix:Code → List α → World → Prop)
    (hI:OwnFrom w.heap.size I) (hY:∀ x,OwnFrom w.heap.size (fun pre=>Y pre x)) (hIx:∀ c,OwnFrom w.heap.size (Ix c)) (hT:∀ γ,w.heap.size ≤ γ → AbG τ β γ I) (hTx:∀ γ c,w.heap.size ≤ γ → AbG τ β γ (Ix c)) (hS:OwnFrom w.heap.size S) (hSp:OwnFrom w.heap.size Sp) (h0:I [] w) (Ax:List α → α → Act → World → Prop) (hAx:∀ pre x a',OwnFrom w.heap.size (fun (_:Unit) W=>Ax pre x a' W))
    (hassign:∀ (l:Nat) (pre:List α) (x:α) (W:World) (K:Act → World → Prop),I pre W → Y pre x W → (∀ a' W',KeepsFrom w.heap.size W W' → KeepK κ W W' → Ax pre x a' W' → K a' W') → assign.wpIn (Fence.wide.inRound l) (n - 1 - 1) P (Exit.then K (fun _ _ _=>False)) { tmps:=(ps.zip (encs x)).foldl (fun t (p,v)=>t.setIfInBounds p v) a.tmps,defers:=[] } W)
    (hbody:∀ (l:Nat) (pre:List α) (x:α) (a':Act) (W:World),Ax pre x a' W → body.wpIn (Fence.wide.inRound l) (n - 1 - 1) P (leftK κ w.heap.size I Ix (pre ++ [x]) W) a' W)
    (hdone:∀ (D:Nat) (xs:List α) (W:World),w.heap.size ≤ D → S xs W → I xs W → W.heap[D]?=some (.deferred (some [])) → Q .normal { a with defers:={ target:=.collected D,args:=#[] } :: a.defers } W)
    (hstop:∀ (D:Nat) (c:Code) (pre:List α) (W:World),w.heap.size ≤ D → Sp pre W → Ix c pre W → W.heap[D]?=some (.deferred (some [])) → c.wpIn Fence.wide n P Q { a with defers:={ target:=.collected D,args:=#[] } :: a.defers } W):
    (Code.rangeFunc g ps assign body).wpIn Fence.wide n P Q a w:=by
  refine wpIn_rangeFunc fun fn _=>?_
  let rec0:Loop:={ state:=.ready,pending:=none,fn,tmps:=a.tmps,params:=ps,assign,body,defers:=w.heap.size }
  obtain ⟨W1,hW1⟩:∃ W1,(w.alloc (.deferred (some []))).alloc (.loop rec0)=W1:=⟨_,rfl⟩
  have k1:Book (w.heap.size + 1) w.heap.size rec0 W1:=by
    rw [← hW1]
    refine ⟨?_,(Below.heap_alloc _ _ _ (by simp)).trans (World.alloc_heap_new w _)⟩
    have:=World.alloc_heap_new (w.alloc (.deferred (some []))) (.loop rec0)
    rwa [World.size_alloc] at this
  have hw1:W1.heap.size=w.heap.size + 2:=by rw [← hW1];simp
  have i1:I [] W1:=by rw [← hW1];exact hI.alloc _ (hI.alloc _ h0)
  have b1:Below w0.heap.size w0 W1:=by
    rw [← hW1];exact hb0.trans ((((Below.refl _ w).alloc (Nat.le_refl _) _).alloc (by simp) _).mono hb0.size)
  refine ⟨w.heap.size + 1,[{ target:=.collected w.heap.size,args:=#[] }],W1,{ target:=.fn (.func gf) lb,args:=pa ++ #[.func (.yield (w.heap.size + 1)) #[] #[]] },W1,gf,
    pa ++ #[.func (.yield (w.heap.size + 1)) #[] #[]] ++ lb,W1,by rw [← hW1];exact run_enterLoop_outer _ _ _ _ _,by simp only [resolve,hg];simp [go_sem],fun _ _=>trivial,by simp [invoke,go_sem,eg],fun _=>h1,?_⟩
  refine (hseq (w.heap.size + 1) (fun pre W=>I pre W ∧ Book (w.heap.size + 1) w.heap.size rec0 W)
    (fun pre W=>∃ c,Ix c pre W ∧ Book (w.heap.size + 1) w.heap.size { rec0 with state:=.done,pending:=some c } W) W1 b1
    (fun s A B hs t=>⟨hT W1.heap.size (by omega) s A B hs.1 t,hs.2.turnG t (by omega) (by omega)⟩) (fun s A B ⟨c,h,k⟩ t=>⟨c,hTx W1.heap.size c (by omega) s A B h t,k.turnG t (by omega) (by omega)⟩)
    (fun pre x W h hy=>round_K (γ:=W1.heap.size) (by omega) (by omega) (by omega) (Nat.le_succ _) (Nat.le_refl _) hI hY hIx hps hAx (hassign _) (hbody _) pre x W h.1 hy h.2) ⟨i1,k1⟩).mono ?_
  rintro e W2 ⟨⟨v,rfl⟩,⟨xs,hs,hi,hk⟩ | ⟨pre,hs,c,hi,hk⟩⟩
  · have r:=run_endLoop (P:=P) hk.loop (by intro h;cases h)
    exact ⟨none,_,r,hdone _ xs _ (Nat.le_refl _) (hS.putObj _ hs (Nat.le_succ _) hk.loop rfl) (hI.putObj _ hi (Nat.le_succ _) hk.loop rfl) ((World.putObj_heap_other (by omega)).trans hk.defers)⟩
  · have r:=run_endLoop (P:=P) hk.loop (by intro h;cases h)
    exact ⟨some c,_,r,hstop _ c pre _ (Nat.le_refl _) (hSp.putObj _ hs (Nat.le_succ _) hk.loop rfl) ((hIx c).putObj _ hi (Nat.le_succ _) hk.loop rfl) ((World.putObj_heap_other (by omega)).trans hk.defers)⟩
end
end Go.Proofs.YtjhedldplmhmjaaDoor.Mdl
