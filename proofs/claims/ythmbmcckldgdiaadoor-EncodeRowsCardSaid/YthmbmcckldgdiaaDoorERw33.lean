import Derived.Test.YthmbmcckldgdiaaDoorERw32
import Derived.Test.YthmbmcckldgdiaaDoorERw09
set_option linter.unusedVariables false
set_option linter.unusedSimpArgs false
set_option linter.unnecessarySimpa false
namespace Go.Proofs.YthmbmcckldgdiaaDoor.Mrm
open Go Go.RowKit
set_option linter.unusedVariables false
set_option linter.unusedSimpArgs false
set_option linter.unnecessarySimpa false
set_option maxRecDepth 100000
def memG (l:List Int):Bool:=decide (128 ≤ l.getD 0 0) && memOk l
def rgF (l:List Int):Int:=if regOk l=true then l.getD 0 0 / 8 % 8 else if memG l=true then l.getD 0 0 / 8 % 8 else 0
def rmF (l:List Int):Int:=if regOk l=true then l.getD 0 0 % 8 else if memG l=true then l.getD 0 0 % 8 else 0
def dF (l:List Int):Int:=if regOk l=true then 0 else if memG l=true then sgn ((l.drop (atN (l.getD 0 0))).take 4) else 0
def meF (l:List Int):Bool:=if regOk l=true then false else if memG l=true then true else false
def nF (l:List Int):Nat:=if regOk l=true then 1 else if memG l=true then atN (l.getD 0 0) + 4 else 0
def erF (l:List Int):Int:=if regOk l=true then 0 else if memG l=true then 0 else 30
theorem readV_is (l:List Int):readV l=.tuple #[.int .i8 (rgF l),.int .i8 (rmF l),.int .i64 (dF l),.bool (meF l),.int .i64 (nF l:Int),.int .i64 (erF l)]:=by
  unfold readV rgF rmF dF meF nF erF
  by_cases h:regOk l=true
  · simp only [h,if_true];rfl
  · simp only [h,if_false]
    by_cases h2:memG l=true
    · rw [if_pos (show (decide (128 ≤ l.getD 0 0) && memOk l)=true from h2)]
      simp only [h2,if_true];rfl
    · rw [if_neg (show ¬ (decide (128 ≤ l.getD 0 0) && memOk l)=true from h2)]
      simp only [h2,if_false];rfl
theorem nF_le (l:List Int):nF l ≤ l.length:=by
  unfold nF
  split
  · rename_i h
    cases l with
    | nil=>exact absurd h (by decide)
    | cons=>simp
  · split
    · rename_i h
      unfold memG at h
      exact (memOk_iff.1 (Bool.and_eq_true_iff.1 h).2).2.1
    · omega
def partsF (f:Fd) (c:Cd):Pt:=
  ⟨bits .or .i8 (bif inOpB c.sh then rgF f.bh else 0) f.rh,bits .or .i8 (bif inOpB c.sh then rmF f.bh else bif c.sh == 6 then IntKind.i8.wrap (bits .and .u16 f.va 7) else 0) f.mh,bif inOpB c.sh then dF f.bh else 0,
    sgn ((f.bh.drop (bif inOpB c.sh then nF f.bh else 0)).take (immN c.sh).toNat),bif c.lo == 15 then IntKind.i8.wrap (bits .and .u16 f.va 15) else 0⟩
theorem take_min (l:List Int) (n k:Nat):(l.drop n).take (min (l.length - n) k)=(l.drop n).take k:=by
  by_cases h:k ≤ l.length - n
  · rw [Nat.min_eq_right h]
  · rw [Nat.min_eq_left (by omega),List.take_of_length_le (by simp),List.take_of_length_le (by simp;omega)]
theorem min_cast (a b:Nat):min (a:Int) (b:Int)=((min a b:Nat):Int):=by omega
set_option maxHeartbeats 1000000 in
theorem pop_n (g B o len cap k:Nat) (f:Fd) (sh at_ va dg lo:Int) (W:World) (hf:W.heap[g]?=some (.cells (fdC f (.slice (some ⟨B,o,none⟩) len cap)) 81 (0,0))) (hb:BytesAt W (some ⟨B,o,none⟩) len cap f.bh) (v0:0 ≤ f.va) (v1:f.va < 65536)
    (IO:Hid (∀ W,Calls Tryd.prog 36 #[.int .i8 sh] W fun e w'=>e=.returned (.bool true) ∧ W=w'))
    (IM:Hid (∀ W,Calls Tryd.prog 38 #[.int .i8 sh] W fun e w'=>e=.returned (.int .i64 (k:Int)) ∧ W=w')):
    Calls Tryd.prog 44 #[.pointer (some ⟨g,0,none⟩),.agg #[.int .i8 sh,.int .i8 at_,.int .u16 va,.int .i8 dg,.int .u16 lo]] W fun e w'=>e=.returned (.agg #[.int .i8 (bits .or .i8 (rgF f.bh) f.rh),.int .i8 (bits .or .i8 (rmF f.bh) f.mh),.int .i64 (dF f.bh),.int .i64 (sgn ((f.bh.drop (nF f.bh)).take k)),.int .i8 (bif lo == 15 then IntKind.i8.wrap (bits .and .u16 f.va 15) else 0)]) ∧ Below W.heap.size W w':=by
  have hs:=hb.size
  have hle:=hb.le
  have hfit:=hb.fit
  have hn:=nF_le f.bh
  have RD:=Lib.hid (fun (w:World) (b:Below W.heap.size W w)=>show Calls Tryd.prog 71 #[.slice (some ⟨B,o,none⟩) len cap] w fun e w'=>e=.returned (.tuple #[.int .i8 (rgF f.bh),.int .i8 (rmF f.bh),.int .i64 (dF f.bh),.bool (meF f.bh),.int .i64 (nF f.bh:Int),.int .i64 (erF f.bh)]) ∧ Below w.heap.size w w' from by
    have q:=read_n _ len cap f.bh w (hb.below b)
    rw [readV_is] at q
    exact q)
  by_cases hcap:nF f.bh < cap
  · have SG:=Lib.hid (fun (w:World) (b:Below W.heap.size W w)=>signed_n (some ⟨B,o + nF f.bh,none⟩) (min (len - nF f.bh) k) (cap - nF f.bh) _ w ((at_cut hb (nF f.bh) (min (len - nF f.bh) k) (cap - nF f.bh) (by omega) (by omega) (by omega)).below b))
    rw [hs,take_min] at SG
    rw [← hs] at SG
    by_cases hlo:lo=15
    · subst hlo
      exact parts_oph g B o len cap (nF f.bh) _ k f.wide (meF f.bh) f.rh f.mh f.va (rgF f.bh) (rmF f.bh) (dF f.bh) (erF f.bh) _ sh at_ va dg W hf v0 v1 (by omega) hle hfit hcap IO IM RD SG (min_cast _ _)
    · rw [show (lo == 15)=false from beq_eq_false_iff_ne.2 hlo,cond_false]
      exact parts_op g B o len cap (nF f.bh) _ k f.wide (meF f.bh) f.rh f.mh f.va (rgF f.bh) (rmF f.bh) (dF f.bh) (erF f.bh) _ sh at_ va dg lo W hf v0 v1 (by omega) hle hfit hlo hcap IO IM RD SG (min_cast _ _)
  · obtain rfl:len=nF f.bh:=by omega
    obtain rfl:cap=nF f.bh:=by omega
    have SG:=Lib.hid (fun (w:World) (b:Below W.heap.size W w)=>signed_n (some ⟨B,o,none⟩) 0 0 [] w (at_empty w B o 0 (by decide)))
    have e0:(f.bh.drop (nF f.bh)).take k=[]:=by rw [List.drop_of_length_le (by omega),List.take_nil]
    rw [e0]
    by_cases hlo:lo=15
    · subst hlo
      exact parts_ophe g B o (nF f.bh) k f.wide (meF f.bh) f.rh f.mh f.va (rgF f.bh) (rmF f.bh) (dF f.bh) (erF f.bh) _ sh at_ va dg W hf v0 v1 hfit IO IM RD SG (by omega)
    · rw [show (lo == 15)=false from beq_eq_false_iff_ne.2 hlo,cond_false]
      exact parts_ope g B o (nF f.bh) k f.wide (meF f.bh) f.rh f.mh f.va (rgF f.bh) (rmF f.bh) (dF f.bh) (erF f.bh) _ sh at_ va dg lo W hf v0 v1 hfit hlo IO IM RD SG (by omega)
theorem sg_not (B o len cap k:Nat) (l:List Int) (W:World) (hb:BytesAt W (some ⟨B,o,none⟩) len cap l) (w:World) (b:Below W.heap.size W w):Calls Tryd.prog 72 #[.slice (some ⟨B,o,none⟩) (min len k) cap] w fun e w'=>e=.returned (.int .i64 (sgn ((l.drop 0).take k))) ∧ w=w':=by
  have q:=signed_n (some ⟨B,o,none⟩) (min len k) cap _ w ((at_take hb (min len k) (by omega)).below b)
  have e:=take_min l 0 k
  have hs:=hb.size
  rw [Nat.sub_zero,List.drop_zero,← hs] at e
  rw [e] at q
  exact q
theorem parts_n (g B o len cap:Nat) (f:Fd) (c:Cd) (hc:c ∈ allC) (W:World) (hf:W.heap[g]?=some (.cells (fdC f (.slice (some ⟨B,o,none⟩) len cap)) 81 (0,0))) (hb:BytesAt W (some ⟨B,o,none⟩) len cap f.bh) (v0:0 ≤ f.va) (v1:f.va < 65536):
    Calls Tryd.prog 44 #[.pointer (some ⟨g,0,none⟩),.agg (cdC c)] W fun e w'=>e=.returned (.agg #[.int .i8 (partsF f c).reg,.int .i8 (partsF f c).rm,.int .i64 (partsF f c).disp,.int .i64 (partsF f c).imm,.int .i8 (partsF f c).cc]) ∧ Below W.heap.size W w':=by
  have h:=allC_cases c hc
  have hle:=hb.le
  have hfit:=hb.fit
  obtain ⟨sh,at_,va,dg,lo⟩:=c
  simp only at h
  rcases h with ⟨rfl,rfl⟩ | ⟨rfl,rfl⟩ | ⟨rfl,rfl⟩ | ⟨rfl,rfl⟩ | ⟨rfl,rfl⟩ | ⟨rfl,rfl⟩ | ⟨rfl,rfl⟩ | ⟨rfl,rfl⟩ | ⟨rfl,rfl⟩ | ⟨rfl,rfl⟩ | ⟨rfl,rfl⟩ | ⟨rfl,rfl⟩ | ⟨rfl,rfl⟩ | ⟨rfl,rfl⟩
  · exact pop_n g B o len cap 0 f 1 at_ va dg 0 W hf hb v0 v1 (Lib.hid inop_q1) (Lib.hid imm_q1)
  · exact pop_n g B o len cap 4 f 3 at_ va dg 0 W hf hb v0 v1 (Lib.hid inop_q3) (Lib.hid imm_q3)
  · exact pop_n g B o len cap 0 f 2 at_ va dg 0 W hf hb v0 v1 (Lib.hid inop_q2) (Lib.hid imm_q2)
  · exact pop_n g B o len cap 1 f 4 at_ va dg 0 W hf hb v0 v1 (Lib.hid inop_q4) (Lib.hid imm_q4)
  · exact pop_n g B o len cap 0 f 5 at_ va dg 0 W hf hb v0 v1 (Lib.hid inop_q5) (Lib.hid imm_q5)
  · exact pop_n g B o len cap 0 f 2 at_ va dg 15 W hf hb v0 v1 (Lib.hid inop_q2) (Lib.hid imm_q2)
  · exact pop_n g B o len cap 0 f 7 at_ va dg 0 W hf hb v0 v1 (Lib.hid inop_q7) (Lib.hid imm_q7)
  · exact pop_n g B o len cap 0 f 8 at_ va dg 0 W hf hb v0 v1 (Lib.hid inop_q8) (Lib.hid imm_q8)
  · exact parts_no g B o len cap _ 4 f.wide f.rh f.mh f.va _ 9 at_ va dg 0 W hf hle hfit (by decide) (by decide) (Lib.hid inop_q9) (Lib.hid imm_q9) (Lib.hid (sg_not B o len cap 4 f.bh W hb)) (min_cast _ _) (by omega)
  · exact parts_noh g B o len cap _ 4 f.wide f.rh f.mh f.va _ 9 at_ va dg W hf hle hfit (by decide) (Lib.hid inop_q9) (Lib.hid imm_q9) (Lib.hid (sg_not B o len cap 4 f.bh W hb)) (min_cast _ _) (by omega)
  · exact parts_no g B o len cap _ 0 f.wide f.rh f.mh f.va _ 0 at_ va dg 0 W hf hle hfit (by decide) (by decide) (Lib.hid inop_q0) (Lib.hid imm_q0) (Lib.hid (sg_not B o len cap 0 f.bh W hb)) (min_cast _ _) (by omega)
  · exact parts_six g B o len cap _ 4 f.wide f.rh f.mh f.va _ at_ va dg 7 W hf hle hfit (by decide) (Lib.hid inop_q6) (Lib.hid imm_q6) (Lib.hid (sg_not B o len cap 4 f.bh W hb)) (min_cast _ _) (by omega)
  · exact parts_no g B o len cap _ 1 f.wide f.rh f.mh f.va _ 10 at_ va dg 0 W hf hle hfit (by decide) (by decide) (Lib.hid inop_q10) (Lib.hid imm_q10) (Lib.hid (sg_not B o len cap 1 f.bh W hb)) (min_cast _ _) (by omega)
  · exact parts_noh g B o len cap _ 1 f.wide f.rh f.mh f.va _ 10 at_ va dg W hf hle hfit (by decide) (Lib.hid inop_q10) (Lib.hid imm_q10) (Lib.hid (sg_not B o len cap 1 f.bh W hb)) (min_cast _ _) (by omega)
end Go.Proofs.YthmbmcckldgdiaaDoor.Mrm
