import Derived.Test.YtjhedldplmhmjaaDoorERd34
import Derived.Test.YtjhedldplmhmjaaDoorERd03
import Derived.Test.YtjhedldplmhmjaaDoorERd20
import Derived.BigRegion
import Derived.RegionTactic
set_option linter.unusedVariables false
set_option linter.unusedSimpArgs false
set_option linter.unnecessarySimpa false
namespace Go.Proofs.YtjhedldplmhmjaaDoor.Mrm
open Go Go.RowKit
set_option linter.unusedVariables false
set_option linter.unusedSimpArgs false
set_option linter.unnecessarySimpa false
set_option maxRecDepth 100000
theorem bytes_apart {x y:Xi} (hX:XOk x) (hY:XOk y) (hx:mayX x=true) (hy:mayX y=true) {t u:List Int} (e:bytesX x ++ t=bytesX y ++ u):x=y:=by
  rw [← (doc_is x hX hx t).1,← (doc_is y hY hy u).1,e]
end Go.Proofs.YtjhedldplmhmjaaDoor.Mrm
namespace Go.Proofs.YtjhedldplmhmjaaDoor.Mrm
open Go Go.RowKit
set_option linter.unusedVariables false
set_option linter.unusedSimpArgs false
set_option linter.unnecessarySimpa false
set_option maxRecDepth 100000
structure Fd where
  wide:Bool
  rh:Int
  mh:Int
  va:Int
  bh:List Int
def stripC (l:List Int):Int × List Int:=if l.headD 0=15 then (3840,l.tail) else (0,l)
def stripQ (l:List Int):Bool × Int × Int × List Int:=if rexB (l.headD 0) then (wB (l.headD 0),hiI (l.headD 0) 4,hiI (l.headD 0) 1,l.tail) else (false,0,0,l)
def endF (r:Bool × Int × Int × List Int):Int × List Int → Option Fd
  | (v,n :: l)=>some ⟨r.1,r.2.1,r.2.2.1,v + n,l⟩
  | (_,[])=>none
def findR (l:List Int):Option Fd:=endF (stripQ l) (stripC (stripQ l).2.2.2)
def findP (l:List Int):Option Fd:=findR (stripH l).2
def isF (v:Int) (c:Cd):Bool:=bits .andNot .u16 v c.lo == c.va
abbrev fdC (f:Fd) (s:Value):Array Value:=#[.bool f.wide,.int .i8 f.rh,.int .i8 f.mh,.int .u16 f.va,s]
def foundV:Option Fd → Value → Value
  | some f,s=>.tuple #[.agg (fdC f s),.bool true]
  | none,_=>.tuple #[.agg (fdC ⟨false,0,0,0,[]⟩ (.slice none 0 0)),.bool false]
def FoundAt (a:Option Addr) (o:Option Fd) (w:World) (s:Value):Prop:=∀ f,o=some f → ∃ B p n c,s=.slice (some ⟨B,p,none⟩) n c ∧ BytesAt w (some ⟨B,p,none⟩) n c f.bh ∧ ∃ p0,a=some ⟨B,p0,none⟩
theorem at_take {W:World} {a:Option Addr} {len cap:Nat} {zs:List Int} (h:BytesAt W a len cap zs) (m:Nat) (hm:m ≤ len):BytesAt W a m cap (zs.take m):=
  ⟨by have:=h.size;simp;omega,Nat.le_trans hm h.le,h.fit,fun h0=>by
    obtain ⟨b,o,e,hc⟩:=h.here (by omega)
    refine ⟨b,o,e,fun j z hz=>hc j z ?_⟩
    rw [List.getElem?_take] at hz
    split at hz
    · exact hz
    · exact absurd hz (by simp),fun z hz=>h.ok z (List.mem_of_mem_take hz),h.nilc⟩
theorem at_next {W:World} {B o n c:Nat} {z:Int} {zs:List Int} (h:BytesAt W (some ⟨B,o,none⟩) n c (z :: zs)) (hc:1 < c):BytesAt W (some ⟨B,o + 1,none⟩) (n - 1) (c - 1) zs:=by
  have hl:=h.size
  simp only [List.length_cons] at hl
  have q:=at_cut h 1 (n - 1) (c - 1) (by omega) (by have:=h.le;omega) (by have:=h.fit;omega)
  rw [show List.take (n - 1) (List.drop 1 (z :: zs))=zs from List.take_of_length_le (by simp;omega)] at q
  exact q
theorem at_end {W:World} {B o n c:Nat} {z:Int} {zs:List Int} (h:BytesAt W (some ⟨B,o,none⟩) n c (z :: zs)) (hc:¬ 1 < c):n=1 ∧ c=1 ∧ zs=[]:=by
  have hl:=h.size
  have hk:=h.le
  simp only [List.length_cons] at hl
  exact ⟨by omega,by omega,List.eq_nil_of_length_eq_zero (by omega)⟩
theorem at_head {W:World} {a:Option Addr} {n c:Nat} {z:Int} {zs:List Int} (h:BytesAt W a n c (z :: zs)):∃ B o,a=some ⟨B,o,none⟩ ∧ W.cell? ⟨B,o,none⟩=some (.int .u8 z) ∧ 0 ≤ z ∧ z < 256 ∧ 1 ≤ n ∧ n ≤ c ∧ c ≤ 9223372036854775807:=by
  have hl:=h.size
  simp only [List.length_cons] at hl
  obtain ⟨B,o,e,hc⟩:=h.here (by omega)
  have q:=hc 0 z rfl
  rw [Nat.add_zero] at q
  exact ⟨B,o,e,q,(h.ok z (List.mem_cons_self ..)).1,(h.ok z (List.mem_cons_self ..)).2,by omega,h.le,h.fit⟩
theorem prefix_n (a1 a2:Option Addr) (n1 c1 n2 c2:Nat) (zs ys:List Int) (W:World) (h1:BytesAt W a1 n1 c1 zs) (h2:BytesAt W a2 n2 c2 ys):
    Calls Tryd.prog 9 #[.slice a1 n1 c1,.slice a2 n2 c2] W fun e w'=>e=.returned (.bool (decide (zs.take n2=ys))) ∧ W=w':=by
  have b1:=h1.le;have b2:=h1.fit;have b3:=h2.le;have b4:=h2.fit
  by_cases hn:n2 ≤ n1
  · have E:=Lib.hid (equal_n a1 a2 n2 c1 n2 c2 (zs.take n2) ys W (at_take h1 n2 hn) h2)
    have q:(n2:Int) ≤ (n1:Int):=by omega
    have q2:(n2:Int) ≤ (c1:Int):=by omega
    have hnil:=h1.nilc
    clear h1 h2
    generalize decide (zs.take n2=ys)=r at *
    cases a1 with
    | none=>
      obtain rfl:c1=0:=hnil rfl
      obtain rfl:n1=0:=by omega
      obtain rfl:n2=0:=by omega
      clear hnil q q2 hn
      go_enter Tryd.func9,Tryd.ntmps9
      go_wp2_with fail
      refine E.out.mono ?_
      rintro e w1 ⟨rfl,rfl⟩
      go_wp2_with fail
      go_ret
      exact ⟨rfl,rfl⟩
    | some x=>
      clear hnil
      go_enter Tryd.func9,Tryd.ntmps9
      go_wp2_with fail
      refine E.out.mono ?_
      rintro e w1 ⟨rfl,rfl⟩
      go_wp2_with fail
      go_ret
      exact ⟨rfl,rfl⟩
  · rw [decide_eq_false (fun e=>by have e1:=h1.size;have e2:=h2.size;rw [← e] at e2;simp only [List.length_take] at e2;omega)]
    have q:¬ (n2:Int) ≤ (n1:Int):=by omega
    clear h1 h2
    go_enter Tryd.func9,Tryd.ntmps9
    go_wp2_with fail
    go_ret
    exact ⟨rfl,rfl⟩
theorem cutp_no (a a2:Option Addr) (n c n2 c2:Nat) (W:World) (h1:n ≤ c) (h2:c ≤ 9223372036854775807) (P:Calls Tryd.prog 9 #[.slice a n c,.slice a2 n2 c2] W fun e w'=>e=.returned (.bool false) ∧ W=w'):
    Calls Tryd.prog 55 #[.slice a n c,.slice a2 n2 c2] W fun e w'=>e=.returned (.tuple #[.slice a n c,.bool false]) ∧ W=w':=by
  have E:=Lib.hid P;clear P
  go_enter Tryd.func55,Tryd.ntmps55
  go_wp2_with fail
  refine E.out.mono ?_
  rintro e w1 ⟨rfl,rfl⟩
  go_wp2_with fail
  go_ret2
  exact ⟨rfl,rfl⟩
theorem or16 {z:Int} (h0:0 ≤ z) (h1:z < 256):bits .or .u16 3840 z=3840 + z ∧ bits .or .u16 0 z=0 + z:=by
  have:∀ c:Fin 256,bits .or .u16 3840 (c.1:Int)=3840 + c.1 ∧ bits .or .u16 0 (c.1:Int)=0 + c.1:=by decide +kernel
  have:=this ⟨z.toNat,by omega⟩
  simp only [Int.toNat_of_nonneg h0] at this
  exact this
set_option maxHeartbeats 2000000 in
theorem is_n (g:Nat) (f:Fd) (s:Value) (c:Cd) (W:World) (h:W.heap[g]?=some (.cells (fdC f s) 56 (0,0))):
    Calls Tryd.prog 26 #[.pointer (some ⟨g,0,none⟩),.agg (cdC c)] W fun e w'=>e=.returned (.bool (isF f.va c)) ∧ Below W.heap.size W w':=by
  have c3:W.cell? ⟨g,3,none⟩=some (.int .u16 f.va):=by simp only [World.cell?,h];rfl
  have L:=Lib.hid (fun (w1:World) (b:Below W.heap.size W w1)=>(b.cell (p:=⟨g,3,none⟩) (lt_cell c3)).trans c3)
  clear h c3
  unfold isF
  obtain ⟨sh,wd,va,dg,lo⟩:=c
  simp only [cdC]
  generalize f.va=v at *
  go_enter Tryd.func26,Tryd.ntmps26
  go_wp2_with fail
  have l1:=L.out _ (below_new (Below.refl _ _) (.cells #[.int .i8 sh,.int .i8 wd,.int .u16 va,.int .i8 dg,.int .u16 lo] 61))
  go_region
  all_goals (
    go_wp2_with fail
    go_ret
    refine ⟨rfl,?_⟩
    repeat (first | exact Below.refl _ _ | apply Below.drew | apply below_new))
end Go.Proofs.YtjhedldplmhmjaaDoor.Mrm
