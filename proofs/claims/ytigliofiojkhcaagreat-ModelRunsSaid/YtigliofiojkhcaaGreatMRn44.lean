import Derived.Test.YtigliofiojkhcaaGreatMRn17
import Derived.Test.YtigliofiojkhcaaGreatMRn01
import Derived.Maps.AppendAt
import Derived.Great.BuildSlice
import Derived.Test.YtigliofiojkhcaaGreatMRn43
import Derived.Test.YtigliofiojkhcaaGreatMRn23
import Derived.BigQuiet
import Derived.Deep.QuietTactic
import Derived.Test.YtigliofiojkhcaaGreatMRn07
import Derived.Test.YtigliofiojkhcaaGreatRows
import Derived.Laws.BytesArg
import Derived.Test.YtigliofiojkhcaaGreatMRn29
set_option linter.unusedVariables false
set_option linter.unusedSimpArgs false
set_option linter.unnecessarySimpa false
namespace Go.Proofs.YtigliofiojkhcaaGreat.Blk
open Go.RowKit Go.Maps Ins
set_option linter.unusedVariables false
set_option maxRecDepth 100000
end Go.Proofs.YtigliofiojkhcaaGreat.Blk
namespace Go.Proofs.YtigliofiojkhcaaGreat.Mdl
open Go.RowKit Go.Maps Ins Trc
set_option linter.unusedVariables false
set_option linter.unusedSimpArgs false
set_option maxRecDepth 100000
theorem info_insn:∃ i,Tryz.prog.info? 52=some i ∧ i.zero=some (.agg In.nil.cells) ∧ i.size=9:=by
  have h:(Tryz.prog.info? 52).map (fun i=>(i.zero,i.size))=some (some (.agg In.nil.cells),9):=by kernel_rfl
  cases hi:Tryz.prog.info? 52 with
  | none=>rw [hi] at h;simp at h
  | some i=>rw [hi] at h;simp at h;exact ⟨i,rfl,h.1,h.2⟩
def fcells:Array Value:=(five 0).cells ++ (five 1).cells
def acells:Array Value:=(asks 0).cells ++ (asks 1).cells
theorem five_insts {w:World} {b:Nat} (h:w.heap[b]?=some (.cells fcells 52 (0,0))):Insts w (some ⟨b,0,none⟩) 2 2 five:=by
  refine ⟨Nat.le_refl _,by omega,fun _=>⟨b,0,rfl,fun i hi j v hv=>?_⟩,fun i hi=>?_⟩
  · have hj:j < 9:=(List.getElem?_eq_some_iff.1 hv).1
    simp only [World.cell?,h]
    have h1:i=0 ∨ i=1:=by omega
    have h2:j=0 ∨ j=1 ∨ j=2 ∨ j=3 ∨ j=4 ∨ j=5 ∨ j=6 ∨ j=7 ∨ j=8:=by omega
    rcases h1 with rfl | rfl <;> rcases h2 with rfl | rfl | rfl | rfl | rfl | rfl | rfl | rfl | rfl <;> exact hv
  · have h1:i=0 ∨ i=1:=by omega
    rcases h1 with rfl | rfl <;> exact ⟨by decide,by decide,by decide,by decide,by decide,by decide,by decide,by decide⟩
theorem asks_insts {w:World} {b:Nat} (h:w.heap[b]?=some (.cells acells 52 (0,0))):Insts w (some ⟨b,0,none⟩) 2 2 asks:=by
  refine ⟨Nat.le_refl _,by omega,fun _=>⟨b,0,rfl,fun i hi j v hv=>?_⟩,fun i hi=>?_⟩
  · have hj:j < 9:=(List.getElem?_eq_some_iff.1 hv).1
    simp only [World.cell?,h]
    have h1:i=0 ∨ i=1:=by omega
    have h2:j=0 ∨ j=1 ∨ j=2 ∨ j=3 ∨ j=4 ∨ j=5 ∨ j=6 ∨ j=7 ∨ j=8:=by omega
    rcases h1 with rfl | rfl <;> rcases h2 with rfl | rfl | rfl | rfl | rfl | rfl | rfl | rfl | rfl <;> exact hv
  · have h1:i=0 ∨ i=1:=by omega
    rcases h1 with rfl | rfl <;> exact ⟨by decide,by decide,by decide,by decide,by decide,by decide,by decide,by decide⟩
theorem leave_okI (i:Nat):(leave i).Ok:=(show (⟨6,0,0,0,false,0,0,0,0⟩:In).Ok from ⟨by decide,by decide,by decide,by decide,by decide,by decide,by decide,by decide⟩)
theorem leave_insts {w:World} {b:Nat} (h:w.heap[b]?=some (.cells fcells 52 (0,0))):Insts w (some ⟨b,9,none⟩) 1 1 leave:=by
  refine ⟨Nat.le_refl _,by omega,fun _=>⟨b,9,rfl,fun i hi j v hv=>?_⟩,fun i _=>?_⟩
  case refine_2=>exact leave_okI i
  have hj:j < 9:=(List.getElem?_eq_some_iff.1 hv).1
  simp only [World.cell?,h]
  obtain rfl:i=0:=by omega
  have h2:j=0 ∨ j=1 ∨ j=2 ∨ j=3 ∨ j=4 ∨ j=5 ∨ j=6 ∨ j=7 ∨ j=8:=by omega
  rcases h2 with rfl | rfl | rfl | rfl | rfl | rfl | rfl | rfl | rfl <;> exact hv
def RanO (k r l:Int) (W:World) (e:Ending) (w':World):Prop:=∃ ca cc ta tc,e=.returned (.tuple #[.agg #[.int .i8 k,.int .u64 r,.slice ca 0 cc,.slice ta 0 tc,.int .i64 l],.int .i64 0]) ∧ Below W.heap.size W w'
theorem small_run (x:Nat → In) (b o plen:Nat) (k r l:Int) (hc:(checkI 0 plen x).2=0) (he:Ends x plen d0 ⟨k,r,[],[],l⟩) (W:World) (hI:Insts W (some ⟨b,o,none⟩) plen plen x):
    Calls Tryz.prog 7 #[.agg #[.int .i64 0,.slice (some ⟨b,o,none⟩) plen plen],.slice none 0 0,.slice none 0 0,.int .i64 9] W (RanO k r l W):=by
  refine (run_ok 0 b o plen plen x none 0 0 (fun _=>0) none 0 0 0 [] 9 W hI ⟨Nat.le_refl _,by omega,fun h=>absurd h (by omega),fun i h=>absurd h (by omega)⟩ ⟨rfl,Nat.le_refl _,by omega,fun h=>absurd h (by omega),fun _=>rfl⟩ hc rfl (by omega) (by omega) (by decide) (by omega) (fun z hz=>by cases hz)).mono ?_
  intro e w' h
  obtain ⟨oo,oa,ob,ta,tc,_,_,h1,rfl,_,h2⟩:=h.plain
  obtain rfl:=Ends.uniq h1 he
  exact ⟨oa,ob,ta,tc,rfl,h2⟩
set_option maxHeartbeats 8000000 in
theorem wakes_any (W:World):Calls Tryz.prog 6 #[] W fun e w'=>e=.returned (.bool true) ∧ Below W.heap.size W w':=by
  obtain ⟨ti,hi1,hi2,hi3⟩:=info_insn
  have TI:=Lib.hid (And.intro hi1 (And.intro hi2 hi3))
  clear hi1 hi2 hi3
  have R1:=Lib.hid (fun b W h=>small_run five b 0 2 1 5 7 five_ok five_ends W (five_insts h))
  have R2:=Lib.hid (fun b W h=>small_run leave b 9 1 3 0 8 leave_ok leave_ends W (leave_insts h))
  have R3:=Lib.hid (fun b W h=>small_run asks b 0 2 2 0 8 asks_ok asks_ends W (asks_insts h))
  go_enter Tryz.func6,Tryz.ntmps6
  go_wp2_with (refine wpList_buildSlice rfl 22 52 2 _ rfl fcells ti (.agg In.nil.cells) Tryz.underlying22 TI.out.1 TI.out.2.1 (by rw [TI.out.2.2];decide) (by rw [TI.out.2.2];decide) (by rw [TI.out.2.2];kernel_rfl) ?_)
  have q0:=heap_last W (.cells fcells 52) _ rfl
  have q1:=heap_past (W.alloc (.cells fcells 52)) (.cells #[.int .i64 0,.slice (some ⟨W.heap.size,0,none⟩) 2 2] 24) W.heap.size (by simp)
  have q2:=heap_last (W.alloc (.cells fcells 52)) (.cells #[.int .i64 0,.slice (some ⟨W.heap.size,0,none⟩) 2 2] 24) (W.heap.size + 1) (by simp)
  have B0:=below_new (below_new (Below.refl W.heap.size W) (.cells fcells 52)) (.cells #[.int .i64 0,.slice (some ⟨W.heap.size,0,none⟩) 2 2] 24)
  have q3:=q1.trans q0
  clear q1 q0
  generalize (W.alloc (.cells fcells 52)).alloc (.cells #[.int .i64 0,.slice (some ⟨W.heap.size,0,none⟩) 2 2] 24)=w0 at *
  refine (R1.out W.heap.size _ q3).mono ?_
  rintro e w1 ⟨c1,d1,t1,u1,rfl,b1⟩
  have hf1:=Lib.hid (brow b1 q3)
  have hp0:=brow b1 q2
  have hp1:w1.cell? ⟨W.heap.size + 1,1,none⟩=some (.slice (some ⟨W.heap.size,0,none⟩) 2 2):=by simp only [World.cell?,hp0];rfl
  have B1:=Lib.hid (B0.trans (b1.mono B0.size))
  have l1:=lt_of_cell hp1
  clear b1 q2 q3 B0 R1 hp0
  go_wp2_with fail
  have B2:=Lib.hid (below_new (Below.refl w1.heap.size w1) (.cells #[.int .i8 1,.int .u64 5,.slice c1 0 d1,.slice t1 0 u1,.int .i64 7] 33))
  have r1:=heap_last w1 (.cells #[.int .i8 1,.int .u64 5,.slice c1 0 d1,.slice t1 0 u1,.int .i64 7] 33) _ rfl
  have n1:w1.heap.size + 1=(w1.alloc (.cells #[.int .i8 1,.int .u64 5,.slice c1 0 d1,.slice t1 0 u1,.int .i64 7] 33)).heap.size:=by simp
  clear hp1
  generalize w1.alloc (.cells #[.int .i8 1,.int .u64 5,.slice c1 0 d1,.slice t1 0 u1,.int .i64 7] 33)=w2 at *
  refine (R2.out W.heap.size _ (brow B2.out hf1.out)).mono ?_
  rintro e w3 ⟨c2,d2,t2,u2,rfl,b3⟩
  have r1:=brow b3 r1
  have B3:=Lib.hid (B1.out.trans ((B2.out.trans (b3.mono B2.out.size)).mono B1.out.size))
  have z3:=b3.size
  clear b3 B2 R2
  go_wp2_with (refine wpList_buildSlice rfl 22 52 2 _ rfl acells ti (.agg In.nil.cells) Tryz.underlying22 TI.out.1 TI.out.2.1 (by rw [TI.out.2.2];decide) (by rw [TI.out.2.2];decide) (by rw [TI.out.2.2];kernel_rfl) ?_)
  have r2:=heap_last w3 (.cells #[.int .i8 3,.int .u64 0,.slice c2 0 d2,.slice t2 0 u2,.int .i64 8] 33) _ rfl
  have r2:=(heap_past (w3.alloc (.cells #[.int .i8 3,.int .u64 0,.slice c2 0 d2,.slice t2 0 u2,.int .i64 8] 33)) (.cells acells 52) _ (by simp)).trans r2
  have r3:=heap_last (w3.alloc (.cells #[.int .i8 3,.int .u64 0,.slice c2 0 d2,.slice t2 0 u2,.int .i64 8] 33)) (.cells acells 52) (w3.heap.size + 1) (by simp)
  have B4:=below_new (below_new (Below.refl w3.heap.size w3) (.cells #[.int .i8 3,.int .u64 0,.slice c2 0 d2,.slice t2 0 u2,.int .i64 8] 33)) (.cells acells 52)
  have r1:=brow B4 r1
  have B4:=B3.out.trans (B4.mono B3.out.size)
  generalize (w3.alloc (.cells #[.int .i8 3,.int .u64 0,.slice c2 0 d2,.slice t2 0 u2,.int .i64 8] 33)).alloc (.cells acells 52)=w4 at *
  refine (R3.out _ _ r3).mono ?_
  rintro e w5 ⟨c3,d3,t3,u3,rfl,b5⟩
  have r1:=brow b5 r1
  have r2:=brow b5 r2
  have B5:=Lib.hid (B4.trans (b5.mono B4.size))
  have x0:w5.cell? ⟨w1.heap.size,0,none⟩=some (.int .i8 1):=by simp only [World.cell?,r1];rfl
  have x1:w5.cell? ⟨w1.heap.size,1,none⟩=some (.int .u64 5):=by simp only [World.cell?,r1];rfl
  have x4:w5.cell? ⟨w1.heap.size,4,none⟩=some (.int .i64 7):=by simp only [World.cell?,r1];rfl
  have y0:w5.cell? ⟨w3.heap.size,0,none⟩=some (.int .i8 3):=by simp only [World.cell?,r2];rfl
  have l1:=lt_of_cell x0
  have l2:=lt_of_cell y0
  clear r1 r2 r3 B4 b5 R3 B3 B1 hf1 TI z3
  go_wp2_with fail
  go_ret
  exact ⟨rfl,below_new B5.out _⟩
end Go.Proofs.YtigliofiojkhcaaGreat.Mdl
namespace Go.Proofs.YtigliofiojkhcaaGreat.Mdl
open Go.RowKit Go.Maps Ins Trc
set_option linter.unusedVariables false
set_option linter.unusedSimpArgs false
set_option maxRecDepth 100000
set_option maxHeartbeats 4000000 in
theorem great_no (c:Int) (pa:Option Addr) (plen pcap:Nat) (ca:Option Addr) (cl cc:Nat) (aa:Option Addr) (al ac:Nat) (fuel:Int) (W:World) (h1:plen ≤ 100) (h2:cl ≤ 400) (h3:al ≤ 400) (h4:¬ (2000 < fuel ∧ fuel ≤ 10000)):
    Calls Tryz.prog 5 #[.agg #[.int .i64 c,.slice pa plen pcap],.slice ca cl cc,.slice aa al ac,.int .i64 fuel] W fun e w'=>e=.returned (.bool false) ∧ Below W.heap.size W w':=by
  by_cases h5:2000 < fuel
  · skip
    have e5:decide (fuel ≤ (10000:Int))=false:=by rw [decide_eq_false_iff_not];omega
    have e1:decide ((100:Int) < plen)=false:=by rw [decide_eq_false_iff_not];omega
    have e2:decide ((400:Int) < cl)=false:=by rw [decide_eq_false_iff_not];omega
    have e3:decide ((400:Int) < al)=false:=by rw [decide_eq_false_iff_not];omega
    have e4:decide ((2000:Int) < fuel)=true:=by rw [decide_eq_true_iff];omega
    clear h1 h2 h3 h4 h5
    go_enter Tryz.func5,Tryz.ntmps5
    go_wp2_with fail
    go_ret
    exact ⟨rfl,by first | exact below_new (Below.refl _ _) _ | exact below_drewN (below_new (Below.refl _ _) _) _⟩
  · skip
    have e1:decide ((100:Int) < plen)=false:=by rw [decide_eq_false_iff_not];omega
    have e2:decide ((400:Int) < cl)=false:=by rw [decide_eq_false_iff_not];omega
    have e3:decide ((400:Int) < al)=false:=by rw [decide_eq_false_iff_not];omega
    have e4:decide ((2000:Int) < fuel)=false:=by rw [decide_eq_false_iff_not];omega
    clear h1 h2 h3 h4 h5
    go_enter Tryz.func5,Tryz.ntmps5
    go_wp2_with fail
    go_ret
    exact ⟨rfl,by first | exact below_new (Below.refl _ _) _ | exact below_drewN (below_new (Below.refl _ _) _) _⟩
set_option maxHeartbeats 4000000 in
theorem great_yes (c:Int) (pa:Option Addr) (plen pcap:Nat) (ca:Option Addr) (cl cc:Nat) (aa:Option Addr) (al ac:Nat) (fuel:Int) (W:World) (h:¬ (plen ≤ 100 ∧ cl ≤ 400 ∧ al ≤ 400 ∧ ¬ (2000 < fuel ∧ fuel ≤ 10000))):
    Calls Tryz.prog 5 #[.agg #[.int .i64 c,.slice pa plen pcap],.slice ca cl cc,.slice aa al ac,.int .i64 fuel] W fun e w'=>e=.returned (.bool true) ∧ Below W.heap.size W w':=by
  by_cases h1:100 < plen
  · skip
    have e1:decide ((100:Int) < plen)=true:=by rw [decide_eq_true_iff];omega
    clear h h1
    go_enter Tryz.func5,Tryz.ntmps5
    go_wp2_with fail
    go_ret
    exact ⟨rfl,by first | exact below_new (Below.refl _ _) _ | exact below_drewN (below_new (Below.refl _ _) _) _⟩
  by_cases h2:400 < cl
  · skip
    have e1:decide ((100:Int) < plen)=false:=by rw [decide_eq_false_iff_not];omega
    have e2:decide ((400:Int) < cl)=true:=by rw [decide_eq_true_iff];omega
    clear h h1 h2
    go_enter Tryz.func5,Tryz.ntmps5
    go_wp2_with fail
    go_ret
    exact ⟨rfl,by first | exact below_new (Below.refl _ _) _ | exact below_drewN (below_new (Below.refl _ _) _) _⟩
  by_cases h3:400 < al
  · skip
    have e1:decide ((100:Int) < plen)=false:=by rw [decide_eq_false_iff_not];omega
    have e2:decide ((400:Int) < cl)=false:=by rw [decide_eq_false_iff_not];omega
    have e3:decide ((400:Int) < al)=true:=by rw [decide_eq_true_iff];omega
    clear h h1 h2 h3
    go_enter Tryz.func5,Tryz.ntmps5
    go_wp2_with fail
    go_ret
    exact ⟨rfl,by first | exact below_new (Below.refl _ _) _ | exact below_drewN (below_new (Below.refl _ _) _) _⟩
  · skip
    have e5:decide (fuel ≤ (10000:Int))=true:=by rw [decide_eq_true_iff];omega
    have e1:decide ((100:Int) < plen)=false:=by rw [decide_eq_false_iff_not];omega
    have e2:decide ((400:Int) < cl)=false:=by rw [decide_eq_false_iff_not];omega
    have e3:decide ((400:Int) < al)=false:=by rw [decide_eq_false_iff_not];omega
    have e4:decide ((2000:Int) < fuel)=true:=by rw [decide_eq_true_iff];omega
    clear h h1 h2 h3
    go_enter Tryz.func5,Tryz.ntmps5
    go_wp2_with fail
    go_ret
    exact ⟨rfl,by first | exact below_new (Below.refl _ _) _ | exact below_drewN (below_new (Below.refl _ _) _) _⟩
end Go.Proofs.YtigliofiojkhcaaGreat.Mdl
namespace Go.Proofs.YtigliofiojkhcaaGreat
open Go.RowKit
set_option linter.unusedVariables false
theorem bdr_u8 {a:Int} (h:(Lit.int .u8 a).wf=true):0 ≤ a ∧ a < 256:=by
  simp [Lit.wf,IntKind.min,IntKind.max,IntKind.bits,IntKind.signed] at h
  omega
theorem src_row {W:World} {a:Option Addr} {len cap:Nat} {zs:List Int} (h:IsRow .u8 W a len cap zs):Src W a len cap (fun i=>zs.getD i 0):=by
  rcases h with ⟨rfl,rfl,rfl,_⟩ | ⟨x,rfl,hl,hm,hz,hcell,hwz⟩
  · exact ⟨Nat.le_refl _,by omega,fun h=>absurd h (by omega),fun i h=>absurd h (by omega)⟩
  · refine ⟨hl,by unfold maxLen at hm;omega,fun h=>?_,fun i hi=>?_⟩
    · obtain ⟨b,off,spot⟩:=x
      have c0:=hcell 0 (by omega)
      obtain rfl:spot=none:=by simpa [Addr.add] using World.cell?_spot c0
      exact ⟨b,off,rfl,fun i hi=>by have h:=hcell i (by omega);rw [Go.WideShapes.add_plain] at h;exact h⟩
    · have hi':i < zs.length:=by omega
      have e:zs.getD i 0=zs[i]:=by simp [List.getD,hi']
      show 0 ≤ zs.getD i 0 ∧ zs.getD i 0 < 256
      rw [e]
      exact bdr_u8 (hwz _ (List.getElem_mem hi'))
end Go.Proofs.YtigliofiojkhcaaGreat
namespace Go.Proofs.YtigliofiojkhcaaGreat.Mdl
open Go.RowKit Go.Maps Ins Trc Blk
set_option linter.unusedVariables false
set_option linter.unusedSimpArgs false
set_option maxRecDepth 100000
section
variable (c:Int) (pa:Option Addr) (plen pcap:Nat) (ca:Option Addr) (cl cc:Nat) (aa:Option Addr) (al ac:Nat) (fuel:Int) (W:World)
structure BothAre (o':Out) (r:Int) (n:Nat) (f:Nat → Int):Prop where
  run:∀ w,Below W.heap.size W w → Calls Tryz.prog 7 #[.agg #[.int .i64 c,.slice pa plen pcap],.slice ca cl cc,.slice aa al ac,.int .i64 fuel] w fun e w'=>∃ oa ob ta tc,e=.returned (.tuple #[outV o' oa ob ta tc,.int .i64 r]) ∧ OutAt w' o' oa ob ta tc ∧ Below w.heap.size w w'
  run6:∀ w,Below W.heap.size W w → Calls Tryz.prog 8 #[.agg #[.int .i64 c,.slice pa plen pcap],.slice ca cl cc,.slice aa al ac,.int .i64 fuel] w fun e w'=>∃ oa ob ta tc,e=.returned (.tuple #[outV o' oa ob ta tc,.int .i64 r]) ∧ OutAt w' o' oa ob ta tc ∧ Below w.heap.size w w'
  vis:∀ w,Below W.heap.size W w → Calls Tryz.prog 9 #[.agg #[.int .i64 c,.slice pa plen pcap],.slice ca cl cc,.slice aa al ac,.int .i64 fuel] w fun e w'=>∃ v,e=.returned v ∧ Row6 n f v w' ∧ Below w.heap.size w w'
  vis6:∀ w,Below W.heap.size W w → Calls Tryz.prog 10 #[.agg #[.int .i64 c,.slice pa plen pcap],.slice ca cl cc,.slice aa al ac,.int .i64 fuel] w fun e w'=>∃ v,e=.returned v ∧ Row6 n f v w' ∧ Below w.heap.size w w'
theorem sameB_self6 (o:Out):sameB o o=true:=by
  unfold sameB endB
  simp
set_option maxHeartbeats 8000000 in
theorem runs_main (o':Out) (r:Int) (n:Nat) (f:Nat → Int) (hn:n ≤ 1000) (H:BothAre c pa plen pcap ca cl cc aa al ac fuel W o' r n f) (h1:plen ≤ 100) (h2:cl ≤ 400) (h3:al ≤ 400) (h4:¬ (2000 < fuel ∧ fuel ≤ 10000)):
    Calls Tryz.prog 3 #[.agg #[.int .i64 c,.slice pa plen pcap],.slice ca cl cc,.slice aa al ac,.int .i64 fuel] W fun e w'=>e=.returned (.bool true) ∧ Below W.heap.size W w':=by
  have mo:Tryz.prog.follows .mixedOrders=true:=by kernel_rfl
  have GR:=Lib.hid (fun W=>great_no c pa plen pcap ca cl cc aa al ac fuel W h1 h2 h3 h4)
  have HH:=Lib.hid H
  clear H h1 h2 h3 h4
  go_enter Tryz.func3,Tryz.ntmps3
  go_wp2_with fail
  refine (GR.out _).mono ?_
  rintro e w1 ⟨rfl,b1⟩
  have rp:=brow b1 (heap_last W (.cells #[.int .i64 c,.slice pa plen pcap] 24) _ rfl)
  have B1:=Lib.hid (below_call (below_new (Below.refl _ W) (.cells #[.int .i64 c,.slice pa plen pcap] 24)) b1)
  have RP:=Lib.hid rp
  have c0:w1.cell? ⟨W.heap.size,0,none⟩=some (.int .i64 c):=by simp only [World.cell?,rp];rfl
  have c1:w1.cell? ⟨W.heap.size,1,none⟩=some (.slice pa plen pcap):=by simp only [World.cell?,rp];rfl
  clear b1 GR rp
  go_wp2_with fail
  refine (HH.out.run _ B1.out).mono ?_
  rintro e w2 ⟨oa,ob,ta,tc,rfl,OA,b2⟩
  have B2:=Lib.hid (below_call B1.out b2)
  have RP2:=Lib.hid (brow b2 RP.out)
  have OA2:=Lib.hid OA
  clear b2 B1 RP OA c0 c1
  unfold outV
  go_wp2_with (with_reducible refine (halt_store 33 _ _ rfl ?_))
  refine ⟨?_,trivial⟩
  refine wpList_store_is rfl 33 _ _ rfl w2.heap.size #[.int .i8 o'.kind,.int .u64 o'.r0,.slice oa o'.ctx.length ob,.slice ta o'.tr.length tc,.int .i64 o'.left] rfl rfl 33 _ (heap_last _ _ _ rfl) info_out5 rfl (by simp [Value.oneCell']) ?_
  intro w3 s3
  have bn:=below_new (Below.refl w2.heap.size w2) (.cells #[.int .i8 0,.int .u64 0,.slice none 0 0,.slice none 0 0,.int .i64 0] 33)
  have b3:=s3.below bn (Nat.le_refl _)
  have RA:=Lib.hid s3.row
  have B3:=Lib.hid (below_call B2.out b3)
  have RP3:=brow b3 RP2.out
  have OA3:=Lib.hid (OA2.out.below b3)
  have c0:w3.cell? ⟨W.heap.size,0,none⟩=some (.int .i64 c):=by simp only [World.cell?,RP3];rfl
  have c1:w3.cell? ⟨W.heap.size,1,none⟩=some (.slice pa plen pcap):=by simp only [World.cell?,RP3];rfl
  have RP3:=Lib.hid RP3
  clear s3 bn b3 B2 RP2 OA2
  generalize w2.heap.size=gA at *
  go_wp2_with fail
  refine (HH.out.run6 _ B3.out).mono ?_
  rintro e w4 ⟨oa2,ob2,ta2,tc2,rfl,OB,b4⟩
  have B4:=Lib.hid (below_call B3.out b4)
  have RP4:=Lib.hid (brow b4 RP3.out)
  have RA4:=Lib.hid (brow b4 RA.out)
  have OA4:=Lib.hid (OA3.out.below b4)
  have OB4:=Lib.hid OB
  clear b4 B3 RP3 OB c0 c1 RA OA3
  unfold outV
  go_wp2_with (with_reducible refine (halt_store 33 _ _ rfl ?_))
  refine ⟨?_,trivial⟩
  refine wpList_store_is rfl 33 _ _ rfl w4.heap.size #[.int .i8 o'.kind,.int .u64 o'.r0,.slice oa2 o'.ctx.length ob2,.slice ta2 o'.tr.length tc2,.int .i64 o'.left] rfl rfl 33 _ (heap_last _ _ _ rfl) info_out5 rfl (by simp [Value.oneCell']) ?_
  intro w5 s5
  have bn:=below_new (Below.refl w4.heap.size w4) (.cells #[.int .i8 0,.int .u64 0,.slice none 0 0,.slice none 0 0,.int .i64 0] 33)
  have b5:=s5.below bn (Nat.le_refl _)
  have RB5:=Lib.hid s5.row
  have B5:=Lib.hid (below_call B4.out b5)
  have RP5:=Lib.hid (brow b5 RP4.out)
  have RA5:=Lib.hid (brow b5 RA4.out)
  have OA5:=Lib.hid (OA4.out.below b5)
  have OB5:=Lib.hid (OB4.out.below b5)
  clear s5 bn b5 B4 RP4 RA4 OA4 OB4
  generalize w4.heap.size=gB at *
  go_wp2_with fail
  refine go_regz (SV 4 9 10 11 42 47 13 14 w5 (Row6 n f) (Row6 n f)) [4,9,10,11] [42,47,13,14] [some (.agg #[.int .i64 c,.slice pa plen pcap]),some (.slice ca cl cc),some (.slice aa al ac),some (.int .i64 fuel),none,some (.agg #[.int .i64 c,.slice pa plen pcap]),some (.slice ca cl cc),some (.slice aa al ac),some (.int .i64 fuel),none,none,none] mo SV.loc rfl rfl (by kernel_rfl) (fun fl w1 hfl b _=>SV.start b (hfl 4 (by decide)) (hfl 9 (by decide)) (hfl 10 (by decide)) (hfl 11 (by decide))) (
   zc (@fun fl ax wx cx=>cx.v (exec_loadR 24 _ rfl W.heap.size 0 (cx.rq 4 rfl) (brow cx.S.1 RP5.out) [.int .i64 c,.slice pa plen pcap] rfl _ Tryz.underlying24 rfl (by kernel_rfl)) rfl rfl) <|
   zc (@fun fl ax wx cx=>cx.v (ex_mv rfl (cx.rq 1 rfl)) rfl rfl) <|
   zc (@fun fl ax wx cx=>cx.v (ex_mv rfl (cx.rq 2 rfl)) rfl rfl) <|
   zc (@fun fl ax wx cx=>cx.v (ex_mv rfl (cx.rq 3 rfl)) rfl rfl) <|
   zc (@fun fl ax wx cx=>cx.ct rfl rfl (args4 (cx.u 0 rfl) (cx.u 1 rfl) (cx.u 2 rfl) (cx.u 3 rfl)) Tryz.func9 (by decide +kernel) rfl rfl ((HH.out.vis wx (below_call B5.out cx.S.1)).mono (by
       rintro e w' ⟨v9,rfl,r9,b9⟩
       exact ⟨v9,rfl,trivial,SV.one (fun _ _ _ h b=>Row6.below h b) cx.S b9 (cx.later 9 (by kernel_rfl)) (cx.later 10 (by kernel_rfl)) (not_yet (i:=10) (k:=11) cx.clo (cx.later 10 (by kernel_rfl)) (by kernel_rfl)) (by decide) (by decide) (by decide) (by rw [slot_new cx.sz rfl];exact r9)⟩))) <|
   zc (@fun fl ax wx cx=>cx.v (exec_loadR 24 _ rfl W.heap.size 0 (cx.rq 4 rfl) (brow cx.S.1 RP5.out) [.int .i64 c,.slice pa plen pcap] rfl _ Tryz.underlying24 rfl (by kernel_rfl)) rfl rfl) <|
   zc (@fun fl ax wx cx=>cx.v (ex_mv rfl (cx.rq 1 rfl)) rfl rfl) <|
   zc (@fun fl ax wx cx=>cx.v (ex_mv rfl (cx.rq 2 rfl)) rfl rfl) <|
   zc (@fun fl ax wx cx=>cx.v (ex_mv rfl (cx.rq 3 rfl)) rfl rfl) <|
   zc (@fun fl ax wx cx=>cx.ct rfl rfl (args4 (cx.u 0 rfl) (cx.u 1 rfl) (cx.u 2 rfl) (cx.u 3 rfl)) Tryz.func10 (by decide +kernel) rfl rfl ((HH.out.vis6 wx (below_call B5.out cx.S.1)).mono (by
       rintro e w' ⟨v9,rfl,r9,b9⟩
       exact ⟨v9,rfl,trivial,SV.two (fun _ _ _ h b=>Row6.below h b) cx.S b9 (cx.did 4 rfl rfl) (cx.later 10 (by kernel_rfl)) (cx.later 11 (by kernel_rfl)) (by decide) (by decide) (slot_old rfl) (by rw [slot_new cx.sz rfl];exact r9)⟩))) <|
   zc (@fun fl ax wx cx=>cx.vt rfl (ex_as (x:=.tmp 42) (cx.is rfl) rfl) rfl rfl trivial (SV.three cx.S (cx.did 0 rfl rfl) (cx.did 1 rfl rfl) (cx.later 11 (by kernel_rfl)) (by decide) (slot_old rfl) (slot_old rfl) (slot_new cx.sz rfl))) <|
   zc (@fun fl ax wx cx=>cx.vt rfl (ex_as (x:=.tmp 47) (cx.is rfl) rfl) rfl rfl trivial (SV.four cx.S (cx.did 6 rfl rfl) (cx.did 0 rfl rfl) (cx.did 1 rfl rfl) (slot_old rfl) (slot_old rfl) (slot_old rfl) (slot_new cx.sz rfl))) <|
   zn) ?_
  intro aq1 wq1 fq1
  obtain ⟨flq1,hfq1,hsq1⟩:=fq1.s
  obtain ⟨b6,h6,k6,e6,e7⟩:=hsq1
  have g13:aq1.tmps.getD 13 undef=_:=e6 (hfq1 10 (by decide))
  have g14:aq1.tmps.getD 14 undef=_:=e7 (hfq1 11 (by decide))
  obtain ⟨x1,y1,X1⟩:=h6 (hfq1 4 (by decide))
  obtain ⟨x2,y2,X2⟩:=k6 (hfq1 9 (by decide))
  rw [y1] at g13
  rw [y2] at g14
  clear h6 k6 e6 e7 y1 y2 hfq1 flq1
  have X1:=Lib.hid X1
  have X2:=Lib.hid X2
  have B6:=Lib.hid (below_call B5.out b6)
  have RA6:=Lib.hid (brow b6 RA5.out)
  have RB6:=Lib.hid (brow b6 RB5.out)
  have OA6:=Lib.hid (OA5.out.below b6)
  have OB6:=Lib.hid (OB5.out.below b6)
  clear b6 B5 RA5 RB5 OA5 OB5 RP5 HH
  rw [fq1.frame rfl rfl]
  clear fq1
  rw [show outs _ (fun d=>aq1.tmps.getD d undef)=[(38,aq1.tmps.getD 38 undef),(39,aq1.tmps.getD 39 undef),(40,aq1.tmps.getD 40 undef),(41,aq1.tmps.getD 41 undef),(42,aq1.tmps.getD 42 undef),(43,aq1.tmps.getD 43 undef),(44,aq1.tmps.getD 44 undef),(45,aq1.tmps.getD 45 undef),(46,aq1.tmps.getD 46 undef),(47,aq1.tmps.getD 47 undef),(13,aq1.tmps.getD 13 undef),(14,aq1.tmps.getD 14 undef)] by kernel_rfl,g13,g14]
  simp only [putAll,List.setIfInBounds_toArray,List.set_cons_zero,List.set_cons_succ,Exit.then]
  generalize aq1.tmps.getD 38 undef=yq1_38
  generalize aq1.tmps.getD 39 undef=yq1_39
  generalize aq1.tmps.getD 40 undef=yq1_40
  generalize aq1.tmps.getD 41 undef=yq1_41
  generalize aq1.tmps.getD 42 undef=yq1_42
  generalize aq1.tmps.getD 43 undef=yq1_43
  generalize aq1.tmps.getD 44 undef=yq1_44
  generalize aq1.tmps.getD 45 undef=yq1_45
  generalize aq1.tmps.getD 46 undef=yq1_46
  generalize aq1.tmps.getD 47 undef=yq1_47
  clear g13 g14 aq1
  go_wp2_with fail
  go_loopw [15] (fun i wr=>∃ k:Nat,k ≤ n ∧ i=.int .i64 (k:Int) ∧ Hid (Below wq1.heap.size wq1 wr)) (fun i _=>n - (intOf i).toNat)
  case atStart=>exact ⟨0,by omega,rfl,Lib.hid (Below.refl _ _)⟩
  case round=>
    obtain ⟨k,hk,rfl,hR⟩:=hrel
    by_cases hlt:k < n
    · have k1:(k:Int) < n:=by omega
      obtain ⟨V1,rfl,q1⟩:=X1.out k hlt
      obtain ⟨V2,rfl,q2⟩:=X2.out k hlt
      have d1:=(hR.out.cell (lt_of_cell q1)).trans q1
      have d2:=(hR.out.cell (lt_of_cell q2)).trans q2
      obtain ⟨z,hz⟩:∃ z,z=f k:=⟨_,rfl⟩
      rw [← hz] at d1 d2
      clear hz q1 q2
      go_wp2_with fail
      go_quiet (fail)
      go_wp2_with fail
      go_roundw
      case rel=>exact ⟨k + 1,by omega,by go_num,Lib.hid (below_drewN hR.out _)⟩
      case measure=>simp [intOf];omega
    · obtain rfl:k=n:=by omega
      have RA9:=brow hR.out RA6.out
      have RB9:=brow hR.out RB6.out
      have SM:=Lib.hid (r_same o' o' oa ta oa2 ta2 ob tc ob2 tc2 wr (OA6.out.below hR.out) (OB6.out.below hR.out))
      rw [sameB_self6] at SM
      have B9:=Lib.hid (below_call B6.out hR.out)
      clear hR X1 X2
      go_wp2_with (with_reducible refine (halt_load 33 _ rfl ?_))
      refine ⟨?_,trivial⟩
      refine wpList_load_row rfl 33 _ rfl gA rfl _ _ _ _ RA9 Tryz.underlying33 rfl info_out5 ?_
      go_wp2_with (with_reducible refine (halt_load 33 _ rfl ?_))
      refine ⟨?_,trivial⟩
      refine wpList_load_row rfl 33 _ rfl gB rfl _ _ _ _ RB9 Tryz.underlying33 rfl info_out5 ?_
      clear RA9 RB9
      go_wp2_with fail
      refine SM.out.mono ?_
      rintro e w8 ⟨rfl,b8⟩
      have er:(r == r)=true:=by simp
      have B10:=Lib.hid (below_call B9.out b8)
      clear b8 B9 SM
      go_wp2_with fail
      refine (wakes_any _).mono ?_
      rintro e w9 ⟨rfl,b9⟩
      go_wp2_with fail
      go_ret
      exact ⟨rfl,below_call B10.out b9⟩
set_option maxHeartbeats 4000000 in
theorem runs_great (h:¬ (plen ≤ 100 ∧ cl ≤ 400 ∧ al ≤ 400 ∧ ¬ (2000 < fuel ∧ fuel ≤ 10000))):
    Calls Tryz.prog 3 #[.agg #[.int .i64 c,.slice pa plen pcap],.slice ca cl cc,.slice aa al ac,.int .i64 fuel] W fun e w'=>e=.returned (.bool true) ∧ Below W.heap.size W w':=by
  have GR:=Lib.hid (fun W=>great_yes c pa plen pcap ca cl cc aa al ac fuel W h)
  clear h
  go_enter Tryz.func3,Tryz.ntmps3
  go_wp2_with fail
  refine (GR.out _).mono ?_
  rintro e w1 ⟨rfl,b1⟩
  have B1:=Lib.hid (below_call (below_new (Below.refl _ W) _) b1)
  clear b1 GR
  go_wp2_with fail
  refine (wakes_any _).mono ?_
  rintro e w4 ⟨rfl,b4⟩
  go_wp2_with fail
  go_ret
  exact ⟨rfl,below_call B1.out b4⟩
end
theorem both_bad (c:Int) (pa:Option Addr) (plen pcap:Nat) (ca:Option Addr) (cl cc:Nat) (aa:Option Addr) (al ac:Nat) (fuel:Int) (W:World) (r:Int) (h0:¬ r=0)
    (ST:∀ w,Below W.heap.size W w → Calls Tryz.prog 14 #[.agg #[.int .i64 c,.slice pa plen pcap],.slice ca cl cc,.slice aa al ac,.int .i64 fuel] w fun e w'=>e=.returned (.tuple #[.pointer none,.int .i64 r]) ∧ Below w.heap.size w w')
    (SN:∀ w,Below W.heap.size W w → Calls Tryz.prog 12 #[.agg #[.int .i64 c,.slice pa plen pcap],.slice ca cl cc,.slice aa al ac,.int .i64 fuel] w (SnapNo w r)):
    BothAre c pa plen pcap ca cl cc aa al ac fuel W ⟨0,0,[],[],0⟩ r 0 (fun _=>0):=by
  refine ⟨fun w b=>?_,fun w b=>?_,fun w b=>?_,fun w b=>?_⟩
  · refine (run_bad r h0 c pa plen pcap ca cl cc aa al ac fuel w (fun w' b'=>ST w' (b.trans (b'.mono b.size)))).mono ?_
    rintro e w' ⟨rfl,b'⟩
    exact ⟨none,0,none,0,rfl,outAt_nil _,b'⟩
  · refine (r6_run_no _ ⟨_,_,_,_,rfl⟩ _ _ ⟨_,_,_,rfl⟩ ⟨_,_,_,rfl⟩ fuel r w (fun w' b'=>SN w' (b.trans (b'.mono b.size)))).mono ?_
    rintro e w' ⟨rfl,b'⟩
    exact ⟨none,0,none,0,rfl,outAt_nil _,b'⟩
  · refine (visits_bad r h0 c pa plen pcap ca cl cc aa al ac fuel w (fun w' b'=>ST w' (b.trans (b'.mono b.size)))).mono ?_
    rintro e w' ⟨rfl,b'⟩
    exact ⟨_,rfl,⟨none,rfl,fun i hi=>absurd hi (Nat.not_lt_zero i)⟩,b'⟩
  · refine (r6_visits_no c pa plen pcap ca cl cc aa al ac fuel r h0 w (fun w' b'=>SN w' (b.trans (b'.mono b.size)))).mono ?_
    rintro e w' ⟨rfl,b'⟩
    exact ⟨_,rfl,⟨none,rfl,fun i hi=>absurd hi (Nat.not_lt_zero i)⟩,b'⟩
theorem both_ok (c:Int) (b o plen pcap:Nat) (x:Nat → In) (ca:Option Addr) (cl cc:Nat) (cf:Nat → Int) (aa:Option Addr) (al ac:Nat) (zs:List Int) (fuel:Int) (W:World) (hI:Insts W (some ⟨b,o,none⟩) plen pcap x) (hS:Src W ca cl cc cf) (hA:WordsAt W aa al ac zs)
    (hz:∀ z ∈ zs,0 ≤ z ∧ z < 18446744073709551616) (hchk:(checkI c plen x).2=0) (hlen:(cl:Int)=c) (f0:0 ≤ fuel) (f1:fuel ≤ 10000) (h3:al ≤ 400):
    ∃ (o':Out) (f:Nat → Int),BothAre c (some ⟨b,o,none⟩) plen pcap ca cl cc aa al ac fuel W o' 0 plen f:=by
  obtain ⟨h1,h64,_⟩:=ends_facts hchk
  obtain ⟨tk,htk⟩:∃ tk:Nat,min (al:Int) fuel=(tk:Int):=⟨(min (al:Int) fuel).toNat,by omega⟩
  have RR:Runs (env x plen) (ini 0 cl cf fuel (zs.take tk)):=ini_runs (env x plen) 0 cl cf fuel (zs.take tk) h1 f0 f1
  obtain ⟨m,hm⟩:=done_ex (E:=env x plen) (D:=ini 0 cl cf fuel (zs.take tk)) _ 0 (Goes.zero _ _) rfl
  have hl:zs.length=al:=hA.size.symm
  refine ⟨(its (env x plen) (ini 0 cl cf fuel (zs.take tk)) m).out,fun i=>cntP (ats (env x plen) (ini 0 cl cf fuel (zs.take tk)) m) i,fun w bb=>?_,fun w bb=>?_,fun w bb=>?_,fun w bb=>?_⟩
  · refine (run_ok c b o plen pcap x ca cl cc cf aa al ac tk zs fuel w (hI.below bb) (hS.below bb) (hA.below bb) hchk hlen f0 f1 htk (by omega) hz).mono ?_
    intro e w' h
    obtain ⟨oo,oa,ob,ta,tc,F,R2,EN,rfl,OA,b2⟩:=h.plain
    obtain rfl:=Ends.uniq EN ⟨m,hm,rfl⟩
    exact ⟨oa,ob,ta,tc,rfl,OA,b2⟩
  · refine (r6_run_ok c b o plen pcap x ca cl cc cf aa al ac zs fuel w (hI.below bb) (hS.below bb) (hA.below bb) hchk hlen f0 f1 hz).mono ?_
    rintro e w' ⟨m6,oa,ob,ta,tc,hd,rfl,OA,b2⟩
    rw [same6_out RR hl htk hm hd] at OA ⊢
    exact ⟨oa,ob,ta,tc,rfl,OA,b2⟩
  · refine (visits_ok c b o plen pcap x ca cl cc cf aa al ac tk zs fuel w (hI.below bb) (hS.below bb) (hA.below bb) hchk hlen f0 f1 htk (by omega) hz).mono ?_
    rintro e w' ⟨m2,V,F,R2,hd,rfl,hr,hV,b2⟩
    obtain rfl:=Done.uniq hd hm
    exact ⟨_,rfl,Row6.of hr,b2⟩
  · refine (r6_visits_ok c b o plen pcap x ca cl cc cf aa al ac zs fuel w (hI.below bb) (hS.below bb) (hA.below bb) hchk hlen f0 f1 hz).mono ?_
    rintro e w' ⟨m6,V,hd,rfl,hr,b2⟩
    rw [same6_ats RR hl htk hm hd] at hr
    exact ⟨_,rfl,Row6.of hr,b2⟩
theorem runs_law (c:Int) (pa:Option Addr) (plen pcap:Nat) (x:Nat → In) (ca:Option Addr) (cl cc:Nat) (cz:List Int) (aa:Option Addr) (al ac:Nat) (az:List Int) (fuel:Int) (W:World) (_:(Lit.int .i64 c).wf=true) (hI:Insts W pa plen pcap x) (rc:IsRow .u8 W ca cl cc cz)
    (hz:∀ z ∈ az,0 ≤ z ∧ z < 18446744073709551616) (hA:WordsAt W aa al ac az) (_:(Lit.int .i64 fuel).wf=true):
    Calls Tryz.prog 3 #[.agg #[.int .i64 c,.slice pa plen pcap],.slice ca cl cc,.slice aa al ac,.int .i64 fuel] W fun e w'=>e=.returned (.bool true) ∧ Below W.heap.size W w':=by
  by_cases hg:plen ≤ 100 ∧ cl ≤ 400 ∧ al ≤ 400 ∧ ¬ (2000 < fuel ∧ fuel ≤ 10000)
  case neg=>exact runs_great c pa plen pcap ca cl cc aa al ac fuel W hg
  obtain ⟨g1,g2,g3,g4⟩:=hg
  by_cases hchk:(checkI c plen x).2=0
  case neg=>exact runs_main c pa plen pcap ca cl cc aa al ac fuel W _ _ 0 _ (by omega) (both_bad c pa plen pcap ca cl cc aa al ac fuel W _ hchk (fun w h=>start_chk c pa plen pcap x ca cl cc aa al ac fuel w (hI.below h) hchk) (fun w h=>r6_snaps_chk _ c pa plen pcap x ca cl cc aa al ac fuel w (hI.below h) rfl hchk)) g1 g2 g3 g4
  by_cases ha:(cl:Int)=c ∧ 0 ≤ fuel ∧ fuel ≤ 10000
  case neg=>exact runs_main c pa plen pcap ca cl cc aa al ac fuel W _ _ 0 _ (by omega) (both_bad c pa plen pcap ca cl cc aa al ac fuel W 2 (by decide) (fun w h=>start_arg c pa plen pcap x ca cl cc aa al ac fuel w (hI.below h) hchk ha) (fun w h=>r6_snaps_arg c pa plen pcap x ca cl cc aa al ac fuel w (hI.below h) hchk ha)) g1 g2 g3 g4
  obtain ⟨h1,h64,_⟩:=ends_facts hchk
  obtain ⟨b,o,rfl,_⟩:=hI.here (by omega)
  obtain ⟨o',f,H⟩:=both_ok c b o plen pcap x ca cl cc _ aa al ac az fuel W hI (src_row rc) hA hz hchk ha.1 ha.2.1 ha.2.2 g3
  exact runs_main c _ plen pcap ca cl cc aa al ac fuel W o' 0 plen f (by omega) H g1 g2 g3 g4
end Go.Proofs.YtigliofiojkhcaaGreat.Mdl
