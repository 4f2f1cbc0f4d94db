import Derived.Test.YtigliofiojkhcaaGreatMEx
import Derived.Test.YtigliofiojkhcaaGreatMEa13
import Derived.Test.YtigliofiojkhcaaGreatMEa08
import Derived.Test.YtigliofiojkhcaaGreatMRn23
import Derived.Test.YtigliofiojkhcaaGreatMRn17
import Derived.Test.YtigliofiojkhcaaGreatMRn01
import Derived.Maps.AppendAt
import Derived.Great.BuildSlice
import Derived.BigQuiet
import Derived.Deep.QuietTactic
import Derived.Test.YtigliofiojkhcaaGreatMRn07
import Derived.Test.YtigliofiojkhcaaGreatRows
import Derived.Laws.BytesArg
import Derived.Test.YtigliofiojkhcaaGreatMEa02
import Derived.ChangeKeysEq
import Derived.Laws.StructEq
set_option linter.unusedVariables false
set_option linter.unusedSimpArgs false
set_option linter.unnecessarySimpa false
namespace Go.Proofs.YtigliofiojkhcaaGreat.Mdl
open Go.RowKit Go.Maps Ins Trc
set_option maxRecDepth 100000
theorem done_ex {E:Env}{D:Pl}:∀ (n k:Nat),Goes E D k→((its E D k).fuel).toNat=n→∃ m,Done E D m
 | 0,k,g,h=>⟨k,.inl ⟨g,by omega⟩⟩
 | n+1,k,g,h=>by
  by_cases e:(its E D (k+1)).fin=0
  ·refine done_ex n (k+1) (g.succ (by omega) e) ?_
   show ((its E D k).step E.kf (E.x (its E D k).ix)).fuel.toNat=n
   rw [step_fuel];omega
  ·exact ⟨k+1,.inr ⟨k,rfl,g,by omega,e⟩⟩
section
variable {x:Nat→In} {n b o pcap:Nat} {cl:Nat} {cf:Nat→Int} {fuel:Int} {zs:List Int} {tk al:Nat}
theorem same6 (R:Runs (env x n) (ini 0 cl cf fuel (zs.take tk)))(hl:zs.length=al)(htk:min (al:Int) fuel=(tk:Int)){m m':Nat}(h:Done (env x n) (ini 0 cl cf fuel (zs.take tk)) m)(h':Done (env6 b o n pcap x) (ini 0 cl cf fuel zs) m'):
  m'=m∧∀ j,j≤m→∃ l',its (env6 b o n pcap x) (ini 0 cl cf fuel zs) j=(its (env x n) (ini 0 cl cf fuel (zs.take tk)) j).sw 0 l':=by
 have hw:∀ k,its (env6 b o n pcap x) (ini 0 cl cf fuel zs) k=its (env x n) (ini 0 cl cf fuel zs) k:=its_with (E:=env x n) (E':=env6 b o n pcap x) rfl rfl _
 have h2:Done (env x n) (ini 0 cl cf fuel zs) m':=(done_with (E:=env x n) (E':=env6 b o n pcap x) rfl rfl _ m').1 h'
 have f0:0≤fuel:=R.fuel
 have q0:MoreQ (ini 0 cl cf fuel (zs.take tk)) zs:=by
  refine ⟨zs.drop tk,(List.take_append_drop tk zs).symm,?_⟩
  by_cases h:(al:Int)≤fuel
  ·left
   rw [List.drop_eq_nil_iff];omega
  ·right
   show fuel≤((zs.take tk).length:Int)
   rw [List.length_take];omega
 have hsw:ini 0 cl cf fuel zs=(ini 0 cl cf fuel (zs.take tk)).sw 0 zs:=by
  show _=({ ini 0 cl cf fuel (zs.take tk) with fuel:=fuel+0,ans:=zs }:Pl)
  rw [Int.add_zero];rfl
 have key:∀ m,(∀ j,j<m→0<(its (env x n) (ini 0 cl cf fuel (zs.take tk)) j).fuel)→∀ j,j≤m→∃ l',its (env x n) (ini 0 cl cf fuel zs) j=(its (env x n) (ini 0 cl cf fuel (zs.take tk)) j).sw 0 l'∧MoreQ (its (env x n) (ini 0 cl cf fuel (zs.take tk)) j) l':=fun m hf=>by
  rw [hsw]
  exact its_sw (E:=env x n) (D:=ini 0 cl cf fuel (zs.take tk)) (k:=0) (l:=zs) MoreQ m q0 (fun j hj l q=>more_step 0 _ _ (hf j hj) q)
 have goes:∀ k,Goes (env x n) (ini 0 cl cf fuel (zs.take tk)) k→Goes (env x n) (ini 0 cl cf fuel zs) k:=fun k g j hj=>by
  obtain ⟨l1,e1,_⟩:=key k g.of_fuel j (by omega)
  obtain ⟨l2,e2,_⟩:=key k g.of_fuel (j+1) (by omega)
  have:=g j hj
  rw [e1,e2]
  exact ⟨by show 0<(its (env x n) (ini 0 cl cf fuel (zs.take tk)) j).fuel+0;omega,this.2⟩
 have hpos:∀ j,j<m→0<(its (env x n) (ini 0 cl cf fuel (zs.take tk)) j).fuel:=fun j hj=>by
  rcases h with ⟨g,_⟩ | ⟨k,rfl,g,f,_⟩
  ·exact (g j hj).1
  ·by_cases e:j=k
   ·subst e;exact f
   ·exact (g j (by omega)).1
 have h3:Done (env x n) (ini 0 cl cf fuel zs) m:=by
  obtain ⟨l1,e1,_⟩:=key m hpos m (Nat.le_refl _)
  rcases h with ⟨g,f⟩ | ⟨k,rfl,g,f,e⟩
  ·exact .inl ⟨goes m g,by rw [e1];show ¬ 0<(its (env x n) (ini 0 cl cf fuel (zs.take tk)) m).fuel+0;omega⟩
  ·obtain ⟨l2,e2,_⟩:=key (k+1) hpos k (by omega)
   exact .inr ⟨k,rfl,goes k g,by rw [e2];show 0<(its (env x n) (ini 0 cl cf fuel (zs.take tk)) k).fuel+0;omega,by rw [e1];exact e⟩
 refine ⟨h2.uniq h3,fun j hj=>?_⟩
 obtain ⟨l',e,_⟩:=key m hpos j hj
 exact ⟨l',by rw [hw];exact e⟩
end
def Row6 (n:Nat)(f:Nat→Int)(v:Value)(w:World):Prop:=∃ a,v=.slice a n n∧∀ i,i<n→∃ V,a=some ⟨V,0,none⟩∧w.cell? ⟨V,i,none⟩=some (.int .i64 (f i))
theorem Row6.below {n:Nat}{f:Nat→Int}{v:Value}{w w':World}(h:Row6 n f v w)(b:Below w.heap.size w w'):Row6 n f v w':=by
 obtain ⟨a,rfl,h⟩:=h
 exact ⟨a,rfl,fun i hi=>by
  obtain ⟨V,e,hc⟩:=h i hi
  exact ⟨V,e,(b.cell (lt_of_cell hc)).trans hc⟩⟩
def SV (k1 k2 k3 k4 d1 d2 d3 d4:Nat)(w0:World)(A B:Value→World→Prop)(fl:Nat→Bool)(u:Nat→Value)(w:World):Prop:=
 Below w0.heap.size w0 w∧(fl k1=true→A (u d1) w)∧(fl k2=true→B (u d2) w)∧(fl k3=true→u d3=u d1)∧(fl k4=true→u d4=u d2)
section
variable {k1 k2 k3 k4 d1 d2 d3 d4:Nat} {w0 w w':World} {A B:Value→World→Prop} {fl:Nat→Bool} {u u':Nat→Value}
theorem SV.loc:Loc [k1,k2,k3,k4] [d1,d2,d3,d4] (SV k1 k2 k3 k4 d1 d2 d3 d4 w0 A B):=by
 intro fl fl' u u' w hK hD h
 unfold SV at *
 simp only [hK k1 (by simp),hK k2 (by simp),hK k3 (by simp),hK k4 (by simp),hD d1 (by simp),hD d2 (by simp),hD d3 (by simp),hD d4 (by simp)]
 exact h
theorem SV.start (b:Below w0.heap.size w0 w)(h1:fl k1=false)(h2:fl k2=false)(h3:fl k3=false)(h4:fl k4=false):SV k1 k2 k3 k4 d1 d2 d3 d4 w0 A B fl u w:=
 ⟨b,fun e=>absurd (h1.symm.trans e) (by decide),fun e=>absurd (h2.symm.trans e) (by decide),fun e=>absurd (h3.symm.trans e) (by decide),fun e=>absurd (h4.symm.trans e) (by decide)⟩
end
end Go.Proofs.YtigliofiojkhcaaGreat.Mdl
namespace Go.Proofs.YtigliofiojkhcaaGreat.Mdl
open Go.RowKit Go.Maps Ins Trc
set_option maxRecDepth 100000
def five (i:Nat):In:=if i=0 then ⟨0,11,64,0,false,0,0,0,5⟩ else ⟨6,0,0,0,false,0,0,0,0⟩
def leave (_:Nat):In:=⟨6,0,0,0,false,0,0,0,0⟩
def asks (i:Nat):In:=if i=0 then ⟨5,0,0,0,false,0,0,0,0⟩ else ⟨6,0,0,0,false,0,0,0,0⟩
theorem five_ok:(checkI 0 2 five).2=0:=by decide +kernel
theorem leave_ok:(checkI 0 1 leave).2=0:=by decide +kernel
theorem asks_ok:(checkI 0 2 asks).2=0:=by decide +kernel
abbrev d0:Pl:=ini 0 0 (fun _=>0) 9 []
theorem five_goes:Goes (env five 2) d0 1:=fun j hj=>by
 obtain rfl:j=0:=by omega
 exact ⟨by decide +kernel,by decide +kernel⟩
theorem five_ends:Ends five 2 d0 ⟨1,5,[],[],7⟩:=⟨2,.inr ⟨1,rfl,five_goes,by decide +kernel,by decide +kernel⟩,by kernel_rfl⟩
theorem leave_ends:Ends leave 1 d0 ⟨3,0,[],[],8⟩:=⟨1,.inr ⟨0,rfl,fun j hj=>absurd hj (Nat.not_lt_zero _),by decide +kernel,by decide +kernel⟩,by kernel_rfl⟩
theorem asks_ends:Ends asks 2 d0 ⟨2,0,[],[],8⟩:=⟨1,.inr ⟨0,rfl,fun j hj=>absurd hj (Nat.not_lt_zero _),by decide +kernel,by decide +kernel⟩,by kernel_rfl⟩
end Go.Proofs.YtigliofiojkhcaaGreat.Mdl
namespace Go.Proofs.YtigliofiojkhcaaGreat.Blk
open Go.RowKit Go.Maps Ins
set_option maxRecDepth 100000
end Go.Proofs.YtigliofiojkhcaaGreat.Blk
namespace Go.Proofs.YtigliofiojkhcaaGreat.Mdl
open Go.RowKit Go.Maps Ins Trc
set_option maxRecDepth 100000
theorem info_insn:∃ i,Tryz.prog.info? 52=some i∧i.zero=some (.agg In.nil.cells)∧i.size=9:=by
 have h:(Tryz.prog.info? 52).map (fun i=>(i.zero,i.size))=some (some (.agg In.nil.cells),9):=by kernel_rfl
 cases hi:Tryz.prog.info? 52 with
 | none=>rw [hi] at h;simp at h
 | some i=>rw [hi] at h;simp at h;exact ⟨i,rfl,h.1,h.2⟩
def fcells:Array Value:=(five 0).cells ++ (five 1).cells
def acells:Array Value:=(asks 0).cells ++ (asks 1).cells
theorem five_insts {w:World}{b:Nat}(h:w.heap[b]?=some (.cells fcells 52 (0,0))):Insts w (some ⟨b,0,none⟩) 2 2 five:=by
 refine ⟨Nat.le_refl _,by omega,fun _=>⟨b,0,rfl,fun i hi j v hv=>?_⟩,fun i hi=>?_⟩
 ·have hj:j<9:=(List.getElem?_eq_some_iff.1 hv).1
  simp only [World.cell?,h]
  have h1:i=0∨i=1:=by omega
  have h2:j=0∨j=1∨j=2∨j=3∨j=4∨j=5∨j=6∨j=7∨j=8:=by omega
  rcases h1 with rfl | rfl <;> rcases h2 with rfl | rfl | rfl | rfl | rfl | rfl | rfl | rfl | rfl <;> exact hv
 ·have h1:i=0∨i=1:=by omega
  rcases h1 with rfl | rfl <;> exact ⟨by decide,by decide,by decide,by decide,by decide,by decide,by decide,by decide⟩
theorem asks_insts {w:World}{b:Nat}(h:w.heap[b]?=some (.cells acells 52 (0,0))):Insts w (some ⟨b,0,none⟩) 2 2 asks:=by
 refine ⟨Nat.le_refl _,by omega,fun _=>⟨b,0,rfl,fun i hi j v hv=>?_⟩,fun i hi=>?_⟩
 ·have hj:j<9:=(List.getElem?_eq_some_iff.1 hv).1
  simp only [World.cell?,h]
  have h1:i=0∨i=1:=by omega
  have h2:j=0∨j=1∨j=2∨j=3∨j=4∨j=5∨j=6∨j=7∨j=8:=by omega
  rcases h1 with rfl | rfl <;> rcases h2 with rfl | rfl | rfl | rfl | rfl | rfl | rfl | rfl | rfl <;> exact hv
 ·have h1:i=0∨i=1:=by omega
  rcases h1 with rfl | rfl <;> exact ⟨by decide,by decide,by decide,by decide,by decide,by decide,by decide,by decide⟩
theorem leave_okI (i:Nat):(leave i).Ok:=(show (⟨6,0,0,0,false,0,0,0,0⟩:In).Ok from ⟨by decide,by decide,by decide,by decide,by decide,by decide,by decide,by decide⟩)
theorem leave_insts {w:World}{b:Nat}(h:w.heap[b]?=some (.cells fcells 52 (0,0))):Insts w (some ⟨b,9,none⟩) 1 1 leave:=by
 refine ⟨Nat.le_refl _,by omega,fun _=>⟨b,9,rfl,fun i hi j v hv=>?_⟩,fun i _=>?_⟩
 case refine_2=>exact leave_okI i
 have hj:j<9:=(List.getElem?_eq_some_iff.1 hv).1
 simp only [World.cell?,h]
 obtain rfl:i=0:=by omega
 have h2:j=0∨j=1∨j=2∨j=3∨j=4∨j=5∨j=6∨j=7∨j=8:=by omega
 rcases h2 with rfl | rfl | rfl | rfl | rfl | rfl | rfl | rfl | rfl <;> exact hv
def RanO (k r l:Int)(W:World)(e:Ending)(w':World):Prop:=∃ ca cc ta tc,e=.returned (.tuple #[.agg #[.int .i8 k,.int .u64 r,.slice ca 0 cc,.slice ta 0 tc,.int .i64 l],.int .i64 0])∧Below W.heap.size W w'
theorem small_run (x:Nat→In)(b o plen:Nat)(k r l:Int)(hc:(checkI 0 plen x).2=0)(he:Ends x plen d0 ⟨k,r,[],[],l⟩)(W:World)(hI:Insts W (some ⟨b,o,none⟩) plen plen x):
  Calls Tryz.prog 7 #[.agg #[.int .i64 0,.slice (some ⟨b,o,none⟩) plen plen],.slice none 0 0,.slice none 0 0,.int .i64 9] W (RanO k r l W):=by
 refine (run_ok 0 b o plen plen x none 0 0 (fun _=>0) none 0 0 0 [] 9 W hI ⟨Nat.le_refl _,by omega,fun h=>absurd h (by omega),fun i h=>absurd h (by omega)⟩ ⟨rfl,Nat.le_refl _,by omega,fun h=>absurd h (by omega),fun _=>rfl⟩ hc rfl (by omega) (by omega) (by decide) (by omega) (fun z hz=>by cases hz)).mono ?_
 intro e w' h
 obtain ⟨oo,oa,ob,ta,tc,_,_,h1,rfl,_,h2⟩:=h.plain
 obtain rfl:=Ends.uniq h1 he
 exact ⟨oa,ob,ta,tc,rfl,h2⟩
set_option maxHeartbeats 8000000 in
theorem wakes_any (W:World):Calls Tryz.prog 6 #[] W fun e w'=>e=.returned (.bool true)∧Below W.heap.size W w':=by
 obtain ⟨ti,hi1,hi2,hi3⟩:=info_insn
 have TI:=Lib.hid (And.intro hi1 (And.intro hi2 hi3))
 clear hi1 hi2 hi3
 have R1:=Lib.hid (fun b W h=>small_run five b 0 2 1 5 7 five_ok five_ends W (five_insts h))
 have R2:=Lib.hid (fun b W h=>small_run leave b 9 1 3 0 8 leave_ok leave_ends W (leave_insts h))
 have R3:=Lib.hid (fun b W h=>small_run asks b 0 2 2 0 8 asks_ok asks_ends W (asks_insts h))
 go_enter Tryz.func6,Tryz.ntmps6
 go_wp2_with (refine wpList_buildSlice rfl 22 52 2 _ rfl fcells ti (.agg In.nil.cells) Tryz.underlying22 TI.out.1 TI.out.2.1 (by rw [TI.out.2.2];decide) (by rw [TI.out.2.2];decide) (by rw [TI.out.2.2];kernel_rfl) ?_)
 have q0:=heap_last W (.cells fcells 52) _ rfl
 have q1:=heap_past (W.alloc (.cells fcells 52)) (.cells #[.int .i64 0,.slice (some ⟨W.heap.size,0,none⟩) 2 2] 24) W.heap.size (by simp)
 have q2:=heap_last (W.alloc (.cells fcells 52)) (.cells #[.int .i64 0,.slice (some ⟨W.heap.size,0,none⟩) 2 2] 24) (W.heap.size+1) (by simp)
 have B0:=below_new (below_new (Below.refl W.heap.size W) (.cells fcells 52)) (.cells #[.int .i64 0,.slice (some ⟨W.heap.size,0,none⟩) 2 2] 24)
 have q3:=q1.trans q0
 clear q1 q0
 generalize (W.alloc (.cells fcells 52)).alloc (.cells #[.int .i64 0,.slice (some ⟨W.heap.size,0,none⟩) 2 2] 24)=w0 at *
 refine (R1.out W.heap.size _ q3).mono ?_
 rintro e w1 ⟨c1,d1,t1,u1,rfl,b1⟩
 have hf1:=Lib.hid (brow b1 q3)
 have hp0:=brow b1 q2
 have hp1:w1.cell? ⟨W.heap.size+1,1,none⟩=some (.slice (some ⟨W.heap.size,0,none⟩) 2 2):=by simp only [World.cell?,hp0];rfl
 have B1:=Lib.hid (B0.trans (b1.mono B0.size))
 have l1:=lt_of_cell hp1
 clear b1 q2 q3 B0 R1 hp0
 go_wp2_with fail
 have B2:=Lib.hid (below_new (Below.refl w1.heap.size w1) (.cells #[.int .i8 1,.int .u64 5,.slice c1 0 d1,.slice t1 0 u1,.int .i64 7] 33))
 have r1:=heap_last w1 (.cells #[.int .i8 1,.int .u64 5,.slice c1 0 d1,.slice t1 0 u1,.int .i64 7] 33) _ rfl
 have n1:w1.heap.size+1=(w1.alloc (.cells #[.int .i8 1,.int .u64 5,.slice c1 0 d1,.slice t1 0 u1,.int .i64 7] 33)).heap.size:=by simp
 clear hp1
 generalize w1.alloc (.cells #[.int .i8 1,.int .u64 5,.slice c1 0 d1,.slice t1 0 u1,.int .i64 7] 33)=w2 at *
 refine (R2.out W.heap.size _ (brow B2.out hf1.out)).mono ?_
 rintro e w3 ⟨c2,d2,t2,u2,rfl,b3⟩
 have r1:=brow b3 r1
 have B3:=Lib.hid (B1.out.trans ((B2.out.trans (b3.mono B2.out.size)).mono B1.out.size))
 have z3:=b3.size
 clear b3 B2 R2
 go_wp2_with (refine wpList_buildSlice rfl 22 52 2 _ rfl acells ti (.agg In.nil.cells) Tryz.underlying22 TI.out.1 TI.out.2.1 (by rw [TI.out.2.2];decide) (by rw [TI.out.2.2];decide) (by rw [TI.out.2.2];kernel_rfl) ?_)
 have r2:=heap_last w3 (.cells #[.int .i8 3,.int .u64 0,.slice c2 0 d2,.slice t2 0 u2,.int .i64 8] 33) _ rfl
 have r2:=(heap_past (w3.alloc (.cells #[.int .i8 3,.int .u64 0,.slice c2 0 d2,.slice t2 0 u2,.int .i64 8] 33)) (.cells acells 52) _ (by simp)).trans r2
 have r3:=heap_last (w3.alloc (.cells #[.int .i8 3,.int .u64 0,.slice c2 0 d2,.slice t2 0 u2,.int .i64 8] 33)) (.cells acells 52) (w3.heap.size+1) (by simp)
 have B4:=below_new (below_new (Below.refl w3.heap.size w3) (.cells #[.int .i8 3,.int .u64 0,.slice c2 0 d2,.slice t2 0 u2,.int .i64 8] 33)) (.cells acells 52)
 have r1:=brow B4 r1
 have B4:=B3.out.trans (B4.mono B3.out.size)
 generalize (w3.alloc (.cells #[.int .i8 3,.int .u64 0,.slice c2 0 d2,.slice t2 0 u2,.int .i64 8] 33)).alloc (.cells acells 52)=w4 at *
 refine (R3.out _ _ r3).mono ?_
 rintro e w5 ⟨c3,d3,t3,u3,rfl,b5⟩
 have r1:=brow b5 r1
 have r2:=brow b5 r2
 have B5:=Lib.hid (B4.trans (b5.mono B4.size))
 have x0:w5.cell? ⟨w1.heap.size,0,none⟩=some (.int .i8 1):=by simp only [World.cell?,r1];rfl
 have x1:w5.cell? ⟨w1.heap.size,1,none⟩=some (.int .u64 5):=by simp only [World.cell?,r1];rfl
 have x4:w5.cell? ⟨w1.heap.size,4,none⟩=some (.int .i64 7):=by simp only [World.cell?,r1];rfl
 have y0:w5.cell? ⟨w3.heap.size,0,none⟩=some (.int .i8 3):=by simp only [World.cell?,r2];rfl
 have l1:=lt_of_cell x0
 have l2:=lt_of_cell y0
 clear r1 r2 r3 B4 b5 R3 B3 B1 hf1 TI z3
 go_wp2_with fail
 go_ret
 exact ⟨rfl,below_new B5.out _⟩
end Go.Proofs.YtigliofiojkhcaaGreat.Mdl
namespace Go.Proofs.YtigliofiojkhcaaGreat.Mdl
open Go.RowKit Go.Maps Ins Trc
set_option maxRecDepth 100000
set_option maxHeartbeats 4000000 in
theorem great_no (c:Int)(pa:Option Addr)(plen pcap:Nat)(ca:Option Addr)(cl cc:Nat)(aa:Option Addr)(al ac:Nat)(fuel:Int)(W:World)(h1:plen≤100)(h2:cl≤400)(h3:al≤400)(h4:¬ (2000<fuel∧fuel≤10000)):
  Calls Tryz.prog 5 #[.agg #[.int .i64 c,.slice pa plen pcap],.slice ca cl cc,.slice aa al ac,.int .i64 fuel] W fun e w'=>e=.returned (.bool false)∧Below W.heap.size W w':=by
 by_cases h5:2000<fuel
 ·skip
  have e5:decide (fuel≤(10000:Int))=false:=by rw [decide_eq_false_iff_not];omega
  have e1:decide ((100:Int)<plen)=false:=by rw [decide_eq_false_iff_not];omega
  have e2:decide ((400:Int)<cl)=false:=by rw [decide_eq_false_iff_not];omega
  have e3:decide ((400:Int)<al)=false:=by rw [decide_eq_false_iff_not];omega
  have e4:decide ((2000:Int)<fuel)=true:=by rw [decide_eq_true_iff];omega
  clear h1 h2 h3 h4 h5
  go_enter Tryz.func5,Tryz.ntmps5
  go_wp2_with fail
  go_ret
  exact ⟨rfl,by first | exact below_new (Below.refl _ _) _ | exact below_drewN (below_new (Below.refl _ _) _) _⟩
 ·skip
  have e1:decide ((100:Int)<plen)=false:=by rw [decide_eq_false_iff_not];omega
  have e2:decide ((400:Int)<cl)=false:=by rw [decide_eq_false_iff_not];omega
  have e3:decide ((400:Int)<al)=false:=by rw [decide_eq_false_iff_not];omega
  have e4:decide ((2000:Int)<fuel)=false:=by rw [decide_eq_false_iff_not];omega
  clear h1 h2 h3 h4 h5
  go_enter Tryz.func5,Tryz.ntmps5
  go_wp2_with fail
  go_ret
  exact ⟨rfl,by first | exact below_new (Below.refl _ _) _ | exact below_drewN (below_new (Below.refl _ _) _) _⟩
set_option maxHeartbeats 4000000 in
theorem great_yes (c:Int)(pa:Option Addr)(plen pcap:Nat)(ca:Option Addr)(cl cc:Nat)(aa:Option Addr)(al ac:Nat)(fuel:Int)(W:World)(h:¬ (plen≤100∧cl≤400∧al≤400∧¬ (2000<fuel∧fuel≤10000))):
  Calls Tryz.prog 5 #[.agg #[.int .i64 c,.slice pa plen pcap],.slice ca cl cc,.slice aa al ac,.int .i64 fuel] W fun e w'=>e=.returned (.bool true)∧Below W.heap.size W w':=by
 by_cases h1:100<plen
 ·skip
  have e1:decide ((100:Int)<plen)=true:=by rw [decide_eq_true_iff];omega
  clear h h1
  go_enter Tryz.func5,Tryz.ntmps5
  go_wp2_with fail
  go_ret
  exact ⟨rfl,by first | exact below_new (Below.refl _ _) _ | exact below_drewN (below_new (Below.refl _ _) _) _⟩
 by_cases h2:400<cl
 ·skip
  have e1:decide ((100:Int)<plen)=false:=by rw [decide_eq_false_iff_not];omega
  have e2:decide ((400:Int)<cl)=true:=by rw [decide_eq_true_iff];omega
  clear h h1 h2
  go_enter Tryz.func5,Tryz.ntmps5
  go_wp2_with fail
  go_ret
  exact ⟨rfl,by first | exact below_new (Below.refl _ _) _ | exact below_drewN (below_new (Below.refl _ _) _) _⟩
 by_cases h3:400<al
 ·skip
  have e1:decide ((100:Int)<plen)=false:=by rw [decide_eq_false_iff_not];omega
  have e2:decide ((400:Int)<cl)=false:=by rw [decide_eq_false_iff_not];omega
  have e3:decide ((400:Int)<al)=true:=by rw [decide_eq_true_iff];omega
  clear h h1 h2 h3
  go_enter Tryz.func5,Tryz.ntmps5
  go_wp2_with fail
  go_ret
  exact ⟨rfl,by first | exact below_new (Below.refl _ _) _ | exact below_drewN (below_new (Below.refl _ _) _) _⟩
 ·skip
  have e5:decide (fuel≤(10000:Int))=true:=by rw [decide_eq_true_iff];omega
  have e1:decide ((100:Int)<plen)=false:=by rw [decide_eq_false_iff_not];omega
  have e2:decide ((400:Int)<cl)=false:=by rw [decide_eq_false_iff_not];omega
  have e3:decide ((400:Int)<al)=false:=by rw [decide_eq_false_iff_not];omega
  have e4:decide ((2000:Int)<fuel)=true:=by rw [decide_eq_true_iff];omega
  clear h h1 h2 h3
  go_enter Tryz.func5,Tryz.ntmps5
  go_wp2_with fail
  go_ret
  exact ⟨rfl,by first | exact below_new (Below.refl _ _) _ | exact below_drewN (below_new (Below.refl _ _) _) _⟩
end Go.Proofs.YtigliofiojkhcaaGreat.Mdl
namespace Go.Proofs.YtigliofiojkhcaaGreat
open Go.RowKit
theorem bdr_u8 {a:Int}(h:(Lit.int .u8 a).wf=true):0≤a∧a<256:=by
 simp [Lit.wf,IntKind.min,IntKind.max,IntKind.bits,IntKind.signed] at h
 omega
theorem src_row {W:World}{a:Option Addr}{len cap:Nat}{zs:List Int}(h:IsRow .u8 W a len cap zs):Src W a len cap (fun i=>zs.getD i 0):=by
 rcases h with ⟨rfl,rfl,rfl,_⟩ | ⟨x,rfl,hl,hm,hz,hcell,hwz⟩
 ·exact ⟨Nat.le_refl _,by omega,fun h=>absurd h (by omega),fun i h=>absurd h (by omega)⟩
 ·refine ⟨hl,by unfold maxLen at hm;omega,fun h=>?_,fun i hi=>?_⟩
  ·obtain ⟨b,off,spot⟩:=x
   have c0:=hcell 0 (by omega)
   obtain rfl:spot=none:=by simpa [Addr.add] using World.cell?_spot c0
   exact ⟨b,off,rfl,fun i hi=>by have h:=hcell i (by omega);rw [Go.WideShapes.add_plain] at h;exact h⟩
  ·have hi':i<zs.length:=by omega
   have e:zs.getD i 0=zs[i]:=by simp [List.getD,hi']
   show 0≤zs.getD i 0∧zs.getD i 0<256
   rw [e]
   exact bdr_u8 (hwz _ (List.getElem_mem hi'))
end Go.Proofs.YtigliofiojkhcaaGreat
namespace Go.Proofs.YtigliofiojkhcaaGreat.Mdl
open Go.RowKit Go.Maps Ins Trc Blk
set_option maxRecDepth 100000
theorem items_reflE {e:TypeId}{k:IntKind}{d n:Nat}{xs:Array Value}{f:Nat→Int}(he:Tryz.prog.plainKey e=true)(hc:Tryz.prog.cellsOf e=1)(hu:Tryz.prog.underlying e=some (.int k))(hx:∀ i,i<n→xs[i]?=some (.int k (f i)))(w:World):∀ is:List Nat,(∀ i∈is,i<n)→(Op.eqItems (d+1) e (Tryz.prog.cellsOf e) xs xs is).run Tryz.prog w=.ok true w
 | [],_=>by simp [Op.eqItems]
 | i :: is,h=>by
  have hi:=h i (List.mem_cons_self ..)
  have ih:=items_reflE (d:=d) he hc hu hx w is (fun j hj=>h j (List.mem_cons_of_mem _ hj))
  rw [hc] at ih ⊢
  have hp:=run_part_plain (P:=Tryz.prog) w (e:=e) (off:=i * 1) he (by rw [Nat.mul_one];exact hx i hi)
  have hq:=run_equalIn_int (P:=Tryz.prog) w d e k k (f i) (f i) hu
  simp only [Op.eqItems,Sem.run_bind,hp,hq,Result.andThen_ok,beq_self_eq_true,Bool.not_true,Bool.false_eq_true,if_false,ih]
theorem array_reflE {t e:TypeId}{k:IntKind}{d n:Nat}{xs:Array Value}{f:Nat→Int}(ht:Tryz.prog.underlying t=some (.array n e))(he:Tryz.prog.plainKey e=true)(hc:Tryz.prog.cellsOf e=1)(hu:Tryz.prog.underlying e=some (.int k))(hx:∀ i,i<n→xs[i]?=some (.int k (f i)))(w:World):
  (Op.equalIn (d+2) t (.agg xs) (.agg xs)).run Tryz.prog w=.ok true w:=by
 obtain ⟨i,hi⟩:=info_of_underlying hu
 rw [run_equalIn_array (P:=Tryz.prog) w (d+1) (t:=t) (e:=e) (n:=n) _ _ ht hi]
 exact items_reflE he hc hu hx w _ (fun i hi=>List.mem_range.1 hi)
theorem fields_reflE {d:Nat}{xs:Array Value}(w:World):∀ fs:List Field,(∀ f∈fs,f.name ≠ "_" ∧ ∃ a,(part f.type xs f.offset).run Tryz.prog w=.ok a w∧(Op.equalIn d f.type a a).run Tryz.prog w=.ok true w)→(Op.eqFields d xs xs fs).run Tryz.prog w=.ok true w
 | [],_=>by simp [Op.eqFields]
 | f :: fs,h=>by
  obtain ⟨hn,a,h1,h2⟩:=h f (List.mem_cons_self ..)
  have ih:=fields_reflE w fs (fun g hg=>h g (List.mem_cons_of_mem _ hg))
  simp only [Op.eqFields,if_pos hn,Sem.run_bind,h1,h2,Result.andThen_ok,Bool.not_true,Bool.false_eq_true,if_false,ih]
theorem part_agg {t e:TypeId}{n s off:Nat}{xs:Array Value}(ht:Tryz.prog.underlying t=some (.array n e))(hs:Tryz.prog.cellsOf t=s)(w:World):(part t xs off).run Tryz.prog w=.ok (.agg (xs.extract off (off+s))) w:=by
 obtain ⟨i,hi⟩:=info_of_underlying ht
 simp [part,isAgg,run_underlying ht,run_sizeOf w hi,hs]
theorem snap_fields:(Tryz.prog.fieldsOf 49).toList.map (fun f=>(f.name,f.type,f.offset))=[("Regs", 46,0),("Set", 3,11),("Frame", 47,12)]:=by kernel_rfl
theorem regs_cut (r:Nat→Int)(s:Int)(g:Nat→Int):(snapC r s g).toArray.extract 0 (0+11)=(regsC r).toArray:=by kernel_rfl
theorem frm_cut (r:Nat→Int)(s:Int)(g:Nat→Int):(snapC r s g).toArray.extract 12 (12+64)=(frmL g).toArray:=by kernel_rfl
theorem regs_get (r:Nat→Int):∀ i,i<11→(regsC r).toArray[i]?=some (.int .u64 (r i)):=by
 intro i hi
 match i,hi with
 | 0,_ | 1,_ | 2,_ | 3,_ | 4,_ | 5,_ | 6,_ | 7,_ | 8,_ | 9,_ | 10,_=>rfl
theorem snap_refl (r:Nat→Int)(s:Int)(g:Nat→Int)(w:World):(Op.equalIn 10000 49 (.agg (snapC r s g).toArray) (.agg (snapC r s g).toArray)).run Tryz.prog w=.ok true w:=by
 rw [run_equalIn_struct (P:=Tryz.prog) w 9999 49 _ _ (by kernel_rfl) (by kernel_rfl)]
 refine fields_reflE w _ (fun f hf=>?_)
 have hm:=List.mem_map_of_mem (f:=fun f:Field=>(f.name,f.type,f.offset)) hf
 rw [snap_fields] at hm
 simp only [List.mem_cons,List.not_mem_nil,or_false,Prod.mk.injEq] at hm
 rcases hm with ⟨h1,h2,h3⟩ | ⟨h1,h2,h3⟩ | ⟨h1,h2,h3⟩
 ·rw [h1,h2,h3]
  refine ⟨by decide,_,part_agg (s:=11) Tryz.underlying46 (by kernel_rfl) w,?_⟩
  rw [regs_cut]
  exact array_reflE (d:=9997) Tryz.underlying46 (by kernel_rfl) (by kernel_rfl) Tryz.underlying30 (regs_get r) w
 ·rw [h1,h2,h3]
  refine ⟨by decide,.int .i64 s,run_part_plain w (by kernel_rfl) rfl,?_⟩
  rw [run_equalIn_int (P:=Tryz.prog) w 9998 3 .i64 .i64 s s Tryz.underlying3,beq_self_eq_true]
 ·rw [h1,h2,h3]
  refine ⟨by decide,_,part_agg (s:=64) Tryz.underlying47 (by kernel_rfl) w,?_⟩
  rw [frm_cut]
  exact array_reflE (d:=9997) (f:=fun i=>g (258+i)) Tryz.underlying47 (by kernel_rfl) (by kernel_rfl) Tryz.underlying5 (fun i hi=>by rw [List.getElem?_toArray];exact bytesOf_get _ _ i hi) w
theorem own_blk {w:World}{B m s:Nat}{T:TypeId}{v:Value}{xs:List Value}(h:w.ownsRow B T s v m xs):∃ (a:Option Addr) (cap g:Nat) (cur:Array Value),v=.slice a m cap∧(0<m→a=some ⟨g,0,none⟩∧w.heap[g]?=some (.cells cur T (0,0))∧cur.toList.take (m * s)=xs)∧(m=0→g=0):=by
 rcases h.2 with ⟨h1,h2⟩ | ⟨g,cap,cur,e1,e2,e3,e4,e5,e6,e7⟩
 ·subst h2
  exact ⟨none,0,0,#[],h1,fun h=>absurd h (Nat.lt_irrefl 0),fun _=>rfl⟩
 ·by_cases hm:0<m
  ·exact ⟨_,cap,g,cur,e1,fun _=>⟨rfl,e3,e7⟩,fun h=>by omega⟩
  ·exact ⟨_,cap,0,cur,e1,fun h=>absurd h hm,fun _=>rfl⟩
theorem chunk_get {n:Nat}:∀ (L:List (List Value)),(∀ l∈L,l.length=n)→∀ k l,L[k]?=some l→(L.flatten.drop (k * n)).take n=l
 | [],_,k,l,h=>by simp at h
 | a :: L,hl,0,l,h=>by
  simp only [List.getElem?_cons_zero,Option.some.injEq] at h
  subst h
  have:=hl a (List.mem_cons_self ..)
  rw [Nat.zero_mul,List.drop_zero,List.flatten_cons,← this,List.take_left]
 | a :: L,hl,k+1,l,h=>by
  have ha:=hl a (List.mem_cons_self ..)
  rw [List.flatten_cons,Nat.succ_mul,Nat.add_comm,← List.drop_drop]
  rw [show (a ++ L.flatten).drop n=L.flatten by rw [← ha,List.drop_left]]
  exact chunk_get L (fun x hx=>hl x (List.mem_cons_of_mem _ hx)) k l (by simpa using h)
theorem snapsF_get {E:Env}{D:Pl}{m k:Nat}{cur:Array Value}(h:cur.toList.take (m * 76)=snapsF E D m)(hk:k<m):(cur.toList.drop (k * 76)).take 76=(its E D k).snap:=by
 have e1:((snapsF E D m).drop (k * 76)).take 76=(its E D k).snap:=by
  unfold snapsF
  refine chunk_get _ (fun l hl=>?_) k _ ?_
  ·obtain ⟨j,_,rfl⟩:=List.mem_map.1 hl
   exact snap_len _ _ _
  ·rw [List.getElem?_map,List.getElem?_range hk];rfl
 rw [← e1,← h,List.drop_take,List.take_take,Nat.min_eq_left (by omega)]
theorem atsV_get {E:Env}{D:Pl}{m k:Nat}{cur:Array Value}(h:cur.toList.take (m * 1)=(ats E D m).map (.int .i64))(hk:k<m):cur[k]?=some (.int .i64 (its E D k).at_):=by
 have:((ats E D m).map (Value.int .i64))[k]?=some (.int .i64 (its E D k).at_):=by rw [List.getElem?_map,ats_get E D hk];rfl
 rw [← h,List.getElem?_take_of_lt (by omega),Array.getElem?_toList] at this
 exact this
theorem seq_not_nilE (eB gB:Nat)(w:World):(binOp .eql 44 (.func (.func 22) #[] #[.pointer (some ⟨eB,0,none⟩),.pointer (some ⟨gB,0,none⟩)]) .nilFunc).run Tryz.prog w=.ok (.bool false) w:=by kernel_rfl
theorem load_boolE {w:World}{g:Nat}{v:Bool}(h:w.heap[g]?=some (.cells #[.bool v] 4 (0,0))):(loadVar 4 ⟨g,0,none⟩).run Tryz.prog w=.ok (.bool v) w:=by
 have hc:w.cell? ⟨g,0,none⟩=some (.bool v):=by simp only [World.cell?,h];rfl
 simp [loadVar,hc,go_sem]
theorem done_more {E:Env}{D:Pl}{m k:Nat}(h:Done E D m)(g:Goes E D k)(f:0<(its E D k).fuel):k<m:=by
 rcases Nat.lt_or_ge k m with h1 | h1
 ·exact h1
 ·rcases h with ⟨_,h2⟩ | ⟨q,rfl,_,_,h3⟩
  ·rcases Nat.lt_or_ge m k with h4 | h4
   ·exact absurd (g m h4).1 h2
   ·obtain rfl:m=k:=by omega
    exact absurd f h2
  ·exact absurd (g q (by omega)).2 h3
structure EW (W:World)(lv:Int)(m gA gN gV gL:Nat)(aA aL:Option Addr)(pA pL:Nat)(cA cL:Array Value)(pre:List (Int × List Value))(w:World):Prop where
 bel:Below W.heap.size W w
 leave:w.heap[W.heap.size+1]?=some (.cells #[.int .i64 lv] 3 (0,0))
 res:w.heap[W.heap.size+2]?=some (.cells #[.bool false] 4 (0,0))
 at_:w.heap[gA]?=some (.cells #[.slice aA m pA] 37 (0,0))
 l:w.heap[gA+1]?=some (.cells #[.slice aL m pL] 40 (0,0))
 n:w.heap[gN]?=some (.cells #[.int .i64 pre.length] 3 (0,0))
 ra:0<m→w.heap[gV]?=some (.cells cA 3 (0,0))
 rl:0<m→w.heap[gL]?=some (.cells cL 49 (0,0))
section
variable {W:World} {lv:Int} {m gA gN gV gL:Nat} {aA aL:Option Addr} {pA pL:Nat} {cA cL:Array Value} {pre:List (Int × List Value)} {w w':World}
theorem EW.mv (h:EW W lv m gA gN gV gL aA aL pA pL cA cL pre w)(γ:Nat)(hg:W.heap.size+2<γ∧gA+1<γ∧gN<γ∧gV<γ∧gL<γ)(bel:Below W.heap.size W w')
  (mv:∀ (g:Nat) (cs:Array Value) (t:TypeId),g<γ→τM t=false→w.heap[g]?=some (.cells cs t (0,0))→w'.heap[g]?=some (.cells cs t (0,0))):EW W lv m gA gN gV gL aA aL pA pL cA cL pre w':=
 ⟨bel,mv _ _ _ (by omega) (by decide) h.leave,mv _ _ _ (by omega) (by decide) h.res,mv _ _ _ (by omega) (by decide) h.at_,mv _ _ _ (by omega) (by decide) h.l,mv _ _ _ (by omega) (by decide) h.n,fun hm=>mv _ _ _ (by omega) (by decide) (h.ra hm),fun hm=>mv _ _ _ (by omega) (by decide) (h.rl hm)⟩
theorem EW.below (h:EW W lv m gA gN gV gL aA aL pA pL cA cL pre w)(k:Below w.heap.size w w'):EW W lv m gA gN gV gL aA aL pA pL cA cL pre w':=
 h.mv (W.heap.size+3+gA+2+gN+1+gV+1+gL+1) (by omega) (h.bel.trans (k.mono h.bel.size)) (fun g cs t _ _ hg=>brow k hg)
theorem EW.ab {β γ:Nat}(hg:W.heap.size+2<γ∧gA+1<γ∧gN<γ∧gV<γ∧gL<γ)(hβ:W.heap.size≤β):AbG τM β γ (EW W lv m gA gN gV gL aA aL pA pL cA cL):=fun pre A B h t=>
 h.mv γ hg (TurnG.below h.bel t hβ (by omega) (Nat.le_refl _)) (fun g cs ty h1 h2 h3=>TurnG.row t h3 h1 h2)
end
section
variable {ρ:Operand→Value} {o:Oper} {x y:Operand} {w:World}
theorem ex_lenE {a:Option Addr}{m c:Nat}{ts:Array TypeId}(ho:o.op=.call ⟨.builtin .len,#[x],ts⟩)(ht:ts=#[37])(hx:ρ x=.slice a m c):(execOp ρ o).run Tryz.prog w=.ok (.value (.int .i64 (m:Int))) w:=by
 subst ht
 simp [execOp,ho,hx,go_sem]
theorem ex_ixA {g m c k:Nat}(ho:o.op=.indexAddr 37 x y)(hx:ρ x=.slice (some ⟨g,0,none⟩) m c)(hy:ρ y=.int .i64 (k:Int))(hk:k<m):(execOp ρ o).run Tryz.prog w=.ok (.value (.pointer (some ⟨g,k,none⟩))) w:=by
 simp [execOp,ho,hx,hy,go_sem]
 omega
theorem ex_ixB {g m c k:Nat}(ho:o.op=.indexAddr 40 x y)(hx:ρ x=.slice (some ⟨g,0,none⟩) m c)(hy:ρ y=.int .i64 (k:Int))(hk:k<m):(execOp ρ o).run Tryz.prog w=.ok (.value (.pointer (some ⟨g,k * 76,none⟩))) w:=by
 simp [execOp,ho,hx,hy,go_sem]
 omega
theorem ex_pkE {c:Operand}{v:Value}(ho:o.op=.pick c x y)(hc:ρ c=.bool false)(h2:ρ y=v):(execOp ρ o).run Tryz.prog w=.ok (.value v) w:=by
 simp [execOp,ho,hc,h2,go_sem]
theorem ex_neE {k:IntKind}{n:Int}{t u:TypeId}(ho:o.op=.binOp .neq t x y u)(hx:ρ x=.int k n)(hy:ρ y=.int k n):(execOp ρ o).run Tryz.prog w=.ok (.value (.bool false)) w:=by
 simp [execOp,ho,hx,hy,go_sem]
end
def EX (lv:Int)(I:List (Int × List Value)→World→Prop)(c:Code)(pre:List (Int × List Value))(w:World):Prop:=c=.exit 0∧(pre.length:Int)=lv∧I pre w
theorem EX.ab {β γ:Nat}{lv:Int}{I:List (Int × List Value)→World→Prop}(h:AbG τM β γ I)(c:Code):AbG τM β γ (EX lv I c):=fun pre A B hs t=>⟨hs.1,hs.2.1,h _ _ _ hs.2.2 t⟩
def EN (W:World)(gA gN:Nat)(pre:List (Int × List Value))(w:World):Prop:=Below W.heap.size W w∧w.heap[W.heap.size+2]?=some (.cells #[.bool false] 4 (0,0))∧w.heap[gA]?=some (.cells #[.slice none 0 0] 37 (0,0))∧w.heap[gN]?=some (.cells #[.int .i64 0] 3 (0,0))
theorem EN.ab {W:World}{gA gN β γ:Nat}(hg:W.heap.size+2<γ∧gA<γ∧gN<γ)(hβ:W.heap.size≤β):AbG τM β γ (EN W gA gN):=fun pre A B h t=>
 ⟨TurnG.below h.1 t hβ (by omega) (Nat.le_refl _),TurnG.row t h.2.1 (by omega) (by decide),TurnG.row t h.2.2.1 (by omega) (by decide),TurnG.row t h.2.2.2 (by omega) (by decide)⟩
end Go.Proofs.YtigliofiojkhcaaGreat.Mdl
