import Derived.Test.YtigliofiojkhcaaGreatMEx
import Derived.Test.YtigliofiojkhcaaGreatMRn23
import Derived.Test.YtigliofiojkhcaaGreatMRn17
import Derived.OwnWalkIn
import Derived.RangeFuncBox
import Derived.RangeFuncNested
import Derived.RangeFuncBound
import Derived.RangeFuncCalls
import Derived.Shelf.RegionOpen
set_option linter.unusedVariables false
set_option linter.unusedSimpArgs false
set_option linter.unnecessarySimpa false
namespace Go.Proofs.YtigliofiojkhcaaGreat.Mdl
open Go.RowKit Go.Maps Ins Trc
set_option maxRecDepth 100000
theorem info_model:(Tryz.prog.info? 78).map (·.size)=some 19:=by kernel_rfl
theorem info_pm:(Tryz.prog.info? 72).map (·.size)=some 1:=by kernel_rfl
theorem info_evsl:(Tryz.prog.info? 31).map (·.size)=some 1:=by kernel_rfl
theorem mo_one (s:Mo)(h1:s.prog.oneCell'=true)(h2:s.memo.oneCell'=true)(h3:s.answers.oneCell'=true)(h4:s.trace.oneCell'=true):s.cells.all (·.oneCell')=true:=by
 have hi:∀ k n,(Value.int k n).oneCell'=true:=fun _ _=>rfl
 simp [Mo.cells,h1,h2,h3,h4,hi]
def modelZ:Array Value:=#[.slice none 0 0,.pointer none,.int .u64 0,.int .u64 0,.int .u64 0,.int .u64 0,.int .u64 0,.int .u64 0,.int .u64 0,.int .u64 0,.int .u64 0,.int .u64 0,.int .u64 0,.int .i64 0,.int .i64 0,.int .i64 0,.slice none 0 0,.slice none 0 0,.int .i8 0]
theorem zero_model:(Tryz.prog.info? 78).map (fun i=>(i.zero,i.size))=some (some (.agg modelZ),19):=by kernel_rfl
def AgainIs (E:Env)(D:Pl)(W:World)(e:Ending)(w':World):Prop:=∃ g b,e=.returned (.pointer (some ⟨g,0,none⟩))∧W.heap.size≤g∧Below W.heap.size W w'∧Rel { E with g:=g,b:=b,β:=W.heap.size } D w'
set_option maxHeartbeats 8000000 in
theorem again_any (E:Env)(D:Pl)(W:World)(R:Rel E D W)(he:D.evs=[]):Calls Tryz.prog 23 #[.pointer (some ⟨E.g,0,none⟩)] W (AgainIs E D W):=by
 have hz:=(zero_of_info zero_model).1
 obtain ⟨av,tv,hin,hA,hT⟩:=R.st
 obtain ⟨ta,tc,rfl,hev⟩:=hT.evs
 rw [he] at hev hin
 obtain ⟨hz0,aa,ca,rfl,hca,haw⟩:=hA
 have hM:=R.mm
 have hcb:=hM.code.lt
 have HP:=Lib.hid R.pr
 have HW:=Lib.hid R.words
 have HE:=Lib.hid he
 have CP:=Lib.hid (fun w (h:D.mem.at w E.b) h2=>copy_any D.mem E.b w h h2)
 have CE:=Lib.hid (fun w (h:EvsAt w ta 0 tc [])=>cloneE_any ta tc [] w w h (Below.refl _ _) (by simp))
 have HI:=Lib.hid (show W.heap[E.g]?=some (.cells (E.mo D (.slice aa D.ans.length ca) (.slice ta 0 tc)).cells 78 (0,0)) from hin)
 have HEV:=Lib.hid hev
 have HM:=Lib.hid hM
 have HAW:=Lib.hid (show AnsR W (.slice aa D.ans.length ca) D.ans from ⟨hz0,aa,ca,rfl,hca,haw⟩)
 clear hin hT hev hM hz0 hca haw R he
 have hi:=Lib.hid (show (Tryz.prog.info? 78).map (·.size)=some (E.mo D (.slice aa D.ans.length ca) (.slice ta 0 tc)).cells.size from info_model)
 go_enter Tryz.func23,Tryz.ntmps23
 go_wp2_with (first | (refine wpList_load_row rfl 78 _ rfl E.g rfl 78 (E.mo D (.slice aa D.ans.length ca) (.slice ta 0 tc)).cells (0,0) _ HI.out Tryz.underlying78 rfl hi.out ?_) | (refine halt_store 78 _ _ rfl ?_))
 refine ⟨?_,trivial⟩
 refine wpList_store_is rfl 78 _ _ rfl W.heap.size (E.mo D (.slice aa D.ans.length ca) (.slice ta 0 tc)).cells rfl rfl 78 _ (heap_last _ _ _ rfl) hi.out rfl (mo_one _ rfl rfl rfl rfl) ?_
 intro w1 s1
 have b1:Below W.heap.size W w1:=s1.below (below_new (Below.refl _ _) _) (Nat.le_refl _)
 have r1:=s1.row
 have z1:W.heap.size<w1.heap.size:=(Array.getElem?_eq_some_iff.1 r1).1
 have p1:w1.cell? ⟨E.g,1,none⟩=some (.pointer (some ⟨E.b,0,none⟩)):=by
  have:=brow b1 HI.out
  simp only [World.cell?,this];rfl
 have B1:=Lib.hid b1
 have R1:=Lib.hid r1
 clear s1 b1 r1
 go_wp2_with fail
 refine (CP.out w1 ((HM.out.at_).below B1.out) (by omega)).mono ?_
 rintro e w2 ⟨b,rfl,hb,b2,hS⟩
 have r2:=brow b2 R1.out
 have z2:=b2.size
 have B2:=Lib.hid (B1.out.trans (b2.mono B1.out.size))
 have S2:=Lib.hid hS
 have C2:=Lib.hid (HM.out.code.of_block (B2.out.block _ hcb))
 have hbl:b<w2.heap.size:=hS.row.lt
 have hb':W.heap.size≤b:=by omega
 have R2:=Lib.hid r2
 clear b2 hS R1 B1 p1 r2
 go_wp2_with (with_reducible refine (halt_store 72 _ _ rfl ?_))
 refine ⟨?_,trivial⟩
 refine wpList_store_cell rfl 72 _ _ rfl W.heap.size 1 (.pointer (some ⟨b,0,none⟩)) rfl rfl rfl rfl 78 _ R2.out info_pm (by show 1<19;decide) ?_
 intro w3 s3
 have r3:=s3.row
 have B3:=Lib.hid (s3.below B2.out (Nat.le_refl _))
 have S3:=Lib.hid (show D.mem.at w3 b from ⟨S2.out.row.of_block (s3.other b (by omega)),S2.out.cn,S2.out.n,S2.out.far,S2.out.bytes⟩)
 have C3:=Lib.hid (C2.out.of_block (s3.other _ (by omega)))
 have z3:w3.heap.size=w2.heap.size:=s3.size
 have q3:w3.cell? ⟨E.g,17,none⟩=some (.slice ta 0 tc):=by
  have:=brow B3.out HI.out
  simp only [World.cell?,this];rfl
 have R3:=Lib.hid r3
 clear s3 r3 B2 S2 C2 R2
 go_wp2_with fail
 refine (CE.out w3 (HEV.out.below B3.out)).mono ?_
 rintro e w4 ⟨v,qs,rfl,hq,ow,_,b4⟩
 obtain rfl:qs=[]:=by simpa using hq
 have R4:=Lib.hid (brow b4 R3.out)
 have B4:=Lib.hid (B3.out.trans (b4.mono B3.out.size))
 have S4:=Lib.hid (S3.out.below b4)
 have C4:=Lib.hid (C3.out.of_block (b4.block _ C3.out.lt))
 have O4:=Lib.hid ow
 have z4:=b4.size
 clear hq b4 R3 B3 S3 C3 q3 ow
 go_wp2_with (with_reducible refine (halt_store 31 _ _ rfl ?_))
 refine ⟨?_,trivial⟩
 obtain ⟨v1,v2⟩:=own_slice O4.out
 refine wpList_store_cell rfl 31 _ _ rfl W.heap.size 17 v rfl rfl v1 v2 78 _ R4.out info_evsl (by show 17<19;decide) ?_
 intro w5 s5
 have b5:=s5.below B4.out (Nat.le_refl _)
 have t5:Trn [W.heap.size] w4 w5:=⟨s5.os,s5.tape,s5.output,by rw [s5.size];exact Nat.le_refl _,fun k _ hn=>s5.other k (by simpa using hn)⟩
 have z5:w5.heap.size=w4.heap.size:=s5.size
 have FO:=Lib.hid (show AgainIs E D W (.returned (.pointer (some ⟨W.heap.size,0,none⟩))) w5 from ⟨W.heap.size,b,rfl,Nat.le_refl _,b5,by
  refine ⟨⟨.slice aa D.ans.length ca,v,s5.row,HAW.out.trn (show Trn [] W w5 from Trn.of_below b5) (fun j hj=>by cases hj),[],HE.out.symm,?_,fun p hp=>by cases hp⟩,PrR.trn (E:={ E with g:=W.heap.size,b:=b,β:=W.heap.size }) HP.out (show Trn [] W w5 from Trn.of_below b5) (fun j hj=>by cases hj),⟨⟨S4.out.row.of_block (s5.other b (by omega)),S4.out.cn,S4.out.n,S4.out.far,S4.out.bytes⟩,C4.out.of_block (s5.other _ (by omega)),HM.out.kb⟩,HW.out,Nat.le_refl _,hb',by show W.heap.size≤_;omega⟩
  rw [HE.out]
  exact own_trn (own_base O4.out (show W.heap.size≤w3.heap.size by omega)) t5 (fun j hj hm=>by
   have:=(World.ownsRow.lt O4.out j hj).1
   rw [List.mem_singleton] at hm
   omega)⟩)
 clear s5 b5 t5 v1 v2
 go_wp2_with fail
 go_ret
 exact FO.out
end Go.Proofs.YtigliofiojkhcaaGreat.Mdl
namespace Go.Proofs.YtigliofiojkhcaaGreat.Mdl
open Go.RowKit Go.Shelf
set_option maxRecDepth 100000
section
variable {P:Program} {l n:Nat} {ops:Array Oper} {Q:Exit→Act→World→Prop} {rest:List Oper} {o:Oper} {a:Act} {w:World}
theorem in_of_upon {Q':Exit→Act→World→Prop}{next:Act→World→Prop}(hq:∀ a w,¬ Q .outgrown a w)(hp:∀ c a w,Q' (.panic c) a w→Q (.panic c) a w)(ho:∀ a w,Q' .outgrown a w→Q .outgrown a w):
  ∀ r,o.upon P a next Q' r→o.uponIn (Fence.wide.inRound l) n P a next Q r:=by
 intro r h
 cases r with
 | ok x w'=>
  cases x with
  | value v=>exact h
  | skip=>exact h
  | defer d=>exact h
  | enter f args=>
   refine ⟨fun _=>by simp [Fence.wide] at *,?_⟩
   refine (callsIn_wide (n:=n - 1)).2 (Calls.mono h ?_)
   rintro e w2 h2
   cases e with
   | returned v=>exact h2
   | panicked chain=>exact hp _ _ _ h2
   | outgrown=>
    obtain ⟨a,w,h3⟩:=h2
    exact absurd (ho _ _ h3) (hq _ _)
  | row row args=>
   refine ⟨fun _=>by simp [Fence.wide] at *,fun c cs _=>?_⟩
   obtain ⟨v,w',r,s⟩:=h c cs
   exact ⟨v,w',r,(stepsIn_wide).2 s⟩
  | _=>exact h.elim
 | halt x w'=>
  cases x with
  | panic v=>exact hp _ _ _ h
  | _=>exact h.elim
theorem in_of_list {Q':Exit→Act→World→Prop}(hq:∀ a w,¬ Q .outgrown a w)(ho:∀ a w,Q' .outgrown a w→Q .outgrown a w)(hp:∀ c a w,Q' (.panic c) a w→Q (.panic c) a w)(hn:∀ a w,Q' .normal a w→Q .normal a w):
  ∀ (rest:List Oper),(∀ o∈rest,∀ c,o.op≠.defer c)→∀ a w,wpList P ops Q' rest a w→wpListIn (Fence.wide.inRound l) n P ops Q rest a w
 | [],_,a,w,h=>hn a w h
 | o :: rest,hd,a,w,h=>by
  unfold wpListIn
  unfold wpList at h
  by_cases hw:Region.wanted o (yielded ops a.tmps)=true
  ·rw [if_pos hw] at h ⊢
   rcases h with h | h
   ·refine ⟨fun _ _=>trivial,?_⟩
    rw [Oper.semAt_plain _ _ _ (hd o List.mem_cons_self)]
    have h2:=in_of_upon (l:=l) (n:=n) (Q:=Q) (Q':=Q') hq hp ho _ h
    revert h2
    generalize (execOp a.eval o).run P w=r
    intro h2
    have key:∀ (nx nx':Act→World→Prop),(∀ a w,nx a w→nx' a w)→∀ r,o.uponIn (Fence.wide.inRound l) n P a nx Q r→o.uponIn (Fence.wide.inRound l) n P a nx' Q r:=by
     intro nx nx' hx r h
     cases r with
     | ok x w'=>
      cases x with
      | value v=>exact hx _ _ h
      | skip=>exact hx _ _ h
      | defer d=>exact hx _ _ h
      | enter f args=>
       refine ⟨h.1,?_⟩
       refine (callsIn_wide (n:=n - 1)).2 (Calls.mono ((callsIn_wide (n:=n - 1)).1 h.2) ?_)
       rintro e w2 h2
       cases e with
       | returned v=>exact hx _ _ h2
       | panicked chain=>exact h2
       | outgrown=>exact h2
      | row row args=>exact ⟨h.1,RowsIn.mono h.2 (fun v w' h=>hx _ _ h)⟩
      | round l f tmps assign body=>
       refine ⟨h.1,RoundIn.mono h.2 ?_⟩
       rintro e w2 h2
       cases e with
       | returned v=>exact hx _ _ h2
       | panicked chain=>exact h2
       | outgrown=>exact h2
      | _=>exact h
     | halt x w'=>
      cases x with
      | panic v=>exact h
      | _=>exact h
    exact key _ _ (fun a w h=>in_of_list hq ho hp hn rest (fun o ho=>hd o (List.mem_cons_of_mem _ ho)) a w h) _ h2
   ·obtain ⟨_,a,w,h⟩:=h
    exact absurd (ho a w h) (hq a w)
  ·rw [if_neg hw] at h ⊢
   exact ⟨fun _ _=>trivial,in_of_list hq ho hp hn rest (fun o ho=>hd o (List.mem_cons_of_mem _ ho)) _ _ h⟩
def isDefer:Op→Bool
 | .defer _=>true
 | _=>false
theorem noDefer {ls:List Oper}(h:ls.all (fun o=>!isDefer o.op)=true):∀ o∈ls,∀ c,o.op≠.defer c:=fun o ho c e=>by
 have:=List.all_eq_true.1 h o ho
 rw [e] at this
 simp [isDefer] at this
theorem in_region_seq {id:Nat}{ls:List Oper}{y:Code}(hd:ls.all (fun o=>!isDefer o.op)=true)(hq:∀ a w,¬ Q .outgrown a w)
  (h:∀ K:Act→World→Prop,(∀ a w,y.wpIn (Fence.wide.inRound l) n P Q a w→K a w)→wpList P ls.toArray (Exit.then K (fun _ _ _=>False)) ls a w):(Code.seq (Code.region id ls.toArray false) y).wpIn (Fence.wide.inRound l) n P Q a w:=by
 refine wpIn_seq ?_
 refine wpIn_region_lit ?_
 exact in_of_list (Q:=Exit.then (y.wpIn (Fence.wide.inRound l) n P Q) Q) (Q':=Exit.then (fun a w=>y.wpIn (Fence.wide.inRound l) n P Q a w) (fun _ _ _=>False)) (fun a w h=>hq a w h) (fun a w h=>h.elim) (fun c a w h=>h.elim) (fun a w h=>h) _ (noDefer hd) a w (h _ (fun _ _ h=>h))
theorem in_region {id:Nat}{ls:List Oper}(hd:ls.all (fun o=>!isDefer o.op)=true)(hq:∀ a w,¬ Q .outgrown a w)
  (h:∀ K:Act→World→Prop,(∀ a w,Q .normal a w→K a w)→wpList P ls.toArray (Exit.then K (fun _ _ _=>False)) ls a w):(Code.region id ls.toArray false).wpIn (Fence.wide.inRound l) n P Q a w:=by
 refine wpIn_region_lit ?_
 exact in_of_list (Q':=Exit.then (fun a w=>Q .normal a w) (fun _ _ _=>False)) (fun a w h=>hq a w h) (fun a w h=>h.elim) (fun c a w h=>h.elim) (fun a w h=>h) _ (noDefer hd) a w (h _ (fun _ _ h=>h))
end
end Go.Proofs.YtigliofiojkhcaaGreat.Mdl
namespace Go.Proofs.YtigliofiojkhcaaGreat.Mdl
open Go.RowKit Go.Maps Ins Trc
set_option maxRecDepth 100000
def cntP (l:List Int)(i:Nat):Int:=(l.count (i:Int):Nat)
theorem ats_len (E:Env)(D:Pl)(k:Nat):(ats E D k).length=k:=by simp [ats]
theorem info_intV:(Tryz.prog.info? 3).map (·.size)=some 1:=by kernel_rfl
theorem itsV_fuel (E:Env)(D:Pl):∀ k:Nat,(its E D k).fuel=D.fuel - k
 | 0=>by show D.fuel=D.fuel - (0:Nat);omega
 | k+1=>by
  show ((its E D k).step E.kf (E.x (its E D k).ix)).fuel=_
  rw [step_fuel,itsV_fuel E D k];omega
theorem keepT_trn {σ:TypeId→Bool}{G:List Nat}{w w':World}(t:Trn G w w')(h:∀ j∈G,∃ c ty fr,w.heap[j]?=some (.cells c ty fr)∧σ ty=false):KeepT σ w w':=⟨t.size,fun k o hk ho=>t.row hk (fun hg=>by
 obtain ⟨c,ty,fr,h1,h2⟩:=h k hg
 rw [hk] at h1
 injection h1 with h1
 subst h1
 change σ ty=true at ho
 rw [h2] at ho;cases ho)⟩
theorem keepsFrom_trn {G:List Nat}{B:Nat}{w w':World}(t:Trn G w w')(h:∀ j∈G,∃ c ty fr,w.heap[j]?=some (.cells c ty fr)):KeepsFrom B w w':=⟨t.size,fun k o _ hk ho=>t.row hk (fun hg=>by
 obtain ⟨c,ty,fr,h1⟩:=h k hg
 rw [hk] at h1
 injection h1 with h1
 subst h1
 simp [Obj.isCells] at ho)⟩
theorem plain_env {E:Env}{x:Nat→In}{plen cb cl m:Nat}{cf:Nat→Int}{fuel:Int}{zs:List Int}(el:E.pl=plen)(ex:E.x=x)(hk:E.kf=fun _=>0)(F:Fine E)(R:Runs E (ini cb cl cf fuel zs))(hm:Done E (ini cb cl cf fuel zs) m):
  Fine (env x plen)∧Runs (env x plen) (ini 0 cl cf fuel zs)∧Done (env x plen) (ini 0 cl cf fuel zs) m∧ats E (ini cb cl cf fuel zs) m=ats (env x plen) (ini 0 cl cf fuel zs) m:=by
 subst el ex
 rw [ini_cb] at hm
 refine ⟨⟨Nat.le_refl _,F.len,F.may,F.ok,F.jumps,F.into,F.on⟩,⟨R.lo,R.hi,R.few,R.fuel⟩,done_env hk _ cb m hm,?_⟩
 unfold ats
 refine List.map_congr_left (fun j _=>?_)
 show (its E ((ini 0 cl cf fuel zs).cb cb) j).at_=_
 rw [its_env hk];rfl
end Go.Proofs.YtigliofiojkhcaaGreat.Mdl
namespace Go.Proofs.YtigliofiojkhcaaGreat.Mdl
open Go.RowKit Go.Maps Ins Trc
set_option maxRecDepth 100000
def eachV (eB gB:Nat):Value:=.func (.func 22) #[] #[.pointer (some ⟨eB,0,none⟩),.pointer (some ⟨gB,0,none⟩)]
def EachIs (W:World)(x:Nat→In)(plen cl:Nat)(cf:Nat→Int)(fuel:Int)(zs:List Int)(e:Ending)(w':World):Prop:=
 ∃ (E:Env) (cb eB gB:Nat),e=.returned (eachV eB gB)∧E.x=x∧E.pl=plen∧E.pl≤E.pc∧E.kf=(fun _=>0)∧W.heap.size≤eB∧W.heap.size≤gB∧w'.heap[eB]?=some (.cells #[.int .i64 0] 34 (0,0)) ∧
  w'.heap[gB]?=some (.cells #[.pointer (some ⟨E.g,0,none⟩)] 53 (0,0))∧Below W.heap.size W w'∧Rel E (ini cb cl cf fuel zs) w'
set_option maxHeartbeats 8000000 in
theorem each_ok (c:Int)(b o plen pcap:Nat)(x:Nat→In)(ca:Option Addr)(cl cc:Nat)(cf:Nat→Int)(aa:Option Addr)(al ac tk:Nat)(zs:List Int)(fuel:Int)(W:World)(hI:Insts W (some ⟨b,o,none⟩) plen pcap x)(hS:Src W ca cl cc cf)(hA:WordsAt W aa al ac zs)
  (hchk:(checkI c plen x).2=0) (hlen:(cl:Int)=c) (f0:0≤fuel) (f1:fuel≤10000) (htk:min (al:Int) fuel=(tk:Int)) (hal:al≤1000) (hz:∀ z∈zs,0≤z∧z<18446744073709551616):
  Calls Tryz.prog 13 #[.agg #[.int .i64 c,.slice (some ⟨b,o,none⟩) plen pcap],.slice ca cl cc,.slice aa al ac,.int .i64 fuel] W (EachIs W x plen cl cf fuel (zs.take tk)):=by
 obtain ⟨h1,h64,_⟩:=ends_facts hchk
 have hc:=check_c hchk
 have htl:tk≤al:=by omega
 have ST:=Lib.hid (fun w (h:Below W.heap.size W w)=>start_ok c b o plen pcap x ca cl cc cf aa al ac tk zs fuel w (hI.below h) (hS.below h) (hA.below h) hchk hlen (by omega) f0 f1 ⟨h1,h64⟩ htk hal htl hz)
 clear hI hS hA hchk hlen hz htk
 generalize zs.take tk=ys at *
 have bx0:=below_new (Below.refl W.heap.size W) (.cells #[.int .i64 c,.slice (some ⟨b,o,none⟩) plen pcap] 24)
 have hmf:∀ (fn:Fn) (first cap:Array Value) (w:World),(Instr.makeFunc fn first cap).run Tryz.prog w=.ok (.func fn first cap) w:=fun _ _ _ _=>rfl
 go_enter Tryz.func13,Tryz.ntmps13
 go_wp2_with fail
 generalize W.alloc (.cells #[.int .i64 c,.slice (some ⟨b,o,none⟩) plen pcap] 24)=w0 at *
 refine (ST.out _ bx0).mono ?_
 rintro e w1 ⟨E,cb,rfl,eb,ex,el,ec,ek,b1,R⟩
 have bx1:=Lib.hid (bx0.trans (b1.mono bx0.size))
 have z1:=bx1.out.size
 have R1:=Lib.hid R
 clear ST bx0 b1 eb R
 go_wp2_with fail
 go_ret
 have q1:=heap_past (w1.alloc (.cells #[.pointer (some ⟨E.g,0,none⟩)] 53)) (.cells #[.int .i64 0] 34) w1.heap.size (by simp)
 have b2:=below_new (below_new (Below.refl w1.heap.size w1) (.cells #[.pointer (some ⟨E.g,0,none⟩)] 53)) (.cells #[.int .i64 0] 34)
 exact ⟨E,cb,w1.heap.size+1,w1.heap.size,rfl,ex,el,ec,ek,by omega,z1,heap_last _ _ _ (by simp),q1.trans (heap_last w1 _ _ rfl),bx1.out.trans (b2.mono z1),(R1.out.still b2).1⟩
def EachNo (r:Int)(W:World)(e:Ending)(w':World):Prop:=
 ∃ (eB gB:Nat),e=.returned (eachV eB gB)∧W.heap.size≤eB∧w'.heap[eB]?=some (.cells #[.int .i64 r] 34 (0,0))∧Below W.heap.size W w'
set_option maxHeartbeats 8000000 in
theorem each_bad (r:Int)(hr:¬ r=0)(c:Int)(pa:Option Addr)(plen pcap:Nat)(ca:Option Addr)(cl cc:Nat)(aa:Option Addr)(al ac:Nat)(fuel:Int)(W:World)
  (ST:∀ w,Below W.heap.size W w→Calls Tryz.prog 14 #[.agg #[.int .i64 c,.slice pa plen pcap],.slice ca cl cc,.slice aa al ac,.int .i64 fuel] w fun e w'=>e=.returned (.tuple #[.pointer none,.int .i64 r])∧Below w.heap.size w w'):
  Calls Tryz.prog 13 #[.agg #[.int .i64 c,.slice pa plen pcap],.slice ca cl cc,.slice aa al ac,.int .i64 fuel] W (EachNo r W):=by
 have ST:=Lib.hid ST
 have bx0:=below_new (Below.refl W.heap.size W) (.cells #[.int .i64 c,.slice pa plen pcap] 24)
 have hmf:∀ (fn:Fn) (first cap:Array Value) (w:World),(Instr.makeFunc fn first cap).run Tryz.prog w=.ok (.func fn first cap) w:=fun _ _ _ _=>rfl
 clear hr
 go_enter Tryz.func13,Tryz.ntmps13
 go_wp2_with fail
 generalize W.alloc (.cells #[.int .i64 c,.slice pa plen pcap] 24)=w0 at *
 refine (ST.out _ bx0).mono ?_
 rintro e w1 ⟨rfl,b1⟩
 have bx1:=Lib.hid (bx0.trans (b1.mono bx0.size))
 have z1:=bx1.out.size
 clear ST bx0 b1
 go_wp2_with fail
 go_ret
 have b2:=below_new (below_new (Below.refl w1.heap.size w1) (.cells #[.pointer none] 53)) (.cells #[.int .i64 r] 34)
 exact ⟨w1.heap.size+1,w1.heap.size,rfl,by omega,heap_last _ _ _ (by simp),bx1.out.trans (b2.mono z1)⟩
end Go.Proofs.YtigliofiojkhcaaGreat.Mdl
namespace Go.Proofs.YtigliofiojkhcaaGreat.Mdl
open Go.RowKit Go.Shelf
set_option maxRecDepth 100000
section
variable {P:Program} {τ σ:TypeId→Bool} {β n:Nat} {α:Type}
structure TurnG (τ:TypeId→Bool)(β γ:Nat)(A B:World):Prop where
 os:B.os=A.os
 tape:B.tape=A.tape
 output:B.output=A.output
 size:A.heap.size≤B.heap.size
 same:∀ (k:Nat) (o:Obj),A.heap[k]?=some o→k<γ→(k<β∨isT τ o=false)→B.heap[k]?=some o
def AbG (τ:TypeId→Bool)(β γ:Nat)(J:List α→World→Prop):Prop:=∀ s A B,J s A→TurnG τ β γ A B→J s B
def SeqG (τ σ:TypeId→Bool)(β n:Nat)(P:Program)(g:Nat)(pa lb:Array Value)(encs:α→Array Value)(Y:List α→α→World→Prop)(S Sp:List α→World→Prop)(w:World):Prop:=
 ∀ (l:Nat) (J Jx:List α→World→Prop) (W:World),Below w.heap.size w W→AbG τ β W.heap.size J→AbG τ β W.heap.size Jx →
  (∀ pre x W1,J pre W1→Y pre x W1→YieldAt Fence.wide (n - 1) P l (encs x) W1 fun e W'=>
   (e=.returned (.bool true)∧J (pre ++ [x]) W'∧KeepT σ W1 W'∧KeepsFrom W.heap.size W1 W')∨(e=.returned (.bool false)∧Jx (pre ++ [x]) W'∧KeepT σ W1 W'∧KeepsFrom W.heap.size W1 W')) →
  J [] W →
  CallsIn Fence.wide n P g (pa ++ #[.func (.yield l) #[] #[]] ++ lb) W fun e W'=>(∃ v,e=.returned v)∧((∃ xs,S xs W'∧J xs W')∨(∃ pre,Sp pre W'∧Jx pre W'))
theorem Book.turnG {l D γ:Nat}{rec:Loop}{A B:World}(h:Book l D rec A)(t:TurnG τ β γ A B)(hl:l<γ)(hD:D<γ):Book l D rec B:=⟨t.same _ _ h.loop hl (.inr rfl),t.same _ _ h.defers hD (.inr rfl)⟩
theorem TurnG.row {γ:Nat}{A B:World}(t:TurnG τ β γ A B){g:Nat}{c:Array Value}{ty:TypeId}{fr:Nat × Nat}(h:A.heap[g]?=some (.cells c ty fr))(hg:g<γ)(hn:τ ty=false):B.heap[g]?=some (.cells c ty fr):=t.same g _ h hg (.inr hn)
theorem TurnG.of_T {β' γ:Nat}{A B:World}(t:TurnT τ β' A B)(h:γ≤β'):TurnG τ β γ A B:=⟨t.os,t.tape,t.output,t.size,fun k o hk hg _=>t.same k o hk (.inl (by omega))⟩
theorem TurnG.of_below {γ:Nat}{A B:World}(b:Below A.heap.size A B):TurnG τ β γ A B:=⟨b.os,b.tape,b.output,b.size,fun k o hk _ _=>(b.block k (Array.getElem?_eq_some_iff.1 hk).1).trans hk⟩
theorem TurnG.of_grown {γ:Nat}{A B:World}{row:Option Nat}(g:A.grownBy B row)(h:∀ j,row=some j→γ≤j):TurnG τ β γ A B:=⟨g.os,g.tape,g.output,g.size,fun k o hk hg _=>(g.block k (Array.getElem?_eq_some_iff.1 hk).1 (fun e=>by have:=h k e.symm;omega)).trans hk⟩
theorem AbG.own {γ B:Nat}{J:List α→World→Prop}(h:AbG τ β γ J)(hB:γ≤B):OwnFrom B J:=fun s X Y row hs hg hr=>h s X Y hs (.of_grown hg (fun j e=>Nat.le_trans hB (hr j e).1))
theorem TurnG.below {γ m:Nat}{w0 A B:World}(b:Below m w0 A)(t:TurnG τ β γ A B)(h:m≤β)(hg:m≤γ)(hn:m≤w0.heap.size):Below m w0 B:=
 ⟨t.os.trans b.os,t.tape.trans b.tape,t.output.trans b.output,Nat.le_trans b.size t.size,fun k hk=>by
  have e1:=b.block k hk
  have hlt:k<w0.heap.size:=by omega
  have e2:=Array.getElem?_eq_getElem hlt
  rw [e2] at e1 ⊢
  exact t.same k _ e1 (by omega) (.inl (by omega))⟩
theorem round_H {l D B m γ:Nat}{fn:FuncId}{tmps:Array Value}{ps:Array Tmp}{assign body:Code}{dd:Nat}{encs:α→Array Value}{Y:List α→α→World→Prop}{I:List α→World→Prop}{Ix:Code→List α→World→Prop}{Ax:List α→α→Act→World→Prop}
  (hlγ:l<γ) (hBγ:B≤γ) (hlD:l≠D) (hlB:B≤l) (hDB:B≤D) (hI:OwnFrom B I) (hY:∀ x,OwnFrom B (fun pre=>Y pre x)) (hIx:∀ c,OwnFrom B (Ix c)) (hps:∀ x,(encs x).size=ps.size)
  (hAx:∀ pre x a',OwnFrom B (fun (_:Unit) W=>Ax pre x a' W))
  (hassign:∀ (pre:List α) (x:α) (W:World) (K:Act→World→Prop),I pre W→Y pre x W→(∀ a' W',KeepsFrom B W W'→KeepT σ W W'→Ax pre x a' W'→K a' W')→assign.wpIn (Fence.wide.inRound l) m P (Exit.then K (fun _ _ _=>False)) { tmps:=(ps.zip (encs x)).foldl (fun t (p,v)=>t.setIfInBounds p v) tmps,defers:=[] } W)
  (hbody:∀ (pre:List α) (x:α) (a':Act) (W:World),Ax pre x a' W→body.wpIn (Fence.wide.inRound l) m P (leftT σ B I Ix (pre ++ [x]) W) a' W)
  (pre:List α) (x:α) (W:World) (hi:I pre W) (hy0:Y pre x W) (hk:Book l D { state:=.ready,pending:=none,fn,tmps,params:=ps,assign,body,defers:=dd } W):
  YieldAt Fence.wide m P l (encs x) W fun e W'=>
   (e=.returned (.bool true)∧(I (pre ++ [x]) W'∧Book l D { state:=.ready,pending:=none,fn,tmps,params:=ps,assign,body,defers:=dd } W')∧KeepT σ W W'∧KeepsFrom γ W W') ∨
   (e=.returned (.bool false)∧(∃ c,Ix c (pre ++ [x]) W'∧Book l D { state:=.done,pending:=some c,fn,tmps,params:=ps,assign,body,defers:=dd } W')∧KeepT σ W W'∧KeepsFrom γ W W'):=by
 obtain ⟨rec,hrec⟩:∃ rec:LoopState→Option Code→Loop,rec=fun st pe=>{ state:=st,pending:=pe,fn,tmps,params:=ps,assign,body,defers:=dd }:=⟨_,rfl⟩
 have hk':Book l D (rec .ready none) W:=by rw [hrec];exact hk
 have hy:=run_yield (P:=P) (args:=encs x) hk.loop (hps x)
 refine ⟨fn,_,assign,body,hy,roundIn_of_wpIn trivial (hassign pre x W _ hi hy0 (fun a' Wa ka ta ax=>?_))⟩
 have hka:Book l D (rec .ready none) Wa:=hk'.keeps ka hlB hDB
 have hka':Book l D { state:=.ready,pending:=none,fn,tmps,params:=ps,assign,body,defers:=dd } Wa:=by rw [hrec] at hka;exact hka
 refine ⟨_,run_beginRound hka'.loop rfl,?_⟩
 have b2:Book l D (rec .busy none) (Wa.putObj l (.loop (rec .busy none))):=hka.put hlD _
 have w2:KeepT σ W (Wa.putObj l (.loop (rec .busy none))):=ta.trans (KeepT.putObj _ hka.loop rfl)
 have i2:Ax pre x a' (Wa.putObj l (.loop (rec .busy none))):=(hAx pre x a').putObj (s:=()) _ ax hlB hka.loop rfl
 have e2:Wa.putObj l (.loop (rec .busy none))=Wa.putObj l (.loop { state:=.busy,pending:=none,fn,tmps,params:=ps,assign,body,defers:=dd }):=by rw [hrec]
 rw [← e2]
 refine wpIn_mono (hbody pre x a' _ i2) ?_
 clear e2
 have fin:∀ (jump:Option Code) (W3:World),KeepsFrom B (Wa.putObj l (.loop (rec .busy none))) W3→KeepT σ (Wa.putObj l (.loop (rec .busy none))) W3 →
   (Instr.endRound l jump).run P W3=.ok (.bool jump.isNone) (W3.putObj l (.loop (rec (if jump.isNone then .ready else .done) jump)))∧Book l D (rec .busy none) W3 ∧
   Book l D (rec (if jump.isNone then .ready else .done) jump) (W3.putObj l (.loop (rec (if jump.isNone then .ready else .done) jump)))∧KeepT σ W (W3.putObj l (.loop (rec (if jump.isNone then .ready else .done) jump)))∧KeepsFrom γ W (W3.putObj l (.loop (rec (if jump.isNone then .ready else .done) jump))):=by
  intro jump W3 hk3 ht3
  have b3:=b2.keeps hk3 hlB hDB
  have r3:=run_endRound (P:=P) jump b3.loop
  have g3:KeepsFrom γ W (W3.putObj l (.loop (rec (if jump.isNone then .ready else .done) jump))):=⟨by
   have h1:=hk3.size
   have h2:(Wa.putObj l (.loop (rec .busy none))).heap.size=Wa.heap.size:=by simp [World.putObj]
   have h4:=ka.size
   have h3:(W3.putObj l (.loop (rec (if jump.isNone then .ready else .done) jump))).heap.size=W3.heap.size:=by simp [World.putObj]
   omega,fun k o hk h ho=>(World.putObj_heap_other (by omega)).trans (hk3.same k o (by omega) ((World.putObj_heap_other (by omega)).trans (ka.same k o (by omega) h ho)) ho)⟩
  refine ⟨?_,b3,b3.put hlD _,w2.trans (ht3.trans (KeepT.putObj _ b3.loop rfl)),g3⟩
  rw [hrec] at r3 ⊢
  exact r3
 rintro e a3 W3 hp
 cases e with
 | normal=>
  obtain ⟨hk3,ht3,hi3⟩:=hp
  obtain ⟨r3,b3,b4,t4,g4⟩:=fin none W3 hk3 ht3
  refine ⟨_,_,r3,.inl ⟨rfl,⟨hI.putObj _ hi3 hlB b3.loop rfl,?_⟩,t4,g4⟩⟩
  rw [hrec] at b4 ⊢
  exact b4
 | ret=>
  obtain ⟨hk3,ht3,hi3⟩:=hp
  obtain ⟨r3,b3,b4,t4,g4⟩:=fin (some .ret) W3 hk3 ht3
  refine ⟨_,_,r3,.inr ⟨rfl,⟨.ret,(hIx _).putObj _ hi3 hlB b3.loop rfl,?_⟩,t4,g4⟩⟩
  rw [hrec] at b4 ⊢
  exact b4
 | exit id=>
  obtain ⟨hk3,ht3,hi3⟩:=hp
  obtain ⟨r3,b3,b4,t4,g4⟩:=fin (some (.exit id)) W3 hk3 ht3
  refine ⟨_,_,r3,.inr ⟨rfl,⟨.exit id,(hIx _).putObj _ hi3 hlB b3.loop rfl,?_⟩,t4,g4⟩⟩
  rw [hrec] at b4 ⊢
  exact b4
 | goto t=>
  obtain ⟨hk3,ht3,hi3⟩:=hp
  obtain ⟨r3,b3,b4,t4,g4⟩:=fin (some (.goto t)) W3 hk3 ht3
  refine ⟨_,_,r3,.inr ⟨rfl,⟨.goto t,(hIx _).putObj _ hi3 hlB b3.loop rfl,?_⟩,t4,g4⟩⟩
  rw [hrec] at b4 ⊢
  exact b4
 | panic ch=>exact hp.elim
 | outgrown=>exact hp.elim
theorem range_H {g:Operand}{ps:Array Tmp}{assign body:Code}{Q:Exit→Act→World→Prop}{a:Act}{w w0:World}(h1:1≤n){gf:Nat}{pa lb:Array Value}
  (hg:a.eval g=.func (.func gf) pa lb) (eg:∀ args w,(callFunc gf args).run P w=.ok (.enter gf args) w) {encs:α→Array Value} {Y:List α→α→World→Prop} {S Sp:List α→World→Prop}
  (hseq:SeqG τ σ β (n - 1) P gf pa lb encs Y S Sp w0) (hb0:Below w0.heap.size w0 w) (hps:∀ x,(encs x).size=ps.size) (I:List α→World→Prop) (Ix:Code→List α→World→Prop)
  (hI:OwnFrom w.heap.size I) (hY:∀ x,OwnFrom w.heap.size (fun pre=>Y pre x)) (hIx:∀ c,OwnFrom w.heap.size (Ix c)) (hT:∀ γ,w.heap.size≤γ→AbG τ β γ I) (hTx:∀ γ c,w.heap.size≤γ→AbG τ β γ (Ix c)) (hS:OwnFrom w.heap.size S) (hSp:OwnFrom w.heap.size Sp) (h0:I [] w) (Ax:List α→α→Act→World→Prop) (hAx:∀ pre x a',OwnFrom w.heap.size (fun (_:Unit) W=>Ax pre x a' W))
  (hassign:∀ (l:Nat) (pre:List α) (x:α) (W:World) (K:Act→World→Prop),I pre W→Y pre x W→(∀ a' W',KeepsFrom w.heap.size W W'→KeepT σ W W'→Ax pre x a' W'→K a' W')→assign.wpIn (Fence.wide.inRound l) (n - 1 - 1) P (Exit.then K (fun _ _ _=>False)) { tmps:=(ps.zip (encs x)).foldl (fun t (p,v)=>t.setIfInBounds p v) a.tmps,defers:=[] } W)
  (hbody:∀ (l:Nat) (pre:List α) (x:α) (a':Act) (W:World),Ax pre x a' W→body.wpIn (Fence.wide.inRound l) (n - 1 - 1) P (leftT σ w.heap.size I Ix (pre ++ [x]) W) a' W)
  (hdone:∀ (D:Nat) (xs:List α) (W:World),w.heap.size≤D→S xs W→I xs W→W.heap[D]?=some (.deferred (some []))→Q .normal { a with defers:={ target:=.collected D,args:=#[] } :: a.defers } W)
  (hstop:∀ (D:Nat) (c:Code) (pre:List α) (W:World),w.heap.size≤D→Sp pre W→Ix c pre W→W.heap[D]?=some (.deferred (some []))→c.wpIn Fence.wide n P Q { a with defers:={ target:=.collected D,args:=#[] } :: a.defers } W):
  (Code.rangeFunc g ps assign body).wpIn Fence.wide n P Q a w:=by
 refine wpIn_rangeFunc fun fn _=>?_
 let rec0:Loop:={ state:=.ready,pending:=none,fn,tmps:=a.tmps,params:=ps,assign,body,defers:=w.heap.size }
 obtain ⟨W1,hW1⟩:∃ W1,(w.alloc (.deferred (some []))).alloc (.loop rec0)=W1:=⟨_,rfl⟩
 have k1:Book (w.heap.size+1) w.heap.size rec0 W1:=by
  rw [← hW1]
  refine ⟨?_,(Below.heap_alloc _ _ _ (by simp)).trans (World.alloc_heap_new w _)⟩
  have:=World.alloc_heap_new (w.alloc (.deferred (some []))) (.loop rec0)
  rwa [World.size_alloc] at this
 have hw1:W1.heap.size=w.heap.size+2:=by rw [← hW1];simp
 have i1:I [] W1:=by rw [← hW1];exact hI.alloc _ (hI.alloc _ h0)
 have b1:Below w0.heap.size w0 W1:=by
  rw [← hW1];exact hb0.trans ((((Below.refl _ w).alloc (Nat.le_refl _) _).alloc (by simp) _).mono hb0.size)
 refine ⟨w.heap.size+1,[{ target:=.collected w.heap.size,args:=#[] }],W1,{ target:=.fn (.func gf) lb,args:=pa ++ #[.func (.yield (w.heap.size+1)) #[] #[]] },W1,gf,
  pa ++ #[.func (.yield (w.heap.size+1)) #[] #[]] ++ lb,W1,by rw [← hW1];exact run_enterLoop_outer _ _ _ _ _,by simp only [resolve,hg];simp [go_sem],fun _ _=>trivial,by simp [invoke,go_sem,eg],fun _=>h1,?_⟩
 refine (hseq (w.heap.size+1) (fun pre W=>I pre W∧Book (w.heap.size+1) w.heap.size rec0 W)
  (fun pre W=>∃ c,Ix c pre W∧Book (w.heap.size+1) w.heap.size { rec0 with state:=.done,pending:=some c } W) W1 b1
  (fun s A B hs t=>⟨hT W1.heap.size (by omega) s A B hs.1 t,hs.2.turnG t (by omega) (by omega)⟩) (fun s A B ⟨c,h,k⟩ t=>⟨c,hTx W1.heap.size c (by omega) s A B h t,k.turnG t (by omega) (by omega)⟩)
  (fun pre x W h hy=>round_H (γ:=W1.heap.size) (by omega) (by omega) (by omega) (Nat.le_succ _) (Nat.le_refl _) hI hY hIx hps hAx (hassign _) (hbody _) pre x W h.1 hy h.2) ⟨i1,k1⟩).mono ?_
 rintro e W2 ⟨⟨v,rfl⟩,⟨xs,hs,hi,hk⟩ | ⟨pre,hs,c,hi,hk⟩⟩
 ·have r:=run_endLoop (P:=P) hk.loop (by intro h;cases h)
  exact ⟨none,_,r,hdone _ xs _ (Nat.le_refl _) (hS.putObj _ hs (Nat.le_succ _) hk.loop rfl) (hI.putObj _ hi (Nat.le_succ _) hk.loop rfl) ((World.putObj_heap_other (by omega)).trans hk.defers)⟩
 ·have r:=run_endLoop (P:=P) hk.loop (by intro h;cases h)
  exact ⟨some c,_,r,hstop _ c pre _ (Nat.le_refl _) (hSp.putObj _ hs (Nat.le_succ _) hk.loop rfl) ((hIx c).putObj _ hi (Nat.le_succ _) hk.loop rfl) ((World.putObj_heap_other (by omega)).trans hk.defers)⟩
end
end Go.Proofs.YtigliofiojkhcaaGreat.Mdl
