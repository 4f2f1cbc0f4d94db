import Derived.Test.YtigliofiojkhcaaGreatMEx
import Derived.Test.YtigliofiojkhcaaGreatMEa09
import Derived.Test.YtigliofiojkhcaaGreatMEa11
set_option linter.unusedVariables false
set_option linter.unusedSimpArgs false
set_option linter.unnecessarySimpa false
namespace Go.Proofs.YtigliofiojkhcaaGreat.Mdl
open Go.RowKit Go.Maps Ins Trc
set_option maxRecDepth 100000
theorem res_ttct {P:Program}{fn:Func}{w:World}{tmps:Array Value}{d1 d2 d e:Tmp}{t:TypeId}{p:Addr}{v1 v2 v x:Value}(h:fn.results=#[.tmp d1,.tmp d2,.cell d t,.tmp e])(h1:tmps.getD d1 undef=v1)(h2:tmps.getD d2 undef=v2)(hs:tmps.getD d undef=.pointer (some p))(hl:(loadVar t p).run P w=.ok v w)(hx:tmps.getD e undef=x):(results fn tmps).run P w=.ok (.tuple #[v1,v2,v,x]) w:=by
 have hs':tmps[d]?.getD undef=.pointer (some p):=by rw [← hs,Array.getD_eq_getD_getElem?]
 have hx':tmps[e]?.getD undef=x:=by rw [← hx,Array.getD_eq_getD_getElem?]
 have h1':tmps[d1]?.getD undef=v1:=by rw [← h1,Array.getD_eq_getD_getElem?]
 have h2':tmps[d2]?.getD undef=v2:=by rw [← h2,Array.getD_eq_getD_getElem?]
 simp [results,h,hs',asAddr,hl,hx',h1',h2']
theorem info_out5:(Tryz.prog.info? 33).map (·.size)=some 5:=by kernel_rfl
structure Tl6 (W:World)(E:Env)(D:Pl)(g r β B go gr:Nat)(k:Nat)(atv lv:Value)(D':Pl)(w:World):Prop where
 bel:Below W.heap.size W w
 R:R6 E g r β D' w
 at_:w.ownsRow B 3 1 atv k ((ats E D k).map (.int .i64))
 l:w.ownsRow B 49 76 lv k (snapsF E D k)
 res:w.heap[gr]?=some (.cells #[.int .i8 0,.int .u64 0,.slice none 0 0,.slice none 0 0,.int .i64 0] 33 (0,0))
 far:W.heap.size≤β∧β≤B∧r<B∧B≤w.heap.size∧β≤go∧W.heap.size≤gr∧gr<β∧go≠gr
section
variable {W:World} {E:Env} {D D':Pl} {g r β B go gr k:Nat} {atv lv:Value} {kind:Int} {w w':World}
theorem Sn6.tl (h:Sn6 W E D g r β B go gr k atv lv D' kind w):Tl6 W E D g r β B go gr k atv lv D' w:=⟨h.bel,h.R,h.at_,h.l,h.res,h.far⟩
theorem Tl6.below (h:Tl6 W E D g r β B go gr k atv lv D' w)(b:Below w.heap.size w w'):Tl6 W E D g r β B go gr k atv lv D' w':=
 ⟨h.bel.trans (b.mono h.bel.size),h.R.below b,own_below h.at_ b,own_below h.l b,brow b h.res,h.far.1,h.far.2.1,h.far.2.2.1,Nat.le_trans h.far.2.2.2.1 b.size,h.far.2.2.2.2⟩
theorem stored_trn {cs:Array Value}{T:TypeId}{q:Nat}(s:Stored w q cs T w'):Trn [q] w w':=⟨s.os,s.tape,s.output,by rw [s.size];exact Nat.le_refl _,fun k _ hn=>s.other k (by simpa using hn)⟩
theorem Tl6.put {cs c:Array Value}(h:Tl6 W E D g r β B go gr k atv lv D' w)(s:Stored w go cs 33 w')(ho:w.heap[go]?=some (.cells c 33 (0,0)))(hr:r≠go):Tl6 W E D g r β B go gr k atv lv D' w':=by
 obtain ⟨f1,f2,f3,f4,f5,f6,f7,f8⟩:=h.far
 have t:=stored_trn s
 refine ⟨below_trn6 h.bel t (fun j hj=>?_) (Nat.le_trans f1 (Nat.le_trans f2 f4)),h.R.other t (by simpa using hr) (fun j hj=>?_),own_trn h.at_ t (fun j hj=>by simpa using own_ne h.at_ ho (by decide) j hj),own_trn h.l t (fun j hj=>by simpa using own_ne h.l ho (by decide) j hj),t.row h.res (by simpa using Ne.symm f8),f1,f2,f3,by rw [s.size];exact f4,f5,f6,f7,f8⟩
 ·rw [List.mem_singleton] at hj;subst hj;omega
 ·rw [List.mem_singleton] at hj;subst hj
  exact ⟨f5,_,_,_,ho,.inr (.inr rfl)⟩
end
theorem Sn6.like {W:World}{E:Env}{D D' D2:Pl}{g r β B go gr k:Nat}{atv lv:Value}{kind:Int}{w:World}(h:Sn6 W E D g r β B go gr k atv lv D' kind w)(e1:D2.r=D'.r)(e2:D2.set=D'.set)(e3:D2.at_=D'.at_)(e4:D2.ans=D'.ans)(e5:D2.evs=D'.evs)(e6:D2.mem=D'.mem):Sn6 W E D g r β B go gr k atv lv D2 kind w:=
 ⟨h.bel,h.R.like e1 e2 e3 e4 e5 e6,h.at_,h.l,h.o,h.res,h.far⟩
theorem own_bytes6 {w:World}{base n:Nat}{v:Value}{f f':Nat→Int}(h:Rm.Own w base v n f)(hn:n≤1000000)(he:∀ i,i<n→f i=f' i)(hb:∀ i,i<n→0≤f' i∧f' i<256):∃ a cap,v=.slice a n cap∧BytesAt w a n cap ((List.range n).map f'):=by
 rcases h.2 with ⟨h1,h2⟩ | ⟨g,cap,cur,e1,e2,e3,e4,e5,e6⟩
 ·subst h2
  exact ⟨none,0,h1,BytesAt.nil w⟩
 ·refine ⟨_,cap,e1,by simp,e4,by unfold maxLen at e5;omega,fun _=>⟨g,0,rfl,fun j z hz=>?_⟩,fun z hz=>?_,fun h=>by cases h⟩
  ·have hj:j<n:=by have:=(List.getElem?_eq_some_iff.1 hz).1;simpa using this
   have hc:=World.ownsRow.cells h (g:=g) (by rw [e1];rfl) j _ (bytesOf_get f n j hj)
   rw [Go.WideShapes.add_plain] at hc
   rw [hc,he j hj]
   rw [List.getElem?_map,List.getElem?_range hj] at hz
   simpa using hz
  ·obtain ⟨i,hi,rfl⟩:=List.mem_map.1 hz
   exact hb i (List.mem_range.1 hi)
theorem out6 {D:Pl}{f r0 q:Int}{nx n:Nat}{xa ta:Option Addr}{xc tc:Nat}(hn:D.mem.n=nx)(he:D.evs.length=n)(hf:D.fin=f)(hr:r0=if f=1 then D.r 0 else 0)(hq:D.fuel=q):Value.agg #[.int .i8 f,.int .u64 r0,.slice xa nx xc,.slice ta n tc,.int .i64 q]=outV D.out xa xc ta tc:=by
 subst hn he hf hr hq
 show _=Value.agg #[_,_,.slice _ (ctxL D.mem).length _,_,_]
 rw [ctxL_len];rfl
theorem ret6 {a b v v':Value}(h:v=v'):Ending.returned (.tuple #[a,b,v,.int .i64 0])=.returned (.tuple #[a,b,v',.int .i64 0]):=by rw [h]
def OutO (β:Nat)(w:World)(D:Pl)(ca:Option Addr)(cc:Nat)(ta:Option Addr)(tc:Nat):Prop:=D.mem.n≤1000000∧(∀ i,i<D.mem.n→0≤D.mem.g (1+i)∧D.mem.g (1+i)<256)∧(∃ f,Rm.Own w β (.slice ca D.mem.n cc) D.mem.n f∧∀ i,i<D.mem.n→f i=D.mem.g (1+i))∧TrR β w (.slice ta D.evs.length tc) D.evs
theorem OutO.trn {β:Nat}{w w':World}{D:Pl}{ca ta:Option Addr}{cc tc:Nat}{G:List Nat}(h:OutO β w D ca cc ta tc)(t:Trn G w w')(hG:∀ j∈G,∃ c ty fr,w.heap[j]?=some (.cells c ty fr)∧ty=33):OutO β w' D ca cc ta tc:=by
 obtain ⟨h1,h2,⟨f,h3,h4⟩,h5⟩:=h
 refine ⟨h1,h2,⟨f,own_trn h3 t (fun j hj hm=>?_),h4⟩,h5.trn t (fun j hj=>?_)⟩
 ·obtain ⟨c,ty,fr,q1,rfl⟩:=hG j hm
  exact own_ne h3 q1 (by decide) j hj rfl
 ·obtain ⟨c,ty,fr,q1,rfl⟩:=hG j hj
  exact ⟨c,_,fr,q1,by decide,by decide⟩
theorem OutO.at_ {β:Nat}{w:World}{D:Pl}{ca ta:Option Addr}{cc tc:Nat}(h:OutO β w D ca cc ta tc):OutAt w D.out ca cc ta tc:=by
 obtain ⟨h1,h2,⟨f,h3,h4⟩,h5⟩:=h
 obtain ⟨xa,xc,e,by9⟩:=own_bytes6 (f':=fun i=>D.mem.g (1+i)) h3 h1 h4 h2
 injection e with e1 _ e2
 subst e1 e2
 exact ⟨by show BytesAt w ca (ctxL D.mem).length cc (ctxL D.mem);rw [ctxL_len];exact by9,h5.evs2⟩
theorem trR_base {β β':Nat}{w:World}{tv:Value}{es:List Ev}(h:TrR β w tv es)(hb:β'≤β):TrR β' w tv es:=by
 obtain ⟨ps,h1,h2,h3⟩:=h
 exact ⟨ps,h1,own_base h2 hb,fun p hp=>own_base (h3 p hp) hb⟩
def SnapIs (W:World)(b o plen pcap:Nat)(x:Nat→In)(cl:Nat)(cf:Nat→Int)(fuel:Int)(zs:List Int)(e:Ending)(w':World):Prop:=
 ∃ (m:Nat) (atv lv:Value) (ca:Option Addr) (cc:Nat) (ta:Option Addr) (tc:Nat),Done (env6 b o plen pcap x) (ini 0 cl cf fuel zs) m∧e=.returned (.tuple #[atv,lv,outV (its (env6 b o plen pcap x) (ini 0 cl cf fuel zs) m).out ca cc ta tc,.int .i64 0]) ∧
  w'.ownsRow W.heap.size 3 1 atv m ((ats (env6 b o plen pcap x) (ini 0 cl cf fuel zs) m).map (.int .i64))∧w'.ownsRow W.heap.size 49 76 lv m (snapsF (env6 b o plen pcap x) (ini 0 cl cf fuel zs) m) ∧
  OutO W.heap.size w' (its (env6 b o plen pcap x) (ini 0 cl cf fuel zs) m) ca cc ta tc∧Below W.heap.size W w'
set_option maxHeartbeats 16000000 in
theorem r6_snaps (c:Int)(b o plen pcap:Nat)(x:Nat→In)(ca:Option Addr)(cl cc:Nat)(cf:Nat→Int)(aa:Option Addr)(al ac:Nat)(zs:List Int)(fuel:Int)(W:World)(hI:Insts W (some ⟨b,o,none⟩) plen pcap x)(hS:Src W ca cl cc cf)(hA:WordsAt W aa al ac zs)
  (hchk:(checkI c plen x).2=0) (hlen:(cl:Int)=c) (f0:0≤fuel) (f1:fuel≤10000) (hz:∀ z∈zs,0≤z∧z<18446744073709551616):
  Calls Tryz.prog 12 #[.agg #[.int .i64 c,.slice (some ⟨b,o,none⟩) plen pcap],.slice ca cl cc,.slice aa al ac,.int .i64 fuel] W (SnapIs W b o plen pcap x cl cf fuel zs):=by
 obtain ⟨h1,h64,_⟩:=ends_facts hchk
 have hc:=check_c hchk
 have CHK:=Lib.hid (fun w (h:Below W.heap.size W w)=>r_check c (some ⟨b,o,none⟩) plen pcap x w (hI.below h))
 rw [hchk] at CHK
 have NEW:=Lib.hid (fun w (h:Below W.heap.size W w)=>r6_new c b o plen pcap x ca cl cc cf aa al ac zs fuel w (hI.below h) (hS.below h) (hA.below h) h1 (by omega) hz)
 have hF:Fine (env6 b o plen pcap x):=fine_env hI hchk rfl rfl hI.le
 have HR:=ini_runs (env6 b o plen pcap x) 0 cl cf fuel zs h1 f0 f1
 have bx0:=below_new (below_new (Below.refl W.heap.size W) (.cells #[.int .i64 c,.slice (some ⟨b,o,none⟩) plen pcap] 24)) (.cells #[.int .i8 0,.int .u64 0,.slice none 0 0,.slice none 0 0,.int .i64 0] 33)
 have rz0:=heap_last (W.alloc (.cells #[.int .i64 c,.slice (some ⟨b,o,none⟩) plen pcap] 24)) (.cells #[.int .i8 0,.int .u64 0,.slice none 0 0,.slice none 0 0,.int .i64 0] 33) (W.heap.size+1) (by simp)
 have rp0:=(heap_past (W.alloc (.cells #[.int .i64 c,.slice (some ⟨b,o,none⟩) plen pcap] 24)) (.cells #[.int .i8 0,.int .u64 0,.slice none 0 0,.slice none 0 0,.int .i64 0] 33) W.heap.size (by simp)).trans (heap_last W (.cells #[.int .i64 c,.slice (some ⟨b,o,none⟩) plen pcap] 24) _ rfl)
 have e0:((cl:Int) != c)=false:=by simpa using hlen
 have e1:decide (fuel<0)=false:=decide_eq_false (by omega)
 have e2:decide (10000<fuel)=false:=decide_eq_false (by omega)
 have HF:=Lib.hid hF
 have HRR:=Lib.hid HR
 clear hI hS hA hchk hlen hz hF HR
 go_enter Tryz.func12,Tryz.ntmps12
 go_wp2_with fail
 generalize (W.alloc (.cells #[.int .i64 c,.slice (some ⟨b,o,none⟩) plen pcap] 24)).alloc (.cells #[.int .i8 0,.int .u64 0,.slice none 0 0,.slice none 0 0,.int .i64 0] 33)=w0 at *
 refine (CHK.out _ bx0).mono ?_
 rintro e w1 ⟨rfl,b1⟩
 have rz1:=Lib.hid (brow b1 rz0)
 have rp1:=brow b1 rp0
 have bx1:=Lib.hid (bx0.trans (b1.mono bx0.size))
 have c0:w1.cell? ⟨W.heap.size,0,none⟩=some (.int .i64 c):=by simp only [World.cell?,rp1];rfl
 have c1:w1.cell? ⟨W.heap.size,1,none⟩=some (.slice (some ⟨b,o,none⟩) plen pcap):=by simp only [World.cell?,rp1];rfl
 clear b1 rz0 rp0 rp1 bx0 CHK
 go_wp2_with fail
 refine (NEW.out _ bx1.out).mono ?_
 rintro e w2 ⟨g,r,rfl,hR,b2⟩
 have rz2:=Lib.hid (brow b2 rz1.out)
 have bx2:=Lib.hid (bx1.out.trans (b2.mono bx1.out.size))
 have hβ:Hid (W.heap.size≤w1.heap.size∧W.heap.size+1<w1.heap.size∧w1.heap.size≤w2.heap.size):=Lib.hid ⟨bx1.out.size,(Array.getElem?_eq_some_iff.1 rz1.out).1,b2.size⟩
 have HR2:=Lib.hid hR
 clear hR b2 c0 c1 rz1 bx1 NEW
 generalize w1.heap.size=β at *
 go_wp2_with (with_reducible refine (halt_store 33 _ _ rfl ?_))
 refine ⟨?_,trivial⟩
 refine wpList_store_is rfl 33 _ _ rfl w2.heap.size #[.int .i8 0,.int .u64 0,.slice none 0 0,.slice none 0 0,.int .i64 0] rfl rfl 33 _ (heap_last _ _ _ rfl) info_out5 rfl (by simp [Value.oneCell']) ?_
 intro w3 s3
 have bn:=below_new (Below.refl w2.heap.size w2) (.cells #[.int .i8 0,.int .u64 0,.slice none 0 0,.slice none 0 0,.int .i64 0] 33)
 have b3:=s3.below bn (Nat.le_refl _)
 have HN:Hid (Sn6 W (env6 b o plen pcap x) (ini 0 cl cf fuel zs) g r β w3.heap.size w2.heap.size (W.heap.size+1) 0 (.slice none 0 0) (.slice none 0 0) (ini 0 cl cf fuel zs) 0 w3):=Lib.hid
  ⟨bx2.out.trans (b3.mono bx2.out.size),HR2.out.below b3,⟨rfl,.inl ⟨rfl,rfl⟩⟩,⟨rfl,.inl ⟨rfl,rfl⟩⟩,s3.row,brow b3 rz2.out,hβ.out.1,by have:=hβ.out;rw [s3.size,size_alloc];omega,by
   obtain ⟨M,m1,_⟩:=HR2.out.mm
   have:=lt_of_cell m1.c0
   rw [s3.size,size_alloc];omega,Nat.le_refl _,hβ.out.2.2,by omega,hβ.out.2.1,by have:=hβ.out;omega⟩
 have hgo:Hid (r≠w2.heap.size):=Lib.hid (by
  obtain ⟨M,m1,_⟩:=HR2.out.mm
  have:=lt_of_cell m1.c0
  omega)
 clear bn b3 s3 rz2 bx2 HR2 hβ
 generalize hgo2:w2.heap.size=go at *
 clear hgo2
 generalize hB:w3.heap.size=B at HN
 clear hB
 generalize hgr:W.heap.size+1=gr at *
 have HGR:=Lib.hid hgr
 clear hgr
 generalize hE:env6 b o plen pcap x=E at *
 generalize hD:ini 0 cl cf fuel zs=D at *
 have HD0:Hid (D.fuel=fuel∧D.fin=0∧D.evs=[]):=Lib.hid (by subst hD;exact ⟨rfl,rfl,rfl⟩)
 have HE:=Lib.hid hE
 have HDD:=Lib.hid hD
 clear hE hD
 go_wp2_with fail
 simp only [Act.put]
 go_loopw [3,15,16] (fun fu atv lv wr=>∃ (k:Nat) (q:Int),fu=.int .i64 q∧Hid (q=(its E D k).fuel∧Goes E D k∧Sn6 W E D g r β B go gr k atv lv (its E D k) 0 wr)) (fun fu _ _ _=>(intOf fu).toNat)
 case atStart=>exact ⟨0,fuel,rfl,Lib.hid ⟨HD0.out.1.symm,Goes.zero E D,HN.out⟩⟩
 case round=>
  obtain ⟨k,q,rfl,hS⟩:=hrel
  obtain ⟨hq,hG,hN⟩:=hS.out
  have HQ:=Lib.hid hq
  have HGO:=Lib.hid hG
  clear hS
  have hk:(k:Int)≤fuel:=by
   have:=its_fuel E D k
   rw [HD0.out.1] at this
   by_cases h0:k=0
   ·omega
   ·have:=(hG (k - 1) (by omega)).1
    rw [its_fuel,HD0.out.1] at this;omega
  have RK:=HRR.out.its HF.out k hG
  have hq2:q≤10000:=by have:=its_fuel E D k;rw [HD0.out.1] at this;omega
  clear hq hG
  by_cases hlt:0<q
  ·have hq1:wrap64 (q - 1)=q - 1:=IntWalk.wrap64_in _ (by omega)
   obtain ⟨ctx,av,tv,hin,hA,hT,hn⟩:=hN.R.st
   obtain ⟨z,hz⟩:∃ z,Hid (z=(its E D k).at_):=⟨_,Lib.hid rfl⟩
   have d79:wr.cell? ⟨g,79,none⟩=some (.int .i64 z):=by rw [hz.out];exact Md.c79 hin
   have HNN:=Lib.hid hN
   clear hin hA hT hn hN
   go_wp2_with (with_reducible refine (halt_app _ _ _ rfl ?_))
   refine ⟨?_,trivial⟩
   have bn:=below_new (Below.refl wr.heap.size wr) (.cells #[.int .i64 z] 3)
   have hN2:=HNN.out.below bn
   refine append_int rfl _ _ rfl B k _ _ z wr.heap.size rfl rfl hN2.at_ (heap_last _ _ _ rfl) hN2.far.2.2.2.1 (by omega) ?_
   intro v1 w4 o1 t1
   have P1:=hN2.place o1 t1
   rw [hz.out,← atsV_succ] at o1
   obtain ⟨q1,q2,q3,q4,q5,q6⟩:=P1
   have F4:Hid (W.heap.size≤β∧β≤B∧r<B∧B≤w4.heap.size∧β≤go∧W.heap.size≤gr∧gr<β∧go≠gr):=Lib.hid (by have:=hN2.far;exact ⟨this.1,this.2.1,this.2.2.1,q6,this.2.2.2.2⟩)
   have Q1:=Lib.hid q1;have Q2:=Lib.hid q2;have Q3:=Lib.hid q3;have Q4:=Lib.hid q4;have Q5:=Lib.hid q5;have O1:=Lib.hid o1
   clear bn hN2 o1 t1 q1 q2 q3 q4 q5 q6 d79 hz HNN
   go_wp2_with (with_reducible refine (halt_load 49 _ rfl ?_))
   refine ⟨?_,trivial⟩
   refine wpList_load_mid rfl 49 _ rfl g 3 rfl (its E D k).snap _ (by obtain ⟨ctx,av,tv,hin,_⟩:=Q2.out.st;exact md6_snap hin) Tryz.underlying49 rfl info_snap ?_
   go_wp2_with (with_reducible refine (halt_bslice _ _ _ rfl ?_))
   refine ⟨?_,trivial⟩
   refine wpList_ex rfl (ex_bsS (r:=(its E D k).r) (s:=(its E D k).set) (g:=(its E D k).mem.g) rfl rfl) ?_
   have bn:=below_new (Below.refl w4.heap.size w4) (.cells (snapC (its E D k).r (its E D k).set (its E D k).mem.g).toArray 49)
   go_wp2_with (with_reducible refine (halt_app _ _ _ rfl ?_))
   refine ⟨?_,trivial⟩
   refine append_snap rfl _ _ rfl B k _ _ (its E D k).r (its E D k).set (its E D k).mem.g w4.heap.size rfl rfl (own_below Q3.out bn) (heap_last _ _ _ rfl) (Nat.le_trans F4.out.2.2.2.1 bn.size) (by omega) ?_
   intro v2 w5 o2 t2
   have N5:=Lib.hid (Sn6.snap (v':=v2) (by have:=F4.out;exact ⟨this.1,this.2.1,this.2.2.1,Nat.le_trans this.2.2.2.1 bn.size,this.2.2.2.2⟩) (Q1.out.trans (bn.mono Q1.out.size)) (Q2.out.below bn) (own_below O1.out bn) (own_below Q3.out bn) (brow bn Q4.out) (brow bn Q5.out) o2 t2)
   clear bn o2 t2 F4 Q1 Q2 Q3 Q4 Q5 O1
   have STEP:=Lib.hid (r6_step E HF.out (its E D k) RK g r β w5 N5.out.R (by have:=its_few E D k;rw [HD0.out.2.2] at this;have:(its E D k).evs.length≤0+k:=this;omega))
   obtain ⟨f,hf⟩:∃ f,Hid (f=((its E D k).step E.kf (E.x (its E D k).ix)).fin):=⟨_,Lib.hid rfl⟩
   rw [← hf.out] at STEP
   have hf4:=step_fin4 (its E D k) E.kf (E.x (its E D k).ix)
   rw [← hf.out] at hf4
   rcases hf4 with rfl | rfl | rfl | rfl
   ·rw [show decide ((0:Int)=0)=true from rfl] at STEP
    go_wp2_with fail
    refine STEP.out.mono ?_
    rintro e w6 ⟨rfl,R9,T9⟩
    have N6:=Lib.hid ((N5.out.stepped R9 T9).like (D2:=its E D (k+1)) rfl rfl (by show ((its E D k).step E.kf (E.x (its E D k).ix)).at_=((its E D k).step6 E.kf (E.x (its E D k).ix)).at_;unfold Pl.step6;rw [← hf.out,if_pos rfl]) rfl rfl rfl)
    clear R9 T9 STEP N5
    have hs9:Hid (q - 1=(its E D (k+1)).fuel∧Goes E D (k+1)∧Sn6 W E D g r β B go gr (k+1) v1 v2 (its E D (k+1)) 0 w6):=Lib.hid ⟨by show _=((its E D k).step E.kf (E.x (its E D k).ix)).fuel;rw [step_fuel,HQ.out],HGO.out.succ (by rw [← HQ.out];exact hlt) hf.out.symm,N6.out⟩
    clear N6
    go_wp2_with fail
    go_roundw
    case rel=>exact ⟨k+1,q - 1,by go_num,hs9⟩
    case measure=>simp [intOf];omega
   ·rw [show decide ((1:Int)=0)=false from rfl] at STEP
    go_wp2_with fail
    refine STEP.out.mono ?_
    rintro e w6 ⟨rfl,R9,T9⟩
    have N6:=Lib.hid (N5.out.stepped R9 T9)
    clear R9 T9 STEP N5
    go_wp2_with (with_reducible refine (halt_store 29 _ _ rfl ?_))
    refine ⟨?_,trivial⟩
    refine wpList_store_cell rfl 29 _ _ rfl go 0 (.int .i8 1) rfl rfl rfl rfl 33 _ N6.out.o (by kernel_rfl) (show 0<5 by decide) ?_
    intro w8 s8
    have N9:=N6.out.tl.put s8 N6.out.o hgo.out
    have HO9:w8.heap[go]?=some (.cells #[.int .i8 1,.int .u64 0,.slice none 0 0,.slice none 0 0,.int .i64 0] 33 (0,0)):=s8.row
    clear s8 N6
    have TL0:=Lib.hid N9
    clear N9
    have RO0:Hid (w8.heap[go]?=some (.cells #[.int .i8 1,.int .u64 0,.slice none 0 0,.slice none 0 0,.int .i64 0] 33 (0,0))):=Lib.hid (HO9)
    clear HO9
    have o0:w8.cell? ⟨go,0,none⟩=some (.int .i8 1):=by simp only [World.cell?,RO0.out];rfl
    obtain ⟨z0,hz0⟩:∃ z0,Hid (z0=((its E D k).step6 E.kf (E.x (its E D k).ix)).r 0):=⟨_,Lib.hid rfl⟩
    have d3:w8.cell? ⟨g,3,none⟩=some (.int .u64 z0):=by rw [hz0.out];obtain ⟨ctx,av,tv,hin,_⟩:=TL0.out.R.st;exact Md.reg hin 0 (by decide)
    go_wp2_with (with_reducible refine (halt_store 30 _ _ rfl ?_))
    refine ⟨?_,trivial⟩
    refine wpList_store_cell rfl 30 _ _ rfl go 1 (.int .u64 z0) rfl rfl rfl rfl 33 _ RO0.out (by kernel_rfl) (show 1<5 by decide) ?_
    intro wa sa
    have RO1:Hid (wa.heap[go]?=some (.cells #[.int .i8 1,.int .u64 z0,.slice none 0 0,.slice none 0 0,.int .i64 0] 33 (0,0))):=Lib.hid (sa.row)
    have TL1:=Lib.hid (TL0.out.put sa RO0.out hgo.out)
    clear sa o0 d3 RO0 TL0
    have d2:wa.cell? ⟨g,2,none⟩=some (.pointer (some ⟨r,0,none⟩)):=by obtain ⟨ctx,av,tv,hin,_⟩:=TL1.out.R.st;exact Md.c2 hin
    obtain ⟨M9,m1,m2,m3⟩:=TL1.out.R.mm
    have CTX:=Lib.hid (Rm.r_context M9 r β _ m1)
    have MX:=Lib.hid (⟨m3.xl,m3.xv,m1.x.bytes,m1.x.le⟩:M9.x.len=_∧_∧_∧_)
    clear m1 m2 m3
    go_wp2_with fail
    refine CTX.out.mono ?_
    rintro e wb ⟨vc,rfl,bb,ob⟩
    clear CTX d2
    have RO2:Hid (wb.heap[go]?=some (.cells #[.int .i8 1,.int .u64 z0,.slice none 0 0,.slice none 0 0,.int .i64 0] 33 (0,0))):=Lib.hid (brow bb RO1.out)
    have TL2:=Lib.hid (TL1.out.below bb)
    obtain ⟨xa,xc,rfl,hby⟩:=own_bytes6 (f':=fun i=>((its E D k).step6 E.kf (E.x (its E D k).ix)).mem.g (1+i)) ob MX.out.2.2.2 (fun i hi=>MX.out.2.1 i (by rw [← MX.out.1];exact hi)) (fun i hi=>by rw [← MX.out.2.1 i (by rw [← MX.out.1];exact hi)];exact MX.out.2.2.1 i hi)
    clear hby
    have HMV:=Lib.hid (⟨by rw [← MX.out.1];exact MX.out.2.2.2,MX.out.2.1,fun i hi=>by rw [← MX.out.2.1 i hi];exact MX.out.2.2.1 i (by rw [MX.out.1];exact hi)⟩:((its E D k).step6 E.kf (E.x (its E D k).ix)).mem.n≤1000000∧(∀ i,i<((its E D k).step6 E.kf (E.x (its E D k).ix)).mem.n→M9.x.f i=((its E D k).step6 E.kf (E.x (its E D k).ix)).mem.g (1+i))∧∀ i,i<((its E D k).step6 E.kf (E.x (its E D k).ix)).mem.n→0≤((its E D k).step6 E.kf (E.x (its E D k).ix)).mem.g (1+i)∧((its E D k).step6 E.kf (E.x (its E D k).ix)).mem.g (1+i)<256)
    have HXL:Hid (M9.x.len=((its E D k).step6 E.kf (E.x (its E D k).ix)).mem.n):=Lib.hid MX.out.1
    rw [HXL.out] at ob
    have OB:=Lib.hid (own_base ob TL1.out.bel.size)
    clear bb ob MX RO1 TL1
    rw [HXL.out]
    generalize hnx:((its E D k).step6 E.kf (E.x (its E D k).ix)).mem.n=nx at *
    have HNX:=Lib.hid hnx
    clear hnx HXL
    go_wp2_with (with_reducible refine (halt_store 25 _ _ rfl ?_))
    refine ⟨?_,trivial⟩
    refine wpList_store_cell rfl 25 _ _ rfl go 2 (.slice xa nx xc) rfl rfl rfl rfl 33 _ RO2.out (by kernel_rfl) (show 2<5 by decide) ?_
    intro wc sc
    have RO3:Hid (wc.heap[go]?=some (.cells #[.int .i8 1,.int .u64 z0,.slice xa nx xc,.slice none 0 0,.int .i64 0] 33 (0,0))):=Lib.hid (sc.row)
    have TL3:=Lib.hid (TL2.out.put sc RO2.out hgo.out)
    have OB3:=Lib.hid (own_trn OB.out (stored_trn sc) (fun j hj=>by simpa using own_ne OB.out RO2.out (show 5≠33 by decide) j hj))
    clear sc RO2 TL2 OB
    obtain ⟨ctx9,av9,tv9,hin9,hA9,hT9,hn9⟩:=TL3.out.R.st
    have d81:wc.cell? ⟨g,81,none⟩=some tv9:=Md.c81 hin9
    obtain ⟨ta9,tc9,rfl,-⟩:=hT9.evs
    have HT9:=Lib.hid hT9
    clear hin9 hA9 hT9 hn9
    go_wp2_with (with_reducible refine (halt_store 31 _ _ rfl ?_))
    refine ⟨?_,trivial⟩
    refine wpList_store_cell rfl 31 _ _ rfl go 3 (.slice ta9 ((its E D k).step6 E.kf (E.x (its E D k).ix)).evs.length tc9) rfl rfl rfl rfl 33 _ RO3.out (by kernel_rfl) (show 3<5 by decide) ?_
    intro wd sd
    have RO4:Hid (wd.heap[go]?=some (.cells #[.int .i8 1,.int .u64 z0,.slice xa nx xc,.slice ta9 ((its E D k).step6 E.kf (E.x (its E D k).ix)).evs.length tc9,.int .i64 0] 33 (0,0))):=Lib.hid (sd.row)
    have TL4:=Lib.hid (TL3.out.put sd RO3.out hgo.out)
    have OB4:=Lib.hid (own_trn OB3.out (stored_trn sd) (fun j hj=>by simpa using own_ne OB3.out RO3.out (show 5≠33 by decide) j hj))
    have HT4:=Lib.hid (HT9.out.trn (stored_trn sd) (fun j hj=>by rw [List.mem_singleton] at hj;subst hj;exact ⟨_,_,_,RO3.out,by decide,by decide⟩))
    clear sd RO3 TL3 OB3 HT9 d81
    go_wp2_with (with_reducible refine (halt_store 3 _ _ rfl ?_))
    refine ⟨?_,trivial⟩
    refine wpList_store_cell rfl 3 _ _ rfl go 4 (.int .i64 (q - 1)) rfl rfl rfl rfl 33 _ RO4.out (by kernel_rfl) (show 4<5 by decide) ?_
    intro we se
    have RO5:Hid (we.heap[go]?=some (.cells #[.int .i8 1,.int .u64 z0,.slice xa nx xc,.slice ta9 ((its E D k).step6 E.kf (E.x (its E D k).ix)).evs.length tc9,.int .i64 (q - 1)] 33 (0,0))):=Lib.hid (se.row)
    have TL5:=Lib.hid (TL4.out.put se RO4.out hgo.out)
    have OB5:=Lib.hid (own_trn OB4.out (stored_trn se) (fun j hj=>by simpa using own_ne OB4.out RO4.out (show 5≠33 by decide) j hj))
    have HT5:=Lib.hid (HT4.out.trn (stored_trn se) (fun j hj=>by rw [List.mem_singleton] at hj;subst hj;exact ⟨_,_,_,RO4.out,by decide,by decide⟩))
    clear se RO4 TL4 OB4 HT4
    have x0:we.cell? ⟨go,0,none⟩=some (.int .i8 1):=by simp only [World.cell?,RO5.out];rfl
    have x1:we.cell? ⟨go,1,none⟩=some (.int .u64 z0):=by simp only [World.cell?,RO5.out];rfl
    have x2:we.cell? ⟨go,2,none⟩=some (.slice xa nx xc):=by simp only [World.cell?,RO5.out];rfl
    have x3:we.cell? ⟨go,3,none⟩=some (.slice ta9 ((its E D k).step6 E.kf (E.x (its E D k).ix)).evs.length tc9):=by simp only [World.cell?,RO5.out];rfl
    have x4:we.cell? ⟨go,4,none⟩=some (.int .i64 (q - 1)):=by simp only [World.cell?,RO5.out];rfl
    go_wp2_with fail
    go_still_tail 5,(by kernel_rfl)
    have BD:Below we.heap.size we we.drew:=Below.drew (Below.refl _ _)
    have TL6:=Lib.hid (TL5.out.below BD)
    have OB6:=Lib.hid (own_below OB5.out BD)
    have HT6:=Lib.hid (HT5.out.trn (Trn.of_below (G:=[]) BD) (fun j hj=>absurd hj (by simp)))
    refine wpList_store_is rfl 33 _ _ rfl gr #[.int .i8 1,.int .u64 z0,.slice xa nx xc,.slice ta9 ((its E D k).step6 E.kf (E.x (its E D k).ix)).evs.length tc9,.int .i64 (q - 1)] rfl rfl 33 _ TL6.out.res info_out5 rfl (by simp [Value.oneCell']) ?_
    intro w9 s9
    have RES:(Trn [gr] we.drew w9):=stored_trn s9
    have RG:=TL6.out.res
    have A9:=own_base (own_trn TL6.out.at_ RES (fun j hj=>by simpa using own_ne TL6.out.at_ RG (show 3≠33 by decide) j hj)) (Nat.le_trans TL6.out.far.1 TL6.out.far.2.1)
    have L9:=own_base (own_trn TL6.out.l RES (fun j hj=>by simpa using own_ne TL6.out.l RG (show 49≠33 by decide) j hj)) (Nat.le_trans TL6.out.far.1 TL6.out.far.2.1)
    have O9:=own_trn OB6.out RES (fun j hj=>by simpa using own_ne OB6.out RG (show 5≠33 by decide) j hj)
    have H9:=HT6.out.trn RES (fun j hj=>by rw [List.mem_singleton] at hj;subst hj;exact ⟨_,_,_,RG,by decide,by decide⟩)
    have B9:=below_trn6 TL6.out.bel RES (fun j hj=>by rw [List.mem_singleton] at hj;subst hj;exact TL6.out.far.2.2.2.2.2.1) (TL6.out.bel.size)
    have FAR9:=Lib.hid TL6.out.far.1
    have ROW9:=Lib.hid s9.row
    have A9:=Lib.hid A9
    have L9:=Lib.hid L9
    have O9:=Lib.hid O9
    have H9:=Lib.hid H9
    have B9:=Lib.hid B9
    clear s9 RES RG TL6 OB6 HT6 BD x0 x1 x2 x3 x4 RO5 TL5 OB5 HT5
    go_wp2_with fail
    refine bodyPost_ret (res_ttct rfl rfl rfl rfl (load_row _ ROW9.out Tryz.underlying33 rfl (by kernel_rfl)) rfl) rfl ?_
    unfold SnapIs
    rw [HE.out,HDD.out]
    exact ⟨(k+1),v1,v2,xa,xc,ta9,tc9,.inr ⟨k,rfl,HGO.out,by rw [← HQ.out];exact hlt,by show ((its E D k).step E.kf (E.x (its E D k).ix)).fin≠0;rw [← hf.out];decide⟩,ret6 (out6 (D:=its E D (k+1)) (f:=1) (r0:=z0) (q:=(q - 1)) (nx:=nx) (n:=((its E D k).step6 E.kf (E.x (its E D k).ix)).evs.length) (xa:=xa) (ta:=ta9) (xc:=xc) (tc:=tc9) HNX.out rfl (hf.out.symm) (by rw [if_pos rfl];exact hz0.out) (by show ((its E D k).step E.kf (E.x (its E D k).ix)).fuel=_;rw [step_fuel,HQ.out])),A9.out,L9.out,by unfold OutO;rw [show (its E D (k+1)).mem.n=nx from HNX.out];exact ⟨HMV.out.1,HMV.out.2.2,⟨_,O9.out,HMV.out.2.1⟩,trR_base H9.out FAR9.out⟩,B9.out⟩
   ·rw [show decide ((2:Int)=0)=false from rfl] at STEP
    go_wp2_with fail
    refine STEP.out.mono ?_
    rintro e w6 ⟨rfl,R9,T9⟩
    have N6:=Lib.hid (N5.out.stepped R9 T9)
    clear R9 T9 STEP N5
    go_wp2_with (with_reducible refine (halt_store 29 _ _ rfl ?_))
    refine ⟨?_,trivial⟩
    refine wpList_store_cell rfl 29 _ _ rfl go 0 (.int .i8 2) rfl rfl rfl rfl 33 _ N6.out.o (by kernel_rfl) (show 0<5 by decide) ?_
    intro w8 s8
    have N9:=N6.out.tl.put s8 N6.out.o hgo.out
    have HO9:w8.heap[go]?=some (.cells #[.int .i8 2,.int .u64 0,.slice none 0 0,.slice none 0 0,.int .i64 0] 33 (0,0)):=s8.row
    clear s8 N6
    have TL0:=Lib.hid N9
    clear N9
    have RO0:Hid (w8.heap[go]?=some (.cells #[.int .i8 2,.int .u64 0,.slice none 0 0,.slice none 0 0,.int .i64 0] 33 (0,0))):=Lib.hid (HO9)
    clear HO9
    have o0:w8.cell? ⟨go,0,none⟩=some (.int .i8 2):=by simp only [World.cell?,RO0.out];rfl
    have d2:w8.cell? ⟨g,2,none⟩=some (.pointer (some ⟨r,0,none⟩)):=by obtain ⟨ctx,av,tv,hin,_⟩:=TL0.out.R.st;exact Md.c2 hin
    obtain ⟨M9,m1,m2,m3⟩:=TL0.out.R.mm
    have CTX:=Lib.hid (Rm.r_context M9 r β _ m1)
    have MX:=Lib.hid (⟨m3.xl,m3.xv,m1.x.bytes,m1.x.le⟩:M9.x.len=_∧_∧_∧_)
    clear m1 m2 m3
    go_wp2_with fail
    refine CTX.out.mono ?_
    rintro e wb ⟨vc,rfl,bb,ob⟩
    clear CTX d2
    have RO2:Hid (wb.heap[go]?=some (.cells #[.int .i8 2,.int .u64 0,.slice none 0 0,.slice none 0 0,.int .i64 0] 33 (0,0))):=Lib.hid (brow bb RO0.out)
    have TL2:=Lib.hid (TL0.out.below bb)
    obtain ⟨xa,xc,rfl,hby⟩:=own_bytes6 (f':=fun i=>((its E D k).step6 E.kf (E.x (its E D k).ix)).mem.g (1+i)) ob MX.out.2.2.2 (fun i hi=>MX.out.2.1 i (by rw [← MX.out.1];exact hi)) (fun i hi=>by rw [← MX.out.2.1 i (by rw [← MX.out.1];exact hi)];exact MX.out.2.2.1 i hi)
    clear hby
    have HMV:=Lib.hid (⟨by rw [← MX.out.1];exact MX.out.2.2.2,MX.out.2.1,fun i hi=>by rw [← MX.out.2.1 i hi];exact MX.out.2.2.1 i (by rw [MX.out.1];exact hi)⟩:((its E D k).step6 E.kf (E.x (its E D k).ix)).mem.n≤1000000∧(∀ i,i<((its E D k).step6 E.kf (E.x (its E D k).ix)).mem.n→M9.x.f i=((its E D k).step6 E.kf (E.x (its E D k).ix)).mem.g (1+i))∧∀ i,i<((its E D k).step6 E.kf (E.x (its E D k).ix)).mem.n→0≤((its E D k).step6 E.kf (E.x (its E D k).ix)).mem.g (1+i)∧((its E D k).step6 E.kf (E.x (its E D k).ix)).mem.g (1+i)<256)
    have HXL:Hid (M9.x.len=((its E D k).step6 E.kf (E.x (its E D k).ix)).mem.n):=Lib.hid MX.out.1
    rw [HXL.out] at ob
    have OB:=Lib.hid (own_base ob TL0.out.bel.size)
    clear bb ob MX RO0 TL0 o0
    rw [HXL.out]
    generalize hnx:((its E D k).step6 E.kf (E.x (its E D k).ix)).mem.n=nx at *
    have HNX:=Lib.hid hnx
    clear hnx HXL
    go_wp2_with (with_reducible refine (halt_store 25 _ _ rfl ?_))
    refine ⟨?_,trivial⟩
    refine wpList_store_cell rfl 25 _ _ rfl go 2 (.slice xa nx xc) rfl rfl rfl rfl 33 _ RO2.out (by kernel_rfl) (show 2<5 by decide) ?_
    intro wc sc
    have RO3:Hid (wc.heap[go]?=some (.cells #[.int .i8 2,.int .u64 0,.slice xa nx xc,.slice none 0 0,.int .i64 0] 33 (0,0))):=Lib.hid (sc.row)
    have TL3:=Lib.hid (TL2.out.put sc RO2.out hgo.out)
    have OB3:=Lib.hid (own_trn OB.out (stored_trn sc) (fun j hj=>by simpa using own_ne OB.out RO2.out (show 5≠33 by decide) j hj))
    clear sc RO2 TL2 OB
    obtain ⟨ctx9,av9,tv9,hin9,hA9,hT9,hn9⟩:=TL3.out.R.st
    have d81:wc.cell? ⟨g,81,none⟩=some tv9:=Md.c81 hin9
    obtain ⟨ta9,tc9,rfl,-⟩:=hT9.evs
    have HT9:=Lib.hid hT9
    clear hin9 hA9 hT9 hn9
    go_wp2_with (with_reducible refine (halt_store 31 _ _ rfl ?_))
    refine ⟨?_,trivial⟩
    refine wpList_store_cell rfl 31 _ _ rfl go 3 (.slice ta9 ((its E D k).step6 E.kf (E.x (its E D k).ix)).evs.length tc9) rfl rfl rfl rfl 33 _ RO3.out (by kernel_rfl) (show 3<5 by decide) ?_
    intro wd sd
    have RO4:Hid (wd.heap[go]?=some (.cells #[.int .i8 2,.int .u64 0,.slice xa nx xc,.slice ta9 ((its E D k).step6 E.kf (E.x (its E D k).ix)).evs.length tc9,.int .i64 0] 33 (0,0))):=Lib.hid (sd.row)
    have TL4:=Lib.hid (TL3.out.put sd RO3.out hgo.out)
    have OB4:=Lib.hid (own_trn OB3.out (stored_trn sd) (fun j hj=>by simpa using own_ne OB3.out RO3.out (show 5≠33 by decide) j hj))
    have HT4:=Lib.hid (HT9.out.trn (stored_trn sd) (fun j hj=>by rw [List.mem_singleton] at hj;subst hj;exact ⟨_,_,_,RO3.out,by decide,by decide⟩))
    clear sd RO3 TL3 OB3 HT9 d81
    go_wp2_with (with_reducible refine (halt_store 3 _ _ rfl ?_))
    refine ⟨?_,trivial⟩
    refine wpList_store_cell rfl 3 _ _ rfl go 4 (.int .i64 (q - 1)) rfl rfl rfl rfl 33 _ RO4.out (by kernel_rfl) (show 4<5 by decide) ?_
    intro we se
    have RO5:Hid (we.heap[go]?=some (.cells #[.int .i8 2,.int .u64 0,.slice xa nx xc,.slice ta9 ((its E D k).step6 E.kf (E.x (its E D k).ix)).evs.length tc9,.int .i64 (q - 1)] 33 (0,0))):=Lib.hid (se.row)
    have TL5:=Lib.hid (TL4.out.put se RO4.out hgo.out)
    have OB5:=Lib.hid (own_trn OB4.out (stored_trn se) (fun j hj=>by simpa using own_ne OB4.out RO4.out (show 5≠33 by decide) j hj))
    have HT5:=Lib.hid (HT4.out.trn (stored_trn se) (fun j hj=>by rw [List.mem_singleton] at hj;subst hj;exact ⟨_,_,_,RO4.out,by decide,by decide⟩))
    clear se RO4 TL4 OB4 HT4
    have x0:we.cell? ⟨go,0,none⟩=some (.int .i8 2):=by simp only [World.cell?,RO5.out];rfl
    have x1:we.cell? ⟨go,1,none⟩=some (.int .u64 0):=by simp only [World.cell?,RO5.out];rfl
    have x2:we.cell? ⟨go,2,none⟩=some (.slice xa nx xc):=by simp only [World.cell?,RO5.out];rfl
    have x3:we.cell? ⟨go,3,none⟩=some (.slice ta9 ((its E D k).step6 E.kf (E.x (its E D k).ix)).evs.length tc9):=by simp only [World.cell?,RO5.out];rfl
    have x4:we.cell? ⟨go,4,none⟩=some (.int .i64 (q - 1)):=by simp only [World.cell?,RO5.out];rfl
    go_wp2_with fail
    go_still_tail 5,(by kernel_rfl)
    have BD:Below we.heap.size we we.drew:=Below.drew (Below.refl _ _)
    have TL6:=Lib.hid (TL5.out.below BD)
    have OB6:=Lib.hid (own_below OB5.out BD)
    have HT6:=Lib.hid (HT5.out.trn (Trn.of_below (G:=[]) BD) (fun j hj=>absurd hj (by simp)))
    refine wpList_store_is rfl 33 _ _ rfl gr #[.int .i8 2,.int .u64 0,.slice xa nx xc,.slice ta9 ((its E D k).step6 E.kf (E.x (its E D k).ix)).evs.length tc9,.int .i64 (q - 1)] rfl rfl 33 _ TL6.out.res info_out5 rfl (by simp [Value.oneCell']) ?_
    intro w9 s9
    have RES:(Trn [gr] we.drew w9):=stored_trn s9
    have RG:=TL6.out.res
    have A9:=own_base (own_trn TL6.out.at_ RES (fun j hj=>by simpa using own_ne TL6.out.at_ RG (show 3≠33 by decide) j hj)) (Nat.le_trans TL6.out.far.1 TL6.out.far.2.1)
    have L9:=own_base (own_trn TL6.out.l RES (fun j hj=>by simpa using own_ne TL6.out.l RG (show 49≠33 by decide) j hj)) (Nat.le_trans TL6.out.far.1 TL6.out.far.2.1)
    have O9:=own_trn OB6.out RES (fun j hj=>by simpa using own_ne OB6.out RG (show 5≠33 by decide) j hj)
    have H9:=HT6.out.trn RES (fun j hj=>by rw [List.mem_singleton] at hj;subst hj;exact ⟨_,_,_,RG,by decide,by decide⟩)
    have B9:=below_trn6 TL6.out.bel RES (fun j hj=>by rw [List.mem_singleton] at hj;subst hj;exact TL6.out.far.2.2.2.2.2.1) (TL6.out.bel.size)
    have FAR9:=Lib.hid TL6.out.far.1
    have ROW9:=Lib.hid s9.row
    have A9:=Lib.hid A9
    have L9:=Lib.hid L9
    have O9:=Lib.hid O9
    have H9:=Lib.hid H9
    have B9:=Lib.hid B9
    clear s9 RES RG TL6 OB6 HT6 BD x0 x1 x2 x3 x4 RO5 TL5 OB5 HT5
    go_wp2_with fail
    refine bodyPost_ret (res_ttct rfl rfl rfl rfl (load_row _ ROW9.out Tryz.underlying33 rfl (by kernel_rfl)) rfl) rfl ?_
    unfold SnapIs
    rw [HE.out,HDD.out]
    exact ⟨(k+1),v1,v2,xa,xc,ta9,tc9,.inr ⟨k,rfl,HGO.out,by rw [← HQ.out];exact hlt,by show ((its E D k).step E.kf (E.x (its E D k).ix)).fin≠0;rw [← hf.out];decide⟩,ret6 (out6 (D:=its E D (k+1)) (f:=2) (r0:=0) (q:=(q - 1)) (nx:=nx) (n:=((its E D k).step6 E.kf (E.x (its E D k).ix)).evs.length) (xa:=xa) (ta:=ta9) (xc:=xc) (tc:=tc9) HNX.out rfl (hf.out.symm) (by rw [if_neg (by decide)]) (by show ((its E D k).step E.kf (E.x (its E D k).ix)).fuel=_;rw [step_fuel,HQ.out])),A9.out,L9.out,by unfold OutO;rw [show (its E D (k+1)).mem.n=nx from HNX.out];exact ⟨HMV.out.1,HMV.out.2.2,⟨_,O9.out,HMV.out.2.1⟩,trR_base H9.out FAR9.out⟩,B9.out⟩
   ·rw [show decide ((3:Int)=0)=false from rfl] at STEP
    go_wp2_with fail
    refine STEP.out.mono ?_
    rintro e w6 ⟨rfl,R9,T9⟩
    have N6:=Lib.hid (N5.out.stepped R9 T9)
    clear R9 T9 STEP N5
    go_wp2_with (with_reducible refine (halt_store 29 _ _ rfl ?_))
    refine ⟨?_,trivial⟩
    refine wpList_store_cell rfl 29 _ _ rfl go 0 (.int .i8 3) rfl rfl rfl rfl 33 _ N6.out.o (by kernel_rfl) (show 0<5 by decide) ?_
    intro w8 s8
    have N9:=N6.out.tl.put s8 N6.out.o hgo.out
    have HO9:w8.heap[go]?=some (.cells #[.int .i8 3,.int .u64 0,.slice none 0 0,.slice none 0 0,.int .i64 0] 33 (0,0)):=s8.row
    clear s8 N6
    have TL0:=Lib.hid N9
    clear N9
    have RO0:Hid (w8.heap[go]?=some (.cells #[.int .i8 3,.int .u64 0,.slice none 0 0,.slice none 0 0,.int .i64 0] 33 (0,0))):=Lib.hid (HO9)
    clear HO9
    have o0:w8.cell? ⟨go,0,none⟩=some (.int .i8 3):=by simp only [World.cell?,RO0.out];rfl
    have d2:w8.cell? ⟨g,2,none⟩=some (.pointer (some ⟨r,0,none⟩)):=by obtain ⟨ctx,av,tv,hin,_⟩:=TL0.out.R.st;exact Md.c2 hin
    obtain ⟨M9,m1,m2,m3⟩:=TL0.out.R.mm
    have CTX:=Lib.hid (Rm.r_context M9 r β _ m1)
    have MX:=Lib.hid (⟨m3.xl,m3.xv,m1.x.bytes,m1.x.le⟩:M9.x.len=_∧_∧_∧_)
    clear m1 m2 m3
    go_wp2_with fail
    refine CTX.out.mono ?_
    rintro e wb ⟨vc,rfl,bb,ob⟩
    clear CTX d2
    have RO2:Hid (wb.heap[go]?=some (.cells #[.int .i8 3,.int .u64 0,.slice none 0 0,.slice none 0 0,.int .i64 0] 33 (0,0))):=Lib.hid (brow bb RO0.out)
    have TL2:=Lib.hid (TL0.out.below bb)
    obtain ⟨xa,xc,rfl,hby⟩:=own_bytes6 (f':=fun i=>((its E D k).step6 E.kf (E.x (its E D k).ix)).mem.g (1+i)) ob MX.out.2.2.2 (fun i hi=>MX.out.2.1 i (by rw [← MX.out.1];exact hi)) (fun i hi=>by rw [← MX.out.2.1 i (by rw [← MX.out.1];exact hi)];exact MX.out.2.2.1 i hi)
    clear hby
    have HMV:=Lib.hid (⟨by rw [← MX.out.1];exact MX.out.2.2.2,MX.out.2.1,fun i hi=>by rw [← MX.out.2.1 i hi];exact MX.out.2.2.1 i (by rw [MX.out.1];exact hi)⟩:((its E D k).step6 E.kf (E.x (its E D k).ix)).mem.n≤1000000∧(∀ i,i<((its E D k).step6 E.kf (E.x (its E D k).ix)).mem.n→M9.x.f i=((its E D k).step6 E.kf (E.x (its E D k).ix)).mem.g (1+i))∧∀ i,i<((its E D k).step6 E.kf (E.x (its E D k).ix)).mem.n→0≤((its E D k).step6 E.kf (E.x (its E D k).ix)).mem.g (1+i)∧((its E D k).step6 E.kf (E.x (its E D k).ix)).mem.g (1+i)<256)
    have HXL:Hid (M9.x.len=((its E D k).step6 E.kf (E.x (its E D k).ix)).mem.n):=Lib.hid MX.out.1
    rw [HXL.out] at ob
    have OB:=Lib.hid (own_base ob TL0.out.bel.size)
    clear bb ob MX RO0 TL0 o0
    rw [HXL.out]
    generalize hnx:((its E D k).step6 E.kf (E.x (its E D k).ix)).mem.n=nx at *
    have HNX:=Lib.hid hnx
    clear hnx HXL
    go_wp2_with (with_reducible refine (halt_store 25 _ _ rfl ?_))
    refine ⟨?_,trivial⟩
    refine wpList_store_cell rfl 25 _ _ rfl go 2 (.slice xa nx xc) rfl rfl rfl rfl 33 _ RO2.out (by kernel_rfl) (show 2<5 by decide) ?_
    intro wc sc
    have RO3:Hid (wc.heap[go]?=some (.cells #[.int .i8 3,.int .u64 0,.slice xa nx xc,.slice none 0 0,.int .i64 0] 33 (0,0))):=Lib.hid (sc.row)
    have TL3:=Lib.hid (TL2.out.put sc RO2.out hgo.out)
    have OB3:=Lib.hid (own_trn OB.out (stored_trn sc) (fun j hj=>by simpa using own_ne OB.out RO2.out (show 5≠33 by decide) j hj))
    clear sc RO2 TL2 OB
    obtain ⟨ctx9,av9,tv9,hin9,hA9,hT9,hn9⟩:=TL3.out.R.st
    have d81:wc.cell? ⟨g,81,none⟩=some tv9:=Md.c81 hin9
    obtain ⟨ta9,tc9,rfl,-⟩:=hT9.evs
    have HT9:=Lib.hid hT9
    clear hin9 hA9 hT9 hn9
    go_wp2_with (with_reducible refine (halt_store 31 _ _ rfl ?_))
    refine ⟨?_,trivial⟩
    refine wpList_store_cell rfl 31 _ _ rfl go 3 (.slice ta9 ((its E D k).step6 E.kf (E.x (its E D k).ix)).evs.length tc9) rfl rfl rfl rfl 33 _ RO3.out (by kernel_rfl) (show 3<5 by decide) ?_
    intro wd sd
    have RO4:Hid (wd.heap[go]?=some (.cells #[.int .i8 3,.int .u64 0,.slice xa nx xc,.slice ta9 ((its E D k).step6 E.kf (E.x (its E D k).ix)).evs.length tc9,.int .i64 0] 33 (0,0))):=Lib.hid (sd.row)
    have TL4:=Lib.hid (TL3.out.put sd RO3.out hgo.out)
    have OB4:=Lib.hid (own_trn OB3.out (stored_trn sd) (fun j hj=>by simpa using own_ne OB3.out RO3.out (show 5≠33 by decide) j hj))
    have HT4:=Lib.hid (HT9.out.trn (stored_trn sd) (fun j hj=>by rw [List.mem_singleton] at hj;subst hj;exact ⟨_,_,_,RO3.out,by decide,by decide⟩))
    clear sd RO3 TL3 OB3 HT9 d81
    go_wp2_with (with_reducible refine (halt_store 3 _ _ rfl ?_))
    refine ⟨?_,trivial⟩
    refine wpList_store_cell rfl 3 _ _ rfl go 4 (.int .i64 (q - 1)) rfl rfl rfl rfl 33 _ RO4.out (by kernel_rfl) (show 4<5 by decide) ?_
    intro we se
    have RO5:Hid (we.heap[go]?=some (.cells #[.int .i8 3,.int .u64 0,.slice xa nx xc,.slice ta9 ((its E D k).step6 E.kf (E.x (its E D k).ix)).evs.length tc9,.int .i64 (q - 1)] 33 (0,0))):=Lib.hid (se.row)
    have TL5:=Lib.hid (TL4.out.put se RO4.out hgo.out)
    have OB5:=Lib.hid (own_trn OB4.out (stored_trn se) (fun j hj=>by simpa using own_ne OB4.out RO4.out (show 5≠33 by decide) j hj))
    have HT5:=Lib.hid (HT4.out.trn (stored_trn se) (fun j hj=>by rw [List.mem_singleton] at hj;subst hj;exact ⟨_,_,_,RO4.out,by decide,by decide⟩))
    clear se RO4 TL4 OB4 HT4
    have x0:we.cell? ⟨go,0,none⟩=some (.int .i8 3):=by simp only [World.cell?,RO5.out];rfl
    have x1:we.cell? ⟨go,1,none⟩=some (.int .u64 0):=by simp only [World.cell?,RO5.out];rfl
    have x2:we.cell? ⟨go,2,none⟩=some (.slice xa nx xc):=by simp only [World.cell?,RO5.out];rfl
    have x3:we.cell? ⟨go,3,none⟩=some (.slice ta9 ((its E D k).step6 E.kf (E.x (its E D k).ix)).evs.length tc9):=by simp only [World.cell?,RO5.out];rfl
    have x4:we.cell? ⟨go,4,none⟩=some (.int .i64 (q - 1)):=by simp only [World.cell?,RO5.out];rfl
    go_wp2_with fail
    go_still_tail 5,(by kernel_rfl)
    have BD:Below we.heap.size we we.drew:=Below.drew (Below.refl _ _)
    have TL6:=Lib.hid (TL5.out.below BD)
    have OB6:=Lib.hid (own_below OB5.out BD)
    have HT6:=Lib.hid (HT5.out.trn (Trn.of_below (G:=[]) BD) (fun j hj=>absurd hj (by simp)))
    refine wpList_store_is rfl 33 _ _ rfl gr #[.int .i8 3,.int .u64 0,.slice xa nx xc,.slice ta9 ((its E D k).step6 E.kf (E.x (its E D k).ix)).evs.length tc9,.int .i64 (q - 1)] rfl rfl 33 _ TL6.out.res info_out5 rfl (by simp [Value.oneCell']) ?_
    intro w9 s9
    have RES:(Trn [gr] we.drew w9):=stored_trn s9
    have RG:=TL6.out.res
    have A9:=own_base (own_trn TL6.out.at_ RES (fun j hj=>by simpa using own_ne TL6.out.at_ RG (show 3≠33 by decide) j hj)) (Nat.le_trans TL6.out.far.1 TL6.out.far.2.1)
    have L9:=own_base (own_trn TL6.out.l RES (fun j hj=>by simpa using own_ne TL6.out.l RG (show 49≠33 by decide) j hj)) (Nat.le_trans TL6.out.far.1 TL6.out.far.2.1)
    have O9:=own_trn OB6.out RES (fun j hj=>by simpa using own_ne OB6.out RG (show 5≠33 by decide) j hj)
    have H9:=HT6.out.trn RES (fun j hj=>by rw [List.mem_singleton] at hj;subst hj;exact ⟨_,_,_,RG,by decide,by decide⟩)
    have B9:=below_trn6 TL6.out.bel RES (fun j hj=>by rw [List.mem_singleton] at hj;subst hj;exact TL6.out.far.2.2.2.2.2.1) (TL6.out.bel.size)
    have FAR9:=Lib.hid TL6.out.far.1
    have ROW9:=Lib.hid s9.row
    have A9:=Lib.hid A9
    have L9:=Lib.hid L9
    have O9:=Lib.hid O9
    have H9:=Lib.hid H9
    have B9:=Lib.hid B9
    clear s9 RES RG TL6 OB6 HT6 BD x0 x1 x2 x3 x4 RO5 TL5 OB5 HT5
    go_wp2_with fail
    refine bodyPost_ret (res_ttct rfl rfl rfl rfl (load_row _ ROW9.out Tryz.underlying33 rfl (by kernel_rfl)) rfl) rfl ?_
    unfold SnapIs
    rw [HE.out,HDD.out]
    exact ⟨(k+1),v1,v2,xa,xc,ta9,tc9,.inr ⟨k,rfl,HGO.out,by rw [← HQ.out];exact hlt,by show ((its E D k).step E.kf (E.x (its E D k).ix)).fin≠0;rw [← hf.out];decide⟩,ret6 (out6 (D:=its E D (k+1)) (f:=3) (r0:=0) (q:=(q - 1)) (nx:=nx) (n:=((its E D k).step6 E.kf (E.x (its E D k).ix)).evs.length) (xa:=xa) (ta:=ta9) (xc:=xc) (tc:=tc9) HNX.out rfl (hf.out.symm) (by rw [if_neg (by decide)]) (by show ((its E D k).step E.kf (E.x (its E D k).ix)).fuel=_;rw [step_fuel,HQ.out])),A9.out,L9.out,by unfold OutO;rw [show (its E D (k+1)).mem.n=nx from HNX.out];exact ⟨HMV.out.1,HMV.out.2.2,⟨_,O9.out,HMV.out.2.1⟩,trR_base H9.out FAR9.out⟩,B9.out⟩
  ·have N9:=hN.tl
   have HO9:=hN.o
   clear hN
   have TL0:=Lib.hid N9
   clear N9
   have RO0:Hid (wr.heap[go]?=some (.cells #[.int .i8 0,.int .u64 0,.slice none 0 0,.slice none 0 0,.int .i64 0] 33 (0,0))):=Lib.hid (HO9)
   clear HO9
   have o0:wr.cell? ⟨go,0,none⟩=some (.int .i8 0):=by simp only [World.cell?,RO0.out];rfl
   have d2:wr.cell? ⟨g,2,none⟩=some (.pointer (some ⟨r,0,none⟩)):=by obtain ⟨ctx,av,tv,hin,_⟩:=TL0.out.R.st;exact Md.c2 hin
   obtain ⟨M9,m1,m2,m3⟩:=TL0.out.R.mm
   have CTX:=Lib.hid (Rm.r_context M9 r β _ m1)
   have MX:=Lib.hid (⟨m3.xl,m3.xv,m1.x.bytes,m1.x.le⟩:M9.x.len=_∧_∧_∧_)
   clear m1 m2 m3
   go_wp2_with fail
   refine CTX.out.mono ?_
   rintro e wb ⟨vc,rfl,bb,ob⟩
   clear CTX d2
   have RO2:Hid (wb.heap[go]?=some (.cells #[.int .i8 0,.int .u64 0,.slice none 0 0,.slice none 0 0,.int .i64 0] 33 (0,0))):=Lib.hid (brow bb RO0.out)
   have TL2:=Lib.hid (TL0.out.below bb)
   obtain ⟨xa,xc,rfl,hby⟩:=own_bytes6 (f':=fun i=>(its E D k).mem.g (1+i)) ob MX.out.2.2.2 (fun i hi=>MX.out.2.1 i (by rw [← MX.out.1];exact hi)) (fun i hi=>by rw [← MX.out.2.1 i (by rw [← MX.out.1];exact hi)];exact MX.out.2.2.1 i hi)
   clear hby
   have HMV:=Lib.hid (⟨by rw [← MX.out.1];exact MX.out.2.2.2,MX.out.2.1,fun i hi=>by rw [← MX.out.2.1 i hi];exact MX.out.2.2.1 i (by rw [MX.out.1];exact hi)⟩:(its E D k).mem.n≤1000000∧(∀ i,i<(its E D k).mem.n→M9.x.f i=(its E D k).mem.g (1+i))∧∀ i,i<(its E D k).mem.n→0≤(its E D k).mem.g (1+i)∧(its E D k).mem.g (1+i)<256)
   have HXL:Hid (M9.x.len=(its E D k).mem.n):=Lib.hid MX.out.1
   rw [HXL.out] at ob
   have OB:=Lib.hid (own_base ob TL0.out.bel.size)
   clear bb ob MX RO0 TL0 o0
   rw [HXL.out]
   generalize hnx:(its E D k).mem.n=nx at *
   have HNX:=Lib.hid hnx
   clear hnx HXL
   go_wp2_with (with_reducible refine (halt_store 25 _ _ rfl ?_))
   refine ⟨?_,trivial⟩
   refine wpList_store_cell rfl 25 _ _ rfl go 2 (.slice xa nx xc) rfl rfl rfl rfl 33 _ RO2.out (by kernel_rfl) (show 2<5 by decide) ?_
   intro wc sc
   have RO3:Hid (wc.heap[go]?=some (.cells #[.int .i8 0,.int .u64 0,.slice xa nx xc,.slice none 0 0,.int .i64 0] 33 (0,0))):=Lib.hid (sc.row)
   have TL3:=Lib.hid (TL2.out.put sc RO2.out hgo.out)
   have OB3:=Lib.hid (own_trn OB.out (stored_trn sc) (fun j hj=>by simpa using own_ne OB.out RO2.out (show 5≠33 by decide) j hj))
   clear sc RO2 TL2 OB
   obtain ⟨ctx9,av9,tv9,hin9,hA9,hT9,hn9⟩:=TL3.out.R.st
   have d81:wc.cell? ⟨g,81,none⟩=some tv9:=Md.c81 hin9
   obtain ⟨ta9,tc9,rfl,-⟩:=hT9.evs
   have HT9:=Lib.hid hT9
   clear hin9 hA9 hT9 hn9
   go_wp2_with (with_reducible refine (halt_store 31 _ _ rfl ?_))
   refine ⟨?_,trivial⟩
   refine wpList_store_cell rfl 31 _ _ rfl go 3 (.slice ta9 (its E D k).evs.length tc9) rfl rfl rfl rfl 33 _ RO3.out (by kernel_rfl) (show 3<5 by decide) ?_
   intro wd sd
   have RO4:Hid (wd.heap[go]?=some (.cells #[.int .i8 0,.int .u64 0,.slice xa nx xc,.slice ta9 (its E D k).evs.length tc9,.int .i64 0] 33 (0,0))):=Lib.hid (sd.row)
   have TL4:=Lib.hid (TL3.out.put sd RO3.out hgo.out)
   have OB4:=Lib.hid (own_trn OB3.out (stored_trn sd) (fun j hj=>by simpa using own_ne OB3.out RO3.out (show 5≠33 by decide) j hj))
   have HT4:=Lib.hid (HT9.out.trn (stored_trn sd) (fun j hj=>by rw [List.mem_singleton] at hj;subst hj;exact ⟨_,_,_,RO3.out,by decide,by decide⟩))
   clear sd RO3 TL3 OB3 HT9 d81
   go_wp2_with (with_reducible refine (halt_store 3 _ _ rfl ?_))
   refine ⟨?_,trivial⟩
   refine wpList_store_cell rfl 3 _ _ rfl go 4 (.int .i64 q) rfl rfl rfl rfl 33 _ RO4.out (by kernel_rfl) (show 4<5 by decide) ?_
   intro we se
   have RO5:Hid (we.heap[go]?=some (.cells #[.int .i8 0,.int .u64 0,.slice xa nx xc,.slice ta9 (its E D k).evs.length tc9,.int .i64 q] 33 (0,0))):=Lib.hid (se.row)
   have TL5:=Lib.hid (TL4.out.put se RO4.out hgo.out)
   have OB5:=Lib.hid (own_trn OB4.out (stored_trn se) (fun j hj=>by simpa using own_ne OB4.out RO4.out (show 5≠33 by decide) j hj))
   have HT5:=Lib.hid (HT4.out.trn (stored_trn se) (fun j hj=>by rw [List.mem_singleton] at hj;subst hj;exact ⟨_,_,_,RO4.out,by decide,by decide⟩))
   clear se RO4 TL4 OB4 HT4
   have x0:we.cell? ⟨go,0,none⟩=some (.int .i8 0):=by simp only [World.cell?,RO5.out];rfl
   have x1:we.cell? ⟨go,1,none⟩=some (.int .u64 0):=by simp only [World.cell?,RO5.out];rfl
   have x2:we.cell? ⟨go,2,none⟩=some (.slice xa nx xc):=by simp only [World.cell?,RO5.out];rfl
   have x3:we.cell? ⟨go,3,none⟩=some (.slice ta9 (its E D k).evs.length tc9):=by simp only [World.cell?,RO5.out];rfl
   have x4:we.cell? ⟨go,4,none⟩=some (.int .i64 q):=by simp only [World.cell?,RO5.out];rfl
   go_wp2_with fail
   go_still_tail 5,(by kernel_rfl)
   have BD:Below we.heap.size we we.drew:=Below.drew (Below.refl _ _)
   have TL6:=Lib.hid (TL5.out.below BD)
   have OB6:=Lib.hid (own_below OB5.out BD)
   have HT6:=Lib.hid (HT5.out.trn (Trn.of_below (G:=[]) BD) (fun j hj=>absurd hj (by simp)))
   refine wpList_store_is rfl 33 _ _ rfl gr #[.int .i8 0,.int .u64 0,.slice xa nx xc,.slice ta9 (its E D k).evs.length tc9,.int .i64 q] rfl rfl 33 _ TL6.out.res info_out5 rfl (by simp [Value.oneCell']) ?_
   intro w9 s9
   have RES:(Trn [gr] we.drew w9):=stored_trn s9
   have RG:=TL6.out.res
   have A9:=own_base (own_trn TL6.out.at_ RES (fun j hj=>by simpa using own_ne TL6.out.at_ RG (show 3≠33 by decide) j hj)) (Nat.le_trans TL6.out.far.1 TL6.out.far.2.1)
   have L9:=own_base (own_trn TL6.out.l RES (fun j hj=>by simpa using own_ne TL6.out.l RG (show 49≠33 by decide) j hj)) (Nat.le_trans TL6.out.far.1 TL6.out.far.2.1)
   have O9:=own_trn OB6.out RES (fun j hj=>by simpa using own_ne OB6.out RG (show 5≠33 by decide) j hj)
   have H9:=HT6.out.trn RES (fun j hj=>by rw [List.mem_singleton] at hj;subst hj;exact ⟨_,_,_,RG,by decide,by decide⟩)
   have B9:=below_trn6 TL6.out.bel RES (fun j hj=>by rw [List.mem_singleton] at hj;subst hj;exact TL6.out.far.2.2.2.2.2.1) (TL6.out.bel.size)
   have FAR9:=Lib.hid TL6.out.far.1
   have ROW9:=Lib.hid s9.row
   have A9:=Lib.hid A9
   have L9:=Lib.hid L9
   have O9:=Lib.hid O9
   have H9:=Lib.hid H9
   have B9:=Lib.hid B9
   clear s9 RES RG TL6 OB6 HT6 BD x0 x1 x2 x3 x4 RO5 TL5 OB5 HT5
   go_wp2_with fail
   refine bodyPost_ret (res_ttct rfl rfl rfl rfl (load_row _ ROW9.out Tryz.underlying33 rfl (by kernel_rfl)) rfl) rfl ?_
   unfold SnapIs
   rw [HE.out,HDD.out]
   exact ⟨k,u15,u16,xa,xc,ta9,tc9,.inl ⟨HGO.out,by rw [← HQ.out];omega⟩,ret6 (out6 (D:=its E D k) (f:=0) (r0:=0) (q:=q) (nx:=nx) (n:=(its E D k).evs.length) (xa:=xa) (ta:=ta9) (xc:=xc) (tc:=tc9) HNX.out rfl (fin_its HD0.out.2.1 HGO.out) (by rw [if_neg (by decide)]) HQ.out.symm),A9.out,L9.out,by unfold OutO;rw [show (its E D k).mem.n=nx from HNX.out];exact ⟨HMV.out.1,HMV.out.2.2,⟨_,O9.out,HMV.out.2.1⟩,trR_base H9.out FAR9.out⟩,B9.out⟩
end Go.Proofs.YtigliofiojkhcaaGreat.Mdl
