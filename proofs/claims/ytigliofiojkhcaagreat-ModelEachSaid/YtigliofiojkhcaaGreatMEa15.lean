import Derived.Test.YtigliofiojkhcaaGreatMEx
import Derived.Test.YtigliofiojkhcaaGreatMEa14
set_option linter.unusedVariables false
set_option linter.unusedSimpArgs false
set_option linter.unnecessarySimpa false
namespace Go.Proofs.YtigliofiojkhcaaGreat.Mdl
open Go.RowKit Go.Maps Ins Trc Blk
set_option maxRecDepth 100000
set_option maxHeartbeats 16000000 in
theorem each_law_ok (c:Int)(b o plen pcap:Nat)(x:Nat→In)(ca:Option Addr)(cl cc:Nat)(cf:Nat→Int)(aa:Option Addr)(al ac:Nat)(zs:List Int)(fuel lv:Int)(W:World)(hI:Insts W (some ⟨b,o,none⟩) plen pcap x)(hS:Src W ca cl cc cf)(hA:WordsAt W aa al ac zs)
  (hz:∀ z∈zs,0≤z∧z<18446744073709551616) (hchk:(checkI c plen x).2=0) (hlen:(cl:Int)=c) (f0:0≤fuel) (f1:fuel≤10000) (h3:al≤400) (h4:¬ (2000<fuel∧fuel≤10000)):
  Calls Tryz.prog 4 #[.agg #[.int .i64 c,.slice (some ⟨b,o,none⟩) plen pcap],.slice ca cl cc,.slice aa al ac,.int .i64 fuel,.int .i64 lv] W fun e w'=>e=.returned (.bool true)∧Below W.heap.size W w':=by
 have mo:Tryz.prog.follows .mixedOrders=true:=by kernel_rfl
 have hle:=hI.le
 have hfit:=hI.fit
 obtain ⟨h1,h64,_⟩:=ends_facts hchk
 have hcc:=check_c hchk
 have GR:=Lib.hid (fun W=>great_no c (some ⟨b,o,none⟩) plen pcap ca cl cc aa al ac fuel W (by omega) (by omega) h3 h4)
 obtain ⟨tk,htk⟩:∃ tk:Nat,min (al:Int) fuel=(tk:Int):=⟨(min (al:Int) fuel).toNat,by omega⟩
 have SNP:=Lib.hid (fun w (h:Below W.heap.size W w)=>r6_snaps c b o plen pcap x ca cl cc cf aa al ac zs fuel w (hI.below h) (hS.below h) (hA.below h) hchk hlen f0 f1 hz)
 have EAC:=Lib.hid (fun w (h:Below W.heap.size W w)=>each_ok c b o plen pcap x ca cl cc cf aa al ac tk zs fuel w (hI.below h) (hS.below h) (hA.below h) hchk hlen f0 f1 htk (by omega) hz)
 have FI:=Lib.hid (fun (E:Env) e1 e2 e3=>fine_env hI hchk (E:=E) e1 e2 e3)
 have RU:=Lib.hid (fun (E:Env) (h:1≤E.pl) cb=>ini_runs E cb cl cf fuel (zs.take tk) h f0 f1)
 have HTK:=Lib.hid htk
 have HLN:=Lib.hid (show zs.length=al from hA.size.symm)
 have hmf:∀ (fn:Fn) (first cap:Array Value) (w:World),(Instr.makeFunc fn first cap).run Tryz.prog w=.ok (.func fn first cap) w:=fun _ _ _ _=>rfl
 have hzo:∃ i,Tryz.prog.info? 33=some i:=by
  cases hi:Tryz.prog.info? 33 with
  | some i=>exact ⟨i,rfl⟩
  | none=>
   have:(Tryz.prog.info? 33).isSome=true:=by kernel_rfl
   rw [hi] at this;cases this
 clear hI hS hA hz hchk hlen h3 h4 htk
 refine (callsIn_wide (n:=4)).1 (callsIn_of_wp_marks Tryz.func4 rfl trivial ?_ rfl)
 simp only [Tryz.ntmps4,List.size_toArray,List.length_cons,List.length_nil,Nat.reduceAdd,Nat.reduceSub,Array.replicate_succ,Array.replicate_zero,List.push_toArray,List.append_toArray,List.nil_append,List.cons_append]
 refine (wpIn_wide (n:=4)).2 ?_
 go_wp2_with fail
 refine (GR.out _).mono ?_
 rintro e w1 ⟨rfl,b1⟩
 have e0:=heap_last W (.cells #[.int .i64 c,.slice (some ⟨b,o,none⟩) plen pcap] 24) _ rfl
 have e1:=heap_last (W.alloc (.cells #[.int .i64 c,.slice (some ⟨b,o,none⟩) plen pcap] 24)) (.cells #[.int .i64 lv] 3) (W.heap.size+1) (by simp)
 have e2:=heap_last ((W.alloc (.cells #[.int .i64 c,.slice (some ⟨b,o,none⟩) plen pcap] 24)).alloc (.cells #[.int .i64 lv] 3)) (.cells #[.bool false] 4) (W.heap.size+2) (by simp)
 have n1:=below_new (Below.refl _ (W.alloc (.cells #[.int .i64 c,.slice (some ⟨b,o,none⟩) plen pcap] 24))) (.cells #[.int .i64 lv] 3)
 have n2:=below_new (Below.refl _ ((W.alloc (.cells #[.int .i64 c,.slice (some ⟨b,o,none⟩) plen pcap] 24)).alloc (.cells #[.int .i64 lv] 3))) (.cells #[.bool false] 4)
 have q0:=brow b1 (brow n2 (brow n1 e0))
 have q1:=brow b1 (brow n2 e1)
 have q2:=brow b1 e2
 have B1:=Lib.hid (below_call (below_new (below_new (below_new (Below.refl _ W) _) _) _) b1)
 have p0:w1.cell? ⟨W.heap.size,0,none⟩=some (.int .i64 c):=by simp only [World.cell?,q0];rfl
 have p1:w1.cell? ⟨W.heap.size,1,none⟩=some (.slice (some ⟨b,o,none⟩) plen pcap):=by simp only [World.cell?,q0];rfl
 have Q0:=Lib.hid q0
 have Q1:=Lib.hid q1
 have Q2:=Lib.hid q2
 clear b1 GR q0 q1 q2 e0 e1 e2 n1 n2
 go_wp2_with fail
 refine (SNP.out w1 B1.out).mono ?_
 rintro e w2 ⟨m,atv,lvv,oa,ob,ta,tc,DN,rfl,OA,OL,OO,b2⟩
 obtain ⟨aA,pA,gV,cA,rfl,HA,HA0⟩:=own_blk OA
 obtain ⟨aL,pL,gL,cL,rfl,HL,HL0⟩:=own_blk OL
 have RA:=Lib.hid (show 0<m→aA=some ⟨gV,0,none⟩∧∀ k,k<m→cA[k]?=some (.int .i64 (its (env6 b o plen pcap x) (ini 0 cl cf fuel zs) k).at_) from fun h=>⟨(HA h).1,fun k hk=>atsV_get (HA h).2.2 hk⟩)
 have RL:=Lib.hid (show 0<m→aL=some ⟨gL,0,none⟩∧∀ k,k<m→(cL.toList.drop (k * 76)).take 76=(its (env6 b o plen pcap x) (ini 0 cl cf fuel zs) k).snap from fun h=>⟨(HL h).1,fun k hk=>snapsF_get (HL h).2.2 hk⟩)
 have VA:=Lib.hid (fun h=>(HA h).2.1)
 have VL:=Lib.hid (fun h=>(HL h).2.1)
 have DN:=Lib.hid DN
 have B2:=Lib.hid (B1.out.trans (b2.mono B1.out.size))
 have Q0:=Lib.hid (brow b2 Q0.out)
 have Q1:=Lib.hid (brow b2 Q1.out)
 have Q2:=Lib.hid (brow b2 Q2.out)
 have HA0:=Lib.hid HA0
 have HL0:=Lib.hid HL0
 clear HA HL OA OL OO b2 B1 SNP p0 p1
 unfold outV
 generalize (its (env6 b o plen pcap x) (ini 0 cl cf fuel zs) m).out=oo at *
 go_wp2_with (with_reducible refine (halt_store 37 _ _ rfl ?_))
 refine ⟨?_,trivial⟩
 have x0:=heap_last w2 (.cells #[.slice none 0 0] 37) _ rfl
 have x1:=heap_last (w2.alloc (.cells #[.slice none 0 0] 37)) (.cells #[.slice none 0 0] 40) (w2.heap.size+1) (by simp)
 have y2:=heap_last ((w2.alloc (.cells #[.slice none 0 0] 37)).alloc (.cells #[.slice none 0 0] 40)) (.cells #[.int .i8 0,.int .u64 0,.slice none 0 0,.slice none 0 0,.int .i64 0] 33) (w2.heap.size+1+1) (by simp)
 have n1:=below_new (Below.refl _ (w2.alloc (.cells #[.slice none 0 0] 37))) (.cells #[.slice none 0 0] 40)
 have n2:=below_new (Below.refl _ ((w2.alloc (.cells #[.slice none 0 0] 37)).alloc (.cells #[.slice none 0 0] 40))) (.cells #[.int .i8 0,.int .u64 0,.slice none 0 0,.slice none 0 0,.int .i64 0] 33)
 have y0:=brow n2 (brow n1 x0)
 have y1:=brow n2 x1
 have ab:=below_new (below_new (below_new (Below.refl _ w2) (.cells #[.slice none 0 0] 37)) (.cells #[.slice none 0 0] 40)) (.cells #[.int .i8 0,.int .u64 0,.slice none 0 0,.slice none 0 0,.int .i64 0] 33)
 clear x0 x1 n1 n2
 generalize ((w2.alloc (.cells #[.slice none 0 0] 37)).alloc (.cells #[.slice none 0 0] 40)).alloc (.cells #[.int .i8 0,.int .u64 0,.slice none 0 0,.slice none 0 0,.int .i64 0] 33)=wA at *
 refine wpList_store_cell rfl 37 _ _ rfl w2.heap.size 0 (.slice aA m pA) rfl rfl rfl rfl 37 _ y0 (by kernel_rfl) (by simp) ?_
 intro w3 s3
 have y1:=(s3.other (w2.heap.size+1) (by omega)).trans y1
 have y2:=(s3.other (w2.heap.size+1+1) (by omega)).trans y2
 have r3:=s3.row
 have b3:=s3.below ab (Nat.le_refl _)
 clear s3 y0 ab
 refine wpList_store_cell rfl 40 _ _ rfl (w2.heap.size+1) 0 (.slice aL m pL) rfl rfl rfl rfl 40 _ y1 (by kernel_rfl) (by simp) ?_
 intro w4 s4
 have y2:=(s4.other (w2.heap.size+1+1) (by omega)).trans y2
 have r3:=(s4.other w2.heap.size (by omega)).trans r3
 have r4:=s4.row
 have b4:=s4.below b3 (by omega)
 clear s4 y1 b3
 refine wpList_store_is rfl 33 _ _ rfl (w2.heap.size+1+1) #[.int .i8 oo.kind,.int .u64 oo.r0,.slice oa oo.ctx.length ob,.slice ta oo.tr.length tc,.int .i64 oo.left] rfl rfl 33 _ y2 info_out5 rfl (by simp [Value.oneCell']) ?_
 intro w5 s5
 have R3:=Lib.hid ((s5.other w2.heap.size (by omega)).trans r3)
 have R4:=Lib.hid ((s5.other (w2.heap.size+1) (by omega)).trans r4)
 have b5:=s5.below b4 (by omega)
 clear s5 y2 b4 r3 r4
 have B5:=Lib.hid (B2.out.trans (b5.mono B2.out.size))
 have Q0:=Lib.hid (brow b5 Q0.out)
 have Q1:=Lib.hid (brow b5 Q1.out)
 have Q2:=Lib.hid (brow b5 Q2.out)
 have VA:=Lib.hid (fun h=>brow b5 (VA.out h))
 have VL:=Lib.hid (fun h=>brow b5 (VL.out h))
 have z2:=B2.out.size
 have p0:w5.cell? ⟨W.heap.size,0,none⟩=some (.int .i64 c):=by simp only [World.cell?,Q0.out];rfl
 have p1:w5.cell? ⟨W.heap.size,1,none⟩=some (.slice (some ⟨b,o,none⟩) plen pcap):=by simp only [World.cell?,Q0.out];rfl
 clear b5 B2
 generalize w2.heap.size=gA at *
 simp only [Act.put]
 go_wp2_with fail
 refine (EAC.out w5 B5.out).mono ?_
 rintro e w6 ⟨E,cb,eB,gB,rfl,ex,el,ec,ek,heB,hgB,re,rg,b6,R6⟩
 have Q1:=Lib.hid (brow b6 Q1.out)
 have Q2:=Lib.hid (brow b6 Q2.out)
 have R3:=Lib.hid (brow b6 R3.out)
 have R4:=Lib.hid (brow b6 R4.out)
 have VA:=Lib.hid (fun h=>brow b6 (VA.out h))
 have VL:=Lib.hid (fun h=>brow b6 (VL.out h))
 have B6:=Lib.hid (B5.out.trans (b6.mono B5.out.size))
 have F6:=FI.out E ex el ec
 have RR6:=RU.out E (by omega) cb
 have SEQ:=Lib.hid (each_seq E F6 (ini cb cl cf fuel (zs.take tk)) RR6 rfl rfl eB gB 3 (by decide) w6 R6 re rg)
 clear b6 B5 EAC re rg R6 p0 p1 Q0 FI RU
 unfold eachV
 have hbf:=seq_not_nilE eB gB
 obtain ⟨M,hM⟩:=done_ex (E:=E) (D:=(ini cb cl cf fuel (zs.take tk))) _ 0 (Goes.zero _ _) rfl
 obtain ⟨_,RP,DP,_⟩:=plain_env el ex ek F6 RR6 hM
 obtain ⟨rfl,SM⟩:=same6 RP HLN.out HTK.out DP DN.out
 have KEY:∀ k,k≤m→(its (env6 b o plen pcap x) (ini 0 cl cf fuel zs) k).at_=(its E (ini cb cl cf fuel (zs.take tk)) k).at_∧(its (env6 b o plen pcap x) (ini 0 cl cf fuel zs) k).snap=(its E (ini cb cl cf fuel (zs.take tk)) k).snap:=fun k hk=>by
  obtain ⟨l',e⟩:=SM k hk
  have e2:=its_env ek (ini 0 cl cf fuel (zs.take tk)) cb k
  rw [ex,el,← ini_cb] at e2
  rw [e,e2]
  exact ⟨rfl,rfl⟩
 have RA:=Lib.hid (show 0<m→aA=some ⟨gV,0,none⟩∧∀ k,k<m→cA[k]?=some (.int .i64 (its E (ini cb cl cf fuel (zs.take tk)) k).at_) from fun h=>⟨(RA.out h).1,fun k hk=>by rw [← (KEY k (by omega)).1];exact (RA.out h).2 k hk⟩)
 have RL:=Lib.hid (show 0<m→aL=some ⟨gL,0,none⟩∧∀ k,k<m→(cL.toList.drop (k * 76)).take 76=(its E (ini cb cl cf fuel (zs.take tk)) k).snap from fun h=>⟨(RL.out h).1,fun k hk=>by rw [← (KEY k (by omega)).2];exact (RL.out h).2 k hk⟩)
 clear KEY SM RP DP DN HLN
 have z6:=B6.out.size
 have zl:W.heap.size+2<w6.heap.size:=(Array.getElem?_eq_some_iff.1 Q2.out).1
 have zA:gA+1<w6.heap.size:=(Array.getElem?_eq_some_iff.1 R4.out).1
 have zV:gV<w6.heap.size:=by
  rcases Nat.eq_zero_or_pos m with h | h
  ·rw [HA0.out h];omega
  ·exact (Array.getElem?_eq_some_iff.1 (VA.out h)).1
 have zL:gL<w6.heap.size:=by
  rcases Nat.eq_zero_or_pos m with h | h
  ·rw [HL0.out h];omega
  ·exact (Array.getElem?_eq_some_iff.1 (VL.out h)).1
 have a6:=below_new (Below.refl w6.heap.size w6) (.cells #[.int .i64 0] 3)
 have s0:=heap_last w6 (.cells #[.int .i64 0] 3) _ rfl
 go_wp2_with fail
 have CW0:EW W lv m gA w6.heap.size gV gL aA aL pA pL cA cL [] (w6.alloc (.cells #[.int .i64 0] 3)):=
  ⟨B6.out.trans (a6.mono B6.out.size),brow a6 Q1.out,brow a6 Q2.out,brow a6 R3.out,brow a6 R4.out,s0,fun h=>brow a6 (VA.out h),fun h=>brow a6 (VL.out h)⟩
 have A6:=Lib.hid a6
 clear s0 a6 Q1 Q2 R3 R4 B6 VA VL HA0 HL0
 generalize w6.alloc (.cells #[.int .i64 0] 3)=w7 at *
 have z67:=A6.out.size
 have zs7:w6.heap.size<w7.heap.size:=(Array.getElem?_eq_some_iff.1 CW0.n).1
 refine (wpIn_wide (n:=4)).1 ?_
 have AB:∀ γ,w7.heap.size≤γ→AbG τM w6.heap.size γ (EW W lv m gA w6.heap.size gV gL aA aL pA pL cA cL):=fun γ hγ=>EW.ab (by omega) (by omega)
 refine range_H (by decide) (gf:=22) (pa:=#[]) (lb:=#[.pointer (some ⟨eB,0,none⟩),.pointer (some ⟨gB,0,none⟩)]) rfl (enters_of Tryz.func22 (by kernel_rfl) rfl) SEQ.out A6.out (fun _=>rfl)
  (EW W lv m gA w6.heap.size gV gL aA aL pA pL cA cL) (EX lv (EW W lv m gA w6.heap.size gV gL aA aL pA pL cA cL))
  ((AB _ (Nat.le_refl _)).own (Nat.le_refl _)) (YE.own E _ _) (fun c=>(EX.ab (AB _ (Nat.le_refl _)) c).own (Nat.le_refl _))
  AB (fun γ c hγ=>EX.ab (AB γ hγ) c) (SE.own E _ _) (SpE.own E _ _) CW0 (AxC ?fr 0 (EW W lv m gA w6.heap.size gV gL aA aL pA pL cA cL) (YE E (ini cb cl cf fuel (zs.take tk))))
  (AxC.own ((AB _ (Nat.le_refl _)).own (Nat.le_refl _)) (YE.own E _ _)) ?assign ?body ?done ?stop
 case assign=>
  rintro l pre ⟨i,s⟩ W9 K hi hy hK
  have hsn:(Tryz.prog.info? 49).map (·.size)=some s.toArray.size∧s.toArray.all (·.oneCell')=true∧snapZ.size=s.toArray.size:=by
   obtain ⟨k,_,_,_,hx⟩:=hy
   obtain ⟨_,rfl⟩:=Prod.mk.inj hx
   exact ⟨info_snap,snap_one _ _ _,rfl⟩
  have HSN:=Lib.hid hsn
  have hz:=(zero_of_info zero_snap).1
  have HI9:=Lib.hid hi
  have HY9:=Lib.hid hy
  have HK:=Lib.hid hK
  clear hsn hi hy hK
  simp only [encE]
  refine in_region_seq (by decide) (fun _ _ h=>h) ?_
  intro K1 hK1
  go_wp2_with fail
  refine in_region (by decide) (fun _ _ h=>h) ?_
  intro K2 hK2
  go_wp2_with (with_reducible refine (halt_store 49 _ _ rfl ?_))
  refine ⟨?_,trivial⟩
  obtain ⟨sb,hsb⟩:∃ sb,sb=W9.heap.size:=⟨_,rfl⟩
  rw [← hsb]
  refine wpList_store_is rfl 49 _ _ rfl sb s.toArray rfl rfl 49 _ (by rw [hsb];exact heap_last _ _ _ rfl) HSN.out.1 HSN.out.2.2 HSN.out.2.1 ?_
  intro w' st
  have bw:Below W9.heap.size W9 w':=st.below (below_new (Below.refl _ _) _) (by omega)
  refine hK2 _ _ (HK.out _ w' ⟨bw.size,fun q o _ hq _=>brow bw hq⟩ ⟨bw.size,fun q o hq _=>brow bw hq⟩ ⟨sb,?_,HI9.out.below bw,HY9.out,st.row,Nat.zero_le _⟩)
  show _=?fr i s sb
  rfl
 case body=>
  rintro l pre ⟨i,s⟩ a' W9 ⟨sb,rfl,hC,⟨k,y1,y2,rfl,hx⟩,hs,hsb⟩
  obtain ⟨rfl,rfl⟩:=Prod.mk.inj hx
  have hkm:k<m:=done_more hM y1 y2
  have hm0:0<m:=by omega
  obtain ⟨EA,RA9⟩:=RA.out hm0
  obtain ⟨EL,RL9⟩:=RL.out hm0
  have hAc:=RA9 k hkm
  have hLc:=RL9 k hkm
  subst EA EL
  have HN9:=Lib.hid (show W9.heap[w6.heap.size]?=some (.cells #[.int .i64 (k:Int)] 3 (0,0)) by have:=hC.n;rw [snapsE_len] at this;exact this)
  have H9A:=Lib.hid hC.at_
  have H9L:=Lib.hid hC.l
  have HVA:=Lib.hid (hC.ra hm0)
  have HVL:=Lib.hid (hC.rl hm0)
  have HLV:=Lib.hid hC.leave
  have HS:=Lib.hid hs
  have eG:decide ((m:Int)≤(k:Int))=false:=decide_eq_false (by omega)
  have FIN:=Lib.hid (show ∀ w9,Below W9.heap.size W9 w9→∀ w10,Stored w9 w6.heap.size #[.int .i64 ((k:Int)+1)] 3 w10 →
    KeepsFrom w7.heap.size W9 w10∧KeepT σE W9 w10∧EW W lv m gA w6.heap.size gV gL (some ⟨gV,0,none⟩) (some ⟨gL,0,none⟩) pA pL cA cL (snapsE E (ini cb cl cf fuel (zs.take tk)) k ++ [((its E (ini cb cl cf fuel (zs.take tk)) k).at_,(its E (ini cb cl cf fuel (zs.take tk)) k).snap)]) w10 from by
   intro w9 hb9 w10 s10
   have hC:=hC.below hb9
   have k0:KeepsFrom w7.heap.size W9 w9:=⟨hb9.size,fun q o _ hq _=>brow hb9 hq⟩
   have k1:KeepT σE W9 w9:=⟨hb9.size,fun q o hq _=>brow hb9 hq⟩
   have tt:Trn [w6.heap.size] w9 w10:=⟨s10.os,s10.tape,s10.output,by rw [s10.size];exact Nat.le_refl _,fun q _ hn=>s10.other q (by simpa using hn)⟩
   have ty:∀ q∈[w6.heap.size],∃ c ty fr,w9.heap[q]?=some (.cells c ty fr)∧ty=3:=fun q hq=>by
    simp only [List.mem_cons,List.not_mem_nil,or_false] at hq
    subst hq
    exact ⟨_,_,_,hC.n,rfl⟩
   have bel:Below W.heap.size W w10:=⟨tt.os.trans hC.bel.os,tt.tape.trans hC.bel.tape,tt.output.trans hC.bel.output,Nat.le_trans hC.bel.size tt.size,fun q hq=>(tt.block q (by have:=hC.bel.size;omega) (fun hm=>by simp at hm;omega)).trans (hC.bel.block q hq)⟩
   refine ⟨k0.trans (keepsFrom_trn tt (fun q hq=>by obtain ⟨c,t,fr,h1,_⟩:=ty q hq;exact ⟨c,t,fr,h1⟩)),k1.trans (keepT_trn tt (fun q hq=>by obtain ⟨c,t,fr,h1,rfl⟩:=ty q hq;exact ⟨c,_,fr,h1,by decide⟩)),bel,tt.row hC.leave (by simp;omega),tt.row hC.res (by simp;omega),tt.row hC.at_ (by simp;omega),tt.row hC.l (by simp;omega),?_,fun h=>tt.row (hC.ra h) (by simp;omega),fun h=>tt.row (hC.rl h) (by simp;omega)⟩
   rw [List.length_append,snapsE_len];exact s10.row)
  have PL:=Lib.hid (show (((snapsE E (ini cb cl cf fuel (zs.take tk)) k ++ [((its E (ini cb cl cf fuel (zs.take tk)) k).at_,(its E (ini cb cl cf fuel (zs.take tk)) k).snap)]).length:Nat):Int)=(k:Int)+1 by rw [List.length_append,snapsE_len];rfl)
  have hk4:(k:Int)+1≤10000:=by have:=done_le hM (by exact f0);have h2:(ini cb cl cf fuel (zs.take tk)).fuel=fuel:=rfl;omega
  simp only
  clear hC hs hx y1 y2 RA9 RL9
  refine wpIn_block ?_
  refine wpIn_seq ?_
  refine wpIn_seq ?_
  refine go_regd (F:=Fence.wide.inRound l) (m:=4 - 1 - 1) (fun fl u w=>Below W9.heap.size W9 w) [] [] [some (.int .i64 (k:Int)),some (.slice (some ⟨gV,0,none⟩) m pA),some (.int .i64 (m:Int)),some (.bool false),some (.bool false),some (.int .i64 (its E (ini cb cl cf fuel (zs.take tk)) k).at_),some (.slice (some ⟨gV,0,none⟩) m pA),some (.int .i64 (k:Int)),some (.pointer (some ⟨gV,k,none⟩)),some (.int .i64 (its E (ini cb cl cf fuel (zs.take tk)) k).at_),some (.bool false),some (.bool false),some (.bool false),some (.agg (its E (ini cb cl cf fuel (zs.take tk)) k).snap.toArray),some (.slice (some ⟨gL,0,none⟩) m pL),some (.int .i64 (k:Int)),some (.pointer (some ⟨gL,k * 76,none⟩)),some (.agg (its E (ini cb cl cf fuel (zs.take tk)) k).snap.toArray),some (.bool false),some (.bool false)] mo (fun fl fl' u u' w hK hD h=>h) rfl rfl (by kernel_rfl) (fun fl w1 hfl b _=>b) (
   yc (@fun fl ax wx cx=>cx.iv (fun _=>trivial) (ex_ld rfl (cx.rq 16 rfl) (brow cx.S HN9.out) rfl Tryz.isAgg3) rfl rfl rfl) <|
   yc (@fun fl ax wx cx=>cx.iv (fun _=>trivial) (ex_ld rfl (cx.rq 11 rfl) (brow cx.S H9A.out) rfl Tryz.isAgg37) rfl rfl rfl) <|
   yc (@fun fl ax wx cx=>cx.iv (fun _=>trivial) (ex_lenE rfl rfl (cx.u 0 rfl)) rfl rfl rfl) <|
   yc (@fun fl ax wx cx=>cx.iv (fun _=>trivial) ((ex_ge rfl (cx.u 0 rfl) (cx.u 1 rfl)).trans (by rw [eG])) rfl rfl rfl) <|
   yc (@fun fl ax wx cx=>cx.iv (fun _=>trivial) (ex_mv rfl (cx.u 0 rfl)) rfl rfl rfl) <|
   yc (@fun fl ax wx cx=>cx.ival (fun _=>trivial) (cx.wy rfl rfl rfl rfl (cx.u 0 rfl)) (ex_mv rfl (cx.rq 17 rfl)) rfl rfl rfl rfl rfl) <|
   yc (@fun fl ax wx cx=>cx.ival (fun _=>trivial) (cx.wy rfl rfl rfl rfl (cx.u 0 rfl)) (ex_ld rfl (cx.rq 11 rfl) (brow cx.S H9A.out) rfl Tryz.isAgg37) rfl rfl rfl rfl rfl) <|
   yc (@fun fl ax wx cx=>cx.ival (fun _=>trivial) (cx.wy rfl rfl rfl rfl (cx.u 0 rfl)) (ex_ld rfl (cx.rq 16 rfl) (brow cx.S HN9.out) rfl Tryz.isAgg3) rfl rfl rfl rfl rfl) <|
   yc (@fun fl ax wx cx=>cx.ival (fun _=>trivial) (cx.wy rfl rfl rfl rfl (cx.u 2 rfl)) (ex_ixA rfl (cx.u 0 rfl) (cx.u 1 rfl) hkm) rfl rfl rfl rfl rfl) <|
   yc (@fun fl ax wx cx=>cx.ival (fun _=>trivial) (cx.wy rfl rfl rfl rfl (cx.u 1 rfl)) (ex_ld rfl (cx.u 0 rfl) (brow cx.S HVA.out) hAc Tryz.isAgg3) rfl rfl rfl rfl rfl) <|
   yc (@fun fl ax wx cx=>cx.ival (fun _=>trivial) (cx.wy rfl rfl rfl rfl (cx.u 2 rfl)) (ex_neE rfl (cx.u 0 rfl) (cx.u 1 rfl)) rfl rfl rfl rfl rfl) <|
   yc (@fun fl ax wx cx=>cx.iv (fun _=>trivial) (ex_pkE rfl (cx.u 0 rfl) (cx.u 1 rfl)) rfl rfl rfl) <|
   yc (@fun fl ax wx cx=>cx.iv (fun _=>trivial) (ex_mv rfl (cx.u 0 rfl)) rfl rfl rfl) <|
   yc (@fun fl ax wx cx=>cx.ival (fun _=>trivial) (cx.wy rfl rfl rfl rfl (cx.u 0 rfl)) (exec_loadR 49 _ rfl sb 0 (cx.rq 18 rfl) (brow cx.S HS.out) (its E (ini cb cl cf fuel (zs.take tk)) k).snap (by simp) _ Tryz.underlying49 rfl info_snap) rfl rfl rfl rfl rfl) <|
   yc (@fun fl ax wx cx=>cx.ival (fun _=>trivial) (cx.wy rfl rfl rfl rfl (cx.u 0 rfl)) (ex_ld rfl (cx.rq 12 rfl) (brow cx.S H9L.out) rfl Tryz.isAgg40) rfl rfl rfl rfl rfl) <|
   yc (@fun fl ax wx cx=>cx.ival (fun _=>trivial) (cx.wy rfl rfl rfl rfl (cx.u 0 rfl)) (ex_ld rfl (cx.rq 16 rfl) (brow cx.S HN9.out) rfl Tryz.isAgg3) rfl rfl rfl rfl rfl) <|
   yc (@fun fl ax wx cx=>cx.ival (fun _=>trivial) (cx.wy rfl rfl rfl rfl (cx.u 2 rfl)) (ex_ixB rfl (cx.u 0 rfl) (cx.u 1 rfl) hkm) rfl rfl rfl rfl rfl) <|
   yc (@fun fl ax wx cx=>cx.ival (fun _=>trivial) (cx.wy rfl rfl rfl rfl (cx.u 1 rfl)) (exec_loadR 49 _ rfl gL (k * 76) (cx.u 0 rfl) (brow cx.S HVL.out) (its E (ini cb cl cf fuel (zs.take tk)) k).snap hLc _ Tryz.underlying49 rfl info_snap) rfl rfl rfl rfl rfl) <|
   yc (@fun fl ax wx cx=>cx.ival (fun _=>trivial) (cx.wy rfl rfl rfl rfl (cx.u 2 rfl)) (exec_neq rfl (cx.u 0 rfl) (cx.u 1 rfl) (by kernel_rfl) (snap_refl _ _ _ _)) rfl rfl rfl rfl rfl) <|
   yc (@fun fl ax wx cx=>cx.iv (fun _=>trivial) (ex_pkE rfl (cx.u 0 rfl) (cx.u 1 rfl)) rfl rfl rfl) <|
   yn) ?_
  intro a9 w9 f9
  obtain ⟨fl9,_,hb9⟩:=f9.s
  have g66:=f9.v 19 rfl rfl rfl
  rw [f9.frame rfl rfl]
  clear f9
  rw [show outs _ (fun d=>a9.tmps.getD d undef)=[(47,a9.tmps.getD 47 undef),(48,a9.tmps.getD 48 undef),(49,a9.tmps.getD 49 undef),(50,a9.tmps.getD 50 undef),(51,a9.tmps.getD 51 undef),(52,a9.tmps.getD 52 undef),(53,a9.tmps.getD 53 undef),(54,a9.tmps.getD 54 undef),(55,a9.tmps.getD 55 undef),(56,a9.tmps.getD 56 undef),(57,a9.tmps.getD 57 undef),(58,a9.tmps.getD 58 undef),(59,a9.tmps.getD 59 undef),(60,a9.tmps.getD 60 undef),(61,a9.tmps.getD 61 undef),(62,a9.tmps.getD 62 undef),(63,a9.tmps.getD 63 undef),(64,a9.tmps.getD 64 undef),(65,a9.tmps.getD 65 undef),(66,a9.tmps.getD 66 undef)] by kernel_rfl,g66]
  simp only [Act.put,putAll,List.setIfInBounds_toArray,List.set_cons_zero,List.set_cons_succ,Exit.then]
  generalize a9.tmps.getD 47 undef=y47
  generalize a9.tmps.getD 48 undef=y48
  generalize a9.tmps.getD 49 undef=y49
  generalize a9.tmps.getD 50 undef=y50
  generalize a9.tmps.getD 51 undef=y51
  generalize a9.tmps.getD 52 undef=y52
  generalize a9.tmps.getD 53 undef=y53
  generalize a9.tmps.getD 54 undef=y54
  generalize a9.tmps.getD 55 undef=y55
  generalize a9.tmps.getD 56 undef=y56
  generalize a9.tmps.getD 57 undef=y57
  generalize a9.tmps.getD 58 undef=y58
  generalize a9.tmps.getD 59 undef=y59
  generalize a9.tmps.getD 60 undef=y60
  generalize a9.tmps.getD 61 undef=y61
  generalize a9.tmps.getD 62 undef=y62
  generalize a9.tmps.getD 63 undef=y63
  generalize a9.tmps.getD 64 undef=y64
  generalize a9.tmps.getD 65 undef=y65
  clear g66
  refine wpIn_cond_false rfl ?_
  refine wpIn_skip ?_
  simp only [Exit.then]
  have HN9:=Lib.hid (brow hb9 HN9.out)
  have HLV:=Lib.hid (brow hb9 HLV.out)
  have hn:w9.cell? ⟨w6.heap.size,0,none⟩=some (.int .i64 (k:Int)):=by simp only [World.cell?,HN9.out];rfl
  refine in_region_seq (by decide) (fun _ _ h=>h) ?_
  intro K3 hK3
  go_wp2_with (with_reducible refine (halt_store 3 _ _ rfl ?_))
  refine ⟨?_,trivial⟩
  refine wpList_store_cell rfl 3 _ _ rfl w6.heap.size 0 (.int .i64 ((k:Int)+1)) rfl rfl rfl rfl 3 _ HN9.out info_intV (by simp) ?_
  intro w10 s10
  have FN:=Lib.hid (FIN.out w9 hb9 w10 s10)
  have hn:w10.cell? ⟨w6.heap.size,0,none⟩=some (.int .i64 ((k:Int)+1)):=by simp only [World.cell?,s10.row];rfl
  have hlv:w10.cell? ⟨W.heap.size+1,0,none⟩=some (.int .i64 lv):=by simp only [World.cell?,FN.out.2.2.leave];rfl
  refine hK3 _ _ ?_
  clear hK3 s10 hb9 FIN HN9 HLV H9A H9L HVA HVL HS hAc hLc
  by_cases hlk:(k:Int)+1=lv
  ·have eK:((k:Int)+1 == lv)=true:=by simpa using hlk
   refine in_region_seq (by decide) (fun _ _ h=>h) ?_
   intro K4 hK4
   go_wp2_with fail
   refine wpIn_cond_true rfl ?_
   refine wpIn_exit ?_
   simp only [Exit.then,Exit.inBlock]
   exact ⟨FN.out.1,FN.out.2.1,rfl,PL.out.trans hlk,FN.out.2.2⟩
  ·have eK:((k:Int)+1 == lv)=false:=by simpa using hlk
   refine in_region_seq (by decide) (fun _ _ h=>h) ?_
   intro K4 hK4
   go_wp2_with fail
   refine wpIn_cond_false rfl ?_
   refine wpIn_skip ?_
   simp only [Exit.then,Exit.inBlock]
   exact FN.out
 case done=>
  rintro D9 xs W9 hD ⟨m9,hm,rfl⟩ hC hK
  obtain rfl:m=m9:=Done.uniq hM hm
  have hn:W9.cell? ⟨w6.heap.size,0,none⟩=some (.int .i64 (m:Int)):=by
   have:=hC.n
   rw [snapsE_len] at this
   simp only [World.cell?,this];rfl
  have ha:W9.cell? ⟨gA,0,none⟩=some (.slice aA m pA):=by
   have:=hC.at_
   simp only [World.cell?,this];rfl
  have zD:W.heap.size+2<D9:=by omega
  have eQ:((m:Int) == (m:Int))=true:=by simp
  have HC:=Lib.hid hC
  have HKD:=Lib.hid hK
  clear hC hK hm hM SEQ A6 RA RL
  go_wp2_with fail
  refine (wakes_any _).mono ?_
  rintro e w10 ⟨rfl,b10⟩
  have r10:=brow b10 HC.out.res
  have k10:=brow b10 HKD.out
  have B10:=Lib.hid (HC.out.bel.trans (b10.mono HC.out.bel.size))
  have zW:=HC.out.bel.size
  clear b10
  go_wp2_with (with_reducible refine (halt_store 4 _ _ rfl ?_))
  refine ⟨?_,trivial⟩
  refine wpList_store_cell rfl 4 _ _ rfl (W.heap.size+1+1) 0 (.bool true) rfl rfl rfl rfl 4 _ r10 (by kernel_rfl) (by simp) ?_
  intro w11 s11
  have hne:D9≠W.heap.size+1+1:=fun e=>by omega
  have r11:=s11.row
  have k11:=(s11.other D9 hne).trans k10
  have B11:=Lib.hid (s11.below B10.out (by omega))
  clear s11 r10 k10
  go_wp2_with fail
  have t12:Trn [D9] w11 (w11.putObj D9 (.deferred none)):=⟨rfl,rfl,rfl,by simp [World.putObj],fun k _ hn=>World.putObj_heap_other (by simpa using hn)⟩
  have r12:=t12.row r11 (by simp;omega)
  refine ⟨by simp,.inl ⟨_,_,rfl,run_takeDeferred k11,_,res_c rfl rfl (load_boolE r12),rfl,B11.out.trans ⟨rfl,rfl,rfl,t12.size,fun k hk=>t12.block k (by have:=B11.out.size;omega) (by simp;omega)⟩⟩⟩
 case stop=>
  rintro D9 c9 pre W9 hD ⟨k,y1,y2,rfl⟩ ⟨rfl,hlk,hC⟩ hK
  have hn:W9.cell? ⟨w6.heap.size,0,none⟩=some (.int .i64 lv):=by
   have:=hC.n
   rw [hlk] at this
   simp only [World.cell?,this];rfl
  have ha:W9.cell? ⟨gA,0,none⟩=some (.slice aA m pA):=by
   have:=hC.at_
   simp only [World.cell?,this];rfl
  have hv:W9.cell? ⟨W.heap.size+1,0,none⟩=some (.int .i64 lv):=by
   have:=hC.leave
   simp only [World.cell?,this];rfl
  have zD:W.heap.size+2<D9:=by omega
  have eR:(lv == lv)=true:=by simp
  have HC:=Lib.hid hC
  have HKD:=Lib.hid hK
  clear hC hK hM SEQ A6 RA RL y1 y2 hlk
  refine wpIn_exit ?_
  simp only [Exit.inBlock]
  by_cases hq:lv=(m:Int)
  ·have eQ:(lv == (m:Int))=true:=by simpa using hq
   clear hq
   go_wp2_with fail
   refine (wakes_any _).mono ?_
   rintro e w10 ⟨rfl,b10⟩
   have r10:=brow b10 HC.out.res
   have k10:=brow b10 HKD.out
   have B10:=Lib.hid (HC.out.bel.trans (b10.mono HC.out.bel.size))
   have zW:=HC.out.bel.size
   clear b10
   go_wp2_with (with_reducible refine (halt_store 4 _ _ rfl ?_))
   refine ⟨?_,trivial⟩
   refine wpList_store_cell rfl 4 _ _ rfl (W.heap.size+1+1) 0 (.bool true) rfl rfl rfl rfl 4 _ r10 (by kernel_rfl) (by simp) ?_
   intro w11 s11
   have hne:D9≠W.heap.size+1+1:=fun e=>by omega
   have r11:=s11.row
   have k11:=(s11.other D9 hne).trans k10
   have B11:=Lib.hid (s11.below B10.out (by omega))
   clear s11 r10 k10
   go_wp2_with fail
   have t12:Trn [D9] w11 (w11.putObj D9 (.deferred none)):=⟨rfl,rfl,rfl,by simp [World.putObj],fun k _ hn=>World.putObj_heap_other (by simpa using hn)⟩
   have r12:=t12.row r11 (by simp;omega)
   refine ⟨by simp,.inl ⟨_,_,rfl,run_takeDeferred k11,_,res_c rfl rfl (load_boolE r12),rfl,B11.out.trans ⟨rfl,rfl,rfl,t12.size,fun k hk=>t12.block k (by have:=B11.out.size;omega) (by simp;omega)⟩⟩⟩
  ·have eQ:(lv == (m:Int))=false:=by simpa using hq
   clear hq
   go_wp2_with fail
   refine (wakes_any _).mono ?_
   rintro e w10 ⟨rfl,b10⟩
   have r10:=brow b10 HC.out.res
   have k10:=brow b10 HKD.out
   have B10:=Lib.hid (HC.out.bel.trans (b10.mono HC.out.bel.size))
   have zW:=HC.out.bel.size
   clear b10
   go_wp2_with (with_reducible refine (halt_store 4 _ _ rfl ?_))
   refine ⟨?_,trivial⟩
   refine wpList_store_cell rfl 4 _ _ rfl (W.heap.size+1+1) 0 (.bool true) rfl rfl rfl rfl 4 _ r10 (by kernel_rfl) (by simp) ?_
   intro w11 s11
   have hne:D9≠W.heap.size+1+1:=fun e=>by omega
   have r11:=s11.row
   have k11:=(s11.other D9 hne).trans k10
   have B11:=Lib.hid (s11.below B10.out (by omega))
   clear s11 r10 k10
   go_wp2_with fail
   have t12:Trn [D9] w11 (w11.putObj D9 (.deferred none)):=⟨rfl,rfl,rfl,by simp [World.putObj],fun k _ hn=>World.putObj_heap_other (by simpa using hn)⟩
   have r12:=t12.row r11 (by simp;omega)
   refine ⟨by simp,.inl ⟨_,_,rfl,run_takeDeferred k11,_,res_c rfl rfl (load_boolE r12),rfl,B11.out.trans ⟨rfl,rfl,rfl,t12.size,fun k hk=>t12.block k (by have:=B11.out.size;omega) (by simp;omega)⟩⟩⟩
section
variable (c:Int) (pa:Option Addr) (plen pcap:Nat) (x:Nat→In) (ca:Option Addr) (cl cc:Nat) (aa:Option Addr) (al ac:Nat) (fuel lv:Int) (W:World)
set_option maxHeartbeats 4000000 in
theorem each_law_bad (r:Int)(hr:¬ r=0)(h1:plen≤100)(h2:cl≤400)(h3:al≤400)(h4:¬ (2000<fuel∧fuel≤10000))
  (SN:∀ w,Below W.heap.size W w→Calls Tryz.prog 12 #[.agg #[.int .i64 c,.slice pa plen pcap],.slice ca cl cc,.slice aa al ac,.int .i64 fuel] w (SnapNo w r))
  (ST:∀ w,Below W.heap.size W w→Calls Tryz.prog 14 #[.agg #[.int .i64 c,.slice pa plen pcap],.slice ca cl cc,.slice aa al ac,.int .i64 fuel] w fun e w'=>e=.returned (.tuple #[.pointer none,.int .i64 r])∧Below w.heap.size w w'):
  Calls Tryz.prog 4 #[.agg #[.int .i64 c,.slice pa plen pcap],.slice ca cl cc,.slice aa al ac,.int .i64 fuel,.int .i64 lv] W fun e w'=>e=.returned (.bool true)∧Below W.heap.size W w':=by
 have GR:=Lib.hid (fun W=>great_no c pa plen pcap ca cl cc aa al ac fuel W h1 h2 h3 h4)
 have EB:=Lib.hid (fun w (h:Below W.heap.size W w)=>each_bad r hr c pa plen pcap ca cl cc aa al ac fuel w (fun w2 b=>ST w2 (h.trans (b.mono h.size))))
 have SNP:=Lib.hid SN
 have er:(r != 0)=true:=by simpa using hr
 have HR0:=Lib.hid hr
 have hmf:∀ (fn:Fn) (first cap:Array Value) (w:World),(Instr.makeFunc fn first cap).run Tryz.prog w=.ok (.func fn first cap) w:=fun _ _ _ _=>rfl
 have hzo:∃ i,Tryz.prog.info? 33=some i:=by
  cases hi:Tryz.prog.info? 33 with
  | some i=>exact ⟨i,rfl⟩
  | none=>
   have:(Tryz.prog.info? 33).isSome=true:=by kernel_rfl
   rw [hi] at this;cases this
 clear h1 h2 h3 h4 ST SN hr
 refine (callsIn_wide (n:=4)).1 (callsIn_of_wp_marks Tryz.func4 rfl trivial ?_ rfl)
 simp only [Tryz.ntmps4,List.size_toArray,List.length_cons,List.length_nil,Nat.reduceAdd,Nat.reduceSub,Array.replicate_succ,Array.replicate_zero,List.push_toArray,List.append_toArray,List.nil_append,List.cons_append]
 refine (wpIn_wide (n:=4)).2 ?_
 go_wp2_with fail
 refine (GR.out _).mono ?_
 rintro e w1 ⟨rfl,b1⟩
 have e0:=heap_last W (.cells #[.int .i64 c,.slice pa plen pcap] 24) _ rfl
 have e1:=heap_last (W.alloc (.cells #[.int .i64 c,.slice pa plen pcap] 24)) (.cells #[.int .i64 lv] 3) (W.heap.size+1) (by simp)
 have e2:=heap_last ((W.alloc (.cells #[.int .i64 c,.slice pa plen pcap] 24)).alloc (.cells #[.int .i64 lv] 3)) (.cells #[.bool false] 4) (W.heap.size+2) (by simp)
 have n1:=below_new (Below.refl _ (W.alloc (.cells #[.int .i64 c,.slice pa plen pcap] 24))) (.cells #[.int .i64 lv] 3)
 have n2:=below_new (Below.refl _ ((W.alloc (.cells #[.int .i64 c,.slice pa plen pcap] 24)).alloc (.cells #[.int .i64 lv] 3))) (.cells #[.bool false] 4)
 have q0:=brow b1 (brow n2 (brow n1 e0))
 have q2:=brow b1 e2
 have B1:=Lib.hid (below_call (below_new (below_new (below_new (Below.refl _ W) _) _) _) b1)
 have p0:w1.cell? ⟨W.heap.size,0,none⟩=some (.int .i64 c):=by simp only [World.cell?,q0];rfl
 have p1:w1.cell? ⟨W.heap.size,1,none⟩=some (.slice pa plen pcap):=by simp only [World.cell?,q0];rfl
 have Q0:=Lib.hid q0
 have Q2:=Lib.hid q2
 clear b1 GR q0 q2 e0 e1 e2 n1 n2
 go_wp2_with fail
 refine (SNP.out w1 B1.out).mono ?_
 rintro e w2 ⟨rfl,b2⟩
 have B2:=Lib.hid (B1.out.trans (b2.mono B1.out.size))
 have Q0:=Lib.hid (brow b2 Q0.out)
 have Q2:=Lib.hid (brow b2 Q2.out)
 clear b2 B1 SNP p0 p1
 have zq:W.heap.size+2<w2.heap.size:=(Array.getElem?_eq_some_iff.1 Q2.out).1
 rw [show outV ⟨0,0,[],[],0⟩ none 0 none 0=.agg #[.int .i8 0,.int .u64 0,.slice none 0 0,.slice none 0 0,.int .i64 0] from rfl]
 go_wp2_with (with_reducible refine (halt_store 37 _ _ rfl ?_))
 refine ⟨?_,trivial⟩
 have x0:=heap_last w2 (.cells #[.slice none 0 0] 37) _ rfl
 have x1:=heap_last (w2.alloc (.cells #[.slice none 0 0] 37)) (.cells #[.slice none 0 0] 40) (w2.heap.size+1) (by simp)
 have y2:=heap_last ((w2.alloc (.cells #[.slice none 0 0] 37)).alloc (.cells #[.slice none 0 0] 40)) (.cells #[.int .i8 0,.int .u64 0,.slice none 0 0,.slice none 0 0,.int .i64 0] 33) (w2.heap.size+1+1) (by simp)
 have n1:=below_new (Below.refl _ (w2.alloc (.cells #[.slice none 0 0] 37))) (.cells #[.slice none 0 0] 40)
 have n2:=below_new (Below.refl _ ((w2.alloc (.cells #[.slice none 0 0] 37)).alloc (.cells #[.slice none 0 0] 40))) (.cells #[.int .i8 0,.int .u64 0,.slice none 0 0,.slice none 0 0,.int .i64 0] 33)
 have y0:=brow n2 (brow n1 x0)
 have y1:=brow n2 x1
 have ab:=below_new (below_new (below_new (Below.refl _ w2) (.cells #[.slice none 0 0] 37)) (.cells #[.slice none 0 0] 40)) (.cells #[.int .i8 0,.int .u64 0,.slice none 0 0,.slice none 0 0,.int .i64 0] 33)
 clear x0 x1 n1 n2
 generalize ((w2.alloc (.cells #[.slice none 0 0] 37)).alloc (.cells #[.slice none 0 0] 40)).alloc (.cells #[.int .i8 0,.int .u64 0,.slice none 0 0,.slice none 0 0,.int .i64 0] 33)=wA at *
 refine wpList_store_cell rfl 37 _ _ rfl w2.heap.size 0 (.slice none 0 0) rfl rfl rfl rfl 37 _ y0 (by kernel_rfl) (by simp) ?_
 intro w3 s3
 have y1:=(s3.other (w2.heap.size+1) (by omega)).trans y1
 have y2:=(s3.other (w2.heap.size+1+1) (by omega)).trans y2
 have r3:=s3.row
 have b3:=s3.below ab (Nat.le_refl _)
 clear s3 y0 ab
 refine wpList_store_cell rfl 40 _ _ rfl (w2.heap.size+1) 0 (.slice none 0 0) rfl rfl rfl rfl 40 _ y1 (by kernel_rfl) (by simp) ?_
 intro w4 s4
 have y2:=(s4.other (w2.heap.size+1+1) (by omega)).trans y2
 have r3:=(s4.other w2.heap.size (by omega)).trans r3
 have r4:=s4.row
 have b4:=s4.below b3 (by omega)
 clear s4 y1 b3
 refine wpList_store_is rfl 33 _ _ rfl (w2.heap.size+1+1) #[.int .i8 0,.int .u64 0,.slice none 0 0,.slice none 0 0,.int .i64 0] rfl rfl 33 _ y2 info_out5 rfl (by simp [Value.oneCell']) ?_
 intro w5 s5
 have R3:=Lib.hid ((s5.other w2.heap.size (by omega)).trans r3)
 have R4:=Lib.hid ((s5.other (w2.heap.size+1) (by omega)).trans r4)
 have b5:=s5.below b4 (by omega)
 clear s5 y2 b4 r3 r4
 have B5:=Lib.hid (B2.out.trans (b5.mono B2.out.size))
 have Q0:=Lib.hid (brow b5 Q0.out)
 have Q2:=Lib.hid (brow b5 Q2.out)
 have z2:=B2.out.size
 clear b5 B2
 generalize w2.heap.size=gA at *
 simp only [Act.put]
 go_wp2_with (with_reducible refine (halt_store 37 _ _ rfl ?_))
 refine ⟨?_,trivial⟩
 refine wpList_store_cell rfl 37 _ _ rfl gA 0 (.slice none 0 0) rfl rfl rfl rfl 37 _ R3.out (by kernel_rfl) (by simp) ?_
 intro w5b s5
 have R3:=Lib.hid s5.row
 have hq0:W.heap.size<w5.heap.size:=(Array.getElem?_eq_some_iff.1 Q0.out).1
 have hq2:W.heap.size+2<w5.heap.size:=(Array.getElem?_eq_some_iff.1 Q2.out).1
 have Q0:=Lib.hid ((s5.other W.heap.size (by omega)).trans Q0.out)
 have Q2:=Lib.hid ((s5.other (W.heap.size+2) (by omega)).trans Q2.out)
 have B5:=Lib.hid (s5.below B5.out (by omega))
 have p0:w5b.cell? ⟨W.heap.size,0,none⟩=some (.int .i64 c):=by simp only [World.cell?,Q0.out];rfl
 have p1:w5b.cell? ⟨W.heap.size,1,none⟩=some (.slice pa plen pcap):=by simp only [World.cell?,Q0.out];rfl
 clear s5 R4 hq0 hq2
 simp only [Act.put]
 go_wp2_with fail
 refine (EB.out w5b B5.out).mono ?_
 rintro e w6 ⟨eB,gB,rfl,heB,re,b6⟩
 have Q2:=Lib.hid (brow b6 Q2.out)
 have R3:=Lib.hid (brow b6 R3.out)
 have B6:=Lib.hid (B5.out.trans (b6.mono B5.out.size))
 have SEQ:=Lib.hid (each_none r HR0.out eB gB 3 w6 re (fun _ _ _=>False))
 clear b6 B5 EB re p0 p1 Q0
 unfold eachV
 have hbf:=seq_not_nilE eB gB
 have z6:=B6.out.size
 have zl:W.heap.size+2<w6.heap.size:=(Array.getElem?_eq_some_iff.1 Q2.out).1
 have zA:gA<w6.heap.size:=(Array.getElem?_eq_some_iff.1 R3.out).1
 have a6:=below_new (Below.refl w6.heap.size w6) (.cells #[.int .i64 0] 3)
 have s0:=heap_last w6 (.cells #[.int .i64 0] 3) _ rfl
 go_wp2_with fail
 have CW0:EN W gA w6.heap.size [] (w6.alloc (.cells #[.int .i64 0] 3)):=⟨B6.out.trans (a6.mono B6.out.size),brow a6 Q2.out,brow a6 R3.out,s0⟩
 have A6:=Lib.hid a6
 clear s0 a6 Q2 R3 B6
 generalize w6.alloc (.cells #[.int .i64 0] 3)=w7 at *
 have z67:=A6.out.size
 have zs7:w6.heap.size<w7.heap.size:=(Array.getElem?_eq_some_iff.1 CW0.2.2.2).1
 refine (wpIn_wide (n:=4)).1 ?_
 have AB:∀ γ,w7.heap.size≤γ→AbG τM w6.heap.size γ (EN W gA w6.heap.size):=fun γ hγ=>EN.ab (by omega) (by omega)
 refine range_H (by decide) (gf:=22) (pa:=#[]) (lb:=#[.pointer (some ⟨eB,0,none⟩),.pointer (some ⟨gB,0,none⟩)]) rfl (enters_of Tryz.func22 (by kernel_rfl) rfl) SEQ.out A6.out (fun _=>rfl)
  (EN W gA w6.heap.size) (fun _ _ _=>False)
  ((AB _ (Nat.le_refl _)).own (Nat.le_refl _)) (fun _ _ _ _ _ h _ _=>h) (fun _ _ _ _ _ h _ _=>h)
  AB (fun _ _ _ _ _ _ h _=>h) (fun _ _ _ _ h _ _=>h) (fun _ _ _ _ h _ _=>h) CW0 (fun _ _ _ _=>False)
  (fun _ _ _ _ _ _ _ h _ _=>h) ?assign ?body ?done ?stop
 case stop=>
  rintro D9 c9 pre W9 _ h _ _
  exact h.elim
 case assign=>
  rintro l pre x W9 K _ h _
  exact h.elim
 case body=>
  rintro l pre x a' W9 h
  exact h.elim
 case done=>
  rintro D9 xs W9 hD _ hC hK
  have hn:W9.cell? ⟨w6.heap.size,0,none⟩=some (.int .i64 0):=by
   have:=hC.2.2.2
   simp only [World.cell?,this];rfl
  have ha:W9.cell? ⟨gA,0,none⟩=some (.slice none 0 0):=by
   have:=hC.2.2.1
   simp only [World.cell?,this];rfl
  have zD:W.heap.size+2<D9:=by omega
  have HC:=Lib.hid hC
  have HKD:=Lib.hid hK
  clear hC hK SEQ A6
  go_wp2_with fail
  refine (wakes_any _).mono ?_
  rintro e w10 ⟨rfl,b10⟩
  have r10:=brow b10 HC.out.2.1
  have k10:=brow b10 HKD.out
  have B10:=Lib.hid (HC.out.1.trans (b10.mono HC.out.1.size))
  have zW:=HC.out.1.size
  clear b10
  go_wp2_with (with_reducible refine (halt_store 4 _ _ rfl ?_))
  refine ⟨?_,trivial⟩
  refine wpList_store_cell rfl 4 _ _ rfl (W.heap.size+1+1) 0 (.bool true) rfl rfl rfl rfl 4 _ r10 (by kernel_rfl) (by simp) ?_
  intro w11 s11
  have hne:D9≠W.heap.size+1+1:=fun e=>by omega
  have r11:=s11.row
  have k11:=(s11.other D9 hne).trans k10
  have B11:=Lib.hid (s11.below B10.out (by omega))
  clear s11 r10 k10
  go_wp2_with fail
  have t12:Trn [D9] w11 (w11.putObj D9 (.deferred none)):=⟨rfl,rfl,rfl,by simp [World.putObj],fun k _ hn=>World.putObj_heap_other (by simpa using hn)⟩
  have r12:=t12.row r11 (by simp;omega)
  refine ⟨by simp,.inl ⟨_,_,rfl,run_takeDeferred k11,_,res_c rfl rfl (load_boolE r12),rfl,B11.out.trans ⟨rfl,rfl,rfl,t12.size,fun k hk=>t12.block k (by have:=B11.out.size;omega) (by simp;omega)⟩⟩⟩
set_option maxHeartbeats 4000000 in
theorem each_law_great (h:¬ (plen≤100∧cl≤400∧al≤400∧¬ (2000<fuel∧fuel≤10000))):
  Calls Tryz.prog 4 #[.agg #[.int .i64 c,.slice pa plen pcap],.slice ca cl cc,.slice aa al ac,.int .i64 fuel,.int .i64 lv] W fun e w'=>e=.returned (.bool true)∧Below W.heap.size W w':=by
 have GR:=Lib.hid (fun W=>great_yes c pa plen pcap ca cl cc aa al ac fuel W h)
 clear h
 go_enter Tryz.func4,Tryz.ntmps4
 go_wp2_with fail
 refine (GR.out _).mono ?_
 rintro e w1 ⟨rfl,b1⟩
 have e0:=heap_last W (.cells #[.int .i64 c,.slice pa plen pcap] 24) _ rfl
 have e1:=heap_last (W.alloc (.cells #[.int .i64 c,.slice pa plen pcap] 24)) (.cells #[.int .i64 lv] 3) (W.heap.size+1) (by simp)
 have e2:=heap_last ((W.alloc (.cells #[.int .i64 c,.slice pa plen pcap] 24)).alloc (.cells #[.int .i64 lv] 3)) (.cells #[.bool false] 4) (W.heap.size+2) (by simp)
 have n1:=below_new (Below.refl _ (W.alloc (.cells #[.int .i64 c,.slice pa plen pcap] 24))) (.cells #[.int .i64 lv] 3)
 have n2:=below_new (Below.refl _ ((W.alloc (.cells #[.int .i64 c,.slice pa plen pcap] 24)).alloc (.cells #[.int .i64 lv] 3))) (.cells #[.bool false] 4)
 have q0:=brow b1 (brow n2 (brow n1 e0))
 have q2:=brow b1 e2
 have B1:=Lib.hid (below_call (below_new (below_new (below_new (Below.refl _ W) _) _) _) b1)
 have p0:w1.cell? ⟨W.heap.size,0,none⟩=some (.int .i64 c):=by simp only [World.cell?,q0];rfl
 have p1:w1.cell? ⟨W.heap.size,1,none⟩=some (.slice pa plen pcap):=by simp only [World.cell?,q0];rfl
 have Q0:=Lib.hid q0
 have Q2:=Lib.hid q2
 clear b1 GR q0 q2 e0 e1 e2 n1 n2
 have z1:=B1.out.size
 clear Q0
 go_wp2_with fail
 refine (wakes_any _).mono ?_
 rintro e w4 ⟨rfl,b4⟩
 have Q4:=brow b4 Q2.out
 have B4:=Lib.hid (below_call B1.out b4)
 clear b4 B1 Q2
 go_wp2_with (with_reducible refine (halt_store 4 _ _ rfl ?_))
 refine ⟨?_,trivial⟩
 refine wpList_store_cell rfl 4 _ _ rfl (W.heap.size+1+1) 0 (.bool true) rfl rfl rfl rfl 4 _ Q4 (by kernel_rfl) (by simp) ?_
 intro w5 s5
 have r5:=s5.row
 have B5:=Lib.hid (s5.below B4.out (by omega))
 clear s5 Q4
 go_wp2_with fail
 exact bodyPost_ret (v:=.bool true) (res_c rfl rfl (load_boolE r5)) rfl ⟨rfl,B5.out⟩
end
theorem each_law (c:Int)(pa:Option Addr)(plen pcap:Nat)(x:Nat→In)(ca:Option Addr)(cl cc:Nat)(cz:List Int)(aa:Option Addr)(al ac:Nat)(az:List Int)(fuel lv:Int)(W:World)(_:(Lit.int .i64 c).wf=true)(hI:Insts W pa plen pcap x)(rc:IsRow .u8 W ca cl cc cz)
  (hz:∀ z∈az,0≤z∧z<18446744073709551616) (hA:WordsAt W aa al ac az) (_:(Lit.int .i64 fuel).wf=true) (_:(Lit.int .i64 lv).wf=true):
  Calls Tryz.prog 4 #[.agg #[.int .i64 c,.slice pa plen pcap],.slice ca cl cc,.slice aa al ac,.int .i64 fuel,.int .i64 lv] W fun e w'=>e=.returned (.bool true)∧Below W.heap.size W w':=by
 by_cases hg:plen≤100∧cl≤400∧al≤400∧¬ (2000<fuel∧fuel≤10000)
 case neg=>exact each_law_great c pa plen pcap ca cl cc aa al ac fuel lv W hg
 obtain ⟨g1,g2,g3,g4⟩:=hg
 by_cases hchk:(checkI c plen x).2=0
 case neg=>exact each_law_bad c pa plen pcap ca cl cc aa al ac fuel lv W _ hchk g1 g2 g3 g4 (fun w h=>r6_snaps_chk _ c pa plen pcap x ca cl cc aa al ac fuel w (hI.below h) rfl hchk) (fun w h=>start_chk c pa plen pcap x ca cl cc aa al ac fuel w (hI.below h) hchk)
 by_cases ha:(cl:Int)=c∧0≤fuel∧fuel≤10000
 case neg=>exact each_law_bad c pa plen pcap ca cl cc aa al ac fuel lv W 2 (by decide) g1 g2 g3 g4 (fun w h=>r6_snaps_arg c pa plen pcap x ca cl cc aa al ac fuel w (hI.below h) hchk ha) (fun w h=>start_arg c pa plen pcap x ca cl cc aa al ac fuel w (hI.below h) hchk ha)
 obtain ⟨h1,_,_⟩:=ends_facts hchk
 obtain ⟨b,o,rfl,_⟩:=hI.here (by omega)
 exact each_law_ok c b o plen pcap x ca cl cc _ aa al ac az fuel lv W hI (src_row rc) hA hz hchk ha.1 ha.2.1 ha.2.2 g3 g4
end Go.Proofs.YtigliofiojkhcaaGreat.Mdl
