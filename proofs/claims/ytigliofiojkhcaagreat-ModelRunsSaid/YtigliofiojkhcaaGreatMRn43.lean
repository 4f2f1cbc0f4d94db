import Derived.Test.YtigliofiojkhcaaGreatMRn42
import Derived.Test.YtigliofiojkhcaaGreatMRn29
import Derived.Test.YtigliofiojkhcaaGreatMRn37
import Derived.Test.YtigliofiojkhcaaGreatMRn23
set_option linter.unusedVariables false
set_option linter.unusedSimpArgs false
set_option linter.unnecessarySimpa false
namespace Go.Proofs.YtigliofiojkhcaaGreat.Mdl
open Go.RowKit Go.Maps Ins Trc
set_option linter.unusedVariables false
set_option linter.unusedSimpArgs false
set_option maxRecDepth 100000
set_option maxHeartbeats 4000000 in
theorem r6_run (pv:Array Value) (hpv:∃ c pa pl pc,pv=#[.int .i64 c,.slice pa pl pc]) (cv av:Value) (hcv:∃ a l k,cv=.slice a l k) (hav:∃ a l k,av=.slice a l k) (fuel:Int) (W:World) (Q:Out → Option Addr → Nat → Option Addr → Nat → Int → World → Prop)
    (hQ:∀ o ca cc ta tc r w w' G,Q o ca cc ta tc r w → Trn G w w' → (∀ j ∈ G,∃ c ty fr,w.heap[j]?=some (.cells c ty fr) ∧ ty=33) → Q o ca cc ta tc r w')
    (SN:∀ w,Below W.heap.size W w → Calls Tryz.prog 12 #[.agg pv,cv,av,.int .i64 fuel] w fun e w'=>∃ (atv lv:Value) (o:Out) (ca:Option Addr) (cc:Nat) (ta:Option Addr) (tc:Nat) (r:Int),e=.returned (.tuple #[atv,lv,outV o ca cc ta tc,.int .i64 r]) ∧ Below w.heap.size w w' ∧ Q o ca cc ta tc r w'):
    Calls Tryz.prog 8 #[.agg pv,cv,av,.int .i64 fuel] W fun e w'=>∃ (o:Out) (ca:Option Addr) (cc:Nat) (ta:Option Addr) (tc:Nat) (r:Int),e=.returned (.tuple #[outV o ca cc ta tc,.int .i64 r]) ∧ Below W.heap.size W w' ∧ Q o ca cc ta tc r w':=by
  obtain ⟨c,pa,pl,pc,rfl⟩:=hpv
  obtain ⟨a1,l1,k1,rfl⟩:=hcv
  obtain ⟨a2,l2,k2,rfl⟩:=hav
  have SNH:=Lib.hid SN
  have HQ:=Lib.hid hQ
  clear SN hQ
  have bx0:=below_new (below_new (Below.refl W.heap.size W) (.cells #[.int .i64 c,.slice pa pl pc] 24)) (.cells #[.int .i8 0,.int .u64 0,.slice none 0 0,.slice none 0 0,.int .i64 0] 33)
  have rz0:=heap_last (W.alloc (.cells #[.int .i64 c,.slice pa pl pc] 24)) (.cells #[.int .i8 0,.int .u64 0,.slice none 0 0,.slice none 0 0,.int .i64 0] 33) (W.heap.size + 1) (by simp)
  go_enter Tryz.func8,Tryz.ntmps8
  go_wp2_with fail
  generalize (W.alloc (.cells #[.int .i64 c,.slice pa pl pc] 24)).alloc (.cells #[.int .i8 0,.int .u64 0,.slice none 0 0,.slice none 0 0,.int .i64 0] 33)=w0 at *
  refine (SNH.out _ bx0).mono ?_
  rintro e w1 ⟨atv,lv,o,ca,cc,ta,tc,r,rfl,b1,q1⟩
  have rz1:=Lib.hid (brow b1 rz0)
  have bx1:=Lib.hid (bx0.trans (b1.mono bx0.size))
  have Q1:=Lib.hid q1
  clear b1 rz0 bx0 q1 SNH
  unfold outV
  go_wp2_with (with_reducible refine (halt_store 33 _ _ rfl ?_))
  refine ⟨?_,trivial⟩
  refine wpList_store_is rfl 33 _ _ rfl w1.heap.size #[.int .i8 o.kind,.int .u64 o.r0,.slice ca o.ctx.length cc,.slice ta o.tr.length tc,.int .i64 o.left] rfl rfl 33 _ (heap_last _ _ _ rfl) info_out5 rfl (by simp [Value.oneCell']) ?_
  intro w2 s2
  have bn:=below_new (Below.refl w1.heap.size w1) (.cells #[.int .i8 0,.int .u64 0,.slice none 0 0,.slice none 0 0,.int .i64 0] 33)
  have b2:=s2.below bn (Nat.le_refl _)
  have ROW:=Lib.hid s2.row
  have rz2:=Lib.hid (brow b2 rz1.out)
  have bx2:=Lib.hid (bx1.out.trans (b2.mono bx1.out.size))
  have Q2:=Lib.hid (HQ.out _ _ _ _ _ _ _ _ [] Q1.out (Trn.of_below b2) (fun j hj=>absurd hj (by simp)))
  have hne:Hid (w1.heap.size ≠ W.heap.size + 1):=Lib.hid (by have:=(Array.getElem?_eq_some_iff.1 rz1.out).1;omega)
  clear s2 bn b2 rz1 bx1 Q1
  generalize w1.heap.size=g2 at *
  go_wp2_with (with_reducible refine (halt_load 33 _ rfl ?_))
  refine ⟨?_,trivial⟩
  refine wpList_load_row rfl 33 _ rfl g2 rfl _ _ _ _ ROW.out Tryz.underlying33 rfl info_out5 ?_
  go_wp2_with (with_reducible refine (halt_store 33 _ _ rfl ?_))
  refine ⟨?_,trivial⟩
  refine wpList_store_is rfl 33 _ _ rfl (W.heap.size + 1) #[.int .i8 o.kind,.int .u64 o.r0,.slice ca o.ctx.length cc,.slice ta o.tr.length tc,.int .i64 o.left] rfl rfl 33 _ rz2.out info_out5 rfl (by simp [Value.oneCell']) ?_
  intro w3 s3
  have ROW3:=Lib.hid s3.row
  have b3:=Lib.hid (s3.below bx2.out (by omega))
  have ST:=Lib.hid s3
  clear s3
  go_wp2_with fail
  refine bodyPost_ret (res_ct rfl rfl (load_row _ ROW3.out Tryz.underlying33 rfl (by kernel_rfl)) rfl) rfl ⟨o,ca,cc,ta,tc,r,rfl,b3.out,HQ.out _ _ _ _ _ _ _ _ _ Q2.out (stored_trn ST.out) (fun j hj=>?_)⟩
  rw [List.mem_singleton] at hj;subst hj
  exact ⟨_,_,_,rz2.out,rfl⟩
def RunIs6 (W:World) (b o plen pcap:Nat) (x:Nat → In) (cl:Nat) (cf:Nat → Int) (fuel:Int) (zs:List Int) (e:Ending) (w':World):Prop:=
  ∃ (m:Nat) (ca:Option Addr) (cc:Nat) (ta:Option Addr) (tc:Nat),Done (env6 b o plen pcap x) (ini 0 cl cf fuel zs) m ∧ e=.returned (.tuple #[outV (its (env6 b o plen pcap x) (ini 0 cl cf fuel zs) m).out ca cc ta tc,.int .i64 0]) ∧ OutAt w' (its (env6 b o plen pcap x) (ini 0 cl cf fuel zs) m).out ca cc ta tc ∧ Below W.heap.size W w'
theorem r6_run_ok (c:Int) (b o plen pcap:Nat) (x:Nat → In) (ca:Option Addr) (cl cc:Nat) (cf:Nat → Int) (aa:Option Addr) (al ac:Nat) (zs:List Int) (fuel:Int) (W:World) (hI:Insts W (some ⟨b,o,none⟩) plen pcap x) (hS:Src W ca cl cc cf) (hA:WordsAt W aa al ac zs)
    (hchk:(checkI c plen x).2=0) (hlen:(cl:Int)=c) (f0:0 ≤ fuel) (f1:fuel ≤ 10000) (hz:∀ z ∈ zs,0 ≤ z ∧ z < 18446744073709551616):
    Calls Tryz.prog 8 #[.agg #[.int .i64 c,.slice (some ⟨b,o,none⟩) plen pcap],.slice ca cl cc,.slice aa al ac,.int .i64 fuel] W (RunIs6 W b o plen pcap x cl cf fuel zs):=by
  refine (r6_run _ ⟨_,_,_,_,rfl⟩ _ _ ⟨_,_,_,rfl⟩ ⟨_,_,_,rfl⟩ fuel W (fun o' ca cc ta tc r w=>r=0 ∧ ∃ m β,Done (env6 b o plen pcap x) (ini 0 cl cf fuel zs) m ∧ o'=(its (env6 b o plen pcap x) (ini 0 cl cf fuel zs) m).out ∧ OutO β w (its (env6 b o plen pcap x) (ini 0 cl cf fuel zs) m) ca cc ta tc) ?_ ?_).mono ?_
  · rintro o' ca cc ta tc r w w' G ⟨hr,m,β,h1,h2,h3⟩ t hG
    exact ⟨hr,m,β,h1,h2,h3.trn t hG⟩
  · intro w hb
    refine (r6_snaps c b o plen pcap x ca cl cc cf aa al ac zs fuel w (hI.below hb) (hS.below hb) (hA.below hb) hchk hlen f0 f1 hz).mono ?_
    rintro e w' ⟨m,atv,lv,ca',cc',ta',tc',hd,rfl,o1,o2,o3,b3⟩
    exact ⟨_,_,_,_,_,_,_,_,rfl,b3,rfl,m,_,hd,rfl,o3⟩
  · rintro e w' ⟨o',ca',cc',ta',tc',r,rfl,b3,rfl,m,β,hd,rfl,o3⟩
    exact ⟨m,ca',cc',ta',tc',hd,rfl,o3.at_,b3⟩
theorem outAt_nil (w:World):OutAt w ⟨0,0,[],[],0⟩ none 0 none 0:=⟨BytesAt.nil w,⟨rfl,Nat.le_refl _,by omega,fun h=>absurd h (by decide),fun _=>rfl⟩⟩
theorem r6_run_no (pv:Array Value) (hpv:∃ c pa pl pc,pv=#[.int .i64 c,.slice pa pl pc]) (cv av:Value) (hcv:∃ a l k,cv=.slice a l k) (hav:∃ a l k,av=.slice a l k) (fuel r:Int) (W:World)
    (SN:∀ w,Below W.heap.size W w → Calls Tryz.prog 12 #[.agg pv,cv,av,.int .i64 fuel] w (SnapNo w r)):
    Calls Tryz.prog 8 #[.agg pv,cv,av,.int .i64 fuel] W fun e w'=>e=.returned (.tuple #[outV ⟨0,0,[],[],0⟩ none 0 none 0,.int .i64 r]) ∧ Below W.heap.size W w':=by
  refine (r6_run pv hpv cv av hcv hav fuel W (fun o' ca cc ta tc r' w=>r'=r ∧ o'=⟨0,0,[],[],0⟩ ∧ ca=none ∧ cc=0 ∧ ta=none ∧ tc=0) ?_ ?_).mono ?_
  · exact fun _ _ _ _ _ _ _ _ _ h _ _=>h
  · intro w hb
    refine (SN w hb).mono ?_
    rintro e w' ⟨rfl,b3⟩
    exact ⟨_,_,_,_,_,_,_,_,rfl,b3,rfl,rfl,rfl,rfl,rfl,rfl⟩
  · rintro e w' ⟨o',ca',cc',ta',tc',r',rfl,b3,rfl,rfl,rfl,rfl,rfl,rfl⟩
    exact ⟨rfl,b3⟩
end Go.Proofs.YtigliofiojkhcaaGreat.Mdl
namespace Go.Proofs.YtigliofiojkhcaaGreat.Mdl
open Go.RowKit Go.Maps Ins Trc
set_option linter.unusedVariables false
set_option linter.unusedSimpArgs false
set_option maxRecDepth 100000
theorem done_goes {E:Env} {D:Pl} {m k:Nat} (h:Done E D m) (hk:k < m):Goes E D k:=by
  rcases h with ⟨h,_⟩ | ⟨q,rfl,h,_⟩
  · exact fun j hj=>h j (by omega)
  · exact fun j hj=>h j (by omega)
theorem own_ints {w:World} {B m:Nat} {v:Value} {zs:List Int} (h:w.ownsRow B 3 1 v m (zs.map (.int .i64))):∃ a cap,v=.slice a m cap ∧ m ≤ cap ∧ ∀ k z,k < m → zs[k]?=some z → ∃ gA,a=some ⟨gA,0,none⟩ ∧ w.cell? ⟨gA,k,none⟩=some (.int .i64 z):=by
  rcases h.2 with ⟨h1,h2⟩ | ⟨g,cap,cur,e1,e2,e3,e4,e5,e6,e7⟩
  · subst h2
    exact ⟨none,0,h1,Nat.le_refl _,fun k z hk=>absurd hk (Nat.not_lt_zero k)⟩
  · refine ⟨_,cap,e1,e4,fun k z hk hz=>⟨g,rfl,?_⟩⟩
    have:(zs.map (Value.int .i64))[k]?=some (.int .i64 z):=by rw [List.getElem?_map,hz];rfl
    rw [← e7,List.getElem?_take_of_lt (by omega),Array.getElem?_toList] at this
    simp only [World.cell?,e3]
    exact this
theorem ats_get (E:Env) (D:Pl) {m k:Nat} (h:k < m):(ats E D m)[k]?=some (its E D k).at_:=by
  unfold ats
  rw [List.getElem?_map,List.getElem?_range h];rfl
def VisIs6 (W:World) (b o plen pcap:Nat) (x:Nat → In) (cl:Nat) (cf:Nat → Int) (fuel:Int) (zs:List Int) (e:Ending) (w':World):Prop:=
  ∃ (m V:Nat),Done (env6 b o plen pcap x) (ini 0 cl cf fuel zs) m ∧ e=.returned (.slice (some ⟨V,0,none⟩) plen plen) ∧ w'.rowIs V 3 plen (fun i=>.int .i64 (cntP (ats (env6 b o plen pcap x) (ini 0 cl cf fuel zs) m) i)) ∧ Below W.heap.size W w'
set_option maxHeartbeats 8000000 in
theorem r6_visits_ok (c:Int) (b o plen pcap:Nat) (x:Nat → In) (ca:Option Addr) (cl cc:Nat) (cf:Nat → Int) (aa:Option Addr) (al ac:Nat) (zs:List Int) (fuel:Int) (W:World) (hI:Insts W (some ⟨b,o,none⟩) plen pcap x) (hS:Src W ca cl cc cf) (hA:WordsAt W aa al ac zs)
    (hchk:(checkI c plen x).2=0) (hlen:(cl:Int)=c) (f0:0 ≤ fuel) (f1:fuel ≤ 10000) (hz:∀ z ∈ zs,0 ≤ z ∧ z < 18446744073709551616):
    Calls Tryz.prog 10 #[.agg #[.int .i64 c,.slice (some ⟨b,o,none⟩) plen pcap],.slice ca cl cc,.slice aa al ac,.int .i64 fuel] W (VisIs6 W b o plen pcap x cl cf fuel zs):=by
  obtain ⟨h1,h64,_⟩:=ends_facts hchk
  have hF:Fine (env6 b o plen pcap x):=fine_env hI hchk rfl rfl hI.le
  have HR:=ini_runs (env6 b o plen pcap x) 0 cl cf fuel zs h1 f0 f1
  have SN:=Lib.hid (fun w (hb:Below W.heap.size W w)=>r6_snaps c b o plen pcap x ca cl cc cf aa al ac zs fuel w (hI.below hb) (hS.below hb) (hA.below hb) hchk hlen f0 f1 hz)
  have bx0:=below_new (Below.refl W.heap.size W) (.cells #[.int .i64 c,.slice (some ⟨b,o,none⟩) plen pcap] 24)
  have rz0:=heap_last W (.cells #[.int .i64 c,.slice (some ⟨b,o,none⟩) plen pcap] 24) _ rfl
  have hcap:=hI.le
  have HF:=Lib.hid hF
  have HRR:=Lib.hid HR
  clear hI hS hA hchk hlen hz hF HR
  go_enter Tryz.func10,Tryz.ntmps10
  go_wp2_with fail
  generalize W.alloc (.cells #[.int .i64 c,.slice (some ⟨b,o,none⟩) plen pcap] 24)=w0 at *
  refine (SN.out _ bx0).mono ?_
  rintro e w1 ⟨m,atv,lv,ca',cc',ta',tc',hd,rfl,o1,-,-,b1⟩
  have rz1:=Lib.hid (brow b1 rz0)
  have bx1:=Lib.hid (bx0.trans (b1.mono bx0.size))
  have HD:=Lib.hid hd
  have O1:=Lib.hid o1
  have hb0:Hid (W.heap.size < w0.heap.size):=Lib.hid (Array.getElem?_eq_some_iff.1 rz0).1
  have hm:(m:Int) ≤ fuel:=done_le hd f0
  clear b1 rz0 bx0 SN o1 hd
  generalize hE:env6 b o plen pcap x=E at *
  generalize hDD:ini 0 cl cf fuel zs=D at *
  have HE:=Lib.hid (⟨hE,hDD⟩:env6 b o plen pcap x=E ∧ ini 0 cl cf fuel zs=D)
  have hpl:Hid (E.pl=plen):=Lib.hid (by rw [← hE];rfl)
  clear hE hDD
  unfold outV
  go_wp2_with (with_reducible refine (halt_store 33 _ _ rfl ?_))
  refine ⟨?_,trivial⟩
  refine wpList_store_is rfl 33 _ _ rfl w1.heap.size _ rfl rfl 33 _ (heap_last _ _ _ rfl) info_out5 rfl (by simp [Value.oneCell']) ?_
  intro w2 s2
  have bn:=below_new (Below.refl w1.heap.size w1) (.cells #[.int .i8 0,.int .u64 0,.slice none 0 0,.slice none 0 0,.int .i64 0] 33)
  have b2:=s2.below bn (Nat.le_refl _)
  have rz2:=brow b2 rz1.out
  have bx2:=Lib.hid (bx1.out.trans (b2.mono bx1.out.size))
  have O2:=own_below O1.out b2
  clear s2 bn b2 rz1 bx1 O1
  obtain ⟨a,cap,rfl,hmc,hat⟩:=own_ints O2
  have HAT:=Lib.hid hat
  have p1:w2.cell? ⟨W.heap.size,1,none⟩=some (.slice (some ⟨b,o,none⟩) plen pcap):=by simp only [World.cell?,rz2];rfl
  clear rz2 O2 hat hmc
  generalize w1.heap.size=g2 at *
  have hmk:∀ w,(Instr.makeSlice 37 (.int .i64 (plen:Int)) (.int .i64 (plen:Int))).run Tryz.prog w=.ok (.slice (some ⟨w.heap.size,0,none⟩) plen plen) (w.alloc (.cells (madeCells #[.int .i64 0] plen) 3)):=fun w=>run_make_row' (P:=Tryz.prog) 37 3 (.int .i64 0) 8 Tryz.underlying37 info_intM rfl .i64 .i64 plen (by omega) (by omega) w
  go_wp2_with fail
  have R0:=Lib.hid (World.rowIs_made w2 (.int .i64 0) plen 3)
  have Z1:=below_new (Below.refl w2.heap.size w2) (.cells (madeCells #[Value.int .i64 0] plen) 3)
  have bx3:=Lib.hid (bx2.out.trans (Z1.mono bx2.out.size))
  have HAT3:Hid (∀ k z,k < m → (ats E D m)[k]?=some z → ∃ gA,a=some ⟨gA,0,none⟩ ∧ gA < w2.heap.size ∧ (w2.alloc (.cells (madeCells #[Value.int .i64 0] plen) 3)).cell? ⟨gA,k,none⟩=some (.int .i64 z)):=Lib.hid (fun k z hk hz=>by
    obtain ⟨gA,e1,e2⟩:=HAT.out k z hk hz
    exact ⟨gA,e1,lt_of_cell e2,(Z1.cell (lt_of_cell e2)).trans e2⟩)
  have hV:Hid (W.heap.size ≤ w2.heap.size):=Lib.hid bx2.out.size
  clear Z1 bx2 hmk p1 HAT
  generalize w2.alloc (.cells (madeCells #[.int .i64 0] plen) 3)=w3 at *
  generalize w2.heap.size=V at *
  go_loopw [14] (fun i wr=>∃ k:Nat,k ≤ m ∧ i=.int .i64 (k:Int) ∧ Hid (Below W.heap.size W wr ∧ Trn [V] w3 wr ∧ wr.rowIs V 3 plen (fun j=>.int .i64 (cntP (ats E D k) j)))) (fun i _=>m - (intOf i).toNat)
  case atStart=>exact ⟨0,by omega,rfl,Lib.hid ⟨bx3.out,Trn.refl _,R0.out.congr (fun i _=>rfl)⟩⟩
  case round=>
    obtain ⟨k,hk,rfl,hR⟩:=hrel
    by_cases hlt:k < m
    · have k1:(k:Int) < m:=by omega
      have GK:=done_goes HD.out hlt
      obtain ⟨ix,ie⟩:=(HRR.out.its HF.out k GK).ix
      obtain ⟨gA,rfl,hgA,hcA⟩:=HAT3.out k _ hlt (ats_get E D hlt)
      have cA:wr.cell? ⟨gA,k,none⟩=some (.int .i64 (its E D k).at_):=cell_trn hR.out.2.1 (by simp;omega) hcA
      rw [hpl.out] at ix
      obtain ⟨p,hp⟩:∃ p,p=(its E D k).ix:=⟨_,rfl⟩
      rw [← hp] at ie ix
      rw [ie] at cA
      have IE:=Lib.hid ie
      have hc:=hR.out.2.2.cell (i:=p) ix
      have hcn:=cntP_le (ats E D k) p
      rw [ats_len] at hcn
      have ep:(p:Int) < plen:=by omega
      clear hp ie hcA GK
      have ew:wrap64 (cntP (ats E D k) p + 1)=cntP (ats E D k) p + 1:=IntWalk.wrap64_in _ (by omega)
      go_wp2_with (with_reducible refine (halt_store 3 _ _ rfl ?_))
      refine ⟨?_,trivial⟩
      refine wpList_store_row1V rfl 3 _ _ rfl V p (.int .i64 (cntP (ats E D k) p + 1)) rfl rfl rfl rfl hR.out.2.2 info_intV ix ?_
      intro w4 r4 t4
      have R4:Hid (Below W.heap.size W w4 ∧ Trn [V] w3 w4 ∧ w4.rowIs V 3 plen (fun j=>.int .i64 (cntP (ats E D (k + 1)) j))):=Lib.hid ⟨below_trn6 hR.out.1 t4 (fun j hj=>by rw [List.mem_singleton] at hj;subst hj;exact hV.out) hR.out.1.size,hR.out.2.1.trans t4,r4.congr (fun j hj=>by
        show (if j=p then Value.int .i64 (cntP (ats E D k) p + 1) else .int .i64 (cntP (ats E D k) j))=.int .i64 (cntP (ats E D (k + 1)) j)
        rw [ats_succ,cntP_app,IE.out]
        by_cases e:j=p
        · subst e;rw [if_pos rfl,if_pos rfl]
        · rw [if_neg e,if_neg (by omega)];rw [Int.add_zero])⟩
      clear r4 t4 hc hcn cA ew hR IE
      go_wp2_with fail
      go_roundw
      case rel=>exact ⟨k + 1,by omega,by go_num,R4⟩
      case measure=>simp [intOf];omega
    · obtain rfl:k=m:=by omega
      go_wp2_with fail
      go_ret
      unfold VisIs6
      rw [HE.out.1,HE.out.2]
      exact ⟨k,V,HD.out,rfl,hR.out.2.2,hR.out.1⟩
set_option maxHeartbeats 4000000 in
theorem r6_visits_no (c:Int) (pa:Option Addr) (plen pcap:Nat) (ca:Option Addr) (cl cc:Nat) (aa:Option Addr) (al ac:Nat) (fuel r:Int) (hr:¬ r=0) (W:World)
    (SN:∀ w,Below W.heap.size W w → Calls Tryz.prog 12 #[.agg #[.int .i64 c,.slice pa plen pcap],.slice ca cl cc,.slice aa al ac,.int .i64 fuel] w (SnapNo w r)):
    Calls Tryz.prog 10 #[.agg #[.int .i64 c,.slice pa plen pcap],.slice ca cl cc,.slice aa al ac,.int .i64 fuel] W fun e w'=>e=.returned (.slice none 0 0) ∧ Below W.heap.size W w':=by
  have SNH:=Lib.hid SN
  have e0:(r != 0)=true:=by simpa using hr
  have bx0:=below_new (Below.refl W.heap.size W) (.cells #[.int .i64 c,.slice pa plen pcap] 24)
  clear SN hr
  go_enter Tryz.func10,Tryz.ntmps10
  go_wp2_with fail
  generalize W.alloc (.cells #[.int .i64 c,.slice pa plen pcap] 24)=w0 at *
  refine (SNH.out _ bx0).mono ?_
  rintro e w1 ⟨rfl,b1⟩
  have bx1:=Lib.hid (bx0.trans (b1.mono bx0.size))
  clear b1 bx0 SNH
  unfold outV
  go_wp2_with (with_reducible refine (halt_store 33 _ _ rfl ?_))
  refine ⟨?_,trivial⟩
  refine wpList_store_is rfl 33 _ _ rfl w1.heap.size _ rfl rfl 33 _ (heap_last _ _ _ rfl) info_out5 rfl (by simp [Value.oneCell']) ?_
  intro w2 s2
  have bn:=below_new (Below.refl w1.heap.size w1) (.cells #[.int .i8 0,.int .u64 0,.slice none 0 0,.slice none 0 0,.int .i64 0] 33)
  have b2:=s2.below bn (Nat.le_refl _)
  have bx2:=Lib.hid (bx1.out.trans (b2.mono bx1.out.size))
  clear s2 bn b2 bx1
  go_wp2_with fail
  go_ret
  exact ⟨rfl,bx2.out⟩
end Go.Proofs.YtigliofiojkhcaaGreat.Mdl
namespace Go.Proofs.YtigliofiojkhcaaGreat.Mdl
open Go.RowKit Go.Maps Ins Trc
set_option linter.unusedVariables false
set_option linter.unusedSimpArgs false
set_option maxRecDepth 100000
theorem done_ex {E:Env} {D:Pl}:∀ (n k:Nat),Goes E D k → ((its E D k).fuel).toNat=n → ∃ m,Done E D m
  | 0,k,g,h=>⟨k,.inl ⟨g,by omega⟩⟩
  | n + 1,k,g,h=>by
    by_cases e:(its E D (k + 1)).fin=0
    · refine done_ex n (k + 1) (g.succ (by omega) e) ?_
      show ((its E D k).step E.kf (E.x (its E D k).ix)).fuel.toNat=n
      rw [step_fuel];omega
    · exact ⟨k + 1,.inr ⟨k,rfl,g,by omega,e⟩⟩
section
variable {x:Nat → In} {n b o pcap:Nat} {cl:Nat} {cf:Nat → Int} {fuel:Int} {zs:List Int} {tk al:Nat}
theorem same6 (R:Runs (env x n) (ini 0 cl cf fuel (zs.take tk))) (hl:zs.length=al) (htk:min (al:Int) fuel=(tk:Int)) {m m':Nat} (h:Done (env x n) (ini 0 cl cf fuel (zs.take tk)) m) (h':Done (env6 b o n pcap x) (ini 0 cl cf fuel zs) m'):
    m'=m ∧ ∀ j,j ≤ m → ∃ l',its (env6 b o n pcap x) (ini 0 cl cf fuel zs) j=(its (env x n) (ini 0 cl cf fuel (zs.take tk)) j).sw 0 l':=by
  have hw:∀ k,its (env6 b o n pcap x) (ini 0 cl cf fuel zs) k=its (env x n) (ini 0 cl cf fuel zs) k:=its_with (E:=env x n) (E':=env6 b o n pcap x) rfl rfl _
  have h2:Done (env x n) (ini 0 cl cf fuel zs) m':=(done_with (E:=env x n) (E':=env6 b o n pcap x) rfl rfl _ m').1 h'
  have f0:0 ≤ fuel:=R.fuel
  have q0:MoreQ (ini 0 cl cf fuel (zs.take tk)) zs:=by
    refine ⟨zs.drop tk,(List.take_append_drop tk zs).symm,?_⟩
    by_cases h:(al:Int) ≤ fuel
    · left
      rw [List.drop_eq_nil_iff];omega
    · right
      show fuel ≤ ((zs.take tk).length:Int)
      rw [List.length_take];omega
  have hsw:ini 0 cl cf fuel zs=(ini 0 cl cf fuel (zs.take tk)).sw 0 zs:=by
    show _=({ ini 0 cl cf fuel (zs.take tk) with fuel:=fuel + 0,ans:=zs }:Pl)
    rw [Int.add_zero];rfl
  have key:∀ m,(∀ j,j < m → 0 < (its (env x n) (ini 0 cl cf fuel (zs.take tk)) j).fuel) → ∀ j,j ≤ m → ∃ l',its (env x n) (ini 0 cl cf fuel zs) j=(its (env x n) (ini 0 cl cf fuel (zs.take tk)) j).sw 0 l' ∧ MoreQ (its (env x n) (ini 0 cl cf fuel (zs.take tk)) j) l':=fun m hf=>by
    rw [hsw]
    exact its_sw (E:=env x n) (D:=ini 0 cl cf fuel (zs.take tk)) (k:=0) (l:=zs) MoreQ m q0 (fun j hj l q=>more_step 0 _ _ (hf j hj) q)
  have goes:∀ k,Goes (env x n) (ini 0 cl cf fuel (zs.take tk)) k → Goes (env x n) (ini 0 cl cf fuel zs) k:=fun k g j hj=>by
    obtain ⟨l1,e1,_⟩:=key k g.of_fuel j (by omega)
    obtain ⟨l2,e2,_⟩:=key k g.of_fuel (j + 1) (by omega)
    have:=g j hj
    rw [e1,e2]
    exact ⟨by show 0 < (its (env x n) (ini 0 cl cf fuel (zs.take tk)) j).fuel + 0;omega,this.2⟩
  have hpos:∀ j,j < m → 0 < (its (env x n) (ini 0 cl cf fuel (zs.take tk)) j).fuel:=fun j hj=>by
    rcases h with ⟨g,_⟩ | ⟨k,rfl,g,f,_⟩
    · exact (g j hj).1
    · by_cases e:j=k
      · subst e;exact f
      · exact (g j (by omega)).1
  have h3:Done (env x n) (ini 0 cl cf fuel zs) m:=by
    obtain ⟨l1,e1,_⟩:=key m hpos m (Nat.le_refl _)
    rcases h with ⟨g,f⟩ | ⟨k,rfl,g,f,e⟩
    · exact .inl ⟨goes m g,by rw [e1];show ¬ 0 < (its (env x n) (ini 0 cl cf fuel (zs.take tk)) m).fuel + 0;omega⟩
    · obtain ⟨l2,e2,_⟩:=key (k + 1) hpos k (by omega)
      exact .inr ⟨k,rfl,goes k g,by rw [e2];show 0 < (its (env x n) (ini 0 cl cf fuel (zs.take tk)) k).fuel + 0;omega,by rw [e1];exact e⟩
  refine ⟨h2.uniq h3,fun j hj=>?_⟩
  obtain ⟨l',e,_⟩:=key m hpos j hj
  exact ⟨l',by rw [hw];exact e⟩
theorem same6_out (R:Runs (env x n) (ini 0 cl cf fuel (zs.take tk))) (hl:zs.length=al) (htk:min (al:Int) fuel=(tk:Int)) {m m':Nat} (h:Done (env x n) (ini 0 cl cf fuel (zs.take tk)) m) (h':Done (env6 b o n pcap x) (ini 0 cl cf fuel zs) m'):
    (its (env6 b o n pcap x) (ini 0 cl cf fuel zs) m').out=(its (env x n) (ini 0 cl cf fuel (zs.take tk)) m).out:=by
  obtain ⟨rfl,hs⟩:=same6 R hl htk h h'
  obtain ⟨l',e⟩:=hs m' (Nat.le_refl _)
  rw [e]
  unfold Pl.sw Pl.out
  simp only [Int.add_zero]
theorem same6_ats (R:Runs (env x n) (ini 0 cl cf fuel (zs.take tk))) (hl:zs.length=al) (htk:min (al:Int) fuel=(tk:Int)) {m m':Nat} (h:Done (env x n) (ini 0 cl cf fuel (zs.take tk)) m) (h':Done (env6 b o n pcap x) (ini 0 cl cf fuel zs) m'):
    ats (env6 b o n pcap x) (ini 0 cl cf fuel zs) m'=ats (env x n) (ini 0 cl cf fuel (zs.take tk)) m:=by
  obtain ⟨rfl,hs⟩:=same6 R hl htk h h'
  unfold ats
  refine List.map_congr_left (fun j hj=>?_)
  obtain ⟨l',e⟩:=hs j (by have:=List.mem_range.1 hj;omega)
  rw [e];rfl
end
def Row6 (n:Nat) (f:Nat → Int) (v:Value) (w:World):Prop:=∃ a,v=.slice a n n ∧ ∀ i,i < n → ∃ V,a=some ⟨V,0,none⟩ ∧ w.cell? ⟨V,i,none⟩=some (.int .i64 (f i))
theorem Row6.below {n:Nat} {f:Nat → Int} {v:Value} {w w':World} (h:Row6 n f v w) (b:Below w.heap.size w w'):Row6 n f v w':=by
  obtain ⟨a,rfl,h⟩:=h
  exact ⟨a,rfl,fun i hi=>by
    obtain ⟨V,e,hc⟩:=h i hi
    exact ⟨V,e,(b.cell (lt_of_cell hc)).trans hc⟩⟩
theorem Row6.of {n V:Nat} {f:Nat → Int} {w:World} (h:w.rowIs V 3 n (fun i=>.int .i64 (f i))):Row6 n f (.slice (some ⟨V,0,none⟩) n n) w:=⟨_,rfl,fun i hi=>⟨V,rfl,h.cell hi⟩⟩
def SV (k1 k2 k3 k4 d1 d2 d3 d4:Nat) (w0:World) (A B:Value → World → Prop) (fl:Nat → Bool) (u:Nat → Value) (w:World):Prop:=
  Below w0.heap.size w0 w ∧ (fl k1=true → A (u d1) w) ∧ (fl k2=true → B (u d2) w) ∧ (fl k3=true → u d3=u d1) ∧ (fl k4=true → u d4=u d2)
section
variable {k1 k2 k3 k4 d1 d2 d3 d4:Nat} {w0 w w':World} {A B:Value → World → Prop} {fl:Nat → Bool} {u u':Nat → Value}
theorem SV.loc:Loc [k1,k2,k3,k4] [d1,d2,d3,d4] (SV k1 k2 k3 k4 d1 d2 d3 d4 w0 A B):=by
  intro fl fl' u u' w hK hD h
  unfold SV at *
  simp only [hK k1 (by simp),hK k2 (by simp),hK k3 (by simp),hK k4 (by simp),hD d1 (by simp),hD d2 (by simp),hD d3 (by simp),hD d4 (by simp)]
  exact h
theorem SV.start (b:Below w0.heap.size w0 w) (h1:fl k1=false) (h2:fl k2=false) (h3:fl k3=false) (h4:fl k4=false):SV k1 k2 k3 k4 d1 d2 d3 d4 w0 A B fl u w:=
  ⟨b,fun e=>absurd (h1.symm.trans e) (by decide),fun e=>absurd (h2.symm.trans e) (by decide),fun e=>absurd (h3.symm.trans e) (by decide),fun e=>absurd (h4.symm.trans e) (by decide)⟩
theorem SV.one (hB:∀ v w w',B v w → Below w.heap.size w w' → B v w') (h:SV k1 k2 k3 k4 d1 d2 d3 d4 w0 A B fl u w) (b:Below w.heap.size w w') (f2:fl k2=false) (f3:fl k3=false) (f4:fl k4=false) (n2:k1 ≠ k2) (n3:k1 ≠ k3) (n4:k1 ≠ k4) (a:A (u' d1) w'):SV k1 k2 k3 k4 d1 d2 d3 d4 w0 A B (upd fl k1) u' w':=by
  have g:∀ k,k1 ≠ k → fl k=false → ∀ p:Prop,upd fl k1 k=true → p:=fun k n f p e=>by unfold upd at e;rw [if_neg (Ne.symm n),f] at e;cases e
  exact ⟨h.1.trans (b.mono h.1.size),fun _=>a,g _ n2 f2 _,g _ n3 f3 _,g _ n4 f4 _⟩
theorem SV.two (hA:∀ v w w',A v w → Below w.heap.size w w' → A v w') (h:SV k1 k2 k3 k4 d1 d2 d3 d4 w0 A B fl u w) (b:Below w.heap.size w w') (f1:fl k1=true) (f3:fl k3=false) (f4:fl k4=false) (n3:k2 ≠ k3) (n4:k2 ≠ k4) (e1:u' d1=u d1) (a:B (u' d2) w'):SV k1 k2 k3 k4 d1 d2 d3 d4 w0 A B (upd fl k2) u' w':=by
  have g:∀ k,k2 ≠ k → fl k=false → ∀ p:Prop,upd fl k2 k=true → p:=fun k n f p e=>by unfold upd at e;rw [if_neg (Ne.symm n),f] at e;cases e
  exact ⟨h.1.trans (b.mono h.1.size),fun _=>by rw [e1];exact hA _ _ _ (h.2.1 f1) b,fun _=>a,g _ n3 f3 _,g _ n4 f4 _⟩
theorem SV.three (h:SV k1 k2 k3 k4 d1 d2 d3 d4 w0 A B fl u w) (f1:fl k1=true) (f2:fl k2=true) (f4:fl k4=false) (n4:k3 ≠ k4) (e1:u' d1=u d1) (e2:u' d2=u d2) (e3:u' d3=u d1):SV k1 k2 k3 k4 d1 d2 d3 d4 w0 A B (upd fl k3) u' w:=
  ⟨h.1,fun _=>by rw [e1];exact h.2.1 f1,fun _=>by rw [e2];exact h.2.2.1 f2,fun _=>by rw [e3,e1],fun e=>by unfold upd at e;rw [if_neg (Ne.symm n4),f4] at e;cases e⟩
theorem SV.four (h:SV k1 k2 k3 k4 d1 d2 d3 d4 w0 A B fl u w) (f1:fl k1=true) (f2:fl k2=true) (f3:fl k3=true) (e1:u' d1=u d1) (e2:u' d2=u d2) (e3:u' d3=u d3) (e4:u' d4=u d2):SV k1 k2 k3 k4 d1 d2 d3 d4 w0 A B (upd fl k4) u' w:=
  ⟨h.1,fun _=>by rw [e1];exact h.2.1 f1,fun _=>by rw [e2];exact h.2.2.1 f2,fun _=>by rw [e3,e1];exact h.2.2.2.1 f3,fun _=>by rw [e4,e2]⟩
end
end Go.Proofs.YtigliofiojkhcaaGreat.Mdl
namespace Go.Proofs.YtigliofiojkhcaaGreat.Mdl
open Go.RowKit Go.Maps Ins Trc
set_option linter.unusedVariables false
set_option linter.unusedSimpArgs false
set_option maxRecDepth 100000
def five (i:Nat):In:=if i=0 then ⟨0,11,64,0,false,0,0,0,5⟩ else ⟨6,0,0,0,false,0,0,0,0⟩
def leave (_:Nat):In:=⟨6,0,0,0,false,0,0,0,0⟩
def asks (i:Nat):In:=if i=0 then ⟨5,0,0,0,false,0,0,0,0⟩ else ⟨6,0,0,0,false,0,0,0,0⟩
theorem five_ok:(checkI 0 2 five).2=0:=by decide +kernel
theorem leave_ok:(checkI 0 1 leave).2=0:=by decide +kernel
theorem asks_ok:(checkI 0 2 asks).2=0:=by decide +kernel
abbrev d0:Pl:=ini 0 0 (fun _=>0) 9 []
theorem five_goes:Goes (env five 2) d0 1:=fun j hj=>by
  obtain rfl:j=0:=by omega
  exact ⟨by decide +kernel,by decide +kernel⟩
theorem five_ends:Ends five 2 d0 ⟨1,5,[],[],7⟩:=⟨2,.inr ⟨1,rfl,five_goes,by decide +kernel,by decide +kernel⟩,by kernel_rfl⟩
theorem leave_ends:Ends leave 1 d0 ⟨3,0,[],[],8⟩:=⟨1,.inr ⟨0,rfl,fun j hj=>absurd hj (Nat.not_lt_zero _),by decide +kernel,by decide +kernel⟩,by kernel_rfl⟩
theorem asks_ends:Ends asks 2 d0 ⟨2,0,[],[],8⟩:=⟨1,.inr ⟨0,rfl,fun j hj=>absurd hj (Nat.not_lt_zero _),by decide +kernel,by decide +kernel⟩,by kernel_rfl⟩
end Go.Proofs.YtigliofiojkhcaaGreat.Mdl
