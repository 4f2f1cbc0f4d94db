import Derived.Test.YtbpehbeakhocnaaGreatDoorIRm41
import Derived.Deep.DeepCutAuto
import Derived.Laws.AppendOwnNone
import Derived.Test.YtbpehbeakhocnaaGreatDoorIRm33
import Derived.Deep.RegionHeld3
set_option maxHeartbeats 8000000
set_option linter.unusedVariables false
set_option linter.unusedSimpArgs false
set_option linter.unnecessarySimpa false
namespace Go.Proofs.YtbpehbeakhocnaaGreatDoor.Irn
open Go Go.RowKit
open Mrm (Xi xC xL zX eqX mayX readsX writesX XOk heap_below)
open Flg (Fl fC zF mayC holF)
open Exe
set_option maxRecDepth 100000
def outI (l:List Ii) (g:Nat → Int):Sg × Int × Int:=
  if badL l < l.length then ((zG,zM),0,2)
  else if (runF (l.take (stopL l)) (g,zM)).2=0 then (((runF (l.take (stopL l)) (g,zM)).1.1,(runF (l.take (stopL l)) (g,zM)).1.2.upA 0),(stopL l:Int),0)
  else ((zG,zM),0,20)
structure DX (W:World) (g:Nat → Int) (gB:Nat) (CB:Array Value) (TB:TypeId) (w:World):Prop where
  fb:Below W.heap.size W w
  fr:w.heap[W.heap.size]?=some (.cells (rgC g) 24 (0,0))
  fz:w.heap[W.heap.size + 1]?=some (.cells (rgC zG) 24 (0,0))
  fm:w.heap[W.heap.size + 2]?=some (.cells (mcC zM) 30 (0,0))
  fc:w.heap[gB]?=some (.cells CB TB (0,0))
theorem DX.keep {W w w':World} {g:Nat → Int} {gB:Nat} {CB:Array Value} {TB:TypeId} (h:DX W g gB CB TB w) (b:Below w.heap.size w w'):DX W g gB CB TB w':=
  ⟨below_call h.fb b,row_heap h.fr b,row_heap h.fz b,row_heap h.fm b,row_heap h.fc b⟩
theorem al3 {W:World} {A B C:Array Value} {T U V:TypeId}:(((W.alloc (.cells A T)).alloc (.cells B U)).alloc (.cells C V)).heap[W.heap.size]?=some (.cells A T (0,0)) ∧ (((W.alloc (.cells A T)).alloc (.cells B U)).alloc (.cells C V)).heap[W.heap.size + 1]?=some (.cells B U (0,0)) ∧ (((W.alloc (.cells A T)).alloc (.cells B U)).alloc (.cells C V)).heap[W.heap.size + 2]?=some (.cells C V (0,0)) ∧ Below W.heap.size W (((W.alloc (.cells A T)).alloc (.cells B U)).alloc (.cells C V)):=by
  refine ⟨?_,?_,?_,below_new (below_new (below_new (Below.refl _ _) _) _) _⟩
  · rw [heap_past _ _ _ (by simp only [size_alloc];omega),heap_past _ _ _ (by simp only [size_alloc];omega)]
    exact heap_last _ _ _ rfl
  · rw [heap_past _ _ _ (by simp only [size_alloc];omega)]
    exact heap_last _ _ _ (by simp only [size_alloc])
  · exact heap_last _ _ _ (by simp only [size_alloc])
theorem res_cctt {P:Program} {fn:Func} {w:World} {tmps:Array Value} {d e f i:Tmp} {t u:TypeId} {p q:Addr} {v x z y:Value} (h:fn.results=#[.cell d t,.cell e u,.tmp f,.tmp i]) (hs:tmps.getD d undef=.pointer (some p)) (hl:(loadVar t p).run P w=.ok v w) (hs2:tmps.getD e undef=.pointer (some q)) (hl2:(loadVar u q).run P w=.ok x w) (hs3:tmps.getD f undef=z) (hs4:tmps.getD i undef=y):(results fn tmps).run P w=.ok (.tuple #[v,x,z,y]) w:=by
  have hs':tmps[d]?.getD undef=.pointer (some p):=by rw [← hs,Array.getD_eq_getD_getElem?]
  have hs2':tmps[e]?.getD undef=.pointer (some q):=by rw [← hs2,Array.getD_eq_getD_getElem?]
  have hs3':tmps[f]?.getD undef=z:=by rw [← hs3,Array.getD_eq_getD_getElem?]
  have hs4':tmps[i]?.getD undef=y:=by rw [← hs4,Array.getD_eq_getD_getElem?]
  simp [results,h,hs',hs2',hs3',hs4',asAddr,hl,hl2]
theorem taken_ok {l:List Ii} (h:∀ x ∈ l,mayI x=true):∀ x ∈ l.take (stopL l),mayI x=true ∧ stopI x=false:=by
  intro x hx
  refine ⟨h x (List.mem_of_mem_take hx),?_⟩
  obtain ⟨i,hi⟩:=List.mem_iff_getElem?.1 hx
  have hlt:=(List.getElem?_eq_some_iff.1 hi).1
  rw [List.length_take] at hlt
  rw [List.getElem?_take_of_lt (by omega)] at hi
  obtain ⟨hl,e⟩:=List.getElem?_eq_some_iff.1 hi
  have:=List.not_of_lt_findIdx (p:=stopI) (xs:=l) (i:=i) (by unfold stopL at hlt;omega)
  rw [e] at this
  simpa using this
theorem taken_err {l:List Ii} {g:Nat → Int} (h:∀ x ∈ l,mayI x=true):(runF (l.take (stopL l)) (g,zM)).2=0 ∨ (runF (l.take (stopL l)) (g,zM)).2=20:=by
  cases e:runI (l.take (stopL l)) (g,zM) with
  | none=>exact .inr (runF_none (fun i hi h1 h2=>by
      have k:=taken_ok h i hi
      rcases stop_kind k.1 k.2 with c | c | c
      · exact c.2
      · exact absurd c h1
      · exact absurd c h2) e)
  | some t=>rw [runF_some e];exact .inl rfl
theorem ptr_eq {v:Value} {a b:Nat} (h:a=b) (e:v=.pointer (some ⟨b,0,none⟩):=by rfl):v=.pointer (some ⟨a,0,none⟩):=by rw [h];exact e
section
variable {ρ:Operand → Value} {o:Oper} {w:World} {x y:Operand} {T:TypeId}
theorem ex_zrg (ho:o.op=.build 24 #[]):(execOp ρ o).run Tryz.prog w=.ok (.value (.agg (rgC zG))) w:=exec_build ho (vs:=#[]) (by simp) (by kernel_rfl)
theorem slice_to {a:Option Addr} {len cap n:Nat} (ho:o.op=.slice 22 x none (some y) none) (hx:ρ x=.slice a len cap) (hy:ρ y=.int .i64 (n:Nat)) (hn:n ≤ cap) (ha:a=none → cap=0):(execOp ρ o).run Tryz.prog w=.ok (.value (.slice a n cap)) w:=by
  cases a with
  | none=>
    obtain rfl:=ha rfl
    obtain rfl:n=0:=by omega
    simp [execOp,ho,hx,hy,go_sem]
  | some a=>
    have h1:(n:Int) ≤ (cap:Int):=by omega
    simp [execOp,ho,hx,hy,go_sem,h1]
end
theorem ido_n (a:Option Addr) (len cap:Nat) (l:List Ii) (g:Nat → Int) (W:World) (hT:Tb W) (hL:Irs W a len cap l) (hfew:len ≤ 100000) (hg:GOk g):
    Calls Tryz.prog 9 #[.slice a len cap,.agg (rgC g)] W fun e w'=>e=.returned (.tuple #[.agg (rgC (outI l g).1.1),.agg (mcC (outI l g).1.2),.int .i64 (outI l g).2.1,.int .i64 (outI l g).2.2]) ∧ Below W.heap.size W w':=by
  have mo:Tryz.prog.follows .mixedOrders=true:=by kernel_rfl
  have HT:=Lib.hid hT
  have HG:=Lib.hid hg
  have e1:=hL.le
  have e2:=hL.fit
  obtain ⟨r0,r1,r2,b0⟩:=al3 (W:=W) (A:=rgC g) (B:=rgC zG) (C:=mcC zM) (T:=24) (U:=24) (V:=30)
  have R0:=Lib.hid r0
  have R1:=Lib.hid r1
  have R2:=Lib.hid r2
  have B0:=Lib.hid b0
  have HL:=Lib.hid (hL.below b0 (Nat.le_refl _))
  have HZ:=Lib.hid hL.size
  clear hT hL hg r0 r1 r2 b0
  go_enter Tryz.func9,Tryz.ntmps9
  go_wp2_with (at_builtin;refine wpList_copy rfl _ _ rfl a len cap l rfl rfl HL.out hfew W.heap.size _ _ R0.out ?_)
  intro a2 c2 w4 gB CB TB b4 h4 hor hnn hI
  have HC:=Lib.hid hnn
  have b4:Below (((W.alloc (.cells (rgC g) 24)).alloc (.cells (rgC zG) 24)).alloc (.cells (mcC zM) 30)).heap.size (((W.alloc (.cells (rgC g) 24)).alloc (.cells (rgC zG) 24)).alloc (.cells (mcC zM) 30)) w4:=Below.mono b4 (by simp only [size_alloc];omega)
  have DA:=Lib.hid (show DX W g gB CB TB w4 from ⟨below_call B0.out b4,row_heap R0.out b4,row_heap R1.out b4,row_heap R2.out b4,h4⟩)
  have hb1:gB ≠ W.heap.size + 1:=by omega
  have hb2:gB ≠ W.heap.size + 2:=by omega
  have hb3:gB=W.heap.size ∨ W.heap.size + 3 ≤ gB:=by omega
  have HI:=Lib.hid hI
  have e3:=(hI w4 h4).le
  have e4:=(hI w4 h4).fit
  clear R0 R1 R2 B0 HL b4 h4 hor hnn hI
  have CK:=Lib.hid (check_n a2 len c2 l _ (HT.out.below DA.out.fb (Nat.le_refl _)) (HI.out _ DA.out.fc))
  by_cases hbad:badL l < l.length
  · have OE:=Lib.hid (show outI l g=((zG,zM),0,2) from if_pos hbad)
    have EC:chkI l=((badL l:Int),2):=if_pos hbad
    rw [EC] at CK
    clear hbad EC
    go_wp2_with fail
    refine CK.out.mono ?_
    rintro e w5 ⟨rfl,b5⟩
    have DB:=DA.out.keep b5
    have RZz:=Lib.hid DB.fz
    have RZm:=Lib.hid DB.fm
    have RB:=Lib.hid DB.fb
    clear b5 DA DB CK
    go_wp2_with (with_reducible refine (halt_store 24 _ _ rfl ?_))
    refine ⟨?_,trivial⟩
    refine wpList_store_is rfl 24 _ _ rfl (W.heap.size + 1) (rgC zG) rfl rfl _ _ RZz.out (by kernel_rfl) rfl (by kernel_rfl) ?_
    intro wz sz
    have Z1:=Lib.hid sz.row
    have Z2:=Lib.hid (row_stay RZm.out sz (by omega))
    have ZB:=Lib.hid (sz.below RB.out (by omega))
    clear sz
    go_wp2_with (with_reducible refine (halt_store 30 _ _ rfl ?_))
    refine ⟨?_,trivial⟩
    refine wpList_store_is rfl 30 _ _ rfl (W.heap.size + 2) (mcC zM) rfl rfl _ _ Z2.out (by kernel_rfl) rfl (by kernel_rfl) ?_
    intro wy sy
    have Y2:=Lib.hid sy.row
    have Y1:=Lib.hid (row_stay Z1.out sy (by omega))
    have YB:=Lib.hid (sy.below ZB.out (by omega))
    clear sy Z1 Z2 ZB
    go_wp2_with fail
    try simp only [Exit.inBlock,Exit.then]
    refine bodyPost_ret (res_cctt (p:=⟨W.heap.size + 1,0,none⟩) (q:=⟨W.heap.size + 2,0,none⟩) (fn:=Tryz.f9) rfl rfl (load_row 24 Y1.out Tryz.underlying24 rfl (by kernel_rfl)) rfl (load_row 30 Y2.out Tryz.underlying30 rfl (by kernel_rfl)) rfl rfl) rfl ?_
    exact ⟨by rw [OE.out];rfl,YB.out⟩
  · have HA:=Lib.hid (bad_all hbad)
    have OE:=Lib.hid (show outI l g=if (runF (l.take (stopL l)) (g,zM)).2=0 then (((runF (l.take (stopL l)) (g,zM)).1.1,(runF (l.take (stopL l)) (g,zM)).1.2.upA 0),(stopL l:Int),0) else ((zG,zM),0,20) from if_neg hbad)
    have EC:chkI l=(0,0):=if_neg hbad
    rw [EC] at CK
    clear hbad EC
    go_wp2_with fail
    refine CK.out.mono ?_
    rintro e w5 ⟨rfl,b5⟩
    have DB:=Lib.hid (DA.out.keep b5)
    clear b5 DA CK
    go_wp2_with fail
    refine (index_n a2 len c2 l _ (HI.out _ DB.out.fc)).mono ?_
    rintro e w6 ⟨rfl,b6⟩
    have DC:=Lib.hid (DB.out.keep b6)
    clear b6 DB
    have hsl:stopL l ≤ len:=by rw [← HZ.out];exact List.findIdx_le_length
    go_upto_if 28 with fail
    go_cut [6] (fun p wx=>p=.int .i64 (stopL l:Nat) ∧ Hid (DX W g gB CB TB wx))
    case first=>
      by_cases hs:stopL l < len
      · have E:idxI l len=(stopL l:Int):=if_pos hs
        have d:decide ((stopL l:Int) < 0)=false:=by simp
        rw [E]
        go_wp2_with fail
        go_meet
        exact ⟨rfl,DC⟩
      · have E:idxI l len=-1:=if_neg hs
        have E2:stopL l=len:=by omega
        rw [E]
        go_wp2_with fail
        go_meet
        exact ⟨by rw [E2],DC⟩
    case rest=>
      obtain ⟨rfl,DK⟩:=hcut
      clear DC
      obtain ⟨s0,hs0⟩:∃ s,s=W.heap.size:=⟨_,rfl⟩
      obtain ⟨s1,hs1⟩:∃ s,s=W.heap.size + 1:=⟨_,rfl⟩
      obtain ⟨s2,hs2⟩:∃ s,s=W.heap.size + 2:=⟨_,rfl⟩
      have fr:=DK.out.fr
      have fz:=DK.out.fz
      have fm:=DK.out.fm
      rw [← hs0] at fr
      rw [← hs1] at fz
      rw [← hs2] at fm
      have e5:=(HI.out _ DK.out.fc).here
      have hst:stopL l ≤ c2:=by omega
      have hcl:a2=none → c2=0:=HC.out
      obtain ⟨G,hG⟩:∃ G,G=(runF (l.take (stopL l)) (g,zM)).1.1:=⟨_,rfl⟩
      obtain ⟨M,hM⟩:∃ M,M=(runF (l.take (stopL l)) (g,zM)).1.2.upA 0:=⟨_,rfl⟩
      obtain ⟨E,hE⟩:∃ E,E=(runF (l.take (stopL l)) (g,zM)).2:=⟨_,rfl⟩
      have HO:=Lib.hid (show outI l g=if E=0 then ((G,M),(stopL l:Int),0) else ((zG,zM),0,20) by rw [hG,hM,hE];exact OE.out)
      have hEE:E=0 ∨ E=20:=by rw [hE];exact taken_err HA.out
      have EX:=Lib.hid (fun wx (b:Below W.heap.size W wx) (hB:wx.heap[gB]?=some (.cells CB TB (0,0)))=>show Calls Tryz.prog 25 #[.slice a2 (stopL l) c2,.agg (rgC g)] wx fun e w'=>e=.returned (.tuple #[.agg (rgC G),.agg (mcC M),.int .i64 E]) ∧ Below wx.heap.size wx w' by
        rw [hG,hM,hE]
        exact exec_n a2 (stopL l) c2 (l.take (stopL l)) g wx (HT.out.t.below b (Nat.le_refl _)) ((HI.out wx hB).take _ hsl) (taken_ok HA.out) HG.out)
      clear e5 OE hG hM hE
      go_wp2_with fail
      rename_i hK2 K1 hK1
      refine go_reg [bx s0 24 (rgC g),bx gB TB CB,⟨s1,24,(rgC zG),some 9,(rgC G)⟩,⟨s2,30,(mcC zM),some 10,(mcC M)⟩] [] [some (.slice a2 len c2),some (.int .i64 (stopL l:Nat)),some (.slice a2 (stopL l) c2),some (.agg (rgC g)),some (.tuple #[.agg (rgC G),.agg (mcC M),.int .i64 E]),some (.tuple #[.agg (rgC G),.agg (mcC M),.int .i64 E]),some (.agg (rgC G)),some (.agg (mcC M)),some (.int .i64 E),none,none,some (.int .i64 E)] mo rfl rfl DK.out.fb (by kernel_rfl) ⟨fr,DK.out.fc,fz,fm,trivial⟩ (
       hk (fun cx=>cx.q (ex_mv rfl (cx.rq 8 rfl))) <|
       hk (fun cx=>cx.q (ex_mv rfl (cx.rq 6 rfl))) <|
       hk (fun cx=>cx.q (slice_to (n:=stopL l) (len:=len) (cap:=c2) (a:=a2) rfl (cx.u 0 rfl) (cx.u 1 rfl) hst hcl)) <|
       hk (fun cx=>cx.q (ldRgW rfl (cx.rq 3 (ptr_eq hs0)) (cx.rn 0 rfl))) <|
       hc (fun _ _ wx cx=>cx.c rfl (args2 (cx.u 0 rfl) (cx.u 1 rfl)) Tryz.func25 (by decide +kernel) (EX.out wx cx.S.1.1 (cx.rn 1 rfl)) rfl rfl) <|
       kmu 0 <|
       hk (fun cx=>cx.q (ex_ext (x:=.tmp 31) rfl (cx.u 0 rfl) rfl)) <|
       hk (fun cx=>cx.q (ex_ext (x:=.tmp 31) rfl (cx.u 0 rfl) rfl)) <|
       hk (fun cx=>cx.q (ex_ext (x:=.tmp 31) rfl (cx.u 0 rfl) rfl)) <|
       hk (fun cx=>cx.stR (wn rfl) rfl rfl 2 rfl (cx.rq 4 (ptr_eq hs1)) (cx.u 0 rfl) (by kernel_rfl) (Eq.refl 11) (rgC_one _) (show W.heap.size ≤ s1 by omega) rfl ⟨(show s0 ≠ s1 by omega),(show gB ≠ s1 by omega),(show s2 ≠ s1 by omega),trivial⟩ trivial) <|
       hk (fun cx=>cx.stR (wn rfl) rfl rfl 3 rfl (cx.rq 5 (ptr_eq hs2)) (cx.u 0 rfl) (by kernel_rfl) (Eq.refl 22) (mcC_one _) (show W.heap.size ≤ s2 by omega) rfl ⟨(show s0 ≠ s2 by omega),(show gB ≠ s2 by omega),(show s1 ≠ s2 by omega),trivial⟩ trivial) <|
       kmu 0 <|
       hn) ?_
      intro a41 w41 f41
      refine hK1 _ _ ?_
      refine wp_seq ?_
      cases fk1:E != 0
      case false=>
       have Ffk1:=Lib.hid fk1;clear fk1
       refine go_reg [] [] [some (.int .i64 E),oF] mo f41.d f41.z f41.b (by kernel_rfl) trivial (
        hk (fun cx=>cx.q (ex_mv rfl (cx.rq 7 (f41.v 11 rfl rfl rfl)))) <|
        hk (fun cx=>cx.v (ex_ne (x:=.tmp 40) rfl (cx.u 0 rfl) rfl) rfl (congrArg Value.bool Ffk1.out)) <|
        hn) ?_
       intro a42 w42 f42
       refine wp_cond_false (f42.v 1 rfl rfl rfl) ?_
       refine wp_skip ?_
       refine hK2 _ _ ?_
       refine wp_seq ?_
       have b_s1_1:=f42.k f41.rows.2.2.1
       have b_s2_2:=f42.k f41.rows.2.2.2.1
       have s4_3:=f42.q 4 (f41.q 4 (ptr_eq hs1))
       have s5_4:=f42.q 5 (f41.q 5 (ptr_eq hs2))
       have s6_5:=f42.q 6 (f41.q 6 rfl)
       refine go_reg [⟨s1,24,(rgC G),some 3,(rgC G)⟩,⟨s2,30,(mcC M),some 4,(mcC M)⟩] [] [some (.agg (rgC G)),some (.agg (mcC M)),some (.int .i64 (stopL l:Nat)),none,none,some (.int .i64 (stopL l:Nat)),some (.int .i64 0)] mo f42.d f42.z f42.b (by kernel_rfl) ⟨b_s1_1,b_s2_2,trivial⟩ (
        hk (fun cx=>cx.q (ldRgW rfl (cx.rq 4 s4_3) (cx.rf 0 rfl (by kernel_rfl)))) <|
        hk (fun cx=>cx.q (ldMc rfl (cx.rq 5 s5_4) (cx.rf 1 rfl (by kernel_rfl)))) <|
        hk (fun cx=>cx.q (ex_mv rfl (cx.un 5 rfl rfl (by kernel_rfl) s6_5))) <|
        hk (fun cx=>cx.stR (wn rfl) rfl rfl 0 rfl (cx.rq 4 s4_3) (cx.u 0 rfl) (by kernel_rfl) (Eq.refl 11) (rgC_one _) (show W.heap.size ≤ s1 by omega) rfl ⟨(show s2 ≠ s1 by omega),trivial⟩ trivial) <|
        hk (fun cx=>cx.stR (wn rfl) rfl rfl 1 rfl (cx.rq 5 s5_4) (cx.u 0 rfl) (by kernel_rfl) (Eq.refl 22) (mcC_one _) (show W.heap.size ≤ s2 by omega) rfl ⟨(show s1 ≠ s2 by omega),trivial⟩ trivial) <|
        kmu 0 <|
        hk (fun cx=>cx.q (ex_as rfl rfl)) <|
        hn) ?_
       intro a43 w43 f43
       refine wp_ret ?_
       have s4_6:=f43.q 4 s4_3
       have s5_7:=f43.q 5 s5_4
       try simp only [Exit.inBlock,Exit.then]
       refine bodyPost_ret (res_cctt (fn:=Tryz.f9) rfl s4_6 (load_row 24 f43.rows.1 Tryz.underlying24 rfl (by kernel_rfl)) s5_7 (load_row 30 f43.rows.2.1 Tryz.underlying30 rfl (by kernel_rfl)) (f43.v 5 rfl rfl rfl) (f43.v 6 rfl rfl rfl)) f43.d ?_
       have e00:E=0:=by have:=Ffk1.out;simpa using this
       exact ⟨by rw [HO.out,if_pos e00];rfl,f43.b⟩
      have Ffk1:=Lib.hid fk1;clear fk1
      refine go_reg [] [] [some (.int .i64 E),oT] mo f41.d f41.z f41.b (by kernel_rfl) trivial (
       hk (fun cx=>cx.q (ex_mv rfl (cx.rq 7 (f41.v 11 rfl rfl rfl)))) <|
       hk (fun cx=>cx.v (ex_ne (x:=.tmp 40) rfl (cx.u 0 rfl) rfl) rfl (congrArg Value.bool Ffk1.out)) <|
       hn) ?_
      intro a44 w44 f44
      refine wp_cond_true (f44.v 1 rfl rfl rfl) ?_
      refine wp_seq ?_
      have b_s1_8:=f44.k f41.rows.2.2.1
      have b_s2_9:=f44.k f41.rows.2.2.2.1
      have s7_10:=f44.q 7 (f41.v 11 rfl rfl rfl)
      have s4_11:=f44.q 4 (f41.q 4 (ptr_eq hs1))
      have s5_12:=f44.q 5 (f41.q 5 (ptr_eq hs2))
      refine go_reg [⟨s1,24,(rgC G),some 3,(rgC zG)⟩,⟨s2,30,(mcC M),some 4,(mcC zM)⟩] [] [some (.agg (rgC zG)),some (.agg (mcC zM)),some (.int .i64 E),none,none,some (.int .i64 0),some (.int .i64 E)] mo f44.d f44.z f44.b (by kernel_rfl) ⟨b_s1_8,b_s2_9,trivial⟩ (
       hk (fun cx=>cx.q (ex_zrg rfl)) <|
       hk (fun cx=>cx.q (ex_zmc rfl)) <|
       hk (fun cx=>cx.q (ex_mv rfl (cx.un 6 rfl rfl (by kernel_rfl) s7_10))) <|
       hk (fun cx=>cx.stR (wn rfl) rfl rfl 0 rfl (cx.rq 4 s4_11) (cx.u 0 rfl) (by kernel_rfl) (Eq.refl 11) (rgC_one _) (show W.heap.size ≤ s1 by omega) rfl ⟨(show s2 ≠ s1 by omega),trivial⟩ trivial) <|
       hk (fun cx=>cx.stR (wn rfl) rfl rfl 1 rfl (cx.rq 5 s5_12) (cx.u 0 rfl) (by kernel_rfl) (Eq.refl 22) (mcC_one _) (show W.heap.size ≤ s2 by omega) rfl ⟨(show s1 ≠ s2 by omega),trivial⟩ trivial) <|
       hk (fun cx=>cx.q (ex_as rfl rfl)) <|
       kmu 0 <|
       hn) ?_
      intro a45 w45 f45
      refine wp_ret ?_
      have s4_13:=f45.q 4 s4_11
      have s5_14:=f45.q 5 s5_12
      try simp only [Exit.inBlock,Exit.then]
      refine bodyPost_ret (res_cctt (fn:=Tryz.f9) rfl s4_13 (load_row 24 f45.rows.1 Tryz.underlying24 rfl (by kernel_rfl)) s5_14 (load_row 30 f45.rows.2.1 Tryz.underlying30 rfl (by kernel_rfl)) (f45.v 5 rfl rfl rfl) (f45.v 6 rfl rfl rfl)) f45.d ?_
      have e20:E=20:=hEE.resolve_left (by have:=Ffk1.out;simpa using this)
      exact ⟨by rw [HO.out,if_neg (by omega),e20];rfl,f45.b⟩
abbrev wkL:List Ii:=[⟨1,zX,3,0,0,0⟩,⟨0,⟨9,64,0,0,0,0,2,0⟩,0,0,0,0⟩,⟨2,zX,3,0,0,0⟩]
def wkG:Nat → Int:=setG zG 3 5
theorem wk_out:((outI wkL wkG).1.1 3=7 ∧ (outI wkL wkG).1.2.r 0=7) ∧ (outI wkL wkG).2.1=3 ∧ (outI wkL wkG).2.2=0:=by decide +kernel
theorem wk_ok:∀ x ∈ wkL,IOk x:=by
  intro x hx
  simp only [wkL,List.mem_cons,List.not_mem_nil,or_false] at hx
  rcases hx with rfl | rfl | rfl <;> exact ⟨⟨by decide,by decide⟩,by constructor <;> decide,⟨by decide,by decide⟩,⟨by decide,by decide⟩,⟨by decide,by decide⟩,⟨by decide,by decide⟩⟩
theorem wkG_ok:GOk wkG:=zG_ok.set 3 ⟨by decide,by decide⟩
theorem wakes_n (W:World) (hT:Tb W):Calls Tryz.prog 8 #[] W fun e w'=>e=.returned (.bool true) ∧ Below W.heap.size W w':=by
  have HT:=Lib.hid hT
  clear hT
  go_enter Tryz.func8,Tryz.ntmps8
  go_wp2_with fail
  refine (ido_n _ 3 3 wkL wkG _ (HT.out.below (below_new (below_new (Below.refl W.heap.size W) _) _) (Nat.le_refl _)) (irs_row (heap_last _ _ _ (by rw [size_alloc])) rfl rfl (Nat.le_refl _) (by omega) wk_ok) (by omega) wkG_ok).mono ?_
  rintro e w3 ⟨rfl,b3⟩
  have BB:=Lib.hid (below_call (below_new (below_new (Below.refl W.heap.size W) _) _) b3)
  clear b3
  obtain ⟨⟨q3,q0⟩,qa,qe⟩:=wk_out
  generalize outI wkL wkG=q at *
  rw [qa,qe]
  go_wp2_with (with_reducible refine (halt_store 24 _ _ rfl ?_))
  refine ⟨?_,trivial⟩
  refine wpList_store_is rfl 24 _ _ rfl w3.heap.size _ rfl rfl 24 _ ((heap_past _ _ _ (by rw [size_alloc];omega)).trans (heap_last w3 _ _ rfl)) (by kernel_rfl) rfl (by kernel_rfl) ?_
  intro wg1 sg1
  have G1:=Lib.hid sg1.row
  have P1:=Lib.hid (show wg1.heap[w3.heap.size + 1]?=some (.cells (mcC zM) 30 (0,0)) from (sg1.other _ (by omega)).trans (heap_last _ _ _ (by rw [size_alloc])))
  have C1:=Lib.hid (sg1.below (below_new (below_new (Below.refl w3.heap.size w3) _) _) (Nat.le_refl _))
  clear sg1
  go_wp2_with (with_reducible refine (halt_store 30 _ _ rfl ?_))
  refine ⟨?_,trivial⟩
  refine wpList_store_is rfl 30 _ _ rfl (w3.heap.size + 1) _ rfl rfl _ _ P1.out (by kernel_rfl) rfl (by kernel_rfl) ?_
  intro wm1 sm1
  have D1m:=Lib.hid sm1.row
  have D1g:=Lib.hid (row_stay G1.out sm1 (by omega))
  have D1b:=Lib.hid (sm1.below C1.out (by omega))
  clear sm1 G1 P1 C1
  have B1:=Lib.hid (below_call BB.out D1b.out)
  have g3:=row_cell D1g.out 3 (.int .u64 7) (by show some (Value.int .u64 (q.1.1 3))=_;rw [q3])
  have m0:=row_cell D1m.out 0 (.int .u64 7) (by show some (Value.int .u64 (q.1.2.r 0))=_;rw [q0])
  go_wp2_with fail
  go_ret
  exact ⟨rfl,B1.out⟩
theorem eq_rg11 (g:Nat → Int) (w:World):(Op.equalIn 10000 24 (.agg (rgC g)) (.agg (rgC g))).run Tryz.prog w=.ok true w:=
  array_reflE (d:=9998) (f:=g) Tryz.underlying24 (by kernel_rfl) (by kernel_rfl) Tryz.underlying23 (fun i hi=>rgC_reg g hi) w
def OwnI (base:Nat) (w:World) (v:Value) (l:List Ii):Prop:=w.ownsRow base 40 13 v l.length (flatI l)
theorem own_nil (base:Nat) (w:World):OwnI base w (.slice none 0 0) []:=World.ownsRow_nil _ _ _ _
theorem own_empty {base:Nat} {w:World} {g:Nat} (hb:base ≤ g) (h:w.heap[g]?=some (.cells #[] 40 (0,0))):OwnI base w (.slice (some ⟨g,0,none⟩) 0 0) []:=
  ⟨rfl,.inr ⟨g,0,#[],rfl,hb,h,Nat.le_refl _,by unfold maxLen;omega,rfl,rfl⟩⟩
theorem OwnI.keep {base:Nat} {w w':World} {v:Value} {l:List Ii} (h:OwnI base w v l) (b:Below w.heap.size w w'):OwnI base w' v l:=by
  rcases h with ⟨h1,h2⟩
  refine ⟨h1,?_⟩
  rcases h2 with h2 | ⟨g,cap,cur,e,hb,hg,h3⟩
  · exact .inl h2
  · exact .inr ⟨g,cap,cur,e,hb,(b.block g (Array.getElem?_eq_some_iff.1 hg).1).trans hg,h3⟩
theorem OwnI.irs {base:Nat} {w:World} {v:Value} {l:List Ii} (h:OwnI base w v l) (ok:∀ x ∈ l,IOk x):∃ a c,v=.slice a l.length c ∧ Irs w a l.length c l:=by
  rcases h with ⟨h1,h2⟩
  rcases h2 with ⟨e,hx⟩ | ⟨g,cap,cur,e,hb,hg,hle,hm,hs,ht⟩
  · have hl:l=[]:=by
      rw [hx] at h1
      exact List.eq_nil_of_length_eq_zero (by simp at h1;omega)
    subst hl
    exact ⟨none,0,e,Nat.le_refl _,by omega,rfl,fun h=>absurd h (Nat.lt_irrefl 0),ok,fun _=>rfl⟩
  · exact ⟨_,cap,e,irs_row hg ht rfl hle (by unfold maxLen at hm;omega) ok⟩
theorem wpList_append_i {ops:Array Oper} {rest:List Oper} {o:Oper} {a:Act} {Q:Exit → Act → World → Prop} {w:World} (hgd:o.guard=none) (s x:Operand)
    (ho:o.op=.call { callee:=.builtin .append,args:=#[s,x],argTypes:=#[22,22] })
    (base:Nat) (v:Value) (l:List Ii) (hs:a.eval s=v) (hown:OwnI base w v l) (xa:Option Addr) (m c:Nat) (k:List Ii) (hx:a.eval x=.slice xa m c) (hE:Irs w xa m c k)
    (hfew:l.length + m ≤ 100000) (hb:base ≤ w.heap.size)
    (h:∀ v' w',OwnI base w' v' (l ++ k) → w.grownBy w' v.ownBlock → wpList Tryz.prog ops Q rest (a.put o.dst v') w'):wpList Tryz.prog ops Q (o :: rest) a w:=by
  obtain ⟨ti,i1,i2,i3,i4⟩:=info_ir
  have hl:=hE.size
  cases xa with
  | none=>
    have h0:=hE.nilc rfl
    have h1:=hE.le
    obtain rfl:k=[]:=List.eq_nil_of_length_eq_zero (by omega)
    obtain rfl:m=0:=by omega
    subst h0
    refine wpList_append_own_none hgd s x 22 ho base 40 ti 13 Tryz.underlying22 i1 v l.length (flatI l) hs hown hx ?_
    exact h v w (by rw [List.append_nil];exact hown) ⟨rfl,rfl,rfl,Nat.le_refl _,fun _ _ _=>rfl⟩
  | some ad=>
    refine wpList_append_own w hgd s x 22 ho base 40 ti (.agg (iC zI)) 13 64 Tryz.underlying22 i1 i2 i3 i4 rfl (by decide) v l.length (flatI l) hs hown ad m c (flatI k) hx (by rw [flatI_len,hl]) hE.news (flatI_one k) (by unfold maxLen;omega) (by omega) hb (fun v' w' o g _=>h v' w' ?_ g)
    unfold OwnI
    rw [flatI_append,List.length_append,hl]
    exact o
theorem OwnI.lt {base:Nat} {w:World} {v:Value} {l:List Ii} (h:OwnI base w v l):∀ j,v.ownBlock=some j → base ≤ j:=fun j hj=>(World.ownsRow.lt h j hj).1
theorem row_app {base:Nat} {w w':World} {v:Value} {l:List Ii} {k:Nat} {A:Array Value} {T:TypeId} (h:w.heap[k]?=some (.cells A T (0,0))) (o:OwnI base w v l) (g:w.grownBy w' v.ownBlock) (hT:T ≠ 40):w'.heap[k]?=some (.cells A T (0,0)):=by
  refine (g.block k (Array.getElem?_eq_some_iff.1 h).1 (fun e=>?_)).trans h
  rcases o.2 with ⟨rfl,_⟩ | ⟨gg,cap,cur,rfl,_,hg,_⟩
  · simp [Value.ownBlock] at e
  · simp only [Value.ownBlock,Option.some.injEq] at e
    subst e
    rw [hg] at h
    simp only [Option.some.injEq,Obj.cells.injEq] at h
    exact hT h.2.1.symm
theorem below_app {base:Nat} {W w w':World} {v:Value} {l:List Ii} (b:Below base W w) (o:OwnI base w v l) (g:w.grownBy w' v.ownBlock) (hb:base ≤ w.heap.size):Below base W w':=
  b.trans ⟨g.os,g.tape,g.output,g.size,fun k hk=>g.block k (by omega) (fun e=>by have:=o.lt k e.symm;omega)⟩
theorem irs_app {W w w':World} {base:Nat} {v:Value} {l:List Ii} {a:Option Addr} {len cap:Nat} {k:List Ii} (h:Irs W a len cap k) (b:Below base W w') (hb:W.heap.size ≤ base):Irs w' a len cap k:=h.below b hb
theorem irs_one {w:World} {g:Nat} {x:Ii} (h:w.heap[g]?=some (.cells (iC x) 40 (0,0))) (ok:IOk x):Irs w (some ⟨g,0,none⟩) 1 1 [x]:=
  irs_row h rfl rfl (Nat.le_refl _) (by omega) (fun y hy=>by rw [List.mem_singleton.1 hy];exact ok)
theorem zX_ok:XOk zX:=by constructor <;> decide
theorem zx_ok {k r p n t:Int} (h1:I8 k) (h2:I8 r) (h3:I8 p) (h4:I64 n) (h5:I64 t):IOk ⟨k,zX,r,p,n,t⟩:=⟨h1,zX_ok,h2,h3,h4,h5⟩
open Mrm (Xi xC xL zX eqX mayX readsX writesX XOk)
open Flg (Fl zF)
def exI:Ii:=⟨6,zX,0,0,0,0⟩
theorem ex_ok:IOk exI:=zx_ok ⟨by decide,by decide⟩ ⟨by decide,by decide⟩ ⟨by decide,by decide⟩ ⟨by decide,by decide⟩ ⟨by decide,by decide⟩
theorem good_all {l:List Ii} (h:∀ x ∈ l,mayI x=true):¬ badL l < l.length:=by
  have:l.findIdx (fun i=>!mayI i)=l.length:=List.findIdx_eq_length.2 (fun x hx=>by simp [h x hx])
  unfold badL
  omega
theorem chk_all {l:List Ii} (h:(chkI l).2=0):∀ x ∈ l,mayI x=true:=by
  apply bad_all
  intro c
  unfold chkI at h
  rw [if_pos c] at h
  cases h
theorem out_all {l:List Ii} {g:Nat → Int} (h:(outI l g).2.2=0):(∀ x ∈ l,mayI x=true) ∧ (runF (l.take (stopL l)) (g,zM)).2=0:=by
  unfold outI at h
  by_cases c:badL l < l.length
  · rw [if_pos c] at h;cases h
  · rw [if_neg c] at h
    refine ⟨bad_all c,?_⟩
    by_cases e:(runF (l.take (stopL l)) (g,zM)).2=0
    · exact e
    · rw [if_neg e] at h;cases h
theorem out_is {l:List Ii} {g:Nat → Int} (h:∀ x ∈ l,mayI x=true):outI l g=if (runF (l.take (stopL l)) (g,zM)).2=0 then (((runF (l.take (stopL l)) (g,zM)).1.1,(runF (l.take (stopL l)) (g,zM)).1.2.upA 0),(stopL l:Int),0) else ((zG,zM),0,20):=if_neg (good_all h)
theorem stop_le (l:List Ii):stopL l ≤ l.length:=List.findIdx_le_length
theorem stop_app (l k:List Ii):stopL (l ++ k)=if stopL l < l.length then stopL l else stopL k + l.length:=List.findIdx_append
theorem out_behind {l k:List Ii} {g:Nat → Int} (hk:(chkI k).2=0) (hl:(outI l g).2.2=0):outI ((l ++ [exI]) ++ k) g=outI l g:=by
  have hL:=(out_all hl).1
  have hA:∀ x ∈ (l ++ [exI]) ++ k,mayI x=true:=by
    intro x hx
    rcases List.mem_append.1 hx with h | h
    · rcases List.mem_append.1 h with h | h
      · exact hL x h
      · rw [List.mem_singleton.1 h];rfl
    · exact chk_all hk x h
  have hs:stopL ((l ++ [exI]) ++ k)=stopL l:=by
    rw [List.append_assoc,stop_app]
    split
    · rfl
    · have:=stop_le l
      have e:stopL ([exI] ++ k)=0:=rfl
      omega
  have ht:((l ++ [exI]) ++ k).take (stopL l)=l.take (stopL l):=by
    rw [List.append_assoc,List.take_append_of_le_length (stop_le l)]
  rw [out_is hA,out_is hL,hs,ht]
end Go.Proofs.YtbpehbeakhocnaaGreatDoor.Irn
namespace Go.Proofs.YtbpehbeakhocnaaGreatDoor.Mrm
open Go Go.RowKit
set_option maxRecDepth 100000
theorem xok_a:XOk ⟨0,64,0,3,0,0,0,0⟩:=⟨by decide,by decide,by decide,by decide,by decide,by decide,by decide,by decide⟩
theorem xok_b:XOk ⟨26,8,1,0,4,16,0,0⟩:=⟨by decide,by decide,by decide,by decide,by decide,by decide,by decide,by decide⟩
theorem xok_c:XOk ⟨30,0,0,0,0,0,0,0⟩:=⟨by decide,by decide,by decide,by decide,by decide,by decide,by decide,by decide⟩
theorem wk_a:bytL ⟨0,64,0,3,0,0,0,0⟩=[72,137,216] ∧ bytC ⟨0,64,0,3,0,0,0,0⟩=0:=by decide +kernel
theorem wk_b:bytL ⟨26,8,1,0,4,16,0,0⟩=[15,182,140,36,16,0,0,0] ∧ bytC ⟨26,8,1,0,4,16,0,0⟩=0:=by decide +kernel
theorem wk_c:bytL ⟨30,0,0,0,0,0,0,0⟩=[195] ∧ bytC ⟨30,0,0,0,0,0,0,0⟩=0:=by decide +kernel
theorem ws_a:strOfNums [72,137,216]=(⟨#[72,137,216]⟩:ByteArray):=by decide
theorem ws_b:strOfNums [15,182,140,36,16,0,0,0]=(⟨#[15,182,140,36,16,0,0,0]⟩:ByteArray):=by decide
theorem ws_c:strOfNums [195]=(⟨#[195]⟩:ByteArray):=by decide
theorem eqX_false {x y:Xi} (h:¬ x=y):eqX x y=false:=by
  cases e:eqX x y
  · rfl
  · exact absurd (eqX_iff.1 e) h
theorem eqX_refl (x:Xi):eqX x x=true:=eqX_iff.2 rfl
theorem bts_slice {base:Nat} {w:World} {v:Value} {l:List Int} (h:Bts base w v l):∃ p c,v=.slice p l.length c:=by
  rcases h.2 with ⟨h1,h2⟩ | ⟨g,cap,cur,e1,h⟩
  · obtain rfl:l=[]:=List.eq_nil_of_length_eq_zero h2
    exact ⟨none,0,h1⟩
  · exact ⟨_,_,e1⟩
theorem info_X {X:Array Value} (h:X.size=8):(Tryz.prog.info? 38).map (·.size)=some X.size:=by rw [h];kernel_rfl
theorem wpList_gload_row {P:Program} {ops:Array Oper} {rest:List Oper} {o:Oper} {a:Act} {w:World} {Q:Exit → Act → World → Prop} (hw:Region.wanted o (yielded ops a.tmps)=true) (ty:TypeId) (x:Operand) (ho:o.op=.load ty x)
    (g:Nat) (hx:a.eval x=.pointer (some ⟨g,0,none⟩)) (t:TypeId) (cs:Array Value) (fr:Nat × Nat) (d:TypeDesc) (hg:w.heap[g]?=some (.cells cs t fr))
    (hu:P.underlying ty=some d) (hd:(match d with | .struct _ | .array _ _=>true | _=>false)=true) (hi:(P.info? ty).map (·.size)=some cs.size)
    (h:wpList P ops Q rest (a.put o.dst (.agg cs)) w):wpList P ops Q (o :: rest) a w:=
  wpList_step fun K hK=>by rw [if_pos hw];exact wp_load_row ty x ho g hx t cs fr d hg hu hd hi (hK _ _ h)
theorem halt_load0 {P:Program} {ops:Array Oper} {rest:List Oper} {o:Oper} {a:Act} {w:World} {Q:Exit → Act → World → Prop} (ty:TypeId) (x:Operand) (ho:o.op=.load ty x) (hg:o.guard=none)
    (h:wpList P ops Q (o :: rest) a w ∧ True):wpList P ops Q (o :: rest) a w:=h.1
theorem str_ne {zs ys:List Int} (h1:Oks zs) (h2:Oks ys) (h:¬ zs=ys):((strOfNums zs).toList == (strOfNums ys).toList)=false:=by
  rw [beq_eq_false_iff_ne]
  exact fun e=>h (str_inj h1 h2 (by
    rw [ByteArray.toList_eq,ByteArray.toList_eq] at e
    exact ByteArray.ext (Array.toList_inj.1 e)))
theorem bytL_ok (x:Xi) (hX:XOk x):Oks (bytL x):=by
  unfold bytL
  cases h:mayX x
  · intro z hz;cases hz
  · exact bytes_ok x hX h
theorem bytL_len (x:Xi) (hX:XOk x):(bytL x).length ≤ 14:=by
  unfold bytL
  cases h:mayX x
  · exact Nat.zero_le _
  · exact bytes_len x hX h
theorem bytL_no {x:Xi} (h:mayX x=false):bytL x=[] ∧ bytC x=2:=by unfold bytL bytC;rw [h];exact ⟨rfl,rfl⟩
theorem bytL_yes {x:Xi} (h:mayX x=true):bytL x=bytesX x ∧ bytC x=0:=by unfold bytL bytC;rw [h];exact ⟨rfl,rfl⟩
end Go.Proofs.YtbpehbeakhocnaaGreatDoor.Mrm
