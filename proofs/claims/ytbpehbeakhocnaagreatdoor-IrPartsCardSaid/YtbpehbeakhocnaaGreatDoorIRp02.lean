import Derived.Test.YtbpehbeakhocnaaGreatDoorIRp01
import Derived.Test.YtbpehbeakhocnaaGreatDoorIRm42
set_option maxHeartbeats 16000000
set_option linter.unusedVariables false
set_option linter.unusedSimpArgs false
set_option linter.unnecessarySimpa false
namespace Go.Proofs.YtbpehbeakhocnaaGreatDoor.Irn
open Go Go.RowKit
open Mrm (Xi xC xL zX eqX mayX readsX writesX XOk heap_below)
open Flg (Fl fC zF mayC holF)
open Exe
set_option maxRecDepth 100000
def ph (k:Nat):Int:=if k=3 then 11 else k
theorem ph_cell (k:Nat) (h:k < 4):(#[.int .i8 0,.int .i8 1,.int .i8 2,.int .i8 11]:Array Value)[k]?=some (.int .i8 (ph k)):=by
  rcases (show k=0 ∨ k=1 ∨ k=2 ∨ k=3 by omega) with rfl | rfl | rfl | rfl <;> rfl
theorem tk_next (k:Nat) (h:k < 4):tk4.take k ++ [tk k (ph k)]=tk4.take (k + 1):=by
  rcases (show k=0 ∨ k=1 ∨ k=2 ∨ k=3 by omega) with rfl | rfl | rfl | rfl <;> rfl
theorem tk_ok (k:Nat) (h:k < 4):IOk (tk k (ph k)):=by
  rcases (show k=0 ∨ k=1 ∨ k=2 ∨ k=3 by omega) with rfl | rfl | rfl | rfl <;> exact zx_ok (by constructor <;> decide) (by constructor <;> decide) (by constructor <;> decide) (by constructor <;> decide) (by constructor <;> decide)
theorem tk4_ok:∀ x ∈ tk4,IOk x:=by
  intro x hx
  simp only [tk4,List.mem_cons,List.not_mem_nil,or_false] at hx
  rcases hx with rfl | rfl | rfl | rfl
  · exact tk_ok 0 (by omega)
  · exact tk_ok 1 (by omega)
  · exact tk_ok 2 (by omega)
  · exact tk_ok 3 (by omega)
theorem cp_ok:IOk cpI:=⟨by constructor <;> decide,by constructor <;> decide,by constructor <;> decide,by constructor <;> decide,by constructor <;> decide,by constructor <;> decide⟩
structure KQ (W:World) (gR gA:Nat) (g A:Nat → Int) (l:List Ii) (v:Value) (w:World):Prop where
  fb:Below W.heap.size W w
  fr:w.heap[gR]?=some (.cells (rgC g) 24 (0,0))
  fa:w.heap[gA]?=some (.cells (rgC A) 24 (0,0))
  ow:OwnI W.heap.size w v l
section
variable {W w w':World} {gR gA:Nat} {g A:Nat → Int} {l l':List Ii} {v v':Value}
theorem KQ.new (h:KQ W gR gA g A l v w) (ob:Obj):KQ W gR gA g A l v (w.alloc ob):=by
  have b:=below_new (Below.refl w.heap.size w) ob
  exact ⟨below_new h.fb ob,row_heap h.fr b,row_heap h.fa b,h.ow.keep b⟩
theorem KQ.app (h:KQ W gR gA g A l v w) (g':w.grownBy w' v.ownBlock) (o':OwnI W.heap.size w' v' l'):KQ W gR gA g A l' v' w':=
  ⟨below_app h.fb h.ow g' h.fb.size,row_app h.fr h.ow g' (by decide),row_app h.fa h.ow g' (by decide),o'⟩
end
theorem out_gok {l:List Ii} {g:Nat → Int} (hg:GOk g) (hl:(outI l g).2.2=0):GOk (outI l g).1.1:=by
  obtain ⟨t,et,eo⟩:=run_out hl
  rw [eo]
  exact (run_ok (s:=(g,zM)) hg zM_ok et).1
theorem out_at {l:List Ii} {g:Nat → Int} (hl:(outI l g).2.2=0):0 ≤ (outI l g).2.1 ∧ (outI l g).2.1 ≤ (l.length:Int):=by
  obtain ⟨t,et,eo⟩:=run_out hl
  have:=stop_le l
  rw [eo]
  show 0 ≤ (stopL l:Int) ∧ (stopL l:Int) ≤ _
  omega
theorem parts_main (a:Option Addr) (len cap:Nat) (l:List Ii) (a2:Option Addr) (len2 cap2:Nat) (k':List Ii) (g:Nat → Int) (W:World) (hL:Irs W a len cap l) (hK:Irs W a2 len2 cap2 k') (hg:GOk g) (hT:Tb W) (l60:len ≤ 60) (k60:len2 ≤ 60):
    Calls Tryz.prog 5 #[.slice a len cap,.slice a2 len2 cap2,.agg (rgC g)] W fun e w'=>e=.returned (.bool true) ∧ Below W.heap.size W w':=by
  have mo:Tryz.prog.follows .mixedOrders=true:=by kernel_rfl
  have HT:=Lib.hid hT
  have HL:=Lib.hid hL
  have HK:=Lib.hid hK
  have HG:=Lib.hid hg
  have e1:=hL.le
  have e2:=hL.fit
  have e3:=hK.le
  have e4:=hK.fit
  have S1:=Lib.hid hL.size
  have S2:=Lib.hid hK.size
  have b0:=below_new (Below.refl W.heap.size W) (.cells (rgC g) 24)
  have r0:(W.alloc (.cells (rgC g) 24)).heap[W.heap.size]?=some (.cells (rgC g) 24 (0,0)):=heap_last _ _ _ rfl
  have B0:=Lib.hid b0
  have R0:=Lib.hid r0
  have g1:decide ((60:Int) < (len:Int))=false:=by simp;omega
  have g2:decide ((60:Int) < (len2:Int))=false:=by simp;omega
  clear hL hK hg hT b0 r0
  go_enter Tryz.func5,Tryz.ntmps5
  go_wp2_with (with_reducible refine (halt_load 24 _ rfl ?_))
  refine ⟨?_,trivial⟩
  refine wpList_load_row rfl 24 _ rfl _ rfl _ _ _ _ R0.out Tryz.underlying24 rfl (by kernel_rfl) ?_
  go_wp2_with fail
  refine (ido_n a len cap l g _ (HT.out.below B0.out (Nat.le_refl _)) (HL.out.below B0.out (Nat.le_refl _)) (by omega) HG.out).mono ?_
  rintro e w31 ⟨rfl,b3⟩
  have RG_1:=Lib.hid (row_heap R0.out b3)
  have BB1:=Lib.hid (below_call B0.out b3)
  clear b3
  obtain ⟨q1,HQ1⟩:∃ q,Hid (outI l g=q):=⟨_,Lib.hid rfl⟩
  rw [HQ1.out]
  obtain ⟨⟨qg,qm⟩,qa,qe⟩:=q1
  simp only
  go_wp2_with (with_reducible refine (halt_store 24 _ _ rfl ?_))
  refine ⟨?_,trivial⟩
  refine wpList_store_is rfl 24 _ _ rfl w31.heap.size _ rfl rfl 24 _ ((heap_past _ _ _ (by rw [size_alloc];omega)).trans (heap_last w31 _ _ rfl)) (by kernel_rfl) rfl (by kernel_rfl) ?_
  intro wg1 sg1
  have G1:=Lib.hid sg1.row
  have P1:=Lib.hid (show wg1.heap[w31.heap.size + 1]?=some (.cells (mcC zM) 30 (0,0)) from (sg1.other _ (by omega)).trans (heap_last _ _ _ (by rw [size_alloc])))
  have C1:=Lib.hid (sg1.below (below_new (below_new (Below.refl w31.heap.size w31) _) _) (Nat.le_refl _))
  clear sg1
  go_wp2_with (with_reducible refine (halt_store 30 _ _ rfl ?_))
  refine ⟨?_,trivial⟩
  refine wpList_store_is rfl 30 _ _ rfl (w31.heap.size + 1) _ rfl rfl _ _ P1.out (by kernel_rfl) rfl (by kernel_rfl) ?_
  intro wm1 sm1
  have D1m:=Lib.hid sm1.row
  have D1g:=Lib.hid (row_stay G1.out sm1 (by omega))
  have D1b:=Lib.hid (sm1.below C1.out (by omega))
  clear sm1 G1 P1 C1
  have RG1:=Lib.hid (row_heap RG_1.out D1b.out)
  have B1:=Lib.hid (below_call BB1.out D1b.out)
  by_cases hq:qe=0
  case neg=>
    have e0:(qe != 0)=true:=by simpa using hq
    clear hq
    go_wp2_with fail
    refine (wakes_n _ (HT.out.below B1.out (Nat.le_refl _))).mono ?_
    rintro e w9 ⟨rfl,b9⟩
    have B9:=Lib.hid (below_call B1.out b9)
    clear b9
    go_wp2_with fail
    go_ret
    exact ⟨rfl,B9.out⟩
  case pos=>
    subst hq
    by_cases hi:qa < (len:Int)
    case pos=>
      have e0:decide (qa < (len:Int))=true:=by simpa using hi
      clear hi
      go_wp2_with fail
      refine (wakes_n _ (HT.out.below B1.out (Nat.le_refl _))).mono ?_
      rintro e w9 ⟨rfl,b9⟩
      have B9:=Lib.hid (below_call B1.out b9)
      clear b9
      go_wp2_with fail
      go_ret
      exact ⟨rfl,B9.out⟩
    case neg=>
      have e0:decide (qa < (len:Int))=false:=by simpa using hi
      have QG:=Lib.hid (show GOk qg by have h:=out_gok (l:=l) HG.out (by rw [HQ1.out]);rw [HQ1.out] at h;exact h)
      have HI:=Lib.hid hi
      obtain ⟨gR,hgR⟩:∃ x,x=W.heap.size:=⟨_,rfl⟩
      obtain ⟨gA,hgA⟩:∃ x,x=w31.heap.size:=⟨_,rfl⟩
      have KA:=Lib.hid (show KQ W gR gA g qg (tk4.take 0) (.slice none 0 0) wm1 by
        rw [hgR,hgA]
        exact ⟨B1.out,RG1.out,D1g.out,own_nil _ _⟩)
      clear B1 RG1 D1g D1m D1b BB1 RG_1 B0 R0 hi
      rw [← hgR,← hgA]
      clear hgR hgA
      go_wp2_with fail
      have GP:=Lib.hid (show (wm1.alloc (.cells #[.int .i8 0,.int .i8 1,.int .i8 2,.int .i8 11] 36)).heap[wm1.heap.size]?=some (.cells #[.int .i8 0,.int .i8 1,.int .i8 2,.int .i8 11] 36 (0,0)) from heap_last _ _ _ rfl)
      obtain ⟨gP,hgP⟩:∃ x,x=wm1.heap.size:=⟨_,rfl⟩
      rw [← hgP] at GP
      rw [← hgP]
      have KB:=Lib.hid (KA.out.new (.cells #[.int .i8 0,.int .i8 1,.int .i8 2,.int .i8 11] 36))
      clear KA hgP
      go_loopw [11,50] (fun v i wr=>∃ k:Nat,k ≤ 4 ∧ i=.int .i64 k ∧ Hid (KQ W gR gA g qg (tk4.take k) v wr ∧ wr.heap[gP]?=some (.cells #[.int .i8 0,.int .i8 1,.int .i8 2,.int .i8 11] 36 (0,0)))) (fun _ i _=>4 - (intOf i).toNat)
      case atStart=>exact ⟨0,by omega,rfl,Lib.hid ⟨KB.out,GP.out⟩⟩
      case round=>
        obtain ⟨k,hk,rfl,KP⟩:=hrel
        by_cases hlt:k < 4
        · have CK:=row_cell KP.out.2 k _ (ph_cell k hlt)
          have WK:IntKind.i8.wrap (k:Int)=k:=by simp [IntKind.wrap,IntKind.signed,IntKind.bits];omega
          have TL:=Lib.hid (show (tk4.take k).length=k by rw [List.length_take];show min k 4=k;omega)
          have TN:=Lib.hid (tk_next k hlt)
          have TO:=Lib.hid (tk_ok k hlt)
          generalize tk4.take k=q at *
          generalize ph k=p at *
          have OX:=Lib.hid (KP.out.1.new (.cells (iC (tk k p)) 40))
          go_wp2_with (at_builtin;refine wpList_append_i rfl _ _ rfl W.heap.size _ q rfl OX.out.ow (some ⟨wr.heap.size,0,none⟩) 1 1 [tk k p] rfl (irs_one (heap_last _ _ _ rfl) TO.out) (by rw [TL.out];omega) OX.out.fb.size ?_)
          intro v8 w8 o8 g8
          have K8:=Lib.hid (show KQ W gR gA g qg (tk4.take (k + 1)) v8 w8 ∧ w8.heap[gP]?=some (.cells #[.int .i8 0,.int .i8 1,.int .i8 2,.int .i8 11] 36 (0,0)) from
            ⟨OX.out.app g8 (TN.out ▸ o8),row_app (row_heap KP.out.2 (below_new (Below.refl wr.heap.size wr) _)) OX.out.ow g8 (by decide)⟩)
          clear o8 g8
          go_wp2_with fail
          go_roundw
          case rel=>exact ⟨k + 1,by omega,by go_num,K8⟩
          case measure=>simp [intOf];omega
        · obtain rfl:k=4:=by omega
          have KC:=Lib.hid (show KQ W gR gA g qg tk4 _ wr from KP.out.1)
          clear KB KP GP hk hlt
          have OX:=Lib.hid (KC.out.new (.cells (iC cpI) 40))
          go_wp2_with (at_builtin;refine wpList_append_i rfl _ _ rfl W.heap.size _ tk4 rfl OX.out.ow (some ⟨wr.heap.size,0,none⟩) 1 1 [cpI] rfl (irs_one (heap_last _ _ _ rfl) cp_ok) (by show 4 + 1 ≤ 100000;omega) OX.out.fb.size ?_)
          intro v5 w5 o5 g5
          obtain ⟨l5,hl5⟩:∃ x,x=tk4 ++ [cpI]:=⟨_,rfl⟩
          have K5:=Lib.hid (show KQ W gR gA g qg l5 v5 w5 from OX.out.app g5 (hl5 ▸ o5))
          have N5:=Lib.hid (show l5.length=5 by rw [hl5];rfl)
          have OK5:=Lib.hid (show ∀ x ∈ l5,IOk x by
            rw [hl5]
            intro x hx
            rcases List.mem_append.1 hx with h | h
            · exact tk4_ok x h
            · rw [List.mem_singleton.1 h];exact cp_ok)
          have HL5:=Lib.hid hl5
          clear o5 g5 hl5 OX KC
          go_wp2_with (at_builtin;refine wpList_append_i rfl _ _ rfl W.heap.size v5 l5 rfl K5.out.ow a2 len2 cap2 k' rfl (HK.out.below K5.out.fb (Nat.le_refl _)) (by rw [N5.out];omega) K5.out.fb.size ?_)
          intro v6 w6 o6 g6
          obtain ⟨sec,hsec⟩:∃ x,x=l5 ++ k':=⟨_,rfl⟩
          have K6:=Lib.hid (show KQ W gR gA g qg sec v6 w6 from K5.out.app g6 (hsec ▸ o6))
          have NS:=Lib.hid (show sec.length=5 + len2 by rw [hsec,List.length_append,N5.out,S2.out])
          obtain ⟨a3,c3,rfl,i3⟩:=K6.out.ow.irs (fun x hx=>by
            rw [hsec] at hx
            exact (List.mem_append.1 hx).elim (OK5.out x) (HK.out.ok x))
          have I3:=Lib.hid i3
          have HS:=Lib.hid (show sec=(tk4 ++ [cpI]) ++ k' by rw [hsec,HL5.out])
          clear o6 g6 hsec i3 K5 OK5 N5 HL5
          go_wp2_with (with_reducible refine (halt_load 24 _ rfl ?_))
          refine ⟨?_,trivial⟩
          refine wpList_load_row rfl 24 _ rfl _ rfl _ _ _ _ K6.out.fa Tryz.underlying24 rfl (by kernel_rfl) ?_
          go_wp2_with fail
          refine (ido_n a3 _ c3 sec qg _ (HT.out.below K6.out.fb (Nat.le_refl _)) I3.out (by rw [NS.out];omega) QG.out).mono ?_
          rintro e w32 ⟨rfl,b3⟩
          have RG_2:=Lib.hid (row_heap K6.out.fr b3)
          have BB2:=Lib.hid (below_call K6.out.fb b3)
          have b3':=b3
          clear b3
          have I3w:=Lib.hid (I3.out.below b3' (Nat.le_refl _))
          clear b3'
          obtain ⟨q2,HQ2⟩:∃ q,Hid (outI sec qg=q):=⟨_,Lib.hid rfl⟩
          rw [HQ2.out]
          obtain ⟨⟨zg,zm⟩,za,ze⟩:=q2
          simp only
          go_wp2_with (with_reducible refine (halt_store 24 _ _ rfl ?_))
          refine ⟨?_,trivial⟩
          refine wpList_store_is rfl 24 _ _ rfl w32.heap.size _ rfl rfl 24 _ ((heap_past _ _ _ (by rw [size_alloc];omega)).trans (heap_last w32 _ _ rfl)) (by kernel_rfl) rfl (by kernel_rfl) ?_
          intro wg2 sg2
          have G2:=Lib.hid sg2.row
          have P2:=Lib.hid (show wg2.heap[w32.heap.size + 1]?=some (.cells (mcC zM) 30 (0,0)) from (sg2.other _ (by omega)).trans (heap_last _ _ _ (by rw [size_alloc])))
          have C2:=Lib.hid (sg2.below (below_new (below_new (Below.refl w32.heap.size w32) _) _) (Nat.le_refl _))
          clear sg2
          go_wp2_with (with_reducible refine (halt_store 30 _ _ rfl ?_))
          refine ⟨?_,trivial⟩
          refine wpList_store_is rfl 30 _ _ rfl (w32.heap.size + 1) _ rfl rfl _ _ P2.out (by kernel_rfl) rfl (by kernel_rfl) ?_
          intro wm2 sm2
          have D2m:=Lib.hid sm2.row
          have D2g:=Lib.hid (row_stay G2.out sm2 (by omega))
          have D2b:=Lib.hid (sm2.below C2.out (by omega))
          clear sm2 G2 P2 C2
          have RG2:=Lib.hid (row_heap RG_2.out D2b.out)
          have B2:=Lib.hid (below_call BB2.out D2b.out)
          have I3M:=Lib.hid (I3w.out.below D2b.out (Nat.le_refl _))
          obtain ⟨q3,HOUT⟩:∃ q,Hid (outI (l ++ sec) g=q):=⟨_,Lib.hid rfl⟩
          obtain ⟨⟨yg,ym⟩,ya,ye⟩:=q3
          have OP:=out_parts (l:=l) (k:=k') (g:=g) (by rw [HQ1.out]) (by rw [HQ1.out,S1.out];show ¬ qa < (len:Int);have:=HI.out;omega)
          rw [← HS.out,HQ1.out,HQ2.out,HOUT.out] at OP
          simp only at OP
          obtain ⟨hye,hyy⟩:=OP
          subst hye
          have HYY:=Lib.hid hyy
          have hbase:wm2.heap.size ≤ wm2.heap.size:=Nat.le_refl _
          have hWb:W.heap.size ≤ wm2.heap.size:=B2.out.size
          clear hyy
          go_wp2_with fail
          refine go_regz (RS wm2 wm2.heap.size 12 13 14 15 18 19 yg ym (OWb wm2.heap.size 0 2 4 80 82 84 l sec)) [12,13,14,15,0,2,4] [18,19,80,82,84] [none,some (.slice a len cap),none,some (.slice a3 sec.length c3),none,some (.agg (rgC g)),some (.tuple #[.agg (rgC yg),.agg (mcC ym),.int .i64 ya,.int .i64 ye]),some (.tuple #[.agg (rgC yg),.agg (mcC ym),.int .i64 ya,.int .i64 ye]),some (.agg (rgC yg)),some (.agg (mcC ym)),some (.int .i64 ya),some (.int .i64 ye),none,none,none,none,some (.int .i64 ya),some (.int .i64 ye)] mo (fun fl fl' u u' w hK hD h=>RS.step h (Below.refl _ _) (fun _ _ _ _ h=>h) ⟨hK 12 (by decide),hK 13 (by decide),hK 14 (by decide),hK 15 (by decide)⟩ ⟨hD 18 (by decide),hD 19 (by decide)⟩ (OWb.keep h.ow (fun _ _ h=>h) ⟨hK 0 (by decide),hK 2 (by decide),hK 4 (by decide)⟩ ⟨hD 80 (by decide),hD 82 (by decide),hD 84 (by decide)⟩)) rfl rfl (by kernel_rfl) (fun fl w1 hfl b hh=>⟨b.mono hbase,⟨fun c=>(by rw [(hfl 0 (Nat.le_of_ble_eq_true rfl))] at c;cases c),fun c=>(by rw [(hfl 2 (Nat.le_of_ble_eq_true rfl))] at c;cases c),fun c=>(by rw [(hfl 4 (Nat.le_of_ble_eq_true rfl))] at c;cases c)⟩,fun c=>(by rw [(hfl 12 (Nat.le_of_ble_eq_true rfl))] at c;cases c),fun c=>(by rw [(hfl 13 (Nat.le_of_ble_eq_true rfl))] at c;cases c)⟩) (
           zc (@fun fl ax wx cx=>by
             have hb:=Nat.le_trans hbase cx.S.fx.size
             obtain ⟨h1,h2,h3⟩:=cx.S.ow
             have n2:=cx.later 2 (by kernel_rfl)
             have n4:=not_yet cx.clo n2 (by kernel_rfl:isLater _ 4 2=true)
             have bn:=below_new (Below.refl wx.heap.size wx) (.cells #[] 40)
             exact cx.vt rfl (exec_bs0 rfl) rfl rfl trivial (RS.step cx.S (bn.mono hb) (KeepO.of bn) ⟨upd_old _ rfl,upd_old _ rfl,upd_old _ rfl,upd_old _ rfl⟩ ⟨slot_old rfl,slot_old rfl⟩ ⟨fun _ _=>by rw [slot_new cx.sz rfl];exact own_empty hb (heap_last _ _ _ rfl),fun c=>(by rw [upd_old _ rfl,n2] at c;cases c),fun c=>by rw [upd_old _ rfl,n4] at c;cases c⟩)) <|
           zc (@fun fl ax wx cx=>cx.v (ex_mv rfl (cx.rq 0 rfl)) rfl rfl) <|
           zc (@fun fl ax wx cx=>by
             have hb:=Nat.le_trans hbase cx.S.fx.size
             obtain ⟨h1,h2,h3⟩:=cx.S.ow
             have n4:=cx.later 4 (by kernel_rfl)
             have oo:=h1 (cx.did 0 rfl rfl) cx.fi
             obtain ⟨v',w',hr,o',g'⟩:=run_append_i 22 wm2.heap.size _ [] oo _ _ _ _ (HL.out.below (B2.out.trans (cx.S.fx.mono hWb)) (Nat.le_refl _)) (by show 0 + len ≤ 100000;omega) hb
             exact cx.vt rfl (exec_append rfl (show ax.tmps.getD 80 undef=slotOf ax 80 from rfl) (cx.u 1 rfl) hr) rfl rfl trivial (RS.step cx.S (below_app (Below.refl _ _) oo g' hb) (fun k C T hT h=>row_app h oo g' hT) ⟨upd_old _ rfl,upd_old _ rfl,upd_old _ rfl,upd_old _ rfl⟩ ⟨slot_old rfl,slot_old rfl⟩ ⟨fun c d=>(by rw [upd_new] at d;cases d),fun _ _=>(by rw [slot_new cx.sz rfl];exact o'),fun c=>by rw [upd_old _ rfl,n4] at c;cases c⟩)) <|
           zc (@fun fl ax wx cx=>cx.v (ex_mv rfl (cx.rq 11 rfl)) rfl rfl) <|
           zc (@fun fl ax wx cx=>by
             have hb:=Nat.le_trans hbase cx.S.fx.size
             obtain ⟨h1,h2,h3⟩:=cx.S.ow
             have oo:=h2 (cx.did 0 rfl rfl) cx.fi
             obtain ⟨v',w',hr,o',g'⟩:=run_append_i 22 wm2.heap.size _ l oo _ _ _ _ (I3M.out.below cx.S.fx (Nat.le_refl _)) (by rw [S1.out,NS.out];omega) hb
             exact cx.vt rfl (exec_append rfl (show ax.tmps.getD 82 undef=slotOf ax 82 from rfl) (cx.u 1 rfl) hr) rfl rfl trivial (RS.step cx.S (below_app (Below.refl _ _) oo g' hb) (fun k C T hT h=>row_app h oo g' hT) ⟨upd_old _ rfl,upd_old _ rfl,upd_old _ rfl,upd_old _ rfl⟩ ⟨slot_old rfl,slot_old rfl⟩ ⟨fun c d=>(by rw [upd_old _ rfl] at d;rw [show fl 2=true from cx.did 0 rfl rfl] at d;cases d),fun c d=>(by rw [upd_new] at d;cases d),fun _=>by rw [slot_new cx.sz rfl];exact o'⟩)) <|
           zc (@fun fl ax wx cx=>cx.v (ldRgW rfl (cx.rq 5 rfl) (heap_below cx.S.fx RG2.out (Nat.le_refl _))) rfl rfl) <|
           zc (@fun fl ax wx cx=>by
             have hb:=Nat.le_trans hbase cx.S.fx.size
             have o':OwnI wm2.heap.size wx (slotOf ax 84) (l ++ sec):=(cx.S.ow).2.2 (cx.did 0 rfl rfl)
             obtain ⟨a3,c3,e3,i3⟩:=o'.irs (fun x hx=>(List.mem_append.1 hx).elim (HL.out.ok x) (I3M.out.ok x))
             have DO:=ido_n a3 _ c3 (l ++ sec) g wx (HT.out.below (B2.out.trans (cx.S.fx.mono hWb)) (Nat.le_refl _)) i3 (by rw [List.length_append,S1.out,NS.out];omega) HG.out
             rw [HOUT.out] at DO
             refine cx.ct rfl rfl (args2 (show ax.tmps.getD 84 undef=_ from e3) (cx.u 1 rfl)) Tryz.func9 (by decide +kernel) rfl rfl (DO.mono ?_)
             rintro e w' ⟨rfl,b'⟩
             exact ⟨_,rfl,rfl,(RS.step cx.S (b'.mono hb) (KeepO.of b') ⟨upd_old _ rfl,upd_old _ rfl,upd_old _ rfl,upd_old _ rfl⟩ ⟨slot_old rfl,slot_old rfl⟩ (OWb.keep cx.S.ow (KeepI.of b') ⟨upd_old _ rfl,upd_old _ rfl,upd_old _ rfl⟩ ⟨slot_old rfl,slot_old rfl,slot_old rfl⟩))⟩) <|
           zc (@fun fl ax wx cx=>cx.v (ex_mv rfl (cx.u 0 rfl)) rfl rfl) <|
           zc (@fun fl ax wx cx=>cx.v (ex_ext (x:=.tmp 79) rfl (cx.u 0 rfl) rfl) rfl rfl) <|
           zc (@fun fl ax wx cx=>cx.v (ex_ext (x:=.tmp 79) rfl (cx.u 0 rfl) rfl) rfl rfl) <|
           zc (@fun fl ax wx cx=>cx.v (ex_ext (x:=.tmp 79) rfl (cx.u 0 rfl) rfl) rfl rfl) <|
           zc (@fun fl ax wx cx=>cx.v (ex_ext (x:=.tmp 79) rfl (cx.u 0 rfl) rfl) rfl rfl) <|
           zc (@fun fl ax wx cx=>by
             have hb:=Nat.le_trans hbase cx.S.fx.size
             have bn:=below_new (Below.refl wx.heap.size wx) (.cells (rgC zG) 24)
             exact cx.vt rfl (al_rg rfl) rfl rfl trivial (RS.putg cx.S hb ⟨upd_old _ rfl,(upd_old _ rfl).trans (cx.later 14 (by kernel_rfl)),upd_old _ rfl⟩ ⟨slot_new cx.sz rfl,slot_old rfl⟩ (OWb.keep cx.S.ow (KeepI.of bn) ⟨upd_old _ rfl,upd_old _ rfl,upd_old _ rfl⟩ ⟨slot_old rfl,slot_old rfl,slot_old rfl⟩))) <|
           zc (@fun fl ax wx cx=>by
             have hb:=Nat.le_trans hbase cx.S.fx.size
             have bn:=below_new (Below.refl wx.heap.size wx) (.cells (mcC zM) 30)
             exact cx.vt rfl (al_mc rfl) rfl rfl trivial (RS.putm cx.S hb ⟨upd_old _ rfl,(upd_old _ rfl).trans (cx.later 15 (by kernel_rfl)),upd_old _ rfl⟩ ⟨slot_new cx.sz rfl,slot_old rfl⟩ (OWb.keep cx.S.ow (KeepI.of bn) ⟨upd_old _ rfl,upd_old _ rfl,upd_old _ rfl⟩ ⟨slot_old rfl,slot_old rfl,slot_old rfl⟩))) <|
           zc (@fun fl ax wx cx=>by
             obtain ⟨p,e,hp,hr⟩:=cx.S.g (cx.did 0 rfl rfl)
             rw [cx.fi] at hr
             exact cx.st rfl (exec_storeR 24 (.tmp 18) (.tmp 87) rfl p (rgC yg) (show ax.tmps.getD 18 undef=_ from e) (cx.u 1 rfl) hr (by kernel_rfl) rfl (rgC_one _)) rfl trivial (RS.stg cx.S hp e (stored_setRow _ _ _ _ _ hr) ⟨_,hr⟩ ⟨upd_old _ rfl,upd_old _ rfl,upd_new _ _,upd_old _ rfl⟩ (OWb.keep cx.S.ow (KeepI.st hr (by decide) (stored_setRow _ _ _ _ _ hr)) ⟨upd_old _ rfl,upd_old _ rfl,upd_old _ rfl⟩ ⟨rfl,rfl,rfl⟩))) <|
           zc (@fun fl ax wx cx=>by
             obtain ⟨p,e,hp,hr⟩:=cx.S.m (cx.did 0 rfl rfl)
             rw [cx.fi] at hr
             exact cx.st rfl (exec_storeR 30 (.tmp 19) (.tmp 88) rfl p (mcC ym) (show ax.tmps.getD 19 undef=_ from e) (cx.u 1 rfl) hr (by kernel_rfl) rfl (mcC_one _)) rfl trivial (RS.stm cx.S hp e (stored_setRow _ _ _ _ _ hr) ⟨_,hr⟩ ⟨upd_old _ rfl,upd_old _ rfl,upd_old _ rfl,upd_new _ _⟩ (OWb.keep cx.S.ow (KeepI.st hr (by decide) (stored_setRow _ _ _ _ _ hr)) ⟨upd_old _ rfl,upd_old _ rfl,upd_old _ rfl⟩ ⟨rfl,rfl,rfl⟩))) <|
           zc (@fun fl ax wx cx=>cx.v (ex_as rfl (cx.u 0 rfl)) rfl rfl) <|
           zc (@fun fl ax wx cx=>cx.v (ex_as rfl (cx.u 0 rfl)) rfl rfl) <|
          zn) ?_
          intro az15 wz15 fz15
          obtain ⟨flz15,hflz15,hsz15⟩:=fz15.s
          obtain ⟨pg,eg,hpg,rg⟩:=hsz15.g (hflz15 12 (Nat.le_of_ble_eq_true rfl))
          obtain ⟨pm,em,hpm,rm⟩:=hsz15.m (hflz15 13 (Nat.le_of_ble_eq_true rfl))
          rw [hflz15 14 (Nat.le_of_ble_eq_true rfl)] at rg
          rw [hflz15 15 (Nat.le_of_ble_eq_true rfl)] at rm
          have GZz15:=Lib.hid (show wz15.heap[pg]?=some (.cells (rgC yg) 24 (0,0)) from rg)
          have MZz15:=Lib.hid (show wz15.heap[pm]?=some (.cells (mcC ym) 30 (0,0)) from rm)
          have FZz15:=Lib.hid hsz15.fx
          have gz15_18:az15.tmps.getD 18 undef=.pointer (some ⟨pg,0,none⟩):=eg
          have gz15_19:az15.tmps.getD 19 undef=.pointer (some ⟨pm,0,none⟩):=em
          have gz15_20:az15.tmps.getD 20 undef=.int .i64 ya:=fz15.v 16 rfl rfl rfl
          have gz15_21:az15.tmps.getD 21 undef=.int .i64 ye:=fz15.v 17 rfl rfl rfl
          have BF:=Lib.hid (B2.out.trans (FZz15.out.mono hWb))
          rw [fz15.frame rfl rfl]
          clear fz15 hsz15 hflz15 flz15 rg rm eg em hpg hpm
          rw [show outs _ (fun d=>az15.tmps.getD d undef)=[(80,az15.tmps.getD 80 undef),(81,az15.tmps.getD 81 undef),(82,az15.tmps.getD 82 undef),(83,az15.tmps.getD 83 undef),(84,az15.tmps.getD 84 undef),(85,az15.tmps.getD 85 undef),(86,az15.tmps.getD 86 undef),(79,az15.tmps.getD 79 undef),(87,az15.tmps.getD 87 undef),(88,az15.tmps.getD 88 undef),(89,az15.tmps.getD 89 undef),(90,az15.tmps.getD 90 undef),(18,az15.tmps.getD 18 undef),(19,az15.tmps.getD 19 undef),(20,az15.tmps.getD 20 undef),(21,az15.tmps.getD 21 undef)] by kernel_rfl,gz15_18,gz15_19,gz15_20,gz15_21]
          simp only [putAll,List.setIfInBounds_toArray,List.set_cons_zero,List.set_cons_succ,Exit.then]
          generalize az15.tmps.getD 80 undef=yz15_80
          generalize az15.tmps.getD 81 undef=yz15_81
          generalize az15.tmps.getD 82 undef=yz15_82
          generalize az15.tmps.getD 83 undef=yz15_83
          generalize az15.tmps.getD 84 undef=yz15_84
          generalize az15.tmps.getD 85 undef=yz15_85
          generalize az15.tmps.getD 86 undef=yz15_86
          generalize az15.tmps.getD 79 undef=yz15_79
          generalize az15.tmps.getD 87 undef=yz15_87
          generalize az15.tmps.getD 88 undef=yz15_88
          generalize az15.tmps.getD 89 undef=yz15_89
          generalize az15.tmps.getD 90 undef=yz15_90
          clear gz15_18 gz15_19 gz15_20 gz15_21 az15
          have G2:=Lib.hid (heap_below FZz15.out D2g.out (Nat.le_refl _))
          have M2:=Lib.hid (heap_below FZz15.out D2m.out (Nat.le_refl _))
          by_cases hz:ye=0
          case neg=>
            have e5:(ye != 0)=true:=by simpa using hz
            have e6:(ye == ye)=true:=beq_self_eq_true ye
            clear hz
            go_wp2_with fail
            refine (wakes_n _ (HT.out.below BF.out (Nat.le_refl _))).mono ?_
            rintro e w9 ⟨rfl,b9⟩
            have B9:=Lib.hid (below_call BF.out b9)
            clear b9
            go_wp2_with fail
            go_ret
            exact ⟨rfl,B9.out⟩
          case pos=>
            subst hz
            have OA:=out_at (l:=sec) (g:=qg) (by rw [HQ2.out])
            rw [HQ2.out,NS.out] at OA
            simp only at OA
            obtain ⟨hy1,hy2⟩:=HYY.out rfl
            obtain ⟨rfl,rfl⟩:=Prod.mk.inj hy1
            rw [S1.out] at hy2
            subst hy2
            have NW:IntKind.i64.wrap (za + (len:Int))=za + (len:Int):=by rw [IntKind.wrap_i64];omega
            have EG:=eq_rg11 yg
            have EM:=eq_mc ym
            have EA:(za + (len:Int) == za + (len:Int))=true:=beq_self_eq_true _
            clear hy1 OA
            go_wp2_with (with_reducible refine (halt_load 24 _ rfl ?_))
            refine ⟨?_,trivial⟩
            refine wpList_load_row rfl 24 _ rfl _ rfl _ _ _ _ G2.out Tryz.underlying24 rfl (by kernel_rfl) ?_
            go_wp2_with (with_reducible refine (halt_load 24 _ rfl ?_))
            refine ⟨?_,trivial⟩
            refine wpList_load_row rfl 24 _ rfl _ rfl _ _ _ _ GZz15.out Tryz.underlying24 rfl (by kernel_rfl) ?_
            go_wp2_with (with_reducible refine (halt_load 30 _ rfl ?_))
            refine ⟨?_,trivial⟩
            refine Mrm.wpList_gload_row rfl 30 _ rfl _ rfl _ _ _ _ M2.out Tryz.underlying30 rfl (by kernel_rfl) ?_
            go_wp2_with (with_reducible refine (halt_load 30 _ rfl ?_))
            refine ⟨?_,trivial⟩
            refine Mrm.wpList_gload_row rfl 30 _ rfl _ rfl _ _ _ _ MZz15.out Tryz.underlying30 rfl (by kernel_rfl) ?_
            go_wp2_with fail
            refine (wakes_n _ (HT.out.below BF.out (Nat.le_refl _))).mono ?_
            rintro e w9 ⟨rfl,b9⟩
            have B9:=Lib.hid (below_call BF.out b9)
            clear b9
            go_wp2_with fail
            go_ret
            exact ⟨rfl,B9.out⟩
theorem parts_long (a:Option Addr) (len cap:Nat) (a2:Option Addr) (len2 cap2:Nat) (g:Nat → Int) (W:World) (hT:Tb W) (h:¬ (len ≤ 60 ∧ len2 ≤ 60)):
    Calls Tryz.prog 5 #[.slice a len cap,.slice a2 len2 cap2,.agg (rgC g)] W fun e w'=>e=.returned (.bool true) ∧ Below W.heap.size W w':=by
  have HT:=Lib.hid hT
  have B0:=Lib.hid (below_new (Below.refl W.heap.size W) (.cells (rgC g) 24))
  by_cases hl:len ≤ 60
  · have g1:decide ((60:Int) < (len:Int))=false:=by simp;omega
    have g2:decide ((60:Int) < (len2:Int))=true:=by simp;omega
    clear h hT
    go_enter Tryz.func5,Tryz.ntmps5
    go_wp2_with fail
    refine (wakes_n _ (HT.out.below B0.out (Nat.le_refl _))).mono ?_
    rintro e w9 ⟨rfl,b9⟩
    have B9:=Lib.hid (below_call B0.out b9)
    clear b9
    go_wp2_with fail
    go_ret
    exact ⟨rfl,B9.out⟩
  · have g1:decide ((60:Int) < (len:Int))=true:=by simp;omega
    clear h hT
    go_enter Tryz.func5,Tryz.ntmps5
    go_wp2_with fail
    refine (wakes_n _ (HT.out.below B0.out (Nat.le_refl _))).mono ?_
    rintro e w9 ⟨rfl,b9⟩
    have B9:=Lib.hid (below_call B0.out b9)
    clear b9
    go_wp2_with fail
    go_ret
    exact ⟨rfl,B9.out⟩
theorem parts_law (a:Option Addr) (len cap:Nat) (l:List Ii) (a2:Option Addr) (len2 cap2:Nat) (k:List Ii) (g:Nat → Int) (W:World) (hL:Irs W a len cap l) (hK:Irs W a2 len2 cap2 k) (hg:GOk g) (hT:Tb W):
    Calls Tryz.prog 5 #[.slice a len cap,.slice a2 len2 cap2,.agg (rgC g)] W fun e w'=>e=.returned (.bool true) ∧ Below W.heap.size W w':=by
  by_cases h:len ≤ 60 ∧ len2 ≤ 60
  · exact parts_main a len cap l a2 len2 cap2 k g W hL hK hg hT h.1 h.2
  · exact parts_long a len cap a2 len2 cap2 g W hT h
end Go.Proofs.YtbpehbeakhocnaaGreatDoor.Irn
