import Derived.Test.YtbpehbeakhocnaaGreatDoorIRo01
import Derived.Test.YtbpehbeakhocnaaGreatDoorIRm42
set_option maxHeartbeats 16000000
set_option linter.unusedVariables false
set_option linter.unusedSimpArgs false
set_option linter.unnecessarySimpa false
namespace Go.Proofs.YtbpehbeakhocnaaGreatDoor.Irn
open Go Go.RowKit
open Mrm (Xi xC xL zX eqX mayX readsX writesX XOk heap_below)
open Flg (Fl fC zF mayC holF)
open Exe
set_option maxRecDepth 100000
def pn (k:Nat):Nat:=if k=3 then 11 else k
theorem pn_cell (k:Nat) (h:k < 4):(#[.int .i8 0,.int .i8 1,.int .i8 2,.int .i8 11]:Array Value)[k]?=some (.int .i8 (pn k:Nat)):=by
  rcases (show k=0 ∨ k=1 ∨ k=2 ∨ k=3 by omega) with rfl | rfl | rfl | rfl <;> rfl
theorem pn_next (k:Nat) (h:k < 4):tk4.take k ++ [tk k (pn k:Nat)]=tk4.take (k + 1):=by
  rcases (show k=0 ∨ k=1 ∨ k=2 ∨ k=3 by omega) with rfl | rfl | rfl | rfl <;> rfl
theorem pn_ok (k:Nat) (h:k < 4):IOk (tk k (pn k:Nat)):=by
  rcases (show k=0 ∨ k=1 ∨ k=2 ∨ k=3 by omega) with rfl | rfl | rfl | rfl <;> exact zx_ok (by constructor <;> decide) (by constructor <;> decide) (by constructor <;> decide) (by constructor <;> decide) (by constructor <;> decide)
theorem pn_lt (k:Nat) (h:k < 4):pn k < 16:=by
  unfold pn
  split <;> omega
def tkN (g:Nat → Int):Nat → Mc
  | 0=>zM
  | k + 1=>(tkN g k).setR (pn k) (g k)
theorem tkN_4 (g:Nat → Int):tkN g 4=tkM g zM:=rfl
theorem tkN_ok {g:Nat → Int} (hg:GOk g) (k:Nat):MOk (tkN g k):=by
  induction k with
  | zero=>exact zM_ok
  | succ k ih=>exact ih.setR _ (hg k)
abbrev xI (x:Xi):Ii:=⟨0,x,0,0,0,0⟩
theorem i8_z:I8 0:=⟨by decide,by decide⟩
theorem i64_z:I64 0:=⟨by decide,by decide⟩
theorem xI_ok {x:Xi} (h:XOk x):IOk (xI x):=⟨i8_z,h,i8_z,i8_z,i64_z,i64_z⟩
theorem tk4_oks:∀ x ∈ tk4,IOk x:=by
  intro x hx
  simp only [tk4,List.mem_cons,List.not_mem_nil,or_false] at hx
  rcases hx with rfl | rfl | rfl | rfl
  · exact pn_ok 0 (by omega)
  · exact pn_ok 1 (by omega)
  · exact pn_ok 2 (by omega)
  · exact pn_ok 3 (by omega)
theorem out_one {x:Xi} {g:Nat → Int} (hm:mayI (xI x)=true) (hs:stopI (xI x)=false):(outI (tk4 ++ [xI x]) g).2.2=doXe (tkM g zM) x 0 ∧ (doXe (tkM g zM) x 0=0 → (outI (tk4 ++ [xI x]) g).1.2=(doX (tkM g zM) x 0).upA 0 ∧ (outI (tk4 ++ [xI x]) g).2.1=5):=by
  have hG:∀ i ∈ tk4 ++ [xI x],Go1 i:=by
    intro i hi
    rcases List.mem_append.1 hi with h | h
    · exact pre_go i (List.mem_append.2 (.inl h))
    · rw [List.mem_singleton.1 h];exact ⟨hm,hs⟩
  have st:stopL (tk4 ++ [xI x])=5:=List.findIdx_eq_length.2 (fun i hi=>(hG i hi).2)
  have tk5:(tk4 ++ [xI x]).take 5=tk4 ++ [xI x]:=rfl
  have r:runI (tk4 ++ [xI x]) (g,zM)=if doXe (tkM g zM) x 0=0 then some (g,doX (tkM g zM) x 0) else none:=by
    rw [runI_snoc,run_tk4]
    exact step_0 (i:=xI x) rfl g _
  have hM:∀ i ∈ tk4 ++ [xI x],mayI i=true:=fun i hi=>(hG i hi).1
  by_cases h:doXe (tkM g zM) x 0=0
  · rw [if_pos h] at r
    rw [out_run hM (by rw [st,tk5];exact r),st]
    exact ⟨h.symm,fun _=>⟨rfl,rfl⟩⟩
  · rw [if_neg h] at r
    have n:=runF_none (l:=tk4 ++ [xI x]) (s:=(g,zM)) (fun i hi h1 h2=>by
      rcases (hG i hi).kind with c | c | c
      · exact cmp_may c.2
      · exact absurd c h1
      · exact absurd c h2) r
    have h20:doXe (tkM g zM) x 0=20:=by
      have e:doXe (tkM g zM) x 0=(if (goX (tkM g zM) x 0).isSome=true then 0 else 20):=if_pos (cmp_may (may_zero hm rfl))
      rw [e] at h ⊢
      split at h
      · exact absurd rfl h
      · rename_i c;rw [if_neg c]
    rw [out_is hM,st,tk5,n,if_neg (by decide)]
    exact ⟨h20.symm,fun c=>absurd c h⟩
structure KM (W:World) (gM gP:Nat) (M:Mc) (l:List Ii) (v:Value) (w:World):Prop where
  fb:Below W.heap.size W w
  fm:w.heap[gM]?=some (.cells (mcC M) 30 (0,0))
  fp:w.heap[gP]?=some (.cells #[.int .i8 0,.int .i8 1,.int .i8 2,.int .i8 11] 36 (0,0))
  ow:OwnI (gM + 1) w v l
section
variable {W w w':World} {gM gP:Nat} {M M':Mc} {l l':List Ii} {v v':Value}
theorem KM.lt (h:KM W gM gP M l v w):gM + 1 ≤ w.heap.size:=(Array.getElem?_eq_some_iff.1 h.fm).1
theorem KM.new (h:KM W gM gP M l v w) (ob:Obj):KM W gM gP M l v (w.alloc ob):=by
  have b:=below_new (Below.refl w.heap.size w) ob
  exact ⟨below_new h.fb ob,row_heap h.fm b,row_heap h.fp b,h.ow.keep b⟩
theorem KM.app (h:KM W gM gP M l v w) (ge:W.heap.size ≤ gM) (g':w.grownBy w' v.ownBlock) (o':OwnI (gM + 1) w' v' l'):KM W gM gP M l' v' w':=
  ⟨h.fb.trans ((below_app (Below.refl (gM + 1) w) h.ow g' h.lt).mono (Nat.le_succ_of_le ge)),row_app h.fm h.ow g' (by decide),row_app h.fp h.ow g' (by decide),o'⟩
theorem KM.st (h:KM W gM gP M l v w) (ge:W.heap.size ≤ gM) (ne:gP ≠ gM) (s:Stored w gM (mcC M') 30 w'):KM W gM gP M' l v w':=
  ⟨s.below h.fb ge,s.row,row_stay h.fp s ne,h.ow.keepI (KeepI.st h.fm (by decide) s)⟩
end
theorem one_law (x:Xi) (g:Nat → Int) (W:World) (hX:XOk x) (hg:GOk g) (hT:Tb W):
    Calls Tryz.prog 7 #[.agg (xC x),.agg (rgC g)] W fun e w'=>e=.returned (.bool true) ∧ Below W.heap.size W w':=by
  have mo:Tryz.prog.follows .mixedOrders=true:=by kernel_rfl
  have HT:=Lib.hid hT
  have HX:=Lib.hid hX
  have HG:=Lib.hid hg
  have B0:=Lib.hid (below_new (below_new (below_new (Below.refl W.heap.size W) (.cells (xC x) 38)) (.cells (rgC g) 24)) (.cells (iC zI) 40))
  have X0:=Lib.hid (show ((W.alloc (.cells (xC x) 38)).alloc (.cells (rgC g) 24)).heap[W.heap.size]?=some (.cells (xC x) 38 (0,0)) from (heap_past _ _ _ (by rw [size_alloc];omega)).trans (heap_last _ _ _ rfl))
  have X1:=Lib.hid (show (((W.alloc (.cells (xC x) 38)).alloc (.cells (rgC g) 24)).alloc (.cells (iC zI) 40)).heap[W.heap.size]?=some (.cells (xC x) 38 (0,0)) from (heap_past _ _ _ (by rw [size_alloc,size_alloc];omega)).trans X0.out)
  have R1:=Lib.hid (show (((W.alloc (.cells (xC x) 38)).alloc (.cells (rgC g) 24)).alloc (.cells (iC zI) 40)).heap[W.heap.size + 1]?=some (.cells (rgC g) 24 (0,0)) from (heap_past _ _ _ (by rw [size_alloc,size_alloc];omega)).trans (heap_last _ _ _ (by rw [size_alloc])))
  have O1:=Lib.hid (show (((W.alloc (.cells (xC x) 38)).alloc (.cells (rgC g) 24)).alloc (.cells (iC zI) 40)).heap[W.heap.size + 1 + 1]?=some (.cells (iC zI) 40 (0,0)) from heap_last _ _ _ (by rw [size_alloc,size_alloc]))
  clear hX hg hT
  go_enter Tryz.func7,Tryz.ntmps7
  go_wp2_with (with_reducible refine (halt_load 38 _ rfl ?_))
  refine ⟨?_,trivial⟩
  refine wpList_load_row rfl 38 _ rfl _ rfl _ _ _ _ X0.out Tryz.underlying38 rfl (by kernel_rfl) ?_
  go_wp2_with (with_reducible refine (halt_store 40 _ _ rfl ?_))
  refine ⟨?_,trivial⟩
  refine wpList_store_is rfl 40 _ _ rfl (W.heap.size + 1 + 1) (iC (xI x)) rfl rfl _ _ O1.out (by kernel_rfl) rfl (by kernel_rfl) ?_
  intro w1 s1
  have O2:=Lib.hid s1.row
  have X2:=Lib.hid (row_stay X1.out s1 (by omega))
  have R2:=Lib.hid (row_stay R1.out s1 (by omega))
  have B1:=Lib.hid (s1.below B0.out (by omega))
  clear s1 B0 X0 X1 R1 O1
  go_wp2_with (with_reducible refine (halt_load 40 _ rfl ?_))
  refine ⟨?_,trivial⟩
  refine wpList_load_row rfl 40 _ rfl _ rfl _ _ _ _ O2.out Tryz.underlying40 rfl (by kernel_rfl) ?_
  go_wp2_with fail
  refine (imay_n (xI x) _ (HT.out.below B1.out (Nat.le_refl _)) (xI_ok HX.out)).mono ?_
  rintro e w2 ⟨rfl,b2⟩
  have O3:=Lib.hid (row_heap O2.out b2)
  have X3:=Lib.hid (row_heap X2.out b2)
  have R3:=Lib.hid (row_heap R2.out b2)
  have B2:=Lib.hid (below_call B1.out b2)
  clear b2 O2 X2 R2 B1
  obtain ⟨bm,HBM⟩:∃ b,Hid (mayI (xI x)=b):=⟨_,Lib.hid rfl⟩
  rw [HBM.out]
  cases bm
  case false=>
    go_wp2_with fail
    refine (wakes_n _ (HT.out.below B2.out (Nat.le_refl _))).mono ?_
    rintro e w9 ⟨rfl,b9⟩
    have B9:=Lib.hid (below_call B2.out b9)
    clear b9
    go_wp2_with fail
    go_ret
    exact ⟨rfl,B9.out⟩
  case true=>
    go_wp2_with (with_reducible refine (halt_load 40 _ rfl ?_))
    refine ⟨?_,trivial⟩
    refine Mrm.wpList_gload_row rfl 40 _ rfl _ rfl _ _ _ _ O3.out Tryz.underlying40 rfl (by kernel_rfl) ?_
    go_wp2_with fail
    refine (stops_n (xI x) _).mono ?_
    rintro e w3 ⟨rfl,b3⟩
    have O4:=Lib.hid (row_heap O3.out b3)
    have X4:=Lib.hid (row_heap X3.out b3)
    have R4:=Lib.hid (row_heap R3.out b3)
    have B3:=Lib.hid (below_call B2.out b3)
    clear b3 O3 X3 R3 B2
    obtain ⟨bs,HBS⟩:∃ b,Hid (stopI (xI x)=b):=⟨_,Lib.hid rfl⟩
    rw [HBS.out]
    cases bs
    case true=>
      go_wp2_with fail
      refine (wakes_n _ (HT.out.below B3.out (Nat.le_refl _))).mono ?_
      rintro e w9 ⟨rfl,b9⟩
      have B9:=Lib.hid (below_call B3.out b9)
      clear b9
      go_wp2_with fail
      go_ret
      exact ⟨rfl,B9.out⟩
    case false=>
      go_wp2_with fail
      obtain ⟨gO,hgO⟩:∃ z,z=W.heap.size + 1 + 1:=⟨_,rfl⟩
      obtain ⟨gR,hgR⟩:∃ z,z=W.heap.size + 1:=⟨_,rfl⟩
      obtain ⟨gX,hgX⟩:∃ z,z=W.heap.size:=⟨_,rfl⟩
      obtain ⟨gP,hgP⟩:∃ z,z=w3.heap.size + 1:=⟨_,rfl⟩
      obtain ⟨gM,hgM⟩:∃ z,z=w3.heap.size:=⟨_,rfl⟩
      have GE:=Lib.hid (show w3.heap.size ≤ gM ∧ gX < gM ∧ gR < gM ∧ gO < gM ∧ W.heap.size ≤ gM ∧ gP ≠ gM by
        have:=(Array.getElem?_eq_some_iff.1 O4.out).1
        have:=B3.out.size
        omega)
      have FO:=Lib.hid (show w3.heap[gO]?=some (.cells (iC (xI x)) 40 (0,0)) by rw [hgO];exact O4.out)
      have FR:=Lib.hid (show w3.heap[gR]?=some (.cells (rgC g) 24 (0,0)) by rw [hgR];exact R4.out)
      have FX:=Lib.hid (show w3.heap[gX]?=some (.cells (xC x) 38 (0,0)) by rw [hgX];exact X4.out)
      have KA:=Lib.hid (show KM w3 gM gP (tkN g 0) (tk4.take 0) (.slice none 0 0) ((w3.alloc (.cells (mcC zM) 30)).alloc (.cells #[.int .i8 0,.int .i8 1,.int .i8 2,.int .i8 11] 36)) by
        rw [hgM,hgP]
        exact ⟨below_new (below_new (Below.refl _ _) _) _,(heap_past _ _ _ (by rw [size_alloc];omega)).trans (heap_last _ _ _ rfl),heap_last _ _ _ (by rw [size_alloc]),own_nil _ _⟩)
      clear O4 X4 R4
      rw [← hgO,← hgR,← hgX,← hgP,← hgM]
      clear hgO hgR hgX hgP hgM
      go_loopw [6,28] (fun v i wr=>∃ (k:Nat) (y:Value),k ≤ 4 ∧ i=.int .i64 k ∧ y=v ∧ Hid (KM w3 gM gP (tkN g k) (tk4.take k) y wr)) (fun _ i _=>4 - (intOf i).toNat)
      case atStart=>exact ⟨0,_,by omega,rfl,rfl,KA⟩
      case round=>
        obtain ⟨k,y,hk,rfl,rfl,KP⟩:=hrel
        by_cases hlt:k < 4
        · have CK:=row_cell KP.out.fp k _ (pn_cell k hlt)
          have WK:IntKind.i8.wrap (k:Int)=k:=by simp [IntKind.wrap,IntKind.signed,IntKind.bits];omega
          have hp16:=pn_lt k hlt
          have hk11:k < 11:=by omega
          have TL:=Lib.hid (show (tk4.take k).length=k by rw [List.length_take];show min k 4=k;omega)
          have TN:=Lib.hid (pn_next k hlt)
          have TO:=Lib.hid (pn_ok k hlt)
          have TM:=Lib.hid (show tkN g (k + 1)=(tkN g k).setR (pn k) (g k) from rfl)
          have RK:=Lib.hid (rgC_reg g hk11)
          generalize tk4.take k=q at *
          generalize tkN g k=M at *
          generalize pn k=p at *
          have OX:=Lib.hid (KP.out.new (.cells (iC (tk k p)) 40))
          go_wp2_with (at_builtin;refine wpList_append_i rfl _ _ rfl (gM + 1) y q rfl OX.out.ow (some ⟨wr.heap.size,0,none⟩) 1 1 [tk k p] rfl (irs_one (heap_last _ _ _ rfl) TO.out) (by rw [TL.out];omega) OX.out.lt ?_)
          intro v8 w8 o8 g8
          have K8:=Lib.hid (show KM w3 gM gP M (tk4.take (k + 1)) v8 w8 from OX.out.app GE.out.1 g8 (TN.out ▸ o8))
          clear o8 g8
          have C8:=row_cell (show w8.heap[gR]?=_ from (K8.out.fb.block gR (Array.getElem?_eq_some_iff.1 FR.out).1).trans FR.out) k _ RK.out
          generalize hgk:g k=gk at *
          go_wp2_with (with_reducible refine (halt_store 23 _ _ rfl ?_))
          refine ⟨?_,trivial⟩
          refine wpList_store_cell rfl 23 _ _ rfl gM p (.int .u64 gk) rfl rfl rfl rfl _ _ K8.out.fm (by kernel_rfl) (by rw [mcC_size];omega) ?_
          intro w9 s9
          have K9:=Lib.hid (show KM w3 gM gP (tkN g (k + 1)) (tk4.take (k + 1)) v8 w9 by
            rw [TM.out]
            refine K8.out.st GE.out.1 GE.out.2.2.2.2.2 ?_
            rw [← mcC_set M hp16]
            exact s9)
          clear s9
          go_wp2_with fail
          go_roundw
          case rel=>exact ⟨k + 1,_,by omega,by go_num,rfl,K9⟩
          case measure=>simp [intOf];omega
        · obtain rfl:k=4:=by omega
          obtain ⟨Mk,hMk⟩:∃ z,z=tkM g zM:=⟨_,rfl⟩
          have KC:=Lib.hid (show KM w3 gM gP Mk tk4 y wr by rw [hMk];exact KP.out)
          have MK:=Lib.hid (show MOk Mk by rw [hMk];exact tkN_ok HG.out 4)
          obtain ⟨q3,HOUT⟩:∃ q,Hid (outI (tk4 ++ [xI x]) g=q):=⟨_,Lib.hid rfl⟩
          obtain ⟨⟨yg,ym⟩,ya,ye⟩:=q3
          have OO:=out_one (g:=g) HBM.out HBS.out
          rw [HOUT.out,← hMk] at OO
          simp only at OO
          obtain ⟨oo1,oo2⟩:=OO
          have OO2:=Lib.hid oo2
          have OO1:=Lib.hid oo1
          have FOw:=Lib.hid (show wr.heap[gO]?=_ from (KC.out.fb.block gO (Array.getElem?_eq_some_iff.1 FO.out).1).trans FO.out)
          have FRw:=Lib.hid (show wr.heap[gR]?=_ from (KC.out.fb.block gR (Array.getElem?_eq_some_iff.1 FR.out).1).trans FR.out)
          have FXw:=Lib.hid (show wr.heap[gX]?=_ from (KC.out.fb.block gX (Array.getElem?_eq_some_iff.1 FX.out).1).trans FX.out)
          have BW:=Lib.hid (below_call B3.out KC.out.fb)
          have hbase:gM + 1 ≤ wr.heap.size:=KC.out.lt
          have hWb:W.heap.size ≤ gM + 1:=by have:=GE.out;omega
          clear KA KP hk hlt hMk oo1 oo2 FO FR FX
          go_wp2_with fail
          refine go_regz (RS wr (gM + 1) 11 12 13 14 10 11 yg ym (OWa (gM + 1) 2 3 50 51 y tk4 (xI x))) [11,12,13,14,2,3] [10,11,50,51] [some (y),some (.agg (iC (xI x))),none,none,some (.agg (rgC g)),some (.tuple #[.agg (rgC yg),.agg (mcC ym),.int .i64 ya,.int .i64 ye]),some (.tuple #[.agg (rgC yg),.agg (mcC ym),.int .i64 ya,.int .i64 ye]),some (.agg (rgC yg)),some (.agg (mcC ym)),some (.int .i64 ya),some (.int .i64 ye),none,none,none,none,some (.int .i64 ya),some (.int .i64 ye)] mo (fun fl fl' u u' w hK hD h=>RS.step h (Below.refl _ _) (fun _ _ _ _ h=>h) ⟨hK 11 (by decide),hK 12 (by decide),hK 13 (by decide),hK 14 (by decide)⟩ ⟨hD 10 (by decide),hD 11 (by decide)⟩ (OWa.keep h.ow (fun _ _ h=>h) ⟨hK 2 (by decide),hK 3 (by decide)⟩ ⟨hD 50 (by decide),hD 51 (by decide)⟩)) rfl rfl (by kernel_rfl) (fun fl w1 hfl b hh=>⟨b.mono hbase,⟨fun _=>KC.out.ow.keep b,fun c=>(by rw [(hfl 2 (Nat.le_of_ble_eq_true rfl))] at c;cases c),fun c=>(by rw [(hfl 3 (Nat.le_of_ble_eq_true rfl))] at c;cases c)⟩,fun c=>(by rw [(hfl 11 (Nat.le_of_ble_eq_true rfl))] at c;cases c),fun c=>(by rw [(hfl 12 (Nat.le_of_ble_eq_true rfl))] at c;cases c)⟩) (
           zc (@fun fl ax wx cx=>cx.v (ex_mv rfl (cx.rq 6 rfl)) rfl rfl) <|
           zc (@fun fl ax wx cx=>cx.v (ldI rfl (cx.rq 5 rfl) ((cx.S.fx.block gO (by have:=GE.out;omega)).trans FOw.out)) rfl rfl) <|
           zc (@fun fl ax wx cx=>by
             have hb:=Nat.le_trans hbase cx.S.fx.size
             obtain ⟨h1,h2,h3⟩:=cx.S.ow
             have f3:=cx.later 3 (by kernel_rfl)
             have bn:=below_new (Below.refl wx.heap.size wx) (.cells (iC (xI x)) 40)
             exact cx.vt rfl (exec_bs1 rfl (cx.u 0 rfl)) rfl rfl trivial (RS.step cx.S (bn.mono hb) (KeepO.of bn) ⟨upd_old _ rfl,upd_old _ rfl,upd_old _ rfl,upd_old _ rfl⟩ ⟨slot_old rfl,slot_old rfl⟩ ⟨fun _=>(h1 f3).keep bn,fun _=>⟨wx.heap.size,slot_new cx.sz rfl,fun _=>heap_last _ _ _ rfl⟩,fun c=>by rw [upd_old _ rfl,f3] at c;cases c⟩)) <|
           zc (@fun fl ax wx cx=>by
             have hb:=Nat.le_trans hbase cx.S.fx.size
             obtain ⟨h1,h2,h3⟩:=cx.S.ow
             obtain ⟨p,e,hp⟩:=h2 (cx.did 1 rfl rfl)
             have f3:=cx.fi
             obtain ⟨v',w',hr,o',g'⟩:=run_append_i 22 (gM + 1) y tk4 (h1 f3) (some ⟨p,0,none⟩) 1 1 [(xI x)] (irs_one (hp f3) (xI_ok HX.out)) (by show 4 + 1 ≤ 100000;omega) hb
             exact cx.vt rfl (exec_append rfl (cx.u 0 rfl) (show ax.tmps.getD 50 undef=_ from e) hr) rfl rfl trivial (RS.step cx.S (below_app (Below.refl _ _) (h1 f3) g' hb) (fun k C T hT h=>row_app h (h1 f3) g' hT) ⟨upd_old _ rfl,upd_old _ rfl,upd_old _ rfl,upd_old _ rfl⟩ ⟨slot_old rfl,slot_old rfl⟩ ⟨fun c=>(by rw [upd_new] at c;cases c),fun c=>⟨p,(slot_old rfl).trans e,fun c=>by rw [upd_new] at c;cases c⟩,fun _=>by rw [slot_new cx.sz rfl];exact o'⟩)) <|
           zc (@fun fl ax wx cx=>cx.v (ldRgW rfl (cx.rq 3 rfl) ((cx.S.fx.block gR (by have:=GE.out;omega)).trans FRw.out)) rfl rfl) <|
           zc (@fun fl ax wx cx=>by
             have hb:=Nat.le_trans hbase cx.S.fx.size
             have o':OwnI (gM + 1) wx (slotOf ax 51) (tk4 ++ [xI x]):=(cx.S.ow).2.2 (cx.did 0 rfl rfl)
             obtain ⟨a3,c3,e3,i3⟩:=o'.irs (fun z hz=>(List.mem_append.1 hz).elim (tk4_oks z) (fun h=>by rw [List.mem_singleton.1 h];exact xI_ok HX.out))
             have DO:=ido_n a3 _ c3 (tk4 ++ [xI x]) g wx (HT.out.below (BW.out.trans (cx.S.fx.mono hWb)) (Nat.le_refl _)) i3 (by show 5 ≤ 100000;omega) HG.out
             rw [HOUT.out] at DO
             refine cx.ct rfl rfl (args2 (show ax.tmps.getD 51 undef=_ from e3) (cx.u 1 rfl)) Tryz.func9 (by decide +kernel) rfl rfl (DO.mono ?_)
             rintro e w' ⟨rfl,b'⟩
             exact ⟨_,rfl,rfl,(RS.step cx.S (b'.mono hb) (KeepO.of b') ⟨upd_old _ rfl,upd_old _ rfl,upd_old _ rfl,upd_old _ rfl⟩ ⟨slot_old rfl,slot_old rfl⟩ (OWa.keep cx.S.ow (KeepI.of b') ⟨upd_old _ rfl,upd_old _ rfl⟩ ⟨slot_old rfl,slot_old rfl⟩))⟩) <|
           zc (@fun fl ax wx cx=>cx.v (ex_mv rfl (cx.u 0 rfl)) rfl rfl) <|
           zc (@fun fl ax wx cx=>cx.v (ex_ext (x:=.tmp 47) rfl (cx.u 0 rfl) rfl) rfl rfl) <|
           zc (@fun fl ax wx cx=>cx.v (ex_ext (x:=.tmp 47) rfl (cx.u 0 rfl) rfl) rfl rfl) <|
           zc (@fun fl ax wx cx=>cx.v (ex_ext (x:=.tmp 47) rfl (cx.u 0 rfl) rfl) rfl rfl) <|
           zc (@fun fl ax wx cx=>cx.v (ex_ext (x:=.tmp 47) rfl (cx.u 0 rfl) rfl) rfl rfl) <|
           zc (@fun fl ax wx cx=>by
             have hb:=Nat.le_trans hbase cx.S.fx.size
             have bn:=below_new (Below.refl wx.heap.size wx) (.cells (rgC zG) 24)
             exact cx.vt rfl (al_rg rfl) rfl rfl trivial (RS.putg cx.S hb ⟨upd_old _ rfl,(upd_old _ rfl).trans (cx.later 13 (by kernel_rfl)),upd_old _ rfl⟩ ⟨slot_new cx.sz rfl,slot_old rfl⟩ (OWa.keep cx.S.ow (KeepI.of bn) ⟨upd_old _ rfl,upd_old _ rfl⟩ ⟨slot_old rfl,slot_old rfl⟩))) <|
           zc (@fun fl ax wx cx=>by
             have hb:=Nat.le_trans hbase cx.S.fx.size
             have bn:=below_new (Below.refl wx.heap.size wx) (.cells (mcC zM) 30)
             exact cx.vt rfl (al_mc rfl) rfl rfl trivial (RS.putm cx.S hb ⟨upd_old _ rfl,(upd_old _ rfl).trans (cx.later 14 (by kernel_rfl)),upd_old _ rfl⟩ ⟨slot_new cx.sz rfl,slot_old rfl⟩ (OWa.keep cx.S.ow (KeepI.of bn) ⟨upd_old _ rfl,upd_old _ rfl⟩ ⟨slot_old rfl,slot_old rfl⟩))) <|
           zc (@fun fl ax wx cx=>by
             obtain ⟨p,e,hp,hr⟩:=cx.S.g (cx.did 0 rfl rfl)
             rw [cx.fi] at hr
             exact cx.st rfl (exec_storeR 24 (.tmp 10) (.tmp 54) rfl p (rgC yg) (show ax.tmps.getD 10 undef=_ from e) (cx.u 1 rfl) hr (by kernel_rfl) rfl (rgC_one _)) rfl trivial (RS.stg cx.S hp e (stored_setRow _ _ _ _ _ hr) ⟨_,hr⟩ ⟨upd_old _ rfl,upd_old _ rfl,upd_new _ _,upd_old _ rfl⟩ (OWa.keep cx.S.ow (KeepI.st hr (by decide) (stored_setRow _ _ _ _ _ hr)) ⟨upd_old _ rfl,upd_old _ rfl⟩ ⟨rfl,rfl⟩))) <|
           zc (@fun fl ax wx cx=>by
             obtain ⟨p,e,hp,hr⟩:=cx.S.m (cx.did 0 rfl rfl)
             rw [cx.fi] at hr
             exact cx.st rfl (exec_storeR 30 (.tmp 11) (.tmp 55) rfl p (mcC ym) (show ax.tmps.getD 11 undef=_ from e) (cx.u 1 rfl) hr (by kernel_rfl) rfl (mcC_one _)) rfl trivial (RS.stm cx.S hp e (stored_setRow _ _ _ _ _ hr) ⟨_,hr⟩ ⟨upd_old _ rfl,upd_old _ rfl,upd_old _ rfl,upd_new _ _⟩ (OWa.keep cx.S.ow (KeepI.st hr (by decide) (stored_setRow _ _ _ _ _ hr)) ⟨upd_old _ rfl,upd_old _ rfl⟩ ⟨rfl,rfl⟩))) <|
           zc (@fun fl ax wx cx=>cx.v (ex_as rfl (cx.u 0 rfl)) rfl rfl) <|
           zc (@fun fl ax wx cx=>cx.v (ex_as rfl (cx.u 0 rfl)) rfl rfl) <|
          zn) ?_
          intro az12 wz12 fz12
          obtain ⟨flz12,hflz12,hsz12⟩:=fz12.s
          obtain ⟨pg,eg,hpg,rg⟩:=hsz12.g (hflz12 11 (Nat.le_of_ble_eq_true rfl))
          obtain ⟨pm,em,hpm,rm⟩:=hsz12.m (hflz12 12 (Nat.le_of_ble_eq_true rfl))
          rw [hflz12 13 (Nat.le_of_ble_eq_true rfl)] at rg
          rw [hflz12 14 (Nat.le_of_ble_eq_true rfl)] at rm
          have GZz12:=Lib.hid (show wz12.heap[pg]?=some (.cells (rgC yg) 24 (0,0)) from rg)
          have MZz12:=Lib.hid (show wz12.heap[pm]?=some (.cells (mcC ym) 30 (0,0)) from rm)
          have FZz12:=Lib.hid hsz12.fx
          have gz12_10:az12.tmps.getD 10 undef=.pointer (some ⟨pg,0,none⟩):=eg
          have gz12_11:az12.tmps.getD 11 undef=.pointer (some ⟨pm,0,none⟩):=em
          have gz12_12:az12.tmps.getD 12 undef=.int .i64 ya:=fz12.v 15 rfl rfl rfl
          have gz12_13:az12.tmps.getD 13 undef=.int .i64 ye:=fz12.v 16 rfl rfl rfl
          have BF:=Lib.hid (BW.out.trans (FZz12.out.mono hWb))
          rw [fz12.frame rfl rfl]
          clear fz12 hsz12 hflz12 flz12 rg rm eg em hpg hpm
          rw [show outs _ (fun d=>az12.tmps.getD d undef)=[(48,az12.tmps.getD 48 undef),(49,az12.tmps.getD 49 undef),(50,az12.tmps.getD 50 undef),(51,az12.tmps.getD 51 undef),(52,az12.tmps.getD 52 undef),(53,az12.tmps.getD 53 undef),(47,az12.tmps.getD 47 undef),(54,az12.tmps.getD 54 undef),(55,az12.tmps.getD 55 undef),(56,az12.tmps.getD 56 undef),(57,az12.tmps.getD 57 undef),(10,az12.tmps.getD 10 undef),(11,az12.tmps.getD 11 undef),(12,az12.tmps.getD 12 undef),(13,az12.tmps.getD 13 undef)] by kernel_rfl,gz12_10,gz12_11,gz12_12,gz12_13]
          simp only [putAll,List.setIfInBounds_toArray,List.set_cons_zero,List.set_cons_succ,Exit.then]
          generalize az12.tmps.getD 48 undef=yz12_48
          generalize az12.tmps.getD 49 undef=yz12_49
          generalize az12.tmps.getD 50 undef=yz12_50
          generalize az12.tmps.getD 51 undef=yz12_51
          generalize az12.tmps.getD 52 undef=yz12_52
          generalize az12.tmps.getD 53 undef=yz12_53
          generalize az12.tmps.getD 47 undef=yz12_47
          generalize az12.tmps.getD 54 undef=yz12_54
          generalize az12.tmps.getD 55 undef=yz12_55
          generalize az12.tmps.getD 56 undef=yz12_56
          generalize az12.tmps.getD 57 undef=yz12_57
          clear gz12_10 gz12_11 gz12_12 gz12_13 az12
          have XZ:=Lib.hid (show wz12.heap[gX]?=_ from (FZz12.out.block gX (by have:=GE.out;omega)).trans FXw.out)
          have MK2:=Lib.hid (show wz12.heap[gM]?=_ from (FZz12.out.block gM (by omega)).trans KC.out.fm)
          clear FOw FRw FXw KC FZz12
          go_wp2_with (with_reducible refine (halt_load 30 _ rfl ?_))
          refine ⟨?_,trivial⟩
          refine wpList_load_row rfl 30 _ rfl _ rfl _ _ _ _ MK2.out Tryz.underlying30 rfl (by kernel_rfl) ?_
          go_wp2_with (with_reducible refine (halt_load 38 _ rfl ?_))
          refine ⟨?_,trivial⟩
          refine wpList_load_row rfl 38 _ rfl _ rfl _ _ _ _ XZ.out Tryz.underlying38 rfl (by kernel_rfl) ?_
          go_wp2_with fail
          refine (do_n Mk x 0 _ (HT.out.below BF.out (Nat.le_refl _)).t HX.out MK.out ⟨by omega,by omega⟩).mono ?_
          rintro e w13 ⟨rfl,b13⟩
          rw [← OO1.out]
          have MY:=Lib.hid (row_heap MZz12.out b13)
          have B13:=Lib.hid (below_call BF.out b13)
          obtain ⟨N,HN⟩:∃ z,Hid (doX Mk x 0=z):=⟨_,Lib.hid rfl⟩
          rw [HN.out] at OO2 ⊢
          clear b13 MZz12 BF XZ MK2
          go_wp2_with (with_reducible refine (halt_store 30 _ _ rfl ?_))
          refine ⟨?_,trivial⟩
          refine wpList_store_is rfl 30 _ _ rfl w13.heap.size (mcC N) rfl rfl _ _ (heap_last _ _ _ rfl) (by kernel_rfl) rfl (by kernel_rfl) ?_
          intro w14 s14
          have N14:=Lib.hid s14.row
          have C14:=Lib.hid (s14.below (below_new (Below.refl w13.heap.size w13) _) (Nat.le_refl _))
          clear s14
          go_wp2_with (with_reducible refine (halt_store 23 _ _ rfl ?_))
          refine ⟨?_,trivial⟩
          refine wpList_store_cell rfl 23 _ _ rfl w13.heap.size 21 (.int .u64 0) rfl rfl rfl rfl _ _ N14.out (by kernel_rfl) (by rw [mcC_size];omega) ?_
          intro w15 s15
          have N15:=Lib.hid (show w15.heap[w13.heap.size]?=some (.cells (mcC (N.upA 0)) 30 (0,0)) from s15.row)
          have b15:=s15.below C14.out (Nat.le_refl _)
          have MY5:=Lib.hid (row_heap MY.out b15)
          have BF5:=Lib.hid (below_call B13.out b15)
          clear s15 b15 N14 C14
          have e6:(ye == ye)=true:=beq_self_eq_true ye
          by_cases hz:ye=0
          case neg=>
            have e5:(ye != 0)=true:=by simpa using hz
            clear hz
            go_wp2_with fail
            refine (wakes_n _ (HT.out.below BF5.out (Nat.le_refl _))).mono ?_
            rintro e w9 ⟨rfl,b9⟩
            have B9:=Lib.hid (below_call BF5.out b9)
            clear b9
            go_wp2_with fail
            go_ret
            exact ⟨rfl,B9.out⟩
          case pos=>
            obtain ⟨hym,hya⟩:=OO2.out (OO1.out.symm.trans hz)
            subst hz hya hym
            have EM:=eq_mc (N.upA 0)
            go_wp2_with (with_reducible refine (halt_load 30 _ rfl ?_))
            refine ⟨?_,trivial⟩
            refine Mrm.wpList_gload_row rfl 30 _ rfl _ rfl _ _ _ _ MY5.out Tryz.underlying30 rfl (by kernel_rfl) ?_
            go_wp2_with (with_reducible refine (halt_load 30 _ rfl ?_))
            refine ⟨?_,trivial⟩
            refine Mrm.wpList_gload_row rfl 30 _ rfl _ rfl _ _ _ _ N15.out Tryz.underlying30 rfl (by kernel_rfl) ?_
            go_wp2_with fail
            refine (wakes_n _ (HT.out.below BF5.out (Nat.le_refl _))).mono ?_
            rintro e w9 ⟨rfl,b9⟩
            have B9:=Lib.hid (below_call BF5.out b9)
            clear b9
            go_wp2_with fail
            go_ret
            exact ⟨rfl,B9.out⟩
end Go.Proofs.YtbpehbeakhocnaaGreatDoor.Irn
