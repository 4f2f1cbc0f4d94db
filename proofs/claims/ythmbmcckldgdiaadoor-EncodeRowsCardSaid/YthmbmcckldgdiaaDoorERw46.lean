import Derived.Test.YthmbmcckldgdiaaDoorERw45
import Derived.Deep.RegionHeld3
set_option linter.unusedVariables false
set_option linter.unusedSimpArgs false
set_option linter.unnecessarySimpa false
namespace Go.Proofs.YthmbmcckldgdiaaDoor.Mrm
open Go Go.RowKit Mdl
set_option linter.unusedVariables false
set_option linter.unnecessarySimpa false
set_option linter.unusedSimpArgs false
set_option maxRecDepth 100000
structure RV (W:World) (fb:List Int) (vb:Value) (n1:Nat) (c1:List Value) (va:Value) (n2:Nat) (c2:List Value) (vp:Value) (w:World):Prop where
  b:Below W.heap.size W w
  r:w.heap[W.heap.size]?=some (.cells #[.bool false] 4 (0,0))
  row:Bts W.heap.size w vb fb
  a:w.heap[W.heap.size + 1]?=some (.cells #[va] 35 (0,0))
  ao:w.ownsRow W.heap.size 3 1 va n1 c1
  p:w.heap[W.heap.size + 2]?=some (.cells #[vp] 34 (0,0))
  po:w.ownsRow W.heap.size 24 8 vp n2 c2
section
variable {W w w' w2:World} {fb fb':List Int} {vb va vp v':Value} {n1 n2 n':Nat} {c1 c2 c':List Value}
theorem RV.below (h:RV W fb vb n1 c1 va n2 c2 vp w) (b:Below w.heap.size w w'):RV W fb vb n1 c1 va n2 c2 vp w':=
  ⟨below_call h.b b,row_heap h.r b,h.row.below b,row_heap h.a b,own_below h.ao b,row_heap h.p b,own_below h.po b⟩
theorem RV.size (h:RV W fb vb n1 c1 va n2 c2 vp w):W.heap.size + 3 ≤ w.heap.size:=(Array.getElem?_eq_some_iff.1 h.p).1
theorem RV.push_int (h:RV W fb vb n1 c1 va n2 c2 vp w) (o:w'.ownsRow W.heap.size 3 1 v' n' c') (g:w.grownBy w' va.ownBlock) (s:Stored w' (W.heap.size + 1) #[v'] 35 w2):RV W fb vb n' c' v' n2 c2 vp w2:=by
  have ho:=row_grown h.a h.ao g (by decide)
  exact ⟨s.below (below_grownN h.b h.b.size g (fun j hj=>(World.ownsRow.lt h.ao j hj).1)) (by omega),row_stored (row_grown h.r h.ao g (by decide)) s ho (by decide),own_stored (own_grown h.row h.ao g (by decide)) s ho (by decide),s.row,
    own_stored o s ho (by decide),row_stored (row_grown h.p h.ao g (by decide)) s ho (by decide),own_stored (own_grown h.po h.ao g (by decide)) s ho (by decide)⟩
theorem RV.push_x (h:RV W fb vb n1 c1 va n2 c2 vp w) (o:w'.ownsRow W.heap.size 24 8 v' n' c') (g:w.grownBy w' vp.ownBlock) (s:Stored w' (W.heap.size + 2) #[v'] 34 w2):RV W fb vb n1 c1 va n' c' v' w2:=by
  have ho:=row_grown h.p h.po g (by decide)
  exact ⟨s.below (below_grownN h.b h.b.size g (fun j hj=>(World.ownsRow.lt h.po j hj).1)) (by omega),row_stored (row_grown h.r h.po g (by decide)) s ho (by decide),own_stored (own_grown h.row h.po g (by decide)) s ho (by decide),row_stored (row_grown h.a h.po g (by decide)) s ho (by decide),
    own_stored (own_grown h.ao h.po g (by decide)) s ho (by decide),s.row,own_stored o s ho (by decide)⟩
theorem RV.push_b (h:RV W fb vb n1 c1 va n2 c2 vp w) (o:Bts W.heap.size w' v' fb') (g:w.grownBy w' vb.ownBlock):RV W fb' v' n1 c1 va n2 c2 vp w':=
  ⟨below_grownN h.b h.b.size g (fun j hj=>h.row.lt j hj),row_grown h.r h.row g (by decide),o,row_grown h.a h.row g (by decide),own_grown h.ao h.row g (by decide),row_grown h.p h.row g (by decide),own_grown h.po h.row g (by decide)⟩
end
def RW (W:World) (l:List Xi) (vb:Value) (w:World):Prop:=∃ va vp,RV W (flat l) vb l.length (plcs l) va l.length (xsC l) vp w
theorem bts_atR {base:Nat} {w:World} {p:Option Addr} {n c:Nat} {l:List Int} (h:Bts base w (.slice p n c) l) (ok:Oks l):BytesAt w p l.length c l:=by
  obtain ⟨a,c',e,h⟩:=h.at ok
  injection e with e1 e2 e3
  subst e1 e3
  exact h
theorem frame_letter {c:Code} {F:Fence} {m:Nat} {P:Program} {Q:Exit → Act → World → Prop} {a:Act} {w:World} (h:∀ A0,A0=a → c.wpIn F m P Q A0 w):c.wpIn F m P Q a w:=h a rfl
theorem gone_len {zs:List Int} (ok:Oks zs) {pre:List (Int × Xi)} {p:Nat} (h:Gone zs pre p):pre.length ≤ p:=by
  induction h with
  | nil=>exact Nat.le_refl _
  | snoc g hr ih=>
    have:=(read_len ok (g.le ok) hr).2.1
    rw [List.length_append,List.length_cons,List.length_nil]
    omega
theorem row1_at {cur:Array Value} {xs:List Value} {n k:Nat} {v:Value} (tk:cur.toList.take (n * 1)=xs) (hk:k < n) (hx:xs[k]?=some v):cur[k]?=some v:=by
  rw [← tk,List.getElem?_take_of_lt (by omega),Array.getElem?_toList] at hx
  exact hx
theorem row8_at {cur:Array Value} {xs:List Value} {n k:Nat} (tk:cur.toList.take (n * 8)=xs) (hk:k < n):(cur.toList.drop (k * 8)).take 8=(xs.drop (k * 8)).take 8:=by
  rw [← tk,List.drop_take,List.take_take,Nat.min_eq_left (by omega)]
theorem eqxr (x:Xi) (w:World):(Op.equalIn 10000 24 (.agg (xC x)) (.agg (xC x))).run Tryd.prog w=.ok true w:=by
  have h:=eq_x x x w
  rw [eqX_refl x] at h
  exact h
theorem keep_from {gi m:Nat} {A B C:World} {c:Array Value} {T:TypeId} (b:Below A.heap.size A B) (s:Stored B gi c T C) (h:gi < m):KeepsFrom m A C:=
  ⟨by rw [s.size];exact b.size,fun q o hm hq _=>(s.other q (by omega)).trans ((b.block q (Array.getElem?_eq_some_iff.1 hq).1).trans hq)⟩
theorem keep_one {gi:Nat} {A B C:World} {c:Array Value} {T:TypeId} (b:Below A.heap.size A B) (s:Stored B gi c T C):KeepK (kI gi gi) A C:=
  ⟨by rw [s.size];exact b.size,fun q o hq hk=>(s.other q (fun e=>by
    subst e
    cases o <;> simp [isK,kI] at hk)).trans ((b.block q (Array.getElem?_eq_some_iff.1 hq).1).trans hq)⟩
theorem eql_fn (p:Option Addr) (w:World):(binOp .eql 37 (.func (.func 17) #[] #[.pointer p]) .nilFunc).run Tryd.prog w=.ok (.bool false) w:=by
  simp only [binOp]
  simp [go_sem]
  rfl
theorem range_below {W w:World} {B o:Nat} {cs:List Value} (h:W.rangeAt B o cs) (b:Below W.heap.size W w):w.rangeAt B o cs:=fun j v hv=>(b.cell (lt_cell (h j v hv))).trans (h j v hv)
theorem own_slice {w:World} {base n size:Nat} {e:TypeId} {v:Value} {xs:List Value} (h:w.ownsRow base e size v n xs):∃ p c,v=.slice p n c:=by
  rcases h.2 with ⟨rfl,rfl⟩ | ⟨g,cap,cur,rfl,_⟩
  · exact ⟨none,0,rfl⟩
  · exact ⟨_,_,rfl⟩
set_option maxHeartbeats 8000000 in
theorem rows_main (a:Option Addr) (len cap:Nat) (xs:Nat → Xi) (a2:Option Addr) (len2 cap2:Nat) (zs:List Int) (W:World) (hL:Xis W a len cap xs) (hz:BytesAt W a2 len2 cap2 zs) (hT:Tab3 W) (l60:len ≤ 60) (l40:len2 ≤ 40):
    Calls Tryd.prog 4 #[.slice a len cap,.slice a2 len2 cap2] W fun e w'=>e=.returned (.bool true) ∧ Below W.heap.size W w':=by
  have mo:Tryd.prog.follows .mixedOrders=true:=by kernel_rfl
  have HL:=Lib.hid hL
  have HZ:=Lib.hid hz
  have HT:=Lib.hid hT
  have g1:decide ((60:Int) < (len:Int))=false:=by simp;omega
  have g2:decide ((40:Int) < (len2:Int))=false:=by simp;omega
  have WK:=Lib.hid (fun W (hT:Tab3 W)=>wakes_n W hT.two)
  clear hL hz hT
  refine (callsIn_wide (n:=6)).1 (callsIn_of_wp_marks Tryd.func4 rfl trivial ?_ rfl)
  simp only [Tryd.ntmps4,List.size_toArray,List.length_cons,List.length_nil,Nat.reduceAdd,Nat.reduceSub,Array.replicate_succ,Array.replicate_zero,List.push_toArray,List.append_toArray,List.nil_append,List.cons_append]
  refine (wpIn_wide (n:=6)).2 ?_
  go_wp2_with fail
  go_loopw [5,28] (fun vb i wr=>∃ k:Nat,k ≤ len ∧ i=.int .i64 k ∧ Hid (RW W (putL xs k) vb wr)) (fun _ i _=>len - (intOf i).toNat)
  case atStart=>
    have h0:=below_new (below_new (below_new (Below.refl W.heap.size W) (.cells #[.bool false] 4)) (.cells #[.slice none 0 0] 35)) (.cells #[.slice none 0 0] 34)
    exact ⟨0,by omega,rfl,Lib.hid ⟨.slice none 0 0,.slice none 0 0,h0,(heap_past _ _ _ (by rw [size_alloc,size_alloc];omega)).trans ((heap_past _ _ _ (by rw [size_alloc];omega)).trans (heap_last _ _ _ rfl)),Bts.nil _ _,
      (heap_past _ _ _ (by rw [size_alloc,size_alloc];omega)).trans (heap_last _ _ _ (by rw [size_alloc])),World.ownsRow_nil _ _ _ _,heap_last _ _ _ (by rw [size_alloc,size_alloc]),World.ownsRow_nil _ _ _ _⟩⟩
  case round=>
    obtain ⟨k,hk,rfl,HR⟩:=hrel
    by_cases hlt:k < len
    · have kl:(k:Int) < (len:Int):=by omega
      obtain ⟨va,vp,hv⟩:=HR.out
      have HV:=Lib.hid hv
      obtain ⟨B1,o1,rfl,hr⟩:=HL.out.here (by omega)
      have RG:=Lib.hid (range_below (hr k hlt) hv.b)
      have BX:=Lib.hid (fun W hT=>bytes_n (xs k) (HL.out.ok k hlt) W hT)
      have XO:=HL.out.ok k hlt
      have PL:putL xs (k + 1)=if mayX (xs k)=true then putL xs k ++ [xs k] else putL xs k:=rfl
      have PN:=putL_len xs k
      have PF:=putL_fine xs k (fun i hi=>HL.out.ok i (by omega))
      have FN:=flat_len PF
      obtain ⟨pb,cb,rfl⟩:=bts_slice hv.row
      generalize putL xs k=l at *
      generalize xs k=x at *
      have PLH:=Lib.hid PL
      clear hv hr PL
      unfold RetX at BX
      go_wp2_with (with_reducible refine (halt_load 24 _ rfl ?_))
      refine ⟨?_,trivial⟩
      refine wpList_load_mid rfl 24 _ rfl B1 (o1 + k * 8) rfl _ _ RG.out Tryd.underlying24 rfl (by kernel_rfl) ?_
      go_wp2_with (with_reducible refine (halt_store 24 _ _ rfl ?_))
      refine ⟨?_,trivial⟩
      refine wpList_store_is rfl 24 _ _ rfl _ _ rfl rfl _ _ (heap_last _ _ _ rfl) (by kernel_rfl) rfl (by kernel_rfl) ?_
      intro w2 S2
      have B2:=Lib.hid (S2.below (below_new (Below.refl wr.heap.size wr) _) (Nat.le_refl _))
      have X2:=Lib.hid S2.row
      clear S2
      go_wp2_with (with_reducible refine (halt_load0 24 _ rfl rfl ?_))
      refine ⟨?_,trivial⟩
      refine wpList_load_row rfl 24 _ rfl _ rfl _ _ _ _ X2.out Tryd.underlying24 rfl (by kernel_rfl) ?_
      go_wp2_with fail
      refine (BX.out _ ((HT.out.below (below_call HV.out.b B2.out) (Nat.le_refl _)).two)).mono ?_
      rintro e w3 ⟨v3,rfl,o3,b3⟩
      have B3:=Lib.hid (below_call B2.out b3)
      have V3:=Lib.hid (HV.out.below B3.out)
      have X3:=Lib.hid (row_heap X2.out b3)
      cases hm:mayX x with
      | false=>
        have HP:=Lib.hid (show putL xs (k + 1)=l from by rw [PLH.out,if_neg (by rw [hm];decide)])
        rw [(bytL_no hm).2]
        clear hm o3 b3
        go_wp2_with fail
        go_roundw
        case rel=>exact ⟨k + 1,by omega,by go_num,Lib.hid ⟨va,vp,by rw [HP.out];exact V3.out⟩⟩
        case measure=>simp [intOf];omega
      | true=>
        have HP:=Lib.hid (show putL xs (k + 1)=l ++ [x] from by rw [PLH.out,if_pos hm])
        have hlen:=bytes_few x XO hm
        rw [(bytL_yes hm).1] at o3
        rw [(bytL_yes hm).2]
        obtain ⟨p3,c3,rfl,at3⟩:=o3.at (bytes_ok x XO hm)
        have O3:=Lib.hid o3
        have XB:=Lib.hid (bytes_ok x XO hm)
        clear hm o3 b3 at3
        obtain ⟨pa,ca,rfl⟩:=own_slice V3.out.ao
        obtain ⟨pp,cp,rfl⟩:=own_slice V3.out.po
        have ca0:=row_cell V3.out.a 0 _ rfl
        go_wp2_with (at_builtin;refine (show ∀ p:Prop,Hid p → p from fun _ h=>h.out) _ ?_)
        refine Lib.hid ?_
        have V4:=Lib.hid (V3.out.below (below_new (Below.refl w3.heap.size w3) (.cells #[.int .i64 ((flat l).length:Int)] 3)))
        refine append_intR rfl _ _ rfl W.heap.size l.length _ (plcs l) ((flat l).length:Int) w3.heap.size rfl rfl V4.out.ao (heap_last _ _ _ rfl) V4.out.b.size (by omega) ?_
        intro v4 w4 o4 g4
        obtain ⟨pa4,ca4,rfl⟩:=own_slice o4
        have O4:=Lib.hid o4
        have G4:=Lib.hid g4
        clear o4 g4
        have ho4:=row_grown V4.out.a V4.out.ao G4.out (by decide)
        have X4:=row_grown (row_heap X3.out (below_new (Below.refl w3.heap.size w3) (.cells #[.int .i64 ((flat l).length:Int)] 3))) V4.out.ao G4.out (by decide)
        have C4:=own_grown (own_below O3.out (below_new (Below.refl w3.heap.size w3) (.cells #[.int .i64 ((flat l).length:Int)] 3))) V4.out.ao G4.out (by decide)
        go_wp2_with (with_reducible refine (halt_store 35 _ _ rfl ?_))
        refine ⟨?_,trivial⟩
        refine wpList_store_cell rfl 35 _ _ rfl (W.heap.size + 1) 0 (.slice pa4 (l.length + 1) ca4) rfl rfl rfl rfl _ _ ho4 (by kernel_rfl) (Nat.le_of_ble_eq_true rfl) ?_
        intro w5 S5
        have V5:=Lib.hid (V4.out.push_int O4.out G4.out S5)
        have X5:=Lib.hid (row_stored X4 S5 ho4 (by decide))
        have C5:=Lib.hid (own_stored C4 S5 ho4 (by decide))
        clear S5 ho4 X4 C4 ca0
        have cp0:=row_cell V5.out.p 0 _ rfl
        go_wp2_with (with_reducible refine (halt_load0 24 _ rfl rfl ?_))
        refine ⟨?_,trivial⟩
        refine wpList_load_row rfl 24 _ rfl _ rfl _ _ _ _ X5.out Tryd.underlying24 rfl (by kernel_rfl) ?_
        go_wp2_with (at_builtin;refine (show ∀ p:Prop,Hid p → p from fun _ h=>h.out) _ ?_)
        refine Lib.hid ?_
        have V6:=Lib.hid (V5.out.below (below_new (Below.refl w5.heap.size w5) (.cells (xC x) 24)))
        refine append_xR rfl _ _ rfl W.heap.size l.length _ (xsC l) x w5.heap.size rfl rfl V6.out.po (heap_last _ _ _ rfl) V6.out.b.size (by omega) ?_
        intro v6 w6 o6 g6
        obtain ⟨pp6,cp6,rfl⟩:=own_slice o6
        have O6:=Lib.hid o6
        have G6:=Lib.hid g6
        clear o6 g6
        have ho6:=row_grown V6.out.p V6.out.po G6.out (by decide)
        have C6:=own_grown (own_below C5.out (below_new (Below.refl w5.heap.size w5) (.cells (xC x) 24))) V6.out.po G6.out (by decide)
        go_wp2_with (with_reducible refine (halt_store 34 _ _ rfl ?_))
        refine ⟨?_,trivial⟩
        refine wpList_store_cell rfl 34 _ _ rfl (W.heap.size + 2) 0 (.slice pp6 (l.length + 1) cp6) rfl rfl rfl rfl _ _ ho6 (by kernel_rfl) (Nat.le_of_ble_eq_true rfl) ?_
        intro w7 S7
        have V7:=Lib.hid (V6.out.push_x O6.out G6.out S7)
        have C7:=Lib.hid (bts_atR (own_stored C6 S7 ho6 (by decide)) XB.out)
        clear S7 ho6 C6 cp0
        go_wp2_with (at_builtin;refine (show ∀ p:Prop,Hid p → p from fun _ h=>h.out) _ ?_)
        refine Lib.hid ?_
        refine wpList_append_b rfl _ _ rfl W.heap.size _ _ rfl V7.out.row _ _ _ (bytesX x) rfl C7.out (by omega) V7.out.b.size ?_
        intro v8 w8 o8 g8
        have V8:=Lib.hid (V7.out.push_b o8 g8)
        clear o8 g8
        go_wp2_with fail
        go_roundw
        case rel=>exact ⟨k + 1,by omega,by go_num,Lib.hid ⟨_,_,by rw [HP.out,flat_snoc,plcs_snoc,xsC_snoc,List.length_append];exact V8.out⟩⟩
        case measure=>simp [intOf];omega
    · obtain rfl:k=len:=by omega
      obtain ⟨va,vp,hv⟩:=HR.out
      have PN:=putL_len xs k
      have PF:=Lib.hid (putL_fine xs k (fun i hi=>HL.out.ok i hi))
      have FN:=flat_len PF.out
      obtain ⟨pb,cb,rfl⟩:=bts_slice hv.row
      have HV:=Lib.hid hv
      clear hv HR
      generalize putL xs k=l at *
      have ZL:zs.length ≤ 40:=by have:=HZ.out.size;omega
      have V1:=Lib.hid (HV.out.below (below_new (Below.refl wr.heap.size wr) (.cells #[.int .i64 ((flat l).length:Int)] 3)))
      have OKZ:=Lib.hid (show Oks (flat l ++ zs) from fun z hz=>(List.mem_append.1 hz).elim (flat_ok PF.out z) (HZ.out.ok z))
      go_wp2_with (at_builtin;refine (show ∀ p:Prop,Hid p → p from fun _ h=>h.out) _ ?_)
      refine Lib.hid ?_
      refine wpList_append_b rfl _ _ rfl W.heap.size _ _ rfl V1.out.row _ _ _ zs rfl (HZ.out.below V1.out.b) (by omega) V1.out.b.size ?_
      intro v2 w2 o2 g2
      have E2:=Lib.hid (row_grown (heap_last wr (.cells #[.int .i64 ((flat l).length:Int)] 3) _ rfl) V1.out.row g2 (by decide))
      have V2:=Lib.hid (V1.out.push_b o2 g2)
      obtain ⟨p2,c2,rfl,at2⟩:=o2.at OKZ.out
      have ZN:(flat l ++ zs).length ≤ 1000:=by rw [List.length_append];omega
      have AL:=Lib.hid (all_n p2 _ c2 _ w2 at2 ZN)
      clear o2 g2 at2 HV V1
      have ZH:=Lib.hid ZN
      clear ZN
      generalize (flat l ++ zs).length=n2 at AL V2 ⊢
      have enf:=fun w=>eql_fn (some ⟨w2.heap.size,0,none⟩) w
      go_wp2_with fail
      refine AL.out.mono ?_
      rintro e w3 ⟨rfl,b3,v3,r3,o3⟩
      have bw:=below_new (Below.refl w3.heap.size w3) (.cells #[.int .i64 0] 3)
      have V3:=Lib.hid (V2.out.below b3)
      have BW:=Lib.hid bw
      have V4:=Lib.hid (V3.out.below bw)
      have E4:=Lib.hid (row_heap (row_heap E2.out b3) bw)
      have T4:=HT.out.below V4.out.b (Nat.le_refl _)
      have lt23:w2.heap.size < w3.heap.size:=(Array.getElem?_eq_some_iff.1 r3).1
      have lte:wr.heap.size < w2.heap.size:=(Array.getElem?_eq_some_iff.1 E2.out).1
      have G4:=heap_last w3 (.cells #[.int .i64 0] 3) _ rfl
      have SEQ:=Lib.hid (all_seqV w3.heap.size 5 (w2.heap.size + 1) (by have:=(HT.out.below (below_call V2.out.b b3) (Nat.le_refl _)).size;omega) w2.heap.size v3 (flat l ++ zs) _ (by omega) (by have:=ZH.out;omega) T4 (row_heap r3 bw) (o3.below bw) OKZ.out (fun c e=>by
        rw [G4] at e
        injection e with e
        injection e with _ e
        exact absurd e (by decide)) (by decide))
      have R0:=Lib.hid (show RQ _ w3.heap.size [] (w3.alloc (.cells #[.int .i64 0] 3)) from ⟨rfl,rfl,rfl,Nat.le_refl _,fun _ _ _=>rfl,G4⟩)
      have gil:w3.heap.size < (w3.alloc (.cells #[.int .i64 0] 3)).heap.size:=by rw [size_alloc];omega
      have hsW:=V2.out.size
      clear b3 r3 o3 bw T4 G4 V2 E2 AL
      go_wp2_with fail
      generalize w3.alloc (.cells #[.int .i64 0] 3)=w4 at *
      have AB:∀ γ,w4.heap.size ≤ γ → AbG (fun _=>false) 0 γ (fun pre w=>RQ w4 w3.heap.size pre w):=fun γ hγ s A C h t=>h.turn t hγ gil
      have ABH:=Lib.hid AB
      clear AB
      refine (wpIn_wide (n:=6)).1 ?_
      refine range_K (κ:=kI w3.heap.size w3.heap.size) (β:=0) (τ:=fun _=>false) (by decide) (gf:=17) (pa:=#[]) (lb:=#[.pointer (some ⟨w2.heap.size,0,none⟩)]) rfl (enters_of Tryd.func17 (by kernel_rfl) rfl) SEQ.out (Below.refl _ _) (fun _=>rfl)
        (fun pre w=>RQ w4 w3.heap.size pre w) (fun cc pre w=>False)
        ((ABH.out _ (Nat.le_refl _)).own (Nat.le_refl _)) (fun _ _ _ _ _ h _ _=>h) (fun cc _ _ _ _ h _ _=>h) ABH.out (fun _ _ _ _ _ _ h _=>h) (fun _ _ _ _ h _ _=>h) (fun _ _ _ _ h _ _=>h) R0.out
        (AxP ?fr w4.heap.size (fun pre w=>RQ w4 w3.heap.size pre w) (YA (flat l ++ zs))) (AxP.own ((ABH.out _ (Nat.le_refl _)).own (Nat.le_refl _))) ?assign ?body ?done ?stop
      case assign=>
        rintro l9 pre ⟨q1,x⟩ W9 K hi hy hK
        have HI:=Lib.hid hi
        have HYC:=Lib.hid hy
        have HK:=Lib.hid hK
        clear hi hy hK
        simp only [encA]
        refine in_region_seq (by decide) (fun _ _ h=>h) ?_
        intro K1 hK1
        go_wp2_with fail
        refine in_region (by decide) (fun _ _ h=>h) ?_
        intro K2 hK2
        go_wp2_with fail
        have bw:=below_new (Below.refl W9.heap.size W9) (.cells (xC x) 24)
        obtain ⟨cB,hcB⟩:∃ cB,cB=W9.heap.size:=⟨_,rfl⟩
        rw [← hcB]
        refine HK.out _ _ ⟨bw.size,fun q o _ hq _=>(bw.block q (Array.getElem?_eq_some_iff.1 hq).1).trans hq⟩ ⟨bw.size,fun q o hq _=>(bw.block q (Array.getElem?_eq_some_iff.1 hq).1).trans hq⟩ ⟨cB,?_,HI.out.below bw,HYC.out,heap_last _ _ _ hcB,by have:=HI.out.size;rw [hcB];omega⟩
        show _=?fr q1 x cB
        rfl
      case body=>
        rintro l9 pre ⟨q1,x⟩ a' W9 ⟨xB,rfl,hR,hy,hx,hxB⟩
        obtain ⟨p,hg,hq,hp⟩:=hy
        simp only at hq hp hx
        subst hp
        have NX:=rows_next PF.out OKZ.out hg hq
        have hpn:=gone_len OKZ.out hg
        have hpz:=hg.le OKZ.out
        have zh:=ZH.out
        have HQ:=Lib.hid hR
        have HI9:=Lib.hid hR.i
        have HA9:=Lib.hid (hR.row V4.out.a (by omega))
        have HP9:=Lib.hid (hR.row V4.out.p (by omega))
        have HE9:=Lib.hid (hR.row E4.out (by omega))
        have HX9:=Lib.hid hx
        clear hR hx hg hq
        by_cases hkm:pre.length < l.length
        · obtain ⟨y,hy⟩:∃ y,l[pre.length]?=some y:=⟨l[pre.length],List.getElem?_eq_getElem hkm⟩
          obtain ⟨hpl,rfl⟩:=NX.1 y hy
          have eLT:decide ((pre.length:Int) < (l.length:Int))=true:=by simp;omega
          have eGE:decide ((l.length:Int) ≤ (pre.length:Int))=false:=by simp;omega
          have eGE2:decide (l.length ≤ pre.length)=false:=by simp;omega
          rcases V3.out.ao.2 with ⟨_,h0⟩ | ⟨gV,cA,curA,rfl,_,hVA,_,_,_,tkA⟩
          · omega
          rcases V3.out.po.2 with ⟨_,h0⟩ | ⟨gL,cL,curL,rfl,_,hVL,_,_,_,tkL⟩
          · omega
          have ltV:=(Array.getElem?_eq_some_iff.1 hVA).1
          have ltL:=(Array.getElem?_eq_some_iff.1 hVL).1
          have HVA:=Lib.hid (HQ.out.row (row_heap hVA BW.out) (by omega))
          have HVL:=Lib.hid (HQ.out.row (row_heap hVL BW.out) (by omega))
          have hAc:=row1_at tkA hkm (by rw [pl_at l _ hkm,← hpl])
          have hLc:=(row8_at tkL hkm).trans (xs_at l _ _ hy)
          clear hVA hVL tkA tkL hpl hy NX
          refine wpIn_block ?_
          refine wpIn_seq ?_
          refine wpIn_seq ?_
          refine frame_letter ?_
          intro A0 hA0
          have hd0:A0.defers=[]:=by rw [hA0]
          have hz0:A0.tmps.size=101:=by rw [hA0];rfl
          have s7:A0.tmps.getD 7 undef=.pointer (some ⟨W.heap.size + 2,0,none⟩):=by rw [hA0];rfl
          have s14:A0.tmps.getD 14 undef=.pointer (some ⟨w3.heap.size,0,none⟩):=by rw [hA0];rfl
          have s6:A0.tmps.getD 6 undef=.pointer (some ⟨W.heap.size + 1,0,none⟩):=by rw [hA0];rfl
          have s15:A0.tmps.getD 15 undef=.int .i64 (p:Int):=by rw [hA0];rfl
          have s16:A0.tmps.getD 16 undef=.pointer (some ⟨xB,0,none⟩):=by rw [hA0];rfl
          have HA0:=Lib.hid hA0
          clear hA0
          refine go_regd (F:=Fence.wide.inRound l9) (m:=6 - 1 - 1) (fun fl u w=>Below W9.heap.size W9 w) [] [] [some (.int .i64 (pre.length:Int)),some (.slice (some ⟨gL,0,none⟩) l.length cL),some (.int .i64 (l.length:Int)),some (.bool true),some (.bool true),some (.int .i64 (p:Int)),some (.slice (some ⟨gV,0,none⟩) l.length cA),some (.int .i64 (pre.length:Int)),some (.pointer (some ⟨gV,pre.length,none⟩)),some (.int .i64 (p:Int)),some (.bool false),some (.bool false),some (.agg (xC x)),some (.slice (some ⟨gL,0,none⟩) l.length cL),some (.int .i64 (pre.length:Int)),some (.pointer (some ⟨gL,pre.length * 8,none⟩)),some (.agg (xC x)),some (.bool false),some (.bool false),some (.bool false)] mo (fun fl fl' u u' w hK hD h=>h) hd0 hz0 (by kernel_rfl) (fun fl w1 hfl b _=>b) (
           yc (@fun fl ax wx cx=>cx.iv (fun _=>trivial) (ex_ld rfl (cx.rq 14 s14) (brow cx.S HI9.out) rfl Tryd.isAgg3) rfl rfl rfl) <|
           yc (@fun fl ax wx cx=>cx.iv (fun _=>trivial) (ex_ld rfl (cx.rq 7 s7) (brow cx.S HP9.out) rfl Tryd.isAgg34) rfl rfl rfl) <|
           yc (@fun fl ax wx cx=>cx.iv (fun _=>trivial) (ex_lenP rfl rfl (cx.u 0 rfl)) rfl rfl rfl) <|
           yc (@fun fl ax wx cx=>cx.iv (fun _=>trivial) (ex_ltP rfl (cx.u 0 rfl) (cx.u 1 rfl) eLT) rfl rfl rfl) <|
           yc (@fun fl ax wx cx=>cx.iv (fun _=>trivial) (ex_mv rfl (cx.u 0 rfl)) rfl rfl rfl) <|
           yc (@fun fl ax wx cx=>cx.ival (fun _=>trivial) (cx.wy rfl rfl rfl rfl (cx.u 0 rfl)) (ex_mv rfl (cx.rq 15 s15)) rfl rfl rfl rfl rfl) <|
           yc (@fun fl ax wx cx=>cx.ival (fun _=>trivial) (cx.wy rfl rfl rfl rfl (cx.u 0 rfl)) (ex_ld rfl (cx.rq 6 s6) (brow cx.S HA9.out) rfl Tryd.isAgg35) rfl rfl rfl rfl rfl) <|
           yc (@fun fl ax wx cx=>cx.ival (fun _=>trivial) (cx.wy rfl rfl rfl rfl (cx.u 0 rfl)) (ex_ld rfl (cx.rq 14 s14) (brow cx.S HI9.out) rfl Tryd.isAgg3) rfl rfl rfl rfl rfl) <|
           yc (@fun fl ax wx cx=>cx.ival (fun _=>trivial) (cx.wy rfl rfl rfl rfl (cx.u 2 rfl)) (ex_ixP rfl (cx.u 0 rfl) (cx.u 1 rfl) hkm) rfl rfl rfl rfl rfl) <|
           yc (@fun fl ax wx cx=>cx.ival (fun _=>trivial) (cx.wy rfl rfl rfl rfl (cx.u 1 rfl)) (ex_ld rfl (cx.u 0 rfl) (brow cx.S HVA.out) hAc Tryd.isAgg3) rfl rfl rfl rfl rfl) <|
           yc (@fun fl ax wx cx=>cx.ival (fun _=>trivial) (cx.wy rfl rfl rfl rfl (cx.u 2 rfl)) (ex_neP rfl (cx.u 0 rfl) (cx.u 1 rfl)) rfl rfl rfl rfl rfl) <|
           yc (@fun fl ax wx cx=>cx.ival (fun _=>trivial) (cx.wy rfl rfl rfl rfl (cx.u 1 rfl)) (ex_mv rfl (cx.u 0 rfl)) rfl rfl rfl rfl rfl) <|
           yc (@fun fl ax wx cx=>cx.ival (fun _=>trivial) (cx.wy rfl rfl rfl rfl (cx.u 0 rfl)) (exec_loadR 24 _ rfl xB 0 (cx.rq 16 s16) (brow cx.S HX9.out) (xL x) rfl _ Tryd.underlying24 rfl (by kernel_rfl)) rfl rfl rfl rfl rfl) <|
           yc (@fun fl ax wx cx=>cx.ival (fun _=>trivial) (cx.wy rfl rfl rfl rfl (cx.u 0 rfl)) (ex_ld rfl (cx.rq 7 s7) (brow cx.S HP9.out) rfl Tryd.isAgg34) rfl rfl rfl rfl rfl) <|
           yc (@fun fl ax wx cx=>cx.ival (fun _=>trivial) (cx.wy rfl rfl rfl rfl (cx.u 0 rfl)) (ex_ld rfl (cx.rq 14 s14) (brow cx.S HI9.out) rfl Tryd.isAgg3) rfl rfl rfl rfl rfl) <|
           yc (@fun fl ax wx cx=>cx.ival (fun _=>trivial) (cx.wy rfl rfl rfl rfl (cx.u 2 rfl)) (ex_ixX rfl (cx.u 0 rfl) (cx.u 1 rfl) hkm) rfl rfl rfl rfl rfl) <|
           yc (@fun fl ax wx cx=>cx.ival (fun _=>trivial) (cx.wy rfl rfl rfl rfl (cx.u 1 rfl)) (exec_loadR 24 _ rfl gL (pre.length * 8) (cx.u 0 rfl) (brow cx.S HVL.out) (xL x) hLc _ Tryd.underlying24 rfl (by kernel_rfl)) rfl rfl rfl rfl rfl) <|
           yc (@fun fl ax wx cx=>cx.ival (fun _=>trivial) (cx.wy rfl rfl rfl rfl (cx.u 2 rfl)) (exec_neq rfl (cx.u 0 rfl) (cx.u 1 rfl) (by kernel_rfl) (eqxr x _)) rfl rfl rfl rfl rfl) <|
           yc (@fun fl ax wx cx=>cx.ival (fun _=>trivial) (cx.wy rfl rfl rfl rfl (cx.u 2 rfl)) (ex_pf rfl (cx.u 0 rfl) (cx.u 1 rfl)) rfl rfl rfl rfl rfl) <|
           yc (@fun fl ax wx cx=>cx.iv (fun _=>trivial) (ex_pt rfl (cx.u 0 rfl) (cx.u 1 rfl)) rfl rfl rfl) <|
           yn) ?_
          intro a9 w10 f9
          obtain ⟨fl9,_,hb9⟩:=f9.s
          have g82:=f9.v 19 rfl rfl rfl
          rw [f9.frame hz0 hd0,HA0.out]
          clear f9 hd0 hz0 s7 s14 s6 s15 s16 HA0
          rw [show outs _ (fun d=>a9.tmps.getD d undef)=[(63,a9.tmps.getD 63 undef),(64,a9.tmps.getD 64 undef),(65,a9.tmps.getD 65 undef),(66,a9.tmps.getD 66 undef),(67,a9.tmps.getD 67 undef),(68,a9.tmps.getD 68 undef),(69,a9.tmps.getD 69 undef),(70,a9.tmps.getD 70 undef),(71,a9.tmps.getD 71 undef),(72,a9.tmps.getD 72 undef),(73,a9.tmps.getD 73 undef),(74,a9.tmps.getD 74 undef),(75,a9.tmps.getD 75 undef),(76,a9.tmps.getD 76 undef),(77,a9.tmps.getD 77 undef),(78,a9.tmps.getD 78 undef),(79,a9.tmps.getD 79 undef),(80,a9.tmps.getD 80 undef),(81,a9.tmps.getD 81 undef),(82,a9.tmps.getD 82 undef)] by kernel_rfl,g82]
          simp only [putAll,List.setIfInBounds_toArray,List.set_cons_zero,List.set_cons_succ,Exit.then]
          generalize a9.tmps.getD 63 undef=y63
          generalize a9.tmps.getD 64 undef=y64
          generalize a9.tmps.getD 65 undef=y65
          generalize a9.tmps.getD 66 undef=y66
          generalize a9.tmps.getD 67 undef=y67
          generalize a9.tmps.getD 68 undef=y68
          generalize a9.tmps.getD 69 undef=y69
          generalize a9.tmps.getD 70 undef=y70
          generalize a9.tmps.getD 71 undef=y71
          generalize a9.tmps.getD 72 undef=y72
          generalize a9.tmps.getD 73 undef=y73
          generalize a9.tmps.getD 74 undef=y74
          generalize a9.tmps.getD 75 undef=y75
          generalize a9.tmps.getD 76 undef=y76
          generalize a9.tmps.getD 77 undef=y77
          generalize a9.tmps.getD 78 undef=y78
          generalize a9.tmps.getD 79 undef=y79
          generalize a9.tmps.getD 80 undef=y80
          generalize a9.tmps.getD 81 undef=y81
          clear g82
          refine wpIn_cond_false rfl ?_
          refine wpIn_skip ?_
          simp only [Exit.then]
          have ci:=row_cell (row_heap HI9.out hb9) 0 _ rfl
          have cp9:=row_cell (row_heap HP9.out hb9) 0 _ rfl
          have ce:=row_cell (row_heap HE9.out hb9) 0 _ rfl
          have hb1:(pre.length:Int) < 100000:=by omega
          have HI10:=Lib.hid (row_heap HI9.out hb9)
          have HB9:=Lib.hid hb9
          clear hb9
          refine wpIn_seq ?_
          refine in_region_seq (by decide) (fun _ _ h=>h) ?_
          intro K3 hK3
          go_wp2_with fail
          refine wpIn_cond_false rfl ?_
          refine wpIn_skip ?_
          simp only [Exit.then]
          refine in_region (by decide) (fun _ _ h=>h) ?_
          intro K4 hK4
          go_wp2_with (with_reducible refine (halt_store 3 _ _ rfl ?_))
          refine ⟨?_,trivial⟩
          refine wpList_store_cell rfl 3 _ _ rfl w3.heap.size 0 (.int .i64 ((pre.length:Int) + 1)) rfl (by rfl) rfl rfl _ _ HI10.out (by kernel_rfl) (Nat.le_of_ble_eq_true rfl) ?_
          intro w11 s11
          have S11:=Lib.hid (show Stored w10 w3.heap.size #[.int .i64 ((pre.length + 1:Nat):Int)] 3 w11 from by first | exact s11 | simpa using s11)
          clear s11
          go_wp2_with fail
          refine ⟨keep_from HB9.out S11.out gil,keep_one HB9.out S11.out,(HQ.out.below HB9.out).count S11.out⟩
        · have hge:=NX.2 (by omega)
          have eLT:decide ((pre.length:Int) < (l.length:Int))=false:=by simp;omega
          have eGE:decide ((l.length:Int) ≤ (pre.length:Int))=true:=by simp;omega
          have eGE2:decide (l.length ≤ pre.length)=true:=by simp;omega
          have eEN:decide ((p:Int) < ((flat l).length:Int))=false:=by simp;omega
          have eEN2:decide (p < (flat l).length)=false:=by simp;omega
          obtain ⟨pp,cp,rfl⟩:=own_slice V3.out.po
          clear NX hge
          refine wpIn_block ?_
          refine wpIn_seq ?_
          refine wpIn_seq ?_
          refine frame_letter ?_
          intro A0 hA0
          have hd0:A0.defers=[]:=by rw [hA0]
          have hz0:A0.tmps.size=101:=by rw [hA0];rfl
          have s7:A0.tmps.getD 7 undef=.pointer (some ⟨W.heap.size + 2,0,none⟩):=by rw [hA0];rfl
          have s14:A0.tmps.getD 14 undef=.pointer (some ⟨w3.heap.size,0,none⟩):=by rw [hA0];rfl
          have HA0:=Lib.hid hA0
          clear hA0
          refine go_regd (F:=Fence.wide.inRound l9) (m:=6 - 1 - 1) (fun fl u w=>Below W9.heap.size W9 w) [] [] [some (.int .i64 (pre.length:Int)),some (.slice pp l.length cp),some (.int .i64 (l.length:Int)),some (.bool false),some (.bool false),some (undef),some (undef),some (undef),some (undef),some (undef),some (undef),some (undef),some (undef),some (undef),some (undef),some (undef),some (undef),some (undef),some (undef),some (.bool false)] mo (fun fl fl' u u' w hK hD h=>h) hd0 hz0 (by kernel_rfl) (fun fl w1 hfl b _=>b) (
           yc (@fun fl ax wx cx=>cx.iv (fun _=>trivial) (ex_ld rfl (cx.rq 14 s14) (brow cx.S HI9.out) rfl Tryd.isAgg3) rfl rfl rfl) <|
           yc (@fun fl ax wx cx=>cx.iv (fun _=>trivial) (ex_ld rfl (cx.rq 7 s7) (brow cx.S HP9.out) rfl Tryd.isAgg34) rfl rfl rfl) <|
           yc (@fun fl ax wx cx=>cx.iv (fun _=>trivial) (ex_lenP rfl rfl (cx.u 0 rfl)) rfl rfl rfl) <|
           yc (@fun fl ax wx cx=>cx.iv (fun _=>trivial) (ex_ltP rfl (cx.u 0 rfl) (cx.u 1 rfl) eLT) rfl rfl rfl) <|
           yc (@fun fl ax wx cx=>cx.iv (fun _=>trivial) (ex_mv rfl (cx.u 0 rfl)) rfl rfl rfl) <|
           yc (@fun fl ax wx cx=>cx.ino (fun _=>trivial) (cx.wo rfl rfl rfl rfl (cx.u 0 rfl) rfl) rfl rfl rfl rfl) <|
           yc (@fun fl ax wx cx=>cx.ino (fun _=>trivial) (cx.wo rfl rfl rfl rfl (cx.u 0 rfl) rfl) rfl rfl rfl rfl) <|
           yc (@fun fl ax wx cx=>cx.ino (fun _=>trivial) (cx.wo rfl rfl rfl rfl (cx.u 0 rfl) rfl) rfl rfl rfl rfl) <|
           yc (@fun fl ax wx cx=>cx.ino (fun _=>trivial) (cx.wo rfl rfl rfl rfl (cx.u 2 rfl) rfl) rfl rfl rfl rfl) <|
           yc (@fun fl ax wx cx=>cx.ino (fun _=>trivial) (cx.wo rfl rfl rfl rfl (cx.u 1 rfl) rfl) rfl rfl rfl rfl) <|
           yc (@fun fl ax wx cx=>cx.ino (fun _=>trivial) (cx.wo rfl rfl rfl rfl (cx.u 2 rfl) rfl) rfl rfl rfl rfl) <|
           yc (@fun fl ax wx cx=>cx.ino (fun _=>trivial) (cx.wo rfl rfl rfl rfl (cx.u 1 rfl) rfl) rfl rfl rfl rfl) <|
           yc (@fun fl ax wx cx=>cx.ino (fun _=>trivial) (czwu cx rfl rfl rfl rfl (cx.u 0 rfl)) rfl rfl rfl rfl) <|
           yc (@fun fl ax wx cx=>cx.ino (fun _=>trivial) (czwu cx rfl rfl rfl rfl (cx.u 0 rfl)) rfl rfl rfl rfl) <|
           yc (@fun fl ax wx cx=>cx.ino (fun _=>trivial) (czwu cx rfl rfl rfl rfl (cx.u 0 rfl)) rfl rfl rfl rfl) <|
           yc (@fun fl ax wx cx=>cx.ino (fun _=>trivial) (czwu cx rfl rfl rfl rfl (cx.u 2 rfl)) rfl rfl rfl rfl) <|
           yc (@fun fl ax wx cx=>cx.ino (fun _=>trivial) (czwu cx rfl rfl rfl rfl (cx.u 1 rfl)) rfl rfl rfl rfl) <|
           yc (@fun fl ax wx cx=>cx.ino (fun _=>trivial) (czwu cx rfl rfl rfl rfl (cx.u 2 rfl)) rfl rfl rfl rfl) <|
           yc (@fun fl ax wx cx=>cx.ino (fun _=>trivial) (cx.wo rfl rfl rfl rfl (cx.u 2 rfl) rfl) rfl rfl rfl rfl) <|
           yc (@fun fl ax wx cx=>cx.iv (fun _=>trivial) (ex_pf rfl (cx.u 0 rfl) rfl) rfl rfl rfl) <|
           yn) ?_
          intro a9 w10 f9
          obtain ⟨fl9,_,hb9⟩:=f9.s
          have g82:=f9.v 19 rfl rfl rfl
          rw [f9.frame hz0 hd0,HA0.out]
          clear f9 hd0 hz0 s7 s14 HA0
          rw [show outs _ (fun d=>a9.tmps.getD d undef)=[(63,a9.tmps.getD 63 undef),(64,a9.tmps.getD 64 undef),(65,a9.tmps.getD 65 undef),(66,a9.tmps.getD 66 undef),(67,a9.tmps.getD 67 undef),(68,a9.tmps.getD 68 undef),(69,a9.tmps.getD 69 undef),(70,a9.tmps.getD 70 undef),(71,a9.tmps.getD 71 undef),(72,a9.tmps.getD 72 undef),(73,a9.tmps.getD 73 undef),(74,a9.tmps.getD 74 undef),(75,a9.tmps.getD 75 undef),(76,a9.tmps.getD 76 undef),(77,a9.tmps.getD 77 undef),(78,a9.tmps.getD 78 undef),(79,a9.tmps.getD 79 undef),(80,a9.tmps.getD 80 undef),(81,a9.tmps.getD 81 undef),(82,a9.tmps.getD 82 undef)] by kernel_rfl,g82]
          simp only [putAll,List.setIfInBounds_toArray,List.set_cons_zero,List.set_cons_succ,Exit.then]
          generalize a9.tmps.getD 63 undef=y63
          generalize a9.tmps.getD 64 undef=y64
          generalize a9.tmps.getD 65 undef=y65
          generalize a9.tmps.getD 66 undef=y66
          generalize a9.tmps.getD 67 undef=y67
          generalize a9.tmps.getD 68 undef=y68
          generalize a9.tmps.getD 69 undef=y69
          generalize a9.tmps.getD 70 undef=y70
          generalize a9.tmps.getD 71 undef=y71
          generalize a9.tmps.getD 72 undef=y72
          generalize a9.tmps.getD 73 undef=y73
          generalize a9.tmps.getD 74 undef=y74
          generalize a9.tmps.getD 75 undef=y75
          generalize a9.tmps.getD 76 undef=y76
          generalize a9.tmps.getD 77 undef=y77
          generalize a9.tmps.getD 78 undef=y78
          generalize a9.tmps.getD 79 undef=y79
          generalize a9.tmps.getD 80 undef=y80
          generalize a9.tmps.getD 81 undef=y81
          clear g82
          refine wpIn_cond_false rfl ?_
          refine wpIn_skip ?_
          simp only [Exit.then]
          have ci:=row_cell (row_heap HI9.out hb9) 0 _ rfl
          have cp9:=row_cell (row_heap HP9.out hb9) 0 _ rfl
          have ce:=row_cell (row_heap HE9.out hb9) 0 _ rfl
          have hb1:(pre.length:Int) < 100000:=by omega
          have HI10:=Lib.hid (row_heap HI9.out hb9)
          have HB9:=Lib.hid hb9
          clear hb9
          refine wpIn_seq ?_
          refine in_region_seq (by decide) (fun _ _ h=>h) ?_
          intro K3 hK3
          go_wp2_with fail
          refine wpIn_cond_false rfl ?_
          refine wpIn_skip ?_
          simp only [Exit.then]
          refine in_region (by decide) (fun _ _ h=>h) ?_
          intro K4 hK4
          go_wp2_with (with_reducible refine (halt_store 3 _ _ rfl ?_))
          refine ⟨?_,trivial⟩
          refine wpList_store_cell rfl 3 _ _ rfl w3.heap.size 0 (.int .i64 ((pre.length:Int) + 1)) rfl (by rfl) rfl rfl _ _ HI10.out (by kernel_rfl) (Nat.le_of_ble_eq_true rfl) ?_
          intro w11 s11
          have S11:=Lib.hid (show Stored w10 w3.heap.size #[.int .i64 ((pre.length + 1:Nat):Int)] 3 w11 from by first | exact s11 | simpa using s11)
          clear s11
          go_wp2_with fail
          refine ⟨keep_from HB9.out S11.out gil,keep_one HB9.out S11.out,(HQ.out.below HB9.out).count S11.out⟩
      case done=>
        rintro D9 xs9 W9 hD ⟨p,hg,hn⟩ hR hK
        have hall:=rows_all PF.out OKZ.out hg hn
        have eGE:decide ((l.length:Int) ≤ (xs9.length:Int))=true:=by simp;omega
        have eGE2:decide (l.length ≤ xs9.length)=true:=by simp;omega
        have HQ:=Lib.hid hR
        have ci:=row_cell hR.i 0 _ rfl
        obtain ⟨pp,cp,rfl⟩:=own_slice V3.out.po
        have cp9:=row_cell (hR.row V4.out.p (by omega)) 0 _ rfl
        have HR9:=Lib.hid (hR.row V4.out.r (by omega))
        have BO:=Lib.hid (hR.outer V4.out.b (by omega))
        have hsz9:=hR.size
        clear hR hg hn
        go_wp2_with fail
        refine (WK.out _ (HT.out.below BO.out (Nat.le_refl _))).mono ?_
        rintro e w5 ⟨rfl,b5⟩
        have HR5:=Lib.hid (row_heap HR9.out b5)
        have hK5:w5.heap[D9]?=some (.deferred (some [])):=(b5.block D9 (Array.getElem?_eq_some_iff.1 hK).1).trans hK
        have BO5:=Lib.hid (below_call BO.out b5)
        clear b5 hK
        go_wp2_with (with_reducible refine (halt_store 4 _ _ rfl ?_))
        refine ⟨?_,trivial⟩
        refine wpList_store_cell rfl 4 _ _ rfl W.heap.size 0 (.bool true) rfl rfl rfl rfl _ _ HR5.out (by kernel_rfl) (Nat.le_of_ble_eq_true rfl) ?_
        intro w6 s6
        have hK6:=(s6.other D9 (by omega)).trans hK5
        have b6:=s6.below BO5.out (Nat.le_refl _)
        have po:∀ k,k ≠ D9 → (w6.putObj D9 (.deferred none)).heap[k]?=w6.heap[k]?:=fun k h=>World.putObj_heap_other h
        have RR:=(po W.heap.size (by omega)).trans s6.row
        have x0:=row_cell RR 0 _ rfl
        have b9:Below W.heap.size W (w6.putObj D9 (.deferred none)):=⟨b6.os,b6.tape,b6.output,by have:=b6.size;simp [World.putObj];exact this,fun k hk=>(po k (by omega)).trans (b6.block k hk)⟩
        have FIN:=Lib.hid (And.intro b9 x0)
        have HK6:=Lib.hid hK6
        clear s6 hK6 b6 po RR x0 b9 hK5
        go_wp2_with fail
        refine ⟨by simp,.inl ⟨_,_,rfl,run_takeDeferred HK6.out,.bool true,?_,rfl,FIN.out.1⟩⟩
        have x0:=FIN.out.2
        simp [results,Tryd.results4,go_sem,x0]
      case stop=>
        rintro D9 cc pre W9 hD _ h hK
        exact h.elim
set_option maxHeartbeats 2000000 in
theorem rows_longA (a:Option Addr) (len cap:Nat) (a2:Option Addr) (len2 cap2:Nat) (W:World) (hT:Tab3 W) (hl:60 < len):
    Calls Tryd.prog 4 #[.slice a len cap,.slice a2 len2 cap2] W fun e w'=>e=.returned (.bool true) ∧ Below W.heap.size W w':=by
  have HT:=Lib.hid hT
  have WK:=Lib.hid (fun W (hT:Tab3 W)=>wakes_n W hT.two)
  have g1:decide ((60:Int) < (len:Int))=true:=by simp;omega
  clear hT
  go_enter Tryd.func4,Tryd.ntmps4
  go_wp2_with fail
  refine (WK.out _ (HT.out.below (below_new (Below.refl _ _) _) (Nat.le_refl _))).mono ?_
  rintro e w1 ⟨rfl,b1⟩
  have HR:=Lib.hid (heap_below b1 (heap_last W (.cells #[.bool false] 4) _ rfl) (Nat.le_refl _))
  have B1:=Lib.hid (below_call (below_new (Below.refl _ _) _) b1)
  clear b1
  go_wp2_with (with_reducible refine (halt_store 4 _ _ rfl ?_))
  refine ⟨?_,trivial⟩
  refine wpList_store_cell rfl 4 _ _ rfl W.heap.size 0 (.bool true) rfl rfl rfl rfl _ _ HR.out (by kernel_rfl) (Nat.le_of_ble_eq_true rfl) ?_
  intro w2 s2
  have x0:=row_cell s2.row 0 _ rfl
  have B2:=Lib.hid (s2.below B1.out (Nat.le_refl _))
  have X0:=Lib.hid x0
  clear s2 x0
  go_wp2_with fail
  have x0:=X0.out
  exact bodyPost_ret (v:=.bool true) (by simp [results,Tryd.results4,go_sem,x0]) rfl ⟨rfl,B2.out⟩
set_option maxHeartbeats 2000000 in
theorem rows_longB (a:Option Addr) (len cap:Nat) (a2:Option Addr) (len2 cap2:Nat) (W:World) (hT:Tab3 W) (hl:len ≤ 60) (hm:40 < len2):
    Calls Tryd.prog 4 #[.slice a len cap,.slice a2 len2 cap2] W fun e w'=>e=.returned (.bool true) ∧ Below W.heap.size W w':=by
  have HT:=Lib.hid hT
  have WK:=Lib.hid (fun W (hT:Tab3 W)=>wakes_n W hT.two)
  have g1:decide ((60:Int) < (len:Int))=false:=by simp;omega
  have g2:decide ((40:Int) < (len2:Int))=true:=by simp;omega
  clear hT
  go_enter Tryd.func4,Tryd.ntmps4
  go_wp2_with fail
  refine (WK.out _ (HT.out.below (below_new (Below.refl _ _) _) (Nat.le_refl _))).mono ?_
  rintro e w1 ⟨rfl,b1⟩
  have HR:=Lib.hid (heap_below b1 (heap_last W (.cells #[.bool false] 4) _ rfl) (Nat.le_refl _))
  have B1:=Lib.hid (below_call (below_new (Below.refl _ _) _) b1)
  clear b1
  go_wp2_with (with_reducible refine (halt_store 4 _ _ rfl ?_))
  refine ⟨?_,trivial⟩
  refine wpList_store_cell rfl 4 _ _ rfl W.heap.size 0 (.bool true) rfl rfl rfl rfl _ _ HR.out (by kernel_rfl) (Nat.le_of_ble_eq_true rfl) ?_
  intro w2 s2
  have x0:=row_cell s2.row 0 _ rfl
  have B2:=Lib.hid (s2.below B1.out (Nat.le_refl _))
  have X0:=Lib.hid x0
  clear s2 x0
  go_wp2_with fail
  have x0:=X0.out
  exact bodyPost_ret (v:=.bool true) (by simp [results,Tryd.results4,go_sem,x0]) rfl ⟨rfl,B2.out⟩
theorem rows_law (a:Option Addr) (len cap:Nat) (xs:Nat → Xi) (a2:Option Addr) (len2 cap2:Nat) (zs:List Int) (W:World) (hL:Xis W a len cap xs) (hr:IsRow .u8 W a2 len2 cap2 zs) (hT:Tab3 W):
    Calls Tryd.prog 4 #[.slice a len cap,.slice a2 len2 cap2] W fun e w'=>e=.returned (.bool true) ∧ Below W.heap.size W w':=by
  by_cases h1:len ≤ 60
  · by_cases h2:len2 ≤ 40
    · exact rows_main a len cap xs a2 len2 cap2 _ W hL (BytesAt.row hr) hT h1 h2
    · exact rows_longB a len cap a2 len2 cap2 W hT h1 (by omega)
  · exact rows_longA a len cap a2 len2 cap2 W hT (by omega)
end Go.Proofs.YthmbmcckldgdiaaDoor.Mrm
