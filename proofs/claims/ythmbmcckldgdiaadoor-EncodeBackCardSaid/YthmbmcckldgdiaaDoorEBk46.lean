import Derived.Test.YthmbmcckldgdiaaDoorEBk45
import Derived.Deep.RegionHeld3
set_option linter.unusedVariables false
set_option linter.unusedSimpArgs false
set_option linter.unnecessarySimpa false
namespace Go.Proofs.YthmbmcckldgdiaaDoor.Mrm
open Go Go.RowKit
set_option linter.unusedVariables false
set_option linter.unnecessarySimpa false
set_option linter.unusedSimpArgs false
set_option maxRecDepth 100000
theorem oks_append {l m:List Int} (h:Oks l) (k:Oks m):Oks (l ++ m):=fun z hz=>(List.mem_append.1 hz).elim (h z) (k z)
set_option maxHeartbeats 4000000 in
theorem back_yy (x y:Xi) (a:Option Addr) (len cap:Nat) (zs:List Int) (w:World) (hT:Tab3 w) (hX:XOk x) (hz:BytesAt w a len cap zs) (hl:len ≤ 100) (hx:mayX x=true) (hr:readX zs=some y):
    Calls Tryd.prog 3 #[.agg (xC x),.slice a len cap] w fun e w'=>e=.returned (.bool true) ∧ Below w.heap.size w w':=by
  have HT:=Lib.hid hT
  have H3:=Lib.hid hT.size
  have HZ:=Lib.hid hz
  have BX:=Lib.hid (fun W (hT:Tab3 W)=>bytes_n x hX W hT.two)
  have RB:=Lib.hid (fun W a n c (h:BytesAt W a n c zs) hT h3=>cread_any W h hT h3 _ hr)
  have WK:=Lib.hid (fun W (hT:Tab3 W)=>wakes_n W hT.two)
  have SX:=Lib.hid (show (xC x).size=8 from rfl)
  have g0:decide ((100:Int) < (len:Int))=false:=by simp;omega
  rw [(bytL_yes hx).1,(bytL_yes hx).2] at BX
  unfold RetX at BX
  simp only [readA] at RB
  have R1:=Lib.hid (fun W a n c (h:BytesAt W a n c (bytesX x ++ zs)) hT h3=>cread_own hX hx W h hT h3)
  have RK:=Lib.hid (fun k (hk:k < (bytesX x).length) W a c (h:BytesAt W a k c ((bytesX x).take k)) hT h3=>cread_short hX hx hk W h hT h3)
  have LN:=Lib.hid (fun W (hT:Tab3 W)=>len_n x hX W hT.two)
  rw [(bytL_yes hx).1] at LN
  have N1:=bytes_some x hX hx
  have N2:=bytes_few x hX hx
  have XO:=Lib.hid (bytes_ok x hX hx)
  have EQ:=fun w=>eq_x x x w
  rw [eqX_refl x] at EQ
  have ON:=xC_one x
  obtain ⟨hY,hy,hp⟩:=readX_some hz.ok hr
  have BY:=Lib.hid (fun W (hT:Tab3 W)=>bytes_n y hY W hT.two)
  rw [(bytL_yes hy).1,(bytL_yes hy).2] at BY
  unfold RetX at BY
  have YO:=Lib.hid (bytes_ok y hY hy)
  have YN:=bytes_few y hY hy
  have YL:(bytesX y).length ≤ len:=by
    have:=congrArg List.length hp
    rw [List.length_take,← hz.size] at this
    omega
  have YP:=bytes_some y hY hy
  obtain ⟨Bz,oz,rfl,-⟩:=hz.here (by omega)
  have HP:=Lib.hid hp
  have SY:=Lib.hid (show (xC y).size=8 from rfl)
  have OY:=xC_one y
  have yk:((bytesX y).length:Int) ≤ (cap:Int):=by have:=hz.le;omega
  have g3:decide (((bytesX y).length:Int) < 0)=false:=by simp
  have g4:decide ((len:Int) < ((bytesX y).length:Int))=false:=by simp;omega
  have g5:decide (len < (bytesX y).length)=false:=by simp;omega
  clear hY hy hp
  clear hT hX hz hx hr
  generalize bytesX x=lx at *
  generalize bytesX y=ly at *
  generalize xC y=Y at *
  generalize xC x=X at *
  have BZ:=Lib.hid (below_new (Below.refl w.heap.size w) (.cells X 24))
  have XZ:=Lib.hid (heap_last w (.cells X 24) _ rfl)
  have HT0:=Lib.hid (HT.out.below BZ.out (Nat.le_refl _))
  have HZ0:=Lib.hid (HZ.out.below BZ.out)
  have H30:=Nat.le_trans H3.out BZ.out.size
  clear HT H3 HZ
  go_enter Tryd.func3,Tryd.ntmps3
  go_wp2_with (with_reducible refine (halt_load0 24 _ rfl rfl ?_))
  refine ⟨?_,trivial⟩
  generalize w.alloc (.cells X 24)=z0 at *
  generalize hgx:w.heap.size=gx at *
  have HG:=Lib.hid hgx
  clear hgx
  refine wpList_load_row rfl 24 _ rfl _ rfl _ _ _ _ XZ.out Tryd.underlying24 rfl (info_X SX.out) ?_
  go_wp2_with fail
  refine (BX.out _ HT0.out).mono ?_
  rintro e w1 ⟨v1,rfl,o1,b1⟩
  have B1:=Lib.hid b1
  obtain ⟨p1,k1,rfl,at1⟩:=o1.at XO.out
  have A1:=Lib.hid at1
  clear o1 b1 at1
  have BB:=Lib.hid (fun w' (bq:Below w1.heap.size w1 w')=>show Below w.heap.size w w' from by rw [HG.out];exact BZ.out.trans ((below_call B1.out bq).mono (Nat.le_of_lt (Array.getElem?_eq_some_iff.1 XZ.out).1)))
  have HT0:=Lib.hid (HT0.out.below B1.out (Nat.le_refl _))
  have HZ0:=Lib.hid (HZ0.out.below B1.out)
  have XZ:=Lib.hid (heap_below B1.out XZ.out (Nat.le_refl _))
  have H30:=Nat.le_trans H30 B1.out.size
  go_wp2_with (at_builtin;refine (show ∀ p:Prop,Hid p → p from fun _ h=>h.out) _ ?_)
  refine Lib.hid ?_
  refine wpList_append_b rfl _ _ rfl w1.heap.size _ _ rfl (made_own w1 [] (by decide) (Nat.le_refl _)) _ _ _ lx rfl (A1.out.below (below_new (Below.refl _ _) _)) (by simp;omega) (by simp) ?_
  intro v2 w2 o2 g2
  have B2:=Lib.hid (below_grownN (below_new (Below.refl w1.heap.size w1) _) (by simp) g2 (fun j hj=>(made_own w1 [] (by decide) (Nat.le_refl _)).lt j hj))
  have O2:=Lib.hid o2
  clear o2 g2
  go_wp2_with (at_builtin;refine (show ∀ p:Prop,Hid p → p from fun _ h=>h.out) _ ?_)
  refine Lib.hid ?_
  refine wpList_append_b rfl _ _ rfl w1.heap.size _ _ rfl O2.out _ _ _ zs rfl (HZ0.out.below B2.out) (by simp;omega) B2.out.size ?_
  intro v3 w3 o3 g3
  have B3:=Lib.hid (below_grownN B2.out B2.out.size g3 (fun j hj=>O2.out.lt j hj))
  rw [List.nil_append] at o3
  obtain ⟨p3,k3,rfl,at3⟩:=o3.at (oks_append XO.out HZ0.out.ok)
  clear o3
  have A3:=Lib.hid at3
  clear at3
  generalize (lx ++ zs).length=n3 at *
  go_wp2_with fail
  refine (R1.out _ _ _ _ A3.out (HT0.out.below B3.out (Nat.le_refl _)) (Nat.le_trans H30 B3.out.size)).mono ?_
  rintro e w4 ⟨rfl,b4⟩
  have B4:=Lib.hid (below_call B3.out b4)
  clear b4
  go_wp2_with (with_reducible refine (halt_store 24 _ _ rfl ?_))
  refine ⟨?_,trivial⟩
  refine wpList_store_is rfl 24 _ _ rfl _ _ rfl rfl _ _ (heap_last _ _ _ rfl) (info_X SX.out) (by rw [SX.out];rfl) ON ?_
  intro w5 S5
  have B5:=Lib.hid (S5.below (below_new B4.out _) B4.out.size)
  have R5:=Lib.hid S5.row
  clear S5
  have X5:=Lib.hid (heap_below B5.out XZ.out (Nat.le_refl _))
  clear R1 BX O2 A3 B2 B3 B4
  have g1:decide ((lx.length:Int) < 1)=false:=by simp;omega
  have g2:decide ((11:Int) < (lx.length:Int))=false:=by simp;omega
  go_wp2_with (with_reducible refine (halt_load 24 _ rfl ?_))
  refine ⟨?_,trivial⟩
  refine wpList_gload_row rfl 24 _ rfl _ rfl _ _ _ _ R5.out Tryd.underlying24 rfl (info_X SX.out) ?_
  go_wp2_with (with_reducible refine (halt_load 24 _ rfl ?_))
  refine ⟨?_,trivial⟩
  refine wpList_gload_row rfl 24 _ rfl _ rfl _ _ _ _ X5.out Tryd.underlying24 rfl (info_X SX.out) ?_
  go_wp2_with (with_reducible refine (halt_load 24 _ rfl ?_))
  refine ⟨?_,trivial⟩
  refine wpList_gload_row rfl 24 _ rfl _ rfl _ _ _ _ X5.out Tryd.underlying24 rfl (info_X SX.out) ?_
  go_wp2_with fail
  refine (LN.out _ (HT0.out.below B5.out (Nat.le_refl _))).mono ?_
  rintro e w6 ⟨rfl,b6⟩
  have B6:=Lib.hid (below_call B5.out b6)
  obtain ⟨B0,o0,rfl,-⟩:=A1.out.here (by omega)
  have kle:=A1.out.le
  clear b6 g1 g2 LN EQ R5 X5
  go_wp2_with fail
  go_loopw [10] (fun i wr=>∃ k:Nat,k ≤ lx.length ∧ i=.int .i64 k ∧ Below w6.heap.size w6 wr) (fun i _=>lx.length - (intOf i).toNat)
  case atStart=>exact ⟨0,by omega,rfl,Below.refl _ _⟩
  case round=>
    obtain ⟨k,hk,rfl,hB⟩:=hrel
    have BR:=Lib.hid (below_call B6.out hB)
    have HBB:=Lib.hid hB
    clear hB
    by_cases hlt:k < lx.length
    · have kc:(k:Int) ≤ (k1:Int):=by omega
      go_wp2_with fail
      refine (RK.out k hlt _ _ _ ((at_take A1.out k (by omega)).below BR.out) (HT0.out.below BR.out (Nat.le_refl _)) (Nat.le_trans H30 BR.out.size)).mono ?_
      rintro e w7 ⟨rfl,b7⟩
      have B7:=Lib.hid (below_call HBB.out b7)
      clear b7
      go_wp2_with (with_reducible refine (halt_store 24 _ _ rfl ?_))
      refine ⟨?_,trivial⟩
      refine wpList_store_is rfl 24 _ _ rfl _ _ rfl rfl _ _ (heap_last _ _ _ rfl) (by kernel_rfl) rfl (by kernel_rfl) ?_
      intro w8 S8
      have B8:=Lib.hid (S8.below (below_new B7.out _) B7.out.size)
      clear S8
      go_wp2_with fail
      go_roundw
      case rel=>exact ⟨k + 1,by omega,by go_num,B8.out⟩
      case measure=>simp [intOf];omega
    · obtain rfl:k=lx.length:=by omega
      clear RK hlt
      go_wp2_with fail
      refine (RB.out _ _ _ _ (HZ0.out.below BR.out) (HT0.out.below BR.out (Nat.le_refl _)) (Nat.le_trans H30 BR.out.size)).mono ?_
      rintro e w9 ⟨rfl,b9⟩
      have B9:=Lib.hid (below_call BR.out b9)
      clear b9
      go_wp2_with (with_reducible refine (halt_store 24 _ _ rfl ?_))
      refine ⟨?_,trivial⟩
      refine wpList_store_is rfl 24 _ _ rfl _ _ rfl rfl _ _ (heap_last _ _ _ rfl) (info_X SY.out) (by rw [SY.out];rfl) OY ?_
      intro w10 S10
      have BA:=Lib.hid (S10.below (below_new B9.out _) B9.out.size)
      have RY:=Lib.hid S10.row
      clear S10
      go_wp2_with (with_reducible refine (halt_load0 24 _ rfl rfl ?_))
      refine ⟨?_,trivial⟩
      refine wpList_load_row rfl 24 _ rfl _ rfl _ _ _ _ RY.out Tryd.underlying24 rfl (info_X SY.out) ?_
      go_wp2_with fail
      refine (BY.out _ (HT0.out.below BA.out (Nat.le_refl _))).mono ?_
      rintro e w11 ⟨v11,rfl,o11,b11⟩
      have BC:=Lib.hid (below_call BA.out b11)
      obtain ⟨p11,k11,rfl,at11⟩:=o11.at YO.out
      have A11:=Lib.hid at11
      clear o11 b11 at11 RY
      have AZ:=Lib.hid (HZ0.out.below BC.out)
      have CA:=Lib.hid (fun w' (bq:Below w11.heap.size w11 w')=>conv_bytes (A11.out.below (w:=w') bq))
      have CB:=Lib.hid (fun w' (bq:Below w11.heap.size w11 w')=>conv_bytes ((at_take AZ.out ly.length YL).below (w:=w') bq))
      rw [HP.out] at CB
      have es:((strOfNums ly).toList == (strOfNums ly).toList)=true:=beq_self_eq_true _
      generalize strOfNums ly=s1 at *
      have KN:=Lib.hid (fun w' (bq:Below w11.heap.size w11 w')=>show (convert 25 9 (.slice p11 ly.length k11)).run Tryd.prog w'=.ok (.string s1) w' ∧ (convert 25 9 (.slice (some ⟨Bz,oz,none⟩) ly.length cap)).run Tryd.prog w'=.ok (.string s1) w' ∧ Below w11.heap.size w11 w' from ⟨CA.out w' bq,CB.out w' bq,bq⟩)
      go_wp2_with fail
      go_region_held3 (fun w'=>(convert 25 9 (.slice p11 ly.length k11)).run Tryd.prog w'=.ok (.string s1) w' ∧ (convert 25 9 (.slice (some ⟨Bz,oz,none⟩) ly.length cap)).run Tryd.prog w'=.ok (.string s1) w' ∧ Below w11.heap.size w11 w') ((go_split_ands;refine KN.out _ ?_;repeat' (first | assumption | exact Below.refl _ _ | apply Below.drew))) (fail)
      all_goals (
        go_wp2_with fail
        refine (WK.out _ (HT0.out.below (below_call BC.out (Below.drew (Below.refl _ _))) (Nat.le_refl _))).mono ?_
        rintro e w12 ⟨rfl,b12⟩
        go_wp2_with fail
        go_ret
        exact ⟨rfl,BB.out _ (below_call (below_call BC.out (Below.drew (Below.refl _ _))) b12)⟩)
set_option maxHeartbeats 4000000 in
theorem back_yn (x:Xi) (a:Option Addr) (len cap:Nat) (zs:List Int) (w:World) (hT:Tab3 w) (hX:XOk x) (hz:BytesAt w a len cap zs) (hl:len ≤ 100) (hx:mayX x=true) (hr:readX zs=none):
    Calls Tryd.prog 3 #[.agg (xC x),.slice a len cap] w fun e w'=>e=.returned (.bool true) ∧ Below w.heap.size w w':=by
  have HT:=Lib.hid hT
  have H3:=Lib.hid hT.size
  have HZ:=Lib.hid hz
  have BX:=Lib.hid (fun W (hT:Tab3 W)=>bytes_n x hX W hT.two)
  have RB:=Lib.hid (fun W a n c (h:BytesAt W a n c zs) hT h3=>cread_any W h hT h3 _ hr)
  have WK:=Lib.hid (fun W (hT:Tab3 W)=>wakes_n W hT.two)
  have SX:=Lib.hid (show (xC x).size=8 from rfl)
  have g0:decide ((100:Int) < (len:Int))=false:=by simp;omega
  rw [(bytL_yes hx).1,(bytL_yes hx).2] at BX
  unfold RetX at BX
  simp only [readA] at RB
  have R1:=Lib.hid (fun W a n c (h:BytesAt W a n c (bytesX x ++ zs)) hT h3=>cread_own hX hx W h hT h3)
  have RK:=Lib.hid (fun k (hk:k < (bytesX x).length) W a c (h:BytesAt W a k c ((bytesX x).take k)) hT h3=>cread_short hX hx hk W h hT h3)
  have LN:=Lib.hid (fun W (hT:Tab3 W)=>len_n x hX W hT.two)
  rw [(bytL_yes hx).1] at LN
  have N1:=bytes_some x hX hx
  have N2:=bytes_few x hX hx
  have XO:=Lib.hid (bytes_ok x hX hx)
  have EQ:=fun w=>eq_x x x w
  rw [eqX_refl x] at EQ
  have ON:=xC_one x
  clear hT hX hz hx hr
  generalize bytesX x=lx at *
  generalize xC x=X at *
  have BZ:=Lib.hid (below_new (Below.refl w.heap.size w) (.cells X 24))
  have XZ:=Lib.hid (heap_last w (.cells X 24) _ rfl)
  have HT0:=Lib.hid (HT.out.below BZ.out (Nat.le_refl _))
  have HZ0:=Lib.hid (HZ.out.below BZ.out)
  have H30:=Nat.le_trans H3.out BZ.out.size
  clear HT H3 HZ
  go_enter Tryd.func3,Tryd.ntmps3
  go_wp2_with (with_reducible refine (halt_load0 24 _ rfl rfl ?_))
  refine ⟨?_,trivial⟩
  generalize w.alloc (.cells X 24)=z0 at *
  generalize hgx:w.heap.size=gx at *
  have HG:=Lib.hid hgx
  clear hgx
  refine wpList_load_row rfl 24 _ rfl _ rfl _ _ _ _ XZ.out Tryd.underlying24 rfl (info_X SX.out) ?_
  go_wp2_with fail
  refine (BX.out _ HT0.out).mono ?_
  rintro e w1 ⟨v1,rfl,o1,b1⟩
  have B1:=Lib.hid b1
  obtain ⟨p1,k1,rfl,at1⟩:=o1.at XO.out
  have A1:=Lib.hid at1
  clear o1 b1 at1
  have BB:=Lib.hid (fun w' (bq:Below w1.heap.size w1 w')=>show Below w.heap.size w w' from by rw [HG.out];exact BZ.out.trans ((below_call B1.out bq).mono (Nat.le_of_lt (Array.getElem?_eq_some_iff.1 XZ.out).1)))
  have HT0:=Lib.hid (HT0.out.below B1.out (Nat.le_refl _))
  have HZ0:=Lib.hid (HZ0.out.below B1.out)
  have XZ:=Lib.hid (heap_below B1.out XZ.out (Nat.le_refl _))
  have H30:=Nat.le_trans H30 B1.out.size
  go_wp2_with (at_builtin;refine (show ∀ p:Prop,Hid p → p from fun _ h=>h.out) _ ?_)
  refine Lib.hid ?_
  refine wpList_append_b rfl _ _ rfl w1.heap.size _ _ rfl (made_own w1 [] (by decide) (Nat.le_refl _)) _ _ _ lx rfl (A1.out.below (below_new (Below.refl _ _) _)) (by simp;omega) (by simp) ?_
  intro v2 w2 o2 g2
  have B2:=Lib.hid (below_grownN (below_new (Below.refl w1.heap.size w1) _) (by simp) g2 (fun j hj=>(made_own w1 [] (by decide) (Nat.le_refl _)).lt j hj))
  have O2:=Lib.hid o2
  clear o2 g2
  go_wp2_with (at_builtin;refine (show ∀ p:Prop,Hid p → p from fun _ h=>h.out) _ ?_)
  refine Lib.hid ?_
  refine wpList_append_b rfl _ _ rfl w1.heap.size _ _ rfl O2.out _ _ _ zs rfl (HZ0.out.below B2.out) (by simp;omega) B2.out.size ?_
  intro v3 w3 o3 g3
  have B3:=Lib.hid (below_grownN B2.out B2.out.size g3 (fun j hj=>O2.out.lt j hj))
  rw [List.nil_append] at o3
  obtain ⟨p3,k3,rfl,at3⟩:=o3.at (oks_append XO.out HZ0.out.ok)
  clear o3
  have A3:=Lib.hid at3
  clear at3
  generalize (lx ++ zs).length=n3 at *
  go_wp2_with fail
  refine (R1.out _ _ _ _ A3.out (HT0.out.below B3.out (Nat.le_refl _)) (Nat.le_trans H30 B3.out.size)).mono ?_
  rintro e w4 ⟨rfl,b4⟩
  have B4:=Lib.hid (below_call B3.out b4)
  clear b4
  go_wp2_with (with_reducible refine (halt_store 24 _ _ rfl ?_))
  refine ⟨?_,trivial⟩
  refine wpList_store_is rfl 24 _ _ rfl _ _ rfl rfl _ _ (heap_last _ _ _ rfl) (info_X SX.out) (by rw [SX.out];rfl) ON ?_
  intro w5 S5
  have B5:=Lib.hid (S5.below (below_new B4.out _) B4.out.size)
  have R5:=Lib.hid S5.row
  clear S5
  have X5:=Lib.hid (heap_below B5.out XZ.out (Nat.le_refl _))
  clear R1 BX O2 A3 B2 B3 B4
  have g1:decide ((lx.length:Int) < 1)=false:=by simp;omega
  have g2:decide ((11:Int) < (lx.length:Int))=false:=by simp;omega
  go_wp2_with (with_reducible refine (halt_load 24 _ rfl ?_))
  refine ⟨?_,trivial⟩
  refine wpList_gload_row rfl 24 _ rfl _ rfl _ _ _ _ R5.out Tryd.underlying24 rfl (info_X SX.out) ?_
  go_wp2_with (with_reducible refine (halt_load 24 _ rfl ?_))
  refine ⟨?_,trivial⟩
  refine wpList_gload_row rfl 24 _ rfl _ rfl _ _ _ _ X5.out Tryd.underlying24 rfl (info_X SX.out) ?_
  go_wp2_with (with_reducible refine (halt_load 24 _ rfl ?_))
  refine ⟨?_,trivial⟩
  refine wpList_gload_row rfl 24 _ rfl _ rfl _ _ _ _ X5.out Tryd.underlying24 rfl (info_X SX.out) ?_
  go_wp2_with fail
  refine (LN.out _ (HT0.out.below B5.out (Nat.le_refl _))).mono ?_
  rintro e w6 ⟨rfl,b6⟩
  have B6:=Lib.hid (below_call B5.out b6)
  obtain ⟨B0,o0,rfl,-⟩:=A1.out.here (by omega)
  have kle:=A1.out.le
  clear b6 g1 g2 LN EQ R5 X5
  go_wp2_with fail
  go_loopw [10] (fun i wr=>∃ k:Nat,k ≤ lx.length ∧ i=.int .i64 k ∧ Below w6.heap.size w6 wr) (fun i _=>lx.length - (intOf i).toNat)
  case atStart=>exact ⟨0,by omega,rfl,Below.refl _ _⟩
  case round=>
    obtain ⟨k,hk,rfl,hB⟩:=hrel
    have BR:=Lib.hid (below_call B6.out hB)
    have HBB:=Lib.hid hB
    clear hB
    by_cases hlt:k < lx.length
    · have kc:(k:Int) ≤ (k1:Int):=by omega
      go_wp2_with fail
      refine (RK.out k hlt _ _ _ ((at_take A1.out k (by omega)).below BR.out) (HT0.out.below BR.out (Nat.le_refl _)) (Nat.le_trans H30 BR.out.size)).mono ?_
      rintro e w7 ⟨rfl,b7⟩
      have B7:=Lib.hid (below_call HBB.out b7)
      clear b7
      go_wp2_with (with_reducible refine (halt_store 24 _ _ rfl ?_))
      refine ⟨?_,trivial⟩
      refine wpList_store_is rfl 24 _ _ rfl _ _ rfl rfl _ _ (heap_last _ _ _ rfl) (by kernel_rfl) rfl (by kernel_rfl) ?_
      intro w8 S8
      have B8:=Lib.hid (S8.below (below_new B7.out _) B7.out.size)
      clear S8
      go_wp2_with fail
      go_roundw
      case rel=>exact ⟨k + 1,by omega,by go_num,B8.out⟩
      case measure=>simp [intOf];omega
    · obtain rfl:k=lx.length:=by omega
      clear RK hlt
      go_wp2_with fail
      refine (RB.out _ _ _ _ (HZ0.out.below BR.out) (HT0.out.below BR.out (Nat.le_refl _)) (Nat.le_trans H30 BR.out.size)).mono ?_
      rintro e w9 ⟨rfl,b9⟩
      have B9:=Lib.hid (below_call BR.out b9)
      clear b9
      go_wp2_with (with_reducible refine (halt_store 24 _ _ rfl ?_))
      refine ⟨?_,trivial⟩
      refine wpList_store_is rfl 24 _ _ rfl _ _ rfl rfl _ _ (heap_last _ _ _ rfl) (by kernel_rfl) rfl (by kernel_rfl) ?_
      intro w10 S10
      have BA:=Lib.hid (S10.below (below_new B9.out _) B9.out.size)
      clear S10
      go_wp2_with fail
      refine (WK.out _ (HT0.out.below BA.out (Nat.le_refl _))).mono ?_
      rintro e w11 ⟨rfl,b11⟩
      go_wp2_with fail
      go_ret
      exact ⟨rfl,BB.out _ (below_call BA.out b11)⟩
set_option maxHeartbeats 4000000 in
theorem back_ny (x y:Xi) (a:Option Addr) (len cap:Nat) (zs:List Int) (w:World) (hT:Tab3 w) (hX:XOk x) (hz:BytesAt w a len cap zs) (hl:len ≤ 100) (hx:mayX x=false) (hr:readX zs=some y):
    Calls Tryd.prog 3 #[.agg (xC x),.slice a len cap] w fun e w'=>e=.returned (.bool true) ∧ Below w.heap.size w w':=by
  have HT:=Lib.hid hT
  have H3:=Lib.hid hT.size
  have HZ:=Lib.hid hz
  have BX:=Lib.hid (fun W (hT:Tab3 W)=>bytes_n x hX W hT.two)
  have RB:=Lib.hid (fun W a n c (h:BytesAt W a n c zs) hT h3=>cread_any W h hT h3 _ hr)
  have WK:=Lib.hid (fun W (hT:Tab3 W)=>wakes_n W hT.two)
  have SX:=Lib.hid (show (xC x).size=8 from rfl)
  have g0:decide ((100:Int) < (len:Int))=false:=by simp;omega
  rw [(bytL_no hx).1,(bytL_no hx).2] at BX
  unfold RetX at BX
  simp only [readA] at RB
  obtain ⟨hY,hy,hp⟩:=readX_some hz.ok hr
  have BY:=Lib.hid (fun W (hT:Tab3 W)=>bytes_n y hY W hT.two)
  rw [(bytL_yes hy).1,(bytL_yes hy).2] at BY
  unfold RetX at BY
  have YO:=Lib.hid (bytes_ok y hY hy)
  have YN:=bytes_few y hY hy
  have YL:(bytesX y).length ≤ len:=by
    have:=congrArg List.length hp
    rw [List.length_take,← hz.size] at this
    omega
  have YP:=bytes_some y hY hy
  obtain ⟨Bz,oz,rfl,-⟩:=hz.here (by omega)
  have HP:=Lib.hid hp
  have SY:=Lib.hid (show (xC y).size=8 from rfl)
  have OY:=xC_one y
  have yk:((bytesX y).length:Int) ≤ (cap:Int):=by have:=hz.le;omega
  have g3:decide (((bytesX y).length:Int) < 0)=false:=by simp
  have g4:decide ((len:Int) < ((bytesX y).length:Int))=false:=by simp;omega
  have g5:decide (len < (bytesX y).length)=false:=by simp;omega
  clear hY hy hp
  clear hT hX hz hx hr
  generalize bytesX y=ly at *
  generalize xC y=Y at *
  generalize xC x=X at *
  have BZ:=Lib.hid (below_new (Below.refl w.heap.size w) (.cells X 24))
  have XZ:=Lib.hid (heap_last w (.cells X 24) _ rfl)
  have HT0:=Lib.hid (HT.out.below BZ.out (Nat.le_refl _))
  have HZ0:=Lib.hid (HZ.out.below BZ.out)
  have H30:=Nat.le_trans H3.out BZ.out.size
  clear HT H3 HZ
  go_enter Tryd.func3,Tryd.ntmps3
  go_wp2_with (with_reducible refine (halt_load0 24 _ rfl rfl ?_))
  refine ⟨?_,trivial⟩
  generalize w.alloc (.cells X 24)=z0 at *
  generalize hgx:w.heap.size=gx at *
  have HG:=Lib.hid hgx
  clear hgx
  refine wpList_load_row rfl 24 _ rfl _ rfl _ _ _ _ XZ.out Tryd.underlying24 rfl (info_X SX.out) ?_
  go_wp2_with fail
  refine (BX.out _ HT0.out).mono ?_
  rintro e w1 ⟨v1,rfl,o1,b1⟩
  have B1:=Lib.hid b1
  clear o1 b1
  have BB:=Lib.hid (fun w' (bq:Below w1.heap.size w1 w')=>show Below w.heap.size w w' from by rw [HG.out];exact BZ.out.trans ((below_call B1.out bq).mono (Nat.le_of_lt (Array.getElem?_eq_some_iff.1 XZ.out).1)))
  have HT0:=Lib.hid (HT0.out.below B1.out (Nat.le_refl _))
  have HZ0:=Lib.hid (HZ0.out.below B1.out)
  have H30:=Nat.le_trans H30 B1.out.size
  have BR:=Lib.hid (Below.refl w1.heap.size w1)
  go_wp2_with fail
  refine (RB.out _ _ _ _ (HZ0.out.below BR.out) (HT0.out.below BR.out (Nat.le_refl _)) (Nat.le_trans H30 BR.out.size)).mono ?_
  rintro e w9 ⟨rfl,b9⟩
  have B9:=Lib.hid (below_call BR.out b9)
  clear b9
  go_wp2_with (with_reducible refine (halt_store 24 _ _ rfl ?_))
  refine ⟨?_,trivial⟩
  refine wpList_store_is rfl 24 _ _ rfl _ _ rfl rfl _ _ (heap_last _ _ _ rfl) (info_X SY.out) (by rw [SY.out];rfl) OY ?_
  intro w10 S10
  have BA:=Lib.hid (S10.below (below_new B9.out _) B9.out.size)
  have RY:=Lib.hid S10.row
  clear S10
  go_wp2_with (with_reducible refine (halt_load0 24 _ rfl rfl ?_))
  refine ⟨?_,trivial⟩
  refine wpList_load_row rfl 24 _ rfl _ rfl _ _ _ _ RY.out Tryd.underlying24 rfl (info_X SY.out) ?_
  go_wp2_with fail
  refine (BY.out _ (HT0.out.below BA.out (Nat.le_refl _))).mono ?_
  rintro e w11 ⟨v11,rfl,o11,b11⟩
  have BC:=Lib.hid (below_call BA.out b11)
  obtain ⟨p11,k11,rfl,at11⟩:=o11.at YO.out
  have A11:=Lib.hid at11
  clear o11 b11 at11 RY
  have AZ:=Lib.hid (HZ0.out.below BC.out)
  have CA:=Lib.hid (fun w' (bq:Below w11.heap.size w11 w')=>conv_bytes (A11.out.below (w:=w') bq))
  have CB:=Lib.hid (fun w' (bq:Below w11.heap.size w11 w')=>conv_bytes ((at_take AZ.out ly.length YL).below (w:=w') bq))
  rw [HP.out] at CB
  have es:((strOfNums ly).toList == (strOfNums ly).toList)=true:=beq_self_eq_true _
  generalize strOfNums ly=s1 at *
  have KN:=Lib.hid (fun w' (bq:Below w11.heap.size w11 w')=>show (convert 25 9 (.slice p11 ly.length k11)).run Tryd.prog w'=.ok (.string s1) w' ∧ (convert 25 9 (.slice (some ⟨Bz,oz,none⟩) ly.length cap)).run Tryd.prog w'=.ok (.string s1) w' ∧ Below w11.heap.size w11 w' from ⟨CA.out w' bq,CB.out w' bq,bq⟩)
  go_wp2_with fail
  go_region_held3 (fun w'=>(convert 25 9 (.slice p11 ly.length k11)).run Tryd.prog w'=.ok (.string s1) w' ∧ (convert 25 9 (.slice (some ⟨Bz,oz,none⟩) ly.length cap)).run Tryd.prog w'=.ok (.string s1) w' ∧ Below w11.heap.size w11 w') ((go_split_ands;refine KN.out _ ?_;repeat' (first | assumption | exact Below.refl _ _ | apply Below.drew))) (fail)
  all_goals (
    go_wp2_with fail
    refine (WK.out _ (HT0.out.below (below_call BC.out (Below.drew (Below.refl _ _))) (Nat.le_refl _))).mono ?_
    rintro e w12 ⟨rfl,b12⟩
    go_wp2_with fail
    go_ret
    exact ⟨rfl,BB.out _ (below_call (below_call BC.out (Below.drew (Below.refl _ _))) b12)⟩)
set_option maxHeartbeats 4000000 in
theorem back_nn (x:Xi) (a:Option Addr) (len cap:Nat) (zs:List Int) (w:World) (hT:Tab3 w) (hX:XOk x) (hz:BytesAt w a len cap zs) (hl:len ≤ 100) (hx:mayX x=false) (hr:readX zs=none):
    Calls Tryd.prog 3 #[.agg (xC x),.slice a len cap] w fun e w'=>e=.returned (.bool true) ∧ Below w.heap.size w w':=by
  have HT:=Lib.hid hT
  have H3:=Lib.hid hT.size
  have HZ:=Lib.hid hz
  have BX:=Lib.hid (fun W (hT:Tab3 W)=>bytes_n x hX W hT.two)
  have RB:=Lib.hid (fun W a n c (h:BytesAt W a n c zs) hT h3=>cread_any W h hT h3 _ hr)
  have WK:=Lib.hid (fun W (hT:Tab3 W)=>wakes_n W hT.two)
  have SX:=Lib.hid (show (xC x).size=8 from rfl)
  have g0:decide ((100:Int) < (len:Int))=false:=by simp;omega
  rw [(bytL_no hx).1,(bytL_no hx).2] at BX
  unfold RetX at BX
  simp only [readA] at RB
  clear hT hX hz hx hr
  generalize xC x=X at *
  have BZ:=Lib.hid (below_new (Below.refl w.heap.size w) (.cells X 24))
  have XZ:=Lib.hid (heap_last w (.cells X 24) _ rfl)
  have HT0:=Lib.hid (HT.out.below BZ.out (Nat.le_refl _))
  have HZ0:=Lib.hid (HZ.out.below BZ.out)
  have H30:=Nat.le_trans H3.out BZ.out.size
  clear HT H3 HZ
  go_enter Tryd.func3,Tryd.ntmps3
  go_wp2_with (with_reducible refine (halt_load0 24 _ rfl rfl ?_))
  refine ⟨?_,trivial⟩
  generalize w.alloc (.cells X 24)=z0 at *
  generalize hgx:w.heap.size=gx at *
  have HG:=Lib.hid hgx
  clear hgx
  refine wpList_load_row rfl 24 _ rfl _ rfl _ _ _ _ XZ.out Tryd.underlying24 rfl (info_X SX.out) ?_
  go_wp2_with fail
  refine (BX.out _ HT0.out).mono ?_
  rintro e w1 ⟨v1,rfl,o1,b1⟩
  have B1:=Lib.hid b1
  clear o1 b1
  have BB:=Lib.hid (fun w' (bq:Below w1.heap.size w1 w')=>show Below w.heap.size w w' from by rw [HG.out];exact BZ.out.trans ((below_call B1.out bq).mono (Nat.le_of_lt (Array.getElem?_eq_some_iff.1 XZ.out).1)))
  have HT0:=Lib.hid (HT0.out.below B1.out (Nat.le_refl _))
  have HZ0:=Lib.hid (HZ0.out.below B1.out)
  have H30:=Nat.le_trans H30 B1.out.size
  have BR:=Lib.hid (Below.refl w1.heap.size w1)
  go_wp2_with fail
  refine (RB.out _ _ _ _ (HZ0.out.below BR.out) (HT0.out.below BR.out (Nat.le_refl _)) (Nat.le_trans H30 BR.out.size)).mono ?_
  rintro e w9 ⟨rfl,b9⟩
  have B9:=Lib.hid (below_call BR.out b9)
  clear b9
  go_wp2_with (with_reducible refine (halt_store 24 _ _ rfl ?_))
  refine ⟨?_,trivial⟩
  refine wpList_store_is rfl 24 _ _ rfl _ _ rfl rfl _ _ (heap_last _ _ _ rfl) (by kernel_rfl) rfl (by kernel_rfl) ?_
  intro w10 S10
  have BA:=Lib.hid (S10.below (below_new B9.out _) B9.out.size)
  clear S10
  go_wp2_with fail
  refine (WK.out _ (HT0.out.below BA.out (Nat.le_refl _))).mono ?_
  rintro e w11 ⟨rfl,b11⟩
  go_wp2_with fail
  go_ret
  exact ⟨rfl,BB.out _ (below_call BA.out b11)⟩
set_option maxHeartbeats 1000000 in
theorem back_long (x:Xi) (a:Option Addr) (len cap:Nat) (w:World) (hT:Tab3 w) (hl:100 < len):
    Calls Tryd.prog 3 #[.agg (xC x),.slice a len cap] w fun e w'=>e=.returned (.bool true) ∧ Below w.heap.size w w':=by
  have HT:=Lib.hid hT
  have WK:=Lib.hid (fun W (hT:Tab3 W)=>wakes_n W hT.two)
  have g0:decide ((100:Int) < (len:Int))=true:=by simp;omega
  clear hT
  go_enter Tryd.func3,Tryd.ntmps3
  go_wp2_with fail
  refine (WK.out _ (HT.out.below (below_new (Below.refl _ _) _) (Nat.le_refl _))).mono ?_
  rintro e w1 ⟨rfl,b1⟩
  go_wp2_with fail
  go_ret
  exact ⟨rfl,below_call (below_new (Below.refl _ _) _) b1⟩
theorem back_law (x:Xi) (a:Option Addr) (len cap:Nat) (zs:List Int) (w:World) (hX:XOk x) (hr:IsRow .u8 w a len cap zs) (hT:Tab3 w):
    Calls Tryd.prog 3 #[.agg (xC x),.slice a len cap] w fun e w'=>e=.returned (.bool true) ∧ Below w.heap.size w w':=by
  have hz:=BytesAt.row hr
  by_cases hl:len ≤ 100
  · cases hx:mayX x
    · cases hq:readX (zs.take len) with
      | none=>exact back_nn x a len cap _ w hT hX hz hl hx hq
      | some y=>exact back_ny x y a len cap _ w hT hX hz hl hx hq
    · cases hq:readX (zs.take len) with
      | none=>exact back_yn x a len cap _ w hT hX hz hl hx hq
      | some y=>exact back_yy x y a len cap _ w hT hX hz hl hx hq
  · exact back_long x a len cap w hT (by omega)
end Go.Proofs.YthmbmcckldgdiaaDoor.Mrm
