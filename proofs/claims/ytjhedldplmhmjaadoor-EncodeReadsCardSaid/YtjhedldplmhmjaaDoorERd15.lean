import Derived.Test.YtjhedldplmhmjaaDoorERd14
set_option linter.unusedVariables false
set_option linter.unusedSimpArgs false
set_option linter.unnecessarySimpa false
namespace Go.Proofs.YtjhedldplmhmjaaDoor.Mrm
open Go Go.RowKit
set_option linter.unusedVariables false
set_option linter.unnecessarySimpa false
set_option linter.unusedSimpArgs false
set_option maxRecDepth 100000
set_option maxHeartbeats 4000000 in
theorem rmem_yes (g:Nat) (a:Option Addr) (n c:Nat) (l:List Int) (s:Rdr) (W:World) (h:RdAt g a n c l s W) (hr:0 ≤ s.r ∧ s.r ≤ 1) (hm:0 ≤ s.m ∧ s.m ≤ 1) (h4:byteV l s % 8=4):
    Calls Tryd.prog 11 #[.pointer (some ⟨g,0,none⟩)] W fun e w'=>e=.returned (.tuple #[.int .i8 (byteV l s / 8 % 8 + 8 * s.r),.int .i8 (byteV l s % 8 + 8 * s.m),.int .i64 (sg32 (numA l (mem2S l s) 4))]) ∧ Red g a n c l (numS l (mem2S l s) 4) W w':=by
  have BY:=Lib.hid (rbyte_n g a n c l s W h)
  have hv:=byteV_bd h.bytes.ok s
  have BZ:=Lib.hid (fun w (h:RdAt g a n c l (mem1S l s) w)=>rbyte_n g a n c l (mem1S l s) w h)
  have NM:=Lib.hid (fun w (h:RdAt g a n c l (mem2S l s) w)=>rnum_4 g a n c l (mem2S l s) w h)
  obtain ⟨er,em,ew⟩:=byteS_r l s
  have qq:=byteS_r l (mem1S l s)
  obtain ⟨fr,fm,fw⟩:=qq
  have gr:(mem1S l s).r=s.r:=er
  have gm:(mem1S l s).m=s.m:=em
  rw [gr] at fr
  rw [gm] at fm
  unfold mem2S at *
  rw [if_pos h4] at *
  generalize byteV l (mem1S l s)=sib at *
  generalize byteS l (mem1S l s)=s2 at *
  unfold mem1S at *
  have x4:=four_is hv
  rw [decide_eq_true h4] at x4
  clear er em ew fw gr gm h h4
  generalize byteV l s=v at *
  generalize byteS l s=s1 at *
  obtain ⟨pos,bad,wide,r,m⟩:=s1
  obtain ⟨pos2,bad2,wide2,r2,m2⟩:=s2
  simp only at fr fm
  rw [← fr] at hr ⊢
  rw [← fm] at hm ⊢
  clear fr fm s
  simp only at hr hm NM BZ ⊢
  obtain ⟨v0,v1⟩:=hv
  have E1:=Lib.hid (and7w (n:=v / 8) ⟨by omega,by omega⟩ hr)
  have E2:=Lib.hid (and7w ⟨v0,v1⟩ hm)
  generalize hb1:decide (v < 128)=lt at *
  generalize hb2:decide (192 ≤ v)=ge at *
  generalize hb3:(sib != 36)=ns at *
  cases bad
  · skip
    cases lt
    · skip
      cases ge
      · skip
        cases bad2
        · skip
          cases ns
          · skip
            go_enter Tryd.func11,Tryd.ntmps11
            go_wp2_with fail
            refine BY.out.mono ?_
            rintro e w1 ⟨rfl,rd⟩
            have RD:=Lib.hid (rd.bad false)
            obtain ⟨c0,c1,c2,c3,c4,c5,fz⟩:=rd.1.cells
            simp only at c1 c2 c3 c4 c5
            have F2:=fz 2
            clear fz rd BY
            go_wp2_with fail
            clear c0 c1 c2 c3 c4 c5 F2
            generalize w1.setCell ⟨g,2,none⟩ (.bool false)=w2 at *
            refine (BZ.out _ RD.out.1).mono ?_
            rintro e w4 ⟨rfl,rd4⟩
            have RE:=Lib.hid ((RD.out.trans rd4).bad false)
            obtain ⟨c0,c1,c2,c3,c4,c5,fz⟩:=rd4.1.cells
            simp only at c1 c2 c3 c4 c5
            have F2:=fz 2
            clear fz rd4 BZ RD
            go_wp2_with fail
            clear c0 c1 c2 c3 c4 c5 F2
            generalize w4.setCell ⟨g,2,none⟩ (.bool false)=w5 at *
            obtain ⟨c0,c1,c2,c3,c4,c5,fz⟩:=RE.out.1.cells
            simp only at c1 c2 c3 c4 c5
            clear c0 c1 c2 c3 fz
            go_region_held3 (fun w'=>w'.cell? ⟨g,4,none⟩=some (.int .i8 r2) ∧ w'.cell? ⟨g,5,none⟩=some (.int .i8 m2)) ((go_split_ands;first | exact ⟨by assumption,by assumption⟩ | exact kept45 4 rd3.1 rfl rfl)) (first | (go_at_call 15;refine (NM.out _ (RE.out.1.below (Below.drew (Below.refl _ _)))).mono ?_;rintro e w3 ⟨rfl,rd3⟩))
            all_goals (
              go_wp2_with fail
              go_ret3
              exact ⟨ret3 E1.out E2.out,(RE.out.on (Below.drew (Below.refl _ _))).trans rd3⟩)
          · skip
            go_enter Tryd.func11,Tryd.ntmps11
            go_wp2_with fail
            refine BY.out.mono ?_
            rintro e w1 ⟨rfl,rd⟩
            have RD:=Lib.hid (rd.bad false)
            obtain ⟨c0,c1,c2,c3,c4,c5,fz⟩:=rd.1.cells
            simp only at c1 c2 c3 c4 c5
            have F2:=fz 2
            clear fz rd BY
            go_wp2_with fail
            clear c0 c1 c2 c3 c4 c5 F2
            generalize w1.setCell ⟨g,2,none⟩ (.bool false)=w2 at *
            refine (BZ.out _ RD.out.1).mono ?_
            rintro e w4 ⟨rfl,rd4⟩
            have RE:=Lib.hid ((RD.out.trans rd4).bad true)
            obtain ⟨c0,c1,c2,c3,c4,c5,fz⟩:=rd4.1.cells
            simp only at c1 c2 c3 c4 c5
            have F2:=fz 2
            clear fz rd4 BZ RD
            go_wp2_with fail
            clear c0 c1 c2 c3 c4 c5 F2
            generalize w4.setCell ⟨g,2,none⟩ (.bool true)=w5 at *
            obtain ⟨c0,c1,c2,c3,c4,c5,fz⟩:=RE.out.1.cells
            simp only at c1 c2 c3 c4 c5
            clear c0 c1 c2 c3 fz
            go_region_held3 (fun w'=>w'.cell? ⟨g,4,none⟩=some (.int .i8 r2) ∧ w'.cell? ⟨g,5,none⟩=some (.int .i8 m2)) ((go_split_ands;first | exact ⟨by assumption,by assumption⟩ | exact kept45 4 rd3.1 rfl rfl)) (first | (go_at_call 15;refine (NM.out _ (RE.out.1.below (Below.drew (Below.refl _ _)))).mono ?_;rintro e w3 ⟨rfl,rd3⟩))
            all_goals (
              go_wp2_with fail
              go_ret3
              exact ⟨ret3 E1.out E2.out,(RE.out.on (Below.drew (Below.refl _ _))).trans rd3⟩)
        · skip
          go_enter Tryd.func11,Tryd.ntmps11
          go_wp2_with fail
          refine BY.out.mono ?_
          rintro e w1 ⟨rfl,rd⟩
          have RD:=Lib.hid (rd.bad false)
          obtain ⟨c0,c1,c2,c3,c4,c5,fz⟩:=rd.1.cells
          simp only at c1 c2 c3 c4 c5
          have F2:=fz 2
          clear fz rd BY
          go_wp2_with fail
          clear c0 c1 c2 c3 c4 c5 F2
          generalize w1.setCell ⟨g,2,none⟩ (.bool false)=w2 at *
          refine (BZ.out _ RD.out.1).mono ?_
          rintro e w4 ⟨rfl,rd4⟩
          have RE:=Lib.hid ((RD.out.trans rd4).bad true)
          obtain ⟨c0,c1,c2,c3,c4,c5,fz⟩:=rd4.1.cells
          simp only at c1 c2 c3 c4 c5
          have F2:=fz 2
          clear fz rd4 BZ RD
          go_wp2_with fail
          clear c0 c1 c2 c3 c4 c5 F2
          generalize w4.setCell ⟨g,2,none⟩ (.bool true)=w5 at *
          obtain ⟨c0,c1,c2,c3,c4,c5,fz⟩:=RE.out.1.cells
          simp only at c1 c2 c3 c4 c5
          clear c0 c1 c2 c3 fz
          go_region_held3 (fun w'=>w'.cell? ⟨g,4,none⟩=some (.int .i8 r2) ∧ w'.cell? ⟨g,5,none⟩=some (.int .i8 m2)) ((go_split_ands;first | exact ⟨by assumption,by assumption⟩ | exact kept45 4 rd3.1 rfl rfl)) (first | (go_at_call 15;refine (NM.out _ (RE.out.1.below (Below.drew (Below.refl _ _)))).mono ?_;rintro e w3 ⟨rfl,rd3⟩))
          all_goals (
            go_wp2_with fail
            go_ret3
            exact ⟨ret3 E1.out E2.out,(RE.out.on (Below.drew (Below.refl _ _))).trans rd3⟩)
      · skip
        cases bad2
        · skip
          cases ns
          · skip
            go_enter Tryd.func11,Tryd.ntmps11
            go_wp2_with fail
            refine BY.out.mono ?_
            rintro e w1 ⟨rfl,rd⟩
            have RD:=Lib.hid (rd.bad true)
            obtain ⟨c0,c1,c2,c3,c4,c5,fz⟩:=rd.1.cells
            simp only at c1 c2 c3 c4 c5
            have F2:=fz 2
            clear fz rd BY
            go_wp2_with fail
            clear c0 c1 c2 c3 c4 c5 F2
            generalize w1.setCell ⟨g,2,none⟩ (.bool true)=w2 at *
            refine (BZ.out _ RD.out.1).mono ?_
            rintro e w4 ⟨rfl,rd4⟩
            have RE:=Lib.hid ((RD.out.trans rd4).bad false)
            obtain ⟨c0,c1,c2,c3,c4,c5,fz⟩:=rd4.1.cells
            simp only at c1 c2 c3 c4 c5
            have F2:=fz 2
            clear fz rd4 BZ RD
            go_wp2_with fail
            clear c0 c1 c2 c3 c4 c5 F2
            generalize w4.setCell ⟨g,2,none⟩ (.bool false)=w5 at *
            obtain ⟨c0,c1,c2,c3,c4,c5,fz⟩:=RE.out.1.cells
            simp only at c1 c2 c3 c4 c5
            clear c0 c1 c2 c3 fz
            go_region_held3 (fun w'=>w'.cell? ⟨g,4,none⟩=some (.int .i8 r2) ∧ w'.cell? ⟨g,5,none⟩=some (.int .i8 m2)) ((go_split_ands;first | exact ⟨by assumption,by assumption⟩ | exact kept45 4 rd3.1 rfl rfl)) (first | (go_at_call 15;refine (NM.out _ (RE.out.1.below (Below.drew (Below.refl _ _)))).mono ?_;rintro e w3 ⟨rfl,rd3⟩))
            all_goals (
              go_wp2_with fail
              go_ret3
              exact ⟨ret3 E1.out E2.out,(RE.out.on (Below.drew (Below.refl _ _))).trans rd3⟩)
          · skip
            go_enter Tryd.func11,Tryd.ntmps11
            go_wp2_with fail
            refine BY.out.mono ?_
            rintro e w1 ⟨rfl,rd⟩
            have RD:=Lib.hid (rd.bad true)
            obtain ⟨c0,c1,c2,c3,c4,c5,fz⟩:=rd.1.cells
            simp only at c1 c2 c3 c4 c5
            have F2:=fz 2
            clear fz rd BY
            go_wp2_with fail
            clear c0 c1 c2 c3 c4 c5 F2
            generalize w1.setCell ⟨g,2,none⟩ (.bool true)=w2 at *
            refine (BZ.out _ RD.out.1).mono ?_
            rintro e w4 ⟨rfl,rd4⟩
            have RE:=Lib.hid ((RD.out.trans rd4).bad true)
            obtain ⟨c0,c1,c2,c3,c4,c5,fz⟩:=rd4.1.cells
            simp only at c1 c2 c3 c4 c5
            have F2:=fz 2
            clear fz rd4 BZ RD
            go_wp2_with fail
            clear c0 c1 c2 c3 c4 c5 F2
            generalize w4.setCell ⟨g,2,none⟩ (.bool true)=w5 at *
            obtain ⟨c0,c1,c2,c3,c4,c5,fz⟩:=RE.out.1.cells
            simp only at c1 c2 c3 c4 c5
            clear c0 c1 c2 c3 fz
            go_region_held3 (fun w'=>w'.cell? ⟨g,4,none⟩=some (.int .i8 r2) ∧ w'.cell? ⟨g,5,none⟩=some (.int .i8 m2)) ((go_split_ands;first | exact ⟨by assumption,by assumption⟩ | exact kept45 4 rd3.1 rfl rfl)) (first | (go_at_call 15;refine (NM.out _ (RE.out.1.below (Below.drew (Below.refl _ _)))).mono ?_;rintro e w3 ⟨rfl,rd3⟩))
            all_goals (
              go_wp2_with fail
              go_ret3
              exact ⟨ret3 E1.out E2.out,(RE.out.on (Below.drew (Below.refl _ _))).trans rd3⟩)
        · skip
          go_enter Tryd.func11,Tryd.ntmps11
          go_wp2_with fail
          refine BY.out.mono ?_
          rintro e w1 ⟨rfl,rd⟩
          have RD:=Lib.hid (rd.bad true)
          obtain ⟨c0,c1,c2,c3,c4,c5,fz⟩:=rd.1.cells
          simp only at c1 c2 c3 c4 c5
          have F2:=fz 2
          clear fz rd BY
          go_wp2_with fail
          clear c0 c1 c2 c3 c4 c5 F2
          generalize w1.setCell ⟨g,2,none⟩ (.bool true)=w2 at *
          refine (BZ.out _ RD.out.1).mono ?_
          rintro e w4 ⟨rfl,rd4⟩
          have RE:=Lib.hid ((RD.out.trans rd4).bad true)
          obtain ⟨c0,c1,c2,c3,c4,c5,fz⟩:=rd4.1.cells
          simp only at c1 c2 c3 c4 c5
          have F2:=fz 2
          clear fz rd4 BZ RD
          go_wp2_with fail
          clear c0 c1 c2 c3 c4 c5 F2
          generalize w4.setCell ⟨g,2,none⟩ (.bool true)=w5 at *
          obtain ⟨c0,c1,c2,c3,c4,c5,fz⟩:=RE.out.1.cells
          simp only at c1 c2 c3 c4 c5
          clear c0 c1 c2 c3 fz
          go_region_held3 (fun w'=>w'.cell? ⟨g,4,none⟩=some (.int .i8 r2) ∧ w'.cell? ⟨g,5,none⟩=some (.int .i8 m2)) ((go_split_ands;first | exact ⟨by assumption,by assumption⟩ | exact kept45 4 rd3.1 rfl rfl)) (first | (go_at_call 15;refine (NM.out _ (RE.out.1.below (Below.drew (Below.refl _ _)))).mono ?_;rintro e w3 ⟨rfl,rd3⟩))
          all_goals (
            go_wp2_with fail
            go_ret3
            exact ⟨ret3 E1.out E2.out,(RE.out.on (Below.drew (Below.refl _ _))).trans rd3⟩)
    · skip
      cases bad2
      · skip
        cases ns
        · skip
          go_enter Tryd.func11,Tryd.ntmps11
          go_wp2_with fail
          refine BY.out.mono ?_
          rintro e w1 ⟨rfl,rd⟩
          have RD:=Lib.hid (rd.bad true)
          obtain ⟨c0,c1,c2,c3,c4,c5,fz⟩:=rd.1.cells
          simp only at c1 c2 c3 c4 c5
          have F2:=fz 2
          clear fz rd BY
          go_wp2_with fail
          clear c0 c1 c2 c3 c4 c5 F2
          generalize w1.setCell ⟨g,2,none⟩ (.bool true)=w2 at *
          refine (BZ.out _ RD.out.1).mono ?_
          rintro e w4 ⟨rfl,rd4⟩
          have RE:=Lib.hid ((RD.out.trans rd4).bad false)
          obtain ⟨c0,c1,c2,c3,c4,c5,fz⟩:=rd4.1.cells
          simp only at c1 c2 c3 c4 c5
          have F2:=fz 2
          clear fz rd4 BZ RD
          go_wp2_with fail
          clear c0 c1 c2 c3 c4 c5 F2
          generalize w4.setCell ⟨g,2,none⟩ (.bool false)=w5 at *
          obtain ⟨c0,c1,c2,c3,c4,c5,fz⟩:=RE.out.1.cells
          simp only at c1 c2 c3 c4 c5
          clear c0 c1 c2 c3 fz
          go_region_held3 (fun w'=>w'.cell? ⟨g,4,none⟩=some (.int .i8 r2) ∧ w'.cell? ⟨g,5,none⟩=some (.int .i8 m2)) ((go_split_ands;first | exact ⟨by assumption,by assumption⟩ | exact kept45 4 rd3.1 rfl rfl)) (first | (go_at_call 15;refine (NM.out _ (RE.out.1.below (Below.drew (Below.refl _ _)))).mono ?_;rintro e w3 ⟨rfl,rd3⟩))
          all_goals (
            go_wp2_with fail
            go_ret3
            exact ⟨ret3 E1.out E2.out,(RE.out.on (Below.drew (Below.refl _ _))).trans rd3⟩)
        · skip
          go_enter Tryd.func11,Tryd.ntmps11
          go_wp2_with fail
          refine BY.out.mono ?_
          rintro e w1 ⟨rfl,rd⟩
          have RD:=Lib.hid (rd.bad true)
          obtain ⟨c0,c1,c2,c3,c4,c5,fz⟩:=rd.1.cells
          simp only at c1 c2 c3 c4 c5
          have F2:=fz 2
          clear fz rd BY
          go_wp2_with fail
          clear c0 c1 c2 c3 c4 c5 F2
          generalize w1.setCell ⟨g,2,none⟩ (.bool true)=w2 at *
          refine (BZ.out _ RD.out.1).mono ?_
          rintro e w4 ⟨rfl,rd4⟩
          have RE:=Lib.hid ((RD.out.trans rd4).bad true)
          obtain ⟨c0,c1,c2,c3,c4,c5,fz⟩:=rd4.1.cells
          simp only at c1 c2 c3 c4 c5
          have F2:=fz 2
          clear fz rd4 BZ RD
          go_wp2_with fail
          clear c0 c1 c2 c3 c4 c5 F2
          generalize w4.setCell ⟨g,2,none⟩ (.bool true)=w5 at *
          obtain ⟨c0,c1,c2,c3,c4,c5,fz⟩:=RE.out.1.cells
          simp only at c1 c2 c3 c4 c5
          clear c0 c1 c2 c3 fz
          go_region_held3 (fun w'=>w'.cell? ⟨g,4,none⟩=some (.int .i8 r2) ∧ w'.cell? ⟨g,5,none⟩=some (.int .i8 m2)) ((go_split_ands;first | exact ⟨by assumption,by assumption⟩ | exact kept45 4 rd3.1 rfl rfl)) (first | (go_at_call 15;refine (NM.out _ (RE.out.1.below (Below.drew (Below.refl _ _)))).mono ?_;rintro e w3 ⟨rfl,rd3⟩))
          all_goals (
            go_wp2_with fail
            go_ret3
            exact ⟨ret3 E1.out E2.out,(RE.out.on (Below.drew (Below.refl _ _))).trans rd3⟩)
      · skip
        go_enter Tryd.func11,Tryd.ntmps11
        go_wp2_with fail
        refine BY.out.mono ?_
        rintro e w1 ⟨rfl,rd⟩
        have RD:=Lib.hid (rd.bad true)
        obtain ⟨c0,c1,c2,c3,c4,c5,fz⟩:=rd.1.cells
        simp only at c1 c2 c3 c4 c5
        have F2:=fz 2
        clear fz rd BY
        go_wp2_with fail
        clear c0 c1 c2 c3 c4 c5 F2
        generalize w1.setCell ⟨g,2,none⟩ (.bool true)=w2 at *
        refine (BZ.out _ RD.out.1).mono ?_
        rintro e w4 ⟨rfl,rd4⟩
        have RE:=Lib.hid ((RD.out.trans rd4).bad true)
        obtain ⟨c0,c1,c2,c3,c4,c5,fz⟩:=rd4.1.cells
        simp only at c1 c2 c3 c4 c5
        have F2:=fz 2
        clear fz rd4 BZ RD
        go_wp2_with fail
        clear c0 c1 c2 c3 c4 c5 F2
        generalize w4.setCell ⟨g,2,none⟩ (.bool true)=w5 at *
        obtain ⟨c0,c1,c2,c3,c4,c5,fz⟩:=RE.out.1.cells
        simp only at c1 c2 c3 c4 c5
        clear c0 c1 c2 c3 fz
        go_region_held3 (fun w'=>w'.cell? ⟨g,4,none⟩=some (.int .i8 r2) ∧ w'.cell? ⟨g,5,none⟩=some (.int .i8 m2)) ((go_split_ands;first | exact ⟨by assumption,by assumption⟩ | exact kept45 4 rd3.1 rfl rfl)) (first | (go_at_call 15;refine (NM.out _ (RE.out.1.below (Below.drew (Below.refl _ _)))).mono ?_;rintro e w3 ⟨rfl,rd3⟩))
        all_goals (
          go_wp2_with fail
          go_ret3
          exact ⟨ret3 E1.out E2.out,(RE.out.on (Below.drew (Below.refl _ _))).trans rd3⟩)
  · skip
    cases bad2
    · skip
      cases ns
      · skip
        go_enter Tryd.func11,Tryd.ntmps11
        go_wp2_with fail
        refine BY.out.mono ?_
        rintro e w1 ⟨rfl,rd⟩
        have RD:=Lib.hid (rd.bad true)
        obtain ⟨c0,c1,c2,c3,c4,c5,fz⟩:=rd.1.cells
        simp only at c1 c2 c3 c4 c5
        have F2:=fz 2
        clear fz rd BY
        go_wp2_with fail
        clear c0 c1 c2 c3 c4 c5 F2
        generalize w1.setCell ⟨g,2,none⟩ (.bool true)=w2 at *
        refine (BZ.out _ RD.out.1).mono ?_
        rintro e w4 ⟨rfl,rd4⟩
        have RE:=Lib.hid ((RD.out.trans rd4).bad false)
        obtain ⟨c0,c1,c2,c3,c4,c5,fz⟩:=rd4.1.cells
        simp only at c1 c2 c3 c4 c5
        have F2:=fz 2
        clear fz rd4 BZ RD
        go_wp2_with fail
        clear c0 c1 c2 c3 c4 c5 F2
        generalize w4.setCell ⟨g,2,none⟩ (.bool false)=w5 at *
        obtain ⟨c0,c1,c2,c3,c4,c5,fz⟩:=RE.out.1.cells
        simp only at c1 c2 c3 c4 c5
        clear c0 c1 c2 c3 fz
        go_region_held3 (fun w'=>w'.cell? ⟨g,4,none⟩=some (.int .i8 r2) ∧ w'.cell? ⟨g,5,none⟩=some (.int .i8 m2)) ((go_split_ands;first | exact ⟨by assumption,by assumption⟩ | exact kept45 4 rd3.1 rfl rfl)) (first | (go_at_call 15;refine (NM.out _ (RE.out.1.below (Below.drew (Below.refl _ _)))).mono ?_;rintro e w3 ⟨rfl,rd3⟩))
        all_goals (
          go_wp2_with fail
          go_ret3
          exact ⟨ret3 E1.out E2.out,(RE.out.on (Below.drew (Below.refl _ _))).trans rd3⟩)
      · skip
        go_enter Tryd.func11,Tryd.ntmps11
        go_wp2_with fail
        refine BY.out.mono ?_
        rintro e w1 ⟨rfl,rd⟩
        have RD:=Lib.hid (rd.bad true)
        obtain ⟨c0,c1,c2,c3,c4,c5,fz⟩:=rd.1.cells
        simp only at c1 c2 c3 c4 c5
        have F2:=fz 2
        clear fz rd BY
        go_wp2_with fail
        clear c0 c1 c2 c3 c4 c5 F2
        generalize w1.setCell ⟨g,2,none⟩ (.bool true)=w2 at *
        refine (BZ.out _ RD.out.1).mono ?_
        rintro e w4 ⟨rfl,rd4⟩
        have RE:=Lib.hid ((RD.out.trans rd4).bad true)
        obtain ⟨c0,c1,c2,c3,c4,c5,fz⟩:=rd4.1.cells
        simp only at c1 c2 c3 c4 c5
        have F2:=fz 2
        clear fz rd4 BZ RD
        go_wp2_with fail
        clear c0 c1 c2 c3 c4 c5 F2
        generalize w4.setCell ⟨g,2,none⟩ (.bool true)=w5 at *
        obtain ⟨c0,c1,c2,c3,c4,c5,fz⟩:=RE.out.1.cells
        simp only at c1 c2 c3 c4 c5
        clear c0 c1 c2 c3 fz
        go_region_held3 (fun w'=>w'.cell? ⟨g,4,none⟩=some (.int .i8 r2) ∧ w'.cell? ⟨g,5,none⟩=some (.int .i8 m2)) ((go_split_ands;first | exact ⟨by assumption,by assumption⟩ | exact kept45 4 rd3.1 rfl rfl)) (first | (go_at_call 15;refine (NM.out _ (RE.out.1.below (Below.drew (Below.refl _ _)))).mono ?_;rintro e w3 ⟨rfl,rd3⟩))
        all_goals (
          go_wp2_with fail
          go_ret3
          exact ⟨ret3 E1.out E2.out,(RE.out.on (Below.drew (Below.refl _ _))).trans rd3⟩)
    · skip
      go_enter Tryd.func11,Tryd.ntmps11
      go_wp2_with fail
      refine BY.out.mono ?_
      rintro e w1 ⟨rfl,rd⟩
      have RD:=Lib.hid (rd.bad true)
      obtain ⟨c0,c1,c2,c3,c4,c5,fz⟩:=rd.1.cells
      simp only at c1 c2 c3 c4 c5
      have F2:=fz 2
      clear fz rd BY
      go_wp2_with fail
      clear c0 c1 c2 c3 c4 c5 F2
      generalize w1.setCell ⟨g,2,none⟩ (.bool true)=w2 at *
      refine (BZ.out _ RD.out.1).mono ?_
      rintro e w4 ⟨rfl,rd4⟩
      have RE:=Lib.hid ((RD.out.trans rd4).bad true)
      obtain ⟨c0,c1,c2,c3,c4,c5,fz⟩:=rd4.1.cells
      simp only at c1 c2 c3 c4 c5
      have F2:=fz 2
      clear fz rd4 BZ RD
      go_wp2_with fail
      clear c0 c1 c2 c3 c4 c5 F2
      generalize w4.setCell ⟨g,2,none⟩ (.bool true)=w5 at *
      obtain ⟨c0,c1,c2,c3,c4,c5,fz⟩:=RE.out.1.cells
      simp only at c1 c2 c3 c4 c5
      clear c0 c1 c2 c3 fz
      go_region_held3 (fun w'=>w'.cell? ⟨g,4,none⟩=some (.int .i8 r2) ∧ w'.cell? ⟨g,5,none⟩=some (.int .i8 m2)) ((go_split_ands;first | exact ⟨by assumption,by assumption⟩ | exact kept45 4 rd3.1 rfl rfl)) (first | (go_at_call 15;refine (NM.out _ (RE.out.1.below (Below.drew (Below.refl _ _)))).mono ?_;rintro e w3 ⟨rfl,rd3⟩))
      all_goals (
        go_wp2_with fail
        go_ret3
        exact ⟨ret3 E1.out E2.out,(RE.out.on (Below.drew (Below.refl _ _))).trans rd3⟩)
theorem rmem_n (g:Nat) (a:Option Addr) (n c:Nat) (l:List Int) (s:Rdr) (W:World) (h:RdAt g a n c l s W) (hr:0 ≤ s.r ∧ s.r ≤ 1) (hm:0 ≤ s.m ∧ s.m ≤ 1):
    Calls Tryd.prog 11 #[.pointer (some ⟨g,0,none⟩)] W fun e w'=>e=.returned (.tuple #[.int .i8 (byteV l s / 8 % 8 + 8 * s.r),.int .i8 (byteV l s % 8 + 8 * s.m),.int .i64 (sg32 (numA l (mem2S l s) 4))]) ∧ Red g a n c l (numS l (mem2S l s) 4) W w':=by
  by_cases h4:byteV l s % 8=4
  · exact rmem_yes g a n c l s W h hr hm h4
  · have e:mem2S l s=mem1S l s:=by unfold mem2S;rw [if_neg h4]
    rw [e]
    exact rmem_no g a n c l s W h hr hm h4
end Go.Proofs.YtjhedldplmhmjaaDoor.Mrm
namespace Go.Proofs.YtjhedldplmhmjaaDoor.Mrm
open Go Go.RowKit
set_option linter.unusedVariables false
set_option linter.unnecessarySimpa false
set_option linter.unusedSimpArgs false
set_option maxRecDepth 100000
def rngX (l:List Int) (s:Rdr) (x:Xi) (n:Int):Xi:=
  if 112 ≤ n ∧ n < 128 then { x with op:=29,w:=8,cc:=n - 112,imm:=sg8 (numA l s 1) } else if 184 ≤ n ∧ n < 192 then { x with op:=1,dst:=n - 184 + 8 * s.m,imm:=sg32 (numA l s 4) } else x
def rngS (l:List Int) (s:Rdr) (n:Int):Rdr:=if 112 ≤ n ∧ n < 128 then numS l s 1 else if 184 ≤ n ∧ n < 192 then numS l s 4 else s
theorem Gx.setFresh {W w:World} {g b:Nat} (h:Gx g W w) (hb:W.heap.size ≤ b) (i:Nat) (v:Value):Gx g W (w.setCell ⟨b,i,none⟩ v):=
  ⟨h.os,h.tape,h.output,by rw [Deep.nblk_setCell];exact h.size,fun k hk hne=>(setCell_past _ _ _ _ (show k ≠ b by omega)).trans (h.block k hk hne)⟩
theorem Red.fresh {g:Nat} {a:Option Addr} {n c:Nat} {l:List Int} {s0 s:Rdr} {W w:World} (H:RdAt g a n c l s0 W) (h:Red g a n c l s W w) {b:Nat} (hb:W.heap.size ≤ b) (i:Nat) (v:Value):Red g a n c l s W (w.setCell ⟨b,i,none⟩ v):=by
  have hg:=(Array.getElem?_eq_some_iff.1 H.blk).1
  exact ⟨⟨(setCell_past _ _ _ _ (show g ≠ b by omega)).trans h.1.blk,H.bytes.gx (h.2.setFresh hb i v) H.apart,h.1.apart,h.1.lo,h.1.hi⟩,h.2.setFresh hb i v⟩
set_option maxHeartbeats 2000000 in
theorem row8 {w:World} {b:Nat} {x y:Xi} {T:TypeId} {fr:Nat × Nat} (h:w.heap[b]?=some (.cells (xC x) T fr)):
    ((((((((w.setCell ⟨b,0,none⟩ (.int .i8 y.op)).setCell ⟨b,1,none⟩ (.int .i8 y.w)).setCell ⟨b,2,none⟩ (.int .i8 y.dst)).setCell ⟨b,3,none⟩ (.int .i8 y.src)).setCell ⟨b,4,none⟩ (.int .i8 y.base)).setCell ⟨b,5,none⟩ (.int .i64 y.disp)).setCell ⟨b,6,none⟩ (.int .i64 y.imm)).setCell ⟨b,7,none⟩ (.int .i8 y.cc)).heap[b]?=some (.cells (xC y) T fr):=
  (by
  have h0:=setCell_row h 0 (.int .i8 y.op)
  have h1:=setCell_row h0 1 (.int .i8 y.w)
  have h2:=setCell_row h1 2 (.int .i8 y.dst)
  have h3:=setCell_row h2 3 (.int .i8 y.src)
  have h4:=setCell_row h3 4 (.int .i8 y.base)
  have h5:=setCell_row h4 5 (.int .i64 y.disp)
  have h6:=setCell_row h5 6 (.int .i64 y.imm)
  have h7:=setCell_row h6 7 (.int .i8 y.cc)
  exact h7)
theorem xcells8 {w:World} {b:Nat} {x:Xi} {T:TypeId} (h:w.heap[b]?=some (.cells (xC x) T (0,0))):w.cell? ⟨b,0,none⟩=some (.int .i8 x.op) ∧ w.cell? ⟨b,1,none⟩=some (.int .i8 x.w) ∧ w.cell? ⟨b,2,none⟩=some (.int .i8 x.dst) ∧ w.cell? ⟨b,3,none⟩=some (.int .i8 x.src) ∧ w.cell? ⟨b,4,none⟩=some (.int .i8 x.base) ∧ w.cell? ⟨b,5,none⟩=some (.int .i64 x.disp) ∧ w.cell? ⟨b,6,none⟩=some (.int .i64 x.imm) ∧ w.cell? ⟨b,7,none⟩=some (.int .i8 x.cc) ∧ ∀ i,w.frozen? ⟨b,i,none⟩=false:=by
  refine ⟨?_,?_,?_,?_,?_,?_,?_,?_,fun i=>?_⟩ <;> first | (simp only [World.cell?,h];rfl) | (simp only [World.frozen?,h];simp)
theorem Red.fresh8 {g:Nat} {a:Option Addr} {n c:Nat} {l:List Int} {s0 s:Rdr} {W w:World} (H:RdAt g a n c l s0 W) (h:Red g a n c l s W w) {b:Nat} (hb:W.heap.size ≤ b) (v0 v1 v2 v3 v4 v5 v6 v7:Value):
    Red g a n c l s W ((((((((w.setCell ⟨b,0,none⟩ v0).setCell ⟨b,1,none⟩ v1).setCell ⟨b,2,none⟩ v2).setCell ⟨b,3,none⟩ v3).setCell ⟨b,4,none⟩ v4).setCell ⟨b,5,none⟩ v5).setCell ⟨b,6,none⟩ v6).setCell ⟨b,7,none⟩ v7):=
  Red.fresh H (Red.fresh H (Red.fresh H (Red.fresh H (Red.fresh H (Red.fresh H (Red.fresh H (Red.fresh H h hb 0 v0) hb 1 v1) hb 2 v2) hb 3 v3) hb 4 v4) hb 5 v5) hb 6 v6) hb 7 v7
theorem two_alloc (W:World) (p q:Obj):Below W.heap.size W ((W.alloc p).alloc q):=((Below.refl _ _).alloc (Nat.le_refl _) p).alloc (by show W.heap.size ≤ (W.heap.push p).size;simp) q
theorem two_sz (W:World) (p q:Obj):W.heap.size < ((W.alloc p).alloc q).heap.size ∧ W.heap.size + 1 < ((W.alloc p).alloc q).heap.size:=by
  show W.heap.size < ((W.heap.push p).push q).size ∧ W.heap.size + 1 < ((W.heap.push p).push q).size
  simp only [Array.size_push]
  omega
theorem heap_two (W:World) (p q:Obj):((W.alloc p).alloc q).heap[W.heap.size]?=some p:=by
  show ((W.heap.push p).push q)[W.heap.size]?=some p
  rw [Array.getElem?_push,Array.getElem?_push]
  simp
set_option maxHeartbeats 2000000 in
theorem rrng_no (g:Nat) (a:Option Addr) (len c:Nat) (l:List Int) (s:Rdr) (x:Xi) (n:Int) (W:World) (h:RdAt g a len c l s W) (h1:¬ (112 ≤ n ∧ n < 128)) (h2:¬ (184 ≤ n ∧ n < 192)):
    Calls Tryd.prog 18 #[.pointer (some ⟨g,0,none⟩),.agg (xC x),.int .i64 n] W fun e w'=>e=.returned (.agg (xC x)) ∧ Red g a len c l s W w':=by
  have HH:=Lib.hid h
  obtain ⟨b1,hb1⟩:∃ b,decide (112 ≤ n)=b:=⟨_,rfl⟩
  obtain ⟨b2,hb2⟩:∃ b,decide (n < 128)=b:=⟨_,rfl⟩
  obtain ⟨b3,hb3⟩:∃ b,decide (184 ≤ n)=b:=⟨_,rfl⟩
  obtain ⟨b4,hb4⟩:∃ b,decide (n < 192)=b:=⟨_,rfl⟩
  have j1:b1=false ∨ b2=false:=by
    rcases b1 <;> rcases b2 <;> simp at hb1 hb2 ⊢
    exact h1 ⟨hb1,hb2⟩
  have j2:b3=false ∨ b4=false:=by
    rcases b3 <;> rcases b4 <;> simp at hb3 hb4 ⊢
    exact h2 ⟨hb3,hb4⟩
  clear h h1 h2
  obtain ⟨op,wd,dst,src,base,disp,imm,cc⟩:=x
  rcases b1 <;> rcases b2 <;> rcases b3 <;> rcases b4 <;> simp only [Bool.true_eq_false,or_self] at j1 j2
  all_goals (
    go_enter Tryd.func18,Tryd.ntmps18
    go_wp2_with fail
    exact bodyPost_ret (results_cell_row rfl _ _ (W.heap.size + 1) _ _ _ _ rfl (heap_alloc2_new W _ _) Tryd.underlying26 rfl (by kernel_rfl)) rfl ⟨rfl,(Red.refl HH.out).on (two_alloc W _ _)⟩)
set_option maxHeartbeats 2000000 in
theorem rrng_cc (g:Nat) (a:Option Addr) (len c:Nat) (l:List Int) (s:Rdr) (x:Xi) (n:Int) (W:World) (h:RdAt g a len c l s W) (h1:112 ≤ n) (h2:n < 128):
    Calls Tryd.prog 18 #[.pointer (some ⟨g,0,none⟩),.agg (xC x),.int .i64 n] W fun e w'=>e=.returned (.agg (xC { x with op:=29,w:=8,cc:=n - 112,imm:=sg8 (numA l s 1) })) ∧ Red g a len c l (numS l s 1) W w':=by
  have HH:=Lib.hid h
  have hb1:decide (112 ≤ n)=true:=decide_eq_true h1
  have hb2:decide (n < 128)=true:=decide_eq_true h2
  have hg:=(Array.getElem?_eq_some_iff.1 h.blk).1
  have e1:IntKind.i8.wrap (n - 112)=n - 112:=by simp only [IntKind.wrap,IntKind.signed,IntKind.bits];simp;omega
  have NM:=Lib.hid (fun w (h:RdAt g a len c l s w)=>rnum_1 g a len c l s w h)
  have IV:=Lib.hid (show (sg8 (numA l s 1):Int)=sg8 (numA l s 1) from rfl)
  generalize sg8 (numA l s 1)=v at *
  clear IV h
  obtain ⟨op,wd,dst,src,base,disp,imm,cc⟩:=x
  go_enter Tryd.func18,Tryd.ntmps18
  go_wp2_with fail
  refine (NM.out _ (HH.out.below (two_alloc W _ _))).mono ?_
  rintro e w1 ⟨rfl,rd⟩
  have RD:=Lib.hid (show Red g a len c l (numS l s 1) W w1 from ⟨rd.1,(Gx.of (two_alloc W _ _)).trans rd.2⟩)
  have bx:=(rd.2.block W.heap.size (two_sz W _ _).1 (by omega)).trans (heap_two W _ _)
  have br:=(rd.2.block (W.heap.size + 1) (two_sz W _ _).2 (by omega)).trans (heap_alloc2_new W _ _)
  have BR:=Lib.hid br
  obtain ⟨c0,c1,c2,c3,c4,c5,c6,c7,fx⟩:=xcells8 (x:=⟨29,8,dst,src,base,disp,imm,n - 112⟩) bx
  obtain ⟨d0,d1,d2,d3,d4,d5,d6,d7,fr⟩:=xcells8 (x:=zX) br
  have f6:=fx 6
  have r0:=fr 0
  have r1:=fr 1
  have r2:=fr 2
  have r3:=fr 3
  have r4:=fr 4
  have r5:=fr 5
  have r6:=fr 6
  have r7:=fr 7
  simp only at c0 c1 c2 c3 c4 c5 c6 c7
  clear fx fr bx br rd NM
  go_wp2_with fail
  exact bodyPost_ret (results_cell_row rfl _ _ (W.heap.size + 1) _ _ _ _ rfl (row8 (x:=zX) (y:=⟨29,8,dst,src,base,disp,v,n - 112⟩) ((setCell_past _ _ _ _ (show W.heap.size + 1 ≠ W.heap.size by omega)).trans BR.out)) Tryd.underlying26 rfl (by kernel_rfl)) rfl ⟨rfl,Red.fresh8 HH.out (Red.fresh HH.out RD.out (Nat.le_refl _) 6 _) (by omega) _ _ _ _ _ _ _ _⟩
set_option maxHeartbeats 2000000 in
theorem rrng_mv (g:Nat) (a:Option Addr) (len c:Nat) (l:List Int) (s:Rdr) (x:Xi) (n:Int) (W:World) (h:RdAt g a len c l s W) (h1:184 ≤ n) (h2:n < 192) (hm:0 ≤ s.m ∧ s.m ≤ 1):
    Calls Tryd.prog 18 #[.pointer (some ⟨g,0,none⟩),.agg (xC x),.int .i64 n] W fun e w'=>e=.returned (.agg (xC { x with op:=1,dst:=n - 184 + 8 * s.m,imm:=sg32 (numA l s 4) })) ∧ Red g a len c l (numS l s 4) W w':=by
  have HH:=Lib.hid h
  have hb1:decide (184 ≤ n)=true:=decide_eq_true h1
  have hb2:decide (n < 192)=true:=decide_eq_true h2
  have hg:=(Array.getElem?_eq_some_iff.1 h.blk).1
  have e0:IntKind.i8.wrap (n - 184)=n - 184:=by simp only [IntKind.wrap,IntKind.signed,IntKind.bits];simp;omega
  have e1:IntKind.i8.wrap (8 * s.m)=8 * s.m:=by simp only [IntKind.wrap,IntKind.signed,IntKind.bits];simp;omega
  have e2:IntKind.i8.wrap (n - 184 + 8 * s.m)=n - 184 + 8 * s.m:=by simp only [IntKind.wrap,IntKind.signed,IntKind.bits];simp;omega
  have z1:decide (112 ≤ n)=true:=by simp;omega
  have z2:decide (n < 128)=false:=by simp;omega
  obtain ⟨-,-,-,-,-,m5,-⟩:=h.cells
  have NM:=Lib.hid (fun w (h:RdAt g a len c l s w)=>rnum_4 g a len c l s w h)
  have IV:=Lib.hid (show (sg32 (numA l s 4):Int)=sg32 (numA l s 4) from rfl)
  generalize sg32 (numA l s 4)=v at *
  clear IV h
  obtain ⟨op,wd,dst,src,base,disp,imm,cc⟩:=x
  go_enter Tryd.func18,Tryd.ntmps18
  go_wp2_with fail
  refine (NM.out _ (HH.out.below (two_alloc W _ _))).mono ?_
  rintro e w1 ⟨rfl,rd⟩
  have RD:=Lib.hid (show Red g a len c l (numS l s 4) W w1 from ⟨rd.1,(Gx.of (two_alloc W _ _)).trans rd.2⟩)
  have bx:=(rd.2.block W.heap.size (two_sz W _ _).1 (by omega)).trans (heap_two W _ _)
  have br:=(rd.2.block (W.heap.size + 1) (two_sz W _ _).2 (by omega)).trans (heap_alloc2_new W _ _)
  have BR:=Lib.hid br
  obtain ⟨c0,c1,c2,c3,c4,c5,c6,c7,fx⟩:=xcells8 (x:=⟨1,wd,n - 184 + 8 * s.m,src,base,disp,imm,cc⟩) bx
  obtain ⟨d0,d1,d2,d3,d4,d5,d6,d7,fr⟩:=xcells8 (x:=zX) br
  have f6:=fx 6
  have r0:=fr 0
  have r1:=fr 1
  have r2:=fr 2
  have r3:=fr 3
  have r4:=fr 4
  have r5:=fr 5
  have r6:=fr 6
  have r7:=fr 7
  simp only at c0 c1 c2 c3 c4 c5 c6 c7
  clear fx fr bx br rd NM
  go_wp2_with fail
  exact bodyPost_ret (results_cell_row rfl _ _ (W.heap.size + 1) _ _ _ _ rfl (row8 (x:=zX) (y:=⟨1,wd,n - 184 + 8 * s.m,src,base,disp,v,cc⟩) ((setCell_past _ _ _ _ (show W.heap.size + 1 ≠ W.heap.size by omega)).trans BR.out)) Tryd.underlying26 rfl (by kernel_rfl)) rfl ⟨rfl,Red.fresh8 HH.out (Red.fresh HH.out RD.out (Nat.le_refl _) 6 _) (by omega) _ _ _ _ _ _ _ _⟩
theorem rrng_n (g:Nat) (a:Option Addr) (len c:Nat) (l:List Int) (s:Rdr) (x:Xi) (n:Int) (W:World) (h:RdAt g a len c l s W) (hm:0 ≤ s.m ∧ s.m ≤ 1):
    Calls Tryd.prog 18 #[.pointer (some ⟨g,0,none⟩),.agg (xC x),.int .i64 n] W fun e w'=>e=.returned (.agg (xC (rngX l s x n))) ∧ Red g a len c l (rngS l s n) W w':=by
  unfold rngX rngS
  by_cases h1:112 ≤ n ∧ n < 128
  · rw [if_pos h1,if_pos h1];exact rrng_cc g a len c l s x n W h h1.1 h1.2
  · rw [if_neg h1,if_neg h1]
    by_cases h2:184 ≤ n ∧ n < 192
    · rw [if_pos h2,if_pos h2];exact rrng_mv g a len c l s x n W h h2.1 h2.2 hm
    · rw [if_neg h2,if_neg h2];exact rrng_no g a len c l s x n W h h1 h2
end Go.Proofs.YtjhedldplmhmjaaDoor.Mrm
