import Derived.Test.YtigliofiojkhcaaGreatMRn04
import Derived.Test.YtigliofiojkhcaaGreatMRn08
import Derived.Laws.BytesArg
import Derived.Lib.MinMax
set_option linter.unusedVariables false
set_option linter.unusedSimpArgs false
set_option linter.unnecessarySimpa false
namespace Go.Proofs.YtigliofiojkhcaaGreat.Trc
open Go.RowKit
set_option linter.unusedVariables false
set_option maxHeartbeats 1000000 in
theorem r_words (a1 a2:Option Addr) (n1 c1 n2 c2:Nat) (zs ys:List Int) (W:World) (h1:WordsAt W a1 n1 c1 zs) (h2:WordsAt W a2 n2 c2 ys):
    Calls Tryz.prog 93 #[.slice a1 n1 c1,.slice a2 n2 c2] W fun e w'=>e=.returned (.bool (decide (zs=ys))) ∧ ∃ n,W.drewN n=w':=by
  generalize hd:decide (zs=ys)=d
  have HD:=Lib.hid hd;clear hd
  have l1:=h1.le
  have f1:=h1.fit
  have l2:=h2.le
  have f2:=h2.fit
  have S1:=Lib.hid h1.size
  have S2:=Lib.hid h2.size
  have H1:=Lib.hid h1.here
  have H2:=Lib.hid h2.here
  clear h1 h2
  by_cases hn:n1=n2
  case neg=>
    have D:=Lib.hid (show d=false from HD.out.symm.trans <| decide_eq_false (fun e=>hn (by rw [S1.out,S2.out,e])))
    have e0:((n1:Int) != (n2:Int))=true:=by simpa using (by omega:¬ (n1:Int)=n2)
    clear hn
    go_enter Tryz.func93,Tryz.ntmps93
    go_wp2
    go_ret
    exact ⟨by rw [D.out];rfl,0,rfl⟩
  subst hn
  go_enter Tryz.func93,Tryz.ntmps93
  go_wp2_with fail
  go_loopw [5] (fun i wr=>∃ k:Nat,k ≤ n1 ∧ i=.int .i64 k ∧ (∃ n,W.drewN n=wr) ∧ Hid (∀ j,j < k → zs[j]?=ys[j]?)) (fun i _=>n1 - (intOf i).toNat)
  case atStart=>exact ⟨0,by omega,rfl,⟨0,rfl⟩,Lib.hid (fun j h=>by omega)⟩
  case round=>
    obtain ⟨k,hk,rfl,⟨nd,rfl⟩,hR⟩:=hrel
    by_cases hlt:k < n1
    · obtain ⟨b1,o1,rfl,g1⟩:=H1.out (by omega)
      obtain ⟨b2,o2,rfl,g2⟩:=H2.out (by omega)
      obtain ⟨z,hz⟩:∃ z,zs[k]?=some z:=⟨_,List.getElem?_eq_getElem (by have:=S1.out;omega)⟩
      obtain ⟨y,hy⟩:∃ y,ys[k]?=some y:=⟨_,List.getElem?_eq_getElem (by have:=S2.out;omega)⟩
      have x1:=g1 k z hz
      have x2:=g2 k y hy
      have HZ:=Lib.hid hz
      have HY:=Lib.hid hy
      clear g1 g2 hz hy
      have y3:(0:Int) ≤ (k:Int):=by omega
      have y1:(k:Int) < (n1:Int):=by omega
      by_cases e:z=y
      · subst e
        go_wp2_with fail
        go_quiet (fail)
        go_wp2_with fail
        go_roundw
        case rel=>exact ⟨k + 1,by omega,by go_num,⟨nd + nq,by simp⟩,Lib.hid (fun j hj=>by
          by_cases e:j=k
          · subst e;rw [HZ.out,HY.out]
          · exact hR.out j (by omega))⟩
        case measure=>simp [intOf];omega
      · have e0:(z != y)=true:=by simpa using e
        have D:=Lib.hid (show d=false from HD.out.symm.trans <| decide_eq_false (fun e2=>e (by have:=HZ.out;rw [e2,HY.out] at this;injection this with this;exact this.symm)))
        clear e
        go_wp2_with fail
        go_quiet (fail)
        go_wp2_with fail
        go_ret
        exact ⟨by rw [D.out];rfl,nd + nq,by simp⟩
    · obtain rfl:k=n1:=by omega
      have D:=Lib.hid (show d=true from HD.out.symm.trans <| decide_eq_true (List.ext_getElem? (fun j=>by
        by_cases hj:j < k
        · exact hR.out j hj
        · rw [List.getElem?_eq_none (by have:=S1.out;omega),List.getElem?_eq_none (by have:=S2.out;omega)])))
      go_wp2_with fail
      go_ret
      exact ⟨by rw [D.out];rfl,nd,rfl⟩
set_option maxHeartbeats 2000000 in
theorem r_event (x y:Ev) (na1 na2:Option Addr) (nc1 nc2:Nat) (W:World) (h1:WordsAt W na1 x.args.length nc1 x.args) (h2:WordsAt W na2 y.args.length nc2 y.args):
    Calls Tryz.prog 73 #[.agg #[.int .i64 x.num,.slice na1 x.args.length nc1,.int .u64 x.ans],.agg #[.int .i64 y.num,.slice na2 y.args.length nc2,.int .u64 y.ans]] W fun e w'=>e=.returned (.bool (decide (x=y))) ∧ Below W.heap.size W w':=by
  have E:=Lib.hid (fun W h1 h2=>r_words na1 na2 x.args.length nc1 y.args.length nc2 x.args y.args W h1 h2)
  have H1:=Lib.hid (fun w b=>WordsAt.below (w:=w) h1 b)
  have H2:=Lib.hid (fun w b=>WordsAt.below (w:=w) h2 b)
  clear h1 h2
  generalize hd:decide (x=y)=d
  have HD:=Lib.hid hd;clear hd
  obtain ⟨xf,xn,xt⟩:=x
  obtain ⟨yf,yn,yt⟩:=y
  simp only at *
  have NE:=Lib.hid (show ¬ (xf=yf ∧ xt=yt ∧ xn=yn) → d=false from fun h=>HD.out.symm.trans <| decide_eq_false (fun e=>h (by injection e with a1 a2 a3;exact ⟨a1,a3,a2⟩)))
  have YE:=Lib.hid (show xf=yf ∧ xt=yt ∧ xn=yn → d=true from fun h=>HD.out.symm.trans <| decide_eq_true (by rw [h.1,h.2.1,h.2.2]))
  by_cases ef:xf=yf
  case neg=>
    have e0:(xf == yf)=false:=by simpa using ef
    have D:=Lib.hid (NE.out (fun h=>ef h.1))
    clear ef
    go_enter Tryz.func73,Tryz.ntmps73
    go_wp2_with fail
    go_ret
    exact ⟨by rw [D.out];rfl,below_new (below_new (Below.refl _ W) _) _⟩
  subst ef
  by_cases et:xt=yt
  case neg=>
    have e0:(xt == yt)=false:=by simpa using et
    have D:=Lib.hid (NE.out (fun h=>et h.2.1))
    clear et
    go_enter Tryz.func73,Tryz.ntmps73
    go_wp2_with fail
    go_ret
    exact ⟨by rw [D.out];rfl,below_new (below_new (Below.refl _ W) _) _⟩
  subst et
  have D:=Lib.hid (show d=decide (xn=yn) by
    by_cases en:xn=yn
    · rw [YE.out ⟨rfl,rfl,en⟩,decide_eq_true en]
    · rw [NE.out (fun h=>en h.2.2),decide_eq_false en])
  clear HD NE YE
  generalize decide (xn=yn)=dd at *
  generalize xn.length=n1 at *
  generalize yn.length=n2 at *
  go_enter Tryz.func73,Tryz.ntmps73
  go_wp2_with fail
  have bb:=fun o1 o2=>((Below.refl W.heap.size W).alloc (Nat.le_refl _) o1).alloc (by simp) o2
  refine (E.out _ (H1.out _ (bb _ _)) (H2.out _ (bb _ _))).mono ?_
  rintro e w1 ⟨rfl,nd,rfl⟩
  clear bb
  go_wp2_with fail
  go_ret
  exact ⟨by rw [D.out];rfl,below_drewN (below_new (below_new (Below.refl _ W) _) _) _⟩
theorem info_ev:(Tryz.prog.info? 103).map (·.size)=some 3:=by kernel_rfl
theorem load_ev {b o:Nat} (x:Ev) (na:Option Addr) (nc:Nat) {w:World} (h:w.rangeAt b o (cellE x na nc)):(loadVar 103 ⟨b,o,none⟩).run Tryz.prog w=.ok (.agg #[.int .i64 x.num,.slice na x.args.length nc,.int .u64 x.ans]) w:=
  run_loadVar_mid w b o 103 (cellE x na nc) _ h Tryz.underlying103 rfl info_ev
set_option maxRecDepth 100000 in
set_option maxHeartbeats 4000000 in
theorem r_begins (a1 a2:Option Addr) (n1 c1 n2 c2:Nat) (zs ys:List Ev) (W:World) (h1:EvsAt W a1 n1 c1 zs) (h2:EvsAt W a2 n2 c2 ys):
    Calls Tryz.prog 40 #[.slice a1 n1 c1,.slice a2 n2 c2] W fun e w'=>e=.returned (.bool (preB zs ys)) ∧ Below W.heap.size W w':=by
  have l1:=h1.le
  have f1:=h1.fit
  have l2:=h2.le
  have f2:=h2.fit
  by_cases hn:n1 ≤ n2
  case neg=>
    rw [preB_long (by rw [← h1.size,← h2.size];omega)]
    have e0:decide ((n2:Int) < (n1:Int))=true:=decide_eq_true (by omega)
    clear h1 h2
    go_enter Tryz.func40,Tryz.ntmps40
    go_wp2
    go_ret
    exact ⟨rfl,Below.refl _ _⟩
  have e0:decide ((n2:Int) < (n1:Int))=false:=decide_eq_false (by omega)
  generalize hd:preB zs ys=d
  have HD:=Lib.hid hd;clear hd
  have S1:=Lib.hid h1.size
  have S2:=Lib.hid h2.size
  have H1:=Lib.hid (fun w b=>EvsAt.below (w:=w) h1 b)
  have H2:=Lib.hid (fun w b=>EvsAt.below (w:=w) h2 b)
  clear h1 h2
  go_enter Tryz.func40,Tryz.ntmps40
  go_wp2_with fail
  go_loopw [5] (fun i wr=>∃ k:Nat,k ≤ n1 ∧ i=.int .i64 k ∧ Hid (Below W.heap.size W wr ∧ ∀ j,j < k → zs[j]?=ys[j]?)) (fun i _=>n1 - (intOf i).toNat)
  case atStart=>exact ⟨0,by omega,rfl,Lib.hid ⟨Below.refl _ _,fun j h=>by omega⟩⟩
  case round=>
    obtain ⟨k,hk,rfl,hR⟩:=hrel
    by_cases hlt:k < n1
    · obtain ⟨b1,o1,rfl,g1⟩:=(H1.out wr hR.out.1).here (by omega)
      obtain ⟨b2,o2,rfl,g2⟩:=(H2.out wr hR.out.1).here (by omega)
      obtain ⟨x,hx⟩:∃ x,zs[k]?=some x:=⟨_,List.getElem?_eq_getElem (by have:=S1.out;omega)⟩
      obtain ⟨y,hy⟩:∃ y,ys[k]?=some y:=⟨_,List.getElem?_eq_getElem (by have:=S2.out;omega)⟩
      obtain ⟨na1,nc1,q1,i1⟩:=g1 k x hx
      obtain ⟨na2,nc2,q2,i2⟩:=g2 k y hy
      have QX:=Lib.hid q1
      have QY:=Lib.hid q2
      have LK:=Lib.hid (fun w b=>r_event x y na1 na2 nc1 nc2 w (i1.below (w:=w) b) (i2.below b))
      have HX:=Lib.hid hx
      have HY:=Lib.hid hy
      have BW:=Lib.hid hR.out.1
      have AL:=Lib.hid hR.out.2
      clear g1 g2 hx hy q1 q2 i1 i2 hR
      have NE:=Lib.hid (show ¬ x=y → d=false from fun h=>HD.out.symm.trans <| by
        cases hp:preB zs ys
        · rfl
        · obtain ⟨r,hr⟩:=preB_iff.1 hp
          exfalso;apply h
          have:=HY.out
          rw [hr,List.getElem?_append_left (by have:=S1.out;omega),HX.out] at this
          injection this)
      have EQ:=Lib.hid (show x=y → zs[k]?=ys[k]? from fun e=>by rw [HX.out,HY.out,e])
      clear HX HY
      generalize hdd:decide (x=y)=dd at LK
      have DD:=Lib.hid hdd;clear hdd
      go_wp2_with fail
      refine wp_region_inv (fun _=>100000) (fun w=>Below wr.heap.size wr w) (TabV [fun v=>v=.slice (some ⟨b1,o1,none⟩) n1 c1,fun v=>v=.int .i64 k,fun v=>v=.pointer (some ⟨b1,o1 + k * 3,none⟩),fun v=>v=.agg #[.int .i64 x.num,.slice na1 x.args.length nc1,.int .u64 x.ans],fun v=>v=.slice (some ⟨b2,o2,none⟩) n2 c2,fun v=>v=.int .i64 k,fun v=>v=.pointer (some ⟨b2,o2 + k * 3,none⟩),fun v=>v=.agg #[.int .i64 y.num,.slice na2 y.args.length nc2,.int .u64 y.ans],fun v=>v=.bool dd,fun v=>v=.bool (!dd)]) (by kernel_rfl) (back_of (by kernel_rfl)) (dst_of (by kernel_rfl)) (dep_of (by kernel_rfl)) (in_of (by kernel_rfl)) (Below.drew (Below.refl _ _)) ?hop ?hq
      case hop=>
        intro i o a w ho hS hdf hsz hrest hdone
        have t0:a.tmps.getD 0 undef=.slice (some ⟨b1,o1,none⟩) n1 c1:=hrest 0 (not_of (by kernel_rfl))
        have t1:a.tmps.getD 1 undef=.slice (some ⟨b2,o2,none⟩) n2 c2:=hrest 1 (not_of (by kernel_rfl))
        have t5:a.tmps.getD 5 undef=.int .i64 k:=hrest 5 (not_of (by kernel_rfl))
        have hs:a.tmps.size=27:=hsz.trans rfl
        have hi:i < 10:=(Array.getElem?_eq_some_iff.1 ho).1
        clear hrest hsz hdf
        obtain rfl | rfl | rfl | rfl | rfl | rfl | rfl | rfl | rfl | rfl:i=0 ∨ i=1 ∨ i=2 ∨ i=3 ∨ i=4 ∨ i=5 ∨ i=6 ∨ i=7 ∨ i=8 ∨ i=9:=by omega
        · obtain rfl:=Option.some.inj (show some _=some o from ho)
          refine wpOp_val (v:=.slice (some ⟨b1,o1,none⟩) n1 c1) (w':=w) rfl rfl ?_ ⟨_,rfl,?_,hS,fun _ _ _ h=>h⟩
          · simp [execOp,Act.eval,t0]
          · rw [own_put rfl (by rw [hs];omega)];exact rfl
        · obtain rfl:=Option.some.inj (show some _=some o from ho)
          refine wpOp_val (v:=.int .i64 k) (w':=w) rfl rfl ?_ ⟨_,rfl,?_,hS,fun _ _ _ h=>h⟩
          · simp [execOp,Act.eval,t5]
          · rw [own_put rfl (by rw [hs];omega)];exact rfl
        · obtain rfl:=Option.some.inj (show some _=some o from ho)
          have s17:a.tmps.getD 17 undef=.slice (some ⟨b1,o1,none⟩) n1 c1:=hdone _ (Array.mem_of_getElem? (i:=0) rfl) rfl _ rfl
          have s18:a.tmps.getD 18 undef=.int .i64 k:=hdone _ (Array.mem_of_getElem? (i:=1) rfl) rfl _ rfl
          refine wpOp_val (v:=.pointer (some ⟨b1,o1 + k * 3,none⟩)) (w':=w) rfl rfl ?_ ⟨_,rfl,?_,hS,fun _ _ _ h=>h⟩
          · (simp [execOp,Act.eval,s17,s18,go_sem];try exact fun h=>absurd h (by omega))
          · rw [own_put rfl (by rw [hs];omega)];exact rfl
        · obtain rfl:=Option.some.inj (show some _=some o from ho)
          have s19:a.tmps.getD 19 undef=.pointer (some ⟨b1,o1 + k * 3,none⟩):=hdone _ (Array.mem_of_getElem? (i:=0) rfl) rfl _ rfl
          refine wpOp_val (v:=.agg #[.int .i64 x.num,.slice na1 x.args.length nc1,.int .u64 x.ans]) (w':=w) rfl rfl ?_ ⟨_,rfl,?_,hS,fun _ _ _ h=>h⟩
          · simp [execOp,Act.eval,s19,Instr.loadAt,Instr.sureAddr,load_ev x na1 nc1 (rangeAt_below hS QX.out),Result.andThen_ok]
          · rw [own_put rfl (by rw [hs];omega)];exact rfl
        · obtain rfl:=Option.some.inj (show some _=some o from ho)
          refine wpOp_val (v:=.slice (some ⟨b2,o2,none⟩) n2 c2) (w':=w) rfl rfl ?_ ⟨_,rfl,?_,hS,fun _ _ _ h=>h⟩
          · simp [execOp,Act.eval,t1]
          · rw [own_put rfl (by rw [hs];omega)];exact rfl
        · obtain rfl:=Option.some.inj (show some _=some o from ho)
          refine wpOp_val (v:=.int .i64 k) (w':=w) rfl rfl ?_ ⟨_,rfl,?_,hS,fun _ _ _ h=>h⟩
          · simp [execOp,Act.eval,t5]
          · rw [own_put rfl (by rw [hs];omega)];exact rfl
        · obtain rfl:=Option.some.inj (show some _=some o from ho)
          have s21:a.tmps.getD 21 undef=.slice (some ⟨b2,o2,none⟩) n2 c2:=hdone _ (Array.mem_of_getElem? (i:=0) rfl) rfl _ rfl
          have s22:a.tmps.getD 22 undef=.int .i64 k:=hdone _ (Array.mem_of_getElem? (i:=1) rfl) rfl _ rfl
          refine wpOp_val (v:=.pointer (some ⟨b2,o2 + k * 3,none⟩)) (w':=w) rfl rfl ?_ ⟨_,rfl,?_,hS,fun _ _ _ h=>h⟩
          · (simp [execOp,Act.eval,s21,s22,go_sem];try exact fun h=>absurd h (by omega))
          · rw [own_put rfl (by rw [hs];omega)];exact rfl
        · obtain rfl:=Option.some.inj (show some _=some o from ho)
          have s23:a.tmps.getD 23 undef=.pointer (some ⟨b2,o2 + k * 3,none⟩):=hdone _ (Array.mem_of_getElem? (i:=0) rfl) rfl _ rfl
          refine wpOp_val (v:=.agg #[.int .i64 y.num,.slice na2 y.args.length nc2,.int .u64 y.ans]) (w':=w) rfl rfl ?_ ⟨_,rfl,?_,hS,fun _ _ _ h=>h⟩
          · simp [execOp,Act.eval,s23,Instr.loadAt,Instr.sureAddr,load_ev y na2 nc2 (rangeAt_below hS QY.out),Result.andThen_ok]
          · rw [own_put rfl (by rw [hs];omega)];exact rfl
        · obtain rfl:=Option.some.inj (show some _=some o from ho)
          have s20:a.tmps.getD 20 undef=.agg #[.int .i64 x.num,.slice na1 x.args.length nc1,.int .u64 x.ans]:=hdone _ (Array.mem_of_getElem? (i:=0) rfl) rfl _ rfl
          have s24:a.tmps.getD 24 undef=.agg #[.int .i64 y.num,.slice na2 y.args.length nc2,.int .u64 y.ans]:=hdone _ (Array.mem_of_getElem? (i:=1) rfl) rfl _ rfl
          refine wpOp_call (f:=73) (args:=#[.agg #[.int .i64 x.num,.slice na1 x.args.length nc1,.int .u64 x.ans],.agg #[.int .i64 y.num,.slice na2 y.args.length nc2,.int .u64 y.ans]]) rfl rfl ?_ ?_
          · simp [go_sem,execOp,Act.eval,Deferred.ofValue,callFunc,Tryz.func73,Tryz.f73,s20,s24,resolve,invoke]
          · refine (LK.out _ hS).mono ?_
            rintro e w' ⟨rfl,b9⟩
            refine ⟨_,rfl,_,rfl,?_,hS.trans (b9.mono hS.size),fun _ _ _ h=>h⟩
            rw [own_put rfl (by rw [hs];omega)];exact rfl
        · obtain rfl:=Option.some.inj (show some _=some o from ho)
          have s25:a.tmps.getD 25 undef=.bool dd:=hdone _ (Array.mem_of_getElem? (i:=0) rfl) rfl _ rfl
          refine wpOp_val (v:=.bool (!dd)) (w':=w) rfl rfl ?_ ⟨_,rfl,?_,hS,fun _ _ _ h=>h⟩
          · simp [execOp,Act.eval,s25,go_sem]
          · rw [own_put rfl (by rw [hs];omega)];exact rfl
      case hq=>
        intro u9 w' hS hR9
        have f26:u9 26=.bool (!dd):=hR9 9 _ rfl
        clear hR9
        rw [show outs _ u9=[(17,u9 17),(18,u9 18),(19,u9 19),(20,u9 20),(21,u9 21),(22,u9 22),(23,u9 23),(24,u9 24),(25,u9 25),(26,u9 26)] by kernel_rfl,f26]
        simp only [putAll,List.setIfInBounds_toArray,List.set_cons_zero,List.set_cons_succ]
        generalize u9 17=x17
        generalize u9 18=x18
        generalize u9 19=x19
        generalize u9 20=x20
        generalize u9 21=x21
        generalize u9 22=x22
        generalize u9 23=x23
        generalize u9 24=x24
        generalize u9 25=x25
        clear f26 u9
        have W1:=Lib.hid (below_call BW.out hS);clear hS
        cases dd
        · have D:=Lib.hid (NE.out (of_decide_eq_false DD.out))
          go_wp2_with fail
          go_ret
          exact ⟨by rw [D.out];rfl,W1.out⟩
        · have EQ2:=Lib.hid (EQ.out (of_decide_eq_true DD.out))
          go_wp2_with fail
          go_roundw
          case rel=>exact ⟨k + 1,by omega,by go_num,Lib.hid ⟨W1.out,fun j hj=>by
            by_cases e:j=k
            · subst e;exact EQ2.out
            · exact AL.out j (by omega)⟩⟩
          case measure=>simp [intOf];omega
    · obtain rfl:k=n1:=by omega
      have D:=Lib.hid (show d=true from HD.out.symm.trans <| by
        unfold preB
        rw [decide_eq_true_iff]
        apply List.ext_getElem?
        intro j
        rw [List.getElem?_take]
        by_cases hj:j < k
        · rw [if_pos (by have:=S1.out;omega)];exact hR.out.2 j hj
        · rw [if_neg (by have:=S1.out;omega),List.getElem?_eq_none (by have:=S1.out;omega)])
      have BW:=Lib.hid hR.out.1
      go_wp2_with fail
      go_ret
      exact ⟨by rw [D.out];rfl,BW.out⟩
theorem r_traces (a1 a2:Option Addr) (n1 c1 n2 c2:Nat) (zs ys:List Ev) (W:World) (h1:EvsAt W a1 n1 c1 zs) (h2:EvsAt W a2 n2 c2 ys):
    Calls Tryz.prog 17 #[.slice a1 n1 c1,.slice a2 n2 c2] W fun e w'=>e=.returned (.bool (decide (zs=ys))) ∧ Below W.heap.size W w':=by
  by_cases hn:n1=n2
  · have E:=Lib.hid (r_begins a1 a2 n1 c1 n2 c2 zs ys W h1 h2)
    rw [preB_same (by rw [← h1.size,← h2.size];exact hn)] at E
    clear h1 h2
    subst hn
    generalize decide (zs=ys)=d at *
    go_enter Tryz.func17,Tryz.ntmps17
    go_wp2_with fail
    refine E.out.mono ?_
    rintro e w1 ⟨rfl,b1⟩
    go_wp2_with fail
    go_ret
    exact ⟨rfl,b1⟩
  · have e0:((n1:Int) == (n2:Int))=false:=by simpa using (by omega:¬ (n1:Int)=n2)
    rw [decide_eq_false (fun e=>hn (by rw [h1.size,h2.size,e]))]
    clear h1 h2 hn
    go_enter Tryz.func17,Tryz.ntmps17
    go_wp2_with fail
    go_ret
    exact ⟨rfl,Below.refl _ _⟩
structure BytesAt (W:World) (a:Option Addr) (len cap:Nat) (zs:List Int):Prop where
  size:len=zs.length
  le:len ≤ cap
  fit:cap ≤ 9223372036854775807
  here:0 < len → ∃ b o,a=some ⟨b,o,none⟩ ∧ ∀ j z,zs[j]?=some z → W.cell? ⟨b,o + j,none⟩=some (.int .u8 z)
  ok:∀ z ∈ zs,0 ≤ z ∧ z < 256
  nilc:a=none → cap=0
theorem BytesAt.below {W w:World} {a:Option Addr} {len cap:Nat} {zs:List Int} (h:BytesAt W a len cap zs) (b:Below W.heap.size W w):BytesAt w a len cap zs:=
  ⟨h.size,h.le,h.fit,fun hp=>by
    obtain ⟨b',o,e,hc⟩:=h.here hp
    exact ⟨b',o,e,fun j z hz=>(b.cell (p:=⟨b',o + j,none⟩) (lt_of_cell (hc j z hz))).trans (hc j z hz)⟩,h.ok,h.nilc⟩
theorem BytesAt.nil (W:World):BytesAt W none 0 0 []:=⟨rfl,Nat.le_refl _,by omega,fun h=>absurd h (by decide),fun z hz=>(by cases hz),fun _=>rfl⟩
theorem str_inj {zs ys:List Int} (h1:∀ z ∈ zs,0 ≤ z ∧ z < 256) (h2:∀ z ∈ ys,0 ≤ z ∧ z < 256) (h:strOfNums zs=strOfNums ys):zs=ys:=by
  have e:=congrArg (fun s:ByteArray=>s.data.toList) h
  simp only [strOfNums_data] at e
  have el:=congrArg List.length e
  simp at el
  apply List.ext_getElem?
  intro j
  by_cases hj:j < zs.length
  · have e2:=congrArg (fun l=>l[j]?) e
    simp only [List.getElem?_map,List.getElem?_eq_getElem hj,List.getElem?_eq_getElem (show j < ys.length by omega),Option.map_some] at e2 ⊢
    injection e2 with e2
    have a1:=h1 _ (List.getElem_mem hj)
    have a2:=h2 _ (List.getElem_mem (show j < ys.length by omega))
    have e3:=congrArg UInt8.toNat e2
    simp only [UInt8.toNat_ofNat'] at e3
    congr 1
    omega
  · rw [List.getElem?_eq_none (by omega),List.getElem?_eq_none (by omega)]
theorem conv_bytes {W:World} {a:Option Addr} {len cap:Nat} {zs:List Int} (h:BytesAt W a len cap zs):
    (convert 25 9 (.slice a len cap)).run Tryz.prog W=.ok (.string (strOfNums zs)) W:=by
  by_cases h0:0 < len
  · obtain ⟨b,o,rfl,hc⟩:=h.here h0
    exact run_convert_bytes_arg (P:=Tryz.prog) W 25 5 Tryz.underlying25 Tryz.underlying5 b o len cap zs h.size.symm (fun i hi=>by
      rw [hc i (zs.getD i 0) (by rw [List.getD_eq_getElem?_getD,List.getElem?_eq_getElem (by rw [← h.size];exact hi)];rfl)]) 9 Tryz.underlying9
  · obtain rfl:len=0:=by omega
    obtain rfl:zs=[]:=List.eq_nil_of_length_eq_zero h.size.symm
    cases a with
    | none=>exact run_convert_bytes_nil (P:=Tryz.prog) W 25 5 Tryz.underlying25 Tryz.underlying5 0 cap 9 Tryz.underlying9
    | some x=>
      rw [run_convert_bytes_string W 25 9 5 (some x) 0 cap Tryz.underlying25 Tryz.underlying5 Tryz.underlying9,run_bytesToString W x 0 cap [] (by simp [loadCells,loadCellsFrom])]
      rfl
end Go.Proofs.YtigliofiojkhcaaGreat.Trc
namespace Go.Proofs.YtigliofiojkhcaaGreat.Trc
open Go.RowKit
set_option linter.unusedVariables false
structure Out where
  kind:Int
  r0:Int
  ctx:List Int
  tr:List Ev
  left:Int
def outV (x:Out) (ca:Option Addr) (cc:Nat) (ta:Option Addr) (tc:Nat):Value:=.agg #[.int .i8 x.kind,.int .u64 x.r0,.slice ca x.ctx.length cc,.slice ta x.tr.length tc,.int .i64 x.left]
structure OutAt (W:World) (x:Out) (ca:Option Addr) (cc:Nat) (ta:Option Addr) (tc:Nat):Prop where
  ctx:BytesAt W ca x.ctx.length cc x.ctx
  tr:EvsAt W ta x.tr.length tc x.tr
theorem OutAt.below {W w:World} {x:Out} {ca ta:Option Addr} {cc tc:Nat} (h:OutAt W x ca cc ta tc) (b:Below W.heap.size W w):OutAt w x ca cc ta tc:=⟨h.ctx.below b,h.tr.below b⟩
def endB (x y:Out):Bool:=x.r0 == y.r0 && decide (x.ctx=y.ctx)
def sameB (x y:Out):Bool:=x.kind == y.kind && x.left == y.left && decide (x.tr=y.tr) && endB x y
theorem bb2 (W:World) (o1 o2:Obj):Below W.heap.size W ((W.alloc o1).alloc o2):=below_new (below_new (Below.refl _ W) _) _
structure Box5 (w:World) (b:Nat) (x:Out) (ca:Option Addr) (cc:Nat) (ta:Option Addr) (tc:Nat):Prop where
  c0:w.cell? ⟨b,0,none⟩=some (.int .i8 x.kind)
  c1:w.cell? ⟨b,1,none⟩=some (.int .u64 x.r0)
  c2:w.cell? ⟨b,2,none⟩=some (.slice ca x.ctx.length cc)
  c3:w.cell? ⟨b,3,none⟩=some (.slice ta x.tr.length tc)
  c4:w.cell? ⟨b,4,none⟩=some (.int .i64 x.left)
theorem Box5.below {w w':World} {b:Nat} {x:Out} {ca ta:Option Addr} {cc tc:Nat} (h:Box5 w b x ca cc ta tc) (k:Below w.heap.size w w'):Box5 w' b x ca cc ta tc:=
  ⟨(k.cell (lt_of_cell h.c0)).trans h.c0,(k.cell (lt_of_cell h.c0)).trans h.c1,(k.cell (lt_of_cell h.c0)).trans h.c2,(k.cell (lt_of_cell h.c0)).trans h.c3,(k.cell (lt_of_cell h.c0)).trans h.c4⟩
theorem Box5.new (w:World) (x:Out) (ca ta:Option Addr) (cc tc:Nat) (t:TypeId) (b:Nat) (hb:b=w.heap.size):
    Box5 (w.alloc (.cells #[.int .i8 x.kind,.int .u64 x.r0,.slice ca x.ctx.length cc,.slice ta x.tr.length tc,.int .i64 x.left] t)) b x ca cc ta tc:=by
  have h:=heap_last w (.cells #[.int .i8 x.kind,.int .u64 x.r0,.slice ca x.ctx.length cc,.slice ta x.tr.length tc,.int .i64 x.left] t) b hb
  constructor <;> (simp only [World.cell?];rw [h];rfl)
theorem Box5.past {w:World} {b:Nat} {x:Out} {ca ta:Option Addr} {cc tc:Nat} (h:Box5 w b x ca cc ta tc) (o:Obj):Box5 (w.alloc o) b x ca cc ta tc:=h.below (below_new (Below.refl _ _) _)
theorem Box5.all {w:World} {b:Nat} {x:Out} {ca ta:Option Addr} {cc tc:Nat} (h:Box5 w b x ca cc ta tc):w.cell? ⟨b,0,none⟩=some (.int .i8 x.kind) ∧ w.cell? ⟨b,1,none⟩=some (.int .u64 x.r0) ∧ w.cell? ⟨b,2,none⟩=some (.slice ca x.ctx.length cc) ∧ w.cell? ⟨b,3,none⟩=some (.slice ta x.tr.length tc) ∧ w.cell? ⟨b,4,none⟩=some (.int .i64 x.left):=⟨h.c0,h.c1,h.c2,h.c3,h.c4⟩
end Go.Proofs.YtigliofiojkhcaaGreat.Trc
