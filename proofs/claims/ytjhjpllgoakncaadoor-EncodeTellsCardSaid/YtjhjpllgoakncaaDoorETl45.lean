import Derived.Test.YtjhjpllgoakncaaDoorETl33
import Derived.Test.YtjhjpllgoakncaaDoorETl34
import Derived.Test.YtjhjpllgoakncaaDoorETl43
import Derived.Test.YtjhjpllgoakncaaDoorETl44
import Derived.Test.YtjhjpllgoakncaaDoorETl38
set_option linter.unusedVariables false
set_option linter.unusedSimpArgs false
set_option linter.unnecessarySimpa false
namespace Go.Proofs.YtjhjpllgoakncaaDoor.Mrm
open Go Go.RowKit
set_option linter.unusedVariables false
set_option linter.unnecessarySimpa false
set_option linter.unusedSimpArgs false
set_option maxRecDepth 100000
theorem ex_ldX {ρ:Operand → Value} {o:Oper} {w:World} {x:Operand} (ho:o.op=.load 24 x) {g:Nat} (hx:ρ x=.pointer (some ⟨g,0,none⟩)) {X:Array Value} (hs:X.size=8) {T:TypeId} {fr:Nat × Nat} (hg:w.heap[g]?=some (.cells X T fr)):(execOp ρ o).run Tryd.prog w=.ok (.value (.agg X)) w:=by
  have h:=exec_loadR (P:=Tryd.prog) 24 x ho g 0 hx hg X.toList (by rw [List.drop_zero,List.take_length]) _ Tryd.underlying24 rfl (by rw [Array.length_toList,hs];kernel_rfl)
  simpa using h
theorem ex_cnv {ρ:Operand → Value} {o:Oper} {w:World} {x:Operand} (ho:o.op=.convert 25 9 x) {v:Value} (hx:ρ x=v) {s:ByteArray} (h:(convert 25 9 v).run Tryd.prog w=.ok (.string s) w):(execOp ρ o).run Tryd.prog w=.ok (.value (.string s)) w:=by
  simp [execOp,ho,hx,h,go_sem]
theorem ex_seq {ρ:Operand → Value} {o:Oper} {w:World} {x y:Operand} (ho:o.op=.binOp .eql 9 x y 9) {s:ByteArray} (hx:ρ x=.string s) (hy:ρ y=.string s):(execOp ρ o).run Tryd.prog w=.ok (.value (.bool true)) w:=by
  simp [execOp,ho,hx,hy,go_sem]
theorem ex_eqb {ρ:Operand → Value} {o:Oper} {w:World} {x y:Operand} (ho:o.op=.binOp .eql 4 x y 4) {b:Bool} (hx:ρ x=.bool b) (hy:ρ y=.bool b):(execOp ρ o).run Tryd.prog w=.ok (.value (.bool true)) w:=by
  cases b <;> simp [execOp,ho,hx,hy,go_sem]
set_option maxHeartbeats 8000000 in
theorem tells_law (x:Xi) (w:World) (hX:XOk x) (hT:Tabs w):Calls Tryd.prog 3 #[.agg (xC x)] w fun e w'=>e=.returned (.bool true) ∧ Below w.heap.size w w':=by
  have mo:Tryd.prog.follows .mixedOrders=true:=by kernel_rfl
  have HT:=Lib.hid hT
  have hw:=hX.w
  have BA:=Lib.hid (fun W hT=>bytes_n x hX W hT)
  have BB:=Lib.hid (fun W=>show Calls Tryd.prog 10 #[.agg (xC x)] W (RetX (bytL x) (bytC x) W) from ebytes_n x W hw)
  have MA:=Lib.hid (fun W hT=>may_n x hX W hT)
  have MB:=Lib.hid (fun W=>emay_n x W hw)
  have LA:=Lib.hid (fun W hT=>len_n x hX W hT)
  have LB:=Lib.hid (fun W=>show Calls Tryd.prog 14 #[.agg (xC x)] W fun e w'=>e=.returned (.int .i64 ((bytL x).length:Int)) ∧ Below W.heap.size W w' from by
    have q:=elen_n x W hw
    rw [show (bif mayX x then ((bytesX x).length:Int) else 0)=((bytL x).length:Int) from by unfold bytL;cases mayX x <;> rfl] at q
    exact q)
  have RA:=Lib.hid (fun W hT=>creads_n x hX W hT)
  have RB:=Lib.hid (fun W=>ereads_n x W hw)
  have QA:=Lib.hid (fun W hT=>cwrites_n x hX W hT)
  have QB:=Lib.hid (fun W=>ewrites_n x W hw)
  have WK:=Lib.hid (fun W hT=>wakes_n W hT)
  have XO:=Lib.hid (bytL_ok x hX)
  have SX:=Lib.hid (show (xC x).size=8 from rfl)
  clear hT hX hw
  unfold RetX at BA BB
  generalize mayX x=m0 at *
  generalize ((bytL x).length:Int)=n0 at *
  generalize (bif m0 then readsX x else 0)=r0 at *
  generalize (bif m0 then writesX x else 0)=q0 at *
  generalize bytC x=c0 at *
  generalize bytL x=l0 at *
  generalize xC x=X at *
  go_enter Tryd.func3,Tryd.ntmps3
  go_wp2_with (with_reducible refine (halt_load0 24 _ rfl rfl ?_))
  refine ⟨?_,trivial⟩
  refine wpList_load_row rfl 24 _ rfl _ rfl _ _ _ _ (heap_last w _ _ rfl) Tryd.underlying24 rfl (info_X SX.out) ?_
  go_wp2_with fail
  refine (BA.out _ (HT.out.below (below_new (Below.refl _ _) _) (Nat.le_refl _))).mono ?_
  rintro e w1 ⟨va,rfl,o1,b1⟩
  have B1:=Lib.hid (below_boxed b1)
  have RX1:=Lib.hid (heap_below b1 (heap_last w _ _ rfl) (Nat.le_refl _))
  have O1:=Lib.hid o1
  clear o1 b1
  go_wp2_with (with_reducible refine (halt_load0 24 _ rfl rfl ?_))
  refine ⟨?_,trivial⟩
  refine wpList_load_row rfl 24 _ rfl _ rfl _ _ _ _ RX1.out Tryd.underlying24 rfl (info_X SX.out) ?_
  go_wp2_with fail
  refine (BB.out _).mono ?_
  rintro e w2 ⟨vb,rfl,o2,b2⟩
  have B2:=Lib.hid (below_call B1.out b2)
  have RX2:=Lib.hid (heap_below b2 RX1.out (Nat.le_refl _))
  have CA:=Lib.hid (fun w' (b:Below w2.heap.size w2 w')=>conv_own ((O1.out.below b2).below b) XO.out)
  have CB:=Lib.hid (fun w' (b:Below w2.heap.size w2 w')=>conv_own (o2.below b) XO.out)
  clear o2 b2 O1
  generalize strOfNums l0=st at *
  go_wp2_with fail
  refine go_regz (belS w2) [] [] (tabs [some (va),some (.string st),some (vb),some (.string st),some (.bool true),some (.bool true),some (.int .i64 c0),some (.int .i64 c0),some (.bool true),some (.bool true),some (.bool true),some (.agg X),some (.bool m0),some (.agg X),some (.bool m0),some (.bool true),some (.bool true),some (.bool true),some (.agg X),some (.int .i64 n0)] (tabs [some (.agg X),some (.int .i64 n0),some (.bool true),some (.bool true),some (.bool true),some (.agg X),some (.int .i64 r0),some (.agg X),some (.int .i64 r0),some (.bool true),some (.bool true),some (.bool true),some (.agg X),some (.int .i64 q0),some (.agg X),some (.int .i64 q0),some (.bool true),some (.bool true),some (.bool true),some (.bool true)] [some (.bool true),some (.bool true)])) mo (fun fl fl' u u' w hK hD h=>h) rfl rfl (by kernel_rfl) (fun fl w1 hfl b _=>b) (
   zc (@fun fl ax wx cx=>cx.vg (wn rfl) (ex_mv rfl (cx.rq 3 rfl)) rfl rfl rfl rfl) <|
   zc (@fun fl ax wx cx=>cx.vg (wn rfl) (ex_cnv rfl (cx.u 0 rfl) (CA.out _ cx.S)) rfl rfl rfl rfl) <|
   zc (@fun fl ax wx cx=>cx.vg (wn rfl) (ex_mv rfl (cx.rq 5 rfl)) rfl rfl rfl rfl) <|
   zc (@fun fl ax wx cx=>cx.vg (wn rfl) (ex_cnv rfl (cx.u 0 rfl) (CB.out _ cx.S)) rfl rfl rfl rfl) <|
   zc (@fun fl ax wx cx=>cx.vg (wn rfl) (ex_seq rfl (cx.u 0 rfl) (cx.u 1 rfl)) rfl rfl rfl rfl) <|
   zc (@fun fl ax wx cx=>cx.vg (wn rfl) (ex_mv rfl (cx.u 0 rfl)) rfl rfl rfl rfl) <|
   zc (@fun fl ax wx cx=>cx.vg (cx.wy rfl rfl rfl rfl (cx.u 0 rfl)) (ex_mv rfl (cx.rq 4 rfl)) rfl rfl rfl rfl) <|
   zc (@fun fl ax wx cx=>cx.vg (cx.wy rfl rfl rfl rfl (cx.u 0 rfl)) (ex_mv rfl (cx.rq 6 rfl)) rfl rfl rfl rfl) <|
   zc (@fun fl ax wx cx=>cx.vg (cx.wy rfl rfl rfl rfl (cx.u 2 rfl)) ((ex_eq (x:=.tmp 23) (y:=.tmp 24) rfl (cx.u 0 rfl) (cx.u 1 rfl)).trans (by rw [beq_self_eq_true])) rfl rfl rfl rfl) <|
   zc (@fun fl ax wx cx=>cx.vg (wn rfl) (ex_pt rfl (cx.u 0 rfl) (cx.u 1 rfl)) rfl rfl rfl rfl) <|
   zc (@fun fl ax wx cx=>cx.vg (wn rfl) (ex_mv rfl (cx.u 0 rfl)) rfl rfl rfl rfl) <|
   zc (@fun fl ax wx cx=>cx.vg (cx.wy rfl rfl rfl rfl (cx.u 0 rfl)) (ex_ldX rfl (cx.rq 1 rfl) SX.out (heap_below cx.S RX2.out (Nat.le_refl _))) rfl rfl rfl rfl) <|
   zc (@fun fl ax wx cx=>cx.cB (cx.wy rfl rfl rfl rfl (cx.u 1 rfl)) rfl (args1 (cx.u 0 rfl)) Tryd.func11 (by decide +kernel) rfl rfl (fun bx=>MA.out wx (HT.out.below (below_call B2.out bx) (Nat.le_refl _))) rfl) <|
   zc (@fun fl ax wx cx=>cx.vg (cx.wy rfl rfl rfl rfl (cx.u 0 rfl)) (ex_ldX rfl (cx.rq 1 rfl) SX.out (heap_below cx.S RX2.out (Nat.le_refl _))) rfl rfl rfl rfl) <|
   zc (@fun fl ax wx cx=>cx.cB (cx.wy rfl rfl rfl rfl (cx.u 2 rfl)) rfl (args1 (cx.u 0 rfl)) Tryd.func12 (by decide +kernel) rfl rfl (fun bx=>MB.out wx) rfl) <|
   zc (@fun fl ax wx cx=>cx.vg (cx.wy rfl rfl rfl rfl (cx.u 2 rfl)) (ex_eqb rfl (cx.u 0 rfl) (cx.u 1 rfl)) rfl rfl rfl rfl) <|
   zc (@fun fl ax wx cx=>cx.vg (wn rfl) (ex_pt rfl (cx.u 0 rfl) (cx.u 1 rfl)) rfl rfl rfl rfl) <|
   zc (@fun fl ax wx cx=>cx.vg (wn rfl) (ex_mv rfl (cx.u 0 rfl)) rfl rfl rfl rfl) <|
   zc (@fun fl ax wx cx=>cx.vg (cx.wy rfl rfl rfl rfl (cx.u 0 rfl)) (ex_ldX rfl (cx.rq 1 rfl) SX.out (heap_below cx.S RX2.out (Nat.le_refl _))) rfl rfl rfl rfl) <|
   zc (@fun fl ax wx cx=>cx.cB (cx.wy rfl rfl rfl rfl (cx.u 1 rfl)) rfl (args1 (cx.u 0 rfl)) Tryd.func13 (by decide +kernel) rfl rfl (fun bx=>LA.out wx (HT.out.below (below_call B2.out bx) (Nat.le_refl _))) rfl) <|
   zc (@fun fl ax wx cx=>cx.vg (cx.wy rfl rfl rfl rfl (cx.u 0 rfl)) (ex_ldX rfl (cx.rq 1 rfl) SX.out (heap_below cx.S RX2.out (Nat.le_refl _))) rfl rfl rfl rfl) <|
   zc (@fun fl ax wx cx=>cx.cB (cx.wy rfl rfl rfl rfl (cx.u 2 rfl)) rfl (args1 (cx.u 0 rfl)) Tryd.func14 (by decide +kernel) rfl rfl (fun bx=>LB.out wx) rfl) <|
   zc (@fun fl ax wx cx=>cx.vg (cx.wy rfl rfl rfl rfl (cx.u 2 rfl)) ((ex_eq (x:=.tmp 36) (y:=.tmp 38) rfl (cx.u 0 rfl) (cx.u 1 rfl)).trans (by rw [beq_self_eq_true])) rfl rfl rfl rfl) <|
   zc (@fun fl ax wx cx=>cx.vg (wn rfl) (ex_pt rfl (cx.u 0 rfl) (cx.u 1 rfl)) rfl rfl rfl rfl) <|
   zc (@fun fl ax wx cx=>cx.vg (wn rfl) (ex_mv rfl (cx.u 0 rfl)) rfl rfl rfl rfl) <|
   zc (@fun fl ax wx cx=>cx.vg (cx.wy rfl rfl rfl rfl (cx.u 0 rfl)) (ex_ldX rfl (cx.rq 1 rfl) SX.out (heap_below cx.S RX2.out (Nat.le_refl _))) rfl rfl rfl rfl) <|
   zc (@fun fl ax wx cx=>cx.cB (cx.wy rfl rfl rfl rfl (cx.u 1 rfl)) rfl (args1 (cx.u 0 rfl)) Tryd.func15 (by decide +kernel) rfl rfl (fun bx=>RA.out wx (HT.out.below (below_call B2.out bx) (Nat.le_refl _))) rfl) <|
   zc (@fun fl ax wx cx=>cx.vg (cx.wy rfl rfl rfl rfl (cx.u 0 rfl)) (ex_ldX rfl (cx.rq 1 rfl) SX.out (heap_below cx.S RX2.out (Nat.le_refl _))) rfl rfl rfl rfl) <|
   zc (@fun fl ax wx cx=>cx.cB (cx.wy rfl rfl rfl rfl (cx.u 2 rfl)) rfl (args1 (cx.u 0 rfl)) Tryd.func16 (by decide +kernel) rfl rfl (fun bx=>RB.out wx) rfl) <|
   zc (@fun fl ax wx cx=>cx.vg (cx.wy rfl rfl rfl rfl (cx.u 2 rfl)) ((ex_eq (x:=.tmp 43) (y:=.tmp 45) rfl (cx.u 0 rfl) (cx.u 1 rfl)).trans (by rw [beq_self_eq_true])) rfl rfl rfl rfl) <|
   zc (@fun fl ax wx cx=>cx.vg (wn rfl) (ex_pt rfl (cx.u 0 rfl) (cx.u 1 rfl)) rfl rfl rfl rfl) <|
   zc (@fun fl ax wx cx=>cx.vg (wn rfl) (ex_mv rfl (cx.u 0 rfl)) rfl rfl rfl rfl) <|
   zc (@fun fl ax wx cx=>cx.vg (cx.wy rfl rfl rfl rfl (cx.u 0 rfl)) (ex_ldX rfl (cx.rq 1 rfl) SX.out (heap_below cx.S RX2.out (Nat.le_refl _))) rfl rfl rfl rfl) <|
   zc (@fun fl ax wx cx=>cx.cB (cx.wy rfl rfl rfl rfl (cx.u 1 rfl)) rfl (args1 (cx.u 0 rfl)) Tryd.func17 (by decide +kernel) rfl rfl (fun bx=>QA.out wx (HT.out.below (below_call B2.out bx) (Nat.le_refl _))) rfl) <|
   zc (@fun fl ax wx cx=>cx.vg (cx.wy rfl rfl rfl rfl (cx.u 0 rfl)) (ex_ldX rfl (cx.rq 1 rfl) SX.out (heap_below cx.S RX2.out (Nat.le_refl _))) rfl rfl rfl rfl) <|
   zc (@fun fl ax wx cx=>cx.cB (cx.wy rfl rfl rfl rfl (cx.u 2 rfl)) rfl (args1 (cx.u 0 rfl)) Tryd.func18 (by decide +kernel) rfl rfl (fun bx=>QB.out wx) rfl) <|
   zc (@fun fl ax wx cx=>cx.vg (cx.wy rfl rfl rfl rfl (cx.u 2 rfl)) ((ex_eq (x:=.tmp 50) (y:=.tmp 52) rfl (cx.u 0 rfl) (cx.u 1 rfl)).trans (by rw [beq_self_eq_true])) rfl rfl rfl rfl) <|
   zc (@fun fl ax wx cx=>cx.vg (wn rfl) (ex_pt rfl (cx.u 0 rfl) (cx.u 1 rfl)) rfl rfl rfl rfl) <|
   zc (@fun fl ax wx cx=>cx.vg (wn rfl) (ex_mv rfl (cx.u 0 rfl)) rfl rfl rfl rfl) <|
   zc (@fun fl ax wx cx=>cx.cB (cx.wy rfl rfl rfl rfl (cx.u 0 rfl)) rfl (show Array.map ax.eval #[]=#[] from by simp) Tryd.func19 (by decide +kernel) rfl rfl (fun bx=>WK.out wx (HT.out.below (below_call B2.out bx) (Nat.le_refl _))) rfl) <|
   zc (@fun fl ax wx cx=>cx.vg (wn rfl) (ex_pt rfl (cx.u 0 rfl) (cx.u 1 rfl)) rfl rfl rfl rfl) <|
   zc (@fun fl ax wx cx=>cx.vg (wn rfl) (ex_as rfl (cx.u 0 rfl)) rfl rfl rfl rfl) <|
  zn) ?_
  intro ax1 wx1 fx1
  have Bx1:Below w2.heap.size w2 wx1:=by obtain ⟨_,_,hs⟩:=fx1.s;exact hs
  have gx1_2:ax1.tmps.getD 2 undef=.bool true:=fx1.v 41 rfl rfl rfl
  rw [fx1.frame rfl rfl]
  clear fx1
  rw [show outs _ (fun d=>ax1.tmps.getD d undef)=[(17,ax1.tmps.getD 17 undef),(18,ax1.tmps.getD 18 undef),(19,ax1.tmps.getD 19 undef),(20,ax1.tmps.getD 20 undef),(21,ax1.tmps.getD 21 undef),(22,ax1.tmps.getD 22 undef),(23,ax1.tmps.getD 23 undef),(24,ax1.tmps.getD 24 undef),(25,ax1.tmps.getD 25 undef),(26,ax1.tmps.getD 26 undef),(27,ax1.tmps.getD 27 undef),(28,ax1.tmps.getD 28 undef),(29,ax1.tmps.getD 29 undef),(30,ax1.tmps.getD 30 undef),(31,ax1.tmps.getD 31 undef),(32,ax1.tmps.getD 32 undef),(33,ax1.tmps.getD 33 undef),(34,ax1.tmps.getD 34 undef),(35,ax1.tmps.getD 35 undef),(36,ax1.tmps.getD 36 undef),(37,ax1.tmps.getD 37 undef),(38,ax1.tmps.getD 38 undef),(39,ax1.tmps.getD 39 undef),(40,ax1.tmps.getD 40 undef),(41,ax1.tmps.getD 41 undef),(42,ax1.tmps.getD 42 undef),(43,ax1.tmps.getD 43 undef),(44,ax1.tmps.getD 44 undef),(45,ax1.tmps.getD 45 undef),(46,ax1.tmps.getD 46 undef),(47,ax1.tmps.getD 47 undef),(48,ax1.tmps.getD 48 undef),(49,ax1.tmps.getD 49 undef),(50,ax1.tmps.getD 50 undef),(51,ax1.tmps.getD 51 undef),(52,ax1.tmps.getD 52 undef),(53,ax1.tmps.getD 53 undef),(54,ax1.tmps.getD 54 undef),(55,ax1.tmps.getD 55 undef),(56,ax1.tmps.getD 56 undef),(57,ax1.tmps.getD 57 undef),(2,ax1.tmps.getD 2 undef)] by kernel_rfl,gx1_2]
  simp only [putAll,List.setIfInBounds_toArray,List.set_cons_zero,List.set_cons_succ,Exit.then]
  generalize ax1.tmps.getD 17 undef=yx1_17
  generalize ax1.tmps.getD 18 undef=yx1_18
  generalize ax1.tmps.getD 19 undef=yx1_19
  generalize ax1.tmps.getD 20 undef=yx1_20
  generalize ax1.tmps.getD 21 undef=yx1_21
  generalize ax1.tmps.getD 22 undef=yx1_22
  generalize ax1.tmps.getD 23 undef=yx1_23
  generalize ax1.tmps.getD 24 undef=yx1_24
  generalize ax1.tmps.getD 25 undef=yx1_25
  generalize ax1.tmps.getD 26 undef=yx1_26
  generalize ax1.tmps.getD 27 undef=yx1_27
  generalize ax1.tmps.getD 28 undef=yx1_28
  generalize ax1.tmps.getD 29 undef=yx1_29
  generalize ax1.tmps.getD 30 undef=yx1_30
  generalize ax1.tmps.getD 31 undef=yx1_31
  generalize ax1.tmps.getD 32 undef=yx1_32
  generalize ax1.tmps.getD 33 undef=yx1_33
  generalize ax1.tmps.getD 34 undef=yx1_34
  generalize ax1.tmps.getD 35 undef=yx1_35
  generalize ax1.tmps.getD 36 undef=yx1_36
  generalize ax1.tmps.getD 37 undef=yx1_37
  generalize ax1.tmps.getD 38 undef=yx1_38
  generalize ax1.tmps.getD 39 undef=yx1_39
  generalize ax1.tmps.getD 40 undef=yx1_40
  generalize ax1.tmps.getD 41 undef=yx1_41
  generalize ax1.tmps.getD 42 undef=yx1_42
  generalize ax1.tmps.getD 43 undef=yx1_43
  generalize ax1.tmps.getD 44 undef=yx1_44
  generalize ax1.tmps.getD 45 undef=yx1_45
  generalize ax1.tmps.getD 46 undef=yx1_46
  generalize ax1.tmps.getD 47 undef=yx1_47
  generalize ax1.tmps.getD 48 undef=yx1_48
  generalize ax1.tmps.getD 49 undef=yx1_49
  generalize ax1.tmps.getD 50 undef=yx1_50
  generalize ax1.tmps.getD 51 undef=yx1_51
  generalize ax1.tmps.getD 52 undef=yx1_52
  generalize ax1.tmps.getD 53 undef=yx1_53
  generalize ax1.tmps.getD 54 undef=yx1_54
  generalize ax1.tmps.getD 55 undef=yx1_55
  generalize ax1.tmps.getD 56 undef=yx1_56
  generalize ax1.tmps.getD 57 undef=yx1_57
  clear gx1_2 ax1
  go_wp2_with fail
  go_ret
  exact ⟨rfl,below_call B2.out Bx1⟩
end Go.Proofs.YtjhjpllgoakncaaDoor.Mrm
