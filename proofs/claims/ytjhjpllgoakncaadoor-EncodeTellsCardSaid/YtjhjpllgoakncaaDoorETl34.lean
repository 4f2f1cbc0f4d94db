import Derived.Test.YtjhjpllgoakncaaDoorETl19
import Derived.OrdersIn
import Derived.RangeFuncSeq
import Derived.Test.YtjhjpllgoakncaaDoorETl09
set_option linter.unusedVariables false
set_option linter.unusedSimpArgs false
set_option linter.unnecessarySimpa false
namespace Go.Proofs.YtjhjpllgoakncaaDoor
open Go Go.RowKit
set_option linter.unusedVariables false
set_option linter.unusedSimpArgs false
section
variable {F:Fence} {n m:Nat} {P:Program} {ops:Array Oper} {Q:Exit → Act → World → Prop} {i:Nat} {o:Oper} {K:Act → World → Prop} {a:Act} {w w':World}
end
section law
variable {F:Fence} {m:Nat} {P:Program} {ops:Array Oper} {Q:Exit → Act → World → Prop} {n:Nat} {a0:Act} {w0:World} {S:(Nat → Bool) → (Nat → Value) → World → Prop} {K D:List Nat} {l:List (Option Value)}
def HopI (F:Fence) (m:Nat) (P:Program) (ops:Array Oper) (Q:Exit → Act → World → Prop) (n:Nat) (a0:Act) (S:(Nat → Bool) → (Nat → Value) → World → Prop) (K D:List Nat) (l:List (Option Value)) (i:Nat) (L:List Oper):Prop:=
  ∀ j o,L[j]?=some o → ∀ fl a w,Cz ops n a0 S K D l (i + j) o fl a w → (∀ q,i + j ≤ q → q < ops.size → fl q=false) → wpOpIn F m P ops Q (i + j) (PostZ S l (i + j) o fl a) a w
theorem xc {i:Nat} {o:Oper} {L:List Oper} (h:∀ {fl a w},Cz ops n a0 S K D l i o fl a w → (∀ q,i ≤ q → q < ops.size → fl q=false) → wpOpIn F m P ops Q i (PostZ S l i o fl a) a w) (t:HopI F m P ops Q n a0 S K D l (i + 1) L):HopI F m P ops Q n a0 S K D l i (o :: L):=fun j o' hj=>by
  cases j with
  | zero=>
    have e:o=o':=by simpa using hj
    subst e
    exact fun _ _ _ c s=>h c s
  | succ j=>
    have:=t j o' (by simpa using hj)
    rw [show i + 1 + j=i + (j + 1) by omega] at this
    exact this
end law
section
variable {F:Fence} {m:Nat} {P:Program} {ops:Array Oper} {Q:Exit → Act → World → Prop} {n:Nat} {a0:Act} {S:(Nat → Bool) → (Nat → Value) → World → Prop} {K D:List Nat} {l:List (Option Value)} {i:Nat} {o:Oper} {fl:Nat → Bool} {a:Act} {w w':World}
theorem Cz.wy (c:Cz ops n a0 S K D l i o fl a w) {j:Nat} {want:Bool} {oj:Oper} {d:Nat} (hg:o.guard=some (j,want)) (hj:ops[j]?=some oj) (hd:oj.dst=some d) (hlt:Nat.blt d n=true) (h:a.tmps.getD d undef=.bool want):Region.wanted o (yielded ops a.tmps)=true:=
  wanted_yes j d want h (by rw [c.sz];exact Nat.le_of_ble_eq_true hlt) hg hj hd (by simp)
end
end Go.Proofs.YtjhjpllgoakncaaDoor
namespace Go.Proofs.YtjhjpllgoakncaaDoor
open Go Go.RowKit
set_option linter.unusedVariables false
set_option linter.unusedSimpArgs false
section
variable {F:Fence} {m:Nat} {P:Program} {ops:Array Oper} {Q:Exit → Act → World → Prop} {md:Region.Mode}
end
section
variable {F:Fence} {m:Nat} {P:Program} {ops:Array Oper} {Q:Exit → Act → World → Prop} {n:Nat} {a0:Act} {w0:World} {S:(Nat → Bool) → (Nat → Value) → World → Prop} {K D:List Nat} {l:List (Option Value)}
end
theorem frame_of {ops:Array Oper} {a0 a:Act} (hsz:a.tmps.size=a0.tmps.size) (hd':a.defers=a0.defers) (rest:∀ j,(∀ (i:Nat) (o:Oper),ops[i]?=some o → o.dst ≠ some j) → a.tmps.getD j undef=a0.tmps.getD j undef):
    a=⟨putAll a0.tmps (outs ops fun d=>a.tmps.getD d undef),a0.defers⟩:=by
  have e:a.tmps=putAll a0.tmps (outs ops fun d=>a.tmps.getD d undef):=by
    apply Array.ext_getElem?
    intro j
    by_cases hj:j < a0.tmps.size
    · by_cases hd:∃ (i:Nat) (o:Oper),ops[i]?=some o ∧ o.dst=some j
      · obtain ⟨i,o,ho,hd⟩:=hd
        rw [putAll_mem (fun d=>a.tmps.getD d undef) _ _ j hj]
        · have hj':j < a.tmps.size:=by rw [hsz];exact hj
          rw [Array.getElem?_eq_getElem hj']
          simp [Array.getD_eq_getD_getElem?,Array.getElem?_eq_getElem hj']
        · intro p hp
          unfold outs at hp
          rw [List.mem_filterMap] at hp
          obtain ⟨i',_,he⟩:=hp
          rw [Option.map_eq_some_iff] at he
          obtain ⟨d,_,rfl⟩:=he
          rfl
        · refine ⟨(j,a.tmps.getD j undef),?_,rfl⟩
          unfold outs
          rw [List.mem_filterMap]
          exact ⟨i,List.mem_range.2 (Array.getElem?_eq_some_iff.1 ho).1,by rw [ho];simp [hd]⟩
      · have hr:=rest j (fun i o ho hd'=>hd ⟨i,o,ho,hd'⟩)
        rw [putAll_other]
        · have hj':j < a.tmps.size:=by rw [hsz];exact hj
          rw [Array.getElem?_eq_getElem hj',Array.getElem?_eq_getElem hj]
          simp only [Array.getD_eq_getD_getElem?,Array.getElem?_eq_getElem hj',Array.getElem?_eq_getElem hj,Option.getD_some] at hr
          rw [hr]
        · intro p hp e
          unfold outs at hp
          rw [List.mem_filterMap] at hp
          obtain ⟨i',_,he⟩:=hp
          rw [Option.map_eq_some_iff] at he
          obtain ⟨d,hd',rfl⟩:=he
          rw [Option.bind_eq_some_iff] at hd'
          obtain ⟨o,ho,hd'⟩:=hd'
          exact hd ⟨i',o,ho,by rw [hd',← e]⟩
    · rw [Array.getElem?_eq_none (by rw [hsz];omega),Array.getElem?_eq_none (by rw [putAll_size];omega)]
  have ea:a=⟨putAll a0.tmps (outs ops fun d=>a.tmps.getD d undef),a0.defers⟩:=by
    rw [← e,← hd']
  exact ea
theorem not_chk {ops:Array Oper} {j:Nat} (h:∀ (i:Nat) (o:Oper),ops[i]?=some o → o.dst ≠ some j):chkNot ops j=true:=by
  unfold chkNot
  rw [List.all_eq_true]
  intro i _
  cases ho:ops[i]? with
  | none=>rfl
  | some o=>
    cases hd:o.dst with
    | none=>simp [hd]
    | some d=>
      have:=h i o ho
      rw [hd] at this
      simp only [hd]
      simpa using this
theorem BehZ.frame {ops:Array Oper} {n:Nat} {a0:Act} {S:(Nat → Bool) → (Nat → Value) → World → Prop} {l:List (Option Value)} {a:Act} {w:World} (f:BehZ ops n a0 S l a w) (h0:a0.tmps.size=n) (hd:a0.defers=[]):a=⟨putAll a0.tmps (outs ops fun d=>a.tmps.getD d undef),[]⟩:=by
  have:=frame_of (ops:=ops) (a0:=a0) (a:=a) (f.z.trans h0.symm) (f.d.trans hd.symm) (fun j hj=>f.r j (not_chk hj) rfl)
  rw [hd] at this
  exact this
end Go.Proofs.YtjhjpllgoakncaaDoor
namespace Go.Proofs.YtjhjpllgoakncaaDoor
open Go Go.RowKit
set_option linter.unusedVariables false
set_option linter.unusedSimpArgs false
section
variable {P:Program} {ops:Array Oper} {Q:Exit → Act → World → Prop} {n:Nat} {a0:Act} {S:(Nat → Bool) → (Nat → Value) → World → Prop} {K D:List Nat} {l:List (Option Value)} {i:Nat} {o:Oper} {fl:Nat → Bool} {a:Act} {w w' w0:World}
def okK (K D:List Nat) (i d:Nat):Bool:=K.all (fun k=>!Nat.beq k i) && D.all (fun k=>!Nat.beq k d)
theorem Cz.vg (c:Cz ops n a0 S K D l i o fl a w) (hw:Region.wanted o (yielded ops a.tmps)=true) {v:Value} (hr:(execOp a.eval o).run P w=.ok (.value v) w) {d:Nat} (hd:o.dst=some d) (hlt:Nat.blt d n=true) (hk:okK K D i d=true) (ht:TabO l i v):wpOp P ops Q i (PostZ S l i o fl a) a w:=
  wpOp_valw c.ho hw hr ⟨v,rfl,by rw [own_some hd c.sz hlt];exact ht,by rw [hd];exact c.keep hk⟩
def belS (w0:World):(Nat → Bool) → (Nat → Value) → World → Prop:=fun _ _ w=>Below w0.heap.size w0 w
theorem Cz.cB (c:Cz ops n a0 (belS w0) [] [] l i o fl a w) (hw:Region.wanted o (yielded ops a.tmps)=true) {f:FuncId} {xs:Array Operand} {ts:Array TypeId} {fn:Func} {args:Array Value} (ho:o.op=.call ⟨.value (.func f),xs,ts⟩) (ha:xs.map a.eval=args) (hf:P.funcs[f]?=some fn)
    (hn:okF fn=true) {d:Nat} (hd:o.dst=some d) (hlt:Nat.blt d n=true) {v:Value} (K':Below w0.heap.size w0 w → Calls P f args w fun e w'=>e=.returned v ∧ Below w.heap.size w w') (ht:TabO l i v):wpOp P ops Q i (PostZ (belS w0) l i o fl a) a w:=by
  unfold okF at hn
  simp only [Bool.and_eq_true,Bool.not_eq_true'] at hn
  refine wpOp_callw c.ho hw (exec_call ho rfl rfl ha hf hn.1 hn.2) ((K' c.S).mono ?_)
  rintro e w' ⟨rfl,b⟩
  exact ⟨v,rfl,_,rfl,by rw [own_some hd c.sz hlt];exact ht,by
    have h:Below w0.heap.size w0 w:=c.S
    exact h.trans (b.mono h.size)⟩
end
end Go.Proofs.YtjhjpllgoakncaaDoor
namespace Go.Proofs.YtjhjpllgoakncaaDoor.Mrm
open Go Go.RowKit
set_option linter.unusedVariables false
set_option linter.unnecessarySimpa false
set_option linter.unusedSimpArgs false
set_option maxRecDepth 100000
set_option maxHeartbeats 4000000 in
theorem eb_c1 (op wd dst src base disp imm cc:Int) (W:World) (hm:mayX ⟨op,wd,dst,src,base,disp,imm,cc⟩=true) (hw:-128 ≤ wd ∧ wd < 128) (hd:0 ≤ dst ∧ dst < 16) (hs:0 ≤ src ∧ src < 16) (hb:0 ≤ base ∧ base < 16) (hc:clsI op=1) (h16:(op == 16)=false):
    Calls Tryd.prog 10 #[.agg #[.int .i8 op,.int .i8 wd,.int .i8 dst,.int .i8 src,.int .i8 base,.int .i64 disp,.int .i64 imm,.int .i8 cc]] W (RetX (rexL (wd == 64) src dst false ++ [codI op,opI 192 src dst]) 0 W):=by
  have MY:=Lib.hid (fun W=>show Calls Tryd.prog 12 #[.agg #[.int .i8 op,.int .i8 wd,.int .i8 dst,.int .i8 src,.int .i8 base,.int .i64 disp,.int .i64 imm,.int .i8 cc]] W fun e w'=>e=.returned (.bool true) ∧ Below W.heap.size W w' by have h:=emay_n ⟨op,wd,dst,src,base,disp,imm,cc⟩ W hw;rw [hm] at h;exact h)
  have CD:=Lib.hid (fun W=>cod_n op W)
  have CL:=Lib.hid (fun W=>cls_is hc W)
  have RX:=Lib.hid (fun W=>erex_n (wd == 64) src dst false W)
  have rl:=rexL_length (wd == 64) src dst false
  have RO:=Lib.hid (rexL_ok (wd == 64) src dst false)
  have DR:=Lib.hid (fun W=>edirect_n src dst hs hd W)
  have ob:=opI_bd (k:=192) (r:=src) (m:=dst) (.inl rfl)
  have cb:=codI_bd op
  clear hm hw hd hs hb hc
  generalize codI op=c at *
  generalize opI 192 src dst=d at *
  generalize rexL (wd == 64) src dst false=rl0 at *
  unfold RetX
  go_enter Tryd.func10,Tryd.ntmps10
  go_wp2_with fail
  refine (MY.out _).mono ?_
  rintro e w1 ⟨rfl,b1⟩
  have B1:=Lib.hid b1
  clear b1
  obtain ⟨c0_1,c1_1,c2_1,c3_1,c4_1,c5_1,c6_1,c7_1⟩:=xcells B1.out
  go_wp2_with fail
  refine (CD.out _).mono ?_
  rintro e y ⟨rfl,rfl⟩
  go_wp2_with fail
  refine (CL.out _).mono ?_
  rintro e y ⟨rfl,rfl⟩
  go_wp2_with fail
  refine (RX.out _).mono ?_
  rintro e w2 ⟨u2,rfl,o2,b2⟩
  have B2:=Lib.hid (below_call B1.out b2)
  have O2:=Lib.hid (o2.mono (size1 B1.out))
  clear o2 b2
  obtain ⟨c0_2,c1_2,c2_2,c3_2,c4_2,c5_2,c6_2,c7_2⟩:=xcells B2.out
  clear c0_1 c1_1 c2_1 c3_1 c4_1 c5_1 c6_1 c7_1
  go_wp2_with fail
  refine (DR.out _).mono ?_
  rintro e y ⟨rfl,rfl⟩
  go_wp2_with (at_builtin;refine wpList_append_b rfl _ _ rfl (W.heap.size + 1) _ _ rfl (O2.out.below (below_new (Below.refl _ _) _)) _ 2 2 [c,d] rfl (made_at _ [c,d] (by intro z hz;simp at hz;omega) (by simp)) (by simp;omega) (Nat.le_trans (size1 B2.out) (by simp)) ?_)
  intro u3 w3 o3 g3
  have B3:=Lib.hid (grown1 (below_new B2.out _) g3 (fun j hj=>O2.out.lt j hj))
  have O3:=Lib.hid o3
  clear o3 g3
  obtain ⟨c0_3,c1_3,c2_3,c3_3,c4_3,c5_3,c6_3,c7_3⟩:=xcells B3.out
  clear c0_2 c1_2 c2_2 c3_2 c4_2 c5_2 c6_2 c7_2
  go_wp2_with fail
  go_ret2
  have hh:Bts W.heap.size w3 u3 (rl0 ++ [c,d]):=by have h:=O3.out.mono (Nat.le_succ _);simpa only [List.append_assoc,List.cons_append,List.nil_append] using h
  exact ⟨_,rfl,hh,below_boxed B3.out⟩
set_option maxHeartbeats 4000000 in
theorem eb_mul (wd dst src base disp imm cc:Int) (W:World) (hm:mayX ⟨16,wd,dst,src,base,disp,imm,cc⟩=true) (hw:-128 ≤ wd ∧ wd < 128) (hd:0 ≤ dst ∧ dst < 16) (hs:0 ≤ src ∧ src < 16) (hb:0 ≤ base ∧ base < 16):
    Calls Tryd.prog 10 #[.agg #[.int .i8 16,.int .i8 wd,.int .i8 dst,.int .i8 src,.int .i8 base,.int .i64 disp,.int .i64 imm,.int .i8 cc]] W (RetX (rexL (wd == 64) dst src false ++ [15,175,opI 192 dst src]) 0 W):=by
  have MY:=Lib.hid (fun W=>show Calls Tryd.prog 12 #[.agg #[.int .i8 16,.int .i8 wd,.int .i8 dst,.int .i8 src,.int .i8 base,.int .i64 disp,.int .i64 imm,.int .i8 cc]] W fun e w'=>e=.returned (.bool true) ∧ Below W.heap.size W w' by have h:=emay_n ⟨16,wd,dst,src,base,disp,imm,cc⟩ W hw;rw [hm] at h;exact h)
  have CD:=Lib.hid (fun W=>cod_is (show codI 16=0 by decide) W)
  have RX:=Lib.hid (fun W=>erex_n (wd == 64) dst src false W)
  have rl:=rexL_length (wd == 64) dst src false
  have RO:=Lib.hid (rexL_ok (wd == 64) dst src false)
  have DR:=Lib.hid (fun W=>edirect_n dst src hd hs W)
  have ob:=opI_bd (k:=192) (r:=dst) (m:=src) (.inl rfl)
  clear hm hw hd hs hb
  generalize opI 192 dst src=d at *
  generalize rexL (wd == 64) dst src false=rl0 at *
  unfold RetX
  go_enter Tryd.func10,Tryd.ntmps10
  go_wp2_with fail
  refine (MY.out _).mono ?_
  rintro e w1 ⟨rfl,b1⟩
  have B1:=Lib.hid b1
  clear b1
  obtain ⟨c0_1,c1_1,c2_1,c3_1,c4_1,c5_1,c6_1,c7_1⟩:=xcells B1.out
  go_wp2_with fail
  refine (CD.out _).mono ?_
  rintro e y ⟨rfl,rfl⟩
  go_wp2_with fail
  refine (RX.out _).mono ?_
  rintro e w2 ⟨u2,rfl,o2,b2⟩
  have B2:=Lib.hid (below_call B1.out b2)
  have O2:=Lib.hid (o2.mono (size1 B1.out))
  clear o2 b2
  obtain ⟨c0_2,c1_2,c2_2,c3_2,c4_2,c5_2,c6_2,c7_2⟩:=xcells B2.out
  clear c0_1 c1_1 c2_1 c3_1 c4_1 c5_1 c6_1 c7_1
  go_wp2_with fail
  refine (DR.out _).mono ?_
  rintro e y ⟨rfl,rfl⟩
  go_wp2_with (at_builtin;refine wpList_append_b rfl _ _ rfl (W.heap.size + 1) _ _ rfl (O2.out.below (below_new (Below.refl _ _) _)) _ 3 3 [15,175,d] rfl (made_at _ [15,175,d] (by intro z hz;simp at hz;omega) (by simp)) (by simp;omega) (Nat.le_trans (size1 B2.out) (by simp)) ?_)
  intro u3 w3 o3 g3
  have B3:=Lib.hid (grown1 (below_new B2.out _) g3 (fun j hj=>O2.out.lt j hj))
  have O3:=Lib.hid o3
  clear o3 g3
  obtain ⟨c0_3,c1_3,c2_3,c3_3,c4_3,c5_3,c6_3,c7_3⟩:=xcells B3.out
  clear c0_2 c1_2 c2_2 c3_2 c4_2 c5_2 c6_2 c7_2
  go_wp2_with fail
  go_ret2
  have hh:Bts W.heap.size w3 u3 (rl0 ++ [15,175,d]):=by have h:=O3.out.mono (Nat.le_succ _);simpa only [List.append_assoc,List.cons_append,List.nil_append] using h
  exact ⟨_,rfl,hh,below_boxed B3.out⟩
set_option maxHeartbeats 4000000 in
theorem eb_movi64 (dst src base disp imm cc:Int) (W:World) (hm:mayX ⟨1,64,dst,src,base,disp,imm,cc⟩=true) (hw:True) (hd:0 ≤ dst ∧ dst < 16) (hs:0 ≤ src ∧ src < 16) (hb:0 ≤ base ∧ base < 16):
    Calls Tryd.prog 10 #[.agg #[.int .i8 1,.int .i8 64,.int .i8 dst,.int .i8 src,.int .i8 base,.int .i64 disp,.int .i64 imm,.int .i8 cc]] W (RetX ((rexL true 0 dst false ++ [199,opI 192 0 dst]) ++ numL imm 4) 0 W):=by
  have MY:=Lib.hid (fun W=>show Calls Tryd.prog 12 #[.agg #[.int .i8 1,.int .i8 64,.int .i8 dst,.int .i8 src,.int .i8 base,.int .i64 disp,.int .i64 imm,.int .i8 cc]] W fun e w'=>e=.returned (.bool true) ∧ Below W.heap.size W w' by have h:=emay_n ⟨1,64,dst,src,base,disp,imm,cc⟩ W ⟨by show (-128:Int) ≤ 64;decide,by show (64:Int) < 128;decide⟩;rw [hm] at h;exact h)
  have CD:=Lib.hid (fun W=>cod_is (show codI 1=0 by decide) W)
  have CL:=Lib.hid (fun W=>cls_is (show clsI 1=2 by decide) W)
  have RX:=Lib.hid (fun W=>erex_n true 0 dst false W)
  have rl:=rexL_length true 0 dst false
  have RO:=Lib.hid (rexL_ok true 0 dst false)
  have DR:=Lib.hid (fun W=>edirect_n 0 dst (by decide) hd W)
  have ob:=opI_bd (k:=192) (r:=0) (m:=dst) (.inl rfl)
  have PT:=Lib.hid (fun W=>put4_n imm W)
  have NO:=Lib.hid (numL_ok imm 4)
  have NL:=Lib.hid (numL_length imm 4)
  clear hm hw hd hs hb
  generalize opI 192 0 dst=d at *
  generalize numL imm 4=nl at *
  generalize rexL true 0 dst false=rl0 at *
  unfold RetX
  go_enter Tryd.func10,Tryd.ntmps10
  go_wp2_with fail
  refine (MY.out _).mono ?_
  rintro e w1 ⟨rfl,b1⟩
  have B1:=Lib.hid b1
  clear b1
  obtain ⟨c0_1,c1_1,c2_1,c3_1,c4_1,c5_1,c6_1,c7_1⟩:=xcells B1.out
  go_wp2_with fail
  refine (CD.out _).mono ?_
  rintro e y ⟨rfl,rfl⟩
  go_wp2_with fail
  refine (CL.out _).mono ?_
  rintro e y ⟨rfl,rfl⟩
  go_wp2_with fail
  refine (RX.out _).mono ?_
  rintro e w2 ⟨u2,rfl,o2,b2⟩
  have B2:=Lib.hid (below_call B1.out b2)
  have O2:=Lib.hid (o2.mono (size1 B1.out))
  clear o2 b2
  obtain ⟨c0_2,c1_2,c2_2,c3_2,c4_2,c5_2,c6_2,c7_2⟩:=xcells B2.out
  clear c0_1 c1_1 c2_1 c3_1 c4_1 c5_1 c6_1 c7_1
  go_wp2_with fail
  refine (DR.out _).mono ?_
  rintro e y ⟨rfl,rfl⟩
  go_wp2_with (at_builtin;refine wpList_append_b rfl _ _ rfl (W.heap.size + 1) _ _ rfl (O2.out.below (below_new (Below.refl _ _) _)) _ 2 2 [199,d] rfl (made_at _ [199,d] (by intro z hz;simp at hz;omega) (by simp)) (by simp;omega) (Nat.le_trans (size1 B2.out) (by simp)) ?_)
  intro u3 w3 o3 g3
  have B3:=Lib.hid (grown1 (below_new B2.out _) g3 (fun j hj=>O2.out.lt j hj))
  have O3:=Lib.hid o3
  clear o3 g3
  obtain ⟨c0_3,c1_3,c2_3,c3_3,c4_3,c5_3,c6_3,c7_3⟩:=xcells B3.out
  clear c0_2 c1_2 c2_2 c3_2 c4_2 c5_2 c6_2 c7_2
  go_wp2_with fail
  refine (PT.out _).mono ?_
  rintro e w4 ⟨u4,rfl,o4,b4⟩
  have B4:=Lib.hid (below_call B3.out b4)
  have K4:=Lib.hid (O3.out.below b4)
  have O4:=Lib.hid (o4.mono (size1 B3.out))
  clear o4 b4
  obtain ⟨c0_4,c1_4,c2_4,c3_4,c4_4,c5_4,c6_4,c7_4⟩:=xcells B4.out
  clear c0_3 c1_3 c2_3 c3_3 c4_3 c5_3 c6_3 c7_3
  obtain ⟨xa4,xc4,rfl,e4⟩:=O4.out.at NO.out
  have E4:=Lib.hid e4
  clear e4
  go_wp2_with (at_builtin;refine wpList_append_b rfl _ _ rfl (W.heap.size + 1) _ _ rfl (K4.out) _ _ _ _ rfl E4.out (by have:=NL.out;simp;omega) (size1 B4.out) ?_)
  intro u5 w5 o5 g5
  have B5:=Lib.hid (grown1 (B4.out) g5 (fun j hj=>K4.out.lt j hj))
  have O5:=Lib.hid o5
  clear o5 g5
  obtain ⟨c0_5,c1_5,c2_5,c3_5,c4_5,c5_5,c6_5,c7_5⟩:=xcells B5.out
  clear c0_4 c1_4 c2_4 c3_4 c4_4 c5_4 c6_4 c7_4
  go_wp2_with fail
  go_ret2
  have hh:Bts W.heap.size w5 u5 ((rl0 ++ [199,d]) ++ nl):=by have h:=O5.out.mono (Nat.le_succ _);simpa only [List.append_assoc,List.cons_append,List.nil_append] using h
  exact ⟨_,rfl,hh,below_boxed B5.out⟩
set_option maxHeartbeats 4000000 in
theorem eb_movi32 (dst src base disp imm cc:Int) (W:World) (hm:mayX ⟨1,32,dst,src,base,disp,imm,cc⟩=true) (hw:True) (hd:0 ≤ dst ∧ dst < 16) (hs:0 ≤ src ∧ src < 16) (hb:0 ≤ base ∧ base < 16):
    Calls Tryd.prog 10 #[.agg #[.int .i8 1,.int .i8 32,.int .i8 dst,.int .i8 src,.int .i8 base,.int .i64 disp,.int .i64 imm,.int .i8 cc]] W (RetX ((rexL false 0 dst false ++ [184 + dst % 8]) ++ numL imm 4) 0 W):=by
  have MY:=Lib.hid (fun W=>show Calls Tryd.prog 12 #[.agg #[.int .i8 1,.int .i8 32,.int .i8 dst,.int .i8 src,.int .i8 base,.int .i64 disp,.int .i64 imm,.int .i8 cc]] W fun e w'=>e=.returned (.bool true) ∧ Below W.heap.size W w' by have h:=emay_n ⟨1,32,dst,src,base,disp,imm,cc⟩ W ⟨by show (-128:Int) ≤ 32;decide,by show (32:Int) < 128;decide⟩;rw [hm] at h;exact h)
  have CD:=Lib.hid (fun W=>cod_is (show codI 1=0 by decide) W)
  have CL:=Lib.hid (fun W=>cls_is (show clsI 1=2 by decide) W)
  have RX:=Lib.hid (fun W=>erex_n false 0 dst false W)
  have rl:=rexL_length false 0 dst false
  have RO:=Lib.hid (rexL_ok false 0 dst false)
  have PT:=Lib.hid (fun W=>put4_n imm W)
  have NO:=Lib.hid (numL_ok imm 4)
  have NL:=Lib.hid (numL_length imm 4)
  have e7:=and7c hd
  clear hm hw hs hb
  generalize numL imm 4=nl at *
  generalize rexL false 0 dst false=rl0 at *
  generalize hD:dst % 8=d8 at *
  have d81:0 ≤ d8:=by omega
  have d82:d8 < 8:=by omega
  clear hD hd
  unfold RetX
  go_enter Tryd.func10,Tryd.ntmps10
  go_wp2_with fail
  refine (MY.out _).mono ?_
  rintro e w1 ⟨rfl,b1⟩
  have B1:=Lib.hid b1
  clear b1
  obtain ⟨c0_1,c1_1,c2_1,c3_1,c4_1,c5_1,c6_1,c7_1⟩:=xcells B1.out
  go_wp2_with fail
  refine (CD.out _).mono ?_
  rintro e y ⟨rfl,rfl⟩
  go_wp2_with fail
  refine (CL.out _).mono ?_
  rintro e y ⟨rfl,rfl⟩
  go_wp2_with fail
  refine (RX.out _).mono ?_
  rintro e w2 ⟨u2,rfl,o2,b2⟩
  have B2:=Lib.hid (below_call B1.out b2)
  have O2:=Lib.hid (o2.mono (size1 B1.out))
  clear o2 b2
  obtain ⟨c0_2,c1_2,c2_2,c3_2,c4_2,c5_2,c6_2,c7_2⟩:=xcells B2.out
  clear c0_1 c1_1 c2_1 c3_1 c4_1 c5_1 c6_1 c7_1
  go_wp2_with (at_builtin;refine wpList_append_b rfl _ _ rfl (W.heap.size + 1) _ _ rfl (O2.out.below (below_new (Below.refl _ _) _)) _ 1 1 [184 + d8] rfl (made_at _ [184 + d8] (by intro z hz;simp at hz;omega) (by simp)) (by simp;omega) (Nat.le_trans (size1 B2.out) (by simp)) ?_)
  intro u3 w3 o3 g3
  have B3:=Lib.hid (grown1 (below_new B2.out _) g3 (fun j hj=>O2.out.lt j hj))
  have O3:=Lib.hid o3
  clear o3 g3
  obtain ⟨c0_3,c1_3,c2_3,c3_3,c4_3,c5_3,c6_3,c7_3⟩:=xcells B3.out
  clear c0_2 c1_2 c2_2 c3_2 c4_2 c5_2 c6_2 c7_2
  go_wp2_with fail
  refine (PT.out _).mono ?_
  rintro e w4 ⟨u4,rfl,o4,b4⟩
  have B4:=Lib.hid (below_call B3.out b4)
  have K4:=Lib.hid (O3.out.below b4)
  have O4:=Lib.hid (o4.mono (size1 B3.out))
  clear o4 b4
  obtain ⟨c0_4,c1_4,c2_4,c3_4,c4_4,c5_4,c6_4,c7_4⟩:=xcells B4.out
  clear c0_3 c1_3 c2_3 c3_3 c4_3 c5_3 c6_3 c7_3
  obtain ⟨xa4,xc4,rfl,e4⟩:=O4.out.at NO.out
  have E4:=Lib.hid e4
  clear e4
  go_wp2_with (at_builtin;refine wpList_append_b rfl _ _ rfl (W.heap.size + 1) _ _ rfl (K4.out) _ _ _ _ rfl E4.out (by have:=NL.out;simp;omega) (size1 B4.out) ?_)
  intro u5 w5 o5 g5
  have B5:=Lib.hid (grown1 (B4.out) g5 (fun j hj=>K4.out.lt j hj))
  have O5:=Lib.hid o5
  clear o5 g5
  obtain ⟨c0_5,c1_5,c2_5,c3_5,c4_5,c5_5,c6_5,c7_5⟩:=xcells B5.out
  clear c0_4 c1_4 c2_4 c3_4 c4_4 c5_4 c6_4 c7_4
  go_wp2_with fail
  go_ret2
  have hh:Bts W.heap.size w5 u5 ((rl0 ++ [184 + d8]) ++ nl):=by have h:=O5.out.mono (Nat.le_succ _);simpa only [List.append_assoc,List.cons_append,List.nil_append] using h
  exact ⟨_,rfl,hh,below_boxed B5.out⟩
set_option maxHeartbeats 4000000 in
theorem eb_testi (wd dst src base disp imm cc:Int) (W:World) (hm:mayX ⟨15,wd,dst,src,base,disp,imm,cc⟩=true) (hw:-128 ≤ wd ∧ wd < 128) (hd:0 ≤ dst ∧ dst < 16) (hs:0 ≤ src ∧ src < 16) (hb:0 ≤ base ∧ base < 16):
    Calls Tryd.prog 10 #[.agg #[.int .i8 15,.int .i8 wd,.int .i8 dst,.int .i8 src,.int .i8 base,.int .i64 disp,.int .i64 imm,.int .i8 cc]] W (RetX (((rexL (wd == 64) 0 dst false ++ [247]) ++ [opI 192 0 dst]) ++ numL imm 4) 0 W):=by
  have MY:=Lib.hid (fun W=>show Calls Tryd.prog 12 #[.agg #[.int .i8 15,.int .i8 wd,.int .i8 dst,.int .i8 src,.int .i8 base,.int .i64 disp,.int .i64 imm,.int .i8 cc]] W fun e w'=>e=.returned (.bool true) ∧ Below W.heap.size W w' by have h:=emay_n ⟨15,wd,dst,src,base,disp,imm,cc⟩ W hw;rw [hm] at h;exact h)
  have CD:=Lib.hid (fun W=>cod_is (show codI 15=0 by decide) W)
  have CL:=Lib.hid (fun W=>cls_is (show clsI 15=2 by decide) W)
  have RX:=Lib.hid (fun W=>erex_n (wd == 64) 0 dst false W)
  have rl:=rexL_length (wd == 64) 0 dst false
  have RO:=Lib.hid (rexL_ok (wd == 64) 0 dst false)
  have DR:=Lib.hid (fun W=>edirect_n 0 dst (by decide) hd W)
  have ob:=opI_bd (k:=192) (r:=0) (m:=dst) (.inl rfl)
  have PT:=Lib.hid (fun W=>put4_n imm W)
  have NO:=Lib.hid (numL_ok imm 4)
  have NL:=Lib.hid (numL_length imm 4)
  clear hm hw hd hs hb
  generalize opI 192 0 dst=d at *
  generalize numL imm 4=nl at *
  generalize rexL (wd == 64) 0 dst false=rl0 at *
  unfold RetX
  go_enter Tryd.func10,Tryd.ntmps10
  go_wp2_with fail
  refine (MY.out _).mono ?_
  rintro e w1 ⟨rfl,b1⟩
  have B1:=Lib.hid b1
  clear b1
  obtain ⟨c0_1,c1_1,c2_1,c3_1,c4_1,c5_1,c6_1,c7_1⟩:=xcells B1.out
  go_wp2_with fail
  refine (CD.out _).mono ?_
  rintro e y ⟨rfl,rfl⟩
  go_wp2_with fail
  refine (CL.out _).mono ?_
  rintro e y ⟨rfl,rfl⟩
  go_wp2_with fail
  refine (CL.out _).mono ?_
  rintro e y ⟨rfl,rfl⟩
  go_wp2_with fail
  refine (RX.out _).mono ?_
  rintro e w2 ⟨u2,rfl,o2,b2⟩
  have B2:=Lib.hid (below_call B1.out b2)
  have O2:=Lib.hid (o2.mono (size1 B1.out))
  clear o2 b2
  obtain ⟨c0_2,c1_2,c2_2,c3_2,c4_2,c5_2,c6_2,c7_2⟩:=xcells B2.out
  clear c0_1 c1_1 c2_1 c3_1 c4_1 c5_1 c6_1 c7_1
  go_wp2_with (at_builtin;refine wpList_append_b rfl _ _ rfl (W.heap.size + 1) _ _ rfl (O2.out.below (below_new (Below.refl _ _) _)) _ 1 1 [247] rfl (made_at _ [247] (by intro z hz;simp at hz;omega) (by simp)) (by simp;omega) (Nat.le_trans (size1 B2.out) (by simp)) ?_)
  intro u3 w3 o3 g3
  have B3:=Lib.hid (grown1 (below_new B2.out _) g3 (fun j hj=>O2.out.lt j hj))
  have O3:=Lib.hid o3
  clear o3 g3
  obtain ⟨c0_3,c1_3,c2_3,c3_3,c4_3,c5_3,c6_3,c7_3⟩:=xcells B3.out
  clear c0_2 c1_2 c2_2 c3_2 c4_2 c5_2 c6_2 c7_2
  go_wp2_with fail
  refine (DR.out _).mono ?_
  rintro e y ⟨rfl,rfl⟩
  go_wp2_with (at_builtin;refine wpList_append_b rfl _ _ rfl (W.heap.size + 1) _ _ rfl (O3.out.below (below_new (Below.refl _ _) _)) _ 1 1 [d] rfl (made_at _ [d] (by intro z hz;simp at hz;omega) (by simp)) (by simp;omega) (Nat.le_trans (size1 B3.out) (by simp)) ?_)
  intro u4 w4 o4 g4
  have B4:=Lib.hid (grown1 (below_new B3.out _) g4 (fun j hj=>O3.out.lt j hj))
  have O4:=Lib.hid o4
  clear o4 g4
  obtain ⟨c0_4,c1_4,c2_4,c3_4,c4_4,c5_4,c6_4,c7_4⟩:=xcells B4.out
  clear c0_3 c1_3 c2_3 c3_3 c4_3 c5_3 c6_3 c7_3
  go_wp2_with fail
  refine (PT.out _).mono ?_
  rintro e w5 ⟨u5,rfl,o5,b5⟩
  have B5:=Lib.hid (below_call B4.out b5)
  have K5:=Lib.hid (O4.out.below b5)
  have O5:=Lib.hid (o5.mono (size1 B4.out))
  clear o5 b5
  obtain ⟨c0_5,c1_5,c2_5,c3_5,c4_5,c5_5,c6_5,c7_5⟩:=xcells B5.out
  clear c0_4 c1_4 c2_4 c3_4 c4_4 c5_4 c6_4 c7_4
  obtain ⟨xa5,xc5,rfl,e5⟩:=O5.out.at NO.out
  have E5:=Lib.hid e5
  clear e5
  go_wp2_with (at_builtin;refine wpList_append_b rfl _ _ rfl (W.heap.size + 1) _ _ rfl (K5.out) _ _ _ _ rfl E5.out (by have:=NL.out;simp;omega) (size1 B5.out) ?_)
  intro u6 w6 o6 g6
  have B6:=Lib.hid (grown1 (B5.out) g6 (fun j hj=>K5.out.lt j hj))
  have O6:=Lib.hid o6
  clear o6 g6
  obtain ⟨c0_6,c1_6,c2_6,c3_6,c4_6,c5_6,c6_6,c7_6⟩:=xcells B6.out
  clear c0_5 c1_5 c2_5 c3_5 c4_5 c5_5 c6_5 c7_5
  go_wp2_with fail
  go_ret2
  have hh:Bts W.heap.size w6 u6 (((rl0 ++ [247]) ++ [d]) ++ nl):=by have h:=O6.out.mono (Nat.le_succ _);simpa only [List.append_assoc,List.cons_append,List.nil_append] using h
  exact ⟨_,rfl,hh,below_boxed B6.out⟩
set_option maxHeartbeats 4000000 in
theorem eb_c2 (op wd dst src base disp imm cc:Int) (W:World) (hm:mayX ⟨op,wd,dst,src,base,disp,imm,cc⟩=true) (hw:-128 ≤ wd ∧ wd < 128) (hd:0 ≤ dst ∧ dst < 16) (hs:0 ≤ src ∧ src < 16) (hb:0 ≤ base ∧ base < 16) (hc:clsI op=2) (h16:(op == 16)=false) (h1:(op == 1)=false) (h15:(op == 15)=false):
    Calls Tryd.prog 10 #[.agg #[.int .i8 op,.int .i8 wd,.int .i8 dst,.int .i8 src,.int .i8 base,.int .i64 disp,.int .i64 imm,.int .i8 cc]] W (RetX (((rexL (wd == 64) 0 dst false ++ [129]) ++ [opI 192 (codI op) dst]) ++ numL imm 4) 0 W):=by
  have MY:=Lib.hid (fun W=>show Calls Tryd.prog 12 #[.agg #[.int .i8 op,.int .i8 wd,.int .i8 dst,.int .i8 src,.int .i8 base,.int .i64 disp,.int .i64 imm,.int .i8 cc]] W fun e w'=>e=.returned (.bool true) ∧ Below W.heap.size W w' by have h:=emay_n ⟨op,wd,dst,src,base,disp,imm,cc⟩ W hw;rw [hm] at h;exact h)
  have CD:=Lib.hid (fun W=>cod_n op W)
  have CL:=Lib.hid (fun W=>cls_is hc W)
  have RX:=Lib.hid (fun W=>erex_n (wd == 64) 0 dst false W)
  have rl:=rexL_length (wd == 64) 0 dst false
  have RO:=Lib.hid (rexL_ok (wd == 64) 0 dst false)
  have PT:=Lib.hid (fun W=>put4_n imm W)
  have NO:=Lib.hid (numL_ok imm 4)
  have NL:=Lib.hid (numL_length imm 4)
  have cb:=codI_bd op
  have c0:=cb.1
  have c1:codI op < 16:=cb.2.2 (by rw [hc];decide)
  clear cb
  have DR:=Lib.hid (fun W=>edirect_n (codI op) dst ⟨c0,c1⟩ hd W)
  have ob:=opI_bd (k:=192) (r:=codI op) (m:=dst) (.inl rfl)
  clear hm hw hd hs hb hc
  generalize opI 192 (codI op) dst=d at *
  generalize codI op=c at *
  generalize numL imm 4=nl at *
  generalize rexL (wd == 64) 0 dst false=rl0 at *
  unfold RetX
  go_enter Tryd.func10,Tryd.ntmps10
  go_wp2_with fail
  refine (MY.out _).mono ?_
  rintro e w1 ⟨rfl,b1⟩
  have B1:=Lib.hid b1
  clear b1
  obtain ⟨c0_1,c1_1,c2_1,c3_1,c4_1,c5_1,c6_1,c7_1⟩:=xcells B1.out
  go_wp2_with fail
  refine (CD.out _).mono ?_
  rintro e y ⟨rfl,rfl⟩
  go_wp2_with fail
  refine (CL.out _).mono ?_
  rintro e y ⟨rfl,rfl⟩
  go_wp2_with fail
  refine (CL.out _).mono ?_
  rintro e y ⟨rfl,rfl⟩
  go_wp2_with fail
  refine (RX.out _).mono ?_
  rintro e w2 ⟨u2,rfl,o2,b2⟩
  have B2:=Lib.hid (below_call B1.out b2)
  have O2:=Lib.hid (o2.mono (size1 B1.out))
  clear o2 b2
  obtain ⟨c0_2,c1_2,c2_2,c3_2,c4_2,c5_2,c6_2,c7_2⟩:=xcells B2.out
  clear c0_1 c1_1 c2_1 c3_1 c4_1 c5_1 c6_1 c7_1
  go_wp2_with (at_builtin;refine wpList_append_b rfl _ _ rfl (W.heap.size + 1) _ _ rfl (O2.out.below (below_new (Below.refl _ _) _)) _ 1 1 [129] rfl (made_at _ [129] (by intro z hz;simp at hz;omega) (by simp)) (by simp;omega) (Nat.le_trans (size1 B2.out) (by simp)) ?_)
  intro u3 w3 o3 g3
  have B3:=Lib.hid (grown1 (below_new B2.out _) g3 (fun j hj=>O2.out.lt j hj))
  have O3:=Lib.hid o3
  clear o3 g3
  obtain ⟨c0_3,c1_3,c2_3,c3_3,c4_3,c5_3,c6_3,c7_3⟩:=xcells B3.out
  clear c0_2 c1_2 c2_2 c3_2 c4_2 c5_2 c6_2 c7_2
  go_wp2_with fail
  refine (DR.out _).mono ?_
  rintro e y ⟨rfl,rfl⟩
  go_wp2_with (at_builtin;refine wpList_append_b rfl _ _ rfl (W.heap.size + 1) _ _ rfl (O3.out.below (below_new (Below.refl _ _) _)) _ 1 1 [d] rfl (made_at _ [d] (by intro z hz;simp at hz;omega) (by simp)) (by simp;omega) (Nat.le_trans (size1 B3.out) (by simp)) ?_)
  intro u4 w4 o4 g4
  have B4:=Lib.hid (grown1 (below_new B3.out _) g4 (fun j hj=>O3.out.lt j hj))
  have O4:=Lib.hid o4
  clear o4 g4
  obtain ⟨c0_4,c1_4,c2_4,c3_4,c4_4,c5_4,c6_4,c7_4⟩:=xcells B4.out
  clear c0_3 c1_3 c2_3 c3_3 c4_3 c5_3 c6_3 c7_3
  go_wp2_with fail
  refine (PT.out _).mono ?_
  rintro e w5 ⟨u5,rfl,o5,b5⟩
  have B5:=Lib.hid (below_call B4.out b5)
  have K5:=Lib.hid (O4.out.below b5)
  have O5:=Lib.hid (o5.mono (size1 B4.out))
  clear o5 b5
  obtain ⟨c0_5,c1_5,c2_5,c3_5,c4_5,c5_5,c6_5,c7_5⟩:=xcells B5.out
  clear c0_4 c1_4 c2_4 c3_4 c4_4 c5_4 c6_4 c7_4
  obtain ⟨xa5,xc5,rfl,e5⟩:=O5.out.at NO.out
  have E5:=Lib.hid e5
  clear e5
  go_wp2_with (at_builtin;refine wpList_append_b rfl _ _ rfl (W.heap.size + 1) _ _ rfl (K5.out) _ _ _ _ rfl E5.out (by have:=NL.out;simp;omega) (size1 B5.out) ?_)
  intro u6 w6 o6 g6
  have B6:=Lib.hid (grown1 (B5.out) g6 (fun j hj=>K5.out.lt j hj))
  have O6:=Lib.hid o6
  clear o6 g6
  obtain ⟨c0_6,c1_6,c2_6,c3_6,c4_6,c5_6,c6_6,c7_6⟩:=xcells B6.out
  clear c0_5 c1_5 c2_5 c3_5 c4_5 c5_5 c6_5 c7_5
  go_wp2_with fail
  go_ret2
  have hh:Bts W.heap.size w6 u6 (((rl0 ++ [129]) ++ [d]) ++ nl):=by have h:=O6.out.mono (Nat.le_succ _);simpa only [List.append_assoc,List.cons_append,List.nil_append] using h
  exact ⟨_,rfl,hh,below_boxed B6.out⟩
set_option maxHeartbeats 4000000 in
theorem eb_n23 (wd dst src base disp imm cc:Int) (W:World) (hm:mayX ⟨23,wd,dst,src,base,disp,imm,cc⟩=true) (hw:-128 ≤ wd ∧ wd < 128) (hd:0 ≤ dst ∧ dst < 16) (hs:0 ≤ src ∧ src < 16) (hb:0 ≤ base ∧ base < 16):
    Calls Tryd.prog 10 #[.agg #[.int .i8 23,.int .i8 wd,.int .i8 dst,.int .i8 src,.int .i8 base,.int .i64 disp,.int .i64 imm,.int .i8 cc]] W (RetX (rexL (wd == 64) 0 dst false ++ [247,opI 192 3 dst]) 0 W):=by
  have MY:=Lib.hid (fun W=>show Calls Tryd.prog 12 #[.agg #[.int .i8 23,.int .i8 wd,.int .i8 dst,.int .i8 src,.int .i8 base,.int .i64 disp,.int .i64 imm,.int .i8 cc]] W fun e w'=>e=.returned (.bool true) ∧ Below W.heap.size W w' by have h:=emay_n ⟨23,wd,dst,src,base,disp,imm,cc⟩ W hw;rw [hm] at h;exact h)
  have CD:=Lib.hid (fun W=>cod_is (show codI 23=3 by decide) W)
  have CL:=Lib.hid (fun W=>cls_is (show clsI 23=4 by decide) W)
  have RX:=Lib.hid (fun W=>erex_n (wd == 64) 0 dst false W)
  have rl:=rexL_length (wd == 64) 0 dst false
  have RO:=Lib.hid (rexL_ok (wd == 64) 0 dst false)
  have DR:=Lib.hid (fun W=>edirect_n 3 dst (by decide) hd W)
  have ob:=opI_bd (k:=192) (r:=3) (m:=dst) (.inl rfl)
  clear hm hw hd hs hb
  generalize opI 192 3 dst=d at *
  generalize rexL (wd == 64) 0 dst false=rl0 at *
  unfold RetX
  go_enter Tryd.func10,Tryd.ntmps10
  go_wp2_with fail
  refine (MY.out _).mono ?_
  rintro e w1 ⟨rfl,b1⟩
  have B1:=Lib.hid b1
  clear b1
  obtain ⟨c0_1,c1_1,c2_1,c3_1,c4_1,c5_1,c6_1,c7_1⟩:=xcells B1.out
  go_wp2_with fail
  refine (CD.out _).mono ?_
  rintro e y ⟨rfl,rfl⟩
  go_wp2_with fail
  refine (CL.out _).mono ?_
  rintro e y ⟨rfl,rfl⟩
  go_wp2_with fail
  refine (CL.out _).mono ?_
  rintro e y ⟨rfl,rfl⟩
  go_wp2_with fail
  refine (CL.out _).mono ?_
  rintro e y ⟨rfl,rfl⟩
  go_wp2_with fail
  refine (CL.out _).mono ?_
  rintro e y ⟨rfl,rfl⟩
  go_wp2_with fail
  refine (RX.out _).mono ?_
  rintro e w2 ⟨u2,rfl,o2,b2⟩
  have B2:=Lib.hid (below_call B1.out b2)
  have O2:=Lib.hid (o2.mono (size1 B1.out))
  clear o2 b2
  obtain ⟨c0_2,c1_2,c2_2,c3_2,c4_2,c5_2,c6_2,c7_2⟩:=xcells B2.out
  clear c0_1 c1_1 c2_1 c3_1 c4_1 c5_1 c6_1 c7_1
  go_wp2_with fail
  refine (DR.out _).mono ?_
  rintro e y ⟨rfl,rfl⟩
  go_wp2_with (at_builtin;refine wpList_append_b rfl _ _ rfl (W.heap.size + 1) _ _ rfl (O2.out.below (below_new (Below.refl _ _) _)) _ 2 2 [247,d] rfl (made_at _ [247,d] (by intro z hz;simp at hz;omega) (by simp)) (by simp;omega) (Nat.le_trans (size1 B2.out) (by simp)) ?_)
  intro u3 w3 o3 g3
  have B3:=Lib.hid (grown1 (below_new B2.out _) g3 (fun j hj=>O2.out.lt j hj))
  have O3:=Lib.hid o3
  clear o3 g3
  obtain ⟨c0_3,c1_3,c2_3,c3_3,c4_3,c5_3,c6_3,c7_3⟩:=xcells B3.out
  clear c0_2 c1_2 c2_2 c3_2 c4_2 c5_2 c6_2 c7_2
  go_wp2_with fail
  go_ret2
  have hh:Bts W.heap.size w3 u3 (rl0 ++ [247,d]):=by have h:=O3.out.mono (Nat.le_succ _);simpa only [List.append_assoc,List.cons_append,List.nil_append] using h
  exact ⟨_,rfl,hh,below_boxed B3.out⟩
set_option maxHeartbeats 4000000 in
theorem eb_n24 (wd dst src base disp imm cc:Int) (W:World) (hm:mayX ⟨24,wd,dst,src,base,disp,imm,cc⟩=true) (hw:-128 ≤ wd ∧ wd < 128) (hd:0 ≤ dst ∧ dst < 16) (hs:0 ≤ src ∧ src < 16) (hb:0 ≤ base ∧ base < 16):
    Calls Tryd.prog 10 #[.agg #[.int .i8 24,.int .i8 wd,.int .i8 dst,.int .i8 src,.int .i8 base,.int .i64 disp,.int .i64 imm,.int .i8 cc]] W (RetX (rexL (wd == 64) 0 dst false ++ [247,opI 192 6 dst]) 0 W):=by
  have MY:=Lib.hid (fun W=>show Calls Tryd.prog 12 #[.agg #[.int .i8 24,.int .i8 wd,.int .i8 dst,.int .i8 src,.int .i8 base,.int .i64 disp,.int .i64 imm,.int .i8 cc]] W fun e w'=>e=.returned (.bool true) ∧ Below W.heap.size W w' by have h:=emay_n ⟨24,wd,dst,src,base,disp,imm,cc⟩ W hw;rw [hm] at h;exact h)
  have CD:=Lib.hid (fun W=>cod_is (show codI 24=6 by decide) W)
  have CL:=Lib.hid (fun W=>cls_is (show clsI 24=4 by decide) W)
  have RX:=Lib.hid (fun W=>erex_n (wd == 64) 0 dst false W)
  have rl:=rexL_length (wd == 64) 0 dst false
  have RO:=Lib.hid (rexL_ok (wd == 64) 0 dst false)
  have DR:=Lib.hid (fun W=>edirect_n 6 dst (by decide) hd W)
  have ob:=opI_bd (k:=192) (r:=6) (m:=dst) (.inl rfl)
  clear hm hw hd hs hb
  generalize opI 192 6 dst=d at *
  generalize rexL (wd == 64) 0 dst false=rl0 at *
  unfold RetX
  go_enter Tryd.func10,Tryd.ntmps10
  go_wp2_with fail
  refine (MY.out _).mono ?_
  rintro e w1 ⟨rfl,b1⟩
  have B1:=Lib.hid b1
  clear b1
  obtain ⟨c0_1,c1_1,c2_1,c3_1,c4_1,c5_1,c6_1,c7_1⟩:=xcells B1.out
  go_wp2_with fail
  refine (CD.out _).mono ?_
  rintro e y ⟨rfl,rfl⟩
  go_wp2_with fail
  refine (CL.out _).mono ?_
  rintro e y ⟨rfl,rfl⟩
  go_wp2_with fail
  refine (CL.out _).mono ?_
  rintro e y ⟨rfl,rfl⟩
  go_wp2_with fail
  refine (CL.out _).mono ?_
  rintro e y ⟨rfl,rfl⟩
  go_wp2_with fail
  refine (CL.out _).mono ?_
  rintro e y ⟨rfl,rfl⟩
  go_wp2_with fail
  refine (RX.out _).mono ?_
  rintro e w2 ⟨u2,rfl,o2,b2⟩
  have B2:=Lib.hid (below_call B1.out b2)
  have O2:=Lib.hid (o2.mono (size1 B1.out))
  clear o2 b2
  obtain ⟨c0_2,c1_2,c2_2,c3_2,c4_2,c5_2,c6_2,c7_2⟩:=xcells B2.out
  clear c0_1 c1_1 c2_1 c3_1 c4_1 c5_1 c6_1 c7_1
  go_wp2_with fail
  refine (DR.out _).mono ?_
  rintro e y ⟨rfl,rfl⟩
  go_wp2_with (at_builtin;refine wpList_append_b rfl _ _ rfl (W.heap.size + 1) _ _ rfl (O2.out.below (below_new (Below.refl _ _) _)) _ 2 2 [247,d] rfl (made_at _ [247,d] (by intro z hz;simp at hz;omega) (by simp)) (by simp;omega) (Nat.le_trans (size1 B2.out) (by simp)) ?_)
  intro u3 w3 o3 g3
  have B3:=Lib.hid (grown1 (below_new B2.out _) g3 (fun j hj=>O2.out.lt j hj))
  have O3:=Lib.hid o3
  clear o3 g3
  obtain ⟨c0_3,c1_3,c2_3,c3_3,c4_3,c5_3,c6_3,c7_3⟩:=xcells B3.out
  clear c0_2 c1_2 c2_2 c3_2 c4_2 c5_2 c6_2 c7_2
  go_wp2_with fail
  go_ret2
  have hh:Bts W.heap.size w3 u3 (rl0 ++ [247,d]):=by have h:=O3.out.mono (Nat.le_succ _);simpa only [List.append_assoc,List.cons_append,List.nil_append] using h
  exact ⟨_,rfl,hh,below_boxed B3.out⟩
end Go.Proofs.YtjhjpllgoakncaaDoor.Mrm
