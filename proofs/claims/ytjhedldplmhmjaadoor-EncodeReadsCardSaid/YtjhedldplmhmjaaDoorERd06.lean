import Derived.Test.YtjhedldplmhmjaaDoorERd05
import Derived.Deep.LoopGhost
import Derived.Test.YtjhedldplmhmjaaDoorERd03
import Derived.Laws.StructEq
set_option linter.unusedVariables false
set_option linter.unusedSimpArgs false
set_option linter.unnecessarySimpa false
namespace Go.Proofs.YtjhedldplmhmjaaDoor
open Go Go.RowKit
set_option linter.unusedVariables false
set_option linter.unusedSimpArgs false
section
variable {P:Program} {ρ:Operand → Value} {o:Oper} {w:World}
end
section
variable {P:Program} {ops:Array Oper} {Q:Exit → Act → World → Prop} {n:Nat} {a0:Act} {w0 W:World} {B:List EB} {A:List EA} {l:List (Option Value)} {i:Nat} {o:Oper} {fl:Nat → Bool} {a:Act} {w:World}
end
abbrev oU:Option Value:=some undef
abbrev oT:Option Value:=some (.bool true)
abbrev oF:Option Value:=some (.bool false)
def isUndef (v:Value):Bool:=match v with
  | .tuple a=>a.size == 0
  | _=>false
theorem undef_of {v:Value} (h:isUndef v=true):v=undef:=by
  cases v <;> simp [isUndef] at h
  subst h;rfl
def wantP (ops:Array Oper) (n:Nat) (l:List (Option Value)) (o:Oper) (p:Nat):Option Bool:=match o.guard,look ops l o p with
  | some (j,want),some (dj,v)=>(match ops[j]? with
    | some oj=>(match oj.dst with
      | some d=>if d=dj ∧ Nat.blt dj n=true then (match v with | .bool b=>some (b == want) | v=>if isUndef v=true then some false else none) else none
      | none=>none)
    | none=>none)
  | _,_=>none
def okD (o:Oper) (n i:Nat) (B:List EB) (A:List EA):Bool:=match o.dst with
  | some d=>Nat.blt d n && chkX B A i (some d)
  | none=>false
def isU (l:List (Option Value)) (i:Nat):Bool:=match l[i]? with
  | some (some v)=>isUndef v
  | _=>false
def mvd (o:Oper):Option Nat:=match o.op with
  | .move (.tmp d) | .assign (.tmp d)=>some d
  | _=>none
section
variable {P:Program} {ops:Array Oper} {Q:Exit → Act → World → Prop} {n:Nat} {a0:Act} {w0 W:World} {B:List EB} {A:List EA} {l:List (Option Value)} {i:Nat} {o:Oper} {fl:Nat → Bool} {a:Act} {w:World}
theorem Cx.want (c:Cx ops n a0 w0 W B A l i o fl a w) {p:Nat} {r:Bool} (h:wantP ops n l o p=some r):Region.wanted o (yielded ops a.tmps)=r:=by
  unfold wantP at h
  cases hg:o.guard with
  | none=>rw [hg] at h;cases h
  | some q=>
    obtain ⟨j,want⟩:=q
    cases hu:look ops l o p with
    | none=>rw [hg,hu] at h;cases h
    | some q=>
      obtain ⟨dj,v⟩:=q
      rw [hg,hu] at h
      simp only at h
      have hv:=c.u p hu
      cases hj:ops[j]? with
      | none=>rw [hj] at h;cases h
      | some oj=>
        rw [hj] at h
        simp only at h
        cases hd:oj.dst with
        | none=>rw [hd] at h;cases h
        | some d=>
          rw [hd] at h
          simp only at h
          split at h
          · rename_i hlt
            obtain ⟨rfl,hlt⟩:=hlt
            split at h
            · cases h
              exact wanted_of hg hj hd (by rw [c.sz];exact Nat.le_of_ble_eq_true hlt) hv
            · split at h
              · rename_i hx
                cases h
                exact c.wu hg hj hd hlt (hv.trans (undef_of hx))
              · cases h
          · cases h
theorem kno {L:List Oper} (p:Nat) (t:Hops P ops Q n a0 w0 W B A l (i + 1) L) (h:(wantP ops n l o p=some false):=by exact rfl) (h2:(okD o n i B A && isU l i)=true:=by exact rfl):Hops P ops Q n a0 w0 W B A l i (o :: L):=hk (fun c=>by
  rw [Bool.and_eq_true] at h2
  unfold okD isU at h2
  cases hd:o.dst with
  | none=>rw [hd] at h2;cases h2.1
  | some d=>
    rw [hd] at h2
    simp only [Bool.and_eq_true] at h2
    refine c.no (c.want h) hd h2.1.1 ?_ (by rw [hd];exact h2.1.2)
    have h3:=h2.2
    unfold TabO
    cases hl:l[i]? with
    | none=>trivial
    | some q=>
      cases q with
      | none=>trivial
      | some v=>rw [hl] at h3;exact (undef_of h3).symm) t
theorem Cx.vy (c:Cx ops n a0 w0 W B A l i o fl a w) (p:Nat) {v:Value} (hr:(execOp a.eval o).run P w=.ok (.value v) w) (ht:TabO l i v:=by exact rfl) (h:wantP ops n l o p=some true:=by exact rfl) (h2:okD o n i B A=true:=by exact rfl):wpOp P ops Q i (Post w0 W B A l i o fl a) a w:=by
  unfold okD at h2
  cases hd:o.dst with
  | none=>rw [hd] at h2;cases h2
  | some d=>
    rw [hd] at h2
    simp only [Bool.and_eq_true] at h2
    exact c.val (c.want h) hr hd h2.1 ht (by rw [hd];exact h2.2)
theorem Cx.q (c:Cx ops n a0 w0 W B A l i o fl a w) {v:Value} (hr:(execOp a.eval o).run P w=.ok (.value v) w) (hk:okV o n i B A=true:=by exact rfl) (ht:TabO l i v:=by exact rfl):wpOp P ops Q i (Post w0 W B A l i o fl a) a w:=c.v hr hk ht
theorem kmu {L:List Oper} (p:Nat) (t:Hops P ops Q n a0 w0 W B A l (i + 1) L) (h1:okV o n i B A=true:=by exact rfl) (h2:mvd o=(look ops l o p).map (·.1):=by exact rfl) (h3:l[i]?=(look ops l o p).map (fun q=>some q.2):=by exact rfl) (h4:(look ops l o p).isSome=true:=by exact rfl):Hops P ops Q n a0 w0 W B A l i (o :: L):=hk (fun {fl a w} c=>by
  cases hu:look ops l o p with
  | none=>rw [hu] at h4;cases h4
  | some q=>
    obtain ⟨d,v⟩:=q
    rw [hu] at h2 h3
    have hv:=c.u p hu
    have hr:(execOp a.eval o).run P w=.ok (.value v) w:=by
      unfold mvd at h2
      split at h2
      · rename_i d' ho
        cases h2
        exact ex_mv ho hv
      · rename_i d' ho
        cases h2
        exact ex_as ho hv
      · cases h2
    refine c.v hr h1 ?_
    unfold TabO
    rw [h3];rfl) t
end
end Go.Proofs.YtjhedldplmhmjaaDoor
namespace Go.Proofs.YtjhedldplmhmjaaDoor.Mrm
open Go Go.RowKit
set_option linter.unusedVariables false
set_option linter.unusedSimpArgs false
set_option maxRecDepth 100000
theorem mo:Tryd.prog.follows .mixedOrders=true:=by kernel_rfl
theorem xC_one (x:Xi):(xC x).all (·.oneCell')=true:=by kernel_rfl
section
variable {ρ:Operand → Value} {o:Oper} {w:World} {x y:Operand} {g:Nat} {fr:Nat × Nat} {T t u:TypeId} {k:IntKind} {a b:Int}
theorem ldX {X:Xi} (ho:o.op=.load 26 x) (hx:ρ x=.pointer (some ⟨g,0,none⟩)) (hg:w.heap[g]?=some (.cells (xC X) T fr)):(execOp ρ o).run Tryd.prog w=.ok (.value (.agg (xC X))) w:=
  exec_loadR 26 x ho g 0 hx hg (xL X) rfl _ Tryd.underlying26 rfl (by kernel_rfl)
theorem ex_box {v:Value} {c:Array Value} (ho:o.op=.box T x) (hx:ρ x=v) (hc:v.cells=c):(execOp ρ o).run Tryd.prog w=.ok (.value (.pointer (some ⟨w.heap.size,0,none⟩))) (w.alloc (.cells c T)):=by
  subst hc
  simp [execOp,ho,hx,go_sem]
end
set_option maxHeartbeats 1000000 in
theorem eq_x (a b:Xi) (w:World):(Op.equalIn 10000 26 (.agg (xC a)) (.agg (xC b))).run Tryd.prog w=.ok (eqX a b) w:=by
  simp [go_sem]
  unfold eqX
  (repeat' split) <;> simp [*]
theorem lt32 {op:Int} (h:0 ≤ op ∧ op < 32):op=0 ∨ op=1 ∨ op=2 ∨ op=3 ∨ op=4 ∨ op=5 ∨ op=6 ∨ op=7 ∨ op=8 ∨ op=9 ∨ op=10 ∨ op=11 ∨ op=12 ∨ op=13 ∨ op=14 ∨ op=15 ∨ op=16 ∨ op=17 ∨ op=18 ∨ op=19 ∨ op=20 ∨ op=21 ∨ op=22 ∨ op=23 ∨ op=24 ∨ op=25 ∨ op=26 ∨ op=27 ∨ op=28 ∨ op=29 ∨ op=30 ∨ op=31:=by omega
theorem ne32 {op:Int} (h:¬ (0 ≤ op ∧ op < 32)) (k:Int) (hk:0 ≤ k ∧ k < 32):(op == k)=false:=by
  simp only [beq_eq_false_iff_ne]
  rintro rfl
  exact h hk
end Go.Proofs.YtjhedldplmhmjaaDoor.Mrm
namespace Go.Proofs.YtjhedldplmhmjaaDoor.Mrm
open Go Go.RowKit
set_option linter.unusedVariables false
set_option linter.unusedSimpArgs false
set_option maxRecDepth 100000
set_option maxHeartbeats 4000000 in
theorem cls_n (op:Int) (W:World):Calls Tryd.prog 32 #[.int .i8 op] W fun e w'=>e=.returned (.int .i64 (clsI op)) ∧ W=w':=by
  by_cases h:0 ≤ op ∧ op < 32
  · rcases lt32 h with rfl | rfl | rfl | rfl | rfl | rfl | rfl | rfl | rfl | rfl | rfl | rfl | rfl | rfl | rfl | rfl | rfl | rfl | rfl | rfl | rfl | rfl | rfl | rfl | rfl | rfl | rfl | rfl | rfl | rfl | rfl | rfl
    all_goals (
      clear h
      go_enter Tryd.func32,Tryd.ntmps32
      go_wp2
      go_ret
      exact ⟨rfl,rfl⟩)
  · rw [show clsI op=0 from if_neg h]
    have n0:=ne32 h 0 (by decide)
    have n1:=ne32 h 1 (by decide)
    have n2:=ne32 h 2 (by decide)
    have n3:=ne32 h 3 (by decide)
    have n4:=ne32 h 4 (by decide)
    have n5:=ne32 h 5 (by decide)
    have n6:=ne32 h 6 (by decide)
    have n7:=ne32 h 7 (by decide)
    have n8:=ne32 h 8 (by decide)
    have n9:=ne32 h 9 (by decide)
    have n10:=ne32 h 10 (by decide)
    have n11:=ne32 h 11 (by decide)
    have n12:=ne32 h 12 (by decide)
    have n13:=ne32 h 13 (by decide)
    have n14:=ne32 h 14 (by decide)
    have n15:=ne32 h 15 (by decide)
    have n16:=ne32 h 16 (by decide)
    have n17:=ne32 h 17 (by decide)
    have n18:=ne32 h 18 (by decide)
    have n19:=ne32 h 19 (by decide)
    have n20:=ne32 h 20 (by decide)
    have n21:=ne32 h 21 (by decide)
    have n22:=ne32 h 22 (by decide)
    have n23:=ne32 h 23 (by decide)
    have n24:=ne32 h 24 (by decide)
    have n25:=ne32 h 25 (by decide)
    have n26:=ne32 h 26 (by decide)
    have n27:=ne32 h 27 (by decide)
    have n28:=ne32 h 28 (by decide)
    have n29:=ne32 h 29 (by decide)
    have n30:=ne32 h 30 (by decide)
    have n31:=ne32 h 31 (by decide)
    clear h
    go_enter Tryd.func32,Tryd.ntmps32
    go_wp2
    go_ret
    exact ⟨rfl,rfl⟩
set_option maxHeartbeats 4000000 in
theorem cod_n (op:Int) (W:World):Calls Tryd.prog 13 #[.int .i8 op] W fun e w'=>e=.returned (.int .u8 (codI op)) ∧ W=w':=by
  by_cases h:0 ≤ op ∧ op < 32
  · rcases lt32 h with rfl | rfl | rfl | rfl | rfl | rfl | rfl | rfl | rfl | rfl | rfl | rfl | rfl | rfl | rfl | rfl | rfl | rfl | rfl | rfl | rfl | rfl | rfl | rfl | rfl | rfl | rfl | rfl | rfl | rfl | rfl | rfl
    all_goals (
      clear h
      go_enter Tryd.func13,Tryd.ntmps13
      go_wp2
      go_ret
      exact ⟨rfl,rfl⟩)
  · rw [show codI op=0 from if_neg h]
    have n0:=ne32 h 0 (by decide)
    have n1:=ne32 h 1 (by decide)
    have n2:=ne32 h 2 (by decide)
    have n3:=ne32 h 3 (by decide)
    have n4:=ne32 h 4 (by decide)
    have n5:=ne32 h 5 (by decide)
    have n6:=ne32 h 6 (by decide)
    have n7:=ne32 h 7 (by decide)
    have n8:=ne32 h 8 (by decide)
    have n9:=ne32 h 9 (by decide)
    have n10:=ne32 h 10 (by decide)
    have n11:=ne32 h 11 (by decide)
    have n12:=ne32 h 12 (by decide)
    have n13:=ne32 h 13 (by decide)
    have n14:=ne32 h 14 (by decide)
    have n15:=ne32 h 15 (by decide)
    have n16:=ne32 h 16 (by decide)
    have n17:=ne32 h 17 (by decide)
    have n18:=ne32 h 18 (by decide)
    have n19:=ne32 h 19 (by decide)
    have n20:=ne32 h 20 (by decide)
    have n21:=ne32 h 21 (by decide)
    have n22:=ne32 h 22 (by decide)
    have n23:=ne32 h 23 (by decide)
    have n24:=ne32 h 24 (by decide)
    have n25:=ne32 h 25 (by decide)
    have n26:=ne32 h 26 (by decide)
    have n27:=ne32 h 27 (by decide)
    have n28:=ne32 h 28 (by decide)
    have n29:=ne32 h 29 (by decide)
    have n30:=ne32 h 30 (by decide)
    have n31:=ne32 h 31 (by decide)
    clear h
    go_enter Tryd.func13,Tryd.ntmps13
    go_wp2
    go_ret
    exact ⟨rfl,rfl⟩
end Go.Proofs.YtjhedldplmhmjaaDoor.Mrm
namespace Go.Proofs.YtjhedldplmhmjaaDoor.Mrm
open Go Go.RowKit
set_option linter.unusedVariables false
set_option linter.unnecessarySimpa false
set_option linter.unusedSimpArgs false
set_option maxRecDepth 100000
def grpB (base n k:Int):Bool:=
  ((base == 129 && clsI k == 2 && k != 15 && k != 1) || (base == 193 && clsI k == 3) || (base == 211 && clsI k == 4 && k != 23 && k != 24) || (base == 247 && (k == 23 || k == 24 || k == 15))) && codI k == n
def grpG (base n:Int):Nat → Nat → Int
  | _,0=>-1
  | k,m + 1=>if grpB base n k then k else grpG base n (k + 1) m
def grpI (base n:Int):Int:=grpG base n 0 32
theorem grpG_hit {base n:Int} {k m:Nat} (h:grpB base n k=true):grpG base n k (m + 1)=k:=by
  show (if grpB base n k then (k:Int) else _)=_
  rw [h];rfl
theorem grpG_miss {base n:Int} {k m:Nat} (h:grpB base n k=false):grpG base n k (m + 1)=grpG base n (k + 1) m:=by
  show (if grpB base n k then (k:Int) else _)=_
  rw [h];rfl
theorem retI8 {a b:Int} (h:a=b):Ending.returned (.int .i8 a)=.returned (.int .i8 b):=by rw [h]
set_option maxHeartbeats 4000000 in
theorem grp_129 (n:Int) (h0:0 ≤ n) (h7:n < 8) (W:World):Calls Tryd.prog 14 #[.int .i64 129,.int .i8 n] W fun e w'=>e=.returned (.int .i8 (grpI 129 n)) ∧ W=w':=by
  have e1:IntKind.u8.wrap n=n:=by rw [IntKind.wrap_u8];omega
  go_enter Tryd.func14,Tryd.ntmps14
  go_wp2
  go_loopw [5] (fun i wr=>∃ k m:Nat,k + m=32 ∧ i=.int .i8 k ∧ grpI 129 n=grpG 129 n k m ∧ W=wr) (fun i _=>32 - (intOf i).toNat)
  case atStart=>exact ⟨0,32,rfl,rfl,rfl,rfl⟩
  case round=>
    obtain ⟨k,m,hk,rfl,hE,rfl⟩:=hrel
    rcases m with _ | m
    · obtain rfl:k=32:=by omega
      go_wp2_with fail
      go_ret
      exact ⟨rfl,rfl⟩
    · have hk31:k < 32:=by omega
      go_wp2_with fail
      refine (cls_n k _).mono ?_
      rintro e w1 ⟨rfl,rfl⟩
      rcases Bool.eq_false_or_eq_true (clsI (k:Int) == 2) with q2 | q2
      · skip
        rcases Bool.eq_false_or_eq_true ((k:Int) == 15) with qa | qa
        · skip
          have ma:((k:Int) != 15)=false:=by simpa using qa
          have G:=Lib.hid (show grpB 129 n k=false by simp only [grpB,q2,qa,bne];rfl)
          go_wp2_with fail
          go_roundw
          case rel=>exact ⟨k + 1,m,by omega,by go_num,hE.trans (grpG_miss G.out),trivial⟩
          case measure=>simp [intOf];omega
        · skip
          rcases Bool.eq_false_or_eq_true ((k:Int) == 1) with qb | qb
          · skip
            have ma:((k:Int) != 15)=true:=by simpa using qa
            have mb:((k:Int) != 1)=false:=by simpa using qb
            have G:=Lib.hid (show grpB 129 n k=false by simp only [grpB,q2,qa,qb,bne];rfl)
            go_wp2_with fail
            go_roundw
            case rel=>exact ⟨k + 1,m,by omega,by go_num,hE.trans (grpG_miss G.out),trivial⟩
            case measure=>simp [intOf];omega
          · skip
            rcases Bool.eq_false_or_eq_true (codI (k:Int) == n) with qz | qz
            · skip
              have ma:((k:Int) != 15)=true:=by simpa using qa
              have mb:((k:Int) != 1)=true:=by simpa using qb
              have G:=Lib.hid (show grpB 129 n k=true by simp only [grpB,q2,qa,qb,qz,bne];rfl)
              go_wp2_with fail
              refine (cod_n k _).mono ?_
              rintro e w2 ⟨rfl,rfl⟩
              go_wp2_with fail
              go_ret
              exact ⟨retI8 ((grpG_hit G.out).symm.trans hE.symm),rfl⟩
            · skip
              have ma:((k:Int) != 15)=true:=by simpa using qa
              have mb:((k:Int) != 1)=true:=by simpa using qb
              have G:=Lib.hid (show grpB 129 n k=false by simp only [grpB,q2,qa,qb,qz,bne];rfl)
              go_wp2_with fail
              refine (cod_n k _).mono ?_
              rintro e w2 ⟨rfl,rfl⟩
              go_wp2_with fail
              go_roundw
              case rel=>exact ⟨k + 1,m,by omega,by go_num,hE.trans (grpG_miss G.out),trivial⟩
              case measure=>simp [intOf];omega
      · skip
        have G:=Lib.hid (show grpB 129 n k=false by simp only [grpB,q2,bne];rfl)
        go_wp2_with fail
        go_roundw
        case rel=>exact ⟨k + 1,m,by omega,by go_num,hE.trans (grpG_miss G.out),trivial⟩
        case measure=>simp [intOf];omega
set_option maxHeartbeats 4000000 in
theorem grp_193 (n:Int) (h0:0 ≤ n) (h7:n < 8) (W:World):Calls Tryd.prog 14 #[.int .i64 193,.int .i8 n] W fun e w'=>e=.returned (.int .i8 (grpI 193 n)) ∧ W=w':=by
  have e1:IntKind.u8.wrap n=n:=by rw [IntKind.wrap_u8];omega
  go_enter Tryd.func14,Tryd.ntmps14
  go_wp2
  go_loopw [5] (fun i wr=>∃ k m:Nat,k + m=32 ∧ i=.int .i8 k ∧ grpI 193 n=grpG 193 n k m ∧ W=wr) (fun i _=>32 - (intOf i).toNat)
  case atStart=>exact ⟨0,32,rfl,rfl,rfl,rfl⟩
  case round=>
    obtain ⟨k,m,hk,rfl,hE,rfl⟩:=hrel
    rcases m with _ | m
    · obtain rfl:k=32:=by omega
      go_wp2_with fail
      go_ret
      exact ⟨rfl,rfl⟩
    · have hk31:k < 32:=by omega
      go_wp2_with fail
      refine (cls_n k _).mono ?_
      rintro e w1 ⟨rfl,rfl⟩
      rcases Bool.eq_false_or_eq_true (clsI (k:Int) == 3) with q3 | q3
      · skip
        rcases Bool.eq_false_or_eq_true (codI (k:Int) == n) with qz | qz
        · skip
          have G:=Lib.hid (show grpB 193 n k=true by simp only [grpB,q3,qz,bne];rfl)
          go_wp2_with fail
          refine (cod_n k _).mono ?_
          rintro e w2 ⟨rfl,rfl⟩
          go_wp2_with fail
          go_ret
          exact ⟨retI8 ((grpG_hit G.out).symm.trans hE.symm),rfl⟩
        · skip
          have G:=Lib.hid (show grpB 193 n k=false by simp only [grpB,q3,qz,bne];rfl)
          go_wp2_with fail
          refine (cod_n k _).mono ?_
          rintro e w2 ⟨rfl,rfl⟩
          go_wp2_with fail
          go_roundw
          case rel=>exact ⟨k + 1,m,by omega,by go_num,hE.trans (grpG_miss G.out),trivial⟩
          case measure=>simp [intOf];omega
      · skip
        have G:=Lib.hid (show grpB 193 n k=false by simp only [grpB,q3,bne];rfl)
        go_wp2_with fail
        go_roundw
        case rel=>exact ⟨k + 1,m,by omega,by go_num,hE.trans (grpG_miss G.out),trivial⟩
        case measure=>simp [intOf];omega
set_option maxHeartbeats 4000000 in
theorem grp_211 (n:Int) (h0:0 ≤ n) (h7:n < 8) (W:World):Calls Tryd.prog 14 #[.int .i64 211,.int .i8 n] W fun e w'=>e=.returned (.int .i8 (grpI 211 n)) ∧ W=w':=by
  have e1:IntKind.u8.wrap n=n:=by rw [IntKind.wrap_u8];omega
  go_enter Tryd.func14,Tryd.ntmps14
  go_wp2
  go_loopw [5] (fun i wr=>∃ k m:Nat,k + m=32 ∧ i=.int .i8 k ∧ grpI 211 n=grpG 211 n k m ∧ W=wr) (fun i _=>32 - (intOf i).toNat)
  case atStart=>exact ⟨0,32,rfl,rfl,rfl,rfl⟩
  case round=>
    obtain ⟨k,m,hk,rfl,hE,rfl⟩:=hrel
    rcases m with _ | m
    · obtain rfl:k=32:=by omega
      go_wp2_with fail
      go_ret
      exact ⟨rfl,rfl⟩
    · have hk31:k < 32:=by omega
      go_wp2_with fail
      refine (cls_n k _).mono ?_
      rintro e w1 ⟨rfl,rfl⟩
      rcases Bool.eq_false_or_eq_true (clsI (k:Int) == 4) with q4 | q4
      · skip
        rcases Bool.eq_false_or_eq_true ((k:Int) == 23) with qc | qc
        · skip
          have mc:((k:Int) != 23)=false:=by simpa using qc
          have G:=Lib.hid (show grpB 211 n k=false by simp only [grpB,q4,qc,bne];rfl)
          go_wp2_with fail
          go_roundw
          case rel=>exact ⟨k + 1,m,by omega,by go_num,hE.trans (grpG_miss G.out),trivial⟩
          case measure=>simp [intOf];omega
        · skip
          rcases Bool.eq_false_or_eq_true ((k:Int) == 24) with qd | qd
          · skip
            have mc:((k:Int) != 23)=true:=by simpa using qc
            have md:((k:Int) != 24)=false:=by simpa using qd
            have G:=Lib.hid (show grpB 211 n k=false by simp only [grpB,q4,qc,qd,bne];rfl)
            go_wp2_with fail
            go_roundw
            case rel=>exact ⟨k + 1,m,by omega,by go_num,hE.trans (grpG_miss G.out),trivial⟩
            case measure=>simp [intOf];omega
          · skip
            rcases Bool.eq_false_or_eq_true (codI (k:Int) == n) with qz | qz
            · skip
              have mc:((k:Int) != 23)=true:=by simpa using qc
              have md:((k:Int) != 24)=true:=by simpa using qd
              have G:=Lib.hid (show grpB 211 n k=true by simp only [grpB,q4,qc,qd,qz,bne];rfl)
              go_wp2_with fail
              refine (cod_n k _).mono ?_
              rintro e w2 ⟨rfl,rfl⟩
              go_wp2_with fail
              go_ret
              exact ⟨retI8 ((grpG_hit G.out).symm.trans hE.symm),rfl⟩
            · skip
              have mc:((k:Int) != 23)=true:=by simpa using qc
              have md:((k:Int) != 24)=true:=by simpa using qd
              have G:=Lib.hid (show grpB 211 n k=false by simp only [grpB,q4,qc,qd,qz,bne];rfl)
              go_wp2_with fail
              refine (cod_n k _).mono ?_
              rintro e w2 ⟨rfl,rfl⟩
              go_wp2_with fail
              go_roundw
              case rel=>exact ⟨k + 1,m,by omega,by go_num,hE.trans (grpG_miss G.out),trivial⟩
              case measure=>simp [intOf];omega
      · skip
        have G:=Lib.hid (show grpB 211 n k=false by simp only [grpB,q4,bne];rfl)
        go_wp2_with fail
        go_roundw
        case rel=>exact ⟨k + 1,m,by omega,by go_num,hE.trans (grpG_miss G.out),trivial⟩
        case measure=>simp [intOf];omega
set_option maxHeartbeats 4000000 in
theorem grp_247 (n:Int) (h0:0 ≤ n) (h7:n < 8) (W:World):Calls Tryd.prog 14 #[.int .i64 247,.int .i8 n] W fun e w'=>e=.returned (.int .i8 (grpI 247 n)) ∧ W=w':=by
  have e1:IntKind.u8.wrap n=n:=by rw [IntKind.wrap_u8];omega
  go_enter Tryd.func14,Tryd.ntmps14
  go_wp2
  go_loopw [5] (fun i wr=>∃ k m:Nat,k + m=32 ∧ i=.int .i8 k ∧ grpI 247 n=grpG 247 n k m ∧ W=wr) (fun i _=>32 - (intOf i).toNat)
  case atStart=>exact ⟨0,32,rfl,rfl,rfl,rfl⟩
  case round=>
    obtain ⟨k,m,hk,rfl,hE,rfl⟩:=hrel
    rcases m with _ | m
    · obtain rfl:k=32:=by omega
      go_wp2_with fail
      go_ret
      exact ⟨rfl,rfl⟩
    · have hk31:k < 32:=by omega
      go_wp2_with fail
      refine (cls_n k _).mono ?_
      rintro e w1 ⟨rfl,rfl⟩
      rcases Bool.eq_false_or_eq_true ((k:Int) == 23) with qc | qc
      · skip
        rcases Bool.eq_false_or_eq_true (codI (k:Int) == n) with qz | qz
        · skip
          have mc:((k:Int) != 23)=false:=by simpa using qc
          have G:=Lib.hid (show grpB 247 n k=true by simp only [grpB,qc,qz,bne];rfl)
          go_wp2_with fail
          refine (cod_n k _).mono ?_
          rintro e w2 ⟨rfl,rfl⟩
          go_wp2_with fail
          go_ret
          exact ⟨retI8 ((grpG_hit G.out).symm.trans hE.symm),rfl⟩
        · skip
          have mc:((k:Int) != 23)=false:=by simpa using qc
          have G:=Lib.hid (show grpB 247 n k=false by simp only [grpB,qc,qz,bne];rfl)
          go_wp2_with fail
          refine (cod_n k _).mono ?_
          rintro e w2 ⟨rfl,rfl⟩
          go_wp2_with fail
          go_roundw
          case rel=>exact ⟨k + 1,m,by omega,by go_num,hE.trans (grpG_miss G.out),trivial⟩
          case measure=>simp [intOf];omega
      · skip
        rcases Bool.eq_false_or_eq_true ((k:Int) == 24) with qd | qd
        · skip
          rcases Bool.eq_false_or_eq_true (codI (k:Int) == n) with qz | qz
          · skip
            have mc:((k:Int) != 23)=true:=by simpa using qc
            have md:((k:Int) != 24)=false:=by simpa using qd
            have G:=Lib.hid (show grpB 247 n k=true by simp only [grpB,qc,qd,qz,bne];rfl)
            go_wp2_with fail
            refine (cod_n k _).mono ?_
            rintro e w2 ⟨rfl,rfl⟩
            go_wp2_with fail
            go_ret
            exact ⟨retI8 ((grpG_hit G.out).symm.trans hE.symm),rfl⟩
          · skip
            have mc:((k:Int) != 23)=true:=by simpa using qc
            have md:((k:Int) != 24)=false:=by simpa using qd
            have G:=Lib.hid (show grpB 247 n k=false by simp only [grpB,qc,qd,qz,bne];rfl)
            go_wp2_with fail
            refine (cod_n k _).mono ?_
            rintro e w2 ⟨rfl,rfl⟩
            go_wp2_with fail
            go_roundw
            case rel=>exact ⟨k + 1,m,by omega,by go_num,hE.trans (grpG_miss G.out),trivial⟩
            case measure=>simp [intOf];omega
        · skip
          rcases Bool.eq_false_or_eq_true ((k:Int) == 15) with qa | qa
          · skip
            rcases Bool.eq_false_or_eq_true (codI (k:Int) == n) with qz | qz
            · skip
              have mc:((k:Int) != 23)=true:=by simpa using qc
              have md:((k:Int) != 24)=true:=by simpa using qd
              have ma:((k:Int) != 15)=false:=by simpa using qa
              have G:=Lib.hid (show grpB 247 n k=true by simp only [grpB,qc,qd,qa,qz,bne];rfl)
              go_wp2_with fail
              refine (cod_n k _).mono ?_
              rintro e w2 ⟨rfl,rfl⟩
              go_wp2_with fail
              go_ret
              exact ⟨retI8 ((grpG_hit G.out).symm.trans hE.symm),rfl⟩
            · skip
              have mc:((k:Int) != 23)=true:=by simpa using qc
              have md:((k:Int) != 24)=true:=by simpa using qd
              have ma:((k:Int) != 15)=false:=by simpa using qa
              have G:=Lib.hid (show grpB 247 n k=false by simp only [grpB,qc,qd,qa,qz,bne];rfl)
              go_wp2_with fail
              refine (cod_n k _).mono ?_
              rintro e w2 ⟨rfl,rfl⟩
              go_wp2_with fail
              go_roundw
              case rel=>exact ⟨k + 1,m,by omega,by go_num,hE.trans (grpG_miss G.out),trivial⟩
              case measure=>simp [intOf];omega
          · skip
            have mc:((k:Int) != 23)=true:=by simpa using qc
            have md:((k:Int) != 24)=true:=by simpa using qd
            have ma:((k:Int) != 15)=true:=by simpa using qa
            have G:=Lib.hid (show grpB 247 n k=false by simp only [grpB,qc,qd,qa,bne];rfl)
            go_wp2_with fail
            go_roundw
            case rel=>exact ⟨k + 1,m,by omega,by go_num,hE.trans (grpG_miss G.out),trivial⟩
            case measure=>simp [intOf];omega
end Go.Proofs.YtjhedldplmhmjaaDoor.Mrm
