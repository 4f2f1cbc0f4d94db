import Derived.Test.YtigliofiojkhcaaGreatMRn23
import Derived.Test.YtigliofiojkhcaaGreatMRn17
import Derived.OwnWalkIn
import Derived.RangeFuncBox
import Derived.RangeFuncNested
import Derived.RangeFuncBound
import Derived.RangeFuncCalls
import Derived.Shelf.RegionOpen
import Derived.Test.YtigliofiojkhcaaGreatMRn22
set_option linter.unusedVariables false
set_option linter.unusedSimpArgs false
set_option linter.unnecessarySimpa false
namespace Go.Proofs.YtigliofiojkhcaaGreat.Mdl
open Go.RowKit Go.Maps Ins Trc
set_option linter.unusedVariables false
set_option linter.unusedSimpArgs false
set_option maxRecDepth 100000
end Go.Proofs.YtigliofiojkhcaaGreat.Mdl
namespace Go.Proofs.YtigliofiojkhcaaGreat.Mdl
open Go.RowKit Go.Shelf
set_option linter.unusedVariables false
set_option maxRecDepth 100000
section
variable {P:Program} {l n:Nat} {ops:Array Oper} {Q:Exit → Act → World → Prop} {rest:List Oper} {o:Oper} {a:Act} {w:World}
theorem in_of_upon {Q':Exit → Act → World → Prop} {next:Act → World → Prop} (hq:∀ a w,¬ Q .outgrown a w) (hp:∀ c a w,Q' (.panic c) a w → Q (.panic c) a w) (ho:∀ a w,Q' .outgrown a w → Q .outgrown a w):
    ∀ r,o.upon P a next Q' r → o.uponIn (Fence.wide.inRound l) n P a next Q r:=by
  intro r h
  cases r with
  | ok x w'=>
    cases x with
    | value v=>exact h
    | skip=>exact h
    | defer d=>exact h
    | enter f args=>
      refine ⟨fun _=>by simp [Fence.wide] at *,?_⟩
      refine (callsIn_wide (n:=n - 1)).2 (Calls.mono h ?_)
      rintro e w2 h2
      cases e with
      | returned v=>exact h2
      | panicked chain=>exact hp _ _ _ h2
      | outgrown=>
        obtain ⟨a,w,h3⟩:=h2
        exact absurd (ho _ _ h3) (hq _ _)
    | row row args=>
      refine ⟨fun _=>by simp [Fence.wide] at *,fun c cs _=>?_⟩
      obtain ⟨v,w',r,s⟩:=h c cs
      exact ⟨v,w',r,(stepsIn_wide).2 s⟩
    | _=>exact h.elim
  | halt x w'=>
    cases x with
    | panic v=>exact hp _ _ _ h
    | _=>exact h.elim
theorem in_of_list {Q':Exit → Act → World → Prop} (hq:∀ a w,¬ Q .outgrown a w) (ho:∀ a w,Q' .outgrown a w → Q .outgrown a w) (hp:∀ c a w,Q' (.panic c) a w → Q (.panic c) a w) (hn:∀ a w,Q' .normal a w → Q .normal a w):
    ∀ (rest:List Oper),(∀ o ∈ rest,∀ c,o.op ≠ .defer c) → ∀ a w,wpList P ops Q' rest a w → wpListIn (Fence.wide.inRound l) n P ops Q rest a w
  | [],_,a,w,h=>hn a w h
  | o :: rest,hd,a,w,h=>by
    unfold wpListIn
    unfold wpList at h
    by_cases hw:Region.wanted o (yielded ops a.tmps)=true
    · rw [if_pos hw] at h ⊢
      rcases h with h | h
      · refine ⟨fun _ _=>trivial,?_⟩
        rw [Oper.semAt_plain _ _ _ (hd o List.mem_cons_self)]
        have h2:=in_of_upon (l:=l) (n:=n) (Q:=Q) (Q':=Q') hq hp ho _ h
        revert h2
        generalize (execOp a.eval o).run P w=r
        intro h2
        have key:∀ (nx nx':Act → World → Prop),(∀ a w,nx a w → nx' a w) → ∀ r,o.uponIn (Fence.wide.inRound l) n P a nx Q r → o.uponIn (Fence.wide.inRound l) n P a nx' Q r:=by
          intro nx nx' hx r h
          cases r with
          | ok x w'=>
            cases x with
            | value v=>exact hx _ _ h
            | skip=>exact hx _ _ h
            | defer d=>exact hx _ _ h
            | enter f args=>
              refine ⟨h.1,?_⟩
              refine (callsIn_wide (n:=n - 1)).2 (Calls.mono ((callsIn_wide (n:=n - 1)).1 h.2) ?_)
              rintro e w2 h2
              cases e with
              | returned v=>exact hx _ _ h2
              | panicked chain=>exact h2
              | outgrown=>exact h2
            | row row args=>exact ⟨h.1,RowsIn.mono h.2 (fun v w' h=>hx _ _ h)⟩
            | round l f tmps assign body=>
              refine ⟨h.1,RoundIn.mono h.2 ?_⟩
              rintro e w2 h2
              cases e with
              | returned v=>exact hx _ _ h2
              | panicked chain=>exact h2
              | outgrown=>exact h2
            | _=>exact h
          | halt x w'=>
            cases x with
            | panic v=>exact h
            | _=>exact h
        exact key _ _ (fun a w h=>in_of_list hq ho hp hn rest (fun o ho=>hd o (List.mem_cons_of_mem _ ho)) a w h) _ h2
      · obtain ⟨_,a,w,h⟩:=h
        exact absurd (ho a w h) (hq a w)
    · rw [if_neg hw] at h ⊢
      exact ⟨fun _ _=>trivial,in_of_list hq ho hp hn rest (fun o ho=>hd o (List.mem_cons_of_mem _ ho)) _ _ h⟩
def isDefer:Op → Bool
  | .defer _=>true
  | _=>false
theorem noDefer {ls:List Oper} (h:ls.all (fun o=>!isDefer o.op)=true):∀ o ∈ ls,∀ c,o.op ≠ .defer c:=fun o ho c e=>by
  have:=List.all_eq_true.1 h o ho
  rw [e] at this
  simp [isDefer] at this
theorem in_region {id:Nat} {ls:List Oper} (hd:ls.all (fun o=>!isDefer o.op)=true) (hq:∀ a w,¬ Q .outgrown a w)
    (h:∀ K:Act → World → Prop,(∀ a w,Q .normal a w → K a w) → wpList P ls.toArray (Exit.then K (fun _ _ _=>False)) ls a w):(Code.region id ls.toArray false).wpIn (Fence.wide.inRound l) n P Q a w:=by
  refine wpIn_region_lit ?_
  exact in_of_list (Q':=Exit.then (fun a w=>Q .normal a w) (fun _ _ _=>False)) (fun a w h=>hq a w h) (fun a w h=>h.elim) (fun c a w h=>h.elim) (fun a w h=>h) _ (noDefer hd) a w (h _ (fun _ _ h=>h))
end
end Go.Proofs.YtigliofiojkhcaaGreat.Mdl
namespace Go.Proofs.YtigliofiojkhcaaGreat.Mdl
open Go.RowKit Go.Maps Ins Trc
set_option linter.unusedVariables false
set_option linter.unusedSimpArgs false
set_option maxRecDepth 100000
def cntP (l:List Int) (i:Nat):Int:=(l.count (i:Int):Nat)
theorem cntP_app (l:List Int) (x:Int) (i:Nat):cntP (l ++ [x]) i=cntP l i + (if (i:Int)=x then 1 else 0):=by
  unfold cntP
  rw [List.count_append,List.count_singleton]
  by_cases h:(i:Int)=x
  · rw [if_pos h,h];simp
  · rw [if_neg h]
    have:(x == (i:Int))=false:=by simpa using fun e=>h e.symm
    simp [this]
theorem cntP_le (l:List Int) (i:Nat):0 ≤ cntP l i ∧ cntP l i ≤ l.length:=by
  unfold cntP
  have:=List.count_le_length (a:=(i:Int)) (l:=l)
  omega
theorem ats_len (E:Env) (D:Pl) (k:Nat):(ats E D k).length=k:=by simp [ats]
theorem info_intV:(Tryz.prog.info? 3).map (·.size)=some 1:=by kernel_rfl
theorem info_intM:(Tryz.prog.info? 3).map (fun i=>(i.zero,i.size,i.bytes))=some (some (.int .i64 0),1,8):=by kernel_rfl
theorem itsV_fuel (E:Env) (D:Pl):∀ k:Nat,(its E D k).fuel=D.fuel - k
  | 0=>by show D.fuel=D.fuel - (0:Nat);omega
  | k + 1=>by
    show ((its E D k).step E.kf (E.x (its E D k).ix)).fuel=_
    rw [step_fuel,itsV_fuel E D k];omega
theorem rowIs_own {β:Type} (B V n:Nat) (t:TypeId) (f:β → Nat → Value):OwnFrom B (fun (s:β) W=>W.rowIs V t n (f s)):=fun s w w' row h g hr=>by
  obtain ⟨cur,e1,e2,e3⟩:=id h
  exact h.of_block (g.block V h.lt (fun e=>by
    obtain ⟨_,o,ho,hc⟩:=hr V e.symm
    rw [e1] at ho
    injection ho with ho
    subst ho
    simp [Obj.isCells] at hc))
theorem rowIs_turn {τ:TypeId → Bool} {β V n:Nat} {t:TypeId} {f:Nat → Value} {A B:World} (h:A.rowIs V t n f) (k:TurnT τ β A B) (hn:τ t=false):B.rowIs V t n f:=by
  obtain ⟨cur,e1,e2,e3⟩:=id h
  exact h.of_block ((Turn.row k e1 hn).trans e1.symm)
theorem wpList_store_row1V {P:Program} {ops:Array Oper} {rest:List Oper} {o:Oper} {a:Act} {w:World} {Q:Exit → Act → World → Prop} (hgd:o.guard=none) (ty:TypeId) (x y:Operand) (ho:o.op=.store ty x y)
    (g i:Nat) (v:Value) (hx:a.eval x=.pointer (some ⟨g,i,none⟩)) (hy:a.eval y=v) (hv:v.cells=#[v]) (h1:v.oneCell'=true)
    {t:TypeId} {n:Nat} {f:Nat → Value} (hr:w.rowIs g t n f) (hi:(P.info? ty).map (·.size)=some 1) (hlt:i < n)
    (h:∀ w',w'.rowIs g t n (fun j=>if j=i then v else f j) → Trn [g] w w' → wpList P ops Q rest (a.put o.dst undef) w'):wpList P ops Q (o :: rest) a w:=by
  obtain ⟨cur,e1,e2,e3⟩:=id hr
  refine wpList_store_cell hgd ty x y ho g i v hx hy hv h1 t cur e1 hi (by omega) (fun w' s=>h w' ?_ ⟨s.os,s.tape,s.output,by rw [s.size];exact Nat.le_refl _,fun k hk hne=>s.other k (by simpa using hne)⟩)
  refine ⟨_,s.row,by simp [e2],fun j hj=>?_⟩
  rw [Array.getElem?_setIfInBounds]
  by_cases e:i=j
  · subst e;rw [if_pos rfl,if_pos (by omega)];show some v=some (if i=i then v else f i);rw [if_pos rfl]
  · rw [if_neg e];show cur[j]?=some (if j=i then v else f j);rw [if_neg (Ne.symm e)];exact e3 j hj
theorem keepT_trn {σ:TypeId → Bool} {G:List Nat} {w w':World} (t:Trn G w w') (h:∀ j ∈ G,∃ c ty fr,w.heap[j]?=some (.cells c ty fr) ∧ σ ty=false):KeepT σ w w':=⟨t.size,fun k o hk ho=>t.row hk (fun hg=>by
  obtain ⟨c,ty,fr,h1,h2⟩:=h k hg
  rw [hk] at h1
  injection h1 with h1
  subst h1
  change σ ty=true at ho
  rw [h2] at ho;cases ho)⟩
theorem keepsFrom_trn {G:List Nat} {B:Nat} {w w':World} (t:Trn G w w') (h:∀ j ∈ G,∃ c ty fr,w.heap[j]?=some (.cells c ty fr)):KeepsFrom B w w':=⟨t.size,fun k o _ hk ho=>t.row hk (fun hg=>by
  obtain ⟨c,ty,fr,h1⟩:=h k hg
  rw [hk] at h1
  injection h1 with h1
  subst h1
  simp [Obj.isCells] at ho)⟩
theorem plain_env {E:Env} {x:Nat → In} {plen cb cl m:Nat} {cf:Nat → Int} {fuel:Int} {zs:List Int} (el:E.pl=plen) (ex:E.x=x) (hk:E.kf=fun _=>0) (F:Fine E) (R:Runs E (ini cb cl cf fuel zs)) (hm:Done E (ini cb cl cf fuel zs) m):
    Fine (env x plen) ∧ Runs (env x plen) (ini 0 cl cf fuel zs) ∧ Done (env x plen) (ini 0 cl cf fuel zs) m ∧ ats E (ini cb cl cf fuel zs) m=ats (env x plen) (ini 0 cl cf fuel zs) m:=by
  subst el ex
  rw [ini_cb] at hm
  refine ⟨⟨Nat.le_refl _,F.len,F.may,F.ok,F.jumps,F.into,F.on⟩,⟨R.lo,R.hi,R.few,R.fuel⟩,done_env hk _ cb m hm,?_⟩
  unfold ats
  refine List.map_congr_left (fun j _=>?_)
  show (its E ((ini 0 cl cf fuel zs).cb cb) j).at_=_
  rw [its_env hk];rfl
def VisIs (W:World) (x:Nat → In) (plen cl:Nat) (cf:Nat → Int) (fuel:Int) (zs:List Int) (e:Ending) (w':World):Prop:=
  ∃ (m V:Nat),Fine (env x plen) ∧ Runs (env x plen) (ini 0 cl cf fuel zs) ∧ Done (env x plen) (ini 0 cl cf fuel zs) m ∧ e=.returned (.slice (some ⟨V,0,none⟩) plen plen) ∧
    w'.rowIs V 3 plen (fun i=>.int .i64 (cntP (ats (env x plen) (ini 0 cl cf fuel zs) m) i)) ∧ W.heap.size ≤ V ∧ Below W.heap.size W w'
set_option maxHeartbeats 8000000 in
theorem visits_ok (c:Int) (b o plen pcap:Nat) (x:Nat → In) (ca:Option Addr) (cl cc:Nat) (cf:Nat → Int) (aa:Option Addr) (al ac tk:Nat) (zs:List Int) (fuel:Int) (W:World) (hI:Insts W (some ⟨b,o,none⟩) plen pcap x) (hS:Src W ca cl cc cf) (hA:WordsAt W aa al ac zs)
    (hchk:(checkI c plen x).2=0) (hlen:(cl:Int)=c) (f0:0 ≤ fuel) (f1:fuel ≤ 10000) (htk:min (al:Int) fuel=(tk:Int)) (hal:al ≤ 1000) (hz:∀ z ∈ zs,0 ≤ z ∧ z < 18446744073709551616):
    Calls Tryz.prog 9 #[.agg #[.int .i64 c,.slice (some ⟨b,o,none⟩) plen pcap],.slice ca cl cc,.slice aa al ac,.int .i64 fuel] W (VisIs W x plen cl cf fuel (zs.take tk)):=by
  obtain ⟨h1,h64,_⟩:=ends_facts hchk
  have hc:=check_c hchk
  have htl:tk ≤ al:=by omega
  have ST:=Lib.hid (fun w (h:Below W.heap.size W w)=>start_ok c b o plen pcap x ca cl cc cf aa al ac tk zs fuel w (hI.below h) (hS.below h) (hA.below h) hchk hlen (by omega) f0 f1 ⟨h1,h64⟩ htk hal htl hz)
  have FI:=Lib.hid (fun (E:Env) e1 e2 e3=>fine_env hI hchk (E:=E) e1 e2 e3)
  have RU:=Lib.hid (fun (E:Env) (h:1 ≤ E.pl) cb=>ini_runs E cb cl cf fuel (zs.take tk) h f0 f1)
  clear hI hS hA hchk hlen hz htk
  generalize zs.take tk=ys at *
  have bx0:=below_new (Below.refl W.heap.size W) (.cells #[.int .i64 c,.slice (some ⟨b,o,none⟩) plen pcap] 24)
  have rz0:=heap_last W (.cells #[.int .i64 c,.slice (some ⟨b,o,none⟩) plen pcap] 24) _ rfl
  have hmf:∀ (fn:Fn) (first cap:Array Value) (w:World),(Instr.makeFunc fn first cap).run Tryz.prog w=.ok (.func fn first cap) w:=fun _ _ _ _=>rfl
  refine (callsIn_wide (n:=3)).1 (callsIn_of_wp_marks Tryz.func9 rfl trivial ?_ rfl)
  simp only [Tryz.ntmps9,List.size_toArray,List.length_cons,List.length_nil,Nat.reduceAdd,Nat.reduceSub,Array.replicate_succ,Array.replicate_zero,List.push_toArray,List.append_toArray,List.nil_append,List.cons_append]
  refine (wpIn_wide (n:=3)).2 ?_
  go_wp2_with fail
  generalize W.alloc (.cells #[.int .i64 c,.slice (some ⟨b,o,none⟩) plen pcap] 24)=w0 at *
  refine (ST.out _ bx0).mono ?_
  rintro e w1 ⟨E,cb,rfl,eb,ex,el,ec,ek,b1,R⟩
  have F:=FI.out E ex el ec
  have RR:=RU.out E (by omega) cb
  have rz1:=brow b1 rz0
  have bx1:=bx0.trans (b1.mono bx0.size)
  have hb:W.heap.size ≤ E.β:=by rw [eb];exact bx0.size
  have hp1:w1.cell? ⟨W.heap.size,1,none⟩=some (.slice (some ⟨b,o,none⟩) plen pcap):=by simp only [World.cell?,rz1];rfl
  have l1:=lt_of_cell hp1
  have hcap:=Lib.hid ec
  have hmk:∀ w,(Instr.makeSlice 37 (.int .i64 (plen:Int)) (.int .i64 (plen:Int))).run Tryz.prog w=.ok (.slice (some ⟨w.heap.size,0,none⟩) plen plen) (w.alloc (.cells (madeCells #[.int .i64 0] plen) 3)):=fun w=>run_make_row' (P:=Tryz.prog) 37 3 (.int .i64 0) 8 Tryz.underlying37 info_intM rfl .i64 .i64 plen (by omega) (by omega) w
  have hz1:=bx1.size
  have R0:=Lib.hid (World.rowIs_made w1 (.int .i64 0) plen 3)
  have Z1:=below_new (Below.refl w1.heap.size w1) (.cells (madeCells #[Value.int .i64 0] plen) 3)
  have Z2:=below_new Z1 (.cells #[.slice (some ⟨w1.heap.size,0,none⟩) plen plen] 37)
  have q1:=heap_last (w1.alloc (.cells (madeCells #[Value.int .i64 0] plen) 3)) (.cells #[.slice (some ⟨w1.heap.size,0,none⟩) plen plen] 37) (w1.heap.size + 1) (by simp)
  have R1:=Lib.hid (R0.out.of_block (heap_past (w1.alloc (.cells (madeCells #[Value.int .i64 0] plen) 3)) (.cells #[.slice (some ⟨w1.heap.size,0,none⟩) plen plen] 37) w1.heap.size (by simp)))
  have bx2:=bx1.trans (Z2.mono bx1.size)
  have SEQ:=Lib.hid (run_seq E F (ini cb cl cf fuel ys) RR rfl 2 w1 R)
  have hB:=Lib.hid Z2
  clear ST FI RU rz0 bx0 b1 eb ec rz1 R0 Z1 R bx1
  go_wp2_with fail
  generalize (w1.alloc (.cells (madeCells #[Value.int .i64 0] plen) 3)).alloc (.cells #[.slice (some ⟨w1.heap.size,0,none⟩) plen plen] 37)=w2 at *
  have hsz2:=bx2.size
  have hsz1:=hz1
  generalize hV:w1.heap.size=V at *
  clear hmk hp1 l1
  refine (wpIn_wide (n:=3)).1 ?_
  refine range_T (by decide) (gf:=15) (pa:=#[.pointer (some ⟨E.g,0,none⟩)]) (lb:=#[]) rfl (enters_of Tryz.func15 (by kernel_rfl) rfl) SEQ.out (by rw [hV];exact hB.out) (fun _=>rfl)
    (fun pre w=>Below W.heap.size W w ∧ w.heap[V + 1]?=some (.cells #[.slice (some ⟨V,0,none⟩) plen plen] 37 (0,0)) ∧ w.rowIs V 3 plen (fun i=>.int .i64 (cntP pre i))) (fun _ _ _=>False)
    (OwnFrom.and (ownFrom_below (Nat.le_refl _) hsz2) (OwnFrom.and (row_own _ _ _ _) (rowIs_own _ _ _ _ (fun pre i=>.int .i64 (cntP pre i))))) (Yr.own E _ _) (fun _ _ _ _ _ h _ _=>h)
    (fun _ A B h t=>⟨TurnT.below h.1 t hb (Nat.le_refl _),Turn.row t h.2.1 (by decide),rowIs_turn h.2.2 t (by decide)⟩) (fun _ _ _ _ h _=>h) (Sr.own E _ _) (Spr.own E _ _) ⟨bx2,q1,R1.out.congr (fun i _=>rfl)⟩ ?a1 ?assign ?body ?done ?stop
  case assign=>
    intro l x W K hK
    refine in_region (by decide) (fun _ _ h=>h) ?_
    intro K2 hK2
    go_wp2_with fail
    exact hK
  case body=>
    rintro l pre x9 W9 ⟨i1,i2,i3⟩ ⟨k,y1,y2,rfl,rfl,y5⟩
    obtain ⟨ix,ie⟩:=(RR.its F k y1).ix
    have hlen:=ats_len E (ini cb cl cf fuel ys) k
    have hfu:k ≤ 10000:=by
      have:=itsV_fuel E (ini cb cl cf fuel ys) k
      have h2:(ini cb cl cf fuel ys).fuel=fuel:=rfl
      omega
    rw [el] at ix
    generalize hix:(its E (ini cb cl cf fuel ys) k).ix=j at *
    rw [ie]
    have hc:=i3.cell (i:=j) ix
    have hcn:=cntP_le (ats E (ini cb cl cf fuel ys) k) j
    rw [hlen] at hcn
    have hb9:W9.cell? ⟨V + 1,0,none⟩=some (.slice (some ⟨V,0,none⟩) plen plen):=by simp only [World.cell?,i2];rfl
    generalize hpre:ats E (ini cb cl cf fuel ys) k=pre at *
    have I3:=Lib.hid i3
    have I2:=Lib.hid i2
    have I1:=Lib.hid i1
    clear i3 i2 i1 hpre hix ie y1 y2 y5 F RR SEQ hB R1 q1 bx2 hlen hcap
    refine wpIn_block ?_
    refine in_region (by decide) (fun _ _ h=>h) ?_
    intro K hK
    go_wp2_with (with_reducible refine (halt_store 3 _ _ rfl ?_))
    refine ⟨?_,trivial⟩
    refine wpList_store_row1V rfl 3 _ _ rfl V j (.int .i64 (cntP pre j + 1)) rfl rfl rfl rfl I3.out info_intV ix ?_
    intro w4 r4 t4
    have hty:∃ c fr,W9.heap[V]?=some (.cells c 3 fr):=by
      obtain ⟨cur,e1,_,_⟩:=I3.out
      exact ⟨_,_,e1⟩
    obtain ⟨c4,fr4,hty⟩:=hty
    have FO:=Lib.hid (show KeepsFrom w2.heap.size W9 w4 ∧ KeepT σM W9 w4 ∧ (Below W.heap.size W w4 ∧ w4.heap[V + 1]?=some (.cells #[.slice (some ⟨V,0,none⟩) plen plen] 37 (0,0)) ∧ w4.rowIs V 3 plen (fun i=>.int .i64 (cntP (pre ++ [(j:Int)]) i))) from
      ⟨keepsFrom_trn t4 (fun q hq=>by rw [List.mem_singleton] at hq;subst hq;exact ⟨_,_,_,hty⟩),keepT_trn t4 (fun q hq=>by rw [List.mem_singleton] at hq;subst hq;exact ⟨_,_,_,hty,by decide⟩),
        below_trn I1.out t4 hsz1,t4.row I2.out (by simp),r4.congr (fun i hi=>by
          show (if i=j then Value.int .i64 (cntP pre j + 1) else .int .i64 (cntP pre i))=_
          rw [cntP_app]
          by_cases e:i=j
          · subst e;rw [if_pos rfl,if_pos rfl]
          · rw [if_neg e,if_neg (by omega)];rw [Int.add_zero])⟩)
    exact hK _ _ FO.out
  case stop=>
    rintro D c pre W _ _ h _
    exact h.elim
  case done=>
    rintro D xs W9 hD ⟨m,hm,rfl,R9⟩ ⟨b9,r9,v9⟩ hK
    clear SEQ hB R1 q1 bx2
    have hc9:W9.cell? ⟨V + 1,0,none⟩=some (.slice (some ⟨V,0,none⟩) plen plen):=by simp only [World.cell?,r9];rfl
    have V9:=Lib.hid v9
    have FO:=Lib.hid (fun w' (k:Trn [D] W9 w') (hno:∃ o,W9.heap[D]?=some o ∧ o.isCells=false)=>show VisIs W x plen cl cf fuel ys (.returned (.slice (some ⟨V,0,none⟩) plen plen)) w' from by
      obtain ⟨F9,R9',D9,A9⟩:=plain_env el ex ek F RR hm
      refine ⟨m,V,F9,R9',D9,rfl,?_,hsz1,below_trn b9 k (by omega)⟩
      rw [← A9]
      obtain ⟨cur,e1,_,_⟩:=V9.out
      exact V9.out.of_block (k.block V V9.out.lt (fun hq=>by
        rw [List.mem_singleton] at hq;subst hq
        obtain ⟨o,ho,hc⟩:=hno
        rw [e1] at ho
        injection ho with ho
        subst ho
        simp [Obj.isCells] at hc)))
    clear R9 v9 b9 r9 F RR hm
    go_wp2_with fail
    exact ⟨by simp,.inl ⟨_,_,rfl,run_takeDeferred hK,_,res_t rfl rfl,FO.out _ ⟨rfl,rfl,rfl,by simp [World.putObj],fun k _ hn=>World.putObj_heap_other (by simpa using hn)⟩ ⟨_,hK,rfl⟩⟩⟩
end Go.Proofs.YtigliofiojkhcaaGreat.Mdl
namespace Go.Proofs.YtigliofiojkhcaaGreat.Mdl
open Go.RowKit Go.Maps Ins Trc
set_option linter.unusedVariables false
set_option linter.unusedSimpArgs false
set_option maxRecDepth 100000
end Go.Proofs.YtigliofiojkhcaaGreat.Mdl
namespace Go.Proofs.YtigliofiojkhcaaGreat.Mdl
open Go.RowKit Go.Shelf
set_option linter.unusedVariables false
set_option maxRecDepth 100000
section
variable {P:Program} {τ σ:TypeId → Bool} {β n:Nat} {α:Type}
structure TurnG (τ:TypeId → Bool) (β γ:Nat) (A B:World):Prop where
  os:B.os=A.os
  tape:B.tape=A.tape
  output:B.output=A.output
  size:A.heap.size ≤ B.heap.size
  same:∀ (k:Nat) (o:Obj),A.heap[k]?=some o → k < γ → (k < β ∨ isT τ o=false) → B.heap[k]?=some o
def AbG (τ:TypeId → Bool) (β γ:Nat) (J:List α → World → Prop):Prop:=∀ s A B,J s A → TurnG τ β γ A B → J s B
theorem Book.turnG {l D γ:Nat} {rec:Loop} {A B:World} (h:Book l D rec A) (t:TurnG τ β γ A B) (hl:l < γ) (hD:D < γ):Book l D rec B:=⟨t.same _ _ h.loop hl (.inr rfl),t.same _ _ h.defers hD (.inr rfl)⟩
theorem TurnG.row {γ:Nat} {A B:World} (t:TurnG τ β γ A B) {g:Nat} {c:Array Value} {ty:TypeId} {fr:Nat × Nat} (h:A.heap[g]?=some (.cells c ty fr)) (hg:g < γ) (hn:τ ty=false):B.heap[g]?=some (.cells c ty fr):=t.same g _ h hg (.inr hn)
theorem TurnG.of_below {γ:Nat} {A B:World} (b:Below A.heap.size A B):TurnG τ β γ A B:=⟨b.os,b.tape,b.output,b.size,fun k o hk _ _=>(b.block k (Array.getElem?_eq_some_iff.1 hk).1).trans hk⟩
theorem TurnG.of_grown {γ:Nat} {A B:World} {row:Option Nat} (g:A.grownBy B row) (h:∀ j,row=some j → γ ≤ j):TurnG τ β γ A B:=⟨g.os,g.tape,g.output,g.size,fun k o hk hg _=>(g.block k (Array.getElem?_eq_some_iff.1 hk).1 (fun e=>by have:=h k e.symm;omega)).trans hk⟩
theorem AbG.own {γ B:Nat} {J:List α → World → Prop} (h:AbG τ β γ J) (hB:γ ≤ B):OwnFrom B J:=fun s X Y row hs hg hr=>h s X Y hs (.of_grown hg (fun j e=>Nat.le_trans hB (hr j e).1))
theorem TurnG.below {γ m:Nat} {w0 A B:World} (b:Below m w0 A) (t:TurnG τ β γ A B) (h:m ≤ β) (hg:m ≤ γ) (hn:m ≤ w0.heap.size):Below m w0 B:=
  ⟨t.os.trans b.os,t.tape.trans b.tape,t.output.trans b.output,Nat.le_trans b.size t.size,fun k hk=>by
    have e1:=b.block k hk
    have hlt:k < w0.heap.size:=by omega
    have e2:=Array.getElem?_eq_getElem hlt
    rw [e2] at e1 ⊢
    exact t.same k _ e1 (by omega) (.inl (by omega))⟩
end
end Go.Proofs.YtigliofiojkhcaaGreat.Mdl
namespace Go.Proofs.YtigliofiojkhcaaGreat.Mdl
open Go.RowKit Go.Maps Ins Trc
set_option linter.unusedVariables false
set_option linter.unusedSimpArgs false
set_option maxRecDepth 100000
theorem its_with {E E':Env} (hk:E'.kf=E.kf) (hx:E'.x=E.x) (D:Pl):∀ k,its E' D k=its E D k
  | 0=>rfl
  | k + 1=>by
    show (its E' D k).step E'.kf (E'.x (its E' D k).ix)=(its E D k).step E.kf (E.x (its E D k).ix)
    rw [its_with hk hx D k,hk,hx]
theorem goes_with {E E':Env} (hk:E'.kf=E.kf) (hx:E'.x=E.x) (D:Pl) (k:Nat):Goes E' D k ↔ Goes E D k:=by
  unfold Goes
  simp only [its_with hk hx]
theorem done_with {E E':Env} (hk:E'.kf=E.kf) (hx:E'.x=E.x) (D:Pl) (m:Nat):Done E' D m ↔ Done E D m:=by
  unfold Done
  simp only [its_with hk hx,goes_with hk hx]
def snapsE (E:Env) (D:Pl) (k:Nat):List (Int × List Value):=(List.range k).map (fun j=>((its E D j).at_,(its E D j).snap))
def YE (E:Env) (D:Pl) (pre:List (Int × List Value)) (x:Int × List Value) (W:World):Prop:=∃ k,Goes E D k ∧ 0 < (its E D k).fuel ∧ pre=snapsE E D k ∧ x=((its E D k).at_,(its E D k).snap)
def SE (E:Env) (D:Pl) (xs:List (Int × List Value)) (W:World):Prop:=∃ m,Done E D m ∧ xs=snapsE E D m
def SpE (E:Env) (D:Pl) (pre:List (Int × List Value)) (W:World):Prop:=∃ k,Goes E D k ∧ 0 < (its E D k).fuel ∧ pre=snapsE E D (k + 1)
section
variable {F:Fence} {n m:Nat} {P:Program} {ops:Array Oper} {Q:Exit → Act → World → Prop} {i:Nat} {o:Oper} {K:Act → World → Prop} {a:Act} {w w':World}
end
def S9 (A B C:World → Prop) (fl:Nat → Bool) (u:Nat → Value) (w:World):Prop:=(fl 4=false ∧ A w) ∨ (fl 4=true ∧ ∃ bb:Bool,u 17=.bool bb ∧ (fl 5=true → u 18=.bool (!bb)) ∧ (match bb with | true=>B w | false=>C w))
section
variable {A B C:World → Prop} {fl:Nat → Bool} {u:Nat → Value} {w:World}
theorem S9.loc:Loc [4,5] [17,18] (S9 A B C):=by
  intro fl fl' u u' w hK hD h
  unfold S9 at *
  simp only [hK 4 (by decide),hK 5 (by decide),hD 17 (by decide),hD 18 (by decide)]
  exact h
theorem S9.was (h:S9 A B C fl u w) (f:fl 4=false):A w:=by
  rcases h with h | h
  · exact h.2
  · rw [f] at h;cases h.1
end
end Go.Proofs.YtigliofiojkhcaaGreat.Mdl
namespace Go.Proofs.YtigliofiojkhcaaGreat.Mdl
open Go.RowKit Go.Maps Ins Trc
set_option linter.unusedVariables false
set_option linter.unusedSimpArgs false
set_option maxRecDepth 100000
set_option maxHeartbeats 4000000 in
theorem run_bad (r:Int) (hr:¬ r=0) (c:Int) (pa:Option Addr) (plen pcap:Nat) (ca:Option Addr) (cl cc:Nat) (aa:Option Addr) (al ac:Nat) (fuel:Int) (W:World)
    (ST:∀ w,Below W.heap.size W w → Calls Tryz.prog 14 #[.agg #[.int .i64 c,.slice pa plen pcap],.slice ca cl cc,.slice aa al ac,.int .i64 fuel] w fun e w'=>e=.returned (.tuple #[.pointer none,.int .i64 r]) ∧ Below w.heap.size w w'):
    Calls Tryz.prog 7 #[.agg #[.int .i64 c,.slice pa plen pcap],.slice ca cl cc,.slice aa al ac,.int .i64 fuel] W fun e w'=>e=.returned (.tuple #[outV ⟨0,0,[],[],0⟩ none 0 none 0,.int .i64 r]) ∧ Below W.heap.size W w':=by
  have ST:=Lib.hid ST
  have bx0:=below_new (below_new (Below.refl W.heap.size W) (.cells #[.int .i64 c,.slice pa plen pcap] 24)) (.cells #[.int .i8 0,.int .u64 0,.slice none 0 0,.slice none 0 0,.int .i64 0] 33)
  have rz0:=heap_last (W.alloc (.cells #[.int .i64 c,.slice pa plen pcap] 24)) (.cells #[.int .i8 0,.int .u64 0,.slice none 0 0,.slice none 0 0,.int .i64 0] 33) (W.heap.size + 1) (by simp)
  have e0:(r != 0)=true:=by simpa using hr
  clear hr
  refine (callsIn_wide (n:=3)).1 (callsIn_of_wp_marks Tryz.func7 rfl trivial ?_ rfl)
  simp only [Tryz.ntmps7,List.size_toArray,List.length_cons,List.length_nil,Nat.reduceAdd,Nat.reduceSub,Array.replicate_succ,Array.replicate_zero,List.push_toArray,List.append_toArray,List.nil_append,List.cons_append]
  refine (wpIn_wide (n:=3)).2 ?_
  go_wp2_with fail
  generalize (W.alloc (.cells #[.int .i64 c,.slice pa plen pcap] 24)).alloc (.cells #[.int .i8 0,.int .u64 0,.slice none 0 0,.slice none 0 0,.int .i64 0] 33)=w0 at *
  refine (ST.out _ bx0).mono ?_
  rintro e w1 ⟨rfl,b1⟩
  have rz1:=brow b1 rz0
  have bx1:=bx0.trans (b1.mono bx0.size)
  clear b1 rz0 bx0 ST
  go_wp2_with (with_reducible refine (halt_store 33 _ _ rfl ?_))
  refine ⟨?_,trivial⟩
  refine wpList_store_is rfl 33 _ _ rfl (W.heap.size + 1) _ rfl rfl _ _ rz1 (by kernel_rfl) rfl (by simp [Value.oneCell']) ?_
  intro w6 s6
  have bx6:=s6.below bx1 (by omega)
  have hr6:=s6.row
  clear s6 bx1 rz1
  go_wp2_with fail
  exact ⟨_,res_ct rfl rfl (load_row _ hr6 Tryz.underlying33 rfl (by kernel_rfl)) rfl,rfl,bx6⟩
end Go.Proofs.YtigliofiojkhcaaGreat.Mdl
namespace Go.Proofs.YtigliofiojkhcaaGreat.Mdl
open Go.RowKit Go.Maps Ins Trc
set_option linter.unusedVariables false
set_option linter.unusedSimpArgs false
set_option maxRecDepth 100000
set_option maxHeartbeats 4000000 in
theorem visits_bad (r:Int) (hr:¬ r=0) (c:Int) (pa:Option Addr) (plen pcap:Nat) (ca:Option Addr) (cl cc:Nat) (aa:Option Addr) (al ac:Nat) (fuel:Int) (W:World)
    (ST:∀ w,Below W.heap.size W w → Calls Tryz.prog 14 #[.agg #[.int .i64 c,.slice pa plen pcap],.slice ca cl cc,.slice aa al ac,.int .i64 fuel] w fun e w'=>e=.returned (.tuple #[.pointer none,.int .i64 r]) ∧ Below w.heap.size w w'):
    Calls Tryz.prog 9 #[.agg #[.int .i64 c,.slice pa plen pcap],.slice ca cl cc,.slice aa al ac,.int .i64 fuel] W fun e w'=>e=.returned (.slice none 0 0) ∧ Below W.heap.size W w':=by
  have ST:=Lib.hid ST
  have e0:(r != 0)=true:=by simpa using hr
  have bx0:=below_new (Below.refl W.heap.size W) (.cells #[.int .i64 c,.slice pa plen pcap] 24)
  clear hr
  refine (callsIn_wide (n:=3)).1 (callsIn_of_wp_marks Tryz.func9 rfl trivial ?_ rfl)
  simp only [Tryz.ntmps9,List.size_toArray,List.length_cons,List.length_nil,Nat.reduceAdd,Nat.reduceSub,Array.replicate_succ,Array.replicate_zero,List.push_toArray,List.append_toArray,List.nil_append,List.cons_append]
  refine (wpIn_wide (n:=3)).2 ?_
  go_wp2_with fail
  generalize W.alloc (.cells #[.int .i64 c,.slice pa plen pcap] 24)=w0 at *
  refine (ST.out _ bx0).mono ?_
  rintro e w1 ⟨rfl,b1⟩
  have bx1:=Lib.hid (bx0.trans (b1.mono bx0.size))
  clear ST bx0 b1
  go_wp2_with fail
  exact ⟨_,res_t rfl rfl,rfl,bx1.out⟩
theorem done_le {E:Env} {D:Pl} {m:Nat} (h:Done E D m) (h0:0 ≤ D.fuel):(m:Int) ≤ D.fuel:=by
  rcases h with ⟨g,_⟩ | ⟨k,rfl,_,f,_⟩
  · cases m with
    | zero=>exact h0
    | succ k=>
      have:=(g k (by omega)).1
      rw [itsV_fuel] at this
      omega
  · rw [itsV_fuel] at f
    omega
def lastL (pre:List (Int × List Value)):Int:=(pre.getLast?.map (·.1)).getD (-1)
def AxC (fr:Int → List Value → Nat → Act) (B:Nat) (I:List (Int × List Value) → World → Prop) (Yk:List (Int × List Value) → Int × List Value → World → Prop) (pre:List (Int × List Value)) (x:Int × List Value) (a':Act) (W':World):Prop:=
  ∃ sb,a'=fr x.1 x.2 sb ∧ I pre W' ∧ Yk pre x W' ∧ W'.heap[sb]?=some (.cells x.2.toArray 49 (0,0)) ∧ B ≤ sb
theorem AxC.own {fr:Int → List Value → Nat → Act} {B B':Nat} {I:List (Int × List Value) → World → Prop} {Yk:List (Int × List Value) → Int × List Value → World → Prop} (hI:OwnFrom B I) (hY:∀ x,OwnFrom B (fun pre=>Yk pre x)) (pre:List (Int × List Value)) (x:Int × List Value) (a':Act):OwnFrom B (fun (_:Unit) W=>AxC fr B' I Yk pre x a' W):=
  fun s X Y row ⟨sb,h1,h2,h3,h4,h5⟩ hg hr=>⟨sb,h1,hI _ X Y row h2 hg hr,hY x _ X Y row h3 hg hr,row_own B sb _ _ () X Y row h4 hg hr,h5⟩
theorem YE.own (E:Env) (D:Pl) (B:Nat) (x:Int × List Value):OwnFrom B (fun pre=>YE E D pre x):=fun _ _ _ _ h _ _=>h
theorem SE.own (E:Env) (D:Pl) (B:Nat):OwnFrom B (SE E D):=fun _ _ _ _ h _ _=>h
theorem SpE.own (E:Env) (D:Pl) (B:Nat):OwnFrom B (SpE E D):=fun _ _ _ _ h _ _=>h
structure CW (W:World) (c:Int) (b o plen pcap g2 g4 V g6:Nat) (oc:Array Value) (fm:List Int) (pre:List (Int × List Value)) (w:World):Prop where
  bel:Below W.heap.size W w
  prog:w.heap[W.heap.size]?=some (.cells #[.int .i64 c,.slice (some ⟨b,o,none⟩) plen pcap] 24 (0,0))
  res:w.heap[W.heap.size + 1]?=some (.cells #[.bool false] 4 (0,0))
  out:w.heap[g2]?=some (.cells oc 33 (0,0))
  vis:w.heap[g4]?=some (.cells #[.slice (some ⟨V,0,none⟩) plen plen] 37 (0,0))
  n:w.heap[g6]?=some (.cells #[.int .i64 pre.length] 3 (0,0))
  last:w.heap[g6 + 1]?=some (.cells #[.int .i64 (lastL pre)] 3 (0,0))
  row:w.rowIs V 3 plen (fun i=>.int .i64 (cntP fm i - cntP (pre.map (·.1)) i))
theorem CW.mv {W:World} {c:Int} {b o plen pcap g2 g4 V g6:Nat} {oc:Array Value} {fm:List Int} {pre:List (Int × List Value)} {w w':World} (h:CW W c b o plen pcap g2 g4 V g6 oc fm pre w) (γ:Nat) (hg:W.heap.size + 1 < γ ∧ g2 < γ ∧ g4 < γ ∧ V < γ ∧ g6 + 1 < γ) (bel:Below W.heap.size W w')
    (mv:∀ (g:Nat) (cs:Array Value) (t:TypeId),g < γ → τM t=false → w.heap[g]?=some (.cells cs t (0,0)) → w'.heap[g]?=some (.cells cs t (0,0))):CW W c b o plen pcap g2 g4 V g6 oc fm pre w':=by
  obtain ⟨h1,h2,h3,h4,h5⟩:=hg
  refine ⟨bel,mv _ _ _ (by omega) (by decide) h.prog,mv _ _ _ (by omega) (by decide) h.res,mv _ _ _ (by omega) (by decide) h.out,mv _ _ _ (by omega) (by decide) h.vis,mv _ _ _ (by omega) (by decide) h.n,mv _ _ _ (by omega) (by decide) h.last,?_⟩
  obtain ⟨cur,e1,e2,e3⟩:=id h.row
  exact h.row.of_block ((mv _ _ _ h4 (by decide) e1).trans e1.symm)
theorem CW.below {W:World} {c:Int} {b o plen pcap g2 g4 V g6:Nat} {oc:Array Value} {fm:List Int} {pre:List (Int × List Value)} {w w':World} (h:CW W c b o plen pcap g2 g4 V g6 oc fm pre w) (k:Below w.heap.size w w'):CW W c b o plen pcap g2 g4 V g6 oc fm pre w':=by
  refine h.mv (W.heap.size + 2 + g2 + 1 + g4 + 1 + V + 1 + g6 + 2) (by omega) (h.bel.trans (k.mono h.bel.size)) (fun g cs t _ _ hg=>brow k hg)
end Go.Proofs.YtigliofiojkhcaaGreat.Mdl
