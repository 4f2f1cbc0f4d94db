import Derived.Test.YtbpehbeakhocnaaGreatDoorIRm13
import Derived.Test.YtbpehbeakhocnaaGreatDoorIRm11
import Derived.Test.YtbpehbeakhocnaaGreatDoorIRm01
import Derived.Deep.MidRow
import Derived.LoopN
set_option maxHeartbeats 2000000
set_option linter.unusedVariables false
set_option linter.unusedSimpArgs false
set_option linter.unnecessarySimpa false
namespace Go.Proofs.YtbpehbeakhocnaaGreatDoor.Mrm
open Go Go.RowKit
set_option maxRecDepth 100000
abbrev cdL (c:Cd):List Value:=[.int .i8 c.sh,.int .i8 c.wd,.int .u16 c.va,.int .i8 c.dg,.int .u16 c.lo]
abbrev cdC (c:Cd):Array Value:=#[.int .i8 c.sh,.int .i8 c.wd,.int .u16 c.va,.int .i8 c.dg,.int .u16 c.lo]
abbrev otL (o:Int × Cd):List Value:=.int .i8 o.1 :: cdL o.2
def codesC:Array Value:=(codesL.flatMap cdL).toArray
def othersC:Array Value:=(othersL.flatMap otL).toArray
def widthsC:Array Value:=#[.int .i8 0,.int .i8 8,.int .i8 16,.int .i8 32,.int .i8 64]
def otA (k:Nat):Int × Cd:=othersL.getD k (0,zCd)
structure Tabs (W:World):Prop where
  cs:∃ T fr,W.heap[(1:Nat)]?=some (.cells codesC T fr)
  os:∃ T fr,W.heap[(2:Nat)]?=some (.cells othersC T fr)
theorem heap_below {W w:World} {n:Nat} (b:Below n W w) {g:Nat} {o:Obj} (h:W.heap[g]?=some o) (hn:W.heap.size ≤ n):w.heap[g]?=some o:=(b.block g (Nat.lt_of_lt_of_le (Array.getElem?_eq_some_iff.1 h).1 hn)).trans h
theorem Tabs.below {W w:World} (h:Tabs W) {n:Nat} (b:Below n W w) (hn:W.heap.size ≤ n):Tabs w:=by
  obtain ⟨⟨T,fr,h1⟩,⟨T',fr',h2⟩⟩:=h
  exact ⟨⟨T,fr,heap_below b h1 hn⟩,⟨T',fr',heap_below b h2 hn⟩⟩
theorem range_row {w:World} {g off:Nat} {C:Array Value} {T:TypeId} {fr:Nat × Nat} (hg:w.heap[g]?=some (.cells C T fr)) {cs:List Value} (hcs:(C.toList.drop off).take cs.length=cs):w.rangeAt g off cs:=by
  intro j v hj
  have h0:cs[j]?=((C.toList.drop off).take cs.length)[j]?:=by rw [hcs]
  rw [h0] at hj
  have hlt:j < cs.length:=by
    rcases Nat.lt_or_ge j cs.length with h | h
    · exact h
    · rw [List.getElem?_eq_none (by simp only [List.length_take];omega)] at hj;cases hj
  rw [List.getElem?_take_of_lt hlt,List.getElem?_drop] at hj
  simp only [World.cell?,hg]
  rw [← Array.getElem?_toList]
  exact hj
theorem codes_at:∀ k:Nat,k < 32 → (codesC.toList.drop (k * 5)).take 5=cdL (codeA (k:Int)):=by
  intro k hk
  rcases (show k=0 ∨ k=1 ∨ k=2 ∨ k=3 ∨ k=4 ∨ k=5 ∨ k=6 ∨ k=7 ∨ k=8 ∨ k=9 ∨ k=10 ∨ k=11 ∨ k=12 ∨ k=13 ∨ k=14 ∨ k=15 ∨ k=16 ∨ k=17 ∨ k=18 ∨ k=19 ∨ k=20 ∨ k=21 ∨ k=22 ∨ k=23 ∨ k=24 ∨ k=25 ∨ k=26 ∨ k=27 ∨ k=28 ∨ k=29 ∨ k=30 ∨ k=31 by omega) with rfl | rfl | rfl | rfl | rfl | rfl | rfl | rfl | rfl | rfl | rfl | rfl | rfl | rfl | rfl | rfl | rfl | rfl | rfl | rfl | rfl | rfl | rfl | rfl | rfl | rfl | rfl | rfl | rfl | rfl | rfl | rfl <;> kernel_rfl
theorem others_at:∀ k:Nat,k < 6 → (othersC.toList.drop (k * 6)).take 6=otL (otA k):=by
  intro k hk
  rcases (show k=0 ∨ k=1 ∨ k=2 ∨ k=3 ∨ k=4 ∨ k=5 by omega) with rfl | rfl | rfl | rfl | rfl | rfl <;> kernel_rfl
theorem ne_true {b:Bool} (h:b=false):¬ b=true:=by rw [h];decide
theorem find_at (p:Int × Cd → Bool) (k:Nat) (hk:k < 6) (h0:∀ j,j < k → p (otA j)=false) (h1:p (otA k)=true):othersL.find? p=some (otA k):=by
  rcases (show k=0 ∨ k=1 ∨ k=2 ∨ k=3 ∨ k=4 ∨ k=5 by omega) with rfl | rfl | rfl | rfl | rfl | rfl
  · exact List.find?_cons_of_pos h1
  · exact (List.find?_cons_of_neg (ne_true (h0 0 (by omega)))).trans (List.find?_cons_of_pos h1)
  · exact (List.find?_cons_of_neg (ne_true (h0 0 (by omega)))).trans ((List.find?_cons_of_neg (ne_true (h0 1 (by omega)))).trans (List.find?_cons_of_pos h1))
  · exact (List.find?_cons_of_neg (ne_true (h0 0 (by omega)))).trans ((List.find?_cons_of_neg (ne_true (h0 1 (by omega)))).trans ((List.find?_cons_of_neg (ne_true (h0 2 (by omega)))).trans (List.find?_cons_of_pos h1)))
  · exact (List.find?_cons_of_neg (ne_true (h0 0 (by omega)))).trans ((List.find?_cons_of_neg (ne_true (h0 1 (by omega)))).trans ((List.find?_cons_of_neg (ne_true (h0 2 (by omega)))).trans ((List.find?_cons_of_neg (ne_true (h0 3 (by omega)))).trans (List.find?_cons_of_pos h1))))
  · exact (List.find?_cons_of_neg (ne_true (h0 0 (by omega)))).trans ((List.find?_cons_of_neg (ne_true (h0 1 (by omega)))).trans ((List.find?_cons_of_neg (ne_true (h0 2 (by omega)))).trans ((List.find?_cons_of_neg (ne_true (h0 3 (by omega)))).trans ((List.find?_cons_of_neg (ne_true (h0 4 (by omega)))).trans (List.find?_cons_of_pos h1)))))
theorem find_out (p:Int × Cd → Bool) (h0:∀ j,j < 6 → p (otA j)=false):othersL.find? p=none:=
  (List.find?_cons_of_neg (ne_true (h0 0 (by omega)))).trans ((List.find?_cons_of_neg (ne_true (h0 1 (by omega)))).trans ((List.find?_cons_of_neg (ne_true (h0 2 (by omega)))).trans ((List.find?_cons_of_neg (ne_true (h0 3 (by omega)))).trans ((List.find?_cons_of_neg (ne_true (h0 4 (by omega)))).trans ((List.find?_cons_of_neg (ne_true (h0 5 (by omega)))).trans rfl)))))
theorem of_has {a b:Int} {c:Cd} {w:Int} {r:Bool} (h:hasB c w=r) (e:a=b):(a == b && hasB c w)=r:=by rw [h,e,beq_self_eq_true,Bool.true_and]
theorem of_op {a b:Int} {r:Bool} (e:¬ a=b):(a == b && r)=false:=by rw [beq_eq_false_iff_ne.2 e,Bool.false_and]
theorem find_no (n:Nat) (w:Int) (h:n < 32) (hh:hasB (codeA (n:Int)) w=false):codeOfP (n:Int) w=ofO (othersL.find? (fun o=>o.1 == (n:Int) && hasB o.2 w)):=by
  unfold codeOfP
  rw [if_neg (by omega),if_neg (by rw [hh];decide)]
theorem idx_0 (w:World):(Instr.index 126 (.agg othersC) (.int .i64 0)).run Tryz.prog w=.ok (.agg #[.int .i8 1,.int .i8 6,.int .i8 32,.int .u16 184,.int .i8 0,.int .u16 7]) w:=by rfl
theorem idx_1 (w:World):(Instr.index 126 (.agg othersC) (.int .i64 1)).run Tryz.prog w=.ok (.agg #[.int .i8 26,.int .i8 7,.int .i8 8,.int .u16 4022,.int .i8 0,.int .u16 0]) w:=by rfl
theorem idx_2 (w:World):(Instr.index 126 (.agg othersC) (.int .i64 2)).run Tryz.prog w=.ok (.agg #[.int .i8 26,.int .i8 7,.int .i8 16,.int .u16 4023,.int .i8 0,.int .u16 0]) w:=by rfl
theorem idx_3 (w:World):(Instr.index 126 (.agg othersC) (.int .i64 3)).run Tryz.prog w=.ok (.agg #[.int .i8 27,.int .i8 8,.int .i8 8,.int .u16 136,.int .i8 0,.int .u16 0]) w:=by rfl
theorem idx_4 (w:World):(Instr.index 126 (.agg othersC) (.int .i64 4)).run Tryz.prog w=.ok (.agg #[.int .i8 28,.int .i8 10,.int .i8 8,.int .u16 235,.int .i8 0,.int .u16 0]) w:=by rfl
theorem idx_5 (w:World):(Instr.index 126 (.agg othersC) (.int .i64 5)).run Tryz.prog w=.ok (.agg #[.int .i8 29,.int .i8 10,.int .i8 8,.int .u16 112,.int .i8 0,.int .u16 15]) w:=by rfl
theorem codeOf_lo (op w:Int) (h:op < 0) (W:World):Calls Tryz.prog 121 #[.int .i8 op,.int .i8 w] W fun e w'=>e=.returned (.tuple #[.agg (cdC zCd),.bool false]) ∧ Below W.heap.size W w':=by
  go_enter Tryz.func121,Tryz.ntmps121
  go_wp2_with fail
  refine bodyPost_ret (v:=.tuple #[.agg (cdC zCd),.bool false]) (by simp [results,Tryz.results121,go_sem,zCd]) rfl ⟨rfl,?_⟩
  repeat (first | exact Below.refl _ _ | apply Below.drew | apply below_new)
theorem codeOf_hi (op w:Int) (h:32 ≤ op) (hb:op < 128) (W:World):Calls Tryz.prog 121 #[.int .i8 op,.int .i8 w] W fun e w'=>e=.returned (.tuple #[.agg (cdC zCd),.bool false]) ∧ Below W.heap.size W w':=by
  go_enter Tryz.func121,Tryz.ntmps121
  go_wp2_with fail
  refine bodyPost_ret (v:=.tuple #[.agg (cdC zCd),.bool false]) (by simp [results,Tryz.results121,go_sem,zCd]) rfl ⟨rfl,?_⟩
  repeat (first | exact Below.refl _ _ | apply Below.drew | apply below_new)
theorem rows2 {W w1:World} {A B:Array Value} {T U:TypeId} {n:Nat} (b:Below n ((W.alloc (.cells A T)).alloc (.cells B U)) w1) (hn:((W.alloc (.cells A T)).alloc (.cells B U)).heap.size ≤ n):
    w1.heap[W.heap.size]?=some (.cells A T (0,0)) ∧ w1.heap[W.heap.size + 1]?=some (.cells B U (0,0)):=
  ⟨heap_below b ((heap_past _ _ _ (by rw [size_alloc];omega)).trans (heap_last _ _ _ rfl)) hn,heap_below b (heap_last _ _ _ (size_alloc _ _).symm) hn⟩
theorem codeOf_yes (n:Nat) (w:Int) (h:n < 32) (hh:hasB (codeA (n:Int)) w=true) (W:World) (hT:Tabs W):Calls Tryz.prog 121 #[.int .i8 (n:Int),.int .i8 w] W fun e w'=>e=.returned (.tuple #[.agg (cdC (codeA (n:Int))),.bool true]) ∧ Below W.heap.size W w':=by
  have HT:=Lib.hid hT;clear hT
  have HR:=Lib.hid (fun (w1:World) (b:Below W.heap.size W w1)=>show w1.rangeAt 1 (n * 5) (cdL (codeA (n:Int))) from by
    obtain ⟨⟨T,fr,h1⟩,_⟩:=HT.out.below b (Nat.le_refl _)
    exact range_row h1 (codes_at n h))
  have CH:=Lib.hid (fun W=>show Calls Tryz.prog 149 #[.agg (cdC (codeA (n:Int))),.int .i8 w] W fun e w'=>e=.returned (.bool true) ∧ Below W.heap.size W w' by have q:=chas_n (codeA (n:Int)) w W;rw [hh] at q;exact q)
  clear hh HT
  generalize codeA (n:Int)=c at *
  obtain ⟨sh,wd,va,dg,lo⟩:=c
  simp only [cdL,cdC] at HR CH ⊢
  go_enter Tryz.func121,Tryz.ntmps121
  go_wp2_with (with_reducible refine (halt_load 106 _ rfl ?_))
  refine ⟨?_,trivial⟩
  refine wpList_load_mid rfl 106 _ rfl 1 (n * 5) rfl _ _ (HR.out _ (below_new (Below.refl _ _) _)) Tryz.underlying106 rfl (by kernel_rfl) ?_
  go_wp2_with fail
  refine (CH.out _).mono ?_
  rintro e w1 ⟨rfl,b1⟩
  obtain ⟨r4,r6⟩:=rows2 b1 (Nat.le_refl _)
  have R4:=Lib.hid r4
  have R6:=Lib.hid r6
  have B1:=Lib.hid (below_call (below_new (below_new (Below.refl _ _) _) _) b1)
  clear b1 r4 r6
  go_wp2_with (with_reducible refine (halt_load 106 _ rfl ?_))
  refine ⟨?_,trivial⟩
  refine wpList_load_row rfl 106 _ rfl _ rfl _ _ _ _ R6.out Tryz.underlying106 rfl (by kernel_rfl) ?_
  go_wp2_with (with_reducible refine (halt_store 106 _ _ rfl ?_))
  refine ⟨?_,trivial⟩
  refine wpList_store_is rfl 106 _ _ rfl _ _ rfl rfl _ _ R4.out (by kernel_rfl) rfl (by simp [Value.oneCell']) ?_
  intro w2 S2
  have S2h:=Lib.hid S2
  clear S2
  go_wp2_with fail
  exact bodyPost_ret (res_ct (fn:=Tryz.f121) rfl rfl (load_row 106 S2h.out.row Tryz.underlying106 rfl (by kernel_rfl)) rfl) rfl ⟨rfl,S2h.out.below B1.out (Nat.le_refl _)⟩
theorem codeOf_no (n:Nat) (w:Int) (h:n < 32) (hh:hasB (codeA (n:Int)) w=false) (W:World) (hT:Tabs W):Calls Tryz.prog 121 #[.int .i8 (n:Int),.int .i8 w] W fun e w'=>e=.returned (.tuple #[.agg (cdC (codeOfP (n:Int) w).1),.bool (codeOfP (n:Int) w).2]) ∧ Below W.heap.size W w':=by
  have HT:=Lib.hid hT;clear hT
  have HR:=Lib.hid (fun (w1:World) (b:Below W.heap.size W w1)=>show w1.rangeAt 1 (n * 5) (cdL (codeA (n:Int))) from by
    obtain ⟨⟨T,fr,h1⟩,_⟩:=HT.out.below b (Nat.le_refl _)
    exact range_row h1 (codes_at n h))
  have CH:=Lib.hid (fun W=>show Calls Tryz.prog 149 #[.agg (cdC (codeA (n:Int))),.int .i8 w] W fun e w'=>e=.returned (.bool false) ∧ Below W.heap.size W w' by have q:=chas_n (codeA (n:Int)) w W;rw [hh] at q;exact q)
  have HN:=Lib.hid (find_no n w h hh)
  clear hh
  generalize codeA (n:Int)=c at *
  obtain ⟨sh,wd,va,dg,lo⟩:=c
  simp only [cdL,cdC] at HR CH ⊢
  go_enter Tryz.func121,Tryz.ntmps121
  go_wp2_with (with_reducible refine (halt_load 106 _ rfl ?_))
  refine ⟨?_,trivial⟩
  refine wpList_load_mid rfl 106 _ rfl 1 (n * 5) rfl _ _ (HR.out _ (below_new (Below.refl _ _) _)) Tryz.underlying106 rfl (by kernel_rfl) ?_
  go_wp2_with fail
  refine (CH.out _).mono ?_
  rintro e w1 ⟨rfl,b1⟩
  obtain ⟨r4,r6⟩:=rows2 b1 (Nat.le_refl _)
  have R4:=Lib.hid r4
  have B1:=Lib.hid (below_call (below_new (below_new (Below.refl _ _) _) _) b1)
  have L1:=Lib.hid (show W.heap.size < w1.heap.size from by have:=b1.size;simp only [size_alloc] at this;omega)
  have OT:=Lib.hid (HT.out.below B1.out (Nat.le_refl _))
  clear b1 r4 r6
  obtain ⟨T,fr,ot⟩:=OT.out.os
  have OT:=Lib.hid ot
  clear ot
  go_wp2_with (with_reducible refine (halt_load 126 _ rfl ?_))
  refine ⟨?_,trivial⟩
  refine wpList_load_row rfl _ _ rfl _ rfl _ _ _ _ OT.out Tryz.underlying126 rfl (by kernel_rfl) ?_
  go_wp2_with fail
  go_loopw [25] (fun i wr=>∃ k:Nat,k ≤ 6 ∧ i=.int .i64 k ∧ Hid (wr.heap[W.heap.size]?=some (.cells #[.int .i8 0,.int .i8 0,.int .u16 0,.int .i8 0,.int .u16 0] 106 (0,0)) ∧ Below W.heap.size W wr ∧ (∀ j,j < k → ((otA j).1 == (n:Int) && hasB (otA j).2 w)=false) ∧ w1.heap.size ≤ wr.heap.size)) (fun i _=>6 - (intOf i).toNat)
  case atStart=>exact ⟨0,by omega,rfl,Lib.hid ⟨R4.out,B1.out,fun j hj=>absurd hj (by omega),Nat.le_refl _⟩⟩
  case round=>
    obtain ⟨k,hk6,rfl,hk⟩:=hrel
    by_cases hlt:k < 6
    · rcases (show k=0 ∨ k=1 ∨ k=2 ∨ k=3 ∨ k=4 ∨ k=5 by omega) with rfl | rfl | rfl | rfl | rfl | rfl
      · have ix:=fun w=>idx_0 w
        by_cases e:(1:Int)=(n:Int)
        · have eb:((1:Int) == (n:Int))=true:=by rw [e];exact beq_self_eq_true _
          have ee:=Lib.hid e
          clear e
          cases eh:hasB ⟨6,32,184,0,7⟩ w
          · have CK:=Lib.hid (fun W=>show Calls Tryz.prog 149 #[.agg #[.int .i8 6,.int .i8 32,.int .u16 184,.int .i8 0,.int .u16 7],.int .i8 w] W fun e w'=>e=.returned (.bool false) ∧ Below W.heap.size W w' from by have q:=chas_n ⟨6,32,184,0,7⟩ w W;rw [eh] at q;exact q)
            have eh':=Lib.hid eh
            clear eh
            go_wp2_with fail
            refine (CK.out _).mono ?_
            rintro e w2 ⟨rfl,b2⟩
            have SZ2:=Lib.hid b2.size
            have r2:=heap_below b2 ((heap_past _ _ _ (Nat.lt_of_lt_of_le L1.out hk.out.2.2.2)).trans hk.out.1) (Nat.le_refl _)
            have B2:=Lib.hid (And.intro r2 (below_call (below_new hk.out.2.1 _) b2))
            clear b2 r2
            go_wp2_with fail
            go_roundw
            case rel=>exact ⟨1,by omega,rfl,Lib.hid ⟨B2.out.1,B2.out.2,fun j hj=>by
              rcases Nat.lt_or_ge j 0 with h' | h'
              · exact hk.out.2.2.1 j h'
              · obtain rfl:j=0:=by omega
                exact of_has eh'.out ee.out,Nat.le_trans hk.out.2.2.2 (Nat.le_trans (by rw [size_alloc];omega) SZ2.out)⟩⟩
            case measure=>exact (show 5 < 6 by decide)
          · have CK:=Lib.hid (fun W=>show Calls Tryz.prog 149 #[.agg #[.int .i8 6,.int .i8 32,.int .u16 184,.int .i8 0,.int .u16 7],.int .i8 w] W fun e w'=>e=.returned (.bool true) ∧ Below W.heap.size W w' from by have q:=chas_n ⟨6,32,184,0,7⟩ w W;rw [eh] at q;exact q)
            have CV:=Lib.hid (show codeOfP (n:Int) w=(⟨6,32,184,0,7⟩,true) from HN.out.trans (congrArg ofO (find_at (fun o=>o.1 == (n:Int) && hasB o.2 w) 0 (by omega) hk.out.2.2.1 (of_has eh ee.out))))
            clear eh
            go_wp2_with fail
            refine (CK.out _).mono ?_
            rintro e w2 ⟨rfl,b2⟩
            have SZ2:=Lib.hid b2.size
            have r2:=heap_below b2 ((heap_past _ _ _ (Nat.lt_of_lt_of_le L1.out hk.out.2.2.2)).trans hk.out.1) (Nat.le_refl _)
            have o2:=heap_below b2 (heap_last _ _ _ rfl) (Nat.le_refl _)
            have B2:=Lib.hid (And.intro r2 (And.intro o2 (below_call (below_new hk.out.2.1 _) b2)))
            clear b2 r2 o2
            go_wp2_with (with_reducible refine (halt_load 106 _ rfl ?_))
            refine ⟨?_,trivial⟩
            refine wpList_load_mid rfl 106 _ rfl _ _ rfl [.int .i8 6,.int .i8 32,.int .u16 184,.int .i8 0,.int .u16 7] _ (range_row B2.out.2.1 rfl) Tryz.underlying106 rfl (by kernel_rfl) ?_
            go_wp2_with (with_reducible refine (halt_store 106 _ _ rfl ?_))
            refine ⟨?_,trivial⟩
            refine wpList_store_is rfl 106 _ _ rfl _ _ rfl rfl _ _ B2.out.1 (by kernel_rfl) rfl (by simp [Value.oneCell']) ?_
            intro w3 S3
            have S3h:=Lib.hid S3
            clear S3
            go_wp2_with fail
            exact bodyPost_ret (res_ct (fn:=Tryz.f121) rfl rfl (load_row 106 S3h.out.row Tryz.underlying106 rfl (by kernel_rfl)) rfl) rfl ⟨by rw [CV.out];rfl,S3h.out.below B2.out.2.2 (Nat.le_refl _)⟩
        · go_wp2_with fail
          go_roundw
          case rel=>exact ⟨1,by omega,rfl,Lib.hid ⟨(heap_past _ _ _ (Nat.lt_of_lt_of_le L1.out hk.out.2.2.2)).trans hk.out.1,below_new hk.out.2.1 _,fun j hj=>by
            rcases Nat.lt_or_ge j 0 with h' | h'
            · exact hk.out.2.2.1 j h'
            · obtain rfl:j=0:=by omega
              exact of_op e,Nat.le_trans hk.out.2.2.2 (by rw [size_alloc];omega)⟩⟩
          case measure=>exact (show 5 < 6 by decide)
      · have ix:=fun w=>idx_1 w
        by_cases e:(26:Int)=(n:Int)
        · have eb:((26:Int) == (n:Int))=true:=by rw [e];exact beq_self_eq_true _
          have ee:=Lib.hid e
          clear e
          cases eh:hasB ⟨7,8,4022,0,0⟩ w
          · have CK:=Lib.hid (fun W=>show Calls Tryz.prog 149 #[.agg #[.int .i8 7,.int .i8 8,.int .u16 4022,.int .i8 0,.int .u16 0],.int .i8 w] W fun e w'=>e=.returned (.bool false) ∧ Below W.heap.size W w' from by have q:=chas_n ⟨7,8,4022,0,0⟩ w W;rw [eh] at q;exact q)
            have eh':=Lib.hid eh
            clear eh
            go_wp2_with fail
            refine (CK.out _).mono ?_
            rintro e w2 ⟨rfl,b2⟩
            have SZ2:=Lib.hid b2.size
            have r2:=heap_below b2 ((heap_past _ _ _ (Nat.lt_of_lt_of_le L1.out hk.out.2.2.2)).trans hk.out.1) (Nat.le_refl _)
            have B2:=Lib.hid (And.intro r2 (below_call (below_new hk.out.2.1 _) b2))
            clear b2 r2
            go_wp2_with fail
            go_roundw
            case rel=>exact ⟨2,by omega,rfl,Lib.hid ⟨B2.out.1,B2.out.2,fun j hj=>by
              rcases Nat.lt_or_ge j 1 with h' | h'
              · exact hk.out.2.2.1 j h'
              · obtain rfl:j=1:=by omega
                exact of_has eh'.out ee.out,Nat.le_trans hk.out.2.2.2 (Nat.le_trans (by rw [size_alloc];omega) SZ2.out)⟩⟩
            case measure=>exact (show 4 < 5 by decide)
          · have CK:=Lib.hid (fun W=>show Calls Tryz.prog 149 #[.agg #[.int .i8 7,.int .i8 8,.int .u16 4022,.int .i8 0,.int .u16 0],.int .i8 w] W fun e w'=>e=.returned (.bool true) ∧ Below W.heap.size W w' from by have q:=chas_n ⟨7,8,4022,0,0⟩ w W;rw [eh] at q;exact q)
            have CV:=Lib.hid (show codeOfP (n:Int) w=(⟨7,8,4022,0,0⟩,true) from HN.out.trans (congrArg ofO (find_at (fun o=>o.1 == (n:Int) && hasB o.2 w) 1 (by omega) hk.out.2.2.1 (of_has eh ee.out))))
            clear eh
            go_wp2_with fail
            refine (CK.out _).mono ?_
            rintro e w2 ⟨rfl,b2⟩
            have SZ2:=Lib.hid b2.size
            have r2:=heap_below b2 ((heap_past _ _ _ (Nat.lt_of_lt_of_le L1.out hk.out.2.2.2)).trans hk.out.1) (Nat.le_refl _)
            have o2:=heap_below b2 (heap_last _ _ _ rfl) (Nat.le_refl _)
            have B2:=Lib.hid (And.intro r2 (And.intro o2 (below_call (below_new hk.out.2.1 _) b2)))
            clear b2 r2 o2
            go_wp2_with (with_reducible refine (halt_load 106 _ rfl ?_))
            refine ⟨?_,trivial⟩
            refine wpList_load_mid rfl 106 _ rfl _ _ rfl [.int .i8 7,.int .i8 8,.int .u16 4022,.int .i8 0,.int .u16 0] _ (range_row B2.out.2.1 rfl) Tryz.underlying106 rfl (by kernel_rfl) ?_
            go_wp2_with (with_reducible refine (halt_store 106 _ _ rfl ?_))
            refine ⟨?_,trivial⟩
            refine wpList_store_is rfl 106 _ _ rfl _ _ rfl rfl _ _ B2.out.1 (by kernel_rfl) rfl (by simp [Value.oneCell']) ?_
            intro w3 S3
            have S3h:=Lib.hid S3
            clear S3
            go_wp2_with fail
            exact bodyPost_ret (res_ct (fn:=Tryz.f121) rfl rfl (load_row 106 S3h.out.row Tryz.underlying106 rfl (by kernel_rfl)) rfl) rfl ⟨by rw [CV.out];rfl,S3h.out.below B2.out.2.2 (Nat.le_refl _)⟩
        · go_wp2_with fail
          go_roundw
          case rel=>exact ⟨2,by omega,rfl,Lib.hid ⟨(heap_past _ _ _ (Nat.lt_of_lt_of_le L1.out hk.out.2.2.2)).trans hk.out.1,below_new hk.out.2.1 _,fun j hj=>by
            rcases Nat.lt_or_ge j 1 with h' | h'
            · exact hk.out.2.2.1 j h'
            · obtain rfl:j=1:=by omega
              exact of_op e,Nat.le_trans hk.out.2.2.2 (by rw [size_alloc];omega)⟩⟩
          case measure=>exact (show 4 < 5 by decide)
      · have ix:=fun w=>idx_2 w
        by_cases e:(26:Int)=(n:Int)
        · have eb:((26:Int) == (n:Int))=true:=by rw [e];exact beq_self_eq_true _
          have ee:=Lib.hid e
          clear e
          cases eh:hasB ⟨7,16,4023,0,0⟩ w
          · have CK:=Lib.hid (fun W=>show Calls Tryz.prog 149 #[.agg #[.int .i8 7,.int .i8 16,.int .u16 4023,.int .i8 0,.int .u16 0],.int .i8 w] W fun e w'=>e=.returned (.bool false) ∧ Below W.heap.size W w' from by have q:=chas_n ⟨7,16,4023,0,0⟩ w W;rw [eh] at q;exact q)
            have eh':=Lib.hid eh
            clear eh
            go_wp2_with fail
            refine (CK.out _).mono ?_
            rintro e w2 ⟨rfl,b2⟩
            have SZ2:=Lib.hid b2.size
            have r2:=heap_below b2 ((heap_past _ _ _ (Nat.lt_of_lt_of_le L1.out hk.out.2.2.2)).trans hk.out.1) (Nat.le_refl _)
            have B2:=Lib.hid (And.intro r2 (below_call (below_new hk.out.2.1 _) b2))
            clear b2 r2
            go_wp2_with fail
            go_roundw
            case rel=>exact ⟨3,by omega,rfl,Lib.hid ⟨B2.out.1,B2.out.2,fun j hj=>by
              rcases Nat.lt_or_ge j 2 with h' | h'
              · exact hk.out.2.2.1 j h'
              · obtain rfl:j=2:=by omega
                exact of_has eh'.out ee.out,Nat.le_trans hk.out.2.2.2 (Nat.le_trans (by rw [size_alloc];omega) SZ2.out)⟩⟩
            case measure=>exact (show 3 < 4 by decide)
          · have CK:=Lib.hid (fun W=>show Calls Tryz.prog 149 #[.agg #[.int .i8 7,.int .i8 16,.int .u16 4023,.int .i8 0,.int .u16 0],.int .i8 w] W fun e w'=>e=.returned (.bool true) ∧ Below W.heap.size W w' from by have q:=chas_n ⟨7,16,4023,0,0⟩ w W;rw [eh] at q;exact q)
            have CV:=Lib.hid (show codeOfP (n:Int) w=(⟨7,16,4023,0,0⟩,true) from HN.out.trans (congrArg ofO (find_at (fun o=>o.1 == (n:Int) && hasB o.2 w) 2 (by omega) hk.out.2.2.1 (of_has eh ee.out))))
            clear eh
            go_wp2_with fail
            refine (CK.out _).mono ?_
            rintro e w2 ⟨rfl,b2⟩
            have SZ2:=Lib.hid b2.size
            have r2:=heap_below b2 ((heap_past _ _ _ (Nat.lt_of_lt_of_le L1.out hk.out.2.2.2)).trans hk.out.1) (Nat.le_refl _)
            have o2:=heap_below b2 (heap_last _ _ _ rfl) (Nat.le_refl _)
            have B2:=Lib.hid (And.intro r2 (And.intro o2 (below_call (below_new hk.out.2.1 _) b2)))
            clear b2 r2 o2
            go_wp2_with (with_reducible refine (halt_load 106 _ rfl ?_))
            refine ⟨?_,trivial⟩
            refine wpList_load_mid rfl 106 _ rfl _ _ rfl [.int .i8 7,.int .i8 16,.int .u16 4023,.int .i8 0,.int .u16 0] _ (range_row B2.out.2.1 rfl) Tryz.underlying106 rfl (by kernel_rfl) ?_
            go_wp2_with (with_reducible refine (halt_store 106 _ _ rfl ?_))
            refine ⟨?_,trivial⟩
            refine wpList_store_is rfl 106 _ _ rfl _ _ rfl rfl _ _ B2.out.1 (by kernel_rfl) rfl (by simp [Value.oneCell']) ?_
            intro w3 S3
            have S3h:=Lib.hid S3
            clear S3
            go_wp2_with fail
            exact bodyPost_ret (res_ct (fn:=Tryz.f121) rfl rfl (load_row 106 S3h.out.row Tryz.underlying106 rfl (by kernel_rfl)) rfl) rfl ⟨by rw [CV.out];rfl,S3h.out.below B2.out.2.2 (Nat.le_refl _)⟩
        · go_wp2_with fail
          go_roundw
          case rel=>exact ⟨3,by omega,rfl,Lib.hid ⟨(heap_past _ _ _ (Nat.lt_of_lt_of_le L1.out hk.out.2.2.2)).trans hk.out.1,below_new hk.out.2.1 _,fun j hj=>by
            rcases Nat.lt_or_ge j 2 with h' | h'
            · exact hk.out.2.2.1 j h'
            · obtain rfl:j=2:=by omega
              exact of_op e,Nat.le_trans hk.out.2.2.2 (by rw [size_alloc];omega)⟩⟩
          case measure=>exact (show 3 < 4 by decide)
      · have ix:=fun w=>idx_3 w
        by_cases e:(27:Int)=(n:Int)
        · have eb:((27:Int) == (n:Int))=true:=by rw [e];exact beq_self_eq_true _
          have ee:=Lib.hid e
          clear e
          cases eh:hasB ⟨8,8,136,0,0⟩ w
          · have CK:=Lib.hid (fun W=>show Calls Tryz.prog 149 #[.agg #[.int .i8 8,.int .i8 8,.int .u16 136,.int .i8 0,.int .u16 0],.int .i8 w] W fun e w'=>e=.returned (.bool false) ∧ Below W.heap.size W w' from by have q:=chas_n ⟨8,8,136,0,0⟩ w W;rw [eh] at q;exact q)
            have eh':=Lib.hid eh
            clear eh
            go_wp2_with fail
            refine (CK.out _).mono ?_
            rintro e w2 ⟨rfl,b2⟩
            have SZ2:=Lib.hid b2.size
            have r2:=heap_below b2 ((heap_past _ _ _ (Nat.lt_of_lt_of_le L1.out hk.out.2.2.2)).trans hk.out.1) (Nat.le_refl _)
            have B2:=Lib.hid (And.intro r2 (below_call (below_new hk.out.2.1 _) b2))
            clear b2 r2
            go_wp2_with fail
            go_roundw
            case rel=>exact ⟨4,by omega,rfl,Lib.hid ⟨B2.out.1,B2.out.2,fun j hj=>by
              rcases Nat.lt_or_ge j 3 with h' | h'
              · exact hk.out.2.2.1 j h'
              · obtain rfl:j=3:=by omega
                exact of_has eh'.out ee.out,Nat.le_trans hk.out.2.2.2 (Nat.le_trans (by rw [size_alloc];omega) SZ2.out)⟩⟩
            case measure=>exact (show 2 < 3 by decide)
          · have CK:=Lib.hid (fun W=>show Calls Tryz.prog 149 #[.agg #[.int .i8 8,.int .i8 8,.int .u16 136,.int .i8 0,.int .u16 0],.int .i8 w] W fun e w'=>e=.returned (.bool true) ∧ Below W.heap.size W w' from by have q:=chas_n ⟨8,8,136,0,0⟩ w W;rw [eh] at q;exact q)
            have CV:=Lib.hid (show codeOfP (n:Int) w=(⟨8,8,136,0,0⟩,true) from HN.out.trans (congrArg ofO (find_at (fun o=>o.1 == (n:Int) && hasB o.2 w) 3 (by omega) hk.out.2.2.1 (of_has eh ee.out))))
            clear eh
            go_wp2_with fail
            refine (CK.out _).mono ?_
            rintro e w2 ⟨rfl,b2⟩
            have SZ2:=Lib.hid b2.size
            have r2:=heap_below b2 ((heap_past _ _ _ (Nat.lt_of_lt_of_le L1.out hk.out.2.2.2)).trans hk.out.1) (Nat.le_refl _)
            have o2:=heap_below b2 (heap_last _ _ _ rfl) (Nat.le_refl _)
            have B2:=Lib.hid (And.intro r2 (And.intro o2 (below_call (below_new hk.out.2.1 _) b2)))
            clear b2 r2 o2
            go_wp2_with (with_reducible refine (halt_load 106 _ rfl ?_))
            refine ⟨?_,trivial⟩
            refine wpList_load_mid rfl 106 _ rfl _ _ rfl [.int .i8 8,.int .i8 8,.int .u16 136,.int .i8 0,.int .u16 0] _ (range_row B2.out.2.1 rfl) Tryz.underlying106 rfl (by kernel_rfl) ?_
            go_wp2_with (with_reducible refine (halt_store 106 _ _ rfl ?_))
            refine ⟨?_,trivial⟩
            refine wpList_store_is rfl 106 _ _ rfl _ _ rfl rfl _ _ B2.out.1 (by kernel_rfl) rfl (by simp [Value.oneCell']) ?_
            intro w3 S3
            have S3h:=Lib.hid S3
            clear S3
            go_wp2_with fail
            exact bodyPost_ret (res_ct (fn:=Tryz.f121) rfl rfl (load_row 106 S3h.out.row Tryz.underlying106 rfl (by kernel_rfl)) rfl) rfl ⟨by rw [CV.out];rfl,S3h.out.below B2.out.2.2 (Nat.le_refl _)⟩
        · go_wp2_with fail
          go_roundw
          case rel=>exact ⟨4,by omega,rfl,Lib.hid ⟨(heap_past _ _ _ (Nat.lt_of_lt_of_le L1.out hk.out.2.2.2)).trans hk.out.1,below_new hk.out.2.1 _,fun j hj=>by
            rcases Nat.lt_or_ge j 3 with h' | h'
            · exact hk.out.2.2.1 j h'
            · obtain rfl:j=3:=by omega
              exact of_op e,Nat.le_trans hk.out.2.2.2 (by rw [size_alloc];omega)⟩⟩
          case measure=>exact (show 2 < 3 by decide)
      · have ix:=fun w=>idx_4 w
        by_cases e:(28:Int)=(n:Int)
        · have eb:((28:Int) == (n:Int))=true:=by rw [e];exact beq_self_eq_true _
          have ee:=Lib.hid e
          clear e
          cases eh:hasB ⟨10,8,235,0,0⟩ w
          · have CK:=Lib.hid (fun W=>show Calls Tryz.prog 149 #[.agg #[.int .i8 10,.int .i8 8,.int .u16 235,.int .i8 0,.int .u16 0],.int .i8 w] W fun e w'=>e=.returned (.bool false) ∧ Below W.heap.size W w' from by have q:=chas_n ⟨10,8,235,0,0⟩ w W;rw [eh] at q;exact q)
            have eh':=Lib.hid eh
            clear eh
            go_wp2_with fail
            refine (CK.out _).mono ?_
            rintro e w2 ⟨rfl,b2⟩
            have SZ2:=Lib.hid b2.size
            have r2:=heap_below b2 ((heap_past _ _ _ (Nat.lt_of_lt_of_le L1.out hk.out.2.2.2)).trans hk.out.1) (Nat.le_refl _)
            have B2:=Lib.hid (And.intro r2 (below_call (below_new hk.out.2.1 _) b2))
            clear b2 r2
            go_wp2_with fail
            go_roundw
            case rel=>exact ⟨5,by omega,rfl,Lib.hid ⟨B2.out.1,B2.out.2,fun j hj=>by
              rcases Nat.lt_or_ge j 4 with h' | h'
              · exact hk.out.2.2.1 j h'
              · obtain rfl:j=4:=by omega
                exact of_has eh'.out ee.out,Nat.le_trans hk.out.2.2.2 (Nat.le_trans (by rw [size_alloc];omega) SZ2.out)⟩⟩
            case measure=>exact (show 1 < 2 by decide)
          · have CK:=Lib.hid (fun W=>show Calls Tryz.prog 149 #[.agg #[.int .i8 10,.int .i8 8,.int .u16 235,.int .i8 0,.int .u16 0],.int .i8 w] W fun e w'=>e=.returned (.bool true) ∧ Below W.heap.size W w' from by have q:=chas_n ⟨10,8,235,0,0⟩ w W;rw [eh] at q;exact q)
            have CV:=Lib.hid (show codeOfP (n:Int) w=(⟨10,8,235,0,0⟩,true) from HN.out.trans (congrArg ofO (find_at (fun o=>o.1 == (n:Int) && hasB o.2 w) 4 (by omega) hk.out.2.2.1 (of_has eh ee.out))))
            clear eh
            go_wp2_with fail
            refine (CK.out _).mono ?_
            rintro e w2 ⟨rfl,b2⟩
            have SZ2:=Lib.hid b2.size
            have r2:=heap_below b2 ((heap_past _ _ _ (Nat.lt_of_lt_of_le L1.out hk.out.2.2.2)).trans hk.out.1) (Nat.le_refl _)
            have o2:=heap_below b2 (heap_last _ _ _ rfl) (Nat.le_refl _)
            have B2:=Lib.hid (And.intro r2 (And.intro o2 (below_call (below_new hk.out.2.1 _) b2)))
            clear b2 r2 o2
            go_wp2_with (with_reducible refine (halt_load 106 _ rfl ?_))
            refine ⟨?_,trivial⟩
            refine wpList_load_mid rfl 106 _ rfl _ _ rfl [.int .i8 10,.int .i8 8,.int .u16 235,.int .i8 0,.int .u16 0] _ (range_row B2.out.2.1 rfl) Tryz.underlying106 rfl (by kernel_rfl) ?_
            go_wp2_with (with_reducible refine (halt_store 106 _ _ rfl ?_))
            refine ⟨?_,trivial⟩
            refine wpList_store_is rfl 106 _ _ rfl _ _ rfl rfl _ _ B2.out.1 (by kernel_rfl) rfl (by simp [Value.oneCell']) ?_
            intro w3 S3
            have S3h:=Lib.hid S3
            clear S3
            go_wp2_with fail
            exact bodyPost_ret (res_ct (fn:=Tryz.f121) rfl rfl (load_row 106 S3h.out.row Tryz.underlying106 rfl (by kernel_rfl)) rfl) rfl ⟨by rw [CV.out];rfl,S3h.out.below B2.out.2.2 (Nat.le_refl _)⟩
        · go_wp2_with fail
          go_roundw
          case rel=>exact ⟨5,by omega,rfl,Lib.hid ⟨(heap_past _ _ _ (Nat.lt_of_lt_of_le L1.out hk.out.2.2.2)).trans hk.out.1,below_new hk.out.2.1 _,fun j hj=>by
            rcases Nat.lt_or_ge j 4 with h' | h'
            · exact hk.out.2.2.1 j h'
            · obtain rfl:j=4:=by omega
              exact of_op e,Nat.le_trans hk.out.2.2.2 (by rw [size_alloc];omega)⟩⟩
          case measure=>exact (show 1 < 2 by decide)
      · have ix:=fun w=>idx_5 w
        by_cases e:(29:Int)=(n:Int)
        · have eb:((29:Int) == (n:Int))=true:=by rw [e];exact beq_self_eq_true _
          have ee:=Lib.hid e
          clear e
          cases eh:hasB ⟨10,8,112,0,15⟩ w
          · have CK:=Lib.hid (fun W=>show Calls Tryz.prog 149 #[.agg #[.int .i8 10,.int .i8 8,.int .u16 112,.int .i8 0,.int .u16 15],.int .i8 w] W fun e w'=>e=.returned (.bool false) ∧ Below W.heap.size W w' from by have q:=chas_n ⟨10,8,112,0,15⟩ w W;rw [eh] at q;exact q)
            have eh':=Lib.hid eh
            clear eh
            go_wp2_with fail
            refine (CK.out _).mono ?_
            rintro e w2 ⟨rfl,b2⟩
            have SZ2:=Lib.hid b2.size
            have r2:=heap_below b2 ((heap_past _ _ _ (Nat.lt_of_lt_of_le L1.out hk.out.2.2.2)).trans hk.out.1) (Nat.le_refl _)
            have B2:=Lib.hid (And.intro r2 (below_call (below_new hk.out.2.1 _) b2))
            clear b2 r2
            go_wp2_with fail
            go_roundw
            case rel=>exact ⟨6,by omega,rfl,Lib.hid ⟨B2.out.1,B2.out.2,fun j hj=>by
              rcases Nat.lt_or_ge j 5 with h' | h'
              · exact hk.out.2.2.1 j h'
              · obtain rfl:j=5:=by omega
                exact of_has eh'.out ee.out,Nat.le_trans hk.out.2.2.2 (Nat.le_trans (by rw [size_alloc];omega) SZ2.out)⟩⟩
            case measure=>exact (show 0 < 1 by decide)
          · have CK:=Lib.hid (fun W=>show Calls Tryz.prog 149 #[.agg #[.int .i8 10,.int .i8 8,.int .u16 112,.int .i8 0,.int .u16 15],.int .i8 w] W fun e w'=>e=.returned (.bool true) ∧ Below W.heap.size W w' from by have q:=chas_n ⟨10,8,112,0,15⟩ w W;rw [eh] at q;exact q)
            have CV:=Lib.hid (show codeOfP (n:Int) w=(⟨10,8,112,0,15⟩,true) from HN.out.trans (congrArg ofO (find_at (fun o=>o.1 == (n:Int) && hasB o.2 w) 5 (by omega) hk.out.2.2.1 (of_has eh ee.out))))
            clear eh
            go_wp2_with fail
            refine (CK.out _).mono ?_
            rintro e w2 ⟨rfl,b2⟩
            have SZ2:=Lib.hid b2.size
            have r2:=heap_below b2 ((heap_past _ _ _ (Nat.lt_of_lt_of_le L1.out hk.out.2.2.2)).trans hk.out.1) (Nat.le_refl _)
            have o2:=heap_below b2 (heap_last _ _ _ rfl) (Nat.le_refl _)
            have B2:=Lib.hid (And.intro r2 (And.intro o2 (below_call (below_new hk.out.2.1 _) b2)))
            clear b2 r2 o2
            go_wp2_with (with_reducible refine (halt_load 106 _ rfl ?_))
            refine ⟨?_,trivial⟩
            refine wpList_load_mid rfl 106 _ rfl _ _ rfl [.int .i8 10,.int .i8 8,.int .u16 112,.int .i8 0,.int .u16 15] _ (range_row B2.out.2.1 rfl) Tryz.underlying106 rfl (by kernel_rfl) ?_
            go_wp2_with (with_reducible refine (halt_store 106 _ _ rfl ?_))
            refine ⟨?_,trivial⟩
            refine wpList_store_is rfl 106 _ _ rfl _ _ rfl rfl _ _ B2.out.1 (by kernel_rfl) rfl (by simp [Value.oneCell']) ?_
            intro w3 S3
            have S3h:=Lib.hid S3
            clear S3
            go_wp2_with fail
            exact bodyPost_ret (res_ct (fn:=Tryz.f121) rfl rfl (load_row 106 S3h.out.row Tryz.underlying106 rfl (by kernel_rfl)) rfl) rfl ⟨by rw [CV.out];rfl,S3h.out.below B2.out.2.2 (Nat.le_refl _)⟩
        · go_wp2_with fail
          go_roundw
          case rel=>exact ⟨6,by omega,rfl,Lib.hid ⟨(heap_past _ _ _ (Nat.lt_of_lt_of_le L1.out hk.out.2.2.2)).trans hk.out.1,below_new hk.out.2.1 _,fun j hj=>by
            rcases Nat.lt_or_ge j 5 with h' | h'
            · exact hk.out.2.2.1 j h'
            · obtain rfl:j=5:=by omega
              exact of_op e,Nat.le_trans hk.out.2.2.2 (by rw [size_alloc];omega)⟩⟩
          case measure=>exact (show 0 < 1 by decide)
    · have hk0:=hk.out
      go_wp2_with (with_reducible refine (halt_store 106 _ _ rfl ?_))
      refine ⟨?_,trivial⟩
      refine wpList_store_is rfl 106 _ _ rfl _ _ rfl rfl _ _ hk.out.1 (by kernel_rfl) rfl (by simp [Value.oneCell']) ?_
      intro w3 S3
      have S3h:=Lib.hid S3
      clear S3
      have CV:=Lib.hid (HN.out.trans (congrArg ofO (find_out (fun o=>o.1 == (n:Int) && hasB o.2 w) (fun j hj=>hk.out.2.2.1 j (by omega)))))
      go_wp2_with fail
      exact bodyPost_ret (res_ct (fn:=Tryz.f121) rfl rfl (load_row 106 S3h.out.row Tryz.underlying106 rfl (by kernel_rfl)) rfl) rfl ⟨by rw [CV.out];rfl,S3h.out.below hk.out.2.1 (Nat.le_refl _)⟩
theorem codeOf_n (op w:Int) (ho:-128 ≤ op ∧ op < 128) (W:World) (hT:Tabs W):Calls Tryz.prog 121 #[.int .i8 op,.int .i8 w] W fun e w'=>e=.returned (.tuple #[.agg (cdC (codeOfP op w).1),.bool (codeOfP op w).2]) ∧ Below W.heap.size W w':=by
  by_cases h:op < 0 ∨ 32 ≤ op
  · have e:codeOfP op w=(zCd,false):=by unfold codeOfP;rw [if_pos h]
    rw [e]
    rcases h with h | h
    · exact codeOf_lo op w h W
    · exact codeOf_hi op w h ho.2 W
  · obtain ⟨n,rfl⟩:∃ n:Nat,op=(n:Int):=⟨op.toNat,by omega⟩
    cases hh:hasB (codeA (n:Int)) w
    · exact codeOf_no n w (by omega) hh W hT
    · have e:codeOfP (n:Int) w=(codeA (n:Int),true):=by unfold codeOfP;rw [if_neg h,if_pos hh]
      rw [e]
      exact codeOf_yes n w (by omega) hh W hT
end Go.Proofs.YtbpehbeakhocnaaGreatDoor.Mrm
