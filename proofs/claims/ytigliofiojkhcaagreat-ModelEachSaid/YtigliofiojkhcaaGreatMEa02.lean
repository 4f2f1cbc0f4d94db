import Derived.Test.YtigliofiojkhcaaGreatMEx
import Derived.Test.YtigliofiojkhcaaGreatMEa01
import Derived.Test.YtigliofiojkhcaaGreatMRn23
import Derived.Test.YtigliofiojkhcaaGreatMRn22
import Derived.Test.YtigliofiojkhcaaGreatMRn24
import Derived.Test.YtigliofiojkhcaaGreatMRn28
set_option linter.unusedVariables false
set_option linter.unusedSimpArgs false
set_option linter.unnecessarySimpa false
namespace Go.Proofs.YtigliofiojkhcaaGreat.Mdl
open Go.RowKit Go.Maps Ins Trc
set_option maxRecDepth 100000
theorem its_with {E E':Env}(hk:E'.kf=E.kf)(hx:E'.x=E.x)(D:Pl):∀ k,its E' D k=its E D k
 | 0=>rfl
 | k+1=>by
  show (its E' D k).step E'.kf (E'.x (its E' D k).ix)=(its E D k).step E.kf (E.x (its E D k).ix)
  rw [its_with hk hx D k,hk,hx]
theorem goes_with {E E':Env}(hk:E'.kf=E.kf)(hx:E'.x=E.x)(D:Pl)(k:Nat):Goes E' D k↔Goes E D k:=by
 unfold Goes
 simp only [its_with hk hx]
theorem done_with {E E':Env}(hk:E'.kf=E.kf)(hx:E'.x=E.x)(D:Pl)(m:Nat):Done E' D m↔Done E D m:=by
 unfold Done
 simp only [its_with hk hx,goes_with hk hx]
def snapsE (E:Env)(D:Pl)(k:Nat):List (Int × List Value):=(List.range k).map (fun j=>((its E D j).at_,(its E D j).snap))
theorem snapsE_succ (E:Env)(D:Pl)(k:Nat):snapsE E D (k+1)=snapsE E D k ++ [((its E D k).at_,(its E D k).snap)]:=by simp [snapsE,List.range_succ]
theorem snapsE_len (E:Env)(D:Pl)(k:Nat):(snapsE E D k).length=k:=by simp [snapsE]
def YE (E:Env)(D:Pl)(pre:List (Int × List Value))(x:Int × List Value)(W:World):Prop:=∃ k,Goes E D k∧0<(its E D k).fuel∧pre=snapsE E D k∧x=((its E D k).at_,(its E D k).snap)
def SE (E:Env)(D:Pl)(xs:List (Int × List Value))(W:World):Prop:=∃ m,Done E D m∧xs=snapsE E D m
def SpE (E:Env)(D:Pl)(pre:List (Int × List Value))(W:World):Prop:=∃ k,Goes E D k∧0<(its E D k).fuel∧pre=snapsE E D (k+1)
def encE (x:Int × List Value):Array Value:=#[.int .i64 x.1,.agg x.2.toArray]
def σE (t:TypeId):Bool:=σM t || t == 69 || t == 53
theorem keepE {A B:World}(h:KeepT σE A B):KeepT σM A B:=⟨h.size,fun k o hk ho=>h.same k o hk (by
 cases o with
 | cells c t fr=>
  change σM t=true at ho
  show (σM t || _ || _)=true
  rw [ho];rfl
 | _=>cases ho)⟩
theorem keepE_row {A B:World}(h:KeepT σE A B){g:Nat}{c:Array Value}{t:TypeId}{fr:Nat × Nat}(hg:A.heap[g]?=some (.cells c t fr))(ht:σE t=true):B.heap[g]?=some (.cells c t fr):=h.same g _ hg ht
section
variable {F:Fence} {n m:Nat} {P:Program} {ops:Array Oper} {Q:Exit→Act→World→Prop} {i:Nat} {o:Oper} {K:Act→World→Prop} {a:Act} {w w':World}
theorem wpOpIn_yield2 (hF:∀ f,F.fn f)(hn:F.depth=none)(ho:ops[i]?=some o)(hw:Region.wanted o (yielded ops a.tmps)=true){l:Nat}{x y z:Operand}{ts:Array TypeId}{v u:Value}(hop:o.op=.call ⟨.value x,#[y,z],ts⟩)(hx:a.eval x=.func (.yield l) #[] #[])(hy:a.eval y=v)(hz:a.eval z=u)
  (h:YieldAt F (n - 1) P l #[v,u] w fun e w'=>∃ v,e=.returned v∧K (a.put o.dst v) w'):wpOpIn F n P ops Q i K a w:=by
 unfold wpOpIn
 rw [ho]
 simp only [hw,if_true]
 refine ⟨fun f _=>hF f,?_⟩
 obtain ⟨fn,tmps,assign,body,h1,h2⟩:=h
 have hr:(execOp a.eval o).run P w=.ok (.round l fn tmps assign body) w:=by
  simp only [execOp,hop,List.map_toArray,List.map_cons,List.map_nil,resolve,hx,hy,hz,Deferred.ofValue,invoke,callFunc,Sem.run_bind,Sem.run_pure,Result.andThen_ok]
  simpa using h1
 rw [Oper.semAt_eq _ _ _ (fun c e=>by rw [hop] at e;cases e),hr]
 refine ⟨fun h=>(by rw [hn] at h;cases h),RoundIn.mono h2 ?_⟩
 rintro e w2 ⟨v,rfl,hk⟩
 exact hk
theorem yieldAt_in {l l' n m:Nat}{P:Program}{args:Array Value}{W:World}{R:Ending→World→Prop}(h:YieldAt Fence.wide n P l' args W R):YieldAt (Fence.wide.inRound l) m P l' args W R:=by
 obtain ⟨fn,tmps,assign,body,h1,h2⟩:=h
 exact ⟨fn,tmps,assign,body,h1,h2.1,fun c cs hroom=>h2.2 c cs (room_wide _)⟩
end
def S9 (A B C:World→Prop)(fl:Nat→Bool)(u:Nat→Value)(w:World):Prop:=(fl 4=false∧A w)∨(fl 4=true∧∃ bb:Bool,u 17=.bool bb∧(fl 5=true→u 18=.bool (!bb))∧(match bb with | true=>B w | false=>C w))
section
variable {A B C:World→Prop} {fl:Nat→Bool} {u:Nat→Value} {w:World}
theorem S9.loc:Loc [4,5] [17,18] (S9 A B C):=by
 intro fl fl' u u' w hK hD h
 unfold S9 at *
 simp only [hK 4 (by decide),hK 5 (by decide),hD 17 (by decide),hD 18 (by decide)]
 exact h
theorem S9.was (h:S9 A B C fl u w)(f:fl 4=false):A w:=by
 rcases h with h | h
 ·exact h.2
 ·rw [f] at h;cases h.1
end
set_option maxHeartbeats 16000000 in
theorem each_seq (E:Env)(F:Fine E)(D:Pl)(H:Runs E D)(hfin:D.fin=0)(he:D.evs=[])(eB gB n:Nat)(hn:2≤n)(w0:World)(R0:Rel E D w0)(h1:w0.heap[eB]?=some (.cells #[.int .i64 0] 34 (0,0)))(h2:w0.heap[gB]?=some (.cells #[.pointer (some ⟨E.g,0,none⟩)] 53 (0,0))):
  SeqG τM σE w0.heap.size n Tryz.prog 22 #[] #[.pointer (some ⟨eB,0,none⟩),.pointer (some ⟨gB,0,none⟩)] encE (YE E D) (SE E D) (SpE E D) w0:=by
 intro l J Jx W hB hJ hJx hY hJ0
 have mo:Tryz.prog.follows .mixedOrders=true:=by kernel_rfl
 have R:=(R0.still hB).1
 have hzW:=hB.size
 have hmf:∀ (fn:Fn) (first cap:Array Value) (w:World),(Instr.makeFunc fn first cap).run Tryz.prog w=.ok (.func fn first cap) w:=fun _ _ _ _=>rfl
 have ce:=brow hB h1
 have cg:=brow hB h2
 have x1:W.cell? ⟨eB,0,none⟩=some (.int .i64 0):=by simp only [World.cell?,ce];rfl
 have x2:W.cell? ⟨gB,0,none⟩=some (.pointer (some ⟨E.g,0,none⟩)):=by simp only [World.cell?,cg];rfl
 have l1:=lt_of_cell x1
 have l2:=lt_of_cell x2
 have b1:=below_new (Below.refl W.heap.size W) (.cells #[.func (.yield l) #[] #[]] 69)
 have R1:=Lib.hid (R.still b1).1
 have r1:=heap_last W (.cells #[.func (.yield l) #[] #[]] 69) _ rfl
 have J0:=Lib.hid hJ0
 have HJ:=Lib.hid hJ
 have HJX:=Lib.hid hJx
 have HY:=Lib.hid hY
 clear hJ0 hJ hJx hY R0 R ce cg hB h1 h2
 show CallsIn Fence.wide n Tryz.prog 22 #[.func (.yield l) #[] #[],.pointer (some ⟨eB,0,none⟩),.pointer (some ⟨gB,0,none⟩)] W _
 refine callsIn_of_wp_marks Tryz.func22 rfl trivial ?_ rfl
 simp only [Tryz.ntmps22,List.size_toArray,List.length_cons,List.length_nil,Nat.reduceAdd,Nat.reduceSub,Array.replicate_succ,Array.replicate_zero,List.push_toArray,List.append_toArray,List.nil_append,List.cons_append]
 refine (wpIn_wide (n:=n)).2 ?_
 go_wp2_with fail
 generalize W.alloc (.cells #[.func (.yield l) #[] #[]] 69)=w1 at *
 refine (again_any E D w1 R1.out he).mono ?_
 rintro e w2 ⟨g,b,rfl,hg,b2,R2⟩
 have hW1:=b1.size
 have r2:=brow b2 r1
 have b3:=below_new (Below.refl w2.heap.size w2) (.cells #[.pointer (some ⟨g,0,none⟩)] 53)
 have r3:=brow b3 r2
 have q3:=heap_last w2 (.cells #[.pointer (some ⟨g,0,none⟩)] 53) _ rfl
 have b13:=(b1.trans (b2.mono hW1)).trans (b3.mono (Nat.le_trans hW1 b2.size))
 obtain ⟨E2,hE2⟩:∃ E2:Env,E2={ E with g:=g,b:=b,β:=w1.heap.size }:=⟨_,rfl⟩
 have R2':Rel E2 D w2:=by rw [hE2];exact R2
 have eg:E2.g=g:=by rw [hE2]
 have eβ:E2.β=w1.heap.size:=by rw [hE2]
 have ekf:E2.kf=E.kf:=by rw [hE2]
 have ex:E2.x=E.x:=by rw [hE2]
 have F2:Fine E2:=by rw [hE2];exact ⟨F.le,F.len,F.may,F.ok,F.jumps,F.into,F.on⟩
 have H2:Runs E2 D:=by rw [hE2];exact ⟨H.lo,H.hi,H.few,H.fuel⟩
 have SEQ:=Lib.hid (run_seq E2 F2 D H2 hfin (n - 1) w2 R2')
 have hz2:=b2.size
 have J3:=Lib.hid (HJ.out _ _ _ J0.out (.of_below b13))
 have HB3:=Lib.hid b3
 clear R1 R2 R2' J0 r2 b2 b1 r1 b13 hE2 x1 x2
 subst eg
 go_wp2_with fail
 generalize w2.alloc (.cells #[.pointer (some ⟨E2.g,0,none⟩)] 53)=w3 at *
 have hz3:=b3.size
 clear b3
 refine (wpIn_wide (n:=n)).1 ?_
 refine range_T (by omega) (gf:=15) (pa:=#[.pointer (some ⟨E2.g,0,none⟩)]) (lb:=#[]) rfl (enters_of Tryz.func15 (by kernel_rfl) rfl) SEQ.out HB3.out (fun _=>rfl)
  (fun pre w=>J (snapsE E D pre.length) w∧w.heap[W.heap.size]?=some (.cells #[.func (.yield l) #[] #[]] 69 (0,0))∧w.heap[w2.heap.size]?=some (.cells #[.pointer (some ⟨E2.g,0,none⟩)] 53 (0,0)))
  (fun cc pre w=>cc=.ret∧Jx (snapsE E D pre.length) w)
  (OwnFrom.and (fun s X Y row hs hgr hr=>HJ.out _ X Y hs (.of_grown hgr (fun j e=>by have:=(hr j e).1;omega))) (OwnFrom.and (row_own _ _ _ _) (row_own _ _ _ _))) (Yr.own E2 _ _)
  (fun cc s X Y row hs hgr hr=>⟨hs.1,HJX.out _ X Y hs.2 (.of_grown hgr (fun j e=>by have:=(hr j e).1;omega))⟩)
  (fun s A B h t=>⟨HJ.out _ A B h.1 (TurnG.of_T t (by omega)),Turn.row t h.2.1 (by decide),Turn.row t h.2.2 (by decide)⟩)
  (fun cc s A B h t=>⟨h.1,HJX.out _ A B h.2 (TurnG.of_T t (by omega))⟩) (Sr.own E2 _ _) (Spr.own E2 _ _) ⟨J3.out,r3,q3⟩ ?a1 ?assign ?body ?done ?stop
 case assign=>
  intro l x W K hK
  refine in_region (by decide) (fun _ _ h=>h) ?_
  intro K2 hK2
  go_wp2_with fail
  exact hK
 case body=>
  rintro l9 pre x9 W9 ⟨j1,j2,j3⟩ ⟨k,y1,y2,rfl,rfl,y5⟩
  have hlen:(ats E2 D k).length=k:=ats_len _ _ _
  rw [hlen] at j1
  have gk:Goes E D k:=(goes_with ekf ex D k).1 y1
  have ei:its E2 D k=its E D k:=its_with ekf ex D k
  rw [ei] at y2 y5
  have SN:=Lib.hid (fun w (b:Below W9.heap.size W9 w)=>snap_any E2 (its E D k) w (y5.still b).1)
  have YD:=Lib.hid (fun w (b:Below W9.heap.size W9 w)=>HY.out (snapsE E D k) ((its E D k).at_,(its E D k).snap) w (HJ.out _ W9 w j1 (.of_below b)) ⟨k,gk,y2,rfl,rfl⟩)
  rw [ei]
  refine wpIn_block ?_
  refine wpIn_seq ?_
  refine go_regd (F:=Fence.wide.inRound l9) (m:=n - 1 - 1) (S9 (fun w=>Below W9.heap.size W9 w) (fun w=>J (snapsE E D (k+1)) w∧KeepT σE W9 w∧KeepsFrom W.heap.size W9 w) (fun w=>Jx (snapsE E D (k+1)) w∧KeepT σE W9 w∧KeepsFrom W.heap.size W9 w)) [4,5] [17,18] [some (.func (.yield l) #[] #[]),some (.int .i64 (its E D k).at_),some (.pointer (some ⟨E2.g,0,none⟩)),some (.agg (its E D k).snap.toArray),none,none] mo S9.loc rfl rfl (by kernel_rfl) (fun fl w1 hfl b _=>.inl ⟨hfl 4 (by decide),b⟩) (
   yc (@fun fl ax wx cx=>cx.iv (fun _=>trivial) (ex_ld rfl (cx.rq 3 rfl) (brow (cx.S.was (cx.later 4 (by kernel_rfl))) j2) rfl Tryz.isAgg69) rfl rfl rfl) <|
   yc (@fun fl ax wx cx=>cx.iv (fun _=>trivial) (ex_mv rfl (cx.rq 5 rfl)) rfl rfl rfl) <|
   yc (@fun fl ax wx cx=>cx.iv (fun _=>trivial) (ex_ld rfl (cx.rq 4 rfl) (brow (cx.S.was (not_yet (i:=3) (k:=4) cx.clo (cx.later 3 (by kernel_rfl)) (by kernel_rfl))) j3) rfl Tryz.isAgg53) rfl rfl rfl) <|
   yc (@fun fl ax wx cx=>by
    have f4:=cx.later 4 (by kernel_rfl)
    have hb:=cx.S.was f4
    refine wpOpIn_call (fun _=>trivial) rfl cx.ho (wn rfl) (noDefer_of rfl) (exec_call rfl rfl rfl (args1 (cx.u 0 rfl)) Tryz.func24 (by decide +kernel) (by decide +kernel)) ((callsIn_wide (n:=n - 1 - 1 - 1)).2 ((SN.out wx hb).mono ?_))
    rintro e w' ⟨rfl,b9⟩
    exact ⟨_,rfl,_,rfl,own_some (n:=19) rfl cx.sz rfl,.inl ⟨(upd_old fl rfl).trans f4,hb.trans (b9.mono hb.size)⟩⟩) <|
   yc (@fun fl ax wx cx=>by
    have f4:fl 4=false:=cx.fi
    have hb:=cx.S.was f4
    refine wpOpIn_yield2 (fun _=>trivial) rfl cx.ho (wn rfl) rfl (cx.u 0 rfl) (cx.u 1 rfl) (cx.u 2 rfl) (yieldAt_in (n:=n - 1) ?_)
    refine YieldAt.mono (YD.out wx hb) ?_
    rw [← snapsE_succ]
    have kb:KeepT σE W9 wx:=⟨hb.size,fun q o hq _=>brow hb hq⟩
    have kf:KeepsFrom W.heap.size W9 wx:=⟨hb.size,fun q o _ hq _=>brow hb hq⟩
    rintro e w9 (⟨rfl,h1,h2,h3⟩ | ⟨rfl,h1,h2,h3⟩)
    ·exact ⟨_,rfl,_,rfl,trivial,.inr ⟨upd_new _ _,true,slot_new cx.sz rfl,fun h=>absurd ((upd_old fl rfl).symm.trans h) (by rw [cx.later 5 (by kernel_rfl)];decide),h1,kb.trans h2,kf.trans h3⟩⟩
    ·exact ⟨_,rfl,_,rfl,trivial,.inr ⟨upd_new _ _,false,slot_new cx.sz rfl,fun h=>absurd ((upd_old fl rfl).symm.trans h) (by rw [cx.later 5 (by kernel_rfl)];decide),h1,kb.trans h2,kf.trans h3⟩⟩) <|
   yc (@fun fl ax wx cx=>by
    rcases cx.S with h | ⟨h,bb,h17,_,h2⟩
    ·exact absurd h.1 (by rw [show fl 4=true from cx.did 0 rfl rfl];decide)
    ·refine wpOpIn_v (fun _=>trivial) cx.ho (wn rfl) (noDefer_of rfl) (ex_not (x:=.tmp 17) (c:=bb) rfl (show ax.eval (.tmp 17)=_ from h17)) ⟨_,rfl,trivial,?_⟩
     exact .inr ⟨(upd_old fl rfl).trans h,bb,(slot_old rfl).trans h17,fun _=>slot_new cx.sz rfl,h2⟩) <|
   yn) ?_
  intro a9 w9 f9
  obtain ⟨fl,hfl,hs⟩:=f9.s
  rcases hs with hs | ⟨_,bb,_,h18,hs⟩
  ·exact absurd hs.1 (by rw [hfl 4 (by decide)];decide)
  have h18:=h18 (hfl 5 (by decide))
  cases bb with
  | true=>
   obtain ⟨hj9,kp9,kf9⟩:=hs
   refine wpIn_cond_false (show a9.eval (.tmp 18)=.bool false from h18) ?_
   refine wpIn_skip ?_
   refine ⟨⟨kf9.size,fun q o hq h ho=>kf9.same q o (by omega) h ho⟩,keepE kp9,?_,keepE_row kp9 j2 (by decide),keepE_row kp9 j3 (by decide)⟩
   rw [List.length_append,hlen];exact hj9
  | false=>
   obtain ⟨hj9,kp9,kf9⟩:=hs
   refine wpIn_cond_true (show a9.eval (.tmp 18)=.bool true from h18) ?_
   refine wpIn_ret ?_
   refine ⟨⟨kf9.size,fun q o hq h ho=>kf9.same q o (by omega) h ho⟩,keepE kp9,rfl,?_⟩
   rw [List.length_append,hlen];exact hj9
 case stop=>
  rintro D9 c pre W9 hD ⟨k,s1,s2,rfl⟩ ⟨rfl,hx⟩ hK
  rw [ats_len] at hx
  have FO:=Lib.hid (show ∃ pre,SpE E D pre (W9.putObj D9 (.deferred none))∧Jx pre (W9.putObj D9 (.deferred none)) from
   ⟨_,⟨k,(goes_with ekf ex D k).1 s1,by rw [← its_with ekf ex D k];exact s2,rfl⟩,HJX.out _ W9 _ hx ⟨rfl,rfl,rfl,by simp [World.putObj],fun q o hq hg _=>(World.putObj_heap_other (by omega)).trans hq⟩⟩)
  clear hx s1 s2
  refine (wpIn_wide (n:=n)).2 ?_
  go_wp2_with fail
  exact ⟨by simp,.inl ⟨_,_,rfl,run_takeDeferred hK,_,results_none rfl _ _ _,⟨_,rfl⟩,.inr FO.out⟩⟩
 case done=>
  rintro D9 xs W9 hD ⟨m,hm,rfl,R9⟩ ⟨j9,_,_⟩ hK
  rw [ats_len] at j9
  have FO:=Lib.hid (show ∃ xs,SE E D xs (W9.putObj D9 (.deferred none))∧J xs (W9.putObj D9 (.deferred none)) from
   ⟨_,⟨m,(done_with ekf ex D m).1 hm,rfl⟩,HJ.out _ W9 _ j9 ⟨rfl,rfl,rfl,by simp [World.putObj],fun q o hq hg _=>(World.putObj_heap_other (by omega)).trans hq⟩⟩)
  clear j9 hm R9
  go_wp2_with fail
  exact ⟨by simp,.inl ⟨_,_,rfl,run_takeDeferred hK,_,results_none rfl _ _ _,⟨_,rfl⟩,.inl FO.out⟩⟩
end Go.Proofs.YtigliofiojkhcaaGreat.Mdl
namespace Go.Proofs.YtigliofiojkhcaaGreat.Mdl
open Go.RowKit Go.Maps Ins Trc
set_option maxRecDepth 100000
end Go.Proofs.YtigliofiojkhcaaGreat.Mdl
namespace Go.Proofs.YtigliofiojkhcaaGreat.Mdl
open Go.RowKit Go.Maps Ins Trc
set_option maxRecDepth 100000
theorem each_none (r:Int)(hr:¬ r=0)(eB gB n:Nat)(w0:World)(h1:w0.heap[eB]?=some (.cells #[.int .i64 r] 34 (0,0)))(Y:List (Int × List Value)→Int × List Value→World→Prop):
  SeqG τM σE w0.heap.size n Tryz.prog 22 #[] #[.pointer (some ⟨eB,0,none⟩),.pointer (some ⟨gB,0,none⟩)] encE Y (fun xs _=>xs=[]) (fun _ _=>False) w0:=by
 intro l J Jx W hB hJ hJx hY hJ0
 have ce:=brow hB h1
 have x1:W.cell? ⟨eB,0,none⟩=some (.int .i64 r):=by simp only [World.cell?,ce];rfl
 have l1:=lt_of_cell x1
 have e0:(r != 0)=true:=by simpa using hr
 have b1:=below_new (Below.refl W.heap.size W) (.cells #[.func (.yield l) #[] #[]] 69)
 have J1:=Lib.hid (hJ _ _ _ hJ0 (.of_below b1))
 clear hJ0 hJ hJx hY ce hB h1 hr b1
 show CallsIn Fence.wide n Tryz.prog 22 #[.func (.yield l) #[] #[],.pointer (some ⟨eB,0,none⟩),.pointer (some ⟨gB,0,none⟩)] W _
 refine callsIn_of_wp_marks Tryz.func22 rfl trivial ?_ rfl
 simp only [Tryz.ntmps22,List.size_toArray,List.length_cons,List.length_nil,Nat.reduceAdd,Nat.reduceSub,Array.replicate_succ,Array.replicate_zero,List.push_toArray,List.append_toArray,List.nil_append,List.cons_append]
 refine (wpIn_wide (n:=n)).2 ?_
 go_wp2_with fail
 exact ⟨_,results_none rfl _ _ _,⟨_,rfl⟩,.inl ⟨[],rfl,J1.out⟩⟩
theorem done_le {E:Env}{D:Pl}{m:Nat}(h:Done E D m)(h0:0≤D.fuel):(m:Int)≤D.fuel:=by
 rcases h with ⟨g,_⟩ | ⟨k,rfl,_,f,_⟩
 ·cases m with
  | zero=>exact h0
  | succ k=>
   have:=(g k (by omega)).1
   rw [itsV_fuel] at this
   omega
 ·rw [itsV_fuel] at f
  omega
def lastL (pre:List (Int × List Value)):Int:=(pre.getLast?.map (·.1)).getD (-1)
def AxC (fr:Int→List Value→Nat→Act)(B:Nat)(I:List (Int × List Value)→World→Prop)(Yk:List (Int × List Value)→Int × List Value→World→Prop)(pre:List (Int × List Value))(x:Int × List Value)(a':Act)(W':World):Prop:=
 ∃ sb,a'=fr x.1 x.2 sb∧I pre W'∧Yk pre x W'∧W'.heap[sb]?=some (.cells x.2.toArray 49 (0,0))∧B≤sb
theorem AxC.own {fr:Int→List Value→Nat→Act}{B B':Nat}{I:List (Int × List Value)→World→Prop}{Yk:List (Int × List Value)→Int × List Value→World→Prop}(hI:OwnFrom B I)(hY:∀ x,OwnFrom B (fun pre=>Yk pre x))(pre:List (Int × List Value))(x:Int × List Value)(a':Act):OwnFrom B (fun (_:Unit) W=>AxC fr B' I Yk pre x a' W):=
 fun s X Y row ⟨sb,h1,h2,h3,h4,h5⟩ hg hr=>⟨sb,h1,hI _ X Y row h2 hg hr,hY x _ X Y row h3 hg hr,row_own B sb _ _ () X Y row h4 hg hr,h5⟩
theorem YE.own (E:Env)(D:Pl)(B:Nat)(x:Int × List Value):OwnFrom B (fun pre=>YE E D pre x):=fun _ _ _ _ h _ _=>h
theorem SE.own (E:Env)(D:Pl)(B:Nat):OwnFrom B (SE E D):=fun _ _ _ _ h _ _=>h
theorem SpE.own (E:Env)(D:Pl)(B:Nat):OwnFrom B (SpE E D):=fun _ _ _ _ h _ _=>h
structure CW (W:World)(c:Int)(b o plen pcap g2 g4 V g6:Nat)(oc:Array Value)(fm:List Int)(pre:List (Int × List Value))(w:World):Prop where
 bel:Below W.heap.size W w
 prog:w.heap[W.heap.size]?=some (.cells #[.int .i64 c,.slice (some ⟨b,o,none⟩) plen pcap] 24 (0,0))
 res:w.heap[W.heap.size+1]?=some (.cells #[.bool false] 4 (0,0))
 out:w.heap[g2]?=some (.cells oc 33 (0,0))
 vis:w.heap[g4]?=some (.cells #[.slice (some ⟨V,0,none⟩) plen plen] 37 (0,0))
 n:w.heap[g6]?=some (.cells #[.int .i64 pre.length] 3 (0,0))
 last:w.heap[g6+1]?=some (.cells #[.int .i64 (lastL pre)] 3 (0,0))
 row:w.rowIs V 3 plen (fun i=>.int .i64 (cntP fm i - cntP (pre.map (·.1)) i))
theorem CW.mv {W:World}{c:Int}{b o plen pcap g2 g4 V g6:Nat}{oc:Array Value}{fm:List Int}{pre:List (Int × List Value)}{w w':World}(h:CW W c b o plen pcap g2 g4 V g6 oc fm pre w)(γ:Nat)(hg:W.heap.size+1<γ∧g2<γ∧g4<γ∧V<γ∧g6+1<γ)(bel:Below W.heap.size W w')
  (mv:∀ (g:Nat) (cs:Array Value) (t:TypeId),g<γ→τM t=false→w.heap[g]?=some (.cells cs t (0,0))→w'.heap[g]?=some (.cells cs t (0,0))):CW W c b o plen pcap g2 g4 V g6 oc fm pre w':=by
 obtain ⟨h1,h2,h3,h4,h5⟩:=hg
 refine ⟨bel,mv _ _ _ (by omega) (by decide) h.prog,mv _ _ _ (by omega) (by decide) h.res,mv _ _ _ (by omega) (by decide) h.out,mv _ _ _ (by omega) (by decide) h.vis,mv _ _ _ (by omega) (by decide) h.n,mv _ _ _ (by omega) (by decide) h.last,?_⟩
 obtain ⟨cur,e1,e2,e3⟩:=id h.row
 exact h.row.of_block ((mv _ _ _ h4 (by decide) e1).trans e1.symm)
theorem CW.below {W:World}{c:Int}{b o plen pcap g2 g4 V g6:Nat}{oc:Array Value}{fm:List Int}{pre:List (Int × List Value)}{w w':World}(h:CW W c b o plen pcap g2 g4 V g6 oc fm pre w)(k:Below w.heap.size w w'):CW W c b o plen pcap g2 g4 V g6 oc fm pre w':=by
 refine h.mv (W.heap.size+2+g2+1+g4+1+V+1+g6+2) (by omega) (h.bel.trans (k.mono h.bel.size)) (fun g cs t _ _ hg=>brow k hg)
theorem CW.ab {W:World}{c:Int}{b o plen pcap g2 g4 V g6:Nat}{oc:Array Value}{fm:List Int}{β γ:Nat}(hg:W.heap.size+1<γ∧g2<γ∧g4<γ∧V<γ∧g6+1<γ)(hβ:W.heap.size≤β):AbG τM β γ (CW W c b o plen pcap g2 g4 V g6 oc fm):=fun pre A B h t=>
 h.mv γ hg (TurnG.below h.bel t hβ (by omega) (Nat.le_refl _)) (fun g cs ty h1 h2 h3=>TurnG.row t h3 h1 h2)
end Go.Proofs.YtigliofiojkhcaaGreat.Mdl
namespace Go.Proofs.YtigliofiojkhcaaGreat.Mdl
open Go.RowKit Go.Maps Ins Trc
set_option maxRecDepth 100000
theorem bv_nat {a:Nat}(h:a<9223372036854775808):(BitVec.ofInt 64 (a:Int)).toNat=a:=by
 rw [BitVec.toNat_ofInt]
 show ((a:Int) % 18446744073709551616).toNat=a
 omega
theorem or_nat {a b:Nat}(ha:a<2048)(hb:b<2048):bits .or .i64 (a:Int) (b:Int)=((a ||| b:Nat):Int):=by
 have hl:a ||| b<2 ^ 11:=Nat.or_lt_two_pow ha hb
 show IntKind.i64.wrap ((BitVec.ofInt 64 (a:Int) ||| BitVec.ofInt 64 (b:Int)).toNat:Int)=_
 rw [BitVec.toNat_or,bv_nat (by omega),bv_nat (by omega),IntKind.wrap_i64]
 omega
end Go.Proofs.YtigliofiojkhcaaGreat.Mdl
namespace Go.Proofs.YtigliofiojkhcaaGreat.Mdl
open Go.RowKit Go.Maps Ins Trc
set_option maxRecDepth 100000
def bvI (z:Int):BitVec 64:=BitVec.ofInt 64 z
theorem bv_wrap (Z:BitVec 64):bvI (IntKind.i64.wrap (Z.toNat:Int))=Z:=by
 apply BitVec.eq_of_toNat_eq
 have h:=Z.isLt
 unfold bvI
 rw [BitVec.toNat_ofInt,IntKind.wrap_i64]
 show (((((Z.toNat:Int)+9223372036854775808) % 18446744073709551616 - 9223372036854775808)) % 18446744073709551616).toNat=_
 omega
theorem or_bv (a b:Int):bits .or .i64 a b=IntKind.i64.wrap ((bvI a ||| bvI b).toNat:Int):=rfl
theorem andNot_bv (a b:Int):bits .andNot .i64 a b=IntKind.i64.wrap ((bvI a &&& ~~~ bvI b).toNat:Int):=rfl
theorem and_bv (a b:Int):bits .and .i64 a b=IntKind.i64.wrap ((bvI a &&& bvI b).toNat:Int):=rfl
theorem rd_both {m s:Int}(h0:0≤m)(h1:m<9223372036854775808):(andM s m == m)=!(bits .andNot .i64 m s != 0):=by
 have hm:(bvI m).toNat=m.toNat:=by
  unfold bvI
  rw [BitVec.toNat_ofInt]
  show (m % 18446744073709551616).toNat=_
  omega
 have e1:andM s m=((bvI s &&& bvI m).toNat:Int):=by
  show bits .and .i64 s m=_
  rw [and_bv]
  have:(bvI s &&& bvI m).toNat≤m.toNat:=by rw [BitVec.toNat_and,hm];exact Nat.and_le_right
  rw [IntKind.wrap_i64];omega
 have e2:bits .andNot .i64 m s=((bvI m &&& ~~~ bvI s).toNat:Int):=by
  rw [andNot_bv]
  have:(bvI m &&& ~~~ bvI s).toNat≤m.toNat:=by rw [BitVec.toNat_and,hm];exact Nat.and_le_left
  rw [IntKind.wrap_i64];omega
 have key:bvI s &&& bvI m=bvI m↔bvI m &&& ~~~ bvI s=0#64:=by
  constructor
  ·intro h
   rw [← h]
   apply BitVec.eq_of_getLsbD_eq
   intro i hi
   simp only [BitVec.getLsbD_and,BitVec.getLsbD_not,hi,decide_true,Bool.true_and,BitVec.getLsbD_zero]
   cases (bvI s).getLsbD i <;> simp
  ·intro h
   apply BitVec.eq_of_getLsbD_eq
   intro i hi
   have:=congrArg (fun z=>BitVec.getLsbD z i) h
   simp only [BitVec.getLsbD_and,BitVec.getLsbD_not,hi,decide_true,Bool.true_and,BitVec.getLsbD_zero] at this ⊢
   revert this
   cases (bvI s).getLsbD i <;> cases (bvI m).getLsbD i <;> simp
 rw [e1,e2]
 apply Bool.eq_iff_iff.2
 simp only [beq_iff_eq,Bool.not_eq_true',bne_eq_false_iff_eq]
 constructor
 ·intro h
  have:bvI s &&& bvI m=bvI m:=BitVec.eq_of_toNat_eq (by rw [hm];omega)
  rw [key.1 this];rfl
 ·intro h
  have:bvI m &&& ~~~ bvI s=0#64:=BitVec.eq_of_toNat_eq (by show _=0;omega)
  rw [key.2 this,hm];omega
theorem onlyI_nat {r:Int}(h0:0≤r)(h1:r<11):∃ a:Nat,onlyI r=a∧a<2048:=⟨2 ^ r.toNat,rfl,Nat.lt_of_lt_of_le (Nat.pow_lt_pow_right (by omega) (show r.toNat<11 by omega)) (by decide)⟩
theorem or2 {a b:Nat}(ha:a<2048)(hb:b<2048):∃ c:Nat,orM (a:Int) (b:Int)=c∧c<2048:=⟨a ||| b,or_nat ha hb,Nat.or_lt_two_pow (n:=11) ha hb⟩
theorem reads_nat (x:Ins.In)(d0:0≤x.dst)(d1:x.dst<11)(s0:0≤x.src)(s1:x.src<11):∃ a:Nat,readsM x=a∧a<2048:=by
 obtain ⟨d,hd,ld⟩:=onlyI_nat d0 d1
 obtain ⟨s,hs,ls⟩:=onlyI_nat s0 s1
 have sec:∃ a:Nat,secondI x=a∧a<2048:=by
  unfold secondI
  split
  ·exact ⟨s,hs,ls⟩
  ·exact ⟨0,rfl,by decide⟩
 obtain ⟨t,ht,lt⟩:=sec
 have hA:∃ a:Nat,argsM (Ins.argsI x.imm)=a∧a<2048:=by
  have:0≤Ins.argsI x.imm∧Ins.argsI x.imm≤5:=by unfold Ins.argsI;split <;> omega
  have c:Ins.argsI x.imm=0∨Ins.argsI x.imm=1∨Ins.argsI x.imm=2∨Ins.argsI x.imm=3∨Ins.argsI x.imm=4∨Ins.argsI x.imm=5:=by omega
  rcases c with h | h | h | h | h | h <;> rw [h]
  ·exact ⟨0,rfl,by decide⟩
  ·exact ⟨2,rfl,by decide⟩
  ·exact ⟨6,rfl,by decide⟩
  ·exact ⟨14,rfl,by decide⟩
  ·exact ⟨30,rfl,by decide⟩
  ·exact ⟨62,rfl,by decide⟩
 unfold readsM
 rw [hd,hs,ht]
 split
 ·split
  ·exact ⟨t,rfl,lt⟩
  ·exact or2 ld lt
 split
 ·exact ⟨s,rfl,ls⟩
 split
 ·exact or2 ld ls
 split
 ·exact or2 ld lt
 split
 ·exact hA
 split
 ·exact ⟨1,rfl,by decide⟩
 ·exact ⟨0,rfl,by decide⟩
theorem rd_test {x:Ins.In}{s:Int}(d0:0≤x.dst)(d1:x.dst<11)(s0:0≤x.src)(s1:x.src<11)(h:(andM s (readsM x) == readsM x)=true):(bits .andNot .i64 (readsM x) s != 0)=false:=by
 obtain ⟨a,e,l⟩:=reads_nat x d0 d1 s0 s1
 rw [rd_both (by omega) (by omega)] at h
 simpa using h
theorem rd_fail {x:Ins.In}{s:Int}(d0:0≤x.dst)(d1:x.dst<11)(s0:0≤x.src)(s1:x.src<11)(h:(andM s (readsM x) == readsM x)=false):(bits .andNot .i64 (readsM x) s != 0)=true:=by
 obtain ⟨a,e,l⟩:=reads_nat x d0 d1 s0 s1
 rw [rd_both (by omega) (by omega)] at h
 simpa using h
theorem clr_bv (X b:BitVec 64):(X ||| b) &&& ~~~ b=X &&& ~~~ b:=by
 apply BitVec.eq_of_getLsbD_eq
 intro i hi
 simp only [BitVec.getLsbD_and,BitVec.getLsbD_or,BitVec.getLsbD_not,hi,decide_true,Bool.true_and]
 cases X.getLsbD i <;> cases b.getLsbD i <;> rfl
theorem clr2_bv (X a b:BitVec 64):X &&& ~~~ a &&& ~~~ b=X &&& ~~~ (a ||| b):=by
 apply BitVec.eq_of_getLsbD_eq
 intro i hi
 simp only [BitVec.getLsbD_and,BitVec.getLsbD_or,BitVec.getLsbD_not,hi,decide_true,Bool.true_and]
 cases X.getLsbD i <;> cases b.getLsbD i <;> cases a.getLsbD i <;> rfl
theorem clro_bv (X a b:BitVec 64)(h:b &&& ~~~ a=b):(X ||| b) &&& ~~~ a=(X &&& ~~~ a) ||| b:=by
 apply BitVec.eq_of_getLsbD_eq
 intro i hi
 have:=congrArg (fun z=>BitVec.getLsbD z i) h
 simp only [BitVec.getLsbD_and,BitVec.getLsbD_or,BitVec.getLsbD_not,hi,decide_true,Bool.true_and] at this ⊢
 revert this
 cases X.getLsbD i <;> cases b.getLsbD i <;> cases a.getLsbD i <;> simp
theorem clr_step (z b:Int):bits .andNot .i64 (orM z b) b=bits .andNot .i64 z b:=by
 show bits .andNot .i64 (bits .or .i64 z b) b=_
 rw [andNot_bv,or_bv,bv_wrap,clr_bv,← andNot_bv]
theorem clr_two (z a b c:Int)(h:bvI a ||| bvI b=bvI c):bits .andNot .i64 (bits .andNot .i64 z a) b=bits .andNot .i64 z c:=by
 rw [andNot_bv,andNot_bv,bv_wrap,clr2_bv,h,← andNot_bv]
theorem Md.clr_set (s:Md):(s.clr 5).set=bits .andNot .i64 s.set (argsM 5):=by
 show bits .andNot .i64 (orM (bits .andNot .i64 (orM (bits .andNot .i64 (orM (bits .andNot .i64 (orM (bits .andNot .i64 (orM s.set (onlyI 1)) (onlyI 1)) (onlyI 2)) (onlyI 2)) (onlyI 3)) (onlyI 3)) (onlyI 4)) (onlyI 4)) (onlyI 5)) (onlyI 5)=_
 rw [clr_step,clr_step,clr_step,clr_step,clr_step,clr_two _ _ _ 48 (by decide),clr_two _ _ _ 56 (by decide),clr_two _ _ _ 60 (by decide),clr_two _ _ _ 62 (by decide)]
 rfl
theorem called_set6 (z:Int):bits .andNot .i64 (orM z (onlyI 0)) (argsM 5)=orM (bits .andNot .i64 z (argsM 5)) (onlyI 0):=by
 show bits .andNot .i64 (bits .or .i64 z (onlyI 0)) (argsM 5)=bits .or .i64 _ _
 rw [andNot_bv,or_bv,bv_wrap,clro_bv _ _ _ (by decide),or_bv,andNot_bv,bv_wrap]
theorem Md.clr_r (s:Md):∀ k:Nat,(s.clr 5).r k=match k with | 1=>0 | 2=>0 | 3=>0 | 4=>0 | 5=>0 | k=>s.r k
 | 0=>by simp [Md.clr,Md.put,Md.setR]
 | 1=>by simp [Md.clr,Md.put,Md.setR]
 | 2=>by simp [Md.clr,Md.put,Md.setR]
 | 3=>by simp [Md.clr,Md.put,Md.setR]
 | 4=>by simp [Md.clr,Md.put,Md.setR]
 | 5=>by simp [Md.clr,Md.put,Md.setR]
 | n+6=>by simp [Md.clr,Md.put,Md.setR]
theorem Md.clr_rest (s:Md):(s.clr 5).ctx=s.ctx∧(s.clr 5).lv=s.lv∧(s.clr 5).mv=s.mv∧(s.clr 5).fr=s.fr∧(s.clr 5).at_=s.at_∧(s.clr 5).av=s.av∧(s.clr 5).tv=s.tv:=by simp [Md.clr,Md.put,Md.setR]
end Go.Proofs.YtigliofiojkhcaaGreat.Mdl
namespace Go.Proofs.YtigliofiojkhcaaGreat.Mdl
open Go.RowKit Go.Maps Ins Trc
set_option maxRecDepth 100000
theorem ex_ixR {ρ:Operand→Value}{o:Oper}{w:World}{x y:Operand}{g d:Nat}(ho:o.op=.indexAddr 46 x y)(hx:ρ x=.pointer (some ⟨g,3,none⟩))(hy:ρ y=.int .i8 (d:Int))(hd:d<11):(execOp ρ o).run Tryz.prog w=.ok (.value (.pointer (some ⟨g,3+d,none⟩))) w:=by
 simp [execOp,ho,hx,hy,go_sem]
 omega
def SC (k:Nat)(A B:World→Prop)(fl:Nat→Bool)(u:Nat→Value)(w:World):Prop:=(fl k=false∧A w)∨(fl k=true∧B w)
section
variable {k:Nat} {A B:World→Prop} {fl:Nat→Bool} {u u':Nat→Value} {w w':World}
theorem SC.loc:Loc [k] [] (SC k A B):=by
 intro fl fl' u u' w hK hD h
 unfold SC at *
 rw [hK k (by simp)]
 exact h
theorem SC.start (h:fl k=false)(a:A w):SC k A B fl u w:=.inl ⟨h,a⟩
theorem SC.was (h:SC k A B fl u w)(f:fl k=false):A w:=by
 rcases h with h | h
 ·exact h.2
 ·rw [f] at h;cases h.1
theorem SC.to (b:B w'):SC k A B (upd fl k) u' w':=.inr ⟨upd_new _ _,b⟩
theorem SC.fin (h:SC k A B fl u w)(f:fl k=true):B w:=by
 rcases h with h | h
 ·rw [f] at h;cases h.1
 ·exact h.2
end
theorem setCells_row {g:Nat}{t:TypeId}{fr:Nat × Nat}:∀ (vs:List Value) (o:Nat) (w:World) (cs:Array Value),w.heap[g]?=some (.cells cs t fr) →
  ∃ cs':Array Value,(w.setCells g o vs).heap[g]?=some (.cells cs' t fr)∧cs'.size=cs.size∧∀ j,j<cs.size→cs'[j]?=if o≤j∧j<o+vs.length then vs[j - o]? else cs[j]?
 | [],o,w,cs,h=>⟨cs,h,rfl,fun j _=>by rw [if_neg (by simp)]⟩
 | v :: r,o,w,cs,h=>by
  obtain ⟨c2,h1,h2,h3⟩:=setCells_row r (o+1) _ _ (setCell_row h o v)
  refine ⟨c2,h1,by rw [h2,Array.size_setIfInBounds],fun j hj=>?_⟩
  rw [h3 j (by rw [Array.size_setIfInBounds];exact hj),List.length_cons]
  by_cases e:j=o
  ·subst e
   rw [if_neg (by omega),if_pos (by omega),Array.getElem?_setIfInBounds,if_pos rfl,if_pos hj,Nat.sub_self];rfl
  ·by_cases h4:o+1≤j∧j<o+1+r.length
   ·rw [if_pos h4,if_pos (by omega),show j - o=(j - (o+1))+1 by omega,List.getElem?_cons_succ]
   ·rw [if_neg h4,if_neg (by omega),Array.getElem?_setIfInBounds,if_neg (fun h=>e h.symm)]
theorem setCells_but (g:Nat):∀ (vs:List Value) (o:Nat) (w:World),But g w (w.setCells g o vs)
 | [],o,w=>But.of_below (Below.refl _ _)
 | v :: r,o,w=>(But.set w g o v).trans (setCells_but g r (o+1) _)
theorem Md.fr_in {s:Md}{w:World}{g:Nat}(h:s.in_ w g)(f:Nat→Int):({ s with fr:=f }:Md).in_ (w.setCells g 15 (bytesOf f 64)) g:=by
 obtain ⟨c2,h1,h2,h3⟩:=setCells_row (bytesOf f 64) 15 w s.cells h
 have hs:=s.size
 rw [hs] at h2 h3
 rw [bytesOf_length] at h3
 have e:c2=({ s with fr:=f }:Md).cells:=Md.ext h2 (fun j hj=>by
  rw [h3 j hj]
  by_cases hi:15≤j∧j<15+64
  ·rw [if_pos hi,bytesOf_get f 64 _ (by omega)]
   unfold Md.cell
   rw [if_neg (by omega),if_neg (by omega),if_neg (by omega),if_neg (by omega),if_neg (by omega),if_pos (by omega)]
  ·rw [if_neg hi,s.get j hj]
   unfold Md.cell
   by_cases h0:j=0
   ·simp only [if_pos h0]
   by_cases h1:j=1
   ·simp only [if_neg h0,if_pos h1]
   by_cases h2:j=2
   ·simp only [if_neg h0,if_neg h1,if_pos h2]
   by_cases h3:j<14
   ·simp only [if_neg h0,if_neg h1,if_neg h2,if_pos h3]
   by_cases h4:j=14
   ·simp only [if_neg h0,if_neg h1,if_neg h2,if_neg h3,if_pos h4]
   ·simp only [if_neg h0,if_neg h1,if_neg h2,if_neg h3,if_neg h4,if_neg (show ¬ j<79 by omega)])
 unfold Md.in_
 rw [h1,e]
theorem Md.there {s:Md}{w:World}{g:Nat}(h:s.in_ w g)(o n:Nat)(hl:o+n≤82):w.there g o n:=fun j hj=>⟨by
 rw [Md.at h _ (by omega)];rfl,s.unfrozen h _⟩
theorem md6_inj {E:Env}{r:Nat}{D:Pl}{ctx ctx2:Int}{av tv av2 tv2:Value}{s:Md}(h:s=md6 E r D ctx av tv)(e:s.cells=(md6 E r D ctx2 av2 tv2).cells):s=md6 E r D ctx2 av2 tv2:=by
 subst h
 have g:∀ i,i<82→(md6 E r D ctx av tv).cell i=(md6 E r D ctx2 av2 tv2).cell i:=fun i hi=>by
  have h1:=(md6 E r D ctx av tv).get i hi
  rw [e,(md6 E r D ctx2 av2 tv2).get i hi] at h1
  simpa using h1.symm
 have h0:Value.int .i64 ctx=.int .i64 ctx2:=g 0 (by decide)
 have h1:av=av2:=g 80 (by decide)
 have h2:tv=tv2:=g 81 (by decide)
 injection h0 with _ h0
 subst h0 h1 h2
 rfl
theorem called_md (E:Env)(r:Nat)(D:Pl)(ctx:Int)(av tv ans tv':Value)(imm a:Int)(l:List Int):({ (md6 E r D ctx av tv).called ans tv' a with at_:=D.at_+1 }:Md)=md6 E r { D.called imm a l with at_:=D.at_+1 } ctx ans tv':=by
 obtain ⟨h1,h2,h3,h4,h5,h6,h7⟩:=Md.clr_rest (({ md6 E r D ctx av tv with av:=ans,tv:=tv' }:Md).put 0 a)
 unfold Md.called
 have hr:((({ md6 E r D ctx av tv with av:=ans,tv:=tv' }:Md).put 0 a).clr 5).r=(D.called imm a l).r:=by
  funext k
  rw [Md.clr_r]
  unfold Pl.called
  simp only
  split
  ·rfl
  ·rfl
  ·rfl
  ·rfl
  ·rfl
  ·rename_i n1 n2 n3 n4 n5
   show (if k=0 then a else D.r k)=_
   split
   ·rename_i h0;subst h0;rfl
   ·rename_i h0
    split <;> first | contradiction | rfl
 have hset:((({ md6 E r D ctx av tv with av:=ans,tv:=tv' }:Md).put 0 a).clr 5).set=(D.called imm a l).set:=by
  rw [Md.clr_set]
  exact called_set6 D.set
 generalize ((({ md6 E r D ctx av tv with av:=ans,tv:=tv' }:Md).put 0 a).clr 5)=q at *
 show (⟨q.ctx,q.lv,q.mv,q.r,q.set,q.fr,D.at_+1,q.av,q.tv⟩:Md)=_
 rw [h1,h2,h3,h4,h6,h7,hr,hset]
 rfl
section
variable {E:Env} {g r β g':Nat} {D:Pl} {W wx w1 w2:World} {ctx:Int} {av tv:Value} {S':MemS} {M':Rm.RefM} {a':Int}
theorem R6.wrote (R:R6 E g r β D W)(hin:(md6 E r D ctx av tv).in_ W g)(hA:Ans6 β W av D.ans)(hT:TrR β W tv D.evs)(hn:∀ j,tv.ownBlock=some j→j≠r)(b:Below W.heap.size W wx)(c:ChgAt g' wx w1)(ht:∃ c:Array Value,wx.heap[g']?=some (.cells c 5 (0,0)))(hg':β≤g')(m1:Rm.RefAt M' w1 r β)(m2:Rm.Sep M')(m3:Rm.Rel S' E.kf M')
  (k1:S'.cn=D.mem.cn) (k2:S'.n=D.mem.n) (hin2:(md6 E r { D with mem:=S',at_:=a' } ctx av tv).in_ w2 g) (t2:Trn [g] w1 w2):R6 E g r β { D with mem:=S',at_:=a' } w2∧TurnT τ6 β W w2:=by
 obtain ⟨cr,hr⟩:=ht
 have t1:Trn [g'] wx w1:=⟨c.os,c.tape,c.output,c.size,fun k hk hne=>c.block k hk (by simpa using hne)⟩
 have hinx:=Md.below hin b
 have hinx':wx.heap[g]?=some (.cells (md6 E r D ctx av tv).cells 65 (0,0)):=hinx
 have ne:g≠g':=fun e=>by rw [e,hr] at hinx';simp at hinx'
 have hin1':=t1.row hinx' (by simpa using ne)
 have G1:∀ (T:TypeId),5≠T→∀ j∈[g'],∃ c ty fr,wx.heap[j]?=some (.cells c ty fr)∧ty≠T:=fun T n j hj=>by
  rw [List.mem_singleton] at hj;subst hj
  exact ⟨_,_,_,hr,n⟩
 have G1':∀ (T U:TypeId),5≠T→5≠U→∀ j∈[g'],∃ c ty fr,wx.heap[j]?=some (.cells c ty fr)∧ty≠T∧ty≠U:=fun T U n m j hj=>by
  rw [List.mem_singleton] at hj;subst hj
  exact ⟨_,_,_,hr,n,m⟩
 have G2:∀ (T:TypeId),65≠T→∀ j∈[g],∃ c ty fr,w1.heap[j]?=some (.cells c ty fr)∧ty≠T:=fun T n j hj=>by
  rw [List.mem_singleton] at hj;subst hj
  exact ⟨_,_,_,hin1',n⟩
 have G2':∀ (T U:TypeId),65≠T→65≠U→∀ j∈[g],∃ c ty fr,w1.heap[j]?=some (.cells c ty fr)∧ty≠T∧ty≠U:=fun T U n m j hj=>by
  rw [List.mem_singleton] at hj;subst hj
  exact ⟨_,_,_,hin1',n,m⟩
 have t0:Trn [] W wx:=Trn.of_below b
 have n0:∀ (P:Nat→Prop),∀ j∈([]:List Nat),P j:=fun P j hj=>absurd hj (by simp)
 have H1:∀ j∈[g'],β≤j:=fun j hj=>by
  rw [List.mem_singleton] at hj;subst hj
  exact hg'
 have H2:∀ j∈[g],β≤j:=fun j hj=>by
  rw [List.mem_singleton] at hj;subst hj
  exact R.far.1
 have sz:W.heap.size≤w2.heap.size:=Nat.le_trans (Nat.le_trans b.size c.size) t2.size
 refine ⟨⟨⟨ctx,av,tv,hin2,((hA.trn t0 (n0 _)).trn t1 H1).trn t2 H2,((hT.trn t0 (n0 _)).trn t1 (G1' _ _ (by decide) (by decide))).trn t2 (G2' _ _ (by decide) (by decide)),hn⟩,((R.pr.trn t0 (n0 _)).trn t1 H1).trn t2 H2,⟨M',refAt_trn m1 t2 (by simpa using Ne.symm R.ne) (G2 _ (by decide)),m2,m3⟩,R.words,by show S'.cn≤16384;rw [k1];exact R.cn,by show S'.n≤256;rw [k2];exact R.n,R.ne,R.far.1,Nat.le_trans R.far.2 sz⟩,
  ((turn_of t0 (n0 _)).trans (turn_of t1 (fun j hj=>?_))).trans (turn_of t2 (fun j hj=>?_))⟩
 ·rw [List.mem_singleton] at hj;subst hj
  exact ⟨hg',_,_,_,hr,by decide⟩
 ·rw [List.mem_singleton] at hj;subst hj
  exact ⟨R.far.1,_,_,_,hin1',by decide⟩
theorem R6.rang {a:Int}{l:List Int}{imm:Int}{ab ao ca:Nat}{ps:List (Ev × Value)}{va tv':Value}{W w2:World}(R:R6 E g r β D W)(hans:D.ans=a :: l)(hin:(md6 E r D ctx av tv).in_ W g)(z0:∀ z∈a :: l,0≤z∧z<18446744073709551616)(e2:(a :: l).length≤ca)(hlt:ab<β)(hac:∀ j z,(a :: l)[j]?=some z→W.cell? ⟨ab,ao+j,none⟩=some (.int .u64 z))
  (p1:ps.map (·.1)=D.evs) (p2:W.ownsRow β 103 3 tv D.evs.length (cellsV ps)) (p3:∀ p∈ps,W.ownsRow β 30 1 p.2 p.1.args.length (p.1.args.map (.int .u64)))
  (o1:w2.ownsRow W.heap.size 30 1 va (Ins.argsI imm).toNat ((D.args (Ins.argsI imm).toNat).map (.int .u64))) (o2:w2.ownsRow β 103 3 tv' (D.evs.length+1) (cellsV ps ++ [.int .i64 imm,va,.int .u64 a]))
  (hin2:(md6 E r { D.called imm a l with at_:=a' } ctx (.slice (some ⟨ab,if ca=1 then ao else ao+1,none⟩) ((a :: l).length - 1) (ca - 1)) tv').in_ w2 g) (t:Trn (g :: tv.ownBlock.toList) W w2) (hn:∀ j,tv.ownBlock=some j→j≠r):R6 E g r β { D.called imm a l with at_:=a' } w2∧TurnT τ6 β W w2:=by
 obtain ⟨M,m1,m2,m3⟩:=R.mm
 have hG:∀ j∈g :: tv.ownBlock.toList,β≤j∧j≠r∧∃ c ty fr,W.heap[j]?=some (.cells c ty fr)∧(ty=65∨ty=103):=fun j hj=>by
  rcases List.mem_cons.1 hj with rfl | hj
  ·exact ⟨R.far.1,R.ne,_,_,_,hin,.inl rfl⟩
  ·have hb:tv.ownBlock=some j:=by simpa using hj
   refine ⟨(World.ownsRow.lt p2 j hb).1,hn j hb,?_⟩
   rcases p2.2 with ⟨h,_⟩ | ⟨g',cap,cur,h,h2,h3,_⟩
   ·rw [h] at hb;cases hb
   ·rw [h] at hb
    obtain rfl:g'=j:=by simpa [Value.ownBlock] using hb
    exact ⟨_,_,_,h3,.inr rfl⟩
 have hx:∀ (T:TypeId),65≠T→103≠T→∀ j∈g :: tv.ownBlock.toList,∃ c ty fr,W.heap[j]?=some (.cells c ty fr)∧ty≠T:=fun T n m j hj=>by
  obtain ⟨_,_,c,ty,fr,h1,h2⟩:=hG j hj
  exact ⟨c,ty,fr,h1,by rcases h2 with rfl | rfl <;> assumption⟩
 have m1':Rm.RefAt M w2 r β:=refAt_trn m1 t (fun hm=>(hG r hm).2.1 rfl) (hx _ (by decide) (by decide))
 refine ⟨⟨⟨ctx,_,tv',hin2,⟨fun z hz=>z0 z (by simp [show z∈l from hz]),_,_,rfl,?_,fun hl=>?_⟩,⟨ps ++ [(⟨imm,D.args (Ins.argsI imm).toNat,a⟩,va)],?_,?_,fun p hp=>?_⟩,fun j hj e=>?_⟩,R.pr.trn t (fun j hj=>(hG j hj).1),⟨M,m1',m2,m3⟩,fun k=>?_,R.cn,R.n,R.ne,R.far.1,Nat.le_trans R.far.2 t.size⟩,turn_of t (fun j hj=>?_)⟩
 ·show l.length≤ca - 1
  simp at e2;omega
 ·change l≠[] at hl
  have:0<l.length:=List.length_pos_iff.2 hl
  refine ⟨ab,ao+1,by rw [if_neg (by simp at e2;omega)],hlt,fun j z hz=>?_⟩
  have:=hac (j+1) z (show (a :: l)[j+1]?=some z from (List.getElem?_cons_succ).trans hz)
  rw [show ao+1+j=ao+(j+1) by omega]
  exact cell_trn t (fun hm=>by have:=(hG ab hm).1;omega) this
 ·show List.map _ _=D.evs ++ _
  rw [List.map_append,p1];rfl
 ·show w2.ownsRow β _ 3 tv' (D.evs ++ [_]).length _
  rw [List.length_append,cellsV_append]
  exact o2
 ·rcases List.mem_append.1 hp with hp | hp
  ·refine own_trn (p3 p hp) t (fun j hj hg=>?_)
   obtain ⟨c,ty,fr,h1,h2⟩:=hx 30 (by decide) (by decide) j hg
   exact own_ne (p3 p hp) h1 h2.symm j hj rfl
  ·rw [List.mem_singleton] at hp;subst hp
   have:=own_base o1 R.far.2
   show w2.ownsRow β _ 1 va (D.args (Ins.argsI imm).toNat).length ((D.args (Ins.argsI imm).toNat).map (.int .u64))
   rw [show (D.args (Ins.argsI imm).toNat).length=(Ins.argsI imm).toNat by simp [Pl.args]]
   exact this
 ·subst e
  rcases o2.2 with ⟨h,_⟩ | ⟨g',cap,cur,h,h2,h3,h4,h5,h6,h7⟩
  ·rw [h] at hj;cases hj
  ·rw [h] at hj
   obtain rfl:g'=j:=by simpa [Value.ownBlock] using hj
   have c0:=m1'.c0
   simp only [World.cell?,h3] at c0
   have hi:∃ q:Int,(cellsV ps ++ [Value.int .i64 imm,va,.int .u64 a])[0]?=some (.int .i64 q):=by
    cases ps with
    | nil=>exact ⟨imm,rfl⟩
    | cons p ps=>exact ⟨p.1.num,rfl⟩
   obtain ⟨q,hq⟩:=hi
   have hl:0<(D.evs.length+1) * 3:=by omega
   rw [← h7,List.getElem?_take_of_lt hl,Array.getElem?_toList] at hq
   have c0':cur[0]?=some M.k.v:=c0
   rw [hq] at c0'
   unfold Rm.Rw.v at c0'
   cases c0'
 ·unfold Pl.called
  simp only
  have av0:0≤a∧a<18446744073709551616:=z0 a (by simp)
  split <;> first | exact av0 | exact ⟨by decide,by decide⟩ | exact R.words _
 ·obtain ⟨h0,_,c,ty,fr,h1,h2⟩:=hG j hj
  exact ⟨h0,c,ty,fr,h1,by rcases h2 with rfl | rfl <;> decide⟩
end
end Go.Proofs.YtigliofiojkhcaaGreat.Mdl
