import Derived.Test.YtigliofiojkhcaaGreatMRn17
import Derived.Test.YtigliofiojkhcaaGreatMRn15
import Derived.OrdersIn
import Derived.RangeFuncSeq
set_option linter.unusedVariables false
set_option linter.unusedSimpArgs false
set_option linter.unnecessarySimpa false
namespace Go.Proofs.YtigliofiojkhcaaGreat.Mdl
open Go.RowKit
set_option linter.unusedVariables false
set_option linter.unusedSimpArgs false
set_option maxRecDepth 100000
theorem Rel.apart {E:Env} {D:Pl} {W:World} (R:Rel E D W) {av tv:Value} (hin:(E.mo D av tv).in_ W E.g):E.g ≠ E.b:=by
  intro e
  obtain ⟨c,r1,_,_⟩:=R.mm.at_.row
  rw [← e] at r1
  unfold Mo.in_ at hin
  rw [hin] at r1
  simp at r1
theorem Rel.turnG {E:Env} {D D':Pl} {W w':World} {av tv:Value} (R:Rel E D W) (hin:(E.mo D av tv).in_ W E.g) (hA:AnsR W av D.ans) (hT:TrR E.β W tv D.evs) (hin':(E.mo D' av tv).in_ w' E.g) (t:Trn [E.g] W w') (ha:D'.ans=D.ans) (he:D'.evs=D.evs) (hm:D'.mem=D.mem) (hw:Words D'):Rel E D' w' ∧ TurnT τM E.β W w':=by
  have hg:∀ j ∈ [E.g],∃ c ty fr,W.heap[j]?=some (.cells c ty fr) ∧ ty=78:=fun j hj=>by
    rw [List.mem_singleton] at hj;subst hj
    exact ⟨_,_,_,hin,rfl⟩
  have hx:∀ (T:TypeId),78 ≠ T → ∀ j ∈ [E.g],∃ c ty fr,W.heap[j]?=some (.cells c ty fr) ∧ ty ≠ T:=fun T n j hj=>by
    obtain ⟨c,ty,fr,h1,rfl⟩:=hg j hj
    exact ⟨c,_,fr,h1,n⟩
  have hxy:∀ (T U:TypeId),78 ≠ T → 78 ≠ U → ∀ j ∈ [E.g],∃ c ty fr,W.heap[j]?=some (.cells c ty fr) ∧ ty ≠ T ∧ ty ≠ U:=fun T U n m j hj=>by
    obtain ⟨c,ty,fr,h1,rfl⟩:=hg j hj
    exact ⟨c,_,fr,h1,n,m⟩
  refine ⟨⟨⟨av,tv,hin',by rw [ha];exact hA.trn t (hx _ (by decide)),by rw [he];exact hT.trn t (hxy _ _ (by decide) (by decide))⟩,R.pr.trn t (hx _ (by decide)),by rw [hm];exact Mem.trn R.mm t (hxy _ _ (by decide) (by decide)),hw,R.far.1,R.far.2.1,Nat.le_trans R.far.2.2 t.size⟩,turn_of t (fun j hj=>?_)⟩
  obtain ⟨c,ty,fr,h1,rfl⟩:=hg j hj
  rw [List.mem_singleton] at hj;subst hj
  exact ⟨R.far.1,c,_,fr,h1,by decide⟩
theorem Rel.still {E:Env} {D:Pl} {W w':World} (R:Rel E D W) (b:Below W.heap.size W w'):Rel E D w' ∧ TurnT τM E.β W w':=by
  obtain ⟨av,tv,hin,hA,hT⟩:=R.st
  exact R.turnG hin hA hT (Mo.below hin b) (Trn.of_below b) rfl rfl rfl R.words
def methF (k:Int):Nat:=if k=0 then 30 else if k=1 then 31 else if k=2 then 32 else if k=3 then 33 else if k=4 then 34 else if k=5 then 35 else 36
abbrev Exe (E:Env) (D:Pl) (x:Ins.In) (W:World):Prop:=Calls Tryz.prog (methF x.kind) #[.pointer (some ⟨E.g,0,none⟩),.agg x.cells] W fun e w'=>e=.returned (.int .i8 (D.exe E.kf x).2) ∧ Rel E (D.exe E.kf x).1 w' ∧ TurnT τM E.β W w'
theorem nat_of {z:Int} (h0:0 ≤ z) (h1:z < 11):∃ n:Nat,z=n ∧ n < 11:=⟨z.toNat,by omega,by omega⟩
theorem exe_0 (E:Env) (D:Pl) (op width size:Int) (byReg:Bool) (dst src off imm:Int) (W:World) (R:Rel E D W) (d0:0 ≤ dst) (d1:dst < 11) (s0:0 ≤ src) (s1:src < 11):Exe E D ⟨0,op,width,size,byReg,dst,src,off,imm⟩ W:=by
  obtain ⟨av,tv,hin,hA,hT⟩:=R.st
  obtain ⟨d,rfl,hd⟩:=nat_of d0 d1
  refine (alu_any (E.mo D av tv) E.g d 0 op width size byReg src off imm W hin R.words hd s0 s1).mono ?_
  rintro e w' ⟨rfl,hin',t⟩
  have:=R.turnG (D':=D.put d (doI op width (D.r d) (D.opd ⟨0,op,width,size,byReg,d,src,off,imm⟩))) hin hA hT hin' (But.trn t) rfl rfl rfl (Pl.put_words R.words d (doI_word op width (R.words d) (Pl.opd_word R.words _)))
  exact ⟨rfl,this.1,this.2⟩
theorem exe_1 (E:Env) (D:Pl) (op width size:Int) (byReg:Bool) (dst src off imm:Int) (W:World) (R:Rel E D W) (d0:0 ≤ dst) (d1:dst < 11) (s0:0 ≤ src) (s1:src < 11) (o0:-9223372036854775808 ≤ off) (o1:off ≤ 9223372036854775807) (hs:size=1 ∨ size=2 ∨ size=4 ∨ size=8):Exe E D ⟨1,op,width,size,byReg,dst,src,off,imm⟩ W:=by
  obtain ⟨av,tv,hin,hA,hT⟩:=R.st
  obtain ⟨d,rfl,hd⟩:=nat_of d0 d1
  obtain ⟨n,rfl,hn⟩:=nat_of s0 s1
  obtain ⟨m,rfl⟩:∃ m:Nat,size=m:=⟨size.toNat,by omega⟩
  have hm:szB m=true:=by rcases hs with h | h | h | h <;> (rw [h];rfl)
  refine (load_any (E.mo D av tv) E.g d n m E.b D.mem E.kf 1 op width byReg off imm W hin R.words hd hn hm o0 o1 rfl R.mm).mono ?_
  rintro e w' ⟨rfl,hin',t⟩
  by_cases hr:readE D.mem (adI (D.r n) off) m=0
  · rw [if_pos (show readE D.mem (adI ((E.mo D av tv).r n) off) m=0 from hr)] at hin' ⊢
    have:=R.turnG (D':=D.put d (readV D.mem E.kf (adI (D.r n) off) m)) hin hA hT hin' (But.trn t) rfl rfl rfl (Pl.put_words R.words d (readV_bd R.mm _ hm))
    have ex:D.exe E.kf ⟨1,op,width,m,byReg,d,n,off,imm⟩=(D.put d (readV D.mem E.kf (adI (D.r n) off) m),0):=by
      show (if readE D.mem (adI (D.r n) off) m=0 then _ else _)=_
      rw [if_pos hr];rfl
    rw [ex]
    exact ⟨rfl,this.1,this.2⟩
  · rw [if_neg (show ¬ readE D.mem (adI ((E.mo D av tv).r n) off) m=0 from hr)] at hin' ⊢
    have:=R.turnG (D':=D) hin hA hT hin' (But.trn t) rfl rfl rfl R.words
    have ex:D.exe E.kf ⟨1,op,width,m,byReg,d,n,off,imm⟩=(D,3):=by
      show (if readE D.mem (adI (D.r n) off) m=0 then _ else _)=_
      rw [if_neg hr]
    rw [ex]
    exact ⟨rfl,this.1,this.2⟩
theorem exe_2 (E:Env) (D:Pl) (op width size:Int) (byReg:Bool) (dst src off imm:Int) (W:World) (R:Rel E D W) (d0:0 ≤ dst) (d1:dst < 11) (s0:0 ≤ src) (s1:src < 11) (o0:-9223372036854775808 ≤ off) (o1:off ≤ 9223372036854775807) (hs:size=1 ∨ size=2 ∨ size=4 ∨ size=8):Exe E D ⟨2,op,width,size,byReg,dst,src,off,imm⟩ W:=by
  obtain ⟨av,tv,hin,hA,hT⟩:=R.st
  obtain ⟨d,rfl,hd⟩:=nat_of d0 d1
  obtain ⟨n,rfl,hn⟩:=nat_of s0 s1
  obtain ⟨m,rfl⟩:∃ m:Nat,size=m:=⟨size.toNat,by omega⟩
  have hm:szB m=true:=by rcases hs with h | h | h | h <;> (rw [h];rfl)
  by_cases hl:locI D.mem.cn D.mem.n D.mem.hs (adI (D.r d) off) m ≤ 1
  · have ex:D.exe E.kf ⟨2,op,width,m,byReg,d,n,off,imm⟩=(D,3):=by
      show (if locI D.mem.cn D.mem.n D.mem.hs (adI (D.r d) off) m ≤ 1 then _ else _)=_
      rw [if_pos hl]
    unfold Exe
    rw [ex]
    refine (store_no (E.mo D av tv) E.g d n m E.b D.mem E.kf 2 op width byReg off imm W hin R.words hd hn hm o0 o1 rfl R.mm hl).mono ?_
    rintro e w' ⟨rfl,t⟩
    have:=R.still t
    exact ⟨rfl,this.1,this.2⟩
  · have ex:D.exe E.kf ⟨2,op,width,m,byReg,d,n,off,imm⟩=({ D with mem:=D.mem.putAt (adI (D.r d) off) m (D.r n) },0):=by
      show (if locI D.mem.cn D.mem.n D.mem.hs (adI (D.r d) off) m ≤ 1 then _ else _)=_
      rw [if_neg hl];rfl
    unfold Exe
    rw [ex]
    refine (store_yes (E.mo D av tv) E.g d n m E.b D.mem E.kf 2 op width byReg off imm W hin R.words hd hn hm o0 o1 rfl R.mm (by show 1 < locI D.mem.cn D.mem.n D.mem.hs (adI (D.r d) off) m;omega) (R.apart hin)).mono ?_
    rintro e w' ⟨rfl,hat,t0⟩
    have t:=But.trn t0
    obtain ⟨c0,r1,_,_⟩:=R.mm.at_.row
    have hg:∀ j ∈ [E.b],∃ c ty fr,W.heap[j]?=some (.cells c ty fr) ∧ ty=111:=fun j hj=>by
      rw [List.mem_singleton] at hj;subst hj
      exact ⟨_,_,_,r1,rfl⟩
    have hx:∀ (T:TypeId),111 ≠ T → ∀ j ∈ [E.b],∃ c ty fr,W.heap[j]?=some (.cells c ty fr) ∧ ty ≠ T:=fun T n j hj=>by
      obtain ⟨c,ty,fr,h1,rfl⟩:=hg j hj
      exact ⟨c,_,fr,h1,n⟩
    have hxy:∀ (T U:TypeId),111 ≠ T → 111 ≠ U → ∀ j ∈ [E.b],∃ c ty fr,W.heap[j]?=some (.cells c ty fr) ∧ ty ≠ T ∧ ty ≠ U:=fun T U n m j hj=>by
      obtain ⟨c,ty,fr,h1,rfl⟩:=hg j hj
      exact ⟨c,_,fr,h1,n,m⟩
    refine ⟨rfl,⟨⟨av,tv,t.row hin (by simpa using R.apart hin),hA.trn t (hx _ (by decide)),hT.trn t (hxy _ _ (by decide) (by decide))⟩,R.pr.trn t (hx _ (by decide)),⟨hat,?_,R.mm.kb⟩,R.words,R.far.1,R.far.2.1,Nat.le_trans R.far.2.2 t.size⟩,turn_of t (fun j hj=>?_)⟩
    · obtain ⟨c2,q1,q2,q3⟩:=R.mm.code
      exact ⟨c2,t.row (g:=D.mem.cb) q1 (by simpa using R.mm.at_.far),q2,q3⟩
    · obtain ⟨c,ty,fr,h1,rfl⟩:=hg j hj
      rw [List.mem_singleton] at hj;subst hj
      exact ⟨R.far.2.1,c,_,fr,h1,by decide⟩
theorem exe_3 (E:Env) (D:Pl) (op width size:Int) (byReg:Bool) (dst src off imm:Int) (W:World) (R:Rel E D W) (d0:0 ≤ dst) (d1:dst < 11) (s0:0 ≤ src) (s1:src < 11) (t1:1 ≤ D.at_) (t2:D.at_ ≤ 64):Exe E D ⟨3,op,width,size,byReg,dst,src,off,imm⟩ W:=by
  obtain ⟨av,tv,hin,hA,hT⟩:=R.st
  obtain ⟨d,rfl,hd⟩:=nat_of d0 d1
  refine (jump_any (E.mo D av tv) E.g d 3 op width size byReg src off imm W hin R.words hd s0 s1 t1 t2).mono ?_
  rintro e w' ⟨rfl,hin',t⟩
  unfold Mo.jump at hin'
  by_cases hh:holdsB op 64 (D.r d) (D.opd ⟨3,op,width,size,byReg,d,src,off,imm⟩)=true
  · have ex:D.exe E.kf ⟨3,op,width,size,byReg,d,src,off,imm⟩=({ D with at_:=Ins.targetI (D.at_ - 1) ⟨3,op,width,size,byReg,d,src,off,imm⟩ },0):=by
      show ((if holdsB op 64 (D.r d) (D.opd ⟨3,op,width,size,byReg,d,src,off,imm⟩)=true then _ else _),_)=_
      rw [if_pos hh]
    rw [if_pos (by exact hh)] at hin'
    rw [ex]
    have:=R.turnG (D':={ D with at_:=Ins.targetI (D.at_ - 1) ⟨3,op,width,size,byReg,d,src,off,imm⟩ }) hin hA hT hin' (But.trn t) rfl rfl rfl R.words
    exact ⟨rfl,this.1,this.2⟩
  · have ex:D.exe E.kf ⟨3,op,width,size,byReg,d,src,off,imm⟩=(D,0):=by
      show ((if holdsB op 64 (D.r d) (D.opd ⟨3,op,width,size,byReg,d,src,off,imm⟩)=true then _ else _),_)=_
      rw [if_neg hh]
    rw [if_neg (by exact hh)] at hin'
    rw [ex]
    have:=R.turnG (D':=D) hin hA hT hin' (But.trn t) rfl rfl rfl R.words
    exact ⟨rfl,this.1,this.2⟩
theorem exe_4 (E:Env) (D:Pl) (x:Ins.In) (hk:x.kind=4) (W:World) (R:Rel E D W) (t1:1 ≤ D.at_) (t2:D.at_ ≤ 64):Exe E D x W:=by
  obtain ⟨av,tv,hin,hA,hT⟩:=R.st
  have ex:D.exe E.kf x=({ D with at_:=Ins.targetI (D.at_ - 1) x },0):=by unfold Pl.exe;simp [hk]
  unfold Exe
  rw [ex,show methF x.kind=34 by rw [hk];rfl]
  refine (continueAt_any (E.mo D av tv) E.g x W hin t1 t2).mono ?_
  rintro e w' ⟨rfl,hin',t⟩
  have:=R.turnG (D':={ D with at_:=Ins.targetI (D.at_ - 1) x }) hin hA hT hin' (But.trn t) rfl rfl rfl R.words
  exact ⟨rfl,this.1,this.2⟩
theorem exe_6 (E:Env) (D:Pl) (x:Ins.In) (hk:x.kind=6) (W:World) (R:Rel E D W):Exe E D x W:=by
  have ex:D.exe E.kf x=(D,1):=by unfold Pl.exe;simp [hk]
  unfold Exe
  rw [ex,show methF x.kind=36 by rw [hk];rfl]
  refine (exit_any _ x W).mono ?_
  rintro e w' ⟨rfl,t⟩
  have:=R.still t
  exact ⟨rfl,this.1,this.2⟩
theorem exe_5 (E:Env) (D:Pl) (op width size:Int) (byReg:Bool) (dst src off imm:Int) (W:World) (R:Rel E D W) (hn:D.evs.length ≤ 10000):Exe E D ⟨5,op,width,size,byReg,dst,src,off,imm⟩ W:=by
  obtain ⟨av,tv,hin,hA,hT⟩:=R.st
  obtain ⟨z0,aa,ca,e1,e2,e3⟩:=hA
  cases hans:D.ans with
  | nil=>
    have ex:D.exe E.kf ⟨5,op,width,size,byReg,dst,src,off,imm⟩=(D,2):=by unfold Pl.exe;simp [hans]
    unfold Exe
    rw [ex]
    rw [hans] at e1
    refine (call_no (E.mo D av tv) E.g ca aa _ W hin e1).mono ?_
    rintro e w' ⟨rfl,t⟩
    have:=R.still t
    exact ⟨rfl,this.1,this.2⟩
  | cons a l=>
    have ex:D.exe E.kf ⟨5,op,width,size,byReg,dst,src,off,imm⟩=(D.called imm a l,0):=by unfold Pl.exe;simp [hans]
    unfold Exe
    rw [ex]
    obtain ⟨ab,ao,ac,rfl,hrow,hac⟩:=e3 (by rw [hans];simp)
    obtain ⟨ps,p1,p2,p3⟩:=hT
    rw [hans] at e1 e2 hac z0
    have hT':W.ownsRow E.β 103 3 (E.mo D av tv).trace D.evs.length (cellsV ps):=p2
    refine (call_yes (E.mo D av tv) E.g ab ao (a :: l).length ca E.β D.evs.length a ac (cellsV ps) 5 op width size byReg dst src off imm W hin (by simp) e1 hrow (by simpa using hac 0 a rfl) hT' R.far.2.2 hn).mono ?_
    rintro e w' ⟨rfl,va,tv',o1,o2,hin',t⟩
    have hG:∀ j ∈ E.g :: (E.mo D av tv).trace.ownBlock.toList,E.β ≤ j ∧ ∃ c ty fr,W.heap[j]?=some (.cells c ty fr) ∧ (ty=78 ∨ ty=103):=fun j hj=>by
      rcases List.mem_cons.1 hj with rfl | hj
      · exact ⟨R.far.1,_,_,_,hin,.inl rfl⟩
      · have hb:(E.mo D av tv).trace.ownBlock=some j:=by simpa using hj
        refine ⟨(World.ownsRow.lt hT' j hb).1,?_⟩
        rcases hT'.2 with ⟨h,_⟩ | ⟨g',cap,cur,h,h2,h3,_⟩
        · rw [h] at hb;cases hb
        · rw [h] at hb
          obtain rfl:g'=j:=by simpa [Value.ownBlock] using hb
          exact ⟨_,_,_,h3,.inr rfl⟩
    have hx:∀ (T:TypeId),78 ≠ T → 103 ≠ T → ∀ j ∈ E.g :: (E.mo D av tv).trace.ownBlock.toList,∃ c ty fr,W.heap[j]?=some (.cells c ty fr) ∧ ty ≠ T:=fun T n m j hj=>by
      obtain ⟨_,c,ty,fr,h1,h2⟩:=hG j hj
      exact ⟨c,ty,fr,h1,by rcases h2 with rfl | rfl <;> assumption⟩
    have hxy:∀ (T U:TypeId),78 ≠ T → 103 ≠ T → 78 ≠ U → 103 ≠ U → ∀ j ∈ E.g :: (E.mo D av tv).trace.ownBlock.toList,∃ c ty fr,W.heap[j]?=some (.cells c ty fr) ∧ ty ≠ T ∧ ty ≠ U:=fun T U n m n' m' j hj=>by
      obtain ⟨_,c,ty,fr,h1,h2⟩:=hG j hj
      exact ⟨c,ty,fr,h1,by rcases h2 with rfl | rfl <;> assumption,by rcases h2 with rfl | rfl <;> assumption⟩
    have av0:0 ≤ a ∧ a < 18446744073709551616:=z0 a (by simp)
    refine ⟨rfl,⟨⟨_,tv',hin',⟨fun z hz=>z0 z (by simp [show z ∈ l from hz]),_,_,rfl,?_,fun hl=>?_⟩,ps ++ [(⟨imm,D.args (Ins.argsI imm).toNat,a⟩,va)],?_,?_,fun p hp=>?_⟩,R.pr.trn t (hx _ (by decide) (by decide)),Mem.trn R.mm t (hxy _ _ (by decide) (by decide) (by decide) (by decide)),fun k=>?_,R.far.1,R.far.2.1,Nat.le_trans R.far.2.2 t.size⟩,turn_of t (fun j hj=>?_)⟩
    · show l.length ≤ ca - 1
      simp at e2;omega
    · change l ≠ [] at hl
      have:0 < l.length:=List.length_pos_iff.2 hl
      refine ⟨ab,ao + 1,ac,by rw [if_neg (by simp at e2;omega)],t.row hrow (fun hg=>?_),fun j z hz=>?_⟩
      · obtain ⟨c,ty,fr,h1,h2⟩:=hx 30 (by decide) (by decide) ab hg
        rw [hrow] at h1;simp at h1;exact h2 h1.2.1.symm
      · have:=hac (j + 1) z (show (a :: l)[j + 1]?=some z from (List.getElem?_cons_succ).trans hz)
        rw [show ao + 1 + j=ao + (j + 1) by omega];exact this
    · show List.map _ _=D.evs ++ _
      rw [List.map_append,p1];rfl
    · show w'.ownsRow E.β _ 3 tv' (D.evs ++ [_]).length _
      rw [List.length_append,cellsV_append]
      exact o2
    · rcases List.mem_append.1 hp with hp | hp
      · refine own_trn (p3 p hp) t (fun j hj hg=>?_)
        obtain ⟨c,ty,fr,h1,h2⟩:=hx 30 (by decide) (by decide) j hg
        exact own_ne (p3 p hp) h1 h2.symm j hj rfl
      · rw [List.mem_singleton] at hp;subst hp
        have:=own_base o1 R.far.2.2
        show w'.ownsRow E.β _ 1 va (D.args (Ins.argsI imm).toNat).length ((D.args (Ins.argsI imm).toNat).map (.int .u64))
        rw [show (D.args (Ins.argsI imm).toNat).length=(Ins.argsI imm).toNat by simp [Pl.args]]
        exact this
    · unfold Pl.called
      simp only
      split <;> first | exact av0 | exact ⟨by decide,by decide⟩ | exact R.words _
    · obtain ⟨h0,c,ty,fr,h1,h2⟩:=hG j hj
      exact ⟨h0,c,ty,fr,h1,by rcases h2 with rfl | rfl <;> decide⟩
theorem exe_any (E:Env) (D:Pl) (F:Fine E) (i:Nat) (hi:i < E.pl) (W:World) (R:Rel E D W) (t1:1 ≤ D.at_) (t2:D.at_ ≤ 64) (hn:D.evs.length ≤ 10000):Exe E D (E.x i) W:=by
  have hm:=F.may i hi
  have ok:=F.ok i hi
  obtain ⟨⟨d0,d1⟩,⟨s0,s1⟩,_,_,hc⟩:=Ins.mayI_cases hm
  generalize hx:E.x i=x at *
  obtain ⟨kind,op,width,size,byReg,dst,src,off,imm⟩:=x
  simp only at d0 d1 s0 s1 hc
  rcases hc with ⟨h,_⟩ | ⟨h,_,_,hs,_⟩ | ⟨h,_,_,hs,_⟩ | ⟨h,_⟩ | ⟨h,_⟩ | ⟨h,_⟩ | ⟨h,_⟩ <;> subst h
  · exact exe_0 E D op width size byReg dst src off imm W R d0 d1 s0 s1
  · exact exe_1 E D op width size byReg dst src off imm W R d0 d1 s0 s1 ok.off.1 ok.off.2 hs
  · exact exe_2 E D op width size byReg dst src off imm W R d0 d1 s0 s1 ok.off.1 ok.off.2 hs
  · exact exe_3 E D op width size byReg dst src off imm W R d0 d1 s0 s1 t1 t2
  · exact exe_4 E D _ rfl W R t1 t2
  · exact exe_5 E D op width size byReg dst src off imm W R hn
  · exact exe_6 E D _ rfl W R
end Go.Proofs.YtigliofiojkhcaaGreat.Mdl
namespace Go.Proofs.YtigliofiojkhcaaGreat
open Go Go.RowKit
set_option linter.unusedVariables false
set_option linter.unusedSimpArgs false
section
variable {F:Fence} {n m:Nat} {P:Program} {ops:Array Oper} {Q:Exit → Act → World → Prop} {i:Nat} {o:Oper} {K:Act → World → Prop} {a:Act} {w w':World}
theorem wpOpIn_v (hF:∀ f,F.fn f) (ho:ops[i]?=some o) (hw:Region.wanted o (yielded ops a.tmps)=true) (hd:∀ c,o.op ≠ .defer c) {v:Value} (hr:(execOp a.eval o).run P w=.ok (.value v) w') (h:K (a.put o.dst v) w'):wpOpIn F n P ops Q i K a w:=by
  unfold wpOpIn
  rw [ho]
  simp only [hw,if_true]
  refine ⟨fun f _=>hF f,?_⟩
  rw [Oper.semAt_eq _ _ _ hd,hr]
  exact h
theorem wpOpIn_no (hF:∀ f,F.fn f) (ho:ops[i]?=some o) (hw:Region.wanted o (yielded ops a.tmps)=false) (h:K (a.put o.dst undef) w):wpOpIn F n P ops Q i K a w:=by
  unfold wpOpIn
  rw [ho]
  simp only [hw,Bool.false_eq_true,if_false]
  exact ⟨fun f _=>hF f,h⟩
theorem wpOpIn_yield (hF:∀ f,F.fn f) (hn:F.depth=none) (ho:ops[i]?=some o) (hw:Region.wanted o (yielded ops a.tmps)=true) {l:Nat} {x y:Operand} {ts:Array TypeId} {v:Value} (hop:o.op=.call ⟨.value x,#[y],ts⟩) (hx:a.eval x=.func (.yield l) #[] #[]) (hy:a.eval y=v)
    (h:YieldAt F (n - 1) P l #[v] w fun e w'=>∃ v,e=.returned v ∧ K (a.put o.dst v) w'):wpOpIn F n P ops Q i K a w:=by
  unfold wpOpIn
  rw [ho]
  simp only [hw,if_true]
  refine ⟨fun f _=>hF f,?_⟩
  obtain ⟨fn,tmps,assign,body,h1,h2⟩:=h
  have hr:(execOp a.eval o).run P w=.ok (.round l fn tmps assign body) w:=by
    simp only [execOp,hop,List.map_toArray,List.map_cons,List.map_nil,resolve,hx,hy,Deferred.ofValue,invoke,callFunc,Sem.run_bind,Sem.run_pure,Result.andThen_ok]
    simpa using h1
  rw [Oper.semAt_eq _ _ _ (fun c e=>by rw [hop] at e;cases e),hr]
  refine ⟨fun h=>(by rw [hn] at h;cases h),RoundIn.mono h2 ?_⟩
  rintro e w2 ⟨v,rfl,hk⟩
  exact hk
end
section law
variable {F:Fence} {m:Nat} {P:Program} {ops:Array Oper} {Q:Exit → Act → World → Prop} {n:Nat} {a0:Act} {w0:World} {S:(Nat → Bool) → (Nat → Value) → World → Prop} {K D:List Nat} {l:List (Option Value)}
def HopI (F:Fence) (m:Nat) (P:Program) (ops:Array Oper) (Q:Exit → Act → World → Prop) (n:Nat) (a0:Act) (S:(Nat → Bool) → (Nat → Value) → World → Prop) (K D:List Nat) (l:List (Option Value)) (i:Nat) (L:List Oper):Prop:=
  ∀ j o,L[j]?=some o → ∀ fl a w,Cz ops n a0 S K D l (i + j) o fl a w → (∀ q,i + j ≤ q → q < ops.size → fl q=false) → wpOpIn F m P ops Q (i + j) (PostZ S l (i + j) o fl a) a w
theorem xn {i:Nat}:HopI F m P ops Q n a0 S K D l i []:=fun j o h=>by simp at h
theorem xc {i:Nat} {o:Oper} {L:List Oper} (h:∀ {fl a w},Cz ops n a0 S K D l i o fl a w → (∀ q,i ≤ q → q < ops.size → fl q=false) → wpOpIn F m P ops Q i (PostZ S l i o fl a) a w) (t:HopI F m P ops Q n a0 S K D l (i + 1) L):HopI F m P ops Q n a0 S K D l i (o :: L):=fun j o' hj=>by
  cases j with
  | zero=>
    have e:o=o':=by simpa using hj
    subst e
    exact fun _ _ _ c s=>h c s
  | succ j=>
    have:=t j o' (by simpa using hj)
    rw [show i + 1 + j=i + (j + 1) by omega] at this
    exact this
structure InvI (ops:Array Oper) (n:Nat) (a0:Act) (S:(Nat → Bool) → (Nat → Value) → World → Prop) (l:List (Option Value)) (k:Nat) (a:Act) (w:World):Prop where
  s:S (fun i=>decide (i < k) || decide (ops.size ≤ i)) (slotOf a) w
  defers:a.defers=a0.defers
  size:a.tmps.size=n
  rest:∀ j,(∀ (i:Nat) (o:Oper),ops[i]?=some o → o.dst ≠ some j) → a.tmps.getD j undef=a0.tmps.getD j undef
  done:∀ (i:Nat) (o:Oper),ops[i]?=some o → i < k → TabO l i (own o a)
  undone:∀ (i:Nat) (o:Oper) (d:Nat),ops[i]?=some o → o.dst=some d → k ≤ i → a.tmps.getD d undef=a0.tmps.getD d undef
theorem go_regi {id:Nat} (S:(Nat → Bool) → (Nat → Value) → World → Prop) (K D:List Nat) (l:List (Option Value)) (hl:Loc K D S) (hd0:a0.defers=[]) (hz:a0.tmps.size=n) (hk:(chkBack ops && chkDst ops && chkIn ops n)=true)
    (h0:∀ (fl:Nat → Bool),(∀ i,i < ops.size → fl i=false) → S fl (slotOf a0) w0)
    (hop:HopI F m P ops Q n a0 S K D l 0 ops.toList) (hq:∀ a w,BehZ ops n a0 S l a w → Q .normal a w):(Code.region id ops false).wpIn F m P Q a0 w0:=by
  simp only [Bool.and_eq_true] at hk
  obtain ⟨⟨h1,h2⟩,h3⟩:=hk
  have hback:=back_of h1
  have hdst:=dst_of h2
  have hin:=in_of h3
  refine wpIn_region ?_
  have key:∀ (j k:Nat) a w,k + j=ops.size → InvI ops n a0 S l k a w → wpOpsIn F m P ops Q (List.range' k j) a w:=by
    intro j
    induction j with
    | zero=>
      intro k a w hk hI
      refine hq a w ⟨hI.defers.trans hd0,hI.size,fun j hj x hx=>(hI.rest j (not_of hj)).trans hx,fun i o d x ho hod hlx=>?_,_,fun i hi=>by simp;omega,hI.s⟩
      have:=hI.done i o ho (by have:=(Array.getElem?_eq_some_iff.1 ho).1;omega)
      unfold TabO at this
      rw [hlx] at this
      unfold own at this
      rw [hod] at this
      exact this
    | succ j ih=>
      intro k a w hk hI
      rw [List.range'_succ,wpOpsIn_cons]
      have hkl:k < ops.size:=by omega
      have ho:ops[k]?=some ops[k]:=Array.getElem?_eq_getElem hkl
      generalize ops[k]=o at ho
      have hc:Cz ops n a0 S K D l k o (fun i=>decide (i < k) || decide (ops.size ≤ i)) a w:=by
        refine ⟨hl,ho,hI.s,by simp;omega,fun i oi hoi hf e he hb=>?_,hI.size,hI.rest,fun p e hp hb=>?_,fun i oi d hoi hdi hf=>hI.undone i oi d hoi hdi ?_⟩
        · have hi:=(Array.getElem?_eq_some_iff.1 hoi).1
          have hlt:i < k:=by simp at hf;omega
          have:=hback i oi hoi e he hb
          simp;omega
        · have hb':=hback k o ho e (Array.mem_of_getElem? hp) hb
          exact ⟨by simp;omega,fun o' ho'=>hI.done e.on o' ho' hb'⟩
        · have hi:=(Array.getElem?_eq_some_iff.1 hoi).1
          simp at hf;omega
      have hh:=hop k o (by rw [Array.getElem?_toList];exact ho) _ a w (by rw [Nat.zero_add];exact hc) (fun q hq hlt=>by simp;omega)
      rw [Nat.zero_add] at hh
      refine wpOpIn_mono ?_ hh
      rintro a' w' ⟨v,rfl,hR,hS⟩
      refine ih (k + 1) _ _ (by omega) ?_
      have hS':S (fun i=>decide (i < k + 1) || decide (ops.size ≤ i)) (slotOf (a.put o.dst v)) w':=by
        have e:(fun i=>decide (i < k + 1) || decide (ops.size ≤ i))=upd (fun i=>decide (i < k) || decide (ops.size ≤ i)) k:=by
          funext i
          unfold upd
          by_cases h:i=k
          · rw [if_pos h];simp;omega
          · rw [if_neg h]
            congr 1
            exact decide_eq_decide.2 (by omega)
        rw [e];exact hS
      cases hod:o.dst with
      | none=>
        rw [hod] at hS' hR
        refine ⟨hS',hI.defers,hI.size,hI.rest,fun i oi hoi hlt=>?_,fun i oi d hoi hdi hle=>hI.undone i oi d hoi hdi (by omega)⟩
        by_cases hik:i=k
        · subst hik
          rw [ho] at hoi;cases hoi
          exact hR
        · exact hI.done i oi hoi (by omega)
      | some d0=>
        have hd0':d0 < a.tmps.size:=by rw [hI.size];exact hin k o d0 ho hod
        have hput:=put_getD a d0 v hd0'
        rw [hod] at hS' hR
        refine ⟨hS',hI.defers,by show (a.tmps.setIfInBounds d0 v).size=_;simp [hI.size],fun i hi=>?_,fun i oi hoi hlt=>?_,fun i oi d hoi hdi hle=>?_⟩
        · rw [hput i,if_neg (fun e=>hi k o ho (by rw [hod,e]))]
          exact hI.rest i hi
        · by_cases hik:i=k
          · subst hik
            rw [ho] at hoi;cases hoi
            exact hR
          · have hv:own oi (a.put (some d0) v)=own oi a:=by
              unfold own
              cases hdj:oi.dst with
              | none=>rfl
              | some d=>
                show (a.put (some d0) v).tmps.getD d undef=a.tmps.getD d undef
                rw [hput d,if_neg (fun e=>hik (hdst i k oi o d hoi ho hdj (by rw [hod,e])))]
            rw [hv]
            exact hI.done i oi hoi (by omega)
        · rw [hput d,if_neg (fun e=>by have:=hdst i k oi o d hoi ho hdi (by rw [hod,e]);omega)]
          exact hI.undone i oi d hoi hdi (by omega)
  have:=key ops.size 0 a0 w0 (by omega) ⟨h0 _ (fun i hi=>by simp;omega),rfl,hz,fun _ _=>rfl,fun i o ho h=>absurd h (by omega),fun _ _ _ _ _ _=>rfl⟩
  rwa [← List.range_eq_range'] at this
end law
section
variable {F:Fence} {m:Nat} {P:Program} {ops:Array Oper} {Q:Exit → Act → World → Prop} {n:Nat} {a0:Act} {S:(Nat → Bool) → (Nat → Value) → World → Prop} {K D:List Nat} {l:List (Option Value)} {i:Nat} {o:Oper} {fl:Nat → Bool} {a:Act} {w w':World}
def noDefer (o:Oper):Bool:=match o.op with | .defer _=>false | _=>true
theorem noDefer_of (h:noDefer o=true):∀ c,o.op ≠ .defer c:=fun c e=>by unfold noDefer at h;rw [e] at h;cases h
theorem Cz.iv (c:Cz ops n a0 S K D l i o fl a w) (hF:∀ f,F.fn f) {v:Value} (hr:(execOp a.eval o).run P w=.ok (.value v) w) (hk:okZ o n i K D=true) (hd:noDefer o=true) (ht:TabO l i v):wpOpIn F m P ops Q i (PostZ S l i o fl a) a w:=by
  unfold okZ at hk
  cases hg:o.guard with
  | some g=>rw [hg] at hk;cases hk
  | none=>
    cases hod:o.dst with
    | none=>rw [hg,hod] at hk;cases hk
    | some d=>
      rw [hg,hod] at hk
      simp only at hk
      rw [Bool.and_eq_true] at hk
      exact wpOpIn_v hF c.ho (wn hg) (noDefer_of hd) hr ⟨v,rfl,by rw [own_some hod c.sz hk.1];exact ht,by rw [hod];exact c.keep hk.2⟩
theorem Cz.ival (c:Cz ops n a0 S K D l i o fl a w) (hF:∀ f,F.fn f) (hw:Region.wanted o (yielded ops a.tmps)=true) {v:Value} (hr:(execOp a.eval o).run P w=.ok (.value v) w) {d:Nat} (hod:o.dst=some d) (hlt:Nat.blt d n=true) (hk:(K.all (fun k=>!Nat.beq k i) && D.all (fun k=>!Nat.beq k d))=true) (hd:noDefer o=true) (ht:TabO l i v):wpOpIn F m P ops Q i (PostZ S l i o fl a) a w:=
  wpOpIn_v hF c.ho hw (noDefer_of hd) hr ⟨v,rfl,by rw [own_some hod c.sz hlt];exact ht,by rw [hod];exact c.keep hk⟩
theorem Cz.ino (c:Cz ops n a0 S K D l i o fl a w) (hF:∀ f,F.fn f) (hw:Region.wanted o (yielded ops a.tmps)=false) {d:Nat} (hod:o.dst=some d) (hlt:Nat.blt d n=true) (hk:(K.all (fun k=>!Nat.beq k i) && D.all (fun k=>!Nat.beq k d))=true) (ht:TabO l i undef):wpOpIn F m P ops Q i (PostZ S l i o fl a) a w:=
  wpOpIn_no hF c.ho hw ⟨undef,rfl,by rw [own_some hod c.sz hlt];exact ht,by rw [hod];exact c.keep hk⟩
theorem Cz.wy (c:Cz ops n a0 S K D l i o fl a w) {j:Nat} {want:Bool} {oj:Oper} {d:Nat} (hg:o.guard=some (j,want)) (hj:ops[j]?=some oj) (hd:oj.dst=some d) (hlt:Nat.blt d n=true) (h:a.tmps.getD d undef=.bool want):Region.wanted o (yielded ops a.tmps)=true:=
  wanted_yes j d want h (by rw [c.sz];exact Nat.le_of_ble_eq_true hlt) hg hj hd (by simp)
theorem Cz.wo (c:Cz ops n a0 S K D l i o fl a w) {j:Nat} {want b:Bool} {oj:Oper} {d:Nat} (hg:o.guard=some (j,want)) (hj:ops[j]?=some oj) (hd:oj.dst=some d) (hlt:Nat.blt d n=true) (h:a.tmps.getD d undef=.bool b) (hb:(b == want)=false):Region.wanted o (yielded ops a.tmps)=false:=
  wanted_no j d b h (by rw [c.sz];exact Nat.le_of_ble_eq_true hlt) hg hj hd hb
end
end Go.Proofs.YtigliofiojkhcaaGreat
namespace Go.Proofs.YtigliofiojkhcaaGreat.Mdl
open Go.RowKit
set_option linter.unusedVariables false
set_option linter.unusedSimpArgs false
set_option maxRecDepth 100000
def Pl.ix (D:Pl):Nat:=D.at_.toNat
def its (E:Env) (D:Pl):Nat → Pl
  | 0=>D
  | k + 1=>(its E D k).step E.kf (E.x (its E D k).ix)
def ats (E:Env) (D:Pl) (k:Nat):List Int:=(List.range k).map (fun j=>(its E D j).at_)
theorem ats_succ (E:Env) (D:Pl) (k:Nat):ats E D (k + 1)=ats E D k ++ [(its E D k).at_]:=by simp [ats,List.range_succ]
def Goes (E:Env) (D:Pl) (k:Nat):Prop:=∀ j,j < k → 0 < (its E D j).fuel ∧ (its E D (j + 1)).fin=0
theorem Goes.zero (E:Env) (D:Pl):Goes E D 0:=fun j h=>absurd h (Nat.not_lt_zero j)
theorem Goes.succ {E:Env} {D:Pl} {k:Nat} (h:Goes E D k) (hf:0 < (its E D k).fuel) (he:(its E D (k + 1)).fin=0):Goes E D (k + 1):=fun j hj=>by
  by_cases e:j=k
  · subst e;exact ⟨hf,he⟩
  · exact h j (by omega)
structure Runs (E:Env) (D:Pl):Prop where
  lo:0 ≤ D.at_
  hi:D.at_ < E.pl
  few:D.evs.length + D.fuel ≤ 10000
  fuel:0 ≤ D.fuel
theorem Runs.ix {E:Env} {D:Pl} (h:Runs E D):D.ix < E.pl ∧ D.at_=D.ix:=by
  have:=h.lo;have:=h.hi
  unfold Pl.ix;omega
theorem exe_fuel (D:Pl) (kf:Nat → Int) (x:Ins.In):(D.exe kf x).1.fuel=D.fuel:=by
  unfold Pl.exe
  (repeat' split) <;> rfl
theorem exe_evs (D:Pl) (kf:Nat → Int) (x:Ins.In):(D.exe kf x).1.evs.length ≤ D.evs.length + 1:=by
  unfold Pl.exe
  (repeat' split) <;> first | exact Nat.le_succ _ | (show (D.evs ++ [_]).length ≤ _;rw [List.length_append];exact Nat.le_refl _)
theorem exe_fin (D:Pl) (kf:Nat → Int) (x:Ins.In):(D.exe kf x).2=0 ∨ (D.exe kf x).2=1 ∨ (D.exe kf x).2=2 ∨ (D.exe kf x).2=3:=by
  unfold Pl.exe
  (repeat' split) <;> simp
theorem step_fuel (D:Pl) (kf:Nat → Int) (x:Ins.In):(D.step kf x).fuel=D.fuel - 1:=by
  unfold Pl.step
  split
  · exact exe_fuel D.adv kf x
  · rfl
theorem step_evs (D:Pl) (kf:Nat → Int) (x:Ins.In):(D.step kf x).evs.length ≤ D.evs.length + 1:=by
  unfold Pl.step
  split
  · exact exe_evs D.adv kf x
  · exact Nat.le_succ _
theorem exe_at {E:Env} (F:Fine E) {D:Pl} {i:Nat} (hi:i < E.pl) (ha:D.at_=(i:Int) + 1) (h:(D.exe E.kf (E.x i)).2=0):0 ≤ (D.exe E.kf (E.x i)).1.at_ ∧ (D.exe E.kf (E.x i)).1.at_ < E.pl:=by
  have hk:=F.on i hi
  have hj:=F.into i hi
  obtain ⟨_,_,_,_,hc⟩:=Ins.mayI_cases (F.may i hi)
  generalize E.x i=x at *
  have e1:(D.at_ - 1:Int)=i:=by omega
  have go:x.kind ≠ 4 → x.kind ≠ 6 → 0 ≤ D.at_ ∧ D.at_ < E.pl:=fun a b=>by have:=hk a b;omega
  unfold Pl.exe at h ⊢
  by_cases k0:x.kind=0
  · rw [if_pos k0] at h ⊢;exact go (by omega) (by omega)
  rw [if_neg k0] at h ⊢
  by_cases k1:x.kind=1
  · rw [if_pos k1] at h ⊢
    split <;> exact go (by omega) (by omega)
  rw [if_neg k1] at h ⊢
  by_cases k2:x.kind=2
  · rw [if_pos k2] at h ⊢
    split <;> exact go (by omega) (by omega)
  rw [if_neg k2] at h ⊢
  by_cases k3:x.kind=3
  · rw [if_pos k3] at h ⊢
    show 0 ≤ (if _ then _ else _:Pl).at_ ∧ _
    split
    · show 0 ≤ Ins.targetI (D.at_ - 1) x ∧ Ins.targetI (D.at_ - 1) x < E.pl
      rw [e1];exact hj (.inl k3)
    · exact go (by omega) (by omega)
  rw [if_neg k3] at h ⊢
  by_cases k4:x.kind=4
  · rw [if_pos k4] at h ⊢
    show 0 ≤ Ins.targetI (D.at_ - 1) x ∧ Ins.targetI (D.at_ - 1) x < E.pl
    rw [e1];exact hj (.inr k4)
  rw [if_neg k4] at h ⊢
  by_cases k5:x.kind=5
  · rw [if_pos k5] at h ⊢
    split <;> exact go (by omega) (by omega)
  rw [if_neg k5] at h
  simp at h
theorem Runs.step {E:Env} (F:Fine E) {D:Pl} (h:Runs E D) (hf:0 < D.fuel) (he:(D.step E.kf (E.x D.ix)).fin=0):Runs E (D.step E.kf (E.x D.ix)):=by
  obtain ⟨i1,i2⟩:=h.ix
  have e1:=step_fuel D E.kf (E.x D.ix)
  have e2:=step_evs D E.kf (E.x D.ix)
  have:=h.few
  have key:0 ≤ (D.step E.kf (E.x D.ix)).at_ ∧ (D.step E.kf (E.x D.ix)).at_ < E.pl:=by
    unfold Pl.step at he ⊢
    split
    · next hr=>
      rw [if_pos hr] at he
      exact exe_at F (D:=D.adv) i1 (by show D.at_ + 1=_;omega) he
    · next hr=>
      rw [if_neg hr] at he
      cases he
  exact ⟨key.1,key.2,by omega,by omega⟩
theorem Runs.its {E:Env} (F:Fine E) {D:Pl} (h:Runs E D):∀ k,Goes E D k → Runs E (its E D k)
  | 0,_=>h
  | k + 1,g=>Runs.step F (Runs.its F h k (fun j hj=>g j (by omega))) (g k (by omega)).1 (g k (by omega)).2
def σM (t:TypeId):Bool:=τM t || t == 30 || t == 52 || t == 5 || t == 82
theorem own_mv {w w':World} {b n k:Nat} {e:TypeId} {v:Value} {xs:List Value} (h:w.ownsRow b e k v n xs) (mv:∀ (g:Nat) (c:Array Value),w.heap[g]?=some (.cells c e (0,0)) → w'.heap[g]?=some (.cells c e (0,0))):w'.ownsRow b e k v n xs:=by
  refine ⟨h.1,?_⟩
  rcases h.2 with h | ⟨g,cap,cur,e1,e2,e3,r⟩
  · exact .inl h
  · exact .inr ⟨g,cap,cur,e1,e2,mv _ _ e3,r⟩
theorem Rel.mv {E:Env} {D:Pl} {w w':World} (R:Rel E D w) (sz:w.heap.size ≤ w'.heap.size) (mv:∀ (g:Nat) (c:Array Value) (t:TypeId),w.heap[g]?=some (.cells c t (0,0)) → σM t=true → w'.heap[g]?=some (.cells c t (0,0))):Rel E D w':=by
  obtain ⟨av,tv,hin,⟨z0,aa,ca,e1,e2,e3⟩,ps,p1,p2,p3⟩:=R.st
  refine ⟨⟨av,tv,mv _ _ _ hin (by decide),⟨z0,aa,ca,e1,e2,fun hz=>?_⟩,ps,p1,own_mv p2 (fun g c h=>mv g c _ h (by decide)),fun p hp=>own_mv (p3 p hp) (fun g c h=>mv g c _ h (by decide))⟩,?_,?_,R.words,R.far.1,R.far.2.1,Nat.le_trans R.far.2.2 sz⟩
  · obtain ⟨ab,ao,ac,h1,h2,h3⟩:=e3 hz
    exact ⟨ab,ao,ac,h1,mv _ _ _ h2 (by decide),h3⟩
  · obtain ⟨c,h1,h2⟩:=R.pr
    exact ⟨c,mv _ _ _ h1 (by decide),h2⟩
  · obtain ⟨c1,r1,r2,r3⟩:=R.mm.at_.row
    obtain ⟨c2,q1,q2,q3⟩:=R.mm.code
    exact ⟨⟨⟨c1,mv _ _ _ r1 (by decide),r2,r3⟩,R.mm.at_.cn,R.mm.at_.n,R.mm.at_.far,R.mm.at_.bytes⟩,⟨c2,mv _ _ _ q1 (by decide),q2,q3⟩,R.mm.kb⟩
theorem Rel.keep {E:Env} {D:Pl} {w w':World} (R:Rel E D w) (k:KeepT σM w w'):Rel E D w':=R.mv k.size (fun g c t h ht=>k.same g _ h ht)
theorem Rel.own (E:Env) (D:Pl) (B:Nat) {α:Type}:OwnFrom B (fun (_:α) w=>Rel E D w):=fun s w w' row h g hr=>h.mv g.size (fun k c t hk _=>(g.block k (Array.getElem?_eq_some_iff.1 hk).1 (fun e=>by
  obtain ⟨_,o,ho,hc⟩:=hr k e.symm
  rw [hk] at ho
  injection ho with ho
  subst ho
  simp [Obj.isCells] at hc)).trans hk)
end Go.Proofs.YtigliofiojkhcaaGreat.Mdl
