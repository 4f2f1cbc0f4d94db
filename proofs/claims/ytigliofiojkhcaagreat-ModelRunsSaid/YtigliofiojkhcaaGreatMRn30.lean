import Derived.Test.YtigliofiojkhcaaGreatMRn29
import Derived.Test.YtigliofiojkhcaaGreatMRn24
import Derived.Test.YtigliofiojkhcaaGreatMRn28
set_option linter.unusedVariables false
set_option linter.unusedSimpArgs false
set_option linter.unnecessarySimpa false
namespace Go.Proofs.YtigliofiojkhcaaGreat.Mdl
open Go.RowKit Go.Maps Ins Trc
set_option linter.unusedVariables false
set_option linter.unusedSimpArgs false
set_option maxRecDepth 100000
theorem bv_nat {a:Nat} (h:a < 9223372036854775808):(BitVec.ofInt 64 (a:Int)).toNat=a:=by
  rw [BitVec.toNat_ofInt]
  show ((a:Int) % 18446744073709551616).toNat=a
  omega
theorem or_nat {a b:Nat} (ha:a < 2048) (hb:b < 2048):bits .or .i64 (a:Int) (b:Int)=((a ||| b:Nat):Int):=by
  have hl:a ||| b < 2 ^ 11:=Nat.or_lt_two_pow ha hb
  show IntKind.i64.wrap ((BitVec.ofInt 64 (a:Int) ||| BitVec.ofInt 64 (b:Int)).toNat:Int)=_
  rw [BitVec.toNat_or,bv_nat (by omega),bv_nat (by omega),IntKind.wrap_i64]
  omega
end Go.Proofs.YtigliofiojkhcaaGreat.Mdl
namespace Go.Proofs.YtigliofiojkhcaaGreat.Mdl
open Go.RowKit Go.Maps Ins Trc
set_option linter.unusedVariables false
set_option linter.unusedSimpArgs false
set_option maxRecDepth 100000
def bvI (z:Int):BitVec 64:=BitVec.ofInt 64 z
theorem bv_wrap (Z:BitVec 64):bvI (IntKind.i64.wrap (Z.toNat:Int))=Z:=by
  apply BitVec.eq_of_toNat_eq
  have h:=Z.isLt
  unfold bvI
  rw [BitVec.toNat_ofInt,IntKind.wrap_i64]
  show (((((Z.toNat:Int) + 9223372036854775808) % 18446744073709551616 - 9223372036854775808)) % 18446744073709551616).toNat=_
  omega
theorem or_bv (a b:Int):bits .or .i64 a b=IntKind.i64.wrap ((bvI a ||| bvI b).toNat:Int):=rfl
theorem andNot_bv (a b:Int):bits .andNot .i64 a b=IntKind.i64.wrap ((bvI a &&& ~~~ bvI b).toNat:Int):=rfl
theorem and_bv (a b:Int):bits .and .i64 a b=IntKind.i64.wrap ((bvI a &&& bvI b).toNat:Int):=rfl
theorem rd_both {m s:Int} (h0:0 ≤ m) (h1:m < 9223372036854775808):(andM s m == m)=!(bits .andNot .i64 m s != 0):=by
  have hm:(bvI m).toNat=m.toNat:=by
    unfold bvI
    rw [BitVec.toNat_ofInt]
    show (m % 18446744073709551616).toNat=_
    omega
  have e1:andM s m=((bvI s &&& bvI m).toNat:Int):=by
    show bits .and .i64 s m=_
    rw [and_bv]
    have:(bvI s &&& bvI m).toNat ≤ m.toNat:=by rw [BitVec.toNat_and,hm];exact Nat.and_le_right
    rw [IntKind.wrap_i64];omega
  have e2:bits .andNot .i64 m s=((bvI m &&& ~~~ bvI s).toNat:Int):=by
    rw [andNot_bv]
    have:(bvI m &&& ~~~ bvI s).toNat ≤ m.toNat:=by rw [BitVec.toNat_and,hm];exact Nat.and_le_left
    rw [IntKind.wrap_i64];omega
  have key:bvI s &&& bvI m=bvI m ↔ bvI m &&& ~~~ bvI s=0#64:=by
    constructor
    · intro h
      rw [← h]
      apply BitVec.eq_of_getLsbD_eq
      intro i hi
      simp only [BitVec.getLsbD_and,BitVec.getLsbD_not,hi,decide_true,Bool.true_and,BitVec.getLsbD_zero]
      cases (bvI s).getLsbD i <;> simp
    · intro h
      apply BitVec.eq_of_getLsbD_eq
      intro i hi
      have:=congrArg (fun z=>BitVec.getLsbD z i) h
      simp only [BitVec.getLsbD_and,BitVec.getLsbD_not,hi,decide_true,Bool.true_and,BitVec.getLsbD_zero] at this ⊢
      revert this
      cases (bvI s).getLsbD i <;> cases (bvI m).getLsbD i <;> simp
  rw [e1,e2]
  apply Bool.eq_iff_iff.2
  simp only [beq_iff_eq,Bool.not_eq_true',bne_eq_false_iff_eq]
  constructor
  · intro h
    have:bvI s &&& bvI m=bvI m:=BitVec.eq_of_toNat_eq (by rw [hm];omega)
    rw [key.1 this];rfl
  · intro h
    have:bvI m &&& ~~~ bvI s=0#64:=BitVec.eq_of_toNat_eq (by show _=0;omega)
    rw [key.2 this,hm];omega
theorem onlyI_nat {r:Int} (h0:0 ≤ r) (h1:r < 11):∃ a:Nat,onlyI r=a ∧ a < 2048:=⟨2 ^ r.toNat,rfl,Nat.lt_of_lt_of_le (Nat.pow_lt_pow_right (by omega) (show r.toNat < 11 by omega)) (by decide)⟩
theorem or2 {a b:Nat} (ha:a < 2048) (hb:b < 2048):∃ c:Nat,orM (a:Int) (b:Int)=c ∧ c < 2048:=⟨a ||| b,or_nat ha hb,Nat.or_lt_two_pow (n:=11) ha hb⟩
theorem reads_nat (x:Ins.In) (d0:0 ≤ x.dst) (d1:x.dst < 11) (s0:0 ≤ x.src) (s1:x.src < 11):∃ a:Nat,readsM x=a ∧ a < 2048:=by
  obtain ⟨d,hd,ld⟩:=onlyI_nat d0 d1
  obtain ⟨s,hs,ls⟩:=onlyI_nat s0 s1
  have sec:∃ a:Nat,secondI x=a ∧ a < 2048:=by
    unfold secondI
    split
    · exact ⟨s,hs,ls⟩
    · exact ⟨0,rfl,by decide⟩
  obtain ⟨t,ht,lt⟩:=sec
  have hA:∃ a:Nat,argsM (Ins.argsI x.imm)=a ∧ a < 2048:=by
    have:0 ≤ Ins.argsI x.imm ∧ Ins.argsI x.imm ≤ 5:=by unfold Ins.argsI;split <;> omega
    have c:Ins.argsI x.imm=0 ∨ Ins.argsI x.imm=1 ∨ Ins.argsI x.imm=2 ∨ Ins.argsI x.imm=3 ∨ Ins.argsI x.imm=4 ∨ Ins.argsI x.imm=5:=by omega
    rcases c with h | h | h | h | h | h <;> rw [h]
    · exact ⟨0,rfl,by decide⟩
    · exact ⟨2,rfl,by decide⟩
    · exact ⟨6,rfl,by decide⟩
    · exact ⟨14,rfl,by decide⟩
    · exact ⟨30,rfl,by decide⟩
    · exact ⟨62,rfl,by decide⟩
  unfold readsM
  rw [hd,hs,ht]
  split
  · split
    · exact ⟨t,rfl,lt⟩
    · exact or2 ld lt
  split
  · exact ⟨s,rfl,ls⟩
  split
  · exact or2 ld ls
  split
  · exact or2 ld lt
  split
  · exact hA
  split
  · exact ⟨1,rfl,by decide⟩
  · exact ⟨0,rfl,by decide⟩
theorem rd_test {x:Ins.In} {s:Int} (d0:0 ≤ x.dst) (d1:x.dst < 11) (s0:0 ≤ x.src) (s1:x.src < 11) (h:(andM s (readsM x) == readsM x)=true):(bits .andNot .i64 (readsM x) s != 0)=false:=by
  obtain ⟨a,e,l⟩:=reads_nat x d0 d1 s0 s1
  rw [rd_both (by omega) (by omega)] at h
  simpa using h
theorem rd_fail {x:Ins.In} {s:Int} (d0:0 ≤ x.dst) (d1:x.dst < 11) (s0:0 ≤ x.src) (s1:x.src < 11) (h:(andM s (readsM x) == readsM x)=false):(bits .andNot .i64 (readsM x) s != 0)=true:=by
  obtain ⟨a,e,l⟩:=reads_nat x d0 d1 s0 s1
  rw [rd_both (by omega) (by omega)] at h
  simpa using h
theorem clr_bv (X b:BitVec 64):(X ||| b) &&& ~~~ b=X &&& ~~~ b:=by
  apply BitVec.eq_of_getLsbD_eq
  intro i hi
  simp only [BitVec.getLsbD_and,BitVec.getLsbD_or,BitVec.getLsbD_not,hi,decide_true,Bool.true_and]
  cases X.getLsbD i <;> cases b.getLsbD i <;> rfl
theorem clr2_bv (X a b:BitVec 64):X &&& ~~~ a &&& ~~~ b=X &&& ~~~ (a ||| b):=by
  apply BitVec.eq_of_getLsbD_eq
  intro i hi
  simp only [BitVec.getLsbD_and,BitVec.getLsbD_or,BitVec.getLsbD_not,hi,decide_true,Bool.true_and]
  cases X.getLsbD i <;> cases b.getLsbD i <;> cases a.getLsbD i <;> rfl
theorem clro_bv (X a b:BitVec 64) (h:b &&& ~~~ a=b):(X ||| b) &&& ~~~ a=(X &&& ~~~ a) ||| b:=by
  apply BitVec.eq_of_getLsbD_eq
  intro i hi
  have:=congrArg (fun z=>BitVec.getLsbD z i) h
  simp only [BitVec.getLsbD_and,BitVec.getLsbD_or,BitVec.getLsbD_not,hi,decide_true,Bool.true_and] at this ⊢
  revert this
  cases X.getLsbD i <;> cases b.getLsbD i <;> cases a.getLsbD i <;> simp
theorem clr_step (z b:Int):bits .andNot .i64 (orM z b) b=bits .andNot .i64 z b:=by
  show bits .andNot .i64 (bits .or .i64 z b) b=_
  rw [andNot_bv,or_bv,bv_wrap,clr_bv,← andNot_bv]
theorem clr_two (z a b c:Int) (h:bvI a ||| bvI b=bvI c):bits .andNot .i64 (bits .andNot .i64 z a) b=bits .andNot .i64 z c:=by
  rw [andNot_bv,andNot_bv,bv_wrap,clr2_bv,h,← andNot_bv]
theorem Md.clr_set (s:Md):(s.clr 5).set=bits .andNot .i64 s.set (argsM 5):=by
  show bits .andNot .i64 (orM (bits .andNot .i64 (orM (bits .andNot .i64 (orM (bits .andNot .i64 (orM (bits .andNot .i64 (orM s.set (onlyI 1)) (onlyI 1)) (onlyI 2)) (onlyI 2)) (onlyI 3)) (onlyI 3)) (onlyI 4)) (onlyI 4)) (onlyI 5)) (onlyI 5)=_
  rw [clr_step,clr_step,clr_step,clr_step,clr_step,clr_two _ _ _ 48 (by decide),clr_two _ _ _ 56 (by decide),clr_two _ _ _ 60 (by decide),clr_two _ _ _ 62 (by decide)]
  rfl
theorem called_set6 (z:Int):bits .andNot .i64 (orM z (onlyI 0)) (argsM 5)=orM (bits .andNot .i64 z (argsM 5)) (onlyI 0):=by
  show bits .andNot .i64 (bits .or .i64 z (onlyI 0)) (argsM 5)=bits .or .i64 _ _
  rw [andNot_bv,or_bv,bv_wrap,clro_bv _ _ _ (by decide),or_bv,andNot_bv,bv_wrap]
theorem Md.clr_r (s:Md):∀ k:Nat,(s.clr 5).r k=match k with | 1=>0 | 2=>0 | 3=>0 | 4=>0 | 5=>0 | k=>s.r k
  | 0=>by simp [Md.clr,Md.put,Md.setR]
  | 1=>by simp [Md.clr,Md.put,Md.setR]
  | 2=>by simp [Md.clr,Md.put,Md.setR]
  | 3=>by simp [Md.clr,Md.put,Md.setR]
  | 4=>by simp [Md.clr,Md.put,Md.setR]
  | 5=>by simp [Md.clr,Md.put,Md.setR]
  | n + 6=>by simp [Md.clr,Md.put,Md.setR]
theorem Md.clr_rest (s:Md):(s.clr 5).ctx=s.ctx ∧ (s.clr 5).lv=s.lv ∧ (s.clr 5).mv=s.mv ∧ (s.clr 5).fr=s.fr ∧ (s.clr 5).at_=s.at_ ∧ (s.clr 5).av=s.av ∧ (s.clr 5).tv=s.tv:=by simp [Md.clr,Md.put,Md.setR]
end Go.Proofs.YtigliofiojkhcaaGreat.Mdl
namespace Go.Proofs.YtigliofiojkhcaaGreat.Mdl
open Go.RowKit Go.Maps Ins Trc
set_option linter.unusedVariables false
set_option linter.unusedSimpArgs false
set_option maxRecDepth 100000
theorem ex_ixR {ρ:Operand → Value} {o:Oper} {w:World} {x y:Operand} {g d:Nat} (ho:o.op=.indexAddr 46 x y) (hx:ρ x=.pointer (some ⟨g,3,none⟩)) (hy:ρ y=.int .i8 (d:Int)) (hd:d < 11):(execOp ρ o).run Tryz.prog w=.ok (.value (.pointer (some ⟨g,3 + d,none⟩))) w:=by
  simp [execOp,ho,hx,hy,go_sem]
  omega
def SC (k:Nat) (A B:World → Prop) (fl:Nat → Bool) (u:Nat → Value) (w:World):Prop:=(fl k=false ∧ A w) ∨ (fl k=true ∧ B w)
section
variable {k:Nat} {A B:World → Prop} {fl:Nat → Bool} {u u':Nat → Value} {w w':World}
theorem SC.loc:Loc [k] [] (SC k A B):=by
  intro fl fl' u u' w hK hD h
  unfold SC at *
  rw [hK k (by simp)]
  exact h
theorem SC.start (h:fl k=false) (a:A w):SC k A B fl u w:=.inl ⟨h,a⟩
theorem SC.was (h:SC k A B fl u w) (f:fl k=false):A w:=by
  rcases h with h | h
  · exact h.2
  · rw [f] at h;cases h.1
theorem SC.to (b:B w'):SC k A B (upd fl k) u' w':=.inr ⟨upd_new _ _,b⟩
theorem SC.fin (h:SC k A B fl u w) (f:fl k=true):B w:=by
  rcases h with h | h
  · rw [f] at h;cases h.1
  · exact h.2
end
theorem setCells_row {g:Nat} {t:TypeId} {fr:Nat × Nat}:∀ (vs:List Value) (o:Nat) (w:World) (cs:Array Value),w.heap[g]?=some (.cells cs t fr) →
    ∃ cs':Array Value,(w.setCells g o vs).heap[g]?=some (.cells cs' t fr) ∧ cs'.size=cs.size ∧ ∀ j,j < cs.size → cs'[j]?=if o ≤ j ∧ j < o + vs.length then vs[j - o]? else cs[j]?
  | [],o,w,cs,h=>⟨cs,h,rfl,fun j _=>by rw [if_neg (by simp)]⟩
  | v :: r,o,w,cs,h=>by
    obtain ⟨c2,h1,h2,h3⟩:=setCells_row r (o + 1) _ _ (setCell_row h o v)
    refine ⟨c2,h1,by rw [h2,Array.size_setIfInBounds],fun j hj=>?_⟩
    rw [h3 j (by rw [Array.size_setIfInBounds];exact hj),List.length_cons]
    by_cases e:j=o
    · subst e
      rw [if_neg (by omega),if_pos (by omega),Array.getElem?_setIfInBounds,if_pos rfl,if_pos hj,Nat.sub_self];rfl
    · by_cases h4:o + 1 ≤ j ∧ j < o + 1 + r.length
      · rw [if_pos h4,if_pos (by omega),show j - o=(j - (o + 1)) + 1 by omega,List.getElem?_cons_succ]
      · rw [if_neg h4,if_neg (by omega),Array.getElem?_setIfInBounds,if_neg (fun h=>e h.symm)]
theorem setCells_but (g:Nat):∀ (vs:List Value) (o:Nat) (w:World),But g w (w.setCells g o vs)
  | [],o,w=>But.of_below (Below.refl _ _)
  | v :: r,o,w=>(But.set w g o v).trans (setCells_but g r (o + 1) _)
theorem Md.fr_in {s:Md} {w:World} {g:Nat} (h:s.in_ w g) (f:Nat → Int):({ s with fr:=f }:Md).in_ (w.setCells g 15 (bytesOf f 64)) g:=by
  obtain ⟨c2,h1,h2,h3⟩:=setCells_row (bytesOf f 64) 15 w s.cells h
  have hs:=s.size
  rw [hs] at h2 h3
  rw [bytesOf_length] at h3
  have e:c2=({ s with fr:=f }:Md).cells:=Md.ext h2 (fun j hj=>by
    rw [h3 j hj]
    by_cases hi:15 ≤ j ∧ j < 15 + 64
    · rw [if_pos hi,bytesOf_get f 64 _ (by omega)]
      unfold Md.cell
      rw [if_neg (by omega),if_neg (by omega),if_neg (by omega),if_neg (by omega),if_neg (by omega),if_pos (by omega)]
    · rw [if_neg hi,s.get j hj]
      unfold Md.cell
      by_cases h0:j=0
      · simp only [if_pos h0]
      by_cases h1:j=1
      · simp only [if_neg h0,if_pos h1]
      by_cases h2:j=2
      · simp only [if_neg h0,if_neg h1,if_pos h2]
      by_cases h3:j < 14
      · simp only [if_neg h0,if_neg h1,if_neg h2,if_pos h3]
      by_cases h4:j=14
      · simp only [if_neg h0,if_neg h1,if_neg h2,if_neg h3,if_pos h4]
      · simp only [if_neg h0,if_neg h1,if_neg h2,if_neg h3,if_neg h4,if_neg (show ¬ j < 79 by omega)])
  unfold Md.in_
  rw [h1,e]
theorem Md.there {s:Md} {w:World} {g:Nat} (h:s.in_ w g) (o n:Nat) (hl:o + n ≤ 82):w.there g o n:=fun j hj=>⟨by
  rw [Md.at h _ (by omega)];rfl,s.unfrozen h _⟩
theorem md6_inj {E:Env} {r:Nat} {D:Pl} {ctx ctx2:Int} {av tv av2 tv2:Value} {s:Md} (h:s=md6 E r D ctx av tv) (e:s.cells=(md6 E r D ctx2 av2 tv2).cells):s=md6 E r D ctx2 av2 tv2:=by
  subst h
  have g:∀ i,i < 82 → (md6 E r D ctx av tv).cell i=(md6 E r D ctx2 av2 tv2).cell i:=fun i hi=>by
    have h1:=(md6 E r D ctx av tv).get i hi
    rw [e,(md6 E r D ctx2 av2 tv2).get i hi] at h1
    simpa using h1.symm
  have h0:Value.int .i64 ctx=.int .i64 ctx2:=g 0 (by decide)
  have h1:av=av2:=g 80 (by decide)
  have h2:tv=tv2:=g 81 (by decide)
  injection h0 with _ h0
  subst h0 h1 h2
  rfl
theorem called_md (E:Env) (r:Nat) (D:Pl) (ctx:Int) (av tv ans tv':Value) (imm a:Int) (l:List Int):({ (md6 E r D ctx av tv).called ans tv' a with at_:=D.at_ + 1 }:Md)=md6 E r { D.called imm a l with at_:=D.at_ + 1 } ctx ans tv':=by
  obtain ⟨h1,h2,h3,h4,h5,h6,h7⟩:=Md.clr_rest (({ md6 E r D ctx av tv with av:=ans,tv:=tv' }:Md).put 0 a)
  unfold Md.called
  have hr:((({ md6 E r D ctx av tv with av:=ans,tv:=tv' }:Md).put 0 a).clr 5).r=(D.called imm a l).r:=by
    funext k
    rw [Md.clr_r]
    unfold Pl.called
    simp only
    split
    · rfl
    · rfl
    · rfl
    · rfl
    · rfl
    · rename_i n1 n2 n3 n4 n5
      show (if k=0 then a else D.r k)=_
      split
      · rename_i h0;subst h0;rfl
      · rename_i h0
        split <;> first | contradiction | rfl
  have hset:((({ md6 E r D ctx av tv with av:=ans,tv:=tv' }:Md).put 0 a).clr 5).set=(D.called imm a l).set:=by
    rw [Md.clr_set]
    exact called_set6 D.set
  generalize ((({ md6 E r D ctx av tv with av:=ans,tv:=tv' }:Md).put 0 a).clr 5)=q at *
  show (⟨q.ctx,q.lv,q.mv,q.r,q.set,q.fr,D.at_ + 1,q.av,q.tv⟩:Md)=_
  rw [h1,h2,h3,h4,h6,h7,hr,hset]
  rfl
section
variable {E:Env} {g r β g':Nat} {D:Pl} {W wx w1 w2:World} {ctx:Int} {av tv:Value} {S':MemS} {M':Rm.RefM} {a':Int}
theorem R6.wrote (R:R6 E g r β D W) (hin:(md6 E r D ctx av tv).in_ W g) (hA:Ans6 β W av D.ans) (hT:TrR β W tv D.evs) (hn:∀ j,tv.ownBlock=some j → j ≠ r) (b:Below W.heap.size W wx) (c:ChgAt g' wx w1) (ht:∃ c:Array Value,wx.heap[g']?=some (.cells c 5 (0,0))) (hg':β ≤ g') (m1:Rm.RefAt M' w1 r β) (m2:Rm.Sep M') (m3:Rm.Rel S' E.kf M')
    (k1:S'.cn=D.mem.cn) (k2:S'.n=D.mem.n) (hin2:(md6 E r { D with mem:=S',at_:=a' } ctx av tv).in_ w2 g) (t2:Trn [g] w1 w2):R6 E g r β { D with mem:=S',at_:=a' } w2 ∧ TurnT τ6 β W w2:=by
  obtain ⟨cr,hr⟩:=ht
  have t1:Trn [g'] wx w1:=⟨c.os,c.tape,c.output,c.size,fun k hk hne=>c.block k hk (by simpa using hne)⟩
  have hinx:=Md.below hin b
  have hinx':wx.heap[g]?=some (.cells (md6 E r D ctx av tv).cells 65 (0,0)):=hinx
  have ne:g ≠ g':=fun e=>by rw [e,hr] at hinx';simp at hinx'
  have hin1':=t1.row hinx' (by simpa using ne)
  have G1:∀ (T:TypeId),5 ≠ T → ∀ j ∈ [g'],∃ c ty fr,wx.heap[j]?=some (.cells c ty fr) ∧ ty ≠ T:=fun T n j hj=>by
    rw [List.mem_singleton] at hj;subst hj
    exact ⟨_,_,_,hr,n⟩
  have G1':∀ (T U:TypeId),5 ≠ T → 5 ≠ U → ∀ j ∈ [g'],∃ c ty fr,wx.heap[j]?=some (.cells c ty fr) ∧ ty ≠ T ∧ ty ≠ U:=fun T U n m j hj=>by
    rw [List.mem_singleton] at hj;subst hj
    exact ⟨_,_,_,hr,n,m⟩
  have G2:∀ (T:TypeId),65 ≠ T → ∀ j ∈ [g],∃ c ty fr,w1.heap[j]?=some (.cells c ty fr) ∧ ty ≠ T:=fun T n j hj=>by
    rw [List.mem_singleton] at hj;subst hj
    exact ⟨_,_,_,hin1',n⟩
  have G2':∀ (T U:TypeId),65 ≠ T → 65 ≠ U → ∀ j ∈ [g],∃ c ty fr,w1.heap[j]?=some (.cells c ty fr) ∧ ty ≠ T ∧ ty ≠ U:=fun T U n m j hj=>by
    rw [List.mem_singleton] at hj;subst hj
    exact ⟨_,_,_,hin1',n,m⟩
  have t0:Trn [] W wx:=Trn.of_below b
  have n0:∀ (P:Nat → Prop),∀ j ∈ ([]:List Nat),P j:=fun P j hj=>absurd hj (by simp)
  have H1:∀ j ∈ [g'],β ≤ j:=fun j hj=>by
    rw [List.mem_singleton] at hj;subst hj
    exact hg'
  have H2:∀ j ∈ [g],β ≤ j:=fun j hj=>by
    rw [List.mem_singleton] at hj;subst hj
    exact R.far.1
  have sz:W.heap.size ≤ w2.heap.size:=Nat.le_trans (Nat.le_trans b.size c.size) t2.size
  refine ⟨⟨⟨ctx,av,tv,hin2,((hA.trn t0 (n0 _)).trn t1 H1).trn t2 H2,((hT.trn t0 (n0 _)).trn t1 (G1' _ _ (by decide) (by decide))).trn t2 (G2' _ _ (by decide) (by decide)),hn⟩,((R.pr.trn t0 (n0 _)).trn t1 H1).trn t2 H2,⟨M',refAt_trn m1 t2 (by simpa using Ne.symm R.ne) (G2 _ (by decide)),m2,m3⟩,R.words,by show S'.cn ≤ 16384;rw [k1];exact R.cn,by show S'.n ≤ 256;rw [k2];exact R.n,R.ne,R.far.1,Nat.le_trans R.far.2 sz⟩,
    ((turn_of t0 (n0 _)).trans (turn_of t1 (fun j hj=>?_))).trans (turn_of t2 (fun j hj=>?_))⟩
  · rw [List.mem_singleton] at hj;subst hj
    exact ⟨hg',_,_,_,hr,by decide⟩
  · rw [List.mem_singleton] at hj;subst hj
    exact ⟨R.far.1,_,_,_,hin1',by decide⟩
theorem R6.rang {a:Int} {l:List Int} {imm:Int} {ab ao ca:Nat} {ps:List (Ev × Value)} {va tv':Value} {W w2:World} (R:R6 E g r β D W) (hans:D.ans=a :: l) (hin:(md6 E r D ctx av tv).in_ W g) (z0:∀ z ∈ a :: l,0 ≤ z ∧ z < 18446744073709551616) (e2:(a :: l).length ≤ ca) (hlt:ab < β) (hac:∀ j z,(a :: l)[j]?=some z → W.cell? ⟨ab,ao + j,none⟩=some (.int .u64 z))
    (p1:ps.map (·.1)=D.evs) (p2:W.ownsRow β 103 3 tv D.evs.length (cellsV ps)) (p3:∀ p ∈ ps,W.ownsRow β 30 1 p.2 p.1.args.length (p.1.args.map (.int .u64)))
    (o1:w2.ownsRow W.heap.size 30 1 va (Ins.argsI imm).toNat ((D.args (Ins.argsI imm).toNat).map (.int .u64))) (o2:w2.ownsRow β 103 3 tv' (D.evs.length + 1) (cellsV ps ++ [.int .i64 imm,va,.int .u64 a]))
    (hin2:(md6 E r { D.called imm a l with at_:=a' } ctx (.slice (some ⟨ab,if ca=1 then ao else ao + 1,none⟩) ((a :: l).length - 1) (ca - 1)) tv').in_ w2 g) (t:Trn (g :: tv.ownBlock.toList) W w2) (hn:∀ j,tv.ownBlock=some j → j ≠ r):R6 E g r β { D.called imm a l with at_:=a' } w2 ∧ TurnT τ6 β W w2:=by
  obtain ⟨M,m1,m2,m3⟩:=R.mm
  have hG:∀ j ∈ g :: tv.ownBlock.toList,β ≤ j ∧ j ≠ r ∧ ∃ c ty fr,W.heap[j]?=some (.cells c ty fr) ∧ (ty=65 ∨ ty=103):=fun j hj=>by
    rcases List.mem_cons.1 hj with rfl | hj
    · exact ⟨R.far.1,R.ne,_,_,_,hin,.inl rfl⟩
    · have hb:tv.ownBlock=some j:=by simpa using hj
      refine ⟨(World.ownsRow.lt p2 j hb).1,hn j hb,?_⟩
      rcases p2.2 with ⟨h,_⟩ | ⟨g',cap,cur,h,h2,h3,_⟩
      · rw [h] at hb;cases hb
      · rw [h] at hb
        obtain rfl:g'=j:=by simpa [Value.ownBlock] using hb
        exact ⟨_,_,_,h3,.inr rfl⟩
  have hx:∀ (T:TypeId),65 ≠ T → 103 ≠ T → ∀ j ∈ g :: tv.ownBlock.toList,∃ c ty fr,W.heap[j]?=some (.cells c ty fr) ∧ ty ≠ T:=fun T n m j hj=>by
    obtain ⟨_,_,c,ty,fr,h1,h2⟩:=hG j hj
    exact ⟨c,ty,fr,h1,by rcases h2 with rfl | rfl <;> assumption⟩
  have m1':Rm.RefAt M w2 r β:=refAt_trn m1 t (fun hm=>(hG r hm).2.1 rfl) (hx _ (by decide) (by decide))
  refine ⟨⟨⟨ctx,_,tv',hin2,⟨fun z hz=>z0 z (by simp [show z ∈ l from hz]),_,_,rfl,?_,fun hl=>?_⟩,⟨ps ++ [(⟨imm,D.args (Ins.argsI imm).toNat,a⟩,va)],?_,?_,fun p hp=>?_⟩,fun j hj e=>?_⟩,R.pr.trn t (fun j hj=>(hG j hj).1),⟨M,m1',m2,m3⟩,fun k=>?_,R.cn,R.n,R.ne,R.far.1,Nat.le_trans R.far.2 t.size⟩,turn_of t (fun j hj=>?_)⟩
  · show l.length ≤ ca - 1
    simp at e2;omega
  · change l ≠ [] at hl
    have:0 < l.length:=List.length_pos_iff.2 hl
    refine ⟨ab,ao + 1,by rw [if_neg (by simp at e2;omega)],hlt,fun j z hz=>?_⟩
    have:=hac (j + 1) z (show (a :: l)[j + 1]?=some z from (List.getElem?_cons_succ).trans hz)
    rw [show ao + 1 + j=ao + (j + 1) by omega]
    exact cell_trn t (fun hm=>by have:=(hG ab hm).1;omega) this
  · show List.map _ _=D.evs ++ _
    rw [List.map_append,p1];rfl
  · show w2.ownsRow β _ 3 tv' (D.evs ++ [_]).length _
    rw [List.length_append,cellsV_append]
    exact o2
  · rcases List.mem_append.1 hp with hp | hp
    · refine own_trn (p3 p hp) t (fun j hj hg=>?_)
      obtain ⟨c,ty,fr,h1,h2⟩:=hx 30 (by decide) (by decide) j hg
      exact own_ne (p3 p hp) h1 h2.symm j hj rfl
    · rw [List.mem_singleton] at hp;subst hp
      have:=own_base o1 R.far.2
      show w2.ownsRow β _ 1 va (D.args (Ins.argsI imm).toNat).length ((D.args (Ins.argsI imm).toNat).map (.int .u64))
      rw [show (D.args (Ins.argsI imm).toNat).length=(Ins.argsI imm).toNat by simp [Pl.args]]
      exact this
  · subst e
    rcases o2.2 with ⟨h,_⟩ | ⟨g',cap,cur,h,h2,h3,h4,h5,h6,h7⟩
    · rw [h] at hj;cases hj
    · rw [h] at hj
      obtain rfl:g'=j:=by simpa [Value.ownBlock] using hj
      have c0:=m1'.c0
      simp only [World.cell?,h3] at c0
      have hi:∃ q:Int,(cellsV ps ++ [Value.int .i64 imm,va,.int .u64 a])[0]?=some (.int .i64 q):=by
        cases ps with
        | nil=>exact ⟨imm,rfl⟩
        | cons p ps=>exact ⟨p.1.num,rfl⟩
      obtain ⟨q,hq⟩:=hi
      have hl:0 < (D.evs.length + 1) * 3:=by omega
      rw [← h7,List.getElem?_take_of_lt hl,Array.getElem?_toList] at hq
      have c0':cur[0]?=some M.k.v:=c0
      rw [hq] at c0'
      unfold Rm.Rw.v at c0'
      cases c0'
  · unfold Pl.called
    simp only
    have av0:0 ≤ a ∧ a < 18446744073709551616:=z0 a (by simp)
    split <;> first | exact av0 | exact ⟨by decide,by decide⟩ | exact R.words _
  · obtain ⟨h0,_,c,ty,fr,h1,h2⟩:=hG j hj
    exact ⟨h0,c,ty,fr,h1,by rcases h2 with rfl | rfl <;> decide⟩
end
end Go.Proofs.YtigliofiojkhcaaGreat.Mdl
