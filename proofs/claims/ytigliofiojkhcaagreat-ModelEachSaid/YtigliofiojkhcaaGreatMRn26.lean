import Derived.Test.YtigliofiojkhcaaGreatMRn25
import Derived.Test.YtigliofiojkhcaaGreatMRn02
set_option linter.unusedVariables false
set_option linter.unusedSimpArgs false
set_option linter.unnecessarySimpa false
namespace Go.Proofs.YtigliofiojkhcaaGreat.Rm
open Go.RowKit
set_option linter.unusedVariables false
set_option maxRecDepth 100000
set_option linter.unnecessarySimpa false
set_option linter.unusedSimpArgs false
structure Rel (S:MemS) (kf:Nat → Int) (M:RefM):Prop where
  kl:M.k.len=S.cn
  kv:∀ i,i < S.cn → M.k.f i=kf i
  xl:M.x.len=S.n
  xv:∀ i,i < S.n → M.x.f i=S.g (1 + i)
  fl:M.fr.len=64
  fv:∀ i,i < 64 → M.fr.f i=S.g (258 + i)
  sl:(M.s.len:Int)=stkI S.hs
  sv:∀ i,i < M.s.len → M.s.f i=S.g (322 + i)
theorem which_loc {S:MemS} {kf:Nat → Int} {M:RefM} (h:Rel S kf M) (h1:S.cn ≤ 16384) (h2:S.n ≤ 256) {a k:Int} {m:Nat} {R:Rw} (hw:Which M a k R) (k0:0 ≤ k) (kn:k + m ≤ R.len) (hm:1 ≤ (m:Int)):
    locI S.cn S.n S.hs a m ≠ 0 ∧ getI (fun t=>R.f (k.toNat + t)) m=getI (fun i=>byteAt S kf (a + i)) m:=by
  have z:=stkI_bd S.hs
  rcases hw with ⟨rfl,rfl⟩ | ⟨rfl,rfl⟩ | ⟨rfl,rfl⟩ | ⟨rfl,rfl⟩
  · have:=h.kl
    rw [loc_eq1 ⟨by omega,by omega⟩ hm]
    refine ⟨by omega,getI_congr m fun t ht=>?_⟩
    unfold byteAt
    rw [if_pos (by omega),h.kv _ (by omega),show (a + (t:Int) - 1048576).toNat=(a - 1048576).toNat + t by omega]
  · have:=h.xl
    rw [loc_eq2 ⟨by omega,by omega⟩ hm h1]
    refine ⟨by omega,getI_congr m fun t ht=>?_⟩
    unfold byteAt plc
    rw [if_neg (by omega),if_pos (by omega),h.xv _ (by omega),show (1 + (a + (t:Int) - 2097152)).toNat=1 + ((a - 2097152).toNat + t) by omega]
  · have:=h.fl
    rw [loc_eq3 ⟨by omega,by omega⟩ hm h1 h2]
    refine ⟨by omega,getI_congr m fun t ht=>?_⟩
    unfold byteAt plc
    rw [if_neg (by omega),if_neg (by omega),if_pos (by omega),h.fv _ (by omega),show (258 + (a + (t:Int) - 3145728)).toNat=258 + ((a - 3145728).toNat + t) by omega]
  · have:=h.sl
    rw [loc_eq4 ⟨by omega,by omega⟩ hm h1 h2]
    refine ⟨by omega,getI_congr m fun t ht=>?_⟩
    unfold byteAt plc
    rw [if_neg (by omega),if_neg (by omega),if_neg (by omega),h.sv _ (by omega),show (322 + (a + (t:Int) - 4194304)).toNat=322 + ((a - 4194304).toNat + t) by omega]
theorem withinB_false {a n base:Int} {len:Nat} (h:withinB a n base len=false):¬ (base ≤ a ∧ a - base < len ∧ n ≤ len - (a - base)):=of_decide_eq_false h
theorem find_none {S:MemS} {kf:Nat → Int} {M:RefM} (h:Rel S kf M) {a k:Int} {m:Nat} {v:Value} {wr:Bool} (hf:FindIs M a m wr v k false) (hm:1 ≤ (m:Int)) (h1:S.cn ≤ 16384):locI S.cn S.n S.hs a m=0 ∨ (wr=true ∧ locI S.cn S.n S.hs a m=1):=by
  have l1:=h.kl
  have l2:=h.xl
  have l3:=h.fl
  have l4:=h.sl
  rcases hf with ⟨e0,_,_,e⟩ | ⟨_,_,_,_,e⟩ | ⟨_,_,_,_,_,e⟩ | ⟨_,_,_,_,_,_,e⟩ | ⟨e0,e1,e2,e3,_⟩
  · have:=withinB_true e0
    exact .inr ⟨by simpa using e,loc_eq1 ⟨by omega,by omega⟩ hm⟩
  · cases e
  · cases e
  · cases e
  · have:=withinB_false e0;have:=withinB_false e1;have:=withinB_false e2;have:=withinB_false e3
    exact .inl (loc_eq0 (by omega) (by omega) (by omega) (by omega))
theorem read_rel {S:MemS} {kf:Nat → Int} {M:RefM} (h:Rel S kf M) (h1:S.cn ≤ 16384) (h2:S.n ≤ 256) {a:Int} {m:Nat} (hm:1 ≤ (m:Int)) (hs:sizedB m=true) {W w:World} {base:Nat} {e:Ending} (hr:RefRead M a m W w base e):e=.returned (.tuple #[.int .u64 (readV S kf a m),.int .i64 (readE S a m)]):=by
  rcases hr with ⟨hb,_⟩ | ⟨_,v,k,ok,hf,⟨rfl,rfl⟩ | ⟨rfl,R,hw,_,_,k0,kn,rfl⟩⟩
  · rw [hs] at hb;cases hb
  · have hl:locI S.cn S.n S.hs a m=0:=by
      rcases find_none h hf hm h1 with e | ⟨e,_⟩
      · exact e
      · cases e
    unfold readV readE
    rw [if_pos hl,if_pos hl]
  · obtain ⟨hl,hg⟩:=which_loc h h1 h2 hw k0 kn hm
    unfold readV readE
    rw [if_neg hl,if_neg hl,Int.toNat_natCast,hg]
end Go.Proofs.YtigliofiojkhcaaGreat.Rm
namespace Go.Proofs.YtigliofiojkhcaaGreat.Rm
open Go.RowKit
set_option linter.unusedVariables false
set_option maxRecDepth 100000
set_option linter.unnecessarySimpa false
set_option linter.unusedSimpArgs false
def Rw.ap (R R':Rw):Prop:=∀ g:Nat,R.a=some ⟨g,0,none⟩ → R'.a ≠ some ⟨g,0,none⟩
theorem Rw.ap.symm {R R':Rw} (h:R.ap R'):R'.ap R:=fun g h1 h2=>h g h2 h1
structure Sep (M:RefM):Prop where
  kx:M.k.ap M.x
  kf:M.k.ap M.fr
  ks:M.k.ap M.s
  xf:M.x.ap M.fr
  xs:M.x.ap M.s
  fs:M.fr.ap M.s
theorem cell_of_block {w w':World} {b i:Nat} (h:w'.heap[b]?=w.heap[b]?):w'.cell? ⟨b,i,none⟩=w.cell? ⟨b,i,none⟩:=by
  unfold World.cell?;simp only [h]
theorem at_other {R R':Rw} {W w:World} {base g:Nat} (h:R'.at W base) (hc:ChgAt g W w) (hg:R.a=some ⟨g,0,none⟩) (ha:R.ap R'):R'.at w base:=by
  refine ⟨⟨h.own.1,?_⟩,h.bytes,h.le⟩
  rcases h.own.2 with h1 | ⟨g',cap,cur,e1,e2,e3,r⟩
  · exact .inl h1
  · have hv:R'.a=some ⟨g',0,none⟩:=by unfold Rw.v at e1;injection e1
    have hne:g' ≠ g:=fun e=>by subst e;exact ha _ hg hv
    exact .inr ⟨g',cap,cur,e1,e2,(hc.block g' (Array.getElem?_eq_some_iff.1 e3).1 hne).trans e3,r⟩
def Rw.put (R:Rw) (k m:Nat) (v:Int):Rw:={ R with f:=putF R.f k m v }
theorem byteI_bd (v:Int) (i:Nat):0 ≤ byteI v i ∧ byteI v i < 256:=by unfold byteI;omega
theorem put_at {R:Rw} {W w:World} {base g k m:Nat} {v:Int} (h:R.at W base) (hg:R.a=some ⟨g,0,none⟩) (ho:Own w base (.slice (some ⟨g,0,none⟩) R.len R.cap) R.len (putF R.f k m v)):(R.put k m v).at w base:=by
  refine ⟨?_,fun i hi=>?_,h.le⟩
  · have e:(R.put k m v).v=.slice (some ⟨g,0,none⟩) R.len R.cap:=by unfold Rw.v Rw.put;simp only [hg]
    rw [e];exact ho
  · show 0 ≤ putF R.f k m v i ∧ putF R.f k m v i < 256
    unfold putF
    split
    · exact byteI_bd _ _
    · exact h.bytes i hi
theorem ne_row {M:RefM} {R:Rw} {W:World} {r base g:Nat} {v:Value} (hc:W.cell? ⟨r,0,none⟩=some M.k.v) (h:R.at W base) (h0:0 < R.len) (hg:R.a=some ⟨g,0,none⟩):r ≠ g:=by
  rintro rfl
  obtain ⟨g',e,_,_,_,hx⟩:=h.open h0
  rw [hg] at e
  injection e with e
  injection e with e
  subst e
  have:=hx 0 h0
  rw [hc] at this
  unfold Rw.v at this
  cases this
theorem row_of {R:Rw} {W:World} {base g:Nat} (h:R.at W base) (hg:R.a=some ⟨g,0,none⟩) (h0:0 < R.len):∃ c:Array Value,W.heap[g]?=some (.cells c 5 (0,0)):=by
  rcases h.own.2 with ⟨h1,h2⟩ | ⟨g',cap,cur,e1,e2,e3,e4,e5,e6⟩
  · omega
  · unfold Rw.v at e1
    injection e1 with x1 x2 x3
    rw [hg] at x1
    obtain rfl:g=g':=by simpa using x1
    exact ⟨cur,e3⟩
def WrRel (S:MemS) (kf:Nat → Int) (r base:Nat) (a:Int) (m:Nat) (v:Int) (W w:World) (e:Ending):Prop:=
  (locI S.cn S.n S.hs a m ≤ 1 ∧ e=.returned (.int .i64 20) ∧ W=w) ∨
  (1 < locI S.cn S.n S.hs a m ∧ e=.returned (.int .i64 0) ∧ ∃ (M':RefM) (g:Nat),RefAt M' w r base ∧ Sep M' ∧ Rel (S.putAt a m v) kf M' ∧ base ≤ g ∧ ChgAt g W w ∧ ∃ c:Array Value,W.heap[g]?=some (.cells c 5 (0,0)))
theorem write_rel {S:MemS} {kf:Nat → Int} {M:RefM} (h:Rel S kf M) (hsep:Sep M) (h1:S.cn ≤ 16384) (h2:S.n ≤ 256) {a v:Int} {m:Nat} (hm:1 ≤ (m:Int)) (hs:sizedB m=true) {W w:World} {r base:Nat} (hM:RefAt M W r base) {e:Ending} (hr:RefWrite M a m v W w base e):WrRel S kf r base a m v W w e:=by
  have z:=stkI_bd S.hs
  rcases hr with ⟨hb,_⟩ | ⟨_,u,k,ok,hf,⟨rfl,rfl,rfl⟩ | ⟨rfl,rfl,R,g,hw,hg,hbg,k0,kn,ho,hch⟩⟩
  · rw [hs] at hb;cases hb
  · left
    rcases find_none h hf hm h1 with e | ⟨_,e⟩
    · exact ⟨by omega,rfl,rfl⟩
    · exact ⟨by omega,rfl,rfl⟩
  · right
    rw [Int.toNat_natCast] at ho
    have keep:∀ {i:Nat} {x:Value},r ≠ g → W.cell? ⟨r,i,none⟩=some x → w.cell? ⟨r,i,none⟩=some x:=fun hne hx=>(cell_of_block (hch.block r (lt_of_cell hx) hne)).trans hx
    rcases hw with ⟨rfl,rfl⟩ | ⟨rfl,rfl⟩ | ⟨rfl,rfl⟩ | ⟨rfl,rfl⟩
    · exfalso
      rcases hf with ⟨_,_,_,e⟩ | ⟨e0,_⟩ | ⟨e0,_⟩ | ⟨e0,_⟩ | ⟨e0,_⟩
      · cases e
      all_goals (have:=withinB_false e0;omega)
    · have l:=h.xl
      have hne:=ne_row (v:=u) hM.c0 hM.x (by omega) hg
      rw [loc_eq2 ⟨by omega,by omega⟩ hm h1]
      refine ⟨by omega,rfl,{ M with x:=M.x.put (a - 2097152).toNat m v },g,⟨keep hne hM.c0,keep hne hM.c1,keep hne hM.c2,keep hne hM.c3,at_other hM.k hch hg hsep.kx.symm,put_at hM.x hg ho,at_other hM.fr hch hg hsep.xf,at_other hM.s hch hg hsep.xs⟩,⟨hsep.kx,hsep.kf,hsep.ks,hsep.xf,hsep.xs,hsep.fs⟩,⟨h.kl,h.kv,h.xl,fun i hi=>?_,h.fl,fun i hi=>?_,h.sl,fun i hi=>?_⟩,hbg,hch,row_of hM.x hg (by omega)⟩
      · have hv:=h.xv i hi
        show putF _ _ _ _ _=if _ then _ else _
        unfold putF plc
        rw [if_pos (show a < 3145728 by omega)]
        by_cases hin:(a - 2097152).toNat ≤ i ∧ i < (a - 2097152).toNat + m
        · rw [if_pos hin,if_pos (by omega),show 1 + i - (1 + (a - 2097152)).toNat=i - (a - 2097152).toNat by omega]
        · rw [if_neg hin,if_neg (by omega),hv]
      · rw [h.fv i hi]
        show _=if _ then _ else _
        unfold plc
        rw [if_pos (show a < 3145728 by omega),if_neg (by omega)]
      · rw [h.sv i hi]
        show _=if _ then _ else _
        unfold plc
        rw [if_pos (show a < 3145728 by omega),if_neg (by omega)]
    · have l:=h.fl
      have hne:=ne_row (v:=u) hM.c0 hM.fr (by omega) hg
      rw [loc_eq3 ⟨by omega,by omega⟩ hm h1 h2]
      refine ⟨by omega,rfl,{ M with fr:=M.fr.put (a - 3145728).toNat m v },g,⟨keep hne hM.c0,keep hne hM.c1,keep hne hM.c2,keep hne hM.c3,at_other hM.k hch hg hsep.kf.symm,at_other hM.x hch hg hsep.xf.symm,put_at hM.fr hg ho,at_other hM.s hch hg hsep.fs⟩,⟨hsep.kx,hsep.kf,hsep.ks,hsep.xf,hsep.xs,hsep.fs⟩,⟨h.kl,h.kv,h.xl,fun i hi=>?_,h.fl,fun i hi=>?_,h.sl,fun i hi=>?_⟩,hbg,hch,row_of hM.fr hg (by omega)⟩
      · rw [h.xv i hi]
        show _=if _ then _ else _
        have hi':i < S.n:=hi
        unfold plc
        rw [if_neg (show ¬ a < 3145728 by omega),if_pos (show a < 4194304 by omega),if_neg (by omega)]
      · have hv:=h.fv i hi
        show putF _ _ _ _ _=if _ then _ else _
        unfold putF plc
        rw [if_neg (show ¬ a < 3145728 by omega),if_pos (show a < 4194304 by omega)]
        by_cases hin:(a - 3145728).toNat ≤ i ∧ i < (a - 3145728).toNat + m
        · rw [if_pos hin,if_pos (by omega),show 258 + i - (258 + (a - 3145728)).toNat=i - (a - 3145728).toNat by omega]
        · rw [if_neg hin,if_neg (by omega),hv]
      · rw [h.sv i hi]
        show _=if _ then _ else _
        unfold plc
        rw [if_neg (show ¬ a < 3145728 by omega),if_pos (show a < 4194304 by omega),if_neg (by omega)]
    · have l:=h.sl
      have hne:=ne_row (v:=u) hM.c0 hM.s (by omega) hg
      rw [loc_eq4 ⟨by omega,by omega⟩ hm h1 h2]
      refine ⟨by omega,rfl,{ M with s:=M.s.put (a - 4194304).toNat m v },g,⟨keep hne hM.c0,keep hne hM.c1,keep hne hM.c2,keep hne hM.c3,at_other hM.k hch hg hsep.ks.symm,at_other hM.x hch hg hsep.xs.symm,at_other hM.fr hch hg hsep.fs.symm,put_at hM.s hg ho⟩,⟨hsep.kx,hsep.kf,hsep.ks,hsep.xf,hsep.xs,hsep.fs⟩,⟨h.kl,h.kv,h.xl,fun i hi=>?_,h.fl,fun i hi=>?_,h.sl,fun i hi=>?_⟩,hbg,hch,row_of hM.s hg (by omega)⟩
      · rw [h.xv i hi]
        show _=if _ then _ else _
        have hi':i < S.n:=hi
        unfold plc
        rw [if_neg (show ¬ a < 3145728 by omega),if_neg (show ¬ a < 4194304 by omega),if_neg (by omega)]
      · rw [h.fv i hi]
        show _=if _ then _ else _
        unfold plc
        rw [if_neg (show ¬ a < 3145728 by omega),if_neg (show ¬ a < 4194304 by omega),if_neg (by omega)]
      · have hv:=h.sv i hi
        show putF _ _ _ _ _=if _ then _ else _
        unfold putF plc
        rw [if_neg (show ¬ a < 3145728 by omega),if_neg (show ¬ a < 4194304 by omega)]
        by_cases hin:(a - 4194304).toNat ≤ i ∧ i < (a - 4194304).toNat + m
        · rw [if_pos hin,if_pos (by omega),show 322 + i - (322 + (a - 4194304)).toNat=i - (a - 4194304).toNat by omega]
        · rw [if_neg hin,if_neg (by omega),hv]
end Go.Proofs.YtigliofiojkhcaaGreat.Rm
namespace Go.Proofs.YtigliofiojkhcaaGreat
open Go
set_option linter.unusedVariables false
section
variable {P:Program} {ops:Array Oper} {Q:Exit → Act → World → Prop} {md:Region.Mode}
structure Inv2 (ops:Array Oper) (a0:Act) (dep:Nat → Nat) (S:World → Prop) (R:Nat → Value → Value → World → Prop) (D:Nat → Nat → Value → Value → Prop) (l:Array Bool) (a:Act) (w:World):Prop extends Inv ops a0 dep S R l a w where
  pairs:∀ (i j:Nat) (o o':Oper),ops[i]?=some o → ops[j]?=some o' → i ≠ j → l.getD i true=true → l.getD j true=true → D i j (own o a) (own o' a)
theorem wp_region_inv2 {id:Nat} {a0:Act} {w0:World} (dep:Nat → Nat) (S:World → Prop) (R:Nat → Value → Value → World → Prop) (D:Nat → Nat → Value → Value → Prop) (hm:P.follows .mixedOrders=true)
    (hback:∀ (i:Nat) (o:Oper),ops[i]?=some o → ∀ e ∈ o.after,Region.binds .any e=true → e.on < i)
    (hdst:∀ (i j:Nat) (o o':Oper) (d:Nat),ops[i]?=some o → ops[j]?=some o' → o.dst=some d → o'.dst=some d → i=j)
    (hdep:∀ (i j:Nat) (o o':Oper),ops[i]?=some o → ops[j]?=some o' → o.dst=some (dep j) → i=j ∨ ∃ e ∈ o'.after,Region.binds .any e=true ∧ e.on=i)
    (hin:∀ (i:Nat) (o:Oper) (d:Nat),ops[i]?=some o → o.dst=some d → d < a0.tmps.size)
    (h0:S { w0 with drawn:=w0.drawn + 1 })
    (hop:∀ (i:Nat) (o:Oper) (a:Act) (w:World),ops[i]?=some o → S w → a.defers=a0.defers → a.tmps.size=a0.tmps.size → (∀ j,(∀ (i:Nat) (o:Oper),ops[i]?=some o → o.dst ≠ some j) → a.tmps.getD j undef=a0.tmps.getD j undef) →
      (∀ e ∈ o.after,Region.binds .any e=true → ∀ (o':Oper),ops[e.on]?=some o' → R e.on (own o' a) (a.tmps.getD (dep e.on) undef) w) →
      (∀ e ∈ o.after,Region.binds .any e=true → ∀ e' ∈ o.after,Region.binds .any e'=true → e.on ≠ e'.on → ∀ (o' o'':Oper),ops[e.on]?=some o' → ops[e'.on]?=some o'' → D e.on e'.on (own o' a) (own o'' a)) →
      wpOp P ops Q i (fun a' w'=>∃ v,a'=a.put o.dst v ∧ R i (own o a') (a'.tmps.getD (dep i) undef) w' ∧ S w' ∧ (∀ j x u,R j x u w → R j x u w') ∧ ∀ j x u,j ≠ i → R j x u w → D i j (own o a') x ∧ D j i x (own o a')) a w)
    (hq:∀ (u:Nat → Value) (w':World),S w' → (∀ (i:Nat) (o:Oper),ops[i]?=some o → R i (ownU o u) (u (dep i)) w') → (∀ (i j:Nat) (o o':Oper),ops[i]?=some o → ops[j]?=some o' → i ≠ j → D i j (ownU o u) (ownU o' u)) → Q .normal ⟨putAll a0.tmps (outs ops u),a0.defers⟩ w'):
    (Code.region id ops true).wp P Q a0 w0:=by
  refine wp_region_any hm ?_
  refine wpAny_inv (Inv2 ops a0 dep S R D) hback ?_ ?_ ops.size _ _ _ (by simp) ⟨⟨h0,rfl,rfl,fun _ _=>rfl,?_,?_⟩,?_⟩ ?_
  · intro l a w hI hl
    have e:a.tmps=putAll a0.tmps (outs ops fun d=>a.tmps.getD d undef):=by
      apply Array.ext_getElem?
      intro j
      by_cases hj:j < a0.tmps.size
      · by_cases hd:∃ (i:Nat) (o:Oper),ops[i]?=some o ∧ o.dst=some j
        · obtain ⟨i,o,ho,hd⟩:=hd
          rw [putAll_mem (fun d=>a.tmps.getD d undef) _ _ j hj]
          · have hj':j < a.tmps.size:=by rw [hI.size];exact hj
            rw [Array.getElem?_eq_getElem hj']
            simp [Array.getD_eq_getD_getElem?,Array.getElem?_eq_getElem hj']
          · intro p hp
            unfold outs at hp
            rw [List.mem_filterMap] at hp
            obtain ⟨i',_,he⟩:=hp
            rw [Option.map_eq_some_iff] at he
            obtain ⟨d,_,rfl⟩:=he
            rfl
          · refine ⟨(j,a.tmps.getD j undef),?_,rfl⟩
            unfold outs
            rw [List.mem_filterMap]
            exact ⟨i,List.mem_range.2 (Array.getElem?_eq_some_iff.1 ho).1,by rw [ho];simp [hd]⟩
        · have hr:=hI.rest j (fun i o ho hd'=>hd ⟨i,o,ho,hd'⟩)
          rw [putAll_other]
          · have hj':j < a.tmps.size:=by rw [hI.size];exact hj
            rw [Array.getElem?_eq_getElem hj',Array.getElem?_eq_getElem hj]
            simp only [Array.getD_eq_getD_getElem?,Array.getElem?_eq_getElem hj',Array.getElem?_eq_getElem hj,Option.getD_some] at hr
            rw [hr]
          · intro p hp e
            unfold outs at hp
            rw [List.mem_filterMap] at hp
            obtain ⟨i',_,he⟩:=hp
            rw [Option.map_eq_some_iff] at he
            obtain ⟨d,hd',rfl⟩:=he
            rw [Option.bind_eq_some_iff] at hd'
            obtain ⟨o,ho,hd'⟩:=hd'
            exact hd ⟨i',o,ho,by rw [hd',← e]⟩
      · rw [Array.getElem?_eq_none (by rw [hI.size];omega),Array.getElem?_eq_none (by rw [putAll_size];omega)]
    have ea:a=⟨putAll a0.tmps (outs ops fun d=>a.tmps.getD d undef),a0.defers⟩:=by
      rw [← e,← hI.defers]
    have hu:=hq (fun d=>a.tmps.getD d undef) w hI.s (fun i o ho=>hI.done i o ho (hl i (Array.getElem?_eq_some_iff.1 ho).1)) (fun i j o o' ho ho' hne=>hI.pairs i j o o' ho ho' hne (hl i (Array.getElem?_eq_some_iff.1 ho).1) (hl j (Array.getElem?_eq_some_iff.1 ho').1))
    rw [ea]
    exact hu
  · intro l a w i o hs hI ho hf ha
    have hi:i < l.size:=by rw [hs];exact (Array.getElem?_eq_some_iff.1 ho).1
    have hup:∀ (e:Nat),l.getD e false=true → l.getD e true=true:=fun e he=>by
      by_cases hlt:e < l.size
      · simp only [Array.getD_eq_getD_getElem?,Array.getElem?_eq_getElem hlt,Option.getD_some] at he ⊢
        exact he
      · simp only [Array.getD_eq_getD_getElem?]
        rw [Array.getElem?_eq_none (by omega)];rfl
    refine wpOp_mono ?_ (hop i o a w ho hI.s hI.defers hI.size hI.rest (fun e he hb o' ho'=>hI.done e.on o' ho' (hup _ (ha e he hb))) (fun e he hb e' he' hb' hne o' o'' ho' ho''=>hI.pairs e.on e'.on o' o'' ho' ho'' hne (hup _ (ha e he hb)) (hup _ (ha e' he' hb'))))
    rintro a' w' ⟨v,rfl,hR,hS,hmo,hD⟩
    have hown:∀ (j:Nat) (oj:Oper),ops[j]?=some oj → j ≠ i → own oj (a.put o.dst v)=own oj a:=by
      intro j oj hj hji
      unfold own
      cases hdj:oj.dst with
      | none=>rfl
      | some d=>
        cases hod:o.dst with
        | none=>rfl
        | some d0=>
          have hd0:d0 < a.tmps.size:=by rw [hI.size];exact hin i o d0 ho hod
          show (a.put (some d0) v).tmps.getD d undef=a.tmps.getD d undef
          rw [put_getD a d0 v hd0 d,if_neg (fun e=>hji (hdst j i oj o d hj ho hdj (by rw [hod,e])))]
    have hpairs:∀ (j k:Nat) (oj ok:Oper),ops[j]?=some oj → ops[k]?=some ok → j ≠ k → (l.setIfInBounds i true).getD j true=true → (l.setIfInBounds i true).getD k true=true → D j k (own oj (a.put o.dst v)) (own ok (a.put o.dst v)):=by
      intro j k oj ok hj hk hne hlj hlk
      by_cases hji:j=i
      · subst hji
        rw [ho] at hj;cases hj
        rw [getD_set l j k hi,if_neg (fun e=>hne e.symm)] at hlk
        rw [hown k ok hk (fun e=>hne e.symm)]
        exact (hD k _ _ (fun e=>hne e.symm) (hI.done k ok hk hlk)).1
      · by_cases hki:k=i
        · subst hki
          rw [ho] at hk;cases hk
          rw [getD_set l k j hi,if_neg hne] at hlj
          rw [hown j oj hj hne]
          exact (hD j _ _ hne (hI.done j oj hj hlj)).2
        · rw [getD_set l i j hi,if_neg hji] at hlj
          rw [getD_set l i k hi,if_neg hki] at hlk
          rw [hown j oj hj hji,hown k ok hk hki]
          exact hI.pairs j k oj ok hj hk hne hlj hlk
    have hclosed:∀ (j:Nat) (oj:Oper),ops[j]?=some oj → (l.setIfInBounds i true).getD j true=true → ∀ e ∈ oj.after,Region.binds .any e=true → (l.setIfInBounds i true).getD e.on true=true:=by
      intro j oj hj hl e he hb
      rw [getD_set l i _ hi]
      by_cases hei:e.on=i
      · rw [if_pos hei]
      · rw [if_neg hei]
        rw [getD_set l i j hi] at hl
        by_cases hji:j=i
        · subst hji
          rw [ho] at hj;cases hj
          exact hup _ (ha e he hb)
        · rw [if_neg hji] at hl
          exact hI.closed j oj hj hl e he hb
    cases hod:o.dst with
    | none=>
      refine ⟨⟨hS,hI.defers,hI.size,hI.rest,fun j oj hj hl=>?_,hclosed⟩,by rw [hod] at hpairs;exact hpairs⟩
      rw [hod] at hR
      by_cases hji:j=i
      · subst hji
        rw [ho] at hj;cases hj
        exact hR
      · rw [getD_set l i j hi,if_neg hji] at hl
        exact hmo _ _ _ (hI.done j oj hj hl)
    | some d0=>
      have hd0:d0 < a.tmps.size:=by rw [hI.size];exact hin i o d0 ho hod
      have hput:=put_getD a d0 v hd0
      refine ⟨⟨hS,hI.defers,by show (a.tmps.setIfInBounds d0 v).size=_;simp [hI.size],fun j hj=>?_,fun j oj hj hl=>?_,hclosed⟩,by rw [hod] at hpairs;exact hpairs⟩
      · rw [hput j,if_neg (fun e=>hj i o ho (by rw [hod,e]))]
        exact hI.rest j hj
      · rw [hod] at hR
        by_cases hji:j=i
        · subst hji
          rw [ho] at hj;cases hj
          exact hR
        · rw [getD_set l i j hi,if_neg hji] at hl
          have h1:own oj (a.put (some d0) v)=own oj a:=by
            unfold own
            cases hdj:oj.dst with
            | none=>rfl
            | some d=>
              show (a.put (some d0) v).tmps.getD d undef=a.tmps.getD d undef
              rw [hput d,if_neg (fun e=>hji (hdst j i oj o d hj ho hdj (by rw [hod,e])))]
          have h2:(a.put (some d0) v).tmps.getD (dep j) undef=a.tmps.getD (dep j) undef:=by
            rw [hput (dep j),if_neg]
            intro e
            rcases hdep i j o oj ho hj (by rw [hod,e]) with h | ⟨e',he',hb',hei⟩
            · exact hji h.symm
            · have:=hI.closed j oj hj hl e' he' hb'
              rw [hei,hf] at this;cases this
          rw [h1,h2]
          exact hmo _ _ _ (hI.done j oj hj hl)
  · intro i o ho hl
    have hi:=(Array.getElem?_eq_some_iff.1 ho).1
    simp [Array.getD_eq_getD_getElem?,hi] at hl
  · intro i o ho hl
    have hi:=(Array.getElem?_eq_some_iff.1 ho).1
    simp [Array.getD_eq_getD_getElem?,hi] at hl
  · intro i j o o' ho ho' hne hl
    have hi:=(Array.getElem?_eq_some_iff.1 ho).1
    simp [Array.getD_eq_getD_getElem?,hi] at hl
  · have:∀ (l:Array Bool) n,unl l n ≤ n:=fun l n=>by
      induction n with
      | zero=>exact Nat.le_refl _
      | succ n ih=>unfold unl;split <;> omega
    exact this _ _
end
end Go.Proofs.YtigliofiojkhcaaGreat
namespace Go.Proofs.YtigliofiojkhcaaGreat.Rm
open Go.RowKit
set_option linter.unusedVariables false
set_option maxRecDepth 100000
set_option linter.unnecessarySimpa false
set_option linter.unusedSimpArgs false
theorem own_shape {w:World} {base n:Nat} {v:Value} {f:Nat → Int} (h:Own w base v n f):∃ a c,v=.slice a n c:=by
  rcases h.2 with ⟨rfl,rfl⟩ | ⟨g,cap,cur,rfl,_⟩
  · exact ⟨_,_,rfl⟩
  · exact ⟨_,_,rfl⟩
def Apt (x y:Value):Prop:=∀ g:Nat,x.ownBlock=some g → y.ownBlock ≠ some g
theorem apt_symm {x y:Value} (h:Apt x y):Apt y x:=fun g h1 h2=>h g h2 h1
theorem apt_new {w w':World} {b n n':Nat} {x y:Value} {f f':Nat → Int} (h:Own w b y n f) (h':Own w' w.heap.size x n' f'):Apt x y:=fun g h1 h2=>by
  have:=(World.ownsRow.lt h g h2).2
  have:=(World.ownsRow.lt h' g h1).1
  omega
theorem own_made (w:World) (base n:Nat) (hb:base ≤ w.heap.size) (hn:n ≤ 264):Own (w.alloc (.cells (zeros n) 5)) base (.slice (some ⟨w.heap.size,0,none⟩) n n) n (fun _=>0):=by
  refine ⟨by rw [bytesOf_length];omega,.inr ⟨w.heap.size,n,_,rfl,hb,heap_last _ _ _ rfl,Nat.le_refl _,by unfold maxLen;omega,by unfold zeros;rw [List.size_toArray,bytesOf_length];omega,?_⟩⟩
  unfold zeros
  rw [Nat.mul_one]
  exact List.take_of_length_le (by rw [bytesOf_length];omega)
def Three (base kl:Nat) (kf:Nat → Int) (cl:Nat) (cf:Nat → Int) (w:World) (v1 v3 v4:Value):Prop:=
  Own w base v1 kl kf ∧ Own w base v3 cl cf ∧ Own w base v4 64 (fun _=>0) ∧ Apt v1 v3 ∧ Apt v1 v4 ∧ Apt v3 v4
theorem own_past {w w':World} {base n:Nat} {v:Value} {f:Nat → Int} (h:Own w base v n f) (b:∀ k,k < w.heap.size → w'.heap[k]?=w.heap[k]?):Own w' base v n f:=owns_past h b
theorem three_past {base kl:Nat} {kf:Nat → Int} {cl:Nat} {cf:Nat → Int} {w w':World} {v1 v3 v4:Value} (h:Three base kl kf cl cf w v1 v3 v4) (b:∀ k,k < w.heap.size → w'.heap[k]?=w.heap[k]?):Three base kl kf cl cf w' v1 v3 v4:=
  ⟨own_past h.1 b,own_past h.2.1 b,own_past h.2.2.1 b,h.2.2.2⟩
def newR (base:Nat) (ka:Option Addr) (kl kc:Nat) (kf:Nat → Int) (ca:Option Addr) (cl cc:Nat) (cf:Nat → Int):Nat → Value → Value → World → Prop
  | 0,x,_,_=>x=.slice ka kl kc
  | 1,x,_,w=>Own w base x kl kf
  | 2,x,_,_=>x=.slice ca cl cc
  | 3,x,_,w=>Own w base x cl cf
  | 4,x,_,w=>Own w base x 64 (fun _=>0)
  | 5,x,_,w=>∃ v1 v3 v4,x=.agg #[v1,v3,v4,.slice none 0 0] ∧ Three base kl kf cl cf w v1 v3 v4
  | _,x,_,w=>∃ r v1 v3 v4,x=.pointer (some ⟨r,0,none⟩) ∧ base ≤ r ∧ w.heap[r]?=some (.cells #[v1,v3,v4,.slice none 0 0] 99 (0,0)) ∧ Three base kl kf cl cf w v1 v3 v4
theorem newR_past {base:Nat} {ka:Option Addr} {kl kc:Nat} {kf:Nat → Int} {ca:Option Addr} {cl cc:Nat} {cf:Nat → Int} {w w':World} (b:∀ k,k < w.heap.size → w'.heap[k]?=w.heap[k]?) {j:Nat} {x u:Value} (h:newR base ka kl kc kf ca cl cc cf j x u w):newR base ka kl kc kf ca cl cc cf j x u w':=by
  unfold newR at *
  split at h
  · exact h
  · exact own_past h b
  · exact h
  · exact own_past h b
  · exact own_past h b
  · obtain ⟨v1,v3,v4,h1,h2⟩:=h;exact ⟨v1,v3,v4,h1,three_past h2 b⟩
  · obtain ⟨r,v1,v3,v4,h1,h0,h2,h3⟩:=h;exact ⟨r,v1,v3,v4,h1,h0,(b r (Array.getElem?_eq_some_iff.1 h2).1).trans h2,three_past h3 b⟩
def NewRef (W:World) (kl:Nat) (kf:Nat → Int) (cl:Nat) (cf:Nat → Int) (st:Bool) (e:Ending) (w:World):Prop:=
  ∃ (r:Nat) (M:RefM),e=.returned (.tuple #[.pointer (some ⟨r,0,none⟩),.int .i64 0]) ∧ W.heap.size ≤ r ∧ Below W.heap.size W w ∧ RefAt M w r W.heap.size ∧ Sep M ∧
    (M.k.len=kl ∧ M.k.f=kf) ∧ (M.x.len=cl ∧ M.x.f=cf) ∧ (M.fr.len=64 ∧ M.fr.f=fun _=>0) ∧ ((M.s.len:Int)=stkI st ∧ M.s.f=fun _=>0)
theorem own_stored {w w':World} {base n r:Nat} {v:Value} {f:Nat → Int} {c cs:Array Value} (h:Own w base v n f) (hr:w.heap[r]?=some (.cells c 99 (0,0))) (s:Stored w r cs 99 w'):Own w' base v n f:=by
  refine ⟨h.1,?_⟩
  rcases h.2 with h1 | ⟨g,cap,cur,e1,e2,e3,q⟩
  · exact .inl h1
  · have hne:g ≠ r:=fun e=>by
      subst e
      rw [hr] at e3
      injection e3 with e3
      injection e3 with _ e4
      exact absurd e4 (by decide)
    exact .inr ⟨g,cap,cur,e1,e2,(s.other g hne).trans e3,q⟩
theorem ap_of {R R':Rw} (h:Apt R.v R'.v):R.ap R':=fun g h1 h2=>h g (by unfold Rw.v;rw [h1];rfl) (by unfold Rw.v;rw [h2];rfl)
theorem new_ref {W w:World} {kl cl:Nat} {kf cf:Nat → Int} {st:Bool} {a1 a3 a4 a5:Option Addr} {c1 c3 c4 c5 l5 r:Nat} (hb:Below W.heap.size W w) (hr0:W.heap.size ≤ r) (hrow:w.heap[r]?=some (.cells #[.slice a1 kl c1,.slice a3 cl c3,.slice a4 64 c4,.slice a5 l5 c5] 99 (0,0)))
    (T:Three W.heap.size kl kf cl cf w (.slice a1 kl c1) (.slice a3 cl c3) (.slice a4 64 c4)) (h5:Own w W.heap.size (.slice a5 l5 c5) l5 (fun _=>0)) (hl5:(l5:Int)=stkI st)
    (d1:Apt (.slice a1 kl c1) (.slice a5 l5 c5)) (d3:Apt (.slice a3 cl c3) (.slice a5 l5 c5)) (d4:Apt (.slice a4 64 c4) (.slice a5 l5 c5))
    (bk:∀ i,i < kl → 0 ≤ kf i ∧ kf i < 256) (bc:∀ i,i < cl → 0 ≤ cf i ∧ cf i < 256) (h1:cl ≤ 256) (h2:kl ≤ 16384):NewRef W kl kf cl cf st (.returned (.tuple #[.pointer (some ⟨r,0,none⟩),.int .i64 0])) w:=by
  have z:=stkI_bd st
  refine ⟨r,⟨⟨a1,kl,c1,kf⟩,⟨a3,cl,c3,cf⟩,⟨a4,64,c4,fun _=>0⟩,⟨a5,l5,c5,fun _=>0⟩⟩,rfl,hr0,hb,⟨by simp [World.cell?,hrow,Rw.v],by simp [World.cell?,hrow,Rw.v],by simp [World.cell?,hrow,Rw.v],by simp [World.cell?,hrow,Rw.v],⟨T.1,bk,by show kl ≤ _;omega⟩,⟨T.2.1,bc,by show cl ≤ _;omega⟩,⟨T.2.2.1,fun _ _=>⟨by show (0:Int) ≤ 0;omega,by show (0:Int) < 256;omega⟩,by show 64 ≤ _;omega⟩,⟨h5,fun _ _=>⟨by show (0:Int) ≤ 0;omega,by show (0:Int) < 256;omega⟩,by show l5 ≤ _;omega⟩⟩,⟨ap_of T.2.2.2.1,ap_of T.2.2.2.2.1,ap_of d1,ap_of T.2.2.2.2.2,ap_of d3,ap_of d4⟩,⟨rfl,rfl⟩,⟨rfl,rfl⟩,⟨rfl,rfl⟩,⟨hl5,rfl⟩⟩
def rowOp (i:Nat):Bool:=i == 1 || i == 3 || i == 4
def newD (i j:Nat) (x y:Value):Prop:=rowOp i=true → rowOp j=true → Apt x y
theorem newD_new {base:Nat} {ka:Option Addr} {kl kc:Nat} {kf:Nat → Int} {ca:Option Addr} {cl cc:Nat} {cf:Nat → Int} {w w':World} {n:Nat} {f:Nat → Int} {v:Value} (h:Own w' w.heap.size v n f) (i j:Nat) (x u:Value) (hr:newR base ka kl kc kf ca cl cc cf j x u w):newD i j v x ∧ newD j i x v:=by
  have key:rowOp j=true → Apt v x:=by
    intro hj
    have:j=1 ∨ j=3 ∨ j=4:=by simpa [rowOp,or_assoc] using hj
    rcases this with rfl | rfl | rfl
    · exact apt_new hr h
    · exact apt_new hr h
    · exact apt_new hr h
  exact ⟨fun _ hj=>key hj,fun hj _=>apt_symm (key hj)⟩
theorem newD_no {i:Nat} (hi:rowOp i=false) (j:Nat) (x y:Value):newD i j x y ∧ newD j i y x:=
  ⟨fun h=>(by rw [hi] at h;cases h),fun _ h=>(by rw [hi] at h;cases h)⟩
set_option maxRecDepth 100000 in
set_option maxHeartbeats 2000000 in
theorem r_new (ka:Option Addr) (kl kc:Nat) (kf:Nat → Int) (ca:Option Addr) (cl cc:Nat) (cf:Nat → Int) (st:Bool) (W:World) (hc:Src W ca cl cc cf) (hk:Src W ka kl kc kf) (h1:cl ≤ 256) (h2:kl ≤ 16384):
    Calls Tryz.prog 43 #[.slice ca cl cc,.slice ka kl kc,.bool st] W (NewRef W kl kf cl cf st):=by
  have m64:∀ w,(Instr.makeSlice 25 (.int .i64 64) (.int .i64 64)).run Tryz.prog w=.ok (.slice (some ⟨w.heap.size,0,none⟩) 64 64) (w.alloc (.cells (zeros 64) 5)):=fun _=>by kernel_rfl
  have hbd:∀ (a1:Option Addr) (c1:Nat) (a3:Option Addr) (c3:Nat) (a4:Option Addr) (c4:Nat) (w:World),(Instr.build 99 #[(0,.slice a1 kl c1),(1,.slice a3 cl c3),(2,.slice a4 64 c4)]).run Tryz.prog w=.ok (.agg #[.slice a1 kl c1,.slice a3 cl c3,.slice a4 64 c4,.slice none 0 0]) w:=fun _ _ _ _ _ _ _=>by kernel_rfl
  have hbx:∀ (a1:Option Addr) (c1:Nat) (a3:Option Addr) (c3:Nat) (a4:Option Addr) (c4:Nat) (w:World),(Instr.box 99 (.agg #[.slice a1 kl c1,.slice a3 cl c3,.slice a4 64 c4,.slice none 0 0])).run Tryz.prog w=.ok (.pointer (some ⟨w.heap.size,0,none⟩)) (w.alloc (.cells #[.slice a1 kl c1,.slice a3 cl c3,.slice a4 64 c4,.slice none 0 0] 99)):=fun _ _ _ _ _ _ _=>by kernel_rfl
  have BK:=Lib.hid hk.bytes;have BC:=Lib.hid hc.bytes
  have m264:∀ w,(Instr.makeSlice 25 (.int .i64 264) (.int .i64 264)).run Tryz.prog w=.ok (.slice (some ⟨w.heap.size,0,none⟩) 264 264) (w.alloc (.cells (zeros 264) 5)):=fun _=>by kernel_rfl
  have k1:(cl:Int) ≤ 256:=by omega
  have k2:(kl:Int) ≤ 16384:=by omega
  have HC:=Lib.hid hc
  have HK:=Lib.hid hk
  clear hc hk
  go_enter Tryz.func43,Tryz.ntmps43
  go_wp2_with fail
  refine wp_region_inv2 (fun i=>100000) (fun w=>Below W.heap.size W w) (newR W.heap.size ka kl kc kf ca cl cc cf) newD (by kernel_rfl) (back_of (by kernel_rfl)) (dst_of (by kernel_rfl)) (dep_of (by kernel_rfl)) (in_of (by kernel_rfl)) (Below.drew (Below.refl _ W)) ?hop ?hq
  case hop=>
    intro i o a w ho hS hdf hsz hrest hdone hpair
    have e0:a.tmps.getD 0 undef=.slice ca cl cc:=hrest 0 (not_of (by kernel_rfl))
    have e1:a.tmps.getD 1 undef=.slice ka kl kc:=hrest 1 (not_of (by kernel_rfl))
    have hs:a.tmps.size=30:=hsz.trans rfl
    have hi:i < 8:=(Array.getElem?_eq_some_iff.1 ho).1
    obtain rfl | rfl | rfl | rfl | rfl | rfl | rfl | rfl:i=0 ∨ i=1 ∨ i=2 ∨ i=3 ∨ i=4 ∨ i=5 ∨ i=6 ∨ i=7:=by omega
    · obtain rfl:=Option.some.inj (show some _=some o from ho)
      refine wpOp_val (v:=.slice ka kl kc) (w':=w) rfl rfl ?_ ⟨_,rfl,?_,hS,fun _ _ _ h=>h,fun _ _ _ _ _=>newD_no rfl _ _ _⟩
      · simp [execOp,Act.eval,e1]
      · rw [own_put rfl (by rw [hs];omega)];rfl
    · obtain rfl:=Option.some.inj (show some _=some o from ho)
      have h17:a.tmps.getD 17 undef=.slice ka kl kc:=hdone _ (Array.mem_of_getElem? (i:=0) rfl) rfl _ rfl
      refine wpOp_call (f:=53) (args:=#[.slice ka kl kc]) rfl rfl ?_ ?_
      · simp [go_sem,execOp,Act.eval,Deferred.ofValue,callFunc,Tryz.func53,Tryz.f53,h17,resolve,invoke]
      · refine (r_same ka kl kc kf w (HK.out.below hS) (by omega)).mono ?_
        rintro e w' ⟨v,rfl,b9,o9⟩
        refine ⟨_,rfl,_,rfl,?_,below_call hS b9,fun _ _ _ h=>newR_past (fun g hg=>b9.block g hg) h,fun j x u _ hr=>?_⟩
        · rw [own_put rfl (by rw [hs];omega)];exact owns_mono hS.size o9
        · rw [own_put rfl (by rw [hs];omega)];exact newD_new o9 _ _ _ _ hr
    · obtain rfl:=Option.some.inj (show some _=some o from ho)
      refine wpOp_val (v:=.slice ca cl cc) (w':=w) rfl rfl ?_ ⟨_,rfl,?_,hS,fun _ _ _ h=>h,fun _ _ _ _ _=>newD_no rfl _ _ _⟩
      · simp [execOp,Act.eval,e0]
      · rw [own_put rfl (by rw [hs];omega)];rfl
    · obtain rfl:=Option.some.inj (show some _=some o from ho)
      have h19:a.tmps.getD 19 undef=.slice ca cl cc:=hdone _ (Array.mem_of_getElem? (i:=0) rfl) rfl _ rfl
      refine wpOp_call (f:=53) (args:=#[.slice ca cl cc]) rfl rfl ?_ ?_
      · simp [go_sem,execOp,Act.eval,Deferred.ofValue,callFunc,Tryz.func53,Tryz.f53,h19,resolve,invoke]
      · refine (r_same ca cl cc cf w (HC.out.below hS) (by omega)).mono ?_
        rintro e w' ⟨v,rfl,b9,o9⟩
        refine ⟨_,rfl,_,rfl,?_,below_call hS b9,fun _ _ _ h=>newR_past (fun g hg=>b9.block g hg) h,fun j x u _ hr=>?_⟩
        · rw [own_put rfl (by rw [hs];omega)];exact owns_mono hS.size o9
        · rw [own_put rfl (by rw [hs];omega)];exact newD_new o9 _ _ _ _ hr
    · obtain rfl:=Option.some.inj (show some _=some o from ho)
      refine wpOp_val (v:=.slice (some ⟨w.heap.size,0,none⟩) 64 64) (w':=w.alloc (.cells (zeros 64) 5)) rfl rfl ?_ ⟨_,rfl,?_,below_new hS _,fun _ _ _ h=>newR_past (fun g hg=>heap_past _ _ _ hg) h,fun j x u _ hr=>?_⟩
      · simp [execOp,Act.eval,m64]
      · rw [own_put rfl (by rw [hs];omega)];exact own_made w _ 64 hS.size (by omega)
      · rw [own_put rfl (by rw [hs];omega)];exact newD_new (own_made w _ 64 (Nat.le_refl _) (by omega)) _ _ _ _ hr
    · obtain rfl:=Option.some.inj (show some _=some o from ho)
      have s18:Own w W.heap.size (a.tmps.getD 18 undef) kl kf:=hdone _ (Array.mem_of_getElem? (i:=0) rfl) rfl _ rfl
      have s20:Own w W.heap.size (a.tmps.getD 20 undef) cl cf:=hdone _ (Array.mem_of_getElem? (i:=1) rfl) rfl _ rfl
      have s21:Own w W.heap.size (a.tmps.getD 21 undef) 64 (fun _=>0):=hdone _ (Array.mem_of_getElem? (i:=2) rfl) rfl _ rfl
      have p1:Apt (a.tmps.getD 18 undef) (a.tmps.getD 20 undef):=hpair _ (Array.mem_of_getElem? (i:=0) rfl) rfl _ (Array.mem_of_getElem? (i:=1) rfl) rfl (by decide) _ _ rfl rfl rfl rfl
      have p2:Apt (a.tmps.getD 18 undef) (a.tmps.getD 21 undef):=hpair _ (Array.mem_of_getElem? (i:=0) rfl) rfl _ (Array.mem_of_getElem? (i:=2) rfl) rfl (by decide) _ _ rfl rfl rfl rfl
      have p3:Apt (a.tmps.getD 20 undef) (a.tmps.getD 21 undef):=hpair _ (Array.mem_of_getElem? (i:=1) rfl) rfl _ (Array.mem_of_getElem? (i:=2) rfl) rfl (by decide) _ _ rfl rfl rfl rfl
      obtain ⟨a1,c1,q1⟩:=own_shape s18
      obtain ⟨a3,c3,q3⟩:=own_shape s20
      obtain ⟨a4,c4,q4⟩:=own_shape s21
      rw [q1] at s18 p1 p2
      rw [q3] at s20 p1 p3
      rw [q4] at s21 p2 p3
      refine wpOp_val (v:=.agg #[.slice a1 kl c1,.slice a3 cl c3,.slice a4 64 c4,.slice none 0 0]) (w':=w) rfl rfl ?_ ⟨_,rfl,?_,hS,fun _ _ _ h=>h,fun _ _ _ _ _=>newD_no rfl _ _ _⟩
      · have q1':a.tmps[18]?.getD undef=.slice a1 kl c1:=by rw [← q1,Array.getD_eq_getD_getElem?]
        have q3':a.tmps[20]?.getD undef=.slice a3 cl c3:=by rw [← q3,Array.getD_eq_getD_getElem?]
        have q4':a.tmps[21]?.getD undef=.slice a4 64 c4:=by rw [← q4,Array.getD_eq_getD_getElem?]
        simp [execOp,Act.eval,q1',q3',q4',hbd]
      · rw [own_put rfl (by rw [hs];omega)];exact ⟨_,_,_,rfl,s18,s20,s21,p1,p2,p3⟩
    · obtain rfl:=Option.some.inj (show some _=some o from ho)
      obtain ⟨v1,v3,v4,e22,T⟩:∃ v1 v3 v4,a.tmps.getD 22 undef=.agg #[v1,v3,v4,.slice none 0 0] ∧ Three W.heap.size kl kf cl cf w v1 v3 v4:=hdone _ (Array.mem_of_getElem? (i:=0) rfl) rfl _ rfl
      obtain ⟨a1,c1,rfl⟩:=own_shape T.1
      obtain ⟨a3,c3,rfl⟩:=own_shape T.2.1
      obtain ⟨a4,c4,rfl⟩:=own_shape T.2.2.1
      refine wpOp_val (v:=.pointer (some ⟨w.heap.size,0,none⟩)) (w':=w.alloc (.cells #[.slice a1 kl c1,.slice a3 cl c3,.slice a4 64 c4,.slice none 0 0] 99)) rfl rfl ?_ ⟨_,rfl,?_,below_new hS _,fun _ _ _ h=>newR_past (fun g hg=>heap_past _ _ _ hg) h,fun _ _ _ _ _=>newD_no rfl _ _ _⟩
      · simp [execOp,Act.eval,e22,hbx]
      · rw [own_put rfl (by rw [hs];omega)];exact ⟨_,_,_,_,rfl,hS.size,heap_last _ _ _ rfl,three_past T fun g hg=>heap_past _ _ _ hg⟩
    · obtain rfl:=Option.some.inj (show some _=some o from ho)
      obtain ⟨r,v1,v3,v4,e23,hr0,hrow,T⟩:∃ r v1 v3 v4,a.tmps.getD 23 undef=.pointer (some ⟨r,0,none⟩) ∧ W.heap.size ≤ r ∧ w.heap[r]?=some (.cells #[v1,v3,v4,.slice none 0 0] 99 (0,0)) ∧ Three W.heap.size kl kf cl cf w v1 v3 v4:=hdone _ (Array.mem_of_getElem? (i:=0) rfl) rfl _ rfl
      refine wpOp_val (v:=.pointer (some ⟨r,0,none⟩)) (w':=w) rfl rfl ?_ ⟨_,rfl,?_,hS,fun _ _ _ h=>h,fun _ _ _ _ _=>newD_no rfl _ _ _⟩
      · simp [execOp,Act.eval,e23]
      · rw [own_put rfl (by rw [hs];omega)];exact ⟨r,v1,v3,v4,rfl,hr0,hrow,T⟩
  case hq=>
    intro u w' hS hR hDD
    have f7:∃ r v1 v3 v4,u 8=.pointer (some ⟨r,0,none⟩) ∧ W.heap.size ≤ r ∧ w'.heap[r]?=some (.cells #[v1,v3,v4,.slice none 0 0] 99 (0,0)) ∧ Three W.heap.size kl kf cl cf w' v1 v3 v4:=hR 7 _ rfl
    obtain ⟨r,v1,v3,v4,e8,hr0,hrow,T⟩:=f7
    clear hR hDD
    rw [show outs _ u=[(17,u 17),(18,u 18),(19,u 19),(20,u 20),(21,u 21),(22,u 22),(23,u 23),(8,u 8)] by kernel_rfl,e8]
    simp only [putAll,List.setIfInBounds_toArray,List.set_cons_zero,List.set_cons_succ]
    generalize u 17=u17;generalize u 18=u18;generalize u 19=u19;generalize u 20=u20;generalize u 21=u21;generalize u 22=u22;generalize u 23=u23
    clear e8 u
    obtain ⟨a1,c1,rfl⟩:=own_shape T.1
    obtain ⟨a3,c3,rfl⟩:=own_shape T.2.1
    obtain ⟨a4,c4,rfl⟩:=own_shape T.2.2.1
    have HS:=Lib.hid hS
    have HT:=Lib.hid T;have HR:=Lib.hid hrow
    clear hS T hrow
    cases st with
    | false=>
      go_wp2_with fail
      go_ret2
      exact new_ref HS.out hr0 HR.out HT.out (World.ownsRow_nil _ _ _ _) rfl (fun g _ h=>by cases h) (fun g _ h=>by cases h) (fun g _ h=>by cases h) BK.out BC.out h1 h2
    | true=>
      have hrl:=(Array.getElem?_eq_some_iff.1 HR.out).1
      have HM:=Lib.hid (own_made w' W.heap.size 264 HS.out.size (by omega))
      have HM0:=Lib.hid (own_made w' w'.heap.size 264 (Nat.le_refl _) (by omega))
      go_wp2_with (refine wpList_store_cell rfl 25 _ _ rfl r 3 (.slice (some ⟨w'.heap.size,0,none⟩) 264 264) rfl rfl rfl rfl 99 _ ((heap_past _ _ _ hrl).trans HR.out) info_bs (by show 3 < 4;omega) ?_;intro w5 s5)
      have S5:=Lib.hid s5;clear s5
      go_wp2_with fail
      go_ret2
      have past:∀ k,k < w'.heap.size → (w'.alloc (.cells (zeros 264) 5)).heap[k]?=w'.heap[k]?:=fun k hk=>heap_past _ _ _ hk
      have hr':=(past r hrl).trans HR.out
      have T':=three_past HT.out past
      exact new_ref (S5.out.below (below_new HS.out _) hr0) hr0 S5.out.row ⟨own_stored T'.1 hr' S5.out,own_stored T'.2.1 hr' S5.out,own_stored T'.2.2.1 hr' S5.out,T'.2.2.2⟩ (own_stored HM.out hr' S5.out) rfl (apt_symm (apt_new HT.out.1 HM0.out)) (apt_symm (apt_new HT.out.2.1 HM0.out)) (apt_symm (apt_new HT.out.2.2.1 HM0.out)) BK.out BC.out h1 h2
end Go.Proofs.YtigliofiojkhcaaGreat.Rm
