import Derived.Test.YtigliofiojkhcaaGreatMEx
import Derived.Test.YtigliofiojkhcaaGreatMEa08
import Derived.Test.YtigliofiojkhcaaGreatMRn23
import Derived.Test.YtigliofiojkhcaaGreatMEa02
import Derived.Test.YtigliofiojkhcaaGreatMRn03
set_option linter.unusedVariables false
set_option linter.unusedSimpArgs false
set_option linter.unnecessarySimpa false
namespace Go.Proofs.YtigliofiojkhcaaGreat.Mdl
open Go.RowKit Go.Maps Ins Trc
set_option maxRecDepth 100000
def env6 (b o plen pcap:Nat)(x:Nat→In):Env:={ g:=0,b:=0,β:=0,pa:=b,po:=o,pl:=plen,pc:=pcap,x:=x,kf:=fun _=>0 }
def md0 (c:Int)(lv mv av:Value):Md:=⟨c,lv,mv,fun _=>0,0,fun _=>0,0,av,.slice none 0 0⟩
theorem rel_new {M:Rm.RefM}{cl:Nat}{cf:Nat→Int}(h2:cl≤256)(k1:M.k.len=0)(k2:M.x.len=cl∧M.x.f=cf)(k3:M.fr.len=64∧M.fr.f=fun _=>0)(k4:(M.s.len:Int)=stkI false∧M.s.f=fun _=>0)(cb:Nat):Rm.Rel (newMem cb 0 cl false cf) (fun _=>0) M:=by
 have hg:∀ j,(newMem cb 0 cl false cf).g j=if 1≤j∧j<1+cl then cf (j - 1) else 0:=fun j=>rfl
 refine ⟨k1,fun i hi=>absurd (show i<0 from hi) (by omega),k2.1,fun i hi=>?_,k3.1,fun i hi=>?_,k4.1,fun i hi=>?_⟩
 ·have:i<cl:=hi
  rw [k2.2,hg,if_pos (by omega),show 1+i - 1=i by omega]
 ·rw [k3.2,hg,if_neg (by omega)]
 ·rw [k4.2,hg,if_neg (by omega)]
theorem prg6 {b o plen pcap:Nat}{x:Nat→In}{W:World}(hI:Insts W (some ⟨b,o,none⟩) plen pcap x)(h1:1≤plen):Prg6 W.heap.size (env6 b o plen pcap x) W:=by
 obtain ⟨b',o',e,hc⟩:=hI.here (by omega)
 injection e with e
 injection e with e1 e2 _
 subst e1;subst e2
 exact ⟨lt_of_cell (hc 0 (by omega) 0 _ rfl),hc⟩
theorem ans6 {W:World}{aa:Option Addr}{al ac:Nat}{zs:List Int}(hA:WordsAt W aa al ac zs)(hz:∀ z∈zs,0≤z∧z<18446744073709551616):Ans6 W.heap.size W (.slice aa al ac) zs:=by
 have hs:=hA.size
 subst hs
 refine ⟨hz,aa,ac,rfl,hA.le,fun hn=>?_⟩
 obtain ⟨ab,ao,e,hc⟩:=hA.here (List.length_pos_iff.2 hn)
 refine ⟨ab,ao,e,?_,hc⟩
 cases zs with
 | nil=>exact absurd rfl hn
 | cons z l=>exact lt_of_cell (hc 0 z rfl)
theorem refAt_weak {M:Rm.RefM}{w:World}{r β β':Nat}(h:Rm.RefAt M w r β)(hb:β'≤β):Rm.RefAt M w r β':=by
 have rr:∀ {R:Rm.Rw},R.at w β→R.at w β':=fun hR=>⟨own_base hR.own hb,hR.bytes,hR.le⟩
 exact ⟨h.c0,h.c1,h.c2,h.c3,rr h.k,rr h.x,rr h.fr,rr h.s⟩
theorem halt_box {P:Program}{ops:Array Oper}{rest:List Oper}{o:Oper}{a:Act}{w:World}{Q:Exit→Act→World→Prop}(t:TypeId)(x:Operand)(ho:o.op=.box t x)(k:wpList P ops Q (o :: rest) a w∧True):wpList P ops Q (o :: rest) a w:=k.1
theorem ex_box6 {ρ:Operand→Value}{o:Oper}{w:World}{x:Operand}{cs:Array Value}(ho:o.op=.box 65 x)(hx:ρ x=.agg cs):(execOp ρ o).run Tryz.prog w=.ok (.value (.pointer (some ⟨w.heap.size,0,none⟩))) (w.alloc (.cells cs 65)):=by
 simp [execOp,ho,hx,go_sem]
set_option maxHeartbeats 8000000 in
theorem r6_new (c:Int)(b o plen pcap:Nat)(x:Nat→In)(ca:Option Addr)(cl cc:Nat)(cf:Nat→Int)(aa:Option Addr)(al ac:Nat)(zs:List Int)(fuel:Int)(W:World)(hI:Insts W (some ⟨b,o,none⟩) plen pcap x)(hS:Src W ca cl cc cf)(hA:WordsAt W aa al ac zs)
  (h1:1≤plen) (hc:cl≤256) (hz:∀ z∈zs,0≤z∧z<18446744073709551616):
  Calls Tryz.prog 19 #[.agg #[.int .i64 c,.slice (some ⟨b,o,none⟩) plen pcap],.slice ca cl cc,.slice aa al ac] W fun e w'=>∃ g r,e=.returned (.pointer (some ⟨g,0,none⟩))∧R6 (env6 b o plen pcap x) g r W.heap.size (ini 0 cl cf fuel zs) w'∧Below W.heap.size W w':=by
 have NEW:=Lib.hid (fun W h=>Rm.r_new none 0 0 (fun _=>0) ca cl cc cf false W h ⟨Nat.le_refl _,by omega,fun h=>absurd h (by omega),fun i h=>absurd h (by omega)⟩ hc (by omega))
 have B0:=below_new (Below.refl W.heap.size W) (.cells #[.int .i64 c,.slice (some ⟨b,o,none⟩) plen pcap] 24)
 have HS:=Lib.hid (hS.below B0)
 have HA:=Lib.hid (ans6 hA hz)
 have HP:=Lib.hid (prg6 hI h1)
 clear hI hS hA B0
 go_enter Tryz.func19,Tryz.ntmps19
 go_wp2_with fail
 refine (NEW.out _ HS.out).mono ?_
 rintro e w1 ⟨r,M,rfl,hr,b1,m1,m2,k1,k2,k3,k4⟩
 have B1:=(below_new (Below.refl W.heap.size W) (.cells #[.int .i64 c,.slice (some ⟨b,o,none⟩) plen pcap] 24)).trans (b1.mono (by simp))
 have c0:=(b1.cell (p:=⟨W.heap.size,0,none⟩) (by simp)).trans (show _=some (Value.int .i64 c) by simp)
 have c1:=(b1.cell (p:=⟨W.heap.size,1,none⟩) (by simp)).trans (show _=some (Value.slice (some ⟨b,o,none⟩) plen pcap) by simp)
 have HB1:=Lib.hid B1
 clear b1 B1
 go_wp2_with (with_reducible refine (halt_build 65 _ rfl ?_))
 refine ⟨?_,trivial⟩
 refine wpList_build_is rfl 65 _ rfl (md0 c (.slice (some ⟨b,o,none⟩) plen pcap) (.pointer (some ⟨r,0,none⟩)) (.slice aa al ac)).cells (by kernel_rfl) ?_
 go_wp2_with (with_reducible refine (halt_box 65 _ rfl ?_))
 refine ⟨?_,trivial⟩
 refine wpList_ex rfl (ex_box6 rfl rfl) ?_
 obtain ⟨s0,hs0⟩:∃ s0,Hid (s0=md0 c (.slice (some ⟨b,o,none⟩) plen pcap) (.pointer (some ⟨r,0,none⟩)) (.slice aa al ac)):=⟨_,Lib.hid rfl⟩
 rw [← hs0.out]
 have G2:s0.in_ (w1.alloc (.cells s0.cells 65)) w1.heap.size:=heap_last _ _ _ rfl
 have bx:=below_new (Below.refl w1.heap.size w1) (.cells s0.cells 65)
 have M1:=Lib.hid (m1.below bx)
 have hrl:r<w1.heap.size:=lt_of_cell m1.c0
 have HW2:=Lib.hid (HB1.out.trans (bx.mono HB1.out.size))
 have hsz:=HB1.out.size
 simp only [size_alloc] at hr M1
 have HSZ:=Lib.hid (⟨hsz,hrl,hr⟩:W.heap.size≤w1.heap.size∧r<w1.heap.size∧W.heap.size+1≤r)
 clear bx m1 c0 c1 hrl hsz hr
 generalize w1.alloc (.cells s0.cells 65)=w2 at *
 generalize w1.heap.size=g at *
 have d4:=Md.at G2 4 (by decide)
 have d13:=Md.at G2 13 (by decide)
 have d14:=Md.at G2 14 (by decide)
 have f4:=Md.unfrozen G2 4
 have f13:=Md.unfrozen G2 13
 have f14:=Md.unfrozen G2 14
 have HG2:=Lib.hid G2
 clear G2
 go_wp2_with fail
 go_ret
 have I1:=Md.setR_in HG2.out 1 2097152 (by decide)
 have I2:=Md.setR_in I1 10 3145792 (by decide)
 have I3:=Md.set_in I2 1026
 have T5:Trn [g] w2 (((w2.setCell ⟨g,3+1,none⟩ (.int .u64 2097152)).setCell ⟨g,3+10,none⟩ (.int .u64 3145792)).setCell ⟨g,14,none⟩ (.int .i64 1026)):=But.trn (((But.set _ _ _ _).trans (But.set _ _ _ _)).trans (But.set _ _ _ _))
 have EQ:({ (s0.setR 1 2097152).setR 10 3145792 with set:=1026 }:Md)=md6 (env6 b o plen pcap x) r (ini 0 cl cf fuel zs) c (.slice aa al ac) (.slice none 0 0):=by
  rw [hs0.out]
  unfold md6
  rw [show (fun i=>(ini 0 cl cf fuel zs).mem.g (258+i))=fun _=>0 from funext fun i=>by show (if 1≤258+i∧258+i<1+cl then cf (258+i - 1) else 0)=0;rw [if_neg (by omega)],show (ini 0 cl cf fuel zs).set=1026 by kernel_rfl]
  rfl
 rw [EQ] at I3
 obtain ⟨z1,z2,z3⟩:=HSZ.out
 have hβ:∀ j∈[g],W.heap.size≤j:=fun j hj=>by
  rw [List.mem_singleton] at hj;subst hj
  exact z1
 have G2:w2.heap[g]?=some (.cells s0.cells 65 (0,0)):=HG2.out
 have B5:Below W.heap.size W (((w2.setCell ⟨g,3+1,none⟩ (.int .u64 2097152)).setCell ⟨g,3+10,none⟩ (.int .u64 3145792)).setCell ⟨g,14,none⟩ (.int .i64 1026)):=
  ⟨T5.os.trans HW2.out.os,T5.tape.trans HW2.out.tape,T5.output.trans HW2.out.output,Nat.le_trans HW2.out.size T5.size,fun k hk=>(T5.block k (Nat.lt_of_lt_of_le hk HW2.out.size) (by simp;omega)).trans (HW2.out.block k hk)⟩
 have n0:∀ j∈([]:List Nat),W.heap.size≤j:=fun j hj=>absurd hj (by simp)
 refine ⟨g,r,rfl,⟨⟨c,.slice aa al ac,.slice none 0 0,I3,HA.out.trn (Trn.of_below (G:=[]) B5) n0,⟨[],rfl,⟨rfl,.inl ⟨rfl,rfl⟩⟩,fun p hp=>absurd hp (by simp)⟩,fun j hj=>by cases hj⟩,HP.out.trn (Trn.of_below (G:=[]) B5) n0,⟨M,refAt_weak (refAt_trn M1.out T5 (by simp;omega) (fun j hj=>?_)) (by omega),m2,rel_new hc k1.1 k2 k3 k4 0⟩,ini_words 0 cl cf fuel zs,by show 0≤16384;omega,hc,by omega,z1,B5.size⟩,B5⟩
 rw [List.mem_singleton] at hj;subst hj
 exact ⟨_,_,_,G2,by decide⟩
end Go.Proofs.YtigliofiojkhcaaGreat.Mdl
namespace Go.Proofs.YtigliofiojkhcaaGreat.Mdl
open Go.RowKit Go.Maps Ins Trc
set_option maxRecDepth 100000
theorem info_intS:∃ i,Tryz.prog.info? 3=some i∧i.zero=some (.int .i64 0)∧i.size=1∧i.bytes=8:=by
 have h:(Tryz.prog.info? 3).map (fun i=>(i.zero,i.size,i.bytes))=some (some (.int .i64 0),1,8):=by kernel_rfl
 cases hi:Tryz.prog.info? 3 with
 | none=>rw [hi] at h;cases h
 | some i=>
  rw [hi] at h
  simp only [Option.map_some,Option.some.injEq,Prod.mk.injEq] at h
  exact ⟨i,rfl,h.1,h.2.1,h.2.2⟩
theorem info_snapS:∃ i,Tryz.prog.info? 49=some i∧i.zero=some (.agg snapZ)∧i.size=76∧i.bytes=160:=by
 have h:(Tryz.prog.info? 49).map (fun i=>(i.zero,i.size,i.bytes))=some (some (.agg snapZ),76,160):=by kernel_rfl
 cases hi:Tryz.prog.info? 49 with
 | none=>rw [hi] at h;cases h
 | some i=>
  rw [hi] at h
  simp only [Option.map_some,Option.some.injEq,Prod.mk.injEq] at h
  exact ⟨i,rfl,h.1,h.2.1,h.2.2⟩
theorem fill_snap (r:Nat→Int)(s:Int)(g:Nat→Int):Instr.fill (fun i=>some (i * 76,76)) ((Array.range (1 * 76)).map (snapZ[· % snapZ.size]!)) [(0,.agg (snapC r s g).toArray)]=some (snapC r s g).toArray:=by kernel_rfl
theorem ex_bsS {ρ:Operand→Value}{o:Oper}{w:World}{x:Operand}{r:Nat→Int}{s:Int}{g:Nat→Int}(ho:o.op=.buildSlice 40 1 #[(0,x)])(hx:ρ x=.agg (snapC r s g).toArray):(execOp ρ o).run Tryz.prog w=.ok (.value (.slice (some ⟨w.heap.size,0,none⟩) 1 1)) (w.alloc (.cells (snapC r s g).toArray 49)):=by
 obtain ⟨ti,i1,i2,i3,i4⟩:=info_snapS
 have hr:=run_buildSlice (P:=Tryz.prog) w 40 49 1 (#[(0,x)].map fun (i,x)=>(i,ρ x)) (snapC r s g).toArray ti _ Tryz.underlying40 i1 i2 (by rw [i3];decide) (by rw [i3];decide) (by rw [i3];simp only [List.map_toArray,List.map_cons,List.map_nil,hx];exact fill_snap r s g)
 simp only [execOp,ho,hr,Sem.run_bind,Sem.run_pure,Result.andThen_ok]
theorem halt_app {P:Program}{ops:Array Oper}{rest:List Oper}{o:Oper}{a:Act}{w:World}{Q:Exit→Act→World→Prop}(s x:Operand)(t:TypeId)(ho:o.op=.call { callee:=.builtin .append,args:=#[s,x],argTypes:=#[t,t] })(h:wpList P ops Q (o :: rest) a w∧True):wpList P ops Q (o :: rest) a w:=h.1
section
variable {ops:Array Oper} {rest:List Oper} {o:Oper} {a:Act} {w:World} {Q:Exit→Act→World→Prop}
theorem append_int (hgd:o.guard=none)(s x:Operand)(ho:o.op=.call { callee:=.builtin .append,args:=#[s,x],argTypes:=#[37,37] })(base n:Nat)(v:Value)(xs:List Value)(z:Int)(gs:Nat)(hs:a.eval s=v)(hx:a.eval x=.slice (some ⟨gs,0,none⟩) 1 1)
  (hown:w.ownsRow base 3 1 v n xs) (hr:w.heap[gs]?=some (.cells #[.int .i64 z] 3 (0,0))) (hb:base≤w.heap.size) (hn:n≤10000)
  (h:∀ v' w',w'.ownsRow base 3 1 v' (n+1) (xs ++ [.int .i64 z])→Trn v.ownBlock.toList w w'→wpList Tryz.prog ops Q rest (a.put o.dst v') w'):wpList Tryz.prog ops Q (o :: rest) a w:=by
 obtain ⟨ti,i1,i2,i3,i4⟩:=info_intS
 refine wpList_append_own _ hgd s x 37 ho base 3 ti _ 1 8 Tryz.underlying37 i1 i2 i3 i4 rfl (by decide) v n xs hs hown ⟨gs,0,none⟩ 1 1 [.int .i64 z] hx rfl (fun j u hu=>by
  rw [Addr.add_mid]
  simp only [World.cell?,hr]
  simpa using hu) (by intro u hu;simp only [List.mem_cons,List.not_mem_nil,or_false] at hu;subst hu;rfl) (by unfold maxLen;omega) (by omega) hb ?_
 intro v' w' h1 h2 _
 exact h v' w' h1 (trn_grown h2)
theorem append_snap (hgd:o.guard=none)(s x:Operand)(ho:o.op=.call { callee:=.builtin .append,args:=#[s,x],argTypes:=#[40,40] })(base n:Nat)(v:Value)(xs:List Value)(r:Nat→Int)(st:Int)(g:Nat→Int)(gs:Nat)(hs:a.eval s=v)(hx:a.eval x=.slice (some ⟨gs,0,none⟩) 1 1)
  (hown:w.ownsRow base 49 76 v n xs) (hr:w.heap[gs]?=some (.cells (snapC r st g).toArray 49 (0,0))) (hb:base≤w.heap.size) (hn:n≤10000)
  (h:∀ v' w',w'.ownsRow base 49 76 v' (n+1) (xs ++ snapC r st g)→Trn v.ownBlock.toList w w'→wpList Tryz.prog ops Q rest (a.put o.dst v') w'):wpList Tryz.prog ops Q (o :: rest) a w:=by
 obtain ⟨ti,i1,i2,i3,i4⟩:=info_snapS
 refine wpList_append_own _ hgd s x 40 ho base 49 ti _ 76 160 Tryz.underlying40 i1 i2 i3 i4 (by show (snapZ).size=76;unfold snapZ;rw [List.size_toArray,snap_len]) (by decide) v n xs hs hown ⟨gs,0,none⟩ 1 1 (snapC r st g) hx (by rw [snap_len]) (fun j u hu=>by
  rw [Addr.add_mid]
  simp only [World.cell?,hr,Nat.zero_add]
  simpa using hu) (fun u hu=>by
   have:=snap_one r st g
   rw [Array.all_eq_true_iff_forall_mem] at this
   exact this u (by simpa using hu)) (by unfold maxLen;omega) (by omega) hb ?_
 intro v' w' h1 h2 _
 exact h v' w' h1 (trn_grown h2)
end
theorem R6.other {E:Env}{g r β:Nat}{D:Pl}{w w':World}{G:List Nat}(R:R6 E g r β D w)(t:Trn G w w')(hr:r ∉ G)(hG:∀ j∈G,β≤j∧∃ c ty fr,w.heap[j]?=some (.cells c ty fr)∧(ty=3∨ty=49∨ty=33)):R6 E g r β D w':=by
 obtain ⟨ctx,av,tv,hin,hA,hT,hn⟩:=R.st
 obtain ⟨M,m1,m2,m3⟩:=R.mm
 have hx:∀ (T:TypeId),3≠T→49≠T→33≠T→∀ j∈G,∃ c ty fr,w.heap[j]?=some (.cells c ty fr)∧ty≠T:=fun T n m q j hj=>by
  obtain ⟨_,c,ty,fr,h1,h2⟩:=hG j hj
  exact ⟨c,ty,fr,h1,by rcases h2 with rfl | rfl | rfl <;> assumption⟩
 have hβ:∀ j∈G,β≤j:=fun j hj=>(hG j hj).1
 refine ⟨⟨ctx,av,tv,t.row hin (fun hm=>?_),hA.trn t hβ,hT.trn t (fun j hj=>?_),hn⟩,R.pr.trn t hβ,⟨M,refAt_trn m1 t hr (hx _ (by decide) (by decide) (by decide)),m2,m3⟩,R.words,R.cn,R.n,R.ne,R.far.1,Nat.le_trans R.far.2 t.size⟩
 ·obtain ⟨c,ty,fr,h1,h2⟩:=hx 65 (by decide) (by decide) (by decide) g hm
  have hin':w.heap[g]?=some (.cells (md6 E r D ctx av tv).cells 65 (0,0)):=hin
  rw [hin'] at h1;simp at h1;exact h2 h1.2.1.symm
 ·obtain ⟨c,ty,fr,h1,h2⟩:=hx 30 (by decide) (by decide) (by decide) j hj
  obtain ⟨c',ty',fr',h1',h2'⟩:=hx 103 (by decide) (by decide) (by decide) j hj
  rw [h1] at h1';simp at h1'
  exact ⟨c,ty,fr,h1,h2,by rw [h1'.2.1];exact h2'⟩
theorem R6.below {E:Env}{g r β:Nat}{D:Pl}{w w':World}(R:R6 E g r β D w)(b:Below w.heap.size w w'):R6 E g r β D w':=(R.still b).1
theorem own_turn {τ:TypeId→Bool}{β b n k:Nat}{e:TypeId}{v:Value}{xs:List Value}{w w':World}(h:w.ownsRow b e k v n xs)(t:TurnT τ β w w')(he:τ e=false):w'.ownsRow b e k v n xs:=own_mv h (fun g c hg=>Turn.row t hg he)
theorem below_turn {τ:TypeId→Bool}{β B:Nat}{W w w':World}(b:Below B W w)(t:TurnT τ β w w')(h:B≤β)(hB:B≤W.heap.size):Below B W w':=
 ⟨t.os.trans b.os,t.tape.trans b.tape,t.output.trans b.output,Nat.le_trans b.size t.size,fun k hk=>by
  obtain ⟨o,ho⟩:∃ o,W.heap[k]?=some o:=⟨W.heap[k]'(Nat.lt_of_lt_of_le hk hB),Array.getElem?_eq_getElem _⟩
  rw [ho]
  exact t.same k o ((b.block k hk).trans ho) (.inl (by omega))⟩
theorem below_trn6 {B:Nat}{G:List Nat}{W w w':World}(b:Below B W w)(t:Trn G w w')(h:∀ j∈G,B≤j)(hB:B≤w.heap.size):Below B W w':=
 ⟨t.os.trans b.os,t.tape.trans b.tape,t.output.trans b.output,Nat.le_trans b.size t.size,fun k hk=>(t.block k (by omega) (fun hm=>by have:=h k hm;omega)).trans (b.block k hk)⟩
def snapsF (E:Env)(D:Pl)(k:Nat):List Value:=((List.range k).map (fun j=>(its E D j).snap)).flatten
theorem snapsF_succ (E:Env)(D:Pl)(k:Nat):snapsF E D (k+1)=snapsF E D k ++ (its E D k).snap:=by simp [snapsF,List.range_succ]
theorem atsV_succ (E:Env)(D:Pl)(k:Nat):(ats E D (k+1)).map (Value.int .i64)=(ats E D k).map (Value.int .i64) ++ [.int .i64 (its E D k).at_]:=by rw [ats_succ,List.map_append];rfl
structure Sn6 (W:World)(E:Env)(D:Pl)(g r β B go gr:Nat)(k:Nat)(atv lv:Value)(D':Pl)(kind:Int)(w:World):Prop where
 bel:Below W.heap.size W w
 R:R6 E g r β D' w
 at_:w.ownsRow B 3 1 atv k ((ats E D k).map (.int .i64))
 l:w.ownsRow B 49 76 lv k (snapsF E D k)
 o:w.heap[go]?=some (.cells #[.int .i8 kind,.int .u64 0,.slice none 0 0,.slice none 0 0,.int .i64 0] 33 (0,0))
 res:w.heap[gr]?=some (.cells #[.int .i8 0,.int .u64 0,.slice none 0 0,.slice none 0 0,.int .i64 0] 33 (0,0))
 far:W.heap.size≤β∧β≤B∧r<B∧B≤w.heap.size∧β≤go∧W.heap.size≤gr∧gr<β∧go≠gr
section
variable {W:World} {E:Env} {D D':Pl} {g r β B go gr k:Nat} {atv lv:Value} {kind:Int} {w w':World}
theorem Sn6.below (h:Sn6 W E D g r β B go gr k atv lv D' kind w)(b:Below w.heap.size w w'):Sn6 W E D g r β B go gr k atv lv D' kind w':=
 ⟨h.bel.trans (b.mono h.bel.size),h.R.below b,own_below h.at_ b,own_below h.l b,brow b h.o,brow b h.res,h.far.1,h.far.2.1,h.far.2.2.1,Nat.le_trans h.far.2.2.2.1 b.size,h.far.2.2.2.2⟩
theorem Sn6.place {v':Value}{z:Int}(h:Sn6 W E D g r β B go gr k atv lv D' kind w)(o:w'.ownsRow B 3 1 v' (k+1) ((ats E D k).map (.int .i64) ++ [.int .i64 z]))(t:Trn atv.ownBlock.toList w w'):
  Below W.heap.size W w'∧R6 E g r β D' w'∧w'.ownsRow B 49 76 lv k (snapsF E D k)∧w'.heap[go]?=some (.cells #[.int .i8 kind,.int .u64 0,.slice none 0 0,.slice none 0 0,.int .i64 0] 33 (0,0))∧w'.heap[gr]?=some (.cells #[.int .i8 0,.int .u64 0,.slice none 0 0,.slice none 0 0,.int .i64 0] 33 (0,0))∧B≤w'.heap.size:=by
 obtain ⟨f1,f2,f3,f4,f5,f6,f7,f8⟩:=h.far
 have hG:∀ j∈atv.ownBlock.toList,B≤j∧∃ c ty fr,w.heap[j]?=some (.cells c ty fr)∧ty=3:=fun j hj=>by
  have hb:atv.ownBlock=some j:=by simpa using hj
  refine ⟨(World.ownsRow.lt h.at_ j hb).1,?_⟩
  rcases h.at_.2 with ⟨e,_⟩ | ⟨g',cap,cur,e,h2,h3,_⟩
  ·rw [e] at hb;cases hb
  ·rw [e] at hb
   obtain rfl:g'=j:=by simpa [Value.ownBlock] using hb
   exact ⟨_,_,_,h3,rfl⟩
 have nt:∀ {q:Nat} {c:Array Value} {T:TypeId},w.heap[q]?=some (.cells c T (0,0))→3≠T→q ∉ atv.ownBlock.toList:=fun hq n hm=>by
  obtain ⟨_,c,ty,fr,h1,rfl⟩:=hG _ hm
  rw [hq] at h1;simp at h1;exact n h1.2.1.symm
 refine ⟨below_trn6 h.bel t (fun j hj=>by have:=(hG j hj).1;omega) (by omega),h.R.other t (fun hm=>by have:=(hG r hm).1;omega) (fun j hj=>?_),own_trn h.l t (fun j hj hm=>?_),t.row h.o (nt h.o (by decide)),t.row h.res (nt h.res (by decide)),Nat.le_trans f4 t.size⟩
 ·obtain ⟨q,c,ty,fr,h1,h2⟩:=hG j hj
  exact ⟨by omega,c,ty,fr,h1,.inl h2⟩
 ·obtain ⟨_,c,ty,fr,h1,rfl⟩:=hG j hm
  exact own_ne h.l h1 (by decide) j hj rfl
theorem Sn6.snap {v':Value}(f:W.heap.size≤β∧β≤B∧r<B∧B≤w.heap.size∧β≤go∧W.heap.size≤gr∧gr<β∧go≠gr)(bel:Below W.heap.size W w)(R:R6 E g r β (its E D k) w)(ha:w.ownsRow B 3 1 atv (k+1) ((ats E D (k+1)).map (.int .i64)))(hl:w.ownsRow B 49 76 lv k (snapsF E D k))
  (ho:w.heap[go]?=some (.cells #[.int .i8 kind,.int .u64 0,.slice none 0 0,.slice none 0 0,.int .i64 0] 33 (0,0))) (hr:w.heap[gr]?=some (.cells #[.int .i8 0,.int .u64 0,.slice none 0 0,.slice none 0 0,.int .i64 0] 33 (0,0)))
  (o:w'.ownsRow B 49 76 v' (k+1) (snapsF E D k ++ (its E D k).snap)) (t:Trn lv.ownBlock.toList w w'):Sn6 W E D g r β B go gr (k+1) atv v' (its E D k) kind w':=by
 obtain ⟨f1,f2,f3,f4,f5,f6,f7,f8⟩:=f
 have hG:∀ j∈lv.ownBlock.toList,B≤j∧∃ c ty fr,w.heap[j]?=some (.cells c ty fr)∧ty=49:=fun j hj=>by
  have hb:lv.ownBlock=some j:=by simpa using hj
  refine ⟨(World.ownsRow.lt hl j hb).1,?_⟩
  rcases hl.2 with ⟨e,_⟩ | ⟨g',cap,cur,e,h2,h3,_⟩
  ·rw [e] at hb;cases hb
  ·rw [e] at hb
   obtain rfl:g'=j:=by simpa [Value.ownBlock] using hb
   exact ⟨_,_,_,h3,rfl⟩
 have nt:∀ {q:Nat} {c:Array Value} {T:TypeId},w.heap[q]?=some (.cells c T (0,0))→49≠T→q ∉ lv.ownBlock.toList:=fun hq n hm=>by
  obtain ⟨_,c,ty,fr,h1,rfl⟩:=hG _ hm
  rw [hq] at h1;simp at h1;exact n h1.2.1.symm
 refine ⟨below_trn6 bel t (fun j hj=>by have:=(hG j hj).1;omega) (by omega),R.other t (fun hm=>by have:=(hG r hm).1;omega) (fun j hj=>?_),own_trn ha t (fun j hj hm=>?_),by rw [snapsF_succ];exact o,t.row ho (nt ho (by decide)),t.row hr (nt hr (by decide)),f1,f2,f3,Nat.le_trans f4 t.size,f5,f6,f7,f8⟩
 ·obtain ⟨q,c,ty,fr,h1,h2⟩:=hG j hj
  exact ⟨by omega,c,ty,fr,h1,.inr (.inl h2)⟩
 ·obtain ⟨_,c,ty,fr,h1,rfl⟩:=hG j hm
  exact own_ne ha h1 (by decide) j hj rfl
theorem Sn6.stepped {D2:Pl}(h:Sn6 W E D g r β B go gr k atv lv D' kind w)(R:R6 E g r β D2 w')(t:TurnT τ6 β w w'):Sn6 W E D g r β B go gr k atv lv D2 kind w':=by
 obtain ⟨f1,f2,f3,f4,f5,f6,f7,f8⟩:=h.far
 exact ⟨below_turn h.bel t f1 (Nat.le_refl _),R,own_turn h.at_ t (by decide),own_turn h.l t (by decide),Turn.row t h.o (by decide),Turn.row t h.res (by decide),f1,f2,f3,Nat.le_trans f4 t.size,f5,f6,f7,f8⟩
theorem md6_snap {ctx:Int}{av tv:Value}(h:(md6 E r D ctx av tv).in_ w g):w.rangeAt g 3 D.snap:=fun j v hv=>by
 have hj:j<76:=by have:=(List.getElem?_eq_some_iff.1 hv).1;rwa [show D.snap.length=76 from snap_len _ _ _] at this
 rw [Md.at h _ (by omega)]
 have hs:D.snap[j]?=some ((md6 E r D ctx av tv).cell (3+j)):=by
  unfold Pl.snap snapC Md.cell
  rw [if_neg (by omega),if_neg (by omega),if_neg (by omega)]
  by_cases h1:j<11
  ·rw [if_pos (by omega),List.getElem?_append_left (by exact h1),show 3+j - 3=j by omega]
   have:j=0∨j=1∨j=2∨j=3∨j=4∨j=5∨j=6∨j=7∨j=8∨j=9∨j=10:=by omega
   rcases this with rfl | rfl | rfl | rfl | rfl | rfl | rfl | rfl | rfl | rfl | rfl <;> rfl
  ·rw [if_neg (by omega),List.getElem?_append_right (by show 11≤j;omega)]
   by_cases h2:j=11
   ·subst h2;rfl
   ·rw [if_neg (by omega),if_pos (by omega),show (regsC D.r).length=11 from rfl,show j - 11=(j - 12)+1 by omega,List.getElem?_cons_succ]
    unfold frmL
    rw [bytesOf_get _ 64 _ (by omega),show 3+j - 15=j - 12 by omega]
    rfl
 rw [hs] at hv
 exact hv
end
end Go.Proofs.YtigliofiojkhcaaGreat.Mdl
namespace Go.Proofs.YtigliofiojkhcaaGreat.Ins
open Go.RowKit
theorem r_sized (n:Int)(W:World):Calls Tryz.prog 75 #[.int .i8 n] W fun e w'=>e=.returned (.bool (sizedI n))∧W=w':=by
 have E:=Lib.hid (show (n == 1 || n == 2 || n == 4 || n == 8)=sizedI n by unfold sizedI;rw [Bool.eq_iff_iff,decide_eq_true_iff];simp [or_assoc])
 go_enter Tryz.func75,Tryz.ntmps75
 go_wp2
 all_goals
  go_ret
  exact ⟨retB (by rw [← E.out];try simp [*]),rfl⟩
set_option maxRecDepth 100000 in
set_option maxHeartbeats 2000000 in
theorem rf_0t (op width size:Int)(dst src off imm:Int)(W:World)(hk:¬ op=8):
  Calls Tryz.prog 74 #[.agg (In.mk 0 op width size true dst src off imm).cells] W fun e w'=>e=.returned (.agg #[.int .i8 0,.int .i8 op,.int .i8 width,.int .i8 0,.bool true,.int .i8 dst,.int .i8 src,.int .i64 0,.int .i64 0])∧Below W.heap.size W w':=by
 unfold In.cells at *
 simp only at *
 have h8:(op != 8)=true:=by simpa using hk
 go_enter Tryz.func74,Tryz.ntmps74
 go_wp2
 refine bodyPost_ret (v:=.agg #[.int .i8 0,.int .i8 op,.int .i8 width,.int .i8 0,.bool true,.int .i8 dst,.int .i8 src,.int .i64 0,.int .i64 0]) (by simp [results,Tryz.results74,go_sem]) rfl ⟨rfl,?_⟩
 repeat (refine Below.setCell ?_ (by simp only;omega) _)
 repeat (first | exact Below.refl _ _ | refine below_new ?_ _)
set_option maxRecDepth 100000 in
set_option maxHeartbeats 2000000 in
theorem rf_0f (op width size:Int)(dst src off imm:Int)(W:World)(hk:¬ op=8):
  Calls Tryz.prog 74 #[.agg (In.mk 0 op width size false dst src off imm).cells] W fun e w'=>e=.returned (.agg #[.int .i8 0,.int .i8 op,.int .i8 width,.int .i8 0,.bool false,.int .i8 dst,.int .i8 0,.int .i64 0,.int .i64 imm])∧Below W.heap.size W w':=by
 unfold In.cells at *
 simp only at *
 have h8:(op != 8)=true:=by simpa using hk
 go_enter Tryz.func74,Tryz.ntmps74
 go_wp2
 refine bodyPost_ret (v:=.agg #[.int .i8 0,.int .i8 op,.int .i8 width,.int .i8 0,.bool false,.int .i8 dst,.int .i8 0,.int .i64 0,.int .i64 imm]) (by simp [results,Tryz.results74,go_sem]) rfl ⟨rfl,?_⟩
 repeat (refine Below.setCell ?_ (by simp only;omega) _)
 repeat (first | exact Below.refl _ _ | refine below_new ?_ _)
set_option maxRecDepth 100000 in
set_option maxHeartbeats 2000000 in
theorem rf_8t (width size:Int)(dst src off imm:Int)(W:World):
  Calls Tryz.prog 74 #[.agg (In.mk 0 8 width size true dst src off imm).cells] W fun e w'=>e=.returned (.agg #[.int .i8 0,.int .i8 8,.int .i8 width,.int .i8 0,.bool false,.int .i8 dst,.int .i8 0,.int .i64 0,.int .i64 0])∧Below W.heap.size W w':=by
 unfold In.cells at *
 simp only at *
 go_enter Tryz.func74,Tryz.ntmps74
 go_wp2
 refine bodyPost_ret (v:=.agg #[.int .i8 0,.int .i8 8,.int .i8 width,.int .i8 0,.bool false,.int .i8 dst,.int .i8 0,.int .i64 0,.int .i64 0]) (by simp [results,Tryz.results74,go_sem]) rfl ⟨rfl,?_⟩
 repeat (refine Below.setCell ?_ (by simp only;omega) _)
 repeat (first | exact Below.refl _ _ | refine below_new ?_ _)
set_option maxRecDepth 100000 in
set_option maxHeartbeats 2000000 in
theorem rf_8f (width size:Int)(dst src off imm:Int)(W:World):
  Calls Tryz.prog 74 #[.agg (In.mk 0 8 width size false dst src off imm).cells] W fun e w'=>e=.returned (.agg #[.int .i8 0,.int .i8 8,.int .i8 width,.int .i8 0,.bool false,.int .i8 dst,.int .i8 0,.int .i64 0,.int .i64 0])∧Below W.heap.size W w':=by
 unfold In.cells at *
 simp only at *
 go_enter Tryz.func74,Tryz.ntmps74
 go_wp2
 refine bodyPost_ret (v:=.agg #[.int .i8 0,.int .i8 8,.int .i8 width,.int .i8 0,.bool false,.int .i8 dst,.int .i8 0,.int .i64 0,.int .i64 0]) (by simp [results,Tryz.results74,go_sem]) rfl ⟨rfl,?_⟩
 repeat (refine Below.setCell ?_ (by simp only;omega) _)
 repeat (first | exact Below.refl _ _ | refine below_new ?_ _)
set_option maxRecDepth 100000 in
set_option maxHeartbeats 2000000 in
theorem rf_1t (op width size:Int)(dst src off imm:Int)(W:World):
  Calls Tryz.prog 74 #[.agg (In.mk 1 op width size true dst src off imm).cells] W fun e w'=>e=.returned (.agg #[.int .i8 1,.int .i8 0,.int .i8 0,.int .i8 size,.bool false,.int .i8 dst,.int .i8 src,.int .i64 off,.int .i64 0])∧Below W.heap.size W w':=by
 unfold In.cells at *
 simp only at *
 go_enter Tryz.func74,Tryz.ntmps74
 go_wp2
 refine bodyPost_ret (v:=.agg #[.int .i8 1,.int .i8 0,.int .i8 0,.int .i8 size,.bool false,.int .i8 dst,.int .i8 src,.int .i64 off,.int .i64 0]) (by simp [results,Tryz.results74,go_sem]) rfl ⟨rfl,?_⟩
 repeat (refine Below.setCell ?_ (by simp only;omega) _)
 repeat (first | exact Below.refl _ _ | refine below_new ?_ _)
set_option maxRecDepth 100000 in
set_option maxHeartbeats 2000000 in
theorem rf_1f (op width size:Int)(dst src off imm:Int)(W:World):
  Calls Tryz.prog 74 #[.agg (In.mk 1 op width size false dst src off imm).cells] W fun e w'=>e=.returned (.agg #[.int .i8 1,.int .i8 0,.int .i8 0,.int .i8 size,.bool false,.int .i8 dst,.int .i8 src,.int .i64 off,.int .i64 0])∧Below W.heap.size W w':=by
 unfold In.cells at *
 simp only at *
 go_enter Tryz.func74,Tryz.ntmps74
 go_wp2
 refine bodyPost_ret (v:=.agg #[.int .i8 1,.int .i8 0,.int .i8 0,.int .i8 size,.bool false,.int .i8 dst,.int .i8 src,.int .i64 off,.int .i64 0]) (by simp [results,Tryz.results74,go_sem]) rfl ⟨rfl,?_⟩
 repeat (refine Below.setCell ?_ (by simp only;omega) _)
 repeat (first | exact Below.refl _ _ | refine below_new ?_ _)
set_option maxRecDepth 100000 in
set_option maxHeartbeats 2000000 in
theorem rf_2t (op width size:Int)(dst src off imm:Int)(W:World):
  Calls Tryz.prog 74 #[.agg (In.mk 2 op width size true dst src off imm).cells] W fun e w'=>e=.returned (.agg #[.int .i8 2,.int .i8 0,.int .i8 0,.int .i8 size,.bool false,.int .i8 dst,.int .i8 src,.int .i64 off,.int .i64 0])∧Below W.heap.size W w':=by
 unfold In.cells at *
 simp only at *
 go_enter Tryz.func74,Tryz.ntmps74
 go_wp2
 refine bodyPost_ret (v:=.agg #[.int .i8 2,.int .i8 0,.int .i8 0,.int .i8 size,.bool false,.int .i8 dst,.int .i8 src,.int .i64 off,.int .i64 0]) (by simp [results,Tryz.results74,go_sem]) rfl ⟨rfl,?_⟩
 repeat (refine Below.setCell ?_ (by simp only;omega) _)
 repeat (first | exact Below.refl _ _ | refine below_new ?_ _)
set_option maxRecDepth 100000 in
set_option maxHeartbeats 2000000 in
theorem rf_2f (op width size:Int)(dst src off imm:Int)(W:World):
  Calls Tryz.prog 74 #[.agg (In.mk 2 op width size false dst src off imm).cells] W fun e w'=>e=.returned (.agg #[.int .i8 2,.int .i8 0,.int .i8 0,.int .i8 size,.bool false,.int .i8 dst,.int .i8 src,.int .i64 off,.int .i64 0])∧Below W.heap.size W w':=by
 unfold In.cells at *
 simp only at *
 go_enter Tryz.func74,Tryz.ntmps74
 go_wp2
 refine bodyPost_ret (v:=.agg #[.int .i8 2,.int .i8 0,.int .i8 0,.int .i8 size,.bool false,.int .i8 dst,.int .i8 src,.int .i64 off,.int .i64 0]) (by simp [results,Tryz.results74,go_sem]) rfl ⟨rfl,?_⟩
 repeat (refine Below.setCell ?_ (by simp only;omega) _)
 repeat (first | exact Below.refl _ _ | refine below_new ?_ _)
set_option maxRecDepth 100000 in
set_option maxHeartbeats 2000000 in
theorem rf_3t (op width size:Int)(dst src off imm:Int)(W:World):
  Calls Tryz.prog 74 #[.agg (In.mk 3 op width size true dst src off imm).cells] W fun e w'=>e=.returned (.agg #[.int .i8 3,.int .i8 op,.int .i8 0,.int .i8 0,.bool true,.int .i8 dst,.int .i8 src,.int .i64 off,.int .i64 0])∧Below W.heap.size W w':=by
 unfold In.cells at *
 simp only at *
 go_enter Tryz.func74,Tryz.ntmps74
 go_wp2
 refine bodyPost_ret (v:=.agg #[.int .i8 3,.int .i8 op,.int .i8 0,.int .i8 0,.bool true,.int .i8 dst,.int .i8 src,.int .i64 off,.int .i64 0]) (by simp [results,Tryz.results74,go_sem]) rfl ⟨rfl,?_⟩
 repeat (refine Below.setCell ?_ (by simp only;omega) _)
 repeat (first | exact Below.refl _ _ | refine below_new ?_ _)
set_option maxRecDepth 100000 in
set_option maxHeartbeats 2000000 in
theorem rf_3f (op width size:Int)(dst src off imm:Int)(W:World):
  Calls Tryz.prog 74 #[.agg (In.mk 3 op width size false dst src off imm).cells] W fun e w'=>e=.returned (.agg #[.int .i8 3,.int .i8 op,.int .i8 0,.int .i8 0,.bool false,.int .i8 dst,.int .i8 0,.int .i64 off,.int .i64 imm])∧Below W.heap.size W w':=by
 unfold In.cells at *
 simp only at *
 go_enter Tryz.func74,Tryz.ntmps74
 go_wp2
 refine bodyPost_ret (v:=.agg #[.int .i8 3,.int .i8 op,.int .i8 0,.int .i8 0,.bool false,.int .i8 dst,.int .i8 0,.int .i64 off,.int .i64 imm]) (by simp [results,Tryz.results74,go_sem]) rfl ⟨rfl,?_⟩
 repeat (refine Below.setCell ?_ (by simp only;omega) _)
 repeat (first | exact Below.refl _ _ | refine below_new ?_ _)
set_option maxRecDepth 100000 in
set_option maxHeartbeats 2000000 in
theorem rf_4t (op width size:Int)(dst src off imm:Int)(W:World):
  Calls Tryz.prog 74 #[.agg (In.mk 4 op width size true dst src off imm).cells] W fun e w'=>e=.returned (.agg #[.int .i8 4,.int .i8 0,.int .i8 0,.int .i8 0,.bool false,.int .i8 0,.int .i8 0,.int .i64 off,.int .i64 0])∧Below W.heap.size W w':=by
 unfold In.cells at *
 simp only at *
 go_enter Tryz.func74,Tryz.ntmps74
 go_wp2
 refine bodyPost_ret (v:=.agg #[.int .i8 4,.int .i8 0,.int .i8 0,.int .i8 0,.bool false,.int .i8 0,.int .i8 0,.int .i64 off,.int .i64 0]) (by simp [results,Tryz.results74,go_sem]) rfl ⟨rfl,?_⟩
 repeat (refine Below.setCell ?_ (by simp only;omega) _)
 repeat (first | exact Below.refl _ _ | refine below_new ?_ _)
set_option maxRecDepth 100000 in
set_option maxHeartbeats 2000000 in
theorem rf_5t (op width size:Int)(dst src off imm:Int)(W:World):
  Calls Tryz.prog 74 #[.agg (In.mk 5 op width size true dst src off imm).cells] W fun e w'=>e=.returned (.agg #[.int .i8 5,.int .i8 0,.int .i8 0,.int .i8 0,.bool false,.int .i8 0,.int .i8 0,.int .i64 0,.int .i64 imm])∧Below W.heap.size W w':=by
 unfold In.cells at *
 simp only at *
 go_enter Tryz.func74,Tryz.ntmps74
 go_wp2
 refine bodyPost_ret (v:=.agg #[.int .i8 5,.int .i8 0,.int .i8 0,.int .i8 0,.bool false,.int .i8 0,.int .i8 0,.int .i64 0,.int .i64 imm]) (by simp [results,Tryz.results74,go_sem]) rfl ⟨rfl,?_⟩
 repeat (refine Below.setCell ?_ (by simp only;omega) _)
 repeat (first | exact Below.refl _ _ | refine below_new ?_ _)
set_option maxRecDepth 100000 in
set_option maxHeartbeats 2000000 in
theorem rf_xt (kind op width size:Int)(dst src off imm:Int)(W:World)(h0:¬ kind=0)(h1:¬ kind=1)(h2:¬ kind=2)(h3:¬ kind=3)(h4:¬ kind=4)(h5:¬ kind=5):
  Calls Tryz.prog 74 #[.agg (In.mk kind op width size true dst src off imm).cells] W fun e w'=>e=.returned (.agg #[.int .i8 kind,.int .i8 0,.int .i8 0,.int .i8 0,.bool false,.int .i8 0,.int .i8 0,.int .i64 0,.int .i64 0])∧Below W.heap.size W w':=by
 unfold In.cells at *
 simp only at *
 go_enter Tryz.func74,Tryz.ntmps74
 go_wp2
 refine bodyPost_ret (v:=.agg #[.int .i8 kind,.int .i8 0,.int .i8 0,.int .i8 0,.bool false,.int .i8 0,.int .i8 0,.int .i64 0,.int .i64 0]) (by simp [results,Tryz.results74,go_sem]) rfl ⟨rfl,?_⟩
 repeat (refine Below.setCell ?_ (by simp only;omega) _)
 repeat (first | exact Below.refl _ _ | refine below_new ?_ _)
set_option maxRecDepth 100000 in
set_option maxHeartbeats 2000000 in
theorem rf_4f (op width size:Int)(dst src off imm:Int)(W:World):
  Calls Tryz.prog 74 #[.agg (In.mk 4 op width size false dst src off imm).cells] W fun e w'=>e=.returned (.agg #[.int .i8 4,.int .i8 0,.int .i8 0,.int .i8 0,.bool false,.int .i8 0,.int .i8 0,.int .i64 off,.int .i64 0])∧Below W.heap.size W w':=by
 unfold In.cells at *
 simp only at *
 go_enter Tryz.func74,Tryz.ntmps74
 go_wp2
 refine bodyPost_ret (v:=.agg #[.int .i8 4,.int .i8 0,.int .i8 0,.int .i8 0,.bool false,.int .i8 0,.int .i8 0,.int .i64 off,.int .i64 0]) (by simp [results,Tryz.results74,go_sem]) rfl ⟨rfl,?_⟩
 repeat (refine Below.setCell ?_ (by simp only;omega) _)
 repeat (first | exact Below.refl _ _ | refine below_new ?_ _)
set_option maxRecDepth 100000 in
set_option maxHeartbeats 2000000 in
theorem rf_5f (op width size:Int)(dst src off imm:Int)(W:World):
  Calls Tryz.prog 74 #[.agg (In.mk 5 op width size false dst src off imm).cells] W fun e w'=>e=.returned (.agg #[.int .i8 5,.int .i8 0,.int .i8 0,.int .i8 0,.bool false,.int .i8 0,.int .i8 0,.int .i64 0,.int .i64 imm])∧Below W.heap.size W w':=by
 unfold In.cells at *
 simp only at *
 go_enter Tryz.func74,Tryz.ntmps74
 go_wp2
 refine bodyPost_ret (v:=.agg #[.int .i8 5,.int .i8 0,.int .i8 0,.int .i8 0,.bool false,.int .i8 0,.int .i8 0,.int .i64 0,.int .i64 imm]) (by simp [results,Tryz.results74,go_sem]) rfl ⟨rfl,?_⟩
 repeat (refine Below.setCell ?_ (by simp only;omega) _)
 repeat (first | exact Below.refl _ _ | refine below_new ?_ _)
set_option maxRecDepth 100000 in
set_option maxHeartbeats 2000000 in
theorem rf_xf (kind op width size:Int)(dst src off imm:Int)(W:World)(h0:¬ kind=0)(h1:¬ kind=1)(h2:¬ kind=2)(h3:¬ kind=3)(h4:¬ kind=4)(h5:¬ kind=5):
  Calls Tryz.prog 74 #[.agg (In.mk kind op width size false dst src off imm).cells] W fun e w'=>e=.returned (.agg #[.int .i8 kind,.int .i8 0,.int .i8 0,.int .i8 0,.bool false,.int .i8 0,.int .i8 0,.int .i64 0,.int .i64 0])∧Below W.heap.size W w':=by
 unfold In.cells at *
 simp only at *
 go_enter Tryz.func74,Tryz.ntmps74
 go_wp2
 refine bodyPost_ret (v:=.agg #[.int .i8 kind,.int .i8 0,.int .i8 0,.int .i8 0,.bool false,.int .i8 0,.int .i8 0,.int .i64 0,.int .i64 0]) (by simp [results,Tryz.results74,go_sem]) rfl ⟨rfl,?_⟩
 repeat (refine Below.setCell ?_ (by simp only;omega) _)
 repeat (first | exact Below.refl _ _ | refine below_new ?_ _)
theorem r_fields (x:In)(W:World):Calls Tryz.prog 74 #[.agg x.cells] W fun e w'=>e=.returned (.agg (usedI x).cells)∧Below W.heap.size W w':=by
 obtain ⟨kind,op,width,size,byReg,dst,src,off,imm⟩:=x
 by_cases h0:kind=0
 ·subst h0
  by_cases h8:op=8
  ·subst h8
   cases byReg
   ·exact rf_8f width size dst src off imm W
   ·exact rf_8t width size dst src off imm W
  ·cases byReg
   ·have e:usedI (In.mk 0 op width size false dst src off imm)=⟨0,op,width,0,false,dst,0,0,imm⟩:=by unfold usedI;rw [if_pos rfl,if_neg h8];rfl
    rw [e];exact rf_0f op width size dst src off imm W h8
   ·have e:usedI (In.mk 0 op width size true dst src off imm)=⟨0,op,width,0,true,dst,src,0,0⟩:=by unfold usedI;rw [if_pos rfl,if_neg h8];rfl
    rw [e];exact rf_0t op width size dst src off imm W h8
 by_cases h1:kind=1
 ·subst h1
  cases byReg
  ·exact rf_1f op width size dst src off imm W
  ·exact rf_1t op width size dst src off imm W
 by_cases h2:kind=2
 ·subst h2
  cases byReg
  ·exact rf_2f op width size dst src off imm W
  ·exact rf_2t op width size dst src off imm W
 by_cases h3:kind=3
 ·subst h3
  cases byReg
  ·exact rf_3f op width size dst src off imm W
  ·exact rf_3t op width size dst src off imm W
 by_cases h4:kind=4
 ·subst h4
  cases byReg
  ·exact rf_4f op width size dst src off imm W
  ·exact rf_4t op width size dst src off imm W
 by_cases h5:kind=5
 ·subst h5
  cases byReg
  ·exact rf_5f op width size dst src off imm W
  ·exact rf_5t op width size dst src off imm W
 have e:usedI (In.mk kind op width size byReg dst src off imm)=⟨kind,0,0,0,false,0,0,0,0⟩:=by
  unfold usedI;rw [if_neg h0,if_neg h1,if_neg h2,if_neg h3,if_neg h4,if_neg h5]
 rw [e]
 cases byReg
 ·exact rf_xf kind op width size dst src off imm W h0 h1 h2 h3 h4 h5
 ·exact rf_xt kind op width size dst src off imm W h0 h1 h2 h3 h4 h5
end Go.Proofs.YtigliofiojkhcaaGreat.Ins
