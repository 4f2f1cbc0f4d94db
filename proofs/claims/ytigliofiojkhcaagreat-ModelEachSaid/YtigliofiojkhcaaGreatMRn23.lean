import Derived.Test.YtigliofiojkhcaaGreatMRn22
import Derived.Test.YtigliofiojkhcaaGreatMRn09
import Derived.Test.YtigliofiojkhcaaGreatMRn10
import Derived.StillTailTactics
import Derived.Test.YtigliofiojkhcaaGreatMRn18
import Derived.Test.YtigliofiojkhcaaGreatMRn16
set_option linter.unusedVariables false
set_option linter.unusedSimpArgs false
set_option linter.unnecessarySimpa false
namespace Go.Proofs.YtigliofiojkhcaaGreat.Mdl
open Go.RowKit Go.Maps Ins Trc
set_option linter.unusedVariables false
set_option linter.unusedSimpArgs false
set_option maxRecDepth 100000
theorem fine_env {c:Int} {W:World} {pa:Option Addr} {plen pcap:Nat} {x:Nat → In} (hI:Insts W pa plen pcap x) (h:(checkI c plen x).2=0) {E:Env} (e1:E.x=x) (e2:E.pl=plen) (e3:E.pl ≤ E.pc):Fine E:=by
  obtain ⟨h1,h64,hf⟩:=ends_facts h
  subst e1 e2
  exact ⟨e3,⟨h1,h64⟩,fun k hk=>(hf k hk).1,fun k hk=>hI.ok k hk,fun k hk=>(hf k hk).2.1,fun k hk hj=>by have:=(hf k hk).2.2.1 hj;omega,fun k hk=>(hf k hk).2.2.2⟩
theorem check_c {c:Int} {plen:Nat} {x:Nat → In} (h:(checkI c plen x).2=0):0 ≤ c ∧ c ≤ 256:=by
  unfold checkI at h
  by_cases h1:c < 0 ∨ 256 < c
  · rw [if_pos h1] at h;simp at h
  · omega
theorem ini_runs (E:Env) (cb cl:Nat) (cf:Nat → Int) (fuel:Int) (zs:List Int) (h1:1 ≤ E.pl) (f0:0 ≤ fuel) (f1:fuel ≤ 10000):Runs E (ini cb cl cf fuel zs):=
  ⟨Int.le_refl 0,by show (0:Int) < E.pl;omega,by show ((([]:List Trc.Ev).length:Nat):Int) + fuel ≤ 10000;simp;omega,f0⟩
theorem Yr.own (E:Env) (D:Pl) (B:Nat) (x:Int):OwnFrom B (fun pre=>Yr E D pre x):=fun s W W' row ⟨k,h1,h2,h3,h4,h5⟩ hg hr=>⟨k,h1,h2,h3,h4,Rel.own E _ B s W W' row h5 hg hr⟩
theorem Sr.own (E:Env) (D:Pl) (B:Nat):OwnFrom B (Sr E D):=fun s W W' row ⟨k,h1,h2,h3⟩ hg hr=>⟨k,h1,h2,Rel.own E _ B s W W' row h3 hg hr⟩
theorem Spr.own (E:Env) (D:Pl) (B:Nat):OwnFrom B (Spr E D):=fun s W W' row h _ _=>h
theorem row_own {β:Type} (B r:Nat) (c:Array Value) (t:TypeId):OwnFrom B (fun (_:β) W=>W.heap[r]?=some (.cells c t (0,0))):=fun s w w' row h g hr=>(g.block r (Array.getElem?_eq_some_iff.1 h).1 (fun e=>by
  obtain ⟨_,o,ho,hc⟩:=hr r e.symm
  rw [h] at ho
  injection ho with ho
  subst ho
  simp [Obj.isCells] at hc)).trans h
theorem TurnT.below {τ:TypeId → Bool} {β n:Nat} {w0 A B:World} (b:Below n w0 A) (t:TurnT τ β A B) (h:n ≤ β) (hn:n ≤ w0.heap.size):Below n w0 B:=
  ⟨t.os.trans b.os,t.tape.trans b.tape,t.output.trans b.output,Nat.le_trans b.size t.size,fun k hk=>by
    have e1:=b.block k hk
    have hlt:k < w0.heap.size:=by omega
    have e2:=Array.getElem?_eq_getElem hlt
    rw [e2] at e1 ⊢
    exact t.same k _ e1 (.inl (by omega))⟩
def RunIs (W:World) (x:Nat → In) (plen cl:Nat) (cf:Nat → Int) (fuel:Int) (zs:List Int) (e:Ending) (w':World):Prop:=
  ∃ (E:Env) (cb m:Nat) (oa:Option Addr) (ob:Nat) (ta:Option Addr) (tc:Nat),E.x=x ∧ E.pl=plen ∧ E.kf=(fun _=>0) ∧ Fine E ∧ Runs E (ini cb cl cf fuel zs) ∧ Done E (ini cb cl cf fuel zs) m ∧
    e=.returned (.tuple #[outV (its E (ini cb cl cf fuel zs) m).out oa ob ta tc,.int .i64 0]) ∧ OutAt w' (its E (ini cb cl cf fuel zs) m).out oa ob ta tc ∧ Below W.heap.size W w'
set_option maxHeartbeats 8000000 in
theorem run_ok (c:Int) (b o plen pcap:Nat) (x:Nat → In) (ca:Option Addr) (cl cc:Nat) (cf:Nat → Int) (aa:Option Addr) (al ac tk:Nat) (zs:List Int) (fuel:Int) (W:World) (hI:Insts W (some ⟨b,o,none⟩) plen pcap x) (hS:Src W ca cl cc cf) (hA:WordsAt W aa al ac zs)
    (hchk:(checkI c plen x).2=0) (hlen:(cl:Int)=c) (f0:0 ≤ fuel) (f1:fuel ≤ 10000) (htk:min (al:Int) fuel=(tk:Int)) (hal:al ≤ 1000) (hz:∀ z ∈ zs,0 ≤ z ∧ z < 18446744073709551616):
    Calls Tryz.prog 7 #[.agg #[.int .i64 c,.slice (some ⟨b,o,none⟩) plen pcap],.slice ca cl cc,.slice aa al ac,.int .i64 fuel] W (RunIs W x plen cl cf fuel (zs.take tk)):=by
  obtain ⟨h1,h64,_⟩:=ends_facts hchk
  have hc:=check_c hchk
  have htl:tk ≤ al:=by omega
  have ST:=Lib.hid (fun w (h:Below W.heap.size W w)=>start_ok c b o plen pcap x ca cl cc cf aa al ac tk zs fuel w (hI.below h) (hS.below h) (hA.below h) hchk hlen (by omega) f0 f1 ⟨h1,h64⟩ htk hal htl hz)
  have FI:=Lib.hid (fun (E:Env) e1 e2 e3=>fine_env hI hchk (E:=E) e1 e2 e3)
  have RU:=Lib.hid (fun (E:Env) (h:1 ≤ E.pl) cb=>ini_runs E cb cl cf fuel (zs.take tk) h f0 f1)
  clear hI hS hA hchk hlen hz htk
  generalize zs.take tk=ys at *
  have bx0:=below_new (below_new (Below.refl W.heap.size W) (.cells #[.int .i64 c,.slice (some ⟨b,o,none⟩) plen pcap] 24)) (.cells #[.int .i8 0,.int .u64 0,.slice none 0 0,.slice none 0 0,.int .i64 0] 33)
  have rz0:=heap_last (W.alloc (.cells #[.int .i64 c,.slice (some ⟨b,o,none⟩) plen pcap] 24)) (.cells #[.int .i8 0,.int .u64 0,.slice none 0 0,.slice none 0 0,.int .i64 0] 33) (W.heap.size + 1) (by simp)
  have hmf:∀ (fn:Fn) (first cap:Array Value) (w:World),(Instr.makeFunc fn first cap).run Tryz.prog w=.ok (.func fn first cap) w:=fun _ _ _ _=>rfl
  refine (callsIn_wide (n:=3)).1 (callsIn_of_wp_marks Tryz.func7 rfl trivial ?_ rfl)
  simp only [Tryz.ntmps7,List.size_toArray,List.length_cons,List.length_nil,Nat.reduceAdd,Nat.reduceSub,Array.replicate_succ,Array.replicate_zero,List.push_toArray,List.append_toArray,List.nil_append,List.cons_append]
  refine (wpIn_wide (n:=3)).2 ?_
  go_wp2_with fail
  generalize (W.alloc (.cells #[.int .i64 c,.slice (some ⟨b,o,none⟩) plen pcap] 24)).alloc (.cells #[.int .i8 0,.int .u64 0,.slice none 0 0,.slice none 0 0,.int .i64 0] 33)=w0 at *
  refine (ST.out _ bx0).mono ?_
  rintro e w1 ⟨E,cb,rfl,eb,ex,el,ec,ek,b1,R⟩
  have F:=FI.out E ex el ec
  have RR:=RU.out E (by omega) cb
  have rz1:=brow b1 rz0
  have bx1:=bx0.trans (b1.mono bx0.size)
  have hb:W.heap.size ≤ E.β:=by rw [eb];exact bx0.size
  have hb2:W.heap.size + 1 < E.β:=by rw [eb];exact (Array.getElem?_eq_some_iff.1 rz0).1
  have hw1:=bx1.size
  have SEQ:=Lib.hid (run_seq E F (ini cb cl cf fuel ys) RR rfl 2 w1 R)
  clear ST FI RU rz0 bx0 b1 eb ec R
  go_wp2_with fail
  refine (wpIn_wide (n:=3)).1 ?_
  refine range_T (by decide) (gf:=15) (pa:=#[.pointer (some ⟨E.g,0,none⟩)]) (lb:=#[]) rfl (enters_of Tryz.func15 (by kernel_rfl) rfl) SEQ.out (Below.refl _ _) (fun _=>rfl)
    (fun _ w=>Below W.heap.size W w ∧ w.heap[W.heap.size + 1]?=some (.cells #[.int .i8 0,.int .u64 0,.slice none 0 0,.slice none 0 0,.int .i64 0] 33 (0,0))) (fun _ _ _=>False)
    (OwnFrom.and (ownFrom_below (Nat.le_refl _) bx1.size) (row_own _ _ _ _)) (Yr.own E _ _) (fun _ _ _ _ _ h _ _=>h)
    (fun _ A B h t=>⟨TurnT.below h.1 t hb (Nat.le_refl _),Turn.row t h.2 (by decide)⟩) (fun _ _ _ _ h _=>h) (Sr.own E _ _) (Spr.own E _ _) ⟨bx1,rz1⟩ ?a1 ?assign ?body ?done ?stop
  case assign=>
    intro l x W K hK
    refine wpIn_skip ?_
    exact hK
  case body=>
    rintro l pre x W hi hy
    refine wpIn_block (wpIn_skip ?_)
    exact ⟨KeepsFrom.refl _ _,KeepT.refl _,hi⟩
  case stop=>
    rintro D c pre W _ _ h _
    exact h.elim
  case done=>
    rintro D xs W9 hD ⟨m,hm,_,R9⟩ ⟨hb9,hr9⟩ hK
    have OU:=Lib.hid (outcome_any E (its E (ini cb cl cf fuel ys) m) W9 R9)
    go_wp2_with fail
    refine OU.out.mono ?_
    rintro e w5 ⟨oa,ob,ta,tc,rfl,oat,b5⟩
    have hr5:=brow b5 hr9
    have hK5:=brow b5 hK
    have bx5:=hb9.trans (b5.mono hb9.size)
    have hK9:=Lib.hid hK
    clear OU b5 hb9 hr9 hK SEQ rz1 bx1 R9
    have hlt:W.heap.size ≤ W.heap.size + 1:=by omega
    have FO:=Lib.hid (fun w' (h:OutAt w' (its E (ini cb cl cf fuel ys) m).out oa ob ta tc) (k:Below W.heap.size W w')=>(show RunIs W x plen cl cf fuel ys _ w' from ⟨E,cb,m,oa,ob,ta,tc,ex,el,ek,F,RR,hm,rfl,h,k⟩))
    generalize (its E (ini cb cl cf fuel ys) m).out=oo at *
    unfold outV at *
    generalize oo.ctx.length=ocl at *
    generalize oo.tr.length=otl at *
    go_wp2_with (with_reducible refine (halt_store 33 _ _ rfl ?_))
    refine ⟨?_,trivial⟩
    refine wpList_store_is rfl 33 _ _ rfl (W.heap.size + 1) _ rfl rfl _ _ hr5 (by kernel_rfl) rfl (by simp [Value.oneCell']) ?_
    intro w6 s6
    have bx6:=s6.below bx5 hlt
    have hK6:=(s6.other D (fun e=>by subst e;rw [hr5] at hK5;injection hK5 with hK5;cases hK5)).trans hK5
    have hr6:=s6.row
    have t6:Trn [W.heap.size + 1] w5 w6:=⟨s6.os,s6.tape,s6.output,by rw [s6.size];exact Nat.le_refl _,fun k _ hn=>s6.other k (by simpa using hn)⟩
    clear s6 bx5 hK5 hr5 hlt
    go_wp2_with fail
    have hlt6:D < w6.heap.size:=(Array.getElem?_eq_some_iff.1 hK6).1
    have t7:Trn [D] w6 (w6.putObj D (.deferred none)):=⟨rfl,rfl,rfl,by simp [World.putObj],fun k _ hn=>World.putObj_heap_other (by simpa using hn)⟩
    refine ⟨by simp,.inl ⟨_,_,rfl,run_takeDeferred hK6,_,res_ct rfl rfl (load_row _ (t7.row hr6 (fun hm=>by rw [List.mem_singleton] at hm;rw [hm,hK6] at hr6;injection hr6 with hr6;cases hr6)) Tryz.underlying33 rfl (by kernel_rfl)) rfl,FO.out _ ?_ (bx6.trans ?_)⟩⟩
    · refine oat [W.heap.size + 1,D] _ (fun g hg=>?_) ((t6.weak (fun k hk=>by simp at hk;simp [hk])).trans (t7.weak (fun k hk=>by simp at hk;simp [hk])))
      simp only [List.mem_cons,List.not_mem_nil,or_false] at hg
      rcases hg with rfl | rfl
      · exact .inl hb2
      · exact .inr ⟨_,hK9.out,rfl⟩
    · exact ⟨rfl,rfl,rfl,t7.size,fun k hk=>t7.block k (by have:=bx6.size;omega) (by simp;omega)⟩
end Go.Proofs.YtigliofiojkhcaaGreat.Mdl
namespace Go.Proofs.YtigliofiojkhcaaGreat.Mdl
open Go.RowKit Go.Maps Ins Trc
set_option linter.unusedVariables false
set_option linter.unusedSimpArgs false
set_option maxRecDepth 100000
def Pl.cb (D:Pl) (c:Nat):Pl:={ D with mem:={ D.mem with cb:=c } }
theorem exe_cb (D:Pl) (c:Nat) (kf:Nat → Int) (x:In):(D.cb c).exe kf x=((D.exe kf x).1.cb c,(D.exe kf x).2):=by
  unfold Pl.exe
  by_cases k0:x.kind=0
  · rw [if_pos k0,if_pos k0];rfl
  rw [if_neg k0,if_neg k0]
  by_cases k1:x.kind=1
  · rw [if_pos k1,if_pos k1]
    show (if readE D.mem (adI (D.r x.src.toNat) x.off) x.size.toNat=0 then _ else _)=_
    by_cases h:readE D.mem (adI (D.r x.src.toNat) x.off) x.size.toNat=0
    · rw [if_pos h,if_pos h];rfl
    · rw [if_neg h,if_neg h]
  rw [if_neg k1,if_neg k1]
  by_cases k2:x.kind=2
  · rw [if_pos k2,if_pos k2]
    show (if locI D.mem.cn D.mem.n D.mem.hs (adI (D.r x.dst.toNat) x.off) x.size.toNat ≤ 1 then _ else _)=_
    by_cases h:locI D.mem.cn D.mem.n D.mem.hs (adI (D.r x.dst.toNat) x.off) x.size.toNat ≤ 1
    · rw [if_pos h,if_pos h]
    · rw [if_neg h,if_neg h];rfl
  rw [if_neg k2,if_neg k2]
  by_cases k3:x.kind=3
  · rw [if_pos k3,if_pos k3]
    show ((if holdsB x.op 64 (D.r x.dst.toNat) (D.opd x)=true then _ else _:Pl),(0:Int))=_
    by_cases h:holdsB x.op 64 (D.r x.dst.toNat) (D.opd x)=true
    · rw [if_pos h,if_pos h];rfl
    · rw [if_neg h,if_neg h]
  rw [if_neg k3,if_neg k3]
  by_cases k4:x.kind=4
  · rw [if_pos k4,if_pos k4];rfl
  rw [if_neg k4,if_neg k4]
  by_cases k5:x.kind=5
  · rw [if_pos k5,if_pos k5]
    show (match D.ans with | []=>_ | a :: l=>_)=_
    cases D.ans <;> rfl
  rw [if_neg k5,if_neg k5]
theorem step_cb (D:Pl) (c:Nat) (kf:Nat → Int) (x:In):(D.cb c).step kf x=(D.step kf x).cb c:=by
  have h:=exe_cb D.adv c kf x
  unfold Pl.step
  show (if (andM D.set (readsM x) == readsM x)=true then _ else _)=_
  by_cases hr:(andM D.set (readsM x) == readsM x)=true
  · rw [if_pos hr,if_pos hr]
    show { ((D.adv.cb c).exe kf x).1 with fin:=((D.adv.cb c).exe kf x).2 }=_
    rw [h];rfl
  · rw [if_neg hr,if_neg hr];rfl
def env (x:Nat → In) (n:Nat):Env:=⟨0,0,0,0,0,n,n,x,fun _=>0⟩
theorem its_env {E:Env} (hk:E.kf=fun _=>0) (D:Pl) (c:Nat):∀ k,its E (D.cb c) k=(its (env E.x E.pl) D k).cb c
  | 0=>rfl
  | k + 1=>by
    show (its E (D.cb c) k).step E.kf (E.x (its E (D.cb c) k).ix)=((its (env E.x E.pl) D k).step (fun _=>0) (E.x (its (env E.x E.pl) D k).ix)).cb c
    rw [its_env hk D c k,hk,step_cb];rfl
theorem goes_env {E:Env} (hk:E.kf=fun _=>0) (D:Pl) (c:Nat) (k:Nat):Goes E (D.cb c) k ↔ Goes (env E.x E.pl) D k:=by
  unfold Goes
  constructor
  · intro h j hj
    have:=h j hj
    rw [its_env hk,its_env hk] at this
    exact this
  · intro h j hj
    rw [its_env hk,its_env hk]
    exact h j hj
theorem done_env {E:Env} (hk:E.kf=fun _=>0) (D:Pl) (c:Nat) (m:Nat):Done E (D.cb c) m → Done (env E.x E.pl) D m:=by
  rintro (⟨h1,h2⟩ | ⟨k,rfl,h1,h2,h3⟩)
  · rw [its_env hk] at h2
    exact .inl ⟨(goes_env hk D c m).1 h1,h2⟩
  · rw [its_env hk] at h2 h3
    exact .inr ⟨k,rfl,(goes_env hk D c k).1 h1,h2,h3⟩
def Ends (x:Nat → In) (n:Nat) (D:Pl) (oo:Out):Prop:=∃ m,Done (env x n) D m ∧ oo=(its (env x n) D m).out
theorem Done.uniq {E:Env} {D:Pl} {m m':Nat} (h:Done E D m) (h':Done E D m'):m=m':=by
  have key:∀ {m m':Nat},Done E D m → Done E D m' → ¬ m < m':=by
    rintro m m' (⟨h1,h2⟩ | ⟨k,rfl,h1,h2,h3⟩) h' hlt
    · rcases h' with ⟨g1,g2⟩ | ⟨k',rfl,g1,g2,g3⟩
      · exact h2 (g1 m hlt).1
      · by_cases e:m=k'
        · subst e;exact h2 g2
        · exact h2 (g1 m (by omega)).1
    · rcases h' with ⟨g1,g2⟩ | ⟨k',rfl,g1,g2,g3⟩
      · exact h3 (g1 k (by omega)).2
      · exact h3 (g1 k (by omega)).2
  have a:=key h h'
  have b:=key h' h
  omega
theorem Ends.uniq {x:Nat → In} {n:Nat} {D:Pl} {o o':Out} (h:Ends x n D o) (h':Ends x n D o'):o=o':=by
  obtain ⟨m,h1,rfl⟩:=h
  obtain ⟨m',h2,rfl⟩:=h'
  rw [Done.uniq h1 h2]
theorem ini_cb (cb cl:Nat) (cf:Nat → Int) (fuel:Int) (zs:List Int):ini cb cl cf fuel zs=(ini 0 cl cf fuel zs).cb cb:=rfl
def RunIs2 (W:World) (x:Nat → In) (plen cl:Nat) (cf:Nat → Int) (fuel:Int) (zs:List Int) (e:Ending) (w':World):Prop:=
  ∃ (oo:Out) (oa:Option Addr) (ob:Nat) (ta:Option Addr) (tc:Nat),Fine (env x plen) ∧ Runs (env x plen) (ini 0 cl cf fuel zs) ∧ Ends x plen (ini 0 cl cf fuel zs) oo ∧ e=.returned (.tuple #[outV oo oa ob ta tc,.int .i64 0]) ∧ OutAt w' oo oa ob ta tc ∧ Below W.heap.size W w'
theorem RunIs.plain {W:World} {x:Nat → In} {plen cl:Nat} {cf:Nat → Int} {fuel:Int} {zs:List Int} {e:Ending} {w':World} (h:RunIs W x plen cl cf fuel zs e w'):RunIs2 W x plen cl cf fuel zs e w':=by
  obtain ⟨E,cb,m,oa,ob,ta,tc,rfl,rfl,hk,F,R,hd,rfl,ho,hb⟩:=h
  rw [ini_cb] at hd ho ⊢
  have hit:=its_env hk (ini 0 cl cf fuel zs) cb m
  have ho2:(its E ((ini 0 cl cf fuel zs).cb cb) m).out=(its (env E.x E.pl) (ini 0 cl cf fuel zs) m).out:=by rw [hit];rfl
  rw [ho2] at ho ⊢
  exact ⟨_,oa,ob,ta,tc,⟨Nat.le_refl _,F.len,F.may,F.ok,F.jumps,F.into,F.on⟩,⟨R.lo,R.hi,R.few,R.fuel⟩,⟨m,done_env hk _ cb m hd,rfl⟩,rfl,ho,hb⟩
end Go.Proofs.YtigliofiojkhcaaGreat.Mdl
namespace Go.Proofs.YtigliofiojkhcaaGreat.Mdl
open Go.RowKit Go.Maps Ins Trc
set_option linter.unusedVariables false
set_option linter.unusedSimpArgs false
set_option maxRecDepth 100000
def regsC (r:Nat → Int):List Value:=[.int .u64 (r 0),.int .u64 (r 1),.int .u64 (r 2),.int .u64 (r 3),.int .u64 (r 4),.int .u64 (r 5),.int .u64 (r 6),.int .u64 (r 7),.int .u64 (r 8),.int .u64 (r 9),.int .u64 (r 10)]
def frmL (g:Nat → Int):List Value:=bytesOf (fun i=>g (258 + i)) 64
def snapC (r:Nat → Int) (set:Int) (g:Nat → Int):List Value:=regsC r ++ .int .i64 set :: frmL g
def Pl.snap (D:Pl):List Value:=snapC D.r D.set D.mem.g
theorem snap_len (r:Nat → Int) (s:Int) (g:Nat → Int):(snapC r s g).length=76:=rfl
theorem info_snap:(Tryz.prog.info? 49).map (·.size)=some 76:=by kernel_rfl
def snapZ:Array Value:=(snapC (fun _=>0) 0 (fun _=>0)).toArray
theorem snap_one (r:Nat → Int) (s:Int) (g:Nat → Int):(snapC r s g).toArray.all (·.oneCell')=true:=by kernel_rfl
end Go.Proofs.YtigliofiojkhcaaGreat.Mdl
namespace Go.Proofs.YtigliofiojkhcaaGreat.Mdl
open Go.RowKit Go.Maps Ins Trc
set_option linter.unusedVariables false
set_option linter.unusedSimpArgs false
set_option maxRecDepth 100000
structure Md where
  ctx:Int
  lv:Value
  mv:Value
  r:Nat → Int
  set:Int
  fr:Nat → Int
  at_:Int
  av:Value
  tv:Value
def Md.cell (s:Md) (i:Nat):Value:=
  if i=0 then .int .i64 s.ctx else if i=1 then s.lv else if i=2 then s.mv else if i < 14 then .int .u64 (s.r (i - 3)) else if i=14 then .int .i64 s.set else if i < 79 then .int .u8 (s.fr (i - 15)) else if i=79 then .int .i64 s.at_ else if i=80 then s.av else s.tv
def Md.cells (s:Md):Array Value:=((List.range 82).map s.cell).toArray
def Md.in_ (s:Md) (w:World) (g:Nat):Prop:=w.heap[g]?=some (.cells s.cells 65 (0,0))
theorem Md.size (s:Md):s.cells.size=82:=by simp [Md.cells]
theorem Md.get (s:Md) (i:Nat) (h:i < 82):s.cells[i]?=some (s.cell i):=by simp [Md.cells,h]
theorem Md.ext {s:Md} {cs:Array Value} (hs:cs.size=82) (h:∀ i,i < 82 → cs[i]?=some (s.cell i)):cs=s.cells:=by
  apply Array.ext_getElem?
  intro i
  by_cases hi:i < 82
  · rw [h i hi,s.get i hi]
  · rw [Array.getElem?_eq_none (by omega),Array.getElem?_eq_none (by rw [s.size];omega)]
theorem Md.below {s:Md} {W w:World} {g:Nat} (h:s.in_ W g) (b:Below W.heap.size W w):s.in_ w g:=(b.block _ (Array.getElem?_eq_some_iff.1 h).1).trans h
theorem Md.at {s:Md} {w:World} {g:Nat} (h:s.in_ w g) (i:Nat) (hi:i < 82):w.cell? ⟨g,i,none⟩=some (s.cell i):=by
  unfold Md.in_ at h
  simp only [World.cell?,h]
  exact s.get i hi
theorem Md.unfrozen {s:Md} {w:World} {g:Nat} (h:s.in_ w g) (i:Nat):w.frozen? ⟨g,i,none⟩=false:=by
  unfold Md.in_ at h
  simp [World.frozen?,h]
theorem Md.reg {s:Md} {w:World} {g:Nat} (h:s.in_ w g) (k:Nat) (hk:k < 11):w.cell? ⟨g,3 + k,none⟩=some (.int .u64 (s.r k)):=by
  rw [Md.at h _ (by omega)]
  unfold Md.cell
  rw [if_neg (by omega),if_neg (by omega),if_neg (by omega),if_pos (by omega),show 3 + k - 3=k by omega]
theorem Md.c0 {s:Md} {w:World} {g:Nat} (h:s.in_ w g):w.cell? ⟨g,0,none⟩=some (.int .i64 s.ctx):=Md.at h 0 (by decide)
theorem Md.c1 {s:Md} {w:World} {g:Nat} (h:s.in_ w g):w.cell? ⟨g,1,none⟩=some s.lv:=Md.at h 1 (by decide)
theorem Md.c2 {s:Md} {w:World} {g:Nat} (h:s.in_ w g):w.cell? ⟨g,2,none⟩=some s.mv:=Md.at h 2 (by decide)
theorem Md.c14 {s:Md} {w:World} {g:Nat} (h:s.in_ w g):w.cell? ⟨g,14,none⟩=some (.int .i64 s.set):=Md.at h 14 (by decide)
theorem Md.c79 {s:Md} {w:World} {g:Nat} (h:s.in_ w g):w.cell? ⟨g,79,none⟩=some (.int .i64 s.at_):=Md.at h 79 (by decide)
theorem Md.c80 {s:Md} {w:World} {g:Nat} (h:s.in_ w g):w.cell? ⟨g,80,none⟩=some s.av:=Md.at h 80 (by decide)
theorem Md.c81 {s:Md} {w:World} {g:Nat} (h:s.in_ w g):w.cell? ⟨g,81,none⟩=some s.tv:=Md.at h 81 (by decide)
theorem Md.cells_upd {s s':Md} (i:Nat) (hi:i < 82) (v:Value) (hc:∀ j,j < 82 → s'.cell j=if j=i then v else s.cell j):s.cells.setIfInBounds i v=s'.cells:=by
  refine Md.ext (by rw [Array.size_setIfInBounds,s.size]) (fun j hj=>?_)
  rw [Array.getElem?_setIfInBounds,hc j hj]
  by_cases e2:i=j
  · subst e2
    rw [if_pos rfl,if_pos (by rw [s.size];exact hi),if_pos rfl]
  · rw [if_neg e2,if_neg (fun h=>e2 h.symm),s.get j hj]
theorem Md.turn {s s':Md} {w:World} {g:Nat} (h:s.in_ w g) (i:Nat) (hi:i < 82) (v:Value) (hc:∀ j,j < 82 → s'.cell j=if j=i then v else s.cell j):s'.in_ (w.setCell ⟨g,i,none⟩ v) g:=by
  have e:=setCell_row h i v
  unfold Md.in_
  rw [e]
  congr 2
  refine Md.ext (by rw [Array.size_setIfInBounds,s.size]) (fun j hj=>?_)
  rw [Array.getElem?_setIfInBounds,hc j hj]
  by_cases e2:i=j
  · subst e2
    rw [if_pos rfl,if_pos (by rw [s.size];exact hi),if_pos rfl]
  · rw [if_neg e2,if_neg (fun h=>e2 h.symm),s.get j hj]
def Md.setR (s:Md) (n:Nat) (v:Int):Md:={ s with r:=fun k=>if k=n then v else s.r k }
def Md.put (s:Md) (n:Nat) (v:Int):Md:={ s.setR n v with set:=orM s.set (onlyI n) }
theorem Md.setR_in {s:Md} {w:World} {g:Nat} (h:s.in_ w g) (n:Nat) (v:Int) (hn:n < 11):(s.setR n v).in_ (w.setCell ⟨g,3 + n,none⟩ (.int .u64 v)) g:=by
  refine Md.turn h _ (by omega) _ (fun j hj=>?_)
  unfold Md.setR Md.cell
  simp only
  by_cases h0:j=0
  · rw [if_pos h0,if_neg (by omega),if_pos h0]
  by_cases h1:j=1
  · rw [if_neg h0,if_pos h1,if_neg (by omega),if_neg h0,if_pos h1]
  by_cases h2:j=2
  · rw [if_neg h0,if_neg h1,if_pos h2,if_neg (by omega),if_neg h0,if_neg h1,if_pos h2]
  rw [if_neg h0,if_neg h1,if_neg h2]
  by_cases h3:j < 14
  · rw [if_pos h3]
    by_cases e:j=3 + n
    · rw [if_pos e,if_pos (by omega)]
    · rw [if_neg e,if_neg (by omega),if_neg h0,if_neg h1,if_neg h2,if_pos h3]
  · rw [if_neg h3,if_neg (show ¬ j=3 + n by omega),if_neg h0,if_neg h1,if_neg h2,if_neg h3]
theorem Md.set_in {s:Md} {w:World} {g:Nat} (h:s.in_ w g) (m:Int):({ s with set:=m }:Md).in_ (w.setCell ⟨g,14,none⟩ (.int .i64 m)) g:=by
  refine Md.turn h _ (by omega) _ (fun j hj=>?_)
  by_cases e:j=14
  · subst e;rfl
  · rw [if_neg e];unfold Md.cell;simp only [if_neg e]
theorem Md.at_in {s:Md} {w:World} {g:Nat} (h:s.in_ w g) (m:Int):({ s with at_:=m }:Md).in_ (w.setCell ⟨g,79,none⟩ (.int .i64 m)) g:=by
  refine Md.turn h _ (by omega) _ (fun j hj=>?_)
  by_cases e:j=79
  · subst e;rfl
  · rw [if_neg e];unfold Md.cell;simp only [if_neg e]
theorem Md.av_in {s:Md} {w:World} {g:Nat} (h:s.in_ w g) (v:Value):({ s with av:=v }:Md).in_ (w.setCell ⟨g,80,none⟩ v) g:=by
  refine Md.turn h _ (by omega) _ (fun j hj=>?_)
  by_cases e:j=80
  · subst e;rfl
  · rw [if_neg e];unfold Md.cell;simp only [if_neg e]
theorem Md.tv_cells (s:Md) (v:Value):s.cells.setIfInBounds 81 v=({ s with tv:=v }:Md).cells:=by
  refine Md.cells_upd 81 (by omega) _ (fun j hj=>?_)
  by_cases e:j=81
  · subst e;rfl
  · rw [if_neg e]
    unfold Md.cell
    by_cases h0:j=0
    · simp only [if_pos h0]
    by_cases h1:j=1
    · simp only [if_neg h0,if_pos h1]
    by_cases h2:j=2
    · simp only [if_neg h0,if_neg h1,if_pos h2]
    by_cases h3:j < 14
    · simp only [if_neg h0,if_neg h1,if_neg h2,if_pos h3]
    by_cases h4:j=14
    · simp only [if_neg h0,if_neg h1,if_neg h2,if_neg h3,if_pos h4]
    by_cases h5:j < 79
    · simp only [if_neg h0,if_neg h1,if_neg h2,if_neg h3,if_neg h4,if_pos h5]
    by_cases h6:j=79
    · simp only [if_neg h0,if_neg h1,if_neg h2,if_neg h3,if_neg h4,if_neg h5,if_pos h6]
    · simp only [if_neg h0,if_neg h1,if_neg h2,if_neg h3,if_neg h4,if_neg h5,if_neg h6,if_pos (show j=80 by omega)]
set_option maxHeartbeats 2000000 in
theorem r6_second_imm (s:Md) (g:Nat) (kind op width size dst src off imm:Int) (W:World) (h:s.in_ W g):
    Calls Tryz.prog 46 #[.pointer (some ⟨g,0,none⟩),.agg (Ins.In.mk kind op width size false dst src off imm).cells] W fun e w'=>e=.returned (.int .u64 (imm % 18446744073709551616)) ∧ Below W.heap.size W w':=by
  have e:IntKind.u64.wrap imm=imm % 18446744073709551616:=IntKind.wrap_u64 imm
  rw [← e]
  clear e h
  unfold Ins.In.cells
  simp only
  go_enter Tryz.func46,Tryz.ntmps46
  go_wp2
  go_ret
  exact ⟨rfl,below_new (Below.refl _ _) _⟩
set_option maxHeartbeats 2000000 in
theorem r6_second_reg (s:Md) (g:Nat) (kind op width size dst off imm:Int) (n:Nat) (W:World) (h:s.in_ W g) (hn:n < 11):
    Calls Tryz.prog 46 #[.pointer (some ⟨g,0,none⟩),.agg (Ins.In.mk kind op width size true dst n off imm).cells] W fun e w'=>e=.returned (.int .u64 (s.r n)) ∧ Below W.heap.size W w':=by
  have c:=s.reg (s.below h (below_new (Below.refl _ W) (.cells (Ins.In.mk kind op width size true dst n off imm).cells 52))) n hn
  have c6:(W.alloc (.cells (Ins.In.mk kind op width size true dst n off imm).cells 52)).cell? ⟨W.heap.size,6,none⟩=some (.int .i8 n):=by
    simp only [World.cell?,heap_last W (.cells (Ins.In.mk kind op width size true dst n off imm).cells 52) _ rfl];rfl
  clear h
  unfold Ins.In.cells at c c6 ⊢
  simp only at c c6 ⊢
  generalize s.r n=v at *
  go_enter Tryz.func46,Tryz.ntmps46
  go_wp2_with fail
  go_quiet (fail)
  go_wp2_with fail
  go_ret
  exact ⟨rfl,below_drewN (below_new (Below.refl _ W) _) _⟩
def Md.opd (s:Md) (x:Ins.In):Int:=if x.byReg=true then s.r x.src.toNat else x.imm % 18446744073709551616
theorem r6_second (s:Md) (g:Nat) (x:Ins.In) (W:World) (h:s.in_ W g) (s0:0 ≤ x.src) (s1:x.src < 11):
    Calls Tryz.prog 46 #[.pointer (some ⟨g,0,none⟩),.agg x.cells] W fun e w'=>e=.returned (.int .u64 (s.opd x)) ∧ Below W.heap.size W w':=by
  obtain ⟨kind,op,width,size,byReg,dst,src,off,imm⟩:=x
  simp only at s0 s1
  cases byReg
  · exact r6_second_imm s g kind op width size dst src off imm W h
  · obtain ⟨n,rfl⟩:∃ n:Nat,src=n:=⟨src.toNat,by omega⟩
    have:=r6_second_reg s g kind op width size dst off imm n W h (by omega)
    simpa [Md.opd] using this
theorem sh_nat {n:Nat} (h:n < 11):wrap64 (2 ^ n)=onlyI n:=by
  have:=sh_only (r:=(n:Int)) (by omega) (by omega)
  rwa [Int.toNat_natCast] at this
set_option maxHeartbeats 4000000 in
theorem r6_set (s:Md) (g n:Nat) (v:Int) (W:World) (h:s.in_ W g) (hn:n < 11):
    Calls Tryz.prog 47 #[.pointer (some ⟨g,0,none⟩),.int .i8 n,.int .u64 v] W fun e w'=>(∃ u,e=.returned u) ∧ (s.put n v).in_ w' g ∧ But g W w':=by
  have c:=s.reg h n hn
  have f:=s.unfrozen h (3 + n)
  have HW:=Lib.hid (But.set W g (3 + n) (.int .u64 v))
  have HI0:=Lib.hid (s.setR_in h n v hn)
  have es:=sh_nat hn
  clear h
  go_enter Tryz.func47,Tryz.ntmps47
  go_wp2_with fail
  generalize W.setCell ⟨g,3 + n,none⟩ (.int .u64 v)=w1 at *
  have HE:Hid (s.put n v={ s.setR n v with set:=orM (s.setR n v).set (onlyI n) }):=Lib.hid rfl
  generalize s.setR n v=s1 at *
  have d14:=Md.c14 HI0.out
  go_still_tail 9,(by kernel_rfl)
  have d14':w1.drew.cell? ⟨g,14,none⟩=some (.int .i64 s1.set):=d14
  have f14':w1.drew.frozen? ⟨g,14,none⟩=false:=s1.unfrozen (show s1.in_ w1.drew g from HI0.out) 14
  go_wp2_with fail
  refine ⟨rfl,.tuple #[],?_,⟨_,rfl⟩,?_,HW.out.trans (But.trans (But.set w1 g 14 _) (But.of_below (Below.drew (Below.refl _ _))))⟩
  · first | rfl | kernel_rfl
  · rw [HE.out]
    exact s1.set_in HI0.out _
end Go.Proofs.YtigliofiojkhcaaGreat.Mdl
namespace Go.Proofs.YtigliofiojkhcaaGreat
open Go Go.RowKit
set_option linter.unusedVariables false
set_option linter.unusedSimpArgs false
section
variable {F:Fence} {m:Nat} {P:Program} {ops:Array Oper} {Q:Exit → Act → World → Prop} {md:Region.Mode}
end
section
variable {F:Fence} {m:Nat} {P:Program} {ops:Array Oper} {Q:Exit → Act → World → Prop} {n:Nat} {a0:Act} {w0:World} {S:(Nat → Bool) → (Nat → Value) → World → Prop} {K D:List Nat} {l:List (Option Value)}
def HopD (F:Fence) (m:Nat) (P:Program) (ops:Array Oper) (Q:Exit → Act → World → Prop) (n:Nat) (a0:Act) (S:(Nat → Bool) → (Nat → Value) → World → Prop) (K D:List Nat) (l:List (Option Value)) (i:Nat) (L:List Oper):Prop:=
  ∀ j o,L[j]?=some o → ∀ fl a w,Cz ops n a0 S K D l (i + j) o fl a w → wpOpIn F m P ops Q (i + j) (PostZ S l (i + j) o fl a) a w
theorem yn {i:Nat}:HopD F m P ops Q n a0 S K D l i []:=fun j o h=>by simp at h
theorem yc {i:Nat} {o:Oper} {L:List Oper} (h:∀ {fl a w},Cz ops n a0 S K D l i o fl a w → wpOpIn F m P ops Q i (PostZ S l i o fl a) a w) (t:HopD F m P ops Q n a0 S K D l (i + 1) L):HopD F m P ops Q n a0 S K D l i (o :: L):=fun j o' hj=>by
  cases j with
  | zero=>
    have e:o=o':=by simpa using hj
    subst e
    exact fun _ _ _ c=>h c
  | succ j=>
    have:=t j o' (by simpa using hj)
    rw [show i + 1 + j=i + (j + 1) by omega] at this
    exact this
end
theorem frame_of {ops:Array Oper} {a0 a:Act} (hsz:a.tmps.size=a0.tmps.size) (hd':a.defers=a0.defers) (rest:∀ j,(∀ (i:Nat) (o:Oper),ops[i]?=some o → o.dst ≠ some j) → a.tmps.getD j undef=a0.tmps.getD j undef):
    a=⟨putAll a0.tmps (outs ops fun d=>a.tmps.getD d undef),a0.defers⟩:=by
  have e:a.tmps=putAll a0.tmps (outs ops fun d=>a.tmps.getD d undef):=by
    apply Array.ext_getElem?
    intro j
    by_cases hj:j < a0.tmps.size
    · by_cases hd:∃ (i:Nat) (o:Oper),ops[i]?=some o ∧ o.dst=some j
      · obtain ⟨i,o,ho,hd⟩:=hd
        rw [putAll_mem (fun d=>a.tmps.getD d undef) _ _ j hj]
        · have hj':j < a.tmps.size:=by rw [hsz];exact hj
          rw [Array.getElem?_eq_getElem hj']
          simp [Array.getD_eq_getD_getElem?,Array.getElem?_eq_getElem hj']
        · intro p hp
          unfold outs at hp
          rw [List.mem_filterMap] at hp
          obtain ⟨i',_,he⟩:=hp
          rw [Option.map_eq_some_iff] at he
          obtain ⟨d,_,rfl⟩:=he
          rfl
        · refine ⟨(j,a.tmps.getD j undef),?_,rfl⟩
          unfold outs
          rw [List.mem_filterMap]
          exact ⟨i,List.mem_range.2 (Array.getElem?_eq_some_iff.1 ho).1,by rw [ho];simp [hd]⟩
      · have hr:=rest j (fun i o ho hd'=>hd ⟨i,o,ho,hd'⟩)
        rw [putAll_other]
        · have hj':j < a.tmps.size:=by rw [hsz];exact hj
          rw [Array.getElem?_eq_getElem hj',Array.getElem?_eq_getElem hj]
          simp only [Array.getD_eq_getD_getElem?,Array.getElem?_eq_getElem hj',Array.getElem?_eq_getElem hj,Option.getD_some] at hr
          rw [hr]
        · intro p hp e
          unfold outs at hp
          rw [List.mem_filterMap] at hp
          obtain ⟨i',_,he⟩:=hp
          rw [Option.map_eq_some_iff] at he
          obtain ⟨d,hd',rfl⟩:=he
          rw [Option.bind_eq_some_iff] at hd'
          obtain ⟨o,ho,hd'⟩:=hd'
          exact hd ⟨i',o,ho,by rw [hd',← e]⟩
    · rw [Array.getElem?_eq_none (by rw [hsz];omega),Array.getElem?_eq_none (by rw [putAll_size];omega)]
  have ea:a=⟨putAll a0.tmps (outs ops fun d=>a.tmps.getD d undef),a0.defers⟩:=by
    rw [← e,← hd']
  exact ea
theorem not_chk {ops:Array Oper} {j:Nat} (h:∀ (i:Nat) (o:Oper),ops[i]?=some o → o.dst ≠ some j):chkNot ops j=true:=by
  unfold chkNot
  rw [List.all_eq_true]
  intro i _
  cases ho:ops[i]? with
  | none=>rfl
  | some o=>
    cases hd:o.dst with
    | none=>simp [hd]
    | some d=>
      have:=h i o ho
      rw [hd] at this
      simp only [hd]
      simpa using this
theorem BehZ.frame {ops:Array Oper} {n:Nat} {a0:Act} {S:(Nat → Bool) → (Nat → Value) → World → Prop} {l:List (Option Value)} {a:Act} {w:World} (f:BehZ ops n a0 S l a w) (h0:a0.tmps.size=n) (hd:a0.defers=[]):a=⟨putAll a0.tmps (outs ops fun d=>a.tmps.getD d undef),[]⟩:=by
  have:=frame_of (ops:=ops) (a0:=a0) (a:=a) (f.z.trans h0.symm) (f.d.trans hd.symm) (fun j hj=>f.r j (not_chk hj) rfl)
  rw [hd] at this
  exact this
end Go.Proofs.YtigliofiojkhcaaGreat
namespace Go.Proofs.YtigliofiojkhcaaGreat.Mdl
open Go.RowKit
set_option linter.unusedVariables false
set_option linter.unusedSimpArgs false
set_option maxRecDepth 100000
section
variable {P:Program} {ops:Array Oper} {rest:List Oper} {o:Oper} {a:Act} {w w':World} {Q:Exit → Act → World → Prop} {v:Value}
theorem wpList_ex (hg:o.guard=none) (h:(execOp a.eval o).run P w=.ok (.value v) w') (k:wpList P ops Q rest (a.put o.dst v) w'):wpList P ops Q (o :: rest) a w:=
  wpList_plain hg fun _ hK=>by unfold Oper.wp;rw [h];exact hK _ _ k
theorem halt_slice (t:TypeId) (x:Operand) (l h m:Option Operand) (ho:o.op=.slice t x l h m) (k:wpList P ops Q (o :: rest) a w ∧ True):wpList P ops Q (o :: rest) a w:=k.1
theorem halt_bslice (t:TypeId) (n:Nat) (x:Array (Nat × Operand)) (ho:o.op=.buildSlice t n x) (k:wpList P ops Q (o :: rest) a w ∧ True):wpList P ops Q (o :: rest) a w:=k.1
end
theorem But.new {g:Nat} {G:List Nat} {W w w':World} (h:But g W w) (t:Trn G w w') (hG:∀ k ∈ G,W.heap.size ≤ k):But g W w':=
  ⟨t.os.trans h.os,t.tape.trans h.tape,t.output.trans h.output,Nat.le_trans h.size t.size,fun k hk hne=>(t.block k (Nat.lt_of_lt_of_le hk h.size) (fun hm=>by have:=hG k hm;omega)).trans (h.block k hk hne)⟩
def SA (ka kb kc da db:Nat) (ty:TypeId) (sz g:Nat) (w0:World) (β n:Nat) (t0:Value) (cs ev:List Value) (new:Value → Array Value) (T:TypeId) (fl:Nat → Bool) (u:Nat → Value) (w:World):Prop:=
  (fl ka=false ∧ fl kb=false ∧ fl kc=false ∧ Below w0.heap.size w0 w) ∨
  (fl ka=true ∧ fl kb=false ∧ fl kc=false ∧ Below w0.heap.size w0 w ∧ ∃ gs,u da=.slice (some ⟨gs,0,none⟩) 1 1 ∧ w.heap[gs]?=some (.cells ev.toArray ty (0,0))) ∨
  (fl ka=true ∧ fl kb=true ∧ fl kc=false ∧ w.ownsRow β ty sz (u db) (n + 1) (cs ++ ev) ∧ Trn t0.ownBlock.toList w0 w) ∨
  (fl ka=true ∧ fl kc=true ∧ w.ownsRow β ty sz (u db) (n + 1) (cs ++ ev) ∧ Trn (g :: t0.ownBlock.toList) w0 w ∧ w.heap[g]?=some (.cells (new (u db)) T (0,0)))
section
variable {ka kb kc da db:Nat} {ty:TypeId} {sz g:Nat} {w0 w w':World} {β n:Nat} {t0:Value} {cs ev:List Value} {new:Value → Array Value} {T:TypeId} {fl:Nat → Bool} {u u':Nat → Value} {v:Value}
theorem SA.loc:Loc [ka,kb,kc] [da,db] (SA ka kb kc da db ty sz g w0 β n t0 cs ev new T):=by
  intro fl fl' u u' w hK hD h
  unfold SA at *
  simp only [hK ka (by simp),hK kb (by simp),hK kc (by simp),hD da (by simp),hD db (by simp)]
  exact h
theorem SA.start (b:Below w0.heap.size w0 w) (h6:fl ka=false) (h7:fl kb=false) (h10:fl kc=false):SA ka kb kc da db ty sz g w0 β n t0 cs ev new T fl u w:=.inl ⟨h6,h7,h10,b⟩
theorem SA.was (h:SA ka kb kc da db ty sz g w0 β n t0 cs ev new T fl u w) (f7:fl kb=false) (f10:fl kc=false):Below w0.heap.size w0 w:=by
  rcases h with h | h | h | h
  · exact h.2.2.2
  · exact h.2.2.2.1
  · rw [f7] at h;cases h.2.1
  · rw [f10] at h;cases h.2.1
theorem SA.was0 (h:SA ka kb kc da db ty sz g w0 β n t0 cs ev new T fl u w) (f6:fl ka=false):Below w0.heap.size w0 w:=by
  rcases h with h | h | h | h
  · exact h.2.2.2
  · rw [f6] at h;cases h.1
  · rw [f6] at h;cases h.1
  · rw [f6] at h;cases h.1
theorem SA.lay (h:SA ka kb kc da db ty sz g w0 β n t0 cs ev new T fl u w) (f7:fl kb=false) (f10:fl kc=false) (hab:ka ≠ kb) (hac:ka ≠ kc) (h46:u' da=.slice (some ⟨w.heap.size,0,none⟩) 1 1):SA ka kb kc da db ty sz g w0 β n t0 cs ev new T (upd fl ka) u' (w.alloc (.cells ev.toArray ty)):=by
  have b:=h.was f7 f10
  exact .inr (.inl ⟨upd_new _ _,by unfold upd;rw [if_neg (Ne.symm hab)];exact f7,by unfold upd;rw [if_neg (Ne.symm hac)];exact f10,below_new b _,w.heap.size,h46,heap_last w _ _ rfl⟩)
theorem SA.laid (h:SA ka kb kc da db ty sz g w0 β n t0 cs ev new T fl u w) (f6:fl ka=true) (f7:fl kb=false) (f10:fl kc=false):Below w0.heap.size w0 w ∧ ∃ gs,u da=.slice (some ⟨gs,0,none⟩) 1 1 ∧ w.heap[gs]?=some (.cells ev.toArray ty (0,0)):=by
  rcases h with h | h | h | h
  · rw [f6] at h;cases h.1
  · exact h.2.2.2
  · rw [f7] at h;cases h.2.1
  · rw [f10] at h;cases h.2.1
theorem SA.app (h:SA ka kb kc da db ty sz g w0 β n t0 cs ev new T fl u w) (f6:fl ka=true) (f7:fl kb=false) (f10:fl kc=false) (hab:ka ≠ kb) (hbc:kb ≠ kc) (own:w'.ownsRow β ty sz v (n + 1) (cs ++ ev)) (gr:w.grownBy w' t0.ownBlock) (h47:u' db=v):SA ka kb kc da db ty sz g w0 β n t0 cs ev new T (upd fl kb) u' w':=
  .inr (.inr (.inl ⟨by unfold upd;rw [if_neg hab];exact f6,upd_new _ _,by unfold upd;rw [if_neg (Ne.symm hbc)];exact f10,by rw [h47];exact own,(Trn.of_below (h.laid f6 f7 f10).1).trans (trn_grown gr)⟩))
theorem SA.done (h:SA ka kb kc da db ty sz g w0 β n t0 cs ev new T fl u w) (f7:fl kb=true) (f10:fl kc=false):w.ownsRow β ty sz (u db) (n + 1) (cs ++ ev) ∧ Trn t0.ownBlock.toList w0 w:=by
  rcases h with h | h | h | h
  · rw [f7] at h;cases h.2.1
  · rw [f7] at h;cases h.2.1
  · exact h.2.2.2
  · rw [f10] at h;cases h.2.1
theorem SA.six (h:SA ka kb kc da db ty sz g w0 β n t0 cs ev new T fl u w) (f7:fl kb=true):fl ka=true:=by
  rcases h with h | h | h | h
  · rw [f7] at h;cases h.2.1
  · rw [f7] at h;cases h.2.1
  · exact h.1
  · exact h.1
theorem SA.store (h:SA ka kb kc da db ty sz g w0 β n t0 cs ev new T fl u w) (f7:fl kb=true) (f10:fl kc=false) (hac:ka ≠ kc) (st:Stored w g (new (u db)) T w') {c:Array Value} (hg:w.heap[g]?=some (.cells c T (0,0))) (ne:ty ≠ T):SA ka kb kc da db ty sz g w0 β n t0 cs ev new T (upd fl kc) u w':=by
  obtain ⟨own,tr⟩:=h.done f7 f10
  have ts:Trn [g] w w':=⟨st.os,st.tape,st.output,by rw [st.size];exact Nat.le_refl _,fun k _ hn=>st.other k (by simpa using hn)⟩
  exact .inr (.inr (.inr ⟨by unfold upd;rw [if_neg hac];exact h.six f7,upd_new _ _,own_trn own ts (fun j hj=>by simpa using own_ne own hg ne j hj),(tr.weak (fun k hk=>by simp [hk])).trans (ts.weak (fun k hk=>by simp at hk;simp [hk])),st.row⟩))
theorem SA.fin (h:SA ka kb kc da db ty sz g w0 β n t0 cs ev new T fl u w) (f:fl kc=true) (f7:fl kb=true):w.ownsRow β ty sz (u db) (n + 1) (cs ++ ev) ∧ Trn (g :: t0.ownBlock.toList) w0 w ∧ w.heap[g]?=some (.cells (new (u db)) T (0,0)):=by
  rcases h with h | h | h | h
  · rw [f] at h;cases h.2.2.1
  · rw [f] at h;cases h.2.2.1
  · rw [f] at h;cases h.2.2.1
  · exact h.2.2
end
section
variable {ρ:Operand → Value} {o:Oper} {w:World} {x y:Operand}
theorem ex_bsW {z:Int} (ho:o.op=.buildSlice 26 1 #[(0,x)]) (hx:ρ x=.int .u64 z):(execOp ρ o).run Tryz.prog w=.ok (.value (.slice (some ⟨w.heap.size,0,none⟩) 1 1)) (w.alloc (.cells #[.int .u64 z] 30)):=by
  obtain ⟨ti,i1,i2,i3,i4⟩:=Trc.info_u64
  have hr:=run_buildSlice (P:=Tryz.prog) w 26 30 1 (#[(0,x)].map fun (i,x)=>(i,ρ x)) #[.int .u64 z] ti _ Tryz.underlying26 i1 i2 (by rw [i3];decide) (by rw [i3];decide) (by rw [i3];simp [hx,Instr.fill];exact ⟨⟨rfl,Nat.le_refl _⟩,by kernel_rfl⟩)
  simp only [execOp,ho,hr,Sem.run_bind,Sem.run_pure,Result.andThen_ok]
theorem ex_appW {β n:Nat} {v:Value} {cs:List Value} {z:Int} {gs:Nat} (ho:o.op=.call ⟨.builtin .append,#[x,y],#[26,26]⟩) (hx:ρ x=v) (hy:ρ y=.slice (some ⟨gs,0,none⟩) 1 1) (hown:w.ownsRow β 30 1 v n cs) (hn:n ≤ 10000)
    (hr:w.heap[gs]?=some (.cells #[.int .u64 z] 30 (0,0))) (hb:β ≤ w.heap.size):
    ∃ v' w',(execOp ρ o).run Tryz.prog w=.ok (.value v') w' ∧ w'.ownsRow β 30 1 v' (n + 1) (cs ++ [.int .u64 z]) ∧ w.grownBy w' v.ownBlock ∧ (v'.ownBlock=v.ownBlock ∨ v'.ownBlock=some w.heap.size):=by
  obtain ⟨ti,i1,i2,i3,i4⟩:=Trc.info_u64
  obtain ⟨v',w',hr',h2,h3',h4,h5⟩:=run_append_own_at (P:=Tryz.prog) w β 26 o.type 30 ti _ 1 8 Tryz.underlying26 i1 i2 i3 i4 rfl (by decide) v n cs hown ⟨gs,0,none⟩ 1 1 [.int .u64 z] rfl (fun j u hu=>by
    rw [Addr.add_mid]
    simp only [World.cell?,hr]
    simpa using hu) (by intro u hu;simp only [List.mem_cons,List.not_mem_nil,or_false] at hu;subst hu;rfl) (by unfold maxLen;omega) (by omega) hb
  refine ⟨v',w',?_,h2,h3',h5⟩
  simp only [execOp,ho,List.map_toArray,List.map_cons,List.map_nil,hx,hy,resolve,invoke,builtin,Sem.run_bind,Sem.run_pure,Result.andThen_ok,hr']
end
end Go.Proofs.YtigliofiojkhcaaGreat.Mdl
