import Derived.Test.YtigliofiojkhcaaGreatMRn19
import Derived.Lib.MinMax
set_option linter.unusedVariables false
set_option linter.unusedSimpArgs false
set_option linter.unnecessarySimpa false
namespace Go.Proofs.YtigliofiojkhcaaGreat.Mdl
open Go.RowKit Go.Maps Ins Trc
set_option linter.unusedVariables false
set_option linter.unusedSimpArgs false
set_option maxRecDepth 100000
def flatI (xs:Nat → In):Nat → List Value
  | 0=>[]
  | n + 1=>flatI xs n ++ (xs n).cells.toList
theorem flatI_length (xs:Nat → In):∀ n,(flatI xs n).length=n * 9
  | 0=>rfl
  | n + 1=>by
    show (flatI xs n ++ (xs n).cells.toList).length=_
    rw [List.length_append,flatI_length xs n]
    show n * 9 + 9=_
    omega
theorem flatI_get (xs:Nat → In):∀ n i j,i < n → j < 9 → (flatI xs n)[i * 9 + j]?=(xs i).cells[j]?
  | 0,i,j,h,_=>by omega
  | n + 1,i,j,h,hj=>by
    show (flatI xs n ++ (xs n).cells.toList)[i * 9 + j]?=_
    by_cases e:i=n
    · subst e
      rw [List.getElem?_append_right (by rw [flatI_length];omega),flatI_length,show i * 9 + j - i * 9=j by omega,Array.getElem?_toList]
    · rw [List.getElem?_append_left (by rw [flatI_length];omega)]
      exact flatI_get xs n i j (by omega) hj
theorem flatI_one (xs:Nat → In):∀ n,∀ u ∈ flatI xs n,u.oneCell'=true
  | 0,u,h=>by cases h
  | n + 1,u,h=>by
    rcases List.mem_append.1 h with h | h
    · exact flatI_one xs n u h
    · simp [In.cells] at h
      rcases h with rfl | rfl | rfl | rfl | rfl | rfl | rfl | rfl | rfl <;> rfl
theorem info_in:∃ i,Tryz.prog.info? 52=some i ∧ i.zero=some (.agg In.nil.cells) ∧ i.size=9 ∧ i.bytes=24:=by
  have h:(Tryz.prog.info? 52).map (fun i=>(i.zero,i.size,i.bytes))=some (some (.agg In.nil.cells),9,24):=by kernel_rfl
  cases hi:Tryz.prog.info? 52 with
  | none=>rw [hi] at h;simp at h
  | some i=>rw [hi] at h;simp at h;exact ⟨i,rfl,h.1,h.2.1,h.2.2⟩
set_option maxHeartbeats 2000000 in
theorem cloneI_any (b o len cap:Nat) (xs:Nat → In) (W:World) (h:Insts W (some ⟨b,o,none⟩) len cap xs) (h1:1 ≤ len) (hfew:len ≤ 1000):
    Calls Tryz.prog 27 #[.slice (some ⟨b,o,none⟩) len cap] W fun e w'=>∃ v,e=.returned v ∧ w'.ownsRow W.heap.size 52 9 v len (flatI xs len) ∧ Below W.heap.size W w':=by
  obtain ⟨ti,i1,i2,i3,i4⟩:=info_in
  have TI:=Lib.hid (And.intro i1 (And.intro i2 (And.intro i3 i4)))
  clear i1 i2 i3 i4
  have HN:Hid (∀ j u,(flatI xs len)[j]?=some u → (W.alloc (.cells #[] 52)).cell? ((⟨b,o,none⟩:Addr).add j)=some u):=by
    intro j u hu
    have hj:j < len * 9:=by have:=(List.getElem?_eq_some_iff.1 hu).1;rw [flatI_length] at this;exact this
    obtain ⟨b',o',e,hc⟩:=h.here (by omega)
    injection e with e
    injection e with e1 e2
    subst e1 e2
    have e3:j / 9 * 9 + j % 9=j:=by omega
    have hcj:=flatI_get xs len (j / 9) (j % 9) (by omega) (by omega)
    rw [e3,hu] at hcj
    have h2:=hc (j / 9) (by omega) (j % 9) u (by rw [Array.getElem?_toList];exact hcj.symm)
    rw [show o + j / 9 * 9 + j % 9=o + j by omega] at h2
    rw [Addr.add_mid,((Below.refl W.heap.size W).alloc (Nat.le_refl _) (.cells #[] 52)).cell (p:=⟨b,o + j,none⟩) (Trc.lt_of_cell h2),h2]
  clear h
  have HL:=Lib.hid (flatI_length xs len)
  have H1:=Lib.hid (flatI_one xs len)
  generalize flatI xs len=fl at *
  have en:=fun w=>eql_nil (P:=Tryz.prog) 22 52 (some ⟨b,o,none⟩) len cap Tryz.underlying22 w
  simp only [Option.isNone_some] at en
  have h0:0 < len:=h1
  clear h1
  go_enter Tryz.func27,Tryz.ntmps27
  go_wp2_with (at_builtin;refine wpList_append_own_at _ rfl _ _ 22 rfl W.heap.size 52 ti _ 9 24 Tryz.underlying22 TI.out.1 TI.out.2.1 TI.out.2.2.1 TI.out.2.2.2 rfl (by decide) _ 0 [] rfl (own_empty W W.heap.size _ _ (Nat.le_refl _)) ⟨b,o,none⟩ len cap fl rfl HL.out HN.out H1.out (by unfold maxLen;omega) (by omega) (by simp) ?_)
  intro v' w' hr hg hn hat
  have B:=Lib.hid (((Below.refl W.heap.size W).alloc (Nat.le_refl _) (.cells #[] 52)).grown hg (by simp) (fun j hj=>by simp [Value.ownBlock] at hj;omega))
  have R:=Lib.hid hr
  clear hr hg hn hat HN
  go_wp2_with fail
  go_ret
  exact ⟨_,rfl,R.out,B.out⟩
end Go.Proofs.YtigliofiojkhcaaGreat.Mdl
namespace Go.Proofs.YtigliofiojkhcaaGreat.Mdl
open Go.RowKit Go.Maps Ins Trc
set_option linter.unusedVariables false
set_option linter.unusedSimpArgs false
set_option maxRecDepth 100000
theorem faMT24_1_0 (g:Nat) (w:World):(Instr.fieldAt 24 (.pointer (some ⟨g,0,none⟩)) 1).run Tryz.prog w=.ok (.pointer (some ⟨g,1,none⟩)) w:=by simp [go_sem]
theorem wp_gen {P:Program} {c:Code} {Q:Exit → Act → World → Prop} {a:Act} {w:World} (h:∀ a',a'=a → c.wp P Q a' w):c.wp P Q a w:=h a rfl
def cells0 (pv mv:Value) (fuel:Int) (av:Value):Array Value:=#[pv,mv,.int .u64 0,.int .u64 0,.int .u64 0,.int .u64 0,.int .u64 0,.int .u64 0,.int .u64 0,.int .u64 0,.int .u64 0,.int .u64 0,.int .u64 0,.int .i64 0,.int .i64 0,.int .i64 fuel,av,.slice none 0 0,.int .i8 0]
def S10 (w0:World) (n k:Nat) (fl_:List Value) (zs:List Int) (mv:Value) (fuel:Int) (fl:Nat → Bool) (u:Nat → Value) (w:World):Prop:=
  Below w0.heap.size w0 w ∧ (fl 2=true → w.ownsRow w0.heap.size 52 9 (u 51) n fl_) ∧ (fl 8=true → w.ownsRow w0.heap.size 30 1 (u 57) k (zs.map (.int .u64))) ∧ (fl 9=true → u 58=.agg (cells0 (u 51) mv fuel (u 57))) ∧
  (fl 10=true → ∃ g,u 59=.pointer (some ⟨g,0,none⟩) ∧ w0.heap.size ≤ g ∧ w.heap[g]?=some (.cells (cells0 (u 51) mv fuel (u 57)) 78 (0,0))) ∧ (fl 11=true → u 15=u 59)
section
variable {w0 w w':World} {n k:Nat} {fl_:List Value} {zs:List Int} {mv:Value} {fuel:Int} {fl:Nat → Bool} {u u':Nat → Value} {v:Value}
theorem S10.loc:Loc [2,8,9,10,11] [51,57,58,59,15] (S10 w0 n k fl_ zs mv fuel):=by
  intro fl fl' u u' w hK hD h
  unfold S10 at *
  simp only [hK 2 (by decide),hK 8 (by decide),hK 9 (by decide),hK 10 (by decide),hK 11 (by decide),hD 51 (by decide),hD 57 (by decide),hD 58 (by decide),hD 59 (by decide),hD 15 (by decide)]
  exact h
theorem S10.start (b:Below w0.heap.size w0 w) (h:∀ i,i < 12 → fl i=false):S10 w0 n k fl_ zs mv fuel fl u w:=
  ⟨b,fun e=>absurd ((h 2 (by decide)).symm.trans e) (by decide),fun e=>absurd ((h 8 (by decide)).symm.trans e) (by decide),fun e=>absurd ((h 9 (by decide)).symm.trans e) (by decide),fun e=>absurd ((h 10 (by decide)).symm.trans e) (by decide),fun e=>absurd ((h 11 (by decide)).symm.trans e) (by decide)⟩
theorem S10.cI (h:S10 w0 n k fl_ zs mv fuel fl u w) (f8:fl 8=false) (f9:fl 9=false) (f10:fl 10=false) (f11:fl 11=false) (b:Below w.heap.size w w') (o:w'.ownsRow w.heap.size 52 9 v n fl_) (e:u' 51=v):S10 w0 n k fl_ zs mv fuel (upd fl 2) u' w':=
  ⟨h.1.trans (b.mono h.1.size),fun _=>by rw [e];exact own_base o h.1.size,fun e=>absurd (((upd_old fl rfl).trans f8).symm.trans e) (by decide),fun e=>absurd (((upd_old fl rfl).trans f9).symm.trans e) (by decide),fun e=>absurd (((upd_old fl rfl).trans f10).symm.trans e) (by decide),fun e=>absurd (((upd_old fl rfl).trans f11).symm.trans e) (by decide)⟩
theorem S10.cW (h:S10 w0 n k fl_ zs mv fuel fl u w) (f2:fl 2=true) (f9:fl 9=false) (f10:fl 10=false) (f11:fl 11=false) (b:Below w.heap.size w w') (o:w'.ownsRow w.heap.size 30 1 v k (zs.map (.int .u64))) (e:u' 57=v) (e1:u' 51=u 51):S10 w0 n k fl_ zs mv fuel (upd fl 8) u' w':=
  ⟨h.1.trans (b.mono h.1.size),fun _=>by rw [e1];exact own_below (h.2.1 f2) b,fun _=>by rw [e];exact own_base o h.1.size,fun e=>absurd (((upd_old fl rfl).trans f9).symm.trans e) (by decide),fun e=>absurd (((upd_old fl rfl).trans f10).symm.trans e) (by decide),fun e=>absurd (((upd_old fl rfl).trans f11).symm.trans e) (by decide)⟩
theorem S10.bld (h:S10 w0 n k fl_ zs mv fuel fl u w) (f2:fl 2=true) (f8:fl 8=true) (f10:fl 10=false) (f11:fl 11=false) (e58:u' 58=.agg (cells0 (u 51) mv fuel (u 57))) (e1:u' 51=u 51) (e2:u' 57=u 57):S10 w0 n k fl_ zs mv fuel (upd fl 9) u' w:=
  ⟨h.1,fun _=>by rw [e1];exact h.2.1 f2,fun _=>by rw [e2];exact h.2.2.1 f8,fun _=>by rw [e58,e1,e2],fun e=>absurd (((upd_old fl rfl).trans f10).symm.trans e) (by decide),fun e=>absurd (((upd_old fl rfl).trans f11).symm.trans e) (by decide)⟩
theorem S10.box (h:S10 w0 n k fl_ zs mv fuel fl u w) (f2:fl 2=true) (f8:fl 8=true) (f9:fl 9=true) (f11:fl 11=false) (e59:u' 59=.pointer (some ⟨w.heap.size,0,none⟩)) (e1:u' 51=u 51) (e2:u' 57=u 57) (e3:u' 58=u 58):S10 w0 n k fl_ zs mv fuel (upd fl 10) u' (w.alloc (.cells (cells0 (u 51) mv fuel (u 57)) 78)):=by
  have b:Below w.heap.size w (w.alloc (.cells (cells0 (u 51) mv fuel (u 57)) 78)):=below_new (Below.refl _ _) _
  refine ⟨h.1.trans (b.mono h.1.size),fun _=>by rw [e1];exact own_below (h.2.1 f2) b,fun _=>by rw [e2];exact own_below (h.2.2.1 f8) b,fun _=>by rw [e3,e1,e2];exact h.2.2.2.1 f9,fun _=>⟨w.heap.size,e59,h.1.size,by rw [e1,e2];exact heap_last w _ _ rfl⟩,fun e=>absurd (((upd_old fl rfl).trans f11).symm.trans e) (by decide)⟩
theorem S10.asg (h:S10 w0 n k fl_ zs mv fuel fl u w) (e15:u' 15=u 59) (e1:u' 51=u 51) (e2:u' 57=u 57) (e3:u' 58=u 58) (e4:u' 59=u 59):S10 w0 n k fl_ zs mv fuel (upd fl 11) u' w:=by
  refine ⟨h.1,fun f=>?_,fun f=>?_,fun f=>?_,fun f=>?_,fun _=>by rw [e15,e4]⟩
  · rw [e1];exact h.2.1 ((upd_old fl rfl).symm.trans f)
  · rw [e2];exact h.2.2.1 ((upd_old fl rfl).symm.trans f)
  · rw [e1,e2,e3];exact h.2.2.2.1 ((upd_old fl rfl).symm.trans f)
  · rw [e1,e2,e4];exact h.2.2.2.2.1 ((upd_old fl rfl).symm.trans f)
theorem ex_slW {ρ:Operand → Value} {o:Oper} {x y:Operand} {ad:Option Addr} {l c m:Nat} (ho:o.op=.slice 26 x none (some y) none) (hx:ρ x=.slice ad l c) (hy:ρ y=.int .i64 (m:Int)) (h:m ≤ c):(execOp ρ o).run Tryz.prog w=.ok (.value (.slice ad m c)) w:=by
  simp [execOp,ho,hx,hy,go_sem]
  intro h;omega
end
theorem S10.no {ops:Array Oper} {fl:Nat → Bool} (clo:∀ (k:Nat) (ok:Oper),ops[k]?=some ok → fl k=true → ∀ e ∈ ok.after,Region.binds .any e=true → fl e.on=true) (h9:fl 9=false) (c10:isLater ops 10 9=true:=by kernel_rfl) (c11:isLater ops 11 10=true:=by kernel_rfl):fl 10=false ∧ fl 11=false:=by
  have h10:fl 10=false:=not_yet clo h9 c10
  exact ⟨h10,not_yet clo h10 c11⟩
theorem own_some51 {w:World} {b n:Nat} {v:Value} {x:Nat → In} (h:w.ownsRow b 52 9 v n (flatI x n)) (h1:1 ≤ n):∃ pa pc,v=.slice (some ⟨pa,0,none⟩) n pc ∧ n ≤ pc ∧ ∃ cur:Array Value,w.heap[pa]?=some (.cells cur 52 (0,0)) ∧ ∀ i,i < n → ∀ j u,(x i).cells[j]?=some u → cur[i * 9 + j]?=some u:=by
  rcases h.2 with ⟨_,h0⟩ | ⟨g,cap,cur,e1,e2,e3,e4,e5,e6,e7⟩
  · omega
  · refine ⟨g,cap,e1,e4,cur,e3,fun i hi j u hu=>?_⟩
    have hj:j < 9:=(Array.getElem?_eq_some_iff.1 hu).1
    have:=flatI_get x n i j hi hj
    rw [← e7,List.getElem?_take_of_lt (by omega),Array.getElem?_toList] at this
    rw [this];exact hu
theorem ansR_own {w:World} {b n:Nat} {v:Value} {zs:List Int} (h:w.ownsRow b 30 1 v n (zs.map (.int .u64))) (hn:zs.length=n) (hz:∀ z ∈ zs,0 ≤ z ∧ z < 18446744073709551616):AnsR w v zs:=by
  subst hn
  rcases h.2 with ⟨rfl,h0⟩ | ⟨g,cap,cur,rfl,e2,e3,e4,e5,e6,e7⟩
  · exact ⟨hz,none,0,by rw [h0],by omega,fun h=>absurd (List.eq_nil_of_length_eq_zero h0) h⟩
  · refine ⟨hz,_,cap,rfl,e4,fun _=>⟨g,0,cur,rfl,e3,fun j z hj=>?_⟩⟩
    have hl:=(List.getElem?_eq_some_iff.1 hj).1
    have:(zs.map (Value.int .u64))[j]?=some (.int .u64 z):=by rw [List.getElem?_map,hj];rfl
    rw [← e7,List.getElem?_take_of_lt (by omega),Array.getElem?_toList] at this
    rw [Nat.zero_add];exact this
theorem below_trn {W w w':World} {g:Nat} (b:Below W.heap.size W w) (t:Trn [g] w w') (h:W.heap.size ≤ g):Below W.heap.size W w':=
  ⟨t.os.trans b.os,t.tape.trans b.tape,t.output.trans b.output,Nat.le_trans b.size t.size,fun k hk=>(t.block k (Nat.lt_of_lt_of_le hk b.size) (by simp;omega)).trans (b.block k hk)⟩
def ini (cb cl:Nat) (cf:Nat → Int) (fuel:Int) (zs:List Int):Pl:=(({ r:=fun _=>0,set:=0,at_:=0,fuel:=fuel,fin:=0,ans:=zs,evs:=[],mem:=newMem cb 0 cl false cf }:Pl).put 1 2097152).put 10 3145792
def StartIs (W:World) (x:Nat → In) (plen cl:Nat) (cf:Nat → Int) (fuel:Int) (zs:List Int) (e:Ending) (w':World):Prop:=
  ∃ (E:Env) (cb:Nat),e=.returned (.tuple #[.pointer (some ⟨E.g,0,none⟩),.int .i64 0]) ∧ E.β=W.heap.size ∧ E.x=x ∧ E.pl=plen ∧ E.pl ≤ E.pc ∧ E.kf=(fun _=>0) ∧ Below W.heap.size W w' ∧ Rel E (ini cb cl cf fuel zs) w'
theorem ini_words (cb cl:Nat) (cf:Nat → Int) (fuel:Int) (zs:List Int):Words (ini cb cl cf fuel zs):=
  Pl.put_words (Pl.put_words (fun k=>⟨Int.le_refl 0,(by decide:(0:Int) < 18446744073709551616)⟩) 1 ⟨by decide,by decide⟩) 10 ⟨by decide,by decide⟩
set_option maxHeartbeats 8000000 in
theorem start_ok (c:Int) (b o plen pcap:Nat) (x:Nat → In) (ca:Option Addr) (cl cc:Nat) (cf:Nat → Int) (aa:Option Addr) (al ac tk:Nat) (zs:List Int) (fuel:Int) (W:World) (hI:Insts W (some ⟨b,o,none⟩) plen pcap x) (hS:Src W ca cl cc cf) (hA:WordsAt W aa al ac zs)
    (hchk:(checkI c plen x).2=0) (hlen:(cl:Int)=c) (hc:cl ≤ 256) (f0:0 ≤ fuel) (f1:fuel ≤ 10000) (h64:1 ≤ plen ∧ plen ≤ 64) (htk:min (al:Int) fuel=(tk:Int)) (hal:al ≤ 1000) (htl:tk ≤ al) (hz:∀ z ∈ zs,0 ≤ z ∧ z < 18446744073709551616):
    Calls Tryz.prog 14 #[.agg #[.int .i64 c,.slice (some ⟨b,o,none⟩) plen pcap],.slice ca cl cc,.slice aa al ac,.int .i64 fuel] W (StartIs W x plen cl cf fuel (zs.take tk)):=by
  have CHK:=Lib.hid (fun W h=>check_any c (some ⟨b,o,none⟩) plen pcap x W h)
  have NEW:=Lib.hid (fun W h=>new_any ca cl cc cf none 0 0 (fun _=>0) false W h ⟨Nat.le_refl _,by omega,fun h=>absurd h (by omega),fun i h=>absurd h (by omega)⟩ hc (by omega))
  have CLI:=Lib.hid (fun W h=>cloneI_any b o plen pcap x W h h64.1 (by omega))
  have CLW:=Lib.hid (fun W h=>cloneW_any aa tk ac (zs.take tk) W h (by omega))
  have HI:=Lib.hid (fun w (h:Below W.heap.size W w)=>hI.below h)
  have HS:=Lib.hid (fun w (h:Below W.heap.size W w)=>hS.below h)
  have HA:=Lib.hid (fun w (h:Below W.heap.size W w)=>(hA.take htl).below h)
  have hcap:=hA.le
  have hzl:=Lib.hid hA.size
  clear hI hS hA
  subst hlen
  generalize (checkI cl plen x).1=k1 at *
  rw [hchk] at CHK
  have e2:¬ fuel < 0:=by omega
  have e3:¬ 10000 < fuel:=by omega
  have e4:tk ≤ ac:=by omega
  clear hchk
  have bx0:=below_new (Below.refl W.heap.size W) (.cells #[.int .i64 cl,.slice (some ⟨b,o,none⟩) plen pcap] 24)
  have rw0:=heap_last W (.cells #[.int .i64 cl,.slice (some ⟨b,o,none⟩) plen pcap] 24) _ rfl
  go_enter Tryz.func14,Tryz.ntmps14
  go_wp2_with fail
  generalize W.alloc (.cells #[.int .i64 cl,.slice (some ⟨b,o,none⟩) plen pcap] 24)=w0 at *
  refine (CHK.out _ (HI.out _ bx0)).mono ?_
  rintro e w1 ⟨rfl,b1⟩
  have rw1:=brow b1 rw0
  have bx1:=bx0.trans (b1.mono bx0.size)
  have c0:w1.cell? ⟨W.heap.size,0,none⟩=some (.int .i64 cl):=by simp only [World.cell?,rw1];rfl
  clear b1 rw0 bx0
  go_wp2_with fail
  refine (NEW.out _ (HS.out _ bx1)).mono ?_
  rintro e w2 ⟨mb,mc,rfl,m1,m2,m3,m4,m5⟩
  have rw2:=brow m3 rw1
  have bx2:=bx1.trans (m3.mono bx1.size)
  have c1:w2.cell? ⟨W.heap.size,1,none⟩=some (.slice (some ⟨b,o,none⟩) plen pcap):=by simp only [World.cell?,rw2];rfl
  have M4:=Lib.hid m4
  have M5:=Lib.hid m5
  clear m4 m5 rw1 c0
  go_wp2_with fail
  refine wp_gen fun a3 ha3=>?_
  have mo:Tryz.prog.follows .mixedOrders=true:=by kernel_rfl
  have d3:a3.defers=[]:=by rw [ha3]
  have z3:a3.tmps.size=65:=by rw [ha3];rfl
  have t2:a3.tmps.getD 2 undef=.slice aa al ac:=by rw [ha3];rfl
  have t3:a3.tmps.getD 3 undef=.int .i64 fuel:=by rw [ha3];rfl
  have t4:a3.tmps.getD 4 undef=.pointer (some ⟨W.heap.size,0,none⟩):=by rw [ha3];rfl
  have t12:a3.tmps.getD 12 undef=.pointer (some ⟨mb,0,none⟩):=by rw [ha3];rfl
  have t14:a3.tmps.getD 14 undef=.int .i64 (tk:Int):=by rw [ha3];rfl
  clear ha3
  refine go_regz (S10 w2 plen tk (flatI x plen) (zs.take tk) (.pointer (some ⟨mb,0,none⟩)) fuel) [2,8,9,10,11] [51,57,58,59,15] [some (.pointer (some ⟨W.heap.size,1,none⟩)),some (.slice (some ⟨b,o,none⟩) plen pcap),none,some (.pointer (some ⟨mb,0,none⟩)),some (.int .i64 fuel),some (.slice aa al ac),some (.int .i64 (tk:Int)),some (.slice aa tk ac),none,none,none,none] mo S10.loc d3 z3 (by kernel_rfl) (fun fl w1 hfl b' _=>S10.start b' (fun i hi=>hfl i hi)) (
   zc (@fun fl ax wx cx=>cx.v (ex_fa rfl (cx.rq 4 t4) (faMT24_1_0 _ _)) rfl rfl) <|
   zc (@fun fl ax wx cx=>cx.v (ex_ld rfl (cx.u 0 rfl) (brow cx.S.1 rw2) rfl Tryz.isAgg22) rfl rfl) <|
   zc (@fun fl ax wx cx=>(by
       have f8:fl 8=false:=(cx.later 8 (by kernel_rfl))
       have f9:fl 9=false:=(cx.later 9 (by kernel_rfl))
       have f10:=S10.no cx.clo f9
       exact cx.ct rfl rfl (args1 (cx.u 0 rfl)) Tryz.func27 (by decide +kernel) rfl rfl ((CLI.out wx (HI.out _ (bx2.trans (cx.S.1.mono bx2.size)))).mono (by
         rintro e w' ⟨vx,rfl,own,bel⟩
         exact ⟨vx,rfl,trivial,S10.cI cx.S f8 f9 f10.1 f10.2 bel own (slot_new cx.sz rfl)⟩)))) <|
   zc (@fun fl ax wx cx=>cx.v (ex_mv rfl (cx.rq 12 t12)) rfl rfl) <|
   zc (@fun fl ax wx cx=>cx.v (ex_mv rfl (cx.rq 3 t3)) rfl rfl) <|
   zc (@fun fl ax wx cx=>cx.v (ex_mv rfl (cx.rq 2 t2)) rfl rfl) <|
   zc (@fun fl ax wx cx=>cx.v (ex_mv rfl (cx.rq 14 t14)) rfl rfl) <|
   zc (@fun fl ax wx cx=>cx.v (ex_slW rfl (cx.u 0 rfl) (cx.u 1 rfl) e4) rfl rfl) <|
   zc (@fun fl ax wx cx=>(by
       have f9:fl 9=false:=(cx.later 9 (by kernel_rfl))
       have f10:=S10.no cx.clo f9
       exact cx.ct rfl rfl (args1 (cx.u 0 rfl)) Tryz.func28 (by decide +kernel) rfl rfl ((CLW.out wx (HA.out _ (bx2.trans (cx.S.1.mono bx2.size)))).mono (by
         rintro e w' ⟨vx,rfl,own,bel⟩
         exact ⟨vx,rfl,trivial,S10.cW cx.S (cx.did 1 rfl rfl) f9 f10.1 f10.2 bel own (slot_new cx.sz rfl) (slot_old rfl)⟩)))) <|
   zc (@fun fl ax wx cx=>(by
       have f10:fl 10=false:=(cx.later 10 (by kernel_rfl))
       have f11:fl 11=false:=not_yet cx.clo f10 (by kernel_rfl)
       obtain ⟨sa,sl,sc,e51⟩:=own_is (cx.S.2.1 (cx.did 0 rfl rfl))
       obtain ⟨ta,tl,tc,e57⟩:=own_is (cx.S.2.2.1 (cx.did 3 rfl rfl))
       exact cx.vt (v:=.agg (cells0 (slotOf ax 51) (.pointer (some ⟨mb,0,none⟩)) fuel (slotOf ax 57))) rfl (by rw [e51,e57];exact exec_build (cx.is rfl) (parts4 e51 (cx.u 1 rfl) (cx.u 2 rfl) e57) (by kernel_rfl)) rfl rfl trivial (S10.bld cx.S (cx.did 0 rfl rfl) (cx.did 3 rfl rfl) f10 f11 (slot_new cx.sz rfl) (slot_old rfl) (slot_old rfl)))) <|
   zc (@fun fl ax wx cx=>(by
       have h9:fl 9=true:=cx.did 0 rfl rfl
       have h58:=cx.S.2.2.2.1 h9
       have f8:fl 8=true:=cx.clo 9 _ rfl h9 _ (Array.mem_of_getElem? (i:=3) rfl) rfl
       have f2:fl 2=true:=cx.clo 9 _ rfl h9 _ (Array.mem_of_getElem? (i:=0) rfl) rfl
       exact cx.vt rfl (by simp [execOp,Act.eval,(show ax.tmps.getD 58 undef=_ from h58),go_sem]) rfl rfl trivial (S10.box cx.S f2 f8 h9 (cx.later 11 (by kernel_rfl)) (slot_new cx.sz rfl) (slot_old rfl) (slot_old rfl) (slot_old rfl)))) <|
   zc (@fun fl ax wx cx=>cx.vt rfl (ex_as (x:=.tmp 59) (cx.is rfl) rfl) rfl rfl trivial (S10.asg cx.S (slot_new cx.sz rfl) (slot_old rfl) (slot_old rfl) (slot_old rfl) (slot_old rfl))) <|
   zn) ?_
  intro a31 w31 f31
  obtain ⟨fl4,hf4,hs4⟩:=f31.s
  have o51:=hs4.2.1 (hf4 2 (by decide))
  have o57:=hs4.2.2.1 (hf4 8 (by decide))
  obtain ⟨g,u59,lg,rg⟩:=hs4.2.2.2.2.1 (hf4 10 (by decide))
  have u15:a31.tmps.getD 15 undef=.pointer (some ⟨g,0,none⟩):=(hs4.2.2.2.2.2 (hf4 11 (by decide))).trans u59
  have m0:Trn [g] w31 w31:=Trn.refl w31
  have bx3:=bx2.trans (hs4.1.mono bx2.size)
  have mm3:Mem (newMem mc 0 cl false cf) (fun _=>0) w31 mb:=Mem.below ⟨M4.out,M5.out,fun i h=>absurd h (by show ¬ i < 0;omega)⟩ hs4.1
  generalize slotOf a31 51=pv at o51 rg
  generalize slotOf a31 57=wv at o57 rg
  have W3:=Lib.hid hs4.1.size
  clear hs4
  apply_assumption
  have rgM:w31.heap[g]?=some (.cells ((⟨pv,.pointer (some ⟨mb,0,none⟩),fun _=>0,0,0,fuel,wv,.slice none 0 0,0⟩:Mo)).cells 78 (0,0)):=rg
  obtain ⟨pa,pc,e51,hpc,cur,rpa,hcur⟩:=own_some51 o51 h64.1
  refine wp_seq ?_
  refine go_regz (S1 1 g w31 (((⟨pv,.pointer (some ⟨mb,0,none⟩),fun _=>0,0,0,fuel,wv,.slice none 0 0,0⟩:Mo)).put 1 2097152).cells 78) [1] [] [some (.pointer (some ⟨g,0,none⟩)),none] mo S1.loc f31.d f31.z (by kernel_rfl) (fun fl w1 hfl b' _=>S1.start b' (hfl 1 (by decide))) (
   zc (@fun fl ax wx cx=>cx.v (ex_mv rfl (cx.rq 15 u15)) rfl rfl) <|
   zc (@fun fl ax wx cx=>cx.ct rfl rfl (args3 (cx.u 0 rfl) rfl rfl) Tryz.func29 (by decide +kernel) rfl rfl ((put_any ((⟨pv,.pointer (some ⟨mb,0,none⟩),fun _=>0,0,0,fuel,wv,.slice none 0 0,0⟩:Mo)) g 1 2097152 wx (brow (cx.S.was cx.fi) rgM) (by omega)).mono (by
       rintro e w' ⟨⟨vx,rfl⟩,r9,t9⟩
       exact ⟨vx,rfl,trivial,S1.turn cx.S cx.fi (But.trn t9) r9⟩))) <|
   zn) ?_
  intro a32 w32 f32
  obtain ⟨fl32,hf32,hs32⟩:=f32.s
  obtain ⟨tr32,bg32⟩:=S1.fin hs32 (hf32 1 (by decide))
  have k32:=m0.trans tr32
  refine wp_seq ?_
  have s15_1:=f32.q 15 u15
  refine go_regz (S1 1 g w32 ((((⟨pv,.pointer (some ⟨mb,0,none⟩),fun _=>0,0,0,fuel,wv,.slice none 0 0,0⟩:Mo)).put 1 2097152).put 10 3145792).cells 78) [1] [] [some (.pointer (some ⟨g,0,none⟩)),none] mo S1.loc f32.d f32.z (by kernel_rfl) (fun fl w1 hfl b' _=>S1.start b' (hfl 1 (by decide))) (
   zc (@fun fl ax wx cx=>cx.v (ex_mv rfl (cx.rq 15 s15_1)) rfl rfl) <|
   zc (@fun fl ax wx cx=>cx.ct rfl rfl (args3 (cx.u 0 rfl) rfl rfl) Tryz.func29 (by decide +kernel) rfl rfl ((put_any (((⟨pv,.pointer (some ⟨mb,0,none⟩),fun _=>0,0,0,fuel,wv,.slice none 0 0,0⟩:Mo)).put 1 2097152) g 10 3145792 wx (brow (cx.S.was cx.fi) bg32) (by omega)).mono (by
       rintro e w' ⟨⟨vx,rfl⟩,r9,t9⟩
       exact ⟨vx,rfl,trivial,S1.turn cx.S cx.fi (But.trn t9) r9⟩))) <|
   zn) ?_
  intro a33 w33 f33
  obtain ⟨fl33,hf33,hs33⟩:=f33.s
  obtain ⟨tr33,bg33⟩:=S1.fin hs33 (hf33 1 (by decide))
  have k33:=k32.trans tr33
  refine wp_seq ?_
  have s15_2:=f33.q 15 s15_1
  refine go_reg [] [] [some (pt g 0),some (pt g 0),some (.int .i64 0)] mo f33.d f33.z (bare_of k33) (by kernel_rfl) trivial (
   hk (fun cx=>cx.v (ex_mv rfl (cx.rq 15 s15_2)) rfl rfl) <|
   hk (fun cx=>cx.v (ex_as rfl (cx.u 0 rfl)) rfl rfl) <|
   hk (fun cx=>cx.v (ex_as rfl rfl) rfl rfl) <|
   hn) ?_
  intro a34 w34 f34
  have k34:=k33.trans (f34.trn (bare_of k33) trivial)
  refine wp_ret ?_
  try simp only [Exit.inBlock,Exit.then]
  refine bodyPost_ret (res_tt (fn:=Tryz.f14) rfl (f34.v 1 rfl rfl rfl) (f34.v 2 rfl rfl rfl)) f34.d ?_
  have b_g_3:=f34.k bg33
  have hgt:∀ j ∈ [g],∃ c ty fr,w31.heap[j]?=some (.cells c ty fr) ∧ ty=78:=fun j hj=>by
    rw [List.mem_singleton] at hj;subst hj
    exact ⟨_,_,_,rgM,rfl⟩
  have hnm:=ne_of2 hgt (U:=111) (V:=5) (by decide) (by decide)
  refine ⟨⟨g,mb,W.heap.size,pa,0,plen,pc,x,fun _=>0⟩,mc,rfl,rfl,rfl,rfl,hpc,rfl,below_trn bx3 k34 (Nat.le_trans bx2.size lg),⟨⟨wv,.slice none 0 0,?_,?_,⟨[],rfl,World.ownsRow_nil _ _ _ _,fun p hp=>by cases hp⟩⟩,?_,Mem.trn mm3 k34 hnm,ini_words _ _ _ _ _,Nat.le_trans bx2.size lg,Nat.le_trans bx1.size m1,Nat.le_trans bx3.size (k34).size⟩⟩
  · subst e51;exact b_g_3
  · refine ansR_own (own_trn o57 k34 (fun j hj hg=>?_)) (by show (zs.take tk).length=tk;rw [List.length_take,← hzl.out];omega) (fun z hz2=>hz z (List.mem_of_mem_take hz2))
    rw [List.mem_singleton] at hg
    exact own_ne o57 rgM (by decide) j hj hg
  · refine ⟨cur,(k34).row rpa (by simpa using row_ne rpa rgM (by decide)),fun i hi j v hv=>?_⟩
    rw [Nat.zero_add]
    exact hcur i hi j v hv
end Go.Proofs.YtigliofiojkhcaaGreat.Mdl
