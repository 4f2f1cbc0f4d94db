import Derived.Test.YtigliofiojkhcaaGreatMRn04
import Derived.Maps.AppendAt
import Derived.Laws.AppendOwnNone
import Derived.Great.BuildSlice
import Derived.Laws.Cover3
import Derived.Test.YtigliofiojkhcaaGreatMRn09
set_option linter.unusedVariables false
set_option linter.unusedSimpArgs false
set_option linter.unnecessarySimpa false
namespace Go.Proofs.YtigliofiojkhcaaGreat.Trc
open Go.RowKit Go.Maps
set_option linter.unusedVariables false
def cellsE:List (Ev × (Option Addr × Nat)) → List Value
  | []=>[]
  | p :: l=>cellE p.1 p.2.1 p.2.2 ++ cellsE l
theorem cellsE_get:∀ {l:List (Ev × (Option Addr × Nat))} {i k:Nat} {p:Ev × (Option Addr × Nat)},l[i]?=some p → k < 3 → (cellsE l)[i * 3 + k]?=(cellE p.1 p.2.1 p.2.2)[k]?
  | [],i,k,p,h,_=>by simp at h
  | q :: l,0,k,p,h,hk=>by
    obtain rfl:q=p:=by simpa using h
    show (cellE q.1 q.2.1 q.2.2 ++ cellsE l)[0 * 3 + k]?=_
    rw [Nat.zero_mul,Nat.zero_add,List.getElem?_append_left (by show k < 3;exact hk)]
  | q :: l,i + 1,k,p,h,hk=>by
    show (cellE q.1 q.2.1 q.2.2 ++ cellsE l)[(i + 1) * 3 + k]?=_
    rw [List.getElem?_append_right (by show 3 ≤ _;omega),show (i + 1) * 3 + k - (cellE q.1 q.2.1 q.2.2).length=i * 3 + k by show (i + 1) * 3 + k - 3=_;omega]
    exact cellsE_get (by simpa using h) hk
theorem own_below {w w':World} {base:Nat} {e:TypeId} {s n:Nat} {v:Value} {xs:List Value} (h:w.ownsRow base e s v n xs) (b:Below w.heap.size w w'):w'.ownsRow base e s v n xs:=by
  refine ⟨h.1,?_⟩
  rcases h.2 with h | ⟨g,cap,cur,e1,e2,e3,r⟩
  · exact .inl h
  · exact .inr ⟨g,cap,cur,e1,e2,(b.block g (Array.getElem?_eq_some_iff.1 e3).1).trans e3,r⟩
theorem WordsAt.grown {w w':World} {row:Option Nat} {a:Option Addr} {len cap:Nat} {zs:List Int} (h:WordsAt w a len cap zs) (g:w.grownBy w' row) (hr:0 < len → ∀ ad,a=some ad → row ≠ some ad.block):WordsAt w' a len cap zs:=
  ⟨h.size,h.le,h.fit,fun hp=>by
    obtain ⟨b',o,e,hc⟩:=h.here hp
    exact ⟨b',o,e,fun j z hz=>g.cell (hc j z hz) (Ne.symm (by have:=hr hp _ e;exact this))⟩,h.nilc⟩
theorem WordsAt.lt {w:World} {a:Option Addr} {len cap:Nat} {zs:List Int} (h:WordsAt w a len cap zs) (hp:0 < len) (ad:Addr) (e:a=some ad):ad.block < w.heap.size:=by
  obtain ⟨b',o,e',hc⟩:=h.here hp
  rw [e] at e'
  injection e' with e'
  subst e'
  have:0 < zs.length:=by rw [← h.size];exact hp
  exact lt_of_cell (hc 0 _ (List.getElem?_eq_getElem this))
structure OwnE (base:Nat) (w:World) (v:Value) (ps:List (Ev × (Option Addr × Nat))):Prop where
  row:w.ownsRow base 103 3 v ps.length (cellsE ps)
  args:∀ p ∈ ps,WordsAt w p.2.1 p.1.args.length p.2.2 p.1.args
  old:∀ p ∈ ps,0 < p.1.args.length → ∀ ad,p.2.1=some ad → ad.block < base
theorem OwnE.below {base:Nat} {w w':World} {v:Value} {ps:List (Ev × (Option Addr × Nat))} (h:OwnE base w v ps) (b:Below w.heap.size w w'):OwnE base w' v ps:=
  ⟨own_below h.row b,fun p hp=>(h.args p hp).below b,h.old⟩
theorem OwnE.evs {base:Nat} {w:World} {v:Value} {ps:List (Ev × (Option Addr × Nat))} (h:OwnE base w v ps):∃ a cap,v=.slice a ps.length cap ∧ EvsAt w a ps.length cap (ps.map (·.1)):=by
  rcases h.row.2 with ⟨rfl,h0⟩ | ⟨g,cap,cur,rfl,e2,e3,e4,e5,e6,e7⟩
  · exact ⟨none,0,by rw [h0],by rw [h0];exact ⟨by simp [h0],Nat.le_refl _,by omega,fun h=>absurd h (by omega),fun _=>rfl⟩⟩
  · refine ⟨_,cap,rfl,⟨by simp,e4,by unfold maxLen at e5;omega,fun _=>⟨g,0,rfl,fun i x hx=>?_⟩,fun h=>by cases h⟩⟩
    rw [List.getElem?_map] at hx
    cases hq:ps[i]? with
    | none=>rw [hq] at hx;cases hx
    | some q=>
      rw [hq] at hx
      obtain rfl:q.1=x:=by simpa using hx
      refine ⟨q.2.1,q.2.2,?_,h.args q (List.mem_of_getElem? hq)⟩
      intro k u hu
      have hk:k < 3:=(List.getElem?_eq_some_iff.1 hu).1
      have hi:i < ps.length:=(List.getElem?_eq_some_iff.1 hq).1
      have h1:=cellsE_get hq hk
      rw [← e7,List.getElem?_take_of_lt (by omega),Array.getElem?_toList] at h1
      simp only [World.cell?,e3,Nat.zero_add]
      rw [h1];exact hu
theorem info_evt:∃ i,Tryz.prog.info? 103=some i ∧ i.zero=some (.agg #[.int .i64 0,.slice none 0 0,.int .u64 0]) ∧ i.size=3 ∧ i.bytes=40:=by
  have h:(Tryz.prog.info? 103).map (fun i=>(i.zero,i.size,i.bytes))=some (some (.agg #[.int .i64 0,.slice none 0 0,.int .u64 0]),3,40):=by kernel_rfl
  cases hi:Tryz.prog.info? 103 with
  | none=>rw [hi] at h;simp at h
  | some i=>rw [hi] at h;simp at h;exact ⟨i,rfl,h.1,h.2.1,h.2.2⟩
end Go.Proofs.YtigliofiojkhcaaGreat.Trc
namespace Go.Proofs.YtigliofiojkhcaaGreat.Trc
open Go.RowKit Go.Maps
set_option linter.unusedVariables false
set_option maxRecDepth 100000
theorem eql_nil {P:Program} (t e:TypeId) (a:Option Addr) (l c:Nat) (h:P.underlying t=some (.slice e)) (w:World):(binOp .eql t (.slice a l c) (.slice none 0 0)).run P w=.ok (.bool a.isNone) w:=by
  simp only [binOp]
  simp [run_equal_slice_nil w t e a l c h]
theorem ints_one (k:IntKind) (zs:List Int):∀ u ∈ zs.map (Value.int k),u.oneCell'=true:=by
  intro u hu
  obtain ⟨z,_,rfl⟩:=List.mem_map.1 hu
  rfl
theorem own_empty (w:World) (base:Nat) (e:TypeId) (s:Nat) (hb:base ≤ w.heap.size):(w.alloc (.cells #[] e)).ownsRow base e s (.slice (some ⟨w.heap.size,0,none⟩) 0 0) 0 []:=
  ⟨by simp,.inr ⟨w.heap.size,0,#[],rfl,hb,heap_last _ _ _ rfl,Nat.le_refl _,by unfold maxLen;omega,by simp,by simp⟩⟩
theorem info_u8:∃ i,Tryz.prog.info? 5=some i ∧ i.zero=some (.int .u8 0) ∧ i.size=1 ∧ i.bytes=1:=by
  have h:(Tryz.prog.info? 5).map (fun i=>(i.zero,i.size,i.bytes))=some (some (.int .u8 0),1,1):=by kernel_rfl
  cases hi:Tryz.prog.info? 5 with
  | none=>rw [hi] at h;simp at h
  | some i=>rw [hi] at h;simp at h;exact ⟨i,rfl,h.1,h.2.1,h.2.2⟩
theorem info_u64:∃ i,Tryz.prog.info? 30=some i ∧ i.zero=some (.int .u64 0) ∧ i.size=1 ∧ i.bytes=8:=by
  have h:(Tryz.prog.info? 30).map (fun i=>(i.zero,i.size,i.bytes))=some (some (.int .u64 0),1,8):=by kernel_rfl
  cases hi:Tryz.prog.info? 30 with
  | none=>rw [hi] at h;simp at h
  | some i=>rw [hi] at h;simp at h;exact ⟨i,rfl,h.1,h.2.1,h.2.2⟩
set_option maxHeartbeats 2000000 in
theorem cloneW_any (a:Option Addr) (len cap:Nat) (zs:List Int) (W:World) (h:WordsAt W a len cap zs) (hfew:len ≤ 1000):
    Calls Tryz.prog 28 #[.slice a len cap] W fun e w'=>∃ v,e=.returned v ∧ w'.ownsRow W.heap.size 30 1 v len (zs.map (.int .u64)) ∧ Below W.heap.size W w':=by
  cases a with
  | none=>
    obtain rfl:cap=0:=h.nilc rfl
    obtain rfl:len=0:=by have:=h.le;omega
    obtain rfl:zs=[]:=List.eq_nil_of_length_eq_zero h.size.symm
    clear h
    have en:=fun w=>eql_nil (P:=Tryz.prog) 26 30 none 0 0 Tryz.underlying26 w
    simp only [Option.isNone_none] at en
    go_enter Tryz.func28,Tryz.ntmps28
    go_wp2_with fail
    go_ret
    exact ⟨_,rfl,World.ownsRow_nil _ _ _ _,Below.refl _ _⟩
  | some ad=>
    obtain ⟨ti,i1,i2,i3,i4⟩:=info_u64
    have TI:=Lib.hid (And.intro i1 (And.intro i2 (And.intro i3 i4)))
    clear i1 i2 i3 i4
    have HN:Hid (∀ j u,(zs.map (Value.int .u64))[j]?=some u → (W.alloc (.cells #[] 30)).cell? (ad.add j)=some u):=by
      intro j u hu
      have hj:j < zs.length:=by simpa using (List.getElem?_eq_some_iff.1 hu).1
      obtain ⟨b,o,e,hc⟩:=h.here (by rw [h.size];omega)
      injection e with e
      subst e
      have hcj:=hc j _ (List.getElem?_eq_getElem hj)
      rw [Addr.add_mid,((Below.refl W.heap.size W).alloc (Nat.le_refl _) (.cells #[] 30)).cell (p:=⟨b,o + j,none⟩) (lt_of_cell hcj),hcj]
      rw [List.getElem?_map,List.getElem?_eq_getElem hj] at hu
      exact hu
    have HS:=Lib.hid h.size
    clear h
    have en:=fun w=>eql_nil (P:=Tryz.prog) 26 30 (some ad) len cap Tryz.underlying26 w
    simp only [Option.isNone_some] at en
    go_enter Tryz.func28,Tryz.ntmps28
    go_wp2_with (at_builtin;refine wpList_append_own_at _ rfl _ _ 26 rfl W.heap.size 30 ti _ 1 8 Tryz.underlying26 TI.out.1 TI.out.2.1 TI.out.2.2.1 TI.out.2.2.2 rfl (by decide) _ 0 [] rfl (own_empty W W.heap.size _ _ (Nat.le_refl _)) ad len cap (zs.map (Value.int .u64)) rfl (by rw [List.length_map,← HS.out];simp) HN.out (ints_one _ _) (by unfold maxLen;omega) (by omega) (by simp) ?_)
    intro v' w' hr hg hn hat
    have B:=Lib.hid (((Below.refl W.heap.size W).alloc (Nat.le_refl _) (.cells #[] 30)).grown hg (by simp) (fun j hj=>by simp [Value.ownBlock] at hj;omega))
    have R:=Lib.hid hr
    clear hr hg hn hat HN
    go_wp2_with fail
    go_ret
    exact ⟨_,rfl,R.out,B.out⟩
theorem exec_store1 {P:Program} {ρ:Operand → Value} {o:Oper} {w:World} (ty:TypeId) (x y:Operand) (ho:o.op=.store ty x y) (g i:Nat) (v:Value) (hx:ρ x=.pointer (some ⟨g,i,none⟩)) (hy:ρ y=v) (hv:v.cells=#[v]) (h1:v.oneCell'=true)
    (hi:(P.info? ty).map (·.size)=some 1) (hc:(w.cell? ⟨g,i,none⟩).isSome=true) (hf:w.frozen? ⟨g,i,none⟩=false):(execOp ρ o).run P w=.ok .skip (w.setCell ⟨g,i,none⟩ v):=by
  have e:∀ p,storeVar ty p v=storeVar ty p (.agg #[v]):=fun p=>by unfold storeVar;rw [hv];rfl
  have ht:w.there g i (#[v]:Array Value).size:=fun j hj=>by
    have:j=0:=by simpa using hj
    subst this
    exact ⟨by simpa using hc,by simpa using hf⟩
  unfold execOp
  simp only [ho,hx,hy,Instr.storeAt,Instr.sureAddr,Sem.run_bind,Sem.run_pure,Result.andThen_ok,e,run_storeVar_mid w g i ty #[v] ht hi (by simp [h1])]
  rfl
end Go.Proofs.YtigliofiojkhcaaGreat.Trc
namespace Go.Proofs.YtigliofiojkhcaaGreat.Mdl
open Go.RowKit
set_option linter.unusedVariables false
set_option maxRecDepth 100000
def TabQ (l:List (Value → Prop)) (i:Nat) (v:Value):Prop:=match l[i]? with
  | some p=>p v
  | none=>True
def SL (L:List Nat) (k:Nat) (P0 P1:World → Prop) (fl:Nat → Bool) (w:World):Prop:=(fl k=false ∧ P0 w) ∨ (fl k=true ∧ (∀ l ∈ L,fl l=true) ∧ P1 w)
section
variable {L:List Nat} {k:Nat} {P0 P1:World → Prop} {fl:Nat → Bool} {w w':World}
theorem SL.start (h:fl k=false) (p:P0 w):SL L k P0 P1 fl w:=.inl ⟨h,p⟩
theorem SL.was (h:SL L k P0 P1 fl w) {i:Nat} (hi:i ∈ L) (hf:fl i=false):fl k=false ∧ P0 w:=by
  rcases h with h | ⟨_,h,_⟩
  · exact h
  · have:=h i hi;rw [hf] at this;cases this
theorem SL.atK (h:SL L k P0 P1 fl w) (hf:fl k=false):P0 w:=by
  rcases h with h | ⟨h,_,_⟩
  · exact h.2
  · rw [hf] at h;cases h
theorem SL.done (h:SL L k P0 P1 fl w) (hf:fl k=true):P1 w:=by
  rcases h with ⟨h,_⟩ | ⟨_,_,h⟩
  · rw [hf] at h;cases h
  · exact h
theorem SL.other {i:Nat} (h:SL L k P0 P1 fl w) (hi:i ≠ k):SL L k P0 P1 (fun j=>if j=i then true else fl j) w:=by
  rcases h with ⟨h,p⟩ | ⟨h,q,p⟩
  · exact .inl ⟨by simp only [if_neg (Ne.symm hi)];exact h,p⟩
  · refine .inr ⟨by simp only [if_neg (Ne.symm hi)];exact h,fun l hl=>?_,p⟩
    by_cases e:l=i
    · simp only [if_pos e]
    · simp only [if_neg e];exact q l hl
theorem SL.moved {i:Nat} (hk:fl k=false) (hi:i ≠ k) (p:P0 w'):SL L k P0 P1 (fun j=>if j=i then true else fl j) w':=.inl ⟨by simp only [if_neg (Ne.symm hi)];exact hk,p⟩
theorem SL.to (q:∀ l ∈ L,fl l=true) (p:P1 w'):SL L k P0 P1 (fun j=>if j=k then true else fl j) w':=by
  refine .inr ⟨by simp,fun l hl=>?_,p⟩
  by_cases e:l=k
  · simp only [if_pos e]
  · simp only [if_neg e];exact q l hl
end
structure But (g:Nat) (w w':World):Prop where
  os:w'.os=w.os
  tape:w'.tape=w.tape
  output:w'.output=w.output
  size:w.heap.size ≤ w'.heap.size
  block:∀ k,k < w.heap.size → k ≠ g → w'.heap[k]?=w.heap[k]?
theorem But.of_below {g:Nat} {w w':World} (b:Below w.heap.size w w'):But g w w':=⟨b.os,b.tape,b.output,b.size,fun k hk _=>b.block k hk⟩
theorem But.trans {g:Nat} {w w' w2:World} (h:But g w w') (b:But g w' w2):But g w w2:=⟨b.os.trans h.os,b.tape.trans h.tape,b.output.trans h.output,Nat.le_trans h.size b.size,fun k hk hne=>(b.block k (by have:=h.size;omega) hne).trans (h.block k hk hne)⟩
theorem But.set (w:World) (g i:Nat) (v:Value):But g w (w.setCell ⟨g,i,none⟩ v):=⟨rfl,rfl,rfl,by rw [Deep.nblk_setCell];exact Nat.le_refl _,fun k _ hne=>setCell_past _ _ _ _ hne⟩
def Mo.setR (s:Mo) (n:Nat) (v:Int):Mo:={ s with r:=fun k=>if k=n then v else s.r k }
def Mo.put (s:Mo) (n:Nat) (v:Int):Mo:={ s.setR n v with set:=orM s.set (onlyI n) }
theorem Mo.setR_in {s:Mo} {w:World} {g:Nat} (h:s.in_ w g) (n:Nat) (v:Int) (hn:n < 11):(s.setR n v).in_ (w.setCell ⟨g,2 + n,none⟩ (.int .u64 v)) g:=by
  have e:=setCell_row h (2 + n) (.int .u64 v)
  unfold Mo.in_
  rw [e]
  have c:n=0 ∨ n=1 ∨ n=2 ∨ n=3 ∨ n=4 ∨ n=5 ∨ n=6 ∨ n=7 ∨ n=8 ∨ n=9 ∨ n=10:=by omega
  rcases c with rfl | rfl | rfl | rfl | rfl | rfl | rfl | rfl | rfl | rfl | rfl <;> rfl
theorem Mo.set_in {s:Mo} {w:World} {g:Nat} (h:s.in_ w g) (m:Int):({ s with set:=m }:Mo).in_ (w.setCell ⟨g,13,none⟩ (.int .i64 m)) g:=by
  have e:=setCell_row h 13 (.int .i64 m)
  unfold Mo.in_
  rw [e];rfl
theorem Mo.at_in {s:Mo} {w:World} {g:Nat} (h:s.in_ w g) (m:Int):({ s with at_:=m }:Mo).in_ (w.setCell ⟨g,14,none⟩ (.int .i64 m)) g:=by
  have e:=setCell_row h 14 (.int .i64 m)
  unfold Mo.in_
  rw [e];rfl
theorem Mo.unfrozen {s:Mo} {w:World} {g:Nat} (h:s.in_ w g) (i:Nat):w.frozen? ⟨g,i,none⟩=false:=by
  unfold Mo.in_ at h
  simp [World.frozen?,h]
set_option maxHeartbeats 2000000 in
theorem put_any (s:Mo) (g n:Nat) (v:Int) (W:World) (h:s.in_ W g) (hn:n < 11):
    Calls Tryz.prog 29 #[.pointer (some ⟨g,0,none⟩),.int .i8 n,.int .u64 v] W fun e w'=>(∃ u,e=.returned u) ∧ (s.put n v).in_ w' g ∧ But g W w':=by
  have O:=Lib.hid (fun W=>only_any n W (by omega) (by omega))
  have c:=s.reg h n hn
  have f:=s.unfrozen h (2 + n)
  have HW:=Lib.hid (But.set W g (2 + n) (.int .u64 v))
  have HI0:=s.setR_in h n v hn
  clear h
  go_enter Tryz.func29,Tryz.ntmps29
  go_wp2_with fail
  have HI:=Lib.hid HI0;clear HI0
  generalize W.setCell ⟨g,2 + n,none⟩ (.int .u64 v)=w1 at *
  have HE:Hid (s.put n v={ s.setR n v with set:=orM (s.setR n v).set (onlyI n) }):=Lib.hid rfl
  generalize s.setR n v=s1 at *
  obtain ⟨z,hz⟩:∃ z,z=s1.set:=⟨_,rfl⟩
  rw [← hz] at HE
  have HZ:Hid (∀ w,s1.in_ w g → w.cell? ⟨g,13,none⟩=some (.int .i64 z)):=Lib.hid (fun w h=>by rw [hz];exact s1.c13 h)
  clear hz
  refine wp_region_invl (SL [3] 9 (fun w=>s1.in_ w g ∧ But g w1 w) (fun w=>({ s1 with set:=orM z (onlyI n) }:Mo).in_ w g ∧ But g w1 w)) (TabQ [fun v=>v=.pointer (some ⟨g,0,none⟩),fun v=>v=.pointer (some ⟨g,0,none⟩),fun v=>v=.pointer (some ⟨g,13,none⟩),fun v=>v=.int .i64 z,fun v=>v=.int .i8 n,fun v=>v=.int .i64 (onlyI n),fun v=>v=.int .i64 (orM z (onlyI n)),fun v=>v=.pointer (some ⟨g,0,none⟩),fun v=>v=.pointer (some ⟨g,13,none⟩),fun _=>True]) (by kernel_rfl) (back_of (by kernel_rfl)) (dst_of (by kernel_rfl)) (in_of (by kernel_rfl)) (fun fl h=>SL.start (h 9 (by decide)) ⟨HI.out,But.of_below (Below.drew (Below.refl _ _))⟩) ?hop ?hq
  case hop=>
    intro i o a w fl ho hS hfi hdf hsz hrest hdone
    have t0:a.tmps.getD 0 undef=.pointer (some ⟨g,0,none⟩):=hrest 0 (not_of (by kernel_rfl))
    have t1:a.tmps.getD 1 undef=.int .i8 n:=hrest 1 (not_of (by kernel_rfl))
    have hs:a.tmps.size=21:=hsz.trans rfl
    have hi:i < 10:=(Array.getElem?_eq_some_iff.1 ho).1
    clear hrest hsz hdf
    obtain rfl | rfl | rfl | rfl | rfl | rfl | rfl | rfl | rfl | rfl:i=0 ∨ i=1 ∨ i=2 ∨ i=3 ∨ i=4 ∨ i=5 ∨ i=6 ∨ i=7 ∨ i=8 ∨ i=9:=by omega
    · obtain rfl:=Option.some.inj (show some _=some o from ho)
      refine wpOp_val (v:=.pointer (some ⟨g,0,none⟩)) (w':=w) rfl rfl ?_ ⟨_,rfl,?_,hS.other (by decide)⟩
      · simp [execOp,Act.eval,t0]
      · rw [own_put rfl (by rw [hs];omega)];exact rfl
    · obtain rfl:=Option.some.inj (show some _=some o from ho)
      have s12:a.tmps.getD 12 undef=.pointer (some ⟨g,0,none⟩):=(hdone _ (Array.mem_of_getElem? (i:=0) rfl) rfl).2 _ rfl
      refine wpOp_val (v:=.pointer (some ⟨g,0,none⟩)) (w':=w) rfl rfl ?_ ⟨_,rfl,?_,hS.other (by decide)⟩
      · simp [execOp,Act.eval,s12,go_sem]
      · rw [own_put rfl (by rw [hs];omega)];exact rfl
    · obtain rfl:=Option.some.inj (show some _=some o from ho)
      have s13:a.tmps.getD 13 undef=.pointer (some ⟨g,0,none⟩):=(hdone _ (Array.mem_of_getElem? (i:=0) rfl) rfl).2 _ rfl
      refine wpOp_val (v:=.pointer (some ⟨g,13,none⟩)) (w':=w) rfl rfl ?_ ⟨_,rfl,?_,hS.other (by decide)⟩
      · simp [execOp,Act.eval,s13,go_sem]
      · rw [own_put rfl (by rw [hs];omega)];exact rfl
    · obtain rfl:=Option.some.inj (show some _=some o from ho)
      have s14:a.tmps.getD 14 undef=.pointer (some ⟨g,13,none⟩):=(hdone _ (Array.mem_of_getElem? (i:=0) rfl) rfl).2 _ rfl
      refine wpOp_val (v:=.int .i64 z) (w':=w) rfl rfl ?_ ⟨_,rfl,?_,hS.other (by decide)⟩
      · (have hc:=HZ.out w (hS.was (i:=3) (by simp) hfi).2.1;simp [execOp,Act.eval,s14,hc,go_sem])
      · rw [own_put rfl (by rw [hs];omega)];exact rfl
    · obtain rfl:=Option.some.inj (show some _=some o from ho)
      refine wpOp_val (v:=.int .i8 n) (w':=w) rfl rfl ?_ ⟨_,rfl,?_,hS.other (by decide)⟩
      · simp [execOp,Act.eval,t1]
      · rw [own_put rfl (by rw [hs];omega)];exact rfl
    · obtain rfl:=Option.some.inj (show some _=some o from ho)
      have s16:a.tmps.getD 16 undef=.int .i8 n:=(hdone _ (Array.mem_of_getElem? (i:=0) rfl) rfl).2 _ rfl
      refine wpOp_call (f:=62) (args:=#[.int .i8 n]) rfl rfl ?_ ?_
      · simp [go_sem,execOp,Act.eval,Deferred.ofValue,callFunc,Tryz.func62,Tryz.f62,s16,resolve,invoke]
      · refine (O.out w).mono ?_
        rintro e w' ⟨rfl,rfl⟩
        refine ⟨_,rfl,_,rfl,?_,hS.other (by decide)⟩
        rw [own_put rfl (by rw [hs];omega)];exact rfl
    · obtain rfl:=Option.some.inj (show some _=some o from ho)
      have s15:a.tmps.getD 15 undef=.int .i64 z:=(hdone _ (Array.mem_of_getElem? (i:=0) rfl) rfl).2 _ rfl
      have s17:a.tmps.getD 17 undef=.int .i64 (onlyI n):=(hdone _ (Array.mem_of_getElem? (i:=1) rfl) rfl).2 _ rfl
      refine wpOp_val (v:=.int .i64 (orM z (onlyI n))) (w':=w) rfl rfl ?_ ⟨_,rfl,?_,hS.other (by decide)⟩
      · simp [execOp,Act.eval,s15,s17,go_sem,orM]
      · rw [own_put rfl (by rw [hs];omega)];exact rfl
    · obtain rfl:=Option.some.inj (show some _=some o from ho)
      have s12:a.tmps.getD 12 undef=.pointer (some ⟨g,0,none⟩):=(hdone _ (Array.mem_of_getElem? (i:=0) rfl) rfl).2 _ rfl
      refine wpOp_val (v:=.pointer (some ⟨g,0,none⟩)) (w':=w) rfl rfl ?_ ⟨_,rfl,?_,hS.other (by decide)⟩
      · simp [execOp,Act.eval,s12,go_sem]
      · rw [own_put rfl (by rw [hs];omega)];exact rfl
    · obtain rfl:=Option.some.inj (show some _=some o from ho)
      have s19:a.tmps.getD 19 undef=.pointer (some ⟨g,0,none⟩):=(hdone _ (Array.mem_of_getElem? (i:=0) rfl) rfl).2 _ rfl
      refine wpOp_val (v:=.pointer (some ⟨g,13,none⟩)) (w':=w) rfl rfl ?_ ⟨_,rfl,?_,hS.other (by decide)⟩
      · simp [execOp,Act.eval,s19,go_sem]
      · rw [own_put rfl (by rw [hs];omega)];exact rfl
    · obtain rfl:=Option.some.inj (show some _=some o from ho)
      have s20:a.tmps.getD 20 undef=.pointer (some ⟨g,13,none⟩):=(hdone _ (Array.mem_of_getElem? (i:=0) rfl) rfl).2 _ rfl
      have s18:a.tmps.getD 18 undef=.int .i64 (orM z (onlyI n)):=(hdone _ (Array.mem_of_getElem? (i:=1) rfl) rfl).2 _ rfl
      have h0:=hS.atK hfi
      have hL:∀ l ∈ [3],fl l=true:=by
        intro l hl
        simp only [List.mem_cons,List.not_mem_nil,or_false] at hl
        subst hl;exact (hdone _ (Array.mem_of_getElem? (i:=6) rfl) rfl).1
      refine wpOp_skp (w':=w.setCell ⟨g,13,none⟩ (.int .i64 (orM z (onlyI n)))) rfl rfl (Trc.exec_store1 3 _ _ rfl g 13 (.int .i64 (orM z (onlyI n))) ?_ ?_ rfl rfl (by kernel_rfl) ?_ (s1.unfrozen h0.1 13)) ⟨undef,rfl,trivial,SL.to hL ⟨s1.set_in h0.1 _,h0.2.trans (But.set _ _ _ _)⟩⟩
      · simp [Act.eval,s20]
      · simp [Act.eval,s18]
      · rw [s1.c13 h0.1];rfl
  case hq=>
    intro u9 w9 fl hfl hS hR9
    have h2:=hS.done (hfl 9 (by decide))
    clear hR9 hS hfl
    rw [show outs _ u9=[(12,u9 12),(13,u9 13),(14,u9 14),(15,u9 15),(16,u9 16),(17,u9 17),(18,u9 18),(19,u9 19),(20,u9 20)] by kernel_rfl]
    simp only [putAll,List.setIfInBounds_toArray,List.set_cons_zero,List.set_cons_succ]
    generalize u9 12=x12
    generalize u9 13=x13
    generalize u9 14=x14
    generalize u9 15=x15
    generalize u9 16=x16
    generalize u9 17=x17
    generalize u9 18=x18
    generalize u9 19=x19
    generalize u9 20=x20
    clear u9
    have H2:=Lib.hid h2;clear h2
    go_wp2_with fail
    refine ⟨rfl,.tuple #[],?_,⟨_,rfl⟩,?_,HW.out.trans H2.out.2⟩
    · first | rfl | kernel_rfl | (simp [results,Tryz.f29];done) | (simp [results,Tryz.f29,go_sem];trace_state)
    · rw [HE.out]
      exact H2.out.1
end Go.Proofs.YtigliofiojkhcaaGreat.Mdl
namespace Go.Proofs.YtigliofiojkhcaaGreat.Mdl
open Go.RowKit
set_option linter.unusedVariables false
set_option maxRecDepth 100000
set_option maxHeartbeats 1000000 in
theorem exit_any (p:Value) (x:Ins.In) (W:World):
    Calls Tryz.prog 36 #[p,.agg x.cells] W fun e w'=>e=.returned (.int .i8 1) ∧ Below W.heap.size W w':=by
  generalize x.cells=c
  go_enter Tryz.func36,Tryz.ntmps36
  go_wp2
  go_ret
  exact ⟨rfl,by first | exact Below.refl _ _ | exact below_new (Below.refl _ _) _⟩
theorem wrap_less {z:Int} (h1:1 ≤ z) (h2:z ≤ 64):IntKind.i64.wrap (z - 1)=z - 1:=by rw [IntKind.wrap_i64];omega
set_option maxHeartbeats 2000000 in
theorem continueAt_any (s:Mo) (g:Nat) (x:Ins.In) (W:World) (h:s.in_ W g) (h1:1 ≤ s.at_) (h2:s.at_ ≤ 64):
    Calls Tryz.prog 34 #[.pointer (some ⟨g,0,none⟩),.agg x.cells] W fun e w'=>e=.returned (.int .i8 0) ∧ ({ s with at_:=Ins.targetI (s.at_ - 1) x }:Mo).in_ w' g ∧ But g W w':=by
  have T:=Lib.hid (fun W=>Ins.target_any (IntKind.i64.wrap (s.at_ - 1)) x W)
  rw [← wrap_less h1 h2]
  generalize Ins.targetI (IntKind.i64.wrap (s.at_ - 1)) x=t at *
  generalize Ins.jumpsI (IntKind.i64.wrap (s.at_ - 1)) x=j at *
  have HZ0:∀ w,s.in_ w g → w.cell? ⟨g,14,none⟩=some (.int .i64 s.at_):=fun w h=>s.c14 h
  generalize s.at_=z at *
  have HZ:=Lib.hid HZ0
  clear HZ0 h1 h2
  have hlt:g < W.heap.size:=(Array.getElem?_eq_some_iff.1 h).1
  have LX:Hid (∀ (w:World) (b:Nat),w.heap[b]?=some (.cells x.cells 52 (0,0)) → (loadVar 52 ⟨b,0,none⟩).run Tryz.prog w=.ok (.agg x.cells) w):=Lib.hid (fun w b h=>Ins.load_boxed x h)
  have i9:(Tryz.prog.info? 52).map (·.size)=some x.cells.size:=Ins.info_ins
  have HB0:(W.alloc (.cells x.cells 52)).heap[W.heap.size]?=some (.cells x.cells 52 (0,0)):=heap_last W _ _ rfl
  have BW:=Lib.hid (But.of_below (g:=g) (below_new (Below.refl _ W) (.cells x.cells 52)))
  have hin:=s.below h (below_new (Below.refl _ W) (.cells x.cells 52))
  clear h
  generalize x.cells=c at *
  go_enter Tryz.func34,Tryz.ntmps34
  go_wp2_with fail
  generalize W.alloc (.cells c 52)=w0 at *
  have HB:Hid (∀ w,Below w0.heap.size w0 w → w.heap[W.heap.size]?=some (.cells c 52 (0,0))):=Lib.hid (fun w h=>(h.block _ (Array.getElem?_eq_some_iff.1 HB0).1).trans HB0)
  have HI:Hid (∀ w,Below w0.heap.size w0 w → s.in_ w g):=Lib.hid (fun w h=>s.below hin h)
  clear HB0 hin
  refine wp_region_invl (SL [4,6,7] 13 (fun w=>Below w0.heap.size w0 w) (fun w=>({ s with at_:=t }:Mo).in_ w g ∧ But g w0 w)) (TabQ [fun v=>v=.pointer (some ⟨g,0,none⟩),fun v=>v=.pointer (some ⟨g,0,none⟩),fun v=>v=.pointer (some ⟨g,0,none⟩),fun v=>v=.pointer (some ⟨g,14,none⟩),fun v=>v=.int .i64 z,fun v=>v=.int .i64 (IntKind.i64.wrap (z - 1)),fun v=>v=.agg c,fun v=>v=.tuple #[.int .i64 t,.bool j],fun v=>v=.tuple #[.int .i64 t,.bool j],fun v=>v=.int .i64 t,fun v=>v=.bool j,fun v=>v=.pointer (some ⟨g,0,none⟩),fun v=>v=.pointer (some ⟨g,14,none⟩),fun _=>True]) (by kernel_rfl) (back_of (by kernel_rfl)) (dst_of (by kernel_rfl)) (in_of (by kernel_rfl)) (fun fl h=>SL.start (h 13 (by decide)) (Below.drew (Below.refl _ _))) ?hop ?hq
  case hop=>
    intro i o a w fl ho hS hfi hdf hsz hrest hdone
    have t0:a.tmps.getD 0 undef=.pointer (some ⟨g,0,none⟩):=hrest 0 (not_of (by kernel_rfl))
    have t3:a.tmps.getD 3 undef=.pointer (some ⟨W.heap.size,0,none⟩):=hrest 3 (not_of (by kernel_rfl))
    have hs:a.tmps.size=18:=hsz.trans rfl
    have hi:i < 14:=(Array.getElem?_eq_some_iff.1 ho).1
    clear hrest hsz hdf
    obtain rfl | rfl | rfl | rfl | rfl | rfl | rfl | rfl | rfl | rfl | rfl | rfl | rfl | rfl:i=0 ∨ i=1 ∨ i=2 ∨ i=3 ∨ i=4 ∨ i=5 ∨ i=6 ∨ i=7 ∨ i=8 ∨ i=9 ∨ i=10 ∨ i=11 ∨ i=12 ∨ i=13:=by omega
    · obtain rfl:=Option.some.inj (show some _=some o from ho)
      refine wpOp_val (v:=.pointer (some ⟨g,0,none⟩)) (w':=w) rfl rfl ?_ ⟨_,rfl,?_,hS.other (by decide)⟩
      · simp [execOp,Act.eval,t0]
      · rw [own_put rfl (by rw [hs];omega)];exact rfl
    · obtain rfl:=Option.some.inj (show some _=some o from ho)
      refine wpOp_val (v:=.pointer (some ⟨g,0,none⟩)) (w':=w) rfl rfl ?_ ⟨_,rfl,?_,hS.other (by decide)⟩
      · simp [execOp,Act.eval,t0]
      · rw [own_put rfl (by rw [hs];omega)];exact rfl
    · obtain rfl:=Option.some.inj (show some _=some o from ho)
      have s7:a.tmps.getD 7 undef=.pointer (some ⟨g,0,none⟩):=(hdone _ (Array.mem_of_getElem? (i:=0) rfl) rfl).2 _ rfl
      refine wpOp_val (v:=.pointer (some ⟨g,0,none⟩)) (w':=w) rfl rfl ?_ ⟨_,rfl,?_,hS.other (by decide)⟩
      · simp [execOp,Act.eval,s7,go_sem]
      · rw [own_put rfl (by rw [hs];omega)];exact rfl
    · obtain rfl:=Option.some.inj (show some _=some o from ho)
      have s8:a.tmps.getD 8 undef=.pointer (some ⟨g,0,none⟩):=(hdone _ (Array.mem_of_getElem? (i:=0) rfl) rfl).2 _ rfl
      refine wpOp_val (v:=.pointer (some ⟨g,14,none⟩)) (w':=w) rfl rfl ?_ ⟨_,rfl,?_,hS.other (by decide)⟩
      · simp [execOp,Act.eval,s8,go_sem]
      · rw [own_put rfl (by rw [hs];omega)];exact rfl
    · obtain rfl:=Option.some.inj (show some _=some o from ho)
      have s9:a.tmps.getD 9 undef=.pointer (some ⟨g,14,none⟩):=(hdone _ (Array.mem_of_getElem? (i:=0) rfl) rfl).2 _ rfl
      refine wpOp_val (v:=.int .i64 z) (w':=w) rfl rfl ?_ ⟨_,rfl,?_,hS.other (by decide)⟩
      · (have hc:=HZ.out w (HI.out w (hS.was (i:=4) (by simp) hfi).2);simp [execOp,Act.eval,s9,hc,go_sem])
      · rw [own_put rfl (by rw [hs];omega)];exact rfl
    · obtain rfl:=Option.some.inj (show some _=some o from ho)
      have s10:a.tmps.getD 10 undef=.int .i64 z:=(hdone _ (Array.mem_of_getElem? (i:=0) rfl) rfl).2 _ rfl
      refine wpOp_val (v:=.int .i64 (IntKind.i64.wrap (z - 1))) (w':=w) rfl rfl ?_ ⟨_,rfl,?_,hS.other (by decide)⟩
      · simp [execOp,Act.eval,s10,go_sem,orM]
      · rw [own_put rfl (by rw [hs];omega)];exact rfl
    · obtain rfl:=Option.some.inj (show some _=some o from ho)
      refine wpOp_val (v:=.agg c) (w':=w) rfl rfl ?_ ⟨_,rfl,?_,hS.other (by decide)⟩
      · simp [execOp,Act.eval,t3,Instr.loadAt,Instr.sureAddr,LX.out w _ (HB.out w (hS.was (i:=6) (by simp) hfi).2),Result.andThen_ok]
      · rw [own_put rfl (by rw [hs];omega)];exact rfl
    · obtain rfl:=Option.some.inj (show some _=some o from ho)
      have s11:a.tmps.getD 11 undef=.int .i64 (IntKind.i64.wrap (z - 1)):=(hdone _ (Array.mem_of_getElem? (i:=0) rfl) rfl).2 _ rfl
      have s12:a.tmps.getD 12 undef=.agg c:=(hdone _ (Array.mem_of_getElem? (i:=1) rfl) rfl).2 _ rfl
      have h0:=hS.was (i:=7) (by simp) hfi
      refine wpOp_call (f:=69) (args:=#[.int .i64 (IntKind.i64.wrap (z - 1)),.agg c]) rfl rfl ?_ ?_
      · simp [go_sem,execOp,Act.eval,Deferred.ofValue,callFunc,Tryz.func69,Tryz.f69,s11,s12,resolve,invoke]
      · refine (T.out w).mono ?_
        rintro e w' ⟨rfl,b9⟩
        refine ⟨_,rfl,_,rfl,?_,SL.moved h0.1 (by decide) (h0.2.trans (b9.mono h0.2.size))⟩
        rw [own_put rfl (by rw [hs];omega)];exact rfl
    · obtain rfl:=Option.some.inj (show some _=some o from ho)
      have s13:a.tmps.getD 13 undef=.tuple #[.int .i64 t,.bool j]:=(hdone _ (Array.mem_of_getElem? (i:=0) rfl) rfl).2 _ rfl
      refine wpOp_val (v:=.tuple #[.int .i64 t,.bool j]) (w':=w) rfl rfl ?_ ⟨_,rfl,?_,hS.other (by decide)⟩
      · simp [execOp,Act.eval,s13]
      · rw [own_put rfl (by rw [hs];omega)];exact rfl
    · obtain rfl:=Option.some.inj (show some _=some o from ho)
      have s5:a.tmps.getD 5 undef=.tuple #[.int .i64 t,.bool j]:=(hdone _ (Array.mem_of_getElem? (i:=0) rfl) rfl).2 _ rfl
      refine wpOp_val (v:=.int .i64 t) (w':=w) rfl rfl ?_ ⟨_,rfl,?_,hS.other (by decide)⟩
      · simp [execOp,Act.eval,s5,go_sem]
      · rw [own_put rfl (by rw [hs];omega)];exact rfl
    · obtain rfl:=Option.some.inj (show some _=some o from ho)
      have s5:a.tmps.getD 5 undef=.tuple #[.int .i64 t,.bool j]:=(hdone _ (Array.mem_of_getElem? (i:=0) rfl) rfl).2 _ rfl
      refine wpOp_val (v:=.bool j) (w':=w) rfl rfl ?_ ⟨_,rfl,?_,hS.other (by decide)⟩
      · simp [execOp,Act.eval,s5,go_sem]
      · rw [own_put rfl (by rw [hs];omega)];exact rfl
    · obtain rfl:=Option.some.inj (show some _=some o from ho)
      have s6:a.tmps.getD 6 undef=.pointer (some ⟨g,0,none⟩):=(hdone _ (Array.mem_of_getElem? (i:=0) rfl) rfl).2 _ rfl
      refine wpOp_val (v:=.pointer (some ⟨g,0,none⟩)) (w':=w) rfl rfl ?_ ⟨_,rfl,?_,hS.other (by decide)⟩
      · simp [execOp,Act.eval,s6,go_sem]
      · rw [own_put rfl (by rw [hs];omega)];exact rfl
    · obtain rfl:=Option.some.inj (show some _=some o from ho)
      have s16:a.tmps.getD 16 undef=.pointer (some ⟨g,0,none⟩):=(hdone _ (Array.mem_of_getElem? (i:=0) rfl) rfl).2 _ rfl
      refine wpOp_val (v:=.pointer (some ⟨g,14,none⟩)) (w':=w) rfl rfl ?_ ⟨_,rfl,?_,hS.other (by decide)⟩
      · simp [execOp,Act.eval,s16,go_sem]
      · rw [own_put rfl (by rw [hs];omega)];exact rfl
    · obtain rfl:=Option.some.inj (show some _=some o from ho)
      have s17:a.tmps.getD 17 undef=.pointer (some ⟨g,14,none⟩):=(hdone _ (Array.mem_of_getElem? (i:=0) rfl) rfl).2 _ rfl
      have s14:a.tmps.getD 14 undef=.int .i64 t:=(hdone _ (Array.mem_of_getElem? (i:=1) rfl) rfl).2 _ rfl
      have h0:=hS.atK hfi
      have hL:∀ l ∈ [4,6,7],fl l=true:=by
        intro l hl
        simp only [List.mem_cons,List.not_mem_nil,or_false] at hl
        rcases hl with rfl | rfl | rfl
        · exact (hdone _ (Array.mem_of_getElem? (i:=7) rfl) rfl).1
        · exact (hdone _ (Array.mem_of_getElem? (i:=9) rfl) rfl).1
        · exact (hdone _ (Array.mem_of_getElem? (i:=2) rfl) rfl).1
      have q:=HI.out w h0
      refine wpOp_skp (w':=w.setCell ⟨g,14,none⟩ (.int .i64 t)) rfl rfl (Trc.exec_store1 3 _ _ rfl g 14 (.int .i64 t) ?_ ?_ rfl rfl (by kernel_rfl) ?_ (s.unfrozen q 14)) ⟨undef,rfl,trivial,SL.to hL ⟨s.at_in q _,(But.of_below h0).trans (But.set _ _ _ _)⟩⟩
      · simp [Act.eval,s17]
      · simp [Act.eval,s14]
      · rw [HZ.out w q];rfl
  case hq=>
    intro u9 w9 fl hfl hS hR9
    have h2:=hS.done (hfl 13 (by decide))
    clear hR9 hS hfl
    rw [show outs _ u9=[(6,u9 6),(7,u9 7),(8,u9 8),(9,u9 9),(10,u9 10),(11,u9 11),(12,u9 12),(13,u9 13),(5,u9 5),(14,u9 14),(15,u9 15),(16,u9 16),(17,u9 17)] by kernel_rfl]
    simp only [putAll,List.setIfInBounds_toArray,List.set_cons_zero,List.set_cons_succ]
    generalize u9 6=x6
    generalize u9 7=x7
    generalize u9 8=x8
    generalize u9 9=x9
    generalize u9 10=x10
    generalize u9 11=x11
    generalize u9 12=x12
    generalize u9 13=x13
    generalize u9 5=x5
    generalize u9 14=x14
    generalize u9 15=x15
    generalize u9 16=x16
    generalize u9 17=x17
    clear u9
    have H2:=Lib.hid h2;clear h2
    go_wp2_with fail
    go_ret
    exact ⟨rfl,H2.out.1,BW.out.trans H2.out.2⟩
end Go.Proofs.YtigliofiojkhcaaGreat.Mdl
