import Derived.Test.YtigliofiojkhcaaGreatMRn03
import Derived.Deep.MidRow
import Derived.ProofKit
import Derived.Deep.Slices
import Derived.Deep.Fields
import Derived.ChangeSame
import Derived.Test.YtigliofiojkhcaaGreatRows
import Derived.Test.YtigliofiojkhcaaGreatMRn01
import Derived.WalkKit
import Derived.WalkSpells
import Derived.WalkLawsBesides
import Derived.Lib.Hide
import Derived.Handy
import Derived.BigQuiet
import Derived.Deep.QuietTactic
import Derived.Deep.RegionHeld3
import Derived.OpenShut
set_option linter.unusedVariables false
set_option linter.unusedSimpArgs false
set_option linter.unnecessarySimpa false
namespace Go.Proofs.YtigliofiojkhcaaGreat.Ins
open Go.RowKit
set_option linter.unusedVariables false
structure Insts (W:World) (a:Option Addr) (len cap:Nat) (xs:Nat → In):Prop where
  le:len ≤ cap
  fit:cap ≤ 9223372036854775807
  here:0 < len → ∃ b o,a=some ⟨b,o,none⟩ ∧ ∀ i,i < len → W.rangeAt b (o + i * 9) (xs i).cells.toList
  ok:∀ i,i < len → (xs i).Ok
theorem rangeAt_below {W w:World} {b o:Nat} {cs:List Value} (h:Below W.heap.size W w) (hc:W.rangeAt b o cs):w.rangeAt b o cs:=fun j v hv=>by
  have:=hc j v hv
  exact (h.cell (p:=⟨b,o + j,none⟩) (lt_of_cell this)).trans this
theorem Insts.below {W w:World} {a:Option Addr} {len cap:Nat} {xs:Nat → In} (h:Insts W a len cap xs) (b:Below W.heap.size W w):Insts w a len cap xs:=
  ⟨h.le,h.fit,fun hp=>by
    obtain ⟨b',o,e,hc⟩:=h.here hp
    exact ⟨b',o,e,fun i hi=>rangeAt_below b (hc i hi)⟩,h.ok⟩
def firstF (f:Nat → Int):Nat → Nat → Int × Int
  | 0,_=>(0,0)
  | n + 1,k=>if f k=0 then firstF f n (k + 1) else ((k:Int),f k)
theorem one_cells (x:In):x.cells.all (·.oneCell')=true:=by simp [In.cells,Value.oneCell']
theorem firstF_zero (f:Nat → Int):∀ n k,(firstF f n k).2=0 → firstF f n k=(0,0)
  | 0,k,_=>rfl
  | n + 1,k,h=>by
    unfold firstF at *
    by_cases h0:f k=0
    · rw [if_pos h0] at h ⊢;exact firstF_zero f n (k + 1) h
    · rw [if_neg h0] at h;exact absurd h h0
theorem firstF_all (f:Nat → Int):∀ n k,(firstF f n k).2=0 → ∀ i,k ≤ i → i < k + n → f i=0
  | 0,k,_,i,h1,h2=>by omega
  | n + 1,k,h,i,h1,h2=>by
    unfold firstF at h
    by_cases h0:f k=0
    · rw [if_pos h0] at h
      by_cases e:i=k
      · subst e;exact h0
      · exact firstF_all f n (k + 1) h i (by omega) (by omega)
    · rw [if_neg h0] at h;exact absurd h h0
set_option maxRecDepth 100000 in
set_option maxHeartbeats 2000000 in
theorem first_any (a:Option Addr) (len cap:Nat) (xs:Nat → In) (n:Int) (b o:Nat) (W:World) (hx:Insts W a len cap xs) (hn:W.cell? ⟨b,o,none⟩=some (.int .i64 n)):
    Calls Tryz.prog 58 #[.slice a len cap,.func (.func 59) #[] #[.pointer (some ⟨b,o,none⟩)]] W fun e w'=>e=.returned (.tuple #[.int .i64 (firstF (fun i=>faultI i (xs i) n) len 0).1,.int .i64 (firstF (fun i=>faultI i (xs i) n) len 0).2]) ∧ Below W.heap.size W w':=by
  have l1:=hx.le
  have l2:=hx.fit
  have HX:=Lib.hid hx;clear hx
  have hb:b < W.heap.size:=lt_of_cell hn
  have HN:=Lib.hid hn;clear hn
  generalize hf:(fun i:Nat=>faultI i (xs i) n)=f
  have HF:=Lib.hid hf;clear hf
  go_enter Tryz.func58,Tryz.ntmps58
  go_wp2_with fail
  go_loopw [11] (fun i wr=>∃ k:Nat,k ≤ len ∧ i=.int .i64 k ∧ Hid (Below W.heap.size W wr ∧ firstF f len 0=firstF f (len - k) k)) (fun i _=>len - (intOf i).toNat)
  case atStart=>exact ⟨0,by omega,rfl,Lib.hid ⟨Below.refl _ _,by rw [Nat.sub_zero]⟩⟩
  case round=>
    obtain ⟨k,hk,rfl,hR⟩:=hrel
    by_cases hlt:k < len
    · obtain ⟨B,q,rfl,hcells⟩:=HX.out.here (by omega)
      have HA:=Lib.hid (rangeAt_below hR.out.1 (hcells k hlt))
      have HC:=Lib.hid (fun W b o hn=>handed_any k (xs k) n b o W hn)
      have hfk:faultI k (xs k) n=f k:=by rw [← HF.out]
      rw [hfk] at HC
      have h9:(xs k).cells.toList.length=9:=rfl
      have i9:(Tryz.prog.info? 52).map (·.size)=some (xs k).cells.toList.length:=info_ins
      have HI:=Lib.hid i9;clear i9 hcells hfk
      go_wp2_with (first | (refine wpList_load_mid rfl 52 _ rfl B (q + k * 9) rfl (xs k).cells.toList _ HA.out Tryz.underlying52 rfl HI.out ?_) | (refine (halt_store 52 _ _ rfl ?_)))
      refine ⟨?_,trivial⟩
      refine wpList_store_is rfl 52 _ _ rfl wr.heap.size (xs k).cells rfl rfl 52 _ (heap_last wr _ _ rfl) HI.out rfl (one_cells _) ?_
      intro w1 s1
      have W1:=Lib.hid (s1.below (below_new hR.out.1 _) hR.out.1.size)
      have R1:=Lib.hid s1.row
      have N1:=Lib.hid ((W1.out.cell (p:=⟨b,o,none⟩) hb).trans HN.out)
      have HE:=Lib.hid hR.out.2
      clear s1 hR
      generalize wr.heap.size=X at *
      generalize (xs k).cells=c at *
      go_wp2_with (refine (halt_load 52 _ rfl ?_))
      refine ⟨?_,trivial⟩
      refine wpList_load_row rfl 52 _ rfl X rfl _ c _ _ R1.out Tryz.underlying52 rfl HI.out ?_
      go_wp2_with fail
      refine (HC.out _ b o N1.out).mono ?_
      rintro e w2 ⟨rfl,b2⟩
      have W2:=Lib.hid (below_call W1.out b2);clear b2
      clear HC HI R1 N1 HA
      have hs:len - k=(len - (k + 1)) + 1:=by omega
      have hst:firstF f (len - k) k=if f k=0 then firstF f (len - (k + 1)) (k + 1) else ((k:Int),f k):=by rw [hs];rfl
      have HS:=Lib.hid hst;clear hst hs HF
      by_cases h0:f k=0
      · have e0:(f k != 0)=false:=by simpa using h0
        have H0:=Lib.hid h0;clear h0
        go_wp2_with fail
        go_roundw
        case rel=>exact ⟨k + 1,by omega,by go_num,Lib.hid ⟨W2.out,by rw [HE.out,HS.out,if_pos H0.out]⟩⟩
        case measure=>simp [intOf];omega
      · have e0:(f k != 0)=true:=by simpa using h0
        have H0:=Lib.hid h0;clear h0
        go_wp2_with fail
        go_ret2
        exact ⟨by rw [HE.out,HS.out,if_neg H0.out];rfl,W2.out⟩
    · obtain rfl:k=len:=by omega
      have HE:=Lib.hid hR.out.2
      have W2:=Lib.hid hR.out.1
      clear hR
      go_wp2_with fail
      go_ret2
      exact ⟨by rw [HE.out,Nat.sub_self];rfl,W2.out⟩
def checkI (c:Int) (len:Nat) (xs:Nat → In):Int × Int:=
  if c < 0 ∨ 256 < c then (0,2) else if len < 1 ∨ 64 < len then (0,3)
  else if (firstF (fun i=>faultI i (xs i) len) len 0).2 ≠ 0 then firstF (fun i=>faultI i (xs i) len) len 0
  else if (xs (len - 1)).kind=4 ∨ (xs (len - 1)).kind=6 then (0,0) else ((len:Int) - 1,33)
set_option maxRecDepth 100000 in
set_option maxHeartbeats 2000000 in
theorem check_lim (c:Int) (a:Option Addr) (len cap:Nat) (r:Int) (W:World) (hr:(if c < 0 ∨ 256 < c then (2:Int) else if (len:Int) < 1 ∨ 64 < (len:Int) then 3 else 0)=r) (h0:¬ r=0):
    Calls Tryz.prog 25 #[.agg #[.int .i64 c,.slice a len cap]] W fun e w'=>e=.returned (.tuple #[.int .i64 0,.int .i64 r]) ∧ Below W.heap.size W w':=by
  have L:=Lib.hid (limits_any c len)
  rw [hr] at L
  have e0:(r != 0)=true:=by simpa using h0
  clear hr h0
  go_enter Tryz.func25,Tryz.ntmps25
  go_wp2_with fail
  refine (L.out _).mono ?_
  rintro e w' ⟨rfl,rfl⟩
  go_wp2_with fail
  go_ret2
  exact ⟨rfl,below_new (below_new (Below.refl _ _) _) _⟩
set_option maxRecDepth 100000 in
set_option maxHeartbeats 2000000 in
theorem check_first (c:Int) (a:Option Addr) (len cap:Nat) (xs:Nat → In) (W:World) (hx:Insts W a len cap xs) (hr:(if c < 0 ∨ 256 < c then (2:Int) else if (len:Int) < 1 ∨ 64 < (len:Int) then 3 else 0)=0)
    (i r:Int) (hf:firstF (fun i=>faultI i (xs i) len) len 0=(i,r)) (h0:¬ r=0):
    Calls Tryz.prog 25 #[.agg #[.int .i64 c,.slice a len cap]] W fun e w'=>e=.returned (.tuple #[.int .i64 i,.int .i64 r]) ∧ Below W.heap.size W w':=by
  have L:=Lib.hid (limits_any c len)
  rw [hr] at L
  have e0:(r != 0)=true:=by simpa using h0
  have F:=Lib.hid (fun b o W (h:Insts W a len cap xs) hn=>first_any a len cap xs len b o W h hn)
  rw [hf] at F
  have HX:=Lib.hid hx
  have hmf:∀ (fn:Fn) (first cap:Array Value) (w:World),(Instr.makeFunc fn first cap).run Tryz.prog w=.ok (.func fn first cap) w:=fun _ _ _ _=>rfl
  clear hr h0 hf hx
  go_enter Tryz.func25,Tryz.ntmps25
  go_wp2_with fail
  refine (L.out _).mono ?_
  rintro e w' ⟨rfl,rfl⟩
  go_wp2_with fail
  refine (F.out _ _ _ (HX.out.below (below_new (below_new (Below.refl _ _) _) _)) (by simp)).mono ?_
  rintro e w1 ⟨rfl,b1⟩
  have B1:=Lib.hid (below_call (below_new (below_new (Below.refl _ W) _) _) b1);clear b1
  go_wp2_with fail
  go_ret2
  exact ⟨rfl,B1.out⟩
set_option maxRecDepth 100000 in
set_option maxHeartbeats 2000000 in
theorem check_last (c:Int) (a:Option Addr) (len cap:Nat) (xs:Nat → In) (W:World) (hx:Insts W a len cap xs) (hr:(if c < 0 ∨ 256 < c then (2:Int) else if (len:Int) < 1 ∨ 64 < (len:Int) then 3 else 0)=0)
    (hf:firstF (fun i=>faultI i (xs i) len) len 0=(0,0)) (h1:1 ≤ len) (h64:len ≤ 64):
    Calls Tryz.prog 25 #[.agg #[.int .i64 c,.slice a len cap]] W fun e w'=>e=.returned (.tuple (if (xs (len - 1)).kind=4 ∨ (xs (len - 1)).kind=6 then #[.int .i64 0,.int .i64 0] else #[.int .i64 ((len:Int) - 1),.int .i64 33])) ∧ Below W.heap.size W w':=by
  have L:=Lib.hid (limits_any c len)
  rw [hr] at L
  have F:=Lib.hid (fun b o W (h:Insts W a len cap xs) hn=>first_any a len cap xs len b o W h hn)
  rw [hf] at F
  obtain ⟨B,o,rfl,hcells⟩:=hx.here (by omega)
  have hk:W.cell? ⟨B,o + (len - 1) * 9,none⟩=some (.int .i8 (xs (len - 1)).kind):=hcells (len - 1) (by omega) 0 (.int .i8 (xs (len - 1)).kind) rfl
  have hB:=lt_of_cell hk
  have hle:=hx.le
  have hfit:=hx.fit
  have HX:=Lib.hid hx
  have HK:=Lib.hid hk
  have hmf:∀ (fn:Fn) (first cap:Array Value) (w:World),(Instr.makeFunc fn first cap).run Tryz.prog w=.ok (.func fn first cap) w:=fun _ _ _ _=>rfl
  clear hr hf hx hcells hk
  generalize (xs (len - 1)).kind=kd at *
  obtain ⟨m,rfl⟩:∃ m,len=m + 1:=⟨len - 1,by omega⟩
  have em:((m + 1:Nat):Int) - 1=(m:Int):=by omega
  rw [Nat.add_sub_cancel] at HK
  have hc:(kd=4) ∨ (¬ kd=4 ∧ kd=6) ∨ (¬ kd=4 ∧ ¬ kd=6):=by omega
  rcases hc with rfl | ⟨h4,rfl⟩ | ⟨h4,h6⟩
  · rw [if_pos (.inl rfl)]
    go_enter Tryz.func25,Tryz.ntmps25
    go_wp2_with fail
    refine (L.out _).mono ?_
    rintro e w' ⟨rfl,rfl⟩
    go_wp2_with fail
    refine (F.out _ _ _ (HX.out.below (below_new (below_new (Below.refl _ _) _) _)) (by simp)).mono ?_
    rintro e w1 ⟨rfl,b1⟩
    have B1:=Lib.hid (below_call (below_new (below_new (Below.refl _ W) _) _) b1)
    have hK:=(B1.out.cell (p:=⟨B,o + m * 9,none⟩) hB).trans HK.out
    have hL:w1.cell? ⟨W.heap.size + 1,0,none⟩=some (.int .i64 ((m + 1:Nat):Int)):=(b1.cell (by simp)).trans (by simp)
    have hP:w1.cell? ⟨W.heap.size,1,none⟩=some (.slice (some ⟨B,o,none⟩) (m + 1) cap):=(b1.cell (by simp;omega)).trans (by simp)
    clear b1
    go_wp2_with fail
    go_ret2
    exact ⟨by first | rfl | (rw [em];rfl),B1.out⟩
  · rw [if_pos (.inr rfl)]
    go_enter Tryz.func25,Tryz.ntmps25
    go_wp2_with fail
    refine (L.out _).mono ?_
    rintro e w' ⟨rfl,rfl⟩
    go_wp2_with fail
    refine (F.out _ _ _ (HX.out.below (below_new (below_new (Below.refl _ _) _) _)) (by simp)).mono ?_
    rintro e w1 ⟨rfl,b1⟩
    have B1:=Lib.hid (below_call (below_new (below_new (Below.refl _ W) _) _) b1)
    have hK:=(B1.out.cell (p:=⟨B,o + m * 9,none⟩) hB).trans HK.out
    have hL:w1.cell? ⟨W.heap.size + 1,0,none⟩=some (.int .i64 ((m + 1:Nat):Int)):=(b1.cell (by simp)).trans (by simp)
    have hP:w1.cell? ⟨W.heap.size,1,none⟩=some (.slice (some ⟨B,o,none⟩) (m + 1) cap):=(b1.cell (by simp;omega)).trans (by simp)
    clear b1
    go_wp2_with fail
    go_ret2
    exact ⟨by first | rfl | (rw [em];rfl),B1.out⟩
  · rw [if_neg (by omega)]
    have e4:(kd != 4)=true:=by simpa using h4
    have e6:(kd != 6)=true:=by simpa using h6
    go_enter Tryz.func25,Tryz.ntmps25
    go_wp2_with fail
    refine (L.out _).mono ?_
    rintro e w' ⟨rfl,rfl⟩
    go_wp2_with fail
    refine (F.out _ _ _ (HX.out.below (below_new (below_new (Below.refl _ _) _) _)) (by simp)).mono ?_
    rintro e w1 ⟨rfl,b1⟩
    have B1:=Lib.hid (below_call (below_new (below_new (Below.refl _ W) _) _) b1)
    have hK:=(B1.out.cell (p:=⟨B,o + m * 9,none⟩) hB).trans HK.out
    have hL:w1.cell? ⟨W.heap.size + 1,0,none⟩=some (.int .i64 ((m + 1:Nat):Int)):=(b1.cell (by simp)).trans (by simp)
    have hP:w1.cell? ⟨W.heap.size,1,none⟩=some (.slice (some ⟨B,o,none⟩) (m + 1) cap):=(b1.cell (by simp;omega)).trans (by simp)
    clear b1
    go_wp2_with fail
    go_ret2
    exact ⟨by first | rfl | (rw [em];rfl),B1.out⟩
theorem check_any (c:Int) (a:Option Addr) (len cap:Nat) (xs:Nat → In) (W:World) (hx:Insts W a len cap xs):
    Calls Tryz.prog 25 #[.agg #[.int .i64 c,.slice a len cap]] W fun e w'=>e=.returned (.tuple #[.int .i64 (checkI c len xs).1,.int .i64 (checkI c len xs).2]) ∧ Below W.heap.size W w':=by
  unfold checkI
  by_cases h1:c < 0 ∨ 256 < c
  · rw [if_pos h1]
    exact check_lim c a len cap 2 W (by rw [if_pos h1]) (by omega)
  by_cases h2:len < 1 ∨ 64 < len
  · rw [if_neg h1,if_pos h2]
    exact check_lim c a len cap 3 W (by rw [if_neg h1,if_pos (by omega)]) (by omega)
  rw [if_neg h1,if_neg h2]
  have hr:(if c < 0 ∨ 256 < c then (2:Int) else if (len:Int) < 1 ∨ 64 < (len:Int) then 3 else 0)=0:=by rw [if_neg h1,if_neg (by omega)]
  by_cases h3:(firstF (fun i=>faultI i (xs i) len) len 0).2 ≠ 0
  · rw [if_pos h3]
    exact check_first c a len cap xs W hx hr _ _ rfl h3
  · rw [if_neg h3]
    have hf:firstF (fun i=>faultI i (xs i) len) len 0=(0,0):=firstF_zero _ _ _ (by omega)
    have:=check_last c a len cap xs W hx hr hf (by omega) (by omega)
    refine this.mono ?_
    rintro e w' ⟨rfl,b⟩
    refine ⟨?_,b⟩
    split <;> rfl
end Go.Proofs.YtigliofiojkhcaaGreat.Ins
namespace Go.Proofs.YtigliofiojkhcaaGreat.Ins
open Go.RowKit Go.ChangeShapes Go.WideShapes Go.Deep
set_option linter.unusedVariables false
set_option maxRecDepth 100000
theorem bd_i8 {a:Int} (h:(Lit.int .i8 a).wf=true):-128 ≤ a ∧ a ≤ 127:=by simpa [Lit.wf,IntKind.min,IntKind.max,IntKind.bits,IntKind.signed] using h
theorem bd_i64 {a:Int} (h:(Lit.int .i64 a).wf=true):-9223372036854775808 ≤ a ∧ a ≤ 9223372036854775807:=by simpa [Lit.wf,IntKind.min,IntKind.max,IntKind.bits,IntKind.signed] using h
section
variable {H:Type} {enc:TypeId × Value → H} {w:World} {base:Nat} {held:Bool}
theorem ins_cells {n:Nat} {cs:List Value} {x:DataW H × List MemPlace} {spare:Nat → Bool} (h:DataW.trod enc Tryz.prog w base spare held n 52 cs=some x):∃ y:In,cs=y.cells.toList ∧ y.Ok:=by
  obtain ⟨xs,n',_,_,hlen,hxl,hf⟩:=DataW.trod_struct Tryz.underlying52 h
  have hl:cs.length=9:=hlen.trans (by kernel_rfl)
  match cs,hl with
  | [c0,c1,c2,c3,c4,c5,c6,c7,c8],_=>
    have ki:Tryz.prog.cellsOf 3=1:=by kernel_rfl
    have k8:Tryz.prog.cellsOf 29=1:=by kernel_rfl
    have kb:Tryz.prog.cellsOf 4=1:=by kernel_rfl
    have hx9:xs.length=9:=hxl
    have f0:=hf 0 _ rfl
    have f1:=hf 1 _ rfl
    have f2:=hf 2 _ rfl
    have f3:=hf 3 _ rfl
    have f4:=hf 4 _ rfl
    have f5:=hf 5 _ rfl
    have f6:=hf 6 _ rfl
    have f7:=hf 7 _ rfl
    have f8:=hf 8 _ rfl
    change DataW.trod enc Tryz.prog w base spare held n' 29 (([c0,c1,c2,c3,c4,c5,c6,c7,c8].drop 0).take (Tryz.prog.cellsOf 29))=_ at f0
    change DataW.trod enc Tryz.prog w base spare held n' 29 (([c0,c1,c2,c3,c4,c5,c6,c7,c8].drop 1).take (Tryz.prog.cellsOf 29))=_ at f1
    change DataW.trod enc Tryz.prog w base spare held n' 29 (([c0,c1,c2,c3,c4,c5,c6,c7,c8].drop 2).take (Tryz.prog.cellsOf 29))=_ at f2
    change DataW.trod enc Tryz.prog w base spare held n' 29 (([c0,c1,c2,c3,c4,c5,c6,c7,c8].drop 3).take (Tryz.prog.cellsOf 29))=_ at f3
    change DataW.trod enc Tryz.prog w base spare held n' 4 (([c0,c1,c2,c3,c4,c5,c6,c7,c8].drop 4).take (Tryz.prog.cellsOf 4))=_ at f4
    change DataW.trod enc Tryz.prog w base spare held n' 29 (([c0,c1,c2,c3,c4,c5,c6,c7,c8].drop 5).take (Tryz.prog.cellsOf 29))=_ at f5
    change DataW.trod enc Tryz.prog w base spare held n' 29 (([c0,c1,c2,c3,c4,c5,c6,c7,c8].drop 6).take (Tryz.prog.cellsOf 29))=_ at f6
    change DataW.trod enc Tryz.prog w base spare held n' 3 (([c0,c1,c2,c3,c4,c5,c6,c7,c8].drop 7).take (Tryz.prog.cellsOf 3))=_ at f7
    change DataW.trod enc Tryz.prog w base spare held n' 3 (([c0,c1,c2,c3,c4,c5,c6,c7,c8].drop 8).take (Tryz.prog.cellsOf 3))=_ at f8
    rw [k8,List.getElem?_eq_getElem (by omega)] at f0
    rw [k8,List.getElem?_eq_getElem (by omega)] at f1
    rw [k8,List.getElem?_eq_getElem (by omega)] at f2
    rw [k8,List.getElem?_eq_getElem (by omega)] at f3
    rw [kb,List.getElem?_eq_getElem (by omega)] at f4
    rw [k8,List.getElem?_eq_getElem (by omega)] at f5
    rw [k8,List.getElem?_eq_getElem (by omega)] at f6
    rw [ki,List.getElem?_eq_getElem (by omega)] at f7
    rw [ki,List.getElem?_eq_getElem (by omega)] at f8
    obtain ⟨v0,e0,_,w0⟩:=DataW.trod_int Tryz.underlying29 f0
    obtain ⟨v1,e1,_,w1⟩:=DataW.trod_int Tryz.underlying29 f1
    obtain ⟨v2,e2,_,w2⟩:=DataW.trod_int Tryz.underlying29 f2
    obtain ⟨v3,e3,_,w3⟩:=DataW.trod_int Tryz.underlying29 f3
    obtain ⟨v4,e4,_⟩:=DataW.trod_bool Tryz.underlying4 f4
    obtain ⟨v5,e5,_,w5⟩:=DataW.trod_int Tryz.underlying29 f5
    obtain ⟨v6,e6,_,w6⟩:=DataW.trod_int Tryz.underlying29 f6
    obtain ⟨v7,e7,_,w7⟩:=DataW.trod_int Tryz.underlying3 f7
    obtain ⟨v8,e8,_,w8⟩:=DataW.trod_int Tryz.underlying3 f8
    simp at e0 e1 e2 e3 e4 e5 e6 e7 e8
    subst e0 e1 e2 e3 e4 e5 e6 e7 e8
    exact ⟨⟨v0,v1,v2,v3,v4,v5,v6,v7,v8⟩,rfl,⟨bd_i8 w0,bd_i8 w1,bd_i8 w2,bd_i8 w3,bd_i8 w5,bd_i8 w6,bd_i64 w7,bd_i64 w8⟩⟩
theorem insts_open {fuel:Nat} {cs:List Value} {x:DataW H × List MemPlace} (h:DataW.trod enc Tryz.prog w base (fun _=>true) held fuel 22 cs=some x):
    ∃ (a:Option Addr) (len cap:Nat) (xs:Nat → In),cs=[.slice a len cap] ∧ Insts w a len cap xs:=by
  rcases open_slice Tryz.underlying22 h with ⟨rfl,_⟩ | ⟨a,len,cap,m,n,D,Pl,rfl,_,hl,hm,hmm,_,hi⟩
  · exact ⟨none,0,0,fun _=>In.nil,rfl,Nat.le_refl _,by omega,fun h=>absurd h (by omega),fun i h=>absurd h (by omega)⟩
  · have hm':len ≤ m:=by rw [hmm];split <;> omega
    have k9:Tryz.prog.cellsOf 52=9:=by kernel_rfl
    have spotless:0 < len → a.spot=none:=fun h0=>by
      obtain ⟨cs',hc,ht'⟩:=hi 0 (by omega)
      rw [k9] at hc
      obtain ⟨_,hcl,hat⟩:=World.cells?_some hc
      obtain ⟨y,rfl,_⟩:=ins_cells ht'
      obtain ⟨b,off,spot⟩:=a
      have c0:=hat 0 (by omega)
      simpa [Addr.add] using World.cell?_spot c0
    have key:∀ i,∃ y:In,i < len → w.rangeAt a.block (a.off + i * 9) y.cells.toList ∧ a.spot=none ∧ y.Ok:=by
      intro i
      by_cases hlt:i < len
      · obtain ⟨cs',hc,ht'⟩:=hi i (by omega)
        rw [k9] at hc
        obtain ⟨_,hcl,hat⟩:=World.cells?_some hc
        obtain ⟨y,rfl,ok⟩:=ins_cells ht'
        refine ⟨y,fun _=>?_⟩
        have hs:=spotless (by omega)
        obtain ⟨b,off,spot⟩:=a
        simp only at hs
        subst hs
        refine ⟨fun j u hu=>?_,rfl,ok⟩
        have hj:j < 9:=(List.getElem?_eq_some_iff.1 hu).1
        have:=hat j hj
        rw [Addr.add_mid,Addr.add_mid] at this
        exact this.trans hu
      · exact ⟨In.nil,fun h=>absurd h hlt⟩
    refine ⟨some a,len,cap,fun i=>(key i).choose,rfl,hl,by unfold maxLen at hm;omega,fun h0=>?_,fun i hlt=>((key i).choose_spec hlt).2.2⟩
    obtain ⟨_,hs,_⟩:=(key 0).choose_spec h0
    refine ⟨a.block,a.off,?_,fun i hlt=>((key i).choose_spec hlt).1⟩
    obtain ⟨b,off,spot⟩:=a
    simp at hs
    rw [hs]
theorem prog_open {r:Reach} {b0:Nat} {v:Value} {d:DataW H} {p:List MemPlace} (hv:Value.okWide Tryz.prog w r b0 24 v) (h:DataW.Trod enc Tryz.prog w base (fun _=>true) held 24 v d p):
    ∃ (c:Int) (a:Option Addr) (len cap:Nat) (xs:Nat → In),v=.agg #[.int .i64 c,.slice a len cap] ∧ (Lit.int .i64 c).wf=true ∧ Insts w a len cap xs:=by
  obtain ⟨cs,rfl,hsz⟩:=okWide_struct Tryz.underlying24 hv
  obtain ⟨fuel,hf⟩:=h
  obtain ⟨ys,n',_,_,hlen,hyl,hg⟩:=DataW.trod_struct Tryz.underlying24 hf
  obtain ⟨l⟩:=cs
  have hl:l.length=2:=by
    have:=hsz.trans (show Tryz.prog.cellsOf 24=2 by kernel_rfl)
    simpa using this
  match l,hl with
  | [c0,c1],_=>
    have ki:Tryz.prog.cellsOf 3=1:=by kernel_rfl
    have ks:Tryz.prog.cellsOf 22=1:=by kernel_rfl
    have hy2:ys.length=2:=hyl
    have f0:=hg 0 _ rfl
    have f1:=hg 1 _ rfl
    change DataW.trod enc Tryz.prog w base _ held n' 3 (([c0,c1].drop 0).take (Tryz.prog.cellsOf 3))=_ at f0
    change DataW.trod enc Tryz.prog w base _ held n' 22 (([c0,c1].drop 1).take (Tryz.prog.cellsOf 22))=_ at f1
    rw [ki,List.getElem?_eq_getElem (by omega)] at f0
    rw [ks,List.getElem?_eq_getElem (by omega)] at f1
    obtain ⟨c,e0,_,w0⟩:=DataW.trod_int Tryz.underlying3 f0
    obtain ⟨a,len,cap,xs,e1,hx⟩:=insts_open f1
    simp at e0 e1
    subst e0 e1
    exact ⟨c,a,len,cap,xs,rfl,w0,hx⟩
end
end Go.Proofs.YtigliofiojkhcaaGreat.Ins
namespace Go.Proofs.YtigliofiojkhcaaGreat.Trc
open Go.RowKit
set_option linter.unusedVariables false
theorem retB {a b:Bool} (h:a=b):Ending.returned (.bool a)=.returned (.bool b):=by rw [h]
theorem below_drewN {B:Nat} {W w:World} (h:Below B W w):∀ n,Below B W (w.drewN n)
  | 0=>h
  | n + 1=>(below_drewN h n).drew
theorem lt_of_cell {w:World} {b o:Nat} {v:Value} (h:w.cell? ⟨b,o,none⟩=some v):b < w.heap.size:=World.block_lt_of_cell? w _ h
theorem rangeAt_below {W w:World} {b o:Nat} {cs:List Value} (h:Below W.heap.size W w) (hc:W.rangeAt b o cs):w.rangeAt b o cs:=fun j v hv=>by
  have:=hc j v hv
  exact (h.cell (p:=⟨b,o + j,none⟩) (lt_of_cell this)).trans this
structure WordsAt (W:World) (a:Option Addr) (len cap:Nat) (zs:List Int):Prop where
  size:len=zs.length
  le:len ≤ cap
  fit:cap ≤ 9223372036854775807
  here:0 < len → ∃ b o,a=some ⟨b,o,none⟩ ∧ ∀ j z,zs[j]?=some z → W.cell? ⟨b,o + j,none⟩=some (.int .u64 z)
  nilc:a=none → cap=0
theorem WordsAt.below {W w:World} {a:Option Addr} {len cap:Nat} {zs:List Int} (h:WordsAt W a len cap zs) (b:Below W.heap.size W w):WordsAt w a len cap zs:=
  ⟨h.size,h.le,h.fit,fun hp=>by
    obtain ⟨b',o,e,hc⟩:=h.here hp
    exact ⟨b',o,e,fun j z hz=>(b.cell (p:=⟨b',o + j,none⟩) (lt_of_cell (hc j z hz))).trans (hc j z hz)⟩,h.nilc⟩
theorem WordsAt.take {W:World} {a:Option Addr} {len cap:Nat} {zs:List Int} (h:WordsAt W a len cap zs) {n:Nat} (hn:n ≤ len):WordsAt W a n cap (zs.take n):=
  ⟨by rw [List.length_take,← h.size];omega,Nat.le_trans hn h.le,h.fit,fun hp=>by
    obtain ⟨b',o,e,hc⟩:=h.here (by omega)
    refine ⟨b',o,e,fun j z hz=>hc j z ?_⟩
    rw [List.getElem?_take] at hz
    split at hz
    · exact hz
    · exact absurd hz (by simp),h.nilc⟩
structure Ev where
  num:Int
  args:List Int
  ans:Int
instance instEv:DecidableEq Ev:=fun x y=>decidable_of_iff (x.num=y.num ∧ x.args=y.args ∧ x.ans=y.ans) ⟨fun ⟨a,b,c⟩=>by cases x;cases y;simp only at a b c;subst a b c;rfl,fun e=>by subst e;exact ⟨rfl,rfl,rfl⟩⟩
def cellE (x:Ev) (na:Option Addr) (nc:Nat):List Value:=[.int .i64 x.num,.slice na x.args.length nc,.int .u64 x.ans]
structure EvsAt (W:World) (a:Option Addr) (len cap:Nat) (es:List Ev):Prop where
  size:len=es.length
  le:len ≤ cap
  fit:cap ≤ 9223372036854775807
  here:0 < len → ∃ b o,a=some ⟨b,o,none⟩ ∧ ∀ i x,es[i]?=some x → ∃ na nc,W.rangeAt b (o + i * 3) (cellE x na nc) ∧ WordsAt W na x.args.length nc x.args
  nilc:a=none → cap=0
theorem EvsAt.below {W w:World} {a:Option Addr} {len cap:Nat} {es:List Ev} (h:EvsAt W a len cap es) (b:Below W.heap.size W w):EvsAt w a len cap es:=
  ⟨h.size,h.le,h.fit,fun hp=>by
    obtain ⟨b',o,e,hc⟩:=h.here hp
    refine ⟨b',o,e,fun i x hx=>?_⟩
    obtain ⟨na,nc,h1,h2⟩:=hc i x hx
    exact ⟨na,nc,rangeAt_below b h1,h2.below b⟩,h.nilc⟩
theorem EvsAt.take {W:World} {a:Option Addr} {len cap:Nat} {es:List Ev} (h:EvsAt W a len cap es) {n:Nat} (hn:n ≤ len):EvsAt W a n cap (es.take n):=
  ⟨by rw [List.length_take,← h.size];omega,Nat.le_trans hn h.le,h.fit,fun hp=>by
    obtain ⟨b',o,e,hc⟩:=h.here (by omega)
    refine ⟨b',o,e,fun j z hz=>hc j z ?_⟩
    rw [List.getElem?_take] at hz
    split at hz
    · exact hz
    · exact absurd hz (by simp),h.nilc⟩
theorem EvsAt.nil (W:World):EvsAt W none 0 0 []:=⟨rfl,Nat.le_refl _,by omega,fun h=>absurd h (by decide),fun _=>rfl⟩
def preB {α:Type} [DecidableEq α] (l m:List α):Bool:=decide (l=m.take l.length)
theorem preB_iff {α:Type} [DecidableEq α] {l m:List α}:preB l m=true ↔ ∃ r,m=l ++ r:=by
  unfold preB
  rw [decide_eq_true_iff]
  constructor
  · intro h
    exact ⟨m.drop l.length,by have:=List.take_append_drop l.length m;rw [← h] at this;exact this.symm⟩
  · rintro ⟨r,rfl⟩
    simp
theorem preB_long {α:Type} [DecidableEq α] {l m:List α} (h:m.length < l.length):preB l m=false:=by
  cases hp:preB l m
  · rfl
  · obtain ⟨r,rfl⟩:=preB_iff.1 hp
    simp at h;omega
theorem preB_same {α:Type} [DecidableEq α] {l m:List α} (h:l.length=m.length):preB l m=decide (l=m):=by
  unfold preB;rw [h,List.take_length]
end Go.Proofs.YtigliofiojkhcaaGreat.Trc
namespace Go.Proofs.YtigliofiojkhcaaGreat.Trc
open Go.RowKit Go.ChangeShapes Go.WideShapes Go.Deep
set_option linter.unusedVariables false
set_option maxRecDepth 100000
section
variable {H:Type} {enc:TypeId × Value → H} {w:World} {base:Nat} {held:Bool}
theorem u64_bd {z:Int} (h:(Lit.int .u64 z).wf=true):0 ≤ z ∧ z < 18446744073709551616:=by
  have:0 ≤ z ∧ z ≤ 18446744073709551615:=by simpa [Lit.wf,IntKind.min,IntKind.max,IntKind.bits,IntKind.signed] using h
  omega
theorem words_arg {r:Reach} {b0:Nat} {v:Value} {d:DataW H} {p:List MemPlace} (hv:Value.okWide Tryz.prog w r b0 26 v) (h:DataW.Trod enc Tryz.prog w base (fun _=>true) held 26 v d p):
    ∃ (a:Option Addr) (len cap:Nat) (zs:List Int),v=.slice a len cap ∧ (∀ z ∈ zs,0 ≤ z ∧ z < 18446744073709551616) ∧ WordsAt w a len cap zs:=by
  obtain ⟨a,len,cap,rfl⟩:=okWide_slice Tryz.underlying26 hv
  obtain ⟨fuel,hf⟩:=h
  rcases open_ints Tryz.underlying26 Tryz.underlying30 (by kernel_rfl) hf with ⟨hcs,_⟩ | ⟨x,l,c,zs,hcs,_,hl,hm,hz,_,hcell,hwz⟩
  · simp [Value.cells] at hcs
    obtain ⟨rfl,rfl,rfl⟩:=hcs
    exact ⟨none,0,0,[],rfl,fun z h=>(by cases h),rfl,Nat.le_refl _,by omega,fun h=>absurd h (by decide),fun _=>rfl⟩
  · simp [Value.cells] at hcs
    obtain ⟨rfl,rfl,rfl⟩:=hcs
    have hz':zs.length=cap:=by simpa using hz
    refine ⟨some x,len,cap,zs.take len,rfl,fun z h=>u64_bd (hwz z (List.mem_of_mem_take h)),by rw [List.length_take];omega,hl,by unfold maxLen at hm;omega,fun h0=>?_,fun h=>by cases h⟩
    have hs:x.spot=none:=by
      have c0:=hcell 0 (by omega)
      obtain ⟨b,off,spot⟩:=x
      simpa [Addr.add] using World.cell?_spot c0
    obtain ⟨b,off,spot⟩:=x
    simp only at hs
    subst hs
    refine ⟨b,off,rfl,fun j z hj=>?_⟩
    rw [List.getElem?_take] at hj
    split at hj
    · have hlt:=(List.getElem?_eq_some_iff.1 hj).1
      have:=hcell j hlt
      rw [Addr.add_mid] at this
      rw [this,List.getD_eq_getElem?_getD,hj];rfl
    · cases hj
end
end Go.Proofs.YtigliofiojkhcaaGreat.Trc
namespace Go.Proofs.YtigliofiojkhcaaGreat.Ins
open Go.RowKit
set_option linter.unusedVariables false
def argsI (n:Int):Int:=if n < 0 ∨ 16 ≤ n then 0 else n % 6
theorem args_any (n:Int) (W:World):Calls Tryz.prog 70 #[.int .i64 n] W fun e w'=>e=.returned (.int .i64 (argsI n)) ∧ W=w':=by
  have hc:n < 0 ∨ (0 ≤ n ∧ 16 ≤ n) ∨ (0 ≤ n ∧ n < 16):=by omega
  rcases hc with h | ⟨h,h'⟩ | ⟨h,h'⟩
  · rw [show argsI n=0 from if_pos (by omega)]
    go_enter Tryz.func70,Tryz.ntmps70
    go_wp2
    go_ret
    exact ⟨rfl,rfl⟩
  · rw [show argsI n=0 from if_pos (by omega)]
    go_enter Tryz.func70,Tryz.ntmps70
    go_wp2
    go_ret
    exact ⟨rfl,rfl⟩
  · rw [show argsI n=n % 6 from if_neg (by omega)]
    go_enter Tryz.func70,Tryz.ntmps70
    go_wp2
    go_ret
    exact ⟨rfl,rfl⟩
theorem r_args (n:Int) (W:World):Calls Tryz.prog 76 #[.int .i64 n] W fun e w'=>e=.returned (.int .i64 (argsI n)) ∧ W=w':=by
  have hc:n < 0 ∨ (0 ≤ n ∧ 16 ≤ n) ∨ (0 ≤ n ∧ n < 16):=by omega
  rcases hc with h | ⟨h,h'⟩ | ⟨h,h'⟩
  · rw [show argsI n=0 from if_pos (by omega)]
    go_enter Tryz.func76,Tryz.ntmps76
    go_wp2
    go_ret
    exact ⟨rfl,rfl⟩
  · rw [show argsI n=0 from if_pos (by omega)]
    go_enter Tryz.func76,Tryz.ntmps76
    go_wp2
    go_ret
    exact ⟨rfl,rfl⟩
  · rw [show argsI n=n % 6 from if_neg (by omega)]
    go_enter Tryz.func76,Tryz.ntmps76
    go_wp2
    go_ret
    exact ⟨rfl,rfl⟩
end Go.Proofs.YtigliofiojkhcaaGreat.Ins
namespace Go.Proofs.YtigliofiojkhcaaGreat.Mdl
open Go.RowKit
set_option linter.unusedVariables false
def onlyI (r:Int):Int:=((2 ^ r.toNat:Nat):Int)
def argsM (n:Int):Int:=((2 ^ n.toNat - 1:Nat):Int) * 2
def orM (a b:Int):Int:=bits BinOp.or IntKind.i64 a b
def andM (a b:Int):Int:=bits BinOp.and IntKind.i64 a b
def secondI (x:Ins.In):Int:=if x.byReg=true then onlyI x.src else 0
def readsM (x:Ins.In):Int:=
  if x.kind=0 then (if x.op=11 then secondI x else orM (onlyI x.dst) (secondI x))
  else if x.kind=1 then onlyI x.src
  else if x.kind=2 then orM (onlyI x.dst) (onlyI x.src)
  else if x.kind=3 then orM (onlyI x.dst) (secondI x)
  else if x.kind=5 then argsM (Ins.argsI x.imm)
  else if x.kind=6 then onlyI 0
  else 0
end Go.Proofs.YtigliofiojkhcaaGreat.Mdl
namespace Go.Proofs.YtigliofiojkhcaaGreat
def cutI (v w:Int):Int:=if w=8 then v % 256 else if w=16 then v % 65536 else if w=32 then v % 4294967296 else v
def sgnI (v w:Int):Int:=
  if w=8 then (v + 128) % 256 - 128 else if w=16 then (v + 32768) % 65536 - 32768 else if w=32 then (v + 2147483648) % 4294967296 - 2147483648 else (v + 9223372036854775808) % 18446744073709551616 - 9223372036854775808
def signI (v w:Int):Int:=
  if w=8 then ((v + 128) % 256 - 128) % 18446744073709551616 else if w=16 then ((v + 32768) % 65536 - 32768) % 18446744073709551616 else if w=32 then ((v + 2147483648) % 4294967296 - 2147483648) % 18446744073709551616 else v
def longB (w:Int):Bool:=w == 32 || w == 64
def cntI (w b:Int):Nat:=if w=32 then (b % 32).toNat else (b % 64).toNat
def opI (op w a b:Int):Int:=
  if op=0 then (a + b) % 18446744073709551616
  else if op=1 then (a - b) % 18446744073709551616
  else if op=2 then (a * b) % 18446744073709551616
  else if op=3 then (if b=0 then 0 else a / b)
  else if op=4 then ((a.toNat ||| b.toNat:Nat):Int)
  else if op=5 then ((a.toNat &&& b.toNat:Nat):Int)
  else if op=6 then (a * 2 ^ cntI w b) % 18446744073709551616
  else if op=7 then a / 2 ^ cntI w b
  else if op=8 then (-a) % 18446744073709551616
  else if op=9 then (if b=0 then a else a % b)
  else if op=10 then ((a.toNat ^^^ b.toNat:Nat):Int)
  else if op=11 then b
  else (sgnI a w / 2 ^ cntI w b) % 18446744073709551616
theorem opI_0 (w a b:Int):opI 0 w a b=(a + b) % 18446744073709551616:=rfl
theorem opI_1 (w a b:Int):opI 1 w a b=(a - b) % 18446744073709551616:=rfl
theorem opI_2 (w a b:Int):opI 2 w a b=(a * b) % 18446744073709551616:=rfl
theorem opI_3 (w a b:Int):opI 3 w a b=if b=0 then 0 else a / b:=rfl
theorem opI_4 (w a b:Int):opI 4 w a b=((a.toNat ||| b.toNat:Nat):Int):=rfl
theorem opI_5 (w a b:Int):opI 5 w a b=((a.toNat &&& b.toNat:Nat):Int):=rfl
theorem opI_6 (w a b:Int):opI 6 w a b=(a * 2 ^ cntI w b) % 18446744073709551616:=rfl
theorem opI_7 (w a b:Int):opI 7 w a b=a / 2 ^ cntI w b:=rfl
theorem opI_8 (w a b:Int):opI 8 w a b=(-a) % 18446744073709551616:=rfl
theorem opI_9 (w a b:Int):opI 9 w a b=if b=0 then a else a % b:=rfl
theorem opI_10 (w a b:Int):opI 10 w a b=((a.toNat ^^^ b.toNat:Nat):Int):=rfl
theorem opI_11 (w a b:Int):opI 11 w a b=b:=rfl
theorem opI_12 (w a b:Int):opI 12 w a b=(sgnI a w / 2 ^ cntI w b) % 18446744073709551616:=rfl
theorem and_31 (b:Int) (h0:0 ≤ b) (h1:b < 18446744073709551616):bits .and .u64 b 31=b % 32:=by
  rw [u64_and b 31 h0 h1 (by omega) (by omega)]
  have:b.toNat &&& (31:Int).toNat=b.toNat % 32:=Nat.and_two_pow_sub_one_eq_mod b.toNat 5
  rw [this];omega
theorem and_63 (b:Int) (h0:0 ≤ b) (h1:b < 18446744073709551616):bits .and .u64 b 63=b % 64:=by
  rw [u64_and b 63 h0 h1 (by omega) (by omega)]
  have:b.toNat &&& (63:Int).toNat=b.toNat % 64:=Nat.and_two_pow_sub_one_eq_mod b.toNat 6
  rw [this];omega
def doI (op w a b:Int):Int:=if 0 ≤ op ∧ op ≤ 12 ∧ longB w=true then cutI (opI op w (cutI a w) (cutI b w)) w else 0
def doE (op w:Int):Int:=if 0 ≤ op ∧ op ≤ 12 ∧ longB w=true then 0 else 2
def ccB (cc w a b:Int):Bool:=
  if cc=0 then a == b
  else if cc=1 then a != b
  else if cc=2 then decide (b < a)
  else if cc=3 then decide (b ≤ a)
  else if cc=4 then decide (a < b)
  else if cc=5 then decide (a ≤ b)
  else if cc=6 then decide (sgnI b w < sgnI a w)
  else if cc=7 then decide (sgnI b w ≤ sgnI a w)
  else if cc=8 then decide (sgnI a w < sgnI b w)
  else if cc=9 then decide (sgnI a w ≤ sgnI b w)
  else ((a.toNat &&& b.toNat:Nat):Int) != 0
def holdsB (cc w a b:Int):Bool:=if 0 ≤ cc ∧ cc ≤ 10 ∧ longB w=true then ccB cc w (cutI a w) (cutI b w) else false
def holdsE (cc w:Int):Int:=if 0 ≤ cc ∧ cc ≤ 10 ∧ longB w=true then 0 else 2
theorem cutI_8 (v:Int):cutI v 8=v % 256:=rfl
theorem cutI_16 (v:Int):cutI v 16=v % 65536:=rfl
theorem cutI_32 (v:Int):cutI v 32=v % 4294967296:=rfl
theorem wrap64_sign32 (v:Int):IntKind.i64.wrap (signI v 32)=sgnI v 32:=by
  rw [IntKind.wrap_i64];unfold signI sgnI;simp only [if_neg (show ¬ (32:Int)=8 by omega),if_neg (show ¬ (32:Int)=16 by omega),if_pos];omega
theorem wrap64_sign64 (v:Int):IntKind.i64.wrap (signI v 64)=sgnI v 64:=by
  rw [IntKind.wrap_i64];unfold signI sgnI;simp only [if_neg (show ¬ (64:Int)=8 by omega),if_neg (show ¬ (64:Int)=16 by omega),if_neg (show ¬ (64:Int)=32 by omega)]
theorem longB_cases {w:Int} (h:longB w=true):w=32 ∨ w=64:=by
  unfold longB at h;simpa using h
theorem cutI_bd (v w:Int) (h0:0 ≤ v) (h1:v < 18446744073709551616):0 ≤ cutI v w ∧ cutI v w < 18446744073709551616:=by
  unfold cutI;split
  · omega
  split
  · omega
  split
  · omega
  · omega
theorem or_bd (a b:Int) (ha1:a < 18446744073709551616) (hb1:b < 18446744073709551616):((a.toNat ||| b.toNat:Nat):Int) < 18446744073709551616:=by
  have:=@Nat.or_lt_two_pow a.toNat b.toNat 64 (by omega) (by omega)
  omega
theorem xor_bd (a b:Int) (ha1:a < 18446744073709551616) (hb1:b < 18446744073709551616):((a.toNat ^^^ b.toNat:Nat):Int) < 18446744073709551616:=by
  have:=@Nat.xor_lt_two_pow a.toNat b.toNat 64 (by omega) (by omega)
  omega
theorem and_bd (a b:Int) (ha1:a < 18446744073709551616):((a.toNat &&& b.toNat:Nat):Int) < 18446744073709551616:=by
  have:=@Nat.and_le_left a.toNat b.toNat
  omega
theorem div_bd (a d:Int) (h0:0 ≤ a) (h1:a < 18446744073709551616) (hd:0 ≤ d):0 ≤ a / d ∧ a / d < 18446744073709551616:=by
  refine ⟨Int.ediv_nonneg h0 hd,?_⟩
  have:=Int.ediv_le_self d h0
  omega
theorem pow_nonneg' (n:Nat):0 ≤ (2:Int) ^ n:=Int.le_of_lt (Int.pow_pos (by omega))
theorem opI_bd (op w a b:Int) (ha0:0 ≤ a) (ha1:a < 18446744073709551616) (hb0:0 ≤ b) (hb1:b < 18446744073709551616):0 ≤ opI op w a b ∧ opI op w a b < 18446744073709551616:=by
  by_cases c0:op=0
  · rw [c0,opI_0]
    omega
  by_cases c1:op=1
  · rw [c1,opI_1]
    omega
  by_cases c2:op=2
  · rw [c2,opI_2]
    omega
  by_cases c3:op=3
  · rw [c3,opI_3]
    split
    · omega
    · exact div_bd a b ha0 ha1 hb0
  by_cases c4:op=4
  · rw [c4,opI_4]
    exact ⟨by omega,or_bd a b ha1 hb1⟩
  by_cases c5:op=5
  · rw [c5,opI_5]
    exact ⟨by omega,and_bd a b ha1⟩
  by_cases c6:op=6
  · rw [c6,opI_6]
    omega
  by_cases c7:op=7
  · rw [c7,opI_7]
    exact div_bd a _ ha0 ha1 (pow_nonneg' _)
  by_cases c8:op=8
  · rw [c8,opI_8]
    omega
  by_cases c9:op=9
  · rw [c9,opI_9]
    split
    · omega
    · have:=Int.emod_nonneg a (show b ≠ 0 by assumption)
      have:=Int.emod_lt_of_pos a (show 0 < b by omega)
      omega
  by_cases c10:op=10
  · rw [c10,opI_10]
    exact ⟨by omega,xor_bd a b ha1 hb1⟩
  by_cases c11:op=11
  · rw [c11,opI_11]
    omega
  have e:opI op w a b=(sgnI a w / 2 ^ cntI w b) % 18446744073709551616:=by
    unfold opI
    rw [if_neg c0,if_neg c1,if_neg c2,if_neg c3,if_neg c4,if_neg c5,if_neg c6,if_neg c7,if_neg c8,if_neg c9,if_neg c10,if_neg c11]
  rw [e];omega
theorem doI_bd (op w a b:Int) (ha0:0 ≤ a) (ha1:a < 18446744073709551616) (hb0:0 ≤ b) (hb1:b < 18446744073709551616):0 ≤ doI op w a b ∧ doI op w a b < 18446744073709551616:=by
  unfold doI
  split
  · obtain ⟨c0,c1⟩:=cutI_bd a w ha0 ha1
    obtain ⟨d0,d1⟩:=cutI_bd b w hb0 hb1
    obtain ⟨e0,e1⟩:=opI_bd op w _ _ c0 c1 d0 d1
    exact cutI_bd _ w e0 e1
  · omega
theorem signI_8 (v:Int):signI v 8=((v + 128) % 256 - 128) % 18446744073709551616:=rfl
theorem signI_16 (v:Int):signI v 16=((v + 32768) % 65536 - 32768) % 18446744073709551616:=rfl
theorem signI_32 (v:Int):signI v 32=((v + 2147483648) % 4294967296 - 2147483648) % 18446744073709551616:=rfl
end Go.Proofs.YtigliofiojkhcaaGreat
