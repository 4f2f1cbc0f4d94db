import Derived.Test.YtigliofiojkhcaaGreatMRn24
import Derived.OwnWalk
set_option linter.unusedVariables false
set_option linter.unusedSimpArgs false
set_option linter.unnecessarySimpa false
namespace Go.Proofs.YtigliofiojkhcaaGreat.Rm
open Go.RowKit
set_option linter.unusedVariables false
set_option maxRecDepth 100000
set_option linter.unnecessarySimpa false
set_option linter.unusedSimpArgs false
structure Rw where
  a:Option Addr
  len:Nat
  cap:Nat
  f:Nat → Int
def Rw.v (R:Rw):Value:=.slice R.a R.len R.cap
structure Rw.at (R:Rw) (w:World) (base:Nat):Prop where
  own:Own w base R.v R.len R.f
  bytes:∀ i,i < R.len → 0 ≤ R.f i ∧ R.f i < 256
  le:R.len ≤ 1000000
structure RefM where
  k:Rw
  x:Rw
  fr:Rw
  s:Rw
structure RefAt (M:RefM) (w:World) (r base:Nat):Prop where
  c0:w.cell? ⟨r,0,none⟩=some M.k.v
  c1:w.cell? ⟨r,1,none⟩=some M.x.v
  c2:w.cell? ⟨r,2,none⟩=some M.fr.v
  c3:w.cell? ⟨r,3,none⟩=some M.s.v
  k:M.k.at w base
  x:M.x.at w base
  fr:M.fr.at w base
  s:M.s.at w base
theorem Rw.at.below {R:Rw} {w w':World} {base:Nat} (h:R.at w base) (b:Below w.heap.size w w'):R.at w' base:=⟨owns_below h.own b,h.bytes,h.le⟩
theorem RefAt.below {M:RefM} {w w':World} {r base:Nat} (h:RefAt M w r base) (b:Below w.heap.size w w'):RefAt M w' r base:=
  ⟨(b.cell (p:=⟨r,0,none⟩) (lt_of_cell h.c0)).trans h.c0,(b.cell (p:=⟨r,1,none⟩) (lt_of_cell h.c1)).trans h.c1,(b.cell (p:=⟨r,2,none⟩) (lt_of_cell h.c2)).trans h.c2,(b.cell (p:=⟨r,3,none⟩) (lt_of_cell h.c3)).trans h.c3,h.k.below b,h.x.below b,h.fr.below b,h.s.below b⟩
def FindIs (M:RefM) (at_ n:Int) (wr:Bool) (v:Value) (k:Int) (ok:Bool):Prop:=
  (withinB at_ n 1048576 M.k.len=true ∧ v=M.k.v ∧ k=at_ - 1048576 ∧ ok=!wr) ∨
  (withinB at_ n 1048576 M.k.len=false ∧ withinB at_ n 2097152 M.x.len=true ∧ v=M.x.v ∧ k=at_ - 2097152 ∧ ok=true) ∨
  (withinB at_ n 1048576 M.k.len=false ∧ withinB at_ n 2097152 M.x.len=false ∧ withinB at_ n 3145728 M.fr.len=true ∧ v=M.fr.v ∧ k=at_ - 3145728 ∧ ok=true) ∨
  (withinB at_ n 1048576 M.k.len=false ∧ withinB at_ n 2097152 M.x.len=false ∧ withinB at_ n 3145728 M.fr.len=false ∧ withinB at_ n 4194304 M.s.len=true ∧ v=M.s.v ∧ k=at_ - 4194304 ∧ ok=true) ∨
  (withinB at_ n 1048576 M.k.len=false ∧ withinB at_ n 2097152 M.x.len=false ∧ withinB at_ n 3145728 M.fr.len=false ∧ withinB at_ n 4194304 M.s.len=false ∧ ok=false)
def Found (M:RefM) (at_ n:Int) (wr:Bool) (W:World) (e:Ending) (w':World):Prop:=(∃ v k ok,e=.returned (.tuple #[v,.int .i64 k,.bool ok]) ∧ FindIs M at_ n wr v k ok) ∧ W=w'
set_option maxHeartbeats 1000000 in
theorem find0 (M:RefM) (r base:Nat) (at_ n:Int) (wr:Bool) (W:World) (h:RefAt M W r base) (a0:0 ≤ at_) (a1:at_ < 18446744073709551616) (h0:withinB at_ n 1048576 M.k.len=true):
    Calls Tryz.prog 81 #[.pointer (some ⟨r,0,none⟩),.int .u64 at_,.int .i64 n,.bool wr] W (Found M at_ n wr W):=by
  have D0:=r_within at_ n 1048576 M.k.a M.k.len M.k.cap W a0 a1 (by decide) (by decide) h.k.le
  rw [h0] at D0
  have E0:=Lib.hid D0;clear D0
  have c0:=h.c0;have c1:=h.c1;have c2:=h.c2;have c3:=h.c3
  have HH:=Lib.hid (And.intro h (And.intro h0 trivial));clear h
  simp only [Rw.v] at c0 c1 c2 c3
  have G:∀ v k ok,FindIs M at_ n wr v k ok → Found M at_ n wr W (.returned (.tuple #[v,.int .i64 k,.bool ok])) W:=fun v k ok hf=>⟨⟨v,k,ok,rfl,hf⟩,rfl⟩
  have GG:=Lib.hid (G M.k.v (at_ - 1048576) (!wr) (.inl ⟨h0,rfl,rfl,rfl⟩))
  clear G h0
  go_enter Tryz.func81,Tryz.ntmps81
  go_wp2_with fail
  refine E0.out.mono ?_
  rintro e w ⟨⟨k,rfl,hk⟩,rfl⟩
  obtain rfl:=hk trivial
  go_wp2_with fail
  go_ret3
  exact GG.out
set_option maxHeartbeats 1000000 in
theorem find1 (M:RefM) (r base:Nat) (at_ n:Int) (wr:Bool) (W:World) (h:RefAt M W r base) (a0:0 ≤ at_) (a1:at_ < 18446744073709551616) (h0:withinB at_ n 1048576 M.k.len=false) (h1:withinB at_ n 2097152 M.x.len=true):
    Calls Tryz.prog 81 #[.pointer (some ⟨r,0,none⟩),.int .u64 at_,.int .i64 n,.bool wr] W (Found M at_ n wr W):=by
  have D0:=r_within at_ n 1048576 M.k.a M.k.len M.k.cap W a0 a1 (by decide) (by decide) h.k.le
  rw [h0] at D0
  have D1:=r_within at_ n 2097152 M.x.a M.x.len M.x.cap W a0 a1 (by decide) (by decide) h.x.le
  rw [h1] at D1
  have E0:=Lib.hid D0;clear D0
  have E1:=Lib.hid D1;clear D1
  have c0:=h.c0;have c1:=h.c1;have c2:=h.c2;have c3:=h.c3
  have HH:=Lib.hid (And.intro h (And.intro h0 trivial));clear h
  simp only [Rw.v] at c0 c1 c2 c3
  have G:∀ v k ok,FindIs M at_ n wr v k ok → Found M at_ n wr W (.returned (.tuple #[v,.int .i64 k,.bool ok])) W:=fun v k ok hf=>⟨⟨v,k,ok,rfl,hf⟩,rfl⟩
  have GG:=Lib.hid (G M.x.v (at_ - 2097152) true (.inr (.inl ⟨h0,h1,rfl,rfl,rfl⟩)))
  clear G h0 h1
  go_enter Tryz.func81,Tryz.ntmps81
  go_wp2_with fail
  refine E0.out.mono ?_
  rintro e w ⟨⟨k0,rfl,hk⟩,rfl⟩
  clear hk
  go_wp2_with fail
  refine E1.out.mono ?_
  rintro e w ⟨⟨k,rfl,hk⟩,rfl⟩
  obtain rfl:=hk trivial
  go_wp2_with fail
  go_ret3
  exact GG.out
set_option maxHeartbeats 1000000 in
theorem find2 (M:RefM) (r base:Nat) (at_ n:Int) (wr:Bool) (W:World) (h:RefAt M W r base) (a0:0 ≤ at_) (a1:at_ < 18446744073709551616) (h0:withinB at_ n 1048576 M.k.len=false) (h1:withinB at_ n 2097152 M.x.len=false) (h2:withinB at_ n 3145728 M.fr.len=true):
    Calls Tryz.prog 81 #[.pointer (some ⟨r,0,none⟩),.int .u64 at_,.int .i64 n,.bool wr] W (Found M at_ n wr W):=by
  have D0:=r_within at_ n 1048576 M.k.a M.k.len M.k.cap W a0 a1 (by decide) (by decide) h.k.le
  rw [h0] at D0
  have D1:=r_within at_ n 2097152 M.x.a M.x.len M.x.cap W a0 a1 (by decide) (by decide) h.x.le
  rw [h1] at D1
  have D2:=r_within at_ n 3145728 M.fr.a M.fr.len M.fr.cap W a0 a1 (by decide) (by decide) h.fr.le
  rw [h2] at D2
  have E0:=Lib.hid D0;clear D0
  have E1:=Lib.hid D1;clear D1
  have E2:=Lib.hid D2;clear D2
  have c0:=h.c0;have c1:=h.c1;have c2:=h.c2;have c3:=h.c3
  have HH:=Lib.hid (And.intro h (And.intro h0 trivial));clear h
  simp only [Rw.v] at c0 c1 c2 c3
  have G:∀ v k ok,FindIs M at_ n wr v k ok → Found M at_ n wr W (.returned (.tuple #[v,.int .i64 k,.bool ok])) W:=fun v k ok hf=>⟨⟨v,k,ok,rfl,hf⟩,rfl⟩
  have GG:=Lib.hid (G M.fr.v (at_ - 3145728) true (.inr (.inr (.inl ⟨h0,h1,h2,rfl,rfl,rfl⟩))))
  clear G h0 h1 h2
  go_enter Tryz.func81,Tryz.ntmps81
  go_wp2_with fail
  refine E0.out.mono ?_
  rintro e w ⟨⟨k0,rfl,hk⟩,rfl⟩
  clear hk
  go_wp2_with fail
  refine E1.out.mono ?_
  rintro e w ⟨⟨k1,rfl,hk⟩,rfl⟩
  clear hk
  go_wp2_with fail
  refine E2.out.mono ?_
  rintro e w ⟨⟨k,rfl,hk⟩,rfl⟩
  obtain rfl:=hk trivial
  go_wp2_with fail
  go_ret3
  exact GG.out
set_option maxHeartbeats 1000000 in
theorem find3 (M:RefM) (r base:Nat) (at_ n:Int) (wr:Bool) (W:World) (h:RefAt M W r base) (a0:0 ≤ at_) (a1:at_ < 18446744073709551616) (h0:withinB at_ n 1048576 M.k.len=false) (h1:withinB at_ n 2097152 M.x.len=false) (h2:withinB at_ n 3145728 M.fr.len=false) (h3:withinB at_ n 4194304 M.s.len=true):
    Calls Tryz.prog 81 #[.pointer (some ⟨r,0,none⟩),.int .u64 at_,.int .i64 n,.bool wr] W (Found M at_ n wr W):=by
  have D0:=r_within at_ n 1048576 M.k.a M.k.len M.k.cap W a0 a1 (by decide) (by decide) h.k.le
  rw [h0] at D0
  have D1:=r_within at_ n 2097152 M.x.a M.x.len M.x.cap W a0 a1 (by decide) (by decide) h.x.le
  rw [h1] at D1
  have D2:=r_within at_ n 3145728 M.fr.a M.fr.len M.fr.cap W a0 a1 (by decide) (by decide) h.fr.le
  rw [h2] at D2
  have D3:=r_within at_ n 4194304 M.s.a M.s.len M.s.cap W a0 a1 (by decide) (by decide) h.s.le
  rw [h3] at D3
  have E0:=Lib.hid D0;clear D0
  have E1:=Lib.hid D1;clear D1
  have E2:=Lib.hid D2;clear D2
  have E3:=Lib.hid D3;clear D3
  have c0:=h.c0;have c1:=h.c1;have c2:=h.c2;have c3:=h.c3
  have HH:=Lib.hid (And.intro h (And.intro h0 trivial));clear h
  simp only [Rw.v] at c0 c1 c2 c3
  have G:∀ v k ok,FindIs M at_ n wr v k ok → Found M at_ n wr W (.returned (.tuple #[v,.int .i64 k,.bool ok])) W:=fun v k ok hf=>⟨⟨v,k,ok,rfl,hf⟩,rfl⟩
  have GG:=Lib.hid (G M.s.v (at_ - 4194304) true (.inr (.inr (.inr (.inl ⟨h0,h1,h2,h3,rfl,rfl,rfl⟩)))))
  clear G h0 h1 h2 h3
  go_enter Tryz.func81,Tryz.ntmps81
  go_wp2_with fail
  refine E0.out.mono ?_
  rintro e w ⟨⟨k0,rfl,hk⟩,rfl⟩
  clear hk
  go_wp2_with fail
  refine E1.out.mono ?_
  rintro e w ⟨⟨k1,rfl,hk⟩,rfl⟩
  clear hk
  go_wp2_with fail
  refine E2.out.mono ?_
  rintro e w ⟨⟨k2,rfl,hk⟩,rfl⟩
  clear hk
  go_wp2_with fail
  refine E3.out.mono ?_
  rintro e w ⟨⟨k,rfl,hk⟩,rfl⟩
  obtain rfl:=hk trivial
  go_wp2_with fail
  go_ret3
  exact GG.out
set_option maxHeartbeats 1000000 in
theorem find4 (M:RefM) (r base:Nat) (at_ n:Int) (wr:Bool) (W:World) (h:RefAt M W r base) (a0:0 ≤ at_) (a1:at_ < 18446744073709551616) (h0:withinB at_ n 1048576 M.k.len=false) (h1:withinB at_ n 2097152 M.x.len=false) (h2:withinB at_ n 3145728 M.fr.len=false) (h3:withinB at_ n 4194304 M.s.len=false):
    Calls Tryz.prog 81 #[.pointer (some ⟨r,0,none⟩),.int .u64 at_,.int .i64 n,.bool wr] W (Found M at_ n wr W):=by
  have D0:=r_within at_ n 1048576 M.k.a M.k.len M.k.cap W a0 a1 (by decide) (by decide) h.k.le
  rw [h0] at D0
  have D1:=r_within at_ n 2097152 M.x.a M.x.len M.x.cap W a0 a1 (by decide) (by decide) h.x.le
  rw [h1] at D1
  have D2:=r_within at_ n 3145728 M.fr.a M.fr.len M.fr.cap W a0 a1 (by decide) (by decide) h.fr.le
  rw [h2] at D2
  have D3:=r_within at_ n 4194304 M.s.a M.s.len M.s.cap W a0 a1 (by decide) (by decide) h.s.le
  rw [h3] at D3
  have E0:=Lib.hid D0;clear D0
  have E1:=Lib.hid D1;clear D1
  have E2:=Lib.hid D2;clear D2
  have E3:=Lib.hid D3;clear D3
  have c0:=h.c0;have c1:=h.c1;have c2:=h.c2;have c3:=h.c3
  have HH:=Lib.hid (And.intro h (And.intro h0 trivial));clear h
  simp only [Rw.v] at c0 c1 c2 c3
  have G:∀ v k ok,FindIs M at_ n wr v k ok → Found M at_ n wr W (.returned (.tuple #[v,.int .i64 k,.bool ok])) W:=fun v k ok hf=>⟨⟨v,k,ok,rfl,hf⟩,rfl⟩
  have GG:=Lib.hid (fun v k=>G v k false (.inr (.inr (.inr (.inr ⟨h0,h1,h2,h3,rfl⟩)))))
  clear G h0 h1 h2 h3
  go_enter Tryz.func81,Tryz.ntmps81
  go_wp2_with fail
  refine E0.out.mono ?_
  rintro e w ⟨⟨k0,rfl,hk⟩,rfl⟩
  clear hk
  go_wp2_with fail
  refine E1.out.mono ?_
  rintro e w ⟨⟨k1,rfl,hk⟩,rfl⟩
  clear hk
  go_wp2_with fail
  refine E2.out.mono ?_
  rintro e w ⟨⟨k2,rfl,hk⟩,rfl⟩
  clear hk
  go_wp2_with fail
  refine E3.out.mono ?_
  rintro e w ⟨⟨k3,rfl,hk⟩,rfl⟩
  clear hk
  go_wp2_with fail
  go_ret3
  exact GG.out _ _
theorem r_find (M:RefM) (r base:Nat) (at_ n:Int) (wr:Bool) (W:World) (h:RefAt M W r base) (a0:0 ≤ at_) (a1:at_ < 18446744073709551616):
    Calls Tryz.prog 81 #[.pointer (some ⟨r,0,none⟩),.int .u64 at_,.int .i64 n,.bool wr] W (Found M at_ n wr W):=by
  cases h0:withinB at_ n 1048576 M.k.len
  · cases h1:withinB at_ n 2097152 M.x.len
    · cases h2:withinB at_ n 3145728 M.fr.len
      · cases h3:withinB at_ n 4194304 M.s.len
        · exact find4 M r base at_ n wr W h a0 a1 h0 h1 h2 h3
        · exact find3 M r base at_ n wr W h a0 a1 h0 h1 h2 h3
      · exact find2 M r base at_ n wr W h a0 a1 h0 h1 h2
    · exact find1 M r base at_ n wr W h a0 a1 h0 h1
  · exact find0 M r base at_ n wr W h a0 a1 h0
end Go.Proofs.YtigliofiojkhcaaGreat.Rm
namespace Go.Proofs.YtigliofiojkhcaaGreat.Rm
open Go.RowKit
set_option linter.unusedVariables false
set_option maxRecDepth 100000
set_option linter.unnecessarySimpa false
set_option linter.unusedSimpArgs false
theorem Rw.at.open {R:Rw} {w:World} {base:Nat} (h:R.at w base) (h0:0 < R.len):∃ g,R.a=some ⟨g,0,none⟩ ∧ base ≤ g ∧ R.len ≤ R.cap ∧ R.cap ≤ 9223372036854775807 ∧ ∀ i,i < R.len → w.cell? ⟨g,i,none⟩=some (.int .u8 (R.f i)):=by
  have ho:=h.own
  rcases ho.2 with ⟨h1,h2⟩ | ⟨g,cap,cur,e1,e2,e3,e4,e5,e6⟩
  · omega
  · have hv:R.a=some ⟨g,0,none⟩ ∧ R.cap=cap:=by unfold Rw.v at e1;injection e1 with x1 x2 x3;exact ⟨x1,x3⟩
    refine ⟨g,hv.1,e2,by omega,by have:=e5;unfold maxLen at this;omega,fun i hi=>?_⟩
    have hc:=World.ownsRow.cells ho (g:=g) (by rw [e1];rfl) i _ (bytesOf_get R.f R.len i hi)
    rwa [Go.WideShapes.add_plain,Nat.zero_add] at hc
theorem withinB_true {a n base:Int} {len:Nat} (h:withinB a n base len=true):base ≤ a ∧ a - base < len ∧ n ≤ len - (a - base):=of_decide_eq_true h
def Which (M:RefM) (a k:Int) (R:Rw):Prop:=(k=a - 1048576 ∧ R=M.k) ∨ (k=a - 2097152 ∧ R=M.x) ∨ (k=a - 3145728 ∧ R=M.fr) ∨ (k=a - 4194304 ∧ R=M.s)
theorem found_in {M:RefM} {w:World} {r base:Nat} (h:RefAt M w r base) {a n:Int} {wr:Bool} {v:Value} {k:Int} (hf:FindIs M a n wr v k true):∃ R:Rw,R.at w base ∧ v=R.v ∧ 0 ≤ k ∧ k < R.len ∧ k + n ≤ R.len ∧ Which M a k R:=by
  rcases hf with ⟨h0,rfl,rfl,_⟩ | ⟨_,h1,rfl,rfl,_⟩ | ⟨_,_,h2,rfl,rfl,_⟩ | ⟨_,_,_,h3,rfl,rfl,_⟩ | ⟨_,_,_,_,h4⟩
  · have:=withinB_true h0;exact ⟨M.k,h.k,rfl,by omega,by omega,by omega,.inl ⟨rfl,rfl⟩⟩
  · have:=withinB_true h1;exact ⟨M.x,h.x,rfl,by omega,by omega,by omega,.inr (.inl ⟨rfl,rfl⟩)⟩
  · have:=withinB_true h2;exact ⟨M.fr,h.fr,rfl,by omega,by omega,by omega,.inr (.inr (.inl ⟨rfl,rfl⟩))⟩
  · have:=withinB_true h3;exact ⟨M.s,h.s,rfl,by omega,by omega,by omega,.inr (.inr (.inr ⟨rfl,rfl⟩))⟩
  · cases h4
def RefRead (M:RefM) (a n:Int) (W w:World) (base:Nat) (e:Ending):Prop:=
  (sizedB n=false ∧ e=.returned (.tuple #[.int .u64 0,.int .i64 2])) ∨
  (sizedB n=true ∧ ∃ v k ok,FindIs M a n false v k ok ∧ ((ok=false ∧ e=.returned (.tuple #[.int .u64 0,.int .i64 20])) ∨ (ok=true ∧ ∃ R:Rw,Which M a k R ∧ R.at W base ∧ v=R.v ∧ 0 ≤ k ∧ k + n ≤ R.len ∧ e=.returned (.tuple #[.int .u64 (getI (fun t=>R.f (k.toNat + t)) n.toNat),.int .i64 0]))))
def vI (f:Nat → Int) (k n j:Nat):Int:=getI (fun t=>f (k + j + t)) (n - j)
theorem vI_bd (f:Nat → Int) (k n j:Nat) (hn:n ≤ 8) (hb:∀ i,i < k + n → 0 ≤ f i ∧ f i < 256):0 ≤ vI f k n j ∧ vI f k n j < 2 ^ (8 * (n - j)):=
  getI_bd _ _ fun i hi=>hb _ (by omega)
theorem vI_step (f:Nat → Int) (k n j:Nat) (hj:j < n):vI f k n j=vI f k n (j + 1) * 256 + f (k + j):=by
  unfold vI
  rw [show n - j=1 + (n - (j + 1)) by omega,getI_add]
  have e1:getI (fun t=>f (k + j + t)) 1=f (k + j):=by unfold getI getI;simp
  have e2:getI (fun i=>f (k + j + (1 + i))) (n - (j + 1))=getI (fun t=>f (k + (j + 1) + t)) (n - (j + 1)):=getI_congr _ fun i _=>by rw [show k + j + (1 + i)=k + (j + 1) + i by omega]
  simp only [e1,e2]
  omega
theorem or256 {V B:Int} (h0:0 ≤ V) (h1:V < 72057594037927936) (b0:0 ≤ B) (b1:B < 256):bits .or .u64 (V * 256) B=V * 256 + B:=by
  obtain ⟨v,rfl⟩:∃ v:Nat,V=v:=⟨V.toNat,by omega⟩
  obtain ⟨b,rfl⟩:∃ b:Nat,B=b:=⟨B.toNat,by omega⟩
  rw [show (v:Int) * 256=((v * 256:Nat):Int) by omega,bits_or_u64_nat _ _ (by omega) (by omega)]
  have hb:b < 2 ^ 8:=by omega
  have:=Nat.shiftLeft_add_eq_or_of_lt hb v
  rw [Nat.shiftLeft_eq] at this
  have e:v * 2 ^ 8=v * 256:=rfl
  rw [e] at this
  omega
theorem pow_le_56 (k:Nat) (h:k ≤ 7):(2:Int) ^ (8 * k) ≤ 72057594037927936:=by
  obtain rfl | rfl | rfl | rfl | rfl | rfl | rfl | rfl:k=0 ∨ k=1 ∨ k=2 ∨ k=3 ∨ k=4 ∨ k=5 ∨ k=6 ∨ k=7:=by omega
  all_goals decide
set_option maxHeartbeats 2000000 in
theorem r_read (M:RefM) (r base:Nat) (at_ n:Int) (W:World) (h:RefAt M W r base) (a0:0 ≤ at_) (a1:at_ < 18446744073709551616):
    Calls Tryz.prog 48 #[.pointer (some ⟨r,0,none⟩),.int .u64 at_,.int .i64 n] W fun e w'=>RefRead M at_ n W W base e ∧ W=w':=by
  have D:=r_sized n W
  have F:=r_find M r base at_ n false W h a0 a1
  unfold RefRead
  cases hs:sizedB n
  · rw [hs] at D
    have E:=Lib.hid D;clear D F h hs
    go_enter Tryz.func48,Tryz.ntmps48
    go_wp2_with fail
    refine E.out.mono ?_
    rintro e w ⟨rfl,rfl⟩
    go_wp2_with fail
    go_ret2
    exact ⟨.inl ⟨trivial,rfl⟩,rfl⟩
  · rw [hs] at D
    obtain ⟨m,rfl,hm⟩:∃ m:Nat,n=m ∧ (m=1 ∨ m=2 ∨ m=4 ∨ m=8):=by
      have:((n=1 ∨ n=2) ∨ n=4) ∨ n=8:=by simpa [sizedB,or_assoc] using hs
      exact ⟨n.toNat,by omega,by omega⟩
    have E:=Lib.hid D;have F':=Lib.hid F;have H:=Lib.hid h;clear D F h hs
    go_enter Tryz.func48,Tryz.ntmps48
    go_wp2_with fail
    refine E.out.mono ?_
    rintro e w ⟨rfl,rfl⟩
    go_wp2_with fail
    refine F'.out.mono ?_
    rintro e w ⟨⟨v,k,ok,rfl,hf⟩,rfl⟩
    cases ok with
    | false=>
      have HF:=Lib.hid hf;clear hf
      go_wp2_with fail
      go_ret2
      exact ⟨.inr ⟨trivial,v,k,false,HF.out,.inl ⟨rfl,rfl⟩⟩,rfl⟩
    | true=>
      obtain ⟨R,hR,hv,k0,kl,kn,hwh⟩:=found_in H.out hf
      have HW:=Lib.hid hwh;clear hwh
      have HF:=Lib.hid hf;clear hf
      obtain ⟨g,hg,_,hlc,hcm,hc⟩:=hR.open (by omega)
      obtain ⟨K,rfl⟩:∃ K:Nat,k=K:=⟨k.toNat,by omega⟩
      have hb:=hR.bytes
      have hl6:=hR.le
      have HR:=Lib.hid hR;have HC:=Lib.hid hc;have HB:=Lib.hid hb
      have HV:=Lib.hid hv
      clear hR hc hb
      have hv':v=.slice (some ⟨g,0,none⟩) R.len R.cap:=by rw [hv];unfold Rw.v;rw [hg]
      clear hv
      subst hv'
      clear hg
      generalize hL:R.len=L at *
      generalize hCp:R.cap=Cp at *
      go_wp2_with fail
      go_loopw [11,12] (fun x i wr=>∃ j:Nat,j ≤ m ∧ x=.int .u64 (vI R.f K m j) ∧ i=.int .i64 ((j:Int) - 1) ∧ wr=W) (fun _ i _=>(intOf i + 1).toNat)
      case atStart=>exact ⟨m,Nat.le_refl _,by unfold vI;rw [Nat.sub_self];rfl,by go_num,rfl⟩
      case round=>
        obtain ⟨j,hj,rfl,rfl,rfl⟩:=hrel
        rcases j with _ | j
        · go_wp2_with fail
          go_ret2
          refine ⟨.inr ⟨trivial,_,_,true,HF.out,.inr ⟨rfl,R,HW.out,HR.out,HV.out,by omega,by rw [hL];omega,?_⟩⟩,rfl⟩
          simp [vI]
        · have hcell:=HC.out (K + j) (by omega)
          have hby:=HB.out (K + j) (by omega)
          have hst:=vI_step R.f K m j (by omega)
          have hbd:=vI_bd R.f K m (j + 1) (by omega) (fun i hi=>HB.out i (by omega))
          have hp:=pow_le_56 (m - (j + 1)) (by omega)
          generalize vI R.f K m (j + 1)=V at *
          generalize R.f (K + j)=B at *
          go_wp2_with fail
          go_roundw
          case rel=>exact ⟨j,by omega,by rw [hst,or256 hbd.1 (by omega) hby.1 hby.2],by go_num,trivial⟩
          case measure=>simp [intOf]
end Go.Proofs.YtigliofiojkhcaaGreat.Rm
namespace Go.Proofs.YtigliofiojkhcaaGreat.Rm
open Go.RowKit
set_option linter.unusedVariables false
set_option maxRecDepth 100000
set_option linter.unnecessarySimpa false
set_option linter.unusedSimpArgs false
def putF (f:Nat → Int) (k n:Nat) (v:Int):Nat → Int:=fun i=>if k ≤ i ∧ i < k + n then byteI v (i - k) else f i
theorem putF_zero (f:Nat → Int) (k:Nat) (v:Int):putF f k 0 v=f:=by
  funext i;unfold putF;rw [if_neg (by omega)]
theorem putF_step (f:Nat → Int) (k n:Nat) (v:Int):(fun i=>if i=k + n then byteI v n else putF f k n v i)=putF f k (n + 1) v:=by
  funext i
  unfold putF
  by_cases h:i=k + n
  · subst h
    rw [if_pos rfl,if_pos (by omega),show k + n - k=n by omega]
  · rw [if_neg h]
    by_cases h2:k ≤ i ∧ i < k + n
    · rw [if_pos h2,if_pos (by omega)]
    · rw [if_neg h2,if_neg (by omega)]
theorem own_store {w:World} {base g L Cp:Nat} {f:Nat → Int} (h:Own w base (.slice (some ⟨g,0,none⟩) L Cp) L f) {i:Nat} (hi:i < L):∃ cur,w.heap[g]?=some (.cells cur 5 (0,0)) ∧ i < cur.size ∧ base ≤ g ∧ ∀ (b:Int) (w':World),Stored w g (cur.setIfInBounds i (.int .u8 b)) 5 w' → Own w' base (.slice (some ⟨g,0,none⟩) L Cp) L (fun j=>if j=i then b else f j):=by
  rcases h.2 with ⟨h1,h2⟩ | ⟨g',cap,cur,e1,e2,e3,e4,e5,e6,e7⟩
  · omega
  · injection e1 with x1 x2 x3
    injection x1 with x1
    injection x1 with x1 _ _
    subst x1;subst x3
    refine ⟨cur,e3,by omega,e2,fun b w' s=>⟨by rw [bytesOf_length];omega,.inr ⟨g,Cp,_,rfl,e2,s.row,e4,e5,by rw [Array.size_setIfInBounds];exact e6,?_⟩⟩⟩
    apply List.ext_getElem?
    intro j
    by_cases hj:j < L
    · rw [bytesOf_get _ _ j hj,List.getElem?_take_of_lt (by omega),Array.getElem?_toList,Array.getElem?_setIfInBounds]
      by_cases hij:i=j
      · subst hij
        rw [if_pos rfl,if_pos (by omega),if_pos rfl]
      · rw [if_neg hij,if_neg (fun h=>hij h.symm)]
        have:=congrArg (fun l=>l[j]?) e7
        simp only [List.getElem?_take_of_lt (show j < L * 1 by omega),Array.getElem?_toList] at this
        rw [this,bytesOf_get f L j hj]
    · rw [List.getElem?_eq_none (l:=bytesOf _ _) (by rw [bytesOf_length];omega),List.getElem?_eq_none (by rw [List.length_take];omega)]
theorem and255 {V:Int} (h0:0 ≤ V) (h1:V < 18446744073709551616):bits .and .u64 V 255=V % 256:=by
  obtain ⟨v,rfl⟩:∃ v:Nat,V=v:=⟨V.toNat,by omega⟩
  rw [show (255:Int)=((255:Nat):Int) by rfl,bits_and_u64_nat _ _ (by omega) (by omega)]
  have:=Nat.and_two_pow_sub_one_eq_mod v 8
  rw [show 2 ^ 8 - 1=255 by rfl,show 2 ^ 8=256 by rfl] at this
  omega
theorem shr_step (v:Int) (j:Nat):v / 2 ^ (8 * j) / 256=v / 2 ^ (8 * (j + 1)):=by
  rw [Int.ediv_ediv_of_nonneg (Int.pow_nonneg (by omega)),show 8 * (j + 1)=8 * j + 8 by omega,Int.pow_add]
  rfl
theorem shr_bd {v:Int} (h0:0 ≤ v) (h1:v < 18446744073709551616) (j:Nat):0 ≤ v / 2 ^ (8 * j) ∧ v / 2 ^ (8 * j) < 18446744073709551616:=
  ⟨Int.ediv_nonneg h0 (Int.pow_nonneg (by omega)),Int.lt_of_le_of_lt (Int.ediv_le_self _ h0) h1⟩
theorem ChgAt.refl (b:Nat) (W:World):ChgAt b W W:=⟨rfl,rfl,rfl,Nat.le_refl _,fun _ _ _=>rfl⟩
theorem ChgAt.store {b:Nat} {W w w':World} {cells:Array Value} {t:TypeId} (h:ChgAt b W w) (s:Stored w b cells t w'):ChgAt b W w':=
  ⟨s.os.trans h.os,s.tape.trans h.tape,s.output.trans h.output,by rw [s.size];exact h.size,fun k hk hn=>(s.other k hn).trans (h.block k hk hn)⟩
def RefWrite (M:RefM) (a n v:Int) (W w:World) (base:Nat) (e:Ending):Prop:=
  (sizedB n=false ∧ e=.returned (.int .i64 2) ∧ W=w) ∨
  (sizedB n=true ∧ ∃ u k ok,FindIs M a n true u k ok ∧ ((ok=false ∧ e=.returned (.int .i64 20) ∧ W=w) ∨
    (ok=true ∧ e=.returned (.int .i64 0) ∧ ∃ (R:Rw) (g:Nat),Which M a k R ∧ R.a=some ⟨g,0,none⟩ ∧ base ≤ g ∧ 0 ≤ k ∧ k + n ≤ R.len ∧ Own w base (.slice (some ⟨g,0,none⟩) R.len R.cap) R.len (putF R.f k.toNat n.toNat v) ∧ ChgAt g W w)))
set_option maxHeartbeats 2000000 in
theorem r_write (M:RefM) (r base:Nat) (at_ n vv:Int) (W:World) (h:RefAt M W r base) (a0:0 ≤ at_) (a1:at_ < 18446744073709551616) (v0:0 ≤ vv) (v1:vv < 18446744073709551616):
    Calls Tryz.prog 49 #[.pointer (some ⟨r,0,none⟩),.int .u64 at_,.int .i64 n,.int .u64 vv] W fun e w'=>RefWrite M at_ n vv W w' base e:=by
  have D:=r_sized n W
  have F:=r_find M r base at_ n true W h a0 a1
  unfold RefWrite
  cases hs:sizedB n
  · rw [hs] at D
    have E:=Lib.hid D;clear D F h hs
    go_enter Tryz.func49,Tryz.ntmps49
    go_wp2_with fail
    refine E.out.mono ?_
    rintro e w ⟨rfl,rfl⟩
    go_wp2_with fail
    go_ret
    exact .inl ⟨trivial,rfl,rfl⟩
  · rw [hs] at D
    obtain ⟨m,rfl,hm⟩:∃ m:Nat,n=m ∧ (m=1 ∨ m=2 ∨ m=4 ∨ m=8):=by
      have:((n=1 ∨ n=2) ∨ n=4) ∨ n=8:=by simpa [sizedB,or_assoc] using hs
      exact ⟨n.toNat,by omega,by omega⟩
    have E:=Lib.hid D;have F':=Lib.hid F;have H:=Lib.hid h;clear D F h hs
    go_enter Tryz.func49,Tryz.ntmps49
    go_wp2_with fail
    refine E.out.mono ?_
    rintro e w ⟨rfl,rfl⟩
    go_wp2_with fail
    refine F'.out.mono ?_
    rintro e w ⟨⟨v,k,ok,rfl,hf⟩,rfl⟩
    cases ok with
    | false=>
      have HF:=Lib.hid hf;clear hf
      go_wp2_with fail
      go_ret
      exact .inr ⟨trivial,v,k,false,HF.out,.inl ⟨rfl,rfl,rfl⟩⟩
    | true=>
      obtain ⟨R,hR,hv,k0,kl,kn,hwh⟩:=found_in H.out hf
      have HW:=Lib.hid hwh;clear hwh
      have HF:=Lib.hid hf;clear hf
      obtain ⟨g,hg,hbg,hlc,hcm,hc⟩:=hR.open (by omega)
      obtain ⟨K,rfl⟩:∃ K:Nat,k=K:=⟨k.toNat,by omega⟩
      have ho:=hR.own
      have hl6:=hR.le
      have hv':v=.slice (some ⟨g,0,none⟩) R.len R.cap:=by rw [hv];unfold Rw.v;rw [hg]
      rw [← hv,hv'] at ho
      have HO:=Lib.hid ho
      clear hR hc hv ho
      subst hv'
      have HG:=Lib.hid hg;clear hg
      generalize hfe:R.f=f at *
      generalize hLe:R.len=L at *
      generalize hCe:R.cap=Cp at *
      go_wp2_with fail
      go_loopw [3,12] (fun x i wr=>∃ j:Nat,j ≤ m ∧ x=.int .u64 (vv / 2 ^ (8 * j)) ∧ i=.int .i64 j ∧ Hid (ChgAt g W wr ∧ Own wr base (.slice (some ⟨g,0,none⟩) L Cp) L (putF f K j vv))) (fun _ i _=>m - (intOf i).toNat)
      case atStart=>exact ⟨0,by omega,by simp,rfl,Lib.hid ⟨ChgAt.refl g W,by rw [putF_zero];exact HO.out⟩⟩
      case round=>
        obtain ⟨j,hj,rfl,rfl,hR⟩:=hrel
        by_cases hlt:j < m
        · obtain ⟨cur,hcur,hsz,_,hst⟩:=own_store hR.out.2 (i:=K + j) (by omega)
          have sb:=shr_bd v0 v1 j
          have ha:=and255 sb.1 sb.2
          have HS:=Lib.hid hst;have HCu:=Lib.hid hcur
          have hstep:=Lib.hid (shr_step vv j)
          have hpf:=Lib.hid (putF_step f K j vv)
          have hby:byteI vv j=vv / 2 ^ (8 * j) % 256:=rfl
          have HB:=Lib.hid hby
          clear hst hcur hby
          generalize vv / 2 ^ (8 * j)=V at *
          go_wp2_with (refine wpList_store_cell rfl 5 _ _ rfl g (K + j) (.int .u8 (V % 256)) rfl ?_ rfl rfl 5 cur HCu.out info_u8n hsz ?_;(focus (simp [Act.eval,ha]));intro w1 s1)
          have C1:=Lib.hid (ChgAt.store hR.out.1 s1)
          have O1:=Lib.hid (show Own w1 base (.slice (some ⟨g,0,none⟩) L Cp) L (putF f K (j + 1) vv) by have:=HS.out _ _ s1;rw [← HB.out,hpf.out] at this;exact this)
          clear s1 HS HCu
          go_wp2_with fail
          go_roundw
          case rel=>exact ⟨j + 1,by omega,by rw [← hstep.out],by go_num,Lib.hid ⟨C1.out,O1.out⟩⟩
          case measure=>simp [intOf];omega
        · obtain rfl:j=m:=by omega
          go_wp2_with fail
          go_ret
          exact .inr ⟨trivial,_,_,true,HF.out,.inr ⟨rfl,rfl,R,g,HW.out,HG.out,hbg,k0,by rw [hLe];exact kn,by rw [hLe,hCe,hfe];simpa using hR.out.2,hR.out.1⟩⟩
end Go.Proofs.YtigliofiojkhcaaGreat.Rm
namespace Go.Proofs.YtigliofiojkhcaaGreat.Rm
open Go.RowKit
set_option linter.unusedVariables false
set_option maxRecDepth 100000
set_option linter.unnecessarySimpa false
set_option linter.unusedSimpArgs false
theorem Rw.at.src {R:Rw} {w:World} {base:Nat} (h:R.at w base):Src w R.a R.len R.cap R.f:=by
  have ho:=h.own
  rcases ho.2 with ⟨h1,h2⟩ | ⟨g,cap,cur,e1,e2,e3,e4,e5,e6⟩
  · have hv:R.cap=0:=by unfold Rw.v at h1;injection h1 with x1 x2 x3
    exact ⟨by omega,by omega,fun h0=>by omega,h.bytes⟩
  · have hv:R.a=some ⟨g,0,none⟩ ∧ R.cap=cap:=by unfold Rw.v at e1;injection e1 with x1 x2 x3;exact ⟨x1,x3⟩
    refine ⟨by omega,by have:=e5;unfold maxLen at this;omega,fun h0=>?_,h.bytes⟩
    obtain ⟨g',e1',_,_,_,hc⟩:=h.open h0
    exact ⟨g',0,e1',fun i hi=>by rw [Nat.zero_add];exact hc i hi⟩
def Gives (f:Nat → Int) (n:Nat) (W:World) (e:Ending) (w':World):Prop:=∃ v,e=.returned v ∧ Below W.heap.size W w' ∧ Own w' W.heap.size v n f
theorem r_context (M:RefM) (r base:Nat) (W:World) (h:RefAt M W r base):
    Calls Tryz.prog 21 #[.pointer (some ⟨r,0,none⟩)] W (Gives M.x.f M.x.len W):=by
  have S:=Lib.hid (r_same M.x.a M.x.len M.x.cap M.x.f W h.x.src h.x.le)
  have c1:=h.c1
  clear h
  simp only [Rw.v] at c1
  go_enter Tryz.func21,Tryz.ntmps21
  go_wp2_with fail
  refine S.out.mono ?_
  rintro e w ⟨v,rfl,b1,o1⟩
  go_wp2
  go_ret
  exact ⟨_,rfl,b1,o1⟩
end Go.Proofs.YtigliofiojkhcaaGreat.Rm
namespace Go.Proofs.YtigliofiojkhcaaGreat.Rm
open Go.RowKit
set_option linter.unusedVariables false
set_option maxRecDepth 100000
set_option linter.unnecessarySimpa false
set_option linter.unusedSimpArgs false
def pfx (f:Nat → Int) (j:Nat):Nat → Int:=fun i=>if i < j then f i else 0
theorem bytesOf_eq {f g:Nat → Int} {n:Nat} (h:∀ i,i < n → f i=g i):bytesOf f n=bytesOf g n:=by
  apply List.ext_getElem?
  intro i
  by_cases hi:i < n
  · rw [bytesOf_get _ _ i hi,bytesOf_get _ _ i hi,h i hi]
  · rw [List.getElem?_eq_none (by rw [bytesOf_length];omega),List.getElem?_eq_none (by rw [bytesOf_length];omega)]
theorem pfx_zero (f:Nat → Int):(bytesOf (pfx f 0) 64).toArray=zeros 64:=by
  unfold zeros
  rw [bytesOf_eq (f:=pfx f 0) (g:=fun _=>0) (fun i hi=>by unfold pfx;rw [if_neg (by omega)])]
theorem pfx_step (f:Nat → Int) (j:Nat) (hj:j < 64):(bytesOf (pfx f j) 64).toArray.setIfInBounds j (.int .u8 (f j))=(bytesOf (pfx f (j + 1)) 64).toArray:=by
  rw [List.setIfInBounds_toArray]
  congr 1
  apply List.ext_getElem?
  intro i
  rw [List.getElem?_set]
  by_cases hi:i < 64
  · rw [bytesOf_get _ _ i hi,bytesOf_get _ _ i hi,bytesOf_length]
    unfold pfx
    by_cases h:j=i
    · subst h;rw [if_pos rfl,if_pos hj,if_pos (by omega)]
    · rw [if_neg h]
      by_cases h2:i < j
      · rw [if_pos h2,if_pos (by omega)]
      · rw [if_neg h2,if_neg (by omega)]
  · rw [if_neg (by omega),List.getElem?_eq_none (by rw [bytesOf_length];omega),List.getElem?_eq_none (by rw [bytesOf_length];omega)]
def FrRel (W:World) (f:Nat → Int) (j:Nat) (w:World):Prop:=Below W.heap.size W w ∧ w.heap[W.heap.size]?=some (.cells (zeros 64) 47 (0,0)) ∧ w.heap[W.heap.size + 1]?=some (.cells (bytesOf (pfx f j) 64).toArray 47 (0,0))
theorem fr_step {W w w':World} {f:Nat → Int} {j:Nat} (h:FrRel W f j w) (hj:j < 64) (s:Stored w (W.heap.size + 1) ((bytesOf (pfx f j) 64).toArray.setIfInBounds j (.int .u8 (f j))) 47 w'):FrRel W f (j + 1) w':=
  ⟨s.below h.1 (by omega),(s.other _ (by omega)).trans h.2.1,by rw [← pfx_step f j hj];exact s.row⟩
set_option maxRecDepth 100000 in
set_option maxHeartbeats 2000000 in
theorem r_frame (M:RefM) (r base:Nat) (W:World) (h:RefAt M W r base) (h64:M.fr.len=64):
    Calls Tryz.prog 50 #[.pointer (some ⟨r,0,none⟩)] W fun e w'=>e=.returned (.agg (bytesOf M.fr.f 64).toArray) ∧ Below W.heap.size W w':=by
  have hz:=(zero_of_info zero_frame).1
  have hi:=Lib.hid (show (Tryz.prog.info? 47).map (·.size)=some (bytesOf (pfx M.fr.f 64) 64).toArray.size from info_frame.trans (by rw [List.size_toArray,bytesOf_length]))
  have hpf:=Lib.hid (show (bytesOf (pfx M.fr.f 64) 64).toArray=(bytesOf M.fr.f 64).toArray by rw [bytesOf_eq (f:=pfx M.fr.f 64) (g:=M.fr.f) (fun i hi=>by unfold pfx;rw [if_pos hi])])
  obtain ⟨g,hg,hbg,hlc,hcm,hc⟩:=h.fr.open (by omega)
  have c2:=h.c2
  simp only [Rw.v] at c2
  rw [hg,h64] at c2
  rw [h64] at hc hlc
  have C2:=Lib.hid c2;have HC:=Lib.hid hc
  clear h c2 hc hg h64
  generalize M.fr.f=f at *
  generalize M.fr.cap=Cp at *
  go_enter Tryz.func50,Tryz.ntmps50
  go_wp2_with fail
  go_loopw [4] (fun i wr=>∃ j:Nat,j ≤ 64 ∧ i=.int .i64 j ∧ Hid (FrRel W f j wr)) (fun i _=>64 - (intOf i).toNat)
  case atStart=>exact ⟨0,by omega,rfl,Lib.hid ⟨below_new (below_new (Below.refl _ W) _) _,(heap_past _ _ _ (by simp)).trans (heap_last _ _ _ rfl),by rw [pfx_zero];exact heap_last _ _ _ (by simp)⟩⟩
  case round=>
    obtain ⟨j,hj,rfl,hR⟩:=hrel
    by_cases hlt:j < 64
    · have c2:=(hR.out.1.cell (p:=⟨r,2,none⟩) (lt_of_cell C2.out)).trans C2.out
      have cj:=(hR.out.1.cell (p:=⟨g,j,none⟩) (lt_of_cell (HC.out j hlt))).trans (HC.out j hlt)
      have k64:(j:Int) < 64:=by omega
      go_wp2_with (refine wpList_store_cell rfl 5 _ _ rfl (W.heap.size + 1) j (.int .u8 (f j)) rfl rfl rfl rfl 47 _ hR.out.2.2 info_u8n (by rw [List.size_toArray,bytesOf_length];exact hlt) ?_;intro w1 s1)
      have R1:=Lib.hid (fr_step hR.out hlt s1)
      clear s1 c2 cj
      go_wp2_with fail
      go_roundw
      case rel=>exact ⟨j + 1,by omega,by go_num,R1⟩
      case measure=>simp [intOf];omega
    · obtain rfl:j=64:=by omega
      go_wp2_with (first | (refine wpList_load_row rfl 47 _ rfl (W.heap.size + 1) rfl _ (bytesOf (pfx f 64) 64).toArray _ _ hR.out.2.2 Tryz.underlying47 rfl hi.out ?_) | (refine halt_store 47 _ _ rfl ?_))
      refine ⟨?_,trivial⟩
      refine wpList_store_is rfl 47 _ _ rfl W.heap.size (bytesOf (pfx f 64) 64).toArray rfl rfl 47 _ hR.out.2.1 hi.out ?_ (bytes_one _ 64) ?_
      · unfold zeros;rw [List.size_toArray,bytesOf_length,List.size_toArray,bytesOf_length]
      intro w1 s1
      have S1:=Lib.hid s1;clear s1
      go_wp2
      refine bodyPost_ret (v:=.agg (bytesOf (pfx f 64) 64).toArray) (results_cell_row rfl _ _ W.heap.size _ _ _ _ rfl S1.out.row Tryz.underlying47 rfl hi.out) rfl ⟨by rw [hpf.out],S1.out.below hR.out.1 (Nat.le_refl _)⟩
end Go.Proofs.YtigliofiojkhcaaGreat.Rm
