import Derived.Test.YtjhedldplmhmjaaDoorERd13
set_option linter.unusedVariables false
set_option linter.unusedSimpArgs false
set_option linter.unnecessarySimpa false
namespace Go.Proofs.YtjhedldplmhmjaaDoor.Mrm
open Go Go.RowKit
set_option linter.unusedVariables false
set_option linter.unnecessarySimpa false
set_option linter.unusedSimpArgs false
set_option maxRecDepth 100000
def numS (l:List Int) (s:Rdr):Nat → Rdr
  | 0=>s
  | k + 1=>byteS l (numS l s k)
def numA (l:List Int) (s:Rdr):Nat → Int
  | 0=>0
  | k + 1=>numA l s k + byteV l (numS l s k) * 2 ^ (8 * k)
theorem numA_step {v:Int} {k:Nat} {y:Int} (hk:k < 4) (h0:0 ≤ v) (h1:v < 256 ^ k) (y0:0 ≤ y) (y1:y < 256):(v + y * 2 ^ (8 * k)) < 256 ^ (k + 1) ∧ 0 ≤ v + y * 2 ^ (8 * k) ∧ (y * 2 ^ (8 * k)) < 4294967296 ∧ 0 ≤ y * 2 ^ (8 * k) ∧ v < 4294967296:=by
  obtain rfl | rfl | rfl | rfl:k=0 ∨ k=1 ∨ k=2 ∨ k=3:=by omega
  all_goals (simp at h1 ⊢;omega)
theorem numA_bd {l:List Int} (ok:Oks l) (s:Rdr):∀ k:Nat,k ≤ 4 → 0 ≤ numA l s k ∧ numA l s k < 256 ^ k
  | 0,_=>by show (0:Int) ≤ 0 ∧ (0:Int) < 1;decide
  | k + 1,h=>by
    have hb:=numA_bd ok s k (by omega)
    have hy:=byteV_bd ok (numS l s k)
    have:=numA_step (by omega) hb.1 hb.2 hy.1 hy.2
    exact ⟨this.2.1,this.1⟩
set_option maxHeartbeats 1000000 in
theorem rnum_1 (g:Nat) (a:Option Addr) (n c:Nat) (l:List Int) (s:Rdr) (W:World) (h:RdAt g a n c l s W):
    Calls Tryd.prog 15 #[.pointer (some ⟨g,0,none⟩),.int .i64 1] W fun e w'=>e=.returned (.int .i64 (sg8 (numA l s 1))) ∧ Red g a n c l (numS l s 1) W w':=by
  have ok:=Lib.hid h.bytes.ok
  have HH:=Lib.hid h
  clear h
  go_enter Tryd.func15,Tryd.ntmps15
  go_wp2
  go_loopw [5,6] (fun v i wr=>∃ k:Nat,k ≤ 1 ∧ i=.int .i64 k ∧ v=.int .u64 (numA l s k) ∧ Hid (Red g a n c l (numS l s k) W wr)) (fun _ i _=>1 - (intOf i).toNat)
  case atStart=>exact ⟨0,by omega,rfl,rfl,Lib.hid (Red.refl HH.out)⟩
  case round=>
    obtain ⟨k,hk,rfl,rfl,hR⟩:=hrel
    by_cases hlt:k < 1
    · have hb:=numA_bd ok.out s k (by omega)
      have hy:=byteV_bd ok.out (numS l s k)
      have e1:min (8 * k) 64=8 * k:=by omega
      have st:=Lib.hid (numA_step (by omega) hb.1 hb.2 hy.1 hy.2)
      have BY:=Lib.hid (rbyte_n g a n c l (numS l s k) _ hR.out.1)
      have EN:=Lib.hid (show numA l s (k + 1)=numA l s k + byteV l (numS l s k) * 2 ^ (8 * k) from rfl)
      obtain ⟨hy0,hy1⟩:=hy
      clear hb
      generalize byteV l (numS l s k)=y at *
      go_wp2_with fail
      refine BY.out.mono ?_
      rintro e w1 ⟨rfl,rd⟩
      have RD:=Lib.hid (hR.out.trans rd)
      clear rd BY
      go_wp2_with fail
      go_roundw
      case rel=>exact ⟨k + 1,by omega,by go_num,by rw [IntKind.wrap_u64,EN.out];have:=st.out;congr 1;simp only [IntKind.wrap_u64];generalize y * 2 ^ (8 * k)=q at *;omega,Lib.hid RD.out⟩
      case measure=>simp [intOf];omega
    · obtain rfl:k=1:=by omega
      have hb:=numA_bd ok.out s 1 (by omega)
      have SG:=Lib.hid (fun W=>esign_8 (numA l s 1) hb.1 (by have:=hb.2;simp at this;omega) W)
      have E:=Lib.hid (show wrap64 (sg8 (numA l s 1) % 18446744073709551616)=sg8 (numA l s 1) by
        have h1:=hb.1
        have h2:numA l s 1 < 256:=by have:=hb.2;simp at this;omega
        unfold wrap64 sg8;split <;> omega)
      clear hb
      go_wp2_with fail
      refine (SG.out _).mono ?_
      rintro e w1 ⟨rfl,rfl⟩
      go_wp2_with fail
      go_ret
      exact ⟨retV (congrArg (Value.int .i64) E.out),hR.out⟩
set_option maxHeartbeats 1000000 in
theorem rnum_4 (g:Nat) (a:Option Addr) (n c:Nat) (l:List Int) (s:Rdr) (W:World) (h:RdAt g a n c l s W):
    Calls Tryd.prog 15 #[.pointer (some ⟨g,0,none⟩),.int .i64 4] W fun e w'=>e=.returned (.int .i64 (sg32 (numA l s 4))) ∧ Red g a n c l (numS l s 4) W w':=by
  have ok:=Lib.hid h.bytes.ok
  have HH:=Lib.hid h
  clear h
  go_enter Tryd.func15,Tryd.ntmps15
  go_wp2
  go_loopw [5,6] (fun v i wr=>∃ k:Nat,k ≤ 4 ∧ i=.int .i64 k ∧ v=.int .u64 (numA l s k) ∧ Hid (Red g a n c l (numS l s k) W wr)) (fun _ i _=>4 - (intOf i).toNat)
  case atStart=>exact ⟨0,by omega,rfl,rfl,Lib.hid (Red.refl HH.out)⟩
  case round=>
    obtain ⟨k,hk,rfl,rfl,hR⟩:=hrel
    by_cases hlt:k < 4
    · have hb:=numA_bd ok.out s k (by omega)
      have hy:=byteV_bd ok.out (numS l s k)
      have e1:min (8 * k) 64=8 * k:=by omega
      have st:=Lib.hid (numA_step (by omega) hb.1 hb.2 hy.1 hy.2)
      have BY:=Lib.hid (rbyte_n g a n c l (numS l s k) _ hR.out.1)
      have EN:=Lib.hid (show numA l s (k + 1)=numA l s k + byteV l (numS l s k) * 2 ^ (8 * k) from rfl)
      obtain ⟨hy0,hy1⟩:=hy
      clear hb
      generalize byteV l (numS l s k)=y at *
      go_wp2_with fail
      refine BY.out.mono ?_
      rintro e w1 ⟨rfl,rd⟩
      have RD:=Lib.hid (hR.out.trans rd)
      clear rd BY
      go_wp2_with fail
      go_roundw
      case rel=>exact ⟨k + 1,by omega,by go_num,by rw [IntKind.wrap_u64,EN.out];have:=st.out;congr 1;simp only [IntKind.wrap_u64];generalize y * 2 ^ (8 * k)=q at *;omega,Lib.hid RD.out⟩
      case measure=>simp [intOf];omega
    · obtain rfl:k=4:=by omega
      have hb:=numA_bd ok.out s 4 (by omega)
      have SG:=Lib.hid (fun W=>esign_32 (numA l s 4) hb.1 (by have:=hb.2;simp at this;omega) W)
      have E:=Lib.hid (show wrap64 (sg32 (numA l s 4) % 18446744073709551616)=sg32 (numA l s 4) by
        have h1:=hb.1
        have h2:numA l s 4 < 4294967296:=by have:=hb.2;simp at this;omega
        unfold wrap64 sg32;split <;> omega)
      clear hb
      go_wp2_with fail
      refine (SG.out _).mono ?_
      rintro e w1 ⟨rfl,rfl⟩
      go_wp2_with fail
      go_ret
      exact ⟨retV (congrArg (Value.int .i64) E.out),hR.out⟩
end Go.Proofs.YtjhedldplmhmjaaDoor.Mrm
namespace Go.Proofs.YtjhedldplmhmjaaDoor.Mrm
open Go Go.RowKit
set_option linter.unusedVariables false
set_option linter.unnecessarySimpa false
set_option linter.unusedSimpArgs false
set_option maxRecDepth 100000
def pre1V (l:List Int) (s:Rdr):Int:=if byteV l s=102 then byteV l (byteS l s) else byteV l s
def pre1S (l:List Int) (s:Rdr):Rdr:=if byteV l s=102 then byteS l (byteS l s) else byteS l s
def rexS (n:Int) (s:Rdr):Rdr:={ s with wide:=decide (n / 8 % 2=1),r:=n / 4 % 2,m:=n % 2,bad:=s.bad || decide (n / 2 % 2=1) }
def preV (l:List Int) (s:Rdr):Int:=if pre1V l s / 16=4 then byteV l (rexS (pre1V l s) (pre1S l s)) else pre1V l s
def preS (l:List Int) (s:Rdr):Rdr:=if pre1V l s / 16=4 then byteS l (rexS (pre1V l s) (pre1S l s)) else pre1S l s
theorem rxp_fin:∀ k:Fin 256,(bits .and .i64 (k.1:Int) 240 == 64)=decide ((k.1:Int) / 16=4) ∧ (bits .and .i64 (k.1:Int) 8 != 0)=decide ((k.1:Int) / 8 % 2=1) ∧ (bits .and .i64 (k.1:Int) 2 != 0)=decide ((k.1:Int) / 2 % 2=1) ∧ IntKind.i8.wrap (bits .and .i64 ((k.1:Int) / 4) 1)=(k.1:Int) / 4 % 2 ∧ IntKind.i8.wrap (bits .and .i64 (k.1:Int) 1)=(k.1:Int) % 2:=by decide +kernel
theorem rxp_is {n:Int} (h:0 ≤ n ∧ n < 256):(bits .and .i64 n 240 == 64)=decide (n / 16=4) ∧ (bits .and .i64 n 8 != 0)=decide (n / 8 % 2=1) ∧ (bits .and .i64 n 2 != 0)=decide (n / 2 % 2=1) ∧ IntKind.i8.wrap (bits .and .i64 (n / 4) 1)=n / 4 % 2 ∧ IntKind.i8.wrap (bits .and .i64 n 1)=n % 2:=by
  have:=rxp_fin ⟨n.toNat,by omega⟩
  simp only [Int.toNat_of_nonneg h.1] at this
  exact this
set_option maxHeartbeats 600000 in
theorem rpre_nn (g:Nat) (a:Option Addr) (n c:Nat) (l:List Int) (s:Rdr) (W:World) (h:RdAt g a n c l s W) (hh:¬ byteV l s=102) (hx:¬ (byteV l s) / 16=4):
    Calls Tryd.prog 10 #[.pointer (some ⟨g,0,none⟩)] W fun e w'=>e=.returned (.tuple #[.int .i64 ((byteV l s)),.bool false]) ∧ Red g a n c l ((byteS l s)) W w':=by
  have ok:=h.bytes.ok
  have BA:=Lib.hid (rbyte_n g a n c l s W h)
  have h0:(byteV l s == 102)=false:=by simpa using hh
  have hv:=byteV_bd ok s
  obtain ⟨x1,x2,x3,x4,x5⟩:=rxp_is hv
  have x0:decide ((byteV l s) / 16=4)=false:=decide_eq_false hx
  rw [x0] at x1
  clear hh hx x0 hv ok h
  generalize byteV l s=n0 at *
  generalize byteS l s=s0 at *
  go_enter Tryd.func10,Tryd.ntmps10
  go_wp2_with fail
  refine BA.out.mono ?_
  rintro e wa ⟨rfl,ra⟩
  have RA:=Lib.hid ra
  clear ra BA
  go_wp2_with fail
  go_ret2
  exact ⟨rfl,RA.out⟩
set_option maxHeartbeats 600000 in
theorem rpre_nr (g:Nat) (a:Option Addr) (n c:Nat) (l:List Int) (s:Rdr) (W:World) (h:RdAt g a n c l s W) (hh:¬ byteV l s=102) (hx:(byteV l s) / 16=4):
    Calls Tryd.prog 10 #[.pointer (some ⟨g,0,none⟩)] W fun e w'=>e=.returned (.tuple #[.int .i64 (byteV l (rexS (byteV l s) (byteS l s))),.bool false]) ∧ Red g a n c l (byteS l (rexS (byteV l s) (byteS l s))) W w':=by
  have ok:=h.bytes.ok
  have BA:=Lib.hid (rbyte_n g a n c l s W h)
  have h0:(byteV l s == 102)=false:=by simpa using hh
  have hv:=byteV_bd ok s
  obtain ⟨x1,x2,x3,x4,x5⟩:=rxp_is hv
  have x0:decide ((byteV l s) / 16=4)=true:=decide_eq_true hx
  rw [x0] at x1
  have BC:=Lib.hid (fun w (h:RdAt g a n c l (rexS (byteV l s) (byteS l s)) w)=>rbyte_n g a n c l (rexS (byteV l s) (byteS l s)) w h)
  generalize byteV l (rexS (byteV l s) (byteS l s))=v at *
  generalize byteS l (rexS (byteV l s) (byteS l s))=sv at *
  clear hh hx x0 hv ok h
  unfold rexS at *
  generalize byteV l s=n0 at *
  generalize byteS l s=s0 at *
  generalize decide (n0 / 8 % 2=1)=bw at *
  generalize decide (n0 / 2 % 2=1)=b2 at *
  generalize n0 / 4 % 2=q4 at *
  generalize n0 % 2=q1 at *
  obtain ⟨pos,bad,wide,r,m⟩:=s0
  simp only at *
  cases bad <;> cases b2 <;> (
    go_enter Tryd.func10,Tryd.ntmps10
    go_wp2_with fail
    refine BA.out.mono ?_
    rintro e wa ⟨rfl,ra⟩
    have RA:=Lib.hid ra
    clear ra BA
    have RW:=Lib.hid (RA.out.wide bw)
    have RR:=Lib.hid (RW.out.r q4)
    have RM:=Lib.hid (RR.out.m q1)
    obtain ⟨c0,c1,c2,c3,c4,c5,fz⟩:=RA.out.1.cells
    simp only at c1 c2 c3 c4 c5
    have F2:=fz 2
    have F3:=fz 3
    have F4:=fz 4
    have F5:=fz 5
    clear fz
    go_wp2_with fail
    refine (BC.out _ (RM.out.bad _).1).mono ?_
    rintro e wc ⟨rfl,rc⟩
    have RC:=Lib.hid ((RM.out.bad _).trans rc)
    go_wp2_with fail
    go_ret2
    exact ⟨rfl,RC.out⟩)
set_option maxHeartbeats 600000 in
theorem rpre_hn (g:Nat) (a:Option Addr) (n c:Nat) (l:List Int) (s:Rdr) (W:World) (h:RdAt g a n c l s W) (hh:byteV l s=102) (hx:¬ (byteV l (byteS l s)) / 16=4):
    Calls Tryd.prog 10 #[.pointer (some ⟨g,0,none⟩)] W fun e w'=>e=.returned (.tuple #[.int .i64 ((byteV l (byteS l s))),.bool true]) ∧ Red g a n c l ((byteS l (byteS l s))) W w':=by
  have ok:=h.bytes.ok
  have BA:=Lib.hid (rbyte_n g a n c l s W h)
  have h0:(byteV l s == 102)=true:=by simpa using hh
  have hv:=byteV_bd ok (byteS l s)
  have BB:=Lib.hid (fun w (h:RdAt g a n c l (byteS l s) w)=>rbyte_n g a n c l (byteS l s) w h)
  obtain ⟨x1,x2,x3,x4,x5⟩:=rxp_is hv
  have x0:decide ((byteV l (byteS l s)) / 16=4)=false:=decide_eq_false hx
  rw [x0] at x1
  clear hh hx x0 hv ok h
  generalize byteV l (byteS l s)=n1 at *
  generalize byteS l (byteS l s)=s1 at *
  generalize byteV l s=n0 at *
  generalize byteS l s=s0 at *
  go_enter Tryd.func10,Tryd.ntmps10
  go_wp2_with fail
  refine BA.out.mono ?_
  rintro e wa ⟨rfl,ra⟩
  have RA:=Lib.hid ra
  clear ra BA
  go_wp2_with fail
  refine (BB.out _ RA.out.1).mono ?_
  rintro e wb ⟨rfl,rb⟩
  have RB:=Lib.hid (RA.out.trans rb)
  clear rb BB
  go_wp2_with fail
  go_ret2
  exact ⟨rfl,RB.out⟩
set_option maxHeartbeats 600000 in
theorem rpre_hr (g:Nat) (a:Option Addr) (n c:Nat) (l:List Int) (s:Rdr) (W:World) (h:RdAt g a n c l s W) (hh:byteV l s=102) (hx:(byteV l (byteS l s)) / 16=4):
    Calls Tryd.prog 10 #[.pointer (some ⟨g,0,none⟩)] W fun e w'=>e=.returned (.tuple #[.int .i64 (byteV l (rexS (byteV l (byteS l s)) (byteS l (byteS l s)))),.bool true]) ∧ Red g a n c l (byteS l (rexS (byteV l (byteS l s)) (byteS l (byteS l s)))) W w':=by
  have ok:=h.bytes.ok
  have BA:=Lib.hid (rbyte_n g a n c l s W h)
  have h0:(byteV l s == 102)=true:=by simpa using hh
  have hv:=byteV_bd ok (byteS l s)
  have BB:=Lib.hid (fun w (h:RdAt g a n c l (byteS l s) w)=>rbyte_n g a n c l (byteS l s) w h)
  obtain ⟨x1,x2,x3,x4,x5⟩:=rxp_is hv
  have x0:decide ((byteV l (byteS l s)) / 16=4)=true:=decide_eq_true hx
  rw [x0] at x1
  have BC:=Lib.hid (fun w (h:RdAt g a n c l (rexS (byteV l (byteS l s)) (byteS l (byteS l s))) w)=>rbyte_n g a n c l (rexS (byteV l (byteS l s)) (byteS l (byteS l s))) w h)
  generalize byteV l (rexS (byteV l (byteS l s)) (byteS l (byteS l s)))=v at *
  generalize byteS l (rexS (byteV l (byteS l s)) (byteS l (byteS l s)))=sv at *
  clear hh hx x0 hv ok h
  unfold rexS at *
  generalize byteV l (byteS l s)=n1 at *
  generalize byteS l (byteS l s)=s1 at *
  generalize byteV l s=n0 at *
  generalize byteS l s=s0 at *
  generalize decide (n1 / 8 % 2=1)=bw at *
  generalize decide (n1 / 2 % 2=1)=b2 at *
  generalize n1 / 4 % 2=q4 at *
  generalize n1 % 2=q1 at *
  obtain ⟨pos,bad,wide,r,m⟩:=s1
  simp only at *
  cases bad <;> cases b2 <;> (
    go_enter Tryd.func10,Tryd.ntmps10
    go_wp2_with fail
    refine BA.out.mono ?_
    rintro e wa ⟨rfl,ra⟩
    have RA:=Lib.hid ra
    clear ra BA
    go_wp2_with fail
    refine (BB.out _ RA.out.1).mono ?_
    rintro e wb ⟨rfl,rb⟩
    have RB:=Lib.hid (RA.out.trans rb)
    clear rb BB
    have RW:=Lib.hid (RB.out.wide bw)
    have RR:=Lib.hid (RW.out.r q4)
    have RM:=Lib.hid (RR.out.m q1)
    obtain ⟨c0,c1,c2,c3,c4,c5,fz⟩:=RB.out.1.cells
    simp only at c1 c2 c3 c4 c5
    have F2:=fz 2
    have F3:=fz 3
    have F4:=fz 4
    have F5:=fz 5
    clear fz
    go_wp2_with fail
    refine (BC.out _ (RM.out.bad _).1).mono ?_
    rintro e wc ⟨rfl,rc⟩
    have RC:=Lib.hid ((RM.out.bad _).trans rc)
    go_wp2_with fail
    go_ret2
    exact ⟨rfl,RC.out⟩)
theorem rpre_n (g:Nat) (a:Option Addr) (n c:Nat) (l:List Int) (s:Rdr) (W:World) (h:RdAt g a n c l s W):
    Calls Tryd.prog 10 #[.pointer (some ⟨g,0,none⟩)] W fun e w'=>e=.returned (.tuple #[.int .i64 (preV l s),.bool (decide (byteV l s=102))]) ∧ Red g a n c l (preS l s) W w':=by
  unfold preV preS pre1V pre1S
  by_cases hh:byteV l s=102
  · rw [if_pos hh,if_pos hh,decide_eq_true hh]
    by_cases hx:byteV l (byteS l s) / 16=4
    · rw [if_pos hx,if_pos hx];exact rpre_hr g a n c l s W h hh hx
    · rw [if_neg hx,if_neg hx];exact rpre_hn g a n c l s W h hh hx
  · rw [if_neg hh,if_neg hh,decide_eq_false hh]
    by_cases hx:byteV l s / 16=4
    · rw [if_pos hx,if_pos hx];exact rpre_nr g a n c l s W h hh hx
    · rw [if_neg hx,if_neg hx];exact rpre_nn g a n c l s W h hh hx
end Go.Proofs.YtjhedldplmhmjaaDoor.Mrm
namespace Go.Proofs.YtjhedldplmhmjaaDoor.Mrm
open Go Go.RowKit
set_option linter.unusedVariables false
set_option linter.unnecessarySimpa false
set_option linter.unusedSimpArgs false
set_option maxRecDepth 100000
def mem1S (l:List Int) (s:Rdr):Rdr:={ byteS l s with bad:=(byteS l s).bad || (decide (byteV l s < 128) || decide (192 ≤ byteV l s)) }
def mem2S (l:List Int) (s:Rdr):Rdr:=if byteV l s % 8=4 then { byteS l (mem1S l s) with bad:=(byteS l (mem1S l s)).bad || (byteV l (mem1S l s) != 36) } else mem1S l s
theorem numS_r (l:List Int) (s:Rdr):∀ k:Nat,(numS l s k).r=s.r ∧ (numS l s k).m=s.m ∧ (numS l s k).wide=s.wide
  | 0=>⟨rfl,rfl,rfl⟩
  | k + 1=>by
    have h:=numS_r l s k
    have q:=byteS_r l (numS l s k)
    exact ⟨q.1.trans h.1,q.2.1.trans h.2.1,q.2.2.trans h.2.2⟩
theorem kept45 {g:Nat} {a:Option Addr} {n c:Nat} {l:List Int} {s:Rdr} {w:World} {r m:Int} (k:Nat) (h:RdAt g a n c l (numS l s k) w) (hr:s.r=r) (hm:s.m=m):w.cell? ⟨g,4,none⟩=some (.int .i8 r) ∧ w.cell? ⟨g,5,none⟩=some (.int .i8 m):=by
  obtain ⟨c0,c1,c2,c3,c4,c5,fz⟩:=h.cells
  have q:=numS_r l s k
  rw [q.1,hr] at c4
  rw [q.2.1,hm] at c5
  exact ⟨c4,c5⟩
theorem four_is {n:Int} (h:0 ≤ n ∧ n < 256):(bits .and .i64 n 7 == 4)=decide (n % 8=4):=by
  have:=and7_fin ⟨n.toNat,by omega⟩
  simp only [Int.toNat_of_nonneg h.1] at this
  rw [this]
  rfl
theorem and7w {n r:Int} (h:0 ≤ n ∧ n < 256) (hr:0 ≤ r ∧ r ≤ 1):IntKind.i8.wrap (IntKind.i8.wrap (bits .and .i64 n 7) + IntKind.i8.wrap (8 * r))=n % 8 + 8 * r:=by
  rw [show IntKind.i8.wrap (8 * r)=8 * r by simp only [IntKind.wrap,IntKind.signed,IntKind.bits];simp;omega]
  exact and7r h hr
theorem ret3 {a b c d:Int} {x:Value} (h1:a=c) (h2:b=d):Ending.returned (.tuple #[.int .i8 a,.int .i8 b,x])=.returned (.tuple #[.int .i8 c,.int .i8 d,x]):=by rw [h1,h2]
set_option maxHeartbeats 2000000 in
theorem rmem_no (g:Nat) (a:Option Addr) (n c:Nat) (l:List Int) (s:Rdr) (W:World) (h:RdAt g a n c l s W) (hr:0 ≤ s.r ∧ s.r ≤ 1) (hm:0 ≤ s.m ∧ s.m ≤ 1) (h4:¬ byteV l s % 8=4):
    Calls Tryd.prog 11 #[.pointer (some ⟨g,0,none⟩)] W fun e w'=>e=.returned (.tuple #[.int .i8 (byteV l s / 8 % 8 + 8 * s.r),.int .i8 (byteV l s % 8 + 8 * s.m),.int .i64 (sg32 (numA l (mem1S l s) 4))]) ∧ Red g a n c l (numS l (mem1S l s) 4) W w':=by
  have BY:=Lib.hid (rbyte_n g a n c l s W h)
  have hv:=byteV_bd h.bytes.ok s
  obtain ⟨er,em,ew⟩:=byteS_r l s
  have NM:=Lib.hid (fun w (h:RdAt g a n c l (mem1S l s) w)=>rnum_4 g a n c l (mem1S l s) w h)
  unfold mem1S at *
  rw [← er,← em]
  rw [← er] at hr
  rw [← em] at hm
  have x4:=four_is hv
  rw [decide_eq_false h4] at x4
  clear er em ew h h4
  generalize byteV l s=v at *
  generalize byteS l s=s1 at *
  clear s
  obtain ⟨pos,bad,wide,r,m⟩:=s1
  simp only at hr hm NM ⊢
  obtain ⟨v0,v1⟩:=hv
  have E1:=Lib.hid (and7w (n:=v / 8) ⟨by omega,by omega⟩ hr)
  have E2:=Lib.hid (and7w ⟨v0,v1⟩ hm)
  generalize hb1:decide (v < 128)=lt at *
  generalize hb2:decide (192 ≤ v)=ge at *
  cases bad <;> cases lt <;> cases ge
  · go_enter Tryd.func11,Tryd.ntmps11
    go_wp2_with fail
    refine BY.out.mono ?_
    rintro e w1 ⟨rfl,rd⟩
    have RD:=Lib.hid (rd.bad false)
    obtain ⟨c0,c1,c2,c3,c4,c5,fz⟩:=rd.1.cells
    simp only at c1 c2 c3 c4 c5
    have F2:=fz 2
    clear fz rd BY
    go_wp2_with fail
    clear c0 c1 c2 c3 c4 c5 F2
    generalize w1.setCell ⟨g,2,none⟩ (.bool false)=w2 at *
    obtain ⟨c0,c1,c2,c3,c4,c5,fz⟩:=RD.out.1.cells
    simp only at c1 c2 c3 c4 c5
    clear c0 c1 c2 c3 fz
    go_region_held3 (fun w'=>w'.cell? ⟨g,4,none⟩=some (.int .i8 r) ∧ w'.cell? ⟨g,5,none⟩=some (.int .i8 m)) ((go_split_ands;first | exact ⟨by assumption,by assumption⟩ | exact kept45 4 rd3.1 rfl rfl)) (first | (go_at_call 15;refine (NM.out _ (RD.out.1.below (Below.drew (Below.refl _ _)))).mono ?_;rintro e w3 ⟨rfl,rd3⟩))
    all_goals (
      go_wp2_with fail
      go_ret3
      exact ⟨ret3 E1.out E2.out,(RD.out.on (Below.drew (Below.refl _ _))).trans rd3⟩)
  · go_enter Tryd.func11,Tryd.ntmps11
    go_wp2_with fail
    refine BY.out.mono ?_
    rintro e w1 ⟨rfl,rd⟩
    have RD:=Lib.hid (rd.bad true)
    obtain ⟨c0,c1,c2,c3,c4,c5,fz⟩:=rd.1.cells
    simp only at c1 c2 c3 c4 c5
    have F2:=fz 2
    clear fz rd BY
    go_wp2_with fail
    clear c0 c1 c2 c3 c4 c5 F2
    generalize w1.setCell ⟨g,2,none⟩ (.bool true)=w2 at *
    obtain ⟨c0,c1,c2,c3,c4,c5,fz⟩:=RD.out.1.cells
    simp only at c1 c2 c3 c4 c5
    clear c0 c1 c2 c3 fz
    go_region_held3 (fun w'=>w'.cell? ⟨g,4,none⟩=some (.int .i8 r) ∧ w'.cell? ⟨g,5,none⟩=some (.int .i8 m)) ((go_split_ands;first | exact ⟨by assumption,by assumption⟩ | exact kept45 4 rd3.1 rfl rfl)) (first | (go_at_call 15;refine (NM.out _ (RD.out.1.below (Below.drew (Below.refl _ _)))).mono ?_;rintro e w3 ⟨rfl,rd3⟩))
    all_goals (
      go_wp2_with fail
      go_ret3
      exact ⟨ret3 E1.out E2.out,(RD.out.on (Below.drew (Below.refl _ _))).trans rd3⟩)
  · go_enter Tryd.func11,Tryd.ntmps11
    go_wp2_with fail
    refine BY.out.mono ?_
    rintro e w1 ⟨rfl,rd⟩
    have RD:=Lib.hid (rd.bad true)
    obtain ⟨c0,c1,c2,c3,c4,c5,fz⟩:=rd.1.cells
    simp only at c1 c2 c3 c4 c5
    have F2:=fz 2
    clear fz rd BY
    go_wp2_with fail
    clear c0 c1 c2 c3 c4 c5 F2
    generalize w1.setCell ⟨g,2,none⟩ (.bool true)=w2 at *
    obtain ⟨c0,c1,c2,c3,c4,c5,fz⟩:=RD.out.1.cells
    simp only at c1 c2 c3 c4 c5
    clear c0 c1 c2 c3 fz
    go_region_held3 (fun w'=>w'.cell? ⟨g,4,none⟩=some (.int .i8 r) ∧ w'.cell? ⟨g,5,none⟩=some (.int .i8 m)) ((go_split_ands;first | exact ⟨by assumption,by assumption⟩ | exact kept45 4 rd3.1 rfl rfl)) (first | (go_at_call 15;refine (NM.out _ (RD.out.1.below (Below.drew (Below.refl _ _)))).mono ?_;rintro e w3 ⟨rfl,rd3⟩))
    all_goals (
      go_wp2_with fail
      go_ret3
      exact ⟨ret3 E1.out E2.out,(RD.out.on (Below.drew (Below.refl _ _))).trans rd3⟩)
  · go_enter Tryd.func11,Tryd.ntmps11
    go_wp2_with fail
    refine BY.out.mono ?_
    rintro e w1 ⟨rfl,rd⟩
    have RD:=Lib.hid (rd.bad true)
    obtain ⟨c0,c1,c2,c3,c4,c5,fz⟩:=rd.1.cells
    simp only at c1 c2 c3 c4 c5
    have F2:=fz 2
    clear fz rd BY
    go_wp2_with fail
    clear c0 c1 c2 c3 c4 c5 F2
    generalize w1.setCell ⟨g,2,none⟩ (.bool true)=w2 at *
    obtain ⟨c0,c1,c2,c3,c4,c5,fz⟩:=RD.out.1.cells
    simp only at c1 c2 c3 c4 c5
    clear c0 c1 c2 c3 fz
    go_region_held3 (fun w'=>w'.cell? ⟨g,4,none⟩=some (.int .i8 r) ∧ w'.cell? ⟨g,5,none⟩=some (.int .i8 m)) ((go_split_ands;first | exact ⟨by assumption,by assumption⟩ | exact kept45 4 rd3.1 rfl rfl)) (first | (go_at_call 15;refine (NM.out _ (RD.out.1.below (Below.drew (Below.refl _ _)))).mono ?_;rintro e w3 ⟨rfl,rd3⟩))
    all_goals (
      go_wp2_with fail
      go_ret3
      exact ⟨ret3 E1.out E2.out,(RD.out.on (Below.drew (Below.refl _ _))).trans rd3⟩)
  · go_enter Tryd.func11,Tryd.ntmps11
    go_wp2_with fail
    refine BY.out.mono ?_
    rintro e w1 ⟨rfl,rd⟩
    have RD:=Lib.hid (rd.bad true)
    obtain ⟨c0,c1,c2,c3,c4,c5,fz⟩:=rd.1.cells
    simp only at c1 c2 c3 c4 c5
    have F2:=fz 2
    clear fz rd BY
    go_wp2_with fail
    clear c0 c1 c2 c3 c4 c5 F2
    generalize w1.setCell ⟨g,2,none⟩ (.bool true)=w2 at *
    obtain ⟨c0,c1,c2,c3,c4,c5,fz⟩:=RD.out.1.cells
    simp only at c1 c2 c3 c4 c5
    clear c0 c1 c2 c3 fz
    go_region_held3 (fun w'=>w'.cell? ⟨g,4,none⟩=some (.int .i8 r) ∧ w'.cell? ⟨g,5,none⟩=some (.int .i8 m)) ((go_split_ands;first | exact ⟨by assumption,by assumption⟩ | exact kept45 4 rd3.1 rfl rfl)) (first | (go_at_call 15;refine (NM.out _ (RD.out.1.below (Below.drew (Below.refl _ _)))).mono ?_;rintro e w3 ⟨rfl,rd3⟩))
    all_goals (
      go_wp2_with fail
      go_ret3
      exact ⟨ret3 E1.out E2.out,(RD.out.on (Below.drew (Below.refl _ _))).trans rd3⟩)
  · go_enter Tryd.func11,Tryd.ntmps11
    go_wp2_with fail
    refine BY.out.mono ?_
    rintro e w1 ⟨rfl,rd⟩
    have RD:=Lib.hid (rd.bad true)
    obtain ⟨c0,c1,c2,c3,c4,c5,fz⟩:=rd.1.cells
    simp only at c1 c2 c3 c4 c5
    have F2:=fz 2
    clear fz rd BY
    go_wp2_with fail
    clear c0 c1 c2 c3 c4 c5 F2
    generalize w1.setCell ⟨g,2,none⟩ (.bool true)=w2 at *
    obtain ⟨c0,c1,c2,c3,c4,c5,fz⟩:=RD.out.1.cells
    simp only at c1 c2 c3 c4 c5
    clear c0 c1 c2 c3 fz
    go_region_held3 (fun w'=>w'.cell? ⟨g,4,none⟩=some (.int .i8 r) ∧ w'.cell? ⟨g,5,none⟩=some (.int .i8 m)) ((go_split_ands;first | exact ⟨by assumption,by assumption⟩ | exact kept45 4 rd3.1 rfl rfl)) (first | (go_at_call 15;refine (NM.out _ (RD.out.1.below (Below.drew (Below.refl _ _)))).mono ?_;rintro e w3 ⟨rfl,rd3⟩))
    all_goals (
      go_wp2_with fail
      go_ret3
      exact ⟨ret3 E1.out E2.out,(RD.out.on (Below.drew (Below.refl _ _))).trans rd3⟩)
  · go_enter Tryd.func11,Tryd.ntmps11
    go_wp2_with fail
    refine BY.out.mono ?_
    rintro e w1 ⟨rfl,rd⟩
    have RD:=Lib.hid (rd.bad true)
    obtain ⟨c0,c1,c2,c3,c4,c5,fz⟩:=rd.1.cells
    simp only at c1 c2 c3 c4 c5
    have F2:=fz 2
    clear fz rd BY
    go_wp2_with fail
    clear c0 c1 c2 c3 c4 c5 F2
    generalize w1.setCell ⟨g,2,none⟩ (.bool true)=w2 at *
    obtain ⟨c0,c1,c2,c3,c4,c5,fz⟩:=RD.out.1.cells
    simp only at c1 c2 c3 c4 c5
    clear c0 c1 c2 c3 fz
    go_region_held3 (fun w'=>w'.cell? ⟨g,4,none⟩=some (.int .i8 r) ∧ w'.cell? ⟨g,5,none⟩=some (.int .i8 m)) ((go_split_ands;first | exact ⟨by assumption,by assumption⟩ | exact kept45 4 rd3.1 rfl rfl)) (first | (go_at_call 15;refine (NM.out _ (RD.out.1.below (Below.drew (Below.refl _ _)))).mono ?_;rintro e w3 ⟨rfl,rd3⟩))
    all_goals (
      go_wp2_with fail
      go_ret3
      exact ⟨ret3 E1.out E2.out,(RD.out.on (Below.drew (Below.refl _ _))).trans rd3⟩)
  · go_enter Tryd.func11,Tryd.ntmps11
    go_wp2_with fail
    refine BY.out.mono ?_
    rintro e w1 ⟨rfl,rd⟩
    have RD:=Lib.hid (rd.bad true)
    obtain ⟨c0,c1,c2,c3,c4,c5,fz⟩:=rd.1.cells
    simp only at c1 c2 c3 c4 c5
    have F2:=fz 2
    clear fz rd BY
    go_wp2_with fail
    clear c0 c1 c2 c3 c4 c5 F2
    generalize w1.setCell ⟨g,2,none⟩ (.bool true)=w2 at *
    obtain ⟨c0,c1,c2,c3,c4,c5,fz⟩:=RD.out.1.cells
    simp only at c1 c2 c3 c4 c5
    clear c0 c1 c2 c3 fz
    go_region_held3 (fun w'=>w'.cell? ⟨g,4,none⟩=some (.int .i8 r) ∧ w'.cell? ⟨g,5,none⟩=some (.int .i8 m)) ((go_split_ands;first | exact ⟨by assumption,by assumption⟩ | exact kept45 4 rd3.1 rfl rfl)) (first | (go_at_call 15;refine (NM.out _ (RD.out.1.below (Below.drew (Below.refl _ _)))).mono ?_;rintro e w3 ⟨rfl,rd3⟩))
    all_goals (
      go_wp2_with fail
      go_ret3
      exact ⟨ret3 E1.out E2.out,(RD.out.on (Below.drew (Below.refl _ _))).trans rd3⟩)
end Go.Proofs.YtjhedldplmhmjaaDoor.Mrm
