import Derived.Test.YtjhjpllgoakncaaDoorETl10
set_option linter.unusedVariables false
set_option linter.unusedSimpArgs false
set_option linter.unnecessarySimpa false
namespace Go.Proofs.YtjhjpllgoakncaaDoor.Mrm
open Go.RowKit
set_option linter.unusedVariables false
set_option linter.unnecessarySimpa false
set_option linter.unusedSimpArgs false
set_option maxRecDepth 100000
theorem unused_n (n:Nat) (h:n ≤ 8) (W:World):Calls Tryd.prog 87 #[.int .i64 n] W fun e w'=>e=.returned (.int .u64 ((64 - 8 * n:Nat):Int)) ∧ W=w':=by
  go_enter Tryd.func87,Tryd.ntmps87
  go_wp2
  go_ret
  exact ⟨retV (show Value.int .u64 _=_ by congr 1;omega),rfl⟩
theorem fits_n (v:Int) (n k:Nat) (h:n ≤ 8) (hk:64 - 8 * n=k) (hk1:k ≤ 63) (W:World) (b:Bool) (hb:(wrap64 (v * 2 ^ k) / 2 ^ k == v)=b):Calls Tryd.prog 78 #[.int .i64 v,.int .i64 n] W fun e w'=>e=.returned (.bool b) ∧ W=w':=by
  have U:=Lib.hid (fun W=>unused_n n h W)
  rw [hk] at U
  go_enter Tryd.func78,Tryd.ntmps78
  go_wp2_with fail
  refine (U.out _).mono ?_
  rintro e w1 ⟨rfl,rfl⟩
  go_wp2
  go_ret
  exact ⟨retV rfl,rfl⟩
theorem fit_is (v:Int) (m k:Nat) (h0:-9223372036854775808 ≤ v) (h1:v ≤ 9223372036854775807) (h:m=1 ∧ k=56 ∨ m=2 ∧ k=48 ∨ m=4 ∧ k=32):(wrap64 (v * 2 ^ k) / 2 ^ k == v)=fitB v m:=by
  unfold fitB
  unfold wrap64
  rw [← Bool.decide_and,Bool.beq_eq_decide_eq]
  apply decide_eq_decide.2
  rcases h with ⟨rfl,rfl⟩ | ⟨rfl,rfl⟩ | ⟨rfl,rfl⟩
  · show _=v ↔ (-128 ≤ v ∧ v < 128)
    omega
  · show _=v ↔ (-32768 ≤ v ∧ v < 32768)
    omega
  · show _=v ↔ (-2147483648 ≤ v ∧ v < 2147483648)
    omega
theorem info_u8:(Tryd.prog.info? 5).map (fun i=>(i.zero,i.size,i.bytes))=some (some (.int .u8 0),1,1):=by kernel_rfl
theorem by_next (v:Int) (k i:Nat):(if i=k then Value.int .u8 (v / 2 ^ (8 * k) % 256) else Value.int .u8 (if i < k then byS v i else 0))=Value.int .u8 (if i < k + 1 then byS v i else 0):=by
  by_cases h:i=k
  · subst h;rw [if_pos rfl,if_pos (by omega)];rfl
  · rw [if_neg h]
    by_cases h':i < k
    · rw [if_pos h',if_pos (by omega)]
    · rw [if_neg h',if_neg (by omega)]
theorem wid_no {n:Int} (h:wid n=false):¬ n=1 ∧ ¬ n=2 ∧ ¬ n=4:=by
  unfold wid at h
  simp only [Bool.or_eq_false_iff,beq_eq_false_iff_ne] at h
  omega
theorem num_wid (v n:Int) (h:wid n=false) (W:World):Calls Tryd.prog 62 #[.int .i64 v,.int .i64 n] W (RetB [] 2 W):=by
  obtain ⟨h1,h2,h3⟩:=wid_no h
  have e1:(n != 1)=true:=by simpa using h1
  have e2:(n != 2)=true:=by simpa using h2
  have e3:(n != 4)=true:=by simpa using h3
  clear h h1 h2 h3
  unfold RetB
  go_enter Tryd.func62,Tryd.ntmps62
  go_wp2_with fail
  go_ret2
  exact ⟨_,rfl,Bts.nil _ _,Below.refl _ _⟩
set_option maxHeartbeats 1000000 in
theorem num_no1 (v:Int) (h0:-9223372036854775808 ≤ v) (h1:v ≤ 9223372036854775807) (h:fitB v 1=false) (W:World):Calls Tryd.prog 62 #[.int .i64 v,.int .i64 1] W (RetB [] 2 W):=by
  have F:=Lib.hid (fun W=>fits_n v 1 56 (by decide) rfl (by decide) W _ ((fit_is v 1 56 h0 h1 (by decide)).trans h))
  clear h0 h1 h
  unfold RetB
  go_enter Tryd.func62,Tryd.ntmps62
  go_wp2_with fail
  refine (F.out _).mono ?_
  rintro e w1 ⟨rfl,rfl⟩
  go_wp2_with fail
  go_ret2
  exact ⟨_,rfl,Bts.nil _ _,Below.refl _ _⟩
set_option maxHeartbeats 2000000 in
theorem num_yes1 (v:Int) (h0:-9223372036854775808 ≤ v) (h1:v ≤ 9223372036854775807) (h:fitB v 1=true) (W:World):Calls Tryd.prog 62 #[.int .i64 v,.int .i64 1] W (RetB (numL v 1) 0 W):=by
  have F:=Lib.hid (fun W=>fits_n v 1 56 (by decide) rfl (by decide) W _ ((fit_is v 1 56 h0 h1 (by decide)).trans h))
  have hmk:∀ w,(Instr.makeSlice 25 (.int .i64 1) (.int .i64 1)).run Tryd.prog w=.ok (.slice (some ⟨w.heap.size,0,none⟩) 1 1) (w.alloc (.cells (madeCells #[.int .u8 0] 1) 5)):=fun w=>run_make_row' (P:=Tryd.prog) 25 5 (.int .u8 0) 1 Tryd.underlying25 info_u8 rfl .i64 .i64 1 (by omega) (by omega) w
  clear h
  unfold RetB
  go_enter Tryd.func62,Tryd.ntmps62
  go_wp2_with fail
  refine (F.out _).mono ?_
  rintro e w1 ⟨rfl,rfl⟩
  go_wp2
  go_loopw [28] (fun i wr=>∃ k:Nat,k ≤ 1 ∧ i=.int .i64 k ∧ Below W.heap.size W wr ∧ wr.rowIs W.heap.size 5 1 (fun i=>.int .u8 (if i < k then byS v i else 0))) (fun i _=>1 - (intOf i).toNat)
  case atStart=>exact ⟨0,by omega,rfl,(Below.refl _ _).alloc (Nat.le_refl _) _,(World.rowIs_made _ _ _ _).congr (fun i hi=>rfl)⟩
  case round=>
    obtain ⟨k,hk,rfl,hB,hR⟩:=hrel
    by_cases hlt:k < 1
    · have hc:=hR.cell hlt
      have hf:=hR.frozen k
      have e1:min (8 * k) 64=8 * k:=by omega
      have e2:8 * k ≤ 63:=by omega
      go_wp2
      go_roundw
      case rel=>
        refine ⟨k + 1,by omega,by go_num,hB.setCell (Nat.le_refl _) _,?_⟩
        exact (hR.set k _).congr (fun i hi=>by_next v k i)
      case measure=>simp [intOf];omega
    · obtain rfl:k=1:=by omega
      go_wp2
      go_ret2
      exact ⟨_,rfl,row_own (hR.congr (g:=fun i=>.int .u8 (byS v i)) (fun i hi=>by rw [if_pos hi])) (Nat.le_refl _) (by decide),hB⟩
set_option maxHeartbeats 1000000 in
theorem num_no2 (v:Int) (h0:-9223372036854775808 ≤ v) (h1:v ≤ 9223372036854775807) (h:fitB v 2=false) (W:World):Calls Tryd.prog 62 #[.int .i64 v,.int .i64 2] W (RetB [] 2 W):=by
  have F:=Lib.hid (fun W=>fits_n v 2 48 (by decide) rfl (by decide) W _ ((fit_is v 2 48 h0 h1 (by decide)).trans h))
  clear h0 h1 h
  unfold RetB
  go_enter Tryd.func62,Tryd.ntmps62
  go_wp2_with fail
  refine (F.out _).mono ?_
  rintro e w1 ⟨rfl,rfl⟩
  go_wp2_with fail
  go_ret2
  exact ⟨_,rfl,Bts.nil _ _,Below.refl _ _⟩
set_option maxHeartbeats 2000000 in
theorem num_yes2 (v:Int) (h0:-9223372036854775808 ≤ v) (h1:v ≤ 9223372036854775807) (h:fitB v 2=true) (W:World):Calls Tryd.prog 62 #[.int .i64 v,.int .i64 2] W (RetB (numL v 2) 0 W):=by
  have F:=Lib.hid (fun W=>fits_n v 2 48 (by decide) rfl (by decide) W _ ((fit_is v 2 48 h0 h1 (by decide)).trans h))
  have hmk:∀ w,(Instr.makeSlice 25 (.int .i64 2) (.int .i64 2)).run Tryd.prog w=.ok (.slice (some ⟨w.heap.size,0,none⟩) 2 2) (w.alloc (.cells (madeCells #[.int .u8 0] 2) 5)):=fun w=>run_make_row' (P:=Tryd.prog) 25 5 (.int .u8 0) 1 Tryd.underlying25 info_u8 rfl .i64 .i64 2 (by omega) (by omega) w
  clear h
  unfold RetB
  go_enter Tryd.func62,Tryd.ntmps62
  go_wp2_with fail
  refine (F.out _).mono ?_
  rintro e w1 ⟨rfl,rfl⟩
  go_wp2
  go_loopw [28] (fun i wr=>∃ k:Nat,k ≤ 2 ∧ i=.int .i64 k ∧ Below W.heap.size W wr ∧ wr.rowIs W.heap.size 5 2 (fun i=>.int .u8 (if i < k then byS v i else 0))) (fun i _=>2 - (intOf i).toNat)
  case atStart=>exact ⟨0,by omega,rfl,(Below.refl _ _).alloc (Nat.le_refl _) _,(World.rowIs_made _ _ _ _).congr (fun i hi=>rfl)⟩
  case round=>
    obtain ⟨k,hk,rfl,hB,hR⟩:=hrel
    by_cases hlt:k < 2
    · have hc:=hR.cell hlt
      have hf:=hR.frozen k
      have e1:min (8 * k) 64=8 * k:=by omega
      have e2:8 * k ≤ 63:=by omega
      go_wp2
      go_roundw
      case rel=>
        refine ⟨k + 1,by omega,by go_num,hB.setCell (Nat.le_refl _) _,?_⟩
        exact (hR.set k _).congr (fun i hi=>by_next v k i)
      case measure=>simp [intOf];omega
    · obtain rfl:k=2:=by omega
      go_wp2
      go_ret2
      exact ⟨_,rfl,row_own (hR.congr (g:=fun i=>.int .u8 (byS v i)) (fun i hi=>by rw [if_pos hi])) (Nat.le_refl _) (by decide),hB⟩
set_option maxHeartbeats 1000000 in
theorem num_no4 (v:Int) (h0:-9223372036854775808 ≤ v) (h1:v ≤ 9223372036854775807) (h:fitB v 4=false) (W:World):Calls Tryd.prog 62 #[.int .i64 v,.int .i64 4] W (RetB [] 2 W):=by
  have F:=Lib.hid (fun W=>fits_n v 4 32 (by decide) rfl (by decide) W _ ((fit_is v 4 32 h0 h1 (by decide)).trans h))
  clear h0 h1 h
  unfold RetB
  go_enter Tryd.func62,Tryd.ntmps62
  go_wp2_with fail
  refine (F.out _).mono ?_
  rintro e w1 ⟨rfl,rfl⟩
  go_wp2_with fail
  go_ret2
  exact ⟨_,rfl,Bts.nil _ _,Below.refl _ _⟩
set_option maxHeartbeats 2000000 in
theorem num_yes4 (v:Int) (h0:-9223372036854775808 ≤ v) (h1:v ≤ 9223372036854775807) (h:fitB v 4=true) (W:World):Calls Tryd.prog 62 #[.int .i64 v,.int .i64 4] W (RetB (numL v 4) 0 W):=by
  have F:=Lib.hid (fun W=>fits_n v 4 32 (by decide) rfl (by decide) W _ ((fit_is v 4 32 h0 h1 (by decide)).trans h))
  have hmk:∀ w,(Instr.makeSlice 25 (.int .i64 4) (.int .i64 4)).run Tryd.prog w=.ok (.slice (some ⟨w.heap.size,0,none⟩) 4 4) (w.alloc (.cells (madeCells #[.int .u8 0] 4) 5)):=fun w=>run_make_row' (P:=Tryd.prog) 25 5 (.int .u8 0) 1 Tryd.underlying25 info_u8 rfl .i64 .i64 4 (by omega) (by omega) w
  clear h
  unfold RetB
  go_enter Tryd.func62,Tryd.ntmps62
  go_wp2_with fail
  refine (F.out _).mono ?_
  rintro e w1 ⟨rfl,rfl⟩
  go_wp2
  go_loopw [28] (fun i wr=>∃ k:Nat,k ≤ 4 ∧ i=.int .i64 k ∧ Below W.heap.size W wr ∧ wr.rowIs W.heap.size 5 4 (fun i=>.int .u8 (if i < k then byS v i else 0))) (fun i _=>4 - (intOf i).toNat)
  case atStart=>exact ⟨0,by omega,rfl,(Below.refl _ _).alloc (Nat.le_refl _) _,(World.rowIs_made _ _ _ _).congr (fun i hi=>rfl)⟩
  case round=>
    obtain ⟨k,hk,rfl,hB,hR⟩:=hrel
    by_cases hlt:k < 4
    · have hc:=hR.cell hlt
      have hf:=hR.frozen k
      have e1:min (8 * k) 64=8 * k:=by omega
      have e2:8 * k ≤ 63:=by omega
      go_wp2
      go_roundw
      case rel=>
        refine ⟨k + 1,by omega,by go_num,hB.setCell (Nat.le_refl _) _,?_⟩
        exact (hR.set k _).congr (fun i hi=>by_next v k i)
      case measure=>simp [intOf];omega
    · obtain rfl:k=4:=by omega
      go_wp2
      go_ret2
      exact ⟨_,rfl,row_own (hR.congr (g:=fun i=>.int .u8 (byS v i)) (fun i hi=>by rw [if_pos hi])) (Nat.le_refl _) (by decide),hB⟩
end Go.Proofs.YtjhjpllgoakncaaDoor.Mrm
