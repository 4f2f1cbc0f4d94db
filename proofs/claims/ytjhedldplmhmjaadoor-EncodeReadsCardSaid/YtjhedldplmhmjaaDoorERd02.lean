import Derived.Test.YtjhedldplmhmjaaDoorERd01
set_option linter.unusedVariables false
set_option linter.unusedSimpArgs false
set_option linter.unnecessarySimpa false
namespace Go.Proofs.YtjhedldplmhmjaaDoor.Mrm
open Go.RowKit
set_option linter.unusedVariables false
set_option linter.unnecessarySimpa false
set_option linter.unusedSimpArgs false
set_option maxRecDepth 100000
theorem unused_n (n:Nat) (h:n ≤ 8) (W:World):Calls Tryd.prog 70 #[.int .i64 n] W fun e w'=>e=.returned (.int .u64 ((64 - 8 * n:Nat):Int)) ∧ W=w':=by
  go_enter Tryd.func70,Tryd.ntmps70
  go_wp2
  go_ret
  exact ⟨retV (show Value.int .u64 _=_ by congr 1;omega),rfl⟩
theorem fits_n (v:Int) (n k:Nat) (h:n ≤ 8) (hk:64 - 8 * n=k) (hk1:k ≤ 63) (W:World) (b:Bool) (hb:(wrap64 (v * 2 ^ k) / 2 ^ k == v)=b):Calls Tryd.prog 68 #[.int .i64 v,.int .i64 n] W fun e w'=>e=.returned (.bool b) ∧ W=w':=by
  have U:=Lib.hid (fun W=>unused_n n h W)
  rw [hk] at U
  go_enter Tryd.func68,Tryd.ntmps68
  go_wp2_with fail
  refine (U.out _).mono ?_
  rintro e w1 ⟨rfl,rfl⟩
  go_wp2
  go_ret
  exact ⟨retV rfl,rfl⟩
theorem fit_is (v:Int) (m k:Nat) (h0:-9223372036854775808 ≤ v) (h1:v ≤ 9223372036854775807) (h:m=1 ∧ k=56 ∨ m=2 ∧ k=48 ∨ m=4 ∧ k=32):(wrap64 (v * 2 ^ k) / 2 ^ k == v)=fitB v m:=by
  unfold fitB
  unfold wrap64
  rw [← Bool.decide_and,Bool.beq_eq_decide_eq]
  apply decide_eq_decide.2
  rcases h with ⟨rfl,rfl⟩ | ⟨rfl,rfl⟩ | ⟨rfl,rfl⟩
  · show _=v ↔ (-128 ≤ v ∧ v < 128)
    omega
  · show _=v ↔ (-32768 ≤ v ∧ v < 32768)
    omega
  · show _=v ↔ (-2147483648 ≤ v ∧ v < 2147483648)
    omega
theorem info_u8:(Tryd.prog.info? 5).map (fun i=>(i.zero,i.size,i.bytes))=some (some (.int .u8 0),1,1):=by kernel_rfl
theorem by_next (v:Int) (k i:Nat):(if i=k then Value.int .u8 (v / 2 ^ (8 * k) % 256) else Value.int .u8 (if i < k then byS v i else 0))=Value.int .u8 (if i < k + 1 then byS v i else 0):=by
  by_cases h:i=k
  · subst h;rw [if_pos rfl,if_pos (by omega)];rfl
  · rw [if_neg h]
    by_cases h':i < k
    · rw [if_pos h',if_pos (by omega)]
    · rw [if_neg h',if_neg (by omega)]
theorem wid_no {n:Int} (h:wid n=false):¬ n=1 ∧ ¬ n=2 ∧ ¬ n=4:=by
  unfold wid at h
  simp only [Bool.or_eq_false_iff,beq_eq_false_iff_ne] at h
  omega
theorem num_wid (v n:Int) (h:wid n=false) (W:World):Calls Tryd.prog 54 #[.int .i64 v,.int .i64 n] W (RetB [] 2 W):=by
  obtain ⟨h1,h2,h3⟩:=wid_no h
  have e1:(n != 1)=true:=by simpa using h1
  have e2:(n != 2)=true:=by simpa using h2
  have e3:(n != 4)=true:=by simpa using h3
  clear h h1 h2 h3
  unfold RetB
  go_enter Tryd.func54,Tryd.ntmps54
  go_wp2_with fail
  go_ret2
  exact ⟨_,rfl,Bts.nil _ _,Below.refl _ _⟩
set_option maxHeartbeats 1000000 in
theorem num_no1 (v:Int) (h0:-9223372036854775808 ≤ v) (h1:v ≤ 9223372036854775807) (h:fitB v 1=false) (W:World):Calls Tryd.prog 54 #[.int .i64 v,.int .i64 1] W (RetB [] 2 W):=by
  have F:=Lib.hid (fun W=>fits_n v 1 56 (by decide) rfl (by decide) W _ ((fit_is v 1 56 h0 h1 (by decide)).trans h))
  clear h0 h1 h
  unfold RetB
  go_enter Tryd.func54,Tryd.ntmps54
  go_wp2_with fail
  refine (F.out _).mono ?_
  rintro e w1 ⟨rfl,rfl⟩
  go_wp2_with fail
  go_ret2
  exact ⟨_,rfl,Bts.nil _ _,Below.refl _ _⟩
set_option maxHeartbeats 2000000 in
theorem num_yes1 (v:Int) (h0:-9223372036854775808 ≤ v) (h1:v ≤ 9223372036854775807) (h:fitB v 1=true) (W:World):Calls Tryd.prog 54 #[.int .i64 v,.int .i64 1] W (RetB (numL v 1) 0 W):=by
  have F:=Lib.hid (fun W=>fits_n v 1 56 (by decide) rfl (by decide) W _ ((fit_is v 1 56 h0 h1 (by decide)).trans h))
  have hmk:∀ w,(Instr.makeSlice 22 (.int .i64 1) (.int .i64 1)).run Tryd.prog w=.ok (.slice (some ⟨w.heap.size,0,none⟩) 1 1) (w.alloc (.cells (madeCells #[.int .u8 0] 1) 5)):=fun w=>run_make_row' (P:=Tryd.prog) 22 5 (.int .u8 0) 1 Tryd.underlying22 info_u8 rfl .i64 .i64 1 (by omega) (by omega) w
  clear h
  unfold RetB
  go_enter Tryd.func54,Tryd.ntmps54
  go_wp2_with fail
  refine (F.out _).mono ?_
  rintro e w1 ⟨rfl,rfl⟩
  go_wp2
  go_loopw [28] (fun i wr=>∃ k:Nat,k ≤ 1 ∧ i=.int .i64 k ∧ Below W.heap.size W wr ∧ wr.rowIs W.heap.size 5 1 (fun i=>.int .u8 (if i < k then byS v i else 0))) (fun i _=>1 - (intOf i).toNat)
  case atStart=>exact ⟨0,by omega,rfl,(Below.refl _ _).alloc (Nat.le_refl _) _,(World.rowIs_made _ _ _ _).congr (fun i hi=>rfl)⟩
  case round=>
    obtain ⟨k,hk,rfl,hB,hR⟩:=hrel
    by_cases hlt:k < 1
    · have hc:=hR.cell hlt
      have hf:=hR.frozen k
      have e1:min (8 * k) 64=8 * k:=by omega
      have e2:8 * k ≤ 63:=by omega
      go_wp2
      go_roundw
      case rel=>
        refine ⟨k + 1,by omega,by go_num,hB.setCell (Nat.le_refl _) _,?_⟩
        exact (hR.set k _).congr (fun i hi=>by_next v k i)
      case measure=>simp [intOf];omega
    · obtain rfl:k=1:=by omega
      go_wp2
      go_ret2
      exact ⟨_,rfl,row_own (hR.congr (g:=fun i=>.int .u8 (byS v i)) (fun i hi=>by rw [if_pos hi])) (Nat.le_refl _) (by decide),hB⟩
set_option maxHeartbeats 1000000 in
theorem num_no2 (v:Int) (h0:-9223372036854775808 ≤ v) (h1:v ≤ 9223372036854775807) (h:fitB v 2=false) (W:World):Calls Tryd.prog 54 #[.int .i64 v,.int .i64 2] W (RetB [] 2 W):=by
  have F:=Lib.hid (fun W=>fits_n v 2 48 (by decide) rfl (by decide) W _ ((fit_is v 2 48 h0 h1 (by decide)).trans h))
  clear h0 h1 h
  unfold RetB
  go_enter Tryd.func54,Tryd.ntmps54
  go_wp2_with fail
  refine (F.out _).mono ?_
  rintro e w1 ⟨rfl,rfl⟩
  go_wp2_with fail
  go_ret2
  exact ⟨_,rfl,Bts.nil _ _,Below.refl _ _⟩
set_option maxHeartbeats 2000000 in
theorem num_yes2 (v:Int) (h0:-9223372036854775808 ≤ v) (h1:v ≤ 9223372036854775807) (h:fitB v 2=true) (W:World):Calls Tryd.prog 54 #[.int .i64 v,.int .i64 2] W (RetB (numL v 2) 0 W):=by
  have F:=Lib.hid (fun W=>fits_n v 2 48 (by decide) rfl (by decide) W _ ((fit_is v 2 48 h0 h1 (by decide)).trans h))
  have hmk:∀ w,(Instr.makeSlice 22 (.int .i64 2) (.int .i64 2)).run Tryd.prog w=.ok (.slice (some ⟨w.heap.size,0,none⟩) 2 2) (w.alloc (.cells (madeCells #[.int .u8 0] 2) 5)):=fun w=>run_make_row' (P:=Tryd.prog) 22 5 (.int .u8 0) 1 Tryd.underlying22 info_u8 rfl .i64 .i64 2 (by omega) (by omega) w
  clear h
  unfold RetB
  go_enter Tryd.func54,Tryd.ntmps54
  go_wp2_with fail
  refine (F.out _).mono ?_
  rintro e w1 ⟨rfl,rfl⟩
  go_wp2
  go_loopw [28] (fun i wr=>∃ k:Nat,k ≤ 2 ∧ i=.int .i64 k ∧ Below W.heap.size W wr ∧ wr.rowIs W.heap.size 5 2 (fun i=>.int .u8 (if i < k then byS v i else 0))) (fun i _=>2 - (intOf i).toNat)
  case atStart=>exact ⟨0,by omega,rfl,(Below.refl _ _).alloc (Nat.le_refl _) _,(World.rowIs_made _ _ _ _).congr (fun i hi=>rfl)⟩
  case round=>
    obtain ⟨k,hk,rfl,hB,hR⟩:=hrel
    by_cases hlt:k < 2
    · have hc:=hR.cell hlt
      have hf:=hR.frozen k
      have e1:min (8 * k) 64=8 * k:=by omega
      have e2:8 * k ≤ 63:=by omega
      go_wp2
      go_roundw
      case rel=>
        refine ⟨k + 1,by omega,by go_num,hB.setCell (Nat.le_refl _) _,?_⟩
        exact (hR.set k _).congr (fun i hi=>by_next v k i)
      case measure=>simp [intOf];omega
    · obtain rfl:k=2:=by omega
      go_wp2
      go_ret2
      exact ⟨_,rfl,row_own (hR.congr (g:=fun i=>.int .u8 (byS v i)) (fun i hi=>by rw [if_pos hi])) (Nat.le_refl _) (by decide),hB⟩
set_option maxHeartbeats 1000000 in
theorem num_no4 (v:Int) (h0:-9223372036854775808 ≤ v) (h1:v ≤ 9223372036854775807) (h:fitB v 4=false) (W:World):Calls Tryd.prog 54 #[.int .i64 v,.int .i64 4] W (RetB [] 2 W):=by
  have F:=Lib.hid (fun W=>fits_n v 4 32 (by decide) rfl (by decide) W _ ((fit_is v 4 32 h0 h1 (by decide)).trans h))
  clear h0 h1 h
  unfold RetB
  go_enter Tryd.func54,Tryd.ntmps54
  go_wp2_with fail
  refine (F.out _).mono ?_
  rintro e w1 ⟨rfl,rfl⟩
  go_wp2_with fail
  go_ret2
  exact ⟨_,rfl,Bts.nil _ _,Below.refl _ _⟩
set_option maxHeartbeats 2000000 in
theorem num_yes4 (v:Int) (h0:-9223372036854775808 ≤ v) (h1:v ≤ 9223372036854775807) (h:fitB v 4=true) (W:World):Calls Tryd.prog 54 #[.int .i64 v,.int .i64 4] W (RetB (numL v 4) 0 W):=by
  have F:=Lib.hid (fun W=>fits_n v 4 32 (by decide) rfl (by decide) W _ ((fit_is v 4 32 h0 h1 (by decide)).trans h))
  have hmk:∀ w,(Instr.makeSlice 22 (.int .i64 4) (.int .i64 4)).run Tryd.prog w=.ok (.slice (some ⟨w.heap.size,0,none⟩) 4 4) (w.alloc (.cells (madeCells #[.int .u8 0] 4) 5)):=fun w=>run_make_row' (P:=Tryd.prog) 22 5 (.int .u8 0) 1 Tryd.underlying22 info_u8 rfl .i64 .i64 4 (by omega) (by omega) w
  clear h
  unfold RetB
  go_enter Tryd.func54,Tryd.ntmps54
  go_wp2_with fail
  refine (F.out _).mono ?_
  rintro e w1 ⟨rfl,rfl⟩
  go_wp2
  go_loopw [28] (fun i wr=>∃ k:Nat,k ≤ 4 ∧ i=.int .i64 k ∧ Below W.heap.size W wr ∧ wr.rowIs W.heap.size 5 4 (fun i=>.int .u8 (if i < k then byS v i else 0))) (fun i _=>4 - (intOf i).toNat)
  case atStart=>exact ⟨0,by omega,rfl,(Below.refl _ _).alloc (Nat.le_refl _) _,(World.rowIs_made _ _ _ _).congr (fun i hi=>rfl)⟩
  case round=>
    obtain ⟨k,hk,rfl,hB,hR⟩:=hrel
    by_cases hlt:k < 4
    · have hc:=hR.cell hlt
      have hf:=hR.frozen k
      have e1:min (8 * k) 64=8 * k:=by omega
      have e2:8 * k ≤ 63:=by omega
      go_wp2
      go_roundw
      case rel=>
        refine ⟨k + 1,by omega,by go_num,hB.setCell (Nat.le_refl _) _,?_⟩
        exact (hR.set k _).congr (fun i hi=>by_next v k i)
      case measure=>simp [intOf];omega
    · obtain rfl:k=4:=by omega
      go_wp2
      go_ret2
      exact ⟨_,rfl,row_own (hR.congr (g:=fun i=>.int .u8 (byS v i)) (fun i hi=>by rw [if_pos hi])) (Nat.le_refl _) (by decide),hB⟩
end Go.Proofs.YtjhedldplmhmjaaDoor.Mrm
namespace Go.Proofs.YtjhedldplmhmjaaDoor.Mrm
open Go.RowKit
set_option linter.unusedVariables false
set_option linter.unnecessarySimpa false
set_option linter.unusedSimpArgs false
set_option maxRecDepth 100000
theorem num_n (v n:Int) (h0:-9223372036854775808 ≤ v) (h1:v ≤ 9223372036854775807) (W:World):Calls Tryd.prog 54 #[.int .i64 v,.int .i64 n] W (RetB (bif numB v n then numL v n.toNat else []) (bif numB v n then 0 else 2) W):=by
  unfold numB
  cases h:wid n
  · exact num_wid v n h W
  · have h3:n=1 ∨ n=2 ∨ n=4:=by
      unfold wid at h
      simp only [Bool.or_eq_true,beq_iff_eq] at h
      omega
    rcases h3 with rfl | rfl | rfl
    · show Calls _ _ _ _ (RetB (bif fitB v 1 then numL v 1 else []) (bif fitB v 1 then 0 else 2) W)
      cases g:fitB v 1
      · exact num_no1 v h0 h1 g W
      · exact num_yes1 v h0 h1 g W
    · show Calls _ _ _ _ (RetB (bif fitB v 2 then numL v 2 else []) (bif fitB v 2 then 0 else 2) W)
      cases g:fitB v 2
      · exact num_no2 v h0 h1 g W
      · exact num_yes2 v h0 h1 g W
    · show Calls _ _ _ _ (RetB (bif fitB v 4 then numL v 4 else []) (bif fitB v 4 then 0 else 2) W)
      cases g:fitB v 4
      · exact num_no4 v h0 h1 g W
      · exact num_yes4 v h0 h1 g W
end Go.Proofs.YtjhedldplmhmjaaDoor.Mrm
namespace Go.Proofs.YtjhedldplmhmjaaDoor.Mrm
open Go.RowKit
set_option linter.unusedVariables false
set_option linter.unnecessarySimpa false
set_option linter.unusedSimpArgs false
set_option maxRecDepth 100000
theorem between_n (m:Int) (h0:0 ≤ m) (h1:m < 16) (W:World):Calls Tryd.prog 67 #[.int .i8 m] W (RetV (midL m) W):=by
  unfold midL RetV
  by_cases h:m % 8=4
  · rw [if_pos h]
    go_enter Tryd.func67,Tryd.ntmps67
    go_wp2
    go_ret
    exact ⟨_,rfl,one_own W 36 (Nat.le_refl _),below_new (Below.refl _ _) _⟩
  · rw [if_neg h]
    have eb:(m % 8 == 4)=false:=by simpa using h
    clear h
    go_enter Tryd.func67,Tryd.ntmps67
    go_wp2
    go_ret
    exact ⟨_,rfl,Bts.nil _ _,Below.refl _ _⟩
set_option maxHeartbeats 1000000 in
theorem operand_n (q:Bool) (r m:Int) (xa:Option Addr) (l c:Nat) (zs:List Int) (W:World) (hE:BytesAt W xa l c zs) (hl:l ≤ 1000):
    Calls Tryd.prog 66 #[.int .u8 (if q then 192 else 128),.int .i8 r,.int .i8 m,.slice xa l c] W (RetV ([opI (if q then 192 else 128) r m] ++ zs) W):=by
  have ea:=Lib.hid (op_or q r m)
  have EB:=Lib.hid (opI_bd (k:=if q then 192 else 128) (r:=r) (m:=m) (by cases q <;> decide))
  have HE:=Lib.hid hE
  clear hE
  unfold RetV
  generalize opI (if q then 192 else 128) r m=z at *
  generalize (if q then (192:Int) else 128)=k at *
  go_enter Tryd.func66,Tryd.ntmps66
  go_wp2_with (at_builtin;refine wpList_append_b rfl _ _ rfl W.heap.size _ _ rfl (one_own W _ (Nat.le_refl _)) _ l c zs rfl (HE.out.below (below_new (Below.refl _ _) _)) (by simp;omega) (by simp) ?_)
  intro v8 w8 o8 g8
  have B8:=Lib.hid (below_grown (below_new (Below.refl _ W) _) g8 (fun j hj=>by simp [Value.ownBlock] at hj;omega))
  have O8:=Lib.hid (show Bts W.heap.size w8 v8 ([z] ++ zs) by rw [← ea.out];exact o8)
  clear o8 g8
  go_wp2_with fail
  go_ret
  exact ⟨_,rfl,O8.out,B8.out⟩
theorem regs_n (r m:Int) (W:World):Calls Tryd.prog 52 #[.int .i8 r,.int .i8 m] W (RetB (bif bothB r m then regL r m else []) (bif bothB r m then 0 else 2) W):=by
  have B:=Lib.hid (fun W=>both_n r m W)
  unfold RetB
  cases h:bothB r m
  · rw [h] at B
    go_enter Tryd.func52,Tryd.ntmps52
    go_wp2_with fail
    refine (B.out _).mono ?_
    rintro e w1 ⟨rfl,rfl⟩
    go_wp2_with fail
    go_ret2
    exact ⟨_,rfl,Bts.nil _ _,Below.refl _ _⟩
  · rw [h] at B
    have O:=Lib.hid (fun W=>operand_n true r m none 0 0 [] W (BytesAt.nil W) (by omega))
    clear h
    go_enter Tryd.func52,Tryd.ntmps52
    go_wp2_with fail
    refine (B.out _).mono ?_
    rintro e w1 ⟨rfl,rfl⟩
    go_wp2_with fail
    refine (O.out _).mono ?_
    rintro e w1 ⟨v,rfl,o1,b1⟩
    go_wp2_with fail
    go_ret2
    exact ⟨_,rfl,o1,b1⟩
theorem num4_n (d:Int) (h0:-9223372036854775808 ≤ d) (h1:d ≤ 9223372036854775807) (W:World):Calls Tryd.prog 54 #[.int .i64 d,.int .i64 4] W (RetB (bif fitB d 4 then numL d 4 else []) (bif fitB d 4 then 0 else 2) W):=num_n d 4 h0 h1 W
def MemB (r m d:Int) (W:World):Ending → World → Prop:=RetB (bif memB r m d then memL r m d else []) (bif memB r m d then 0 else 2) W
set_option maxHeartbeats 2000000 in
theorem mem_n (r m d:Int) (h0:-9223372036854775808 ≤ d) (h1:d ≤ 9223372036854775807) (W:World):Calls Tryd.prog 50 #[.int .i8 r,.int .i8 m,.int .i64 d] W (MemB r m d W):=by
  have B:=Lib.hid (fun W=>both_n r m W)
  have D:=Lib.hid (fun W=>num4_n d h0 h1 W)
  clear h0 h1
  unfold MemB memB
  cases h:bothB r m
  · rw [h] at B
    unfold RetB
    go_enter Tryd.func50,Tryd.ntmps50
    go_wp2_with fail
    refine (D.out _).mono ?_
    rintro e w1 ⟨v1,rfl,o1,b1⟩
    go_wp2_with fail
    refine (B.out _).mono ?_
    rintro e w2 ⟨rfl,rfl⟩
    go_wp2_with fail
    go_ret2
    exact ⟨_,rfl,Bts.nil _ _,b1⟩
  · rw [h] at B
    have hm:=(bothB_iff.1 h).2
    cases g:fitB d 4
    · rw [g] at D
      unfold RetB
      go_enter Tryd.func50,Tryd.ntmps50
      go_wp2_with fail
      refine (D.out _).mono ?_
      rintro e w1 ⟨v1,rfl,o1,b1⟩
      go_wp2_with fail
      refine (B.out _).mono ?_
      rintro e w2 ⟨rfl,rfl⟩
      go_wp2_with fail
      go_ret2
      exact ⟨_,rfl,Bts.nil _ _,b1⟩
    · rw [g] at D
      have BT:=Lib.hid (fun W=>between_n m hm.1 hm.2 W)
      have OP:=Lib.hid (fun xa l c zs W hE hl=>operand_n false r m xa l c zs W hE hl)
      have OK1:=Lib.hid (numL_ok d 4)
      have OK2:=Lib.hid ((midL_ok m).append (numL_ok d 4))
      have HL:=Lib.hid (numL_length d 4)
      have HM:=Lib.hid (show (midL m).length ≤ 1 by unfold midL;split <;> simp)
      clear h g hm
      show Calls _ _ _ _ (RetB (memL r m d) 0 W)
      unfold RetB memL
      generalize numL d 4=nl at *
      generalize midL m=ml at *
      have H5:=Lib.hid (show (ml ++ nl).length ≤ 1000 by rw [List.length_append];have:=HL.out;have:=HM.out;omega)
      generalize hL:ml ++ nl=L at *
      have EL:=Lib.hid hL
      clear hL
      go_enter Tryd.func50,Tryd.ntmps50
      go_wp2_with fail
      refine (D.out _).mono ?_
      rintro e w1 ⟨v1,rfl,o1,b1⟩
      obtain ⟨xa,c,rfl,E1⟩:=o1.at OK1.out
      have E1:=Lib.hid E1
      have B1:=Lib.hid b1
      clear o1 b1 D
      go_wp2_with fail
      refine (B.out _).mono ?_
      rintro e w2 ⟨rfl,rfl⟩
      go_wp2_with fail
      refine (BT.out _).mono ?_
      rintro e w2 ⟨v2,rfl,o2,b2⟩
      have O2:=Lib.hid o2
      have E2:=Lib.hid (E1.out.below b2)
      have B2:=Lib.hid (below_call B1.out b2)
      have S12:=Lib.hid (Nat.le_trans b2.size (Nat.le_refl _))
      clear o2 b2 B BT E1
      go_wp2_with (at_builtin;refine wpList_append_b rfl _ _ rfl w1.heap.size _ ml rfl O2.out _ _ _ nl rfl E2.out (by have:=HL.out;have:=HM.out;omega) S12.out ?_)
      intro v3 w3 o3 g3
      have B3:=Lib.hid (below_grown B2.out g3 (fun j hj=>Nat.le_trans B1.out.size (O2.out.lt j hj)))
      clear g3
      rw [EL.out] at o3
      obtain ⟨ya,cy,rfl,E3⟩:=o3.at OK2.out
      clear o3
      have E3:=Lib.hid E3
      generalize L.length=n at *
      go_wp2_with fail
      refine (OP.out _ _ _ _ _ E3.out H5.out).mono ?_
      rintro e w4 ⟨v4,rfl,o4,b4⟩
      have O4:=Lib.hid (o4.mono B3.out.size)
      have B4:=Lib.hid (below_call B3.out b4)
      clear o4 b4
      go_wp2_with fail
      go_ret2
      exact ⟨_,rfl,O4.out,B4.out⟩
end Go.Proofs.YtjhedldplmhmjaaDoor.Mrm
namespace Go.Proofs.YtjhedldplmhmjaaDoor.Mrm
open Go.RowKit
set_option linter.unusedVariables false
set_option linter.unnecessarySimpa false
set_option linter.unusedSimpArgs false
set_option maxRecDepth 100000
end Go.Proofs.YtjhedldplmhmjaaDoor.Mrm
namespace Go.Proofs.YtjhedldplmhmjaaDoor.Mrm
open Go.RowKit
set_option linter.unusedVariables false
set_option linter.unnecessarySimpa false
set_option linter.unusedSimpArgs false
set_option maxRecDepth 100000
def getI (f:Nat → Int):Nat → Int
  | 0=>0
  | k + 1=>getI f k + f k * 2 ^ (8 * k)
theorem getI_bd (f:Nat → Int):∀ k:Nat,(∀ i,i < k → 0 ≤ f i ∧ f i < 256) → 0 ≤ getI f k ∧ getI f k < 2 ^ (8 * k)
  | 0,_=>⟨by unfold getI;omega,by show (0:Int) < 2 ^ (8 * 0);decide⟩
  | k + 1,h=>by
    have ih:=getI_bd f k (fun i hi=>h i (by omega))
    have b:=h k (by omega)
    have p:(0:Int) < 2 ^ (8 * k):=Int.pow_pos (by omega)
    have e:(2:Int) ^ (8 * (k + 1))=256 * 2 ^ (8 * k):=by rw [show 8 * (k + 1)=8 + 8 * k by omega,Int.pow_add];rfl
    have u:f k * 2 ^ (8 * k) ≤ 255 * 2 ^ (8 * k):=Int.mul_le_mul_of_nonneg_right (by omega) (by omega)
    have v:0 ≤ f k * 2 ^ (8 * k):=Int.mul_nonneg b.1 (by omega)
    unfold getI
    rw [e]
    omega
theorem get_step (x y:Int) (k:Nat) (h8:k < 8) (hx0:0 ≤ x) (hx1:x < 2 ^ (8 * k)) (hy0:0 ≤ y) (hy1:y < 256):bits .or .u64 x (y * 2 ^ (8 * k) % 18446744073709551616)=x + y * 2 ^ (8 * k):=by
  have p:(0:Int) < 2 ^ (8 * k):=Int.pow_pos (by omega)
  have q:(2:Int) ^ (8 * k) ≤ 2 ^ 56:=by
    have:=Nat.pow_le_pow_right (show 0 < 2 by omega) (show 8 * k ≤ 56 by omega)
    have e:((2 ^ (8 * k):Nat):Int) ≤ ((2 ^ 56:Nat):Int):=by omega
    simpa using e
  have r:(2:Int) ^ 56=72057594037927936:=rfl
  have u:y * 2 ^ (8 * k) ≤ 255 * 2 ^ (8 * k):=Int.mul_le_mul_of_nonneg_right (by omega) (by omega)
  have v:0 ≤ y * 2 ^ (8 * k):=Int.mul_nonneg hy0 (by omega)
  rw [Int.emod_eq_of_lt v (by omega),u64_or _ _ hx0 (by omega) v (by omega)]
  obtain ⟨X,rfl⟩:=Int.eq_ofNat_of_zero_le hx0
  obtain ⟨Y,rfl⟩:=Int.eq_ofNat_of_zero_le hy0
  have c:((Y:Int) * 2 ^ (8 * k))=((2 ^ (8 * k) * Y:Nat):Int):=by rw [Nat.mul_comm (2 ^ (8 * k)) Y];simp
  have d:X < 2 ^ (8 * k):=by
    have e:(X:Int) < ((2 ^ (8 * k):Nat):Int):=by simpa using hx1
    omega
  rw [c,Int.toNat_natCast,Int.toNat_natCast,Nat.or_comm,← Nat.two_pow_add_eq_or_of_lt d]
  omega
def sgV (n:Nat) (u:Int):Int:=if n=0 then 0 else if u < 2 ^ (8 * n - 1) then u else u - 2 ^ (8 * n)
def cntN (l:List Int):Nat:=min l.length 8
def sgn (l:List Int):Int:=sgV (cntN l) (getI (fun i=>l.getD i 0) (cntN l))
theorem sg_is (n:Nat) (g:Int) (h1:1 ≤ n) (h8:n ≤ 8) (g0:0 ≤ g) (g1:g < 2 ^ (8 * n)):wrap64 (IntKind.u64.wrap (g * 2 ^ (64 - 8 * n))) / 2 ^ (64 - 8 * n)=sgV n g:=by
  rw [IntKind.wrap_u64]
  unfold sgV wrap64
  rw [if_neg (by omega)]
  obtain rfl | rfl | rfl | rfl | rfl | rfl | rfl | rfl:n=1 ∨ n=2 ∨ n=3 ∨ n=4 ∨ n=5 ∨ n=6 ∨ n=7 ∨ n=8:=by omega
  · have g2:g < 256:=g1
    show (((g * 72057594037927936 % 18446744073709551616 + 9223372036854775808) % 18446744073709551616 - 9223372036854775808) / 72057594037927936:Int)=if g < 128 then g else g - 256
    split <;> omega
  · have g2:g < 65536:=g1
    show (((g * 281474976710656 % 18446744073709551616 + 9223372036854775808) % 18446744073709551616 - 9223372036854775808) / 281474976710656:Int)=if g < 32768 then g else g - 65536
    split <;> omega
  · have g2:g < 16777216:=g1
    show (((g * 1099511627776 % 18446744073709551616 + 9223372036854775808) % 18446744073709551616 - 9223372036854775808) / 1099511627776:Int)=if g < 8388608 then g else g - 16777216
    split <;> omega
  · have g2:g < 4294967296:=g1
    show (((g * 4294967296 % 18446744073709551616 + 9223372036854775808) % 18446744073709551616 - 9223372036854775808) / 4294967296:Int)=if g < 2147483648 then g else g - 4294967296
    split <;> omega
  · have g2:g < 1099511627776:=g1
    show (((g * 16777216 % 18446744073709551616 + 9223372036854775808) % 18446744073709551616 - 9223372036854775808) / 16777216:Int)=if g < 549755813888 then g else g - 1099511627776
    split <;> omega
  · have g2:g < 281474976710656:=g1
    show (((g * 65536 % 18446744073709551616 + 9223372036854775808) % 18446744073709551616 - 9223372036854775808) / 65536:Int)=if g < 140737488355328 then g else g - 281474976710656
    split <;> omega
  · have g2:g < 72057594037927936:=g1
    show (((g * 256 % 18446744073709551616 + 9223372036854775808) % 18446744073709551616 - 9223372036854775808) / 256:Int)=if g < 36028797018963968 then g else g - 72057594037927936
    split <;> omega
  · have g2:g < 18446744073709551616:=g1
    show (((g * 1 % 18446744073709551616 + 9223372036854775808) % 18446744073709551616 - 9223372036854775808) / 1:Int)=if g < 9223372036854775808 then g else g - 18446744073709551616
    split <;> omega
theorem sg_8 (g:Int) (g0:0 ≤ g) (g1:g < 2 ^ (8 * 8)):wrap64 (IntKind.u64.wrap g)=sgV 8 g:=by
  rw [IntKind.wrap_u64]
  unfold sgV wrap64
  rw [if_neg (by omega)]
  have g2:g < 18446744073709551616:=g1
  show ((g % 18446744073709551616 + 9223372036854775808) % 18446744073709551616 - 9223372036854775808:Int)=if g < 9223372036854775808 then g else g - 18446744073709551616
  split <;> omega
set_option maxHeartbeats 1000000 in
theorem signed_few (b o len cap:Nat) (f:Nat → Int) (W:World) (hl:len ≤ 8) (h1:1 ≤ len) (hc:len ≤ cap) (hm:cap ≤ 9223372036854775807) (hf:∀ i,i < len → 0 ≤ f i ∧ f i < 256) (hcell:∀ i,i < len → W.cell? ⟨b,o + i,none⟩=some (.int .u8 (f i))):
    Calls Tryd.prog 58 #[.slice (some ⟨b,o,none⟩) len cap] W fun e w'=>e=.returned (.int .i64 (sgV len (getI f len))) ∧ W=w':=by
  have HC:=Lib.hid hcell;clear hcell
  have HF:=Lib.hid hf;clear hf
  have U:=Lib.hid (fun W=>unused_n len (by omega) W)
  go_enter Tryd.func58,Tryd.ntmps58
  go_wp2
  go_loop [3,14] (fun v i=>∃ k:Nat,k ≤ len ∧ i=.int .i64 k ∧ v=.int .u64 (getI f k)) (fun _ i=>len - (intOf i).toNat)
  case atStart=>exact ⟨0,by omega,rfl,rfl⟩
  case round=>
    obtain ⟨k,hk,rfl,rfl⟩:=hrel
    by_cases hlt:k < len
    · have hb:=getI_bd f k (fun i hi=>HF.out i (by omega))
      have hy:=HF.out k hlt
      have e1:min (8 * k) 64=8 * k:=by omega
      have e2:=Lib.hid (get_step (getI f k) (f k) k (by omega) hb.1 hb.2 hy.1 hy.2)
      have hx:=HC.out k hlt
      have hy0:=hy.1
      have hy1:=hy.2
      clear hb hy
      go_wp2
      go_round
      case rel=>exact ⟨k + 1,by omega,by go_num,by rw [IntKind.wrap_u64,e2.out];rfl⟩
      case measure=>simp [intOf];omega
    · obtain rfl:k=len:=by omega
      have HG:=Lib.hid (getI_bd f k (fun i hi=>HF.out i (by omega)))
      have HS:=Lib.hid (sg_is k (getI f k) (by omega) (by omega) HG.out.1 HG.out.2)
      go_wp2_with fail
      refine (U.out _).mono ?_
      rintro e w1 ⟨rfl,rfl⟩
      have e1:min (64 - 8 * k) 64=64 - 8 * k:=by omega
      have e2:64 - 8 * k ≤ 63:=by omega
      generalize hd:64 - 8 * k=d at *
      go_wp2
      go_ret
      exact ⟨retV (congrArg (Value.int .i64) HS.out),rfl⟩
set_option maxHeartbeats 1000000 in
theorem signed_many (b o len cap:Nat) (f:Nat → Int) (W:World) (hl:8 < len) (hc:len ≤ cap) (hm:cap ≤ 9223372036854775807) (hf:∀ i,i < 8 → 0 ≤ f i ∧ f i < 256) (hcell:∀ i,i < 8 → W.cell? ⟨b,o + i,none⟩=some (.int .u8 (f i))):
    Calls Tryd.prog 58 #[.slice (some ⟨b,o,none⟩) len cap] W fun e w'=>e=.returned (.int .i64 (sgV 8 (getI f 8))) ∧ W=w':=by
  have HC:=Lib.hid hcell;clear hcell
  have HF:=Lib.hid hf;clear hf
  have U:=Lib.hid (fun W=>unused_n 8 (by omega) W)
  go_enter Tryd.func58,Tryd.ntmps58
  go_wp2
  go_loop [3,14] (fun v i=>∃ k:Nat,k ≤ 8 ∧ i=.int .i64 k ∧ v=.int .u64 (getI f k)) (fun _ i=>8 - (intOf i).toNat)
  case atStart=>exact ⟨0,by omega,rfl,rfl⟩
  case round=>
    obtain ⟨k,hk,rfl,rfl⟩:=hrel
    by_cases hlt:k < 8
    · have hb:=getI_bd f k (fun i hi=>HF.out i (by omega))
      have hy:=HF.out k hlt
      have e1:min (8 * k) 64=8 * k:=by omega
      have e2:=Lib.hid (get_step (getI f k) (f k) k (by omega) hb.1 hb.2 hy.1 hy.2)
      have hx:=HC.out k hlt
      have hy0:=hy.1
      have hy1:=hy.2
      clear hb hy
      go_wp2
      go_round
      case rel=>exact ⟨k + 1,by omega,by go_num,by rw [IntKind.wrap_u64,e2.out];rfl⟩
      case measure=>simp [intOf];omega
    · obtain rfl:k=8:=by omega
      have HG:=Lib.hid (getI_bd f 8 (fun i hi=>HF.out i (by omega)))
      have HS:=Lib.hid (sg_8 (getI f 8) HG.out.1 HG.out.2)
      go_wp2_with fail
      refine (U.out _).mono ?_
      rintro e w1 ⟨rfl,rfl⟩
      go_wp2
      go_ret
      exact ⟨retV (congrArg (Value.int .i64) HS.out),rfl⟩
end Go.Proofs.YtjhedldplmhmjaaDoor.Mrm
namespace Go.Proofs.YtjhedldplmhmjaaDoor.Mrm
open Go.RowKit
set_option linter.unusedVariables false
set_option linter.unnecessarySimpa false
set_option linter.unusedSimpArgs false
set_option maxRecDepth 100000
theorem signed_nil (W:World):Calls Tryd.prog 58 #[.slice none 0 0] W fun e w'=>e=.returned (.int .i64 0) ∧ W=w':=by
  have U:=Lib.hid (fun W=>unused_n 0 (by omega) W)
  go_enter Tryd.func58,Tryd.ntmps58
  go_wp2
  go_rounds 1
  go_ret
  exact ⟨rfl,rfl⟩
theorem signed_zero (x:Addr) (cap:Nat) (hm:cap ≤ 9223372036854775807) (W:World):Calls Tryd.prog 58 #[.slice (some x) 0 cap] W fun e w'=>e=.returned (.int .i64 0) ∧ W=w':=by
  have U:=Lib.hid (fun W=>unused_n 0 (by omega) W)
  go_enter Tryd.func58,Tryd.ntmps58
  go_wp2
  go_rounds 1
  go_ret
  exact ⟨rfl,rfl⟩
theorem at_cells {W:World} {a:Option Addr} {len cap:Nat} {zs:List Int} (h:BytesAt W a len cap zs) (h0:0 < len):∃ b o,a=some ⟨b,o,none⟩ ∧ (∀ i,i < len → W.cell? ⟨b,o + i,none⟩=some (.int .u8 (zs.getD i 0))) ∧ ∀ i,i < len → 0 ≤ zs.getD i 0 ∧ zs.getD i 0 < 256:=by
  obtain ⟨b,o,e,hc⟩:=h.here h0
  have hz:∀ i,i < len → zs[i]?=some (zs.getD i 0):=fun i hi=>by
    rw [List.getD_eq_getElem?_getD,List.getElem?_eq_getElem (by rw [← h.size];exact hi)];rfl
  exact ⟨b,o,e,fun i hi=>hc i _ (hz i hi),fun i hi=>h.ok _ (List.mem_of_getElem? (hz i hi))⟩
theorem sgn_few {zs:List Int} {n:Nat} (h:n=zs.length) (hn:n ≤ 8):sgn zs=sgV n (getI (fun i=>zs.getD i 0) n):=by
  unfold sgn cntN
  rw [← h,Nat.min_eq_left hn]
theorem sgn_many {zs:List Int} {n:Nat} (h:n=zs.length) (hn:8 < n):sgn zs=sgV 8 (getI (fun i=>zs.getD i 0) 8):=by
  unfold sgn cntN
  rw [← h,Nat.min_eq_right (by omega)]
theorem sgn_none {zs:List Int} (h:0=zs.length):sgn zs=0:=sgn_few h (by omega)
theorem signed_n (a:Option Addr) (len cap:Nat) (zs:List Int) (W:World) (h:BytesAt W a len cap zs):Calls Tryd.prog 58 #[.slice a len cap] W fun e w'=>e=.returned (.int .i64 (sgn zs)) ∧ W=w':=by
  by_cases h0:0 < len
  · obtain ⟨b,o,rfl,hc,hb⟩:=at_cells h h0
    by_cases h8:len ≤ 8
    · rw [sgn_few h.size h8]
      exact signed_few b o len cap _ W h8 h0 h.le h.fit hb hc
    · rw [sgn_many h.size (by omega)]
      exact signed_many b o len cap _ W (by omega) h.le h.fit (fun i hi=>hb i (by omega)) (fun i hi=>hc i (by omega))
  · obtain rfl:len=0:=by omega
    rw [sgn_none h.size]
    cases a with
    | none=>
      have:=h.nilc rfl
      subst this
      exact signed_nil W
    | some x=>exact signed_zero x cap h.fit W
end Go.Proofs.YtjhedldplmhmjaaDoor.Mrm
namespace Go.Proofs.YtjhedldplmhmjaaDoor.Mrm
open Go.RowKit
set_option linter.unusedVariables false
set_option linter.unnecessarySimpa false
set_option linter.unusedSimpArgs false
set_option maxRecDepth 100000
theorem quiet3 {P:Program} {f:FuncId} {args:Array Value} {w:World} {n m:Nat} {v:Value} (h:Calls P f args (w.drewN (n + m)) fun e w'=>e=.returned v ∧ w.drewN (n + m)=w'):Calls P f args (w.drewN (n + m)) fun e w''=>e=.returned v ∧ ∃ k,w''=w.drewN (n + k):=
  h.mono fun _ _ ⟨he,hm⟩=>⟨he,m,hm.symm⟩
theorem equal_n (a1 a2:Option Addr) (n1 c1 n2 c2:Nat) (zs ys:List Int) (W:World) (h1:BytesAt W a1 n1 c1 zs) (h2:BytesAt W a2 n2 c2 ys):
    Calls Tryd.prog 31 #[.slice a1 n1 c1,.slice a2 n2 c2] W fun e w'=>e=.returned (.bool (decide (zs=ys))) ∧ W=w':=by
  have q1:=conv_bytes h1
  have q2:=conv_bytes h2
  by_cases e:zs=ys
  · rw [decide_eq_true e]
    subst e
    clear h1 h2
    generalize strOfNums zs=s at *
    go_enter Tryd.func31,Tryd.ntmps31
    go_wp2_with fail
    go_ret
    exact ⟨rfl,rfl⟩
  · rw [decide_eq_false e]
    have e0:((strOfNums zs).toList == (strOfNums ys).toList)=false:=by
      rw [beq_eq_false_iff_ne]
      exact fun h=>e (str_inj h1.ok h2.ok (by
        rw [ByteArray.toList_eq,ByteArray.toList_eq] at h
        exact ByteArray.ext (Array.toList_inj.1 h)))
    clear h1 h2 e
    generalize strOfNums zs=s at *
    generalize strOfNums ys=t at *
    go_enter Tryd.func31,Tryd.ntmps31
    go_wp2_with fail
    go_ret
    exact ⟨rfl,rfl⟩
theorem at_empty (W:World) (B o c:Nat) (hc:c ≤ 9223372036854775807):BytesAt W (some ⟨B,o,none⟩) 0 c []:=⟨rfl,Nat.zero_le _,hc,fun h=>absurd h (by decide),fun z hz=>(by cases hz),fun h=>by cases h⟩
theorem at_one (W:World) (B o c:Nat) (z:Int) (h0:0 ≤ z ∧ z < 256) (h:W.cell? ⟨B,o,none⟩=some (.int .u8 z)) (h1:1 ≤ c) (hc:c ≤ 9223372036854775807):BytesAt W (some ⟨B,o,none⟩) 1 c [z]:=
  ⟨rfl,h1,hc,fun _=>⟨B,o,rfl,fun j y hy=>by
    have hj:j < 1:=(List.getElem?_eq_some_iff.1 hy).1
    obtain rfl:j=0:=by omega
    obtain rfl:z=y:=by simpa using hy
    exact h⟩,one_ok h0,fun h=>by cases h⟩
theorem prefix_nil (B o n c:Nat) (W:World) (hn:n ≤ c) (hc:c ≤ 9223372036854775807):
    Calls Tryd.prog 9 #[.slice (some ⟨B,o,none⟩) n c,.slice none 0 0] W fun e w'=>e=.returned (.bool true) ∧ W=w':=by
  have E:=Lib.hid (fun W=>equal_n (some ⟨B,o,none⟩) none 0 c 0 0 [] [] W (at_empty W B o c hc) (BytesAt.nil W))
  rw [decide_eq_true rfl] at E
  go_enter Tryd.func9,Tryd.ntmps9
  go_wp2_with fail
  refine (E.out _).mono ?_
  rintro e w1 ⟨rfl,rfl⟩
  go_wp2_with fail
  go_ret
  exact ⟨rfl,rfl⟩
theorem prefix_none (B o c g:Nat) (W:World) (hc:c ≤ 9223372036854775807):
    Calls Tryd.prog 9 #[.slice (some ⟨B,o,none⟩) 0 c,.slice (some ⟨g,0,none⟩) 1 1] W fun e w'=>e=.returned (.bool false) ∧ W=w':=by
  go_enter Tryd.func9,Tryd.ntmps9
  go_wp2_with fail
  go_ret
  exact ⟨rfl,rfl⟩
theorem prefix_one (B o n c g:Nat) (z p:Int) (W:World) (h1:1 ≤ n) (hn:n ≤ c) (hc:c ≤ 9223372036854775807) (hz:0 ≤ z ∧ z < 256) (hp:0 ≤ p ∧ p < 256) (cz:W.cell? ⟨B,o,none⟩=some (.int .u8 z)) (cp:W.cell? ⟨g,0,none⟩=some (.int .u8 p)):
    Calls Tryd.prog 9 #[.slice (some ⟨B,o,none⟩) n c,.slice (some ⟨g,0,none⟩) 1 1] W fun e w'=>e=.returned (.bool (decide (z=p))) ∧ W=w':=by
  have E:=Lib.hid (equal_n (some ⟨B,o,none⟩) (some ⟨g,0,none⟩) 1 c 1 1 [z] [p] W (at_one W B o c z hz cz (by omega) hc) (at_one W g 0 1 p hp cp (by omega) (by omega)))
  rw [show decide ([z]=[p])=decide (z=p) from decide_eq_decide.2 (by simp)] at E
  have h1c:1 ≤ c:=by omega
  clear cz cp hz hp
  go_enter Tryd.func9,Tryd.ntmps9
  go_wp2_with fail
  refine E.out.mono ?_
  rintro e w1 ⟨rfl,rfl⟩
  go_wp2_with fail
  go_ret
  exact ⟨rfl,rfl⟩
theorem cut_nil (B o n c:Nat) (W:World) (h0:0 < c) (hn:n ≤ c) (hc:c ≤ 9223372036854775807):
    Calls Tryd.prog 55 #[.slice (some ⟨B,o,none⟩) n c,.slice none 0 0] W fun e w'=>e=.returned (.tuple #[.slice (some ⟨B,o,none⟩) n c,.bool true]) ∧ W=w':=by
  have E:=Lib.hid (fun W=>prefix_nil B o n c W hn hc)
  go_enter Tryd.func55,Tryd.ntmps55
  go_wp2_with fail
  refine (E.out _).mono ?_
  rintro e w1 ⟨rfl,rfl⟩
  go_wp2_with fail
  go_ret2
  exact ⟨rfl,rfl⟩
theorem cut_nil0 (B o:Nat) (W:World):
    Calls Tryd.prog 55 #[.slice (some ⟨B,o,none⟩) 0 0,.slice none 0 0] W fun e w'=>e=.returned (.tuple #[.slice (some ⟨B,o,none⟩) 0 0,.bool true]) ∧ W=w':=by
  have E:=Lib.hid (fun W=>prefix_nil B o 0 0 W (by omega) (by omega))
  go_enter Tryd.func55,Tryd.ntmps55
  go_wp2_with fail
  refine (E.out _).mono ?_
  rintro e w1 ⟨rfl,rfl⟩
  go_wp2_with fail
  go_ret2
  exact ⟨rfl,rfl⟩
theorem cut_none (B o c g:Nat) (W:World) (hc:c ≤ 9223372036854775807):
    Calls Tryd.prog 55 #[.slice (some ⟨B,o,none⟩) 0 c,.slice (some ⟨g,0,none⟩) 1 1] W fun e w'=>e=.returned (.tuple #[.slice (some ⟨B,o,none⟩) 0 c,.bool false]) ∧ W=w':=by
  have E:=Lib.hid (fun W=>prefix_none B o c g W hc)
  go_enter Tryd.func55,Tryd.ntmps55
  go_wp2_with fail
  refine (E.out _).mono ?_
  rintro e w1 ⟨rfl,rfl⟩
  go_wp2_with fail
  go_ret2
  exact ⟨rfl,rfl⟩
theorem cut_no (B o n c g:Nat) (z p:Int) (W:World) (h1:1 ≤ n) (hn:n ≤ c) (hc:c ≤ 9223372036854775807) (hz:0 ≤ z ∧ z < 256) (hp:0 ≤ p ∧ p < 256) (cz:W.cell? ⟨B,o,none⟩=some (.int .u8 z)) (cp:W.cell? ⟨g,0,none⟩=some (.int .u8 p)) (hne:¬ z=p):
    Calls Tryd.prog 55 #[.slice (some ⟨B,o,none⟩) n c,.slice (some ⟨g,0,none⟩) 1 1] W fun e w'=>e=.returned (.tuple #[.slice (some ⟨B,o,none⟩) n c,.bool false]) ∧ W=w':=by
  have E:=Lib.hid (prefix_one B o n c g z p W h1 hn hc hz hp cz cp)
  rw [decide_eq_false hne] at E
  clear hz hp cz cp hne
  go_enter Tryd.func55,Tryd.ntmps55
  go_wp2_with fail
  refine E.out.mono ?_
  rintro e w1 ⟨rfl,rfl⟩
  go_wp2_with fail
  go_ret2
  exact ⟨rfl,rfl⟩
theorem cut_one (B o n c g:Nat) (p:Int) (W:World) (h1:1 ≤ n) (hn:n ≤ c) (h2:1 < c) (hc:c ≤ 9223372036854775807) (hp:0 ≤ p ∧ p < 256) (cz:W.cell? ⟨B,o,none⟩=some (.int .u8 p)) (cp:W.cell? ⟨g,0,none⟩=some (.int .u8 p)):
    Calls Tryd.prog 55 #[.slice (some ⟨B,o,none⟩) n c,.slice (some ⟨g,0,none⟩) 1 1] W fun e w'=>e=.returned (.tuple #[.slice (some ⟨B,o + 1,none⟩) (n - 1) (c - 1),.bool true]) ∧ W=w':=by
  have E:=Lib.hid (prefix_one B o n c g p p W h1 hn hc hp hp cz cp)
  rw [decide_eq_true rfl] at E
  clear hp cz cp
  go_enter Tryd.func55,Tryd.ntmps55
  go_wp2_with fail
  refine E.out.mono ?_
  rintro e w1 ⟨rfl,rfl⟩
  go_wp2_with fail
  go_ret2
  exact ⟨rfl,rfl⟩
theorem cut_end (B o g:Nat) (p:Int) (W:World) (hp:0 ≤ p ∧ p < 256) (cz:W.cell? ⟨B,o,none⟩=some (.int .u8 p)) (cp:W.cell? ⟨g,0,none⟩=some (.int .u8 p)):
    Calls Tryd.prog 55 #[.slice (some ⟨B,o,none⟩) 1 1,.slice (some ⟨g,0,none⟩) 1 1] W fun e w'=>e=.returned (.tuple #[.slice (some ⟨B,o,none⟩) 0 0,.bool true]) ∧ W=w':=by
  have E:=Lib.hid (prefix_one B o 1 1 g p p W (by omega) (by omega) (by omega) hp hp cz cp)
  rw [decide_eq_true rfl] at E
  clear hp cz cp
  go_enter Tryd.func55,Tryd.ntmps55
  go_wp2_with fail
  refine E.out.mono ?_
  rintro e w1 ⟨rfl,rfl⟩
  go_wp2_with fail
  go_ret2
  exact ⟨rfl,rfl⟩
end Go.Proofs.YtjhedldplmhmjaaDoor.Mrm
