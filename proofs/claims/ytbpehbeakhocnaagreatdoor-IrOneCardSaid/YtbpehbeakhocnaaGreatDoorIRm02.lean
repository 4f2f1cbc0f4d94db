import Derived.Test.YtbpehbeakhocnaaGreatDoorIRm01
import Derived.WalkKit
import Derived.Test.YtbpehbeakhocnaaGreatDoorRows
import Derived.WalkSpells
import Derived.WalkLawsBesides
import Derived.Laws.EntriesVeiled
import Derived.Lib.Hide
import Derived.Deep.QuietTactic
import Derived.BigQuiet
set_option maxHeartbeats 2000000
set_option linter.unusedVariables false
set_option linter.unusedSimpArgs false
set_option linter.unnecessarySimpa false
namespace Go.Proofs.YtbpehbeakhocnaaGreatDoor.Mrm
open Go.RowKit
set_option maxRecDepth 100000
theorem unused_n (n:Nat) (h:n ≤ 8) (W:World):Calls Tryz.prog 176 #[.int .i64 n] W fun e w'=>e=.returned (.int .u64 ((64 - 8 * n:Nat):Int)) ∧ W=w':=by
  go_enter Tryz.func176,Tryz.ntmps176
  go_wp2
  go_ret
  exact ⟨retV (show Value.int .u64 _=_ by congr 1;omega),rfl⟩
theorem fits_n (v:Int) (n k:Nat) (h:n ≤ 8) (hk:64 - 8 * n=k) (hk1:k ≤ 63) (W:World) (b:Bool) (hb:(wrap64 (v * 2 ^ k) / 2 ^ k == v)=b):Calls Tryz.prog 157 #[.int .i64 v,.int .i64 n] W fun e w'=>e=.returned (.bool b) ∧ W=w':=by
  have U:=Lib.hid (fun W=>unused_n n h W)
  rw [hk] at U
  go_enter Tryz.func157,Tryz.ntmps157
  go_wp2_with fail
  refine (U.out _).mono ?_
  rintro e w1 ⟨rfl,rfl⟩
  go_wp2
  go_ret
  exact ⟨retV rfl,rfl⟩
theorem fit_is (v:Int) (m k:Nat) (h0:-9223372036854775808 ≤ v) (h1:v ≤ 9223372036854775807) (h:m=1 ∧ k=56 ∨ m=2 ∧ k=48 ∨ m=4 ∧ k=32):(wrap64 (v * 2 ^ k) / 2 ^ k == v)=fitB v m:=by
  unfold fitB
  unfold wrap64
  rw [← Bool.decide_and,Bool.beq_eq_decide_eq]
  apply decide_eq_decide.2
  rcases h with ⟨rfl,rfl⟩ | ⟨rfl,rfl⟩ | ⟨rfl,rfl⟩
  · show _=v ↔ (-128 ≤ v ∧ v < 128)
    omega
  · show _=v ↔ (-32768 ≤ v ∧ v < 32768)
    omega
  · show _=v ↔ (-2147483648 ≤ v ∧ v < 2147483648)
    omega
theorem info_u8:(Tryz.prog.info? 5).map (fun i=>(i.zero,i.size,i.bytes))=some (some (.int .u8 0),1,1):=by kernel_rfl
theorem by_next (v:Int) (k i:Nat):(if i=k then Value.int .u8 (v / 2 ^ (8 * k) % 256) else Value.int .u8 (if i < k then byS v i else 0))=Value.int .u8 (if i < k + 1 then byS v i else 0):=by
  by_cases h:i=k
  · subst h;rw [if_pos rfl,if_pos (by omega)];rfl
  · rw [if_neg h]
    by_cases h':i < k
    · rw [if_pos h',if_pos (by omega)]
    · rw [if_neg h',if_neg (by omega)]
theorem wid_no {n:Int} (h:wid n=false):¬ n=1 ∧ ¬ n=2 ∧ ¬ n=4:=by
  unfold wid at h
  simp only [Bool.or_eq_false_iff,beq_eq_false_iff_ne] at h
  omega
theorem num_wid (v n:Int) (h:wid n=false) (W:World):Calls Tryz.prog 142 #[.int .i64 v,.int .i64 n] W (RetB [] 2 W):=by
  obtain ⟨h1,h2,h3⟩:=wid_no h
  have e1:(n != 1)=true:=by simpa using h1
  have e2:(n != 2)=true:=by simpa using h2
  have e3:(n != 4)=true:=by simpa using h3
  clear h h1 h2 h3
  unfold RetB
  go_enter Tryz.func142,Tryz.ntmps142
  go_wp2_with fail
  go_ret2
  exact ⟨_,rfl,Bts.nil _ _,Below.refl _ _⟩
theorem num_no1 (v:Int) (h0:-9223372036854775808 ≤ v) (h1:v ≤ 9223372036854775807) (h:fitB v 1=false) (W:World):Calls Tryz.prog 142 #[.int .i64 v,.int .i64 1] W (RetB [] 2 W):=by
  have F:=Lib.hid (fun W=>fits_n v 1 56 (by decide) rfl (by decide) W _ ((fit_is v 1 56 h0 h1 (by decide)).trans h))
  clear h0 h1 h
  unfold RetB
  go_enter Tryz.func142,Tryz.ntmps142
  go_wp2_with fail
  refine (F.out _).mono ?_
  rintro e w1 ⟨rfl,rfl⟩
  go_wp2_with fail
  go_ret2
  exact ⟨_,rfl,Bts.nil _ _,Below.refl _ _⟩
theorem num_yes1 (v:Int) (h0:-9223372036854775808 ≤ v) (h1:v ≤ 9223372036854775807) (h:fitB v 1=true) (W:World):Calls Tryz.prog 142 #[.int .i64 v,.int .i64 1] W (RetB (numL v 1) 0 W):=by
  have F:=Lib.hid (fun W=>fits_n v 1 56 (by decide) rfl (by decide) W _ ((fit_is v 1 56 h0 h1 (by decide)).trans h))
  have hmk:∀ w,(Instr.makeSlice 84 (.int .i64 1) (.int .i64 1)).run Tryz.prog w=.ok (.slice (some ⟨w.heap.size,0,none⟩) 1 1) (w.alloc (.cells (madeCells #[.int .u8 0] 1) 5)):=fun w=>run_make_row' (P:=Tryz.prog) 84 5 (.int .u8 0) 1 Tryz.underlying84 info_u8 rfl .i64 .i64 1 (by omega) (by omega) w
  clear h
  unfold RetB
  go_enter Tryz.func142,Tryz.ntmps142
  go_wp2_with fail
  refine (F.out _).mono ?_
  rintro e w1 ⟨rfl,rfl⟩
  go_wp2
  go_loopw [28] (fun i wr=>∃ k:Nat,k ≤ 1 ∧ i=.int .i64 k ∧ Below W.heap.size W wr ∧ wr.rowIs W.heap.size 5 1 (fun i=>.int .u8 (if i < k then byS v i else 0))) (fun i _=>1 - (intOf i).toNat)
  case atStart=>exact ⟨0,by omega,rfl,(Below.refl _ _).alloc (Nat.le_refl _) _,(World.rowIs_made _ _ _ _).congr (fun i hi=>rfl)⟩
  case round=>
    obtain ⟨k,hk,rfl,hB,hR⟩:=hrel
    by_cases hlt:k < 1
    · have hc:=hR.cell hlt
      have hf:=hR.frozen k
      have e1:min (8 * k) 64=8 * k:=by omega
      have e2:8 * k ≤ 63:=by omega
      go_wp2
      go_roundw
      case rel=>
        refine ⟨k + 1,by omega,by go_num,hB.setCell (Nat.le_refl _) _,?_⟩
        exact (hR.set k _).congr (fun i hi=>by_next v k i)
      case measure=>simp [intOf];omega
    · obtain rfl:k=1:=by omega
      go_wp2
      go_ret2
      exact ⟨_,rfl,row_own (hR.congr (g:=fun i=>.int .u8 (byS v i)) (fun i hi=>by rw [if_pos hi])) (Nat.le_refl _) (by decide),hB⟩
theorem num_no2 (v:Int) (h0:-9223372036854775808 ≤ v) (h1:v ≤ 9223372036854775807) (h:fitB v 2=false) (W:World):Calls Tryz.prog 142 #[.int .i64 v,.int .i64 2] W (RetB [] 2 W):=by
  have F:=Lib.hid (fun W=>fits_n v 2 48 (by decide) rfl (by decide) W _ ((fit_is v 2 48 h0 h1 (by decide)).trans h))
  clear h0 h1 h
  unfold RetB
  go_enter Tryz.func142,Tryz.ntmps142
  go_wp2_with fail
  refine (F.out _).mono ?_
  rintro e w1 ⟨rfl,rfl⟩
  go_wp2_with fail
  go_ret2
  exact ⟨_,rfl,Bts.nil _ _,Below.refl _ _⟩
theorem num_yes2 (v:Int) (h0:-9223372036854775808 ≤ v) (h1:v ≤ 9223372036854775807) (h:fitB v 2=true) (W:World):Calls Tryz.prog 142 #[.int .i64 v,.int .i64 2] W (RetB (numL v 2) 0 W):=by
  have F:=Lib.hid (fun W=>fits_n v 2 48 (by decide) rfl (by decide) W _ ((fit_is v 2 48 h0 h1 (by decide)).trans h))
  have hmk:∀ w,(Instr.makeSlice 84 (.int .i64 2) (.int .i64 2)).run Tryz.prog w=.ok (.slice (some ⟨w.heap.size,0,none⟩) 2 2) (w.alloc (.cells (madeCells #[.int .u8 0] 2) 5)):=fun w=>run_make_row' (P:=Tryz.prog) 84 5 (.int .u8 0) 1 Tryz.underlying84 info_u8 rfl .i64 .i64 2 (by omega) (by omega) w
  clear h
  unfold RetB
  go_enter Tryz.func142,Tryz.ntmps142
  go_wp2_with fail
  refine (F.out _).mono ?_
  rintro e w1 ⟨rfl,rfl⟩
  go_wp2
  go_loopw [28] (fun i wr=>∃ k:Nat,k ≤ 2 ∧ i=.int .i64 k ∧ Below W.heap.size W wr ∧ wr.rowIs W.heap.size 5 2 (fun i=>.int .u8 (if i < k then byS v i else 0))) (fun i _=>2 - (intOf i).toNat)
  case atStart=>exact ⟨0,by omega,rfl,(Below.refl _ _).alloc (Nat.le_refl _) _,(World.rowIs_made _ _ _ _).congr (fun i hi=>rfl)⟩
  case round=>
    obtain ⟨k,hk,rfl,hB,hR⟩:=hrel
    by_cases hlt:k < 2
    · have hc:=hR.cell hlt
      have hf:=hR.frozen k
      have e1:min (8 * k) 64=8 * k:=by omega
      have e2:8 * k ≤ 63:=by omega
      go_wp2
      go_roundw
      case rel=>
        refine ⟨k + 1,by omega,by go_num,hB.setCell (Nat.le_refl _) _,?_⟩
        exact (hR.set k _).congr (fun i hi=>by_next v k i)
      case measure=>simp [intOf];omega
    · obtain rfl:k=2:=by omega
      go_wp2
      go_ret2
      exact ⟨_,rfl,row_own (hR.congr (g:=fun i=>.int .u8 (byS v i)) (fun i hi=>by rw [if_pos hi])) (Nat.le_refl _) (by decide),hB⟩
theorem num_no4 (v:Int) (h0:-9223372036854775808 ≤ v) (h1:v ≤ 9223372036854775807) (h:fitB v 4=false) (W:World):Calls Tryz.prog 142 #[.int .i64 v,.int .i64 4] W (RetB [] 2 W):=by
  have F:=Lib.hid (fun W=>fits_n v 4 32 (by decide) rfl (by decide) W _ ((fit_is v 4 32 h0 h1 (by decide)).trans h))
  clear h0 h1 h
  unfold RetB
  go_enter Tryz.func142,Tryz.ntmps142
  go_wp2_with fail
  refine (F.out _).mono ?_
  rintro e w1 ⟨rfl,rfl⟩
  go_wp2_with fail
  go_ret2
  exact ⟨_,rfl,Bts.nil _ _,Below.refl _ _⟩
theorem num_yes4 (v:Int) (h0:-9223372036854775808 ≤ v) (h1:v ≤ 9223372036854775807) (h:fitB v 4=true) (W:World):Calls Tryz.prog 142 #[.int .i64 v,.int .i64 4] W (RetB (numL v 4) 0 W):=by
  have F:=Lib.hid (fun W=>fits_n v 4 32 (by decide) rfl (by decide) W _ ((fit_is v 4 32 h0 h1 (by decide)).trans h))
  have hmk:∀ w,(Instr.makeSlice 84 (.int .i64 4) (.int .i64 4)).run Tryz.prog w=.ok (.slice (some ⟨w.heap.size,0,none⟩) 4 4) (w.alloc (.cells (madeCells #[.int .u8 0] 4) 5)):=fun w=>run_make_row' (P:=Tryz.prog) 84 5 (.int .u8 0) 1 Tryz.underlying84 info_u8 rfl .i64 .i64 4 (by omega) (by omega) w
  clear h
  unfold RetB
  go_enter Tryz.func142,Tryz.ntmps142
  go_wp2_with fail
  refine (F.out _).mono ?_
  rintro e w1 ⟨rfl,rfl⟩
  go_wp2
  go_loopw [28] (fun i wr=>∃ k:Nat,k ≤ 4 ∧ i=.int .i64 k ∧ Below W.heap.size W wr ∧ wr.rowIs W.heap.size 5 4 (fun i=>.int .u8 (if i < k then byS v i else 0))) (fun i _=>4 - (intOf i).toNat)
  case atStart=>exact ⟨0,by omega,rfl,(Below.refl _ _).alloc (Nat.le_refl _) _,(World.rowIs_made _ _ _ _).congr (fun i hi=>rfl)⟩
  case round=>
    obtain ⟨k,hk,rfl,hB,hR⟩:=hrel
    by_cases hlt:k < 4
    · have hc:=hR.cell hlt
      have hf:=hR.frozen k
      have e1:min (8 * k) 64=8 * k:=by omega
      have e2:8 * k ≤ 63:=by omega
      go_wp2
      go_roundw
      case rel=>
        refine ⟨k + 1,by omega,by go_num,hB.setCell (Nat.le_refl _) _,?_⟩
        exact (hR.set k _).congr (fun i hi=>by_next v k i)
      case measure=>simp [intOf];omega
    · obtain rfl:k=4:=by omega
      go_wp2
      go_ret2
      exact ⟨_,rfl,row_own (hR.congr (g:=fun i=>.int .u8 (byS v i)) (fun i hi=>by rw [if_pos hi])) (Nat.le_refl _) (by decide),hB⟩
theorem num_n (v n:Int) (h0:-9223372036854775808 ≤ v) (h1:v ≤ 9223372036854775807) (W:World):Calls Tryz.prog 142 #[.int .i64 v,.int .i64 n] W (RetB (bif numB v n then numL v n.toNat else []) (bif numB v n then 0 else 2) W):=by
  unfold numB
  cases h:wid n
  · exact num_wid v n h W
  · have h3:n=1 ∨ n=2 ∨ n=4:=by
      unfold wid at h
      simp only [Bool.or_eq_true,beq_iff_eq] at h
      omega
    rcases h3 with rfl | rfl | rfl
    · show Calls _ _ _ _ (RetB (bif fitB v 1 then numL v 1 else []) (bif fitB v 1 then 0 else 2) W)
      cases g:fitB v 1
      · exact num_no1 v h0 h1 g W
      · exact num_yes1 v h0 h1 g W
    · show Calls _ _ _ _ (RetB (bif fitB v 2 then numL v 2 else []) (bif fitB v 2 then 0 else 2) W)
      cases g:fitB v 2
      · exact num_no2 v h0 h1 g W
      · exact num_yes2 v h0 h1 g W
    · show Calls _ _ _ _ (RetB (bif fitB v 4 then numL v 4 else []) (bif fitB v 4 then 0 else 2) W)
      cases g:fitB v 4
      · exact num_no4 v h0 h1 g W
      · exact num_yes4 v h0 h1 g W
theorem and255 {u:Int} (h0:0 ≤ u) (h1:u < 18446744073709551616):bits .and .u64 u 255=u % 256:=by
  rw [u64_and u 255 h0 h1 (by omega) (by omega)]
  obtain ⟨U,rfl⟩:=Int.eq_ofNat_of_zero_le h0
  rw [Int.toNat_natCast,show (255:Int).toNat=2 ^ 8 - 1 from rfl,Nat.and_two_pow_sub_one_eq_mod]
  simp
def lefI (v:Int) (k:Nat):Int:=v % 18446744073709551616 / 2 ^ (8 * k)
theorem lef_bd (v:Int) (k:Nat):0 ≤ lefI v k ∧ lefI v k < 18446744073709551616:=by
  unfold lefI
  have p:(0:Int) < 2 ^ (8 * k):=Int.pow_pos (by omega)
  refine ⟨Int.ediv_nonneg (by omega) (by omega),?_⟩
  exact Int.lt_of_le_of_lt (Int.ediv_le_self _ (by omega)) (by omega)
theorem lef_next (v:Int) (k:Nat):lefI v k / 256=lefI v (k + 1):=by
  unfold lefI
  rw [Int.ediv_ediv_of_nonneg (Int.le_of_lt (Int.pow_pos (by omega))),show 8 * (k + 1)=8 * k + 8 by omega,Int.pow_add]
  rfl
theorem lef_by (v:Int) (k:Nat) (h:k < 4):lefI v k % 256=byS v k:=by
  unfold lefI byS
  obtain rfl | rfl | rfl | rfl:k=0 ∨ k=1 ∨ k=2 ∨ k=3:=by omega
  · show v % 18446744073709551616 / 1 % 256=v / 1 % 256;omega
  · show v % 18446744073709551616 / 256 % 256=v / 256 % 256;omega
  · show v % 18446744073709551616 / 65536 % 256=v / 65536 % 256;omega
  · show v % 18446744073709551616 / 16777216 % 256=v / 16777216 % 256;omega
theorem between_n (m:Int) (h0:0 ≤ m) (h1:m < 16) (W:World):Calls Tryz.prog 156 #[.int .i8 m] W (RetV (midL m) W):=by
  unfold midL RetV
  by_cases h:m % 8=4
  · rw [if_pos h]
    go_enter Tryz.func156,Tryz.ntmps156
    go_wp2
    go_ret
    exact ⟨_,rfl,one_own W 36 (Nat.le_refl _),below_new (Below.refl _ _) _⟩
  · rw [if_neg h]
    have eb:(m % 8 == 4)=false:=by simpa using h
    clear h
    go_enter Tryz.func156,Tryz.ntmps156
    go_wp2
    go_ret
    exact ⟨_,rfl,Bts.nil _ _,Below.refl _ _⟩
theorem operand_n (q:Bool) (r m:Int) (xa:Option Addr) (l c:Nat) (zs:List Int) (W:World) (hE:BytesAt W xa l c zs) (hl:l ≤ 1000):
    Calls Tryz.prog 155 #[.int .u8 (if q then 192 else 128),.int .i8 r,.int .i8 m,.slice xa l c] W (RetV ([opI (if q then 192 else 128) r m] ++ zs) W):=by
  have ea:=Lib.hid (op_or q r m)
  have EB:=Lib.hid (opI_bd (k:=if q then 192 else 128) (r:=r) (m:=m) (by cases q <;> decide))
  have HE:=Lib.hid hE
  clear hE
  unfold RetV
  generalize opI (if q then 192 else 128) r m=z at *
  generalize (if q then (192:Int) else 128)=k at *
  go_enter Tryz.func155,Tryz.ntmps155
  go_wp2_with (at_builtin;refine wpList_append_b rfl _ _ rfl W.heap.size _ _ rfl (one_own W _ (Nat.le_refl _)) _ l c zs rfl (HE.out.below (below_new (Below.refl _ _) _)) (by simp;omega) (by simp) ?_)
  intro v8 w8 o8 g8
  have B8:=Lib.hid (below_grown (below_new (Below.refl _ W) _) g8 (fun j hj=>by simp [Value.ownBlock] at hj;omega))
  have O8:=Lib.hid (show Bts W.heap.size w8 v8 ([z] ++ zs) by rw [← ea.out];exact o8)
  clear o8 g8
  go_wp2_with fail
  go_ret
  exact ⟨_,rfl,O8.out,B8.out⟩
theorem regs_n (r m:Int) (W:World):Calls Tryz.prog 140 #[.int .i8 r,.int .i8 m] W (RetB (bif bothB r m then regL r m else []) (bif bothB r m then 0 else 2) W):=by
  have B:=Lib.hid (fun W=>both_n r m W)
  unfold RetB
  cases h:bothB r m
  · rw [h] at B
    go_enter Tryz.func140,Tryz.ntmps140
    go_wp2_with fail
    refine (B.out _).mono ?_
    rintro e w1 ⟨rfl,rfl⟩
    go_wp2_with fail
    go_ret2
    exact ⟨_,rfl,Bts.nil _ _,Below.refl _ _⟩
  · rw [h] at B
    have O:=Lib.hid (fun W=>operand_n true r m none 0 0 [] W (BytesAt.nil W) (by omega))
    clear h
    go_enter Tryz.func140,Tryz.ntmps140
    go_wp2_with fail
    refine (B.out _).mono ?_
    rintro e w1 ⟨rfl,rfl⟩
    go_wp2_with fail
    refine (O.out _).mono ?_
    rintro e w1 ⟨v,rfl,o1,b1⟩
    go_wp2_with fail
    go_ret2
    exact ⟨_,rfl,o1,b1⟩
theorem num4_n (d:Int) (h0:-9223372036854775808 ≤ d) (h1:d ≤ 9223372036854775807) (W:World):Calls Tryz.prog 142 #[.int .i64 d,.int .i64 4] W (RetB (bif fitB d 4 then numL d 4 else []) (bif fitB d 4 then 0 else 2) W):=num_n d 4 h0 h1 W
def MemB (r m d:Int) (W:World):Ending → World → Prop:=RetB (bif memB r m d then memL r m d else []) (bif memB r m d then 0 else 2) W
theorem mem_n (r m d:Int) (h0:-9223372036854775808 ≤ d) (h1:d ≤ 9223372036854775807) (W:World):Calls Tryz.prog 138 #[.int .i8 r,.int .i8 m,.int .i64 d] W (MemB r m d W):=by
  have B:=Lib.hid (fun W=>both_n r m W)
  have D:=Lib.hid (fun W=>num4_n d h0 h1 W)
  clear h0 h1
  unfold MemB memB
  cases h:bothB r m
  · rw [h] at B
    unfold RetB
    go_enter Tryz.func138,Tryz.ntmps138
    go_wp2_with fail
    refine (D.out _).mono ?_
    rintro e w1 ⟨v1,rfl,o1,b1⟩
    go_wp2_with fail
    refine (B.out _).mono ?_
    rintro e w2 ⟨rfl,rfl⟩
    go_wp2_with fail
    go_ret2
    exact ⟨_,rfl,Bts.nil _ _,b1⟩
  · rw [h] at B
    have hm:=(bothB_iff.1 h).2
    cases g:fitB d 4
    · rw [g] at D
      unfold RetB
      go_enter Tryz.func138,Tryz.ntmps138
      go_wp2_with fail
      refine (D.out _).mono ?_
      rintro e w1 ⟨v1,rfl,o1,b1⟩
      go_wp2_with fail
      refine (B.out _).mono ?_
      rintro e w2 ⟨rfl,rfl⟩
      go_wp2_with fail
      go_ret2
      exact ⟨_,rfl,Bts.nil _ _,b1⟩
    · rw [g] at D
      have BT:=Lib.hid (fun W=>between_n m hm.1 hm.2 W)
      have OP:=Lib.hid (fun xa l c zs W hE hl=>operand_n false r m xa l c zs W hE hl)
      have OK1:=Lib.hid (numL_ok d 4)
      have OK2:=Lib.hid ((midL_ok m).append (numL_ok d 4))
      have HL:=Lib.hid (numL_length d 4)
      have HM:=Lib.hid (show (midL m).length ≤ 1 by unfold midL;split <;> simp)
      clear h g hm
      show Calls _ _ _ _ (RetB (memL r m d) 0 W)
      unfold RetB memL
      generalize numL d 4=nl at *
      generalize midL m=ml at *
      have H5:=Lib.hid (show (ml ++ nl).length ≤ 1000 by rw [List.length_append];have:=HL.out;have:=HM.out;omega)
      generalize hL:ml ++ nl=L at *
      have EL:=Lib.hid hL
      clear hL
      go_enter Tryz.func138,Tryz.ntmps138
      go_wp2_with fail
      refine (D.out _).mono ?_
      rintro e w1 ⟨v1,rfl,o1,b1⟩
      obtain ⟨xa,c,rfl,E1⟩:=o1.at OK1.out
      have E1:=Lib.hid E1
      have B1:=Lib.hid b1
      clear o1 b1 D
      go_wp2_with fail
      refine (B.out _).mono ?_
      rintro e w2 ⟨rfl,rfl⟩
      go_wp2_with fail
      refine (BT.out _).mono ?_
      rintro e w2 ⟨v2,rfl,o2,b2⟩
      have O2:=Lib.hid o2
      have E2:=Lib.hid (E1.out.below b2)
      have B2:=Lib.hid (below_call B1.out b2)
      have S12:=Lib.hid (Nat.le_trans b2.size (Nat.le_refl _))
      clear o2 b2 B BT E1
      go_wp2_with (at_builtin;refine wpList_append_b rfl _ _ rfl w1.heap.size _ ml rfl O2.out _ _ _ nl rfl E2.out (by have:=HL.out;have:=HM.out;omega) S12.out ?_)
      intro v3 w3 o3 g3
      have B3:=Lib.hid (below_grown B2.out g3 (fun j hj=>Nat.le_trans B1.out.size (O2.out.lt j hj)))
      clear g3
      rw [EL.out] at o3
      obtain ⟨ya,cy,rfl,E3⟩:=o3.at OK2.out
      clear o3
      have E3:=Lib.hid E3
      generalize L.length=n at *
      go_wp2_with fail
      refine (OP.out _ _ _ _ _ E3.out H5.out).mono ?_
      rintro e w4 ⟨v4,rfl,o4,b4⟩
      have O4:=Lib.hid (o4.mono B3.out.size)
      have B4:=Lib.hid (below_call B3.out b4)
      clear o4 b4
      go_wp2_with fail
      go_ret2
      exact ⟨_,rfl,O4.out,B4.out⟩
end Go.Proofs.YtbpehbeakhocnaaGreatDoor.Mrm
namespace Go.Proofs.YtbpehbeakhocnaaGreatDoor
def cutI (v w:Int):Int:=if w=8 then v % 256 else if w=16 then v % 65536 else if w=32 then v % 4294967296 else v
def sgnI (v w:Int):Int:=
  if w=8 then (v + 128) % 256 - 128 else if w=16 then (v + 32768) % 65536 - 32768 else if w=32 then (v + 2147483648) % 4294967296 - 2147483648 else (v + 9223372036854775808) % 18446744073709551616 - 9223372036854775808
def signI (v w:Int):Int:=
  if w=8 then ((v + 128) % 256 - 128) % 18446744073709551616 else if w=16 then ((v + 32768) % 65536 - 32768) % 18446744073709551616 else if w=32 then ((v + 2147483648) % 4294967296 - 2147483648) % 18446744073709551616 else v
def longB (w:Int):Bool:=w == 32 || w == 64
def cntI (w b:Int):Nat:=if w=32 then (b % 32).toNat else (b % 64).toNat
def opI (op w a b:Int):Int:=
  if op=0 then (a + b) % 18446744073709551616
  else if op=1 then (a - b) % 18446744073709551616
  else if op=2 then (a * b) % 18446744073709551616
  else if op=3 then (if b=0 then 0 else a / b)
  else if op=4 then ((a.toNat ||| b.toNat:Nat):Int)
  else if op=5 then ((a.toNat &&& b.toNat:Nat):Int)
  else if op=6 then (a * 2 ^ cntI w b) % 18446744073709551616
  else if op=7 then a / 2 ^ cntI w b
  else if op=8 then (-a) % 18446744073709551616
  else if op=9 then (if b=0 then a else a % b)
  else if op=10 then ((a.toNat ^^^ b.toNat:Nat):Int)
  else if op=11 then b
  else (sgnI a w / 2 ^ cntI w b) % 18446744073709551616
theorem opI_0 (w a b:Int):opI 0 w a b=(a + b) % 18446744073709551616:=rfl
theorem opI_1 (w a b:Int):opI 1 w a b=(a - b) % 18446744073709551616:=rfl
theorem opI_2 (w a b:Int):opI 2 w a b=(a * b) % 18446744073709551616:=rfl
theorem opI_3 (w a b:Int):opI 3 w a b=if b=0 then 0 else a / b:=rfl
theorem opI_4 (w a b:Int):opI 4 w a b=((a.toNat ||| b.toNat:Nat):Int):=rfl
theorem opI_5 (w a b:Int):opI 5 w a b=((a.toNat &&& b.toNat:Nat):Int):=rfl
theorem opI_6 (w a b:Int):opI 6 w a b=(a * 2 ^ cntI w b) % 18446744073709551616:=rfl
theorem opI_7 (w a b:Int):opI 7 w a b=a / 2 ^ cntI w b:=rfl
theorem opI_8 (w a b:Int):opI 8 w a b=(-a) % 18446744073709551616:=rfl
theorem opI_9 (w a b:Int):opI 9 w a b=if b=0 then a else a % b:=rfl
theorem opI_10 (w a b:Int):opI 10 w a b=((a.toNat ^^^ b.toNat:Nat):Int):=rfl
theorem opI_11 (w a b:Int):opI 11 w a b=b:=rfl
theorem opI_12 (w a b:Int):opI 12 w a b=(sgnI a w / 2 ^ cntI w b) % 18446744073709551616:=rfl
theorem and_31 (b:Int) (h0:0 ≤ b) (h1:b < 18446744073709551616):bits .and .u64 b 31=b % 32:=by
  rw [u64_and b 31 h0 h1 (by omega) (by omega)]
  have:b.toNat &&& (31:Int).toNat=b.toNat % 32:=Nat.and_two_pow_sub_one_eq_mod b.toNat 5
  rw [this];omega
theorem and_63 (b:Int) (h0:0 ≤ b) (h1:b < 18446744073709551616):bits .and .u64 b 63=b % 64:=by
  rw [u64_and b 63 h0 h1 (by omega) (by omega)]
  have:b.toNat &&& (63:Int).toNat=b.toNat % 64:=Nat.and_two_pow_sub_one_eq_mod b.toNat 6
  rw [this];omega
def doI (op w a b:Int):Int:=if 0 ≤ op ∧ op ≤ 12 ∧ longB w=true then cutI (opI op w (cutI a w) (cutI b w)) w else 0
def doE (op w:Int):Int:=if 0 ≤ op ∧ op ≤ 12 ∧ longB w=true then 0 else 2
def ccB (cc w a b:Int):Bool:=
  if cc=0 then a == b
  else if cc=1 then a != b
  else if cc=2 then decide (b < a)
  else if cc=3 then decide (b ≤ a)
  else if cc=4 then decide (a < b)
  else if cc=5 then decide (a ≤ b)
  else if cc=6 then decide (sgnI b w < sgnI a w)
  else if cc=7 then decide (sgnI b w ≤ sgnI a w)
  else if cc=8 then decide (sgnI a w < sgnI b w)
  else if cc=9 then decide (sgnI a w ≤ sgnI b w)
  else ((a.toNat &&& b.toNat:Nat):Int) != 0
def holdsB (cc w a b:Int):Bool:=if 0 ≤ cc ∧ cc ≤ 10 ∧ longB w=true then ccB cc w (cutI a w) (cutI b w) else false
def holdsE (cc w:Int):Int:=if 0 ≤ cc ∧ cc ≤ 10 ∧ longB w=true then 0 else 2
theorem cutI_8 (v:Int):cutI v 8=v % 256:=rfl
theorem cutI_16 (v:Int):cutI v 16=v % 65536:=rfl
theorem cutI_32 (v:Int):cutI v 32=v % 4294967296:=rfl
theorem cutI_64 (v:Int):cutI v 64=v:=rfl
theorem wrap64_sign32 (v:Int):IntKind.i64.wrap (signI v 32)=sgnI v 32:=by
  rw [IntKind.wrap_i64];unfold signI sgnI;simp only [if_neg (show ¬ (32:Int)=8 by omega),if_neg (show ¬ (32:Int)=16 by omega),if_pos];omega
theorem wrap64_sign64 (v:Int):IntKind.i64.wrap (signI v 64)=sgnI v 64:=by
  rw [IntKind.wrap_i64];unfold signI sgnI;simp only [if_neg (show ¬ (64:Int)=8 by omega),if_neg (show ¬ (64:Int)=16 by omega),if_neg (show ¬ (64:Int)=32 by omega)]
theorem longB_cases {w:Int} (h:longB w=true):w=32 ∨ w=64:=by
  unfold longB at h;simpa using h
theorem longB_not {w:Int} (h:longB w=false):¬ w=32 ∧ ¬ w=64:=by
  unfold longB at h;simpa using h
theorem cutI_bd (v w:Int) (h0:0 ≤ v) (h1:v < 18446744073709551616):0 ≤ cutI v w ∧ cutI v w < 18446744073709551616:=by
  unfold cutI;split
  · omega
  split
  · omega
  split
  · omega
  · omega
theorem or_bd (a b:Int) (ha1:a < 18446744073709551616) (hb1:b < 18446744073709551616):((a.toNat ||| b.toNat:Nat):Int) < 18446744073709551616:=by
  have:=@Nat.or_lt_two_pow a.toNat b.toNat 64 (by omega) (by omega)
  omega
theorem xor_bd (a b:Int) (ha1:a < 18446744073709551616) (hb1:b < 18446744073709551616):((a.toNat ^^^ b.toNat:Nat):Int) < 18446744073709551616:=by
  have:=@Nat.xor_lt_two_pow a.toNat b.toNat 64 (by omega) (by omega)
  omega
theorem and_bd (a b:Int) (ha1:a < 18446744073709551616):((a.toNat &&& b.toNat:Nat):Int) < 18446744073709551616:=by
  have:=@Nat.and_le_left a.toNat b.toNat
  omega
theorem div_bd (a d:Int) (h0:0 ≤ a) (h1:a < 18446744073709551616) (hd:0 ≤ d):0 ≤ a / d ∧ a / d < 18446744073709551616:=by
  refine ⟨Int.ediv_nonneg h0 hd,?_⟩
  have:=Int.ediv_le_self d h0
  omega
theorem pow_nonneg' (n:Nat):0 ≤ (2:Int) ^ n:=Int.le_of_lt (Int.pow_pos (by omega))
theorem opI_bd (op w a b:Int) (ha0:0 ≤ a) (ha1:a < 18446744073709551616) (hb0:0 ≤ b) (hb1:b < 18446744073709551616):0 ≤ opI op w a b ∧ opI op w a b < 18446744073709551616:=by
  by_cases c0:op=0
  · rw [c0,opI_0]
    omega
  by_cases c1:op=1
  · rw [c1,opI_1]
    omega
  by_cases c2:op=2
  · rw [c2,opI_2]
    omega
  by_cases c3:op=3
  · rw [c3,opI_3]
    split
    · omega
    · exact div_bd a b ha0 ha1 hb0
  by_cases c4:op=4
  · rw [c4,opI_4]
    exact ⟨by omega,or_bd a b ha1 hb1⟩
  by_cases c5:op=5
  · rw [c5,opI_5]
    exact ⟨by omega,and_bd a b ha1⟩
  by_cases c6:op=6
  · rw [c6,opI_6]
    omega
  by_cases c7:op=7
  · rw [c7,opI_7]
    exact div_bd a _ ha0 ha1 (pow_nonneg' _)
  by_cases c8:op=8
  · rw [c8,opI_8]
    omega
  by_cases c9:op=9
  · rw [c9,opI_9]
    split
    · omega
    · have:=Int.emod_nonneg a (show b ≠ 0 by assumption)
      have:=Int.emod_lt_of_pos a (show 0 < b by omega)
      omega
  by_cases c10:op=10
  · rw [c10,opI_10]
    exact ⟨by omega,xor_bd a b ha1 hb1⟩
  by_cases c11:op=11
  · rw [c11,opI_11]
    omega
  have e:opI op w a b=(sgnI a w / 2 ^ cntI w b) % 18446744073709551616:=by
    unfold opI
    rw [if_neg c0,if_neg c1,if_neg c2,if_neg c3,if_neg c4,if_neg c5,if_neg c6,if_neg c7,if_neg c8,if_neg c9,if_neg c10,if_neg c11]
  rw [e];omega
theorem doI_bd (op w a b:Int) (ha0:0 ≤ a) (ha1:a < 18446744073709551616) (hb0:0 ≤ b) (hb1:b < 18446744073709551616):0 ≤ doI op w a b ∧ doI op w a b < 18446744073709551616:=by
  unfold doI
  split
  · obtain ⟨c0,c1⟩:=cutI_bd a w ha0 ha1
    obtain ⟨d0,d1⟩:=cutI_bd b w hb0 hb1
    obtain ⟨e0,e1⟩:=opI_bd op w _ _ c0 c1 d0 d1
    exact cutI_bd _ w e0 e1
  · omega
theorem signI_8 (v:Int):signI v 8=((v + 128) % 256 - 128) % 18446744073709551616:=rfl
theorem signI_16 (v:Int):signI v 16=((v + 32768) % 65536 - 32768) % 18446744073709551616:=rfl
theorem signI_32 (v:Int):signI v 32=((v + 2147483648) % 4294967296 - 2147483648) % 18446744073709551616:=rfl
theorem signI_64 (v:Int):signI v 64=v:=rfl
open Go.RowKit
theorem neq_of {a b:Int} (h:¬ a=b):(a == b)=false:=by simpa using h
theorem retI {k:IntKind} {a b:Int} (h:a=b):Ending.returned (.int k a)=.returned (.int k b):=by rw [h]
theorem wrap_u16' (n:Int):IntKind.u64.wrap (IntKind.u16.wrap n)=n % 65536:=by
  simp only [IntKind.wrap,IntKind.bits,IntKind.signed];simp;omega
theorem wrap_i8' (n:Int):IntKind.i8.wrap n=(n + 128) % 256 - 128:=by
  simp only [IntKind.wrap,IntKind.bits,IntKind.signed];simp;split <;> omega
theorem wrap_i16' (n:Int):IntKind.i16.wrap n=(n + 32768) % 65536 - 32768:=by
  simp only [IntKind.wrap,IntKind.bits,IntKind.signed];simp;split <;> omega
theorem wrap_i32' (n:Int):wrap32 n=(n + 2147483648) % 4294967296 - 2147483648:=by rw [wrap32]
theorem retB {a b:Bool} (h:a=b):Ending.returned (.bool a)=.returned (.bool b):=by rw [h]
theorem cut_any (v w:Int) (W:World):
    Calls Tryz.prog 107 #[.int .u64 v,.int .i8 w] W fun e w'=>e=.returned (.int .u64 (cutI v w)) ∧ W=w':=by
  by_cases a:w=8
  · subst a
    go_enter Tryz.func107,Tryz.ntmps107
    go_wp2
    go_ret
    exact ⟨rfl,rfl⟩
  by_cases b:w=16
  · subst b
    go_enter Tryz.func107,Tryz.ntmps107
    go_wp2
    go_ret
    exact ⟨retI (by rw [cutI_16,wrap_u16']),rfl⟩
  by_cases c:w=32
  · subst c
    go_enter Tryz.func107,Tryz.ntmps107
    go_wp2
    go_ret
    exact ⟨rfl,rfl⟩
  have d:cutI v w=v:=by unfold cutI;rw [if_neg a,if_neg b,if_neg c]
  rw [d];clear d
  have a':=neq_of a
  have b':=neq_of b
  have c':=neq_of c
  go_enter Tryz.func107,Tryz.ntmps107
  go_wp2
  go_ret
  exact ⟨rfl,rfl⟩
theorem sign_any (v w:Int) (W:World):
    Calls Tryz.prog 172 #[.int .u64 v,.int .i8 w] W fun e w'=>e=.returned (.int .u64 (signI v w)) ∧ W=w':=by
  by_cases a:w=8
  · subst a
    go_enter Tryz.func172,Tryz.ntmps172
    go_wp2
    go_ret
    exact ⟨retI (by rw [signI_8,IntKind.wrap_u64,wrap_i8']),rfl⟩
  by_cases b:w=16
  · subst b
    go_enter Tryz.func172,Tryz.ntmps172
    go_wp2
    go_ret
    exact ⟨retI (by rw [signI_16,IntKind.wrap_u64,wrap_i16']),rfl⟩
  by_cases c:w=32
  · subst c
    go_enter Tryz.func172,Tryz.ntmps172
    go_wp2
    go_ret
    exact ⟨retI (by rw [signI_32,IntKind.wrap_u64,wrap_i32']),rfl⟩
  have d:signI v w=v:=by unfold signI;rw [if_neg a,if_neg b,if_neg c]
  rw [d];clear d
  have a':=neq_of a
  have b':=neq_of b
  have c':=neq_of c
  go_enter Tryz.func172,Tryz.ntmps172
  go_wp2
  go_ret
  exact ⟨rfl,rfl⟩
theorem computes_any (w:Int) (W:World):
    Calls Tryz.prog 146 #[.int .i8 w] W fun e w'=>e=.returned (.bool (longB w)) ∧ W=w':=by
  by_cases a:w=32
  · subst a
    go_enter Tryz.func146,Tryz.ntmps146
    go_wp2
    go_ret
    exact ⟨rfl,rfl⟩
  have d:longB w=(w == 64):=by unfold longB;rw [neq_of a];rfl
  rw [d];clear d
  have a':=neq_of a
  go_enter Tryz.func146,Tryz.ntmps146
  go_wp2
  go_ret
  exact ⟨rfl,rfl⟩
theorem quiet_left {P:Program} {f:FuncId} {args:Array Value} {w:World} {n:Nat} {v:Value}
    (h:Calls P f args (w.drewN n) fun e w'=>e=.returned v ∧ w.drewN n=w'):Calls P f args (w.drewN n) fun e w''=>e=.returned v ∧ ∃ m,w''=w.drewN m:=
  h.mono fun _ _ ⟨he,hm⟩=>⟨he,n,hm.symm⟩
theorem compute_0 (w a b:Int) (W:World):
    Calls Tryz.prog 147 #[.int .i8 0,.int .i8 w,.int .u64 a,.int .u64 b] W fun e w'=>e=.returned (.int .u64 (opI 0 w a b)) ∧ Below W.heap.size W w':=by
  have hmf:∀ (fn:Fn) (first cap:Array Value) (w:World),(Instr.makeFunc fn first cap).run Tryz.prog w=.ok (.func fn first cap) w:=fun _ _ _ _=>rfl
  go_enter Tryz.func147,Tryz.ntmps147
  go_wp2
  go_ret
  refine ⟨retI ?_,((((Below.refl _ _).alloc (Nat.le_refl _) _).alloc (by simp) _).alloc (by simp;omega) _)⟩
  rw [opI_0,IntKind.wrap_u64]
theorem compute_1 (w a b:Int) (W:World):
    Calls Tryz.prog 147 #[.int .i8 1,.int .i8 w,.int .u64 a,.int .u64 b] W fun e w'=>e=.returned (.int .u64 (opI 1 w a b)) ∧ Below W.heap.size W w':=by
  have hmf:∀ (fn:Fn) (first cap:Array Value) (w:World),(Instr.makeFunc fn first cap).run Tryz.prog w=.ok (.func fn first cap) w:=fun _ _ _ _=>rfl
  go_enter Tryz.func147,Tryz.ntmps147
  go_wp2
  go_ret
  refine ⟨retI ?_,((((Below.refl _ _).alloc (Nat.le_refl _) _).alloc (by simp) _).alloc (by simp;omega) _)⟩
  rw [opI_1,IntKind.wrap_u64]
theorem compute_2 (w a b:Int) (W:World):
    Calls Tryz.prog 147 #[.int .i8 2,.int .i8 w,.int .u64 a,.int .u64 b] W fun e w'=>e=.returned (.int .u64 (opI 2 w a b)) ∧ Below W.heap.size W w':=by
  have hmf:∀ (fn:Fn) (first cap:Array Value) (w:World),(Instr.makeFunc fn first cap).run Tryz.prog w=.ok (.func fn first cap) w:=fun _ _ _ _=>rfl
  go_enter Tryz.func147,Tryz.ntmps147
  go_wp2
  go_ret
  refine ⟨retI ?_,((((Below.refl _ _).alloc (Nat.le_refl _) _).alloc (by simp) _).alloc (by simp;omega) _)⟩
  rw [opI_2,IntKind.wrap_u64]
theorem compute_4 (w a b:Int) (W:World) (ha0:0 ≤ a) (ha1:a < 18446744073709551616) (hb0:0 ≤ b) (hb1:b < 18446744073709551616):
    Calls Tryz.prog 147 #[.int .i8 4,.int .i8 w,.int .u64 a,.int .u64 b] W fun e w'=>e=.returned (.int .u64 (opI 4 w a b)) ∧ Below W.heap.size W w':=by
  have hmf:∀ (fn:Fn) (first cap:Array Value) (w:World),(Instr.makeFunc fn first cap).run Tryz.prog w=.ok (.func fn first cap) w:=fun _ _ _ _=>rfl
  go_enter Tryz.func147,Tryz.ntmps147
  go_wp2
  go_ret
  refine ⟨retI ?_,((((Below.refl _ _).alloc (Nat.le_refl _) _).alloc (by simp) _).alloc (by simp;omega) _)⟩
  rw [opI_4,u64_or a b ha0 ha1 hb0 hb1]
theorem compute_5 (w a b:Int) (W:World) (ha0:0 ≤ a) (ha1:a < 18446744073709551616) (hb0:0 ≤ b) (hb1:b < 18446744073709551616):
    Calls Tryz.prog 147 #[.int .i8 5,.int .i8 w,.int .u64 a,.int .u64 b] W fun e w'=>e=.returned (.int .u64 (opI 5 w a b)) ∧ Below W.heap.size W w':=by
  have hmf:∀ (fn:Fn) (first cap:Array Value) (w:World),(Instr.makeFunc fn first cap).run Tryz.prog w=.ok (.func fn first cap) w:=fun _ _ _ _=>rfl
  go_enter Tryz.func147,Tryz.ntmps147
  go_wp2
  go_ret
  refine ⟨retI ?_,((((Below.refl _ _).alloc (Nat.le_refl _) _).alloc (by simp) _).alloc (by simp;omega) _)⟩
  rw [opI_5,u64_and a b ha0 ha1 hb0 hb1]
theorem compute_8 (w a b:Int) (W:World):
    Calls Tryz.prog 147 #[.int .i8 8,.int .i8 w,.int .u64 a,.int .u64 b] W fun e w'=>e=.returned (.int .u64 (opI 8 w a b)) ∧ Below W.heap.size W w':=by
  have hmf:∀ (fn:Fn) (first cap:Array Value) (w:World),(Instr.makeFunc fn first cap).run Tryz.prog w=.ok (.func fn first cap) w:=fun _ _ _ _=>rfl
  go_enter Tryz.func147,Tryz.ntmps147
  go_wp2
  go_ret
  refine ⟨retI ?_,((((Below.refl _ _).alloc (Nat.le_refl _) _).alloc (by simp) _).alloc (by simp;omega) _)⟩
  rw [opI_8,IntKind.wrap_u64]
theorem compute_10 (w a b:Int) (W:World) (ha0:0 ≤ a) (ha1:a < 18446744073709551616) (hb0:0 ≤ b) (hb1:b < 18446744073709551616):
    Calls Tryz.prog 147 #[.int .i8 10,.int .i8 w,.int .u64 a,.int .u64 b] W fun e w'=>e=.returned (.int .u64 (opI 10 w a b)) ∧ Below W.heap.size W w':=by
  have hmf:∀ (fn:Fn) (first cap:Array Value) (w:World),(Instr.makeFunc fn first cap).run Tryz.prog w=.ok (.func fn first cap) w:=fun _ _ _ _=>rfl
  go_enter Tryz.func147,Tryz.ntmps147
  go_wp2
  go_ret
  refine ⟨retI ?_,((((Below.refl _ _).alloc (Nat.le_refl _) _).alloc (by simp) _).alloc (by simp;omega) _)⟩
  rw [opI_10,u64_xor a b ha0 ha1 hb0 hb1]
theorem compute_11 (w a b:Int) (W:World):
    Calls Tryz.prog 147 #[.int .i8 11,.int .i8 w,.int .u64 a,.int .u64 b] W fun e w'=>e=.returned (.int .u64 (opI 11 w a b)) ∧ Below W.heap.size W w':=by
  have hmf:∀ (fn:Fn) (first cap:Array Value) (w:World),(Instr.makeFunc fn first cap).run Tryz.prog w=.ok (.func fn first cap) w:=fun _ _ _ _=>rfl
  go_enter Tryz.func147,Tryz.ntmps147
  go_wp2
  go_ret
  refine ⟨retI ?_,((((Below.refl _ _).alloc (Nat.le_refl _) _).alloc (by simp) _).alloc (by simp;omega) _)⟩
  rw [opI_11]
end Go.Proofs.YtbpehbeakhocnaaGreatDoor
