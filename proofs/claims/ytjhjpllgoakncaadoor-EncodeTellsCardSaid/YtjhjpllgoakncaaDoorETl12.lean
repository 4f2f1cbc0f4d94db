import Derived.Test.YtjhjpllgoakncaaDoorETl11
set_option linter.unusedVariables false
set_option linter.unusedSimpArgs false
set_option linter.unnecessarySimpa false
namespace Go.Proofs.YtjhjpllgoakncaaDoor.Mrm
open Go.RowKit
set_option linter.unusedVariables false
set_option linter.unnecessarySimpa false
set_option linter.unusedSimpArgs false
set_option maxRecDepth 100000
theorem num_n (v n:Int) (h0:-9223372036854775808 ≤ v) (h1:v ≤ 9223372036854775807) (W:World):Calls Tryd.prog 62 #[.int .i64 v,.int .i64 n] W (RetB (bif numB v n then numL v n.toNat else []) (bif numB v n then 0 else 2) W):=by
  unfold numB
  cases h:wid n
  · exact num_wid v n h W
  · have h3:n=1 ∨ n=2 ∨ n=4:=by
      unfold wid at h
      simp only [Bool.or_eq_true,beq_iff_eq] at h
      omega
    rcases h3 with rfl | rfl | rfl
    · show Calls _ _ _ _ (RetB (bif fitB v 1 then numL v 1 else []) (bif fitB v 1 then 0 else 2) W)
      cases g:fitB v 1
      · exact num_no1 v h0 h1 g W
      · exact num_yes1 v h0 h1 g W
    · show Calls _ _ _ _ (RetB (bif fitB v 2 then numL v 2 else []) (bif fitB v 2 then 0 else 2) W)
      cases g:fitB v 2
      · exact num_no2 v h0 h1 g W
      · exact num_yes2 v h0 h1 g W
    · show Calls _ _ _ _ (RetB (bif fitB v 4 then numL v 4 else []) (bif fitB v 4 then 0 else 2) W)
      cases g:fitB v 4
      · exact num_no4 v h0 h1 g W
      · exact num_yes4 v h0 h1 g W
end Go.Proofs.YtjhjpllgoakncaaDoor.Mrm
