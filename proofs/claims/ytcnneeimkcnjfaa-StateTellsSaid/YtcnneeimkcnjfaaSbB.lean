import Derived.Test.YtcnneeimkcnjfaaSbA
namespace Go.Proofs.Ytcnneeimkcnjfaa.Bnd
open Go.RowKit
set_option linter.unusedVariables false
set_option linter.unusedSimpArgs false
set_option linter.unnecessarySimpa false
theorem joinU_n (a b c d:Int) (W:World):Calls Try.prog 98 #[.agg #[.int .u64 a,.int .u64 b],.agg #[.int .u64 c,.int .u64 d]] W fun e w'=>e=.returned (.agg #[.int .u64 (Pr.join ⟨a,b⟩ ⟨c,d⟩).lo,.int .u64 (Pr.join ⟨a,b⟩ ⟨c,d⟩).hi]) ∧ Below W.heap.size W w':=joinU_any ⟨a,b⟩ ⟨c,d⟩ W
theorem meetU_n (a b c d:Int) (W:World):Calls Try.prog 121 #[.agg #[.int .u64 a,.int .u64 b],.agg #[.int .u64 c,.int .u64 d]] W fun e w'=>e=.returned (.agg #[.int .u64 (Pr.meet ⟨a,b⟩ ⟨c,d⟩).lo,.int .u64 (Pr.meet ⟨a,b⟩ ⟨c,d⟩).hi]) ∧ Below W.heap.size W w':=meetU_any ⟨a,b⟩ ⟨c,d⟩ W
theorem hasU_n (a b v:Int) (W:World):Calls Try.prog 95 #[.agg #[.int .u64 a,.int .u64 b],.int .u64 v] W fun e w'=>e=.returned (.bool (Pr.hasB ⟨a,b⟩ v)) ∧ Below W.heap.size W w':=hasU_any ⟨a,b⟩ v W
theorem joinS_n (a b c d:Int) (W:World):Calls Try.prog 99 #[.agg #[.int .i64 a,.int .i64 b],.agg #[.int .i64 c,.int .i64 d]] W fun e w'=>e=.returned (.agg #[.int .i64 (Pr.join ⟨a,b⟩ ⟨c,d⟩).lo,.int .i64 (Pr.join ⟨a,b⟩ ⟨c,d⟩).hi]) ∧ Below W.heap.size W w':=joinS_any ⟨a,b⟩ ⟨c,d⟩ W
theorem meetS_n (a b c d:Int) (W:World):Calls Try.prog 122 #[.agg #[.int .i64 a,.int .i64 b],.agg #[.int .i64 c,.int .i64 d]] W fun e w'=>e=.returned (.agg #[.int .i64 (Pr.meet ⟨a,b⟩ ⟨c,d⟩).lo,.int .i64 (Pr.meet ⟨a,b⟩ ⟨c,d⟩).hi]) ∧ Below W.heap.size W w':=meetS_any ⟨a,b⟩ ⟨c,d⟩ W
theorem hasS_n (a b v:Int) (W:World):Calls Try.prog 96 #[.agg #[.int .i64 a,.int .i64 b],.int .i64 v] W fun e w'=>e=.returned (.bool (Pr.hasB ⟨a,b⟩ v)) ∧ Below W.heap.size W w':=hasS_any ⟨a,b⟩ v W
theorem unsigned_n (a b c d:Int) (W:World):Calls Try.prog 91 #[.agg #[.int .u64 a,.int .u64 b,.int .i64 c,.int .i64 d]] W fun e w'=>e=.returned (.agg #[.int .u64 a,.int .u64 b]) ∧ Below W.heap.size W w':=by
  go_enter Try.func91,Try.ntmps91
  go_wp2
  all_goals go_returns
  all_goals refine ⟨rfl,?_⟩
  all_goals (repeat' (first | exact Below.refl _ _ | assumption | apply below_new | (refine below_call ?_ (by assumption))))
theorem signed_n (a b c d:Int) (W:World):Calls Try.prog 93 #[.agg #[.int .u64 a,.int .u64 b,.int .i64 c,.int .i64 d]] W fun e w'=>e=.returned (.agg #[.int .i64 c,.int .i64 d]) ∧ Below W.heap.size W w':=by
  go_enter Try.func93,Try.ntmps93
  go_wp2
  all_goals go_returns
  all_goals refine ⟨rfl,?_⟩
  all_goals (repeat' (first | exact Below.refl _ _ | assumption | apply below_new | (refine below_call ?_ (by assumption))))
theorem both_n (a b c d:Int) (W:World):Calls Try.prog 86 #[.agg #[.int .u64 a,.int .u64 b],.agg #[.int .i64 c,.int .i64 d]] W fun e w'=>e=.returned (.agg #[.int .u64 a,.int .u64 b,.int .i64 c,.int .i64 d]) ∧ Below W.heap.size W w':=by
  go_enter Try.func86,Try.ntmps86
  go_wp2
  all_goals go_returns
  all_goals refine ⟨rfl,?_⟩
  all_goals (repeat' (first | exact Below.refl _ _ | assumption | apply below_new | (refine below_call ?_ (by assumption))))
theorem sameU_n (a b c d:Int) (W:World) (hq:Pr.U ⟨c,d⟩):Calls Try.prog 125 #[.agg #[.int .i64 a,.int .i64 b],.agg #[.int .u64 c,.int .u64 d]] W fun e w'=>e=.returned (.agg #[.int .i64 (sameU ⟨a,b⟩ ⟨c,d⟩).lo,.int .i64 (sameU ⟨a,b⟩ ⟨c,d⟩).hi]) ∧ Below W.heap.size W w':=by
  simp only [Pr.U] at hq
  by_cases h:(c < 9223372036854775808 ↔ d < 9223372036854775808)
  · have e1:sameU ⟨a,b⟩ ⟨c,d⟩=⟨sg c,sg d⟩:=if_pos h
    have e2:(c / 9223372036854775808 != d / 9223372036854775808)=false:=by
      rw [bne_eq_false_iff_eq];omega
    rw [e1]
    clear hq h e1
    go_enter Try.func125,Try.ntmps125
    go_wp2
    all_goals go_returns
    all_goals refine ⟨retP (by rw [wrap64,sg]) (by rw [wrap64,sg]),?_⟩
    all_goals (repeat' (first | exact Below.refl _ _ | assumption | apply below_new | (refine below_call ?_ (by assumption))))
  · have e1:sameU ⟨a,b⟩ ⟨c,d⟩=⟨a,b⟩:=if_neg h
    have e2:(c / 9223372036854775808 != d / 9223372036854775808)=true:=by
      rw [bne_iff_ne];omega
    rw [e1]
    clear hq h e1
    go_enter Try.func125,Try.ntmps125
    go_wp2
    all_goals go_returns
    all_goals refine ⟨rfl,?_⟩
    all_goals (repeat' (first | exact Below.refl _ _ | assumption | apply below_new | (refine below_call ?_ (by assumption))))
theorem sameS_n (a b c d:Int) (W:World) (hq:Pr.S ⟨c,d⟩):Calls Try.prog 126 #[.agg #[.int .u64 a,.int .u64 b],.agg #[.int .i64 c,.int .i64 d]] W fun e w'=>e=.returned (.agg #[.int .u64 (sameS ⟨a,b⟩ ⟨c,d⟩).lo,.int .u64 (sameS ⟨a,b⟩ ⟨c,d⟩).hi]) ∧ Below W.heap.size W w':=by
  simp only [Pr.S] at hq
  by_cases h:(c < 0 ↔ d < 0)
  · have e1:sameS ⟨a,b⟩ ⟨c,d⟩=⟨un c,un d⟩:=if_pos h
    have e2:(IntKind.u64.wrap c / 9223372036854775808 != IntKind.u64.wrap d / 9223372036854775808)=false:=by
      rw [bne_eq_false_iff_eq,IntKind.wrap_u64,IntKind.wrap_u64];omega
    rw [e1]
    clear hq h e1
    go_enter Try.func126,Try.ntmps126
    go_wp2
    all_goals go_returns
    all_goals refine ⟨retP (by rw [IntKind.wrap_u64,un]) (by rw [IntKind.wrap_u64,un]),?_⟩
    all_goals (repeat' (first | exact Below.refl _ _ | assumption | apply below_new | (refine below_call ?_ (by assumption))))
  · have e1:sameS ⟨a,b⟩ ⟨c,d⟩=⟨a,b⟩:=if_neg h
    have e2:(IntKind.u64.wrap c / 9223372036854775808 != IntKind.u64.wrap d / 9223372036854775808)=true:=by
      rw [bne_iff_ne,IntKind.wrap_u64,IntKind.wrap_u64];omega
    rw [e1]
    clear hq h e1
    go_enter Try.func126,Try.ntmps126
    go_wp2
    all_goals go_returns
    all_goals refine ⟨rfl,?_⟩
    all_goals (repeat' (first | exact Below.refl _ _ | assumption | apply below_new | (refine below_call ?_ (by assumption))))
end Go.Proofs.Ytcnneeimkcnjfaa.Bnd
