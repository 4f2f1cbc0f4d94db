import Derived.Test.YthmbmcckldgdiaaDoorERw34
import Derived.OwnWalkIn
set_option linter.unusedVariables false
set_option linter.unusedSimpArgs false
set_option linter.unnecessarySimpa false
namespace Go.Proofs.YthmbmcckldgdiaaDoor.Mdl
open Go.RowKit Go.Shelf
set_option linter.unusedVariables false
set_option maxRecDepth 100000
section
variable {P:Program} {l n:Nat} {ops:Array Oper} {Q:Exit → Act → World → Prop} {rest:List Oper} {o:Oper} {a:Act} {w:World}
theorem in_of_upon {Q':Exit → Act → World → Prop} {next:Act → World → Prop} (hq:∀ a w,¬ Q .outgrown a w) (hp:∀ c a w,Q' (.panic c) a w → Q (.panic c) a w) (ho:∀ a w,Q' .outgrown a w → Q .outgrown a w):
    ∀ r,o.upon P a next Q' r → o.uponIn (Fence.wide.inRound l) n P a next Q r:=by
  intro r h
  cases r with
  | ok x w'=>
    cases x with
    | value v=>exact h
    | skip=>exact h
    | defer d=>exact h
    | enter f args=>
      refine ⟨fun _=>by simp [Fence.wide] at *,?_⟩
      refine (callsIn_wide (n:=n - 1)).2 (Calls.mono h ?_)
      rintro e w2 h2
      cases e with
      | returned v=>exact h2
      | panicked chain=>exact hp _ _ _ h2
      | outgrown=>
        obtain ⟨a,w,h3⟩:=h2
        exact absurd (ho _ _ h3) (hq _ _)
    | row row args=>
      refine ⟨fun _=>by simp [Fence.wide] at *,fun c cs _=>?_⟩
      obtain ⟨v,w',r,s⟩:=h c cs
      exact ⟨v,w',r,(stepsIn_wide).2 s⟩
    | _=>exact h.elim
  | halt x w'=>
    cases x with
    | panic v=>exact hp _ _ _ h
    | _=>exact h.elim
theorem in_of_list {Q':Exit → Act → World → Prop} (hq:∀ a w,¬ Q .outgrown a w) (ho:∀ a w,Q' .outgrown a w → Q .outgrown a w) (hp:∀ c a w,Q' (.panic c) a w → Q (.panic c) a w) (hn:∀ a w,Q' .normal a w → Q .normal a w):
    ∀ (rest:List Oper),(∀ o ∈ rest,∀ c,o.op ≠ .defer c) → ∀ a w,wpList P ops Q' rest a w → wpListIn (Fence.wide.inRound l) n P ops Q rest a w
  | [],_,a,w,h=>hn a w h
  | o :: rest,hd,a,w,h=>by
    unfold wpListIn
    unfold wpList at h
    by_cases hw:Region.wanted o (yielded ops a.tmps)=true
    · rw [if_pos hw] at h ⊢
      rcases h with h | h
      · refine ⟨fun _ _=>trivial,?_⟩
        rw [Oper.semAt_plain _ _ _ (hd o List.mem_cons_self)]
        have h2:=in_of_upon (l:=l) (n:=n) (Q:=Q) (Q':=Q') hq hp ho _ h
        revert h2
        generalize (execOp a.eval o).run P w=r
        intro h2
        have key:∀ (nx nx':Act → World → Prop),(∀ a w,nx a w → nx' a w) → ∀ r,o.uponIn (Fence.wide.inRound l) n P a nx Q r → o.uponIn (Fence.wide.inRound l) n P a nx' Q r:=by
          intro nx nx' hx r h
          cases r with
          | ok x w'=>
            cases x with
            | value v=>exact hx _ _ h
            | skip=>exact hx _ _ h
            | defer d=>exact hx _ _ h
            | enter f args=>
              refine ⟨h.1,?_⟩
              refine (callsIn_wide (n:=n - 1)).2 (Calls.mono ((callsIn_wide (n:=n - 1)).1 h.2) ?_)
              rintro e w2 h2
              cases e with
              | returned v=>exact hx _ _ h2
              | panicked chain=>exact h2
              | outgrown=>exact h2
            | row row args=>exact ⟨h.1,RowsIn.mono h.2 (fun v w' h=>hx _ _ h)⟩
            | round l f tmps assign body=>
              refine ⟨h.1,RoundIn.mono h.2 ?_⟩
              rintro e w2 h2
              cases e with
              | returned v=>exact hx _ _ h2
              | panicked chain=>exact h2
              | outgrown=>exact h2
            | _=>exact h
          | halt x w'=>
            cases x with
            | panic v=>exact h
            | _=>exact h
        exact key _ _ (fun a w h=>in_of_list hq ho hp hn rest (fun o ho=>hd o (List.mem_cons_of_mem _ ho)) a w h) _ h2
      · obtain ⟨_,a,w,h⟩:=h
        exact absurd (ho a w h) (hq a w)
    · rw [if_neg hw] at h ⊢
      exact ⟨fun _ _=>trivial,in_of_list hq ho hp hn rest (fun o ho=>hd o (List.mem_cons_of_mem _ ho)) _ _ h⟩
def isDefer:Op → Bool
  | .defer _=>true
  | _=>false
theorem noDefer {ls:List Oper} (h:ls.all (fun o=>!isDefer o.op)=true):∀ o ∈ ls,∀ c,o.op ≠ .defer c:=fun o ho c e=>by
  have:=List.all_eq_true.1 h o ho
  rw [e] at this
  simp [isDefer] at this
theorem in_region_seq {id:Nat} {ls:List Oper} {y:Code} (hd:ls.all (fun o=>!isDefer o.op)=true) (hq:∀ a w,¬ Q .outgrown a w)
    (h:∀ K:Act → World → Prop,(∀ a w,y.wpIn (Fence.wide.inRound l) n P Q a w → K a w) → wpList P ls.toArray (Exit.then K (fun _ _ _=>False)) ls a w):(Code.seq (Code.region id ls.toArray false) y).wpIn (Fence.wide.inRound l) n P Q a w:=by
  refine wpIn_seq ?_
  refine wpIn_region_lit ?_
  exact in_of_list (Q:=Exit.then (y.wpIn (Fence.wide.inRound l) n P Q) Q) (Q':=Exit.then (fun a w=>y.wpIn (Fence.wide.inRound l) n P Q a w) (fun _ _ _=>False)) (fun a w h=>hq a w h) (fun a w h=>h.elim) (fun c a w h=>h.elim) (fun a w h=>h) _ (noDefer hd) a w (h _ (fun _ _ h=>h))
theorem in_region {id:Nat} {ls:List Oper} (hd:ls.all (fun o=>!isDefer o.op)=true) (hq:∀ a w,¬ Q .outgrown a w)
    (h:∀ K:Act → World → Prop,(∀ a w,Q .normal a w → K a w) → wpList P ls.toArray (Exit.then K (fun _ _ _=>False)) ls a w):(Code.region id ls.toArray false).wpIn (Fence.wide.inRound l) n P Q a w:=by
  refine wpIn_region_lit ?_
  exact in_of_list (Q':=Exit.then (fun a w=>Q .normal a w) (fun _ _ _=>False)) (fun a w h=>hq a w h) (fun a w h=>h.elim) (fun c a w h=>h.elim) (fun a w h=>h) _ (noDefer hd) a w (h _ (fun _ _ h=>h))
end
end Go.Proofs.YthmbmcckldgdiaaDoor.Mdl
