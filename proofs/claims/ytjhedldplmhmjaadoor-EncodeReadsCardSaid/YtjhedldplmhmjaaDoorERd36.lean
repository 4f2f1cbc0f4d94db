import Derived.Test.YtjhedldplmhmjaaDoorERd35
set_option linter.unusedVariables false
set_option linter.unusedSimpArgs false
set_option linter.unnecessarySimpa false
namespace Go.Proofs.YtjhedldplmhmjaaDoor.Mrm
open Go Go.RowKit
set_option linter.unusedVariables false
set_option linter.unusedSimpArgs false
set_option linter.unnecessarySimpa false
set_option maxRecDepth 100000
theorem cut_x (a:Option Addr) (n c:Nat) (zs:List Int) (W:World) (h:BytesAt W a n c zs):∃ a' n' c' b,BytesAt W a' n' c' (stripH zs).2 ∧ (∀ B p,a'=some ⟨B,p,none⟩ → ∃ p0,a=some ⟨B,p0,none⟩) ∧ ∀ (W':World) (g:Nat),Below W.heap.size W W' → BytesAt W' (some ⟨g,0,none⟩) 1 1 [102] →
    Calls Tryd.prog 55 #[.slice a n c,.slice (some ⟨g,0,none⟩) 1 1] W' fun e w'=>e=.returned (.tuple #[.slice a' n' c',.bool b]) ∧ W'=w':=by
  cases zs with
  | nil=>exact ⟨a,n,c,false,h,fun B p e=>⟨p,e⟩,fun W' g b h2=>by
      have P:=prefix_n a (some ⟨g,0,none⟩) n c 1 1 [] [102] W' (h.below b) h2
      exact cutp_no a _ n c 1 1 W' h.le h.fit P⟩
  | cons z zs=>
    by_cases hz:z=102
    · subst hz
      obtain ⟨B,o,rfl,cz,z0,z1,l1,l2,l3⟩:=at_head h
      rw [show (stripH (102 :: zs)).2=zs from rfl]
      by_cases hc:1 < c
      · exact ⟨_,_,_,_,at_next h hc,fun _ _ e=>(by injection e with e;injection e with e e2;exact ⟨o,by rw [← e]⟩),fun W' g b h2=>cut_one B o n c g 102 W' l1 l2 hc l3 (by decide) (cell_b cz b) (by obtain ⟨_,_,e2,cp,_⟩:=at_head h2;injection e2 with e2;injection e2 with e2 e3;subst e2 e3;exact cp)⟩
      · obtain ⟨rfl,rfl,rfl⟩:=at_end h hc
        exact ⟨_,_,_,_,at_empty W B o 0 (by decide),fun _ _ e=>(by injection e with e;injection e with e e2;exact ⟨o,by rw [← e]⟩),fun W' g b h2=>cut_end B o g 102 W' (by decide) (cell_b cz b) (by obtain ⟨_,_,e2,cp,_⟩:=at_head h2;injection e2 with e2;injection e2 with e2 e3;subst e2 e3;exact cp)⟩
    · rw [show (stripH (z :: zs)).2=z :: zs from by unfold stripH;rw [if_neg (show ¬ (z :: zs).headD 0=102 from hz)]]
      exact ⟨a,n,c,false,h,fun B p e=>⟨p,e⟩,fun W' g b h2=>by
        have P:=prefix_n a (some ⟨g,0,none⟩) n c 1 1 (z :: zs) [102] W' (h.below b) h2
        rw [show decide (List.take 1 (z :: zs)=[102])=false from decide_eq_false (by simp [hz])] at P
        exact cutp_no a _ n c 1 1 W' h.le h.fit P⟩
def CutIs (W:World) (a:Option Addr) (n c:Nat) (a':Option Addr) (n' c':Nat) (b:Bool):Prop:=∀ (W':World) (g:Nat),Below W.heap.size W W' → BytesAt W' (some ⟨g,0,none⟩) 1 1 [102] →
    Calls Tryd.prog 55 #[.slice a n c,.slice (some ⟨g,0,none⟩) 1 1] W' fun e w'=>e=.returned (.tuple #[.slice a' n' c',.bool b]) ∧ W'=w'
theorem cut_at {W:World} {a a':Option Addr} {n c n' c':Nat} {b:Bool} (CU:CutIs W a n c a' n' c' b):Calls Tryd.prog 55 #[.slice a n c,.slice (some ⟨W.heap.size + 1 + 1,0,none⟩) 1 1] (((W.alloc (.cells #[.bool false,.int .i8 0,.int .i8 0,.int .u16 0,.slice none 0 0] 56)).alloc (.cells #[.bool false,.int .i8 0,.int .i8 0,.int .u16 0,.slice none 0 0] 56)).alloc (.cells #[.int .u8 102] 5)) fun e w'=>e=.returned (.tuple #[.slice a' n' c',.bool b]) ∧ (((W.alloc (.cells #[.bool false,.int .i8 0,.int .i8 0,.int .u16 0,.slice none 0 0] 56)).alloc (.cells #[.bool false,.int .i8 0,.int .i8 0,.int .u16 0,.slice none 0 0] 56)).alloc (.cells #[.int .u8 102] 5))=w':=by
  have q:=one_at ((W.alloc (.cells #[.bool false,.int .i8 0,.int .i8 0,.int .u16 0,.slice none 0 0] 56)).alloc (.cells #[.bool false,.int .i8 0,.int .i8 0,.int .u16 0,.slice none 0 0] 56)) 102 (by decide)
  rw [size_alloc,size_alloc] at q
  exact CU _ _ (below_new (below_new (below_new (Below.refl _ _) _) _) _) q
set_option maxHeartbeats 4000000 in
theorem find_nil (a a':Option Addr) (n c c':Nat) (b:Bool) (W:World) (CU:Hid (CutIs W a n c a' 0 c' b)):
    Calls Tryd.prog 24 #[.slice a n c] W fun e w'=>e=.returned (.tuple #[.agg #[.bool false,.int .i8 0,.int .i8 0,.int .u16 0,.slice none 0 0],.bool false]) ∧ Below W.heap.size W w':=by
  go_enter Tryd.func24,Tryd.ntmps24
  go_wp2_with fail
  refine (cut_at CU.out).mono ?_
  rintro e w1 ⟨rfl,rfl⟩
  go_wp2_with fail
  refine bodyPost_ret (v:=.tuple #[.agg #[.bool false,.int .i8 0,.int .i8 0,.int .u16 0,.slice none 0 0],.bool false]) (by simp [results,Tryd.results24,go_sem]) rfl ⟨rfl,?_⟩
  repeat (first | exact Below.refl _ _ | apply Below.drew | apply below_new)
set_option maxHeartbeats 4000000 in
theorem find_00 (a:Option Addr) (n c n' c' B o:Nat) (b:Bool) (z:Int) (W:World) (CU:Hid (CutIs W a n c (some ⟨B,o,none⟩) n' c' b)) (h1':1 ≤ n') (h2:n' ≤ c') (h3:c' ≤ 9223372036854775807) (hc:1 < c') (z0:0 ≤ z) (z1:z < 256) (hz:¬ z=15)
    (RR:Hid (∀ W:World,Calls Tryd.prog 56 #[.int .u8 z] W fun e w'=>e=.returned (.tuple #[.bool false,.int .i8 0,.int .i8 0,.bool false]) ∧ W=w'))
    (c0:W.cell? ⟨B,o,none⟩=some (.int .u8 z)):
    Calls Tryd.prog 24 #[.slice a n c] W fun e w'=>e=.returned (.tuple #[.agg #[.bool false,.int .i8 0,.int .i8 0,.int .u16 z,.slice (some ⟨B,o + 1,none⟩) (n' - 1) (c' - 1)],.bool true]) ∧ Below W.heap.size W w':=by
  have O:=(or16 z0 z1).2
  rw [Int.zero_add] at O
  have d00:=cell_b c0 (show Below W.heap.size W (((W.alloc (.cells #[.bool false,.int .i8 0,.int .i8 0,.int .u16 0,.slice none 0 0] 56)).alloc (.cells #[.bool false,.int .i8 0,.int .i8 0,.int .u16 0,.slice none 0 0] 56)).alloc (.cells #[.int .u8 102] 5)) from below_new (below_new (below_new (Below.refl _ _) _) _) _)
  go_enter Tryd.func24,Tryd.ntmps24
  go_wp2_with fail
  refine (cut_at CU.out).mono ?_
  rintro e w1 ⟨rfl,rfl⟩
  go_wp2_with fail
  refine (RR.out _).mono ?_
  rintro e w1 ⟨rfl,rfl⟩
  go_wp2_with fail
  go_region
  all_goals (
    go_wp2_with fail
    refine bodyPost_ret (v:=.tuple #[.agg #[.bool false,.int .i8 0,.int .i8 0,.int .u16 z,.slice (some ⟨B,o + 1,none⟩) (n' - 1) (c' - 1)],.bool true]) (by simp [results,Tryd.results24,go_sem]) rfl ⟨rfl,?_⟩
    repeat (first | exact Below.refl _ _ | apply Below.drew | apply below_new))
set_option maxHeartbeats 4000000 in
theorem find_00e (a:Option Addr) (n c B o:Nat) (b:Bool) (z:Int) (W:World) (CU:Hid (CutIs W a n c (some ⟨B,o,none⟩) 1 1 b)) (z0:0 ≤ z) (z1:z < 256) (hz:¬ z=15)
    (RR:Hid (∀ W:World,Calls Tryd.prog 56 #[.int .u8 z] W fun e w'=>e=.returned (.tuple #[.bool false,.int .i8 0,.int .i8 0,.bool false]) ∧ W=w'))
    (c0:W.cell? ⟨B,o,none⟩=some (.int .u8 z)):
    Calls Tryd.prog 24 #[.slice a n c] W fun e w'=>e=.returned (.tuple #[.agg #[.bool false,.int .i8 0,.int .i8 0,.int .u16 z,.slice (some ⟨B,o,none⟩) 0 0],.bool true]) ∧ Below W.heap.size W w':=by
  have O:=(or16 z0 z1).2
  rw [Int.zero_add] at O
  have d00:=cell_b c0 (show Below W.heap.size W (((W.alloc (.cells #[.bool false,.int .i8 0,.int .i8 0,.int .u16 0,.slice none 0 0] 56)).alloc (.cells #[.bool false,.int .i8 0,.int .i8 0,.int .u16 0,.slice none 0 0] 56)).alloc (.cells #[.int .u8 102] 5)) from below_new (below_new (below_new (Below.refl _ _) _) _) _)
  go_enter Tryd.func24,Tryd.ntmps24
  go_wp2_with fail
  refine (cut_at CU.out).mono ?_
  rintro e w1 ⟨rfl,rfl⟩
  go_wp2_with fail
  refine (RR.out _).mono ?_
  rintro e w1 ⟨rfl,rfl⟩
  go_wp2_with fail
  go_region
  all_goals (
    go_wp2_with fail
    refine bodyPost_ret (v:=.tuple #[.agg #[.bool false,.int .i8 0,.int .i8 0,.int .u16 z,.slice (some ⟨B,o,none⟩) 0 0],.bool true]) (by simp [results,Tryd.results24,go_sem]) rfl ⟨rfl,?_⟩
    repeat (first | exact Below.refl _ _ | apply Below.drew | apply below_new))
set_option maxHeartbeats 4000000 in
theorem find_01x (a:Option Addr) (n c B o:Nat) (b:Bool) (W:World) (CU:Hid (CutIs W a n c (some ⟨B,o,none⟩) 1 1 b))
    (RR:Hid (∀ W:World,Calls Tryd.prog 56 #[.int .u8 15] W fun e w'=>e=.returned (.tuple #[.bool false,.int .i8 0,.int .i8 0,.bool false]) ∧ W=w'))
    (c0:W.cell? ⟨B,o,none⟩=some (.int .u8 15)):
    Calls Tryd.prog 24 #[.slice a n c] W fun e w'=>e=.returned (.tuple #[.agg #[.bool false,.int .i8 0,.int .i8 0,.int .u16 0,.slice none 0 0],.bool false]) ∧ Below W.heap.size W w':=by
  have d00:=cell_b c0 (show Below W.heap.size W (((W.alloc (.cells #[.bool false,.int .i8 0,.int .i8 0,.int .u16 0,.slice none 0 0] 56)).alloc (.cells #[.bool false,.int .i8 0,.int .i8 0,.int .u16 0,.slice none 0 0] 56)).alloc (.cells #[.int .u8 102] 5)) from below_new (below_new (below_new (Below.refl _ _) _) _) _)
  go_enter Tryd.func24,Tryd.ntmps24
  go_wp2_with fail
  refine (cut_at CU.out).mono ?_
  rintro e w1 ⟨rfl,rfl⟩
  go_wp2_with fail
  refine (RR.out _).mono ?_
  rintro e w1 ⟨rfl,rfl⟩
  go_wp2_with fail
  go_region
  all_goals (
    go_wp2_with fail
    refine bodyPost_ret (v:=.tuple #[.agg #[.bool false,.int .i8 0,.int .i8 0,.int .u16 0,.slice none 0 0],.bool false]) (by simp [results,Tryd.results24,go_sem]) rfl ⟨rfl,?_⟩
    repeat (first | exact Below.refl _ _ | apply Below.drew | apply below_new))
set_option maxHeartbeats 4000000 in
theorem find_01n (a:Option Addr) (n c c' B o:Nat) (b:Bool) (W:World) (CU:Hid (CutIs W a n c (some ⟨B,o,none⟩) 1 c' b)) (h3:c' ≤ 9223372036854775807) (hc:1 < c')
    (RR:Hid (∀ W:World,Calls Tryd.prog 56 #[.int .u8 15] W fun e w'=>e=.returned (.tuple #[.bool false,.int .i8 0,.int .i8 0,.bool false]) ∧ W=w'))
    (c0:W.cell? ⟨B,o,none⟩=some (.int .u8 15)):
    Calls Tryd.prog 24 #[.slice a n c] W fun e w'=>e=.returned (.tuple #[.agg #[.bool false,.int .i8 0,.int .i8 0,.int .u16 0,.slice none 0 0],.bool false]) ∧ Below W.heap.size W w':=by
  have d00:=cell_b c0 (show Below W.heap.size W (((W.alloc (.cells #[.bool false,.int .i8 0,.int .i8 0,.int .u16 0,.slice none 0 0] 56)).alloc (.cells #[.bool false,.int .i8 0,.int .i8 0,.int .u16 0,.slice none 0 0] 56)).alloc (.cells #[.int .u8 102] 5)) from below_new (below_new (below_new (Below.refl _ _) _) _) _)
  go_enter Tryd.func24,Tryd.ntmps24
  go_wp2_with fail
  refine (cut_at CU.out).mono ?_
  rintro e w1 ⟨rfl,rfl⟩
  go_wp2_with fail
  refine (RR.out _).mono ?_
  rintro e w1 ⟨rfl,rfl⟩
  go_wp2_with fail
  go_region
  all_goals (
    go_wp2_with fail
    refine bodyPost_ret (v:=.tuple #[.agg #[.bool false,.int .i8 0,.int .i8 0,.int .u16 0,.slice none 0 0],.bool false]) (by simp [results,Tryd.results24,go_sem]) rfl ⟨rfl,?_⟩
    repeat (first | exact Below.refl _ _ | apply Below.drew | apply below_new))
set_option maxHeartbeats 4000000 in
theorem find_01 (a:Option Addr) (n c n' c' B o:Nat) (b:Bool) (y:Int) (W:World) (CU:Hid (CutIs W a n c (some ⟨B,o,none⟩) n' c' b)) (h1':2 ≤ n') (h2:n' ≤ c') (h3:c' ≤ 9223372036854775807) (hc:2 < c') (y0:0 ≤ y) (y1:y < 256)
    (RR:Hid (∀ W:World,Calls Tryd.prog 56 #[.int .u8 15] W fun e w'=>e=.returned (.tuple #[.bool false,.int .i8 0,.int .i8 0,.bool false]) ∧ W=w'))
    (c0:W.cell? ⟨B,o,none⟩=some (.int .u8 15))
    (c1:W.cell? ⟨B,o + 1,none⟩=some (.int .u8 y)):
    Calls Tryd.prog 24 #[.slice a n c] W fun e w'=>e=.returned (.tuple #[.agg #[.bool false,.int .i8 0,.int .i8 0,.int .u16 (3840 + y),.slice (some ⟨B,o + 1 + 1,none⟩) (n' - 1 - 1) (c' - 1 - 1)],.bool true]) ∧ Below W.heap.size W w':=by
  have O:=(or16 y0 y1).1
  have d00:=cell_b c0 (show Below W.heap.size W (((W.alloc (.cells #[.bool false,.int .i8 0,.int .i8 0,.int .u16 0,.slice none 0 0] 56)).alloc (.cells #[.bool false,.int .i8 0,.int .i8 0,.int .u16 0,.slice none 0 0] 56)).alloc (.cells #[.int .u8 102] 5)) from below_new (below_new (below_new (Below.refl _ _) _) _) _)
  have d01:=cell_b c0 (show Below W.heap.size W (((W.alloc (.cells #[.bool false,.int .i8 0,.int .i8 0,.int .u16 0,.slice none 0 0] 56)).alloc (.cells #[.bool false,.int .i8 0,.int .i8 0,.int .u16 3840,.slice none 0 0] 56)).alloc (.cells #[.int .u8 102] 5)) from below_new (below_new (below_new (Below.refl _ _) _) _) _)
  have d10:=cell_b c1 (show Below W.heap.size W (((W.alloc (.cells #[.bool false,.int .i8 0,.int .i8 0,.int .u16 0,.slice none 0 0] 56)).alloc (.cells #[.bool false,.int .i8 0,.int .i8 0,.int .u16 0,.slice none 0 0] 56)).alloc (.cells #[.int .u8 102] 5)) from below_new (below_new (below_new (Below.refl _ _) _) _) _)
  have d11:=cell_b c1 (show Below W.heap.size W (((W.alloc (.cells #[.bool false,.int .i8 0,.int .i8 0,.int .u16 0,.slice none 0 0] 56)).alloc (.cells #[.bool false,.int .i8 0,.int .i8 0,.int .u16 3840,.slice none 0 0] 56)).alloc (.cells #[.int .u8 102] 5)) from below_new (below_new (below_new (Below.refl _ _) _) _) _)
  go_enter Tryd.func24,Tryd.ntmps24
  go_wp2_with fail
  refine (cut_at CU.out).mono ?_
  rintro e w1 ⟨rfl,rfl⟩
  go_wp2_with fail
  refine (RR.out _).mono ?_
  rintro e w1 ⟨rfl,rfl⟩
  go_wp2_with fail
  go_region
  all_goals (
    go_wp2_with fail
    go_region
    all_goals (
      go_wp2_with fail
      refine bodyPost_ret (v:=.tuple #[.agg #[.bool false,.int .i8 0,.int .i8 0,.int .u16 (3840 + y),.slice (some ⟨B,o + 1 + 1,none⟩) (n' - 1 - 1) (c' - 1 - 1)],.bool true]) (by simp [results,Tryd.results24,go_sem]) rfl ⟨rfl,?_⟩
      repeat (first | exact Below.refl _ _ | apply Below.drew | apply below_new)))
set_option maxHeartbeats 4000000 in
theorem find_01e (a:Option Addr) (n c B o:Nat) (b:Bool) (y:Int) (W:World) (CU:Hid (CutIs W a n c (some ⟨B,o,none⟩) 2 2 b)) (y0:0 ≤ y) (y1:y < 256)
    (RR:Hid (∀ W:World,Calls Tryd.prog 56 #[.int .u8 15] W fun e w'=>e=.returned (.tuple #[.bool false,.int .i8 0,.int .i8 0,.bool false]) ∧ W=w'))
    (c0:W.cell? ⟨B,o,none⟩=some (.int .u8 15))
    (c1:W.cell? ⟨B,o + 1,none⟩=some (.int .u8 y)):
    Calls Tryd.prog 24 #[.slice a n c] W fun e w'=>e=.returned (.tuple #[.agg #[.bool false,.int .i8 0,.int .i8 0,.int .u16 (3840 + y),.slice (some ⟨B,o + 1,none⟩) 0 0],.bool true]) ∧ Below W.heap.size W w':=by
  have O:=(or16 y0 y1).1
  have d00:=cell_b c0 (show Below W.heap.size W (((W.alloc (.cells #[.bool false,.int .i8 0,.int .i8 0,.int .u16 0,.slice none 0 0] 56)).alloc (.cells #[.bool false,.int .i8 0,.int .i8 0,.int .u16 0,.slice none 0 0] 56)).alloc (.cells #[.int .u8 102] 5)) from below_new (below_new (below_new (Below.refl _ _) _) _) _)
  have d01:=cell_b c0 (show Below W.heap.size W (((W.alloc (.cells #[.bool false,.int .i8 0,.int .i8 0,.int .u16 0,.slice none 0 0] 56)).alloc (.cells #[.bool false,.int .i8 0,.int .i8 0,.int .u16 3840,.slice none 0 0] 56)).alloc (.cells #[.int .u8 102] 5)) from below_new (below_new (below_new (Below.refl _ _) _) _) _)
  have d10:=cell_b c1 (show Below W.heap.size W (((W.alloc (.cells #[.bool false,.int .i8 0,.int .i8 0,.int .u16 0,.slice none 0 0] 56)).alloc (.cells #[.bool false,.int .i8 0,.int .i8 0,.int .u16 0,.slice none 0 0] 56)).alloc (.cells #[.int .u8 102] 5)) from below_new (below_new (below_new (Below.refl _ _) _) _) _)
  have d11:=cell_b c1 (show Below W.heap.size W (((W.alloc (.cells #[.bool false,.int .i8 0,.int .i8 0,.int .u16 0,.slice none 0 0] 56)).alloc (.cells #[.bool false,.int .i8 0,.int .i8 0,.int .u16 3840,.slice none 0 0] 56)).alloc (.cells #[.int .u8 102] 5)) from below_new (below_new (below_new (Below.refl _ _) _) _) _)
  go_enter Tryd.func24,Tryd.ntmps24
  go_wp2_with fail
  refine (cut_at CU.out).mono ?_
  rintro e w1 ⟨rfl,rfl⟩
  go_wp2_with fail
  refine (RR.out _).mono ?_
  rintro e w1 ⟨rfl,rfl⟩
  go_wp2_with fail
  go_region
  all_goals (
    go_wp2_with fail
    go_region
    all_goals (
      go_wp2_with fail
      refine bodyPost_ret (v:=.tuple #[.agg #[.bool false,.int .i8 0,.int .i8 0,.int .u16 (3840 + y),.slice (some ⟨B,o + 1,none⟩) 0 0],.bool true]) (by simp [results,Tryd.results24,go_sem]) rfl ⟨rfl,?_⟩
      repeat (first | exact Below.refl _ _ | apply Below.drew | apply below_new)))
set_option maxHeartbeats 4000000 in
theorem find_1x (a:Option Addr) (n c B o:Nat) (b:Bool) (x:Int) (wd:Bool) (h4 h1:Int) (W:World) (CU:Hid (CutIs W a n c (some ⟨B,o,none⟩) 1 1 b)) (x0:0 ≤ x) (x1:x < 256)
    (RR:Hid (∀ W:World,Calls Tryd.prog 56 #[.int .u8 x] W fun e w'=>e=.returned (.tuple #[.bool wd,.int .i8 h4,.int .i8 h1,.bool true]) ∧ W=w'))
    (c0:W.cell? ⟨B,o,none⟩=some (.int .u8 x)):
    Calls Tryd.prog 24 #[.slice a n c] W fun e w'=>e=.returned (.tuple #[.agg #[.bool false,.int .i8 0,.int .i8 0,.int .u16 0,.slice none 0 0],.bool false]) ∧ Below W.heap.size W w':=by
  have d00:=cell_b c0 (show Below W.heap.size W (((W.alloc (.cells #[.bool false,.int .i8 0,.int .i8 0,.int .u16 0,.slice none 0 0] 56)).alloc (.cells #[.bool false,.int .i8 0,.int .i8 0,.int .u16 0,.slice none 0 0] 56)).alloc (.cells #[.int .u8 102] 5)) from below_new (below_new (below_new (Below.refl _ _) _) _) _)
  have d01:=cell_b c0 (show Below W.heap.size W (((W.alloc (.cells #[.bool false,.int .i8 0,.int .i8 0,.int .u16 0,.slice none 0 0] 56)).alloc (.cells #[.bool wd,.int .i8 h4,.int .i8 h1,.int .u16 0,.slice none 0 0] 56)).alloc (.cells #[.int .u8 102] 5)) from below_new (below_new (below_new (Below.refl _ _) _) _) _)
  go_enter Tryd.func24,Tryd.ntmps24
  go_wp2_with fail
  refine (cut_at CU.out).mono ?_
  rintro e w1 ⟨rfl,rfl⟩
  go_wp2_with fail
  refine (RR.out _).mono ?_
  rintro e w1 ⟨rfl,rfl⟩
  go_wp2_with fail
  refine bodyPost_ret (v:=.tuple #[.agg #[.bool false,.int .i8 0,.int .i8 0,.int .u16 0,.slice none 0 0],.bool false]) (by simp [results,Tryd.results24,go_sem]) rfl ⟨rfl,?_⟩
  repeat (first | exact Below.refl _ _ | apply Below.drew | apply below_new)
set_option maxHeartbeats 4000000 in
theorem find_1n (a:Option Addr) (n c c' B o:Nat) (b:Bool) (x:Int) (wd:Bool) (h4 h1:Int) (W:World) (CU:Hid (CutIs W a n c (some ⟨B,o,none⟩) 1 c' b)) (h3:c' ≤ 9223372036854775807) (hc:1 < c') (x0:0 ≤ x) (x1:x < 256)
    (RR:Hid (∀ W:World,Calls Tryd.prog 56 #[.int .u8 x] W fun e w'=>e=.returned (.tuple #[.bool wd,.int .i8 h4,.int .i8 h1,.bool true]) ∧ W=w'))
    (c0:W.cell? ⟨B,o,none⟩=some (.int .u8 x)):
    Calls Tryd.prog 24 #[.slice a n c] W fun e w'=>e=.returned (.tuple #[.agg #[.bool false,.int .i8 0,.int .i8 0,.int .u16 0,.slice none 0 0],.bool false]) ∧ Below W.heap.size W w':=by
  have d00:=cell_b c0 (show Below W.heap.size W (((W.alloc (.cells #[.bool false,.int .i8 0,.int .i8 0,.int .u16 0,.slice none 0 0] 56)).alloc (.cells #[.bool false,.int .i8 0,.int .i8 0,.int .u16 0,.slice none 0 0] 56)).alloc (.cells #[.int .u8 102] 5)) from below_new (below_new (below_new (Below.refl _ _) _) _) _)
  have d01:=cell_b c0 (show Below W.heap.size W (((W.alloc (.cells #[.bool false,.int .i8 0,.int .i8 0,.int .u16 0,.slice none 0 0] 56)).alloc (.cells #[.bool wd,.int .i8 h4,.int .i8 h1,.int .u16 0,.slice none 0 0] 56)).alloc (.cells #[.int .u8 102] 5)) from below_new (below_new (below_new (Below.refl _ _) _) _) _)
  go_enter Tryd.func24,Tryd.ntmps24
  go_wp2_with fail
  refine (cut_at CU.out).mono ?_
  rintro e w1 ⟨rfl,rfl⟩
  go_wp2_with fail
  refine (RR.out _).mono ?_
  rintro e w1 ⟨rfl,rfl⟩
  go_wp2_with fail
  refine bodyPost_ret (v:=.tuple #[.agg #[.bool false,.int .i8 0,.int .i8 0,.int .u16 0,.slice none 0 0],.bool false]) (by simp [results,Tryd.results24,go_sem]) rfl ⟨rfl,?_⟩
  repeat (first | exact Below.refl _ _ | apply Below.drew | apply below_new)
set_option maxHeartbeats 4000000 in
theorem find_10 (a:Option Addr) (n c n' c' B o:Nat) (b:Bool) (x z:Int) (wd:Bool) (h4 h1:Int) (W:World) (CU:Hid (CutIs W a n c (some ⟨B,o,none⟩) n' c' b)) (h1':2 ≤ n') (h2:n' ≤ c') (h3:c' ≤ 9223372036854775807) (hc:2 < c') (x0:0 ≤ x) (x1:x < 256) (z0:0 ≤ z) (z1:z < 256) (hz:¬ z=15)
    (RR:Hid (∀ W:World,Calls Tryd.prog 56 #[.int .u8 x] W fun e w'=>e=.returned (.tuple #[.bool wd,.int .i8 h4,.int .i8 h1,.bool true]) ∧ W=w'))
    (c0:W.cell? ⟨B,o,none⟩=some (.int .u8 x))
    (c1:W.cell? ⟨B,o + 1,none⟩=some (.int .u8 z)):
    Calls Tryd.prog 24 #[.slice a n c] W fun e w'=>e=.returned (.tuple #[.agg #[.bool wd,.int .i8 h4,.int .i8 h1,.int .u16 z,.slice (some ⟨B,o + 1 + 1,none⟩) (n' - 1 - 1) (c' - 1 - 1)],.bool true]) ∧ Below W.heap.size W w':=by
  have O:=(or16 z0 z1).2
  rw [Int.zero_add] at O
  have d00:=cell_b c0 (show Below W.heap.size W (((W.alloc (.cells #[.bool false,.int .i8 0,.int .i8 0,.int .u16 0,.slice none 0 0] 56)).alloc (.cells #[.bool false,.int .i8 0,.int .i8 0,.int .u16 0,.slice none 0 0] 56)).alloc (.cells #[.int .u8 102] 5)) from below_new (below_new (below_new (Below.refl _ _) _) _) _)
  have d01:=cell_b c0 (show Below W.heap.size W (((W.alloc (.cells #[.bool false,.int .i8 0,.int .i8 0,.int .u16 0,.slice none 0 0] 56)).alloc (.cells #[.bool wd,.int .i8 h4,.int .i8 h1,.int .u16 0,.slice none 0 0] 56)).alloc (.cells #[.int .u8 102] 5)) from below_new (below_new (below_new (Below.refl _ _) _) _) _)
  have d10:=cell_b c1 (show Below W.heap.size W (((W.alloc (.cells #[.bool false,.int .i8 0,.int .i8 0,.int .u16 0,.slice none 0 0] 56)).alloc (.cells #[.bool false,.int .i8 0,.int .i8 0,.int .u16 0,.slice none 0 0] 56)).alloc (.cells #[.int .u8 102] 5)) from below_new (below_new (below_new (Below.refl _ _) _) _) _)
  have d11:=cell_b c1 (show Below W.heap.size W (((W.alloc (.cells #[.bool false,.int .i8 0,.int .i8 0,.int .u16 0,.slice none 0 0] 56)).alloc (.cells #[.bool wd,.int .i8 h4,.int .i8 h1,.int .u16 0,.slice none 0 0] 56)).alloc (.cells #[.int .u8 102] 5)) from below_new (below_new (below_new (Below.refl _ _) _) _) _)
  go_enter Tryd.func24,Tryd.ntmps24
  go_wp2_with fail
  refine (cut_at CU.out).mono ?_
  rintro e w1 ⟨rfl,rfl⟩
  go_wp2_with fail
  refine (RR.out _).mono ?_
  rintro e w1 ⟨rfl,rfl⟩
  go_wp2_with fail
  go_region
  all_goals (
    go_wp2_with fail
    refine bodyPost_ret (v:=.tuple #[.agg #[.bool wd,.int .i8 h4,.int .i8 h1,.int .u16 z,.slice (some ⟨B,o + 1 + 1,none⟩) (n' - 1 - 1) (c' - 1 - 1)],.bool true]) (by simp [results,Tryd.results24,go_sem]) rfl ⟨rfl,?_⟩
    repeat (first | exact Below.refl _ _ | apply Below.drew | apply below_new))
set_option maxHeartbeats 4000000 in
theorem find_10e (a:Option Addr) (n c B o:Nat) (b:Bool) (x z:Int) (wd:Bool) (h4 h1:Int) (W:World) (CU:Hid (CutIs W a n c (some ⟨B,o,none⟩) 2 2 b)) (x0:0 ≤ x) (x1:x < 256) (z0:0 ≤ z) (z1:z < 256) (hz:¬ z=15)
    (RR:Hid (∀ W:World,Calls Tryd.prog 56 #[.int .u8 x] W fun e w'=>e=.returned (.tuple #[.bool wd,.int .i8 h4,.int .i8 h1,.bool true]) ∧ W=w'))
    (c0:W.cell? ⟨B,o,none⟩=some (.int .u8 x))
    (c1:W.cell? ⟨B,o + 1,none⟩=some (.int .u8 z)):
    Calls Tryd.prog 24 #[.slice a n c] W fun e w'=>e=.returned (.tuple #[.agg #[.bool wd,.int .i8 h4,.int .i8 h1,.int .u16 z,.slice (some ⟨B,o + 1,none⟩) 0 0],.bool true]) ∧ Below W.heap.size W w':=by
  have O:=(or16 z0 z1).2
  rw [Int.zero_add] at O
  have d00:=cell_b c0 (show Below W.heap.size W (((W.alloc (.cells #[.bool false,.int .i8 0,.int .i8 0,.int .u16 0,.slice none 0 0] 56)).alloc (.cells #[.bool false,.int .i8 0,.int .i8 0,.int .u16 0,.slice none 0 0] 56)).alloc (.cells #[.int .u8 102] 5)) from below_new (below_new (below_new (Below.refl _ _) _) _) _)
  have d01:=cell_b c0 (show Below W.heap.size W (((W.alloc (.cells #[.bool false,.int .i8 0,.int .i8 0,.int .u16 0,.slice none 0 0] 56)).alloc (.cells #[.bool wd,.int .i8 h4,.int .i8 h1,.int .u16 0,.slice none 0 0] 56)).alloc (.cells #[.int .u8 102] 5)) from below_new (below_new (below_new (Below.refl _ _) _) _) _)
  have d10:=cell_b c1 (show Below W.heap.size W (((W.alloc (.cells #[.bool false,.int .i8 0,.int .i8 0,.int .u16 0,.slice none 0 0] 56)).alloc (.cells #[.bool false,.int .i8 0,.int .i8 0,.int .u16 0,.slice none 0 0] 56)).alloc (.cells #[.int .u8 102] 5)) from below_new (below_new (below_new (Below.refl _ _) _) _) _)
  have d11:=cell_b c1 (show Below W.heap.size W (((W.alloc (.cells #[.bool false,.int .i8 0,.int .i8 0,.int .u16 0,.slice none 0 0] 56)).alloc (.cells #[.bool wd,.int .i8 h4,.int .i8 h1,.int .u16 0,.slice none 0 0] 56)).alloc (.cells #[.int .u8 102] 5)) from below_new (below_new (below_new (Below.refl _ _) _) _) _)
  go_enter Tryd.func24,Tryd.ntmps24
  go_wp2_with fail
  refine (cut_at CU.out).mono ?_
  rintro e w1 ⟨rfl,rfl⟩
  go_wp2_with fail
  refine (RR.out _).mono ?_
  rintro e w1 ⟨rfl,rfl⟩
  go_wp2_with fail
  go_region
  all_goals (
    go_wp2_with fail
    refine bodyPost_ret (v:=.tuple #[.agg #[.bool wd,.int .i8 h4,.int .i8 h1,.int .u16 z,.slice (some ⟨B,o + 1,none⟩) 0 0],.bool true]) (by simp [results,Tryd.results24,go_sem]) rfl ⟨rfl,?_⟩
    repeat (first | exact Below.refl _ _ | apply Below.drew | apply below_new))
set_option maxHeartbeats 4000000 in
theorem find_11x (a:Option Addr) (n c B o:Nat) (b:Bool) (x:Int) (wd:Bool) (h4 h1:Int) (W:World) (CU:Hid (CutIs W a n c (some ⟨B,o,none⟩) 2 2 b)) (x0:0 ≤ x) (x1:x < 256)
    (RR:Hid (∀ W:World,Calls Tryd.prog 56 #[.int .u8 x] W fun e w'=>e=.returned (.tuple #[.bool wd,.int .i8 h4,.int .i8 h1,.bool true]) ∧ W=w'))
    (c0:W.cell? ⟨B,o,none⟩=some (.int .u8 x))
    (c1:W.cell? ⟨B,o + 1,none⟩=some (.int .u8 15)):
    Calls Tryd.prog 24 #[.slice a n c] W fun e w'=>e=.returned (.tuple #[.agg #[.bool false,.int .i8 0,.int .i8 0,.int .u16 0,.slice none 0 0],.bool false]) ∧ Below W.heap.size W w':=by
  have d00:=cell_b c0 (show Below W.heap.size W (((W.alloc (.cells #[.bool false,.int .i8 0,.int .i8 0,.int .u16 0,.slice none 0 0] 56)).alloc (.cells #[.bool false,.int .i8 0,.int .i8 0,.int .u16 0,.slice none 0 0] 56)).alloc (.cells #[.int .u8 102] 5)) from below_new (below_new (below_new (Below.refl _ _) _) _) _)
  have d01:=cell_b c0 (show Below W.heap.size W (((W.alloc (.cells #[.bool false,.int .i8 0,.int .i8 0,.int .u16 0,.slice none 0 0] 56)).alloc (.cells #[.bool wd,.int .i8 h4,.int .i8 h1,.int .u16 0,.slice none 0 0] 56)).alloc (.cells #[.int .u8 102] 5)) from below_new (below_new (below_new (Below.refl _ _) _) _) _)
  have d10:=cell_b c1 (show Below W.heap.size W (((W.alloc (.cells #[.bool false,.int .i8 0,.int .i8 0,.int .u16 0,.slice none 0 0] 56)).alloc (.cells #[.bool false,.int .i8 0,.int .i8 0,.int .u16 0,.slice none 0 0] 56)).alloc (.cells #[.int .u8 102] 5)) from below_new (below_new (below_new (Below.refl _ _) _) _) _)
  have d11:=cell_b c1 (show Below W.heap.size W (((W.alloc (.cells #[.bool false,.int .i8 0,.int .i8 0,.int .u16 0,.slice none 0 0] 56)).alloc (.cells #[.bool wd,.int .i8 h4,.int .i8 h1,.int .u16 0,.slice none 0 0] 56)).alloc (.cells #[.int .u8 102] 5)) from below_new (below_new (below_new (Below.refl _ _) _) _) _)
  go_enter Tryd.func24,Tryd.ntmps24
  go_wp2_with fail
  refine (cut_at CU.out).mono ?_
  rintro e w1 ⟨rfl,rfl⟩
  go_wp2_with fail
  refine (RR.out _).mono ?_
  rintro e w1 ⟨rfl,rfl⟩
  go_wp2_with fail
  go_region
  all_goals (
    go_wp2_with fail
    refine bodyPost_ret (v:=.tuple #[.agg #[.bool false,.int .i8 0,.int .i8 0,.int .u16 0,.slice none 0 0],.bool false]) (by simp [results,Tryd.results24,go_sem]) rfl ⟨rfl,?_⟩
    repeat (first | exact Below.refl _ _ | apply Below.drew | apply below_new))
set_option maxHeartbeats 4000000 in
theorem find_11n (a:Option Addr) (n c c' B o:Nat) (b:Bool) (x:Int) (wd:Bool) (h4 h1:Int) (W:World) (CU:Hid (CutIs W a n c (some ⟨B,o,none⟩) 2 c' b)) (h3:c' ≤ 9223372036854775807) (hc:2 < c') (x0:0 ≤ x) (x1:x < 256)
    (RR:Hid (∀ W:World,Calls Tryd.prog 56 #[.int .u8 x] W fun e w'=>e=.returned (.tuple #[.bool wd,.int .i8 h4,.int .i8 h1,.bool true]) ∧ W=w'))
    (c0:W.cell? ⟨B,o,none⟩=some (.int .u8 x))
    (c1:W.cell? ⟨B,o + 1,none⟩=some (.int .u8 15)):
    Calls Tryd.prog 24 #[.slice a n c] W fun e w'=>e=.returned (.tuple #[.agg #[.bool false,.int .i8 0,.int .i8 0,.int .u16 0,.slice none 0 0],.bool false]) ∧ Below W.heap.size W w':=by
  have d00:=cell_b c0 (show Below W.heap.size W (((W.alloc (.cells #[.bool false,.int .i8 0,.int .i8 0,.int .u16 0,.slice none 0 0] 56)).alloc (.cells #[.bool false,.int .i8 0,.int .i8 0,.int .u16 0,.slice none 0 0] 56)).alloc (.cells #[.int .u8 102] 5)) from below_new (below_new (below_new (Below.refl _ _) _) _) _)
  have d01:=cell_b c0 (show Below W.heap.size W (((W.alloc (.cells #[.bool false,.int .i8 0,.int .i8 0,.int .u16 0,.slice none 0 0] 56)).alloc (.cells #[.bool wd,.int .i8 h4,.int .i8 h1,.int .u16 0,.slice none 0 0] 56)).alloc (.cells #[.int .u8 102] 5)) from below_new (below_new (below_new (Below.refl _ _) _) _) _)
  have d10:=cell_b c1 (show Below W.heap.size W (((W.alloc (.cells #[.bool false,.int .i8 0,.int .i8 0,.int .u16 0,.slice none 0 0] 56)).alloc (.cells #[.bool false,.int .i8 0,.int .i8 0,.int .u16 0,.slice none 0 0] 56)).alloc (.cells #[.int .u8 102] 5)) from below_new (below_new (below_new (Below.refl _ _) _) _) _)
  have d11:=cell_b c1 (show Below W.heap.size W (((W.alloc (.cells #[.bool false,.int .i8 0,.int .i8 0,.int .u16 0,.slice none 0 0] 56)).alloc (.cells #[.bool wd,.int .i8 h4,.int .i8 h1,.int .u16 0,.slice none 0 0] 56)).alloc (.cells #[.int .u8 102] 5)) from below_new (below_new (below_new (Below.refl _ _) _) _) _)
  go_enter Tryd.func24,Tryd.ntmps24
  go_wp2_with fail
  refine (cut_at CU.out).mono ?_
  rintro e w1 ⟨rfl,rfl⟩
  go_wp2_with fail
  refine (RR.out _).mono ?_
  rintro e w1 ⟨rfl,rfl⟩
  go_wp2_with fail
  go_region
  all_goals (
    go_wp2_with fail
    refine bodyPost_ret (v:=.tuple #[.agg #[.bool false,.int .i8 0,.int .i8 0,.int .u16 0,.slice none 0 0],.bool false]) (by simp [results,Tryd.results24,go_sem]) rfl ⟨rfl,?_⟩
    repeat (first | exact Below.refl _ _ | apply Below.drew | apply below_new))
set_option maxHeartbeats 4000000 in
theorem find_11 (a:Option Addr) (n c n' c' B o:Nat) (b:Bool) (x y:Int) (wd:Bool) (h4 h1:Int) (W:World) (CU:Hid (CutIs W a n c (some ⟨B,o,none⟩) n' c' b)) (h1':3 ≤ n') (h2:n' ≤ c') (h3:c' ≤ 9223372036854775807) (hc:3 < c') (x0:0 ≤ x) (x1:x < 256) (y0:0 ≤ y) (y1:y < 256)
    (RR:Hid (∀ W:World,Calls Tryd.prog 56 #[.int .u8 x] W fun e w'=>e=.returned (.tuple #[.bool wd,.int .i8 h4,.int .i8 h1,.bool true]) ∧ W=w'))
    (c0:W.cell? ⟨B,o,none⟩=some (.int .u8 x))
    (c1:W.cell? ⟨B,o + 1,none⟩=some (.int .u8 15))
    (c2:W.cell? ⟨B,o + 1 + 1,none⟩=some (.int .u8 y)):
    Calls Tryd.prog 24 #[.slice a n c] W fun e w'=>e=.returned (.tuple #[.agg #[.bool wd,.int .i8 h4,.int .i8 h1,.int .u16 (3840 + y),.slice (some ⟨B,o + 1 + 1 + 1,none⟩) (n' - 1 - 1 - 1) (c' - 1 - 1 - 1)],.bool true]) ∧ Below W.heap.size W w':=by
  have O:=(or16 y0 y1).1
  have d00:=cell_b c0 (show Below W.heap.size W (((W.alloc (.cells #[.bool false,.int .i8 0,.int .i8 0,.int .u16 0,.slice none 0 0] 56)).alloc (.cells #[.bool false,.int .i8 0,.int .i8 0,.int .u16 0,.slice none 0 0] 56)).alloc (.cells #[.int .u8 102] 5)) from below_new (below_new (below_new (Below.refl _ _) _) _) _)
  have d01:=cell_b c0 (show Below W.heap.size W (((W.alloc (.cells #[.bool false,.int .i8 0,.int .i8 0,.int .u16 0,.slice none 0 0] 56)).alloc (.cells #[.bool wd,.int .i8 h4,.int .i8 h1,.int .u16 0,.slice none 0 0] 56)).alloc (.cells #[.int .u8 102] 5)) from below_new (below_new (below_new (Below.refl _ _) _) _) _)
  have d02:=cell_b c0 (show Below W.heap.size W (((W.alloc (.cells #[.bool false,.int .i8 0,.int .i8 0,.int .u16 0,.slice none 0 0] 56)).alloc (.cells #[.bool wd,.int .i8 h4,.int .i8 h1,.int .u16 3840,.slice none 0 0] 56)).alloc (.cells #[.int .u8 102] 5)) from below_new (below_new (below_new (Below.refl _ _) _) _) _)
  have d10:=cell_b c1 (show Below W.heap.size W (((W.alloc (.cells #[.bool false,.int .i8 0,.int .i8 0,.int .u16 0,.slice none 0 0] 56)).alloc (.cells #[.bool false,.int .i8 0,.int .i8 0,.int .u16 0,.slice none 0 0] 56)).alloc (.cells #[.int .u8 102] 5)) from below_new (below_new (below_new (Below.refl _ _) _) _) _)
  have d11:=cell_b c1 (show Below W.heap.size W (((W.alloc (.cells #[.bool false,.int .i8 0,.int .i8 0,.int .u16 0,.slice none 0 0] 56)).alloc (.cells #[.bool wd,.int .i8 h4,.int .i8 h1,.int .u16 0,.slice none 0 0] 56)).alloc (.cells #[.int .u8 102] 5)) from below_new (below_new (below_new (Below.refl _ _) _) _) _)
  have d12:=cell_b c1 (show Below W.heap.size W (((W.alloc (.cells #[.bool false,.int .i8 0,.int .i8 0,.int .u16 0,.slice none 0 0] 56)).alloc (.cells #[.bool wd,.int .i8 h4,.int .i8 h1,.int .u16 3840,.slice none 0 0] 56)).alloc (.cells #[.int .u8 102] 5)) from below_new (below_new (below_new (Below.refl _ _) _) _) _)
  have d20:=cell_b c2 (show Below W.heap.size W (((W.alloc (.cells #[.bool false,.int .i8 0,.int .i8 0,.int .u16 0,.slice none 0 0] 56)).alloc (.cells #[.bool false,.int .i8 0,.int .i8 0,.int .u16 0,.slice none 0 0] 56)).alloc (.cells #[.int .u8 102] 5)) from below_new (below_new (below_new (Below.refl _ _) _) _) _)
  have d21:=cell_b c2 (show Below W.heap.size W (((W.alloc (.cells #[.bool false,.int .i8 0,.int .i8 0,.int .u16 0,.slice none 0 0] 56)).alloc (.cells #[.bool wd,.int .i8 h4,.int .i8 h1,.int .u16 0,.slice none 0 0] 56)).alloc (.cells #[.int .u8 102] 5)) from below_new (below_new (below_new (Below.refl _ _) _) _) _)
  have d22:=cell_b c2 (show Below W.heap.size W (((W.alloc (.cells #[.bool false,.int .i8 0,.int .i8 0,.int .u16 0,.slice none 0 0] 56)).alloc (.cells #[.bool wd,.int .i8 h4,.int .i8 h1,.int .u16 3840,.slice none 0 0] 56)).alloc (.cells #[.int .u8 102] 5)) from below_new (below_new (below_new (Below.refl _ _) _) _) _)
  go_enter Tryd.func24,Tryd.ntmps24
  go_wp2_with fail
  refine (cut_at CU.out).mono ?_
  rintro e w1 ⟨rfl,rfl⟩
  go_wp2_with fail
  refine (RR.out _).mono ?_
  rintro e w1 ⟨rfl,rfl⟩
  go_wp2_with fail
  go_region
  all_goals (
    go_wp2_with fail
    go_region
    all_goals (
      go_wp2_with fail
      refine bodyPost_ret (v:=.tuple #[.agg #[.bool wd,.int .i8 h4,.int .i8 h1,.int .u16 (3840 + y),.slice (some ⟨B,o + 1 + 1 + 1,none⟩) (n' - 1 - 1 - 1) (c' - 1 - 1 - 1)],.bool true]) (by simp [results,Tryd.results24,go_sem]) rfl ⟨rfl,?_⟩
      repeat (first | exact Below.refl _ _ | apply Below.drew | apply below_new)))
set_option maxHeartbeats 4000000 in
theorem find_11e (a:Option Addr) (n c B o:Nat) (b:Bool) (x y:Int) (wd:Bool) (h4 h1:Int) (W:World) (CU:Hid (CutIs W a n c (some ⟨B,o,none⟩) 3 3 b)) (x0:0 ≤ x) (x1:x < 256) (y0:0 ≤ y) (y1:y < 256)
    (RR:Hid (∀ W:World,Calls Tryd.prog 56 #[.int .u8 x] W fun e w'=>e=.returned (.tuple #[.bool wd,.int .i8 h4,.int .i8 h1,.bool true]) ∧ W=w'))
    (c0:W.cell? ⟨B,o,none⟩=some (.int .u8 x))
    (c1:W.cell? ⟨B,o + 1,none⟩=some (.int .u8 15))
    (c2:W.cell? ⟨B,o + 1 + 1,none⟩=some (.int .u8 y)):
    Calls Tryd.prog 24 #[.slice a n c] W fun e w'=>e=.returned (.tuple #[.agg #[.bool wd,.int .i8 h4,.int .i8 h1,.int .u16 (3840 + y),.slice (some ⟨B,o + 1 + 1,none⟩) 0 0],.bool true]) ∧ Below W.heap.size W w':=by
  have O:=(or16 y0 y1).1
  have d00:=cell_b c0 (show Below W.heap.size W (((W.alloc (.cells #[.bool false,.int .i8 0,.int .i8 0,.int .u16 0,.slice none 0 0] 56)).alloc (.cells #[.bool false,.int .i8 0,.int .i8 0,.int .u16 0,.slice none 0 0] 56)).alloc (.cells #[.int .u8 102] 5)) from below_new (below_new (below_new (Below.refl _ _) _) _) _)
  have d01:=cell_b c0 (show Below W.heap.size W (((W.alloc (.cells #[.bool false,.int .i8 0,.int .i8 0,.int .u16 0,.slice none 0 0] 56)).alloc (.cells #[.bool wd,.int .i8 h4,.int .i8 h1,.int .u16 0,.slice none 0 0] 56)).alloc (.cells #[.int .u8 102] 5)) from below_new (below_new (below_new (Below.refl _ _) _) _) _)
  have d02:=cell_b c0 (show Below W.heap.size W (((W.alloc (.cells #[.bool false,.int .i8 0,.int .i8 0,.int .u16 0,.slice none 0 0] 56)).alloc (.cells #[.bool wd,.int .i8 h4,.int .i8 h1,.int .u16 3840,.slice none 0 0] 56)).alloc (.cells #[.int .u8 102] 5)) from below_new (below_new (below_new (Below.refl _ _) _) _) _)
  have d10:=cell_b c1 (show Below W.heap.size W (((W.alloc (.cells #[.bool false,.int .i8 0,.int .i8 0,.int .u16 0,.slice none 0 0] 56)).alloc (.cells #[.bool false,.int .i8 0,.int .i8 0,.int .u16 0,.slice none 0 0] 56)).alloc (.cells #[.int .u8 102] 5)) from below_new (below_new (below_new (Below.refl _ _) _) _) _)
  have d11:=cell_b c1 (show Below W.heap.size W (((W.alloc (.cells #[.bool false,.int .i8 0,.int .i8 0,.int .u16 0,.slice none 0 0] 56)).alloc (.cells #[.bool wd,.int .i8 h4,.int .i8 h1,.int .u16 0,.slice none 0 0] 56)).alloc (.cells #[.int .u8 102] 5)) from below_new (below_new (below_new (Below.refl _ _) _) _) _)
  have d12:=cell_b c1 (show Below W.heap.size W (((W.alloc (.cells #[.bool false,.int .i8 0,.int .i8 0,.int .u16 0,.slice none 0 0] 56)).alloc (.cells #[.bool wd,.int .i8 h4,.int .i8 h1,.int .u16 3840,.slice none 0 0] 56)).alloc (.cells #[.int .u8 102] 5)) from below_new (below_new (below_new (Below.refl _ _) _) _) _)
  have d20:=cell_b c2 (show Below W.heap.size W (((W.alloc (.cells #[.bool false,.int .i8 0,.int .i8 0,.int .u16 0,.slice none 0 0] 56)).alloc (.cells #[.bool false,.int .i8 0,.int .i8 0,.int .u16 0,.slice none 0 0] 56)).alloc (.cells #[.int .u8 102] 5)) from below_new (below_new (below_new (Below.refl _ _) _) _) _)
  have d21:=cell_b c2 (show Below W.heap.size W (((W.alloc (.cells #[.bool false,.int .i8 0,.int .i8 0,.int .u16 0,.slice none 0 0] 56)).alloc (.cells #[.bool wd,.int .i8 h4,.int .i8 h1,.int .u16 0,.slice none 0 0] 56)).alloc (.cells #[.int .u8 102] 5)) from below_new (below_new (below_new (Below.refl _ _) _) _) _)
  have d22:=cell_b c2 (show Below W.heap.size W (((W.alloc (.cells #[.bool false,.int .i8 0,.int .i8 0,.int .u16 0,.slice none 0 0] 56)).alloc (.cells #[.bool wd,.int .i8 h4,.int .i8 h1,.int .u16 3840,.slice none 0 0] 56)).alloc (.cells #[.int .u8 102] 5)) from below_new (below_new (below_new (Below.refl _ _) _) _) _)
  go_enter Tryd.func24,Tryd.ntmps24
  go_wp2_with fail
  refine (cut_at CU.out).mono ?_
  rintro e w1 ⟨rfl,rfl⟩
  go_wp2_with fail
  refine (RR.out _).mono ?_
  rintro e w1 ⟨rfl,rfl⟩
  go_wp2_with fail
  go_region
  all_goals (
    go_wp2_with fail
    go_region
    all_goals (
      go_wp2_with fail
      refine bodyPost_ret (v:=.tuple #[.agg #[.bool wd,.int .i8 h4,.int .i8 h1,.int .u16 (3840 + y),.slice (some ⟨B,o + 1 + 1,none⟩) 0 0],.bool true]) (by simp [results,Tryd.results24,go_sem]) rfl ⟨rfl,?_⟩
      repeat (first | exact Below.refl _ _ | apply Below.drew | apply below_new)))
end Go.Proofs.YtjhedldplmhmjaaDoor.Mrm
namespace Go.Proofs.YtjhedldplmhmjaaDoor.Mrm
open Go Go.RowKit
set_option linter.unusedVariables false
set_option linter.unusedSimpArgs false
set_option linter.unnecessarySimpa false
set_option maxRecDepth 100000
theorem findR_rex {x:Int} (l:List Int) (h:rexB x=true):findR (x :: l)=endF (wB x,hiI x 4,hiI x 1,l) (stripC l):=by
  unfold findR stripQ
  rw [if_pos (show rexB ((x :: l).headD 0)=true from h)]
  rfl
theorem findR_no {x:Int} (l:List Int) (h:rexB x=false):findR (x :: l)=endF (false,0,0,x :: l) (stripC (x :: l)):=by
  unfold findR stripQ
  rw [if_neg (show ¬ rexB ((x :: l).headD 0)=true from by rw [show rexB ((x :: l).headD 0)=false from h];decide)]
theorem stripC_15 (l:List Int):stripC (15 :: l)=(3840,l):=rfl
theorem stripC_no {z:Int} (l:List Int) (h:¬ z=15):stripC (z :: l)=(0,z :: l):=if_neg h
theorem stripC_nil:stripC []=(0,[]):=rfl
theorem endF_some (r:Bool × Int × Int × List Int) (v n:Int) (l:List Int):endF r (v,n :: l)=some ⟨r.1,r.2.1,r.2.2.1,v + n,l⟩:=rfl
theorem endF_none (r:Bool × Int × Int × List Int) (v:Int):endF r (v,[])=none:=rfl
theorem found_at {a:Option Addr} {f:Fd} {w:World} {B o n c:Nat} (h:BytesAt w (some ⟨B,o,none⟩) n c f.bh) (ha:∃ p0,a=some ⟨B,p0,none⟩):FoundAt a (some f) w (.slice (some ⟨B,o,none⟩) n c):=fun f' e=>by
  injection e with e
  subst e
  exact ⟨B,o,n,c,rfl,h,ha⟩
def FindPost (W:World) (a:Option Addr) (o:Option Fd) (e:Ending) (w':World):Prop:=∃ s,e=.returned (foundV o s) ∧ FoundAt a o w' s ∧ Below W.heap.size W w'
theorem find_no' {W:World} {a:Option Addr} {o:Option Fd} {e:Ending} {w':World} (ho:o=none) (h:e=.returned (.tuple #[.agg #[.bool false,.int .i8 0,.int .i8 0,.int .u16 0,.slice none 0 0],.bool false]) ∧ Below W.heap.size W w'):FindPost W a o e w':=by
  subst ho
  exact ⟨.slice none 0 0,h.1,(fun f hf=>by cases hf),h.2⟩
theorem find_yes' {W:World} {a:Option Addr} {o:Option Fd} {e:Ending} {w':World} {wd:Bool} {h4 h1 va:Int} {l:List Int} {B p n c:Nat} (ho:o=some ⟨wd,h4,h1,va,l⟩) (hb:BytesAt W (some ⟨B,p,none⟩) n c l) (ha:∃ p0,a=some ⟨B,p0,none⟩) (h:e=.returned (.tuple #[.agg #[.bool wd,.int .i8 h4,.int .i8 h1,.int .u16 va,.slice (some ⟨B,p,none⟩) n c],.bool true]) ∧ Below W.heap.size W w'):FindPost W a o e w':=by
  subst ho
  exact ⟨_,h.1,found_at (hb.below h.2) ha,h.2⟩
theorem rr_yes {x:Int} (x0:0 ≤ x) (x1:x < 256) (h:rexB x=true) (W:World):Calls Tryd.prog 56 #[.int .u8 x] W fun e w'=>e=.returned (.tuple #[.bool (wB x),.int .i8 (hiI x 4),.int .i8 (hiI x 1),.bool true]) ∧ W=w':=by
  have q:=readrex_n x x0 x1 W
  unfold rrV at q
  rw [h] at q
  exact q
theorem rr_no {x:Int} (x0:0 ≤ x) (x1:x < 256) (h:rexB x=false) (W:World):Calls Tryd.prog 56 #[.int .u8 x] W fun e w'=>e=.returned (.tuple #[.bool false,.int .i8 0,.int .i8 0,.bool false]) ∧ W=w':=by
  have q:=readrex_n x x0 x1 W
  unfold rrV at q
  rw [h] at q
  exact q
theorem at_lens {W:World} {a:Option Addr} {n c:Nat} {zs:List Int} (h:BytesAt W a n c zs):n=zs.length ∧ n ≤ c ∧ c ≤ 9223372036854775807:=⟨h.size,h.le,h.fit⟩
set_option maxHeartbeats 2000000 in
theorem find_n (a:Option Addr) (n c:Nat) (zs:List Int) (W:World) (h:BytesAt W a n c zs):Calls Tryd.prog 24 #[.slice a n c] W fun e w'=>FindPost W a (findP zs) e w':=by
  obtain ⟨a1,n1,c1,b,H,HA,CU0⟩:=cut_x a n c zs W h
  have CU:Hid (CutIs W a n c a1 n1 c1 b):=Lib.hid CU0
  clear CU0
  unfold findP
  generalize (stripH zs).2=l at *
  obtain ⟨hl,hk,h3⟩:=at_lens H
  cases l with
  | nil=>
    obtain rfl:n1=0:=hl
    exact (find_nil a a1 n c c1 b W CU).mono fun e w' q=>find_no' rfl q
  | cons x l=>
    simp only [List.length_cons] at hl
    obtain ⟨B,o,rfl,c0,x0,x1,_,_,_⟩:=at_head H
    have ha:=HA B o rfl
    cases hx:rexB x with
    | true=>
      have RR:=Lib.hid (rr_yes x0 x1 hx)
      have F:=findR_rex l hx
      cases l with
      | nil=>
        simp only [List.length_nil] at hl
        obtain rfl:n1=1:=hl
        rw [stripC_nil,endF_none] at F
        by_cases hc:1 < c1
        · exact (find_1n a n c c1 B o b x _ _ _ W CU h3 hc x0 x1 RR c0).mono fun e w' q=>find_no' F q
        · obtain rfl:c1=1:=by omega
          exact (find_1x a n c B o b x _ _ _ W CU x0 x1 RR c0).mono fun e w' q=>find_no' F q
      | cons z l=>
        simp only [List.length_cons] at hl
        have H1:=at_next H (by omega)
        obtain ⟨_,_,e1,d1,z0,z1,_,_,_⟩:=at_head H1
        injection e1 with e1
        injection e1 with e1 e2
        subst e1 e2
        by_cases hz:z=15
        · subst hz
          rw [stripC_15] at F
          cases l with
          | nil=>
            simp only [List.length_nil] at hl
            obtain rfl:n1=2:=hl
            rw [endF_none] at F
            by_cases hc:2 < c1
            · exact (find_11n a n c c1 B o b x _ _ _ W CU h3 hc x0 x1 RR c0 d1).mono fun e w' q=>find_no' F q
            · obtain rfl:c1=2:=by omega
              exact (find_11x a n c B o b x _ _ _ W CU x0 x1 RR c0 d1).mono fun e w' q=>find_no' F q
          | cons y l=>
            simp only [List.length_cons] at hl
            rw [endF_some] at F
            have H2:=at_next H1 (by omega)
            obtain ⟨_,_,e1,d2,y0,y1,_,_,_⟩:=at_head H2
            injection e1 with e1
            injection e1 with e1 e2
            subst e1 e2
            by_cases hc:3 < c1
            · have H3:=at_next H2 (by omega)
              exact (find_11 a n c n1 c1 B o b x y _ _ _ W CU (by omega) hk h3 hc x0 x1 y0 y1 RR c0 d1 d2).mono fun e w' q=>find_yes' F H3 ha q
            · obtain ⟨q1,q2,rfl⟩:=at_end H2 (by omega)
              obtain rfl:n1=3:=by omega
              obtain rfl:c1=3:=by omega
              exact (find_11e a n c B o b x y _ _ _ W CU x0 x1 y0 y1 RR c0 d1 d2).mono fun e w' q=>find_yes' F (at_empty W B (o + 1 + 1) 0 (by decide)) ha q
        · rw [stripC_no l hz,endF_some,Int.zero_add] at F
          by_cases hc:2 < c1
          · have H2:=at_next H1 (by omega)
            exact (find_10 a n c n1 c1 B o b x z _ _ _ W CU (by omega) hk h3 hc x0 x1 z0 z1 hz RR c0 d1).mono fun e w' q=>find_yes' F H2 ha q
          · obtain ⟨q1,q2,rfl⟩:=at_end H1 (by omega)
            obtain rfl:n1=2:=by omega
            obtain rfl:c1=2:=by omega
            exact (find_10e a n c B o b x z _ _ _ W CU x0 x1 z0 z1 hz RR c0 d1).mono fun e w' q=>find_yes' F (at_empty W B (o + 1) 0 (by decide)) ha q
    | false=>
      have RR:=Lib.hid (rr_no x0 x1 hx)
      have F:=findR_no l hx
      by_cases hz:x=15
      · subst hz
        rw [stripC_15] at F
        cases l with
        | nil=>
          simp only [List.length_nil] at hl
          obtain rfl:n1=1:=hl
          rw [endF_none] at F
          by_cases hc:1 < c1
          · exact (find_01n a n c c1 B o b W CU h3 hc RR c0).mono fun e w' q=>find_no' F q
          · obtain rfl:c1=1:=by omega
            exact (find_01x a n c B o b W CU RR c0).mono fun e w' q=>find_no' F q
        | cons y l=>
          simp only [List.length_cons] at hl
          rw [endF_some] at F
          have H1:=at_next H (by omega)
          obtain ⟨_,_,e1,d1,y0,y1,_,_,_⟩:=at_head H1
          injection e1 with e1
          injection e1 with e1 e2
          subst e1 e2
          by_cases hc:2 < c1
          · have H2:=at_next H1 (by omega)
            exact (find_01 a n c n1 c1 B o b y W CU (by omega) hk h3 hc y0 y1 RR c0 d1).mono fun e w' q=>find_yes' F H2 ha q
          · obtain ⟨q1,q2,rfl⟩:=at_end H1 (by omega)
            obtain rfl:n1=2:=by omega
            obtain rfl:c1=2:=by omega
            exact (find_01e a n c B o b y W CU y0 y1 RR c0 d1).mono fun e w' q=>find_yes' F (at_empty W B (o + 1) 0 (by decide)) ha q
      · rw [stripC_no l hz,endF_some,Int.zero_add] at F
        by_cases hc:1 < c1
        · have H1:=at_next H (by omega)
          exact (find_00 a n c n1 c1 B o b x W CU (by omega) hk h3 hc x0 x1 hz RR c0).mono fun e w' q=>find_yes' F H1 ha q
        · obtain ⟨q1,q2,rfl⟩:=at_end H (by omega)
          obtain rfl:n1=1:=by omega
          obtain rfl:c1=1:=by omega
          exact (find_00e a n c B o b x W CU x0 x1 hz RR c0).mono fun e w' q=>find_yes' F (at_empty W B o 0 (by decide)) ha q
end Go.Proofs.YtjhedldplmhmjaaDoor.Mrm
