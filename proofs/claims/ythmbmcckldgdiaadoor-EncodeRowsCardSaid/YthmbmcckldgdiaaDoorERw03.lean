import Derived.Test.YthmbmcckldgdiaaDoorERw02
set_option linter.unusedVariables false
set_option linter.unusedSimpArgs false
set_option linter.unnecessarySimpa false
namespace Go.Proofs.YthmbmcckldgdiaaDoor.Mrm
open Go.RowKit
set_option linter.unusedVariables false
set_option linter.unnecessarySimpa false
set_option linter.unusedSimpArgs false
set_option maxRecDepth 100000
theorem signed_nil (W:World):Calls Tryd.prog 72 #[.slice none 0 0] W fun e w'=>e=.returned (.int .i64 0) ∧ W=w':=by
  have U:=Lib.hid (fun W=>unused_n 0 (by omega) W)
  go_enter Tryd.func72,Tryd.ntmps72
  go_wp2
  go_rounds 1
  go_ret
  exact ⟨rfl,rfl⟩
theorem signed_zero (x:Addr) (cap:Nat) (hm:cap ≤ 9223372036854775807) (W:World):Calls Tryd.prog 72 #[.slice (some x) 0 cap] W fun e w'=>e=.returned (.int .i64 0) ∧ W=w':=by
  have U:=Lib.hid (fun W=>unused_n 0 (by omega) W)
  go_enter Tryd.func72,Tryd.ntmps72
  go_wp2
  go_rounds 1
  go_ret
  exact ⟨rfl,rfl⟩
theorem at_cells {W:World} {a:Option Addr} {len cap:Nat} {zs:List Int} (h:BytesAt W a len cap zs) (h0:0 < len):∃ b o,a=some ⟨b,o,none⟩ ∧ (∀ i,i < len → W.cell? ⟨b,o + i,none⟩=some (.int .u8 (zs.getD i 0))) ∧ ∀ i,i < len → 0 ≤ zs.getD i 0 ∧ zs.getD i 0 < 256:=by
  obtain ⟨b,o,e,hc⟩:=h.here h0
  have hz:∀ i,i < len → zs[i]?=some (zs.getD i 0):=fun i hi=>by
    rw [List.getD_eq_getElem?_getD,List.getElem?_eq_getElem (by rw [← h.size];exact hi)];rfl
  exact ⟨b,o,e,fun i hi=>hc i _ (hz i hi),fun i hi=>h.ok _ (List.mem_of_getElem? (hz i hi))⟩
theorem sgn_few {zs:List Int} {n:Nat} (h:n=zs.length) (hn:n ≤ 8):sgn zs=sgV n (getI (fun i=>zs.getD i 0) n):=by
  unfold sgn cntN
  rw [← h,Nat.min_eq_left hn]
theorem sgn_many {zs:List Int} {n:Nat} (h:n=zs.length) (hn:8 < n):sgn zs=sgV 8 (getI (fun i=>zs.getD i 0) 8):=by
  unfold sgn cntN
  rw [← h,Nat.min_eq_right (by omega)]
theorem sgn_none {zs:List Int} (h:0=zs.length):sgn zs=0:=sgn_few h (by omega)
theorem signed_n (a:Option Addr) (len cap:Nat) (zs:List Int) (W:World) (h:BytesAt W a len cap zs):Calls Tryd.prog 72 #[.slice a len cap] W fun e w'=>e=.returned (.int .i64 (sgn zs)) ∧ W=w':=by
  by_cases h0:0 < len
  · obtain ⟨b,o,rfl,hc,hb⟩:=at_cells h h0
    by_cases h8:len ≤ 8
    · rw [sgn_few h.size h8]
      exact signed_few b o len cap _ W h8 h0 h.le h.fit hb hc
    · rw [sgn_many h.size (by omega)]
      exact signed_many b o len cap _ W (by omega) h.le h.fit (fun i hi=>hb i (by omega)) (fun i hi=>hc i (by omega))
  · obtain rfl:len=0:=by omega
    rw [sgn_none h.size]
    cases a with
    | none=>
      have:=h.nilc rfl
      subst this
      exact signed_nil W
    | some x=>exact signed_zero x cap h.fit W
end Go.Proofs.YthmbmcckldgdiaaDoor.Mrm
namespace Go.Proofs.YthmbmcckldgdiaaDoor.Mrm
open Go.RowKit
set_option linter.unusedVariables false
set_option linter.unnecessarySimpa false
set_option linter.unusedSimpArgs false
set_option maxRecDepth 100000
theorem quiet3 {P:Program} {f:FuncId} {args:Array Value} {w:World} {n m:Nat} {v:Value} (h:Calls P f args (w.drewN (n + m)) fun e w'=>e=.returned v ∧ w.drewN (n + m)=w'):Calls P f args (w.drewN (n + m)) fun e w''=>e=.returned v ∧ ∃ k,w''=w.drewN (n + k):=
  h.mono fun _ _ ⟨he,hm⟩=>⟨he,m,hm.symm⟩
theorem equal_n (a1 a2:Option Addr) (n1 c1 n2 c2:Nat) (zs ys:List Int) (W:World) (h1:BytesAt W a1 n1 c1 zs) (h2:BytesAt W a2 n2 c2 ys):
    Calls Tryd.prog 46 #[.slice a1 n1 c1,.slice a2 n2 c2] W fun e w'=>e=.returned (.bool (decide (zs=ys))) ∧ W=w':=by
  have q1:=conv_bytes h1
  have q2:=conv_bytes h2
  by_cases e:zs=ys
  · rw [decide_eq_true e]
    subst e
    clear h1 h2
    generalize strOfNums zs=s at *
    go_enter Tryd.func46,Tryd.ntmps46
    go_wp2_with fail
    go_ret
    exact ⟨rfl,rfl⟩
  · rw [decide_eq_false e]
    have e0:((strOfNums zs).toList == (strOfNums ys).toList)=false:=by
      rw [beq_eq_false_iff_ne]
      exact fun h=>e (str_inj h1.ok h2.ok (by
        rw [ByteArray.toList_eq,ByteArray.toList_eq] at h
        exact ByteArray.ext (Array.toList_inj.1 h)))
    clear h1 h2 e
    generalize strOfNums zs=s at *
    generalize strOfNums ys=t at *
    go_enter Tryd.func46,Tryd.ntmps46
    go_wp2_with fail
    go_ret
    exact ⟨rfl,rfl⟩
theorem at_empty (W:World) (B o c:Nat) (hc:c ≤ 9223372036854775807):BytesAt W (some ⟨B,o,none⟩) 0 c []:=⟨rfl,Nat.zero_le _,hc,fun h=>absurd h (by decide),fun z hz=>(by cases hz),fun h=>by cases h⟩
theorem at_one (W:World) (B o c:Nat) (z:Int) (h0:0 ≤ z ∧ z < 256) (h:W.cell? ⟨B,o,none⟩=some (.int .u8 z)) (h1:1 ≤ c) (hc:c ≤ 9223372036854775807):BytesAt W (some ⟨B,o,none⟩) 1 c [z]:=
  ⟨rfl,h1,hc,fun _=>⟨B,o,rfl,fun j y hy=>by
    have hj:j < 1:=(List.getElem?_eq_some_iff.1 hy).1
    obtain rfl:j=0:=by omega
    obtain rfl:z=y:=by simpa using hy
    exact h⟩,one_ok h0,fun h=>by cases h⟩
theorem prefix_nil (B o n c:Nat) (W:World) (hn:n ≤ c) (hc:c ≤ 9223372036854775807):
    Calls Tryd.prog 15 #[.slice (some ⟨B,o,none⟩) n c,.slice none 0 0] W fun e w'=>e=.returned (.bool true) ∧ W=w':=by
  have E:=Lib.hid (fun W=>equal_n (some ⟨B,o,none⟩) none 0 c 0 0 [] [] W (at_empty W B o c hc) (BytesAt.nil W))
  rw [decide_eq_true rfl] at E
  go_enter Tryd.func15,Tryd.ntmps15
  go_wp2_with fail
  refine (E.out _).mono ?_
  rintro e w1 ⟨rfl,rfl⟩
  go_wp2_with fail
  go_ret
  exact ⟨rfl,rfl⟩
theorem prefix_none (B o c g:Nat) (W:World) (hc:c ≤ 9223372036854775807):
    Calls Tryd.prog 15 #[.slice (some ⟨B,o,none⟩) 0 c,.slice (some ⟨g,0,none⟩) 1 1] W fun e w'=>e=.returned (.bool false) ∧ W=w':=by
  go_enter Tryd.func15,Tryd.ntmps15
  go_wp2_with fail
  go_ret
  exact ⟨rfl,rfl⟩
theorem prefix_one (B o n c g:Nat) (z p:Int) (W:World) (h1:1 ≤ n) (hn:n ≤ c) (hc:c ≤ 9223372036854775807) (hz:0 ≤ z ∧ z < 256) (hp:0 ≤ p ∧ p < 256) (cz:W.cell? ⟨B,o,none⟩=some (.int .u8 z)) (cp:W.cell? ⟨g,0,none⟩=some (.int .u8 p)):
    Calls Tryd.prog 15 #[.slice (some ⟨B,o,none⟩) n c,.slice (some ⟨g,0,none⟩) 1 1] W fun e w'=>e=.returned (.bool (decide (z=p))) ∧ W=w':=by
  have E:=Lib.hid (equal_n (some ⟨B,o,none⟩) (some ⟨g,0,none⟩) 1 c 1 1 [z] [p] W (at_one W B o c z hz cz (by omega) hc) (at_one W g 0 1 p hp cp (by omega) (by omega)))
  rw [show decide ([z]=[p])=decide (z=p) from decide_eq_decide.2 (by simp)] at E
  have h1c:1 ≤ c:=by omega
  clear cz cp hz hp
  go_enter Tryd.func15,Tryd.ntmps15
  go_wp2_with fail
  refine E.out.mono ?_
  rintro e w1 ⟨rfl,rfl⟩
  go_wp2_with fail
  go_ret
  exact ⟨rfl,rfl⟩
theorem cut_nil (B o n c:Nat) (W:World) (h0:0 < c) (hn:n ≤ c) (hc:c ≤ 9223372036854775807):
    Calls Tryd.prog 69 #[.slice (some ⟨B,o,none⟩) n c,.slice none 0 0] W fun e w'=>e=.returned (.tuple #[.slice (some ⟨B,o,none⟩) n c,.bool true]) ∧ W=w':=by
  have E:=Lib.hid (fun W=>prefix_nil B o n c W hn hc)
  go_enter Tryd.func69,Tryd.ntmps69
  go_wp2_with fail
  refine (E.out _).mono ?_
  rintro e w1 ⟨rfl,rfl⟩
  go_wp2_with fail
  go_ret2
  exact ⟨rfl,rfl⟩
theorem cut_nil0 (B o:Nat) (W:World):
    Calls Tryd.prog 69 #[.slice (some ⟨B,o,none⟩) 0 0,.slice none 0 0] W fun e w'=>e=.returned (.tuple #[.slice (some ⟨B,o,none⟩) 0 0,.bool true]) ∧ W=w':=by
  have E:=Lib.hid (fun W=>prefix_nil B o 0 0 W (by omega) (by omega))
  go_enter Tryd.func69,Tryd.ntmps69
  go_wp2_with fail
  refine (E.out _).mono ?_
  rintro e w1 ⟨rfl,rfl⟩
  go_wp2_with fail
  go_ret2
  exact ⟨rfl,rfl⟩
theorem cut_none (B o c g:Nat) (W:World) (hc:c ≤ 9223372036854775807):
    Calls Tryd.prog 69 #[.slice (some ⟨B,o,none⟩) 0 c,.slice (some ⟨g,0,none⟩) 1 1] W fun e w'=>e=.returned (.tuple #[.slice (some ⟨B,o,none⟩) 0 c,.bool false]) ∧ W=w':=by
  have E:=Lib.hid (fun W=>prefix_none B o c g W hc)
  go_enter Tryd.func69,Tryd.ntmps69
  go_wp2_with fail
  refine (E.out _).mono ?_
  rintro e w1 ⟨rfl,rfl⟩
  go_wp2_with fail
  go_ret2
  exact ⟨rfl,rfl⟩
theorem cut_no (B o n c g:Nat) (z p:Int) (W:World) (h1:1 ≤ n) (hn:n ≤ c) (hc:c ≤ 9223372036854775807) (hz:0 ≤ z ∧ z < 256) (hp:0 ≤ p ∧ p < 256) (cz:W.cell? ⟨B,o,none⟩=some (.int .u8 z)) (cp:W.cell? ⟨g,0,none⟩=some (.int .u8 p)) (hne:¬ z=p):
    Calls Tryd.prog 69 #[.slice (some ⟨B,o,none⟩) n c,.slice (some ⟨g,0,none⟩) 1 1] W fun e w'=>e=.returned (.tuple #[.slice (some ⟨B,o,none⟩) n c,.bool false]) ∧ W=w':=by
  have E:=Lib.hid (prefix_one B o n c g z p W h1 hn hc hz hp cz cp)
  rw [decide_eq_false hne] at E
  clear hz hp cz cp hne
  go_enter Tryd.func69,Tryd.ntmps69
  go_wp2_with fail
  refine E.out.mono ?_
  rintro e w1 ⟨rfl,rfl⟩
  go_wp2_with fail
  go_ret2
  exact ⟨rfl,rfl⟩
theorem cut_one (B o n c g:Nat) (p:Int) (W:World) (h1:1 ≤ n) (hn:n ≤ c) (h2:1 < c) (hc:c ≤ 9223372036854775807) (hp:0 ≤ p ∧ p < 256) (cz:W.cell? ⟨B,o,none⟩=some (.int .u8 p)) (cp:W.cell? ⟨g,0,none⟩=some (.int .u8 p)):
    Calls Tryd.prog 69 #[.slice (some ⟨B,o,none⟩) n c,.slice (some ⟨g,0,none⟩) 1 1] W fun e w'=>e=.returned (.tuple #[.slice (some ⟨B,o + 1,none⟩) (n - 1) (c - 1),.bool true]) ∧ W=w':=by
  have E:=Lib.hid (prefix_one B o n c g p p W h1 hn hc hp hp cz cp)
  rw [decide_eq_true rfl] at E
  clear hp cz cp
  go_enter Tryd.func69,Tryd.ntmps69
  go_wp2_with fail
  refine E.out.mono ?_
  rintro e w1 ⟨rfl,rfl⟩
  go_wp2_with fail
  go_ret2
  exact ⟨rfl,rfl⟩
theorem cut_end (B o g:Nat) (p:Int) (W:World) (hp:0 ≤ p ∧ p < 256) (cz:W.cell? ⟨B,o,none⟩=some (.int .u8 p)) (cp:W.cell? ⟨g,0,none⟩=some (.int .u8 p)):
    Calls Tryd.prog 69 #[.slice (some ⟨B,o,none⟩) 1 1,.slice (some ⟨g,0,none⟩) 1 1] W fun e w'=>e=.returned (.tuple #[.slice (some ⟨B,o,none⟩) 0 0,.bool true]) ∧ W=w':=by
  have E:=Lib.hid (prefix_one B o 1 1 g p p W (by omega) (by omega) (by omega) hp hp cz cp)
  rw [decide_eq_true rfl] at E
  clear hp cz cp
  go_enter Tryd.func69,Tryd.ntmps69
  go_wp2_with fail
  refine E.out.mono ?_
  rintro e w1 ⟨rfl,rfl⟩
  go_wp2_with fail
  go_ret2
  exact ⟨rfl,rfl⟩
end Go.Proofs.YthmbmcckldgdiaaDoor.Mrm
namespace Go.Proofs.YthmbmcckldgdiaaDoor.Mrm
open Go.RowKit
set_option linter.unusedVariables false
set_option linter.unnecessarySimpa false
set_option linter.unusedSimpArgs false
set_option maxRecDepth 100000
def rdV (r m d:Int) (mem:Bool) (n e:Int):Value:=.tuple #[.int .i8 r,.int .i8 m,.int .i64 d,.bool mem,.int .i64 n,.int .i64 e]
def atN (b:Int):Nat:=if b % 8=4 then 2 else 1
def memOk (l:List Int):Bool:=decide (l.getD 0 0 < 192) && (decide (atN (l.getD 0 0) + 4 ≤ l.length) && (decide (¬ l.getD 0 0 % 8=4) || decide (l.getD 1 0=36)))
def regOk (l:List Int):Bool:=decide (192 ≤ l.getD 0 0)
def readV (l:List Int):Value:=
  if regOk l=true then rdV (l.getD 0 0 / 8 % 8) (l.getD 0 0 % 8) 0 false 1 0 else
  if (decide (128 ≤ l.getD 0 0) && memOk l)=true then rdV (l.getD 0 0 / 8 % 8) (l.getD 0 0 % 8) (sgn ((l.drop (atN (l.getD 0 0))).take 4)) true (atN (l.getD 0 0) + 4:Nat) 0
  else rdV 0 0 0 false 0 30
set_option maxHeartbeats 2000000 in
theorem read_nil  (W:World):Calls Tryd.prog 71 #[.slice none 0 0] W fun e w'=>e=.returned (rdV 0 0 0 false 0 30) ∧ Below W.heap.size W w':=by
  go_enter Tryd.func71,Tryd.ntmps71
  go_wp2_with fail
  (try simp only [Exit.inBlock,Exit.then]);refine bodyPost_ret (results_tmp6 rfl _ _ _) rfl ?_
  exact ⟨rfl,Below.refl _ _⟩
set_option maxHeartbeats 2000000 in
theorem read_zero (x:Addr) (c:Nat) (hc:c ≤ 9223372036854775807) (W:World):Calls Tryd.prog 71 #[.slice (some x) 0 c] W fun e w'=>e=.returned (rdV 0 0 0 false 0 30) ∧ Below W.heap.size W w':=by
  go_enter Tryd.func71,Tryd.ntmps71
  go_wp2_with fail
  (try simp only [Exit.inBlock,Exit.then]);refine bodyPost_ret (results_tmp6 rfl _ _ _) rfl ?_
  exact ⟨rfl,Below.refl _ _⟩
set_option maxHeartbeats 2000000 in
theorem read_low (B o len cap:Nat) (z:Int) (h1:1 ≤ len) (hc:len ≤ cap) (hm:cap ≤ 9223372036854775807) (z0:0 ≤ z) (z1:z < 256) (hz:z < 128) (W:World) (cz:W.cell? ⟨B,o,none⟩=some (.int .u8 z)):Calls Tryd.prog 71 #[.slice (some ⟨B,o,none⟩) len cap] W fun e w'=>e=.returned (rdV 0 0 0 false 0 30) ∧ Below W.heap.size W w':=by
  have e0:((len:Int) == 0)=false:=by simpa using (by omega:¬ len=0)
  have hl0:(0:Nat) < len:=by omega
  go_enter Tryd.func71,Tryd.ntmps71
  go_wp2_with fail
  (try simp only [Exit.inBlock,Exit.then]);refine bodyPost_ret (results_tmp6 rfl _ _ _) rfl ?_
  exact ⟨rfl,Below.refl _ _⟩
set_option maxHeartbeats 2000000 in
theorem read_reg (B o len cap:Nat) (z:Int) (h1:1 ≤ len) (hc:len ≤ cap) (hm:cap ≤ 9223372036854775807) (z0:0 ≤ z) (z1:z < 256) (hz:192 ≤ z) (W:World) (cz:W.cell? ⟨B,o,none⟩=some (.int .u8 z)):Calls Tryd.prog 71 #[.slice (some ⟨B,o,none⟩) len cap] W fun e w'=>e=.returned (rdV (z / 8 % 8) (z % 8) 0 false 1 0) ∧ Below W.heap.size W w':=by
  have e0:((len:Int) == 0)=false:=by simpa using (by omega:¬ len=0)
  have hl0:(0:Nat) < len:=by omega
  have hz2:128 ≤ z:=by omega
  go_enter Tryd.func71,Tryd.ntmps71
  go_wp2_with fail
  go_quiet (fail)
  go_wp2_with fail
  (try simp only [Exit.inBlock,Exit.then]);refine bodyPost_ret (results_tmp6 rfl _ _ _) rfl ?_
  exact ⟨rfl,below_drews (Below.refl _ _) _⟩
theorem between_no (m:Int) (h:¬ m % 8=4) (W:World) (h0:0 ≤ m) (h1:m < 16):Calls Tryd.prog 67 #[.int .i8 m] W fun e w'=>e=.returned (.slice none 0 0) ∧ W=w':=by
  have eb:(m % 8 == 4)=false:=by simpa using h
  clear h
  go_enter Tryd.func67,Tryd.ntmps67
  go_wp2
  go_ret
  exact ⟨rfl,rfl⟩
theorem between_4 (W:World):Calls Tryd.prog 67 #[.int .i8 4] W fun e w'=>e=.returned (.slice (some ⟨W.heap.size,0,none⟩) 1 1) ∧ w'=W.alloc (.cells #[.int .u8 36] 5):=by
  go_enter Tryd.func67,Tryd.ntmps67
  go_wp2
  go_ret
  exact ⟨rfl,rfl⟩
theorem at_cut {W:World} {B o len cap:Nat} {zs:List Int} (h:BytesAt W (some ⟨B,o,none⟩) len cap zs) (k m c:Nat) (hk:k + m ≤ len) (hm:m ≤ c) (hc:c ≤ 9223372036854775807):BytesAt W (some ⟨B,o + k,none⟩) m c ((zs.drop k).take m):=by
  have hl:=h.size
  refine ⟨by simp;omega,hm,hc,fun h0=>⟨B,o + k,rfl,fun j z hz=>?_⟩,fun z hz=>h.ok z (List.mem_of_mem_drop (List.mem_of_mem_take hz)),fun h=>by cases h⟩
  have hj:j < m:=by have:=(List.getElem?_eq_some_iff.1 hz).1;simp at this;omega
  rw [List.getElem?_take_of_lt hj,List.getElem?_drop] at hz
  obtain ⟨b',o',e,hcell⟩:=h.here (by omega)
  injection e with e
  injection e with e1 e2
  subst e1 e2
  rw [Nat.add_assoc]
  exact hcell _ _ hz
theorem between_b (W:World):Calls Tryd.prog 67 #[.int .i8 4] W fun e w'=>∃ g,e=.returned (.slice (some ⟨g,0,none⟩) 1 1) ∧ w'.cell? ⟨g,0,none⟩=some (.int .u8 36) ∧ Below W.heap.size W w':=
  (between_4 W).mono fun e w' ⟨h1,h2⟩=>⟨_,h1,by rw [h2];unfold World.cell?;rw [heap_last W _ _ rfl];rfl,by rw [h2];exact below_new (Below.refl _ _) _⟩
theorem cell_b {W w:World} {B o:Nat} {v:Value} (h:W.cell? ⟨B,o,none⟩=some v) (b:Below W.heap.size W w):w.cell? ⟨B,o,none⟩=some v:=(b.cell (p:=⟨B,o,none⟩) (lt_cell h)).trans h
set_option maxHeartbeats 2000000 in
theorem read_e0 (B o len cap:Nat) (z:Int) (h1:1 ≤ len) (hc:len ≤ cap) (hm:cap ≤ 9223372036854775807) (z0:0 ≤ z) (z1:z < 256) (hz:128 ≤ z) (hz2:z < 192) (hz3:¬ z % 8=4) (hc1:cap=1) (W:World) (cz:W.cell? ⟨B,o,none⟩=some (.int .u8 z)):Calls Tryd.prog 71 #[.slice (some ⟨B,o,none⟩) len cap] W fun e w'=>e=.returned (rdV 0 0 0 false 0 30) ∧ Below W.heap.size W w':=by
  have e0:((len:Int) == 0)=false:=by simpa using (by omega:¬ len=0)
  have hl0:(0:Nat) < len:=by omega
  have BT:=Lib.hid (fun W=>between_no (z % 8) (by omega) W (by omega) (by omega))
  have CU:=Lib.hid (fun W=>cut_nil0 B o W)
  subst hc1
  obtain rfl:len=1:=by omega
  clear hz3
  go_enter Tryd.func71,Tryd.ntmps71
  go_wp2_with fail
  go_quiet (fail)
  go_wp2_with fail
  go_quiet (first | (go_at_call 67;exact quiet3 (BT.out _)) | (go_at_call 69;exact quiet3 (CU.out _)))
  go_wp2_with fail
  (try simp only [Exit.inBlock,Exit.then]);refine bodyPost_ret (results_tmp6 rfl _ _ _) rfl ?_
  exact ⟨rfl,below_drews (Below.refl _ _) _⟩
set_option maxHeartbeats 2000000 in
theorem read_e1 (B o len cap:Nat) (z:Int) (h1:1 ≤ len) (hc:len ≤ cap) (hm:cap ≤ 9223372036854775807) (z0:0 ≤ z) (z1:z < 256) (hz:128 ≤ z) (hz2:z < 192) (hz3:¬ z % 8=4) (hc1:1 < cap) (hs:len < 5) (W:World) (cz:W.cell? ⟨B,o,none⟩=some (.int .u8 z)):Calls Tryd.prog 71 #[.slice (some ⟨B,o,none⟩) len cap] W fun e w'=>e=.returned (rdV 0 0 0 false 0 30) ∧ Below W.heap.size W w':=by
  have e0:((len:Int) == 0)=false:=by simpa using (by omega:¬ len=0)
  have hl0:(0:Nat) < len:=by omega
  have BT:=Lib.hid (fun W=>between_no (z % 8) (by omega) W (by omega) (by omega))
  have CU:=Lib.hid (fun W=>cut_nil B (o + 1) (len - 1) (cap - 1) W (by omega) (by omega) (by omega))
  have hl1:len - 1 < 4:=by omega
  clear hz3
  go_enter Tryd.func71,Tryd.ntmps71
  go_wp2_with fail
  go_quiet (fail)
  go_wp2_with fail
  go_quiet (first | (go_at_call 67;exact quiet3 (BT.out _)) | (go_at_call 69;exact quiet3 (CU.out _)))
  go_wp2_with fail
  (try simp only [Exit.inBlock,Exit.then]);refine bodyPost_ret (results_tmp6 rfl _ _ _) rfl ?_
  exact ⟨rfl,below_drews (Below.refl _ _) _⟩
set_option maxHeartbeats 2000000 in
theorem read_m1 (B o len cap:Nat) (z:Int) (h1:1 ≤ len) (hc:len ≤ cap) (hm:cap ≤ 9223372036854775807) (z0:0 ≤ z) (z1:z < 256) (zs:List Int) (hz:128 ≤ z) (hz2:z < 192) (hz3:¬ z % 8=4) (hs:5 ≤ len) (W:World) (cz:W.cell? ⟨B,o,none⟩=some (.int .u8 z)) (hE:BytesAt W (some ⟨B,o,none⟩) len cap zs):Calls Tryd.prog 71 #[.slice (some ⟨B,o,none⟩) len cap] W fun e w'=>e=.returned (rdV (z / 8 % 8) (z % 8) (sgn ((zs.drop 1).take 4)) true 5 0) ∧ Below W.heap.size W w':=by
  have e0:((len:Int) == 0)=false:=by simpa using (by omega:¬ len=0)
  have hl0:(0:Nat) < len:=by omega
  have BT:=Lib.hid (fun W=>between_no (z % 8) (by omega) W (by omega) (by omega))
  have CU:=Lib.hid (fun W=>cut_nil B (o + 1) (len - 1) (cap - 1) W (by omega) (by omega) (by omega))
  have SG:=Lib.hid (fun w' b=>signed_n _ _ _ _ w' ((at_cut hE 1 4 4 (by omega) (by omega) (by omega)).below (w:=w') b))
  have hl1:4 ≤ len - 1:=by omega
  have hl2:4 ≤ cap - 1:=by omega
  have hl3:1 < cap:=by omega
  clear hz3 hE
  generalize sgn ((zs.drop 1).take 4)=sv at *
  go_enter Tryd.func71,Tryd.ntmps71
  go_wp2_with fail
  go_quiet (fail)
  go_wp2_with fail
  go_quiet (first | (go_at_call 67;exact quiet3 (BT.out _)) | (go_at_call 69;exact quiet3 (CU.out _)))
  go_wp2_with fail
  refine (SG.out _ (below_drews (Below.refl _ _) _)).mono ?_
  rintro e w1 ⟨rfl,rfl⟩
  go_wp2_with fail
  (try simp only [Exit.inBlock,Exit.then]);refine bodyPost_ret (results_tmp6 rfl _ _ _) rfl ?_
  exact ⟨retV (show rdV (z / 8 % 8) (z % 8) sv true ((len:Int) - ((len - 1:Nat):Int) + 4) 0=_ by rw [show (len:Int) - ((len - 1:Nat):Int) + 4=5 by omega]),below_drews (Below.refl _ _) _⟩
set_option maxHeartbeats 4000000 in
theorem read_40 (B o len cap:Nat) (z:Int) (h1:1 ≤ len) (hc:len ≤ cap) (hm:cap ≤ 9223372036854775807) (z0:0 ≤ z) (z1:z < 256) (hz:128 ≤ z) (hz2:z < 192) (hz3:z % 8=4) (hc1:cap=1) (W:World) (cz:W.cell? ⟨B,o,none⟩=some (.int .u8 z)):Calls Tryd.prog 71 #[.slice (some ⟨B,o,none⟩) len cap] W fun e w'=>e=.returned (rdV 0 0 0 false 0 30) ∧ Below W.heap.size W w':=by
  have e0:((len:Int) == 0)=false:=by simpa using (by omega:¬ len=0)
  have hl0:(0:Nat) < len:=by omega
  have BT:=Lib.hid (fun W=>between_b W)
  have CU:=Lib.hid (fun g W=>cut_none B o 0 g W (by omega))
  subst hc1
  obtain rfl:len=1:=by omega
  go_enter Tryd.func71,Tryd.ntmps71
  go_wp2_with fail
  go_quiet (fail)
  go_wp2_with fail
  have B1:=Lib.hid (below_drews (Below.refl W.heap.size W) nq)
  generalize W.drewN nq=W1 at *
  go_region_held3 (fun w'=>Below W1.heap.size W1 w') ((repeat' (first | assumption | exact B1.out | exact Below.refl _ _ | apply Below.drew | (refine below_call ?_ b1)))) (first
    | (go_at_call 67;refine (BT.out _).mono ?_;rintro e w1 ⟨g,rfl,c1,b1⟩)
    | (go_at_call 69;refine (CU.out _ _).mono ?_;rintro e w2 ⟨rfl,rfl⟩))
  all_goals (
  go_wp2_with fail
  (try simp only [Exit.inBlock,Exit.then]);refine bodyPost_ret (results_tmp6 rfl _ _ _) rfl ?_
  exact ⟨rfl,by repeat' (first | assumption | exact B1.out | exact Below.refl _ _ | apply Below.drew | (refine below_call ?_ b1))⟩)
set_option maxHeartbeats 4000000 in
theorem read_41 (B o len cap:Nat) (z:Int) (h1:1 ≤ len) (hc:len ≤ cap) (hm:cap ≤ 9223372036854775807) (z0:0 ≤ z) (z1:z < 256) (hz:128 ≤ z) (hz2:z < 192) (hz3:z % 8=4) (hc1:1 < cap) (hl1:len=1) (W:World) (cz:W.cell? ⟨B,o,none⟩=some (.int .u8 z)):Calls Tryd.prog 71 #[.slice (some ⟨B,o,none⟩) len cap] W fun e w'=>e=.returned (rdV 0 0 0 false 0 30) ∧ Below W.heap.size W w':=by
  have e0:((len:Int) == 0)=false:=by simpa using (by omega:¬ len=0)
  have hl0:(0:Nat) < len:=by omega
  have BT:=Lib.hid (fun W=>between_b W)
  have CU:=Lib.hid (fun g W=>cut_none B (o + 1) (cap - 1) g W (by omega))
  subst hl1
  go_enter Tryd.func71,Tryd.ntmps71
  go_wp2_with fail
  go_quiet (fail)
  go_wp2_with fail
  have B1:=Lib.hid (below_drews (Below.refl W.heap.size W) nq)
  generalize W.drewN nq=W1 at *
  go_region_held3 (fun w'=>Below W1.heap.size W1 w') ((repeat' (first | assumption | exact B1.out | exact Below.refl _ _ | apply Below.drew | (refine below_call ?_ b1)))) (first
    | (go_at_call 67;refine (BT.out _).mono ?_;rintro e w1 ⟨g,rfl,c1,b1⟩)
    | (go_at_call 69;refine (CU.out _ _).mono ?_;rintro e w2 ⟨rfl,rfl⟩))
  all_goals (
  go_wp2_with fail
  (try simp only [Exit.inBlock,Exit.then]);refine bodyPost_ret (results_tmp6 rfl _ _ _) rfl ?_
  exact ⟨rfl,by repeat' (first | assumption | exact B1.out | exact Below.refl _ _ | apply Below.drew | (refine below_call ?_ b1))⟩)
set_option maxHeartbeats 4000000 in
theorem read_4n (B o len cap:Nat) (z:Int) (h1:1 ≤ len) (hc:len ≤ cap) (hm:cap ≤ 9223372036854775807) (z0:0 ≤ z) (z1:z < 256) (hz:128 ≤ z) (hz2:z < 192) (hz3:z % 8=4) (hl1:2 ≤ len) (W:World) (cz:W.cell? ⟨B,o,none⟩=some (.int .u8 z)) (y:Int) (y0:0 ≤ y) (y1:y < 256) (cy:W.cell? ⟨B,o + 1,none⟩=some (.int .u8 y)) (hy:¬ y=36):Calls Tryd.prog 71 #[.slice (some ⟨B,o,none⟩) len cap] W fun e w'=>e=.returned (rdV 0 0 0 false 0 30) ∧ Below W.heap.size W w':=by
  have e0:((len:Int) == 0)=false:=by simpa using (by omega:¬ len=0)
  have hl0:(0:Nat) < len:=by omega
  have BT:=Lib.hid (fun W=>between_b W)
  have CU:=Lib.hid (fun g w' (b:Below W.heap.size W w') c1=>cut_no B (o + 1) (len - 1) (cap - 1) g y 36 w' (by omega) (by omega) (by omega) ⟨y0,y1⟩ (by decide) (cell_b cy b) c1 hy)
  have hl3:1 < cap:=by omega
  have hI1:(1:Int) ≤ (len:Int):=by omega
  have hI2:(len:Int) ≤ (cap:Int):=by omega
  have hI3:(1:Int) ≤ (cap:Int):=by omega
  clear cy hy
  go_enter Tryd.func71,Tryd.ntmps71
  go_wp2_with fail
  go_quiet (fail)
  go_wp2_with fail
  have B1:=Lib.hid (below_drews (Below.refl W.heap.size W) nq)
  generalize W.drewN nq=W1 at *
  go_region_held3 (fun w'=>Below W1.heap.size W1 w') ((repeat' (first | assumption | exact B1.out | exact Below.refl _ _ | apply Below.drew | (refine below_call ?_ b1)))) (first
    | (go_at_call 67;refine (BT.out _).mono ?_;rintro e w1 ⟨g,rfl,c1,b1⟩)
    | (go_at_call 69;refine (CU.out _ _ (by repeat' (first | assumption | exact B1.out | exact Below.refl _ _ | apply Below.drew | (refine below_call ?_ b1))) c1).mono ?_;rintro e w2 ⟨rfl,rfl⟩))
  all_goals (
  go_wp2_with fail
  (try simp only [Exit.inBlock,Exit.then]);refine bodyPost_ret (results_tmp6 rfl _ _ _) rfl ?_
  exact ⟨rfl,by repeat' (first | assumption | exact B1.out | exact Below.refl _ _ | apply Below.drew | (refine below_call ?_ b1))⟩)
set_option maxHeartbeats 4000000 in
theorem read_4e (B o len cap:Nat) (z:Int) (h1:1 ≤ len) (hc:len ≤ cap) (hm:cap ≤ 9223372036854775807) (z0:0 ≤ z) (z1:z < 256) (hz:128 ≤ z) (hz2:z < 192) (hz3:z % 8=4) (hl1:2 ≤ len) (hc1:cap=2) (W:World) (cz:W.cell? ⟨B,o,none⟩=some (.int .u8 z)) (cy:W.cell? ⟨B,o + 1,none⟩=some (.int .u8 36)):Calls Tryd.prog 71 #[.slice (some ⟨B,o,none⟩) len cap] W fun e w'=>e=.returned (rdV 0 0 0 false 0 30) ∧ Below W.heap.size W w':=by
  have e0:((len:Int) == 0)=false:=by simpa using (by omega:¬ len=0)
  have hl0:(0:Nat) < len:=by omega
  have BT:=Lib.hid (fun W=>between_b W)
  have CU:=Lib.hid (fun g w' (b:Below W.heap.size W w') c1=>cut_end B (o + 1) g 36 w' (by decide) (cell_b cy b) c1)
  subst hc1
  obtain rfl:len=2:=by omega
  clear cy
  go_enter Tryd.func71,Tryd.ntmps71
  go_wp2_with fail
  go_quiet (fail)
  go_wp2_with fail
  have B1:=Lib.hid (below_drews (Below.refl W.heap.size W) nq)
  generalize W.drewN nq=W1 at *
  go_region_held3 (fun w'=>Below W1.heap.size W1 w') ((repeat' (first | assumption | exact B1.out | exact Below.refl _ _ | apply Below.drew | (refine below_call ?_ b1)))) (first
    | (go_at_call 67;refine (BT.out _).mono ?_;rintro e w1 ⟨g,rfl,c1,b1⟩)
    | (go_at_call 69;refine (CU.out _ _ (by repeat' (first | assumption | exact B1.out | exact Below.refl _ _ | apply Below.drew | (refine below_call ?_ b1))) c1).mono ?_;rintro e w2 ⟨rfl,rfl⟩))
  all_goals (
  go_wp2_with fail
  (try simp only [Exit.inBlock,Exit.then]);refine bodyPost_ret (results_tmp6 rfl _ _ _) rfl ?_
  exact ⟨rfl,by repeat' (first | assumption | exact B1.out | exact Below.refl _ _ | apply Below.drew | (refine below_call ?_ b1))⟩)
set_option maxHeartbeats 4000000 in
theorem read_4s (B o len cap:Nat) (z:Int) (h1:1 ≤ len) (hc:len ≤ cap) (hm:cap ≤ 9223372036854775807) (z0:0 ≤ z) (z1:z < 256) (hz:128 ≤ z) (hz2:z < 192) (hz3:z % 8=4) (hl1:2 ≤ len) (hc1:2 < cap) (hs:len < 6) (W:World) (cz:W.cell? ⟨B,o,none⟩=some (.int .u8 z)) (cy:W.cell? ⟨B,o + 1,none⟩=some (.int .u8 36)):Calls Tryd.prog 71 #[.slice (some ⟨B,o,none⟩) len cap] W fun e w'=>e=.returned (rdV 0 0 0 false 0 30) ∧ Below W.heap.size W w':=by
  have e0:((len:Int) == 0)=false:=by simpa using (by omega:¬ len=0)
  have hl0:(0:Nat) < len:=by omega
  have BT:=Lib.hid (fun W=>between_b W)
  have CU:=Lib.hid (fun g w' (b:Below W.heap.size W w') (c1:w'.cell? ⟨g,0,none⟩=some (.int .u8 36))=>show Calls Tryd.prog 69 #[.slice (some ⟨B,o + 1,none⟩) (len - 1) (cap - 1),.slice (some ⟨g,0,none⟩) 1 1] w' fun e w''=>e=.returned (.tuple #[.slice (some ⟨B,o + 2,none⟩) (len - 2) (cap - 2),.bool true]) ∧ w'=w'' by
    have h:=cut_one B (o + 1) (len - 1) (cap - 1) g 36 w' (by omega) (by omega) (by omega) (by omega) (by decide) (cell_b cy b) c1
    rw [show len - 1 - 1=len - 2 by omega,show cap - 1 - 1=cap - 2 by omega] at h
    exact h)
  have hl3:1 < cap:=by omega
  have hI1:(1:Int) ≤ (len:Int):=by omega
  have hI2:(len:Int) ≤ (cap:Int):=by omega
  have hI3:(1:Int) ≤ (cap:Int):=by omega
  clear cy
  have hl4:len - 2 < 4:=by omega
  go_enter Tryd.func71,Tryd.ntmps71
  go_wp2_with fail
  go_quiet (fail)
  go_wp2_with fail
  have B1:=Lib.hid (below_drews (Below.refl W.heap.size W) nq)
  generalize W.drewN nq=W1 at *
  go_region_held3 (fun w'=>Below W1.heap.size W1 w') ((repeat' (first | assumption | exact B1.out | exact Below.refl _ _ | apply Below.drew | (refine below_call ?_ b1)))) (first
    | (go_at_call 67;refine (BT.out _).mono ?_;rintro e w1 ⟨g,rfl,c1,b1⟩)
    | (go_at_call 69;refine (CU.out _ _ (by repeat' (first | assumption | exact B1.out | exact Below.refl _ _ | apply Below.drew | (refine below_call ?_ b1))) c1).mono ?_;rintro e w2 ⟨rfl,rfl⟩))
  all_goals (
  go_wp2_with fail
  (try simp only [Exit.inBlock,Exit.then]);refine bodyPost_ret (results_tmp6 rfl _ _ _) rfl ?_
  exact ⟨rfl,by repeat' (first | assumption | exact B1.out | exact Below.refl _ _ | apply Below.drew | (refine below_call ?_ b1))⟩)
set_option maxHeartbeats 4000000 in
theorem read_4y (B o len cap:Nat) (z:Int) (h1:1 ≤ len) (hc:len ≤ cap) (hm:cap ≤ 9223372036854775807) (z0:0 ≤ z) (z1:z < 256) (hz:128 ≤ z) (hz2:z < 192) (hz3:z % 8=4) (hs:6 ≤ len) (W:World) (cz:W.cell? ⟨B,o,none⟩=some (.int .u8 z)) (cy:W.cell? ⟨B,o + 1,none⟩=some (.int .u8 36)) (zs:List Int) (hE:BytesAt W (some ⟨B,o,none⟩) len cap zs):Calls Tryd.prog 71 #[.slice (some ⟨B,o,none⟩) len cap] W fun e w'=>e=.returned (rdV (z / 8 % 8) (z % 8) (sgn ((zs.drop 2).take 4)) true 6 0) ∧ Below W.heap.size W w':=by
  have e0:((len:Int) == 0)=false:=by simpa using (by omega:¬ len=0)
  have hl0:(0:Nat) < len:=by omega
  have BT:=Lib.hid (fun W=>between_b W)
  have CU:=Lib.hid (fun g w' (b:Below W.heap.size W w') (c1:w'.cell? ⟨g,0,none⟩=some (.int .u8 36))=>show Calls Tryd.prog 69 #[.slice (some ⟨B,o + 1,none⟩) (len - 1) (cap - 1),.slice (some ⟨g,0,none⟩) 1 1] w' fun e w''=>e=.returned (.tuple #[.slice (some ⟨B,o + 2,none⟩) (len - 2) (cap - 2),.bool true]) ∧ w'=w'' by
    have h:=cut_one B (o + 1) (len - 1) (cap - 1) g 36 w' (by omega) (by omega) (by omega) (by omega) (by decide) (cell_b cy b) c1
    rw [show len - 1 - 1=len - 2 by omega,show cap - 1 - 1=cap - 2 by omega] at h
    exact h)
  have hl3:1 < cap:=by omega
  have hI1:(1:Int) ≤ (len:Int):=by omega
  have hI2:(len:Int) ≤ (cap:Int):=by omega
  have hI3:(1:Int) ≤ (cap:Int):=by omega
  clear cy
  have SG:=Lib.hid (fun w' b=>signed_n _ _ _ _ w' ((at_cut hE 2 4 4 (by omega) (by omega) (by omega)).below (w:=w') b))
  have hl1:4 ≤ len - 2:=by omega
  have hl2:4 ≤ cap - 2:=by omega
  clear hE
  generalize sgn ((zs.drop 2).take 4)=sv at *
  go_enter Tryd.func71,Tryd.ntmps71
  go_wp2_with fail
  go_quiet (fail)
  go_wp2_with fail
  have B1:=Lib.hid (below_drews (Below.refl W.heap.size W) nq)
  generalize W.drewN nq=W1 at *
  go_region_held3 (fun w'=>Below W1.heap.size W1 w') ((repeat' (first | assumption | exact B1.out | exact Below.refl _ _ | apply Below.drew | (refine below_call ?_ b1)))) (first
    | (go_at_call 67;refine (BT.out _).mono ?_;rintro e w1 ⟨g,rfl,c1,b1⟩)
    | (go_at_call 69;refine (CU.out _ _ (by repeat' (first | assumption | exact B1.out | exact Below.refl _ _ | apply Below.drew | (refine below_call ?_ b1))) c1).mono ?_;rintro e w2 ⟨rfl,rfl⟩))
  all_goals (
  go_wp2_with fail
  refine (SG.out _ (by repeat' (first | assumption | exact B1.out | exact Below.refl _ _ | apply Below.drew | (refine below_call ?_ b1)))).mono ?_
  rintro e w3 ⟨rfl,rfl⟩
  go_wp2_with fail
  (try simp only [Exit.inBlock,Exit.then]);refine bodyPost_ret (results_tmp6 rfl _ _ _) rfl ?_
  exact ⟨retV (show rdV (z / 8 % 8) 4 sv true ((len:Int) - ((len - 2:Nat):Int) + 4) 0=_ by rw [show (len:Int) - ((len - 2:Nat):Int) + 4=6 by omega,hz3]),by repeat' (first | assumption | exact B1.out | exact Below.refl _ _ | apply Below.drew | (refine below_call ?_ b1))⟩)
end Go.Proofs.YthmbmcckldgdiaaDoor.Mrm
