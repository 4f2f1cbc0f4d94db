import Derived.Test.YtjhedldplmhmjaaDoorERd02
import Derived.Test.YtjhedldplmhmjaaDoorERd01
set_option linter.unusedVariables false
set_option linter.unusedSimpArgs false
set_option linter.unnecessarySimpa false
namespace Go.Proofs.YtjhedldplmhmjaaDoor.Mrm
open Go.RowKit
set_option linter.unusedVariables false
set_option linter.unnecessarySimpa false
set_option linter.unusedSimpArgs false
set_option maxRecDepth 100000
def rdV (r m d:Int) (mem:Bool) (n e:Int):Value:=.tuple #[.int .i8 r,.int .i8 m,.int .i64 d,.bool mem,.int .i64 n,.int .i64 e]
def atN (b:Int):Nat:=if b % 8=4 then 2 else 1
def memOk (l:List Int):Bool:=decide (l.getD 0 0 < 192) && (decide (atN (l.getD 0 0) + 4 ≤ l.length) && (decide (¬ l.getD 0 0 % 8=4) || decide (l.getD 1 0=36)))
def regOk (l:List Int):Bool:=decide (192 ≤ l.getD 0 0)
def readV (l:List Int):Value:=
  if regOk l=true then rdV (l.getD 0 0 / 8 % 8) (l.getD 0 0 % 8) 0 false 1 0 else
  if (decide (128 ≤ l.getD 0 0) && memOk l)=true then rdV (l.getD 0 0 / 8 % 8) (l.getD 0 0 % 8) (sgn ((l.drop (atN (l.getD 0 0))).take 4)) true (atN (l.getD 0 0) + 4:Nat) 0
  else rdV 0 0 0 false 0 30
set_option maxHeartbeats 2000000 in
theorem read_nil  (W:World):Calls Tryd.prog 57 #[.slice none 0 0] W fun e w'=>e=.returned (rdV 0 0 0 false 0 30) ∧ Below W.heap.size W w':=by
  go_enter Tryd.func57,Tryd.ntmps57
  go_wp2_with fail
  (try simp only [Exit.inBlock,Exit.then]);refine bodyPost_ret (results_tmp6 rfl _ _ _) rfl ?_
  exact ⟨rfl,Below.refl _ _⟩
set_option maxHeartbeats 2000000 in
theorem read_zero (x:Addr) (c:Nat) (hc:c ≤ 9223372036854775807) (W:World):Calls Tryd.prog 57 #[.slice (some x) 0 c] W fun e w'=>e=.returned (rdV 0 0 0 false 0 30) ∧ Below W.heap.size W w':=by
  go_enter Tryd.func57,Tryd.ntmps57
  go_wp2_with fail
  (try simp only [Exit.inBlock,Exit.then]);refine bodyPost_ret (results_tmp6 rfl _ _ _) rfl ?_
  exact ⟨rfl,Below.refl _ _⟩
set_option maxHeartbeats 2000000 in
theorem read_low (B o len cap:Nat) (z:Int) (h1:1 ≤ len) (hc:len ≤ cap) (hm:cap ≤ 9223372036854775807) (z0:0 ≤ z) (z1:z < 256) (hz:z < 128) (W:World) (cz:W.cell? ⟨B,o,none⟩=some (.int .u8 z)):Calls Tryd.prog 57 #[.slice (some ⟨B,o,none⟩) len cap] W fun e w'=>e=.returned (rdV 0 0 0 false 0 30) ∧ Below W.heap.size W w':=by
  have e0:((len:Int) == 0)=false:=by simpa using (by omega:¬ len=0)
  have hl0:(0:Nat) < len:=by omega
  go_enter Tryd.func57,Tryd.ntmps57
  go_wp2_with fail
  (try simp only [Exit.inBlock,Exit.then]);refine bodyPost_ret (results_tmp6 rfl _ _ _) rfl ?_
  exact ⟨rfl,Below.refl _ _⟩
set_option maxHeartbeats 2000000 in
theorem read_reg (B o len cap:Nat) (z:Int) (h1:1 ≤ len) (hc:len ≤ cap) (hm:cap ≤ 9223372036854775807) (z0:0 ≤ z) (z1:z < 256) (hz:192 ≤ z) (W:World) (cz:W.cell? ⟨B,o,none⟩=some (.int .u8 z)):Calls Tryd.prog 57 #[.slice (some ⟨B,o,none⟩) len cap] W fun e w'=>e=.returned (rdV (z / 8 % 8) (z % 8) 0 false 1 0) ∧ Below W.heap.size W w':=by
  have e0:((len:Int) == 0)=false:=by simpa using (by omega:¬ len=0)
  have hl0:(0:Nat) < len:=by omega
  have hz2:128 ≤ z:=by omega
  go_enter Tryd.func57,Tryd.ntmps57
  go_wp2_with fail
  go_quiet (fail)
  go_wp2_with fail
  (try simp only [Exit.inBlock,Exit.then]);refine bodyPost_ret (results_tmp6 rfl _ _ _) rfl ?_
  exact ⟨rfl,below_drews (Below.refl _ _) _⟩
theorem between_no (m:Int) (h:¬ m % 8=4) (W:World) (h0:0 ≤ m) (h1:m < 16):Calls Tryd.prog 67 #[.int .i8 m] W fun e w'=>e=.returned (.slice none 0 0) ∧ W=w':=by
  have eb:(m % 8 == 4)=false:=by simpa using h
  clear h
  go_enter Tryd.func67,Tryd.ntmps67
  go_wp2
  go_ret
  exact ⟨rfl,rfl⟩
theorem between_4 (W:World):Calls Tryd.prog 67 #[.int .i8 4] W fun e w'=>e=.returned (.slice (some ⟨W.heap.size,0,none⟩) 1 1) ∧ w'=W.alloc (.cells #[.int .u8 36] 5):=by
  go_enter Tryd.func67,Tryd.ntmps67
  go_wp2
  go_ret
  exact ⟨rfl,rfl⟩
theorem at_cut {W:World} {B o len cap:Nat} {zs:List Int} (h:BytesAt W (some ⟨B,o,none⟩) len cap zs) (k m c:Nat) (hk:k + m ≤ len) (hm:m ≤ c) (hc:c ≤ 9223372036854775807):BytesAt W (some ⟨B,o + k,none⟩) m c ((zs.drop k).take m):=by
  have hl:=h.size
  refine ⟨by simp;omega,hm,hc,fun h0=>⟨B,o + k,rfl,fun j z hz=>?_⟩,fun z hz=>h.ok z (List.mem_of_mem_drop (List.mem_of_mem_take hz)),fun h=>by cases h⟩
  have hj:j < m:=by have:=(List.getElem?_eq_some_iff.1 hz).1;simp at this;omega
  rw [List.getElem?_take_of_lt hj,List.getElem?_drop] at hz
  obtain ⟨b',o',e,hcell⟩:=h.here (by omega)
  injection e with e
  injection e with e1 e2
  subst e1 e2
  rw [Nat.add_assoc]
  exact hcell _ _ hz
theorem between_b (W:World):Calls Tryd.prog 67 #[.int .i8 4] W fun e w'=>∃ g,e=.returned (.slice (some ⟨g,0,none⟩) 1 1) ∧ w'.cell? ⟨g,0,none⟩=some (.int .u8 36) ∧ Below W.heap.size W w':=
  (between_4 W).mono fun e w' ⟨h1,h2⟩=>⟨_,h1,by rw [h2];unfold World.cell?;rw [heap_last W _ _ rfl];rfl,by rw [h2];exact below_new (Below.refl _ _) _⟩
theorem cell_b {W w:World} {B o:Nat} {v:Value} (h:W.cell? ⟨B,o,none⟩=some v) (b:Below W.heap.size W w):w.cell? ⟨B,o,none⟩=some v:=(b.cell (p:=⟨B,o,none⟩) (lt_cell h)).trans h
set_option maxHeartbeats 2000000 in
theorem read_e0 (B o len cap:Nat) (z:Int) (h1:1 ≤ len) (hc:len ≤ cap) (hm:cap ≤ 9223372036854775807) (z0:0 ≤ z) (z1:z < 256) (hz:128 ≤ z) (hz2:z < 192) (hz3:¬ z % 8=4) (hc1:cap=1) (W:World) (cz:W.cell? ⟨B,o,none⟩=some (.int .u8 z)):Calls Tryd.prog 57 #[.slice (some ⟨B,o,none⟩) len cap] W fun e w'=>e=.returned (rdV 0 0 0 false 0 30) ∧ Below W.heap.size W w':=by
  have e0:((len:Int) == 0)=false:=by simpa using (by omega:¬ len=0)
  have hl0:(0:Nat) < len:=by omega
  have BT:=Lib.hid (fun W=>between_no (z % 8) (by omega) W (by omega) (by omega))
  have CU:=Lib.hid (fun W=>cut_nil0 B o W)
  subst hc1
  obtain rfl:len=1:=by omega
  clear hz3
  go_enter Tryd.func57,Tryd.ntmps57
  go_wp2_with fail
  go_quiet (fail)
  go_wp2_with fail
  go_quiet (first | (go_at_call 67;exact quiet3 (BT.out _)) | (go_at_call 55;exact quiet3 (CU.out _)))
  go_wp2_with fail
  (try simp only [Exit.inBlock,Exit.then]);refine bodyPost_ret (results_tmp6 rfl _ _ _) rfl ?_
  exact ⟨rfl,below_drews (Below.refl _ _) _⟩
set_option maxHeartbeats 2000000 in
theorem read_e1 (B o len cap:Nat) (z:Int) (h1:1 ≤ len) (hc:len ≤ cap) (hm:cap ≤ 9223372036854775807) (z0:0 ≤ z) (z1:z < 256) (hz:128 ≤ z) (hz2:z < 192) (hz3:¬ z % 8=4) (hc1:1 < cap) (hs:len < 5) (W:World) (cz:W.cell? ⟨B,o,none⟩=some (.int .u8 z)):Calls Tryd.prog 57 #[.slice (some ⟨B,o,none⟩) len cap] W fun e w'=>e=.returned (rdV 0 0 0 false 0 30) ∧ Below W.heap.size W w':=by
  have e0:((len:Int) == 0)=false:=by simpa using (by omega:¬ len=0)
  have hl0:(0:Nat) < len:=by omega
  have BT:=Lib.hid (fun W=>between_no (z % 8) (by omega) W (by omega) (by omega))
  have CU:=Lib.hid (fun W=>cut_nil B (o + 1) (len - 1) (cap - 1) W (by omega) (by omega) (by omega))
  have hl1:len - 1 < 4:=by omega
  clear hz3
  go_enter Tryd.func57,Tryd.ntmps57
  go_wp2_with fail
  go_quiet (fail)
  go_wp2_with fail
  go_quiet (first | (go_at_call 67;exact quiet3 (BT.out _)) | (go_at_call 55;exact quiet3 (CU.out _)))
  go_wp2_with fail
  (try simp only [Exit.inBlock,Exit.then]);refine bodyPost_ret (results_tmp6 rfl _ _ _) rfl ?_
  exact ⟨rfl,below_drews (Below.refl _ _) _⟩
set_option maxHeartbeats 2000000 in
theorem read_m1 (B o len cap:Nat) (z:Int) (h1:1 ≤ len) (hc:len ≤ cap) (hm:cap ≤ 9223372036854775807) (z0:0 ≤ z) (z1:z < 256) (zs:List Int) (hz:128 ≤ z) (hz2:z < 192) (hz3:¬ z % 8=4) (hs:5 ≤ len) (W:World) (cz:W.cell? ⟨B,o,none⟩=some (.int .u8 z)) (hE:BytesAt W (some ⟨B,o,none⟩) len cap zs):Calls Tryd.prog 57 #[.slice (some ⟨B,o,none⟩) len cap] W fun e w'=>e=.returned (rdV (z / 8 % 8) (z % 8) (sgn ((zs.drop 1).take 4)) true 5 0) ∧ Below W.heap.size W w':=by
  have e0:((len:Int) == 0)=false:=by simpa using (by omega:¬ len=0)
  have hl0:(0:Nat) < len:=by omega
  have BT:=Lib.hid (fun W=>between_no (z % 8) (by omega) W (by omega) (by omega))
  have CU:=Lib.hid (fun W=>cut_nil B (o + 1) (len - 1) (cap - 1) W (by omega) (by omega) (by omega))
  have SG:=Lib.hid (fun w' b=>signed_n _ _ _ _ w' ((at_cut hE 1 4 4 (by omega) (by omega) (by omega)).below (w:=w') b))
  have hl1:4 ≤ len - 1:=by omega
  have hl2:4 ≤ cap - 1:=by omega
  have hl3:1 < cap:=by omega
  clear hz3 hE
  generalize sgn ((zs.drop 1).take 4)=sv at *
  go_enter Tryd.func57,Tryd.ntmps57
  go_wp2_with fail
  go_quiet (fail)
  go_wp2_with fail
  go_quiet (first | (go_at_call 67;exact quiet3 (BT.out _)) | (go_at_call 55;exact quiet3 (CU.out _)))
  go_wp2_with fail
  refine (SG.out _ (below_drews (Below.refl _ _) _)).mono ?_
  rintro e w1 ⟨rfl,rfl⟩
  go_wp2_with fail
  (try simp only [Exit.inBlock,Exit.then]);refine bodyPost_ret (results_tmp6 rfl _ _ _) rfl ?_
  exact ⟨retV (show rdV (z / 8 % 8) (z % 8) sv true ((len:Int) - ((len - 1:Nat):Int) + 4) 0=_ by rw [show (len:Int) - ((len - 1:Nat):Int) + 4=5 by omega]),below_drews (Below.refl _ _) _⟩
set_option maxHeartbeats 4000000 in
theorem read_40 (B o len cap:Nat) (z:Int) (h1:1 ≤ len) (hc:len ≤ cap) (hm:cap ≤ 9223372036854775807) (z0:0 ≤ z) (z1:z < 256) (hz:128 ≤ z) (hz2:z < 192) (hz3:z % 8=4) (hc1:cap=1) (W:World) (cz:W.cell? ⟨B,o,none⟩=some (.int .u8 z)):Calls Tryd.prog 57 #[.slice (some ⟨B,o,none⟩) len cap] W fun e w'=>e=.returned (rdV 0 0 0 false 0 30) ∧ Below W.heap.size W w':=by
  have e0:((len:Int) == 0)=false:=by simpa using (by omega:¬ len=0)
  have hl0:(0:Nat) < len:=by omega
  have BT:=Lib.hid (fun W=>between_b W)
  have CU:=Lib.hid (fun g W=>cut_none B o 0 g W (by omega))
  subst hc1
  obtain rfl:len=1:=by omega
  go_enter Tryd.func57,Tryd.ntmps57
  go_wp2_with fail
  go_quiet (fail)
  go_wp2_with fail
  have B1:=Lib.hid (below_drews (Below.refl W.heap.size W) nq)
  generalize W.drewN nq=W1 at *
  go_region_held3 (fun w'=>Below W1.heap.size W1 w') ((repeat' (first | assumption | exact B1.out | exact Below.refl _ _ | apply Below.drew | (refine below_call ?_ b1)))) (first
    | (go_at_call 67;refine (BT.out _).mono ?_;rintro e w1 ⟨g,rfl,c1,b1⟩)
    | (go_at_call 55;refine (CU.out _ _).mono ?_;rintro e w2 ⟨rfl,rfl⟩))
  all_goals (
  go_wp2_with fail
  (try simp only [Exit.inBlock,Exit.then]);refine bodyPost_ret (results_tmp6 rfl _ _ _) rfl ?_
  exact ⟨rfl,by repeat' (first | assumption | exact B1.out | exact Below.refl _ _ | apply Below.drew | (refine below_call ?_ b1))⟩)
set_option maxHeartbeats 4000000 in
theorem read_41 (B o len cap:Nat) (z:Int) (h1:1 ≤ len) (hc:len ≤ cap) (hm:cap ≤ 9223372036854775807) (z0:0 ≤ z) (z1:z < 256) (hz:128 ≤ z) (hz2:z < 192) (hz3:z % 8=4) (hc1:1 < cap) (hl1:len=1) (W:World) (cz:W.cell? ⟨B,o,none⟩=some (.int .u8 z)):Calls Tryd.prog 57 #[.slice (some ⟨B,o,none⟩) len cap] W fun e w'=>e=.returned (rdV 0 0 0 false 0 30) ∧ Below W.heap.size W w':=by
  have e0:((len:Int) == 0)=false:=by simpa using (by omega:¬ len=0)
  have hl0:(0:Nat) < len:=by omega
  have BT:=Lib.hid (fun W=>between_b W)
  have CU:=Lib.hid (fun g W=>cut_none B (o + 1) (cap - 1) g W (by omega))
  subst hl1
  go_enter Tryd.func57,Tryd.ntmps57
  go_wp2_with fail
  go_quiet (fail)
  go_wp2_with fail
  have B1:=Lib.hid (below_drews (Below.refl W.heap.size W) nq)
  generalize W.drewN nq=W1 at *
  go_region_held3 (fun w'=>Below W1.heap.size W1 w') ((repeat' (first | assumption | exact B1.out | exact Below.refl _ _ | apply Below.drew | (refine below_call ?_ b1)))) (first
    | (go_at_call 67;refine (BT.out _).mono ?_;rintro e w1 ⟨g,rfl,c1,b1⟩)
    | (go_at_call 55;refine (CU.out _ _).mono ?_;rintro e w2 ⟨rfl,rfl⟩))
  all_goals (
  go_wp2_with fail
  (try simp only [Exit.inBlock,Exit.then]);refine bodyPost_ret (results_tmp6 rfl _ _ _) rfl ?_
  exact ⟨rfl,by repeat' (first | assumption | exact B1.out | exact Below.refl _ _ | apply Below.drew | (refine below_call ?_ b1))⟩)
set_option maxHeartbeats 4000000 in
theorem read_4n (B o len cap:Nat) (z:Int) (h1:1 ≤ len) (hc:len ≤ cap) (hm:cap ≤ 9223372036854775807) (z0:0 ≤ z) (z1:z < 256) (hz:128 ≤ z) (hz2:z < 192) (hz3:z % 8=4) (hl1:2 ≤ len) (W:World) (cz:W.cell? ⟨B,o,none⟩=some (.int .u8 z)) (y:Int) (y0:0 ≤ y) (y1:y < 256) (cy:W.cell? ⟨B,o + 1,none⟩=some (.int .u8 y)) (hy:¬ y=36):Calls Tryd.prog 57 #[.slice (some ⟨B,o,none⟩) len cap] W fun e w'=>e=.returned (rdV 0 0 0 false 0 30) ∧ Below W.heap.size W w':=by
  have e0:((len:Int) == 0)=false:=by simpa using (by omega:¬ len=0)
  have hl0:(0:Nat) < len:=by omega
  have BT:=Lib.hid (fun W=>between_b W)
  have CU:=Lib.hid (fun g w' (b:Below W.heap.size W w') c1=>cut_no B (o + 1) (len - 1) (cap - 1) g y 36 w' (by omega) (by omega) (by omega) ⟨y0,y1⟩ (by decide) (cell_b cy b) c1 hy)
  have hl3:1 < cap:=by omega
  have hI1:(1:Int) ≤ (len:Int):=by omega
  have hI2:(len:Int) ≤ (cap:Int):=by omega
  have hI3:(1:Int) ≤ (cap:Int):=by omega
  clear cy hy
  go_enter Tryd.func57,Tryd.ntmps57
  go_wp2_with fail
  go_quiet (fail)
  go_wp2_with fail
  have B1:=Lib.hid (below_drews (Below.refl W.heap.size W) nq)
  generalize W.drewN nq=W1 at *
  go_region_held3 (fun w'=>Below W1.heap.size W1 w') ((repeat' (first | assumption | exact B1.out | exact Below.refl _ _ | apply Below.drew | (refine below_call ?_ b1)))) (first
    | (go_at_call 67;refine (BT.out _).mono ?_;rintro e w1 ⟨g,rfl,c1,b1⟩)
    | (go_at_call 55;refine (CU.out _ _ (by repeat' (first | assumption | exact B1.out | exact Below.refl _ _ | apply Below.drew | (refine below_call ?_ b1))) c1).mono ?_;rintro e w2 ⟨rfl,rfl⟩))
  all_goals (
  go_wp2_with fail
  (try simp only [Exit.inBlock,Exit.then]);refine bodyPost_ret (results_tmp6 rfl _ _ _) rfl ?_
  exact ⟨rfl,by repeat' (first | assumption | exact B1.out | exact Below.refl _ _ | apply Below.drew | (refine below_call ?_ b1))⟩)
set_option maxHeartbeats 4000000 in
theorem read_4e (B o len cap:Nat) (z:Int) (h1:1 ≤ len) (hc:len ≤ cap) (hm:cap ≤ 9223372036854775807) (z0:0 ≤ z) (z1:z < 256) (hz:128 ≤ z) (hz2:z < 192) (hz3:z % 8=4) (hl1:2 ≤ len) (hc1:cap=2) (W:World) (cz:W.cell? ⟨B,o,none⟩=some (.int .u8 z)) (cy:W.cell? ⟨B,o + 1,none⟩=some (.int .u8 36)):Calls Tryd.prog 57 #[.slice (some ⟨B,o,none⟩) len cap] W fun e w'=>e=.returned (rdV 0 0 0 false 0 30) ∧ Below W.heap.size W w':=by
  have e0:((len:Int) == 0)=false:=by simpa using (by omega:¬ len=0)
  have hl0:(0:Nat) < len:=by omega
  have BT:=Lib.hid (fun W=>between_b W)
  have CU:=Lib.hid (fun g w' (b:Below W.heap.size W w') c1=>cut_end B (o + 1) g 36 w' (by decide) (cell_b cy b) c1)
  subst hc1
  obtain rfl:len=2:=by omega
  clear cy
  go_enter Tryd.func57,Tryd.ntmps57
  go_wp2_with fail
  go_quiet (fail)
  go_wp2_with fail
  have B1:=Lib.hid (below_drews (Below.refl W.heap.size W) nq)
  generalize W.drewN nq=W1 at *
  go_region_held3 (fun w'=>Below W1.heap.size W1 w') ((repeat' (first | assumption | exact B1.out | exact Below.refl _ _ | apply Below.drew | (refine below_call ?_ b1)))) (first
    | (go_at_call 67;refine (BT.out _).mono ?_;rintro e w1 ⟨g,rfl,c1,b1⟩)
    | (go_at_call 55;refine (CU.out _ _ (by repeat' (first | assumption | exact B1.out | exact Below.refl _ _ | apply Below.drew | (refine below_call ?_ b1))) c1).mono ?_;rintro e w2 ⟨rfl,rfl⟩))
  all_goals (
  go_wp2_with fail
  (try simp only [Exit.inBlock,Exit.then]);refine bodyPost_ret (results_tmp6 rfl _ _ _) rfl ?_
  exact ⟨rfl,by repeat' (first | assumption | exact B1.out | exact Below.refl _ _ | apply Below.drew | (refine below_call ?_ b1))⟩)
set_option maxHeartbeats 4000000 in
theorem read_4s (B o len cap:Nat) (z:Int) (h1:1 ≤ len) (hc:len ≤ cap) (hm:cap ≤ 9223372036854775807) (z0:0 ≤ z) (z1:z < 256) (hz:128 ≤ z) (hz2:z < 192) (hz3:z % 8=4) (hl1:2 ≤ len) (hc1:2 < cap) (hs:len < 6) (W:World) (cz:W.cell? ⟨B,o,none⟩=some (.int .u8 z)) (cy:W.cell? ⟨B,o + 1,none⟩=some (.int .u8 36)):Calls Tryd.prog 57 #[.slice (some ⟨B,o,none⟩) len cap] W fun e w'=>e=.returned (rdV 0 0 0 false 0 30) ∧ Below W.heap.size W w':=by
  have e0:((len:Int) == 0)=false:=by simpa using (by omega:¬ len=0)
  have hl0:(0:Nat) < len:=by omega
  have BT:=Lib.hid (fun W=>between_b W)
  have CU:=Lib.hid (fun g w' (b:Below W.heap.size W w') (c1:w'.cell? ⟨g,0,none⟩=some (.int .u8 36))=>show Calls Tryd.prog 55 #[.slice (some ⟨B,o + 1,none⟩) (len - 1) (cap - 1),.slice (some ⟨g,0,none⟩) 1 1] w' fun e w''=>e=.returned (.tuple #[.slice (some ⟨B,o + 2,none⟩) (len - 2) (cap - 2),.bool true]) ∧ w'=w'' by
    have h:=cut_one B (o + 1) (len - 1) (cap - 1) g 36 w' (by omega) (by omega) (by omega) (by omega) (by decide) (cell_b cy b) c1
    rw [show len - 1 - 1=len - 2 by omega,show cap - 1 - 1=cap - 2 by omega] at h
    exact h)
  have hl3:1 < cap:=by omega
  have hI1:(1:Int) ≤ (len:Int):=by omega
  have hI2:(len:Int) ≤ (cap:Int):=by omega
  have hI3:(1:Int) ≤ (cap:Int):=by omega
  clear cy
  have hl4:len - 2 < 4:=by omega
  go_enter Tryd.func57,Tryd.ntmps57
  go_wp2_with fail
  go_quiet (fail)
  go_wp2_with fail
  have B1:=Lib.hid (below_drews (Below.refl W.heap.size W) nq)
  generalize W.drewN nq=W1 at *
  go_region_held3 (fun w'=>Below W1.heap.size W1 w') ((repeat' (first | assumption | exact B1.out | exact Below.refl _ _ | apply Below.drew | (refine below_call ?_ b1)))) (first
    | (go_at_call 67;refine (BT.out _).mono ?_;rintro e w1 ⟨g,rfl,c1,b1⟩)
    | (go_at_call 55;refine (CU.out _ _ (by repeat' (first | assumption | exact B1.out | exact Below.refl _ _ | apply Below.drew | (refine below_call ?_ b1))) c1).mono ?_;rintro e w2 ⟨rfl,rfl⟩))
  all_goals (
  go_wp2_with fail
  (try simp only [Exit.inBlock,Exit.then]);refine bodyPost_ret (results_tmp6 rfl _ _ _) rfl ?_
  exact ⟨rfl,by repeat' (first | assumption | exact B1.out | exact Below.refl _ _ | apply Below.drew | (refine below_call ?_ b1))⟩)
set_option maxHeartbeats 4000000 in
theorem read_4y (B o len cap:Nat) (z:Int) (h1:1 ≤ len) (hc:len ≤ cap) (hm:cap ≤ 9223372036854775807) (z0:0 ≤ z) (z1:z < 256) (hz:128 ≤ z) (hz2:z < 192) (hz3:z % 8=4) (hs:6 ≤ len) (W:World) (cz:W.cell? ⟨B,o,none⟩=some (.int .u8 z)) (cy:W.cell? ⟨B,o + 1,none⟩=some (.int .u8 36)) (zs:List Int) (hE:BytesAt W (some ⟨B,o,none⟩) len cap zs):Calls Tryd.prog 57 #[.slice (some ⟨B,o,none⟩) len cap] W fun e w'=>e=.returned (rdV (z / 8 % 8) (z % 8) (sgn ((zs.drop 2).take 4)) true 6 0) ∧ Below W.heap.size W w':=by
  have e0:((len:Int) == 0)=false:=by simpa using (by omega:¬ len=0)
  have hl0:(0:Nat) < len:=by omega
  have BT:=Lib.hid (fun W=>between_b W)
  have CU:=Lib.hid (fun g w' (b:Below W.heap.size W w') (c1:w'.cell? ⟨g,0,none⟩=some (.int .u8 36))=>show Calls Tryd.prog 55 #[.slice (some ⟨B,o + 1,none⟩) (len - 1) (cap - 1),.slice (some ⟨g,0,none⟩) 1 1] w' fun e w''=>e=.returned (.tuple #[.slice (some ⟨B,o + 2,none⟩) (len - 2) (cap - 2),.bool true]) ∧ w'=w'' by
    have h:=cut_one B (o + 1) (len - 1) (cap - 1) g 36 w' (by omega) (by omega) (by omega) (by omega) (by decide) (cell_b cy b) c1
    rw [show len - 1 - 1=len - 2 by omega,show cap - 1 - 1=cap - 2 by omega] at h
    exact h)
  have hl3:1 < cap:=by omega
  have hI1:(1:Int) ≤ (len:Int):=by omega
  have hI2:(len:Int) ≤ (cap:Int):=by omega
  have hI3:(1:Int) ≤ (cap:Int):=by omega
  clear cy
  have SG:=Lib.hid (fun w' b=>signed_n _ _ _ _ w' ((at_cut hE 2 4 4 (by omega) (by omega) (by omega)).below (w:=w') b))
  have hl1:4 ≤ len - 2:=by omega
  have hl2:4 ≤ cap - 2:=by omega
  clear hE
  generalize sgn ((zs.drop 2).take 4)=sv at *
  go_enter Tryd.func57,Tryd.ntmps57
  go_wp2_with fail
  go_quiet (fail)
  go_wp2_with fail
  have B1:=Lib.hid (below_drews (Below.refl W.heap.size W) nq)
  generalize W.drewN nq=W1 at *
  go_region_held3 (fun w'=>Below W1.heap.size W1 w') ((repeat' (first | assumption | exact B1.out | exact Below.refl _ _ | apply Below.drew | (refine below_call ?_ b1)))) (first
    | (go_at_call 67;refine (BT.out _).mono ?_;rintro e w1 ⟨g,rfl,c1,b1⟩)
    | (go_at_call 55;refine (CU.out _ _ (by repeat' (first | assumption | exact B1.out | exact Below.refl _ _ | apply Below.drew | (refine below_call ?_ b1))) c1).mono ?_;rintro e w2 ⟨rfl,rfl⟩))
  all_goals (
  go_wp2_with fail
  refine (SG.out _ (by repeat' (first | assumption | exact B1.out | exact Below.refl _ _ | apply Below.drew | (refine below_call ?_ b1)))).mono ?_
  rintro e w3 ⟨rfl,rfl⟩
  go_wp2_with fail
  (try simp only [Exit.inBlock,Exit.then]);refine bodyPost_ret (results_tmp6 rfl _ _ _) rfl ?_
  exact ⟨retV (show rdV (z / 8 % 8) 4 sv true ((len:Int) - ((len - 2:Nat):Int) + 4) 0=_ by rw [show (len:Int) - ((len - 2:Nat):Int) + 4=6 by omega,hz3]),by repeat' (first | assumption | exact B1.out | exact Below.refl _ _ | apply Below.drew | (refine below_call ?_ b1))⟩)
end Go.Proofs.YtjhedldplmhmjaaDoor.Mrm
namespace Go.Proofs.YtjhedldplmhmjaaDoor.Mrm
open Go.RowKit
set_option linter.unusedVariables false
set_option linter.unnecessarySimpa false
set_option linter.unusedSimpArgs false
set_option maxRecDepth 100000
theorem rd_reg {l:List Int} (h:192 ≤ l.getD 0 0):readV l=rdV (l.getD 0 0 / 8 % 8) (l.getD 0 0 % 8) 0 false 1 0:=by
  unfold readV
  rw [if_pos (by unfold regOk;exact decide_eq_true h)]
theorem rd_no {l:List Int} (h:l.getD 0 0 < 192) (h2:(decide (128 ≤ l.getD 0 0) && memOk l)=false):readV l=rdV 0 0 0 false 0 30:=by
  unfold readV
  rw [if_neg (by unfold regOk;rw [decide_eq_true_eq];omega),if_neg (by rw [h2];decide)]
theorem rd_mem {l:List Int} (h:l.getD 0 0 < 192) (h1:128 ≤ l.getD 0 0) (h2:memOk l=true):readV l=rdV (l.getD 0 0 / 8 % 8) (l.getD 0 0 % 8) (sgn ((l.drop (atN (l.getD 0 0))).take 4)) true (atN (l.getD 0 0) + 4:Nat) 0:=by
  unfold readV
  rw [if_neg (by unfold regOk;rw [decide_eq_true_eq];omega),if_pos (by rw [decide_eq_true h1,h2];rfl)]
theorem memOk_iff {l:List Int}:memOk l=true ↔ l.getD 0 0 < 192 ∧ atN (l.getD 0 0) + 4 ≤ l.length ∧ (l.getD 0 0 % 8=4 → l.getD 1 0=36):=by
  unfold memOk
  simp only [Bool.and_eq_true,Bool.or_eq_true,decide_eq_true_eq]
  constructor
  · rintro ⟨a,b,c⟩
    exact ⟨a,b,fun h=>c.elim (fun g=>absurd h g) id⟩
  · rintro ⟨a,b,c⟩
    refine ⟨a,b,?_⟩
    by_cases h:l.getD 0 0 % 8=4
    · exact .inr (c h)
    · exact .inl h
theorem rd_bad {l:List Int} (h:l.getD 0 0 < 192) (h2:¬ (atN (l.getD 0 0) + 4 ≤ l.length ∧ (l.getD 0 0 % 8=4 → l.getD 1 0=36))):readV l=rdV 0 0 0 false 0 30:=
  rd_no h (by
    cases g:memOk l
    · rw [Bool.and_false]
    · exact absurd (memOk_iff.1 g).2 h2)
theorem at_not {z:Int} (h:¬ z % 8=4):atN z=1:=if_neg h
theorem at_four {z:Int} (h:z % 8=4):atN z=2:=if_pos h
set_option maxHeartbeats 1000000 in
theorem read_n (a:Option Addr) (len cap:Nat) (zs:List Int) (W:World) (h:BytesAt W a len cap zs):Calls Tryd.prog 57 #[.slice a len cap] W fun e w'=>e=.returned (readV zs) ∧ Below W.heap.size W w':=by
  have hl:=h.size
  by_cases h0:0 < len
  · obtain ⟨b,o,rfl,hc,hb⟩:=at_cells h h0
    have c0:=hc 0 h0
    rw [Nat.add_zero] at c0
    obtain ⟨b0,b1⟩:=hb 0 h0
    by_cases g1:192 ≤ zs.getD 0 0
    · rw [rd_reg g1]
      exact read_reg b o len cap _ h0 h.le h.fit b0 b1 g1 W c0
    by_cases g2:zs.getD 0 0 < 128
    · rw [rd_no (by omega) (by rw [decide_eq_false (by omega)];rfl)]
      exact read_low b o len cap _ h0 h.le h.fit b0 b1 g2 W c0
    have f1:128 ≤ zs.getD 0 0:=by omega
    have f2:zs.getD 0 0 < 192:=by omega
    by_cases g3:zs.getD 0 0 % 8=4
    · by_cases g4:len < 2
      · rw [rd_bad f2 (by rw [at_four g3];omega)]
        have hle:=h.le
        by_cases g5:cap=1
        · exact read_40 b o len cap _ h0 h.le h.fit b0 b1 f1 f2 g3 g5 W c0
        · exact read_41 b o len cap _ h0 h.le h.fit b0 b1 f1 f2 g3 (by omega) (by omega) W c0
      have c1:=hc 1 (by omega)
      obtain ⟨y0,y1⟩:=hb 1 (by omega)
      by_cases g5:zs.getD 1 0=36
      · rw [g5] at c1
        by_cases g6:len < 6
        · rw [rd_bad f2 (by rw [at_four g3];omega)]
          have hle:=h.le
          by_cases g7:cap=2
          · exact read_4e b o len cap _ h0 h.le h.fit b0 b1 f1 f2 g3 (by omega) g7 W c0 c1
          · exact read_4s b o len cap _ h0 h.le h.fit b0 b1 f1 f2 g3 (by omega) (by omega) g6 W c0 c1
        · rw [rd_mem f2 f1 (memOk_iff.2 ⟨f2,by rw [at_four g3];omega,fun _=>g5⟩),at_four g3]
          exact read_4y b o len cap _ h0 h.le h.fit b0 b1 f1 f2 g3 (by omega) W c0 c1 zs h
      · rw [rd_bad f2 (fun g=>g5 (g.2 g3))]
        exact read_4n b o len cap _ h0 h.le h.fit b0 b1 f1 f2 g3 (by omega) W c0 _ y0 y1 c1 g5
    · by_cases g4:len < 5
      · rw [rd_bad f2 (by rw [at_not g3];omega)]
        have hle:=h.le
        by_cases g5:cap=1
        · exact read_e0 b o len cap _ h0 h.le h.fit b0 b1 f1 f2 g3 g5 W c0
        · exact read_e1 b o len cap _ h0 h.le h.fit b0 b1 f1 f2 g3 (by omega) g4 W c0
      · rw [rd_mem f2 f1 (memOk_iff.2 ⟨f2,by rw [at_not g3];omega,fun g=>absurd g g3⟩),at_not g3]
        exact read_m1 b o len cap _ h0 h.le h.fit b0 b1 zs f1 f2 g3 (by omega) W c0 h
  · obtain rfl:len=0:=by omega
    obtain rfl:zs=[]:=List.eq_nil_of_length_eq_zero hl.symm
    rw [rd_no (by decide) rfl]
    cases a with
    | none=>
      have:=h.nilc rfl
      subst this
      exact read_nil W
    | some x=>exact read_zero x cap h.fit W
end Go.Proofs.YtjhedldplmhmjaaDoor.Mrm
namespace Go.Proofs.YtjhedldplmhmjaaDoor.Mrm
open Go Go.RowKit
set_option maxRecDepth 100000
set_option linter.unusedVariables false
set_option linter.unusedSimpArgs false
structure Xi where
  op:Int
  w:Int
  dst:Int
  src:Int
  base:Int
  disp:Int
  imm:Int
  cc:Int
deriving DecidableEq
abbrev xC (x:Xi):Array Value:=#[.int .i8 x.op,.int .i8 x.w,.int .i8 x.dst,.int .i8 x.src,.int .i8 x.base,.int .i64 x.disp,.int .i64 x.imm,.int .i8 x.cc]
abbrev xL (x:Xi):List Value:=[.int .i8 x.op,.int .i8 x.w,.int .i8 x.dst,.int .i8 x.src,.int .i8 x.base,.int .i64 x.disp,.int .i64 x.imm,.int .i8 x.cc]
def zX:Xi:=⟨0,0,0,0,0,0,0,0⟩
def eqX (a b:Xi):Bool:=a.op == b.op && a.w == b.w && a.dst == b.dst && a.src == b.src && a.base == b.base && a.disp == b.disp && a.imm == b.imm && a.cc == b.cc
theorem eqX_iff {a b:Xi}:eqX a b=true ↔ a=b:=by
  unfold eqX
  cases a;cases b
  simp [and_assoc]
def clsT:List Int:=[1,2,1,1,1,1,1,1,1,2,2,2,2,2,2,2,1,3,3,3,4,4,4,4,4,5,6,7,8,9,10,10]
def clsI (op:Int):Int:=if 0 ≤ op ∧ op < 32 then clsT.getD op.toNat 0 else 0
def codT:List Int:=[137,0,1,9,33,41,49,57,133,0,1,4,5,6,7,0,0,4,5,7,4,5,7,3,6,0,0,0,0,0,0,0]
def codI (op:Int):Int:=if 0 ≤ op ∧ op < 32 then codT.getD op.toNat 0 else 0
theorem clsI_fin:∀ k:Fin 32,1 ≤ clsI (k.1:Int) ∧ clsI (k.1:Int) ≤ 10:=by decide +kernel
theorem clsI_cases (op:Int):clsI op=0 ∨ clsI op=1 ∨ clsI op=2 ∨ clsI op=3 ∨ clsI op=4 ∨ clsI op=5 ∨ clsI op=6 ∨ clsI op=7 ∨ clsI op=8 ∨ clsI op=9 ∨ clsI op=10:=by
  by_cases h:0 ≤ op ∧ op < 32
  · have:=clsI_fin ⟨op.toNat,by omega⟩
    simp only [Int.toNat_of_nonneg h.1] at this
    omega
  · left;unfold clsI;rw [if_neg h]
def fldX (k:Int) (x:Xi):Xi:=⟨x.op,if k < 10 then x.w else 0,if k ≤ 6 then x.dst else 0,if k=1 ∨ k=5 ∨ k=7 then x.src else 0,if k=6 ∨ k=7 then x.base else 0,if k=6 ∨ k=7 then x.disp else 0,if k=2 ∨ k=3 ∨ k=8 ∨ k=9 then x.imm else 0,if k=5 ∨ k=9 then x.cc else 0⟩
def longB (w:Int):Bool:=w == 32 || w == 64
def fourB (n:Int):Bool:=decide (-2147483648 ≤ n) && decide (n < 2147483648)
def oneB (n:Int):Bool:=decide (-128 ≤ n) && decide (n < 128)
def ccB (c:Int):Bool:=(decide (2 ≤ c) && decide (c ≤ 7)) || (decide (12 ≤ c) && decide (c ≤ 15))
def widB (w:Int):Bool:=w == 8 || w == 16 || w == 32 || w == 64
def jmpB (x:Xi):Bool:=x.w == 32 || (x.w == 8 && oneB x.imm)
def clsB (k:Int) (x:Xi):Bool:=
  if k=1 ∨ k=2 ∨ k=4 then longB x.w else
  if k=3 then longB x.w && (decide (0 ≤ x.imm) && decide (x.imm < x.w)) else
  if k=5 then longB x.w && ccB x.cc else
  if k=6 ∨ k=7 then widB x.w else
  if k=8 then jmpB x else
  if k=9 then jmpB x && ccB x.cc else true
def mayX (x:Xi):Bool:=clsI x.op != 0 && (eqX x (fldX (clsI x.op) x) && (regB x.dst && (regB x.src && (regB x.base && (fourB x.disp && (fourB x.imm && clsB (clsI x.op) x))))))
end Go.Proofs.YtjhedldplmhmjaaDoor.Mrm
