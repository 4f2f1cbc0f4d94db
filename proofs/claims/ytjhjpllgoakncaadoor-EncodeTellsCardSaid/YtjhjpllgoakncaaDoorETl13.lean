import Derived.Test.YtjhjpllgoakncaaDoorETl12
import Derived.Test.YtjhjpllgoakncaaDoorETl09
set_option linter.unusedVariables false
set_option linter.unusedSimpArgs false
set_option linter.unnecessarySimpa false
namespace Go.Proofs.YtjhjpllgoakncaaDoor.Mrm
open Go.RowKit
set_option linter.unusedVariables false
set_option linter.unnecessarySimpa false
set_option linter.unusedSimpArgs false
set_option maxRecDepth 100000
theorem between_n (m:Int) (h0:0 ≤ m) (h1:m < 16) (W:World):Calls Tryd.prog 77 #[.int .i8 m] W (RetV (midL m) W):=by
  unfold midL RetV
  by_cases h:m % 8=4
  · rw [if_pos h]
    go_enter Tryd.func77,Tryd.ntmps77
    go_wp2
    go_ret
    exact ⟨_,rfl,one_own W 36 (Nat.le_refl _),below_new (Below.refl _ _) _⟩
  · rw [if_neg h]
    have eb:(m % 8 == 4)=false:=by simpa using h
    clear h
    go_enter Tryd.func77,Tryd.ntmps77
    go_wp2
    go_ret
    exact ⟨_,rfl,Bts.nil _ _,Below.refl _ _⟩
set_option maxHeartbeats 1000000 in
theorem operand_n (q:Bool) (r m:Int) (xa:Option Addr) (l c:Nat) (zs:List Int) (W:World) (hE:BytesAt W xa l c zs) (hl:l ≤ 1000):
    Calls Tryd.prog 76 #[.int .u8 (if q then 192 else 128),.int .i8 r,.int .i8 m,.slice xa l c] W (RetV ([opI (if q then 192 else 128) r m] ++ zs) W):=by
  have ea:=Lib.hid (op_or q r m)
  have EB:=Lib.hid (opI_bd (k:=if q then 192 else 128) (r:=r) (m:=m) (by cases q <;> decide))
  have HE:=Lib.hid hE
  clear hE
  unfold RetV
  generalize opI (if q then 192 else 128) r m=z at *
  generalize (if q then (192:Int) else 128)=k at *
  go_enter Tryd.func76,Tryd.ntmps76
  go_wp2_with (at_builtin;refine wpList_append_b rfl _ _ rfl W.heap.size _ _ rfl (one_own W _ (Nat.le_refl _)) _ l c zs rfl (HE.out.below (below_new (Below.refl _ _) _)) (by simp;omega) (by simp) ?_)
  intro v8 w8 o8 g8
  have B8:=Lib.hid (below_grown (below_new (Below.refl _ W) _) g8 (fun j hj=>by simp [Value.ownBlock] at hj;omega))
  have O8:=Lib.hid (show Bts W.heap.size w8 v8 ([z] ++ zs) by rw [← ea.out];exact o8)
  clear o8 g8
  go_wp2_with fail
  go_ret
  exact ⟨_,rfl,O8.out,B8.out⟩
theorem regs_n (r m:Int) (W:World):Calls Tryd.prog 60 #[.int .i8 r,.int .i8 m] W (RetB (bif bothB r m then regL r m else []) (bif bothB r m then 0 else 2) W):=by
  have B:=Lib.hid (fun W=>both_n r m W)
  unfold RetB
  cases h:bothB r m
  · rw [h] at B
    go_enter Tryd.func60,Tryd.ntmps60
    go_wp2_with fail
    refine (B.out _).mono ?_
    rintro e w1 ⟨rfl,rfl⟩
    go_wp2_with fail
    go_ret2
    exact ⟨_,rfl,Bts.nil _ _,Below.refl _ _⟩
  · rw [h] at B
    have O:=Lib.hid (fun W=>operand_n true r m none 0 0 [] W (BytesAt.nil W) (by omega))
    clear h
    go_enter Tryd.func60,Tryd.ntmps60
    go_wp2_with fail
    refine (B.out _).mono ?_
    rintro e w1 ⟨rfl,rfl⟩
    go_wp2_with fail
    refine (O.out _).mono ?_
    rintro e w1 ⟨v,rfl,o1,b1⟩
    go_wp2_with fail
    go_ret2
    exact ⟨_,rfl,o1,b1⟩
theorem num4_n (d:Int) (h0:-9223372036854775808 ≤ d) (h1:d ≤ 9223372036854775807) (W:World):Calls Tryd.prog 62 #[.int .i64 d,.int .i64 4] W (RetB (bif fitB d 4 then numL d 4 else []) (bif fitB d 4 then 0 else 2) W):=num_n d 4 h0 h1 W
def MemB (r m d:Int) (W:World):Ending → World → Prop:=RetB (bif memB r m d then memL r m d else []) (bif memB r m d then 0 else 2) W
set_option maxHeartbeats 2000000 in
theorem mem_n (r m d:Int) (h0:-9223372036854775808 ≤ d) (h1:d ≤ 9223372036854775807) (W:World):Calls Tryd.prog 58 #[.int .i8 r,.int .i8 m,.int .i64 d] W (MemB r m d W):=by
  have B:=Lib.hid (fun W=>both_n r m W)
  have D:=Lib.hid (fun W=>num4_n d h0 h1 W)
  clear h0 h1
  unfold MemB memB
  cases h:bothB r m
  · rw [h] at B
    unfold RetB
    go_enter Tryd.func58,Tryd.ntmps58
    go_wp2_with fail
    refine (D.out _).mono ?_
    rintro e w1 ⟨v1,rfl,o1,b1⟩
    go_wp2_with fail
    refine (B.out _).mono ?_
    rintro e w2 ⟨rfl,rfl⟩
    go_wp2_with fail
    go_ret2
    exact ⟨_,rfl,Bts.nil _ _,b1⟩
  · rw [h] at B
    have hm:=(bothB_iff.1 h).2
    cases g:fitB d 4
    · rw [g] at D
      unfold RetB
      go_enter Tryd.func58,Tryd.ntmps58
      go_wp2_with fail
      refine (D.out _).mono ?_
      rintro e w1 ⟨v1,rfl,o1,b1⟩
      go_wp2_with fail
      refine (B.out _).mono ?_
      rintro e w2 ⟨rfl,rfl⟩
      go_wp2_with fail
      go_ret2
      exact ⟨_,rfl,Bts.nil _ _,b1⟩
    · rw [g] at D
      have BT:=Lib.hid (fun W=>between_n m hm.1 hm.2 W)
      have OP:=Lib.hid (fun xa l c zs W hE hl=>operand_n false r m xa l c zs W hE hl)
      have OK1:=Lib.hid (numL_ok d 4)
      have OK2:=Lib.hid ((midL_ok m).append (numL_ok d 4))
      have HL:=Lib.hid (numL_length d 4)
      have HM:=Lib.hid (show (midL m).length ≤ 1 by unfold midL;split <;> simp)
      clear h g hm
      show Calls _ _ _ _ (RetB (memL r m d) 0 W)
      unfold RetB memL
      generalize numL d 4=nl at *
      generalize midL m=ml at *
      have H5:=Lib.hid (show (ml ++ nl).length ≤ 1000 by rw [List.length_append];have:=HL.out;have:=HM.out;omega)
      generalize hL:ml ++ nl=L at *
      have EL:=Lib.hid hL
      clear hL
      go_enter Tryd.func58,Tryd.ntmps58
      go_wp2_with fail
      refine (D.out _).mono ?_
      rintro e w1 ⟨v1,rfl,o1,b1⟩
      obtain ⟨xa,c,rfl,E1⟩:=o1.at OK1.out
      have E1:=Lib.hid E1
      have B1:=Lib.hid b1
      clear o1 b1 D
      go_wp2_with fail
      refine (B.out _).mono ?_
      rintro e w2 ⟨rfl,rfl⟩
      go_wp2_with fail
      refine (BT.out _).mono ?_
      rintro e w2 ⟨v2,rfl,o2,b2⟩
      have O2:=Lib.hid o2
      have E2:=Lib.hid (E1.out.below b2)
      have B2:=Lib.hid (below_call B1.out b2)
      have S12:=Lib.hid (Nat.le_trans b2.size (Nat.le_refl _))
      clear o2 b2 B BT E1
      go_wp2_with (at_builtin;refine wpList_append_b rfl _ _ rfl w1.heap.size _ ml rfl O2.out _ _ _ nl rfl E2.out (by have:=HL.out;have:=HM.out;omega) S12.out ?_)
      intro v3 w3 o3 g3
      have B3:=Lib.hid (below_grown B2.out g3 (fun j hj=>Nat.le_trans B1.out.size (O2.out.lt j hj)))
      clear g3
      rw [EL.out] at o3
      obtain ⟨ya,cy,rfl,E3⟩:=o3.at OK2.out
      clear o3
      have E3:=Lib.hid E3
      generalize L.length=n at *
      go_wp2_with fail
      refine (OP.out _ _ _ _ _ E3.out H5.out).mono ?_
      rintro e w4 ⟨v4,rfl,o4,b4⟩
      have O4:=Lib.hid (o4.mono B3.out.size)
      have B4:=Lib.hid (below_call B3.out b4)
      clear o4 b4
      go_wp2_with fail
      go_ret2
      exact ⟨_,rfl,O4.out,B4.out⟩
end Go.Proofs.YtjhjpllgoakncaaDoor.Mrm
namespace Go.Proofs.YtjhjpllgoakncaaDoor.Mrm
open Go Go.RowKit
set_option linter.unusedVariables false
set_option linter.unusedSimpArgs false
set_option linter.unnecessarySimpa false
set_option maxRecDepth 100000
structure Cd where
  sh:Int
  wd:Int
  va:Int
  dg:Int
  lo:Int
deriving DecidableEq
structure Pt where
  reg:Int
  rm:Int
  disp:Int
  imm:Int
  cc:Int
deriving DecidableEq
def zCd:Cd:=⟨0,0,0,0,0⟩
def codesL:List Cd:=[⟨1,96,137,0,0⟩,⟨3,64,199,0,0⟩,⟨1,96,1,0,0⟩,⟨1,96,9,0,0⟩,⟨1,96,33,0,0⟩,⟨1,96,41,0,0⟩,⟨1,96,49,0,0⟩,⟨1,96,57,0,0⟩,⟨1,96,133,0,0⟩,⟨3,96,129,0,0⟩,⟨3,96,129,1,0⟩,⟨3,96,129,4,0⟩,⟨3,96,129,5,0⟩,⟨3,96,129,6,0⟩,⟨3,96,129,7,0⟩,⟨3,96,247,0,0⟩,⟨2,96,4015,0,0⟩,⟨4,96,193,4,0⟩,⟨4,96,193,5,0⟩,⟨4,96,193,7,0⟩,⟨5,96,211,4,0⟩,⟨5,96,211,5,0⟩,⟨5,96,211,7,0⟩,⟨5,96,247,3,0⟩,⟨5,96,247,6,0⟩,⟨2,96,3904,0,15⟩,⟨7,96,139,0,0⟩,⟨8,112,137,0,0⟩,⟨9,32,233,0,0⟩,⟨9,32,3968,0,15⟩,⟨0,0,195,0,0⟩,⟨0,0,3845,0,0⟩]
def othersL:List (Int × Cd):=[(1,⟨6,32,184,0,7⟩),(26,⟨7,8,4022,0,0⟩),(26,⟨7,16,4023,0,0⟩),(27,⟨8,8,136,0,0⟩),(28,⟨10,8,235,0,0⟩),(29,⟨10,8,112,0,15⟩)]
def codeA (op:Int):Cd:=codesL.getD op.toNat zCd
def hasB (c:Cd) (w:Int):Bool:=bif c.wd == 0 then w == 0 else (widB w && (bits .and .i8 c.wd w != 0))
def ofO:Option (Int × Cd) → Cd × Bool
  | some o=>(o.2,true)
  | none=>(zCd,false)
def codeOfP (op w:Int):Cd × Bool:=
  if op < 0 ∨ 32 ≤ op then (zCd,false) else
  if hasB (codeA op) w then (codeA op,true) else
  ofO (othersL.find? (fun o=>o.1 == op && hasB o.2 w))
def partsP (x:Xi) (c:Cd):Pt:=
  bif c.sh == 1 then ⟨x.src,x.dst,x.disp,x.imm,x.cc⟩ else
  bif c.sh == 2 then ⟨x.dst,x.src,x.disp,x.imm,x.cc⟩ else
  bif c.sh == 3 then ⟨c.dg,x.dst,x.disp,x.imm,x.cc⟩ else
  bif c.sh == 4 then ⟨c.dg,x.dst,x.disp,x.imm,x.cc⟩ else
  bif c.sh == 5 then ⟨c.dg,x.dst,x.disp,x.imm,x.cc⟩ else
  bif c.sh == 6 then ⟨c.dg,x.dst,x.disp,x.imm,x.cc⟩ else
  bif c.sh == 7 then ⟨x.dst,x.base,x.disp,x.imm,x.cc⟩ else
  bif c.sh == 8 then ⟨x.src,x.base,x.disp,x.imm,x.cc⟩ else ⟨0,0,x.disp,x.imm,x.cc⟩
def fillCc (c:Cd) (p:Pt):Int:=bif c.lo == 15 then p.cc else 0
def filledP (op w:Int) (c:Cd) (p:Pt):Xi:=
  bif c.sh == 1 then ⟨op,w,p.rm,p.reg,0,0,0,fillCc c p⟩ else
  bif c.sh == 2 then ⟨op,w,p.reg,p.rm,0,0,0,fillCc c p⟩ else
  bif c.sh == 3 then ⟨op,w,p.rm,0,0,0,p.imm,fillCc c p⟩ else
  bif c.sh == 4 then ⟨op,w,p.rm,0,0,0,p.imm,fillCc c p⟩ else
  bif c.sh == 6 then ⟨op,w,p.rm,0,0,0,p.imm,fillCc c p⟩ else
  bif c.sh == 5 then ⟨op,w,p.rm,0,0,0,0,fillCc c p⟩ else
  bif c.sh == 7 then ⟨op,w,p.reg,0,p.rm,p.disp,0,fillCc c p⟩ else
  bif c.sh == 8 then ⟨op,w,0,p.reg,p.rm,p.disp,0,fillCc c p⟩ else
  bif c.sh == 9 then ⟨op,w,0,0,0,0,p.imm,fillCc c p⟩ else
  bif c.sh == 10 then ⟨op,w,0,0,0,0,p.imm,fillCc c p⟩ else ⟨op,w,0,0,0,0,0,fillCc c p⟩
def fitsP (x:Xi) (c:Cd):Bool:=
  regB x.dst && (regB x.src && (regB x.base && (!(c.lo == 15 && !(ccB x.cc)) &&
  (bif c.sh == 4 then (decide (0 ≤ x.imm) && decide (x.imm < x.w)) else bif c.sh == 10 then oneB x.imm else (fourB x.imm && fourB x.disp)))))
def mayP (x:Xi):Bool:=(codeOfP x.op x.w).2 && (eqX x (filledP x.op x.w (codeOfP x.op x.w).1 (partsP x (codeOfP x.op x.w).1)) && fitsP x (codeOfP x.op x.w).1)
def valP (c:Cd) (p:Pt):Int:=bif c.lo == 15 then c.va + p.cc else bif c.sh == 6 then c.va + p.rm % 8 else c.va
def halfP (w:Int) (c:Cd):Bool:=c.sh == 8 && w == 16
def rexP (w:Int) (c:Cd) (p:Pt):Bool:=(c.sh == 8 && w == 8) || (w == 64 || needB p.reg p.rm)
def aheadP (w:Int) (c:Cd) (p:Pt):List Int:=
  (bif halfP w c then [102] else []) ++ ((bif rexP w c p then [rexI (w == 64) p.reg p.rm] else []) ++ ((bif valP c p / 256 % 256 != 0 then [valP c p / 256 % 256] else []) ++ [valP c p % 256]))
def inMemB (s:Int):Bool:=s == 7 || s == 8
def inOpB (s:Int):Bool:=s == 1 || (s == 2 || (s == 3 || (s == 4 || (s == 5 || (s == 7 || s == 8)))))
def immN (s:Int):Int:=bif (s == 3 || (s == 6 || s == 9)) then 4 else bif (s == 4 || s == 10) then 1 else 0
def operandP (c:Cd) (p:Pt):List Int:=bif inMemB c.sh then memL p.reg p.rm p.disp else bif inOpB c.sh then regL p.reg p.rm else []
def immP (c:Cd) (p:Pt):List Int:=numL p.imm (immN c.sh).toNat
def encP (w:Int) (c:Cd) (p:Pt):List Int:=(aheadP w c p ++ operandP c p) ++ immP c p
def encX (x:Xi):List Int:=encP x.w (codeOfP x.op x.w).1 (partsP x (codeOfP x.op x.w).1)
end Go.Proofs.YtjhjpllgoakncaaDoor.Mrm
