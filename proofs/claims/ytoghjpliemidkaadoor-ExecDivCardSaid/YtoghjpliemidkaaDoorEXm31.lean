import Derived.Test.YtoghjpliemidkaaDoorEXm17
import Derived.Test.YtoghjpliemidkaaDoorEXm30
set_option linter.unusedVariables false
set_option linter.unusedSimpArgs false
set_option linter.unnecessarySimpa false
namespace Go.Proofs.YtoghjpliemidkaaDoor.Mrm
open Go Go.RowKit
set_option linter.unusedVariables false
set_option linter.unusedSimpArgs false
set_option linter.unnecessarySimpa false
set_option maxRecDepth 100000
theorem rex_is (wide al:Bool) (r m:Int) (hr:0 ≤ r ∧ r < 16) (hm:0 ≤ m ∧ m < 16):(bif (al || (wide || needB r m)) then [rexI wide r m] else [])=rexL wide r m al:=by
  have hb:bothB r m=true:=bothB_iff.2 ⟨hr,hm⟩
  unfold needB rexL rexN rexI
  rw [hb,show decide (7 < r)=decide (8 ≤ r) from decide_eq_decide.2 ⟨fun h=>by omega,fun h=>by omega⟩,show decide (7 < m)=decide (8 ≤ m) from decide_eq_decide.2 ⟨fun h=>by omega,fun h=>by omega⟩]
  cases wide <;> cases al <;> cases decide (8 ≤ r) <;> cases decide (8 ≤ m) <;> rfl
theorem numL0 (v:Int):numL v 0=[]:=rfl
theorem numL1 (v:Int):numL v 1=[v % 256]:=by show [v / 2 ^ (8 * 0) % 256]=_;simp
theorem en_0_32 (dst src base disp imm cc:Int) (hd:0 ≤ dst ∧ dst < 16) (hs:0 ≤ src ∧ src < 16) (hb:0 ≤ base ∧ base < 16):encX ⟨0,32,dst,src,base,disp,imm,cc⟩=bytesX ⟨0,32,dst,src,base,disp,imm,cc⟩:=by
  have e:codeOfP 0 32=(⟨1,96,137,0,0⟩,true):=by decide +kernel
  have h1:encX ⟨0,32,dst,src,base,disp,imm,cc⟩=((([] ++ ((bif (false || (false || needB src dst)) then [rexI false src dst] else []) ++ ((bif ((137:Int) / 256 % 256 != 0) then [(137:Int) / 256 % 256] else []) ++ [(137:Int) % 256]))) ++ regL src dst) ++ numL imm 0):=by unfold encX;simp only [e];rfl
  rw [h1,rex_is false false src dst hs hd,show (137:Int) / 256 % 256=0 from by omega,show (137:Int) % 256=137 from by omega]
  rw [show (bif (((0:Int)) != 0) then [(0:Int)] else [])=[] from rfl]
  have h2:bytesX ⟨0,32,dst,src,base,disp,imm,cc⟩=rexL false src dst false ++ [137,opI 192 src dst]:=by rfl
  rw [h2]
  simp only [numL0,regL,memL,List.nil_append,List.append_nil,List.append_assoc,List.cons_append,List.singleton_append]
theorem en_0_64 (dst src base disp imm cc:Int) (hd:0 ≤ dst ∧ dst < 16) (hs:0 ≤ src ∧ src < 16) (hb:0 ≤ base ∧ base < 16):encX ⟨0,64,dst,src,base,disp,imm,cc⟩=bytesX ⟨0,64,dst,src,base,disp,imm,cc⟩:=by
  have e:codeOfP 0 64=(⟨1,96,137,0,0⟩,true):=by decide +kernel
  have h1:encX ⟨0,64,dst,src,base,disp,imm,cc⟩=((([] ++ ((bif (false || (true || needB src dst)) then [rexI true src dst] else []) ++ ((bif ((137:Int) / 256 % 256 != 0) then [(137:Int) / 256 % 256] else []) ++ [(137:Int) % 256]))) ++ regL src dst) ++ numL imm 0):=by unfold encX;simp only [e];rfl
  rw [h1,rex_is true false src dst hs hd,show (137:Int) / 256 % 256=0 from by omega,show (137:Int) % 256=137 from by omega]
  rw [show (bif (((0:Int)) != 0) then [(0:Int)] else [])=[] from rfl]
  have h2:bytesX ⟨0,64,dst,src,base,disp,imm,cc⟩=rexL true src dst false ++ [137,opI 192 src dst]:=by rfl
  rw [h2]
  simp only [numL0,regL,memL,List.nil_append,List.append_nil,List.append_assoc,List.cons_append,List.singleton_append]
theorem en_1_32 (dst src base disp imm cc:Int) (hd:0 ≤ dst ∧ dst < 16) (hs:0 ≤ src ∧ src < 16) (hb:0 ≤ base ∧ base < 16):encX ⟨1,32,dst,src,base,disp,imm,cc⟩=bytesX ⟨1,32,dst,src,base,disp,imm,cc⟩:=by
  have e:codeOfP 1 32=(⟨6,32,184,0,7⟩,true):=by decide +kernel
  have h1:encX ⟨1,32,dst,src,base,disp,imm,cc⟩=((([] ++ ((bif (false || (false || needB 0 dst)) then [rexI false 0 dst] else []) ++ ((bif ((184 + dst % 8) / 256 % 256 != 0) then [(184 + dst % 8) / 256 % 256] else []) ++ [(184 + dst % 8) % 256]))) ++ []) ++ numL imm 4):=by unfold encX;simp only [e];rfl
  rw [h1,rex_is false false 0 dst (by decide) hd,show (184 + dst % 8) / 256 % 256=0 from by omega,show (184 + dst % 8) % 256=184 + dst % 8 from by omega]
  rw [show (bif (((0:Int)) != 0) then [(0:Int)] else [])=[] from rfl]
  have h2:bytesX ⟨1,32,dst,src,base,disp,imm,cc⟩=(rexL false 0 dst false ++ [184 + dst % 8]) ++ numL imm 4:=by rfl
  rw [h2]
  simp only [regL,memL,List.nil_append,List.append_nil,List.append_assoc,List.cons_append,List.singleton_append]
theorem en_1_64 (dst src base disp imm cc:Int) (hd:0 ≤ dst ∧ dst < 16) (hs:0 ≤ src ∧ src < 16) (hb:0 ≤ base ∧ base < 16):encX ⟨1,64,dst,src,base,disp,imm,cc⟩=bytesX ⟨1,64,dst,src,base,disp,imm,cc⟩:=by
  have e:codeOfP 1 64=(⟨3,64,199,0,0⟩,true):=by decide +kernel
  have h1:encX ⟨1,64,dst,src,base,disp,imm,cc⟩=((([] ++ ((bif (false || (true || needB 0 dst)) then [rexI true 0 dst] else []) ++ ((bif ((199:Int) / 256 % 256 != 0) then [(199:Int) / 256 % 256] else []) ++ [(199:Int) % 256]))) ++ regL 0 dst) ++ numL imm 4):=by unfold encX;simp only [e];rfl
  rw [h1,rex_is true false 0 dst (by decide) hd,show (199:Int) / 256 % 256=0 from by omega,show (199:Int) % 256=199 from by omega]
  rw [show (bif (((0:Int)) != 0) then [(0:Int)] else [])=[] from rfl]
  have h2:bytesX ⟨1,64,dst,src,base,disp,imm,cc⟩=(rexL true 0 dst false ++ [199,opI 192 0 dst]) ++ numL imm 4:=by rfl
  rw [h2]
  simp only [regL,memL,List.nil_append,List.append_nil,List.append_assoc,List.cons_append,List.singleton_append]
theorem en_2_32 (dst src base disp imm cc:Int) (hd:0 ≤ dst ∧ dst < 16) (hs:0 ≤ src ∧ src < 16) (hb:0 ≤ base ∧ base < 16):encX ⟨2,32,dst,src,base,disp,imm,cc⟩=bytesX ⟨2,32,dst,src,base,disp,imm,cc⟩:=by
  have e:codeOfP 2 32=(⟨1,96,1,0,0⟩,true):=by decide +kernel
  have h1:encX ⟨2,32,dst,src,base,disp,imm,cc⟩=((([] ++ ((bif (false || (false || needB src dst)) then [rexI false src dst] else []) ++ ((bif ((1:Int) / 256 % 256 != 0) then [(1:Int) / 256 % 256] else []) ++ [(1:Int) % 256]))) ++ regL src dst) ++ numL imm 0):=by unfold encX;simp only [e];rfl
  rw [h1,rex_is false false src dst hs hd,show (1:Int) / 256 % 256=0 from by omega,show (1:Int) % 256=1 from by omega]
  rw [show (bif (((0:Int)) != 0) then [(0:Int)] else [])=[] from rfl]
  have h2:bytesX ⟨2,32,dst,src,base,disp,imm,cc⟩=rexL false src dst false ++ [1,opI 192 src dst]:=by rfl
  rw [h2]
  simp only [numL0,regL,memL,List.nil_append,List.append_nil,List.append_assoc,List.cons_append,List.singleton_append]
theorem en_2_64 (dst src base disp imm cc:Int) (hd:0 ≤ dst ∧ dst < 16) (hs:0 ≤ src ∧ src < 16) (hb:0 ≤ base ∧ base < 16):encX ⟨2,64,dst,src,base,disp,imm,cc⟩=bytesX ⟨2,64,dst,src,base,disp,imm,cc⟩:=by
  have e:codeOfP 2 64=(⟨1,96,1,0,0⟩,true):=by decide +kernel
  have h1:encX ⟨2,64,dst,src,base,disp,imm,cc⟩=((([] ++ ((bif (false || (true || needB src dst)) then [rexI true src dst] else []) ++ ((bif ((1:Int) / 256 % 256 != 0) then [(1:Int) / 256 % 256] else []) ++ [(1:Int) % 256]))) ++ regL src dst) ++ numL imm 0):=by unfold encX;simp only [e];rfl
  rw [h1,rex_is true false src dst hs hd,show (1:Int) / 256 % 256=0 from by omega,show (1:Int) % 256=1 from by omega]
  rw [show (bif (((0:Int)) != 0) then [(0:Int)] else [])=[] from rfl]
  have h2:bytesX ⟨2,64,dst,src,base,disp,imm,cc⟩=rexL true src dst false ++ [1,opI 192 src dst]:=by rfl
  rw [h2]
  simp only [numL0,regL,memL,List.nil_append,List.append_nil,List.append_assoc,List.cons_append,List.singleton_append]
theorem en_3_32 (dst src base disp imm cc:Int) (hd:0 ≤ dst ∧ dst < 16) (hs:0 ≤ src ∧ src < 16) (hb:0 ≤ base ∧ base < 16):encX ⟨3,32,dst,src,base,disp,imm,cc⟩=bytesX ⟨3,32,dst,src,base,disp,imm,cc⟩:=by
  have e:codeOfP 3 32=(⟨1,96,9,0,0⟩,true):=by decide +kernel
  have h1:encX ⟨3,32,dst,src,base,disp,imm,cc⟩=((([] ++ ((bif (false || (false || needB src dst)) then [rexI false src dst] else []) ++ ((bif ((9:Int) / 256 % 256 != 0) then [(9:Int) / 256 % 256] else []) ++ [(9:Int) % 256]))) ++ regL src dst) ++ numL imm 0):=by unfold encX;simp only [e];rfl
  rw [h1,rex_is false false src dst hs hd,show (9:Int) / 256 % 256=0 from by omega,show (9:Int) % 256=9 from by omega]
  rw [show (bif (((0:Int)) != 0) then [(0:Int)] else [])=[] from rfl]
  have h2:bytesX ⟨3,32,dst,src,base,disp,imm,cc⟩=rexL false src dst false ++ [9,opI 192 src dst]:=by rfl
  rw [h2]
  simp only [numL0,regL,memL,List.nil_append,List.append_nil,List.append_assoc,List.cons_append,List.singleton_append]
theorem en_3_64 (dst src base disp imm cc:Int) (hd:0 ≤ dst ∧ dst < 16) (hs:0 ≤ src ∧ src < 16) (hb:0 ≤ base ∧ base < 16):encX ⟨3,64,dst,src,base,disp,imm,cc⟩=bytesX ⟨3,64,dst,src,base,disp,imm,cc⟩:=by
  have e:codeOfP 3 64=(⟨1,96,9,0,0⟩,true):=by decide +kernel
  have h1:encX ⟨3,64,dst,src,base,disp,imm,cc⟩=((([] ++ ((bif (false || (true || needB src dst)) then [rexI true src dst] else []) ++ ((bif ((9:Int) / 256 % 256 != 0) then [(9:Int) / 256 % 256] else []) ++ [(9:Int) % 256]))) ++ regL src dst) ++ numL imm 0):=by unfold encX;simp only [e];rfl
  rw [h1,rex_is true false src dst hs hd,show (9:Int) / 256 % 256=0 from by omega,show (9:Int) % 256=9 from by omega]
  rw [show (bif (((0:Int)) != 0) then [(0:Int)] else [])=[] from rfl]
  have h2:bytesX ⟨3,64,dst,src,base,disp,imm,cc⟩=rexL true src dst false ++ [9,opI 192 src dst]:=by rfl
  rw [h2]
  simp only [numL0,regL,memL,List.nil_append,List.append_nil,List.append_assoc,List.cons_append,List.singleton_append]
theorem en_4_32 (dst src base disp imm cc:Int) (hd:0 ≤ dst ∧ dst < 16) (hs:0 ≤ src ∧ src < 16) (hb:0 ≤ base ∧ base < 16):encX ⟨4,32,dst,src,base,disp,imm,cc⟩=bytesX ⟨4,32,dst,src,base,disp,imm,cc⟩:=by
  have e:codeOfP 4 32=(⟨1,96,33,0,0⟩,true):=by decide +kernel
  have h1:encX ⟨4,32,dst,src,base,disp,imm,cc⟩=((([] ++ ((bif (false || (false || needB src dst)) then [rexI false src dst] else []) ++ ((bif ((33:Int) / 256 % 256 != 0) then [(33:Int) / 256 % 256] else []) ++ [(33:Int) % 256]))) ++ regL src dst) ++ numL imm 0):=by unfold encX;simp only [e];rfl
  rw [h1,rex_is false false src dst hs hd,show (33:Int) / 256 % 256=0 from by omega,show (33:Int) % 256=33 from by omega]
  rw [show (bif (((0:Int)) != 0) then [(0:Int)] else [])=[] from rfl]
  have h2:bytesX ⟨4,32,dst,src,base,disp,imm,cc⟩=rexL false src dst false ++ [33,opI 192 src dst]:=by rfl
  rw [h2]
  simp only [numL0,regL,memL,List.nil_append,List.append_nil,List.append_assoc,List.cons_append,List.singleton_append]
theorem en_4_64 (dst src base disp imm cc:Int) (hd:0 ≤ dst ∧ dst < 16) (hs:0 ≤ src ∧ src < 16) (hb:0 ≤ base ∧ base < 16):encX ⟨4,64,dst,src,base,disp,imm,cc⟩=bytesX ⟨4,64,dst,src,base,disp,imm,cc⟩:=by
  have e:codeOfP 4 64=(⟨1,96,33,0,0⟩,true):=by decide +kernel
  have h1:encX ⟨4,64,dst,src,base,disp,imm,cc⟩=((([] ++ ((bif (false || (true || needB src dst)) then [rexI true src dst] else []) ++ ((bif ((33:Int) / 256 % 256 != 0) then [(33:Int) / 256 % 256] else []) ++ [(33:Int) % 256]))) ++ regL src dst) ++ numL imm 0):=by unfold encX;simp only [e];rfl
  rw [h1,rex_is true false src dst hs hd,show (33:Int) / 256 % 256=0 from by omega,show (33:Int) % 256=33 from by omega]
  rw [show (bif (((0:Int)) != 0) then [(0:Int)] else [])=[] from rfl]
  have h2:bytesX ⟨4,64,dst,src,base,disp,imm,cc⟩=rexL true src dst false ++ [33,opI 192 src dst]:=by rfl
  rw [h2]
  simp only [numL0,regL,memL,List.nil_append,List.append_nil,List.append_assoc,List.cons_append,List.singleton_append]
theorem en_5_32 (dst src base disp imm cc:Int) (hd:0 ≤ dst ∧ dst < 16) (hs:0 ≤ src ∧ src < 16) (hb:0 ≤ base ∧ base < 16):encX ⟨5,32,dst,src,base,disp,imm,cc⟩=bytesX ⟨5,32,dst,src,base,disp,imm,cc⟩:=by
  have e:codeOfP 5 32=(⟨1,96,41,0,0⟩,true):=by decide +kernel
  have h1:encX ⟨5,32,dst,src,base,disp,imm,cc⟩=((([] ++ ((bif (false || (false || needB src dst)) then [rexI false src dst] else []) ++ ((bif ((41:Int) / 256 % 256 != 0) then [(41:Int) / 256 % 256] else []) ++ [(41:Int) % 256]))) ++ regL src dst) ++ numL imm 0):=by unfold encX;simp only [e];rfl
  rw [h1,rex_is false false src dst hs hd,show (41:Int) / 256 % 256=0 from by omega,show (41:Int) % 256=41 from by omega]
  rw [show (bif (((0:Int)) != 0) then [(0:Int)] else [])=[] from rfl]
  have h2:bytesX ⟨5,32,dst,src,base,disp,imm,cc⟩=rexL false src dst false ++ [41,opI 192 src dst]:=by rfl
  rw [h2]
  simp only [numL0,regL,memL,List.nil_append,List.append_nil,List.append_assoc,List.cons_append,List.singleton_append]
theorem en_5_64 (dst src base disp imm cc:Int) (hd:0 ≤ dst ∧ dst < 16) (hs:0 ≤ src ∧ src < 16) (hb:0 ≤ base ∧ base < 16):encX ⟨5,64,dst,src,base,disp,imm,cc⟩=bytesX ⟨5,64,dst,src,base,disp,imm,cc⟩:=by
  have e:codeOfP 5 64=(⟨1,96,41,0,0⟩,true):=by decide +kernel
  have h1:encX ⟨5,64,dst,src,base,disp,imm,cc⟩=((([] ++ ((bif (false || (true || needB src dst)) then [rexI true src dst] else []) ++ ((bif ((41:Int) / 256 % 256 != 0) then [(41:Int) / 256 % 256] else []) ++ [(41:Int) % 256]))) ++ regL src dst) ++ numL imm 0):=by unfold encX;simp only [e];rfl
  rw [h1,rex_is true false src dst hs hd,show (41:Int) / 256 % 256=0 from by omega,show (41:Int) % 256=41 from by omega]
  rw [show (bif (((0:Int)) != 0) then [(0:Int)] else [])=[] from rfl]
  have h2:bytesX ⟨5,64,dst,src,base,disp,imm,cc⟩=rexL true src dst false ++ [41,opI 192 src dst]:=by rfl
  rw [h2]
  simp only [numL0,regL,memL,List.nil_append,List.append_nil,List.append_assoc,List.cons_append,List.singleton_append]
theorem en_6_32 (dst src base disp imm cc:Int) (hd:0 ≤ dst ∧ dst < 16) (hs:0 ≤ src ∧ src < 16) (hb:0 ≤ base ∧ base < 16):encX ⟨6,32,dst,src,base,disp,imm,cc⟩=bytesX ⟨6,32,dst,src,base,disp,imm,cc⟩:=by
  have e:codeOfP 6 32=(⟨1,96,49,0,0⟩,true):=by decide +kernel
  have h1:encX ⟨6,32,dst,src,base,disp,imm,cc⟩=((([] ++ ((bif (false || (false || needB src dst)) then [rexI false src dst] else []) ++ ((bif ((49:Int) / 256 % 256 != 0) then [(49:Int) / 256 % 256] else []) ++ [(49:Int) % 256]))) ++ regL src dst) ++ numL imm 0):=by unfold encX;simp only [e];rfl
  rw [h1,rex_is false false src dst hs hd,show (49:Int) / 256 % 256=0 from by omega,show (49:Int) % 256=49 from by omega]
  rw [show (bif (((0:Int)) != 0) then [(0:Int)] else [])=[] from rfl]
  have h2:bytesX ⟨6,32,dst,src,base,disp,imm,cc⟩=rexL false src dst false ++ [49,opI 192 src dst]:=by rfl
  rw [h2]
  simp only [numL0,regL,memL,List.nil_append,List.append_nil,List.append_assoc,List.cons_append,List.singleton_append]
theorem en_6_64 (dst src base disp imm cc:Int) (hd:0 ≤ dst ∧ dst < 16) (hs:0 ≤ src ∧ src < 16) (hb:0 ≤ base ∧ base < 16):encX ⟨6,64,dst,src,base,disp,imm,cc⟩=bytesX ⟨6,64,dst,src,base,disp,imm,cc⟩:=by
  have e:codeOfP 6 64=(⟨1,96,49,0,0⟩,true):=by decide +kernel
  have h1:encX ⟨6,64,dst,src,base,disp,imm,cc⟩=((([] ++ ((bif (false || (true || needB src dst)) then [rexI true src dst] else []) ++ ((bif ((49:Int) / 256 % 256 != 0) then [(49:Int) / 256 % 256] else []) ++ [(49:Int) % 256]))) ++ regL src dst) ++ numL imm 0):=by unfold encX;simp only [e];rfl
  rw [h1,rex_is true false src dst hs hd,show (49:Int) / 256 % 256=0 from by omega,show (49:Int) % 256=49 from by omega]
  rw [show (bif (((0:Int)) != 0) then [(0:Int)] else [])=[] from rfl]
  have h2:bytesX ⟨6,64,dst,src,base,disp,imm,cc⟩=rexL true src dst false ++ [49,opI 192 src dst]:=by rfl
  rw [h2]
  simp only [numL0,regL,memL,List.nil_append,List.append_nil,List.append_assoc,List.cons_append,List.singleton_append]
theorem en_7_32 (dst src base disp imm cc:Int) (hd:0 ≤ dst ∧ dst < 16) (hs:0 ≤ src ∧ src < 16) (hb:0 ≤ base ∧ base < 16):encX ⟨7,32,dst,src,base,disp,imm,cc⟩=bytesX ⟨7,32,dst,src,base,disp,imm,cc⟩:=by
  have e:codeOfP 7 32=(⟨1,96,57,0,0⟩,true):=by decide +kernel
  have h1:encX ⟨7,32,dst,src,base,disp,imm,cc⟩=((([] ++ ((bif (false || (false || needB src dst)) then [rexI false src dst] else []) ++ ((bif ((57:Int) / 256 % 256 != 0) then [(57:Int) / 256 % 256] else []) ++ [(57:Int) % 256]))) ++ regL src dst) ++ numL imm 0):=by unfold encX;simp only [e];rfl
  rw [h1,rex_is false false src dst hs hd,show (57:Int) / 256 % 256=0 from by omega,show (57:Int) % 256=57 from by omega]
  rw [show (bif (((0:Int)) != 0) then [(0:Int)] else [])=[] from rfl]
  have h2:bytesX ⟨7,32,dst,src,base,disp,imm,cc⟩=rexL false src dst false ++ [57,opI 192 src dst]:=by rfl
  rw [h2]
  simp only [numL0,regL,memL,List.nil_append,List.append_nil,List.append_assoc,List.cons_append,List.singleton_append]
theorem en_7_64 (dst src base disp imm cc:Int) (hd:0 ≤ dst ∧ dst < 16) (hs:0 ≤ src ∧ src < 16) (hb:0 ≤ base ∧ base < 16):encX ⟨7,64,dst,src,base,disp,imm,cc⟩=bytesX ⟨7,64,dst,src,base,disp,imm,cc⟩:=by
  have e:codeOfP 7 64=(⟨1,96,57,0,0⟩,true):=by decide +kernel
  have h1:encX ⟨7,64,dst,src,base,disp,imm,cc⟩=((([] ++ ((bif (false || (true || needB src dst)) then [rexI true src dst] else []) ++ ((bif ((57:Int) / 256 % 256 != 0) then [(57:Int) / 256 % 256] else []) ++ [(57:Int) % 256]))) ++ regL src dst) ++ numL imm 0):=by unfold encX;simp only [e];rfl
  rw [h1,rex_is true false src dst hs hd,show (57:Int) / 256 % 256=0 from by omega,show (57:Int) % 256=57 from by omega]
  rw [show (bif (((0:Int)) != 0) then [(0:Int)] else [])=[] from rfl]
  have h2:bytesX ⟨7,64,dst,src,base,disp,imm,cc⟩=rexL true src dst false ++ [57,opI 192 src dst]:=by rfl
  rw [h2]
  simp only [numL0,regL,memL,List.nil_append,List.append_nil,List.append_assoc,List.cons_append,List.singleton_append]
theorem en_8_32 (dst src base disp imm cc:Int) (hd:0 ≤ dst ∧ dst < 16) (hs:0 ≤ src ∧ src < 16) (hb:0 ≤ base ∧ base < 16):encX ⟨8,32,dst,src,base,disp,imm,cc⟩=bytesX ⟨8,32,dst,src,base,disp,imm,cc⟩:=by
  have e:codeOfP 8 32=(⟨1,96,133,0,0⟩,true):=by decide +kernel
  have h1:encX ⟨8,32,dst,src,base,disp,imm,cc⟩=((([] ++ ((bif (false || (false || needB src dst)) then [rexI false src dst] else []) ++ ((bif ((133:Int) / 256 % 256 != 0) then [(133:Int) / 256 % 256] else []) ++ [(133:Int) % 256]))) ++ regL src dst) ++ numL imm 0):=by unfold encX;simp only [e];rfl
  rw [h1,rex_is false false src dst hs hd,show (133:Int) / 256 % 256=0 from by omega,show (133:Int) % 256=133 from by omega]
  rw [show (bif (((0:Int)) != 0) then [(0:Int)] else [])=[] from rfl]
  have h2:bytesX ⟨8,32,dst,src,base,disp,imm,cc⟩=rexL false src dst false ++ [133,opI 192 src dst]:=by rfl
  rw [h2]
  simp only [numL0,regL,memL,List.nil_append,List.append_nil,List.append_assoc,List.cons_append,List.singleton_append]
theorem en_8_64 (dst src base disp imm cc:Int) (hd:0 ≤ dst ∧ dst < 16) (hs:0 ≤ src ∧ src < 16) (hb:0 ≤ base ∧ base < 16):encX ⟨8,64,dst,src,base,disp,imm,cc⟩=bytesX ⟨8,64,dst,src,base,disp,imm,cc⟩:=by
  have e:codeOfP 8 64=(⟨1,96,133,0,0⟩,true):=by decide +kernel
  have h1:encX ⟨8,64,dst,src,base,disp,imm,cc⟩=((([] ++ ((bif (false || (true || needB src dst)) then [rexI true src dst] else []) ++ ((bif ((133:Int) / 256 % 256 != 0) then [(133:Int) / 256 % 256] else []) ++ [(133:Int) % 256]))) ++ regL src dst) ++ numL imm 0):=by unfold encX;simp only [e];rfl
  rw [h1,rex_is true false src dst hs hd,show (133:Int) / 256 % 256=0 from by omega,show (133:Int) % 256=133 from by omega]
  rw [show (bif (((0:Int)) != 0) then [(0:Int)] else [])=[] from rfl]
  have h2:bytesX ⟨8,64,dst,src,base,disp,imm,cc⟩=rexL true src dst false ++ [133,opI 192 src dst]:=by rfl
  rw [h2]
  simp only [numL0,regL,memL,List.nil_append,List.append_nil,List.append_assoc,List.cons_append,List.singleton_append]
theorem en_9_32 (dst src base disp imm cc:Int) (hd:0 ≤ dst ∧ dst < 16) (hs:0 ≤ src ∧ src < 16) (hb:0 ≤ base ∧ base < 16):encX ⟨9,32,dst,src,base,disp,imm,cc⟩=bytesX ⟨9,32,dst,src,base,disp,imm,cc⟩:=by
  have e:codeOfP 9 32=(⟨3,96,129,0,0⟩,true):=by decide +kernel
  have h1:encX ⟨9,32,dst,src,base,disp,imm,cc⟩=((([] ++ ((bif (false || (false || needB 0 dst)) then [rexI false 0 dst] else []) ++ ((bif ((129:Int) / 256 % 256 != 0) then [(129:Int) / 256 % 256] else []) ++ [(129:Int) % 256]))) ++ regL 0 dst) ++ numL imm 4):=by unfold encX;simp only [e];rfl
  rw [h1,rex_is false false 0 dst (by decide) hd,show (129:Int) / 256 % 256=0 from by omega,show (129:Int) % 256=129 from by omega]
  rw [show (bif (((0:Int)) != 0) then [(0:Int)] else [])=[] from rfl]
  have h2:bytesX ⟨9,32,dst,src,base,disp,imm,cc⟩=((rexL false 0 dst false ++ [129]) ++ [opI 192 0 dst]) ++ numL imm 4:=by rfl
  rw [h2]
  simp only [regL,memL,List.nil_append,List.append_nil,List.append_assoc,List.cons_append,List.singleton_append]
theorem en_9_64 (dst src base disp imm cc:Int) (hd:0 ≤ dst ∧ dst < 16) (hs:0 ≤ src ∧ src < 16) (hb:0 ≤ base ∧ base < 16):encX ⟨9,64,dst,src,base,disp,imm,cc⟩=bytesX ⟨9,64,dst,src,base,disp,imm,cc⟩:=by
  have e:codeOfP 9 64=(⟨3,96,129,0,0⟩,true):=by decide +kernel
  have h1:encX ⟨9,64,dst,src,base,disp,imm,cc⟩=((([] ++ ((bif (false || (true || needB 0 dst)) then [rexI true 0 dst] else []) ++ ((bif ((129:Int) / 256 % 256 != 0) then [(129:Int) / 256 % 256] else []) ++ [(129:Int) % 256]))) ++ regL 0 dst) ++ numL imm 4):=by unfold encX;simp only [e];rfl
  rw [h1,rex_is true false 0 dst (by decide) hd,show (129:Int) / 256 % 256=0 from by omega,show (129:Int) % 256=129 from by omega]
  rw [show (bif (((0:Int)) != 0) then [(0:Int)] else [])=[] from rfl]
  have h2:bytesX ⟨9,64,dst,src,base,disp,imm,cc⟩=((rexL true 0 dst false ++ [129]) ++ [opI 192 0 dst]) ++ numL imm 4:=by rfl
  rw [h2]
  simp only [regL,memL,List.nil_append,List.append_nil,List.append_assoc,List.cons_append,List.singleton_append]
theorem en_10_32 (dst src base disp imm cc:Int) (hd:0 ≤ dst ∧ dst < 16) (hs:0 ≤ src ∧ src < 16) (hb:0 ≤ base ∧ base < 16):encX ⟨10,32,dst,src,base,disp,imm,cc⟩=bytesX ⟨10,32,dst,src,base,disp,imm,cc⟩:=by
  have e:codeOfP 10 32=(⟨3,96,129,1,0⟩,true):=by decide +kernel
  have h1:encX ⟨10,32,dst,src,base,disp,imm,cc⟩=((([] ++ ((bif (false || (false || needB 1 dst)) then [rexI false 1 dst] else []) ++ ((bif ((129:Int) / 256 % 256 != 0) then [(129:Int) / 256 % 256] else []) ++ [(129:Int) % 256]))) ++ regL 1 dst) ++ numL imm 4):=by unfold encX;simp only [e];rfl
  rw [h1,rex_is false false 1 dst (by decide) hd,show (129:Int) / 256 % 256=0 from by omega,show (129:Int) % 256=129 from by omega]
  rw [show (bif (((0:Int)) != 0) then [(0:Int)] else [])=[] from rfl]
  have h2:bytesX ⟨10,32,dst,src,base,disp,imm,cc⟩=((rexL false 1 dst false ++ [129]) ++ [opI 192 1 dst]) ++ numL imm 4:=by rfl
  rw [h2]
  simp only [regL,memL,List.nil_append,List.append_nil,List.append_assoc,List.cons_append,List.singleton_append]
theorem en_10_64 (dst src base disp imm cc:Int) (hd:0 ≤ dst ∧ dst < 16) (hs:0 ≤ src ∧ src < 16) (hb:0 ≤ base ∧ base < 16):encX ⟨10,64,dst,src,base,disp,imm,cc⟩=bytesX ⟨10,64,dst,src,base,disp,imm,cc⟩:=by
  have e:codeOfP 10 64=(⟨3,96,129,1,0⟩,true):=by decide +kernel
  have h1:encX ⟨10,64,dst,src,base,disp,imm,cc⟩=((([] ++ ((bif (false || (true || needB 1 dst)) then [rexI true 1 dst] else []) ++ ((bif ((129:Int) / 256 % 256 != 0) then [(129:Int) / 256 % 256] else []) ++ [(129:Int) % 256]))) ++ regL 1 dst) ++ numL imm 4):=by unfold encX;simp only [e];rfl
  rw [h1,rex_is true false 1 dst (by decide) hd,show (129:Int) / 256 % 256=0 from by omega,show (129:Int) % 256=129 from by omega]
  rw [show (bif (((0:Int)) != 0) then [(0:Int)] else [])=[] from rfl]
  have h2:bytesX ⟨10,64,dst,src,base,disp,imm,cc⟩=((rexL true 1 dst false ++ [129]) ++ [opI 192 1 dst]) ++ numL imm 4:=by rfl
  rw [h2]
  simp only [regL,memL,List.nil_append,List.append_nil,List.append_assoc,List.cons_append,List.singleton_append]
theorem en_11_32 (dst src base disp imm cc:Int) (hd:0 ≤ dst ∧ dst < 16) (hs:0 ≤ src ∧ src < 16) (hb:0 ≤ base ∧ base < 16):encX ⟨11,32,dst,src,base,disp,imm,cc⟩=bytesX ⟨11,32,dst,src,base,disp,imm,cc⟩:=by
  have e:codeOfP 11 32=(⟨3,96,129,4,0⟩,true):=by decide +kernel
  have h1:encX ⟨11,32,dst,src,base,disp,imm,cc⟩=((([] ++ ((bif (false || (false || needB 4 dst)) then [rexI false 4 dst] else []) ++ ((bif ((129:Int) / 256 % 256 != 0) then [(129:Int) / 256 % 256] else []) ++ [(129:Int) % 256]))) ++ regL 4 dst) ++ numL imm 4):=by unfold encX;simp only [e];rfl
  rw [h1,rex_is false false 4 dst (by decide) hd,show (129:Int) / 256 % 256=0 from by omega,show (129:Int) % 256=129 from by omega]
  rw [show (bif (((0:Int)) != 0) then [(0:Int)] else [])=[] from rfl]
  have h2:bytesX ⟨11,32,dst,src,base,disp,imm,cc⟩=((rexL false 4 dst false ++ [129]) ++ [opI 192 4 dst]) ++ numL imm 4:=by rfl
  rw [h2]
  simp only [regL,memL,List.nil_append,List.append_nil,List.append_assoc,List.cons_append,List.singleton_append]
theorem en_11_64 (dst src base disp imm cc:Int) (hd:0 ≤ dst ∧ dst < 16) (hs:0 ≤ src ∧ src < 16) (hb:0 ≤ base ∧ base < 16):encX ⟨11,64,dst,src,base,disp,imm,cc⟩=bytesX ⟨11,64,dst,src,base,disp,imm,cc⟩:=by
  have e:codeOfP 11 64=(⟨3,96,129,4,0⟩,true):=by decide +kernel
  have h1:encX ⟨11,64,dst,src,base,disp,imm,cc⟩=((([] ++ ((bif (false || (true || needB 4 dst)) then [rexI true 4 dst] else []) ++ ((bif ((129:Int) / 256 % 256 != 0) then [(129:Int) / 256 % 256] else []) ++ [(129:Int) % 256]))) ++ regL 4 dst) ++ numL imm 4):=by unfold encX;simp only [e];rfl
  rw [h1,rex_is true false 4 dst (by decide) hd,show (129:Int) / 256 % 256=0 from by omega,show (129:Int) % 256=129 from by omega]
  rw [show (bif (((0:Int)) != 0) then [(0:Int)] else [])=[] from rfl]
  have h2:bytesX ⟨11,64,dst,src,base,disp,imm,cc⟩=((rexL true 4 dst false ++ [129]) ++ [opI 192 4 dst]) ++ numL imm 4:=by rfl
  rw [h2]
  simp only [regL,memL,List.nil_append,List.append_nil,List.append_assoc,List.cons_append,List.singleton_append]
theorem en_12_32 (dst src base disp imm cc:Int) (hd:0 ≤ dst ∧ dst < 16) (hs:0 ≤ src ∧ src < 16) (hb:0 ≤ base ∧ base < 16):encX ⟨12,32,dst,src,base,disp,imm,cc⟩=bytesX ⟨12,32,dst,src,base,disp,imm,cc⟩:=by
  have e:codeOfP 12 32=(⟨3,96,129,5,0⟩,true):=by decide +kernel
  have h1:encX ⟨12,32,dst,src,base,disp,imm,cc⟩=((([] ++ ((bif (false || (false || needB 5 dst)) then [rexI false 5 dst] else []) ++ ((bif ((129:Int) / 256 % 256 != 0) then [(129:Int) / 256 % 256] else []) ++ [(129:Int) % 256]))) ++ regL 5 dst) ++ numL imm 4):=by unfold encX;simp only [e];rfl
  rw [h1,rex_is false false 5 dst (by decide) hd,show (129:Int) / 256 % 256=0 from by omega,show (129:Int) % 256=129 from by omega]
  rw [show (bif (((0:Int)) != 0) then [(0:Int)] else [])=[] from rfl]
  have h2:bytesX ⟨12,32,dst,src,base,disp,imm,cc⟩=((rexL false 5 dst false ++ [129]) ++ [opI 192 5 dst]) ++ numL imm 4:=by rfl
  rw [h2]
  simp only [regL,memL,List.nil_append,List.append_nil,List.append_assoc,List.cons_append,List.singleton_append]
theorem en_12_64 (dst src base disp imm cc:Int) (hd:0 ≤ dst ∧ dst < 16) (hs:0 ≤ src ∧ src < 16) (hb:0 ≤ base ∧ base < 16):encX ⟨12,64,dst,src,base,disp,imm,cc⟩=bytesX ⟨12,64,dst,src,base,disp,imm,cc⟩:=by
  have e:codeOfP 12 64=(⟨3,96,129,5,0⟩,true):=by decide +kernel
  have h1:encX ⟨12,64,dst,src,base,disp,imm,cc⟩=((([] ++ ((bif (false || (true || needB 5 dst)) then [rexI true 5 dst] else []) ++ ((bif ((129:Int) / 256 % 256 != 0) then [(129:Int) / 256 % 256] else []) ++ [(129:Int) % 256]))) ++ regL 5 dst) ++ numL imm 4):=by unfold encX;simp only [e];rfl
  rw [h1,rex_is true false 5 dst (by decide) hd,show (129:Int) / 256 % 256=0 from by omega,show (129:Int) % 256=129 from by omega]
  rw [show (bif (((0:Int)) != 0) then [(0:Int)] else [])=[] from rfl]
  have h2:bytesX ⟨12,64,dst,src,base,disp,imm,cc⟩=((rexL true 5 dst false ++ [129]) ++ [opI 192 5 dst]) ++ numL imm 4:=by rfl
  rw [h2]
  simp only [regL,memL,List.nil_append,List.append_nil,List.append_assoc,List.cons_append,List.singleton_append]
theorem en_13_32 (dst src base disp imm cc:Int) (hd:0 ≤ dst ∧ dst < 16) (hs:0 ≤ src ∧ src < 16) (hb:0 ≤ base ∧ base < 16):encX ⟨13,32,dst,src,base,disp,imm,cc⟩=bytesX ⟨13,32,dst,src,base,disp,imm,cc⟩:=by
  have e:codeOfP 13 32=(⟨3,96,129,6,0⟩,true):=by decide +kernel
  have h1:encX ⟨13,32,dst,src,base,disp,imm,cc⟩=((([] ++ ((bif (false || (false || needB 6 dst)) then [rexI false 6 dst] else []) ++ ((bif ((129:Int) / 256 % 256 != 0) then [(129:Int) / 256 % 256] else []) ++ [(129:Int) % 256]))) ++ regL 6 dst) ++ numL imm 4):=by unfold encX;simp only [e];rfl
  rw [h1,rex_is false false 6 dst (by decide) hd,show (129:Int) / 256 % 256=0 from by omega,show (129:Int) % 256=129 from by omega]
  rw [show (bif (((0:Int)) != 0) then [(0:Int)] else [])=[] from rfl]
  have h2:bytesX ⟨13,32,dst,src,base,disp,imm,cc⟩=((rexL false 6 dst false ++ [129]) ++ [opI 192 6 dst]) ++ numL imm 4:=by rfl
  rw [h2]
  simp only [regL,memL,List.nil_append,List.append_nil,List.append_assoc,List.cons_append,List.singleton_append]
theorem en_13_64 (dst src base disp imm cc:Int) (hd:0 ≤ dst ∧ dst < 16) (hs:0 ≤ src ∧ src < 16) (hb:0 ≤ base ∧ base < 16):encX ⟨13,64,dst,src,base,disp,imm,cc⟩=bytesX ⟨13,64,dst,src,base,disp,imm,cc⟩:=by
  have e:codeOfP 13 64=(⟨3,96,129,6,0⟩,true):=by decide +kernel
  have h1:encX ⟨13,64,dst,src,base,disp,imm,cc⟩=((([] ++ ((bif (false || (true || needB 6 dst)) then [rexI true 6 dst] else []) ++ ((bif ((129:Int) / 256 % 256 != 0) then [(129:Int) / 256 % 256] else []) ++ [(129:Int) % 256]))) ++ regL 6 dst) ++ numL imm 4):=by unfold encX;simp only [e];rfl
  rw [h1,rex_is true false 6 dst (by decide) hd,show (129:Int) / 256 % 256=0 from by omega,show (129:Int) % 256=129 from by omega]
  rw [show (bif (((0:Int)) != 0) then [(0:Int)] else [])=[] from rfl]
  have h2:bytesX ⟨13,64,dst,src,base,disp,imm,cc⟩=((rexL true 6 dst false ++ [129]) ++ [opI 192 6 dst]) ++ numL imm 4:=by rfl
  rw [h2]
  simp only [regL,memL,List.nil_append,List.append_nil,List.append_assoc,List.cons_append,List.singleton_append]
theorem en_14_32 (dst src base disp imm cc:Int) (hd:0 ≤ dst ∧ dst < 16) (hs:0 ≤ src ∧ src < 16) (hb:0 ≤ base ∧ base < 16):encX ⟨14,32,dst,src,base,disp,imm,cc⟩=bytesX ⟨14,32,dst,src,base,disp,imm,cc⟩:=by
  have e:codeOfP 14 32=(⟨3,96,129,7,0⟩,true):=by decide +kernel
  have h1:encX ⟨14,32,dst,src,base,disp,imm,cc⟩=((([] ++ ((bif (false || (false || needB 7 dst)) then [rexI false 7 dst] else []) ++ ((bif ((129:Int) / 256 % 256 != 0) then [(129:Int) / 256 % 256] else []) ++ [(129:Int) % 256]))) ++ regL 7 dst) ++ numL imm 4):=by unfold encX;simp only [e];rfl
  rw [h1,rex_is false false 7 dst (by decide) hd,show (129:Int) / 256 % 256=0 from by omega,show (129:Int) % 256=129 from by omega]
  rw [show (bif (((0:Int)) != 0) then [(0:Int)] else [])=[] from rfl]
  have h2:bytesX ⟨14,32,dst,src,base,disp,imm,cc⟩=((rexL false 7 dst false ++ [129]) ++ [opI 192 7 dst]) ++ numL imm 4:=by rfl
  rw [h2]
  simp only [regL,memL,List.nil_append,List.append_nil,List.append_assoc,List.cons_append,List.singleton_append]
theorem en_14_64 (dst src base disp imm cc:Int) (hd:0 ≤ dst ∧ dst < 16) (hs:0 ≤ src ∧ src < 16) (hb:0 ≤ base ∧ base < 16):encX ⟨14,64,dst,src,base,disp,imm,cc⟩=bytesX ⟨14,64,dst,src,base,disp,imm,cc⟩:=by
  have e:codeOfP 14 64=(⟨3,96,129,7,0⟩,true):=by decide +kernel
  have h1:encX ⟨14,64,dst,src,base,disp,imm,cc⟩=((([] ++ ((bif (false || (true || needB 7 dst)) then [rexI true 7 dst] else []) ++ ((bif ((129:Int) / 256 % 256 != 0) then [(129:Int) / 256 % 256] else []) ++ [(129:Int) % 256]))) ++ regL 7 dst) ++ numL imm 4):=by unfold encX;simp only [e];rfl
  rw [h1,rex_is true false 7 dst (by decide) hd,show (129:Int) / 256 % 256=0 from by omega,show (129:Int) % 256=129 from by omega]
  rw [show (bif (((0:Int)) != 0) then [(0:Int)] else [])=[] from rfl]
  have h2:bytesX ⟨14,64,dst,src,base,disp,imm,cc⟩=((rexL true 7 dst false ++ [129]) ++ [opI 192 7 dst]) ++ numL imm 4:=by rfl
  rw [h2]
  simp only [regL,memL,List.nil_append,List.append_nil,List.append_assoc,List.cons_append,List.singleton_append]
theorem en_15_32 (dst src base disp imm cc:Int) (hd:0 ≤ dst ∧ dst < 16) (hs:0 ≤ src ∧ src < 16) (hb:0 ≤ base ∧ base < 16):encX ⟨15,32,dst,src,base,disp,imm,cc⟩=bytesX ⟨15,32,dst,src,base,disp,imm,cc⟩:=by
  have e:codeOfP 15 32=(⟨3,96,247,0,0⟩,true):=by decide +kernel
  have h1:encX ⟨15,32,dst,src,base,disp,imm,cc⟩=((([] ++ ((bif (false || (false || needB 0 dst)) then [rexI false 0 dst] else []) ++ ((bif ((247:Int) / 256 % 256 != 0) then [(247:Int) / 256 % 256] else []) ++ [(247:Int) % 256]))) ++ regL 0 dst) ++ numL imm 4):=by unfold encX;simp only [e];rfl
  rw [h1,rex_is false false 0 dst (by decide) hd,show (247:Int) / 256 % 256=0 from by omega,show (247:Int) % 256=247 from by omega]
  rw [show (bif (((0:Int)) != 0) then [(0:Int)] else [])=[] from rfl]
  have h2:bytesX ⟨15,32,dst,src,base,disp,imm,cc⟩=((rexL false 0 dst false ++ [247]) ++ [opI 192 0 dst]) ++ numL imm 4:=by rfl
  rw [h2]
  simp only [regL,memL,List.nil_append,List.append_nil,List.append_assoc,List.cons_append,List.singleton_append]
theorem en_15_64 (dst src base disp imm cc:Int) (hd:0 ≤ dst ∧ dst < 16) (hs:0 ≤ src ∧ src < 16) (hb:0 ≤ base ∧ base < 16):encX ⟨15,64,dst,src,base,disp,imm,cc⟩=bytesX ⟨15,64,dst,src,base,disp,imm,cc⟩:=by
  have e:codeOfP 15 64=(⟨3,96,247,0,0⟩,true):=by decide +kernel
  have h1:encX ⟨15,64,dst,src,base,disp,imm,cc⟩=((([] ++ ((bif (false || (true || needB 0 dst)) then [rexI true 0 dst] else []) ++ ((bif ((247:Int) / 256 % 256 != 0) then [(247:Int) / 256 % 256] else []) ++ [(247:Int) % 256]))) ++ regL 0 dst) ++ numL imm 4):=by unfold encX;simp only [e];rfl
  rw [h1,rex_is true false 0 dst (by decide) hd,show (247:Int) / 256 % 256=0 from by omega,show (247:Int) % 256=247 from by omega]
  rw [show (bif (((0:Int)) != 0) then [(0:Int)] else [])=[] from rfl]
  have h2:bytesX ⟨15,64,dst,src,base,disp,imm,cc⟩=((rexL true 0 dst false ++ [247]) ++ [opI 192 0 dst]) ++ numL imm 4:=by rfl
  rw [h2]
  simp only [regL,memL,List.nil_append,List.append_nil,List.append_assoc,List.cons_append,List.singleton_append]
theorem en_16_32 (dst src base disp imm cc:Int) (hd:0 ≤ dst ∧ dst < 16) (hs:0 ≤ src ∧ src < 16) (hb:0 ≤ base ∧ base < 16):encX ⟨16,32,dst,src,base,disp,imm,cc⟩=bytesX ⟨16,32,dst,src,base,disp,imm,cc⟩:=by
  have e:codeOfP 16 32=(⟨2,96,4015,0,0⟩,true):=by decide +kernel
  have h1:encX ⟨16,32,dst,src,base,disp,imm,cc⟩=((([] ++ ((bif (false || (false || needB dst src)) then [rexI false dst src] else []) ++ ((bif ((4015:Int) / 256 % 256 != 0) then [(4015:Int) / 256 % 256] else []) ++ [(4015:Int) % 256]))) ++ regL dst src) ++ numL imm 0):=by unfold encX;simp only [e];rfl
  rw [h1,rex_is false false dst src hd hs,show (4015:Int) / 256 % 256=15 from by omega,show (4015:Int) % 256=175 from by omega]
  rw [show (bif (((15:Int)) != 0) then [(15:Int)] else [])=[15] from rfl]
  have h2:bytesX ⟨16,32,dst,src,base,disp,imm,cc⟩=rexL false dst src false ++ [15,175,opI 192 dst src]:=by rfl
  rw [h2]
  simp only [numL0,regL,memL,List.nil_append,List.append_nil,List.append_assoc,List.cons_append,List.singleton_append]
theorem en_16_64 (dst src base disp imm cc:Int) (hd:0 ≤ dst ∧ dst < 16) (hs:0 ≤ src ∧ src < 16) (hb:0 ≤ base ∧ base < 16):encX ⟨16,64,dst,src,base,disp,imm,cc⟩=bytesX ⟨16,64,dst,src,base,disp,imm,cc⟩:=by
  have e:codeOfP 16 64=(⟨2,96,4015,0,0⟩,true):=by decide +kernel
  have h1:encX ⟨16,64,dst,src,base,disp,imm,cc⟩=((([] ++ ((bif (false || (true || needB dst src)) then [rexI true dst src] else []) ++ ((bif ((4015:Int) / 256 % 256 != 0) then [(4015:Int) / 256 % 256] else []) ++ [(4015:Int) % 256]))) ++ regL dst src) ++ numL imm 0):=by unfold encX;simp only [e];rfl
  rw [h1,rex_is true false dst src hd hs,show (4015:Int) / 256 % 256=15 from by omega,show (4015:Int) % 256=175 from by omega]
  rw [show (bif (((15:Int)) != 0) then [(15:Int)] else [])=[15] from rfl]
  have h2:bytesX ⟨16,64,dst,src,base,disp,imm,cc⟩=rexL true dst src false ++ [15,175,opI 192 dst src]:=by rfl
  rw [h2]
  simp only [numL0,regL,memL,List.nil_append,List.append_nil,List.append_assoc,List.cons_append,List.singleton_append]
theorem en_17_32 (dst src base disp imm cc:Int) (hd:0 ≤ dst ∧ dst < 16) (hs:0 ≤ src ∧ src < 16) (hb:0 ≤ base ∧ base < 16) (hi:0 ≤ imm ∧ imm < 32):encX ⟨17,32,dst,src,base,disp,imm,cc⟩=bytesX ⟨17,32,dst,src,base,disp,imm,cc⟩:=by
  have e:codeOfP 17 32=(⟨4,96,193,4,0⟩,true):=by decide +kernel
  have h1:encX ⟨17,32,dst,src,base,disp,imm,cc⟩=((([] ++ ((bif (false || (false || needB 4 dst)) then [rexI false 4 dst] else []) ++ ((bif ((193:Int) / 256 % 256 != 0) then [(193:Int) / 256 % 256] else []) ++ [(193:Int) % 256]))) ++ regL 4 dst) ++ numL imm 1):=by unfold encX;simp only [e];rfl
  rw [h1,rex_is false false 4 dst (by decide) hd,show (193:Int) / 256 % 256=0 from by omega,show (193:Int) % 256=193 from by omega]
  rw [show (bif (((0:Int)) != 0) then [(0:Int)] else [])=[] from rfl]
  have h2:bytesX ⟨17,32,dst,src,base,disp,imm,cc⟩=rexL false 4 dst false ++ [193,opI 192 4 dst,imm]:=by rfl
  rw [h2]
  simp only [numL1,regL,memL,List.nil_append,List.append_nil,List.append_assoc,List.cons_append,List.singleton_append,show imm % 256=imm from by omega]
theorem en_17_64 (dst src base disp imm cc:Int) (hd:0 ≤ dst ∧ dst < 16) (hs:0 ≤ src ∧ src < 16) (hb:0 ≤ base ∧ base < 16) (hi:0 ≤ imm ∧ imm < 64):encX ⟨17,64,dst,src,base,disp,imm,cc⟩=bytesX ⟨17,64,dst,src,base,disp,imm,cc⟩:=by
  have e:codeOfP 17 64=(⟨4,96,193,4,0⟩,true):=by decide +kernel
  have h1:encX ⟨17,64,dst,src,base,disp,imm,cc⟩=((([] ++ ((bif (false || (true || needB 4 dst)) then [rexI true 4 dst] else []) ++ ((bif ((193:Int) / 256 % 256 != 0) then [(193:Int) / 256 % 256] else []) ++ [(193:Int) % 256]))) ++ regL 4 dst) ++ numL imm 1):=by unfold encX;simp only [e];rfl
  rw [h1,rex_is true false 4 dst (by decide) hd,show (193:Int) / 256 % 256=0 from by omega,show (193:Int) % 256=193 from by omega]
  rw [show (bif (((0:Int)) != 0) then [(0:Int)] else [])=[] from rfl]
  have h2:bytesX ⟨17,64,dst,src,base,disp,imm,cc⟩=rexL true 4 dst false ++ [193,opI 192 4 dst,imm]:=by rfl
  rw [h2]
  simp only [numL1,regL,memL,List.nil_append,List.append_nil,List.append_assoc,List.cons_append,List.singleton_append,show imm % 256=imm from by omega]
theorem en_18_32 (dst src base disp imm cc:Int) (hd:0 ≤ dst ∧ dst < 16) (hs:0 ≤ src ∧ src < 16) (hb:0 ≤ base ∧ base < 16) (hi:0 ≤ imm ∧ imm < 32):encX ⟨18,32,dst,src,base,disp,imm,cc⟩=bytesX ⟨18,32,dst,src,base,disp,imm,cc⟩:=by
  have e:codeOfP 18 32=(⟨4,96,193,5,0⟩,true):=by decide +kernel
  have h1:encX ⟨18,32,dst,src,base,disp,imm,cc⟩=((([] ++ ((bif (false || (false || needB 5 dst)) then [rexI false 5 dst] else []) ++ ((bif ((193:Int) / 256 % 256 != 0) then [(193:Int) / 256 % 256] else []) ++ [(193:Int) % 256]))) ++ regL 5 dst) ++ numL imm 1):=by unfold encX;simp only [e];rfl
  rw [h1,rex_is false false 5 dst (by decide) hd,show (193:Int) / 256 % 256=0 from by omega,show (193:Int) % 256=193 from by omega]
  rw [show (bif (((0:Int)) != 0) then [(0:Int)] else [])=[] from rfl]
  have h2:bytesX ⟨18,32,dst,src,base,disp,imm,cc⟩=rexL false 5 dst false ++ [193,opI 192 5 dst,imm]:=by rfl
  rw [h2]
  simp only [numL1,regL,memL,List.nil_append,List.append_nil,List.append_assoc,List.cons_append,List.singleton_append,show imm % 256=imm from by omega]
theorem en_18_64 (dst src base disp imm cc:Int) (hd:0 ≤ dst ∧ dst < 16) (hs:0 ≤ src ∧ src < 16) (hb:0 ≤ base ∧ base < 16) (hi:0 ≤ imm ∧ imm < 64):encX ⟨18,64,dst,src,base,disp,imm,cc⟩=bytesX ⟨18,64,dst,src,base,disp,imm,cc⟩:=by
  have e:codeOfP 18 64=(⟨4,96,193,5,0⟩,true):=by decide +kernel
  have h1:encX ⟨18,64,dst,src,base,disp,imm,cc⟩=((([] ++ ((bif (false || (true || needB 5 dst)) then [rexI true 5 dst] else []) ++ ((bif ((193:Int) / 256 % 256 != 0) then [(193:Int) / 256 % 256] else []) ++ [(193:Int) % 256]))) ++ regL 5 dst) ++ numL imm 1):=by unfold encX;simp only [e];rfl
  rw [h1,rex_is true false 5 dst (by decide) hd,show (193:Int) / 256 % 256=0 from by omega,show (193:Int) % 256=193 from by omega]
  rw [show (bif (((0:Int)) != 0) then [(0:Int)] else [])=[] from rfl]
  have h2:bytesX ⟨18,64,dst,src,base,disp,imm,cc⟩=rexL true 5 dst false ++ [193,opI 192 5 dst,imm]:=by rfl
  rw [h2]
  simp only [numL1,regL,memL,List.nil_append,List.append_nil,List.append_assoc,List.cons_append,List.singleton_append,show imm % 256=imm from by omega]
theorem en_19_32 (dst src base disp imm cc:Int) (hd:0 ≤ dst ∧ dst < 16) (hs:0 ≤ src ∧ src < 16) (hb:0 ≤ base ∧ base < 16) (hi:0 ≤ imm ∧ imm < 32):encX ⟨19,32,dst,src,base,disp,imm,cc⟩=bytesX ⟨19,32,dst,src,base,disp,imm,cc⟩:=by
  have e:codeOfP 19 32=(⟨4,96,193,7,0⟩,true):=by decide +kernel
  have h1:encX ⟨19,32,dst,src,base,disp,imm,cc⟩=((([] ++ ((bif (false || (false || needB 7 dst)) then [rexI false 7 dst] else []) ++ ((bif ((193:Int) / 256 % 256 != 0) then [(193:Int) / 256 % 256] else []) ++ [(193:Int) % 256]))) ++ regL 7 dst) ++ numL imm 1):=by unfold encX;simp only [e];rfl
  rw [h1,rex_is false false 7 dst (by decide) hd,show (193:Int) / 256 % 256=0 from by omega,show (193:Int) % 256=193 from by omega]
  rw [show (bif (((0:Int)) != 0) then [(0:Int)] else [])=[] from rfl]
  have h2:bytesX ⟨19,32,dst,src,base,disp,imm,cc⟩=rexL false 7 dst false ++ [193,opI 192 7 dst,imm]:=by rfl
  rw [h2]
  simp only [numL1,regL,memL,List.nil_append,List.append_nil,List.append_assoc,List.cons_append,List.singleton_append,show imm % 256=imm from by omega]
theorem en_19_64 (dst src base disp imm cc:Int) (hd:0 ≤ dst ∧ dst < 16) (hs:0 ≤ src ∧ src < 16) (hb:0 ≤ base ∧ base < 16) (hi:0 ≤ imm ∧ imm < 64):encX ⟨19,64,dst,src,base,disp,imm,cc⟩=bytesX ⟨19,64,dst,src,base,disp,imm,cc⟩:=by
  have e:codeOfP 19 64=(⟨4,96,193,7,0⟩,true):=by decide +kernel
  have h1:encX ⟨19,64,dst,src,base,disp,imm,cc⟩=((([] ++ ((bif (false || (true || needB 7 dst)) then [rexI true 7 dst] else []) ++ ((bif ((193:Int) / 256 % 256 != 0) then [(193:Int) / 256 % 256] else []) ++ [(193:Int) % 256]))) ++ regL 7 dst) ++ numL imm 1):=by unfold encX;simp only [e];rfl
  rw [h1,rex_is true false 7 dst (by decide) hd,show (193:Int) / 256 % 256=0 from by omega,show (193:Int) % 256=193 from by omega]
  rw [show (bif (((0:Int)) != 0) then [(0:Int)] else [])=[] from rfl]
  have h2:bytesX ⟨19,64,dst,src,base,disp,imm,cc⟩=rexL true 7 dst false ++ [193,opI 192 7 dst,imm]:=by rfl
  rw [h2]
  simp only [numL1,regL,memL,List.nil_append,List.append_nil,List.append_assoc,List.cons_append,List.singleton_append,show imm % 256=imm from by omega]
theorem en_20_32 (dst src base disp imm cc:Int) (hd:0 ≤ dst ∧ dst < 16) (hs:0 ≤ src ∧ src < 16) (hb:0 ≤ base ∧ base < 16):encX ⟨20,32,dst,src,base,disp,imm,cc⟩=bytesX ⟨20,32,dst,src,base,disp,imm,cc⟩:=by
  have e:codeOfP 20 32=(⟨5,96,211,4,0⟩,true):=by decide +kernel
  have h1:encX ⟨20,32,dst,src,base,disp,imm,cc⟩=((([] ++ ((bif (false || (false || needB 4 dst)) then [rexI false 4 dst] else []) ++ ((bif ((211:Int) / 256 % 256 != 0) then [(211:Int) / 256 % 256] else []) ++ [(211:Int) % 256]))) ++ regL 4 dst) ++ numL imm 0):=by unfold encX;simp only [e];rfl
  rw [h1,rex_is false false 4 dst (by decide) hd,show (211:Int) / 256 % 256=0 from by omega,show (211:Int) % 256=211 from by omega]
  rw [show (bif (((0:Int)) != 0) then [(0:Int)] else [])=[] from rfl]
  have h2:bytesX ⟨20,32,dst,src,base,disp,imm,cc⟩=rexL false 4 dst false ++ [211,opI 192 4 dst]:=by rfl
  rw [h2]
  simp only [numL0,regL,memL,List.nil_append,List.append_nil,List.append_assoc,List.cons_append,List.singleton_append]
theorem en_20_64 (dst src base disp imm cc:Int) (hd:0 ≤ dst ∧ dst < 16) (hs:0 ≤ src ∧ src < 16) (hb:0 ≤ base ∧ base < 16):encX ⟨20,64,dst,src,base,disp,imm,cc⟩=bytesX ⟨20,64,dst,src,base,disp,imm,cc⟩:=by
  have e:codeOfP 20 64=(⟨5,96,211,4,0⟩,true):=by decide +kernel
  have h1:encX ⟨20,64,dst,src,base,disp,imm,cc⟩=((([] ++ ((bif (false || (true || needB 4 dst)) then [rexI true 4 dst] else []) ++ ((bif ((211:Int) / 256 % 256 != 0) then [(211:Int) / 256 % 256] else []) ++ [(211:Int) % 256]))) ++ regL 4 dst) ++ numL imm 0):=by unfold encX;simp only [e];rfl
  rw [h1,rex_is true false 4 dst (by decide) hd,show (211:Int) / 256 % 256=0 from by omega,show (211:Int) % 256=211 from by omega]
  rw [show (bif (((0:Int)) != 0) then [(0:Int)] else [])=[] from rfl]
  have h2:bytesX ⟨20,64,dst,src,base,disp,imm,cc⟩=rexL true 4 dst false ++ [211,opI 192 4 dst]:=by rfl
  rw [h2]
  simp only [numL0,regL,memL,List.nil_append,List.append_nil,List.append_assoc,List.cons_append,List.singleton_append]
theorem en_21_32 (dst src base disp imm cc:Int) (hd:0 ≤ dst ∧ dst < 16) (hs:0 ≤ src ∧ src < 16) (hb:0 ≤ base ∧ base < 16):encX ⟨21,32,dst,src,base,disp,imm,cc⟩=bytesX ⟨21,32,dst,src,base,disp,imm,cc⟩:=by
  have e:codeOfP 21 32=(⟨5,96,211,5,0⟩,true):=by decide +kernel
  have h1:encX ⟨21,32,dst,src,base,disp,imm,cc⟩=((([] ++ ((bif (false || (false || needB 5 dst)) then [rexI false 5 dst] else []) ++ ((bif ((211:Int) / 256 % 256 != 0) then [(211:Int) / 256 % 256] else []) ++ [(211:Int) % 256]))) ++ regL 5 dst) ++ numL imm 0):=by unfold encX;simp only [e];rfl
  rw [h1,rex_is false false 5 dst (by decide) hd,show (211:Int) / 256 % 256=0 from by omega,show (211:Int) % 256=211 from by omega]
  rw [show (bif (((0:Int)) != 0) then [(0:Int)] else [])=[] from rfl]
  have h2:bytesX ⟨21,32,dst,src,base,disp,imm,cc⟩=rexL false 5 dst false ++ [211,opI 192 5 dst]:=by rfl
  rw [h2]
  simp only [numL0,regL,memL,List.nil_append,List.append_nil,List.append_assoc,List.cons_append,List.singleton_append]
theorem en_21_64 (dst src base disp imm cc:Int) (hd:0 ≤ dst ∧ dst < 16) (hs:0 ≤ src ∧ src < 16) (hb:0 ≤ base ∧ base < 16):encX ⟨21,64,dst,src,base,disp,imm,cc⟩=bytesX ⟨21,64,dst,src,base,disp,imm,cc⟩:=by
  have e:codeOfP 21 64=(⟨5,96,211,5,0⟩,true):=by decide +kernel
  have h1:encX ⟨21,64,dst,src,base,disp,imm,cc⟩=((([] ++ ((bif (false || (true || needB 5 dst)) then [rexI true 5 dst] else []) ++ ((bif ((211:Int) / 256 % 256 != 0) then [(211:Int) / 256 % 256] else []) ++ [(211:Int) % 256]))) ++ regL 5 dst) ++ numL imm 0):=by unfold encX;simp only [e];rfl
  rw [h1,rex_is true false 5 dst (by decide) hd,show (211:Int) / 256 % 256=0 from by omega,show (211:Int) % 256=211 from by omega]
  rw [show (bif (((0:Int)) != 0) then [(0:Int)] else [])=[] from rfl]
  have h2:bytesX ⟨21,64,dst,src,base,disp,imm,cc⟩=rexL true 5 dst false ++ [211,opI 192 5 dst]:=by rfl
  rw [h2]
  simp only [numL0,regL,memL,List.nil_append,List.append_nil,List.append_assoc,List.cons_append,List.singleton_append]
theorem en_22_32 (dst src base disp imm cc:Int) (hd:0 ≤ dst ∧ dst < 16) (hs:0 ≤ src ∧ src < 16) (hb:0 ≤ base ∧ base < 16):encX ⟨22,32,dst,src,base,disp,imm,cc⟩=bytesX ⟨22,32,dst,src,base,disp,imm,cc⟩:=by
  have e:codeOfP 22 32=(⟨5,96,211,7,0⟩,true):=by decide +kernel
  have h1:encX ⟨22,32,dst,src,base,disp,imm,cc⟩=((([] ++ ((bif (false || (false || needB 7 dst)) then [rexI false 7 dst] else []) ++ ((bif ((211:Int) / 256 % 256 != 0) then [(211:Int) / 256 % 256] else []) ++ [(211:Int) % 256]))) ++ regL 7 dst) ++ numL imm 0):=by unfold encX;simp only [e];rfl
  rw [h1,rex_is false false 7 dst (by decide) hd,show (211:Int) / 256 % 256=0 from by omega,show (211:Int) % 256=211 from by omega]
  rw [show (bif (((0:Int)) != 0) then [(0:Int)] else [])=[] from rfl]
  have h2:bytesX ⟨22,32,dst,src,base,disp,imm,cc⟩=rexL false 7 dst false ++ [211,opI 192 7 dst]:=by rfl
  rw [h2]
  simp only [numL0,regL,memL,List.nil_append,List.append_nil,List.append_assoc,List.cons_append,List.singleton_append]
theorem en_22_64 (dst src base disp imm cc:Int) (hd:0 ≤ dst ∧ dst < 16) (hs:0 ≤ src ∧ src < 16) (hb:0 ≤ base ∧ base < 16):encX ⟨22,64,dst,src,base,disp,imm,cc⟩=bytesX ⟨22,64,dst,src,base,disp,imm,cc⟩:=by
  have e:codeOfP 22 64=(⟨5,96,211,7,0⟩,true):=by decide +kernel
  have h1:encX ⟨22,64,dst,src,base,disp,imm,cc⟩=((([] ++ ((bif (false || (true || needB 7 dst)) then [rexI true 7 dst] else []) ++ ((bif ((211:Int) / 256 % 256 != 0) then [(211:Int) / 256 % 256] else []) ++ [(211:Int) % 256]))) ++ regL 7 dst) ++ numL imm 0):=by unfold encX;simp only [e];rfl
  rw [h1,rex_is true false 7 dst (by decide) hd,show (211:Int) / 256 % 256=0 from by omega,show (211:Int) % 256=211 from by omega]
  rw [show (bif (((0:Int)) != 0) then [(0:Int)] else [])=[] from rfl]
  have h2:bytesX ⟨22,64,dst,src,base,disp,imm,cc⟩=rexL true 7 dst false ++ [211,opI 192 7 dst]:=by rfl
  rw [h2]
  simp only [numL0,regL,memL,List.nil_append,List.append_nil,List.append_assoc,List.cons_append,List.singleton_append]
theorem en_23_32 (dst src base disp imm cc:Int) (hd:0 ≤ dst ∧ dst < 16) (hs:0 ≤ src ∧ src < 16) (hb:0 ≤ base ∧ base < 16):encX ⟨23,32,dst,src,base,disp,imm,cc⟩=bytesX ⟨23,32,dst,src,base,disp,imm,cc⟩:=by
  have e:codeOfP 23 32=(⟨5,96,247,3,0⟩,true):=by decide +kernel
  have h1:encX ⟨23,32,dst,src,base,disp,imm,cc⟩=((([] ++ ((bif (false || (false || needB 3 dst)) then [rexI false 3 dst] else []) ++ ((bif ((247:Int) / 256 % 256 != 0) then [(247:Int) / 256 % 256] else []) ++ [(247:Int) % 256]))) ++ regL 3 dst) ++ numL imm 0):=by unfold encX;simp only [e];rfl
  rw [h1,rex_is false false 3 dst (by decide) hd,show (247:Int) / 256 % 256=0 from by omega,show (247:Int) % 256=247 from by omega]
  rw [show (bif (((0:Int)) != 0) then [(0:Int)] else [])=[] from rfl]
  have h2:bytesX ⟨23,32,dst,src,base,disp,imm,cc⟩=rexL false 3 dst false ++ [247,opI 192 3 dst]:=by rfl
  rw [h2]
  simp only [numL0,regL,memL,List.nil_append,List.append_nil,List.append_assoc,List.cons_append,List.singleton_append]
theorem en_23_64 (dst src base disp imm cc:Int) (hd:0 ≤ dst ∧ dst < 16) (hs:0 ≤ src ∧ src < 16) (hb:0 ≤ base ∧ base < 16):encX ⟨23,64,dst,src,base,disp,imm,cc⟩=bytesX ⟨23,64,dst,src,base,disp,imm,cc⟩:=by
  have e:codeOfP 23 64=(⟨5,96,247,3,0⟩,true):=by decide +kernel
  have h1:encX ⟨23,64,dst,src,base,disp,imm,cc⟩=((([] ++ ((bif (false || (true || needB 3 dst)) then [rexI true 3 dst] else []) ++ ((bif ((247:Int) / 256 % 256 != 0) then [(247:Int) / 256 % 256] else []) ++ [(247:Int) % 256]))) ++ regL 3 dst) ++ numL imm 0):=by unfold encX;simp only [e];rfl
  rw [h1,rex_is true false 3 dst (by decide) hd,show (247:Int) / 256 % 256=0 from by omega,show (247:Int) % 256=247 from by omega]
  rw [show (bif (((0:Int)) != 0) then [(0:Int)] else [])=[] from rfl]
  have h2:bytesX ⟨23,64,dst,src,base,disp,imm,cc⟩=rexL true 3 dst false ++ [247,opI 192 3 dst]:=by rfl
  rw [h2]
  simp only [numL0,regL,memL,List.nil_append,List.append_nil,List.append_assoc,List.cons_append,List.singleton_append]
theorem en_24_32 (dst src base disp imm cc:Int) (hd:0 ≤ dst ∧ dst < 16) (hs:0 ≤ src ∧ src < 16) (hb:0 ≤ base ∧ base < 16):encX ⟨24,32,dst,src,base,disp,imm,cc⟩=bytesX ⟨24,32,dst,src,base,disp,imm,cc⟩:=by
  have e:codeOfP 24 32=(⟨5,96,247,6,0⟩,true):=by decide +kernel
  have h1:encX ⟨24,32,dst,src,base,disp,imm,cc⟩=((([] ++ ((bif (false || (false || needB 6 dst)) then [rexI false 6 dst] else []) ++ ((bif ((247:Int) / 256 % 256 != 0) then [(247:Int) / 256 % 256] else []) ++ [(247:Int) % 256]))) ++ regL 6 dst) ++ numL imm 0):=by unfold encX;simp only [e];rfl
  rw [h1,rex_is false false 6 dst (by decide) hd,show (247:Int) / 256 % 256=0 from by omega,show (247:Int) % 256=247 from by omega]
  rw [show (bif (((0:Int)) != 0) then [(0:Int)] else [])=[] from rfl]
  have h2:bytesX ⟨24,32,dst,src,base,disp,imm,cc⟩=rexL false 6 dst false ++ [247,opI 192 6 dst]:=by rfl
  rw [h2]
  simp only [numL0,regL,memL,List.nil_append,List.append_nil,List.append_assoc,List.cons_append,List.singleton_append]
theorem en_24_64 (dst src base disp imm cc:Int) (hd:0 ≤ dst ∧ dst < 16) (hs:0 ≤ src ∧ src < 16) (hb:0 ≤ base ∧ base < 16):encX ⟨24,64,dst,src,base,disp,imm,cc⟩=bytesX ⟨24,64,dst,src,base,disp,imm,cc⟩:=by
  have e:codeOfP 24 64=(⟨5,96,247,6,0⟩,true):=by decide +kernel
  have h1:encX ⟨24,64,dst,src,base,disp,imm,cc⟩=((([] ++ ((bif (false || (true || needB 6 dst)) then [rexI true 6 dst] else []) ++ ((bif ((247:Int) / 256 % 256 != 0) then [(247:Int) / 256 % 256] else []) ++ [(247:Int) % 256]))) ++ regL 6 dst) ++ numL imm 0):=by unfold encX;simp only [e];rfl
  rw [h1,rex_is true false 6 dst (by decide) hd,show (247:Int) / 256 % 256=0 from by omega,show (247:Int) % 256=247 from by omega]
  rw [show (bif (((0:Int)) != 0) then [(0:Int)] else [])=[] from rfl]
  have h2:bytesX ⟨24,64,dst,src,base,disp,imm,cc⟩=rexL true 6 dst false ++ [247,opI 192 6 dst]:=by rfl
  rw [h2]
  simp only [numL0,regL,memL,List.nil_append,List.append_nil,List.append_assoc,List.cons_append,List.singleton_append]
theorem en_25_32 (dst src base disp imm cc:Int) (hd:0 ≤ dst ∧ dst < 16) (hs:0 ≤ src ∧ src < 16) (hb:0 ≤ base ∧ base < 16) (hc:0 ≤ cc ∧ cc < 16):encX ⟨25,32,dst,src,base,disp,imm,cc⟩=bytesX ⟨25,32,dst,src,base,disp,imm,cc⟩:=by
  have e:codeOfP 25 32=(⟨2,96,3904,0,15⟩,true):=by decide +kernel
  have h1:encX ⟨25,32,dst,src,base,disp,imm,cc⟩=((([] ++ ((bif (false || (false || needB dst src)) then [rexI false dst src] else []) ++ ((bif ((3904 + cc) / 256 % 256 != 0) then [(3904 + cc) / 256 % 256] else []) ++ [(3904 + cc) % 256]))) ++ regL dst src) ++ numL imm 0):=by unfold encX;simp only [e];rfl
  rw [h1,rex_is false false dst src hd hs,show (3904 + cc) / 256 % 256=15 from by omega,show (3904 + cc) % 256=64 + cc from by omega]
  rw [show (bif (((15:Int)) != 0) then [(15:Int)] else [])=[15] from rfl]
  have h2:bytesX ⟨25,32,dst,src,base,disp,imm,cc⟩=rexL false dst src false ++ [15,64 + cc,opI 192 dst src]:=by rfl
  rw [h2]
  simp only [numL0,regL,memL,List.nil_append,List.append_nil,List.append_assoc,List.cons_append,List.singleton_append]
theorem en_25_64 (dst src base disp imm cc:Int) (hd:0 ≤ dst ∧ dst < 16) (hs:0 ≤ src ∧ src < 16) (hb:0 ≤ base ∧ base < 16) (hc:0 ≤ cc ∧ cc < 16):encX ⟨25,64,dst,src,base,disp,imm,cc⟩=bytesX ⟨25,64,dst,src,base,disp,imm,cc⟩:=by
  have e:codeOfP 25 64=(⟨2,96,3904,0,15⟩,true):=by decide +kernel
  have h1:encX ⟨25,64,dst,src,base,disp,imm,cc⟩=((([] ++ ((bif (false || (true || needB dst src)) then [rexI true dst src] else []) ++ ((bif ((3904 + cc) / 256 % 256 != 0) then [(3904 + cc) / 256 % 256] else []) ++ [(3904 + cc) % 256]))) ++ regL dst src) ++ numL imm 0):=by unfold encX;simp only [e];rfl
  rw [h1,rex_is true false dst src hd hs,show (3904 + cc) / 256 % 256=15 from by omega,show (3904 + cc) % 256=64 + cc from by omega]
  rw [show (bif (((15:Int)) != 0) then [(15:Int)] else [])=[15] from rfl]
  have h2:bytesX ⟨25,64,dst,src,base,disp,imm,cc⟩=rexL true dst src false ++ [15,64 + cc,opI 192 dst src]:=by rfl
  rw [h2]
  simp only [numL0,regL,memL,List.nil_append,List.append_nil,List.append_assoc,List.cons_append,List.singleton_append]
theorem en_26_8 (dst src base disp imm cc:Int) (hd:0 ≤ dst ∧ dst < 16) (hs:0 ≤ src ∧ src < 16) (hb:0 ≤ base ∧ base < 16):encX ⟨26,8,dst,src,base,disp,imm,cc⟩=bytesX ⟨26,8,dst,src,base,disp,imm,cc⟩:=by
  have e:codeOfP 26 8=(⟨7,8,4022,0,0⟩,true):=by decide +kernel
  have h1:encX ⟨26,8,dst,src,base,disp,imm,cc⟩=((([] ++ ((bif (false || (false || needB dst base)) then [rexI false dst base] else []) ++ ((bif ((4022:Int) / 256 % 256 != 0) then [(4022:Int) / 256 % 256] else []) ++ [(4022:Int) % 256]))) ++ memL dst base disp) ++ numL imm 0):=by unfold encX;simp only [e];rfl
  rw [h1,rex_is false false dst base hd hb,show (4022:Int) / 256 % 256=15 from by omega,show (4022:Int) % 256=182 from by omega]
  rw [show (bif (((15:Int)) != 0) then [(15:Int)] else [])=[15] from rfl]
  have h2:bytesX ⟨26,8,dst,src,base,disp,imm,cc⟩=(rexL false dst base false ++ [15,182]) ++ memL dst base disp:=by rfl
  rw [h2]
  simp only [numL0,regL,memL,List.nil_append,List.append_nil,List.append_assoc,List.cons_append,List.singleton_append]
theorem en_26_16 (dst src base disp imm cc:Int) (hd:0 ≤ dst ∧ dst < 16) (hs:0 ≤ src ∧ src < 16) (hb:0 ≤ base ∧ base < 16):encX ⟨26,16,dst,src,base,disp,imm,cc⟩=bytesX ⟨26,16,dst,src,base,disp,imm,cc⟩:=by
  have e:codeOfP 26 16=(⟨7,16,4023,0,0⟩,true):=by decide +kernel
  have h1:encX ⟨26,16,dst,src,base,disp,imm,cc⟩=((([] ++ ((bif (false || (false || needB dst base)) then [rexI false dst base] else []) ++ ((bif ((4023:Int) / 256 % 256 != 0) then [(4023:Int) / 256 % 256] else []) ++ [(4023:Int) % 256]))) ++ memL dst base disp) ++ numL imm 0):=by unfold encX;simp only [e];rfl
  rw [h1,rex_is false false dst base hd hb,show (4023:Int) / 256 % 256=15 from by omega,show (4023:Int) % 256=183 from by omega]
  rw [show (bif (((15:Int)) != 0) then [(15:Int)] else [])=[15] from rfl]
  have h2:bytesX ⟨26,16,dst,src,base,disp,imm,cc⟩=(rexL false dst base false ++ [15,183]) ++ memL dst base disp:=by rfl
  rw [h2]
  simp only [numL0,regL,memL,List.nil_append,List.append_nil,List.append_assoc,List.cons_append,List.singleton_append]
theorem en_26_32 (dst src base disp imm cc:Int) (hd:0 ≤ dst ∧ dst < 16) (hs:0 ≤ src ∧ src < 16) (hb:0 ≤ base ∧ base < 16):encX ⟨26,32,dst,src,base,disp,imm,cc⟩=bytesX ⟨26,32,dst,src,base,disp,imm,cc⟩:=by
  have e:codeOfP 26 32=(⟨7,96,139,0,0⟩,true):=by decide +kernel
  have h1:encX ⟨26,32,dst,src,base,disp,imm,cc⟩=((([] ++ ((bif (false || (false || needB dst base)) then [rexI false dst base] else []) ++ ((bif ((139:Int) / 256 % 256 != 0) then [(139:Int) / 256 % 256] else []) ++ [(139:Int) % 256]))) ++ memL dst base disp) ++ numL imm 0):=by unfold encX;simp only [e];rfl
  rw [h1,rex_is false false dst base hd hb,show (139:Int) / 256 % 256=0 from by omega,show (139:Int) % 256=139 from by omega]
  rw [show (bif (((0:Int)) != 0) then [(0:Int)] else [])=[] from rfl]
  have h2:bytesX ⟨26,32,dst,src,base,disp,imm,cc⟩=(rexL false dst base false ++ [139]) ++ memL dst base disp:=by rfl
  rw [h2]
  simp only [numL0,regL,memL,List.nil_append,List.append_nil,List.append_assoc,List.cons_append,List.singleton_append]
theorem en_26_64 (dst src base disp imm cc:Int) (hd:0 ≤ dst ∧ dst < 16) (hs:0 ≤ src ∧ src < 16) (hb:0 ≤ base ∧ base < 16):encX ⟨26,64,dst,src,base,disp,imm,cc⟩=bytesX ⟨26,64,dst,src,base,disp,imm,cc⟩:=by
  have e:codeOfP 26 64=(⟨7,96,139,0,0⟩,true):=by decide +kernel
  have h1:encX ⟨26,64,dst,src,base,disp,imm,cc⟩=((([] ++ ((bif (false || (true || needB dst base)) then [rexI true dst base] else []) ++ ((bif ((139:Int) / 256 % 256 != 0) then [(139:Int) / 256 % 256] else []) ++ [(139:Int) % 256]))) ++ memL dst base disp) ++ numL imm 0):=by unfold encX;simp only [e];rfl
  rw [h1,rex_is true false dst base hd hb,show (139:Int) / 256 % 256=0 from by omega,show (139:Int) % 256=139 from by omega]
  rw [show (bif (((0:Int)) != 0) then [(0:Int)] else [])=[] from rfl]
  have h2:bytesX ⟨26,64,dst,src,base,disp,imm,cc⟩=(rexL true dst base false ++ [139]) ++ memL dst base disp:=by rfl
  rw [h2]
  simp only [numL0,regL,memL,List.nil_append,List.append_nil,List.append_assoc,List.cons_append,List.singleton_append]
theorem en_27_8 (dst src base disp imm cc:Int) (hd:0 ≤ dst ∧ dst < 16) (hs:0 ≤ src ∧ src < 16) (hb:0 ≤ base ∧ base < 16):encX ⟨27,8,dst,src,base,disp,imm,cc⟩=bytesX ⟨27,8,dst,src,base,disp,imm,cc⟩:=by
  have e:codeOfP 27 8=(⟨8,8,136,0,0⟩,true):=by decide +kernel
  have h1:encX ⟨27,8,dst,src,base,disp,imm,cc⟩=((([] ++ ((bif (true || (false || needB src base)) then [rexI false src base] else []) ++ ((bif ((136:Int) / 256 % 256 != 0) then [(136:Int) / 256 % 256] else []) ++ [(136:Int) % 256]))) ++ memL src base disp) ++ numL imm 0):=by unfold encX;simp only [e];rfl
  rw [h1,rex_is false true src base hs hb,show (136:Int) / 256 % 256=0 from by omega,show (136:Int) % 256=136 from by omega]
  rw [show (bif (((0:Int)) != 0) then [(0:Int)] else [])=[] from rfl]
  have h2:bytesX ⟨27,8,dst,src,base,disp,imm,cc⟩=((([]) ++ rexL false src base true) ++ [136]) ++ memL src base disp:=by rfl
  rw [h2]
  simp only [numL0,regL,memL,List.nil_append,List.append_nil,List.append_assoc,List.cons_append,List.singleton_append]
theorem en_27_16 (dst src base disp imm cc:Int) (hd:0 ≤ dst ∧ dst < 16) (hs:0 ≤ src ∧ src < 16) (hb:0 ≤ base ∧ base < 16):encX ⟨27,16,dst,src,base,disp,imm,cc⟩=bytesX ⟨27,16,dst,src,base,disp,imm,cc⟩:=by
  have e:codeOfP 27 16=(⟨8,112,137,0,0⟩,true):=by decide +kernel
  have h1:encX ⟨27,16,dst,src,base,disp,imm,cc⟩=((([102] ++ ((bif (false || (false || needB src base)) then [rexI false src base] else []) ++ ((bif ((137:Int) / 256 % 256 != 0) then [(137:Int) / 256 % 256] else []) ++ [(137:Int) % 256]))) ++ memL src base disp) ++ numL imm 0):=by unfold encX;simp only [e];rfl
  rw [h1,rex_is false false src base hs hb,show (137:Int) / 256 % 256=0 from by omega,show (137:Int) % 256=137 from by omega]
  rw [show (bif (((0:Int)) != 0) then [(0:Int)] else [])=[] from rfl]
  have h2:bytesX ⟨27,16,dst,src,base,disp,imm,cc⟩=((([102]) ++ rexL false src base false) ++ [137]) ++ memL src base disp:=by rfl
  rw [h2]
  simp only [numL0,regL,memL,List.nil_append,List.append_nil,List.append_assoc,List.cons_append,List.singleton_append]
theorem en_27_32 (dst src base disp imm cc:Int) (hd:0 ≤ dst ∧ dst < 16) (hs:0 ≤ src ∧ src < 16) (hb:0 ≤ base ∧ base < 16):encX ⟨27,32,dst,src,base,disp,imm,cc⟩=bytesX ⟨27,32,dst,src,base,disp,imm,cc⟩:=by
  have e:codeOfP 27 32=(⟨8,112,137,0,0⟩,true):=by decide +kernel
  have h1:encX ⟨27,32,dst,src,base,disp,imm,cc⟩=((([] ++ ((bif (false || (false || needB src base)) then [rexI false src base] else []) ++ ((bif ((137:Int) / 256 % 256 != 0) then [(137:Int) / 256 % 256] else []) ++ [(137:Int) % 256]))) ++ memL src base disp) ++ numL imm 0):=by unfold encX;simp only [e];rfl
  rw [h1,rex_is false false src base hs hb,show (137:Int) / 256 % 256=0 from by omega,show (137:Int) % 256=137 from by omega]
  rw [show (bif (((0:Int)) != 0) then [(0:Int)] else [])=[] from rfl]
  have h2:bytesX ⟨27,32,dst,src,base,disp,imm,cc⟩=((([]) ++ rexL false src base false) ++ [137]) ++ memL src base disp:=by rfl
  rw [h2]
  simp only [numL0,regL,memL,List.nil_append,List.append_nil,List.append_assoc,List.cons_append,List.singleton_append]
theorem en_27_64 (dst src base disp imm cc:Int) (hd:0 ≤ dst ∧ dst < 16) (hs:0 ≤ src ∧ src < 16) (hb:0 ≤ base ∧ base < 16):encX ⟨27,64,dst,src,base,disp,imm,cc⟩=bytesX ⟨27,64,dst,src,base,disp,imm,cc⟩:=by
  have e:codeOfP 27 64=(⟨8,112,137,0,0⟩,true):=by decide +kernel
  have h1:encX ⟨27,64,dst,src,base,disp,imm,cc⟩=((([] ++ ((bif (false || (true || needB src base)) then [rexI true src base] else []) ++ ((bif ((137:Int) / 256 % 256 != 0) then [(137:Int) / 256 % 256] else []) ++ [(137:Int) % 256]))) ++ memL src base disp) ++ numL imm 0):=by unfold encX;simp only [e];rfl
  rw [h1,rex_is true false src base hs hb,show (137:Int) / 256 % 256=0 from by omega,show (137:Int) % 256=137 from by omega]
  rw [show (bif (((0:Int)) != 0) then [(0:Int)] else [])=[] from rfl]
  have h2:bytesX ⟨27,64,dst,src,base,disp,imm,cc⟩=((([]) ++ rexL true src base false) ++ [137]) ++ memL src base disp:=by rfl
  rw [h2]
  simp only [numL0,regL,memL,List.nil_append,List.append_nil,List.append_assoc,List.cons_append,List.singleton_append]
theorem en_28_8 (dst src base disp imm cc:Int) (hd:0 ≤ dst ∧ dst < 16) (hs:0 ≤ src ∧ src < 16) (hb:0 ≤ base ∧ base < 16):encX ⟨28,8,dst,src,base,disp,imm,cc⟩=bytesX ⟨28,8,dst,src,base,disp,imm,cc⟩:=by
  have e:codeOfP 28 8=(⟨10,8,235,0,0⟩,true):=by decide +kernel
  have h1:encX ⟨28,8,dst,src,base,disp,imm,cc⟩=((([] ++ ((bif (false || (false || needB 0 0)) then [rexI false 0 0] else []) ++ ((bif ((235:Int) / 256 % 256 != 0) then [(235:Int) / 256 % 256] else []) ++ [(235:Int) % 256]))) ++ []) ++ numL imm 1):=by unfold encX;simp only [e];rfl
  rw [h1,rex_is false false 0 0 (by decide) (by decide),show (235:Int) / 256 % 256=0 from by omega,show (235:Int) % 256=235 from by omega]
  rw [show rexL false 0 0 false=[] from rfl]
  rw [show (bif (((0:Int)) != 0) then [(0:Int)] else [])=[] from rfl]
  have h2:bytesX ⟨28,8,dst,src,base,disp,imm,cc⟩=[235,imm % 256]:=by rfl
  rw [h2]
  simp only [numL1,regL,memL,List.nil_append,List.append_nil,List.append_assoc,List.cons_append,List.singleton_append]
theorem en_28_32 (dst src base disp imm cc:Int) (hd:0 ≤ dst ∧ dst < 16) (hs:0 ≤ src ∧ src < 16) (hb:0 ≤ base ∧ base < 16):encX ⟨28,32,dst,src,base,disp,imm,cc⟩=bytesX ⟨28,32,dst,src,base,disp,imm,cc⟩:=by
  have e:codeOfP 28 32=(⟨9,32,233,0,0⟩,true):=by decide +kernel
  have h1:encX ⟨28,32,dst,src,base,disp,imm,cc⟩=((([] ++ ((bif (false || (false || needB 0 0)) then [rexI false 0 0] else []) ++ ((bif ((233:Int) / 256 % 256 != 0) then [(233:Int) / 256 % 256] else []) ++ [(233:Int) % 256]))) ++ []) ++ numL imm 4):=by unfold encX;simp only [e];rfl
  rw [h1,rex_is false false 0 0 (by decide) (by decide),show (233:Int) / 256 % 256=0 from by omega,show (233:Int) % 256=233 from by omega]
  rw [show rexL false 0 0 false=[] from rfl]
  rw [show (bif (((0:Int)) != 0) then [(0:Int)] else [])=[] from rfl]
  have h2:bytesX ⟨28,32,dst,src,base,disp,imm,cc⟩=[233] ++ numL imm 4:=by rfl
  rw [h2]
  simp only [regL,memL,List.nil_append,List.append_nil,List.append_assoc,List.cons_append,List.singleton_append]
theorem en_29_8 (dst src base disp imm cc:Int) (hd:0 ≤ dst ∧ dst < 16) (hs:0 ≤ src ∧ src < 16) (hb:0 ≤ base ∧ base < 16) (hc:0 ≤ cc ∧ cc < 16):encX ⟨29,8,dst,src,base,disp,imm,cc⟩=bytesX ⟨29,8,dst,src,base,disp,imm,cc⟩:=by
  have e:codeOfP 29 8=(⟨10,8,112,0,15⟩,true):=by decide +kernel
  have h1:encX ⟨29,8,dst,src,base,disp,imm,cc⟩=((([] ++ ((bif (false || (false || needB 0 0)) then [rexI false 0 0] else []) ++ ((bif ((112 + cc) / 256 % 256 != 0) then [(112 + cc) / 256 % 256] else []) ++ [(112 + cc) % 256]))) ++ []) ++ numL imm 1):=by unfold encX;simp only [e];rfl
  rw [h1,rex_is false false 0 0 (by decide) (by decide),show (112 + cc) / 256 % 256=0 from by omega,show (112 + cc) % 256=112 + cc from by omega]
  rw [show rexL false 0 0 false=[] from rfl]
  rw [show (bif (((0:Int)) != 0) then [(0:Int)] else [])=[] from rfl]
  have h2:bytesX ⟨29,8,dst,src,base,disp,imm,cc⟩=[112 + cc,imm % 256]:=by rfl
  rw [h2]
  simp only [numL1,regL,memL,List.nil_append,List.append_nil,List.append_assoc,List.cons_append,List.singleton_append]
theorem en_29_32 (dst src base disp imm cc:Int) (hd:0 ≤ dst ∧ dst < 16) (hs:0 ≤ src ∧ src < 16) (hb:0 ≤ base ∧ base < 16) (hc:0 ≤ cc ∧ cc < 16):encX ⟨29,32,dst,src,base,disp,imm,cc⟩=bytesX ⟨29,32,dst,src,base,disp,imm,cc⟩:=by
  have e:codeOfP 29 32=(⟨9,32,3968,0,15⟩,true):=by decide +kernel
  have h1:encX ⟨29,32,dst,src,base,disp,imm,cc⟩=((([] ++ ((bif (false || (false || needB 0 0)) then [rexI false 0 0] else []) ++ ((bif ((3968 + cc) / 256 % 256 != 0) then [(3968 + cc) / 256 % 256] else []) ++ [(3968 + cc) % 256]))) ++ []) ++ numL imm 4):=by unfold encX;simp only [e];rfl
  rw [h1,rex_is false false 0 0 (by decide) (by decide),show (3968 + cc) / 256 % 256=15 from by omega,show (3968 + cc) % 256=128 + cc from by omega]
  rw [show rexL false 0 0 false=[] from rfl]
  rw [show (bif (((15:Int)) != 0) then [(15:Int)] else [])=[15] from rfl]
  have h2:bytesX ⟨29,32,dst,src,base,disp,imm,cc⟩=[15,128 + cc] ++ numL imm 4:=by rfl
  rw [h2]
  simp only [regL,memL,List.nil_append,List.append_nil,List.append_assoc,List.cons_append,List.singleton_append]
theorem en_30_0 (dst src base disp imm cc:Int) (hd:0 ≤ dst ∧ dst < 16) (hs:0 ≤ src ∧ src < 16) (hb:0 ≤ base ∧ base < 16):encX ⟨30,0,dst,src,base,disp,imm,cc⟩=bytesX ⟨30,0,dst,src,base,disp,imm,cc⟩:=by
  have e:codeOfP 30 0=(⟨0,0,195,0,0⟩,true):=by decide +kernel
  have h1:encX ⟨30,0,dst,src,base,disp,imm,cc⟩=((([] ++ ((bif (false || (false || needB 0 0)) then [rexI false 0 0] else []) ++ ((bif ((195:Int) / 256 % 256 != 0) then [(195:Int) / 256 % 256] else []) ++ [(195:Int) % 256]))) ++ []) ++ numL imm 0):=by unfold encX;simp only [e];rfl
  rw [h1,rex_is false false 0 0 (by decide) (by decide),show (195:Int) / 256 % 256=0 from by omega,show (195:Int) % 256=195 from by omega]
  rw [show rexL false 0 0 false=[] from rfl]
  rw [show (bif (((0:Int)) != 0) then [(0:Int)] else [])=[] from rfl]
  have h2:bytesX ⟨30,0,dst,src,base,disp,imm,cc⟩=[195]:=by rfl
  rw [h2]
  simp only [numL0,regL,memL,List.nil_append,List.append_nil,List.append_assoc,List.cons_append,List.singleton_append]
theorem en_31_0 (dst src base disp imm cc:Int) (hd:0 ≤ dst ∧ dst < 16) (hs:0 ≤ src ∧ src < 16) (hb:0 ≤ base ∧ base < 16):encX ⟨31,0,dst,src,base,disp,imm,cc⟩=bytesX ⟨31,0,dst,src,base,disp,imm,cc⟩:=by
  have e:codeOfP 31 0=(⟨0,0,3845,0,0⟩,true):=by decide +kernel
  have h1:encX ⟨31,0,dst,src,base,disp,imm,cc⟩=((([] ++ ((bif (false || (false || needB 0 0)) then [rexI false 0 0] else []) ++ ((bif ((3845:Int) / 256 % 256 != 0) then [(3845:Int) / 256 % 256] else []) ++ [(3845:Int) % 256]))) ++ []) ++ numL imm 0):=by unfold encX;simp only [e];rfl
  rw [h1,rex_is false false 0 0 (by decide) (by decide),show (3845:Int) / 256 % 256=15 from by omega,show (3845:Int) % 256=5 from by omega]
  rw [show rexL false 0 0 false=[] from rfl]
  rw [show (bif (((15:Int)) != 0) then [(15:Int)] else [])=[15] from rfl]
  have h2:bytesX ⟨31,0,dst,src,base,disp,imm,cc⟩=[15,5]:=by rfl
  rw [h2]
  simp only [numL0,regL,memL,List.nil_append,List.append_nil,List.append_assoc,List.cons_append,List.singleton_append]
end Go.Proofs.YtoghjpliemidkaaDoor.Mrm
