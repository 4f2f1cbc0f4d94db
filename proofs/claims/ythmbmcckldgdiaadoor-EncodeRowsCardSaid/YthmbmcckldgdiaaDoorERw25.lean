import Derived.Test.YthmbmcckldgdiaaDoorERw24
set_option linter.unusedVariables false
set_option linter.unusedSimpArgs false
set_option linter.unnecessarySimpa false
namespace Go.Proofs.YthmbmcckldgdiaaDoor.Mrm
open Go Go.RowKit
set_option linter.unusedVariables false
set_option linter.unusedSimpArgs false
set_option linter.unnecessarySimpa false
set_option maxRecDepth 100000
def hiB (r:Int):Int:=if 7 < r then 8 else 0
def stripH (l:List Int):Bool × List Int:=if l.headD 0=102 then (true,l.tail) else (false,l)
def stripR (l:List Int):Bool × Int × Int × List Int:=if l.headD 0 / 16=4 then (decide (l.headD 0 / 8 % 2=1),l.headD 0 / 4 % 2 * 8,l.headD 0 % 2 * 8,l.tail) else (false,0,0,l)
def d4 (l:List Int):Int:=(l.getD 0 0 + l.getD 1 0 * 256 + l.getD 2 0 * 65536 + l.getD 3 0 * 16777216 + 2147483648) % 4294967296 - 2147483648
def d1 (l:List Int):Int:=(l.getD 0 0 + 128) % 256 - 128
def dm (l:List Int):Int:=d4 (if l.getD 0 0 % 8=4 then l.drop 2 else l.drop 1)
def rg (l:List Int) (h:Int):Int:=l.getD 0 0 / 8 % 8 + h
def rm (l:List Int) (h:Int):Int:=l.getD 0 0 % 8 + h
def dig (l:List Int):Int:=l.getD 0 0 / 8 % 8
def g81 (g:Int):Int:=if g=0 then 9 else if g=1 then 10 else if g=4 then 11 else if g=5 then 12 else if g=6 then 13 else 14
def gC1 (g:Int):Int:=if g=4 then 17 else if g=5 then 18 else 19
def gD3 (g:Int):Int:=if g=4 then 20 else if g=5 then 21 else 22
def gF7 (g:Int):Int:=if g=0 then 15 else if g=3 then 23 else 24
def opT (n:Int):Int:=if n=137 then 0 else if n=1 then 2 else if n=9 then 3 else if n=33 then 4 else if n=41 then 5 else if n=49 then 6 else if n=57 then 7 else 8
def bodyO (w:Int) (rh mh:Int) (n:Int) (l:List Int):Xi:=
  if n=175 then ⟨16,w,rg l rh,rm l mh,0,0,0,0⟩ else
  if n=5 then ⟨31,0,0,0,0,0,0,0⟩ else
  if n / 16=4 then ⟨25,w,rg l rh,rm l mh,0,0,0,n % 16⟩ else
  if n / 16=8 then ⟨29,32,0,0,0,0,d4 l,n % 16⟩ else
  ⟨26,if n=182 then 8 else 16,rg l rh,0,rm l mh,dm l,0,0⟩
def bodyX (half:Bool) (w:Int) (rh mh:Int) (n:Int) (l:List Int):Xi:=
  if n=15 then bodyO w rh mh (l.headD 0) l.tail else
  if n=137 ∧ l.getD 0 0 < 192 then ⟨27,if half then 16 else w,0,rg l rh,rm l mh,dm l,0,0⟩ else
  if n=136 then ⟨27,8,0,rg l rh,rm l mh,dm l,0,0⟩ else
  if n=139 then ⟨26,w,rg l rh,0,rm l mh,dm l,0,0⟩ else
  if n=199 then ⟨1,w,rm l mh,0,0,0,d4 l.tail,0⟩ else
  if 184 ≤ n ∧ n < 192 then ⟨1,32,n - 184 + mh,0,0,0,d4 l,0⟩ else
  if n=129 then ⟨g81 (dig l),w,rm l mh,0,0,0,d4 l.tail,0⟩ else
  if n=193 then ⟨gC1 (dig l),w,rm l mh,0,0,0,l.getD 1 0,0⟩ else
  if n=211 then ⟨gD3 (dig l),w,rm l mh,0,0,0,0,0⟩ else
  if n=247 then ⟨gF7 (dig l),w,rm l mh,0,0,0,if dig l=0 then d4 l.tail else 0,0⟩ else
  if n=235 then ⟨28,8,0,0,0,0,d1 l,0⟩ else
  if n=233 then ⟨28,32,0,0,0,0,d4 l,0⟩ else
  if n / 16=7 then ⟨29,8,0,0,0,0,d1 l,n % 16⟩ else
  if n=195 then ⟨30,0,0,0,0,0,0,0⟩ else
  ⟨opT n,w,rm l mh,rg l rh,0,0,0,0⟩
def rdX (l:List Int):Xi:=
  bodyX (stripH l).1 (if (stripR (stripH l).2).1 then 64 else 32) (stripR (stripH l).2).2.1 (stripR (stripH l).2).2.2.1 ((stripR (stripH l).2).2.2.2.headD 0) (stripR (stripH l).2).2.2.2.tail
theorem rexN_fin (wd:Bool):∀ r m:Fin 16,(64 + rexN wd r.1 m.1) / 16=4 ∧ decide ((64 + rexN wd r.1 m.1) / 8 % 2=1)=wd ∧ (64 + rexN wd r.1 m.1) / 4 % 2 * 8=hiB r.1 ∧ (64 + rexN wd r.1 m.1) % 2 * 8=hiB m.1 ∧ (rexN wd r.1 m.1=0 → wd=false ∧ hiB r.1=0 ∧ hiB m.1=0):=by cases wd <;> decide +kernel
theorem rexN_is (wd:Bool) {r m:Int} (hr:0 ≤ r ∧ r < 16) (hm:0 ≤ m ∧ m < 16):(64 + rexN wd r m) / 16=4 ∧ decide ((64 + rexN wd r m) / 8 % 2=1)=wd ∧ (64 + rexN wd r m) / 4 % 2 * 8=hiB r ∧ (64 + rexN wd r m) % 2 * 8=hiB m ∧ (rexN wd r m=0 → wd=false ∧ hiB r=0 ∧ hiB m=0):=by
  have:=rexN_fin wd ⟨r.toNat,by omega⟩ ⟨m.toNat,by omega⟩
  simp only [Int.toNat_of_nonneg hr.1,Int.toNat_of_nonneg hm.1] at this
  exact this
theorem strip_rex (wd al:Bool) {r m n:Int} (l:List Int) (hr:0 ≤ r ∧ r < 16) (hm:0 ≤ m ∧ m < 16) (hn:n / 16 ≠ 4):stripR (rexL wd r m al ++ n :: l)=(wd,hiB r,hiB m,n :: l):=by
  obtain ⟨h1,h2,h3,h4,h5⟩:=rexN_is wd hr hm
  unfold rexL
  split
  · rename_i h
    obtain ⟨e1,e2,e3⟩:=h5 h.1
    subst e1
    rw [e2,e3]
    show stripR (n :: l)=_
    unfold stripR
    exact if_neg hn
  · show stripR ((64 + rexN wd r m) :: (n :: l))=_
    unfold stripR
    have e:(((64 + rexN wd r m) :: (n :: l)).headD 0)=64 + rexN wd r m:=rfl
    rw [e,if_pos h1,h2,h3,h4]
    rfl
theorem rd_front (wd al:Bool) {r m n:Int} (l:List Int) (hr:0 ≤ r ∧ r < 16) (hm:0 ≤ m ∧ m < 16) (hn:n / 16 ≠ 4) (hn2:n ≠ 102):rdX (rexL wd r m al ++ n :: l)=bodyX false (if wd then 64 else 32) (hiB r) (hiB m) n l:=by
  have h0:stripH (rexL wd r m al ++ n :: l)=(false,rexL wd r m al ++ n :: l):=by
    have h1:=(rexN_is wd hr hm).1
    unfold stripH
    unfold rexL
    split
    · exact if_neg hn2
    · exact if_neg (show ¬ 64 + rexN wd r m=102 by omega)
  unfold rdX
  rw [h0]
  simp only [strip_rex wd al l hr hm hn]
  rfl
theorem rd_half (wd al:Bool) {r m n:Int} (l:List Int) (hr:0 ≤ r ∧ r < 16) (hm:0 ≤ m ∧ m < 16) (hn:n / 16 ≠ 4):rdX (102 :: (rexL wd r m al ++ n :: l))=bodyX true (if wd then 64 else 32) (hiB r) (hiB m) n l:=by
  have h0:stripH (102 :: (rexL wd r m al ++ n :: l))=(true,rexL wd r m al ++ n :: l):=rfl
  unfold rdX
  rw [h0]
  simp only [strip_rex wd al l hr hm hn]
  rfl
theorem rd_bare {n:Int} (l:List Int) (hn:n / 16 ≠ 4) (hn2:n ≠ 102):rdX (n :: l)=bodyX false 32 0 0 n l:=rd_front false false (r:=0) (m:=0) l (by decide) (by decide) hn hn2
theorem rg_is {k r m:Int} (l:List Int) (hk:k=192 ∨ k=128) (hr:0 ≤ r ∧ r < 16):rg (opI k r m :: l) (hiB r)=r:=by
  unfold rg opI hiB
  simp only [List.getD_cons_zero]
  split <;> omega
theorem rm_is {k r m:Int} (l:List Int) (hk:k=192 ∨ k=128) (hm:0 ≤ m ∧ m < 16):rm (opI k r m :: l) (hiB m)=m:=by
  unfold rm opI hiB
  simp only [List.getD_cons_zero]
  split <;> omega
theorem dig_is {r m:Int} (l:List Int) (hr:0 ≤ r ∧ r < 8):dig (opI 192 r m :: l)=r:=by
  unfold dig opI
  simp only [List.getD_cons_zero]
  omega
theorem numL4 (v:Int):numL v 4=[v % 256,v / 256 % 256,v / 65536 % 256,v / 16777216 % 256]:=by
  show [v / 2 ^ (8 * 0) % 256,v / 2 ^ (8 * 1) % 256,v / 2 ^ (8 * 2) % 256,v / 2 ^ (8 * 3) % 256]=_
  simp
theorem d4_is {v:Int} (l:List Int) (h:fourB v=true):d4 (numL v 4 ++ l)=v:=by
  unfold fourB at h
  simp only [Bool.and_eq_true,decide_eq_true_eq] at h
  rw [numL4]
  unfold d4
  simp only [List.cons_append,List.nil_append,List.getD_cons_zero,List.getD_cons_succ]
  omega
theorem d1_is {v:Int} (l:List Int) (h:oneB v=true):d1 (v % 256 :: l)=v:=by
  unfold oneB at h
  simp only [Bool.and_eq_true,decide_eq_true_eq] at h
  unfold d1
  simp only [List.getD_cons_zero]
  omega
theorem dm_is {r m d:Int} (l:List Int) (h:fourB d=true):dm (opI 128 r m :: (midL m ++ (numL d 4 ++ l)))=d:=by
  unfold dm midL
  have e:opI 128 r m % 8=m % 8:=by unfold opI;omega
  simp only [List.getD_cons_zero,e]
  split
  · show d4 (numL d 4 ++ l)=d
    exact d4_is l h
  · show d4 (numL d 4 ++ l)=d
    exact d4_is l h
theorem op_lo {r m:Int}:opI 128 r m < 192:=by unfold opI;omega
theorem op_hi {r m:Int}:¬ opI 192 r m < 192:=by unfold opI;omega
theorem rd_0_32 (dst src base disp imm cc:Int) (t:List Int) (hd:0 ≤ dst ∧ dst < 16) (hs:0 ≤ src ∧ src < 16) (hb:0 ≤ base ∧ base < 16) (hD:fourB disp=true) (hI:fourB imm=true):rdX (bytesX ⟨0,32,dst,src,base,disp,imm,cc⟩ ++ t)=⟨0,32,dst,src,0,0,0,0⟩:=by
  have h1:bytesX ⟨0,32,dst,src,base,disp,imm,cc⟩ ++ t=rexL false src dst false ++ 137 :: (opI 192 src dst :: t):=by
    show (rexL false src dst false ++ [137,opI 192 src dst]) ++ t=_
    simp only [List.append_assoc,List.cons_append,List.nil_append,memL,List.append_nil]
  rw [h1,rd_front false false _ hs hd (by omega) (by omega)]
  show bodyX false (if false=true then 64 else 32) (hiB src) (hiB dst) (137) (opI 192 src dst :: t)=_
  unfold bodyX
  simp only [List.headD_cons,List.tail_cons,List.getD_cons_zero,List.getD_cons_succ,op_hi]
  simp [rg_is (k:=192) (r:=src) (m:=dst) t (.inl rfl) hs,rm_is (k:=192) (r:=src) (m:=dst) t (.inl rfl) hd,op_hi,g81,gC1,gD3,gF7,opT]
theorem rd_0_64 (dst src base disp imm cc:Int) (t:List Int) (hd:0 ≤ dst ∧ dst < 16) (hs:0 ≤ src ∧ src < 16) (hb:0 ≤ base ∧ base < 16) (hD:fourB disp=true) (hI:fourB imm=true):rdX (bytesX ⟨0,64,dst,src,base,disp,imm,cc⟩ ++ t)=⟨0,64,dst,src,0,0,0,0⟩:=by
  have h1:bytesX ⟨0,64,dst,src,base,disp,imm,cc⟩ ++ t=rexL true src dst false ++ 137 :: (opI 192 src dst :: t):=by
    show (rexL true src dst false ++ [137,opI 192 src dst]) ++ t=_
    simp only [List.append_assoc,List.cons_append,List.nil_append,memL,List.append_nil]
  rw [h1,rd_front true false _ hs hd (by omega) (by omega)]
  show bodyX false (if true=true then 64 else 32) (hiB src) (hiB dst) (137) (opI 192 src dst :: t)=_
  unfold bodyX
  simp only [List.headD_cons,List.tail_cons,List.getD_cons_zero,List.getD_cons_succ,op_hi]
  simp [rg_is (k:=192) (r:=src) (m:=dst) t (.inl rfl) hs,rm_is (k:=192) (r:=src) (m:=dst) t (.inl rfl) hd,op_hi,g81,gC1,gD3,gF7,opT]
theorem rd_1_32 (dst src base disp imm cc:Int) (t:List Int) (hd:0 ≤ dst ∧ dst < 16) (hs:0 ≤ src ∧ src < 16) (hb:0 ≤ base ∧ base < 16) (hD:fourB disp=true) (hI:fourB imm=true):rdX (bytesX ⟨1,32,dst,src,base,disp,imm,cc⟩ ++ t)=⟨1,32,dst,0,0,0,imm,0⟩:=by
  have h1:bytesX ⟨1,32,dst,src,base,disp,imm,cc⟩ ++ t=rexL false 0 dst false ++ (184 + dst % 8) :: (numL imm 4 ++ t):=by
    show ((rexL false 0 dst false ++ [184 + dst % 8]) ++ numL imm 4) ++ t=_
    simp only [List.append_assoc,List.cons_append,List.nil_append,memL,List.append_nil]
  rw [h1,rd_front false false _ (by decide) hd (by omega) (by omega)]
  show bodyX false (if false=true then 64 else 32) (hiB 0) (hiB dst) ((184 + dst % 8)) (numL imm 4 ++ t)=_
  have e0:184 ≤ 184 + dst % 8 ∧ 184 + dst % 8 < 192:=by omega
  unfold bodyX
  rw [if_neg (by omega),if_neg (by omega),if_neg (by omega),if_neg (by omega),if_neg (by omega),if_pos e0,d4_is (v:=imm) t hI]
  rw [show 184 + dst % 8 - 184 + hiB dst=dst from by unfold hiB;split <;> omega]
theorem rd_1_64 (dst src base disp imm cc:Int) (t:List Int) (hd:0 ≤ dst ∧ dst < 16) (hs:0 ≤ src ∧ src < 16) (hb:0 ≤ base ∧ base < 16) (hD:fourB disp=true) (hI:fourB imm=true):rdX (bytesX ⟨1,64,dst,src,base,disp,imm,cc⟩ ++ t)=⟨1,64,dst,0,0,0,imm,0⟩:=by
  have h1:bytesX ⟨1,64,dst,src,base,disp,imm,cc⟩ ++ t=rexL true 0 dst false ++ 199 :: (opI 192 0 dst :: (numL imm 4 ++ t)):=by
    show ((rexL true 0 dst false ++ [199,opI 192 0 dst]) ++ numL imm 4) ++ t=_
    simp only [List.append_assoc,List.cons_append,List.nil_append,memL,List.append_nil]
  rw [h1,rd_front true false _ (by decide) hd (by omega) (by omega)]
  show bodyX false (if true=true then 64 else 32) (hiB 0) (hiB dst) (199) (opI 192 0 dst :: (numL imm 4 ++ t))=_
  unfold bodyX
  simp only [List.headD_cons,List.tail_cons,List.getD_cons_zero,List.getD_cons_succ]
  simp [rm_is (k:=192) (r:=0) (m:=dst) (numL imm 4 ++ t) (.inl rfl) hd,d4_is (v:=imm) t hI,g81,gC1,gD3,gF7,opT]
theorem rd_2_32 (dst src base disp imm cc:Int) (t:List Int) (hd:0 ≤ dst ∧ dst < 16) (hs:0 ≤ src ∧ src < 16) (hb:0 ≤ base ∧ base < 16) (hD:fourB disp=true) (hI:fourB imm=true):rdX (bytesX ⟨2,32,dst,src,base,disp,imm,cc⟩ ++ t)=⟨2,32,dst,src,0,0,0,0⟩:=by
  have h1:bytesX ⟨2,32,dst,src,base,disp,imm,cc⟩ ++ t=rexL false src dst false ++ 1 :: (opI 192 src dst :: t):=by
    show (rexL false src dst false ++ [1,opI 192 src dst]) ++ t=_
    simp only [List.append_assoc,List.cons_append,List.nil_append,memL,List.append_nil]
  rw [h1,rd_front false false _ hs hd (by omega) (by omega)]
  show bodyX false (if false=true then 64 else 32) (hiB src) (hiB dst) (1) (opI 192 src dst :: t)=_
  unfold bodyX
  simp only [List.headD_cons,List.tail_cons,List.getD_cons_zero,List.getD_cons_succ]
  simp [rg_is (k:=192) (r:=src) (m:=dst) t (.inl rfl) hs,rm_is (k:=192) (r:=src) (m:=dst) t (.inl rfl) hd,g81,gC1,gD3,gF7,opT]
theorem rd_2_64 (dst src base disp imm cc:Int) (t:List Int) (hd:0 ≤ dst ∧ dst < 16) (hs:0 ≤ src ∧ src < 16) (hb:0 ≤ base ∧ base < 16) (hD:fourB disp=true) (hI:fourB imm=true):rdX (bytesX ⟨2,64,dst,src,base,disp,imm,cc⟩ ++ t)=⟨2,64,dst,src,0,0,0,0⟩:=by
  have h1:bytesX ⟨2,64,dst,src,base,disp,imm,cc⟩ ++ t=rexL true src dst false ++ 1 :: (opI 192 src dst :: t):=by
    show (rexL true src dst false ++ [1,opI 192 src dst]) ++ t=_
    simp only [List.append_assoc,List.cons_append,List.nil_append,memL,List.append_nil]
  rw [h1,rd_front true false _ hs hd (by omega) (by omega)]
  show bodyX false (if true=true then 64 else 32) (hiB src) (hiB dst) (1) (opI 192 src dst :: t)=_
  unfold bodyX
  simp only [List.headD_cons,List.tail_cons,List.getD_cons_zero,List.getD_cons_succ]
  simp [rg_is (k:=192) (r:=src) (m:=dst) t (.inl rfl) hs,rm_is (k:=192) (r:=src) (m:=dst) t (.inl rfl) hd,g81,gC1,gD3,gF7,opT]
theorem rd_3_32 (dst src base disp imm cc:Int) (t:List Int) (hd:0 ≤ dst ∧ dst < 16) (hs:0 ≤ src ∧ src < 16) (hb:0 ≤ base ∧ base < 16) (hD:fourB disp=true) (hI:fourB imm=true):rdX (bytesX ⟨3,32,dst,src,base,disp,imm,cc⟩ ++ t)=⟨3,32,dst,src,0,0,0,0⟩:=by
  have h1:bytesX ⟨3,32,dst,src,base,disp,imm,cc⟩ ++ t=rexL false src dst false ++ 9 :: (opI 192 src dst :: t):=by
    show (rexL false src dst false ++ [9,opI 192 src dst]) ++ t=_
    simp only [List.append_assoc,List.cons_append,List.nil_append,memL,List.append_nil]
  rw [h1,rd_front false false _ hs hd (by omega) (by omega)]
  show bodyX false (if false=true then 64 else 32) (hiB src) (hiB dst) (9) (opI 192 src dst :: t)=_
  unfold bodyX
  simp only [List.headD_cons,List.tail_cons,List.getD_cons_zero,List.getD_cons_succ]
  simp [rg_is (k:=192) (r:=src) (m:=dst) t (.inl rfl) hs,rm_is (k:=192) (r:=src) (m:=dst) t (.inl rfl) hd,g81,gC1,gD3,gF7,opT]
theorem rd_3_64 (dst src base disp imm cc:Int) (t:List Int) (hd:0 ≤ dst ∧ dst < 16) (hs:0 ≤ src ∧ src < 16) (hb:0 ≤ base ∧ base < 16) (hD:fourB disp=true) (hI:fourB imm=true):rdX (bytesX ⟨3,64,dst,src,base,disp,imm,cc⟩ ++ t)=⟨3,64,dst,src,0,0,0,0⟩:=by
  have h1:bytesX ⟨3,64,dst,src,base,disp,imm,cc⟩ ++ t=rexL true src dst false ++ 9 :: (opI 192 src dst :: t):=by
    show (rexL true src dst false ++ [9,opI 192 src dst]) ++ t=_
    simp only [List.append_assoc,List.cons_append,List.nil_append,memL,List.append_nil]
  rw [h1,rd_front true false _ hs hd (by omega) (by omega)]
  show bodyX false (if true=true then 64 else 32) (hiB src) (hiB dst) (9) (opI 192 src dst :: t)=_
  unfold bodyX
  simp only [List.headD_cons,List.tail_cons,List.getD_cons_zero,List.getD_cons_succ]
  simp [rg_is (k:=192) (r:=src) (m:=dst) t (.inl rfl) hs,rm_is (k:=192) (r:=src) (m:=dst) t (.inl rfl) hd,g81,gC1,gD3,gF7,opT]
theorem rd_4_32 (dst src base disp imm cc:Int) (t:List Int) (hd:0 ≤ dst ∧ dst < 16) (hs:0 ≤ src ∧ src < 16) (hb:0 ≤ base ∧ base < 16) (hD:fourB disp=true) (hI:fourB imm=true):rdX (bytesX ⟨4,32,dst,src,base,disp,imm,cc⟩ ++ t)=⟨4,32,dst,src,0,0,0,0⟩:=by
  have h1:bytesX ⟨4,32,dst,src,base,disp,imm,cc⟩ ++ t=rexL false src dst false ++ 33 :: (opI 192 src dst :: t):=by
    show (rexL false src dst false ++ [33,opI 192 src dst]) ++ t=_
    simp only [List.append_assoc,List.cons_append,List.nil_append,memL,List.append_nil]
  rw [h1,rd_front false false _ hs hd (by omega) (by omega)]
  show bodyX false (if false=true then 64 else 32) (hiB src) (hiB dst) (33) (opI 192 src dst :: t)=_
  unfold bodyX
  simp only [List.headD_cons,List.tail_cons,List.getD_cons_zero,List.getD_cons_succ]
  simp [rg_is (k:=192) (r:=src) (m:=dst) t (.inl rfl) hs,rm_is (k:=192) (r:=src) (m:=dst) t (.inl rfl) hd,g81,gC1,gD3,gF7,opT]
theorem rd_4_64 (dst src base disp imm cc:Int) (t:List Int) (hd:0 ≤ dst ∧ dst < 16) (hs:0 ≤ src ∧ src < 16) (hb:0 ≤ base ∧ base < 16) (hD:fourB disp=true) (hI:fourB imm=true):rdX (bytesX ⟨4,64,dst,src,base,disp,imm,cc⟩ ++ t)=⟨4,64,dst,src,0,0,0,0⟩:=by
  have h1:bytesX ⟨4,64,dst,src,base,disp,imm,cc⟩ ++ t=rexL true src dst false ++ 33 :: (opI 192 src dst :: t):=by
    show (rexL true src dst false ++ [33,opI 192 src dst]) ++ t=_
    simp only [List.append_assoc,List.cons_append,List.nil_append,memL,List.append_nil]
  rw [h1,rd_front true false _ hs hd (by omega) (by omega)]
  show bodyX false (if true=true then 64 else 32) (hiB src) (hiB dst) (33) (opI 192 src dst :: t)=_
  unfold bodyX
  simp only [List.headD_cons,List.tail_cons,List.getD_cons_zero,List.getD_cons_succ]
  simp [rg_is (k:=192) (r:=src) (m:=dst) t (.inl rfl) hs,rm_is (k:=192) (r:=src) (m:=dst) t (.inl rfl) hd,g81,gC1,gD3,gF7,opT]
theorem rd_5_32 (dst src base disp imm cc:Int) (t:List Int) (hd:0 ≤ dst ∧ dst < 16) (hs:0 ≤ src ∧ src < 16) (hb:0 ≤ base ∧ base < 16) (hD:fourB disp=true) (hI:fourB imm=true):rdX (bytesX ⟨5,32,dst,src,base,disp,imm,cc⟩ ++ t)=⟨5,32,dst,src,0,0,0,0⟩:=by
  have h1:bytesX ⟨5,32,dst,src,base,disp,imm,cc⟩ ++ t=rexL false src dst false ++ 41 :: (opI 192 src dst :: t):=by
    show (rexL false src dst false ++ [41,opI 192 src dst]) ++ t=_
    simp only [List.append_assoc,List.cons_append,List.nil_append,memL,List.append_nil]
  rw [h1,rd_front false false _ hs hd (by omega) (by omega)]
  show bodyX false (if false=true then 64 else 32) (hiB src) (hiB dst) (41) (opI 192 src dst :: t)=_
  unfold bodyX
  simp only [List.headD_cons,List.tail_cons,List.getD_cons_zero,List.getD_cons_succ]
  simp [rg_is (k:=192) (r:=src) (m:=dst) t (.inl rfl) hs,rm_is (k:=192) (r:=src) (m:=dst) t (.inl rfl) hd,g81,gC1,gD3,gF7,opT]
theorem rd_5_64 (dst src base disp imm cc:Int) (t:List Int) (hd:0 ≤ dst ∧ dst < 16) (hs:0 ≤ src ∧ src < 16) (hb:0 ≤ base ∧ base < 16) (hD:fourB disp=true) (hI:fourB imm=true):rdX (bytesX ⟨5,64,dst,src,base,disp,imm,cc⟩ ++ t)=⟨5,64,dst,src,0,0,0,0⟩:=by
  have h1:bytesX ⟨5,64,dst,src,base,disp,imm,cc⟩ ++ t=rexL true src dst false ++ 41 :: (opI 192 src dst :: t):=by
    show (rexL true src dst false ++ [41,opI 192 src dst]) ++ t=_
    simp only [List.append_assoc,List.cons_append,List.nil_append,memL,List.append_nil]
  rw [h1,rd_front true false _ hs hd (by omega) (by omega)]
  show bodyX false (if true=true then 64 else 32) (hiB src) (hiB dst) (41) (opI 192 src dst :: t)=_
  unfold bodyX
  simp only [List.headD_cons,List.tail_cons,List.getD_cons_zero,List.getD_cons_succ]
  simp [rg_is (k:=192) (r:=src) (m:=dst) t (.inl rfl) hs,rm_is (k:=192) (r:=src) (m:=dst) t (.inl rfl) hd,g81,gC1,gD3,gF7,opT]
theorem rd_6_32 (dst src base disp imm cc:Int) (t:List Int) (hd:0 ≤ dst ∧ dst < 16) (hs:0 ≤ src ∧ src < 16) (hb:0 ≤ base ∧ base < 16) (hD:fourB disp=true) (hI:fourB imm=true):rdX (bytesX ⟨6,32,dst,src,base,disp,imm,cc⟩ ++ t)=⟨6,32,dst,src,0,0,0,0⟩:=by
  have h1:bytesX ⟨6,32,dst,src,base,disp,imm,cc⟩ ++ t=rexL false src dst false ++ 49 :: (opI 192 src dst :: t):=by
    show (rexL false src dst false ++ [49,opI 192 src dst]) ++ t=_
    simp only [List.append_assoc,List.cons_append,List.nil_append,memL,List.append_nil]
  rw [h1,rd_front false false _ hs hd (by omega) (by omega)]
  show bodyX false (if false=true then 64 else 32) (hiB src) (hiB dst) (49) (opI 192 src dst :: t)=_
  unfold bodyX
  simp only [List.headD_cons,List.tail_cons,List.getD_cons_zero,List.getD_cons_succ]
  simp [rg_is (k:=192) (r:=src) (m:=dst) t (.inl rfl) hs,rm_is (k:=192) (r:=src) (m:=dst) t (.inl rfl) hd,g81,gC1,gD3,gF7,opT]
theorem rd_6_64 (dst src base disp imm cc:Int) (t:List Int) (hd:0 ≤ dst ∧ dst < 16) (hs:0 ≤ src ∧ src < 16) (hb:0 ≤ base ∧ base < 16) (hD:fourB disp=true) (hI:fourB imm=true):rdX (bytesX ⟨6,64,dst,src,base,disp,imm,cc⟩ ++ t)=⟨6,64,dst,src,0,0,0,0⟩:=by
  have h1:bytesX ⟨6,64,dst,src,base,disp,imm,cc⟩ ++ t=rexL true src dst false ++ 49 :: (opI 192 src dst :: t):=by
    show (rexL true src dst false ++ [49,opI 192 src dst]) ++ t=_
    simp only [List.append_assoc,List.cons_append,List.nil_append,memL,List.append_nil]
  rw [h1,rd_front true false _ hs hd (by omega) (by omega)]
  show bodyX false (if true=true then 64 else 32) (hiB src) (hiB dst) (49) (opI 192 src dst :: t)=_
  unfold bodyX
  simp only [List.headD_cons,List.tail_cons,List.getD_cons_zero,List.getD_cons_succ]
  simp [rg_is (k:=192) (r:=src) (m:=dst) t (.inl rfl) hs,rm_is (k:=192) (r:=src) (m:=dst) t (.inl rfl) hd,g81,gC1,gD3,gF7,opT]
theorem rd_7_32 (dst src base disp imm cc:Int) (t:List Int) (hd:0 ≤ dst ∧ dst < 16) (hs:0 ≤ src ∧ src < 16) (hb:0 ≤ base ∧ base < 16) (hD:fourB disp=true) (hI:fourB imm=true):rdX (bytesX ⟨7,32,dst,src,base,disp,imm,cc⟩ ++ t)=⟨7,32,dst,src,0,0,0,0⟩:=by
  have h1:bytesX ⟨7,32,dst,src,base,disp,imm,cc⟩ ++ t=rexL false src dst false ++ 57 :: (opI 192 src dst :: t):=by
    show (rexL false src dst false ++ [57,opI 192 src dst]) ++ t=_
    simp only [List.append_assoc,List.cons_append,List.nil_append,memL,List.append_nil]
  rw [h1,rd_front false false _ hs hd (by omega) (by omega)]
  show bodyX false (if false=true then 64 else 32) (hiB src) (hiB dst) (57) (opI 192 src dst :: t)=_
  unfold bodyX
  simp only [List.headD_cons,List.tail_cons,List.getD_cons_zero,List.getD_cons_succ]
  simp [rg_is (k:=192) (r:=src) (m:=dst) t (.inl rfl) hs,rm_is (k:=192) (r:=src) (m:=dst) t (.inl rfl) hd,g81,gC1,gD3,gF7,opT]
theorem rd_7_64 (dst src base disp imm cc:Int) (t:List Int) (hd:0 ≤ dst ∧ dst < 16) (hs:0 ≤ src ∧ src < 16) (hb:0 ≤ base ∧ base < 16) (hD:fourB disp=true) (hI:fourB imm=true):rdX (bytesX ⟨7,64,dst,src,base,disp,imm,cc⟩ ++ t)=⟨7,64,dst,src,0,0,0,0⟩:=by
  have h1:bytesX ⟨7,64,dst,src,base,disp,imm,cc⟩ ++ t=rexL true src dst false ++ 57 :: (opI 192 src dst :: t):=by
    show (rexL true src dst false ++ [57,opI 192 src dst]) ++ t=_
    simp only [List.append_assoc,List.cons_append,List.nil_append,memL,List.append_nil]
  rw [h1,rd_front true false _ hs hd (by omega) (by omega)]
  show bodyX false (if true=true then 64 else 32) (hiB src) (hiB dst) (57) (opI 192 src dst :: t)=_
  unfold bodyX
  simp only [List.headD_cons,List.tail_cons,List.getD_cons_zero,List.getD_cons_succ]
  simp [rg_is (k:=192) (r:=src) (m:=dst) t (.inl rfl) hs,rm_is (k:=192) (r:=src) (m:=dst) t (.inl rfl) hd,g81,gC1,gD3,gF7,opT]
theorem rd_8_32 (dst src base disp imm cc:Int) (t:List Int) (hd:0 ≤ dst ∧ dst < 16) (hs:0 ≤ src ∧ src < 16) (hb:0 ≤ base ∧ base < 16) (hD:fourB disp=true) (hI:fourB imm=true):rdX (bytesX ⟨8,32,dst,src,base,disp,imm,cc⟩ ++ t)=⟨8,32,dst,src,0,0,0,0⟩:=by
  have h1:bytesX ⟨8,32,dst,src,base,disp,imm,cc⟩ ++ t=rexL false src dst false ++ 133 :: (opI 192 src dst :: t):=by
    show (rexL false src dst false ++ [133,opI 192 src dst]) ++ t=_
    simp only [List.append_assoc,List.cons_append,List.nil_append,memL,List.append_nil]
  rw [h1,rd_front false false _ hs hd (by omega) (by omega)]
  show bodyX false (if false=true then 64 else 32) (hiB src) (hiB dst) (133) (opI 192 src dst :: t)=_
  unfold bodyX
  simp only [List.headD_cons,List.tail_cons,List.getD_cons_zero,List.getD_cons_succ]
  simp [rg_is (k:=192) (r:=src) (m:=dst) t (.inl rfl) hs,rm_is (k:=192) (r:=src) (m:=dst) t (.inl rfl) hd,g81,gC1,gD3,gF7,opT]
theorem rd_8_64 (dst src base disp imm cc:Int) (t:List Int) (hd:0 ≤ dst ∧ dst < 16) (hs:0 ≤ src ∧ src < 16) (hb:0 ≤ base ∧ base < 16) (hD:fourB disp=true) (hI:fourB imm=true):rdX (bytesX ⟨8,64,dst,src,base,disp,imm,cc⟩ ++ t)=⟨8,64,dst,src,0,0,0,0⟩:=by
  have h1:bytesX ⟨8,64,dst,src,base,disp,imm,cc⟩ ++ t=rexL true src dst false ++ 133 :: (opI 192 src dst :: t):=by
    show (rexL true src dst false ++ [133,opI 192 src dst]) ++ t=_
    simp only [List.append_assoc,List.cons_append,List.nil_append,memL,List.append_nil]
  rw [h1,rd_front true false _ hs hd (by omega) (by omega)]
  show bodyX false (if true=true then 64 else 32) (hiB src) (hiB dst) (133) (opI 192 src dst :: t)=_
  unfold bodyX
  simp only [List.headD_cons,List.tail_cons,List.getD_cons_zero,List.getD_cons_succ]
  simp [rg_is (k:=192) (r:=src) (m:=dst) t (.inl rfl) hs,rm_is (k:=192) (r:=src) (m:=dst) t (.inl rfl) hd,g81,gC1,gD3,gF7,opT]
theorem rd_9_32 (dst src base disp imm cc:Int) (t:List Int) (hd:0 ≤ dst ∧ dst < 16) (hs:0 ≤ src ∧ src < 16) (hb:0 ≤ base ∧ base < 16) (hD:fourB disp=true) (hI:fourB imm=true):rdX (bytesX ⟨9,32,dst,src,base,disp,imm,cc⟩ ++ t)=⟨9,32,dst,0,0,0,imm,0⟩:=by
  have h1:bytesX ⟨9,32,dst,src,base,disp,imm,cc⟩ ++ t=rexL false 0 dst false ++ 129 :: (opI 192 0 dst :: (numL imm 4 ++ t)):=by
    show (((rexL false 0 dst false ++ [129]) ++ [opI 192 0 dst]) ++ numL imm 4) ++ t=_
    simp only [List.append_assoc,List.cons_append,List.nil_append,memL,List.append_nil]
  rw [h1,rd_front false false _ (by decide) hd (by omega) (by omega)]
  show bodyX false (if false=true then 64 else 32) (hiB 0) (hiB dst) (129) (opI 192 0 dst :: (numL imm 4 ++ t))=_
  unfold bodyX
  simp only [List.headD_cons,List.tail_cons,List.getD_cons_zero,List.getD_cons_succ]
  simp [rm_is (k:=192) (r:=0) (m:=dst) (numL imm 4 ++ t) (.inl rfl) hd,dig_is (r:=0) (m:=dst) (numL imm 4 ++ t) (by decide),d4_is (v:=imm) t hI,g81,gC1,gD3,gF7,opT]
theorem rd_9_64 (dst src base disp imm cc:Int) (t:List Int) (hd:0 ≤ dst ∧ dst < 16) (hs:0 ≤ src ∧ src < 16) (hb:0 ≤ base ∧ base < 16) (hD:fourB disp=true) (hI:fourB imm=true):rdX (bytesX ⟨9,64,dst,src,base,disp,imm,cc⟩ ++ t)=⟨9,64,dst,0,0,0,imm,0⟩:=by
  have h1:bytesX ⟨9,64,dst,src,base,disp,imm,cc⟩ ++ t=rexL true 0 dst false ++ 129 :: (opI 192 0 dst :: (numL imm 4 ++ t)):=by
    show (((rexL true 0 dst false ++ [129]) ++ [opI 192 0 dst]) ++ numL imm 4) ++ t=_
    simp only [List.append_assoc,List.cons_append,List.nil_append,memL,List.append_nil]
  rw [h1,rd_front true false _ (by decide) hd (by omega) (by omega)]
  show bodyX false (if true=true then 64 else 32) (hiB 0) (hiB dst) (129) (opI 192 0 dst :: (numL imm 4 ++ t))=_
  unfold bodyX
  simp only [List.headD_cons,List.tail_cons,List.getD_cons_zero,List.getD_cons_succ]
  simp [rm_is (k:=192) (r:=0) (m:=dst) (numL imm 4 ++ t) (.inl rfl) hd,dig_is (r:=0) (m:=dst) (numL imm 4 ++ t) (by decide),d4_is (v:=imm) t hI,g81,gC1,gD3,gF7,opT]
theorem rd_10_32 (dst src base disp imm cc:Int) (t:List Int) (hd:0 ≤ dst ∧ dst < 16) (hs:0 ≤ src ∧ src < 16) (hb:0 ≤ base ∧ base < 16) (hD:fourB disp=true) (hI:fourB imm=true):rdX (bytesX ⟨10,32,dst,src,base,disp,imm,cc⟩ ++ t)=⟨10,32,dst,0,0,0,imm,0⟩:=by
  have h1:bytesX ⟨10,32,dst,src,base,disp,imm,cc⟩ ++ t=rexL false 1 dst false ++ 129 :: (opI 192 1 dst :: (numL imm 4 ++ t)):=by
    show (((rexL false 1 dst false ++ [129]) ++ [opI 192 1 dst]) ++ numL imm 4) ++ t=_
    simp only [List.append_assoc,List.cons_append,List.nil_append,memL,List.append_nil]
  rw [h1,rd_front false false _ (by decide) hd (by omega) (by omega)]
  show bodyX false (if false=true then 64 else 32) (hiB 1) (hiB dst) (129) (opI 192 1 dst :: (numL imm 4 ++ t))=_
  unfold bodyX
  simp only [List.headD_cons,List.tail_cons,List.getD_cons_zero,List.getD_cons_succ]
  simp [rm_is (k:=192) (r:=1) (m:=dst) (numL imm 4 ++ t) (.inl rfl) hd,dig_is (r:=1) (m:=dst) (numL imm 4 ++ t) (by decide),d4_is (v:=imm) t hI,g81,gC1,gD3,gF7,opT]
theorem rd_10_64 (dst src base disp imm cc:Int) (t:List Int) (hd:0 ≤ dst ∧ dst < 16) (hs:0 ≤ src ∧ src < 16) (hb:0 ≤ base ∧ base < 16) (hD:fourB disp=true) (hI:fourB imm=true):rdX (bytesX ⟨10,64,dst,src,base,disp,imm,cc⟩ ++ t)=⟨10,64,dst,0,0,0,imm,0⟩:=by
  have h1:bytesX ⟨10,64,dst,src,base,disp,imm,cc⟩ ++ t=rexL true 1 dst false ++ 129 :: (opI 192 1 dst :: (numL imm 4 ++ t)):=by
    show (((rexL true 1 dst false ++ [129]) ++ [opI 192 1 dst]) ++ numL imm 4) ++ t=_
    simp only [List.append_assoc,List.cons_append,List.nil_append,memL,List.append_nil]
  rw [h1,rd_front true false _ (by decide) hd (by omega) (by omega)]
  show bodyX false (if true=true then 64 else 32) (hiB 1) (hiB dst) (129) (opI 192 1 dst :: (numL imm 4 ++ t))=_
  unfold bodyX
  simp only [List.headD_cons,List.tail_cons,List.getD_cons_zero,List.getD_cons_succ]
  simp [rm_is (k:=192) (r:=1) (m:=dst) (numL imm 4 ++ t) (.inl rfl) hd,dig_is (r:=1) (m:=dst) (numL imm 4 ++ t) (by decide),d4_is (v:=imm) t hI,g81,gC1,gD3,gF7,opT]
theorem rd_11_32 (dst src base disp imm cc:Int) (t:List Int) (hd:0 ≤ dst ∧ dst < 16) (hs:0 ≤ src ∧ src < 16) (hb:0 ≤ base ∧ base < 16) (hD:fourB disp=true) (hI:fourB imm=true):rdX (bytesX ⟨11,32,dst,src,base,disp,imm,cc⟩ ++ t)=⟨11,32,dst,0,0,0,imm,0⟩:=by
  have h1:bytesX ⟨11,32,dst,src,base,disp,imm,cc⟩ ++ t=rexL false 4 dst false ++ 129 :: (opI 192 4 dst :: (numL imm 4 ++ t)):=by
    show (((rexL false 4 dst false ++ [129]) ++ [opI 192 4 dst]) ++ numL imm 4) ++ t=_
    simp only [List.append_assoc,List.cons_append,List.nil_append,memL,List.append_nil]
  rw [h1,rd_front false false _ (by decide) hd (by omega) (by omega)]
  show bodyX false (if false=true then 64 else 32) (hiB 4) (hiB dst) (129) (opI 192 4 dst :: (numL imm 4 ++ t))=_
  unfold bodyX
  simp only [List.headD_cons,List.tail_cons,List.getD_cons_zero,List.getD_cons_succ]
  simp [rm_is (k:=192) (r:=4) (m:=dst) (numL imm 4 ++ t) (.inl rfl) hd,dig_is (r:=4) (m:=dst) (numL imm 4 ++ t) (by decide),d4_is (v:=imm) t hI,g81,gC1,gD3,gF7,opT]
theorem rd_11_64 (dst src base disp imm cc:Int) (t:List Int) (hd:0 ≤ dst ∧ dst < 16) (hs:0 ≤ src ∧ src < 16) (hb:0 ≤ base ∧ base < 16) (hD:fourB disp=true) (hI:fourB imm=true):rdX (bytesX ⟨11,64,dst,src,base,disp,imm,cc⟩ ++ t)=⟨11,64,dst,0,0,0,imm,0⟩:=by
  have h1:bytesX ⟨11,64,dst,src,base,disp,imm,cc⟩ ++ t=rexL true 4 dst false ++ 129 :: (opI 192 4 dst :: (numL imm 4 ++ t)):=by
    show (((rexL true 4 dst false ++ [129]) ++ [opI 192 4 dst]) ++ numL imm 4) ++ t=_
    simp only [List.append_assoc,List.cons_append,List.nil_append,memL,List.append_nil]
  rw [h1,rd_front true false _ (by decide) hd (by omega) (by omega)]
  show bodyX false (if true=true then 64 else 32) (hiB 4) (hiB dst) (129) (opI 192 4 dst :: (numL imm 4 ++ t))=_
  unfold bodyX
  simp only [List.headD_cons,List.tail_cons,List.getD_cons_zero,List.getD_cons_succ]
  simp [rm_is (k:=192) (r:=4) (m:=dst) (numL imm 4 ++ t) (.inl rfl) hd,dig_is (r:=4) (m:=dst) (numL imm 4 ++ t) (by decide),d4_is (v:=imm) t hI,g81,gC1,gD3,gF7,opT]
theorem rd_12_32 (dst src base disp imm cc:Int) (t:List Int) (hd:0 ≤ dst ∧ dst < 16) (hs:0 ≤ src ∧ src < 16) (hb:0 ≤ base ∧ base < 16) (hD:fourB disp=true) (hI:fourB imm=true):rdX (bytesX ⟨12,32,dst,src,base,disp,imm,cc⟩ ++ t)=⟨12,32,dst,0,0,0,imm,0⟩:=by
  have h1:bytesX ⟨12,32,dst,src,base,disp,imm,cc⟩ ++ t=rexL false 5 dst false ++ 129 :: (opI 192 5 dst :: (numL imm 4 ++ t)):=by
    show (((rexL false 5 dst false ++ [129]) ++ [opI 192 5 dst]) ++ numL imm 4) ++ t=_
    simp only [List.append_assoc,List.cons_append,List.nil_append,memL,List.append_nil]
  rw [h1,rd_front false false _ (by decide) hd (by omega) (by omega)]
  show bodyX false (if false=true then 64 else 32) (hiB 5) (hiB dst) (129) (opI 192 5 dst :: (numL imm 4 ++ t))=_
  unfold bodyX
  simp only [List.headD_cons,List.tail_cons,List.getD_cons_zero,List.getD_cons_succ]
  simp [rm_is (k:=192) (r:=5) (m:=dst) (numL imm 4 ++ t) (.inl rfl) hd,dig_is (r:=5) (m:=dst) (numL imm 4 ++ t) (by decide),d4_is (v:=imm) t hI,g81,gC1,gD3,gF7,opT]
theorem rd_12_64 (dst src base disp imm cc:Int) (t:List Int) (hd:0 ≤ dst ∧ dst < 16) (hs:0 ≤ src ∧ src < 16) (hb:0 ≤ base ∧ base < 16) (hD:fourB disp=true) (hI:fourB imm=true):rdX (bytesX ⟨12,64,dst,src,base,disp,imm,cc⟩ ++ t)=⟨12,64,dst,0,0,0,imm,0⟩:=by
  have h1:bytesX ⟨12,64,dst,src,base,disp,imm,cc⟩ ++ t=rexL true 5 dst false ++ 129 :: (opI 192 5 dst :: (numL imm 4 ++ t)):=by
    show (((rexL true 5 dst false ++ [129]) ++ [opI 192 5 dst]) ++ numL imm 4) ++ t=_
    simp only [List.append_assoc,List.cons_append,List.nil_append,memL,List.append_nil]
  rw [h1,rd_front true false _ (by decide) hd (by omega) (by omega)]
  show bodyX false (if true=true then 64 else 32) (hiB 5) (hiB dst) (129) (opI 192 5 dst :: (numL imm 4 ++ t))=_
  unfold bodyX
  simp only [List.headD_cons,List.tail_cons,List.getD_cons_zero,List.getD_cons_succ]
  simp [rm_is (k:=192) (r:=5) (m:=dst) (numL imm 4 ++ t) (.inl rfl) hd,dig_is (r:=5) (m:=dst) (numL imm 4 ++ t) (by decide),d4_is (v:=imm) t hI,g81,gC1,gD3,gF7,opT]
theorem rd_13_32 (dst src base disp imm cc:Int) (t:List Int) (hd:0 ≤ dst ∧ dst < 16) (hs:0 ≤ src ∧ src < 16) (hb:0 ≤ base ∧ base < 16) (hD:fourB disp=true) (hI:fourB imm=true):rdX (bytesX ⟨13,32,dst,src,base,disp,imm,cc⟩ ++ t)=⟨13,32,dst,0,0,0,imm,0⟩:=by
  have h1:bytesX ⟨13,32,dst,src,base,disp,imm,cc⟩ ++ t=rexL false 6 dst false ++ 129 :: (opI 192 6 dst :: (numL imm 4 ++ t)):=by
    show (((rexL false 6 dst false ++ [129]) ++ [opI 192 6 dst]) ++ numL imm 4) ++ t=_
    simp only [List.append_assoc,List.cons_append,List.nil_append,memL,List.append_nil]
  rw [h1,rd_front false false _ (by decide) hd (by omega) (by omega)]
  show bodyX false (if false=true then 64 else 32) (hiB 6) (hiB dst) (129) (opI 192 6 dst :: (numL imm 4 ++ t))=_
  unfold bodyX
  simp only [List.headD_cons,List.tail_cons,List.getD_cons_zero,List.getD_cons_succ]
  simp [rm_is (k:=192) (r:=6) (m:=dst) (numL imm 4 ++ t) (.inl rfl) hd,dig_is (r:=6) (m:=dst) (numL imm 4 ++ t) (by decide),d4_is (v:=imm) t hI,g81,gC1,gD3,gF7,opT]
theorem rd_13_64 (dst src base disp imm cc:Int) (t:List Int) (hd:0 ≤ dst ∧ dst < 16) (hs:0 ≤ src ∧ src < 16) (hb:0 ≤ base ∧ base < 16) (hD:fourB disp=true) (hI:fourB imm=true):rdX (bytesX ⟨13,64,dst,src,base,disp,imm,cc⟩ ++ t)=⟨13,64,dst,0,0,0,imm,0⟩:=by
  have h1:bytesX ⟨13,64,dst,src,base,disp,imm,cc⟩ ++ t=rexL true 6 dst false ++ 129 :: (opI 192 6 dst :: (numL imm 4 ++ t)):=by
    show (((rexL true 6 dst false ++ [129]) ++ [opI 192 6 dst]) ++ numL imm 4) ++ t=_
    simp only [List.append_assoc,List.cons_append,List.nil_append,memL,List.append_nil]
  rw [h1,rd_front true false _ (by decide) hd (by omega) (by omega)]
  show bodyX false (if true=true then 64 else 32) (hiB 6) (hiB dst) (129) (opI 192 6 dst :: (numL imm 4 ++ t))=_
  unfold bodyX
  simp only [List.headD_cons,List.tail_cons,List.getD_cons_zero,List.getD_cons_succ]
  simp [rm_is (k:=192) (r:=6) (m:=dst) (numL imm 4 ++ t) (.inl rfl) hd,dig_is (r:=6) (m:=dst) (numL imm 4 ++ t) (by decide),d4_is (v:=imm) t hI,g81,gC1,gD3,gF7,opT]
theorem rd_14_32 (dst src base disp imm cc:Int) (t:List Int) (hd:0 ≤ dst ∧ dst < 16) (hs:0 ≤ src ∧ src < 16) (hb:0 ≤ base ∧ base < 16) (hD:fourB disp=true) (hI:fourB imm=true):rdX (bytesX ⟨14,32,dst,src,base,disp,imm,cc⟩ ++ t)=⟨14,32,dst,0,0,0,imm,0⟩:=by
  have h1:bytesX ⟨14,32,dst,src,base,disp,imm,cc⟩ ++ t=rexL false 7 dst false ++ 129 :: (opI 192 7 dst :: (numL imm 4 ++ t)):=by
    show (((rexL false 7 dst false ++ [129]) ++ [opI 192 7 dst]) ++ numL imm 4) ++ t=_
    simp only [List.append_assoc,List.cons_append,List.nil_append,memL,List.append_nil]
  rw [h1,rd_front false false _ (by decide) hd (by omega) (by omega)]
  show bodyX false (if false=true then 64 else 32) (hiB 7) (hiB dst) (129) (opI 192 7 dst :: (numL imm 4 ++ t))=_
  unfold bodyX
  simp only [List.headD_cons,List.tail_cons,List.getD_cons_zero,List.getD_cons_succ]
  simp [rm_is (k:=192) (r:=7) (m:=dst) (numL imm 4 ++ t) (.inl rfl) hd,dig_is (r:=7) (m:=dst) (numL imm 4 ++ t) (by decide),d4_is (v:=imm) t hI,g81,gC1,gD3,gF7,opT]
theorem rd_14_64 (dst src base disp imm cc:Int) (t:List Int) (hd:0 ≤ dst ∧ dst < 16) (hs:0 ≤ src ∧ src < 16) (hb:0 ≤ base ∧ base < 16) (hD:fourB disp=true) (hI:fourB imm=true):rdX (bytesX ⟨14,64,dst,src,base,disp,imm,cc⟩ ++ t)=⟨14,64,dst,0,0,0,imm,0⟩:=by
  have h1:bytesX ⟨14,64,dst,src,base,disp,imm,cc⟩ ++ t=rexL true 7 dst false ++ 129 :: (opI 192 7 dst :: (numL imm 4 ++ t)):=by
    show (((rexL true 7 dst false ++ [129]) ++ [opI 192 7 dst]) ++ numL imm 4) ++ t=_
    simp only [List.append_assoc,List.cons_append,List.nil_append,memL,List.append_nil]
  rw [h1,rd_front true false _ (by decide) hd (by omega) (by omega)]
  show bodyX false (if true=true then 64 else 32) (hiB 7) (hiB dst) (129) (opI 192 7 dst :: (numL imm 4 ++ t))=_
  unfold bodyX
  simp only [List.headD_cons,List.tail_cons,List.getD_cons_zero,List.getD_cons_succ]
  simp [rm_is (k:=192) (r:=7) (m:=dst) (numL imm 4 ++ t) (.inl rfl) hd,dig_is (r:=7) (m:=dst) (numL imm 4 ++ t) (by decide),d4_is (v:=imm) t hI,g81,gC1,gD3,gF7,opT]
theorem rd_15_32 (dst src base disp imm cc:Int) (t:List Int) (hd:0 ≤ dst ∧ dst < 16) (hs:0 ≤ src ∧ src < 16) (hb:0 ≤ base ∧ base < 16) (hD:fourB disp=true) (hI:fourB imm=true):rdX (bytesX ⟨15,32,dst,src,base,disp,imm,cc⟩ ++ t)=⟨15,32,dst,0,0,0,imm,0⟩:=by
  have h1:bytesX ⟨15,32,dst,src,base,disp,imm,cc⟩ ++ t=rexL false 0 dst false ++ 247 :: (opI 192 0 dst :: (numL imm 4 ++ t)):=by
    show (((rexL false 0 dst false ++ [247]) ++ [opI 192 0 dst]) ++ numL imm 4) ++ t=_
    simp only [List.append_assoc,List.cons_append,List.nil_append,memL,List.append_nil]
  rw [h1,rd_front false false _ (by decide) hd (by omega) (by omega)]
  show bodyX false (if false=true then 64 else 32) (hiB 0) (hiB dst) (247) (opI 192 0 dst :: (numL imm 4 ++ t))=_
  unfold bodyX
  simp only [List.headD_cons,List.tail_cons,List.getD_cons_zero,List.getD_cons_succ]
  simp [rm_is (k:=192) (r:=0) (m:=dst) (numL imm 4 ++ t) (.inl rfl) hd,dig_is (r:=0) (m:=dst) (numL imm 4 ++ t) (by decide),d4_is (v:=imm) t hI,g81,gC1,gD3,gF7,opT]
theorem rd_15_64 (dst src base disp imm cc:Int) (t:List Int) (hd:0 ≤ dst ∧ dst < 16) (hs:0 ≤ src ∧ src < 16) (hb:0 ≤ base ∧ base < 16) (hD:fourB disp=true) (hI:fourB imm=true):rdX (bytesX ⟨15,64,dst,src,base,disp,imm,cc⟩ ++ t)=⟨15,64,dst,0,0,0,imm,0⟩:=by
  have h1:bytesX ⟨15,64,dst,src,base,disp,imm,cc⟩ ++ t=rexL true 0 dst false ++ 247 :: (opI 192 0 dst :: (numL imm 4 ++ t)):=by
    show (((rexL true 0 dst false ++ [247]) ++ [opI 192 0 dst]) ++ numL imm 4) ++ t=_
    simp only [List.append_assoc,List.cons_append,List.nil_append,memL,List.append_nil]
  rw [h1,rd_front true false _ (by decide) hd (by omega) (by omega)]
  show bodyX false (if true=true then 64 else 32) (hiB 0) (hiB dst) (247) (opI 192 0 dst :: (numL imm 4 ++ t))=_
  unfold bodyX
  simp only [List.headD_cons,List.tail_cons,List.getD_cons_zero,List.getD_cons_succ]
  simp [rm_is (k:=192) (r:=0) (m:=dst) (numL imm 4 ++ t) (.inl rfl) hd,dig_is (r:=0) (m:=dst) (numL imm 4 ++ t) (by decide),d4_is (v:=imm) t hI,g81,gC1,gD3,gF7,opT]
theorem rd_16_32 (dst src base disp imm cc:Int) (t:List Int) (hd:0 ≤ dst ∧ dst < 16) (hs:0 ≤ src ∧ src < 16) (hb:0 ≤ base ∧ base < 16) (hD:fourB disp=true) (hI:fourB imm=true):rdX (bytesX ⟨16,32,dst,src,base,disp,imm,cc⟩ ++ t)=⟨16,32,dst,src,0,0,0,0⟩:=by
  have h1:bytesX ⟨16,32,dst,src,base,disp,imm,cc⟩ ++ t=rexL false dst src false ++ 15 :: (175 :: (opI 192 dst src :: t)):=by
    show (rexL false dst src false ++ [15,175,opI 192 dst src]) ++ t=_
    simp only [List.append_assoc,List.cons_append,List.nil_append,memL,List.append_nil]
  rw [h1,rd_front false false _ hd hs (by omega) (by omega)]
  show bodyX false (if false=true then 64 else 32) (hiB dst) (hiB src) 15 (175 :: (opI 192 dst src :: t))=_
  unfold bodyX bodyO
  simp only [List.headD_cons,List.tail_cons,List.getD_cons_zero,List.getD_cons_succ]
  simp [rg_is (k:=192) (r:=dst) (m:=src) t (.inl rfl) hd,rm_is (k:=192) (r:=dst) (m:=src) t (.inl rfl) hs,g81,gC1,gD3,gF7,opT]
theorem rd_16_64 (dst src base disp imm cc:Int) (t:List Int) (hd:0 ≤ dst ∧ dst < 16) (hs:0 ≤ src ∧ src < 16) (hb:0 ≤ base ∧ base < 16) (hD:fourB disp=true) (hI:fourB imm=true):rdX (bytesX ⟨16,64,dst,src,base,disp,imm,cc⟩ ++ t)=⟨16,64,dst,src,0,0,0,0⟩:=by
  have h1:bytesX ⟨16,64,dst,src,base,disp,imm,cc⟩ ++ t=rexL true dst src false ++ 15 :: (175 :: (opI 192 dst src :: t)):=by
    show (rexL true dst src false ++ [15,175,opI 192 dst src]) ++ t=_
    simp only [List.append_assoc,List.cons_append,List.nil_append,memL,List.append_nil]
  rw [h1,rd_front true false _ hd hs (by omega) (by omega)]
  show bodyX false (if true=true then 64 else 32) (hiB dst) (hiB src) 15 (175 :: (opI 192 dst src :: t))=_
  unfold bodyX bodyO
  simp only [List.headD_cons,List.tail_cons,List.getD_cons_zero,List.getD_cons_succ]
  simp [rg_is (k:=192) (r:=dst) (m:=src) t (.inl rfl) hd,rm_is (k:=192) (r:=dst) (m:=src) t (.inl rfl) hs,g81,gC1,gD3,gF7,opT]
theorem rd_17_32 (dst src base disp imm cc:Int) (t:List Int) (hd:0 ≤ dst ∧ dst < 16) (hs:0 ≤ src ∧ src < 16) (hb:0 ≤ base ∧ base < 16) (hD:fourB disp=true) (hI:fourB imm=true) (hi:0 ≤ imm ∧ imm < 32):rdX (bytesX ⟨17,32,dst,src,base,disp,imm,cc⟩ ++ t)=⟨17,32,dst,0,0,0,imm,0⟩:=by
  have h1:bytesX ⟨17,32,dst,src,base,disp,imm,cc⟩ ++ t=rexL false 4 dst false ++ 193 :: (opI 192 4 dst :: (imm :: t)):=by
    show (rexL false 4 dst false ++ [193,opI 192 4 dst,imm]) ++ t=_
    simp only [List.append_assoc,List.cons_append,List.nil_append,memL,List.append_nil]
  rw [h1,rd_front false false _ (by decide) hd (by omega) (by omega)]
  show bodyX false (if false=true then 64 else 32) (hiB 4) (hiB dst) (193) (opI 192 4 dst :: (imm :: t))=_
  unfold bodyX
  simp only [List.headD_cons,List.tail_cons,List.getD_cons_zero,List.getD_cons_succ]
  simp [rm_is (k:=192) (r:=4) (m:=dst) (imm :: t) (.inl rfl) hd,dig_is (r:=4) (m:=dst) (imm :: t) (by decide),g81,gC1,gD3,gF7,opT]
theorem rd_17_64 (dst src base disp imm cc:Int) (t:List Int) (hd:0 ≤ dst ∧ dst < 16) (hs:0 ≤ src ∧ src < 16) (hb:0 ≤ base ∧ base < 16) (hD:fourB disp=true) (hI:fourB imm=true) (hi:0 ≤ imm ∧ imm < 64):rdX (bytesX ⟨17,64,dst,src,base,disp,imm,cc⟩ ++ t)=⟨17,64,dst,0,0,0,imm,0⟩:=by
  have h1:bytesX ⟨17,64,dst,src,base,disp,imm,cc⟩ ++ t=rexL true 4 dst false ++ 193 :: (opI 192 4 dst :: (imm :: t)):=by
    show (rexL true 4 dst false ++ [193,opI 192 4 dst,imm]) ++ t=_
    simp only [List.append_assoc,List.cons_append,List.nil_append,memL,List.append_nil]
  rw [h1,rd_front true false _ (by decide) hd (by omega) (by omega)]
  show bodyX false (if true=true then 64 else 32) (hiB 4) (hiB dst) (193) (opI 192 4 dst :: (imm :: t))=_
  unfold bodyX
  simp only [List.headD_cons,List.tail_cons,List.getD_cons_zero,List.getD_cons_succ]
  simp [rm_is (k:=192) (r:=4) (m:=dst) (imm :: t) (.inl rfl) hd,dig_is (r:=4) (m:=dst) (imm :: t) (by decide),g81,gC1,gD3,gF7,opT]
theorem rd_18_32 (dst src base disp imm cc:Int) (t:List Int) (hd:0 ≤ dst ∧ dst < 16) (hs:0 ≤ src ∧ src < 16) (hb:0 ≤ base ∧ base < 16) (hD:fourB disp=true) (hI:fourB imm=true) (hi:0 ≤ imm ∧ imm < 32):rdX (bytesX ⟨18,32,dst,src,base,disp,imm,cc⟩ ++ t)=⟨18,32,dst,0,0,0,imm,0⟩:=by
  have h1:bytesX ⟨18,32,dst,src,base,disp,imm,cc⟩ ++ t=rexL false 5 dst false ++ 193 :: (opI 192 5 dst :: (imm :: t)):=by
    show (rexL false 5 dst false ++ [193,opI 192 5 dst,imm]) ++ t=_
    simp only [List.append_assoc,List.cons_append,List.nil_append,memL,List.append_nil]
  rw [h1,rd_front false false _ (by decide) hd (by omega) (by omega)]
  show bodyX false (if false=true then 64 else 32) (hiB 5) (hiB dst) (193) (opI 192 5 dst :: (imm :: t))=_
  unfold bodyX
  simp only [List.headD_cons,List.tail_cons,List.getD_cons_zero,List.getD_cons_succ]
  simp [rm_is (k:=192) (r:=5) (m:=dst) (imm :: t) (.inl rfl) hd,dig_is (r:=5) (m:=dst) (imm :: t) (by decide),g81,gC1,gD3,gF7,opT]
theorem rd_18_64 (dst src base disp imm cc:Int) (t:List Int) (hd:0 ≤ dst ∧ dst < 16) (hs:0 ≤ src ∧ src < 16) (hb:0 ≤ base ∧ base < 16) (hD:fourB disp=true) (hI:fourB imm=true) (hi:0 ≤ imm ∧ imm < 64):rdX (bytesX ⟨18,64,dst,src,base,disp,imm,cc⟩ ++ t)=⟨18,64,dst,0,0,0,imm,0⟩:=by
  have h1:bytesX ⟨18,64,dst,src,base,disp,imm,cc⟩ ++ t=rexL true 5 dst false ++ 193 :: (opI 192 5 dst :: (imm :: t)):=by
    show (rexL true 5 dst false ++ [193,opI 192 5 dst,imm]) ++ t=_
    simp only [List.append_assoc,List.cons_append,List.nil_append,memL,List.append_nil]
  rw [h1,rd_front true false _ (by decide) hd (by omega) (by omega)]
  show bodyX false (if true=true then 64 else 32) (hiB 5) (hiB dst) (193) (opI 192 5 dst :: (imm :: t))=_
  unfold bodyX
  simp only [List.headD_cons,List.tail_cons,List.getD_cons_zero,List.getD_cons_succ]
  simp [rm_is (k:=192) (r:=5) (m:=dst) (imm :: t) (.inl rfl) hd,dig_is (r:=5) (m:=dst) (imm :: t) (by decide),g81,gC1,gD3,gF7,opT]
theorem rd_19_32 (dst src base disp imm cc:Int) (t:List Int) (hd:0 ≤ dst ∧ dst < 16) (hs:0 ≤ src ∧ src < 16) (hb:0 ≤ base ∧ base < 16) (hD:fourB disp=true) (hI:fourB imm=true) (hi:0 ≤ imm ∧ imm < 32):rdX (bytesX ⟨19,32,dst,src,base,disp,imm,cc⟩ ++ t)=⟨19,32,dst,0,0,0,imm,0⟩:=by
  have h1:bytesX ⟨19,32,dst,src,base,disp,imm,cc⟩ ++ t=rexL false 7 dst false ++ 193 :: (opI 192 7 dst :: (imm :: t)):=by
    show (rexL false 7 dst false ++ [193,opI 192 7 dst,imm]) ++ t=_
    simp only [List.append_assoc,List.cons_append,List.nil_append,memL,List.append_nil]
  rw [h1,rd_front false false _ (by decide) hd (by omega) (by omega)]
  show bodyX false (if false=true then 64 else 32) (hiB 7) (hiB dst) (193) (opI 192 7 dst :: (imm :: t))=_
  unfold bodyX
  simp only [List.headD_cons,List.tail_cons,List.getD_cons_zero,List.getD_cons_succ]
  simp [rm_is (k:=192) (r:=7) (m:=dst) (imm :: t) (.inl rfl) hd,dig_is (r:=7) (m:=dst) (imm :: t) (by decide),g81,gC1,gD3,gF7,opT]
theorem rd_19_64 (dst src base disp imm cc:Int) (t:List Int) (hd:0 ≤ dst ∧ dst < 16) (hs:0 ≤ src ∧ src < 16) (hb:0 ≤ base ∧ base < 16) (hD:fourB disp=true) (hI:fourB imm=true) (hi:0 ≤ imm ∧ imm < 64):rdX (bytesX ⟨19,64,dst,src,base,disp,imm,cc⟩ ++ t)=⟨19,64,dst,0,0,0,imm,0⟩:=by
  have h1:bytesX ⟨19,64,dst,src,base,disp,imm,cc⟩ ++ t=rexL true 7 dst false ++ 193 :: (opI 192 7 dst :: (imm :: t)):=by
    show (rexL true 7 dst false ++ [193,opI 192 7 dst,imm]) ++ t=_
    simp only [List.append_assoc,List.cons_append,List.nil_append,memL,List.append_nil]
  rw [h1,rd_front true false _ (by decide) hd (by omega) (by omega)]
  show bodyX false (if true=true then 64 else 32) (hiB 7) (hiB dst) (193) (opI 192 7 dst :: (imm :: t))=_
  unfold bodyX
  simp only [List.headD_cons,List.tail_cons,List.getD_cons_zero,List.getD_cons_succ]
  simp [rm_is (k:=192) (r:=7) (m:=dst) (imm :: t) (.inl rfl) hd,dig_is (r:=7) (m:=dst) (imm :: t) (by decide),g81,gC1,gD3,gF7,opT]
theorem rd_20_32 (dst src base disp imm cc:Int) (t:List Int) (hd:0 ≤ dst ∧ dst < 16) (hs:0 ≤ src ∧ src < 16) (hb:0 ≤ base ∧ base < 16) (hD:fourB disp=true) (hI:fourB imm=true):rdX (bytesX ⟨20,32,dst,src,base,disp,imm,cc⟩ ++ t)=⟨20,32,dst,0,0,0,0,0⟩:=by
  have h1:bytesX ⟨20,32,dst,src,base,disp,imm,cc⟩ ++ t=rexL false 4 dst false ++ 211 :: (opI 192 4 dst :: t):=by
    show (rexL false 4 dst false ++ [211,opI 192 4 dst]) ++ t=_
    simp only [List.append_assoc,List.cons_append,List.nil_append,memL,List.append_nil]
  rw [h1,rd_front false false _ (by decide) hd (by omega) (by omega)]
  show bodyX false (if false=true then 64 else 32) (hiB 4) (hiB dst) (211) (opI 192 4 dst :: t)=_
  unfold bodyX
  simp only [List.headD_cons,List.tail_cons,List.getD_cons_zero,List.getD_cons_succ]
  simp [rm_is (k:=192) (r:=4) (m:=dst) t (.inl rfl) hd,dig_is (r:=4) (m:=dst) t (by decide),g81,gC1,gD3,gF7,opT]
theorem rd_20_64 (dst src base disp imm cc:Int) (t:List Int) (hd:0 ≤ dst ∧ dst < 16) (hs:0 ≤ src ∧ src < 16) (hb:0 ≤ base ∧ base < 16) (hD:fourB disp=true) (hI:fourB imm=true):rdX (bytesX ⟨20,64,dst,src,base,disp,imm,cc⟩ ++ t)=⟨20,64,dst,0,0,0,0,0⟩:=by
  have h1:bytesX ⟨20,64,dst,src,base,disp,imm,cc⟩ ++ t=rexL true 4 dst false ++ 211 :: (opI 192 4 dst :: t):=by
    show (rexL true 4 dst false ++ [211,opI 192 4 dst]) ++ t=_
    simp only [List.append_assoc,List.cons_append,List.nil_append,memL,List.append_nil]
  rw [h1,rd_front true false _ (by decide) hd (by omega) (by omega)]
  show bodyX false (if true=true then 64 else 32) (hiB 4) (hiB dst) (211) (opI 192 4 dst :: t)=_
  unfold bodyX
  simp only [List.headD_cons,List.tail_cons,List.getD_cons_zero,List.getD_cons_succ]
  simp [rm_is (k:=192) (r:=4) (m:=dst) t (.inl rfl) hd,dig_is (r:=4) (m:=dst) t (by decide),g81,gC1,gD3,gF7,opT]
theorem rd_21_32 (dst src base disp imm cc:Int) (t:List Int) (hd:0 ≤ dst ∧ dst < 16) (hs:0 ≤ src ∧ src < 16) (hb:0 ≤ base ∧ base < 16) (hD:fourB disp=true) (hI:fourB imm=true):rdX (bytesX ⟨21,32,dst,src,base,disp,imm,cc⟩ ++ t)=⟨21,32,dst,0,0,0,0,0⟩:=by
  have h1:bytesX ⟨21,32,dst,src,base,disp,imm,cc⟩ ++ t=rexL false 5 dst false ++ 211 :: (opI 192 5 dst :: t):=by
    show (rexL false 5 dst false ++ [211,opI 192 5 dst]) ++ t=_
    simp only [List.append_assoc,List.cons_append,List.nil_append,memL,List.append_nil]
  rw [h1,rd_front false false _ (by decide) hd (by omega) (by omega)]
  show bodyX false (if false=true then 64 else 32) (hiB 5) (hiB dst) (211) (opI 192 5 dst :: t)=_
  unfold bodyX
  simp only [List.headD_cons,List.tail_cons,List.getD_cons_zero,List.getD_cons_succ]
  simp [rm_is (k:=192) (r:=5) (m:=dst) t (.inl rfl) hd,dig_is (r:=5) (m:=dst) t (by decide),g81,gC1,gD3,gF7,opT]
theorem rd_21_64 (dst src base disp imm cc:Int) (t:List Int) (hd:0 ≤ dst ∧ dst < 16) (hs:0 ≤ src ∧ src < 16) (hb:0 ≤ base ∧ base < 16) (hD:fourB disp=true) (hI:fourB imm=true):rdX (bytesX ⟨21,64,dst,src,base,disp,imm,cc⟩ ++ t)=⟨21,64,dst,0,0,0,0,0⟩:=by
  have h1:bytesX ⟨21,64,dst,src,base,disp,imm,cc⟩ ++ t=rexL true 5 dst false ++ 211 :: (opI 192 5 dst :: t):=by
    show (rexL true 5 dst false ++ [211,opI 192 5 dst]) ++ t=_
    simp only [List.append_assoc,List.cons_append,List.nil_append,memL,List.append_nil]
  rw [h1,rd_front true false _ (by decide) hd (by omega) (by omega)]
  show bodyX false (if true=true then 64 else 32) (hiB 5) (hiB dst) (211) (opI 192 5 dst :: t)=_
  unfold bodyX
  simp only [List.headD_cons,List.tail_cons,List.getD_cons_zero,List.getD_cons_succ]
  simp [rm_is (k:=192) (r:=5) (m:=dst) t (.inl rfl) hd,dig_is (r:=5) (m:=dst) t (by decide),g81,gC1,gD3,gF7,opT]
theorem rd_22_32 (dst src base disp imm cc:Int) (t:List Int) (hd:0 ≤ dst ∧ dst < 16) (hs:0 ≤ src ∧ src < 16) (hb:0 ≤ base ∧ base < 16) (hD:fourB disp=true) (hI:fourB imm=true):rdX (bytesX ⟨22,32,dst,src,base,disp,imm,cc⟩ ++ t)=⟨22,32,dst,0,0,0,0,0⟩:=by
  have h1:bytesX ⟨22,32,dst,src,base,disp,imm,cc⟩ ++ t=rexL false 7 dst false ++ 211 :: (opI 192 7 dst :: t):=by
    show (rexL false 7 dst false ++ [211,opI 192 7 dst]) ++ t=_
    simp only [List.append_assoc,List.cons_append,List.nil_append,memL,List.append_nil]
  rw [h1,rd_front false false _ (by decide) hd (by omega) (by omega)]
  show bodyX false (if false=true then 64 else 32) (hiB 7) (hiB dst) (211) (opI 192 7 dst :: t)=_
  unfold bodyX
  simp only [List.headD_cons,List.tail_cons,List.getD_cons_zero,List.getD_cons_succ]
  simp [rm_is (k:=192) (r:=7) (m:=dst) t (.inl rfl) hd,dig_is (r:=7) (m:=dst) t (by decide),g81,gC1,gD3,gF7,opT]
theorem rd_22_64 (dst src base disp imm cc:Int) (t:List Int) (hd:0 ≤ dst ∧ dst < 16) (hs:0 ≤ src ∧ src < 16) (hb:0 ≤ base ∧ base < 16) (hD:fourB disp=true) (hI:fourB imm=true):rdX (bytesX ⟨22,64,dst,src,base,disp,imm,cc⟩ ++ t)=⟨22,64,dst,0,0,0,0,0⟩:=by
  have h1:bytesX ⟨22,64,dst,src,base,disp,imm,cc⟩ ++ t=rexL true 7 dst false ++ 211 :: (opI 192 7 dst :: t):=by
    show (rexL true 7 dst false ++ [211,opI 192 7 dst]) ++ t=_
    simp only [List.append_assoc,List.cons_append,List.nil_append,memL,List.append_nil]
  rw [h1,rd_front true false _ (by decide) hd (by omega) (by omega)]
  show bodyX false (if true=true then 64 else 32) (hiB 7) (hiB dst) (211) (opI 192 7 dst :: t)=_
  unfold bodyX
  simp only [List.headD_cons,List.tail_cons,List.getD_cons_zero,List.getD_cons_succ]
  simp [rm_is (k:=192) (r:=7) (m:=dst) t (.inl rfl) hd,dig_is (r:=7) (m:=dst) t (by decide),g81,gC1,gD3,gF7,opT]
theorem rd_23_32 (dst src base disp imm cc:Int) (t:List Int) (hd:0 ≤ dst ∧ dst < 16) (hs:0 ≤ src ∧ src < 16) (hb:0 ≤ base ∧ base < 16) (hD:fourB disp=true) (hI:fourB imm=true):rdX (bytesX ⟨23,32,dst,src,base,disp,imm,cc⟩ ++ t)=⟨23,32,dst,0,0,0,0,0⟩:=by
  have h1:bytesX ⟨23,32,dst,src,base,disp,imm,cc⟩ ++ t=rexL false 3 dst false ++ 247 :: (opI 192 3 dst :: t):=by
    show (rexL false 3 dst false ++ [247,opI 192 3 dst]) ++ t=_
    simp only [List.append_assoc,List.cons_append,List.nil_append,memL,List.append_nil]
  rw [h1,rd_front false false _ (by decide) hd (by omega) (by omega)]
  show bodyX false (if false=true then 64 else 32) (hiB 3) (hiB dst) (247) (opI 192 3 dst :: t)=_
  unfold bodyX
  simp only [List.headD_cons,List.tail_cons,List.getD_cons_zero,List.getD_cons_succ]
  simp [rm_is (k:=192) (r:=3) (m:=dst) t (.inl rfl) hd,dig_is (r:=3) (m:=dst) t (by decide),g81,gC1,gD3,gF7,opT]
theorem rd_23_64 (dst src base disp imm cc:Int) (t:List Int) (hd:0 ≤ dst ∧ dst < 16) (hs:0 ≤ src ∧ src < 16) (hb:0 ≤ base ∧ base < 16) (hD:fourB disp=true) (hI:fourB imm=true):rdX (bytesX ⟨23,64,dst,src,base,disp,imm,cc⟩ ++ t)=⟨23,64,dst,0,0,0,0,0⟩:=by
  have h1:bytesX ⟨23,64,dst,src,base,disp,imm,cc⟩ ++ t=rexL true 3 dst false ++ 247 :: (opI 192 3 dst :: t):=by
    show (rexL true 3 dst false ++ [247,opI 192 3 dst]) ++ t=_
    simp only [List.append_assoc,List.cons_append,List.nil_append,memL,List.append_nil]
  rw [h1,rd_front true false _ (by decide) hd (by omega) (by omega)]
  show bodyX false (if true=true then 64 else 32) (hiB 3) (hiB dst) (247) (opI 192 3 dst :: t)=_
  unfold bodyX
  simp only [List.headD_cons,List.tail_cons,List.getD_cons_zero,List.getD_cons_succ]
  simp [rm_is (k:=192) (r:=3) (m:=dst) t (.inl rfl) hd,dig_is (r:=3) (m:=dst) t (by decide),g81,gC1,gD3,gF7,opT]
theorem rd_24_32 (dst src base disp imm cc:Int) (t:List Int) (hd:0 ≤ dst ∧ dst < 16) (hs:0 ≤ src ∧ src < 16) (hb:0 ≤ base ∧ base < 16) (hD:fourB disp=true) (hI:fourB imm=true):rdX (bytesX ⟨24,32,dst,src,base,disp,imm,cc⟩ ++ t)=⟨24,32,dst,0,0,0,0,0⟩:=by
  have h1:bytesX ⟨24,32,dst,src,base,disp,imm,cc⟩ ++ t=rexL false 6 dst false ++ 247 :: (opI 192 6 dst :: t):=by
    show (rexL false 6 dst false ++ [247,opI 192 6 dst]) ++ t=_
    simp only [List.append_assoc,List.cons_append,List.nil_append,memL,List.append_nil]
  rw [h1,rd_front false false _ (by decide) hd (by omega) (by omega)]
  show bodyX false (if false=true then 64 else 32) (hiB 6) (hiB dst) (247) (opI 192 6 dst :: t)=_
  unfold bodyX
  simp only [List.headD_cons,List.tail_cons,List.getD_cons_zero,List.getD_cons_succ]
  simp [rm_is (k:=192) (r:=6) (m:=dst) t (.inl rfl) hd,dig_is (r:=6) (m:=dst) t (by decide),g81,gC1,gD3,gF7,opT]
theorem rd_24_64 (dst src base disp imm cc:Int) (t:List Int) (hd:0 ≤ dst ∧ dst < 16) (hs:0 ≤ src ∧ src < 16) (hb:0 ≤ base ∧ base < 16) (hD:fourB disp=true) (hI:fourB imm=true):rdX (bytesX ⟨24,64,dst,src,base,disp,imm,cc⟩ ++ t)=⟨24,64,dst,0,0,0,0,0⟩:=by
  have h1:bytesX ⟨24,64,dst,src,base,disp,imm,cc⟩ ++ t=rexL true 6 dst false ++ 247 :: (opI 192 6 dst :: t):=by
    show (rexL true 6 dst false ++ [247,opI 192 6 dst]) ++ t=_
    simp only [List.append_assoc,List.cons_append,List.nil_append,memL,List.append_nil]
  rw [h1,rd_front true false _ (by decide) hd (by omega) (by omega)]
  show bodyX false (if true=true then 64 else 32) (hiB 6) (hiB dst) (247) (opI 192 6 dst :: t)=_
  unfold bodyX
  simp only [List.headD_cons,List.tail_cons,List.getD_cons_zero,List.getD_cons_succ]
  simp [rm_is (k:=192) (r:=6) (m:=dst) t (.inl rfl) hd,dig_is (r:=6) (m:=dst) t (by decide),g81,gC1,gD3,gF7,opT]
theorem rd_25_32 (dst src base disp imm cc:Int) (t:List Int) (hd:0 ≤ dst ∧ dst < 16) (hs:0 ≤ src ∧ src < 16) (hb:0 ≤ base ∧ base < 16) (hD:fourB disp=true) (hI:fourB imm=true) (hc:0 ≤ cc ∧ cc < 16):rdX (bytesX ⟨25,32,dst,src,base,disp,imm,cc⟩ ++ t)=⟨25,32,dst,src,0,0,0,cc⟩:=by
  have h1:bytesX ⟨25,32,dst,src,base,disp,imm,cc⟩ ++ t=rexL false dst src false ++ 15 :: ((64 + cc) :: (opI 192 dst src :: t)):=by
    show (rexL false dst src false ++ [15,64 + cc,opI 192 dst src]) ++ t=_
    simp only [List.append_assoc,List.cons_append,List.nil_append,memL,List.append_nil]
  rw [h1,rd_front false false _ hd hs (by omega) (by omega)]
  show bodyX false (if false=true then 64 else 32) (hiB dst) (hiB src) 15 ((64 + cc) :: (opI 192 dst src :: t))=_
  have e0:bodyO (if false=true then 64 else 32) (hiB dst) (hiB src) (64 + cc) (opI 192 dst src :: t)=⟨25,32,dst,src,0,0,0,cc⟩:=by
    unfold bodyO
    rw [if_neg (by omega),if_neg (by omega),if_pos (by omega),rg_is (k:=192) (r:=dst) (m:=src) t (.inl rfl) hd,rm_is (k:=192) (r:=dst) (m:=src) t (.inl rfl) hs,show (64 + cc) % 16=cc from by omega]
    rfl
  exact e0
theorem rd_25_64 (dst src base disp imm cc:Int) (t:List Int) (hd:0 ≤ dst ∧ dst < 16) (hs:0 ≤ src ∧ src < 16) (hb:0 ≤ base ∧ base < 16) (hD:fourB disp=true) (hI:fourB imm=true) (hc:0 ≤ cc ∧ cc < 16):rdX (bytesX ⟨25,64,dst,src,base,disp,imm,cc⟩ ++ t)=⟨25,64,dst,src,0,0,0,cc⟩:=by
  have h1:bytesX ⟨25,64,dst,src,base,disp,imm,cc⟩ ++ t=rexL true dst src false ++ 15 :: ((64 + cc) :: (opI 192 dst src :: t)):=by
    show (rexL true dst src false ++ [15,64 + cc,opI 192 dst src]) ++ t=_
    simp only [List.append_assoc,List.cons_append,List.nil_append,memL,List.append_nil]
  rw [h1,rd_front true false _ hd hs (by omega) (by omega)]
  show bodyX false (if true=true then 64 else 32) (hiB dst) (hiB src) 15 ((64 + cc) :: (opI 192 dst src :: t))=_
  have e0:bodyO (if true=true then 64 else 32) (hiB dst) (hiB src) (64 + cc) (opI 192 dst src :: t)=⟨25,64,dst,src,0,0,0,cc⟩:=by
    unfold bodyO
    rw [if_neg (by omega),if_neg (by omega),if_pos (by omega),rg_is (k:=192) (r:=dst) (m:=src) t (.inl rfl) hd,rm_is (k:=192) (r:=dst) (m:=src) t (.inl rfl) hs,show (64 + cc) % 16=cc from by omega]
    rfl
  exact e0
theorem rd_26_8 (dst src base disp imm cc:Int) (t:List Int) (hd:0 ≤ dst ∧ dst < 16) (hs:0 ≤ src ∧ src < 16) (hb:0 ≤ base ∧ base < 16) (hD:fourB disp=true) (hI:fourB imm=true):rdX (bytesX ⟨26,8,dst,src,base,disp,imm,cc⟩ ++ t)=⟨26,8,dst,0,base,disp,0,0⟩:=by
  have h1:bytesX ⟨26,8,dst,src,base,disp,imm,cc⟩ ++ t=rexL false dst base false ++ 15 :: (182 :: (opI 128 dst base :: (midL base ++ (numL disp 4 ++ t)))):=by
    show ((rexL false dst base false ++ [15,182]) ++ memL dst base disp) ++ t=_
    simp only [List.append_assoc,List.cons_append,List.nil_append,memL,List.append_nil]
  rw [h1,rd_front false false _ hd hb (by omega) (by omega)]
  show bodyX false (if false=true then 64 else 32) (hiB dst) (hiB base) 15 (182 :: (opI 128 dst base :: (midL base ++ (numL disp 4 ++ t))))=_
  unfold bodyX bodyO
  simp only [List.headD_cons,List.tail_cons,List.getD_cons_zero,List.getD_cons_succ]
  simp [rg_is (k:=128) (r:=dst) (m:=base) (midL base ++ (numL disp 4 ++ t)) (.inr rfl) hd,rm_is (k:=128) (r:=dst) (m:=base) (midL base ++ (numL disp 4 ++ t)) (.inr rfl) hb,dm_is (r:=dst) (m:=base) (d:=disp) t hD,g81,gC1,gD3,gF7,opT]
theorem rd_26_16 (dst src base disp imm cc:Int) (t:List Int) (hd:0 ≤ dst ∧ dst < 16) (hs:0 ≤ src ∧ src < 16) (hb:0 ≤ base ∧ base < 16) (hD:fourB disp=true) (hI:fourB imm=true):rdX (bytesX ⟨26,16,dst,src,base,disp,imm,cc⟩ ++ t)=⟨26,16,dst,0,base,disp,0,0⟩:=by
  have h1:bytesX ⟨26,16,dst,src,base,disp,imm,cc⟩ ++ t=rexL false dst base false ++ 15 :: (183 :: (opI 128 dst base :: (midL base ++ (numL disp 4 ++ t)))):=by
    show ((rexL false dst base false ++ [15,183]) ++ memL dst base disp) ++ t=_
    simp only [List.append_assoc,List.cons_append,List.nil_append,memL,List.append_nil]
  rw [h1,rd_front false false _ hd hb (by omega) (by omega)]
  show bodyX false (if false=true then 64 else 32) (hiB dst) (hiB base) 15 (183 :: (opI 128 dst base :: (midL base ++ (numL disp 4 ++ t))))=_
  unfold bodyX bodyO
  simp only [List.headD_cons,List.tail_cons,List.getD_cons_zero,List.getD_cons_succ]
  simp [rg_is (k:=128) (r:=dst) (m:=base) (midL base ++ (numL disp 4 ++ t)) (.inr rfl) hd,rm_is (k:=128) (r:=dst) (m:=base) (midL base ++ (numL disp 4 ++ t)) (.inr rfl) hb,dm_is (r:=dst) (m:=base) (d:=disp) t hD,g81,gC1,gD3,gF7,opT]
theorem rd_26_32 (dst src base disp imm cc:Int) (t:List Int) (hd:0 ≤ dst ∧ dst < 16) (hs:0 ≤ src ∧ src < 16) (hb:0 ≤ base ∧ base < 16) (hD:fourB disp=true) (hI:fourB imm=true):rdX (bytesX ⟨26,32,dst,src,base,disp,imm,cc⟩ ++ t)=⟨26,32,dst,0,base,disp,0,0⟩:=by
  have h1:bytesX ⟨26,32,dst,src,base,disp,imm,cc⟩ ++ t=rexL false dst base false ++ 139 :: (opI 128 dst base :: (midL base ++ (numL disp 4 ++ t))):=by
    show ((rexL false dst base false ++ [139]) ++ memL dst base disp) ++ t=_
    simp only [List.append_assoc,List.cons_append,List.nil_append,memL,List.append_nil]
  rw [h1,rd_front false false _ hd hb (by omega) (by omega)]
  show bodyX false (if false=true then 64 else 32) (hiB dst) (hiB base) (139) (opI 128 dst base :: (midL base ++ (numL disp 4 ++ t)))=_
  unfold bodyX
  simp only [List.headD_cons,List.tail_cons,List.getD_cons_zero,List.getD_cons_succ]
  simp [rg_is (k:=128) (r:=dst) (m:=base) (midL base ++ (numL disp 4 ++ t)) (.inr rfl) hd,rm_is (k:=128) (r:=dst) (m:=base) (midL base ++ (numL disp 4 ++ t)) (.inr rfl) hb,dm_is (r:=dst) (m:=base) (d:=disp) t hD,g81,gC1,gD3,gF7,opT]
theorem rd_26_64 (dst src base disp imm cc:Int) (t:List Int) (hd:0 ≤ dst ∧ dst < 16) (hs:0 ≤ src ∧ src < 16) (hb:0 ≤ base ∧ base < 16) (hD:fourB disp=true) (hI:fourB imm=true):rdX (bytesX ⟨26,64,dst,src,base,disp,imm,cc⟩ ++ t)=⟨26,64,dst,0,base,disp,0,0⟩:=by
  have h1:bytesX ⟨26,64,dst,src,base,disp,imm,cc⟩ ++ t=rexL true dst base false ++ 139 :: (opI 128 dst base :: (midL base ++ (numL disp 4 ++ t))):=by
    show ((rexL true dst base false ++ [139]) ++ memL dst base disp) ++ t=_
    simp only [List.append_assoc,List.cons_append,List.nil_append,memL,List.append_nil]
  rw [h1,rd_front true false _ hd hb (by omega) (by omega)]
  show bodyX false (if true=true then 64 else 32) (hiB dst) (hiB base) (139) (opI 128 dst base :: (midL base ++ (numL disp 4 ++ t)))=_
  unfold bodyX
  simp only [List.headD_cons,List.tail_cons,List.getD_cons_zero,List.getD_cons_succ]
  simp [rg_is (k:=128) (r:=dst) (m:=base) (midL base ++ (numL disp 4 ++ t)) (.inr rfl) hd,rm_is (k:=128) (r:=dst) (m:=base) (midL base ++ (numL disp 4 ++ t)) (.inr rfl) hb,dm_is (r:=dst) (m:=base) (d:=disp) t hD,g81,gC1,gD3,gF7,opT]
theorem rd_27_8 (dst src base disp imm cc:Int) (t:List Int) (hd:0 ≤ dst ∧ dst < 16) (hs:0 ≤ src ∧ src < 16) (hb:0 ≤ base ∧ base < 16) (hD:fourB disp=true) (hI:fourB imm=true):rdX (bytesX ⟨27,8,dst,src,base,disp,imm,cc⟩ ++ t)=⟨27,8,0,src,base,disp,0,0⟩:=by
  have h1:bytesX ⟨27,8,dst,src,base,disp,imm,cc⟩ ++ t=rexL false src base true ++ 136 :: (opI 128 src base :: (midL base ++ (numL disp 4 ++ t))):=by
    show (((([]) ++ rexL false src base true) ++ [136]) ++ memL src base disp) ++ t=_
    simp only [List.append_assoc,List.cons_append,List.nil_append,memL,List.append_nil]
  rw [h1,rd_front false true _ hs hb (by omega) (by omega)]
  show bodyX false (if false=true then 64 else 32) (hiB src) (hiB base) (136) (opI 128 src base :: (midL base ++ (numL disp 4 ++ t)))=_
  unfold bodyX
  simp only [List.headD_cons,List.tail_cons,List.getD_cons_zero,List.getD_cons_succ]
  simp [rg_is (k:=128) (r:=src) (m:=base) (midL base ++ (numL disp 4 ++ t)) (.inr rfl) hs,rm_is (k:=128) (r:=src) (m:=base) (midL base ++ (numL disp 4 ++ t)) (.inr rfl) hb,dm_is (r:=src) (m:=base) (d:=disp) t hD,g81,gC1,gD3,gF7,opT]
theorem rd_27_16 (dst src base disp imm cc:Int) (t:List Int) (hd:0 ≤ dst ∧ dst < 16) (hs:0 ≤ src ∧ src < 16) (hb:0 ≤ base ∧ base < 16) (hD:fourB disp=true) (hI:fourB imm=true):rdX (bytesX ⟨27,16,dst,src,base,disp,imm,cc⟩ ++ t)=⟨27,16,0,src,base,disp,0,0⟩:=by
  have h1:bytesX ⟨27,16,dst,src,base,disp,imm,cc⟩ ++ t=102 :: (rexL false src base false ++ 137 :: (opI 128 src base :: (midL base ++ (numL disp 4 ++ t)))):=by
    show (((([102]) ++ rexL false src base false) ++ [137]) ++ memL src base disp) ++ t=_
    simp only [List.append_assoc,List.cons_append,List.nil_append,memL,List.append_nil]
  rw [h1,rd_half false false _ hs hb (by omega)]
  show bodyX true (if false=true then 64 else 32) (hiB src) (hiB base) (137) (opI 128 src base :: (midL base ++ (numL disp 4 ++ t)))=_
  unfold bodyX
  simp only [List.headD_cons,List.tail_cons,List.getD_cons_zero,List.getD_cons_succ,op_lo]
  simp [rg_is (k:=128) (r:=src) (m:=base) (midL base ++ (numL disp 4 ++ t)) (.inr rfl) hs,rm_is (k:=128) (r:=src) (m:=base) (midL base ++ (numL disp 4 ++ t)) (.inr rfl) hb,dm_is (r:=src) (m:=base) (d:=disp) t hD,op_lo,g81,gC1,gD3,gF7,opT]
theorem rd_27_32 (dst src base disp imm cc:Int) (t:List Int) (hd:0 ≤ dst ∧ dst < 16) (hs:0 ≤ src ∧ src < 16) (hb:0 ≤ base ∧ base < 16) (hD:fourB disp=true) (hI:fourB imm=true):rdX (bytesX ⟨27,32,dst,src,base,disp,imm,cc⟩ ++ t)=⟨27,32,0,src,base,disp,0,0⟩:=by
  have h1:bytesX ⟨27,32,dst,src,base,disp,imm,cc⟩ ++ t=rexL false src base false ++ 137 :: (opI 128 src base :: (midL base ++ (numL disp 4 ++ t))):=by
    show (((([]) ++ rexL false src base false) ++ [137]) ++ memL src base disp) ++ t=_
    simp only [List.append_assoc,List.cons_append,List.nil_append,memL,List.append_nil]
  rw [h1,rd_front false false _ hs hb (by omega) (by omega)]
  show bodyX false (if false=true then 64 else 32) (hiB src) (hiB base) (137) (opI 128 src base :: (midL base ++ (numL disp 4 ++ t)))=_
  unfold bodyX
  simp only [List.headD_cons,List.tail_cons,List.getD_cons_zero,List.getD_cons_succ,op_lo]
  simp [rg_is (k:=128) (r:=src) (m:=base) (midL base ++ (numL disp 4 ++ t)) (.inr rfl) hs,rm_is (k:=128) (r:=src) (m:=base) (midL base ++ (numL disp 4 ++ t)) (.inr rfl) hb,dm_is (r:=src) (m:=base) (d:=disp) t hD,op_lo,g81,gC1,gD3,gF7,opT]
theorem rd_27_64 (dst src base disp imm cc:Int) (t:List Int) (hd:0 ≤ dst ∧ dst < 16) (hs:0 ≤ src ∧ src < 16) (hb:0 ≤ base ∧ base < 16) (hD:fourB disp=true) (hI:fourB imm=true):rdX (bytesX ⟨27,64,dst,src,base,disp,imm,cc⟩ ++ t)=⟨27,64,0,src,base,disp,0,0⟩:=by
  have h1:bytesX ⟨27,64,dst,src,base,disp,imm,cc⟩ ++ t=rexL true src base false ++ 137 :: (opI 128 src base :: (midL base ++ (numL disp 4 ++ t))):=by
    show (((([]) ++ rexL true src base false) ++ [137]) ++ memL src base disp) ++ t=_
    simp only [List.append_assoc,List.cons_append,List.nil_append,memL,List.append_nil]
  rw [h1,rd_front true false _ hs hb (by omega) (by omega)]
  show bodyX false (if true=true then 64 else 32) (hiB src) (hiB base) (137) (opI 128 src base :: (midL base ++ (numL disp 4 ++ t)))=_
  unfold bodyX
  simp only [List.headD_cons,List.tail_cons,List.getD_cons_zero,List.getD_cons_succ,op_lo]
  simp [rg_is (k:=128) (r:=src) (m:=base) (midL base ++ (numL disp 4 ++ t)) (.inr rfl) hs,rm_is (k:=128) (r:=src) (m:=base) (midL base ++ (numL disp 4 ++ t)) (.inr rfl) hb,dm_is (r:=src) (m:=base) (d:=disp) t hD,op_lo,g81,gC1,gD3,gF7,opT]
theorem rd_28_8 (dst src base disp imm cc:Int) (t:List Int) (hd:0 ≤ dst ∧ dst < 16) (hs:0 ≤ src ∧ src < 16) (hb:0 ≤ base ∧ base < 16) (hD:fourB disp=true) (hI:fourB imm=true) (hi:oneB imm=true):rdX (bytesX ⟨28,8,dst,src,base,disp,imm,cc⟩ ++ t)=⟨28,8,0,0,0,0,imm,0⟩:=by
  have h1:bytesX ⟨28,8,dst,src,base,disp,imm,cc⟩ ++ t=235 :: (imm % 256 :: t):=by
    show ([235,imm % 256]) ++ t=_
    simp only [List.append_assoc,List.cons_append,List.nil_append]
  rw [h1,rd_bare _ (by omega) (by omega)]
  unfold bodyX
  simp [d1_is (v:=imm) t hi]
theorem rd_28_32 (dst src base disp imm cc:Int) (t:List Int) (hd:0 ≤ dst ∧ dst < 16) (hs:0 ≤ src ∧ src < 16) (hb:0 ≤ base ∧ base < 16) (hD:fourB disp=true) (hI:fourB imm=true):rdX (bytesX ⟨28,32,dst,src,base,disp,imm,cc⟩ ++ t)=⟨28,32,0,0,0,0,imm,0⟩:=by
  have h1:bytesX ⟨28,32,dst,src,base,disp,imm,cc⟩ ++ t=233 :: (numL imm 4 ++ t):=by
    show ([233] ++ numL imm 4) ++ t=_
    simp only [List.append_assoc,List.cons_append,List.nil_append]
  rw [h1,rd_bare _ (by omega) (by omega)]
  unfold bodyX
  simp [d4_is (v:=imm) t hI]
theorem rd_29_8 (dst src base disp imm cc:Int) (t:List Int) (hd:0 ≤ dst ∧ dst < 16) (hs:0 ≤ src ∧ src < 16) (hb:0 ≤ base ∧ base < 16) (hD:fourB disp=true) (hI:fourB imm=true) (hi:oneB imm=true) (hc:0 ≤ cc ∧ cc < 16):rdX (bytesX ⟨29,8,dst,src,base,disp,imm,cc⟩ ++ t)=⟨29,8,0,0,0,0,imm,cc⟩:=by
  have h1:bytesX ⟨29,8,dst,src,base,disp,imm,cc⟩ ++ t=(112 + cc) :: (imm % 256 :: t):=by
    show ([112 + cc,imm % 256]) ++ t=_
    simp only [List.append_assoc,List.cons_append,List.nil_append]
  rw [h1,rd_bare _ (by omega) (by omega)]
  unfold bodyX
  rw [if_neg (by omega),if_neg (by omega),if_neg (by omega),if_neg (by omega),if_neg (by omega),if_neg (by omega),if_neg (by omega),if_neg (by omega),if_neg (by omega),if_neg (by omega),if_neg (by omega),if_neg (by omega),if_pos (by omega),d1_is (v:=imm) t hi,show (112 + cc) % 16=cc from by omega]
theorem rd_29_32 (dst src base disp imm cc:Int) (t:List Int) (hd:0 ≤ dst ∧ dst < 16) (hs:0 ≤ src ∧ src < 16) (hb:0 ≤ base ∧ base < 16) (hD:fourB disp=true) (hI:fourB imm=true) (hc:0 ≤ cc ∧ cc < 16):rdX (bytesX ⟨29,32,dst,src,base,disp,imm,cc⟩ ++ t)=⟨29,32,0,0,0,0,imm,cc⟩:=by
  have h1:bytesX ⟨29,32,dst,src,base,disp,imm,cc⟩ ++ t=15 :: ((128 + cc) :: (numL imm 4 ++ t)):=by
    show ([15,128 + cc] ++ numL imm 4) ++ t=_
    simp only [List.append_assoc,List.cons_append,List.nil_append]
  rw [h1,rd_bare _ (by omega) (by omega)]
  show bodyO 32 0 0 (128 + cc) (numL imm 4 ++ t)=_
  unfold bodyO
  rw [if_neg (by omega),if_neg (by omega),if_neg (by omega),if_pos (by omega),d4_is (v:=imm) t hI,show (128 + cc) % 16=cc from by omega]
theorem rd_30_0 (dst src base disp imm cc:Int) (t:List Int) (hd:0 ≤ dst ∧ dst < 16) (hs:0 ≤ src ∧ src < 16) (hb:0 ≤ base ∧ base < 16) (hD:fourB disp=true) (hI:fourB imm=true):rdX (bytesX ⟨30,0,dst,src,base,disp,imm,cc⟩ ++ t)=⟨30,0,0,0,0,0,0,0⟩:=by
  have h1:bytesX ⟨30,0,dst,src,base,disp,imm,cc⟩ ++ t=195 :: (t):=by
    show ([195]) ++ t=_
    simp only [List.append_assoc,List.cons_append,List.nil_append]
  rw [h1,rd_bare _ (by omega) (by omega)]
  rfl
theorem rd_31_0 (dst src base disp imm cc:Int) (t:List Int) (hd:0 ≤ dst ∧ dst < 16) (hs:0 ≤ src ∧ src < 16) (hb:0 ≤ base ∧ base < 16) (hD:fourB disp=true) (hI:fourB imm=true):rdX (bytesX ⟨31,0,dst,src,base,disp,imm,cc⟩ ++ t)=⟨31,0,0,0,0,0,0,0⟩:=by
  have h1:bytesX ⟨31,0,dst,src,base,disp,imm,cc⟩ ++ t=15 :: (5 :: t):=by
    show ([15,5]) ++ t=_
    simp only [List.append_assoc,List.cons_append,List.nil_append]
  rw [h1,rd_bare _ (by omega) (by omega)]
  rfl
theorem bytes_ok (x:Xi) (hX:XOk x) (h:mayX x=true):Oks (bytesX x):=by
  rw [← encX_is x hX h]
  unfold encX encP operandP immP
  refine Oks.append (Oks.append (aheadP_ok _ _ _) ?_) (numL_ok _ _)
  cases inMemB (codeOfP x.op x.w).1.sh
  · cases inOpB (codeOfP x.op x.w).1.sh
    · intro z hz;cases hz
    · exact regL_ok _ _
  · exact memL_ok _ _ _
theorem may_two {x:Xi} (h:mayX x=true):fourB x.disp=true ∧ fourB x.imm=true ∧ ((clsI x.op=8 ∨ clsI x.op=9) → x.w=8 → oneB x.imm=true):=by
  unfold mayX at h
  simp only [Bool.and_eq_true] at h
  refine ⟨h.2.2.2.2.2.1,h.2.2.2.2.2.2.1,fun hk hw=>?_⟩
  have hb:=h.2.2.2.2.2.2.2
  rcases hk with hk | hk <;> rw [hk] at hb <;> unfold clsB jmpB at hb <;> rw [hw] at hb <;> simp at hb
  · exact hb
  · exact hb.1
theorem rd_is (x:Xi) (hX:XOk x) (h:mayX x=true) (t:List Int):rdX (bytesX x ++ t)=x:=by
  obtain ⟨ho,hd,hs,hb,hc,hi⟩:=may_rng hX h
  obtain ⟨hD,hI,h1⟩:=may_two h
  have hok:(codeOfP x.op x.w).2=true:=by
    have h':=h
    rw [← mayP_is] at h'
    unfold mayP at h'
    simp only [Bool.and_eq_true] at h'
    exact h'.1
  have hf:x=fldX (clsI x.op) x:=by
    unfold mayX at h
    simp only [Bool.and_eq_true] at h
    exact eqX_iff.1 h.2.1
  rcases w_cases x.w with hw | hw | hw | hw | hw | hw
  case inr.inr.inr.inr.inr=>rw [code_out _ _ hw.1 hw.2] at hok;exact absurd hok (by decide)
  case inl=>
    obtain ⟨op,wd,dst,src,base,disp,imm,cc⟩:=x
    simp only at hw ho hd hs hb hc hi hok hD hI h1
    subst hw
    obtain rfl | rfl | rfl | rfl | rfl | rfl | rfl | rfl | rfl | rfl | rfl | rfl | rfl | rfl | rfl | rfl | rfl | rfl | rfl | rfl | rfl | rfl | rfl | rfl | rfl | rfl | rfl | rfl | rfl | rfl | rfl | rfl:=lt32 ho
    · exact absurd hok (by decide +kernel)
    · exact absurd hok (by decide +kernel)
    · exact absurd hok (by decide +kernel)
    · exact absurd hok (by decide +kernel)
    · exact absurd hok (by decide +kernel)
    · exact absurd hok (by decide +kernel)
    · exact absurd hok (by decide +kernel)
    · exact absurd hok (by decide +kernel)
    · exact absurd hok (by decide +kernel)
    · exact absurd hok (by decide +kernel)
    · exact absurd hok (by decide +kernel)
    · exact absurd hok (by decide +kernel)
    · exact absurd hok (by decide +kernel)
    · exact absurd hok (by decide +kernel)
    · exact absurd hok (by decide +kernel)
    · exact absurd hok (by decide +kernel)
    · exact absurd hok (by decide +kernel)
    · exact absurd hok (by decide +kernel)
    · exact absurd hok (by decide +kernel)
    · exact absurd hok (by decide +kernel)
    · exact absurd hok (by decide +kernel)
    · exact absurd hok (by decide +kernel)
    · exact absurd hok (by decide +kernel)
    · exact absurd hok (by decide +kernel)
    · exact absurd hok (by decide +kernel)
    · exact absurd hok (by decide +kernel)
    · exact absurd hok (by decide +kernel)
    · exact absurd hok (by decide +kernel)
    · exact absurd hok (by decide +kernel)
    · exact absurd hok (by decide +kernel)
    · exact (rd_30_0 dst src base disp imm cc t hd hs hb hD hI).trans hf.symm
    · exact (rd_31_0 dst src base disp imm cc t hd hs hb hD hI).trans hf.symm
  case inr.inl=>
    obtain ⟨op,wd,dst,src,base,disp,imm,cc⟩:=x
    simp only at hw ho hd hs hb hc hi hok hD hI h1
    subst hw
    obtain rfl | rfl | rfl | rfl | rfl | rfl | rfl | rfl | rfl | rfl | rfl | rfl | rfl | rfl | rfl | rfl | rfl | rfl | rfl | rfl | rfl | rfl | rfl | rfl | rfl | rfl | rfl | rfl | rfl | rfl | rfl | rfl:=lt32 ho
    · exact absurd hok (by decide +kernel)
    · exact absurd hok (by decide +kernel)
    · exact absurd hok (by decide +kernel)
    · exact absurd hok (by decide +kernel)
    · exact absurd hok (by decide +kernel)
    · exact absurd hok (by decide +kernel)
    · exact absurd hok (by decide +kernel)
    · exact absurd hok (by decide +kernel)
    · exact absurd hok (by decide +kernel)
    · exact absurd hok (by decide +kernel)
    · exact absurd hok (by decide +kernel)
    · exact absurd hok (by decide +kernel)
    · exact absurd hok (by decide +kernel)
    · exact absurd hok (by decide +kernel)
    · exact absurd hok (by decide +kernel)
    · exact absurd hok (by decide +kernel)
    · exact absurd hok (by decide +kernel)
    · exact absurd hok (by decide +kernel)
    · exact absurd hok (by decide +kernel)
    · exact absurd hok (by decide +kernel)
    · exact absurd hok (by decide +kernel)
    · exact absurd hok (by decide +kernel)
    · exact absurd hok (by decide +kernel)
    · exact absurd hok (by decide +kernel)
    · exact absurd hok (by decide +kernel)
    · exact absurd hok (by decide +kernel)
    · exact (rd_26_8 dst src base disp imm cc t hd hs hb hD hI).trans hf.symm
    · exact (rd_27_8 dst src base disp imm cc t hd hs hb hD hI).trans hf.symm
    · exact (rd_28_8 dst src base disp imm cc t hd hs hb hD hI (h1 (.inl (by decide)) rfl)).trans hf.symm
    · exact (rd_29_8 dst src base disp imm cc t hd hs hb hD hI (h1 (.inr (by decide)) rfl) (hc (.inr (by decide)))).trans hf.symm
    · exact absurd hok (by decide +kernel)
    · exact absurd hok (by decide +kernel)
  case inr.inr.inl=>
    obtain ⟨op,wd,dst,src,base,disp,imm,cc⟩:=x
    simp only at hw ho hd hs hb hc hi hok hD hI h1
    subst hw
    obtain rfl | rfl | rfl | rfl | rfl | rfl | rfl | rfl | rfl | rfl | rfl | rfl | rfl | rfl | rfl | rfl | rfl | rfl | rfl | rfl | rfl | rfl | rfl | rfl | rfl | rfl | rfl | rfl | rfl | rfl | rfl | rfl:=lt32 ho
    · exact absurd hok (by decide +kernel)
    · exact absurd hok (by decide +kernel)
    · exact absurd hok (by decide +kernel)
    · exact absurd hok (by decide +kernel)
    · exact absurd hok (by decide +kernel)
    · exact absurd hok (by decide +kernel)
    · exact absurd hok (by decide +kernel)
    · exact absurd hok (by decide +kernel)
    · exact absurd hok (by decide +kernel)
    · exact absurd hok (by decide +kernel)
    · exact absurd hok (by decide +kernel)
    · exact absurd hok (by decide +kernel)
    · exact absurd hok (by decide +kernel)
    · exact absurd hok (by decide +kernel)
    · exact absurd hok (by decide +kernel)
    · exact absurd hok (by decide +kernel)
    · exact absurd hok (by decide +kernel)
    · exact absurd hok (by decide +kernel)
    · exact absurd hok (by decide +kernel)
    · exact absurd hok (by decide +kernel)
    · exact absurd hok (by decide +kernel)
    · exact absurd hok (by decide +kernel)
    · exact absurd hok (by decide +kernel)
    · exact absurd hok (by decide +kernel)
    · exact absurd hok (by decide +kernel)
    · exact absurd hok (by decide +kernel)
    · exact (rd_26_16 dst src base disp imm cc t hd hs hb hD hI).trans hf.symm
    · exact (rd_27_16 dst src base disp imm cc t hd hs hb hD hI).trans hf.symm
    · exact absurd hok (by decide +kernel)
    · exact absurd hok (by decide +kernel)
    · exact absurd hok (by decide +kernel)
    · exact absurd hok (by decide +kernel)
  case inr.inr.inr.inl=>
    obtain ⟨op,wd,dst,src,base,disp,imm,cc⟩:=x
    simp only at hw ho hd hs hb hc hi hok hD hI h1
    subst hw
    obtain rfl | rfl | rfl | rfl | rfl | rfl | rfl | rfl | rfl | rfl | rfl | rfl | rfl | rfl | rfl | rfl | rfl | rfl | rfl | rfl | rfl | rfl | rfl | rfl | rfl | rfl | rfl | rfl | rfl | rfl | rfl | rfl:=lt32 ho
    · exact (rd_0_32 dst src base disp imm cc t hd hs hb hD hI).trans hf.symm
    · exact (rd_1_32 dst src base disp imm cc t hd hs hb hD hI).trans hf.symm
    · exact (rd_2_32 dst src base disp imm cc t hd hs hb hD hI).trans hf.symm
    · exact (rd_3_32 dst src base disp imm cc t hd hs hb hD hI).trans hf.symm
    · exact (rd_4_32 dst src base disp imm cc t hd hs hb hD hI).trans hf.symm
    · exact (rd_5_32 dst src base disp imm cc t hd hs hb hD hI).trans hf.symm
    · exact (rd_6_32 dst src base disp imm cc t hd hs hb hD hI).trans hf.symm
    · exact (rd_7_32 dst src base disp imm cc t hd hs hb hD hI).trans hf.symm
    · exact (rd_8_32 dst src base disp imm cc t hd hs hb hD hI).trans hf.symm
    · exact (rd_9_32 dst src base disp imm cc t hd hs hb hD hI).trans hf.symm
    · exact (rd_10_32 dst src base disp imm cc t hd hs hb hD hI).trans hf.symm
    · exact (rd_11_32 dst src base disp imm cc t hd hs hb hD hI).trans hf.symm
    · exact (rd_12_32 dst src base disp imm cc t hd hs hb hD hI).trans hf.symm
    · exact (rd_13_32 dst src base disp imm cc t hd hs hb hD hI).trans hf.symm
    · exact (rd_14_32 dst src base disp imm cc t hd hs hb hD hI).trans hf.symm
    · exact (rd_15_32 dst src base disp imm cc t hd hs hb hD hI).trans hf.symm
    · exact (rd_16_32 dst src base disp imm cc t hd hs hb hD hI).trans hf.symm
    · exact (rd_17_32 dst src base disp imm cc t hd hs hb hD hI (hi (by decide))).trans hf.symm
    · exact (rd_18_32 dst src base disp imm cc t hd hs hb hD hI (hi (by decide))).trans hf.symm
    · exact (rd_19_32 dst src base disp imm cc t hd hs hb hD hI (hi (by decide))).trans hf.symm
    · exact (rd_20_32 dst src base disp imm cc t hd hs hb hD hI).trans hf.symm
    · exact (rd_21_32 dst src base disp imm cc t hd hs hb hD hI).trans hf.symm
    · exact (rd_22_32 dst src base disp imm cc t hd hs hb hD hI).trans hf.symm
    · exact (rd_23_32 dst src base disp imm cc t hd hs hb hD hI).trans hf.symm
    · exact (rd_24_32 dst src base disp imm cc t hd hs hb hD hI).trans hf.symm
    · exact (rd_25_32 dst src base disp imm cc t hd hs hb hD hI (hc (.inl (by decide)))).trans hf.symm
    · exact (rd_26_32 dst src base disp imm cc t hd hs hb hD hI).trans hf.symm
    · exact (rd_27_32 dst src base disp imm cc t hd hs hb hD hI).trans hf.symm
    · exact (rd_28_32 dst src base disp imm cc t hd hs hb hD hI).trans hf.symm
    · exact (rd_29_32 dst src base disp imm cc t hd hs hb hD hI (hc (.inr (by decide)))).trans hf.symm
    · exact absurd hok (by decide +kernel)
    · exact absurd hok (by decide +kernel)
  case inr.inr.inr.inr.inl=>
    obtain ⟨op,wd,dst,src,base,disp,imm,cc⟩:=x
    simp only at hw ho hd hs hb hc hi hok hD hI h1
    subst hw
    obtain rfl | rfl | rfl | rfl | rfl | rfl | rfl | rfl | rfl | rfl | rfl | rfl | rfl | rfl | rfl | rfl | rfl | rfl | rfl | rfl | rfl | rfl | rfl | rfl | rfl | rfl | rfl | rfl | rfl | rfl | rfl | rfl:=lt32 ho
    · exact (rd_0_64 dst src base disp imm cc t hd hs hb hD hI).trans hf.symm
    · exact (rd_1_64 dst src base disp imm cc t hd hs hb hD hI).trans hf.symm
    · exact (rd_2_64 dst src base disp imm cc t hd hs hb hD hI).trans hf.symm
    · exact (rd_3_64 dst src base disp imm cc t hd hs hb hD hI).trans hf.symm
    · exact (rd_4_64 dst src base disp imm cc t hd hs hb hD hI).trans hf.symm
    · exact (rd_5_64 dst src base disp imm cc t hd hs hb hD hI).trans hf.symm
    · exact (rd_6_64 dst src base disp imm cc t hd hs hb hD hI).trans hf.symm
    · exact (rd_7_64 dst src base disp imm cc t hd hs hb hD hI).trans hf.symm
    · exact (rd_8_64 dst src base disp imm cc t hd hs hb hD hI).trans hf.symm
    · exact (rd_9_64 dst src base disp imm cc t hd hs hb hD hI).trans hf.symm
    · exact (rd_10_64 dst src base disp imm cc t hd hs hb hD hI).trans hf.symm
    · exact (rd_11_64 dst src base disp imm cc t hd hs hb hD hI).trans hf.symm
    · exact (rd_12_64 dst src base disp imm cc t hd hs hb hD hI).trans hf.symm
    · exact (rd_13_64 dst src base disp imm cc t hd hs hb hD hI).trans hf.symm
    · exact (rd_14_64 dst src base disp imm cc t hd hs hb hD hI).trans hf.symm
    · exact (rd_15_64 dst src base disp imm cc t hd hs hb hD hI).trans hf.symm
    · exact (rd_16_64 dst src base disp imm cc t hd hs hb hD hI).trans hf.symm
    · exact (rd_17_64 dst src base disp imm cc t hd hs hb hD hI (hi (by decide))).trans hf.symm
    · exact (rd_18_64 dst src base disp imm cc t hd hs hb hD hI (hi (by decide))).trans hf.symm
    · exact (rd_19_64 dst src base disp imm cc t hd hs hb hD hI (hi (by decide))).trans hf.symm
    · exact (rd_20_64 dst src base disp imm cc t hd hs hb hD hI).trans hf.symm
    · exact (rd_21_64 dst src base disp imm cc t hd hs hb hD hI).trans hf.symm
    · exact (rd_22_64 dst src base disp imm cc t hd hs hb hD hI).trans hf.symm
    · exact (rd_23_64 dst src base disp imm cc t hd hs hb hD hI).trans hf.symm
    · exact (rd_24_64 dst src base disp imm cc t hd hs hb hD hI).trans hf.symm
    · exact (rd_25_64 dst src base disp imm cc t hd hs hb hD hI (hc (.inl (by decide)))).trans hf.symm
    · exact (rd_26_64 dst src base disp imm cc t hd hs hb hD hI).trans hf.symm
    · exact (rd_27_64 dst src base disp imm cc t hd hs hb hD hI).trans hf.symm
    · exact absurd hok (by decide +kernel)
    · exact absurd hok (by decide +kernel)
    · exact absurd hok (by decide +kernel)
    · exact absurd hok (by decide +kernel)
theorem bytes_apart {x y:Xi} (hX:XOk x) (hY:XOk y) (hx:mayX x=true) (hy:mayX y=true) {t u:List Int} (e:bytesX x ++ t=bytesX y ++ u):x=y:=by
  rw [← rd_is x hX hx t,← rd_is y hY hy u,e]
theorem bytes_some (x:Xi) (hX:XOk x) (h:mayX x=true):1 ≤ (bytesX x).length:=by
  rw [← encX_is x hX h]
  unfold encX encP aheadP
  simp only [List.length_append,List.length_cons,List.length_nil]
  omega
end Go.Proofs.YthmbmcckldgdiaaDoor.Mrm
