import Derived.Test.YtjhedldplmhmjaaDoorERd33
set_option linter.unusedVariables false
set_option linter.unusedSimpArgs false
set_option linter.unnecessarySimpa false
namespace Go.Proofs.YtjhedldplmhmjaaDoor.Mrm
open Go Go.RowKit
set_option linter.unusedVariables false
set_option linter.unusedSimpArgs false
set_option linter.unnecessarySimpa false
set_option maxRecDepth 100000
def DocIs (b t:List Int) (x:Xi):Prop:=(docR (b ++ t)).1=x ∧ (docR (b ++ t)).2.bad=false ∧ (docR (b ++ t)).2.pos=b.length
theorem dg_is {l q:List Int} {s:Rdr} {r m:Int} (h:Ahd l s (opI 192 r m :: q)) (hr:0 ≤ r ∧ r < 8):byteV l s / 8 % 8=r:=by
  rw [h.byte.1];unfold opI;omega
theorem op_at {l q:List Int} {s:Rdr} {k r m:Int} (h:Ahd l s (opI k r m :: q)) (hk:k=192 ∨ k=128):decide (byteV l s < 192)=decide (k=128):=by
  rw [h.byte.1];unfold opI;rcases hk with rfl | rfl <;> simp <;> omega
def xw (w:Int):Xi:=⟨-1,w,0,0,0,0,0,0⟩
def adv (s:Rdr) (k:Int):Rdr:={ s with pos:=s.pos + k }
theorem adv2 (s:Rdr) (a b:Int):adv (adv s a) b=adv s (a + b):=by unfold adv;simp only [Int.add_assoc]
def Goes (l t q:List Int) (n:Int) (half:Bool) (w:Int) (s:Rdr) (f:Xi):Prop:=codeR l n half (xw w) s=(f,adv s ((q.length:Int) - t.length))
theorem doc_front (half wd al:Bool) (r m n w:Int) {b t q:List Int} {f:Xi} (hr:0 ≤ r ∧ r < 16) (hm:0 ≤ m ∧ m < 16) (hn:n / 16 ≠ 4) (hn2:n ≠ 102) (hw:(if wd then 64 else 32)=w)
    (e:b ++ t=(if half then [102] else []) ++ (rexL wd r m al ++ n :: q))
    (K:∀ l s,s.r=hi1 r → s.m=hi1 m → s.bad=false → Ahd l s q → Goes l t q n half w s f):DocIs b t f:=by
  obtain ⟨f1,f2,f3,f4⟩:=front_n half wd al q hr hm hn hn2 e
  have hl:=congrArg List.length e
  unfold DocIs docR
  rw [f1,f3]
  have k:=K (b ++ t) (preS (b ++ t) rd0) (by rw [f2]) (by rw [f2]) (by rw [f2]) f4
  unfold Goes xw at k
  rw [show (preS (b ++ t) rd0).wide=wd by rw [f2],hw,k,f2]
  refine ⟨rfl,rfl,?_⟩
  simp only [List.length_append,List.length_cons] at hl
  have e3:((if half then [102] else []:List Int)).length=(if half then 1 else 0:Nat):=by cases half <;> rfl
  rw [e3] at hl
  unfold adv
  simp only
  omega
section
variable {l t:List Int} {s:Rdr} {r m w op imm disp cc:Int} {half:Bool}
theorem zc_two (n op:Int) (hn:n=137 ∧ op=0 ∨ (n=1 ∨ n=9 ∨ n=33 ∨ n=41 ∨ n=49 ∨ n=57 ∨ n=133) ∧ op=twoOp n) (hr:0 ≤ r ∧ r < 16) (hm:0 ≤ m ∧ m < 16) (er:s.r=hi1 r) (em:s.m=hi1 m) (eb:s.bad=false) (h:Ahd l s (opI 192 r m :: t)):Goes l t (opI 192 r m :: t) n half w s ⟨op,w,m,r,0,0,0,0⟩:=by
  obtain ⟨g1,g2,g3⟩:=h.two hr hm er em eb
  have k:((opI 192 r m :: t).length:Int) - t.length=1:=by simp only [List.length_cons];omega
  unfold Goes
  rw [k]
  rcases hn with ⟨rfl,rfl⟩ | ⟨hn,rfl⟩
  · have o1:=op_at h (.inl rfl)
    simp only [Int.reduceEq,decide_false,decide_eq_false_iff_not] at o1
    unfold codeR
    rw [if_pos rfl,if_neg (fun q=>o1 q.2),g1,g2,g3];rfl
  · unfold codeR
    rw [if_neg (by omega),if_pos hn,g1,g2,g3];rfl
theorem zg_five {z:Int}:((z :: (numL imm 4 ++ t)).length:Int) - t.length=1 + 4:=by simp only [List.length_cons,List.length_append,numL_length];omega
theorem zg_four:((numL imm 4 ++ t).length:Int) - t.length=4:=by simp only [List.length_append,numL_length];omega
theorem zg_one {z:Int}:((z :: t).length:Int) - t.length=1:=by simp only [List.length_cons];omega
theorem zg_two {y z:Int}:((y :: z :: t).length:Int) - t.length=1 + 1:=by simp only [List.length_cons];omega
theorem zg_mem {z:Int}:((z :: (midL m ++ (numL disp 4 ++ t))).length:Int) - t.length=1 + ((midL m).length + 4):=by simp only [List.length_cons,List.length_append,numL_length];omega
theorem zt_two (hr:0 ≤ r ∧ r < 16) (hm:0 ≤ m ∧ m < 16) (er:s.r=hi1 r) (em:s.m=hi1 m) (eb:s.bad=false) {q:List Int} (h:Ahd l s (opI 192 r m :: q)):rgD l s=r ∧ rgM l s=m ∧ twoS l s=adv s 1 ∧ Ahd l (twoS l s) q:=by
  obtain ⟨g1,g2,g3⟩:=h.two hr hm er em eb
  exact ⟨g1,g2,g3,h.on (t:=twoS l s) (by rw [g3])⟩
theorem zt_four (hI:fourB imm=true) (h:Ahd l s (numL imm 4 ++ t)):sg32 (numA l s 4)=imm ∧ numS l s 4=adv s 4:=h.num4 hI
theorem zt_mem (hr:0 ≤ r ∧ r < 16) (hm:0 ≤ m ∧ m < 16) (hD:fourB disp=true) (er:s.r=hi1 r) (em:s.m=hi1 m) (eb:s.bad=false) (h:Ahd l s (opI 128 r m :: (midL m ++ (numL disp 4 ++ t)))):rgD l s=r ∧ rgM l s=m ∧ memD l s=disp ∧ memS l s=adv s (1 + ((midL m).length + 4)):=by
  obtain ⟨g1,g2,g3,g4⟩:=h.mem hr hm hD er em eb
  refine ⟨g1,g2,g3,g4.trans ?_⟩
  unfold adv
  simp only [Int.add_assoc]
theorem zc_199 (hm:0 ≤ m ∧ m < 16) (hI:fourB imm=true) (er:s.r=hi1 0) (em:s.m=hi1 m) (eb:s.bad=false) (h:Ahd l s (opI 192 0 m :: (numL imm 4 ++ t))):Goes l t (opI 192 0 m :: (numL imm 4 ++ t)) 199 half w s ⟨1,w,m,0,0,0,imm,0⟩:=by
  obtain ⟨g1,g2,g3,h2⟩:=zt_two (by decide) hm er em eb h
  obtain ⟨n1,n2⟩:=zt_four hI h2
  unfold Goes codeR
  rw [if_neg (by omega),if_neg (by omega),if_neg (by omega),if_pos rfl,zg_five,g2,n1,n2,g3,adv2];rfl
theorem zc_184 {d:Int} (hd:0 ≤ d ∧ d < 16) (hI:fourB imm=true) (er:s.r=hi1 0) (em:s.m=hi1 d) (eb:s.bad=false) (h:Ahd l s (numL imm 4 ++ t)):Goes l t (numL imm 4 ++ t) (184 + d % 8) half w s ⟨1,w,d,0,0,0,imm,0⟩:=by
  obtain ⟨n1,n2⟩:=zt_four hI h
  have c3:184 + d % 8 - 184 + 8 * hi1 d=d:=by unfold hi1;split <;> omega
  unfold Goes codeR rngX rngS
  rw [if_neg (by omega),if_neg (by omega),if_neg (by omega),if_neg (by omega),if_neg (by omega),if_neg (by omega),if_neg (by omega),if_neg (by omega),if_neg (by omega),if_neg (by omega),if_neg (by omega),if_pos (by omega),if_neg (by omega),if_pos (by omega),zg_four,em,c3,n1,n2];rfl
theorem zc_g4 (n:Int) (hn:n=129 ∨ n=247 ∧ op=15) (hg:grpI n r=op) (h8:0 ≤ r ∧ r < 8) (hm:0 ≤ m ∧ m < 16) (hI:fourB imm=true) (er:s.r=hi1 r) (em:s.m=hi1 m) (eb:s.bad=false) (h:Ahd l s (opI 192 r m :: (numL imm 4 ++ t))):Goes l t (opI 192 r m :: (numL imm 4 ++ t)) n half w s ⟨op,w,m,0,0,0,imm,0⟩:=by
  obtain ⟨g1,g2,g3,h2⟩:=zt_two ⟨h8.1,by omega⟩ hm er em eb h
  obtain ⟨n1,n2⟩:=zt_four hI h2
  unfold Goes codeR
  rw [if_neg (by omega),if_neg (by omega),if_pos (by omega)]
  unfold grpR
  simp only [dg_is h h8,hg,g2,n1,n2]
  rw [if_pos (by omega),zg_five,g3,adv2];rfl
theorem zc_193 (hg:grpI 193 r=op) (h15:op ≠ 15) (h8:0 ≤ r ∧ r < 8) (hm:0 ≤ m ∧ m < 16) (er:s.r=hi1 r) (em:s.m=hi1 m) (eb:s.bad=false) (h:Ahd l s (opI 192 r m :: (imm :: t))):Goes l t (opI 192 r m :: (imm :: t)) 193 half w s ⟨op,w,m,0,0,0,imm,0⟩:=by
  obtain ⟨g1,g2,g3,h2⟩:=zt_two ⟨h8.1,by omega⟩ hm er em eb h
  obtain ⟨n1,n2,-⟩:=h2.byte
  replace n2:byteS l (twoS l s)=adv (twoS l s) 1:=n2
  unfold Goes codeR
  rw [if_neg (by omega),if_neg (by omega),if_pos (by omega)]
  unfold grpR
  simp only [dg_is h h8,hg,g2,n1,n2]
  rw [if_neg (by omega),if_pos trivial,zg_two,g3,adv2];rfl
theorem zc_g0 (n:Int) (hn:n=211 ∨ n=247) (hg:grpI n r=op) (h15:op ≠ 15) (h8:0 ≤ r ∧ r < 8) (hm:0 ≤ m ∧ m < 16) (er:s.r=hi1 r) (em:s.m=hi1 m) (eb:s.bad=false) (h:Ahd l s (opI 192 r m :: t)):Goes l t (opI 192 r m :: t) n half w s ⟨op,w,m,0,0,0,0,0⟩:=by
  obtain ⟨g1,g2,g3,h2⟩:=zt_two ⟨h8.1,by omega⟩ hm er em eb h
  unfold Goes codeR
  rw [if_neg (by omega),if_neg (by omega),if_pos (by omega)]
  unfold grpR
  simp only [dg_is h h8,hg,g2]
  rw [if_neg (by omega),if_neg (by omega),zg_one,g3];rfl
theorem zc_139 (hr:0 ≤ r ∧ r < 16) (hm:0 ≤ m ∧ m < 16) (hD:fourB disp=true) (er:s.r=hi1 r) (em:s.m=hi1 m) (eb:s.bad=false) (h:Ahd l s (opI 128 r m :: (midL m ++ (numL disp 4 ++ t)))):Goes l t (opI 128 r m :: (midL m ++ (numL disp 4 ++ t))) 139 half w s ⟨26,w,r,0,m,disp,0,0⟩:=by
  obtain ⟨g1,g2,g3,g4⟩:=zt_mem hr hm hD er em eb h
  unfold Goes codeR
  rw [if_neg (by omega),if_neg (by omega),if_neg (by omega),if_neg (by omega),if_pos rfl,zg_mem,g1,g2,g3,g4];rfl
theorem zc_136 (hr:0 ≤ r ∧ r < 16) (hm:0 ≤ m ∧ m < 16) (hD:fourB disp=true) (er:s.r=hi1 r) (em:s.m=hi1 m) (eb:s.bad=false) (h:Ahd l s (opI 128 r m :: (midL m ++ (numL disp 4 ++ t)))):Goes l t (opI 128 r m :: (midL m ++ (numL disp 4 ++ t))) 136 half w s ⟨27,8,0,r,m,disp,0,0⟩:=by
  obtain ⟨g1,g2,g3,g4⟩:=zt_mem hr hm hD er em eb h
  unfold Goes codeR
  rw [if_neg (by omega),if_neg (by omega),if_neg (by omega),if_neg (by omega),if_neg (by omega),if_pos rfl,zg_mem,g1,g2,g3,g4];rfl
theorem zc_137 (half:Bool) (w v:Int) (hv:(if half then 16 else w)=v) (hr:0 ≤ r ∧ r < 16) (hm:0 ≤ m ∧ m < 16) (hD:fourB disp=true) (er:s.r=hi1 r) (em:s.m=hi1 m) (eb:s.bad=false) (h:Ahd l s (opI 128 r m :: (midL m ++ (numL disp 4 ++ t)))):Goes l t (opI 128 r m :: (midL m ++ (numL disp 4 ++ t))) 137 half w s ⟨27,v,0,r,m,disp,0,0⟩:=by
  obtain ⟨g1,g2,g3,g4⟩:=zt_mem hr hm hD er em eb h
  have o1:=op_at h (.inr rfl)
  simp only [decide_true,decide_eq_true_eq] at o1
  unfold Goes codeR
  rw [if_pos rfl,if_pos ⟨h.byte.2.2,o1⟩,zg_mem,g1,g2,g3,g4,← hv];rfl
theorem zt_15 {v:Int} {q:List Int} (er:s.r=hi1 r) (em:s.m=hi1 m) (eb:s.bad=false) (h:Ahd l s (v :: q)):byteV l s=v ∧ byteS l s=adv s 1 ∧ (byteS l s).r=hi1 r ∧ (byteS l s).m=hi1 m ∧ (byteS l s).bad=false ∧ Ahd l (byteS l s) q:=by
  obtain ⟨b1,b2,-⟩:=h.byte
  exact ⟨b1,b2,by rw [b2];exact er,by rw [b2];exact em,by rw [b2];exact eb,h.on (by rw [b2])⟩
theorem zcode_15:codeR l 15 half (xw w) s=(bhX l s (xw w),bhS l s):=rfl
theorem zg_more {q:List Int} {z:Int}:((z :: q).length:Int) - t.length=1 + ((q.length:Int) - t.length):=by simp only [List.length_cons];omega
theorem zc_175 (hr:0 ≤ r ∧ r < 16) (hm:0 ≤ m ∧ m < 16) (er:s.r=hi1 r) (em:s.m=hi1 m) (eb:s.bad=false) (h:Ahd l s (175 :: opI 192 r m :: t)):Goes l t (175 :: opI 192 r m :: t) 15 half w s ⟨16,w,r,m,0,0,0,0⟩:=by
  obtain ⟨b1,b2,r2,m2,d2,h2⟩:=zt_15 er em eb h
  obtain ⟨g1,g2,g3,-⟩:=zt_two hr hm r2 m2 d2 h2
  unfold rgD at g1;unfold rgM at g2
  unfold Goes
  rw [zcode_15]
  unfold bhX bhS
  rw [b1,if_pos rfl,if_pos rfl,g1,g2,g3,zg_two,b2,adv2];rfl
theorem zc_5 (er:s.r=hi1 0) (em:s.m=hi1 0) (eb:s.bad=false) (h:Ahd l s (5 :: t)):Goes l t (5 :: t) 15 half w s ⟨31,0,0,0,0,0,0,0⟩:=by
  obtain ⟨b1,b2,-⟩:=h.byte
  unfold Goes
  rw [zcode_15]
  unfold bhX bhS
  rw [b1,if_neg (by omega),if_pos rfl,if_neg (by omega),if_pos rfl,zg_one,b2];rfl
theorem zc_64 (hc:0 ≤ cc ∧ cc < 16) (hr:0 ≤ r ∧ r < 16) (hm:0 ≤ m ∧ m < 16) (er:s.r=hi1 r) (em:s.m=hi1 m) (eb:s.bad=false) (h:Ahd l s ((64 + cc) :: opI 192 r m :: t)):Goes l t ((64 + cc) :: opI 192 r m :: t) 15 half w s ⟨25,w,r,m,0,0,0,cc⟩:=by
  obtain ⟨b1,b2,r2,m2,d2,h2⟩:=zt_15 er em eb h
  obtain ⟨g1,g2,g3,-⟩:=zt_two hr hm r2 m2 d2 h2
  unfold rgD at g1;unfold rgM at g2
  unfold Goes
  rw [zcode_15]
  unfold bhX bhS
  rw [b1,if_neg (by omega),if_neg (by omega),if_pos (by omega),if_neg (by omega),if_neg (by omega),if_pos (by omega),g1,g2,g3,zg_two,b2,adv2,show 64 + cc - 64=cc by omega];rfl
theorem zc_128 (hc:0 ≤ cc ∧ cc < 16) (hI:fourB imm=true) (er:s.r=hi1 0) (em:s.m=hi1 0) (eb:s.bad=false) (h:Ahd l s ((128 + cc) :: (numL imm 4 ++ t))):Goes l t ((128 + cc) :: (numL imm 4 ++ t)) 15 half 32 s ⟨29,32,0,0,0,0,imm,cc⟩:=by
  obtain ⟨b1,b2,-⟩:=h.byte
  have h2:Ahd l (byteS l s) _:=h.on (by rw [b2])
  obtain ⟨n1,n2⟩:=zt_four hI h2
  replace b2:byteS l s=adv s 1:=b2
  unfold Goes
  rw [zcode_15]
  unfold bhX bhS
  rw [b1,if_neg (by omega),if_neg (by omega),if_neg (by omega),if_pos (by omega),if_neg (by omega),if_neg (by omega),if_neg (by omega),if_pos (by omega),n1,n2,b2,zg_five,adv2,show 128 + cc - 128=cc by omega];rfl
theorem zc_182 (hr:0 ≤ r ∧ r < 16) (hm:0 ≤ m ∧ m < 16) (hD:fourB disp=true) (er:s.r=hi1 r) (em:s.m=hi1 m) (eb:s.bad=false) (h:Ahd l s (182 :: opI 128 r m :: (midL m ++ (numL disp 4 ++ t)))):Goes l t (182 :: opI 128 r m :: (midL m ++ (numL disp 4 ++ t))) 15 half w s ⟨26,8,r,0,m,disp,0,0⟩:=by
  obtain ⟨b1,b2,r2,m2,d2,h2⟩:=zt_15 er em eb h
  obtain ⟨g1,g2,g3,g4⟩:=zt_mem hr hm hD r2 m2 d2 h2
  unfold rgD at g1;unfold rgM at g2;unfold memD at g3;unfold memS at g4
  unfold Goes
  rw [zcode_15]
  unfold bhX bhS
  rw [b1,if_neg (by omega),if_neg (by omega),if_neg (by omega),if_neg (by omega),if_pos rfl,if_neg (by omega),if_neg (by omega),if_neg (by omega),if_neg (by omega),if_pos rfl,g1,g2,g3,g4,zg_more,zg_mem,b2,adv2];rfl
theorem zc_183 (hr:0 ≤ r ∧ r < 16) (hm:0 ≤ m ∧ m < 16) (hD:fourB disp=true) (er:s.r=hi1 r) (em:s.m=hi1 m) (eb:s.bad=false) (h:Ahd l s (183 :: opI 128 r m :: (midL m ++ (numL disp 4 ++ t)))):Goes l t (183 :: opI 128 r m :: (midL m ++ (numL disp 4 ++ t))) 15 half w s ⟨26,16,r,0,m,disp,0,0⟩:=by
  obtain ⟨b1,b2,r2,m2,d2,h2⟩:=zt_15 er em eb h
  obtain ⟨g1,g2,g3,g4⟩:=zt_mem hr hm hD r2 m2 d2 h2
  unfold rgD at g1;unfold rgM at g2;unfold memD at g3;unfold memS at g4
  unfold Goes
  rw [zcode_15]
  unfold bhX bhS
  rw [b1,if_neg (by omega),if_neg (by omega),if_neg (by omega),if_neg (by omega),if_neg (by omega),if_pos rfl,if_neg (by omega),if_neg (by omega),if_neg (by omega),if_neg (by omega),if_neg (by omega),if_pos rfl,g1,g2,g3,g4,zg_more,zg_mem,b2,adv2];rfl
theorem zc_235 (h1:oneB imm=true) (er:s.r=hi1 0) (em:s.m=hi1 0) (eb:s.bad=false) (h:Ahd l s (imm % 256 :: t)):Goes l t (imm % 256 :: t) 235 half w s ⟨28,8,0,0,0,0,imm,0⟩:=by
  obtain ⟨n1,n2⟩:=h.num1 h1
  unfold Goes codeR
  rw [if_neg (by omega),if_neg (by omega),if_neg (by omega),if_neg (by omega),if_neg (by omega),if_neg (by omega),if_pos rfl,zg_one,n1,n2];rfl
theorem zc_233 (hI:fourB imm=true) (er:s.r=hi1 0) (em:s.m=hi1 0) (eb:s.bad=false) (h:Ahd l s (numL imm 4 ++ t)):Goes l t (numL imm 4 ++ t) 233 half w s ⟨28,w,0,0,0,0,imm,0⟩:=by
  obtain ⟨n1,n2⟩:=zt_four hI h
  unfold Goes codeR
  rw [if_neg (by omega),if_neg (by omega),if_neg (by omega),if_neg (by omega),if_neg (by omega),if_neg (by omega),if_neg (by omega),if_pos rfl,zg_four,n1,n2];rfl
theorem zc_112 (hc:0 ≤ cc ∧ cc < 16) (h1:oneB imm=true) (er:s.r=hi1 0) (em:s.m=hi1 0) (eb:s.bad=false) (h:Ahd l s (imm % 256 :: t)):Goes l t (imm % 256 :: t) (112 + cc) half w s ⟨29,8,0,0,0,0,imm,cc⟩:=by
  obtain ⟨n1,n2⟩:=h.num1 h1
  unfold Goes codeR rngX rngS
  rw [if_neg (by omega),if_neg (by omega),if_neg (by omega),if_neg (by omega),if_neg (by omega),if_neg (by omega),if_neg (by omega),if_neg (by omega),if_neg (by omega),if_neg (by omega),if_pos (by omega),if_pos (by omega),zg_one,n1,n2,show 112 + cc - 112=cc by omega];rfl
theorem zc_195 (er:s.r=hi1 0) (em:s.m=hi1 0) (eb:s.bad=false) (h:Ahd l s t):Goes l t t 195 half w s ⟨30,0,0,0,0,0,0,0⟩:=by
  unfold Goes codeR adv
  rw [if_neg (by omega),if_neg (by omega),if_neg (by omega),if_neg (by omega),if_neg (by omega),if_neg (by omega),if_neg (by omega),if_neg (by omega),if_pos rfl,Int.sub_self]
  simp [xw]
end
theorem doc_to {b t:List Int} {x y:Xi} (h:DocIs b t y) (e:y=x):DocIs b t x:=e ▸ h
set_option maxHeartbeats 4000000 in
theorem doc_is (x:Xi) (hX:XOk x) (h:mayX x=true) (t:List Int):DocIs (bytesX x) t x:=by
  obtain ⟨ho,hd,hs,hb,hc,hi⟩:=may_rng hX h
  obtain ⟨hD,hI,h1⟩:=may_two h
  have hok:(codeOfP x.op x.w).2=true:=by
    have h':=h
    rw [← mayP_is] at h'
    unfold mayP at h'
    simp only [Bool.and_eq_true] at h'
    exact h'.1
  have hf:fldX (clsI x.op) x=x:=by
    unfold mayX at h
    simp only [Bool.and_eq_true] at h
    exact (eqX_iff.1 h.2.1).symm
  rcases w_cases x.w with hw | hw | hw | hw | hw | hw
  case inr.inr.inr.inr.inr=>rw [code_out _ _ hw.1 hw.2] at hok;exact absurd hok (by decide)
  case inl=>
    obtain ⟨op,wd,dst,src,base,disp,imm,cc⟩:=x
    simp only at hw ho hd hs hb hc hi hok hD hI h1
    subst hw
    obtain rfl | rfl | rfl | rfl | rfl | rfl | rfl | rfl | rfl | rfl | rfl | rfl | rfl | rfl | rfl | rfl | rfl | rfl | rfl | rfl | rfl | rfl | rfl | rfl | rfl | rfl | rfl | rfl | rfl | rfl | rfl | rfl:=lt32 ho
    · exact absurd hok (by decide +kernel)
    · exact absurd hok (by decide +kernel)
    · exact absurd hok (by decide +kernel)
    · exact absurd hok (by decide +kernel)
    · exact absurd hok (by decide +kernel)
    · exact absurd hok (by decide +kernel)
    · exact absurd hok (by decide +kernel)
    · exact absurd hok (by decide +kernel)
    · exact absurd hok (by decide +kernel)
    · exact absurd hok (by decide +kernel)
    · exact absurd hok (by decide +kernel)
    · exact absurd hok (by decide +kernel)
    · exact absurd hok (by decide +kernel)
    · exact absurd hok (by decide +kernel)
    · exact absurd hok (by decide +kernel)
    · exact absurd hok (by decide +kernel)
    · exact absurd hok (by decide +kernel)
    · exact absurd hok (by decide +kernel)
    · exact absurd hok (by decide +kernel)
    · exact absurd hok (by decide +kernel)
    · exact absurd hok (by decide +kernel)
    · exact absurd hok (by decide +kernel)
    · exact absurd hok (by decide +kernel)
    · exact absurd hok (by decide +kernel)
    · exact absurd hok (by decide +kernel)
    · exact absurd hok (by decide +kernel)
    · exact absurd hok (by decide +kernel)
    · exact absurd hok (by decide +kernel)
    · exact absurd hok (by decide +kernel)
    · exact absurd hok (by decide +kernel)
    · exact doc_to (doc_front false false false 0 0 195 32 (by decide) (by decide) (by omega) (by omega) rfl (show ([195]:List Int) ++ t=_ by simp [rexL,rexN,memL]) fun l s=>zc_195) hf
    · exact doc_to (doc_front false false false 0 0 15 32 (by decide) (by decide) (by omega) (by omega) rfl (show ([15,5]:List Int) ++ t=_ by simp [rexL,rexN,memL]) fun l s=>zc_5) hf
  case inr.inl=>
    obtain ⟨op,wd,dst,src,base,disp,imm,cc⟩:=x
    simp only at hw ho hd hs hb hc hi hok hD hI h1
    subst hw
    obtain rfl | rfl | rfl | rfl | rfl | rfl | rfl | rfl | rfl | rfl | rfl | rfl | rfl | rfl | rfl | rfl | rfl | rfl | rfl | rfl | rfl | rfl | rfl | rfl | rfl | rfl | rfl | rfl | rfl | rfl | rfl | rfl:=lt32 ho
    · exact absurd hok (by decide +kernel)
    · exact absurd hok (by decide +kernel)
    · exact absurd hok (by decide +kernel)
    · exact absurd hok (by decide +kernel)
    · exact absurd hok (by decide +kernel)
    · exact absurd hok (by decide +kernel)
    · exact absurd hok (by decide +kernel)
    · exact absurd hok (by decide +kernel)
    · exact absurd hok (by decide +kernel)
    · exact absurd hok (by decide +kernel)
    · exact absurd hok (by decide +kernel)
    · exact absurd hok (by decide +kernel)
    · exact absurd hok (by decide +kernel)
    · exact absurd hok (by decide +kernel)
    · exact absurd hok (by decide +kernel)
    · exact absurd hok (by decide +kernel)
    · exact absurd hok (by decide +kernel)
    · exact absurd hok (by decide +kernel)
    · exact absurd hok (by decide +kernel)
    · exact absurd hok (by decide +kernel)
    · exact absurd hok (by decide +kernel)
    · exact absurd hok (by decide +kernel)
    · exact absurd hok (by decide +kernel)
    · exact absurd hok (by decide +kernel)
    · exact absurd hok (by decide +kernel)
    · exact absurd hok (by decide +kernel)
    · exact doc_to (doc_front false false false dst base 15 32 hd hb (by omega) (by omega) rfl (show ((rexL false dst base false ++ [15,182]) ++ memL dst base disp) ++ t=_ by simp [memL]) fun l s=>zc_182 hd hb hD) hf
    · exact doc_to (doc_front false false true src base 136 32 hs hb (by omega) (by omega) rfl (show ((([] ++ rexL false src base true) ++ [136]) ++ memL src base disp) ++ t=_ by simp [memL]) fun l s=>zc_136 hs hb hD) hf
    · exact doc_to (doc_front false false false 0 0 235 32 (by decide) (by decide) (by omega) (by omega) rfl (show ([235,imm % 256]) ++ t=_ by simp [rexL,rexN,memL]) fun l s=>zc_235 (h1 (.inl (by decide)) rfl)) hf
    · exact doc_to (doc_front false false false 0 0 (112 + cc) 32 (by decide) (by decide) (by have:=hc (.inr (by decide));omega) (by have:=hc (.inr (by decide));omega) rfl (show ([112 + cc,imm % 256]) ++ t=_ by simp [rexL,rexN,memL]) fun l s=>zc_112 (hc (.inr (by decide))) (h1 (.inr (by decide)) rfl)) hf
    · exact absurd hok (by decide +kernel)
    · exact absurd hok (by decide +kernel)
  case inr.inr.inl=>
    obtain ⟨op,wd,dst,src,base,disp,imm,cc⟩:=x
    simp only at hw ho hd hs hb hc hi hok hD hI h1
    subst hw
    obtain rfl | rfl | rfl | rfl | rfl | rfl | rfl | rfl | rfl | rfl | rfl | rfl | rfl | rfl | rfl | rfl | rfl | rfl | rfl | rfl | rfl | rfl | rfl | rfl | rfl | rfl | rfl | rfl | rfl | rfl | rfl | rfl:=lt32 ho
    · exact absurd hok (by decide +kernel)
    · exact absurd hok (by decide +kernel)
    · exact absurd hok (by decide +kernel)
    · exact absurd hok (by decide +kernel)
    · exact absurd hok (by decide +kernel)
    · exact absurd hok (by decide +kernel)
    · exact absurd hok (by decide +kernel)
    · exact absurd hok (by decide +kernel)
    · exact absurd hok (by decide +kernel)
    · exact absurd hok (by decide +kernel)
    · exact absurd hok (by decide +kernel)
    · exact absurd hok (by decide +kernel)
    · exact absurd hok (by decide +kernel)
    · exact absurd hok (by decide +kernel)
    · exact absurd hok (by decide +kernel)
    · exact absurd hok (by decide +kernel)
    · exact absurd hok (by decide +kernel)
    · exact absurd hok (by decide +kernel)
    · exact absurd hok (by decide +kernel)
    · exact absurd hok (by decide +kernel)
    · exact absurd hok (by decide +kernel)
    · exact absurd hok (by decide +kernel)
    · exact absurd hok (by decide +kernel)
    · exact absurd hok (by decide +kernel)
    · exact absurd hok (by decide +kernel)
    · exact absurd hok (by decide +kernel)
    · exact doc_to (doc_front false false false dst base 15 32 hd hb (by omega) (by omega) rfl (show ((rexL false dst base false ++ [15,183]) ++ memL dst base disp) ++ t=_ by simp [memL]) fun l s=>zc_183 hd hb hD) hf
    · exact doc_to (doc_front true false false src base 137 32 hs hb (by omega) (by omega) rfl (show ((([102] ++ rexL false src base false) ++ [137]) ++ memL src base disp) ++ t=_ by simp [memL]) fun l s=>zc_137 true 32 16 rfl hs hb hD) hf
    · exact absurd hok (by decide +kernel)
    · exact absurd hok (by decide +kernel)
    · exact absurd hok (by decide +kernel)
    · exact absurd hok (by decide +kernel)
  case inr.inr.inr.inl=>
    obtain ⟨op,wd,dst,src,base,disp,imm,cc⟩:=x
    simp only at hw ho hd hs hb hc hi hok hD hI h1
    subst hw
    obtain rfl | rfl | rfl | rfl | rfl | rfl | rfl | rfl | rfl | rfl | rfl | rfl | rfl | rfl | rfl | rfl | rfl | rfl | rfl | rfl | rfl | rfl | rfl | rfl | rfl | rfl | rfl | rfl | rfl | rfl | rfl | rfl:=lt32 ho
    · exact doc_to (doc_front false false false src dst 137 32 hs hd (by omega) (by omega) rfl (show (rexL false src dst false ++ [137,opI 192 src dst]) ++ t=_ by simp [memL]) fun l s=>zc_two 137 0 (by decide) hs hd) hf
    · exact doc_to (doc_front false false false 0 dst (184 + dst % 8) 32 (by decide) hd (by omega) (by omega) rfl (show ((rexL false 0 dst false ++ [184 + dst % 8]) ++ numL imm 4) ++ t=_ by simp [memL]) fun l s=>zc_184 hd hI) hf
    · exact doc_to (doc_front false false false src dst 1 32 hs hd (by omega) (by omega) rfl (show (rexL false src dst false ++ [1,opI 192 src dst]) ++ t=_ by simp [memL]) fun l s=>zc_two 1 2 (by decide) hs hd) hf
    · exact doc_to (doc_front false false false src dst 9 32 hs hd (by omega) (by omega) rfl (show (rexL false src dst false ++ [9,opI 192 src dst]) ++ t=_ by simp [memL]) fun l s=>zc_two 9 3 (by decide) hs hd) hf
    · exact doc_to (doc_front false false false src dst 33 32 hs hd (by omega) (by omega) rfl (show (rexL false src dst false ++ [33,opI 192 src dst]) ++ t=_ by simp [memL]) fun l s=>zc_two 33 4 (by decide) hs hd) hf
    · exact doc_to (doc_front false false false src dst 41 32 hs hd (by omega) (by omega) rfl (show (rexL false src dst false ++ [41,opI 192 src dst]) ++ t=_ by simp [memL]) fun l s=>zc_two 41 5 (by decide) hs hd) hf
    · exact doc_to (doc_front false false false src dst 49 32 hs hd (by omega) (by omega) rfl (show (rexL false src dst false ++ [49,opI 192 src dst]) ++ t=_ by simp [memL]) fun l s=>zc_two 49 6 (by decide) hs hd) hf
    · exact doc_to (doc_front false false false src dst 57 32 hs hd (by omega) (by omega) rfl (show (rexL false src dst false ++ [57,opI 192 src dst]) ++ t=_ by simp [memL]) fun l s=>zc_two 57 7 (by decide) hs hd) hf
    · exact doc_to (doc_front false false false src dst 133 32 hs hd (by omega) (by omega) rfl (show (rexL false src dst false ++ [133,opI 192 src dst]) ++ t=_ by simp [memL]) fun l s=>zc_two 133 8 (by decide) hs hd) hf
    · exact doc_to (doc_front false false false 0 dst 129 32 (by decide) hd (by omega) (by omega) rfl (show (((rexL false 0 dst false ++ [129]) ++ [opI 192 0 dst]) ++ numL imm 4) ++ t=_ by simp [memL]) fun l s=>zc_g4 129 (by decide) (show grpI 129 0=9 by decide +kernel) (by decide) hd hI) hf
    · exact doc_to (doc_front false false false 1 dst 129 32 (by decide) hd (by omega) (by omega) rfl (show (((rexL false 1 dst false ++ [129]) ++ [opI 192 1 dst]) ++ numL imm 4) ++ t=_ by simp [memL]) fun l s=>zc_g4 129 (by decide) (show grpI 129 1=10 by decide +kernel) (by decide) hd hI) hf
    · exact doc_to (doc_front false false false 4 dst 129 32 (by decide) hd (by omega) (by omega) rfl (show (((rexL false 4 dst false ++ [129]) ++ [opI 192 4 dst]) ++ numL imm 4) ++ t=_ by simp [memL]) fun l s=>zc_g4 129 (by decide) (show grpI 129 4=11 by decide +kernel) (by decide) hd hI) hf
    · exact doc_to (doc_front false false false 5 dst 129 32 (by decide) hd (by omega) (by omega) rfl (show (((rexL false 5 dst false ++ [129]) ++ [opI 192 5 dst]) ++ numL imm 4) ++ t=_ by simp [memL]) fun l s=>zc_g4 129 (by decide) (show grpI 129 5=12 by decide +kernel) (by decide) hd hI) hf
    · exact doc_to (doc_front false false false 6 dst 129 32 (by decide) hd (by omega) (by omega) rfl (show (((rexL false 6 dst false ++ [129]) ++ [opI 192 6 dst]) ++ numL imm 4) ++ t=_ by simp [memL]) fun l s=>zc_g4 129 (by decide) (show grpI 129 6=13 by decide +kernel) (by decide) hd hI) hf
    · exact doc_to (doc_front false false false 7 dst 129 32 (by decide) hd (by omega) (by omega) rfl (show (((rexL false 7 dst false ++ [129]) ++ [opI 192 7 dst]) ++ numL imm 4) ++ t=_ by simp [memL]) fun l s=>zc_g4 129 (by decide) (show grpI 129 7=14 by decide +kernel) (by decide) hd hI) hf
    · exact doc_to (doc_front false false false 0 dst 247 32 (by decide) hd (by omega) (by omega) rfl (show (((rexL false 0 dst false ++ [247]) ++ [opI 192 0 dst]) ++ numL imm 4) ++ t=_ by simp [memL]) fun l s=>zc_g4 247 (by decide) (show grpI 247 0=15 by decide +kernel) (by decide) hd hI) hf
    · exact doc_to (doc_front false false false dst src 15 32 hd hs (by omega) (by omega) rfl (show (rexL false dst src false ++ [15,175,opI 192 dst src]) ++ t=_ by simp [memL]) fun l s=>zc_175 hd hs) hf
    · exact doc_to (doc_front false false false 4 dst 193 32 (by decide) hd (by omega) (by omega) rfl (show (rexL false 4 dst false ++ [193,opI 192 4 dst,imm]) ++ t=_ by simp [memL]) fun l s=>zc_193 (imm:=imm) (show grpI 193 4=17 by decide +kernel) (by decide) (by decide) hd) hf
    · exact doc_to (doc_front false false false 5 dst 193 32 (by decide) hd (by omega) (by omega) rfl (show (rexL false 5 dst false ++ [193,opI 192 5 dst,imm]) ++ t=_ by simp [memL]) fun l s=>zc_193 (imm:=imm) (show grpI 193 5=18 by decide +kernel) (by decide) (by decide) hd) hf
    · exact doc_to (doc_front false false false 7 dst 193 32 (by decide) hd (by omega) (by omega) rfl (show (rexL false 7 dst false ++ [193,opI 192 7 dst,imm]) ++ t=_ by simp [memL]) fun l s=>zc_193 (imm:=imm) (show grpI 193 7=19 by decide +kernel) (by decide) (by decide) hd) hf
    · exact doc_to (doc_front false false false 4 dst 211 32 (by decide) hd (by omega) (by omega) rfl (show (rexL false 4 dst false ++ [211,opI 192 4 dst]) ++ t=_ by simp [memL]) fun l s=>zc_g0 211 (by decide) (show grpI 211 4=20 by decide +kernel) (by decide) (by decide) hd) hf
    · exact doc_to (doc_front false false false 5 dst 211 32 (by decide) hd (by omega) (by omega) rfl (show (rexL false 5 dst false ++ [211,opI 192 5 dst]) ++ t=_ by simp [memL]) fun l s=>zc_g0 211 (by decide) (show grpI 211 5=21 by decide +kernel) (by decide) (by decide) hd) hf
    · exact doc_to (doc_front false false false 7 dst 211 32 (by decide) hd (by omega) (by omega) rfl (show (rexL false 7 dst false ++ [211,opI 192 7 dst]) ++ t=_ by simp [memL]) fun l s=>zc_g0 211 (by decide) (show grpI 211 7=22 by decide +kernel) (by decide) (by decide) hd) hf
    · exact doc_to (doc_front false false false 3 dst 247 32 (by decide) hd (by omega) (by omega) rfl (show (rexL false 3 dst false ++ [247,opI 192 3 dst]) ++ t=_ by simp [memL]) fun l s=>zc_g0 247 (by decide) (show grpI 247 3=23 by decide +kernel) (by decide) (by decide) hd) hf
    · exact doc_to (doc_front false false false 6 dst 247 32 (by decide) hd (by omega) (by omega) rfl (show (rexL false 6 dst false ++ [247,opI 192 6 dst]) ++ t=_ by simp [memL]) fun l s=>zc_g0 247 (by decide) (show grpI 247 6=24 by decide +kernel) (by decide) (by decide) hd) hf
    · exact doc_to (doc_front false false false dst src 15 32 hd hs (by omega) (by omega) rfl (show (rexL false dst src false ++ [15,64 + cc,opI 192 dst src]) ++ t=_ by simp [memL]) fun l s=>zc_64 (hc (.inl (by decide))) hd hs) hf
    · exact doc_to (doc_front false false false dst base 139 32 hd hb (by omega) (by omega) rfl (show ((rexL false dst base false ++ [139]) ++ memL dst base disp) ++ t=_ by simp [memL]) fun l s=>zc_139 hd hb hD) hf
    · exact doc_to (doc_front false false false src base 137 32 hs hb (by omega) (by omega) rfl (show ((([] ++ rexL false src base false) ++ [137]) ++ memL src base disp) ++ t=_ by simp [memL]) fun l s=>zc_137 false 32 32 rfl hs hb hD) hf
    · exact doc_to (doc_front false false false 0 0 233 32 (by decide) (by decide) (by omega) (by omega) rfl (show ([233] ++ numL imm 4) ++ t=_ by simp [rexL,rexN,memL]) fun l s=>zc_233 hI) hf
    · exact doc_to (doc_front false false false 0 0 15 32 (by decide) (by decide) (by omega) (by omega) rfl (show ([15,128 + cc] ++ numL imm 4) ++ t=_ by simp [rexL,rexN,memL]) fun l s=>zc_128 (hc (.inr (by decide))) hI) hf
    · exact absurd hok (by decide +kernel)
    · exact absurd hok (by decide +kernel)
  case inr.inr.inr.inr.inl=>
    obtain ⟨op,wd,dst,src,base,disp,imm,cc⟩:=x
    simp only at hw ho hd hs hb hc hi hok hD hI h1
    subst hw
    obtain rfl | rfl | rfl | rfl | rfl | rfl | rfl | rfl | rfl | rfl | rfl | rfl | rfl | rfl | rfl | rfl | rfl | rfl | rfl | rfl | rfl | rfl | rfl | rfl | rfl | rfl | rfl | rfl | rfl | rfl | rfl | rfl:=lt32 ho
    · exact doc_to (doc_front false true false src dst 137 64 hs hd (by omega) (by omega) rfl (show (rexL true src dst false ++ [137,opI 192 src dst]) ++ t=_ by simp [memL]) fun l s=>zc_two 137 0 (by decide) hs hd) hf
    · exact doc_to (doc_front false true false 0 dst 199 64 (by decide) hd (by omega) (by omega) rfl (show ((rexL true 0 dst false ++ [199,opI 192 0 dst]) ++ numL imm 4) ++ t=_ by simp [memL]) fun l s=>zc_199 hd hI) hf
    · exact doc_to (doc_front false true false src dst 1 64 hs hd (by omega) (by omega) rfl (show (rexL true src dst false ++ [1,opI 192 src dst]) ++ t=_ by simp [memL]) fun l s=>zc_two 1 2 (by decide) hs hd) hf
    · exact doc_to (doc_front false true false src dst 9 64 hs hd (by omega) (by omega) rfl (show (rexL true src dst false ++ [9,opI 192 src dst]) ++ t=_ by simp [memL]) fun l s=>zc_two 9 3 (by decide) hs hd) hf
    · exact doc_to (doc_front false true false src dst 33 64 hs hd (by omega) (by omega) rfl (show (rexL true src dst false ++ [33,opI 192 src dst]) ++ t=_ by simp [memL]) fun l s=>zc_two 33 4 (by decide) hs hd) hf
    · exact doc_to (doc_front false true false src dst 41 64 hs hd (by omega) (by omega) rfl (show (rexL true src dst false ++ [41,opI 192 src dst]) ++ t=_ by simp [memL]) fun l s=>zc_two 41 5 (by decide) hs hd) hf
    · exact doc_to (doc_front false true false src dst 49 64 hs hd (by omega) (by omega) rfl (show (rexL true src dst false ++ [49,opI 192 src dst]) ++ t=_ by simp [memL]) fun l s=>zc_two 49 6 (by decide) hs hd) hf
    · exact doc_to (doc_front false true false src dst 57 64 hs hd (by omega) (by omega) rfl (show (rexL true src dst false ++ [57,opI 192 src dst]) ++ t=_ by simp [memL]) fun l s=>zc_two 57 7 (by decide) hs hd) hf
    · exact doc_to (doc_front false true false src dst 133 64 hs hd (by omega) (by omega) rfl (show (rexL true src dst false ++ [133,opI 192 src dst]) ++ t=_ by simp [memL]) fun l s=>zc_two 133 8 (by decide) hs hd) hf
    · exact doc_to (doc_front false true false 0 dst 129 64 (by decide) hd (by omega) (by omega) rfl (show (((rexL true 0 dst false ++ [129]) ++ [opI 192 0 dst]) ++ numL imm 4) ++ t=_ by simp [memL]) fun l s=>zc_g4 129 (by decide) (show grpI 129 0=9 by decide +kernel) (by decide) hd hI) hf
    · exact doc_to (doc_front false true false 1 dst 129 64 (by decide) hd (by omega) (by omega) rfl (show (((rexL true 1 dst false ++ [129]) ++ [opI 192 1 dst]) ++ numL imm 4) ++ t=_ by simp [memL]) fun l s=>zc_g4 129 (by decide) (show grpI 129 1=10 by decide +kernel) (by decide) hd hI) hf
    · exact doc_to (doc_front false true false 4 dst 129 64 (by decide) hd (by omega) (by omega) rfl (show (((rexL true 4 dst false ++ [129]) ++ [opI 192 4 dst]) ++ numL imm 4) ++ t=_ by simp [memL]) fun l s=>zc_g4 129 (by decide) (show grpI 129 4=11 by decide +kernel) (by decide) hd hI) hf
    · exact doc_to (doc_front false true false 5 dst 129 64 (by decide) hd (by omega) (by omega) rfl (show (((rexL true 5 dst false ++ [129]) ++ [opI 192 5 dst]) ++ numL imm 4) ++ t=_ by simp [memL]) fun l s=>zc_g4 129 (by decide) (show grpI 129 5=12 by decide +kernel) (by decide) hd hI) hf
    · exact doc_to (doc_front false true false 6 dst 129 64 (by decide) hd (by omega) (by omega) rfl (show (((rexL true 6 dst false ++ [129]) ++ [opI 192 6 dst]) ++ numL imm 4) ++ t=_ by simp [memL]) fun l s=>zc_g4 129 (by decide) (show grpI 129 6=13 by decide +kernel) (by decide) hd hI) hf
    · exact doc_to (doc_front false true false 7 dst 129 64 (by decide) hd (by omega) (by omega) rfl (show (((rexL true 7 dst false ++ [129]) ++ [opI 192 7 dst]) ++ numL imm 4) ++ t=_ by simp [memL]) fun l s=>zc_g4 129 (by decide) (show grpI 129 7=14 by decide +kernel) (by decide) hd hI) hf
    · exact doc_to (doc_front false true false 0 dst 247 64 (by decide) hd (by omega) (by omega) rfl (show (((rexL true 0 dst false ++ [247]) ++ [opI 192 0 dst]) ++ numL imm 4) ++ t=_ by simp [memL]) fun l s=>zc_g4 247 (by decide) (show grpI 247 0=15 by decide +kernel) (by decide) hd hI) hf
    · exact doc_to (doc_front false true false dst src 15 64 hd hs (by omega) (by omega) rfl (show (rexL true dst src false ++ [15,175,opI 192 dst src]) ++ t=_ by simp [memL]) fun l s=>zc_175 hd hs) hf
    · exact doc_to (doc_front false true false 4 dst 193 64 (by decide) hd (by omega) (by omega) rfl (show (rexL true 4 dst false ++ [193,opI 192 4 dst,imm]) ++ t=_ by simp [memL]) fun l s=>zc_193 (imm:=imm) (show grpI 193 4=17 by decide +kernel) (by decide) (by decide) hd) hf
    · exact doc_to (doc_front false true false 5 dst 193 64 (by decide) hd (by omega) (by omega) rfl (show (rexL true 5 dst false ++ [193,opI 192 5 dst,imm]) ++ t=_ by simp [memL]) fun l s=>zc_193 (imm:=imm) (show grpI 193 5=18 by decide +kernel) (by decide) (by decide) hd) hf
    · exact doc_to (doc_front false true false 7 dst 193 64 (by decide) hd (by omega) (by omega) rfl (show (rexL true 7 dst false ++ [193,opI 192 7 dst,imm]) ++ t=_ by simp [memL]) fun l s=>zc_193 (imm:=imm) (show grpI 193 7=19 by decide +kernel) (by decide) (by decide) hd) hf
    · exact doc_to (doc_front false true false 4 dst 211 64 (by decide) hd (by omega) (by omega) rfl (show (rexL true 4 dst false ++ [211,opI 192 4 dst]) ++ t=_ by simp [memL]) fun l s=>zc_g0 211 (by decide) (show grpI 211 4=20 by decide +kernel) (by decide) (by decide) hd) hf
    · exact doc_to (doc_front false true false 5 dst 211 64 (by decide) hd (by omega) (by omega) rfl (show (rexL true 5 dst false ++ [211,opI 192 5 dst]) ++ t=_ by simp [memL]) fun l s=>zc_g0 211 (by decide) (show grpI 211 5=21 by decide +kernel) (by decide) (by decide) hd) hf
    · exact doc_to (doc_front false true false 7 dst 211 64 (by decide) hd (by omega) (by omega) rfl (show (rexL true 7 dst false ++ [211,opI 192 7 dst]) ++ t=_ by simp [memL]) fun l s=>zc_g0 211 (by decide) (show grpI 211 7=22 by decide +kernel) (by decide) (by decide) hd) hf
    · exact doc_to (doc_front false true false 3 dst 247 64 (by decide) hd (by omega) (by omega) rfl (show (rexL true 3 dst false ++ [247,opI 192 3 dst]) ++ t=_ by simp [memL]) fun l s=>zc_g0 247 (by decide) (show grpI 247 3=23 by decide +kernel) (by decide) (by decide) hd) hf
    · exact doc_to (doc_front false true false 6 dst 247 64 (by decide) hd (by omega) (by omega) rfl (show (rexL true 6 dst false ++ [247,opI 192 6 dst]) ++ t=_ by simp [memL]) fun l s=>zc_g0 247 (by decide) (show grpI 247 6=24 by decide +kernel) (by decide) (by decide) hd) hf
    · exact doc_to (doc_front false true false dst src 15 64 hd hs (by omega) (by omega) rfl (show (rexL true dst src false ++ [15,64 + cc,opI 192 dst src]) ++ t=_ by simp [memL]) fun l s=>zc_64 (hc (.inl (by decide))) hd hs) hf
    · exact doc_to (doc_front false true false dst base 139 64 hd hb (by omega) (by omega) rfl (show ((rexL true dst base false ++ [139]) ++ memL dst base disp) ++ t=_ by simp [memL]) fun l s=>zc_139 hd hb hD) hf
    · exact doc_to (doc_front false true false src base 137 64 hs hb (by omega) (by omega) rfl (show ((([] ++ rexL true src base false) ++ [137]) ++ memL src base disp) ++ t=_ by simp [memL]) fun l s=>zc_137 false 64 64 rfl hs hb hD) hf
    · exact absurd hok (by decide +kernel)
    · exact absurd hok (by decide +kernel)
    · exact absurd hok (by decide +kernel)
    · exact absurd hok (by decide +kernel)
end Go.Proofs.YtjhedldplmhmjaaDoor.Mrm
