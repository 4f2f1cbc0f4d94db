import Derived.Test.YtoghjpliemidkaaDoorEXm16
import Derived.Test.YtoghjpliemidkaaDoorEXm05
set_option linter.unusedVariables false
set_option linter.unusedSimpArgs false
set_option linter.unnecessarySimpa false
namespace Go.Proofs.YtoghjpliemidkaaDoor.Mrm
open Go Go.RowKit
set_option linter.unusedVariables false
set_option linter.unusedSimpArgs false
set_option linter.unnecessarySimpa false
set_option maxRecDepth 100000
theorem four_of_one {n:Int} (h:oneB n=true):fourB n=true:=by
  unfold oneB at h;unfold fourB
  simp only [Bool.and_eq_true,decide_eq_true_eq] at h ⊢
  omega
theorem bool_a (e a b c d i:Bool):(e && (a && (b && (c && (true && (i && d))))))=(true && (e && (a && (b && (c && (d && (i && true))))))):=by cases e <;> cases a <;> cases b <;> cases c <;> cases d <;> cases i <;> rfl
theorem bool_c (e a b c d i k:Bool):(e && (a && (b && (c && (!(true && !k) && (i && d))))))=(true && (e && (a && (b && (c && (d && (i && k))))))):=by cases e <;> cases a <;> cases b <;> cases c <;> cases d <;> cases i <;> cases k <;> rfl
theorem bool_n (e a b c d i k m:Bool) (h:e=true → d=true) (h2:m=true → i=true) (hk:k=m):(e && (a && (b && (c && (true && k)))))=(true && (e && (a && (b && (c && (d && (i && m))))))):=by
  subst hk
  cases e <;> cases a <;> cases b <;> cases c <;> cases d <;> cases i <;> cases k <;> first | rfl | (exact absurd (h rfl) (by decide)) | (exact absurd (h2 rfl) (by decide))
theorem bool_nc (e a b c d i k m:Bool) (h:e=true → d=true) (h2:m=true → i=true):(e && (a && (b && (c && (!(true && !k) && m)))))=(true && (e && (a && (b && (c && (d && (i && (m && k)))))))):=by
  cases e <;> cases a <;> cases b <;> cases c <;> cases d <;> cases i <;> cases k <;> cases m <;> first | rfl | (exact absurd (h rfl) (by decide)) | (exact absurd (h2 rfl) (by decide))
theorem disp0 {x:Xi} {a b c d e f g:Int} (h:eqX x ⟨a,b,c,d,e,0,f,g⟩=true):fourB x.disp=true:=by
  rw [eqX_iff] at h
  rw [h]
  rfl
theorem no_or (e r:Bool) (h:e=false):(true && (e && r))=false:=by rw [h];rfl
theorem mp_0_0 (dst src base disp imm cc:Int):mayP ⟨0,0,dst,src,base,disp,imm,cc⟩=mayX ⟨0,0,dst,src,base,disp,imm,cc⟩:=by
  have e:codeOfP 0 0=(zCd,false):=by decide +kernel
  have h1:mayP ⟨0,0,dst,src,base,disp,imm,cc⟩=false:=by unfold mayP;simp only [e,Bool.false_and]
  rw [h1]
  show false=(true && (eqX ⟨0,0,dst,src,base,disp,imm,cc⟩ ⟨0,0,dst,src,0,0,0,0⟩ && (regB dst && (regB src && (regB base && (fourB disp && (fourB imm && clsB 1 ⟨0,0,dst,src,base,disp,imm,cc⟩)))))))
  rw [show clsB 1 ⟨0,0,dst,src,base,disp,imm,cc⟩=false from rfl]
  simp only [Bool.and_false]
theorem mp_0_8 (dst src base disp imm cc:Int):mayP ⟨0,8,dst,src,base,disp,imm,cc⟩=mayX ⟨0,8,dst,src,base,disp,imm,cc⟩:=by
  have e:codeOfP 0 8=(zCd,false):=by decide +kernel
  have h1:mayP ⟨0,8,dst,src,base,disp,imm,cc⟩=false:=by unfold mayP;simp only [e,Bool.false_and]
  rw [h1]
  show false=(true && (eqX ⟨0,8,dst,src,base,disp,imm,cc⟩ ⟨0,8,dst,src,0,0,0,0⟩ && (regB dst && (regB src && (regB base && (fourB disp && (fourB imm && clsB 1 ⟨0,8,dst,src,base,disp,imm,cc⟩)))))))
  rw [show clsB 1 ⟨0,8,dst,src,base,disp,imm,cc⟩=false from rfl]
  simp only [Bool.and_false]
theorem mp_0_16 (dst src base disp imm cc:Int):mayP ⟨0,16,dst,src,base,disp,imm,cc⟩=mayX ⟨0,16,dst,src,base,disp,imm,cc⟩:=by
  have e:codeOfP 0 16=(zCd,false):=by decide +kernel
  have h1:mayP ⟨0,16,dst,src,base,disp,imm,cc⟩=false:=by unfold mayP;simp only [e,Bool.false_and]
  rw [h1]
  show false=(true && (eqX ⟨0,16,dst,src,base,disp,imm,cc⟩ ⟨0,16,dst,src,0,0,0,0⟩ && (regB dst && (regB src && (regB base && (fourB disp && (fourB imm && clsB 1 ⟨0,16,dst,src,base,disp,imm,cc⟩)))))))
  rw [show clsB 1 ⟨0,16,dst,src,base,disp,imm,cc⟩=false from rfl]
  simp only [Bool.and_false]
theorem mp_0_32 (dst src base disp imm cc:Int):mayP ⟨0,32,dst,src,base,disp,imm,cc⟩=mayX ⟨0,32,dst,src,base,disp,imm,cc⟩:=by
  have e:codeOfP 0 32=(⟨1,96,137,0,0⟩,true):=by decide +kernel
  have h1:mayP ⟨0,32,dst,src,base,disp,imm,cc⟩=(eqX ⟨0,32,dst,src,base,disp,imm,cc⟩ ⟨0,32,dst,src,0,0,0,0⟩ && fitsP ⟨0,32,dst,src,base,disp,imm,cc⟩ ⟨1,96,137,0,0⟩):=by unfold mayP;simp only [e,Bool.true_and];rfl
  rw [h1]
  show (eqX ⟨0,32,dst,src,base,disp,imm,cc⟩ ⟨0,32,dst,src,0,0,0,0⟩ && (regB dst && (regB src && (regB base && (true && (fourB imm && fourB disp))))))=(true && (eqX ⟨0,32,dst,src,base,disp,imm,cc⟩ ⟨0,32,dst,src,0,0,0,0⟩ && (regB dst && (regB src && (regB base && (fourB disp && (fourB imm && true)))))))
  exact bool_a _ _ _ _ _ _
theorem mp_0_64 (dst src base disp imm cc:Int):mayP ⟨0,64,dst,src,base,disp,imm,cc⟩=mayX ⟨0,64,dst,src,base,disp,imm,cc⟩:=by
  have e:codeOfP 0 64=(⟨1,96,137,0,0⟩,true):=by decide +kernel
  have h1:mayP ⟨0,64,dst,src,base,disp,imm,cc⟩=(eqX ⟨0,64,dst,src,base,disp,imm,cc⟩ ⟨0,64,dst,src,0,0,0,0⟩ && fitsP ⟨0,64,dst,src,base,disp,imm,cc⟩ ⟨1,96,137,0,0⟩):=by unfold mayP;simp only [e,Bool.true_and];rfl
  rw [h1]
  show (eqX ⟨0,64,dst,src,base,disp,imm,cc⟩ ⟨0,64,dst,src,0,0,0,0⟩ && (regB dst && (regB src && (regB base && (true && (fourB imm && fourB disp))))))=(true && (eqX ⟨0,64,dst,src,base,disp,imm,cc⟩ ⟨0,64,dst,src,0,0,0,0⟩ && (regB dst && (regB src && (regB base && (fourB disp && (fourB imm && true)))))))
  exact bool_a _ _ _ _ _ _
theorem mp_1_0 (dst src base disp imm cc:Int):mayP ⟨1,0,dst,src,base,disp,imm,cc⟩=mayX ⟨1,0,dst,src,base,disp,imm,cc⟩:=by
  have e:codeOfP 1 0=(zCd,false):=by decide +kernel
  have h1:mayP ⟨1,0,dst,src,base,disp,imm,cc⟩=false:=by unfold mayP;simp only [e,Bool.false_and]
  rw [h1]
  show false=(true && (eqX ⟨1,0,dst,src,base,disp,imm,cc⟩ ⟨1,0,dst,0,0,0,imm,0⟩ && (regB dst && (regB src && (regB base && (fourB disp && (fourB imm && clsB 2 ⟨1,0,dst,src,base,disp,imm,cc⟩)))))))
  rw [show clsB 2 ⟨1,0,dst,src,base,disp,imm,cc⟩=false from rfl]
  simp only [Bool.and_false]
theorem mp_1_8 (dst src base disp imm cc:Int):mayP ⟨1,8,dst,src,base,disp,imm,cc⟩=mayX ⟨1,8,dst,src,base,disp,imm,cc⟩:=by
  have e:codeOfP 1 8=(zCd,false):=by decide +kernel
  have h1:mayP ⟨1,8,dst,src,base,disp,imm,cc⟩=false:=by unfold mayP;simp only [e,Bool.false_and]
  rw [h1]
  show false=(true && (eqX ⟨1,8,dst,src,base,disp,imm,cc⟩ ⟨1,8,dst,0,0,0,imm,0⟩ && (regB dst && (regB src && (regB base && (fourB disp && (fourB imm && clsB 2 ⟨1,8,dst,src,base,disp,imm,cc⟩)))))))
  rw [show clsB 2 ⟨1,8,dst,src,base,disp,imm,cc⟩=false from rfl]
  simp only [Bool.and_false]
theorem mp_1_16 (dst src base disp imm cc:Int):mayP ⟨1,16,dst,src,base,disp,imm,cc⟩=mayX ⟨1,16,dst,src,base,disp,imm,cc⟩:=by
  have e:codeOfP 1 16=(zCd,false):=by decide +kernel
  have h1:mayP ⟨1,16,dst,src,base,disp,imm,cc⟩=false:=by unfold mayP;simp only [e,Bool.false_and]
  rw [h1]
  show false=(true && (eqX ⟨1,16,dst,src,base,disp,imm,cc⟩ ⟨1,16,dst,0,0,0,imm,0⟩ && (regB dst && (regB src && (regB base && (fourB disp && (fourB imm && clsB 2 ⟨1,16,dst,src,base,disp,imm,cc⟩)))))))
  rw [show clsB 2 ⟨1,16,dst,src,base,disp,imm,cc⟩=false from rfl]
  simp only [Bool.and_false]
theorem mp_1_32 (dst src base disp imm cc:Int):mayP ⟨1,32,dst,src,base,disp,imm,cc⟩=mayX ⟨1,32,dst,src,base,disp,imm,cc⟩:=by
  have e:codeOfP 1 32=(⟨6,32,184,0,7⟩,true):=by decide +kernel
  have h1:mayP ⟨1,32,dst,src,base,disp,imm,cc⟩=(eqX ⟨1,32,dst,src,base,disp,imm,cc⟩ ⟨1,32,dst,0,0,0,imm,0⟩ && fitsP ⟨1,32,dst,src,base,disp,imm,cc⟩ ⟨6,32,184,0,7⟩):=by unfold mayP;simp only [e,Bool.true_and];rfl
  rw [h1]
  show (eqX ⟨1,32,dst,src,base,disp,imm,cc⟩ ⟨1,32,dst,0,0,0,imm,0⟩ && (regB dst && (regB src && (regB base && (true && (fourB imm && fourB disp))))))=(true && (eqX ⟨1,32,dst,src,base,disp,imm,cc⟩ ⟨1,32,dst,0,0,0,imm,0⟩ && (regB dst && (regB src && (regB base && (fourB disp && (fourB imm && true)))))))
  exact bool_a _ _ _ _ _ _
theorem mp_1_64 (dst src base disp imm cc:Int):mayP ⟨1,64,dst,src,base,disp,imm,cc⟩=mayX ⟨1,64,dst,src,base,disp,imm,cc⟩:=by
  have e:codeOfP 1 64=(⟨3,64,199,0,0⟩,true):=by decide +kernel
  have h1:mayP ⟨1,64,dst,src,base,disp,imm,cc⟩=(eqX ⟨1,64,dst,src,base,disp,imm,cc⟩ ⟨1,64,dst,0,0,0,imm,0⟩ && fitsP ⟨1,64,dst,src,base,disp,imm,cc⟩ ⟨3,64,199,0,0⟩):=by unfold mayP;simp only [e,Bool.true_and];rfl
  rw [h1]
  show (eqX ⟨1,64,dst,src,base,disp,imm,cc⟩ ⟨1,64,dst,0,0,0,imm,0⟩ && (regB dst && (regB src && (regB base && (true && (fourB imm && fourB disp))))))=(true && (eqX ⟨1,64,dst,src,base,disp,imm,cc⟩ ⟨1,64,dst,0,0,0,imm,0⟩ && (regB dst && (regB src && (regB base && (fourB disp && (fourB imm && true)))))))
  exact bool_a _ _ _ _ _ _
theorem mp_2_0 (dst src base disp imm cc:Int):mayP ⟨2,0,dst,src,base,disp,imm,cc⟩=mayX ⟨2,0,dst,src,base,disp,imm,cc⟩:=by
  have e:codeOfP 2 0=(zCd,false):=by decide +kernel
  have h1:mayP ⟨2,0,dst,src,base,disp,imm,cc⟩=false:=by unfold mayP;simp only [e,Bool.false_and]
  rw [h1]
  show false=(true && (eqX ⟨2,0,dst,src,base,disp,imm,cc⟩ ⟨2,0,dst,src,0,0,0,0⟩ && (regB dst && (regB src && (regB base && (fourB disp && (fourB imm && clsB 1 ⟨2,0,dst,src,base,disp,imm,cc⟩)))))))
  rw [show clsB 1 ⟨2,0,dst,src,base,disp,imm,cc⟩=false from rfl]
  simp only [Bool.and_false]
theorem mp_2_8 (dst src base disp imm cc:Int):mayP ⟨2,8,dst,src,base,disp,imm,cc⟩=mayX ⟨2,8,dst,src,base,disp,imm,cc⟩:=by
  have e:codeOfP 2 8=(zCd,false):=by decide +kernel
  have h1:mayP ⟨2,8,dst,src,base,disp,imm,cc⟩=false:=by unfold mayP;simp only [e,Bool.false_and]
  rw [h1]
  show false=(true && (eqX ⟨2,8,dst,src,base,disp,imm,cc⟩ ⟨2,8,dst,src,0,0,0,0⟩ && (regB dst && (regB src && (regB base && (fourB disp && (fourB imm && clsB 1 ⟨2,8,dst,src,base,disp,imm,cc⟩)))))))
  rw [show clsB 1 ⟨2,8,dst,src,base,disp,imm,cc⟩=false from rfl]
  simp only [Bool.and_false]
theorem mp_2_16 (dst src base disp imm cc:Int):mayP ⟨2,16,dst,src,base,disp,imm,cc⟩=mayX ⟨2,16,dst,src,base,disp,imm,cc⟩:=by
  have e:codeOfP 2 16=(zCd,false):=by decide +kernel
  have h1:mayP ⟨2,16,dst,src,base,disp,imm,cc⟩=false:=by unfold mayP;simp only [e,Bool.false_and]
  rw [h1]
  show false=(true && (eqX ⟨2,16,dst,src,base,disp,imm,cc⟩ ⟨2,16,dst,src,0,0,0,0⟩ && (regB dst && (regB src && (regB base && (fourB disp && (fourB imm && clsB 1 ⟨2,16,dst,src,base,disp,imm,cc⟩)))))))
  rw [show clsB 1 ⟨2,16,dst,src,base,disp,imm,cc⟩=false from rfl]
  simp only [Bool.and_false]
theorem mp_2_32 (dst src base disp imm cc:Int):mayP ⟨2,32,dst,src,base,disp,imm,cc⟩=mayX ⟨2,32,dst,src,base,disp,imm,cc⟩:=by
  have e:codeOfP 2 32=(⟨1,96,1,0,0⟩,true):=by decide +kernel
  have h1:mayP ⟨2,32,dst,src,base,disp,imm,cc⟩=(eqX ⟨2,32,dst,src,base,disp,imm,cc⟩ ⟨2,32,dst,src,0,0,0,0⟩ && fitsP ⟨2,32,dst,src,base,disp,imm,cc⟩ ⟨1,96,1,0,0⟩):=by unfold mayP;simp only [e,Bool.true_and];rfl
  rw [h1]
  show (eqX ⟨2,32,dst,src,base,disp,imm,cc⟩ ⟨2,32,dst,src,0,0,0,0⟩ && (regB dst && (regB src && (regB base && (true && (fourB imm && fourB disp))))))=(true && (eqX ⟨2,32,dst,src,base,disp,imm,cc⟩ ⟨2,32,dst,src,0,0,0,0⟩ && (regB dst && (regB src && (regB base && (fourB disp && (fourB imm && true)))))))
  exact bool_a _ _ _ _ _ _
theorem mp_2_64 (dst src base disp imm cc:Int):mayP ⟨2,64,dst,src,base,disp,imm,cc⟩=mayX ⟨2,64,dst,src,base,disp,imm,cc⟩:=by
  have e:codeOfP 2 64=(⟨1,96,1,0,0⟩,true):=by decide +kernel
  have h1:mayP ⟨2,64,dst,src,base,disp,imm,cc⟩=(eqX ⟨2,64,dst,src,base,disp,imm,cc⟩ ⟨2,64,dst,src,0,0,0,0⟩ && fitsP ⟨2,64,dst,src,base,disp,imm,cc⟩ ⟨1,96,1,0,0⟩):=by unfold mayP;simp only [e,Bool.true_and];rfl
  rw [h1]
  show (eqX ⟨2,64,dst,src,base,disp,imm,cc⟩ ⟨2,64,dst,src,0,0,0,0⟩ && (regB dst && (regB src && (regB base && (true && (fourB imm && fourB disp))))))=(true && (eqX ⟨2,64,dst,src,base,disp,imm,cc⟩ ⟨2,64,dst,src,0,0,0,0⟩ && (regB dst && (regB src && (regB base && (fourB disp && (fourB imm && true)))))))
  exact bool_a _ _ _ _ _ _
theorem mp_3_0 (dst src base disp imm cc:Int):mayP ⟨3,0,dst,src,base,disp,imm,cc⟩=mayX ⟨3,0,dst,src,base,disp,imm,cc⟩:=by
  have e:codeOfP 3 0=(zCd,false):=by decide +kernel
  have h1:mayP ⟨3,0,dst,src,base,disp,imm,cc⟩=false:=by unfold mayP;simp only [e,Bool.false_and]
  rw [h1]
  show false=(true && (eqX ⟨3,0,dst,src,base,disp,imm,cc⟩ ⟨3,0,dst,src,0,0,0,0⟩ && (regB dst && (regB src && (regB base && (fourB disp && (fourB imm && clsB 1 ⟨3,0,dst,src,base,disp,imm,cc⟩)))))))
  rw [show clsB 1 ⟨3,0,dst,src,base,disp,imm,cc⟩=false from rfl]
  simp only [Bool.and_false]
theorem mp_3_8 (dst src base disp imm cc:Int):mayP ⟨3,8,dst,src,base,disp,imm,cc⟩=mayX ⟨3,8,dst,src,base,disp,imm,cc⟩:=by
  have e:codeOfP 3 8=(zCd,false):=by decide +kernel
  have h1:mayP ⟨3,8,dst,src,base,disp,imm,cc⟩=false:=by unfold mayP;simp only [e,Bool.false_and]
  rw [h1]
  show false=(true && (eqX ⟨3,8,dst,src,base,disp,imm,cc⟩ ⟨3,8,dst,src,0,0,0,0⟩ && (regB dst && (regB src && (regB base && (fourB disp && (fourB imm && clsB 1 ⟨3,8,dst,src,base,disp,imm,cc⟩)))))))
  rw [show clsB 1 ⟨3,8,dst,src,base,disp,imm,cc⟩=false from rfl]
  simp only [Bool.and_false]
theorem mp_3_16 (dst src base disp imm cc:Int):mayP ⟨3,16,dst,src,base,disp,imm,cc⟩=mayX ⟨3,16,dst,src,base,disp,imm,cc⟩:=by
  have e:codeOfP 3 16=(zCd,false):=by decide +kernel
  have h1:mayP ⟨3,16,dst,src,base,disp,imm,cc⟩=false:=by unfold mayP;simp only [e,Bool.false_and]
  rw [h1]
  show false=(true && (eqX ⟨3,16,dst,src,base,disp,imm,cc⟩ ⟨3,16,dst,src,0,0,0,0⟩ && (regB dst && (regB src && (regB base && (fourB disp && (fourB imm && clsB 1 ⟨3,16,dst,src,base,disp,imm,cc⟩)))))))
  rw [show clsB 1 ⟨3,16,dst,src,base,disp,imm,cc⟩=false from rfl]
  simp only [Bool.and_false]
theorem mp_3_32 (dst src base disp imm cc:Int):mayP ⟨3,32,dst,src,base,disp,imm,cc⟩=mayX ⟨3,32,dst,src,base,disp,imm,cc⟩:=by
  have e:codeOfP 3 32=(⟨1,96,9,0,0⟩,true):=by decide +kernel
  have h1:mayP ⟨3,32,dst,src,base,disp,imm,cc⟩=(eqX ⟨3,32,dst,src,base,disp,imm,cc⟩ ⟨3,32,dst,src,0,0,0,0⟩ && fitsP ⟨3,32,dst,src,base,disp,imm,cc⟩ ⟨1,96,9,0,0⟩):=by unfold mayP;simp only [e,Bool.true_and];rfl
  rw [h1]
  show (eqX ⟨3,32,dst,src,base,disp,imm,cc⟩ ⟨3,32,dst,src,0,0,0,0⟩ && (regB dst && (regB src && (regB base && (true && (fourB imm && fourB disp))))))=(true && (eqX ⟨3,32,dst,src,base,disp,imm,cc⟩ ⟨3,32,dst,src,0,0,0,0⟩ && (regB dst && (regB src && (regB base && (fourB disp && (fourB imm && true)))))))
  exact bool_a _ _ _ _ _ _
theorem mp_3_64 (dst src base disp imm cc:Int):mayP ⟨3,64,dst,src,base,disp,imm,cc⟩=mayX ⟨3,64,dst,src,base,disp,imm,cc⟩:=by
  have e:codeOfP 3 64=(⟨1,96,9,0,0⟩,true):=by decide +kernel
  have h1:mayP ⟨3,64,dst,src,base,disp,imm,cc⟩=(eqX ⟨3,64,dst,src,base,disp,imm,cc⟩ ⟨3,64,dst,src,0,0,0,0⟩ && fitsP ⟨3,64,dst,src,base,disp,imm,cc⟩ ⟨1,96,9,0,0⟩):=by unfold mayP;simp only [e,Bool.true_and];rfl
  rw [h1]
  show (eqX ⟨3,64,dst,src,base,disp,imm,cc⟩ ⟨3,64,dst,src,0,0,0,0⟩ && (regB dst && (regB src && (regB base && (true && (fourB imm && fourB disp))))))=(true && (eqX ⟨3,64,dst,src,base,disp,imm,cc⟩ ⟨3,64,dst,src,0,0,0,0⟩ && (regB dst && (regB src && (regB base && (fourB disp && (fourB imm && true)))))))
  exact bool_a _ _ _ _ _ _
theorem mp_4_0 (dst src base disp imm cc:Int):mayP ⟨4,0,dst,src,base,disp,imm,cc⟩=mayX ⟨4,0,dst,src,base,disp,imm,cc⟩:=by
  have e:codeOfP 4 0=(zCd,false):=by decide +kernel
  have h1:mayP ⟨4,0,dst,src,base,disp,imm,cc⟩=false:=by unfold mayP;simp only [e,Bool.false_and]
  rw [h1]
  show false=(true && (eqX ⟨4,0,dst,src,base,disp,imm,cc⟩ ⟨4,0,dst,src,0,0,0,0⟩ && (regB dst && (regB src && (regB base && (fourB disp && (fourB imm && clsB 1 ⟨4,0,dst,src,base,disp,imm,cc⟩)))))))
  rw [show clsB 1 ⟨4,0,dst,src,base,disp,imm,cc⟩=false from rfl]
  simp only [Bool.and_false]
theorem mp_4_8 (dst src base disp imm cc:Int):mayP ⟨4,8,dst,src,base,disp,imm,cc⟩=mayX ⟨4,8,dst,src,base,disp,imm,cc⟩:=by
  have e:codeOfP 4 8=(zCd,false):=by decide +kernel
  have h1:mayP ⟨4,8,dst,src,base,disp,imm,cc⟩=false:=by unfold mayP;simp only [e,Bool.false_and]
  rw [h1]
  show false=(true && (eqX ⟨4,8,dst,src,base,disp,imm,cc⟩ ⟨4,8,dst,src,0,0,0,0⟩ && (regB dst && (regB src && (regB base && (fourB disp && (fourB imm && clsB 1 ⟨4,8,dst,src,base,disp,imm,cc⟩)))))))
  rw [show clsB 1 ⟨4,8,dst,src,base,disp,imm,cc⟩=false from rfl]
  simp only [Bool.and_false]
theorem mp_4_16 (dst src base disp imm cc:Int):mayP ⟨4,16,dst,src,base,disp,imm,cc⟩=mayX ⟨4,16,dst,src,base,disp,imm,cc⟩:=by
  have e:codeOfP 4 16=(zCd,false):=by decide +kernel
  have h1:mayP ⟨4,16,dst,src,base,disp,imm,cc⟩=false:=by unfold mayP;simp only [e,Bool.false_and]
  rw [h1]
  show false=(true && (eqX ⟨4,16,dst,src,base,disp,imm,cc⟩ ⟨4,16,dst,src,0,0,0,0⟩ && (regB dst && (regB src && (regB base && (fourB disp && (fourB imm && clsB 1 ⟨4,16,dst,src,base,disp,imm,cc⟩)))))))
  rw [show clsB 1 ⟨4,16,dst,src,base,disp,imm,cc⟩=false from rfl]
  simp only [Bool.and_false]
theorem mp_4_32 (dst src base disp imm cc:Int):mayP ⟨4,32,dst,src,base,disp,imm,cc⟩=mayX ⟨4,32,dst,src,base,disp,imm,cc⟩:=by
  have e:codeOfP 4 32=(⟨1,96,33,0,0⟩,true):=by decide +kernel
  have h1:mayP ⟨4,32,dst,src,base,disp,imm,cc⟩=(eqX ⟨4,32,dst,src,base,disp,imm,cc⟩ ⟨4,32,dst,src,0,0,0,0⟩ && fitsP ⟨4,32,dst,src,base,disp,imm,cc⟩ ⟨1,96,33,0,0⟩):=by unfold mayP;simp only [e,Bool.true_and];rfl
  rw [h1]
  show (eqX ⟨4,32,dst,src,base,disp,imm,cc⟩ ⟨4,32,dst,src,0,0,0,0⟩ && (regB dst && (regB src && (regB base && (true && (fourB imm && fourB disp))))))=(true && (eqX ⟨4,32,dst,src,base,disp,imm,cc⟩ ⟨4,32,dst,src,0,0,0,0⟩ && (regB dst && (regB src && (regB base && (fourB disp && (fourB imm && true)))))))
  exact bool_a _ _ _ _ _ _
theorem mp_4_64 (dst src base disp imm cc:Int):mayP ⟨4,64,dst,src,base,disp,imm,cc⟩=mayX ⟨4,64,dst,src,base,disp,imm,cc⟩:=by
  have e:codeOfP 4 64=(⟨1,96,33,0,0⟩,true):=by decide +kernel
  have h1:mayP ⟨4,64,dst,src,base,disp,imm,cc⟩=(eqX ⟨4,64,dst,src,base,disp,imm,cc⟩ ⟨4,64,dst,src,0,0,0,0⟩ && fitsP ⟨4,64,dst,src,base,disp,imm,cc⟩ ⟨1,96,33,0,0⟩):=by unfold mayP;simp only [e,Bool.true_and];rfl
  rw [h1]
  show (eqX ⟨4,64,dst,src,base,disp,imm,cc⟩ ⟨4,64,dst,src,0,0,0,0⟩ && (regB dst && (regB src && (regB base && (true && (fourB imm && fourB disp))))))=(true && (eqX ⟨4,64,dst,src,base,disp,imm,cc⟩ ⟨4,64,dst,src,0,0,0,0⟩ && (regB dst && (regB src && (regB base && (fourB disp && (fourB imm && true)))))))
  exact bool_a _ _ _ _ _ _
theorem mp_5_0 (dst src base disp imm cc:Int):mayP ⟨5,0,dst,src,base,disp,imm,cc⟩=mayX ⟨5,0,dst,src,base,disp,imm,cc⟩:=by
  have e:codeOfP 5 0=(zCd,false):=by decide +kernel
  have h1:mayP ⟨5,0,dst,src,base,disp,imm,cc⟩=false:=by unfold mayP;simp only [e,Bool.false_and]
  rw [h1]
  show false=(true && (eqX ⟨5,0,dst,src,base,disp,imm,cc⟩ ⟨5,0,dst,src,0,0,0,0⟩ && (regB dst && (regB src && (regB base && (fourB disp && (fourB imm && clsB 1 ⟨5,0,dst,src,base,disp,imm,cc⟩)))))))
  rw [show clsB 1 ⟨5,0,dst,src,base,disp,imm,cc⟩=false from rfl]
  simp only [Bool.and_false]
theorem mp_5_8 (dst src base disp imm cc:Int):mayP ⟨5,8,dst,src,base,disp,imm,cc⟩=mayX ⟨5,8,dst,src,base,disp,imm,cc⟩:=by
  have e:codeOfP 5 8=(zCd,false):=by decide +kernel
  have h1:mayP ⟨5,8,dst,src,base,disp,imm,cc⟩=false:=by unfold mayP;simp only [e,Bool.false_and]
  rw [h1]
  show false=(true && (eqX ⟨5,8,dst,src,base,disp,imm,cc⟩ ⟨5,8,dst,src,0,0,0,0⟩ && (regB dst && (regB src && (regB base && (fourB disp && (fourB imm && clsB 1 ⟨5,8,dst,src,base,disp,imm,cc⟩)))))))
  rw [show clsB 1 ⟨5,8,dst,src,base,disp,imm,cc⟩=false from rfl]
  simp only [Bool.and_false]
theorem mp_5_16 (dst src base disp imm cc:Int):mayP ⟨5,16,dst,src,base,disp,imm,cc⟩=mayX ⟨5,16,dst,src,base,disp,imm,cc⟩:=by
  have e:codeOfP 5 16=(zCd,false):=by decide +kernel
  have h1:mayP ⟨5,16,dst,src,base,disp,imm,cc⟩=false:=by unfold mayP;simp only [e,Bool.false_and]
  rw [h1]
  show false=(true && (eqX ⟨5,16,dst,src,base,disp,imm,cc⟩ ⟨5,16,dst,src,0,0,0,0⟩ && (regB dst && (regB src && (regB base && (fourB disp && (fourB imm && clsB 1 ⟨5,16,dst,src,base,disp,imm,cc⟩)))))))
  rw [show clsB 1 ⟨5,16,dst,src,base,disp,imm,cc⟩=false from rfl]
  simp only [Bool.and_false]
theorem mp_5_32 (dst src base disp imm cc:Int):mayP ⟨5,32,dst,src,base,disp,imm,cc⟩=mayX ⟨5,32,dst,src,base,disp,imm,cc⟩:=by
  have e:codeOfP 5 32=(⟨1,96,41,0,0⟩,true):=by decide +kernel
  have h1:mayP ⟨5,32,dst,src,base,disp,imm,cc⟩=(eqX ⟨5,32,dst,src,base,disp,imm,cc⟩ ⟨5,32,dst,src,0,0,0,0⟩ && fitsP ⟨5,32,dst,src,base,disp,imm,cc⟩ ⟨1,96,41,0,0⟩):=by unfold mayP;simp only [e,Bool.true_and];rfl
  rw [h1]
  show (eqX ⟨5,32,dst,src,base,disp,imm,cc⟩ ⟨5,32,dst,src,0,0,0,0⟩ && (regB dst && (regB src && (regB base && (true && (fourB imm && fourB disp))))))=(true && (eqX ⟨5,32,dst,src,base,disp,imm,cc⟩ ⟨5,32,dst,src,0,0,0,0⟩ && (regB dst && (regB src && (regB base && (fourB disp && (fourB imm && true)))))))
  exact bool_a _ _ _ _ _ _
theorem mp_5_64 (dst src base disp imm cc:Int):mayP ⟨5,64,dst,src,base,disp,imm,cc⟩=mayX ⟨5,64,dst,src,base,disp,imm,cc⟩:=by
  have e:codeOfP 5 64=(⟨1,96,41,0,0⟩,true):=by decide +kernel
  have h1:mayP ⟨5,64,dst,src,base,disp,imm,cc⟩=(eqX ⟨5,64,dst,src,base,disp,imm,cc⟩ ⟨5,64,dst,src,0,0,0,0⟩ && fitsP ⟨5,64,dst,src,base,disp,imm,cc⟩ ⟨1,96,41,0,0⟩):=by unfold mayP;simp only [e,Bool.true_and];rfl
  rw [h1]
  show (eqX ⟨5,64,dst,src,base,disp,imm,cc⟩ ⟨5,64,dst,src,0,0,0,0⟩ && (regB dst && (regB src && (regB base && (true && (fourB imm && fourB disp))))))=(true && (eqX ⟨5,64,dst,src,base,disp,imm,cc⟩ ⟨5,64,dst,src,0,0,0,0⟩ && (regB dst && (regB src && (regB base && (fourB disp && (fourB imm && true)))))))
  exact bool_a _ _ _ _ _ _
theorem mp_6_0 (dst src base disp imm cc:Int):mayP ⟨6,0,dst,src,base,disp,imm,cc⟩=mayX ⟨6,0,dst,src,base,disp,imm,cc⟩:=by
  have e:codeOfP 6 0=(zCd,false):=by decide +kernel
  have h1:mayP ⟨6,0,dst,src,base,disp,imm,cc⟩=false:=by unfold mayP;simp only [e,Bool.false_and]
  rw [h1]
  show false=(true && (eqX ⟨6,0,dst,src,base,disp,imm,cc⟩ ⟨6,0,dst,src,0,0,0,0⟩ && (regB dst && (regB src && (regB base && (fourB disp && (fourB imm && clsB 1 ⟨6,0,dst,src,base,disp,imm,cc⟩)))))))
  rw [show clsB 1 ⟨6,0,dst,src,base,disp,imm,cc⟩=false from rfl]
  simp only [Bool.and_false]
theorem mp_6_8 (dst src base disp imm cc:Int):mayP ⟨6,8,dst,src,base,disp,imm,cc⟩=mayX ⟨6,8,dst,src,base,disp,imm,cc⟩:=by
  have e:codeOfP 6 8=(zCd,false):=by decide +kernel
  have h1:mayP ⟨6,8,dst,src,base,disp,imm,cc⟩=false:=by unfold mayP;simp only [e,Bool.false_and]
  rw [h1]
  show false=(true && (eqX ⟨6,8,dst,src,base,disp,imm,cc⟩ ⟨6,8,dst,src,0,0,0,0⟩ && (regB dst && (regB src && (regB base && (fourB disp && (fourB imm && clsB 1 ⟨6,8,dst,src,base,disp,imm,cc⟩)))))))
  rw [show clsB 1 ⟨6,8,dst,src,base,disp,imm,cc⟩=false from rfl]
  simp only [Bool.and_false]
theorem mp_6_16 (dst src base disp imm cc:Int):mayP ⟨6,16,dst,src,base,disp,imm,cc⟩=mayX ⟨6,16,dst,src,base,disp,imm,cc⟩:=by
  have e:codeOfP 6 16=(zCd,false):=by decide +kernel
  have h1:mayP ⟨6,16,dst,src,base,disp,imm,cc⟩=false:=by unfold mayP;simp only [e,Bool.false_and]
  rw [h1]
  show false=(true && (eqX ⟨6,16,dst,src,base,disp,imm,cc⟩ ⟨6,16,dst,src,0,0,0,0⟩ && (regB dst && (regB src && (regB base && (fourB disp && (fourB imm && clsB 1 ⟨6,16,dst,src,base,disp,imm,cc⟩)))))))
  rw [show clsB 1 ⟨6,16,dst,src,base,disp,imm,cc⟩=false from rfl]
  simp only [Bool.and_false]
theorem mp_6_32 (dst src base disp imm cc:Int):mayP ⟨6,32,dst,src,base,disp,imm,cc⟩=mayX ⟨6,32,dst,src,base,disp,imm,cc⟩:=by
  have e:codeOfP 6 32=(⟨1,96,49,0,0⟩,true):=by decide +kernel
  have h1:mayP ⟨6,32,dst,src,base,disp,imm,cc⟩=(eqX ⟨6,32,dst,src,base,disp,imm,cc⟩ ⟨6,32,dst,src,0,0,0,0⟩ && fitsP ⟨6,32,dst,src,base,disp,imm,cc⟩ ⟨1,96,49,0,0⟩):=by unfold mayP;simp only [e,Bool.true_and];rfl
  rw [h1]
  show (eqX ⟨6,32,dst,src,base,disp,imm,cc⟩ ⟨6,32,dst,src,0,0,0,0⟩ && (regB dst && (regB src && (regB base && (true && (fourB imm && fourB disp))))))=(true && (eqX ⟨6,32,dst,src,base,disp,imm,cc⟩ ⟨6,32,dst,src,0,0,0,0⟩ && (regB dst && (regB src && (regB base && (fourB disp && (fourB imm && true)))))))
  exact bool_a _ _ _ _ _ _
theorem mp_6_64 (dst src base disp imm cc:Int):mayP ⟨6,64,dst,src,base,disp,imm,cc⟩=mayX ⟨6,64,dst,src,base,disp,imm,cc⟩:=by
  have e:codeOfP 6 64=(⟨1,96,49,0,0⟩,true):=by decide +kernel
  have h1:mayP ⟨6,64,dst,src,base,disp,imm,cc⟩=(eqX ⟨6,64,dst,src,base,disp,imm,cc⟩ ⟨6,64,dst,src,0,0,0,0⟩ && fitsP ⟨6,64,dst,src,base,disp,imm,cc⟩ ⟨1,96,49,0,0⟩):=by unfold mayP;simp only [e,Bool.true_and];rfl
  rw [h1]
  show (eqX ⟨6,64,dst,src,base,disp,imm,cc⟩ ⟨6,64,dst,src,0,0,0,0⟩ && (regB dst && (regB src && (regB base && (true && (fourB imm && fourB disp))))))=(true && (eqX ⟨6,64,dst,src,base,disp,imm,cc⟩ ⟨6,64,dst,src,0,0,0,0⟩ && (regB dst && (regB src && (regB base && (fourB disp && (fourB imm && true)))))))
  exact bool_a _ _ _ _ _ _
theorem mp_7_0 (dst src base disp imm cc:Int):mayP ⟨7,0,dst,src,base,disp,imm,cc⟩=mayX ⟨7,0,dst,src,base,disp,imm,cc⟩:=by
  have e:codeOfP 7 0=(zCd,false):=by decide +kernel
  have h1:mayP ⟨7,0,dst,src,base,disp,imm,cc⟩=false:=by unfold mayP;simp only [e,Bool.false_and]
  rw [h1]
  show false=(true && (eqX ⟨7,0,dst,src,base,disp,imm,cc⟩ ⟨7,0,dst,src,0,0,0,0⟩ && (regB dst && (regB src && (regB base && (fourB disp && (fourB imm && clsB 1 ⟨7,0,dst,src,base,disp,imm,cc⟩)))))))
  rw [show clsB 1 ⟨7,0,dst,src,base,disp,imm,cc⟩=false from rfl]
  simp only [Bool.and_false]
theorem mp_7_8 (dst src base disp imm cc:Int):mayP ⟨7,8,dst,src,base,disp,imm,cc⟩=mayX ⟨7,8,dst,src,base,disp,imm,cc⟩:=by
  have e:codeOfP 7 8=(zCd,false):=by decide +kernel
  have h1:mayP ⟨7,8,dst,src,base,disp,imm,cc⟩=false:=by unfold mayP;simp only [e,Bool.false_and]
  rw [h1]
  show false=(true && (eqX ⟨7,8,dst,src,base,disp,imm,cc⟩ ⟨7,8,dst,src,0,0,0,0⟩ && (regB dst && (regB src && (regB base && (fourB disp && (fourB imm && clsB 1 ⟨7,8,dst,src,base,disp,imm,cc⟩)))))))
  rw [show clsB 1 ⟨7,8,dst,src,base,disp,imm,cc⟩=false from rfl]
  simp only [Bool.and_false]
theorem mp_7_16 (dst src base disp imm cc:Int):mayP ⟨7,16,dst,src,base,disp,imm,cc⟩=mayX ⟨7,16,dst,src,base,disp,imm,cc⟩:=by
  have e:codeOfP 7 16=(zCd,false):=by decide +kernel
  have h1:mayP ⟨7,16,dst,src,base,disp,imm,cc⟩=false:=by unfold mayP;simp only [e,Bool.false_and]
  rw [h1]
  show false=(true && (eqX ⟨7,16,dst,src,base,disp,imm,cc⟩ ⟨7,16,dst,src,0,0,0,0⟩ && (regB dst && (regB src && (regB base && (fourB disp && (fourB imm && clsB 1 ⟨7,16,dst,src,base,disp,imm,cc⟩)))))))
  rw [show clsB 1 ⟨7,16,dst,src,base,disp,imm,cc⟩=false from rfl]
  simp only [Bool.and_false]
theorem mp_7_32 (dst src base disp imm cc:Int):mayP ⟨7,32,dst,src,base,disp,imm,cc⟩=mayX ⟨7,32,dst,src,base,disp,imm,cc⟩:=by
  have e:codeOfP 7 32=(⟨1,96,57,0,0⟩,true):=by decide +kernel
  have h1:mayP ⟨7,32,dst,src,base,disp,imm,cc⟩=(eqX ⟨7,32,dst,src,base,disp,imm,cc⟩ ⟨7,32,dst,src,0,0,0,0⟩ && fitsP ⟨7,32,dst,src,base,disp,imm,cc⟩ ⟨1,96,57,0,0⟩):=by unfold mayP;simp only [e,Bool.true_and];rfl
  rw [h1]
  show (eqX ⟨7,32,dst,src,base,disp,imm,cc⟩ ⟨7,32,dst,src,0,0,0,0⟩ && (regB dst && (regB src && (regB base && (true && (fourB imm && fourB disp))))))=(true && (eqX ⟨7,32,dst,src,base,disp,imm,cc⟩ ⟨7,32,dst,src,0,0,0,0⟩ && (regB dst && (regB src && (regB base && (fourB disp && (fourB imm && true)))))))
  exact bool_a _ _ _ _ _ _
theorem mp_7_64 (dst src base disp imm cc:Int):mayP ⟨7,64,dst,src,base,disp,imm,cc⟩=mayX ⟨7,64,dst,src,base,disp,imm,cc⟩:=by
  have e:codeOfP 7 64=(⟨1,96,57,0,0⟩,true):=by decide +kernel
  have h1:mayP ⟨7,64,dst,src,base,disp,imm,cc⟩=(eqX ⟨7,64,dst,src,base,disp,imm,cc⟩ ⟨7,64,dst,src,0,0,0,0⟩ && fitsP ⟨7,64,dst,src,base,disp,imm,cc⟩ ⟨1,96,57,0,0⟩):=by unfold mayP;simp only [e,Bool.true_and];rfl
  rw [h1]
  show (eqX ⟨7,64,dst,src,base,disp,imm,cc⟩ ⟨7,64,dst,src,0,0,0,0⟩ && (regB dst && (regB src && (regB base && (true && (fourB imm && fourB disp))))))=(true && (eqX ⟨7,64,dst,src,base,disp,imm,cc⟩ ⟨7,64,dst,src,0,0,0,0⟩ && (regB dst && (regB src && (regB base && (fourB disp && (fourB imm && true)))))))
  exact bool_a _ _ _ _ _ _
theorem mp_8_0 (dst src base disp imm cc:Int):mayP ⟨8,0,dst,src,base,disp,imm,cc⟩=mayX ⟨8,0,dst,src,base,disp,imm,cc⟩:=by
  have e:codeOfP 8 0=(zCd,false):=by decide +kernel
  have h1:mayP ⟨8,0,dst,src,base,disp,imm,cc⟩=false:=by unfold mayP;simp only [e,Bool.false_and]
  rw [h1]
  show false=(true && (eqX ⟨8,0,dst,src,base,disp,imm,cc⟩ ⟨8,0,dst,src,0,0,0,0⟩ && (regB dst && (regB src && (regB base && (fourB disp && (fourB imm && clsB 1 ⟨8,0,dst,src,base,disp,imm,cc⟩)))))))
  rw [show clsB 1 ⟨8,0,dst,src,base,disp,imm,cc⟩=false from rfl]
  simp only [Bool.and_false]
theorem mp_8_8 (dst src base disp imm cc:Int):mayP ⟨8,8,dst,src,base,disp,imm,cc⟩=mayX ⟨8,8,dst,src,base,disp,imm,cc⟩:=by
  have e:codeOfP 8 8=(zCd,false):=by decide +kernel
  have h1:mayP ⟨8,8,dst,src,base,disp,imm,cc⟩=false:=by unfold mayP;simp only [e,Bool.false_and]
  rw [h1]
  show false=(true && (eqX ⟨8,8,dst,src,base,disp,imm,cc⟩ ⟨8,8,dst,src,0,0,0,0⟩ && (regB dst && (regB src && (regB base && (fourB disp && (fourB imm && clsB 1 ⟨8,8,dst,src,base,disp,imm,cc⟩)))))))
  rw [show clsB 1 ⟨8,8,dst,src,base,disp,imm,cc⟩=false from rfl]
  simp only [Bool.and_false]
theorem mp_8_16 (dst src base disp imm cc:Int):mayP ⟨8,16,dst,src,base,disp,imm,cc⟩=mayX ⟨8,16,dst,src,base,disp,imm,cc⟩:=by
  have e:codeOfP 8 16=(zCd,false):=by decide +kernel
  have h1:mayP ⟨8,16,dst,src,base,disp,imm,cc⟩=false:=by unfold mayP;simp only [e,Bool.false_and]
  rw [h1]
  show false=(true && (eqX ⟨8,16,dst,src,base,disp,imm,cc⟩ ⟨8,16,dst,src,0,0,0,0⟩ && (regB dst && (regB src && (regB base && (fourB disp && (fourB imm && clsB 1 ⟨8,16,dst,src,base,disp,imm,cc⟩)))))))
  rw [show clsB 1 ⟨8,16,dst,src,base,disp,imm,cc⟩=false from rfl]
  simp only [Bool.and_false]
theorem mp_8_32 (dst src base disp imm cc:Int):mayP ⟨8,32,dst,src,base,disp,imm,cc⟩=mayX ⟨8,32,dst,src,base,disp,imm,cc⟩:=by
  have e:codeOfP 8 32=(⟨1,96,133,0,0⟩,true):=by decide +kernel
  have h1:mayP ⟨8,32,dst,src,base,disp,imm,cc⟩=(eqX ⟨8,32,dst,src,base,disp,imm,cc⟩ ⟨8,32,dst,src,0,0,0,0⟩ && fitsP ⟨8,32,dst,src,base,disp,imm,cc⟩ ⟨1,96,133,0,0⟩):=by unfold mayP;simp only [e,Bool.true_and];rfl
  rw [h1]
  show (eqX ⟨8,32,dst,src,base,disp,imm,cc⟩ ⟨8,32,dst,src,0,0,0,0⟩ && (regB dst && (regB src && (regB base && (true && (fourB imm && fourB disp))))))=(true && (eqX ⟨8,32,dst,src,base,disp,imm,cc⟩ ⟨8,32,dst,src,0,0,0,0⟩ && (regB dst && (regB src && (regB base && (fourB disp && (fourB imm && true)))))))
  exact bool_a _ _ _ _ _ _
theorem mp_8_64 (dst src base disp imm cc:Int):mayP ⟨8,64,dst,src,base,disp,imm,cc⟩=mayX ⟨8,64,dst,src,base,disp,imm,cc⟩:=by
  have e:codeOfP 8 64=(⟨1,96,133,0,0⟩,true):=by decide +kernel
  have h1:mayP ⟨8,64,dst,src,base,disp,imm,cc⟩=(eqX ⟨8,64,dst,src,base,disp,imm,cc⟩ ⟨8,64,dst,src,0,0,0,0⟩ && fitsP ⟨8,64,dst,src,base,disp,imm,cc⟩ ⟨1,96,133,0,0⟩):=by unfold mayP;simp only [e,Bool.true_and];rfl
  rw [h1]
  show (eqX ⟨8,64,dst,src,base,disp,imm,cc⟩ ⟨8,64,dst,src,0,0,0,0⟩ && (regB dst && (regB src && (regB base && (true && (fourB imm && fourB disp))))))=(true && (eqX ⟨8,64,dst,src,base,disp,imm,cc⟩ ⟨8,64,dst,src,0,0,0,0⟩ && (regB dst && (regB src && (regB base && (fourB disp && (fourB imm && true)))))))
  exact bool_a _ _ _ _ _ _
theorem mp_9_0 (dst src base disp imm cc:Int):mayP ⟨9,0,dst,src,base,disp,imm,cc⟩=mayX ⟨9,0,dst,src,base,disp,imm,cc⟩:=by
  have e:codeOfP 9 0=(zCd,false):=by decide +kernel
  have h1:mayP ⟨9,0,dst,src,base,disp,imm,cc⟩=false:=by unfold mayP;simp only [e,Bool.false_and]
  rw [h1]
  show false=(true && (eqX ⟨9,0,dst,src,base,disp,imm,cc⟩ ⟨9,0,dst,0,0,0,imm,0⟩ && (regB dst && (regB src && (regB base && (fourB disp && (fourB imm && clsB 2 ⟨9,0,dst,src,base,disp,imm,cc⟩)))))))
  rw [show clsB 2 ⟨9,0,dst,src,base,disp,imm,cc⟩=false from rfl]
  simp only [Bool.and_false]
theorem mp_9_8 (dst src base disp imm cc:Int):mayP ⟨9,8,dst,src,base,disp,imm,cc⟩=mayX ⟨9,8,dst,src,base,disp,imm,cc⟩:=by
  have e:codeOfP 9 8=(zCd,false):=by decide +kernel
  have h1:mayP ⟨9,8,dst,src,base,disp,imm,cc⟩=false:=by unfold mayP;simp only [e,Bool.false_and]
  rw [h1]
  show false=(true && (eqX ⟨9,8,dst,src,base,disp,imm,cc⟩ ⟨9,8,dst,0,0,0,imm,0⟩ && (regB dst && (regB src && (regB base && (fourB disp && (fourB imm && clsB 2 ⟨9,8,dst,src,base,disp,imm,cc⟩)))))))
  rw [show clsB 2 ⟨9,8,dst,src,base,disp,imm,cc⟩=false from rfl]
  simp only [Bool.and_false]
theorem mp_9_16 (dst src base disp imm cc:Int):mayP ⟨9,16,dst,src,base,disp,imm,cc⟩=mayX ⟨9,16,dst,src,base,disp,imm,cc⟩:=by
  have e:codeOfP 9 16=(zCd,false):=by decide +kernel
  have h1:mayP ⟨9,16,dst,src,base,disp,imm,cc⟩=false:=by unfold mayP;simp only [e,Bool.false_and]
  rw [h1]
  show false=(true && (eqX ⟨9,16,dst,src,base,disp,imm,cc⟩ ⟨9,16,dst,0,0,0,imm,0⟩ && (regB dst && (regB src && (regB base && (fourB disp && (fourB imm && clsB 2 ⟨9,16,dst,src,base,disp,imm,cc⟩)))))))
  rw [show clsB 2 ⟨9,16,dst,src,base,disp,imm,cc⟩=false from rfl]
  simp only [Bool.and_false]
theorem mp_9_32 (dst src base disp imm cc:Int):mayP ⟨9,32,dst,src,base,disp,imm,cc⟩=mayX ⟨9,32,dst,src,base,disp,imm,cc⟩:=by
  have e:codeOfP 9 32=(⟨3,96,129,0,0⟩,true):=by decide +kernel
  have h1:mayP ⟨9,32,dst,src,base,disp,imm,cc⟩=(eqX ⟨9,32,dst,src,base,disp,imm,cc⟩ ⟨9,32,dst,0,0,0,imm,0⟩ && fitsP ⟨9,32,dst,src,base,disp,imm,cc⟩ ⟨3,96,129,0,0⟩):=by unfold mayP;simp only [e,Bool.true_and];rfl
  rw [h1]
  show (eqX ⟨9,32,dst,src,base,disp,imm,cc⟩ ⟨9,32,dst,0,0,0,imm,0⟩ && (regB dst && (regB src && (regB base && (true && (fourB imm && fourB disp))))))=(true && (eqX ⟨9,32,dst,src,base,disp,imm,cc⟩ ⟨9,32,dst,0,0,0,imm,0⟩ && (regB dst && (regB src && (regB base && (fourB disp && (fourB imm && true)))))))
  exact bool_a _ _ _ _ _ _
theorem mp_9_64 (dst src base disp imm cc:Int):mayP ⟨9,64,dst,src,base,disp,imm,cc⟩=mayX ⟨9,64,dst,src,base,disp,imm,cc⟩:=by
  have e:codeOfP 9 64=(⟨3,96,129,0,0⟩,true):=by decide +kernel
  have h1:mayP ⟨9,64,dst,src,base,disp,imm,cc⟩=(eqX ⟨9,64,dst,src,base,disp,imm,cc⟩ ⟨9,64,dst,0,0,0,imm,0⟩ && fitsP ⟨9,64,dst,src,base,disp,imm,cc⟩ ⟨3,96,129,0,0⟩):=by unfold mayP;simp only [e,Bool.true_and];rfl
  rw [h1]
  show (eqX ⟨9,64,dst,src,base,disp,imm,cc⟩ ⟨9,64,dst,0,0,0,imm,0⟩ && (regB dst && (regB src && (regB base && (true && (fourB imm && fourB disp))))))=(true && (eqX ⟨9,64,dst,src,base,disp,imm,cc⟩ ⟨9,64,dst,0,0,0,imm,0⟩ && (regB dst && (regB src && (regB base && (fourB disp && (fourB imm && true)))))))
  exact bool_a _ _ _ _ _ _
theorem mp_10_0 (dst src base disp imm cc:Int):mayP ⟨10,0,dst,src,base,disp,imm,cc⟩=mayX ⟨10,0,dst,src,base,disp,imm,cc⟩:=by
  have e:codeOfP 10 0=(zCd,false):=by decide +kernel
  have h1:mayP ⟨10,0,dst,src,base,disp,imm,cc⟩=false:=by unfold mayP;simp only [e,Bool.false_and]
  rw [h1]
  show false=(true && (eqX ⟨10,0,dst,src,base,disp,imm,cc⟩ ⟨10,0,dst,0,0,0,imm,0⟩ && (regB dst && (regB src && (regB base && (fourB disp && (fourB imm && clsB 2 ⟨10,0,dst,src,base,disp,imm,cc⟩)))))))
  rw [show clsB 2 ⟨10,0,dst,src,base,disp,imm,cc⟩=false from rfl]
  simp only [Bool.and_false]
theorem mp_10_8 (dst src base disp imm cc:Int):mayP ⟨10,8,dst,src,base,disp,imm,cc⟩=mayX ⟨10,8,dst,src,base,disp,imm,cc⟩:=by
  have e:codeOfP 10 8=(zCd,false):=by decide +kernel
  have h1:mayP ⟨10,8,dst,src,base,disp,imm,cc⟩=false:=by unfold mayP;simp only [e,Bool.false_and]
  rw [h1]
  show false=(true && (eqX ⟨10,8,dst,src,base,disp,imm,cc⟩ ⟨10,8,dst,0,0,0,imm,0⟩ && (regB dst && (regB src && (regB base && (fourB disp && (fourB imm && clsB 2 ⟨10,8,dst,src,base,disp,imm,cc⟩)))))))
  rw [show clsB 2 ⟨10,8,dst,src,base,disp,imm,cc⟩=false from rfl]
  simp only [Bool.and_false]
theorem mp_10_16 (dst src base disp imm cc:Int):mayP ⟨10,16,dst,src,base,disp,imm,cc⟩=mayX ⟨10,16,dst,src,base,disp,imm,cc⟩:=by
  have e:codeOfP 10 16=(zCd,false):=by decide +kernel
  have h1:mayP ⟨10,16,dst,src,base,disp,imm,cc⟩=false:=by unfold mayP;simp only [e,Bool.false_and]
  rw [h1]
  show false=(true && (eqX ⟨10,16,dst,src,base,disp,imm,cc⟩ ⟨10,16,dst,0,0,0,imm,0⟩ && (regB dst && (regB src && (regB base && (fourB disp && (fourB imm && clsB 2 ⟨10,16,dst,src,base,disp,imm,cc⟩)))))))
  rw [show clsB 2 ⟨10,16,dst,src,base,disp,imm,cc⟩=false from rfl]
  simp only [Bool.and_false]
theorem mp_10_32 (dst src base disp imm cc:Int):mayP ⟨10,32,dst,src,base,disp,imm,cc⟩=mayX ⟨10,32,dst,src,base,disp,imm,cc⟩:=by
  have e:codeOfP 10 32=(⟨3,96,129,1,0⟩,true):=by decide +kernel
  have h1:mayP ⟨10,32,dst,src,base,disp,imm,cc⟩=(eqX ⟨10,32,dst,src,base,disp,imm,cc⟩ ⟨10,32,dst,0,0,0,imm,0⟩ && fitsP ⟨10,32,dst,src,base,disp,imm,cc⟩ ⟨3,96,129,1,0⟩):=by unfold mayP;simp only [e,Bool.true_and];rfl
  rw [h1]
  show (eqX ⟨10,32,dst,src,base,disp,imm,cc⟩ ⟨10,32,dst,0,0,0,imm,0⟩ && (regB dst && (regB src && (regB base && (true && (fourB imm && fourB disp))))))=(true && (eqX ⟨10,32,dst,src,base,disp,imm,cc⟩ ⟨10,32,dst,0,0,0,imm,0⟩ && (regB dst && (regB src && (regB base && (fourB disp && (fourB imm && true)))))))
  exact bool_a _ _ _ _ _ _
theorem mp_10_64 (dst src base disp imm cc:Int):mayP ⟨10,64,dst,src,base,disp,imm,cc⟩=mayX ⟨10,64,dst,src,base,disp,imm,cc⟩:=by
  have e:codeOfP 10 64=(⟨3,96,129,1,0⟩,true):=by decide +kernel
  have h1:mayP ⟨10,64,dst,src,base,disp,imm,cc⟩=(eqX ⟨10,64,dst,src,base,disp,imm,cc⟩ ⟨10,64,dst,0,0,0,imm,0⟩ && fitsP ⟨10,64,dst,src,base,disp,imm,cc⟩ ⟨3,96,129,1,0⟩):=by unfold mayP;simp only [e,Bool.true_and];rfl
  rw [h1]
  show (eqX ⟨10,64,dst,src,base,disp,imm,cc⟩ ⟨10,64,dst,0,0,0,imm,0⟩ && (regB dst && (regB src && (regB base && (true && (fourB imm && fourB disp))))))=(true && (eqX ⟨10,64,dst,src,base,disp,imm,cc⟩ ⟨10,64,dst,0,0,0,imm,0⟩ && (regB dst && (regB src && (regB base && (fourB disp && (fourB imm && true)))))))
  exact bool_a _ _ _ _ _ _
theorem mp_11_0 (dst src base disp imm cc:Int):mayP ⟨11,0,dst,src,base,disp,imm,cc⟩=mayX ⟨11,0,dst,src,base,disp,imm,cc⟩:=by
  have e:codeOfP 11 0=(zCd,false):=by decide +kernel
  have h1:mayP ⟨11,0,dst,src,base,disp,imm,cc⟩=false:=by unfold mayP;simp only [e,Bool.false_and]
  rw [h1]
  show false=(true && (eqX ⟨11,0,dst,src,base,disp,imm,cc⟩ ⟨11,0,dst,0,0,0,imm,0⟩ && (regB dst && (regB src && (regB base && (fourB disp && (fourB imm && clsB 2 ⟨11,0,dst,src,base,disp,imm,cc⟩)))))))
  rw [show clsB 2 ⟨11,0,dst,src,base,disp,imm,cc⟩=false from rfl]
  simp only [Bool.and_false]
theorem mp_11_8 (dst src base disp imm cc:Int):mayP ⟨11,8,dst,src,base,disp,imm,cc⟩=mayX ⟨11,8,dst,src,base,disp,imm,cc⟩:=by
  have e:codeOfP 11 8=(zCd,false):=by decide +kernel
  have h1:mayP ⟨11,8,dst,src,base,disp,imm,cc⟩=false:=by unfold mayP;simp only [e,Bool.false_and]
  rw [h1]
  show false=(true && (eqX ⟨11,8,dst,src,base,disp,imm,cc⟩ ⟨11,8,dst,0,0,0,imm,0⟩ && (regB dst && (regB src && (regB base && (fourB disp && (fourB imm && clsB 2 ⟨11,8,dst,src,base,disp,imm,cc⟩)))))))
  rw [show clsB 2 ⟨11,8,dst,src,base,disp,imm,cc⟩=false from rfl]
  simp only [Bool.and_false]
theorem mp_11_16 (dst src base disp imm cc:Int):mayP ⟨11,16,dst,src,base,disp,imm,cc⟩=mayX ⟨11,16,dst,src,base,disp,imm,cc⟩:=by
  have e:codeOfP 11 16=(zCd,false):=by decide +kernel
  have h1:mayP ⟨11,16,dst,src,base,disp,imm,cc⟩=false:=by unfold mayP;simp only [e,Bool.false_and]
  rw [h1]
  show false=(true && (eqX ⟨11,16,dst,src,base,disp,imm,cc⟩ ⟨11,16,dst,0,0,0,imm,0⟩ && (regB dst && (regB src && (regB base && (fourB disp && (fourB imm && clsB 2 ⟨11,16,dst,src,base,disp,imm,cc⟩)))))))
  rw [show clsB 2 ⟨11,16,dst,src,base,disp,imm,cc⟩=false from rfl]
  simp only [Bool.and_false]
theorem mp_11_32 (dst src base disp imm cc:Int):mayP ⟨11,32,dst,src,base,disp,imm,cc⟩=mayX ⟨11,32,dst,src,base,disp,imm,cc⟩:=by
  have e:codeOfP 11 32=(⟨3,96,129,4,0⟩,true):=by decide +kernel
  have h1:mayP ⟨11,32,dst,src,base,disp,imm,cc⟩=(eqX ⟨11,32,dst,src,base,disp,imm,cc⟩ ⟨11,32,dst,0,0,0,imm,0⟩ && fitsP ⟨11,32,dst,src,base,disp,imm,cc⟩ ⟨3,96,129,4,0⟩):=by unfold mayP;simp only [e,Bool.true_and];rfl
  rw [h1]
  show (eqX ⟨11,32,dst,src,base,disp,imm,cc⟩ ⟨11,32,dst,0,0,0,imm,0⟩ && (regB dst && (regB src && (regB base && (true && (fourB imm && fourB disp))))))=(true && (eqX ⟨11,32,dst,src,base,disp,imm,cc⟩ ⟨11,32,dst,0,0,0,imm,0⟩ && (regB dst && (regB src && (regB base && (fourB disp && (fourB imm && true)))))))
  exact bool_a _ _ _ _ _ _
theorem mp_11_64 (dst src base disp imm cc:Int):mayP ⟨11,64,dst,src,base,disp,imm,cc⟩=mayX ⟨11,64,dst,src,base,disp,imm,cc⟩:=by
  have e:codeOfP 11 64=(⟨3,96,129,4,0⟩,true):=by decide +kernel
  have h1:mayP ⟨11,64,dst,src,base,disp,imm,cc⟩=(eqX ⟨11,64,dst,src,base,disp,imm,cc⟩ ⟨11,64,dst,0,0,0,imm,0⟩ && fitsP ⟨11,64,dst,src,base,disp,imm,cc⟩ ⟨3,96,129,4,0⟩):=by unfold mayP;simp only [e,Bool.true_and];rfl
  rw [h1]
  show (eqX ⟨11,64,dst,src,base,disp,imm,cc⟩ ⟨11,64,dst,0,0,0,imm,0⟩ && (regB dst && (regB src && (regB base && (true && (fourB imm && fourB disp))))))=(true && (eqX ⟨11,64,dst,src,base,disp,imm,cc⟩ ⟨11,64,dst,0,0,0,imm,0⟩ && (regB dst && (regB src && (regB base && (fourB disp && (fourB imm && true)))))))
  exact bool_a _ _ _ _ _ _
theorem mp_12_0 (dst src base disp imm cc:Int):mayP ⟨12,0,dst,src,base,disp,imm,cc⟩=mayX ⟨12,0,dst,src,base,disp,imm,cc⟩:=by
  have e:codeOfP 12 0=(zCd,false):=by decide +kernel
  have h1:mayP ⟨12,0,dst,src,base,disp,imm,cc⟩=false:=by unfold mayP;simp only [e,Bool.false_and]
  rw [h1]
  show false=(true && (eqX ⟨12,0,dst,src,base,disp,imm,cc⟩ ⟨12,0,dst,0,0,0,imm,0⟩ && (regB dst && (regB src && (regB base && (fourB disp && (fourB imm && clsB 2 ⟨12,0,dst,src,base,disp,imm,cc⟩)))))))
  rw [show clsB 2 ⟨12,0,dst,src,base,disp,imm,cc⟩=false from rfl]
  simp only [Bool.and_false]
theorem mp_12_8 (dst src base disp imm cc:Int):mayP ⟨12,8,dst,src,base,disp,imm,cc⟩=mayX ⟨12,8,dst,src,base,disp,imm,cc⟩:=by
  have e:codeOfP 12 8=(zCd,false):=by decide +kernel
  have h1:mayP ⟨12,8,dst,src,base,disp,imm,cc⟩=false:=by unfold mayP;simp only [e,Bool.false_and]
  rw [h1]
  show false=(true && (eqX ⟨12,8,dst,src,base,disp,imm,cc⟩ ⟨12,8,dst,0,0,0,imm,0⟩ && (regB dst && (regB src && (regB base && (fourB disp && (fourB imm && clsB 2 ⟨12,8,dst,src,base,disp,imm,cc⟩)))))))
  rw [show clsB 2 ⟨12,8,dst,src,base,disp,imm,cc⟩=false from rfl]
  simp only [Bool.and_false]
theorem mp_12_16 (dst src base disp imm cc:Int):mayP ⟨12,16,dst,src,base,disp,imm,cc⟩=mayX ⟨12,16,dst,src,base,disp,imm,cc⟩:=by
  have e:codeOfP 12 16=(zCd,false):=by decide +kernel
  have h1:mayP ⟨12,16,dst,src,base,disp,imm,cc⟩=false:=by unfold mayP;simp only [e,Bool.false_and]
  rw [h1]
  show false=(true && (eqX ⟨12,16,dst,src,base,disp,imm,cc⟩ ⟨12,16,dst,0,0,0,imm,0⟩ && (regB dst && (regB src && (regB base && (fourB disp && (fourB imm && clsB 2 ⟨12,16,dst,src,base,disp,imm,cc⟩)))))))
  rw [show clsB 2 ⟨12,16,dst,src,base,disp,imm,cc⟩=false from rfl]
  simp only [Bool.and_false]
theorem mp_12_32 (dst src base disp imm cc:Int):mayP ⟨12,32,dst,src,base,disp,imm,cc⟩=mayX ⟨12,32,dst,src,base,disp,imm,cc⟩:=by
  have e:codeOfP 12 32=(⟨3,96,129,5,0⟩,true):=by decide +kernel
  have h1:mayP ⟨12,32,dst,src,base,disp,imm,cc⟩=(eqX ⟨12,32,dst,src,base,disp,imm,cc⟩ ⟨12,32,dst,0,0,0,imm,0⟩ && fitsP ⟨12,32,dst,src,base,disp,imm,cc⟩ ⟨3,96,129,5,0⟩):=by unfold mayP;simp only [e,Bool.true_and];rfl
  rw [h1]
  show (eqX ⟨12,32,dst,src,base,disp,imm,cc⟩ ⟨12,32,dst,0,0,0,imm,0⟩ && (regB dst && (regB src && (regB base && (true && (fourB imm && fourB disp))))))=(true && (eqX ⟨12,32,dst,src,base,disp,imm,cc⟩ ⟨12,32,dst,0,0,0,imm,0⟩ && (regB dst && (regB src && (regB base && (fourB disp && (fourB imm && true)))))))
  exact bool_a _ _ _ _ _ _
theorem mp_12_64 (dst src base disp imm cc:Int):mayP ⟨12,64,dst,src,base,disp,imm,cc⟩=mayX ⟨12,64,dst,src,base,disp,imm,cc⟩:=by
  have e:codeOfP 12 64=(⟨3,96,129,5,0⟩,true):=by decide +kernel
  have h1:mayP ⟨12,64,dst,src,base,disp,imm,cc⟩=(eqX ⟨12,64,dst,src,base,disp,imm,cc⟩ ⟨12,64,dst,0,0,0,imm,0⟩ && fitsP ⟨12,64,dst,src,base,disp,imm,cc⟩ ⟨3,96,129,5,0⟩):=by unfold mayP;simp only [e,Bool.true_and];rfl
  rw [h1]
  show (eqX ⟨12,64,dst,src,base,disp,imm,cc⟩ ⟨12,64,dst,0,0,0,imm,0⟩ && (regB dst && (regB src && (regB base && (true && (fourB imm && fourB disp))))))=(true && (eqX ⟨12,64,dst,src,base,disp,imm,cc⟩ ⟨12,64,dst,0,0,0,imm,0⟩ && (regB dst && (regB src && (regB base && (fourB disp && (fourB imm && true)))))))
  exact bool_a _ _ _ _ _ _
theorem mp_13_0 (dst src base disp imm cc:Int):mayP ⟨13,0,dst,src,base,disp,imm,cc⟩=mayX ⟨13,0,dst,src,base,disp,imm,cc⟩:=by
  have e:codeOfP 13 0=(zCd,false):=by decide +kernel
  have h1:mayP ⟨13,0,dst,src,base,disp,imm,cc⟩=false:=by unfold mayP;simp only [e,Bool.false_and]
  rw [h1]
  show false=(true && (eqX ⟨13,0,dst,src,base,disp,imm,cc⟩ ⟨13,0,dst,0,0,0,imm,0⟩ && (regB dst && (regB src && (regB base && (fourB disp && (fourB imm && clsB 2 ⟨13,0,dst,src,base,disp,imm,cc⟩)))))))
  rw [show clsB 2 ⟨13,0,dst,src,base,disp,imm,cc⟩=false from rfl]
  simp only [Bool.and_false]
theorem mp_13_8 (dst src base disp imm cc:Int):mayP ⟨13,8,dst,src,base,disp,imm,cc⟩=mayX ⟨13,8,dst,src,base,disp,imm,cc⟩:=by
  have e:codeOfP 13 8=(zCd,false):=by decide +kernel
  have h1:mayP ⟨13,8,dst,src,base,disp,imm,cc⟩=false:=by unfold mayP;simp only [e,Bool.false_and]
  rw [h1]
  show false=(true && (eqX ⟨13,8,dst,src,base,disp,imm,cc⟩ ⟨13,8,dst,0,0,0,imm,0⟩ && (regB dst && (regB src && (regB base && (fourB disp && (fourB imm && clsB 2 ⟨13,8,dst,src,base,disp,imm,cc⟩)))))))
  rw [show clsB 2 ⟨13,8,dst,src,base,disp,imm,cc⟩=false from rfl]
  simp only [Bool.and_false]
theorem mp_13_16 (dst src base disp imm cc:Int):mayP ⟨13,16,dst,src,base,disp,imm,cc⟩=mayX ⟨13,16,dst,src,base,disp,imm,cc⟩:=by
  have e:codeOfP 13 16=(zCd,false):=by decide +kernel
  have h1:mayP ⟨13,16,dst,src,base,disp,imm,cc⟩=false:=by unfold mayP;simp only [e,Bool.false_and]
  rw [h1]
  show false=(true && (eqX ⟨13,16,dst,src,base,disp,imm,cc⟩ ⟨13,16,dst,0,0,0,imm,0⟩ && (regB dst && (regB src && (regB base && (fourB disp && (fourB imm && clsB 2 ⟨13,16,dst,src,base,disp,imm,cc⟩)))))))
  rw [show clsB 2 ⟨13,16,dst,src,base,disp,imm,cc⟩=false from rfl]
  simp only [Bool.and_false]
theorem mp_13_32 (dst src base disp imm cc:Int):mayP ⟨13,32,dst,src,base,disp,imm,cc⟩=mayX ⟨13,32,dst,src,base,disp,imm,cc⟩:=by
  have e:codeOfP 13 32=(⟨3,96,129,6,0⟩,true):=by decide +kernel
  have h1:mayP ⟨13,32,dst,src,base,disp,imm,cc⟩=(eqX ⟨13,32,dst,src,base,disp,imm,cc⟩ ⟨13,32,dst,0,0,0,imm,0⟩ && fitsP ⟨13,32,dst,src,base,disp,imm,cc⟩ ⟨3,96,129,6,0⟩):=by unfold mayP;simp only [e,Bool.true_and];rfl
  rw [h1]
  show (eqX ⟨13,32,dst,src,base,disp,imm,cc⟩ ⟨13,32,dst,0,0,0,imm,0⟩ && (regB dst && (regB src && (regB base && (true && (fourB imm && fourB disp))))))=(true && (eqX ⟨13,32,dst,src,base,disp,imm,cc⟩ ⟨13,32,dst,0,0,0,imm,0⟩ && (regB dst && (regB src && (regB base && (fourB disp && (fourB imm && true)))))))
  exact bool_a _ _ _ _ _ _
theorem mp_13_64 (dst src base disp imm cc:Int):mayP ⟨13,64,dst,src,base,disp,imm,cc⟩=mayX ⟨13,64,dst,src,base,disp,imm,cc⟩:=by
  have e:codeOfP 13 64=(⟨3,96,129,6,0⟩,true):=by decide +kernel
  have h1:mayP ⟨13,64,dst,src,base,disp,imm,cc⟩=(eqX ⟨13,64,dst,src,base,disp,imm,cc⟩ ⟨13,64,dst,0,0,0,imm,0⟩ && fitsP ⟨13,64,dst,src,base,disp,imm,cc⟩ ⟨3,96,129,6,0⟩):=by unfold mayP;simp only [e,Bool.true_and];rfl
  rw [h1]
  show (eqX ⟨13,64,dst,src,base,disp,imm,cc⟩ ⟨13,64,dst,0,0,0,imm,0⟩ && (regB dst && (regB src && (regB base && (true && (fourB imm && fourB disp))))))=(true && (eqX ⟨13,64,dst,src,base,disp,imm,cc⟩ ⟨13,64,dst,0,0,0,imm,0⟩ && (regB dst && (regB src && (regB base && (fourB disp && (fourB imm && true)))))))
  exact bool_a _ _ _ _ _ _
theorem mp_14_0 (dst src base disp imm cc:Int):mayP ⟨14,0,dst,src,base,disp,imm,cc⟩=mayX ⟨14,0,dst,src,base,disp,imm,cc⟩:=by
  have e:codeOfP 14 0=(zCd,false):=by decide +kernel
  have h1:mayP ⟨14,0,dst,src,base,disp,imm,cc⟩=false:=by unfold mayP;simp only [e,Bool.false_and]
  rw [h1]
  show false=(true && (eqX ⟨14,0,dst,src,base,disp,imm,cc⟩ ⟨14,0,dst,0,0,0,imm,0⟩ && (regB dst && (regB src && (regB base && (fourB disp && (fourB imm && clsB 2 ⟨14,0,dst,src,base,disp,imm,cc⟩)))))))
  rw [show clsB 2 ⟨14,0,dst,src,base,disp,imm,cc⟩=false from rfl]
  simp only [Bool.and_false]
theorem mp_14_8 (dst src base disp imm cc:Int):mayP ⟨14,8,dst,src,base,disp,imm,cc⟩=mayX ⟨14,8,dst,src,base,disp,imm,cc⟩:=by
  have e:codeOfP 14 8=(zCd,false):=by decide +kernel
  have h1:mayP ⟨14,8,dst,src,base,disp,imm,cc⟩=false:=by unfold mayP;simp only [e,Bool.false_and]
  rw [h1]
  show false=(true && (eqX ⟨14,8,dst,src,base,disp,imm,cc⟩ ⟨14,8,dst,0,0,0,imm,0⟩ && (regB dst && (regB src && (regB base && (fourB disp && (fourB imm && clsB 2 ⟨14,8,dst,src,base,disp,imm,cc⟩)))))))
  rw [show clsB 2 ⟨14,8,dst,src,base,disp,imm,cc⟩=false from rfl]
  simp only [Bool.and_false]
theorem mp_14_16 (dst src base disp imm cc:Int):mayP ⟨14,16,dst,src,base,disp,imm,cc⟩=mayX ⟨14,16,dst,src,base,disp,imm,cc⟩:=by
  have e:codeOfP 14 16=(zCd,false):=by decide +kernel
  have h1:mayP ⟨14,16,dst,src,base,disp,imm,cc⟩=false:=by unfold mayP;simp only [e,Bool.false_and]
  rw [h1]
  show false=(true && (eqX ⟨14,16,dst,src,base,disp,imm,cc⟩ ⟨14,16,dst,0,0,0,imm,0⟩ && (regB dst && (regB src && (regB base && (fourB disp && (fourB imm && clsB 2 ⟨14,16,dst,src,base,disp,imm,cc⟩)))))))
  rw [show clsB 2 ⟨14,16,dst,src,base,disp,imm,cc⟩=false from rfl]
  simp only [Bool.and_false]
theorem mp_14_32 (dst src base disp imm cc:Int):mayP ⟨14,32,dst,src,base,disp,imm,cc⟩=mayX ⟨14,32,dst,src,base,disp,imm,cc⟩:=by
  have e:codeOfP 14 32=(⟨3,96,129,7,0⟩,true):=by decide +kernel
  have h1:mayP ⟨14,32,dst,src,base,disp,imm,cc⟩=(eqX ⟨14,32,dst,src,base,disp,imm,cc⟩ ⟨14,32,dst,0,0,0,imm,0⟩ && fitsP ⟨14,32,dst,src,base,disp,imm,cc⟩ ⟨3,96,129,7,0⟩):=by unfold mayP;simp only [e,Bool.true_and];rfl
  rw [h1]
  show (eqX ⟨14,32,dst,src,base,disp,imm,cc⟩ ⟨14,32,dst,0,0,0,imm,0⟩ && (regB dst && (regB src && (regB base && (true && (fourB imm && fourB disp))))))=(true && (eqX ⟨14,32,dst,src,base,disp,imm,cc⟩ ⟨14,32,dst,0,0,0,imm,0⟩ && (regB dst && (regB src && (regB base && (fourB disp && (fourB imm && true)))))))
  exact bool_a _ _ _ _ _ _
theorem mp_14_64 (dst src base disp imm cc:Int):mayP ⟨14,64,dst,src,base,disp,imm,cc⟩=mayX ⟨14,64,dst,src,base,disp,imm,cc⟩:=by
  have e:codeOfP 14 64=(⟨3,96,129,7,0⟩,true):=by decide +kernel
  have h1:mayP ⟨14,64,dst,src,base,disp,imm,cc⟩=(eqX ⟨14,64,dst,src,base,disp,imm,cc⟩ ⟨14,64,dst,0,0,0,imm,0⟩ && fitsP ⟨14,64,dst,src,base,disp,imm,cc⟩ ⟨3,96,129,7,0⟩):=by unfold mayP;simp only [e,Bool.true_and];rfl
  rw [h1]
  show (eqX ⟨14,64,dst,src,base,disp,imm,cc⟩ ⟨14,64,dst,0,0,0,imm,0⟩ && (regB dst && (regB src && (regB base && (true && (fourB imm && fourB disp))))))=(true && (eqX ⟨14,64,dst,src,base,disp,imm,cc⟩ ⟨14,64,dst,0,0,0,imm,0⟩ && (regB dst && (regB src && (regB base && (fourB disp && (fourB imm && true)))))))
  exact bool_a _ _ _ _ _ _
theorem mp_15_0 (dst src base disp imm cc:Int):mayP ⟨15,0,dst,src,base,disp,imm,cc⟩=mayX ⟨15,0,dst,src,base,disp,imm,cc⟩:=by
  have e:codeOfP 15 0=(zCd,false):=by decide +kernel
  have h1:mayP ⟨15,0,dst,src,base,disp,imm,cc⟩=false:=by unfold mayP;simp only [e,Bool.false_and]
  rw [h1]
  show false=(true && (eqX ⟨15,0,dst,src,base,disp,imm,cc⟩ ⟨15,0,dst,0,0,0,imm,0⟩ && (regB dst && (regB src && (regB base && (fourB disp && (fourB imm && clsB 2 ⟨15,0,dst,src,base,disp,imm,cc⟩)))))))
  rw [show clsB 2 ⟨15,0,dst,src,base,disp,imm,cc⟩=false from rfl]
  simp only [Bool.and_false]
theorem mp_15_8 (dst src base disp imm cc:Int):mayP ⟨15,8,dst,src,base,disp,imm,cc⟩=mayX ⟨15,8,dst,src,base,disp,imm,cc⟩:=by
  have e:codeOfP 15 8=(zCd,false):=by decide +kernel
  have h1:mayP ⟨15,8,dst,src,base,disp,imm,cc⟩=false:=by unfold mayP;simp only [e,Bool.false_and]
  rw [h1]
  show false=(true && (eqX ⟨15,8,dst,src,base,disp,imm,cc⟩ ⟨15,8,dst,0,0,0,imm,0⟩ && (regB dst && (regB src && (regB base && (fourB disp && (fourB imm && clsB 2 ⟨15,8,dst,src,base,disp,imm,cc⟩)))))))
  rw [show clsB 2 ⟨15,8,dst,src,base,disp,imm,cc⟩=false from rfl]
  simp only [Bool.and_false]
theorem mp_15_16 (dst src base disp imm cc:Int):mayP ⟨15,16,dst,src,base,disp,imm,cc⟩=mayX ⟨15,16,dst,src,base,disp,imm,cc⟩:=by
  have e:codeOfP 15 16=(zCd,false):=by decide +kernel
  have h1:mayP ⟨15,16,dst,src,base,disp,imm,cc⟩=false:=by unfold mayP;simp only [e,Bool.false_and]
  rw [h1]
  show false=(true && (eqX ⟨15,16,dst,src,base,disp,imm,cc⟩ ⟨15,16,dst,0,0,0,imm,0⟩ && (regB dst && (regB src && (regB base && (fourB disp && (fourB imm && clsB 2 ⟨15,16,dst,src,base,disp,imm,cc⟩)))))))
  rw [show clsB 2 ⟨15,16,dst,src,base,disp,imm,cc⟩=false from rfl]
  simp only [Bool.and_false]
theorem mp_15_32 (dst src base disp imm cc:Int):mayP ⟨15,32,dst,src,base,disp,imm,cc⟩=mayX ⟨15,32,dst,src,base,disp,imm,cc⟩:=by
  have e:codeOfP 15 32=(⟨3,96,247,0,0⟩,true):=by decide +kernel
  have h1:mayP ⟨15,32,dst,src,base,disp,imm,cc⟩=(eqX ⟨15,32,dst,src,base,disp,imm,cc⟩ ⟨15,32,dst,0,0,0,imm,0⟩ && fitsP ⟨15,32,dst,src,base,disp,imm,cc⟩ ⟨3,96,247,0,0⟩):=by unfold mayP;simp only [e,Bool.true_and];rfl
  rw [h1]
  show (eqX ⟨15,32,dst,src,base,disp,imm,cc⟩ ⟨15,32,dst,0,0,0,imm,0⟩ && (regB dst && (regB src && (regB base && (true && (fourB imm && fourB disp))))))=(true && (eqX ⟨15,32,dst,src,base,disp,imm,cc⟩ ⟨15,32,dst,0,0,0,imm,0⟩ && (regB dst && (regB src && (regB base && (fourB disp && (fourB imm && true)))))))
  exact bool_a _ _ _ _ _ _
theorem mp_15_64 (dst src base disp imm cc:Int):mayP ⟨15,64,dst,src,base,disp,imm,cc⟩=mayX ⟨15,64,dst,src,base,disp,imm,cc⟩:=by
  have e:codeOfP 15 64=(⟨3,96,247,0,0⟩,true):=by decide +kernel
  have h1:mayP ⟨15,64,dst,src,base,disp,imm,cc⟩=(eqX ⟨15,64,dst,src,base,disp,imm,cc⟩ ⟨15,64,dst,0,0,0,imm,0⟩ && fitsP ⟨15,64,dst,src,base,disp,imm,cc⟩ ⟨3,96,247,0,0⟩):=by unfold mayP;simp only [e,Bool.true_and];rfl
  rw [h1]
  show (eqX ⟨15,64,dst,src,base,disp,imm,cc⟩ ⟨15,64,dst,0,0,0,imm,0⟩ && (regB dst && (regB src && (regB base && (true && (fourB imm && fourB disp))))))=(true && (eqX ⟨15,64,dst,src,base,disp,imm,cc⟩ ⟨15,64,dst,0,0,0,imm,0⟩ && (regB dst && (regB src && (regB base && (fourB disp && (fourB imm && true)))))))
  exact bool_a _ _ _ _ _ _
theorem mp_16_0 (dst src base disp imm cc:Int):mayP ⟨16,0,dst,src,base,disp,imm,cc⟩=mayX ⟨16,0,dst,src,base,disp,imm,cc⟩:=by
  have e:codeOfP 16 0=(zCd,false):=by decide +kernel
  have h1:mayP ⟨16,0,dst,src,base,disp,imm,cc⟩=false:=by unfold mayP;simp only [e,Bool.false_and]
  rw [h1]
  show false=(true && (eqX ⟨16,0,dst,src,base,disp,imm,cc⟩ ⟨16,0,dst,src,0,0,0,0⟩ && (regB dst && (regB src && (regB base && (fourB disp && (fourB imm && clsB 1 ⟨16,0,dst,src,base,disp,imm,cc⟩)))))))
  rw [show clsB 1 ⟨16,0,dst,src,base,disp,imm,cc⟩=false from rfl]
  simp only [Bool.and_false]
theorem mp_16_8 (dst src base disp imm cc:Int):mayP ⟨16,8,dst,src,base,disp,imm,cc⟩=mayX ⟨16,8,dst,src,base,disp,imm,cc⟩:=by
  have e:codeOfP 16 8=(zCd,false):=by decide +kernel
  have h1:mayP ⟨16,8,dst,src,base,disp,imm,cc⟩=false:=by unfold mayP;simp only [e,Bool.false_and]
  rw [h1]
  show false=(true && (eqX ⟨16,8,dst,src,base,disp,imm,cc⟩ ⟨16,8,dst,src,0,0,0,0⟩ && (regB dst && (regB src && (regB base && (fourB disp && (fourB imm && clsB 1 ⟨16,8,dst,src,base,disp,imm,cc⟩)))))))
  rw [show clsB 1 ⟨16,8,dst,src,base,disp,imm,cc⟩=false from rfl]
  simp only [Bool.and_false]
theorem mp_16_16 (dst src base disp imm cc:Int):mayP ⟨16,16,dst,src,base,disp,imm,cc⟩=mayX ⟨16,16,dst,src,base,disp,imm,cc⟩:=by
  have e:codeOfP 16 16=(zCd,false):=by decide +kernel
  have h1:mayP ⟨16,16,dst,src,base,disp,imm,cc⟩=false:=by unfold mayP;simp only [e,Bool.false_and]
  rw [h1]
  show false=(true && (eqX ⟨16,16,dst,src,base,disp,imm,cc⟩ ⟨16,16,dst,src,0,0,0,0⟩ && (regB dst && (regB src && (regB base && (fourB disp && (fourB imm && clsB 1 ⟨16,16,dst,src,base,disp,imm,cc⟩)))))))
  rw [show clsB 1 ⟨16,16,dst,src,base,disp,imm,cc⟩=false from rfl]
  simp only [Bool.and_false]
theorem mp_16_32 (dst src base disp imm cc:Int):mayP ⟨16,32,dst,src,base,disp,imm,cc⟩=mayX ⟨16,32,dst,src,base,disp,imm,cc⟩:=by
  have e:codeOfP 16 32=(⟨2,96,4015,0,0⟩,true):=by decide +kernel
  have h1:mayP ⟨16,32,dst,src,base,disp,imm,cc⟩=(eqX ⟨16,32,dst,src,base,disp,imm,cc⟩ ⟨16,32,dst,src,0,0,0,0⟩ && fitsP ⟨16,32,dst,src,base,disp,imm,cc⟩ ⟨2,96,4015,0,0⟩):=by unfold mayP;simp only [e,Bool.true_and];rfl
  rw [h1]
  show (eqX ⟨16,32,dst,src,base,disp,imm,cc⟩ ⟨16,32,dst,src,0,0,0,0⟩ && (regB dst && (regB src && (regB base && (true && (fourB imm && fourB disp))))))=(true && (eqX ⟨16,32,dst,src,base,disp,imm,cc⟩ ⟨16,32,dst,src,0,0,0,0⟩ && (regB dst && (regB src && (regB base && (fourB disp && (fourB imm && true)))))))
  exact bool_a _ _ _ _ _ _
theorem mp_16_64 (dst src base disp imm cc:Int):mayP ⟨16,64,dst,src,base,disp,imm,cc⟩=mayX ⟨16,64,dst,src,base,disp,imm,cc⟩:=by
  have e:codeOfP 16 64=(⟨2,96,4015,0,0⟩,true):=by decide +kernel
  have h1:mayP ⟨16,64,dst,src,base,disp,imm,cc⟩=(eqX ⟨16,64,dst,src,base,disp,imm,cc⟩ ⟨16,64,dst,src,0,0,0,0⟩ && fitsP ⟨16,64,dst,src,base,disp,imm,cc⟩ ⟨2,96,4015,0,0⟩):=by unfold mayP;simp only [e,Bool.true_and];rfl
  rw [h1]
  show (eqX ⟨16,64,dst,src,base,disp,imm,cc⟩ ⟨16,64,dst,src,0,0,0,0⟩ && (regB dst && (regB src && (regB base && (true && (fourB imm && fourB disp))))))=(true && (eqX ⟨16,64,dst,src,base,disp,imm,cc⟩ ⟨16,64,dst,src,0,0,0,0⟩ && (regB dst && (regB src && (regB base && (fourB disp && (fourB imm && true)))))))
  exact bool_a _ _ _ _ _ _
theorem mp_17_0 (dst src base disp imm cc:Int):mayP ⟨17,0,dst,src,base,disp,imm,cc⟩=mayX ⟨17,0,dst,src,base,disp,imm,cc⟩:=by
  have e:codeOfP 17 0=(zCd,false):=by decide +kernel
  have h1:mayP ⟨17,0,dst,src,base,disp,imm,cc⟩=false:=by unfold mayP;simp only [e,Bool.false_and]
  rw [h1]
  show false=(true && (eqX ⟨17,0,dst,src,base,disp,imm,cc⟩ ⟨17,0,dst,0,0,0,imm,0⟩ && (regB dst && (regB src && (regB base && (fourB disp && (fourB imm && clsB 3 ⟨17,0,dst,src,base,disp,imm,cc⟩)))))))
  rw [show clsB 3 ⟨17,0,dst,src,base,disp,imm,cc⟩=false from by unfold clsB;simp [longB,jmpB]]
  simp only [Bool.and_false]
theorem mp_17_8 (dst src base disp imm cc:Int):mayP ⟨17,8,dst,src,base,disp,imm,cc⟩=mayX ⟨17,8,dst,src,base,disp,imm,cc⟩:=by
  have e:codeOfP 17 8=(zCd,false):=by decide +kernel
  have h1:mayP ⟨17,8,dst,src,base,disp,imm,cc⟩=false:=by unfold mayP;simp only [e,Bool.false_and]
  rw [h1]
  show false=(true && (eqX ⟨17,8,dst,src,base,disp,imm,cc⟩ ⟨17,8,dst,0,0,0,imm,0⟩ && (regB dst && (regB src && (regB base && (fourB disp && (fourB imm && clsB 3 ⟨17,8,dst,src,base,disp,imm,cc⟩)))))))
  rw [show clsB 3 ⟨17,8,dst,src,base,disp,imm,cc⟩=false from by unfold clsB;simp [longB,jmpB]]
  simp only [Bool.and_false]
theorem mp_17_16 (dst src base disp imm cc:Int):mayP ⟨17,16,dst,src,base,disp,imm,cc⟩=mayX ⟨17,16,dst,src,base,disp,imm,cc⟩:=by
  have e:codeOfP 17 16=(zCd,false):=by decide +kernel
  have h1:mayP ⟨17,16,dst,src,base,disp,imm,cc⟩=false:=by unfold mayP;simp only [e,Bool.false_and]
  rw [h1]
  show false=(true && (eqX ⟨17,16,dst,src,base,disp,imm,cc⟩ ⟨17,16,dst,0,0,0,imm,0⟩ && (regB dst && (regB src && (regB base && (fourB disp && (fourB imm && clsB 3 ⟨17,16,dst,src,base,disp,imm,cc⟩)))))))
  rw [show clsB 3 ⟨17,16,dst,src,base,disp,imm,cc⟩=false from by unfold clsB;simp [longB,jmpB]]
  simp only [Bool.and_false]
theorem mp_17_32 (dst src base disp imm cc:Int):mayP ⟨17,32,dst,src,base,disp,imm,cc⟩=mayX ⟨17,32,dst,src,base,disp,imm,cc⟩:=by
  have e:codeOfP 17 32=(⟨4,96,193,4,0⟩,true):=by decide +kernel
  have h1:mayP ⟨17,32,dst,src,base,disp,imm,cc⟩=(eqX ⟨17,32,dst,src,base,disp,imm,cc⟩ ⟨17,32,dst,0,0,0,imm,0⟩ && fitsP ⟨17,32,dst,src,base,disp,imm,cc⟩ ⟨4,96,193,4,0⟩):=by unfold mayP;simp only [e,Bool.true_and];rfl
  rw [h1]
  show (eqX ⟨17,32,dst,src,base,disp,imm,cc⟩ ⟨17,32,dst,0,0,0,imm,0⟩ && (regB dst && (regB src && (regB base && (true && (decide (0 ≤ imm) && decide (imm < 32)))))))=(true && (eqX ⟨17,32,dst,src,base,disp,imm,cc⟩ ⟨17,32,dst,0,0,0,imm,0⟩ && (regB dst && (regB src && (regB base && (fourB disp && (fourB imm && (decide (0 ≤ imm) && decide (imm < 32)))))))))
  exact bool_n _ _ _ _ _ _ _ _ disp0 (fun h=>by unfold fourB;simp only [Bool.and_eq_true,decide_eq_true_eq] at h ⊢;omega) rfl
theorem mp_17_64 (dst src base disp imm cc:Int):mayP ⟨17,64,dst,src,base,disp,imm,cc⟩=mayX ⟨17,64,dst,src,base,disp,imm,cc⟩:=by
  have e:codeOfP 17 64=(⟨4,96,193,4,0⟩,true):=by decide +kernel
  have h1:mayP ⟨17,64,dst,src,base,disp,imm,cc⟩=(eqX ⟨17,64,dst,src,base,disp,imm,cc⟩ ⟨17,64,dst,0,0,0,imm,0⟩ && fitsP ⟨17,64,dst,src,base,disp,imm,cc⟩ ⟨4,96,193,4,0⟩):=by unfold mayP;simp only [e,Bool.true_and];rfl
  rw [h1]
  show (eqX ⟨17,64,dst,src,base,disp,imm,cc⟩ ⟨17,64,dst,0,0,0,imm,0⟩ && (regB dst && (regB src && (regB base && (true && (decide (0 ≤ imm) && decide (imm < 64)))))))=(true && (eqX ⟨17,64,dst,src,base,disp,imm,cc⟩ ⟨17,64,dst,0,0,0,imm,0⟩ && (regB dst && (regB src && (regB base && (fourB disp && (fourB imm && (decide (0 ≤ imm) && decide (imm < 64)))))))))
  exact bool_n _ _ _ _ _ _ _ _ disp0 (fun h=>by unfold fourB;simp only [Bool.and_eq_true,decide_eq_true_eq] at h ⊢;omega) rfl
theorem mp_18_0 (dst src base disp imm cc:Int):mayP ⟨18,0,dst,src,base,disp,imm,cc⟩=mayX ⟨18,0,dst,src,base,disp,imm,cc⟩:=by
  have e:codeOfP 18 0=(zCd,false):=by decide +kernel
  have h1:mayP ⟨18,0,dst,src,base,disp,imm,cc⟩=false:=by unfold mayP;simp only [e,Bool.false_and]
  rw [h1]
  show false=(true && (eqX ⟨18,0,dst,src,base,disp,imm,cc⟩ ⟨18,0,dst,0,0,0,imm,0⟩ && (regB dst && (regB src && (regB base && (fourB disp && (fourB imm && clsB 3 ⟨18,0,dst,src,base,disp,imm,cc⟩)))))))
  rw [show clsB 3 ⟨18,0,dst,src,base,disp,imm,cc⟩=false from by unfold clsB;simp [longB,jmpB]]
  simp only [Bool.and_false]
theorem mp_18_8 (dst src base disp imm cc:Int):mayP ⟨18,8,dst,src,base,disp,imm,cc⟩=mayX ⟨18,8,dst,src,base,disp,imm,cc⟩:=by
  have e:codeOfP 18 8=(zCd,false):=by decide +kernel
  have h1:mayP ⟨18,8,dst,src,base,disp,imm,cc⟩=false:=by unfold mayP;simp only [e,Bool.false_and]
  rw [h1]
  show false=(true && (eqX ⟨18,8,dst,src,base,disp,imm,cc⟩ ⟨18,8,dst,0,0,0,imm,0⟩ && (regB dst && (regB src && (regB base && (fourB disp && (fourB imm && clsB 3 ⟨18,8,dst,src,base,disp,imm,cc⟩)))))))
  rw [show clsB 3 ⟨18,8,dst,src,base,disp,imm,cc⟩=false from by unfold clsB;simp [longB,jmpB]]
  simp only [Bool.and_false]
theorem mp_18_16 (dst src base disp imm cc:Int):mayP ⟨18,16,dst,src,base,disp,imm,cc⟩=mayX ⟨18,16,dst,src,base,disp,imm,cc⟩:=by
  have e:codeOfP 18 16=(zCd,false):=by decide +kernel
  have h1:mayP ⟨18,16,dst,src,base,disp,imm,cc⟩=false:=by unfold mayP;simp only [e,Bool.false_and]
  rw [h1]
  show false=(true && (eqX ⟨18,16,dst,src,base,disp,imm,cc⟩ ⟨18,16,dst,0,0,0,imm,0⟩ && (regB dst && (regB src && (regB base && (fourB disp && (fourB imm && clsB 3 ⟨18,16,dst,src,base,disp,imm,cc⟩)))))))
  rw [show clsB 3 ⟨18,16,dst,src,base,disp,imm,cc⟩=false from by unfold clsB;simp [longB,jmpB]]
  simp only [Bool.and_false]
theorem mp_18_32 (dst src base disp imm cc:Int):mayP ⟨18,32,dst,src,base,disp,imm,cc⟩=mayX ⟨18,32,dst,src,base,disp,imm,cc⟩:=by
  have e:codeOfP 18 32=(⟨4,96,193,5,0⟩,true):=by decide +kernel
  have h1:mayP ⟨18,32,dst,src,base,disp,imm,cc⟩=(eqX ⟨18,32,dst,src,base,disp,imm,cc⟩ ⟨18,32,dst,0,0,0,imm,0⟩ && fitsP ⟨18,32,dst,src,base,disp,imm,cc⟩ ⟨4,96,193,5,0⟩):=by unfold mayP;simp only [e,Bool.true_and];rfl
  rw [h1]
  show (eqX ⟨18,32,dst,src,base,disp,imm,cc⟩ ⟨18,32,dst,0,0,0,imm,0⟩ && (regB dst && (regB src && (regB base && (true && (decide (0 ≤ imm) && decide (imm < 32)))))))=(true && (eqX ⟨18,32,dst,src,base,disp,imm,cc⟩ ⟨18,32,dst,0,0,0,imm,0⟩ && (regB dst && (regB src && (regB base && (fourB disp && (fourB imm && (decide (0 ≤ imm) && decide (imm < 32)))))))))
  exact bool_n _ _ _ _ _ _ _ _ disp0 (fun h=>by unfold fourB;simp only [Bool.and_eq_true,decide_eq_true_eq] at h ⊢;omega) rfl
theorem mp_18_64 (dst src base disp imm cc:Int):mayP ⟨18,64,dst,src,base,disp,imm,cc⟩=mayX ⟨18,64,dst,src,base,disp,imm,cc⟩:=by
  have e:codeOfP 18 64=(⟨4,96,193,5,0⟩,true):=by decide +kernel
  have h1:mayP ⟨18,64,dst,src,base,disp,imm,cc⟩=(eqX ⟨18,64,dst,src,base,disp,imm,cc⟩ ⟨18,64,dst,0,0,0,imm,0⟩ && fitsP ⟨18,64,dst,src,base,disp,imm,cc⟩ ⟨4,96,193,5,0⟩):=by unfold mayP;simp only [e,Bool.true_and];rfl
  rw [h1]
  show (eqX ⟨18,64,dst,src,base,disp,imm,cc⟩ ⟨18,64,dst,0,0,0,imm,0⟩ && (regB dst && (regB src && (regB base && (true && (decide (0 ≤ imm) && decide (imm < 64)))))))=(true && (eqX ⟨18,64,dst,src,base,disp,imm,cc⟩ ⟨18,64,dst,0,0,0,imm,0⟩ && (regB dst && (regB src && (regB base && (fourB disp && (fourB imm && (decide (0 ≤ imm) && decide (imm < 64)))))))))
  exact bool_n _ _ _ _ _ _ _ _ disp0 (fun h=>by unfold fourB;simp only [Bool.and_eq_true,decide_eq_true_eq] at h ⊢;omega) rfl
theorem mp_19_0 (dst src base disp imm cc:Int):mayP ⟨19,0,dst,src,base,disp,imm,cc⟩=mayX ⟨19,0,dst,src,base,disp,imm,cc⟩:=by
  have e:codeOfP 19 0=(zCd,false):=by decide +kernel
  have h1:mayP ⟨19,0,dst,src,base,disp,imm,cc⟩=false:=by unfold mayP;simp only [e,Bool.false_and]
  rw [h1]
  show false=(true && (eqX ⟨19,0,dst,src,base,disp,imm,cc⟩ ⟨19,0,dst,0,0,0,imm,0⟩ && (regB dst && (regB src && (regB base && (fourB disp && (fourB imm && clsB 3 ⟨19,0,dst,src,base,disp,imm,cc⟩)))))))
  rw [show clsB 3 ⟨19,0,dst,src,base,disp,imm,cc⟩=false from by unfold clsB;simp [longB,jmpB]]
  simp only [Bool.and_false]
theorem mp_19_8 (dst src base disp imm cc:Int):mayP ⟨19,8,dst,src,base,disp,imm,cc⟩=mayX ⟨19,8,dst,src,base,disp,imm,cc⟩:=by
  have e:codeOfP 19 8=(zCd,false):=by decide +kernel
  have h1:mayP ⟨19,8,dst,src,base,disp,imm,cc⟩=false:=by unfold mayP;simp only [e,Bool.false_and]
  rw [h1]
  show false=(true && (eqX ⟨19,8,dst,src,base,disp,imm,cc⟩ ⟨19,8,dst,0,0,0,imm,0⟩ && (regB dst && (regB src && (regB base && (fourB disp && (fourB imm && clsB 3 ⟨19,8,dst,src,base,disp,imm,cc⟩)))))))
  rw [show clsB 3 ⟨19,8,dst,src,base,disp,imm,cc⟩=false from by unfold clsB;simp [longB,jmpB]]
  simp only [Bool.and_false]
theorem mp_19_16 (dst src base disp imm cc:Int):mayP ⟨19,16,dst,src,base,disp,imm,cc⟩=mayX ⟨19,16,dst,src,base,disp,imm,cc⟩:=by
  have e:codeOfP 19 16=(zCd,false):=by decide +kernel
  have h1:mayP ⟨19,16,dst,src,base,disp,imm,cc⟩=false:=by unfold mayP;simp only [e,Bool.false_and]
  rw [h1]
  show false=(true && (eqX ⟨19,16,dst,src,base,disp,imm,cc⟩ ⟨19,16,dst,0,0,0,imm,0⟩ && (regB dst && (regB src && (regB base && (fourB disp && (fourB imm && clsB 3 ⟨19,16,dst,src,base,disp,imm,cc⟩)))))))
  rw [show clsB 3 ⟨19,16,dst,src,base,disp,imm,cc⟩=false from by unfold clsB;simp [longB,jmpB]]
  simp only [Bool.and_false]
theorem mp_19_32 (dst src base disp imm cc:Int):mayP ⟨19,32,dst,src,base,disp,imm,cc⟩=mayX ⟨19,32,dst,src,base,disp,imm,cc⟩:=by
  have e:codeOfP 19 32=(⟨4,96,193,7,0⟩,true):=by decide +kernel
  have h1:mayP ⟨19,32,dst,src,base,disp,imm,cc⟩=(eqX ⟨19,32,dst,src,base,disp,imm,cc⟩ ⟨19,32,dst,0,0,0,imm,0⟩ && fitsP ⟨19,32,dst,src,base,disp,imm,cc⟩ ⟨4,96,193,7,0⟩):=by unfold mayP;simp only [e,Bool.true_and];rfl
  rw [h1]
  show (eqX ⟨19,32,dst,src,base,disp,imm,cc⟩ ⟨19,32,dst,0,0,0,imm,0⟩ && (regB dst && (regB src && (regB base && (true && (decide (0 ≤ imm) && decide (imm < 32)))))))=(true && (eqX ⟨19,32,dst,src,base,disp,imm,cc⟩ ⟨19,32,dst,0,0,0,imm,0⟩ && (regB dst && (regB src && (regB base && (fourB disp && (fourB imm && (decide (0 ≤ imm) && decide (imm < 32)))))))))
  exact bool_n _ _ _ _ _ _ _ _ disp0 (fun h=>by unfold fourB;simp only [Bool.and_eq_true,decide_eq_true_eq] at h ⊢;omega) rfl
theorem mp_19_64 (dst src base disp imm cc:Int):mayP ⟨19,64,dst,src,base,disp,imm,cc⟩=mayX ⟨19,64,dst,src,base,disp,imm,cc⟩:=by
  have e:codeOfP 19 64=(⟨4,96,193,7,0⟩,true):=by decide +kernel
  have h1:mayP ⟨19,64,dst,src,base,disp,imm,cc⟩=(eqX ⟨19,64,dst,src,base,disp,imm,cc⟩ ⟨19,64,dst,0,0,0,imm,0⟩ && fitsP ⟨19,64,dst,src,base,disp,imm,cc⟩ ⟨4,96,193,7,0⟩):=by unfold mayP;simp only [e,Bool.true_and];rfl
  rw [h1]
  show (eqX ⟨19,64,dst,src,base,disp,imm,cc⟩ ⟨19,64,dst,0,0,0,imm,0⟩ && (regB dst && (regB src && (regB base && (true && (decide (0 ≤ imm) && decide (imm < 64)))))))=(true && (eqX ⟨19,64,dst,src,base,disp,imm,cc⟩ ⟨19,64,dst,0,0,0,imm,0⟩ && (regB dst && (regB src && (regB base && (fourB disp && (fourB imm && (decide (0 ≤ imm) && decide (imm < 64)))))))))
  exact bool_n _ _ _ _ _ _ _ _ disp0 (fun h=>by unfold fourB;simp only [Bool.and_eq_true,decide_eq_true_eq] at h ⊢;omega) rfl
theorem mp_20_0 (dst src base disp imm cc:Int):mayP ⟨20,0,dst,src,base,disp,imm,cc⟩=mayX ⟨20,0,dst,src,base,disp,imm,cc⟩:=by
  have e:codeOfP 20 0=(zCd,false):=by decide +kernel
  have h1:mayP ⟨20,0,dst,src,base,disp,imm,cc⟩=false:=by unfold mayP;simp only [e,Bool.false_and]
  rw [h1]
  show false=(true && (eqX ⟨20,0,dst,src,base,disp,imm,cc⟩ ⟨20,0,dst,0,0,0,0,0⟩ && (regB dst && (regB src && (regB base && (fourB disp && (fourB imm && clsB 4 ⟨20,0,dst,src,base,disp,imm,cc⟩)))))))
  rw [show clsB 4 ⟨20,0,dst,src,base,disp,imm,cc⟩=false from rfl]
  simp only [Bool.and_false]
theorem mp_20_8 (dst src base disp imm cc:Int):mayP ⟨20,8,dst,src,base,disp,imm,cc⟩=mayX ⟨20,8,dst,src,base,disp,imm,cc⟩:=by
  have e:codeOfP 20 8=(zCd,false):=by decide +kernel
  have h1:mayP ⟨20,8,dst,src,base,disp,imm,cc⟩=false:=by unfold mayP;simp only [e,Bool.false_and]
  rw [h1]
  show false=(true && (eqX ⟨20,8,dst,src,base,disp,imm,cc⟩ ⟨20,8,dst,0,0,0,0,0⟩ && (regB dst && (regB src && (regB base && (fourB disp && (fourB imm && clsB 4 ⟨20,8,dst,src,base,disp,imm,cc⟩)))))))
  rw [show clsB 4 ⟨20,8,dst,src,base,disp,imm,cc⟩=false from rfl]
  simp only [Bool.and_false]
theorem mp_20_16 (dst src base disp imm cc:Int):mayP ⟨20,16,dst,src,base,disp,imm,cc⟩=mayX ⟨20,16,dst,src,base,disp,imm,cc⟩:=by
  have e:codeOfP 20 16=(zCd,false):=by decide +kernel
  have h1:mayP ⟨20,16,dst,src,base,disp,imm,cc⟩=false:=by unfold mayP;simp only [e,Bool.false_and]
  rw [h1]
  show false=(true && (eqX ⟨20,16,dst,src,base,disp,imm,cc⟩ ⟨20,16,dst,0,0,0,0,0⟩ && (regB dst && (regB src && (regB base && (fourB disp && (fourB imm && clsB 4 ⟨20,16,dst,src,base,disp,imm,cc⟩)))))))
  rw [show clsB 4 ⟨20,16,dst,src,base,disp,imm,cc⟩=false from rfl]
  simp only [Bool.and_false]
theorem mp_20_32 (dst src base disp imm cc:Int):mayP ⟨20,32,dst,src,base,disp,imm,cc⟩=mayX ⟨20,32,dst,src,base,disp,imm,cc⟩:=by
  have e:codeOfP 20 32=(⟨5,96,211,4,0⟩,true):=by decide +kernel
  have h1:mayP ⟨20,32,dst,src,base,disp,imm,cc⟩=(eqX ⟨20,32,dst,src,base,disp,imm,cc⟩ ⟨20,32,dst,0,0,0,0,0⟩ && fitsP ⟨20,32,dst,src,base,disp,imm,cc⟩ ⟨5,96,211,4,0⟩):=by unfold mayP;simp only [e,Bool.true_and];rfl
  rw [h1]
  show (eqX ⟨20,32,dst,src,base,disp,imm,cc⟩ ⟨20,32,dst,0,0,0,0,0⟩ && (regB dst && (regB src && (regB base && (true && (fourB imm && fourB disp))))))=(true && (eqX ⟨20,32,dst,src,base,disp,imm,cc⟩ ⟨20,32,dst,0,0,0,0,0⟩ && (regB dst && (regB src && (regB base && (fourB disp && (fourB imm && true)))))))
  exact bool_a _ _ _ _ _ _
theorem mp_20_64 (dst src base disp imm cc:Int):mayP ⟨20,64,dst,src,base,disp,imm,cc⟩=mayX ⟨20,64,dst,src,base,disp,imm,cc⟩:=by
  have e:codeOfP 20 64=(⟨5,96,211,4,0⟩,true):=by decide +kernel
  have h1:mayP ⟨20,64,dst,src,base,disp,imm,cc⟩=(eqX ⟨20,64,dst,src,base,disp,imm,cc⟩ ⟨20,64,dst,0,0,0,0,0⟩ && fitsP ⟨20,64,dst,src,base,disp,imm,cc⟩ ⟨5,96,211,4,0⟩):=by unfold mayP;simp only [e,Bool.true_and];rfl
  rw [h1]
  show (eqX ⟨20,64,dst,src,base,disp,imm,cc⟩ ⟨20,64,dst,0,0,0,0,0⟩ && (regB dst && (regB src && (regB base && (true && (fourB imm && fourB disp))))))=(true && (eqX ⟨20,64,dst,src,base,disp,imm,cc⟩ ⟨20,64,dst,0,0,0,0,0⟩ && (regB dst && (regB src && (regB base && (fourB disp && (fourB imm && true)))))))
  exact bool_a _ _ _ _ _ _
theorem mp_21_0 (dst src base disp imm cc:Int):mayP ⟨21,0,dst,src,base,disp,imm,cc⟩=mayX ⟨21,0,dst,src,base,disp,imm,cc⟩:=by
  have e:codeOfP 21 0=(zCd,false):=by decide +kernel
  have h1:mayP ⟨21,0,dst,src,base,disp,imm,cc⟩=false:=by unfold mayP;simp only [e,Bool.false_and]
  rw [h1]
  show false=(true && (eqX ⟨21,0,dst,src,base,disp,imm,cc⟩ ⟨21,0,dst,0,0,0,0,0⟩ && (regB dst && (regB src && (regB base && (fourB disp && (fourB imm && clsB 4 ⟨21,0,dst,src,base,disp,imm,cc⟩)))))))
  rw [show clsB 4 ⟨21,0,dst,src,base,disp,imm,cc⟩=false from rfl]
  simp only [Bool.and_false]
theorem mp_21_8 (dst src base disp imm cc:Int):mayP ⟨21,8,dst,src,base,disp,imm,cc⟩=mayX ⟨21,8,dst,src,base,disp,imm,cc⟩:=by
  have e:codeOfP 21 8=(zCd,false):=by decide +kernel
  have h1:mayP ⟨21,8,dst,src,base,disp,imm,cc⟩=false:=by unfold mayP;simp only [e,Bool.false_and]
  rw [h1]
  show false=(true && (eqX ⟨21,8,dst,src,base,disp,imm,cc⟩ ⟨21,8,dst,0,0,0,0,0⟩ && (regB dst && (regB src && (regB base && (fourB disp && (fourB imm && clsB 4 ⟨21,8,dst,src,base,disp,imm,cc⟩)))))))
  rw [show clsB 4 ⟨21,8,dst,src,base,disp,imm,cc⟩=false from rfl]
  simp only [Bool.and_false]
theorem mp_21_16 (dst src base disp imm cc:Int):mayP ⟨21,16,dst,src,base,disp,imm,cc⟩=mayX ⟨21,16,dst,src,base,disp,imm,cc⟩:=by
  have e:codeOfP 21 16=(zCd,false):=by decide +kernel
  have h1:mayP ⟨21,16,dst,src,base,disp,imm,cc⟩=false:=by unfold mayP;simp only [e,Bool.false_and]
  rw [h1]
  show false=(true && (eqX ⟨21,16,dst,src,base,disp,imm,cc⟩ ⟨21,16,dst,0,0,0,0,0⟩ && (regB dst && (regB src && (regB base && (fourB disp && (fourB imm && clsB 4 ⟨21,16,dst,src,base,disp,imm,cc⟩)))))))
  rw [show clsB 4 ⟨21,16,dst,src,base,disp,imm,cc⟩=false from rfl]
  simp only [Bool.and_false]
theorem mp_21_32 (dst src base disp imm cc:Int):mayP ⟨21,32,dst,src,base,disp,imm,cc⟩=mayX ⟨21,32,dst,src,base,disp,imm,cc⟩:=by
  have e:codeOfP 21 32=(⟨5,96,211,5,0⟩,true):=by decide +kernel
  have h1:mayP ⟨21,32,dst,src,base,disp,imm,cc⟩=(eqX ⟨21,32,dst,src,base,disp,imm,cc⟩ ⟨21,32,dst,0,0,0,0,0⟩ && fitsP ⟨21,32,dst,src,base,disp,imm,cc⟩ ⟨5,96,211,5,0⟩):=by unfold mayP;simp only [e,Bool.true_and];rfl
  rw [h1]
  show (eqX ⟨21,32,dst,src,base,disp,imm,cc⟩ ⟨21,32,dst,0,0,0,0,0⟩ && (regB dst && (regB src && (regB base && (true && (fourB imm && fourB disp))))))=(true && (eqX ⟨21,32,dst,src,base,disp,imm,cc⟩ ⟨21,32,dst,0,0,0,0,0⟩ && (regB dst && (regB src && (regB base && (fourB disp && (fourB imm && true)))))))
  exact bool_a _ _ _ _ _ _
theorem mp_21_64 (dst src base disp imm cc:Int):mayP ⟨21,64,dst,src,base,disp,imm,cc⟩=mayX ⟨21,64,dst,src,base,disp,imm,cc⟩:=by
  have e:codeOfP 21 64=(⟨5,96,211,5,0⟩,true):=by decide +kernel
  have h1:mayP ⟨21,64,dst,src,base,disp,imm,cc⟩=(eqX ⟨21,64,dst,src,base,disp,imm,cc⟩ ⟨21,64,dst,0,0,0,0,0⟩ && fitsP ⟨21,64,dst,src,base,disp,imm,cc⟩ ⟨5,96,211,5,0⟩):=by unfold mayP;simp only [e,Bool.true_and];rfl
  rw [h1]
  show (eqX ⟨21,64,dst,src,base,disp,imm,cc⟩ ⟨21,64,dst,0,0,0,0,0⟩ && (regB dst && (regB src && (regB base && (true && (fourB imm && fourB disp))))))=(true && (eqX ⟨21,64,dst,src,base,disp,imm,cc⟩ ⟨21,64,dst,0,0,0,0,0⟩ && (regB dst && (regB src && (regB base && (fourB disp && (fourB imm && true)))))))
  exact bool_a _ _ _ _ _ _
theorem mp_22_0 (dst src base disp imm cc:Int):mayP ⟨22,0,dst,src,base,disp,imm,cc⟩=mayX ⟨22,0,dst,src,base,disp,imm,cc⟩:=by
  have e:codeOfP 22 0=(zCd,false):=by decide +kernel
  have h1:mayP ⟨22,0,dst,src,base,disp,imm,cc⟩=false:=by unfold mayP;simp only [e,Bool.false_and]
  rw [h1]
  show false=(true && (eqX ⟨22,0,dst,src,base,disp,imm,cc⟩ ⟨22,0,dst,0,0,0,0,0⟩ && (regB dst && (regB src && (regB base && (fourB disp && (fourB imm && clsB 4 ⟨22,0,dst,src,base,disp,imm,cc⟩)))))))
  rw [show clsB 4 ⟨22,0,dst,src,base,disp,imm,cc⟩=false from rfl]
  simp only [Bool.and_false]
theorem mp_22_8 (dst src base disp imm cc:Int):mayP ⟨22,8,dst,src,base,disp,imm,cc⟩=mayX ⟨22,8,dst,src,base,disp,imm,cc⟩:=by
  have e:codeOfP 22 8=(zCd,false):=by decide +kernel
  have h1:mayP ⟨22,8,dst,src,base,disp,imm,cc⟩=false:=by unfold mayP;simp only [e,Bool.false_and]
  rw [h1]
  show false=(true && (eqX ⟨22,8,dst,src,base,disp,imm,cc⟩ ⟨22,8,dst,0,0,0,0,0⟩ && (regB dst && (regB src && (regB base && (fourB disp && (fourB imm && clsB 4 ⟨22,8,dst,src,base,disp,imm,cc⟩)))))))
  rw [show clsB 4 ⟨22,8,dst,src,base,disp,imm,cc⟩=false from rfl]
  simp only [Bool.and_false]
theorem mp_22_16 (dst src base disp imm cc:Int):mayP ⟨22,16,dst,src,base,disp,imm,cc⟩=mayX ⟨22,16,dst,src,base,disp,imm,cc⟩:=by
  have e:codeOfP 22 16=(zCd,false):=by decide +kernel
  have h1:mayP ⟨22,16,dst,src,base,disp,imm,cc⟩=false:=by unfold mayP;simp only [e,Bool.false_and]
  rw [h1]
  show false=(true && (eqX ⟨22,16,dst,src,base,disp,imm,cc⟩ ⟨22,16,dst,0,0,0,0,0⟩ && (regB dst && (regB src && (regB base && (fourB disp && (fourB imm && clsB 4 ⟨22,16,dst,src,base,disp,imm,cc⟩)))))))
  rw [show clsB 4 ⟨22,16,dst,src,base,disp,imm,cc⟩=false from rfl]
  simp only [Bool.and_false]
theorem mp_22_32 (dst src base disp imm cc:Int):mayP ⟨22,32,dst,src,base,disp,imm,cc⟩=mayX ⟨22,32,dst,src,base,disp,imm,cc⟩:=by
  have e:codeOfP 22 32=(⟨5,96,211,7,0⟩,true):=by decide +kernel
  have h1:mayP ⟨22,32,dst,src,base,disp,imm,cc⟩=(eqX ⟨22,32,dst,src,base,disp,imm,cc⟩ ⟨22,32,dst,0,0,0,0,0⟩ && fitsP ⟨22,32,dst,src,base,disp,imm,cc⟩ ⟨5,96,211,7,0⟩):=by unfold mayP;simp only [e,Bool.true_and];rfl
  rw [h1]
  show (eqX ⟨22,32,dst,src,base,disp,imm,cc⟩ ⟨22,32,dst,0,0,0,0,0⟩ && (regB dst && (regB src && (regB base && (true && (fourB imm && fourB disp))))))=(true && (eqX ⟨22,32,dst,src,base,disp,imm,cc⟩ ⟨22,32,dst,0,0,0,0,0⟩ && (regB dst && (regB src && (regB base && (fourB disp && (fourB imm && true)))))))
  exact bool_a _ _ _ _ _ _
theorem mp_22_64 (dst src base disp imm cc:Int):mayP ⟨22,64,dst,src,base,disp,imm,cc⟩=mayX ⟨22,64,dst,src,base,disp,imm,cc⟩:=by
  have e:codeOfP 22 64=(⟨5,96,211,7,0⟩,true):=by decide +kernel
  have h1:mayP ⟨22,64,dst,src,base,disp,imm,cc⟩=(eqX ⟨22,64,dst,src,base,disp,imm,cc⟩ ⟨22,64,dst,0,0,0,0,0⟩ && fitsP ⟨22,64,dst,src,base,disp,imm,cc⟩ ⟨5,96,211,7,0⟩):=by unfold mayP;simp only [e,Bool.true_and];rfl
  rw [h1]
  show (eqX ⟨22,64,dst,src,base,disp,imm,cc⟩ ⟨22,64,dst,0,0,0,0,0⟩ && (regB dst && (regB src && (regB base && (true && (fourB imm && fourB disp))))))=(true && (eqX ⟨22,64,dst,src,base,disp,imm,cc⟩ ⟨22,64,dst,0,0,0,0,0⟩ && (regB dst && (regB src && (regB base && (fourB disp && (fourB imm && true)))))))
  exact bool_a _ _ _ _ _ _
theorem mp_23_0 (dst src base disp imm cc:Int):mayP ⟨23,0,dst,src,base,disp,imm,cc⟩=mayX ⟨23,0,dst,src,base,disp,imm,cc⟩:=by
  have e:codeOfP 23 0=(zCd,false):=by decide +kernel
  have h1:mayP ⟨23,0,dst,src,base,disp,imm,cc⟩=false:=by unfold mayP;simp only [e,Bool.false_and]
  rw [h1]
  show false=(true && (eqX ⟨23,0,dst,src,base,disp,imm,cc⟩ ⟨23,0,dst,0,0,0,0,0⟩ && (regB dst && (regB src && (regB base && (fourB disp && (fourB imm && clsB 4 ⟨23,0,dst,src,base,disp,imm,cc⟩)))))))
  rw [show clsB 4 ⟨23,0,dst,src,base,disp,imm,cc⟩=false from rfl]
  simp only [Bool.and_false]
theorem mp_23_8 (dst src base disp imm cc:Int):mayP ⟨23,8,dst,src,base,disp,imm,cc⟩=mayX ⟨23,8,dst,src,base,disp,imm,cc⟩:=by
  have e:codeOfP 23 8=(zCd,false):=by decide +kernel
  have h1:mayP ⟨23,8,dst,src,base,disp,imm,cc⟩=false:=by unfold mayP;simp only [e,Bool.false_and]
  rw [h1]
  show false=(true && (eqX ⟨23,8,dst,src,base,disp,imm,cc⟩ ⟨23,8,dst,0,0,0,0,0⟩ && (regB dst && (regB src && (regB base && (fourB disp && (fourB imm && clsB 4 ⟨23,8,dst,src,base,disp,imm,cc⟩)))))))
  rw [show clsB 4 ⟨23,8,dst,src,base,disp,imm,cc⟩=false from rfl]
  simp only [Bool.and_false]
theorem mp_23_16 (dst src base disp imm cc:Int):mayP ⟨23,16,dst,src,base,disp,imm,cc⟩=mayX ⟨23,16,dst,src,base,disp,imm,cc⟩:=by
  have e:codeOfP 23 16=(zCd,false):=by decide +kernel
  have h1:mayP ⟨23,16,dst,src,base,disp,imm,cc⟩=false:=by unfold mayP;simp only [e,Bool.false_and]
  rw [h1]
  show false=(true && (eqX ⟨23,16,dst,src,base,disp,imm,cc⟩ ⟨23,16,dst,0,0,0,0,0⟩ && (regB dst && (regB src && (regB base && (fourB disp && (fourB imm && clsB 4 ⟨23,16,dst,src,base,disp,imm,cc⟩)))))))
  rw [show clsB 4 ⟨23,16,dst,src,base,disp,imm,cc⟩=false from rfl]
  simp only [Bool.and_false]
theorem mp_23_32 (dst src base disp imm cc:Int):mayP ⟨23,32,dst,src,base,disp,imm,cc⟩=mayX ⟨23,32,dst,src,base,disp,imm,cc⟩:=by
  have e:codeOfP 23 32=(⟨5,96,247,3,0⟩,true):=by decide +kernel
  have h1:mayP ⟨23,32,dst,src,base,disp,imm,cc⟩=(eqX ⟨23,32,dst,src,base,disp,imm,cc⟩ ⟨23,32,dst,0,0,0,0,0⟩ && fitsP ⟨23,32,dst,src,base,disp,imm,cc⟩ ⟨5,96,247,3,0⟩):=by unfold mayP;simp only [e,Bool.true_and];rfl
  rw [h1]
  show (eqX ⟨23,32,dst,src,base,disp,imm,cc⟩ ⟨23,32,dst,0,0,0,0,0⟩ && (regB dst && (regB src && (regB base && (true && (fourB imm && fourB disp))))))=(true && (eqX ⟨23,32,dst,src,base,disp,imm,cc⟩ ⟨23,32,dst,0,0,0,0,0⟩ && (regB dst && (regB src && (regB base && (fourB disp && (fourB imm && true)))))))
  exact bool_a _ _ _ _ _ _
theorem mp_23_64 (dst src base disp imm cc:Int):mayP ⟨23,64,dst,src,base,disp,imm,cc⟩=mayX ⟨23,64,dst,src,base,disp,imm,cc⟩:=by
  have e:codeOfP 23 64=(⟨5,96,247,3,0⟩,true):=by decide +kernel
  have h1:mayP ⟨23,64,dst,src,base,disp,imm,cc⟩=(eqX ⟨23,64,dst,src,base,disp,imm,cc⟩ ⟨23,64,dst,0,0,0,0,0⟩ && fitsP ⟨23,64,dst,src,base,disp,imm,cc⟩ ⟨5,96,247,3,0⟩):=by unfold mayP;simp only [e,Bool.true_and];rfl
  rw [h1]
  show (eqX ⟨23,64,dst,src,base,disp,imm,cc⟩ ⟨23,64,dst,0,0,0,0,0⟩ && (regB dst && (regB src && (regB base && (true && (fourB imm && fourB disp))))))=(true && (eqX ⟨23,64,dst,src,base,disp,imm,cc⟩ ⟨23,64,dst,0,0,0,0,0⟩ && (regB dst && (regB src && (regB base && (fourB disp && (fourB imm && true)))))))
  exact bool_a _ _ _ _ _ _
theorem mp_24_0 (dst src base disp imm cc:Int):mayP ⟨24,0,dst,src,base,disp,imm,cc⟩=mayX ⟨24,0,dst,src,base,disp,imm,cc⟩:=by
  have e:codeOfP 24 0=(zCd,false):=by decide +kernel
  have h1:mayP ⟨24,0,dst,src,base,disp,imm,cc⟩=false:=by unfold mayP;simp only [e,Bool.false_and]
  rw [h1]
  show false=(true && (eqX ⟨24,0,dst,src,base,disp,imm,cc⟩ ⟨24,0,dst,0,0,0,0,0⟩ && (regB dst && (regB src && (regB base && (fourB disp && (fourB imm && clsB 4 ⟨24,0,dst,src,base,disp,imm,cc⟩)))))))
  rw [show clsB 4 ⟨24,0,dst,src,base,disp,imm,cc⟩=false from rfl]
  simp only [Bool.and_false]
theorem mp_24_8 (dst src base disp imm cc:Int):mayP ⟨24,8,dst,src,base,disp,imm,cc⟩=mayX ⟨24,8,dst,src,base,disp,imm,cc⟩:=by
  have e:codeOfP 24 8=(zCd,false):=by decide +kernel
  have h1:mayP ⟨24,8,dst,src,base,disp,imm,cc⟩=false:=by unfold mayP;simp only [e,Bool.false_and]
  rw [h1]
  show false=(true && (eqX ⟨24,8,dst,src,base,disp,imm,cc⟩ ⟨24,8,dst,0,0,0,0,0⟩ && (regB dst && (regB src && (regB base && (fourB disp && (fourB imm && clsB 4 ⟨24,8,dst,src,base,disp,imm,cc⟩)))))))
  rw [show clsB 4 ⟨24,8,dst,src,base,disp,imm,cc⟩=false from rfl]
  simp only [Bool.and_false]
theorem mp_24_16 (dst src base disp imm cc:Int):mayP ⟨24,16,dst,src,base,disp,imm,cc⟩=mayX ⟨24,16,dst,src,base,disp,imm,cc⟩:=by
  have e:codeOfP 24 16=(zCd,false):=by decide +kernel
  have h1:mayP ⟨24,16,dst,src,base,disp,imm,cc⟩=false:=by unfold mayP;simp only [e,Bool.false_and]
  rw [h1]
  show false=(true && (eqX ⟨24,16,dst,src,base,disp,imm,cc⟩ ⟨24,16,dst,0,0,0,0,0⟩ && (regB dst && (regB src && (regB base && (fourB disp && (fourB imm && clsB 4 ⟨24,16,dst,src,base,disp,imm,cc⟩)))))))
  rw [show clsB 4 ⟨24,16,dst,src,base,disp,imm,cc⟩=false from rfl]
  simp only [Bool.and_false]
theorem mp_24_32 (dst src base disp imm cc:Int):mayP ⟨24,32,dst,src,base,disp,imm,cc⟩=mayX ⟨24,32,dst,src,base,disp,imm,cc⟩:=by
  have e:codeOfP 24 32=(⟨5,96,247,6,0⟩,true):=by decide +kernel
  have h1:mayP ⟨24,32,dst,src,base,disp,imm,cc⟩=(eqX ⟨24,32,dst,src,base,disp,imm,cc⟩ ⟨24,32,dst,0,0,0,0,0⟩ && fitsP ⟨24,32,dst,src,base,disp,imm,cc⟩ ⟨5,96,247,6,0⟩):=by unfold mayP;simp only [e,Bool.true_and];rfl
  rw [h1]
  show (eqX ⟨24,32,dst,src,base,disp,imm,cc⟩ ⟨24,32,dst,0,0,0,0,0⟩ && (regB dst && (regB src && (regB base && (true && (fourB imm && fourB disp))))))=(true && (eqX ⟨24,32,dst,src,base,disp,imm,cc⟩ ⟨24,32,dst,0,0,0,0,0⟩ && (regB dst && (regB src && (regB base && (fourB disp && (fourB imm && true)))))))
  exact bool_a _ _ _ _ _ _
theorem mp_24_64 (dst src base disp imm cc:Int):mayP ⟨24,64,dst,src,base,disp,imm,cc⟩=mayX ⟨24,64,dst,src,base,disp,imm,cc⟩:=by
  have e:codeOfP 24 64=(⟨5,96,247,6,0⟩,true):=by decide +kernel
  have h1:mayP ⟨24,64,dst,src,base,disp,imm,cc⟩=(eqX ⟨24,64,dst,src,base,disp,imm,cc⟩ ⟨24,64,dst,0,0,0,0,0⟩ && fitsP ⟨24,64,dst,src,base,disp,imm,cc⟩ ⟨5,96,247,6,0⟩):=by unfold mayP;simp only [e,Bool.true_and];rfl
  rw [h1]
  show (eqX ⟨24,64,dst,src,base,disp,imm,cc⟩ ⟨24,64,dst,0,0,0,0,0⟩ && (regB dst && (regB src && (regB base && (true && (fourB imm && fourB disp))))))=(true && (eqX ⟨24,64,dst,src,base,disp,imm,cc⟩ ⟨24,64,dst,0,0,0,0,0⟩ && (regB dst && (regB src && (regB base && (fourB disp && (fourB imm && true)))))))
  exact bool_a _ _ _ _ _ _
theorem mp_25_0 (dst src base disp imm cc:Int):mayP ⟨25,0,dst,src,base,disp,imm,cc⟩=mayX ⟨25,0,dst,src,base,disp,imm,cc⟩:=by
  have e:codeOfP 25 0=(zCd,false):=by decide +kernel
  have h1:mayP ⟨25,0,dst,src,base,disp,imm,cc⟩=false:=by unfold mayP;simp only [e,Bool.false_and]
  rw [h1]
  show false=(true && (eqX ⟨25,0,dst,src,base,disp,imm,cc⟩ ⟨25,0,dst,src,0,0,0,cc⟩ && (regB dst && (regB src && (regB base && (fourB disp && (fourB imm && clsB 5 ⟨25,0,dst,src,base,disp,imm,cc⟩)))))))
  rw [show clsB 5 ⟨25,0,dst,src,base,disp,imm,cc⟩=false from by unfold clsB;simp [longB,jmpB]]
  simp only [Bool.and_false]
theorem mp_25_8 (dst src base disp imm cc:Int):mayP ⟨25,8,dst,src,base,disp,imm,cc⟩=mayX ⟨25,8,dst,src,base,disp,imm,cc⟩:=by
  have e:codeOfP 25 8=(zCd,false):=by decide +kernel
  have h1:mayP ⟨25,8,dst,src,base,disp,imm,cc⟩=false:=by unfold mayP;simp only [e,Bool.false_and]
  rw [h1]
  show false=(true && (eqX ⟨25,8,dst,src,base,disp,imm,cc⟩ ⟨25,8,dst,src,0,0,0,cc⟩ && (regB dst && (regB src && (regB base && (fourB disp && (fourB imm && clsB 5 ⟨25,8,dst,src,base,disp,imm,cc⟩)))))))
  rw [show clsB 5 ⟨25,8,dst,src,base,disp,imm,cc⟩=false from by unfold clsB;simp [longB,jmpB]]
  simp only [Bool.and_false]
theorem mp_25_16 (dst src base disp imm cc:Int):mayP ⟨25,16,dst,src,base,disp,imm,cc⟩=mayX ⟨25,16,dst,src,base,disp,imm,cc⟩:=by
  have e:codeOfP 25 16=(zCd,false):=by decide +kernel
  have h1:mayP ⟨25,16,dst,src,base,disp,imm,cc⟩=false:=by unfold mayP;simp only [e,Bool.false_and]
  rw [h1]
  show false=(true && (eqX ⟨25,16,dst,src,base,disp,imm,cc⟩ ⟨25,16,dst,src,0,0,0,cc⟩ && (regB dst && (regB src && (regB base && (fourB disp && (fourB imm && clsB 5 ⟨25,16,dst,src,base,disp,imm,cc⟩)))))))
  rw [show clsB 5 ⟨25,16,dst,src,base,disp,imm,cc⟩=false from by unfold clsB;simp [longB,jmpB]]
  simp only [Bool.and_false]
theorem mp_25_32 (dst src base disp imm cc:Int):mayP ⟨25,32,dst,src,base,disp,imm,cc⟩=mayX ⟨25,32,dst,src,base,disp,imm,cc⟩:=by
  have e:codeOfP 25 32=(⟨2,96,3904,0,15⟩,true):=by decide +kernel
  have h1:mayP ⟨25,32,dst,src,base,disp,imm,cc⟩=(eqX ⟨25,32,dst,src,base,disp,imm,cc⟩ ⟨25,32,dst,src,0,0,0,cc⟩ && fitsP ⟨25,32,dst,src,base,disp,imm,cc⟩ ⟨2,96,3904,0,15⟩):=by unfold mayP;simp only [e,Bool.true_and];rfl
  rw [h1]
  show (eqX ⟨25,32,dst,src,base,disp,imm,cc⟩ ⟨25,32,dst,src,0,0,0,cc⟩ && (regB dst && (regB src && (regB base && (!(true && !(ccB cc)) && (fourB imm && fourB disp))))))=(true && (eqX ⟨25,32,dst,src,base,disp,imm,cc⟩ ⟨25,32,dst,src,0,0,0,cc⟩ && (regB dst && (regB src && (regB base && (fourB disp && (fourB imm && ccB cc)))))))
  exact bool_c _ _ _ _ _ _ _
theorem mp_25_64 (dst src base disp imm cc:Int):mayP ⟨25,64,dst,src,base,disp,imm,cc⟩=mayX ⟨25,64,dst,src,base,disp,imm,cc⟩:=by
  have e:codeOfP 25 64=(⟨2,96,3904,0,15⟩,true):=by decide +kernel
  have h1:mayP ⟨25,64,dst,src,base,disp,imm,cc⟩=(eqX ⟨25,64,dst,src,base,disp,imm,cc⟩ ⟨25,64,dst,src,0,0,0,cc⟩ && fitsP ⟨25,64,dst,src,base,disp,imm,cc⟩ ⟨2,96,3904,0,15⟩):=by unfold mayP;simp only [e,Bool.true_and];rfl
  rw [h1]
  show (eqX ⟨25,64,dst,src,base,disp,imm,cc⟩ ⟨25,64,dst,src,0,0,0,cc⟩ && (regB dst && (regB src && (regB base && (!(true && !(ccB cc)) && (fourB imm && fourB disp))))))=(true && (eqX ⟨25,64,dst,src,base,disp,imm,cc⟩ ⟨25,64,dst,src,0,0,0,cc⟩ && (regB dst && (regB src && (regB base && (fourB disp && (fourB imm && ccB cc)))))))
  exact bool_c _ _ _ _ _ _ _
theorem mp_26_0 (dst src base disp imm cc:Int):mayP ⟨26,0,dst,src,base,disp,imm,cc⟩=mayX ⟨26,0,dst,src,base,disp,imm,cc⟩:=by
  have e:codeOfP 26 0=(zCd,false):=by decide +kernel
  have h1:mayP ⟨26,0,dst,src,base,disp,imm,cc⟩=false:=by unfold mayP;simp only [e,Bool.false_and]
  rw [h1]
  show false=(true && (eqX ⟨26,0,dst,src,base,disp,imm,cc⟩ ⟨26,0,dst,0,base,disp,0,0⟩ && (regB dst && (regB src && (regB base && (fourB disp && (fourB imm && clsB 6 ⟨26,0,dst,src,base,disp,imm,cc⟩)))))))
  rw [show clsB 6 ⟨26,0,dst,src,base,disp,imm,cc⟩=false from rfl]
  simp only [Bool.and_false]
theorem mp_26_8 (dst src base disp imm cc:Int):mayP ⟨26,8,dst,src,base,disp,imm,cc⟩=mayX ⟨26,8,dst,src,base,disp,imm,cc⟩:=by
  have e:codeOfP 26 8=(⟨7,8,4022,0,0⟩,true):=by decide +kernel
  have h1:mayP ⟨26,8,dst,src,base,disp,imm,cc⟩=(eqX ⟨26,8,dst,src,base,disp,imm,cc⟩ ⟨26,8,dst,0,base,disp,0,0⟩ && fitsP ⟨26,8,dst,src,base,disp,imm,cc⟩ ⟨7,8,4022,0,0⟩):=by unfold mayP;simp only [e,Bool.true_and];rfl
  rw [h1]
  show (eqX ⟨26,8,dst,src,base,disp,imm,cc⟩ ⟨26,8,dst,0,base,disp,0,0⟩ && (regB dst && (regB src && (regB base && (true && (fourB imm && fourB disp))))))=(true && (eqX ⟨26,8,dst,src,base,disp,imm,cc⟩ ⟨26,8,dst,0,base,disp,0,0⟩ && (regB dst && (regB src && (regB base && (fourB disp && (fourB imm && true)))))))
  exact bool_a _ _ _ _ _ _
theorem mp_26_16 (dst src base disp imm cc:Int):mayP ⟨26,16,dst,src,base,disp,imm,cc⟩=mayX ⟨26,16,dst,src,base,disp,imm,cc⟩:=by
  have e:codeOfP 26 16=(⟨7,16,4023,0,0⟩,true):=by decide +kernel
  have h1:mayP ⟨26,16,dst,src,base,disp,imm,cc⟩=(eqX ⟨26,16,dst,src,base,disp,imm,cc⟩ ⟨26,16,dst,0,base,disp,0,0⟩ && fitsP ⟨26,16,dst,src,base,disp,imm,cc⟩ ⟨7,16,4023,0,0⟩):=by unfold mayP;simp only [e,Bool.true_and];rfl
  rw [h1]
  show (eqX ⟨26,16,dst,src,base,disp,imm,cc⟩ ⟨26,16,dst,0,base,disp,0,0⟩ && (regB dst && (regB src && (regB base && (true && (fourB imm && fourB disp))))))=(true && (eqX ⟨26,16,dst,src,base,disp,imm,cc⟩ ⟨26,16,dst,0,base,disp,0,0⟩ && (regB dst && (regB src && (regB base && (fourB disp && (fourB imm && true)))))))
  exact bool_a _ _ _ _ _ _
theorem mp_26_32 (dst src base disp imm cc:Int):mayP ⟨26,32,dst,src,base,disp,imm,cc⟩=mayX ⟨26,32,dst,src,base,disp,imm,cc⟩:=by
  have e:codeOfP 26 32=(⟨7,96,139,0,0⟩,true):=by decide +kernel
  have h1:mayP ⟨26,32,dst,src,base,disp,imm,cc⟩=(eqX ⟨26,32,dst,src,base,disp,imm,cc⟩ ⟨26,32,dst,0,base,disp,0,0⟩ && fitsP ⟨26,32,dst,src,base,disp,imm,cc⟩ ⟨7,96,139,0,0⟩):=by unfold mayP;simp only [e,Bool.true_and];rfl
  rw [h1]
  show (eqX ⟨26,32,dst,src,base,disp,imm,cc⟩ ⟨26,32,dst,0,base,disp,0,0⟩ && (regB dst && (regB src && (regB base && (true && (fourB imm && fourB disp))))))=(true && (eqX ⟨26,32,dst,src,base,disp,imm,cc⟩ ⟨26,32,dst,0,base,disp,0,0⟩ && (regB dst && (regB src && (regB base && (fourB disp && (fourB imm && true)))))))
  exact bool_a _ _ _ _ _ _
theorem mp_26_64 (dst src base disp imm cc:Int):mayP ⟨26,64,dst,src,base,disp,imm,cc⟩=mayX ⟨26,64,dst,src,base,disp,imm,cc⟩:=by
  have e:codeOfP 26 64=(⟨7,96,139,0,0⟩,true):=by decide +kernel
  have h1:mayP ⟨26,64,dst,src,base,disp,imm,cc⟩=(eqX ⟨26,64,dst,src,base,disp,imm,cc⟩ ⟨26,64,dst,0,base,disp,0,0⟩ && fitsP ⟨26,64,dst,src,base,disp,imm,cc⟩ ⟨7,96,139,0,0⟩):=by unfold mayP;simp only [e,Bool.true_and];rfl
  rw [h1]
  show (eqX ⟨26,64,dst,src,base,disp,imm,cc⟩ ⟨26,64,dst,0,base,disp,0,0⟩ && (regB dst && (regB src && (regB base && (true && (fourB imm && fourB disp))))))=(true && (eqX ⟨26,64,dst,src,base,disp,imm,cc⟩ ⟨26,64,dst,0,base,disp,0,0⟩ && (regB dst && (regB src && (regB base && (fourB disp && (fourB imm && true)))))))
  exact bool_a _ _ _ _ _ _
theorem mp_27_0 (dst src base disp imm cc:Int):mayP ⟨27,0,dst,src,base,disp,imm,cc⟩=mayX ⟨27,0,dst,src,base,disp,imm,cc⟩:=by
  have e:codeOfP 27 0=(zCd,false):=by decide +kernel
  have h1:mayP ⟨27,0,dst,src,base,disp,imm,cc⟩=false:=by unfold mayP;simp only [e,Bool.false_and]
  rw [h1]
  show false=(true && (eqX ⟨27,0,dst,src,base,disp,imm,cc⟩ ⟨27,0,0,src,base,disp,0,0⟩ && (regB dst && (regB src && (regB base && (fourB disp && (fourB imm && clsB 7 ⟨27,0,dst,src,base,disp,imm,cc⟩)))))))
  rw [show clsB 7 ⟨27,0,dst,src,base,disp,imm,cc⟩=false from rfl]
  simp only [Bool.and_false]
theorem mp_27_8 (dst src base disp imm cc:Int):mayP ⟨27,8,dst,src,base,disp,imm,cc⟩=mayX ⟨27,8,dst,src,base,disp,imm,cc⟩:=by
  have e:codeOfP 27 8=(⟨8,8,136,0,0⟩,true):=by decide +kernel
  have h1:mayP ⟨27,8,dst,src,base,disp,imm,cc⟩=(eqX ⟨27,8,dst,src,base,disp,imm,cc⟩ ⟨27,8,0,src,base,disp,0,0⟩ && fitsP ⟨27,8,dst,src,base,disp,imm,cc⟩ ⟨8,8,136,0,0⟩):=by unfold mayP;simp only [e,Bool.true_and];rfl
  rw [h1]
  show (eqX ⟨27,8,dst,src,base,disp,imm,cc⟩ ⟨27,8,0,src,base,disp,0,0⟩ && (regB dst && (regB src && (regB base && (true && (fourB imm && fourB disp))))))=(true && (eqX ⟨27,8,dst,src,base,disp,imm,cc⟩ ⟨27,8,0,src,base,disp,0,0⟩ && (regB dst && (regB src && (regB base && (fourB disp && (fourB imm && true)))))))
  exact bool_a _ _ _ _ _ _
theorem mp_27_16 (dst src base disp imm cc:Int):mayP ⟨27,16,dst,src,base,disp,imm,cc⟩=mayX ⟨27,16,dst,src,base,disp,imm,cc⟩:=by
  have e:codeOfP 27 16=(⟨8,112,137,0,0⟩,true):=by decide +kernel
  have h1:mayP ⟨27,16,dst,src,base,disp,imm,cc⟩=(eqX ⟨27,16,dst,src,base,disp,imm,cc⟩ ⟨27,16,0,src,base,disp,0,0⟩ && fitsP ⟨27,16,dst,src,base,disp,imm,cc⟩ ⟨8,112,137,0,0⟩):=by unfold mayP;simp only [e,Bool.true_and];rfl
  rw [h1]
  show (eqX ⟨27,16,dst,src,base,disp,imm,cc⟩ ⟨27,16,0,src,base,disp,0,0⟩ && (regB dst && (regB src && (regB base && (true && (fourB imm && fourB disp))))))=(true && (eqX ⟨27,16,dst,src,base,disp,imm,cc⟩ ⟨27,16,0,src,base,disp,0,0⟩ && (regB dst && (regB src && (regB base && (fourB disp && (fourB imm && true)))))))
  exact bool_a _ _ _ _ _ _
theorem mp_27_32 (dst src base disp imm cc:Int):mayP ⟨27,32,dst,src,base,disp,imm,cc⟩=mayX ⟨27,32,dst,src,base,disp,imm,cc⟩:=by
  have e:codeOfP 27 32=(⟨8,112,137,0,0⟩,true):=by decide +kernel
  have h1:mayP ⟨27,32,dst,src,base,disp,imm,cc⟩=(eqX ⟨27,32,dst,src,base,disp,imm,cc⟩ ⟨27,32,0,src,base,disp,0,0⟩ && fitsP ⟨27,32,dst,src,base,disp,imm,cc⟩ ⟨8,112,137,0,0⟩):=by unfold mayP;simp only [e,Bool.true_and];rfl
  rw [h1]
  show (eqX ⟨27,32,dst,src,base,disp,imm,cc⟩ ⟨27,32,0,src,base,disp,0,0⟩ && (regB dst && (regB src && (regB base && (true && (fourB imm && fourB disp))))))=(true && (eqX ⟨27,32,dst,src,base,disp,imm,cc⟩ ⟨27,32,0,src,base,disp,0,0⟩ && (regB dst && (regB src && (regB base && (fourB disp && (fourB imm && true)))))))
  exact bool_a _ _ _ _ _ _
theorem mp_27_64 (dst src base disp imm cc:Int):mayP ⟨27,64,dst,src,base,disp,imm,cc⟩=mayX ⟨27,64,dst,src,base,disp,imm,cc⟩:=by
  have e:codeOfP 27 64=(⟨8,112,137,0,0⟩,true):=by decide +kernel
  have h1:mayP ⟨27,64,dst,src,base,disp,imm,cc⟩=(eqX ⟨27,64,dst,src,base,disp,imm,cc⟩ ⟨27,64,0,src,base,disp,0,0⟩ && fitsP ⟨27,64,dst,src,base,disp,imm,cc⟩ ⟨8,112,137,0,0⟩):=by unfold mayP;simp only [e,Bool.true_and];rfl
  rw [h1]
  show (eqX ⟨27,64,dst,src,base,disp,imm,cc⟩ ⟨27,64,0,src,base,disp,0,0⟩ && (regB dst && (regB src && (regB base && (true && (fourB imm && fourB disp))))))=(true && (eqX ⟨27,64,dst,src,base,disp,imm,cc⟩ ⟨27,64,0,src,base,disp,0,0⟩ && (regB dst && (regB src && (regB base && (fourB disp && (fourB imm && true)))))))
  exact bool_a _ _ _ _ _ _
theorem mp_28_0 (dst src base disp imm cc:Int):mayP ⟨28,0,dst,src,base,disp,imm,cc⟩=mayX ⟨28,0,dst,src,base,disp,imm,cc⟩:=by
  have e:codeOfP 28 0=(zCd,false):=by decide +kernel
  have h1:mayP ⟨28,0,dst,src,base,disp,imm,cc⟩=false:=by unfold mayP;simp only [e,Bool.false_and]
  rw [h1]
  show false=(true && (eqX ⟨28,0,dst,src,base,disp,imm,cc⟩ ⟨28,0,0,0,0,0,imm,0⟩ && (regB dst && (regB src && (regB base && (fourB disp && (fourB imm && clsB 8 ⟨28,0,dst,src,base,disp,imm,cc⟩)))))))
  rw [show clsB 8 ⟨28,0,dst,src,base,disp,imm,cc⟩=false from rfl]
  simp only [Bool.and_false]
theorem mp_28_8 (dst src base disp imm cc:Int):mayP ⟨28,8,dst,src,base,disp,imm,cc⟩=mayX ⟨28,8,dst,src,base,disp,imm,cc⟩:=by
  have e:codeOfP 28 8=(⟨10,8,235,0,0⟩,true):=by decide +kernel
  have h1:mayP ⟨28,8,dst,src,base,disp,imm,cc⟩=(eqX ⟨28,8,dst,src,base,disp,imm,cc⟩ ⟨28,8,0,0,0,0,imm,0⟩ && fitsP ⟨28,8,dst,src,base,disp,imm,cc⟩ ⟨10,8,235,0,0⟩):=by unfold mayP;simp only [e,Bool.true_and];rfl
  rw [h1]
  show (eqX ⟨28,8,dst,src,base,disp,imm,cc⟩ ⟨28,8,0,0,0,0,imm,0⟩ && (regB dst && (regB src && (regB base && (true && oneB imm)))))=(true && (eqX ⟨28,8,dst,src,base,disp,imm,cc⟩ ⟨28,8,0,0,0,0,imm,0⟩ && (regB dst && (regB src && (regB base && (fourB disp && (fourB imm && oneB imm)))))))
  exact bool_n _ _ _ _ _ _ _ _ disp0 four_of_one rfl
theorem mp_28_16 (dst src base disp imm cc:Int):mayP ⟨28,16,dst,src,base,disp,imm,cc⟩=mayX ⟨28,16,dst,src,base,disp,imm,cc⟩:=by
  have e:codeOfP 28 16=(zCd,false):=by decide +kernel
  have h1:mayP ⟨28,16,dst,src,base,disp,imm,cc⟩=false:=by unfold mayP;simp only [e,Bool.false_and]
  rw [h1]
  show false=(true && (eqX ⟨28,16,dst,src,base,disp,imm,cc⟩ ⟨28,16,0,0,0,0,imm,0⟩ && (regB dst && (regB src && (regB base && (fourB disp && (fourB imm && clsB 8 ⟨28,16,dst,src,base,disp,imm,cc⟩)))))))
  rw [show clsB 8 ⟨28,16,dst,src,base,disp,imm,cc⟩=false from rfl]
  simp only [Bool.and_false]
theorem mp_28_32 (dst src base disp imm cc:Int):mayP ⟨28,32,dst,src,base,disp,imm,cc⟩=mayX ⟨28,32,dst,src,base,disp,imm,cc⟩:=by
  have e:codeOfP 28 32=(⟨9,32,233,0,0⟩,true):=by decide +kernel
  have h1:mayP ⟨28,32,dst,src,base,disp,imm,cc⟩=(eqX ⟨28,32,dst,src,base,disp,imm,cc⟩ ⟨28,32,0,0,0,0,imm,0⟩ && fitsP ⟨28,32,dst,src,base,disp,imm,cc⟩ ⟨9,32,233,0,0⟩):=by unfold mayP;simp only [e,Bool.true_and];rfl
  rw [h1]
  show (eqX ⟨28,32,dst,src,base,disp,imm,cc⟩ ⟨28,32,0,0,0,0,imm,0⟩ && (regB dst && (regB src && (regB base && (true && (fourB imm && fourB disp))))))=(true && (eqX ⟨28,32,dst,src,base,disp,imm,cc⟩ ⟨28,32,0,0,0,0,imm,0⟩ && (regB dst && (regB src && (regB base && (fourB disp && (fourB imm && true)))))))
  exact bool_a _ _ _ _ _ _
theorem mp_28_64 (dst src base disp imm cc:Int):mayP ⟨28,64,dst,src,base,disp,imm,cc⟩=mayX ⟨28,64,dst,src,base,disp,imm,cc⟩:=by
  have e:codeOfP 28 64=(zCd,false):=by decide +kernel
  have h1:mayP ⟨28,64,dst,src,base,disp,imm,cc⟩=false:=by unfold mayP;simp only [e,Bool.false_and]
  rw [h1]
  show false=(true && (eqX ⟨28,64,dst,src,base,disp,imm,cc⟩ ⟨28,64,0,0,0,0,imm,0⟩ && (regB dst && (regB src && (regB base && (fourB disp && (fourB imm && clsB 8 ⟨28,64,dst,src,base,disp,imm,cc⟩)))))))
  rw [show clsB 8 ⟨28,64,dst,src,base,disp,imm,cc⟩=false from rfl]
  simp only [Bool.and_false]
theorem mp_29_0 (dst src base disp imm cc:Int):mayP ⟨29,0,dst,src,base,disp,imm,cc⟩=mayX ⟨29,0,dst,src,base,disp,imm,cc⟩:=by
  have e:codeOfP 29 0=(zCd,false):=by decide +kernel
  have h1:mayP ⟨29,0,dst,src,base,disp,imm,cc⟩=false:=by unfold mayP;simp only [e,Bool.false_and]
  rw [h1]
  show false=(true && (eqX ⟨29,0,dst,src,base,disp,imm,cc⟩ ⟨29,0,0,0,0,0,imm,cc⟩ && (regB dst && (regB src && (regB base && (fourB disp && (fourB imm && clsB 9 ⟨29,0,dst,src,base,disp,imm,cc⟩)))))))
  rw [show clsB 9 ⟨29,0,dst,src,base,disp,imm,cc⟩=false from by unfold clsB;simp [longB,jmpB]]
  simp only [Bool.and_false]
theorem mp_29_8 (dst src base disp imm cc:Int):mayP ⟨29,8,dst,src,base,disp,imm,cc⟩=mayX ⟨29,8,dst,src,base,disp,imm,cc⟩:=by
  have e:codeOfP 29 8=(⟨10,8,112,0,15⟩,true):=by decide +kernel
  have h1:mayP ⟨29,8,dst,src,base,disp,imm,cc⟩=(eqX ⟨29,8,dst,src,base,disp,imm,cc⟩ ⟨29,8,0,0,0,0,imm,cc⟩ && fitsP ⟨29,8,dst,src,base,disp,imm,cc⟩ ⟨10,8,112,0,15⟩):=by unfold mayP;simp only [e,Bool.true_and];rfl
  rw [h1]
  show (eqX ⟨29,8,dst,src,base,disp,imm,cc⟩ ⟨29,8,0,0,0,0,imm,cc⟩ && (regB dst && (regB src && (regB base && (!(true && !(ccB cc)) && oneB imm)))))=(true && (eqX ⟨29,8,dst,src,base,disp,imm,cc⟩ ⟨29,8,0,0,0,0,imm,cc⟩ && (regB dst && (regB src && (regB base && (fourB disp && (fourB imm && (oneB imm && ccB cc))))))))
  exact bool_nc _ _ _ _ _ _ _ _ disp0 four_of_one
theorem mp_29_16 (dst src base disp imm cc:Int):mayP ⟨29,16,dst,src,base,disp,imm,cc⟩=mayX ⟨29,16,dst,src,base,disp,imm,cc⟩:=by
  have e:codeOfP 29 16=(zCd,false):=by decide +kernel
  have h1:mayP ⟨29,16,dst,src,base,disp,imm,cc⟩=false:=by unfold mayP;simp only [e,Bool.false_and]
  rw [h1]
  show false=(true && (eqX ⟨29,16,dst,src,base,disp,imm,cc⟩ ⟨29,16,0,0,0,0,imm,cc⟩ && (regB dst && (regB src && (regB base && (fourB disp && (fourB imm && clsB 9 ⟨29,16,dst,src,base,disp,imm,cc⟩)))))))
  rw [show clsB 9 ⟨29,16,dst,src,base,disp,imm,cc⟩=false from by unfold clsB;simp [longB,jmpB]]
  simp only [Bool.and_false]
theorem mp_29_32 (dst src base disp imm cc:Int):mayP ⟨29,32,dst,src,base,disp,imm,cc⟩=mayX ⟨29,32,dst,src,base,disp,imm,cc⟩:=by
  have e:codeOfP 29 32=(⟨9,32,3968,0,15⟩,true):=by decide +kernel
  have h1:mayP ⟨29,32,dst,src,base,disp,imm,cc⟩=(eqX ⟨29,32,dst,src,base,disp,imm,cc⟩ ⟨29,32,0,0,0,0,imm,cc⟩ && fitsP ⟨29,32,dst,src,base,disp,imm,cc⟩ ⟨9,32,3968,0,15⟩):=by unfold mayP;simp only [e,Bool.true_and];rfl
  rw [h1]
  show (eqX ⟨29,32,dst,src,base,disp,imm,cc⟩ ⟨29,32,0,0,0,0,imm,cc⟩ && (regB dst && (regB src && (regB base && (!(true && !(ccB cc)) && (fourB imm && fourB disp))))))=(true && (eqX ⟨29,32,dst,src,base,disp,imm,cc⟩ ⟨29,32,0,0,0,0,imm,cc⟩ && (regB dst && (regB src && (regB base && (fourB disp && (fourB imm && ccB cc)))))))
  exact bool_c _ _ _ _ _ _ _
theorem mp_29_64 (dst src base disp imm cc:Int):mayP ⟨29,64,dst,src,base,disp,imm,cc⟩=mayX ⟨29,64,dst,src,base,disp,imm,cc⟩:=by
  have e:codeOfP 29 64=(zCd,false):=by decide +kernel
  have h1:mayP ⟨29,64,dst,src,base,disp,imm,cc⟩=false:=by unfold mayP;simp only [e,Bool.false_and]
  rw [h1]
  show false=(true && (eqX ⟨29,64,dst,src,base,disp,imm,cc⟩ ⟨29,64,0,0,0,0,imm,cc⟩ && (regB dst && (regB src && (regB base && (fourB disp && (fourB imm && clsB 9 ⟨29,64,dst,src,base,disp,imm,cc⟩)))))))
  rw [show clsB 9 ⟨29,64,dst,src,base,disp,imm,cc⟩=false from by unfold clsB;simp [longB,jmpB]]
  simp only [Bool.and_false]
theorem mp_30_0 (dst src base disp imm cc:Int):mayP ⟨30,0,dst,src,base,disp,imm,cc⟩=mayX ⟨30,0,dst,src,base,disp,imm,cc⟩:=by
  have e:codeOfP 30 0=(⟨0,0,195,0,0⟩,true):=by decide +kernel
  have h1:mayP ⟨30,0,dst,src,base,disp,imm,cc⟩=(eqX ⟨30,0,dst,src,base,disp,imm,cc⟩ ⟨30,0,0,0,0,0,0,0⟩ && fitsP ⟨30,0,dst,src,base,disp,imm,cc⟩ ⟨0,0,195,0,0⟩):=by unfold mayP;simp only [e,Bool.true_and];rfl
  rw [h1]
  show (eqX ⟨30,0,dst,src,base,disp,imm,cc⟩ ⟨30,0,0,0,0,0,0,0⟩ && (regB dst && (regB src && (regB base && (true && (fourB imm && fourB disp))))))=(true && (eqX ⟨30,0,dst,src,base,disp,imm,cc⟩ ⟨30,0,0,0,0,0,0,0⟩ && (regB dst && (regB src && (regB base && (fourB disp && (fourB imm && true)))))))
  exact bool_a _ _ _ _ _ _
theorem mp_30_8 (dst src base disp imm cc:Int):mayP ⟨30,8,dst,src,base,disp,imm,cc⟩=mayX ⟨30,8,dst,src,base,disp,imm,cc⟩:=by
  have e:codeOfP 30 8=(zCd,false):=by decide +kernel
  have h1:mayP ⟨30,8,dst,src,base,disp,imm,cc⟩=false:=by unfold mayP;simp only [e,Bool.false_and]
  rw [h1]
  exact (no_or _ _ (show eqX ⟨30,8,dst,src,base,disp,imm,cc⟩ ⟨30,0,0,0,0,0,0,0⟩=false by unfold eqX;simp)).symm
theorem mp_30_16 (dst src base disp imm cc:Int):mayP ⟨30,16,dst,src,base,disp,imm,cc⟩=mayX ⟨30,16,dst,src,base,disp,imm,cc⟩:=by
  have e:codeOfP 30 16=(zCd,false):=by decide +kernel
  have h1:mayP ⟨30,16,dst,src,base,disp,imm,cc⟩=false:=by unfold mayP;simp only [e,Bool.false_and]
  rw [h1]
  exact (no_or _ _ (show eqX ⟨30,16,dst,src,base,disp,imm,cc⟩ ⟨30,0,0,0,0,0,0,0⟩=false by unfold eqX;simp)).symm
theorem mp_30_32 (dst src base disp imm cc:Int):mayP ⟨30,32,dst,src,base,disp,imm,cc⟩=mayX ⟨30,32,dst,src,base,disp,imm,cc⟩:=by
  have e:codeOfP 30 32=(zCd,false):=by decide +kernel
  have h1:mayP ⟨30,32,dst,src,base,disp,imm,cc⟩=false:=by unfold mayP;simp only [e,Bool.false_and]
  rw [h1]
  exact (no_or _ _ (show eqX ⟨30,32,dst,src,base,disp,imm,cc⟩ ⟨30,0,0,0,0,0,0,0⟩=false by unfold eqX;simp)).symm
theorem mp_30_64 (dst src base disp imm cc:Int):mayP ⟨30,64,dst,src,base,disp,imm,cc⟩=mayX ⟨30,64,dst,src,base,disp,imm,cc⟩:=by
  have e:codeOfP 30 64=(zCd,false):=by decide +kernel
  have h1:mayP ⟨30,64,dst,src,base,disp,imm,cc⟩=false:=by unfold mayP;simp only [e,Bool.false_and]
  rw [h1]
  exact (no_or _ _ (show eqX ⟨30,64,dst,src,base,disp,imm,cc⟩ ⟨30,0,0,0,0,0,0,0⟩=false by unfold eqX;simp)).symm
theorem mp_31_0 (dst src base disp imm cc:Int):mayP ⟨31,0,dst,src,base,disp,imm,cc⟩=mayX ⟨31,0,dst,src,base,disp,imm,cc⟩:=by
  have e:codeOfP 31 0=(⟨0,0,3845,0,0⟩,true):=by decide +kernel
  have h1:mayP ⟨31,0,dst,src,base,disp,imm,cc⟩=(eqX ⟨31,0,dst,src,base,disp,imm,cc⟩ ⟨31,0,0,0,0,0,0,0⟩ && fitsP ⟨31,0,dst,src,base,disp,imm,cc⟩ ⟨0,0,3845,0,0⟩):=by unfold mayP;simp only [e,Bool.true_and];rfl
  rw [h1]
  show (eqX ⟨31,0,dst,src,base,disp,imm,cc⟩ ⟨31,0,0,0,0,0,0,0⟩ && (regB dst && (regB src && (regB base && (true && (fourB imm && fourB disp))))))=(true && (eqX ⟨31,0,dst,src,base,disp,imm,cc⟩ ⟨31,0,0,0,0,0,0,0⟩ && (regB dst && (regB src && (regB base && (fourB disp && (fourB imm && true)))))))
  exact bool_a _ _ _ _ _ _
theorem mp_31_8 (dst src base disp imm cc:Int):mayP ⟨31,8,dst,src,base,disp,imm,cc⟩=mayX ⟨31,8,dst,src,base,disp,imm,cc⟩:=by
  have e:codeOfP 31 8=(zCd,false):=by decide +kernel
  have h1:mayP ⟨31,8,dst,src,base,disp,imm,cc⟩=false:=by unfold mayP;simp only [e,Bool.false_and]
  rw [h1]
  exact (no_or _ _ (show eqX ⟨31,8,dst,src,base,disp,imm,cc⟩ ⟨31,0,0,0,0,0,0,0⟩=false by unfold eqX;simp)).symm
theorem mp_31_16 (dst src base disp imm cc:Int):mayP ⟨31,16,dst,src,base,disp,imm,cc⟩=mayX ⟨31,16,dst,src,base,disp,imm,cc⟩:=by
  have e:codeOfP 31 16=(zCd,false):=by decide +kernel
  have h1:mayP ⟨31,16,dst,src,base,disp,imm,cc⟩=false:=by unfold mayP;simp only [e,Bool.false_and]
  rw [h1]
  exact (no_or _ _ (show eqX ⟨31,16,dst,src,base,disp,imm,cc⟩ ⟨31,0,0,0,0,0,0,0⟩=false by unfold eqX;simp)).symm
theorem mp_31_32 (dst src base disp imm cc:Int):mayP ⟨31,32,dst,src,base,disp,imm,cc⟩=mayX ⟨31,32,dst,src,base,disp,imm,cc⟩:=by
  have e:codeOfP 31 32=(zCd,false):=by decide +kernel
  have h1:mayP ⟨31,32,dst,src,base,disp,imm,cc⟩=false:=by unfold mayP;simp only [e,Bool.false_and]
  rw [h1]
  exact (no_or _ _ (show eqX ⟨31,32,dst,src,base,disp,imm,cc⟩ ⟨31,0,0,0,0,0,0,0⟩=false by unfold eqX;simp)).symm
theorem mp_31_64 (dst src base disp imm cc:Int):mayP ⟨31,64,dst,src,base,disp,imm,cc⟩=mayX ⟨31,64,dst,src,base,disp,imm,cc⟩:=by
  have e:codeOfP 31 64=(zCd,false):=by decide +kernel
  have h1:mayP ⟨31,64,dst,src,base,disp,imm,cc⟩=false:=by unfold mayP;simp only [e,Bool.false_and]
  rw [h1]
  exact (no_or _ _ (show eqX ⟨31,64,dst,src,base,disp,imm,cc⟩ ⟨31,0,0,0,0,0,0,0⟩=false by unfold eqX;simp)).symm
theorem has_out (c:Cd) (w:Int) (h:widB w=false) (h0:w ≠ 0):hasB c w=false:=by
  unfold hasB
  rw [h]
  cases c.wd == 0
  · rfl
  · exact beq_eq_false_iff_ne.2 h0
theorem code_out (op w:Int) (h:widB w=false) (h0:w ≠ 0):codeOfP op w=(zCd,false):=by
  unfold codeOfP
  split
  · rfl
  · rw [if_neg (by rw [has_out _ _ h h0];decide)]
    have e:(fun o:Int × Cd=>o.1 == op && hasB o.2 w)=fun _=>false:=by funext o;rw [has_out _ _ h h0,Bool.and_false]
    rw [e]
    rfl
theorem may_out (x:Xi) (h:widB x.w=false) (h0:x.w ≠ 0):mayX x=false:=by
  have hl:longB x.w=false:=by unfold longB;unfold widB at h;revert h;cases x.w == 8 <;> cases x.w == 16 <;> cases x.w == 32 <;> cases x.w == 64 <;> simp
  have hj:jmpB x=false:=by unfold jmpB;unfold widB at h;revert h;cases x.w == 8 <;> cases x.w == 16 <;> cases x.w == 32 <;> cases x.w == 64 <;> simp
  unfold mayX
  rcases clsI_cases x.op with e | e | e | e | e | e | e | e | e | e | e <;> rw [e]
  · rfl
  case inr.inr.inr.inr.inr.inr.inr.inr.inr.inr=>
    rw [show eqX x (fldX 10 x)=false from by unfold eqX fldX;simp [h0]]
    simp only [Bool.and_false,Bool.false_and]
  all_goals (rw [show clsB _ x=false from by unfold clsB;simp [hl,hj,h]];simp only [Bool.and_false])
theorem w_cases (w:Int):w=0 ∨ w=8 ∨ w=16 ∨ w=32 ∨ w=64 ∨ (widB w=false ∧ w ≠ 0):=by
  by_cases h0:w=0
  · exact .inl h0
  by_cases h1:w=8
  · exact .inr (.inl h1)
  by_cases h2:w=16
  · exact .inr (.inr (.inl h2))
  by_cases h3:w=32
  · exact .inr (.inr (.inr (.inl h3)))
  by_cases h4:w=64
  · exact .inr (.inr (.inr (.inr (.inl h4))))
  refine .inr (.inr (.inr (.inr (.inr ⟨?_,h0⟩))))
  unfold widB
  rw [beq_eq_false_iff_ne.2 h1,beq_eq_false_iff_ne.2 h2,beq_eq_false_iff_ne.2 h3,beq_eq_false_iff_ne.2 h4]
  rfl
theorem mayP_is (x:Xi):mayP x=mayX x:=by
  rcases w_cases x.w with h | h | h | h | h | h
  case inr.inr.inr.inr.inr=>
    rw [may_out x h.1 h.2]
    unfold mayP
    rw [code_out _ _ h.1 h.2]
    rfl
  case inl=>
    by_cases ho:0 ≤ x.op ∧ x.op < 32
    · obtain ⟨op,wd,dst,src,base,disp,imm,cc⟩:=x
      simp only at h ho
      subst h
      obtain rfl | rfl | rfl | rfl | rfl | rfl | rfl | rfl | rfl | rfl | rfl | rfl | rfl | rfl | rfl | rfl | rfl | rfl | rfl | rfl | rfl | rfl | rfl | rfl | rfl | rfl | rfl | rfl | rfl | rfl | rfl | rfl:=lt32 ho
      · exact mp_0_0 dst src base disp imm cc
      · exact mp_1_0 dst src base disp imm cc
      · exact mp_2_0 dst src base disp imm cc
      · exact mp_3_0 dst src base disp imm cc
      · exact mp_4_0 dst src base disp imm cc
      · exact mp_5_0 dst src base disp imm cc
      · exact mp_6_0 dst src base disp imm cc
      · exact mp_7_0 dst src base disp imm cc
      · exact mp_8_0 dst src base disp imm cc
      · exact mp_9_0 dst src base disp imm cc
      · exact mp_10_0 dst src base disp imm cc
      · exact mp_11_0 dst src base disp imm cc
      · exact mp_12_0 dst src base disp imm cc
      · exact mp_13_0 dst src base disp imm cc
      · exact mp_14_0 dst src base disp imm cc
      · exact mp_15_0 dst src base disp imm cc
      · exact mp_16_0 dst src base disp imm cc
      · exact mp_17_0 dst src base disp imm cc
      · exact mp_18_0 dst src base disp imm cc
      · exact mp_19_0 dst src base disp imm cc
      · exact mp_20_0 dst src base disp imm cc
      · exact mp_21_0 dst src base disp imm cc
      · exact mp_22_0 dst src base disp imm cc
      · exact mp_23_0 dst src base disp imm cc
      · exact mp_24_0 dst src base disp imm cc
      · exact mp_25_0 dst src base disp imm cc
      · exact mp_26_0 dst src base disp imm cc
      · exact mp_27_0 dst src base disp imm cc
      · exact mp_28_0 dst src base disp imm cc
      · exact mp_29_0 dst src base disp imm cc
      · exact mp_30_0 dst src base disp imm cc
      · exact mp_31_0 dst src base disp imm cc
    · have e1:codeOfP x.op x.w=(zCd,false):=by unfold codeOfP;rw [if_pos (by omega)]
      have e2:clsI x.op=0:=by unfold clsI;rw [if_neg ho]
      unfold mayP mayX
      rw [e1,e2]
      rfl
  case inr.inl=>
    by_cases ho:0 ≤ x.op ∧ x.op < 32
    · obtain ⟨op,wd,dst,src,base,disp,imm,cc⟩:=x
      simp only at h ho
      subst h
      obtain rfl | rfl | rfl | rfl | rfl | rfl | rfl | rfl | rfl | rfl | rfl | rfl | rfl | rfl | rfl | rfl | rfl | rfl | rfl | rfl | rfl | rfl | rfl | rfl | rfl | rfl | rfl | rfl | rfl | rfl | rfl | rfl:=lt32 ho
      · exact mp_0_8 dst src base disp imm cc
      · exact mp_1_8 dst src base disp imm cc
      · exact mp_2_8 dst src base disp imm cc
      · exact mp_3_8 dst src base disp imm cc
      · exact mp_4_8 dst src base disp imm cc
      · exact mp_5_8 dst src base disp imm cc
      · exact mp_6_8 dst src base disp imm cc
      · exact mp_7_8 dst src base disp imm cc
      · exact mp_8_8 dst src base disp imm cc
      · exact mp_9_8 dst src base disp imm cc
      · exact mp_10_8 dst src base disp imm cc
      · exact mp_11_8 dst src base disp imm cc
      · exact mp_12_8 dst src base disp imm cc
      · exact mp_13_8 dst src base disp imm cc
      · exact mp_14_8 dst src base disp imm cc
      · exact mp_15_8 dst src base disp imm cc
      · exact mp_16_8 dst src base disp imm cc
      · exact mp_17_8 dst src base disp imm cc
      · exact mp_18_8 dst src base disp imm cc
      · exact mp_19_8 dst src base disp imm cc
      · exact mp_20_8 dst src base disp imm cc
      · exact mp_21_8 dst src base disp imm cc
      · exact mp_22_8 dst src base disp imm cc
      · exact mp_23_8 dst src base disp imm cc
      · exact mp_24_8 dst src base disp imm cc
      · exact mp_25_8 dst src base disp imm cc
      · exact mp_26_8 dst src base disp imm cc
      · exact mp_27_8 dst src base disp imm cc
      · exact mp_28_8 dst src base disp imm cc
      · exact mp_29_8 dst src base disp imm cc
      · exact mp_30_8 dst src base disp imm cc
      · exact mp_31_8 dst src base disp imm cc
    · have e1:codeOfP x.op x.w=(zCd,false):=by unfold codeOfP;rw [if_pos (by omega)]
      have e2:clsI x.op=0:=by unfold clsI;rw [if_neg ho]
      unfold mayP mayX
      rw [e1,e2]
      rfl
  case inr.inr.inl=>
    by_cases ho:0 ≤ x.op ∧ x.op < 32
    · obtain ⟨op,wd,dst,src,base,disp,imm,cc⟩:=x
      simp only at h ho
      subst h
      obtain rfl | rfl | rfl | rfl | rfl | rfl | rfl | rfl | rfl | rfl | rfl | rfl | rfl | rfl | rfl | rfl | rfl | rfl | rfl | rfl | rfl | rfl | rfl | rfl | rfl | rfl | rfl | rfl | rfl | rfl | rfl | rfl:=lt32 ho
      · exact mp_0_16 dst src base disp imm cc
      · exact mp_1_16 dst src base disp imm cc
      · exact mp_2_16 dst src base disp imm cc
      · exact mp_3_16 dst src base disp imm cc
      · exact mp_4_16 dst src base disp imm cc
      · exact mp_5_16 dst src base disp imm cc
      · exact mp_6_16 dst src base disp imm cc
      · exact mp_7_16 dst src base disp imm cc
      · exact mp_8_16 dst src base disp imm cc
      · exact mp_9_16 dst src base disp imm cc
      · exact mp_10_16 dst src base disp imm cc
      · exact mp_11_16 dst src base disp imm cc
      · exact mp_12_16 dst src base disp imm cc
      · exact mp_13_16 dst src base disp imm cc
      · exact mp_14_16 dst src base disp imm cc
      · exact mp_15_16 dst src base disp imm cc
      · exact mp_16_16 dst src base disp imm cc
      · exact mp_17_16 dst src base disp imm cc
      · exact mp_18_16 dst src base disp imm cc
      · exact mp_19_16 dst src base disp imm cc
      · exact mp_20_16 dst src base disp imm cc
      · exact mp_21_16 dst src base disp imm cc
      · exact mp_22_16 dst src base disp imm cc
      · exact mp_23_16 dst src base disp imm cc
      · exact mp_24_16 dst src base disp imm cc
      · exact mp_25_16 dst src base disp imm cc
      · exact mp_26_16 dst src base disp imm cc
      · exact mp_27_16 dst src base disp imm cc
      · exact mp_28_16 dst src base disp imm cc
      · exact mp_29_16 dst src base disp imm cc
      · exact mp_30_16 dst src base disp imm cc
      · exact mp_31_16 dst src base disp imm cc
    · have e1:codeOfP x.op x.w=(zCd,false):=by unfold codeOfP;rw [if_pos (by omega)]
      have e2:clsI x.op=0:=by unfold clsI;rw [if_neg ho]
      unfold mayP mayX
      rw [e1,e2]
      rfl
  case inr.inr.inr.inl=>
    by_cases ho:0 ≤ x.op ∧ x.op < 32
    · obtain ⟨op,wd,dst,src,base,disp,imm,cc⟩:=x
      simp only at h ho
      subst h
      obtain rfl | rfl | rfl | rfl | rfl | rfl | rfl | rfl | rfl | rfl | rfl | rfl | rfl | rfl | rfl | rfl | rfl | rfl | rfl | rfl | rfl | rfl | rfl | rfl | rfl | rfl | rfl | rfl | rfl | rfl | rfl | rfl:=lt32 ho
      · exact mp_0_32 dst src base disp imm cc
      · exact mp_1_32 dst src base disp imm cc
      · exact mp_2_32 dst src base disp imm cc
      · exact mp_3_32 dst src base disp imm cc
      · exact mp_4_32 dst src base disp imm cc
      · exact mp_5_32 dst src base disp imm cc
      · exact mp_6_32 dst src base disp imm cc
      · exact mp_7_32 dst src base disp imm cc
      · exact mp_8_32 dst src base disp imm cc
      · exact mp_9_32 dst src base disp imm cc
      · exact mp_10_32 dst src base disp imm cc
      · exact mp_11_32 dst src base disp imm cc
      · exact mp_12_32 dst src base disp imm cc
      · exact mp_13_32 dst src base disp imm cc
      · exact mp_14_32 dst src base disp imm cc
      · exact mp_15_32 dst src base disp imm cc
      · exact mp_16_32 dst src base disp imm cc
      · exact mp_17_32 dst src base disp imm cc
      · exact mp_18_32 dst src base disp imm cc
      · exact mp_19_32 dst src base disp imm cc
      · exact mp_20_32 dst src base disp imm cc
      · exact mp_21_32 dst src base disp imm cc
      · exact mp_22_32 dst src base disp imm cc
      · exact mp_23_32 dst src base disp imm cc
      · exact mp_24_32 dst src base disp imm cc
      · exact mp_25_32 dst src base disp imm cc
      · exact mp_26_32 dst src base disp imm cc
      · exact mp_27_32 dst src base disp imm cc
      · exact mp_28_32 dst src base disp imm cc
      · exact mp_29_32 dst src base disp imm cc
      · exact mp_30_32 dst src base disp imm cc
      · exact mp_31_32 dst src base disp imm cc
    · have e1:codeOfP x.op x.w=(zCd,false):=by unfold codeOfP;rw [if_pos (by omega)]
      have e2:clsI x.op=0:=by unfold clsI;rw [if_neg ho]
      unfold mayP mayX
      rw [e1,e2]
      rfl
  case inr.inr.inr.inr.inl=>
    by_cases ho:0 ≤ x.op ∧ x.op < 32
    · obtain ⟨op,wd,dst,src,base,disp,imm,cc⟩:=x
      simp only at h ho
      subst h
      obtain rfl | rfl | rfl | rfl | rfl | rfl | rfl | rfl | rfl | rfl | rfl | rfl | rfl | rfl | rfl | rfl | rfl | rfl | rfl | rfl | rfl | rfl | rfl | rfl | rfl | rfl | rfl | rfl | rfl | rfl | rfl | rfl:=lt32 ho
      · exact mp_0_64 dst src base disp imm cc
      · exact mp_1_64 dst src base disp imm cc
      · exact mp_2_64 dst src base disp imm cc
      · exact mp_3_64 dst src base disp imm cc
      · exact mp_4_64 dst src base disp imm cc
      · exact mp_5_64 dst src base disp imm cc
      · exact mp_6_64 dst src base disp imm cc
      · exact mp_7_64 dst src base disp imm cc
      · exact mp_8_64 dst src base disp imm cc
      · exact mp_9_64 dst src base disp imm cc
      · exact mp_10_64 dst src base disp imm cc
      · exact mp_11_64 dst src base disp imm cc
      · exact mp_12_64 dst src base disp imm cc
      · exact mp_13_64 dst src base disp imm cc
      · exact mp_14_64 dst src base disp imm cc
      · exact mp_15_64 dst src base disp imm cc
      · exact mp_16_64 dst src base disp imm cc
      · exact mp_17_64 dst src base disp imm cc
      · exact mp_18_64 dst src base disp imm cc
      · exact mp_19_64 dst src base disp imm cc
      · exact mp_20_64 dst src base disp imm cc
      · exact mp_21_64 dst src base disp imm cc
      · exact mp_22_64 dst src base disp imm cc
      · exact mp_23_64 dst src base disp imm cc
      · exact mp_24_64 dst src base disp imm cc
      · exact mp_25_64 dst src base disp imm cc
      · exact mp_26_64 dst src base disp imm cc
      · exact mp_27_64 dst src base disp imm cc
      · exact mp_28_64 dst src base disp imm cc
      · exact mp_29_64 dst src base disp imm cc
      · exact mp_30_64 dst src base disp imm cc
      · exact mp_31_64 dst src base disp imm cc
    · have e1:codeOfP x.op x.w=(zCd,false):=by unfold codeOfP;rw [if_pos (by omega)]
      have e2:clsI x.op=0:=by unfold clsI;rw [if_neg ho]
      unfold mayP mayX
      rw [e1,e2]
      rfl
end Go.Proofs.YtoghjpliemidkaaDoor.Mrm
