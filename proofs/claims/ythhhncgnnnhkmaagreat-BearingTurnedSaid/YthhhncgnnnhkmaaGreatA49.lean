import Derived.Test.YthhhncgnnnhkmaaGreatA48
set_option linter.all false
namespace Go.Proofs.Tryz
set_option maxRecDepth 100000
open Go.Inst Go.Ev
theorem wrap_small{n:Int}(h1:-9223372036854775808≤n)(h2:n≤9223372036854775807):IntKind.i64.wrap n=n:=by rw[IntKind.wrap_i64];omega
theorem En_is{x:Int}(h1:0≤x)(h2:x<256):En x=x % 10-5:=by
 unfold En
 rw[wrap_small (n:=x) (by omega) (by omega),Int.tmod_eq_emod_of_nonneg h1]
 exact wrap_small (by omega) (by omega)
theorem En_mem{x:Int}(h1:0≤x)(h2:x<256):-5≤En x∧En x≤4:=by rw[En_is h1 h2];omega
def nine:List Int:=[-9,-8,-7,-6,-5,-4,-3,-2,-1,0,1,2,3,4,5,6,7,8,9]
theorem nine_mem{a:Int}(h1:-9≤a)(h2:a≤9):a∈nine:=by
 have:a = -9∨a = -8∨a = -7∨a = -6∨a = -5∨a = -4∨a = -3∨a = -2∨a = -1∨a=0∨a=1∨a=2∨a=3∨a=4∨a=5∨a=6∨a=7∨a=8∨a=9:=by omega
 rcases this with rfl|rfl|rfl|rfl|rfl|rfl|rfl|rfl|rfl|rfl|rfl|rfl|rfl|rfl|rfl|rfl|rfl|rfl|rfl<;>decide
def turnB:Bool:=nine.all fun x=>nine.all fun y=>(decide (x=0)&&decide (y=0))||(decide (0≤trueT x y)&&decide (trueT x y≤7)&&decide (trueT (-x) (-y)=(trueT x y+4) % 8)&&decide (trueT (2*x) (2*y)=trueT x y)&&decide (trueT y x=(10-trueT x y) % 8))
theorem turnB_ok:turnB=true:=by kernel_rfl
theorem turn_is{x y:Int}(hx:-9≤x∧x≤9)(hy:-9≤y∧y≤9)(hne:¬(x=0∧y=0)):0≤trueT x y∧trueT x y≤7∧trueT (-x) (-y)=(trueT x y+4) % 8∧trueT (2*x) (2*y)=trueT x y∧trueT y x=(10-trueT x y) % 8:=by
 have h:=List.all_eq_true.1 (List.all_eq_true.1 turnB_ok x (nine_mem hx.1 hx.2)) y (nine_mem hy.1 hy.2)
 simp only[Bool.or_eq_true,Bool.and_eq_true,decide_eq_true_eq] at h
 rcases h with h|⟨⟨⟨⟨h1,h2⟩,h3⟩,h4⟩,h5⟩
 .exact absurd h hne
 .exact⟨h1,h2,h3,h4,h5⟩
set_option maxRecDepth 1000000
theorem hA_fit(x0 x1 x2 x3 x4:Int):fitK mFd 8 [] (hA x0 x1 x2 x3 x4)=true:=by kernel_rfl
theorem found_law(x0 x1 x2 x3 x4:Int):∃h',iN 8 [] (hA x0 x1 x2 x3 x4)=some (.bool true,h'):=by
 refine⟨mFd.out (hA x0 x1 x2 x3 x4),?_⟩
 show(match fitK mFd 8 [] (hA x0 x1 x2 x3 x4) with
  |true=>some (mFd.v,mFd.out (hA x0 x1 x2 x3 x4))
  |false=>none)=_
 rw[hA_fit]
 rfl
noncomputable def w4:Code:=seqL (seqL (cX 4))
noncomputable def q5:Code:=seqR (cX 4)
noncomputable def w6:Code:=seqL (seqL q5)
noncomputable def condT:Code→Code
 |.cond _ a _=>a
 |c=>c
noncomputable def w7:Code:=seqL (condT (seqR (seqL q5)))
noncomputable def q8:Code:=seqR q5
noncomputable def w8:Code:=seqL q8
noncomputable def w9:Code:=seqL (seqR q8)
noncomputable def w10:Code:=seqL (seqR (seqR q8))
noncomputable def q11:Code:=seqR (seqR (seqR q8))
noncomputable def w11:Code:=seqL (seqL q11)
noncomputable def w5:Code:=condT (seqR (seqL (cX 4)))
noncomputable def w12:Code:=condT (seqR (seqL q11))
noncomputable def w13:Code:=seqL (seqR q11)
theorem cX4_eq:cX 4=.seq (.seq w4 (.cond (.tmp 64) w5 .skip)) q5:=by kernel_rfl
theorem q5_eq:q5=.seq (.seq w6 (.cond (.tmp 66) (.seq w7 .ret) .skip)) q8:=by kernel_rfl
theorem q8_eq:q8=.seq w8 (.seq w9 (.seq w10 q11)):=by kernel_rfl
theorem q11_eq:q11=.seq (.seq w11 (.cond (.tmp 124) w12 .skip)) (.seq w13 .ret):=by kernel_rfl
theorem op4_eq:(opA w4 8).op=.binOp .neq 27 (.tmp 60) (.tmp 61) 27:=by kernel_rfl
section
variable(x0 x1 x2 x3 x4:Int)
noncomputable def sS(x0 x1 x2 x3 x4:Int):St:=sC x0 x1 x2 x3 x4 0 6 0 6
noncomputable def sS4(x0 x1 x2 x3 x4:Int):St:=stepAt w4 8 (sS x0 x1 x2 x3 x4) (.bool false) (hA x0 x1 x2 x3 x4)
theorem sS4_ok:stepOK w4 8 (sS x0 x1 x2 x3 x4) (.bool false) (hA x0 x1 x2 x3 x4)=true:=by kernel_rfl
theorem sS_60:evalO (fT (pre w4 8 (sS x0 x1 x2 x3 x4))) (.tmp 60)=some (sqv (En x0) (En x1)):=by kernel_rfl
theorem sS_61:evalO (fT (pre w4 8 (sS x0 x1 x2 x3 x4))) (.tmp 61)=some (sqv (En x2) (En x3)):=by kernel_rfl
theorem sS_h:fH (pre w4 8 (sS x0 x1 x2 x3 x4))=hA x0 x1 x2 x3 x4:=by kernel_rfl
theorem sS4_64:evalO (sS4 x0 x1 x2 x3 x4).t (.tmp 64)=some (.bool false):=by kernel_rfl
noncomputable def sS6(x0 x1 x2 x3 x4:Int):St:=nxt w6 (sS4 x0 x1 x2 x3 x4)
theorem sS6_ok:isN (run w6 (sS4 x0 x1 x2 x3 x4))=true:=by kernel_rfl
theorem sS6_66:evalO (sS6 x0 x1 x2 x3 x4).t (.tmp 66)=some (.bool true):=by kernel_rfl
noncomputable def sS7(x0 x1 x2 x3 x4:Int)(h2:H):St:=stepAt w7 11 (sS6 x0 x1 x2 x3 x4) (.bool true) h2
theorem sS7_ok(h2:H):stepOK w7 11 (sS6 x0 x1 x2 x3 x4) (.bool true) h2=true:=by kernel_rfl
theorem sS7_call(inv:Iv):oneO prog inv (fT (pre w7 11 (sS6 x0 x1 x2 x3 x4))) (fH (pre w7 11 (sS6 x0 x1 x2 x3 x4))) (opA w7 11).op=inv (.func 8) [] (hA x0 x1 x2 x3 x4):=by kernel_rfl
theorem sS7_leave(h2:H):leaveC prog (fnOf prog 5) (.ret,sS7 x0 x1 x2 x3 x4 h2)=some (.bool true,h2):=by kernel_rfl
noncomputable def sD(x0 x1 x2 x3 x4 n m:Int):St:=sC x0 x1 x2 x3 x4 n 0 m 0
noncomputable def sD4(x0 x1 x2 x3 x4 n m:Int):St:=stepAt w4 8 (sD x0 x1 x2 x3 x4 n m) (.bool true) (hA x0 x1 x2 x3 x4)
theorem sD4_ok(n m:Int):stepOK w4 8 (sD x0 x1 x2 x3 x4 n m) (.bool true) (hA x0 x1 x2 x3 x4)=true:=by kernel_rfl
theorem sD_60(n m:Int):evalO (fT (pre w4 8 (sD x0 x1 x2 x3 x4 n m))) (.tmp 60)=some (sqv (En x0) (En x1)):=by kernel_rfl
theorem sD_61(n m:Int):evalO (fT (pre w4 8 (sD x0 x1 x2 x3 x4 n m))) (.tmp 61)=some (sqv (En x2) (En x3)):=by kernel_rfl
theorem sD_h(n m:Int):fH (pre w4 8 (sD x0 x1 x2 x3 x4 n m))=hA x0 x1 x2 x3 x4:=by kernel_rfl
theorem sD4_64(n m:Int):evalO (sD4 x0 x1 x2 x3 x4 n m).t (.tmp 64)=some (.bool false):=by kernel_rfl
noncomputable def sD6(x0 x1 x2 x3 x4 n m:Int):St:=nxt w6 (sD4 x0 x1 x2 x3 x4 n m)
theorem sD6_ok(n m:Int):isN (run w6 (sD4 x0 x1 x2 x3 x4 n m))=true:=by kernel_rfl
theorem sD6_66(n m:Int):evalO (sD6 x0 x1 x2 x3 x4 n m).t (.tmp 66)=some (.bool false):=by kernel_rfl
noncomputable def sD8(x0 x1 x2 x3 x4 n m:Int):St:=nxt w8 (sD6 x0 x1 x2 x3 x4 n m)
theorem sD8_ok(n m:Int):isN (run w8 (sD6 x0 x1 x2 x3 x4 n m))=true:=by kernel_rfl
def X(x0 x2:Int):Int:=IntKind.i64.wrap (En x2-En x0)
def K4(x4:Int):Int:=IntKind.i64.wrap (1+(IntKind.i64.wrap x4).tmod 2)
def KX(x0 x2 x4:Int):Int:=IntKind.i64.wrap (K4 x4*X x0 x2)
noncomputable def sD9(x0 x1 x2 x3 x4 n m f:Int):St:=stepAt w9 8 (sD8 x0 x1 x2 x3 x4 n m) (tu [k64 f,k64 0]) (hA x0 x1 x2 x3 x4)
theorem sD9_ok(n m f:Int):stepOK w9 8 (sD8 x0 x1 x2 x3 x4 n m) (tu [k64 f,k64 0]) (hA x0 x1 x2 x3 x4)=true:=by kernel_rfl
theorem sD9_call(n m:Int):oneO prog iC (fT (pre w9 8 (sD8 x0 x1 x2 x3 x4 n m))) (fH (pre w9 8 (sD8 x0 x1 x2 x3 x4 n m))) (opA w9 8).op=iL (.func 9) [sqv 0 0,sqv (KX x0 x2 x4) (KX x1 x3 x4)] (hA x0 x1 x2 x3 x4):=by kernel_rfl
noncomputable def sD10(x0 x1 x2 x3 x4 n m f g:Int):St:=stepAt w10 4 (sD9 x0 x1 x2 x3 x4 n m f) (tu [k64 g,k64 0]) (hA x0 x1 x2 x3 x4)
theorem sD10_ok(n m f g:Int):stepOK w10 4 (sD9 x0 x1 x2 x3 x4 n m f) (tu [k64 g,k64 0]) (hA x0 x1 x2 x3 x4)=true:=by kernel_rfl
theorem sD10_call(n m f:Int):oneO prog iC (fT (pre w10 4 (sD9 x0 x1 x2 x3 x4 n m f))) (fH (pre w10 4 (sD9 x0 x1 x2 x3 x4 n m f))) (opA w10 4).op=iL (.func 9) [sqv 0 0,sqv (X x1 x3) (X x0 x2)] (hA x0 x1 x2 x3 x4):=by kernel_rfl
noncomputable def tE(x0 x1 x2 x3 x4 n:Int):St:=sD10 x0 x1 x2 x3 x4 n ((n+4) % 8) n ((10-n) % 8)
noncomputable def tE11(x0 x1 x2 x3 x4 n:Int):St:=nxt w11 (tE x0 x1 x2 x3 x4 n)
noncomputable def tE13(x0 x1 x2 x3 x4 n:Int)(h2:H):St:=stepAt w13 18 (tE11 x0 x1 x2 x3 x4 n) (.bool true) h2
def eight(n:Int):Prop:=n=0∨n=1∨n=2∨n=3∨n=4∨n=5∨n=6∨n=7
theorem tE11_ok{n:Int}(hn:eight n):isN (run w11 (tE x0 x1 x2 x3 x4 n))=true:=by
 rcases hn with rfl|rfl|rfl|rfl|rfl|rfl|rfl|rfl<;>kernel_rfl
theorem tE11_124{n:Int}(hn:eight n):evalO (tE11 x0 x1 x2 x3 x4 n).t (.tmp 124)=some (.bool false):=by
 rcases hn with rfl|rfl|rfl|rfl|rfl|rfl|rfl|rfl<;>kernel_rfl
theorem tE13_ok{n:Int}(hn:eight n)(h2:H):stepOK w13 18 (tE11 x0 x1 x2 x3 x4 n) (.bool true) h2=true:=by
 rcases hn with rfl|rfl|rfl|rfl|rfl|rfl|rfl|rfl<;>kernel_rfl
theorem tE13_call{n:Int}(hn:eight n)(inv:Iv):oneO prog inv (fT (pre w13 18 (tE11 x0 x1 x2 x3 x4 n))) (fH (pre w13 18 (tE11 x0 x1 x2 x3 x4 n))) (opA w13 18).op=inv (.func 8) [] (hA x0 x1 x2 x3 x4):=by
 rcases hn with rfl|rfl|rfl|rfl|rfl|rfl|rfl|rfl<;>kernel_rfl
theorem tE13_leave{n:Int}(hn:eight n)(h2:H):leaveC prog (fnOf prog 5) (.ret,tE13 x0 x1 x2 x3 x4 n h2)=some (.bool true,h2):=by
 rcases hn with rfl|rfl|rfl|rfl|rfl|rfl|rfl|rfl<;>kernel_rfl
end
theorem run_seq{a b:Code}{s s':St}(h:run a s=some (.normal,s')):run (.seq a b) s=run b s':=by
 show thenO (run a s) (codeC prog L N iN iL nL b)=_
 rw[h];rfl
theorem run_seq_ret{a b:Code}{s s':St}(h:run a s=some (.ret,s')):run (.seq a b) s=some (.ret,s'):=by
 show thenO (run a s) (codeC prog L N iN iL nL b)=_
 rw[h];rfl
theorem run_true{c:Operand}{a b:Code}{s:St}(h:evalO s.t c=some (.bool true)):run (.cond c a b) s=run a s:=by
 show(match evalO s.t c with
  |some (.bool true)=>codeC prog L N iN iL nL a s
  |some (.bool false)=>codeC prog L N iN iL nL b s
  |_=>none)=_
 rw[h];rfl
theorem run_false{c:Operand}{a b:Code}{s:St}(h:evalO s.t c=some (.bool false)):run (.cond c a b) s=run b s:=by
 show(match evalO s.t c with
  |some (.bool true)=>codeC prog L N iN iL nL a s
  |some (.bool false)=>codeC prog L N iN iL nL b s
  |_=>none)=_
 rw[h];rfl
theorem run_skip{s:St}:run .skip s=some (.normal,s):=rfl
theorem run_ret{s:St}:run .ret s=some (.ret,s):=rfl
theorem pure_bin{f g:Operand→Option Value}{op:BinOp}{t y:TypeId}{a b:Operand}(ha:f a=g a)(hb:f b=g b):pureV prog f (.binOp op t a b y)=pureV prog g (.binOp op t a b y):=by
 simp only[pureV,ha,hb]
theorem one_pure{inv:Iv}{t:T Value}{h:H}{o:Op}{v:Value}(hp:pureB o=true)(e:pureV prog (evalO t) o=some v):oneO prog inv t h o=some (v,h):=by
 simp only[oneO,hp,e]
theorem tab4_60(a b c d:Int):evalO (tab4 a b c d) (.tmp 60)=some (sqv a b):=by kernel_rfl
theorem tab4_61(a b c d:Int):evalO (tab4 a b c d) (.tmp 61)=some (sqv c d):=by kernel_rfl
theorem r4_w4:r4=w4:=rfl
theorem cmpCall{t:T Value}{h:H}{a b c d:Int}(h1:evalO t (.tmp 60)=some (sqv a b))(h2:evalO t (.tmp 61)=some (sqv c d))(ha:a∈tens)(hb:b∈tens)(hc:c∈tens)(hd:d∈tens):oneO prog iC t h (opA w4 8).op=some (.bool (!(decide (a=c)&&decide (b=d))),h):=by
 have e:=cmp4_is ha hb hc hd
 unfold cmp4 at e
 rw[r4_w4,op4_eq] at e
 rw[op4_eq]
 refine one_pure rfl ?_
 rw[←e]
 exact pure_bin (by rw[h1,tab4_60]) (by rw[h2,tab4_61])
theorem iC6(h:H):iC (.func 8) [] h=iN 8 [] h:=by
 have e:N.contains 8=true:=by decide
 simp only[iC,invC,e]
theorem cX0_eq:cX 0=.seq (rX 0) (.seq (rX 1) (.seq (rX 2) (.seq (rX 3) (cX 4)))):=by kernel_rfl
section
variable{x0 x1 x2 x3 x4:Int}
theorem run0{n z m y:Int}{x:Ex×St}(h1:iL (.func 9) [sqv (En x0) (En x1),sqv (En x2) (En x3)] (hA x0 x1 x2 x3 x4)=some (tu [k64 n,k64 z],hA x0 x1 x2 x3 x4))(h2:iL (.func 9) [sqv (En x2) (En x3),sqv (En x0) (En x1)] (hA x0 x1 x2 x3 x4)=some (tu [k64 m,k64 y],hA x0 x1 x2 x3 x4))(h:run (cX 4) (sC x0 x1 x2 x3 x4 n z m y)=some x):run (cX 0) (s0 x0 x1 x2 x3 x4)=some x:=by
 have a0:=run_ok (r0_ok x0 x1 x2 x3 x4)
 have a1:=run_ok (r1_ok x0 x1 x2 x3 x4)
 have a2:run (rX 2) (sA x0 x1 x2 x3 x4)=some (.normal,sB x0 x1 x2 x3 x4 n z):=step_at (sB_ok x0 x1 x2 x3 x4 n z) ((sB_call x0 x1 x2 x3 x4).trans h1)
 have a3:run (rX 3) (sB x0 x1 x2 x3 x4 n z)=some (.normal,sC x0 x1 x2 x3 x4 n z m y):=step_at (sC_ok x0 x1 x2 x3 x4 n z m y) ((sC_call x0 x1 x2 x3 x4 n z).trans h2)
 rw[cX0_eq,run_seq a0,run_seq a1]
 have a2':=run_seq (b:=.seq (rX 3) (cX 4)) a2
 have a3':=run_seq (b:=cX 4) a3
 exact a2'.trans (a3'.trans h)
theorem runS{h2:H}(ea:En x0∈tens)(eb:En x1∈tens)(ec:En x2∈tens)(ed:En x3∈tens)(e1:En x0=En x2)(e2:En x1=En x3)(hf:iN 8 [] (hA x0 x1 x2 x3 x4)=some (.bool true,h2)):run (cX 4) (sC x0 x1 x2 x3 x4 0 6 0 6)=some (.ret,sS7 x0 x1 x2 x3 x4 h2):=by
 have c4:=cmpCall (h:=fH (pre w4 8 (sS x0 x1 x2 x3 x4))) (sS_60 x0 x1 x2 x3 x4) (sS_61 x0 x1 x2 x3 x4) ea eb ec ed
 have ev:(!(decide (En x0=En x2)&&decide (En x1=En x3)))=false:=by simp[e1,e2]
 rw[ev] at c4
 have c4':oneO prog iC (fT (pre w4 8 (sS x0 x1 x2 x3 x4))) (fH (pre w4 8 (sS x0 x1 x2 x3 x4))) (opA w4 8).op=some (.bool false,hA x0 x1 x2 x3 x4):=by rw[c4,sS_h]
 have a4:run w4 (sS x0 x1 x2 x3 x4)=some (.normal,sS4 x0 x1 x2 x3 x4):=step_at (sS4_ok x0 x1 x2 x3 x4) c4'
 have a6:=run_ok (sS6_ok x0 x1 x2 x3 x4)
 have c7:=sS7_call x0 x1 x2 x3 x4 iC
 rw[iC6,hf] at c7
 have a7:run w7 (sS6 x0 x1 x2 x3 x4)=some (.normal,sS7 x0 x1 x2 x3 x4 h2):=step_at (sS7_ok x0 x1 x2 x3 x4 h2) c7
 have b7:run (.seq w7 .ret) (sS6 x0 x1 x2 x3 x4)=some (.ret,sS7 x0 x1 x2 x3 x4 h2):=(run_seq a7).trans run_ret
 have b6:run (.cond (.tmp 66) (.seq w7 .ret) .skip) (sS6 x0 x1 x2 x3 x4)=some (.ret,sS7 x0 x1 x2 x3 x4 h2):=(run_true (sS6_66 x0 x1 x2 x3 x4)).trans b7
 have d6:run (.seq w6 (.cond (.tmp 66) (.seq w7 .ret) .skip)) (sS4 x0 x1 x2 x3 x4)=some (.ret,sS7 x0 x1 x2 x3 x4 h2):=(run_seq a6).trans b6
 have d5:run q5 (sS4 x0 x1 x2 x3 x4)=some (.ret,sS7 x0 x1 x2 x3 x4 h2):=by rw[q5_eq];exact run_seq_ret d6
 have b4:run (.cond (.tmp 64) w5 .skip) (sS4 x0 x1 x2 x3 x4)=some (.normal,sS4 x0 x1 x2 x3 x4):=(run_false (sS4_64 x0 x1 x2 x3 x4)).trans run_skip
 have d4:run (.seq w4 (.cond (.tmp 64) w5 .skip)) (sS x0 x1 x2 x3 x4)=some (.normal,sS4 x0 x1 x2 x3 x4):=(run_seq a4).trans b4
 rw[cX4_eq]
 exact(run_seq d4).trans d5
theorem runD{h2:H}{n m f g:Int}(ea:En x0∈tens)(eb:En x1∈tens)(ec:En x2∈tens)(ed:En x3∈tens)(e1:¬(En x0=En x2∧En x1=En x3))(hf:iN 8 [] (hA x0 x1 x2 x3 x4)=some (.bool true,h2))(hn:eight n)(hm:m=(n+4) % 8)(hff:f=n)(hg:g=(10-n) % 8)(g1:iL (.func 9) [sqv 0 0,sqv (KX x0 x2 x4) (KX x1 x3 x4)] (hA x0 x1 x2 x3 x4)=some (tu [k64 f,k64 0],hA x0 x1 x2 x3 x4))(g2:iL (.func 9) [sqv 0 0,sqv (X x1 x3) (X x0 x2)] (hA x0 x1 x2 x3 x4)=some (tu [k64 g,k64 0],hA x0 x1 x2 x3 x4)):run (cX 4) (sC x0 x1 x2 x3 x4 n 0 m 0)=some (.ret,tE13 x0 x1 x2 x3 x4 n h2):=by
 have c4:=cmpCall (h:=fH (pre w4 8 (sD x0 x1 x2 x3 x4 n m))) (sD_60 x0 x1 x2 x3 x4 n m) (sD_61 x0 x1 x2 x3 x4 n m) ea eb ec ed
 have ev:(!(decide (En x0=En x2)&&decide (En x1=En x3)))=true:=by
  by_cases k1:En x0=En x2<;>by_cases k2:En x1=En x3<;>simp_all
 rw[ev] at c4
 have c4':oneO prog iC (fT (pre w4 8 (sD x0 x1 x2 x3 x4 n m))) (fH (pre w4 8 (sD x0 x1 x2 x3 x4 n m))) (opA w4 8).op=some (.bool true,hA x0 x1 x2 x3 x4):=by rw[c4,sD_h]
 have a4:run w4 (sD x0 x1 x2 x3 x4 n m)=some (.normal,sD4 x0 x1 x2 x3 x4 n m):=step_at (sD4_ok x0 x1 x2 x3 x4 n m) c4'
 have a6:=run_ok (sD6_ok x0 x1 x2 x3 x4 n m)
 have b6:run (.cond (.tmp 66) (.seq w7 .ret) .skip) (sD6 x0 x1 x2 x3 x4 n m)=some (.normal,sD6 x0 x1 x2 x3 x4 n m):=(run_false (sD6_66 x0 x1 x2 x3 x4 n m)).trans run_skip
 have d6:run (.seq w6 (.cond (.tmp 66) (.seq w7 .ret) .skip)) (sD4 x0 x1 x2 x3 x4 n m)=some (.normal,sD6 x0 x1 x2 x3 x4 n m):=(run_seq a6).trans b6
 have a8:=run_ok (sD8_ok x0 x1 x2 x3 x4 n m)
 have a9:run w9 (sD8 x0 x1 x2 x3 x4 n m)=some (.normal,sD9 x0 x1 x2 x3 x4 n m f):=step_at (sD9_ok x0 x1 x2 x3 x4 n m f) ((sD9_call x0 x1 x2 x3 x4 n m).trans g1)
 have a10:run w10 (sD9 x0 x1 x2 x3 x4 n m f)=some (.normal,sD10 x0 x1 x2 x3 x4 n m f g):=step_at (sD10_ok x0 x1 x2 x3 x4 n m f g) ((sD10_call x0 x1 x2 x3 x4 n m f).trans g2)
 have hs:sD10 x0 x1 x2 x3 x4 n m f g=tE x0 x1 x2 x3 x4 n:=by rw[hm,hff,hg];rfl
 rw[hs] at a10
 have a11:=run_ok (tE11_ok x0 x1 x2 x3 x4 hn)
 have b11:run (.cond (.tmp 124) w12 .skip) (tE11 x0 x1 x2 x3 x4 n)=some (.normal,tE11 x0 x1 x2 x3 x4 n):=(run_false (tE11_124 x0 x1 x2 x3 x4 hn)).trans run_skip
 have d11:run (.seq w11 (.cond (.tmp 124) w12 .skip)) (tE x0 x1 x2 x3 x4 n)=some (.normal,tE11 x0 x1 x2 x3 x4 n):=(run_seq a11).trans b11
 have c13:=tE13_call x0 x1 x2 x3 x4 hn iC
 rw[iC6,hf] at c13
 have a13:run w13 (tE11 x0 x1 x2 x3 x4 n)=some (.normal,tE13 x0 x1 x2 x3 x4 n h2):=step_at (tE13_ok x0 x1 x2 x3 x4 hn h2) c13
 have d13:run (.seq w13 .ret) (tE11 x0 x1 x2 x3 x4 n)=some (.ret,tE13 x0 x1 x2 x3 x4 n h2):=(run_seq a13).trans run_ret
 have e11:run q11 (tE x0 x1 x2 x3 x4 n)=some (.ret,tE13 x0 x1 x2 x3 x4 n h2):=by rw[q11_eq];exact(run_seq d11).trans d13
 have e8:run q8 (sD6 x0 x1 x2 x3 x4 n m)=some (.ret,tE13 x0 x1 x2 x3 x4 n h2):=by rw[q8_eq];exact(run_seq a8).trans ((run_seq a9).trans ((run_seq a10).trans e11))
 have e5:run q5 (sD4 x0 x1 x2 x3 x4 n m)=some (.ret,tE13 x0 x1 x2 x3 x4 n h2):=by rw[q5_eq];exact(run_seq d6).trans e8
 have b4:run (.cond (.tmp 64) w5 .skip) (sD4 x0 x1 x2 x3 x4 n m)=some (.normal,sD4 x0 x1 x2 x3 x4 n m):=(run_false (sD4_64 x0 x1 x2 x3 x4 n m)).trans run_skip
 have d4:run (.seq w4 (.cond (.tmp 64) w5 .skip)) (sD x0 x1 x2 x3 x4 n m)=some (.normal,sD4 x0 x1 x2 x3 x4 n m):=(run_seq a4).trans b4
 rw[cX4_eq]
 exact(run_seq d4).trans e5
end
theorem inB_mk{a b:Int}(h1:-20≤a)(h2:a≤20)(h3:-20≤b)(h4:b≤20):inB a b=true:=inB_of ⟨h1,h2,h3,h4⟩
theorem trueV_far{e n e2 n2:Int}(h:¬(e=e2∧n=n2)):trueV e n e2 n2=tu [k64 (trueT (e2-e) (n2-n)),k64 0]:=by
 unfold trueV same
 rw[if_neg (by simpa using h)]
theorem trueV_one{e n e2 n2:Int}(h1:e=e2)(h2:n=n2):trueV e n e2 n2=tu [k64 0,k64 6]:=by
 unfold trueV same
 rw[if_pos (by simp[h1,h2])]
theorem K4_is{x:Int}(h1:0≤x)(h2:x<256):K4 x=1∨K4 x=2:=by
 unfold K4
 rw[wrap_small (n:=x) (by omega) (by omega),Int.tmod_eq_emod_of_nonneg h1,wrap_small (by omega) (by omega)]
 omega
theorem eight_of{n:Int}(h1:0≤n)(h2:n≤7):eight n:=by unfold eight;omega
theorem law_run{x0 x1 x2 x3 x4:Int}(h0:0≤x0∧x0<256)(h1:0≤x1∧x1<256)(h2:0≤x2∧x2<256)(h3:0≤x3∧x3<256)(h4:0≤x4∧x4<256):∃s h',run (cX 0) (s0 x0 x1 x2 x3 x4)=some (.ret,s)∧leaveC prog (fnOf prog 5) (.ret,s)=some (.bool true,h'):=by
 obtain⟨h',hf⟩:=found_law x0 x1 x2 x3 x4
 have m0:=En_mem h0.1 h0.2
 have m1:=En_mem h1.1 h1.2
 have m2:=En_mem h2.1 h2.2
 have m3:=En_mem h3.1 h3.2
 have ea:=tens_mem m0.1 m0.2
 have eb:=tens_mem m1.1 m1.2
 have ec:=tens_mem m2.1 m2.2
 have ed:=tens_mem m3.1 m3.2
 have b1:inB (En x0) (En x1)=true:=inB_mk (by omega) (by omega) (by omega) (by omega)
 have b2:inB (En x2) (En x3)=true:=inB_mk (by omega) (by omega) (by omega) (by omega)
 by_cases hs:En x0=En x2∧En x1=En x3
 .have c1:=iL5 (hA x0 x1 x2 x3 x4) b1 b2
  have c2:=iL5 (hA x0 x1 x2 x3 x4) b2 b1
  rw[trueV_one hs.1 hs.2] at c1
  rw[trueV_one hs.1.symm hs.2.symm] at c2
  exact⟨_,h',run0 c1 c2 (runS ea eb ec ed hs.1 hs.2 hf),sS7_leave x0 x1 x2 x3 x4 h'⟩
 .have c1:=iL5 (hA x0 x1 x2 x3 x4) b1 b2
  have c2:=iL5 (hA x0 x1 x2 x3 x4) b2 b1
  rw[trueV_far hs] at c1
  rw[trueV_far (by omega)] at c2
  have hX:X x0 x2=En x2-En x0:=wrap_small (by omega) (by omega)
  have hY:X x1 x3=En x3-En x1:=wrap_small (by omega) (by omega)
  have hK:=K4_is h4.1 h4.2
  have hKX:KX x0 x2 x4=K4 x4*(En x2-En x0):=by
   unfold KX;rw[hX]
   rcases hK with k|k<;>rw[k]<;>exact wrap_small (by omega) (by omega)
  have hKY:KX x1 x3 x4=K4 x4*(En x3-En x1):=by
   unfold KX;rw[hY]
   rcases hK with k|k<;>rw[k]<;>exact wrap_small (by omega) (by omega)
  generalize hx:En x2-En x0=x at *
  generalize hy:En x3-En x1=y at *
  have hne:¬(x=0∧y=0):=by omega
  obtain⟨t1,t2,t3,t4,t5⟩:=turn_is (x:=x) (y:=y) (by omega) (by omega) hne
  have e1:En x0-En x2 = -x:=by omega
  have e2:En x1-En x3 = -y:=by omega
  rw[e1,e2] at c2
  have g1:iL (.func 9) [sqv 0 0,sqv (KX x0 x2 x4) (KX x1 x3 x4)] (hA x0 x1 x2 x3 x4)=some (tu [k64 (trueT x y),k64 0],hA x0 x1 x2 x3 x4):=by
   rw[hKX,hKY]
   rcases hK with k|k<;>rw[k]
   .rw[iL5 _ (inB_mk (by omega) (by omega) (by omega) (by omega)) (inB_mk (by omega) (by omega) (by omega) (by omega)),trueV_far (by omega)]
    simp only[Int.one_mul,Int.sub_zero]
   .rw[iL5 _ (inB_mk (by omega) (by omega) (by omega) (by omega)) (inB_mk (by omega) (by omega) (by omega) (by omega)),trueV_far (by omega)]
    simp only[Int.sub_zero,t4]
  have g2:iL (.func 9) [sqv 0 0,sqv (X x1 x3) (X x0 x2)] (hA x0 x1 x2 x3 x4)=some (tu [k64 ((10-trueT x y) % 8),k64 0],hA x0 x1 x2 x3 x4):=by
   rw[hX,hY,iL5 _ (inB_mk (by omega) (by omega) (by omega) (by omega)) (inB_mk (by omega) (by omega) (by omega) (by omega)),trueV_far (by omega)]
   simp only[Int.sub_zero,t5]
  have hn:=eight_of t1 t2
  exact⟨_,h',run0 c1 c2 (runD ea eb ec ed hs hf hn t3 rfl rfl g1 g2),tE13_leave x0 x1 x2 x3 x4 hn h'⟩
theorem law_is{x0 x1 x2 x3 x4:Int}(h0:0≤x0∧x0<256)(h1:0≤x1∧x1<256)(h2:0≤x2∧x2<256)(h3:0≤x3∧x3<256)(h4:0≤x4∧x4<256):∃h',funcC prog L N iN iL 5 (aL x0 x1 x2 x3 x4) ⟨.nil,0,[]⟩=some (.bool true,h'):=by
 obtain⟨s,h',e1,e2⟩:=law_run h0 h1 h2 h3 h4
 refine⟨h',?_⟩
 have hf:prog.funcs[5]?=some (fnOf prog 5):=by kernel_rfl
 have hb:(fnOf prog 5).body=some (cX 0):=by kernel_rfl
 have ha:argsT 0 (aL x0 x1 x2 x3 x4) .nil=some (s0 x0 x1 x2 x3 x4).t:=by kernel_rfl
 have hname:((fnOf prog 5).name == "runtime.NumGoroutine")=false:=by kernel_rfl
 have hcl:Ren.bCodeL prog L (cX 0)=true:=by kernel_rfl
 have e1':codeC prog L N iN iL ((aL x0 x1 x2 x3 x4).length+((fnOf prog 5).ntmps-(aL x0 x1 x2 x3 x4).length)) (cX 0) ⟨(s0 x0 x1 x2 x3 x4).t,⟨.nil,0,[]⟩,[]⟩=some (.ret,s):=e1
 unfold funcC
 simp only[hf,hb,ha,hname,hcl,e1',e2]
open Go.Crew Go.Conc Go.Ren
theorem law_good:@FrameGood mpsAll (spOf prog L N) prog (·∈L) (Frame.enter prog 5 #[] .normal):=by
 have hf:prog.funcs[5]?=some (fnOf prog 5):=by kernel_rfl
 have hb:(fnOf prog 5).body=some (cX 0):=by kernel_rfl
 have hcl:bCodeL prog L (cX 0)=true:=by kernel_rfl
 refine @FrameGood.mk mpsAll (spOf prog L N) prog (·∈L) (Frame.enter prog 5 #[] .normal) (fun it hit=>?_) (fun d hd=>(by simp[Frame.enter] at hd)) trivial (.inl rfl)
 have:it=.code (cX 0):=by
  simp only[Frame.enter,hf] at hit
  simpa[hb] using hit
 subst this
 exact @bCodeL_ok mpsAll prog L N (cX 0) hcl
theorem frz_nonum(A:Nat→Prop)(v:World):NoNum (frz A (lower (·∈L) v)):=fun x o hx=>by
 obtain⟨x0,h1,h2⟩:=frz_get hx
 obtain⟨_,c,e,fr,_,rfl⟩:=lower_get _ v h1
 rcases h2 with⟨_,rfl⟩|⟨_,rfl⟩
 .unfold lowerObj
  dsimp only
  split<;>rfl
 .unfold lowerObj
  dsimp only
  split<;>rfl
theorem law_ends{x0 x1 x2 x3 x4:Int}(h0:0≤x0∧x0<256)(h1:0≤x1∧x1<256)(h2:0≤x2∧x2<256)(h3:0≤x3∧x3<256)(h4:0≤x4∧x4<256)(W:World):EndsWell prog (fun v W'=>v=.bool true∧∀may,W.keptBut W' may) (solo (Conc.G (Frame.enter prog 5 ⟨aL x0 x1 x2 x3 x4⟩ .normal) []) W) #[]:=by
 obtain⟨h',e⟩:=law_is h0 h1 h2 h3 h4
 have hf:prog.funcs[5]?=some (fnOf prog 5):=by kernel_rfl
 have hres:(fnOf prog 5).results=#[.tmp 10]:=by kernel_rfl
 have hin:prog.inits.idxOf? 5=none:=by kernel_rfl
 have hg0:prog.globals.size=0:=by kernel_rfl
 refine @KM.start (spOf prog L N) prog (·∈L) _ sok 5 (.inr law_good) _ W (by omega) (fun g hg=>absurd hg (by omega)) (fun x hx=>?_) ?_
 .have hx':x∈aL x0 x1 x2 x3 x4:=by simpa using hx
  simp only[aL,List.mem_cons,List.not_mem_nil,or_false] at hx'
  rcases hx' with rfl|rfl|rfl|rfl|rfl<;>rfl
 .refine func_top (ivF hkW3_ok) hLN hf hres e (ρ:=fun _=>.unborn) (args':=aL x0 x1 x2 x3 x4) ?_ ?_ (fun _ _ _=>rfl) fun fr w' e1 e2 e3 e4 e5=>?_
  .exact flats_self rfl
  .exact empty_hr _ (frz_nonum _ _)
  .refine @KM.ends (spOf prog L N) prog (·∈L) _ _ _ fr w' (fnOf prog 5) 10 (by rw[e1];exact hf) hres (by rw[e1];exact hin) e2 e3 e4 fun f w d hR=>⟨?_,fun may=>keptBut_of_rely hR d may⟩
   rw[e5];exact closedB_closed rfl f
end Go.Proofs.Tryz
