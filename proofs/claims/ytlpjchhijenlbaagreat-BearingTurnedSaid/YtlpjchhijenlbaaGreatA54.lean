/- Of the proof of BearingTurned: Lw5 Lw7 Lw6 Lw8 Lw9 Lw10 Lw11 -/
import Derived.Test.YtlpjchhijenlbaaGreatA52
import Derived.Test.YtlpjchhijenlbaaGreatA53
import Derived.Test.YtlpjchhijenlbaaGreatA28
set_option linter.unusedSectionVars false
set_option linter.unusedVariables false
set_option linter.unusedSimpArgs false
section
set_option maxRecDepth 100000
namespace Go.Proofs.Tryz
open Go.Inst Go.Ev
theorem wrap_small {n:Int} (h1:-9223372036854775808≤n) (h2:n≤9223372036854775807):IntKind.i64.wrap n=n:=by rw [IntKind.wrap_i64];omega
theorem En_is {x:Int} (h1:0≤x) (h2:x<256):En x=x % 10 - 5:=by
 unfold En
 rw [wrap_small (n:=x) (by omega) (by omega),Int.tmod_eq_emod_of_nonneg h1]
 exact wrap_small (by omega) (by omega)
theorem J6 {x:Int} (h1:0≤x) (h2:x<256):-5≤En x∧En x≤4:=by rw [En_is h1 h2];omega
def nine:List Int:=[-9,-8,-7,-6,-5,-4,-3,-2,-1,0,1,2,3,4,5,6,7,8,9]
theorem Lt {a:Int} (h1:-9≤a) (h2:a≤9):a∈nine:=by
 have:a = -9∨a = -8∨a = -7∨a = -6∨a = -5∨a = -4∨a = -3∨a = -2∨a = -1∨a=0∨a=1∨a=2∨a=3∨a=4∨a=5∨a=6∨a=7∨a=8∨a=9:=by omega
 rcases this with rfl | rfl | rfl | rfl | rfl | rfl | rfl | rfl | rfl | rfl | rfl | rfl | rfl | rfl | rfl | rfl | rfl | rfl | rfl<;>decide
def turnB:Bool:=nine.all fun x=>nine.all fun y=>(decide (x=0)&&decide (y=0)) || (decide (0≤jP x y)&&decide (jP x y≤7)&&decide (jP (-x) (-y)=(jP x y+4) % 8)&&decide (jP (2*x) (2*y)=jP x y)&&decide (jP y x=(10 - jP x y) % 8))
theorem TE:turnB=true:=by kernel_rfl
theorem WL {x y:Int} (hx:-9≤x∧x≤9) (hy:-9≤y∧y≤9) (hne:¬ (x=0∧y=0)):0≤jP x y∧jP x y≤7∧jP (-x) (-y)=(jP x y+4) % 8∧jP (2*x) (2*y)=jP x y∧jP y x=(10 - jP x y) % 8:=by
 have h:=List.all_eq_true.1 (List.all_eq_true.1 TE x (Lt hx.1 hx.2)) y (Lt hy.1 hy.2)
 simp only [Bool.or_eq_true,Bool.and_eq_true,decide_eq_true_eq] at h
 rcases h with h | ⟨⟨⟨⟨h1,h2⟩,h3⟩,h4⟩,h5⟩
 ·exact absurd h hne
 ·exact ⟨h1,h2,h3,h4,h5⟩
end Go.Proofs.Tryz
end
section
set_option maxRecDepth 1000000
namespace Go.Proofs.Tryz
open Go.Inst Go.Ev
theorem Z4 (x0 x1 x2 x3 x4:Int):XX RX 6 [] (hA x0 x1 x2 x3 x4)=true:=by kernel_rfl
theorem SA (x0 x1 x2 x3 x4:Int):∃ h',iN 6 [] (hA x0 x1 x2 x3 x4)=some (.bool true,h'):=by
 refine ⟨RX.out (hA x0 x1 x2 x3 x4),?_⟩
 show (match XX RX 6 [] (hA x0 x1 x2 x3 x4) with
  | true=>some (RX.v,RX.out (hA x0 x1 x2 x3 x4))
  | false=>none)=_
 rw [Z4]
 rfl
end Go.Proofs.Tryz
end
section
set_option maxRecDepth 100000
namespace Go.Proofs.Tryz
open Go.Inst Go.Ev
section
noncomputable def w4:Code:=bH (bH (cX 4))
noncomputable def q5:Code:=cZ (cX 4)
noncomputable def w6:Code:=bH (bH q5)
noncomputable def VI:Code→Code
 | .cond _ a _=>a
 | c=>c
noncomputable def w7:Code:=bH (VI (cZ (bH q5)))
noncomputable def q8:Code:=cZ q5
noncomputable def w8:Code:=bH q8
noncomputable def w9:Code:=bH (cZ q8)
noncomputable def w10:Code:=bH (cZ (cZ q8))
noncomputable def q11:Code:=cZ (cZ (cZ q8))
noncomputable def TA:Code:=bH (bH q11)
noncomputable def w5:Code:=VI (cZ (bH (cX 4)))
noncomputable def w12:Code:=VI (cZ (bH q11))
noncomputable def WI:Code:=bH (cZ q11)
theorem VP:cX 4 = .seq (.seq w4 (.cond (.tmp 64) w5 .skip)) q5:=by kernel_rfl
theorem Yz:q5 = .seq (.seq w6 (.cond (.tmp 66) (.seq w7 .ret) .skip)) q8:=by kernel_rfl
theorem q8_eq:q8 = .seq w8 (.seq w9 (.seq w10 q11)):=by kernel_rfl
theorem Zv:q11 = .seq (.seq TA (.cond (.tmp 124) w12 .skip)) (.seq WI .ret):=by kernel_rfl
theorem Uw:(fA w4 8).op = .binOp .neq 23 (.tmp 60) (.tmp 61) 23:=by kernel_rfl
section
variable (x0 x1 x2 x3 x4:Int)
noncomputable def sS (x0 x1 x2 x3 x4:Int):St:=sC x0 x1 x2 x3 x4 0 6 0 6
noncomputable def WZ (x0 x1 x2 x3 x4:Int):St:=uC w4 8 (sS x0 x1 x2 x3 x4) (.bool false) (hA x0 x1 x2 x3 x4)
theorem Zc:rE w4 8 (sS x0 x1 x2 x3 x4) (.bool false) (hA x0 x1 x2 x3 x4)=true:=by kernel_rfl
theorem sS_60:aG (fT (pre w4 8 (sS x0 x1 x2 x3 x4))) (.tmp 60)=some (mD (En x0) (En x1)):=by kernel_rfl
theorem sS_61:aG (fT (pre w4 8 (sS x0 x1 x2 x3 x4))) (.tmp 61)=some (mD (En x2) (En x3)):=by kernel_rfl
theorem sS_h:fH (pre w4 8 (sS x0 x1 x2 x3 x4))=hA x0 x1 x2 x3 x4:=by kernel_rfl
theorem Zd:aG (WZ x0 x1 x2 x3 x4).t (.tmp 64)=some (.bool false):=by kernel_rfl
noncomputable def Yx (x0 x1 x2 x3 x4:Int):St:=Nq w6 (WZ x0 x1 x2 x3 x4)
theorem Za:ZR (run w6 (WZ x0 x1 x2 x3 x4))=true:=by kernel_rfl
theorem Zb:aG (Yx x0 x1 x2 x3 x4).t (.tmp 66)=some (.bool true):=by kernel_rfl
noncomputable def Y9 (x0 x1 x2 x3 x4:Int) (h2:H):St:=uC w7 11 (Yx x0 x1 x2 x3 x4) (.bool true) h2
theorem Y8 (h2:H):rE w7 11 (Yx x0 x1 x2 x3 x4) (.bool true) h2=true:=by kernel_rfl
theorem TV (inv:Iv):lT prog inv (fT (pre w7 11 (Yx x0 x1 x2 x3 x4))) (fH (pre w7 11 (Yx x0 x1 x2 x3 x4))) (fA w7 11).op=inv (.func 6) [] (hA x0 x1 x2 x3 x4):=by kernel_rfl
theorem QX (h2:H):qB prog (vU prog 3) (.ret,Y9 x0 x1 x2 x3 x4 h2)=some (.bool true,h2):=by kernel_rfl
noncomputable def sD (x0 x1 x2 x3 x4 n m:Int):St:=sC x0 x1 x2 x3 x4 n 0 m 0
noncomputable def W9 (x0 x1 x2 x3 x4 n m:Int):St:=uC w4 8 (sD x0 x1 x2 x3 x4 n m) (.bool true) (hA x0 x1 x2 x3 x4)
theorem Zj (n m:Int):rE w4 8 (sD x0 x1 x2 x3 x4 n m) (.bool true) (hA x0 x1 x2 x3 x4)=true:=by kernel_rfl
theorem sD_60 (n m:Int):aG (fT (pre w4 8 (sD x0 x1 x2 x3 x4 n m))) (.tmp 60)=some (mD (En x0) (En x1)):=by kernel_rfl
theorem sD_61 (n m:Int):aG (fT (pre w4 8 (sD x0 x1 x2 x3 x4 n m))) (.tmp 61)=some (mD (En x2) (En x3)):=by kernel_rfl
theorem sD_h (n m:Int):fH (pre w4 8 (sD x0 x1 x2 x3 x4 n m))=hA x0 x1 x2 x3 x4:=by kernel_rfl
theorem Zk (n m:Int):aG (W9 x0 x1 x2 x3 x4 n m).t (.tmp 64)=some (.bool false):=by kernel_rfl
noncomputable def Zi (x0 x1 x2 x3 x4 n m:Int):St:=Nq w6 (W9 x0 x1 x2 x3 x4 n m)
theorem Zg (n m:Int):ZR (run w6 (W9 x0 x1 x2 x3 x4 n m))=true:=by kernel_rfl
theorem Zh (n m:Int):aG (Zi x0 x1 x2 x3 x4 n m).t (.tmp 66)=some (.bool false):=by kernel_rfl
noncomputable def sD8 (x0 x1 x2 x3 x4 n m:Int):St:=Nq w8 (Zi x0 x1 x2 x3 x4 n m)
theorem Zf (n m:Int):ZR (run w8 (Zi x0 x1 x2 x3 x4 n m))=true:=by kernel_rfl
def X (x0 x2:Int):Int:=IntKind.i64.wrap (En x2 - En x0)
def K4 (x4:Int):Int:=IntKind.i64.wrap (1+(IntKind.i64.wrap x4).tmod 2)
def KX (x0 x2 x4:Int):Int:=IntKind.i64.wrap (K4 x4*X x0 x2)
noncomputable def sD9 (x0 x1 x2 x3 x4 n m f:Int):St:=uC w9 8 (sD8 x0 x1 x2 x3 x4 n m) (tu [eG f,eG 0]) (hA x0 x1 x2 x3 x4)
theorem Ze (n m f:Int):rE w9 8 (sD8 x0 x1 x2 x3 x4 n m) (tu [eG f,eG 0]) (hA x0 x1 x2 x3 x4)=true:=by kernel_rfl
theorem TY (n m:Int):lT prog iC (fT (pre w9 8 (sD8 x0 x1 x2 x3 x4 n m))) (fH (pre w9 8 (sD8 x0 x1 x2 x3 x4 n m))) (fA w9 8).op=iL (.func 5) [mD 0 0,mD (KX x0 x2 x4) (KX x1 x3 x4)] (hA x0 x1 x2 x3 x4):=by kernel_rfl
noncomputable def Zl (x0 x1 x2 x3 x4 n m f g:Int):St:=uC w10 4 (sD9 x0 x1 x2 x3 x4 n m f) (tu [eG g,eG 0]) (hA x0 x1 x2 x3 x4)
theorem Xa (n m f g:Int):rE w10 4 (sD9 x0 x1 x2 x3 x4 n m f) (tu [eG g,eG 0]) (hA x0 x1 x2 x3 x4)=true:=by kernel_rfl
theorem QY (n m f:Int):lT prog iC (fT (pre w10 4 (sD9 x0 x1 x2 x3 x4 n m f))) (fH (pre w10 4 (sD9 x0 x1 x2 x3 x4 n m f))) (fA w10 4).op=iL (.func 5) [mD 0 0,mD (X x1 x3) (X x0 x2)] (hA x0 x1 x2 x3 x4):=by kernel_rfl
end
end
section
section
variable (x0 x1 x2 x3 x4:Int)
noncomputable def tE (x0 x1 x2 x3 x4 n:Int):St:=Zl x0 x1 x2 x3 x4 n ((n+4) % 8) n ((10 - n) % 8)
noncomputable def GY (x0 x1 x2 x3 x4 n:Int):St:=Nq TA (tE x0 x1 x2 x3 x4 n)
noncomputable def NJ (x0 x1 x2 x3 x4 n:Int) (h2:H):St:=uC WI 18 (GY x0 x1 x2 x3 x4 n) (.bool true) h2
def eight (n:Int):Prop:=n=0∨n=1∨n=2∨n=3∨n=4∨n=5∨n=6∨n=7
theorem WT {n:Int} (hn:eight n):ZR (run TA (tE x0 x1 x2 x3 x4 n))=true:=by
 rcases hn with rfl | rfl | rfl | rfl | rfl | rfl | rfl | rfl<;>kernel_rfl
theorem TJ {n:Int} (hn:eight n):aG (GY x0 x1 x2 x3 x4 n).t (.tmp 124)=some (.bool false):=by
 rcases hn with rfl | rfl | rfl | rfl | rfl | rfl | rfl | rfl<;>kernel_rfl
theorem WS {n:Int} (hn:eight n) (h2:H):rE WI 18 (GY x0 x1 x2 x3 x4 n) (.bool true) h2=true:=by
 rcases hn with rfl | rfl | rfl | rfl | rfl | rfl | rfl | rfl<;>kernel_rfl
theorem QP {n:Int} (hn:eight n) (inv:Iv):lT prog inv (fT (pre WI 18 (GY x0 x1 x2 x3 x4 n))) (fH (pre WI 18 (GY x0 x1 x2 x3 x4 n))) (fA WI 18).op=inv (.func 6) [] (hA x0 x1 x2 x3 x4):=by
 rcases hn with rfl | rfl | rfl | rfl | rfl | rfl | rfl | rfl<;>kernel_rfl
theorem NI {n:Int} (hn:eight n) (h2:H):qB prog (vU prog 3) (.ret,NJ x0 x1 x2 x3 x4 n h2)=some (.bool true,h2):=by
 rcases hn with rfl | rfl | rfl | rfl | rfl | rfl | rfl | rfl<;>kernel_rfl
end
end
section
theorem run_seq {a b:Code} {s s':St} (h:run a s=some (.normal,s')):run (.seq a b) s=run b s':=by
 show H8 (run a s) (gy prog L N iN iL nL b)=_
 rw [h];rfl
theorem KI {a b:Code} {s s':St} (h:run a s=some (.ret,s')):run (.seq a b) s=some (.ret,s'):=by
 show H8 (run a s) (gy prog L N iN iL nL b)=_
 rw [h];rfl
theorem TZ {c:Operand} {a b:Code} {s:St} (h:aG s.t c=some (.bool true)):run (.cond c a b) s=run a s:=by
 show (match aG s.t c with
  | some (.bool true)=>gy prog L N iN iL nL a s
  | some (.bool false)=>gy prog L N iN iL nL b s
  | _=>none)=_
 rw [h];rfl
theorem xH {c:Operand} {a b:Code} {s:St} (h:aG s.t c=some (.bool false)):run (.cond c a b) s=run b s:=by
 show (match aG s.t c with
  | some (.bool true)=>gy prog L N iN iL nL a s
  | some (.bool false)=>gy prog L N iN iL nL b s
  | _=>none)=_
 rw [h];rfl
theorem zJ {s:St}:run .skip s=some (.normal,s):=rfl
theorem PT {s:St}:run .ret s=some (.ret,s):=rfl
theorem Ut {f g:Operand→Option Value} {op:BinOp} {t y:TypeId} {a b:Operand} (ha:f a=g a) (hb:f b=g b):jQ prog f (.binOp op t a b y)=jQ prog g (.binOp op t a b y):=by
 simp only [jQ,ha,hb]
theorem Ux {inv:Iv} {t:T Value} {h:H} {o:Op} {v:Value} (hp:qh o=true) (e:jQ prog (aG t) o=some v):lT prog inv t h o=some (v,h):=by
 simp only [lT,hp,e]
theorem WR (a b c d:Int):aG (Y6 a b c d) (.tmp 60)=some (mD a b):=by kernel_rfl
theorem WQ (a b c d:Int):aG (Y6 a b c d) (.tmp 61)=some (mD c d):=by kernel_rfl
theorem r4_w4:r4=w4:=rfl
theorem Qr {t:T Value} {h:H} {a b c d:Int} (h1:aG t (.tmp 60)=some (mD a b)) (h2:aG t (.tmp 61)=some (mD c d)) (ha:a∈qN) (hb:b∈qN) (hc:c∈qN) (hd:d∈qN):lT prog iC t h (fA w4 8).op=some (.bool (!(decide (a=c)&&decide (b=d))),h):=by
 have e:=Ye ha hb hc hd
 unfold cmp4 at e
 rw [r4_w4,Uw] at e
 rw [Uw]
 refine Ux rfl ?_
 rw [←e]
 exact Ut (by rw [h1,WR]) (by rw [h2,WQ])
theorem iC6 (h:H):iC (.func 6) [] h=iN 6 [] h:=by
 have e:N.contains 6=true:=by decide
 simp only [iC,wX,e]
theorem cX0_eq:cX 0 = .seq (rX 0) (.seq (rX 1) (.seq (rX 2) (.seq (rX 3) (cX 4)))):=by kernel_rfl
section
variable {x0 x1 x2 x3 x4:Int}
theorem run0 {n z m y:Int} {x:Ex × St} (h1:iL (.func 5) [mD (En x0) (En x1),mD (En x2) (En x3)] (hA x0 x1 x2 x3 x4)=some (tu [eG n,eG z],hA x0 x1 x2 x3 x4)) (h2:iL (.func 5) [mD (En x2) (En x3),mD (En x0) (En x1)] (hA x0 x1 x2 x3 x4)=some (tu [eG m,eG y],hA x0 x1 x2 x3 x4)) (h:run (cX 4) (sC x0 x1 x2 x3 x4 n z m y)=some x):run (cX 0) (s0 x0 x1 x2 x3 x4)=some x:=by
 have a0:=Bj (r0_ok x0 x1 x2 x3 x4)
 have a1:=Bj (r1_ok x0 x1 x2 x3 x4)
 have a2:run (rX 2) (sA x0 x1 x2 x3 x4)=some (.normal,sB x0 x1 x2 x3 x4 n z):=qU (sB_ok x0 x1 x2 x3 x4 n z) ((Xc x0 x1 x2 x3 x4).trans h1)
 have a3:run (rX 3) (sB x0 x1 x2 x3 x4 n z)=some (.normal,sC x0 x1 x2 x3 x4 n z m y):=qU (sC_ok x0 x1 x2 x3 x4 n z m y) ((Xb x0 x1 x2 x3 x4 n z).trans h2)
 rw [cX0_eq,run_seq a0,run_seq a1]
 have a2':=run_seq (b:=.seq (rX 3) (cX 4)) a2
 have a3':=run_seq (b:=cX 4) a3
 exact a2'.trans (a3'.trans h)
theorem runS {h2:H} (ea:En x0∈qN) (eb:En x1∈qN) (ec:En x2∈qN) (ed:En x3∈qN) (e1:En x0=En x2) (e2:En x1=En x3) (hf:iN 6 [] (hA x0 x1 x2 x3 x4)=some (.bool true,h2)):run (cX 4) (sC x0 x1 x2 x3 x4 0 6 0 6)=some (.ret,Y9 x0 x1 x2 x3 x4 h2):=by
 have c4:=Qr (h:=fH (pre w4 8 (sS x0 x1 x2 x3 x4))) (sS_60 x0 x1 x2 x3 x4) (sS_61 x0 x1 x2 x3 x4) ea eb ec ed
 have ev:(!(decide (En x0=En x2)&&decide (En x1=En x3)))=false:=by simp [e1,e2]
 rw [ev] at c4
 have c4':lT prog iC (fT (pre w4 8 (sS x0 x1 x2 x3 x4))) (fH (pre w4 8 (sS x0 x1 x2 x3 x4))) (fA w4 8).op=some (.bool false,hA x0 x1 x2 x3 x4):=by rw [c4,sS_h]
 have a4:run w4 (sS x0 x1 x2 x3 x4)=some (.normal,WZ x0 x1 x2 x3 x4):=qU (Zc x0 x1 x2 x3 x4) c4'
 have a6:=Bj (Za x0 x1 x2 x3 x4)
 have c7:=TV x0 x1 x2 x3 x4 iC
 rw [iC6,hf] at c7
 have a7:run w7 (Yx x0 x1 x2 x3 x4)=some (.normal,Y9 x0 x1 x2 x3 x4 h2):=qU (Y8 x0 x1 x2 x3 x4 h2) c7
 have b7:run (.seq w7 .ret) (Yx x0 x1 x2 x3 x4)=some (.ret,Y9 x0 x1 x2 x3 x4 h2):=(run_seq a7).trans PT
 have b6:run (.cond (.tmp 66) (.seq w7 .ret) .skip) (Yx x0 x1 x2 x3 x4)=some (.ret,Y9 x0 x1 x2 x3 x4 h2):=(TZ (Zb x0 x1 x2 x3 x4)).trans b7
 have d6:run (.seq w6 (.cond (.tmp 66) (.seq w7 .ret) .skip)) (WZ x0 x1 x2 x3 x4)=some (.ret,Y9 x0 x1 x2 x3 x4 h2):=(run_seq a6).trans b6
 have d5:run q5 (WZ x0 x1 x2 x3 x4)=some (.ret,Y9 x0 x1 x2 x3 x4 h2):=by rw [Yz];exact KI d6
 have b4:run (.cond (.tmp 64) w5 .skip) (WZ x0 x1 x2 x3 x4)=some (.normal,WZ x0 x1 x2 x3 x4):=(xH (Zd x0 x1 x2 x3 x4)).trans zJ
 have d4:run (.seq w4 (.cond (.tmp 64) w5 .skip)) (sS x0 x1 x2 x3 x4)=some (.normal,WZ x0 x1 x2 x3 x4):=(run_seq a4).trans b4
 rw [VP]
 exact (run_seq d4).trans d5
theorem runD {h2:H} {n m f g:Int} (ea:En x0∈qN) (eb:En x1∈qN) (ec:En x2∈qN) (ed:En x3∈qN) (e1:¬ (En x0=En x2∧En x1=En x3)) (hf:iN 6 [] (hA x0 x1 x2 x3 x4)=some (.bool true,h2)) (hn:eight n) (hm:m=(n+4) % 8) (hff:f=n) (hg:g=(10 - n) % 8)
  (g1:iL (.func 5) [mD 0 0,mD (KX x0 x2 x4) (KX x1 x3 x4)] (hA x0 x1 x2 x3 x4)=some (tu [eG f,eG 0],hA x0 x1 x2 x3 x4)) (g2:iL (.func 5) [mD 0 0,mD (X x1 x3) (X x0 x2)] (hA x0 x1 x2 x3 x4)=some (tu [eG g,eG 0],hA x0 x1 x2 x3 x4)):run (cX 4) (sC x0 x1 x2 x3 x4 n 0 m 0)=some (.ret,NJ x0 x1 x2 x3 x4 n h2):=by
 have c4:=Qr (h:=fH (pre w4 8 (sD x0 x1 x2 x3 x4 n m))) (sD_60 x0 x1 x2 x3 x4 n m) (sD_61 x0 x1 x2 x3 x4 n m) ea eb ec ed
 have ev:(!(decide (En x0=En x2)&&decide (En x1=En x3)))=true:=by
  by_cases k1:En x0=En x2<;>by_cases k2:En x1=En x3<;>simp_all
 rw [ev] at c4
 have c4':lT prog iC (fT (pre w4 8 (sD x0 x1 x2 x3 x4 n m))) (fH (pre w4 8 (sD x0 x1 x2 x3 x4 n m))) (fA w4 8).op=some (.bool true,hA x0 x1 x2 x3 x4):=by rw [c4,sD_h]
 have a4:run w4 (sD x0 x1 x2 x3 x4 n m)=some (.normal,W9 x0 x1 x2 x3 x4 n m):=qU (Zj x0 x1 x2 x3 x4 n m) c4'
 have a6:=Bj (Zg x0 x1 x2 x3 x4 n m)
 have b6:run (.cond (.tmp 66) (.seq w7 .ret) .skip) (Zi x0 x1 x2 x3 x4 n m)=some (.normal,Zi x0 x1 x2 x3 x4 n m):=(xH (Zh x0 x1 x2 x3 x4 n m)).trans zJ
 have d6:run (.seq w6 (.cond (.tmp 66) (.seq w7 .ret) .skip)) (W9 x0 x1 x2 x3 x4 n m)=some (.normal,Zi x0 x1 x2 x3 x4 n m):=(run_seq a6).trans b6
 have a8:=Bj (Zf x0 x1 x2 x3 x4 n m)
 have a9:run w9 (sD8 x0 x1 x2 x3 x4 n m)=some (.normal,sD9 x0 x1 x2 x3 x4 n m f):=qU (Ze x0 x1 x2 x3 x4 n m f) ((TY x0 x1 x2 x3 x4 n m).trans g1)
 have a10:run w10 (sD9 x0 x1 x2 x3 x4 n m f)=some (.normal,Zl x0 x1 x2 x3 x4 n m f g):=qU (Xa x0 x1 x2 x3 x4 n m f g) ((QY x0 x1 x2 x3 x4 n m f).trans g2)
 have hs:Zl x0 x1 x2 x3 x4 n m f g=tE x0 x1 x2 x3 x4 n:=by rw [hm,hff,hg];rfl
 rw [hs] at a10
 have a11:=Bj (WT x0 x1 x2 x3 x4 hn)
 have b11:run (.cond (.tmp 124) w12 .skip) (GY x0 x1 x2 x3 x4 n)=some (.normal,GY x0 x1 x2 x3 x4 n):=(xH (TJ x0 x1 x2 x3 x4 hn)).trans zJ
 have d11:run (.seq TA (.cond (.tmp 124) w12 .skip)) (tE x0 x1 x2 x3 x4 n)=some (.normal,GY x0 x1 x2 x3 x4 n):=(run_seq a11).trans b11
 have c13:=QP x0 x1 x2 x3 x4 hn iC
 rw [iC6,hf] at c13
 have a13:run WI (GY x0 x1 x2 x3 x4 n)=some (.normal,NJ x0 x1 x2 x3 x4 n h2):=qU (WS x0 x1 x2 x3 x4 hn h2) c13
 have d13:run (.seq WI .ret) (GY x0 x1 x2 x3 x4 n)=some (.ret,NJ x0 x1 x2 x3 x4 n h2):=(run_seq a13).trans PT
 have e11:run q11 (tE x0 x1 x2 x3 x4 n)=some (.ret,NJ x0 x1 x2 x3 x4 n h2):=by rw [Zv];exact (run_seq d11).trans d13
 have e8:run q8 (Zi x0 x1 x2 x3 x4 n m)=some (.ret,NJ x0 x1 x2 x3 x4 n h2):=by rw [q8_eq];exact (run_seq a8).trans ((run_seq a9).trans ((run_seq a10).trans e11))
 have e5:run q5 (W9 x0 x1 x2 x3 x4 n m)=some (.ret,NJ x0 x1 x2 x3 x4 n h2):=by rw [Yz];exact (run_seq d6).trans e8
 have b4:run (.cond (.tmp 64) w5 .skip) (W9 x0 x1 x2 x3 x4 n m)=some (.normal,W9 x0 x1 x2 x3 x4 n m):=(xH (Zk x0 x1 x2 x3 x4 n m)).trans zJ
 have d4:run (.seq w4 (.cond (.tmp 64) w5 .skip)) (sD x0 x1 x2 x3 x4 n m)=some (.normal,W9 x0 x1 x2 x3 x4 n m):=(run_seq a4).trans b4
 rw [VP]
 exact (run_seq d4).trans e5
end
end
theorem wY {a b:Int} (h1:-20≤a) (h2:a≤20) (h3:-20≤b) (h4:b≤20):inB a b=true:=ZV ⟨h1,h2,h3,h4⟩
theorem rW {e n e2 n2:Int} (h:¬ (e=e2∧n=n2)):vF e n e2 n2=tu [eG (jP (e2 - e) (n2 - n)),eG 0]:=by
 unfold vF same
 rw [if_neg (by simpa using h)]
theorem H5 {e n e2 n2:Int} (h1:e=e2) (h2:n=n2):vF e n e2 n2=tu [eG 0,eG 6]:=by
 unfold vF same
 rw [if_pos (by simp [h1,h2])]
theorem K4_is {x:Int} (h1:0≤x) (h2:x<256):K4 x=1∨K4 x=2:=by
 unfold K4
 rw [wrap_small (n:=x) (by omega) (by omega),Int.tmod_eq_emod_of_nonneg h1,wrap_small (by omega) (by omega)]
 omega
theorem VF {n:Int} (h1:0≤n) (h2:n≤7):eight n:=by unfold eight;omega
theorem XI {x0 x1 x2 x3 x4:Int} (h0:0≤x0∧x0<256) (h1:0≤x1∧x1<256) (h2:0≤x2∧x2<256) (h3:0≤x3∧x3<256) (h4:0≤x4∧x4<256):∃ s h',run (cX 0) (s0 x0 x1 x2 x3 x4)=some (.ret,s)∧qB prog (vU prog 3) (.ret,s)=some (.bool true,h'):=by
 obtain ⟨h',hf⟩:=SA x0 x1 x2 x3 x4
 have m0:=J6 h0.1 h0.2
 have m1:=J6 h1.1 h1.2
 have m2:=J6 h2.1 h2.2
 have m3:=J6 h3.1 h3.2
 have ea:=zy m0.1 m0.2
 have eb:=zy m1.1 m1.2
 have ec:=zy m2.1 m2.2
 have ed:=zy m3.1 m3.2
 have b1:inB (En x0) (En x1)=true:=wY (by omega) (by omega) (by omega) (by omega)
 have b2:inB (En x2) (En x3)=true:=wY (by omega) (by omega) (by omega) (by omega)
 by_cases hs:En x0=En x2∧En x1=En x3
 ·have c1:=ZW (hA x0 x1 x2 x3 x4) b1 b2
  have c2:=ZW (hA x0 x1 x2 x3 x4) b2 b1
  rw [H5 hs.1 hs.2] at c1
  rw [H5 hs.1.symm hs.2.symm] at c2
  exact ⟨_,h',run0 c1 c2 (runS ea eb ec ed hs.1 hs.2 hf),QX x0 x1 x2 x3 x4 h'⟩
 ·have c1:=ZW (hA x0 x1 x2 x3 x4) b1 b2
  have c2:=ZW (hA x0 x1 x2 x3 x4) b2 b1
  rw [rW hs] at c1
  rw [rW (by omega)] at c2
  have hX:X x0 x2=En x2 - En x0:=wrap_small (by omega) (by omega)
  have hY:X x1 x3=En x3 - En x1:=wrap_small (by omega) (by omega)
  have hK:=K4_is h4.1 h4.2
  have hKX:KX x0 x2 x4=K4 x4*(En x2 - En x0):=by
   unfold KX;rw [hX]
   rcases hK with k | k<;>rw [k]<;>exact wrap_small (by omega) (by omega)
  have hKY:KX x1 x3 x4=K4 x4*(En x3 - En x1):=by
   unfold KX;rw [hY]
   rcases hK with k | k<;>rw [k]<;>exact wrap_small (by omega) (by omega)
  generalize hx:En x2 - En x0=x at *
  generalize hy:En x3 - En x1=y at *
  have hne:¬ (x=0∧y=0):=by omega
  obtain ⟨t1,t2,t3,t4,t5⟩:=WL (x:=x) (y:=y) (by omega) (by omega) hne
  have e1:En x0 - En x2 = -x:=by omega
  have e2:En x1 - En x3 = -y:=by omega
  rw [e1,e2] at c2
  have g1:iL (.func 5) [mD 0 0,mD (KX x0 x2 x4) (KX x1 x3 x4)] (hA x0 x1 x2 x3 x4)=some (tu [eG (jP x y),eG 0],hA x0 x1 x2 x3 x4):=by
   rw [hKX,hKY]
   rcases hK with k | k<;>rw [k]
   ·rw [ZW _ (wY (by omega) (by omega) (by omega) (by omega)) (wY (by omega) (by omega) (by omega) (by omega)),rW (by omega)]
    simp only [Int.one_mul,Int.sub_zero]
   ·rw [ZW _ (wY (by omega) (by omega) (by omega) (by omega)) (wY (by omega) (by omega) (by omega) (by omega)),rW (by omega)]
    simp only [Int.sub_zero,t4]
  have g2:iL (.func 5) [mD 0 0,mD (X x1 x3) (X x0 x2)] (hA x0 x1 x2 x3 x4)=some (tu [eG ((10 - jP x y) % 8),eG 0],hA x0 x1 x2 x3 x4):=by
   rw [hX,hY,ZW _ (wY (by omega) (by omega) (by omega) (by omega)) (wY (by omega) (by omega) (by omega) (by omega)),rW (by omega)]
   simp only [Int.sub_zero,t5]
  have hn:=VF t1 t2
  exact ⟨_,h',run0 c1 c2 (runD ea eb ec ed hs hf hn t3 rfl rfl g1 g2),NI x0 x1 x2 x3 x4 hn h'⟩
theorem ZQ {x0 x1 x2 x3 x4:Int} (h0:0≤x0∧x0<256) (h1:0≤x1∧x1<256) (h2:0≤x2∧x2<256) (h3:0≤x3∧x3<256) (h4:0≤x4∧x4<256):∃ h',Au prog L N iN iL 3 (aL x0 x1 x2 x3 x4) ⟨.nil,0,[]⟩=some (.bool true,h'):=by
 obtain ⟨s,h',e1,e2⟩:=XI h0 h1 h2 h3 h4
 refine ⟨h',?_⟩
 have hf:prog.funcs[3]? = some (vU prog 3):=by kernel_rfl
 have hb:(vU prog 3).body=some (cX 0):=by kernel_rfl
 have ha:qI 0 (aL x0 x1 x2 x3 x4) .nil=some (s0 x0 x1 x2 x3 x4).t:=by kernel_rfl
 have hname:((vU prog 3).name == "runtime.NumGoroutine")=false:=by kernel_rfl
 have hcl:Ren.jF prog L (cX 0)=true:=by kernel_rfl
 have e1':gy prog L N iN iL ((aL x0 x1 x2 x3 x4).length+((vU prog 3).ntmps - (aL x0 x1 x2 x3 x4).length)) (cX 0) ⟨(s0 x0 x1 x2 x3 x4).t,⟨.nil,0,[]⟩,[]⟩=some (.ret,s):=e1
 unfold Au
 simp only [hf,hb,ha,hname,hcl,e1',e2]
end Go.Proofs.Tryz
end
section
set_option maxRecDepth 100000
namespace Go.Proofs.Tryz
open Go.Inst Go.Ev Go.Crew Go.Conc Go.Ren
theorem law_good:@ai (aK prog L N) prog (· ∈ L) (Frame.enter prog 3 #[] .normal):=by
 have hf:prog.funcs[3]? = some (vU prog 3):=by kernel_rfl
 have hb:(vU prog 3).body=some (cX 0):=by kernel_rfl
 have hcl:jF prog L (cX 0)=true:=by kernel_rfl
 refine @ai.mk (aK prog L N) prog (· ∈ L) (Frame.enter prog 3 #[] .normal) (fun it hit=>?_) (fun d hd=>(by simp [Frame.enter] at hd)) trivial (.inl rfl)
 have:it = .code (cX 0):=by
  simp only [Frame.enter,hf] at hit
  simpa [hb] using hit
 subst this
 exact @BZ prog L N (cX 0) hcl
theorem Sz (A:Nat→Prop) (v:World):gJ (Az A (lower (· ∈ L) v)):=fun x o hx=>by
 obtain ⟨x0,h1,h2⟩:=rq hx
 obtain ⟨_,c,e,fr,_,rfl⟩:=jM _ v h1
 rcases h2 with ⟨_,rfl⟩ | ⟨_,rfl⟩
 ·unfold jw
  dsimp only
  split<;>rfl
 ·unfold jw
  dsimp only
  split<;>rfl
theorem UT {x0 x1 x2 x3 x4:Int} (h0:0≤x0∧x0<256) (h1:0≤x1∧x1<256) (h2:0≤x2∧x2<256) (h3:0≤x3∧x3<256) (h4:0≤x4∧x4<256) (W:World) :
  kz prog (fun v W'=>v = .bool true∧∀ may,W.keptBut W' may) (solo (Conc.G (Frame.enter prog 3 ⟨aL x0 x1 x2 x3 x4⟩ .normal) []) W) #[]:=by
 obtain ⟨h',e⟩:=ZQ h0 h1 h2 h3 h4
 have hf:prog.funcs[3]? = some (vU prog 3):=by kernel_rfl
 have hres:(vU prog 3).results=#[.tmp 10]:=by kernel_rfl
 have hin:prog.inits.idxOf? 3=none:=by kernel_rfl
 have hg0:prog.globals.size=0:=by kernel_rfl
 refine @KM.start (aK prog L N) prog (· ∈ L) _ Yw 3 (.inr law_good) _ W (by omega) (fun g hg=>absurd hg (by omega)) (fun x hx=>?_) ?_
 ·have hx':x∈aL x0 x1 x2 x3 x4:=by simpa using hx
  simp only [aL,List.mem_cons,List.not_mem_nil,or_false] at hx'
  rcases hx' with rfl | rfl | rfl | rfl | rfl<;>rfl
 ·refine Vf (ivF XN) qP hf hres e (ρ:=fun _=>.aT) (args':=aL x0 x1 x2 x3 x4) ?_ ?_ (fun _ _ _=>rfl) fun fr w' e1 e2 e3 e4 e5=>?_
  ·exact mX rfl
  ·exact Me _ (Sz _ _)
  ·refine @KM.ends (aK prog L N) prog (· ∈ L) _ _ _ fr w' (vU prog 3) 10 (by rw [e1];exact hf) hres (by rw [e1];exact hin) e2 e3 e4 fun f w d hR=>⟨?_,fun may=>Dx hR d may⟩
   rw [e5];exact aH rfl f
end Go.Proofs.Tryz
end
