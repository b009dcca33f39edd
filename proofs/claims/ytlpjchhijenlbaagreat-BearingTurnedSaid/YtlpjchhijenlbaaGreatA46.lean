/- Of the proof of BearingTurned: Fd11 -/
import Derived.Test.YtlpjchhijenlbaaGreatA37
import Derived.Test.YtlpjchhijenlbaaGreatA13
set_option linter.unusedSectionVars false
set_option linter.unusedVariables false
set_option linter.unusedSimpArgs false
section
set_option maxRecDepth 1000000
namespace Go.Proofs.Tryz
open Go.Inst Go.Ev
def cmps:Nat→List (Int × Int)→List (List (Int × Int) × List (Int × Int))
 | 0,l=>[([],l)]
 | _+1,[]=>[]
 | k+1,x::l=>((cmps k l).map fun p=>(x::p.1,p.2))++(cmps (k+1) l).map fun p=>(p.1,x::p.2)
def sqc (x:Int × Int):List Value:=[eG x.1,eG x.2]
def PS:List Value:=[J8 2210 6,eG 0,eG 6,.func (.func 64) #[] #[]]
def sTab (i:Int):T Value:=T.put T.deep (T.put T.deep (T.put T.deep (T.put T.deep (T.put T.deep .nil 0 (some (J8 2210 6))) 1 (some (eG 0))) 2 (some (eG 6))) 3 (some (.func (.func 64) #[] #[]))) 8 (some (eG i))
def kD (i:Nat):J9:=((cmps i sqs).map (fun p=>((p.1.map sqc).flatten,p.2.map sqc)),sTab i,2300)
def pre6:List Value:=row [[0,0],[1,0],[2,0],[2,1],[1,2],[2,2]]
def sE:nS:=⟨148,PS,2210,sqs.map sqc,23,2,tu [],pre6,2300,2300⟩
noncomputable def sN:Nat:=PS.length+(QV.fn.ntmps - PS.length)
noncomputable def lu (i:Nat) (l:List Pre):Bool:=l.all fun p=>bI.PM prog Iz QV 148 sN sE.h 2210 23 2 [p] (kD i).2.1 (kD i).2.2 (kD (i+1))
theorem Yy {i k:Nat} (h1:lu i ((kD i).1.take k)=true) (h2:lu i ((kD i).1.drop k)=true):lu i (kD i).1=true:=by
 unfold lu at *
 rw [←List.take_append_drop k (kD i).1,List.all_append,h1,h2]
 rfl
theorem TW {i j k:Nat} (h1:lu i (((kD i).1.drop j).take k)=true) (h2:lu i ((kD i).1.drop (j+k))=true):lu i ((kD i).1.drop j)=true:=by
 unfold lu at *
 rw [←List.take_append_drop k ((kD i).1.drop j),List.all_append,h1,List.drop_drop,h2]
 rfl
theorem s1:lu 1 (kD 1).1=true:=by kernel_rfl
theorem s2a:lu 2 ((kD 2).1.take 5)=true:=by kernel_rfl
theorem s2b:lu 2 (((kD 2).1.drop 5).take 5)=true:=by kernel_rfl
theorem s2c:lu 2 ((kD 2).1.drop (5+5))=true:=by kernel_rfl
theorem s2:lu 2 (kD 2).1=true:=Yy s2a (TW s2b s2c)
theorem s3a:lu 3 ((kD 3).1.take 7)=true:=by kernel_rfl
theorem s3b:lu 3 (((kD 3).1.drop 7).take 7)=true:=by kernel_rfl
theorem s3c:lu 3 ((kD 3).1.drop (7+7))=true:=by kernel_rfl
theorem s3:lu 3 (kD 3).1=true:=Yy s3a (TW s3b s3c)
theorem s4:lu 4 (kD 4).1=true:=by kernel_rfl
theorem s5:lu 5 (kD 5).1=true:=by kernel_rfl
theorem sEnds:bI.endsB prog Iz QV 148 PS sE.h 2210 (sqs.map sqc) 23 2 (kD 1) (kD 6) pre6 (tu []) 2300=true:=by kernel_rfl
theorem sLast:(kD 6).1=[(pre6,[])]:=by kernel_rfl
theorem sCh:bI.Chain prog Iz QV 148 sN sE.h 2210 23 2 (kD 1) [kD 2,kD 3,kD 4,kD 5,kD 6]:=
 .cons (List.all_eq_true.1 s1) (Nat.le_refl _) (.cons (List.all_eq_true.1 s2) (Nat.le_refl _) (.cons (List.all_eq_true.1 s3) (Nat.le_refl _) (.cons (List.all_eq_true.1 s4) (Nat.le_refl _) (.cons (List.all_eq_true.1 s5) (Nat.le_refl _) (.one _)))))
theorem sLow:sE.nb<top:=by show 2210<2 ^ 39;omega
theorem sE_ok:sE.ok prog:=⟨bI.told tX (jD tX) PN (by rw [nS.get sE sLow];rfl) sCh sLast sEnds,sLow⟩
end Go.Proofs.Tryz
end
