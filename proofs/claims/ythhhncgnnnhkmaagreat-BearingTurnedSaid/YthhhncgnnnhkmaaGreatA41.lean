import Derived.Test.YthhhncgnnnhkmaaGreatA32
set_option linter.all false
namespace Go.Proofs.Tryz
set_option maxRecDepth 1000000
open Go.Inst Go.Ev
def cmps:Nat→List (Int×Int)→List (List (Int×Int)×List (Int×Int))
 |0,l=>[([],l)]
 |_+1,[]=>[]
 |k+1,x::l=>((cmps k l).map fun p=>(x::p.1,p.2))++(cmps (k+1) l).map fun p=>(p.1,x::p.2)
def sqc(x:Int×Int):List Value:=[k64 x.1,k64 x.2]
def sArgs:List Value:=[sls 2272 6,k64 0,k64 6,.func (.func 107) #[] #[]]
def sTab(i:Int):T Value:=T.put T.deep (T.put T.deep (T.put T.deep (T.put T.deep (T.put T.deep .nil 0 (some (sls 2272 6))) 1 (some (k64 0))) 2 (some (k64 6))) 3 (some (.func (.func 107) #[] #[]))) 8 (some (k64 i))
def sLev(i:Nat):Lev:=((cmps i sqs).map (fun p=>((p.1.map sqc).flatten,p.2.map sqc)),sTab i,2300)
def pre6:List Value:=row [[0,0],[1,0],[2,0],[2,1],[1,2],[2,2]]
def sE:SortE:=⟨195,sArgs,2272,sqs.map sqc,27,2,tu [],pre6,2300,2300⟩
noncomputable def sN:Nat:=sArgs.length+(srtS.fn.ntmps-sArgs.length)
noncomputable def sStep(i:Nat)(l:List Pre):Bool:=l.all fun p=>Srt.stepB prog invCt srtS 195 sN sE.h 2272 27 2 [p] (sLev i).2.1 (sLev i).2.2 (sLev (i+1))
theorem sPart{i k:Nat}(h1:sStep i ((sLev i).1.take k)=true)(h2:sStep i ((sLev i).1.drop k)=true):sStep i (sLev i).1=true:=by
 unfold sStep at *
 rw[←List.take_append_drop k (sLev i).1,List.all_append,h1,h2]
 rfl
theorem sPart2{i j k:Nat}(h1:sStep i (((sLev i).1.drop j).take k)=true)(h2:sStep i ((sLev i).1.drop (j+k))=true):sStep i ((sLev i).1.drop j)=true:=by
 unfold sStep at *
 rw[←List.take_append_drop k ((sLev i).1.drop j),List.all_append,h1,List.drop_drop,h2]
 rfl
theorem s1:sStep 1 (sLev 1).1=true:=by kernel_rfl
theorem s2a:sStep 2 ((sLev 2).1.take 5)=true:=by kernel_rfl
theorem s2b:sStep 2 (((sLev 2).1.drop 5).take 5)=true:=by kernel_rfl
theorem s2c:sStep 2 ((sLev 2).1.drop (5+5))=true:=by kernel_rfl
theorem s2:sStep 2 (sLev 2).1=true:=sPart s2a (sPart2 s2b s2c)
theorem s3a:sStep 3 ((sLev 3).1.take 7)=true:=by kernel_rfl
theorem s3b:sStep 3 (((sLev 3).1.drop 7).take 7)=true:=by kernel_rfl
theorem s3c:sStep 3 ((sLev 3).1.drop (7+7))=true:=by kernel_rfl
theorem s3:sStep 3 (sLev 3).1=true:=sPart s3a (sPart2 s3b s3c)
theorem s4:sStep 4 (sLev 4).1=true:=by kernel_rfl
theorem s5:sStep 5 (sLev 5).1=true:=by kernel_rfl
theorem sEnds:Srt.endsB prog invCt srtS 195 sArgs sE.h 2272 (sqs.map sqc) 27 2 (sLev 1) (sLev 6) pre6 (tu []) 2300=true:=by kernel_rfl
theorem sLast:(sLev 6).1=[(pre6,[])]:=by kernel_rfl
theorem sCh:Srt.Chain prog invCt srtS 195 sN sE.h 2272 27 2 (sLev 1) [sLev 2,sLev 3,sLev 4,sLev 5,sLev 6]:=
 .cons (List.all_eq_true.1 s1) (Nat.le_refl _) (.cons (List.all_eq_true.1 s2) (Nat.le_refl _) (.cons (List.all_eq_true.1 s3) (Nat.le_refl _) (.cons (List.all_eq_true.1 s4) (Nat.le_refl _) (.cons (List.all_eq_true.1 s5) (Nat.le_refl _) (.one _)))))
theorem sLow:sE.nb<top:=by show 2272<2 ^ 39;omega
theorem sE_ok:sE.ok prog:=⟨Srt.told invCt_ok (drawn_ok invCt_ok) srtS_ok (by rw[SortE.get sE sLow];rfl) sCh sLast sEnds,sLow⟩
end Go.Proofs.Tryz
