import Derived.Test.YtjilljfmaknihaaGreatA38
set_option linter.all false
namespace Go.Proofs.Tryz
set_option maxRecDepth 1000000
open Go.Inst Go.Ev
def ai0:Nat→List (Int×Int)→List (List (Int×Int)×List (Int×Int))
|0,l=>[([],l)]
|_+1,[]=>[]
|k+1,x::l=>((ai0 k l).map fun p=>(x::p.1,p.2))++(ai0 (k+1) l).map fun p=>(p.1,x::p.2)
def sqc(x:Int×Int):List ae:=[lQ x.1,lQ x.2]
def ZB:List ae:=[U6 2210 6,lQ 0,lQ 6,.func (.func 100) #[] #[]]
def alg(i:Int):T ae:=T.put T.deep (T.put T.deep (T.put T.deep (T.put T.deep (T.put T.deep .nil 0 (some (U6 2210 6))) 1 (some (lQ 0))) 2 (some (lQ 6))) 3 (some (.func (.func 100) #[] #[]))) 8 (some (lQ i))
def oP(i:Nat):Lev:=((ai0 i sqs).map (fun p=>((p.1.map sqc).flatten,p.2.map sqc)),alg i,2300)
def pre6:List ae:=row [[0,0],[1,0],[2,0],[2,1],[1,2],[2,2]]
def sE:uK:=⟨183,ZB,2210,sqs.map sqc,27,2,tu [],pre6,2300,2300⟩
noncomputable def sN:Nat:=ZB.length+(aaZ.fn.ntmps-ZB.length)
noncomputable def qh(i:Nat)(l:List Pre):Bool:=l.all fun p=>eQ.Zv prog Rj aaZ 183 sN sE.h 2210 27 2 [p] (oP i).2.1 (oP i).2.2 (oP (i+1))
def ahq{i k:Nat}(h1:qh i ((oP i).1.take k)=true)(h2:qh i ((oP i).1.drop k)=true):qh i (oP i).1=true:=by unfold qh at *;rw[←Zf k (oP i).1,Gx,h1,h2];rfl
def acN{i j k:Nat}(h1:qh i (((oP i).1.drop j).take k)=true)(h2:qh i ((oP i).1.drop (j+k))=true):qh i ((oP i).1.drop j)=true:=by unfold qh at *;rw[←Zf k ((oP i).1.drop j),Gx,h1,UY,h2];rfl
def s1:qh 1 (oP 1).1=true:=by kernel_rfl
def s2a:qh 2 ((oP 2).1.take 5)=true:=by kernel_rfl
def s2b:qh 2 (((oP 2).1.drop 5).take 5)=true:=by kernel_rfl
def s2c:qh 2 ((oP 2).1.drop (5+5))=true:=by kernel_rfl
def s2:qh 2 (oP 2).1=true:=ahq s2a (acN s2b s2c)
def s3a:qh 3 ((oP 3).1.take 7)=true:=by kernel_rfl
def s3b:qh 3 (((oP 3).1.drop 7).take 7)=true:=by kernel_rfl
def s3c:qh 3 ((oP 3).1.drop (7+7))=true:=by kernel_rfl
def s3:qh 3 (oP 3).1=true:=ahq s3a (acN s3b s3c)
def s4:qh 4 (oP 4).1=true:=by kernel_rfl
def s5:qh 5 (oP 5).1=true:=by kernel_rfl
def ajF:eQ.endsB prog Rj aaZ 183 ZB sE.h 2210 (sqs.map sqc) 27 2 (oP 1) (oP 6) pre6 (tu []) 2300=true:=by kernel_rfl
def ajE:(oP 6).1=[(pre6,[])]:=by kernel_rfl
def sCh:eQ.Chain prog Rj aaZ 183 sN sE.h 2210 27 2 (oP 1) [oP 2,oP 3,oP 4,oP 5,oP 6]:=.cons (bZ.1 s1) (aA _) (.cons (bZ.1 s2) (aA _) (.cons (bZ.1 s3) (aA _) (.cons (bZ.1 s4) (aA _) (.cons (bZ.1 s5) (aA _) (.one _)))))
def ajD:sE.nb<top:=by show 2210<2 ^ 39;omega
def ajG:sE.ok prog:=⟨eQ.told zW (ng zW) Zw (by rw[uK.get sE ajD];rfl) sCh ajE ajF,ajD⟩
end Go.Proofs.Tryz
