import Derived.Test.YtjilljfmaknihaaGreatA37
set_option linter.all false
namespace Go.Proofs.Tryz
set_option maxRecDepth 1000000
open Go.Inst Go.Ev
def lQ(n:Int):ae:=.int .i64 n
def u8(n:Int):ae:=.int .u8 n
def sqv(a b:Int):ae:=.agg ⟨[lQ a,lQ b]⟩
def tu(l:List ae):ae:=.tuple ⟨l⟩
def sl(b n:Nat):ae:=.slice (some ⟨b,0,none⟩) n n
def U6(b n:Nat):ae:=.slice (some ⟨b,0,none⟩) n soft
def row(l:List (List Int)):List ae:=l.flatten.map lQ
def wi(e n b c:Int)(s:Bool):List ae:=[lQ e,lQ n,lQ b,lQ c,.bool s]
def bv(x:Int):ae:=.agg #[lQ 3,lQ 3,lQ x,sl 1003 2,sl 1007 3]
def bC:List ae:=row [[0,0,0,1]]
def bW:List ae:=wi (-1) 0 2 0 false++wi 0 3 4 1 false++wi 2 (-1) 0 0 false
def bK:List (Nat×Ob):=[(1003,.cells bC 43 none),(1007,.cells bW 41 none)]
def cv:ae:=.agg #[lQ 3,lQ 3,lQ 1,sl 1003 2,sl 1007 3,U6 2038 4]
def cK:List (Nat×Ob):=bK++[(2038,.cells [u8 0,u8 1,u8 2,u8 4] 90 (some 1))]
def stg(e n o:Int):ae:=.agg #[lQ e,lQ n,lQ 0,lQ o,lQ 0]
def wr(e n o r:Int):Entry:=⟨123,[cv,stg e n o],cK,u8 r⟩
def wb:List Entry:=[wr 0 0 0 4,wr 0 0 1 6,wr 1 0 0 4,wr 1 0 1 6,wr 2 0 0 2,wr 2 0 1 0,wr 0 1 0 5,wr 0 1 1 7,wr 1 1 0 7,wr 1 1 1 5,wr 2 1 0 2,wr 2 1 1 0,wr 0 2 0 5,wr 0 2 1 7,wr 1 2 0 3,wr 1 2 1 1,wr 2 2 0 3,wr 2 2 1 1]
def ahl:∀e∈wb,e.ok prog:=zk (hk:=qp) ji (d:=30) (nx:=3000) (by kernel_rfl)
def sqs:List (Int×Int):=[(0,0),(1,0),(2,0),(2,1),(1,2),(2,2)]
def ino(x y:Int×Int):Entry:=⟨100,[sqv x.1 x.2,sqv y.1 y.2],[],lQ (if x.2<y.2 then -1 else if y.2<x.2 then 1 else if x.1<y.1 then -1 else if y.1<x.1 then 1 else 0)⟩
def io:List Entry:=sqs.flatMap fun x=>sqs.map fun y=>ino x y
def ahA:∀e∈io,e.ok prog:=zk (hk:=qp) ji (d:=30) (nx:=3000) (by kernel_rfl)
noncomputable def Rj:Iv:=zV prog (A7 io) 20
def zW:kS prog Rj:=Jw (rG ahA) (fun _ hI=>ng hI) 20
noncomputable def hkS:Hook:=qo (LU prog Rj aaZ 183) (qo (LU prog Rj ajz 193) (A7 io))
def adT:fE prog hkS:=jH (Na zW (ng zW) Zw) (jH (Na zW (ng zW) afz) (rG ahA))
noncomputable def adM:Iv:=zV prog hkS 30
def Ih:kS prog adM:=Jw adT (fun _ hI=>ng hI) 30
noncomputable def hkK:Hook:=qo (LX prog adM aj9 149) (qo (LX prog adM aka 152) hkS)
def OA:fE prog hkK:=jH (Ou Ih (ng Ih) agq) (jH (Ou Ih (ng Ih) agr) adT)
noncomputable def hkA:Hook:=qo (A7 wb) hkK
def yM:fE prog hkA:=jH (rG ahl) OA
end Go.Proofs.Tryz
