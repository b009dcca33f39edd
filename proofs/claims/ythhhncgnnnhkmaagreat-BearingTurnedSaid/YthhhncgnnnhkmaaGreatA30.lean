import Derived.Test.YthhhncgnnnhkmaaGreatA29
set_option linter.all false
namespace Go.Proofs.Tryz
set_option maxRecDepth 1000000
open Go.Inst Go.Ev
def k64(n:Int):Value:=.int .i64 n
def u8(n:Int):Value:=.int .u8 n
def sqv(a b:Int):Value:=.agg ⟨[k64 a,k64 b]⟩
def tu(l:List Value):Value:=.tuple ⟨l⟩
def sl(b n:Nat):Value:=.slice (some ⟨b,0,none⟩) n n
def sls(b n:Nat):Value:=.slice (some ⟨b,0,none⟩) n soft
def row(l:List (List Int)):List Value:=l.flatten.map k64
def wi(e n b c:Int)(s:Bool):List Value:=[k64 e,k64 n,k64 b,k64 c,.bool s]
def bv(x:Int):Value:=.agg #[k64 3,k64 3,k64 x,sl 1003 2,sl 1007 3]
def bC:List Value:=row [[0,0,0,1]]
def bW:List Value:=wi (-1) 0 2 0 false++wi 0 3 4 1 false++wi 2 (-1) 0 0 false
def bK:List (Nat×Ob):=[(1003,.cells bC 43 none),(1007,.cells bW 41 none)]
def cv:Value:=.agg #[k64 3,k64 3,k64 1,sl 1003 2,sl 1007 3,sls 2055 4]
def cK:List (Nat×Ob):=bK++[(2055,.cells [u8 0,u8 1,u8 2,u8 4] 91 (some 1))]
def stg(e n o:Int):Value:=.agg #[k64 e,k64 n,k64 0,k64 o,k64 0]
end Go.Proofs.Tryz
