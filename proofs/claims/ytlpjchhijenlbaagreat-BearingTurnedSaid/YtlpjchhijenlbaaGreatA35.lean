/- Of the proof of BearingTurned: Fd0 -/
import Derived.Test.YtlpjchhijenlbaaGreatA34
import Derived.Test.YtlpjchhijenlbaaGreatA33
import Derived.Test.YtlpjchhijenlbaaGreatA13
set_option linter.unusedSectionVars false
set_option linter.unusedVariables false
set_option linter.unusedSimpArgs false
section
set_option maxRecDepth 1000000
namespace Go.Proofs.Tryz
open Go.Inst Go.Ev
def eG (n:Int):Value:=.int .i64 n
def u8 (n:Int):Value:=.int .u8 n
def mD (a b:Int):Value:=.agg ⟨[eG a,eG b]⟩
def tu (l:List Value):Value:=.tuple ⟨l⟩
def sl (b n:Nat):Value:=.slice (some ⟨b,0,none⟩) n n
def J8 (b n:Nat):Value:=.slice (some ⟨b,0,none⟩) n soft
def row (l:List (List Int)):List Value:=l.flatten.map eG
def wi (e n b c:Int) (s:Bool):List Value:=[eG e,eG n,eG b,eG c,.bool s]
def bv (x:Int):Value:=.agg #[eG 3,eG 3,eG x,sl 1003 2,sl 1007 3]
def bC:List Value:=row [[0,0,0,1]]
def bW:List Value:=wi (-1) 0 2 0 false++wi 0 3 4 1 false++wi 2 (-1) 0 0 false
def bK:List (Nat × Ob):=[(1003,.cells bC 48 none),(1007,.cells bW 64 none)]
def cv:Value:=.agg #[eG 3,eG 3,eG 1,sl 1003 2,sl 1007 3,J8 2038 4]
def cK:List (Nat × Ob):=bK++[(2038,.cells [u8 0,u8 1,u8 2,u8 4] 85 (some 1))]
def stg (e n o:Int):Value:=.agg #[eG e,eG n,eG 0,eG o,eG 0]
end Go.Proofs.Tryz
end
