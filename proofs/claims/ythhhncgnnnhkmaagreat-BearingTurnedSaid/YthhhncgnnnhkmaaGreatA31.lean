import Derived.Test.YthhhncgnnnhkmaaGreatA30
set_option linter.all false
namespace Go.Proofs.Tryz
set_option maxRecDepth 1000000
open Go.Inst Go.Ev
def wr(e n o r:Int):Entry:=⟨135,[cv,stg e n o],cK,u8 r⟩
def wb:List Entry:=[wr 0 0 0 4,wr 0 0 1 6,wr 1 0 0 4,wr 1 0 1 6,wr 2 0 0 2,wr 2 0 1 0,wr 0 1 0 5,wr 0 1 1 7,wr 1 1 0 7,wr 1 1 1 5,wr 2 1 0 2,wr 2 1 1 0,wr 0 2 0 5,wr 0 2 1 7,wr 1 2 0 3,wr 1 2 1 1,wr 2 2 0 3,wr 2 2 1 1]
theorem wb_ok:∀e∈wb,e.ok prog:=table_ok (hk:=noHook) noHook_ok (d:=30) (nx:=3000) (by kernel_rfl)
def sqs:List (Int×Int):=[(0,0),(1,0),(2,0),(2,1),(1,2),(2,2)]
def ino(x y:Int×Int):Entry:=⟨107,[sqv x.1 x.2,sqv y.1 y.2],[],k64 (if x.2<y.2 then -1 else if y.2<x.2 then 1 else if x.1<y.1 then -1 else if y.1<x.1 then 1 else 0)⟩
def io:List Entry:=sqs.flatMap fun x=>sqs.map fun y=>ino x y
theorem io_ok:∀e∈io,e.ok prog:=table_ok (hk:=noHook) noHook_ok (d:=30) (nx:=3000) (by kernel_rfl)
end Go.Proofs.Tryz
