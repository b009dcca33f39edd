import Derived.Test.YthhhncgnnnhkmaaGreatA32
set_option linter.all false
namespace Go.Proofs.Tryz
set_option maxRecDepth 1000000
open Go.Inst Go.Ev
def oW:List Value:=bW++wi 4 2 6 0 false
def ov:Value:=.agg #[k64 3,k64 3,k64 1,sls 3062 2,sls 3067 4]
def oK:List (Nat×Ob):=[(3062,.cells bC 43 (some 2)),(3067,.cells oW 41 (some 5))]
def co(s:Nat):Value:=.agg #[k64 3,k64 3,k64 1,sls 3062 2,sls 3067 4,sls s 5]
def coK(s:Nat):List (Nat×Ob):=[(3062,.shut bC 43),(3067,.shut oW 41),(s,.shut [u8 0,u8 1,u8 2,u8 4,u8 8] 91)]
def wro(s:Nat)(e n o r:Int):Entry:=⟨135,[co s,stg e n o],coK s,u8 r⟩
def wbo(s:Nat):List Entry:=[wro s 0 0 0 12,wro s 0 0 1 14,wro s 1 0 0 12,wro s 1 0 1 14,wro s 2 0 0 10,wro s 2 0 1 8,wro s 0 1 0 5,wro s 0 1 1 7,wro s 1 1 0 7,wro s 1 1 1 5,wro s 2 1 0 10,wro s 2 1 1 8,wro s 0 2 0 5,wro s 0 2 1 7,wro s 1 2 0 3,wro s 1 2 1 1,wro s 2 2 0 3,wro s 2 2 1 1]
theorem wbo1_ok:∀e∈wbo 3476,e.ok prog:=table_ok (hk:=noHook) noHook_ok (d:=30) (nx:=6000) (by kernel_rfl)
theorem wbo2_ok:∀e∈wbo 4876,e.ok prog:=table_ok (hk:=noHook) noHook_ok (d:=30) (nx:=6000) (by kernel_rfl)
end Go.Proofs.Tryz
