import Derived.Test.YtjilljfmaknihaaGreatA38
set_option linter.all false
namespace Go.Proofs.Tryz
set_option maxRecDepth 1000000
open Go.Inst Go.Ev
def oW:List ae:=bW++wi 4 2 6 0 false
def ov:ae:=.agg #[lQ 3,lQ 3,lQ 1,U6 3045 2,U6 3050 4]
def oK:List (Nat×Ob):=[(3045,.cells bC 43 (some 2)),(3050,.cells oW 41 (some 5))]
def co(s:Nat):ae:=.agg #[lQ 3,lQ 3,lQ 1,U6 3045 2,U6 3050 4,U6 s 5]
def coK(s:Nat):List (Nat×Ob):=[(3045,.shut bC 43),(3050,.shut oW 41),(s,.shut [u8 0,u8 1,u8 2,u8 4,u8 8] 90)]
def U5(s:Nat)(e n o r:Int):Entry:=⟨123,[co s,stg e n o],coK s,u8 r⟩
def wbo(s:Nat):List Entry:=[U5 s 0 0 0 12,U5 s 0 0 1 14,U5 s 1 0 0 12,U5 s 1 0 1 14,U5 s 2 0 0 10,U5 s 2 0 1 8,U5 s 0 1 0 5,U5 s 0 1 1 7,U5 s 1 1 0 7,U5 s 1 1 1 5,U5 s 2 1 0 10,U5 s 2 1 1 8,U5 s 0 2 0 5,U5 s 0 2 1 7,U5 s 1 2 0 3,U5 s 1 2 1 1,U5 s 2 2 0 3,U5 s 2 2 1 1]
def aft:∀e∈wbo 3343,e.ok prog:=zk (hk:=qp) ji (d:=30) (nx:=6000) (by kernel_rfl)
def afs:∀e∈wbo 4443,e.ok prog:=zk (hk:=qp) ji (d:=30) (nx:=6000) (by kernel_rfl)
end Go.Proofs.Tryz
