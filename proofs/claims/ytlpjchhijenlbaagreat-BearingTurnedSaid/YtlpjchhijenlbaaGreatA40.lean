/- Of the proof of BearingTurned: Fd6 -/
import Derived.Test.YtlpjchhijenlbaaGreatA37
set_option linter.unusedSectionVars false
set_option linter.unusedVariables false
set_option linter.unusedSimpArgs false
section
set_option maxRecDepth 1000000
namespace Go.Proofs.Tryz
open Go.Inst Go.Ev
def oW:List Value:=bW++wi 4 2 6 0 false
def ov:Value:=.agg #[eG 3,eG 3,eG 1,J8 3045 2,J8 3050 4]
def oK:List (Nat × Ob):=[(3045,.cells bC 48 (some 2)),(3050,.cells oW 64 (some 5))]
def co (s:Nat):Value:=.agg #[eG 3,eG 3,eG 1,J8 3045 2,J8 3050 4,J8 s 5]
def coK (s:Nat):List (Nat × Ob):=[(3045,.shut bC 48),(3050,.shut oW 64),(s,.shut [u8 0,u8 1,u8 2,u8 4,u8 8] 85)]
def J7 (s:Nat) (e n o r:Int):Entry:=⟨93,[co s,stg e n o],coK s,u8 r⟩
def wbo (s:Nat):List Entry:=[J7 s 0 0 0 12,J7 s 0 0 1 14,J7 s 1 0 0 12,J7 s 1 0 1 14,J7 s 2 0 0 10,J7 s 2 0 1 8,J7 s 0 1 0 5,J7 s 0 1 1 7,J7 s 1 1 0 7,J7 s 1 1 1 5,J7 s 2 1 0 10,J7 s 2 1 1 8,J7 s 0 2 0 5,J7 s 0 2 1 7,J7 s 1 2 0 3,J7 s 1 2 1 1,J7 s 2 2 0 3,J7 s 2 2 1 1]
theorem WG:∀ e∈wbo 3343,e.ok prog:=rY (hk:=kF) fD (d:=30) (nx:=6000) (by kernel_rfl)
theorem WE:∀ e∈wbo 4443,e.ok prog:=rY (hk:=kF) fD (d:=30) (nx:=6000) (by kernel_rfl)
end Go.Proofs.Tryz
end
