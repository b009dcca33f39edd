/- Of the proof of BearingTurned: Fd12 -/
import Derived.Test.YtlpjchhijenlbaaGreatA37
set_option linter.unusedSectionVars false
set_option linter.unusedVariables false
set_option linter.unusedSimpArgs false
section
set_option maxRecDepth 1000000
namespace Go.Proofs.Tryz
open Go.Inst Go.Ev
def mOf:Made:=⟨18,[bv 1,eG 1],bK,2400,tu [J8 2776 2,eG 0],[(2776,.cells (row [[0],[1]]) 3 (some 1))],2777⟩
def mW0:Made:=⟨13,[bv 0],bK,7000,tu [J8 7338 2,eG 0],[(7338,.cells (row [[2,0],[2,1]]) 23 (some 2))],7339⟩
def mO0:Made:=⟨18,[bv 0,eG 1],bK,8000,tu [J8 8332 1,eG 0],[(8332,.cells (row [[1]]) 3 (some 1))],8333⟩
theorem ZJ:mOf.ok prog:=Made.asked (hk:=Vb) rJ (d:=60) (by kernel_rfl)
theorem ZG:mW0.ok prog:=Made.asked (hk:=Vb) rJ (d:=60) (by kernel_rfl)
theorem ZK:mO0.ok prog:=Made.asked (hk:=Vb) rJ (d:=60) (by kernel_rfl)
end Go.Proofs.Tryz
end
