import Derived.Test.YthhhncgnnnhkmaaGreatA32
set_option linter.all false
namespace Go.Proofs.Tryz
set_option maxRecDepth 1000000
open Go.Inst Go.Ev
def mOf:Made:=⟨34,[bv 1,k64 1],bK,2400,tu [sls 2836 2,k64 0],[(2836,.cells (row [[0],[1]]) 3 (some 1))],2837⟩
def mW0:Made:=⟨29,[bv 0],bK,7000,tu [sls 7400 2,k64 0],[(7400,.cells (row [[2,0],[2,1]]) 27 (some 2))],7401⟩
def mO0:Made:=⟨34,[bv 0,k64 1],bK,8000,tu [sls 8392 1,k64 0],[(8392,.cells (row [[1]]) 3 (some 1))],8393⟩
theorem mOf_ok:mOf.ok prog:=Made.asked (hk:=hkA) hkA_ok (d:=60) (by kernel_rfl)
theorem mW0_ok:mW0.ok prog:=Made.asked (hk:=hkA) hkA_ok (d:=60) (by kernel_rfl)
theorem mO0_ok:mO0.ok prog:=Made.asked (hk:=hkA) hkA_ok (d:=60) (by kernel_rfl)
end Go.Proofs.Tryz
