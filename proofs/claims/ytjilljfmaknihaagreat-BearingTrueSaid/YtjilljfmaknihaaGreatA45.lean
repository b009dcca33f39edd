import Derived.Test.YtjilljfmaknihaaGreatA38
set_option linter.all false
namespace Go.Proofs.Tryz
set_option maxRecDepth 1000000
open Go.Inst Go.Ev
def mOf:Made:=⟨33,[bv 1,lQ 1],bK,2400,tu [U6 2776 2,lQ 0],[(2776,.cells (row [[0],[1]]) 3 (some 1))],2777⟩
def mW0:Made:=⟨28,[bv 0],bK,7000,tu [U6 7338 2,lQ 0],[(7338,.cells (row [[2,0],[2,1]]) 27 (some 2))],7339⟩
def mO0:Made:=⟨33,[bv 0,lQ 1],bK,8000,tu [U6 8332 1,lQ 0],[(8332,.cells (row [[1]]) 3 (some 1))],8333⟩
def aiv:mOf.ok prog:=Made.asked (hk:=hkA) yM (d:=60) (by kernel_rfl)
def ais:mW0.ok prog:=Made.asked (hk:=hkA) yM (d:=60) (by kernel_rfl)
def aiw:mO0.ok prog:=Made.asked (hk:=hkA) yM (d:=60) (by kernel_rfl)
end Go.Proofs.Tryz
