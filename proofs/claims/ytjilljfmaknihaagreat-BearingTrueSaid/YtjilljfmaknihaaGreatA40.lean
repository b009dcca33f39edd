import Derived.Test.YtjilljfmaknihaaGreatA38
set_option linter.all false
namespace Go.Proofs.Tryz
set_option maxRecDepth 1000000
open Go.Inst Go.Ev
def aks:Entry:=⟨22,[bv 1],bK,tu [lQ 0,lQ 10,lQ 0]⟩
def agU:aks.ok prog:=Entry.asked (hk:=hkA) yM (d:=60) (nx:=2000) (by kernel_rfl)
end Go.Proofs.Tryz
