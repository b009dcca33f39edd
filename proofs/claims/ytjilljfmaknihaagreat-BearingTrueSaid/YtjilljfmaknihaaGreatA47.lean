import Derived.Test.YtjilljfmaknihaaGreatA46
set_option linter.all false
namespace Go.Proofs.Tryz
set_option maxRecDepth 1000000
open Go.Inst Go.Ev
noncomputable def hkW:Hook:=qo (A7 wb) (qo (SS [sE]) hkK)
def adS:fE prog hkW:=jH (rG ahl) (jH (XH (gB ajG all_none)) OA)
def mWh:Made:=⟨28,[bv 1],bK,2000,tu [U6 2210 6,lQ 0],[(2210,.cells pre6 27 (some 2))],2300⟩
def air:mWh.ok prog:=Made.asked (hk:=hkW) adS (d:=60) (by kernel_rfl)
def akp:Entry:=⟨29,[bv 1],bK,tu [sqv 0 2,sqv 0 2,lQ 0]⟩
def agR:akp.ok prog:=Entry.asked (hk:=hkW) adS (d:=60) (nx:=1997) (by kernel_rfl)
end Go.Proofs.Tryz
