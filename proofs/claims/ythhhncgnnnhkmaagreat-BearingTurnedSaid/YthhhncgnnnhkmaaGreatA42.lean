import Derived.Test.YthhhncgnnnhkmaaGreatA41
set_option linter.all false
namespace Go.Proofs.Tryz
set_option maxRecDepth 1000000
open Go.Inst Go.Ev
noncomputable def hkW:Hook:=orHook (hookOf wb) (orHook (sortsOf [sE]) hkK)
theorem hkW_ok:HookOK prog hkW:=orHook_ok (hookOf_ok wb_ok) (orHook_ok (sortsOf_ok (all_one sE_ok all_none)) hkK_ok)
def mWh:Made:=⟨29,[bv 1],bK,2000,tu [sls 2272 6,k64 0],[(2272,.cells pre6 27 (some 2))],2300⟩
theorem mWh_ok:mWh.ok prog:=Made.asked (hk:=hkW) hkW_ok (d:=60) (by kernel_rfl)
def eBox:Entry:=⟨30,[bv 1],bK,tu [sqv 0 2,sqv 0 2,k64 0]⟩
theorem eBox_ok:eBox.ok prog:=Entry.asked (hk:=hkW) hkW_ok (d:=60) (nx:=1997) (by kernel_rfl)
end Go.Proofs.Tryz
