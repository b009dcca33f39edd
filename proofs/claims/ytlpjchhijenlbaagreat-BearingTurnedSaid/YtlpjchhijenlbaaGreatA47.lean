/- Of the proof of BearingTurned: Fd5 -/
import Derived.Test.YtlpjchhijenlbaaGreatA46
set_option linter.unusedSectionVars false
set_option linter.unusedVariables false
set_option linter.unusedSimpArgs false
section
set_option maxRecDepth 1000000
namespace Go.Proofs.Tryz
open Go.Inst Go.Ev
noncomputable def hkW:Hook:=jv (uQ wb) (jv (I9 [sE]) hkK)
theorem U8:df prog hkW:=fZ (mV Yu) (fZ (NP (dO sE_ok all_none)) FN)
def mWh:Made:=⟨13,[bv 1],bK,2000,tu [J8 2210 6,eG 0],[(2210,.cells pre6 23 (some 2))],2300⟩
theorem ZF:mWh.ok prog:=Made.asked (hk:=hkW) U8 (d:=60) (by kernel_rfl)
def eBox:Entry:=⟨14,[bv 1],bK,tu [mD 0 2,mD 0 2,eG 0]⟩
theorem X6:eBox.ok prog:=Entry.asked (hk:=hkW) U8 (d:=60) (nx:=1997) (by kernel_rfl)
end Go.Proofs.Tryz
end
