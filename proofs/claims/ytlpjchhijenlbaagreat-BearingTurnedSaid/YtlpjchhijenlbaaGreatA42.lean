/- Of the proof of BearingTurned: Fd8 -/
import Derived.Test.YtlpjchhijenlbaaGreatA40
set_option linter.unusedSectionVars false
set_option linter.unusedVariables false
set_option linter.unusedSimpArgs false
section
set_option maxRecDepth 1000000
namespace Go.Proofs.Tryz
open Go.Inst Go.Ev
noncomputable def hkO2:Hook:=jv (uQ (wbo 4443)) hkK
theorem XO:df prog hkO2:=fZ (mV WE) FN
def eTo:Entry:=⟨81,[co 4443,u8 15],coK 4443,.bool false⟩
def eCl (g:Nat):Entry:=⟨82,[co 4443,u8 g],coK 4443,.bool (Nat.beq (g % 2) 1&&Nat.ble 8 g)⟩
def cls:List Entry:=eTo::(List.range 16).map eCl
theorem cls_ok:∀ e∈cls,e.ok prog:=rY (hk:=hkO2) XO (d:=60) (nx:=6000) (by kernel_rfl)
end Go.Proofs.Tryz
end
