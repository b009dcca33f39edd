/- Of the proof of BearingTurned: Fd4 -/
import Derived.Test.YtlpjchhijenlbaaGreatA37
set_option linter.unusedSectionVars false
set_option linter.unusedVariables false
set_option linter.unusedSimpArgs false
section
set_option maxRecDepth 1000000
namespace Go.Proofs.Tryz
open Go.Inst Go.Ev
def eAsk:Entry:=⟨20,[bv 1],bK,tu [eG 0,eG 10,eG 0]⟩
theorem X9:eAsk.ok prog:=Entry.asked (hk:=Vb) rJ (d:=60) (nx:=2000) (by kernel_rfl)
end Go.Proofs.Tryz
end
