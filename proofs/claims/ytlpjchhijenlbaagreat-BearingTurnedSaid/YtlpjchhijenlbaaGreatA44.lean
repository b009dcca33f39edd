/- Of the proof of BearingTurned: Fd10 -/
import Derived.Test.YtlpjchhijenlbaaGreatA43
set_option linter.unusedSectionVars false
set_option linter.unusedVariables false
set_option linter.unusedSimpArgs false
section
set_option maxRecDepth 1000000
namespace Go.Proofs.Tryz
open Go.Inst Go.Ev
def eCt:Entry:=⟨12,[tv],tK,tu [eG 10,eG 0]⟩
def eCw:Entry:=⟨12,[wv],wK,tu [eG 4,eG 0]⟩
theorem eCt_ok:eCt.ok prog:=Entry.asked (hk:=kF) fD (d:=60) (nx:=7000) (by kernel_rfl)
theorem eCw_ok:eCw.ok prog:=Entry.asked (hk:=kF) fD (d:=60) (nx:=7000) (by kernel_rfl)
end Go.Proofs.Tryz
end
