/- Of the proof of BearingTurned: Fd15 -/
import Derived.KernelRfl
import Derived.Test.YtlpjchhijenlbaaGreatA48
import Derived.Test.YtlpjchhijenlbaaGreatA27
set_option linter.unusedSectionVars false
set_option linter.unusedVariables false
set_option linter.unusedSimpArgs false
section
set_option maxRecDepth 1000000
namespace Go.Proofs.Tryz
open Go.Inst Go.Ev
def ZM:Made:=⟨22,[ov],oK,3250,tu [J8 3362 1,eG 0],[(3362,.cells (row [[0]]) 3 (some 1))],4380⟩
theorem mFw_b:Iq (Qh hkF 1000 ZM.f ZM.args (Ev.start ZM.kn ZM.nx)) ZM=true:=by kernel_rfl
end Go.Proofs.Tryz
end
