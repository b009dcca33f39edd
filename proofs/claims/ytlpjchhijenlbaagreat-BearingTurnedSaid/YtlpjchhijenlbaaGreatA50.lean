/- Of the proof of BearingTurned: Fd16 -/
import Derived.KernelRfl
import Derived.Test.YtlpjchhijenlbaaGreatA48
import Derived.Test.YtlpjchhijenlbaaGreatA27
set_option linter.unusedSectionVars false
set_option linter.unusedVariables false
set_option linter.unusedSimpArgs false
section
set_option maxRecDepth 1000000
namespace Go.Proofs.Tryz
open Go.Inst Go.Ev
def ZO:Made:=⟨23,[ov],oK,4390,tu [J8 4462 2,eG 0],[(4462,.cells (row [[0],[3]]) 3 (some 1))],5495⟩
theorem mCl_b:Iq (Qh hkF 1000 ZO.f ZO.args (Ev.start ZO.kn ZO.nx)) ZO=true:=by kernel_rfl
end Go.Proofs.Tryz
end
