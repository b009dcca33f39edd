/- Of the proof of BearingTurned: Fd2 -/
import Derived.Test.YtlpjchhijenlbaaGreatA36
set_option linter.unusedSectionVars false
set_option linter.unusedVariables false
set_option linter.unusedSimpArgs false
section
set_option maxRecDepth 1000000
namespace Go.Proofs.Tryz
open Go.Inst Go.Ev
noncomputable def Iz:Iv:=qO prog (uQ io) 20
theorem tX:iH prog Iz:=BN (mV YH) (fun _ hI=>jD hI) 20
noncomputable def hkS:Hook:=jv (DI prog Iz QV 148) (jv (DI prog Iz srtI 158) (uQ io))
theorem U9:df prog hkS:=fZ (Ei tX (jD tX) PN) (fZ (Ei tX (jD tX) WU) (mV YH))
noncomputable def U1:Iv:=qO prog hkS 30
theorem Ak:iH prog U1:=BN U9 (fun _ hI=>jD hI) 30
noncomputable def hkK:Hook:=jv (DK prog U1 kysS 116) (jv (DK prog U1 kysI 119) hkS)
theorem FN:df prog hkK:=fZ (FH Ak (jD Ak) XJ) (fZ (FH Ak (jD Ak) XK) U9)
noncomputable def Vb:Hook:=jv (uQ wb) hkK
theorem rJ:df prog Vb:=fZ (mV Yu) FN
end Go.Proofs.Tryz
end
