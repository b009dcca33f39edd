/- Of the proof of BearingTurned: Fd7 -/
import Derived.Test.YtlpjchhijenlbaaGreatA40
set_option linter.unusedSectionVars false
set_option linter.unusedVariables false
set_option linter.unusedSimpArgs false
section
set_option maxRecDepth 1000000
namespace Go.Proofs.Tryz
open Go.Inst Go.Ev
noncomputable def ZY:Hook:=jv (uQ (wbo 3343)) hkK
theorem Qj:df prog ZY:=fZ (mV WG) FN
def eCo:Entry:=⟨12,[ov],oK,tu [eG 4,eG 0]⟩
theorem eCo_ok:eCo.ok prog:=Entry.asked (hk:=ZY) Qj (d:=60) (nx:=3299) (by kernel_rfl)
def eSp (g:Nat):Entry:=⟨80,[co 3343,u8 g],coK 3343,.bool (Nat.beq (g % 2) 1 || Nat.ble 8 g)⟩
def sps:List Entry:=(List.range 16).map eSp
theorem Y7:∀ e∈sps,e.ok prog:=rY (hk:=ZY) Qj (d:=60) (nx:=6000) (by kernel_rfl)
end Go.Proofs.Tryz
end
