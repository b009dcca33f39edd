/- Of the proof of BearingTurned: Fd3 -/
import Derived.Test.YtlpjchhijenlbaaGreatA37
set_option linter.unusedSectionVars false
set_option linter.unusedVariables false
set_option linter.unusedSimpArgs false
section
set_option maxRecDepth 1000000
namespace Go.Proofs.Tryz
open Go.Inst Go.Ev
def isV (b n:Nat):Value:=.agg ⟨[eG 2,eG 1,sl b n,.slice none 0 0]⟩
def eIs1:Entry:=⟨11,[bv 1,isV 1026 2],bK++[(1026,.cells (row [[0,1]]) 3 none)],tu [.bool true,eG 0]⟩
def eIs2:Entry:=⟨11,[bv 1,isV 1028 2],bK++[(1028,.cells (row [[0,0]]) 3 none)],tu [.bool false,eG 0]⟩
def eCs:Entry:=⟨12,[bv 1],bK,tu [eG 14,eG 0]⟩
def eAt1:Entry:=⟨15,[bv 1,mD 2 0],bK,tu [eG 0,eG 0]⟩
def eAt2:Entry:=⟨15,[bv 1,mD 0 1],bK,tu [eG 2,eG 0]⟩
def eFl:Entry:=⟨19,[bv 1,eG 0],bK,tu [eG 0,eG 0]⟩
theorem X5:eIs1.ok prog:=Entry.asked (hk:=Vb) rJ (d:=60) (nx:=1999) (by kernel_rfl)
theorem X4:eIs2.ok prog:=Entry.asked (hk:=Vb) rJ (d:=60) (nx:=1999) (by kernel_rfl)
theorem eCs_ok:eCs.ok prog:=Entry.asked (hk:=Vb) rJ (d:=60) (nx:=2000) (by kernel_rfl)
theorem X8:eAt1.ok prog:=Entry.asked (hk:=Vb) rJ (d:=60) (nx:=1999) (by kernel_rfl)
theorem X7:eAt2.ok prog:=Entry.asked (hk:=Vb) rJ (d:=60) (nx:=1999) (by kernel_rfl)
theorem eFl_ok:eFl.ok prog:=Entry.asked (hk:=Vb) rJ (d:=60) (nx:=2000) (by kernel_rfl)
end Go.Proofs.Tryz
end
