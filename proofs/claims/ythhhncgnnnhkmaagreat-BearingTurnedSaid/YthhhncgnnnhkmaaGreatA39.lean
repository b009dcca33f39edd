import Derived.Test.YthhhncgnnnhkmaaGreatA38
set_option linter.all false
namespace Go.Proofs.Tryz
set_option maxRecDepth 1000000
open Go.Inst Go.Ev
def eCt:Entry:=⟨26,[tv],tK,tu [k64 10,k64 0]⟩
def eCw:Entry:=⟨26,[wv],wK,tu [k64 4,k64 0]⟩
theorem eCt_ok:eCt.ok prog:=Entry.asked (hk:=noHook) noHook_ok (d:=60) (nx:=7000) (by kernel_rfl)
theorem eCw_ok:eCw.ok prog:=Entry.asked (hk:=noHook) noHook_ok (d:=60) (nx:=7000) (by kernel_rfl)
end Go.Proofs.Tryz
