import Derived.Test.YthhhncgnnnhkmaaGreatA32
set_option linter.all false
namespace Go.Proofs.Tryz
set_option maxRecDepth 1000000
open Go.Inst Go.Ev
def eAsk:Entry:=⟨25,[bv 1],bK,tu [k64 0,k64 10,k64 0]⟩
theorem eAsk_ok:eAsk.ok prog:=Entry.asked (hk:=hkA) hkA_ok (d:=60) (nx:=2000) (by kernel_rfl)
end Go.Proofs.Tryz
