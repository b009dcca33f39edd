import Derived.Test.YthhhncgnnnhkmaaGreatA43
set_option linter.all false
namespace Go.Proofs.Tryz
set_option maxRecDepth 1000000
open Go.Inst Go.Ev
def mFw:Made:=⟨36,[ov],oK,3350,tu [sls 3529 1,k64 0],[(3529,.cells (row [[0]]) 3 (some 1))],4524⟩
theorem mFw_b:madeB (invN2 hkF 1000 mFw.f mFw.args (Ev.start mFw.kn mFw.nx)) mFw=true:=by kernel_rfl
end Go.Proofs.Tryz
