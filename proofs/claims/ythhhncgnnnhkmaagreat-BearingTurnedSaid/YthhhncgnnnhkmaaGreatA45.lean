import Derived.Test.YthhhncgnnnhkmaaGreatA43
set_option linter.all false
namespace Go.Proofs.Tryz
set_option maxRecDepth 1000000
open Go.Inst Go.Ev
def mCl:Made:=⟨37,[ov],oK,4750,tu [sls 4937 2,k64 0],[(4937,.cells (row [[0],[3]]) 3 (some 1))],5924⟩
theorem mCl_b:madeB (invN2 hkF 1000 mCl.f mCl.args (Ev.start mCl.kn mCl.nx)) mCl=true:=by kernel_rfl
end Go.Proofs.Tryz
