import Derived.Test.YthhhncgnnnhkmaaGreatA33
import Derived.Test.YthhhncgnnnhkmaaGreatA34
import Derived.Test.YthhhncgnnnhkmaaGreatA36
import Derived.Test.YthhhncgnnnhkmaaGreatA37
import Derived.Test.YthhhncgnnnhkmaaGreatA39
import Derived.Test.YthhhncgnnnhkmaaGreatA40
import Derived.Test.YthhhncgnnnhkmaaGreatA42
set_option linter.all false
namespace Go.Proofs.Tryz
set_option maxRecDepth 1000000
open Go.Inst Go.Ev
def qs:List Entry:=eIs1::eIs2::eCs::eAt1::eAt2::eFl::eAsk::eBox::eCo::eCt::eCw::(sps++cls)
theorem qs_ok:∀e∈qs,e.ok prog:=all_one eIs1_ok (all_one eIs2_ok (all_one eCs_ok (all_one eAt1_ok (all_one eAt2_ok (all_one eFl_ok (all_one eAsk_ok (all_one eBox_ok (all_one eCo_ok (all_one eCt_ok (all_one eCw_ok (all_two sps_ok cls_ok)))))))))))
def ms:List Made:=[mEx,mHr,mCo1,mCo2,mTr,mSw,mWh,mOf,mW0,mO0]
theorem ms_ok:∀e∈ms,e.ok prog:=all_one mEx_ok (all_one mHr_ok (all_one mCo1_ok (all_one mCo2_ok (all_one mTr_ok (all_one mSw_ok (all_one mWh_ok (all_one mOf_ok (all_one mW0_ok (all_one mO0_ok all_none)))))))))
noncomputable def hkF:Hook:=orHook (madeOf ms) (orHook (hookOf qs) hkK)
theorem hkF_ok:HookOK prog hkF:=orHook_ok (madeOf_ok ms_ok) (orHook_ok (hookOf_ok qs_ok) hkK_ok)
end Go.Proofs.Tryz
