/- Of the proof of BearingTurned: Fd13 -/
import Derived.Test.YtlpjchhijenlbaaGreatA38
import Derived.Test.YtlpjchhijenlbaaGreatA39
import Derived.Test.YtlpjchhijenlbaaGreatA41
import Derived.Test.YtlpjchhijenlbaaGreatA42
import Derived.Test.YtlpjchhijenlbaaGreatA44
import Derived.Test.YtlpjchhijenlbaaGreatA45
import Derived.Test.YtlpjchhijenlbaaGreatA47
set_option linter.unusedSectionVars false
set_option linter.unusedVariables false
set_option linter.unusedSimpArgs false
section
set_option maxRecDepth 1000000
namespace Go.Proofs.Tryz
open Go.Inst Go.Ev
def qs:List Entry:=eIs1::eIs2::eCs::eAt1::eAt2::eFl::eAsk::eBox::eCo::eCt::eCw::(sps++cls)
theorem qs_ok:∀ e∈qs,e.ok prog:=dO X5 (dO X4 (dO eCs_ok (dO X8 (dO X7 (dO eFl_ok (dO X9 (dO X6 (dO eCo_ok (dO eCt_ok (dO eCw_ok (Ym Y7 cls_ok)))))))))))
def ms:List Made:=[mEx,mHr,mCo1,mCo2,mTr,mSw,mWh,mOf,mW0,mO0]
theorem ms_ok:∀ e∈ms,e.ok prog:=dO ZN (dO ZL (dO XH (dO XG (dO ZH (dO ZI (dO ZF (dO ZJ (dO ZG (dO ZK all_none)))))))))
noncomputable def hkF:Hook:=jv (madeOf ms) (jv (uQ qs) hkK)
theorem JG:df prog hkF:=fZ (RV ms_ok) (fZ (mV qs_ok) FN)
end Go.Proofs.Tryz
end
