import Derived.Test.YtjilljfmaknihaaGreatA39
import Derived.Test.YtjilljfmaknihaaGreatA40
import Derived.Test.YtjilljfmaknihaaGreatA42
import Derived.Test.YtjilljfmaknihaaGreatA43
import Derived.Test.YtjilljfmaknihaaGreatA44
import Derived.Test.YtjilljfmaknihaaGreatA45
import Derived.Test.YtjilljfmaknihaaGreatA47
set_option linter.all false
namespace Go.Proofs.Tryz
set_option maxRecDepth 1000000
open Go.Inst Go.Ev
def qs:List Entry:=ako::akn::eCs::akr::akq::eFl::aks::akp::eCo::eCt::eCw::(sps++cls)
def ajQ:∀e∈qs,e.ok prog:=gB agQ (gB agP (gB aiT (gB agT (gB agS (gB aiQ (gB agU (gB agR (gB aiU (gB aiS (gB aiR (ahc ah4 ai1)))))))))))
def ms:List Made:=[mEx,mHr,aj2,aj1,mTr,mSw,mWh,mOf,mW0,mO0]
def ajW:∀e∈ms,e.ok prog:=gB aiz (gB aix (gB agk (gB agj (gB ait (gB aiu (gB air (gB aiv (gB ais (gB aiw all_none)))))))))
noncomputable def hkF:Hook:=qo (madeOf ms) (qo (A7 qs) hkK)
def OB:fE prog hkF:=jH (abA ajW) (jH (rG ajQ) OA)
def mFw:Made:=⟨35,[ov],oK,3250,tu [U6 3362 1,lQ 0],[(3362,.cells (row [[0]]) 3 (some 1))],4380⟩
def ajZ:Q4 (aab hkF 1000 mFw.f mFw.args (Ev.start mFw.kn mFw.nx)) mFw=true:=by kernel_rfl
end Go.Proofs.Tryz
