import Derived.Test.YtjilljfmaknihaaGreatA41
set_option linter.all false
namespace Go.Proofs.Tryz
set_option maxRecDepth 1000000
open Go.Inst Go.Ev
noncomputable def akf:Hook:=qo (A7 (wbo 4443)) hkK
def agy:fE prog akf:=jH (rG afs) OA
def eTo:Entry:=⟨112,[co 4443,u8 15],coK 4443,.bool false⟩
def eCl(g:Nat):Entry:=⟨113,[co 4443,u8 g],coK 4443,.bool (Nat.beq (g % 2) 1&&Nat.ble 8 g)⟩
def cls:List Entry:=eTo::(List.range 16).map eCl
def ai1:∀e∈cls,e.ok prog:=zk (hk:=akf) agy (d:=60) (nx:=6000) (by kernel_rfl)
end Go.Proofs.Tryz
