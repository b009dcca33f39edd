import Derived.Test.YtjilljfmaknihaaGreatA41
set_option linter.all false
namespace Go.Proofs.Tryz
set_option maxRecDepth 1000000
open Go.Inst Go.Ev
noncomputable def aiG:Hook:=qo (A7 (wbo 3343)) hkK
def aad:fE prog aiG:=jH (rG aft) OA
def eCo:Entry:=⟨23,[ov],oK,tu [lQ 4,lQ 0]⟩
def aiU:eCo.ok prog:=Entry.asked (hk:=aiG) aad (d:=60) (nx:=3299) (by kernel_rfl)
def eSp(g:Nat):Entry:=⟨111,[co 3343,u8 g],coK 3343,.bool (Nat.beq (g % 2) 1||Nat.ble 8 g)⟩
def sps:List Entry:=(List.range 16).map eSp
def ah4:∀e∈sps,e.ok prog:=zk (hk:=aiG) aad (d:=60) (nx:=6000) (by kernel_rfl)
end Go.Proofs.Tryz
