import Derived.Test.YtjilljfmaknihaaGreatA38
set_option linter.all false
namespace Go.Proofs.Tryz
set_option maxRecDepth 1000000
open Go.Inst Go.Ev
def isV(b n:Nat):ae:=.agg ⟨[lQ 2,lQ 1,sl b n,.slice none 0 0]⟩
def ako:Entry:=⟨10,[bv 1,isV 1026 2],bK++[(1026,.cells (row [[0,1]]) 3 none)],tu [.bool true,lQ 0]⟩
def akn:Entry:=⟨10,[bv 1,isV 1028 2],bK++[(1028,.cells (row [[0,0]]) 3 none)],tu [.bool false,lQ 0]⟩
def eCs:Entry:=⟨23,[bv 1],bK,tu [lQ 14,lQ 0]⟩
def akr:Entry:=⟨30,[bv 1,sqv 2 0],bK,tu [lQ 0,lQ 0]⟩
def akq:Entry:=⟨30,[bv 1,sqv 0 1],bK,tu [lQ 2,lQ 0]⟩
def eFl:Entry:=⟨34,[bv 1,lQ 0],bK,tu [lQ 0,lQ 0]⟩
def agQ:ako.ok prog:=Entry.asked (hk:=hkA) yM (d:=60) (nx:=1999) (by kernel_rfl)
def agP:akn.ok prog:=Entry.asked (hk:=hkA) yM (d:=60) (nx:=1999) (by kernel_rfl)
def aiT:eCs.ok prog:=Entry.asked (hk:=hkA) yM (d:=60) (nx:=2000) (by kernel_rfl)
def agT:akr.ok prog:=Entry.asked (hk:=hkA) yM (d:=60) (nx:=1999) (by kernel_rfl)
def agS:akq.ok prog:=Entry.asked (hk:=hkA) yM (d:=60) (nx:=1999) (by kernel_rfl)
def aiQ:eFl.ok prog:=Entry.asked (hk:=hkA) yM (d:=60) (nx:=2000) (by kernel_rfl)
end Go.Proofs.Tryz
