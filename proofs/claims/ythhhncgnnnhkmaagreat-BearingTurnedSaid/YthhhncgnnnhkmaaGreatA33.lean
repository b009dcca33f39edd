import Derived.Test.YthhhncgnnnhkmaaGreatA32
set_option linter.all false
namespace Go.Proofs.Tryz
set_option maxRecDepth 1000000
open Go.Inst Go.Ev
def isV(b n:Nat):Value:=.agg ⟨[k64 2,k64 1,sl b n,.slice none 0 0]⟩
def eIs1:Entry:=⟨11,[bv 1,isV 1026 2],bK++[(1026,.cells (row [[0,1]]) 3 none)],tu [.bool true,k64 0]⟩
def eIs2:Entry:=⟨11,[bv 1,isV 1028 2],bK++[(1028,.cells (row [[0,0]]) 3 none)],tu [.bool false,k64 0]⟩
def eCs:Entry:=⟨26,[bv 1],bK,tu [k64 14,k64 0]⟩
def eAt1:Entry:=⟨31,[bv 1,sqv 2 0],bK,tu [k64 0,k64 0]⟩
def eAt2:Entry:=⟨31,[bv 1,sqv 0 1],bK,tu [k64 2,k64 0]⟩
def eFl:Entry:=⟨35,[bv 1,k64 0],bK,tu [k64 0,k64 0]⟩
theorem eIs1_ok:eIs1.ok prog:=Entry.asked (hk:=hkA) hkA_ok (d:=60) (nx:=1999) (by kernel_rfl)
theorem eIs2_ok:eIs2.ok prog:=Entry.asked (hk:=hkA) hkA_ok (d:=60) (nx:=1999) (by kernel_rfl)
theorem eCs_ok:eCs.ok prog:=Entry.asked (hk:=hkA) hkA_ok (d:=60) (nx:=2000) (by kernel_rfl)
theorem eAt1_ok:eAt1.ok prog:=Entry.asked (hk:=hkA) hkA_ok (d:=60) (nx:=1999) (by kernel_rfl)
theorem eAt2_ok:eAt2.ok prog:=Entry.asked (hk:=hkA) hkA_ok (d:=60) (nx:=1999) (by kernel_rfl)
theorem eFl_ok:eFl.ok prog:=Entry.asked (hk:=hkA) hkA_ok (d:=60) (nx:=2000) (by kernel_rfl)
end Go.Proofs.Tryz
