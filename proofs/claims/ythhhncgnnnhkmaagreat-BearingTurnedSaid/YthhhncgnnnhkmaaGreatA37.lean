import Derived.Test.YthhhncgnnnhkmaaGreatA35
set_option linter.all false
namespace Go.Proofs.Tryz
set_option maxRecDepth 1000000
open Go.Inst Go.Ev
noncomputable def hkO2:Hook:=orHook (hookOf (wbo 4876)) hkK
theorem hkO2_ok:HookOK prog hkO2:=orHook_ok (hookOf_ok wbo2_ok) hkK_ok
def eTo:Entry:=⟨119,[co 4876,u8 15],coK 4876,.bool false⟩
def eCl(g:Nat):Entry:=⟨120,[co 4876,u8 g],coK 4876,.bool (Nat.beq (g % 2) 1&&Nat.ble 8 g)⟩
def cls:List Entry:=eTo::(List.range 16).map eCl
theorem cls_ok:∀e∈cls,e.ok prog:=table_ok (hk:=hkO2) hkO2_ok (d:=60) (nx:=6000) (by kernel_rfl)
end Go.Proofs.Tryz
