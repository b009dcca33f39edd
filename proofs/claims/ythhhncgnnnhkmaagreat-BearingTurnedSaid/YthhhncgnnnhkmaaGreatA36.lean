import Derived.Test.YthhhncgnnnhkmaaGreatA35
set_option linter.all false
namespace Go.Proofs.Tryz
set_option maxRecDepth 1000000
open Go.Inst Go.Ev
noncomputable def hkO1:Hook:=orHook (hookOf (wbo 3476)) hkK
theorem hkO1_ok:HookOK prog hkO1:=orHook_ok (hookOf_ok wbo1_ok) hkK_ok
def eCo:Entry:=⟨26,[ov],oK,tu [k64 4,k64 0]⟩
theorem eCo_ok:eCo.ok prog:=Entry.asked (hk:=hkO1) hkO1_ok (d:=60) (nx:=3399) (by kernel_rfl)
def eSp(g:Nat):Entry:=⟨118,[co 3476,u8 g],coK 3476,.bool (Nat.beq (g % 2) 1||Nat.ble 8 g)⟩
def sps:List Entry:=(List.range 16).map eSp
theorem sps_ok:∀e∈sps,e.ok prog:=table_ok (hk:=hkO1) hkO1_ok (d:=60) (nx:=6000) (by kernel_rfl)
end Go.Proofs.Tryz
