import Derived.Test.YthhhncgnnnhkmaaGreatA31
set_option linter.all false
namespace Go.Proofs.Tryz
set_option maxRecDepth 1000000
open Go.Inst Go.Ev
noncomputable def invCt:Iv:=invO prog (hookOf io) 20
theorem invCt_ok:IvOK prog invCt:=inv_ok (hookOf_ok io_ok) (fun _ hI=>drawn_ok hI) 20
noncomputable def hkS:Hook:=orHook (srtHook prog invCt srtS 195) (orHook (srtHook prog invCt srtI 205) (hookOf io))
theorem hkS_ok:HookOK prog hkS:=orHook_ok (srtHook_ok invCt_ok (drawn_ok invCt_ok) srtS_ok) (orHook_ok (srtHook_ok invCt_ok (drawn_ok invCt_ok) srtI_ok) (hookOf_ok io_ok))
noncomputable def invSt:Iv:=invO prog hkS 30
theorem invSt_ok:IvOK prog invSt:=inv_ok hkS_ok (fun _ hI=>drawn_ok hI) 30
noncomputable def hkK:Hook:=orHook (kysHook prog invSt kysS 162) (orHook (kysHook prog invSt kysI 165) hkS)
theorem hkK_ok:HookOK prog hkK:=orHook_ok (kysHook_ok invSt_ok (drawn_ok invSt_ok) kysS_ok) (orHook_ok (kysHook_ok invSt_ok (drawn_ok invSt_ok) kysI_ok) hkS_ok)
noncomputable def hkA:Hook:=orHook (hookOf wb) hkK
theorem hkA_ok:HookOK prog hkA:=orHook_ok (hookOf_ok wb_ok) hkK_ok
end Go.Proofs.Tryz
