import Derived.Test.YthhhncgnnnhkmaaGreatA27
set_option linter.all false
namespace Go.Proofs.Tryz
set_option maxRecDepth 100000
open Go.Inst
def L:List Nat:=[7,9,10,11,12,13,14,15,16,17,18,19,20,21,22,23,24,25,26,27,28,29,30,31,32,33,34,35,38,39,40,41,42,43,44,45,46,47,48,49,50,51,52,53,54,55,56,57,58,59,60,61,62,63,64,65,66,67,68,69,70,71,72,73,74,77,78,79,80,81,82,83,84,85,86,87,88,89,90,91,92,93,94,95,96,97,98,99,100,101,102,103,104,105,106,107,108,109,110,111,112,113,114,115,116,118,119,120,121,122,123,124,125,126,127,128,129,130,131,132,133,134,135,136,137,138,139,140,141,142,143,144,145,146,147,149,150,151,152,153,154,155,156,157,158,159,160,161,162,163,164,165,170,171,172,173,174,175,176,195,196,197,198,199,200,201,202,203,204,205,206,207,208,209,210,211,212,218,219,220,221,222,223,224,225,226,227]
def N:List Nat:=[8,36,37,75,76,117,148,167]
noncomputable def best:Ev.Bst:=bstOf prog 113
noncomputable def lst:Crew.Lst:=lstOf prog link 148
theorem best_ok:best.OK prog 113:=
 ⟨by kernel_rfl,by kernel_rfl,by kernel_rfl,by kernel_rfl,by kernel_rfl,by kernel_rfl,by kernel_rfl,by kernel_rfl,of_decide_eq_true (by kernel_rfl),of_decide_eq_true (by kernel_rfl),of_decide_eq_true (by kernel_rfl),of_decide_eq_true (by kernel_rfl)⟩
theorem cw_ok:lst.cw.OK prog L N link:=by
 constructor<;>first|decide +kernel|kernel_rfl
theorem rc_ok:lst.rc.OK prog L N:=by
 constructor
 case op31=>exact .inl (by kernel_rfl)
 case op36=>exact .inr (by kernel_rfl)
 all_goals first|decide +kernel|kernel_rfl
theorem lst_ok:lst.OK prog L N link 148:=by
 constructor<;>first|exact cw_ok|exact rc_ok|decide +kernel|kernel_rfl
open Go.Ev Go.Ren Go.Crew
theorem zeroOK:ZeroOK prog:=bZero_ok (by kernel_rfl)
theorem sok:SOK prog (·∈L):=bAll_ok (fun _ _=>rfl) (by kernel_rfl)
theorem hLN:∀f∈L,f∉N:=by decide +kernel
noncomputable def hkB:Hook:=hushO prog noHook 30 (fun f=>Nat.beq f 114)
theorem hkB_ok:HookOK prog hkB:=hushO_ok noHook_ok
noncomputable def invB:Iv:=invO prog hkB 40
theorem invB_ok:IvOK prog invB:=inv_ok hkB_ok (fun _ hI=>drawn_ok hI) 40
noncomputable def hkL(hk:Hook):Hook:=orHook (bestHook prog invB best 113) hk
theorem hkL_ok{hk:Hook}(h:HookOK prog hk):HookOK prog (hkL hk):=orHook_ok (bestHook_ok invB_ok (drawn_ok invB_ok) best_ok) h
noncomputable def invL(hk:Hook):Iv:=invO prog (hkL hk) 60
theorem invL_ok{hk:Hook}(h:HookOK prog hk):IvOK prog (invL hk):=inv_ok (hkL_ok h) (fun _ hI=>drawn_ok hI) 60
theorem invL_does{hk:Hook}(h:HookOK prog hk):∀f args h0 v h',invL hk (.func f) args h0=some (v,h')→FuncDoes prog f args h0 v h':=fun _ _ _ _ _ e=>reckon (hkL_ok h) e
section
variable(hk:Hook)(hi:Nat)
noncomputable def invN0:FuncId→List Value→H→Option (Value×H):=fun f args h=>match Nat.beq f 148 with
 |true=>Lst.evalO prog L N (invL hk) lst (h.next+hi) args h
 |false=>none
noncomputable def invNl:FuncId→List Value→H→Option (Value×H):=fun f args h=>match Nat.beq f 117 with
 |true=>funcC prog L N (invN0 hk hi) (invL hk) f args h
 |false=>none
noncomputable def invN1:FuncId→List Value→H→Option (Value×H):=fun f args h=>match Nat.beq f 75||Nat.beq f 76 with
 |true=>funcC prog L N (invNl hk hi) (invL hk) f args h
 |false=>none
noncomputable def invN2:FuncId→List Value→H→Option (Value×H):=fun f args h=>match Nat.beq f 36||Nat.beq f 37 with
 |true=>funcC prog L N (invN1 hk hi) (invL hk) f args h
 |false=>none
end
section
variable{hk:Hook}{hi:Nat}{Z:Nat→Prop}{w0:World}{Post:Value→World→Prop}
theorem ivk0(h:HookOK prog hk):IvK prog L N (@KM mpsAll noExt (spOf prog L N) prog (·∈L) Z w0 Post) (invN0 hk hi) (invL hk):=
 ⟨km_ups zeroOK sok,invL_does h,fun f args h0 v h' _ e=>by
  unfold invN0 at e
  split at e
  .rename_i hf
   obtain rfl:=Nat.eq_of_beq_eq_true hf
   exact Lst.funcK zeroOK sok hLN wgLib (invL_ok h).next (invL_does h) lst_ok e
  .cases e⟩
theorem ivkl(h:HookOK prog hk):IvK prog L N (@KM mpsAll noExt (spOf prog L N) prog (·∈L) Z w0 Post) (invNl hk hi) (invL hk):=
 ⟨km_ups zeroOK sok,invL_does h,fun f args h0 v h' _ e=>by
  unfold invNl at e
  split at e
  .exact func_K (ivk0 h) hLN e
  .cases e⟩
theorem ivk1(h:HookOK prog hk):IvK prog L N (@KM mpsAll noExt (spOf prog L N) prog (·∈L) Z w0 Post) (invN1 hk hi) (invL hk):=
 ⟨km_ups zeroOK sok,invL_does h,fun f args h0 v h' _ e=>by
  unfold invN1 at e
  split at e
  .exact func_K (ivkl h) hLN e
  .cases e⟩
theorem ivk2(h:HookOK prog hk):IvK prog L N (@KM mpsAll noExt (spOf prog L N) prog (·∈L) Z w0 Post) (invN2 hk hi) (invL hk):=
 ⟨km_ups zeroOK sok,invL_does h,fun f args h0 v h' _ e=>by
  unfold invN2 at e
  split at e
  .exact func_K (ivk1 h) hLN e
  .cases e⟩
end
end Go.Proofs.Tryz
