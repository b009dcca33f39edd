/- Of the proof of BearingTurned: Inst2 Inst3 -/
import Derived.KernelRfl
import Derived.Test.YtlpjchhijenlbaaGreatA32
import Derived.Test.YtlpjchhijenlbaaGreatA27
import Derived.Test.YtlpjchhijenlbaaGreatA28
import Derived.Test.YtlpjchhijenlbaaGreatA12
set_option linter.unusedSectionVars false
set_option linter.unusedVariables false
set_option linter.unusedSimpArgs false
section
set_option maxRecDepth 100000
namespace Go.Proofs.Tryz
open Go.Inst
def L:List Nat:=[4,5,7,8,9,10,11,12,13,14,15,16,17,18,19,20,21,24,25,26,27,28,29,30,31,32,33,34,35,36,37,38,39,40,41,42,43,44,45,46,47,48,51,52,53,54,55,56,57,58,59,60,61,62,63,64,65,66,67,68,69,70,71,72,73,74,75,76,77,78,80,81,82,83,84,85,86,87,88,89,90,91,92,93,94,95,96,97,98,99,100,101,102,103,104,105,110,111,112,113,114,115,116,117,118,119,138,139,140,141,142,148,149,150,151,152,153,154,155,156,157,158,159,160,161,162,163,164,165,166,167,168,169,170,171,172,173,174,175]
def N:List Nat:=[6,22,23,49,50,79,107]
noncomputable def best:Ev.Bst:=bstOf prog 75
noncomputable def lst:Crew.GN:=lstOf prog link 79
theorem Yj:best.OK prog 75:=
 ⟨by kernel_rfl,by kernel_rfl,by kernel_rfl,by kernel_rfl,by kernel_rfl,by kernel_rfl,by kernel_rfl,by kernel_rfl,of_decide_eq_true (by kernel_rfl),of_decide_eq_true (by kernel_rfl),of_decide_eq_true (by kernel_rfl),of_decide_eq_true (by kernel_rfl)⟩
theorem cw_ok:lst.cw.OK prog L N link:=
 ⟨by kernel_rfl,by kernel_rfl,by kernel_rfl,by kernel_rfl,by kernel_rfl,by kernel_rfl,by kernel_rfl,by kernel_rfl,by kernel_rfl,by kernel_rfl,by kernel_rfl,by kernel_rfl,by kernel_rfl,by kernel_rfl,by decide +kernel,by kernel_rfl,by kernel_rfl,by kernel_rfl,by kernel_rfl,by kernel_rfl,by kernel_rfl,by kernel_rfl,by kernel_rfl,by kernel_rfl,by kernel_rfl,by kernel_rfl,by kernel_rfl,by kernel_rfl,by kernel_rfl,by kernel_rfl,by kernel_rfl,by kernel_rfl,by kernel_rfl,by kernel_rfl,by decide +kernel,by kernel_rfl,by kernel_rfl,by kernel_rfl,by kernel_rfl,by kernel_rfl,by kernel_rfl,by decide +kernel,by decide +kernel,by decide +kernel,by decide +kernel,by decide +kernel⟩
theorem rc_ok:lst.rc.OK prog L N:=
 ⟨by kernel_rfl,by kernel_rfl,by kernel_rfl,by kernel_rfl,by kernel_rfl,by kernel_rfl,by kernel_rfl,.inl (by kernel_rfl),by kernel_rfl,by kernel_rfl,by kernel_rfl,by kernel_rfl,by kernel_rfl,by kernel_rfl,by kernel_rfl,by decide +kernel,by decide +kernel,by kernel_rfl,by kernel_rfl,by kernel_rfl,by kernel_rfl,by kernel_rfl,by kernel_rfl,by kernel_rfl,by decide +kernel,by kernel_rfl,by kernel_rfl,by kernel_rfl,by kernel_rfl,by kernel_rfl,by kernel_rfl,.inr (by kernel_rfl),by kernel_rfl,by kernel_rfl,by kernel_rfl,by decide +kernel,by decide +kernel,by decide +kernel,by decide +kernel,by decide +kernel,by decide +kernel⟩
theorem ZP:lst.OK prog L N link 79:=
 ⟨by kernel_rfl,by kernel_rfl,by kernel_rfl,by kernel_rfl,cw_ok,rc_ok,by kernel_rfl,by kernel_rfl,by kernel_rfl,by kernel_rfl,by decide +kernel,by kernel_rfl,by kernel_rfl,by kernel_rfl,by kernel_rfl,by kernel_rfl,by kernel_rfl,by kernel_rfl,by kernel_rfl,by kernel_rfl,by kernel_rfl,by kernel_rfl,by decide +kernel,by decide +kernel,by decide +kernel,by decide +kernel,by decide +kernel⟩
end Go.Proofs.Tryz
end
section
set_option maxRecDepth 100000
namespace Go.Proofs.Tryz
open Go.Inst Go.Ev Go.Ren Go.Crew
section
theorem yF:aN prog:=VS (by kernel_rfl)
theorem Yw:kU prog (· ∈ L):=Yl (fun _ _=>rfl) (by kernel_rfl)
theorem qP:∀ f∈L,f∉N:=by decide +kernel
noncomputable def hkB:Hook:=U7 prog kF 30 (fun f=>Nat.beq f 76)
theorem ZZ:df prog hkB:=U6 fD
noncomputable def ZU:Iv:=qO prog hkB 40
theorem Qi:iH prog ZU:=BN ZZ (fun _ hI=>jD hI) 40
noncomputable def hkL (hk:Hook):Hook:=jv (AY prog ZU best 75) hk
theorem Va {hk:Hook} (h:df prog hk):df prog (hkL hk):=fZ (MQ Qi (jD Qi) Yj) h
noncomputable def fJ (hk:Hook):Iv:=qO prog (hkL hk) 60
theorem XM {hk:Hook} (h:df prog hk):iH prog (fJ hk):=BN (Va h) (fun _ hI=>jD hI) 60
theorem mQ {hk:Hook} (h:df prog hk):∀ f args h0 v h',fJ hk (.func f) args h0=some (v,h')→aV prog f args h0 v h':=fun _ _ _ _ _ e=>reckon (Va h) e
section
variable (hk:Hook) (hi:Nat)
noncomputable def U3:FuncId→List Value→H→Option (Value × H):=fun f args h=>match Nat.beq f 79 with
 | true=>GN.aG prog L N (fJ hk) lst (h.next+hi) args h
 | false=>none
noncomputable def U2:FuncId→List Value→H→Option (Value × H):=fun f args h=>match Nat.beq f 49 || Nat.beq f 50 with
 | true=>Au prog L N (U3 hk hi) (fJ hk) f args h
 | false=>none
noncomputable def Qh:FuncId→List Value→H→Option (Value × H):=fun f args h=>match Nat.beq f 22 || Nat.beq f 23 with
 | true=>Au prog L N (U2 hk hi) (fJ hk) f args h
 | false=>none
end
section
variable {hk:Hook} {hi:Nat} {Z:Nat→Prop} {w0:World} {Post:Value→World→Prop}
theorem ivk0 (h:df prog hk):zn prog L N (@KM (aK prog L N) prog (· ∈ L) Z w0 Post) (U3 hk hi) (fJ hk):=
 ⟨yU yF Yw,mQ h,fun f args h0 v h' _ e=>by
  unfold U3 at e
  split at e
  ·rename_i hf
   obtain rfl:=Nat.eq_of_beq_eq_true hf
   exact GN.funcK yF Yw qP wgLib (XM h).next (mQ h) ZP e
  ·cases e⟩
theorem ivk1 (h:df prog hk):zn prog L N (@KM (aK prog L N) prog (· ∈ L) Z w0 Post) (U2 hk hi) (fJ hk):=
 ⟨yU yF Yw,mQ h,fun f args h0 v h' _ e=>by
  unfold U2 at e
  split at e
  ·exact OO (ivk0 h) qP e
  ·cases e⟩
theorem ivk2 (h:df prog hk):zn prog L N (@KM (aK prog L N) prog (· ∈ L) Z w0 Post) (Qh hk hi) (fJ hk):=
 ⟨yU yF Yw,mQ h,fun f args h0 v h' _ e=>by
  unfold Qh at e
  split at e
  ·exact OO (ivk1 h) qP e
  ·cases e⟩
end
end
end Go.Proofs.Tryz
end
