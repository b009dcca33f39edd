/- Of the proof of BearingTurned: Fd14 -/
import Derived.Test.YtlpjchhijenlbaaGreatA49
import Derived.Test.YtlpjchhijenlbaaGreatA50
set_option linter.unusedSectionVars false
set_option linter.unusedVariables false
set_option linter.unusedSimpArgs false
section
set_option maxRecDepth 1000000
namespace Go.Proofs.Tryz
open Go.Inst Go.Ev Go.Ren Go.Crew
section
def RX:Made:=⟨6,[],[],100,.bool true,[],20000⟩
noncomputable def ZT:FuncId→List Value→H→Option (Value × H):=fun f args h=>match Nat.beq f 6 with
 | true=>Au prog L N (NH [ZM,ZO]) (fJ hkF) f args h
 | false=>none
theorem mFd_b:Iq (ZT RX.f RX.args (Ev.start RX.kn RX.nx)) RX=true:=by kernel_rfl
section
variable {Z:Nat→Prop} {w0:World} {Post:Value→World→Prop}
theorem Z9:∀ e∈[ZM,ZO],Bd prog L N (@KM (aK prog L N) prog (· ∈ L) Z w0 Post) e:=
 dO (Bd.of (ivk2 JG) (by kernel_rfl) mFw_b) (dO (Bd.of (ivk2 JG) (by kernel_rfl) mCl_b) all_none)
theorem ivG:zn prog L N (@KM (aK prog L N) prog (· ∈ L) Z w0 Post) ZT (fJ hkF):=
 ⟨yU yF Yw,mQ JG,fun f args h0 v h' _ e=>by
  unfold ZT at e
  split at e
  ·exact OO (zn.tab (yU yF Yw) (mQ JG) Z9) qP e
  ·cases e⟩
theorem fd_one:∀ e∈[RX],Bd prog L N (@KM (aK prog L N) prog (· ∈ L) Z w0 Post) e:=
 dO (Bd.of ivG (by kernel_rfl) mFd_b) all_none
theorem ivF {hk:Hook} (h:df prog hk):zn prog L N (@KM (aK prog L N) prog (· ∈ L) Z w0 Post) (NH [RX]) (fJ hk):=
 zn.tab (yU yF Yw) (mQ h) fd_one
end
end
end Go.Proofs.Tryz
end
