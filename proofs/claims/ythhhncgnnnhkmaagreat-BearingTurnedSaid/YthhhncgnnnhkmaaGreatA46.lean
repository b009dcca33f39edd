import Derived.Test.YthhhncgnnnhkmaaGreatA44
import Derived.Test.YthhhncgnnnhkmaaGreatA45
set_option linter.all false
namespace Go.Proofs.Tryz
set_option maxRecDepth 1000000
open Go.Inst Go.Ev Go.Ren Go.Crew
def mFd:Made:=⟨8,[],[],100,.bool true,[],20000⟩
noncomputable def invG:FuncId→List Value→H→Option (Value×H):=fun f args h=>match Nat.beq f 8 with
 |true=>funcC prog L N (tabK [mFw,mCl]) (invL hkF) f args h
 |false=>none
theorem mFd_b:madeB (invG mFd.f mFd.args (Ev.start mFd.kn mFd.nx)) mFd=true:=by kernel_rfl
section
variable{Z:Nat→Prop}{w0:World}{Post:Value→World→Prop}
theorem fd_two:∀e∈[mFw,mCl],MadeK prog L N (@KM mpsAll noExt (spOf prog L N) prog (·∈L) Z w0 Post) e:=
 all_one (MadeK.of (ivk2 hkF_ok) (by kernel_rfl) mFw_b) (all_one (MadeK.of (ivk2 hkF_ok) (by kernel_rfl) mCl_b) all_none)
theorem ivG:IvK prog L N (@KM mpsAll noExt (spOf prog L N) prog (·∈L) Z w0 Post) invG (invL hkF):=
 ⟨km_ups zeroOK sok,invL_does hkF_ok,fun f args h0 v h' _ e=>by
  unfold invG at e
  split at e
  .exact func_K (IvK.tab (km_ups zeroOK sok) (invL_does hkF_ok) fd_two) hLN e
  .cases e⟩
theorem fd_one:∀e∈[mFd],MadeK prog L N (@KM mpsAll noExt (spOf prog L N) prog (·∈L) Z w0 Post) e:=
 all_one (MadeK.of ivG (by kernel_rfl) mFd_b) all_none
theorem ivF{hk:Hook}(h:HookOK prog hk):IvK prog L N (@KM mpsAll noExt (spOf prog L N) prog (·∈L) Z w0 Post) (tabK [mFd]) (invL hk):=
 IvK.tab (km_ups zeroOK sok) (invL_does h) fd_one
end
end Go.Proofs.Tryz
