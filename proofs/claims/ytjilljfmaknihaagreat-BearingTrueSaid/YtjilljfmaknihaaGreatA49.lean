import Derived.Test.YtjilljfmaknihaaGreatA48
set_option linter.all false
namespace Go.Proofs.Tryz
set_option maxRecDepth 1000000
open Go.Inst Go.Ev
def mCl:Made:=⟨36,[ov],oK,4390,tu [U6 4462 2,lQ 0],[(4462,.cells (row [[0],[3]]) 3 (some 1))],5495⟩
def aj3:Q4 (aab hkF 1000 mCl.f mCl.args (Ev.start mCl.kn mCl.nx)) mCl=true:=by kernel_rfl
open Go.Ren Go.Crew
def Ye:Made:=⟨7,[],[],100,.bool true,[],20000⟩
noncomputable def aiD:aI→List ae→H→aB (ae×H):=fun f args h=>match Nat.beq f 7 with
|true=>Wy prog L N (XC [mFw,mCl]) (jD hkF) f args h
|false=>none
def aj0:Q4 (aiD Ye.f Ye.args (Ev.start Ye.kn Ye.nx)) Ye=true:=by kernel_rfl
section
variable{Z:Nat→Prop}{w0:ay}{Post:ae→ay→Prop}
theorem aiK:∀e∈[mFw,mCl],IV prog L N (@KM iH aj (aV prog L N) prog (·∈L) Z w0 Post) e:=gB (IV.of (akb OB) (by kernel_rfl) ajZ) (gB (IV.of (akb OB) (by kernel_rfl) aj3) all_none)
theorem ivG:IW prog L N (@KM iH aj (aV prog L N) prog (·∈L) Z w0 Post) aiD (jD hkF):=
 ⟨AZ nS sok,rF OB,fun f args h0 v h' _ e=>by
  unfold aiD at e;split at e
  .exact Yw (IW.tab (AZ nS sok) (rF OB) aiK) qR e
  cases e⟩
theorem aiL:∀e∈[Ye],IV prog L N (@KM iH aj (aV prog L N) prog (·∈L) Z w0 Post) e:=gB (IV.of ivG (by kernel_rfl) aj0) all_none
theorem ivF{hk:Hook}(h:fE prog hk):IW prog L N (@KM iH aj (aV prog L N) prog (·∈L) Z w0 Post) (XC [Ye]) (jD hk):=IW.tab (AZ nS sok) (rF h) aiL
end
end Go.Proofs.Tryz
