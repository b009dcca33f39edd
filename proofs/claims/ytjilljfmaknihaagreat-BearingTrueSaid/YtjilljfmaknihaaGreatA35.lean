import Derived.Test.YtjilljfmaknihaaGreatA33
set_option linter.all false
namespace Go.Proofs.Tryz
set_option maxRecDepth 100000
open Go.Inst
def L:List Nat:=[6,8,9,10,11,12,13,14,15,16,17,18,19,20,21,22,23,24,25,26,27,28,29,30,31,32,33,34,37,38,39,40,41,42,43,44,45,46,47,48,49,50,51,52,53,54,55,56,57,58,59,60,61,62,63,64,65,66,67,68,69,70,71,72,75,76,77,78,79,80,81,82,83,84,85,86,87,88,89,90,91,92,93,94,95,96,97,98,99,100,101,102,103,104,105,106,107,108,109,111,112,113,114,115,116,117,118,119,120,121,122,123,124,125,126,127,128,129,130,131,132,133,134,135,136,141,142,143,144,145,146,147,148,149,150,151,152,171,172,173,174,175,176,177,183,184,185,186,187,188,189,190,191,192,193,194,195,196,197,198,199,200,201,202,203,204,205,206,207,208,209,210]
def N:List Nat:=[7,35,36,73,74,110,138]
noncomputable def best:Ev.Bst:=akC prog 106
noncomputable def lst:Crew.Qc:=aj6 prog link 110
def ag6:best.OK prog 106:=by constructor<;>first|kernel_rfl|exact BB (by kernel_rfl)|decide +kernel
def akv:lst.cw.OK prog L N link:=by constructor<;>first|kernel_rfl|exact BB (by kernel_rfl)|decide +kernel
def ajJ:lst.rc.OK prog L N:=by
 constructor<;>try first|(show _=_;kernel_rfl)|(show _≠_;decide +kernel)|(show _<_;decide +kernel)
 .exact .inl (by kernel_rfl)
 rotate_left 2
 .exact .inr (by kernel_rfl)
 all_goals decide +kernel
def aiB:lst.OK prog L N link 110:=by constructor<;>first|exact akv|exact ajJ|kernel_rfl|decide +kernel
open Go.Ren
def L1:List Nat:=[6,8,9,10,11,12,13,14,15,16,17,18,19,20,21,22,23,24,25,26,27,30,31,32,34,37,38,39,40,41,42,43,44,45,46,47,48,49,50,51,52,53,54,55,56,57,58,59,60,61,62,63,64,65,67,68,69,70,72,75,76,77,78,79,80,81,82,83,84,85,86,87,88,89,90,91,92,93,94,95,96,97,99,100,101,103,104,105,106,107,108,109,111,112,113,114,115,116,117,118,119,120,121,122,123,124,125,126,127,128,130,131,133,134,135,136,141,142,143,144,145,146,147,149,150,152,171,172,173,175,176,183,184,187,188,189,190,191,192,193,194,197,198,199,200,201,202,206]
def SV:@mM fJ bY prog (·∈L1):=@aaq fJ _ _ bY (fun _ _=>rfl) (by kernel_rfl)
def Yt:∀f∈L1,f∉N:=by decide +kernel
def ale:∀x∈L1,x∈L:=by decide +kernel
open Go.Ev Go.Crew
def nS:bz prog:=aeN (by kernel_rfl)
def sok:mM prog (·∈L):=aaq (fun _ _=>rfl) (by kernel_rfl)
def qR:∀f∈L,f∉N:=by decide +kernel
noncomputable def hkB:Hook:=adR prog qp 30 (fun f=>Nat.beq f 107)
def aiH:fE prog hkB:=adQ ji
noncomputable def akd:Iv:=zV prog hkB 40
def aac:kS prog akd:=Jw aiH (fun _ hI=>ng hI) 40
noncomputable def hkL(hk:Hook):Hook:=qo (Pn prog akd best 106) hk
def adU{hk:Hook}(h:fE prog hk):fE prog (hkL hk):=jH (Xa aac (ng aac) ag6) h
noncomputable def jD(hk:Hook):Iv:=zV prog (hkL hk) 60
def agw{hk:Hook}(h:fE prog hk):kS prog (jD hk):=Jw (adU h) (fun _ hI=>ng hI) 60
def rF{hk:Hook}(h:fE prog hk):∀f args h0 v h',jD hk (.func f) args h0=some (v,h')→dF prog f args h0 v h':=fun _ _ _ _ _ e=>reckon (adU h) e
section
variable(hk:Hook)(hi:Nat)
noncomputable def adO:aI→List ae→H→aB (ae×H):=fun f args h=>match Nat.beq f 110 with
|true=>Qc.di prog L N (jD hk) lst (h.next+hi) args h
|false=>none
noncomputable def adN:aI→List ae→H→aB (ae×H):=fun f args h=>match Nat.beq f 73||Nat.beq f 74 with
|true=>Wy prog L N (adO hk hi) (jD hk) f args h
|false=>none
noncomputable def aab:aI→List ae→H→aB (ae×H):=fun f args h=>match Nat.beq f 35||Nat.beq f 36 with
|true=>Wy prog L N (adN hk hi) (jD hk) f args h
|false=>none
end
section
variable{hk:Hook}{hi:Nat}{Z:Nat→Prop}{w0:ay}{Post:ae→ay→Prop}
theorem alE(h:fE prog hk):IW prog L N (@KM iH aj (aV prog L N) prog (·∈L) Z w0 Post) (adO hk hi) (jD hk):=
 ⟨AZ nS sok,rF h,fun f args h0 v h' _ e=>by
  unfold adO at e;split at e
  .rename_i hf
   obtain rfl:=bG hf;exact Qc.akk nS sok qR wgLib (agw h).next (rF h) aiB e
  cases e⟩
theorem alD(h:fE prog hk):IW prog L N (@KM iH aj (aV prog L N) prog (·∈L) Z w0 Post) (adN hk hi) (jD hk):=
 ⟨AZ nS sok,rF h,fun f args h0 v h' _ e=>by
  unfold adN at e;split at e
  .exact Yw (alE h) qR e
  cases e⟩
theorem akb(h:fE prog hk):IW prog L N (@KM iH aj (aV prog L N) prog (·∈L) Z w0 Post) (aab hk hi) (jD hk):=
 ⟨AZ nS sok,rF h,fun f args h0 v h' _ e=>by
  unfold aab at e;split at e
  .exact Yw (alD h) qR e
  cases e⟩
end
end Go.Proofs.Tryz
