import Derived.Test.YtjilljfmaknihaaGreatA35
import Derived.Test.YtjilljfmaknihaaGreatA11
set_option linter.all false
section
set_option maxRecDepth 100000
namespace Go
namespace Inst
def ahn(P:aH)(f:aI):Ev.eQ:=
 let c:=FY P f
 {fn:=aea P f,c0:=fM c,BQ:=IC (fV c),lb:=V9 (Uo (fV c))}
def ah5:Op→aZ
|.range t _=>t
|_=>0
def ali:Op→fH
|.range _ x=>x
|.next x _=>x
|.entry x=>x
|_=>default
def alA:TypeDesc→aZ
|.map k _=>k
|_=>0
def alz:TypeDesc→aZ
|.map _ v=>v
|_=>0
def ahy(P:aH)(f:aI):Ev.fG:=
 let c:=FY P f
 let lb:=V9 (Uo (fV c))
 let r1:=fM lb
 let cb:=fV lb
 let jW:=Uo (fV cb)
 let r2:=fM jW
 {fn:=aea P f,i0:=wo (fM c),oL:=jU (fM c) 0,oR:=jU (fM c) 1,BQ:=IC (fV c),i1:=wo r1,oN:=jU r1 0,lC:=(vZ r1).toList.drop 1,c7:=condC (fM cb),qE:=IC (fV cb),i2:=wo r2,oE:=jU r2 0,ops2:=(vZ r2).toList.drop 1,cR:=fV jW,d4:=afw (ali (jU (fM c) 1).op),d5:=Ad (jU (fM c) 1),d6:=Ad (jU r1 0),d8:=Ad (jU r2 0),tM:=ah5 (jU (fM c) 1).op,kT:=alA (under P (ah5 (jU (fM c) 1).op)),vT:=alz (under P (ah5 (jU (fM c) 1).op))}
end Inst
namespace Proofs.Tryz
open Go.Inst
noncomputable def aaZ:Ev.eQ:=ahn prog 183
noncomputable def ajz:Ev.eQ:=ahn prog 193
noncomputable def aj9:Ev.fG:=ahy prog 149
noncomputable def aka:Ev.fG:=ahy prog 152
def Zw:aaZ.OK prog 183:=by constructor<;>kernel_rfl
def afz:ajz.OK prog 193:=by constructor<;>kernel_rfl
def agq:aj9.OK prog 149:=by constructor<;>kernel_rfl
def agr:aka.OK prog 152:=by constructor<;>kernel_rfl
end Proofs.Tryz
end Go
end
