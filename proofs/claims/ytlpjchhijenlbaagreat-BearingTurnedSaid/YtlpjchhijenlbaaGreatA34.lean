/- Of the proof of BearingTurned: Inst4 -/
import Derived.Test.YtlpjchhijenlbaaGreatA33
import Derived.Test.YtlpjchhijenlbaaGreatA13
set_option linter.unusedSectionVars false
set_option linter.unusedVariables false
set_option linter.unusedSimpArgs false
section
section
set_option maxRecDepth 100000
namespace Go
namespace Inst
def Yv (P:Program) (f:FuncId):Ev.bI:=
 let c:=xw P f
 { fn:=vU P f,c0:=bH c,ry:=AX (cZ c),lb:=LD (JV (cZ c)) }
def Zm:Op→TypeId
 | .range t _=>t
 | _=>0
def rngX:Op→Operand
 | .range _ x=>x
 | .next x _=>x
 | .entry x=>x
 | _=>default
def mapK:TypeDesc→TypeId
 | .map k _=>k
 | _=>0
def mapV:TypeDesc→TypeId
 | .map _ v=>v
 | _=>0
def YF (P:Program) (f:FuncId):Ev.dw:=
 let c:=xw P f
 let lb:=LD (JV (cZ c))
 let r1:=bH lb
 let cb:=cZ lb
 let inn:=JV (cZ cb)
 let r2:=bH inn
 { fn:=vU P f,i0:=pV (bH c),oL:=fA (bH c) 0,oR:=fA (bH c) 1,ry:=AX (cZ c),i1:=pV r1,oN:=fA r1 0,iI:=(jY r1).toList.drop 1,c7:=condC (bH cb),lM:=AX (cZ cb),i2:=pV r2,oE:=fA r2 0,ops2:=(jY r2).toList.drop 1,cR:=cZ inn,
   d4:=WN (rngX (fA (bH c) 1).op),d5:=ug (fA (bH c) 1),d6:=ug (fA r1 0),d8:=ug (fA r2 0),tM:=Zm (fA (bH c) 1).op,kT:=mapK (under P (Zm (fA (bH c) 1).op)),vT:=mapV (under P (Zm (fA (bH c) 1).op)) }
end Inst
namespace Proofs.Tryz
open Go.Inst
noncomputable def QV:Ev.bI:=Yv prog 148
noncomputable def srtI:Ev.bI:=Yv prog 158
noncomputable def kysS:Ev.dw:=YF prog 116
noncomputable def kysI:Ev.dw:=YF prog 119
theorem PN:QV.OK prog 148:=⟨by kernel_rfl,by kernel_rfl,by kernel_rfl⟩
theorem WU:srtI.OK prog 158:=⟨by kernel_rfl,by kernel_rfl,by kernel_rfl⟩
theorem XJ:kysS.OK prog 116:=⟨by kernel_rfl,by kernel_rfl,by kernel_rfl,by kernel_rfl,by kernel_rfl,by kernel_rfl,by kernel_rfl,by kernel_rfl,by kernel_rfl,by kernel_rfl,by kernel_rfl,by kernel_rfl,by kernel_rfl⟩
theorem XK:kysI.OK prog 119:=⟨by kernel_rfl,by kernel_rfl,by kernel_rfl,by kernel_rfl,by kernel_rfl,by kernel_rfl,by kernel_rfl,by kernel_rfl,by kernel_rfl,by kernel_rfl,by kernel_rfl,by kernel_rfl,by kernel_rfl⟩
end Proofs.Tryz
end Go
end
end
