import Derived.Test.YthhhncgnnnhkmaaGreatA28
import Derived.Test.YthhhncgnnnhkmaaGreatA10
set_option linter.all false
section
set_option maxRecDepth 100000
namespace Go
namespace Inst
def srtOf(P:Program)(f:FuncId):Ev.Srt:=
 let c:=bodyOf P f
 {fn:=fnOf P f,c0:=seqL c,bid:=blkId (seqR c),lb:=loopB (blkB (seqR c))}
def rngT:Op→TypeId
 |.range t _=>t
 |_=>0
def rngX:Op→Operand
 |.range _ x=>x
 |.next x _=>x
 |.entry x=>x
 |_=>default
def mapK:TypeDesc→TypeId
 |.map k _=>k
 |_=>0
def mapV:TypeDesc→TypeId
 |.map _ v=>v
 |_=>0
def kysOf(P:Program)(f:FuncId):Ev.Kys:=
 let c:=bodyOf P f
 let lb:=loopB (blkB (seqR c))
 let r1:=seqL lb
 let cb:=seqR lb
 let inn:=blkB (seqR cb)
 let r2:=seqL inn
 {fn:=fnOf P f,i0:=regI (seqL c),oL:=opA (seqL c) 0,oR:=opA (seqL c) 1,bid:=blkId (seqR c),i1:=regI r1,oN:=opA r1 0,ops1:=(regO r1).toList.drop 1,c7:=condC (seqL cb),bid1:=blkId (seqR cb),i2:=regI r2,oE:=opA r2 0,ops2:=(regO r2).toList.drop 1,cR:=seqR inn,
   d4:=tmpN (rngX (opA (seqL c) 1).op),d5:=dstN (opA (seqL c) 1),d6:=dstN (opA r1 0),d8:=dstN (opA r2 0),tM:=rngT (opA (seqL c) 1).op,kT:=mapK (under P (rngT (opA (seqL c) 1).op)),vT:=mapV (under P (rngT (opA (seqL c) 1).op))}
end Inst
namespace Proofs.Tryz
open Go.Inst
noncomputable def srtS:Ev.Srt:=srtOf prog 195
noncomputable def srtI:Ev.Srt:=srtOf prog 205
noncomputable def kysS:Ev.Kys:=kysOf prog 162
noncomputable def kysI:Ev.Kys:=kysOf prog 165
theorem srtS_ok:srtS.OK prog 195:=⟨by kernel_rfl,by kernel_rfl,by kernel_rfl⟩
theorem srtI_ok:srtI.OK prog 205:=⟨by kernel_rfl,by kernel_rfl,by kernel_rfl⟩
theorem kysS_ok:kysS.OK prog 162:=⟨by kernel_rfl,by kernel_rfl,by kernel_rfl,by kernel_rfl,by kernel_rfl,by kernel_rfl,by kernel_rfl,by kernel_rfl,by kernel_rfl,by kernel_rfl,by kernel_rfl,by kernel_rfl,by kernel_rfl⟩
theorem kysI_ok:kysI.OK prog 165:=⟨by kernel_rfl,by kernel_rfl,by kernel_rfl,by kernel_rfl,by kernel_rfl,by kernel_rfl,by kernel_rfl,by kernel_rfl,by kernel_rfl,by kernel_rfl,by kernel_rfl,by kernel_rfl,by kernel_rfl⟩
end Proofs.Tryz
end Go
end
