/- Of the proof of BearingTurned: Lw4 -/
import Derived.Test.YtlpjchhijenlbaaGreatA52
set_option linter.unusedSectionVars false
set_option linter.unusedVariables false
set_option linter.unusedSimpArgs false
section
set_option maxRecDepth 100000
namespace Go.Proofs.Tryz
open Go.Inst Go.Ev
noncomputable def r4:Code:=bH (bH (cX 4))
noncomputable def c4:Code:=cZ (bH (cX 4))
def Y6 (a b c d:Int):T Value:=T.put T.deep (T.put T.deep .nil 60 (some (mD a b))) 61 (some (mD c d))
noncomputable def cmp4 (a b c d:Int):Option Value:=jQ prog (aG (Y6 a b c d)) (fA r4 8).op
def qN:List Int:=[-5,-4,-3,-2,-1,0,1,2,3,4]
noncomputable def Gj (a:Int):Bool:=qN.all fun c=>qN.all fun b=>qN.all fun d=>match cmp4 a b c d with
 | some v=>uz v (.bool (!(decide (a=c)&&decide (b=d))))
 | none=>false
theorem cmpB_0:Gj (-5)=true:=by kernel_rfl
theorem cmpB_1:Gj (-4)=true:=by kernel_rfl
theorem cmpB_2:Gj (-3)=true:=by kernel_rfl
theorem cmpB_3:Gj (-2)=true:=by kernel_rfl
theorem cmpB_4:Gj (-1)=true:=by kernel_rfl
theorem cmpB_5:Gj (0)=true:=by kernel_rfl
theorem cmpB_6:Gj (1)=true:=by kernel_rfl
theorem cmpB_7:Gj (2)=true:=by kernel_rfl
theorem cmpB_8:Gj (3)=true:=by kernel_rfl
theorem cmpB_9:Gj (4)=true:=by kernel_rfl
theorem Yd {a:Int} (ha:a∈qN):Gj a=true:=by
 simp only [qN,List.mem_cons,List.not_mem_nil,or_false] at ha
 rcases ha with rfl | rfl | rfl | rfl | rfl | rfl | rfl | rfl | rfl | rfl
 ·exact cmpB_0
 ·exact cmpB_1
 ·exact cmpB_2
 ·exact cmpB_3
 ·exact cmpB_4
 ·exact cmpB_5
 ·exact cmpB_6
 ·exact cmpB_7
 ·exact cmpB_8
 ·exact cmpB_9
theorem zy {a:Int} (h1:-5≤a) (h2:a≤4):a∈qN:=by
 have:a = -5∨a = -4∨a = -3∨a = -2∨a = -1∨a=0∨a=1∨a=2∨a=3∨a=4:=by omega
 rcases this with rfl | rfl | rfl | rfl | rfl | rfl | rfl | rfl | rfl | rfl<;>decide
theorem Ye {a b c d:Int} (ha:a∈qN) (hb:b∈qN) (hc:c∈qN) (hd:d∈qN):cmp4 a b c d=some (.bool (!(decide (a=c)&&decide (b=d)))):=by
 have h:=List.all_eq_true.1 (List.all_eq_true.1 (List.all_eq_true.1 (Yd ha) c hc) b hb) d hd
 split at h
 ·rename_i v hv;rw [hv,iU h]
 ·cases h
end Go.Proofs.Tryz
end
