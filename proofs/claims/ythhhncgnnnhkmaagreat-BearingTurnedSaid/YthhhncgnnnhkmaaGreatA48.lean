import Derived.Test.YthhhncgnnnhkmaaGreatA47
set_option linter.all false
namespace Go.Proofs.Tryz
set_option maxRecDepth 100000
open Go.Inst Go.Ev
noncomputable def r4:Code:=seqL (seqL (cX 4))
def tab4(a b c d:Int):T Value:=T.put T.deep (T.put T.deep .nil 60 (some (sqv a b))) 61 (some (sqv c d))
noncomputable def cmp4(a b c d:Int):Option Value:=pureV prog (evalO (tab4 a b c d)) (opA r4 8).op
def tens:List Int:=[-5,-4,-3,-2,-1,0,1,2,3,4]
noncomputable def cmpB(a:Int):Bool:=tens.all fun c=>tens.all fun b=>tens.all fun d=>match cmp4 a b c d with
 |some v=>eqV v (.bool (!(decide (a=c)&&decide (b=d))))
 |none=>false
theorem cmpB_0:cmpB (-5)=true:=by kernel_rfl
theorem cmpB_1:cmpB (-4)=true:=by kernel_rfl
theorem cmpB_2:cmpB (-3)=true:=by kernel_rfl
theorem cmpB_3:cmpB (-2)=true:=by kernel_rfl
theorem cmpB_4:cmpB (-1)=true:=by kernel_rfl
theorem cmpB_5:cmpB (0)=true:=by kernel_rfl
theorem cmpB_6:cmpB (1)=true:=by kernel_rfl
theorem cmpB_7:cmpB (2)=true:=by kernel_rfl
theorem cmpB_8:cmpB (3)=true:=by kernel_rfl
theorem cmpB_9:cmpB (4)=true:=by kernel_rfl
theorem cmpB_ok{a:Int}(ha:a∈tens):cmpB a=true:=by
 simp only[tens,List.mem_cons,List.not_mem_nil,or_false] at ha
 rcases ha with rfl|rfl|rfl|rfl|rfl|rfl|rfl|rfl|rfl|rfl
 .exact cmpB_0
 .exact cmpB_1
 .exact cmpB_2
 .exact cmpB_3
 .exact cmpB_4
 .exact cmpB_5
 .exact cmpB_6
 .exact cmpB_7
 .exact cmpB_8
 .exact cmpB_9
theorem tens_mem{a:Int}(h1:-5≤a)(h2:a≤4):a∈tens:=by
 have:a = -5∨a = -4∨a = -3∨a = -2∨a = -1∨a=0∨a=1∨a=2∨a=3∨a=4:=by omega
 rcases this with rfl|rfl|rfl|rfl|rfl|rfl|rfl|rfl|rfl|rfl<;>decide
theorem cmp4_is{a b c d:Int}(ha:a∈tens)(hb:b∈tens)(hc:c∈tens)(hd:d∈tens):cmp4 a b c d=some (.bool (!(decide (a=c)&&decide (b=d)))):=by
 have h:=List.all_eq_true.1 (List.all_eq_true.1 (List.all_eq_true.1 (cmpB_ok ha) c hc) b hb) d hd
 split at h
 .rename_i v hv;rw[hv,eqV_eq h]
 .cases h
end Go.Proofs.Tryz
