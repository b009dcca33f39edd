/- Of the proof of BearingTurned: Fd9 -/
import Derived.Test.YtlpjchhijenlbaaGreatA40
set_option linter.unusedSectionVars false
set_option linter.unusedVariables false
set_option linter.unusedSimpArgs false
section
set_option maxRecDepth 1000000
namespace Go.Proofs.Tryz
open Go.Inst Go.Ev
def mEx:Made:=⟨10,[],[],1000,bv 1,bK,1008⟩
def mHr:Made:=⟨21,[bv 1,.agg ⟨wi 4 2 6 0 false⟩],bK,3000,tu [ov,eG 0],oK,3221⟩
def mCo1:Made:=⟨31,[ov],oK,3300,tu [co 3343,eG 0],[(3343,.cells [u8 0,u8 1,u8 2,u8 4,u8 8] 85 (some 1))],3344⟩
def mCo2:Made:=⟨31,[ov],oK,4400,tu [co 4443,eG 0],[(4443,.cells [u8 0,u8 1,u8 2,u8 4,u8 8] 85 (some 1))],4444⟩
def tv:Value:=.agg #[eG 3,eG 3,eG 1,J8 5545 2,J8 5547 3]
def tK:List (Nat × Ob):=[(5545,.cells bC 48 (some 2)),(5547,.cells (wi (-1) 0 2 0 true++wi 0 3 4 1 false++wi 2 (-1) 0 0 false) 64 (some 5))]
def mTr:Made:=⟨25,[bv 1,eG 0],bK,5500,tu [tv,eG 0],tK,5618⟩
def wv:Value:=.agg #[eG 3,eG 3,eG 1,J8 6053 2,J8 6055 3]
def wK:List (Nat × Ob):=[(6053,.cells (row [[0,0,0,0]]) 48 (some 2)),(6055,.cells bW 64 (some 5))]
def mSw:Made:=⟨26,[bv 1,eG 1,mD 0 0],bK,6000,tu [wv,eG 0],wK,6128⟩
theorem ZN:mEx.ok prog:=Made.asked (hk:=kF) fD (d:=60) (by kernel_rfl)
theorem ZL:mHr.ok prog:=Made.asked (hk:=kF) fD (d:=60) (by kernel_rfl)
theorem XH:mCo1.ok prog:=Made.asked (hk:=kF) fD (d:=60) (by kernel_rfl)
theorem XG:mCo2.ok prog:=Made.asked (hk:=kF) fD (d:=60) (by kernel_rfl)
theorem ZH:mTr.ok prog:=Made.asked (hk:=kF) fD (d:=60) (by kernel_rfl)
theorem ZI:mSw.ok prog:=Made.asked (hk:=kF) fD (d:=60) (by kernel_rfl)
end Go.Proofs.Tryz
end
