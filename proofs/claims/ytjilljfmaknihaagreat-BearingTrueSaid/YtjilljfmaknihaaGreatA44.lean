import Derived.Test.YtjilljfmaknihaaGreatA41
set_option linter.all false
namespace Go.Proofs.Tryz
set_option maxRecDepth 1000000
open Go.Inst Go.Ev
def mEx:Made:=⟨26,[],[],1000,bv 1,bK,1008⟩
def mHr:Made:=⟨14,[bv 1,.agg ⟨wi 4 2 6 0 false⟩],bK,3000,tu [ov,lQ 0],oK,3221⟩
def aj2:Made:=⟨43,[ov],oK,3300,tu [co 3343,lQ 0],[(3343,.cells [u8 0,u8 1,u8 2,u8 4,u8 8] 90 (some 1))],3344⟩
def aj1:Made:=⟨43,[ov],oK,4400,tu [co 4443,lQ 0],[(4443,.cells [u8 0,u8 1,u8 2,u8 4,u8 8] 90 (some 1))],4444⟩
def tv:ae:=.agg #[lQ 3,lQ 3,lQ 1,U6 5545 2,U6 5547 3]
def tK:List (Nat×Ob):=[(5545,.cells bC 43 (some 2)),(5547,.cells (wi (-1) 0 2 0 true++wi 0 3 4 1 false++wi 2 (-1) 0 0 false) 41 (some 5))]
def mTr:Made:=⟨17,[bv 1,lQ 0],bK,5500,tu [tv,lQ 0],tK,5618⟩
def wv:ae:=.agg #[lQ 3,lQ 3,lQ 1,U6 6053 2,U6 6055 3]
def wK:List (Nat×Ob):=[(6053,.cells (row [[0,0,0,0]]) 43 (some 2)),(6055,.cells bW 41 (some 5))]
def mSw:Made:=⟨19,[bv 1,lQ 1,sqv 0 0],bK,6000,tu [wv,lQ 0],wK,6128⟩
def aiz:mEx.ok prog:=Made.asked (hk:=qp) ji (d:=60) (by kernel_rfl)
def aix:mHr.ok prog:=Made.asked (hk:=qp) ji (d:=60) (by kernel_rfl)
def agk:aj2.ok prog:=Made.asked (hk:=qp) ji (d:=60) (by kernel_rfl)
def agj:aj1.ok prog:=Made.asked (hk:=qp) ji (d:=60) (by kernel_rfl)
def ait:mTr.ok prog:=Made.asked (hk:=qp) ji (d:=60) (by kernel_rfl)
def aiu:mSw.ok prog:=Made.asked (hk:=qp) ji (d:=60) (by kernel_rfl)
def eCt:Entry:=⟨23,[tv],tK,tu [lQ 10,lQ 0]⟩
def eCw:Entry:=⟨23,[wv],wK,tu [lQ 4,lQ 0]⟩
def aiS:eCt.ok prog:=Entry.asked (hk:=qp) ji (d:=60) (nx:=7000) (by kernel_rfl)
def aiR:eCw.ok prog:=Entry.asked (hk:=qp) ji (d:=60) (nx:=7000) (by kernel_rfl)
end Go.Proofs.Tryz
