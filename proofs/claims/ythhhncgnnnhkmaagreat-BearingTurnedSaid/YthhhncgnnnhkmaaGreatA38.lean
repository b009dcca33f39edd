import Derived.Test.YthhhncgnnnhkmaaGreatA35
set_option linter.all false
namespace Go.Proofs.Tryz
set_option maxRecDepth 1000000
open Go.Inst Go.Ev
def mEx:Made:=⟨28,[],[],1000,bv 1,bK,1008⟩
def mHr:Made:=⟨15,[bv 1,.agg ⟨wi 4 2 6 0 false⟩],bK,3000,tu [ov,k64 0],oK,3301⟩
def mCo1:Made:=⟨44,[ov],oK,3400,tu [co 3476,k64 0],[(3476,.cells [u8 0,u8 1,u8 2,u8 4,u8 8] 91 (some 1))],3477⟩
def mCo2:Made:=⟨44,[ov],oK,4800,tu [co 4876,k64 0],[(4876,.cells [u8 0,u8 1,u8 2,u8 4,u8 8] 91 (some 1))],4877⟩
def tv:Value:=.agg #[k64 3,k64 3,k64 1,sls 6062 2,sls 6064 3]
def tK:List (Nat×Ob):=[(6062,.cells bC 43 (some 2)),(6064,.cells (wi (-1) 0 2 0 true++wi 0 3 4 1 false++wi 2 (-1) 0 0 false) 41 (some 5))]
def mTr:Made:=⟨18,[bv 1,k64 0],bK,6000,tu [tv,k64 0],tK,6175⟩
def wv:Value:=.agg #[k64 3,k64 3,k64 1,sls 6570 2,sls 6572 3]
def wK:List (Nat×Ob):=[(6570,.cells (row [[0,0,0,0]]) 43 (some 2)),(6572,.cells bW 41 (some 5))]
def mSw:Made:=⟨20,[bv 1,k64 1,sqv 0 0],bK,6500,tu [wv,k64 0],wK,6679⟩
theorem mEx_ok:mEx.ok prog:=Made.asked (hk:=noHook) noHook_ok (d:=60) (by kernel_rfl)
theorem mHr_ok:mHr.ok prog:=Made.asked (hk:=noHook) noHook_ok (d:=60) (by kernel_rfl)
theorem mCo1_ok:mCo1.ok prog:=Made.asked (hk:=noHook) noHook_ok (d:=60) (by kernel_rfl)
theorem mCo2_ok:mCo2.ok prog:=Made.asked (hk:=noHook) noHook_ok (d:=60) (by kernel_rfl)
theorem mTr_ok:mTr.ok prog:=Made.asked (hk:=noHook) noHook_ok (d:=60) (by kernel_rfl)
theorem mSw_ok:mSw.ok prog:=Made.asked (hk:=noHook) noHook_ok (d:=60) (by kernel_rfl)
end Go.Proofs.Tryz
