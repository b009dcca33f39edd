import Derived.Maps.AppendAt
import Derived.Test.YtjilljfmaknihaaGreatA17
set_option linter.all false
set_option maxHeartbeats 8000000
set_option maxRecDepth 100000
namespace Go
def Gg:=@Go.Calls.quiet_of_same
end Go
namespace Go.Proofs
open Go.RowKit
def alm:List Int:=[0,1,1,2,1,2,2,3,1,2,2,3,2,3,3,4,1,2,2,3,2,3,3,4,2,3,3,4,3,4,4,5]
def XX(g:Nat):Int:=alm.getD g 0
def Tryz.ones(g:Nat)(hg:g<=31)(w):Calls Tryz.prog 143 #[.int .u8 g] w fun e w'=>e=.returned (.int .i64 (XX g))/\w'=w:=by
 match g,hg with
 |n+32,h=>exact absurd h (by omega)
 |0,_|1,_|2,_|3,_|4,_|5,_|6,_|7,_|8,_|9,_|10,_|11,_|12,_|13,_|14,_|15,_|16,_|17,_|18,_|19,_|20,_|21,_|22,_|23,_|24,_|25,_|26,_|27,_|28,_|29,_|30,_|31,_=>go_enter Tryz.func143,Tryz.ntmps143;go_wp2;go_ret;exact⟨dZ (by kernel_rfl),rfl⟩
def Tryz.every(W H F)(ac aw)(nc kc nw kw)(w)(hm:nw<=5):Calls Tryz.prog 108 #[.agg #[.int .i64 W,.int .i64 H,.int .i64 F,.slice ac nc kc,.slice aw nw kw]] w fun e w'=>e=.returned (.int .u8 ((2:Int) ^ nw-1))/\Fin w w':=by go_enter Tryz.func108,Tryz.ntmps108;go_wp2;go_ret;exact⟨bU (fun x=>Ending.returned (Value.int IntKind.u8 x)) (by match nw,hm with|0,_|1,_|2,_|3,_|4,_|5,_=>rfl),(Fin.refl _).alloc _ _⟩
def Tryz.ahp(g:Nat)(hg:g<=31)(w):Calls Tryz.prog 120 #[.int .u8 g] w fun e w'=>e=.returned (.int .i64 (XX g))/\w'=w:=by go_enter Tryz.func120,Tryz.ntmps120;go_wp2_with (go_at_call 143;refine(Tryz.ones _ hg _).mono ?_;rintro e w' ⟨rfl,rfl⟩);go_ret;exact⟨rfl,rfl⟩
def Tryz.ake:(Tryz.prog.info? 90).map (fun i=>(i.zero,i.size,i.bytes))=some (some (.int .u8 0),1,1):=by kernel_rfl
def MQ(S F:Int)(g:Nat):Bool:=decide (bits BinOp.and IntKind.u8 g S=0)&&decide (XX g<=F)
def SI(S F:Int)(n:Nat):List Nat:=(List.range n).filter (MQ S F)
def afy{S F k}(h:MQ S F k=true):SI S F (k+1)=SI S F k++[k]:=by unfold SI;rw[Y3,JS];simp[h]
def acD{S F k}(h:MQ S F k=false):SI S F (k+1)=SI S F k:=by unfold SI;rw[Y3,JS];simp[h]
def ownsRow_base{w:ay}{b b':Nat}{e:aZ}{z n:Nat}{v:ae}{xs:List ae}(h:w.ownsRow b e z v n xs)(hb:b'<=b):w.ownsRow b' e z v n xs:=⟨h.1,h.2.imp id fun⟨g,cap,cur,h1,h2,h3⟩=>⟨g,cap,cur,h1,bM hb h2,h3⟩⟩
def u8v(g:Nat):ae:=.int .u8 g
def Tryz.ald(W H F)(ac aw)(nc kc kw)(ws)(w)(hm:ws.length<=5)(hc:LM w aw ws):Calls Tryz.prog 80 #[.agg #[.int .i64 W,.int .i64 H,.int .i64 F,.slice ac nc kc,.slice aw ws.length kw]] w fun e w'=>(∃v,e=.returned v/\w'.ownsRow w.heap.size 90 1 v (SI (grp (kU ws) ws.length) F (2 ^ ws.length)).length ((SI (grp (kU ws) ws.length) F (2 ^ ws.length)).map u8v))/\Fin w w':=by
 have HC:=az hc;clear hc;have⟨i0,hi,hz0,hz1,hz2⟩:=info_parts Tryz.ake;go_enter Tryz.func80,Tryz.ntmps80;go_wp2_with fail;obtain⟨w1,hw1⟩:∃w1,w.alloc (.cells #[.int .i64 W,.int .i64 H,.int .i64 F,.slice ac nc kc,.slice aw ws.length kw] 78)=w1:=⟨_,rfl⟩;have⟨x0,x1,x2,x3,x4,hz1'⟩:=W9 hw1;have hF:Fin w w1:=hw1▸(Fin.refl _).alloc _ _;rw[hw1];clear hw1;have hz:w.heap.size<w1.heap.size:=by omega
 go_wp2_with (first|(go_at_call 119;refine(Tryz.ajy _ _ _ _ _ _ _ _ _ _ hm (HC.out.fin hF)).mono ?_;rintro e w2 ⟨rfl,hF2⟩;have⟨d1,d2⟩:=bD hF2)|(go_at_call 108;refine(Tryz.every _ _ _ _ _ _ _ _ _ _ hm).mono ?_;rintro e w3 ⟨rfl,hF3⟩))
 have hp2:(2:Int) ^ ws.length % 256=((2 ^ ws.length:Nat):Int)/\2 ^ ws.length<=32:=by
  generalize ws.length=n at hm
  match n,hm with|0,_|1,_|2,_|3,_|4,_|5,_=>exact⟨rfl,by decide⟩
 rw[hp2.1];have hm32:=hp2.2;clear hp2;obtain⟨S,hS⟩:∃S,grp (kU ws) ws.length=S:=⟨_,rfl⟩;obtain⟨m,hM⟩:∃m,2 ^ ws.length=m:=⟨_,rfl⟩;rw[hS,hM];rw[hM] at hm32;have HS:=az hS;have HM:=az hM;clear hS hM;clear d1 d2;have hF4:=hF2.trans hF3;clear hF2 hF3;go_loopw [3,11] (fun v i wr=>∃k:Nat,k<=m/\i=.int .u8 k/\Fin w1 wr/\wr.ownsRow w1.heap.size 90 1 v (SI S F k).length ((SI S F k).map u8v)) (fun _ i _=>m-(intOf i).toNat);case atStart=>exact⟨0,gy _,rfl,hF4,World.ownsRow_nil _ _ _ _⟩
 case round=>
  clear hF4;obtain⟨k,hk,rfl,hF1,hown⟩:=hrel;have y0:=((bD hF1).1 _ 0 hz).trans x0;have y1:=((bD hF1).1 _ 1 hz).trans x1;have y2:=((bD hF1).1 _ 2 hz).trans x2;have y3:=((bD hF1).1 _ 3 hz).trans x3;have y4:=((bD hF1).1 _ 4 hz).trans x4;clear x0 x1 x2 x3 x4;by_cases hlt:k<m
  .by_cases hg:bits BinOp.and IntKind.u8 k S=0
   .have HG:=az hg;have g1:(bits BinOp.and IntKind.u8 (↑k) S==0)=true:=by simpa using hg
    have g2:decide (bits BinOp.and IntKind.u8 (↑k) S=0)=true:=by simpa using hg
    clear hg;go_wp2;go_quiet ((go_at_call 120;exact Gg (Tryz.ahp k (by omega) _)));clear g1 g2;have hown1:(wr.drewN nq).ownsRow w1.heap.size 90 1 u3 (SI S F k).length ((SI S F k).map u8v):=hown;have hl32:(SI S F k).length<=32:=bM (UO _ _) (by simp;omega);have hzw:=hF1.below.size;have HOW:=az hown1;clear hown hown1;go_wp2_with (at_builtin;refine EZ rfl (.tmp 26) (.tmp 28) 79 rfl w1.heap.size 90 i0 (.int .u8 0) 1 1 Tryz.underlying79 hi hz0 hz1 hz2 rfl (by decide) _ _ _ rfl (HOW.out.alloc _) ⟨wr.heap.size,0,none⟩ 1 1 [.int .u8 k] rfl rfl (cell_one_new _ _ _) (by simp[Value.oneCell']) (by decide) (by unfold maxLen;omega) (by omega) (by simp;omega) ?_;intro v' w4 hown4 hgrow4 htame4)
    .have p1:XX k<=F:=by assumption
     have hb:MQ S F k=true:=by unfold MQ;simp[p1,HG.out]
     have hA:Fin w1 ((wr.drewN nq).alloc (.cells #[.int .u8 k] 90)):=(hF1.drewN _).alloc _ _;have hB:Fin w1 w4:=⟨hA.below.grown hgrow4 hA.below.size (fun j hj=>(HOW.out.lt j hj).1),fun h=>htame4 (hA.fD h)⟩;have hr:w4.ownsRow w1.heap.size 90 1 v' (SI S F (k+1)).length ((SI S F (k+1)).map u8v):=by rw[afy hb,PE,F5];exact hown4
     clear hown4 hgrow4 htame4;go_roundw;case rel=>exact⟨k+1,by omega,by go_num,hB,hr⟩
     case measure=>simp[intOf];omega
    have p1:F<XX k:=by assumption
    have hb:MQ S F k=false:=by unfold MQ;simp[p1]
    go_roundw;case rel=>exact⟨k+1,by omega,by go_num,hF1.drewN _,by rw[acD hb];exact HOW.out⟩
    case measure=>simp[intOf];omega
   have hb:MQ S F k=false:=by unfold MQ;simp[hg]
   have HB:=az hb;have g1:(bits BinOp.and IntKind.u8 (↑k) S==0)=false:=by simpa using hg
   have g2:decide (bits BinOp.and IntKind.u8 (↑k) S=0)=false:=by simpa using hg
   clear hg hb;have HOW:=az hown;clear hown;go_wp2;go_quiet ((go_at_call 120;exact Gg (Tryz.ahp k (by omega) _)));clear g1 g2;go_wp2;go_roundw;case rel=>exact⟨k+1,by omega,by go_num,hF1.drewN _,by rw[acD HB.out];exact HOW.out⟩
   case measure=>simp[intOf];omega
  have hk':k=m:=by omega
  subst hk';go_wp2;go_ret;exact⟨⟨_,rfl,by rw[HS.out,HM.out];exact ownsRow_base hown (by omega)⟩,hF.trans hF1⟩
end Go.Proofs
