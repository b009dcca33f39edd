import Derived.Lib.Hide
import Derived.Test.YtjilljfmaknihaaGreatA12
set_option linter.all false
set_option maxHeartbeats 8000000
namespace Go
def az:=@Go.Lib.hid
def Za:=@Go.World.cell?_alloc_new
end Go
namespace Go.Proofs
open Go.RowKit
structure Fin(w w':ay):Prop where
 below:Below w.heap.size w w'
 fD:Ev.dU w->Ev.dU w'
def Fin.refl(w):Fin w w:=⟨.refl _ _,id⟩
def Fin.trans{a b c}(h:Fin a b)(h':Fin b c):Fin a c:=⟨h.below.trans (h'.below.mono h.below.size),fun hn=>h'.fD (h.fD hn)⟩
def Fin.alloc{a w}(h:Fin a w)(c)(e):Fin a (w.alloc (.cells c e)):=⟨h.below.alloc h.below.size _,fun hn=>(h.fD hn).push rfl rfl⟩
def Fin.drewN{a w}(h:Fin a w)(n):Fin a (w.drewN n):=⟨h.below.trans ⟨rfl,rfl,rfl,aA _,fun _ _=>rfl⟩,fun hn=>(h.fD hn).same rfl⟩
def H7(w)(a)(u)(hn:Ev.dU w):Ev.dU (w.setCell a u):=fun x o hx=>by
 simp only[World.setCell,PI] at hx;split at hx
 .cases hw:w.heap[x]? with
  |none=>rw[hw] at hx;cases hx
  |some o0=>rw[hw] at hx;simp only[Option.map_some,kG] at hx;have:=hn x o0 hw;subst hx;cases o0<;>first|rfl|(cases this)
 exact hn x o hx
def Fin.setCell{a w}(h:Fin a w){p}(hp:a.heap.size<=p.block)(u):Fin a (w.setCell p u):=⟨h.below.setCell hp u,fun hn=>H7 _ _ _ (h.fD hn)⟩
def bD{W w1}(hb:Fin W w1):(∀b o,b<W.heap.size->w1.cell? ⟨b,o,none⟩=W.cell? ⟨b,o,none⟩)/\(∀b o,b<W.heap.size->w1.frozen? ⟨b,o,none⟩=W.frozen? ⟨b,o,none⟩):=⟨fun b o h=>hb.below.cell h,fun b o h=>hb.below.frozen h⟩
def hit(b:Bool)(n:Int):Int:=if b then 0 else n
def Tryz.adW(b)(n)(w):Calls Tryz.prog 141 #[.bool b,.int .i64 n] w fun e w'=>e=.returned (.int .i64 (hit b n))/\w'=w:=by
 go_enter Tryz.func141,Tryz.ntmps141;cases b;all_goals go_wp2
 all_goals go_ret
 all_goals exact⟨rfl,rfl⟩
def jW(n a b:Int):Bool:=decide (a<=n)&&decide (n<=b)
def LJ(W H F:Int):Bool:=jW W 2 7&&jW H 2 7&&jW F 0 2
def ui(l m a b:Int):Bool:=decide (a<=l)&&decide (l<=m)&&decide (m<=b)
def yc(l m a b k:Int):Bool:=ui l m a b&&decide (m-l<k)
def oz{a b}(h:a=b):Ending.returned (.bool a)=.returned (.bool b):=by rw[h]
def dZ{k a b}(h:a=b):Ending.returned (.int k a)=.returned (.int k b):=by rw[h]
def Tryz.within'(n a b)(w):Calls Tryz.prog 76 #[.int .i64 n,.int .i64 a,.int .i64 b] w fun e w'=>e=.returned (.bool (jW n a b))/\w'=w:=Tryz.within n a b w
def Tryz.Z8(l m a b)(w):Calls Tryz.prog 93 #[.agg #[.int .i64 l,.int .i64 m],.int .i64 a,.int .i64 b] w fun e w'=>e=.returned (.bool (ui l m a b))/\w'=w.alloc (.cells #[.int .i64 l,.int .i64 m] 43):=by
 go_enter Tryz.func93,Tryz.ntmps93;go_wp2;all_goals go_ret
 all_goals refine⟨oz ?_,rfl⟩
 all_goals unfold ui
 all_goals simp_all
 all_goals omega
def Tryz.adK(l m a b k)(ha:-1000<=a)(hb:b<=1000)(w):Calls Tryz.prog 142 #[.agg #[.int .i64 l,.int .i64 m],.int .i64 a,.int .i64 b,.int .i64 k] w fun e w'=>e=.returned (.bool (yc l m a b k))/\Fin w w':=by
 by_cases h:ui l m a b=true
 .have hr:=fun w=>Tryz.Z8 l m a b w;rw[h] at hr;have h2:a<=l/\l<=m/\m<=b:=by unfold ui at h;simpa[and_assoc] using h
  have⟨h3,h4,h5⟩:=h2;have HH:Hid (ui l m a b=true):=h;clear h;go_enter Tryz.func142,Tryz.ntmps142;go_wp2_with (go_at_call 93;refine(hr _).mono ?_;rintro e w' ⟨rfl,rfl⟩);go_ret;exact⟨oz (by unfold yc;rw[HH.out];rfl),((Fin.refl _).alloc _ _).alloc _ _⟩
 have hr:=fun w=>Tryz.Z8 l m a b w;rw[Gt] at h;rw[h] at hr;have HH:Hid (ui l m a b=false):=h;clear h;go_enter Tryz.func142,Tryz.ntmps142;go_wp2_with (go_at_call 93;refine(hr _).mono ?_;rintro e w' ⟨rfl,rfl⟩);go_ret;exact⟨oz (by unfold yc;rw[HH.out];rfl),((Fin.refl _).alloc _ _).alloc _ _⟩
def Tryz.checkSize(W H F)(c s)(w)(hc:c.oneCell'=true)(hs:s.oneCell'=true):Calls Tryz.prog 114 #[.agg #[.int .i64 W,.int .i64 H,.int .i64 F,c,s]] w fun e w'=>e=.returned (.int .i64 (hit (LJ W H F) 1))/\Fin w w':=by
 go_enter Tryz.func114,Tryz.ntmps114;go_wp2_with (first|(go_at_call 76;refine(Tryz.within' _ _ _ _).mono ?_;rintro e w' ⟨rfl,rfl⟩)|(go_at_call 141;refine(Tryz.adW _ _ _).mono ?_;rintro e w' ⟨rfl,rfl⟩))
 all_goals go_ret
 all_goals exact⟨dZ (by unfold LJ;simp_all),(Fin.refl _).alloc _ _⟩
def Tryz.aiY(W H F)(ac as_)(nc kc ns ks)(w)(hn:nc<=9223372036854775807):Calls Tryz.prog 115 #[.agg #[.int .i64 W,.int .i64 H,.int .i64 F,.slice ac nc kc,.slice as_ ns ks]] w fun e w'=>e=.returned (.int .i64 (hit (jW nc 1 3) 2))/\Fin w w':=by
 go_enter Tryz.func115,Tryz.ntmps115;go_wp2_with (first|(go_at_call 76;refine(Tryz.within' _ _ _ _).mono ?_;rintro e w' ⟨rfl,rfl⟩)|(go_at_call 141;refine(Tryz.adW _ _ _).mono ?_;rintro e w' ⟨rfl,rfl⟩))
 all_goals go_ret
 all_goals exact⟨rfl,(Fin.refl _).alloc _ _⟩
def Tryz.aiX(W H F)(ac as_)(nc kc ns ks:Nat)(w:ay)(hn:ns<=9223372036854775807):Calls Tryz.prog 117 #[.agg #[.int .i64 W,.int .i64 H,.int .i64 F,.slice ac nc kc,.slice as_ ns ks]] w fun e w'=>e=.returned (.int .i64 (hit (decide ((ns:Int)<=5)) 2))/\Fin w w':=by
 go_enter Tryz.func117,Tryz.ntmps117;go_wp2_with (go_at_call 141;refine(Tryz.adW _ _ _).mono ?_;rintro e w' ⟨rfl,rfl⟩);all_goals go_ret
 all_goals exact⟨rfl,(Fin.refl _).alloc _ _⟩
def Pz{α:Type}{p}{l:List α}{k:Nat}(h:k<l.length)(hx:p l[k]=false):l.all p=false:=by rw[UJ];exact⟨l[k],xJ h,by simp[hx]⟩
def U7(r:Int×Int):Bool:=yc r.1 r.2 (-3) 3 3
def AtC(w:ay)(a:aB Addr)(i:Nat)(r:Int×Int):Prop:=∃b o,a=some ⟨b,o,none⟩/\b<w.heap.size/\w.cell? ⟨b,o+i*2,none⟩=some (.int .i64 r.1)/\w.cell? ⟨b,o+i*2+1,none⟩=some (.int .i64 r.2)
def Lp(w:ay)(a:aB Addr)(cs:List (Int×Int)):Prop:=∀i (h:i<cs.length),AtC w a i cs[i]
def Lp.fin{w w' a cs}(h:Lp w a cs)(hF:Fin w w'):Lp w' a cs:=fun i hi=>by have⟨b,o,h1,h2,h3,h4⟩:=h i hi;exact⟨b,o,h1,bT h2 hF.below.size,((bD hF).1 _ _ h2).trans h3,((bD hF).1 _ _ h2).trans h4⟩
structure IZ where
 e:Int
 n:Int
 b:Int
 c:Int
 s:Bool
def AtW(w:ay)(a:aB Addr)(i:Nat)(x:IZ):Prop:=∃b o,a=some ⟨b,o,none⟩/\b<w.heap.size/\w.cell? ⟨b,o+i*5,none⟩=some (.int .i64 x.e)/\w.cell? ⟨b,o+i*5+1,none⟩=some (.int .i64 x.n)/\w.cell? ⟨b,o+i*5+2,none⟩=some (.int .i64 x.b)/\w.cell? ⟨b,o+i*5+3,none⟩=some (.int .i64 x.c)/\w.cell? ⟨b,o+i*5+4,none⟩=some (.bool x.s)
def LM(w:ay)(a:aB Addr)(ws:List IZ):Prop:=∀i (h:i<ws.length),AtW w a i ws[i]
def LM.fin{w w' a ws}(h:LM w a ws)(hF:Fin w w'):LM w' a ws:=fun i hi=>by have⟨b,o,h1,h2,h3,h4,h5,h6,h7⟩:=h i hi;exact⟨b,o,h1,bT h2 hF.below.size,((bD hF).1 _ _ h2).trans h3,((bD hF).1 _ _ h2).trans h4,((bD hF).1 _ _ h2).trans h5,((bD hF).1 _ _ h2).trans h6,((bD hF).1 _ _ h2).trans h7⟩
def AtI(w:ay)(a:aB Addr)(i:Nat)(x:Int):Prop:=∃b o,a=some ⟨b,o,none⟩/\b<w.heap.size/\w.cell? ⟨b,o+i,none⟩=some (.int .i64 x)
def ED(w:ay)(a:aB Addr)(l:List Int):Prop:=∀i (h:i<l.length),AtI w a i l[i]
def ED.fin{w w' a l}(h:ED w a l)(hF:Fin w w'):ED w' a l:=fun i hi=>by have⟨b,o,h1,h2,h3⟩:=h i hi;exact⟨b,o,h1,bT h2 hF.below.size,((bD hF).1 _ _ h2).trans h3⟩
def W9{w w1:ay}{v0 v1 v2 v3 v4 t}(h:w.alloc (.cells #[v0,v1,v2,v3,v4] t)=w1):w1.cell? ⟨w.heap.size,0,none⟩=some v0/\w1.cell? ⟨w.heap.size,1,none⟩=some v1/\w1.cell? ⟨w.heap.size,2,none⟩=some v2/\w1.cell? ⟨w.heap.size,3,none⟩=some v3/\w1.cell? ⟨w.heap.size,4,none⟩=some v4/\w1.heap.size=w.heap.size+1:=by subst h;refine⟨?_,?_,?_,?_,?_,by simp⟩<;>rw[Za]<;>rfl
def Tryz.ai3(W H F)(ac as_)(kc)(cs)(ns ks:Nat)(w:ay)(hm:cs.length<=9223372036854775807)(hc:Lp w ac cs):Calls Tryz.prog 116 #[.agg #[.int .i64 W,.int .i64 H,.int .i64 F,.slice ac cs.length kc,.slice as_ ns ks]] w fun e w'=>e=.returned (.int .i64 (hit (cs.all U7) 1))/\Fin w w':=by
 have HC:=az hc;clear hc;go_enter Tryz.func116,Tryz.ntmps116;go_wp2;have hF:Fin w (w.alloc (.cells #[.int .i64 W,.int .i64 H,.int .i64 F,.slice ac cs.length kc,.slice as_ ns ks] 78)):=(Fin.refl _).alloc _ _;generalize w.alloc (.cells #[.int .i64 W,.int .i64 H,.int .i64 F,.slice ac cs.length kc,.slice as_ ns ks] 78)=w1 at hF⊢;go_loopw [9] (fun i wr=>∃k:Nat,k<=cs.length/\i=.int .i64 k/\Fin w wr/\(cs.take k).all U7=true) (fun i _=>cs.length-(intOf i).toNat);case atStart=>exact⟨0,gy _,rfl,hF,rfl⟩
 case round=>
  obtain⟨k,hk,rfl,hF1,hp⟩:=hrel;by_cases hlt:k<cs.length
  .obtain⟨b,o,rfl,hb,e1,e2⟩:=HC.out.fin hF1 k hlt;have HP:=az hp;have HS:=az (Gj hlt);clear hp
   go_wp2_with (go_at_call 142;refine(Tryz.adK _ _ _ _ _ (by decide) (by decide) _).mono ?_;rintro e w' ⟨rfl,hF2⟩)
   .have hx:(!U7 cs[k])=true:=by assumption
    go_ret;exact⟨dZ (by rw[Pz hlt (by simpa using hx)];rfl),hF1.trans (((Fin.refl _).alloc _ _).trans hF2)⟩
   have hx:(!U7 cs[k])=false:=by assumption
   go_roundw;case rel=>exact⟨k+1,by omega,by go_num,hF1.trans (((Fin.refl _).alloc _ _).trans hF2),by rw[HS.out,Gx,HP.out];simpa using hx⟩
   case measure=>simp[intOf];omega
  have hk':k=cs.length:=by omega
  subst hk';rw[Bz] at hp;have HP:=az hp;clear hp;go_wp2;go_ret;exact⟨dZ (by rw[HP.out];rfl),hF1⟩
def jq(e n:Int):Bool:=jW e (-20) 20&&jW n (-20) 20
def ug(nc:Nat)(x:IZ):Int:=if jq x.e x.n&&jW x.b 0 7 then(if jW x.c 0 ((nc:Int)-1) then 0 else 6) else 1
def jr{α:Type}(f:α->Int):List α->Int
|[]=>0
|x::l=>if f x=0 then jr f l else f x
def pW{α:Type}{f:α->Int}:∀{l:List α} {k:Nat} (h:k<l.length),jr f (l.take k)=0->f l[k]≠0->jr f l=f l[k]
|x::l,0,_,_,hx=>by simp only[jr,List.getElem_cons_zero] at *;rw[aU hx]
|x::l,k+1,h,h0,hx=>by
 simp only[List.take_succ_cons,jr] at h0⊢;simp only[List.getElem_cons_succ] at hx⊢;by_cases hf:f x=0
 .rw[aY hf] at h0⊢;exact pW (by simpa using h) h0 hx
 rw[aU hf] at h0;exact absurd h0 hf
def mY{α:Type}{f:α->Int}:∀{l:List α} {x:α},jr f l=0->f x=0->jr f (l++[x])=0
|[],x,_,hx=>by simp[jr,hx]
|y::l,x,h,hx=>by
 simp only[jr,List.cons_append] at h⊢;by_cases hf:f y=0
 .rw[aY hf] at h⊢;exact mY h hx
 rw[aU hf] at h;exact absurd h hf
def Tryz.aie(e n)(w):Calls Tryz.prog 39 #[.agg #[.int .i64 e,.int .i64 n]] w fun x w'=>x=.returned (.bool (jq e n))/\Fin w w':=(Tryz.place e n w).mono fun _ _ ⟨h1,h2⟩=>⟨h1,h2▸(Fin.refl _).alloc _ _⟩
def Tryz.alH(W H F i)(ac as_)(nc kc ns ks)(w)(hn:nc<=9223372036854775807):Calls Tryz.prog 58 #[.agg #[.int .i64 W,.int .i64 H,.int .i64 F,.slice ac nc kc,.slice as_ ns ks],.int .i64 i] w fun e w'=>e=.returned (.bool (jW i 0 ((nc)-1)))/\Fin w w':=by go_enter Tryz.func58,Tryz.ntmps58;go_wp2_with (go_at_call 76;refine(Tryz.within' _ _ _ _).mono ?_;rintro e w' ⟨rfl,rfl⟩);go_ret;exact⟨rfl,(Fin.refl _).alloc _ _⟩
def Tryz.ai2(W H F)(ac aw)(ks)(ws)(nc kc)(w)(hm:ws.length<=9223372036854775807)(hn:nc<=9223372036854775807)(hc:LM w aw ws):Calls Tryz.prog 118 #[.agg #[.int .i64 W,.int .i64 H,.int .i64 F,.slice ac nc kc,.slice aw ws.length ks]] w fun e w'=>e=.returned (.int .i64 (jr (ug nc) ws))/\Fin w w':=by
 have HC:=az hc;clear hc;go_enter Tryz.func118,Tryz.ntmps118;go_wp2;obtain⟨w1,hw1⟩:∃w1,w.alloc (.cells #[.int .i64 W,.int .i64 H,.int .i64 F,.slice ac nc kc,.slice aw ws.length ks] 78)=w1:=⟨_,rfl⟩;have hF:=hw1▸(Fin.refl _).alloc _ _;have⟨x0,x1,x2,x3,x4,hz1⟩:=W9 hw1;rw[hw1];clear hw1;go_loopw [9] (fun i wr=>∃k,k<=ws.length/\i=.int .i64 k/\Fin w1 wr/\jr (ug nc) (ws.take k)=0) (fun i _=>ws.length-(intOf i).toNat);case atStart=>exact⟨0,gy _,rfl,Fin.refl _,rfl⟩
 case round=>
  obtain⟨k,hk,rfl,hF1,hp⟩:=hrel;have hz0:w.heap.size<w1.heap.size:=by omega
  have y0:=((bD hF1).1 _ 0 hz0).trans x0;have y1:=((bD hF1).1 _ 1 hz0).trans x1;have y2:=((bD hF1).1 _ 2 hz0).trans x2;have y3:=((bD hF1).1 _ 3 hz0).trans x3;have y4:=((bD hF1).1 _ 4 hz0).trans x4;by_cases hlt:k<ws.length
  .obtain⟨b,o,rfl,hb,e0,e1,e2,e3,e4⟩:=HC.out.fin (hF.trans hF1) k hlt;have HP:=az hp;have hsz:=hF1.below.size;have hz2:w.heap.size<wr.heap.size:=by omega
   have hz3:w.heap.size<wr.heap.size+1:=by omega
   have HS:=az (Gj hlt);clear hp x0 x1 x2 x3 x4;generalize hx:ws[k]=x at e0 e1 e2 e3 e4 HS;have⟨xe,xn,xb,xc,xs⟩:=x;have HX:=az hx;clear hx;dsimp only at e0 e1 e2 e3 e4;go_wp2_with (first|(go_at_call 39;refine(Tryz.aie _ _ _).mono ?_;rintro e w' ⟨rfl,hF2⟩;have⟨d1,d2⟩:=bD hF2)|(go_at_call 76;refine(Tryz.within' _ _ _ _).mono ?_;rintro e w' ⟨rfl,rfl⟩)|(go_at_call 58;refine(Tryz.alH _ _ _ _ _ _ _ _ _ _ _ hn).mono ?_;rintro e w3 ⟨rfl,hF3⟩))
   .have p1:jq xe xn=true:=by assumption
    have p2:(!jW xb 0 7)=true:=by assumption
    have hv:ug nc ⟨xe,xn,xb,xc,xs⟩=1:=by unfold ug;simp[p1];intro h;simp[h] at p2
    go_ret;exact⟨dZ (by rw[pW hlt HP.out (by rw[HX.out,hv];decide),HX.out,hv]),(hF.trans hF1).trans (((Fin.refl _).alloc _ _).trans hF2)⟩
   .have p1:jq xe xn=true:=by assumption
    have p2:(!jW xb 0 7)=false:=by assumption
    have p3:(!jW xc 0 (↑nc-1))=true:=by assumption
    have hv:ug nc ⟨xe,xn,xb,xc,xs⟩=6:=by unfold ug;simp at p2 p3;simp[p1,p2,p3]
    go_ret;exact⟨dZ (by rw[pW hlt HP.out (by rw[HX.out,hv];decide),HX.out,hv]),((hF.trans hF1).trans (((Fin.refl _).alloc _ _).trans hF2)).trans hF3⟩
   .have p1:jq xe xn=true:=by assumption
    have p2:(!jW xb 0 7)=false:=by assumption
    have p3:(!jW xc 0 (↑nc-1))=false:=by assumption
    have hv:ug nc ⟨xe,xn,xb,xc,xs⟩=0:=by unfold ug;simp at p2 p3;simp[p1,p2,p3]
    go_roundw;case rel=>exact⟨k+1,by omega,by go_num,(hF1.trans (((Fin.refl _).alloc _ _).trans hF2)).trans hF3,by rw[HS.out];exact mY HP.out hv⟩
    case measure=>simp[intOf];omega
   have p1:¬jq xe xn=true:=by assumption
   have hv:ug nc ⟨xe,xn,xb,xc,xs⟩=1:=by unfold ug;simp[p1]
   go_ret;exact⟨dZ (by rw[pW hlt HP.out (by rw[HX.out,hv];decide),HX.out,hv]),(hF.trans hF1).trans (((Fin.refl _).alloc _ _).trans hF2)⟩
  have hk':k=ws.length:=by omega
  subst hk';rw[Bz] at hp;have HP:=az hp;clear hp;go_wp2;go_ret;exact⟨dZ HP.out.symm,hF.trans hF1⟩
def Tryz.oG(n a b)(w):Calls Tryz.prog 24 #[.int .i64 n,.int .i64 a,.int .i64 b] w fun e w'=>e=.returned (.bool (jW n a b))/\w'=w:=by
 go_enter Tryz.func24,Tryz.ntmps24;go_wp2;all_goals go_ret
 all_goals exact⟨oz (by unfold jW;simp_all;try omega),rfl⟩
def Tryz.ahr(e n)(w):Calls Tryz.prog 41 #[.agg #[.int .i64 e,.int .i64 n]] w fun x w'=>x=.returned (.bool (jq e n))/\Fin w w':=by
 go_enter Tryz.func41,Tryz.ntmps41;go_wp2_with (go_at_call 24;refine(Tryz.oG _ _ _ _).mono ?_;rintro e w' ⟨rfl,rfl⟩);all_goals go_ret
 all_goals exact⟨oz (by unfold jq;simp_all),(Fin.refl _).alloc _ _⟩
def Tryz.ZL(l m a b)(w):Calls Tryz.prog 50 #[.agg #[.int .i64 l,.int .i64 m],.int .i64 a,.int .i64 b] w fun e w'=>e=.returned (.bool (ui l m a b))/\Fin w w':=by
 go_enter Tryz.func50,Tryz.ntmps50;go_wp2;all_goals go_ret
 all_goals refine⟨oz ?_,(Fin.refl _).alloc _ _⟩
 all_goals unfold ui
 all_goals simp_all
 all_goals omega
def Tryz.alj(W H F i)(ac aw)(nc kc ns ks)(w)(hn:nc<=9223372036854775807):Calls Tryz.prog 51 #[.agg #[.int .i64 W,.int .i64 H,.int .i64 F,.slice ac nc kc,.slice aw ns ks],.int .i64 i] w fun e w'=>e=.returned (.bool (jW i 0 ((nc)-1)))/\Fin w w':=by go_enter Tryz.func51,Tryz.ntmps51;go_wp2_with (go_at_call 24;refine(Tryz.oG _ _ _ _).mono ?_;rintro e w' ⟨rfl,rfl⟩);go_ret;exact⟨rfl,(Fin.refl _).alloc _ _⟩
def chk(W H F:Int)(cs:List (Int×Int))(ws:List IZ):Int:=if LJ W H F then(if jW cs.length 1 3 then(if cs.all U7 then(if (ws.length:Int)<=5 then jr (ug cs.length) ws else 2) else 1) else 2) else 1
def Tryz.Tm(W H F)(ac aw)(kc ks)(cs)(ws)(w)(hm:cs.length<=9223372036854775807)(hn:ws.length<=9223372036854775807)(hc:Lp w ac cs)(hw:LM w aw ws):Calls Tryz.prog 13 #[.agg #[.int .i64 W,.int .i64 H,.int .i64 F,.slice ac cs.length kc,.slice aw ws.length ks]] w fun e w'=>e=.returned (.int .i64 (chk W H F cs ws))/\Fin w w':=by
 have HC:=az hc;have HW:=az hw;clear hc hw;go_enter Tryz.func13,Tryz.ntmps13;go_wp2_with (go_at_call 24;refine(Tryz.oG _ _ _ _).mono ?_;rintro e w' ⟨rfl,rfl⟩)
 .have p1:jW W 2 7=true:=by assumption
  have p2:jW H 2 7=true:=by assumption
  have p3:(!jW F 0 2)=true:=by assumption
  go_ret;exact⟨dZ (by unfold chk LJ;simp at p3;simp[p1,p2,p3]),(Fin.refl _).alloc _ _⟩
 .have p1:jW W 2 7=true:=by assumption
  have p2:jW H 2 7=true:=by assumption
  have p3:(!jW F 0 2)=false:=by assumption
  have p4:(!jW (↑cs.length) 1 3)=true:=by assumption
  go_ret;exact⟨dZ (by unfold chk LJ;simp at p3 p4;simp[p1,p2,p3,p4]),(Fin.refl _).alloc _ _⟩
 .have q0:chk W H F cs ws=(if cs.all U7 then(if (ws.length:Int)<=5 then jr (ug cs.length) ws else 2) else 1):=by
   have p1:jW W 2 7=true:=by assumption
   have p2:jW H 2 7=true:=by assumption
   have p3:(!jW F 0 2)=false:=by assumption
   have p4:(!jW (↑cs.length) 1 3)=false:=by assumption
   unfold chk LJ;simp at p3 p4;simp[p1,p2,p3,p4]
  have HQ:=az q0;clear q0;obtain⟨w1,hw1⟩:∃w1,w.alloc (.cells #[.int .i64 W,.int .i64 H,.int .i64 F,.slice ac cs.length kc,.slice aw ws.length ks] 25)=w1:=⟨_,rfl⟩;have hF:=hw1▸(Fin.refl _).alloc _ _;have⟨x0,x1,x2,x3,x4,hz1⟩:=W9 hw1;rw[hw1];clear hw1;have p4:(!jW (↑cs.length) 1 3)=false:=by assumption
  rw[p4];clear p4;go_loopw [3] (fun i wr=>∃k,k<=cs.length/\i=.int .i64 k/\Fin w1 wr/\(cs.take k).all U7=true) (fun i _=>cs.length-(intOf i).toNat);case atStart=>exact⟨0,gy _,rfl,Fin.refl _,rfl⟩
  case round=>
   obtain⟨k,hk,rfl,hF1,hp⟩:=hrel;have hz0:w.heap.size<w1.heap.size:=by omega
   have y0:=((bD hF1).1 _ 0 hz0).trans x0;have y1:=((bD hF1).1 _ 1 hz0).trans x1;have y2:=((bD hF1).1 _ 2 hz0).trans x2;have y3:=((bD hF1).1 _ 3 hz0).trans x3;have y4:=((bD hF1).1 _ 4 hz0).trans x4;have hsz:=hF1.below.size;have hz2:w.heap.size<wr.heap.size:=by omega
   have hz3:w.heap.size<wr.heap.size+1:=by omega
   by_cases hlt:k<cs.length
   .obtain⟨b,o,rfl,hb,e0,e1⟩:=HC.out.fin (hF.trans hF1) k hlt;have HP:=az hp;have HS:=az (Gj hlt);clear hp x0 x1 x2 x3 x4;generalize hx:cs[k]=x at e0 e1 HS;have⟨xl,xm⟩:=x;have HX:=az hx;clear hx;dsimp only at e0 e1;by_cases hr:ui xl xm (-3) 3=true
    .have hr':=fun w=>Tryz.ZL xl xm (-3) 3 w;rw[hr] at hr';have h2:-3<=xl/\xl<=xm/\xm<=3:=by unfold ui at hr;simpa[and_assoc] using hr
     have⟨h3,h4,h5⟩:=h2;have HR:=az hr;clear hr;go_wp2_with (go_at_call 50;refine(hr' _).mono ?_;rintro e w' ⟨rfl,hF2⟩;have⟨d1,d2⟩:=bD hF2)
     .have p5:3<=xm-xl:=by assumption
      have hv:U7 (xl,xm)=false:=by unfold U7 yc;simp;intro _;omega
      go_ret;exact⟨dZ (by rw[HQ.out,Pz hlt (by rw[HX.out];exact hv)];rfl),(hF.trans hF1).trans (((Fin.refl _).alloc _ _).trans hF2)⟩
     have p5:xm-xl<3:=by assumption
     have hv:U7 (xl,xm)=true:=by unfold U7 yc;simp[HR.out];exact p5
     go_roundw;case rel=>exact⟨k+1,by omega,by go_num,hF1.trans (((Fin.refl _).alloc _ _).trans hF2),by rw[HS.out,Gx,HP.out];simpa using hv⟩
     case measure=>simp[intOf];omega
    rw[Gt] at hr;have hr':=fun w=>Tryz.ZL xl xm (-3) 3 w;rw[hr] at hr';have hv:U7 (xl,xm)=false:=by unfold U7 yc;simp[hr]
    have HV:=az hv;clear hr hv;go_wp2_with (go_at_call 50;refine(hr' _).mono ?_;rintro e w' ⟨rfl,hF2⟩;have⟨d1,d2⟩:=bD hF2);go_ret;exact⟨dZ (by rw[HQ.out,Pz hlt (by rw[HX.out];exact HV.out)];rfl),(hF.trans hF1).trans (((Fin.refl _).alloc _ _).trans hF2)⟩
   have hk':k=cs.length:=by omega
   subst hk';rw[Bz] at hp;have hq2:=HQ.out;rw[hp,aY rfl] at hq2;have HQ2:=az hq2;clear hp hq2 HQ;go_wp2
   .have p5:5<(ws.length:Int):=by assumption
    go_ret;exact⟨dZ (by rw[HQ2.out,aU (by omega)]),hF.trans hF1⟩
   have p5:(ws.length:Int)<=5:=by assumption
   have hq3:=HQ2.out;rw[aY p5] at hq3;have HQ3:=az hq3;clear hq3 HQ2 y0 y1 y2 y3 y4 hsz hz2 hz3;go_loopw [5] (fun i wr=>∃k,k<=ws.length/\i=.int .i64 k/\Fin w1 wr/\jr (ug cs.length) (ws.take k)=0) (fun i _=>ws.length-(intOf i).toNat);case atStart=>exact⟨0,gy _,rfl,hF1,rfl⟩
   case round=>
    clear hF1;obtain⟨k,hk,rfl,hF1,hp⟩:=hrel;have y0:=((bD hF1).1 _ 0 hz0).trans x0;have y1:=((bD hF1).1 _ 1 hz0).trans x1;have y2:=((bD hF1).1 _ 2 hz0).trans x2;have y3:=((bD hF1).1 _ 3 hz0).trans x3;have y4:=((bD hF1).1 _ 4 hz0).trans x4;have hsz:=hF1.below.size;have hz2:w.heap.size<wr.heap.size:=by omega
    have hz3:w.heap.size<wr.heap.size+1:=by omega
    by_cases hlt:k<ws.length
    .obtain⟨b,o,rfl,hb,e0,e1,e2,e3,e4⟩:=HW.out.fin (hF.trans hF1) k hlt;have HP:=az hp;have HS:=az (Gj hlt);clear hp x0 x1 x2 x3 x4;generalize hx:ws[k]=x at e0 e1 e2 e3 e4 HS;have⟨xe,xn,xb,xc,xs⟩:=x;have HX:=az hx;clear hx;dsimp only at e0 e1 e2 e3 e4
     go_wp2_with (first|(go_at_call 41;refine(Tryz.ahr _ _ _).mono ?_;rintro e w' ⟨rfl,hF2⟩;have⟨d1,d2⟩:=bD hF2)|(go_at_call 24;refine(Tryz.oG _ _ _ _).mono ?_;rintro e w' ⟨rfl,rfl⟩)|(go_at_call 51;refine(Tryz.alj _ _ _ _ _ _ _ _ _ _ _ hm).mono ?_;rintro e w3 ⟨rfl,hF3⟩))
     .have p1:jq xe xn=true:=by assumption
      have p2:(!jW xb 0 7)=true:=by assumption
      have hv:ug cs.length ⟨xe,xn,xb,xc,xs⟩=1:=by unfold ug;simp[p1];intro h;simp[h] at p2
      go_ret;exact⟨dZ (by rw[HQ3.out,pW hlt HP.out (by rw[HX.out,hv];decide),HX.out,hv]),(hF.trans hF1).trans (((Fin.refl _).alloc _ _).trans hF2)⟩
     .have p1:jq xe xn=true:=by assumption
      have p2:(!jW xb 0 7)=false:=by assumption
      have p3:(!jW xc 0 (↑cs.length-1))=true:=by assumption
      have hv:ug cs.length ⟨xe,xn,xb,xc,xs⟩=6:=by unfold ug;simp at p2 p3;simp[p1,p2,p3]
      go_ret;exact⟨dZ (by rw[HQ3.out,pW hlt HP.out (by rw[HX.out,hv];decide),HX.out,hv]),((hF.trans hF1).trans (((Fin.refl _).alloc _ _).trans hF2)).trans hF3⟩
     .have p1:jq xe xn=true:=by assumption
      have p2:(!jW xb 0 7)=false:=by assumption
      have p3:(!jW xc 0 (↑cs.length-1))=false:=by assumption
      have hv:ug cs.length ⟨xe,xn,xb,xc,xs⟩=0:=by unfold ug;simp at p2 p3;simp[p1,p2,p3]
      go_roundw;case rel=>exact⟨k+1,by omega,by go_num,(hF1.trans (((Fin.refl _).alloc _ _).trans hF2)).trans hF3,by rw[HS.out];exact mY HP.out hv⟩
      case measure=>simp[intOf];omega
     have p1:¬jq xe xn=true:=by assumption
     have hv:ug cs.length ⟨xe,xn,xb,xc,xs⟩=1:=by unfold ug;simp[p1]
     go_ret;exact⟨dZ (by rw[HQ3.out,pW hlt HP.out (by rw[HX.out,hv];decide),HX.out,hv]),(hF.trans hF1).trans (((Fin.refl _).alloc _ _).trans hF2)⟩
    have hk':k=ws.length:=by omega
    subst hk';rw[Bz] at hp;have HP:=az hp;clear hp;go_wp2;go_ret;exact⟨dZ (by rw[HQ3.out,HP.out]),hF.trans hF1⟩
 .have p1:jW W 2 7=true:=by assumption
  have p2:¬jW H 2 7=true:=by assumption
  go_ret;exact⟨dZ (by unfold chk LJ;simp[p1,p2]),(Fin.refl _).alloc _ _⟩
 have p1:¬jW W 2 7=true:=by assumption
 go_ret;exact⟨dZ (by unfold chk LJ;simp[p1]),(Fin.refl _).alloc _ _⟩
end Go.Proofs
namespace Go
open Go.Ev
section
variable{P:aH}
theorem dU.RH{w}(h:dU w)(c)(e):dU (w.drew.alloc (.cells c e)):=(h.same rfl).push rfl rfl
theorem dU.row{w}(h:dU w){g cur e fr}(hg:w.heap[g]?=some (.cells cur e fr))(cs):dU (w.setRow g cs):=fun x o hx=>by
 by_cases hxg:x=g
 .subst hxg;rw[aaA w x cur cs e fr hg] at hx;cases hx
  rfl
 rw[aaB w g x cs hxg] at hx;exact h x o hx
theorem Xe{w base t ty e i z size bytes}(ht:P.underlying t=some (.slice e))(hi:P.info? e=some i)(hz:i.zero=some z)
  (hsize:i.size=size) (hby:i.bytes=bytes) {v n xs} (hown:w.ownsRow base e size v n xs)
  {a:Addr} {m c:Nat} {news:List ae} (hl:news.length=m*size) (hnews:∀j u,news[j]?=some u->w.cell? (a.add j)=some u) (h1:∀u∈news,u.oneCell'=true) (hm:0<m)
  (h63:n+m<=maxLen) (hbytes:(n+m)*bytes<=140737488355328) {v':ae} {w':ay} (hr:(Builtin.append_ #[t,t] ty #[v,.slice (some a) m c]).run P w=.ok v' w') (hn:dU w):dU w':=by
 subst hsize;subst hby;have hs:n+m<=9223372036854775807:=by simp only[maxLen] at h63;omega
 rcases hown.2 with⟨rfl,rfl⟩|⟨g,cap,cur,rfl,hbg,hg,hnc,hcm,hcs,htake⟩
 .have hb:m*i.bytes<=140737488355328:=by simpa using hbytes
  rw[aeY (P:=P) w t ty e i z ht hi hz a m c news hl hnews hm (by omega) (by omega)] at hr;cases hr;exact dU.RH hn _ _
 by_cases hroom:n+m<=cap
 .have hfit:n*i.size+news.length<=cur.size:=by rw[hl,hcs,<-IK];exact Nat.mul_le_mul_right _ hroom
  rw[run_append_room (P:=P) w t ty e i ht hi g n cap cur hg a m c news hl hnews h1 hroom hfit] at hr;cases hr;exact dU.row hn hg _
 rw[aax (P:=P) w t ty e i z ht hi hz ⟨g,0,none⟩ n cap xs hown.1 (hown.cells (g:=g) rfl) a m c news hl hnews (by omega) (by omega) (aaw (by omega) hbytes)] at hr;cases hr;exact dU.RH hn _ _
theorem EZ{w ops rest o a Q}(hgd:o.guard=none)(s x)(t)
  (ho:o.op=.call {callee:=.builtin .append,args:=#[s,x],argTypes:=#[t,t]})
  (base) (e) (i) (z) (size bytes) (ht:P.underlying t=some (.slice e)) (hi:P.info? e=some i) (hz:i.zero=some z)
  (hsize:i.size=size) (hby:i.bytes=bytes) (hzs:z.cells.size=size) (hsz:0<size)
  (v) (n) (xs) (hs:a.eval s=v) (hown:w.ownsRow base e size v n xs)
  (ad) (m c) (news) (hx:a.eval x=.slice (some ad) m c) (hl:news.length=m*size) (hnews:∀j u,news[j]?=some u->w.cell? (ad.add j)=some u) (h1:∀u∈news,u.oneCell'=true) (hm:0<m)
  (h63:n+m<=maxLen) (hbytes:(n+m)*bytes<=140737488355328) (hbase:base<=w.heap.size)
  (h:∀v' w',w'.ownsRow base e size v' (n+m) (xs++news)->w.grownBy w' v.ownBlock->(dU w->dU w')->wpList P ops Q rest (a.put o.dst v') w'):wpList P ops Q (o::rest) a w:=
 wpList_plain hgd fun K hK=>by have⟨v',w',hr,h2,h3,_⟩:=run_append_own w base t o.type e i z size bytes ht hi hz hsize hby hzs hsz v n xs hown ad m c news hl hnews h1 h63 hbytes hbase;have ht':=Xe ht hi hz hsize hby hown hl hnews h1 hm h63 hbytes hr;unfold Oper.wp execOp;simp only[ho,resolve,invoke,builtin,yC,Sem.run_pure,Result.andThen_ok,tX,fU,iw,hs,hx,hr];exact hK _ _ (h v' w' h2 h3 ht')
end
end Go
