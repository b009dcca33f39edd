import Derived.Deep.RegionWith
import Derived.Test.YtjilljfmaknihaaGreatA19
set_option linter.all false
set_option maxHeartbeats 16000000
set_option maxRecDepth 100000
namespace Go
def lZ:=@Go.World.size_alloc
def JQ:=@Go.RowKit.ownsRow_setCell_below
def Bq:=@Go.bodyPost_ret
def JR:=@Go.Proofs.Tryz.results43
end Go
namespace Go.Proofs
open Go.RowKit
def Fin.drew{a w}(h:Fin a w):Fin a w.drew:=⟨h.below.drew,fun hn=>(h.fD hn).same rfl⟩
def EM{w:ay}{b e z n v xs}(h:w.ownsRow b e z v n xs):∃a m c,v=.slice a m c:=by
 rcases h.2 with⟨hv,_⟩|⟨g,cap,cur,rfl,_⟩
 .exact⟨_,_,_,hv⟩
 exact⟨_,_,_,rfl⟩
abbrev fv(f:Nat):ae:=.func (.func f) #[] #[]
def Tryz.ag1(w):Calls Tryz.prog 79 #[] w fun e w'=>e=.returned (.slice (some ⟨w.heap.size,0,none⟩) 5 5)/\Fin w w'/\w'.cell? ⟨w.heap.size,0,none⟩=some (fv 114)/\w'.cell? ⟨w.heap.size,1,none⟩=some (fv 115)/\w'.cell? ⟨w.heap.size,2,none⟩=some (fv 116)/\w'.cell? ⟨w.heap.size,3,none⟩=some (fv 117)/\w'.cell? ⟨w.heap.size,4,none⟩=some (fv 118)/\w'.heap.size=w.heap.size+1:=by go_enter Tryz.func79,Tryz.ntmps79;go_wp2;go_ret;have⟨a0,a1,a2,a3,a4,hz⟩:=W9 (rfl:w.alloc (.cells #[fv 114,fv 115,fv 116,fv 117,fv 118] 127)=_);exact⟨rfl,(Fin.refl _).alloc _ _,a0,a1,a2,a3,a4,hz⟩
def hk(W H F:Int)(cs:List (Int×Int))(ws:List IZ):Nat->Int
|0=>hit (LJ W H F) 1
|1=>hit (jW cs.length 1 3) 2
|2=>hit (cs.all U7) 1
|3=>hit (decide ((ws.length:Int)<=5)) 2
|_=>jr (ug cs.length) ws
def rH{b n}(hn:n≠0):hit b n=0↔b=true:=by cases b<;>simp[hit,hn]
def O8{W H F cs ws k}(hk5:k<5)(h:∀j<k,hk W H F cs ws j=0)(hn:hk W H F cs ws k≠0):chk W H F cs ws=hk W H F cs ws k:=by
 have e0:0<k->LJ W H F=true:=fun hh=>(rH (by decide)).1 (h 0 hh);have e1:1<k->jW cs.length 1 3=true:=fun hh=>(rH (by decide)).1 (h 1 hh);have e2:2<k->cs.all U7=true:=fun hh=>(rH (by decide)).1 (h 2 hh);have e3:3<k->(ws.length:Int)<=5:=fun hh=>BB ((rH (by decide)).1 (h 3 hh));unfold chk
 match k,hk5 with
 |0,_=>
  have:LJ W H F=false:=by rw[<-Gt];exact fun hh=>hn ((rH (by decide)).2 hh)
  simp[this,hk,hit]
 |1,_=>
  have:jW cs.length 1 3=false:=by rw[<-Gt];exact fun hh=>hn ((rH (by decide)).2 hh)
  simp[e0 (by decide),this,hk,hit]
 |2,_=>
  have:cs.all U7=false:=by rw[<-Gt];exact fun hh=>hn ((rH (by decide)).2 hh)
  simp only[e0 (by decide),e1 (by decide),this,hk,hit,je];rfl
 |3,_=>have:¬(ws.length:Int)<=5:=fun hh=>hn ((rH (by decide)).2 (rU hh));simp only[e0 (by decide),e1 (by decide),e2 (by decide),this,hk,hit,je,BF,decide_false];rfl
 |4,_=>simp only[e0 (by decide),e1 (by decide),e2 (by decide),e3 (by decide),hk,je]
def aey{W H F cs ws}(h:∀j<5,hk W H F cs ws j=0):chk W H F cs ws=0:=by have e0:=(rH (by decide)).1 (h 0 (by decide));have e1:=(rH (by decide)).1 (h 1 (by decide));have e2:=(rH (by decide)).1 (h 2 (by decide));have e3:=BB ((rH (by decide)).1 (h 3 (by decide)));have e4:jr (ug cs.length) ws=0:=h 4 (by decide);unfold chk;simp only[e0,e1,e2,e3,e4,je]
def yg{p:Nat->Prop}{k}(h:∀j<k,p j)(hk:p k):∀j<k+1,p j:=fun j hj=>by
 by_cases e:j=k
 .exact e▸hk
 exact h j (by omega)
def ahh(W H F:Int)(ac aw:aB Addr)(kc kw:Nat)(cs:List (Int×Int))(ws:List IZ)(w:ay)(e:Ending)(w':ay):Prop:=Fin w w'/\(chk W H F cs ws≠0->e=.returned (.tuple #[.agg #[.int .i64 0,.int .i64 0,.int .i64 0,.slice none 0 0,.slice none 0 0,.slice none 0 0],.int .i64 (chk W H F cs ws)]))/\(chk W H F cs ws=0->∃v,e=.returned (.tuple #[.agg #[.int .i64 W,.int .i64 H,.int .i64 F,.slice ac cs.length kc,.slice aw ws.length kw,v],.int .i64 0])/\w'.ownsRow w.heap.size 90 1 v (SI (grp (kU ws) ws.length) F (2 ^ ws.length)).length ((SI (grp (kU ws) ws.length) F (2 ^ ws.length)).map u8v))
structure Bx(w w1:ay)(v0 v1 v2 v3 v4:ae):Prop where
 fin:Fin w w1
 size:w.heap.size+3<=w1.heap.size
 z0:w1.cell? ⟨w.heap.size+1,0,none⟩=some (.int .i64 0)
 z1:w1.cell? ⟨w.heap.size+1,1,none⟩=some (.int .i64 0)
 z2:w1.cell? ⟨w.heap.size+1,2,none⟩=some (.int .i64 0)
 z3:w1.cell? ⟨w.heap.size+1,3,none⟩=some (.slice none 0 0)
 z4:w1.cell? ⟨w.heap.size+1,4,none⟩=some (.slice none 0 0)
 z5:w1.cell? ⟨w.heap.size+1,5,none⟩=some (.slice none 0 0)
 g:∀j,w1.frozen? ⟨w.heap.size+1,j,none⟩=false
 c0:w1.cell? ⟨w.heap.size+1+1,0,none⟩=some v0
 c1:w1.cell? ⟨w.heap.size+1+1,1,none⟩=some v1
 c2:w1.cell? ⟨w.heap.size+1+1,2,none⟩=some v2
 c3:w1.cell? ⟨w.heap.size+1+1,3,none⟩=some v3
 c4:w1.cell? ⟨w.heap.size+1+1,4,none⟩=some v4
def Bx.go{w w1 w2 v0 v1 v2 v3 v4}(h:Bx w w1 v0 v1 v2 v3 v4)(hF:Fin w1 w2):Bx w w2 v0 v1 v2 v3 v4:=by
 have e1:w.heap.size+1<w1.heap.size:=by have:=h.size;omega
 have e2:w.heap.size+1+1<w1.heap.size:=by have:=h.size;omega
 have d:=(bD hF).1;exact⟨h.fin.trans hF,bM h.size hF.below.size,(d _ _ e1).trans h.z0,(d _ _ e1).trans h.z1,(d _ _ e1).trans h.z2,(d _ _ e1).trans h.z3,(d _ _ e1).trans h.z4,(d _ _ e1).trans h.z5,fun j=>((bD hF).2 _ _ e1).trans (h.g j),(d _ _ e2).trans h.c0,(d _ _ e2).trans h.c1,(d _ _ e2).trans h.c2,(d _ _ e2).trans h.c3,(d _ _ e2).trans h.c4⟩
def Bx.mk'{w a0 a1 a2 a3 a4 v0 v1 v2 v3 v4 t s r}:Bx w (((w.alloc (.cells #[a0,a1,a2,a3,a4] t)).alloc (.cells #[.int .i64 0,.int .i64 0,.int .i64 0,.slice none 0 0,.slice none 0 0,.slice none 0 0] s)).alloc (.cells #[v0,v1,v2,v3,v4] r)) v0 v1 v2 v3 v4:=by
 obtain⟨w1,h1⟩:∃w1,w.alloc (.cells #[a0,a1,a2,a3,a4] t)=w1:=⟨_,rfl⟩;have e1:w1.heap.size=w.heap.size+1:=by subst h1;simp
 have f1:=h1▸(Fin.refl _).alloc _ _;rw[h1];obtain⟨w2,h2⟩:∃w2,w1.alloc (.cells #[.int .i64 0,.int .i64 0,.int .i64 0,.slice none 0 0,.slice none 0 0,.slice none 0 0] s)=w2:=⟨_,rfl⟩;have e2:w2.heap.size=w.heap.size+1+1:=by subst h2;simp[e1]
 have f2:=h2▸(Fin.refl _).alloc _ _;rw[h2];obtain⟨w3,h3⟩:∃w3,w2.alloc (.cells #[v0,v1,v2,v3,v4] r)=w3:=⟨_,rfl⟩;have f3:=h3▸(Fin.refl _).alloc _ _;rw[h3];have⟨c0,c1,c2,c3,c4,e3⟩:=W9 h3;have hlt:w.heap.size+1<w2.heap.size:=by omega
 have d:=(bD f3).1;have z:∀j,w2.cell? ⟨w.heap.size+1,j,none⟩=(#[.int .i64 0,.int .i64 0,.int .i64 0,.slice none 0 0,.slice none 0 0,.slice none 0 0]:Array ae)[j]?:=fun j=>by rw[<-h2,<-e1];exact Za _ _ _ _
 rw[e2] at c0 c1 c2 c3 c4;refine⟨(f1.trans f2).trans f3,by omega,(d _ _ hlt).trans (z 0),(d _ _ hlt).trans (z 1),(d _ _ hlt).trans (z 2),(d _ _ hlt).trans (z 3),(d _ _ hlt).trans (z 4),(d _ _ hlt).trans (z 5),fun j=>((bD f3).2 _ _ hlt).trans ?_,c0,c1,c2,c3,c4⟩;rw[<-h2,<-e1];simp
def Tryz.check(W H F)(ac aw)(kc kw)(cs)(ws)(w)(hm:cs.length<=9223372036854775807)(hn:ws.length<=9223372036854775807)(hc:Lp w ac cs)(hw:LM w aw ws):Calls Tryz.prog 43 #[.agg #[.int .i64 W,.int .i64 H,.int .i64 F,.slice ac cs.length kc,.slice aw ws.length kw]] w (ahh W H F ac aw kc kw cs ws w):=by
 have HC:=az hc;have HW:=az hw;clear hc hw;go_enter Tryz.func43,Tryz.ntmps43;go_wp2_with (go_at_call 79;refine(Tryz.ag1 _).mono ?_;rintro e w1 ⟨rfl,hF1,f0,f1,f2,f3,f4,hz1⟩);have hB:=Bx.mk'.go hF1;simp only[lZ] at f0 f1 f2 f3 f4 hz1;have hsz:w.heap.size+1+1+1<w1.heap.size:=by omega
 clear hF1 hz1;have HB:=az hB;clear hB;go_loopw [7,12] (fun _ i wr=>∃k:Nat,k<=5/\i=.int .i64 k/\Fin w1 wr/\∀j<k,hk W H F cs ws j=0) (fun _ i _=>5-(intOf i).toNat);case atStart=>exact⟨0,gy _,rfl,Fin.refl _,fun j hj=>absurd hj (by omega)⟩
 case round=>
  obtain⟨k,hk5,rfl,hF1,hp⟩:=hrel;have hB:=HB.out.go hF1;have y0:=((bD hF1).1 _ 0 hsz).trans f0;have y1:=((bD hF1).1 _ 1 hsz).trans f1;have y2:=((bD hF1).1 _ 2 hsz).trans f2;have y3:=((bD hF1).1 _ 3 hsz).trans f3;have y4:=((bD hF1).1 _ 4 hsz).trans f4;clear f0 f1 f2 f3 f4;have HBk:=az hB;have⟨hBf,hBs,z0,z1,z2,z3,z4,z5,zg,c0,c1,c2,c3,c4⟩:=hB;have g0:=zg 0;have g1:=zg 1;have g2:=zg 2;have g3:=zg 3;have g4:=zg 4;have g5:=zg 5;clear zg;have HP:=az hp;clear hp;rcases(show k=0\/k=1\/k=2\/k=3\/k=4\/k=5 by omega) with rfl|rfl|rfl|rfl|rfl|rfl
  .try simp only[Int.natCast_zero]
   go_wp2_with (go_at_call 114;refine(Tryz.checkSize _ _ _ _ _ _ rfl rfl).mono ?_;rintro e w2 ⟨rfl,hF2⟩;have⟨q1,q2,z0',z1',z2',z3',z4',z5',zg',c0',c1',c2',c3',c4'⟩:=HBk.out.go hF2;have g0':=zg' 0;have g1':=zg' 1;have g2':=zg' 2;have g3':=zg' 3;have g4':=zg' 4;have g5':=zg' 5;clear zg')
   .have p1:(hk W H F cs ws 0 !=0)=true:=by assumption
    have p2:hk W H F cs ws 0≠0:=by simpa using p1
    have hv:=O8 (by decide) HP.out p2;have HV:=az hv;have HN:=az p2;clear hv p2;exact Bq (v:=.tuple #[.agg #[.int .i64 0,.int .i64 0,.int .i64 0,.slice none 0 0,.slice none 0 0,.slice none 0 0],.int .i64 (hk W H F cs ws 0)]) (by simp[results,JR,go_sem,hk,z0',z1',z2',z3',z4',z5']) rfl ⟨((((((q1.setCell (by simp) _).setCell (by simp) _).setCell (by simp) _).setCell (by simp) _).setCell (by simp) _).setCell (by simp) _),fun _=>by rw[HV.out],fun h=>absurd h (by rw[HV.out];exact HN.out)⟩
   have p1:(hk W H F cs ws 0 !=0)=false:=by assumption
   have p2:hk W H F cs ws 0=0:=by simpa using p1
   go_roundw;case rel=>exact⟨0+1,by omega,by go_num,hF1.trans hF2,yg HP.out p2⟩
   case measure=>simp[intOf]
  .try simp only[Int.natCast_one]
   go_wp2_with (go_at_call 115;refine(Tryz.aiY _ _ _ _ _ _ _ _ _ _ hm).mono ?_;rintro e w2 ⟨rfl,hF2⟩;have⟨q1,q2,z0',z1',z2',z3',z4',z5',zg',c0',c1',c2',c3',c4'⟩:=HBk.out.go hF2;have g0':=zg' 0;have g1':=zg' 1;have g2':=zg' 2;have g3':=zg' 3;have g4':=zg' 4;have g5':=zg' 5;clear zg')
   .have p1:(hk W H F cs ws 1 !=0)=true:=by assumption
    have p2:hk W H F cs ws 1≠0:=by simpa using p1
    have hv:=O8 (by decide) HP.out p2;have HV:=az hv;have HN:=az p2;clear hv p2;exact Bq (v:=.tuple #[.agg #[.int .i64 0,.int .i64 0,.int .i64 0,.slice none 0 0,.slice none 0 0,.slice none 0 0],.int .i64 (hk W H F cs ws 1)]) (by simp[results,JR,go_sem,hk,z0',z1',z2',z3',z4',z5']) rfl ⟨((((((q1.setCell (by simp) _).setCell (by simp) _).setCell (by simp) _).setCell (by simp) _).setCell (by simp) _).setCell (by simp) _),fun _=>by rw[HV.out],fun h=>absurd h (by rw[HV.out];exact HN.out)⟩
   have p1:(hk W H F cs ws 1 !=0)=false:=by assumption
   have p2:hk W H F cs ws 1=0:=by simpa using p1
   go_roundw;case rel=>exact⟨1+1,by omega,by go_num,hF1.trans hF2,yg HP.out p2⟩
   case measure=>simp[intOf]
  .try simp only[Int.natCast_ofNat]
   go_wp2_with (go_at_call 116;refine(Tryz.ai3 _ _ _ _ _ _ _ _ _ _ hm (HC.out.fin hBf)).mono ?_;rintro e w2 ⟨rfl,hF2⟩;have⟨q1,q2,z0',z1',z2',z3',z4',z5',zg',c0',c1',c2',c3',c4'⟩:=HBk.out.go hF2;have g0':=zg' 0;have g1':=zg' 1;have g2':=zg' 2;have g3':=zg' 3;have g4':=zg' 4;have g5':=zg' 5;clear zg')
   .have p1:(hk W H F cs ws 2 !=0)=true:=by assumption
    have p2:hk W H F cs ws 2≠0:=by simpa using p1
    have hv:=O8 (by decide) HP.out p2;have HV:=az hv;have HN:=az p2;clear hv p2;exact Bq (v:=.tuple #[.agg #[.int .i64 0,.int .i64 0,.int .i64 0,.slice none 0 0,.slice none 0 0,.slice none 0 0],.int .i64 (hk W H F cs ws 2)]) (by simp[results,JR,go_sem,hk,z0',z1',z2',z3',z4',z5']) rfl ⟨((((((q1.setCell (by simp) _).setCell (by simp) _).setCell (by simp) _).setCell (by simp) _).setCell (by simp) _).setCell (by simp) _),fun _=>by rw[HV.out],fun h=>absurd h (by rw[HV.out];exact HN.out)⟩
   have p1:(hk W H F cs ws 2 !=0)=false:=by assumption
   have p2:hk W H F cs ws 2=0:=by simpa using p1
   go_roundw;case rel=>exact⟨2+1,by omega,by go_num,hF1.trans hF2,yg HP.out p2⟩
   case measure=>simp[intOf]
  .try simp only[Int.natCast_ofNat]
   go_wp2_with (go_at_call 117;refine(Tryz.aiX _ _ _ _ _ _ _ _ _ _ hn).mono ?_;rintro e w2 ⟨rfl,hF2⟩;have⟨q1,q2,z0',z1',z2',z3',z4',z5',zg',c0',c1',c2',c3',c4'⟩:=HBk.out.go hF2;have g0':=zg' 0;have g1':=zg' 1;have g2':=zg' 2;have g3':=zg' 3;have g4':=zg' 4;have g5':=zg' 5;clear zg')
   .have p1:(hk W H F cs ws 3 !=0)=true:=by assumption
    have p2:hk W H F cs ws 3≠0:=by simpa using p1
    have hv:=O8 (by decide) HP.out p2;have HV:=az hv;have HN:=az p2;clear hv p2;exact Bq (v:=.tuple #[.agg #[.int .i64 0,.int .i64 0,.int .i64 0,.slice none 0 0,.slice none 0 0,.slice none 0 0],.int .i64 (hk W H F cs ws 3)]) (by simp[results,JR,go_sem,hk,z0',z1',z2',z3',z4',z5']) rfl ⟨((((((q1.setCell (by simp) _).setCell (by simp) _).setCell (by simp) _).setCell (by simp) _).setCell (by simp) _).setCell (by simp) _),fun _=>by rw[HV.out],fun h=>absurd h (by rw[HV.out];exact HN.out)⟩
   have p1:(hk W H F cs ws 3 !=0)=false:=by assumption
   have p2:hk W H F cs ws 3=0:=by simpa using p1
   go_roundw;case rel=>exact⟨3+1,by omega,by go_num,hF1.trans hF2,yg HP.out p2⟩
   case measure=>simp[intOf]
  .try simp only[Int.natCast_ofNat]
   go_wp2_with (go_at_call 118;refine(Tryz.ai2 _ _ _ _ _ _ _ _ _ _ hn hm (HW.out.fin hBf)).mono ?_;rintro e w2 ⟨rfl,hF2⟩;have⟨q1,q2,z0',z1',z2',z3',z4',z5',zg',c0',c1',c2',c3',c4'⟩:=HBk.out.go hF2;have g0':=zg' 0;have g1':=zg' 1;have g2':=zg' 2;have g3':=zg' 3;have g4':=zg' 4;have g5':=zg' 5;clear zg')
   .have p1:(hk W H F cs ws 4 !=0)=true:=by assumption
    have p2:hk W H F cs ws 4≠0:=by simpa using p1
    have hv:=O8 (by decide) HP.out p2;have HV:=az hv;have HN:=az p2;clear hv p2;exact Bq (v:=.tuple #[.agg #[.int .i64 0,.int .i64 0,.int .i64 0,.slice none 0 0,.slice none 0 0,.slice none 0 0],.int .i64 (hk W H F cs ws 4)]) (by simp[results,JR,go_sem,hk,z0',z1',z2',z3',z4',z5']) rfl ⟨((((((q1.setCell (by simp) _).setCell (by simp) _).setCell (by simp) _).setCell (by simp) _).setCell (by simp) _).setCell (by simp) _),fun _=>by rw[HV.out],fun h=>absurd h (by rw[HV.out];exact HN.out)⟩
   have p1:(hk W H F cs ws 4 !=0)=false:=by assumption
   have p2:hk W H F cs ws 4=0:=by simpa using p1
   go_roundw;case rel=>exact⟨4+1,by omega,by go_num,hF1.trans hF2,yg HP.out p2⟩
   case measure=>simp[intOf]
  try simp only[Int.natCast_ofNat]
  have hc0:=aey HP.out;have HZ:=az hc0;have h5:(ws.length:Int)<=5:=BB ((rH (by decide)).1 (HP.out 3 (by decide)));have hm5:ws.length<=5:=by omega
  clear hc0 h5;go_wp2;go_region_with ((go_at_call 80;refine(Tryz.ald _ _ _ _ _ _ _ _ _ _ hm5 (HW.out.fin hBf.drew)).mono ?_;rintro e w2 ⟨⟨v,rfl,hown⟩,hF2⟩;have⟨q1,q2,z0',z1',z2',z3',z4',z5',zg',c0',c1',c2',c3',c4'⟩:=(HBk.out.go (Fin.refl _).drew).go hF2;have g0':=zg' 0;have g1':=zg' 1;have g2':=zg' 2;have g3':=zg' 3;have g4':=zg' 4;have g5':=zg' 5;have⟨va,vm,vc,hv⟩:=EM hown;subst hv;have HO:=az hown;clear zg' hown));all_goals go_wp2
  all_goals
   have hlow:w.heap.size+1<wr.drew.heap.size:=by show w.heap.size+1<wr.heap.size;omega
   refine Bq (v:=.tuple #[.agg #[.int .i64 W,.int .i64 H,.int .i64 F,.slice ac cs.length kc,.slice aw ws.length kw,.slice va vm vc],.int .i64 0]) (by simp[results,JR,go_sem,z0',z1',z2',z3',z4',z5']) rfl ⟨?_,fun h=>absurd HZ.out h,fun _=>⟨_,rfl,?_⟩⟩
   .exact(((((q1.setCell (by simp) _).setCell (by simp) _).setCell (by simp) _).setCell (by simp) _).setCell (by simp) _).setCell (by simp) _
   exact ownsRow_base (JQ (JQ (JQ (JQ (JQ (JQ HO.out hlow _) hlow _) hlow _) hlow _) hlow _) hlow _) (by omega)
end Go.Proofs
