import Derived.Deep.RegionHeld3
import Derived.Test.YtjilljfmaknihaaGreatA36
set_option linter.all false
set_option maxHeartbeats 16000000
set_option maxRecDepth 100000
namespace Go
def UC:=@Go.callsIn_wide
end Go
namespace Go.Proofs
open Go.RowKit Go.Shelf
section
attribute [local go_sem] nz
def sW(x y):0<=uC x y/\uC x y<=7:=by
 unfold uC ag5;repeat' split
 all_goals decide
def Tryz.XA(e n e2 n2)(h:-20<=e/\e<=20/\-20<=n/\n<=20/\-20<=e2/\e2<=20/\-20<=n2/\n2<=20)(w):Calls Tryz.prog 40 #[.agg #[.int .i64 e,.int .i64 n],.agg #[.int .i64 e2,.int .i64 n2]] w fun x w'=>x=.returned (.int .i64 (uC (e2-e) (n2-n)))/\Fin w w':=by
 have⟨h1,h2,h3,h4,h5,h6,h7,h8⟩:=h;have d1:decide (0<e2-e)=decide (e<e2):=Sj.2 (by omega);have d2:decide (0<n2-n)=decide (n<n2):=Sj.2 (by omega);go_enter Tryz.func40,Tryz.ntmps40;go_wp2;go_quiet (fail);go_wp2_with (first|(go_at_call 77;refine(Tryz.between _ _ _).mono ?_;rintro e w' ⟨rfl,rfl⟩)|(go_at_call 78;refine(Tryz.either _ _ _ _).mono ?_;rintro e w' ⟨rfl,rfl⟩))
 all_goals go_ret
 all_goals refine⟨?_,(((Fin.refl _).alloc _ _).alloc _ _).drewN _⟩
 all_goals show Ending.returned (Value.int IntKind.i64 _)=_
 all_goals unfold uC
 all_goals rw[d1,d2]
 all_goals clear d1 d2
 all_goals refine bU (fun z=>Ending.returned (Value.int IntKind.i64 z)) ?_
 all_goals first
  |rfl
  |exact(aY (by omega)).symm
  |exact((aU (by omega)).trans ((aY (by omega)).trans (aY (rU (by omega))))).symm
  |exact((aU (by omega)).trans ((aY (by omega)).trans (aU (fun hh=>by have:=BB hh;omega)))).symm
  |exact((aU (by omega)).trans ((aU (by omega)).trans (aY (rU (by omega))))).symm
  |exact((aU (by omega)).trans ((aU (by omega)).trans (aU (fun hh=>by have:=BB hh;omega)))).symm
def shw(b o:Int):Int:=(b+o+8) % 8
def Tryz.shown(b o)(h1:0<=b)(h2:b<=7)(h3:-3<=o)(h4:o<=3)(w):Calls Tryz.prog 144 #[.int .i64 b,.int .i64 o] w fun e w'=>e=.returned (.int .i64 (shw b o))/\w'=w:=by go_enter Tryz.func144,Tryz.ntmps144;go_wp2;go_ret;exact⟨rfl,rfl⟩
def vM(e n:Int)(o:Nat->Int)(ws:List IZ)(k:Nat):Bool:=match ws[k]? with
|some x=>!(decide (x.e=e)&&decide (x.n=n)) && !(decide (x.b=shw (uC (e-x.e) (n-x.n)) (o x.c.toNat)))
|none=>false
def okW(x:IZ):Prop:=inR x.e x.n/\0<=x.b/\x.b<=7/\0<=x.c/\x.c<=2
def Tryz.ahX(W H F e n)(ac aw)(nc kc kw)(su)(o)(ws)(w)(hm:ws.length≤5)(hc:LM w aw ws)(hok:∀x∈ws,okW x)(he:0≤e∧e≤6∧0≤n∧n≤6)(ho:∀k≤2,-3≤o k∧o k≤3):Calls Tryz.prog 123 #[.agg #[.int .i64 W,.int .i64 H,.int .i64 F,.slice ac nc kc,.slice aw ws.length kw,su],.agg #[.int .i64 e,.int .i64 n,.int .i64 (o 0),.int .i64 (o 1),.int .i64 (o 2)]] w fun en w'=>en=.returned (.int .u8 (grp (vM e n o ws) ws.length))∧Fin w w':=by
 have HC:=az hc;have HO:=az ho;clear hc ho;go_enter Tryz.func123,Tryz.ntmps123;go_wp2;obtain⟨w1,hw1⟩:∃w1,(w.alloc (.cells #[.int .i64 W,.int .i64 H,.int .i64 F,.slice ac nc kc,.slice aw ws.length kw,su] 81)).alloc (.cells #[.int .i64 e,.int .i64 n,.int .i64 (o 0),.int .i64 (o 1),.int .i64 (o 2)] 89)=w1:=⟨_,rfl⟩;have hF:=hw1▸((Fin.refl _).alloc _ _).alloc _ _;have hS:w1.heap[w.heap.size+1]?=some (.cells #[.int .i64 e,.int .i64 n,.int .i64 (o 0),.int .i64 (o 1),.int .i64 (o 2)] 89 (0,0)):=by
  rw[←hw1]
  have:=iq (w.alloc (.cells #[.int .i64 W,.int .i64 H,.int .i64 F,.slice ac nc kc,.slice aw ws.length kw,su] 81)) (.cells #[.int .i64 e,.int .i64 n,.int .i64 (o 0),.int .i64 (o 1),.int .i64 (o 2)] 89)
  rwa[lZ] at this
 have hlt1:w.heap.size+1<w1.heap.size:=(aP.1 hS).1;rw[hw1];clear hw1;have HS:=az hS;clear hS;go_loopw [5,13] (fun g i wr=>∃k:Nat,k≤ws.length∧i=.int .i64 k∧Fin w1 wr∧g=.int .u8 (grp (vM e n o ws) k)) (fun _ i _=>ws.length-(intOf i).toNat);case atStart=>exact⟨0,gy _,rfl,Fin.refl _,rfl⟩
 case round=>
  obtain⟨k,hk,rfl,hF1,rfl⟩:=hrel;by_cases hlt:k<ws.length
  .obtain⟨b,of,rfl,hb,e0,e1,e2,e3,e4⟩:=HC.out.fin (hF.trans hF1) k hlt
   have hs:vM e n o ws k=(!(decide (ws[k].e=e)&&decide (ws[k].n=n)) && !(decide (ws[k].b=shw (uC (e-ws[k].e) (n-ws[k].n)) (o ws[k].c.toNat)))):=by unfold vM;simp[hlt]
   have hox:=hok ws[k] (xJ hlt);generalize hx:ws[k]=x at e0 e1 e2 e3 e4 hs hox;obtain⟨xe,xn,xb,xc,xs⟩:=x;obtain⟨hin,hb0,hb7,hc0,hc2⟩:=hox;obtain⟨c,rfl⟩:=UD hc0;dsimp only[Int.toNat_natCast] at e0 e1 e2 e3 e4 hs hin hb0 hb7 hc0 hc2;have HQ:=az hs;have hSr:wr.heap[w.heap.size+1]?=some (.cells #[.int .i64 e,.int .i64 n,.int .i64 (o 0),.int .i64 (o 1),.int .i64 (o 2)] 89 (0,0)):=(hF1.below.block _ hlt1).trans HS.out;have s0:=ah hSr 0;have s1:=ah hSr 1;have s2:wr.cell? ⟨w.heap.size+1,2+c,none⟩=some (.int .i64 (o c)):=by
    rw[ah hSr];have:c≤2:=by omega
    match c,this with
    |0,_|1,_|2,_=>rfl
   simp at s0 s1;have hlr:w.heap.size+1<wr.heap.size:=bT hlt1 hF1.below.size;clear hx hs hSr;go_wp2;obtain⟨w2,hw2⟩:∃w2,wr.alloc (.cells #[.int .i64 xe,.int .i64 xn,.int .i64 xb,.int .i64 c,.bool xs] 41)=w2:=⟨_,rfl⟩;obtain⟨a0,a1,a2,a3,a4,hz⟩:=W9 hw2;have hF2:Fin wr w2:=hw2▸(Fin.refl _).alloc _ _;have t0:=((bD hF2).1 _ _ hlr).trans s0;have t1:=((bD hF2).1 _ _ hlr).trans s1;have t2:=((bD hF2).1 _ _ hlr).trans s2;have hl2:w.heap.size+1<w2.heap.size:=by omega
   have hl3:wr.heap.size<w2.heap.size:=by omega
   rw[hw2];clear hw2 s0 s1 s2 e0 e1 e2 e3 e4;have hoc:=HO.out c (by omega);have hcz:(0:Int)≤(c:Int):=by omega
   have hcl:(c:Int)<3:=by omega
   have hbd:-20≤xe∧xe≤20∧-20≤xn∧xn≤20∧-20≤e∧e≤20∧-20≤n∧n≤20:=by unfold inR at hin;omega
   by_cases hxe:xe=e
   .subst hxe
    by_cases hxn:xn=n
    .subst hxn
     go_quiet (fail);all_goals go_wp2
     go_roundw;case rel=>exact⟨k+1,by omega,by go_num,(hF1.trans hF2).drewN _,by have:=HQ.out;simp at this;simp only[grp,this];rfl⟩
     case measure=>simp[intOf];omega
    have q:(xn==n)=false:=by simpa using hxn
    go_region_held3 (fun w'=>Fin w2 w'∧w'.cell? ⟨w.heap.size+1,0,none⟩=some (.int .i64 xe)∧w'.cell? ⟨w.heap.size+1,1,none⟩=some (.int .i64 n)∧w'.cell? ⟨w.heap.size+1,2+c,none⟩=some (.int .i64 (o c))∧w'.cell? ⟨wr.heap.size,0,none⟩=some (.int .i64 xe)∧w'.cell? ⟨wr.heap.size,1,none⟩=some (.int .i64 xn)∧w'.cell? ⟨wr.heap.size,2,none⟩=some (.int .i64 xb)∧w'.cell? ⟨wr.heap.size,3,none⟩=some (.int .i64 c))
     (first|(refine⟨?_,?_,?_,?_,?_,?_,?_,?_⟩<;>first|assumption|exact Fin.refl _|exact(Fin.refl _).drew))
     (first|(go_at_call 40;refine(Tryz.XA _ _ _ _ hbd _).mono ?_;rintro x w3 ⟨rfl,hF3⟩;have hA:Fin w2 w3:=Fin.trans (by first|assumption|exact(Fin.refl _).drew|exact Fin.refl _) hF3;have b0:=((bD hA).1 _ _ hl2).trans t0;have b1:=((bD hA).1 _ _ hl2).trans t1;have b2:=((bD hA).1 _ _ hl2).trans t2;have d0:=((bD hA).1 _ _ hl3).trans a0;have d1:=((bD hA).1 _ _ hl3).trans a1;have d2:=((bD hA).1 _ _ hl3).trans a2;have d3:=((bD hA).1 _ _ hl3).trans a3;clear hF3)|(go_at_call 144;refine(Tryz.shown _ _ (sW _ _).1 (sW _ _).2 hoc.1 hoc.2 _).mono ?_;rintro x w4 ⟨rfl,rfl⟩))
    all_goals go_wp2_with (go_at_call 84;refine(Tryz.Zp _ _ (by omega) _).mono ?_;rintro e' w' ⟨rfl,rfl⟩)
    .have hx:(xb !=shw (uC 0 (n-xn)) (o c))=true:=by assumption
     have hq:=HQ.out;go_roundw;case rel=>exact⟨k+1,by omega,by go_num,(hF1.trans hF2).trans hA,by simp at hx;simp only[grp,hq];simp[hx,hxn]⟩
     case measure=>simp[intOf];omega
    have hx:(xb !=shw (uC 0 (n-xn)) (o c))=false:=by assumption
    have hq:=HQ.out;go_roundw;case rel=>exact⟨k+1,by omega,by go_num,(hF1.trans hF2).trans hA,by simp at hx;simp only[grp,hq];simp[hx,hxn]⟩
    case measure=>simp[intOf];omega
   have q:(xe==e)=false:=by simpa using hxe
   go_region_held3 (fun w'=>Fin w2 w'∧w'.cell? ⟨w.heap.size+1,0,none⟩=some (.int .i64 e)∧w'.cell? ⟨w.heap.size+1,1,none⟩=some (.int .i64 n)∧w'.cell? ⟨w.heap.size+1,2+c,none⟩=some (.int .i64 (o c))∧w'.cell? ⟨wr.heap.size,0,none⟩=some (.int .i64 xe)∧w'.cell? ⟨wr.heap.size,1,none⟩=some (.int .i64 xn)∧w'.cell? ⟨wr.heap.size,2,none⟩=some (.int .i64 xb)∧w'.cell? ⟨wr.heap.size,3,none⟩=some (.int .i64 c))
     (first|(refine⟨?_,?_,?_,?_,?_,?_,?_,?_⟩<;>first|assumption|exact Fin.refl _|exact(Fin.refl _).drew))
     (first|(go_at_call 40;refine(Tryz.XA _ _ _ _ hbd _).mono ?_;rintro x w3 ⟨rfl,hF3⟩;have hA:Fin w2 w3:=Fin.trans (by first|assumption|exact(Fin.refl _).drew|exact Fin.refl _) hF3;have b0:=((bD hA).1 _ _ hl2).trans t0;have b1:=((bD hA).1 _ _ hl2).trans t1;have b2:=((bD hA).1 _ _ hl2).trans t2;have d0:=((bD hA).1 _ _ hl3).trans a0;have d1:=((bD hA).1 _ _ hl3).trans a1;have d2:=((bD hA).1 _ _ hl3).trans a2;have d3:=((bD hA).1 _ _ hl3).trans a3;clear hF3)|(go_at_call 144;refine(Tryz.shown _ _ (sW _ _).1 (sW _ _).2 hoc.1 hoc.2 _).mono ?_;rintro x w4 ⟨rfl,rfl⟩))
   all_goals go_wp2_with (go_at_call 84;refine(Tryz.Zp _ _ (by omega) _).mono ?_;rintro e' w' ⟨rfl,rfl⟩)
   .have hx:(xb !=shw (uC (e-xe) (n-xn)) (o c))=true:=by assumption
    have hq:=HQ.out;go_roundw;case rel=>exact⟨k+1,by omega,by go_num,(hF1.trans hF2).trans hA,by simp at hx;simp only[grp,hq];simp[hx,hxe]⟩
    case measure=>simp[intOf];omega
   have hx:(xb !=shw (uC (e-xe) (n-xn)) (o c))=false:=by assumption
   have hq:=HQ.out;go_roundw;case rel=>exact⟨k+1,by omega,by go_num,(hF1.trans hF2).trans hA,by simp at hx;simp only[grp,hq];simp[hx,hxe]⟩
   case measure=>simp[intOf];omega
  have hk':k=ws.length:=by omega
  subst hk';go_wp2;go_ret;exact⟨rfl,hF.trans hF1⟩
end
section
attribute [local go_sem] nz
def anB(a b:Int):Int:=bits BinOp.andNot IntKind.u8 a b
def Tryz.acu(n)(a b)(w):CallsIn Fence.wide n Tryz.prog 124 #[.int .u8 a,.int .u8 b] w fun e w'=>e=.returned (.int .u8 (anB a b))/\w'=w:=by refine F8 Tryz.func124 rfl trivial ?_ rfl;simp only[Tryz.ntmps124,oq,List.length_cons,List.length_nil,Nat.reduceAdd,Nat.reduceSub,xG,Array.replicate_zero,uo,xE,List.nil_append,List.cons_append];gi_wp2;go_ret;exact⟨rfl,rfl⟩
def Tryz.ag2(W H F)(ac aw)(nc kc nw kw n)(su v0 v1 v2 v3 v4)(w):CallsIn Fence.wide n Tryz.prog 83 #[.agg #[.int .i64 W,.int .i64 H,.int .i64 F,.slice ac nc kc,.slice aw nw kw,su],.agg #[v0,v1,v2,v3,v4]] w fun e w'=>e=.returned (.func (.func 122) #[] #[.pointer (some ⟨w.heap.size,0,none⟩),.pointer (some ⟨w.heap.size+1,0,none⟩)])/\w'=(w.alloc (.cells #[.int .i64 W,.int .i64 H,.int .i64 F,.slice ac nc kc,.slice aw nw kw,su] 81)).alloc (.cells #[v0,v1,v2,v3,v4] 89):=by refine F8 Tryz.func83 rfl trivial ?_ rfl;simp only[Tryz.ntmps83,oq,List.length_cons,List.length_nil,Nat.reduceAdd,Nat.reduceSub,xG,Array.replicate_zero,uo,xE,List.nil_append,List.cons_append];gi_wp2;go_ret;exact⟨rfl,rfl⟩
def AtU(w:ay)(a:aB Addr)(i:Nat)(x:Int):Prop:=∃b o,a=some ⟨b,o,none⟩/\b<w.heap.size/\w.cell? ⟨b,o+i,none⟩=some (.int .u8 x)
def RdU(w:ay)(a:aB Addr)(l:List Int):Prop:=∀i (h:i<l.length),AtU w a i l[i]
def RdU.fin{w w' a l}(h:RdU w a l)(hF:Fin w w'):RdU w' a l:=fun i hi=>by have⟨b,o,h1,h2,h3⟩:=h i hi;exact⟨b,o,h1,bT h2 hF.below.size,((bD hF).1 _ _ h2).trans h3⟩
def RdU.keep{X A C a}{cs:List Int}(h:RdU A a cs)(hX:∀b o,a=some ⟨b,o,none⟩->¬X b)(hk:qL X A C):RdU C a cs:=fun i hi=>by
 have⟨b,o,h1,h2,h3⟩:=h i hi;have hcell:∀(j:Nat) (v:ae),A.cell? ⟨b,j,none⟩=some v->C.cell? ⟨b,j,none⟩=some v:=fun j v hv=>by
  have hh:=hv;simp only[World.cell?] at hv⊢;cases hb:A.heap[b]? with
  |none=>rw[hb] at hv;simp at hv
  |some x=>
   rw[hb] at hv;cases x with
   |cells c e fr=>
   rw[hk.2 b _ (hX b o h1) hb rfl];exact hv
   |_=>simp at hv
 exact⟨b,o,h1,bT h2 hk.1,hcell _ _ h3⟩
def fits(wr:Int)(g:Int):Bool:=anB wr g==0
def EL{P}(t)(w):(results Tryz.f122 t).run P w=.ok (.tuple #[]) w:=by simp[results,Tryz.f122,go_sem]
def JB{α:Type}(p)(l:List α){k:Nat}(h:k<l.length):(l.take (k+1)).filter p=(l.take k).filter p++if p l[k] then[l[k]] else[]:=by rw[Y5,oV h,JS];simp only[Option.toList];by_cases hp:p l[k]<;>simp[hp]
def LH{α:Type}(p)(l:List α)(k:Nat):(l.take k).filter p <+: l.filter p:=(List.take_prefix k l).filter p
def Tryz.aeF(W H F e n)(Bc Bs)(ac aw au)(nc kc kw ku m)(o)(ws)(gs)(X:Nat→Prop)(w0:ay)(hX:∀k,X k→k<w0.heap.size)(hXs:¬X Bs)(hXu:∀b o,au=some ⟨b,o,none⟩→¬X b)(hm:ws.length≤5)(hg:gs.length≤32)(hok:∀x∈ws,okW x)(he:0≤e∧e≤6∧0≤n∧n≤6)(ho:∀k≤2,-3≤o k∧o k≤3)(hc0:w0.heap[Bc]?=some (.cells #[.int .i64 W,.int .i64 H,.int .i64 F,.slice ac nc kc,.slice aw ws.length kw,.slice au gs.length ku] 81 (0,0)))(hs0:w0.heap[Bs]?=some (.cells #[.int .i64 e,.int .i64 n,.int .i64 (o 0),.int .i64 (o 1),.int .i64 (o 2)] 89 (0,0)))(hrw:LM w0 aw ws)(hru:RdU w0 au gs):afa Fence.wide m Tryz.prog 122 #[.pointer (some ⟨Bc,0,none⟩),.pointer (some ⟨Bs,0,none⟩)] (fun g=>#[.agg #[.int .i64 e,.int .i64 n,.int .i64 (o 0),.int .i64 (o 1),.int .i64 (o 2),.int .u8 g]]) X (fun xs=>xs=gs.filter (fits (grp (vM e n o ws) ws.length))) (fun pre=>pre <+: gs.filter (fits (grp (vM e n o ws) ws.length))) w0:=by
 intro l J Jx w hW hJ hJx hY h0;have hwb:∀(b:Nat) (j:Nat),b<w0.heap.size→w.cell? ⟨b,j,none⟩=w0.cell? ⟨b,j,none⟩:=fun b j h=>xC (a:=⟨b,j,none⟩) (hW.block b h);have hBc:=(aP.1 hc0).1;have hBs:=(aP.1 hs0).1;have hc:=(hW.block _ hBc).trans hc0;have hs:=(hW.block _ hBs).trans hs0;have hrw1:LM w aw ws:=fun i hi=>by obtain⟨b,o,h1,h2,h3,h4,h5,h6,h7⟩:=hrw i hi;exact⟨b,o,h1,bT h2 hW.size,(hwb _ _ h2).trans h3,(hwb _ _ h2).trans h4,(hwb _ _ h2).trans h5,(hwb _ _ h2).trans h6,(hwb _ _ h2).trans h7⟩
 have hru1:RdU w au gs:=fun i hi=>by obtain⟨b,o,h1,h2,h3⟩:=hru i hi;exact⟨b,o,h1,bT h2 hW.size,(hwb _ _ h2).trans h3⟩
 have c0:=ah hc 0;have c1:=ah hc 1;have c2:=ah hc 2;have c3:=ah hc 3;have c4:=ah hc 4;have c5:=ah hc 5;have s0:=ah hs 0;have s1:=ah hs 1;have s2:=ah hs 2;have s3:=ah hs 3;have s4:=ah hs 4;simp at c0 c1 c2 c3 c4 c5 s0 s1 s2 s3 s4;have HW:=az hW;have HJ:=az (And.intro hJ (And.intro hJx hY));have H0:=az h0;have HRW:=az hrw1;have HRU:=az hru1;have HS:=az hs;have HC:=az hc;have HK:=az (And.intro hBc (And.intro hBs hW.size));have HX:=az (And.intro hXs hXu);have HO:=az ho;clear hJ hJx hY h0 hrw hru hrw1 hru1 hc hs hc0 hs0 hW hwb hBc hBs hX hXs hXu ho;refine F8 Tryz.func122 rfl trivial ?_ rfl;simp only[Tryz.ntmps122,oq,List.length_cons,List.length_nil,Nat.reduceAdd,Nat.reduceSub,xG,Array.replicate_zero,uo,xE,List.nil_append,List.cons_append];gi_wp2;refine⟨trivial,fun h=>(by cases h),?_⟩;refine(UC.2 (Tryz.ahX W H F e n ac aw nc kc kw _ o ws _ hm HRW.out hok he HO.out)).mono ?_;rintro en w1 ⟨rfl,hF1⟩;have c5':=((bD hF1).1 _ 5 (bT HK.out.1 HK.out.2.2)).trans c5;have hs1:=(hF1.below.block _ (bT HK.out.2.1 HK.out.2.2)).trans HS.out;have hu1:=HRU.out.fin hF1;have hj1:=HJ.out.1 _ _ _ H0.out hF1.step;have HS1:=az hs1;have HU1:=az hu1
 have HJ1:=az hj1;clear c0 c1 c2 c3 c4 c5 s0 s1 s2 s3 s4 hs1 hu1 hj1 HRW HRU HS H0 hF1;obtain⟨Wr,hWr⟩:∃Wr,grp (vM e n o ws) ws.length=Wr:=⟨_,rfl⟩;rw[hWr];have HWr:=az hWr;clear hWr;gi_wp2;gi_loopw [13] (fun v wr=>∃k:Nat,k≤gs.length∧v=.int .i64 k∧wr.heap[Bs]?=some (.cells #[.int .i64 e,.int .i64 n,.int .i64 (o 0),.int .i64 (o 1),.int .i64 (o 2)] 89 (0,0))∧RdU wr au gs∧J ((gs.take k).filter (fits Wr)) wr) (fun v _=>gs.length-(intOf v).toNat);case atStart=>exact⟨0,gy _,rfl,HS1.out,HU1.out,HJ1.out⟩
 case round=>
  obtain⟨k,hk,rfl,hs,hu,hj⟩:=hrel;by_cases hlt:k<gs.length
  .obtain⟨b,of,rfl,hb,e0⟩:=hu k hlt
   have hnext:=JB (fits Wr) gs hlt;have hpre:=LH (fits Wr) gs (k+1);generalize hx:gs[k]=g at e0 hnext;have s0:=ah hs 0;have s1:=ah hs 1;have s2:=ah hs 2;have s3:=ah hs 3;have s4:=ah hs 4;simp at s0 s1 s2 s3 s4;obtain⟨fn,tmps,assign,body,hy,hR⟩:=HJ.out.2.2 _ g wr hj;have HR:=az hR;have HS:=az hs;have HU:=az hu;have HN:=az (And.intro hnext hpre);have HJ2:=az hj;clear hR hs hu hnext hpre hj hx HS1 HU1 HJ1 c5';gi_wp2;refine⟨trivial,fun h=>(by cases h),?_⟩;refine(Tryz.acu _ _ _ _).mono ?_;rintro en w2 ⟨rfl,rfl⟩;cases hp:fits Wr g with
   |true=>
   have hp':(anB Wr g==0)=true:=hp;have HP:=az hp;clear hp;gi_wp2;refine⟨fun h=>(by cases h),?_⟩;refine HR.out.mono ?_;clear HR;rintro en w3 (⟨rfl,hJ3,hK3⟩|⟨rfl,hx3⟩)
   .have hn:(gs.take (k+1)).filter (fits Wr)=(gs.take k).filter (fits Wr)++[g]:=by rw[HN.out.1,HP.out];rfl
    rw[←hn] at hJ3;have hs3:=hK3.2 _ _ HX.out.1 HS.out rfl;have hu3:=HU.out.keep HX.out.2 hK3;have H3:=az (And.intro hJ3 (And.intro hs3 hu3));clear hJ3 hK3 hs3 hu3 hn;gi_wp2;go_roundw;case rel=>exact⟨k+1,hlt,by go_num,H3.out.2.1,H3.out.2.2,H3.out.1⟩
    case measure=>simp[intOf];omega
   have hn:(gs.take (k+1)).filter (fits Wr)=(gs.take k).filter (fits Wr)++[g]:=by rw[HN.out.1,HP.out];rfl
   rw[←hn] at hx3;have H3:=az hx3;clear hx3 hn;gi_wp2;refine⟨rfl,.tuple #[],EL _ _,⟨_,rfl⟩,.inr ⟨_,by rw[HWr.out];exact HN.out.2,H3.out⟩⟩
   |false=>
   have hp':(anB Wr g==0)=false:=hp;have HP:=az hp;clear hp;gi_wp2;all_goals refine⟨fun _ h=>(by cases h),?_⟩
   all_goals gi_wp2
   all_goals
    have hn:(gs.take (k+1)).filter (fits Wr)=(gs.take k).filter (fits Wr):=by rw[HN.out.1,HP.out];simp
    go_roundw;case rel=>exact⟨k+1,hlt,by go_num,HS.out,HU.out,by rw[hn];exact HJ2.out⟩
    case measure=>simp[intOf];omega
  have hk':k=gs.length:=by omega
  subst hk';have HJ2:=az hj;clear hj;gi_wp2;refine⟨rfl,.tuple #[],EL _ _,⟨_,rfl⟩,.inl ⟨_,rfl,by have:=HJ2.out;rw[Bz] at this;rw[HWr.out];exact this⟩⟩
end
section
attribute [local go_sem] nz
def Tryz.agM(d:Nat)(a0 a1 a2 b0 b1 b2:Int)(w:ay):(Op.equalIn (d+2) 87 (.agg #[.int .i64 a0,.int .i64 a1,.int .i64 a2]) (.agg #[.int .i64 b0,.int .i64 b1,.int .i64 b2])).run Tryz.prog w=.ok (a0==b0&&a1==b1&&a2==b2) w:=by
 have⟨i,hi⟩:=gQ.1 (show(Tryz.prog.info? 3).isSome=true by kernel_rfl);have hc:Tryz.prog.cellsOf 3=1:=by kernel_rfl
 have:List.range 3=[0,1,2]:=rfl;rw[run_equalIn_array w (d+1) (e:=3) (n:=3) (i:=i) _ _ Tryz.underlying87 hi];simp[this,Op.eqItems,go_sem,hc];by_cases h0:a0=b0<;>by_cases h1:a1=b1<;>by_cases h2:a2=b2<;>simp[h0,h1,h2]
def Tryz.agL(d:Nat)(a0 a1 a2:Int)(w:ay):(Op.equalIn (d+2) 87 (.agg #[.int .i64 a0,.int .i64 a1,.int .i64 a2]) (.agg #[.int .i64 a0,.int .i64 a1,.int .i64 a2])).run Tryz.prog w=.ok true w:=by rw[Tryz.agM];simp
def aeh{cs:List (Int×Int)}(hcs:∀r∈cs,-3<=r.1/\r.1<=r.2/\r.2<=3):∀(i:Nat) (s:Sg),(∀j,-3<=s.o j/\s.o j<=3)->∀s'∈lJ cs i s,∀j,-3<=s'.o j/\s'.o j<=3:=by
 induction cs with
 |nil=>intro i s h s' hs';simp only[lJ,eY] at hs';subst hs';exact h
 |cons r rs ih=>
 intro i s h s' hs';simp only[lJ,UB] at hs';have⟨v,hv,hs'⟩:=hs';simp only[rng,oZ,fK] at hv;obtain⟨k,hk,rfl⟩:=hv;have⟨r1,r2,r3⟩:=hcs r (fZ ..);refine ih (fun x hx=>hcs x (jy _ hx)) (i+1) _ (fun j=>?_) s' hs';simp only[Cb];split
 .omega
 exact h j
def afF{cs:List (Int×Int)}(hcs:∀r∈cs,-3<=r.1/\r.1<=r.2/\r.2<=3)(W H:Nat):∀s∈rows cs W H,∀j,-3<=s.o j/\s.o j<=3:=by intro s hs;simp only[rows,cols,UB,fK] at hs;have⟨y,_,x,_,h⟩:=hs;exact aeh hcs 0 _ (fun _=>⟨show(-3:Int)<=0 by omega,show(0:Int)<=3 by omega⟩) s h
def aii{cs:List (Int×Int)}(hcs:∀r∈cs,-3≤r.1∧r.1≤r.2∧r.2≤3){W H:Nat}{o:Nat→Int}(h:(rows cs W H).any (YD o)=true):∀k≤2,-3≤o k∧o k≤3:=by
 obtain⟨s,hs,he⟩:=jA.1 h;simp only[YD,aT,BV] at he;obtain⟨⟨h0,h1⟩,h2⟩:=he;have hb:=afF hcs W H s hs;intro k hk
 match k,hk with
 |0,_=>exact h0▸hb 0
 |1,_=>exact h1▸hb 1
 |2,_=>exact h2▸hb 2
def isB(W H:Nat)(cs:List (Int×Int))(ws:List IZ)(gs:List Int)(e n:Int)(o:Nat->Int)(g:Int):Bool:=(rows cs W H).any (YD o)&&(gs.filter (fits (grp (vM e n o ws) ws.length))).any (· == g)
attribute [local go_sem] Tryz.agL
def Tryz.agv(W H:Nat)(F e n g:Int)(ac aw au:aB Addr)(kc kw ku:Nat)(cs:List (Int×Int))(ws:List IZ)(gs:List Int)(o:Nat->Int)(w:ay)(hW2:W<=7)(hH2:H<=7)(hm:cs.length<=3)(hcs:∀r∈cs,-3<=r.1/\r.1<=r.2/\r.2<=3)(hrd:Lp w ac cs)(hac:∀b o,ac=some ⟨b,o,none⟩->b<w.heap.size)(hmw:ws.length<=5)(hok:∀x∈ws,okW x)(hrw:LM w aw ws)(hg:gs.length<=32)(hru:RdU w au gs)(hau:∀b o,au=some ⟨b,o,none⟩->b<w.heap.size)(he:0<=e/\e<=6/\0<=n/\n<=6):CallsIn Fence.wide 5 Tryz.prog 45 #[.agg #[.int .i64 W,.int .i64 H,.int .i64 F,.slice ac cs.length kc,.slice aw ws.length kw,.slice au gs.length ku],.agg #[.int .i64 e,.int .i64 n,.int .i64 (o 0),.int .i64 (o 1),.int .i64 (o 2),.int .u8 g]] w fun en w'=>en=.returned (.bool (isB W H cs ws gs e n o g))/\Fin w w':=by
 have HR:=az (And.intro hrd (And.intro hrw hru));have HA:=az (And.intro hac hau);clear hrd hrw hru hac hau;refine callsIn_of_wp_marks Tryz.func45 rfl trivial ?_ rfl;simp only[Tryz.ntmps45,oq,List.length_cons,List.length_nil,Nat.reduceAdd,Nat.reduceSub,xG,Array.replicate_zero,uo,xE,List.nil_append,List.cons_append];gi_wp2;obtain⟨W0,hW0⟩:∃W0,(((w.alloc (.cells #[.int .i64 W,.int .i64 H,.int .i64 F,.slice ac cs.length kc,.slice aw ws.length kw,.slice au gs.length ku] 81)).alloc (.cells #[.int .i64 e,.int .i64 n,.int .i64 (o 0),.int .i64 (o 1),.int .i64 (o 2),.int .u8 g] 92)).alloc (.cells #[.bool false] 4))=W0:=⟨_,rfl⟩;rw[hW0];have hs0:W0.heap.size=w.heap.size+3:=by rw[<-hW0];simp
 have hF0:Fin w W0:=hW0▸(((Fin.refl _).alloc _ _).alloc _ _).alloc _ _;have hB0:W0.heap[w.heap.size]?=some (.cells #[.int .i64 W,.int .i64 H,.int .i64 F,.slice ac cs.length kc,.slice aw ws.length kw,.slice au gs.length ku] 81 (0,0)):=by rw[<-hW0];exact(iV _ _ _ (by simp<;>omega)).trans ((iV _ _ _ (by simp<;>omega)).trans (iq w _))
 have hB1:W0.heap[w.heap.size+1]?=some (.cells #[.int .i64 e,.int .i64 n,.int .i64 (o 0),.int .i64 (o 1),.int .i64 (o 2),.int .u8 g] 92 (0,0)):=by rw[<-hW0];refine(iV _ _ _ (by simp<;>omega)).trans ?_;have:=iq (w.alloc (.cells #[.int .i64 W,.int .i64 H,.int .i64 F,.slice ac cs.length kc,.slice aw ws.length kw,.slice au gs.length ku] 81)) (.cells #[.int .i64 e,.int .i64 n,.int .i64 (o 0),.int .i64 (o 1),.int .i64 (o 2),.int .u8 g] 92);rwa[lZ] at this
 have hB2:W0.heap[w.heap.size+1+1]?=some (.cells #[.bool false] 4 (0,0)):=by rw[<-hW0];have:=iq ((w.alloc (.cells #[.int .i64 W,.int .i64 H,.int .i64 F,.slice ac cs.length kc,.slice aw ws.length kw,.slice au gs.length ku] 81)).alloc (.cells #[.int .i64 e,.int .i64 n,.int .i64 (o 0),.int .i64 (o 1),.int .i64 (o 2),.int .u8 g] 92)) (.cells #[.bool false] 4);rwa[lZ,lZ] at this
 clear hW0;refine⟨trivial,(UC.2 (UC.1 (Tryz.aeG W H F ac aw kc _ kw _ cs o W0 hW2 hH2 hm hcs (HR.out.1.fin hF0) (fun b o h=>by have:=HA.out.1 b o h;omega)))).mono ?_⟩;rintro en w1 ⟨rfl,hF1⟩;have hs1:=hF1.below.size;have hC0:=(hF1.below.block _ (show w.heap.size<W0.heap.size by omega)).trans hB0;have hC1:=(hF1.below.block _ (show w.heap.size+1<W0.heap.size by omega)).trans hB1;have hC2:=(hF1.below.block _ (show w.heap.size+1+1<W0.heap.size by omega)).trans hB2;have hF2:=hF0.trans hF1;clear hB0 hB1 hB2 hF0 hF1;cases hcb:(rows cs W H).any (YD o) with
 |false=>
 have r0:=ah hC2 0;have r1:=iJ hC2 0;simp at r0;have H2:=az hC2;have HF:=az hF2;have HB:=az hcb;clear hC0 hC1 hC2 hF2 hcb;gi_wp2;refine⟨.bool false,?_,?_,?_⟩
 .have h6:=ah (JI (u:=.bool false) H2.out) 0;simp at h6;simp[results,Tryz.f45,go_sem,h6]
 .unfold isB;rw[HB.out];rfl
 exact(HF.out.step.trans (dm.zo (p:=⟨w.heap.size+1+1,0,none⟩) (by simp;omega) (.bool false))).fin
 |true=>
 have ho:=aii hcs hcb;have c0:=ah hC0 0;have c1:=ah hC0 1;have c2:=ah hC0 2;have c3:=ah hC0 3;have c4:=ah hC0 4;have c5:=ah hC0 5;have s0:=ah hC1 0;have s1:=ah hC1 1;have s2:=ah hC1 2;have s3:=ah hC1 3;have s4:=ah hC1 4;simp at c0 c1 c2 c3 c4 c5 s0 s1 s2 s3 s4;have H0:=az (And.intro hC0 (And.intro hC1 hC2));have HF:=az hF2;have HB:=az (And.intro hcb ho);clear hC0 hC1 hC2 hF2 hcb ho;gi_wp2;refine⟨trivial,?_⟩;refine(Tryz.ag2 _ _ _ _ _ _ _ _ _ _ _ _ _ _ _ _ _).mono ?_;rintro en w' ⟨rfl,rfl⟩;gi_wp2;obtain⟨W2,hW2'⟩:∃W2,(w1.alloc (.cells #[.int .i64 W,.int .i64 H,.int .i64 F,.slice ac cs.length kc,.slice aw ws.length kw,.slice au gs.length ku] 81)).alloc (.cells #[.int .i64 e,.int .i64 n,.int .i64 (o 0),.int .i64 (o 1),.int .i64 (o 2)] 89)=W2:=⟨_,rfl⟩;have hs2:W2.heap.size=w1.heap.size+2:=by rw[<-hW2'];simp
 have hF3:Fin w1 W2:=hW2'▸((Fin.refl _).alloc _ _).alloc _ _;have hD0:W2.heap[w1.heap.size]?=some (.cells #[.int .i64 W,.int .i64 H,.int .i64 F,.slice ac cs.length kc,.slice aw ws.length kw,.slice au gs.length ku] 81 (0,0)):=by rw[<-hW2'];exact(iV _ _ _ (by simp<;>omega)).trans (iq w1 _)
 have hD1:W2.heap[w1.heap.size+1]?=some (.cells #[.int .i64 e,.int .i64 n,.int .i64 (o 0),.int .i64 (o 1),.int .i64 (o 2)] 89 (0,0)):=by rw[<-hW2'];have:=iq (w1.alloc (.cells #[.int .i64 W,.int .i64 H,.int .i64 F,.slice ac cs.length kc,.slice aw ws.length kw,.slice au gs.length ku] 81)) (.cells #[.int .i64 e,.int .i64 n,.int .i64 (o 0),.int .i64 (o 1),.int .i64 (o 2)] 89);rwa[lZ] at this
 have hE1:=(hF3.below.block _ (show w.heap.size+1<w1.heap.size by omega)).trans H0.out.2.1;have hE2:=(hF3.below.block _ (show w.heap.size+1+1<w1.heap.size by omega)).trans H0.out.2.2;have hst:=(HF.out.trans hF3).step;have hw2:=HR.out.2.1.fin (HF.out.trans hF3);have hu2:=HR.out.2.2.fin (HF.out.trans hF3);rw[hW2'];clear hW2' c0 c1 c2 c3 c4 c5 s0 s1 s2 s3 s4;refine GH rfl (by decide) (gf:=122) (lb:=#[.pointer (some ⟨w1.heap.size,0,none⟩),.pointer (some ⟨w1.heap.size+1,0,none⟩)]) rfl trivial (enters_of Tryz.func122 (by kernel_rfl) rfl)
  (X:=fun k=>k=w.heap.size+1+1) (Tryz.aeF W H F e n _ _ ac aw au cs.length kc kw ku _ o ws gs _ W2 (fun k hk=>by subst hk;omega) (by omega) (fun b o h=>by have:=HA.out.2 b o h;omega) hmw hg hok he HB.out.2 hD0 hD1 hw2 hu2)
  (fun k hk=>by subst hk;omega) (PN _ _) (fun _=>rfl)
  (fun pre A=>pre.any (· == g)=false/\A.heap[w.heap.size+1]?=some (.cells #[.int .i64 e,.int .i64 n,.int .i64 (o 0),.int .i64 (o 1),.int .i64 (o 2),.int .u8 g] 92 (0,0))/\A.heap[w.heap.size+1+1]?=some (.cells #[.bool false] 4 (0,0))/\dm w.heap.size w A)
  (fun c pre A=>c=.ret/\pre.any (· == g)=true/\A.heap[w.heap.size+1+1]?=some (.cells #[.bool true] 4 (0,0))/\dm w.heap.size w A)
  (fun pre A A' h hs=>⟨h.1,(hs.below.block _ (by omega)).trans h.2.1,(hs.below.block _ (by omega)).trans h.2.2.1,h.2.2.2.trans (hs.mono (by omega))⟩)
  (fun c pre A A' h hs=>⟨h.1,h.2.1,(hs.below.block _ (by omega)).trans h.2.2.1,h.2.2.2.trans (hs.mono (by omega))⟩)
  ⟨rfl,hE1,hE2,hst⟩ ?round ?done ?stop
 case round=>
  rintro l pre x W3 hsz ⟨hp,h1,h2,hs⟩;clear hD0 hD1 hE1 hE2 hst hw2 hu2 HR HA H0 HF HB hcs hok;have z1:=@Tryz.zeroValue92;gi_wp2_with (rw[Oper.semAt_eq _ _ _ (fun c h=>by cases h)];go_simp;try go_bits)
  refine⟨⟨by simp,fun k o' _ hk=>(iV _ _ _ (aP.1 hk).1).trans hk⟩,fun Wb hb hk=>?_⟩;have hx:Wb.heap[W3.heap.size]?=some (.cells #[.int .i64 e,.int .i64 n,.int .i64 (o 0),.int .i64 (o 1),.int .i64 (o 2),.int .u8 x] 92 (0,0)):=hk.2 _ _ (fun h=>h) (iq W3 _) rfl;have h1b:Wb.heap[w.heap.size+1]?=some (.cells #[.int .i64 e,.int .i64 n,.int .i64 (o 0),.int .i64 (o 1),.int .i64 (o 2),.int .u8 g] 92 (0,0)):=(hb.below.block _ (by omega)).trans ((iV _ _ _ (by omega)).trans h1);have h2b:Wb.heap[w.heap.size+1+1]?=some (.cells #[.bool false] 4 (0,0)):=(hb.below.block _ (by omega)).trans ((iV _ _ _ (by omega)).trans h2);have hsb:dm w.heap.size w Wb:=(hs.trans (dm.obj (by omega) rfl)).trans (hb.mono (by omega));have x0:=ah hx 0;have x1:=ah hx 1;have x2:=ah hx 2;have x3:=ah hx 3;have x4:=ah hx 4;have x5:=ah hx 5;have y0:=ah h1b 0;have y1:=ah h1b 1;have y2:=ah h1b 2;have y3:=ah h1b 3;have y4:=ah h1b 4;have y5:=ah h1b 5;have r0:=ah h2b 0;have r1:=iJ h2b 0;simp at x0 x1 x2 x3 x4 x5 y0 y1 y2 y3 y4 y5 r0;have H1:=az h1b;have H2:=az h2b;have HS:=az hsb;have HP:=az hp;clear hx h1b h2b hsb h1 h2 hs hb hk hp z1;gi_wp2_with (rw[Oper.semAt_eq _ _ _ (fun c h=>by cases h)];go_simp;try go_bits)
  .have hx:x=g:=by assumption
   refine⟨⟨by simp[World.setCell],fun k o' hk ho=>(Bo _ _ _ _ hk).trans ho⟩,rfl,?_,JI H2.out,HS.out.trans (dm.zo (by simp;omega) _)⟩;rw[F7];simp[hx]
  have hx:¬x=g:=by assumption
  refine⟨Bdy.refl _ _,?_,H1.out,H2.out,HS.out⟩;rw[F7,HP.out];simp[hx]
 case done=>
  rintro xs W3 rfl ⟨hp,h1,h2,hs⟩ hD;have r0:=ah h2 0;have r1:=iJ h2 0;simp at r0;have H2:=az h2;have HS:=az hs;have HP:=az hp;clear h1 h2 hs hp hD0 hD1 hE1 hE2 hst hw2 hu2 HR HA H0 HF;gi_wp2;have h2:=JI (u:=.bool false) H2.out;have hK:=(Bo W3 ⟨w.heap.size+1+1,0,none⟩ (.bool false) W2.heap.size (by simp;omega)).trans hD;refine⟨by simp,.inl ⟨_,_,rfl,run_takeDeferred hK,?_⟩⟩;have h5:=(World.putObj_heap_other (o:=.deferred none) (show w.heap.size+1+1≠W2.heap.size by omega)).trans h2;refine⟨.bool false,?_,?_,((HS.out.trans (dm.zo (p:=⟨w.heap.size+1+1,0,none⟩) (by simp;omega) (.bool false))).trans (dm.put (l:=W2.heap.size) (o:=.deferred none) (by omega) rfl)).fin⟩
  .have h6:=ah h5 0;simp at h6;simp[results,Tryz.f45,go_sem,h6]
  unfold isB;rw[HP.out,Bool.and_false]
 case stop=>
  rintro c pre W3 hpre ⟨rfl,hp,h2,hs⟩ hD;clear hD0 hD1 hE1 hE2 hst hw2 hu2 HR HA H0 HF;gi_wp2;refine⟨by simp,.inl ⟨_,_,rfl,run_takeDeferred hD,?_⟩⟩;have h5:=(World.putObj_heap_other (o:=.deferred none) (show w.heap.size+1+1≠W2.heap.size by omega)).trans h2;refine⟨.bool true,?_,?_,(hs.trans (dm.put (l:=W2.heap.size) (o:=.deferred none) (by omega) rfl)).fin⟩
  .have h6:=ah h5 0;simp at h6;simp[results,Tryz.f45,go_sem,h6]
  unfold isB;have⟨t,ht⟩:=hpre;rw[HB.out.1,<-ht,F7,hp];rfl
end
end Go.Proofs
