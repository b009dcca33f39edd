import Derived.Test.YtjilljfmaknihaaGreatA32
import Derived.Test.YtjilljfmaknihaaGreatA23
set_option linter.all false
set_option maxHeartbeats 16000000
set_option maxRecDepth 100000
namespace Go
def JI:=@Go.one_setCell
def Y6:=@Go.Proofs.Tryz.zeroValue89
end Go
namespace Go.Proofs
open Go.RowKit
section
attribute [local go_sem] nz
@[local go_sem] theorem afE {P w} (a) (m) (f) (x y):(store a (.func f x y) m).run P w=stored P w a (.func f x y) m:=run_store P w a _ m rfl
def FM.sq{B W H F ac aw kc nw kw su cs A s}(h:FM B W H F ac aw kc nw kw su cs A s)(hd:Dif B ac)(e n):FM B W H F ac aw kc nw kw su cs ((A.setCell ⟨B.s,0,none⟩ (.int .i64 e)).setCell ⟨B.s,1,none⟩ (.int .i64 n)) ⟨e,n,s.o⟩:=by
 have ho:∀k,k≠B.s->((A.setCell ⟨B.s,0,none⟩ (.int .i64 e)).setCell ⟨B.s,1,none⟩ (.int .i64 n)).heap[k]?=A.heap[k]?:=fun k hk=>(Bo _ _ _ _ hk).trans (Bo _ _ _ _ hk);refine⟨(ho _ hd.sc).trans h.hc,(ho _ hd.sy).trans h.hy,(ho _ hd.sf).trans h.hf,?_,fun j hj=>?_⟩
 .simp only[World.setCell,PI,je,h.hs,Option.map_some]
  rfl
 have⟨b,o,h1,h2,h3,h4⟩:=h.rd j hj;have hb:=ho b (hd.sa b o h1);exact⟨b,o,h1,by simp[World.setCell];exact h2,(xC hb).trans h3,(xC hb).trans h4⟩
def dm.zo{b A p}(hp:b<=p.block)(u):dm b A (A.setCell p u):=⟨(PN _ _).setCell hp u,fun hn=>H7 _ _ _ hn⟩
def U9{cs c r}{o:Nat->Int}(h:∀j,cs.length<=j->o j=0):lJ cs 0 ⟨c,r,o⟩=lJ cs 0 ⟨c,r,fun _=>0⟩:=Eo (m:=cs.length) (by simp) ⟨rfl,rfl,fun j hj=>h j (by omega)⟩
def results_none{P}(t)(w):(results Tryz.f127 t).run P w=.ok (.tuple #[]) w:=by simp[results,Tryz.f127,go_sem]
def Ry{α:Type}(f:Nat->List α){a b}(h:a<=b):(List.range a).flatMap f <+: (List.range b).flatMap f:=by obtain⟨t,rfl⟩:=Nat.exists_eq_add_of_le h;rw[ae4,ae5];exact aje _ _
def acP{cs}{W H r c:Nat}(hr:r<H)(hc:c<W){q:List Sg}(hq:q <+: lJ cs 0 ⟨c,r,fun _=>0⟩):rows cs W r++cols cs r c++q <+: rows cs W H:=by
 have h1:cols cs r c++q <+: cols cs r W:=by refine List.IsPrefix.trans ?_ (Ry _ (show c+1<=W from hc));have:=RJ cs r c;unfold cols at this⊢;rw[this];exact(ajd _).2 hq
 have h2:rows cs W r++cols cs r W <+: rows cs W H:=by rw[<-QL];exact Ry _ (show r+1<=H from hr)
 rw[Lj];exact((ajd _).2 h1).trans h2
def Tryz.aa1(W H:Nat)(F:Int)(Bc:Nat)(ac aw:aB Addr)(kc nw kw n:Nat)(su:ae)(cs:List (Int×Int))(X:Nat->Prop)(w0:ay)(hX:∀k,X k->k<w0.heap.size)(hXc:¬X Bc)(hXa:∀b o,ac=some ⟨b,o,none⟩->¬X b)(hW2:W<=7)(hH2:H<=7)(hm:cs.length<=3)(hcs:∀r∈cs,-3<=r.1/\r.1<=r.2/\r.2<=3)(hc0:w0.heap[Bc]?=some (.cells #[.int .i64 W,.int .i64 H,.int .i64 F,.slice ac cs.length kc,.slice aw nw kw,su] 81 (0,0)))(hrd:Lp w0 ac cs)(hac:∀b o,ac=some ⟨b,o,none⟩->b<w0.heap.size):afa Fence.wide n Tryz.prog 127 #[.pointer (some ⟨Bc,0,none⟩)] (fun s=>#[aet s]) X (fun xs=>xs=rows cs W H) (fun pre=>pre <+: rows cs W H) w0:=by
 intro l J Jx w hW hJ hJx hY h0;have hBc:Bc<w0.heap.size:=(aP.1 hc0).1;have hsz:=hW.size;obtain⟨B,hB⟩:∃B:FB,B=⟨Bc,w.heap.size,w.heap.size+1,w.heap.size+2,l⟩:=⟨_,rfl⟩;have hBcs:B.c=Bc/\B.y=w.heap.size/\B.s=w.heap.size+1/\B.f=w.heap.size+2/\B.l=l:=by subst hB;exact⟨rfl,rfl,rfl,rfl,rfl⟩
 have⟨e1,e2,e3,e4,e5⟩:=hBcs;have hOff:Off X B ac:=⟨by rw[e1];exact hXc,fun h=>by have:=hX _ h;omega,fun h=>by have:=hX _ h;omega,fun h=>by have:=hX _ h;omega,hXa⟩;have hDif:Dif B ac:=⟨by omega,by omega,by omega,fun b o h=>by have:=hac b o h;omega⟩;have HE:B.c=Bc/\B.y=w.heap.size/\B.s=w.heap.size+1/\B.f=w.heap.size+1+1/\B.l=l:=⟨e1,e2,e3,e4,e5⟩;obtain⟨w2,hw2⟩:∃w2,(((w.alloc (.cells #[.func (.yield l) #[] #[]] 166)).alloc (.cells #[.int .i64 0,.int .i64 0,.int .i64 0,.int .i64 0,.int .i64 0] 89)).alloc (.cells #[.nilFunc] 103))=w2:=⟨_,rfl⟩;have q0:w2.heap[w.heap.size+1+1]?=some (.cells #[.nilFunc] 103 (0,0)):=by rw[<-hw2];have:=iq ((w.alloc (.cells #[.func (.yield l) #[] #[]] 166)).alloc (.cells #[.int .i64 0,.int .i64 0,.int .i64 0,.int .i64 0,.int .i64 0] 89)) (.cells #[.nilFunc] 103);simpa using this
 have q1:w2.heap[w.heap.size+1]?=some (.cells #[.int .i64 0,.int .i64 0,.int .i64 0,.int .i64 0,.int .i64 0] 89 (0,0)):=by rw[<-hw2];have:=iq (w.alloc (.cells #[.func (.yield l) #[] #[]] 166)) (.cells #[.int .i64 0,.int .i64 0,.int .i64 0,.int .i64 0,.int .i64 0] 89);refine(iV _ _ _ (by simp)).trans ?_;simpa using this
 have q2:w2.heap[w.heap.size]?=some (.cells #[.func (.yield l) #[] #[]] 166 (0,0)):=by rw[<-hw2];exact(iV _ _ _ (by simp<;>omega)).trans ((iV _ _ _ (by simp)).trans (iq w _))
 have st:dm w.heap.size w w2:=by rw[<-hw2];exact((dm.obj (aA _) rfl).trans (dm.obj (by simp) rfl)).trans (dm.obj (by simp<;>omega) rfl)
 have q3:w2.heap[Bc]?=some (.cells #[.int .i64 W,.int .i64 H,.int .i64 F,.slice ac cs.length kc,.slice aw nw kw,su] 81 (0,0)):=(st.below.block _ (by omega)).trans ((hW.block _ hBc).trans hc0);have qr:Lp w2 ac cs:=fun i hi=>by have⟨b,o,h1,h2,h3,h4⟩:=hrd i hi;have hb:w2.heap[b]?=w0.heap[b]?:=(st.below.block _ (by omega)).trans (hW.block _ h2);exact⟨b,o,h1,bT (by omega) st.below.size,(xC (a:=⟨b,_,none⟩) hb).trans h3,(xC (a:=⟨b,_,none⟩) hb).trans h4⟩
 obtain⟨w3,hw3⟩:∃w3,w2.setCell ⟨w.heap.size+1+1,0,none⟩ (.func (.func 128) #[] #[.pointer (some ⟨Bc,0,none⟩),.pointer (some ⟨w.heap.size,0,none⟩),.pointer (some ⟨w.heap.size+1,0,none⟩),.pointer (some ⟨w.heap.size+1+1,0,none⟩)])=w3:=⟨_,rfl⟩;have st3:dm w.heap.size w2 w3:=by rw[<-hw3];exact dm.zo (by simp;omega) _
 have ho:∀k,k≠w.heap.size+1+1->w3.heap[k]?=w2.heap[k]?:=fun k hk=>by rw[<-hw3];exact Bo _ _ _ _ hk
 have hM:FM B W H F ac aw kc nw kw su cs w3 ⟨0,0,fun _=>0⟩:=by
  refine⟨?_,?_,?_,?_,?_⟩
  .rw[e1,ho _ (by omega)];exact q3
  .rw[e2,e5,ho _ (by omega)];exact q2
  .rw[e1,e2,e3,e4,<-hw3];exact JI q0
  .rw[e3,ho _ (by omega)];exact q1
  intro i hi;have⟨b,o,h1,h2,h3,h4⟩:=qr i hi;have hb:w3.heap[b]?=w2.heap[b]?:=ho b (by have:=hac b o h1;omega);exact⟨b,o,h1,by rw[<-hw3];simp[World.setCell];exact h2,(xC (a:=⟨b,_,none⟩) hb).trans h3,(xC (a:=⟨b,_,none⟩) hb).trans h4⟩
 have hj3:J [] w3:=hJ _ _ _ (hJ _ _ _ h0 st) st3;have hJs:∀pre A j v,J pre A->J pre (A.setCell ⟨B.s,j,none⟩ v):=fun pre A j v h=>hJ _ _ _ h (dm.zo (by rw[e3];simp) v);have hYs:∀m pre s W1,J pre W1->YieldAt Fence.wide m Tryz.prog B.l #[aet s] W1 fun e W'=>(e=.returned (.bool true)/\J (pre++[s]) W'/\qL X W1 W')\/(e=.returned (.bool false)/\Jx (pre++[s]) W'):=fun m pre s W1 h=>by rw[e5];exact acs rfl m (hY pre s W1 h)
 have HF:=az (fun n pre s w=>Tryz.fill B W H F ac aw kc nw kw su cs X hOff hDif J Jx hm hcs hJs hYs cs 0 n pre s w rfl (by simp));have f0:w2.cell? ⟨w.heap.size+1+1,0,none⟩=some .nilFunc:=ah q0 0;have f1:=iJ q0 0;have c1:w3.cell? ⟨Bc,1,none⟩=some (.int .i64 H):=by rw[<-e1];exact ah hM.hc 1
 have HM:=az hM;have HK:=az hj3;have HS:=az hJs;have HD:=az hDif;have HE':=az HE;have hww:w.heap.size+1<w.heap.size+1+1:=by omega
 clear hB e1 e2 e3 e4 e5 hW hc0 hrd h0 hX hXc hXa hcs hac hJ hJx hY hOff hDif hM hj3 hJs hYs ho st3 q0 q1 q2 q3 qr st HE;have z1:=@Y6;have z2:=@Tryz.zeroValue103;refine F8 Tryz.func127 rfl trivial ?_ rfl;simp only[Tryz.ntmps127,oq,List.length_cons,List.length_nil,Nat.reduceAdd,Nat.reduceSub,xG,Array.replicate_zero,uo,xE,List.nil_append,List.cons_append];gi_wp2;refine EE ?_;gi_wp2;refine wpIn_label ?_;gi_wp2;gi_loopw [12] (fun v wr=>∃(r:Nat) (s':Sg),r<=H/\v=.int .i64 r/\FM B W H F ac aw kc nw kw su cs wr s'/\(∀j,cs.length<=j->s'.o j=0)/\J (rows cs W r) wr) (fun v _=>H-(intOf v).toNat);case atStart=>exact⟨0,_,gy _,rfl,HM.out,fun _ _=>rfl,HK.out⟩
 case round=>
  clear HM HK f0 f1 c1;obtain⟨r,s',hr,rfl,hM,hz,hj⟩:=hrel;have c0:wr.cell? ⟨Bc,0,none⟩=some (.int .i64 W):=by rw[<-HE'.out.1];exact ah hM.hc 0
  have HM:=az hM;have HK:=az hj;have HZ:=az hz;clear hM hz hj;by_cases hlt:r<H
  .have hlt':(r:Int)<(H:Int):=by omega
   gi_wp2;have pz:(decide ((r:Int)<(H:Int)))=true:=rU hlt';gi_loopw [19] (fun v wr'=>∃(c:Nat) (s':Sg),c<=W/\v=.int .i64 c/\FM B W H F ac aw kc nw kw su cs wr' s'/\(∀j,cs.length<=j->s'.o j=0)/\J (rows cs W r++cols cs r c) wr') (fun v _=>W-(intOf v).toNat);case atStart=>exact⟨0,_,gy _,rfl,HM.out,HZ.out,by simpa[cols] using HK.out⟩
   case round=>
    clear HM HK HZ c0 s';obtain⟨c,s',hc,rfl,hM,hz,hj⟩:=hrel;have E:=HE'.out;have s0:wr.cell? ⟨w.heap.size+1,0,none⟩=some (.int .i64 s'.e):=by rw[<-E.2.2.1];exact ah hM.hs 0
    have s1:wr.cell? ⟨w.heap.size+1,1,none⟩=some (.int .i64 s'.n):=by rw[<-E.2.2.1];exact ah hM.hs 1
    have g0:wr.frozen? ⟨w.heap.size+1,0,none⟩=false:=by rw[<-E.2.2.1];exact iJ hM.hs 0
    have g1:wr.frozen? ⟨w.heap.size+1,1,none⟩=false:=by rw[<-E.2.2.1];exact iJ hM.hs 1
    by_cases hlc:c<W
    .have hlc':(c:Int)<(W:Int):=by omega
     have hM2:=hM.sq HD.out c r;have hj2:=HS.out _ _ 1 (.int .i64 r) (HS.out _ _ 0 (.int .i64 c) hj);have hcall:=HF.out (n-1) _ _ _ hM2 hj2;have hf:((wr.setCell ⟨w.heap.size+1,0,none⟩ (.int .i64 c)).setCell ⟨w.heap.size+1,1,none⟩ (.int .i64 r)).cell? ⟨w.heap.size+1+1,0,none⟩=some (.func (.func 128) #[] #[.pointer (some ⟨Bc,0,none⟩),.pointer (some ⟨w.heap.size,0,none⟩),.pointer (some ⟨w.heap.size+1,0,none⟩),.pointer (some ⟨w.heap.size+1+1,0,none⟩)]):=by have:=ah hM2.hf 0;rw[E.1,E.2.1,E.2.2.1,E.2.2.2.1] at this;exact this
     rw[E.1,E.2.1,E.2.2.1,E.2.2.2.1] at hcall;replace hcall:=hcall;change CallsIn Fence.wide (n-1) Tryz.prog 128 #[.int .i64 0,.pointer (some ⟨Bc,0,none⟩),.pointer (some ⟨w.heap.size,0,none⟩),.pointer (some ⟨w.heap.size+1,0,none⟩),.pointer (some ⟨w.heap.size+1+1,0,none⟩)] _ _ at hcall;have HC:=az hcall;have HZ:=az hz;clear hcall hM hM2 hj hj2 hz E;gi_wp2;refine⟨trivial,fun h=>(by cases h),?_⟩;refine HC.out.mono ?_;clear HC hf;rintro e W2 (⟨rfl,hJ2,s2,hM2,hA2⟩|⟨rfl,q,hq,hx2⟩)
     .rw[U9 HZ.out] at hJ2;have hk1:J (rows cs W r++cols cs r (c+1)) W2:=by
       rw[RJ,<-Lj];exact hJ2
      have hz2:∀j,cs.length<=j->s2.o j=0:=fun j hj=>(hA2.o j (.inr hj)).trans (HZ.out j hj);gi_wp2;go_roundw;case rel=>exact⟨c+1,s2,hlc,by go_num,hM2,hz2,hk1⟩
      case measure=>simp[intOf];omega
     rw[U9 HZ.out] at hq;gi_wp2;refine⟨rfl,.tuple #[],results_none _ _,⟨_,rfl⟩,.inr ⟨_,acP hlt hlc hq,hx2⟩⟩
    have hgc:(W:Int)<=(c:Int):=by omega
    have hcW:c=W:=by omega
    have HM:=az hM;have HZ:=az hz;have HK:=az hj;clear E hM hz hj;gi_wp2;go_roundw;case rel=>exact⟨r+1,s',hlt,by go_num,HM.out,HZ.out,by rw[QL];have:=HK.out;rw[hcW] at this;exact this⟩
    case measure=>simp[intOf];omega
  have hge:(H:Int)<=(r:Int):=by omega
  have hrH:r=H:=by omega
  gi_wp2;refine⟨rfl,.tuple #[],results_none _ _,⟨_,rfl⟩,.inl ⟨_,rfl,by have:=HK.out;rw[hrH] at this;exact this⟩⟩
end
end Go.Proofs
