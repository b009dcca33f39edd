import Derived.Conc.CrowdRun
import Derived.Test.YtjilljfmaknihaaGreatA18
set_option linter.all false
namespace Go
def gG:=@Go.Conc.Goes.stop
def PM:=@Go.Conc.woken_quitsD
end Go
namespace Go.Crew
open Go.Conc Go.ConcN Go.Ren
open Go.ConcR (WgAt stA smA)
section
variable[aX]
section
variable{P:aH}{ty:aZ}{Wg Ch:Nat}{Ro Shr:Nat->Prop}{o n cap:Nat}{Anch Done:Stops}{pay:Nat->aB ae}{rz:Nat}{tm:Bool}{x:St}{gs:Array dD}{w:ay}{t:Trace}{st sm:Int}
theorem Base.at{j own}(h:Base Ro Shr o j own w t)(d):Base Ro Shr o j own (w.at d) t:=⟨h.ap,h.BJ,h.nU,h.wH,h.ct,h.low,h.told⟩
theorem Inv.at(h:Inv P ty Wg Ch Ro Shr o n cap Anch Done pay rz tm x gs w t st sm)(d):Inv P ty Wg Ch Ro Shr o n cap Anch Done pay rz tm x gs (w.at d) t st sm:=⟨h.size,h.started,h.le,h.oj,h.shr,h.hid,h.elder,h.OW,h.pno,h.base.at d,fun i=>⟨(h.rely i).size,(h.rely i).keep,(h.rely i).cells,⟨(h.rely i).chans.chan,(h.rely i).chans.os,(h.rely i).chans.output⟩⟩,h.wk,h.main,h.norel,h.deaf0,h.deafW,h.Iz,h.rel,h.wg,h.mode,h.chan,h.nodup,h.ru,h.nY,h.stages⟩
theorem WSit.running_of{i g}(h:WSit P ty Wg Ch Ro pay x i g)(hs:(x.D i).stage≠1):g.status=.running:=by
 unfold WSit at h;split at h
 .obtain⟨rfl,h⟩:=h;exact h.status
 exact absurd h.1 hs
theorem Inv.afA(h:Inv P ty Wg Ch Ro Shr o n cap Anch Done pay rz tm x gs w t st sm):∃(i:Nat) (g:dD),gs[i]?=some g/\g.status=.running:=by
 have⟨a,ha,hm⟩:=h.main;unfold uA at hm;split at hm
 .obtain⟨rfl,hw⟩:=hm;exact⟨0,_,ha,hw.status⟩
 have⟨e,_⟩:=hm;have b:=h.mode;rw[e] at b;cases b with
 |opn h1 _ _=>exact h1.elim
 |reg _ _ c=>
 have⟨i,hi,h5⟩:=exists_counted c;have⟨g,hg,hs⟩:=h.wk i hi;exact⟨i+1,g,hg,hs.running_of (by omega)⟩
 |last L _ h2 c _=>
 have⟨g,hg,hs⟩:=h.wk L h2;exact⟨L+1,g,hg,hs.running_of (by omega)⟩
 |fin h1 _=>exact h1.elim
theorem Inv.awake(h:Inv P ty Wg Ch Ro Shr o n cap Anch Done pay rz tm x gs w t st sm):∀g∈gs,awake g:=by
 intro g hg tm';have⟨i,hi⟩:=Array.mem_iff_getElem?.1 hg;cases i with
 |zero=>
 have⟨a,ha,hm⟩:=h.main;rw[ha] at hi;cases hi;unfold uA at hm;split at hm
 .obtain⟨rfl,hw⟩:=hm;rw[hw.status];simp
 obtain⟨_,rfl,_⟩:=hm;simp
 |succ i=>
 have c:i<x.j:=by have:=(aP.1 hi).1;rw[h.size] at this;omega
 have⟨g',b,hs⟩:=h.wk i c;rw[hi] at b;cases b;rcases hs.status with h|h<;>rw[h]<;>simp
theorem Inv.step(h:Inv P ty Wg Ch Ro Shr o n cap Anch Done pay rz tm x gs w t st sm)(e:Ch≠Wg)(c:n-o<=cap)(hn:n-o<2147483648)(l:∀g w own,Anch g w own->bu P Ro (Live ty Wg Ch) true (kM Wg (Zk P ty Wg Ch Ro Anch Done)) ⟨g,w,own⟩)(sl):(∃gs' w' a x' ops st' sm',stepT P (crowd gs w sl)=(.next (crowd gs' w' a),ops)/\Inv P ty Wg Ch Ro Shr o n cap Anch Done pay rz tm x' gs' w' (t++ops) st' sm'/\Turn P ty Wg Ch Ro n Anch Done pay x' x) \/ ∃gs' w' a x' ops,stepT P (crowd gs w sl)=(.next (crowd gs' w' a),ops)/\Over P ty Wg Ch Ro Shr o n cap Done pay rz tm x' gs' w' (t++ops):=by
 obtain⟨i,g,d,a,hg,hrun,b⟩:=crowd_pick h.awake h.afA;rw[b];have h':=h.at d;cases i with
 |zero=>
 rcases h'.Vt e hn l a hg hrun with⟨gs',w',x',ops,st',sm',k,f,m⟩|⟨gs',x',ops,k,f⟩
 .exact .inl ⟨gs',w',a,x',ops,st',sm',k,f,m⟩
 exact .inr ⟨gs',_,a,x',ops,k,f⟩
 |succ i=>
 have hi:i<x.j:=by have:=(aP.1 hg).1;rw[h.size] at this;omega
 obtain⟨gs',w',x',ops,st',sm',k,f,m⟩:=h'.stepWorker e c hn a hi hg hrun;exact .inl ⟨gs',w',a,x',ops,st',sm',k,f,m⟩
def yX(P:aH)(ty:aZ)(Wg Ch:Nat)(Ro Shr:Nat->Prop)(o n cap:Nat)(Anch Done:Stops)(pay:Nat->aB ae)(rz:Nat)(tm:Bool)(x:St):Prop:=∀gs w sl t st sm,Inv P ty Wg Ch Ro Shr o n cap Anch Done pay rz tm x gs w t st sm->∃N gs' w' sl' t' x',runNT P N (crowd gs w sl) t=(.next (crowd gs' w' sl'),t')/\Over P ty Wg Ch Ro Shr o n cap Done pay rz tm x' gs' w' t'
theorem ab4(T:Ch≠Wg)(p:n-o<=cap)(hn:n-o<2147483648)(J:∀g w own,Anch g w own->bu P Ro (Live ty Wg Ch) true (kM Wg (Zk P ty Wg Ch Ro Anch Done)) ⟨g,w,own⟩):∀(c) (x),cost n x=c->yX P ty Wg Ch Ro Shr o n cap Anch Done pay rz tm x:=by
 intro c;induction c using Nat.strongRecOn with
 |ind c ihc=>
  have z:∀(s:Nat->aB Kind) (j) (f),Acc (One (fun i=>ahd P ty Wg Ch Ro (s i)) j) f->∀x,cost n x=c->x.j=j->(∀i,i<j->x.kind P ty Wg Ch Ro pay i=s i)->x.wk=f->yX P ty Wg Ch Ro Shr o n cap Anch Done pay rz tm x:=by
   intro s j f q;induction q with
   |intro f _ C=>
    have key:∀x,cost n x=c->x.j=j->(∀i,i<j->x.kind P ty Wg Ch Ro pay i=s i)->x.wk=f->(∀x',cost n x'=c->x'.j=j->(∀i,i<j->x'.kind P ty Wg Ch Ro pay i=s i)->x'.wk=f->((x'.tag=x.tag/\∃k,zT P ty Wg Ch Ro n Anch Done pay x.tag=some k/\Child P Ro (Live ty Wg Ch) true k (x'.f 0) (x.f 0))\/(x.tag=.w3/\x'.tag=.blk))->yX P ty Wg Ch Ro Shr o n cap Anch Done pay rz tm x')->yX P ty Wg Ch Ro Shr o n cap Anch Done pay rz tm x:=by
     intro x hc hj hs hf d gs w sl t st sm hI;rcases hI.step T p hn J sl with⟨gs',w',b,x',ops,st',sm',L,K,S⟩|⟨gs',w',b,x',ops,L,K⟩
     .have E:yX P ty Wg Ch Ro Shr o n cap Anch Done pay rz tm x':=by
       cases S with
       |less h=>exact ihc _ (hc▸h) x' rfl
       |worker h e F ho=>
       have⟨i,hi,h1,h2⟩:=ho;refine C x'.wk ⟨i,hj▸hi,?_,fun i' G=>by rw[<-hf];exact h2 i' G⟩ x' (h.trans hc) (e.trans hj) (fun i hi=>?_) rfl
       .show ahd P ty Wg Ch Ro (s i) _ (f i);rw[<-hs i (hj▸hi),<-hf];exact h1
       rw[<-hs i hi];have⟨R,Q⟩:=F i (by rw[hj];exact hi);unfold St.kind;rw[R,Q]
       |main h e hD hp H ho=>
       refine d x' (h.trans hc) (e.trans hj) (fun i hi=>?_) ?_ ho
       .rw[<-hs i hi];unfold St.kind;rw[hD,hp]
       rw[<-hf];funext i;unfold St.wk;rw[H i,hD]
      have⟨N,u,y,l,A,v,O,M⟩:=E gs' w' b _ st' sm' K;exact⟨N+1,u,y,l,A,v,by simp[runNT,L];exact O,M⟩
     exact⟨1,gs',w',b,_,x',by simp[runNT,L],K⟩
    have blk:∀x,cost n x=c->x.j=j->(∀i,i<j->x.kind P ty Wg Ch Ro pay i=s i)->x.wk=f->x.tag=.blk->yX P ty Wg Ch Ro Shr o n cap Anch Done pay rz tm x:=fun x hc hj hs hf ht=>
     key x hc hj hs hf fun x' _ _ _ _ ho=>by
      rcases ho with⟨_,k,hk,_⟩|⟨h,_⟩
      .rw[ht] at hk;cases hk
      rw[ht] at h;cases h
    have run:∀(k) (r),Acc (Child P Ro (Live ty Wg Ch) true k) r->∀x,cost n x=c->x.j=j->(∀i,i<j->x.kind P ty Wg Ch Ro pay i=s i)->x.wk=f->zT P ty Wg Ch Ro n Anch Done pay x.tag=some k->x.f 0=r->yX P ty Wg Ch Ro Shr o n cap Anch Done pay rz tm x:=by
     intro k r ha;induction ha with
     |intro r _ B=>
     intro x hc hj hs hf hk hr;refine key x hc hj hs hf fun x' c1 c2 c3 c4 ho=>?_;rcases ho with⟨ht,k',m,I⟩|⟨_,h2⟩
     .rw[hk] at m;obtain rfl:=aN m;exact B _ (hr▸I) x' c1 c2 c3 c4 (by rw[ht];exact hk) rfl
     exact blk x' c1 c2 c3 c4 h2
    intro x hc hj hs hf gs w sl t st sm hI;have⟨a,ha,hm⟩:=hI.main;unfold uA at hm;split at hm
    .exact run _ _ (JG hm.2) x hc hj hs hf ‹_› rfl gs w sl t st sm hI
    exact blk x hc hj hs hf hm.1 gs w sl t st sm hI
  intro x hc gs w sl t st sm hI;refine z (fun i=>x.kind P ty Wg Ch Ro pay i) x.j x.wk (Si _ _ _ fun i hi=>?_) x hc rfl (fun _ _=>rfl) rfl gs w sl t st sm hI;have⟨g,_,hs⟩:=hI.wk i hi;unfold WSit at hs;cases hk:x.kind P ty Wg Ch Ro pay i with
  |some k=>
  rw[show qP P ty Wg Ch Ro _ _ (x.D i).stage=some k from hk] at hs;exact InvImage.accessible (f:=fun a:Rank×Nat=>a.1) (JG hs.2)
  |none=>exact InvImage.accessible (f:=fun a:Rank×Nat=>a.2) (Nat.lt_wfRel.wf.apply _)
end
end
open Go.ConcR (g_of_ofEvents KK)
section
variable[aX]
def zS(own:Nat->Prop):Nat->Nat->Prop:=fun k b=>k=0/\own b
structure Calm(P:aH)(Ro Shr:Nat->Prop)(o:Nat)(own:Nat->Prop)(gs:Array dD)(w:ay)(t:Trace)(q:Nat->Nat):Prop where
 base:Base Ro Shr o o (zS own) w t
 OW:xM o t
 hears:Deaf t 0=0
 size:gs.size=o+1
 old:∀i,i<o->∃g,gs[i+1]?=some g/\QuitsD P (q i) (Deaf t (i+1)) g
section
variable{P:aH}{ty:aZ}{Wg Ch:Nat}{Ro Shr:Nat->Prop}{o n cap:Nat}{Anch Done:Stops}{pay:Nat->aB ae}{rz:Nat}{tm:Bool}{own:Nat->Prop}{gs:Array dD}{w:ay}{t:Trace}{q:Nat->Nat}
theorem aaP(own own'):upd (zS own) 0 own'=zS own':=by
 funext k b;by_cases e:k=0
 .subst e;rw[upd_same];simp[zS]
 rw[bQ _ _ e];simp[zS,e]
theorem Q3(own):zS own 0=own:=by funext b;simp[zS]
theorem Calm.handed(h:Calm P Ro Shr o own gs w t q):t.HandedOver:=fun i g hg hne hc=>by have⟨op,ho,a⟩:=BX.1 hg;exact h.OW i g hg hne (by have:=h.base.ct.gs i op ho;omega) hc
theorem Wh{t i j}(hj:t.g? j=some 0)(hb:HappensBefore t i j):Knows t 0 i:=by have⟨op,ho,a⟩:=BX.1 hj;exact⟨j,op,ho,a,.inr hb⟩
theorem Ec{t}(h1:Told Shr t)(h2:t.HandedOver){l}(hl:¬QB Shr l):Perm t 0 l:=by
 intro i a ha d;have⟨x,hx,c⟩:=touch_of ha;rcases h1 i x a hx c with b|b|⟨b,_⟩
 .rw[<-b];exact knows_own hx
 .by_cases e:x.g=0
  .rw[<-e];exact knows_own hx
  have⟨j,hj,hb⟩:=h2 i x.g (by simp[Trace.g?,hx]) e b;exact Wh hj hb
 exact absurd (d▸b) hl
theorem Calm.enter{a}(h:Calm P Ro Shr o a.own gs w t q){r}(ha:gs[0]?=some a.g)(hr:bP Ro a.own a.w w)(hs:Spawns P ty Wg Ch Ro (o+r) Anch pay r a)(c:Shr Wg/\Shr Ch)(l:∀b,aX.ch b->Shr b)(m:WgAt ty Wg w 0 0)(s:w.heap[Ch]?=some (.chan cap #[] false 0 rz tm))(p:NoRelease (stA Wg) t)(hp:∀i,i<o->pay i=none):∃x,Inv P ty Wg Ch Ro Shr o (o+r) cap Anch Done pay rz tm x gs w t 0 0/\x.f 0=a:=by
 obtain⟨k,hk,hw⟩:=Kq hs;refine⟨{j:=o,D:=fun i=>⟨1,q i,Deaf t (i+1)⟩,paid:=fun _=>false,tag:=iO r,f:=fun k=>if k=0 then a else⟨a.g,w,fun _=>False⟩,sent:=[]},⟨h.size,by rw[H9],by show o+pend _<=o+r;rw[uZ];omega,aA _,c,l,fun _ _=>rfl,h.OW,hp,?_,fun k=>?_,fun i hi=>?_,⟨a.g,ha,?_⟩,p,?_,fun _ _=>rfl,fun _ _ h1=>absurd rfl h1,fun i (h1:o<=i) (h2:i<o)=>absurd h2 (PG.2 h1),m,?_,s,by simp,fun i=>by simp,fun i hi _ d=>?_,fun _ _=>⟨aA 1,(by decide:1<=7)⟩⟩,rfl⟩
 .have:(St.own {j:=o,D:=fun i=>⟨1,q i,Deaf t (i+1)⟩,paid:=fun _=>false,tag:=iO r,f:=fun k=>if k=0 then a else⟨a.g,w,fun _=>False⟩,sent:=[]})=zS a.own:=by
   funext k b;show(if k=0 then a else⟨a.g,w,fun _=>False⟩:Rank).own b=_
   by_cases e:k=0
   .subst e;simp[zS]
   simp[zS,e]
  rw[this];exact h.base
 .show bP Ro (if k=0 then a else⟨a.g,w,fun _=>False⟩:Rank).own (if k=0 then a else⟨a.g,w,fun _=>False⟩:Rank).w w
  split
  .exact hr
  exact bP.refl _ _ _
 .obtain⟨g,hg,y⟩:=h.old i hi
  exact⟨g,hg,by unfold WSit;exact⟨rfl,y⟩⟩
 .unfold uA
  rw[hk];exact⟨rfl,hw⟩
 .rw[h.hears];exact(Ia r).symm
 .show ConcN.Mode o (fun i=>_) _ 0 0
  have v:Vc o (fun i=>(⟨1,q i,Deaf t (i+1)⟩:WD))=0:=by
   have:=U2 (j:=o) (D:=fun i=>(⟨1,q i,Deaf t (i+1)⟩:WD)) (fun _ _=>rfl) (aA _)
   omega
  have e:(0:Int)=((Vc o (fun i=>(⟨1,q i,Deaf t (i+1)⟩:WD))+pend (iO r):Nat):Int)*KK:=by rw[v,uZ];simp
  have:=ConcN.Mode.opn (j:=o) (D:=fun i=>(⟨1,q i,Deaf t (i+1)⟩:WD)) (H8 r) (fun _ _=>.inr (.inr (.inr rfl))) (fun u e=>absurd e (Og r u))
  rwa[<-e] at this
 rw[hp i hi] at d;cases d
theorem Over.calm{x}(h:Over P ty Wg Ch Ro Shr o n cap Done pay rz tm x gs w t):Calm P Ro Shr n (x.own 0) gs w t (fun i=>(x.D i).fuel):=by
 have hh:xM n t:=by
  intro i g hg hne y hc;rcases kJ o g with a|f
  .have⟨q,u,d,p,j⟩:=h.acq;have⟨r,hr,m⟩:=j (g-1) (by omega) (by omega);rw[show g-1+1=g by omega] at hr;have c:HappensBefore t r q:=.single (.inr ⟨.marked m (.inr hr.act) u (fun k _ _=>h.norel k),hr.heard,p⟩);have z:=aaF fun a=>hr.after i a hg hc;rcases kJ i r with a|f
   .exact⟨q,d,.trans (.single (.inl ⟨a,g,hg,hr.g⟩)) c⟩
   obtain rfl:i=r:=by omega
   exact⟨q,d,c⟩
  exact h.OW i g hg hne f hc
 have e:t.HandedOver:=fun i g hg hne hc=>by have⟨op,ho,v⟩:=BX.1 hg;exact hh i g hg hne (by have:=h.base.ct.gs i op ho;omega) hc
 refine⟨⟨⟨h.base.ap.G8,fun k b hb=>h.base.ap.free 0 b hb.2,fun k k' b hb s=>hb.1.trans s.1.symm,fun k b hk hb=>by have:=hb.1;omega⟩,h.base.BJ,h.base.nU,fun k b hb=>h.base.wH 0 b hb.2,?_,h.base.low,h.base.told⟩,hh,h.deaf0,h.size,h.quits⟩;exact⟨h.base.ct.quiet,fun k k1 _ l ⟨b,_,hb⟩=>absurd hb.1 (by omega),fun k _ kn l hl=>absurd hl.1 (by omega),fun l hs _=>Ec h.base.told e hs,fun l hs _=>PermW.of (Ec h.base.told e hs),h.base.ct.nr,h.base.ct.gs⟩
end
end
open Go.ConcR (bk_of_mute)
section
variable{P:aH}{Ro Shr:Nat->Prop}{o:Nat}
theorem Oa{es:Array Event}(h:∀e∈es,e.mute=true)(A):∀e∈es,e.loc≠.mark (.release A):=fun e he=>by
 rcases bk_of_mute (Wg:=A.block) (h e he) with h1|h1|⟨a,wr,rfl,_⟩
 .rw[h1];simp
 .rw[h1];simp
 simp
theorem Jl{A g fn pos es}(h:∀e∈es,e.loc≠.mark (.release A)):∀op∈MemOp.ofEvents g fn pos es,op.act≠.mark (.release A):=by intro op a e;obtain⟨x,hx,rfl⟩:=Gn a;exact h x hx (Go.ConcR.loc_of_ofEvent e)
structure Since(Shr:Nat->Prop)(w w':ay)(t t':Trace):Prop where
 size:w.heap.size<=w'.heap.size
 shr:∀b,b<w.heap.size->Shr b->w'.heap[b]?=w.heap[b]?
 norel:∀A,NoRelease A t->NoRelease A t'
 same:w'={w with heap:=w'.heap,drawn:=w'.drawn}
theorem Since.refl(w)(t):Since Shr w w t t:=⟨aA _,fun _ _ _=>rfl,fun _ h=>h,rfl⟩
theorem Since.trans{w w1 w2 t t1 t2}(h:Since Shr w w1 t t1)(h':Since Shr w1 w2 t1 t2):Since Shr w w2 t t2:=⟨bM h.size h'.size,fun b hb hs=>(h'.shr b (bT hb h.size) hs).trans (h.shr b hb hs),fun A h0=>h'.norel A (h.norel A h0),by rw[h'.same,h.same]⟩
theorem La{Live}(m:∀w w',(∀b,Shr b->w'.heap[b]?=w.heap[b]?)->Live w->Live w'){k}(hX:∀e,k.X e->XOK Shr 0 e){a}(n:bu P Ro Live true k a):∀(M) (gs) (w) (sl) (t) (q),sumTo o q<=M->gs[0]?=some a.g->bP Ro a.own a.w w->Live w->Calm P Ro Shr o a.own gs w t q->∃(N:Nat) (gs':Array dD) (a':Rank) (w':ay) (r:aB (Nat×Nat)) (t':Trace) (L:Nat->Nat),runNT P N (crowd gs w sl) t=(.next (crowd gs' w' r),t')/\gs'[0]?=some a'.g/\bu P Ro Live true k a'/\uB Ro Live k a'/\bP Ro a'.own a'.w w'/\Calm P Ro Shr o a'.own gs' w' t' L/\Since Shr w w' t t'/\(∀b,a.own b->a'.own b)/\Live w'/\(k.quiet=true->w'.heap=w.heap):=by
 have U:=JG n;induction U with
 |intro a _ ih=>
  intro M;induction M using Nat.strongRecOn with
  |ind M Y=>
   intro gs w sl t q hM h0 hr V hC;by_cases z:uB Ro Live k a
   .exact⟨0,gs,a,w,sl,t,q,rfl,h0,n,z,hr,hC,.refl w t,fun _ h=>h,V,fun _=>rfl⟩
   have hrun:=n.status;have hold:∀i g,0<i->gs[i]?=some g->i-1<o/\QuitsD P _ _ g:=fun i g hi hg=>by
    have s:i-1<o:=by have:=(aP.1 hg).1;rw[hC.size] at this;omega
    have⟨g',T,E⟩:=hC.old _ s;rw[show i-1+1=i by omega,hg] at T;obtain rfl:=aN T;rw[show i-1+1=i by omega] at E;exact⟨s,E⟩
   have haw:∀g∈gs,awake g:=by
    intro g hg;obtain⟨i,hi,rfl⟩:=Array.mem_iff_getElem.1 hg;rcases uu i with rfl|B
    .have:gs[0]=a.g:=by simpa[gu hi] using h0
     rw[this];exact awake_of (.inl hrun)
    exact awake_of ((hold i _ B (gu hi)).2.status.elim .inl fun x=>.inr (.inr x))
   have⟨i,g,d,r,hi,hg,hst⟩:=crowd_pick (P:=P) (w:=w) (sl:=sl) haw ⟨0,a.g,h0,hrun⟩;rcases uu i with rfl|B
   .
    obtain rfl:g=a.g:=by rw[h0] at hi;exact(aN hi).symm
    have Z:bP Ro a.own a.w (w.at d):=⟨hr.size,hr.keep,hr.cells,⟨hr.chans.chan,hr.chans.os,hr.chans.output⟩⟩;have⟨g',w',es,hgo,C,H,hch⟩:=n.step z Z (m w _ (fun _ _=>rfl) V);have S:Zl k.quiet k.X Ro (zS a.own 0) (more (zS a.own 0) (w.at d) w') (w.at d) w' es:=by rw[Q3];exact C
    have⟨W,b2,b3,b4⟩:=(hC.base.at d).way (i:=0) (gy _) (.inl rfl) hX (.inl rfl) S a.g.frame.fn a.g.frame.place;rw[Q3,aaP] at W;have l:=DR (P:=P) (sl:=r) (i:=0) hi (show stepG P _ a.g _=_ from hgo);have s:0<gs.size:=(aP.1 h0).1;have J:Calm P Ro Shr o (more a.own (w.at d) w') ((gs.map (woken P a.g g' w')).setIfInBounds 0 g') w' (t++MemOp.ofEvents 0 a.g.frame.fn a.g.frame.place es) q:=by refine⟨W,hC.OW.app fun op f=>.inl (qH op f),by rw[b4];exact hC.hears,by simp[hC.size],fun j hj=>?_⟩;have⟨y,hy,E⟩:=hC.old j hj;refine⟨y,by rw[xI _ _ _ _ (by omega),hy,Option.map_some,PM E],?_⟩;rw[b4];exact E
    have hmarks:∀A,∀e∈es,e.loc≠.mark (.release A):=fun A e he h1=>by
     rcases C.evs e he with D|D
     .unfold EvO at D;rw[h1] at D;cases D
     exact(hX e D).still.1 A h1
    have hS:Since Shr w w' t (t++MemOp.ofEvents 0 a.g.frame.fn a.g.frame.place es):=⟨C.size,fun b _ hb=>b3 b hb,fun A h0=>h0.app (Jl (hmarks A)),C.same⟩;have⟨N,gs',a',G,v,t',L,e1,e2,e3,e4,e5,e6,e7,e8,e9,K⟩:=ih _ hch H (sumTo o q) ((gs.map (woken P a.g g' w')).setIfInBounds 0 g') w' r (t++MemOp.ofEvents 0 a.g.frame.fn a.g.frame.place es) q (aA _) (by simp[s]) (bP.refl _ _ _) (m w _ (fun b hb=>b3 b hb) V) J;exact⟨N+1,gs',a',G,v,t',L,by simp only[runNT,hst,l];exact e1,e2,e3,e4,e5,e6,hS.trans e7,fun b hb=>e8 b (.inl hb),e9,fun F=>(K F).trans (by rw[(C.quiet F).1];rfl)⟩
   
   have⟨hio,E⟩:=hold i g B hi;have hi0:(i==0)=false:=by simp;omega
   have s:i<gs.size:=(aP.1 hi).1;cases I:q (i-1) with
   |zero=>rw[I] at E;rw[E.1] at hg;cases hg
   |succ c=>
   rw[I] at E;rcases E with⟨hf,_⟩|⟨_,g',es,hm,O,hq'⟩
   .rw[hf] at hg;cases hg
   have l:=DR (P:=P) (sl:=r) (i:=i) hi (by rw[hi0];exact O (w.at d));have hsum:sumTo o (upd q (i-1) c)+(c+1)=sumTo o q+c:=by have:=PO q c id hio;simpa[I] using this
   have p:∀op∈MemOp.ofEvents i g.frame.fn g.frame.place es,op.g=i/\op.act.touch? =none/\op.act.low (w.at d).heap.size:=fun op f=>by obtain⟨e,he,rfl⟩:=Gn f;exact⟨rfl,touch_mute (hm e he),low_mute (hm e he) _⟩
   have⟨W,b2⟩:=(hC.base.at d).shared (w':=w.at d) (i:=i) (by omega) rfl (fun _ _=>rfl) (.refl _) (.refl _) (u:=MemOp.ofEvents i g.frame.fn g.frame.place es) (fun op f=>⟨(p op f).1,fun x hx=>(by rw[(p op f).2.1] at hx;cases hx),(p op f).2.2⟩);have J:Calm P Ro Shr o a.own ((gs.map (woken P g g' (w.at d))).setIfInBounds i g') (w.at d) (t++MemOp.ofEvents i g.frame.fn g.frame.place es) (upd q (i-1) c):=by
    refine⟨W,hC.OW.app fun op f=>.inr (.inr (p op f).2.1),?_,by simp[hC.size],fun j hj=>?_⟩
    .rw[xK t (by omega) _ qH];exact hC.hears
    by_cases R:j=i-1
    .subst R;refine⟨g',by rw[show i-1+1=i by omega,Gi _ _ _ s],?_⟩;rw[upd_same,show i-1+1=i by omega,Gm];exact hq'
    have⟨y,hy,Q⟩:=hC.old j hj;refine⟨y,by rw[xI _ _ _ _ (by omega),hy,Option.map_some,PM Q],?_⟩;rw[bQ q c R,xK t (by omega) _ qH];exact Q
   have hS:Since Shr w (w.at d) t (t++MemOp.ofEvents i g.frame.fn g.frame.place es):=⟨aA _,fun _ _ _=>rfl,fun A h0=>h0.app (Jl (Oa hm A)),rfl⟩;have⟨N,gs',a',G,v,t',L,e1,e2,e3,e4,e5,e6,e7,e8,e9,K⟩:=Y (sumTo o (upd q (i-1) c)) (by omega) ((gs.map (woken P g g' (w.at d))).setIfInBounds i g') (w.at d) r (t++MemOp.ofEvents i g.frame.fn g.frame.place es) (upd q (i-1) c) (aA _)
    (by rw[xI _ _ _ _ (by omega),h0];simp[woken_run hrun])
    ⟨hr.size,hr.keep,hr.cells,⟨hr.chans.chan,hr.chans.os,hr.chans.output⟩⟩ (m w _ (fun _ _=>rfl) V) J
   exact⟨N+1,gs',a',G,v,t',L,by simp only[runNT,hst,l];exact e1,e2,e3,e4,e5,e6,hS.trans e7,e8,e9,fun F=>K F⟩
end
section
variable{P:aH}{Ro Shr:Nat->Prop}{o:Nat}{own:Nat->Prop}
theorem Ew{a}(hrun:a.status=.running):∀(M) (gs) (w) (sl) (t) (q),sumTo o q<=M->gs[0]?=some a->Calm P Ro Shr o own gs w t q->∃(N:Nat) (gs':Array dD) (d:Nat) (k B:aB (Nat×Nat)) (w':ay) (t':Trace) (J:Nat->Nat),runNT P N (crowd gs w sl) t=(.next (crowd gs' w' k),t')/\gs'[0]?=some a/\w'.heap=w.heap/\Calm P Ro Shr o own gs' w' t' J/\Since Shr w w' t t'/\stepT P (crowd gs' w' k)=runT P (crowd gs' (w'.at d) B) 0:=by
 intro M;induction M using Nat.strongRecOn with
 |ind M K=>
  intro gs w sl t q hM h0 hC;have hold:∀i g,0<i->gs[i]?=some g->i-1<o/\QuitsD P _ _ g:=fun i g hi hg=>by
   have m:i-1<o:=by have:=(aP.1 hg).1;rw[hC.size] at this;omega
   have⟨g',F,v⟩:=hC.old _ m;rw[show i-1+1=i by omega,hg] at F;obtain rfl:=aN F;rw[show i-1+1=i by omega] at v;exact⟨m,v⟩
  have R:∀g∈gs,awake g:=by
   intro g hg;obtain⟨i,hi,rfl⟩:=Array.mem_iff_getElem.1 hg;rcases uu i with rfl|l
   .have:gs[0]=a:=by simpa[gu hi] using h0
    rw[this];exact awake_of (.inl hrun)
   exact awake_of ((hold i _ l (gu hi)).2.status.elim .inl fun x=>.inr (.inr x))
  have⟨i,g,d,k,hi,hg,hst⟩:=crowd_pick (P:=P) (w:=w) (sl:=sl) R ⟨0,a,h0,hrun⟩;rcases uu i with rfl|l
  .exact⟨0,gs,d,sl,k,w,t,q,rfl,h0,rfl,hC,.refl w t,hst⟩
  have⟨O,v⟩:=hold i g l hi;have Q:(i==0)=false:=by simp;omega
  have m:i<gs.size:=(aP.1 hi).1;cases p:q _ with
  |zero=>rw[p] at v;rw[v.1] at hg;cases hg
  |succ c=>
  rw[p] at v;rcases v with⟨hf,_⟩|⟨_,g',es,hm,C,L⟩
  .rw[hf] at hg;cases hg
  have n:=DR (P:=P) (sl:=k) (i:=i) hi (by rw[Q];exact C (w.at d));have T:sumTo o (upd q (i-1) c)+(c+1)=sumTo o q+c:=by have:=PO q c id O;simpa[p] using this
  have h:∀op∈MemOp.ofEvents i g.frame.fn g.frame.place es,op.g=i/\op.act.touch? =none/\op.act.low (w.at d).heap.size:=fun op b=>by obtain⟨e,he,rfl⟩:=Gn b;exact⟨rfl,touch_mute (hm e he),low_mute (hm e he) _⟩
  have⟨b1,b2⟩:=(hC.base.at d).shared (w':=w.at d) (i:=i) (by omega) rfl (fun _ _=>rfl) (.refl _) (.refl _) (u:=MemOp.ofEvents i g.frame.fn g.frame.place es) (fun op b=>⟨(h op b).1,fun x hx=>(by rw[(h op b).2.1] at hx;cases hx),(h op b).2.2⟩);have S:Calm P Ro Shr o own ((gs.map (woken P g g' (w.at d))).setIfInBounds i g') (w.at d) (t++MemOp.ofEvents i g.frame.fn g.frame.place es) (upd q (i-1) c):=by
   refine⟨b1,hC.OW.app fun op b=>.inr (.inr (h op b).2.1),?_,by simp[hC.size],fun j hj=>?_⟩
   .rw[xK t (by omega) _ qH];exact hC.hears
   by_cases E:j=i-1
   .subst E;refine⟨g',by rw[show i-1+1=i by omega,Gi _ _ _ m],?_⟩;rw[upd_same,show i-1+1=i by omega,Gm];exact L
   have⟨y,hy,D⟩:=hC.old j hj;refine⟨y,by rw[xI _ _ _ _ (by omega),hy,Option.map_some,PM D],?_⟩;rw[bQ q c E,xK t (by omega) _ qH];exact D
  have hS:Since Shr w (w.at d) t (t++MemOp.ofEvents i g.frame.fn g.frame.place es):=⟨aA _,fun _ _ _=>rfl,fun A h0=>h0.app (Jl (Oa hm A)),rfl⟩;have⟨N,gs',d',I,H,G,t',J,Z,Y,X,W,V,U⟩:=K (sumTo o (upd q (i-1) c)) (by omega) ((gs.map (woken P g g' (w.at d))).setIfInBounds i g') (w.at d) k (t++MemOp.ofEvents i g.frame.fn g.frame.place es) (upd q (i-1) c) (aA _)
   (by rw[xI _ _ _ _ (by omega),h0];simp[woken_run hrun])
   S
  exact⟨N+1,gs',d',I,H,G,t',J,by simp only[runNT,hst,n];exact Z,Y,X,W,hS.trans V,U⟩
section
variable{gs:Array dD}{w w':ay}{t:Trace}{q:Nat->Nat}{sl:aB (Nat×Nat)}{a a':dD}
theorem Calm.ajS(h:Calm P Ro Shr o own gs w t q)(hs:w'.heap.size=w.heap.size)(hb:∀b,¬Shr b->w'.heap[b]?=w.heap[b]?)(hcl:dS w w')(j:tZ w w'){u}(hu:∀op∈u,op.g=0/\op.act.touch? =none/\op.act.low w.heap.size)(hd:Deaf (t++u) 0=0){gs'}(d:gs'.size=gs.size)(e:∀i,i<o->gs'[i+1]?=gs[i+1]?):Calm P Ro Shr o own gs' w' (t++u) q:=by have⟨l,_⟩:=h.base.shared (gy _) hs hb hcl j (fun op c=>⟨(hu op c).1,fun x hx=>(by rw[(hu op c).2.1] at hx;cases hx),(hu op c).2.2⟩);refine⟨l,h.OW.app fun op c=>.inl (hu op c).1,hd,by rw[d];exact h.size,fun i hi=>?_⟩;have⟨g,hg,k⟩:=h.old i hi;exact⟨g,by rw[e i hi];exact hg,by rw[xK t (by omega) _ (fun op c=>(hu op c).1)];exact k⟩
theorem Calm.noPartner(h:Calm P Ro Shr o own gs w t q)(c)(s):partners (gs.setIfInBounds 0 ph) c s=[]:=by
 refine partners_nil fun j g hg=>?_;rcases getElem?_stand gs 0 j g hg with⟨_,rfl⟩|⟨hne,hg⟩
 .rfl
 have d:j-1<o:=by have:=(aP.1 hg).1;rw[h.size] at this;omega
 have⟨g',b,i⟩:=h.old _ d;rw[show j-1+1=j by omega,hg] at b;obtain rfl:=aN b;refine Y9 (fun e=>?_) _ _;rcases i.status with h1|h1<;>(rw[h1] at e;cases e)
variable{Ch cap s r:Nat}{buf:Array ae}{closed tm f:Bool}{z:ae}
theorem Calm.recv(h:Calm P Ro Shr o own gs w t q)(j:Shr Ch)(ha:gs[0]?=some a)(hst:stepG P true a w=.comm a #[rcase Ch z] true (.recv f) w #[])(hc:w.heap[Ch]?=some (.chan cap buf closed s r tm))(d:0<buf.size):∃gs' u,runT P (crowd gs w sl) 0=(.next (crowd gs' (w.setChan Ch cap (buf.extract 1 buf.size) closed s (r+1) tm) sl),u)/\gs'[0]?=some (Conc.served a (Conc.recvd f (buf.getD 0 undef) true))/\Calm P Ro Shr o own gs' (w.setChan Ch cap (buf.extract 1 buf.size) closed s (r+1) tm) (t++u) q/\∀A,NoRelease A t->NoRelease A (t++u):=by
 have hrun:=crowd_recv_buf (sl:=sl) ha (by simpa using hst) hc d (h.noPartner Ch true);rw[finishComm_recv] at hrun;have l:MemOp.ofEvents 0 a.frame.fn a.frame.place #[]=#[]:=by rw[BA];simp
 rw[l,Y8] at hrun;have k:=(aP.1 ha).1;have hu:∀op∈(#[{g:=0,fn:=a.frame.fn,pos:=a.frame.place,act:=.recv Ch r cap},{g:=0,fn:=a.frame.fn,pos:=a.frame.place,act:=.recvDone Ch r}]:Trace),op.g=0/\op.act.touch? =none/\op.act.low w.heap.size/\∀m,op.act≠.mark m:=by intro op c;simp[xH,dW,xx,xw] at c;rcases c with rfl|rfl<;>exact⟨rfl,rfl,h.base.nU Ch j,fun m=>by simp⟩
 refine⟨_,_,hrun,by simp[k],h.ajS (size_setChan ..) (fun b hb=>?_) (zl hc) (vV hc) (fun op c=>⟨(hu op c).1,(hu op c).2.1,(hu op c).2.2.1⟩) ?_ (by simp) (fun i hi=>by rw[jf (by omega)]),fun A h0=>h0.app fun op c=>(hu op c).2.2.2 _⟩
 .simp[World.setChan];exact jf (show Ch≠b from fun e=>hb (e▸j))
 rw[JU t 0 _ fun op c=>⟨(hu op c).2.2.2 _,(hu op c).2.2.2 _⟩];exact h.hears
theorem Calm.Nu(h:Calm P Ro Shr o own gs w t q)(d:Shr Ch)(ha:gs[0]?=some a)(hst:stepG P true a w=.comm a #[rcase Ch z] true (.recv f) w #[])(hc:w.heap[Ch]?=some (.chan cap #[] true s r tm)):∃gs' u,runT P (crowd gs w sl) 0=(.next (crowd gs' w sl),u)/\gs'[0]?=some (Conc.served a (Conc.recvd f z false))/\Calm P Ro Shr o own gs' w (t++u) q/\∀A,NoRelease A t->NoRelease A (t++u):=by
 have hrun:=crowd_recv_closed (sl:=sl) ha (by simpa using hst) hc (h.noPartner Ch true);rw[finishComm_recv] at hrun;have e:MemOp.ofEvents 0 a.frame.fn a.frame.place #[]=#[]:=by rw[BA];simp
 rw[e,Y8] at hrun;have c:=(aP.1 ha).1;have hu:∀op∈(#[{g:=0,fn:=a.frame.fn,pos:=a.frame.place,act:=.recvClosed Ch}]:Trace),op.g=0/\op.act.touch? =none/\op.act.low w.heap.size/\∀m,op.act≠.mark m:=by intro op b;simp[xH,dW,xx,xw] at b;subst b;exact⟨rfl,rfl,h.base.nU Ch d,fun m=>by simp⟩
 refine⟨_,_,hrun,by simp[c],h.ajS rfl (fun _ _=>rfl) (.refl w) (.refl w) (fun op b=>⟨(hu op b).1,(hu op b).2.1,(hu op b).2.2.1⟩) ?_ (by simp) (fun i hi=>by rw[jf (by omega)]),fun A h0=>h0.app fun op b=>(hu op b).2.2.2 _⟩;rw[JU t 0 _ fun op b=>⟨(hu op b).2.2.2 _,(hu op b).2.2.2 _⟩];exact h.hears
end
end
section
variable[M:Mps][E:Ext]
section
variable[jE]{P:aH}{S:aI->Prop}{Shr:Nat->Prop}{Hid:Nat->Prop}{o:Nat}
def nobody:Nat->Prop:=fun _=>False
def rest(Shr:Nat->Prop)(w:ay):Nat->Prop:=fun b=>b<w.heap.size/\¬Shr b
def mine(Z Shr:Nat->Prop)(w:ay):Nat->Prop:=fun b=>rest Shr w b/\¬Z b
end
section
variable{P:aH}{Ro Ro0 Shr:Nat->Prop}{o:Nat}{own own0:Nat->Prop}{gs:Array dD}{w:ay}{t:Trace}{q:Nat->Nat}
theorem Calm.split(h:Calm P Ro0 Shr o own0 gs w t q)(d:∀b,Ro b->rest Shr w b)(a:∀b,own b->rest Shr w b/\¬Ro b):Calm P Ro Shr o own gs w t q:=by have c:=h.handed;refine⟨⟨⟨fun b hb=>(d b hb).2,fun k b hb=>⟨(a b hb.2).2,(a b hb.2).1.2⟩,fun k k' b hb e=>hb.1.trans e.1.symm,fun k b hk hb=>by have:=hb.1;omega⟩,fun b hb=>(d b hb).1,h.base.nU,fun k b hb=>(a b hb.2).1.1,?_,h.base.low,h.base.told⟩,h.OW,h.hears,h.size,h.old⟩;exact⟨h.base.ct.quiet,fun k k1 _ l ⟨b,_,hb⟩=>absurd hb.1 (by omega),fun k _ kn l hl=>absurd hl.1 (by omega),fun l hs _=>Ec h.base.told c hs,fun l hs _=>PermW.of (Ec h.base.told c hs),h.base.ct.nr,h.base.ct.gs⟩
end
section
variable[jE]{P:aH}{S:aI->Prop}{Z Shr:Nat->Prop}{Hid:Nat->Prop}{o:Nat}
theorem Calm.all{Ro own gs w t q}(h:Calm P Ro Shr o own gs w t q)(a:∀b,Z b->rest Shr w b):Calm P Z Shr o (mine Z Shr w) gs w t q:=h.split a fun _ hb=>hb
theorem eX.mono{Ro own own' f g v w}(h:eX P S Ro own Hid f g v w)(ho:∀b,own b->own' b):eX P S Ro own' Hid f g v w:=⟨h.ok,h.inj,h.fix,h.rq,fun b x hb=>(h.held b x hb).imp (PS (ho _)) id⟩
structure Mirror(P:aH)(S:aI->Prop)(Z Shr:Nat->Prop)(Hid:Nat->Prop)(o:Nat)(f:Nat->Nat)(g:dD)(v:ay)(gs:Array dD)(w:ay)(t:Trace)(q:Nat->Nat):Prop where
 calm:Calm P Z Shr o (mine Z Shr w) gs w t q
 uj:eX P S Z (mine Z Shr w) Hid f g v w
 at0:gs[0]?=some (bF f [] g)
 shr:∀b,Hid b->Shr b
theorem Mirror.alone{f g v gs w t q}(h:Mirror P S Z Shr Hid o f g v gs w t q)(b)(hb:Z b):rest Shr w b:=⟨h.calm.base.BJ b hb,h.calm.base.ap.G8 b hb⟩
theorem Mirror.go(p:bz P)(hS:mM P S){D}{C:Nat->Prop}(hD:∀g v,D g v->∀b,C b->∀o,v.heap[b]?=some o->dB o=true){f g v gs w}{t:Trace}{q:Nat->Nat}(d:Mirror P S Z Shr Hid o f g v gs w t q)(sl:aB (Nat×Nat))(ht:fO P S D g v)(F:∀b o,v.heap[b]?=some o->dB o=true->C b):∃(N:Nat) (gs':Array dD) (w':ay) (c:aB (Nat×Nat)) (t':Trace) (m:Nat->Nat) (f':Nat->Nat) (g':dD) (v':ay),runNT P N (crowd gs w sl) t=(.next (crowd gs' w' c),t')/\D g' v'/\Mirror P S Z Shr Hid o f' g' v' gs' w' t' m/\Since Shr w w' t t'/\(∀i,i<v.heap.size->f' i=f i)/\v.heap.size<=v'.heap.size/\bP Z (fun _=>False) w w':=by
 let Stop:Stops:=fun g1 w1 a=>∃f' g' v',D g' v'/\eX P S Z a Hid f' g' v' w1/\g1=bF f' [] g'/\(∀i,i<v.heap.size->f' i=f i)/\v.heap.size<=v'.heap.size/\bP Z (fun _=>False) w w1;let X:Event->Prop:=fun e=>∃b,Shr b/\yY b e;have l:bu P Z (fun _=>True) true ⟨false,X,Stop⟩ ⟨bF f [] g,w,mine Z Shr w⟩:=by refine GI (n0:=v.heap.size) (f0:=f) p hS (fun e r h1 h2 u s=>⟨r,d.shr r h1,h2,u,s⟩) hD (w0:=w) (fun g' v' f' w1 a hd hp hw _ ha hn=>?_) ht d.uj (bP.refl _ _ _) (fun b hb=>⟨(d.alone b hb).1,fun h=>h.2 hb⟩) (fun _ _=>rfl) (aA _) F;refine .stop hp.ok.run fun w2 hr _=>?_;have⟨n,_,e⟩:=hp.rely hr [];exact⟨bH f' v' w2,g',v',hd,n,e,fun i hi=>(eG (bT hi hn)).trans (ha i hi),hn,hw.trans ⟨hr.size,fun b hb ho=>ho.elim (fun h=>hr.keep b hb (.inl h)) fun h=>h.elim,hr.cells,hr.chans⟩⟩
 have⟨N,gs',a',w',c,t',m,B,A,e3,z,y,j,x,e8,e9,_⟩:=La (Live:=fun _=>True) (fun _ _ _ h=>h) (k:=⟨false,X,Stop⟩) (fun e he=>.inr he) l _ gs w sl t q (aA _) d.at0 (bP.refl _ _ _) trivial d.calm;have⟨f',g',v',d1,d2,d3,d4,d5,d6⟩:=z w' y trivial;refine⟨N,gs',w',c,t',m,f',g',v',B,d1,⟨j.all fun b hb=>⟨j.base.BJ b hb,j.base.ap.G8 b hb⟩,eX.mono d2 fun b hb=>⟨⟨?_,?_⟩,?_⟩,by rw[A,d3],d.shr⟩,x,d4,d5,d6⟩
 .exact j.base.wH 0 b ⟨rfl,hb⟩
 .exact(j.base.ap.free 0 b ⟨rfl,hb⟩).2
 exact(j.base.ap.free 0 b ⟨rfl,hb⟩).1
end
end
end Go.Crew
section
namespace Go
namespace Ren
open Go.Conc
variable[M:Mps]
variable{P:aH}{S:aI->Prop}
theorem qc(H:Fr)(f g:Nat->Nat):∀v:ae,@val M H aj f (@val M bY aj g v)=@val M H aj (f ∘ g) v
 |.pointer a=>by cases a<;>simp[addr]
 |.slice a l c=>by cases a<;>simp[addr]
 |.map r=>by simp[Function.comp_def]
 |.chan r=>by simp[Function.comp_def]
 |.func h a b=>by
  have key:∀l:Array ae,(∀v∈l,@val M H aj f (@val M bY aj g v)=@val M H aj (f ∘ g) v)->@vals M H aj f (@vals M bY aj g l)=@vals M H aj (f ∘ g) l:=fun l hl=>by unfold vals;rw[oM];exact jL hl
  rw[@dL M bY,@dL M H,@dL M H,key a (fun v _=>qc H f g v),key b (fun v _=>qc H f g v)];congr 1;cases h<;>rfl
 |.iface t v=>by
  by_cases ht:t<jT
  .rw[rX,rX,rX,aY ht,aY ht,aY ht,qc H f g v]
  rw[rX,rX,rX,aU ht,aU ht,aU ht]
 |.agg cs=>by rw[@dG M bY,@dG M H,@dG M H];congr 1;unfold vals;rw[oM];exact jL fun v _=>qc H f g v
 |.tuple cs=>by rw[@cO M bY,@cO M H,@cO M H];congr 1;unfold vals;rw[oM];exact jL fun v _=>qc H f g v
 |.bool _|.int _ _|.float _ _|.complex _ _ _|.string _|.nilFunc|.nilIface=>by simp
termination_by v=>SizeOf.sizeOf v
decreasing_by
 all_goals first
  |(rename_i h;have h:=IP h;simp only[Sz,IM,IL];omega)
  |(simp only[Sv];omega)
def isCells:Obj->Bool
|.cells ..=>true
|_=>false
def IA(w:ay)(b:Nat):Bool:=match w.heap[b]? with
|some o=>isCells o
|none=>false
def enum(w:ay):List Nat:=(List.range w.heap.size).filter (IA w)
def up(w:ay)(i:Nat):Nat:=if h:i<(enum w).length then(enum w)[i] else w.heap.size+(i-(enum w).length)
def down(w:ay)(b:Nat):Nat:=(enum w).idxOf b
theorem wR{w b}:b∈enum w↔b<w.heap.size/\IA w b=true:=by simp[enum]
theorem YK(w):(enum w).Nodup:=(List.nodup_range).filter _
theorem up_down{w b}(h:b∈enum w):up w (down w b)=b:=by have a:=UI h;unfold up down;rw[ou a];exact List.getElem_idxOf a
theorem acy{w i}(h:i<(enum w).length):up w i∈enum w:=by unfold up;rw[ou h];exact xJ h
theorem ajv{w i}(h:i<(enum w).length):up w i<w.heap.size:=(wR.1 (acy h)).1
theorem ahZ{w i j}(hi:i<(enum w).length)(hj:j<(enum w).length)(h:up w i=up w j):i=j:=by unfold up at h;rw[ou hi,ou hj] at h;exact(List.getElem_inj (YK w)).1 h
def U3(S:aI->Prop)(K:Nat->Prop)(x:ae):Prop:=∀(H H':Fr) (h h':Nat->Nat),(∀b,K b->h b=h' b)->(∀g,S g->H.xP g=H'.xP g)->@val M H aj h x=@val M H' aj h' x
theorem QZ{w x}(h:U3 S (·∈enum w) x)(H a)(e c)(ha:Alike S (enum w).length H a e c):@val M H aj e (@val M bY aj (down w) x)=@val M a aj c (@val M bY aj (down w) x):=by rw[qc H,qc a];exact h H a _ _ (fun b hb=>ha.blk _ (UI hb)) ha.xP
theorem X5{w c}(h:∀x∈c,U3 S (·∈enum w) x)(H b)(e a)(ha:Alike S (enum w).length H b e a):@vals M H aj e (@vals M bY aj (down w) c)=@vals M b aj a (@vals M bY aj (down w) c):=by unfold vals;rw[oM,oM];exact jL fun x hx=>QZ (h x hx) H b e a ha
theorem Iu(H)(f)(g)(args)(k):@frame M H aj f (Frame.enter P g args k)=Frame.enter P g (@vals M H aj f args) k:=gK f g args k
end Ren
namespace Crew
open Go.Conc Go.ConcN Go.Ren
variable[jE]{P:aH}{S:aI->Prop}
theorem base_start(w):Base nobody nobody 0 0 (zS (mine nobody nobody w)) w #[]:=by refine⟨⟨fun _ hb=>hb.elim,fun k b hb=>⟨id,id⟩,fun k k' b hb c=>hb.1.trans c.1.symm,fun k b hk hb=>by have:=hb.1;omega⟩,fun _ hb=>hb.elim,fun _ hb=>hb.elim,fun k b hb=>hb.2.1.1,?_,fun op a=>by simp at a,fun i op x hi=>by simp at hi⟩;exact CT.lone (fun op a=>by simp at a) (fun op a=>by simp at a)
end Crew
end Go
end
namespace Go.Crew
open Go.Conc Go.ConcN Go.Ren
section
variable{P:aH}{Ro Shr:Nat->Prop}{o:Nat}{own:Nat->Prop}{gs:Array dD}{w:ay}{t:Trace}{q:Nat->Nat}
theorem ab3{t j}(h:∀op∈t,op.g≠j):Deaf t j=0:=by
 have key:∀(l:List MemOp) (d),(∀op∈l,op.g≠j)->l.foldl (deafStep j) d=d:=by
  intro l;induction l with
  |nil=>intro d _;rfl
  |cons y l ih=>
  intro d hl;rw[List.foldl_cons];have e:deafStep j d y=d:=by have hy:=hl y (fZ ..);unfold deafStep;simp[aU hy];split<;>rfl
  rw[e];exact ih d fun op a=>hl op (jy _ a)
 have:=Deaf_append #[] j t.toList;rw[show(#[]:Trace)++t.toList.toArray=t by simp] at this;rw[this];exact key _ _ fun op a=>h op (uz.1 a)
theorem Calm.leavers(h:Calm P Ro Shr o own gs w t q):Leavers P t gs (fun i=>q (i-1)):=by
 refine⟨fun i g hi hg=>?_,fun j hj=>?_⟩
 .have c:i-1<o:=by have:=(aP.1 hg).1;rw[h.size] at this;omega
  have⟨g',a,d⟩:=h.old _ c;rw[show i-1+1=i by omega] at a d;rw[hg] at a;obtain rfl:=aN a;exact d
 refine ab3 fun op b e=>?_;have⟨i,hi⟩:=Array.mem_iff_getElem?.1 b;have:=h.base.ct.gs i op hi;rw[h.size] at hj;omega
theorem Calm.past(h:Calm P Ro Shr o own gs w t q):Past (QB Shr) w.heap.size t:=by
 refine⟨h.base.ct.nr,fun i a ha hm=>?_,h.handed,h.hears,h.base.low⟩;have⟨x,hx,c⟩:=touch_of ha;rcases h.base.told i x a hx c with b|b|b
 .rw[<-b];exact .inl (knows_own hx)
 .by_cases e:x.g=0
  .rw[<-e];exact .inl (knows_own hx)
  have⟨j,hj,hb⟩:=h.handed i x.g (by simp[Trace.g?,hx]) e b;exact .inl (Wh hj hb)
 exact .inr b
end
section
variable[jE]{P:aH}{S:aI->Prop}{Z Shr Hid:Nat->Prop}{o:Nat}
theorem Mirror.ends{f v w gs t q fr fn tr Post}(c:Mirror P S Z Shr Hid o f (G fr [bottom]) v gs w t q)(sl)(hfn:P.funcs[fr.fn]?=some fn)(a:fn.results=#[.tmp tr])(l:P.inits.idxOf? fr.fn=none)(hm:fr.mode=.returning)(hd:fr.defers=[])(hk:fr.kind=.normal)(hp:∀d,Post (val f (fr.tmps.getD tr undef)) (w.at d)):∃N last g w' t',runNT P (N+1) (crowd gs w sl) t=(.ended g w',t')/\runN P N (crowd gs w sl)=.next last/\step P last=.ended g w'/\Good P Post last g w' t':=by
 refine beside_ends (D:=fun _ _ _=>False) (n:=0) (Post:=Post) (fun _ _ _ h=>h.elim) c.at0 c.calm.leavers c.calm.past (gG fun w1 i=>?_);obtain⟨d,rfl⟩:=i;refine⟨c.uj.ok.run,_,#[],?_,fun e he=>by simp at he,hp d⟩;have hs:stk f [] [bottom]=[]:=by have:=yG f [] bottom [];simpa using this
 have h1:=results_tmp a (vals f fr.tmps) P (w.at d);have h2:=events_results_tmp (P:=P) (w:=w.at d) a (vals f fr.tmps) #[];have s:(results fn (vals f fr.tmps)).runT P (w.at d) #[]=(.ok ((vals f fr.tmps).getD tr undef) (w.at d),#[]):=by have r:=mf P (results fn (vals f fr.tmps)) (w.at d) #[];rw[h1] at r;have u:((results fn _).runT P _ #[]).2=#[]:=h2;exact Prod.ext r u
 unfold bF uG stepG;dsimp[Conc.G];rw[hs];have b:(frame f fr).mode=.returning:=by simp[frame,hm,mode]
 have p:(frame f fr).defers=[]:=by simp[frame,hd]
 have k:(frame f fr).kind=.normal:=hk;have m:(frame f fr).fn=fr.fn:=rfl;have j:(frame f fr).tmps=vals f fr.tmps:=rfl;simp[b];unfold unwind;simp only[p,b,m,hfn,j,s,doReturn,k,GStep.after,l,pU];simp[seen_none]
end
open Go.ConcR (WgAt stA smA g_of_ofEvents KK)
section
variable{P:aH}{Ro Shr:Nat->Prop}{o:Nat}{own:Nat->Prop}{gs:Array dD}{w:ay}{t:Trace}{q:Nat->Nat}
theorem Calm.made(h:Calm P Ro Shr o own gs w t q)(og){gs'}(f:gs'.size=gs.size)(m:∀i,i<o->gs'[i+1]?=gs[i+1]?):Calm P Ro (fun b=>Shr b\/b=w.heap.size) o (mine Ro (fun b=>Shr b\/b=w.heap.size) {w with heap:=w.heap.push og}) gs' {w with heap:=w.heap.push og} t q:=by
 have c:=h.handed;have d:∀(i) (op:MemOp) (x),t[i]?=some op->op.act.touch? =some x->∀b,KZ x.loc=some b->b<w.heap.size:=fun i op x hi hx b hb=>QF (h.base.low op (kP hi)) hx hb;have g:∀(i) (op:MemOp) (x),t[i]?=some op->op.act.touch? =some x->QB (fun b=>Shr b\/b=w.heap.size) x.loc->QB Shr x.loc:=fun i op x hi hx ⟨b,hb,hs⟩=>by
  rcases hs with hs|hs
  .exact⟨b,hb,hs⟩
  have:=d i op x hi hx b hb;omega
 have hup:∀l,QB Shr l->QB (fun b=>Shr b\/b=w.heap.size) l:=fun l ⟨b,hb,hs⟩=>⟨b,hb,.inl hs⟩;have a:w.heap.size<=({w with heap:=w.heap.push og}:ay).heap.size:=by simp
 refine⟨⟨⟨fun b hb hs=>hs.elim (h.base.ap.G8 b hb) fun e=>(by have:=h.base.BJ b hb;omega),fun k b hb=>⟨hb.2.2,hb.2.1.2⟩,fun k k' b hb n=>hb.1.trans n.1.symm,fun k b hk hb=>by have:=hb.1;omega⟩,fun b hb=>bT (h.base.BJ b hb) a,fun b hb=>?_,fun k b hb=>hb.2.1.1,?_,fun op j=>MemAct.low_mono a (h.base.low op j),fun i op x hi hx=>?_⟩,h.OW,h.hears,by rw[f];exact h.size,fun i hi=>by rw[m i hi];exact h.old i hi⟩
 .rcases hb with hb|rfl
  .exact bT (h.base.nU b hb) a
  simp
 .exact⟨fun i op x hi hx hs=>h.base.ct.quiet i op x hi hx (g i op x hi hx hs),fun k k1 _ l ⟨b,_,hb⟩=>absurd hb.1 (by omega),fun k _ kn l hl=>absurd hl.1 (by omega),fun l hs _=>Ec h.base.told c fun hh=>hs (hup l hh),fun l hs _=>PermW.of (Ec h.base.told c fun hh=>hs (hup l hh)),h.base.ct.nr,h.base.ct.gs⟩
 exact(h.base.told i op x hi hx).imp id fun h=>h.imp id fun h=>⟨hup _ h.1,h.2⟩
end
def uF:Obj->Obj
|.cells _ e _=>.cells #[] e (0,0)
|x=>x
section
variable[jE]{P:aH}{S:aI->Prop}{Z Shr Hid:Nat->Prop}{o:Nat}
theorem Mirror.make{f g g' v w gs t q}(J:Mirror P S Z Shr Hid o f g v gs w t q)(sl){og}(B:isCells og=true\/og.isChan=true)(hst:∀(f1) (w1),(∀i,i<v.heap.size->f1 i=f i)->f1 v.heap.size=w1.heap.size->stepG P true (bF f [] g) w1=.go (bF f1 [] g') {w1 with heap:=w1.heap.push og} #[])(hok:Ok P S g' {v with heap:=v.heap.push (uF og)}):∃(N:Nat) (gs':Array dD) (w':ay) (K:aB (Nat×Nat)) (t':Trace) (X:Nat->Nat) (f1:Nat->Nat),runNT P N (crowd gs w sl) t=(.next (crowd gs' w' K),t')/\Mirror P S Z (fun b=>Shr b\/b=w.heap.size) (fun b=>Hid b\/(b=w.heap.size/\og.isChan=true)) o f1 g' {v with heap:=v.heap.push (uF og)} gs' w' t' X/\w'.heap=w.heap.push og/\(∀i,i<v.heap.size->f1 i=f i)/\f1 v.heap.size=w.heap.size/\(∀A,NoRelease A t->NoRelease A t')/\w'={w with heap:=w'.heap,drawn:=w'.drawn}:=by
 have⟨N,C,d,W,F,w1,t1,R,e1,V,E,D,U,e6⟩:=Ew (P:=P) (a:=bF f [] g) (show(bF f [] g).status=.running from J.uj.ok.run) _ gs w sl t q (aA _) J.at0 J.calm
 let f1:Nat->Nat:=fun i=>if i<v.heap.size then f i else w.heap.size+(i-v.heap.size)
 have j:∀i,i<v.heap.size->f1 i=f i:=fun i hi=>aY hi;have p:f1 v.heap.size=w.heap.size:=by show(if v.heap.size<v.heap.size then _ else _)=_;rw[aU (by omega)];omega
 have hrun:=DR (P:=P) (sl:=F) (i:=0) V (show stepG P _ _ _=_ from hst f1 (w1.at d) j (by rw[p];show w.heap.size=w1.heap.size;rw[E]));have O:0<C.size:=(aP.1 V).1;have Q:Calm P Z Shr o _ C _ t1 R:=⟨D.base.at d,D.OW,D.hears,D.size,D.old⟩;have r:=Q.made og (gs':=(C.map (woken P (bF f [] g) (bF f1 [] g') {w1.at d with heap:=w1.heap.push og})).setIfInBounds 0 (bF f1 [] g')) (by simp) (fun i hi=>by have⟨y,hy,M⟩:=D.old i hi;rw[xI _ _ _ _ (by omega),hy,Option.map_some,PM M])
 have L:(w1.at d).heap.size=w.heap.size:=by show w1.heap.size=_;rw[E]
 rw[L] at r;have k:=J.uj;have c:∀i,i<v.heap.size->f i<w.heap.size:=fun i hi=>k.below hi;refine⟨N+1,_,{w1.at d with heap:=w1.heap.push og},F,_,R,f1,?_,⟨r,⟨hok,fun a b ha hb e=>?_,fun T I=>?_,⟨fun b x hb=>?_,fun b x hb=>?_⟩,fun b x hb=>?_⟩,?_,fun b hb=>?_⟩,?_,j,p,U.norel,?_⟩
 .have e0:MemOp.ofEvents 0 (bF f [] g).frame.fn (bF f [] g).frame.place #[]=#[]:=by rw[BA];simp
  rw[e0] at hrun;have key:∀(n:Nat) (m H:Machine) (t0 t2:Trace),runNT P n m t0=(.next H,t2)->∀G,stepT P H=(.next G,#[])->runNT P (n+1) m t0=(.next G,t2):=by
   intro n;induction n with
   |zero=>intro m H t0 t2 h G h2;simp only[runNT,uI,J3] at h;obtain⟨rfl,rfl⟩:=h;simp only[runNT,h2,Array.append_empty]
   |succ n ih=>
    intro m H t0 t2 h G h2;unfold runNT at h⊢;generalize hq:stepT P m=z at h⊢;have⟨z,u⟩:=z;cases z with
    |next m3=>exact ih m3 H _ _ h G h2
    |ended oc w3=>simp at h
  exact key N _ _ _ _ e1 _ (by rw[e6];exact hrun)
 .
  simp only[ae6] at ha hb;rcases kJ a v.heap.size with h1|h1<;>rcases kJ b v.heap.size with h2|h2
  .rw[j a h1,j b h2] at e;exact k.inj a b h1 h2 e
  .obtain rfl:b=v.heap.size:=by omega
   rw[j a h1,p] at e
   have:=c a h1;omega
  .obtain rfl:a=v.heap.size:=by omega
   rw[j b h2,p] at e
   have:=c b h2;omega
  omega
 .rw[j T (bT I k.ok.vg)];exact k.fix T I
 .simp only[iK] at hb
  split at hb
  .obtain rfl:=aN hb
   rcases B with h|h<;>cases og<;>first|(cases h;done)|exact trivial
  exact k.rq.good b x hb
 .simp only[iK] at hb
  split at hb
  .rename_i s
   obtain rfl:=aN hb;subst s;refine⟨og,?_,?_⟩
   .rw[p]
    show(w1.heap.push og)[w.heap.size]?=_;rw[E];simp
   cases og<;>first|(rcases B with h|h<;>cases h;done)|skip
   .exact⟨_,_,rfl,fun h=>(by cases h)⟩
   exact⟨_,_,_,_,_,_,rfl⟩
  rename_i s;have l:b<v.heap.size:=(aP.1 hb).1;have⟨o',h4,Y⟩:=k.rq.block b x hb;refine⟨o',?_,Y.congr ((k.ok.bound bY bY f f1 ⟨fun i hi=>(j i hi).symm,fun _ _=>rfl⟩).2 b x hb)⟩;rw[j b l];show(w1.heap.push og)[f b]?=_;rw[E]
  have:=c b l
  simp only[iK];rw[aU (by omega)];exact h4
 .simp only[iK] at hb
  split at hb
  .rename_i s
   obtain rfl:=aN hb;subst s;rw[p];cases og<;>first|(rcases B with h|h<;>cases h;done)|skip
   .exact .inr (.inl rfl)
   exact .inr (.inr (.inr ⟨.inr ⟨rfl,rfl⟩,rfl⟩))
  have l:b<v.heap.size:=(aP.1 hb).1;have h1:=c b l;rw[j b l];rcases k.held b x hb with h|h|h|⟨h2,h3⟩
  .refine .inl ⟨⟨⟨?_,fun hs=>?_⟩,h.1.2⟩,h.2⟩
   .show f b<(w1.heap.push og).size
    rw[ae6,E];omega
   rcases hs with hs|hs
   .exact h.1.1.2 hs
   omega
  .exact .inr (.inl h)
  .exact .inr (.inr (.inl h))
  exact .inr (.inr (.inr ⟨.inl h2,h3⟩))
 .rw[Gi _ _ _ O]
 .rcases hb with hb|⟨hb,_⟩
  .exact .inl (J.shr b hb)
  exact .inr hb
 .show w1.heap.push og=_
  rw[E]
 exact(bU (fun x:ay=>({x.at d with heap:=w1.heap.push og}:ay)) U.same).trans rfl
end
section
variable[M:Mps][E:Ext]
def LG:Obj->Obj
|.cells c e fr=>.cells c e (0,max c.size fr.2)
|.chan a b c d e f=>.chan a b c d e f
|_=>.coro none
open Classical in
noncomputable def Em(A:Nat->Prop)(v:ay):ay:={v with heap:=v.heap.mapIdx fun b x=>if A b then LG x else x}
theorem zZ(A)(v):(Em A v).heap.size=v.heap.size:=by simp[Em]
theorem yw{A v b x}(h:(Em A v).heap[b]?=some x):∃x0,v.heap[b]?=some x0/\((A b/\x=LG x0)\/(¬A b/\x=x0)):=by
 simp only[Em,Gf] at h;have⟨x0,h1,h2⟩:=BX.1 h;refine⟨x0,h1,?_⟩;by_cases a:A b
 .rw[aY a] at h2;exact .inl ⟨a,h2.symm⟩
 rw[aU a] at h2;exact .inr ⟨a,h2.symm⟩
theorem ad5{A v b x0}(h:v.heap[b]?=some x0)(a:A b):(Em A v).heap[b]?=some (LG x0):=by simp[Em,h,a]
theorem agD{A v b}(a:¬A b):(Em A v).heap[b]?=v.heap[b]?:=by simp only[Em,Gf,aU a];cases v.heap[b]?<;>rfl
section
variable[jE]{P:aH}{S:aI->Prop}{Hid:Nat->Prop}{A:Nat->Prop}{f:Nat->Nat}{g:dD}{v w:ay}{Ro own:Nat->Prop}
theorem agF{K x}(h:(dB x=true\/plain x=true)/\lI K x):(dB (LG x)=true\/plain (LG x)=true)/\lI K (LG x):=by cases x<;>first|exact⟨.inl rfl,trivial⟩|exact⟨.inr rfl,trivial⟩
theorem WB{H a h h' x}(e:@obj _ H aj h x=@obj _ a aj h' x):@obj _ H aj h (LG x)=@obj _ a aj h' (LG x):=by
 cases x with
 |cells c t fr=>
 have⟨b,_⟩:=UL e;show Obj.cells _ t _=Obj.cells _ t _;rw[b]
 |_=>rfl
theorem Ok.Em(h:Ok P S g v):Ok P S g (Em A v):=by
 refine⟨fun b x hb=>?_,h.wX,h.run,h.up,by rw[zZ];exact h.vg,fun H d e i ha=>?_,fun H d e ha b x hb=>?_⟩
 .obtain⟨x0,h1,h2|h2⟩:=yw hb
  .rw[h2.2];exact agF (h.nv b x0 h1)
  rw[h2.2];exact h.nv b x0 h1
 .rw[zZ] at ha
  have⟨h1,h2⟩:=h.bound H d e i ha;refine⟨h1,fun b x hb=>?_⟩;obtain⟨x0,c,a|a⟩:=yw hb
  .rw[a.2];exact WB (h2 b x0 c)
  rw[a.2];exact h2 b x0 c
 obtain⟨x0,c,a|a⟩:=yw hb
 .rw[a.2];exact WB (h.clean H d e ha b x0 c)
 rw[a.2];exact h.clean H d e ha b x0 c
theorem WA{x o'}(hn:∀a l,x≠.number a l)(h:qI f x o'):qI f (LG x) o':=by
 cases x with
 |cells c e fr=>
 obtain⟨c',fr',rfl,h2⟩:=h;refine⟨c',fr',rfl,fun hc=>?_⟩;have⟨d,b⟩:=h2 hc;exact⟨d,fun y hy=>⟨gy _,bT (b y hy).2 (Nat.le_max_right _ _)⟩⟩
 |chan=>exact h
 |coro=>exact h
 |number a l=>exact absurd rfl (hn a l)
 |_=>first|(obtain⟨_,rfl⟩:=h;exact rfl)|(have e:=h.1;cases e;done)
theorem eX.freeze{Z Shr}(h:eX P S Z (mine Z Shr w) Hid f g v w)(m:∀b,Z b->Ro b)(n:∀b x,A b->v.heap[b]?=some x->(∀a l,x≠.number a l)/\(x.isChan=true->Hid (f b)))(j:∀b,A b->b<v.heap.size->mine Z Shr w (f b)->Ro (f b))(e:∀b,¬A b->b<v.heap.size->mine Z Shr w (f b)->own (f b)):eX P S Ro own Hid f g (Crew.Em A v) w:=by
 refine⟨Ok.Em h.ok,by rw[zZ];exact h.inj,h.fix,⟨fun b x hb=>?_,fun b x hb=>?_⟩,fun b x hb=>?_⟩
 .exact(Ok.Em h.ok).nv b x hb |>.2
 .have⟨x0,h1,h2⟩:=yw hb;have⟨o',p,o⟩:=h.rq.block b x0 h1;refine⟨o',p,?_⟩;rcases h2 with⟨h2,rfl⟩|⟨_,rfl⟩
  .exact WA (n b x0 h2 h1).1 o
  exact o
 have⟨x0,h1,h2⟩:=yw hb;have i:=(aP.1 h1).1;rcases h2 with⟨h2,rfl⟩|⟨h2,rfl⟩
 .by_cases hg:qA (LG x0)=true
  .exact .inr (.inl hg)
  by_cases d:x0.isChan=true
  .refine .inr (.inr (.inr ⟨(n b x0 h2 h1).2 d,?_⟩));cases x0<;>first|(cases d;done)|rfl
  rcases h.held b x0 h1 with c|c|⟨c,_⟩|⟨_,c⟩
  .refine .inr (.inr (.inl ⟨j b h2 i c.1,?_⟩));cases x0<;>first|exact .inl ⟨_,_,_,rfl,Nat.le_max_left _ _⟩|exact absurd rfl d|exact .inr ⟨none,rfl⟩
  .cases x0<;>first|(cases c;done)|exact absurd c hg
  .refine .inr (.inr (.inl ⟨m _ c,?_⟩));cases x0<;>first|exact .inl ⟨_,_,_,rfl,Nat.le_max_left _ _⟩|exact absurd rfl d|exact .inr ⟨none,rfl⟩
  exact absurd c d
 rcases h.held b _ h1 with c|c|⟨c,k⟩|c
 .exact .inl ⟨e b h2 i c.1,c.2⟩
 .exact .inr (.inl c)
 .exact .inr (.inr (.inl ⟨m _ c,k⟩))
 exact .inr (.inr (.inr c))
theorem Mirror.leave{Z Z' Shr o gs t q}(d:Mirror P S Z Shr Hid o f g v gs w t q)(k:∀b x,A b->v.heap[b]?=some x->(∀a l,x≠.number a l)/\(x.isChan=true->Hid (f b)))(j:∀b,Z b->Z' b)(h:∀b,Z' b->rest Shr w b)(i:∀b,A b->b<v.heap.size->mine Z Shr w (f b)->Z' (f b))(c:∀b,¬A b->b<v.heap.size->mine Z Shr w (f b)->¬Z' (f b)):Mirror P S Z' Shr Hid o f g (Em A v) gs w t q:=⟨d.calm.all h,eX.freeze d.uj j k i fun b hb e hm=>⟨hm.1,c b hb e hm⟩,d.at0,d.shr⟩
end
end
open Classical in
noncomputable def vP(A:Nat->Prop)(v v':ay):ay:={v' with heap:=v'.heap.mapIdx fun b x=>if A b/\b<v.heap.size then(v.heap[b]?).getD x else x}
def qY(A)(v v'):(vP A v v').heap.size=v'.heap.size:=by simp[vP]
def pK{A v v' b x}(h:(vP A v v').heap[b]?=some x):(A b/\v.heap[b]?=some x)\/(¬(A b/\b<v.heap.size)/\v'.heap[b]?=some x):=by
 simp only[vP,Gf] at h;have⟨x0,h1,h2⟩:=BX.1 h;by_cases a:A b/\b<v.heap.size
 .rw[aY a] at h2;refine .inl ⟨a.1,?_⟩;rw[gu a.2] at h2⊢;exact bU some h2
 rw[aU a] at h2;exact .inr ⟨a,by rw[<-h2];exact h1⟩
section
variable[jE]{P:aH}{S:aI->Prop}{Hid Hid' Z Shr Shr':Nat->Prop}{A:Nat->Prop}{f f':Nat->Nat}{g g':dD}{v v' w w':ay}{Ro own':Nat->Prop}
theorem eX.restore(h0:eX P S Z (mine Z Shr w) Hid f g v w)(D:∀b,Z b->Ro b)(h1:eX P S Ro own' Hid' f' g' v' w')(s:v.heap.size<=v'.heap.size)(l:∀i,i<v.heap.size->f' i=f i)(hw:∀b,Ro b->w'.heap[b]?=w.heap[b]?)(hcl:dS w w')(t:tZ w w')(n:∀b,A b->b<v.heap.size->mine Z Shr w (f b)->Ro (f b))(j:∀b,Ro b->rest Shr' w' b)(k:∀b,own' b->mine Z Shr' w' b)(o:∀b,Hid b->Hid' b):eX P S Z (mine Z Shr' w') Hid' f' g' (vP A v v') w':=by
 refine⟨⟨fun b x hb=>?_,h1.ok.wX,h1.ok.run,h1.ok.up,by rw[qY];exact h1.ok.vg,fun H r e B ha=>?_,fun H r e ha b x hb=>?_⟩,by rw[qY];exact h1.inj,h1.fix,⟨fun b x hb=>?_,fun b x hb=>?_⟩,fun b x hb=>?_⟩
 .rcases pK hb with⟨_,h2⟩|⟨_,h2⟩
  .exact h0.ok.nv b x h2
  exact h1.ok.nv b x h2
 .rw[qY] at ha
  have⟨h2,m⟩:=h1.ok.bound H r e B ha;refine⟨h2,fun b x hb=>?_⟩;rcases pK hb with⟨_,c⟩|⟨_,c⟩
  .exact(h0.ok.bound H r e B (ha.mono s)).2 b x c
  exact m b x c
 .rcases pK hb with⟨_,c⟩|⟨_,c⟩
  .exact h0.ok.clean H r e ha b x c
  exact h1.ok.clean H r e ha b x c
 .rcases pK hb with⟨_,h2⟩|⟨_,h2⟩
  .exact(h0.ok.nv b x h2).2
  exact(h1.ok.nv b x h2).2
 .rcases pK hb with⟨u,h2⟩|⟨_,h2⟩
  .have d:=(aP.1 h2).1
   have⟨o',m,c⟩:=h0.rq.block b x h2;have h:=(h0.ok.bound bY bY f f' ⟨fun i hi=>(l i hi).symm,fun _ _=>rfl⟩).2 b x h2;rw[l b d];rcases h0.held b x h2 with a|a|⟨a,_⟩|⟨_,a⟩
   .exact⟨o',by rw[hw _ (n b u d a.1)];exact m,c.congr h⟩
   .cases x<;>first|(cases a;done)|skip
    have⟨c',fr',F,_⟩:=c;subst F;have⟨c2,y,p⟩:=hcl _ _ _ _ m;refine⟨_,p,c2,y,rfl,fun hne=>?_⟩;rw[show Array.isEmpty _=true from a] at hne;cases hne
   .exact⟨o',by rw[hw _ (D _ a)];exact m,c.congr h⟩
   have hh:=Ii (by cases x<;>first|rfl|(cases a;done)) c
   have⟨C,p,E⟩:=t.chan _ _ m (hh.isChan▸a);exact⟨C,p,vW (.inl ⟨a,E⟩)⟩
  exact h1.rq.block b x h2
 rcases pK hb with⟨u,h2⟩|⟨_,h2⟩
 .have d:=(aP.1 h2).1
  rw[l b d];rcases h0.held b x h2 with a|a|a|⟨a,p⟩
  .exact .inl ⟨⟨j _ (n b u d a.1),a.1.2⟩,a.2⟩
  .exact .inr (.inl a)
  .exact .inr (.inr (.inl a))
  exact .inr (.inr (.inr ⟨o _ a,p⟩))
 rcases h1.held b x h2 with a|a|⟨a,q⟩|a
 .exact .inl ⟨k _ a.1,a.2⟩
 .exact .inr (.inl a)
 .by_cases z:Z (f' b)
  .exact .inr (.inr (.inl ⟨z,q⟩))
  exact .inl ⟨⟨j _ a,z⟩,by rcases q with⟨_,_,_,rfl,_⟩|⟨_,rfl⟩<;>rfl⟩
 exact .inr (.inr (.inr a))
end
open Go.ConcR (wgBlock rd wr mk)
def bu.mono{P Ro Live m k k'}(c:k.quiet=k'.quiet)(d:k.X=k'.X)(h:∀g w own,k.Stop g w own->k'.Stop g w own){a}(hw:bu P Ro Live m k a):bu P Ro Live m k' a:=by
 have⟨g,w,own⟩:=a;have h0:Ren.Way P m Ro Live k.quiet k.X k.Stop g w own:=hw;show Ren.Way P m Ro Live k'.quiet k'.X k'.Stop g w own;rw[<-c,<-d];clear hw;induction h0 with
 |stop hs h1=>exact .stop hs fun w1 hr hl=>h _ _ _ (h1 w1 hr hl)
 |step hs G W E he _ b=>exact .step hs G W E he fun w1 hr hl=>b w1 hr hl
def kZ(Stop:Stops):Kind:=⟨true,fun _=>False,Stop⟩
def Here(gT:dD)(own:Nat->Prop):Stops:=fun g _ o=>g=gT/\o=own
section
variable[aX]{P:aH}{ty:aZ}{Wg Ch:Nat}{Ro:Nat->Prop}{Anch Anch' Done Done':Stops}
theorem EP{Live s s' a}(hw:bu P Ro Live true (kM Wg s) a)(h:∀g w own,s g w own->s' g w own):bu P Ro Live true (kM Wg s') a:=bu.mono (k:=kM Wg s) (k':=kM Wg s') rfl rfl h hw
theorem Xn.mono(h:∀g w own,Done g w own->Done' g w own){g w own}(hs:Xn P Wg Done g w own):Xn P Wg Done' g w own:=by have⟨g',h1,h2,a⟩:=hs;exact⟨g',h1,h2,h _ _ _ a⟩
theorem SKe.mono(h:∀g w own,Done g w own->Done' g w own){g w own}(hs:SKe P ty Wg Ch Ro Done g w own):SKe P ty Wg Ch Ro Done' g w own:=by have⟨g',h1,h2⟩:=hs;exact⟨g',h1,EP h2 (fun _ _ _=>Xn.mono h)⟩
theorem SW4.mono(h:∀g w own,Done g w own->Done' g w own){g w own}(hs:SW4 P ty Wg Ch Ro Done g w own):SW4 P ty Wg Ch Ro Done' g w own:=fun hw=>by have⟨g',h1,h2⟩:=hs hw;exact⟨g',h1,EP h2 (fun _ _ _=>SKe.mono h)⟩
theorem SW3.mono(h:∀g w own,Done g w own->Done' g w own){g w own}(hs:SW3 P ty Wg Ch Ro Done g w own):SW3 P ty Wg Ch Ro Done' g w own:=by have⟨h1,h2,d,c⟩:=hs;refine⟨h1,h2,d,fun hw=>?_⟩;have⟨g',b,a⟩:=c hw;exact⟨g',b,EP a (fun _ _ _=>SW4.mono h)⟩
theorem SW2.mono(ha:∀g w own,Anch g w own->Anch' g w own)(h:∀g w own,Done g w own->Done' g w own){c g w own}(hs:SW2 P ty Wg Ch Ro Anch Done c g w own):SW2 P ty Wg Ch Ro Anch' Done' c g w own:=fun v d hw=>by
 have⟨h1,h2⟩:=hs v d hw;refine⟨fun e=>?_,fun e=>?_⟩
 .have⟨g',b,a⟩:=h1 e;exact⟨g',b,EP a (fun _ _ _=>SW3.mono h)⟩
 have⟨g',b,a⟩:=h2 e;exact⟨g',b,EP a (ha)⟩
theorem Zk.mono(ha:∀g w own,Anch g w own->Anch' g w own)(h:∀g w own,Done g w own->Done' g w own){g w own}(hs:Zk P ty Wg Ch Ro Anch Done g w own):Zk P ty Wg Ch Ro Anch' Done' g w own:=fun v a hw=>by have⟨g',h1,h2,b⟩:=hs v a hw;exact⟨g',h1,fun e=>EP (h2 e) (fun _ _ _=>SKe.mono h),fun e=>EP (b e) (fun _ _ _=>SW2.mono ha h)⟩
theorem SKd.mono(ha:∀g w own,Anch g w own->Anch' g w own){g w own}(hs:SKd P ty Wg Ch Ro Anch g w own):SKd P ty Wg Ch Ro Anch' g w own:=by have⟨g',h1,h2⟩:=hs;exact⟨g',h1,EP h2 (ha)⟩
end
section
variable[jE][aX]{P:aH}{S:aI->Prop}{Z Shr Hid:Nat->Prop}{o:Nat}
def afi(P:aH)(S:aI->Prop)(Ro Hid:Nat->Prop)(w:ay)(n0:Nat)(f:Nat->Nat)(End:dD->ay->Prop):Stops:=fun g1 w1 own1=>∃(f':Nat->Nat) (g':dD) (v':ay),End g' v'/\eX P S Ro own1 Hid f' g' v' w1/\bu P Ro (fun _=>True) true (kZ (Here (bF f' [] g') own1)) ⟨g1,w1,own1⟩/\bP Ro (fun _=>False) w w1/\(∀i,i<n0->f' i=f i)/\n0<=v'.heap.size
theorem zq{P}:∀(n k) (m a) (t t1) (r),runNT P n m t=(.next a,t1)->runNT P k a t1=r->runNT P (n+k) m t=r:=by
 intro n;induction n with
 |zero=>intro k m a t t1 r h h2;obtain⟨rfl,rfl⟩:=h;rw[DF];exact h2
 |succ n ih=>
  intro k m a t t1 r h h2;rw[show n+1+k=(n+k)+1 by omega];unfold runNT at h⊢;generalize hq:stepT P m=z at h⊢;have⟨z,u⟩:=z;cases z with
  |next m3=>exact ih k m3 a _ _ r h h2
  |ended oc w3=>simp at h
theorem Mirror.aiW{ty Wg Ch n cap rz tm Anch pay A Ro own End f g v w gs t q}(m:Mirror P S Z Shr Hid o f g v gs w t q)(sl)(z:∀b,aX.ch b->Shr b)(C:∀b,Z b->Ro b)(d:∀b,Ro b->rest Shr w b)(u:∀b,own b->rest Shr w b/\¬Ro b)(hA:∀b,A b->b<v.heap.size->mine Z Shr w (f b)->Ro (f b))(p:Shr Wg/\Shr Ch)(hCW:Ch≠Wg)(I:WgAt ty Wg w 0 0)(L:w.heap[Ch]?=some (.chan cap #[] false 0 rz tm))(K:NoRelease (stA Wg) t)(U:n<=cap)(hn:n<2147483648)(s:∀i,i<o->pay i=none)(J:Spawns P ty Wg Ch Ro (o+n) Anch pay n ⟨bF f [] g,w,own⟩)(O:∀g1 w1 j,Anch g1 w1 j->bu P Ro (Live ty Wg Ch) true (kM Wg (Zk P ty Wg Ch Ro Anch (afi P S Ro Hid w v.heap.size f End))) ⟨g1,w1,j⟩):∃(N:Nat) (gs':Array dD) (w':ay) (H:aB (Nat×Nat)) (t':Trace) (q':Nat->Nat) (f':Nat->Nat) (g':dD) (v':ay) (sent:List Nat),runNT P N (crowd gs w sl) t=(.next (crowd gs' w' H),t')/\End g' v'/\Mirror P S Z Shr Hid (o+n) f' g' (vP A v v') gs' w' t' q'/\(∀i,i<v.heap.size->f' i=f i)/\v.heap.size<=v'.heap.size/\w'.heap[Ch]?=some (.chan cap ((sent.map fun i=>(pay i).getD undef).toArray) false sent.length rz tm)/\sent.Nodup/\(∀i,i∈sent↔i<o+n/\(pay i).isSome=true)/\bP Z (fun _=>False) w w':=by
 have hc:=m.calm.split d u;have⟨x,hI,_⟩:=hc.enter (ty:=ty) (Wg:=Wg) (Ch:=Ch) (cap:=cap) (rz:=rz) (tm:=tm) (Done:=afi P S Ro Hid w v.heap.size f End) (a:=⟨bF f [] g,w,own⟩) (r:=n) m.at0 (bP.refl _ _ _) J p z I L K s;have⟨X,R,w1,G,t1,E,Y,y⟩:=ab4 hCW (by omega) (by omega) O _ x rfl gs w sl t 0 0 hI;have M:=y.calm;have⟨a,ha,hag,har,f1,g1,v1,d1,d2,d3,d4,d5,d6⟩:=y.main;have⟨W,Q,a2,w2,F,t2,q2,e1,e2,e3,e4,e5,B,V,e8,_,T⟩:=La (Live:=fun _=>True) (fun _ _ _ h=>h) (k:=kZ _) (fun e he=>he.elim) d3 (sumTo _ fun i=>(E.D i).fuel) R w1 G t1 _ (aA _) ha (bP.refl _ _ _) trivial M;have⟨h1,h2⟩:=e4 w2 e5 trivial;have c:w2.heap=w1.heap:=T rfl;have l:bP Ro (E.own 0) w1 w2:=⟨by rw[c];exact aA _,fun b _ _=>by rw[c],.of c,⟨.of c,by rw[V.same],by rw[V.same]⟩⟩;have⟨p1,_,p3⟩:=d2.rely l [];rw[h2] at B;refine⟨X+W,Q,w2,F,t2,q2,bH f1 v1 w2,g1,v1,E.sent,zq X W _ _ _ _ _ Y e1,d1,⟨B.all fun b hb=>⟨by rw[c];exact bT (m.alone b hb).1 d4.size,(m.alone b hb).2⟩,?_,by rw[e2,h1,p3],m.shr⟩,fun i hi=>(eG (bT hi d6)).trans (d5 i hi),d6,by rw[c];exact y.chan,y.nodup,y.ru,⟨bM d4.size l.size,fun b hb ho=>ho.elim (fun h=>(l.keep b (bT hb d4.size) (.inl (C b h))).trans (d4.keep b hb (.inl (C b h)))) fun h=>h.elim,d4.cells.trans l.cells,d4.chans.trans l.chans⟩⟩
 refine eX.restore m.uj C p1 d6 (fun i hi=>(eG (bT hi d6)).trans (d5 i hi)) (fun b hb=>?_) (d4.cells.trans l.cells) (d4.chans.trans l.chans) hA (fun b hb=>⟨?_,(d b hb).2⟩) (fun b hb=>⟨⟨B.base.wH 0 b ⟨rfl,hb⟩,(B.base.ap.free 0 b ⟨rfl,hb⟩).2⟩,fun hz=>(B.base.ap.free 0 b ⟨rfl,hb⟩).1 (C b hz)⟩) fun b h=>h
 .rw[c];exact d4.keep b (d b hb).1 (.inl hb)
 rw[c];exact bT (d b hb).1 d4.size
end
section
variable{P:aH}{Ro Shr:Nat->Prop}{o:Nat}{own:Nat->Prop}{gs:Array dD}{w w':ay}{t:Trace}{q:Nat->Nat}
theorem Calm.alk(h:Calm P Ro Shr o own gs w t q)(hs:w'.heap.size=w.heap.size)(hb:∀b,¬Shr b->w'.heap[b]?=w.heap[b]?)(hcl:dS w w')(e:tZ w w'){u}(hu:∀op∈u,op.g=0/\(∀x,op.act.touch? =some x->QB Shr x.loc/\x.kind=.atomic)/\op.act.low w.heap.size)(hd:Deaf (t++u) 0=0){gs'}(c:gs'.size=gs.size)(d:∀i,i<o->gs'[i+1]?=gs[i+1]?):Calm P Ro Shr o own gs' w' (t++u) q:=by have⟨k,_⟩:=h.base.shared (gy _) hs hb hcl e hu;refine⟨k,h.OW.app fun op a=>.inl (hu op a).1,hd,by rw[c];exact h.size,fun i hi=>?_⟩;have⟨g,hg,j⟩:=h.old i hi;exact⟨g,by rw[d i hi];exact hg,by rw[xK t (by omega) _ (fun op a=>(hu op a).1)];exact j⟩
theorem Ut{w w1:ay}(h:w1={w with heap:=w1.heap,drawn:=w1.drawn})(hh:w1.heap=w.heap)(d):w1.at d=w.at d:=by rw[h,hh];rfl
theorem aby{Z Shr w w'}(h:w'.heap.size=w.heap.size):mine Z Shr w'=mine Z Shr w:=by funext b;simp[mine,rest,h]
end
section
variable[jE]{P:aH}{S:aI->Prop}{Z Shr Hid:Nat->Prop}{o:Nat}{f:Nat->Nat}{g g':dD}{v w w':ay}{gs gs':Array dD}{t t':Trace}{q q':Nat->Nat}
theorem Mirror.same(h:Mirror P S Z Shr Hid o f g v gs w t q)(hc:Calm P Z Shr o (mine Z Shr w) gs' w' t' q')(hs:w'.heap.size=w.heap.size)(hb:∀b,¬Shr b->w'.heap[b]?=w.heap[b]?)(hcl:dS w w')(e:tZ w w')(hok:Ok P S g' v)(h0:gs'[0]?=some (bF f [] g')):Mirror P S Z Shr Hid o f g' v gs' w' t' q':=by
 have hp:=h.uj;have hr:=aby (Z:=Z) (Shr:=Shr) hs;refine⟨by rw[hr];exact hc,⟨hok,hp.inj,hp.fix,⟨hp.rq.good,fun b x hx=>?_⟩,by rw[hr];exact hp.held⟩,h0,h.shr⟩;have⟨o',d,c⟩:=hp.rq.block b x hx;rcases hp.held b x hx with a|a|⟨a,_⟩|⟨_,a⟩
 .exact⟨o',by rw[hb _ a.1.1.2];exact d,c⟩
 .cases x<;>first|(cases a;done)|skip;have⟨c',fr',m,_⟩:=c;subst m;have⟨c2,j,i⟩:=hcl _ _ _ _ d;refine⟨_,i,c2,j,rfl,fun hne=>?_⟩;rw[show Array.isEmpty _=true from a] at hne;cases hne
 .exact⟨o',by rw[hb _ (h.alone _ a).2];exact d,c⟩
 have hh:=Ii (by cases x<;>first|rfl|(cases a;done)) c;have⟨k,i,l⟩:=e.chan _ _ d (hh.isChan▸a);exact⟨k,i,vW (.inl ⟨a,l⟩)⟩
theorem Mirror.turn(p:Mirror P S Z Shr Hid o f g v gs w t q)(sl){H es}(hst:∀d,stepG P true (bF f [] g) (w.at d)=.go (bF f [] g') {w.at d with heap:=H} es)(hs:H.size=w.heap.size)(hb:∀b,¬Shr b->H[b]?=w.heap[b]?)(hcl:dS w {w with heap:=H})(c:tZ w {w with heap:=H})(h:∀e∈es,(∀x,(MemAct.ofEvent e).touch? =some x->QB Shr x.loc/\x.kind=.atomic)/\(MemAct.ofEvent e).low w.heap.size/\e.loc≠.mark .disable/\e.loc≠.mark .enable)(hok:Ok P S g' v):∃(N:Nat) (gs':Array dD) (w':ay) (r:aB (Nat×Nat)) (t':Trace) (q':Nat->Nat),runNT P N (crowd gs w sl) t=(.next (crowd gs' w' r),t')/\Mirror P S Z Shr Hid o f g' v gs' w' t' q'/\w'.heap=H/\w'={w with heap:=w'.heap,drawn:=w'.drawn}:=by
 have⟨N,j,d,E,l,w1,t1,B,I,D,G,n,F,C⟩:=Ew (P:=P) (a:=bF f [] g) (show(bF f [] g).status=.running from p.uj.ok.run) _ gs w sl t q (aA _) p.at0 p.calm;have m:=Ut F.same G d;rw[m] at C;have hrun:=DR (P:=P) (sl:=l) (i:=0) D (show stepG P _ _ _=_ from hst d);have A:0<j.size:=(aP.1 D).1;have k:Calm P Z Shr o (mine Z Shr w) j (w.at d) t1 B:=by rw[<-m];exact⟨n.base.at d,n.OW,n.hears,n.size,n.old⟩
 have hc:=k.alk (w':={w.at d with heap:=H}) (gs':=(j.map (woken P (bF f [] g) (bF f [] g') {w.at d with heap:=H})).setIfInBounds 0 (bF f [] g')) (u:=MemOp.ofEvents 0 (bF f [] g).frame.fn (bF f [] g).frame.place es) hs hb hcl ⟨c.chan,c.os,c.output⟩
  (fun op z=>by obtain⟨e,he,rfl⟩:=Gn z;exact⟨rfl,(h e he).1,(h e he).2.1⟩) (by rw[Gm,k.hears];exact PR (fun e he=>(h e he).2.2) _) (by simp) (fun i hi=>by have⟨y,hy,s⟩:=k.old i hi;rw[xI _ _ _ _ (by omega),hy,Option.map_some,PM s])
 refine⟨N+1,_,_,l,_,B,zq N 1 _ _ _ _ _ I (by simp only[runNT,C,hrun]),p.same hc hs hb hcl ⟨c.chan,c.os,c.output⟩ hok (by rw[Gi _ _ _ A]),rfl,rfl⟩
theorem Mirror.recv(p:Mirror P S Z Shr Hid o f g v gs w t q)(sl){Ch cap s r buf closed tm fl z}(l:Shr Ch)(hst:∀d,stepG P true (bF f [] g) (w.at d)=.comm (bF f [] g) #[rcase Ch z] true (.recv fl) (w.at d) #[])(hc:w.heap[Ch]?=some (.chan cap buf closed s r tm))(j:0<buf.size)(A:Conc.served (bF f [] g) (Conc.recvd fl (buf.getD 0 undef) true)=bF f [] g')(hok:Ok P S g' v):∃(N:Nat) (gs':Array dD) (w':ay) (y:aB (Nat×Nat)) (t':Trace) (q':Nat->Nat),runNT P N (crowd gs w sl) t=(.next (crowd gs' w' y),t')/\Mirror P S Z Shr Hid o f g' v gs' w' t' q'/\w'.heap=(w.setChan Ch cap (buf.extract 1 buf.size) closed s (r+1) tm).heap/\w'={w with heap:=w'.heap,drawn:=w'.drawn}:=by
 obtain⟨N,C,d,G,k,w1,t1,E,O,M,L,n,K,F⟩:=Ew (P:=P) (a:=bF f [] g) (show(bF f [] g).status=.running from p.uj.ok.run) _ gs w sl t q (aA _) p.at0 p.calm;have m:=Ut K.same L d;rw[m] at F;have D:Calm P Z Shr o (mine Z Shr w) C (w.at d) t1 E:=by rw[<-m];exact⟨n.base.at d,n.OW,n.hears,n.size,n.old⟩
 obtain⟨B,u,J,I,H,_⟩:=D.recv (sl:=k) l M (hst d) (by exact hc) j;have i:((w.at d).setChan Ch cap _ closed s _ tm).heap=(w.setChan Ch cap (buf.extract 1 buf.size) closed s (r+1) tm).heap:=rfl;refine⟨N+1,B,_,k,_,E,zq N 1 _ _ _ _ _ O (by simp[runNT,F,J]),p.same H (by rw[i];exact size_setChan ..) (fun b hb=>?_) (fun b c e fr h=>by rw[i];exact zl hc b c e fr h) (⟨fun b x h h2=>by rw[i];exact(vV hc).chan b x h h2,rfl,rfl⟩) hok (by rw[I,A]),i,rfl⟩;rw[i];simp[World.setChan];exact jf (show Ch≠b from fun e=>hb (e▸l))
theorem Mirror.Nu(h:Mirror P S Z Shr Hid o f g v gs w t q)(sl){Ch cap s r tm fl z}(k:Shr Ch)(hst:∀d,stepG P true (bF f [] g) (w.at d)=.comm (bF f [] g) #[rcase Ch z] true (.recv fl) (w.at d) #[])(hc:w.heap[Ch]?=some (.chan cap #[] true s r tm))(j:Conc.served (bF f [] g) (Conc.recvd fl z false)=bF f [] g')(hok:Ok P S g' v):∃(N:Nat) (gs':Array dD) (w':ay) (i:aB (Nat×Nat)) (t':Trace) (q':Nat->Nat),runNT P N (crowd gs w sl) t=(.next (crowd gs' w' i),t')/\Mirror P S Z Shr Hid o f g' v gs' w' t' q'/\w'.heap=w.heap/\w'={w with heap:=w'.heap,drawn:=w'.drawn}:=by
 have⟨N,m,d,y,b,w1,t1,p,G,F,E,e,D,x⟩:=Ew (P:=P) (a:=bF f [] g) (show(bF f [] g).status=.running from h.uj.ok.run) _ gs w sl t q (aA _) h.at0 h.calm;have c:=Ut D.same E d;rw[c] at x;have n:Calm P Z Shr o (mine Z Shr w) m (w.at d) t1 p:=by rw[<-c];exact⟨e.base.at d,e.OW,e.hears,e.size,e.old⟩
 have⟨l,u,C,B,A,_⟩:=n.Nu (sl:=b) k F (hst d) (by exact hc);exact⟨N+1,l,_,b,_,p,zq N 1 _ _ _ _ _ G (by simp[runNT,x,C]),h.same A rfl (fun _ _=>rfl) (.refl _) ⟨.of rfl,rfl,rfl⟩ hok (by rw[B,j]),rfl,rfl⟩
end
open Classical in
noncomputable def lG(B:Nat->Prop)(v:ay):ay:={v with heap:=v.heap.mapIdx fun b x=>if B b then uF x else x}
def mQ(B)(v):(lG B v).heap.size=v.heap.size:=by simp[lG]
def oU{B v b x}(h:(lG B v).heap[b]?=some x):∃x0,v.heap[b]?=some x0/\((B b/\x=uF x0)\/(¬B b/\x=x0)):=by
 simp only[lG,Gf] at h;have⟨x0,h1,h2⟩:=BX.1 h;refine⟨x0,h1,?_⟩;by_cases a:B b
 .rw[aY a] at h2;exact .inl ⟨a,h2.symm⟩
 rw[aU a] at h2;exact .inr ⟨a,h2.symm⟩
def OC{B v b}(a:¬B b):(lG B v).heap[b]?=v.heap[b]?:=by simp only[lG,Gf,aU a];cases v.heap[b]?<;>rfl
section
variable[jE]{P:aH}{S:aI->Prop}{Hid:Nat->Prop}{B:Nat->Prop}{f:Nat->Nat}{g g':dD}{v w:ay}{Ro own own':Nat->Prop}
theorem Ok.hide(h:Ok P S g v)(d:∀b x,B b->v.heap[b]?=some x->isCells x=true):Ok P S g (lG B v):=by
 refine⟨fun b x hb=>?_,h.wX,h.run,h.up,by rw[mQ];exact h.vg,fun H i e j ha=>?_,fun H i e ha b x hb=>?_⟩
 .obtain⟨x0,h1,h2|h2⟩:=oU hb
  .have hc:=d b x0 h2.1 h1;rw[h2.2];cases x0<;>first|(cases hc;done)|exact⟨.inr rfl,trivial⟩
  rw[h2.2];exact h.nv b x0 h1
 .rw[mQ] at ha;have⟨h1,h2⟩:=h.bound H i e j ha;refine⟨h1,fun b x hb=>?_⟩;obtain⟨x0,c,a|a⟩:=oU hb
  .have hc:=d b x0 a.1 c;rw[a.2];cases x0<;>first|(cases hc;done)|skip;simp[uF,obj,vals]
  rw[a.2];exact h2 b x0 c
 obtain⟨x0,c,a|a⟩:=oU hb
 .have hc:=d b x0 a.1 c;rw[a.2];cases x0<;>first|(cases hc;done)|skip;simp[uF,obj,vals]
 rw[a.2];exact h.clean H i e ha b x0 c
theorem eX.who(h:eX P S Ro own Hid f g v w)(hok:Ok P S g' v):eX P S Ro own Hid f g' v w:=⟨hok,h.inj,h.fix,h.rq,h.held⟩
theorem eX.hide(h:eX P S Ro own Hid f g v w)(a:∀b x,B b->v.heap[b]?=some x->isCells x=true)(ho:∀b x,v.heap[b]?=some x->¬B b->own (f b)->own' (f b)):eX P S Ro own' Hid f g (lG B v) w:=by
 refine⟨Ok.hide h.ok a,by rw[mQ];exact h.inj,h.fix,⟨fun b x hb=>((Ok.hide h.ok a).nv b x hb).2,fun b x hb=>?_⟩,fun b x hb=>?_⟩
 .have⟨x0,h1,h2⟩:=oU hb;have⟨o',e,d⟩:=h.rq.block b x0 h1;refine⟨o',e,?_⟩;rcases h2 with⟨h2,rfl⟩|⟨_,rfl⟩
  .have hc:=a b x0 h2 h1;cases x0<;>first|(cases hc;done)|skip;obtain⟨c',fr',rfl,_⟩:=d;exact⟨c',fr',rfl,fun h=>by cases h⟩
  exact d
 have⟨x0,h1,h2⟩:=oU hb;rcases h2 with⟨h2,rfl⟩|⟨h2,rfl⟩
 .have hc:=a b x0 h2 h1;cases x0<;>first|(cases hc;done)|exact .inr (.inl rfl)
 rcases h.held b _ h1 with c|c
 .exact .inl ⟨ho b _ h1 h2 c.1,c.2⟩
 exact .inr c
def kept(own:Nat->Prop)(f:Nat->Nat)(C:Nat->Prop):Nat->Prop:=fun b=>own b/\¬ ∃i,C i/\f i=b
def given(own:Nat->Prop)(f:Nat->Nat)(C:Nat->Prop):Nat->Prop:=fun b=>own b/\∃i,C i/\f i=b
theorem eX.adD(h:eX P S Ro own Hid f g v w){C}(c:∀b,C b->b<v.heap.size)(d:∀b x,C b->v.heap[b]?=some x->isCells x=true)(hok:Ok P S g' v):eX P S Ro (kept own f C) Hid f g' (lG C v) w:=eX.hide (eX.who h hok) d fun b x hx hn a=>⟨a,fun⟨i,hi,e⟩=>hn (by rw[<-h.inj i b (c i hi) (aP.1 hx).1 e];exact hi)⟩
theorem eX.ad2(h:eX P S Ro own Hid f g v w){C}(c:∀b x,¬C b->own (f b)->v.heap[b]?=some x->isCells x=true)(hok:Ok P S g' v):eX P S Ro (given own f C) Hid f g' (lG (fun b=>¬C b/\own (f b)) v) w:=eX.hide (eX.who h hok) (fun b x hb hx=>c b x hb.1 hb.2 hx) fun b x _ hn a=>⟨a,b,JZ fun hc=>hn ⟨hc,a⟩,rfl⟩
end
section
variable[jE][aX]{P:aH}{S:aI->Prop}{ty:aZ}{Wg Ch:Nat}{Ro:Nat->Prop}
theorem VY(j:bz P)(hS:mM P S){m k}(l:k.quiet=false)(n:∀e r,aX.ch r->yY r e->k.X e){D B}{C:Nat->Prop}(hD:∀g v,D g v->∀b,C b->∀o,v.heap[b]?=some o->dB o=true){f g v w own}(hp:eX P S Ro own aX.ch f g v w)(c:∀b,Ro b->b<w.heap.size/\¬own b)(ht:fO P S D g v)(s:∀(b) (o),v.heap[b]?=some o->dB o=true->C b)(a:∀g' v' f' w' own',D g' v'->eX P S Ro own' aX.ch f' g' v' w'->bP Ro (fun _=>False) w w'->(∀b,Ro b->b<w'.heap.size/\¬own' b)->(∀i,i<v.heap.size->f' i=f i)->v.heap.size<=v'.heap.size->bu P Ro (Live ty Wg Ch) m k ⟨bF f' B g',w',own'⟩):bu P Ro (Live ty Wg Ch) m k ⟨bF f B g,w,own⟩:=by unfold bu at a⊢;rw[l] at a⊢;exact GI j hS (fun e r h1 h2 h d=>n e r h1 ⟨h2,h,d⟩) hD (fun g' v' f' w' own' h1 h2 h d q p=>a g' v' f' w' own' h1 h2 h d q p) ht hp (bP.refl _ _ _) c (fun _ _=>rfl) (aA _) s
end
end Go.Crew
namespace Go.Ren
open Go.Conc
section
variable[M:Mps]{P:aH}{S:aI->Prop}
theorem acv(hz:bz P)(hS:mM P S){m Ro Hid Live X}(hX:∀e r,Hid r->e.loc=.obj r->e.write=false->e.sync=true->X e){Stop fn args v}{Post:ae->ay->Prop}(hP:∀x v t,Post x v->Post x (wt v t)){C:Nat->Prop}(hD:∀x v,Post x v->∀b,C b->∀o,v.heap[b]?=some o->dB o=true)(hC:∀(b:Nat) (o:Obj),v.heap[b]?=some o->dB o=true->C b){f:Nat->Nat}{w:ay}{own:Nat->Prop}(hp:eX P S Ro own Hid f (G (Frame.enter P fn args .normal) [bottom]) v w)(hRo:∀b,Ro b->b<w.heap.size/\¬own b)(h:∀t,Calls P fn args (wt v t) fun e w'=>∃x,e=.returned x/\Post x w'){c:aC}{cs:List aC}(F:∀x f' T v' w' own',Post x v'->T.leaving P v' (.returned x)->eX P S Ro own' Hid f' (G T [bottom]) v' w'->bP Ro (fun _=>False) w w'->(∀b,Ro b->b<w'.heap.size/\¬own' b)->(∀i,i<v.heap.size->f' i=f i)->v.heap.size<=v'.heap.size->Way P m Ro Live false X Stop (G (c.finish (val f' x)) cs) w' own'):Way P m Ro Live false X Stop (G (Frame.enter P fn (vals f args) .normal) (c::cs)) w own:=by
 have ht:=MS hz hS hP hp.ok h;have e:bF f (c::cs) (G (Frame.enter P fn args .normal) [bottom])=G (Frame.enter P fn (vals f args) .normal) (c::cs):=by unfold bF uG;dsimp[Conc.G];rw[gK];rfl
 rw[<-e];refine Zt (n0:=v.heap.size) (f0:=f) (w0:=w) hz hS hX (C:=C) (fun g' v' hd=>?_) ht hp.ok (bP.refl _ _ _) hRo hp.inj hp.fix hp.rq hp.held (fun _ _=>rfl) (aA _) hC ?_
 .obtain⟨⟨fr,x,rfl,hf,hl,Y⟩,_,_⟩:=hd;exact hD x v' Y
 rintro g' v' f1 w1 a ⟨⟨fr,x,rfl,hf,⟨hm,R,hk,q,hq,hr⟩,E⟩,N,L⟩ _ V B H I D u ha1 hn1 _;have Z:eX P S Ro a Hid f1 _ v' w1:=⟨N,H,I,D,u⟩;have hlv:fr.leaving P v' (.returned x):=⟨hm,R,hk,q,hq,hr⟩;have U:=mf P (results q fr.tmps) v' #[];rw[hr] at U;generalize hrun:(results q fr.tmps).runT P v' #[]=z at U;have⟨z,es⟩:=z;cases U;have k:∀w2,bP Ro a w1 w2->∃w3 es1,stepG P m (bF f1 (c::cs) (G fr [bottom])) w2=.go (G (c.finish (val (bH f1 v' w2) x)) cs) w3 es1/\Zl false X Ro a (more a w2 w3) w2 w3 es1/\eX P S Ro (more a w2 w3) Hid (bH f1 v' w2) (G fr [bottom]) v' w3:=fun w2 g=>by
  have⟨l,Q,heq⟩:=Z.rely g (c::cs);rw[heq];have⟨b,w3,e1,e2,j,hev⟩:=(eF.of (zA (P:=P) (f:=bH f1 v' w2) (K:=kd P S) q fr.tmps) Q l.rq).ok #[] x v' es (fun e he=>by simp at he) hrun
   ⟨fun i h1 h2=>by omega,fun i h1=>by rw[jh h1];omega,fun i h1 h2=>by omega⟩;have e3:b=val (bH f1 v' w2) x:=e2;subst e3;rw[DJ] at e1;have hszz:=j.size;have n:∀b o,v'.heap[b]?=some o->Held Ro (more a w2 w3) Hid (bH f1 v' w2 b) o:=fun b o hb=>(l.held b o hb).imp (PS .inl) id;have s:lT w2 w3:=fun b' o' A J=>by
   by_cases hx:∃c o,v'.heap[c]?=some o/\bH f1 v' w2 c=b'/\dB o=true
   .obtain⟨c,o,hc,rfl,s⟩:=hx;exact⟨o',by rw[(j.chan c o o hc hc s).2];exact A,J⟩
   refine⟨o',?_,J⟩;rw[j.keeps b' (aP.1 A).1 fun c o hc e=>?_]
   .exact A
   have⟨o1,h1,h2⟩:=l.rq.block c o hc;rw[e,A] at h1;obtain rfl:=aN h1;exact absurd ⟨c,o,hc,e,CG h2 J⟩ hx
  refine⟨w3,seen P fr.fn (es.map (event (bH f1 v' w2))),?_,⟨fun h=>(by cases h),by omega,fun b hb hno=>?_,j.right.same,fun _ h=>h,fun e he=>?_,j.cells,⟨s,by rw[j.right.same],by rw[j.right.same]⟩⟩,⟨l.ok,l.inj,l.fix,j.rq,n⟩⟩
  .unfold bF uG stepG;dsimp only[stk,Conc.G];have O:(frame (bH f1 v' w2) fr).mode=.returning:=by simp[frame,hm,mode]
   have hd':(frame (bH f1 v' w2) fr).defers=[]:=by simp[frame,R]
   have hk':(frame (bH f1 v' w2) fr).kind=.normal:=hk;have hf':(frame (bH f1 v' w2) fr).fn=fr.fn:=rfl;have W:(frame (bH f1 v' w2) fr).tmps=vals (bH f1 v' w2) fr.tmps:=rfl;simp only[O];unfold unwind;simp only[hd',O,hf',hq,W,e1,doReturn,hk',GStep.after];simp
  .by_cases hx:∃c o,v'.heap[c]?=some o/\bH f1 v' w2 c=b/\dB o=true
   .obtain⟨c,o,hc,rfl,s⟩:=hx;exact(j.chan c o o hc hc s).2
   refine j.keeps b hb fun d o hc e=>?_;rcases l.held d o hc with h2|h2|⟨_,h2⟩|⟨_,h2⟩
   .rw[e] at h2;exact absurd h2.1 hno
   .exact .inl h2
   .rcases h2 with h2|⟨y,rfl⟩
    .exact .inr h2
    exact absurd ⟨d,_,hc,e,rfl⟩ hx
   exact absurd ⟨d,o,hc,e,by cases o<;>first|rfl|(cases h2;done)⟩ hx
  exact Nq P fr.fn (p:=fun e=>EvO Ro (more a w2 w3) e\/X e) (fun e he=>by obtain⟨U,he0,rfl⟩:=UK.1 he;exact YC hX (hev U he0) n) e he
 classical
 refine .step rfl (fun w2=>G (c.finish (val (bH f1 v' w2) x)) cs) (fun w2=>if h:bP Ro a w1 w2 then Classical.choose (k w2 h) else w2) (fun w2=>if h:bP Ro a w1 w2 then Classical.choose (fB (k w2 h)) else #[]) (fun w2 g _=>?_) (fun w2 g _=>?_)
 .have hk:=fB (fB (k w2 g));simp only[ou g];exact⟨hk.1,hk.2.1⟩
 have hk:=fB (fB (k w2 g));simp only[ou g];have hg:=hk.2.1;refine F _ _ _ _ _ _ E hlv hk.2.2 (V.trans ⟨bM g.size hg.size,fun b hb ho=>?_,g.cells.trans hg.cells,g.chans.trans hg.chans⟩) (fun b hb=>?_) (fun i hi=>(eG (bT hi L)).trans (ha1 i hi)) L
 .rcases ho with ho|ho
  .have⟨h1,h2⟩:=B b ho;exact(hg.keep b (bT hb g.size) h2).trans (g.keep b hb (.inl ho))
  exact ho.elim
 have⟨h1,h2⟩:=B b hb;have h3:=g.size;have h4:=hg.size;exact⟨by omega,fun h=>h.elim h2 fun h=>by omega⟩
end
end Go.Ren
