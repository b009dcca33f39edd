import Derived.Conc.LoneCalls
import Derived.Test.YtjilljfmaknihaaGreatA16
set_option linter.all false
set_option maxHeartbeats 6400000
namespace Go
def lH:=@Go.ConcN.norel_of_Bk
def qG:=@Go.Conc.aside_setCell
def Gh:=@Go.ConcN.Mode.retag
def Y9:=@Go.Conc.offersAt_of_not_blocked
def JU:=@Go.ConcN.Deaf_still
def PO:=@Go.ConcN.sumTo_upd
end Go
namespace Go.Crew
open Go.Conc Go.ConcN Go.Ren
open Go.ConcR (KK wgBlock WgAt stA smA rd wr mk Bk g_of_ofEvents ofEvent_mk ofEvent_cell bk_of_mute ofEvent_loc_mark deafBehind_cons deafBehind_one again_blocked)
section
variable[aX]
theorem Jm(o:Nat):∀(j:Nat) (l:List Nat),l.Nodup->(∀a∈l,o<=a/\a<j)->l.length<=j-o
|0,l,_,h=>by
 cases l with
 |nil=>exact gy _
 |cons a l=>exact absurd (h a (by simp)).2 (Gl a)
|j+1,l,hn,h=>by
 by_cases hj:j∈l
 .have h1:=Jm o j (l.erase j) (hn.erase j) fun a ha=>by
   have h2:=hn.mem_erase_iff.1 ha;have:=h a h2.2;have:=h2.1;omega
  have h2:=List.length_erase (a:=j) (l:=l);have:=h j hj;split at h2<;>omega
 have h1:=Jm o j l hn fun a ha=>by have:=h a ha;have:a≠j:=fun e=>hj (e▸ha);omega
 omega
section
variable(P:aH)(ty:aZ)(Wg Ch:Nat)(Ro:Nat->Prop)(n:Nat)(Anch Done:Stops)(pay:Nat->aB ae)
def nT(j:Nat)(paid:Nat->Bool):Nat:=sumTo j fun i=>if paid i then 0 else 1
def cost(x:St):Nat:=phi n (Vc x.j x.D) x.tag+Ssum x.j x.D+nT x.j x.paid
def ahd(s:aB Kind)(a' a:Rank×Nat):Prop:=
 match s with
 |some k=>Child P Ro (Live ty Wg Ch) false k a'.1 a.1
 |none=>a'.2<a.2
def St.kind(x:St)(i:Nat):aB Kind:=qP P ty Wg Ch Ro (pay i) (x.paid i) (x.D i).stage
def St.wk(x:St)(i:Nat):Rank×Nat:=(x.f (i+1),(x.D i).fuel)
inductive Turn (x' x:St):Prop
 |less (h:cost n x'<cost n x):Turn x' x
 |worker (h:cost n x'=cost n x) (hj:x'.j=x.j) (hs:∀i,i<x.j->(x'.D i).stage=(x.D i).stage/\x'.paid i=x.paid i)
   (ho:One (fun i=>ahd P ty Wg Ch Ro (x.kind P ty Wg Ch Ro pay i)) x.j x'.wk x.wk):Turn x' x
 |main (h:cost n x'=cost n x) (hj:x'.j=x.j) (hD:x'.D=x.D) (hp:x'.paid=x.paid) (hf:∀i,x'.f (i+1)=x.f (i+1))
   (ho:(x'.tag=x.tag/\∃k,zT P ty Wg Ch Ro n Anch Done pay x.tag=some k/\Child P Ro (Live ty Wg Ch) true k (x'.f 0) (x.f 0))\/(x.tag=.w3/\x'.tag=.blk)):Turn x' x
end
section
variable{P:aH}{ty:aZ}{Wg Ch:Nat}{Ro Shr:Nat->Prop}{o n cap:Nat}{Anch Done:Stops}{pay:Nat->aB ae}{rz:Nat}{tm:Bool}
theorem Vd{p b s k}(h:qP P ty Wg Ch Ro p b s=some k)(h6:s<=6):k.quiet=true:=by unfold qP at h;split at h<;>first|omega|cases h<;>rfl
theorem afu{p b s k}(h:qP P ty Wg Ch Ro p b s=some k):∀e,k.X e->∃b,aX.ch b/\yY b e:=by unfold qP at h;split at h<;>first|(cases h;first|exact fun _ h=>h|exact fun _ h=>h.elim|(split<;>exact fun _ h=>h))|cases h
theorem ac9(x:St)(i)(d)(r)(tag):(x.put i d r tag).wk=upd x.wk i (r,d.fuel):=by
 funext k;show(upd x.f (i+1) r (k+1),(upd x.D i d k).fuel)=_;by_cases e:k=i
 .subst e;rw[upd_same,upd_same,upd_same]
 rw[bQ _ _ (by omega),bQ _ _ e,bQ _ _ e];rfl
theorem QD(x){i}(hi:i<x.j)(r)(tag)(d)(ht:tag=x.tag\/(x.tag=.blk/\tag=.w3))(hd:d.stage=(x.D i).stage)(h:ahd P ty Wg Ch Ro (x.kind P ty Wg Ch Ro pay i) (r,d.fuel) (x.wk i)):Turn P ty Wg Ch Ro n Anch Done pay (x.put i d r tag) x:=by
 have hst:∀k,(upd x.D i d k).stage=(x.D k).stage:=fun k=>by
  by_cases e:k=i
  .subst e;rw[upd_same,hd]
  rw[bQ _ _ e]
 refine .worker ?_ rfl (fun k _=>⟨hst k,rfl⟩) ⟨i,hi,?_,fun k hk=>?_⟩
 .show phi n (Vc x.j (upd x.D i d)) tag+Ssum x.j (upd x.D i d)+nT x.j x.paid=_;rw[phi_retag n _ ht,show Vc x.j _=Vc x.j x.D from sumTo_congr fun k _=>by simp[cnt,hst k],show Ssum x.j _=Ssum x.j x.D from sumTo_congr fun k _=>hst k]
  rfl
 .rw[ac9,upd_same];exact h
 rw[ac9,bQ _ _ hk]
theorem aaQ(x){i}(hi:i<x.j)(r)(tag)(d)(ht:tag=x.tag\/(x.tag=.blk/\tag=.w3))(hd:d.stage<(x.D i).stage):Turn P ty Wg Ch Ro n Anch Done pay (x.put i d r tag) x:=by
 refine .less ?_;show phi n (Vc x.j (upd x.D i d)) tag+Ssum x.j (upd x.D i d)+nT x.j x.paid<phi n _ x.tag+Ssum x.j x.D+nT x.j x.paid;rw[phi_retag n _ ht];have e1:=PO x.D d cnt hi;have e2:=PO x.D d WD.stage hi;have hc:cnt d<=cnt (x.D i):=by simp[cnt];split<;>split<;>omega
 simp[Vc,Ssum] at *;have:=phi_mono n (v':=sumTo x.j fun a=>cnt (upd x.D i d a)) (v:=sumTo x.j fun a=>cnt (x.D a)) (by omega) x.tag;omega
section
variable{x:St}{gs:Array dD}{w:ay}{t:Trace}{st sm:Int}
theorem sV{α:Type}(f:Nat->α)(i):upd f i (f i)=f:=by
 funext k;by_cases e:k=i
 .subst e;rw[upd_same]
 rw[bQ _ _ e]
def PZ(P:aH)(ty:aZ)(Wg Ch:Nat)(Ro Shr:Nat->Prop)(o n cap:Nat)(Anch Done:Stops)(pay:Nat->aB ae)(rz:Nat)(tm:Bool)(x:St)(gs:Array dD)(w:ay)(sl:aB (Nat×Nat))(t:Trace)(k:Nat):Prop:=∃gs' w' x' ops st' sm',runT P (crowd gs w sl) k=(.next (crowd gs' w' sl),ops)/\Inv P ty Wg Ch Ro Shr o n cap Anch Done pay rz tm x' gs' w' (t++ops) st' sm'/\Turn P ty Wg Ch Ro n Anch Done pay x' x
theorem Inv.Xr(h:Inv P ty Wg Ch Ro Shr o n cap Anch Done pay rz tm x gs w t st sm)(sl){i}(hi:i<x.j){g}(hg:gs[i+1]?=some g){k}(hk:x.kind P ty Wg Ch Ro pay i=some k)(y:g=(x.f (i+1)).g)(hw:bu P Ro (Live ty Wg Ch) false k (x.f (i+1)))(hn:¬uB Ro (Live ty Wg Ch) k (x.f (i+1))):PZ P ty Wg Ch Ro Shr o n cap Anch Done pay rz tm x gs w sl t (i+1):=by
 obtain⟨g',w',es,s,m,v,B⟩:=hw.step hn (h.rely (i+1)) h.live;rw[<-y] at s;have C:=afu hk;have q:o<=i:=by
  rcases kJ i o with l|z
  .unfold St.kind at hk;rw[h.elder i l] at hk;cases hk
  exact z
 have u:(x.D i).stage<=6->w'=w/\es=#[]:=fun p=>m.quiet (Vd hk p);have A:Deaf t (i+1)=0\/es=#[]:=by
  have h1:=h.stages i hi;rcases kJ 6 (x.D i).stage with h7|p
  .left
   rw[h.deafW i hi,h.Iz i hi (by omega),aU (by omega)]
  exact .inr (u p).2
 obtain⟨H,G,E,b4⟩:=h.base.way (by omega) (.inr (by omega)) (fun e he=>.inr (let ⟨b,h1,h2⟩:=C e he;⟨b,h.hid b h1,h2⟩)) (.inr A) m g.frame.fn g.frame.place;have hmarks:∀e∈es,(∀a,e.loc≠.mark (.release a))/\e.loc≠.mark .disable/\e.loc≠.mark .enable:=fun e he=>by
  rcases m.evs e he with d|d
  .unfold EvO at d
   refine⟨fun a h1=>?_,fun h1=>?_,fun h1=>?_⟩<;>(rw[h1] at d;cases d)
  obtain⟨b,_,this,_⟩:=C e d;refine⟨fun a h1=>?_,fun h1=>?_,fun h1=>?_⟩<;>(rw[h1] at this;cases this)
 obtain⟨gs',c,F,ht,hI⟩:=h.worker hi hg s _ _ H G (bP.refl _ _ _)
  (fun c=>by
   unfold WSit;have:qP P ty Wg Ch Ro (pay i) ((x.put i (x.D i) ⟨g',w',more (x.f (i+1)).own w w'⟩ c).paid i) ((x.put i (x.D i) ⟨g',w',more (x.f (i+1)).own w w'⟩ c).D i).stage=some k:=by show qP P ty Wg Ch Ro _ _ (upd x.D i (x.D i) i).stage=some k;rw[upd_same];exact hk
   rw[this];show g'=(upd x.f _ _ _).g/\bu P Ro _ false k (upd x.f (i+1) _ (i+1));rw[upd_same];exact⟨rfl,v⟩)
  (fun e he=>(hmarks e he).1 _) (PR (fun e he=>(hmarks e he).2) _) (h.Iz i hi)
  (fun l=>absurd l (by omega)) (.inl q)
  (fun _ p=>by
   obtain⟨_,e⟩:=u p;obtain⟨r,hr⟩:=h.rel i q hi p;refine⟨r,?_⟩;rw[e];have:MemOp.ofEvents (i+1) g.frame.fn g.frame.place #[]=#[]:=by rw[BA];simp
   rw[this,Array.append_empty];exact hr)
  (h.wg.of_block (E Wg h.shr.1))
  (fun c ht _=>Gh (h.mode.congr fun a _=>by rw[sV]) ht)
  (E Ch h.shr.2) (h.nY i hi) (h.stages i hi)
 refine⟨gs',w',_,_,st,sm,F,hI,QD x hi _ c _ ht rfl ?_⟩;rw[hk];exact B
theorem Inv.lg(h:Inv P ty Wg Ch Ro Shr o n cap Anch Done pay rz tm x gs w t st sm)(sl){i}(hi:i<x.j){g g' w' es}(hg:gs[i+1]?=some g)
  (s:stepG P false g w=.go g' w' es) (m:Aside Wg w w') (u:∀e∈es,BkS Wg e) (q:∀e∈es,e.loc≠.mark (.release (stA Wg))) (s' m') {st' sm'}
  (hs:match qP P ty Wg Ch Ro (pay i) (x.paid i) s' with|some k=>bu P Ro (Live ty Wg Ch) false k ⟨g',w',x.own (i+1)⟩|none=>s'=1/\QuitsD P m' (deafBehind (x.D i).deaf es) g')
  (z:s'≠1->deafBehind (x.D i).deaf es=if s'<=5 then 1 else 0)
  (y:i<o->s'=1) (v:o<=i \/ ∀e∈es,(MemAct.ofEvent e).touch? =none)
  (p:o<=i->s'<=6->∃r,RelBy (stA Wg) (t++MemOp.ofEvents (i+1) g.frame.fn g.frame.place es) (i+1) r)
  (l:WgAt ty Wg w' st' sm')
  (d:∀a,(a=x.tag\/(x.tag=.blk/\a=.w3))->(mayWake P g=true->g'.status=.running->a≠.blk)->ConcN.Mode x.j (upd x.D i ⟨s',m',deafBehind (x.D i).deaf es⟩) a st' sm')
  (A:Ch≠Wg) (c:s'<=6->(pay i).isSome=true->x.paid i=true) (hst:1<=s'/\s'<=7) (b:s'<(x.D i).stage\/(s'=1/\(x.D i).stage=1/\m'<(x.D i).fuel)) :
  PZ P ty Wg Ch Ro Shr o n cap Anch Done pay rz tm x gs w sl t (i+1):=by
 obtain⟨G,F⟩:=h.base.book h.shr.1 (i:=i+1) (by omega) m (SQ m h.wg l) (MZ m h.wg) u g.frame.fn g.frame.place;obtain⟨gs',a,E,ht,hI⟩:=h.worker hi hg s _ ⟨g',w',x.own (i+1)⟩ (by rw[sV];exact G) (fun i' _=>F i') (bP.refl _ _ _)
  (fun a=>by
   unfold WSit;show(match qP P ty Wg Ch Ro _ (x.paid i) (upd x.D i ⟨s',m',deafBehind (x.D i).deaf es⟩ i).stage with|some k=>g'=(upd x.f _ _ _).g/\bu P Ro _ false k (upd x.f (i+1) ⟨g',w',x.own (i+1)⟩ (i+1))|none=>(upd x.D i ⟨s',m',deafBehind (x.D i).deaf es⟩ i).stage=1/\QuitsD P (upd x.D i ⟨s',m',deafBehind (x.D i).deaf es⟩ i).fuel (upd x.D i ⟨s',m',deafBehind (x.D i).deaf es⟩ i).deaf g')
   rw[upd_same,upd_same];revert hs;dsimp only;split
   .exact fun h=>⟨rfl,h⟩
   exact id)
  q rfl z y v p l d (m.block Ch A) c hst
 refine⟨gs',w',_,_,st',sm',E,hI,?_⟩;rcases b with b|⟨C,B,b⟩
 .exact aaQ x hi _ a _ ht b
 refine QD x hi _ a _ ht (C.trans B.symm) ?_;have:x.kind P ty Wg Ch Ro pay i=none:=by unfold St.kind;rw[B];rfl
 rw[this];exact b
end
end
section
variable{P:aH}{ty:aZ}{Wg Ch:Nat}{Ro Shr:Nat->Prop}{o n cap:Nat}{Anch Done:Stops}{pay:Nat->aB ae}{rz:Nat}{tm:Bool}{x:St}{gs:Array dD}{w:ay}{t:Trace}{st sm:Int}
theorem aeK{Wg m}(h:(MemAct.mark m).touch? =none)(h':∀B,Wg<B->(MemAct.mark m).low B):∀e∈#[mk m],BkS Wg e:=by intro e he;simp at he;subst he;exact .inl ⟨h,h'⟩
theorem ja{es:Array Event}(h:∀e∈es,Bk Wg e):∀e∈es,BkS Wg e:=fun e he=>ab8 (h e he)
theorem Inv.noPartner(h:Inv P ty Wg Ch Ro Shr o n cap Anch Done pay rz tm x gs w t st sm)(k)(c)(s):partners (gs.setIfInBounds k ph) c s=[]:=by
 refine partners_nil fun j g hg=>?_;rcases getElem?_stand gs k j g hg with⟨_,rfl⟩|⟨_,hg⟩
 .rfl
 rcases uu j with rfl|d
 .have⟨a,ha,hm⟩:=h.main;rw[ha] at hg;obtain rfl:=aN hg;unfold uA at hm
  split at hm
  .obtain⟨rfl,hw⟩:=hm;exact Y9 (by rw[hw.status];decide) _ _
  obtain⟨_,rfl,_,hs⟩:=hm;have f:=hs w (h.rely 0) h.live;simp[offersAt,f.2.1]
 have hj:j-1<x.j:=by have:=(aP.1 hg).1;rw[h.size] at this;omega
 have⟨g',b,hs⟩:=h.wk _ hj;rw[show j-1+1=j by omega,hg] at b;obtain rfl:=aN b;refine Y9 (fun e=>?_) _ _;rcases hs.status with h1|h1<;>(rw[h1] at e;cases e)
theorem Inv.sends(h:Inv P ty Wg Ch Ro Shr o n cap Anch Done pay rz tm x gs w t st sm)(X:Ch≠Wg)(O:n-o<=cap)(sl){i}(hi:i<x.j){g}(hg:gs[i+1]?=some g)(S:(x.D i).stage=7)(hp:x.paid i=false){v z}(E:pay i=some v)(hst:stepG P false g w=.comm g #[scase Ch v z] true .send w #[])(hw:bu P Ro (Live ty Wg Ch) false (kN (SR0 P ty Wg Ch Ro)) ⟨Conc.served g undef,w,x.own (i+1)⟩):PZ P ty Wg Ch Ro Shr o n cap Anch Done pay rz tm x gs w sl t (i+1):=by
 obtain⟨R,M,L,q,B⟩:∃R,R.g=Conc.served g undef/\R.w=w/\R.own=x.own _/\bu P Ro _ false _ R:=⟨⟨Conc.served g undef,w,x.own _⟩,rfl,rfl,rfl,hw⟩;have hns:i∉x.sent:=fun hm=>by have:=((h.ru i).1 hm).2.1;rw[hp] at this;cases this
 have W:x.sent.length<cap:=by
  have p:∀a,(pay a).isSome=true->o<=a:=fun a ha=>by
   rcases kJ a o with d|K
   .rw[h.pno a d] at ha;cases ha
   exact K
  have h1:=Jm o x.j _ (JW.2 ⟨hns,h.nodup⟩) fun a ha=>by
   rcases dW.1 ha with rfl|ha
   .exact⟨p a (by rw[E];rfl),hi⟩
   exact⟨p a ((h.ru a).1 ha).2.2,((h.ru a).1 ha).1⟩
  have h2:=h.le;simp[List.length_cons] at h1;omega
 have hrun:=crowd_send_room (sl:=sl) (i:=i+1) hg (by simpa using hst) h.chan (by simpa using W) (h.noPartner (i+1) Ch false);rw[finishComm_send] at hrun;have U:MemOp.ofEvents (i+1) g.frame.fn g.frame.place #[]=#[]:=by rw[BA];simp
 rw[U,Y8] at hrun;have G:=size_setChan w Ch cap ((x.sent.map fun i=>(pay i).getD undef).toArray.push v) false (x.sent.length+1) rz tm;have d:Ch<w.heap.size:=h.base.nU Ch h.shr.2;have hne:∀b,b≠Ch->(w.setChan Ch cap ((x.sent.map fun i=>(pay i).getD undef).toArray.push v) false (x.sent.length+1) rz tm).heap[b]?=w.heap[b]?:=fun b hb=>by simp[World.setChan];exact jf (fun e=>hb e.symm)
 have⟨V,Q⟩:=h.base.shared (i:=i+1) (by omega) G (fun b hb=>hne b fun e=>hb (e▸h.shr.2)) (zl h.chan) (vV h.chan) (u:=#[{g:=i+1,fn:=g.frame.fn,pos:=g.frame.place,act:=.send Ch x.sent.length},{g:=i+1,fn:=g.frame.fn,pos:=g.frame.place,act:=.sendDone Ch x.sent.length}])
  (fun op c=>by
   simp only[xH,dW,xx,xw] at c;rcases c with rfl|rfl
   .exact⟨rfl,fun x hx=>(by cases hx),d⟩
   exact⟨rfl,fun x hx=>(by cases hx),d⟩)
 generalize C:w.setChan Ch cap ((x.sent.map fun i=>(pay i).getD undef).toArray.push v) false (x.sent.length+1) rz tm=w' at *;generalize hu:(#[{g:=i+1,fn:=g.frame.fn,pos:=g.frame.place,act:=.send Ch x.sent.length},{g:=i+1,fn:=g.frame.fn,pos:=g.frame.place,act:=.sendDone Ch x.sent.length}]:Trace)=u at *;have F:∀op∈u,op.g=i+1:=by intro op c;rw[<-hu] at c;simp only[xH,dW,xx,xw] at c;rcases c with rfl|rfl<;>rfl
 have l:∀op∈u,op.act≠.mark .disable/\op.act≠.mark .enable:=by intro op c;rw[<-hu] at c;simp only[xH,dW,xx,xw] at c;rcases c with rfl|rfl<;>exact⟨by simp,by simp⟩
 have m:w'.heap[Ch]?=some (.chan cap (((x.sent++[i]).map fun i=>(pay i).getD undef).toArray) false (x.sent++[i]).length rz tm):=by rw[<-C,heap_setChan w Ch _ _ _ _ _ _ d];simp[E]
 have A:WgAt ty Wg w' st sm:=h.wg.of_block (hne Wg (fun e=>X e.symm));have N:∀k,upd x.paid i true k=(if k=i then true else x.paid k):=fun k=>rfl
 have⟨a,ha,hm⟩:=h.main;refine⟨_,w',{x with paid:=upd x.paid i true,f:=upd x.f (i+1) R,sent:=x.sent++[i]},u,st,sm,hrun,⟨by simp[h.size],h.started,h.le,h.oj,h.shr,h.hid,h.elder,h.OW.app fun op c=>?_,h.pno,?_,fun k=>?_,fun k hk=>?_,⟨a,?_,?_⟩,h.norel.app fun op c=>?_,?_,fun k hk=>?_,h.Iz,fun k J hk s=>?_,A,h.mode,m,?_,fun k=>?_,fun k hk s I=>?_,h.stages⟩,?_⟩
 .rw[<-hu] at c;simp only[xH,dW,xx,xw] at c;rcases c with rfl|rfl<;>exact .inr (.inr rfl)
 .have:(St.own {x with paid:=upd x.paid i true,f:=upd x.f (i+1) R,sent:=x.sent++[i]})=x.own:=by
   funext k;show(upd x.f (i+1) R k).own=_;by_cases e:k=i+1
   .subst e;rw[upd_same,q]
   rw[bQ _ _ e];rfl
  rw[this];exact V
 .show bP Ro (upd x.f (i+1) R k).own (upd x.f (i+1) R k).w w';by_cases e:k=i+1
  .subst e;rw[upd_same,q,L];exact Q _
  rw[bQ _ _ e];exact(h.rely k).trans (Q k)
 .by_cases e:k=i
  .subst e;refine⟨Conc.served g undef,by rw[Bv (by rw[h.size];omega)],?_⟩;unfold WSit;have T:qP P ty Wg Ch Ro (pay k) (upd x.paid k true k) (x.D k).stage=some (kN (SR0 P ty Wg Ch Ro)):=by rw[upd_same,S];rfl
   show(match qP P ty Wg Ch Ro (pay k) (upd x.paid k true k) (x.D k).stage with|some k'=>Conc.served g undef=(upd x.f (k+1) R (k+1)).g/\bu P Ro (Live ty Wg Ch) false k' (upd x.f (k+1) R (k+1))|none=>_)
   rw[T];show Conc.served g undef=(upd x.f (k+1) R (k+1)).g/\bu P Ro (Live ty Wg Ch) false (kN (SR0 P ty Wg Ch Ro)) (upd x.f (k+1) R (k+1));rw[upd_same];exact⟨M.symm,B⟩
  have⟨y,hy,H⟩:=h.wk k hk;exact⟨y,by rw[jf (by omega)];exact hy,H.congr rfl (bQ _ _ e) (bQ _ _ (by omega))⟩
 .rw[jf (by omega)];exact ha
 .exact hm.congr rfl (show upd x.f (i+1) R 0=x.f 0 from bQ _ _ (by omega))
 .rw[<-hu] at c;simp only[xH,dW,xx,xw] at c;rcases c with rfl|rfl<;>simp
 .rw[JU t 0 _ l,h.deaf0]
 .rw[JU t _ _ l,h.deafW k hk]
 .have⟨r,hr⟩:=h.rel k J hk s;by_cases e:k=i
  .subst e;have:(x.D k).stage<=6:=s;omega
  exact⟨r,hr.appNot fun op c=>by rw[F op c];omega⟩
 .show(x.sent++[i]).Nodup;rw[List.nodup_append];exact⟨h.nodup,by simp,fun a ha b hb=>by simp at hb;subst hb;rintro rfl;exact hns ha⟩
 .show k∈x.sent++[i]↔k<x.j/\upd x.paid i true k=true/\(pay k).isSome=true;rw[pY,eY];by_cases e:k=i
  .subst e;rw[upd_same,E];simp[hi]
  rw[bQ _ _ e,h.ru k];simp[e]
 .show upd x.paid i true k=true;by_cases e:k=i
  .subst e;rw[upd_same]
  rw[bQ _ _ e];exact h.nY k hk s I
 refine .less ?_;show phi n (Vc x.j x.D) x.tag+Ssum x.j x.D+nT x.j (upd x.paid i true)<phi n (Vc x.j x.D) x.tag+Ssum x.j x.D+nT x.j x.paid;have:=PO x.paid true (fun b:Bool=>if b then 0 else 1) hi
 simp only[hp] at this;simp only[nT];simp at this;omega
end
section
variable{P:aH}{ty:aZ}{Wg Ch:Nat}{Ro Shr:Nat->Prop}{o n cap:Nat}{Anch Done:Stops}{pay:Nat->aB ae}{rz:Nat}{tm:Bool}{x:St}{gs:Array dD}{w:ay}{t:Trace}{st sm:Int}
theorem U2{o j D}(he:∀i,i<o->(D i).stage=1)(ho:o<=j):Vc j D<=j-o:=by
 induction j with
 |zero=>simp[Vc,sumTo]
 |succ j b=>
 rcases kJ j o with d|a
 .have h1:=sumTo_congr (j:=j+1) (f:=fun i=>cnt (D i)) (g:=fun _=>0) fun i hi=>by simp only[cnt,he i (by omega)];rfl
  have h2:=sumTo_le (c:=0) (j:=j+1) fun _ _=>aA _;simp[Vc];omega
 have h1:=b a;simp[Vc,sumTo] at h1⊢;have:cnt (D j)<=1:=by simp[cnt];split<;>omega
 omega
theorem Inv.stepWorker(h:Inv P ty Wg Ch Ro Shr o n cap Anch Done pay rz tm x gs w t st sm)(hCW:Ch≠Wg)(hcap:n-o<=cap)(hn:n-o<2147483648)(sl){i}(hi:i<x.j){g}(hg:gs[i+1]?=some g)(hrun:g.status=.running):PZ P ty Wg Ch Ro Shr o n cap Anch Done pay rz tm x gs w sl t (i+1):=by
 have⟨g₁,M,hs⟩:=h.wk i hi;obtain rfl:g=g₁:=by rw[hg] at M;exact aN M
 have hVj:=U2 h.elder h.oj;have hoj:=h.oj;have hle:=h.le;have b:=h.wg;have W:=h.deafW i hi;have c:=h.mode;cases hk:x.kind P ty Wg Ch Ro pay i with
 |none=>
  unfold WSit at hs;rw[show qP P ty Wg Ch Ro _ _ (x.D i).stage=none from hk] at hs;have⟨h1,E⟩:=hs;cases hfu:(x.D i).fuel with
  |zero=>rw[hfu] at E;rw[E.1] at hrun;cases hrun
  |succ q=>
  rw[hfu] at E;rcases E with⟨hf,_⟩|⟨_,g',es,G,S,E⟩
  .rw[hf] at hrun;cases hrun
  have X:∀e∈es,Bk Wg e:=fun e he=>bk_of_mute (G e he);have hno:∀y e,es[y]?=some e->(MemAct.ofEvent e).touch? =none\/0<deafBehind (x.D i).deaf (es.extract 0 y):=fun y e he=>.inl (touch_mute (G e (kP he)));exact h.lg sl hi hg (S w) (.refl Wg w) (ja X) (lH X) 1 q ⟨rfl,E⟩ (fun e=>absurd rfl e) (fun _=>rfl) (.inr fun e he=>touch_mute (G e he))
   (fun u _=>let ⟨r,hr⟩:=h.rel i u hi (by omega);⟨r,hr.book W _ _ X hno⟩) b
   (fun m ht _=>Gh (by have:=c.same (i:=i) q (deafBehind (x.D i).deaf es);rwa[h1] at this) ht) hCW (fun _ hp=>h.nY i hi (by omega) hp) (by omega) (.inr ⟨rfl,h1,by omega⟩)
 |some k=>
  unfold WSit at hs;rw[show qP P ty Wg Ch Ro _ _ (x.D i).stage=some k from hk] at hs;have⟨hgk,hw⟩:=hs;have u:o<=i:=by
   rcases kJ i o with V|hge
   .unfold St.kind at hk;rw[h.elder i V] at hk;cases hk
   exact hge
  have F:∀{s'},i<o->s'=1:=fun V=>absurd V (by omega);by_cases K:uB Ro (Live ty Wg Ch) k (x.f (i+1));rotate_left
  .exact h.Xr sl hi hg hk hgk hw K
  have hst:=K w (h.rely (i+1)) h.live;rw[<-hgk] at hst;have l:qP P ty Wg Ch Ro (pay i) (x.paid i) (x.D i).stage=some k:=hk;have p:∀{es},(x.D i).stage<=6->(∀e∈es,Bk Wg e)->(∀y e,es[y]?=some e->(MemAct.ofEvent e).touch? =none\/0<deafBehind (x.D i).deaf (es.extract 0 y))->∃r,RelBy (stA Wg) (t++MemOp.ofEvents (i+1) g.frame.fn g.frame.place es) (i+1) r:=fun h6 hb hd=>by have⟨r,hr⟩:=h.rel i u hi h6;exact⟨r,hr.book W _ _ hb hd⟩
  have hstg:=h.stages i hi;have I:=h.Iz i hi;rcases(by omega:(x.D i).stage=7\/(x.D i).stage=6\/(x.D i).stage=5\/(x.D i).stage=4\/(x.D i).stage=3\/(x.D i).stage=2\/(x.D i).stage=1) with e7|e6|e5|e4|e3|e2|e1
  .
   rw[e7] at l;have hd:(x.D i).deaf=0:=by rw[I (by omega),e7];rfl
   have release:(x.paid i=true\/pay i=none)->SR0 P ty Wg Ch Ro g w (x.own (i+1))->PZ P ty Wg Ch Ro Shr o n cap Anch Done pay rz tm x gs w sl t (i+1):=fun hpd ⟨g',hgo,C⟩=>by
    refine h.lg sl hi hg hgo (.refl Wg w) (aeK rfl fun B hB=>hB) (by intro e he;simp at he;subst he;simp[Go.ConcR.mk]) 6 0 C (fun _=>by rw[hd];rfl) F (.inl u) (fun _ _=>⟨t.size,RelBy.new (by rw[W,hd]) _ _⟩) b
     (fun m ht _=>(c.counted hi (by omega) (.inl rfl) _ _).retag ht) hCW (fun _ hp=>?_) (by omega) (.inl (by omega));rcases hpd with h1|h1
    .exact h1
    rw[h1] at hp;cases hp
   cases hp:x.paid i with
   |true=>rw[hp] at l;obtain rfl:=aN l;exact release (.inl hp) hst
   |false=>
    rw[hp] at l;obtain rfl:=aN l;have hst:=hst;cases N:pay i with
    |none=>
    rw[N] at hst;exact release (.inr N) hst
    |some v=>
    rw[N] at hst;have⟨z,h1,h2⟩:=hst;exact h.sends hCW hcap sl hi hg e7 hp N h1 h2
  .rw[e6] at l;obtain rfl:=aN l;have⟨g',hgo,C⟩:=hst;have hd:(x.D i).deaf=0:=by rw[I (by omega),e6];rfl
   exact h.lg sl hi hg hgo (.refl Wg w) (ja bk_dis) (lH bk_dis) 5 0 C (fun _=>by rw[hd];rfl)
    F (.inl u) (fun _ _=>p (by omega) bk_dis (by intro y e he;exact .inl (by have:=kP he;simp at this;subst this;rfl))) b
    (fun m ht _=>(c.counted hi (by omega) (.inr rfl) _ _).retag ht) hCW (fun _ hp=>h.nY i hi (by omega) hp) (by omega) (.inl (by omega))
  .rw[e5] at l;obtain rfl:=aN l;have O:=hst;have hd:(x.D i).deaf=1:=by rw[I (by omega),e5];rfl
   have hc1:cnt (x.D i)=1:=by simp[cnt,e5]
   have hV1:1<=Vc x.j x.D:=by have:=le_sumTo (f:=fun k=>cnt (x.D k)) hi;simp only[Vc];omega
   have Y:∀y e,(#[rd (stA Wg),wr (stA Wg)]:Array Event)[y]?=some e->(MemAct.ofEvent e).touch? =none\/0<deafBehind (x.D i).deaf ((#[rd (stA Wg),wr (stA Wg)]:Array Event).extract 0 y):=by
    rw[hd];intro y e he
    match y,he with
    |0,_=>exact .inr (by simp[deafBehind])
    |1,_=>exact .inr (by simp[deafBehind,rd])
    |y+2,he=>simp at he
   have Z:deafBehind (x.D i).deaf #[rd (stA Wg),wr (stA Wg)]=1:=by rw[hd];rfl
   have hq0:∀q d,cnt (⟨1,q,d⟩:WD)=0:=fun _ _=>rfl;have opq:∀q d,OpenSt x.j x.D->OpenSt x.j (upd x.D i ⟨1,q,d⟩):=fun q d h a ha=>by
    by_cases e:a=i
    .subst e;rw[upd_same];simp
    rw[bQ x.D _ e];exact h a ha
   generalize J:x.tag=A at c;cases c with
   |opn h1 h2 h3=>
   obtain⟨v,N⟩:∃v,Vc x.j x.D+pend A=v+1:=⟨Vc x.j x.D+pend A-1,by omega⟩;rw[J] at hle;rw[N] at b;have Q:WgAt ty Wg w (((v)+1)*KK+((0:Nat):Int)) 0:=by simpa using b
   have⟨g',hgo,_,E⟩:=O v 0 (by omega) (by omega) Q;have⟨q,E⟩:=E (by omega);refine h.lg sl hi hg hgo (qG w (stA Wg) _) (ja bk_rw) (lH bk_rw) 1 q (st':=v*KK+((0:Nat):Int)) ⟨rfl,by rw[Z];exact E⟩ (fun e=>absurd rfl e) F (.inl u) (fun _ _=>p (by omega) bk_rw Y) (b.setSt _) (fun m ht _=>Gh ?_ ht) hCW (fun _ hp=>h.nY i hi (by omega) hp) (by omega) (.inl (by omega));have R:Vc x.j (upd x.D i ⟨1,q,deafBehind (x.D i).deaf #[rd (stA Wg),wr (stA Wg)]⟩)+pend A=v:=by have:=Vc_upd x.D (⟨1,q,deafBehind (x.D i).deaf #[rd (stA Wg),wr (stA Wg)]⟩:WD) hi;have:=hq0 q (deafBehind (x.D i).deaf #[rd (stA Wg),wr (stA Wg)]);omega
   have e:((v):Int)*KK+((0:Nat):Int)=((Vc x.j (upd x.D i ⟨1,q,deafBehind (x.D i).deaf #[rd (stA Wg),wr (stA Wg)]⟩)+pend A:Nat):Int)*KK:=by rw[R];simp
   rw[e,J];exact .opn h1 (opq q _ h2) (fun vs ev=>by have:=h3 vs ev;omega)
   |reg h1 h2 h3=>
   obtain⟨v,N⟩:∃v,Vc x.j x.D=v+1:=⟨Vc x.j x.D-1,by omega⟩;rw[J] at hle;rw[N] at b;have hp:pend A=0:=by cases A<;>first|rfl|exact h1.elim
   have Q:WgAt ty Wg w (((v)+1)*KK+((1:Nat):Int)) 0:=by simpa using b
   have⟨g',hgo,hl,E⟩:=O v 1 (by omega) (by omega) Q;by_cases hv0:v=0
   .subst hv0;have C:=hl ⟨rfl,rfl⟩;refine h.lg sl hi hg hgo (qG w (stA Wg) _) (ja bk_rw) (lH bk_rw) 4 0 C (fun _=>by rw[Z];rfl) F (.inl u) (fun _ _=>p (by omega) bk_rw Y) (by simpa using b.setSt (((0:Nat):Int)*KK+((1:Nat):Int))) (fun m ht _=>Gh ?_ ht) hCW (fun _ hp=>h.nY i hi (by omega) hp) (by omega) (.inl (by omega));have s:∀a,a<x.j->a≠i->(x.D a).stage=1:=fun a ha e=>by
     have c0:=others_uncounted hi N hc1 a ha e;have:=h2 a ha;simp only[cnt] at c0;split at c0<;>omega
    have:=Mode.last (D:=upd x.D i ⟨4,0,deafBehind (x.D i).deaf #[rd (stA Wg),wr (stA Wg)]⟩) i h1 hi (by rw[upd_same];simp) (fun a ha e=>by rw[bQ x.D _ e];exact s a ha e);rw[upd_same] at this;rw[J];simpa using this
   have⟨q,E⟩:=E (by omega);refine h.lg sl hi hg hgo (qG w (stA Wg) _) (ja bk_rw) (lH bk_rw) 1 q (st':=v*KK+((1:Nat):Int)) ⟨rfl,by rw[Z];exact E⟩ (fun e=>absurd rfl e) F (.inl u) (fun _ _=>p (by omega) bk_rw Y) (b.setSt _) (fun m ht _=>Gh ?_ ht) hCW (fun _ hp=>h.nY i hi (by omega) hp) (by omega) (.inl (by omega));have R:Vc x.j (upd x.D i ⟨1,q,deafBehind (x.D i).deaf #[rd (stA Wg),wr (stA Wg)]⟩)=v:=by have:=Vc_upd x.D (⟨1,q,deafBehind (x.D i).deaf #[rd (stA Wg),wr (stA Wg)]⟩:WD) hi;have:=hq0 q (deafBehind (x.D i).deaf #[rd (stA Wg),wr (stA Wg)]);omega
   have e:((v):Int)*KK+((1:Nat):Int)=((Vc x.j (upd x.D i ⟨1,q,deafBehind (x.D i).deaf #[rd (stA Wg),wr (stA Wg)]⟩):Nat):Int)*KK+1:=by rw[R];simp
   rw[e,J];exact .reg h1 (opq q _ h2) (by omega)
   |last L _ h2 h3 h4=>
   by_cases e:i=L
   .subst e;omega
   have:=h4 i hi e;omega
   |sema h2=>have:=h2 i hi;omega
   |fin _ h2=>have:=h2 i hi;omega
  .rw[e4] at l;obtain rfl:=aN l;have hx:=hst;have hd:(x.D i).deaf=1:=by rw[I (by omega),e4];rfl
   obtain⟨H,s,rfl,rfl⟩:=c.isLast hi (by omega);simp only[e4] at b;have⟨g',hgo,C⟩:=hx (by simpa using b);refine h.lg sl hi hg hgo (.refl Wg w) (ja bk_rd) (lH bk_rd) 3 0 C (fun _=>by rw[hd];rfl)
    F (.inl u) (fun _ _=>p (by omega) bk_rd (by rw[hd];intro y e he;match y,he with|0,_=>exact .inr (by simp[deafBehind])|y+1,he=>simp at he)) (by simpa using b) (fun m ht _=>Gh ?_ ht) hCW (fun _ hp=>h.nY i hi (by omega) hp) (by omega) (.inl (by omega))
   have:=Mode.last (D:=upd x.D i ⟨3,0,deafBehind (x.D i).deaf #[rd (stA Wg)]⟩) (tag:=x.tag) i H hi (by rw[upd_same];simp) (fun a ha e=>by rw[bQ x.D _ e];exact s a ha e);rw[upd_same] at this;simpa using this
  .rw[e3] at l;obtain rfl:kQ (SD3 P ty Wg Ch Ro)=k:=aN l;have hx:SD3 P ty Wg Ch Ro g w (x.own (i+1)):=hst;have hd:(x.D i).deaf=1:=by rw[I (by omega),e3];rfl
   obtain⟨H,s,rfl,rfl⟩:=c.isLast hi (by omega);simp only[e3] at b;have⟨g',hgo,C⟩:=hx (by simpa using b);have bkw:∀e∈#[wr (stA Wg)],Bk Wg e:=by intro e he;simp at he;subst he;exact bk_cell _ _ rfl
   refine h.lg sl hi hg hgo (qG w (stA Wg) _) (ja bkw) (lH bkw) 2 0 (st':=0) (sm':=0) C (fun _=>by rw[hd];rfl)
    F (.inl u) (fun _ _=>p (by omega) bkw (by rw[hd];intro y e he;match y,he with|0,_=>exact .inr (by simp[deafBehind])|y+1,he=>simp at he)) (b.setSt 0) (fun m ht _=>Gh ?_ ht) hCW (fun _ hp=>h.nY i hi (by omega) hp) (by omega) (.inl (by omega))
   have:=Mode.last (j:=x.j) (D:=upd x.D i ⟨2,0,deafBehind (x.D i).deaf #[wr (stA Wg)]⟩) (tag:=x.tag) i H hi (by rw[upd_same];simp) (fun a ha e=>by rw[bQ x.D _ e];exact s a ha e);rw[upd_same] at this;simpa using this
  .rw[e2] at l;obtain rfl:kQ (SD4 P ty Wg)=k:=aN l;obtain⟨hmw,hx⟩:SD4 P ty Wg g w (x.own (i+1)):=hst;have hd:(x.D i).deaf=1:=by rw[I (by omega),e2];rfl
   obtain⟨H,s,rfl,rfl⟩:=c.isLast hi (by omega);simp only[e2] at b;have⟨g',hgo,q,E⟩:=hx (by simpa using b);have T:g'.status=.running:=by
    cases q with
    |zero=>exact absurd E.2 (by decide)
    |succ q=>exact E.elim (fun x=>absurd x.2 (by decide)) (fun x=>x.1)
   have dd:deafBehind (x.D i).deaf (semEvents (smA Wg))=1:=by rw[hd];simp[deafBehind,semEvents]
   refine h.lg sl hi hg hgo (qG w (smA Wg) _) (ja bk_sem) (lH bk_sem) 1 q (st':=0) (sm':=1) ⟨rfl,by rw[dd];exact E⟩ (fun e=>absurd rfl e)
    F (.inl u) (fun _ _=>p (by omega) bk_sem ?_) (b.setSm 1) ?_ hCW (fun _ hp=>h.nY i hi (by omega) hp) (by omega) (.inl (by omega))
   .rw[hd];intro y e he
    match y,he with
    |0,he=>simp[semEvents] at he;subst he;exact .inl rfl
    |1,_=>exact .inr (by simp[deafBehind,semEvents])
    |2,_=>exact .inr (by simp[deafBehind,semEvents])
    |3,he=>simp[semEvents] at he;subst he;exact .inl rfl
    |y+4,he=>simp[semEvents] at he
   intro m ht hwk;have U:=hwk hmw T;have e3:m=.w3:=by
    rcases ht with rfl|⟨_,rfl⟩
    .revert H U;cases x.tag<;>intro H U<;>first|rfl|exact H.elim|exact absurd rfl U
    rfl
   subst e3;exact .sema fun a ha=>by
    by_cases e:a=i
    .subst e;rw[upd_same]
    rw[bQ x.D _ e];exact s a ha e
  rw[e1] at l;cases l
end
section
variable{P:aH}{ty:aZ}{Wg Ch:Nat}{Ro Shr:Nat->Prop}{o n cap:Nat}{Anch Done:Stops}{pay:Nat->aB ae}{rz:Nat}{tm:Bool}{x:St}{gs:Array dD}{w:ay}{t:Trace}{st sm:Int}
def St.move(x:St)(r:Rank)(tag:CTag):St:={x with f:=upd x.f 0 r,tag}
theorem zN(x:St)(r)(tag):(x.move r tag).own=upd x.own 0 r.own:=by
 funext k;show(upd x.f 0 r k).own=_;by_cases e:k=0
 .subst e;rw[upd_same,upd_same]
 rw[bQ _ _ e,bQ _ _ e];rfl
theorem Inv.starter(h:Inv P ty Wg Ch Ro Shr o n cap Anch Done pay rz tm x gs w t st sm)(sl){a a' w' es}(ha:gs[0]?=some a)(B:stepG P true a w=.go a' w' es)(r')(b){st' sm'}(i:Base Ro Shr o x.j (upd x.own 0 r'.own) w' (t++MemOp.ofEvents 0 a.frame.fn a.frame.place es))(m:∀i',i'≠0->bP Ro (x.own i') w w')(c:bP Ro r'.own r'.w w')(hs:uA P ty Wg Ch Ro n Anch Done pay (x.move r' b) a')(s:∀e∈es,e.loc≠.mark (.release (stA Wg)))(g:deafBehind (KE x.tag) es=KE b)(p:WgAt ty Wg w' st' sm')(d:ConcN.Mode x.j x.D b st' sm')(v:w'.heap[Ch]?=w.heap[Ch]?)(hst:x.j+Q5 b=n)(A:x.j+pend b<=n):∃gs',runT P (crowd gs w sl) 0=(.next (crowd gs' w' sl),MemOp.ofEvents 0 a.frame.fn a.frame.place es)/\Inv P ty Wg Ch Ro Shr o n cap Anch Done pay rz tm (x.move r' b) gs' w' (t++MemOp.ofEvents 0 a.frame.fn a.frame.place es) st' sm':=by
 have hrun:=DR (sl:=sl) ha (by simpa using B);refine⟨_,hrun,⟨by simp[h.size,St.move],hst,A,h.oj,h.shr,h.hid,h.elder,h.OW.app fun op q=>.inl (qH op q),h.pno,by rw[zN];exact i,fun k=>?_,fun k hk=>?_,⟨a',Gi _ _ _ (by rw[h.size];omega),hs⟩,h.norel.app (norel_of s),?_,fun k hk=>?_,h.Iz,fun k u hk z=>?_,p,d,?_,h.nodup,h.ru,h.nY,h.stages⟩⟩
 .show bP Ro _ (upd x.f 0 r' k).w w';rw[zN];by_cases e:k=0
  .subst e;rw[upd_same,upd_same];exact c
  rw[bQ _ _ e,bQ _ _ e];exact(h.rely k).trans (m k e)
 .have⟨y,hy,l⟩:=h.wk k hk;exact⟨y,by rw[xI _ _ _ _ (by omega),hy,Option.map_some,l.woken],l.congr rfl rfl (show upd x.f 0 r' _=x.f (k+1) from bQ _ _ (by omega))⟩
 .rw[Gm,h.deaf0];exact g
 .rw[xK t (by omega) _ qH];exact h.deafW k hk
 .have⟨r,hr⟩:=h.rel k u hk z;exact⟨r,hr.appOther qH (by omega)⟩
 rw[v];exact h.chan
theorem TM(x:St)(r)(tag)(i):(x.move r tag).f (i+1)=x.f (i+1):=show upd x.f 0 r _=x.f (i+1) from bQ _ _ (by omega)
theorem agi{tag k}(h:zT P ty Wg Ch Ro n Anch Done pay tag=some k):k.X=fun e=>(∃a,(e.loc=.mark (.read a)\/e.loc=.mark (.write a))/\a.block=Wg) \/ ∃b,aX.ch b/\yY b e:=by unfold zT at h;split at h<;>first|(cases h;rfl)|cases h
theorem Inv.Ko(h:Inv P ty Wg Ch Ro Shr o n cap Anch Done pay rz tm x gs w t st sm)(sl){a}(ha:gs[0]?=some a){k}(hk:zT P ty Wg Ch Ro n Anch Done pay x.tag=some k)(m:a=(x.f 0).g)(hw:bu P Ro (Live ty Wg Ch) true k (x.f 0))(hn:¬uB Ro (Live ty Wg Ch) k (x.f 0)):PZ P ty Wg Ch Ro Shr o n cap Anch Done pay rz tm x gs w sl t 0:=by
 obtain⟨g',w',es,j,d,l,p⟩:=hw.step hn (h.rely 0) h.live;rw[<-m] at j;have r:=agi hk;rw[r] at d;obtain⟨v,u,q,b4⟩:=h.base.way (by omega) (.inl rfl) (fun e he=>he.elim (fun⟨a,he,hb⟩=>.inl ⟨rfl,a,he,hb▸h.shr.1⟩) fun⟨b,h1,h2⟩=>.inr ⟨b,h.hid b h1,h2⟩) (.inl rfl) d a.frame.fn a.frame.place;have hmarks:∀e∈es,(∀a,e.loc≠.mark (.release a))/\e.loc≠.mark .disable/\e.loc≠.mark .enable:=fun e he=>by
  rcases d.evs e he with c|⟨a,c,_⟩|⟨b,_,c,_⟩
  .unfold EvO at c
   refine⟨fun a h1=>?_,fun h1=>?_,fun h1=>?_⟩<;>(rw[h1] at c;cases c)
  .refine⟨fun a h1=>?_,fun h1=>?_,fun h1=>?_⟩<;>(rw[h1] at c;rcases c with c|c<;>cases c)
  refine⟨fun a h1=>?_,fun h1=>?_,fun h1=>?_⟩<;>(rw[h1] at c;cases c)
 obtain⟨gs',s,hI⟩:=h.starter sl ha j _ x.tag v u (bP.refl _ _ _)
  (by
   unfold uA;show(match zT P ty Wg Ch Ro n Anch Done pay x.tag with|some k=>g'=(upd x.f 0 _ 0).g/\bu P Ro _ true k _|none=>_)
   rw[hk,upd_same];exact⟨rfl,l⟩)
  (fun e he=>(hmarks e he).1 _) (PR (fun e he=>(hmarks e he).2) _) (h.wg.of_block (q Wg h.shr.1)) h.mode (q Ch h.shr.2) h.started h.le
 refine⟨gs',w',_,_,st,sm,s,hI,.main rfl rfl rfl rfl (fun i=>TM x _ _ i) (.inl ⟨rfl,k,hk,?_⟩)⟩;show Child P Ro _ true k (upd x.f 0 _ 0) _;rw[upd_same];exact p
theorem Inv.iG(h:Inv P ty Wg Ch Ro Shr o n cap Anch Done pay rz tm x gs w t st sm)(sl){a a' w' es}(ha:gs[0]?=some a)(z:stepG P true a w=.go a' w' es)(m:Aside Wg w w')(q:∀e∈es,BkS Wg e)(p:∀e∈es,e.loc≠.mark (.release (stA Wg)))(b){st' sm' k}(hk:zT P ty Wg Ch Ro n Anch Done pay b=some k)(hs:bu P Ro (Live ty Wg Ch) true k ⟨a',w',x.own 0⟩)(d:deafBehind (KE x.tag) es=KE b)(l:WgAt ty Wg w' st' sm')(c:ConcN.Mode x.j x.D b st' sm')(A:Ch≠Wg)(hst:x.j+Q5 b=n)(y:x.j+pend b<=n)(r:phi n (Vc x.j x.D) b<phi n (Vc x.j x.D) x.tag):PZ P ty Wg Ch Ro Shr o n cap Anch Done pay rz tm x gs w sl t 0:=by
 have⟨v,u⟩:=h.base.book h.shr.1 (i:=0) (by omega) m (SQ m h.wg l) (MZ m h.wg) q a.frame.fn a.frame.place;have⟨gs',s,hI⟩:=h.starter sl ha z ⟨a',w',x.own 0⟩ b (by rw[sV];exact v) (fun i' _=>u i') (bP.refl _ _ _)
  (by
   unfold uA;show(match zT P ty Wg Ch Ro n Anch Done pay b with|some k=>a'=(upd x.f 0 _ 0).g/\bu P Ro _ true k _|none=>_)
   rw[hk,upd_same];exact⟨rfl,hs⟩)
  p d l c (m.block Ch A) hst y
 refine⟨gs',w',_,_,st',sm',s,hI,.less ?_⟩;show phi n (Vc x.j x.D) b+Ssum x.j x.D+nT x.j x.paid<phi n _ x.tag+Ssum x.j x.D+nT x.j x.paid;omega
theorem Inv.EK(h:Inv P ty Wg Ch Ro Shr o n cap Anch Done pay rz tm x gs w t st sm)(sl){a}(ha:gs[0]?=some a)(b:x.tag=.w3)(d:a=(x.f 0).g)(hw:bu P Ro (Live ty Wg Ch) true (kM Wg (SW3 P ty Wg Ch Ro Done)) (x.f 0))(c:uB Ro (Live ty Wg Ch) (kM Wg (SW3 P ty Wg Ch Ro Done)) (x.f 0))(m:stepG P true a w=.go {a with status:=.blocked} w #[])(hm:ConcN.Mode x.j x.D .blk st sm):PZ P ty Wg Ch Ro Shr o n cap Anch Done pay rz tm x gs w sl t 0:=by
 have⟨l,k⟩:=h.base.book h.shr.1 (i:=0) (by omega) (.refl Wg w) (.refl w) (.refl w) (es:=#[]) (by simp) a.frame.fn a.frame.place;have⟨gs',e,hI⟩:=h.starter sl ha m _ .blk (by rw[show(x.f 0).own=x.own 0 from rfl,sV];exact l) (fun i' _=>k i') (h.rely 0)
  (by
   unfold uA;refine⟨rfl,?_,?_⟩
   .show _={ (upd x.f 0 (x.f 0) 0).g with status:=.blocked};rw[upd_same,d]
   show bu P Ro _ true _ _/\uB Ro _ _ (upd x.f 0 (x.f 0) 0);rw[upd_same];exact⟨hw,c⟩)
  (by simp) (by rw[b];rfl) h.wg hm rfl (by have:=h.started;rw[b] at this;exact this) (by have:=h.le;rw[b] at this;exact this)
 refine⟨gs',w,_,_,st,sm,e,hI,.main ?_ rfl rfl rfl (fun i=>TM x _ _ i) (.inr ⟨b,rfl⟩)⟩;show phi n _ .blk+_+_=phi n _ x.tag+_+_;rw[b];rfl
end
section
variable{Ro Shr:Nat->Prop}{o j:Nat}{own:Nat->Nat->Prop}{w w':ay}{t:Trace}
theorem Base.fork(h:Base Ro Shr o j own w t){c a}(h0:∀b,c b->own 0 b)(hc:∀b,a b->own 0 b)(hd:∀b,c b->¬a b){x y}(hx:x.g=0/\x.act=.go (j+1))(hy:y.g=j+1/\y.act=.start)(z:Deaf t 0=0):Base Ro Shr o (j+1) (upd (upd own 0 c) (j+1) a) w (t++#[x,y]):=by
 have F:upd (upd own 0 c) (j+1) a 0=c:=by rw[bQ _ _ (by omega),upd_same]
 have E:upd (upd own 0 c) _ a (j+1)=a:=upd_same _ _ _;have D:∀k,k≠0->k≠j+1->upd (upd own 0 c) _ a k=own k:=fun k h1 h2=>by rw[bQ _ _ h2,bQ _ _ h1]
 have d:∀k b,upd _ _ a k b->(k=0/\c b/\own 0 b)\/(k=j+1/\a b/\own 0 b)\/(k≠0/\k≠j+1/\own k b):=fun k b hb=>by
  by_cases s:k=0
  .subst s;rw[F] at hb;exact .inl ⟨rfl,hb,h0 b hb⟩
  by_cases e:k=j+1
  .subst e;rw[E] at hb;exact .inr (.inl ⟨rfl,hb,hc b hb⟩)
  rw[D k s e] at hb;exact .inr (.inr ⟨s,e,hb⟩)
 have r:Crew.Apart Ro Shr (j+1) (upd (upd own 0 c) (j+1) a):=by
  refine⟨h.ap.G8,fun k b hb=>?_,fun k k' b hb B=>?_,fun k b hk hb=>?_⟩
  .rcases d k b hb with⟨_,_,h1⟩|⟨_,_,h1⟩|⟨_,_,h1⟩<;>exact h.ap.free _ b h1
  .rcases d k b hb with⟨m,h1,h2⟩|⟨m,h1,h2⟩|⟨m,e2,h2⟩<;>rcases d k' b B with⟨q,C,p⟩|⟨q,C,p⟩|⟨q,e4,p⟩
   .rw[m,q]
   .exact absurd C (hd b h1)
   .exact absurd (h.ap.one 0 k' b h2 p).symm q
   .exact absurd h1 (hd b C)
   .rw[m,q]
   .exact absurd (h.ap.one 0 k' b h2 p).symm q
   .exact absurd (h.ap.one k 0 b h2 p) m
   .exact absurd (h.ap.one k 0 b h2 p) m
   exact h.ap.one k k' b h2 p
  rcases d k b hb with⟨m,_⟩|⟨m,_⟩|⟨_,_,h1⟩
  .omega
  .omega
  exact h.ap.none k b (by omega) h1
 have A:CT (QB Shr) (LP (upd (upd own 0 c) (j+1) a)) (RdL o Ro) t j:=by
  have f:∀k,1<=k->k<=j->∀l,LP (upd (upd own 0 c) (j+1) a) k l↔LP own k l:=fun k G e l=>by unfold LP;rw[D k (by omega) (by omega)]
  exact⟨h.ct.quiet,fun k G e l hl=>h.ct.own k G e l ((f k G e l).1 hl),h.ct.rd,fun l hs hn=>h.ct.free l hs fun k G e=>⟨fun ho=>(hn k G e).1 ((f k G e l).2 ho),(hn k G e).2⟩,fun l hs hn=>h.ct.mine l hs fun k G e ho=>hn k G e ((f k G e l).2 ho),h.ct.nr,h.ct.gs⟩
 refine⟨r,h.BJ,h.nU,fun k b hb=>?_,A.fork r.fam hx hy z,fun op u=>?_,h.told.app fun jx op x' v i=>?_⟩
 .rcases d k b hb with⟨_,_,h1⟩|⟨_,_,h1⟩|⟨_,_,h1⟩<;>exact h.wH _ b h1
 .rcases BD.1 u with h1|h1
  .exact h.low op h1
  simp only[xH,dW,xx,xw] at h1;rcases h1 with rfl|rfl
  .rw[hx.2];trivial
  rw[hy.2];trivial
 have h1:=kP v;simp only[xH,dW,xx,xw] at h1;rcases h1 with rfl|rfl
 .rw[hx.2] at i;cases i
 rw[hy.2] at i;cases i
end
section
variable{P:aH}{ty:aZ}{Wg Ch:Nat}{Ro Shr:Nat->Prop}{o n cap:Nat}{Anch Done:Stops}{pay:Nat->aB ae}{rz:Nat}{tm:Bool}{x:St}{gs:Array dD}{w:ay}{t:Trace}{st sm:Int}
def iO:Nat->CTag
|0=>.kd
|r+1=>.sp r 5
theorem Kq{r a}(h:Spawns P ty Wg Ch Ro n Anch pay r a):∃k,zT P ty Wg Ch Ro n Anch Done pay (iO r)=some k/\bu P Ro (Live ty Wg Ch) true k a:=by
 cases r with
 |zero=>exact⟨_,rfl,h⟩
 |succ r=>exact⟨_,rfl,h⟩
theorem H8(r):isOpen (iO r):=by cases r<;>exact trivial
theorem uZ(r):pend (iO r)=0:=by cases r<;>rfl
theorem H9(r):Q5 (iO r)=r:=by cases r<;>rfl
theorem Ia(r):KE (iO r)=0:=by cases r<;>rfl
theorem Og(r a):iO r≠.w2 a:=by cases r<;>simp[iO]
theorem Inv.goes(h:Inv P ty Wg Ch Ro Shr o n cap Anch Done pay rz tm x gs w t st sm)(sl){a}(ha:gs[0]?=some a){r}(d:x.tag=.sp r 2)(S:a=(x.f 0).g)(hs:SGo P ty Wg Ch Ro pay (n-(r+1)) (Spawns P ty Wg Ch Ro n Anch pay r) a w (x.own 0)):PZ P ty Wg Ch Ro Shr o n cap Anch Done pay rz tm x gs w sl t 0:=by
 obtain⟨g',child,own',p,F,h1,h2,T,y,s⟩:=hs;have hj:x.j=n-(r+1)/\r+1<=n:=by
  have:=h.started
  rw[d] at this;have:x.j+(r+1)=n:=this;omega
 obtain⟨k,hk,s⟩:=Kq s;have B:Deaf t 0=0:=by rw[h.deaf0,d];rfl
 have hrun:=runT_crowd_spawn (sl:=sl) ha (by simpa using F);rw[h.size] at hrun;have e0:MemOp.ofEvents 0 a.frame.fn a.frame.place #[]=#[]:=by rw[BA];simp
 rw[e0] at hrun;obtain⟨X,Y,E,C,U⟩:∃X Y,(X.g=0/\X.act=.go (x.j+1))/\(Y.g=x.j+1/\Y.act=.start)/\((#[]:Trace).push {g:=0,fn:=a.frame.fn,pos:=a.frame.place,act:=.go (x.j+1)}).push {g:=x.j+1,fn:=child.frame.fn,pos:=a.frame.place,act:=.start}=#[X,Y]:=⟨_,_,⟨rfl,rfl⟩,⟨rfl,rfl⟩,rfl⟩
 rw[U] at hrun;have hm:∀op∈#[X,Y],op=X\/op=Y:=by intro op c;simpa using c
 have hst:∀op∈#[X,Y],op.act≠.mark .disable/\op.act≠.mark .enable:=by
  intro op c;rcases hm op c with rfl|rfl
  .rw[E.2];exact⟨by simp,by simp⟩
  rw[C.2];exact⟨by simp,by simp⟩
 have hb:=h.base.fork h1 h2 T E C B;obtain⟨ho,v,A,_⟩:=h.mode.open_inv (by rw[d];trivial);rw[d] at v;obtain⟨m,Q,O,N,s⟩:∃R,R.g=g'/\R.w=w/\R.own=own'/\bu P Ro _ true k R:=⟨_,rfl,rfl,rfl,s⟩;obtain⟨u,c1,c2,c3,y⟩:∃R,R.g=child/\R.w=w/\R.own=p/\bu P Ro _ false (kN (P5 P ty Wg Ch Ro (pay x.j))) R:=⟨⟨child,w,p⟩,rfl,rfl,rfl,by rw[hj.1];exact y⟩;have V:Vc (x.j+1) (upd x.D x.j ⟨7,0,0⟩)=Vc x.j x.D+1:=by simp[Vc,sumTo,upd_same];rw[sumTo_upd_out x.D _ cnt (aA _)];rfl
 have Z:Ssum (x.j+1) (upd x.D x.j ⟨7,0,0⟩)=Ssum x.j x.D+7:=by simp[Ssum,sumTo,upd_same];rw[sumTo_upd_out x.D _ WD.stage (aA _)]
 have W:nT (x.j+1) (upd x.paid x.j false)=nT x.j x.paid+1:=by
  simp only[nT,sumTo,upd_same];rw[sumTo_upd_out x.paid _ (fun b:Bool=>if b then 0 else 1) (aA _)]
  simp
 have I:OpenSt (x.j+1) (upd x.D x.j ⟨7,0,0⟩):=fun i hi=>by
  by_cases e:i=x.j
  .subst e;rw[upd_same];simp
  rw[bQ x.D _ e];exact ho i (by omega)
 have L:upd (upd x.f 0 m) (x.j+1) u 0=m:=by rw[bQ _ _ (by omega),upd_same]
 have K:∀i,i≠x.j->upd (upd x.f 0 m) (x.j+1) u (i+1)=x.f (i+1):=fun i hi=>by rw[bQ _ _ (by omega),bQ _ _ (by omega)]
 refine⟨_,w,{j:=x.j+1,D:=upd x.D x.j ⟨7,0,0⟩,paid:=upd x.paid x.j false,tag:=iO r,f:=upd (upd x.f 0 m) (x.j+1) u,sent:=x.sent},_,st,sm,hrun,⟨by simp[h.size],?_,?_,Nat.le_succ_of_le h.oj,h.shr,h.hid,fun i hi=>?_,h.OW.app fun op c=>?_,h.pno,?_,fun k'=>?_,fun i hi=>?_,⟨g',?_,?_⟩,h.norel.app fun op c=>?_,?_,fun i hi=>?_,fun i hi h1=>?_,fun i J hi l=>?_,h.wg,?_,h.chan,h.nodup,fun i=>?_,fun i hi l hp=>?_,fun i hi=>?_⟩,.less ?_⟩
 .show x.j+1+Q5 (iO r)=n
  rw[H9];omega
 .show x.j+1+pend (iO r)<=n
  rw[uZ];omega
 .show(upd x.D x.j ⟨7,0,0⟩ i).stage=1
  rw[bQ _ _ (by have:=h.oj;omega)];exact h.elder i hi
 .rcases hm op c with rfl|rfl
  .rw[E.2];exact .inr (.inr rfl)
  rw[C.2];exact .inr (.inr rfl)
 .have:(St.own {j:=x.j+1,D:=upd x.D x.j ⟨7,0,0⟩,paid:=upd x.paid x.j false,tag:=iO r,f:=upd (upd x.f 0 m) (x.j+1) u,sent:=x.sent})=upd (upd x.own 0 own') (x.j+1) p:=by
   funext k';show(upd (upd x.f 0 m) (x.j+1) u k').own=_;by_cases e:k'=x.j+1
   .subst e;rw[upd_same,upd_same,c3]
   rw[bQ _ _ e,bQ _ _ e];by_cases z:k'=0
   .subst z;rw[upd_same,upd_same,N]
   rw[bQ _ _ z,bQ _ _ z];rfl
  rw[this];exact hb
 .show bP Ro (upd (upd x.f 0 m) (x.j+1) u k').own (upd (upd x.f 0 m) (x.j+1) u k').w w
  by_cases e:k'=x.j+1
  .subst e;rw[upd_same,c2];exact bP.refl _ _ _
  rw[bQ _ _ e];by_cases z:k'=0
  .subst z;rw[upd_same,O];exact bP.refl _ _ _
  rw[bQ _ _ z];exact h.rely k'
 .have hi:i<x.j+1:=hi
  by_cases e:i=x.j
  .subst e
   refine⟨child,?_,?_⟩
   .have:((gs.setIfInBounds 0 g').push child).size=x.j+1+1:=by simp[h.size]
    rw[show x.j+1=(gs.setIfInBounds 0 g').size by simp[h.size],Array.getElem?_push_size]
   unfold WSit;have e7:qP P ty Wg Ch Ro (pay x.j) (upd x.paid x.j false x.j) (upd x.D x.j ⟨7,0,0⟩ x.j).stage=some (kN (P5 P ty Wg Ch Ro (pay x.j))):=by rw[upd_same,upd_same];rfl
   show(match qP P ty Wg Ch Ro (pay x.j) (upd x.paid x.j false x.j) (upd x.D x.j ⟨7,0,0⟩ x.j).stage with|some k'=>child=(upd (upd x.f 0 m) (x.j+1) u (x.j+1)).g/\bu P Ro (Live ty Wg Ch) false k' (upd (upd x.f 0 m) (x.j+1) u (x.j+1))|none=>_)
   rw[e7,upd_same];exact⟨c1.symm,y⟩
  obtain⟨g,hg,G⟩:=h.wk i (by omega);refine⟨g,?_,G.congr (bQ _ _ e) (bQ _ _ e) (K i e)⟩;rw[Array.getElem?_push_lt (by simp[h.size];omega),<-gu,jf (by omega)];exact hg
 .rw[Array.getElem?_push_lt (by simp[h.size]),<-gu]
  simp[h.size]
 .unfold uA
  show(match zT P ty Wg Ch Ro n Anch Done pay (iO r) with|some k=>g'=(upd (upd x.f 0 m) (x.j+1) u 0).g/\bu P Ro (Live ty Wg Ch) true k (upd (upd x.f 0 m) (x.j+1) u 0)|none=>_)
  rw[hk,L];exact⟨Q.symm,s⟩
 .rcases hm op c with rfl|rfl
  .rw[E.2];simp
  rw[C.2];simp
 .rw[JU t 0 _ hst,B]
  exact(Ia r).symm
 .rw[JU t _ _ hst]
  show _=(upd x.D x.j ⟨7,0,0⟩ i).deaf;have hi:i<x.j+1:=hi;by_cases e:i=x.j
  .subst e
   rw[upd_same];exact Deaf_absent fun q op H e=>by have:=h.base.ct.gs q op H;omega
  rw[bQ _ _ e];exact h.deafW i (by omega)
 .show(upd x.D x.j ⟨7,0,0⟩ i).deaf=if (upd x.D x.j ⟨7,0,0⟩ i).stage<=5 then 1 else 0
  have h1:(upd x.D x.j ⟨7,0,0⟩ i).stage≠1:=h1;have hi:i<x.j+1:=hi;by_cases e:i=x.j
  .subst e;rw[upd_same];rfl
  rw[bQ _ _ e] at h1⊢;exact h.Iz i (by omega) h1
 .have l:(upd x.D x.j ⟨7,0,0⟩ i).stage<=6:=l
  have hi:i<x.j+1:=hi;by_cases e:i=x.j
  .subst e;rw[upd_same] at l;simp at l
  rw[bQ _ _ e] at l;obtain⟨q,H⟩:=h.rel i J (by omega) l;refine⟨q,H.appNot fun op c=>?_⟩;rcases hm op c with rfl|rfl
  .rw[E.1];omega
  rw[C.1];omega
 .show ConcN.Mode (x.j+1) (upd x.D x.j ⟨7,0,0⟩) (iO r) st sm
  have:st=((Vc (x.j+1) (upd x.D x.j ⟨7,0,0⟩)+pend (iO r):Nat):Int)*KK:=by rw[V,uZ,v];simp[pend]
  rw[this,A];exact .opn (H8 r) I (fun M e=>absurd e (Og r M))
 .show i∈x.sent↔i<x.j+1/\upd x.paid x.j false i=true/\_
  by_cases e:i=x.j
  .subst e;rw[upd_same,h.ru x.j];simp
  rw[bQ _ _ e,h.ru i];constructor
  .rintro⟨h1,h2⟩;exact⟨by omega,h2⟩
  rintro⟨h1,h2⟩;exact⟨by omega,h2⟩
 .have l:(upd x.D x.j ⟨7,0,0⟩ i).stage<=6:=l
  have hi:i<x.j+1:=hi;show upd x.paid x.j false i=true;by_cases e:i=x.j
  .subst e;rw[upd_same] at l;simp at l
  rw[bQ _ _ e] at l⊢;exact h.nY i (by omega) l hp
 .show 1<=(upd x.D x.j ⟨7,0,0⟩ i).stage/\(upd x.D x.j ⟨7,0,0⟩ i).stage<=7
  have hi:i<x.j+1:=hi;by_cases e:i=x.j
  .subst e;rw[upd_same];simp
  rw[bQ _ _ e];exact h.stages i (by omega)
 show phi n (Vc (x.j+1) (upd x.D x.j ⟨7,0,0⟩)) (iO r)+Ssum (x.j+1) (upd x.D x.j ⟨7,0,0⟩)+nT (x.j+1) (upd x.paid x.j false)<phi n (Vc x.j x.D) x.tag+Ssum x.j x.D+nT x.j x.paid;rw[Z,W,d];cases r with
 |zero=>simp only[phi,iO];omega
 |succ r=>simp only[phi,iO];omega
end
section
variable{P:aH}{ty:aZ}{Wg Ch:Nat}{Ro Shr:Nat->Prop}{o n cap:Nat}{Anch Done:Stops}{pay:Nat->aB ae}{rz:Nat}{tm:Bool}{x:St}{gs:Array dD}{w:ay}{t:Trace}{st sm:Int}
theorem Turn.le{x'}(h:Turn P ty Wg Ch Ro n Anch Done pay x' x):cost n x'<=cost n x:=by
 cases h with
 |less h=>exact JX h
 |worker h _ _ _=>exact Sr h
 |main h _ _ _ _ _=>exact Sr h
theorem Inv.acH(h:Inv P ty Wg Ch Ro Shr o n cap Anch Done pay rz tm x gs w t st sm)(r:Ch≠Wg)(hn:n-o<2147483648)(sl){a}(ha:gs[0]?=some a)(b:x.tag=.w1)(k:a=(x.f 0).g)(hw:bu P Ro (Live ty Wg Ch) true (kM Wg (Zk P ty Wg Ch Ro Anch Done)) (x.f 0)):PZ P ty Wg Ch Ro Shr o n cap Anch Done pay rz tm x gs w sl t 0:=by
 by_cases d:uB Ro (Live ty Wg Ch) (kM Wg (Zk P ty Wg Ch Ro Anch Done)) (x.f 0);rotate_left
 .exact h.Ko sl ha (by rw[b];rfl) k hw d
 have hst:=d w (h.rely 0) h.live;rw[<-k] at hst;have p:=U2 h.elder h.oj;have m:=h.oj;have hj:x.j+0=n:=by have:=h.started;rw[b] at this;exact this
 have c:=h.mode;have i:=h.wg;rw[b] at c;obtain⟨ho,rfl,rfl,_⟩:=c.open_inv trivial;have⟨a',q,h0,hne⟩:=hst (Vc x.j x.D) (by omega) (by simpa[pend] using i);by_cases l:Vc x.j x.D=0
 .refine h.iG sl ha q (.refl Wg w) (ja bk_rd) (lH bk_rd) .ke rfl (h0 l) (by rw[b];rfl) ?_ (.fin trivial (allQuit_of ho l)) r hj (by simp[pend];omega) (by rw[b];simp only[phi];omega);have e:((Vc x.j x.D+pend .w1:Nat):Int)*KK=0:=by rw[l];simp[pend]
  rw[e] at i;exact i
 exact h.iG sl ha q (.refl Wg w) (ja bk_rd) (lH bk_rd) (.w2 (Vc x.j x.D)) rfl (hne l) (by rw[b];rfl) i (c.reopen trivial trivial rfl (fun vs e=>by cases e;omega)) r hj (by simp[pend];omega) (by rw[b];simp only[phi];omega)
theorem Inv.Vt(h:Inv P ty Wg Ch Ro Shr o n cap Anch Done pay rz tm x gs w t st sm)(hCW:Ch≠Wg)(hn:n-o<2147483648)(V:∀g w own,Anch g w own->bu P Ro (Live ty Wg Ch) true (kM Wg (Zk P ty Wg Ch Ro Anch Done)) ⟨g,w,own⟩)(sl){a}(ha:gs[0]?=some a)(hrun:a.status=.running):PZ P ty Wg Ch Ro Shr o n cap Anch Done pay rz tm x gs w sl t 0 \/ ∃gs' x' ops,runT P (crowd gs w sl) 0=(.next (crowd gs' w sl),ops)/\Over P ty Wg Ch Ro Shr o n cap Done pay rz tm x' gs' w (t++ops):=by
 have hVj:=U2 h.elder h.oj;have hoj:=h.oj;have⟨N,v,hm⟩:=h.main;obtain rfl:a=N:=by rw[ha] at v;exact aN v
 have⟨k,hk,u,hw⟩:=hm.run hrun;have hstart:=h.started;have hle:=h.le;have c:=h.mode;have d:=h.wg;by_cases p:uB Ro (Live ty Wg Ch) k (x.f 0);rotate_left
 .exact .inl (h.Ko sl ha hk u hw p)
 have hst:=p w (h.rely 0) h.live;rw[<-u] at hst;generalize b:x.tag=tag at hk c hstart hle;cases tag with
 |sp r s=>
  have hj:x.j+(r+1)=n:=hstart
  match s,hk with
  |5,hk=>obtain rfl:=aN hk;have⟨a',hgo,l⟩:=hst;exact .inl (h.iG sl ha hgo (.refl Wg w) (ja bk_dis) (lH bk_dis) (.sp r 4) rfl l (by rw[b];rfl) d (c.reopen trivial trivial rfl (fun _ e=>by cases e)) hCW hj (by simp[pend];omega) (by rw[b];simp only[phi];omega))
  |4,hk=>
   obtain rfl:=aN hk;have z:=hst;obtain⟨ho,rfl,rfl,_⟩:=c.open_inv trivial;have⟨a',hgo,l⟩:=z (Vc x.j x.D) (by omega) (by simpa[pend] using d);refine .inl (h.iG sl ha hgo (qG w (stA Wg) _) (ja bk_rw) (lH bk_rw) (.sp r 3) rfl l (by rw[b];rfl) (d.setSt _) ?_ hCW hj (by simp[pend];omega) (by rw[b];simp only[phi];omega));have e:(((Vc x.j x.D:Nat):Int)+1)*KK=((Vc x.j x.D+pend (.sp r 3):Nat):Int)*KK:=by simp[pend]
   rw[e];exact .opn trivial ho (by simp)
  |3,hk=>obtain rfl:=aN hk;have⟨a',hgo,l⟩:=hst;exact .inl (h.iG sl ha hgo (.refl Wg w) (ja bk_en) (lH bk_en) (.sp r 2) rfl l (by rw[b];rfl) d (c.reopen trivial trivial rfl (fun _ e=>by cases e)) hCW hj (by simp[pend];omega) (by rw[b];simp only[phi];omega))
  |2,hk=>obtain rfl:=aN hk;exact .inl (h.goes sl ha b u hst)
  |0,hk=>cases hk
  |1,hk=>cases hk
  |s+6,hk=>cases hk
 |kd=>obtain rfl:=aN hk;have⟨a',hgo,l⟩:=hst;exact .inl (h.iG sl ha hgo (.refl Wg w) (ja bk_dis) (lH bk_dis) .anch rfl l (by rw[b];rfl) d (c.reopen trivial trivial rfl (fun _ e=>by cases e)) hCW hstart hle (by rw[b];have:x.j+0=n:=hstart;simp only[phi];omega))
 |anch=>
  obtain rfl:=aN hk;have hA:Anch a w (x.own 0):=hst;have h1:=V a w _ hA;have hI:Inv P ty Wg Ch Ro Shr o n cap Anch Done pay rz tm (x.move ⟨a,w,x.own 0⟩ .w1) gs w t st sm:=by
   refine⟨h.size,hstart,hle,h.oj,h.shr,h.hid,h.elder,h.OW,h.pno,?_,fun k=>?_,fun i hi=>?_,⟨a,ha,?_⟩,h.norel,?_,h.deafW,h.Iz,h.rel,d,c.reopen trivial trivial rfl (fun _ e=>by cases e),h.chan,h.nodup,h.ru,h.nY,h.stages⟩
   .rw[zN,sV];exact h.base
   .show bP Ro ((x.move ⟨a,w,x.own 0⟩ .w1).own k) (upd x.f 0 _ k).w w;rw[zN,sV];by_cases e:k=0
    .subst e;rw[upd_same];exact bP.refl _ _ _
    rw[bQ _ _ e];exact h.rely k
   .have⟨y,hy,q⟩:=h.wk i hi;exact⟨y,hy,q.congr rfl rfl (TM x _ _ i)⟩
   .unfold uA;show a=(upd x.f 0 ⟨a,w,x.own 0⟩ 0).g/\bu P Ro (Live ty Wg Ch) true (kM Wg (Zk P ty Wg Ch Ro Anch Done)) (upd x.f 0 ⟨a,w,x.own 0⟩ 0);rw[upd_same];exact⟨rfl,h1⟩
   rw[h.deaf0,b];rfl
  have T:cost n (x.move ⟨a,w,x.own 0⟩ .w1)<cost n x:=by show phi n (Vc x.j x.D) .w1+Ssum x.j x.D+nT x.j x.paid<phi n (Vc x.j x.D) x.tag+Ssum x.j x.D+nT x.j x.paid;rw[b];simp only[phi];omega
  have Z:(x.move ⟨a,w,x.own 0⟩ .w1).f 0=⟨a,w,x.own 0⟩:=show upd x.f 0 _ 0=_ from upd_same _ _ _;have⟨gs',w',x',ops,st',sm',M,e2,e3⟩:=hI.acH hCW hn sl ha rfl (by rw[Z]) (by rw[Z];exact h1);exact .inl ⟨gs',w',x',ops,st',sm',M,e2,.less (Nat.lt_of_le_of_lt e3.le T)⟩
 |w1=>obtain rfl:kM Wg (Zk P ty Wg Ch Ro Anch Done)=k:=aN hk;exact .inl (h.acH hCW hn sl ha b u hw)
 |w2 O=>
  obtain rfl:kM Wg (SW2 P ty Wg Ch Ro Anch Done O)=k:=aN hk;have z:SW2 P ty Wg Ch Ro Anch Done O a w (x.own 0):=hst;have hj:x.j+0=n:=hstart;obtain⟨ho,rfl,rfl,Q⟩:=c.open_inv trivial;have⟨Y,h1⟩:=Q O rfl;have⟨I,G⟩:=z (Vc x.j x.D) (by omega) (by simpa[pend] using d);by_cases e:Vc x.j x.D=O
  .have⟨a',hgo,l⟩:=I e;exact .inl (h.iG sl ha hgo (qG w (stA Wg) _) (ja bk_rw) (lH bk_rw) .w3 rfl l (by rw[b];rfl) (d.setSt _) (.reg trivial ho (by omega)) hCW hj hle (by rw[b];simp only[phi];omega))
  have⟨a',hgo,l⟩:=G e;exact .inl (h.iG sl ha hgo (.refl Wg w) (ja bk_rd) (lH bk_rd) .anch rfl l (by rw[b];rfl) d (c.reopen trivial trivial rfl (fun _ e=>by cases e)) hCW hj hle (by rw[b];simp only[phi];omega))
 |w3=>
  obtain rfl:kM Wg (SW3 P ty Wg Ch Ro Done)=k:=aN hk;obtain⟨_,X,A,C⟩:SW3 P ty Wg Ch Ro Done a w (x.own 0):=hst;generalize K:CTag.w3=tg at c;cases c with
  |opn h1 _ _=>subst K;exact h1.elim
  |reg h1 h2 W=>exact .inl (h.EK sl ha b u hw p (A ⟨_,d⟩) (.reg trivial h2 W))
  |last L h1 h2 W h4=>exact .inl (h.EK sl ha b u hw p (A ⟨_,d⟩) (.last L trivial h2 W h4))
  |sema h2=>
  have⟨a',hgo,l⟩:=C d;exact .inl (h.iG sl ha hgo (qG w (smA Wg) _) (ja bk_sem) (lH bk_sem) .w4 rfl l (by rw[b];rfl) (d.setSm 0) (.fin trivial h2) hCW hstart hle (by rw[b];simp only[phi];omega))
  |fin h1 _=>subst K;exact h1.elim
 |blk=>cases hk
 |w4=>obtain rfl:kM Wg (SW4 P ty Wg Ch Ro Done)=k:=aN hk;have hx:SW4 P ty Wg Ch Ro Done a w (x.own 0):=hst;obtain⟨F,rfl,rfl⟩:=c.fin_inv trivial;have⟨a',hgo,l⟩:=hx d;exact .inl (h.iG sl ha hgo (.refl Wg w) (ja bk_rd) (lH bk_rd) .ke rfl l (by rw[b];rfl) d (.fin trivial F) hCW hstart hle (by rw[b];simp only[phi];omega))
 |ke=>obtain rfl:kM Wg (SKe P ty Wg Ch Ro Done)=k:=aN hk;obtain⟨a',hgo,l⟩:SKe P ty Wg Ch Ro Done a w (x.own 0):=hst;obtain⟨F,rfl,rfl⟩:=c.fin_inv trivial;exact .inl (h.iG sl ha hgo (.refl Wg w) (ja bk_en) (lH bk_en) .acq rfl l (by rw[b];rfl) d (.fin trivial F) hCW hstart hle (by rw[b];simp only[phi];omega))
 |acq=>
  obtain rfl:kM Wg (Xn P Wg Done)=k:=aN hk;obtain⟨a',hgo,R,H⟩:Xn P Wg Done a w (x.own 0):=hst;obtain⟨F,rfl,rfl⟩:=c.fin_inv trivial;have hj:x.j=n:=by have:x.j+0=n:=hstart;omega
  have⟨b1,b2⟩:=h.base.book h.shr.1 (i:=0) (by omega) (.refl Wg w) (.refl w) (.refl w) (aeK (m:=.acquire (stA Wg)) rfl fun B hB=>hB) a.frame.fn a.frame.place;have E:=DR (P:=P) (sl:=sl) (i:=0) ha (by simpa using hgo);have J:Deaf t 0=0:=by rw[h.deaf0,b];rfl
  refine .inr ⟨_,x.move ⟨a',w,x.own 0⟩ .acq,_,E,by simp[h.size,hj],by rw[zN,sV,<-hj];exact b1,⟨a',Gi _ _ _ (by rw[h.size];omega),?_⟩,fun i hi=>?_,?_,?_,h.OW.app fun op S=>.inl (qH op S),h.norel.app (norel_of (by intro e he;simp at he;subst he;simp[Go.ConcR.mk])),d,h.chan,h.nodup,fun i=>?_⟩
  .show a'=(upd x.f 0 ⟨a',w,x.own 0⟩ 0).g/\a'.status=.running/\Done a' w ((x.move ⟨a',w,x.own 0⟩ .acq).own 0);rw[zN,sV,upd_same];exact⟨rfl,R,H⟩
  .have⟨y,hy,q⟩:=h.wk i (by omega);refine⟨y,by rw[xI _ _ _ _ (by omega),hy,Option.map_some,q.woken],?_⟩;rw[xK t (by omega) _ qH,h.deafW i (by omega)];unfold WSit at q;rw[F i (by omega)] at q;exact q.2
  .rw[Gm,J];rfl
  .have M:MemOp.ofEvents 0 a.frame.fn a.frame.place #[Go.ConcR.mk (.acquire (stA Wg))]=#[{g:=0,fn:=a.frame.fn,pos:=a.frame.place,act:=.mark (.acquire (stA Wg))}]:=by rw[BA];simp[ofEvent_mk]
   have hy:(t++#[({g:=0,fn:=a.frame.fn,pos:=a.frame.place,act:=.mark (.acquire (stA Wg))}:MemOp)])[t.size]?=some {g:=0,fn:=a.frame.fn,pos:=a.frame.place,act:=.mark (.acquire (stA Wg))}:=by simp
   refine⟨t.size,by rw[M,act?_of hy],by rw[M];simp[Trace.g?],by rw[M];exact⟨0,by simp[Trace.g?],by rw[deaf_old (aA _)];exact J⟩,fun i U hi=>?_⟩;have⟨r,hr⟩:=h.rel i U (by omega) (by rw[F i (by omega)];omega);exact⟨r,hr.appOther qH (by omega),lt_of_act? hr.act⟩
  rw[show(x.move ⟨a',w,x.own 0⟩ .acq).sent=x.sent from rfl,h.ru i,hj];constructor
  .rintro⟨h1,_,h2⟩;exact⟨h1,h2⟩
  rintro⟨h1,h2⟩;exact⟨h1,h.nY i (by omega) (by rw[F i (by omega)];omega) h2,h2⟩
 |ret=>cases hk
end
end
end Go.Crew
