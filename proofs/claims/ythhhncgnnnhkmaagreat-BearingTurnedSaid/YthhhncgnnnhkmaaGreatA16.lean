import Derived.Conc.CrowdRun
import Derived.Test.YthhhncgnnnhkmaaGreatA15
set_option linter.all false
namespace Go.Crew
open Go.Conc Go.ConcN Go.Ren
open Go.ConcR (WgAt stA smA)
section
variable[Hidden]
section
variable{P:Program}{ty:TypeId}{Wg Ch:Nat}{Ro Shr:Nat→Prop}{o n cap:Nat}{Anch Done:Stops}{pay:Nat→Option Pay}{rz:Nat}{tm:Bool}{x:St}{gs:Array Goroutine}{w:World}{t:Trace}{st sm:Int}
theorem Base.at{j:Nat}{own:Nat→Nat→Prop}(h:Base Ro Shr o j own w t)(d:Nat):Base Ro Shr o j own (w.at d) t:=⟨h.ap,h.roLow,h.shrLow,h.ownLow,h.ct,h.low,h.told⟩
theorem Inv.at(h:Inv P ty Wg Ch Ro Shr o n cap Anch Done pay rz tm x gs w t st sm)(d:Nat):Inv P ty Wg Ch Ro Shr o n cap Anch Done pay rz tm x gs (w.at d) t st sm:=
 ⟨h.size,h.started,h.le,h.oj,h.shr,h.hid,h.elder,h.eld,h.pno,h.base.at d,fun i=>⟨(h.rely i).size,(h.rely i).keep,(h.rely i).cells,⟨(h.rely i).chans.chan,(h.rely i).chans.os,(h.rely i).chans.output⟩⟩,h.wk,h.main,h.norel,h.deaf0,h.deafW,h.deafS,h.rel,h.wg,h.mode,h.chan,h.nodup,h.sentOf,h.paidOf,h.stages,h.pst,fun i hi p hp=>h.pst i p hp _ _ _ _ (h.pays i hi p hp) ⟨Nat.le_refl _,fun _ _ _=>rfl,.of rfl,⟨.of rfl,rfl,rfl⟩⟩⟩
theorem WSit.running_of{i:Nat}{g:Goroutine}(h:WSit P ty Wg Ch Ro pay x i g)(hs:(x.D i).stage≠1):g.status=.running:=by
 unfold WSit at h
 split at h
 .obtain⟨rfl,h⟩:=h
  exact h.status
 .exact absurd h.1 hs
theorem Inv.someone(h:Inv P ty Wg Ch Ro Shr o n cap Anch Done pay rz tm x gs w t st sm):∃(i:Nat) (g:Goroutine),gs[i]?=some g∧g.status=.running:=by
 obtain⟨a,ha,hm⟩:=h.main
 unfold MSit at hm
 split at hm
 .obtain⟨rfl,hw⟩:=hm
  exact⟨0,_,ha,hw.status⟩
 .obtain⟨e,_⟩:=hm
  have hmode:=h.mode
  rw[e] at hmode
  cases hmode with
  |opn h1 _ _=>exact h1.elim
  |reg _ _ h3=>
   obtain⟨i,hi,h5⟩:=exists_counted h3
   obtain⟨g,hg,hs⟩:=h.wk i hi
   exact⟨i+1,g,hg,hs.running_of (by omega)⟩
  |last L _ h2 h3 _=>
   obtain⟨g,hg,hs⟩:=h.wk L h2
   exact⟨L+1,g,hg,hs.running_of (by omega)⟩
  |fin h1 _=>exact h1.elim
theorem Inv.awake(h:Inv P ty Wg Ch Ro Shr o n cap Anch Done pay rz tm x gs w t st sm):∀g∈gs,awake g:=by
 intro g hg tm'
 obtain⟨i,hi⟩:=Array.mem_iff_getElem?.1 hg
 cases i with
 |zero=>
  obtain⟨a,ha,hm⟩:=h.main
  rw[ha] at hi;cases hi
  unfold MSit at hm
  split at hm
  .obtain⟨rfl,hw⟩:=hm
   rw[hw.status];simp
  .obtain⟨_,rfl,_⟩:=hm
   simp
 |succ i=>
  have hlt:i<x.j:=by have:=(Array.getElem?_eq_some_iff.1 hi).1;rw[h.size] at this;omega
  obtain⟨g',hg',hs⟩:=h.wk i hlt
  rw[hi] at hg';cases hg'
  rcases hs.status with h|h<;>rw[h]<;>simp
theorem Inv.step(h:Inv P ty Wg Ch Ro Shr o n cap Anch Done pay rz tm x gs w t st sm)(hCW:Ch≠Wg)(hcap:n-o≤cap)(hn:n-o<2147483648)(hAn:∀g w own,Anch g w own→OnWay P Ro (Live ty Wg Ch) true (kM Wg (SW1 P ty Wg Ch Ro Anch Done)) ⟨g,w,own⟩)(sl:Option (Nat×Nat)):(∃gs' w' sl' x' ops st' sm',stepT P (crowd gs w sl)=(.next (crowd gs' w' sl'),ops)∧Inv P ty Wg Ch Ro Shr o n cap Anch Done pay rz tm x' gs' w' (t++ops) st' sm'∧Turn P ty Wg Ch Ro n Anch Done pay x' x) ∨ ∃gs' w' sl' x' ops,stepT P (crowd gs w sl)=(.next (crowd gs' w' sl'),ops)∧Over P ty Wg Ch Ro Shr o n cap Done pay rz tm x' gs' w' (t++ops):=by
 obtain⟨i,g,d,sl',hg,hrun,hstep⟩:=crowd_pick (P:=P) (w:=w) (sl:=sl) h.awake h.someone
 rw[hstep]
 have h':=h.at d
 cases i with
 |zero=>
  rcases h'.stepStarter hCW hn hAn sl' hg hrun with⟨gs',w',x',ops,st',sm',e1,e2,e3⟩|⟨gs',x',ops,e1,e2⟩
  .exact .inl ⟨gs',w',sl',x',ops,st',sm',e1,e2,e3⟩
  .exact .inr ⟨gs',_,sl',x',ops,e1,e2⟩
 |succ i=>
  have hi:i<x.j:=by have:=(Array.getElem?_eq_some_iff.1 hg).1;rw[h.size] at this;omega
  obtain⟨gs',w',x',ops,st',sm',e1,e2,e3⟩:=h'.stepWorker hCW hcap hn sl' hi hg hrun
  exact .inl ⟨gs',w',sl',x',ops,st',sm',e1,e2,e3⟩
def Runs(P:Program)(ty:TypeId)(Wg Ch:Nat)(Ro Shr:Nat→Prop)(o n cap:Nat)(Anch Done:Stops)(pay:Nat→Option Pay)(rz:Nat)(tm:Bool)(x:St):Prop:=
 ∀gs w sl t st sm,Inv P ty Wg Ch Ro Shr o n cap Anch Done pay rz tm x gs w t st sm →
  ∃N gs' w' sl' t' x',runNT P N (crowd gs w sl) t=(.next (crowd gs' w' sl'),t')∧Over P ty Wg Ch Ro Shr o n cap Done pay rz tm x' gs' w' t'
theorem crew_runs(hCW:Ch≠Wg)(hcap:n-o≤cap)(hn:n-o<2147483648)(hAn:∀g w own,Anch g w own→OnWay P Ro (Live ty Wg Ch) true (kM Wg (SW1 P ty Wg Ch Ro Anch Done)) ⟨g,w,own⟩):∀(c:Nat) (x:St),cost n x=c→Runs P ty Wg Ch Ro Shr o n cap Anch Done pay rz tm x:=by
 intro c
 induction c using Nat.strongRecOn with
 |ind c ihc=>
  have tup:∀(s:Nat→Option Kind) (j:Nat) (f:Nat→Rank×Nat),Acc (One (fun i=>WRel P ty Wg Ch Ro (s i)) j) f→∀x:St,cost n x=c→x.j=j→(∀i,i<j→x.kind P ty Wg Ch Ro pay i=s i)→x.wk=f→Runs P ty Wg Ch Ro Shr o n cap Anch Done pay rz tm x:=by
   intro s j f hacc
   induction hacc with
   |intro f _ ihf=>
    have key:∀x:St,cost n x=c→x.j=j→(∀i,i<j→x.kind P ty Wg Ch Ro pay i=s i)→x.wk=f →
      (∀x':St,cost n x'=c→x'.j=j→(∀i,i<j→x'.kind P ty Wg Ch Ro pay i=s i)→x'.wk=f →
       ((x'.tag=x.tag∧∃k,mKind P ty Wg Ch Ro n Anch Done pay x.tag=some k∧Child P Ro (Live ty Wg Ch) true k (x'.f 0) (x.f 0))∨(x.tag=.w3∧x'.tag=.blk))→Runs P ty Wg Ch Ro Shr o n cap Anch Done pay rz tm x') →
      Runs P ty Wg Ch Ro Shr o n cap Anch Done pay rz tm x:=by
     intro x hc hj hs hf hmain gs w sl t st sm hI
     rcases hI.step hCW hcap hn hAn sl with⟨gs',w',sl',x',ops,st',sm',e1,e2,e3⟩|⟨gs',w',sl',x',ops,e1,e2⟩
     .have hx':Runs P ty Wg Ch Ro Shr o n cap Anch Done pay rz tm x':=by
       cases e3 with
       |less h=>exact ihc _ (hc▸h) x' rfl
       |worker h hj' hs' ho=>
        obtain⟨i,hi,h1,h2⟩:=ho
        refine ihf x'.wk ⟨i,hj▸hi,?_,fun i' hi'=>by rw[←hf];exact h2 i' hi'⟩ x' (h.trans hc) (hj'.trans hj) (fun i hi=>?_) rfl
        .show WRel P ty Wg Ch Ro (s i) (x'.wk i) (f i)
         rw[←hs i (hj▸hi),←hf];exact h1
        .rw[←hs i hi]
         obtain⟨h3,h4⟩:=hs' i (by rw[hj];exact hi)
         unfold St.kind
         rw[h3,h4]
       |main h hj' hD hp hf' ho=>
        refine hmain x' (h.trans hc) (hj'.trans hj) (fun i hi=>?_) ?_ ho
        .rw[←hs i hi]
         unfold St.kind
         rw[hD,hp]
        .rw[←hf]
         funext i
         unfold St.wk
         rw[hf' i,hD]
      obtain⟨N,gs'',w'',sl'',t'',x'',r1,r2⟩:=hx' gs' w' sl' _ st' sm' e2
      exact⟨N+1,gs'',w'',sl'',t'',x'',by simp only[runNT,e1];exact r1,r2⟩
     .exact⟨1,gs',w',sl',_,x',by simp only[runNT,e1],e2⟩
    have blk:∀x:St,cost n x=c→x.j=j→(∀i,i<j→x.kind P ty Wg Ch Ro pay i=s i)→x.wk=f→x.tag=.blk→Runs P ty Wg Ch Ro Shr o n cap Anch Done pay rz tm x:=fun x hc hj hs hf ht=>
     key x hc hj hs hf fun x' _ _ _ _ ho=>by
      rcases ho with⟨_,k,hk,_⟩|⟨h,_⟩
      .rw[ht] at hk;cases hk
      .rw[ht] at h;cases h
    have run:∀(k:Kind) (r:Rank),Acc (Child P Ro (Live ty Wg Ch) true k) r→∀x:St,cost n x=c→x.j=j→(∀i,i<j→x.kind P ty Wg Ch Ro pay i=s i)→x.wk=f→mKind P ty Wg Ch Ro n Anch Done pay x.tag=some k→x.f 0=r→Runs P ty Wg Ch Ro Shr o n cap Anch Done pay rz tm x:=by
     intro k r ha
     induction ha with
     |intro r _ ihr=>
      intro x hc hj hs hf hk hr
      refine key x hc hj hs hf fun x' c1 c2 c3 c4 ho=>?_
      rcases ho with⟨ht,k',hk',hch⟩|⟨_,h2⟩
      .rw[hk] at hk'
       obtain rfl:=Option.some.inj hk'
       exact ihr (x'.f 0) (hr▸hch) x' c1 c2 c3 c4 (by rw[ht];exact hk) rfl
      .exact blk x' c1 c2 c3 c4 h2
    intro x hc hj hs hf gs w sl t st sm hI
    obtain⟨a,ha,hm⟩:=hI.main
    unfold MSit at hm
    split at hm
    .exact run _ _ (acc_child hm.2) x hc hj hs hf ‹_› rfl gs w sl t st sm hI
    .exact blk x hc hj hs hf hm.1 gs w sl t st sm hI
  intro x hc gs w sl t st sm hI
  refine tup (fun i=>x.kind P ty Wg Ch Ro pay i) x.j x.wk (acc_tuple _ _ _ fun i hi=>?_) x hc rfl (fun _ _=>rfl) rfl gs w sl t st sm hI
  obtain⟨g,_,hs⟩:=hI.wk i hi
  unfold WSit at hs
  cases hk:x.kind P ty Wg Ch Ro pay i with
  |some k=>
   rw[show wKind P ty Wg Ch Ro (pay i) (x.paid i) (x.D i).stage=some k from hk] at hs
   exact InvImage.accessible (f:=fun a:Rank×Nat=>a.1) (acc_child hs.2)
  |none=>exact InvImage.accessible (f:=fun a:Rank×Nat=>a.2) (Nat.lt_wfRel.wf.apply _)
end
end
open Go.ConcR (g_of_ofEvents KK)
section
variable[Hidden]
def main0(own:Nat→Prop):Nat→Nat→Prop:=fun k b=>k=0∧own b
structure Calm(P:Program)(Ro Shr:Nat→Prop)(o:Nat)(own:Nat→Prop)(gs:Array Goroutine)(w:World)(t:Trace)(q:Nat→Nat):Prop where
 base:Base Ro Shr o o (main0 own) w t
 eld:HandedTo o t
 hears:Deaf t 0=0
 size:gs.size=o+1
 old:∀i,i<o→∃g,gs[i+1]?=some g∧QuitsD P (q i) (Deaf t (i+1)) g
section
variable{P:Program}{ty:TypeId}{Wg Ch:Nat}{Ro Shr:Nat→Prop}{o n cap:Nat}{Anch Done:Stops}{pay:Nat→Option Pay}{rz:Nat}{tm:Bool}{own:Nat→Prop}{gs:Array Goroutine}{w:World}{t:Trace}{q:Nat→Nat}
theorem upd_main0(own own':Nat→Prop):upd (main0 own) 0 own'=main0 own':=by
 funext k b
 by_cases e:k=0
 .subst e;rw[upd_same];simp[main0]
 .rw[upd_ne _ _ e];simp[main0,e]
theorem main0_own(own:Nat→Prop):main0 own 0=own:=by funext b;simp[main0]
theorem Calm.handed(h:Calm P Ro Shr o own gs w t q):t.HandedOver:=fun i g hg hne hc=>by
 obtain⟨op,ho,hog⟩:=Option.map_eq_some_iff.1 hg
 exact h.eld i g hg hne (by have:=h.base.ct.gs i op ho;omega) hc
theorem knows_of{t:Trace}{i j:Nat}(hj:t.g? j=some 0)(hb:HappensBefore t i j):Knows t 0 i:=by
 obtain⟨op,ho,hog⟩:=Option.map_eq_some_iff.1 hj
 exact⟨j,op,ho,hog,.inr hb⟩
theorem perm_of{t:Trace}(h1:Told Shr t)(h2:t.HandedOver){l:Loc}(hl:¬ShL Shr l):Perm t 0 l:=by
 intro i a ha hal
 obtain⟨x,hx,hxa⟩:=touch_of ha
 rcases h1 i x a hx hxa with h3|h3|⟨h3,_⟩
 .rw[←h3];exact knows_own hx
 .by_cases e:x.g=0
  .rw[←e];exact knows_own hx
  .obtain⟨j,hj,hb⟩:=h2 i x.g (by simp[Trace.g?,hx]) e h3
   exact knows_of hj hb
 .exact absurd (hal▸h3) hl
theorem Calm.enter{a:Rank}(h:Calm P Ro Shr o a.own gs w t q){r:Nat}(ha:gs[0]?=some a.g)(hr:Rely Ro a.own a.w w)(hs:Spawns P ty Wg Ch Ro (o+r) Anch pay r a)(hshr:Shr Wg∧Shr Ch)(hhid:∀b,Hidden.ch b→Shr b)(hwg:WgAt ty Wg w 0 0)(hch:w.heap[Ch]?=some (.chan cap #[] false 0 rz tm))(hno:NoRelease (stA Wg) t)(hp:∀i,i<o→pay i=none)(hpst:∀i p,pay i=some p→∀v w w1 own,p v w own→Rely Ro own w w1→p v w1 own):∃x,Inv P ty Wg Ch Ro Shr o (o+r) cap Anch Done pay rz tm x gs w t 0 0∧x.f 0=a:=by
 obtain⟨k,hk,hw⟩:=spawns_kind (Done:=Done) hs
 refine⟨{j:=o,D:=fun i=>⟨1,q i,Deaf t (i+1)⟩,paid:=fun _=>false,tag:=nextTag r,f:=fun k=>if k=0 then a else⟨a.g,w,fun _=>False⟩,sent:=[],val:=fun _=>undef},
  ⟨h.size,by show o+mLeft (nextTag r)=o+r;rw[nextTag_left],by show o+pend (nextTag r)≤o+r;rw[nextTag_pend];omega,Nat.le_refl _,hshr,hhid,fun _ _=>rfl,h.eld,hp,?_,fun k=>?_,fun i hi=>?_,⟨a.g,ha,?_⟩,hno,?_,fun _ _=>rfl,fun _ _ h1=>absurd rfl h1,fun i (h1:o≤i) (h2:i<o)=>absurd h2 (Nat.not_lt.2 h1),hwg,?_,hch,by simp,fun i=>by simp,fun i hi _ hps=>?_,fun _ _=>⟨Nat.le_refl 1,(by decide:1≤7)⟩,hpst,fun i hi=>by simp at hi⟩,rfl⟩
 .have:(St.own {j:=o,D:=fun i=>⟨1,q i,Deaf t (i+1)⟩,paid:=fun _=>false,tag:=nextTag r,f:=fun k=>if k=0 then a else⟨a.g,w,fun _=>False⟩,sent:=[],val:=fun _=>undef})=main0 a.own:=by
   funext k b
   show(if k=0 then a else⟨a.g,w,fun _=>False⟩:Rank).own b=_
   by_cases e:k=0
   .subst e;simp[main0]
   .simp[main0,e]
  rw[this];exact h.base
 .show Rely Ro (if k=0 then a else⟨a.g,w,fun _=>False⟩:Rank).own (if k=0 then a else⟨a.g,w,fun _=>False⟩:Rank).w w
  split
  .exact hr
  .exact Rely.refl _ _ _
 .obtain⟨g,hg,hq⟩:=h.old i hi
  exact⟨g,hg,by unfold WSit;exact⟨rfl,hq⟩⟩
 .unfold MSit
  show(match mKind P ty Wg Ch Ro (o+r) Anch Done pay (nextTag r) with|some k=>a.g=a.g∧OnWay P Ro (Live ty Wg Ch) true k a|none=>_)
  rw[hk]
  exact⟨rfl,hw⟩
 .rw[h.hears];exact(nextTag_deaf r).symm
 .show ConcN.Mode o (fun i=>⟨1,q i,Deaf t (i+1)⟩) (nextTag r) 0 0
  have hv:Vc o (fun i=>(⟨1,q i,Deaf t (i+1)⟩:WD))=0:=by
   have:=Vc_le2 (o:=o) (j:=o) (D:=fun i=>(⟨1,q i,Deaf t (i+1)⟩:WD)) (fun _ _=>rfl) (Nat.le_refl _)
   omega
  have e:(0:Int)=((Vc o (fun i=>(⟨1,q i,Deaf t (i+1)⟩:WD))+pend (nextTag r):Nat):Int)*KK:=by rw[hv,nextTag_pend];simp
  have:=ConcN.Mode.opn (j:=o) (D:=fun i=>(⟨1,q i,Deaf t (i+1)⟩:WD)) (nextTag_open r) (fun _ _=>.inr (.inr (.inr rfl))) (fun vs e=>absurd e (nextTag_w2 r vs))
  rwa[←e] at this
 .rw[hp i hi] at hps;cases hps
theorem Over.calm{x:St}(h:Over P ty Wg Ch Ro Shr o n cap Done pay rz tm x gs w t):Calm P Ro Shr n (x.own 0) gs w t (fun i=>(x.D i).fuel):=by
 have hh:HandedTo n t:=by
  intro i g hg hne hgn hc
  rcases Nat.lt_or_ge o g with hlt|hge
  .obtain⟨q,hq,hq0,hqh,hall⟩:=h.acq
   obtain⟨r,hr,hrq⟩:=hall (g-1) (by omega) (by omega)
   rw[show g-1+1=g by omega] at hr
   have edge:HappensBefore t r q:=.single (.inr ⟨.marked hrq (.inr hr.act) hq (fun k _ _=>h.norel k),hr.heard,hqh⟩)
   have hle:i≤r:=Nat.le_of_not_lt fun hlt=>hr.after i hlt hg hc
   rcases Nat.lt_or_ge i r with hlt|hge
   .exact⟨q,hq0,.trans (.single (.inl ⟨hlt,g,hg,hr.g⟩)) edge⟩
   .obtain rfl:i=r:=by omega
    exact⟨q,hq0,edge⟩
  .exact h.eld i g hg hne hge hc
 have hov:t.HandedOver:=fun i g hg hne hc=>by
  obtain⟨op,ho,hog⟩:=Option.map_eq_some_iff.1 hg
  exact hh i g hg hne (by have:=h.base.ct.gs i op ho;omega) hc
 refine⟨⟨⟨h.base.ap.roShr,fun k b hb=>h.base.ap.free 0 b hb.2,fun k k' b hb hb'=>hb.1.trans hb'.1.symm,fun k b hk hb=>by have:=hb.1;omega⟩,h.base.roLow,h.base.shrLow,fun k b hb=>h.base.ownLow 0 b hb.2,?_,h.base.low,h.base.told⟩,hh,h.deaf0,h.size,h.quits⟩
 exact⟨h.base.ct.quiet,fun k k1 _ l ⟨b,_,hb⟩=>absurd hb.1 (by omega),fun k _ kn l hl=>absurd hl.1 (by omega),fun l hs _=>perm_of h.base.told hov hs,fun l hs _=>PermW.of (perm_of h.base.told hov hs),h.base.ct.nr,h.base.ct.gs⟩
end
end
open Go.ConcR (bk_of_mute)
section
variable{P:Program}{Ro Shr:Nat→Prop}{o:Nat}
theorem norel_mute{es:Array Event}(h:∀e∈es,e.mute=true)(A:Addr):∀e∈es,e.loc≠.mark (.release A):=fun e he=>by
 rcases bk_of_mute (Wg:=A.block) (h e he) with h1|h1|⟨a,wr,rfl,_⟩
 .rw[h1];simp
 .rw[h1];simp
 .simp
theorem norel_of'{A:Addr}{g:Nat}{fn:FuncId}{pos:String}{es:Array Event}(h:∀e∈es,e.loc≠.mark (.release A)):∀op∈MemOp.ofEvents g fn pos es,op.act≠.mark (.release A):=by
 intro op hop e
 obtain⟨x,hx,rfl⟩:=Conc.mem_ofEvents hop
 exact h x hx (Go.ConcR.loc_of_ofEvent e)
structure Since(Shr:Nat→Prop)(w w':World)(t t':Trace):Prop where
 size:w.heap.size≤w'.heap.size
 shr:∀b,b<w.heap.size→Shr b→w'.heap[b]?=w.heap[b]?
 norel:∀A,NoRelease A t→NoRelease A t'
 same:w'={w with heap:=w'.heap,drawn:=w'.drawn}
theorem Since.refl(w:World)(t:Trace):Since Shr w w t t:=⟨Nat.le_refl _,fun _ _ _=>rfl,fun _ h=>h,rfl⟩
theorem Since.trans{w w1 w2:World}{t t1 t2:Trace}(h:Since Shr w w1 t t1)(h':Since Shr w1 w2 t1 t2):Since Shr w w2 t t2:=
 ⟨Nat.le_trans h.size h'.size,fun b hb hs=>(h'.shr b (Nat.lt_of_lt_of_le hb h.size) hs).trans (h.shr b hb hs),fun A h0=>h'.norel A (h.norel A h0),by rw[h'.same,h.same]⟩
theorem beside_calm{Live:World→Prop}(hLive:∀w w':World,(∀b,Shr b→w'.heap[b]?=w.heap[b]?)→Live w→Live w'){k:Kind}(hX:∀e,k.X e→XOK Shr 0 e){a:Rank}(hway:OnWay P Ro Live true k a):∀(M:Nat) (gs:Array Goroutine) (w:World) (sl:Option (Nat×Nat)) (t:Trace) (q:Nat→Nat),sumTo o q≤M→gs[0]?=some a.g→Rely Ro a.own a.w w→Live w→Calm P Ro Shr o a.own gs w t q→∃(N:Nat) (gs':Array Goroutine) (a':Rank) (w':World) (sl':Option (Nat×Nat)) (t':Trace) (q':Nat→Nat),runNT P N (crowd gs w sl) t=(.next (crowd gs' w' sl'),t')∧gs'[0]?=some a'.g∧OnWay P Ro Live true k a'∧AtStop Ro Live k a'∧Rely Ro a'.own a'.w w'∧Calm P Ro Shr o a'.own gs' w' t' q'∧Since Shr w w' t t'∧(∀b,a.own b→a'.own b)∧Live w'∧(k.quiet=true→w'.heap=w.heap):=by
 have hacc:=acc_child hway
 induction hacc with
 |intro a _ ih=>
  intro M
  induction M using Nat.strongRecOn with
  |ind M ihM=>
   intro gs w sl t q hM h0 hr hL hC
   by_cases hstop:AtStop Ro Live k a
   .exact⟨0,gs,a,w,sl,t,q,rfl,h0,hway,hstop,hr,hC,.refl w t,fun _ h=>h,hL,fun _=>rfl⟩
   have hrun:=hway.status
   have hold:∀i g,0<i→gs[i]?=some g→i-1<o∧QuitsD P (q (i-1)) (Deaf t i) g:=fun i g hi hg=>by
    have hlt:i-1<o:=by have:=(Array.getElem?_eq_some_iff.1 hg).1;rw[hC.size] at this;omega
    obtain⟨g',hg',hq⟩:=hC.old (i-1) hlt
    rw[show i-1+1=i by omega,hg] at hg'
    obtain rfl:=Option.some.inj hg'
    rw[show i-1+1=i by omega] at hq
    exact⟨hlt,hq⟩
   have haw:∀g∈gs,awake g:=by
    intro g hg
    obtain⟨i,hi,rfl⟩:=Array.mem_iff_getElem.1 hg
    rcases Nat.eq_zero_or_pos i with rfl|hpos
    .have:gs[0]=a.g:=by simpa[Array.getElem?_eq_getElem hi] using h0
     rw[this];exact awake_of (.inl hrun)
    .exact awake_of ((hold i _ hpos (Array.getElem?_eq_getElem hi)).2.status.elim .inl fun x=>.inr (.inr x))
   obtain⟨i,g,d,sl',hi,hg,hst⟩:=crowd_pick (P:=P) (w:=w) (sl:=sl) haw ⟨0,a.g,h0,hrun⟩
   rcases Nat.eq_zero_or_pos i with rfl|hpos
   .
    obtain rfl:g=a.g:=by rw[h0] at hi;exact(Option.some.inj hi).symm
    have hrd:Rely Ro a.own a.w (w.at d):=⟨hr.size,hr.keep,hr.cells,⟨hr.chans.chan,hr.chans.os,hr.chans.output⟩⟩
    obtain⟨g',w',es,hgo,hgu,hway',hch⟩:=hway.step hstop hrd (hLive w _ (fun _ _=>rfl) hL)
    have hgu':Guar k.quiet k.X Ro (main0 a.own 0) (more (main0 a.own 0) (w.at d) w') (w.at d) w' es:=by rw[main0_own];exact hgu
    obtain⟨b1,b2,b3,b4⟩:=(hC.base.at d).way (i:=0) (Nat.zero_le _) (.inl rfl) hX (.inl rfl) hgu' a.g.frame.fn a.g.frame.place
    rw[main0_own,upd_main0] at b1
    have hrunT:=runT_crowd_go (P:=P) (sl:=sl') (i:=0) hi (show stepG P (0==0) a.g (w.at d)=_ from hgo)
    have hlt:0<gs.size:=(Array.getElem?_eq_some_iff.1 h0).1
    have hC':Calm P Ro Shr o (more a.own (w.at d) w') ((gs.map (woken P a.g g' w')).setIfInBounds 0 g') w' (t++MemOp.ofEvents 0 a.g.frame.fn a.g.frame.place es) q:=by
     refine⟨b1,hC.eld.app fun op hop=>.inl (g_of_ofEvents op hop),by rw[b4];exact hC.hears,by simp[hC.size],fun j hj=>?_⟩
     obtain⟨y,hy,hq⟩:=hC.old j hj
     refine⟨y,by rw[get_map_set _ _ _ _ (by omega),hy,Option.map_some,woken_quitsD hq],?_⟩
     rw[b4]
     exact hq
    have hmarks:∀A,∀e∈es,e.loc≠.mark (.release A):=fun A e he h1=>by
     rcases hgu.evs e he with hev|hev
     .unfold EvO at hev;rw[h1] at hev;cases hev
     .exact(hX e hev).still.1 A h1
    have hS:Since Shr w w' t (t++MemOp.ofEvents 0 a.g.frame.fn a.g.frame.place es):=⟨hgu.size,fun b _ hb=>b3 b hb,fun A h0=>h0.app (norel_of' (hmarks A)),hgu.same⟩
    obtain⟨N,gs',a',w'',sl'',t',q',e1,e2,e3,e4,e5,e6,e7,e8,e9,e10⟩:=ih _ hch hway' (sumTo o q) ((gs.map (woken P a.g g' w')).setIfInBounds 0 g') w' sl' (t++MemOp.ofEvents 0 a.g.frame.fn a.g.frame.place es) q (Nat.le_refl _) (by simp[hlt]) (Rely.refl _ _ _) (hLive w _ (fun b hb=>b3 b hb) hL) hC'
    exact⟨N+1,gs',a',w'',sl'',t',q',by simp only[runNT,hst,hrunT];exact e1,e2,e3,e4,e5,e6,hS.trans e7,fun b hb=>e8 b (.inl hb),e9,fun hqt=>(e10 hqt).trans (by rw[(hgu.quiet hqt).1];rfl)⟩
   .
    obtain⟨hio,hq⟩:=hold i g hpos hi
    have hi0:(i==0)=false:=by simp;omega
    have hlt:i<gs.size:=(Array.getElem?_eq_some_iff.1 hi).1
    cases hqi:q (i-1) with
    |zero=>rw[hqi] at hq;rw[hq.1] at hg;cases hg
    |succ c=>
     rw[hqi] at hq
     rcases hq with⟨hf,_⟩|⟨_,g',es,hm,hstp,hq'⟩
     .rw[hf] at hg;cases hg
     have hrunT:=runT_crowd_go (P:=P) (sl:=sl') (i:=i) hi (by rw[hi0];exact hstp (w.at d))
     have hsum:sumTo o (upd q (i-1) c)+(c+1)=sumTo o q+c:=by
      have:=sumTo_upd q c id hio
      simpa[hqi] using this
     have hops:∀op∈MemOp.ofEvents i g.frame.fn g.frame.place es,op.g=i∧op.act.touch? =none∧op.act.low (w.at d).heap.size:=fun op hop=>by
      obtain⟨e,he,rfl⟩:=Conc.mem_ofEvents hop
      exact⟨rfl,touch_mute (hm e he),low_mute (hm e he) _⟩
     obtain⟨b1,b2⟩:=(hC.base.at d).shared (w':=w.at d) (i:=i) (by omega) rfl (fun _ _=>rfl) (.refl _) (.refl _) (u:=MemOp.ofEvents i g.frame.fn g.frame.place es) (fun op hop=>⟨(hops op hop).1,fun x hx=>(by rw[(hops op hop).2.1] at hx;cases hx),(hops op hop).2.2⟩)
     have hC':Calm P Ro Shr o a.own ((gs.map (woken P g g' (w.at d))).setIfInBounds i g') (w.at d) (t++MemOp.ofEvents i g.frame.fn g.frame.place es) (upd q (i-1) c):=by
      refine⟨b1,hC.eld.app fun op hop=>.inr (.inr (hops op hop).2.1),?_,by simp[hC.size],fun j hj=>?_⟩
      .rw[Deaf_other t (by omega) _ g_of_ofEvents];exact hC.hears
      .by_cases hji:j=i-1
       .subst hji
        refine⟨g',by rw[show i-1+1=i by omega,get_map_set_same _ _ _ hlt],?_⟩
        rw[upd_same,show i-1+1=i by omega,Deaf_own]
        exact hq'
       .obtain⟨y,hy,hqy⟩:=hC.old j hj
        refine⟨y,by rw[get_map_set _ _ _ _ (by omega),hy,Option.map_some,woken_quitsD hqy],?_⟩
        rw[upd_ne q c hji,Deaf_other t (by omega) _ g_of_ofEvents]
        exact hqy
     have hS:Since Shr w (w.at d) t (t++MemOp.ofEvents i g.frame.fn g.frame.place es):=⟨Nat.le_refl _,fun _ _ _=>rfl,fun A h0=>h0.app (norel_of' (norel_mute hm A)),rfl⟩
     obtain⟨N,gs',a',w'',sl'',t',q',e1,e2,e3,e4,e5,e6,e7,e8,e9,e10⟩:=ihM (sumTo o (upd q (i-1) c)) (by omega) ((gs.map (woken P g g' (w.at d))).setIfInBounds i g') (w.at d) sl' (t++MemOp.ofEvents i g.frame.fn g.frame.place es) (upd q (i-1) c) (Nat.le_refl _)
      (by
       rw[get_map_set _ _ _ _ (by omega),h0]
       simp[woken_run hrun])
      ⟨hr.size,hr.keep,hr.cells,⟨hr.chans.chan,hr.chans.os,hr.chans.output⟩⟩ (hLive w _ (fun _ _=>rfl) hL) hC'
     exact⟨N+1,gs',a',w'',sl'',t',q',by simp only[runNT,hst,hrunT];exact e1,e2,e3,e4,e5,e6,hS.trans e7,e8,e9,fun hqt=>e10 hqt⟩
end
section
variable{P:Program}{Ro Shr:Nat→Prop}{o:Nat}{own:Nat→Prop}
theorem calm_turn{a:Goroutine}(hrun:a.status=.running):∀(M:Nat) (gs:Array Goroutine) (w:World) (sl:Option (Nat×Nat)) (t:Trace) (q:Nat→Nat),sumTo o q≤M→gs[0]?=some a→Calm P Ro Shr o own gs w t q→∃(N:Nat) (gs':Array Goroutine) (d:Nat) (sl' sl'':Option (Nat×Nat)) (w':World) (t':Trace) (q':Nat→Nat),runNT P N (crowd gs w sl) t=(.next (crowd gs' w' sl'),t')∧gs'[0]?=some a∧w'.heap=w.heap∧Calm P Ro Shr o own gs' w' t' q'∧Since Shr w w' t t'∧stepT P (crowd gs' w' sl')=runT P (crowd gs' (w'.at d) sl'') 0:=by
 intro M
 induction M using Nat.strongRecOn with
 |ind M ihM=>
  intro gs w sl t q hM h0 hC
  have hold:∀i g,0<i→gs[i]?=some g→i-1<o∧QuitsD P (q (i-1)) (Deaf t i) g:=fun i g hi hg=>by
   have hlt:i-1<o:=by have:=(Array.getElem?_eq_some_iff.1 hg).1;rw[hC.size] at this;omega
   obtain⟨g',hg',hq⟩:=hC.old (i-1) hlt
   rw[show i-1+1=i by omega,hg] at hg'
   obtain rfl:=Option.some.inj hg'
   rw[show i-1+1=i by omega] at hq
   exact⟨hlt,hq⟩
  have haw:∀g∈gs,awake g:=by
   intro g hg
   obtain⟨i,hi,rfl⟩:=Array.mem_iff_getElem.1 hg
   rcases Nat.eq_zero_or_pos i with rfl|hpos
   .have:gs[0]=a:=by simpa[Array.getElem?_eq_getElem hi] using h0
    rw[this];exact awake_of (.inl hrun)
   .exact awake_of ((hold i _ hpos (Array.getElem?_eq_getElem hi)).2.status.elim .inl fun x=>.inr (.inr x))
  obtain⟨i,g,d,sl',hi,hg,hst⟩:=crowd_pick (P:=P) (w:=w) (sl:=sl) haw ⟨0,a,h0,hrun⟩
  rcases Nat.eq_zero_or_pos i with rfl|hpos
  .exact⟨0,gs,d,sl,sl',w,t,q,rfl,h0,rfl,hC,.refl w t,hst⟩
  .obtain⟨hio,hq⟩:=hold i g hpos hi
   have hi0:(i==0)=false:=by simp;omega
   have hlt:i<gs.size:=(Array.getElem?_eq_some_iff.1 hi).1
   cases hqi:q (i-1) with
   |zero=>rw[hqi] at hq;rw[hq.1] at hg;cases hg
   |succ c=>
    rw[hqi] at hq
    rcases hq with⟨hf,_⟩|⟨_,g',es,hm,hstp,hq'⟩
    .rw[hf] at hg;cases hg
    have hrunT:=runT_crowd_go (P:=P) (sl:=sl') (i:=i) hi (by rw[hi0];exact hstp (w.at d))
    have hsum:sumTo o (upd q (i-1) c)+(c+1)=sumTo o q+c:=by
     have:=sumTo_upd q c id hio
     simpa[hqi] using this
    have hops:∀op∈MemOp.ofEvents i g.frame.fn g.frame.place es,op.g=i∧op.act.touch? =none∧op.act.low (w.at d).heap.size:=fun op hop=>by
     obtain⟨e,he,rfl⟩:=Conc.mem_ofEvents hop
     exact⟨rfl,touch_mute (hm e he),low_mute (hm e he) _⟩
    obtain⟨b1,b2⟩:=(hC.base.at d).shared (w':=w.at d) (i:=i) (by omega) rfl (fun _ _=>rfl) (.refl _) (.refl _) (u:=MemOp.ofEvents i g.frame.fn g.frame.place es) (fun op hop=>⟨(hops op hop).1,fun x hx=>(by rw[(hops op hop).2.1] at hx;cases hx),(hops op hop).2.2⟩)
    have hC':Calm P Ro Shr o own ((gs.map (woken P g g' (w.at d))).setIfInBounds i g') (w.at d) (t++MemOp.ofEvents i g.frame.fn g.frame.place es) (upd q (i-1) c):=by
     refine⟨b1,hC.eld.app fun op hop=>.inr (.inr (hops op hop).2.1),?_,by simp[hC.size],fun j hj=>?_⟩
     .rw[Deaf_other t (by omega) _ g_of_ofEvents];exact hC.hears
     .by_cases hji:j=i-1
      .subst hji
       refine⟨g',by rw[show i-1+1=i by omega,get_map_set_same _ _ _ hlt],?_⟩
       rw[upd_same,show i-1+1=i by omega,Deaf_own]
       exact hq'
      .obtain⟨y,hy,hqy⟩:=hC.old j hj
       refine⟨y,by rw[get_map_set _ _ _ _ (by omega),hy,Option.map_some,woken_quitsD hqy],?_⟩
       rw[upd_ne q c hji,Deaf_other t (by omega) _ g_of_ofEvents]
       exact hqy
    have hS:Since Shr w (w.at d) t (t++MemOp.ofEvents i g.frame.fn g.frame.place es):=⟨Nat.le_refl _,fun _ _ _=>rfl,fun A h0=>h0.app (norel_of' (norel_mute hm A)),rfl⟩
    obtain⟨N,gs',d',sl1,sl2,w'',t',q',e1,e2,e3,e4,e5,e6⟩:=ihM (sumTo o (upd q (i-1) c)) (by omega) ((gs.map (woken P g g' (w.at d))).setIfInBounds i g') (w.at d) sl' (t++MemOp.ofEvents i g.frame.fn g.frame.place es) (upd q (i-1) c) (Nat.le_refl _)
     (by
      rw[get_map_set _ _ _ _ (by omega),h0]
      simp[woken_run hrun])
     hC'
    exact⟨N+1,gs',d',sl1,sl2,w'',t',q',by simp only[runNT,hst,hrunT];exact e1,e2,e3,e4,hS.trans e5,e6⟩
section
variable{gs:Array Goroutine}{w w':World}{t:Trace}{q:Nat→Nat}{sl:Option (Nat×Nat)}{a a':Goroutine}
theorem Calm.put0(h:Calm P Ro Shr o own gs w t q)(hs:w'.heap.size=w.heap.size)(hb:∀b,¬Shr b→w'.heap[b]?=w.heap[b]?)(hcl:StayCells w w')(hch:StayW w w'){u:Trace}(hu:∀op∈u,op.g=0∧op.act.touch? =none∧op.act.low w.heap.size)(hd:Deaf (t++u) 0=0){gs':Array Goroutine}(hsz:gs'.size=gs.size)(hgs:∀i,i<o→gs'[i+1]?=gs[i+1]?):Calm P Ro Shr o own gs' w' (t++u) q:=by
 obtain⟨b1,_⟩:=h.base.shared (i:=0) (Nat.zero_le _) hs hb hcl hch (u:=u) (fun op hop=>⟨(hu op hop).1,fun x hx=>(by rw[(hu op hop).2.1] at hx;cases hx),(hu op hop).2.2⟩)
 refine⟨b1,h.eld.app fun op hop=>.inl (hu op hop).1,hd,by rw[hsz];exact h.size,fun i hi=>?_⟩
 obtain⟨g,hg,hq⟩:=h.old i hi
 exact⟨g,by rw[hgs i hi];exact hg,by rw[Deaf_other t (g':=0) (by omega) _ (fun op hop=>(hu op hop).1)];exact hq⟩
theorem Calm.noPartner(h:Calm P Ro Shr o own gs w t q)(c:Nat)(s:Bool):partners (gs.setIfInBounds 0 ph) c s=[]:=by
 refine partners_nil fun j g hg=>?_
 rcases getElem?_stand gs 0 j g hg with⟨_,rfl⟩|⟨hne,hg⟩
 .rfl
 have hlt:j-1<o:=by have:=(Array.getElem?_eq_some_iff.1 hg).1;rw[h.size] at this;omega
 obtain⟨g',hg',hq⟩:=h.old (j-1) hlt
 rw[show j-1+1=j by omega,hg] at hg'
 obtain rfl:=Option.some.inj hg'
 refine offersAt_of_not_blocked (fun e=>?_) _ _
 rcases hq.status with h1|h1<;>(rw[h1] at e;cases e)
variable{Ch cap s r:Nat}{buf:Array Value}{closed tm f:Bool}{z:Value}
theorem Calm.recv(h:Calm P Ro Shr o own gs w t q)(hch:Shr Ch)(ha:gs[0]?=some a)(hst:stepG P true a w=.comm a #[rcase Ch z] true (.recv f) w #[])(hc:w.heap[Ch]?=some (.chan cap buf closed s r tm))(hsome:0<buf.size):∃gs' u,runT P (crowd gs w sl) 0=(.next (crowd gs' (w.setChan Ch cap (buf.extract 1 buf.size) closed s (r+1) tm) sl),u)∧gs'[0]?=some (Conc.served a (Conc.recvd f (buf.getD 0 undef) true))∧Calm P Ro Shr o own gs' (w.setChan Ch cap (buf.extract 1 buf.size) closed s (r+1) tm) (t++u) q∧∀A,NoRelease A t→NoRelease A (t++u):=by
 have hrun:=crowd_recv_buf (P:=P) (sl:=sl) (i:=0) ha (by simpa using hst) hc hsome (h.noPartner Ch true)
 rw[finishComm_recv] at hrun
 have e0:MemOp.ofEvents 0 a.frame.fn a.frame.place #[]=#[]:=by rw[ofEvents_eq];simp
 rw[e0,Array.empty_append] at hrun
 have hlt:0<gs.size:=(Array.getElem?_eq_some_iff.1 ha).1
 have hu:∀op∈(#[{g:=0,fn:=a.frame.fn,pos:=a.frame.place,act:=.recv Ch r cap},{g:=0,fn:=a.frame.fn,pos:=a.frame.place,act:=.recvDone Ch r}]:Trace),op.g=0∧op.act.touch? =none∧op.act.low w.heap.size∧∀m,op.act≠.mark m:=by
  intro op hop
  simp only[List.mem_toArray,List.mem_cons,List.not_mem_nil,or_false] at hop
  rcases hop with rfl|rfl<;>exact⟨rfl,rfl,h.base.shrLow Ch hch,fun m=>by simp⟩
 refine⟨_,_,hrun,by simp[hlt],h.put0 (size_setChan ..) (fun b hb=>?_) (stay_chan hc) (stayc_chan hc) (fun op hop=>⟨(hu op hop).1,(hu op hop).2.1,(hu op hop).2.2.1⟩) ?_ (by simp) (fun i hi=>by rw[Array.getElem?_setIfInBounds_ne (by omega)]),fun A h0=>h0.app fun op hop=>(hu op hop).2.2.2 _⟩
 .simp only[World.setChan]
  exact Array.getElem?_setIfInBounds_ne (show Ch≠b from fun e=>hb (e▸hch))
 .rw[Deaf_still t 0 _ fun op hop=>⟨(hu op hop).2.2.2 _,(hu op hop).2.2.2 _⟩];exact h.hears
theorem Calm.recvShut(h:Calm P Ro Shr o own gs w t q)(hch:Shr Ch)(ha:gs[0]?=some a)(hst:stepG P true a w=.comm a #[rcase Ch z] true (.recv f) w #[])(hc:w.heap[Ch]?=some (.chan cap #[] true s r tm)):∃gs' u,runT P (crowd gs w sl) 0=(.next (crowd gs' w sl),u)∧gs'[0]?=some (Conc.served a (Conc.recvd f z false))∧Calm P Ro Shr o own gs' w (t++u) q∧∀A,NoRelease A t→NoRelease A (t++u):=by
 have hrun:=crowd_recv_closed (P:=P) (sl:=sl) (i:=0) ha (by simpa using hst) hc (h.noPartner Ch true)
 rw[finishComm_recv] at hrun
 have e0:MemOp.ofEvents 0 a.frame.fn a.frame.place #[]=#[]:=by rw[ofEvents_eq];simp
 rw[e0,Array.empty_append] at hrun
 have hlt:0<gs.size:=(Array.getElem?_eq_some_iff.1 ha).1
 have hu:∀op∈(#[{g:=0,fn:=a.frame.fn,pos:=a.frame.place,act:=.recvClosed Ch}]:Trace),op.g=0∧op.act.touch? =none∧op.act.low w.heap.size∧∀m,op.act≠.mark m:=by
  intro op hop
  simp only[List.mem_toArray,List.mem_cons,List.not_mem_nil,or_false] at hop
  subst hop
  exact⟨rfl,rfl,h.base.shrLow Ch hch,fun m=>by simp⟩
 refine⟨_,_,hrun,by simp[hlt],h.put0 rfl (fun _ _=>rfl) (.refl w) (.refl w) (fun op hop=>⟨(hu op hop).1,(hu op hop).2.1,(hu op hop).2.2.1⟩) ?_ (by simp) (fun i hi=>by rw[Array.getElem?_setIfInBounds_ne (by omega)]),fun A h0=>h0.app fun op hop=>(hu op hop).2.2.2 _⟩
 rw[Deaf_still t 0 _ fun op hop=>⟨(hu op hop).2.2.2 _,(hu op hop).2.2.2 _⟩];exact h.hears
end
end
section
variable[M:Mps][E:Ext]
section
variable[Spc]{P:Program}{S:FuncId→Prop}{Shr:Nat→Prop}{Hid:Nat→Prop}{o:Nat}
def nobody:Nat→Prop:=fun _=>False
def rest(Shr:Nat→Prop)(w:World):Nat→Prop:=fun b=>b<w.heap.size∧¬Shr b
def mine(Z Shr:Nat→Prop)(w:World):Nat→Prop:=fun b=>rest Shr w b∧¬Z b
end
section
variable{P:Program}{Ro Ro0 Shr:Nat→Prop}{o:Nat}{own own0:Nat→Prop}{gs:Array Goroutine}{w:World}{t:Trace}{q:Nat→Nat}
theorem Calm.split(h:Calm P Ro0 Shr o own0 gs w t q)(hRo:∀b,Ro b→rest Shr w b)(hown:∀b,own b→rest Shr w b∧¬Ro b):Calm P Ro Shr o own gs w t q:=by
 have hov:=h.handed
 refine⟨⟨⟨fun b hb=>(hRo b hb).2,fun k b hb=>⟨(hown b hb.2).2,(hown b hb.2).1.2⟩,fun k k' b hb hb'=>hb.1.trans hb'.1.symm,fun k b hk hb=>by have:=hb.1;omega⟩,fun b hb=>(hRo b hb).1,h.base.shrLow,fun k b hb=>(hown b hb.2).1.1,?_,h.base.low,h.base.told⟩,h.eld,h.hears,h.size,h.old⟩
 exact⟨h.base.ct.quiet,fun k k1 _ l ⟨b,_,hb⟩=>absurd hb.1 (by omega),fun k _ kn l hl=>absurd hl.1 (by omega),fun l hs _=>perm_of h.base.told hov hs,fun l hs _=>PermW.of (perm_of h.base.told hov hs),h.base.ct.nr,h.base.ct.gs⟩
end
section
variable[Spc]{P:Program}{S:FuncId→Prop}{Z Shr:Nat→Prop}{Hid:Nat→Prop}{o:Nat}
theorem Calm.all{Ro own:Nat→Prop}{gs:Array Goroutine}{w:World}{t:Trace}{q:Nat→Nat}(h:Calm P Ro Shr o own gs w t q)(hZ:∀b,Z b→rest Shr w b):Calm P Z Shr o (mine Z Shr w) gs w t q:=h.split hZ fun _ hb=>hb
theorem Priv.mono{Ro own own':Nat→Prop}{f:Nat→Nat}{g:Goroutine}{v w:World}(h:Priv P S Ro own Hid f g v w)(ho:∀b,own b→own' b):Priv P S Ro own' Hid f g v w:=
 ⟨h.ok,h.inj,h.fix,h.sim,fun b x hb=>(h.held b x hb).imp (And.imp_left (ho _)) id⟩
structure Mirror(P:Program)(S:FuncId→Prop)(Z Shr:Nat→Prop)(Hid:Nat→Prop)(o:Nat)(f:Nat→Nat)(g:Goroutine)(v:World)(gs:Array Goroutine)(w:World)(t:Trace)(q:Nat→Nat):Prop where
 calm:Calm P Z Shr o (mine Z Shr w) gs w t q
 priv:Priv P S Z (mine Z Shr w) Hid f g v w
 at0:gs[0]?=some (gorS f [] g)
 shr:∀b,Hid b→Shr b
theorem Mirror.alone{f:Nat→Nat}{g:Goroutine}{v:World}{gs:Array Goroutine}{w:World}{t:Trace}{q:Nat→Nat}(h:Mirror P S Z Shr Hid o f g v gs w t q)(b:Nat)(hb:Z b):rest Shr w b:=⟨h.calm.base.roLow b hb,h.calm.base.ap.roShr b hb⟩
theorem Mirror.go(hz:ZeroOK P)(hS:SOK P S){D:Goroutine→World→Prop}{C:Nat→Prop}(hD:∀g v,D g v→∀b,C b→∀o,v.heap[b]?=some o→chanB o=true){f:Nat→Nat}{g:Goroutine}{v:World}{gs:Array Goroutine}{w:World}{t:Trace}{q:Nat→Nat}(hM:Mirror P S Z Shr Hid o f g v gs w t q)(sl:Option (Nat×Nat))(ht:LTree P S D g v)(hC:∀b o,v.heap[b]?=some o→chanB o=true→C b):∃(N:Nat) (gs':Array Goroutine) (w':World) (sl':Option (Nat×Nat)) (t':Trace) (q':Nat→Nat) (f':Nat→Nat) (g':Goroutine) (v':World),runNT P N (crowd gs w sl) t=(.next (crowd gs' w' sl'),t')∧D g' v'∧Mirror P S Z Shr Hid o f' g' v' gs' w' t' q'∧Since Shr w w' t t'∧(∀i,i<v.heap.size→f' i=f i)∧v.heap.size≤v'.heap.size∧Rely Z (fun _=>False) w w':=by
 let Stop:Stops:=fun g1 w1 own1=>∃f' g' v',D g' v'∧Priv P S Z own1 Hid f' g' v' w1∧g1=gorS f' [] g'∧(∀i,i<v.heap.size→f' i=f i)∧v.heap.size≤v'.heap.size∧Rely Z (fun _=>False) w w1
 let X:Event→Prop:=fun e=>∃b,Shr b∧Look b e
 have hway:OnWay P Z (fun _=>True) true ⟨false,X,Stop⟩ ⟨gorS f [] g,w,mine Z Shr w⟩:=by
  refine way_of_ltree (n0:=v.heap.size) (f0:=f) hz hS (fun e r h1 h2 h3 h4=>⟨r,hM.shr r h1,h2,h3,h4⟩) hD (w0:=w) (fun g' v' f' w1 own1 hd hp hw _ ha hn=>?_) ht hM.priv (Rely.refl _ _ _) (fun b hb=>⟨(hM.alone b hb).1,fun h=>h.2 hb⟩) (fun _ _=>rfl) (Nat.le_refl _) hC
  refine .stop hp.ok.run fun w2 hr _=>?_
  obtain⟨hp2,_,e⟩:=hp.rely hr []
  exact⟨rebase f' v' w2,g',v',hd,hp2,e,fun i hi=>(rebase_lt (Nat.lt_of_lt_of_le hi hn)).trans (ha i hi),hn,hw.trans ⟨hr.size,fun b hb ho=>ho.elim (fun h=>hr.keep b hb (.inl h)) fun h=>h.elim,hr.cells,hr.chans⟩⟩
 obtain⟨N,gs',a',w',sl',t',q',e1,e2,e3,e4,e5,e6,e7,e8,e9,_⟩:=beside_calm (Live:=fun _=>True) (fun _ _ _ h=>h) (k:=⟨false,X,Stop⟩) (fun e he=>.inr he) hway (sumTo o q) gs w sl t q (Nat.le_refl _) hM.at0 (Rely.refl _ _ _) trivial hM.calm
 obtain⟨f',g',v',d1,d2,d3,d4,d5,d6⟩:=e4 w' e5 trivial
 refine⟨N,gs',w',sl',t',q',f',g',v',e1,d1,⟨e6.all fun b hb=>⟨e6.base.roLow b hb,e6.base.ap.roShr b hb⟩,Priv.mono d2 fun b hb=>⟨⟨?_,?_⟩,?_⟩,by rw[e2,d3],hM.shr⟩,e7,d4,d5,d6⟩
 .exact e6.base.ownLow 0 b ⟨rfl,hb⟩
 .exact(e6.base.ap.free 0 b ⟨rfl,hb⟩).2
 .exact(e6.base.ap.free 0 b ⟨rfl,hb⟩).1
end
end
end Go.Crew
section
namespace Go
namespace Ren
open Go.Conc
variable[M:Mps]
variable{P:Program}{S:FuncId→Prop}
theorem val_comp(H:Fr)(f g:Nat→Nat):∀v:Value,@val M H noExt f (@val M frId noExt g v)=@val M H noExt (f ∘ g) v
 |.pointer a=>by cases a<;>simp[addr]
 |.slice a l c=>by cases a<;>simp[addr]
 |.map r=>by simp[Function.comp_def]
 |.chan r=>by simp[Function.comp_def]
 |.func h a b=>by
  have key:∀l:Array Value,(∀v∈l,@val M H noExt f (@val M frId noExt g v)=@val M H noExt (f ∘ g) v)→@vals M H noExt f (@vals M frId noExt g l)=@vals M H noExt (f ∘ g) l:=fun l hl=>by
   unfold vals
   rw[Array.map_map]
   exact Array.map_congr_left hl
  rw[@val_func M frId,@val_func M H,@val_func M H,key a (fun v _=>val_comp H f g v),key b (fun v _=>val_comp H f g v)]
  congr 1
  cases h<;>rfl
 |.iface t v=>by
  by_cases ht:t<tyTop
  .rw[x_iface,x_iface,x_iface,if_pos ht,if_pos ht,if_pos ht,val_comp H f g v]
  .rw[x_iface,x_iface,x_iface,if_neg ht,if_neg ht,if_neg ht]
 |.agg cs=>by
  rw[@val_agg M frId,@val_agg M H,@val_agg M H]
  congr 1
  unfold vals
  rw[Array.map_map]
  exact Array.map_congr_left fun v _=>val_comp H f g v
 |.tuple cs=>by
  rw[@val_tuple M frId,@val_tuple M H,@val_tuple M H]
  congr 1
  unfold vals
  rw[Array.map_map]
  exact Array.map_congr_left fun v _=>val_comp H f g v
 |.bool _|.int _ _|.float _ _|.complex _ _ _|.string _|.nilFunc|.nilIface=>by simp
termination_by v=>SizeOf.sizeOf v
decreasing_by
 all_goals first
  |(rename_i h;have h:=Array.sizeOf_lt_of_mem h;simp only[Value.func.sizeOf_spec,Value.agg.sizeOf_spec,Value.tuple.sizeOf_spec];omega)
  |(simp only[Value.iface.sizeOf_spec];omega)
def isCells:Obj→Bool
 |.cells ..=>true
 |_=>false
def cellsAt(w:World)(b:Nat):Bool:=match w.heap[b]? with
 |some o=>isCells o
 |none=>false
def enum(w:World):List Nat:=(List.range w.heap.size).filter (cellsAt w)
def up(w:World)(i:Nat):Nat:=if h:i<(enum w).length then(enum w)[i] else w.heap.size+(i-(enum w).length)
def down(w:World)(b:Nat):Nat:=(enum w).idxOf b
theorem mem_enum{w:World}{b:Nat}:b∈enum w↔b<w.heap.size∧cellsAt w b=true:=by simp[enum]
theorem enum_nodup(w:World):(enum w).Nodup:=(List.nodup_range).filter _
theorem up_down{w:World}{b:Nat}(h:b∈enum w):up w (down w b)=b:=by
 have hlt:(enum w).idxOf b<(enum w).length:=List.idxOf_lt_length_of_mem h
 unfold up down
 rw[dif_pos hlt]
 exact List.getElem_idxOf hlt
theorem up_mem{w:World}{i:Nat}(h:i<(enum w).length):up w i∈enum w:=by
 unfold up;rw[dif_pos h];exact List.getElem_mem h
theorem up_lt{w:World}{i:Nat}(h:i<(enum w).length):up w i<w.heap.size:=(mem_enum.1 (up_mem h)).1
theorem up_inj{w:World}{i j:Nat}(hi:i<(enum w).length)(hj:j<(enum w).length)(h:up w i=up w j):i=j:=by
 unfold up at h
 rw[dif_pos hi,dif_pos hj] at h
 exact(List.getElem_inj (enum_nodup w)).1 h
def OnlyIn(S:FuncId→Prop)(K:Nat→Prop)(x:Value):Prop:=∀(H H':Fr) (h h':Nat→Nat),(∀b,K b→h b=h' b)→(∀g,S g→H.fid g=H'.fid g)→@val M H noExt h x=@val M H' noExt h' x
open Classical in
noncomputable def lowerObj(S:FuncId→Prop)(w:World):Obj→Obj
 |.cells c e fr=>if ∀x∈c,OnlyIn S (·∈enum w) x then .cells (vals (down w) c) e fr else .cells #[] e (0,0)
 |_=>.cells #[] 0 (0,0)
noncomputable def lower(S:FuncId→Prop)(w:World):World:={w with heap:=((enum w).map fun b=>lowerObj S w (w.heap[b]?.getD default)).toArray}
theorem lower_size(S:FuncId→Prop)(w:World):(lower S w).heap.size=(enum w).length:=by simp[lower]
theorem lower_get(S:FuncId→Prop)(w:World){i:Nat}{o:Obj}(h:(lower S w).heap[i]?=some o):i<(enum w).length∧∃c e fr,w.heap[up w i]?=some (.cells c e fr)∧o=lowerObj S w (.cells c e fr):=by
 have hlt:i<(enum w).length:=by rw[←lower_size S w];exact(Array.getElem?_eq_some_iff.1 h).1
 refine⟨hlt,?_⟩
 have hm:=up_mem hlt
 have hu:up w i=(enum w)[i]:=by unfold up;rw[dif_pos hlt]
 obtain⟨hb,hc⟩:=mem_enum.1 hm
 unfold cellsAt at hc
 rw[Array.getElem?_eq_getElem hb] at hc
 have hg:w.heap[up w i]?=some w.heap[up w i]:=Array.getElem?_eq_getElem hb
 simp only[lower,List.getElem?_toArray,List.getElem?_map,List.getElem?_eq_getElem hlt,Option.map_some,Option.some.injEq] at h
 rw[←hu,hg] at h
 dsimp only at hc
 generalize w.heap[up w i]=o' at hc hg h
 cases o'<;>first|(cases hc;done)|exact⟨_,_,_,hg,h.symm⟩
theorem vals_up_down{w:World}{c:Array Value}(h:∀x∈c,OnlyIn S (·∈enum w) x):vals (up w) (vals (down w) c)=c:=by
 unfold vals
 rw[Array.map_map]
 refine(Array.map_congr_left fun x hx=>?_).trans (Array.map_id c)
 show val (up w) (val (down w) x)=x
 rw[val_comp]
 rw[h x hx frId frId (up w ∘ down w) id (fun b hb=>up_down hb) (fun _ _=>rfl),val_id]
theorem only_down{w:World}{x:Value}(h:OnlyIn S (·∈enum w) x)(H H':Fr)(e e':Nat→Nat)(ha:Alike S (enum w).length H H' e e'):@val M H noExt e (@val M frId noExt (down w) x)=@val M H' noExt e' (@val M frId noExt (down w) x):=by
 rw[val_comp H,val_comp H']
 exact h H H' _ _ (fun b hb=>ha.blk _ (List.idxOf_lt_length_of_mem hb)) ha.fid
theorem only_downs{w:World}{c:Array Value}(h:∀x∈c,OnlyIn S (·∈enum w) x)(H H':Fr)(e e':Nat→Nat)(ha:Alike S (enum w).length H H' e e'):@vals M H noExt e (@vals M frId noExt (down w) c)=@vals M H' noExt e' (@vals M frId noExt (down w) c):=by
 unfold vals
 rw[Array.map_map,Array.map_map]
 exact Array.map_congr_left fun x hx=>only_down (h x hx) H H' e e' ha
theorem enter_frame'(H:Fr)(f:Nat→Nat)(g:FuncId)(args:Array Value)(k:CallKind):@frame M H noExt f (Frame.enter P g args k)=Frame.enter P g (@vals M H noExt f args) k:=enter_frame f g args k
theorem lower_ok[Spc](hS:SOK P S){fn:FuncId}(hfn:S fn∨FrameGood P S (Frame.enter P fn #[] .normal)){args:Array Value}{w:World}(hG:P.globals.size≤(enum w).length)(ha:∀x∈args,OnlyIn S (·∈enum w) x):Ok P S (G (Frame.enter P fn (vals (down w) args) .normal) [bottom]) (lower S w):=by
 have hgood:FrameGood P S (Frame.enter P fn (vals (down w) args) .normal):=by
  rcases hfn with h|h
  .exact enter_good hS h _ (.inl rfl)
  .exact⟨fun i hi=>h.items i (by simpa[Frame.enter] using hi),fun d hd=>(by simp[Frame.enter] at hd),trivial,.inl rfl⟩
 refine⟨fun b o hb=>?_,⟨hgood,fun c hc=>by rw[List.mem_singleton.1 hc];exact bottom_good,rfl⟩,rfl,⟨[],rfl⟩,by rw[lower_size];exact hG,fun H H' h h' hal0=>?_,fun H H' h hal b o hb=>?_⟩
 .obtain⟨_,c,e,fr,_,rfl⟩:=lower_get S w hb
  unfold lowerObj
  dsimp only
  split<;>exact⟨.inr rfl,trivial⟩
 .have hal:=hal0.named
  rw[lower_size] at hal
  refine⟨?_,fun b o hb=>?_⟩
  .unfold gor
   simp only[Conc.G,List.map_cons,List.map_nil,Goroutine.mk.injEq,and_true]
   rw[enter_frame' H,enter_frame' H',only_downs ha H H' h h' hal]
   exact⟨rfl,by rw[@bottom_frame M _ H,@bottom_frame M _ H']⟩
  .obtain⟨_,c,e,fr,_,rfl⟩:=lower_get S w hb
   unfold lowerObj
   dsimp only
   split
   .rename_i hc
    show Obj.cells _ e fr=Obj.cells _ e fr
    congr 1
    exact only_downs hc H H' h h' hal
   .simp[obj,vals]
 .obtain⟨_,c,e,fr,_,rfl⟩:=lower_get S w hb
  unfold lowerObj
  dsimp only
  split
  .rename_i hc
   show Obj.cells _ e fr=Obj.cells _ e fr
   congr 1
   exact only_downs hc H H' h h ⟨fun _ _=>rfl,hal⟩
  .simp[obj,vals]
theorem lower_sim(S:FuncId→Prop)(K:Kd)(w:World):Sim (up w) K (lower S w) w:=by
 refine⟨fun b o hb=>?_,fun b o hb=>?_⟩
 .obtain⟨_,c,e,fr,_,rfl⟩:=lower_get S w hb
  unfold lowerObj
  dsimp only
  split<;>exact trivial
 .obtain⟨_,c,e,fr,h1,rfl⟩:=lower_get S w hb
  refine⟨_,h1,?_⟩
  unfold lowerObj
  dsimp only
  split
  .rename_i hc
   exact⟨c,fr,rfl,fun _=>⟨(vals_up_down hc).symm,fun _ h=>h⟩⟩
  .exact⟨c,fr,rfl,fun h=>by cases h⟩
theorem onlyIn_closed{K:Nat→Prop}{x:Value}(h:closedB x=true):OnlyIn S K x:=fun H H' h1 h2 _ _=>by
 rw[@closedB_closed M H noExt x h,@closedB_closed M H' noExt x h]
end Ren
namespace Crew
open Go.Conc Go.ConcN Go.Ren
variable[Spc]{P:Program}{S:FuncId→Prop}
theorem base_start(w:World):Base nobody nobody 0 0 (main0 (mine nobody nobody w)) w #[]:=by
 refine⟨⟨fun _ hb=>hb.elim,fun k b hb=>⟨id,id⟩,fun k k' b hb hb'=>hb.1.trans hb'.1.symm,fun k b hk hb=>by have:=hb.1;omega⟩,fun _ hb=>hb.elim,fun _ hb=>hb.elim,fun k b hb=>hb.2.1.1,?_,fun op hop=>by simp at hop,fun i op x hi=>by simp at hi⟩
 exact CT.lone (fun op hop=>by simp at hop) (fun op hop=>by simp at hop)
theorem Mirror.start(hS:SOK P S){fn:FuncId}(hfn:S fn∨FrameGood P S (Frame.enter P fn #[] .normal)){args:Array Value}{w:World}(hG:P.globals.size≤(enum w).length)(hup:∀g,g<P.globals.size→up w g=g)(ha:∀x∈args,OnlyIn S (·∈enum w) x):Mirror P S nobody nobody nobody 0 (up w) (G (Frame.enter P fn (vals (down w) args) .normal) [bottom]) (lower S w) #[G (Frame.enter P fn args .normal) []] w #[] (fun _=>0):=by
 refine⟨⟨base_start w,fun i g hg=>by simp[Trace.g?] at hg,rfl,rfl,fun i hi=>by omega⟩,⟨lower_ok hS hfn hG ha,fun a b h1 h2 h3=>up_inj (by rw[←lower_size S w];exact h1) (by rw[←lower_size S w];exact h2) h3,hup,lower_sim S _ w,fun b o hb=>?_⟩,?_,fun b hb=>hb.elim⟩
 .refine .inl ⟨⟨⟨up_lt (lower_get S w hb).1,id⟩,id⟩,?_⟩
  obtain⟨_,c,e,fr,_,rfl⟩:=lower_get S w hb
  unfold lowerObj
  dsimp only
  split<;>rfl
 .simp only[List.getElem?_toArray,List.getElem?_cons_zero,Option.some.injEq]
  unfold gorS gor
  simp only[Conc.G]
  rw[enter_frame,vals_up_down ha]
  rfl
end Crew
end Go
end
namespace Go.Crew
open Go.Conc Go.ConcN Go.Ren
section
variable{P:Program}{Ro Shr:Nat→Prop}{o:Nat}{own:Nat→Prop}{gs:Array Goroutine}{w:World}{t:Trace}{q:Nat→Nat}
theorem deaf_none{t:Trace}{j:Nat}(h:∀op∈t,op.g≠j):Deaf t j=0:=by
 have key:∀(l:List MemOp) (d:Nat),(∀op∈l,op.g≠j)→l.foldl (deafStep j) d=d:=by
  intro l
  induction l with
  |nil=>intro d _;rfl
  |cons y l ih=>
   intro d hl
   rw[List.foldl_cons]
   have e:deafStep j d y=d:=by
    have hy:=hl y (List.mem_cons_self ..)
    unfold deafStep
    simp only[if_neg hy]
    split<;>rfl
   rw[e]
   exact ih d fun op hop=>hl op (List.mem_cons_of_mem _ hop)
 have:=Deaf_append #[] j t.toList
 rw[show(#[]:Trace)++t.toList.toArray=t by simp] at this
 rw[this]
 exact key _ _ fun op hop=>h op (Array.mem_toList_iff.1 hop)
theorem Calm.leavers(h:Calm P Ro Shr o own gs w t q):Leavers P t gs (fun i=>q (i-1)):=by
 refine⟨fun i g hi hg=>?_,fun j hj=>?_⟩
 .have hlt:i-1<o:=by have:=(Array.getElem?_eq_some_iff.1 hg).1;rw[h.size] at this;omega
  obtain⟨g',hg',hq⟩:=h.old (i-1) hlt
  rw[show i-1+1=i by omega] at hg' hq
  rw[hg] at hg'
  obtain rfl:=Option.some.inj hg'
  exact hq
 .refine deaf_none fun op hop e=>?_
  obtain⟨i,hi⟩:=Array.mem_iff_getElem?.1 hop
  have:=h.base.ct.gs i op hi
  rw[h.size] at hj
  omega
theorem Calm.past(h:Calm P Ro Shr o own gs w t q):Past (ShL Shr) w.heap.size t:=by
 refine⟨h.base.ct.nr,fun i a ha hm=>?_,h.handed,h.hears,h.base.low⟩
 obtain⟨x,hx,hxa⟩:=touch_of ha
 rcases h.base.told i x a hx hxa with h3|h3|h3
 .rw[←h3];exact .inl (knows_own hx)
 .by_cases e:x.g=0
  .rw[←e];exact .inl (knows_own hx)
  .obtain⟨j,hj,hb⟩:=h.handed i x.g (by simp[Trace.g?,hx]) e h3
   exact .inl (knows_of hj hb)
 .exact .inr h3
end
section
variable[Spc]{P:Program}{S:FuncId→Prop}{Z Shr Hid:Nat→Prop}{o:Nat}
theorem Mirror.ends{f:Nat→Nat}{v w:World}{gs:Array Goroutine}{t:Trace}{q:Nat→Nat}{fr:Frame}{fn:Func}{tr:Tmp}{Post:Value→World→Prop}(hM:Mirror P S Z Shr Hid o f (G fr [bottom]) v gs w t q)(sl:Option (Nat×Nat))(hfn:P.funcs[fr.fn]?=some fn)(hres:fn.results=#[.tmp tr])(hin:P.inits.idxOf? fr.fn=none)(hm:fr.mode=.returning)(hd:fr.defers=[])(hk:fr.kind=.normal)(hp:∀d,Post (val f (fr.tmps.getD tr undef)) (w.at d)):∃N last oc w' t',runNT P (N+1) (crowd gs w sl) t=(.ended oc w',t')∧runN P N (crowd gs w sl)=.next last∧step P last=.ended oc w'∧Good P Post last oc w' t':=by
 refine beside_ends (D:=fun _ _ _=>False) (Shun:=ShL Shr) (B:=w.heap.size) (n:=0) (Post:=Post) (fun _ _ _ h=>h.elim) hM.at0 hM.calm.leavers hM.calm.past (Goes.stop fun w1 hw1=>?_)
 obtain⟨d,rfl⟩:=hw1
 refine⟨hM.priv.ok.run,_,#[],?_,fun e he=>by simp at he,hp d⟩
 have hs:stk f [] [bottom]=[]:=by
  have:=stk_up f [] bottom []
  simpa using this
 have h1:=results_tmp hres (vals f fr.tmps) P (w.at d)
 have h2:=events_results_tmp (P:=P) (w:=w.at d) hres (vals f fr.tmps) #[]
 have h3:(results fn (vals f fr.tmps)).runT P (w.at d) #[]=(.ok ((vals f fr.tmps).getD tr undef) (w.at d),#[]):=by
  have e0:=Sem.runT_fst P (results fn (vals f fr.tmps)) (w.at d) #[]
  rw[h1] at e0
  have e1:((results fn (vals f fr.tmps)).runT P (w.at d) #[]).2=#[]:=h2
  exact Prod.ext e0 e1
 unfold gorS gor stepG
 dsimp only[Conc.G]
 rw[hs]
 have hm':(frame f fr).mode=.returning:=by simp[frame,hm,mode]
 have hd':(frame f fr).defers=[]:=by simp[frame,hd]
 have hk':(frame f fr).kind=.normal:=hk
 have hf':(frame f fr).fn=fr.fn:=rfl
 have ht':(frame f fr).tmps=vals f fr.tmps:=rfl
 simp only[hm']
 unfold unwind
 simp only[hd',hm',hf',hfn,ht',h3,doReturn,hk',GStep.after,hin,getD_vals]
 simp[seen_none]
end
open Go.ConcR (WgAt stA smA g_of_ofEvents KK)
section
variable{P:Program}{Ro Shr:Nat→Prop}{o:Nat}{own:Nat→Prop}{gs:Array Goroutine}{w:World}{t:Trace}{q:Nat→Nat}
theorem Calm.made(h:Calm P Ro Shr o own gs w t q)(og:Obj){gs':Array Goroutine}(hsz:gs'.size=gs.size)(hgs:∀i,i<o→gs'[i+1]?=gs[i+1]?):Calm P Ro (fun b=>Shr b∨b=w.heap.size) o (mine Ro (fun b=>Shr b∨b=w.heap.size) {w with heap:=w.heap.push og}) gs' {w with heap:=w.heap.push og} t q:=by
 have hov:=h.handed
 have hnew:∀(i:Nat) (op:MemOp) (x:Touch),t[i]?=some op→op.act.touch? =some x→∀b,blkOf x.loc=some b→b<w.heap.size:=fun i op x hi hx b hb=>touch_low (h.base.low op (Array.mem_of_getElem? hi)) hx hb
 have hsh:∀(i:Nat) (op:MemOp) (x:Touch),t[i]?=some op→op.act.touch? =some x→ShL (fun b=>Shr b∨b=w.heap.size) x.loc→ShL Shr x.loc:=fun i op x hi hx ⟨b,hb,hs⟩=>by
  rcases hs with hs|hs
  .exact⟨b,hb,hs⟩
  .have:=hnew i op x hi hx b hb;omega
 have hup:∀l,ShL Shr l→ShL (fun b=>Shr b∨b=w.heap.size) l:=fun l ⟨b,hb,hs⟩=>⟨b,hb,.inl hs⟩
 have hpush:w.heap.size≤({w with heap:=w.heap.push og}:World).heap.size:=by simp
 refine⟨⟨⟨fun b hb hs=>hs.elim (h.base.ap.roShr b hb) fun e=>(by have:=h.base.roLow b hb;omega),fun k b hb=>⟨hb.2.2,hb.2.1.2⟩,fun k k' b hb hb'=>hb.1.trans hb'.1.symm,fun k b hk hb=>by have:=hb.1;omega⟩,fun b hb=>Nat.lt_of_lt_of_le (h.base.roLow b hb) hpush,fun b hb=>?_,fun k b hb=>hb.2.1.1,?_,fun op hop=>MemAct.low_mono hpush (h.base.low op hop),fun i op x hi hx=>?_⟩,h.eld,h.hears,by rw[hsz];exact h.size,fun i hi=>by rw[hgs i hi];exact h.old i hi⟩
 .rcases hb with hb|rfl
  .exact Nat.lt_of_lt_of_le (h.base.shrLow b hb) hpush
  .simp
 .exact⟨fun i op x hi hx hs=>h.base.ct.quiet i op x hi hx (hsh i op x hi hx hs),fun k k1 _ l ⟨b,_,hb⟩=>absurd hb.1 (by omega),fun k _ kn l hl=>absurd hl.1 (by omega),fun l hs _=>perm_of h.base.told hov fun hh=>hs (hup l hh),fun l hs _=>PermW.of (perm_of h.base.told hov fun hh=>hs (hup l hh)),h.base.ct.nr,h.base.ct.gs⟩
 .exact(h.base.told i op x hi hx).imp id fun h=>h.imp id fun h=>⟨hup _ h.1,h.2⟩
end
def hideO:Obj→Obj
 |.cells _ e _=>.cells #[] e (0,0)
 |x=>x
section
variable[Spc]{P:Program}{S:FuncId→Prop}{Z Shr Hid:Nat→Prop}{o:Nat}
theorem Mirror.make{f:Nat→Nat}{g g':Goroutine}{v w:World}{gs:Array Goroutine}{t:Trace}{q:Nat→Nat}(hM:Mirror P S Z Shr Hid o f g v gs w t q)(sl:Option (Nat×Nat)){og:Obj}(hog:isCells og=true∨og.isChan=true)(hst:∀(f1:Nat→Nat) (w1:World),(∀i,i<v.heap.size→f1 i=f i)→f1 v.heap.size=w1.heap.size→stepG P true (gorS f [] g) w1=.go (gorS f1 [] g') {w1 with heap:=w1.heap.push og} #[])(hok:Ok P S g' {v with heap:=v.heap.push (hideO og)}):∃(N:Nat) (gs':Array Goroutine) (w':World) (sl':Option (Nat×Nat)) (t':Trace) (q':Nat→Nat) (f1:Nat→Nat),runNT P N (crowd gs w sl) t=(.next (crowd gs' w' sl'),t')∧Mirror P S Z (fun b=>Shr b∨b=w.heap.size) (fun b=>Hid b∨(b=w.heap.size∧og.isChan=true)) o f1 g' {v with heap:=v.heap.push (hideO og)} gs' w' t' q'∧w'.heap=w.heap.push og∧(∀i,i<v.heap.size→f1 i=f i)∧f1 v.heap.size=w.heap.size∧(∀A,NoRelease A t→NoRelease A t')∧w'={w with heap:=w'.heap,drawn:=w'.drawn}:=by
 obtain⟨N,gs1,d,sl1,sl2,w1,t1,q1,e1,e2,e3,e4,e5,e6⟩:=calm_turn (P:=P) (a:=gorS f [] g) (show(gorS f [] g).status=.running from hM.priv.ok.run) (sumTo o q) gs w sl t q (Nat.le_refl _) hM.at0 hM.calm
 let f1:Nat→Nat:=fun i=>if i<v.heap.size then f i else w.heap.size+(i-v.heap.size)
 have hf1:∀i,i<v.heap.size→f1 i=f i:=fun i hi=>if_pos hi
 have hf2:f1 v.heap.size=w.heap.size:=by show(if v.heap.size<v.heap.size then _ else _)=_;rw[if_neg (by omega)];omega
 have hrun:=runT_crowd_go (P:=P) (sl:=sl2) (i:=0) e2 (show stepG P (0==0) (gorS f [] g) (w1.at d)=_ from hst f1 (w1.at d) hf1 (by rw[hf2];show w.heap.size=w1.heap.size;rw[e3]))
 have hlt:0<gs1.size:=(Array.getElem?_eq_some_iff.1 e2).1
 have e4':Calm P Z Shr o (mine Z Shr w) gs1 (w1.at d) t1 q1:=⟨e4.base.at d,e4.eld,e4.hears,e4.size,e4.old⟩
 have hmade:=e4'.made og (gs':=(gs1.map (woken P (gorS f [] g) (gorS f1 [] g') {w1.at d with heap:=w1.heap.push og})).setIfInBounds 0 (gorS f1 [] g')) (by simp) (fun i hi=>by
  obtain⟨y,hy,hqy⟩:=e4.old i hi
  rw[get_map_set _ _ _ _ (by omega),hy,Option.map_some,woken_quitsD hqy])
 have hws:(w1.at d).heap.size=w.heap.size:=by show w1.heap.size=_;rw[e3]
 rw[hws] at hmade
 have hpr:=hM.priv
 have hbelow:∀i,i<v.heap.size→f i<w.heap.size:=fun i hi=>hpr.below hi
 refine⟨N+1,_,{w1.at d with heap:=w1.heap.push og},sl2,_,q1,f1,?_,⟨hmade,⟨hok,fun a b ha hb e=>?_,fun g0 hg0=>?_,⟨fun b x hb=>?_,fun b x hb=>?_⟩,fun b x hb=>?_⟩,?_,fun b hb=>?_⟩,?_,hf1,hf2,e5.norel,?_⟩
 .have e0:MemOp.ofEvents 0 (gorS f [] g).frame.fn (gorS f [] g).frame.place #[]=#[]:=by rw[ofEvents_eq];simp
  rw[e0] at hrun
  have key:∀(n:Nat) (m m1:Machine) (t0 t2:Trace),runNT P n m t0=(.next m1,t2)→∀m2,stepT P m1=(.next m2,#[])→runNT P (n+1) m t0=(.next m2,t2):=by
   intro n
   induction n with
   |zero=>
    intro m m1 t0 t2 h m2 h2
    simp only[runNT,Prod.mk.injEq,Stepped.next.injEq] at h
    obtain⟨rfl,rfl⟩:=h
    simp only[runNT,h2,Array.append_empty]
   |succ n ih=>
    intro m m1 t0 t2 h m2 h2
    unfold runNT at h⊢
    generalize hq:stepT P m=z at h⊢
    obtain⟨z,u⟩:=z
    cases z with
    |next m3=>exact ih m3 m1 _ _ h m2 h2
    |ended oc w3=>simp at h
  exact key N _ _ _ _ e1 _ (by rw[e6];exact hrun)
 .
  simp only[Array.size_push] at ha hb
  rcases Nat.lt_or_ge a v.heap.size with h1|h1<;>rcases Nat.lt_or_ge b v.heap.size with h2|h2
  .rw[hf1 a h1,hf1 b h2] at e;exact hpr.inj a b h1 h2 e
  .obtain rfl:b=v.heap.size:=by omega
   rw[hf1 a h1,hf2] at e
   have:=hbelow a h1;omega
  .obtain rfl:a=v.heap.size:=by omega
   rw[hf1 b h2,hf2] at e
   have:=hbelow b h2;omega
  .omega
 .rw[hf1 g0 (Nat.lt_of_lt_of_le hg0 hpr.ok.glob)];exact hpr.fix g0 hg0
 .simp only[Array.getElem?_push] at hb
  split at hb
  .obtain rfl:=Option.some.inj hb
   rcases hog with h|h<;>cases og<;>first|(cases h;done)|exact trivial
  .exact hpr.sim.good b x hb
 .simp only[Array.getElem?_push] at hb
  split at hb
  .rename_i hbe
   obtain rfl:=Option.some.inj hb
   subst hbe
   refine⟨og,?_,?_⟩
   .rw[hf2]
    show(w1.heap.push og)[w.heap.size]?=_
    rw[e3];simp
   .cases og<;>first|(rcases hog with h|h<;>cases h;done)|skip
    .exact⟨_,_,rfl,fun h=>(by cases h)⟩
    .exact⟨_,_,_,_,_,_,rfl⟩
  .rename_i hbe
   have hlt':b<v.heap.size:=(Array.getElem?_eq_some_iff.1 hb).1
   obtain⟨o',h4,h5⟩:=hpr.sim.block b x hb
   refine⟨o',?_,h5.congr ((hpr.ok.bound frId frId f f1 ⟨fun i hi=>(hf1 i hi).symm,fun _ _=>rfl⟩).2 b x hb)⟩
   rw[hf1 b hlt']
   show(w1.heap.push og)[f b]?=_
   rw[e3]
   have:=hbelow b hlt'
   simp only[Array.getElem?_push]
   rw[if_neg (by omega)]
   exact h4
 .simp only[Array.getElem?_push] at hb
  split at hb
  .rename_i hbe
   obtain rfl:=Option.some.inj hb
   subst hbe
   rw[hf2]
   cases og<;>first|(rcases hog with h|h<;>cases h;done)|skip
   .exact .inr (.inl rfl)
   .exact .inr (.inr (.inr ⟨.inr ⟨rfl,rfl⟩,rfl⟩))
  .have hlt':b<v.heap.size:=(Array.getElem?_eq_some_iff.1 hb).1
   have h1:=hbelow b hlt'
   rw[hf1 b hlt']
   rcases hpr.held b x hb with h|h|h|⟨h2,h3⟩
   .refine .inl ⟨⟨⟨?_,fun hs=>?_⟩,h.1.2⟩,h.2⟩
    .show f b<(w1.heap.push og).size
     rw[Array.size_push,e3];omega
    .rcases hs with hs|hs
     .exact h.1.1.2 hs
     .omega
   .exact .inr (.inl h)
   .exact .inr (.inr (.inl h))
   .exact .inr (.inr (.inr ⟨.inl h2,h3⟩))
 .rw[get_map_set_same _ _ _ hlt]
 .rcases hb with hb|⟨hb,_⟩
  .exact .inl (hM.shr b hb)
  .exact .inr hb
 .show w1.heap.push og=_
  rw[e3]
 .exact(congrArg (fun x:World=>({x.at d with heap:=w1.heap.push og}:World)) e5.same).trans rfl
end
section
variable[M:Mps][E:Ext]
def frzO:Obj→Obj
 |.cells c e fr=>.cells c e (0,max c.size fr.2)
 |.chan a b c d e f=>.chan a b c d e f
 |_=>.coro none
open Classical in
noncomputable def frz(A:Nat→Prop)(v:World):World:={v with heap:=v.heap.mapIdx fun b x=>if A b then frzO x else x}
theorem frz_size(A:Nat→Prop)(v:World):(frz A v).heap.size=v.heap.size:=by simp[frz]
theorem frz_get{A:Nat→Prop}{v:World}{b:Nat}{x:Obj}(h:(frz A v).heap[b]?=some x):∃x0,v.heap[b]?=some x0∧((A b∧x=frzO x0)∨(¬A b∧x=x0)):=by
 simp only[frz,Array.getElem?_mapIdx] at h
 obtain⟨x0,h1,h2⟩:=Option.map_eq_some_iff.1 h
 refine⟨x0,h1,?_⟩
 by_cases hA:A b
 .rw[if_pos hA] at h2;exact .inl ⟨hA,h2.symm⟩
 .rw[if_neg hA] at h2;exact .inr ⟨hA,h2.symm⟩
theorem frz_at{A:Nat→Prop}{v:World}{b:Nat}{x0:Obj}(h:v.heap[b]?=some x0)(hA:A b):(frz A v).heap[b]?=some (frzO x0):=by
 simp[frz,h,hA]
theorem frz_out{A:Nat→Prop}{v:World}{b:Nat}(hA:¬A b):(frz A v).heap[b]?=v.heap[b]?:=by
 simp only[frz,Array.getElem?_mapIdx,if_neg hA]
 cases v.heap[b]?<;>rfl
section
variable[Spc]{P:Program}{S:FuncId→Prop}{Hid:Nat→Prop}{A:Nat→Prop}{f:Nat→Nat}{g:Goroutine}{v w:World}{Ro own:Nat→Prop}
theorem frzO_nv{K:Kd}{x:Obj}(h:(chanB x=true∨plain x=true)∧GoodObj K x):(chanB (frzO x)=true∨plain (frzO x)=true)∧GoodObj K (frzO x):=by
 cases x<;>first|exact⟨.inl rfl,trivial⟩|exact⟨.inr rfl,trivial⟩
theorem frzO_obj{H H':Fr}{h h':Nat→Nat}{x:Obj}(e:@obj _ H noExt h x=@obj _ H' noExt h' x):@obj _ H noExt h (frzO x)=@obj _ H' noExt h' (frzO x):=by
 cases x with
 |cells c t fr=>
  obtain⟨e1,_⟩:=Obj.cells.inj e
  show Obj.cells _ t _=Obj.cells _ t _
  rw[e1]
 |_=>rfl
theorem Ok.frz(h:Ok P S g v):Ok P S g (frz A v):=by
 refine⟨fun b x hb=>?_,h.gok,h.run,h.up,by rw[frz_size];exact h.glob,fun H H' e e' ha=>?_,fun H H' e ha b x hb=>?_⟩
 .obtain⟨x0,h1,h2|h2⟩:=frz_get hb
  .rw[h2.2];exact frzO_nv (h.nv b x0 h1)
  .rw[h2.2];exact h.nv b x0 h1
 .rw[frz_size] at ha
  obtain⟨h1,h2⟩:=h.bound H H' e e' ha
  refine⟨h1,fun b x hb=>?_⟩
  obtain⟨x0,h3,h4|h4⟩:=frz_get hb
  .rw[h4.2];exact frzO_obj (h2 b x0 h3)
  .rw[h4.2];exact h2 b x0 h3
 .obtain⟨x0,h3,h4|h4⟩:=frz_get hb
  .rw[h4.2];exact frzO_obj (h.clean H H' e ha b x0 h3)
  .rw[h4.2];exact h.clean H H' e ha b x0 h3
theorem frzO_stands{x o':Obj}(hn:∀a l,x≠.number a l)(h:Stands f x o'):Stands f (frzO x) o':=by
 cases x with
 |cells c e fr=>
  obtain⟨c',fr',rfl,h2⟩:=h
  refine⟨c',fr',rfl,fun hc=>?_⟩
  obtain⟨h3,h4⟩:=h2 hc
  exact⟨h3,fun y hy=>⟨Nat.zero_le _,Nat.lt_of_lt_of_le (h4 y hy).2 (Nat.le_max_right _ _)⟩⟩
 |chan=>exact h
 |coro=>exact h
 |number a l=>exact absurd rfl (hn a l)
 |_=>first|(obtain⟨_,rfl⟩:=h;exact rfl)|(have e:=h.1;cases e;done)
theorem Priv.freeze{Z Shr:Nat→Prop}(h:Priv P S Z (mine Z Shr w) Hid f g v w)(hZ:∀b,Z b→Ro b)(hA:∀b x,A b→v.heap[b]?=some x→(∀a l,x≠.number a l)∧(x.isChan=true→Hid (f b)))(hRo:∀b,A b→b<v.heap.size→mine Z Shr w (f b)→Ro (f b))(hown:∀b,¬A b→b<v.heap.size→mine Z Shr w (f b)→own (f b)):Priv P S Ro own Hid f g (Crew.frz A v) w:=by
 refine⟨Ok.frz h.ok,by rw[frz_size];exact h.inj,h.fix,⟨fun b x hb=>?_,fun b x hb=>?_⟩,fun b x hb=>?_⟩
 .exact(Ok.frz (A:=A) h.ok).nv b x hb |>.2
 .obtain⟨x0,h1,h2⟩:=frz_get hb
  obtain⟨o',h3,h4⟩:=h.sim.block b x0 h1
  refine⟨o',h3,?_⟩
  rcases h2 with⟨h2,rfl⟩|⟨_,rfl⟩
  .exact frzO_stands (hA b x0 h2 h1).1 h4
  .exact h4
 .obtain⟨x0,h1,h2⟩:=frz_get hb
  have hlt:=(Array.getElem?_eq_some_iff.1 h1).1
  rcases h2 with⟨h2,rfl⟩|⟨h2,rfl⟩
  .by_cases hg:goneB (frzO x0)=true
   .exact .inr (.inl hg)
   by_cases hch:x0.isChan=true
   .refine .inr (.inr (.inr ⟨(hA b x0 h2 h1).2 hch,?_⟩))
    cases x0<;>first|(cases hch;done)|rfl
   .rcases h.held b x0 h1 with h5|h5|⟨h5,_⟩|⟨_,h5⟩
    .refine .inr (.inr (.inl ⟨hRo b h2 hlt h5.1,?_⟩))
     cases x0<;>first|exact .inl ⟨_,_,_,rfl,Nat.le_max_left _ _⟩|exact absurd rfl hch|exact .inr ⟨none,rfl⟩
    .cases x0<;>first|(cases h5;done)|exact absurd h5 hg
    .refine .inr (.inr (.inl ⟨hZ _ h5,?_⟩))
     cases x0<;>first|exact .inl ⟨_,_,_,rfl,Nat.le_max_left _ _⟩|exact absurd rfl hch|exact .inr ⟨none,rfl⟩
    .exact absurd h5 hch
  .rcases h.held b _ h1 with h5|h5|⟨h5,h5'⟩|h5
   .exact .inl ⟨hown b h2 hlt h5.1,h5.2⟩
   .exact .inr (.inl h5)
   .exact .inr (.inr (.inl ⟨hZ _ h5,h5'⟩))
   .exact .inr (.inr (.inr h5))
theorem Mirror.leave{Z Z' Shr:Nat→Prop}{o:Nat}{gs:Array Goroutine}{t:Trace}{q:Nat→Nat}(hM:Mirror P S Z Shr Hid o f g v gs w t q)(hA:∀b x,A b→v.heap[b]?=some x→(∀a l,x≠.number a l)∧(x.isChan=true→Hid (f b)))(hZ:∀b,Z b→Z' b)(hZ':∀b,Z' b→rest Shr w b)(hRo:∀b,A b→b<v.heap.size→mine Z Shr w (f b)→Z' (f b))(hown:∀b,¬A b→b<v.heap.size→mine Z Shr w (f b)→¬Z' (f b)):Mirror P S Z' Shr Hid o f g (frz A v) gs w t q:=
 ⟨hM.calm.all hZ',Priv.freeze hM.priv hZ hA hRo fun b hb hlt hm=>⟨hm.1,hown b hb hlt hm⟩,hM.at0,hM.shr⟩
end
end
open Classical in
noncomputable def unfrz(A:Nat→Prop)(v v':World):World:={v' with heap:=v'.heap.mapIdx fun b x=>if A b∧b<v.heap.size then(v.heap[b]?).getD x else x}
theorem unfrz_size(A:Nat→Prop)(v v':World):(unfrz A v v').heap.size=v'.heap.size:=by simp[unfrz]
theorem unfrz_get{A:Nat→Prop}{v v':World}{b:Nat}{x:Obj}(h:(unfrz A v v').heap[b]?=some x):(A b∧v.heap[b]?=some x)∨(¬(A b∧b<v.heap.size)∧v'.heap[b]?=some x):=by
 simp only[unfrz,Array.getElem?_mapIdx] at h
 obtain⟨x0,h1,h2⟩:=Option.map_eq_some_iff.1 h
 by_cases hA:A b∧b<v.heap.size
 .rw[if_pos hA] at h2
  refine .inl ⟨hA.1,?_⟩
  rw[Array.getElem?_eq_getElem hA.2] at h2⊢
  exact congrArg some h2
 .rw[if_neg hA] at h2
  exact .inr ⟨hA,by rw[←h2];exact h1⟩
section
variable[Spc]{P:Program}{S:FuncId→Prop}{Hid Hid' Z Shr Shr':Nat→Prop}{A:Nat→Prop}{f f':Nat→Nat}{g g':Goroutine}{v v' w w':World}{Ro own':Nat→Prop}
theorem Priv.restore(h0:Priv P S Z (mine Z Shr w) Hid f g v w)(hZ:∀b,Z b→Ro b)(h1:Priv P S Ro own' Hid' f' g' v' w')(hsz:v.heap.size≤v'.heap.size)(hag:∀i,i<v.heap.size→f' i=f i)(hw:∀b,Ro b→w'.heap[b]?=w.heap[b]?)(hcl:StayCells w w')(hch:StayW w w')(hRo:∀b,A b→b<v.heap.size→mine Z Shr w (f b)→Ro (f b))(hRo':∀b,Ro b→rest Shr' w' b)(hown':∀b,own' b→mine Z Shr' w' b)(hHid:∀b,Hid b→Hid' b):Priv P S Z (mine Z Shr' w') Hid' f' g' (unfrz A v v') w':=by
 refine⟨⟨fun b x hb=>?_,h1.ok.gok,h1.ok.run,h1.ok.up,by rw[unfrz_size];exact h1.ok.glob,fun H H' e e' ha=>?_,fun H H' e ha b x hb=>?_⟩,by rw[unfrz_size];exact h1.inj,h1.fix,⟨fun b x hb=>?_,fun b x hb=>?_⟩,fun b x hb=>?_⟩
 .rcases unfrz_get hb with⟨_,h2⟩|⟨_,h2⟩
  .exact h0.ok.nv b x h2
  .exact h1.ok.nv b x h2
 .rw[unfrz_size] at ha
  obtain⟨h2,h3⟩:=h1.ok.bound H H' e e' ha
  refine⟨h2,fun b x hb=>?_⟩
  rcases unfrz_get hb with⟨_,h4⟩|⟨_,h4⟩
  .exact(h0.ok.bound H H' e e' (ha.mono hsz)).2 b x h4
  .exact h3 b x h4
 .rcases unfrz_get hb with⟨_,h4⟩|⟨_,h4⟩
  .exact h0.ok.clean H H' e ha b x h4
  .exact h1.ok.clean H H' e ha b x h4
 .rcases unfrz_get hb with⟨_,h2⟩|⟨_,h2⟩
  .exact(h0.ok.nv b x h2).2
  .exact(h1.ok.nv b x h2).2
 .rcases unfrz_get hb with⟨hA,h2⟩|⟨_,h2⟩
  .have hlt:=(Array.getElem?_eq_some_iff.1 h2).1
   obtain⟨o',h3,h4⟩:=h0.sim.block b x h2
   have hobj:obj f x=obj f' x:=(h0.ok.bound frId frId f f' ⟨fun i hi=>(hag i hi).symm,fun _ _=>rfl⟩).2 b x h2
   rw[hag b hlt]
   rcases h0.held b x h2 with h5|h5|⟨h5,_⟩|⟨_,h5⟩
   .exact⟨o',by rw[hw _ (hRo b hA hlt h5.1)];exact h3,h4.congr hobj⟩
   .cases x<;>first|(cases h5;done)|skip
    obtain⟨c',fr',e1,_⟩:=h4
    subst e1
    obtain⟨c2,fr2,h6⟩:=hcl _ _ _ _ h3
    refine⟨_,h6,c2,fr2,rfl,fun hne=>?_⟩
    rw[show Array.isEmpty _=true from h5] at hne;cases hne
   .exact⟨o',by rw[hw _ (hZ _ h5)];exact h3,h4.congr hobj⟩
   .have hh:=hidSt_of (by cases x<;>first|rfl|(cases h5;done)) h4
    obtain⟨o2,h6,h7⟩:=hch.chan _ _ h3 (hh.isChan▸h5)
    exact⟨o2,h6,stands_hid (.inl ⟨h5,h7⟩)⟩
  .exact h1.sim.block b x h2
 .rcases unfrz_get hb with⟨hA,h2⟩|⟨_,h2⟩
  .have hlt:=(Array.getElem?_eq_some_iff.1 h2).1
   rw[hag b hlt]
   rcases h0.held b x h2 with h5|h5|h5|⟨h5,h6⟩
   .exact .inl ⟨⟨hRo' _ (hRo b hA hlt h5.1),h5.1.2⟩,h5.2⟩
   .exact .inr (.inl h5)
   .exact .inr (.inr (.inl h5))
   .exact .inr (.inr (.inr ⟨hHid _ h5,h6⟩))
  .rcases h1.held b x h2 with h5|h5|⟨h5,h5'⟩|h5
   .exact .inl ⟨hown' _ h5.1,h5.2⟩
   .exact .inr (.inl h5)
   .by_cases hz:Z (f' b)
    .exact .inr (.inr (.inl ⟨hz,h5'⟩))
    .exact .inl ⟨⟨hRo' _ h5,hz⟩,by
      rcases h5' with⟨_,_,_,rfl,_⟩|⟨_,rfl⟩<;>rfl⟩
   .exact .inr (.inr (.inr h5))
end
open Go.ConcR (wgBlock rd wr mk)
theorem OnWay.mono{P:Program}{Ro:Nat→Prop}{Live:World→Prop}{m:Bool}{k k':Kind}(hq:k.quiet=k'.quiet)(hX:k.X=k'.X)(h:∀g w own,k.Stop g w own→k'.Stop g w own){a:Rank}(hw:OnWay P Ro Live m k a):OnWay P Ro Live m k' a:=by
 obtain⟨g,w,own⟩:=a
 have h0:Ren.Way P m Ro Live k.quiet k.X k.Stop g w own:=hw
 show Ren.Way P m Ro Live k'.quiet k'.X k'.Stop g w own
 rw[←hq,←hX]
 clear hw
 induction h0 with
 |stop hs h1=>exact .stop hs fun w1 hr hl=>h _ _ _ (h1 w1 hr hl)
 |step hs G W E he _ ih=>exact .step hs G W E he fun w1 hr hl=>ih w1 hr hl
def kZ(Stop:Stops):Kind:=⟨true,fun _=>False,Stop⟩
def Here(gT:Goroutine)(own:Nat→Prop):Stops:=fun g _ o=>g=gT∧o=own
section
variable[Hidden]{P:Program}{ty:TypeId}{Wg Ch:Nat}{Ro:Nat→Prop}{Anch Anch' Done Done':Stops}
theorem monoM{Live:World→Prop}{s s':Stops}{a:Rank}(hw:OnWay P Ro Live true (kM Wg s) a)(h:∀g w own,s g w own→s' g w own):OnWay P Ro Live true (kM Wg s') a:=
 OnWay.mono (k:=kM Wg s) (k':=kM Wg s') rfl rfl h hw
theorem SAcq.mono(h:∀g w own,Done g w own→Done' g w own){g w own}(hs:SAcq P Wg Done g w own):SAcq P Wg Done' g w own:=by
 obtain⟨g',h1,h2,h3⟩:=hs
 exact⟨g',h1,h2,h _ _ _ h3⟩
theorem SKe.mono(h:∀g w own,Done g w own→Done' g w own){g w own}(hs:SKe P ty Wg Ch Ro Done g w own):SKe P ty Wg Ch Ro Done' g w own:=by
 obtain⟨g',h1,h2⟩:=hs
 exact⟨g',h1,monoM h2 (fun _ _ _=>SAcq.mono h)⟩
theorem SW4.mono(h:∀g w own,Done g w own→Done' g w own){g w own}(hs:SW4 P ty Wg Ch Ro Done g w own):SW4 P ty Wg Ch Ro Done' g w own:=fun hw=>by
 obtain⟨g',h1,h2⟩:=hs hw
 exact⟨g',h1,monoM h2 (fun _ _ _=>SKe.mono h)⟩
theorem SW3.mono(h:∀g w own,Done g w own→Done' g w own){g w own}(hs:SW3 P ty Wg Ch Ro Done g w own):SW3 P ty Wg Ch Ro Done' g w own:=by
 obtain⟨h1,h2,h3,h4⟩:=hs
 refine⟨h1,h2,h3,fun hw=>?_⟩
 obtain⟨g',h5,h6⟩:=h4 hw
 exact⟨g',h5,monoM h6 (fun _ _ _=>SW4.mono h)⟩
theorem SW2.mono(ha:∀g w own,Anch g w own→Anch' g w own)(h:∀g w own,Done g w own→Done' g w own){vs:Nat}{g w own}(hs:SW2 P ty Wg Ch Ro Anch Done vs g w own):SW2 P ty Wg Ch Ro Anch' Done' vs g w own:=fun v hv hw=>by
 obtain⟨h1,h2⟩:=hs v hv hw
 refine⟨fun e=>?_,fun e=>?_⟩
 .obtain⟨g',h5,h6⟩:=h1 e
  exact⟨g',h5,monoM h6 (fun _ _ _=>SW3.mono h)⟩
 .obtain⟨g',h5,h6⟩:=h2 e
  exact⟨g',h5,monoM h6 (ha)⟩
theorem SW1.mono(ha:∀g w own,Anch g w own→Anch' g w own)(h:∀g w own,Done g w own→Done' g w own){g w own}(hs:SW1 P ty Wg Ch Ro Anch Done g w own):SW1 P ty Wg Ch Ro Anch' Done' g w own:=fun v hv hw=>by
 obtain⟨g',h1,h2,h3⟩:=hs v hv hw
 exact⟨g',h1,fun e=>monoM (h2 e) (fun _ _ _=>SKe.mono h),fun e=>monoM (h3 e) (fun _ _ _=>SW2.mono ha h)⟩
theorem SKd.mono(ha:∀g w own,Anch g w own→Anch' g w own){g w own}(hs:SKd P ty Wg Ch Ro Anch g w own):SKd P ty Wg Ch Ro Anch' g w own:=by
 obtain⟨g',h1,h2⟩:=hs
 exact⟨g',h1,monoM h2 (ha)⟩
end
section
variable[Spc][Hidden]{P:Program}{S:FuncId→Prop}{Z Shr Hid:Nat→Prop}{o:Nat}
def FinAt(P:Program)(S:FuncId→Prop)(Ro Hid:Nat→Prop)(w:World)(n0:Nat)(f:Nat→Nat)(End:Goroutine→World→Prop):Stops:=fun g1 w1 own1=>
 ∃(f':Nat→Nat) (g':Goroutine) (v':World),End g' v'∧Priv P S Ro own1 Hid f' g' v' w1∧OnWay P Ro (fun _=>True) true (kZ (Here (gorS f' [] g') own1)) ⟨g1,w1,own1⟩ ∧
  Rely Ro (fun _=>False) w w1∧(∀i,i<n0→f' i=f i)∧n0≤v'.heap.size
theorem runNT_app{P:Program}:∀(n k:Nat) (m m1:Machine) (t t1:Trace) (r:Stepped×Trace),runNT P n m t=(.next m1,t1)→runNT P k m1 t1=r→runNT P (n+k) m t=r:=by
 intro n
 induction n with
 |zero=>
  intro k m m1 t t1 r h h2
  simp only[runNT,Prod.mk.injEq,Stepped.next.injEq] at h
  obtain⟨rfl,rfl⟩:=h
  rw[Nat.zero_add];exact h2
 |succ n ih=>
  intro k m m1 t t1 r h h2
  rw[show n+1+k=(n+k)+1 by omega]
  unfold runNT at h⊢
  generalize hq:stepT P m=z at h⊢
  obtain⟨z,u⟩:=z
  cases z with
  |next m3=>exact ih k m3 m1 _ _ r h h2
  |ended oc w3=>simp at h
theorem Mirror.crew{ty:TypeId}{Wg Ch n cap rz:Nat}{tm:Bool}{Anch:Stops}{pay:Nat→Option Pay}{A Ro own:Nat→Prop}{End:Goroutine→World→Prop}{f:Nat→Nat}{g:Goroutine}{v w:World}{gs:Array Goroutine}{t:Trace}{q:Nat→Nat}(hM:Mirror P S Z Shr Hid o f g v gs w t q)(sl:Option (Nat×Nat))(hHid:∀b,Hidden.ch b→Shr b)(hZ:∀b,Z b→Ro b)(hRo:∀b,Ro b→rest Shr w b)(hown:∀b,own b→rest Shr w b∧¬Ro b)(hA:∀b,A b→b<v.heap.size→mine Z Shr w (f b)→Ro (f b))(hshr:Shr Wg∧Shr Ch)(hCW:Ch≠Wg)(hwg:WgAt ty Wg w 0 0)(hch:w.heap[Ch]?=some (.chan cap #[] false 0 rz tm))(hno:NoRelease (stA Wg) t)(hcap:n≤cap)(hn:n<2147483648)(hpay:∀i,i<o→pay i=none)(hpst:∀i p,pay i=some p→∀v w w1 own,p v w own→Rely Ro own w w1→p v w1 own)(hsp:Spawns P ty Wg Ch Ro (o+n) Anch pay n ⟨gorS f [] g,w,own⟩)(hAn:∀g1 w1 own1,Anch g1 w1 own1→OnWay P Ro (Live ty Wg Ch) true (kM Wg (SW1 P ty Wg Ch Ro Anch (FinAt P S Ro Hid w v.heap.size f End))) ⟨g1,w1,own1⟩):∃(N:Nat) (gs':Array Goroutine) (w':World) (sl':Option (Nat×Nat)) (t':Trace) (q':Nat→Nat) (f':Nat→Nat) (g':Goroutine) (v':World) (sent:List Nat) (vl:Nat→Value) (ow:Nat→Nat→Prop),runNT P N (crowd gs w sl) t=(.next (crowd gs' w' sl'),t')∧End g' v'∧Mirror P S Z Shr Hid (o+n) f' g' (unfrz A v v') gs' w' t' q'∧(∀i,i<v.heap.size→f' i=f i)∧v.heap.size≤v'.heap.size∧w'.heap[Ch]?=some (.chan cap ((sent.map vl).toArray) false sent.length rz tm)∧sent.Nodup∧(∀i,i∈sent↔i<o+n∧(pay i).isSome=true)∧Rely Z (fun _=>False) w w'∧(∀i,i∈sent→∀p,pay i=some p→p (vl i) w' (ow i))∧(∀i b,ow i b→mine Z Shr w' b∧∀k x,v'.heap[k]?=some x→goneB x=false→f' k≠b)∧∀i i' b,ow i b→ow i' b→i=i':=by
 have hc:=hM.calm.split hRo hown
 obtain⟨x,hI,_⟩:=hc.enter (ty:=ty) (Wg:=Wg) (Ch:=Ch) (cap:=cap) (rz:=rz) (tm:=tm) (Done:=FinAt P S Ro Hid w v.heap.size f End) (a:=⟨gorS f [] g,w,own⟩) (r:=n) hM.at0 (Rely.refl _ _ _) hsp hshr hHid hwg hch hno hpay hpst
 obtain⟨N1,gs1,w1,sl1,t1,x1,r1,hO⟩:=crew_runs hCW (by omega) (by omega) hAn _ x rfl gs w sl t 0 0 hI
 have hC1:=hO.calm
 obtain⟨a,ha,hag,har,f1,g1,v1,d1,d2,d3,d4,d5,d6⟩:=hO.main
 obtain⟨N2,gs2,a2,w2,sl2,t2,q2,e1,e2,e3,e4,e5,e6,e7,e8,_,e10⟩:=beside_calm (Live:=fun _=>True) (fun _ _ _ h=>h) (k:=kZ (Here (gorS f1 [] g1) (x1.own 0))) (fun e he=>he.elim) d3 (sumTo (o+n) fun i=>(x1.D i).fuel) gs1 w1 sl1 t1 _ (Nat.le_refl _) ha (Rely.refl _ _ _) trivial hC1
 obtain⟨h1,h2⟩:=e4 w2 e5 trivial
 have hheap:w2.heap=w1.heap:=e10 rfl
 have hR:Rely Ro (x1.own 0) w1 w2:=⟨by rw[hheap];exact Nat.le_refl _,fun b _ _=>by rw[hheap],.of hheap,⟨.of hheap,by rw[e7.same],by rw[e7.same]⟩⟩
 obtain⟨p1,_,p3⟩:=d2.rely hR []
 rw[h2] at e6
 refine⟨N1+N2,gs2,w2,sl2,t2,q2,rebase f1 v1 w2,g1,v1,x1.sent,x1.val,fun i=>x1.own (i+1),runNT_app N1 N2 _ _ _ _ _ r1 e1,d1,⟨e6.all fun b hb=>⟨by rw[hheap];exact Nat.lt_of_lt_of_le (hM.alone b hb).1 d4.size,(hM.alone b hb).2⟩,?_,by rw[e2,h1,p3],hM.shr⟩,fun i hi=>(rebase_lt (Nat.lt_of_lt_of_le hi d6)).trans (d5 i hi),d6,by rw[hheap];exact hO.chan,hO.nodup,hO.sentOf,⟨Nat.le_trans d4.size hR.size,fun b hb ho=>ho.elim (fun h=>(hR.keep b (Nat.lt_of_lt_of_le hb d4.size) (.inl (hZ b h))).trans (d4.keep b hb (.inl (hZ b h)))) fun h=>h.elim,d4.cells.trans hR.cells,d4.chans.trans hR.chans⟩,fun i hi p hp=>hpst i p hp _ _ _ _ (hO.pays i hi p hp) ⟨by rw[hheap];exact Nat.le_refl _,fun b _ _=>by rw[hheap],hR.cells,hR.chans⟩,fun i b hb=>⟨⟨⟨by rw[hheap];exact hO.base.ownLow _ b hb,(hO.base.ap.free _ b hb).2⟩,fun hz=>(hO.base.ap.free _ b hb).1 (hZ b hz)⟩,fun k x hk hg e=>?_⟩,fun i i' b h1 h2=>by have:=hO.base.ap.one _ _ b h1 h2;omega⟩
 rotate_left
 .rcases p1.held k x hk with h3|h3|h3|h3
  .rw[e] at h3
   have:=hO.base.ap.one _ _ b h3.1 hb;omega
  .rw[hg] at h3;cases h3
  .rw[e] at h3;exact(hO.base.ap.free _ b hb).1 h3.1
  .rw[e] at h3;exact(hO.base.ap.free _ b hb).2 (hM.shr b h3.1)
 refine Priv.restore hM.priv hZ p1 d6 (fun i hi=>(rebase_lt (Nat.lt_of_lt_of_le hi d6)).trans (d5 i hi)) (fun b hb=>?_) (d4.cells.trans hR.cells) (d4.chans.trans hR.chans) hA (fun b hb=>⟨?_,(hRo b hb).2⟩) (fun b hb=>⟨⟨e6.base.ownLow 0 b ⟨rfl,hb⟩,(e6.base.ap.free 0 b ⟨rfl,hb⟩).2⟩,fun hz=>(e6.base.ap.free 0 b ⟨rfl,hb⟩).1 (hZ b hz)⟩) fun b h=>h
 .rw[hheap];exact d4.keep b (hRo b hb).1 (.inl hb)
 .rw[hheap];exact Nat.lt_of_lt_of_le (hRo b hb).1 d4.size
end
section
variable{P:Program}{Ro Shr:Nat→Prop}{o:Nat}{own:Nat→Prop}{gs:Array Goroutine}{w w':World}{t:Trace}{q:Nat→Nat}
theorem Calm.put1(h:Calm P Ro Shr o own gs w t q)(hs:w'.heap.size=w.heap.size)(hb:∀b,¬Shr b→w'.heap[b]?=w.heap[b]?)(hcl:StayCells w w')(hch:StayW w w'){u:Trace}(hu:∀op∈u,op.g=0∧(∀x,op.act.touch? =some x→ShL Shr x.loc∧x.kind=.atomic)∧op.act.low w.heap.size)(hd:Deaf (t++u) 0=0){gs':Array Goroutine}(hsz:gs'.size=gs.size)(hgs:∀i,i<o→gs'[i+1]?=gs[i+1]?):Calm P Ro Shr o own gs' w' (t++u) q:=by
 obtain⟨b1,_⟩:=h.base.shared (i:=0) (Nat.zero_le _) hs hb hcl hch (u:=u) hu
 refine⟨b1,h.eld.app fun op hop=>.inl (hu op hop).1,hd,by rw[hsz];exact h.size,fun i hi=>?_⟩
 obtain⟨g,hg,hq⟩:=h.old i hi
 exact⟨g,by rw[hgs i hi];exact hg,by rw[Deaf_other t (g':=0) (by omega) _ (fun op hop=>(hu op hop).1)];exact hq⟩
theorem at_same{w w1:World}(h:w1={w with heap:=w1.heap,drawn:=w1.drawn})(hh:w1.heap=w.heap)(d:Nat):w1.at d=w.at d:=by
 rw[h,hh];rfl
theorem mine_same{Z Shr:Nat→Prop}{w w':World}(h:w'.heap.size=w.heap.size):mine Z Shr w'=mine Z Shr w:=by
 funext b;simp only[mine,rest,h]
end
section
variable[Spc]{P:Program}{S:FuncId→Prop}{Z Shr Hid:Nat→Prop}{o:Nat}{f:Nat→Nat}{g g':Goroutine}{v w w':World}{gs gs':Array Goroutine}{t t':Trace}{q q':Nat→Nat}
theorem Mirror.same(hM:Mirror P S Z Shr Hid o f g v gs w t q)(hc:Calm P Z Shr o (mine Z Shr w) gs' w' t' q')(hs:w'.heap.size=w.heap.size)(hb:∀b,¬Shr b→w'.heap[b]?=w.heap[b]?)(hcl:StayCells w w')(hch:StayW w w')(hok:Ok P S g' v)(h0:gs'[0]?=some (gorS f [] g')):Mirror P S Z Shr Hid o f g' v gs' w' t' q':=by
 have hp:=hM.priv
 have hr:=mine_same (Z:=Z) (Shr:=Shr) hs
 refine⟨by rw[hr];exact hc,⟨hok,hp.inj,hp.fix,⟨hp.sim.good,fun b x hx=>?_⟩,by rw[hr];exact hp.held⟩,h0,hM.shr⟩
 obtain⟨o',h3,h4⟩:=hp.sim.block b x hx
 rcases hp.held b x hx with h5|h5|⟨h5,_⟩|⟨_,h5⟩
 .exact⟨o',by rw[hb _ h5.1.1.2];exact h3,h4⟩
 .cases x<;>first|(cases h5;done)|skip
  obtain⟨c',fr',e1,_⟩:=h4
  subst e1
  obtain⟨c2,fr2,h6⟩:=hcl _ _ _ _ h3
  refine⟨_,h6,c2,fr2,rfl,fun hne=>?_⟩
  rw[show Array.isEmpty _=true from h5] at hne;cases hne
 .exact⟨o',by rw[hb _ (hM.alone _ h5).2];exact h3,h4⟩
 .have hh:=hidSt_of (by cases x<;>first|rfl|(cases h5;done)) h4
  obtain⟨o2,h6,h7⟩:=hch.chan _ _ h3 (hh.isChan▸h5)
  exact⟨o2,h6,stands_hid (.inl ⟨h5,h7⟩)⟩
theorem Mirror.turn(hM:Mirror P S Z Shr Hid o f g v gs w t q)(sl:Option (Nat×Nat)){H:Array Obj}{es:Array Event}(hst:∀d,stepG P true (gorS f [] g) (w.at d)=.go (gorS f [] g') {w.at d with heap:=H} es)(hs:H.size=w.heap.size)(hb:∀b,¬Shr b→H[b]?=w.heap[b]?)(hcl:StayCells w {w with heap:=H})(hch:StayW w {w with heap:=H})(hes:∀e∈es,(∀x,(MemAct.ofEvent e).touch? =some x→ShL Shr x.loc∧x.kind=.atomic)∧(MemAct.ofEvent e).low w.heap.size∧e.loc≠.mark .disable∧e.loc≠.mark .enable)(hok:Ok P S g' v):∃(N:Nat) (gs':Array Goroutine) (w':World) (sl':Option (Nat×Nat)) (t':Trace) (q':Nat→Nat),runNT P N (crowd gs w sl) t=(.next (crowd gs' w' sl'),t')∧Mirror P S Z Shr Hid o f g' v gs' w' t' q'∧w'.heap=H∧w'={w with heap:=w'.heap,drawn:=w'.drawn}:=by
 obtain⟨N,gs1,d,sl1,sl2,w1,t1,q1,e1,e2,e3,e4,e5,e6⟩:=calm_turn (P:=P) (a:=gorS f [] g) (show(gorS f [] g).status=.running from hM.priv.ok.run) (sumTo o q) gs w sl t q (Nat.le_refl _) hM.at0 hM.calm
 have hat:=at_same e5.same e3 d
 rw[hat] at e6
 have hrun:=runT_crowd_go (P:=P) (sl:=sl2) (i:=0) e2 (show stepG P (0==0) (gorS f [] g) (w.at d)=_ from hst d)
 have hlt:0<gs1.size:=(Array.getElem?_eq_some_iff.1 e2).1
 have e4':Calm P Z Shr o (mine Z Shr w) gs1 (w.at d) t1 q1:=by rw[←hat];exact⟨e4.base.at d,e4.eld,e4.hears,e4.size,e4.old⟩
 have hc:=e4'.put1 (w':={w.at d with heap:=H}) (gs':=(gs1.map (woken P (gorS f [] g) (gorS f [] g') {w.at d with heap:=H})).setIfInBounds 0 (gorS f [] g')) (u:=MemOp.ofEvents 0 (gorS f [] g).frame.fn (gorS f [] g).frame.place es) hs hb hcl ⟨hch.chan,hch.os,hch.output⟩
  (fun op hop=>by obtain⟨e,he,rfl⟩:=Conc.mem_ofEvents hop;exact⟨rfl,(hes e he).1,(hes e he).2.1⟩) (by rw[Deaf_own,e4'.hears];exact Go.Conc.deafBehind_still (fun e he=>(hes e he).2.2) _) (by simp) (fun i hi=>by
   obtain⟨y,hy,hqy⟩:=e4'.old i hi
   rw[get_map_set _ _ _ _ (by omega),hy,Option.map_some,woken_quitsD hqy])
 refine⟨N+1,_,_,sl2,_,q1,runNT_app N 1 _ _ _ _ _ e1 (by simp only[runNT,e6,hrun]),hM.same hc hs hb hcl ⟨hch.chan,hch.os,hch.output⟩ hok (by rw[get_map_set_same _ _ _ hlt]),rfl,rfl⟩
theorem Mirror.recv(hM:Mirror P S Z Shr Hid o f g v gs w t q)(sl:Option (Nat×Nat)){Ch cap s r:Nat}{buf:Array Value}{closed tm fl:Bool}{z:Value}(hch:Shr Ch)(hst:∀d,stepG P true (gorS f [] g) (w.at d)=.comm (gorS f [] g) #[rcase Ch z] true (.recv fl) (w.at d) #[])(hc:w.heap[Ch]?=some (.chan cap buf closed s r tm))(hsome:0<buf.size)(hg':Conc.served (gorS f [] g) (Conc.recvd fl (buf.getD 0 undef) true)=gorS f [] g')(hok:Ok P S g' v):∃(N:Nat) (gs':Array Goroutine) (w':World) (sl':Option (Nat×Nat)) (t':Trace) (q':Nat→Nat),runNT P N (crowd gs w sl) t=(.next (crowd gs' w' sl'),t')∧Mirror P S Z Shr Hid o f g' v gs' w' t' q'∧w'.heap=(w.setChan Ch cap (buf.extract 1 buf.size) closed s (r+1) tm).heap∧w'={w with heap:=w'.heap,drawn:=w'.drawn}:=by
 obtain⟨N,gs1,d,sl1,sl2,w1,t1,q1,e1,e2,e3,e4,e5,e6⟩:=calm_turn (P:=P) (a:=gorS f [] g) (show(gorS f [] g).status=.running from hM.priv.ok.run) (sumTo o q) gs w sl t q (Nat.le_refl _) hM.at0 hM.calm
 have hat:=at_same e5.same e3 d
 rw[hat] at e6
 have e4':Calm P Z Shr o (mine Z Shr w) gs1 (w.at d) t1 q1:=by rw[←hat];exact⟨e4.base.at d,e4.eld,e4.hears,e4.size,e4.old⟩
 obtain⟨gs2,u,r1,r2,r3,_⟩:=e4'.recv (sl:=sl2) hch e2 (hst d) (by exact hc) hsome
 have hheap:((w.at d).setChan Ch cap (buf.extract 1 buf.size) closed s (r+1) tm).heap=(w.setChan Ch cap (buf.extract 1 buf.size) closed s (r+1) tm).heap:=rfl
 refine⟨N+1,gs2,_,sl2,_,q1,runNT_app N 1 _ _ _ _ _ e1 (by simp only[runNT,e6,r1]),hM.same r3 (by rw[hheap];exact size_setChan ..) (fun b hb=>?_) (fun b c e fr h=>by rw[hheap];exact stay_chan hc b c e fr h) (⟨fun b x h h2=>by rw[hheap];exact(stayc_chan hc).chan b x h h2,rfl,rfl⟩) hok (by rw[r2,hg']),hheap,rfl⟩
 rw[hheap]
 simp only[World.setChan]
 exact Array.getElem?_setIfInBounds_ne (show Ch≠b from fun e=>hb (e▸hch))
theorem Mirror.recvShut(hM:Mirror P S Z Shr Hid o f g v gs w t q)(sl:Option (Nat×Nat)){Ch cap s r:Nat}{tm fl:Bool}{z:Value}(hch:Shr Ch)(hst:∀d,stepG P true (gorS f [] g) (w.at d)=.comm (gorS f [] g) #[rcase Ch z] true (.recv fl) (w.at d) #[])(hc:w.heap[Ch]?=some (.chan cap #[] true s r tm))(hg':Conc.served (gorS f [] g) (Conc.recvd fl z false)=gorS f [] g')(hok:Ok P S g' v):∃(N:Nat) (gs':Array Goroutine) (w':World) (sl':Option (Nat×Nat)) (t':Trace) (q':Nat→Nat),runNT P N (crowd gs w sl) t=(.next (crowd gs' w' sl'),t')∧Mirror P S Z Shr Hid o f g' v gs' w' t' q'∧w'.heap=w.heap∧w'={w with heap:=w'.heap,drawn:=w'.drawn}:=by
 obtain⟨N,gs1,d,sl1,sl2,w1,t1,q1,e1,e2,e3,e4,e5,e6⟩:=calm_turn (P:=P) (a:=gorS f [] g) (show(gorS f [] g).status=.running from hM.priv.ok.run) (sumTo o q) gs w sl t q (Nat.le_refl _) hM.at0 hM.calm
 have hat:=at_same e5.same e3 d
 rw[hat] at e6
 have e4':Calm P Z Shr o (mine Z Shr w) gs1 (w.at d) t1 q1:=by rw[←hat];exact⟨e4.base.at d,e4.eld,e4.hears,e4.size,e4.old⟩
 obtain⟨gs2,u,r1,r2,r3,_⟩:=e4'.recvShut (sl:=sl2) hch e2 (hst d) (by exact hc)
 exact⟨N+1,gs2,_,sl2,_,q1,runNT_app N 1 _ _ _ _ _ e1 (by simp only[runNT,e6,r1]),hM.same r3 rfl (fun _ _=>rfl) (.refl _) ⟨.of rfl,rfl,rfl⟩ hok (by rw[r2,hg']),rfl,rfl⟩
end
open Classical in
noncomputable def hideAt(B:Nat→Prop)(v:World):World:={v with heap:=v.heap.mapIdx fun b x=>if B b then hideO x else x}
theorem hideAt_size(B:Nat→Prop)(v:World):(hideAt B v).heap.size=v.heap.size:=by simp[hideAt]
theorem hideAt_get{B:Nat→Prop}{v:World}{b:Nat}{x:Obj}(h:(hideAt B v).heap[b]?=some x):∃x0,v.heap[b]?=some x0∧((B b∧x=hideO x0)∨(¬B b∧x=x0)):=by
 simp only[hideAt,Array.getElem?_mapIdx] at h
 obtain⟨x0,h1,h2⟩:=Option.map_eq_some_iff.1 h
 refine⟨x0,h1,?_⟩
 by_cases hB:B b
 .rw[if_pos hB] at h2;exact .inl ⟨hB,h2.symm⟩
 .rw[if_neg hB] at h2;exact .inr ⟨hB,h2.symm⟩
theorem hideAt_out{B:Nat→Prop}{v:World}{b:Nat}(hB:¬B b):(hideAt B v).heap[b]?=v.heap[b]?:=by
 simp only[hideAt,Array.getElem?_mapIdx,if_neg hB]
 cases v.heap[b]?<;>rfl
section
variable[Spc]{P:Program}{S:FuncId→Prop}{Hid:Nat→Prop}{B:Nat→Prop}{f:Nat→Nat}{g g':Goroutine}{v w:World}{Ro own own':Nat→Prop}
theorem Ok.hide(h:Ok P S g v)(hB:∀b x,B b→v.heap[b]?=some x→isCells x=true):Ok P S g (hideAt B v):=by
 refine⟨fun b x hb=>?_,h.gok,h.run,h.up,by rw[hideAt_size];exact h.glob,fun H H' e e' ha=>?_,fun H H' e ha b x hb=>?_⟩
 .obtain⟨x0,h1,h2|h2⟩:=hideAt_get hb
  .have hc:=hB b x0 h2.1 h1
   rw[h2.2]
   cases x0<;>first|(cases hc;done)|exact⟨.inr rfl,trivial⟩
  .rw[h2.2];exact h.nv b x0 h1
 .rw[hideAt_size] at ha
  obtain⟨h1,h2⟩:=h.bound H H' e e' ha
  refine⟨h1,fun b x hb=>?_⟩
  obtain⟨x0,h3,h4|h4⟩:=hideAt_get hb
  .have hc:=hB b x0 h4.1 h3
   rw[h4.2]
   cases x0<;>first|(cases hc;done)|skip
   simp[hideO,obj,vals]
  .rw[h4.2];exact h2 b x0 h3
 .obtain⟨x0,h3,h4|h4⟩:=hideAt_get hb
  .have hc:=hB b x0 h4.1 h3
   rw[h4.2]
   cases x0<;>first|(cases hc;done)|skip
   simp[hideO,obj,vals]
  .rw[h4.2];exact h.clean H H' e ha b x0 h3
theorem Priv.who(h:Priv P S Ro own Hid f g v w)(hok:Ok P S g' v):Priv P S Ro own Hid f g' v w:=⟨hok,h.inj,h.fix,h.sim,h.held⟩
theorem Priv.hide(h:Priv P S Ro own Hid f g v w)(hB:∀b x,B b→v.heap[b]?=some x→isCells x=true)(ho:∀b x,v.heap[b]?=some x→¬B b→own (f b)→own' (f b)):Priv P S Ro own' Hid f g (hideAt B v) w:=by
 refine⟨Ok.hide h.ok hB,by rw[hideAt_size];exact h.inj,h.fix,⟨fun b x hb=>((Ok.hide h.ok hB).nv b x hb).2,fun b x hb=>?_⟩,fun b x hb=>?_⟩
 .obtain⟨x0,h1,h2⟩:=hideAt_get hb
  obtain⟨o',h3,h4⟩:=h.sim.block b x0 h1
  refine⟨o',h3,?_⟩
  rcases h2 with⟨h2,rfl⟩|⟨_,rfl⟩
  .have hc:=hB b x0 h2 h1
   cases x0<;>first|(cases hc;done)|skip
   obtain⟨c',fr',rfl,_⟩:=h4
   exact⟨c',fr',rfl,fun h=>by cases h⟩
  .exact h4
 .obtain⟨x0,h1,h2⟩:=hideAt_get hb
  rcases h2 with⟨h2,rfl⟩|⟨h2,rfl⟩
  .have hc:=hB b x0 h2 h1
   cases x0<;>first|(cases hc;done)|exact .inr (.inl rfl)
  .rcases h.held b _ h1 with h5|h5
   .exact .inl ⟨ho b _ h1 h2 h5.1,h5.2⟩
   .exact .inr h5
def kept(own:Nat→Prop)(f:Nat→Nat)(C:Nat→Prop):Nat→Prop:=fun b=>own b∧¬ ∃i,C i∧f i=b
def given(own:Nat→Prop)(f:Nat→Nat)(C:Nat→Prop):Nat→Prop:=fun b=>own b∧∃i,C i∧f i=b
theorem Priv.keepPart(h:Priv P S Ro own Hid f g v w){C:Nat→Prop}(hlt:∀b,C b→b<v.heap.size)(hC:∀b x,C b→v.heap[b]?=some x→isCells x=true)(hok:Ok P S g' v):Priv P S Ro (kept own f C) Hid f g' (hideAt C v) w:=
 Priv.hide (Priv.who h hok) hC fun b x hx hn hob=>⟨hob,fun⟨i,hi,e⟩=>hn (by rw[←h.inj i b (hlt i hi) (Array.getElem?_eq_some_iff.1 hx).1 e];exact hi)⟩
theorem Priv.givePart(h:Priv P S Ro own Hid f g v w){C:Nat→Prop}(hC:∀b x,¬C b→own (f b)→v.heap[b]?=some x→isCells x=true)(hok:Ok P S g' v):Priv P S Ro (given own f C) Hid f g' (hideAt (fun b=>¬C b∧own (f b)) v) w:=
 Priv.hide (Priv.who h hok) (fun b x hb hx=>hC b x hb.1 hb.2 hx) fun b x _ hn hob=>⟨hob,b,Classical.byContradiction fun hc=>hn ⟨hc,hob⟩,rfl⟩
end
section
variable[Spc][Hidden]{P:Program}{S:FuncId→Prop}{ty:TypeId}{Wg Ch:Nat}{Ro:Nat→Prop}
theorem onway_ltree(hz:ZeroOK P)(hS:SOK P S){m:Bool}{k:Kind}(hq:k.quiet=false)(hX:∀e r,Hidden.ch r→Look r e→k.X e){D:Goroutine→World→Prop}{B:List Frame}{C:Nat→Prop}(hD:∀g v,D g v→∀b,C b→∀o,v.heap[b]?=some o→chanB o=true){f:Nat→Nat}{g:Goroutine}{v w:World}{own:Nat→Prop}(hp:Priv P S Ro own Hidden.ch f g v w)(hRo:∀b,Ro b→b<w.heap.size∧¬own b)(ht:LTree P S D g v)(hC:∀(b:Nat) (o:Obj),v.heap[b]?=some o→chanB o=true→C b)(hstop:∀g' v' f' w' own',D g' v'→Priv P S Ro own' Hidden.ch f' g' v' w'→Rely Ro (fun _=>False) w w'→(∀b,Ro b→b<w'.heap.size∧¬own' b)→(∀i,i<v.heap.size→f' i=f i)→v.heap.size≤v'.heap.size→OnWay P Ro (Live ty Wg Ch) m k ⟨gorS f' B g',w',own'⟩):OnWay P Ro (Live ty Wg Ch) m k ⟨gorS f B g,w,own⟩:=by
 unfold OnWay at hstop⊢
 rw[hq] at hstop⊢
 exact way_of_ltree (w0:=w) (n0:=v.heap.size) (f0:=f) hz hS (fun e r h1 h2 h3 h4=>hX e r h1 ⟨h2,h3,h4⟩) hD (fun g' v' f' w' own' h1 h2 h3 h4 h5 h6=>hstop g' v' f' w' own' h1 h2 h3 h4 h5 h6) ht hp (Rely.refl _ _ _) hRo (fun _ _=>rfl) (Nat.le_refl _) hC
end
end Go.Crew
namespace Go.Ren
open Go.Conc
section
variable[M:Mps]{P:Program}{S:FuncId→Prop}
theorem way_call(hz:ZeroOK P)(hS:SOK P S){m:Bool}{Ro Hid:Nat→Prop}{Live:World→Prop}{X:Event→Prop}(hX:∀e r,Hid r→e.loc=.obj r→e.write=false→e.sync=true→X e){Stop:Goroutine→World→(Nat→Prop)→Prop}{fn:FuncId}{args:Array Value}{v:World}{Post:Value→World→Prop}(hP:∀x v t,Post x v→Post x (wt v t)){C:Nat→Prop}(hD:∀x v,Post x v→∀b,C b→∀o,v.heap[b]?=some o→chanB o=true)(hC:∀(b:Nat) (o:Obj),v.heap[b]?=some o→chanB o=true→C b){f:Nat→Nat}{w:World}{own:Nat→Prop}(hp:Priv P S Ro own Hid f (G (Frame.enter P fn args .normal) [bottom]) v w)(hRo:∀b,Ro b→b<w.heap.size∧¬own b)(h:∀t,Calls P fn args (wt v t) fun e w'=>∃x,e=.returned x∧Post x w'){c:Frame}{cs:List Frame}(hnext:∀x f' frx v' w' own',Post x v'→frx.leaving P v' (.returned x)→Priv P S Ro own' Hid f' (G frx [bottom]) v' w'→Rely Ro (fun _=>False) w w'→(∀b,Ro b→b<w'.heap.size∧¬own' b)→(∀i,i<v.heap.size→f' i=f i)→v.heap.size≤v'.heap.size→Way P m Ro Live false X Stop (G (c.finish (val f' x)) cs) w' own'):Way P m Ro Live false X Stop (G (Frame.enter P fn (vals f args) .normal) (c::cs)) w own:=by
 have ht:=sub_tree hz hS hP hp.ok h
 have e:gorS f (c::cs) (G (Frame.enter P fn args .normal) [bottom])=G (Frame.enter P fn (vals f args) .normal) (c::cs):=by
  unfold gorS gor
  dsimp only[Conc.G]
  rw[enter_frame]
  rfl
 rw[←e]
 refine sub_way (n0:=v.heap.size) (f0:=f) (w0:=w) hz hS hX (C:=C) (fun g' v' hd=>?_) ht hp.ok (Rely.refl _ _ _) hRo hp.inj hp.fix hp.sim hp.held (fun _ _=>rfl) (Nat.le_refl _) hC ?_
 .obtain⟨⟨fr,x,rfl,hf,hl,hpo⟩,_,_⟩:=hd
  exact hD x v' hpo
 .rintro g' v' f1 w1 own1 ⟨⟨fr,x,rfl,hf,⟨hm,hde,hk,q,hq,hr⟩,hpost⟩,hok',hsz⟩ _ hw1 hRo1 hinj1 hfix1 hsim1 hheld1 ha1 hn1 _
  have hp1:Priv P S Ro own1 Hid f1 (G fr [bottom]) v' w1:=⟨hok',hinj1,hfix1,hsim1,hheld1⟩
  have hlv:fr.leaving P v' (.returned x):=⟨hm,hde,hk,q,hq,hr⟩
  have e0:=Sem.runT_fst P (results q fr.tmps) v' #[]
  rw[hr] at e0
  generalize hrun:(results q fr.tmps).runT P v' #[]=z at e0
  obtain⟨z,es⟩:=z
  cases e0
  have hstep:∀w2,Rely Ro own1 w1 w2→∃w3 es1,stepG P m (gorS f1 (c::cs) (G fr [bottom])) w2=.go (G (c.finish (val (rebase f1 v' w2) x)) cs) w3 es1∧Guar false X Ro own1 (more own1 w2 w3) w2 w3 es1∧Priv P S Ro (more own1 w2 w3) Hid (rebase f1 v' w2) (G fr [bottom]) v' w3:=fun w2 hr2=>by
   obtain⟨hp2,hinj,heq⟩:=hp1.rely hr2 (c::cs)
   rw[heq]
   obtain⟨b,w3,e1,e2,hov,hev⟩:=(RunRel.of (r_results (P:=P) (f:=rebase f1 v' w2) (K:=kd P S) q fr.tmps) hinj hp2.sim).ok #[] x v' es (fun e he=>by simp at he) hrun
    ⟨fun i h1 h2=>by omega,fun i h1=>by rw[rebase_ge h1];omega,fun i h1 h2=>by omega⟩
   have e3:b=val (rebase f1 v' w2) x:=e2
   subst e3
   rw[Array.map_empty] at e1
   have hszz:=hov.size
   have hheld:∀b o,v'.heap[b]?=some o→Held Ro (more own1 w2 w3) Hid (rebase f1 v' w2 b) o:=fun b o hb=>(hp2.held b o hb).imp (And.imp_left .inl) id
   have hch:StayChans w2 w3:=fun b' o' hb' hc'=>by
    by_cases hx:∃c o,v'.heap[c]?=some o∧rebase f1 v' w2 c=b'∧chanB o=true
    .obtain⟨c,o,hc,rfl,hch⟩:=hx
     exact⟨o',by rw[(hov.chan c o o hc hc hch).2];exact hb',hc'⟩
    .refine⟨o',?_,hc'⟩
     rw[hov.keeps b' (Array.getElem?_eq_some_iff.1 hb').1 fun c o hc e=>?_]
     .exact hb'
     .obtain⟨o1,h1,h2⟩:=hp2.sim.block c o hc
      rw[e,hb'] at h1
      obtain rfl:=Option.some.inj h1
      exact absurd ⟨c,o,hc,e,stands_chan h2 hc'⟩ hx
   refine⟨w3,seen P fr.fn (es.map (event (rebase f1 v' w2))),?_,⟨fun h=>(by cases h),by omega,fun b hb hno=>?_,hov.right.same,fun _ h=>h,fun e he=>?_,hov.cells,⟨hch,by rw[hov.right.same],by rw[hov.right.same]⟩⟩,⟨hp2.ok,hp2.inj,hp2.fix,hov.sim,hheld⟩⟩
   .unfold gorS gor stepG
    dsimp only[stk,Conc.G]
    have hm':(frame (rebase f1 v' w2) fr).mode=.returning:=by simp[frame,hm,mode]
    have hd':(frame (rebase f1 v' w2) fr).defers=[]:=by simp[frame,hde]
    have hk':(frame (rebase f1 v' w2) fr).kind=.normal:=hk
    have hf':(frame (rebase f1 v' w2) fr).fn=fr.fn:=rfl
    have ht':(frame (rebase f1 v' w2) fr).tmps=vals (rebase f1 v' w2) fr.tmps:=rfl
    simp only[hm']
    unfold unwind
    simp only[hd',hm',hf',hq,ht',e1,doReturn,hk',GStep.after]
    simp
   .by_cases hx:∃c o,v'.heap[c]?=some o∧rebase f1 v' w2 c=b∧chanB o=true
    .obtain⟨c,o,hc,rfl,hch⟩:=hx
     exact(hov.chan c o o hc hc hch).2
    .refine hov.keeps b hb fun d o hc e=>?_
     rcases hp2.held d o hc with h2|h2|⟨_,h2⟩|⟨_,h2⟩
     .rw[e] at h2;exact absurd h2.1 hno
     .exact .inl h2
     .rcases h2 with h2|⟨y,rfl⟩
      .exact .inr h2
      .exact absurd ⟨d,_,hc,e,rfl⟩ hx
     .exact absurd ⟨d,o,hc,e,by cases o<;>first|rfl|(cases h2;done)⟩ hx
   .exact seen_sub P fr.fn (p:=fun e=>EvO Ro (more own1 w2 w3) e∨X e) (fun e he=>by
     obtain⟨e0,he0,rfl⟩:=Array.mem_map.1 he
     exact evO_of hX (hev e0 he0) hheld) e he
  classical
  refine .step rfl (fun w2=>G (c.finish (val (rebase f1 v' w2) x)) cs) (fun w2=>if h:Rely Ro own1 w1 w2 then Classical.choose (hstep w2 h) else w2) (fun w2=>if h:Rely Ro own1 w1 w2 then Classical.choose (Classical.choose_spec (hstep w2 h)) else #[]) (fun w2 hr2 _=>?_) (fun w2 hr2 _=>?_)
  .have hk:=Classical.choose_spec (Classical.choose_spec (hstep w2 hr2))
   simp only[dif_pos hr2]
   exact⟨hk.1,hk.2.1⟩
  .have hk:=Classical.choose_spec (Classical.choose_spec (hstep w2 hr2))
   simp only[dif_pos hr2]
   have hg:=hk.2.1
   refine hnext _ _ _ _ _ _ hpost hlv hk.2.2 (hw1.trans ⟨Nat.le_trans hr2.size hg.size,fun b hb ho=>?_,hr2.cells.trans hg.cells,hr2.chans.trans hg.chans⟩) (fun b hb=>?_) (fun i hi=>(rebase_lt (Nat.lt_of_lt_of_le hi hsz)).trans (ha1 i hi)) hsz
   .rcases ho with ho|ho
    .obtain⟨h1,h2⟩:=hRo1 b ho
     exact(hg.keep b (Nat.lt_of_lt_of_le hb hr2.size) h2).trans (hr2.keep b hb (.inl ho))
    .exact ho.elim
   .obtain⟨h1,h2⟩:=hRo1 b hb
    have h3:=hr2.size
    have h4:=hg.size
    exact⟨by omega,fun h=>h.elim h2 fun h=>by omega⟩
end
end Go.Ren
namespace Go.Crew
open Go.Conc Go.ConcN Go.Ren
section
variable[Spc]{P:Program}{S:FuncId→Prop}{Z Shr Hid:Nat→Prop}{o:Nat}
theorem obj_row{cs:List Value}{e:TypeId}{fr:Nat×Nat}(hc:closedL cs=true)(H:Fr)(E:Ext)(h:Nat→Nat):@obj _ H E h (Obj.cells ⟨cs⟩ e fr)=Obj.cells ⟨cs⟩ e fr:=by
 have:=@closedL_closed _ H E cs hc h
 simp only[obj,vals,List.map_toArray,this]
theorem ok_row{g:Goroutine}{v:World}(ok:Ok P S g v){cs:List Value}{e:TypeId}(hc:closedL cs=true):Ok P S g {v with heap:=v.heap.push (Obj.cells ⟨cs⟩ e (0,0))}:=by
 have hget:∀b x,(v.heap.push (Obj.cells ⟨cs⟩ e (0,0)))[b]?=some x→v.heap[b]?=some x∨x=Obj.cells ⟨cs⟩ e (0,0):=fun b x hb=>by
  rw[Array.getElem?_push] at hb
  split at hb
  .exact .inr (Option.some.inj hb).symm
  .exact .inl hb
 refine⟨fun b x hb=>?_,ok.gok,ok.run,ok.up,by have:=ok.glob;simp;omega,fun H H' h h' hal=>?_,fun H H' h ha b x hb=>?_⟩
 .rcases hget b x hb with h1|rfl
  .exact ok.nv b x h1
  .exact⟨.inr rfl,trivial⟩
 .have hal':Ren.Alike (Nm S) (v.heap.size+1) H H' h h':=by
   have:(({v with heap:=v.heap.push (Obj.cells ⟨cs⟩ e (0,0))}:World)).heap.size=v.heap.size+1:=by simp
   rw[←this];exact hal
  obtain⟨h1,h2⟩:=ok.bound H H' h h' (hal'.mono (Nat.le_succ _))
  refine⟨h1,fun b x hb=>?_⟩
  rcases hget b x hb with h3|rfl
  .exact h2 b x h3
  .rw[obj_row hc H noExt h,obj_row hc H' noExt h']
 .rcases hget b x hb with h3|rfl
  .exact ok.clean H H' h ha b x h3
  .rw[obj_row hc H noExt h,obj_row hc H' noExt h]
theorem Mirror.adopt{f:Nat→Nat}{g:Goroutine}{v w:World}{gs:Array Goroutine}{t:Trace}{q:Nat→Nat}(hM:Mirror P S Z Shr Hid o f g v gs w t q){c:Nat}{cs:List Value}{e:TypeId}(hm:mine Z Shr w c)(hn:∀k,k<v.heap.size→f k≠c){fr:Nat×Nat}(hw:w.heap[c]?=some (.cells ⟨cs⟩ e fr))(hfr:∀x,¬(fr.1≤x∧x<fr.2))(hc:closedL cs=true):Mirror P S Z Shr Hid o (fun k=>if k<v.heap.size then f k else c) g {v with heap:=v.heap.push (Obj.cells ⟨cs⟩ e (0,0))} gs w t q:=by
 have hpr:=hM.priv
 let f1:Nat→Nat:=fun k=>if k<v.heap.size then f k else c
 have hf1:∀i,i<v.heap.size→f1 i=f i:=fun i hi=>if_pos hi
 have hf2:f1 v.heap.size=c:=if_neg (Nat.lt_irrefl _)
 have hag:Ren.Alike (fun _=>True) v.heap.size frId frId f f1:=⟨fun i hi=>(hf1 i hi).symm,fun _ _=>rfl⟩
 have hb:=hpr.ok.bound frId frId f f1 ⟨fun i hi=>(hf1 i hi).symm,fun _ _=>rfl⟩
 refine⟨hM.calm,⟨ok_row hpr.ok hc,fun a b ha hb e=>?_,fun g0 hg0=>?_,⟨fun b x hb=>?_,fun b x hx=>?_⟩,fun b x hx=>?_⟩,?_,hM.shr⟩
 .simp only[Array.size_push] at ha hb
  have e:f1 a=f1 b:=e
  rcases Nat.lt_or_ge a v.heap.size with h1|h1<;>rcases Nat.lt_or_ge b v.heap.size with h2|h2
  .rw[hf1 a h1,hf1 b h2] at e;exact hpr.inj a b h1 h2 e
  .obtain rfl:b=v.heap.size:=by omega
   rw[hf1 a h1,hf2] at e
   exact absurd e (hn a h1)
  .obtain rfl:a=v.heap.size:=by omega
   rw[hf1 b h2,hf2] at e
   exact absurd e.symm (hn b h2)
  .omega
 .show f1 g0=g0
  rw[hf1 g0 (Nat.lt_of_lt_of_le hg0 hpr.ok.glob)];exact hpr.fix g0 hg0
 .simp only[Array.getElem?_push] at hb
  split at hb
  .obtain rfl:=Option.some.inj hb
   exact trivial
  .exact hpr.sim.good b x hb
 .show ∃o',w.heap[f1 b]?=some o'∧Stands f1 x o'
  simp only[Array.getElem?_push] at hx
  split at hx
  .rename_i hbe
   obtain rfl:=Option.some.inj hx
   subst hbe
   refine⟨_,by rw[hf2];exact hw,⟨cs⟩,fr,rfl,fun _=>⟨?_,fun x h=>absurd h (hfr x)⟩⟩
   unfold vals
   rw[List.map_toArray,closedL_closed hc]
  .have hlt':b<v.heap.size:=(Array.getElem?_eq_some_iff.1 hx).1
   obtain⟨o',h4,h5⟩:=hpr.sim.block b x hx
   exact⟨o',by rw[hf1 b hlt'];exact h4,h5.congr (hb.2 b x hx)⟩
 .show Held _ _ _ (f1 b) x
  simp only[Array.getElem?_push] at hx
  split at hx
  .rename_i hbe
   obtain rfl:=Option.some.inj hx
   subst hbe
   rw[hf2]
   exact .inl ⟨hm,rfl⟩
  .have hlt':b<v.heap.size:=(Array.getElem?_eq_some_iff.1 hx).1
   rw[hf1 b hlt']
   exact hpr.held b x hx
 .rw[hM.at0]
  exact congrArg some (gorS_congr hb.1 hpr.ok.up)
def adopted(v:World):List (List Value×TypeId)→World
 |[]=>v
 |(cs,e)::l=>adopted {v with heap:=v.heap.push (Obj.cells ⟨cs⟩ e (0,0))} l
theorem adopted_size:∀(l:List (List Value×TypeId)) (v:World),(adopted v l).heap.size=v.heap.size+l.length
 |[],_=>rfl
 |(cs,e)::l,v=>by
  show(adopted _ l).heap.size=_
  rw[adopted_size l];simp;omega
theorem adopted_old:∀(l:List (List Value×TypeId)) (v:World) (b:Nat),b<v.heap.size→(adopted v l).heap[b]?=v.heap[b]?
 |[],_,_,_=>rfl
 |(cs,e)::l,v,b,hb=>by
  show(adopted _ l).heap[b]?=_
  rw[adopted_old l _ b (by simp;omega)]
  simp only[Array.getElem?_push];rw[if_neg (by omega)]
theorem adopted_new:∀(l:List (List Value×TypeId)) (v:World) (j:Nat) (x:List Value×TypeId),l[j]?=some x→(adopted v l).heap[v.heap.size+j]?=some (.cells ⟨x.1⟩ x.2 (0,0))
 |[],_,_,_,h=>by simp at h
 |(cs,e)::l,v,0,x,h=>by
  simp at h;subst h
  show(adopted _ l).heap[v.heap.size+0]?=_
  rw[adopted_old l _ _ (by simp)];simp
 |(cs,e)::l,v,j+1,x,h=>by
  have:=adopted_new l {v with heap:=v.heap.push (Obj.cells ⟨cs⟩ e (0,0))} j x (by simpa using h)
  show(adopted _ l).heap[v.heap.size+(j+1)]?=_
  rw[←this];congr 1;simp;omega
theorem Mirror.adoptAll{g:Goroutine}{w:World}{gs:Array Goroutine}{t:Trace}{q:Nat→Nat}:∀(l:List (List Value×TypeId)) (bs:List Nat) {f:Nat→Nat} {v:World},Mirror P S Z Shr Hid o f g v gs w t q→bs.length=l.length→bs.Nodup→(∀b∈bs,mine Z Shr w b∧∀k,k<v.heap.size→f k≠b)→(∀(j b:Nat) (x:List Value×TypeId),bs[j]?=some b→l[j]?=some x→(∃fr,w.heap[b]?=some (.cells ⟨x.1⟩ x.2 fr)∧∀x,¬(fr.1≤x∧x<fr.2))∧closedL x.1=true)→∃f',Mirror P S Z Shr Hid o f' g (adopted v l) gs w t q∧(∀k,k<v.heap.size→f' k=f k)∧∀(j b:Nat),bs[j]?=some b→f' (v.heap.size+j)=b
 |[],[],f,v,hM,_,_,_,_=>⟨f,hM,fun _ _=>rfl,fun j b h=>by simp at h⟩
 |[],_::_,_,_,_,h,_,_,_=>by cases h
 |_::_,[],_,_,_,h,_,_,_=>by cases h
 |(cs,e)::l,b::bs,f,v,hM,hlen,hnd,hb,hr=>by
  obtain⟨hn1,hn2⟩:=List.nodup_cons.1 hnd
  obtain⟨m1,m2⟩:=hb b (by simp)
  obtain⟨⟨fr,r1,r3⟩,r2⟩:=hr 0 b (cs,e) rfl rfl
  have h1:=hM.adopt m1 m2 r1 r3 r2
  obtain⟨f',q1,q2,q3⟩:=Mirror.adoptAll l bs h1 (by simpa using hlen) hn2 (fun b' hb'=>⟨(hb b' (by simp[hb'])).1,fun k hk=>by
   show(if k<v.heap.size then f k else b)≠b'
   split
   .rename_i h;exact(hb b' (by simp[hb'])).2 k h
   .intro e;exact hn1 (e▸hb')⟩) (fun j b' x h1 h2=>hr (j+1) b' x (by simpa using h1) (by simpa using h2))
  refine⟨f',q1,fun k hk=>?_,fun j b' hj=>?_⟩
  .rw[q2 k (by simp;omega)];exact if_pos hk
  .cases j with
   |zero=>
    simp at hj;subst hj
    rw[q2 (v.heap.size+0) (by simp)]
    exact if_neg (by simp)
   |succ j=>
    have:=q3 j b' (by simpa using hj)
    rw[←this];congr 1;simp;omega
end
end Go.Crew
