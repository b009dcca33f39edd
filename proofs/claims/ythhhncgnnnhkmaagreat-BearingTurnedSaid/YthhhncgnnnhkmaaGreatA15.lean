import Derived.Conc.LoneCalls
import Derived.Test.YthhhncgnnnhkmaaGreatA14
set_option linter.all false
namespace Go.Crew
open Go.Conc Go.ConcN Go.Ren
open Go.ConcR (KK wgBlock WgAt stA smA rd wr mk Bk g_of_ofEvents ofEvent_mk ofEvent_cell bk_of_mute ofEvent_loc_mark deafBehind_cons deafBehind_one again_blocked)
section
variable[Hidden]
theorem nodup_le2(o:Nat):∀(j:Nat) (l:List Nat),l.Nodup→(∀a∈l,o≤a∧a<j)→l.length≤j-o
 |0,l,_,h=>by
  cases l with
  |nil=>exact Nat.zero_le _
  |cons a l=>exact absurd (h a (by simp)).2 (Nat.not_lt_zero a)
 |j+1,l,hn,h=>by
  by_cases hj:j∈l
  .have h1:=nodup_le2 o j (l.erase j) (hn.erase j) fun a ha=>by
    have h2:=hn.mem_erase_iff.1 ha
    have:=h a h2.2
    have:=h2.1
    omega
   have h2:=List.length_erase (a:=j) (l:=l)
   have:=h j hj
   split at h2<;>omega
  .have h1:=nodup_le2 o j l hn fun a ha=>by
    have:=h a ha
    have:a≠j:=fun e=>hj (e▸ha)
    omega
   omega
section
variable(P:Program)(ty:TypeId)(Wg Ch:Nat)(Ro:Nat→Prop)(n:Nat)(Anch Done:Stops)(pay:Nat→Option Pay)
def unpaid(j:Nat)(paid:Nat→Bool):Nat:=sumTo j fun i=>if paid i then 0 else 1
def cost(x:St):Nat:=phi n (Vc x.j x.D) x.tag+Ssum x.j x.D+unpaid x.j x.paid
def WRel(s:Option Kind)(a' a:Rank×Nat):Prop:=
 match s with
 |some k=>Child P Ro (Live ty Wg Ch) false k a'.1 a.1
 |none=>a'.2<a.2
def St.kind(x:St)(i:Nat):Option Kind:=wKind P ty Wg Ch Ro (pay i) (x.paid i) (x.D i).stage
def St.wk(x:St)(i:Nat):Rank×Nat:=(x.f (i+1),(x.D i).fuel)
inductive Turn (x' x:St):Prop
 |less (h:cost n x'<cost n x):Turn x' x
 |worker (h:cost n x'=cost n x) (hj:x'.j=x.j) (hs:∀i,i<x.j→(x'.D i).stage=(x.D i).stage∧x'.paid i=x.paid i)
   (ho:One (fun i=>WRel P ty Wg Ch Ro (x.kind P ty Wg Ch Ro pay i)) x.j x'.wk x.wk):Turn x' x
 |main (h:cost n x'=cost n x) (hj:x'.j=x.j) (hD:x'.D=x.D) (hp:x'.paid=x.paid) (hf:∀i,x'.f (i+1)=x.f (i+1))
   (ho:(x'.tag=x.tag∧∃k,mKind P ty Wg Ch Ro n Anch Done pay x.tag=some k∧Child P Ro (Live ty Wg Ch) true k (x'.f 0) (x.f 0))∨(x.tag=.w3∧x'.tag=.blk)):Turn x' x
end
section
variable{P:Program}{ty:TypeId}{Wg Ch:Nat}{Ro Shr:Nat→Prop}{o n cap:Nat}{Anch Done:Stops}{pay:Nat→Option Pay}{rz:Nat}{tm:Bool}
theorem wKind_quiet{p:Option Pay}{b:Bool}{s:Nat}{k:Kind}(h:wKind P ty Wg Ch Ro p b s=some k)(h6:s≤6∨b=true):k.quiet=true:=by
 rcases h6 with h6|rfl
 .unfold wKind at h
  split at h<;>first|omega|cases h<;>rfl
 .unfold wKind at h
  split at h<;>cases h<;>rfl
theorem wKind_X{p:Option Pay}{b:Bool}{s:Nat}{k:Kind}(h:wKind P ty Wg Ch Ro p b s=some k):∀e,k.X e→∃b,Hidden.ch b∧Look b e:=by
 unfold wKind at h
 split at h<;>first|(cases h;first|exact fun _ h=>h|exact fun _ h=>h.elim|(split<;>first|exact fun _ h=>h.elim|exact fun _ h=>h))|cases h
theorem put_wk(x:St)(i:Nat)(d:WD)(r:Rank)(tag:CTag):(x.put i d r tag).wk=upd x.wk i (r,d.fuel):=by
 funext k
 show(upd x.f (i+1) r (k+1),(upd x.D i d k).fuel)=_
 by_cases e:k=i
 .subst e;rw[upd_same,upd_same,upd_same]
 .rw[upd_ne _ _ (by omega),upd_ne _ _ e,upd_ne _ _ e];rfl
theorem turn_same(x:St){i:Nat}(hi:i<x.j)(r:Rank)(tag:CTag)(d:WD)(ht:tag=x.tag∨(x.tag=.blk∧tag=.w3))(hd:d.stage=(x.D i).stage)(h:WRel P ty Wg Ch Ro (x.kind P ty Wg Ch Ro pay i) (r,d.fuel) (x.wk i)):Turn P ty Wg Ch Ro n Anch Done pay (x.put i d r tag) x:=by
 have hst:∀k,(upd x.D i d k).stage=(x.D k).stage:=fun k=>by
  by_cases e:k=i
  .subst e;rw[upd_same,hd]
  .rw[upd_ne _ _ e]
 refine .worker ?_ rfl (fun k _=>⟨hst k,rfl⟩) ⟨i,hi,?_,fun k hk=>?_⟩
 .show phi n (Vc x.j (upd x.D i d)) tag+Ssum x.j (upd x.D i d)+unpaid x.j x.paid=_
  rw[phi_retag n _ ht,show Vc x.j (upd x.D i d)=Vc x.j x.D from sumTo_congr fun k _=>by simp only[cnt,hst k],show Ssum x.j (upd x.D i d)=Ssum x.j x.D from sumTo_congr fun k _=>hst k]
  rfl
 .rw[put_wk,upd_same];exact h
 .rw[put_wk,upd_ne _ _ hk]
theorem turn_less(x:St){i:Nat}(hi:i<x.j)(r:Rank)(tag:CTag)(d:WD)(ht:tag=x.tag∨(x.tag=.blk∧tag=.w3))(hd:d.stage<(x.D i).stage):Turn P ty Wg Ch Ro n Anch Done pay (x.put i d r tag) x:=by
 refine .less ?_
 show phi n (Vc x.j (upd x.D i d)) tag+Ssum x.j (upd x.D i d)+unpaid x.j x.paid<phi n (Vc x.j x.D) x.tag+Ssum x.j x.D+unpaid x.j x.paid
 rw[phi_retag n _ ht]
 have e1:=sumTo_upd x.D d cnt hi
 have e2:=sumTo_upd x.D d WD.stage hi
 have hc:cnt d≤cnt (x.D i):=by simp only[cnt];split<;>split<;>omega
 simp only[Vc,Ssum] at *
 have:=phi_mono n (v':=sumTo x.j fun a=>cnt (upd x.D i d a)) (v:=sumTo x.j fun a=>cnt (x.D a)) (by omega) x.tag
 omega
section
variable{x:St}{gs:Array Goroutine}{w:World}{t:Trace}{st sm:Int}
theorem upd_self{α:Type}(f:Nat→α)(i:Nat):upd f i (f i)=f:=by
 funext k
 by_cases e:k=i
 .subst e;rw[upd_same]
 .rw[upd_ne _ _ e]
def WOut(P:Program)(ty:TypeId)(Wg Ch:Nat)(Ro Shr:Nat→Prop)(o n cap:Nat)(Anch Done:Stops)(pay:Nat→Option Pay)(rz:Nat)(tm:Bool)(x:St)(gs:Array Goroutine)(w:World)(sl:Option (Nat×Nat))(t:Trace)(k:Nat):Prop:=
 ∃gs' w' x' ops st' sm',runT P (crowd gs w sl) k=(.next (crowd gs' w' sl),ops)∧Inv P ty Wg Ch Ro Shr o n cap Anch Done pay rz tm x' gs' w' (t++ops) st' sm'∧Turn P ty Wg Ch Ro n Anch Done pay x' x
theorem Inv.workerGoes(h:Inv P ty Wg Ch Ro Shr o n cap Anch Done pay rz tm x gs w t st sm)(sl:Option (Nat×Nat)){i:Nat}(hi:i<x.j){g:Goroutine}(hg:gs[i+1]?=some g){k:Kind}(hk:x.kind P ty Wg Ch Ro pay i=some k)(hgk:g=(x.f (i+1)).g)(hw:OnWay P Ro (Live ty Wg Ch) false k (x.f (i+1)))(hn:¬AtStop Ro (Live ty Wg Ch) k (x.f (i+1))):WOut P ty Wg Ch Ro Shr o n cap Anch Done pay rz tm x gs w sl t (i+1):=by
 obtain⟨g',w',es,hgo,hgu,hw',hch⟩:=hw.step hn (h.rely (i+1)) h.live
 rw[←hgk] at hgo
 have hX:=wKind_X hk
 have hoi:o≤i:=by
  rcases Nat.lt_or_ge i o with hlt|hge
  .unfold St.kind at hk;rw[h.elder i hlt] at hk;cases hk
  .exact hge
 have hes:(x.D i).stage≤6→w'=w∧es=#[]:=fun h6=>hgu.quiet (wKind_quiet hk (.inl h6))
 have hd0:Deaf t (i+1)=0∨es=#[]:=by
  have h1:=h.stages i hi
  rcases Nat.lt_or_ge 6 (x.D i).stage with h7|h6
  .left
   rw[h.deafW i hi,h.deafS i hi (by omega),if_neg (by omega)]
  .exact .inr (hes h6).2
 obtain⟨b1,b2,b3,b4⟩:=h.base.way (i:=i+1) (by omega) (.inr (by omega)) (fun e he=>.inr (let ⟨b,h1,h2⟩:=hX e he;⟨b,h.hid b h1,h2⟩)) (.inr hd0) hgu g.frame.fn g.frame.place
 have hmarks:∀e∈es,(∀a,e.loc≠.mark (.release a))∧e.loc≠.mark .disable∧e.loc≠.mark .enable:=fun e he=>by
  rcases hgu.evs e he with hev|hev
  .unfold EvO at hev
   refine⟨fun a h1=>?_,fun h1=>?_,fun h1=>?_⟩<;>(rw[h1] at hev;cases hev)
  .obtain⟨b,_,this,_⟩:=hX e hev
   refine⟨fun a h1=>?_,fun h1=>?_,fun h1=>?_⟩<;>(rw[h1] at this;cases this)
 obtain⟨gs',tag',e1,ht,hI⟩:=h.worker (sl:=sl) hi hg hgo (x.D i) ⟨g',w',more (x.f (i+1)).own w w'⟩ (st':=st) (sm':=sm) b1 b2 (Rely.refl _ _ _)
  (fun tag'=>by
   unfold WSit
   have:wKind P ty Wg Ch Ro (pay i) ((x.put i (x.D i) ⟨g',w',more (x.f (i+1)).own w w'⟩ tag').paid i) ((x.put i (x.D i) ⟨g',w',more (x.f (i+1)).own w w'⟩ tag').D i).stage=some k:=by
    show wKind P ty Wg Ch Ro (pay i) (x.paid i) (upd x.D i (x.D i) i).stage=some k
    rw[upd_same];exact hk
   rw[this]
   show g'=(upd x.f (i+1) _ (i+1)).g∧OnWay P Ro (Live ty Wg Ch) false k (upd x.f (i+1) _ (i+1))
   rw[upd_same]
   exact⟨rfl,hw'⟩)
  (fun e he=>(hmarks e he).1 _) (Go.Conc.deafBehind_still (fun e he=>(hmarks e he).2) _) (h.deafS i hi)
  (fun hlt=>absurd hlt (by omega)) (.inl hoi)
  (fun _ h6=>by
   obtain⟨_,e⟩:=hes h6
   obtain⟨r,hr⟩:=h.rel i hoi hi h6
   refine⟨r,?_⟩
   rw[e]
   have:MemOp.ofEvents (i+1) g.frame.fn g.frame.place #[]=#[]:=by rw[ofEvents_eq];simp
   rw[this,Array.append_empty]
   exact hr)
  (h.wg.of_block (b3 Wg h.shr.1))
  (fun tag' ht _=>Mode.retag (h.mode.congr fun a _=>by rw[upd_self]) ht)
  (b3 Ch h.shr.2) (h.paidOf i hi) (h.stages i hi)
  (fun hm p _ hp1=>by
   obtain⟨e,_⟩:=hgu.quiet (wKind_quiet hk (.inr ((h.sentOf i).1 hm).2.1))
   subst e
   show p (x.val i) _ (more (x.f (i+1)).own _ _)
   rw[more_same];exact hp1)
 refine⟨gs',w',_,_,st,sm,e1,hI,turn_same x hi _ tag' _ ht rfl ?_⟩
 rw[hk]
 exact hch
theorem Inv.workerBook(h:Inv P ty Wg Ch Ro Shr o n cap Anch Done pay rz tm x gs w t st sm)(sl:Option (Nat×Nat)){i:Nat}(hi:i<x.j){g g':Goroutine}{w':World}{es:Array Event}(hg:gs[i+1]?=some g)
  (hgo:stepG P false g w=.go g' w' es) (hA:Aside Wg w w') (hes:∀e∈es,BkS Wg e) (hnr:∀e∈es,e.loc≠.mark (.release (stA Wg))) (s' m':Nat) {st' sm':Int}
  (hs:match wKind P ty Wg Ch Ro (pay i) (x.paid i) s' with|some k=>OnWay P Ro (Live ty Wg Ch) false k ⟨g',w',x.own (i+1)⟩|none=>s'=1∧QuitsD P m' (deafBehind (x.D i).deaf es) g')
  (hd5:s'≠1→deafBehind (x.D i).deaf es=if s'≤5 then 1 else 0)
  (hel:i<o→s'=1) (heo:o≤i ∨ ∀e∈es,(MemAct.ofEvent e).touch? =none)
  (hrl:o≤i→s'≤6→∃r,RelBy (stA Wg) (t++MemOp.ofEvents (i+1) g.frame.fn g.frame.place es) (i+1) r)
  (hwg:WgAt ty Wg w' st' sm')
  (hmode:∀tag',(tag'=x.tag∨(x.tag=.blk∧tag'=.w3))→(mayWake P g=true→g'.status=.running→tag'≠.blk)→ConcN.Mode x.j (upd x.D i ⟨s',m',deafBehind (x.D i).deaf es⟩) tag' st' sm')
  (hCW:Ch≠Wg) (hpaid:s'≤6→(pay i).isSome=true→x.paid i=true) (hst:1≤s'∧s'≤7) (hlt:s'<(x.D i).stage∨(s'=1∧(x.D i).stage=1∧m'<(x.D i).fuel)) :
  WOut P ty Wg Ch Ro Shr o n cap Anch Done pay rz tm x gs w sl t (i+1):=by
 obtain⟨b1,b2⟩:=h.base.book h.shr.1 (i:=i+1) (by omega) hA (stay_wg hA h.wg hwg) (stayc_wg hA h.wg) hes g.frame.fn g.frame.place
 obtain⟨gs',tag',e1,ht,hI⟩:=h.worker (sl:=sl) hi hg hgo ⟨s',m',deafBehind (x.D i).deaf es⟩ ⟨g',w',x.own (i+1)⟩ (by rw[upd_self];exact b1) (fun i' _=>b2 i') (Rely.refl _ _ _)
  (fun tag'=>by
   unfold WSit
   show(match wKind P ty Wg Ch Ro (pay i) (x.paid i) (upd x.D i ⟨s',m',deafBehind (x.D i).deaf es⟩ i).stage with|some k=>g'=(upd x.f (i+1) ⟨g',w',x.own (i+1)⟩ (i+1)).g∧OnWay P Ro (Live ty Wg Ch) false k (upd x.f (i+1) ⟨g',w',x.own (i+1)⟩ (i+1))|none=>(upd x.D i ⟨s',m',deafBehind (x.D i).deaf es⟩ i).stage=1∧QuitsD P (upd x.D i ⟨s',m',deafBehind (x.D i).deaf es⟩ i).fuel (upd x.D i ⟨s',m',deafBehind (x.D i).deaf es⟩ i).deaf g')
   rw[upd_same,upd_same]
   revert hs
   dsimp only
   split
   .exact fun h=>⟨rfl,h⟩
   .exact id)
  hnr rfl hd5 hel heo hrl hwg hmode (hA.block Ch hCW) hpaid hst (fun _ p hp hp1=>h.pst i p hp _ _ _ _ hp1 (b2 (i+1)))
 refine⟨gs',w',_,_,st',sm',e1,hI,?_⟩
 rcases hlt with hlt|⟨e2,e3,hlt⟩
 .exact turn_less x hi _ tag' _ ht hlt
 .refine turn_same x hi _ tag' _ ht (e2.trans e3.symm) ?_
  have:x.kind P ty Wg Ch Ro pay i=none:=by unfold St.kind;rw[e3];rfl
  rw[this]
  exact hlt
end
end
section
variable{P:Program}{ty:TypeId}{Wg Ch:Nat}{Ro Shr:Nat→Prop}{o n cap:Nat}{Anch Done:Stops}{pay:Nat→Option Pay}{rz:Nat}{tm:Bool}{x:St}{gs:Array Goroutine}{w:World}{t:Trace}{st sm:Int}
theorem bkS_mk{Wg:Nat}{m:Mark}(h:(MemAct.mark m).touch? =none)(h':∀B,Wg<B→(MemAct.mark m).low B):∀e∈#[mk m],BkS Wg e:=by
 intro e he
 simp at he
 subst he
 exact .inl ⟨h,h'⟩
theorem bkS_all{es:Array Event}(h:∀e∈es,Bk Wg e):∀e∈es,BkS Wg e:=fun e he=>bkS_of_Bk (h e he)
theorem Inv.noPartner(h:Inv P ty Wg Ch Ro Shr o n cap Anch Done pay rz tm x gs w t st sm)(k:Nat)(c:Nat)(s:Bool):partners (gs.setIfInBounds k ph) c s=[]:=by
 refine partners_nil fun j g hg=>?_
 rcases getElem?_stand gs k j g hg with⟨_,rfl⟩|⟨_,hg⟩
 .rfl
 rcases Nat.eq_zero_or_pos j with rfl|hpos
 .obtain⟨a,ha,hm⟩:=h.main
  rw[ha] at hg
  obtain rfl:=Option.some.inj hg
  unfold MSit at hm
  split at hm
  .obtain⟨rfl,hw⟩:=hm
   exact offersAt_of_not_blocked (by rw[hw.status];decide) _ _
  .obtain⟨_,rfl,_,hs⟩:=hm
   have h3:=hs w (h.rely 0) h.live
   simp[offersAt,h3.2.1]
 .have hj:j-1<x.j:=by have:=(Array.getElem?_eq_some_iff.1 hg).1;rw[h.size] at this;omega
  obtain⟨g',hg',hs⟩:=h.wk (j-1) hj
  rw[show j-1+1=j by omega,hg] at hg'
  obtain rfl:=Option.some.inj hg'
  refine offersAt_of_not_blocked (fun e=>?_) _ _
  rcases hs.status with h1|h1<;>(rw[h1] at e;cases e)
theorem Inv.sends(h:Inv P ty Wg Ch Ro Shr o n cap Anch Done pay rz tm x gs w t st sm)(hCW:Ch≠Wg)(hcap:n-o≤cap)(sl:Option (Nat×Nat)){i:Nat}(hi:i<x.j){g:Goroutine}(hg:gs[i+1]?=some g)(h7:(x.D i).stage=7)(hp:x.paid i=false){p:Pay}{v z:Value}(hv:pay i=some p)(hpv:p v w (x.own (i+1)))(hst:stepG P false g w=.comm g #[scase Ch v z] true .send w #[])(hw:OnWay P Ro (Live ty Wg Ch) false (kQ (SR0 P ty Wg Ch Ro)) ⟨Conc.served g undef,w,x.own (i+1)⟩):WOut P ty Wg Ch Ro Shr o n cap Anch Done pay rz tm x gs w sl t (i+1):=by
 obtain⟨R,hRg,hRw,hRo,hwR⟩:∃R:Rank,R.g=Conc.served g undef∧R.w=w∧R.own=x.own (i+1)∧OnWay P Ro (Live ty Wg Ch) false (kQ (SR0 P ty Wg Ch Ro)) R:=⟨⟨Conc.served g undef,w,x.own (i+1)⟩,rfl,rfl,rfl,hw⟩
 have hns:i∉x.sent:=fun hm=>by
  have:=((h.sentOf i).1 hm).2.1
  rw[hp] at this;cases this
 have hlen:x.sent.length<cap:=by
  have hpo:∀a,(pay a).isSome=true→o≤a:=fun a ha=>by
   rcases Nat.lt_or_ge a o with hlt|hge
   .rw[h.pno a hlt] at ha;cases ha
   .exact hge
  have h1:=nodup_le2 o x.j (i::x.sent) (List.nodup_cons.2 ⟨hns,h.nodup⟩) fun a ha=>by
   rcases List.mem_cons.1 ha with rfl|ha
   .exact⟨hpo a (by rw[hv];rfl),hi⟩
   .exact⟨hpo a ((h.sentOf a).1 ha).2.2,((h.sentOf a).1 ha).1⟩
  have h2:=h.le
  simp only[List.length_cons] at h1
  omega
 have hrun:=crowd_send_room (P:=P) (sl:=sl) (i:=i+1) hg (by simpa using hst) h.chan (by simpa using hlen) (h.noPartner (i+1) Ch false)
 rw[finishComm_send] at hrun
 have e0:MemOp.ofEvents (i+1) g.frame.fn g.frame.place #[]=#[]:=by rw[ofEvents_eq];simp
 rw[e0,Array.empty_append] at hrun
 have hsz:=size_setChan w Ch cap ((x.sent.map x.val).toArray.push v) false (x.sent.length+1) rz tm
 have hlt:Ch<w.heap.size:=h.base.shrLow Ch h.shr.2
 have hne:∀b,b≠Ch→(w.setChan Ch cap ((x.sent.map x.val).toArray.push v) false (x.sent.length+1) rz tm).heap[b]?=w.heap[b]?:=fun b hb=>by
  simp only[World.setChan]
  exact Array.getElem?_setIfInBounds_ne (fun e=>hb e.symm)
 obtain⟨b1,b2⟩:=h.base.shared (i:=i+1) (by omega) hsz (fun b hb=>hne b fun e=>hb (e▸h.shr.2)) (stay_chan h.chan) (stayc_chan h.chan) (u:=#[{g:=i+1,fn:=g.frame.fn,pos:=g.frame.place,act:=.send Ch x.sent.length},{g:=i+1,fn:=g.frame.fn,pos:=g.frame.place,act:=.sendDone Ch x.sent.length}])
  (fun op hop=>by
   simp only[List.mem_toArray,List.mem_cons,List.not_mem_nil,or_false] at hop
   rcases hop with rfl|rfl
   .exact⟨rfl,fun x hx=>(by cases hx),hlt⟩
   .exact⟨rfl,fun x hx=>(by cases hx),hlt⟩)
 generalize hw':w.setChan Ch cap ((x.sent.map x.val).toArray.push v) false (x.sent.length+1) rz tm=w' at *
 generalize hu:(#[{g:=i+1,fn:=g.frame.fn,pos:=g.frame.place,act:=.send Ch x.sent.length},{g:=i+1,fn:=g.frame.fn,pos:=g.frame.place,act:=.sendDone Ch x.sent.length}]:Trace)=u at *
 have hug:∀op∈u,op.g=i+1:=by
  intro op hop
  rw[←hu] at hop
  simp only[List.mem_toArray,List.mem_cons,List.not_mem_nil,or_false] at hop
  rcases hop with rfl|rfl<;>rfl
 have hst':∀op∈u,op.act≠.mark .disable∧op.act≠.mark .enable:=by
  intro op hop
  rw[←hu] at hop
  simp only[List.mem_toArray,List.mem_cons,List.not_mem_nil,or_false] at hop
  rcases hop with rfl|rfl<;>exact⟨by simp,by simp⟩
 have hchan:w'.heap[Ch]?=some (.chan cap (((x.sent++[i]).map (upd x.val i v)).toArray) false (x.sent++[i]).length rz tm):=by
  rw[←hw',heap_setChan w Ch _ _ _ _ _ _ hlt]
  have e1:x.sent.map (upd x.val i v)=x.sent.map x.val:=List.map_congr_left fun a ha=>upd_ne _ _ fun e=>hns (e▸ha)
  rw[List.map_append,e1]
  simp[upd_same]
 have hwg:WgAt ty Wg w' st sm:=h.wg.of_block (hne Wg (fun e=>hCW e.symm))
 have hcnt:∀k,upd x.paid i true k=(if k=i then true else x.paid k):=fun k=>rfl
 obtain⟨a,ha,hm⟩:=h.main
 refine⟨_,w',{x with paid:=upd x.paid i true,f:=upd x.f (i+1) R,sent:=x.sent++[i],val:=upd x.val i v},u,st,sm,hrun,⟨by simp[h.size],h.started,h.le,h.oj,h.shr,h.hid,h.elder,h.eld.app fun op hop=>?_,h.pno,?_,fun k=>?_,fun k hk=>?_,⟨a,?_,?_⟩,h.norel.app fun op hop=>?_,?_,fun k hk=>?_,h.deafS,fun k hko hk h6=>?_,hwg,h.mode,hchan,?_,fun k=>?_,fun k hk h6 hps=>?_,h.stages,h.pst,fun k hk p1 hp1=>?_⟩,?_⟩
 .rw[←hu] at hop
  simp only[List.mem_toArray,List.mem_cons,List.not_mem_nil,or_false] at hop
  rcases hop with rfl|rfl<;>exact .inr (.inr rfl)
 .have:(St.own {x with paid:=upd x.paid i true,f:=upd x.f (i+1) R,sent:=x.sent++[i],val:=upd x.val i v})=x.own:=by
   funext k
   show(upd x.f (i+1) R k).own=_
   by_cases e:k=i+1
   .subst e;rw[upd_same,hRo]
   .rw[upd_ne _ _ e];rfl
  rw[this];exact b1
 .show Rely Ro (upd x.f (i+1) R k).own (upd x.f (i+1) R k).w w'
  by_cases e:k=i+1
  .subst e;rw[upd_same,hRo,hRw];exact b2 _
  .rw[upd_ne _ _ e];exact(h.rely k).trans (b2 k)
 .by_cases e:k=i
  .subst e
   refine⟨Conc.served g undef,by rw[Array.getElem?_setIfInBounds_self_of_lt (by rw[h.size];omega)],?_⟩
   unfold WSit
   have e7:wKind P ty Wg Ch Ro (pay k) (upd x.paid k true k) (x.D k).stage=some (kQ (SR0 P ty Wg Ch Ro)):=by rw[upd_same,h7];rfl
   show(match wKind P ty Wg Ch Ro (pay k) (upd x.paid k true k) (x.D k).stage with|some k'=>Conc.served g undef=(upd x.f (k+1) R (k+1)).g∧OnWay P Ro (Live ty Wg Ch) false k' (upd x.f (k+1) R (k+1))|none=>_)
   rw[e7]
   show Conc.served g undef=(upd x.f (k+1) R (k+1)).g∧OnWay P Ro (Live ty Wg Ch) false (kQ (SR0 P ty Wg Ch Ro)) (upd x.f (k+1) R (k+1))
   rw[upd_same]
   exact⟨hRg.symm,hwR⟩
  .obtain⟨y,hy,hsy⟩:=h.wk k hk
   exact⟨y,by rw[Array.getElem?_setIfInBounds_ne (by omega)];exact hy,hsy.congr rfl (upd_ne _ _ e) (upd_ne _ _ (by omega))⟩
 .rw[Array.getElem?_setIfInBounds_ne (by omega)];exact ha
 .exact hm.congr rfl (show upd x.f (i+1) R 0=x.f 0 from upd_ne _ _ (by omega))
 .rw[←hu] at hop
  simp only[List.mem_toArray,List.mem_cons,List.not_mem_nil,or_false] at hop
  rcases hop with rfl|rfl<;>simp
 .rw[Deaf_still t 0 _ hst',h.deaf0]
 .rw[Deaf_still t _ _ hst',h.deafW k hk]
 .obtain⟨r,hr⟩:=h.rel k hko hk h6
  by_cases e:k=i
  .subst e
   have:(x.D k).stage≤6:=h6
   omega
  .exact⟨r,hr.appNot fun op hop=>by rw[hug op hop];omega⟩
 .show(x.sent++[i]).Nodup
  rw[List.nodup_append]
  exact⟨h.nodup,by simp,fun a ha b hb=>by simp at hb;subst hb;rintro rfl;exact hns ha⟩
 .show k∈x.sent++[i]↔k<x.j∧upd x.paid i true k=true∧(pay k).isSome=true
  rw[List.mem_append,List.mem_singleton]
  by_cases e:k=i
  .subst e;rw[upd_same,hv];simp[hi]
  .rw[upd_ne _ _ e,h.sentOf k];simp[e]
 .show upd x.paid i true k=true
  by_cases e:k=i
  .subst e;rw[upd_same]
  .rw[upd_ne _ _ e];exact h.paidOf k hk h6 hps
 .have hown1:(St.own {x with paid:=upd x.paid i true,f:=upd x.f (i+1) R,sent:=x.sent++[i],val:=upd x.val i v}) (k+1)=x.own (k+1):=by
   show(upd x.f (i+1) R (k+1)).own=_
   by_cases e:k=i
   .subst e;rw[upd_same,hRo]
   .rw[upd_ne _ _ (by omega)];rfl
  rw[hown1]
  show p1 (upd x.val i v k) w' _
  refine h.pst k p1 hp1 _ _ _ _ ?_ (b2 (k+1))
  by_cases e:k=i
  .subst e
   rw[upd_same]
   rw[hv] at hp1
   cases hp1
   exact hpv
  .rw[upd_ne _ _ e]
   refine h.pays k ?_ p1 hp1
   have hk:k∈x.sent++[i]:=hk
   rw[List.mem_append,List.mem_singleton] at hk
   exact hk.resolve_right e
 .refine .less ?_
  show phi n (Vc x.j x.D) x.tag+Ssum x.j x.D+unpaid x.j (upd x.paid i true)<phi n (Vc x.j x.D) x.tag+Ssum x.j x.D+unpaid x.j x.paid
  have:=sumTo_upd x.paid true (fun b:Bool=>if b then 0 else 1) hi
  simp only[hp] at this
  simp only[unpaid]
  simp at this
  omega
end
section
variable{P:Program}{ty:TypeId}{Wg Ch:Nat}{Ro Shr:Nat→Prop}{o n cap:Nat}{Anch Done:Stops}{pay:Nat→Option Pay}{rz:Nat}{tm:Bool}{x:St}{gs:Array Goroutine}{w:World}{t:Trace}{st sm:Int}
theorem Vc_le2{o j:Nat}{D:Nat→WD}(he:∀i,i<o→(D i).stage=1)(ho:o≤j):Vc j D≤j-o:=by
 induction j with
 |zero=>simp[Vc,sumTo]
 |succ j ih=>
  rcases Nat.lt_or_ge j o with hlt|hge
  .have h1:=sumTo_congr (j:=j+1) (f:=fun i=>cnt (D i)) (g:=fun _=>0) fun i hi=>by simp only[cnt,he i (by omega)];rfl
   have h2:=sumTo_le (f:=fun _=>0) (c:=0) (j:=j+1) fun _ _=>Nat.le_refl _
   simp only[Vc]
   omega
  .have h1:=ih hge
   simp only[Vc,sumTo] at h1⊢
   have:cnt (D j)≤1:=by simp only[cnt];split<;>omega
   omega
set_option maxHeartbeats 1600000 in
theorem Inv.stepWorker(h:Inv P ty Wg Ch Ro Shr o n cap Anch Done pay rz tm x gs w t st sm)(hCW:Ch≠Wg)(hcap:n-o≤cap)(hn:n-o<2147483648)(sl:Option (Nat×Nat)){i:Nat}(hi:i<x.j){g:Goroutine}(hg:gs[i+1]?=some g)(hrun:g.status=.running):WOut P ty Wg Ch Ro Shr o n cap Anch Done pay rz tm x gs w sl t (i+1):=by
 obtain⟨g₁,hg₁,hs⟩:=h.wk i hi
 obtain rfl:g=g₁:=by rw[hg] at hg₁;exact Option.some.inj hg₁
 have hVj:=Vc_le2 h.elder h.oj
 have hoj:=h.oj
 have hle:=h.le
 have hwg:=h.wg
 have hdk:=h.deafW i hi
 have hmode:=h.mode
 cases hk:x.kind P ty Wg Ch Ro pay i with
 |none=>
  unfold WSit at hs
  rw[show wKind P ty Wg Ch Ro (pay i) (x.paid i) (x.D i).stage=none from hk] at hs
  obtain⟨h1,hq⟩:=hs
  cases hfu:(x.D i).fuel with
  |zero=>rw[hfu] at hq;rw[hq.1] at hrun;cases hrun
  |succ q=>
   rw[hfu] at hq
   rcases hq with⟨hf,_⟩|⟨_,g',es,hmute,hstep,hq⟩
   .rw[hf] at hrun;cases hrun
   .have hbk:∀e∈es,Bk Wg e:=fun e he=>bk_of_mute (hmute e he)
    have hno:∀jx e,es[jx]?=some e→(MemAct.ofEvent e).touch? =none∨0<deafBehind (x.D i).deaf (es.extract 0 jx):=fun jx e he=>.inl (touch_mute (hmute e (Array.mem_of_getElem? he)))
    exact h.workerBook sl hi hg (hstep w) (.refl Wg w) (bkS_all hbk) (norel_of_Bk hbk) 1 q ⟨rfl,hq⟩ (fun e=>absurd rfl e) (fun _=>rfl) (.inr fun e he=>touch_mute (hmute e he))
     (fun hoi _=>let ⟨r,hr⟩:=h.rel i hoi hi (by omega);⟨r,hr.book hdk _ _ hbk hno⟩) hwg
     (fun tag' ht _=>Mode.retag (by have:=hmode.same (i:=i) q (deafBehind (x.D i).deaf es);rwa[h1] at this) ht) hCW (fun _ hp=>h.paidOf i hi (by omega) hp) (by omega) (.inr ⟨rfl,h1,by omega⟩)
 |some k=>
  unfold WSit at hs
  rw[show wKind P ty Wg Ch Ro (pay i) (x.paid i) (x.D i).stage=some k from hk] at hs
  obtain⟨hgk,hw⟩:=hs
  have hoi:o≤i:=by
   rcases Nat.lt_or_ge i o with hlt|hge
   .unfold St.kind at hk;rw[h.elder i hlt] at hk;cases hk
   .exact hge
  have hel:∀{s':Nat},i<o→s'=1:=fun hlt=>absurd hlt (by omega)
  by_cases hstop:AtStop Ro (Live ty Wg Ch) k (x.f (i+1))
  rotate_left
  .exact h.workerGoes sl hi hg hk hgk hw hstop
  have hst:=hstop w (h.rely (i+1)) h.live
  rw[←hgk] at hst
  change k.Stop g w (x.own (i+1)) at hst
  have hk':wKind P ty Wg Ch Ro (pay i) (x.paid i) (x.D i).stage=some k:=hk
  have rel5:∀{es:Array Event},(x.D i).stage≤6→(∀e∈es,Bk Wg e)→(∀jx e,es[jx]?=some e→(MemAct.ofEvent e).touch? =none∨0<deafBehind (x.D i).deaf (es.extract 0 jx)) →
    ∃r,RelBy (stA Wg) (t++MemOp.ofEvents (i+1) g.frame.fn g.frame.place es) (i+1) r:=fun h6 hb hd=>by
   obtain⟨r,hr⟩:=h.rel i hoi hi h6
   exact⟨r,hr.book hdk _ _ hb hd⟩
  have hstg:=h.stages i hi
  have hs5:=h.deafS i hi
  rcases(by omega:(x.D i).stage=7∨(x.D i).stage=6∨(x.D i).stage=5∨(x.D i).stage=4∨(x.D i).stage=3∨(x.D i).stage=2∨(x.D i).stage=1) with e7|e6|e5|e4|e3|e2|e1
  .
   rw[e7] at hk'
   have hd:(x.D i).deaf=0:=by rw[hs5 (by omega),e7];rfl
   have release:(x.paid i=true∨pay i=none)→SR0 P ty Wg Ch Ro g w (x.own (i+1))→WOut P ty Wg Ch Ro Shr o n cap Anch Done pay rz tm x gs w sl t (i+1):=fun hpd ⟨g',hgo,hk2⟩=>by
    refine h.workerBook sl hi hg hgo (.refl Wg w) (bkS_mk rfl fun B hB=>hB) (by intro e he;simp at he;subst he;simp[Go.ConcR.mk]) 6 0 (st':=st) (sm':=sm) hk2 (fun _=>by rw[hd];rfl) hel (.inl hoi) (fun _ _=>⟨t.size,RelBy.new (by rw[hdk,hd]) _ _⟩) hwg
     (fun tag' ht _=>(hmode.counted hi (by omega) (.inl rfl) _ _).retag ht) hCW (fun _ hp=>?_) (by omega) (.inl (by omega))
    rcases hpd with h1|h1
    .exact h1
    .rw[h1] at hp;cases hp
   cases hp:x.paid i with
   |true=>
    rw[hp] at hk'
    obtain rfl:kQ (SR0 P ty Wg Ch Ro)=k:=Option.some.inj hk'
    exact release (.inl hp) hst
   |false=>
    rw[hp] at hk'
    obtain rfl:kN (SPay P ty Wg Ch Ro (pay i))=k:=Option.some.inj hk'
    have hst:SPay P ty Wg Ch Ro (pay i) g w (x.own (i+1)):=hst
    cases hv:pay i with
    |none=>
     rw[hv] at hst
     exact release (.inr hv) hst
    |some p=>
     rw[hv] at hst
     obtain⟨v,z,h0,h1,h2⟩:=hst
     exact h.sends hCW hcap sl hi hg e7 hp hv h0 h1 h2
  .rw[e6] at hk'
   obtain rfl:kQ (SK1 P ty Wg Ch Ro)=k:=Option.some.inj hk'
   obtain⟨g',hgo,hk2⟩:SK1 P ty Wg Ch Ro g w (x.own (i+1)):=hst
   have hd:(x.D i).deaf=0:=by rw[hs5 (by omega),e6];rfl
   exact h.workerBook sl hi hg hgo (.refl Wg w) (bkS_all bk_dis) (norel_of_Bk bk_dis) 5 0 (st':=st) (sm':=sm) hk2 (fun _=>by rw[hd];rfl)
    hel (.inl hoi) (fun _ _=>rel5 (by omega) bk_dis (by intro jx e he;exact .inl (by have:=Array.mem_of_getElem? he;simp at this;subst this;rfl))) hwg
    (fun tag' ht _=>(hmode.counted hi (by omega) (.inr rfl) _ _).retag ht) hCW (fun _ hp=>h.paidOf i hi (by omega) hp) (by omega) (.inl (by omega))
  .rw[e5] at hk'
   obtain rfl:kQ (SD1 P ty Wg Ch Ro)=k:=Option.some.inj hk'
   have hall:SD1 P ty Wg Ch Ro g w (x.own (i+1)):=hst
   have hd:(x.D i).deaf=1:=by rw[hs5 (by omega),e5];rfl
   have hc1:cnt (x.D i)=1:=by simp[cnt,e5]
   have hV1:1≤Vc x.j x.D:=by have:=le_sumTo (f:=fun k=>cnt (x.D k)) hi;simp only[Vc];omega
   have df2:∀jx e,(#[rd (stA Wg),wr (stA Wg)]:Array Event)[jx]?=some e→(MemAct.ofEvent e).touch? =none∨0<deafBehind (x.D i).deaf ((#[rd (stA Wg),wr (stA Wg)]:Array Event).extract 0 jx):=by
    rw[hd]
    intro jx e he
    match jx,he with
    |0,_=>exact .inr (by simp[deafBehind])
    |1,_=>exact .inr (by simp[deafBehind,rd])
    |jx+2,he=>simp at he
   have dd2:deafBehind (x.D i).deaf #[rd (stA Wg),wr (stA Wg)]=1:=by rw[hd];rfl
   have hq0:∀q d,cnt (⟨1,q,d⟩:WD)=0:=fun _ _=>rfl
   have opq:∀q d,OpenSt x.j x.D→OpenSt x.j (upd x.D i ⟨1,q,d⟩):=fun q d h a ha=>by
    by_cases e:a=i
    .subst e;rw[upd_same];simp
    .rw[upd_ne x.D _ e];exact h a ha
   generalize htg:x.tag=tag0 at hmode
   cases hmode with
   |opn h1 h2 h3=>
    obtain⟨v,hv⟩:∃v,Vc x.j x.D+pend tag0=v+1:=⟨Vc x.j x.D+pend tag0-1,by omega⟩
    rw[htg] at hle
    rw[hv] at hwg
    have hw1:WgAt ty Wg w (((v:Nat)+1)*KK+((0:Nat):Int)) 0:=by simpa using hwg
    obtain⟨g',hgo,_,hq⟩:=hall v 0 (by omega) (by omega) hw1
    obtain⟨q,hq⟩:=hq (by omega)
    refine h.workerBook sl hi hg hgo (aside_setCell w (stA Wg) _) (bkS_all bk_rw) (norel_of_Bk bk_rw) 1 q (st':=v*KK+((0:Nat):Int)) (sm':=0) ⟨rfl,by rw[dd2];exact hq⟩ (fun e=>absurd rfl e) hel (.inl hoi) (fun _ _=>rel5 (by omega) bk_rw df2) (hwg.setSt _) (fun tag' ht _=>Mode.retag ?_ ht) hCW (fun _ hp=>h.paidOf i hi (by omega) hp) (by omega) (.inl (by omega))
    have hv':Vc x.j (upd x.D i ⟨1,q,deafBehind (x.D i).deaf #[rd (stA Wg),wr (stA Wg)]⟩)+pend tag0=v:=by have:=Vc_upd x.D (⟨1,q,deafBehind (x.D i).deaf #[rd (stA Wg),wr (stA Wg)]⟩:WD) hi;have:=hq0 q (deafBehind (x.D i).deaf #[rd (stA Wg),wr (stA Wg)]);omega
    have e:((v:Nat):Int)*KK+((0:Nat):Int)=((Vc x.j (upd x.D i ⟨1,q,deafBehind (x.D i).deaf #[rd (stA Wg),wr (stA Wg)]⟩)+pend tag0:Nat):Int)*KK:=by rw[hv'];simp
    rw[e,htg]
    exact .opn h1 (opq q _ h2) (fun vs ev=>by have:=h3 vs ev;omega)
   |reg h1 h2 h3=>
    obtain⟨v,hv⟩:∃v,Vc x.j x.D=v+1:=⟨Vc x.j x.D-1,by omega⟩
    rw[htg] at hle
    rw[hv] at hwg
    have hp:pend tag0=0:=by cases tag0<;>first|rfl|exact h1.elim
    have hw1:WgAt ty Wg w (((v:Nat)+1)*KK+((1:Nat):Int)) 0:=by simpa using hwg
    obtain⟨g',hgo,hl,hq⟩:=hall v 1 (by omega) (by omega) hw1
    by_cases hv0:v=0
    .subst hv0
     have hk2:=hl ⟨rfl,rfl⟩
     refine h.workerBook sl hi hg hgo (aside_setCell w (stA Wg) _) (bkS_all bk_rw) (norel_of_Bk bk_rw) 4 0 (st':=1) (sm':=0) hk2 (fun _=>by rw[dd2];rfl) hel (.inl hoi) (fun _ _=>rel5 (by omega) bk_rw df2) (by simpa using hwg.setSt (((0:Nat):Int)*KK+((1:Nat):Int))) (fun tag' ht _=>Mode.retag ?_ ht) hCW (fun _ hp=>h.paidOf i hi (by omega) hp) (by omega) (.inl (by omega))
     have hoth:∀a,a<x.j→a≠i→(x.D a).stage=1:=fun a ha e=>by
      have c0:=others_uncounted hi hv hc1 a ha e
      have:=h2 a ha
      simp only[cnt] at c0
      split at c0<;>omega
     have:=Mode.last (j:=x.j) (D:=upd x.D i ⟨4,0,deafBehind (x.D i).deaf #[rd (stA Wg),wr (stA Wg)]⟩) (tag:=tag0) i h1 hi (by rw[upd_same];simp) (fun a ha e=>by rw[upd_ne x.D _ e];exact hoth a ha e)
     rw[upd_same] at this
     rw[htg]
     simpa using this
    .obtain⟨q,hq⟩:=hq (by omega)
     refine h.workerBook sl hi hg hgo (aside_setCell w (stA Wg) _) (bkS_all bk_rw) (norel_of_Bk bk_rw) 1 q (st':=v*KK+((1:Nat):Int)) (sm':=0) ⟨rfl,by rw[dd2];exact hq⟩ (fun e=>absurd rfl e) hel (.inl hoi) (fun _ _=>rel5 (by omega) bk_rw df2) (hwg.setSt _) (fun tag' ht _=>Mode.retag ?_ ht) hCW (fun _ hp=>h.paidOf i hi (by omega) hp) (by omega) (.inl (by omega))
     have hv':Vc x.j (upd x.D i ⟨1,q,deafBehind (x.D i).deaf #[rd (stA Wg),wr (stA Wg)]⟩)=v:=by have:=Vc_upd x.D (⟨1,q,deafBehind (x.D i).deaf #[rd (stA Wg),wr (stA Wg)]⟩:WD) hi;have:=hq0 q (deafBehind (x.D i).deaf #[rd (stA Wg),wr (stA Wg)]);omega
     have e:((v:Nat):Int)*KK+((1:Nat):Int)=((Vc x.j (upd x.D i ⟨1,q,deafBehind (x.D i).deaf #[rd (stA Wg),wr (stA Wg)]⟩):Nat):Int)*KK+1:=by rw[hv'];simp
     rw[e,htg]
     exact .reg h1 (opq q _ h2) (by omega)
   |last L _ h2 h3 h4=>
    by_cases e:i=L
    .subst e;omega
    .have:=h4 i hi e;omega
   |sema h2=>have:=h2 i hi;omega
   |fin _ h2=>have:=h2 i hi;omega
  .rw[e4] at hk'
   obtain rfl:kQ (SD2 P ty Wg Ch Ro)=k:=Option.some.inj hk'
   have hx:SD2 P ty Wg Ch Ro g w (x.own (i+1)):=hst
   have hd:(x.D i).deaf=1:=by rw[hs5 (by omega),e4];rfl
   obtain⟨hW3,hoth,rfl,rfl⟩:=hmode.isLast hi (by omega)
   simp only[e4] at hwg
   obtain⟨g',hgo,hk2⟩:=hx (by simpa using hwg)
   refine h.workerBook sl hi hg hgo (.refl Wg w) (bkS_all bk_rd) (norel_of_Bk bk_rd) 3 0 (st':=1) (sm':=0) hk2 (fun _=>by rw[hd];rfl)
    hel (.inl hoi) (fun _ _=>rel5 (by omega) bk_rd (by rw[hd];intro jx e he;match jx,he with|0,_=>exact .inr (by simp[deafBehind])|jx+1,he=>simp at he)) (by simpa using hwg) (fun tag' ht _=>Mode.retag ?_ ht) hCW (fun _ hp=>h.paidOf i hi (by omega) hp) (by omega) (.inl (by omega))
   have:=Mode.last (j:=x.j) (D:=upd x.D i ⟨3,0,deafBehind (x.D i).deaf #[rd (stA Wg)]⟩) (tag:=x.tag) i hW3 hi (by rw[upd_same];simp) (fun a ha e=>by rw[upd_ne x.D _ e];exact hoth a ha e)
   rw[upd_same] at this
   simpa using this
  .rw[e3] at hk'
   obtain rfl:kQ (SD3 P ty Wg Ch Ro)=k:=Option.some.inj hk'
   have hx:SD3 P ty Wg Ch Ro g w (x.own (i+1)):=hst
   have hd:(x.D i).deaf=1:=by rw[hs5 (by omega),e3];rfl
   obtain⟨hW3,hoth,rfl,rfl⟩:=hmode.isLast hi (by omega)
   simp only[e3] at hwg
   obtain⟨g',hgo,hk2⟩:=hx (by simpa using hwg)
   have bkw:∀e∈#[wr (stA Wg)],Bk Wg e:=by intro e he;simp at he;subst he;exact bk_cell _ _ rfl
   refine h.workerBook sl hi hg hgo (aside_setCell w (stA Wg) _) (bkS_all bkw) (norel_of_Bk bkw) 2 0 (st':=0) (sm':=0) hk2 (fun _=>by rw[hd];rfl)
    hel (.inl hoi) (fun _ _=>rel5 (by omega) bkw (by rw[hd];intro jx e he;match jx,he with|0,_=>exact .inr (by simp[deafBehind])|jx+1,he=>simp at he)) (hwg.setSt 0) (fun tag' ht _=>Mode.retag ?_ ht) hCW (fun _ hp=>h.paidOf i hi (by omega) hp) (by omega) (.inl (by omega))
   have:=Mode.last (j:=x.j) (D:=upd x.D i ⟨2,0,deafBehind (x.D i).deaf #[wr (stA Wg)]⟩) (tag:=x.tag) i hW3 hi (by rw[upd_same];simp) (fun a ha e=>by rw[upd_ne x.D _ e];exact hoth a ha e)
   rw[upd_same] at this
   simpa using this
  .rw[e2] at hk'
   obtain rfl:kQ (SD4 P ty Wg)=k:=Option.some.inj hk'
   obtain⟨hmw,hx⟩:SD4 P ty Wg g w (x.own (i+1)):=hst
   have hd:(x.D i).deaf=1:=by rw[hs5 (by omega),e2];rfl
   obtain⟨hW3,hoth,rfl,rfl⟩:=hmode.isLast hi (by omega)
   simp only[e2] at hwg
   obtain⟨g',hgo,q,hq⟩:=hx (by simpa using hwg)
   have hrun':g'.status=.running:=by
    cases q with
    |zero=>exact absurd hq.2 (by decide)
    |succ q=>exact hq.elim (fun x=>absurd x.2 (by decide)) (fun x=>x.1)
   have dd:deafBehind (x.D i).deaf (semEvents (smA Wg))=1:=by rw[hd];simp[deafBehind,semEvents]
   refine h.workerBook sl hi hg hgo (aside_setCell w (smA Wg) _) (bkS_all bk_sem) (norel_of_Bk bk_sem) 1 q (st':=0) (sm':=1) ⟨rfl,by rw[dd];exact hq⟩ (fun e=>absurd rfl e)
    hel (.inl hoi) (fun _ _=>rel5 (by omega) bk_sem ?_) (hwg.setSm 1) ?_ hCW (fun _ hp=>h.paidOf i hi (by omega) hp) (by omega) (.inl (by omega))
   .rw[hd]
    intro jx e he
    match jx,he with
    |0,he=>simp[semEvents] at he;subst he;exact .inl rfl
    |1,_=>exact .inr (by simp[deafBehind,semEvents])
    |2,_=>exact .inr (by simp[deafBehind,semEvents])
    |3,he=>simp[semEvents] at he;subst he;exact .inl rfl
    |jx+4,he=>simp[semEvents] at he
   .intro tag' ht hwk
    have hnb:=hwk hmw hrun'
    have e3:tag'=.w3:=by
     rcases ht with rfl|⟨_,rfl⟩
     .revert hW3 hnb
      cases x.tag<;>intro hW3 hnb<;>first|rfl|exact hW3.elim|exact absurd rfl hnb
     .rfl
    subst e3
    exact .sema fun a ha=>by
     by_cases e:a=i
     .subst e;rw[upd_same]
     .rw[upd_ne x.D _ e];exact hoth a ha e
  .rw[e1] at hk'
   cases hk'
end
section
variable{P:Program}{ty:TypeId}{Wg Ch:Nat}{Ro Shr:Nat→Prop}{o n cap:Nat}{Anch Done:Stops}{pay:Nat→Option Pay}{rz:Nat}{tm:Bool}{x:St}{gs:Array Goroutine}{w:World}{t:Trace}{st sm:Int}
def St.move(x:St)(r:Rank)(tag:CTag):St:={x with f:=upd x.f 0 r,tag}
theorem move_own(x:St)(r:Rank)(tag:CTag):(x.move r tag).own=upd x.own 0 r.own:=by
 funext k
 show(upd x.f 0 r k).own=_
 by_cases e:k=0
 .subst e;rw[upd_same,upd_same]
 .rw[upd_ne _ _ e,upd_ne _ _ e];rfl
theorem Inv.starter(h:Inv P ty Wg Ch Ro Shr o n cap Anch Done pay rz tm x gs w t st sm)(sl:Option (Nat×Nat)){a a':Goroutine}{w':World}{es:Array Event}(ha:gs[0]?=some a)(hgo:stepG P true a w=.go a' w' es)(r':Rank)(tag':CTag){st' sm':Int}(hbase:Base Ro Shr o x.j (upd x.own 0 r'.own) w' (t++MemOp.ofEvents 0 a.frame.fn a.frame.place es))(hrel:∀i',i'≠0→Rely Ro (x.own i') w w')(hrelI:Rely Ro r'.own r'.w w')(hs:MSit P ty Wg Ch Ro n Anch Done pay (x.move r' tag') a')(hnr:∀e∈es,e.loc≠.mark (.release (stA Wg)))(hdeaf:deafBehind (mDeaf x.tag) es=mDeaf tag')(hwg:WgAt ty Wg w' st' sm')(hmode:ConcN.Mode x.j x.D tag' st' sm')(hch:w'.heap[Ch]?=w.heap[Ch]?)(hst:x.j+mLeft tag'=n)(hle:x.j+pend tag'≤n):∃gs',runT P (crowd gs w sl) 0=(.next (crowd gs' w' sl),MemOp.ofEvents 0 a.frame.fn a.frame.place es)∧Inv P ty Wg Ch Ro Shr o n cap Anch Done pay rz tm (x.move r' tag') gs' w' (t++MemOp.ofEvents 0 a.frame.fn a.frame.place es) st' sm':=by
 have hrun:=runT_crowd_go (P:=P) (sl:=sl) (i:=0) ha (by simpa using hgo)
 refine⟨_,hrun,⟨by simp[h.size,St.move],hst,hle,h.oj,h.shr,h.hid,h.elder,h.eld.app fun op hop=>.inl (g_of_ofEvents op hop),h.pno,by rw[move_own];exact hbase,fun k=>?_,fun k hk=>?_,⟨a',get_map_set_same _ _ _ (by rw[h.size];omega),hs⟩,h.norel.app (norel_of hnr),?_,fun k hk=>?_,h.deafS,fun k hko hk h6=>?_,hwg,hmode,?_,h.nodup,h.sentOf,h.paidOf,h.stages,h.pst,fun k hk p hp=>?_⟩⟩
 .show Rely Ro ((x.move r' tag').own k) (upd x.f 0 r' k).w w'
  rw[move_own]
  by_cases e:k=0
  .subst e;rw[upd_same,upd_same];exact hrelI
  .rw[upd_ne _ _ e,upd_ne _ _ e];exact(h.rely k).trans (hrel k e)
 .obtain⟨y,hy,hsy⟩:=h.wk k hk
  exact⟨y,by rw[get_map_set _ _ _ _ (by omega),hy,Option.map_some,hsy.woken],hsy.congr rfl rfl (show upd x.f 0 r' (k+1)=x.f (k+1) from upd_ne _ _ (by omega))⟩
 .rw[Deaf_own,h.deaf0];exact hdeaf
 .rw[Deaf_other t (by omega) _ g_of_ofEvents];exact h.deafW k hk
 .obtain⟨r,hr⟩:=h.rel k hko hk h6
  exact⟨r,hr.appOther g_of_ofEvents (by omega)⟩
 .rw[hch];exact h.chan
 .rw[move_own,upd_ne _ _ (by omega)]
  exact h.pst k p hp _ _ _ _ (h.pays k hk p hp) (hrel _ (by omega))
theorem move_wk(x:St)(r:Rank)(tag:CTag)(i:Nat):(x.move r tag).f (i+1)=x.f (i+1):=show upd x.f 0 r (i+1)=x.f (i+1) from upd_ne _ _ (by omega)
theorem mKind_X{tag:CTag}{k:Kind}(h:mKind P ty Wg Ch Ro n Anch Done pay tag=some k):k.X=fun e=>(∃a:Addr,(e.loc=.mark (.read a)∨e.loc=.mark (.write a))∧a.block=Wg) ∨ ∃b,Hidden.ch b∧Look b e:=by
 unfold mKind at h
 split at h<;>first|(cases h;rfl)|cases h
theorem Inv.starterGoes(h:Inv P ty Wg Ch Ro Shr o n cap Anch Done pay rz tm x gs w t st sm)(sl:Option (Nat×Nat)){a:Goroutine}(ha:gs[0]?=some a){k:Kind}(hk:mKind P ty Wg Ch Ro n Anch Done pay x.tag=some k)(hgk:a=(x.f 0).g)(hw:OnWay P Ro (Live ty Wg Ch) true k (x.f 0))(hn:¬AtStop Ro (Live ty Wg Ch) k (x.f 0)):WOut P ty Wg Ch Ro Shr o n cap Anch Done pay rz tm x gs w sl t 0:=by
 obtain⟨g',w',es,hgo,hgu,hw',hch⟩:=hw.step hn (h.rely 0) h.live
 rw[←hgk] at hgo
 have hX:=mKind_X hk
 rw[hX] at hgu
 obtain⟨b1,b2,b3,b4⟩:=h.base.way (i:=0) (by omega) (.inl rfl) (fun e he=>he.elim (fun⟨a,he,hb⟩=>.inl ⟨rfl,a,he,hb▸h.shr.1⟩) fun⟨b,h1,h2⟩=>.inr ⟨b,h.hid b h1,h2⟩) (.inl rfl) hgu a.frame.fn a.frame.place
 have hmarks:∀e∈es,(∀a,e.loc≠.mark (.release a))∧e.loc≠.mark .disable∧e.loc≠.mark .enable:=fun e he=>by
  rcases hgu.evs e he with hev|⟨a,hev,_⟩|⟨b,_,hev,_⟩
  .unfold EvO at hev
   refine⟨fun a h1=>?_,fun h1=>?_,fun h1=>?_⟩<;>(rw[h1] at hev;cases hev)
  .refine⟨fun a h1=>?_,fun h1=>?_,fun h1=>?_⟩<;>(rw[h1] at hev;rcases hev with hev|hev<;>cases hev)
  .refine⟨fun a h1=>?_,fun h1=>?_,fun h1=>?_⟩<;>(rw[h1] at hev;cases hev)
 obtain⟨gs',e1,hI⟩:=h.starter sl ha hgo ⟨g',w',more (x.f 0).own w w'⟩ x.tag (st':=st) (sm':=sm) b1 b2 (Rely.refl _ _ _)
  (by
   unfold MSit
   show(match mKind P ty Wg Ch Ro n Anch Done pay x.tag with|some k=>g'=(upd x.f 0 ⟨g',w',more (x.f 0).own w w'⟩ 0).g∧OnWay P Ro (Live ty Wg Ch) true k (upd x.f 0 ⟨g',w',more (x.f 0).own w w'⟩ 0)|none=>_)
   rw[hk,upd_same]
   exact⟨rfl,hw'⟩)
  (fun e he=>(hmarks e he).1 _) (Go.Conc.deafBehind_still (fun e he=>(hmarks e he).2) _) (h.wg.of_block (b3 Wg h.shr.1)) h.mode (b3 Ch h.shr.2) h.started h.le
 refine⟨gs',w',_,_,st,sm,e1,hI,.main rfl rfl rfl rfl (fun i=>move_wk x _ _ i) (.inl ⟨rfl,k,hk,?_⟩)⟩
 show Child P Ro (Live ty Wg Ch) true k (upd x.f 0 _ 0) (x.f 0)
 rw[upd_same]
 exact hch
theorem Inv.starterBook(h:Inv P ty Wg Ch Ro Shr o n cap Anch Done pay rz tm x gs w t st sm)(sl:Option (Nat×Nat)){a a':Goroutine}{w':World}{es:Array Event}(ha:gs[0]?=some a)(hgo:stepG P true a w=.go a' w' es)(hA:Aside Wg w w')(hes:∀e∈es,BkS Wg e)(hnr:∀e∈es,e.loc≠.mark (.release (stA Wg)))(tag':CTag){st' sm':Int}{k:Kind}(hk:mKind P ty Wg Ch Ro n Anch Done pay tag'=some k)(hs:OnWay P Ro (Live ty Wg Ch) true k ⟨a',w',x.own 0⟩)(hdeaf:deafBehind (mDeaf x.tag) es=mDeaf tag')(hwg:WgAt ty Wg w' st' sm')(hmode:ConcN.Mode x.j x.D tag' st' sm')(hCW:Ch≠Wg)(hst:x.j+mLeft tag'=n)(hle:x.j+pend tag'≤n)(hlt:phi n (Vc x.j x.D) tag'<phi n (Vc x.j x.D) x.tag):WOut P ty Wg Ch Ro Shr o n cap Anch Done pay rz tm x gs w sl t 0:=by
 obtain⟨b1,b2⟩:=h.base.book h.shr.1 (i:=0) (by omega) hA (stay_wg hA h.wg hwg) (stayc_wg hA h.wg) hes a.frame.fn a.frame.place
 obtain⟨gs',e1,hI⟩:=h.starter sl ha hgo ⟨a',w',x.own 0⟩ tag' (by rw[upd_self];exact b1) (fun i' _=>b2 i') (Rely.refl _ _ _)
  (by
   unfold MSit
   show(match mKind P ty Wg Ch Ro n Anch Done pay tag' with|some k=>a'=(upd x.f 0 ⟨a',w',x.own 0⟩ 0).g∧OnWay P Ro (Live ty Wg Ch) true k (upd x.f 0 ⟨a',w',x.own 0⟩ 0)|none=>_)
   rw[hk,upd_same]
   exact⟨rfl,hs⟩)
  hnr hdeaf hwg hmode (hA.block Ch hCW) hst hle
 refine⟨gs',w',_,_,st',sm',e1,hI,.less ?_⟩
 show phi n (Vc x.j x.D) tag'+Ssum x.j x.D+unpaid x.j x.paid<phi n (Vc x.j x.D) x.tag+Ssum x.j x.D+unpaid x.j x.paid
 omega
theorem Inv.starterBlocks(h:Inv P ty Wg Ch Ro Shr o n cap Anch Done pay rz tm x gs w t st sm)(sl:Option (Nat×Nat)){a:Goroutine}(ha:gs[0]?=some a)(htag:x.tag=.w3)(hgk:a=(x.f 0).g)(hw:OnWay P Ro (Live ty Wg Ch) true (kM Wg (SW3 P ty Wg Ch Ro Done)) (x.f 0))(hstop:AtStop Ro (Live ty Wg Ch) (kM Wg (SW3 P ty Wg Ch Ro Done)) (x.f 0))(hgo:stepG P true a w=.go {a with status:=.blocked} w #[])(hm:ConcN.Mode x.j x.D .blk st sm):WOut P ty Wg Ch Ro Shr o n cap Anch Done pay rz tm x gs w sl t 0:=by
 obtain⟨b1,b2⟩:=h.base.book h.shr.1 (i:=0) (by omega) (.refl Wg w) (.refl w) (.refl w) (es:=#[]) (by simp) a.frame.fn a.frame.place
 obtain⟨gs',e1,hI⟩:=h.starter sl ha hgo (x.f 0) .blk (by rw[show(x.f 0).own=x.own 0 from rfl,upd_self];exact b1) (fun i' _=>b2 i') (h.rely 0)
  (by
   unfold MSit
   refine⟨rfl,?_,?_⟩
   .show _={ (upd x.f 0 (x.f 0) 0).g with status:=.blocked}
    rw[upd_same,hgk]
   .show OnWay P Ro (Live ty Wg Ch) true (kM Wg (SW3 P ty Wg Ch Ro Done)) (upd x.f 0 (x.f 0) 0)∧AtStop Ro (Live ty Wg Ch) (kM Wg (SW3 P ty Wg Ch Ro Done)) (upd x.f 0 (x.f 0) 0)
    rw[upd_same]
    exact⟨hw,hstop⟩)
  (by simp) (by rw[htag];rfl) h.wg hm rfl (by have:=h.started;rw[htag] at this;exact this) (by have:=h.le;rw[htag] at this;exact this)
 refine⟨gs',w,_,_,st,sm,e1,hI,.main ?_ rfl rfl rfl (fun i=>move_wk x _ _ i) (.inr ⟨htag,rfl⟩)⟩
 show phi n (Vc x.j x.D) .blk+_+_=phi n (Vc x.j x.D) x.tag+_+_
 rw[htag]
 rfl
end
section
variable{Ro Shr:Nat→Prop}{o j:Nat}{own:Nat→Nat→Prop}{w w':World}{t:Trace}
theorem Base.fork(h:Base Ro Shr o j own w t){own0 ownc:Nat→Prop}(h0:∀b,own0 b→own 0 b)(hc:∀b,ownc b→own 0 b)(hd:∀b,own0 b→¬ownc b){x y:MemOp}(hx:x.g=0∧x.act=.go (j+1))(hy:y.g=j+1∧y.act=.start)(hdf:Deaf t 0=0):Base Ro Shr o (j+1) (upd (upd own 0 own0) (j+1) ownc) w (t++#[x,y]):=by
 have e0:upd (upd own 0 own0) (j+1) ownc 0=own0:=by rw[upd_ne _ _ (by omega),upd_same]
 have ec:upd (upd own 0 own0) (j+1) ownc (j+1)=ownc:=upd_same _ _ _
 have eo:∀k,k≠0→k≠j+1→upd (upd own 0 own0) (j+1) ownc k=own k:=fun k h1 h2=>by rw[upd_ne _ _ h2,upd_ne _ _ h1]
 have hall:∀k b,upd (upd own 0 own0) (j+1) ownc k b→(k=0∧own0 b∧own 0 b)∨(k=j+1∧ownc b∧own 0 b)∨(k≠0∧k≠j+1∧own k b):=fun k b hb=>by
  by_cases k0:k=0
  .subst k0;rw[e0] at hb;exact .inl ⟨rfl,hb,h0 b hb⟩
  .by_cases kj:k=j+1
   .subst kj;rw[ec] at hb;exact .inr (.inl ⟨rfl,hb,hc b hb⟩)
   .rw[eo k k0 kj] at hb;exact .inr (.inr ⟨k0,kj,hb⟩)
 have hap:Crew.Apart Ro Shr (j+1) (upd (upd own 0 own0) (j+1) ownc):=by
  refine⟨h.ap.roShr,fun k b hb=>?_,fun k k' b hb hb'=>?_,fun k b hk hb=>?_⟩
  .rcases hall k b hb with⟨_,_,h1⟩|⟨_,_,h1⟩|⟨_,_,h1⟩<;>exact h.ap.free _ b h1
  .rcases hall k b hb with⟨e1,h1,h2⟩|⟨e1,h1,h2⟩|⟨e1,e2,h2⟩<;>rcases hall k' b hb' with⟨e3,h3,h4⟩|⟨e3,h3,h4⟩|⟨e3,e4,h4⟩
   .rw[e1,e3]
   .exact absurd h3 (hd b h1)
   .exact absurd (h.ap.one 0 k' b h2 h4).symm e3
   .exact absurd h1 (hd b h3)
   .rw[e1,e3]
   .exact absurd (h.ap.one 0 k' b h2 h4).symm e3
   .exact absurd (h.ap.one k 0 b h2 h4) e1
   .exact absurd (h.ap.one k 0 b h2 h4) e1
   .exact h.ap.one k k' b h2 h4
  .rcases hall k b hb with⟨e1,_⟩|⟨e1,_⟩|⟨_,_,h1⟩
   .omega
   .omega
   .exact h.ap.none k b (by omega) h1
 have hct:CT (ShL Shr) (OwnL (upd (upd own 0 own0) (j+1) ownc)) (RdL o Ro) t j:=by
  have hiff:∀k,1≤k→k≤j→∀l,OwnL (upd (upd own 0 own0) (j+1) ownc) k l↔OwnL own k l:=fun k k1 kj l=>by
   unfold OwnL
   rw[eo k (by omega) (by omega)]
  exact⟨h.ct.quiet,fun k k1 kj l hl=>h.ct.own k k1 kj l ((hiff k k1 kj l).1 hl),h.ct.rd,fun l hs hn=>h.ct.free l hs fun k k1 kj=>⟨fun ho=>(hn k k1 kj).1 ((hiff k k1 kj l).2 ho),(hn k k1 kj).2⟩,
   fun l hs hn=>h.ct.mine l hs fun k k1 kj ho=>hn k k1 kj ((hiff k k1 kj l).2 ho),h.ct.nr,h.ct.gs⟩
 refine⟨hap,h.roLow,h.shrLow,fun k b hb=>?_,hct.fork hap.fam hx hy hdf,fun op hop=>?_,h.told.app fun jx op x' hj' hx'=>?_⟩
 .rcases hall k b hb with⟨_,_,h1⟩|⟨_,_,h1⟩|⟨_,_,h1⟩<;>exact h.ownLow _ b h1
 .rcases Array.mem_append.1 hop with h1|h1
  .exact h.low op h1
  .simp only[List.mem_toArray,List.mem_cons,List.not_mem_nil,or_false] at h1
   rcases h1 with rfl|rfl
   .rw[hx.2];trivial
   .rw[hy.2];trivial
 .have h1:=Array.mem_of_getElem? hj'
  simp only[List.mem_toArray,List.mem_cons,List.not_mem_nil,or_false] at h1
  rcases h1 with rfl|rfl
  .rw[hx.2] at hx';cases hx'
  .rw[hy.2] at hx';cases hx'
end
section
variable{P:Program}{ty:TypeId}{Wg Ch:Nat}{Ro Shr:Nat→Prop}{o n cap:Nat}{Anch Done:Stops}{pay:Nat→Option Pay}{rz:Nat}{tm:Bool}{x:St}{gs:Array Goroutine}{w:World}{t:Trace}{st sm:Int}
def nextTag:Nat→CTag
 |0=>.kd
 |r+1=>.sp r 5
theorem spawns_kind{r:Nat}{a:Rank}(h:Spawns P ty Wg Ch Ro n Anch pay r a):∃k,mKind P ty Wg Ch Ro n Anch Done pay (nextTag r)=some k∧OnWay P Ro (Live ty Wg Ch) true k a:=by
 cases r with
 |zero=>exact⟨_,rfl,h⟩
 |succ r=>exact⟨_,rfl,h⟩
theorem nextTag_open(r:Nat):isOpen (nextTag r):=by cases r<;>exact trivial
theorem nextTag_pend(r:Nat):pend (nextTag r)=0:=by cases r<;>rfl
theorem nextTag_left(r:Nat):mLeft (nextTag r)=r:=by cases r<;>rfl
theorem nextTag_deaf(r:Nat):mDeaf (nextTag r)=0:=by cases r<;>rfl
theorem nextTag_w2(r vs:Nat):nextTag r≠.w2 vs:=by cases r<;>simp[nextTag]
set_option maxHeartbeats 800000 in
theorem Inv.goes(h:Inv P ty Wg Ch Ro Shr o n cap Anch Done pay rz tm x gs w t st sm)(sl:Option (Nat×Nat)){a:Goroutine}(ha:gs[0]?=some a){r:Nat}(htag:x.tag=.sp r 2)(hgk:a=(x.f 0).g)(hs:SGo P ty Wg Ch Ro pay (n-(r+1)) (Spawns P ty Wg Ch Ro n Anch pay r) a w (x.own 0)):WOut P ty Wg Ch Ro Shr o n cap Anch Done pay rz tm x gs w sl t 0:=by
 obtain⟨g',child,own',ownc,hsp,h1,h2,h3,hch,hnx⟩:=hs
 have hj:x.j=n-(r+1)∧r+1≤n:=by
  have:=h.started
  rw[htag] at this
  have:x.j+(r+1)=n:=this
  omega
 obtain⟨k,hk,hnx⟩:=spawns_kind (Done:=Done) hnx
 have hdf:Deaf t 0=0:=by rw[h.deaf0,htag];rfl
 have hrun:=runT_crowd_spawn (P:=P) (sl:=sl) (i:=0) ha (by simpa using hsp)
 rw[h.size] at hrun
 have e0:MemOp.ofEvents 0 a.frame.fn a.frame.place #[]=#[]:=by rw[ofEvents_eq];simp
 rw[e0] at hrun
 obtain⟨X,Y,hX,hY,eu⟩:∃X Y:MemOp,(X.g=0∧X.act=.go (x.j+1))∧(Y.g=x.j+1∧Y.act=.start) ∧
   ((#[]:Trace).push {g:=0,fn:=a.frame.fn,pos:=a.frame.place,act:=.go (x.j+1)}).push {g:=x.j+1,fn:=child.frame.fn,pos:=a.frame.place,act:=.start}=#[X,Y]:=⟨_,_,⟨rfl,rfl⟩,⟨rfl,rfl⟩,rfl⟩
 rw[eu] at hrun
 have hm:∀op∈#[X,Y],op=X∨op=Y:=by intro op hop;simpa using hop
 have hst:∀op∈#[X,Y],op.act≠.mark .disable∧op.act≠.mark .enable:=by
  intro op hop
  rcases hm op hop with rfl|rfl
  .rw[hX.2];exact⟨by simp,by simp⟩
  .rw[hY.2];exact⟨by simp,by simp⟩
 have hb:=h.base.fork h1 h2 h3 hX hY hdf
 obtain⟨ho,hste,hsme,_⟩:=h.mode.open_inv (by rw[htag];trivial)
 rw[htag] at hste
 obtain⟨R0,r1,r2,r3,hnx⟩:∃R:Rank,R.g=g'∧R.w=w∧R.own=own'∧OnWay P Ro (Live ty Wg Ch) true k R:=⟨_,rfl,rfl,rfl,hnx⟩
 obtain⟨Rc,c1,c2,c3,hch⟩:∃R:Rank,R.g=child∧R.w=w∧R.own=ownc∧OnWay P Ro (Live ty Wg Ch) false (kN (SPay P ty Wg Ch Ro (pay x.j))) R:=⟨⟨child,w,ownc⟩,rfl,rfl,rfl,by rw[hj.1];exact hch⟩
 have eV:Vc (x.j+1) (upd x.D x.j ⟨7,0,0⟩)=Vc x.j x.D+1:=by
  simp only[Vc,sumTo,upd_same]
  rw[sumTo_upd_out x.D _ cnt (Nat.le_refl _)];rfl
 have eS:Ssum (x.j+1) (upd x.D x.j ⟨7,0,0⟩)=Ssum x.j x.D+7:=by
  simp only[Ssum,sumTo,upd_same]
  rw[sumTo_upd_out x.D _ WD.stage (Nat.le_refl _)]
 have eU:unpaid (x.j+1) (upd x.paid x.j false)=unpaid x.j x.paid+1:=by
  simp only[unpaid,sumTo,upd_same]
  rw[sumTo_upd_out x.paid _ (fun b:Bool=>if b then 0 else 1) (Nat.le_refl _)]
  simp
 have ho':OpenSt (x.j+1) (upd x.D x.j ⟨7,0,0⟩):=fun i hi=>by
  by_cases e:i=x.j
  .subst e;rw[upd_same];simp
  .rw[upd_ne x.D _ e];exact ho i (by omega)
 have hf0:upd (upd x.f 0 R0) (x.j+1) Rc 0=R0:=by rw[upd_ne _ _ (by omega),upd_same]
 have hfo:∀i,i≠x.j→upd (upd x.f 0 R0) (x.j+1) Rc (i+1)=x.f (i+1):=fun i hi=>by rw[upd_ne _ _ (by omega),upd_ne _ _ (by omega)]
 refine⟨_,w,{j:=x.j+1,D:=upd x.D x.j ⟨7,0,0⟩,paid:=upd x.paid x.j false,tag:=nextTag r,f:=upd (upd x.f 0 R0) (x.j+1) Rc,sent:=x.sent,val:=x.val},_,st,sm,hrun,
  ⟨by simp[h.size],?_,?_,Nat.le_succ_of_le h.oj,h.shr,h.hid,fun i hi=>?_,h.eld.app fun op hop=>?_,h.pno,?_,fun k'=>?_,fun i hi=>?_,⟨g',?_,?_⟩,h.norel.app fun op hop=>?_,?_,fun i hi=>?_,fun i hi h1=>?_,fun i hio hi h6=>?_,h.wg,?_,h.chan,h.nodup,fun i=>?_,fun i hi h6 hp=>?_,fun i hi=>?_,h.pst,fun i hi p hp=>?_⟩,.less ?_⟩
 .show x.j+1+mLeft (nextTag r)=n
  rw[nextTag_left];omega
 .show x.j+1+pend (nextTag r)≤n
  rw[nextTag_pend];omega
 .show(upd x.D x.j ⟨7,0,0⟩ i).stage=1
  rw[upd_ne _ _ (by have:=h.oj;omega)];exact h.elder i hi
 .rcases hm op hop with rfl|rfl
  .rw[hX.2];exact .inr (.inr rfl)
  .rw[hY.2];exact .inr (.inr rfl)
 .have:(St.own {j:=x.j+1,D:=upd x.D x.j ⟨7,0,0⟩,paid:=upd x.paid x.j false,tag:=nextTag r,f:=upd (upd x.f 0 R0) (x.j+1) Rc,sent:=x.sent,val:=x.val})=upd (upd x.own 0 own') (x.j+1) ownc:=by
   funext k'
   show(upd (upd x.f 0 R0) (x.j+1) Rc k').own=_
   by_cases e:k'=x.j+1
   .subst e;rw[upd_same,upd_same,c3]
   .rw[upd_ne _ _ e,upd_ne _ _ e]
    by_cases e':k'=0
    .subst e';rw[upd_same,upd_same,r3]
    .rw[upd_ne _ _ e',upd_ne _ _ e'];rfl
  rw[this];exact hb
 .show Rely Ro (upd (upd x.f 0 R0) (x.j+1) Rc k').own (upd (upd x.f 0 R0) (x.j+1) Rc k').w w
  by_cases e:k'=x.j+1
  .subst e;rw[upd_same,c2];exact Rely.refl _ _ _
  .rw[upd_ne _ _ e]
   by_cases e':k'=0
   .subst e';rw[upd_same,r2];exact Rely.refl _ _ _
   .rw[upd_ne _ _ e'];exact h.rely k'
 .have hi:i<x.j+1:=hi
  by_cases e:i=x.j
  .subst e
   refine⟨child,?_,?_⟩
   .have:((gs.setIfInBounds 0 g').push child).size=x.j+1+1:=by simp[h.size]
    rw[show x.j+1=(gs.setIfInBounds 0 g').size by simp[h.size],Array.getElem?_push_size]
   .unfold WSit
    have e7:wKind P ty Wg Ch Ro (pay x.j) (upd x.paid x.j false x.j) (upd x.D x.j ⟨7,0,0⟩ x.j).stage=some (kN (SPay P ty Wg Ch Ro (pay x.j))):=by rw[upd_same,upd_same];rfl
    show(match wKind P ty Wg Ch Ro (pay x.j) (upd x.paid x.j false x.j) (upd x.D x.j ⟨7,0,0⟩ x.j).stage with|some k'=>child=(upd (upd x.f 0 R0) (x.j+1) Rc (x.j+1)).g∧OnWay P Ro (Live ty Wg Ch) false k' (upd (upd x.f 0 R0) (x.j+1) Rc (x.j+1))|none=>_)
    rw[e7,upd_same]
    exact⟨c1.symm,hch⟩
  .obtain⟨g,hg,hsg⟩:=h.wk i (by omega)
   refine⟨g,?_,hsg.congr (upd_ne _ _ e) (upd_ne _ _ e) (hfo i e)⟩
   rw[Array.getElem?_push_lt (by simp[h.size];omega),←Array.getElem?_eq_getElem,Array.getElem?_setIfInBounds_ne (by omega)]
   exact hg
 .rw[Array.getElem?_push_lt (by simp[h.size]),←Array.getElem?_eq_getElem]
  simp[h.size]
 .unfold MSit
  show(match mKind P ty Wg Ch Ro n Anch Done pay (nextTag r) with|some k=>g'=(upd (upd x.f 0 R0) (x.j+1) Rc 0).g∧OnWay P Ro (Live ty Wg Ch) true k (upd (upd x.f 0 R0) (x.j+1) Rc 0)|none=>_)
  rw[hk,hf0]
  exact⟨r1.symm,hnx⟩
 .rcases hm op hop with rfl|rfl
  .rw[hX.2];simp
  .rw[hY.2];simp
 .rw[Deaf_still t 0 _ hst,hdf]
  exact(nextTag_deaf r).symm
 .rw[Deaf_still t _ _ hst]
  show _=(upd x.D x.j ⟨7,0,0⟩ i).deaf
  have hi:i<x.j+1:=hi
  by_cases e:i=x.j
  .subst e
   rw[upd_same]
   exact Deaf_absent fun q op hq e=>by have:=h.base.ct.gs q op hq;omega
  .rw[upd_ne _ _ e];exact h.deafW i (by omega)
 .show(upd x.D x.j ⟨7,0,0⟩ i).deaf=if (upd x.D x.j ⟨7,0,0⟩ i).stage≤5 then 1 else 0
  have h1:(upd x.D x.j ⟨7,0,0⟩ i).stage≠1:=h1
  have hi:i<x.j+1:=hi
  by_cases e:i=x.j
  .subst e;rw[upd_same];rfl
  .rw[upd_ne _ _ e] at h1⊢;exact h.deafS i (by omega) h1
 .have h6:(upd x.D x.j ⟨7,0,0⟩ i).stage≤6:=h6
  have hi:i<x.j+1:=hi
  by_cases e:i=x.j
  .subst e;rw[upd_same] at h6;simp at h6
  .rw[upd_ne _ _ e] at h6
   obtain⟨q,hq⟩:=h.rel i hio (by omega) h6
   refine⟨q,hq.appNot fun op hop=>?_⟩
   rcases hm op hop with rfl|rfl
   .rw[hX.1];omega
   .rw[hY.1];omega
 .show ConcN.Mode (x.j+1) (upd x.D x.j ⟨7,0,0⟩) (nextTag r) st sm
  have:st=((Vc (x.j+1) (upd x.D x.j ⟨7,0,0⟩)+pend (nextTag r):Nat):Int)*KK:=by rw[eV,nextTag_pend,hste];simp[pend]
  rw[this,hsme]
  exact .opn (nextTag_open r) ho' (fun vs e=>absurd e (nextTag_w2 r vs))
 .show i∈x.sent↔i<x.j+1∧upd x.paid x.j false i=true∧_
  by_cases e:i=x.j
  .subst e;rw[upd_same,h.sentOf x.j];simp
  .rw[upd_ne _ _ e,h.sentOf i]
   constructor
   .rintro⟨h1,h2⟩;exact⟨by omega,h2⟩
   .rintro⟨h1,h2⟩;exact⟨by omega,h2⟩
 .have h6:(upd x.D x.j ⟨7,0,0⟩ i).stage≤6:=h6
  have hi:i<x.j+1:=hi
  show upd x.paid x.j false i=true
  by_cases e:i=x.j
  .subst e;rw[upd_same] at h6;simp at h6
  .rw[upd_ne _ _ e] at h6⊢;exact h.paidOf i (by omega) h6 hp
 .show 1≤(upd x.D x.j ⟨7,0,0⟩ i).stage∧(upd x.D x.j ⟨7,0,0⟩ i).stage≤7
  have hi:i<x.j+1:=hi
  by_cases e:i=x.j
  .subst e;rw[upd_same];simp
  .rw[upd_ne _ _ e];exact h.stages i (by omega)
 .have hi:i∈x.sent:=hi
  have hij:=((h.sentOf i).1 hi).1
  have:(St.own {j:=x.j+1,D:=upd x.D x.j ⟨7,0,0⟩,paid:=upd x.paid x.j false,tag:=nextTag r,f:=upd (upd x.f 0 R0) (x.j+1) Rc,sent:=x.sent,val:=x.val}) (i+1)=x.own (i+1):=congrArg Rank.own (hfo i (by omega))
  rw[this]
  exact h.pays i hi p hp
 .show phi n (Vc (x.j+1) (upd x.D x.j ⟨7,0,0⟩)) (nextTag r)+Ssum (x.j+1) (upd x.D x.j ⟨7,0,0⟩)+unpaid (x.j+1) (upd x.paid x.j false)<phi n (Vc x.j x.D) x.tag+Ssum x.j x.D+unpaid x.j x.paid
  rw[eS,eU,htag]
  cases r with
  |zero=>simp only[phi,nextTag];omega
  |succ r=>simp only[phi,nextTag];omega
end
section
variable{P:Program}{ty:TypeId}{Wg Ch:Nat}{Ro Shr:Nat→Prop}{o n cap:Nat}{Anch Done:Stops}{pay:Nat→Option Pay}{rz:Nat}{tm:Bool}{x:St}{gs:Array Goroutine}{w:World}{t:Trace}{st sm:Int}
theorem Turn.le{x':St}(h:Turn P ty Wg Ch Ro n Anch Done pay x' x):cost n x'≤cost n x:=by
 cases h with
 |less h=>exact Nat.le_of_lt h
 |worker h _ _ _=>exact Nat.le_of_eq h
 |main h _ _ _ _ _=>exact Nat.le_of_eq h
theorem Inv.stepW1(h:Inv P ty Wg Ch Ro Shr o n cap Anch Done pay rz tm x gs w t st sm)(hCW:Ch≠Wg)(hn:n-o<2147483648)(sl:Option (Nat×Nat)){a:Goroutine}(ha:gs[0]?=some a)(htag:x.tag=.w1)(hgk:a=(x.f 0).g)(hw:OnWay P Ro (Live ty Wg Ch) true (kM Wg (SW1 P ty Wg Ch Ro Anch Done)) (x.f 0)):WOut P ty Wg Ch Ro Shr o n cap Anch Done pay rz tm x gs w sl t 0:=by
 by_cases hstop:AtStop Ro (Live ty Wg Ch) (kM Wg (SW1 P ty Wg Ch Ro Anch Done)) (x.f 0)
 rotate_left
 .exact h.starterGoes sl ha (by rw[htag];rfl) hgk hw hstop
 have hst:SW1 P ty Wg Ch Ro Anch Done (x.f 0).g w (x.own 0):=hstop w (h.rely 0) h.live
 rw[←hgk] at hst
 have hVj:=Vc_le2 h.elder h.oj
 have hoj:=h.oj
 have hj:x.j+0=n:=by have:=h.started;rw[htag] at this;exact this
 have hmode:=h.mode
 have hwg:=h.wg
 rw[htag] at hmode
 obtain⟨ho,rfl,rfl,_⟩:=hmode.open_inv trivial
 obtain⟨a',hgo,h0,hne⟩:=hst (Vc x.j x.D) (by omega) (by simpa[pend] using hwg)
 by_cases hv:Vc x.j x.D=0
 .refine h.starterBook sl ha hgo (.refl Wg w) (bkS_all bk_rd) (norel_of_Bk bk_rd) .ke (st':=0) (sm':=0) rfl (h0 hv) (by rw[htag];rfl) ?_ (.fin trivial (allQuit_of ho hv)) hCW hj (by simp[pend];omega) (by rw[htag];simp only[phi];omega)
  have e:((Vc x.j x.D+pend .w1:Nat):Int)*KK=0:=by rw[hv];simp[pend]
  rw[e] at hwg
  exact hwg
 .exact h.starterBook sl ha hgo (.refl Wg w) (bkS_all bk_rd) (norel_of_Bk bk_rd) (.w2 (Vc x.j x.D)) rfl (hne hv) (by rw[htag];rfl) hwg (hmode.reopen trivial trivial rfl (fun vs e=>by cases e;omega)) hCW hj (by simp[pend];omega) (by rw[htag];simp only[phi];omega)
set_option maxHeartbeats 1600000 in
theorem Inv.stepStarter(h:Inv P ty Wg Ch Ro Shr o n cap Anch Done pay rz tm x gs w t st sm)(hCW:Ch≠Wg)(hn:n-o<2147483648)(hAn:∀g w own,Anch g w own→OnWay P Ro (Live ty Wg Ch) true (kM Wg (SW1 P ty Wg Ch Ro Anch Done)) ⟨g,w,own⟩)(sl:Option (Nat×Nat)){a:Goroutine}(ha:gs[0]?=some a)(hrun:a.status=.running):WOut P ty Wg Ch Ro Shr o n cap Anch Done pay rz tm x gs w sl t 0 ∨ ∃gs' x' ops,runT P (crowd gs w sl) 0=(.next (crowd gs' w sl),ops)∧Over P ty Wg Ch Ro Shr o n cap Done pay rz tm x' gs' w (t++ops):=by
 have hVj:=Vc_le2 h.elder h.oj
 have hoj:=h.oj
 obtain⟨a₁,ha₁,hm⟩:=h.main
 obtain rfl:a=a₁:=by rw[ha] at ha₁;exact Option.some.inj ha₁
 obtain⟨k,hk,hgk,hw⟩:=hm.run hrun
 have hstart:=h.started
 have hle:=h.le
 have hmode:=h.mode
 have hwg:=h.wg
 by_cases hstop:AtStop Ro (Live ty Wg Ch) k (x.f 0)
 rotate_left
 .exact .inl (h.starterGoes sl ha hk hgk hw hstop)
 have hst:k.Stop (x.f 0).g w (x.own 0):=hstop w (h.rely 0) h.live
 rw[←hgk] at hst
 generalize htag:x.tag=tag at hk hmode hstart hle
 cases tag with
 |sp r s=>
  have hj:x.j+(r+1)=n:=hstart
  match s,hk with
  |5,hk=>
   obtain rfl:kM Wg (SKdS P ty Wg Ch Ro pay (n-(r+1)) (Spawns P ty Wg Ch Ro n Anch pay r))=k:=Option.some.inj hk
   obtain⟨a',hgo,hk2⟩:SKdS P ty Wg Ch Ro pay (n-(r+1)) (Spawns P ty Wg Ch Ro n Anch pay r) a w (x.own 0):=hst
   exact .inl (h.starterBook sl ha hgo (.refl Wg w) (bkS_all bk_dis) (norel_of_Bk bk_dis) (.sp r 4) rfl hk2 (by rw[htag];rfl) hwg (hmode.reopen trivial trivial rfl (fun _ e=>by cases e)) hCW hj (by simp[pend];omega) (by rw[htag];simp only[phi];omega))
  |4,hk=>
   obtain rfl:kM Wg (SA1 P ty Wg Ch Ro pay (n-(r+1)) (Spawns P ty Wg Ch Ro n Anch pay r))=k:=Option.some.inj hk
   have hall:SA1 P ty Wg Ch Ro pay (n-(r+1)) (Spawns P ty Wg Ch Ro n Anch pay r) a w (x.own 0):=hst
   obtain⟨ho,rfl,rfl,_⟩:=hmode.open_inv trivial
   obtain⟨a',hgo,hk2⟩:=hall (Vc x.j x.D) (by omega) (by simpa[pend] using hwg)
   refine .inl (h.starterBook sl ha hgo (aside_setCell w (stA Wg) _) (bkS_all bk_rw) (norel_of_Bk bk_rw) (.sp r 3) rfl hk2 (by rw[htag];rfl) (hwg.setSt _) ?_ hCW hj (by simp[pend];omega) (by rw[htag];simp only[phi];omega))
   have e:(((Vc x.j x.D:Nat):Int)+1)*KK=((Vc x.j x.D+pend (.sp r 3):Nat):Int)*KK:=by simp[pend]
   rw[e]
   exact .opn trivial ho (by simp)
  |3,hk=>
   obtain rfl:kM Wg (SKeS P ty Wg Ch Ro pay (n-(r+1)) (Spawns P ty Wg Ch Ro n Anch pay r))=k:=Option.some.inj hk
   obtain⟨a',hgo,hk2⟩:SKeS P ty Wg Ch Ro pay (n-(r+1)) (Spawns P ty Wg Ch Ro n Anch pay r) a w (x.own 0):=hst
   exact .inl (h.starterBook sl ha hgo (.refl Wg w) (bkS_all bk_en) (norel_of_Bk bk_en) (.sp r 2) rfl hk2 (by rw[htag];rfl) hwg (hmode.reopen trivial trivial rfl (fun _ e=>by cases e)) hCW hj (by simp[pend];omega) (by rw[htag];simp only[phi];omega))
  |2,hk=>
   obtain rfl:kM Wg (SGo P ty Wg Ch Ro pay (n-(r+1)) (Spawns P ty Wg Ch Ro n Anch pay r))=k:=Option.some.inj hk
   exact .inl (h.goes sl ha htag hgk hst)
  |0,hk=>cases hk
  |1,hk=>cases hk
  |s+6,hk=>cases hk
 |kd=>
  obtain rfl:kM Wg (SKd P ty Wg Ch Ro Anch)=k:=Option.some.inj hk
  obtain⟨a',hgo,hk2⟩:SKd P ty Wg Ch Ro Anch a w (x.own 0):=hst
  exact .inl (h.starterBook sl ha hgo (.refl Wg w) (bkS_all bk_dis) (norel_of_Bk bk_dis) .anch rfl hk2 (by rw[htag];rfl) hwg (hmode.reopen trivial trivial rfl (fun _ e=>by cases e)) hCW hstart hle (by rw[htag];have:x.j+0=n:=hstart;simp only[phi];omega))
 |anch=>
  obtain rfl:kM Wg Anch=k:=Option.some.inj hk
  have hA:Anch a w (x.own 0):=hst
  have h1:=hAn a w _ hA
  have hI:Inv P ty Wg Ch Ro Shr o n cap Anch Done pay rz tm (x.move ⟨a,w,x.own 0⟩ .w1) gs w t st sm:=by
   refine⟨h.size,hstart,hle,h.oj,h.shr,h.hid,h.elder,h.eld,h.pno,?_,fun k=>?_,fun i hi=>?_,⟨a,ha,?_⟩,h.norel,?_,h.deafW,h.deafS,h.rel,hwg,hmode.reopen trivial trivial rfl (fun _ e=>by cases e),h.chan,h.nodup,h.sentOf,h.paidOf,h.stages,h.pst,fun i hi p hp=>?_⟩
   .rw[move_own,upd_self];exact h.base
   .show Rely Ro ((x.move ⟨a,w,x.own 0⟩ .w1).own k) (upd x.f 0 _ k).w w
    rw[move_own,upd_self]
    by_cases e:k=0
    .subst e;rw[upd_same];exact Rely.refl _ _ _
    .rw[upd_ne _ _ e];exact h.rely k
   .obtain⟨y,hy,hsy⟩:=h.wk i hi
    exact⟨y,hy,hsy.congr rfl rfl (move_wk x _ _ i)⟩
   .unfold MSit
    show a=(upd x.f 0 ⟨a,w,x.own 0⟩ 0).g∧OnWay P Ro (Live ty Wg Ch) true (kM Wg (SW1 P ty Wg Ch Ro Anch Done)) (upd x.f 0 ⟨a,w,x.own 0⟩ 0)
    rw[upd_same]
    exact⟨rfl,h1⟩
   .rw[h.deaf0,htag];rfl
   .rw[move_own,upd_self];exact h.pays i hi p hp
  have hlt:cost n (x.move ⟨a,w,x.own 0⟩ .w1)<cost n x:=by
   show phi n (Vc x.j x.D) .w1+Ssum x.j x.D+unpaid x.j x.paid<phi n (Vc x.j x.D) x.tag+Ssum x.j x.D+unpaid x.j x.paid
   rw[htag];simp only[phi];omega
  have e0:(x.move ⟨a,w,x.own 0⟩ .w1).f 0=⟨a,w,x.own 0⟩:=show upd x.f 0 _ 0=_ from upd_same _ _ _
  obtain⟨gs',w',x',ops,st',sm',e1,e2,e3⟩:=hI.stepW1 hCW hn sl ha rfl (by rw[e0]) (by rw[e0];exact h1)
  exact .inl ⟨gs',w',x',ops,st',sm',e1,e2,.less (Nat.lt_of_le_of_lt e3.le hlt)⟩
 |w1=>
  obtain rfl:kM Wg (SW1 P ty Wg Ch Ro Anch Done)=k:=Option.some.inj hk
  exact .inl (h.stepW1 hCW hn sl ha htag hgk hw)
 |w2 vs=>
  obtain rfl:kM Wg (SW2 P ty Wg Ch Ro Anch Done vs)=k:=Option.some.inj hk
  have hall:SW2 P ty Wg Ch Ro Anch Done vs a w (x.own 0):=hst
  have hj:x.j+0=n:=hstart
  obtain⟨ho,rfl,rfl,hw2⟩:=hmode.open_inv trivial
  obtain⟨hle2,h1⟩:=hw2 vs rfl
  obtain⟨hhit,hmiss⟩:=hall (Vc x.j x.D) (by omega) (by simpa[pend] using hwg)
  by_cases e:Vc x.j x.D=vs
  .obtain⟨a',hgo,hk2⟩:=hhit e
   exact .inl (h.starterBook sl ha hgo (aside_setCell w (stA Wg) _) (bkS_all bk_rw) (norel_of_Bk bk_rw) .w3 rfl hk2 (by rw[htag];rfl) (hwg.setSt _) (.reg trivial ho (by omega)) hCW hj hle (by rw[htag];simp only[phi];omega))
  .obtain⟨a',hgo,hk2⟩:=hmiss e
   exact .inl (h.starterBook sl ha hgo (.refl Wg w) (bkS_all bk_rd) (norel_of_Bk bk_rd) .anch rfl hk2 (by rw[htag];rfl) hwg (hmode.reopen trivial trivial rfl (fun _ e=>by cases e)) hCW hj hle (by rw[htag];simp only[phi];omega))
 |w3=>
  obtain rfl:kM Wg (SW3 P ty Wg Ch Ro Done)=k:=Option.some.inj hk
  obtain⟨_,hoff,hblk,htake⟩:SW3 P ty Wg Ch Ro Done a w (x.own 0):=hst
  generalize hcp:CTag.w3=tg at hmode
  cases hmode with
  |opn h1 _ _=>subst hcp;exact h1.elim
  |reg h1 h2 h3=>exact .inl (h.starterBlocks sl ha htag hgk hw hstop (hblk ⟨_,hwg⟩) (.reg trivial h2 h3))
  |last L h1 h2 h3 h4=>exact .inl (h.starterBlocks sl ha htag hgk hw hstop (hblk ⟨_,hwg⟩) (.last L trivial h2 h3 h4))
  |sema h2=>
   obtain⟨a',hgo,hk2⟩:=htake hwg
   exact .inl (h.starterBook sl ha hgo (aside_setCell w (smA Wg) _) (bkS_all bk_sem) (norel_of_Bk bk_sem) .w4 rfl hk2 (by rw[htag];rfl) (hwg.setSm 0) (.fin trivial h2) hCW hstart hle (by rw[htag];simp only[phi];omega))
  |fin h1 _=>subst hcp;exact h1.elim
 |blk=>cases hk
 |w4=>
  obtain rfl:kM Wg (SW4 P ty Wg Ch Ro Done)=k:=Option.some.inj hk
  have hx:SW4 P ty Wg Ch Ro Done a w (x.own 0):=hst
  obtain⟨hq,rfl,rfl⟩:=hmode.fin_inv trivial
  obtain⟨a',hgo,hk2⟩:=hx hwg
  exact .inl (h.starterBook sl ha hgo (.refl Wg w) (bkS_all bk_rd) (norel_of_Bk bk_rd) .ke rfl hk2 (by rw[htag];rfl) hwg (.fin trivial hq) hCW hstart hle (by rw[htag];simp only[phi];omega))
 |ke=>
  obtain rfl:kM Wg (SKe P ty Wg Ch Ro Done)=k:=Option.some.inj hk
  obtain⟨a',hgo,hk2⟩:SKe P ty Wg Ch Ro Done a w (x.own 0):=hst
  obtain⟨hq,rfl,rfl⟩:=hmode.fin_inv trivial
  exact .inl (h.starterBook sl ha hgo (.refl Wg w) (bkS_all bk_en) (norel_of_Bk bk_en) .acq rfl hk2 (by rw[htag];rfl) hwg (.fin trivial hq) hCW hstart hle (by rw[htag];simp only[phi];omega))
 |acq=>
  obtain rfl:kM Wg (SAcq P Wg Done)=k:=Option.some.inj hk
  obtain⟨a',hgo,hr',hdone⟩:SAcq P Wg Done a w (x.own 0):=hst
  obtain⟨hq,rfl,rfl⟩:=hmode.fin_inv trivial
  have hj:x.j=n:=by have:x.j+0=n:=hstart;omega
  obtain⟨b1,b2⟩:=h.base.book h.shr.1 (i:=0) (by omega) (.refl Wg w) (.refl w) (.refl w) (bkS_mk (m:=.acquire (stA Wg)) rfl fun B hB=>hB) a.frame.fn a.frame.place
  have hrun':=runT_crowd_go (P:=P) (sl:=sl) (i:=0) ha (by simpa using hgo)
  have hd0:Deaf t 0=0:=by rw[h.deaf0,htag];rfl
  refine .inr ⟨_,x.move ⟨a',w,x.own 0⟩ .acq,_,hrun',by simp[h.size,hj],by rw[move_own,upd_self,←hj];exact b1,⟨a',get_map_set_same _ _ _ (by rw[h.size];omega),?_⟩,fun i hi=>?_,?_,?_,h.eld.app fun op hop=>.inl (g_of_ofEvents op hop),h.norel.app (norel_of (by intro e he;simp at he;subst he;simp[Go.ConcR.mk])),hwg,h.chan,h.nodup,fun i=>?_,fun i hi p hp=>by rw[move_own,upd_self];exact h.pays i hi p hp⟩
  .show a'=(upd x.f 0 ⟨a',w,x.own 0⟩ 0).g∧a'.status=.running∧Done a' w ((x.move ⟨a',w,x.own 0⟩ .acq).own 0)
   rw[move_own,upd_self,upd_same]
   exact⟨rfl,hr',hdone⟩
  .obtain⟨y,hy,hsy⟩:=h.wk i (by omega)
   refine⟨y,by rw[get_map_set _ _ _ _ (by omega),hy,Option.map_some,hsy.woken],?_⟩
   rw[Deaf_other t (by omega) _ g_of_ofEvents,h.deafW i (by omega)]
   unfold WSit at hsy
   rw[hq i (by omega)] at hsy
   exact hsy.2
  .rw[Deaf_own,hd0];rfl
  .have e1:MemOp.ofEvents 0 a.frame.fn a.frame.place #[Go.ConcR.mk (.acquire (stA Wg))]=#[{g:=0,fn:=a.frame.fn,pos:=a.frame.place,act:=.mark (.acquire (stA Wg))}]:=by rw[ofEvents_eq];simp[ofEvent_mk]
   have hy:(t++#[({g:=0,fn:=a.frame.fn,pos:=a.frame.place,act:=.mark (.acquire (stA Wg))}:MemOp)])[t.size]?=some {g:=0,fn:=a.frame.fn,pos:=a.frame.place,act:=.mark (.acquire (stA Wg))}:=by simp
   refine⟨t.size,by rw[e1,act?_of hy],by rw[e1];simp[Trace.g?],by rw[e1];exact⟨0,by simp[Trace.g?],by rw[deaf_old (Nat.le_refl _)];exact hd0⟩,fun i hio hi=>?_⟩
   obtain⟨r,hr⟩:=h.rel i hio (by omega) (by rw[hq i (by omega)];omega)
   exact⟨r,hr.appOther g_of_ofEvents (by omega),lt_of_act? hr.act⟩
  .rw[show(x.move ⟨a',w,x.own 0⟩ .acq).sent=x.sent from rfl,h.sentOf i,hj]
   constructor
   .rintro⟨h1,_,h2⟩;exact⟨h1,h2⟩
   .rintro⟨h1,h2⟩;exact⟨h1,h.paidOf i (by omega) (by rw[hq i (by omega)];omega) h2,h2⟩
 |ret=>cases hk
end
end
end Go.Crew
