/- Of the proof of BearingTurned: Crew13 Crew14 Crew15 Crew16 Mir1 Low1 End1 Mir2 Mir3 Mir4 Mono1 Mir5 Mir6 Mir7 -/
import Derived.Conc.CrowdRun
import Derived.Conc.LoneCalls
import Derived.Test.YtlpjchhijenlbaaGreatA18
set_option linter.unusedSectionVars false
set_option linter.unusedVariables false
set_option linter.unusedSimpArgs false
section
section
namespace Go
namespace Crew
open Go.Conc Go.ConcN Go.Ren
open Go.ConcR (WgAt stA smA)
variable [au]
section
variable {P:Program} {ty:TypeId} {Wg Ch:Nat} {Ro Shr:Nat→Prop} {o n cap:Nat} {Anch Done:Stops} {pay:Nat→Option Value} {rz:Nat} {tm:Bool}
variable {x:St} {gs:Array Goroutine} {w:World} {t:Trace} {st sm:Int}
theorem Base.at {j:Nat} {own:Nat→Nat→Prop} (h:Base Ro Shr o j own w t) (d:Nat):Base Ro Shr o j own (w.at d) t:=⟨h.ap,h.vG,h.jT,h.qi,h.ct,h.low,h.told⟩
theorem Inv.at (h:Inv P ty Wg Ch Ro Shr o n cap Anch Done pay rz tm x gs w t st sm) (d:Nat):Inv P ty Wg Ch Ro Shr o n cap Anch Done pay rz tm x gs (w.at d) t st sm:=
 ⟨h.size,h.started,h.le,h.oj,h.shr,h.hid,h.elder,h.F6,h.Zw,h.base.at d,fun i=>⟨(h.rely i).size,(h.rely i).keep,(h.rely i).cells,⟨(h.rely i).chans.chan,(h.rely i).chans.os,(h.rely i).chans.output⟩⟩,h.wk,h.main,h.norel,h.deaf0,h.deafW,h.AU,h.rel,h.wg,h.mode,h.chan,h.nodup,h.mG,h.jV,h.stages⟩
theorem WSit.running_of {i:Nat} {g:Goroutine} (h:WSit P ty Wg Ch Ro pay x i g) (hs:(x.D i).stage≠1):g.status = .running:=by
 unfold WSit at h
 split at h
 ·obtain ⟨rfl,h⟩:=h
  exact h.status
 ·exact absurd h.1 hs
theorem Inv.WV (h:Inv P ty Wg Ch Ro Shr o n cap Anch Done pay rz tm x gs w t st sm):∃ (i:Nat) (g:Goroutine),gs[i]? = some g∧g.status = .running:=by
 obtain ⟨a,ha,hm⟩:=h.main
 unfold oh at hm
 split at hm
 ·obtain ⟨rfl,hw⟩:=hm
  exact ⟨0,_,ha,hw.status⟩
 ·obtain ⟨e,_⟩:=hm
  have hmode:=h.mode
  rw [e] at hmode
  cases hmode with
  | opn h1 _ _=>exact h1.elim
  | reg _ _ h3=>
   obtain ⟨i,hi,h5⟩:=exists_counted h3
   obtain ⟨g,hg,hs⟩:=h.wk i hi
   exact ⟨i+1,g,hg,hs.running_of (by omega)⟩
  | last L _ h2 h3 _=>
   obtain ⟨g,hg,hs⟩:=h.wk L h2
   exact ⟨L+1,g,hg,hs.running_of (by omega)⟩
  | fin h1 _=>exact h1.elim
theorem Inv.awake (h:Inv P ty Wg Ch Ro Shr o n cap Anch Done pay rz tm x gs w t st sm):∀ g∈gs,awake g:=by
 intro g hg tm'
 obtain ⟨i,hi⟩:=Array.mem_iff_getElem?.1 hg
 cases i with
 | zero=>
  obtain ⟨a,ha,hm⟩:=h.main
  rw [ha] at hi;cases hi
  unfold oh at hm
  split at hm
  ·obtain ⟨rfl,hw⟩:=hm
   rw [hw.status];simp
  ·obtain ⟨_,rfl,_⟩:=hm
   simp
 | succ i=>
  have hlt:i<x.j:=by have:=(Array.getElem?_eq_some_iff.1 hi).1;rw [h.size] at this;omega
  obtain ⟨g',hg',hs⟩:=h.wk i hlt
  rw [hi] at hg';cases hg'
  rcases hs.status with h | h<;>rw [h]<;>simp
theorem Inv.step (h:Inv P ty Wg Ch Ro Shr o n cap Anch Done pay rz tm x gs w t st sm) (hCW:Ch≠Wg) (hcap:n - o≤cap) (hn:n - o<2147483648) (hAn:∀ g w own,Anch g w own→aC P Ro (Live ty Wg Ch) true (kM Wg (Nr P ty Wg Ch Ro Anch Done)) ⟨g,w,own⟩) (sl:Option (Nat × Nat)) :
  (∃ gs' w' sl' x' ops st' sm',stepT P (crowd gs w sl)=(.next (crowd gs' w' sl'),ops)∧Inv P ty Wg Ch Ro Shr o n cap Anch Done pay rz tm x' gs' w' (t++ops) st' sm'∧Turn P ty Wg Ch Ro n Anch Done pay x' x) ∨
  ∃ gs' w' sl' x' ops,stepT P (crowd gs w sl)=(.next (crowd gs' w' sl'),ops)∧Over P ty Wg Ch Ro Shr o n cap Done pay rz tm x' gs' w' (t++ops):=by
 obtain ⟨i,g,d,sl',hg,hrun,hstep⟩:=crowd_pick (P:=P) (w:=w) (sl:=sl) h.awake h.WV
 rw [hstep]
 have h':=h.at d
 cases i with
 | zero=>
  rcases h'.KD hCW hn hAn sl' hg hrun with ⟨gs',w',x',ops,st',sm',e1,e2,e3⟩ | ⟨gs',x',ops,e1,e2⟩
  ·exact .inl ⟨gs',w',sl',x',ops,st',sm',e1,e2,e3⟩
  ·exact .inr ⟨gs',_,sl',x',ops,e1,e2⟩
 | succ i=>
  have hi:i<x.j:=by have:=(Array.getElem?_eq_some_iff.1 hg).1;rw [h.size] at this;omega
  obtain ⟨gs',w',x',ops,st',sm',e1,e2,e3⟩:=h'.stepWorker hCW hcap hn sl' hi hg hrun
  exact .inl ⟨gs',w',sl',x',ops,st',sm',e1,e2,e3⟩
def rP (P:Program) (ty:TypeId) (Wg Ch:Nat) (Ro Shr:Nat→Prop) (o n cap:Nat) (Anch Done:Stops) (pay:Nat→Option Value) (rz:Nat) (tm:Bool) (x:St):Prop:=
 ∀ gs w sl t st sm,Inv P ty Wg Ch Ro Shr o n cap Anch Done pay rz tm x gs w t st sm →
  ∃ N gs' w' sl' t' x',runNT P N (crowd gs w sl) t=(.next (crowd gs' w' sl'),t')∧Over P ty Wg Ch Ro Shr o n cap Done pay rz tm x' gs' w' t'
theorem SV (hCW:Ch≠Wg) (hcap:n - o≤cap) (hn:n - o<2147483648) (hAn:∀ g w own,Anch g w own→aC P Ro (Live ty Wg Ch) true (kM Wg (Nr P ty Wg Ch Ro Anch Done)) ⟨g,w,own⟩) :
  ∀ (c:Nat) (x:St),cost n x=c→rP P ty Wg Ch Ro Shr o n cap Anch Done pay rz tm x:=by
 intro c
 induction c using Nat.strongRecOn with
 | ind c ihc=>
  have tup:∀ (s:Nat→Option Kind) (j:Nat) (f:Nat→Rank × Nat),Acc (One (fun i=>Yn P ty Wg Ch Ro (s i)) j) f→∀ x:St,cost n x=c→x.j=j→(∀ i,i<j→x.kind P ty Wg Ch Ro pay i=s i)→x.wk=f→rP P ty Wg Ch Ro Shr o n cap Anch Done pay rz tm x:=by
   intro s j f hacc
   induction hacc with
   | intro f _ ihf=>
    have key:∀ x:St,cost n x=c→x.j=j→(∀ i,i<j→x.kind P ty Wg Ch Ro pay i=s i)→x.wk=f →
      (∀ x':St,cost n x'=c→x'.j=j→(∀ i,i<j→x'.kind P ty Wg Ch Ro pay i=s i)→x'.wk=f →
       ((x'.tag=x.tag∧∃ k,qY P ty Wg Ch Ro n Anch Done pay x.tag=some k∧Child P Ro (Live ty Wg Ch) true k (x'.f 0) (x.f 0))∨(x.tag = .w3∧x'.tag = .blk))→rP P ty Wg Ch Ro Shr o n cap Anch Done pay rz tm x') →
      rP P ty Wg Ch Ro Shr o n cap Anch Done pay rz tm x:=by
     intro x hc hj hs hf hmain gs w sl t st sm hI
     rcases hI.step hCW hcap hn hAn sl with ⟨gs',w',sl',x',ops,st',sm',e1,e2,e3⟩ | ⟨gs',w',sl',x',ops,e1,e2⟩
     ·have hx':rP P ty Wg Ch Ro Shr o n cap Anch Done pay rz tm x':=by
       cases e3 with
       | less h=>exact ihc _ (hc▸h) x' rfl
       | worker h hj' hs' ho=>
        obtain ⟨i,hi,h1,h2⟩:=ho
        refine ihf x'.wk ⟨i,hj▸hi,?_,fun i' hi'=>by rw [←hf];exact h2 i' hi'⟩ x' (h.trans hc) (hj'.trans hj) (fun i hi=>?_) rfl
        ·show Yn P ty Wg Ch Ro (s i) (x'.wk i) (f i)
         rw [←hs i (hj▸hi),← hf];exact h1
        ·rw [←hs i hi]
         obtain ⟨h3,h4⟩:=hs' i (by rw [hj];exact hi)
         unfold St.kind
         rw [h3,h4]
       | main h hj' hD hp hf' ho=>
        refine hmain x' (h.trans hc) (hj'.trans hj) (fun i hi=>?_) ?_ ho
        ·rw [←hs i hi]
         unfold St.kind
         rw [hD,hp]
        ·rw [←hf]
         funext i
         unfold St.wk
         rw [hf' i,hD]
      obtain ⟨N,gs'',w'',sl'',t'',x'',r1,r2⟩:=hx' gs' w' sl' _ st' sm' e2
      exact ⟨N+1,gs'',w'',sl'',t'',x'',by simp only [runNT,e1];exact r1,r2⟩
     ·exact ⟨1,gs',w',sl',_,x',by simp only [runNT,e1],e2⟩
    have blk:∀ x:St,cost n x=c→x.j=j→(∀ i,i<j→x.kind P ty Wg Ch Ro pay i=s i)→x.wk=f→x.tag = .blk→rP P ty Wg Ch Ro Shr o n cap Anch Done pay rz tm x:=fun x hc hj hs hf ht=>
     key x hc hj hs hf fun x' _ _ _ _ ho=>by
      rcases ho with ⟨_,k,hk,_⟩ | ⟨h,_⟩
      ·rw [ht] at hk;cases hk
      ·rw [ht] at h;cases h
    have run:∀ (k:Kind) (r:Rank),Acc (Child P Ro (Live ty Wg Ch) true k) r→∀ x:St,cost n x=c→x.j=j→(∀ i,i<j→x.kind P ty Wg Ch Ro pay i=s i)→x.wk=f→qY P ty Wg Ch Ro n Anch Done pay x.tag=some k→x.f 0=r→rP P ty Wg Ch Ro Shr o n cap Anch Done pay rz tm x:=by
     intro k r ha
     induction ha with
     | intro r _ ihr=>
      intro x hc hj hs hf hk hr
      refine key x hc hj hs hf fun x' c1 c2 c3 c4 ho=>?_
      rcases ho with ⟨ht,k',hk',hch⟩ | ⟨_,h2⟩
      ·rw [hk] at hk'
       obtain rfl:=Option.some.inj hk'
       exact ihr (x'.f 0) (hr▸hch) x' c1 c2 c3 c4 (by rw [ht];exact hk) rfl
      ·exact blk x' c1 c2 c3 c4 h2
    intro x hc hj hs hf gs w sl t st sm hI
    obtain ⟨a,ha,hm⟩:=hI.main
    unfold oh at hm
    split at hm
    ·exact run _ _ (Cb hm.2) x hc hj hs hf ‹_› rfl gs w sl t st sm hI
    ·exact blk x hc hj hs hf hm.1 gs w sl t st sm hI
  intro x hc gs w sl t st sm hI
  refine tup (fun i=>x.kind P ty Wg Ch Ro pay i) x.j x.wk (IW _ _ _ fun i hi=>?_) x hc rfl (fun _ _=>rfl) rfl gs w sl t st sm hI
  obtain ⟨g,_,hs⟩:=hI.wk i hi
  unfold WSit at hs
  cases hk:x.kind P ty Wg Ch Ro pay i with
  | some k=>
   rw [show lV P ty Wg Ch Ro (pay i) (x.paid i) (x.D i).stage=some k from hk] at hs
   exact InvImage.accessible (f:=fun a:Rank × Nat=>a.1) (Cb hs.2)
  | none=>exact InvImage.accessible (f:=fun a:Rank × Nat=>a.2) (Nat.lt_wfRel.wf.apply _)
end
end Crew
end Go
end
end
section
section
namespace Go
namespace Crew
open Go.Conc Go.ConcN Go.Ren
open Go.ConcR (WgAt stA smA g_of_ofEvents KK)
variable [au]
def tV (own:Nat→Prop):Nat→Nat→Prop:=fun k b=>k=0∧own b
structure Calm (P:Program) (Ro Shr:Nat→Prop) (o:Nat) (own:Nat→Prop) (gs:Array Goroutine) (w:World) (t:Trace) (q:Nat→Nat):Prop where
 base:Base Ro Shr o o (tV own) w t
 F6:qJ o t
 hears:Deaf t 0=0
 size:gs.size=o+1
 old:∀ i,i<o→∃ g,gs[i+1]? = some g∧QuitsD P (q i) (Deaf t (i+1)) g
section
variable {P:Program} {ty:TypeId} {Wg Ch:Nat} {Ro Shr:Nat→Prop} {o n cap:Nat} {Anch Done:Stops} {pay:Nat→Option Value} {rz:Nat} {tm:Bool}
variable {own:Nat→Prop} {gs:Array Goroutine} {w:World} {t:Trace} {q:Nat→Nat}
theorem QK (own own':Nat→Prop):upd (tV own) 0 own'=tV own':=by
 funext k b
 by_cases e:k=0
 ·subst e;rw [upd_same];simp [tV]
 ·rw [upd_ne _ _ e];simp [tV,e]
theorem Ip (own:Nat→Prop):tV own 0=own:=by funext b;simp [tV]
theorem Calm.handed (h:Calm P Ro Shr o own gs w t q):t.HandedOver:=fun i g hg hne hc=>by
 obtain ⟨op,ho,hog⟩:=Option.map_eq_some_iff.1 hg
 exact h.F6 i g hg hne (by have:=h.base.ct.gs i op ho;omega) hc
theorem LH {t:Trace} {i j:Nat} (hj:t.g? j=some 0) (hb:HappensBefore t i j):Knows t 0 i:=by
 obtain ⟨op,ho,hog⟩:=Option.map_eq_some_iff.1 hj
 exact ⟨j,op,ho,hog,.inr hb⟩
theorem xQ {t:Trace} (h1:Told Shr t) (h2:t.HandedOver) {l:Loc} (hl:¬ GM Shr l):Perm t 0 l:=by
 intro i a ha hal
 obtain ⟨x,hx,hxa⟩:=touch_of ha
 rcases h1 i x a hx hxa with h3 | h3 | ⟨h3,_⟩
 ·rw [←h3];exact knows_own hx
 ·by_cases e:x.g=0
  ·rw [←e];exact knows_own hx
  ·obtain ⟨j,hj,hb⟩:=h2 i x.g (by simp [Trace.g?,hx]) e h3
   exact LH hj hb
 ·exact absurd (hal▸h3) hl
theorem Calm.enter {a:Rank} (h:Calm P Ro Shr o a.own gs w t q) {r:Nat} (ha:gs[0]? = some a.g) (hr:aI Ro a.own a.w w) (hs:Spawns P ty Wg Ch Ro (o+r) Anch pay r a)
  (hshr:Shr Wg∧Shr Ch) (hhid:∀ b,au.ch b→Shr b) (hwg:WgAt ty Wg w 0 0) (hch:w.heap[Ch]? = some (.chan cap #[] false 0 rz tm)) (hno:NoRelease (stA Wg) t) (hp:∀ i,i<o→pay i=none) :
  ∃ x,Inv P ty Wg Ch Ro Shr o (o+r) cap Anch Done pay rz tm x gs w t 0 0∧x.f 0=a:=by
 obtain ⟨k,hk,hw⟩:=Cj (Done:=Done) hs
 refine ⟨{ j:=o,D:=fun i=>⟨1,q i,Deaf t (i+1)⟩,paid:=fun _=>false,tag:=dV r,f:=fun k=>if k=0 then a else ⟨a.g,w,fun _=>False⟩,sent:=[] },
  ⟨h.size,by show o+Fv (dV r)=o+r;rw [Ae],by show o+pend (dV r)≤o+r;rw [oP];omega,Nat.le_refl _,hshr,hhid,fun _ _=>rfl,h.F6,hp,?_,fun k=>?_,fun i hi=>?_,⟨a.g,ha,?_⟩,hno,?_,fun _ _=>rfl,fun _ _ h1=>absurd rfl h1,fun i (h1:o≤i) (h2:i<o)=>absurd h2 (Nat.not_lt.2 h1),hwg,?_,hch,by simp,fun i=>by simp,fun i hi _ hps=>?_,fun _ _=>⟨Nat.le_refl 1,(by decide:1≤7)⟩⟩,rfl⟩
 ·have:(St.own { j:=o,D:=fun i=>⟨1,q i,Deaf t (i+1)⟩,paid:=fun _=>false,tag:=dV r,f:=fun k=>if k=0 then a else ⟨a.g,w,fun _=>False⟩,sent:=[] })=tV a.own:=by
   funext k b
   show (if k=0 then a else ⟨a.g,w,fun _=>False⟩:Rank).own b=_
   by_cases e:k=0
   ·subst e;simp [tV]
   ·simp [tV,e]
  rw [this];exact h.base
 ·show aI Ro (if k=0 then a else ⟨a.g,w,fun _=>False⟩:Rank).own (if k=0 then a else ⟨a.g,w,fun _=>False⟩:Rank).w w
  split
  ·exact hr
  ·exact aI.refl _ _ _
 ·obtain ⟨g,hg,hq⟩:=h.old i hi
  exact ⟨g,hg,by unfold WSit;exact ⟨rfl,hq⟩⟩
 ·unfold oh
  show (match qY P ty Wg Ch Ro (o+r) Anch Done pay (dV r) with | some k=>a.g=a.g∧aC P Ro (Live ty Wg Ch) true k a | none=>_)
  rw [hk]
  exact ⟨rfl,hw⟩
 ·rw [h.hears];exact (Af r).symm
 ·show ConcN.Mode o (fun i=>⟨1,q i,Deaf t (i+1)⟩) (dV r) 0 0
  have hv:Vc o (fun i=>(⟨1,q i,Deaf t (i+1)⟩:WD))=0:=by
   have:=J4 (o:=o) (j:=o) (D:=fun i=>(⟨1,q i,Deaf t (i+1)⟩:WD)) (fun _ _=>rfl) (Nat.le_refl _)
   omega
  have e:(0:Int)=((Vc o (fun i=>(⟨1,q i,Deaf t (i+1)⟩:WD))+pend (dV r):Nat):Int)*KK:=by rw [hv,oP];simp
  have:=ConcN.Mode.opn (j:=o) (D:=fun i=>(⟨1,q i,Deaf t (i+1)⟩:WD)) (Ad r) (fun _ _=>.inr (.inr (.inr rfl))) (fun vs e=>absurd e (Fh r vs))
  rwa [←e] at this
 ·rw [hp i hi] at hps;cases hps
theorem Over.calm {x:St} (h:Over P ty Wg Ch Ro Shr o n cap Done pay rz tm x gs w t):Calm P Ro Shr n (x.own 0) gs w t (fun i=>(x.D i).fuel):=by
 have hh:qJ n t:=by
  intro i g hg hne hgn hc
  rcases Nat.lt_or_ge o g with hlt | hge
  ·obtain ⟨q,hq,hq0,hqh,hall⟩:=h.acq
   obtain ⟨r,hr,hrq⟩:=hall (g - 1) (by omega) (by omega)
   rw [show g - 1+1=g by omega] at hr
   have edge:HappensBefore t r q:=.single (.inr ⟨.marked hrq (.inr hr.act) hq (fun k _ _=>h.norel k),hr.heard,hqh⟩)
   have hle:i≤r:=Nat.le_of_not_lt fun hlt=>hr.after i hlt hg hc
   rcases Nat.lt_or_ge i r with hlt | hge
   ·exact ⟨q,hq0,.trans (.single (.inl ⟨hlt,g,hg,hr.g⟩)) edge⟩
   ·obtain rfl:i=r:=by omega
    exact ⟨q,hq0,edge⟩
  ·exact h.F6 i g hg hne hge hc
 have hov:t.HandedOver:=fun i g hg hne hc=>by
  obtain ⟨op,ho,hog⟩:=Option.map_eq_some_iff.1 hg
  exact hh i g hg hne (by have:=h.base.ct.gs i op ho;omega) hc
 refine ⟨⟨⟨h.base.ap.zM,fun k b hb=>h.base.ap.free 0 b hb.2,fun k k' b hb hb'=>hb.1.trans hb'.1.symm,fun k b hk hb=>by have:=hb.1;omega⟩,h.base.vG,h.base.jT,fun k b hb=>h.base.qi 0 b hb.2,?_,h.base.low,h.base.told⟩,hh,h.deaf0,h.size,h.quits⟩
 exact ⟨h.base.ct.quiet,fun k k1 _ l ⟨b,_,hb⟩=>absurd hb.1 (by omega),fun k _ kn l hl=>absurd hl.1 (by omega),fun l hs _=>xQ h.base.told hov hs,fun l hs _=>PermW.of (xQ h.base.told hov hs),h.base.ct.nr,h.base.ct.gs⟩
end
end Crew
end Go
end
end
section
section
namespace Go
namespace Crew
open Go.Conc Go.ConcN Go.Ren
open Go.ConcR (WgAt stA smA g_of_ofEvents KK bk_of_mute)
section
variable {P:Program} {Ro Shr:Nat→Prop} {o:Nat}
theorem Fe {es:Array Event} (h:∀ e∈es,e.mute=true) (A:Addr):∀ e∈es,e.loc ≠ .mark (.release A):=fun e he=>by
 rcases bk_of_mute (Wg:=A.block) (h e he) with h1 | h1 | ⟨a,wr,rfl,_⟩
 ·rw [h1];simp
 ·rw [h1];simp
 ·simp
theorem BH {A:Addr} {g:Nat} {fn:FuncId} {pos:String} {es:Array Event} (h:∀ e∈es,e.loc ≠ .mark (.release A)):∀ op∈MemOp.ofEvents g fn pos es,op.act ≠ .mark (.release A):=by
 intro op hop e
 obtain ⟨x,hx,rfl⟩:=Conc.mem_ofEvents hop
 exact h x hx (Go.ConcR.loc_of_ofEvent e)
structure Since (Shr:Nat→Prop) (w w':World) (t t':Trace):Prop where
 size:w.heap.size≤w'.heap.size
 shr:∀ b,b<w.heap.size→Shr b→w'.heap[b]? = w.heap[b]?
 norel:∀ A,NoRelease A t→NoRelease A t'
 same:w'={ w with heap:=w'.heap,drawn:=w'.drawn }
theorem Since.refl (w:World) (t:Trace):Since Shr w w t t:=⟨Nat.le_refl _,fun _ _ _=>rfl,fun _ h=>h,rfl⟩
theorem Since.trans {w w1 w2:World} {t t1 t2:Trace} (h:Since Shr w w1 t t1) (h':Since Shr w1 w2 t1 t2):Since Shr w w2 t t2:=
 ⟨Nat.le_trans h.size h'.size,fun b hb hs=>(h'.shr b (Nat.lt_of_lt_of_le hb h.size) hs).trans (h.shr b hb hs),fun A h0=>h'.norel A (h.norel A h0),by rw [h'.same,h.same]⟩
theorem Dn {Live:World→Prop} (hLive:∀ w w':World,(∀ b,Shr b→w'.heap[b]? = w.heap[b]?)→Live w→Live w') {k:Kind} (hX:∀ e,k.X e→XOK Shr 0 e) {a:Rank} (hway:aC P Ro Live true k a) :
  ∀ (M:Nat) (gs:Array Goroutine) (w:World) (sl:Option (Nat × Nat)) (t:Trace) (q:Nat→Nat),sumTo o q≤M→gs[0]? = some a.g→aI Ro a.own a.w w→Live w→Calm P Ro Shr o a.own gs w t q →
   ∃ (N:Nat) (gs':Array Goroutine) (a':Rank) (w':World) (sl':Option (Nat × Nat)) (t':Trace) (q':Nat→Nat),
    runNT P N (crowd gs w sl) t=(.next (crowd gs' w' sl'),t')∧gs'[0]? = some a'.g∧aC P Ro Live true k a'∧oq Ro Live k a'∧aI Ro a'.own a'.w w'∧Calm P Ro Shr o a'.own gs' w' t' q'∧Since Shr w w' t t'∧(∀ b,a.own b→a'.own b)∧Live w'∧(k.quiet=true→w'.heap=w.heap):=by
 have hacc:=Cb hway
 induction hacc with
 | intro a _ ih=>
  intro M
  induction M using Nat.strongRecOn with
  | ind M ihM=>
   intro gs w sl t q hM h0 hr hL hC
   by_cases hstop:oq Ro Live k a
   ·exact ⟨0,gs,a,w,sl,t,q,rfl,h0,hway,hstop,hr,hC,.refl w t,fun _ h=>h,hL,fun _=>rfl⟩
   have hrun:=hway.status
   have hold:∀ i g,0<i→gs[i]? = some g→i - 1<o∧QuitsD P (q (i - 1)) (Deaf t i) g:=fun i g hi hg=>by
    have hlt:i - 1<o:=by have:=(Array.getElem?_eq_some_iff.1 hg).1;rw [hC.size] at this;omega
    obtain ⟨g',hg',hq⟩:=hC.old (i - 1) hlt
    rw [show i - 1+1=i by omega,hg] at hg'
    obtain rfl:=Option.some.inj hg'
    rw [show i - 1+1=i by omega] at hq
    exact ⟨hlt,hq⟩
   have haw:∀ g∈gs,awake g:=by
    intro g hg
    obtain ⟨i,hi,rfl⟩:=Array.mem_iff_getElem.1 hg
    rcases Nat.eq_zero_or_pos i with rfl | hpos
    ·have:gs[0]=a.g:=by simpa [Array.getElem?_eq_getElem hi] using h0
     rw [this];exact awake_of (.inl hrun)
    ·exact awake_of ((hold i _ hpos (Array.getElem?_eq_getElem hi)).2.status.elim .inl fun x=>.inr (.inr x))
   obtain ⟨i,g,d,sl',hi,hg,hst⟩:=crowd_pick (P:=P) (w:=w) (sl:=sl) haw ⟨0,a.g,h0,hrun⟩
   rcases Nat.eq_zero_or_pos i with rfl | hpos
   ·
    obtain rfl:g=a.g:=by rw [h0] at hi;exact (Option.some.inj hi).symm
    have hrd:aI Ro a.own a.w (w.at d):=⟨hr.size,hr.keep,hr.cells,⟨hr.chans.chan,hr.chans.os,hr.chans.output⟩⟩
    obtain ⟨g',w',es,hgo,hgu,hway',hch⟩:=hway.step hstop hrd (hLive w _ (fun _ _=>rfl) hL)
    have hgu':PD k.quiet k.X Ro (tV a.own 0) (more (tV a.own 0) (w.at d) w') (w.at d) w' es:=by rw [Ip];exact hgu
    obtain ⟨b1,b2,b3,b4⟩:=(hC.base.at d).way (i:=0) (Nat.zero_le _) (.inl rfl) hX (.inl rfl) hgu' a.g.frame.fn a.g.frame.place
    rw [Ip,QK] at b1
    have hrunT:=runT_crowd_go (P:=P) (sl:=sl') (i:=0) hi (show stepG P (0==0) a.g (w.at d)=_ from hgo)
    have hlt:0<gs.size:=(Array.getElem?_eq_some_iff.1 h0).1
    have hC':Calm P Ro Shr o (more a.own (w.at d) w') ((gs.map (woken P a.g g' w')).setIfInBounds 0 g') w' (t++MemOp.ofEvents 0 a.g.frame.fn a.g.frame.place es) q:=by
     refine ⟨b1,hC.F6.app fun op hop=>.inl (g_of_ofEvents op hop),by rw [b4];exact hC.hears,by simp [hC.size],fun j hj=>?_⟩
     obtain ⟨y,hy,hq⟩:=hC.old j hj
     refine ⟨y,by rw [get_map_set _ _ _ _ (by omega),hy,Option.map_some,woken_quitsD hq],?_⟩
     rw [b4]
     exact hq
    have hmarks:∀ A,∀ e∈es,e.loc ≠ .mark (.release A):=fun A e he h1=>by
     rcases hgu.evs e he with hev | hev
     ·unfold Wj at hev;rw [h1] at hev;cases hev
     ·exact (hX e hev).still.1 A h1
    have hS:Since Shr w w' t (t++MemOp.ofEvents 0 a.g.frame.fn a.g.frame.place es):=⟨hgu.size,fun b _ hb=>b3 b hb,fun A h0=>h0.app (BH (hmarks A)),hgu.same⟩
    obtain ⟨N,gs',a',w'',sl'',t',q',e1,e2,e3,e4,e5,e6,e7,e8,e9,e10⟩:=ih _ hch hway' (sumTo o q) ((gs.map (woken P a.g g' w')).setIfInBounds 0 g') w' sl' (t++MemOp.ofEvents 0 a.g.frame.fn a.g.frame.place es) q (Nat.le_refl _) (by simp [hlt]) (aI.refl _ _ _) (hLive w _ (fun b hb=>b3 b hb) hL) hC'
    exact ⟨N+1,gs',a',w'',sl'',t',q',by simp only [runNT,hst,hrunT];exact e1,e2,e3,e4,e5,e6,hS.trans e7,fun b hb=>e8 b (.inl hb),e9,fun hqt=>(e10 hqt).trans (by rw [(hgu.quiet hqt).1];rfl)⟩
   ·
    obtain ⟨hio,hq⟩:=hold i g hpos hi
    have hi0:(i==0)=false:=by simp;omega
    have hlt:i<gs.size:=(Array.getElem?_eq_some_iff.1 hi).1
    cases hqi:q (i - 1) with
    | zero=>rw [hqi] at hq;rw [hq.1] at hg;cases hg
    | succ c=>
     rw [hqi] at hq
     rcases hq with ⟨hf,_⟩ | ⟨_,g',es,hm,hstp,hq'⟩
     ·rw [hf] at hg;cases hg
     have hrunT:=runT_crowd_go (P:=P) (sl:=sl') (i:=i) hi (by rw [hi0];exact hstp (w.at d))
     have hsum:sumTo o (upd q (i - 1) c)+(c+1)=sumTo o q+c:=by
      have:=sumTo_upd q c id hio
      simpa [hqi] using this
     have hops:∀ op∈MemOp.ofEvents i g.frame.fn g.frame.place es,op.g=i∧op.act.touch? = none∧op.act.low (w.at d).heap.size:=fun op hop=>by
      obtain ⟨e,he,rfl⟩:=Conc.mem_ofEvents hop
      exact ⟨rfl,touch_mute (hm e he),low_mute (hm e he) _⟩
     obtain ⟨b1,b2⟩:=(hC.base.at d).shared (w':=w.at d) (i:=i) (by omega) rfl (fun _ _=>rfl) (.refl _) (.refl _) (u:=MemOp.ofEvents i g.frame.fn g.frame.place es) (fun op hop=>⟨(hops op hop).1,fun x hx=>(by rw [(hops op hop).2.1] at hx;cases hx),(hops op hop).2.2⟩)
     have hC':Calm P Ro Shr o a.own ((gs.map (woken P g g' (w.at d))).setIfInBounds i g') (w.at d) (t++MemOp.ofEvents i g.frame.fn g.frame.place es) (upd q (i - 1) c):=by
      refine ⟨b1,hC.F6.app fun op hop=>.inr (.inr (hops op hop).2.1),?_,by simp [hC.size],fun j hj=>?_⟩
      ·rw [Deaf_other t (by omega) _ g_of_ofEvents];exact hC.hears
      ·by_cases hji:j=i - 1
       ·subst hji
        refine ⟨g',by rw [show i - 1+1=i by omega,get_map_set_same _ _ _ hlt],?_⟩
        rw [upd_same,show i - 1+1=i by omega,Deaf_own]
        exact hq'
       ·obtain ⟨y,hy,hqy⟩:=hC.old j hj
        refine ⟨y,by rw [get_map_set _ _ _ _ (by omega),hy,Option.map_some,woken_quitsD hqy],?_⟩
        rw [upd_ne q c hji,Deaf_other t (by omega) _ g_of_ofEvents]
        exact hqy
     have hS:Since Shr w (w.at d) t (t++MemOp.ofEvents i g.frame.fn g.frame.place es):=⟨Nat.le_refl _,fun _ _ _=>rfl,fun A h0=>h0.app (BH (Fe hm A)),rfl⟩
     obtain ⟨N,gs',a',w'',sl'',t',q',e1,e2,e3,e4,e5,e6,e7,e8,e9,e10⟩:=ihM (sumTo o (upd q (i - 1) c)) (by omega) ((gs.map (woken P g g' (w.at d))).setIfInBounds i g') (w.at d) sl' (t++MemOp.ofEvents i g.frame.fn g.frame.place es) (upd q (i - 1) c) (Nat.le_refl _)
      (by
       rw [get_map_set _ _ _ _ (by omega),h0]
       simp [woken_run hrun])
      ⟨hr.size,hr.keep,hr.cells,⟨hr.chans.chan,hr.chans.os,hr.chans.output⟩⟩ (hLive w _ (fun _ _=>rfl) hL) hC'
     exact ⟨N+1,gs',a',w'',sl'',t',q',by simp only [runNT,hst,hrunT];exact e1,e2,e3,e4,e5,e6,hS.trans e7,e8,e9,fun hqt=>e10 hqt⟩
end
end Crew
end Go
end
end
section
section
namespace Go
namespace Crew
open Go.Conc Go.ConcN Go.Ren
open Go.ConcR (WgAt stA smA g_of_ofEvents KK bk_of_mute)
section
variable {P:Program} {Ro Shr:Nat→Prop} {o:Nat} {own:Nat→Prop}
theorem yj {a:Goroutine} (hrun:a.status = .running) :
  ∀ (M:Nat) (gs:Array Goroutine) (w:World) (sl:Option (Nat × Nat)) (t:Trace) (q:Nat→Nat),sumTo o q≤M→gs[0]? = some a→Calm P Ro Shr o own gs w t q →
   ∃ (N:Nat) (gs':Array Goroutine) (d:Nat) (sl' sl'':Option (Nat × Nat)) (w':World) (t':Trace) (q':Nat→Nat),
    runNT P N (crowd gs w sl) t=(.next (crowd gs' w' sl'),t')∧gs'[0]? = some a∧w'.heap=w.heap∧Calm P Ro Shr o own gs' w' t' q'∧Since Shr w w' t t' ∧
     stepT P (crowd gs' w' sl')=runT P (crowd gs' (w'.at d) sl'') 0:=by
 intro M
 induction M using Nat.strongRecOn with
 | ind M ihM=>
  intro gs w sl t q hM h0 hC
  have hold:∀ i g,0<i→gs[i]? = some g→i - 1<o∧QuitsD P (q (i - 1)) (Deaf t i) g:=fun i g hi hg=>by
   have hlt:i - 1<o:=by have:=(Array.getElem?_eq_some_iff.1 hg).1;rw [hC.size] at this;omega
   obtain ⟨g',hg',hq⟩:=hC.old (i - 1) hlt
   rw [show i - 1+1=i by omega,hg] at hg'
   obtain rfl:=Option.some.inj hg'
   rw [show i - 1+1=i by omega] at hq
   exact ⟨hlt,hq⟩
  have haw:∀ g∈gs,awake g:=by
   intro g hg
   obtain ⟨i,hi,rfl⟩:=Array.mem_iff_getElem.1 hg
   rcases Nat.eq_zero_or_pos i with rfl | hpos
   ·have:gs[0]=a:=by simpa [Array.getElem?_eq_getElem hi] using h0
    rw [this];exact awake_of (.inl hrun)
   ·exact awake_of ((hold i _ hpos (Array.getElem?_eq_getElem hi)).2.status.elim .inl fun x=>.inr (.inr x))
  obtain ⟨i,g,d,sl',hi,hg,hst⟩:=crowd_pick (P:=P) (w:=w) (sl:=sl) haw ⟨0,a,h0,hrun⟩
  rcases Nat.eq_zero_or_pos i with rfl | hpos
  ·exact ⟨0,gs,d,sl,sl',w,t,q,rfl,h0,rfl,hC,.refl w t,hst⟩
  ·obtain ⟨hio,hq⟩:=hold i g hpos hi
   have hi0:(i==0)=false:=by simp;omega
   have hlt:i<gs.size:=(Array.getElem?_eq_some_iff.1 hi).1
   cases hqi:q (i - 1) with
   | zero=>rw [hqi] at hq;rw [hq.1] at hg;cases hg
   | succ c=>
    rw [hqi] at hq
    rcases hq with ⟨hf,_⟩ | ⟨_,g',es,hm,hstp,hq'⟩
    ·rw [hf] at hg;cases hg
    have hrunT:=runT_crowd_go (P:=P) (sl:=sl') (i:=i) hi (by rw [hi0];exact hstp (w.at d))
    have hsum:sumTo o (upd q (i - 1) c)+(c+1)=sumTo o q+c:=by
     have:=sumTo_upd q c id hio
     simpa [hqi] using this
    have hops:∀ op∈MemOp.ofEvents i g.frame.fn g.frame.place es,op.g=i∧op.act.touch? = none∧op.act.low (w.at d).heap.size:=fun op hop=>by
     obtain ⟨e,he,rfl⟩:=Conc.mem_ofEvents hop
     exact ⟨rfl,touch_mute (hm e he),low_mute (hm e he) _⟩
    obtain ⟨b1,b2⟩:=(hC.base.at d).shared (w':=w.at d) (i:=i) (by omega) rfl (fun _ _=>rfl) (.refl _) (.refl _) (u:=MemOp.ofEvents i g.frame.fn g.frame.place es) (fun op hop=>⟨(hops op hop).1,fun x hx=>(by rw [(hops op hop).2.1] at hx;cases hx),(hops op hop).2.2⟩)
    have hC':Calm P Ro Shr o own ((gs.map (woken P g g' (w.at d))).setIfInBounds i g') (w.at d) (t++MemOp.ofEvents i g.frame.fn g.frame.place es) (upd q (i - 1) c):=by
     refine ⟨b1,hC.F6.app fun op hop=>.inr (.inr (hops op hop).2.1),?_,by simp [hC.size],fun j hj=>?_⟩
     ·rw [Deaf_other t (by omega) _ g_of_ofEvents];exact hC.hears
     ·by_cases hji:j=i - 1
      ·subst hji
       refine ⟨g',by rw [show i - 1+1=i by omega,get_map_set_same _ _ _ hlt],?_⟩
       rw [upd_same,show i - 1+1=i by omega,Deaf_own]
       exact hq'
      ·obtain ⟨y,hy,hqy⟩:=hC.old j hj
       refine ⟨y,by rw [get_map_set _ _ _ _ (by omega),hy,Option.map_some,woken_quitsD hqy],?_⟩
       rw [upd_ne q c hji,Deaf_other t (by omega) _ g_of_ofEvents]
       exact hqy
    have hS:Since Shr w (w.at d) t (t++MemOp.ofEvents i g.frame.fn g.frame.place es):=⟨Nat.le_refl _,fun _ _ _=>rfl,fun A h0=>h0.app (BH (Fe hm A)),rfl⟩
    obtain ⟨N,gs',d',sl1,sl2,w'',t',q',e1,e2,e3,e4,e5,e6⟩:=ihM (sumTo o (upd q (i - 1) c)) (by omega) ((gs.map (woken P g g' (w.at d))).setIfInBounds i g') (w.at d) sl' (t++MemOp.ofEvents i g.frame.fn g.frame.place es) (upd q (i - 1) c) (Nat.le_refl _)
     (by
      rw [get_map_set _ _ _ _ (by omega),h0]
      simp [woken_run hrun])
     hC'
    exact ⟨N+1,gs',d',sl1,sl2,w'',t',q',by simp only [runNT,hst,hrunT];exact e1,e2,e3,e4,hS.trans e5,e6⟩
section
variable {gs:Array Goroutine} {w w':World} {t:Trace} {q:Nat→Nat} {sl:Option (Nat × Nat)} {a a':Goroutine}
theorem Calm.put0 (h:Calm P Ro Shr o own gs w t q) (hs:w'.heap.size=w.heap.size) (hb:∀ b,¬ Shr b→w'.heap[b]? = w.heap[b]?) (hcl:bu w w') (hch:nR w w') {u:Trace} (hu:∀ op∈u,op.g=0∧op.act.touch? = none∧op.act.low w.heap.size)
  (hd:Deaf (t++u) 0=0) {gs':Array Goroutine} (hsz:gs'.size=gs.size) (hgs:∀ i,i<o→gs'[i+1]? = gs[i+1]?):Calm P Ro Shr o own gs' w' (t++u) q:=by
 obtain ⟨b1,_⟩:=h.base.shared (i:=0) (Nat.zero_le _) hs hb hcl hch (u:=u) (fun op hop=>⟨(hu op hop).1,fun x hx=>(by rw [(hu op hop).2.1] at hx;cases hx),(hu op hop).2.2⟩)
 refine ⟨b1,h.F6.app fun op hop=>.inl (hu op hop).1,hd,by rw [hsz];exact h.size,fun i hi=>?_⟩
 obtain ⟨g,hg,hq⟩:=h.old i hi
 exact ⟨g,by rw [hgs i hi];exact hg,by rw [Deaf_other t (g':=0) (by omega) _ (fun op hop=>(hu op hop).1)];exact hq⟩
theorem Calm.noPartner (h:Calm P Ro Shr o own gs w t q) (c:Nat) (s:Bool):partners (gs.setIfInBounds 0 ph) c s=[]:=by
 refine partners_nil fun j g hg=>?_
 rcases getElem?_stand gs 0 j g hg with ⟨_,rfl⟩ | ⟨hne,hg⟩
 ·rfl
 have hlt:j - 1<o:=by have:=(Array.getElem?_eq_some_iff.1 hg).1;rw [h.size] at this;omega
 obtain ⟨g',hg',hq⟩:=h.old (j - 1) hlt
 rw [show j - 1+1=j by omega,hg] at hg'
 obtain rfl:=Option.some.inj hg'
 refine offersAt_of_not_blocked (fun e=>?_) _ _
 rcases hq.status with h1 | h1<;>(rw [h1] at e;cases e)
variable {Ch cap s r:Nat} {buf:Array Value} {closed tm f:Bool} {z:Value}
theorem Calm.recv (h:Calm P Ro Shr o own gs w t q) (hch:Shr Ch) (ha:gs[0]? = some a) (hst:stepG P true a w = .comm a #[rcase Ch z] true (.recv f) w #[])
  (hc:w.heap[Ch]? = some (.chan cap buf closed s r tm)) (hsome:0<buf.size) :
  ∃ gs' u,runT P (crowd gs w sl) 0=(.next (crowd gs' (w.setChan Ch cap (buf.extract 1 buf.size) closed s (r+1) tm) sl),u)∧gs'[0]? = some (Conc.served a (Conc.recvd f (buf.getD 0 undef) true)) ∧
   Calm P Ro Shr o own gs' (w.setChan Ch cap (buf.extract 1 buf.size) closed s (r+1) tm) (t++u) q∧∀ A,NoRelease A t→NoRelease A (t++u):=by
 have hrun:=crowd_recv_buf (P:=P) (sl:=sl) (i:=0) ha (by simpa using hst) hc hsome (h.noPartner Ch true)
 rw [finishComm_recv] at hrun
 have e0:MemOp.ofEvents 0 a.frame.fn a.frame.place #[]=#[]:=by rw [ofEvents_eq];simp
 rw [e0,Array.empty_append] at hrun
 have hlt:0<gs.size:=(Array.getElem?_eq_some_iff.1 ha).1
 have hu:∀ op∈(#[{ g:=0,fn:=a.frame.fn,pos:=a.frame.place,act:=.recv Ch r cap },{ g:=0,fn:=a.frame.fn,pos:=a.frame.place,act:=.recvDone Ch r }]:Trace),op.g=0∧op.act.touch? = none∧op.act.low w.heap.size∧∀ m,op.act ≠ .mark m:=by
  intro op hop
  simp only [List.mem_toArray,List.mem_cons,List.not_mem_nil,or_false] at hop
  rcases hop with rfl | rfl<;>exact ⟨rfl,rfl,h.base.jT Ch hch,fun m=>by simp⟩
 refine ⟨_,_,hrun,by simp [hlt],h.put0 (size_setChan ..) (fun b hb=>?_) (rZ hc) (pO hc) (fun op hop=>⟨(hu op hop).1,(hu op hop).2.1,(hu op hop).2.2.1⟩) ?_ (by simp) (fun i hi=>by rw [Array.getElem?_setIfInBounds_ne (by omega)]),fun A h0=>h0.app fun op hop=>(hu op hop).2.2.2 _⟩
 ·simp only [World.setChan]
  exact Array.getElem?_setIfInBounds_ne (show Ch≠b from fun e=>hb (e▸hch))
 ·rw [Deaf_still t 0 _ fun op hop=>⟨(hu op hop).2.2.2 _,(hu op hop).2.2.2 _⟩];exact h.hears
theorem Calm.Ez (h:Calm P Ro Shr o own gs w t q) (hch:Shr Ch) (ha:gs[0]? = some a) (hst:stepG P true a w = .comm a #[rcase Ch z] true (.recv f) w #[])
  (hc:w.heap[Ch]? = some (.chan cap #[] true s r tm)) :
  ∃ gs' u,runT P (crowd gs w sl) 0=(.next (crowd gs' w sl),u)∧gs'[0]? = some (Conc.served a (Conc.recvd f z false))∧Calm P Ro Shr o own gs' w (t++u) q∧∀ A,NoRelease A t→NoRelease A (t++u):=by
 have hrun:=crowd_recv_closed (P:=P) (sl:=sl) (i:=0) ha (by simpa using hst) hc (h.noPartner Ch true)
 rw [finishComm_recv] at hrun
 have e0:MemOp.ofEvents 0 a.frame.fn a.frame.place #[]=#[]:=by rw [ofEvents_eq];simp
 rw [e0,Array.empty_append] at hrun
 have hlt:0<gs.size:=(Array.getElem?_eq_some_iff.1 ha).1
 have hu:∀ op∈(#[{ g:=0,fn:=a.frame.fn,pos:=a.frame.place,act:=.recvClosed Ch }]:Trace),op.g=0∧op.act.touch? = none∧op.act.low w.heap.size∧∀ m,op.act ≠ .mark m:=by
  intro op hop
  simp only [List.mem_toArray,List.mem_cons,List.not_mem_nil,or_false] at hop
  subst hop
  exact ⟨rfl,rfl,h.base.jT Ch hch,fun m=>by simp⟩
 refine ⟨_,_,hrun,by simp [hlt],h.put0 rfl (fun _ _=>rfl) (.refl w) (.refl w) (fun op hop=>⟨(hu op hop).1,(hu op hop).2.1,(hu op hop).2.2.1⟩) ?_ (by simp) (fun i hi=>by rw [Array.getElem?_setIfInBounds_ne (by omega)]),fun A h0=>h0.app fun op hop=>(hu op hop).2.2.2 _⟩
 rw [Deaf_still t 0 _ fun op hop=>⟨(hu op hop).2.2.2 _,(hu op hop).2.2.2 _⟩];exact h.hears
end
end
end Crew
end Go
end
end
section
section
namespace Go
namespace Crew
open Go.Conc Go.ConcN Go.Ren
open Go.ConcR (WgAt stA smA g_of_ofEvents KK)
section
variable [gm] {P:Program} {S:FuncId→Prop} {Shr:Nat→Prop} {Hid:Nat→Prop} {o:Nat}
def nobody:Nat→Prop:=fun _=>False
def rest (Shr:Nat→Prop) (w:World):Nat→Prop:=fun b=>b<w.heap.size∧¬ Shr b
def mine (Z Shr:Nat→Prop) (w:World):Nat→Prop:=fun b=>rest Shr w b∧¬ Z b
end
section
variable {P:Program} {Ro Ro0 Shr:Nat→Prop} {o:Nat} {own own0:Nat→Prop} {gs:Array Goroutine} {w:World} {t:Trace} {q:Nat→Nat}
theorem Calm.split (h:Calm P Ro0 Shr o own0 gs w t q) (hRo:∀ b,Ro b→rest Shr w b) (hown:∀ b,own b→rest Shr w b∧¬ Ro b):Calm P Ro Shr o own gs w t q:=by
 have hov:=h.handed
 refine ⟨⟨⟨fun b hb=>(hRo b hb).2,fun k b hb=>⟨(hown b hb.2).2,(hown b hb.2).1.2⟩,fun k k' b hb hb'=>hb.1.trans hb'.1.symm,fun k b hk hb=>by have:=hb.1;omega⟩,fun b hb=>(hRo b hb).1,h.base.jT,fun k b hb=>(hown b hb.2).1.1,?_,h.base.low,h.base.told⟩,h.F6,h.hears,h.size,h.old⟩
 exact ⟨h.base.ct.quiet,fun k k1 _ l ⟨b,_,hb⟩=>absurd hb.1 (by omega),fun k _ kn l hl=>absurd hl.1 (by omega),fun l hs _=>xQ h.base.told hov hs,fun l hs _=>PermW.of (xQ h.base.told hov hs),h.base.ct.nr,h.base.ct.gs⟩
end
section
variable [gm] {P:Program} {S:FuncId→Prop} {Z Shr:Nat→Prop} {Hid:Nat→Prop} {o:Nat}
theorem Calm.all {Ro own:Nat→Prop} {gs:Array Goroutine} {w:World} {t:Trace} {q:Nat→Nat} (h:Calm P Ro Shr o own gs w t q) (hZ:∀ b,Z b→rest Shr w b):Calm P Z Shr o (mine Z Shr w) gs w t q:=h.split hZ fun _ hb=>hb
theorem di.mono {Ro own own':Nat→Prop} {f:Nat→Nat} {g:Goroutine} {v w:World} (h:di P S Ro own Hid f g v w) (ho:∀ b,own b→own' b):di P S Ro own' Hid f g v w:=
 ⟨h.ok,h.inj,h.fix,h.mF,fun b x hb=>(h.held b x hb).imp (And.imp_left (ho _)) id⟩
structure Mirror (P:Program) (S:FuncId→Prop) (Z Shr:Nat→Prop) (Hid:Nat→Prop) (o:Nat) (f:Nat→Nat) (g:Goroutine) (v:World) (gs:Array Goroutine) (w:World) (t:Trace) (q:Nat→Nat):Prop where
 calm:Calm P Z Shr o (mine Z Shr w) gs w t q
 oH:di P S Z (mine Z Shr w) Hid f g v w
 at0:gs[0]? = some (aF f [] g)
 shr:∀ b,Hid b→Shr b
theorem Mirror.alone {f:Nat→Nat} {g:Goroutine} {v:World} {gs:Array Goroutine} {w:World} {t:Trace} {q:Nat→Nat} (h:Mirror P S Z Shr Hid o f g v gs w t q) (b:Nat) (hb:Z b):rest Shr w b:=⟨h.calm.base.vG b hb,h.calm.base.ap.zM b hb⟩
theorem Mirror.go (hz:aN P) (hS:kU P S) {D:Goroutine→World→Prop} {C:Nat→Prop} (hD:∀ g v,D g v→∀ b,C b→∀ o,v.heap[b]? = some o→aU o=true)
  {f:Nat→Nat} {g:Goroutine} {v:World} {gs:Array Goroutine} {w:World} {t:Trace} {q:Nat→Nat} (hM:Mirror P S Z Shr Hid o f g v gs w t q) (sl:Option (Nat × Nat)) (ht:iG P S D g v) (hC:∀ b o,v.heap[b]? = some o→aU o=true→C b) :
  ∃ (N:Nat) (gs':Array Goroutine) (w':World) (sl':Option (Nat × Nat)) (t':Trace) (q':Nat→Nat) (f':Nat→Nat) (g':Goroutine) (v':World),
   runNT P N (crowd gs w sl) t=(.next (crowd gs' w' sl'),t')∧D g' v'∧Mirror P S Z Shr Hid o f' g' v' gs' w' t' q'∧Since Shr w w' t t'∧(∀ i,i<v.heap.size→f' i=f i)∧v.heap.size≤v'.heap.size∧aI Z (fun _=>False) w w':=by
 let Stop:Stops:=fun g1 w1 own1=>∃ f' g' v',D g' v'∧di P S Z own1 Hid f' g' v' w1∧g1=aF f' [] g'∧(∀ i,i<v.heap.size→f' i=f i)∧v.heap.size≤v'.heap.size∧aI Z (fun _=>False) w w1
 let X:Event→Prop:=fun e=>∃ b,Shr b∧rQ b e
 have hway:aC P Z (fun _=>True) true ⟨false,X,Stop⟩ ⟨aF f [] g,w,mine Z Shr w⟩:=by
  refine zo (n0:=v.heap.size) (f0:=f) hz hS (fun e r h1 h2 h3 h4=>⟨r,hM.shr r h1,h2,h3,h4⟩) hD (w0:=w) (fun g' v' f' w1 own1 hd hp hw _ ha hn=>?_) ht hM.oH (aI.refl _ _ _) (fun b hb=>⟨(hM.alone b hb).1,fun h=>h.2 hb⟩) (fun _ _=>rfl) (Nat.le_refl _) hC
  refine .stop hp.ok.run fun w2 hr _=>?_
  obtain ⟨hp2,_,e⟩:=hp.rely hr []
  exact ⟨aA f' v' w2,g',v',hd,hp2,e,fun i hi=>(bM (Nat.lt_of_lt_of_le hi hn)).trans (ha i hi),hn,hw.trans ⟨hr.size,fun b hb ho=>ho.elim (fun h=>hr.keep b hb (.inl h)) fun h=>h.elim,hr.cells,hr.chans⟩⟩
 obtain ⟨N,gs',a',w',sl',t',q',e1,e2,e3,e4,e5,e6,e7,e8,e9,_⟩:=Dn (Live:=fun _=>True) (fun _ _ _ h=>h) (k:=⟨false,X,Stop⟩) (fun e he=>.inr he) hway (sumTo o q) gs w sl t q (Nat.le_refl _) hM.at0 (aI.refl _ _ _) trivial hM.calm
 obtain ⟨f',g',v',d1,d2,d3,d4,d5,d6⟩:=e4 w' e5 trivial
 refine ⟨N,gs',w',sl',t',q',f',g',v',e1,d1,⟨e6.all fun b hb=>⟨e6.base.vG b hb,e6.base.ap.zM b hb⟩,di.mono d2 fun b hb=>⟨⟨?_,?_⟩,?_⟩,by rw [e2,d3],hM.shr⟩,e7,d4,d5,d6⟩
 ·exact e6.base.qi 0 b ⟨rfl,hb⟩
 ·exact (e6.base.ap.free 0 b ⟨rfl,hb⟩).2
 ·exact (e6.base.ap.free 0 b ⟨rfl,hb⟩).1
end
end Crew
end Go
end
end
section
section
namespace Go
namespace Ren
open Go.Conc
variable {P:Program} {S:FuncId→Prop}
theorem nM (H:Fr) (f g:Nat→Nat):∀ v:Value,@val H f (@val jW g v) = @val H (f ∘ g) v
 | .pointer a=>by cases a<;>simp [addr]
 | .slice a l c=>by cases a<;>simp [addr]
 | .map r=>by simp [Function.comp_def]
 | .chan r=>by simp [Function.comp_def]
 | .func h a b=>by
  have key:∀ l:Array Value,(∀ v∈l,@val H f (@val jW g v) = @val H (f ∘ g) v)→@vals H f (@vals jW g l) = @vals H (f ∘ g) l:=fun l hl=>by
   unfold vals
   rw [Array.map_map]
   exact Array.map_congr_left hl
  rw [@bP jW,@bP H,@bP H,key a (fun v _=>nM H f g v),key b (fun v _=>nM H f g v)]
  congr 1
  cases h<;>rfl
 | .iface t v=>by rw [@bJ jW,@bJ H,@bJ H,nM H f g v]
 | .agg cs=>by
  rw [@cO jW,@cO H,@cO H]
  congr 1
  unfold vals
  rw [Array.map_map]
  exact Array.map_congr_left fun v _=>nM H f g v
 | .tuple cs=>by
  rw [@bY jW,@bY H,@bY H]
  congr 1
  unfold vals
  rw [Array.map_map]
  exact Array.map_congr_left fun v _=>nM H f g v
 | .bool _ | .int _ _ | .float _ _ | .complex _ _ _ | .string _ | .nilFunc | .nilIface=>by simp
termination_by v=>SizeOf.sizeOf v
decreasing_by
 all_goals first
  | (rename_i h;have h:=Array.sizeOf_lt_of_mem h;simp only [Value.func.sizeOf_spec,Value.agg.sizeOf_spec,Value.tuple.sizeOf_spec];omega)
  | (simp only [Value.iface.sizeOf_spec];omega)
def isCells:Obj→Bool
 | .cells ..=>true
 | _=>false
def JR (w:World) (b:Nat):Bool:=match w.heap[b]? with
 | some o=>isCells o
 | none=>false
def enum (w:World):List Nat:=(List.range w.heap.size).filter (JR w)
def up (w:World) (i:Nat):Nat:=if h:i<(enum w).length then (enum w)[i] else w.heap.size+(i - (enum w).length)
def down (w:World) (b:Nat):Nat:=(enum w).idxOf b
theorem LC {w:World} {b:Nat}:b∈enum w↔b<w.heap.size∧JR w b=true:=by simp [enum]
theorem O4 (w:World):(enum w).Nodup:=(List.nodup_range).filter _
theorem up_down {w:World} {b:Nat} (h:b∈enum w):up w (down w b)=b:=by
 have hlt:(enum w).idxOf b<(enum w).length:=List.idxOf_lt_length_of_mem h
 unfold up down
 rw [dif_pos hlt]
 exact List.getElem_idxOf hlt
theorem TD {w:World} {i:Nat} (h:i<(enum w).length):up w i∈enum w:=by
 unfold up;rw [dif_pos h];exact List.getElem_mem h
theorem up_lt {w:World} {i:Nat} (h:i<(enum w).length):up w i<w.heap.size:=(LC.1 (TD h)).1
theorem Y2 {w:World} {i j:Nat} (hi:i<(enum w).length) (hj:j<(enum w).length) (h:up w i=up w j):i=j:=by
 unfold up at h
 rw [dif_pos hi,dif_pos hj] at h
 exact (List.getElem_inj (O4 w)).1 h
def zk (S:FuncId→Prop) (K:Nat→Prop) (x:Value):Prop:=∀ (H H':Fr) (h h':Nat→Nat),(∀ b,K b→h b=h' b)→(∀ g,S g→H.qL g=H'.qL g)→@val H h x = @val H' h' x
open Classical in
noncomputable def jw (S:FuncId→Prop) (w:World):Obj→Obj
 | .cells c e fr=>if ∀ x∈c,zk S (· ∈ enum w) x then .cells (vals (down w) c) e fr else .cells #[] e (0,0)
 | _=>.cells #[] 0 (0,0)
noncomputable def lower (S:FuncId→Prop) (w:World):World:={ w with heap:=((enum w).map fun b=>jw S w (w.heap[b]?.getD default)).toArray }
theorem qx (S:FuncId→Prop) (w:World):(lower S w).heap.size=(enum w).length:=by simp [lower]
theorem jM (S:FuncId→Prop) (w:World) {i:Nat} {o:Obj} (h:(lower S w).heap[i]? = some o):i<(enum w).length∧∃ c e fr,w.heap[up w i]? = some (.cells c e fr)∧o=jw S w (.cells c e fr):=by
 have hlt:i<(enum w).length:=by rw [←qx S w];exact (Array.getElem?_eq_some_iff.1 h).1
 refine ⟨hlt,?_⟩
 have hm:=TD hlt
 have hu:up w i=(enum w)[i]:=by unfold up;rw [dif_pos hlt]
 obtain ⟨hb,hc⟩:=LC.1 hm
 unfold JR at hc
 rw [Array.getElem?_eq_getElem hb] at hc
 have hg:w.heap[up w i]? = some w.heap[up w i]:=Array.getElem?_eq_getElem hb
 simp only [lower,List.getElem?_toArray,List.getElem?_map,List.getElem?_eq_getElem hlt,Option.map_some,Option.some.injEq] at h
 rw [←hu,hg] at h
 dsimp only at hc
 generalize w.heap[up w i]=o' at hc hg h
 cases o'<;>first | (cases hc;done) | exact ⟨_,_,_,hg,h.symm⟩
theorem zq {w:World} {c:Array Value} (h:∀ x∈c,zk S (· ∈ enum w) x):vals (up w) (vals (down w) c)=c:=by
 unfold vals
 rw [Array.map_map]
 refine (Array.map_congr_left fun x hx=>?_).trans (Array.map_id c)
 show val (up w) (val (down w) x)=x
 rw [nM]
 rw [h x hx jW jW (up w ∘ down w) id (fun b hb=>up_down hb) (fun _ _=>rfl),nV]
theorem Rz {w:World} {x:Value} (h:zk S (· ∈ enum w) x) (H H':Fr) (e e':Nat→Nat) (ha:Alike S (enum w).length H H' e e'):@val H e (@val jW (down w) x) = @val H' e' (@val jW (down w) x):=by
 rw [nM H,nM H']
 exact h H H' _ _ (fun b hb=>ha.blk _ (List.idxOf_lt_length_of_mem hb)) ha.qL
theorem yQ {w:World} {c:Array Value} (h:∀ x∈c,zk S (· ∈ enum w) x) (H H':Fr) (e e':Nat→Nat) (ha:Alike S (enum w).length H H' e e'):@vals H e (@vals jW (down w) c) = @vals H' e' (@vals jW (down w) c):=by
 unfold vals
 rw [Array.map_map,Array.map_map]
 exact Array.map_congr_left fun x hx=>Rz (h x hx) H H' e e' ha
theorem AO (H:Fr) (f:Nat→Nat) (g:FuncId) (args:Array Value) (k:CallKind):@frame H f (Frame.enter P g args k)=Frame.enter P g (@vals H f args) k:=dS f g args k
theorem UM [gm] (hS:kU P S) {fn:FuncId} (hfn:S fn∨ai P S (Frame.enter P fn #[] .normal)) {args:Array Value} {w:World} (hG:P.globals.size≤(enum w).length) (ha:∀ x∈args,zk S (· ∈ enum w) x) :
  Ok P S (G (Frame.enter P fn (vals (down w) args) .normal) [bottom]) (lower S w):=by
 have hgood:ai P S (Frame.enter P fn (vals (down w) args) .normal):=by
  rcases hfn with h | h
  ·exact uX hS h _ (.inl rfl)
  ·exact ⟨fun i hi=>h.items i (by simpa [Frame.enter] using hi),fun d hd=>(by simp [Frame.enter] at hd),trivial,.inl rfl⟩
 refine ⟨fun b o hb=>?_,⟨hgood,fun c hc=>by rw [List.mem_singleton.1 hc];exact xu,rfl⟩,rfl,⟨[],rfl⟩,by rw [qx];exact hG,fun H H' h h' hal0=>?_,fun H H' h hal b o hb=>?_⟩
 ·obtain ⟨_,c,e,fr,_,rfl⟩:=jM S w hb
  unfold jw
  dsimp only
  split<;>exact ⟨.inr rfl,trivial⟩
 ·have hal:=hal0.named
  rw [qx] at hal
  refine ⟨?_,fun b o hb=>?_⟩
  ·unfold yB
   simp only [Conc.G,List.map_cons,List.map_nil,Goroutine.mk.injEq,and_true]
   rw [AO H,AO H',yQ ha H H' h h' hal]
   exact ⟨rfl,by rw [@iW _ H,@iW _ H']⟩
  ·obtain ⟨_,c,e,fr,_,rfl⟩:=jM S w hb
   unfold jw
   dsimp only
   split
   ·rename_i hc
    show Obj.cells _ e fr=Obj.cells _ e fr
    congr 1
    exact yQ hc H H' h h' hal
   ·simp [obj,vals]
 ·obtain ⟨_,c,e,fr,_,rfl⟩:=jM S w hb
  unfold jw
  dsimp only
  split
  ·rename_i hc
   show Obj.cells _ e fr=Obj.cells _ e fr
   congr 1
   exact yQ hc H H' h h ⟨fun _ _=>rfl,hal⟩
  ·simp [obj,vals]
theorem RY (S:FuncId→Prop) (K:Kd) (w:World):kY (up w) K (lower S w) w:=by
 refine ⟨fun b o hb=>?_,fun b o hb=>?_⟩
 ·obtain ⟨_,c,e,fr,_,rfl⟩:=jM S w hb
  unfold jw
  dsimp only
  split<;>exact trivial
 ·obtain ⟨_,c,e,fr,h1,rfl⟩:=jM S w hb
  refine ⟨_,h1,?_⟩
  unfold jw
  dsimp only
  split
  ·rename_i hc
   exact ⟨c,fr,rfl,fun _=>⟨(zq hc).symm,fun _ h=>h⟩⟩
  ·exact ⟨c,fr,rfl,fun h=>by cases h⟩
theorem He {K:Nat→Prop} {x:Value} (h:aQ x=true):zk S K x:=fun H H' h1 h2 _ _=>by
 rw [@aH H x h,@aH H' x h]
end Ren
namespace Crew
open Go.Conc Go.ConcN Go.Ren
variable [gm] {P:Program} {S:FuncId→Prop}
theorem base_start (w:World):Base nobody nobody 0 0 (tV (mine nobody nobody w)) w #[]:=by
 refine ⟨⟨fun _ hb=>hb.elim,fun k b hb=>⟨id,id⟩,fun k k' b hb hb'=>hb.1.trans hb'.1.symm,fun k b hk hb=>by have:=hb.1;omega⟩,fun _ hb=>hb.elim,fun _ hb=>hb.elim,fun k b hb=>hb.2.1.1,?_,fun op hop=>by simp at hop,fun i op x hi=>by simp at hi⟩
 exact CT.lone (fun op hop=>by simp at hop) (fun op hop=>by simp at hop)
theorem Mirror.start (hS:kU P S) {fn:FuncId} (hfn:S fn∨ai P S (Frame.enter P fn #[] .normal)) {args:Array Value} {w:World} (hG:P.globals.size≤(enum w).length) (hup:∀ g,g<P.globals.size→up w g=g) (ha:∀ x∈args,zk S (· ∈ enum w) x) :
  Mirror P S nobody nobody nobody 0 (up w) (G (Frame.enter P fn (vals (down w) args) .normal) [bottom]) (lower S w) #[G (Frame.enter P fn args .normal) []] w #[] (fun _=>0):=by
 refine ⟨⟨base_start w,fun i g hg=>by simp [Trace.g?] at hg,rfl,rfl,fun i hi=>by omega⟩,⟨UM hS hfn hG ha,fun a b h1 h2 h3=>Y2 (by rw [←qx S w];exact h1) (by rw [←qx S w];exact h2) h3,hup,RY S _ w,fun b o hb=>?_⟩,?_,fun b hb=>hb.elim⟩
 ·refine .inl ⟨⟨⟨up_lt (jM S w hb).1,id⟩,id⟩,?_⟩
  obtain ⟨_,c,e,fr,_,rfl⟩:=jM S w hb
  unfold jw
  dsimp only
  split<;>rfl
 ·simp only [List.getElem?_toArray,List.getElem?_cons_zero,Option.some.injEq]
  unfold aF yB
  simp only [Conc.G]
  rw [dS,zq ha]
  rfl
end Crew
end Go
end
end
section
section
namespace Go
namespace Crew
open Go.Conc Go.ConcN Go.Ren
section
variable {P:Program} {Ro Shr:Nat→Prop} {o:Nat} {own:Nat→Prop} {gs:Array Goroutine} {w:World} {t:Trace} {q:Nat→Nat}
theorem SS {t:Trace} {j:Nat} (h:∀ op∈t,op.g≠j):Deaf t j=0:=by
 have key:∀ (l:List MemOp) (d:Nat),(∀ op∈l,op.g≠j)→l.foldl (deafStep j) d=d:=by
  intro l
  induction l with
  | nil=>intro d _;rfl
  | cons y l ih=>
   intro d hl
   rw [List.foldl_cons]
   have e:deafStep j d y=d:=by
    have hy:=hl y (List.mem_cons_self ..)
    unfold deafStep
    simp only [if_neg hy]
    split<;>rfl
   rw [e]
   exact ih d fun op hop=>hl op (List.mem_cons_of_mem _ hop)
 have:=Deaf_append #[] j t.toList
 rw [show (#[]:Trace)++t.toList.toArray=t by simp] at this
 rw [this]
 exact key _ _ fun op hop=>h op (Array.mem_toList_iff.1 hop)
theorem Calm.leavers (h:Calm P Ro Shr o own gs w t q):Leavers P t gs (fun i=>q (i - 1)):=by
 refine ⟨fun i g hi hg=>?_,fun j hj=>?_⟩
 ·have hlt:i - 1<o:=by have:=(Array.getElem?_eq_some_iff.1 hg).1;rw [h.size] at this;omega
  obtain ⟨g',hg',hq⟩:=h.old (i - 1) hlt
  rw [show i - 1+1=i by omega] at hg' hq
  rw [hg] at hg'
  obtain rfl:=Option.some.inj hg'
  exact hq
 ·refine SS fun op hop e=>?_
  obtain ⟨i,hi⟩:=Array.mem_iff_getElem?.1 hop
  have:=h.base.ct.gs i op hi
  rw [h.size] at hj
  omega
theorem Calm.past (h:Calm P Ro Shr o own gs w t q):Past (GM Shr) w.heap.size t:=by
 refine ⟨h.base.ct.nr,fun i a ha hm=>?_,h.handed,h.hears,h.base.low⟩
 obtain ⟨x,hx,hxa⟩:=touch_of ha
 rcases h.base.told i x a hx hxa with h3 | h3 | h3
 ·rw [←h3];exact .inl (knows_own hx)
 ·by_cases e:x.g=0
  ·rw [←e];exact .inl (knows_own hx)
  ·obtain ⟨j,hj,hb⟩:=h.handed i x.g (by simp [Trace.g?,hx]) e h3
   exact .inl (LH hj hb)
 ·exact .inr h3
end
section
variable [gm] {P:Program} {S:FuncId→Prop} {Z Shr Hid:Nat→Prop} {o:Nat}
theorem Mirror.ends {f:Nat→Nat} {v w:World} {gs:Array Goroutine} {t:Trace} {q:Nat→Nat} {fr:Frame} {fn:Func} {tr:Tmp} {Post:Value→World→Prop} (hM:Mirror P S Z Shr Hid o f (G fr [bottom]) v gs w t q) (sl:Option (Nat × Nat))
  (hfn:P.funcs[fr.fn]? = some fn) (hres:fn.results=#[.tmp tr]) (hin:P.inits.idxOf? fr.fn=none) (hm:fr.mode = .returning) (hd:fr.defers=[]) (hk:fr.kind = .normal)
  (hp:∀ d,Post (val f (fr.tmps.getD tr undef)) (w.at d)) :
  ∃ N last oc w' t',runNT P (N+1) (crowd gs w sl) t=(.ended oc w',t')∧runN P N (crowd gs w sl) = .next last∧step P last = .ended oc w'∧Good P Post last oc w' t':=by
 refine beside_ends (D:=fun _ _ _=>False) (Shun:=GM Shr) (B:=w.heap.size) (n:=0) (Post:=Post) (fun _ _ _ h=>h.elim) hM.at0 hM.calm.leavers hM.calm.past (Goes.stop fun w1 hw1=>?_)
 obtain ⟨d,rfl⟩:=hw1
 refine ⟨hM.oH.ok.run,_,#[],?_,fun e he=>by simp at he,hp d⟩
 have hs:stk f [] [bottom]=[]:=by
  have:=wu f [] bottom []
  simpa using this
 have h1:=results_tmp hres (vals f fr.tmps) P (w.at d)
 have h2:=events_results_tmp (P:=P) (w:=w.at d) hres (vals f fr.tmps) #[]
 have h3:(results fn (vals f fr.tmps)).runT P (w.at d) #[]=(.ok ((vals f fr.tmps).getD tr undef) (w.at d),#[]):=by
  have e0:=Sem.runT_fst P (results fn (vals f fr.tmps)) (w.at d) #[]
  rw [h1] at e0
  have e1:((results fn (vals f fr.tmps)).runT P (w.at d) #[]).2=#[]:=h2
  exact Prod.ext e0 e1
 unfold aF yB stepG
 dsimp only [Conc.G]
 rw [hs]
 have hm':(frame f fr).mode = .returning:=by simp [frame,hm,mode]
 have hd':(frame f fr).defers=[]:=by simp [frame,hd]
 have hk':(frame f fr).kind = .normal:=hk
 have hf':(frame f fr).fn=fr.fn:=rfl
 have ht':(frame f fr).tmps=vals f fr.tmps:=rfl
 simp only [hm']
 unfold unwind
 simp only [hd',hm',hf',hfn,ht',h3,doReturn,hk',GStep.after,hin,kR]
 simp [seen_none]
end
end Crew
end Go
end
end
section
section
namespace Go
namespace Crew
open Go.Conc Go.ConcN Go.Ren
open Go.ConcR (WgAt stA smA g_of_ofEvents KK)
section
variable {P:Program} {Ro Shr:Nat→Prop} {o:Nat} {own:Nat→Prop} {gs:Array Goroutine} {w:World} {t:Trace} {q:Nat→Nat}
theorem Calm.made (h:Calm P Ro Shr o own gs w t q) (og:Obj) {gs':Array Goroutine} (hsz:gs'.size=gs.size) (hgs:∀ i,i<o→gs'[i+1]? = gs[i+1]?) :
  Calm P Ro (fun b=>Shr b∨b=w.heap.size) o (mine Ro (fun b=>Shr b∨b=w.heap.size) { w with heap:=w.heap.push og }) gs' { w with heap:=w.heap.push og } t q:=by
 have hov:=h.handed
 have hnew:∀ (i:Nat) (op:MemOp) (x:Touch),t[i]? = some op→op.act.touch? = some x→∀ b,Dl x.loc=some b→b<w.heap.size:=fun i op x hi hx b hb=>H7 (h.base.low op (Array.mem_of_getElem? hi)) hx hb
 have hsh:∀ (i:Nat) (op:MemOp) (x:Touch),t[i]? = some op→op.act.touch? = some x→GM (fun b=>Shr b∨b=w.heap.size) x.loc→GM Shr x.loc:=fun i op x hi hx ⟨b,hb,hs⟩=>by
  rcases hs with hs | hs
  ·exact ⟨b,hb,hs⟩
  ·have:=hnew i op x hi hx b hb;omega
 have hup:∀ l,GM Shr l→GM (fun b=>Shr b∨b=w.heap.size) l:=fun l ⟨b,hb,hs⟩=>⟨b,hb,.inl hs⟩
 have hpush:w.heap.size≤({ w with heap:=w.heap.push og }:World).heap.size:=by simp
 refine ⟨⟨⟨fun b hb hs=>hs.elim (h.base.ap.zM b hb) fun e=>(by have:=h.base.vG b hb;omega),fun k b hb=>⟨hb.2.2,hb.2.1.2⟩,fun k k' b hb hb'=>hb.1.trans hb'.1.symm,fun k b hk hb=>by have:=hb.1;omega⟩,fun b hb=>Nat.lt_of_lt_of_le (h.base.vG b hb) hpush,fun b hb=>?_,fun k b hb=>hb.2.1.1,?_,fun op hop=>MemAct.low_mono hpush (h.base.low op hop),fun i op x hi hx=>?_⟩,h.F6,h.hears,by rw [hsz];exact h.size,fun i hi=>by rw [hgs i hi];exact h.old i hi⟩
 ·rcases hb with hb | rfl
  ·exact Nat.lt_of_lt_of_le (h.base.jT b hb) hpush
  ·simp
 ·exact ⟨fun i op x hi hx hs=>h.base.ct.quiet i op x hi hx (hsh i op x hi hx hs),fun k k1 _ l ⟨b,_,hb⟩=>absurd hb.1 (by omega),fun k _ kn l hl=>absurd hl.1 (by omega),fun l hs _=>xQ h.base.told hov fun hh=>hs (hup l hh),fun l hs _=>PermW.of (xQ h.base.told hov fun hh=>hs (hup l hh)),h.base.ct.nr,h.base.ct.gs⟩
 ·exact (h.base.told i op x hi hx).imp id fun h=>h.imp id fun h=>⟨hup _ h.1,h.2⟩
end
def ou:Obj→Obj
 | .cells _ e _=>.cells #[] e (0,0)
 | x=>x
section
variable [gm] {P:Program} {S:FuncId→Prop} {Z Shr Hid:Nat→Prop} {o:Nat}
theorem Mirror.make {f:Nat→Nat} {g g':Goroutine} {v w:World} {gs:Array Goroutine} {t:Trace} {q:Nat→Nat} (hM:Mirror P S Z Shr Hid o f g v gs w t q) (sl:Option (Nat × Nat)) {og:Obj} (hog:isCells og=true∨og.isChan=true)
  (hst:∀ (f1:Nat→Nat) (w1:World),(∀ i,i<v.heap.size→f1 i=f i)→f1 v.heap.size=w1.heap.size→stepG P true (aF f [] g) w1 = .go (aF f1 [] g') { w1 with heap:=w1.heap.push og } #[])
  (hok:Ok P S g' { v with heap:=v.heap.push (ou og) }) :
  ∃ (N:Nat) (gs':Array Goroutine) (w':World) (sl':Option (Nat × Nat)) (t':Trace) (q':Nat→Nat) (f1:Nat→Nat),
   runNT P N (crowd gs w sl) t=(.next (crowd gs' w' sl'),t') ∧
   Mirror P S Z (fun b=>Shr b∨b=w.heap.size) (fun b=>Hid b∨(b=w.heap.size∧og.isChan=true)) o f1 g' { v with heap:=v.heap.push (ou og) } gs' w' t' q' ∧
   w'.heap=w.heap.push og∧(∀ i,i<v.heap.size→f1 i=f i)∧f1 v.heap.size=w.heap.size∧(∀ A,NoRelease A t→NoRelease A t')∧w'={ w with heap:=w'.heap,drawn:=w'.drawn }:=by
 obtain ⟨N,gs1,d,sl1,sl2,w1,t1,q1,e1,e2,e3,e4,e5,e6⟩:=yj (P:=P) (a:=aF f [] g) (show (aF f [] g).status = .running from hM.oH.ok.run) (sumTo o q) gs w sl t q (Nat.le_refl _) hM.at0 hM.calm
 let f1:Nat→Nat:=fun i=>if i<v.heap.size then f i else w.heap.size+(i - v.heap.size)
 have hf1:∀ i,i<v.heap.size→f1 i=f i:=fun i hi=>if_pos hi
 have hf2:f1 v.heap.size=w.heap.size:=by show (if v.heap.size<v.heap.size then _ else _)=_;rw [if_neg (by omega)];omega
 have hrun:=runT_crowd_go (P:=P) (sl:=sl2) (i:=0) e2 (show stepG P (0==0) (aF f [] g) (w1.at d)=_ from hst f1 (w1.at d) hf1 (by rw [hf2];show w.heap.size=w1.heap.size;rw [e3]))
 have hlt:0<gs1.size:=(Array.getElem?_eq_some_iff.1 e2).1
 have e4':Calm P Z Shr o (mine Z Shr w) gs1 (w1.at d) t1 q1:=⟨e4.base.at d,e4.F6,e4.hears,e4.size,e4.old⟩
 have hmade:=e4'.made og (gs':=(gs1.map (woken P (aF f [] g) (aF f1 [] g') { w1.at d with heap:=w1.heap.push og })).setIfInBounds 0 (aF f1 [] g')) (by simp) (fun i hi=>by
  obtain ⟨y,hy,hqy⟩:=e4.old i hi
  rw [get_map_set _ _ _ _ (by omega),hy,Option.map_some,woken_quitsD hqy])
 have hws:(w1.at d).heap.size=w.heap.size:=by show w1.heap.size=_;rw [e3]
 rw [hws] at hmade
 have hpr:=hM.oH
 have hbelow:∀ i,i<v.heap.size→f i<w.heap.size:=fun i hi=>hpr.below hi
 refine ⟨N+1,_,{ w1.at d with heap:=w1.heap.push og },sl2,_,q1,f1,?_,⟨hmade,⟨hok,fun a b ha hb e=>?_,fun g0 hg0=>?_,⟨fun b x hb=>?_,fun b x hb=>?_⟩,fun b x hb=>?_⟩,?_,fun b hb=>?_⟩,?_,hf1,hf2,e5.norel,?_⟩
 ·have e0:MemOp.ofEvents 0 (aF f [] g).frame.fn (aF f [] g).frame.place #[]=#[]:=by rw [ofEvents_eq];simp
  rw [e0] at hrun
  have key:∀ (n:Nat) (m m1:Machine) (t0 t2:Trace),runNT P n m t0=(.next m1,t2)→∀ m2,stepT P m1=(.next m2,#[])→runNT P (n+1) m t0=(.next m2,t2):=by
   intro n
   induction n with
   | zero=>
    intro m m1 t0 t2 h m2 h2
    simp only [runNT,Prod.mk.injEq,Stepped.next.injEq] at h
    obtain ⟨rfl,rfl⟩:=h
    simp only [runNT,h2,Array.append_empty]
   | succ n ih=>
    intro m m1 t0 t2 h m2 h2
    unfold runNT at h ⊢
    generalize hq:stepT P m=z at h ⊢
    obtain ⟨z,u⟩:=z
    cases z with
    | next m3=>exact ih m3 m1 _ _ h m2 h2
    | ended oc w3=>simp at h
  exact key N _ _ _ _ e1 _ (by rw [e6];exact hrun)
 ·
  simp only [Array.size_push] at ha hb
  rcases Nat.lt_or_ge a v.heap.size with h1 | h1<;>rcases Nat.lt_or_ge b v.heap.size with h2 | h2
  ·rw [hf1 a h1,hf1 b h2] at e;exact hpr.inj a b h1 h2 e
  ·obtain rfl:b=v.heap.size:=by omega
   rw [hf1 a h1,hf2] at e
   have:=hbelow a h1;omega
  ·obtain rfl:a=v.heap.size:=by omega
   rw [hf1 b h2,hf2] at e
   have:=hbelow b h2;omega
  ·omega
 ·rw [hf1 g0 (Nat.lt_of_lt_of_le hg0 hpr.ok.vS)];exact hpr.fix g0 hg0
 ·simp only [Array.getElem?_push] at hb
  split at hb
  ·obtain rfl:=Option.some.inj hb
   rcases hog with h | h<;>cases og<;>first | (cases h;done) | exact trivial
  ·exact hpr.mF.good b x hb
 ·simp only [Array.getElem?_push] at hb
  split at hb
  ·rename_i hbe
   obtain rfl:=Option.some.inj hb
   subst hbe
   refine ⟨og,?_,?_⟩
   ·rw [hf2]
    show (w1.heap.push og)[w.heap.size]? = _
    rw [e3];simp
   ·cases og<;>first | (rcases hog with h | h<;>cases h;done) | skip
    ·exact ⟨_,_,rfl,fun h=>(by cases h)⟩
    ·exact ⟨_,_,_,_,_,_,rfl⟩
  ·rename_i hbe
   have hlt':b<v.heap.size:=(Array.getElem?_eq_some_iff.1 hb).1
   obtain ⟨o',h4,h5⟩:=hpr.mF.block b x hb
   refine ⟨o',?_,h5.congr ((hpr.ok.bound jW jW f f1 ⟨fun i hi=>(hf1 i hi).symm,fun _ _=>rfl⟩).2 b x hb)⟩
   rw [hf1 b hlt']
   show (w1.heap.push og)[f b]? = _
   rw [e3]
   have:=hbelow b hlt'
   simp only [Array.getElem?_push]
   rw [if_neg (by omega)]
   exact h4
 ·simp only [Array.getElem?_push] at hb
  split at hb
  ·rename_i hbe
   obtain rfl:=Option.some.inj hb
   subst hbe
   rw [hf2]
   cases og<;>first | (rcases hog with h | h<;>cases h;done) | skip
   ·exact .inr (.inl rfl)
   ·exact .inr (.inr (.inr ⟨.inr ⟨rfl,rfl⟩,rfl⟩))
  ·have hlt':b<v.heap.size:=(Array.getElem?_eq_some_iff.1 hb).1
   have h1:=hbelow b hlt'
   rw [hf1 b hlt']
   rcases hpr.held b x hb with h | h | h | ⟨h2,h3⟩
   ·refine .inl ⟨⟨⟨?_,fun hs=>?_⟩,h.1.2⟩,h.2⟩
    ·show f b<(w1.heap.push og).size
     rw [Array.size_push,e3];omega
    ·rcases hs with hs | hs
     ·exact h.1.1.2 hs
     ·omega
   ·exact .inr (.inl h)
   ·exact .inr (.inr (.inl h))
   ·exact .inr (.inr (.inr ⟨.inl h2,h3⟩))
 ·rw [get_map_set_same _ _ _ hlt]
 ·rcases hb with hb | ⟨hb,_⟩
  ·exact .inl (hM.shr b hb)
  ·exact .inr hb
 ·show w1.heap.push og=_
  rw [e3]
 ·exact (congrArg (fun x:World=>({ x.at d with heap:=w1.heap.push og }:World)) e5.same).trans rfl
end
end Crew
end Go
end
end
section
section
namespace Go
namespace Crew
open Go.Conc Go.ConcN Go.Ren
open Go.ConcR (WgAt stA smA g_of_ofEvents KK)
def FW:Obj→Obj
 | .cells c e fr=>.cells c e (0,max c.size fr.2)
 | .chan a b c d e f=>.chan a b c d e f
 | _=>.coro none
open Classical in
noncomputable def Az (A:Nat→Prop) (v:World):World:={ v with heap:=v.heap.mapIdx fun b x=>if A b then FW x else x }
theorem Aw (A:Nat→Prop) (v:World):(Az A v).heap.size=v.heap.size:=by simp [Az]
theorem rq {A:Nat→Prop} {v:World} {b:Nat} {x:Obj} (h:(Az A v).heap[b]? = some x):∃ x0,v.heap[b]? = some x0∧((A b∧x=FW x0)∨(¬ A b∧x=x0)):=by
 simp only [Az,Array.getElem?_mapIdx] at h
 obtain ⟨x0,h1,h2⟩:=Option.map_eq_some_iff.1 h
 refine ⟨x0,h1,?_⟩
 by_cases hA:A b
 ·rw [if_pos hA] at h2;exact .inl ⟨hA,h2.symm⟩
 ·rw [if_neg hA] at h2;exact .inr ⟨hA,h2.symm⟩
theorem Z8 {A:Nat→Prop} {v:World} {b:Nat} {x0:Obj} (h:v.heap[b]? = some x0) (hA:A b):(Az A v).heap[b]? = some (FW x0):=by
 simp [Az,h,hA]
theorem XV {A:Nat→Prop} {v:World} {b:Nat} (hA:¬ A b):(Az A v).heap[b]? = v.heap[b]?:=by
 simp only [Az,Array.getElem?_mapIdx,if_neg hA]
 cases v.heap[b]? <;> rfl
section
variable [gm] {P:Program} {S:FuncId→Prop} {Hid:Nat→Prop} {A:Nat→Prop} {f:Nat→Nat} {g:Goroutine} {v w:World} {Ro own:Nat→Prop}
theorem XW {K:Kd} {x:Obj} (h:(aU x=true∨plain x=true)∧ji K x):(aU (FW x)=true∨plain (FW x)=true)∧ji K (FW x):=by
 cases x<;>first | exact ⟨.inl rfl,trivial⟩ | exact ⟨.inr rfl,trivial⟩
theorem LX {H H':Fr} {h h':Nat→Nat} {x:Obj} (e:@obj H h x = @obj H' h' x):@obj H h (FW x) = @obj H' h' (FW x):=by
 cases x with
 | cells c t fr=>
  obtain ⟨e1,_⟩:=Obj.cells.inj e
  show Obj.cells _ t _=Obj.cells _ t _
  rw [e1]
 | _=>rfl
theorem Ok.Az (h:Ok P S g v):Ok P S g (Az A v):=by
 refine ⟨fun b x hb=>?_,h.uy,h.run,h.up,by rw [Aw];exact h.vS,fun H H' e e' ha=>?_,fun H H' e ha b x hb=>?_⟩
 ·obtain ⟨x0,h1,h2 | h2⟩:=rq hb
  ·rw [h2.2];exact XW (h.nv b x0 h1)
  ·rw [h2.2];exact h.nv b x0 h1
 ·rw [Aw] at ha
  obtain ⟨h1,h2⟩:=h.bound H H' e e' ha
  refine ⟨h1,fun b x hb=>?_⟩
  obtain ⟨x0,h3,h4 | h4⟩:=rq hb
  ·rw [h4.2];exact LX (h2 b x0 h3)
  ·rw [h4.2];exact h2 b x0 h3
 ·obtain ⟨x0,h3,h4 | h4⟩:=rq hb
  ·rw [h4.2];exact LX (h.clean H H' e ha b x0 h3)
  ·rw [h4.2];exact h.clean H H' e ha b x0 h3
theorem LW {x o':Obj} (hn:∀ a l,x ≠ .number a l) (h:nZ f x o'):nZ f (FW x) o':=by
 cases x with
 | cells c e fr=>
  obtain ⟨c',fr',rfl,h2⟩:=h
  refine ⟨c',fr',rfl,fun hc=>?_⟩
  obtain ⟨h3,h4⟩:=h2 hc
  exact ⟨h3,fun y hy=>⟨Nat.zero_le _,Nat.lt_of_lt_of_le (h4 y hy).2 (Nat.le_max_right _ _)⟩⟩
 | chan=>exact h
 | coro=>exact h
 | number a l=>exact absurd rfl (hn a l)
 | _=>first | (obtain ⟨_,rfl⟩:=h;exact rfl) | (have e:=h.1;cases e;done)
theorem di.freeze {Z Shr:Nat→Prop} (h:di P S Z (mine Z Shr w) Hid f g v w) (hZ:∀ b,Z b→Ro b) (hA:∀ b x,A b→v.heap[b]? = some x→(∀ a l,x ≠ .number a l)∧(x.isChan=true→Hid (f b)))
  (hRo:∀ b,A b→b<v.heap.size→mine Z Shr w (f b)→Ro (f b)) (hown:∀ b,¬ A b→b<v.heap.size→mine Z Shr w (f b)→own (f b)):di P S Ro own Hid f g (Crew.Az A v) w:=by
 refine ⟨Ok.Az h.ok,by rw [Aw];exact h.inj,h.fix,⟨fun b x hb=>?_,fun b x hb=>?_⟩,fun b x hb=>?_⟩
 ·exact (Ok.Az (A:=A) h.ok).nv b x hb |>.2
 ·obtain ⟨x0,h1,h2⟩:=rq hb
  obtain ⟨o',h3,h4⟩:=h.mF.block b x0 h1
  refine ⟨o',h3,?_⟩
  rcases h2 with ⟨h2,rfl⟩ | ⟨_,rfl⟩
  ·exact LW (hA b x0 h2 h1).1 h4
  ·exact h4
 ·obtain ⟨x0,h1,h2⟩:=rq hb
  have hlt:=(Array.getElem?_eq_some_iff.1 h1).1
  rcases h2 with ⟨h2,rfl⟩ | ⟨h2,rfl⟩
  ·by_cases hg:lI (FW x0)=true
   ·exact .inr (.inl hg)
   by_cases hch:x0.isChan=true
   ·refine .inr (.inr (.inr ⟨(hA b x0 h2 h1).2 hch,?_⟩))
    cases x0<;>first | (cases hch;done) | rfl
   ·rcases h.held b x0 h1 with h5 | h5 | ⟨h5,_⟩ | ⟨_,h5⟩
    ·refine .inr (.inr (.inl ⟨hRo b h2 hlt h5.1,?_⟩))
     cases x0<;>first | exact .inl ⟨_,_,_,rfl,Nat.le_max_left _ _⟩ | exact absurd rfl hch | exact .inr ⟨none,rfl⟩
    ·cases x0<;>first | (cases h5;done) | exact absurd h5 hg
    ·refine .inr (.inr (.inl ⟨hZ _ h5,?_⟩))
     cases x0<;>first | exact .inl ⟨_,_,_,rfl,Nat.le_max_left _ _⟩ | exact absurd rfl hch | exact .inr ⟨none,rfl⟩
    ·exact absurd h5 hch
  ·rcases h.held b _ h1 with h5 | h5 | ⟨h5,h5'⟩ | h5
   ·exact .inl ⟨hown b h2 hlt h5.1,h5.2⟩
   ·exact .inr (.inl h5)
   ·exact .inr (.inr (.inl ⟨hZ _ h5,h5'⟩))
   ·exact .inr (.inr (.inr h5))
theorem Mirror.leave {Z Z' Shr:Nat→Prop} {o:Nat} {gs:Array Goroutine} {t:Trace} {q:Nat→Nat} (hM:Mirror P S Z Shr Hid o f g v gs w t q) (hA:∀ b x,A b→v.heap[b]? = some x→(∀ a l,x ≠ .number a l)∧(x.isChan=true→Hid (f b)))
  (hZ:∀ b,Z b→Z' b) (hZ':∀ b,Z' b→rest Shr w b) (hRo:∀ b,A b→b<v.heap.size→mine Z Shr w (f b)→Z' (f b)) (hown:∀ b,¬ A b→b<v.heap.size→mine Z Shr w (f b)→¬ Z' (f b)) :
  Mirror P S Z' Shr Hid o f g (Az A v) gs w t q:=
 ⟨hM.calm.all hZ',di.freeze hM.oH hZ hA hRo fun b hb hlt hm=>⟨hm.1,hown b hb hlt hm⟩,hM.at0,hM.shr⟩
end
end Crew
end Go
end
end
section
section
namespace Go
namespace Crew
open Go.Conc Go.ConcN Go.Ren
open Classical in
noncomputable def pJ (A:Nat→Prop) (v v':World):World:={ v' with heap:=v'.heap.mapIdx fun b x=>if A b∧b<v.heap.size then (v.heap[b]?).getD x else x }
theorem lZ (A:Nat→Prop) (v v':World):(pJ A v v').heap.size=v'.heap.size:=by simp [pJ]
theorem kK {A:Nat→Prop} {v v':World} {b:Nat} {x:Obj} (h:(pJ A v v').heap[b]? = some x):(A b∧v.heap[b]? = some x)∨(¬ (A b∧b<v.heap.size)∧v'.heap[b]? = some x):=by
 simp only [pJ,Array.getElem?_mapIdx] at h
 obtain ⟨x0,h1,h2⟩:=Option.map_eq_some_iff.1 h
 by_cases hA:A b∧b<v.heap.size
 ·rw [if_pos hA] at h2
  refine .inl ⟨hA.1,?_⟩
  rw [Array.getElem?_eq_getElem hA.2] at h2 ⊢
  exact congrArg some h2
 ·rw [if_neg hA] at h2
  exact .inr ⟨hA,by rw [←h2];exact h1⟩
section
variable [gm] {P:Program} {S:FuncId→Prop} {Hid Hid' Z Shr Shr':Nat→Prop} {A:Nat→Prop} {f f':Nat→Nat} {g g':Goroutine} {v v' w w':World} {Ro own':Nat→Prop}
theorem di.restore (h0:di P S Z (mine Z Shr w) Hid f g v w) (hZ:∀ b,Z b→Ro b) (h1:di P S Ro own' Hid' f' g' v' w') (hsz:v.heap.size≤v'.heap.size) (hag:∀ i,i<v.heap.size→f' i=f i)
  (hw:∀ b,Ro b→w'.heap[b]? = w.heap[b]?) (hcl:bu w w') (hch:nR w w') (hRo:∀ b,A b→b<v.heap.size→mine Z Shr w (f b)→Ro (f b))
  (hRo':∀ b,Ro b→rest Shr' w' b) (hown':∀ b,own' b→mine Z Shr' w' b) (hHid:∀ b,Hid b→Hid' b):di P S Z (mine Z Shr' w') Hid' f' g' (pJ A v v') w':=by
 refine ⟨⟨fun b x hb=>?_,h1.ok.uy,h1.ok.run,h1.ok.up,by rw [lZ];exact h1.ok.vS,fun H H' e e' ha=>?_,fun H H' e ha b x hb=>?_⟩,by rw [lZ];exact h1.inj,h1.fix,⟨fun b x hb=>?_,fun b x hb=>?_⟩,fun b x hb=>?_⟩
 ·rcases kK hb with ⟨_,h2⟩ | ⟨_,h2⟩
  ·exact h0.ok.nv b x h2
  ·exact h1.ok.nv b x h2
 ·rw [lZ] at ha
  obtain ⟨h2,h3⟩:=h1.ok.bound H H' e e' ha
  refine ⟨h2,fun b x hb=>?_⟩
  rcases kK hb with ⟨_,h4⟩ | ⟨_,h4⟩
  ·exact (h0.ok.bound H H' e e' (ha.mono hsz)).2 b x h4
  ·exact h3 b x h4
 ·rcases kK hb with ⟨_,h4⟩ | ⟨_,h4⟩
  ·exact h0.ok.clean H H' e ha b x h4
  ·exact h1.ok.clean H H' e ha b x h4
 ·rcases kK hb with ⟨_,h2⟩ | ⟨_,h2⟩
  ·exact (h0.ok.nv b x h2).2
  ·exact (h1.ok.nv b x h2).2
 ·rcases kK hb with ⟨hA,h2⟩ | ⟨_,h2⟩
  ·have hlt:=(Array.getElem?_eq_some_iff.1 h2).1
   obtain ⟨o',h3,h4⟩:=h0.mF.block b x h2
   have hobj:obj f x=obj f' x:=(h0.ok.bound jW jW f f' ⟨fun i hi=>(hag i hi).symm,fun _ _=>rfl⟩).2 b x h2
   rw [hag b hlt]
   rcases h0.held b x h2 with h5 | h5 | ⟨h5,_⟩ | ⟨_,h5⟩
   ·exact ⟨o',by rw [hw _ (hRo b hA hlt h5.1)];exact h3,h4.congr hobj⟩
   ·cases x<;>first | (cases h5;done) | skip
    obtain ⟨c',fr',e1,_⟩:=h4
    subst e1
    obtain ⟨c2,fr2,h6⟩:=hcl _ _ _ _ h3
    refine ⟨_,h6,c2,fr2,rfl,fun hne=>?_⟩
    rw [show Array.isEmpty _=true from h5] at hne;cases hne
   ·exact ⟨o',by rw [hw _ (hZ _ h5)];exact h3,h4.congr hobj⟩
   ·have hh:=Am (by cases x<;>first | rfl | (cases h5;done)) h4
    obtain ⟨o2,h6,h7⟩:=hch.chan _ _ h3 (hh.isChan▸h5)
    exact ⟨o2,h6,pR (.inl ⟨h5,h7⟩)⟩
  ·exact h1.mF.block b x h2
 ·rcases kK hb with ⟨hA,h2⟩ | ⟨_,h2⟩
  ·have hlt:=(Array.getElem?_eq_some_iff.1 h2).1
   rw [hag b hlt]
   rcases h0.held b x h2 with h5 | h5 | h5 | ⟨h5,h6⟩
   ·exact .inl ⟨⟨hRo' _ (hRo b hA hlt h5.1),h5.1.2⟩,h5.2⟩
   ·exact .inr (.inl h5)
   ·exact .inr (.inr (.inl h5))
   ·exact .inr (.inr (.inr ⟨hHid _ h5,h6⟩))
  ·rcases h1.held b x h2 with h5 | h5 | ⟨h5,h5'⟩ | h5
   ·exact .inl ⟨hown' _ h5.1,h5.2⟩
   ·exact .inr (.inl h5)
   ·by_cases hz:Z (f' b)
    ·exact .inr (.inr (.inl ⟨hz,h5'⟩))
    ·exact .inl ⟨⟨hRo' _ h5,hz⟩,by
      rcases h5' with ⟨_,_,_,rfl,_⟩ | ⟨_,rfl⟩<;>rfl⟩
   ·exact .inr (.inr (.inr h5))
end
end Crew
end Go
end
end
section
section
namespace Go
namespace Crew
open Go.Conc Go.ConcN Go.Ren
open Go.ConcR (KK wgBlock WgAt stA smA rd wr mk)
theorem aC.mono {P:Program} {Ro:Nat→Prop} {Live:World→Prop} {m:Bool} {k k':Kind} (hq:k.quiet=k'.quiet) (hX:k.X=k'.X) (h:∀ g w own,k.Stop g w own→k'.Stop g w own) {a:Rank} (hw:aC P Ro Live m k a):aC P Ro Live m k' a:=by
 obtain ⟨g,w,own⟩:=a
 have h0:Ren.Way P m Ro Live k.quiet k.X k.Stop g w own:=hw
 show Ren.Way P m Ro Live k'.quiet k'.X k'.Stop g w own
 rw [←hq,← hX]
 clear hw
 induction h0 with
 | stop hs h1=>exact .stop hs fun w1 hr hl=>h _ _ _ (h1 w1 hr hl)
 | step hs G W E he _ ih=>exact .step hs G W E he fun w1 hr hl=>ih w1 hr hl
def kZ (Stop:Stops):Kind:=⟨true,fun _=>False,Stop⟩
def Here (gT:Goroutine) (own:Nat→Prop):Stops:=fun g _ o=>g=gT∧o=own
section
variable [au] {P:Program} {ty:TypeId} {Wg Ch:Nat} {Ro:Nat→Prop} {Anch Anch' Done Done':Stops}
theorem yA {Live:World→Prop} {s s':Stops} {a:Rank} (hw:aC P Ro Live true (kM Wg s) a) (h:∀ g w own,s g w own→s' g w own):aC P Ro Live true (kM Wg s') a:=
 aC.mono (k:=kM Wg s) (k':=kM Wg s') rfl rfl h hw
theorem Nj.mono (h:∀ g w own,Done g w own→Done' g w own) {g w own} (hs:Nj P Wg Done g w own):Nj P Wg Done' g w own:=by
 obtain ⟨g',h1,h2,h3⟩:=hs
 exact ⟨g',h1,h2,h _ _ _ h3⟩
theorem Wx.mono (h:∀ g w own,Done g w own→Done' g w own) {g w own} (hs:Wx P ty Wg Ch Ro Done g w own):Wx P ty Wg Ch Ro Done' g w own:=by
 obtain ⟨g',h1,h2⟩:=hs
 exact ⟨g',h1,yA h2 (fun _ _ _=>Nj.mono h)⟩
theorem YV.mono (h:∀ g w own,Done g w own→Done' g w own) {g w own} (hs:YV P ty Wg Ch Ro Done g w own):YV P ty Wg Ch Ro Done' g w own:=fun hw=>by
 obtain ⟨g',h1,h2⟩:=hs hw
 exact ⟨g',h1,yA h2 (fun _ _ _=>Wx.mono h)⟩
theorem Qz.mono (h:∀ g w own,Done g w own→Done' g w own) {g w own} (hs:Qz P ty Wg Ch Ro Done g w own):Qz P ty Wg Ch Ro Done' g w own:=by
 obtain ⟨h1,h2,h3,h4⟩:=hs
 refine ⟨h1,h2,h3,fun hw=>?_⟩
 obtain ⟨g',h5,h6⟩:=h4 hw
 exact ⟨g',h5,yA h6 (fun _ _ _=>YV.mono h)⟩
theorem YW.mono (ha:∀ g w own,Anch g w own→Anch' g w own) (h:∀ g w own,Done g w own→Done' g w own) {vs:Nat} {g w own} (hs:YW P ty Wg Ch Ro Anch Done vs g w own):YW P ty Wg Ch Ro Anch' Done' vs g w own:=fun v hv hw=>by
 obtain ⟨h1,h2⟩:=hs v hv hw
 refine ⟨fun e=>?_,fun e=>?_⟩
 ·obtain ⟨g',h5,h6⟩:=h1 e
  exact ⟨g',h5,yA h6 (fun _ _ _=>Qz.mono h)⟩
 ·obtain ⟨g',h5,h6⟩:=h2 e
  exact ⟨g',h5,yA h6 (ha)⟩
theorem Nr.mono (ha:∀ g w own,Anch g w own→Anch' g w own) (h:∀ g w own,Done g w own→Done' g w own) {g w own} (hs:Nr P ty Wg Ch Ro Anch Done g w own):Nr P ty Wg Ch Ro Anch' Done' g w own:=fun v hv hw=>by
 obtain ⟨g',h1,h2,h3⟩:=hs v hv hw
 exact ⟨g',h1,fun e=>yA (h2 e) (fun _ _ _=>Wx.mono h),fun e=>yA (h3 e) (fun _ _ _=>YW.mono ha h)⟩
theorem QA.mono (ha:∀ g w own,Anch g w own→Anch' g w own) {g w own} (hs:QA P ty Wg Ch Ro Anch g w own):QA P ty Wg Ch Ro Anch' g w own:=by
 obtain ⟨g',h1,h2⟩:=hs
 exact ⟨g',h1,yA h2 (ha)⟩
end
end Crew
end Go
end
end
section
section
namespace Go
namespace Crew
open Go.Conc Go.ConcN Go.Ren
open Go.ConcR (KK WgAt stA smA)
section
variable [gm] [au] {P:Program} {S:FuncId→Prop} {Z Shr Hid:Nat→Prop} {o:Nat}
def Wi (P:Program) (S:FuncId→Prop) (Ro Hid:Nat→Prop) (w:World) (n0:Nat) (f:Nat→Nat) (End:Goroutine→World→Prop):Stops:=fun g1 w1 own1=>
 ∃ (f':Nat→Nat) (g':Goroutine) (v':World),End g' v'∧di P S Ro own1 Hid f' g' v' w1∧aC P Ro (fun _=>True) true (kZ (Here (aF f' [] g') own1)) ⟨g1,w1,own1⟩ ∧
  aI Ro (fun _=>False) w w1∧(∀ i,i<n0→f' i=f i)∧n0≤v'.heap.size
theorem sG {P:Program}:∀ (n k:Nat) (m m1:Machine) (t t1:Trace) (r:Stepped × Trace),runNT P n m t=(.next m1,t1)→runNT P k m1 t1=r→runNT P (n+k) m t=r:=by
 intro n
 induction n with
 | zero=>
  intro k m m1 t t1 r h h2
  simp only [runNT,Prod.mk.injEq,Stepped.next.injEq] at h
  obtain ⟨rfl,rfl⟩:=h
  rw [Nat.zero_add];exact h2
 | succ n ih=>
  intro k m m1 t t1 r h h2
  rw [show n+1+k=(n+k)+1 by omega]
  unfold runNT at h ⊢
  generalize hq:stepT P m=z at h ⊢
  obtain ⟨z,u⟩:=z
  cases z with
  | next m3=>exact ih k m3 m1 _ _ r h h2
  | ended oc w3=>simp at h
theorem Mirror.crew {ty:TypeId} {Wg Ch n cap rz:Nat} {tm:Bool} {Anch:Stops} {pay:Nat→Option Value} {A Ro own:Nat→Prop} {End:Goroutine→World→Prop} {f:Nat→Nat} {g:Goroutine} {v w:World} {gs:Array Goroutine} {t:Trace} {q:Nat→Nat}
  (hM:Mirror P S Z Shr Hid o f g v gs w t q) (sl:Option (Nat × Nat)) (hHid:∀ b,au.ch b→Shr b)
  (hZ:∀ b,Z b→Ro b) (hRo:∀ b,Ro b→rest Shr w b) (hown:∀ b,own b→rest Shr w b∧¬ Ro b) (hA:∀ b,A b→b<v.heap.size→mine Z Shr w (f b)→Ro (f b))
  (hshr:Shr Wg∧Shr Ch) (hCW:Ch≠Wg) (hwg:WgAt ty Wg w 0 0) (hch:w.heap[Ch]? = some (.chan cap #[] false 0 rz tm)) (hno:NoRelease (stA Wg) t) (hcap:n≤cap) (hn:n<2147483648) (hpay:∀ i,i<o→pay i=none)
  (hsp:Spawns P ty Wg Ch Ro (o+n) Anch pay n ⟨aF f [] g,w,own⟩)
  (hAn:∀ g1 w1 own1,Anch g1 w1 own1→aC P Ro (Live ty Wg Ch) true (kM Wg (Nr P ty Wg Ch Ro Anch (Wi P S Ro Hid w v.heap.size f End))) ⟨g1,w1,own1⟩) :
  ∃ (N:Nat) (gs':Array Goroutine) (w':World) (sl':Option (Nat × Nat)) (t':Trace) (q':Nat→Nat) (f':Nat→Nat) (g':Goroutine) (v':World) (sent:List Nat),
   runNT P N (crowd gs w sl) t=(.next (crowd gs' w' sl'),t')∧End g' v'∧Mirror P S Z Shr Hid (o+n) f' g' (pJ A v v') gs' w' t' q'∧(∀ i,i<v.heap.size→f' i=f i)∧v.heap.size≤v'.heap.size ∧
   w'.heap[Ch]? = some (.chan cap ((sent.map fun i=>(pay i).getD undef).toArray) false sent.length rz tm)∧sent.Nodup∧(∀ i,i∈sent↔i<o+n∧(pay i).isSome=true)∧aI Z (fun _=>False) w w':=by
 have hc:=hM.calm.split hRo hown
 obtain ⟨x,hI,_⟩:=hc.enter (ty:=ty) (Wg:=Wg) (Ch:=Ch) (cap:=cap) (rz:=rz) (tm:=tm) (Done:=Wi P S Ro Hid w v.heap.size f End) (a:=⟨aF f [] g,w,own⟩) (r:=n) hM.at0 (aI.refl _ _ _) hsp hshr hHid hwg hch hno hpay
 obtain ⟨N1,gs1,w1,sl1,t1,x1,r1,hO⟩:=SV hCW (by omega) (by omega) hAn _ x rfl gs w sl t 0 0 hI
 have hC1:=hO.calm
 obtain ⟨a,ha,hag,har,f1,g1,v1,d1,d2,d3,d4,d5,d6⟩:=hO.main
 obtain ⟨N2,gs2,a2,w2,sl2,t2,q2,e1,e2,e3,e4,e5,e6,e7,e8,_,e10⟩:=Dn (Live:=fun _=>True) (fun _ _ _ h=>h) (k:=kZ (Here (aF f1 [] g1) (x1.own 0))) (fun e he=>he.elim) d3 (sumTo (o+n) fun i=>(x1.D i).fuel) gs1 w1 sl1 t1 _ (Nat.le_refl _) ha (aI.refl _ _ _) trivial hC1
 obtain ⟨h1,h2⟩:=e4 w2 e5 trivial
 have hheap:w2.heap=w1.heap:=e10 rfl
 have hR:aI Ro (x1.own 0) w1 w2:=⟨by rw [hheap];exact Nat.le_refl _,fun b _ _=>by rw [hheap],.of hheap,⟨.of hheap,by rw [e7.same],by rw [e7.same]⟩⟩
 obtain ⟨p1,_,p3⟩:=d2.rely hR []
 rw [h2] at e6
 refine ⟨N1+N2,gs2,w2,sl2,t2,q2,aA f1 v1 w2,g1,v1,x1.sent,sG N1 N2 _ _ _ _ _ r1 e1,d1,⟨e6.all fun b hb=>⟨by rw [hheap];exact Nat.lt_of_lt_of_le (hM.alone b hb).1 d4.size,(hM.alone b hb).2⟩,?_,by rw [e2,h1,p3],hM.shr⟩,fun i hi=>(bM (Nat.lt_of_lt_of_le hi d6)).trans (d5 i hi),d6,by rw [hheap];exact hO.chan,hO.nodup,hO.mG,⟨Nat.le_trans d4.size hR.size,fun b hb ho=>ho.elim (fun h=>(hR.keep b (Nat.lt_of_lt_of_le hb d4.size) (.inl (hZ b h))).trans (d4.keep b hb (.inl (hZ b h)))) fun h=>h.elim,d4.cells.trans hR.cells,d4.chans.trans hR.chans⟩⟩
 refine di.restore hM.oH hZ p1 d6 (fun i hi=>(bM (Nat.lt_of_lt_of_le hi d6)).trans (d5 i hi)) (fun b hb=>?_) (d4.cells.trans hR.cells) (d4.chans.trans hR.chans) hA (fun b hb=>⟨?_,(hRo b hb).2⟩) (fun b hb=>⟨⟨e6.base.qi 0 b ⟨rfl,hb⟩,(e6.base.ap.free 0 b ⟨rfl,hb⟩).2⟩,fun hz=>(e6.base.ap.free 0 b ⟨rfl,hb⟩).1 (hZ b hz)⟩) fun b h=>h
 ·rw [hheap];exact d4.keep b (hRo b hb).1 (.inl hb)
 ·rw [hheap];exact Nat.lt_of_lt_of_le (hRo b hb).1 d4.size
end
end Crew
end Go
end
end
section
section
namespace Go
namespace Crew
open Go.Conc Go.ConcN Go.Ren
open Go.ConcR (KK WgAt stA smA g_of_ofEvents)
section
variable {P:Program} {Ro Shr:Nat→Prop} {o:Nat} {own:Nat→Prop} {gs:Array Goroutine} {w w':World} {t:Trace} {q:Nat→Nat}
theorem Calm.put1 (h:Calm P Ro Shr o own gs w t q) (hs:w'.heap.size=w.heap.size) (hb:∀ b,¬ Shr b→w'.heap[b]? = w.heap[b]?) (hcl:bu w w') (hch:nR w w') {u:Trace}
  (hu:∀ op∈u,op.g=0∧(∀ x,op.act.touch? = some x→GM Shr x.loc∧x.kind = .atomic)∧op.act.low w.heap.size)
  (hd:Deaf (t++u) 0=0) {gs':Array Goroutine} (hsz:gs'.size=gs.size) (hgs:∀ i,i<o→gs'[i+1]? = gs[i+1]?):Calm P Ro Shr o own gs' w' (t++u) q:=by
 obtain ⟨b1,_⟩:=h.base.shared (i:=0) (Nat.zero_le _) hs hb hcl hch (u:=u) hu
 refine ⟨b1,h.F6.app fun op hop=>.inl (hu op hop).1,hd,by rw [hsz];exact h.size,fun i hi=>?_⟩
 obtain ⟨g,hg,hq⟩:=h.old i hi
 exact ⟨g,by rw [hgs i hi];exact hg,by rw [Deaf_other t (g':=0) (by omega) _ (fun op hop=>(hu op hop).1)];exact hq⟩
theorem JY {w w1:World} (h:w1={ w with heap:=w1.heap,drawn:=w1.drawn }) (hh:w1.heap=w.heap) (d:Nat):w1.at d=w.at d:=by
 rw [h,hh];rfl
theorem RQ {Z Shr:Nat→Prop} {w w':World} (h:w'.heap.size=w.heap.size):mine Z Shr w'=mine Z Shr w:=by
 funext b;simp only [mine,rest,h]
end
section
variable [gm] {P:Program} {S:FuncId→Prop} {Z Shr Hid:Nat→Prop} {o:Nat} {f:Nat→Nat} {g g':Goroutine} {v w w':World} {gs gs':Array Goroutine} {t t':Trace} {q q':Nat→Nat}
theorem Mirror.same (hM:Mirror P S Z Shr Hid o f g v gs w t q) (hc:Calm P Z Shr o (mine Z Shr w) gs' w' t' q') (hs:w'.heap.size=w.heap.size) (hb:∀ b,¬ Shr b→w'.heap[b]? = w.heap[b]?) (hcl:bu w w') (hch:nR w w')
  (hok:Ok P S g' v) (h0:gs'[0]? = some (aF f [] g')):Mirror P S Z Shr Hid o f g' v gs' w' t' q':=by
 have hp:=hM.oH
 have hr:=RQ (Z:=Z) (Shr:=Shr) hs
 refine ⟨by rw [hr];exact hc,⟨hok,hp.inj,hp.fix,⟨hp.mF.good,fun b x hx=>?_⟩,by rw [hr];exact hp.held⟩,h0,hM.shr⟩
 obtain ⟨o',h3,h4⟩:=hp.mF.block b x hx
 rcases hp.held b x hx with h5 | h5 | ⟨h5,_⟩ | ⟨_,h5⟩
 ·exact ⟨o',by rw [hb _ h5.1.1.2];exact h3,h4⟩
 ·cases x<;>first | (cases h5;done) | skip
  obtain ⟨c',fr',e1,_⟩:=h4
  subst e1
  obtain ⟨c2,fr2,h6⟩:=hcl _ _ _ _ h3
  refine ⟨_,h6,c2,fr2,rfl,fun hne=>?_⟩
  rw [show Array.isEmpty _=true from h5] at hne;cases hne
 ·exact ⟨o',by rw [hb _ (hM.alone _ h5).2];exact h3,h4⟩
 ·have hh:=Am (by cases x<;>first | rfl | (cases h5;done)) h4
  obtain ⟨o2,h6,h7⟩:=hch.chan _ _ h3 (hh.isChan▸h5)
  exact ⟨o2,h6,pR (.inl ⟨h5,h7⟩)⟩
theorem Mirror.turn (hM:Mirror P S Z Shr Hid o f g v gs w t q) (sl:Option (Nat × Nat)) {H:Array Obj} {es:Array Event}
  (hst:∀ d,stepG P true (aF f [] g) (w.at d) = .go (aF f [] g') { w.at d with heap:=H } es) (hs:H.size=w.heap.size) (hb:∀ b,¬ Shr b→H[b]? = w.heap[b]?) (hcl:bu w { w with heap:=H }) (hch:nR w { w with heap:=H })
  (hes:∀ e∈es,(∀ x,(MemAct.ofEvent e).touch? = some x→GM Shr x.loc∧x.kind = .atomic)∧(MemAct.ofEvent e).low w.heap.size∧e.loc ≠ .mark .disable∧e.loc ≠ .mark .enable) (hok:Ok P S g' v) :
  ∃ (N:Nat) (gs':Array Goroutine) (w':World) (sl':Option (Nat × Nat)) (t':Trace) (q':Nat→Nat),
   runNT P N (crowd gs w sl) t=(.next (crowd gs' w' sl'),t')∧Mirror P S Z Shr Hid o f g' v gs' w' t' q'∧w'.heap=H∧w'={ w with heap:=w'.heap,drawn:=w'.drawn }:=by
 obtain ⟨N,gs1,d,sl1,sl2,w1,t1,q1,e1,e2,e3,e4,e5,e6⟩:=yj (P:=P) (a:=aF f [] g) (show (aF f [] g).status = .running from hM.oH.ok.run) (sumTo o q) gs w sl t q (Nat.le_refl _) hM.at0 hM.calm
 have hat:=JY e5.same e3 d
 rw [hat] at e6
 have hrun:=runT_crowd_go (P:=P) (sl:=sl2) (i:=0) e2 (show stepG P (0==0) (aF f [] g) (w.at d)=_ from hst d)
 have hlt:0<gs1.size:=(Array.getElem?_eq_some_iff.1 e2).1
 have e4':Calm P Z Shr o (mine Z Shr w) gs1 (w.at d) t1 q1:=by rw [←hat];exact ⟨e4.base.at d,e4.F6,e4.hears,e4.size,e4.old⟩
 have hc:=e4'.put1 (w':={ w.at d with heap:=H }) (gs':=(gs1.map (woken P (aF f [] g) (aF f [] g') { w.at d with heap:=H })).setIfInBounds 0 (aF f [] g')) (u:=MemOp.ofEvents 0 (aF f [] g).frame.fn (aF f [] g).frame.place es) hs hb hcl ⟨hch.chan,hch.os,hch.output⟩
  (fun op hop=>by obtain ⟨e,he,rfl⟩:=Conc.mem_ofEvents hop;exact ⟨rfl,(hes e he).1,(hes e he).2.1⟩) (by rw [Deaf_own,e4'.hears];exact Go.Conc.deafBehind_still (fun e he=>(hes e he).2.2) _) (by simp) (fun i hi=>by
   obtain ⟨y,hy,hqy⟩:=e4'.old i hi
   rw [get_map_set _ _ _ _ (by omega),hy,Option.map_some,woken_quitsD hqy])
 refine ⟨N+1,_,_,sl2,_,q1,sG N 1 _ _ _ _ _ e1 (by simp only [runNT,e6,hrun]),hM.same hc hs hb hcl ⟨hch.chan,hch.os,hch.output⟩ hok (by rw [get_map_set_same _ _ _ hlt]),rfl,rfl⟩
theorem Mirror.recv (hM:Mirror P S Z Shr Hid o f g v gs w t q) (sl:Option (Nat × Nat)) {Ch cap s r:Nat} {buf:Array Value} {closed tm fl:Bool} {z:Value} (hch:Shr Ch)
  (hst:∀ d,stepG P true (aF f [] g) (w.at d) = .comm (aF f [] g) #[rcase Ch z] true (.recv fl) (w.at d) #[]) (hc:w.heap[Ch]? = some (.chan cap buf closed s r tm)) (hsome:0<buf.size)
  (hg':Conc.served (aF f [] g) (Conc.recvd fl (buf.getD 0 undef) true)=aF f [] g') (hok:Ok P S g' v) :
  ∃ (N:Nat) (gs':Array Goroutine) (w':World) (sl':Option (Nat × Nat)) (t':Trace) (q':Nat→Nat),
   runNT P N (crowd gs w sl) t=(.next (crowd gs' w' sl'),t')∧Mirror P S Z Shr Hid o f g' v gs' w' t' q'∧w'.heap=(w.setChan Ch cap (buf.extract 1 buf.size) closed s (r+1) tm).heap∧w'={ w with heap:=w'.heap,drawn:=w'.drawn }:=by
 obtain ⟨N,gs1,d,sl1,sl2,w1,t1,q1,e1,e2,e3,e4,e5,e6⟩:=yj (P:=P) (a:=aF f [] g) (show (aF f [] g).status = .running from hM.oH.ok.run) (sumTo o q) gs w sl t q (Nat.le_refl _) hM.at0 hM.calm
 have hat:=JY e5.same e3 d
 rw [hat] at e6
 have e4':Calm P Z Shr o (mine Z Shr w) gs1 (w.at d) t1 q1:=by rw [←hat];exact ⟨e4.base.at d,e4.F6,e4.hears,e4.size,e4.old⟩
 obtain ⟨gs2,u,r1,r2,r3,_⟩:=e4'.recv (sl:=sl2) hch e2 (hst d) (by exact hc) hsome
 have hheap:((w.at d).setChan Ch cap (buf.extract 1 buf.size) closed s (r+1) tm).heap=(w.setChan Ch cap (buf.extract 1 buf.size) closed s (r+1) tm).heap:=rfl
 refine ⟨N+1,gs2,_,sl2,_,q1,sG N 1 _ _ _ _ _ e1 (by simp only [runNT,e6,r1]),hM.same r3 (by rw [hheap];exact size_setChan ..) (fun b hb=>?_) (fun b c e fr h=>by rw [hheap];exact rZ hc b c e fr h) (⟨fun b x h h2=>by rw [hheap];exact (pO hc).chan b x h h2,rfl,rfl⟩) hok (by rw [r2,hg']),hheap,rfl⟩
 rw [hheap]
 simp only [World.setChan]
 exact Array.getElem?_setIfInBounds_ne (show Ch≠b from fun e=>hb (e▸hch))
theorem Mirror.Ez (hM:Mirror P S Z Shr Hid o f g v gs w t q) (sl:Option (Nat × Nat)) {Ch cap s r:Nat} {tm fl:Bool} {z:Value} (hch:Shr Ch)
  (hst:∀ d,stepG P true (aF f [] g) (w.at d) = .comm (aF f [] g) #[rcase Ch z] true (.recv fl) (w.at d) #[]) (hc:w.heap[Ch]? = some (.chan cap #[] true s r tm))
  (hg':Conc.served (aF f [] g) (Conc.recvd fl z false)=aF f [] g') (hok:Ok P S g' v) :
  ∃ (N:Nat) (gs':Array Goroutine) (w':World) (sl':Option (Nat × Nat)) (t':Trace) (q':Nat→Nat),
   runNT P N (crowd gs w sl) t=(.next (crowd gs' w' sl'),t')∧Mirror P S Z Shr Hid o f g' v gs' w' t' q'∧w'.heap=w.heap∧w'={ w with heap:=w'.heap,drawn:=w'.drawn }:=by
 obtain ⟨N,gs1,d,sl1,sl2,w1,t1,q1,e1,e2,e3,e4,e5,e6⟩:=yj (P:=P) (a:=aF f [] g) (show (aF f [] g).status = .running from hM.oH.ok.run) (sumTo o q) gs w sl t q (Nat.le_refl _) hM.at0 hM.calm
 have hat:=JY e5.same e3 d
 rw [hat] at e6
 have e4':Calm P Z Shr o (mine Z Shr w) gs1 (w.at d) t1 q1:=by rw [←hat];exact ⟨e4.base.at d,e4.F6,e4.hears,e4.size,e4.old⟩
 obtain ⟨gs2,u,r1,r2,r3,_⟩:=e4'.Ez (sl:=sl2) hch e2 (hst d) (by exact hc)
 exact ⟨N+1,gs2,_,sl2,_,q1,sG N 1 _ _ _ _ _ e1 (by simp only [runNT,e6,r1]),hM.same r3 rfl (fun _ _=>rfl) (.refl _) ⟨.of rfl,rfl,rfl⟩ hok (by rw [r2,hg']),rfl,rfl⟩
end
end Crew
end Go
end
end
section
section
namespace Go
namespace Crew
open Go.Conc Go.ConcN Go.Ren
open Classical in
noncomputable def iR (B:Nat→Prop) (v:World):World:={ v with heap:=v.heap.mapIdx fun b x=>if B b then ou x else x }
theorem jy (B:Nat→Prop) (v:World):(iR B v).heap.size=v.heap.size:=by simp [iR]
theorem kG {B:Nat→Prop} {v:World} {b:Nat} {x:Obj} (h:(iR B v).heap[b]? = some x):∃ x0,v.heap[b]? = some x0∧((B b∧x=ou x0)∨(¬ B b∧x=x0)):=by
 simp only [iR,Array.getElem?_mapIdx] at h
 obtain ⟨x0,h1,h2⟩:=Option.map_eq_some_iff.1 h
 refine ⟨x0,h1,?_⟩
 by_cases hB:B b
 ·rw [if_pos hB] at h2;exact .inl ⟨hB,h2.symm⟩
 ·rw [if_neg hB] at h2;exact .inr ⟨hB,h2.symm⟩
theorem FO {B:Nat→Prop} {v:World} {b:Nat} (hB:¬ B b):(iR B v).heap[b]? = v.heap[b]?:=by
 simp only [iR,Array.getElem?_mapIdx,if_neg hB]
 cases v.heap[b]? <;> rfl
section
variable [gm] {P:Program} {S:FuncId→Prop} {Hid:Nat→Prop} {B:Nat→Prop} {f:Nat→Nat} {g g':Goroutine} {v w:World} {Ro own own':Nat→Prop}
theorem Ok.hide (h:Ok P S g v) (hB:∀ b x,B b→v.heap[b]? = some x→isCells x=true):Ok P S g (iR B v):=by
 refine ⟨fun b x hb=>?_,h.uy,h.run,h.up,by rw [jy];exact h.vS,fun H H' e e' ha=>?_,fun H H' e ha b x hb=>?_⟩
 ·obtain ⟨x0,h1,h2 | h2⟩:=kG hb
  ·have hc:=hB b x0 h2.1 h1
   rw [h2.2]
   cases x0<;>first | (cases hc;done) | exact ⟨.inr rfl,trivial⟩
  ·rw [h2.2];exact h.nv b x0 h1
 ·rw [jy] at ha
  obtain ⟨h1,h2⟩:=h.bound H H' e e' ha
  refine ⟨h1,fun b x hb=>?_⟩
  obtain ⟨x0,h3,h4 | h4⟩:=kG hb
  ·have hc:=hB b x0 h4.1 h3
   rw [h4.2]
   cases x0<;>first | (cases hc;done) | skip
   simp [ou,obj,vals]
  ·rw [h4.2];exact h2 b x0 h3
 ·obtain ⟨x0,h3,h4 | h4⟩:=kG hb
  ·have hc:=hB b x0 h4.1 h3
   rw [h4.2]
   cases x0<;>first | (cases hc;done) | skip
   simp [ou,obj,vals]
  ·rw [h4.2];exact h.clean H H' e ha b x0 h3
theorem di.who (h:di P S Ro own Hid f g v w) (hok:Ok P S g' v):di P S Ro own Hid f g' v w:=⟨hok,h.inj,h.fix,h.mF,h.held⟩
theorem di.hide (h:di P S Ro own Hid f g v w) (hB:∀ b x,B b→v.heap[b]? = some x→isCells x=true) (ho:∀ b x,v.heap[b]? = some x→¬ B b→own (f b)→own' (f b)):di P S Ro own' Hid f g (iR B v) w:=by
 refine ⟨Ok.hide h.ok hB,by rw [jy];exact h.inj,h.fix,⟨fun b x hb=>((Ok.hide h.ok hB).nv b x hb).2,fun b x hb=>?_⟩,fun b x hb=>?_⟩
 ·obtain ⟨x0,h1,h2⟩:=kG hb
  obtain ⟨o',h3,h4⟩:=h.mF.block b x0 h1
  refine ⟨o',h3,?_⟩
  rcases h2 with ⟨h2,rfl⟩ | ⟨_,rfl⟩
  ·have hc:=hB b x0 h2 h1
   cases x0<;>first | (cases hc;done) | skip
   obtain ⟨c',fr',rfl,_⟩:=h4
   exact ⟨c',fr',rfl,fun h=>by cases h⟩
  ·exact h4
 ·obtain ⟨x0,h1,h2⟩:=kG hb
  rcases h2 with ⟨h2,rfl⟩ | ⟨h2,rfl⟩
  ·have hc:=hB b x0 h2 h1
   cases x0<;>first | (cases hc;done) | exact .inr (.inl rfl)
  ·rcases h.held b _ h1 with h5 | h5
   ·exact .inl ⟨ho b _ h1 h2 h5.1,h5.2⟩
   ·exact .inr h5
def kept (own:Nat→Prop) (f:Nat→Nat) (C:Nat→Prop):Nat→Prop:=fun b=>own b∧¬ ∃ i,C i∧f i=b
def given (own:Nat→Prop) (f:Nat→Nat) (C:Nat→Prop):Nat→Prop:=fun b=>own b∧∃ i,C i∧f i=b
theorem di.UW (h:di P S Ro own Hid f g v w) {C:Nat→Prop} (hlt:∀ b,C b→b<v.heap.size) (hC:∀ b x,C b→v.heap[b]? = some x→isCells x=true) (hok:Ok P S g' v):di P S Ro (kept own f C) Hid f g' (iR C v) w:=
 di.hide (di.who h hok) hC fun b x hx hn hob=>⟨hob,fun ⟨i,hi,e⟩=>hn (by rw [←h.inj i b (hlt i hi) (Array.getElem?_eq_some_iff.1 hx).1 e];exact hi)⟩
theorem di.Ve (h:di P S Ro own Hid f g v w) {C:Nat→Prop} (hC:∀ b x,¬ C b→own (f b)→v.heap[b]? = some x→isCells x=true) (hok:Ok P S g' v):di P S Ro (given own f C) Hid f g' (iR (fun b=>¬ C b∧own (f b)) v) w:=
 di.hide (di.who h hok) (fun b x hb hx=>hC b x hb.1 hb.2 hx) fun b x _ hn hob=>⟨hob,b,Classical.byContradiction fun hc=>hn ⟨hc,hob⟩,rfl⟩
end
section
variable [gm] [au] {P:Program} {S:FuncId→Prop} {ty:TypeId} {Wg Ch:Nat} {Ro:Nat→Prop}
theorem Lr (hz:aN P) (hS:kU P S) {m:Bool} {k:Kind} (hq:k.quiet=false) (hX:∀ e r,au.ch r→rQ r e→k.X e) {D:Goroutine→World→Prop} {B:List Frame} {C:Nat→Prop} (hD:∀ g v,D g v→∀ b,C b→∀ o,v.heap[b]? = some o→aU o=true)
  {f:Nat→Nat} {g:Goroutine} {v w:World} {own:Nat→Prop} (hp:di P S Ro own au.ch f g v w) (hRo:∀ b,Ro b→b<w.heap.size∧¬ own b) (ht:iG P S D g v) (hC:∀ (b:Nat) (o:Obj),v.heap[b]? = some o→aU o=true→C b)
  (hstop:∀ g' v' f' w' own',D g' v'→di P S Ro own' au.ch f' g' v' w'→aI Ro (fun _=>False) w w'→(∀ b,Ro b→b<w'.heap.size∧¬ own' b)→(∀ i,i<v.heap.size→f' i=f i)→v.heap.size≤v'.heap.size→aC P Ro (Live ty Wg Ch) m k ⟨aF f' B g',w',own'⟩) :
  aC P Ro (Live ty Wg Ch) m k ⟨aF f B g,w,own⟩:=by
 unfold aC at hstop ⊢
 rw [hq] at hstop ⊢
 exact zo (w0:=w) (n0:=v.heap.size) (f0:=f) hz hS (fun e r h1 h2 h3 h4=>hX e r h1 ⟨h2,h3,h4⟩) hD (fun g' v' f' w' own' h1 h2 h3 h4 h5 h6=>hstop g' v' f' w' own' h1 h2 h3 h4 h5 h6) ht hp (aI.refl _ _ _) hRo (fun _ _=>rfl) (Nat.le_refl _) hC
end
end Crew
end Go
end
end
