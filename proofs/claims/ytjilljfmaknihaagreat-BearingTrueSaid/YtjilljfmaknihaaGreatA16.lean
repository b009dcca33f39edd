import Derived.Conc.CrowdStepC2
import Derived.Conc.CrowdComm
import Derived.Test.YtjilljfmaknihaaGreatA13
set_option linter.all false
namespace Go
def qH:=@Go.ConcR.g_of_ofEvents
def xI:=@Go.ConcN.get_map_set
def Gi:=@Go.ConcN.get_map_set_same
def DR:=@Go.Conc.runT_crowd_go
end Go
namespace Go.Crew
open Go.Conc Go.ConcN Go.Ren
open Go.ConcR (KK wgBlock WgAt stA smA rd wr mk Bk g_of_ofEvents ofEvent_mk bk_of_mute ofEvent_loc_mark deafBehind_cons deafBehind_one)
section
class aX where
 ch:Nat->Prop
instance(priority:=low) aim:aX:=⟨fun _=>False⟩
variable[aX]
def Live(ty:aZ)(Wg Ch:Nat)(w:ay):Prop:=(∃st sm,WgAt ty Wg w st sm)/\∃cap buf s r tm,w.heap[Ch]?=some (.chan cap buf false s r tm)
section
variable(P:aH)(ty:aZ)(Wg Ch:Nat)(Ro:Nat->Prop)
abbrev Stops:=dD->ay->(Nat->Prop)->Prop
def kQ(Stop:Stops):Kind:=⟨true,fun _=>False,Stop⟩
def kN(Stop:Stops):Kind:=⟨false,fun e=>∃b,aX.ch b/\yY b e,Stop⟩
def kM(Stop:Stops):Kind:=⟨false,fun e=>(∃a:Addr,(e.loc=.mark (.read a)\/e.loc=.mark (.write a))/\a.block=Wg) \/ ∃b,aX.ch b/\yY b e,Stop⟩
def SD4:Stops:=fun g w _=>mayWake P g=true/\(WgAt ty Wg w 0 0->∃g',stepG P false g w=.go g' (w.setCell (smA Wg) (.int .u32 1)) (semEvents (smA Wg))/\∃q,QuitsD P q 1 g')
def SD3:Stops:=fun g w own=>WgAt ty Wg w 1 0->∃g',stepG P false g w=.go g' (w.setCell (stA Wg) (.int .u64 0)) #[wr (stA Wg)]/\bu P Ro (Live ty Wg Ch) false (kQ (SD4 P ty Wg)) ⟨g',w.setCell (stA Wg) (.int .u64 0),own⟩
def SD2:Stops:=fun g w own=>WgAt ty Wg w 1 0->∃g',stepG P false g w=.go g' w #[rd (stA Wg)]/\bu P Ro (Live ty Wg Ch) false (kQ (SD3 P ty Wg Ch Ro)) ⟨g',w,own⟩
def SD1:Stops:=fun g w own=>∀v wt:Nat,wt<=1->v<2147483647->WgAt ty Wg w ((v+1)*KK+wt) 0->∃g',stepG P false g w=.go g' (w.setCell (stA Wg) (.int .u64 (v*KK+wt))) #[rd (stA Wg),wr (stA Wg)]/\((v=0/\wt=1)->bu P Ro (Live ty Wg Ch) false (kQ (SD2 P ty Wg Ch Ro)) ⟨g',w.setCell (stA Wg) (.int .u64 (v*KK+wt)),own⟩)/\(¬(v=0/\wt=1)->∃q,QuitsD P q 1 g')
def SK1:Stops:=fun g w own=>∃g',stepG P false g w=.go g' w #[mk .disable]/\bu P Ro (Live ty Wg Ch) false (kQ (SD1 P ty Wg Ch Ro)) ⟨g',w,own⟩
def SR0:Stops:=fun g w own=>∃g',stepG P false g w=.go g' w #[mk (.releaseMerge (stA Wg))]/\bu P Ro (Live ty Wg Ch) false (kQ (SK1 P ty Wg Ch Ro)) ⟨g',w,own⟩
def P5(pay:aB ae):Stops:=fun g w own=>
 match pay with
 |some v=>∃z,stepG P false g w=.comm g #[scase Ch v z] true .send w #[]/\bu P Ro (Live ty Wg Ch) false (kN (SR0 P ty Wg Ch Ro)) ⟨Conc.served g undef,w,own⟩
 |none=>SR0 P ty Wg Ch Ro g w own
def qP(pay:aB ae)(paid:Bool):Nat->aB Kind
|7=>some (if paid then kN (SR0 P ty Wg Ch Ro) else kN (P5 P ty Wg Ch Ro pay))
|6=>some (kQ (SK1 P ty Wg Ch Ro))
|5=>some (kQ (SD1 P ty Wg Ch Ro))
|4=>some (kQ (SD2 P ty Wg Ch Ro))
|3=>some (kQ (SD3 P ty Wg Ch Ro))
|2=>some (kQ (SD4 P ty Wg))
|_=>none
variable(n:Nat)(Anch Done:Stops)(pay:Nat->aB ae)
def Xn:Stops:=fun g w own=>∃g',stepG P true g w=.go g' w #[mk (.acquire (stA Wg))]/\g'.status=.running/\Done g' w own
def SKe:Stops:=fun g w own=>∃g',stepG P true g w=.go g' w #[mk .enable]/\bu P Ro (Live ty Wg Ch) true (kM Wg (Xn P Wg Done)) ⟨g',w,own⟩
def SW4:Stops:=fun g w own=>WgAt ty Wg w 0 0->∃g',stepG P true g w=.go g' w #[rd (stA Wg)]/\bu P Ro (Live ty Wg Ch) true (kM Wg (SKe P ty Wg Ch Ro Done)) ⟨g',w,own⟩
def SW3:Stops:=fun g w own=>g.status=.running/\g.offers=none/\((∃st,WgAt ty Wg w st 0)->stepG P true g w=.go {g with status:=.blocked} w #[])/\(WgAt ty Wg w 0 1->∃g',stepG P true g w=.go g' (w.setCell (smA Wg) (.int .u32 0)) (semEvents (smA Wg))/\bu P Ro (Live ty Wg Ch) true (kM Wg (SW4 P ty Wg Ch Ro Done)) ⟨g',w.setCell (smA Wg) (.int .u32 0),own⟩)
def SW2(vs:Nat):Stops:=fun g w own=>∀v:Nat,v<2147483648->WgAt ty Wg w (v*KK) 0->(v=vs->∃g',stepG P true g w=.go g' (w.setCell (stA Wg) (.int .u64 (v*KK+1))) #[rd (stA Wg),wr (stA Wg)]/\bu P Ro (Live ty Wg Ch) true (kM Wg (SW3 P ty Wg Ch Ro Done)) ⟨g',w.setCell (stA Wg) (.int .u64 (v*KK+1)),own⟩)/\(v≠vs->∃g',stepG P true g w=.go g' w #[rd (stA Wg)]/\bu P Ro (Live ty Wg Ch) true (kM Wg Anch) ⟨g',w,own⟩)
def Zk:Stops:=fun g w own=>∀v:Nat,v<2147483648->WgAt ty Wg w (v*KK) 0->∃g',stepG P true g w=.go g' w #[rd (stA Wg)]/\(v=0->bu P Ro (Live ty Wg Ch) true (kM Wg (SKe P ty Wg Ch Ro Done)) ⟨g',w,own⟩)/\(v≠0->bu P Ro (Live ty Wg Ch) true (kM Wg (SW2 P ty Wg Ch Ro Anch Done v)) ⟨g',w,own⟩)
def SKd:Stops:=fun g w own=>∃g',stepG P true g w=.go g' w #[mk .disable]/\bu P Ro (Live ty Wg Ch) true (kM Wg Anch) ⟨g',w,own⟩
def SGo(i:Nat)(Next:Rank->Prop):Stops:=fun g w own=>∃g' child own' ownc,stepG P true g w=.spawn g' child w #[]/\(∀b,own' b->own b)/\(∀b,ownc b->own b)/\(∀b,own' b->¬ownc b)/\bu P Ro (Live ty Wg Ch) false (kN (P5 P ty Wg Ch Ro (pay i))) ⟨child,w,ownc⟩/\Next ⟨g',w,own'⟩
def akN(i:Nat)(Next:Rank->Prop):Stops:=fun g w own=>∃g',stepG P true g w=.go g' w #[mk .enable]/\bu P Ro (Live ty Wg Ch) true (kM Wg (SGo P ty Wg Ch Ro pay i Next)) ⟨g',w,own⟩
def SA1(i:Nat)(Next:Rank->Prop):Stops:=fun g w own=>∀v:Nat,v<2147483647->WgAt ty Wg w (v*KK) 0->∃g',stepG P true g w=.go g' (w.setCell (stA Wg) (.int .u64 ((v+1)*KK))) #[rd (stA Wg),wr (stA Wg)]/\bu P Ro (Live ty Wg Ch) true (kM Wg (akN P ty Wg Ch Ro pay i Next)) ⟨g',w.setCell (stA Wg) (.int .u64 ((v+1)*KK)),own⟩
def afb(i:Nat)(Next:Rank->Prop):Stops:=fun g w own=>∃g',stepG P true g w=.go g' w #[mk .disable]/\bu P Ro (Live ty Wg Ch) true (kM Wg (SA1 P ty Wg Ch Ro pay i Next)) ⟨g',w,own⟩
def Spawns:Nat->Rank->Prop
|0,a=>bu P Ro (Live ty Wg Ch) true (kM Wg (SKd P ty Wg Ch Ro Anch)) a
|r+1,a=>bu P Ro (Live ty Wg Ch) true (kM Wg (afb P ty Wg Ch Ro pay (n-(r+1)) (Spawns r))) a
def zT:CTag->aB Kind
|.sp r 5=>some (kM Wg (afb P ty Wg Ch Ro pay (n-(r+1)) (Spawns P ty Wg Ch Ro n Anch pay r)))
|.sp r 4=>some (kM Wg (SA1 P ty Wg Ch Ro pay (n-(r+1)) (Spawns P ty Wg Ch Ro n Anch pay r)))
|.sp r 3=>some (kM Wg (akN P ty Wg Ch Ro pay (n-(r+1)) (Spawns P ty Wg Ch Ro n Anch pay r)))
|.sp r 2=>some (kM Wg (SGo P ty Wg Ch Ro pay (n-(r+1)) (Spawns P ty Wg Ch Ro n Anch pay r)))
|.sp _ _=>none
|.kd=>some (kM Wg (SKd P ty Wg Ch Ro Anch))
|.anch=>some (kM Wg Anch)
|.w1=>some (kM Wg (Zk P ty Wg Ch Ro Anch Done))
|.w2 vs=>some (kM Wg (SW2 P ty Wg Ch Ro Anch Done vs))
|.w3=>some (kM Wg (SW3 P ty Wg Ch Ro Done))
|.w4=>some (kM Wg (SW4 P ty Wg Ch Ro Done))
|.ke=>some (kM Wg (SKe P ty Wg Ch Ro Done))
|.acq=>some (kM Wg (Xn P Wg Done))
|.blk=>none
|.ret=>none
def KE:CTag->Nat
|.sp _ 4|.sp _ 3=>1
|.anch|.w1|.w2 _|.w3|.blk|.w4|.ke=>1
|_=>0
def Q5:CTag->Nat
|.sp r _=>r+1
|_=>0
end
end
section
variable[aX]
def xM(o:Nat)(t:Trace):Prop:=∀i g,t.g? i=some g->g≠0->g<=o->t.counts i->∃j,t.g? j=some 0/\HappensBefore t i j
theorem xM.app{o t u}(h:xM o t)(hu:∀op∈u,op.g=0\/o<op.g\/op.act.touch? =none):xM o (t++u):=by
 intro i g hg hne k hc;have⟨x,hx,_⟩:=id hc;have⟨op,c,a⟩:=touch_of hx;rcases getElem?_append_cases c with⟨hi,f⟩|⟨_,b⟩
 .rw[g?_old hi] at hg;have⟨j,hj,hb⟩:=h i g hg hne k ((counts_old hi).1 hc);have e:j<t.size:=by
   have⟨y,hy,_⟩:=BX.1 hj;exact lt_size_of_getElem? hy
  exact⟨j,by rw[g?_old e];exact hj,hb_app u hb⟩
 have d:op.g=g:=by simp[Trace.g?,c] at hg;exact hg
 rcases hu op b with h1|h1|h1
 .exact absurd (d.symm.trans h1) hne
 .omega
 rw[h1] at a;cases a
def ahj(o Wg j:Nat)(t:Trace):Prop:=∃q,t.act? q=some (.mark (.acquire (stA Wg)))/\t.g? q=some 0/\t.heard q/\∀i,o<=i->i<j->∃r,RelBy (stA Wg) t (i+1) r/\r<q
structure St where
 j:Nat
 D:Nat->WD
 paid:Nat->Bool
 tag:CTag
 f:Nat->Rank
 sent:List Nat
section
variable(P:aH)(ty:aZ)(Wg Ch:Nat)(Ro:Nat->Prop)(Shr:Nat->Prop)(o:Nat)(n cap:Nat)(Anch Done:Stops)(pay:Nat->aB ae)(sz rz:Nat)(tm:Bool)
def St.own(x:St):Nat->Nat->Prop:=fun i=>(x.f i).own
def WSit(x:St)(i:Nat)(g:dD):Prop:=
 match qP P ty Wg Ch Ro (pay i) (x.paid i) (x.D i).stage with
 |some k=>g=(x.f (i+1)).g/\bu P Ro (Live ty Wg Ch) false k (x.f (i+1))
 |none=>(x.D i).stage=1/\QuitsD P (x.D i).fuel (x.D i).deaf g
def uA(x:St)(a:dD):Prop:=
 match zT P ty Wg Ch Ro n Anch Done pay x.tag with
 |some k=>a=(x.f 0).g/\bu P Ro (Live ty Wg Ch) true k (x.f 0)
 |none=>x.tag=.blk/\a={ (x.f 0).g with status:=.blocked}/\bu P Ro (Live ty Wg Ch) true (kM Wg (SW3 P ty Wg Ch Ro Done)) (x.f 0)/\uB Ro (Live ty Wg Ch) (kM Wg (SW3 P ty Wg Ch Ro Done)) (x.f 0)
structure Inv(x:St)(gs:Array dD)(w:ay)(t:Trace)(st sm:Int):Prop where
 size:gs.size=x.j+1
 started:x.j+Q5 x.tag=n
 le:x.j+pend x.tag<=n
 oj:o<=x.j
 shr:Shr Wg/\Shr Ch
 hid:∀b,aX.ch b->Shr b
 elder:∀i,i<o->(x.D i).stage=1
 OW:xM o t
 pno:∀i,i<o->pay i=none
 base:Base Ro Shr o x.j x.own w t
 rely:∀i,bP Ro (x.own i) (x.f i).w w
 wk:∀i,i<x.j->∃g,gs[i+1]?=some g/\WSit P ty Wg Ch Ro pay x i g
 main:∃a,gs[0]?=some a/\uA P ty Wg Ch Ro n Anch Done pay x a
 norel:NoRelease (stA Wg) t
 deaf0:Deaf t 0=KE x.tag
 deafW:∀i,i<x.j->Deaf t (i+1)=(x.D i).deaf
 Iz:∀i,i<x.j->(x.D i).stage≠1->(x.D i).deaf=if (x.D i).stage<=5 then 1 else 0
 rel:∀i,o<=i->i<x.j->(x.D i).stage<=6->∃r,RelBy (stA Wg) t (i+1) r
 wg:WgAt ty Wg w st sm
 mode:ConcN.Mode x.j x.D x.tag st sm
 chan:w.heap[Ch]?=some (.chan cap ((x.sent.map fun i=>(pay i).getD undef).toArray) false x.sent.length rz tm)
 nodup:x.sent.Nodup
 ru:∀i,i∈x.sent↔i<x.j/\x.paid i=true/\(pay i).isSome=true
 nY:∀i,i<x.j->(x.D i).stage<=6->(pay i).isSome=true->x.paid i=true
 stages:∀i,i<x.j->1<=(x.D i).stage/\(x.D i).stage<=7
structure Over(x:St)(gs:Array dD)(w:ay)(t:Trace):Prop where
 size:gs.size=n+1
 base:Base Ro Shr o n x.own w t
 main:∃a,gs[0]?=some a/\a=(x.f 0).g/\a.status=.running/\Done a w (x.own 0)
 quits:∀i,i<n->∃g,gs[i+1]?=some g/\QuitsD P (x.D i).fuel (Deaf t (i+1)) g
 deaf0:Deaf t 0=0
 acq:ahj o Wg n t
 OW:xM o t
 norel:NoRelease (stA Wg) t
 wg:WgAt ty Wg w 0 0
 chan:w.heap[Ch]?=some (.chan cap ((x.sent.map fun i=>(pay i).getD undef).toArray) false x.sent.length rz tm)
 nodup:x.sent.Nodup
 ru:∀i,i∈x.sent↔i<n/\(pay i).isSome=true
end
end
open Go.ConcR (ofEvent_cell again_blocked)
section
variable[aX]
def BkS(Wg:Nat)(e:Event):Prop:=((MemAct.ofEvent e).touch? =none/\∀B,Wg<B->(MemAct.ofEvent e).low B) \/ ∃a wr,e=⟨.cell a,wr,true⟩/\a.block=Wg
theorem ab8{Wg e}(h:Bk Wg e):BkS Wg e:=by
 rcases h with h|h|h
 .exact .inl (by rw[ofEvent_loc_mark h];exact⟨rfl,fun _ _=>trivial⟩)
 .exact .inl (by rw[ofEvent_loc_mark h];exact⟨rfl,fun _ _=>trivial⟩)
 exact .inr h
section
variable{Ro Shr:Nat->Prop}{Wg o j:Nat}{own:Nat->Nat->Prop}{w w':ay}{t:Trace}
theorem Base.shared(h:Base Ro Shr o j own w t){i}(hi:i<=j)(hs:w'.heap.size=w.heap.size)(hb:∀b,¬Shr b->w'.heap[b]?=w.heap[b]?)(hcl:dS w w')(e:tZ w w'){u}(hu:∀op∈u,op.g=i/\(∀x,op.act.touch? =some x->QB Shr x.loc/\x.kind=.atomic)/\op.act.low w.heap.size):Base Ro Shr o j own w' (t++u)/\∀i',bP Ro (own i') w w':=by
 refine⟨⟨h.ap,by rw[hs];exact h.BJ,by rw[hs];exact h.nU,by rw[hs];exact h.wH,?_,fun op a=>?_,h.told.app fun jx op x hj hx=>.inr (.inr ((hu op (kP hj)).2.1 x hx))⟩,fun i'=>⟨by rw[hs];exact aA _,fun b _ ho=>hb b fun c=>?_,hcl,e⟩⟩
 .have f:=h.ap.fam (o:=o);rcases uu i with rfl|d
  .exact h.ct.app0 f fun op a=>⟨(hu op a).1,fun x hx=>.inl ⟨((hu op a).2.1 x hx).1,by rw[((hu op a).2.1 x hx).2];simp⟩⟩
  exact h.ct.appW f d hi fun op a=>⟨(hu op a).1,fun x hx=>.inl ⟨((hu op a).2.1 x hx).1,by rw[((hu op a).2.1 x hx).2];exact⟨by simp,by simp⟩⟩⟩
 .rw[hs];rcases BD.1 a with h1|h1
  .exact h.low op h1
  exact(hu op h1).2.2
 rcases ho with ho|ho
 .exact h.ap.G8 b ho c
 exact(h.ap.free i' b ho).2 c
theorem ag4{B i fn pos es}(c:Shr Wg)(d:Wg<B)(h:∀e∈es,BkS Wg e):∀op∈MemOp.ofEvents i fn pos es,op.g=i/\(∀x,op.act.touch? =some x->QB Shr x.loc/\x.kind=.atomic)/\op.act.low B:=by
 intro op b;obtain⟨e,he,rfl⟩:=Gn b;refine⟨rfl,?_⟩;rcases h e he with⟨h1,h2⟩|⟨a,wr,rfl,ha⟩
 .exact⟨fun x hx=>(by simp only[h1] at hx;cases hx),h2 B d⟩
 dsimp only;rw[ofEvent_cell];refine⟨fun x hx=>?_,by show a.block<B;omega⟩;simp[MemAct.touch?,kG] at hx;subst hx;exact⟨⟨a.block,rfl,ha▸c⟩,by simp⟩
theorem SQ{ty st sm st' sm'}(d:Aside Wg w w')(h:WgAt ty Wg w st sm)(h':WgAt ty Wg w' st' sm'):dS w w':=fun b c e fr hb=>by
 by_cases a:b=Wg
 .subst a;rw[show w.heap[b]?=_ from h] at hb;obtain⟨_,rfl,_⟩:=hb;exact⟨_,_,h'⟩
 exact⟨c,fr,by rw[d.block b a];exact hb⟩
theorem zl{Ch cap s r cap' s' r' buf buf' d tm cl' tm'}(hc:w.heap[Ch]?=some (.chan cap buf d s r tm)):dS w (w.setChan Ch cap' buf' cl' s' r' tm'):=fun b c e fr hb=>by refine⟨c,fr,?_⟩;simp[World.setChan];rw[jf (fun a=>by subst a;rw[hc] at hb;cases hb)];exact hb
theorem MZ{ty st sm}(a:Aside Wg w w')(h:WgAt ty Wg w st sm):tZ w w':=by
 refine⟨fun b o hb hc=>?_,a.os,a.output⟩;refine⟨o,?_,hc⟩;rw[a.block b fun c=>?_]
 .exact hb
 subst c;rw[show w.heap[b]?=_ from h] at hb;obtain rfl:=aN hb;cases hc
theorem vV{Ch cap s r cap' s' r' buf buf' d tm cl' tm'}(hc:w.heap[Ch]?=some (.chan cap buf d s r tm)):tZ w (w.setChan Ch cap' buf' cl' s' r' tm'):=by
 refine⟨fun b o hb ho=>?_,rfl,rfl⟩;by_cases c:b=Ch
 .subst c;have a:=(aP.1 hc).1;refine⟨.chan cap' buf' cl' s' r' tm',?_,rfl⟩;simp[World.setChan,a]
 refine⟨o,?_,ho⟩;simp[World.setChan];rw[jf (fun e=>c e.symm)];exact hb
theorem Base.book(h:Base Ro Shr o j own w t)(a:Shr Wg){i}(hi:i<=j)(f:Aside Wg w w')(hcl:dS w w')(d:tZ w w'){es}(c:∀e∈es,BkS Wg e)(fn)(pos):Base Ro Shr o j own w' (t++MemOp.ofEvents i fn pos es)/\∀i',bP Ro (own i') w w':=h.shared hi f.size (fun b hb=>f.block b fun e=>hb (e▸a)) hcl d (ag4 a (h.nU Wg a) c)
end
section
variable{P:aH}{ty:aZ}{Wg Ch:Nat}{Ro Shr:Nat->Prop}{o n cap:Nat}{Anch Done:Stops}{pay:Nat->aB ae}{rz:Nat}{tm:Bool}
theorem WSit.status{x i g}(h:WSit P ty Wg Ch Ro pay x i g):g.status=.running\/g.status=.finished:=by
 unfold WSit at h;split at h
 .obtain⟨rfl,h⟩:=h;exact .inl h.status
 exact h.2.status
theorem WSit.woken{x:St}{i:Nat}{g:dD}(h:WSit P ty Wg Ch Ro pay x i g)(a a':dD)(w':ay):woken P a a' w' g=g:=by
 unfold Go.Conc.woken;split
 .exact again_running _ h.status
 rfl
theorem WSit.congr{x x' i g}(h:WSit P ty Wg Ch Ro pay x i g)(h1:x'.D i=x.D i)(h2:x'.paid i=x.paid i)(a:x'.f (i+1)=x.f (i+1)):WSit P ty Wg Ch Ro pay x' i g:=by unfold WSit at h⊢;rw[h1,h2,a];exact h
theorem Inv.live{x gs w t st sm}(h:Inv P ty Wg Ch Ro Shr o n cap Anch Done pay rz tm x gs w t st sm):Live ty Wg Ch w:=⟨⟨st,sm,h.wg⟩,_,_,_,_,_,h.chan⟩
theorem uA.congr{x x' a}(h:uA P ty Wg Ch Ro n Anch Done pay x a)(h1:x'.tag=x.tag)(h2:x'.f 0=x.f 0):uA P ty Wg Ch Ro n Anch Done pay x' a:=by unfold uA at h⊢;rw[h1,h2];exact h
theorem uA.run{x a}(h:uA P ty Wg Ch Ro n Anch Done pay x a)(hr:a.status=.running):∃k,zT P ty Wg Ch Ro n Anch Done pay x.tag=some k/\a=(x.f 0).g/\bu P Ro (Live ty Wg Ch) true k (x.f 0):=by
 unfold uA at h;split at h
 .exact⟨_,‹_›,h⟩
 rw[h.2.1] at hr;cases hr
theorem uA.wokenBy{x a w'}(h:uA P ty Wg Ch Ro n Anch Done pay x a)(hr:bP Ro (x.f 0).own (x.f 0).w w')(hl:Live ty Wg Ch w')(g g'):∃b,(b=x.tag\/(x.tag=.blk/\b=.w3))/\uA P ty Wg Ch Ro n Anch Done pay {x with tag:=b} (woken P g g' w' a)/\(mayWake P g=true->g'.status=.running->b≠.blk):=by
 unfold Go.Conc.woken;split
 .rename_i hc;unfold uA at h
  split at h
  .rename_i k hk;obtain⟨rfl,hw⟩:=h;refine⟨x.tag,.inl rfl,?_,fun _ _ e=>by rw[e] at hk;cases hk⟩;rw[again_running _ (.inl hw.status)];unfold uA;dsimp only;rw[hk];exact⟨rfl,hw⟩
  obtain⟨d,rfl,hw,hs⟩:=h;have c:=hs w' hr hl;refine⟨.w3,.inr ⟨d,rfl⟩,?_,fun _ _ e=>by cases e⟩;rw[again_blocked c.1 c.2.1];unfold uA;exact⟨rfl,hw⟩
 rename_i hc;exact⟨x.tag,.inl rfl,h,fun h1 h2=>absurd (by simp[h1,h2]) hc⟩
def St.put(x:St)(i:Nat)(d:WD)(r:Rank)(tag:CTag):St:={x with D:=upd x.D i d,f:=upd x.f (i+1) r,tag}
theorem Inv.worker{x gs w t st sm}(h:Inv P ty Wg Ch Ro Shr o n cap Anch Done pay rz tm x gs w t st sm){sl i}(hi:i<x.j){g g' w' es}(hg:gs[i+1]?=some g)(N:stepG P false g w=.go g' w' es)(c)(r'){st' sm'}(z:Base Ro Shr o x.j (upd x.own (i+1) r'.own) w' (t++MemOp.ofEvents (i+1) g.frame.fn g.frame.place es))(l:∀i',i'≠i+1->bP Ro (x.own i') w w')(p:bP Ro r'.own r'.w w')(hs:∀b,WSit P ty Wg Ch Ro pay (x.put i c r' b) i g')(H:∀e∈es,e.loc≠.mark (.release (stA Wg)))(v:deafBehind (x.D i).deaf es=c.deaf)(M:c.stage≠1->c.deaf=if c.stage<=5 then 1 else 0)(L:i<o->c.stage=1)(K:o<=i \/ ∀e∈es,(MemAct.ofEvent e).touch? =none)(F:o<=i->c.stage<=6->∃r,RelBy (stA Wg) (t++MemOp.ofEvents (i+1) g.frame.fn g.frame.place es) (i+1) r)(A:WgAt ty Wg w' st' sm')(u:∀b,(b=x.tag\/(x.tag=.blk/\b=.w3))->(mayWake P g=true->g'.status=.running->b≠.blk)->ConcN.Mode x.j (upd x.D i c) b st' sm')(E:w'.heap[Ch]?=w.heap[Ch]?)(s:c.stage<=6->(pay i).isSome=true->x.paid i=true)(hst:1<=c.stage/\c.stage<=7):∃gs' b,runT P (crowd gs w sl) (i+1)=(.next (crowd gs' w' sl),MemOp.ofEvents (i+1) g.frame.fn g.frame.place es)/\(b=x.tag\/(x.tag=.blk/\b=.w3))/\Inv P ty Wg Ch Ro Shr o n cap Anch Done pay rz tm (x.put i c r' b) gs' w' (t++MemOp.ofEvents (i+1) g.frame.fn g.frame.place es) st' sm':=by
 have J:Live ty Wg Ch w':=⟨⟨st',sm',A⟩,_,_,_,_,_,E.trans h.chan⟩;have⟨a,ha,hm⟩:=h.main;have q:=(h.rely 0).trans (l 0 (by omega));have⟨b,ht,I,hw⟩:=hm.wokenBy q J g g';have m:(x.put i c r' b).own=upd x.own (i+1) r'.own:=by
  funext k;show(upd x.f (i+1) r' k).own=_;by_cases e:k=i+1
  .subst e;rw[upd_same,upd_same]
  rw[bQ _ _ e,bQ _ _ e];rfl
 have hrun:=DR (sl:=sl) hg (by simpa using N);refine⟨_,b,hrun,ht,⟨by simp[h.size,St.put],?_,?_,h.oj,h.shr,h.hid,fun k hk=>?_,h.OW.app fun op G=>?_,h.pno,by rw[m];exact z,fun k=>?_,fun k hk=>?_,⟨_,by rw[xI _ _ _ _ (by omega),ha];rfl,I.congr rfl (show upd x.f (i+1) r' 0=x.f 0 from bQ _ _ (by omega))⟩,h.norel.app (norel_of H),?_,fun k hk=>?_,fun k hk h1=>?_,fun k C hk d=>?_,A,u b ht hw,?_,h.nodup,h.ru,fun k hk d hp=>?_,fun k hk=>?_⟩⟩
 .show x.j+Q5 b=n;rcases ht with rfl|⟨e,rfl⟩
  .exact h.started
  have:=h.started;rw[e] at this;exact this
 .show x.j+pend b<=n;rcases ht with rfl|⟨e,rfl⟩
  .exact h.le
  have:=h.le;rw[e] at this;exact this
 .show(upd x.D i c k).stage=1;by_cases e:k=i
  .subst e;rw[upd_same];exact L hk
  rw[bQ _ _ e];exact h.elder k hk
 .obtain⟨e,he,rfl⟩:=Gn G;rcases K with h1|h1
  .exact .inr (.inl (by show o<i+1;omega))
  exact .inr (.inr (h1 e he))
 .show bP Ro _ (upd x.f (i+1) r' k).w w';rw[m];by_cases e:k=i+1
  .subst e;rw[upd_same,upd_same];exact p
  rw[bQ _ _ e,bQ _ _ e];exact(h.rely k).trans (l k e)
 .by_cases e:k=i
  .subst e;exact⟨g',Gi _ _ _ (by rw[h.size];omega),hs b⟩
  have⟨y,hy,B⟩:=h.wk k hk;exact⟨y,by rw[xI _ _ _ _ (by omega),hy,Option.map_some,B.woken],B.congr (bQ _ _ e) rfl (bQ _ _ (by omega))⟩
 .rw[xK t (by omega) _ qH,h.deaf0];show KE x.tag=KE b;rcases ht with rfl|⟨e,rfl⟩
  .rfl
  rw[e];rfl
 .show _=(upd x.D i c k).deaf;by_cases e:k=i
  .subst e;rw[Gm,h.deafW k hi,upd_same];exact v
  rw[xK t (by omega) _ qH,h.deafW k hk,bQ _ _ e]
 .show(upd x.D i c k).deaf=if (upd x.D i c k).stage<=5 then 1 else 0
  have h1:(upd x.D i c k).stage≠1:=h1;by_cases e:k=i
  .subst e;rw[upd_same] at h1⊢;exact M h1
  rw[bQ _ _ e] at h1⊢;exact h.Iz k hk h1
 .have d:(upd x.D i c k).stage<=6:=d;by_cases e:k=i
  .subst e;rw[upd_same] at d;exact F C d
  rw[bQ _ _ e] at d;have⟨r,hr⟩:=h.rel k C hk d;exact⟨r,hr.appOther qH (by omega)⟩
 .show w'.heap[Ch]?=_;rw[E];exact h.chan
 .have d:(upd x.D i c k).stage<=6:=d;by_cases e:k=i
  .subst e;rw[upd_same] at d;exact s d hp
  rw[bQ _ _ e] at d;exact h.nY k hk d hp
 show 1<=(upd x.D i c k).stage/\(upd x.D i c k).stage<=7;by_cases e:k=i
 .subst e;rw[upd_same];exact hst
 rw[bQ _ _ e];exact h.stages k hk
end
end
end Go.Crew
