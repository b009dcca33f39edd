import Derived.RunT
import GoSem.ClaimFollow
import Derived.Test.YtjilljfmaknihaaGreatA05
set_option linter.all false
namespace Go
def mf:=@Go.Sem.runT_fst
end Go
namespace Go.Ren
section
variable[Mps][Fr][Ext][jE]{P:aH}{f:Nat->Nat}{S:aI->Prop}{K:Kd}
structure eF(P:aH)(f:Nat->Nat)(K:Kd){α β:Type}(Q:α->β->Prop)(s:Sem α)(s':Sem β)(v w:ay):Prop where
 ok:∀(es:Array Event) (a:α) (v1:ay) (es1:Array Event),(∀e∈es,Ce v e)->s.runT P v es=(.ok a v1,es1)->nG f v v1 w->
  ∃b w1,s'.runT P w (es.map (event f))=(.ok b w1,es1.map (event f))/\Q a b/\Over f K v w v1 w1/\(∀e∈es1,Ce v1 e)
 size:∀(es:Array Event) (a:α) (v1:ay) (es1:Array Event),s.runT P v es=(.ok a v1,es1)->Le v v1/\NV K v1/\∃b,Q a b
 noInit:∀(es:Array Event) (h:Halt) (v1:ay) (es1:Array Event),s.runT P v es=(.halt h v1,es1)->pI h/\NV K v1
theorem eF.of{α β:Type}{Q}{s:Sem α}{s':Sem β}{v w}(h:aO P f K Q s s')(hf:yZ f)(hs:qJ f K v w):eF P f K Q s s' v w:=⟨fun _ _ _ _ b hr a=>h.runT hf hs b hr a,fun _ _ _ _ hr=>h.left hs.nv hr,fun _ _ _ _ hr=>h.noInit hs.nv hr⟩
theorem eF.bind{α β γ δ:Type}{Q}{Q':γ->δ->Prop}{s s'}{g:α->Sem γ}{g':β->Sem δ}{v w}(h:aO P f K Q s s')(hf:yZ f)(hs:qJ f K v w)(hg:∀a b v1,Q a b->s.run P v=.ok a v1->aO P f K Q' (g a) (g' b)):eF P f K Q' (s >>= g) (s' >>= g') v w:=by
 refine⟨fun es c v2 p t hr m=>?_,fun es c v2 p hr=>?_,fun es x v2 p hr=>?_⟩
 .rw[show(s >>= g)=s.bind g from rfl,runT_bind] at hr;generalize e:s.runT P v es=r at hr;have⟨r,es1⟩:=r;cases r with
  |halt h w=>simp at hr
  |ok a v1=>
   have hrun:s.run P v=.ok a v1:=by rw[<-mf P s v es,e]
   have j:=h.size hs.nv e;have⟨_,k,q,l⟩:=h.left hs.nv e;have i:=(hg a q v1 l hrun).size k hr;have o:=m.left j i;have⟨b,w1,h2,D,y,C⟩:=h.runT hf hs t e o;have⟨d,w2,B,A,h8,z⟩:=(hg a b v1 D hrun).runT hf y.rq C hr (m.right y i);refine⟨d,w2,?_,A,y.trans h8 m,z⟩;rw[show(s' >>= g')=s'.bind g' from rfl,runT_bind,h2];exact B
 .rw[show(s >>= g)=s.bind g from rfl,runT_bind] at hr;generalize e:s.runT P v es=r at hr;have⟨r,es1⟩:=r;cases r with
  |halt h w=>simp at hr
  |ok a v1=>
   have hrun:s.run P v=.ok a v1:=by rw[<-mf P s v es,e]
   have j:=h.size hs.nv e;have⟨_,k,q,l⟩:=h.left hs.nv e;have⟨i,n,u⟩:=(hg a q v1 l hrun).left k hr;exact⟨j.trans i,n,u⟩
 rw[show(s >>= g)=s.bind g from rfl,runT_bind] at hr;generalize e:s.runT P v es=r at hr;have⟨r,es1⟩:=r;cases r with
 |halt h' w=>
 obtain⟨⟨rfl,rfl⟩,_⟩:=hr;exact h.noInit hs.nv e
 |ok a v1=>
 have hrun:s.run P v=.ok a v1:=by rw[<-mf P s v es,e]
 have⟨_,k,q,l⟩:=h.left hs.nv e;exact(hg a q v1 l hrun).noInit k hr
theorem eF.dies{α β:Type}{Q}{s:Sem α}{s':Sem β}{v w}(hs:qJ f K v w)(h:Dies P K s):eF P f K Q s s' v w:=⟨fun es _ _ _ _ hr _=>by have⟨_,_,_,h1,_⟩:=h v es hs.nv;rw[h1] at hr;simp at hr,fun es _ _ _ hr=>by have⟨_,_,_,h1,_⟩:=h v es hs.nv;rw[h1] at hr;simp at hr,fun es _ _ _ hr=>by have⟨_,_,_,h1,h2⟩:=h v es hs.nv;rw[h1] at hr;simp[uI,EX] at hr;exact⟨hr.1.1▸h2.1,hr.1.2▸h2.2⟩⟩
theorem eF.congr{α β:Type}{Q}{s t:Sem α}{s' t':Sem β}{v w}(h:eF P f K Q s s' v w)(e:∀v es,t.runT P v es=s.runT P v es)(d:∀v es,t'.runT P v es=s'.runT P v es):eF P f K Q t t' v w:=⟨fun es a v1 es1 c hr b=>by rw[e] at hr;rw[d];exact h.ok es a v1 es1 c hr b,fun es a v1 es1 hr=>by rw[e] at hr;exact h.size es a v1 es1 hr,fun es x v1 es1 hr=>by rw[e] at hr;exact h.noInit es x v1 es1 hr⟩
def ae9:Target->Prop
|.fn (.method n) _|.fn (.methodOf _ n) _=>Fr.mid n=n
|_=>True
theorem BM{t}(ht:P.types.size<=t)(x)(name)(args):Dies P K (callMethod (.iface t x) name args):=fun v es a=>Dies.bind (Qv ht _ x name) (fun r=>callFunc r.1 _) v es a
theorem CP(d:bz P)(hf:yZ f){v w}(hs:qJ f K v w)(recv)(name)(args)(hl:∀t x g v1 r,recv=.iface t x->(method (P.types.size+Made.depth) t x name).run P v=.ok (g,r) v1->Gy P K g):eF P f K (kR f K) (callMethod recv name args) (callMethod (val f recv) name (vals f args)) v w:=by
 cases recv with
 |iface t x=>
 by_cases ht:t<jT;case neg=>exact .dies hs (BM (bM d.types (PG.1 ht)) x name args)
 have h:=eF.bind (VI d _ t x name) hf hs (g':=fun r=>callFunc r.1 (#[r.2]++vals f args))
  (fun a b v1 c hrun=>by subst c;have:=Fv (P:=P) (f:=f) (K:=K) (hl t x a.1 v1 a.2 rfl hrun) (#[a.2]++args);rw[nK] at this;simpa[vals] using this)
 simp[dh,FN ht];exact h.congr (fun _ _=>rfl) (fun _ _=>rfl)
 |nilIface=>exact .dies hs (dA .nilDeref)
 |_=>exact .dies hs (dO _)
theorem Fg(hf:yZ f)(j:bz P){v w}(hs:qJ f K v w)(t)(ht:ahO P t)(hm:ae9 t)(args)(hl:∀g,t.leads P v args=some g->Gy P K g):eF P f K (kR f K) (invoke t args) (invoke (target f t) (vals f args)) v w:=by
 cases t with
 |nil=>exact .of (zG j (t:=.nil) trivial args) hf hs
 |builtin b ts t cs=>exact .of (zG j (t:=.builtin b ts t cs) ht args) hf hs
 |collected r=>exact ht.elim
 |coroexit r=>exact ht.elim
 |fn g c=>
  cases g with
  |func g=>exact .of (zG j (t:=.fn (.func g) c) (hl g rfl) args) hf hs
  |via t path g p=>exact .of (zG j (t:=.fn (.via t path g p) c) (hl g rfl) args) hf hs
  |yield l=>exact .of (zG j (t:=.fn (.yield l) c) trivial args) hf hs
  |method name=>
   simp[target,fn,invoke,jg,show Fr.mid name=name from hm];cases h0:args[0]? with
   |none=>exact .dies hs (dO _)
   |some recv=>
   simp[Option.map_some,zi]
   have:=CP (P:=P) (K:=K) j hf hs recv name (args.extract 1 args.size) (fun t x g v1 r he hr=>hl g (by simp[Target.leads,h0,he,hr]))
   rw[show vals f _=(vals f args).extract 1 args.size by simp[vals,aaD]] at this;exact this
  |methodOf u name=>
   simp[target,fn,invoke,jg,show Fr.mid name=name from hm];cases h0:args[0]? with
   |none=>exact .dies hs (dO _)
   |some recv=>
    simp[Option.map_some,zi];have key:∀recv',(∀(t:aZ) (x:ae) (g:aI) (v1:ay) (r:ae),recv'=.iface t x->(method _ t x name).run P v=.ok (g,r) v1->Gy P K g)->eF P f K _ (callMethod recv' name (args.extract 1 args.size)) (callMethod (val f recv') name ((vals f args).extract 1 args.size)) v w:=fun recv' h=>by
     have:=CP (P:=P) (K:=K) j hf hs recv' name (args.extract 1 args.size) h
     rw[show vals f (args.extract 1 args.size)=(vals f args).extract 1 args.size by simp[vals,aaD]] at this;exact this
    cases hu:P.underlying u with
    |none=>
     refine .dies hs (Dies.bind (s:=underlying u) ?_ _);intro v es m;have:Sem.runT P (underlying u) v es=Sem.runT P ((match P.underlying u with|some d=>pure d|none=>stuck "no such type" : Sem TypeDesc)) v es:=rfl
     rw[this,hu];exact dO _ v es m
    |some d=>
     have a:∀{α:Type} (g:TypeDesc->Sem α) (v:ay) (es:Array Event),(underlying u >>= g).runT P v es=(g d).runT P v es:=fun g v es=>by
      show Sem.runT P (((match P.underlying u with|some d=>pure d|none=>stuck "no such type" : Sem TypeDesc)).bind g) v es=_
      rw[hu];rfl
     have i:∀e:(match d with|.interface _=>False|_=>True),eF P f K (kR f K) (callMethod (.iface u recv) name (args.extract 1 args.size)) (callMethod (val f (.iface u recv)) name ((vals f args).extract 1 args.size)) v w:=fun hne=>
      key _ fun t x g v2 r he hm=>hl g (by
       obtain⟨rfl,rfl⟩:u=t/\recv=x:=by cases he;exact⟨rfl,rfl⟩
       cases d<;>first|exact hne.elim|simp only[Target.leads,h0,Option.map_some,hu,hm])
     have k:¬u<jT->eF P f K (kR f K) (callMethod (.iface u recv) name (args.extract 1 args.size)) (callMethod (.iface u (val f recv)) name ((vals f args).extract 1 args.size)) v w:=fun ht=>.dies hs (BM (bM j.types (PG.1 ht)) recv name _)
     have hup:u<jT->val f (.iface u recv)=.iface u (val f recv):=fun ht=>by rw[dh,FN ht]
     cases d<;>first
      |exact(key recv fun t x g v2 r he hm=>hl g (by subst he;simp only[Target.leads,h0,Option.map_some,hu,hm])).congr (a _) (a _)
      |exact(if ht:u<jT then hup ht▸i trivial else k ht:eF P f K (kR f K) (callMethod (.iface u recv) name (args.extract 1 args.size)) (callMethod (.iface u (val f recv)) name ((vals f args).extract 1 args.size)) v w).congr (a _) (a _)
end
section
variable[Mps][Fr][Ext][jE]{P:aH}{f:Nat->Nat}{S:aI->Prop}{B:List aC}
def kd(P:aH)(S:aI->Prop):Kd:={code:=jB P S,tgt:=fun _=>False,fn:=S}
def mM(P:aH)(S:aI->Prop):Prop:=(∀g,S g->Fr.xP g=g)/\∀g,S g->∃fn body,P.funcs[g]?=some fn/\fn.body=some body/\(fn.name == "runtime.NumGoroutine")=false/\jB P S body
theorem mM.body(h:mM P S){g}(hg:S g):Gy P (kd P S) g:=by have⟨fn,body,h1,h2,a,_⟩:=h.2 g hg;exact⟨hg,h.1 g hg,fn,h1,by rw[h2];rfl,a⟩
def bf:FrameMode->Prop
|.panicking _=>False
|_=>True
def jI:xu:={target:=.builtin .min #[] 0 #[],args:=#[]}
def xN(d:xu):Prop:=d=jI \/ ∃r,d.target=.collected r
theorem jv(P)(fr)(cs)(a)(v):∃o es,callDeferred P fr cs a jI v=.ended o v es:=by unfold callDeferred;rw[aU (by simp[jI])];have e:(invoke jI.target jI.args).runT P v #[]=(.halt (.stuck "min") v,#[]) \/ ∃s,(invoke jI.target jI.args).runT P v #[]=(.halt _ v,#[]):=.inr ⟨_,rfl⟩;rcases e with e|⟨s,e⟩<;>rw[e]<;>exact⟨_,_,rfl⟩
structure aG(P:aH)(S:aI->Prop)(fr:aC):Prop where
 items:BI P S fr
 defers:∀d∈fr.defers,xN d
 mode:bf fr.mode
 kind:fr.kind=.normal\/fr.kind=.deferred
structure SB(P:aH)(S:aI->Prop)(g:dD):Prop where
 frame:aG P S g.frame
 callers:∀c∈g.callers,aG P S c
 dying:g.dying=none
structure jc(g:dD):Prop where
 dying:g.dying=none
 status:g.status=.running\/g.status=.finished
 mode:bf g.frame.mode
theorem aG.finish{fr}(h:aG P S fr)(v):aG P S (fr.finish v):=by
 have hi:=h.items;unfold Frame.finish;cases b:fr.todo with
 |nil=>exact h
 |cons i k=>
  have a:=hi i (by rw[b];exact fZ ..);have hk:∀j∈k,iy P S j:=fun j hj=>hi j (by rw[b];exact jy _ hj);cases i with
  |inRegion ops todo=>
   cases todo with
   |nil=>exact h
   |cons j rest=>
   refine⟨fun x hx=>?_,h.defers,h.mode,h.kind⟩;rcases dW.1 hx with rfl|hx
   .exact a
   exact hk x hx
  |inRangeFunc l=>
   refine⟨fun x hx=>?_,h.defers,h.mode,h.kind⟩;rcases dW.1 hx with rfl|hx
   .trivial
   exact hk x hx
  |beginRound=>exact⟨hk,h.defers,h.mode,h.kind⟩
  |call d w r s=>exact a.elim
  |extern r as=>exact a.elim
  |_=>exact h
theorem gK(f)(g)(args)(k):frame f (Frame.enter P g args k)=Frame.enter P g (vals f args) k:=by unfold Frame.enter frame;simp[mode,item,fP,vals]
theorem Bg(hS:mM P S){g}(hg:S g)(args){k}(hk:k=.normal\/k=.deferred):aG P S (Frame.enter P g args k):=by
 have⟨fn,body,h1,h2,_,a⟩:=hS.2 g hg;refine⟨fun i hi=>?_,fun d hd=>?_,trivial,hk⟩
 .simp[Frame.enter,h1,h2] at hi;subst hi;exact a.loose
 simp[Frame.enter] at hd
theorem Nr{l g tmps as body}(ha:jB P S as)(hb:jB P S body){k}(hk:k=.normal\/k=.deferred):aG P S (Frame.round l g tmps as body k):=by
 refine⟨fun i hi=>?_,fun d hd=>?_,trivial,hk⟩
 .simp[Frame.round] at hi;rcases hi with rfl|rfl|rfl
  .exact ha.loose
  .trivial
  exact hb.loose
 simp[Frame.round] at hd
def stk(f:Nat->Nat)(B:List aC):List aC->List aC
|[]=>[]
|[_]=>B
|c::c'::cs=>frame f c::stk f B (c'::cs)
theorem CE{c cs}(h:cs≠[]):stk f B (c::cs)=frame f c::stk f B cs:=by
 cases cs with
 |nil=>exact absurd rfl h
 |cons c' cs=>rfl
def bF(f:Nat->Nat)(B:List aC)(g:dD):dD:={uG f g with callers:=stk f B g.callers}
def iM(P:aH)(f:Nat->Nat)(S:aI->Prop)(B:List aC)(v w:ay)(st true_:GStep):Prop:=
 match st with
 |.go g1 v1 es=>jc g1->Le v v1/\(g1.callers≠[]->nG f v v1 w->∃w1,true_=.go (bF f B g1) w1 (es.map (event f))/\Over f (kd P S) v w v1 w1/\(∀e∈es,Ce v1 e)/\SB P S g1)
 |.ended ..=>True
 |_=>False
theorem Nq(P)(g){es}{p:Event->Prop}(h:∀e∈es,p e):∀e∈seen P g es,p e:=by
 unfold seen;dsimp only;rw[<-EW];generalize (P.funcs[g]?).any _=c;have key:∀(l:List Event) (q) (kept),(∀e∈l,p e)->(∀e∈kept,p e)->∀e∈(l.foldl (fun(x:Bool×Array Event) e=>match e.loc with|.mark (.extern h)=>((P.funcs[h]?).any (·.norace),x.2)|_=>(x.1,if x.1 && !e.sync then x.2 else x.2.push e)) (q,kept)).2,p e:=by
  intro l;induction l with
  |nil=>intro q kept _ hk;exact hk
  |cons a l ih=>
  intro q kept hl hk;simp only[List.foldl_cons];have ha:=hl a (fZ ..);have b:∀e∈l,p e:=fun e he=>hl e (jy _ he);split
  .exact ih _ _ b hk
  refine ih _ _ b ?_;split
  .exact hk
  exact mem_push hk ha
 exact key es.toList c #[] (fun e he=>h e (uz.1 he)) (fun e he=>by simp at he)
def Lm:GStep->Prop
|.go g _ _=>¬jc g
|.ended ..=>True
|_=>False
theorem Lm.stepped{v w st st'}(h:Lm st):iM P f S B v w st st':=by cases st<;>first|trivial|exact fun hs=>(h hs).elim|exact h.elim
theorem Lm.after{es st}(h:Lm st):Lm (GStep.after es st):=by cases st<;>exact h
def IU(v:ay):GStep->Prop
|.go g v1 _=>jc g->Le v v1
|.ended ..=>True
|_=>False
theorem Lm.sized{v st}(h:Lm st):IU v st:=by cases st<;>first|trivial|exact fun hs=>(h hs).elim|exact h.elim
theorem IU.after{v es st}(h:IU v st):IU v (GStep.after es st):=by cases st<;>exact h
theorem uV{α β:Type}{Q s}{s':Sem β}{v w v1}{a:α}{es fn st c}(h:eF P f (kd P S) Q s s' v w)(hr:s.runT P v #[]=(.ok a v1,es))(hst:IU v1 st)(H:∀b w1,Q a b->s'.runT P w #[]=(.ok b w1,es.map (event f))->Over f (kd P S) v w v1 w1->∃st',c=GStep.after ((seen P fn es).map (event f)) st'/\iM P f S B v1 w1 st st'):iM P f S B v w (GStep.after (seen P fn es) st) c:=by
 have i:=(h.size _ _ _ _ hr).1;cases st with
 |go g1 v2 es2=>
 intro hsm;have hl:=hst hsm;refine⟨i.trans hl,fun hup g=>?_⟩;have⟨b,w1,l,q,d,j⟩:=h.ok #[] a v1 es (fun e he=>by simp at he) hr (g.left i hl);simp[DJ] at l;have⟨st',p,h2⟩:=H b w1 q l d;have⟨w2,o,k,n,m⟩:=(h2 hsm).2 hup (g.right d hl);refine⟨w2,?_,d.trans k g,fun e he=>?_,m⟩
 .rw[p,o];simp[GStep.after]
 rcases BD.1 he with he|he
 .exact(Nq P fn j e he).grows k.grows
 exact n e he
 |ended=>trivial
 |_=>exact hst.elim
theorem kz{v w g1}(hs:qJ f (kd P S) v w)(hg:SB P S g1):iM P f S B v w (.go g1 v) (.go (bF f B g1) w):=fun _=>⟨.refl v,fun _ _=>⟨w,by simp,.refl hs,fun e he=>by simp at he,hg⟩⟩
theorem nN{fr:aC}(a)(cs)(st)(b)(v)(es):Lm (.go {frame:=fr.raise a,callers:=cs,status:=st,dying:=b} v es):=fun h=>by
 have:=h.mode;unfold Frame.raise at this
 split at this<;>exact this
theorem Af(fr)(a)(m)(b)(v):Lm (dieOf fr a m b v):=fun h=>by cases h.dying
theorem vk(p)(fr)(cs)(a)(m)(v):Lm (endFatal p fr cs a m v):=by
 unfold endFatal;dsimp only;split
 .exact Af _ _ _ _ _
 .trivial
 trivial
theorem ZT{fr}(hg:aG P S fr){d b r s k}(a:fr.todo=.call d b r s::k):False:=by have h0:=hg.items _ (by rw[a];exact fZ ..);exact h0.elim
theorem adl{fr}(hg:aG P S fr){d b r s k}(a:(frame f fr).todo=.call d b r s::k):False:=by
 cases h1:fr.todo with
 |nil=>simp[frame,h1] at a
 |cons i k=>
 have h0:=hg.items i (by rw[h1];exact fZ ..);cases i<;>simp[frame,h1,item] at a;exact h0.elim
theorem Py{fr callers s s' v w}(h:eF P f (kd P S) (kR f (kd P S)) s s' v w)(hS:mM P S)(hg:aG P S fr)(hcs:∀c∈callers,aG P S c)(hne:callers≠[]):iM P f S B v w (stepG.apply P true fr callers none s v) (stepG.apply P true (frame f fr) (stk f B callers) none s' w):=by
 have n:(fr.kind==CallKind.early)=false:=by rcases hg.kind with h|h<;>rw[h]<;>rfl
 have j:((frame f fr).kind==CallKind.early)=false:=n;unfold stepG.apply;simp only[je];generalize hrun:s.runT P v #[]=r;have⟨r,p⟩:=r;cases r with
 |halt x v2=>
  refine Lm.stepped (Lm.after ?_);cases x with
  |panic v=>exact nN _ _ _ _ _ _
  |goexit=>exact nN _ _ _ _ _ _
  |blocked=>exact fun h=>by rcases h.status with h|h<;>cases h
  |waiting=>exact fun h=>by rcases h.status with h|h<;>cases h
  |exit c=>trivial
  |fatal m=>exact vk _ _ _ _ _ _
  |throw m=>exact Af _ _ _ _ _
  |unsupported u=>
   cases u with
   |initOrder g=>exact absurd rfl ((h.noInit _ _ _ _ hrun).1.1 g)
   |_=>trivial
  |stuck s=>trivial
 |ok a v2=>
  have⟨_,_,b0,_,hok,k⟩:=h.size _ _ _ _ hrun;simp only[n,tY,BF];cases a with
  |value x=>
  refine uV h hrun (fun _=>.refl _) ?_;rintro b w1 ⟨rfl,_,_⟩ e i;rw[e];refine⟨_,by simp[j,tY,BF,next,<-lq];rfl,?_⟩;rw[dQ fr x hg.items];exact kz i.rq ⟨hg.finish x,hcs,rfl⟩
  |skip=>
  refine uV h hrun (fun _=>.refl _) ?_;rintro b w1 ⟨rfl,_,_⟩ e i;rw[e];refine⟨_,by simp[j,tY,BF,next,<-lq];rfl,?_⟩;have:=dQ (f:=f) fr undef hg.items;rw[fP] at this;rw[this];exact kz i.rq ⟨hg.finish undef,hcs,rfl⟩
  |enter g as=>
  refine uV h hrun (fun _=>.refl _) ?_;rintro b w1 ⟨rfl,_,_⟩ e i;rw[e];refine⟨_,by simp[j,tY,BF,next,<-lq];rfl,?_⟩;dsimp only;split
  .rename_i o;exact(ZT hg o).elim
  split
  .rename_i o;exact(adl hg o).elim
  rw[<-gK f g as .normal,<-CE hne];exact kz i.rq ⟨Bg hS k as (.inl rfl),fun c hc=>by
   rcases dW.1 hc with rfl|hc
   .exact hg
   exact hcs c hc,rfl⟩
  |round l g tmps as body=>
  refine uV h hrun (fun _=>.refl _) ?_;rintro b w1 ⟨rfl,_,_⟩ e i;rw[e];refine⟨_,by simp[j,tY,BF,next,<-lq];rfl,?_⟩;rw[<-CE hne];exact kz i.rq ⟨Nr k.1 k.2 (.inl rfl),fun c hc=>by
   rcases dW.1 hc with rfl|hc
   .exact hg
   exact hcs c hc,rfl⟩
  |defer d=>exact k.elim
  |_=>cases hok
theorem VC{fr c cs v w m m'}(x)(hs:qJ f (kd P S) v w)(hg:aG P S fr)(hc:aG P S c)(hcs:∀c∈cs,aG P S c):iM P f S B v w (doReturn P m fr (c::cs) none x v) (doReturn P m' (frame f fr) (stk f B (c::cs)) none (val f x) w):=by
 by_cases hne:cs=[]
 .subst hne;unfold doReturn;rcases hg.kind with h|h
  .simp[h];exact fun _=>⟨.refl _,fun h=>absurd rfl h⟩
  simp[h];exact fun _=>⟨.refl _,fun h=>absurd rfl h⟩
 rw[CE hne];unfold doReturn;simp[show(frame f fr).kind=fr.kind from rfl];rcases hg.kind with h|h
 .simp[h];rw[dQ c x hc.items];exact kz hs ⟨hc.finish x,hcs,rfl⟩
 simp[h];have hm:=hc.mode;cases a:c.mode with
 |panicking ch=>rw[a] at hm;exact hm.elim
 |run=>
 simp[show(frame f c).mode=mode f c.mode from rfl,a,mode];exact kz hs ⟨hc,hcs,rfl⟩
 |returning=>
 simp[show(frame f c).mode=mode f c.mode from rfl,a,mode];exact kz hs ⟨hc,hcs,rfl⟩
theorem S9{fr c cs m}(x)(v):IU v (doReturn P m fr (c::cs) none x v):=by unfold doReturn;dsimp only;split<;>exact fun _=>.refl _
theorem Po{fr cs m}(x)(v)(hne:cs≠[]):IU v (doReturn P m fr cs none x v):=by
 cases cs with
 |nil=>exact absurd rfl hne
 |cons c cs=>exact S9 x v
theorem JE{fr cs v w m m'}(x)(hs:qJ f (kd P S) v w)(hg:aG P S fr)(hcs:∀c∈cs,aG P S c)(hne:cs≠[]):iM P f S B v w (doReturn P m fr cs none x v) (doReturn P m' (frame f fr) (stk f B cs) none (val f x) w):=by
 cases cs with
 |nil=>exact absurd rfl hne
 |cons c cs=>exact VC x hs hg (hcs c (fZ ..)) (fun y hy=>hcs y (jy _ hy))
end
section
variable[Mps][Fr][Ext][jE]{P:aH}{f:Nat->Nat}{S:aI->Prop}{B:List aC}{K:Kd}
theorem zF{α:Type}(g g':α->Sem ae)(h:∀a,aO P f K (aJ f) (g a) (g' a)):∀l:List α,aO P f K (fun x y=>y=x.map (val f)) (l.mapM g) (l.mapM g')
|[]=>by simp only[List.mapM_nil];exact ak rfl
|a::l=>by simp only[Xk];refine ai (h a) ?_;rintro x _ rfl;refine ai (zF g g' h l) ?_;rintro xs _ rfl;exact ak rfl
theorem VJ{α:Type}(g g')(h:∀a,aO P f K (aJ f) (g a) (g' a))(as:Array α):aO P f K (fun x y=>y=vals f x) (as.mapM g) (as.mapM g'):=by rw[Xj,Xj,aeW,aeW];refine ai (zF g g' h as.toList) ?_;rintro xs _ rfl;exact ak (by simp[vals])
theorem zA(fn)(tmps):aO P f K (aJ f) (results fn tmps) (results fn (vals f tmps)):=by
 unfold results;refine ai (VJ _ _ (fun x=>?_) fn.results) ?_
 .cases x with
  |tmp t=>exact ak (pU f tmps t)
  |cell a t=>dsimp only;rw[pU];refine ai (Hu _) ?_;rintro p _ rfl;exact D6 t p
 rintro b _ rfl;refine ak ?_;show(if h:(vals f b).size=1 then _[0] else Value.tuple _)=val f (if h:b.size=1 then b[0] else Value.tuple b)
 by_cases h:b.size=1
 .rw[ou h,ou (by simpa using h)];simp[vals]
 rw[dif_neg h,dif_neg (by simpa using h)];simp
theorem Vh(hf:yZ f){m m' fr cs v w}(hs:qJ f (kd P S) v w)(hg:aG P S fr)(a:∀c∈cs,aG P S c)(hb:cs≠[]):iM P f S B v w (unwind P m fr cs none v) (unwind P m' (frame f fr) (stk f B cs) none w):=by
 unfold unwind;cases hd:fr.defers with
 |cons d ds=>
  have hdef:∀x∈ds,xN x:=fun x hx=>hg.defers x (by rw[hd];exact jy _ hx);have k:(frame f fr).defers=deferred f d::ds.map (deferred f):=by simp[frame,hd]
  rw[k];rcases hg.defers d (by rw[hd];exact fZ ..) with rfl|⟨r,hr⟩
  .have⟨o,es,e⟩:=jv P {fr with defers:=ds} cs none v;show iM P f S B v w (callDeferred P {fr with defers:=ds} cs none jI v) _;rw[e]
   trivial
  have⟨t,as⟩:=d;cases hr;simp[deferred,target];have h:=eF.of (CS (P:=P) r) hf hs;generalize hrun:(Instr.takeDeferred r).runT P v #[]=q;have⟨q,l⟩:=q;cases q with
  |halt x v2=>exact Lm.stepped (Lm.after trivial)
  |ok calls v2=>
  have⟨_,_,b0,_,hk⟩:=h.size _ _ _ _ hrun;refine uV h hrun (fun _=>.refl _) ?_;rintro b w1 ⟨rfl,_⟩ g i;rw[g];refine⟨_,by simp[<-lq];rfl,?_⟩;dsimp only;rw[<-F5];exact kz i.rq ⟨⟨hg.items,fun x hx=>by
   rcases pY.1 hx with hx|hx
   .exact(hk x hx).elim
   exact hdef x hx,hg.mode,hg.kind⟩,a,rfl⟩
 |nil=>
  rw[show(frame f fr).defers=[] by simp[frame,hd]];have hm:=hg.mode;cases j:fr.mode with
  |panicking ch=>rw[j] at hm;exact hm.elim
  |run=>trivial
  |returning=>
   simp only[show(frame f fr).mode=mode f fr.mode from rfl,j,mode,show(frame f fr).fn=fr.fn from rfl];cases hfn:P.funcs[fr.fn]? with
   |none=>dsimp only;rw[show(frame f fr).tmps=vals f fr.tmps from rfl,pU];exact JE _ hs hg a hb
   |some fn=>
    dsimp only;have h:=eF.of (zA (P:=P) (f:=f) (K:=kd P S) fn fr.tmps) hf hs;generalize hrun:(results fn fr.tmps).runT P v #[]=q;have⟨q,l⟩:=q;cases q with
    |halt x v2=>cases x<;>exact Lm.stepped (Lm.after trivial)
    |ok x v2=>
    refine uV h hrun (Po x v2 hb) ?_;rintro _ w1 rfl g i;rw[show(frame f fr).tmps=vals f fr.tmps from rfl,g];exact⟨doReturn P m' _ _ none _ w1,by simp[<-lq],JE x i.rq hg a hb⟩
theorem aG.to{fr}(hg:aG P S fr){k}(hk:∀i∈k,iy P S i):aG P S {fr with todo:=k}:=⟨hk,hg.defers,hg.mode,hg.kind⟩
theorem Zq{fr cs v w}(hs:qJ f (kd P S) v w)(hg:aG P S fr)(hcs:∀c∈cs,aG P S c){k}(hk:∀i∈k,iy P S i):iM P f S B v w (.go {frame:={fr with todo:=k},callers:=cs,status:=.running,dying:=none} v) (.go {frame:={frame f fr with todo:=k.map (item f)},callers:=stk f B cs,status:=.running,dying:=none} w):=kz hs ⟨hg.to hk,hcs,rfl⟩
theorem X3(fr):(frame f fr).oper? =fr.oper?:=by
 unfold Frame.oper?;cases a:fr.todo with
 |nil=>simp[frame,a]
 |cons i k=>
  simp[frame,a,fU];cases i with
  |inRegion ops todo=>cases todo<;>rfl
  |_=>rfl
theorem Qk(ρ)(c)(hc:jK P c)(t):(∃d,resolve ρ c t=pure d/\resolve (fun x=>val f (ρ x)) c t=pure (deferred f d)) \/ ∃e,resolve ρ c t=stuck e:=by
 unfold resolve;have e:c.args.map (fun x=>val f (ρ x))=vals f (c.args.map ρ):=by simp[vals]
 dsimp only;rw[e];cases h:c.callee with
 |builtin b=>exact .inl ⟨_,rfl,by simp[deferred,target]⟩
 |invoke recv name=>unfold jK at hc;rw[h] at hc;exact hc.elim
 |value g=>
  dsimp only;cases ρ g with
  |func g a b=>simp[dL,Deferred.ofValue,<-nK];exact .inl ⟨_,rfl,rfl⟩
  |nilFunc=>simp[cZ,Deferred.ofValue];exact .inl ⟨_,rfl,rfl⟩
  |_=>exact .inr ⟨_,rfl⟩
theorem OQ{ρ c t d}(j:∀x∈c.operands,BG (ρ x))(hc:jK P c)(h:resolve ρ c t=pure d):ae9 d.target:=by
 unfold resolve at h;unfold jK at hc;cases e:c.callee with
 |builtin b=>rw[e] at h hc;cases h;trivial
 |invoke r n=>rw[e] at hc;exact hc.elim
 |value g=>
  rw[e] at h;dsimp only at h;have i:=j g (by unfold Call.operands;rw[e];simp);cases hg:ρ g with
  |func q a b=>
  rw[hg] at h i;cases h;cases q<;>first|exact i|trivial
  |nilFunc=>rw[hg] at h;cases h;trivial
  |_=>rw[hg] at h;cases h
theorem vY(hf:yZ f)(hx:Fix P f)(i:bz P){fr v w}(hs:qJ f (kd P S) v w)(hS:mM P S){o}(ho:pG P S o)(j:∀x,ed P S x->BG (fr.eval x))(hl:∀c d g,o.op=.call c->resolve fr.eval c o.type=pure d->d.target.leads P v d.args=some g->S g):eF P f (kd P S) (kR f (kd P S)) (execOp fr.eval o) (execOp (frame f fr).eval o) v w:=by
 rw[execOp_congr o ho.1 (fun x a=>iU hx hS.1 fr (ho.2 x a))];by_cases hc:∃c,o.op=.call c
 .have⟨c,hc⟩:=hc;have b:jK P c:=by have:=ho.1;rw[hc] at this;exact this
  have l:execOp fr.eval o=(resolve fr.eval c o.type >>= fun d=>invoke d.target d.args):=by unfold execOp;rw[hc]
  have k:execOp (fun x=>val f (fr.eval x)) o=(resolve (fun x=>val f (fr.eval x)) c o.type >>= fun d=>invoke d.target d.args):=by unfold execOp;rw[hc]
  rw[l,k];rcases Qk fr.eval c b o.type with⟨d,h1,h2⟩|⟨e,h1⟩
  .rw[h1,h2,pure_bind,pure_bind];exact Fg hf i hs d.target (MM b h1) (OQ (fun x a=>j x (ho.2 x (by rw[hc];exact a))) b h1) d.args (fun g hg=>hS.body (hl c d g hc h1 hg))
  rw[h1];exact .dies hs (Dies.bind (dO _) _)
 exact .of (ac2 hf hx hS.1 i fr.eval o (fun x a=>j x (ho.2 x a)) ho.1 (fun c d h _=>absurd ⟨c,h⟩ hc)) hf hs
end
section
variable[Mps]
theorem jl{K v}(h:NV K v):qJ (id) K v v:=by
 refine⟨fun b o hb=>(h b o hb).2,fun b o hb=>⟨o,hb,?_⟩⟩;rcases(h b o hb).1 with h1|h1
 .exact vW (.refl h1)
 have h2:=Au (id) h1;have e:=N7 o;rw[e] at h2;exact h2
variable[Fr][Ext][jE]{P:aH}{f:Nat->Nat}{S:aI->Prop}{B:List aC}{K:Kd}
theorem adH{v w}{c c':Prop}[Decidable c][Decidable c']{a a' b b'}(d:c'↔c)(h1:iM P f S B v w a a')(h2:iM P f S B v w b b'):iM P f S B v w (if c then a else b) (if c' then a' else b'):=by
 by_cases h:c
 .rw[aY h,aY (d.2 h)];exact h1
 rw[aU h,aU (fun h'=>h (d.1 h'))];exact h2
theorem abw{fr cs v w}(hs:qJ f (kd P S) v w)(hg:aG P S fr)(hcs:∀c∈cs,aG P S c):iM P f S B v w (.go {frame:={fr with mode:=.returning},callers:=cs,status:=.running,dying:=none} v) (.go {frame:={frame f fr with mode:=.returning},callers:=stk f B cs,status:=.running,dying:=none} w):=kz hs ⟨⟨hg.items,hg.defers,trivial,hg.kind⟩,hcs,rfl⟩
theorem Yi(hf:yZ f){m m' fr cs v w}(hs:qJ f (kd P S) v w)(hg:aG P S fr)(b:∀c∈cs,aG P S c)(hb:cs≠[])(ro:aB Nat)(jump)(hj:∀c,jump=some c->jB P S c)(e d:String) :
  iM P f S B v w
   (match ro with
   |none=>if (match jump with|none|some .ret=>true|_=>false)=true then GStep.go {frame:={fr with mode:=.returning},callers:=cs,status:=.running,dying:=none} v else .ended (.stuck e (fr.pos P)) v
   |some l=>
    let (r,es):=(Instr.endRound l jump).runT P v #[]
    GStep.after (seen P fr.fn es) <| match r with
    |.ok x w=>doReturn P m fr cs none x w
    |.halt _ w=>.ended (.stuck "range over a function: no such loop" (fr.pos P)) w)
   (match ro.map f with
   |none=>if (match jump with|none|some .ret=>true|_=>false)=true then GStep.go {frame:={frame f fr with mode:=.returning},callers:=stk f B cs,status:=.running,dying:=none} w else .ended (.stuck d ((frame f fr).pos P)) w
   |some l=>
    let (r,es):=(Instr.endRound l jump).runT P w #[]
    GStep.after (seen P (frame f fr).fn es) <| match r with
    |.ok x w=>doReturn P m' (frame f fr) (stk f B cs) none x w
    |.halt _ w=>.ended (.stuck "range over a function: no such loop" ((frame f fr).pos P)) w):=by
 cases ro with
 |none=>
  by_cases hj:(match jump with|none|some .ret=>true|_=>false)=true
  .rw[aY hj,aY hj];exact abw hs hg b
  rw[aU hj];trivial
 |some l=>
  dsimp[Option.map_some];have h:=eF.of (NG (P:=P) l jump hj) hf hs;generalize hrun:(Instr.endRound l jump).runT P v #[]=q;have⟨q,j⟩:=q;cases q with
  |halt x v2=>exact Lm.stepped (Lm.after trivial)
  |ok x v2=>
  refine uV h hrun (Po x v2 hb) ?_;rintro _ w1 rfl g i;rw[g];exact⟨doReturn P m' _ _ none _ w1,by simp[<-lq];rfl,JE x i.rq hg b hb⟩
theorem Xd{fr callers s s' v w}(h:eF P f (kd P S) (kR f (kd P S)) s s' v w):IU v (stepG.apply P true fr callers none s v):=by
 unfold stepG.apply;generalize hrun:s.runT P v #[]=r;have⟨r,d⟩:=r;cases r with
 |halt x v2=>
  refine Lm.sized (Lm.after ?_);cases x with
  |panic v=>exact nN _ _ _ _ _ _
  |goexit=>exact nN _ _ _ _ _ _
  |blocked=>exact fun h=>by rcases h.status with h|h<;>cases h
  |waiting=>exact fun h=>by rcases h.status with h|h<;>cases h
  |exit c=>trivial
  |fatal m=>exact vk _ _ _ _ _ _
  |throw m=>exact Af _ _ _ _ _
  |unsupported u=>
   cases u with
   |initOrder g=>exact absurd rfl ((h.noInit _ _ _ _ hrun).1.1 g)
   |_=>trivial
  |stuck s=>trivial
 |ok a v2=>have⟨e,_,b0,_,hok,b⟩:=h.size _ _ _ _ hrun;refine IU.after ?_;cases a<;>first|exact fun _=>e|exact e|cases hok
def Met(P:aH)(S:aI->Prop)(fr:aC):Prop:=∀x,ed P S x->BG (fr.eval x)
theorem lL(y):@BG bY y:=by
 cases y<;>first|trivial|skip
 rename_i g a b;cases g<;>first|trivial|rfl
theorem TN(fr):@Met bY P S fr:=fun _ _=>lL _
theorem DY(hf:yZ f)(hx:Fix P f)(i:bz P){fr v w}(hs:qJ f (kd P S) v w)(hS:mM P S){x}(ho:ed P S x)(j:∀x,ed P S x->BG (fr.eval x))(l)
  (hl:∀d g,resolve fr.eval {callee:=.value x,args:=#[.const (.func (.yield l) #[] #[])],argTypes:=#[]} 0=pure d->d.target.leads P v d.args=some g->S g) :
  eF P f (kd P S) (kR f (kd P S)) (do let d <- resolve fr.eval {callee:=.value x,args:=#[.const (.func (.yield l) #[] #[])],argTypes:=#[]} 0;invoke d.target d.args)
   (do let d <- resolve (frame f fr).eval {callee:=.value x,args:=#[.const (.func (.yield (f l)) #[] #[])],argTypes:=#[]} 0;invoke d.target d.args) v w:=by
 have h:∀(fr:aC) (l),resolve fr.eval {callee:=.value x,args:=#[.const (.func (.yield l) #[] #[])],argTypes:=#[]} 0=Deferred.ofValue (fr.eval x) #[.func (.yield l) #[] #[]]:=fun fr l=>by simp[resolve,Frame.eval]
 have k:=iU hx hS.1 fr ho;rw[h,h,k];rw[h] at hl;have c:=j x ho;cases e:fr.eval x with
 |func g a b=>
 rw[e] at hl c;have:=Fg hf i hs (.fn g b) trivial (by cases g<;>first|exact c|trivial) _ (fun y hy=>hS.body (hl _ y rfl hy));rw[nK,show vals f #[Value.func (.yield l) #[] #[]]=#[.func (.yield (f l)) #[] #[]] by simp[vals,fn]] at this;simp[dL,Deferred.ofValue,pure_bind];exact this
 |nilFunc=>
 simp[cZ,Deferred.ofValue,pure_bind];exact Fg hf i hs .nil trivial trivial _ (fun y hy=>by cases hy)
 |_=>exact .dies hs (Dies.bind (dO _) _)
theorem abU(hf:yZ f)(hx:Fix P f)(X:bz P){m m' fr cs v w}(hs:qJ f (kd P S) v w)(hS:mM P S)(hg:aG P S fr)(A:∀c∈cs,aG P S c)(hb:cs≠[])(hm:fr.mode=.run)(U:Met P S fr)(hns:yD fr)(hl:∀g,fr.about P v=some g->S g):iM P f S B v w (stepG.exec P m true fr cs none v) (stepG.exec P m' true (frame f fr) (stk f B cs) none w):=by
 have z:=fun jump hj Q O=>Yi (B:=B) (m:=m) (m':=m') hf hs hg A hb fr.roundOf jump hj Q O;have hi:=hg.items;have u:=fun{k} (hk:∀i∈k,iy P S i)=>Zq (B:=B) hs hg A hk;have V:=fun(x)=>dQ (f:=f) fr x hg.items;have J:=fun{s s'} (h:eF P f _ _ s s' v w)=>Py (B:=B) h hS hg A hb;have⟨p,tmps,todo,defers,md,kind,ro⟩:=fr;cases todo with
 |nil=>unfold stepG.exec;exact z none (fun c h=>by cases h) _ _
 |cons i k=>
  have C:=hi i (fZ ..);have hk:∀j∈k,iy P S j:=fun j hj=>hi j (jy _ hj);have G:∀j,iy P S j->∀x∈j::k,iy P S x:=fun j hj x hx=>by
   rcases dW.1 hx with rfl|hx
   .exact hj
   exact hk x hx
  have F:∀j j',iy P S j->iy P S j'->∀x∈j::j'::k,iy P S x:=fun j j' hj hj' x hx=>by
   rcases dW.1 hx with rfl|hx
   .exact hj
   exact G j' hj' x hx
  unfold stepG.exec;cases i with
  |code cd=>
   have t:=C;cases cd with
   |ret=>exact z (some .ret) (fun c h=>by cases h;trivial) _ _
   |skip=>exact u hk
   |label l=>exact u hk
   |seq a b=>exact u (F _ _ t.1 t.2)
   |cond x W els=>
    have he:=iU hx hS.1 ⟨p,tmps,.code (.cond x W els)::k,defers,md,kind,ro⟩ t.1;dsimp[frame,List.map,item] at he⊢;rw[he];generalize Frame.eval _ x=q;cases q with
    |bool b=>
    simp[dY];exact u (G _ (by cases b;exact t.2.2;exact t.2.1))
    |_=>trivial
   |block id body=>exact u (F _ _ t trivial)
   |loop body=>exact u (F _ _ t t)
   |scope body=>exact u (F _ _ t t)
   |exit id=>
    dsimp[frame,List.map,item];rw[Dq];cases he:exitTo id k with
    |none=>exact z (some (.exit id)) (fun c h=>by cases h;trivial) _ _
    |some k'=>exact u (Ep hk he)
   |goto l=>
    dsimp[frame,List.map,item];rw[Dp];cases he:gotoIn l k with
    |none=>exact z (some (.goto l)) (fun c h=>by cases h;trivial) _ _
    |some k'=>exact u (Ej hk he)
   |rangeFunc x ps a b=>
    have h:=eF.of (CW (P:=P) (f:=f) (K:=kd P S) p tmps ps a b t.2.1 t.2.2 ro) hf hs;dsimp[frame,List.map,item];generalize hrun:(Instr.enterLoop p tmps ps a b ro).runT P v #[]=q;have⟨q,N⟩:=q;cases q with
    |halt y v2=>exact Lm.stepped (Lm.after trivial)
    |ok y v2=>
    have⟨l,mark⟩:=y;have⟨_,Y,b0,_,Z⟩:=h.size _ _ _ _ hrun;have L:(Instr.enterLoop p tmps ps a b ro).run P v=.ok (l,mark) v2:=by rw[<-mf P _ v #[],hrun]
    have hg':aG P S ⟨p,tmps,.inRangeFunc l::k,mark++defers,md,kind,ro⟩:=⟨G _ trivial,fun d hd=>by
     rcases pY.1 hd with hd|hd
     .exact .inr (Z d hd)
     exact hg.defers d hd,hg.mode,hg.kind⟩
    have E:∀d g,resolve (Frame.eval ⟨p,tmps,.inRangeFunc l::k,mark++defers,md,kind,ro⟩) {callee:=.value x,args:=#[.const (.func (.yield l) #[] #[])],argTypes:=#[]} 0=pure d->d.target.leads P v2 d.args=some g->S g:=fun d g h1 h2=>hl g (by cases hm;have h1':resolve (Frame.eval ⟨p,tmps,.code (.rangeFunc x ps a b)::k,defers,.run,kind,ro⟩) {callee:=.value x,args:=#[.const (.func (.yield l) #[] #[])],argTypes:=#[]} 0=pure d:=h1;simp only[Frame.about,L];rw[h1'];exact h2)
    refine uV h hrun (@Xd _ bY aj _ P (fun x=>x) S _ _ _ _ _ _ (@DY _ bY aj _ P (fun x=>x) S (fun _ _ h=>h) (fun _ _=>rfl) X ⟨p,tmps,.inRangeFunc l::k,mark++defers,md,kind,ro⟩ _ _ (jl Y) ⟨fun _ _=>rfl,hS.2⟩ _ t.1 (fun _ _=>lL _) l E)) ?_;rintro _ w1 ⟨rfl,_⟩ H D;rw[H];refine⟨_,by simp only[<-lq];rfl,?_⟩
    have:=Py (B:=B) (DY (fr:=⟨p,tmps,.inRangeFunc l::k,mark++defers,md,kind,ro⟩) hf hx X D.rq hS t.1 (fun y hy=>by have:=U y hy;cases y<;>exact this) l E) hS hg' A hb
    dsimp only[frame,List.map,item] at this;rw[F5] at this;exact this
   |refuse Q=>trivial
   |region id ops draw=>
    cases draw with
    |false=>exact u (k:=.inRegion ops (List.range ops.size)::k) (G _ t)
    |true=>
     have h:=eF.of (qj (P:=P) (f:=f) (K:=kd P S) (.order p id)) hf hs;have e1:=mf P (choose (.order p id)) v #[];have e2:=mf P (choose (.order p id)) w #[];dsimp only[frame,List.map,item];simp only[UZ,tY,BF];rw[<-e1,<-e2];generalize hrun:(choose (.order p id)).runT P v #[]=q;have⟨q,N⟩:=q;cases q with
     |halt x v2=>trivial
     |ok n v2=>
     dsimp only;intro hsm;refine⟨(h.size _ _ _ _ hrun).1,fun _ hfr=>?_⟩;obtain⟨b,w1,e3,rfl,D,hev⟩:=h.ok #[] n v2 N (fun e he=>by simp at he) hrun hfr;simp only[DJ] at e3;rw[e3];refine⟨w1,by simp[bF,uG,frame,item],D,fun e he=>by simp at he,⟨hg.to (k:=.inRegion ops _::k) (G _ t),A,rfl⟩⟩
  |inBlock id=>exact u hk
  |inScope body=>exact u hk
  |inLoop body=>exact u (k:=.code body::.inLoop body::k) (F _ _ C C)
  |inRangeFunc l=>trivial
  |beginRound=>
   refine J ?_;cases ro with
   |none=>exact .dies hs (Dies.bind (dO _) _)
   |some l=>exact .of (Fq (AP l)) hf hs
  |endRangeFunc l=>
   have h:=eF.of (Jd (P:=P) (f:=f) (K:=kd P S) l) hf hs;dsimp only[frame,List.map,item];generalize hrun:(Instr.endLoop l).runT P v #[]=q;have⟨q,N⟩:=q;cases q with
   |halt x v2=>refine Lm.stepped (Lm.after ?_);cases x<;>first|trivial|exact nN _ _ _ _ _ _
   |ok jump v2=>
    have⟨_,_,b0,_,hjk⟩:=h.size _ _ _ _ hrun;refine uV h hrun (fun _=>.refl _) ?_;rintro b w1 ⟨hb,_⟩ H D;rw[hb] at H;rw[H];refine⟨_,by simp only[<-lq];rfl,?_⟩;have hk':∀i∈(jump.map Item.code).toList++k,iy P S i:=fun i hi'=>by
     rcases pY.1 hi' with h1|h1
     .cases jump with
      |none=>cases h1
      |some c1=>obtain rfl:=eY.1 h1;exact jB.loose (hjk c1 rfl)
     exact hk i h1
    have:=Zq (B:=B) (fr:=⟨p,tmps,.endRangeFunc l::k,defers,md,kind,ro⟩) D.rq hg A hk'
    rw[F5] at this;have e:(jump.map Item.code).toList.map (item f)=(jump.map Item.code).toList:=by cases jump<;>rfl
    rw[e] at this;exact this
  |call d a r s=>exact C.elim
  |extern r s=>exact C.elim
  |inRegion ops todo=>
   cases todo with
   |nil=>exact u hk
   |cons j rest=>
    have hy:=gz f ops tmps;refine adH (show((ops[j]?).map (Region.wanted · (yielded ops (vals f tmps)))).getD false=true↔((ops[j]?).map (Region.wanted · (yielded ops tmps))).getD false=true by rw[hy]) ?_ ?_
    .dsimp only[frame,List.map,item]
     unfold stepG.oper;have e:=X3 (f:=f) ⟨p,tmps,.inRegion ops (j::rest)::k,defers,md,kind,ro⟩;dsimp only[frame,List.map,item] at e;rw[e];dsimp only[Frame.oper?];cases ho:ops[j]? with
     |none=>trivial
     |some o=>
      have R:pG P S o:=(C o (kP ho)).resolve_right (hns hm _ _ _ _ _ rfl ho);have hrun:=vY (fr:=⟨p,tmps,.inRegion ops (j::rest)::k,defers,md,kind,ro⟩) hf hx X hs hS R U (fun c d g h1 h2 h3=>hl g (by cases hm;simp only[Frame.about,ho,h1];rw[h2];exact h3))
      have I:=J hrun;dsimp only;have T:∀c,o.op≠.defer c:=fun c hc=>by have:=R.1;rw[hc] at this;exact this
      cases ro with
      |none=>exact I
      |some l=>
      split
      .rename_i M;exact absurd M (T _)
      split
      .rename_i M;exact absurd M (T _)
      exact I
    dsimp only[frame,List.map,item];have e:=V undef;rw[fP] at e;dsimp only[frame,List.map,item] at e;rw[e];exact kz (g1:={frame:=Frame.finish ⟨p,tmps,.inRegion ops (j::rest)::k,defers,md,kind,ro⟩ undef,callers:=cs,status:=.running,dying:=none}) hs ⟨hg.finish undef,A,rfl⟩
theorem vU(hf:yZ f)(hx:Fix P f)(d:bz P)(hS:mM P S){m m' g v w}(hs:qJ f (kd P S) v w)(hg:SB P S g)(hb:g.callers≠[])(c:Met P S g.frame)(hns:yD g.frame)(hl:∀x,g.frame.about P v=some x->S x):iM P f S B v w (stepG P m g v) (stepG P m' (bF f B g) w):=by
 have⟨fr,callers,status,dying,offers⟩:=g;have⟨hg,a,hd⟩:=hg;cases hd;unfold stepG;dsimp[bF,uG];have b:=hg.mode;cases hm:fr.mode with
 |panicking ch=>rw[hm] at b;exact b.elim
 |run=>
 rw[show(frame f fr).mode=.run by simp[frame,hm,mode]];exact abU hf hx d hs hS hg a hb hm c hns hl
 |returning=>
 rw[show(frame f fr).mode=.returning by simp[frame,hm,mode]];exact Vh hf hs hg a hb
end
section
variable[Mps][jE]{P:aH}{f:Nat->Nat}{S:aI->Prop}{K:Kd}
theorem adF(k:List ig):k.map (item id)=k:=by
 have:(item id)=id:=funext fun i=>by cases i<;>simp[item,Du,xU]
 rw[this];exact List.map_id k
theorem WE(fr):frame id fr=fr:=by
 have⟨fn,tmps,todo,defers,md,kind,ro⟩:=fr;have h1:=funext Du;have h2:mode id md=md:=by
  cases md with
  |panicking c=>
  have:(Jj id)=id:=funext fun e=>by simp[Jj,qX]
  simp[mode,this]
  |_=>rfl
 simp[frame,xU,adF,h1,h2]
theorem OI(g):uG id g=g:=by have:(frame id)=id:=funext WE;simp[uG,WE,this]
theorem aeo(es:Array Event):es.map (event id)=es:=by
 have hm:∀m,mark id m=m:=fun m=>by cases m<;>rfl
 have hl:∀l,loc id l=l:=fun l=>by cases l<;>simp[loc,aau,hm]
 have:(event id)=id:=funext fun e=>by simp[event,hl]
 rw[this];exact Xl es
def bottom:aC:={fn:=0,tmps:=#[],todo:=[],defers:=[jI],mode:=.run,kind:=.normal}
def Up(g:dD):Prop:=∃cs,g.callers=cs++[bottom]
theorem Up.ne{g}(h:Up g):g.callers≠[]:=by have⟨cs,e⟩:=h;rw[e];simp
theorem yG[Fr][Ext](f:Nat->Nat)(B:List aC)(b:aC):∀cs:List aC,stk f B (cs++[b])=cs.map (frame f)++B
|[]=>rfl
|c::cs=>by rw[List.cons_append,CE (by simp),yG f B b cs];rfl
theorem fQ[Fr][Ext](f):frame f bottom=bottom:=by simp[frame,bottom,mode,deferred,target,jI,vals]
theorem L8[Fr][Ext](f){g}(h:Up g):bF f [bottom] g=uG f g:=by have⟨cs,e⟩:=h;unfold bF;rw[e,yG];unfold uG;rw[e,F5,fU,iw,fQ]
theorem qZ(e:bz P)(hS:mM P S){m m' g g1 v v1 es}(hn:NV (kd P S) v)(hg:SB P S g)(hu:Up g)(hns:yD g.frame)(hl:∀x,g.frame.about P v=some x->S x)(h:stepG P m g v=.go g1 v1 es)(hsm:jc g1)(b:Up g1)(t)(ht:∀i,v.drawn<=i->i<v1.drawn->t i=v.tape i):stepG P m' g {v with tape:=t} = .go g1 {v1 with tape:=t} es/\Le v v1/\NV (kd P S) v1/\SB P S g1:=by
 have hs:qJ (id) _ v {v with tape:=t}:=⟨(jl hn).good,(jl hn).block⟩;have h0:=vU (f:=id) (B:=[bottom]) (m:=m) (m':=m') (fun _ _ h=>h) (fun _ _=>rfl) e hS hs hg hu.ne (TN _) hns hl;rw[h] at h0;have⟨o,h1⟩:=h0 hsm;have k:=o.size;have⟨w1,d,a,l,c⟩:=h1 b.ne ⟨fun i h1 h2=>by show i=_;dsimp only;omega,fun i h1=>by show _<=i;dsimp only;omega,fun i h1 h2=>by dsimp only;rw[show v.drawn+(i-v.drawn)=i by omega];exact ht i h1 h2⟩
 rw[L8 _ hu,L8 _ b,OI,OI,aeo] at d;refine⟨?_,o,a.rq.nv,c⟩;have hd:=a.drawn;have n:=o.drawn;have hh:=a.exact rfl ⟨⟨fun _=>rfl,fun _=>rfl⟩,fun _ _=>rfl⟩ rfl;have hr:=a.right.same;have j:=o.same;have:w1={v1 with tape:=t}:=by rw[hr,j];dsimp only at hd⊢;rw[<-hh,show w1.drawn=v1.drawn by omega]
 rw[d,this]
def XZ(fr:aC):Prop:=∃c,fr.mode=.panicking c
def Last(cs0:List aC)(g1:dD):Prop:=∀b cs,cs0=cs++[b]->(∃cs',g1.callers=cs'++[b])\/(g1.callers=[]/\(g1.frame=b\/(∃x,g1.frame=b.finish x) \/ ∃vs,g1.frame=b.raise vs))
theorem Ju{g1}:Last g1.callers g1:=fun b cs h=>.inl ⟨cs,h⟩
theorem abE{cs0 g1 fr}(h:g1.callers=fr::cs0):Last cs0 g1:=fun b cs e=>.inl ⟨fr::cs,by rw[h,e];rfl⟩
theorem Ot{cs0 g1 c}(h:cs0=c::g1.callers)(hf:g1.frame=c\/(∃x,g1.frame=c.finish x) \/ ∃a,g1.frame=c.raise a):Last cs0 g1:=fun b cs e=>by
 cases cs with
 |nil=>
 rw[h] at e;simp[List.nil_append,Gw] at e;obtain⟨rfl,e⟩:=e;exact .inr ⟨e,hf⟩
 |cons x cs=>
 rw[h] at e;simp[List.cons_append,Gw] at e;exact .inl ⟨cs,e.2⟩
structure ae8(P:aH)(S:aI->Prop)(cs0:List aC)(g1:dD)(v1:ay):Prop where
 last:Last cs0 g1
 nv:NV (kd P S) v1
 run:g1.status=.running
 dying:g1.dying=none
 callers:∀c∈g1.callers,aG P S c
 defers:∀d∈g1.frame.defers,xN d
 frame:aG P S g1.frame\/XZ g1.frame
def Out(P:aH)(S:aI->Prop)(cs0:List aC):GStep->Prop
|.go g1 v1 _=>ae8 P S cs0 g1 v1
|.ended ..=>True
|_=>False
theorem Out.after{cs0 es st}(h:Out P S cs0 st):Out P S cs0 (GStep.after es st):=by cases st<;>exact h
theorem X0{cs0 fr cs v1 es}(a:Last cs0 {frame:=fr,callers:=cs,status:=.running,dying:=none})(hn:NV (kd P S) v1)(h1:aG P S fr)(hcs:∀c∈cs,aG P S c):Out P S cs0 (.go {frame:=fr,callers:=cs,status:=.running,dying:=none} v1 es):=⟨a,hn,rfl,rfl,hcs,h1.defers,.inl h1⟩
theorem wJ{fr cs v1 es}(hn:NV (kd P S) v1)(h1:aG P S fr)(hcs:∀c∈cs,aG P S c):Out P S cs (.go {frame:=fr,callers:=cs,status:=.running,dying:=none} v1 es):=⟨Ju (g1:={frame:=fr,callers:=cs,status:=.running,dying:=none}),hn,rfl,rfl,hcs,h1.defers,.inl h1⟩
theorem VV{fr fr' cs v1 es}(hn:NV (kd P S) v1)(h1:aG P S fr')(a:aG P S fr)(hcs:∀c∈cs,aG P S c):Out P S cs (.go {frame:=fr',callers:=fr::cs,status:=.running,dying:=none} v1 es):=X0 (abE rfl) hn h1 fun c hc=>by
 rcases dW.1 hc with rfl|hc
 .exact a
 exact hcs c hc
theorem AB(fr:aC)(a):(fr.raise a).defers=fr.defers:=by unfold Frame.raise;split<;>rfl
theorem zy(fr:aC)(a):XZ (fr.raise a):=by
 unfold Frame.raise;split
 .exact⟨_,rfl⟩
 exact⟨_,rfl⟩
theorem TA{cs0}{fr:aC}{cs v1 es}(a)(e:Last cs0 {frame:=fr.raise a,callers:=cs,status:=.running,dying:=none})(hn:NV (kd P S) v1)(b:∀d∈fr.defers,xN d)(hcs:∀c∈cs,aG P S c):Out P S cs0 (.go {frame:=fr.raise a,callers:=cs,status:=.running,dying:=none} v1 es):=⟨e,hn,rfl,rfl,hcs,fun d hd=>b d (by rw[<-AB fr a];exact hd),.inr (zy fr a)⟩
theorem QV{fr:aC}{cs v1 es}(hn:NV (kd P S) v1)(b:∀d∈fr.defers,xN d)(hcs:∀c∈cs,aG P S c)(a):Out P S cs (.go {frame:=fr.raise a,callers:=cs,status:=.running,dying:=none} v1 es):=⟨Ju (g1:={frame:=fr.raise a,callers:=cs,status:=.running,dying:=none}),hn,rfl,rfl,hcs,fun d hd=>b d (by rw[<-AB fr a];exact hd),.inr (zy fr a)⟩
theorem RY{fr cs s s' v w}(h:eF P f (kd P S) (kR f (kd P S)) s s' v w)(hS:mM P S)(b:aG P S fr)(hcs:∀c∈cs,aG P S c):Out P S cs (stepG.apply P true fr cs none s v):=by
 unfold stepG.apply;generalize hrun:s.runT P v #[]=r;have⟨r,k⟩:=r;refine Out.after ?_;cases r with
 |halt x v2=>
  have⟨i,hn⟩:=h.noInit _ _ _ _ hrun;cases x with
  |panic v=>exact QV hn b.defers hcs _
  |unsupported u=>
   cases u with
   |initOrder g=>exact absurd rfl (i.1 g)
   |_=>trivial
  |stuck s=>trivial
  |_=>cases i.2
 |ok a v2=>
  have⟨_,hn,b0,_,hok,e⟩:=h.size _ _ _ _ hrun;cases a with
  |value x=>exact wJ hn (b.finish x) hcs
  |skip=>exact wJ hn (b.finish undef) hcs
  |enter g as=>
  dsimp only;split
  .rename_i j;exact(ZT b j).elim
  exact VV hn (Bg hS e as (.inl rfl)) b hcs
  |round l g tmps as body=>exact VV hn (Nr e.1 e.2 (.inl rfl)) b hcs
  |defer d=>exact e.elim
  |_=>cases hok
end
section
variable[Mps][jE]{P:aH}{S:aI->Prop}{K:Kd}
theorem lX:yZ (id):=fun _ _ h=>h
theorem FQ:Fix P (id):=fun _ _=>rfl
theorem Z7{c:Prop}[Decidable c]{cs0 a b}(ha:Out P S cs0 a)(hb:Out P S cs0 b):Out P S cs0 (if c then a else b):=by
 split
 .exact ha
 exact hb
theorem Fh{m fr c cs v}(x)(hn:NV (kd P S) v)(f:aG P S fr)(hcs:∀c'∈c::cs,aG P S c'):Out P S (c::cs) (doReturn P m fr (c::cs) none x v):=by
 have b:=hcs c (fZ ..);have a:∀x∈cs,aG P S x:=fun x hx=>hcs x (jy _ hx);unfold doReturn;dsimp only;rcases f.kind with h|h
 .rw[h];exact X0 (Ot rfl (.inr (.inl ⟨x,rfl⟩))) hn (b.finish x) a
 rw[h];have key:∀c',c'=c->Out P S _ (.go {frame:=c',callers:=cs,status:=.running,dying:=none} v):=fun c' e=>by subst e;exact X0 (Ot rfl (.inl rfl)) hn b a
 refine key _ ?_;have hm:=b.mode;split
 .rename_i d;rw[d] at hm;exact hm.elim
 rfl
theorem QG{fr cs v r ds}(hn:NV (kd P S) v)(hcs:∀c∈cs,aG P S c)(hdef:∀x∈ds,xN x)
  (b:(∀ds,(∀d∈ds,xN d)->aG P S {fr with defers:=ds})\/XZ fr) :
  Out P S cs (let (r,es):=(Instr.takeDeferred r).runT P v #[]
   GStep.after (seen P fr.fn es) <| match r with
   |.ok calls w=>.go {frame:={fr with defers:=calls++ds},callers:=cs,status:=.running,dying:=none} w
   |.halt _ w=>.ended (.stuck "the deferred calls of a range-over-func loop have been taken" (fr.pos P)) w):=by
 have h:=eF.of (CS (P:=P) r) lX (jl hn);generalize hrun:(Instr.takeDeferred r).runT P v #[]=z;have⟨z,g⟩:=z;refine Out.after ?_;cases z with
 |halt x v2=>trivial
 |ok calls v2=>
 have⟨_,f,b0,_,hk⟩:=h.size _ _ _ _ hrun;have e:∀d∈calls++ds,xN d:=fun x hx=>by
  rcases pY.1 hx with hx|hx
  .exact(hk x hx).elim
  exact hdef x hx
 refine⟨Ju (g1:={frame:={fr with defers:=calls++ds},callers:=cs,status:=.running,dying:=none}),f,rfl,rfl,hcs,e,?_⟩;rcases b with b|b
 .exact .inl (b _ e)
 exact .inr b
theorem Xz{m fr c cs v}(hn:NV (kd P S) v)(a:aG P S fr)(hcs:∀c'∈c::cs,aG P S c'):Out P S (c::cs) (unwind P m fr (c::cs) none v):=by
 unfold unwind;cases hd:fr.defers with
 |cons d ds=>
  have hdef:∀x∈ds,xN x:=fun x hx=>a.defers x (by rw[hd];exact jy _ hx);rcases a.defers d (by rw[hd];exact fZ ..) with rfl|⟨r,hr⟩
  .obtain⟨o,es,e⟩:=jv P {fr with defers:=ds} _ none v
   show Out P S _ (callDeferred P {fr with defers:=ds} _ none jI v);rw[e];trivial
  obtain⟨t,as⟩:=d;cases hr;exact QG hn hcs hdef (.inl fun ds h=>⟨a.items,h,a.mode,a.kind⟩)
 |nil=>
  dsimp only;have hm:=a.mode;cases f:fr.mode with
  |panicking ch=>rw[f] at hm;exact hm.elim
  |run=>trivial
  |returning=>
   dsimp only;cases hfn:P.funcs[fr.fn]? with
   |none=>exact Fh _ hn a hcs
   |some fn=>
    dsimp only;have h:=eF.of (zA (P:=P) fn fr.tmps) lX (jl hn);generalize hrun:(results fn fr.tmps).runT P v #[]=z;obtain⟨z,g⟩:=z;refine Out.after ?_;cases z with
    |halt x v2=>cases x<;>trivial
    |ok x v2=>
    obtain⟨_,b,_⟩:=h.size _ _ _ _ hrun;exact Fh x b a hcs
def Xo(P:aH)(S:aI->Prop)(cs0:List aC):GStep->Prop
|.go g1 v1 _=>ae8 P S cs0 g1 v1/\XZ g1.frame
|.ended ..=>True
|_=>False
theorem Xo.after{cs0 es st}(h:Xo P S cs0 st):Xo P S cs0 (GStep.after es st):=by cases st<;>exact h
theorem af0{m fr cs v}(hn:NV (kd P S) v)(hp:XZ fr)(hdef:∀d∈fr.defers,xN d)(hcs:∀c∈cs,aG P S c)(hb:cs≠[]\/fr.defers≠[]):Xo P S cs (unwind P m fr cs none v):=by
 have⟨ch,hm⟩:=hp;unfold unwind;cases hd:fr.defers with
 |cons d ds=>
  have a:∀x∈ds,xN x:=fun x hx=>hdef x (by rw[hd];exact jy _ hx);rcases hdef d (by rw[hd];exact fZ ..) with rfl|⟨r,hr⟩
  .have⟨o,es,e⟩:=jv P {fr with defers:=ds} cs none v;show Xo P S cs (callDeferred P {fr with defers:=ds} cs none jI v);rw[e]
   trivial
  have⟨t,as⟩:=d;cases hr;have h:=QG (r:=r) hn hcs a (.inr ⟨ch,hm⟩);revert h;dsimp only;generalize (Instr.takeDeferred r).runT P v #[]=z;have⟨z,b⟩:=z;cases z with
  |halt x v2=>exact fun _=>Xo.after trivial
  |ok calls v2=>exact fun h=>Xo.after ⟨h,ch,hm⟩
 |nil=>
  dsimp only;rw[hm];dsimp only;split
  .trivial
  cases cs with
  |nil=>rcases hb with h|h<;>exact absurd (by first|rfl|exact hd) h
  |cons c rest=>exact⟨TA (es:=#[]) _ (Ot rfl (.inr (.inr ⟨_,rfl⟩))) hn (hcs c (fZ ..)).defers (fun x hx=>hcs x (jy _ hx)),zy _ _⟩
theorem abD{m fr c0 cs v}(hn:NV (kd P S) v)(b:aG P S fr)(hcs:∀c∈c0::cs,aG P S c)(ro:aB Nat)(jump)(hj:∀c,jump=some c->jB P S c)(d:String) :
  Out P S (c0::cs)
   (match ro with
   |none=>if (match jump with|none|some .ret=>true|_=>false)=true then GStep.go {frame:={fr with mode:=.returning},callers:=c0::cs,status:=.running,dying:=none} v else .ended (.stuck d (fr.pos P)) v
   |some l=>
    let (r,es):=(Instr.endRound l jump).runT P v #[]
    GStep.after (seen P fr.fn es) <| match r with
    |.ok x w=>doReturn P m fr (c0::cs) none x w
    |.halt _ w=>.ended (.stuck "range over a function: no such loop" (fr.pos P)) w):=by
 cases ro with
 |none=>exact Z7 (wJ hn ⟨b.items,b.defers,trivial,b.kind⟩ hcs) trivial
 |some l=>
  dsimp only;have h:=eF.of (NG (P:=P) (f:=id) (K:=kd P S) l jump hj) lX (jl hn);generalize hrun:(Instr.endRound l jump).runT P v #[]=z;have⟨z,g⟩:=z;refine Out.after ?_;cases z with
  |halt x v2=>trivial
  |ok x v2=>
  have⟨_,e,_⟩:=h.size _ _ _ _ hrun;exact Fh x e b hcs
theorem aen(W:bz P){m fr c0 cs v}(hn:NV (kd P S) v)(hS:mM P S)(e:aG P S fr)(hcs:∀c∈c0::cs,aG P S c)(hm:fr.mode=.run)(hns:yD fr)(hl:∀g,fr.about P v=some g->S g):Out P S (c0::cs) (stepG.exec P m true fr (c0::cs) none v):=by
 have hs:=jl hn;have t:=fun jump hj G=>abD (m:=m) hn e hcs fr.roundOf jump hj G;have hi:=e.items;have p:∀{k:List ig},(∀i∈k,iy P S i)->Out P S _ (.go {frame:={fr with todo:=k},callers:=c0::cs,status:=.running,dying:=none} v):=fun{k} hk=>wJ hn (e.to hk) hcs;have D:∀{s s':Sem Next},eF P id _ _ s s' v v->Out P S _ _:=fun h=>RY h hS e hcs;have L:Out P S _ (.go {frame:=fr.finish undef,callers:=c0::cs,status:=.running,dying:=none} v):=wJ hn (e.finish undef) hcs;have⟨u,tmps,todo,defers,md,kind,ro⟩:=fr;cases todo with
 |nil=>unfold stepG.exec;exact t none (fun c h=>by cases h) _
 |cons i k=>
  have w:iy P S i:=hi i (fZ ..);have hk:∀j∈k,iy P S j:=fun j hj=>hi j (jy _ hj);have C:∀j,iy P S j->∀x∈j::k,iy P S x:=fun j hj x hx=>by
   rcases dW.1 hx with rfl|hx
   .exact hj
   exact hk x hx
  have B:∀j j',iy P S j->iy P S j'->∀x∈j::j'::k,iy P S x:=fun j j' hj R x hx=>by
   rcases dW.1 hx with rfl|hx
   .exact hj
   exact C j' R x hx
  unfold stepG.exec;cases i with
  |code X=>
   have q:qM P S X:=w;cases X with
   |ret=>exact t (some .ret) (fun c h=>by cases h;trivial) _
   |skip=>exact p hk
   |label l=>exact p hk
   |seq a b=>exact p (k:=.code a::.code b::k) (B _ _ q.1 q.2)
   |cond x thn els=>
    dsimp only;generalize Frame.eval _ x=z;cases z with
    |bool b=>exact p (k:=.code _::k) (C _ (by cases b;exact q.2.2;exact q.2.1))
    |_=>trivial
   |block id body=>exact p (k:=.code body::.inBlock id::k) (B _ _ q trivial)
   |loop body=>exact p (k:=.code body::.inLoop body::k) (B _ _ q q)
   |scope body=>exact p (k:=.code body::.inScope body::k) (B _ _ q q)
   |exit id=>
    dsimp only;cases he:exitTo id k with
    |none=>exact t (some (.exit id)) (fun c h=>by cases h;trivial) _
    |some k'=>exact p (Ep hk he)
   |goto l=>
    dsimp only;cases he:gotoIn l k with
    |none=>exact t (some (.goto l)) (fun c h=>by cases h;trivial) _
    |some k'=>exact p (Ej hk he)
   |rangeFunc x ps a b=>
    have h:=eF.of (CW (P:=P) (f:=id) (K:=kd P S) u tmps ps a b q.2.1 q.2.2 ro) lX hs;dsimp only;generalize hrun:(Instr.enterLoop u tmps ps a b ro).runT P v #[]=z;have⟨z,M⟩:=z;refine Out.after ?_;cases z with
    |halt y v2=>trivial
    |ok y v2=>
    have⟨l,mark⟩:=y;have⟨_,N,b0,_,O⟩:=h.size _ _ _ _ hrun;have F:(Instr.enterLoop u tmps ps a b ro).run P v=.ok (l,mark) v2:=by rw[<-mf P _ v #[],hrun]
    have J:aG P S ⟨u,tmps,.inRangeFunc l::k,mark++defers,md,kind,ro⟩:=⟨C _ trivial,fun d hd=>by
     rcases pY.1 hd with hd|hd
     .exact .inr (O d hd)
     exact e.defers d hd,e.mode,e.kind⟩
    exact RY (DY (fr:=⟨u,tmps,.inRangeFunc l::k,mark++defers,md,kind,ro⟩) lX FQ W (jl N) hS q.1 (fun _ _=>lL _) l (fun d g h1 h2=>hl g (by cases hm;have V:resolve (Frame.eval ⟨u,tmps,.code (.rangeFunc x ps a b)::k,defers,.run,kind,ro⟩) {callee:=.value x,args:=#[.const _],argTypes:=#[]} 0=pure d:=h1;simp[Frame.about,F];rw[V];exact h2))) hS J hcs
   |refuse G=>trivial
   |region E ops draw=>
    cases draw with
    |false=>exact p (k:=.inRegion ops _::k) (C _ q)
    |true=>
     have h:=eF.of (qj (P:=P) (f:=id) (K:=kd P S) (.order u E)) lX hs;have Z:=mf P (choose (.order u E)) v #[];dsimp only;simp only[UZ,tY,BF];rw[<-Z];generalize hrun:(choose (.order u E)).runT P v #[]=z;have⟨z,M⟩:=z;cases z with
     |halt x v2=>trivial
     |ok n v2=>
     have⟨_,A,_⟩:=h.size _ _ _ _ hrun;exact wJ A ⟨C (.inRegion ops _) q,e.defers,e.mode,e.kind⟩ hcs
  |inBlock id=>exact p hk
  |inScope body=>exact p hk
  |inLoop body=>exact p (k:=.code body::.inLoop body::k) (B _ _ w w)
  |inRangeFunc l=>trivial
  |beginRound=>
   cases ro with
   |none=>exact D (s':=(stuck "" : Sem Next)) (.dies hs (Dies.bind (dO _) _))
   |some l=>exact D (.of (Fq (AP l)) lX hs)
  |endRangeFunc l=>
   have h:=eF.of (Jd (P:=P) (f:=id) (K:=kd P S) l) lX hs;dsimp only;generalize hrun:(Instr.endLoop l).runT P v #[]=z;have⟨z,M⟩:=z;refine Out.after ?_;cases z with
   |halt x v2=>have⟨_,A⟩:=h.noInit _ _ _ _ hrun;cases x<;>first|trivial|exact QV A e.defers hcs _
   |ok jump v2=>
    have⟨_,A,b0,_,Q⟩:=h.size _ _ _ _ hrun;refine wJ A ⟨fun i T=>?_,e.defers,e.mode,e.kind⟩ hcs;rcases pY.1 T with h1|h1
    .cases jump with
     |none=>cases h1
     |some c1=>obtain rfl:=eY.1 h1;exact jB.loose (Q c1 rfl)
    exact hk i h1
  |call d a r s=>exact w.elim
  |extern r s=>exact w.elim
  |inRegion ops todo=>
   cases todo with
   |nil=>exact p hk
   |cons j rest=>
    refine Z7 ?_ L;unfold stepG.oper;dsimp only[Frame.oper?];cases ho:ops[j]? with
    |none=>trivial
    |some o=>
    have H:pG P S o:=(w o (kP ho)).resolve_right (hns hm _ _ _ _ _ rfl ho);have hrun:=vY (fr:=⟨u,tmps,.inRegion ops (j::rest)::k,defers,md,kind,ro⟩) lX FQ W hs hS H (fun _ _=>lL _) (fun c d g h1 h2 Y=>hl g (by cases hm;simp only[Frame.about,ho,h1];rw[h2];exact Y))
    have I:=D hrun;dsimp only;split
    .rename_i l c1 U;have:=H.1;rw[U] at this;exact this.elim
    exact I
theorem aaW(d:bz P)(hS:mM P S){m g v}(hn:NV (kd P S) v)(hg:SB P S g)(hb:g.callers≠[])(hns:yD g.frame)(hl:∀x,g.frame.about P v=some x->S x):Out P S g.callers (stepG P m g v):=by
 have⟨fr,callers,status,dying,offers⟩:=g;have⟨a,hcs,hd⟩:=hg;cases hd;cases callers with
 |nil=>exact absurd rfl hb
 |cons c cs=>
  unfold stepG;dsimp only;have b:=a.mode;cases hm:fr.mode with
  |run=>exact aen d hn hS a hcs hm hns hl
  |returning=>exact Xz hn a hcs
  |panicking ch=>rw[hm] at b;exact b.elim
theorem aaV{m g v}(hn:NV (kd P S) v)(hd:g.dying=none)(hp:XZ g.frame)(hdef:∀d∈g.frame.defers,xN d)(hcs:∀c∈g.callers,aG P S c)(hb:g.callers≠[]\/g.frame.defers≠[]):Xo P S g.callers (stepG P m g v):=by have⟨fr,callers,status,dying,offers⟩:=g;cases hd;have⟨ch,hm⟩:=hp;unfold stepG;dsimp only at hm⊢;simp[hm];exact af0 hn ⟨ch,hm⟩ hdef hcs hb
end
end Go.Ren
