import Derived.RunT
import GoSem.ClaimFollow
import Derived.Test.YthhhncgnnnhkmaaGreatA04
set_option linter.all false
namespace Go.Ren
section
variable[Mps][Fr][Ext][Spc]{P:Program}{f:Nat→Nat}{S:FuncId→Prop}{K:Kd}
structure RunRel(P:Program)(f:Nat→Nat)(K:Kd){α β:Type}(Q:α→β→Prop)(s:Sem α)(s':Sem β)(v w:World):Prop where
 ok:∀(es:Array Event) (a:α) (v1:World) (es1:Array Event),(∀e∈es,EvOK v e)→s.runT P v es=(.ok a v1,es1)→Fresh f v v1 w →
  ∃b w1,s'.runT P w (es.map (event f))=(.ok b w1,es1.map (event f))∧Q a b∧Over f K v w v1 w1∧(∀e∈es1,EvOK v1 e)
 size:∀(es:Array Event) (a:α) (v1:World) (es1:Array Event),s.runT P v es=(.ok a v1,es1)→Le v v1∧NV K v1∧∃b,Q a b
 noInit:∀(es:Array Event) (h:Halt) (v1:World) (es1:Array Event),s.runT P v es=(.halt h v1,es1)→NoInit h∧NV K v1
theorem RunRel.of{α β:Type}{Q:α→β→Prop}{s:Sem α}{s':Sem β}{v w:World}(h:SRel P f K Q s s')(hf:Inj f)(hs:Sim f K v w):RunRel P f K Q s s' v w:=
 ⟨fun _ _ _ _ hes hr hfr=>h.runT hf hs hes hr hfr,fun _ _ _ _ hr=>h.left hs.nv hr,fun _ _ _ _ hr=>h.noInit hs.nv hr⟩
theorem RunRel.bind{α β γ δ:Type}{Q:α→β→Prop}{Q':γ→δ→Prop}{s:Sem α}{s':Sem β}{g:α→Sem γ}{g':β→Sem δ}{v w:World}(h:SRel P f K Q s s')(hf:Inj f)(hs:Sim f K v w)(hg:∀a b v1,Q a b→s.run P v=.ok a v1→SRel P f K Q' (g a) (g' b)):RunRel P f K Q' (s >>= g) (s' >>= g') v w:=by
 refine⟨fun es c v2 es2 hes hr hfr=>?_,fun es c v2 es2 hr=>?_,fun es x v2 es2 hr=>?_⟩
 .rw[show(s >>= g)=s.bind g from rfl,runT_bind] at hr
  generalize hr1:s.runT P v es=r at hr
  obtain⟨r,es1⟩:=r
  cases r with
  |halt h w=>simp at hr
  |ok a v1=>
   simp only at hr
   have hrun:s.run P v=.ok a v1:=by rw[←Sem.runT_fst P s v es,hr1]
   have hsz1:=h.size hs.nv hr1
   obtain⟨_,hnv,b0,hb0⟩:=h.left hs.nv hr1
   have hsz2:=(hg a b0 v1 hb0 hrun).size hnv hr
   have hfr1:Fresh f v v1 w:=hfr.left hsz1 hsz2
   obtain⟨b,w1,h2,h3,h4,h5⟩:=h.runT hf hs hes hr1 hfr1
   obtain⟨d,w2,h6,h7,h8,h9⟩:=(hg a b v1 h3 hrun).runT hf h4.sim h5 hr (hfr.right h4 hsz2)
   refine⟨d,w2,?_,h7,h4.trans h8 hfr,h9⟩
   rw[show(s' >>= g')=s'.bind g' from rfl,runT_bind,h2]
   exact h6
 .rw[show(s >>= g)=s.bind g from rfl,runT_bind] at hr
  generalize hr1:s.runT P v es=r at hr
  obtain⟨r,es1⟩:=r
  cases r with
  |halt h w=>simp at hr
  |ok a v1=>
   simp only at hr
   have hrun:s.run P v=.ok a v1:=by rw[←Sem.runT_fst P s v es,hr1]
   have hsz1:=h.size hs.nv hr1
   obtain⟨_,hnv,b0,hb0⟩:=h.left hs.nv hr1
   obtain⟨hsz2,hnv2,hb2⟩:=(hg a b0 v1 hb0 hrun).left hnv hr
   exact⟨hsz1.trans hsz2,hnv2,hb2⟩
 .rw[show(s >>= g)=s.bind g from rfl,runT_bind] at hr
  generalize hr1:s.runT P v es=r at hr
  obtain⟨r,es1⟩:=r
  cases r with
  |halt h' w=>
   simp only[Prod.mk.injEq,Result.halt.injEq] at hr
   obtain⟨⟨rfl,rfl⟩,_⟩:=hr
   exact h.noInit hs.nv hr1
  |ok a v1=>
   simp only at hr
   have hrun:s.run P v=.ok a v1:=by rw[←Sem.runT_fst P s v es,hr1]
   obtain⟨_,hnv,b0,hb0⟩:=h.left hs.nv hr1
   exact(hg a b0 v1 hb0 hrun).noInit hnv hr
theorem RunRel.dies{α β:Type}{Q:α→β→Prop}{s:Sem α}{s':Sem β}{v w:World}(hs:Sim f K v w)(h:Dies P K s):RunRel P f K Q s s' v w:=
 ⟨fun es _ _ _ _ hr _=>by obtain⟨_,_,_,h1,_⟩:=h v es hs.nv;rw[h1] at hr;simp at hr,
  fun es _ _ _ hr=>by obtain⟨_,_,_,h1,_⟩:=h v es hs.nv;rw[h1] at hr;simp at hr,
  fun es _ _ _ hr=>by obtain⟨_,_,_,h1,h2⟩:=h v es hs.nv;rw[h1] at hr;simp only[Prod.mk.injEq,Result.halt.injEq] at hr;exact⟨hr.1.1▸h2.1,hr.1.2▸h2.2⟩⟩
theorem RunRel.congr{α β:Type}{Q:α→β→Prop}{s t:Sem α}{s' t':Sem β}{v w:World}(h:RunRel P f K Q s s' v w)(e:∀v es,t.runT P v es=s.runT P v es)(e':∀v es,t'.runT P v es=s'.runT P v es):RunRel P f K Q t t' v w:=
 ⟨fun es a v1 es1 hes hr hfr=>by rw[e] at hr;rw[e'];exact h.ok es a v1 es1 hes hr hfr,fun es a v1 es1 hr=>by rw[e] at hr;exact h.size es a v1 es1 hr,fun es x v1 es1 hr=>by rw[e] at hr;exact h.noInit es x v1 es1 hr⟩
def TgtFix:Target→Prop
 |.fn (.method n) _|.fn (.methodOf _ n) _=>Fr.mid n=n
 |_=>True
theorem dies_callMethod{t:TypeId}(ht:P.types.size≤t)(x:Value)(name:String)(args:Array Value):Dies P K (callMethod (.iface t x) name args):=fun v es hv=>
 Dies.bind (dies_noMethod ht (P.types.size+Made.depth) x name) (fun r=>callFunc r.1 (#[r.2]++args)) v es hv
theorem run_callMethod(hz:ZeroOK P)(hf:Inj f){v w:World}(hs:Sim f K v w)(recv:Value)(name:String)(args:Array Value)(hl:∀t x g v1 r,recv=.iface t x→(method (P.types.size+Made.depth) t x name).run P v=.ok (g,r) v1→BodyOK P K g):RunRel P f K (ToNext f K) (callMethod recv name args) (callMethod (val f recv) name (vals f args)) v w:=by
 cases recv with
 |iface t x=>
  by_cases ht:t<tyTop
  case neg=>
   exact .dies hs (dies_callMethod (Nat.le_trans hz.types (Nat.not_lt.1 ht)) x name args)
  have h:=RunRel.bind (P:=P) (f:=f) (K:=K) (r_method hz (P.types.size+Made.depth) t x name) hf hs (Q':=ToNext f K) (g:=fun r=>callFunc r.1 (#[r.2]++args)) (g':=fun r=>callFunc r.1 (#[r.2]++vals f args))
   (fun a b v1 hab hrun=>by
    subst hab
    have:=r_callFunc (P:=P) (f:=f) (K:=K) (hl t x a.1 v1 a.2 rfl hrun) (#[a.2]++args)
    rw[vals_append'] at this
    simpa[vals] using this)
  simp only[val_iface,ifv_lt ht]
  exact h.congr (fun _ _=>rfl) (fun _ _=>rfl)
 |nilIface=>exact .dies hs (dies_runtimePanic .nilDeref)
 |_=>exact .dies hs (dies_stuck _)
theorem run_invoke(hf:Inj f)(hz:ZeroOK P){v w:World}(hs:Sim f K v w)(t:Target)(ht:TgtOK P t)(hm:TgtFix t)(args:Array Value)(hl:∀g,t.leads P v args=some g→BodyOK P K g):RunRel P f K (ToNext f K) (invoke t args) (invoke (target f t) (vals f args)) v w:=by
 cases t with
 |nil=>exact .of (r_invoke hz (t:=.nil) trivial args) hf hs
 |builtin b ts t cs=>exact .of (r_invoke hz (t:=.builtin b ts t cs) ht args) hf hs
 |collected r=>exact ht.elim
 |coroexit r=>exact ht.elim
 |fn g c=>
  cases g with
  |func g=>exact .of (r_invoke hz (t:=.fn (.func g) c) (hl g rfl) args) hf hs
  |via t path g p=>exact .of (r_invoke hz (t:=.fn (.via t path g p) c) (hl g rfl) args) hf hs
  |yield l=>exact .of (r_invoke hz (t:=.fn (.yield l) c) trivial args) hf hs
  |method name=>
   simp only[target,fn,invoke,vals_get?,show Fr.mid name=name from hm]
   cases h0:args[0]? with
   |none=>exact .dies hs (dies_stuck _)
   |some recv=>
    simp only[Option.map_some,vals_size]
    have:=run_callMethod (P:=P) (K:=K) hz hf hs recv name (args.extract 1 args.size) (fun t x g v1 r he hr=>hl g (by
     simp only[Target.leads,h0,he,hr]))
    rw[show vals f (args.extract 1 args.size)=(vals f args).extract 1 args.size by simp[vals,Array.map_extract]] at this
    exact this
  |methodOf u name=>
   simp only[target,fn,invoke,vals_get?,show Fr.mid name=name from hm]
   cases h0:args[0]? with
   |none=>exact .dies hs (dies_stuck _)
   |some recv=>
    simp only[Option.map_some,vals_size]
    have key:∀recv',(∀(t:TypeId) (x:Value) (g:FuncId) (v1:World) (r:Value),recv'=.iface t x→(method (P.types.size+Made.depth) t x name).run P v=.ok (g,r) v1→BodyOK P K g) →
      RunRel P f K (ToNext f K) (callMethod recv' name (args.extract 1 args.size)) (callMethod (val f recv') name ((vals f args).extract 1 args.size)) v w:=fun recv' h=>by
     have:=run_callMethod (P:=P) (K:=K) hz hf hs recv' name (args.extract 1 args.size) h
     rw[show vals f (args.extract 1 args.size)=(vals f args).extract 1 args.size by simp[vals,Array.map_extract]] at this
     exact this
    cases hu:P.underlying u with
    |none=>
     refine .dies hs (Dies.bind (s:=underlying u) ?_ _)
     intro v es hv
     have:Sem.runT P (underlying u) v es=Sem.runT P ((match P.underlying u with|some d=>pure d|none=>stuck "no such type" : Sem TypeDesc)) v es:=rfl
     rw[this,hu]
     exact dies_stuck _ v es hv
    |some d=>
     have hund:∀{α:Type} (g:TypeDesc→Sem α) (v:World) (es:Array Event),(underlying u >>= g).runT P v es=(g d).runT P v es:=fun g v es=>by
      show Sem.runT P (((match P.underlying u with|some d=>pure d|none=>stuck "no such type" : Sem TypeDesc)).bind g) v es=_
      rw[hu];rfl
     have hiface:∀e:(match d with|.interface _=>False|_=>True),RunRel P f K (ToNext f K) (callMethod (.iface u recv) name (args.extract 1 args.size)) (callMethod (val f (.iface u recv)) name ((vals f args).extract 1 args.size)) v w:=fun hne=>
      key _ fun t x g v2 r he hm=>hl g (by
       obtain⟨rfl,rfl⟩:u=t∧recv=x:=by cases he;exact⟨rfl,rfl⟩
       cases d<;>first|exact hne.elim|simp only[Target.leads,h0,Option.map_some,hu,hm])
     have hdie:¬u<tyTop→RunRel P f K (ToNext f K) (callMethod (.iface u recv) name (args.extract 1 args.size)) (callMethod (.iface u (val f recv)) name ((vals f args).extract 1 args.size)) v w:=fun ht=>
      .dies hs (dies_callMethod (Nat.le_trans hz.types (Nat.not_lt.1 ht)) recv name _)
     have hup:u<tyTop→val f (.iface u recv)=.iface u (val f recv):=fun ht=>by rw[val_iface,ifv_lt ht]
     cases d<;>first
      |exact(key recv fun t x g v2 r he hm=>hl g (by subst he;simp only[Target.leads,h0,Option.map_some,hu,hm])).congr (hund _) (hund _)
      |exact(if ht:u<tyTop then hup ht▸hiface trivial else hdie ht:RunRel P f K (ToNext f K) (callMethod (.iface u recv) name (args.extract 1 args.size)) (callMethod (.iface u (val f recv)) name ((vals f args).extract 1 args.size)) v w).congr (hund _) (hund _)
end
section
variable[Mps][Fr][Ext][Spc]{P:Program}{f:Nat→Nat}{S:FuncId→Prop}{B:List Frame}
def kd(P:Program)(S:FuncId→Prop):Kd:={code:=CodeOK P S,tgt:=fun _=>False,fn:=S}
def SOK(P:Program)(S:FuncId→Prop):Prop:=
 (∀g,S g→Fr.fid g=g)∧∀g,S g→∃fn body,P.funcs[g]?=some fn∧fn.body=some body∧(fn.name == "runtime.NumGoroutine")=false∧CodeOK P S body
theorem SOK.body(h:SOK P S){g:FuncId}(hg:S g):BodyOK P (kd P S) g:=by
 obtain⟨fn,body,h1,h2,h3,_⟩:=h.2 g hg
 exact⟨hg,h.1 g hg,fn,h1,by rw[h2];rfl,h3⟩
def notPanicking:FrameMode→Prop
 |.panicking _=>False
 |_=>True
def stuckDef:Deferred:={target:=.builtin .min #[] 0 #[],args:=#[]}
def DefOK(d:Deferred):Prop:=d=stuckDef ∨ ∃r,d.target=.collected r
theorem callDeferred_stuck(P:Program)(fr:Frame)(cs:List Frame)(dy:Option Dying)(v:World):∃o es,callDeferred P fr cs dy stuckDef v=.ended o v es:=by
 unfold callDeferred
 rw[if_neg (by simp[stuckDef])]
 have e:(invoke stuckDef.target stuckDef.args).runT P v #[]=(.halt (.stuck "min") v,#[]) ∨ ∃s,(invoke stuckDef.target stuckDef.args).runT P v #[]=(.halt (.stuck s) v,#[]):=.inr ⟨_,rfl⟩
 rcases e with e|⟨s,e⟩<;>rw[e]<;>exact⟨_,_,rfl⟩
structure FrameGood(P:Program)(S:FuncId→Prop)(fr:Frame):Prop where
 items:FrameOK P S fr
 defers:∀d∈fr.defers,DefOK d
 mode:notPanicking fr.mode
 kind:fr.kind=.normal∨fr.kind=.deferred
structure GOK(P:Program)(S:FuncId→Prop)(g:Goroutine):Prop where
 frame:FrameGood P S g.frame
 callers:∀c∈g.callers,FrameGood P S c
 dying:g.dying=none
structure Smooth(g:Goroutine):Prop where
 dying:g.dying=none
 status:g.status=.running∨g.status=.finished
 mode:notPanicking g.frame.mode
theorem FrameGood.finish{fr:Frame}(h:FrameGood P S fr)(v:Value):FrameGood P S (fr.finish v):=by
 have hi:=h.items
 unfold Frame.finish
 cases hT:fr.todo with
 |nil=>exact h
 |cons i k=>
  have hi0:ItemOK P S i:=hi i (by rw[hT];exact List.mem_cons_self ..)
  have hk:∀j∈k,ItemOK P S j:=fun j hj=>hi j (by rw[hT];exact List.mem_cons_of_mem _ hj)
  cases i with
  |inRegion ops todo=>
   cases todo with
   |nil=>exact h
   |cons j rest=>
    refine⟨fun x hx=>?_,h.defers,h.mode,h.kind⟩
    rcases List.mem_cons.1 hx with rfl|hx
    .exact hi0
    .exact hk x hx
  |inRangeFunc l=>
   refine⟨fun x hx=>?_,h.defers,h.mode,h.kind⟩
   rcases List.mem_cons.1 hx with rfl|hx
   .trivial
   .exact hk x hx
  |beginRound=>exact⟨hk,h.defers,h.mode,h.kind⟩
  |call d w r s=>exact hi0.elim
  |extern r as=>exact hi0.elim
  |_=>exact h
theorem enter_frame(f:Nat→Nat)(g:FuncId)(args:Array Value)(k:CallKind):frame f (Frame.enter P g args k)=Frame.enter P g (vals f args) k:=by
 unfold Frame.enter frame
 simp[mode,item,undef_closed,vals]
theorem enter_good(hS:SOK P S){g:FuncId}(hg:S g)(args:Array Value){k:CallKind}(hk:k=.normal∨k=.deferred):FrameGood P S (Frame.enter P g args k):=by
 obtain⟨fn,body,h1,h2,_,h4⟩:=hS.2 g hg
 refine⟨fun i hi=>?_,fun d hd=>?_,trivial,hk⟩
 .simp[Frame.enter,h1,h2] at hi
  subst hi
  exact h4.loose
 .simp[Frame.enter] at hd
theorem round_good{l:Nat}{g:FuncId}{tmps:Array Value}{as body:Code}(ha:CodeOK P S as)(hb:CodeOK P S body){k:CallKind}(hk:k=.normal∨k=.deferred):FrameGood P S (Frame.round l g tmps as body k):=by
 refine⟨fun i hi=>?_,fun d hd=>?_,trivial,hk⟩
 .simp[Frame.round] at hi
  rcases hi with rfl|rfl|rfl
  .exact ha.loose
  .trivial
  .exact hb.loose
 .simp[Frame.round] at hd
def stk(f:Nat→Nat)(B:List Frame):List Frame→List Frame
 |[]=>[]
 |[_]=>B
 |c::c'::cs=>frame f c::stk f B (c'::cs)
theorem stk_cons{c:Frame}{cs:List Frame}(h:cs≠[]):stk f B (c::cs)=frame f c::stk f B cs:=by
 cases cs with
 |nil=>exact absurd rfl h
 |cons c' cs=>rfl
def gorS(f:Nat→Nat)(B:List Frame)(g:Goroutine):Goroutine:={gor f g with callers:=stk f B g.callers}
def Stepped'(P:Program)(f:Nat→Nat)(S:FuncId→Prop)(B:List Frame)(v w:World)(st true_:GStep):Prop:=
 match st with
 |.go g1 v1 es=>Smooth g1→Le v v1∧(g1.callers≠[]→Fresh f v v1 w→∃w1,true_=.go (gorS f B g1) w1 (es.map (event f))∧Over f (kd P S) v w v1 w1∧(∀e∈es,EvOK v1 e)∧GOK P S g1)
 |.ended ..=>True
 |_=>False
theorem seen_sub(P:Program)(g:FuncId){es:Array Event}{p:Event→Prop}(h:∀e∈es,p e):∀e∈seen P g es,p e:=by
 unfold seen
 dsimp only
 rw[←Array.foldl_toList]
 generalize (P.funcs[g]?).any (·.norace)=q0
 have key:∀(l:List Event) (q:Bool) (kept:Array Event),(∀e∈l,p e)→(∀e∈kept,p e) →
   ∀e∈(l.foldl (fun(x:Bool×Array Event) e=>match e.loc with|.mark (.extern h)=>((P.funcs[h]?).any (·.norace),x.2)|_=>(x.1,if x.1 && !e.sync then x.2 else x.2.push e)) (q,kept)).2,p e:=by
  intro l
  induction l with
  |nil=>intro q kept _ hk;exact hk
  |cons a l ih=>
   intro q kept hl hk
   simp only[List.foldl_cons]
   have ha:=hl a (List.mem_cons_self ..)
   have hl':∀e∈l,p e:=fun e he=>hl e (List.mem_cons_of_mem _ he)
   split
   .exact ih _ _ hl' hk
   .refine ih _ _ hl' ?_
    split
    .exact hk
    .exact mem_push hk ha
 exact key es.toList q0 #[] (fun e he=>h e (Array.mem_toList_iff.1 he)) (fun e he=>by simp at he)
def Vac:GStep→Prop
 |.go g _ _=>¬Smooth g
 |.ended ..=>True
 |_=>False
theorem Vac.stepped{v w:World}{st st':GStep}(h:Vac st):Stepped' P f S B v w st st':=by
 cases st<;>first|trivial|exact fun hs=>(h hs).elim|exact h.elim
theorem Vac.after{es:Array Event}{st:GStep}(h:Vac st):Vac (GStep.after es st):=by cases st<;>exact h
def Sized(v:World):GStep→Prop
 |.go g v1 _=>Smooth g→Le v v1
 |.ended ..=>True
 |_=>False
theorem Vac.sized{v:World}{st:GStep}(h:Vac st):Sized v st:=by
 cases st<;>first|trivial|exact fun hs=>(h hs).elim|exact h.elim
theorem Sized.after{v:World}{es:Array Event}{st:GStep}(h:Sized v st):Sized v (GStep.after es st):=by cases st<;>exact h
theorem ok_step{α β:Type}{Q:α→β→Prop}{s:Sem α}{s':Sem β}{v w v1:World}{a:α}{es:Array Event}{fn:FuncId}{st true_:GStep}(h:RunRel P f (kd P S) Q s s' v w)(hr:s.runT P v #[]=(.ok a v1,es))(hst:Sized v1 st)(H:∀b w1,Q a b→s'.runT P w #[]=(.ok b w1,es.map (event f))→Over f (kd P S) v w v1 w1→∃st',true_=GStep.after ((seen P fn es).map (event f)) st'∧Stepped' P f S B v1 w1 st st'):Stepped' P f S B v w (GStep.after (seen P fn es) st) true_:=by
 have hsz:=(h.size _ _ _ _ hr).1
 cases st with
 |go g1 v2 es2=>
  intro hsm
  have hl:Le v1 v2:=hst hsm
  refine⟨hsz.trans hl,fun hup hfr=>?_⟩
  obtain⟨b,w1,e1,q,hov,hev⟩:=h.ok #[] a v1 es (fun e he=>by simp at he) hr (hfr.left hsz hl)
  simp only[Array.map_empty] at e1
  obtain⟨st',e2,h2⟩:=H b w1 q e1 hov
  obtain⟨w2,e3,h3,h4,h5⟩:=(h2 hsm).2 hup (hfr.right hov hl)
  refine⟨w2,?_,hov.trans h3 hfr,fun e he=>?_,h5⟩
  .rw[e2,e3];simp[GStep.after]
  .rcases Array.mem_append.1 he with he|he
   .exact(seen_sub P fn hev e he).grows h3.grows
   .exact h4 e he
 |ended=>trivial
 |_=>exact hst.elim
theorem pure_step{v w:World}{g1:Goroutine}(hs:Sim f (kd P S) v w)(hg:GOK P S g1):Stepped' P f S B v w (.go g1 v) (.go (gorS f B g1) w):=
 fun _=>⟨.refl v,fun _ _=>⟨w,by simp,.refl hs,fun e he=>by simp at he,hg⟩⟩
theorem raise_vac{fr:Frame}(vs:List PanicEntry)(cs:List Frame)(st:GoStatus)(dy:Option Dying)(v:World)(es:Array Event):Vac (.go {frame:=fr.raise vs,callers:=cs,status:=st,dying:=dy} v es):=fun h=>by
 have:=h.mode
 unfold Frame.raise at this
 dsimp only at this
 split at this<;>exact this
theorem dieOf_vac(fr:Frame)(a:List ByteArray)(m:String)(b:Bool)(v:World):Vac (dieOf fr a m b v):=fun h=>by cases h.dying
theorem endFatal_vac(p:Program)(fr:Frame)(cs:List Frame)(dy:Option Dying)(m:String)(v:World):Vac (endFatal p fr cs dy m v):=by
 unfold endFatal
 dsimp only
 split
 .exact dieOf_vac _ _ _ _ _
 .trivial
 .trivial
theorem no_call{fr:Frame}(hg:FrameGood P S fr){d:Deferred}{b:Bool}{r:String}{s:Array Value}{k:List Item}(hT:fr.todo=.call d b r s::k):False:=by
 have h0:ItemOK P S (.call d b r s):=hg.items _ (by rw[hT];exact List.mem_cons_self ..)
 exact h0.elim
theorem no_call'{fr:Frame}(hg:FrameGood P S fr){d:Deferred}{b:Bool}{r:String}{s:Array Value}{k:List Item}(hT:(frame f fr).todo=.call d b r s::k):False:=by
 cases h1:fr.todo with
 |nil=>simp[frame,h1] at hT
 |cons i k=>
  have h0:ItemOK P S i:=hg.items i (by rw[h1];exact List.mem_cons_self ..)
  cases i<;>simp[frame,h1,item] at hT
  exact h0.elim
theorem apply_step{fr:Frame}{callers:List Frame}{s s':Sem Next}{v w:World}(h:RunRel P f (kd P S) (ToNext f (kd P S)) s s' v w)(hS:SOK P S)(hg:FrameGood P S fr)(hcs:∀c∈callers,FrameGood P S c)(hne:callers≠[]):Stepped' P f S B v w (stepG.apply P true fr callers none s v) (stepG.apply P true (frame f fr) (stk f B callers) none s' w):=by
 have hke:(fr.kind==CallKind.early)=false:=by rcases hg.kind with h|h<;>rw[h]<;>rfl
 have hke':((frame f fr).kind==CallKind.early)=false:=hke
 unfold stepG.apply
 simp only[if_true]
 generalize hrun:s.runT P v #[]=r
 obtain⟨r,es0⟩:=r
 cases r with
 |halt x v2=>
  refine Vac.stepped (Vac.after ?_)
  cases x with
  |panic v=>exact raise_vac _ _ _ _ _ _
  |goexit=>exact raise_vac _ _ _ _ _ _
  |blocked=>exact fun h=>by rcases h.status with h|h<;>cases h
  |waiting=>exact fun h=>by rcases h.status with h|h<;>cases h
  |exit c=>trivial
  |fatal m=>exact endFatal_vac _ _ _ _ _ _
  |throw m=>exact dieOf_vac _ _ _ _ _
  |unsupported u=>
   cases u with
   |initOrder g=>exact absurd rfl ((h.noInit _ _ _ _ hrun).1.1 g)
   |_=>trivial
  |stuck s=>trivial
 |ok a v2=>
  obtain⟨_,_,b0,_,hok,hnk⟩:=h.size _ _ _ _ hrun
  simp only[hke,Bool.false_eq_true,if_false]
  cases a with
  |value x=>
   refine ok_step h hrun (fun _=>.refl _) ?_
   rintro b w1 ⟨rfl,_,_⟩ hr' hov
   rw[hr']
   refine⟨_,by simp only[hke',Bool.false_eq_true,if_false,next,←seen_event];rfl,?_⟩
   rw[finish_frame fr x hg.items]
   exact pure_step (g1:={frame:=fr.finish x,callers:=callers,status:=.running,dying:=none}) hov.sim ⟨hg.finish x,hcs,rfl⟩
  |skip=>
   refine ok_step h hrun (fun _=>.refl _) ?_
   rintro b w1 ⟨rfl,_,_⟩ hr' hov
   rw[hr']
   refine⟨_,by simp only[hke',Bool.false_eq_true,if_false,next,←seen_event];rfl,?_⟩
   have:=finish_frame (f:=f) fr undef hg.items
   rw[undef_closed] at this
   rw[this]
   exact pure_step (g1:={frame:=fr.finish undef,callers:=callers,status:=.running,dying:=none}) hov.sim ⟨hg.finish undef,hcs,rfl⟩
  |enter g as=>
   refine ok_step h hrun (fun _=>.refl _) ?_
   rintro b w1 ⟨rfl,_,_⟩ hr' hov
   rw[hr']
   refine⟨_,by simp only[hke',Bool.false_eq_true,if_false,next,←seen_event];rfl,?_⟩
   dsimp only
   split
   .rename_i hT;exact(no_call hg hT).elim
   split
   .rename_i hT;exact(no_call' hg hT).elim
   rw[←enter_frame f g as .normal,←stk_cons hne]
   exact pure_step (g1:={frame:=Frame.enter P g as .normal,callers:=fr::callers,status:=.running,dying:=none}) hov.sim ⟨enter_good hS hnk as (.inl rfl),fun c hc=>by
    rcases List.mem_cons.1 hc with rfl|hc
    .exact hg
    .exact hcs c hc,rfl⟩
  |round l g tmps as body=>
   refine ok_step h hrun (fun _=>.refl _) ?_
   rintro b w1 ⟨rfl,_,_⟩ hr' hov
   rw[hr']
   refine⟨_,by simp only[hke',Bool.false_eq_true,if_false,next,←seen_event];rfl,?_⟩
   rw[←stk_cons hne]
   exact pure_step (g1:={frame:=Frame.round l g tmps as body .normal,callers:=fr::callers,status:=.running,dying:=none}) hov.sim ⟨round_good hnk.1 hnk.2 (.inl rfl),fun c hc=>by
    rcases List.mem_cons.1 hc with rfl|hc
    .exact hg
    .exact hcs c hc,rfl⟩
  |defer d=>exact hnk.elim
  |_=>cases hok
theorem return_step{fr c:Frame}{cs:List Frame}{v w:World}{m m':Bool}(x:Value)(hs:Sim f (kd P S) v w)(hg:FrameGood P S fr)(hc:FrameGood P S c)(hcs:∀c∈cs,FrameGood P S c):Stepped' P f S B v w (doReturn P m fr (c::cs) none x v) (doReturn P m' (frame f fr) (stk f B (c::cs)) none (val f x) w):=by
 by_cases hne:cs=[]
 .subst hne
  unfold doReturn
  rcases hg.kind with h|h
  .simp only[h]
   exact fun _=>⟨.refl _,fun h=>absurd rfl h⟩
  .simp only[h]
   exact fun _=>⟨.refl _,fun h=>absurd rfl h⟩
 .rw[stk_cons hne]
  unfold doReturn
  simp only[show(frame f fr).kind=fr.kind from rfl]
  rcases hg.kind with h|h
  .simp only[h]
   rw[finish_frame c x hc.items]
   exact pure_step (g1:={frame:=c.finish x,callers:=cs,status:=.running,dying:=none}) hs ⟨hc.finish x,hcs,rfl⟩
  .simp only[h]
   have hm:=hc.mode
   cases hmc:c.mode with
   |panicking ch=>rw[hmc] at hm;exact hm.elim
   |run=>
    simp only[show(frame f c).mode=mode f c.mode from rfl,hmc,mode]
    exact pure_step (g1:={frame:=c,callers:=cs,status:=.running,dying:=none}) hs ⟨hc,hcs,rfl⟩
   |returning=>
    simp only[show(frame f c).mode=mode f c.mode from rfl,hmc,mode]
    exact pure_step (g1:={frame:=c,callers:=cs,status:=.running,dying:=none}) hs ⟨hc,hcs,rfl⟩
theorem return_sized{fr c:Frame}{cs:List Frame}{m:Bool}(x:Value)(v:World):Sized v (doReturn P m fr (c::cs) none x v):=by
 unfold doReturn
 dsimp only
 split<;>exact fun _=>.refl _
theorem back_sized{fr:Frame}{cs:List Frame}{m:Bool}(x:Value)(v:World)(hne:cs≠[]):Sized v (doReturn P m fr cs none x v):=by
 cases cs with
 |nil=>exact absurd rfl hne
 |cons c cs=>exact return_sized x v
theorem back_step{fr:Frame}{cs:List Frame}{v w:World}{m m':Bool}(x:Value)(hs:Sim f (kd P S) v w)(hg:FrameGood P S fr)(hcs:∀c∈cs,FrameGood P S c)(hne:cs≠[]):Stepped' P f S B v w (doReturn P m fr cs none x v) (doReturn P m' (frame f fr) (stk f B cs) none (val f x) w):=by
 cases cs with
 |nil=>exact absurd rfl hne
 |cons c cs=>exact return_step x hs hg (hcs c (List.mem_cons_self ..)) (fun y hy=>hcs y (List.mem_cons_of_mem _ hy))
end
section
variable[Mps][Fr][Ext][Spc]{P:Program}{f:Nat→Nat}{S:FuncId→Prop}{B:List Frame}{K:Kd}
theorem r_mapM_vals_list{α:Type}(g g':α→Sem Value)(h:∀a,SRel P f K (ToVal f) (g a) (g' a)):∀l:List α,SRel P f K (fun x y=>y=x.map (val f)) (l.mapM g) (l.mapM g')
 |[]=>by simp only[List.mapM_nil];exact r_pure rfl
 |a::l=>by
  simp only[List.mapM_cons]
  refine r_bind (h a) ?_
  rintro x _ rfl
  refine r_bind (r_mapM_vals_list g g' h l) ?_
  rintro xs _ rfl
  exact r_pure rfl
theorem r_mapM_vals{α:Type}(g g':α→Sem Value)(h:∀a,SRel P f K (ToVal f) (g a) (g' a))(as:Array α):SRel P f K (fun x y=>y=vals f x) (as.mapM g) (as.mapM g'):=by
 rw[Array.mapM_eq_mapM_toList,Array.mapM_eq_mapM_toList,map_eq_pure_bind,map_eq_pure_bind]
 refine r_bind (r_mapM_vals_list g g' h as.toList) ?_
 rintro xs _ rfl
 exact r_pure (by simp[vals])
theorem r_results(fn:Func)(tmps:Array Value):SRel P f K (ToVal f) (results fn tmps) (results fn (vals f tmps)):=by
 unfold results
 refine r_bind (r_mapM_vals _ _ (fun x=>?_) fn.results) ?_
 .cases x with
  |tmp t=>exact r_pure (getD_vals f tmps t)
  |cell a t=>
   dsimp only
   rw[getD_vals]
   refine r_bind (r_asAddr _) ?_
   rintro p _ rfl
   exact r_loadVar t p
 .rintro vs _ rfl
  refine r_pure ?_
  show(if h:(vals f vs).size=1 then(vals f vs)[0] else Value.tuple (vals f vs))=val f (if h:vs.size=1 then vs[0] else Value.tuple vs)
  by_cases h:vs.size=1
  .rw[dif_pos h,dif_pos (by simpa using h)]
   simp[vals]
  .rw[dif_neg h,dif_neg (by simpa using h)]
   simp
theorem unwind_step(hf:Inj f){m m':Bool}{fr:Frame}{cs:List Frame}{v w:World}(hs:Sim f (kd P S) v w)(hg:FrameGood P S fr)(hall:∀c∈cs,FrameGood P S c)(hb:cs≠[]):Stepped' P f S B v w (unwind P m fr cs none v) (unwind P m' (frame f fr) (stk f B cs) none w):=by
 unfold unwind
 cases hd:fr.defers with
 |cons d ds=>
  have hdef:∀x∈ds,DefOK x:=fun x hx=>hg.defers x (by rw[hd];exact List.mem_cons_of_mem _ hx)
  have hd':(frame f fr).defers=deferred f d::ds.map (deferred f):=by simp[frame,hd]
  rw[hd']
  rcases hg.defers d (by rw[hd];exact List.mem_cons_self ..) with rfl|⟨r,hr⟩
  .obtain⟨o,es,e⟩:=callDeferred_stuck P {fr with defers:=ds} cs none v
   show Stepped' P f S B v w (callDeferred P {fr with defers:=ds} cs none stuckDef v) _
   rw[e]
   trivial
  .obtain⟨t,as⟩:=d
   cases hr
   simp only[deferred,target]
   have h:=RunRel.of (r_takeDeferred (P:=P) (f:=f) (K:=kd P S) r) hf hs
   generalize hrun:(Instr.takeDeferred r).runT P v #[]=q
   obtain⟨q,es0⟩:=q
   cases q with
   |halt x v2=>exact Vac.stepped (Vac.after trivial)
   |ok calls v2=>
    obtain⟨_,_,b0,_,hk⟩:=h.size _ _ _ _ hrun
    refine ok_step h hrun (fun _=>.refl _) ?_
    rintro b w1 ⟨rfl,_⟩ hr' hov
    rw[hr']
    refine⟨_,by simp only[←seen_event];rfl,?_⟩
    dsimp only
    rw[←List.map_append]
    exact pure_step (g1:={frame:={fr with defers:=calls++ds},callers:=cs,status:=.running,dying:=none}) hov.sim ⟨⟨hg.items,fun x hx=>by
     rcases List.mem_append.1 hx with hx|hx
     .exact(hk x hx).elim
     .exact hdef x hx,hg.mode,hg.kind⟩,hall,rfl⟩
 |nil=>
  rw[show(frame f fr).defers=[] by simp[frame,hd]]
  have hm:=hg.mode
  cases hmc:fr.mode with
  |panicking ch=>rw[hmc] at hm;exact hm.elim
  |run=>trivial
  |returning=>
   simp only[show(frame f fr).mode=mode f fr.mode from rfl,hmc,mode,show(frame f fr).fn=fr.fn from rfl]
   cases hfn:P.funcs[fr.fn]? with
   |none=>
    dsimp only
    rw[show(frame f fr).tmps=vals f fr.tmps from rfl,getD_vals]
    exact back_step _ hs hg hall hb
   |some fn=>
    dsimp only
    have h:=RunRel.of (r_results (P:=P) (f:=f) (K:=kd P S) fn fr.tmps) hf hs
    generalize hrun:(results fn fr.tmps).runT P v #[]=q
    obtain⟨q,es0⟩:=q
    cases q with
    |halt x v2=>cases x<;>exact Vac.stepped (Vac.after trivial)
    |ok x v2=>
     refine ok_step h hrun (back_sized x v2 hb) ?_
     rintro _ w1 rfl hr' hov
     rw[show(frame f fr).tmps=vals f fr.tmps from rfl,hr']
     exact⟨doReturn P m' (frame f fr) (stk f B cs) none (val f x) w1,by simp only[←seen_event],back_step x hov.sim hg hall hb⟩
theorem FrameGood.to{fr:Frame}(hg:FrameGood P S fr){k:List Item}(hk:∀i∈k,ItemOK P S i):FrameGood P S {fr with todo:=k}:=⟨hk,hg.defers,hg.mode,hg.kind⟩
theorem to_step{fr:Frame}{cs:List Frame}{v w:World}(hs:Sim f (kd P S) v w)(hg:FrameGood P S fr)(hcs:∀c∈cs,FrameGood P S c){k:List Item}(hk:∀i∈k,ItemOK P S i):Stepped' P f S B v w (.go {frame:={fr with todo:=k},callers:=cs,status:=.running,dying:=none} v) (.go {frame:={frame f fr with todo:=k.map (item f)},callers:=stk f B cs,status:=.running,dying:=none} w):=
 pure_step (g1:={frame:={fr with todo:=k},callers:=cs,status:=.running,dying:=none}) hs ⟨hg.to hk,hcs,rfl⟩
theorem oper_frame(fr:Frame):(frame f fr).oper? =fr.oper?:=by
 unfold Frame.oper?
 cases hT:fr.todo with
 |nil=>simp[frame,hT]
 |cons i k=>
  simp only[frame,hT,List.map_cons]
  cases i with
  |inRegion ops todo=>cases todo<;>rfl
  |_=>rfl
theorem resolve_cases(ρ:Operand→Value)(c:Call)(hc:calleeOK P c)(t:TypeId):(∃d,resolve ρ c t=pure d∧resolve (fun x=>val f (ρ x)) c t=pure (deferred f d)) ∨ ∃e,resolve ρ c t=stuck e:=by
 unfold resolve
 have e:c.args.map (fun x=>val f (ρ x))=vals f (c.args.map ρ):=by simp[vals]
 dsimp only
 rw[e]
 cases hcal:c.callee with
 |builtin b=>exact .inl ⟨_,rfl,by simp[deferred,target]⟩
 |invoke recv name=>unfold calleeOK at hc;rw[hcal] at hc;exact hc.elim
 |value g=>
  dsimp only
  cases ρ g with
  |func g a b=>simp only[val_func,Deferred.ofValue,←vals_append'];exact .inl ⟨_,rfl,rfl⟩
  |nilFunc=>simp only[val_nilFunc,Deferred.ofValue];exact .inl ⟨_,rfl,rfl⟩
  |_=>exact .inr ⟨_,rfl⟩
theorem fix_of_resolve{ρ:Operand→Value}{c:Call}{t:TypeId}{d:Deferred}(hv:∀x∈c.operands,ValMet (ρ x))(hc:calleeOK P c)(h:resolve ρ c t=pure d):TgtFix d.target:=by
 unfold resolve at h
 unfold calleeOK at hc
 dsimp only at h
 cases hcal:c.callee with
 |builtin b=>rw[hcal] at h hc;cases h;trivial
 |invoke r n=>rw[hcal] at hc;exact hc.elim
 |value g=>
  rw[hcal] at h
  dsimp only at h
  have hvg:=hv g (by unfold Call.operands;rw[hcal];simp)
  cases hg:ρ g with
  |func q a b=>
   rw[hg] at h hvg
   cases h
   cases q<;>first|exact hvg|trivial
  |nilFunc=>rw[hg] at h;cases h;trivial
  |_=>rw[hg] at h;cases h
theorem run_oper(hf:Inj f)(hx:Fix P f)(hz:ZeroOK P){fr:Frame}{v w:World}(hs:Sim f (kd P S) v w)(hS:SOK P S){o:Oper}(ho:OperOK P S o)(hv:∀x,OpndOK P S x→ValMet (fr.eval x))(hl:∀c d g,o.op=.call c→resolve fr.eval c o.type=pure d→d.target.leads P v d.args=some g→S g):RunRel P f (kd P S) (ToNext f (kd P S)) (execOp fr.eval o) (execOp (frame f fr).eval o) v w:=by
 rw[execOp_congr (ρ:=fun x=>val f (fr.eval x)) (ρ':=(frame f fr).eval) o ho.1 (fun x hx'=>eval_frame hx hS.1 fr (ho.2 x hx'))]
 by_cases hc:∃c,o.op=.call c
 .obtain⟨c,hc⟩:=hc
  have hcal:calleeOK P c:=by have:=ho.1;rw[hc] at this;exact this
  have e1:execOp fr.eval o=(resolve fr.eval c o.type >>= fun d=>invoke d.target d.args):=by unfold execOp;rw[hc]
  have e2:execOp (fun x=>val f (fr.eval x)) o=(resolve (fun x=>val f (fr.eval x)) c o.type >>= fun d=>invoke d.target d.args):=by unfold execOp;rw[hc]
  rw[e1,e2]
  rcases resolve_cases (f:=f) fr.eval c hcal o.type with⟨d,h1,h2⟩|⟨e,h1⟩
  .rw[h1,h2,pure_bind,pure_bind]
   exact run_invoke hf hz hs d.target (tgt_of_resolve hcal h1) (fix_of_resolve (fun x hx'=>hv x (ho.2 x (by rw[hc];exact hx'))) hcal h1) d.args (fun g hg=>hS.body (hl c d g hc h1 hg))
  .rw[h1]
   exact .dies hs (Dies.bind (dies_stuck _) _)
 .exact .of (r_execOp hf hx hS.1 hz fr.eval o (fun x hx'=>hv x (ho.2 x hx')) ho.1 (fun c d h _=>absurd ⟨c,h⟩ hc)) hf hs
end
section
variable[Mps]
theorem sim_same{K:Kd}{v:World}(h:NV K v):Sim (id:Nat→Nat) K v v:=by
 refine⟨fun b o hb=>(h b o hb).2,fun b o hb=>⟨o,hb,?_⟩⟩
 rcases(h b o hb).1 with h1|h1
 .exact stands_hid (.refl h1)
 .have h2:=stands_obj (id:Nat→Nat) h1
  have e:obj (id:Nat→Nat) o=o:=obj_id o
  rw[e] at h2
  exact h2
variable[Fr][Ext][Spc]{P:Program}{f:Nat→Nat}{S:FuncId→Prop}{B:List Frame}{K:Kd}
theorem ite_step{v w:World}{c c':Prop}[Decidable c][Decidable c']{a a' b b':GStep}(hcc:c'↔c)(h1:Stepped' P f S B v w a a')(h2:Stepped' P f S B v w b b'):Stepped' P f S B v w (if c then a else b) (if c' then a' else b'):=by
 by_cases h:c
 .rw[if_pos h,if_pos (hcc.2 h)];exact h1
 .rw[if_neg h,if_neg (fun h'=>h (hcc.1 h'))];exact h2
theorem mode_step{fr:Frame}{cs:List Frame}{v w:World}(hs:Sim f (kd P S) v w)(hg:FrameGood P S fr)(hcs:∀c∈cs,FrameGood P S c):Stepped' P f S B v w (.go {frame:={fr with mode:=.returning},callers:=cs,status:=.running,dying:=none} v) (.go {frame:={frame f fr with mode:=.returning},callers:=stk f B cs,status:=.running,dying:=none} w):=
 pure_step (g1:={frame:={fr with mode:=.returning},callers:=cs,status:=.running,dying:=none}) hs ⟨⟨hg.items,hg.defers,trivial,hg.kind⟩,hcs,rfl⟩
theorem leave_step(hf:Inj f){m m':Bool}{fr:Frame}{cs:List Frame}{v w:World}(hs:Sim f (kd P S) v w)(hg:FrameGood P S fr)(hall:∀c∈cs,FrameGood P S c)(hb:cs≠[])(ro:Option Nat)(jump:Option Code)(hj:∀c,jump=some c→CodeOK P S c)(why why':String) :
  Stepped' P f S B v w
   (match ro with
   |none=>if (match jump with|none|some .ret=>true|_=>false)=true then GStep.go {frame:={fr with mode:=.returning},callers:=cs,status:=.running,dying:=none} v else .ended (.stuck why (fr.pos P)) v
   |some l=>
    let (r,es):=(Instr.endRound l jump).runT P v #[]
    GStep.after (seen P fr.fn es) <| match r with
    |.ok x w=>doReturn P m fr cs none x w
    |.halt _ w=>.ended (.stuck "range over a function: no such loop" (fr.pos P)) w)
   (match ro.map f with
   |none=>if (match jump with|none|some .ret=>true|_=>false)=true then GStep.go {frame:={frame f fr with mode:=.returning},callers:=stk f B cs,status:=.running,dying:=none} w else .ended (.stuck why' ((frame f fr).pos P)) w
   |some l=>
    let (r,es):=(Instr.endRound l jump).runT P w #[]
    GStep.after (seen P (frame f fr).fn es) <| match r with
    |.ok x w=>doReturn P m' (frame f fr) (stk f B cs) none x w
    |.halt _ w=>.ended (.stuck "range over a function: no such loop" ((frame f fr).pos P)) w):=by
 cases ro with
 |none=>
  dsimp only[Option.map_none]
  by_cases hj:(match jump with|none|some .ret=>true|_=>false)=true
  .rw[if_pos hj,if_pos hj];exact mode_step hs hg hall
  .rw[if_neg hj];trivial
 |some l=>
  dsimp only[Option.map_some]
  have h:=RunRel.of (r_endRound (P:=P) (f:=f) (K:=kd P S) l jump hj) hf hs
  generalize hrun:(Instr.endRound l jump).runT P v #[]=q
  obtain⟨q,es0⟩:=q
  cases q with
  |halt x v2=>exact Vac.stepped (Vac.after trivial)
  |ok x v2=>
   refine ok_step h hrun (back_sized x v2 hb) ?_
   rintro _ w1 rfl hr' hov
   rw[hr']
   exact⟨doReturn P m' (frame f fr) (stk f B cs) none (val f x) w1,by simp only[←seen_event];rfl,back_step x hov.sim hg hall hb⟩
theorem apply_sized{fr:Frame}{callers:List Frame}{s s':Sem Next}{v w:World}(h:RunRel P f (kd P S) (ToNext f (kd P S)) s s' v w):Sized v (stepG.apply P true fr callers none s v):=by
 unfold stepG.apply
 simp only[if_true]
 generalize hrun:s.runT P v #[]=r
 obtain⟨r,es0⟩:=r
 cases r with
 |halt x v2=>
  refine Vac.sized (Vac.after ?_)
  cases x with
  |panic v=>exact raise_vac _ _ _ _ _ _
  |goexit=>exact raise_vac _ _ _ _ _ _
  |blocked=>exact fun h=>by rcases h.status with h|h<;>cases h
  |waiting=>exact fun h=>by rcases h.status with h|h<;>cases h
  |exit c=>trivial
  |fatal m=>exact endFatal_vac _ _ _ _ _ _
  |throw m=>exact dieOf_vac _ _ _ _ _
  |unsupported u=>
   cases u with
   |initOrder g=>exact absurd rfl ((h.noInit _ _ _ _ hrun).1.1 g)
   |_=>trivial
  |stuck s=>trivial
 |ok a v2=>
  obtain⟨hle,_,b0,_,hok,hnk⟩:=h.size _ _ _ _ hrun
  refine Sized.after ?_
  cases a<;>first|exact fun _=>hle|exact hle|cases hok
def Met(P:Program)(S:FuncId→Prop)(fr:Frame):Prop:=∀x,OpndOK P S x→ValMet (fr.eval x)
theorem valMet_id(y:Value):@ValMet frId y:=by
 cases y<;>first|trivial|skip
 rename_i g a b
 cases g<;>first|trivial|rfl
theorem met_id(fr:Frame):@Met frId P S fr:=fun _ _=>valMet_id _
theorem run_range(hf:Inj f)(hx:Fix P f)(hz:ZeroOK P){fr:Frame}{v w:World}(hs:Sim f (kd P S) v w)(hS:SOK P S){x:Operand}(ho:OpndOK P S x)(hv:∀x,OpndOK P S x→ValMet (fr.eval x))(l:Nat)
  (hl:∀d g,resolve fr.eval {callee:=.value x,args:=#[.const (.func (.yield l) #[] #[])],argTypes:=#[]} 0=pure d→d.target.leads P v d.args=some g→S g) :
  RunRel P f (kd P S) (ToNext f (kd P S)) (do let d ← resolve fr.eval {callee:=.value x,args:=#[.const (.func (.yield l) #[] #[])],argTypes:=#[]} 0;invoke d.target d.args)
   (do let d ← resolve (frame f fr).eval {callee:=.value x,args:=#[.const (.func (.yield (f l)) #[] #[])],argTypes:=#[]} 0;invoke d.target d.args) v w:=by
 have e0:∀(fr:Frame) (l:Nat),resolve fr.eval {callee:=.value x,args:=#[.const (.func (.yield l) #[] #[])],argTypes:=#[]} 0=Deferred.ofValue (fr.eval x) #[.func (.yield l) #[] #[]]:=fun fr l=>by
  simp[resolve,Frame.eval]
 have ev:=eval_frame (f:=f) hx hS.1 fr ho
 rw[e0,e0,ev]
 rw[e0] at hl
 have hvx:=hv x ho
 cases hxv:fr.eval x with
 |func g a b=>
  rw[hxv] at hl hvx
  have:=run_invoke hf hz hs (.fn g b) trivial (by cases g<;>first|exact hvx|trivial) (a++#[.func (.yield l) #[] #[]]) (fun y hy=>hS.body (hl _ y rfl hy))
  rw[vals_append',show vals f #[Value.func (.yield l) #[] #[]]=#[.func (.yield (f l)) #[] #[]] by simp[vals,fn]] at this
  simp only[val_func,Deferred.ofValue,pure_bind]
  exact this
 |nilFunc=>
  simp only[val_nilFunc,Deferred.ofValue,pure_bind]
  exact run_invoke hf hz hs .nil trivial trivial _ (fun y hy=>by cases hy)
 |_=>exact .dies hs (Dies.bind (dies_stuck _) _)
theorem exec_step(hf:Inj f)(hx:Fix P f)(hz:ZeroOK P){m m':Bool}{fr:Frame}{cs:List Frame}{v w:World}(hs:Sim f (kd P S) v w)(hS:SOK P S)(hg:FrameGood P S fr)(hall:∀c∈cs,FrameGood P S c)(hb:cs≠[])(hm:fr.mode=.run)(hmt:Met P S fr)(hns:NotSp fr)(hl:∀g,fr.about P v=some g→S g):Stepped' P f S B v w (stepG.exec P m true fr cs none v) (stepG.exec P m' true (frame f fr) (stk f B cs) none w):=by
 have hleave:=fun jump hj why why'=>leave_step (B:=B) (m:=m) (m':=m') hf hs hg hall hb fr.roundOf jump hj why why'
 have hi:=hg.items
 have hto:=fun{k:List Item} (hk:∀i∈k,ItemOK P S i)=>to_step (f:=f) (B:=B) hs hg hall hk
 have hfin:=fun(x:Value)=>finish_frame (f:=f) fr x hg.items
 have happ:=fun{s s':Sem Next} (h:RunRel P f (kd P S) (ToNext f (kd P S)) s s' v w)=>apply_step (B:=B) h hS hg hall hb
 obtain⟨fn0,tmps,todo,defers,md,kind,ro⟩:=fr
 cases todo with
 |nil=>
  unfold stepG.exec
  exact hleave none (fun c h=>by cases h) _ _
 |cons i k=>
  have hi0:ItemOK P S i:=hi i (List.mem_cons_self ..)
  have hk:∀j∈k,ItemOK P S j:=fun j hj=>hi j (List.mem_cons_of_mem _ hj)
  have hk1:∀j,ItemOK P S j→∀x∈j::k,ItemOK P S x:=fun j hj x hx=>by
   rcases List.mem_cons.1 hx with rfl|hx
   .exact hj
   .exact hk x hx
  have hk2:∀j j',ItemOK P S j→ItemOK P S j'→∀x∈j::j'::k,ItemOK P S x:=fun j j' hj hj' x hx=>by
   rcases List.mem_cons.1 hx with rfl|hx
   .exact hj
   .exact hk1 j' hj' x hx
  unfold stepG.exec
  cases i with
  |code cd=>
   have hcd:CodeL P S cd:=hi0
   cases cd with
   |ret=>exact hleave (some .ret) (fun c h=>by cases h;trivial) _ _
   |skip=>exact hto hk
   |label l=>exact hto hk
   |seq a b=>exact hto (k:=.code a::.code b::k) (hk2 _ _ hcd.1 hcd.2)
   |cond x thn els=>
    have he:=eval_frame (f:=f) hx hS.1 ⟨fn0,tmps,.code (.cond x thn els)::k,defers,md,kind,ro⟩ hcd.1
    dsimp only[frame,List.map,item] at he⊢
    rw[he]
    generalize Frame.eval _ x=q
    cases q with
    |bool b=>
     simp only[val_bool]
     exact hto (k:=.code (if b then thn else els)::k) (hk1 _ (by cases b;exact hcd.2.2;exact hcd.2.1))
    |_=>trivial
   |block id body=>exact hto (k:=.code body::.inBlock id::k) (hk2 _ _ hcd trivial)
   |loop body=>exact hto (k:=.code body::.inLoop body::k) (hk2 _ _ hcd hcd)
   |scope body=>exact hto (k:=.code body::.inScope body::k) (hk2 _ _ hcd hcd)
   |exit id=>
    dsimp only[frame,List.map,item]
    rw[exitTo_item]
    cases he:exitTo id k with
    |none=>exact hleave (some (.exit id)) (fun c h=>by cases h;trivial) _ _
    |some k'=>exact hto (exitTo_ok hk he)
   |goto l=>
    dsimp only[frame,List.map,item]
    rw[gotoIn_item]
    cases he:gotoIn l k with
    |none=>exact hleave (some (.goto l)) (fun c h=>by cases h;trivial) _ _
    |some k'=>exact hto (gotoIn_ok hk he)
   |rangeFunc x ps a b=>
    have h:=RunRel.of (r_enterLoop (P:=P) (f:=f) (K:=kd P S) fn0 tmps ps a b hcd.2.1 hcd.2.2 ro) hf hs
    dsimp only[frame,List.map,item]
    generalize hrun:(Instr.enterLoop fn0 tmps ps a b ro).runT P v #[]=q
    obtain⟨q,es0⟩:=q
    cases q with
    |halt y v2=>exact Vac.stepped (Vac.after trivial)
    |ok y v2=>
     obtain⟨l,mark⟩:=y
     obtain⟨_,hnv,b0,_,hmk⟩:=h.size _ _ _ _ hrun
     have hrun':(Instr.enterLoop fn0 tmps ps a b ro).run P v=.ok (l,mark) v2:=by rw[←Sem.runT_fst P _ v #[],hrun]
     have hg':FrameGood P S ⟨fn0,tmps,.inRangeFunc l::k,mark++defers,md,kind,ro⟩:=⟨hk1 _ trivial,fun d hd=>by
      rcases List.mem_append.1 hd with hd|hd
      .exact .inr (hmk d hd)
      .exact hg.defers d hd,hg.mode,hg.kind⟩
     have hlead:∀d g,resolve (Frame.eval ⟨fn0,tmps,.inRangeFunc l::k,mark++defers,md,kind,ro⟩) {callee:=.value x,args:=#[.const (.func (.yield l) #[] #[])],argTypes:=#[]} 0=pure d→d.target.leads P v2 d.args=some g→S g:=fun d g h1 h2=>hl g (by
      cases hm
      have h1':resolve (Frame.eval ⟨fn0,tmps,.code (.rangeFunc x ps a b)::k,defers,.run,kind,ro⟩) {callee:=.value x,args:=#[.const (.func (.yield l) #[] #[])],argTypes:=#[]} 0=pure d:=h1
      simp only[Frame.about,hrun']
      rw[h1']
      exact h2)
     refine ok_step h hrun (@apply_sized _ frId noExt _ P (fun x=>x) S _ _ _ _ _ _ (@run_range _ frId noExt _ P (fun x=>x) S (fun _ _ h=>h) (fun _ _=>rfl) hz ⟨fn0,tmps,.inRangeFunc l::k,mark++defers,md,kind,ro⟩ _ _ (sim_same hnv) ⟨fun _ _=>rfl,hS.2⟩ _ hcd.1 (fun _ _=>valMet_id _) l hlead)) ?_
     rintro _ w1 ⟨rfl,_⟩ hr' hov
     rw[hr']
     refine⟨_,by simp only[←seen_event];rfl,?_⟩
     have:=apply_step (B:=B) (run_range (fr:=⟨fn0,tmps,.inRangeFunc l::k,mark++defers,md,kind,ro⟩) hf hx hz hov.sim hS hcd.1 (fun y hy=>by have:=hmt y hy;cases y<;>exact this) l hlead) hS hg' hall hb
     dsimp only[frame,List.map,item] at this
     rw[List.map_append] at this
     exact this
   |refuse why=>trivial
   |region id ops draw=>
    cases draw with
    |false=>exact hto (k:=.inRegion ops (List.range ops.size)::k) (hk1 _ hcd)
    |true=>
     have h:=RunRel.of (r_choose (P:=P) (f:=f) (K:=kd P S) (.order fn0 id)) hf hs
     have e1:=Sem.runT_fst P (choose (.order fn0 id)) v #[]
     have e2:=Sem.runT_fst P (choose (.order fn0 id)) w #[]
     dsimp only[frame,List.map,item]
     simp only[Bool.not_true,Bool.false_eq_true,if_false]
     rw[←e1,←e2]
     generalize hrun:(choose (.order fn0 id)).runT P v #[]=q
     obtain⟨q,es0⟩:=q
     cases q with
     |halt x v2=>trivial
     |ok n v2=>
      dsimp only
      intro hsm
      refine⟨(h.size _ _ _ _ hrun).1,fun _ hfr=>?_⟩
      obtain⟨b,w1,e3,rfl,hov,hev⟩:=h.ok #[] n v2 es0 (fun e he=>by simp at he) hrun hfr
      simp only[Array.map_empty] at e3
      rw[e3]
      refine⟨w1,by simp[gorS,gor,frame,item],hov,fun e he=>by simp at he,⟨hg.to (k:=.inRegion ops _::k) (hk1 _ hcd),hall,rfl⟩⟩
  |inBlock id=>exact hto hk
  |inScope body=>exact hto hk
  |inLoop body=>exact hto (k:=.code body::.inLoop body::k) (hk2 _ _ hi0 hi0)
  |inRangeFunc l=>trivial
  |beginRound=>
   refine happ ?_
   cases ro with
   |none=>exact .dies hs (Dies.bind (dies_stuck _) _)
   |some l=>exact .of (r_skip (r_beginRound l)) hf hs
  |endRangeFunc l=>
   have h:=RunRel.of (r_endLoop (P:=P) (f:=f) (K:=kd P S) l) hf hs
   dsimp only[frame,List.map,item]
   generalize hrun:(Instr.endLoop l).runT P v #[]=q
   obtain⟨q,es0⟩:=q
   cases q with
   |halt x v2=>
    refine Vac.stepped (Vac.after ?_)
    cases x<;>first|trivial|exact raise_vac _ _ _ _ _ _
   |ok jump v2=>
    obtain⟨_,_,b0,_,hjk⟩:=h.size _ _ _ _ hrun
    refine ok_step h hrun (fun _=>.refl _) ?_
    rintro b w1 ⟨hb,_⟩ hr' hov
    rw[hb] at hr'
    rw[hr']
    refine⟨_,by simp only[←seen_event];rfl,?_⟩
    have hk':∀i∈(jump.map Item.code).toList++k,ItemOK P S i:=fun i hi'=>by
     rcases List.mem_append.1 hi' with h1|h1
     .cases jump with
      |none=>cases h1
      |some c1=>obtain rfl:=List.mem_singleton.1 h1;exact CodeOK.loose (hjk c1 rfl)
     .exact hk i h1
    have:=to_step (B:=B) (fr:=⟨fn0,tmps,.endRangeFunc l::k,defers,md,kind,ro⟩) hov.sim hg hall hk'
    rw[List.map_append] at this
    have e:(jump.map Item.code).toList.map (item f)=(jump.map Item.code).toList:=by cases jump<;>rfl
    rw[e] at this
    exact this
  |call d a r s=>exact hi0.elim
  |extern r s=>exact hi0.elim
  |inRegion ops todo=>
   cases todo with
   |nil=>exact hto hk
   |cons j rest=>
    have hy:=yielded_vals f ops tmps
    refine ite_step (show((ops[j]?).map (Region.wanted · (yielded ops (vals f tmps)))).getD false=true↔((ops[j]?).map (Region.wanted · (yielded ops tmps))).getD false=true by rw[hy]) ?_ ?_
    .dsimp only[frame,List.map,item]
     unfold stepG.oper
     have e:=oper_frame (f:=f) ⟨fn0,tmps,.inRegion ops (j::rest)::k,defers,md,kind,ro⟩
     dsimp only[frame,List.map,item] at e
     rw[e]
     dsimp only[Frame.oper?]
     cases ho:ops[j]? with
     |none=>trivial
     |some o=>
      have hoo:OperOK P S o:=(hi0 o (Array.mem_of_getElem? ho)).resolve_right (hns hm _ _ _ _ _ rfl ho)
      have hrun:=run_oper (fr:=⟨fn0,tmps,.inRegion ops (j::rest)::k,defers,md,kind,ro⟩) hf hx hz hs hS hoo hmt (fun c d g h1 h2 h3=>hl g (by
       cases hm
       simp only[Frame.about,ho,h1]
       rw[h2]
       exact h3))
      have hgen:=happ hrun
      dsimp only
      have hnd:∀c,o.op≠.defer c:=fun c hc=>by have:=hoo.1;rw[hc] at this;exact this
      cases ro with
      |none=>exact hgen
      |some l=>
       split
       .rename_i hop;exact absurd hop (hnd _)
       .split
        .rename_i hop;exact absurd hop (hnd _)
        .exact hgen
    .dsimp only[frame,List.map,item]
     have e:=hfin undef
     rw[undef_closed] at e
     dsimp only[frame,List.map,item] at e
     rw[e]
     exact pure_step (g1:={frame:=Frame.finish ⟨fn0,tmps,.inRegion ops (j::rest)::k,defers,md,kind,ro⟩ undef,callers:=cs,status:=.running,dying:=none}) hs ⟨hg.finish undef,hall,rfl⟩
theorem stepG_step(hf:Inj f)(hx:Fix P f)(hz:ZeroOK P)(hS:SOK P S){m m':Bool}{g:Goroutine}{v w:World}(hs:Sim f (kd P S) v w)(hg:GOK P S g)(hb:g.callers≠[])(hmt:Met P S g.frame)(hns:NotSp g.frame)(hl:∀x,g.frame.about P v=some x→S x):Stepped' P f S B v w (stepG P m g v) (stepG P m' (gorS f B g) w):=by
 obtain⟨fr,callers,status,dying,offers⟩:=g
 obtain⟨hg,hall,hd⟩:=hg
 cases hd
 unfold stepG
 dsimp only[gorS,gor]
 have hmd:=hg.mode
 cases hm:fr.mode with
 |panicking ch=>rw[hm] at hmd;exact hmd.elim
 |run=>
  rw[show(frame f fr).mode=.run by simp[frame,hm,mode]]
  exact exec_step hf hx hz hs hS hg hall hb hm hmt hns hl
 |returning=>
  rw[show(frame f fr).mode=.returning by simp[frame,hm,mode]]
  exact unwind_step hf hs hg hall hb
end
section
variable[Mps][Spc]{P:Program}{f:Nat→Nat}{S:FuncId→Prop}{K:Kd}
theorem items_id(k:List Item):k.map (item id)=k:=by
 have:(item id)=id:=funext fun i=>by cases i<;>simp[item,deferred_id,vals_id]
 rw[this];exact List.map_id k
theorem frame_id(fr:Frame):frame id fr=fr:=by
 obtain⟨fn,tmps,todo,defers,md,kind,ro⟩:=fr
 have h1:(deferred id)=id:=funext deferred_id
 have h2:mode id md=md:=by
  cases md with
  |panicking c=>
   have:(pentry id)=id:=funext fun e=>by simp[pentry,val_id]
   simp[mode,this]
  |_=>rfl
 simp[frame,vals_id,items_id,h1,h2]
theorem gor_id(g:Goroutine):gor id g=g:=by
 have:(frame id)=id:=funext frame_id
 simp[gor,frame_id,this]
theorem event_id(es:Array Event):es.map (event id)=es:=by
 have hm:∀m,mark id m=m:=fun m=>by cases m<;>rfl
 have hl:∀l,loc id l=l:=fun l=>by cases l<;>simp[loc,addr_id,hm]
 have:(event id)=id:=funext fun e=>by simp[event,hl]
 rw[this];exact Array.map_id es
def bottom:Frame:={fn:=0,tmps:=#[],todo:=[],defers:=[stuckDef],mode:=.run,kind:=.normal}
def Up(g:Goroutine):Prop:=∃cs,g.callers=cs++[bottom]
theorem Up.ne{g:Goroutine}(h:Up g):g.callers≠[]:=by
 obtain⟨cs,e⟩:=h
 rw[e];simp
theorem stk_up[Fr][Ext](f:Nat→Nat)(B:List Frame)(b:Frame):∀cs:List Frame,stk f B (cs++[b])=cs.map (frame f)++B
 |[]=>rfl
 |c::cs=>by
  rw[List.cons_append,stk_cons (by simp),stk_up f B b cs]
  rfl
theorem bottom_frame[Fr][Ext](f:Nat→Nat):frame f bottom=bottom:=by
 simp[frame,bottom,mode,deferred,target,stuckDef,vals]
theorem gorS_up[Fr][Ext](f:Nat→Nat){g:Goroutine}(h:Up g):gorS f [bottom] g=gor f g:=by
 obtain⟨cs,e⟩:=h
 unfold gorS
 rw[e,stk_up]
 unfold gor
 rw[e,List.map_append,List.map_cons,List.map_nil,bottom_frame]
theorem stepG_tape(hz:ZeroOK P)(hS:SOK P S){m m':Bool}{g g1:Goroutine}{v v1:World}{es:Array Event}(hn:NV (kd P S) v)(hg:GOK P S g)(hu:Up g)(hns:NotSp g.frame)(hl:∀x,g.frame.about P v=some x→S x)(h:stepG P m g v=.go g1 v1 es)(hsm:Smooth g1)(hu1:Up g1)(t:Nat→Question→Nat)(ht:∀i,v.drawn≤i→i<v1.drawn→t i=v.tape i):stepG P m' g {v with tape:=t} = .go g1 {v1 with tape:=t} es∧Le v v1∧NV (kd P S) v1∧GOK P S g1:=by
 have hs:Sim (id:Nat→Nat) (kd P S) v {v with tape:=t}:=⟨(sim_same hn).good,(sim_same hn).block⟩
 have h0:=stepG_step (f:=id) (B:=[bottom]) (m:=m) (m':=m') (fun _ _ h=>h) (fun _ _=>rfl) hz hS hs hg hu.ne (met_id _) hns hl
 rw[h] at h0
 obtain⟨hle,h1⟩:=h0 hsm
 have hsz:=hle.size
 obtain⟨w1,e1,hov,hev,hg1⟩:=h1 hu1.ne ⟨fun i h1 h2=>by show i=_;dsimp only;omega,fun i h1=>by show _≤i;dsimp only;omega,fun i h1 h2=>by
  dsimp only
  rw[show v.drawn+(i-v.drawn)=i by omega]
  exact ht i h1 h2⟩
 rw[gorS_up _ hu,gorS_up _ hu1,gor_id,gor_id,event_id] at e1
 refine⟨?_,hle,hov.sim.nv,hg1⟩
 have hd:=hov.drawn
 have hdl:=hle.drawn
 have hh:=hov.exact rfl ⟨⟨fun _=>rfl,fun _=>rfl⟩,fun _ _=>rfl⟩ rfl
 have hr:=hov.right.same
 have hv:=hle.same
 have:w1={v1 with tape:=t}:=by
  rw[hr,hv]
  dsimp only at hd⊢
  rw[←hh,show w1.drawn=v1.drawn by omega]
 rw[e1,this]
def pan(fr:Frame):Prop:=∃c,fr.mode=.panicking c
def Last(cs0:List Frame)(g1:Goroutine):Prop:=
 ∀b cs,cs0=cs++[b]→(∃cs',g1.callers=cs'++[b])∨(g1.callers=[]∧(g1.frame=b∨(∃x,g1.frame=b.finish x) ∨ ∃vs,g1.frame=b.raise vs))
theorem last_same{g1:Goroutine}:Last g1.callers g1:=fun b cs h=>.inl ⟨cs,h⟩
theorem last_push{cs0:List Frame}{g1:Goroutine}{fr:Frame}(h:g1.callers=fr::cs0):Last cs0 g1:=fun b cs e=>.inl ⟨fr::cs,by rw[h,e];rfl⟩
theorem last_pop{cs0:List Frame}{g1:Goroutine}{c:Frame}(h:cs0=c::g1.callers)(hf:g1.frame=c∨(∃x,g1.frame=c.finish x) ∨ ∃vs,g1.frame=c.raise vs):Last cs0 g1:=fun b cs e=>by
 cases cs with
 |nil=>
  rw[h] at e
  simp only[List.nil_append,List.cons.injEq] at e
  obtain⟨rfl,e⟩:=e
  exact .inr ⟨e,hf⟩
 |cons x cs=>
  rw[h] at e
  simp only[List.cons_append,List.cons.injEq] at e
  exact .inl ⟨cs,e.2⟩
structure Went(P:Program)(S:FuncId→Prop)(cs0:List Frame)(g1:Goroutine)(v1:World):Prop where
 last:Last cs0 g1
 nv:NV (kd P S) v1
 run:g1.status=.running
 dying:g1.dying=none
 callers:∀c∈g1.callers,FrameGood P S c
 defers:∀d∈g1.frame.defers,DefOK d
 frame:FrameGood P S g1.frame∨pan g1.frame
def Out(P:Program)(S:FuncId→Prop)(cs0:List Frame):GStep→Prop
 |.go g1 v1 _=>Went P S cs0 g1 v1
 |.ended ..=>True
 |_=>False
theorem Out.after{cs0:List Frame}{es:Array Event}{st:GStep}(h:Out P S cs0 st):Out P S cs0 (GStep.after es st):=by cases st<;>exact h
theorem out_to{cs0:List Frame}{fr:Frame}{cs:List Frame}{v1:World}{es:Array Event}(hL:Last cs0 {frame:=fr,callers:=cs,status:=.running,dying:=none})(hn:NV (kd P S) v1)(h1:FrameGood P S fr)(hcs:∀c∈cs,FrameGood P S c):Out P S cs0 (.go {frame:=fr,callers:=cs,status:=.running,dying:=none} v1 es):=⟨hL,hn,rfl,rfl,hcs,h1.defers,.inl h1⟩
theorem out_good{fr:Frame}{cs:List Frame}{v1:World}{es:Array Event}(hn:NV (kd P S) v1)(h1:FrameGood P S fr)(hcs:∀c∈cs,FrameGood P S c):Out P S cs (.go {frame:=fr,callers:=cs,status:=.running,dying:=none} v1 es):=⟨last_same (g1:={frame:=fr,callers:=cs,status:=.running,dying:=none}),hn,rfl,rfl,hcs,h1.defers,.inl h1⟩
theorem out_push{fr fr':Frame}{cs:List Frame}{v1:World}{es:Array Event}(hn:NV (kd P S) v1)(h1:FrameGood P S fr')(hfr:FrameGood P S fr)(hcs:∀c∈cs,FrameGood P S c):Out P S cs (.go {frame:=fr',callers:=fr::cs,status:=.running,dying:=none} v1 es):=out_to (last_push rfl) hn h1 fun c hc=>by
 rcases List.mem_cons.1 hc with rfl|hc
 .exact hfr
 .exact hcs c hc
theorem raise_defers(fr:Frame)(vs:List PanicEntry):(fr.raise vs).defers=fr.defers:=by
 unfold Frame.raise
 split<;>rfl
theorem raise_pan(fr:Frame)(vs:List PanicEntry):pan (fr.raise vs):=by
 unfold Frame.raise
 split
 .exact⟨_,rfl⟩
 .exact⟨_,rfl⟩
theorem out_raise_to{cs0:List Frame}{fr:Frame}{cs:List Frame}{v1:World}{es:Array Event}(vs:List PanicEntry)(hL:Last cs0 {frame:=fr.raise vs,callers:=cs,status:=.running,dying:=none})(hn:NV (kd P S) v1)(hfr:∀d∈fr.defers,DefOK d)(hcs:∀c∈cs,FrameGood P S c):Out P S cs0 (.go {frame:=fr.raise vs,callers:=cs,status:=.running,dying:=none} v1 es):=
 ⟨hL,hn,rfl,rfl,hcs,fun d hd=>hfr d (by rw[←raise_defers fr vs];exact hd),.inr (raise_pan fr vs)⟩
theorem out_raise{fr:Frame}{cs:List Frame}{v1:World}{es:Array Event}(hn:NV (kd P S) v1)(hfr:∀d∈fr.defers,DefOK d)(hcs:∀c∈cs,FrameGood P S c)(vs:List PanicEntry):Out P S cs (.go {frame:=fr.raise vs,callers:=cs,status:=.running,dying:=none} v1 es):=
 ⟨last_same (g1:={frame:=fr.raise vs,callers:=cs,status:=.running,dying:=none}),hn,rfl,rfl,hcs,fun d hd=>hfr d (by rw[←raise_defers fr vs];exact hd),.inr (raise_pan fr vs)⟩
theorem apply_out{fr:Frame}{cs:List Frame}{s s':Sem Next}{v w:World}(h:RunRel P f (kd P S) (ToNext f (kd P S)) s s' v w)(hS:SOK P S)(hfr:FrameGood P S fr)(hcs:∀c∈cs,FrameGood P S c):Out P S cs (stepG.apply P true fr cs none s v):=by
 unfold stepG.apply
 simp only[if_true]
 generalize hrun:s.runT P v #[]=r
 obtain⟨r,es0⟩:=r
 refine Out.after ?_
 cases r with
 |halt x v2=>
  obtain⟨hni,hn⟩:=h.noInit _ _ _ _ hrun
  cases x with
  |panic v=>exact out_raise hn hfr.defers hcs _
  |unsupported u=>
   cases u with
   |initOrder g=>exact absurd rfl (hni.1 g)
   |_=>trivial
  |stuck s=>trivial
  |_=>cases hni.2
 |ok a v2=>
  obtain⟨_,hn,b0,_,hok,hnk⟩:=h.size _ _ _ _ hrun
  cases a with
  |value x=>exact out_good hn (hfr.finish x) hcs
  |skip=>exact out_good hn (hfr.finish undef) hcs
  |enter g as=>
   dsimp only
   split
   .rename_i hT;exact(no_call hfr hT).elim
   .exact out_push hn (enter_good hS hnk as (.inl rfl)) hfr hcs
  |round l g tmps as body=>exact out_push hn (round_good hnk.1 hnk.2 (.inl rfl)) hfr hcs
  |defer d=>exact hnk.elim
  |_=>cases hok
end
section
variable[Mps][Spc]{P:Program}{S:FuncId→Prop}{K:Kd}
theorem inj_id:Inj (id:Nat→Nat):=fun _ _ h=>h
theorem fix_id:Fix P (id:Nat→Nat):=fun _ _=>rfl
theorem ite_out{c:Prop}[Decidable c]{cs0:List Frame}{a b:GStep}(ha:Out P S cs0 a)(hb:Out P S cs0 b):Out P S cs0 (if c then a else b):=by
 split
 .exact ha
 .exact hb
theorem return_out{m:Bool}{fr c:Frame}{cs:List Frame}{v:World}(x:Value)(hn:NV (kd P S) v)(hfr:FrameGood P S fr)(hcs:∀c'∈c::cs,FrameGood P S c'):Out P S (c::cs) (doReturn P m fr (c::cs) none x v):=by
 have hcc:=hcs c (List.mem_cons_self ..)
 have hrest:∀x∈cs,FrameGood P S x:=fun x hx=>hcs x (List.mem_cons_of_mem _ hx)
 unfold doReturn
 dsimp only
 rcases hfr.kind with h|h
 .rw[h]
  exact out_to (last_pop (c:=c) rfl (.inr (.inl ⟨x,rfl⟩))) hn (hcc.finish x) hrest
 .rw[h]
  have key:∀c',c'=c→Out P S (c::cs) (.go {frame:=c',callers:=cs,status:=.running,dying:=none} v):=fun c' e=>by
   subst e
   exact out_to (last_pop rfl (.inl rfl)) hn hcc hrest
  refine key _ ?_
  have hm:=hcc.mode
  split
  .rename_i hmc
   rw[hmc] at hm
   exact hm.elim
  .rfl
theorem takes_out{fr:Frame}{cs:List Frame}{v:World}{r:Nat}{ds:List Deferred}(hn:NV (kd P S) v)(hcs:∀c∈cs,FrameGood P S c)(hdef:∀x∈ds,DefOK x)
  (hfr:(∀ds,(∀d∈ds,DefOK d)→FrameGood P S {fr with defers:=ds})∨pan fr) :
  Out P S cs (let (r,es):=(Instr.takeDeferred r).runT P v #[]
   GStep.after (seen P fr.fn es) <| match r with
   |.ok calls w=>.go {frame:={fr with defers:=calls++ds},callers:=cs,status:=.running,dying:=none} w
   |.halt _ w=>.ended (.stuck "the deferred calls of a range-over-func loop have been taken" (fr.pos P)) w):=by
 have h:=RunRel.of (r_takeDeferred (P:=P) (f:=id) (K:=kd P S) r) inj_id (sim_same hn)
 generalize hrun:(Instr.takeDeferred r).runT P v #[]=z
 obtain⟨z,es0⟩:=z
 refine Out.after ?_
 cases z with
 |halt x v2=>trivial
 |ok calls v2=>
  obtain⟨_,hn2,b0,_,hk⟩:=h.size _ _ _ _ hrun
  have hall:∀d∈calls++ds,DefOK d:=fun x hx=>by
   rcases List.mem_append.1 hx with hx|hx
   .exact(hk x hx).elim
   .exact hdef x hx
  refine⟨last_same (g1:={frame:={fr with defers:=calls++ds},callers:=cs,status:=.running,dying:=none}),hn2,rfl,rfl,hcs,hall,?_⟩
  rcases hfr with hfr|hfr
  .exact .inl (hfr _ hall)
  .exact .inr hfr
theorem unwind_out{m:Bool}{fr c:Frame}{cs:List Frame}{v:World}(hn:NV (kd P S) v)(hfr:FrameGood P S fr)(hcs:∀c'∈c::cs,FrameGood P S c'):Out P S (c::cs) (unwind P m fr (c::cs) none v):=by
 unfold unwind
 cases hd:fr.defers with
 |cons d ds=>
  have hdef:∀x∈ds,DefOK x:=fun x hx=>hfr.defers x (by rw[hd];exact List.mem_cons_of_mem _ hx)
  rcases hfr.defers d (by rw[hd];exact List.mem_cons_self ..) with rfl|⟨r,hr⟩
  .obtain⟨o,es,e⟩:=callDeferred_stuck P {fr with defers:=ds} (c::cs) none v
   show Out P S (c::cs) (callDeferred P {fr with defers:=ds} (c::cs) none stuckDef v)
   rw[e]
   trivial
  .obtain⟨t,as⟩:=d
   cases hr
   exact takes_out hn hcs hdef (.inl fun ds h=>⟨hfr.items,h,hfr.mode,hfr.kind⟩)
 |nil=>
  dsimp only
  have hm:=hfr.mode
  cases hmc:fr.mode with
  |panicking ch=>rw[hmc] at hm;exact hm.elim
  |run=>trivial
  |returning=>
   dsimp only
   cases hfn:P.funcs[fr.fn]? with
   |none=>exact return_out _ hn hfr hcs
   |some fn=>
    dsimp only
    have h:=RunRel.of (r_results (P:=P) (f:=id) (K:=kd P S) fn fr.tmps) inj_id (sim_same hn)
    generalize hrun:(results fn fr.tmps).runT P v #[]=z
    obtain⟨z,es0⟩:=z
    refine Out.after ?_
    cases z with
    |halt x v2=>cases x<;>trivial
    |ok x v2=>
     obtain⟨_,hn2,_⟩:=h.size _ _ _ _ hrun
     exact return_out x hn2 hfr hcs
def OutP(P:Program)(S:FuncId→Prop)(cs0:List Frame):GStep→Prop
 |.go g1 v1 _=>Went P S cs0 g1 v1∧pan g1.frame
 |.ended ..=>True
 |_=>False
theorem OutP.after{cs0:List Frame}{es:Array Event}{st:GStep}(h:OutP P S cs0 st):OutP P S cs0 (GStep.after es st):=by cases st<;>exact h
theorem pan_out{m:Bool}{fr:Frame}{cs:List Frame}{v:World}(hn:NV (kd P S) v)(hp:pan fr)(hdef:∀d∈fr.defers,DefOK d)(hcs:∀c∈cs,FrameGood P S c)(hb:cs≠[]∨fr.defers≠[]):OutP P S cs (unwind P m fr cs none v):=by
 obtain⟨ch,hm⟩:=hp
 unfold unwind
 cases hd:fr.defers with
 |cons d ds=>
  have hdef':∀x∈ds,DefOK x:=fun x hx=>hdef x (by rw[hd];exact List.mem_cons_of_mem _ hx)
  rcases hdef d (by rw[hd];exact List.mem_cons_self ..) with rfl|⟨r,hr⟩
  .obtain⟨o,es,e⟩:=callDeferred_stuck P {fr with defers:=ds} cs none v
   show OutP P S cs (callDeferred P {fr with defers:=ds} cs none stuckDef v)
   rw[e]
   trivial
  .obtain⟨t,as⟩:=d
   cases hr
   have h:=takes_out (P:=P) (fr:=fr) (r:=r) hn hcs hdef' (.inr ⟨ch,hm⟩)
   revert h
   dsimp only
   generalize (Instr.takeDeferred r).runT P v #[]=z
   obtain⟨z,es0⟩:=z
   cases z with
   |halt x v2=>exact fun _=>OutP.after trivial
   |ok calls v2=>exact fun h=>OutP.after (st:=.go _ _ _) ⟨h,ch,hm⟩
 |nil=>
  dsimp only
  rw[hm]
  dsimp only
  split
  .trivial
  .cases cs with
   |nil=>rcases hb with h|h<;>exact absurd (by first|rfl|exact hd) h
   |cons c rest=>exact⟨out_raise_to (es:=#[]) _ (last_pop rfl (.inr (.inr ⟨_,rfl⟩))) hn (hcs c (List.mem_cons_self ..)).defers (fun x hx=>hcs x (List.mem_cons_of_mem _ hx)),raise_pan _ _⟩
theorem leave_out{m:Bool}{fr c0:Frame}{cs:List Frame}{v:World}(hn:NV (kd P S) v)(hfr:FrameGood P S fr)(hcs:∀c∈c0::cs,FrameGood P S c)(ro:Option Nat)(jump:Option Code)(hj:∀c,jump=some c→CodeOK P S c)(why:String) :
  Out P S (c0::cs)
   (match ro with
   |none=>if (match jump with|none|some .ret=>true|_=>false)=true then GStep.go {frame:={fr with mode:=.returning},callers:=c0::cs,status:=.running,dying:=none} v else .ended (.stuck why (fr.pos P)) v
   |some l=>
    let (r,es):=(Instr.endRound l jump).runT P v #[]
    GStep.after (seen P fr.fn es) <| match r with
    |.ok x w=>doReturn P m fr (c0::cs) none x w
    |.halt _ w=>.ended (.stuck "range over a function: no such loop" (fr.pos P)) w):=by
 cases ro with
 |none=>exact ite_out (out_good hn ⟨hfr.items,hfr.defers,trivial,hfr.kind⟩ hcs) trivial
 |some l=>
  dsimp only
  have h:=RunRel.of (r_endRound (P:=P) (f:=id) (K:=kd P S) l jump hj) inj_id (sim_same hn)
  generalize hrun:(Instr.endRound l jump).runT P v #[]=z
  obtain⟨z,es0⟩:=z
  refine Out.after ?_
  cases z with
  |halt x v2=>trivial
  |ok x v2=>
   obtain⟨_,hn2,_⟩:=h.size _ _ _ _ hrun
   exact return_out x hn2 hfr hcs
theorem exec_out(hz:ZeroOK P){m:Bool}{fr c0:Frame}{cs:List Frame}{v:World}(hn:NV (kd P S) v)(hS:SOK P S)(hfr:FrameGood P S fr)(hcs:∀c∈c0::cs,FrameGood P S c)(hm:fr.mode=.run)(hns:NotSp fr)(hl:∀g,fr.about P v=some g→S g):Out P S (c0::cs) (stepG.exec P m true fr (c0::cs) none v):=by
 have hs:=sim_same hn
 have hleave:=fun jump hj why=>leave_out (m:=m) hn hfr hcs fr.roundOf jump hj why
 have hi:=hfr.items
 have hto:∀{k:List Item},(∀i∈k,ItemOK P S i)→Out P S (c0::cs) (.go {frame:={fr with todo:=k},callers:=c0::cs,status:=.running,dying:=none} v):=fun{k} hk=>out_good hn (hfr.to hk) hcs
 have happ:∀{s s':Sem Next},RunRel P id (kd P S) (ToNext id (kd P S)) s s' v v→Out P S (c0::cs) (stepG.apply P true fr (c0::cs) none s v):=fun h=>apply_out h hS hfr hcs
 have hfin:Out P S (c0::cs) (.go {frame:=fr.finish undef,callers:=c0::cs,status:=.running,dying:=none} v):=out_good hn (hfr.finish undef) hcs
 obtain⟨fn0,tmps,todo,defers,md,kind,ro⟩:=fr
 cases todo with
 |nil=>
  unfold stepG.exec
  exact hleave none (fun c h=>by cases h) _
 |cons i k=>
  have hi0:ItemOK P S i:=hi i (List.mem_cons_self ..)
  have hk:∀j∈k,ItemOK P S j:=fun j hj=>hi j (List.mem_cons_of_mem _ hj)
  have hk1:∀j,ItemOK P S j→∀x∈j::k,ItemOK P S x:=fun j hj x hx=>by
   rcases List.mem_cons.1 hx with rfl|hx
   .exact hj
   .exact hk x hx
  have hk2:∀j j',ItemOK P S j→ItemOK P S j'→∀x∈j::j'::k,ItemOK P S x:=fun j j' hj hj' x hx=>by
   rcases List.mem_cons.1 hx with rfl|hx
   .exact hj
   .exact hk1 j' hj' x hx
  unfold stepG.exec
  cases i with
  |code cd=>
   have hcd:CodeL P S cd:=hi0
   cases cd with
   |ret=>exact hleave (some .ret) (fun c h=>by cases h;trivial) _
   |skip=>exact hto hk
   |label l=>exact hto hk
   |seq a b=>exact hto (k:=.code a::.code b::k) (hk2 _ _ hcd.1 hcd.2)
   |cond x thn els=>
    dsimp only
    generalize Frame.eval _ x=z
    cases z with
    |bool b=>exact hto (k:=.code (if b then thn else els)::k) (hk1 _ (by cases b;exact hcd.2.2;exact hcd.2.1))
    |_=>trivial
   |block id body=>exact hto (k:=.code body::.inBlock id::k) (hk2 _ _ hcd trivial)
   |loop body=>exact hto (k:=.code body::.inLoop body::k) (hk2 _ _ hcd hcd)
   |scope body=>exact hto (k:=.code body::.inScope body::k) (hk2 _ _ hcd hcd)
   |exit id=>
    dsimp only
    cases he:exitTo id k with
    |none=>exact hleave (some (.exit id)) (fun c h=>by cases h;trivial) _
    |some k'=>exact hto (exitTo_ok hk he)
   |goto l=>
    dsimp only
    cases he:gotoIn l k with
    |none=>exact hleave (some (.goto l)) (fun c h=>by cases h;trivial) _
    |some k'=>exact hto (gotoIn_ok hk he)
   |rangeFunc x ps a b=>
    have h:=RunRel.of (r_enterLoop (P:=P) (f:=id) (K:=kd P S) fn0 tmps ps a b hcd.2.1 hcd.2.2 ro) inj_id hs
    dsimp only
    generalize hrun:(Instr.enterLoop fn0 tmps ps a b ro).runT P v #[]=z
    obtain⟨z,es0⟩:=z
    refine Out.after ?_
    cases z with
    |halt y v2=>trivial
    |ok y v2=>
     obtain⟨l,mark⟩:=y
     obtain⟨_,hnv,b0,_,hmk⟩:=h.size _ _ _ _ hrun
     have hrun':(Instr.enterLoop fn0 tmps ps a b ro).run P v=.ok (l,mark) v2:=by rw[←Sem.runT_fst P _ v #[],hrun]
     have hfr':FrameGood P S ⟨fn0,tmps,.inRangeFunc l::k,mark++defers,md,kind,ro⟩:=⟨hk1 _ trivial,fun d hd=>by
      rcases List.mem_append.1 hd with hd|hd
      .exact .inr (hmk d hd)
      .exact hfr.defers d hd,hfr.mode,hfr.kind⟩
     exact apply_out (run_range (fr:=⟨fn0,tmps,.inRangeFunc l::k,mark++defers,md,kind,ro⟩) inj_id fix_id hz (sim_same hnv) hS hcd.1 (fun _ _=>valMet_id _) l (fun d g h1 h2=>hl g (by
      cases hm
      have h1':resolve (Frame.eval ⟨fn0,tmps,.code (.rangeFunc x ps a b)::k,defers,.run,kind,ro⟩) {callee:=.value x,args:=#[.const (.func (.yield l) #[] #[])],argTypes:=#[]} 0=pure d:=h1
      simp only[Frame.about,hrun']
      rw[h1']
      exact h2))) hS hfr' hcs
   |refuse why=>trivial
   |region rid ops draw=>
    cases draw with
    |false=>exact hto (k:=.inRegion ops (List.range ops.size)::k) (hk1 _ hcd)
    |true=>
     have h:=RunRel.of (r_choose (P:=P) (f:=id) (K:=kd P S) (.order fn0 rid)) inj_id hs
     have e1:=Sem.runT_fst P (choose (.order fn0 rid)) v #[]
     dsimp only
     simp only[Bool.not_true,Bool.false_eq_true,if_false]
     rw[←e1]
     generalize hrun:(choose (.order fn0 rid)).runT P v #[]=z
     obtain⟨z,es0⟩:=z
     cases z with
     |halt x v2=>trivial
     |ok n v2=>
      obtain⟨_,hn2,_⟩:=h.size _ _ _ _ hrun
      exact out_good hn2 ⟨hk1 (.inRegion ops _) hcd,hfr.defers,hfr.mode,hfr.kind⟩ hcs
  |inBlock id=>exact hto hk
  |inScope body=>exact hto hk
  |inLoop body=>exact hto (k:=.code body::.inLoop body::k) (hk2 _ _ hi0 hi0)
  |inRangeFunc l=>trivial
  |beginRound=>
   cases ro with
   |none=>exact happ (s':=(stuck "" : Sem Next)) (.dies hs (Dies.bind (dies_stuck _) _))
   |some l=>exact happ (.of (r_skip (r_beginRound l)) inj_id hs)
  |endRangeFunc l=>
   have h:=RunRel.of (r_endLoop (P:=P) (f:=id) (K:=kd P S) l) inj_id hs
   dsimp only
   generalize hrun:(Instr.endLoop l).runT P v #[]=z
   obtain⟨z,es0⟩:=z
   refine Out.after ?_
   cases z with
   |halt x v2=>
    obtain⟨_,hn2⟩:=h.noInit _ _ _ _ hrun
    cases x<;>first|trivial|exact out_raise hn2 hfr.defers hcs _
   |ok jump v2=>
    obtain⟨_,hn2,b0,_,hjk⟩:=h.size _ _ _ _ hrun
    refine out_good hn2 ⟨fun i hi'=>?_,hfr.defers,hfr.mode,hfr.kind⟩ hcs
    rcases List.mem_append.1 hi' with h1|h1
    .cases jump with
     |none=>cases h1
     |some c1=>obtain rfl:=List.mem_singleton.1 h1;exact CodeOK.loose (hjk c1 rfl)
    .exact hk i h1
  |call d a r s=>exact hi0.elim
  |extern r s=>exact hi0.elim
  |inRegion ops todo=>
   cases todo with
   |nil=>exact hto hk
   |cons j rest=>
    refine ite_out ?_ hfin
    unfold stepG.oper
    dsimp only[Frame.oper?]
    cases ho:ops[j]? with
    |none=>trivial
    |some o=>
     have hoo:OperOK P S o:=(hi0 o (Array.mem_of_getElem? ho)).resolve_right (hns hm _ _ _ _ _ rfl ho)
     have hrun:=run_oper (fr:=⟨fn0,tmps,.inRegion ops (j::rest)::k,defers,md,kind,ro⟩) inj_id fix_id hz hs hS hoo (fun _ _=>valMet_id _) (fun c d g h1 h2 h3=>hl g (by
      cases hm
      simp only[Frame.about,ho,h1]
      rw[h2]
      exact h3))
     have hgen:=happ hrun
     dsimp only
     split
     .rename_i l c1 hc1
      have:=hoo.1
      rw[hc1] at this
      exact this.elim
     .exact hgen
theorem stepG_out(hz:ZeroOK P)(hS:SOK P S){m:Bool}{g:Goroutine}{v:World}(hn:NV (kd P S) v)(hg:GOK P S g)(hb:g.callers≠[])(hns:NotSp g.frame)(hl:∀x,g.frame.about P v=some x→S x):Out P S g.callers (stepG P m g v):=by
 obtain⟨fr,callers,status,dying,offers⟩:=g
 obtain⟨hfr,hcs,hd⟩:=hg
 cases hd
 cases callers with
 |nil=>exact absurd rfl hb
 |cons c cs=>
  unfold stepG
  dsimp only
  have hmd:=hfr.mode
  cases hm:fr.mode with
  |run=>exact exec_out hz hn hS hfr hcs hm hns hl
  |returning=>exact unwind_out hn hfr hcs
  |panicking ch=>rw[hm] at hmd;exact hmd.elim
theorem stepG_pan{m:Bool}{g:Goroutine}{v:World}(hn:NV (kd P S) v)(hd:g.dying=none)(hp:pan g.frame)(hdef:∀d∈g.frame.defers,DefOK d)(hcs:∀c∈g.callers,FrameGood P S c)(hb:g.callers≠[]∨g.frame.defers≠[]):OutP P S g.callers (stepG P m g v):=by
 obtain⟨fr,callers,status,dying,offers⟩:=g
 cases hd
 obtain⟨ch,hm⟩:=hp
 unfold stepG
 dsimp only at hm⊢
 simp only[hm]
 exact pan_out hn ⟨ch,hm⟩ hdef hcs hb
end
end Go.Ren
