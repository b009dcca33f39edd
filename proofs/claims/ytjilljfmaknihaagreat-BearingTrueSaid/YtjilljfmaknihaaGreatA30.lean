import Derived.Test.YtjilljfmaknihaaGreatA29
import Derived.Test.YtjilljfmaknihaaGreatA26
set_option linter.all false
set_option maxHeartbeats 4000000
namespace Go.Crew
open Go.Conc Go.ConcN Go.Ren
open Go.ConcR (KK wgBlock WgAt stA smA rd wr DC0)
section
variable{P:aH}
theorem VM:QuitsD P 1 0 (G (under P) []):=by refine .inr ⟨rfl,{ (G (under P) []) with status:=.finished},#[],by simp,fun w=>?_,⟨rfl,rfl⟩⟩;simp[G,stepG,unwind,under,goexitEntry,GStep.after,seen,Frame.catches];rfl
theorem Tn{F fn}(hm:F.mode=.returning)(hd:F.defers=[])(hk:F.kind=.deferred)(hf:P.funcs[F.fn]?=some fn)(hr:fn.results=#[]):QuitsD P 2 0 (G F [under P]):=by refine .ctl rfl (fun w=>?_) VM;have h1:=results_none hr F.tmps P w;have h2:=events_results_none (P:=P) (w:=w) hr F.tmps;simp[G,stepG,unwind,doReturn,hm,hd,hk,hf,h1,h2,under,goexitEntry,GStep.after,seen]
end
section
variable[aX]{P:aH}{ty:aZ}{Wg Ch:Nat}{Ro:Nat->Prop}
def kV(P:aH)(ty:aZ)(Wg Ch:Nat)(Ro:Nat->Prop)(kt:Kind):Kind:=⟨false,kt.X,fun g w own=>¬own Wg->¬own Ch->Live ty Wg Ch w->bu P Ro (Live ty Wg Ch) false kt ⟨g,w,own⟩⟩
theorem Rf{w w'}(h1:w'.heap[Wg]?=w.heap[Wg]?)(h2:w'.heap[Ch]?=w.heap[Ch]?)(h:Live ty Wg Ch w):Live ty Wg Ch w':=by have⟨⟨st,sm,a⟩,cap,buf,s,r,tm,b⟩:=h;exact⟨⟨st,sm,by unfold WgAt at a⊢;rw[h1];exact a⟩,cap,buf,s,r,tm,by rw[h2];exact b⟩
theorem live_low{w}(h:Live ty Wg Ch w):Wg<w.heap.size/\Ch<w.heap.size:=by have⟨⟨st,sm,b⟩,cap,buf,s,r,tm,a⟩:=h;exact⟨(aP.1 b).1,(aP.1 a).1⟩
theorem adE{b}(d:b.quiet=false){g w own}(h:bu P Ro (Live ty Wg Ch) false (kV P ty Wg Ch Ro b) ⟨g,w,own⟩)(e:¬own Wg)(f:¬own Ch)(hl:Live ty Wg Ch w):bu P Ro (Live ty Wg Ch) false b ⟨g,w,own⟩:=by
 have key:∀{g} {w} {own},Ren.Way P false Ro (Live ty Wg Ch) false b.X (kV P ty Wg Ch Ro b).Stop g w own->¬own Wg->¬own Ch->Live ty Wg Ch w->Ren.Way P false Ro (Live ty Wg Ch) b.quiet b.X b.Stop g w own:=by
  intro g w own h;induction h with
  |@stop g w own hs h=>exact fun e f hl=>h w (bP.refl _ _ _) hl e f hl
  |@step g w own hs G W E he h c=>
  intro e f hl;rw[d] at c⊢;refine .step hs G W E he fun w1 hr a=>?_;have⟨h1,h2⟩:=live_low a;have hg:=(he w1 hr a).2;refine c w1 hr a (fun hb=>?_) (fun hb=>?_) (Rf (hg.keep Wg h1 e) (hg.keep Ch h2 f) a)
  .rcases hb with hb|hb
   .exact e hb
   omega
  rcases hb with hb|hb
  .exact f hb
  omega
 exact key h e f hl
end
open Go.Conc.Lib Go.ConcR.Gen Go.ConcN.Gen
section
variable{P:aH}{L:WgLink}
theorem aih(H:WgLib P L){F:aC}(hm:F.mode=.returning)(Wg)(cs)(w):stepG P false (G {F with defers:=[doneD L.done Wg]} cs) w=.go (G ((baseD L.done).at ⟨#[.pointer (some ⟨Wg,0,none⟩)]++Array.replicate 3 undef,[]⟩ [.code (body_done L)]) ({F with defers:=[]}::cs)) w #[]:=by
 have h1:Frame.enter P L.done #[.pointer (some ⟨Wg,0,none⟩)] .deferred=(baseD L.done).at ⟨#[.pointer (some ⟨Wg,0,none⟩)]++Array.replicate 3 undef,[]⟩ [.code (body_done L)]:=by rw[enter_atD _ H.f_done rfl];rfl
 have h2:(invoke (.fn (.func L.done) #[]) _).runT P w #[]=(.ok (.enter L.done #[.pointer (some ⟨Wg,0,none⟩)]) w,#[]):=G6 H.f_done (by simp[doneFn]) rfl _ w #[];rw[<-h1];have⟨fn,tmps,todo,defers,mode,kind,ro⟩:=F;subst hm;unfold Conc.G stepG unwind callDeferred doneD;dsimp only;rw[aU (by simp)];simp only[h2,GStep.after,seen_none];simp
end
section
variable[jE][aX]{P:aH}{S:aI->Prop}{L:WgLink}{Wg Ch:Nat}{Ro:Nat->Prop}{n0:Nat}{f0:Nat->Nat}{w0:ay}
theorem KW.leave(H:WgLib P L)(n:Ch≠Wg)(h:¬Ro Wg){fr v fn}(hm:fr.mode=.returning)(hk:fr.kind=.deferred)(hf:P.funcs[fr.fn]?=some fn)(hr:fn.results=#[]):KW P S L.tWg Wg Ch Ro [under P] [doneD L.done Wg] (kV P L.tWg Wg Ch Ro (kN (SR0 P L.tWg Wg Ch Ro))) n0 f0 w0 fr v:=by
 intro f w own hp hR m k hn;refine Ren.Way.stop hp.ok.run fun w1 i j o hC hl=>?_;rw[mV];have a:(frame f fr).mode=.returning:=by simp[frame,hm,mode]
 have l:=Tn (F:={frame f fr with defers:=[]}) a rfl hk hf hr;let c:aC:={frame f fr with defers:=[]};let ptr:ae:=Value.pointer (some {block:=Wg,off:=0});let A:Act:={tmps:=#[ptr]++Array.replicate 3 undef,defers:=[]};refine Ren.Way.step rfl (fun _=>Conc.G _ _) id (fun _=>#[]) (fun w2 _ _=>⟨aih H a Wg [under P] w2,⟨fun _=>⟨rfl,rfl⟩,aA _,fun _ _ _=>rfl,rfl,fun b hb=>hb,fun e he=>(by simp at he),.refl _,.refl _⟩⟩) fun w2 _ g=>?_;have d:more own w2 (id w2)=own:=zO own w2;rw[d];exact Qu (c:=c) (cs:=[under P]) (w0:=w2) H n ⟨h,o⟩ a l w2 ⟨bP.refl _ _ _,g⟩
end
section
variable{P:aH}
theorem afB{F ops i rest k o ch x Ch}(hm:F.mode=.run)(b:F.roundOf=none)(ht:F.todo=.inRegion ops (i::rest)::k)(ho:ops[i]?=some o)(hw:Region.wanted o (yielded ops F.tmps)=true)(a:o.op=.send ch x)(hc:F.eval ch=.chan (some Ch))(m)(cs)(w):stepG P m (G F cs) w=.comm (G F cs) #[scase Ch (F.eval x) (.tuple #[])] true .send w #[]:=by
 have⟨fn,tmps,todo,defers,mode,kind,ro⟩:=F;subst hm b ht;unfold Conc.G stepG stepG.exec;dsimp only;rw[aY (by rw[ho];simpa using hw)];unfold stepG.oper Frame.oper?;dsimp only;rw[ho];dsimp only;generalize (Frame.mk fn tmps (.inRegion ops (i::rest)::k) defers .run kind none).eval=d at hc⊢;have hr:(execOp d o).run P w=.ok (.comm #[scase Ch (d x) (.tuple #[])] true .send) w:=by unfold execOp;rw[a];dsimp only;rw[hc];rfl
 have c:(execOp d o).events P w #[]=#[]:=by unfold execOp;rw[a];dsimp only;rfl
 unfold stepG.apply;simp[Sem.runT_eq,hr,c,je];have hs:=seen_none P fn;simp[GStep.after,hs]
end
section
variable[jE][aX]{P:aH}{S:aI->Prop}{ty:aZ}{Wg Ch:Nat}{Ro:Nat->Prop}{B:List aC}{D:List xu}{n0:Nat}{f0:Nat->Nat}{w0:ay}
theorem KW.send{fr v ops i rest kk o ch x c0 u}(hm:fr.mode=.run)(q:fr.roundOf=none)(ht:fr.todo=.inRegion ops (i::rest)::kk)(ho:ops[i]?=some o)(hw:Region.wanted o (yielded ops fr.tmps)=true)(t:o.op=.send ch x)(C:ed P (Nm S) ch)(hx:ed P (Nm S) x)(p:fr.eval ch=.chan (some c0))(h:c0<n0)(A:f0 c0=Ch)(n:fr.eval x=u)(hu:dI u=true)(next:KW P S ty Wg Ch Ro B D (kV P ty Wg Ch Ro (kN (SR0 P ty Wg Ch Ro))) n0 f0 w0 (fr.finish undef) v):KW P S ty Wg Ch Ro B D (kV P ty Wg Ch Ro (kN (P5 P ty Wg Ch Ro (some u)))) n0 f0 w0 fr v:=by
 intro f w own hp I l j hn;have E:=bT h hn;refine Ren.Way.stop hp.ok.run fun w1 s H K M hl=>?_;refine Ren.Way.stop hp.ok.run fun w2 r z=>?_;have a:=bP.trans s r;have⟨d,_,J⟩:=hp.rely a B;rw[J,mV];have m:Region.wanted o (yielded ops (vals (bH f v w2) fr.tmps))=true:=by rw[gz];exact hw
 have g:∀y,ed P (Nm S) y->({frame _ fr with defers:=D}:aC).eval y=val _ _:=fun y hy=>by
  have h1:=iU d.fix (fun _ _=>rfl) fr hy;have h2:({frame (bH f v w2) fr with defers:=D}:aC).eval y=(frame (bH f v w2) fr).eval y:=by cases y<;>rfl
  rw[h2,h1]
 have hst:=afB (P:=P) (F:={frame _ fr with defers:=D}) (i:=i) (rest:=rest) (k:=kk.map (item (bH f v w2))) (Ch:=Ch) (by simp[frame,hm,mode]) (by simp[frame,q]) (by simp[frame,ht,item]) ho m t (by
  rw[g ch C,p];have:bH f v w2 c0=Ch:=by rw[eG E,j c0 h,A]
  simp[this]) false B w2
 rw[g x hx,n,cu hu] at hst;refine⟨.tuple #[],hst,?_⟩;have e:({frame (bH f v w2) fr with defers:=D}:aC).finish undef={frame (bH f v w2) (fr.finish undef) with defers:=D}:=by have:=dQ (f:=bH f v w2) fr undef hp.ok.wX.frame.items;rw[fP] at this;rw[yN,this]
 have c:Conc.served (uH D (Conc.G (frame (bH f v w2) fr) B)) undef=uH D (bF (bH f v w2) B (Conc.G (fr.finish undef) [bottom])):=by rw[mV];show Goroutine.mk (({frame (bH f v w2) fr with defers:=D}:aC).finish undef) B .running none none=_;rw[e];rfl
 rw[c];have h1:=next (bH f v w2) w2 own ⟨hp.ok.put Dj,d.inj,d.fix,d.rq,d.held⟩ (I.trans ⟨a.size,fun b hb ho=>?_,a.cells,a.chans⟩) (fun b hb=>⟨bT (l b hb).1 a.size,(l b hb).2⟩) (fun i hi=>(eG (bT hi hn)).trans (j i hi)) hn
 .exact adE rfl h1 K M z
 rcases ho with ho|ho
 .exact a.keep b hb (.inl ho)
 exact ho.elim
end
section
variable[jE]{P:aH}{S:aI->Prop}
theorem adg{fr cs fn args v k}(hk:k=.normal\/k=.deferred)(ok:Ok P S (Conc.G fr cs) v)(hgood:aG P S (Frame.enter P fn #[] .normal))(ha:rV S v.heap.size args):Ok P S (Conc.G (Frame.enter P fn args k) [bottom]) v:=by
 refine⟨ok.nv,⟨⟨fun i hi=>hgood.items i (by simpa[Conc.G,Frame.enter] using hi),fun d hd=>(by simp[Conc.G,Frame.enter] at hd),trivial,hk⟩,fun c hc=>?_,rfl⟩,rfl,⟨[],rfl⟩,ok.vg,fun H b h h' a=>?_,ok.clean⟩
 .rw[eY.1 hc];exact pX
 have⟨_,h2⟩:=ok.bound H b h h' a;refine⟨?_,h2⟩;unfold uG;simp[yT,mi,Conc.G,fU,iw];have f:=@gK _ H aj _ P h fn args k;have e:=@gK _ b aj _ P h' fn args k;exact⟨by rw[f,e,ha H b h h' a],by rw[@fQ _ _ H,@fQ _ _ b]⟩
end
section
variable[jE][aX]{P:aH}{S:aI->Prop}{ty:aZ}{Wg Ch:Nat}{Ro:Nat->Prop}
theorem KW.birth{own f fr cs v w}(hp:eX P S Ro own aX.ch f (Conc.G fr cs) v w)(d:∀b,Ro b->b<w.heap.size/\¬own b)(n:¬own Wg)(k:¬own Ch)
  {wc fn pre caps C g} (l:g.quiet=false) (hf:P.funcs[wc]?=some fn) (a:(fn.name == "runtime.NumGoroutine")=false) (hb:fn.body.isNone=false)
  (hgood:aG P S (Frame.enter P wc #[] .normal)) (hargs:rV S v.heap.size (pre++caps)) (o:∀b x,¬C b->own (f b)->v.heap[b]?=some x->isCells x=true)
  (h:KW P S ty Wg Ch Ro [under P] [] (kV P ty Wg Ch Ro g) v.heap.size f w (Frame.enter P wc (pre++caps) .deferred) (lG (fun b=>¬C b/\own (f b)) v)) :
  bu P Ro (Live ty Wg Ch) false g ⟨born P (deferred f {target:=.fn (.func wc) caps,args:=pre}),w,given own f C⟩:=by
 have hok:=adg (.inr rfl) hp.ok hgood hargs;have hg:=eX.ad2 hp o hok;have hst:∀w1,stepG P false (born P (deferred f {target:=.fn (.func wc) caps,args:=pre})) w1=.go (bF f [under P] (Conc.G (Frame.enter P wc (pre++caps) .deferred) [bottom])) w1 #[]:=fun w1=>by rw[mV,gK,vO];exact ag3 hf a hb false w1
 refine Ren.Way.step rfl (fun _=>bF f [under P] _) id (fun _=>#[]) (fun w1 _ _=>⟨hst w1,⟨fun _=>⟨rfl,rfl⟩,aA _,fun _ _ _=>rfl,rfl,fun b hb=>hb,fun e he=>(by simp at he),.refl _,.refl _⟩⟩) fun w1 hr hl=>?_;have c:more _ w1 (id w1)=given own f C:=zO _ w1;rw[c];have⟨j,_,m⟩:=hg.rely hr [under P];have h1:=h _ w1 _ j ⟨hr.size,fun b hb ho=>ho.elim (fun h=>hr.keep b hb (.inl h)) fun h=>h.elim,hr.cells,hr.chans⟩ (fun b hb=>⟨bT (d b hb).1 hr.size,fun h=>(d b hb).2 h.1⟩) (fun i hi=>eG (by rw[mQ];exact hi)) (by rw[mQ];exact aA _);have h2:=adE l h1 (fun h=>n h.1) (fun h=>k h.1) hl;have e:uH [] (bF (bH f (lG (fun b=>¬C b/\own (f b)) v) w1) [under P] (Conc.G (Frame.enter P wc (pre++caps) .deferred) [bottom]))=bF f [under P] (Conc.G (Frame.enter P wc (pre++caps) .deferred) [bottom]):=by rw[m,mV];rfl
 rw[e] at h2;exact h2
end
section
variable[aX]{P:aH}{L N:List aI}{ty:aZ}{Wg Ch:Nat}{Ro:Nat->Prop}{B:List aC}{D:List xu}{k:Kind}{n0:Nat}{f0:Nat->Nat}{w0:ay}
theorem KW.item(f:bz P)(hS:mM P (·∈L))(g:k.quiet=false)(i:∀e r,aX.ch r->yY r e->k.X e){b:aC}{a x kk c v}(d:b.roundOf=none)(hx:Ev.Yb x=true)(ht:Vo (x::kk)=true)(h:∀w,∃es,stepG P true (Conc.G (b.atR a (x::kk)) [bottom]) w=.go (Conc.G (b.atR a c) [bottom]) w es)(next:∀t,@KW (aV P L N) _ P (·∈L) ty Wg Ch Ro B D k n0 f0 w0 (b.atR a c) (wt v t)):@KW (aV P L N) _ P (·∈L) ty Wg Ch Ro B D k n0 f0 w0 (b.atR a (x::kk)) v:=by have h1:=fun t=>fB (h (wt v t));refine @KW.step (aV P L N) _ _ _ _ _ _ _ _ _ _ _ _ _ f hS g i _ _ (Ev.pV hx) (fun _=>b.atR a c) (fun t=>wt v t) (fun t=>Classical.choose (h _)) h1 (fun _=>trivial) (fun _ hc=>Ren.dH hc rfl) (fun _=>.of rfl) (fun t f' w1 w2 es _ _ _ _ h2=>?_) next;exact RI (fr:=b.atR a _) D rfl d ht f' w1 w2 es h2
theorem KW.op(l:bz P)(hS:mM P (·∈L))(n:k.quiet=false)(p:∀e r,aX.ch r->yY r e->k.X e){b:aC}{a kk ops i rest o v}(j:b.roundOf=none)(ho:ops[i]?=some o)(hw:Region.wanted o (yielded ops a.tmps)=true)(hc:Jv o.op=false)(hb:jw P L o=true)(f:∀c,o.op≠.defer c){M:(Nat->Question->Nat)->Next}{x:(Nat->Question->Nat)->ae}{V:(Nat->Question->Nat)->ay}(hr:∀t,(execOp a.eval o).run P (wt v t)=.ok (M t) (V t))(m:∀t,Ev.Gives (M t) (x t))(hcl:∀t,Ren.Clean (·∈L) v->Ren.Clean (·∈L) (V t))(hst:∀t,Ev.mJ v (V t))(next:∀t,@KW (aV P L N) _ P (·∈L) ty Wg Ch Ro B D k n0 f0 w0 (b.atR (a.put o.dst (x t)) (.inRegion ops rest::kk)) (V t)):@KW (aV P L N) _ P (·∈L) ty Wg Ch Ro B D k n0 f0 w0 (b.atR a (.inRegion ops (i::rest)::kk)) v:=by have h0:=fun t=>Ev.mW (b:=b) (k:=kk) (cs:=[bottom]) (rest:=rest) ho hw f (hr t) (m t);have h1:=fun t=>fB (h0 t);have h:(b.atR a (.inRegion ops (i::rest)::kk)).eval=a.eval:=kH b a _;refine @KW.step (aV P L N) _ _ _ _ _ _ _ _ _ _ _ _ _ l hS n p _ _ (Ev.kF ho hc hb) (fun t=>b.atR _ _) V (fun t=>Classical.choose (h0 t)) h1 (fun _=>trivial) hcl hst (fun t f' w1 w2 es z y u s h2=>?_) next;refine @ab2 _ P _ l hS false B D (b.atR a (.inRegion ops (i::rest)::kk)) ops i rest kk o rfl j rfl ho (IE hb) (fun _ _=>lL _) (fun w c d g q=>?_) v V (fun t=>b.atR _ _) (fun _=>trivial) (fun t=>⟨M t,x t,by rw[h];exact hr t,m t⟩) t f' w1 w2 es z y u s h2;rw[q] at hc;cases hc
end
section
variable{P:aH}{L N:List aI}
theorem Rz{fr cs ops i rest k o c}(hm:fr.mode=.run)(ht:fr.todo=.inRegion ops (i::rest)::k)(ho:ops[i]?=some o)(f:o.op=.call c)(hb:jw P L o=true)(j:∀(w) d g,resolve fr.eval c o.type=pure d->d.target.leads P w d.args=some g->g∉N)(b:∃d,resolve fr.eval c o.type=pure d):@Fit (aV P L N) P (G fr cs):=by
 refine⟨N9 fun a i' rest' k' o' h1 h2=>?_,fun v' x h=>?_⟩
 .have e:fr.todo=.inRegion a _::k':=h1;rw[ht] at e;have⟨m,_⟩:=jF e;obtain⟨rfl,l⟩:=PQ m;obtain⟨rfl,_⟩:=jF l;rw[ho] at h2;obtain rfl:=aN h2;exact hb
 have h':fr.about P v'=some x:=h;unfold Frame.about at h';rw[hm,ht] at h';dsimp only at h';rw[ho] at h';have⟨d,hd⟩:=b;simp[f,hd,pure,Sem.run] at h';exact j v' d x hd h'
theorem abQ{b:aC}{a k cs w ops i rest o f args}(ho:ops[i]?=some o)(hw:Region.wanted o (yielded ops a.tmps)=true)(hd:∀c,o.op≠.defer c)(hrun:(execOp a.eval o).run P w=.ok (.enter f args) w):∃es,stepG P true (G (b.atR a (.inRegion ops (i::rest)::k)) cs) w=.go (G (Frame.enter P f args .normal) (b.atR a (.inRegion ops (i::rest)::k)::cs)) w es:=by have h1:=PW (P:=P) (b:=b) (a:=a) (k:=k) (cs:=cs) (w:=w) (rest:=rest) ho hw;unfold Conc.G;rw[h1,Oper.semAt_eq _ _ _ hd];simp only[stepG.apply,Sem.runT_eq,hrun,je,GStep.after];exact⟨_,rfl⟩
end
section
variable[aX]{P:aH}{L N:List aI}{ty:aZ}{Wg Ch:Nat}{Ro:Nat->Prop}{B:List aC}{D:List xu}{k:Kind}{n0:Nat}{f0:Nat->Nat}{w0:ay}
theorem KW.aeI(I:bz P)(hS:mM P (·∈L))(J:k.quiet=false)(K:∀e r,aX.ch r->yY r e->k.X e){b:aC}{a kk ops i rest o w}(G:b.roundOf=none)(ho:ops[i]?=some o)(hw:Region.wanted o (yielded ops a.tmps)=true){c}(y:o.op=.call c)(hb:jw P L o=true){f args n}(j:∀w,(execOp a.eval o).run P w=.ok (.enter f ⟨n⟩) w){d}(q:resolve a.eval c o.type=pure d)(l:∀w g,d.target.leads P w d.args=some g->g=f)(C:f∈L)(F:f∉N){ρ h h'}{u:ae}(A:Ev.iL ρ args n)(hcl:Ev.iZ L args=true)(M:Ev.dF P f args h u h')(hr:Ev.HR ρ h w)(hu:Ev.lK ρ h.next h'.next)(next:∀ρ' v' w',Ev.Stp ρ h w ρ' h' w'->Ev.HR ρ' h' w'->Ev.VR ρ' u v'->@KW (aV P L N) _ P (·∈L) ty Wg Ch Ro B D k n0 f0 w0 (b.atR (a.put o.dst v') (.inRegion ops rest::kk)) w'):@KW (aV P L N) _ P (·∈L) ty Wg Ch Ro B D k n0 f0 w0 (b.atR a (.inRegion ops (i::rest)::kk)) w:=by
 have p:(b.atR a (.inRegion ops (i::rest)::kk)).eval=a.eval:=kH b a _;have v:∀z:xu,resolve a.eval c o.type=pure z->z=d:=fun z h1=>by rw[q] at h1;have h2:=bU (fun s:Sem xu=>s.run P w) h1;simp[Sem.run_pure] at h2;cases h2;rfl
 have E:∀c',o.op≠.defer c':=fun c'=>by rw[y];simp
 have h0:=fun t:Nat->Question->Nat=>abQ (b:=b) (k:=kk) (cs:=[bottom]) (rest:=rest) ho hw E (j (wt w t));refine @KW.call (aV P L N) _ P _ ty Wg Ch Ro B D k n0 f0 w0 I hS J K _ w
  (Rz rfl rfl ho y hb (fun w z g h1 h2=>?_) ⟨d,by rw[p];exact q⟩) ops i rest kk o rfl G rfl ho (IE hb) (fun _ _=>lL _) (fun w c' z g h1 h2 H=>?_) f _ (fun t=>by rw[p];exact j _)
  (fun t=>Classical.choose (h0 t)) (fun t=>fB (h0 t)) C (JC fun x hx=>Ev.iL.clean A hcl x (by simpa using hx)) (fun x w'=>∃ρ',Ev.Stp ρ h w ρ' h' w'/\Ev.HR ρ' h' w'/\Ev.VR ρ' u x)
  (fun x v1 t1 ⟨ρ',s1,s2,s3⟩=>⟨ρ',⟨s1.le,s1.next,s1.born,s1.size,s1.log⟩,s2.heap rfl,s3⟩) (fun t1=>?_) (fun x w' ⟨ρ',s1,_,_⟩=>Ev.mJ.TE s1 hr hu) fun x w' ⟨ρ',s1,s2,s3⟩ _=>?_
 .rw[p] at h1;rw[v z h1] at h2;rw[l w g h2];exact F
 .rw[y] at h1;cases h1;rw[p] at h2;rw[v z h2] at H;rw[l w g H];exact C
 .refine(M.calls (ρ:=ρ) (w:=wt w t1) A (hr.heap rfl) hu).mono ?_;rintro e w' ⟨v',ρ',rfl,s1,s2,s3⟩;exact⟨v',rfl,ρ',s1.heap rfl,s2,s3⟩
 have m:=pg b a ops i rest kk x;rw[ho] at m;simp[Option.bind_some] at m;rw[m];exact next ρ' x w' s1 s2 s3
theorem KW.opE(y:bz P)(hS:mM P (·∈L))(z:k.quiet=false)(A:∀e r,aX.ch r->yY r e->k.X e){ρ n t h h' o v ops i rest}{b:aC}{a}{kk:List ig}{w:ay}(p:b.roundOf=none)(e:(if Ev.xZ o.op then(Ev.sZ P (Ev.di t) o.op).map fun v=>(v,h) else Ev.zY P (Ev.di t) o.op h)=some (v,h'))(hc:Ev.YW P L t o=true)(ho:ops[i]?=some o)(hw:Region.wanted o (yielded ops a.tmps)=true)(ht:Ev.TR ρ n t a.tmps)(hr:Ev.HR ρ h w)(hu:Ev.lK ρ h.next h'.next)(next:∀ρ' v' w',Ev.Stp ρ h w ρ' h' w'->Ev.HR ρ' h' w'->Ev.VR ρ' v v'->@KW (aV P L N) _ P (·∈L) ty Wg Ch Ro B D k n0 f0 w0 (b.atR (a.put o.dst v') (.inRegion ops rest::kk)) w'):@KW (aV P L N) _ P (·∈L) ty Wg Ch Ro B D k n0 f0 w0 (b.atR a (.inRegion ops (i::rest)::kk)) w:=by
 have f:=hc;unfold Ev.YW at f;simp[aT,ET] at f;obtain⟨⟨hb,g⟩,_⟩:=f;have m:∀c,o.op≠.defer c:=fun c hh=>by
  split at e
  .cases hp:Ev.sZ P _ o.op with
   |none=>rw[hp] at e;cases e
   |some u=>exact Ev.jo hp c hh
  exact Ev.wW e c hh
 have does:∀d,Ev.afk P L ρ h (wt w d) _ v h':=fun d=>by
  have l:Ev.HR ρ h _:=hr.heap (Ev.uQ w d);split at e
  .cases hp:Ev.sZ P _ o.op with
   |none=>rw[hp] at e;cases e
   |some u=>rw[hp] at e;cases e;obtain⟨v',s,q⟩:=Ev.pure_ok (o:=o) (Ev.fA ht) hp _;exact⟨_,v',_,ρ,s,.inl rfl,.refl ρ h _ _ rfl,l,q,id⟩
  rename_i hp;exact Ev.VU hc (by simpa using hp) ht l e hu
 have h1:=fun d=>fB (does d);have h2:=fun d=>fB (h1 d);have C:=fun d=>fB (h2 d);have j:=fun d=>fB (C d);refine KW.op y hS z A p ho hw g hb m (M:=fun d=>Classical.choose _) (x:=fun d=>Classical.choose (h1 d)) (V:=fun d=>Classical.choose (h2 d)) (fun d=>(j d).1) (fun d=>(j d).2.1) (fun d hcl=>(j d).2.2.2.2.2 (Ren.dH hcl (Ev.uQ w d))) (fun d=>Ev.mJ.TE ((j d).2.2.1.heap (Ev.uQ w d)) hr hu) fun d=>?_;exact next _ _ _ ((j d).2.2.1.heap (Ev.uQ w d)) (j d).2.2.2.1 (j d).2.2.2.2.1
end
section
variable[aX]{P:aH}{ty:aZ}{Wg Ch:Nat}{Ro:Nat->Prop}
def P7(own:Nat->Prop)(w:ay):Prop:=∀b,aX.ch b->b<w.heap.size/\¬own b
def kO(P:aH)(ty:aZ)(Wg Ch:Nat)(Ro:Nat->Prop)(kt:Kind):Kind:=⟨false,kt.X,fun g w own=>¬own Wg->¬own Ch->P7 own w->Live ty Wg Ch w->bu P Ro (Live ty Wg Ch) true kt ⟨g,w,own⟩⟩
theorem TV{c}(f:c.quiet=false){g w own}(h:bu P Ro (Live ty Wg Ch) true (kO P ty Wg Ch Ro c) ⟨g,w,own⟩)(i:¬own Wg)(j:¬own Ch)(d:P7 own w)(hl:Live ty Wg Ch w):bu P Ro (Live ty Wg Ch) true c ⟨g,w,own⟩:=by
 have key:∀{g} {w} {own},Ren.Way P true Ro (Live ty Wg Ch) false c.X (kO P ty Wg Ch Ro c).Stop g w own->¬own Wg->¬own Ch->P7 own w->Live ty Wg Ch w->Ren.Way P true Ro (Live ty Wg Ch) c.quiet c.X c.Stop g w own:=by
  intro g w own h;induction h with
  |@stop g w own hs h=>exact fun i j d hl=>h w (bP.refl _ _ _) hl i j d hl
  |@step g w own hs G W E he h e=>
  intro i j d hl;rw[f] at e⊢;refine .step hs G W E he fun w1 hr a=>?_;have⟨h1,h2⟩:=live_low a;have hg:=(he w1 hr a).2;refine e w1 hr a (fun hb=>?_) (fun hb=>?_) (fun b hb=>⟨bT (d b hb).1 (bM hr.size hg.size),fun ho=>?_⟩) (Rf (hg.keep Wg h1 i) (hg.keep Ch h2 j) a)
  .rcases hb with hb|hb
   .exact i hb
   omega
  .rcases hb with hb|hb
   .exact j hb
   omega
  rcases ho with ho|ho
  .exact(d b hb).2 ho
  have:=bT (d b hb).1 hr.size;omega
 exact key h i j d hl
end
section
variable[jE][aX]{P:aH}{S:aI->Prop}{ty:aZ}{Wg Ch:Nat}{Ro:Nat->Prop}{k:Kind}{n0:Nat}{f0:Nat->Nat}{w0:ay}
def KO(P:aH)(S:aI->Prop)(ty:aZ)(Wg Ch:Nat)(Ro:Nat->Prop)(k:Kind)(n0:Nat)(f0:Nat->Nat)(w0:ay)(fr:aC)(cs:List aC)(v:ay):Prop:=∀(f:Nat->Nat) (w:ay) (own:Nat->Prop),eX P S Ro own aX.ch f (Conc.G fr cs) v w->bP Ro (fun _=>False) w0 w->(∀b,Ro b->b<w.heap.size/\¬own b)->(∀i,i<n0->f i=f0 i)->n0<=v.heap.size->bu P Ro (Live ty Wg Ch) true k ⟨bF f [] (Conc.G fr cs),w,own⟩
theorem KO.NW(n:bz P)(hS:mM P S)(p:k.quiet=false)(q:∀e r,aX.ch r->yY r e->k.X e){fr cs v}(ht:fO P S (fun g v'=>∃fr' cs',g=Conc.G fr' cs'/\KO P S ty Wg Ch Ro k n0 f0 w0 fr' cs' v'/\Ev.mJ v v') (Conc.G fr cs) v):KO P S ty Wg Ch Ro k n0 f0 w0 fr cs v:=by
 intro f w own hp s l j hn;refine VY n hS p q (C:=fun b=>∃o,v.heap[b]?=some o/\dB o=true)
  (fun g v' ⟨_,_,_,_,hst⟩ b ⟨o,h1,h2⟩ o' t=>hst b o h1 h2 o' t) hp l ht (fun b o h1 h2=>⟨o,h1,h2⟩) ?_;rintro g' v' f' w' own' ⟨fr',cs',rfl,hk,_⟩ d m c a h;exact hk f' w' own' d (s.trans m) c (fun i hi=>(a i (bT hi hn)).trans (j i hi)) (bM hn h)
end
def TU[aX]{P L N}(a:bz P)(hS:mM P (·∈L)){ty Wg Ch Ro k n0 f0 w0}(b:k.quiet=false)(c:∀e r,aX.ch r->yY r e->k.X e):Ev.iW P L N (@KO (aV P L N) _ P (·∈L) ty Wg Ch Ro k n0 f0 w0):=fun _ _ _ ht=>@KO.NW (aV P L N) _ _ _ _ _ _ _ _ _ _ _ a hS b c _ _ _ ht
open Go.RowKit
section
variable[jE][aX]{P:aH}{S:aI->Prop}{L:WgLink}{Ro:Nat->Prop}{Wg Ch:Nat}{pay:Nat->aB ae}
theorem KO.add(H:WgLib P L)(hCW:Ch≠Wg)(hRW:¬Ro Wg){v fr cs ops i n rest k o x b ats Next n0 f0 w0}(hm:fr.mode=.run)(hro:fr.roundOf=none)(hk:fr.kind≠.early)(ht:fr.todo=.inRegion ops (i::rest)::k)(ho:ops[i]?=some o)(hw:Region.wanted o (yielded ops fr.tmps)=true)(hop:o.op=.call {callee:=.value (.func L.add),args:=#[x,.const (.int .i64 1)],argTypes:=ats})(hx:ed P (Nm S) x)(hv:fr.eval x=.pointer (some ⟨b,0,none⟩))(hb0:b<n0)(hfb:f0 b=Wg)(after:KO P S L.tWg Wg Ch Ro (kO P L.tWg Wg Ch Ro (kM Wg (SGo P L.tWg Wg Ch Ro pay n Next))) n0 f0 w0 (fr.finish (.tuple #[])) cs v):KO P S L.tWg Wg Ch Ro (kO P L.tWg Wg Ch Ro (kM Wg (afb P L.tWg Wg Ch Ro pay n Next))) n0 f0 w0 fr cs v:=by
 intro f₁ w₁₁ own hp₁ hR hRo₁ hag₁ hn0;refine Ren.Way.stop hp₁.ok.run fun w hr0 _ hW0 hC0 hH0 hlive=>?_;have⟨hp,_,e00⟩:=hp₁.rely hr0 [];rw[e00];generalize hfdef:bH f₁ v w=f at hp;have hag:∀i,i<n0->f i=f0 i:=fun i hi=>by rw[<-hfdef];exact(eG (bT hi hn0)).trans (hag₁ i hi)
 have hR0:=hR.trans ⟨hr0.size,fun b hb ho=>ho.elim (fun h=>hr0.keep b hb (.inl h)) fun h=>h.elim,hr0.cells,hr0.chans⟩;have hRo:∀b,Ro b->b<w.heap.size/\¬own b:=fun b hb=>⟨bT (hRo₁ b hb).1 hr0.size,(hRo₁ b hb).2⟩;have hW:¬Ro Wg/\¬own Wg:=⟨hRW,hW0⟩;have hb:=(hag b hb0).trans hfb;have e:=Dz hm hro ht f;have hw':Region.wanted o (yielded ops (vals f fr.tmps))=true:=by rw[gz];exact hw
 have hk':=hk;have hfix:=hp.fix;have hgS:bF f [] (G fr cs)=G ((frame f fr).at {tmps:=vals f fr.tmps,defers:=fr.defers.map (deferred f)} (.inRegion ops (i::rest)::k.map (item f))) (stk f [] cs):=by rw[<-e];rfl
 have hargs:(#[x,.const (.int .i64 1)]:Array fH).map (Act.eval {tmps:=vals f fr.tmps,defers:=fr.defers.map (deferred f)})=#[.pointer (some ⟨Wg,0,none⟩),.int .i64 1]:=by rw[tJ];simp[tX,fU,iw];rw[iU (S:=Nm S) hfix (fun _ _=>rfl) fr hx,hv];simp[addr,hb,Frame.eval]
 rw[hgS];refine eH 2 hlive (Goes.step rfl fun w₁ h₁=>?_);refine goes_call ho hw' hk' hop H.f_add (nm_add L) rfl ⟨by u_nil,?_⟩;rw[hargs];refine gG fun w₂ h₂=>?_;refine add_pos (b₀:=frame f fr) (a₀:={tmps:=vals f fr.tmps,defers:=fr.defers.map (deferred f)}) (ops₀:=ops) (i₀:=i) (rest₀:=rest) (k₀:=k.map (item f)) (w0:=w) H hCW hW (fun w₃ h₃=>?_) w₂ (rg h₁ h₂);have⟨hp3,_,e3⟩:=hp.rely h₃.rely [];have hfin:G ((frame f fr).at (Act.put {tmps:=vals f fr.tmps,defers:=fr.defers.map (deferred f)} ((ops[i]?).bind (·.dst)) (.tuple #[])) (.inRegion ops rest::k.map (item f))) (stk f [] cs)=bF f [] (G (fr.finish (.tuple #[])) cs):=by
  have h1:(frame f fr).finish (.tuple #[])=frame f (fr.finish (.tuple #[])):=by
   have:=dQ (f:=f) fr (.tuple #[]) hp.ok.wX.frame.items
   rwa[cu (v:=.tuple #[]) rfl f] at this
  have h2:bF f [] (G (fr.finish (.tuple #[])) cs)=G (frame f (fr.finish (.tuple #[]))) (stk f [] cs):=rfl;rw[h2,<-h1]
  conv=>rhs;rw[e]
  rw[JV]
 have hput:rV S v.heap.size #[.tuple #[]]:=fun H H' h h' _=>by unfold vals;simp only[tX,fU,iw];rw[uO,uO,DJ,DJ]
 have hok2:=hp.ok.put hput;have hp2:eX P S Ro own aX.ch f (G (fr.finish (.tuple #[])) cs) v w:=⟨hok2,hp.inj,hp.fix,hp.rq,hp.held⟩;have⟨hp4,_,e4⟩:=hp2.rely h₃.rely [];rw[hfin,e4];have hsz:=h₃.rely.size;refine TV rfl (after _ _ _ hp4 (hR0.trans ⟨hsz,fun b hb ho=>ho.elim (fun h=>h₃.rely.keep b hb (.inl h)) fun h=>h.elim,h₃.rely.cells,h₃.rely.chans⟩) (fun b hb=>⟨bT (hRo b hb).1 hsz,(hRo b hb).2⟩) (fun i hi=>(eG (bT hi hn0)).trans (hag i hi)) hn0) hW0 hC0 (fun b hb=>⟨bT (hH0 b hb).1 hsz,(hH0 b hb).2⟩) h₃.live
end
section
variable[jE][aX]{P:aH}{S:aI->Prop}{ty:aZ}{Ro:Nat->Prop}{Wg Ch:Nat}{pay:Nat->aB ae}
theorem KO.go_{v fr cs ops i n rest k o t g pre caps N Next n0 f0 w0}(hm:fr.mode=.run)(E:fr.roundOf=none)(hk:fr.kind≠.early)(ht:fr.todo=.inRegion ops (i::rest)::k)(ho:ops[i]?=some o)(hw:Region.wanted o (yielded ops fr.tmps)=true)(I:o.op=.go {callee:=.value (.tmp t),args:=#[],argTypes:=N})(O:fr.tmps.getD t undef=.func g pre caps){C}(J:∀b,C b->b<v.heap.size)(V:∀b x,C b->v.heap[b]?=some x->isCells x=true)(child:∀f w own,eX P S Ro own aX.ch f (Conc.G fr cs) v w->bP Ro (fun _=>False) w0 w->(∀b,Ro b->b<w.heap.size/\¬own b)->(∀i,i<n0->f i=f0 i)->¬own Wg->¬own Ch->P7 own w->Live ty Wg Ch w->bu P Ro (Live ty Wg Ch) false (kN (P5 P ty Wg Ch Ro (pay n))) ⟨Conc.born P (deferred f {target:=.fn g caps,args:=pre}),w,given own f C⟩){D}(Q:D.quiet=false)(p:∀a,bu P Ro (Live ty Wg Ch) true D a->Next a)(next:KO P S ty Wg Ch Ro (kO P ty Wg Ch Ro D) n0 f0 w0 (fr.finish undef) cs (lG C v)):KO P S ty Wg Ch Ro (kO P ty Wg Ch Ro (kM Wg (SGo P ty Wg Ch Ro pay n Next))) n0 f0 w0 fr cs v:=by
 intro B q own c T d l s;refine Ren.Way.stop c.ok.run fun w1 F _ U A z R=>?_;refine Ren.Way.stop c.ok.run fun w r j=>?_;have e:=bP.trans F r;have K:P7 own w:=fun b hb=>⟨bT (z b hb).1 r.size,(z b hb).2⟩;have⟨hp,_,M⟩:=c.rely e [];rw[M];have u:∀i,i<n0->bH B v w i=f0 i:=fun i hi=>(eG (bT hi s)).trans (l i hi);have y:=T.trans ⟨e.size,fun b hb ho=>ho.elim (fun h=>e.keep b hb (.inl h)) fun h=>h.elim,e.cells,e.chans⟩;have m:∀b,Ro b->b<w.heap.size/\¬own b:=fun b hb=>⟨bT (d b hb).1 e.size,(d b hb).2⟩;refine sgo hp hm E hk ht ho hw I O J V (child _ _ _ hp y m u U A K j) fun H=>p _ ?_;exact TV Q (next _ _ _ H y (fun b hb=>⟨(m b hb).1,fun h=>(m b hb).2 h.1⟩) u (by rw[mQ];exact s)) (fun h=>U h.1) (fun h=>A h.1) (fun b hb=>⟨(K b hb).1,fun h=>(K b hb).2 h.1⟩) j
end
section
variable[jE][aX]{P:aH}{S:aI->Prop}{L:WgLink}{Ro:Nat->Prop}{Wg Ch:Nat}{pay:Nat->aB ae}{n0:Nat}{f0:Nat->Nat}{w0:ay}
theorem KO.wait(H:WgLib P L)(s:¬Ro Wg){v fr cs ops i rest k o x b y End}(hm:fr.mode=.run)(n:fr.roundOf=none)(hk:fr.kind≠.early)(ht:fr.todo=.inRegion ops (i::rest)::k)(ho:ops[i]?=some o)(hw:Region.wanted o (yielded ops fr.tmps)=true)(p:o.op=.call {callee:=.value (.func L.wait),args:=#[x],argTypes:=y})(hx:ed P (Nm S) x)(z:fr.eval x=.pointer (some ⟨b,0,none⟩))(r:b<n0)(q:f0 b=Wg)(B:End (G (fr.finish (.tuple #[])) cs) v):KO P S L.tWg Wg Ch Ro (kO P L.tWg Wg Ch Ro (kM Wg (SKd P L.tWg Wg Ch Ro (Head P S L Ro aX.ch Wg Ch w0 n0 f0 End)))) n0 f0 w0 fr cs v:=by intro l f own c A m d g;refine Ren.Way.stop c.ok.run fun w a _ D C _ e=>?_;have⟨hp,_,u⟩:=c.rely a [];rw[u];have j:∀i,i<n0->bH l v w i=f0 i:=fun i hi=>(eG (bT hi g)).trans (d i hi);have t:=A.trans ⟨a.size,fun b hb ho=>ho.elim (fun h=>a.keep b hb (.inl h)) fun h=>h.elim,a.cells,a.chans⟩;exact Xw H hp ⟨s,D⟩ e hm n hk ht ho hw p hx z ((j b r).trans q) B t j g
def Fb(P:aH)(ty:aZ)(Wg Ch:Nat)(Ro:Nat->Prop)(n:Nat)(Anch:Stops)(pay:Nat->aB ae):Nat->Kind
|0=>kM Wg (SKd P ty Wg Ch Ro Anch)
|r+1=>kM Wg (afb P ty Wg Ch Ro pay (n-(r+1)) (Spawns P ty Wg Ch Ro n Anch pay r))
theorem KO.spawns{v w fr cs n r Anch f own}(h:KO P S L.tWg Wg Ch Ro (kO P L.tWg Wg Ch Ro (Fb P L.tWg Wg Ch Ro n Anch pay r)) v.heap.size f w fr cs v)(hp:eX P S Ro own aX.ch f (G fr cs) v w)(a:∀b,Ro b->b<w.heap.size/\¬own b)(d:¬own Wg)(e:¬own Ch)(c:P7 own w)(hl:Live L.tWg Wg Ch w):Spawns P L.tWg Wg Ch Ro n Anch pay r ⟨bF f [] (G fr cs),w,own⟩:=by
 have h1:=h f w own hp (bP.refl _ _ _) a (fun _ _=>rfl) (aA _);cases r with
 |zero=>exact TV rfl h1 d e c hl
 |succ r=>exact TV rfl h1 d e c hl
end
section
variable[jE][aX]{P:aH}{S:aI->Prop}{L:WgLink}{Z Shr:Nat->Prop}{o:Nat}
def FH(Z Shr A:Nat->Prop)(f:Nat->Nat)(v w:ay):Nat->Prop:=fun b=>Z b \/ ∃a,A a/\a<v.heap.size/\f a=b/\mine Z Shr w b
def keeps(Z Shr A:Nat->Prop)(f:Nat->Nat)(v w:ay):Nat->Prop:=fun b=>mine Z Shr w b/\¬FH Z Shr A f v w b
theorem ab5(H:WgLib P L){Post A f fr cs v w gs sl t q Wg Ch n cap rz tm pay End}(g:Mirror P S Z Shr aX.ch o f (Conc.G fr cs) v gs w t q)(I:∀b x,A b->v.heap[b]?=some x->(∀a l,x≠.number a l)/\(x.isChan=true->aX.ch (f b)))(c:Shr Wg/\Shr Ch)(W:Ch≠Wg)(m:WgAt L.tWg Wg w 0 0)(s:w.heap[Ch]?=some (.chan cap #[] false 0 rz tm))(D:NoRelease (stA Wg) t)(u:n<=cap)(hn:n<2147483648)(p:∀i,i<o->pay i=none)(F:KO P S L.tWg Wg Ch (FH Z Shr A f v w) (kO P L.tWg Wg Ch (FH Z Shr A f v w) (Fb P L.tWg Wg Ch (FH Z Shr A f v w) (o+n) (Head P S L (FH Z Shr A f v w) aX.ch Wg Ch w v.heap.size f End) pay n)) (Em A v).heap.size f w fr cs (Em A v))(z:∀(f') (g') (v') (gs') (w') (j) (t') (B) (sent:List Nat),End g' v'->Mirror P S Z Shr aX.ch (o+n) f' g' (vP A v v') gs' w' t' B->(∀i,i<v.heap.size->f' i=f i)->v.heap.size<=v'.heap.size->w'.heap[Ch]?=some (.chan cap ((sent.map fun i=>(pay i).getD undef).toArray) false sent.length rz tm)->sent.Nodup->(∀i,i∈sent↔i<o+n/\(pay i).isSome=true)->bP Z (fun _=>False) w w'->oO P Post (crowd gs' w' j) t'):oO P Post (crowd gs w sl) t:=by
 have y:∀b,FH Z Shr A f v w b->rest Shr w b:=fun b hb=>by
  rcases hb with hb|⟨a,_,_,_,hb⟩
  .exact g.alone b hb
  exact hb.1
 have hp:eX P S (FH Z Shr A f v w) (keeps Z Shr A f v w) aX.ch f (Conc.G fr cs) (Em A v) w:=by
  refine eX.freeze g.uj (fun b hb=>.inl hb) I (fun b hb d hm=>.inr ⟨b,hb,d,rfl,hm⟩) fun b hb d hm=>⟨hm,fun hl=>?_⟩;rcases hl with hl|⟨a,ha,E,e,_⟩
  .exact hm.2 hl
  rw[g.uj.inj a b E d e] at ha;exact hb ha
 have X:¬keeps Z Shr A f v w Wg:=fun h=>h.1.1.2 c.1;have Y:¬keeps Z Shr A f v w Ch:=fun h=>h.1.1.2 c.2;have hl:Live L.tWg Wg Ch w:=⟨⟨0,0,m⟩,cap,#[],0,rz,tm,s⟩;have C:=KO.spawns (pay:=pay) (n:=o+n) (r:=n) F hp (fun b hb=>⟨(y b hb).1,fun h=>h.2 hb⟩) X Y (fun b hb=>⟨g.calm.base.nU b (g.shr b hb),fun h=>h.1.1.2 (g.shr b hb)⟩) hl;have⟨N,gs',w',j,t',B,f',g',v',sent,V,U,T,R,Q,O,M,K,J⟩:=Mirror.aiW (A:=A) (own:=keeps Z Shr A f v w) g sl (fun b hb=>g.shr b hb) (fun b hb=>.inl hb) y (fun b hb=>⟨hb.1.1,hb.2⟩) (fun b hb d hm=>.inr ⟨b,hb,d,rfl,hm⟩)
  c W m s D u hn p C fun g1 w1 k h=>Yr H W g1 w1 k h;exact(z f' g' v' gs' w' j t' B sent U T R Q O M K J).after V
end
section
variable[jE]{P:aH}{S:aI->Prop}{Z:Nat->Prop}{w0:ay}{Post:ae->ay->Prop}
theorem XF(w w')(og)(h:w'.heap=w.heap.push og)(hs:w'={w with heap:=w'.heap,drawn:=w'.drawn}):bP Z (fun _=>False) w w':=by
 have hg:∀b,b<w.heap.size->w'.heap[b]?=w.heap[b]?:=fun b hb=>by rw[h,iK,aU (by omega)]
 refine⟨by rw[h];simp,fun b hb _=>hg b hb,fun b c e fr hx=>⟨c,fr,by rw[hg b (aP.1 hx).1];exact hx⟩,⟨fun b o hx hc=>⟨o,by rw[hg b (aP.1 hx).1];exact hx,hc⟩,by rw[hs],by rw[hs]⟩⟩
theorem rW.make{n F F' fr fr' cs cs' v og}(d:isCells og=true\/og.isChan=true)(hst:Ok P S (Conc.G fr cs) v->∀(f f1) (w1),(∀g,g<P.globals.size->f g=g)->(∀i,i<v.heap.size->f1 i=f i)->f1 v.heap.size=w1.heap.size->stepG P true (bF f [] (Conc.G fr cs)) w1=.go (bF f1 [] (Conc.G fr' cs')) {w1 with heap:=w1.heap.push og} #[])(hok:Ok P S (Conc.G fr cs) v->Ok P S (Conc.G fr' cs') {v with heap:=v.heap.push (uF og)})(k:∀Shr Hid o f gs w t q f1 w' t',Mirror P S Z Shr Hid o f (Conc.G fr cs) v gs w t q->F Shr Hid o f w t->w'.heap=w.heap.push og->(∀i,i<v.heap.size->f1 i=f i)->f1 v.heap.size=w.heap.size->(∀A,NoRelease A t->NoRelease A t')->F' (fun b=>Shr b\/b=w.heap.size) (fun b=>Hid b\/(b=w.heap.size/\og.isChan=true)) o f1 w' t')(next:rW P S Z w0 Post (v.heap.size+1) F' fr' cs' {v with heap:=v.heap.push (uF og)})(hn:n<=v.heap.size):rW P S Z w0 Post n F fr cs v:=by intro _ Shr Hid o f gs w sl t q a j hf;have⟨N,gs',w',c,t',h,f1,u,s,e,r,p,m,l⟩:=Mirror.make a sl d (fun f1 w1 h1 h2=>hst a.uj.ok f f1 w1 a.uj.fix h1 h2) (hok a.uj.ok);exact(next (by simp) _ _ o f1 gs' w' c t' h s (j.trans (XF w w' og e l)) (k Shr Hid o f gs w t q f1 w' t' a hf e r p m)).after u
theorem Hf{w w' Ch cap s r cap' s' r' buf buf' d tm cl' tm'}(a:¬Z Ch)(hc:w.heap[Ch]?=some (.chan cap buf d s r tm))(h:w'.heap=(w.setChan Ch cap' buf' cl' s' r' tm').heap)(hs:w'={w with heap:=w'.heap,drawn:=w'.drawn}):bP Z (fun _=>False) w w':=by
 refine⟨by rw[h];simp[World.setChan],fun b _ ho=>?_,fun b c e fr hx=>?_,⟨fun b o hx ho=>?_,by rw[hs],by rw[hs]⟩⟩
 .have hne:Ch≠b:=fun e=>by
   rcases ho with ho|ho
   .exact a (e▸ho)
   exact ho
  rw[h];exact jf hne
 .have:=zl (cap':=cap') (buf':=buf') (cl':=cl') (s':=s') (r':=r') (tm':=tm') hc b c e fr hx;rw[h];exact this
 have:=(vV (cap':=cap') (buf':=buf') (cl':=cl') (s':=s') (r':=r') (tm':=tm') hc).chan b o hx ho;rw[h];exact this
theorem rW.recv{n F}{fr fr':aC}{cs v fl z}(i:∀Shr Hid o f gs w t q,Mirror P S Z Shr Hid o f (Conc.G fr cs) v gs w t q->n<=v.heap.size->F Shr Hid o f w t->∃(Ch cap s r:Nat) (buf:Array ae) (closed tm:Bool) (F':Fact) (fr':aC),Shr Ch/\w.heap[Ch]?=some (.chan cap buf closed s r tm)/\0<buf.size/\(∀d,stepG P true (bF f [] (Conc.G fr cs)) (w.at d)=.comm (bF f [] (Conc.G fr cs)) #[rcase Ch z] true (.recv fl) (w.at d) #[])/\Conc.served (bF f [] (Conc.G fr cs)) (Conc.recvd fl (buf.getD 0 undef) true)=bF f [] (Conc.G fr' cs)/\Ok P S (Conc.G fr' cs) v/\(∀w' t',w'.heap=(w.setChan Ch cap (buf.extract 1 buf.size) closed s (r+1) tm).heap->F' Shr Hid o f w' t')/\rW P S Z w0 Post n F' fr' cs v):rW P S Z w0 Post n F fr cs v:=by intro hn Shr Hid o f gs w sl t q b h hf;have⟨Ch,cap,s,r,buf,closed,tm,F',fr',h1,h2,p,m,l,k,j,h8⟩:=i Shr Hid o f gs w t q b hn hf;have⟨N,gs',w',a,t',e,y,x,c,u⟩:=Mirror.recv b sl h1 m h2 p l k;exact(h8 hn Shr Hid o f gs' w' a t' e x (h.trans (Hf (fun g=>(b.alone Ch g).2 h1) h2 c u)) (j w' t' c)).after y
theorem rW.shut{n F fr cs v fl z}(j:∀Shr Hid o f gs w t q,Mirror P S Z Shr Hid o f (Conc.G fr cs) v gs w t q->n<=v.heap.size->F Shr Hid o f w t->∃(Ch cap s r:Nat) (tm:Bool) (F':Fact) (fr':aC),Shr Ch/\w.heap[Ch]?=some (.chan cap #[] true s r tm)/\(∀d,stepG P true (bF f [] (Conc.G fr cs)) (w.at d)=.comm (bF f [] (Conc.G fr cs)) #[rcase Ch z] true (.recv fl) (w.at d) #[])/\Conc.served (bF f [] (Conc.G fr cs)) (Conc.recvd fl z false)=bF f [] (Conc.G fr' cs)/\Ok P S (Conc.G fr' cs) v/\(∀w' t',w'.heap=w.heap->F' Shr Hid o f w' t')/\rW P S Z w0 Post n F' fr' cs v):rW P S Z w0 Post n F fr cs v:=by intro hn Shr Hid o f gs w sl t q e i hf;have⟨Ch,cap,s,r,tm,F',fr',h1,h2,p,m,l,k,h8⟩:=j Shr Hid o f gs w t q e hn hf;have⟨N,gs',w',c,t',h,x,u,a,g⟩:=Mirror.Nu e sl h1 p h2 m l;exact(h8 hn Shr Hid o f gs' w' c t' h u (i.trans ⟨by rw[a];exact aA _,fun b _ _=>by rw[a],.of a,⟨.of a,by rw[g],by rw[g]⟩⟩) (k w' t' a)).after x
end
end Go.Crew
namespace Go.Ev
open Go.Conc Go.Ren Go.Crew
def acK:Ob->aB Ob
|.cells c e _=>some (.shut c e)
|.shut c e=>some (.shut c e)
|_=>none
def GY:T Ob->T Ob
|.nil=>.nil
|.node v l r=>.node (match v with|some o=>acK o|none=>none) (GY l) (GY r)
def DX:∀(t:T Ob) (k:Nat),(GY t).get k=(match t.get k with|some o=>acK o|none=>none)
|.nil,_=>rfl
|.node v l r,0=>rfl
|.node v l r,n+1=>by
 rcases Y2 n with hn|hn
 .rw[T.mX _ _ hn,T.mX _ _ hn];exact DX l (n / 2)
 rw[T.qB _ _ hn,T.qB _ _ hn];exact DX r (n / 2)
def H.shut(h:H):H:=⟨GY h.t,h.next,h.log⟩
def H.acJ(h:H)(b):h.shut.get b=(match h.get b with|some o=>acK o|none=>none):=DX h.t b
def H.GX{h:H}{b o}(e:h.shut.get b=some o):∃o0 c t,h.get b=some o0/\o=.shut c t/\((∃s,o0=.cells c t s)\/o0=.shut c t):=by
 rw[H.acJ] at e;cases h0:h.get b with
 |none=>rw[h0] at e;cases e
 |some o0=>
  rw[h0] at e;cases o0 with
  |cells c t s=>cases e;exact⟨_,c,t,rfl,rfl,.inl ⟨s,rfl⟩⟩
  |shut c t=>cases e;exact⟨_,c,t,rfl,rfl,.inr rfl⟩
  |_=>cases e
def HR.NZ{ρ h v v'}(hr:HR ρ h v)(hn:dU v')(hk:∀b o x k o',h.get b=some o->ρ b=.at_ x k->v.heap[x]?=some o'->OR ρ k o o'->v'.heap[x]?=some o'):HR ρ h v':=⟨hn,fun b o hb=>by have⟨x,k,o',h1,h2,a⟩:=hr.ob b o hb;exact⟨x,k,o',h1,hk b o x k o' hb h1 h2 a,a⟩,hr.inj⟩
def HR.Em{ρ:jV}{h:H}{v:ay}(hr:HR ρ h v)(A:Nat->Prop):HR ρ h.shut (Em A v):=by
 refine⟨fun x o hx=>?_,fun b o hb=>?_,fun b c x k l hb hc=>?_⟩
 .obtain⟨x0,h1,h2|h2⟩:=yw hx
  .have:=hr.fD x x0 h1;rw[h2.2];cases x0<;>first|rfl|(cases this;done)
  rw[h2.2];exact hr.fD x x0 h1
 .obtain⟨o0,c,t,h0,rfl,ho⟩:=H.GX hb;have⟨x,k,o',h1,h2,e⟩:=hr.ob b o0 h0;have key:∃d r i,o'=.cells ⟨d++r⟩ t i/\iL ρ c d:=by
   rcases ho with⟨s,rfl⟩|rfl
   .have⟨d,r,f,a,_⟩:=e;exact⟨d,r,_,f,a⟩
   exact e
  obtain⟨d,r,i,rfl,a⟩:=key;by_cases g:A x
  .exact⟨x,k,_,h1,ad5 h2 g,d,r,_,rfl,a⟩
  exact⟨x,k,_,h1,by rw[agD g];exact h2,d,r,_,rfl,a⟩
 have⟨o1,h1⟩:=gQ.1 hb;have⟨o2,h2⟩:=gQ.1 hc;have⟨o3,_,_,e,_⟩:=H.GX h1;have⟨o4,_,_,f,_⟩:=H.GX h2;exact hr.inj b c x k l (by rw[e];rfl) (by rw[f];rfl)
def dU.hide{v}(h:dU v)(B):dU (lG B v):=fun x o hx=>by
 obtain⟨x0,h1,h2|h2⟩:=oU hx
 .have:=h x x0 h1;rw[h2.2];cases x0<;>first|rfl|(cases this;done)
 rw[h2.2];exact h x x0 h1
def HR.hide{ρ h v}(hr:HR ρ h v){B}(i:∀b x k o,(h.get b).isSome=true->ρ b=.at_ x k->v.heap[x]?=some o->¬B x\/(qA o=true/\∃c t,h.get b=some (.shut c t))):HR ρ h (lG B v):=by
 refine⟨hr.fD.hide B,fun b o hb=>?_,hr.inj⟩;have⟨x,k,o',h1,h2,g⟩:=hr.ob b o hb;by_cases a:B x
 .rcases i b x k o' (by rw[hb];rfl) h1 h2 with e|⟨e,c,t,f⟩
  .exact absurd a e
  rw[hb] at f;cases f;obtain⟨d,r,fz,rfl,j⟩:=g;have hd:d=[]:=by have:(d++r).toArray.isEmpty=true:=e;simp at this;exact this.1
  subst hd;refine⟨x,k,.cells #[] t (0,0),h1,?_,[],[],_,rfl,j⟩;simp[lG,Gf,h2,Option.map_some,aY a];rfl
 exact⟨x,k,o',h1,by rw[OC a];exact h2,g⟩
def HR.vP{ρ:jV}{h:H}{v:ay}(hr:HR ρ h v){A:Nat->Prop}(f:∀b x k o,(h.get b).isSome=true->ρ b=.at_ x k->v.heap[x]?=some o->A x){v':ay}(c:dU v')(d:v.heap.size<=v'.heap.size):HR ρ h (vP A v v'):=
 hr.NZ (fun x o hx=>by
  rcases pK hx with⟨_,h1⟩|⟨_,h1⟩
  .exact hr.fD x o h1
  .exact c x o h1) fun b o x k o' hb hx ho _=>by
  have a:=(aP.1 ho).1;have e:=f b x k o' (by rw[hb];rfl) hx ho;simp only[Crew.vP,Gf,gu (bT a d),Option.map_some,aY (And.intro e a)];rw[ho];rfl
end Go.Ev
namespace Go.Crew
open Go.Conc Go.ConcN Go.Ren
def ckW(P:aH)(L N:List aI)(t:Ev.T ae)(o:bn):Bool:=
 match o.op with
 |.call c=>jw P L o&&(match c.callee with
  |.value f=>match Ev.di t f,Ev.opts (Ev.di t) c.args.toList with
   |some (.func (.func g) ⟨a⟩ ⟨b⟩),some as=>L.contains g && !N.contains g&&Ev.iZ L (a++as++b)
   |_,_=>false
  |_=>false)
 |_=>Ev.YW P L t o
section
variable[aX]{P:aH}{L N:List aI}{ty:aZ}{Wg Ch:Nat}{Ro:Nat->Prop}{B:List aC}{D:List xu}{k:Kind}{n0:Nat}{f0:Nat->Nat}{w0:ay}
theorem KW.one(I:bz P)(hS:mM P (·∈L))(K:k.quiet=false)(M:∀e r,aX.ch r->yY r e->k.X e){inv}(hI:∀f args h v h',inv (.func f) args h=some (v,h')->Ev.dF P f args h v h'){ρ n t h h' o v ops i rest}{b:aC}{a}{kk:List ig}{w:ay}(y:b.roundOf=none)(e:Ev.EG P inv t h o.op=some (v,h'))(hc:ckW P L N t o=true)(ho:ops[i]?=some o)(hw:Region.wanted o (yielded ops a.tmps)=true)(ht:Ev.TR ρ n t a.tmps)(hr:Ev.HR ρ h w)(hu:Ev.lK ρ h.next h'.next)(next:∀ρ' v' w',Ev.Stp ρ h w ρ' h' w'->Ev.HR ρ' h' w'->Ev.VR ρ' v v'->@KW (aV P L N) _ P (·∈L) ty Wg Ch Ro B D k n0 f0 w0 (b.atR (a.put o.dst v') (.inRegion ops rest::kk)) w'):@KW (aV P L N) _ P (·∈L) ty Wg Ch Ro B D k n0 f0 w0 (b.atR a (.inRegion ops (i::rest)::kk)) w:=by
 by_cases l:∃c,o.op=.call c
 .obtain⟨⟨Z,xs,H⟩,j⟩:=l
  unfold ckW at hc;rw[j] at hc e;simp only[aT] at hc;obtain⟨hb,hc⟩:=hc;split at hc
  .rename_i f
   split at hc
   .rename_i g V U as hf has
    simp only[aT,ET] at hc;obtain⟨⟨C,A⟩,hcl⟩:=hc;have Y:inv (.func g) (V++as++U) h=some (v,h'):=by
     have s:Ev.Pm inv t h f xs.toList=some (v,h'):=by simpa[Ev.EG,Ev.xZ] using e
     unfold Ev.Pm at s;simp[hf] at s;have m:Ev.opts _ xs.toList=some as:=has;simp[m] at s;simpa[Ev.callee] using s
    have Q:=Ev.fA ht;have J:=Ev.jC Q hf;have O:=hI _ _ _ _ _ Y;obtain⟨_,fn,cd,T,S,R,_⟩:=id O;have m:Ev.iL ρ as _:=Q.opts has;generalize E:a.eval f=fv at J;cases J with
    |same h=>cases h
    |func h1 h2=>
    rename_i a' b';have s:xs.map a.eval=⟨xs.toList.map a.eval⟩:=by apply tV;simp
    have p:resolve a.eval {callee:=.value f,args:=xs,argTypes:=H} o.type=pure {target:=.fn (.func g) ⟨b'⟩,args:=⟨a'⟩++⟨xs.toList.map a.eval⟩}:=by unfold resolve;simp[E,s,Deferred.ofValue]
    have q:∀w:ay,(execOp a.eval o).run P w=.ok (.enter g ⟨a'++xs.toList.map a.eval++b'⟩) w:=fun w=>by
     unfold execOp;rw[j];show(do let d <- resolve a.eval _ o.type;invoke d.target d.args:Sem Next).run P w=_;rw[p];have F:=Ev.mF T R S ⟨a'++xs.toList.map a.eval++b'⟩ w;have W:(⟨a'⟩++⟨xs.toList.map a.eval⟩:Array ae)++⟨b'⟩=⟨a'++xs.toList.map a.eval++b'⟩:=by simp
     simp only[yC,Sem.run_pure,Result.andThen,invoke,W,F]
    exact KW.aeI I hS K M y ho hw j hb q p (fun w g' hg=>(aN hg).symm) (by simpa using C) (by simpa using A) ((h1.append m).append h2) hcl O hr hu next
   cases hc
  cases hc
 have x:∀c,o.op≠.call c:=fun c hh=>l ⟨c,hh⟩;have G:Ev.YW P L t o=true:=by
  unfold ckW at hc;split at hc
  .rename_i c j;exact absurd j (x c)
  exact hc
 refine KW.opE I hS K M (t:=t) y ?_ G ho hw ht hr hu next
 unfold Ev.EG at e;split at e
 .rename_i hp
  rw[hp];split at e
  .rename_i u z;cases e;simp[z]
  cases e
 rename_i hp;rw[hp];split at e
 .rename_i c j;exact absurd j (x c)
 simpa using e
theorem KW.ops(y:bz P)(hS:mM P (·∈L))(z:k.quiet=false)(A:∀e r,aX.ch r->yY r e->k.X e){inv:Ev.Iv}(x:Ev.qK inv)(hI:∀f args h v h',inv (.func f) args h=some (v,h')->Ev.dF P f args h v h'){n:Nat}{ops:Array bn}{rest:List Nat}{b:aC}{kk:List ig}(g:b.roundOf=none):∀{l:List bn} {i:Nat} {t t':Ev.T ae} {h h':Ev.H},(∀j,j<l.length->ops[i+j]?=l[j]?)->Ev.uU P inv ⟨ckW P L N,fun _=>false⟩ n ops.toList l t h=some (t',h')->∀{ρ:Ev.jV} {a:Act} {w:ay},Ev.TR ρ n t a.tmps->Ev.HR ρ h w->Ev.lK ρ h.next h'.next->(∀ρ' a' w',a'.defers=a.defers->Ev.Stp ρ h w ρ' h' w'->Ev.HR ρ' h' w'->Ev.TR ρ' n t' a'.tmps->@KW (aV P L N) _ P (·∈L) ty Wg Ch Ro B D k n0 f0 w0 (b.atR a' (.inRegion ops rest::kk)) w')->@KW (aV P L N) _ P (·∈L) ty Wg Ch Ro B D k n0 f0 w0 (b.atR a (.inRegion ops (List.range' i l.length++rest)::kk)) w
|[],i,t,t',h,h',hl,e,ρ,a,w,ht,hr,hu,hk=>by cases e;exact hk ρ a w rfl (.refl ρ h _ _ rfl) hr ht
|o::l,i,t,t',h,h',hl,e,ρ,a,w,ht,hr,hu,hk=>by
 have ho:ops[i]?=some o:=by simpa using hl 0 (by simp)
 have s:∀j,j<l.length->ops[i+1+j]?=l[j]?:=fun j hj=>by have:=hl (j+1) (by simp;omega);rw[show i+(j+1)=i+1+j by omega] at this;simpa using this
 have c:List.range' i (o::l).length++rest=i::(List.range' (i+1) l.length++rest):=by simp[uw]
 rw[c];simp only[Ev.uU] at e;split at e
 .rename_i hw;have d:=Ev.gJ ht hw
  split at e;case h_2=>cases e
  rename_i u;split at e
  .rename_i v h1 C
   split at e
   .rename_i t1 G;have F:=Ev.wO x C;have E:=Ev.gX x e;refine KW.one y hS z A hI g C u ho d ht hr (hu.sub (aA _) E) fun p v' w1 s2 s3 s4=>?_;have q:Ev.TR p n t1 (a.put o.dst v').tmps:=(ht.mono s2.le).put G s4;exact KW.ops y hS z A x hI g s e q s3 ((hu.sub F (aA _)).step s2 (aA _)) fun m I w2 d1 d2 d3 d4=>hk m I w2 (by rw[d1,Ev.put_defers]) (s2.trans d2) d3 d4
   cases e
  cases e
 .cases e
 cases e
end
open Go.Conc.Lib Go.ConcR.Gen Go.ConcN.Gen
section
variable[aX]{P:aH}{L N:List aI}{ty:aZ}{Wg Ch:Nat}{Ro:Nat->Prop}{B:List aC}{D:List xu}{k:Kind}{n0:Nat}{f0:Nat->Nat}{w0:ay}
theorem KW.nil(d:bz P)(hS:mM P (·∈L))(f:k.quiet=false)(g:∀e r,aX.ch r->yY r e->k.X e){b:aC}{a v}(c:b.roundOf=none)(next:∀t,@KW (aV P L N) _ P (·∈L) ty Wg Ch Ro B D k n0 f0 w0 {b.atR a [] with mode:=.returning} (wt v t)):@KW (aV P L N) _ P (·∈L) ty Wg Ch Ro B D k n0 f0 w0 (b.atR a []) v:=by
 have h1:∀t,stepG P true (Conc.G (b.atR a []) [bottom]) (wt v t)=.go (Conc.G {b.atR a [] with mode:=.returning} [bottom]) (wt v t) #[]:=fun t=>by unfold Conc.G;simp[stepG,stepG.exec,Frame.atR,c]
 refine @KW.step (aV P L N) _ _ _ _ _ _ _ _ _ _ _ _ _ d hS f g _ _ (@Ue _ P (aV P L N) _ _ rfl rfl) (fun _=>{b.atR a [] with mode:=.returning}) (fun t=>wt v t) (fun _=>#[]) h1 (fun _=>trivial) (fun _ hc=>Ren.dH hc rfl) (fun _=>.of rfl) (fun t f' w1 w2 es _ _ _ _ h2=>?_) next;exact RI (fr:=b.atR a []) D rfl c rfl f' w1 w2 es h2
theorem go_step{b:aC}{a k k' cs}(h:∀w,(stepG P true (Conc.G (b.atR a k) cs) w)=.go (Conc.G (b.atR a k') cs) w #[])(w):∃es,stepG P true (Conc.G (b.atR a k) cs) w=.go (Conc.G (b.atR a k') cs) w es:=⟨#[],h w⟩
end
def Zo(P:aH)(L N:List aI)(inv:Ev.Iv)(n:Nat)(x0:fH)(lC:List bn)(cnd:fH)(ops2 l2:List bn)(ch x:fH)(nW nC hi:Nat)(args:List ae)(h:Ev.H):aB (aB ae):=
 match Ev.yA 0 args .nil with
 |some t0=>match Ev.di t0 x0 with
  |some (.pointer (some ⟨w,0,none⟩))=>match Nat.beq w nW,Ev.uU P inv ⟨ckW P L N,fun _=>false⟩ n lC lC t0 h with
   |true,some (t1,h1)=>match Ev.di t1 cnd with
    |some (.bool false)=>match Nat.ble h1.next hi with
     |true=>some none
     |false=>none
    |some (.bool true)=>match Ev.uU P inv ⟨ckW P L N,fun _=>false⟩ n ops2 l2 t1 h1 with
     |some (t2,h2)=>match Nat.ble h2.next hi,Ev.di t2 ch,Ev.di t2 x with
      |true,some (.chan (some c)),some (.int kd z)=>match Nat.beq c nC with
       |true=>some (some (.int kd z))
       |false=>none
      |_,_,_=>none
     |none=>none
    |_=>none
   |_,_=>none
  |_=>none
 |none=>none
section
variable[aX]{P:aH}{L N:List aI}{Lk:WgLink}{Wg Ch:Nat}{Ro:Nat->Prop}{n0:Nat}{f0:Nat->Nat}{w0:ay}
theorem pM{ρ ρ' h h' w w'}(s:Ev.Stp ρ h w ρ' h' w'){b}(h1:h.get b=none)(h2:b<h.next)(e:ρ b≠.dC):ρ' b=ρ b:=by
 have⟨l,_,_,_,d,_,c⟩:=s.log;refine c b (fun hb=>?_) e;rcases d b hb with a|a
 .rw[h1] at a;cases a
 omega
theorem KW.worker(m:bz P)(hS:mM P (·∈L))(H:WgLib P Lk)(hCW:Ch≠Wg)(hRW:¬Ro Wg){inv}(hN:Ev.qK inv)(hI:∀f args h v h',inv (.func f) args h=some (v,h')->Ev.dF P f args h v h'){wc fn}(hf:P.funcs[wc]?=some fn){j0 j1 j2 o0 so lC ops2 l2 cnd}(hb:fn.body=some (.seq (.region j0 #[o0] false) (.seq (.region j1 lC false) (.cond cnd (.region j2 ops2 false) .skip))))(R:fn.results=#[]){x0 aeQ}(h0:o0.op=.defer {callee:=.value (.func Lk.done),args:=#[x0],argTypes:=aeQ})(hg0:o0.guard=none)(hd0:o0.dst=none)(hx0:ed P (@Ren.Nm (aV P L N) (·∈L)) x0)(h2:ops2.toList=l2++[so]){ch x}(hso:so.op=.send ch x)(hsg:so.guard=none)(hch:ed P (@Ren.Nm (aV P L N) (·∈L)) ch)(hx:ed P (@Ren.Nm (aV P L N) (·∈L)) x){args g h nW nC hi bW kW bC kC pay}(e:Zo P L N inv (args.length+(fn.ntmps-args.length)) x0 lC.toList cnd ops2.toList l2 ch x nW nC hi args h=some pay){ρ v}(ha:Ev.iL ρ args g)(hr:Ev.HR ρ h v)(hu:Ev.lK ρ h.next hi)(hhi:h.next<=hi)(hW:ρ nW=.at_ bW kW)(hbW:bW<n0)(hfW:f0 bW=Wg)(hC:ρ nC=.at_ bC kC)(hbC:bC<n0)(hfC:f0 bC=Ch)(F:h.get nC=none)(C:nC<h.next):@KW (aV P L N) _ P (·∈L) Lk.tWg Wg Ch Ro [under P] [] (kV P Lk.tWg Wg Ch Ro (kN (P5 P Lk.tWg Wg Ch Ro pay))) n0 f0 w0 (Frame.enter P wc ⟨g⟩ .deferred) v:=by
 unfold Zo at e;split at e;case h_2=>cases e
 rename_i t0 et0;split at e;case h_2=>cases e
 rename_i w' ew0;split at e;case h_2=>cases e
 rename_i t1 h1 hw e1;obtain rfl:=bG hw;let b:aC:={ (default:aC) with fn:=wc,kind:=.deferred};have hl:=ha.length;have s:Frame.enter P wc ⟨g⟩ .deferred=b.atR {tmps:=(⟨g⟩:Array ae)++Array.replicate (fn.ntmps-args.length) undef,defers:=[]} [.code (.seq (.region j0 #[o0] false) (.seq (.region j1 lC false) (.cond cnd (.region j2 ops2 false) .skip)))]:=by simp[Frame.enter,Frame.atR,hf,hb,b,hl];rfl
 rw[s];have d:b.roundOf=none:=rfl;have o:∀pay e r,aX.ch r->yY r e->(kV P Lk.tWg Wg Ch Ro (kN (P5 P Lk.tWg Wg Ch Ro pay))).X e:=fun _ e r h1 h2=>⟨r,h1,h2⟩;have hX0:∀e r,aX.ch r->yY r e->(kV P Lk.tWg Wg Ch Ro (kN (SR0 P Lk.tWg Wg Ch Ro))).X e:=fun e r h1 h2=>⟨r,h1,h2⟩;have M:Ev.TR ρ _ t0 ((⟨g⟩:Array ae)++Array.replicate (fn.ntmps-args.length) undef):=Ev.Ez et0 ha;generalize hn:args.length+(fn.ntmps-args.length)=n at e e1 M;generalize hA:({tmps:=(⟨g⟩:Array ae)++Array.replicate _ undef,defers:=[]}:Act)=y;have A:Ev.TR ρ n t0 y.tmps:=by rw[<-hA];exact M
 have leave:∀(a) (v),@KW (aV P L N) _ P _ Lk.tWg Wg Ch Ro [under P] [doneD Lk.done Wg] _ n0 f0 w0 (b.atR a []) v:=fun a v=>by refine KW.nil m hS rfl hX0 d fun t=>?_;exact @KW.leave (aV P L N) _ P (·∈L) Lk Wg Ch Ro n0 f0 w0 H hCW hRW {b.atR a [] with mode:=.returning} (wt v t) fn rfl rfl hf R
 refine KW.item m hS rfl (o pay) d rfl rfl (go_step (k':=.code (.region j0 #[o0] false)::.code (.seq (.region j1 lC false) (.cond cnd (.region j2 ops2 false) .skip))::[]) fun w=>by unfold Conc.G;simp[stepG,stepG.exec,Frame.atR]) fun tp1=>?_;refine KW.item m hS rfl (o pay) d rfl rfl (go_step (k':=.inRegion #[o0] [0]::.code (.seq (.region j1 lC false) (.cond cnd (.region j2 ops2 false) .skip))::[]) fun w=>by unfold Conc.G;simp[stepG,stepG.exec,Frame.atR]) fun tp2=>?_;have hw0:Region.wanted o0 (yielded #[o0] y.tmps)=true:=by unfold Region.wanted;rw[hg0]
 have Z:(b.atR y (.inRegion #[o0] [0]::.code (.seq (.region j1 lC false) (.cond cnd (.region j2 ops2 false) .skip))::[])).eval x0=.pointer (some ⟨bW,0,none⟩):=by have K:=Ev.fA A _ _ ew0;have⟨a',J,h5⟩:=K.lD;rw[show(b.atR y (.inRegion #[o0] [0]::.code (.seq (.region j1 lC false) (.cond cnd (.region j2 ops2 false) .skip))::[])).eval x0=y.eval x0 from xB (kH b y _) x0,J];have⟨ab,ao,as⟩:=a';have h6:ab=bW:=h5.block.at_ hW;have h7:ao=0:=h5.off;have h8:as=none:=h5.spot';rw[h6,h7,h8]
 refine @KW.defer (aV P L N) _ P (·∈L) Lk.tWg Wg Ch Ro [under P] _ n0 f0 w0 (b.atR y (.inRegion #[o0] [0]::.code (.seq (.region j1 lC false) (.cond cnd (.region j2 ops2 false) .skip))::[])) _ #[o0] 0 [] _ o0 Lk.done x0 bW aeQ rfl d rfl rfl hw0 h0 hx0 Z hbW hfW ?_;rw[pg];simp only[F9,List.getElem?_cons_zero,Option.bind_some,hd0];have S:y.put none undef=y:=rfl;rw[S];generalize hv1:wt (wt v tp1) tp2=v1;have hr1:Ev.HR ρ h v1:=hr.heap (by rw[<-hv1];rfl);refine KW.item m hS rfl (o pay) d rfl rfl (go_step (k':=.code (.seq (.region j1 lC false) (.cond cnd (.region j2 ops2 false) .skip))::[]) fun w=>by unfold Conc.G;simp[stepG,stepG.exec,Frame.atR]) fun tp3=>?_;refine KW.item m hS rfl (o pay) d rfl rfl (go_step (k':=.code (.region j1 lC false)::.code (.cond cnd (.region j2 ops2 false) .skip)::[]) fun w=>by unfold Conc.G;simp[stepG,stepG.exec,Frame.atR]) fun tp4=>?_;refine KW.item m hS rfl (o pay) d rfl rfl (go_step (k':=.inRegion lC (List.range lC.size)::.code (.cond cnd (.region j2 ops2 false) .skip)::[]) fun w=>by unfold Conc.G;simp[stepG,stepG.exec,Frame.atR]) fun tp5=>?_;generalize hv2:wt (wt (wt v1 tp3) tp4) tp5=v2;have hr2:Ev.HR ρ h v2:=hr1.heap (by rw[<-hv2];rfl);have n1:=Ev.gX hN e1;have hnn:h1.next<=hi:=by
  split at e
  .split at e
   .rename_i hb;exact iF hb
   cases e
  .split at e
   .rename_i t2 h2' e2
    split at e
    .rename_i hb _ _;exact bM (Ev.gX hN e2) (iF hb)
    cases e
   cases e
  cases e
 have E:List.range lC.size=List.range' 0 lC.toList.length++[]:=by rw[o9,yV];simp
 rw[E];refine KW.ops m hS rfl (o pay) hN hI d (fun j _=>by simp) e1 A hr2 (hu.sub (aA _) hnn) fun ρ1 a1 w1 d1 s1 r1 q1=>?_;refine KW.item m hS rfl (o pay) d rfl rfl (go_step (k':=.code (.cond cnd (.region j2 ops2 false) .skip)::[]) fun w=>by unfold Conc.G;simp[stepG,stepG.exec,Frame.atR]) fun tp6=>?_;split at e
 .
  rename_i ec;have T:pay=none:=by
   split at e
   .exact(aN e).symm
   cases e
  subst T;have I:=(Ev.fA q1 _ _ ec).gZ;refine KW.item m hS rfl (o none) d rfl rfl (go_step (k':=.code .skip::[]) fun w=>by have:=xB (kH b a1 (.code (.cond cnd (.region j2 ops2 false) .skip)::[])) cnd;simp only[Frame.atR] at this;unfold Conc.G;simp[stepG,stepG.exec,Frame.atR,this,I]) fun tp7=>?_
  refine KW.item m hS rfl (o none) d rfl rfl (go_step (k':=[]) fun w=>by unfold Conc.G;simp[stepG,stepG.exec,Frame.atR]) fun tp8=>?_;exact leave _ _
 .
  rename_i ec;split at e;case h_2=>cases e
  rename_i t2 h2' e2;split at e;case h_2=>cases e
  rename_i c kd z hbl ech ex;split at e;case h_2=>cases e
  rename_i hcc;obtain rfl:=bG hcc;obtain rfl:=aN e;have I:a1.eval cnd=.bool true:=(Ev.fA q1 _ _ ec).gZ;refine KW.item m hS rfl (o _) d rfl rfl (go_step (k':=.code (.region j2 ops2 false)::[]) fun w=>by have:=xB (kH b a1 (.code (.cond cnd (.region j2 ops2 false) .skip)::[])) cnd;simp only[Frame.atR] at this;unfold Conc.G;simp[stepG,stepG.exec,Frame.atR,this,I]) fun tp7=>?_
  refine KW.item m hS rfl (o _) d rfl rfl (go_step (k':=.inRegion ops2 (List.range ops2.size)::[]) fun w=>by unfold Conc.G;simp[stepG,stepG.exec,Frame.atR]) fun tp8=>?_;have hlen:ops2.size=l2.length+1:=by rw[<-Array.length_toList,h2];simp
  have Q:List.range ops2.size=List.range' 0 l2.length++[l2.length]:=by rw[hlen,yV,List.range'_concat];simp
  rw[Q];have U:=iF hbl;have p:∀j,ops2[j]?=(l2++[so])[j]?:=fun j=>by rw[<-h2,Array.getElem?_toList]
  have n2:=Ev.gX hN e2;refine KW.ops m hS rfl (o _) hN hI d (l:=l2) (i:=0) (rest:=[l2.length]) (fun j hj=>by rw[DF,p,EU hj]) e2 q1 (r1.heap rfl) ((hu.sub n1 U).step s1 (aA _)) fun ρ2 q w2 d2 s2 r2 q2=>?_;have V:ρ1 c=ρ c:=pM s1 F C (by rw[hC];simp);have hg1:h1.get c=none:=by
   have⟨l,_,_,_,p1,p2,_⟩:=s1.log;by_cases hm:c∈l
   .rcases p1 c hm with J|J
    .rw[F] at J;cases J
    omega
   rw[p2 c hm];exact F
  have hk2:ρ2 c=ρ c:=(pM s2 hg1 (bT C n1) (by rw[V,hC];simp)).trans V;have O:ops2[l2.length]?=some so:=by rw[p];simp
  have hws:Region.wanted so (yielded ops2 q.tmps)=true:=by unfold Region.wanted;rw[hsg]
  have Y:(b.atR q (.inRegion ops2 [l2.length]::[])).eval ch=.chan (some bC):=by
   have K:=Ev.fA q2 _ _ ech;rw[show(b.atR q (.inRegion ops2 [l2.length]::[])).eval ch=q.eval ch from xB (kH b q _) ch];generalize q.eval ch=u at K;cases K with
   |same h=>cases h
   |chan J=>rw[J.at_ (hk2.trans hC)]
  have W:(b.atR q (.inRegion ops2 [l2.length]::[])).eval x=.int kd z:=by have K:=Ev.fA q2 _ _ ex;rw[show(b.atR q (.inRegion ops2 [l2.length]::[])).eval x=q.eval x from xB (kH b q _) x];exact K.flat rfl
  refine @KW.send (aV P L N) _ P (·∈L) Lk.tWg Wg Ch Ro [under P] [doneD Lk.done Wg] n0 f0 w0 (b.atR q (.inRegion ops2 [l2.length]::[])) w2 ops2 l2.length [] [] so ch x bC (.int kd z) rfl d rfl O hws hso hch hx Y hbC hfC W rfl ?_;rw[pg];refine KW.item m hS rfl hX0 d rfl rfl (Ev.oI) fun tp9=>?_;exact leave _ _
 cases e
end
end Go.Crew
namespace Go.Ev
open Go.Conc Go.Ren
section
variable{P:aH}{L N:List aI}{K:aC->List aC->ay->Prop}
def nX(P:aH)(L:List aI)(n:Nat)(all:List bn):List bn->T ae->aB (T ae)
|[],t=>some t
|o::l,t=>match rY all t o,xZ o.op&&YW P L t o with
 |some true,true=>match sZ P (di t) o.op with
  |some v=>match nV t n o.dst v with
   |some t'=>nX P L n all l t'
   |none=>none
  |none=>none
 |_,_=>none
theorem iW.adb(g:iW P L N K){ρ:Ev.jV}{n:Nat}{ops:Array bn}{rest:List Nat}{b:aC}{k:List ig}{cs:List aC}(hcs:qN cs):∀{l:List bn} {i:Nat} {t t':T ae},(∀j,j<l.length->ops[i+j]?=l[j]?)->nX P L n ops.toList l t=some t'->∀{a:Act} {w:ay},TR ρ n t a.tmps->(∀a' w',a'.defers=a.defers->w'.heap=w.heap->TR ρ n t' a'.tmps->K (b.atR a' (.inRegion ops rest::k)) cs w')->K (b.atR a (.inRegion ops (List.range' i l.length++rest)::k)) cs w
|[],i,t,t',hl,e,a,w,ht,hk=>by cases e;exact hk a w rfl rfl ht
|o::l,i,t,t',hl,e,a,w,ht,hk=>by
 have ho:ops[i]?=some o:=by simpa using hl 0 (by simp)
 have f:∀j,j<l.length->ops[i+1+j]?=l[j]?:=fun j hj=>by have:=hl (j+1) (by simp;omega);rw[show i+(j+1)=i+1+j by omega] at this;simpa using this
 have c:List.range' i (o::l).length++rest=i::(List.range' (i+1) l.length++rest):=by simp[uw]
 rw[c];simp only[nX] at e;split at e
 .rename_i hw hc;simp only[aT] at hc
  split at e
  .rename_i v h
   split at e
   .rename_i t1 r;have d:=hc.2;unfold YW at d;simp only[aT,ET] at d;refine g.own (kF ho d.1.2 d.1.1) fun m=>?_;have⟨v',q,p⟩:=pure_ok (o:=o) (fA ht) h (wt w m);have⟨es,hst⟩:=mW (b:=b) (k:=k) (cs:=cs) (rest:=List.range' (i+1) l.length++rest) ho (gJ ht hw) (jo h) q (.inl rfl);refine⟨_,_,_,es,hst,trivial,hcs,fun hcl=>Ren.dH hcl rfl,.of rfl,?_⟩;exact iW.adb g hcs f e (ht.put r p) fun s w2 d1 d2 d3=>hk s w2 (by rw[d1,put_defers]) (by rw[d2];rfl) d3
   cases e
  cases e
 cases e
def strike(t:T ae)(d:Nat):T ae:=T.put T.deep t d none
theorem TR.forget{ρ n t}{a:Act}(h:TR ρ n t a.tmps){d}(hd:d<top)(v):TR ρ n (strike t d) (a.put (some d) v).tmps:=by
 refine⟨by simp[Act.put,h.size],fun i u hu=>?_⟩;unfold strike at hu;rw[T.get_put _ _ _ _ _ (df hd)] at hu;split at hu
 .cases hu
 rename_i hne;have⟨v',h1,h2⟩:=h.get i u hu;refine⟨v',?_,h2⟩;simp[Act.put];rw[jf (fun e=>hne e.symm)];exact h1
theorem TR.know{ρ n t a}(h:TR ρ n t a){d}(hd:d<top){u v}(b:a[d]?=some v)(hr:VR ρ u v):TR ρ n (T.put T.deep t d (some u)) a:=by
 refine⟨h.size,fun i x hx=>?_⟩;rw[T.get_put _ _ _ _ _ (df hd)] at hx;split at hx
 .rename_i e;cases hx;subst e;exact⟨v,b,hr⟩
 exact h.get i x hx
theorem qm(a:Act){d}(hd:d<a.tmps.size)(v):(a.put (some d) v).tmps[d]?=some v:=by simp[Act.put,hd]
theorem vG(a:Act){d j}(h:j≠d)(v):(a.put (some d) v).tmps[j]?=a.tmps[j]?:=by exact jf (fun e=>h e.symm)
theorem iW.alloc1(n:iW P L N K){ops i rest o}{b:aC}{a k cs w tid z}(hcs:qN cs)(ho:ops[i]?=some o)(hw:Region.wanted o (yielded ops a.tmps)=true)(d:o.op=.alloc tid)(hb:jw P L o=true)(l:zeroOf P tid=some z)(hk:∀w',w'.heap=w.heap.push (.cells z.cells tid)->K (b.atR (a.put o.dst (.pointer (some ⟨w.heap.size,0,none⟩))) (.inRegion ops rest::k)) cs w'):K (b.atR a (.inRegion ops (i::rest)::k)) cs w:=by
 refine n.own (kF ho (by rw[d];rfl) hb) fun e=>?_;have⟨f,g⟩:=nH l (wt w e);have hr:(execOp a.eval o).run P (wt w e)=.ok (.value (.pointer (some ⟨w.heap.size,0,none⟩))) ((wt w e).alloc (.cells z.cells tid)):=by unfold execOp;rw[d];simp[Instr.alloc,f,newVar,newRow];rfl
 have⟨es,hst⟩:=mW (b:=b) (k:=k) (cs:=cs) (rest:=rest) ho hw (fun c=>by rw[d];simp) hr (.inl rfl);refine⟨_,_,_,es,hst,trivial,hcs,fun hcl=>rO (fun x hx=>yz g x (by simpa using hx)) (Ren.dH hcl rfl),fun c o1 h1 h2 j p=>?_,hk _ rfl⟩;have m:=(aP.1 h1).1;have h:(w.heap.push _)[c]?=some j:=p;rw[iK,aU (by omega),h1] at h;rw[<-aN h];exact h2
theorem iW.store1(z:iW P L N K){ops i rest o}{b:aC}{a k cs w tid el x y ti c u0 u}(hcs:qN cs)(ho:ops[i]?=some o)(hw:Region.wanted o (yielded ops a.tmps)=true)(h:o.op=.store tid x y)(hb:jw P L o=true)(hi:P.info? tid=some ti)(hs:ti.size=1)(hx:a.eval x=.pointer (some ⟨c,0,none⟩))(hy:a.eval y=u)(hu:single u=true)(q:fF (·∈L) u)(hc:w.heap[c]?=some (.cells #[u0] el (0,0)))(hd:o.dst=none)(hk:∀w',w'.heap=w.heap.setIfInBounds c (.cells #[u] el (0,0))->K (b.atR a (.inRegion ops rest::k)) cs w'):K (b.atR a (.inRegion ops (i::rest)::k)) cs w:=by
 refine z.own (kF ho (by rw[h];rfl) hb) fun f=>?_;have r:=(aP.1 hc).1;have g:u.cells=#[u]:=by cases u<;>first|rfl|(cases hu;done)
 have m:(wt w f).heap[c]?=some _:=hc;have l:(wt w f).cell? ⟨c,0,none⟩=some u0:=by simp[World.cell?,m]
 have s:(wt w f).frozen? ⟨c,0,none⟩=false:=by simp[World.frozen?,m]
 have p:(⟨c,0,none⟩:Addr).add 0=⟨c,0,none⟩:=by simp[Addr.add]
 have n:(store ⟨c,0,none⟩ u).run P (wt w f)=.ok () ((wt w f).setCell ⟨c,0,none⟩ u):=by
  unfold store;cases u with
  |agg _=>cases hu
  |tuple _=>cases hu
  |_=>simp[Sem.run,l,s]
 have hr:(execOp a.eval o).run P (wt w f)=.ok .skip ((wt w f).setCell ⟨c,0,none⟩ u):=by unfold execOp;rw[h];simp[Instr.storeAt,Instr.sureAddr,hx,hy,storeVar,Go.sizeOf,typeInfo,hi,hs,g,storeCells,p,n]
 have e:((wt w f).setCell ⟨c,0,none⟩ u).heap=w.heap.setIfInBounds c (.cells #[u] el (0,0)):=by
  apply Array.ext_getElem?;intro j;rw[eP];by_cases hj:j=c
  .subst hj;rw[aY rfl,m,Bv r];simp
  rw[aU hj,jf (uJ hj)];rfl
 have⟨es,hst⟩:=mW (b:=b) (k:=k) (cs:=cs) (rest:=rest) ho hw (fun c=>by rw[h];simp) hr (.inr ⟨rfl,rfl⟩);rw[hd] at hst;refine⟨_,_,_,es,hst,trivial,hcs,fun hcl=>?_,fun d o1 h1 h2 v A=>?_,hk _ e⟩
 .exact yR (Ren.dH hcl rfl) q
 have t:((wt w f).setCell _ u).heap[d]?=some v:=A;rw[e] at t;by_cases hj:d=c
 .subst hj;rw[hc] at h1;cases h1;cases h2
 rw[jf (uJ hj),h1] at t;rw[<-aN t];exact h2
theorem iW.func(q:iW P L N K){ops i rest o}{b:aC}{a k cs w fn xs d}(p:b.kind=.normal)(n:b.roundOf=none)(ho:ops[i]?=some o)(hw:Region.wanted o (yielded ops a.tmps)=true)(l:o.op=.makeFunc (.func fn) xs d)(hfn:fn∈L\/fn∈N)(hxs:∀x∈xs,ed P (@Ren.Nm (aV P L N) (·∈L)) x)(e:∀x∈d,ed P (@Ren.Nm (aV P L N) (·∈L)) x)(hk:K (b.atR (a.put o.dst (.func (.func fn) (xs.map a.eval) (d.map a.eval))) (.inRegion ops rest::k)) cs w):K (b.atR a (.inRegion ops (i::rest)::k)) cs w:=by
 have j:(b.atR a (.inRegion ops (i::rest)::k)).eval=a.eval:=kH b a _;have g:(b.atR a (.inRegion ops (i::rest)::k)).finish (.func (.func fn) (xs.map a.eval) (d.map a.eval))=b.atR (a.put o.dst (.func (.func fn) (xs.map a.eval) (d.map a.eval))) (.inRegion ops rest::k):=by
  have:=pg b a ops i rest k (.func (.func fn) (xs.map a.eval) (d.map a.eval))
  rw[ho] at this;simpa using this
 refine q _ _ _ (@fO.put _ (aV P L N) P _ _ _ cs (.func (.func fn) (xs.map a.eval) (d.map a.eval)) w (fun c=>?_) (fun c r f m cs' w1 hx=>?_) ?_)
 .have:=@Yd _ aj (aV P L N) P _ _ cs w c fn hfn xs d hxs e
  rw[j] at this;exact this
 .have:=@agB _ r (aV P L N) P (·∈L) (b.atR a (.inRegion ops (i::rest)::k)) ops i rest k o fn xs d rfl n (by show b.kind≠.early;rw[p];intro h;cases h) rfl (@aG.items _ (aV P L N) _ _ _ (@SB.frame _ (aV P L N) _ _ _ (@Ok.wX _ (aV P L N) _ _ _ _ c))) ho hw l hxs e f m cs' w1 hx
  rw[j] at this;exact this
 rw[g];exact @fO.done _ (aV P L N) _ _ _ _ _ ⟨_,_,rfl,hk,.of rfl⟩
end
end Go.Ev
namespace Go.Crew
open Go.Conc Go.ConcN Go.Ren Go.Conc.Lib Go.ConcR.Gen Go.ConcN.Gen
structure LQ where
 wc:aI
 fn:Func
 j0:Nat
 j1:Nat
 j2:Nat
 o0:bn
 so:bn
 lC:Array bn
 ops2:Array bn
 l2:List bn
 cnd:fH
 x0:fH
 ch:fH
 x:fH
 aeQ:Array aZ
 i5:Nat
 i6:Nat
 i7:Nat
 i8:Nat
 i9:Nat
 i10:Nat
 BQ:Nat
 qE:Nat
 ops5:Array bn
 ops9:Array bn
 o6m:bn
 o6a:bn
 o6s:bn
 o7:bn
 X9:bn
 X8:bn
 TI:bn
 c5:fH
 tid:aZ
 ti:TypeInfo
 z0:ae
 u0:ae
 d8:Nat
 d22:Nat
 d23:Nat
 y6:fH
 xA:fH
 xW:fH
 caps:Array fH
 ajb:Array aZ
 aja:Array aZ
 aeP:Array aZ
def LQ.MH(c:LQ):Code:=.seq (.region c.j0 #[c.o0] false) (.seq (.region c.j1 c.lC false) (.cond c.cnd (.region c.j2 c.ops2 false) .skip))
def LQ.loopBody(c:LQ):Code:=.seq (.region c.i5 c.ops5 false) (.seq (.cond c.c5 .skip (.exit c.BQ)) (.seq (.block c.qE (.seq (.region c.i6 #[c.o6m,c.o6a,c.o6s] false) (.seq (.region c.i7 #[c.o7] false) (.region c.i8 #[c.X9,c.X8] false)))) (.region c.i9 c.ops9 false)))
structure LQ.OK(P:aH)(L N:List aI)(Lk:WgLink)(c:LQ):Prop where
 fw:P.funcs[c.wc]?=some c.fn
 bw:c.fn.body=some c.MH
 rw_:c.fn.results=#[]
 nw:(c.fn.name == "runtime.NumGoroutine")=false
 cw:ny P L c.MH=true
 alu:c.o0.op=.defer {callee:=.value (.func Lk.done),args:=#[c.x0],argTypes:=c.aeQ}
 o0g:c.o0.guard=none
 o0d:c.o0.dst=none
 ak8:nR P (L++N) c.x0=true
 alC:c.ops2.toList=c.l2++[c.so]
 sop:c.so.op=.send c.ch c.x
 sg:c.so.guard=none
 ag0:nR P (L++N) c.ch=true
 xok:nR P (L++N) c.x=true
 wN:c.wc∈N
 aop:c.o6a.op=.alloc c.tid
 ag:c.o6a.guard=none
 ad:c.o6a.dst=some c.d8
 ab:jw P L c.o6a=true
 ajx:P.info? c.tid=some c.ti
 ajw:c.ti.size=1
 tz:Ev.zeroOf P c.tid=some c.z0
 tz1:c.z0.cells=#[c.u0]
 alh:c.o6s.op=.store c.tid (.tmp c.d8) c.y6
 s6g:c.o6s.guard=none
 s6d:c.o6s.dst=none
 s6b:jw P L c.o6s=true
 alT:c.o7.op=.call {callee:=.value (.func Lk.add),args:=#[c.xA,.const (.int .i64 1)],argTypes:=c.ajb}
 ag7:c.o7.guard=none
 ad7:c.o7.dst=some c.d22
 ak7:nR P (L++N) c.xA=true
 alM:c.X9.op=.makeFunc (.func c.wc) #[] c.caps
 f8g:c.X9.guard=none
 f8d:c.X9.dst=some c.d23
 ai4:∀x∈c.caps,nR P (L++N) x=true
 alI:c.X8.op=.go {callee:=.value (.tmp c.d23),args:=#[],argTypes:=c.aja}
 g8g:c.X8.guard=none
 g8d:c.X8.dst=none
 aju:c.TI.op=.call {callee:=.value (.func Lk.wait),args:=#[c.xW],argTypes:=c.aeP}
 ala:c.TI.guard=none
 ak6:nR P (L++N) c.xW=true
 h8:c.d8<Ev.top
 h22:c.d22<Ev.top
 h23:c.d23<Ev.top
 h8n:c.d8≠c.d22
 h8m:c.d8≠c.d23
section
variable(P:aH)(L N:List aI)(inv:Ev.Iv)(c:LQ)(n nW nC hi:Nat)(hS:Ev.H)
def LQ.uh(t:Ev.T ae):aB (aB ae×Ev.T ae):=
 match Ev.nX P L n c.ops5.toList c.ops5.toList t with
 |some t1=>match Ev.di t1 c.c5 with
  |some (.bool true)=>match Ev.nX P L n [c.o6m,c.o6a,c.o6s] [c.o6m] t1 with
   |some t2=>match Ev.di (Ev.strike t2 c.d8) c.y6,Ev.di (Ev.strike t2 c.d8) c.xA with
    |some (.int kd z),some (.pointer (some ⟨w,0,none⟩))=>match Nat.beq w nW,hS.new (.cells [.int kd z] c.tid none) with
     |true,some (nb,hC)=>match Ev.opts (Ev.di (Ev.T.put Ev.T.deep (Ev.strike (Ev.strike t2 c.d8) c.d22) c.d8 (some (.pointer (some ⟨nb,0,none⟩))))) c.caps.toList with
      |some args=>match Zo P L N inv (args.length+(c.fn.ntmps-args.length)) c.x0 c.lC.toList c.cnd c.ops2.toList c.l2 c.ch c.x nW nC hi args hC with
       |some pay=>match Ev.nX P L n c.ops9.toList c.ops9.toList (Ev.strike (Ev.strike (Ev.strike t2 c.d8) c.d22) c.d23) with
        |some t6=>some (pay,t6)
        |none=>none
       |none=>none
      |none=>none
     |_,_=>none
    |_,_=>none
   |none=>none
  |_=>none
 |none=>none
def LQ.DZ:Nat->Ev.T ae->aB (List (aB ae)×Ev.T ae)
|0,t=>match Ev.nX P L n c.ops5.toList c.ops5.toList t with
 |some t1=>match Ev.di t1 c.c5,Ev.di t1 c.xW with
  |some (.bool false),some (.pointer (some ⟨w,0,none⟩))=>match Nat.beq w nW with
   |true=>some ([],t1)
   |false=>none
  |_,_=>none
 |none=>none
|r+1,t=>match c.uh P L N inv n nW nC hi hS t with
 |some (pay,t')=>match LQ.DZ r t' with
  |some (ps,tE)=>some (pay::ps,tE)
  |none=>none
 |none=>none
end
structure Rows(vz:ay)(g:Nat)(v:ay):Prop where
 size:v.heap.size=vz.heap.size+g
 old:∀x,x<vz.heap.size->v.heap[x]?=vz.heap[x]?
 new:∀x o,vz.heap.size<=x->v.heap[x]?=some o->isCells o=true
def Rows.same{vz v v' g}(h:Rows vz g v)(e:v'.heap=v.heap):Rows vz g v':=⟨by rw[e];exact h.size,fun x hx=>by rw[e];exact h.old x hx,fun x o hx ho=>h.new x o hx (by rw[<-e];exact ho)⟩
def Rows.ahv{vz v g}(h:Rows vz g v)(d:Ev.dU vz):Ev.dU v:=fun x o hx=>by
 rcases kJ x vz.heap.size with a|b
 .exact d x o (by rw[<-h.old x a];exact hx)
 have:=h.new x o b hx;cases o<;>first|rfl|(cases this;done)
def Rows.hr{vz v g}(h:Rows vz g v){ρ hS}(hr:Ev.HR ρ hS vz):Ev.HR ρ hS v:=hr.NZ (h.ahv hr.fD) fun b o x k o' _ _ ho _=>by rw[h.old x (aP.1 ho).1];exact ho
section
def V3[jE]{S n f pre caps}(h:∀(H a) (h h'),Ren.Alike (Nm S) n H a h h'->@val _ H aj h (.func f pre caps)=@val _ a aj h' (.func f pre caps)):rV S n (pre++caps):=fun H a h1 h2 ha=>by
 have:=h H a h1 h2 ha
 rw[uf,uf] at this;injection this with e1 d b;rw[vO,vO];unfold vals;rw[d,b]
end
section
variable[aX]{P:aH}{L N:List aI}{Lk:WgLink}{Wg Ch:Nat}{Ro:Nat->Prop}{c:LQ}{inv:Ev.Iv}
theorem Ed{x}(h:nR P (L++N) x=true):ed P (@Ren.Nm (aV P L N) (·∈L)) x:=Ev.zL h
theorem LQ.child(T:bz P)(hSk:mM P (·∈L))(H:WgLib P Lk)(hCW:Ch≠Wg)(hRW:¬Ro Wg)(hN:Ev.qK inv)(hI:∀f args h v h',inv (.func f) args h=some (v,h')->Ev.dF P f args h v h')(hc:c.OK P L N Lk){ρ hS C vz v g n0}{f0:Nat->Nat}(hr:Ev.HR ρ hS vz)(V:∀b o,hS.get b=some o->∃d t,o=.shut d t)(j:∀x o,vz.heap[x]?=some o->qA o=true\/Ro (f0 x)\/(o.isChan=true/\aX.ch (f0 x)))(hn0:n0=vz.heap.size){F bW kW B bC kC hi nb}(hW:ρ F=.at_ bW kW)(hbW:bW<n0)(hfW:f0 bW=Wg)(hCc:ρ B=.at_ bC kC)(hbC:bC<n0)(hfC:f0 bC=Ch)(hnC:hS.get B=none)(hnC2:B<hS.next)(hnW2:F<hS.next)(hu:Ev.lK ρ hS.next hi){kd z}(J:hS.new (.cells [.int kd z] c.tid none)=some (nb,C))(hhi:C.next<=hi)(Q:Rows vz (g+1) v)(O:v.heap[n0+g]?=some (.cells #[.int kd z] c.tid (0,0))){args pay}(e:Zo P L N inv (args.length+(c.fn.ntmps-args.length)) c.x0 c.lC.toList c.cnd c.ops2.toList c.l2 c.ch c.x F B hi args C=some pay){fr:aC}{cs:List aC}{caps:Array ae}(M:fr.tmps.getD c.d23 undef=.func (.func c.wc) #[] caps)(U:Ev.iL (Ev.upd ρ nb (.at_ (n0+g) 0)) args caps.toList){f:Nat->Nat}{w:ay}{own:Nat->Prop}(hp:@eX _ _ (aV P L N) P (·∈L) Ro own aX.ch f (Conc.G fr cs) v w)(A:∀b,Ro b->b<w.heap.size/\¬own b)(m:∀i,i<n0->f i=f0 i)(Y:¬own Wg)(Z:¬own Ch)(hH:P7 own w):bu P Ro (Live Lk.tWg Wg Ch) false (kN (P5 P Lk.tWg Wg Ch Ro pay)) ⟨Conc.born P (deferred f {target:=.fn (.func c.wc) caps,args:=#[]}),w,given own f (fun b=>b=n0+g)⟩:=by
 have⟨q1,q2,q3,E⟩:=Ev.H.mG J;have hup:ρ nb=.dC:=hu nb (by omega) (by omega);have hcl:∀b x,¬(b=n0+g)->own (f b)->v.heap[b]?=some x->isCells x=true:=fun b x hb ho hx=>by
  rcases kJ b vz.heap.size with s|hge
  .rw[Q.old b s] at hx
   rcases j b x hx with h1|h1|⟨_,h1⟩
   .cases x<;>first|rfl|(cases h1;done)
   .rw[<-m b (by omega)] at h1;exact absurd ho (A _ h1).2
   rw[<-m b (by omega)] at h1;exact absurd ho (hH _ h1).2
  exact Q.new b x hge hx
 have hgood:@aG _ (aV P L N) P (·∈L) (Frame.enter P c.wc #[] .normal):=by
  refine @aG.mk _ (aV P L N) P _ _ (fun it hit=>?_) (fun d hd=>(by simp[Frame.enter] at hd)) trivial (.inl rfl);have:it=.code c.MH:=by simp[Frame.enter,hc.fw] at hit;simpa[hc.bw] using hit
  subst this;exact @Ey _ P L N _ hc.cw
 have p:@rV _ (aV P L N) (·∈L) v.heap.size (#[]++caps):=by
  refine @V3 (aV P L N) _ _ (.func c.wc) #[] caps fun H H' h h' ha=>?_
  have:=@Oh _ P (·∈L) (aV P L N) fr cs v (@eX.ok _ _ (aV P L N) _ _ _ _ _ _ _ _ _ hp) (.tmp c.d23) trivial H H' h h' ha
  rw[show fr.eval (.tmp c.d23)=.func (.func c.wc) #[] caps from M] at this;exact this
 refine @KW.birth (aV P L N) _ P (·∈L) Lk.tWg Wg Ch Ro own f fr cs v w hp A Y Z c.wc c.fn #[] caps (fun b=>b=n0+g) (kN (P5 P Lk.tWg Wg Ch Ro pay)) rfl hc.fw hc.nw (by rw[hc.bw];rfl) hgood p hcl ?_;have hsz:=Q.size;have I:Ev.HR ρ hS v:=Q.hr hr;have a:∀b,b≠nb->Ev.upd ρ nb (.at_ (n0+g) 0) b=ρ b:=fun b hb=>Ev.bJ _ _ hb;have hle:Ev.Le ρ (Ev.upd ρ nb (.at_ (n0+g) 0)):=Ev.rE hup _;have X:Ev.HR (Ev.upd ρ nb (.at_ (n0+g) 0)) C v:=by
  refine⟨I.fD,fun b o hb=>?_,fun b d x k l hb hd hx hy=>?_⟩
  .rw[E] at hb
   split at hb
   .rename_i r
    cases hb;subst r;exact⟨n0+g,0,_,Ev.upd_same _ _ _,O,[.int kd z],[],rfl,.cons (.same rfl) .nil,fun _=>rfl,fun z T=>by cases T⟩
   rename_i r;have⟨x,k,o',h1,h2,D⟩:=I.ob b o hb;exact⟨x,k,o',by rw[a b r];exact h1,h2,D.mono hle⟩
  have low:∀b x k,b≠nb->(C.get b).isSome=true->Ev.upd ρ nb (.at_ (n0+g) 0) b=.at_ x k->x<vz.heap.size/\(hS.get b).isSome=true/\ρ b=.at_ x k:=fun b x k hb hs hx=>by rw[E,aU hb] at hs;rw[a b hb] at hx;have⟨o,ho⟩:=gQ.1 hs;exact⟨hr.lt ho hx,hs,hx⟩
  by_cases S:b=nb<;>by_cases R:d=nb
  .rw[S,R]
  .subst S
   rw[Ev.upd_same] at hx;cases hx
   have:=(low d _ _ R hd hy).1
   omega
  .subst R
   rw[Ev.upd_same] at hy;cases hy
   have:=(low b _ _ S hb hx).1
   omega
  have⟨_,h1,h2⟩:=low b _ _ S hb hx;have⟨_,D,h4⟩:=low d _ _ R hd hy;exact hr.inj b d x k l h1 D h2 h4
 have W:Ev.HR (Ev.upd ρ nb (.at_ (n0+g) 0)) C (lG (fun b=>¬(b=n0+g)/\own (f b)) v):=by
  refine X.hide fun b x k o hb hx ho=>?_;rw[E] at hb;split at hb
  .rename_i r
   subst r;rw[Ev.upd_same] at hx;cases hx;exact .inl fun h=>h.1 rfl
  rename_i r;rw[a b r] at hx;have⟨ob,n⟩:=gQ.1 hb;obtain⟨d,t,rfl⟩:=V b ob n;have s:=hr.lt n hx;rw[Q.old x s] at ho;rcases j x o ho with h1|h1|⟨h1,_⟩
  .exact .inr ⟨h1,d,t,by rw[E,aU r];exact n⟩
  .refine .inl fun h=>(A _ h1).2 ?_
   rw[<-m x (by omega)];exact h.2
  have⟨y,k2,o',h2,D,h4⟩:=hr.ob b _ n;rw[hx] at h2;cases h2;rw[ho] at D;cases D;obtain⟨_,_,_,rfl,_⟩:=h4;cases h1
 have u:Frame.enter P c.wc (#[]++caps) .deferred=Frame.enter P c.wc ⟨caps.toList⟩ .deferred:=by simp
 rw[u];have K:F≠nb:=by omega
 have q:B≠nb:=by omega
 exact KW.worker (n0:=v.heap.size) (f0:=f) (w0:=w) T hSk H hCW hRW hN hI hc.fw hc.bw hc.rw_ hc.alu hc.o0g hc.o0d (Ed hc.ak8) hc.alC hc.sop hc.sg (Ed hc.ag0) (Ed hc.xok) e U W
  (fun b h1 h2=>by rw[a b (by omega)];exact hu b (by omega) h2) hhi (by rw[a F K];exact hW) (by omega) (by rw[m bW hbW];exact hfW) (by rw[a B q];exact hCc) (by omega) (by rw[m bC hbC];exact hfC)
  (by rw[E,aU q];exact hnC) (by omega)
end
section
variable{P:aH}{L N:List aI}{K:aC->List aC->ay->Prop}
theorem rZ(d:Ev.iW P L N K){b:aC}{a x k k' cs v}(hx:Ev.Yb x=true)(hcs:Ev.qN cs)(h:∀w,stepG P true (Conc.G (b.atR a (x::k)) cs) w=.go (Conc.G (b.atR a k') cs) w #[])(hk:∀v',v'.heap=v.heap->K (b.atR a k') cs v'):K (b.atR a (x::k)) cs v:=d.item hx hcs (fun w=>⟨#[],h w⟩) fun t=>hk _ rfl
theorem qf(d:Ev.iW P L N K){b:aC}{a ops k cs v}(hcs:Ev.qN cs)(hk:∀v',v'.heap=v.heap->K (b.atR a k) cs v'):K (b.atR a (.inRegion ops []::k)) cs v:=d.item rfl hcs Ev.oI fun t=>hk _ rfl
theorem GM(e:Ev.iW P L N K){b:aC}{a c c1 c2 k cs v}(hcs:Ev.qN cs){q}(d:a.eval c=.bool q)(hk:∀v',v'.heap=v.heap->K (b.atR a (.code (if q then c1 else c2)::k)) cs v'):K (b.atR a (.code (.cond c c1 c2)::k)) cs v:=by refine rZ e rfl hcs (fun w=>?_) hk;have:=xB (kH b a (.code (.cond c c1 c2)::k)) c;simp[Frame.atR] at this;unfold Conc.G;cases q<;>simp[stepG,stepG.exec,Frame.atR,this,d]
theorem gV(d:Ev.iW P L N K){b:aC}{a c1 c2 k cs v}(hcs:Ev.qN cs)(hk:∀v',v'.heap=v.heap->K (b.atR a (.code c1::.code c2::k)) cs v'):K (b.atR a (.code (.seq c1 c2)::k)) cs v:=rZ d rfl hcs (fun w=>by unfold Conc.G;simp[stepG,stepG.exec,Frame.atR]) hk
theorem Ve(d:Ev.iW P L N K){b:aC}{a k cs v}(hcs:Ev.qN cs)(hk:∀v',v'.heap=v.heap->K (b.atR a k) cs v'):K (b.atR a (.code .skip::k)) cs v:=rZ d rfl hcs (fun w=>by unfold Conc.G;simp[stepG,stepG.exec,Frame.atR]) hk
theorem DW(d:Ev.iW P L N K){b:aC}{a id c k cs v}(hcs:Ev.qN cs)(hk:∀v',v'.heap=v.heap->K (b.atR a (.code c::.inBlock id::k)) cs v'):K (b.atR a (.code (.block id c)::k)) cs v:=rZ d rfl hcs (fun w=>by unfold Conc.G;simp[stepG,stepG.exec,Frame.atR]) hk
theorem J9(d:Ev.iW P L N K){b:aC}{a id k cs v}(hcs:Ev.qN cs)(hk:∀v',v'.heap=v.heap->K (b.atR a k) cs v'):K (b.atR a (.inBlock id::k)) cs v:=rZ d rfl hcs (fun w=>by unfold Conc.G;simp[stepG,stepG.exec,Frame.atR]) hk
theorem Vf(d:Ev.iW P L N K){b:aC}{a c k cs v}(hcs:Ev.qN cs)(hk:∀v',v'.heap=v.heap->K (b.atR a (.code c::.inLoop c::k)) cs v'):K (b.atR a (.code (.loop c)::k)) cs v:=rZ d rfl hcs (fun w=>by unfold Conc.G;simp[stepG,stepG.exec,Frame.atR]) hk
theorem ML(d:Ev.iW P L N K){b:aC}{a c k cs v}(hcs:Ev.qN cs)(hk:∀v',v'.heap=v.heap->K (b.atR a (.code c::.inLoop c::k)) cs v'):K (b.atR a (.inLoop c::k)) cs v:=rZ d rfl hcs (fun w=>by unfold Conc.G;simp[stepG,stepG.exec,Frame.atR]) hk
theorem jk(d:Ev.iW P L N K){b:aC}{a id ops k cs v}(hcs:Ev.qN cs)(hk:∀v',v'.heap=v.heap->K (b.atR a (.inRegion ops (List.range ops.size)::k)) cs v'):K (b.atR a (.code (.region id ops false)::k)) cs v:=rZ d rfl hcs (fun w=>by unfold Conc.G;simp[stepG,stepG.exec,Frame.atR]) hk
theorem Vg(d:Ev.iW P L N K){b:aC}{a id k k' cs v}(hcs:Ev.qN cs)(he:exitTo id k=some k')(hk:∀v',v'.heap=v.heap->K (b.atR a k') cs v'):K (b.atR a (.code (.exit id)::k)) cs v:=rZ d rfl hcs (fun w=>by unfold Conc.G;simp[stepG,stepG.exec,Frame.atR,he]) hk
theorem I4(g:Ev.iW P L N K){ρ n id ops}{b:aC}{k cs}(hcs:Ev.qN cs){t t'}(e:Ev.nX P L n ops.toList ops.toList t=some t'){a v}(ht:Ev.TR ρ n t a.tmps)(hk:∀a' v',a'.defers=a.defers->v'.heap=v.heap->Ev.TR ρ n t' a'.tmps->K (b.atR a' k) cs v'):K (b.atR a (.code (.region id ops false)::k)) cs v:=by
 refine rZ g (k':=.inRegion ops (List.range ops.size)::k) rfl hcs (fun w=>by unfold Conc.G;simp[stepG,stepG.exec,Frame.atR]) fun v1 h1=>?_;have d:List.range ops.size=List.range' 0 ops.toList.length++[]:=by rw[o9,yV];simp
 rw[d];refine g.adb hcs (fun j _=>by simp) e ht fun a' v' d1 d2 d3=>?_;exact qf g hcs fun f d4=>hk a' f d1 (by rw[d4,d2,h1]) d3
end
section
variable[aX]{P:aH}{L N:List aI}{Lk:WgLink}{Wg Ch:Nat}{Ro:Nat->Prop}{c:LQ}{inv:Ev.Iv}{pay:Nat->aB ae}{w0:ay}
theorem LY{Stop}:∀e r,aX.ch r->yY r e->(kM Wg Stop).X e:=fun _ r h1 h2=>.inr ⟨r,h1,h2⟩
theorem LQ.starts(hz:bz P)(A:mM P (·∈L))(H:WgLib P Lk)(hCW:Ch≠Wg)(hRW:¬Ro Wg)(hN:Ev.qK inv)(hI:∀f args h v h',inv (.func f) args h=some (v,h')->Ev.dF P f args h v h')(hc:c.OK P L N Lk){ρ hS vz n0 f0}(hr:Ev.HR ρ hS vz)(hsh:∀b o,hS.get b=some o->∃d t,o=.shut d t)(Y:∀x o,vz.heap[x]?=some o->qA o=true\/Ro (f0 x)\/(o.isChan=true/\aX.ch (f0 x)))(hn0:n0=vz.heap.size){nW bW kW nC bC kC hi n s}(hn8:c.d8<n)(hn23:c.d23<n)(hW:ρ nW=.at_ bW kW)(hbW:bW<n0)(hfW:f0 bW=Wg)(hCc:ρ nC=.at_ bC kC)(hbC:bC<n0)(hfC:f0 bC=Ch)(hnC:hS.get nC=none)(hnC2:nC<hS.next)(hnW2:nW<hS.next)(hu:Ev.lK ρ hS.next hi)(hhi:hS.next+1<=hi){b:aC}(M:b.kind=.normal)(J:b.roundOf=none){rest R cs}(hcs:Ev.qN cs){End}:∀(r) (ps) (t tE),c.DZ P L N inv n nW nC hi hS r t=some (ps,tE)->∀(g) (a) (v),Rows vz g v->Ev.TR ρ n t a.tmps->(∀j,j<r->pay (s-(r-j))=(ps[j]?).getD none)->(∀a' v',a'.defers=a.defers->Rows vz (g+r) v'->Ev.TR ρ n tE a'.tmps->End (Conc.G ((b.atR a' (.inRegion #[c.TI] [0]::.code rest::R)).finish (.tuple #[])) cs) v')->@KO (aV P L N) _ P (·∈L) Lk.tWg Wg Ch Ro (kO P Lk.tWg Wg Ch Ro (Fb P Lk.tWg Wg Ch Ro s (@Head (aV P L N) P (·∈L) Lk Ro aX.ch Wg Ch w0 n0 f0 End) pay r)) n0 f0 w0 (b.atR a (.code c.loopBody::.inLoop c.loopBody::.inBlock c.BQ::.code (.seq (.region c.i10 #[c.TI] false) rest)::R)) cs v:=by
 intro r;induction r with
 |zero=>
 intro ps t tE e g a v hR ht _ D;have k:=@TU _ P L N hz A Lk.tWg Wg Ch Ro (kO P Lk.tWg Wg Ch Ro (Fb P Lk.tWg Wg Ch Ro s (@Head (aV P L N) P (·∈L) Lk Ro aX.ch Wg Ch w0 n0 f0 End) pay 0)) n0 f0 w0 rfl LY;simp[LQ.DZ] at e;split at e;case h_2=>cases e
 rename_i t1 e1;split at e;case h_2=>cases e
 rename_i w' ec ew;split at e;case h_2=>cases e
 rename_i hw;obtain rfl:=bG hw;cases e;unfold LQ.loopBody;refine gV k hcs fun v1 h1=>?_;refine I4 k hcs e1 ht fun a2 v2 d1 d2 d3=>?_;refine gV k hcs fun v3 h3=>?_;refine GM k hcs (Ev.fA d3 _ _ ec).gZ fun v4 h4=>?_;refine Vg k hcs (k':=.code (.seq (.region c.i10 #[c.TI] false) rest)::R) (by simp[exitTo]) fun v5 h5=>?_;refine gV k hcs fun v6 h6=>?_;refine jk k hcs fun v7 h7=>?_;have Z:v7.heap=v.heap:=by rw[h7,h6,h5,h4,h3,d2,h1]
 have hev:(b.atR a2 (.inRegion #[c.TI] [0]::.code rest::R)).eval c.xW=.pointer (some ⟨bW,0,none⟩):=by have h8:=Ev.fA d3 _ _ ew;have⟨a',h9,h10⟩:=h8.lD;rw[show(b.atR a2 (.inRegion #[c.TI] [0]::.code rest::R)).eval c.xW=a2.eval c.xW from xB (kH b a2 _) c.xW,h9];have⟨ab,ao,as⟩:=a';have g1:ab=bW:=h10.block.at_ hW;have g2:ao=0:=h10.off;have g3:as=none:=h10.spot';rw[g1,g2,g3]
 have hww:Region.wanted c.TI (yielded #[c.TI] a2.tmps)=true:=by unfold Region.wanted;rw[hc.ala]
 exact @KO.wait (aV P L N) _ P _ Lk Ro Wg Ch n0 f0 w0 H hRW v7 _ cs _ 0 [] _ c.TI c.xW bW c.aeP End rfl J (by show b.kind≠.early;rw[M];intro h;cases h) rfl rfl hww hc.aju (Ed hc.ak6) hev hbW hfW
  (D a2 v7 d1 (hR.same Z) d3)
 |succ r ih=>
 intro ps t tE e g a v hR ht T D;have k:=@TU _ P L N hz A Lk.tWg Wg Ch Ro (kO P Lk.tWg Wg Ch Ro (Fb P Lk.tWg Wg Ch Ro s (@Head (aV P L N) P (·∈L) Lk Ro aX.ch Wg Ch w0 n0 f0 End) pay (r+1))) n0 f0 w0 rfl LY;simp only[LQ.DZ] at e;split at e;case h_2=>cases e
 rename_i pay1 t6 m;split at e;case h_2=>cases e
 rename_i ps2 tE2 e2;cases e;unfold LQ.uh at m;split at m;case h_2=>cases m
 rename_i t1 e1;split at m;case h_2=>cases m
 rename_i ec;split at m;case h_2=>cases m
 rename_i t2 e3;split at m;case h_2=>cases m
 rename_i kd z w' ey ex;split at m;case h_2=>cases m
 rename_i nb hCh hw U;obtain rfl:=bG hw;split at m;case h_2=>cases m
 rename_i args eargs;split at m;case h_2=>cases m
 rename_i pay0 ework;split at m;case h_2=>cases m
 rename_i t60 e9;cases m;have hp0:pay (s-(r+1))=pay1:=by have:=T 0 (by omega);simpa using this
 have⟨q1,q2,q3,q4⟩:=Ev.H.mG U;have hgs:g+1+r=g+(r+1):=by omega
 refine gV k hcs fun v1 h1=>?_;refine I4 k hcs e1 ht fun a2 v2 d1 d2 d3=>?_;refine gV k hcs fun v3 h3=>?_;refine GM k hcs (Ev.fA d3 _ _ ec).gZ fun v4 h4=>?_;refine Ve k hcs fun v5 h5=>?_;refine gV k hcs fun v6 h6=>?_;refine DW k hcs fun v7 h7=>?_;refine gV k hcs fun v8 h8=>?_;refine jk k hcs fun v9 h9=>?_;have hR9:=hR.same (by rw[h9,h8,h7,h6,h5,h4,h3,d2,h1]);have hrng:List.range (#[c.o6m,c.o6a,c.o6s]:Array bn).size=List.range' 0 [c.o6m].length++[1,2]:=rfl;rw[hrng];refine k.adb hcs (fun j hj=>by simp at hj;subst hj;rfl) e3 d3 fun a3 v10 p1 p2 p3=>?_;have C:Rows vz g v10:=hR9.same p2;have hwa:Region.wanted c.o6a (yielded #[c.o6m,c.o6a,c.o6s] a3.tmps)=true:=by unfold Region.wanted;rw[hc.ag]
 refine k.alloc1 hcs (i:=1) (o:=c.o6a) rfl hwa hc.aop hc.ab hc.tz fun v11 p=>?_;rw[hc.ad];have hsz10:=C.size;have S:v10.heap.size=n0+g:=by omega
 rw[S];generalize ha4:a3.put (some c.d8) (.pointer (some ⟨n0+g,0,none⟩))=F;have p4:Ev.TR ρ n (Ev.strike t2 c.d8) F.tmps:=by rw[<-ha4];exact p3.forget hc.h8 _
 have hd8:F.tmps[c.d8]?=some (.pointer (some ⟨n0+g,0,none⟩)):=by rw[<-ha4];exact Ev.qm a3 (by rw[p3.size];exact hn8) _
 have hy4:F.eval c.y6=.int kd z:=(Ev.fA p4 _ _ ey).flat rfl;have hx4:F.eval (.tmp c.d8)=.pointer (some ⟨n0+g,0,none⟩):=by show F.tmps.getD c.d8 undef=_;rw[pq,hd8];rfl
 have hws:Region.wanted c.o6s (yielded #[c.o6m,c.o6a,c.o6s] F.tmps)=true:=by unfold Region.wanted;rw[hc.s6g]
 have hb11:v11.heap[n0+g]?=some (.cells #[c.u0] c.tid (0,0)):=by rw[p,hc.tz1,<-S];simp
 refine k.store1 hcs (i:=2) (o:=c.o6s) rfl hws hc.alh hc.s6b hc.ajx hc.ajw hx4 hy4 rfl (O7 kd z) hb11 hc.s6d fun I E=>?_;have hR12:Rows vz (g+1) I:=by
  refine⟨by rw[E,p];simp;omega,fun x hx=>?_,fun x o hx ho=>?_⟩
  .rw[E,jf (by omega),p,iK,aU (by omega)];exact C.old x hx
  by_cases hxe:x=n0+g
  .subst hxe;rw[E,Bv (by rw[p];simp;omega)] at ho;cases ho;rfl
  rw[E,jf (uJ hxe),p,iK,aU (by omega)] at ho;exact C.new x o hx ho
 have hb12:I.heap[n0+g]?=some (.cells #[.int kd z] c.tid (0,0)):=by rw[E,Bv (by rw[p];simp;omega)]
 refine qf k hcs fun v13 h13=>?_;refine gV k hcs fun v14 h14=>?_;refine jk k hcs fun v15 h15=>?_;have e15:v15.heap=I.heap:=by rw[h15,h14,h13]
 have hxA:(b.atR F (.inRegion #[c.o7] [0]::.code (.region c.i8 #[c.X9,c.X8] false)::.inBlock c.qE::.code (.region c.i9 c.ops9 false)::.inLoop c.loopBody::.inBlock c.BQ::.code (.seq (.region c.i10 #[c.TI] false) rest)::R)).eval c.xA=.pointer (some ⟨bW,0,none⟩):=by have h8:=Ev.fA p4 _ _ ex;have⟨a',g4,g5⟩:=h8.lD;rw[xB (kH b F _) c.xA,g4];have⟨ab,ao,as⟩:=a';have g1:ab=bW:=g5.block.at_ hW;have g2:ao=0:=g5.off;have g3:as=none:=g5.spot';rw[g1,g2,g3]
 have hw7:Region.wanted c.o7 (yielded #[c.o7] F.tmps)=true:=by unfold Region.wanted;rw[hc.ag7]
 refine @KO.add (aV P L N) _ P (·∈L) Lk Ro Wg Ch pay H hCW hRW v15 (b.atR F (.inRegion #[c.o7] [0]::.code (.region c.i8 #[c.X9,c.X8] false)::.inBlock c.qE::.code (.region c.i9 c.ops9 false)::.inLoop c.loopBody::.inBlock c.BQ::.code (.seq (.region c.i10 #[c.TI] false) rest)::R)) cs #[c.o7] 0 (s-(r+1)) [] _ c.o7 c.xA bW c.ajb _ n0 f0 w0 rfl J (by show b.kind≠.early;rw[M];intro h;cases h) rfl rfl hw7 hc.alT (Ed hc.ak7) hxA hbW hfW ?_;rw[pg];simp only[F9,List.getElem?_cons_zero,Option.bind_some,hc.ad7];generalize ha5:F.put (some c.d22) (.tuple #[])=Q;have p5:Ev.TR ρ n (Ev.strike (Ev.strike t2 c.d8) c.d22) Q.tmps:=by rw[<-ha5];exact p4.forget hc.h22 _
 have hd8':Q.tmps[c.d8]?=some (.pointer (some ⟨n0+g,0,none⟩)):=by rw[<-ha5,Ev.vG _ hc.h8n];exact hd8
 have hK2:=@TU _ P L N hz A Lk.tWg Wg Ch Ro (kO P Lk.tWg Wg Ch Ro (kM Wg (SGo P Lk.tWg Wg Ch Ro pay (s-(r+1)) (Spawns P Lk.tWg Wg Ch Ro s (@Head (aV P L N) P (·∈L) Lk Ro aX.ch Wg Ch w0 n0 f0 End) pay r)))) n0 f0 w0 rfl LY;refine qf hK2 hcs fun v16 h16=>?_;refine jk hK2 hcs fun q h17=>?_;have e17:q.heap=I.heap:=by rw[h17,h16,e15]
 have hw8:Region.wanted c.X9 (yielded #[c.X9,c.X8] Q.tmps)=true:=by unfold Region.wanted;rw[hc.f8g]
 have X:List.range (#[c.X9,c.X8]:Array bn).size=[0,1]:=rfl;rw[X];refine hK2.func (i:=0) (o:=c.X9) M J rfl hw8 hc.alM (.inr hc.wN) (fun x hx=>by simp at hx) (fun x hx=>Ed (hc.ai4 x hx)) ?_;rw[hc.f8d];simp only[DJ];generalize ha6:Q.put (some c.d23) (.func (.func c.wc) #[] (c.caps.map Q.eval))=a6;have p6:Ev.TR ρ n (Ev.strike (Ev.strike (Ev.strike t2 c.d8) c.d22) c.d23) a6.tmps:=by rw[<-ha6];exact p5.forget hc.h23 _
 have V:a6.tmps.getD c.d23 undef=.func (.func c.wc) #[] (c.caps.map Q.eval):=by rw[pq,<-ha6,Ev.qm Q (by rw[p5.size];exact hn23)];rfl
 have l:Rows vz (g+1) q:=hR12.same e17;have W:q.heap[n0+g]?=some (.cells #[.int kd z] c.tid (0,0)):=by rw[e17];exact hb12
 have hup:ρ nb=.dC:=hu nb (by omega) (by omega);have hva:Ev.iL (Ev.upd ρ nb (.at_ (n0+g) 0)) args (c.caps.map Q.eval).toList:=by have hle:Ev.Le ρ (Ev.upd ρ nb (.at_ (n0+g) 0)):=Ev.rE hup _;have q5:=(p5.mono hle).know hc.h8 hd8' (u:=.pointer (some ⟨nb,0,none⟩)) (.ptr ⟨by show Ev.BR _ nb _;unfold Ev.BR;rw[Ev.upd_same],rfl,rfl,rfl⟩);have:=(Ev.fA q5).opts eargs;simpa using this
 have hw8g:Region.wanted c.X8 (yielded #[c.X9,c.X8] a6.tmps)=true:=by unfold Region.wanted;rw[hc.g8g]
 refine @KO.go_ (aV P L N) _ P (·∈L) Lk.tWg Ro Wg Ch pay q (b.atR a6 (.inRegion #[c.X9,c.X8] [1]::.inBlock c.qE::.code (.region c.i9 c.ops9 false)::.inLoop c.loopBody::.inBlock c.BQ::.code (.seq (.region c.i10 #[c.TI] false) rest)::R)) cs #[c.X9,c.X8] 1 (s-(r+1)) [] _ c.X8 c.d23 (.func c.wc) #[] (c.caps.map Q.eval) c.aja _ n0 f0 w0 rfl J (by show b.kind≠.early;rw[M];intro h;cases h) rfl rfl hw8g hc.alI V (fun x=>x=n0+g) (fun x hx=>by subst hx;have:=l.size;omega) (fun x o hx ho=>by subst hx;rw[W] at ho;cases ho;rfl)
  (fun f w own hp hR0 hRo hag hoW hoC hoH hlive=>?_) (Fb P Lk.tWg Wg Ch Ro s (@Head (aV P L N) P (·∈L) Lk Ro aX.ch Wg Ch w0 n0 f0 End) pay r) (by cases r<;>rfl) (fun a7 h7=>?_) ?_
 .rw[hp0];exact LQ.child hz A H hCW hRW hN hI hc hr hsh Y hn0 hW hbW hfW hCc hbC hfC hnC hnC2 hnW2 hu U (by omega) l W ework (show(b.atR a6 _).tmps.getD c.d23 undef=_ from V) hva hp hRo hag hoW hoC hoH
 .cases r<;>exact h7
 rw[pg];have hdst:(#[c.X9,c.X8]:Array bn)[1]?.bind (·.dst)=none:=hc.g8d;rw[hdst];have hput:a6.put none undef=a6:=rfl;rw[hput];have hR18:Rows vz (g+1) (lG (fun x=>x=n0+g) q):=by
  refine⟨by rw[mQ];exact l.size,fun x hx=>?_,fun x o hx ho=>?_⟩
  .rw[OC (B:=fun y=>y=n0+g) (b:=x) (show ¬x=n0+g by omega)];exact l.old x hx
  obtain⟨x0,h1',h2'|h2'⟩:=oU ho
  .have:=l.new x x0 hx h1';rw[h2'.2];cases x0<;>first|rfl|(cases this;done)
  rw[h2'.2];exact l.new x x0 hx h1'
 have O:=@TU _ P L N hz A Lk.tWg Wg Ch Ro (kO P Lk.tWg Wg Ch Ro (Fb P Lk.tWg Wg Ch Ro s (@Head (aV P L N) P (·∈L) Lk Ro aX.ch Wg Ch w0 n0 f0 End) pay r)) n0 f0 w0 rfl (by cases r<;>exact LY);refine qf O hcs fun v19 h19=>?_;refine J9 O hcs fun v20 h20=>?_;refine I4 O hcs e9 p6 fun a7 v21 r1 r2 r3=>?_;refine ML O hcs fun v22 h22=>?_;have hR22:Rows vz (g+1) v22:=hR18.same (by rw[h22,r2,h20,h19]);refine ih ps2 t6 tE e2 (g+1) a7 v22 hR22 r3 (fun j hj=>?_) fun a' v' s1 s2 s3=>D a' v' ?_ (by rw[<-hgs];exact s2) s3
 .have:=T (j+1) (by omega);rw[show r+1-(j+1)=r-j by omega] at this;simpa using this
 rw[s1,r1,<-ha6,Ev.put_defers,<-ha5,Ev.put_defers,<-ha4,Ev.put_defers,p1,d1]
end
open Go.ConcR (KK wgBlock WgAt stA smA)
def Qa(ty:aZ)(gW gC cap:Nat):Fact:=fun Shr Hid _ f w t=>Shr (f gW)/\Shr (f gC)/\Hid (f gC)/\f gC≠f gW/\WgAt ty (f gW) w 0 0/\(∃rz tm,w.heap[f gC]?=some (.chan cap #[] false 0 rz tm))/\NoRelease (stA (f gW)) t
def SA(gC cap:Nat)(vals:List ae):Fact:=fun Shr Hid _ f w _=>Shr (f gC)/\Hid (f gC)/\∃(l:List ae) (s rz:Nat) (tm:Bool),l.Perm vals/\w.heap[f gC]?=some (.chan cap l.toArray false s rz tm)
section
variable[jE]{P:aH}{S:aI->Prop}{Z Shr Hid Ro own:Nat->Prop}{f:Nat->Nat}{g:dD}{v w:ay}
theorem eX.aeE(h:eX P S Ro own Hid f g v w){b x}(hx:v.heap[b]?=some x)(hc:x.isChan=true):Hid (f b):=by
 rcases h.held b x hx with h1|h1|⟨_,h1⟩|⟨h1,_⟩
 .rw[h1.2] at hc;cases hc
 .cases x<;>first|(cases h1;done)|(cases hc;done)
 .rcases h1 with⟨_,_,_,rfl,_⟩|⟨_,rfl⟩<;>cases hc
 exact h1
end
def abo{o}{ps:List (aB ae)}{sent:List Nat}(hn:sent.Nodup)(hm:∀i,i∈sent↔i<o+ps.length/\(if i<o then none else(ps[i-o]?).getD none:aB ae).isSome=true):(sent.map fun i=>(if i<o then none else(ps[i-o]?).getD none:aB ae).getD undef).Perm (ps.filterMap id):=by
 have key:∀(ps:List _) (o),((List.range' o ps.length).filter fun i=>(if i<o then none else(ps[i-o]?).getD none:aB ae).isSome).map (fun i=>(if i<o then none else(ps[i-o]?).getD none:aB ae).getD undef)=ps.filterMap id:=by
  intro ps;induction ps with
  |nil=>intro o;rfl
  |cons p ps h=>
   intro o;have a:=h (o+1);have e:∀i∈List.range' (o+1) ps.length,(if i<o then none else((p::ps)[i-o]?).getD none:aB ae)=(if i<o+1 then none else(ps[i-(o+1)]?).getD none:aB ae):=fun i hi=>by have:=(BC.1 hi).1;rw[aU (by omega),aU (by omega),show i-o=(i-(o+1))+1 by omega];simp
   rw[List.length_cons,uw,List.filter_cons];have j:((List.range' _ ps.length).filter fun i=>(if i<o then none else((p::ps)[i-o]?).getD none:aB ae).isSome)=(List.range' _ ps.length).filter fun i=>(if i<o+1 then none else(ps[i-(o+1)]?).getD none:aB ae).isSome:=UT fun i hi=>by rw[e i hi]
   have d:(((List.range' (o+1) ps.length).filter fun i=>(if i<o+1 then none else(ps[i-(o+1)]?).getD none:aB ae).isSome).map fun i=>(if i<o then none else((p::ps)[i-o]?).getD none:aB ae).getD undef)=ps.filterMap id:=by rw[<-a];exact uq fun i hi=>by rw[e i (kK.1 hi).1]
   rw[j];cases p with
   |none=>simp only[Gp,BF,aaE,List.getElem?_cons_zero,Option.getD_some,Option.isSome_none,tY];rw[d];rfl
   |some u=>
   simp only[Gp,BF,aaE,List.getElem?_cons_zero,Option.getD_some,Option.isSome_some,je,fU];rw[d];rfl
 rw[<-key ps o];refine List.Perm.map _ ?_;refine(List.perm_ext_iff_of_nodup hn ((List.nodup_range' ..).filter _)).2 fun i=>?_;rw[hm,kK,BC];constructor
 .rintro⟨h1,h2⟩;refine⟨⟨?_,by omega⟩,h2⟩;rcases kJ i o with b|b
  .rw[aY b] at h2;cases h2
  exact b
 rintro⟨⟨_,h1⟩,h2⟩;exact⟨by omega,h2⟩
section
variable{P:aH}{L N:List aI}{Lk:WgLink}{c:LQ}{inv:Ev.Iv}{Z:Nat->Prop}{w00:ay}{Post:ae->ay->Prop}
theorem LQ.aiW(hz:bz P)(hSk:mM P (·∈L))(H:WgLib P Lk)(hN:Ev.qK inv)(hI:∀f args h v h',inv (.func f) args h=some (v,h')->Ev.dF P f args h v h')(hc:c.OK P L N Lk){ρ h v n V D R kW s kC cap hi r nn}(hn8:c.d8<n)(M:c.d23<n)(hr:Ev.HR ρ h v)(hW:ρ V=.at_ R kW)(hgW:R<v.heap.size)(hC:ρ D=.at_ s kC)(m:s<v.heap.size)(hnC:h.get D=none)(K:D<h.next)(J:V<h.next)(hu:Ev.lK ρ h.next hi)(hhi:h.next+1<=hi){t tE ps}(e:c.DZ P L N inv n V D hi ⟨Ev.GY h.t,h.next,[]⟩ r t=some (ps,tE))(Y:ps.length=r)(Q:r<=cap)(I:r<2147483648){b:aC}(hbk:b.kind=.normal)(hbr:b.roundOf=none){rest}{W:List ig}{cs:List aC}(hcs:Ev.qN cs){a:Act}(ht:Ev.TR ρ n t a.tmps)(hgn:R<nn/\s<nn)(after:∀a' v',a'.defers=a.defers->Ev.TR ρ n tE a'.tmps->Ev.HR ρ h v'->Ev.Stp ρ h v ρ h v'->@rW _ _ (aV P L N) P (·∈L) Z w00 Post nn (SA s cap (ps.filterMap id)) ((b.atR a' (.inRegion #[c.TI] [0]::.code rest::W)).finish (.tuple #[])) cs v'):@rW _ _ (aV P L N) P (·∈L) Z w00 Post nn (Qa Lk.tWg R s cap) (b.atR a (.code c.loopBody::.inLoop c.loopBody::.inBlock c.BQ::.code (.seq (.region c.i10 #[c.TI] false) rest)::W)) cs v:=by
 intro hnn Shr Hid o f gs w sl tr q T hR hf;have⟨f1,f2,f3,f4,f5,⟨rz,tm,f6⟩,f7⟩:=hf;have hp:@eX _ _ (aV P L N) P _ Z _ Hid f _ v w:=@Mirror.uj _ _ (aV P L N) _ _ _ _ _ _ _ _ _ _ _ _ _ T;have p:=@Mirror.alone _ _ (aV P L N) _ _ _ _ _ _ _ _ _ _ _ _ _ T;have hcalm:=@Mirror.calm _ _ (aV P L N) _ _ _ _ _ _ _ _ _ _ _ _ _ T;let pay:Nat->aB ae:=fun i=>if i<o then none else(ps[i-o]?).getD none
 letI:aX:=⟨Hid⟩
 have F:(Em (fun _=>True) v).heap.size=v.heap.size:=zZ _ v;refine @ab5 (aV P L N) ⟨Hid⟩ P _ Lk Z Shr o H Post (fun _=>True) f _ cs v w gs sl tr q (f R) (f s) r cap rz tm pay
  (fun g v'=>∃a',a'.defers=a.defers/\g=Conc.G ((b.atR a' (.inRegion #[c.TI] [0]::.code rest::W)).finish (.tuple #[])) cs/\Rows (Em (fun _=>True) v) (0+r) v'/\Ev.TR ρ n tE a'.tmps)
  T (fun b' x _ hx=>⟨fun a' l e'=>?_,fun hcn=>@eX.aeE (aV P L N) _ _ _ _ _ _ _ _ _ hp _ _ hx hcn⟩) ⟨f1,f2⟩ f4 f5 f6 f7 Q I (fun i hi=>aY hi) ?_ ?_
 .have:=hr.fD b' x hx;rw[e'] at this;cases this
 .have E:(Em (fun _=>True) v).heap.size=v.heap.size:=F;rw[E];refine LQ.starts (hS:=⟨Ev.GY h.t,h.next,[]⟩) (vz:=Em (fun _=>True) v) (n0:=v.heap.size) hz hSk H f4 ?_ hN hI hc (show Ev.HR ρ ⟨Ev.GY h.t,h.next,[]⟩ _ from⟨(hr.Em (fun _=>True)).fD,(hr.Em (fun _=>True)).ob,(hr.Em (fun _=>True)).inj⟩) (fun b' o' hb'=>?_) (fun x o' hx=>?_) F.symm hn8 M hW hgW rfl hC m rfl ?_ K J hu hhi hbk hbr hcs r ps t tE e 0 a _ ⟨rfl,fun _ _=>rfl,fun x o' hx ho=>?_⟩ ht (fun j hj=>?_) fun a' v' d1 d2 d3=>⟨a',d1,rfl,d2,d3⟩
  .rintro(h1|⟨x,_,_,_,h1⟩)
   .exact(p _ h1).2 f1
   exact h1.1.2 f1
  .obtain⟨_,d,t',_,rfl,_⟩:=Ev.H.GX hb';exact⟨d,t',rfl⟩
  .have⟨x0,h1,h2⟩:=yw hx;have h2:o'=LG x0:=by
    rcases h2 with h2|h2
    .exact h2.2
    exact absurd trivial h2.1
   have k:=(aP.1 h1).1;rcases @eX.held _ _ (aV P L N) _ _ _ _ _ _ _ _ _ hp x x0 h1 with u|u|⟨u,_⟩|⟨u,h4⟩
   .exact .inr (.inl (.inr ⟨x,trivial,k,rfl,u.1⟩))
   .left;rw[h2];cases x0<;>first|(cases u;done)|exact u
   .exact .inr (.inl (.inl u))
   refine .inr (.inr ⟨?_,u⟩);rw[h2];cases x0<;>first|(cases h4;done)|rfl
  .show(Ev.GY h.t).get D=none;rw[Ev.DX];have:h.t.get D=none:=hnC;rw[this]
  .have:=(aP.1 ho).1;omega
  show(if o+r-(r-j)<o then none else(ps[o+r-(r-j)-o]?).getD none)=_
  rw[aU (by omega),show o+r-(r-j)-o=j by omega]
 rintro f' g' v' gs' w' U t' q' sent ⟨a',d1,rfl,d2,d3⟩ hM' B z hch hnd O C;have A:∀x o',v.heap[x]?=some o'->(vP (fun _=>True) v v').heap[x]?=some o':=fun x o' hx=>by
  have k:=(aP.1 hx).1;obtain⟨y,hy⟩:∃y,(vP (fun _=>True) v v').heap[x]?=some y:=⟨_,gu (by rw[qY];exact bT k z)⟩;rcases pK hy with⟨_,h2⟩|⟨h2,_⟩
  .rw[hy,<-h2,hx]
  exact absurd ⟨trivial,k⟩ h2
 have X:Ev.HR ρ h (vP (fun _=>True) v v'):=hr.vP (fun _ _ _ _ _ _ _=>trivial) (d2.ahv (hr.Em (fun _=>True)).fD) z;have hst:Ev.Stp ρ h v ρ h (vP (fun _=>True) v v'):=⟨.refl ρ,aA _,fun _ h _=>h,by rw[qY];exact z,[],rfl,fun x o' hx _=>A x o' hx,fun _ _ _ h=>.inl h,fun _ h=>by simp at h,fun _ _=>rfl,fun _ _ _=>rfl⟩;refine after a' _ d1 d3 X hst (by rw[qY];omega) Shr Hid (o+r) f' gs' w' U t' q' hM' (hR.trans C) ⟨by rw[B s m];exact f2,by rw[B s m];exact f3,_,_,rz,tm,?_,by rw[B s m];exact hch⟩;exact abo hnd (fun i=>by rw[O i,Y])
end
section
variable[jE]{P:aH}{S:aI->Prop}
def P8(n:Nat)(x:ae):Prop:=∀(H H':Fr) (h h':Nat->Nat),h n=h' n->@val _ H aj h x=@val _ H' aj h' x
theorem Qq(n):P8 n (.chan (some n)):=fun H H' h h' e=>by rw[Ap,Ap];simp[e]
theorem TK(n):P8 n (.pointer (some ⟨n,0,none⟩)):=fun H H' h h' e=>by rw[jX,jX];simp[addr,e]
theorem ZQ{fr cs v x og}(f:isCells og=true \/ ∃cap s r tm l,og=.chan cap #[] l s r tm)(ok:Ok P S (Conc.G fr cs) v)(hx:P8 v.heap.size x):Ok P S (Conc.G (fr.finish x) cs) {v with heap:=v.heap.push (uF og)}:=by
 have d:∀(H c) (h h'),@obj _ H aj h (uF og)=@obj _ c aj h' (uF og):=fun H c h h'=>by
  rcases f with h1|⟨_,_,_,_,_,rfl⟩
  .cases og<;>first|(cases h1;done)|simp[uF,obj,vals]
  simp[uF,obj,vals]
 have a:∀b o,(v.heap.push (uF og))[b]?=some o->v.heap[b]?=some o\/o=uF og:=fun b o hb=>by
  rw[iK] at hb;split at hb
  .exact .inr (aN hb).symm
  exact .inl hb
 refine⟨fun b o hb=>?_,⟨ok.wX.frame.finish x,ok.wX.callers,rfl⟩,rfl,ok.up,by have:=ok.vg;simp;omega,fun H c h h' g=>?_,fun H c h ha b o hb=>?_⟩
 .rcases a b o hb with h1|rfl
  .exact ok.nv b o h1
  rcases f with h1|⟨_,_,_,_,_,rfl⟩
  .cases og<;>first|(cases h1;done)|exact⟨.inr rfl,trivial⟩
  exact⟨.inl rfl,trivial⟩
 .have e:Ren.Alike (Nm S) (v.heap.size+1) H c h h':=by
   have:(({v with heap:=v.heap.push (uF og)}:ay)).heap.size=v.heap.size+1:=by simp
   rw[<-this];exact g
  have⟨h1,h2⟩:=ok.bound H c h h' (e.mono (Ll _));refine⟨?_,fun b o hb=>?_⟩
  .unfold uG at h1⊢
   simp[yT,mi,Conc.G] at h1⊢;refine⟨?_,h1.2⟩;have k:=@dQ _ H aj P h S _ fr x ok.wX.frame.items;have j:=@dQ _ c aj P h' S _ fr x ok.wX.frame.items;rw[<-k,<-j,h1.1,hx H c h h' (e.blk _ (DT _))]
  rcases a b o hb with i|rfl
  .exact h2 b o i
  exact d H c h h'
 rcases a b o hb with i|rfl
 .exact ok.clean H c h ha b o i
 exact d H c h h
theorem ZX{fr cs ops i rest k o v x og}(hm:fr.mode=.run)(m:fr.roundOf=none)(hk:fr.kind≠.early)(ht:fr.todo=.inRegion ops (i::rest)::k)(ho:ops[i]?=some o)(hw:Region.wanted o (yielded ops fr.tmps)=true)(hrun:∀(f1) (w1),(∀g,g<P.globals.size->f1 g=g)->f1 v.heap.size=w1.heap.size->(execOp (frame f1 fr).eval o).run P w1=.ok (.value (val f1 x)) {w1 with heap:=w1.heap.push og}/\(execOp (frame f1 fr).eval o).events P w1 #[]=#[])(ok:Ok P S (Conc.G fr cs) v)(f f1)(w1)(d:∀g,g<P.globals.size->f g=g)(h:∀j,j<v.heap.size->f1 j=f j)(c:f1 v.heap.size=w1.heap.size):stepG P true (bF f [] (Conc.G fr cs)) w1=.go (bF f1 [] (Conc.G (fr.finish x) cs)) {w1 with heap:=w1.heap.push og} #[]:=by
 have hb:=(ok.bound bY bY f f1 ⟨fun j hj=>(h j hj).symm,fun _ _=>rfl⟩).1;rw[FO hb ok.up];have n:∀f' (fr),bF f' [] (Conc.G fr cs)=Conc.G (frame f' fr) (stk f' [] cs):=fun f' fr=>rfl;rw[n,n];have b:∀g,g<P.globals.size->f1 g=g:=fun g hg=>(h g (bT hg ok.vg)).trans (d g hg);have⟨hr,he⟩:=hrun f1 w1 b c;have e:=Dz hm m ht f1;have l:Region.wanted o (yielded ops (vals f1 fr.tmps))=true:=by rw[gz];exact hw
 have hst:=stepG_value (main:=true) (cs:=stk f1 [] cs) (k:=k.map (item f1)) (a:={tmps:=vals f1 fr.tmps,defers:=fr.defers.map _}) (w:=w1) (rest:=rest) ho l (show(frame f1 fr).kind≠.early from hk)
  (show(execOp (Act.eval {tmps:=vals f1 fr.tmps,defers:=fr.defers.map _}) o).run P w1=_ from by rw[tJ];exact hr)
 have hl:listed P (frame f1 fr).fn {tmps:=vals f1 fr.tmps,defers:=fr.defers.map (deferred f1)} o w1=#[]:=by unfold listed;rw[tJ,he];exact seen_none P _
 rw[hl,<-e] at hst;rw[hst,<-dQ fr x ok.wX.frame.items];congr 2
 conv=>rhs;rw[e]
 rw[JV,ho];rfl
end
def Qo{t n}(h:∀op∈t,op.act.low n){A}(hA:n<=A.block):NoRelease A t:=fun i hi=>by
 unfold Trace.act? at hi;cases ho:t[i]? with
 |none=>rw[ho] at hi;cases hi
 |some op=>
 rw[ho] at hi;have h1:=h op (kP ho);have h2:op.act=.mark (.release A):=by simpa using hi
 rw[h2] at h1;have h3:A.block<n:=h1;omega
def Lr(gC cap:Nat):Fact:=fun Shr Hid _ f w _=>Shr (f gC)/\Hid (f gC)/\∃rz tm,w.heap[f gC]?=some (.chan cap #[] false 0 rz tm)
def Lr.still{a cap n}(h:a<n):(Lr a cap).Still n:=fun Shr Hid o f f' w w' t t' ⟨h1,h2,rz,tm,b⟩ hs hf=>by have e:=hf a h;refine⟨by rw[e];exact h1,by rw[e];exact h2,rz,tm,?_⟩;rw[e,hs.shr _ (aP.1 b).1 h1];exact b
def Qa.still{ty d e cap n}(k:d<n)(l:e<n):(Qa ty d e cap).Still n:=fun Shr Hid o f f' w w' t t' ⟨h1,h2,j,i,c,⟨rz,tm,g⟩,h⟩ hs hf=>by
 have a:=hf d k;have b:=hf e l;refine⟨by rw[a];exact h1,by rw[b];exact h2,by rw[b];exact j,by rw[b,a];exact i,?_,⟨rz,tm,?_⟩,by rw[a];exact hs.norel _ h⟩
 .unfold WgAt at c⊢;rw[a,hs.shr _ (aP.1 c).1 h1];exact c
 rw[b,hs.shr _ (aP.1 g).1 h2];exact g
def SA.still{a cap n vals}(h:a<n):(SA a cap vals).Still n:=fun Shr Hid o f f' w w' t t' ⟨h1,h2,l,s,rz,tm,c,b⟩ hs hf=>by have e:=hf a h;refine⟨by rw[e];exact h1,by rw[e];exact h2,l,s,rz,tm,c,?_⟩;rw[e,hs.shr _ (aP.1 b).1 h1];exact b
def nD(gC cap:Nat)(l:List ae):Fact:=fun Shr Hid _ f w _=>Shr (f gC)/\Hid (f gC)/\∃(s rz:Nat) (tm:Bool),w.heap[f gC]?=some (.chan cap l.toArray true s rz tm)
def nD.still{a cap n l}(h:a<n):(nD a cap l).Still n:=fun Shr Hid o f f' w w' t t' ⟨h1,h2,s,rz,tm,b⟩ hs hf=>by have e:=hf a h;refine⟨by rw[e];exact h1,by rw[e];exact h2,s,rz,tm,?_⟩;rw[e,hs.shr _ (aP.1 b).1 h1];exact b
section
variable[jE]{P:aH}{S:aI->Prop}{Z:Nat->Prop}{w0:ay}{Post:ae->ay->Prop}
theorem fin_at{b:aC}{a ops i rest k o}(ho:ops[i]?=some o)(x):(b.atR a (.inRegion ops (i::rest)::k)).finish x=b.atR (a.put o.dst x) (.inRegion ops rest::k):=by have:=pg b a ops i rest k x;rw[ho] at this;simpa using this
theorem rW.aiq{b:aC}{a k cs v ops i rest o}(z:b.kind=.normal)(y:b.roundOf=none)(ho:ops[i]?=some o)(hw:Region.wanted o (yielded ops a.tmps)=true){ty el s d ti m}(g:o.op=.makeChan ty s)(e:P.underlying ty=some (.chan d el))(u:P.info? el=some ti)(hs:ed P (Nm S) s)(A:a.eval s=.int .i64 m)(hm:m<1000000)(x:ti.bytes<1000000)(next:rW P S Z w0 Post (v.heap.size+1) (Lr v.heap.size m) (b.atR (a.put o.dst (.chan (some v.heap.size))) (.inRegion ops rest::k)) cs {v with heap:=v.heap.push (.chan m #[] false 0 0 false)}):KM P S Z w0 Post (b.atR a (.inRegion ops (i::rest)::k)) cs v:=by
 have l:=fin_at (b:=b) (a:=a) (rest:=rest) (k:=k) ho (.chan (some v.heap.size));rw[<-l] at next;refine rW.make (n:=0) (F:=fun _ _ _ _ _ _=>True) (F':=Lr v.heap.size m) (og:=.chan m #[] false 0 0 false) (.inr rfl) (fun ok=>ZX rfl y (by show b.kind≠.early;rw[z];intro h;cases h) rfl ho hw (fun f1 w1 j c=>?_) ok)
  (fun ok=>ZQ (.inr ⟨_,_,_,_,_,rfl⟩) ok (Qq _)) (fun Shr Hid o f gs w t q f1 w' t' hM _ hh C c B=>?_) next (gy _)
 .have r:(frame f1 (b.atR a (.inRegion ops (i::rest)::k))).eval s=.int .i64 m:=by
   rw[iU (S:=Nm S) j (fun _ _=>rfl) _ hs,show(b.atR a (.inRegion ops (i::rest)::k)).eval s=a.eval s from xB (kH b a _) s,A];simp
  have hx:val f1 (.chan (some v.heap.size))=.chan (some w1.heap.size):=by simp[c]
  have D:ti.bytes*m<=1000000000000:=bM (aay (JX x) (JX hm)) (by decide);have c1:¬((m:Int)<0):=by omega
  have c2:¬(9223372036854775807<(m:Int)):=by omega
  have c3:¬(281474976710544<(ti.bytes:Int)*(m:Int)):=by rw[<-Int.natCast_mul];have h2:ti.bytes*m<=1000000000000:=D;generalize ti.bytes*m=q at h2⊢;omega
  have hrun:(Instr.makeChan ty (.int .i64 m)).run P w1=.ok (.chan (some w1.heap.size)) {w1 with heap:=w1.heap.push (.chan m #[] false 0 0 false)}:=by simp[Instr.makeChan,asInt,asIntOf,iQ e,typeInfo,u,c1,c2,c3]
  have p:(Instr.makeChan ty (.int .i64 m)).events P w1 #[]=#[]:=by simp[Instr.makeChan,asInt,asIntOf,iQ e,typeInfo,u,c1,c2,c3]
  refine⟨?_,?_⟩
  .unfold execOp;rw[g,hx];simp[r,yC,hrun,Result.andThen,Sem.run_pure]
  unfold execOp;rw[g];simp[r,Sem.events_bind,p,hrun,Result.evThen_ok,Sem.events_pure]
 refine⟨.inr c,.inr ⟨c,rfl⟩,0,false,?_⟩;rw[hh,c];simp
theorem rW.agf{b:aC}{a k cs v ops i rest o}(B:b.kind=.normal)(A:b.roundOf=none)(ho:ops[i]?=some o)(hw:Region.wanted o (yielded ops a.tmps)=true){ty z}(j:o.op=.alloc ty)(d:Ev.zeroOf P ty=some z)(s:z.cells=#[.int .u64 0,.int .u32 0]){e cap n}(y:e<v.heap.size)(hn:n<=v.heap.size)(next:rW P S Z w0 Post (v.heap.size+1) (Qa ty v.heap.size e cap) (b.atR (a.put o.dst (.pointer (some ⟨v.heap.size,0,none⟩))) (.inRegion ops rest::k)) cs {v with heap:=v.heap.push (.cells #[] ty (0,0))}):rW P S Z w0 Post n (Lr e cap) (b.atR a (.inRegion ops (i::rest)::k)) cs v:=by
 have l:=fin_at (b:=b) (a:=a) (rest:=rest) (k:=k) ho (.pointer (some ⟨v.heap.size,0,none⟩));rw[<-l] at next;refine rW.make (n:=n) (F:=Lr e cap) (F':=Qa ty v.heap.size e cap) (og:=.cells z.cells ty) (.inl rfl) (fun ok=>ZX rfl A (by show b.kind≠.early;rw[B];intro h;cases h) rfl ho hw (fun f1 w1 D c=>?_) ok)
  (fun ok=>ZQ (.inl rfl) ok (TK _)) (fun Shr Hid o f gs w t q f1 w' t' H hf hh C c x=>?_) next hn
 .have hx:val f1 (.pointer (some ⟨v.heap.size,0,none⟩))=.pointer (some ⟨w1.heap.size,0,none⟩):=by simp[c,addr]
  have⟨g,_⟩:=Ev.nH d w1;have r:(zeroValue ty).events P w1 #[]=#[]:=by
   unfold Ev.zeroOf at d;unfold zeroValue typeInfo;split at d
   .rename_i ti u
    split at d
    .rename_i zz p;simp[u,p]
    cases d
   cases d
  refine⟨?_,?_⟩
  .unfold execOp;rw[j,hx];simp[Instr.alloc,g,newVar,newRow]
  unfold execOp;rw[j];simp[Instr.alloc,g,r,newVar,newRow]
 have⟨h1,h2,rz,tm,E⟩:=hf;have G:=(aP.1 E).1;have m:=C e y;refine⟨.inr c,by rw[m];exact .inl h1,by rw[m];exact .inl h2,by rw[m,c];omega,?_,⟨rz,tm,?_⟩,x _ (Qo H.calm.base.low (show w.heap.size<=f1 v.heap.size by omega))⟩
 .unfold WgAt wgBlock;rw[hh,c,s];simp
 rw[m,hh,iK,aU (by omega)];exact E
end
section
variable{P:aH}
theorem ZG{F ops i rest k o ch Ch ty el d fl z}(hm:F.mode=.run)(j:F.roundOf=none)(ht:F.todo=.inRegion ops (i::rest)::k)(ho:ops[i]?=some o)(hw:Region.wanted o (yielded ops F.tmps)=true)(e:o.op=.recv ty ch fl)(c:P.underlying ty=some (.chan d el))(a:Ev.zeroOf P el=some z)(hc:F.eval ch=.chan (some Ch))(m)(cs)(w):stepG P m (G F cs) w=.comm (G F cs) #[rcase Ch z] true (.recv fl) w #[]:=by
 have b:=fun w=>(Ev.nH a w).1;have g:(zeroValue el).events P w #[]=#[]:=by
  unfold Ev.zeroOf at a;unfold zeroValue typeInfo;split at a
  .rename_i ti h
   split at a
   .rename_i zz f;simp[h,f]
   cases a
  cases a
 have⟨fn,tmps,todo,defers,mode,kind,ro⟩:=F;subst hm j ht;unfold Conc.G stepG stepG.exec;dsimp only;rw[aY (by rw[ho];simpa using hw)];unfold stepG.oper Frame.oper?;dsimp only;rw[ho];dsimp only;generalize (Frame.mk fn tmps (.inRegion ops (i::rest)::k) defers .run kind none).eval=n at hc⊢;have hr:(execOp n o).run P w=.ok (.comm #[rcase Ch z] true (.recv fl)) w:=by unfold execOp;rw[e];simp[iQ c,b,hc,rcase]
 have l:(execOp n o).events P w #[]=#[]:=by unfold execOp;rw[e];simp[iQ c,b,g]
 unfold stepG.apply;simp[Sem.runT_eq,hr,l,je];have hs:=seen_none P fn;simp[GStep.after,hs]
end
section
variable[jE]{P:aH}{S:aI->Prop}{Z:Nat->Prop}{w0:ay}{Post:ae->ay->Prop}
theorem AV{n x}(h:dI x=true):rV S n #[x]:=fun H a h1 h2 _=>by unfold vals;simp[tX,fU,iw];rw[@cu _ H aj x h h1,@cu _ a aj x h h2]
theorem Np{f fr cs v x}(ok:Ok P S (Conc.G fr cs) v)(hx:dI x=true):Conc.served (bF f [] (Conc.G fr cs)) x=bF f [] (Conc.G (fr.finish x) cs):=by have h1:=dQ (f:=f) fr x ok.wX.frame.items;rw[cu hx] at h1;show Goroutine.mk ((frame f fr).finish x) (stk f [] cs) .running none none=Goroutine.mk (frame f (fr.finish x)) (stk f [] cs) .running none none;rw[h1]
theorem eval_any{f fr}{cs:List aC}{v:ay}(a:∀g,g<P.globals.size->f g=g){x}(hx:ed P (Nm S) x):(frame f fr).eval x=val f (fr.eval x):=iU a (fun _ _=>rfl) fr hx
theorem rW.ajH{b:aC}{a k cs v ops i rest o}(m:b.roundOf=none)(ho:ops[i]?=some o)(hw:Region.wanted o (yielded ops a.tmps)=true){ty el d ch z u}(h:o.op=.recv ty ch true)(g:P.underlying ty=some (.chan d el))(x:Ev.zeroOf P el=some z)(j:ed P (Nm S) ch){e cap n l}(y:a.eval ch=.chan (some e))(hu:dI u=true)(next:rW P S Z w0 Post n (nD e cap l) (b.atR (a.put o.dst (.tuple #[u,.bool true])) (.inRegion ops rest::k)) cs v):rW P S Z w0 Post n (nD e cap (u::l)) (b.atR a (.inRegion ops (i::rest)::k)) cs v:=by
 have c:=fin_at (b:=b) (a:=a) (rest:=rest) (k:=k) ho (.tuple #[u,.bool true]);rw[<-c] at next;have hcl:dI (.tuple #[u,.bool true])=true:=by have:dI (.bool true)=true:=rfl;simp[dI,sO,hu,this]
 refine rW.recv (fr':=b.atR a []) (z:=z) (fl:=true) fun Shr Hid o' f gs w t q p hn ⟨h1,h2,s,rz,tm,r⟩=>⟨f e,cap,s,rz,_,true,tm,nD e cap l,_,h1,r,by simp,fun d'=>?_,?_,p.uj.ok.put (AV hcl),fun w' t' hh=>⟨h1,h2,s,rz+1,tm,?_⟩,next⟩
 .refine ZG (F:=frame f (b.atR a (.inRegion ops (i::rest)::k))) (ops:=ops) (i:=i) (rest:=rest) (k:=k.map (item f)) rfl (by simp[frame,Frame.atR,m]) (by simp[frame,Frame.atR,item]) ho ?_ h g x ?_ true _ _
  .rw[show(frame f (b.atR a (.inRegion ops (i::rest)::k))).tmps=vals f a.tmps from rfl,gz];exact hw
  rw[eval_any (S:=S) (cs:=cs) (v:=v) p.uj.fix j,xB (kH b a _) ch,y];simp
 .have:recvd true ((u::l).toArray.getD 0 undef) true=.tuple #[u,.bool true]:=by simp[recvd]
  rw[this];exact Np p.uj.ok hcl
 rw[hh];simp only[World.setChan];rw[Bv (aP.1 r).1];simp
theorem rW.ajI{b:aC}{a k cs v ops i rest o}(m:b.roundOf=none)(ho:ops[i]?=some o)(hw:Region.wanted o (yielded ops a.tmps)=true){ty el d ch z}(j:o.op=.recv ty ch true)(h:P.underlying ty=some (.chan d el))(u:Ev.zeroOf P el=some z)(l:ed P (Nm S) ch){e cap n}(x:a.eval ch=.chan (some e))(g:dI z=true)(next:rW P S Z w0 Post n (nD e cap []) (b.atR (a.put o.dst (.tuple #[z,.bool false])) (.inRegion ops rest::k)) cs v):rW P S Z w0 Post n (nD e cap []) (b.atR a (.inRegion ops (i::rest)::k)) cs v:=by
 have c:=fin_at (b:=b) (a:=a) (rest:=rest) (k:=k) ho (.tuple #[z,.bool false]);rw[<-c] at next;have hcl:dI (.tuple #[z,.bool false])=true:=by have:dI (.bool false)=true:=rfl;simp[dI,sO,g,this]
 refine rW.shut (z:=z) (fl:=true) fun Shr Hid o' f gs w t q p hn ⟨h1,h2,s,rz,tm,r⟩=>⟨f e,cap,s,rz,tm,nD e cap [],_,h1,r,fun d'=>?_,?_,p.uj.ok.put (AV hcl),fun w' t' hh=>⟨h1,h2,s,rz,tm,by rw[hh];exact r⟩,next⟩
 .refine ZG (F:=frame f (b.atR a (.inRegion ops (i::rest)::k))) (ops:=ops) (i:=i) (rest:=rest) (k:=k.map (item f)) rfl (by simp[frame,Frame.atR,m]) (by simp[frame,Frame.atR,item]) ho ?_ j h u ?_ true _ _
  .rw[show(frame f (b.atR a (.inRegion ops (i::rest)::k))).tmps=vals f a.tmps from rfl,gz];exact hw
  rw[eval_any (S:=S) (cs:=cs) (v:=v) p.uj.fix l,xB (kH b a _) ch,x];simp
 exact Np p.uj.ok hcl
theorem rW.close{b:aC}{a k cs v ops i rest o}(K:b.kind=.normal)(J:b.roundOf=none)(ho:ops[i]?=some o)(hw:Region.wanted o (yielded ops a.tmps)=true){x j}(F:o.op=.call {callee:=.builtin .close,args:=#[x],argTypes:=j})(hx:ed P (Nm S) x){g cap n Y}(U:a.eval x=.chan (some g))(next:∀l,l.Perm Y->rW P S Z w0 Post n (nD g cap l) (b.atR (a.put o.dst (.tuple #[])) (.inRegion ops rest::k)) cs v):rW P S Z w0 Post n (SA g cap Y) (b.atR a (.inRegion ops (i::rest)::k)) cs v:=by
 intro hn Shr Hid og f gs w sl t q B V ⟨h1,h2,l,s,rz,tm,hp,hc⟩;have next:=next l hp;have y:=fin_at (b:=b) (a:=a) (rest:=rest) (k:=k) ho (.tuple #[]);rw[<-y] at next;have r:dI (.tuple #[])=true:=rfl;have hok:=B.uj.ok;have u:=(aP.1 hc).1;have H:(frame f (b.atR a (.inRegion ops (i::rest)::k))).eval x=.chan (some (f g)):=by rw[eval_any (S:=S) (cs:=cs) (v:=v) B.uj.fix hx,xB (kH b a _) x,U];simp
 have m:∀w1:ay,(execOp (frame f (b.atR a (.inRegion ops (i::rest)::k))).eval o)=(do pure (.value (<- Builtin.close_ j o.type #[.chan (some (f g))])):Sem Next):=fun w1=>by unfold execOp;rw[F];simp[resolve,H,invoke,builtin]
 have hst:∀d,stepG P true (bF f [] (Conc.G (b.atR a (.inRegion ops (i::rest)::k)) cs)) _=.go (bF f [] (Conc.G ((b.atR a (.inRegion ops (i::rest)::k)).finish (.tuple #[])) cs)) {w.at d with heap:=(w.setChan (f g) cap l.toArray true s rz tm).heap}
   _:=fun d=>by
  have A:(w.at d).heap[f g]?=some _:=hc;have e:=Dz (fr:=b.atR a (.inRegion ops (i::rest)::k)) rfl J rfl f;have E:Region.wanted o (yielded ops (vals f a.tmps))=true:=by rw[gz];exact hw
  have hrun:=run_close_open (P:=P) (w:=w.at d) j o.type A;have z:=events_close_open (P:=P) (w:=w.at d) (es:=#[]) j o.type A;have O:=stepG_value (P:=P) (main:=true) (cs:=stk f [] cs) (b:=frame f (b.atR a (.inRegion ops (i::rest)::k))) (k:=k.map (item f)) (a:={tmps:=vals f (b.atR a (.inRegion ops (i::rest)::k)).tmps,defers:=(b.atR a (.inRegion ops (i::rest)::k)).defers.map (deferred f)}) (w:=w.at d) (rest:=rest) (ops:=ops) (i:=i) (v:=.tuple #[]) (w':={w.at d with heap:=(w.at d).heap.setIfInBounds (f g) (.chan cap l.toArray true s rz tm)}) ho E (show b.kind≠.early by rw[K];intro h;cases h)
   (by rw[tJ,m (w.at d)];simp[hrun]);have hl:listed P (frame f (b.atR a (.inRegion ops (i::rest)::k))).fn {tmps:=vals f (b.atR a (.inRegion ops (i::rest)::k)).tmps,defers:=(b.atR a (.inRegion ops (i::rest)::k)).defers.map (deferred f)} o (w.at d)=seen P b.fn ((#[].push ⟨.obj (f g),false,true⟩).push ⟨.obj (f g),true,true⟩):=by
   unfold listed;rw[tJ,m (w.at d)];simp only[Sem.events_bind,z,hrun,Result.evThen_ok,Sem.events_pure];rfl
  rw[hl,<-e] at O;have C:∀(fr:aC),bF f [] (Conc.G fr cs)=Conc.G (frame f fr) (stk f [] cs):=fun fr=>rfl;rw[C,C,O];have M:=dQ (f:=f) (b.atR a (.inRegion ops (i::rest)::k)) (.tuple #[]) hok.wX.frame.items;rw[cu r] at M;rw[<-M];congr 2
  conv=>rhs;rw[e]
  rw[JV,ho];rfl
 have I:∀e∈seen P b.fn ((#[].push ⟨.obj (f g),false,true⟩).push ⟨.obj (f g),true,true⟩),(∀x,(MemAct.ofEvent e).touch? =some x->QB Shr x.loc/\x.kind=.atomic)/\(MemAct.ofEvent e).low w.heap.size/\e.loc≠.mark .disable/\e.loc≠.mark .enable:=fun e he=>by
  refine Nq P b.fn (p:=fun e=>(∀x,(MemAct.ofEvent e).touch? =some x->QB Shr x.loc/\x.kind=.atomic)/\(MemAct.ofEvent e).low w.heap.size/\e.loc≠.mark .disable/\e.loc≠.mark .enable) (fun e he=>?_) e he;simp only[uo,List.nil_append,List.cons_append,xH,dW,xx,xw] at he;rcases he with rfl|rfl
  .refine⟨fun x hx=>?_,u,by simp,by simp⟩;simp only[MemAct.ofEvent,MemAct.touch?] at hx;cases hx<;>exact⟨⟨f g,rfl,h1⟩,rfl⟩
  refine⟨fun x hx=>?_,u,by simp,by simp⟩;simp only[MemAct.ofEvent,MemAct.touch?] at hx;cases hx<;>exact⟨⟨f g,rfl,h1⟩,rfl⟩
 have⟨N,gs',w',D,t',R,X,C,Q,W⟩:=Mirror.turn B sl hst (by simp[World.setChan]) (fun b' L=>by simp only[World.setChan];exact jf (show f g≠b' from fun e=>L (e▸h1))) (fun b' c e fr h=>zl hc b' c e fr h) ⟨(vV hc).chan,rfl,rfl⟩ I (hok.put (AV r))
 exact(next hn Shr Hid og f gs' w' D t' R C (V.trans (Hf (fun T=>(B.alone _ T).2 h1) hc Q W)) ⟨h1,h2,s,rz,tm,by rw[Q];simp only[World.setChan];exact Bv u⟩).after X
end
end Go.Crew
namespace Go.Ev
open Go.Conc Go.Ren
section
variable{P:aH}{L N:List aI}
theorem Bi{S w}(h:Ren.Clean S w){b:Nat}{c e fr}(hb:w.heap[b]?=some (.cells c e fr)):∀x∈c,fF S x:=fun x hx H a h' ha=>by
 have h1:=h H a h' ha b _ hb;have h2:@vals _ H aj h' c=@vals _ a aj h' c:=by have:Obj.cells (@vals _ H aj h' c) e fr=Obj.cells (@vals _ a aj h' c) e fr:=h1;injection this
 have⟨i,hi⟩:=Array.getElem?_of_mem hx;have d:=bU (fun z=>z[i]?) h2;simp[vals,PY,hi,Option.map_some,kG] at d;exact d
structure Qb(P:aH)(L:List aI)(w:ay)(old:aB Nat)(d:List ae)(u:ae)(el:aZ)(A c:Nat)(w':ay)(r:List ae):Prop where
 row:w'.heap[A]?=some (.cells ⟨d++[u]++r⟩ el (0,0))
 cap:(d++[u]++r).length=c
 at_:old=some A\/A=w.heap.size
 size:w.heap.size<=w'.heap.size
 keep:∀y,y<w.heap.size->old≠some y->w'.heap[y]?=w.heap[y]?
 fD:dU w->dU w'
 clean:Ren.Clean (·∈L) w->Ren.Clean (·∈L) w'
 stays:∀(b:Nat) (o:Obj),w.heap[b]?=some o->dB o=true->w'.heap[b]?=some o
theorem EJ{z x n}(a:flat z=true)(h1:z.cells.size=1)(hx:x∈Builtin.zeroCells z.cells n):fF (·∈L) x:=by
 unfold Builtin.zeroCells at hx;rw[UK] at hx;obtain⟨i,_,rfl⟩:=hx;have:i % z.cells.size<z.cells.size:=by rw[h1];omega
 have e:z.cells[i % z.cells.size]! = z.cells[i % z.cells.size]:=getElem!_pos z.cells _ this;rw[e];exact yz a _ (by simp)
theorem Xh{w t ty el ti z u B cB}(ht:P.underlying t=some (.slice el))(hi:P.info? el=some ti)(i:zeroOf P el=some z)(h1:ti.size=1)(d:z.cells.size=1)(g:ti.bytes<1000000){h fr}(l:w.heap[B]?=some (.cells #[u] h fr)):∃A c w' r,(Builtin.append_ #[t,t] ty #[.slice none 0 0,.slice (some ⟨B,0,none⟩) 1 cB]).run P w=.ok (.slice (some ⟨A,0,none⟩) 1 c) w'/\Qb P L w none [] u el A c w' r:=by
 have a:∀j v,([u]:List ae)[j]?=some v->w.cell? ((⟨B,0,none⟩:Addr).add j)=some v:=fun j v hj=>by
  cases j with
  |zero=>simp at hj;subst hj;simp[Addr.add,World.cell?,l]
  |succ j=>simp at hj
 have e:=(nH i w).2;have hrun:=aeY w t ty el ti z ht hi (Jy i hi) _ 1 cB [u] (by simp[h1]) a (by omega) (by omega) (by omega);have f:∀n,(Builtin.zeroCells z.cells n).size=n:=fun n=>by rw[aeZ,d,JJ]
 have m:=Xi w 1 0 el;have k:(w.drew.alloc _).heap=w.heap.push (.cells (#[u]++Builtin.zeroCells z.cells (grownCap w 1 0 el-1)) el):=rfl;refine⟨w.heap.size,_,_,(Builtin.zeroCells z.cells (grownCap w 1 0 el-1)).toList,hrun,⟨?_,?_,.inr rfl,?_,fun y hy _=>?_,fun hn=>hn.push rfl rfl,fun hc=>?_,fun b o hb _=>?_⟩⟩
 .show(w.heap.push (.cells (#[u]++Builtin.zeroCells z.cells (grownCap w 1 0 el-1)) el))[w.heap.size]?=_;simp
 .simp[f];omega
 .show w.heap.size<=(w.heap.push _).size;simp
 .show(w.heap.push _)[y]?=_;rw[iK,aU (by omega)]
 .refine rO (fun x hx=>?_) (Ren.dH hc rfl);rcases BD.1 hx with hx|hx
  .exact Bi hc l x hx
  exact EJ e d hx
 show(w.heap.push _)[b]?=_;have:=(aP.1 hb).1;rw[iK,aU (by omega)];exact hb
theorem Xg{w t ty el ti z u g j c0 B cB d V}(ht:P.underlying t=some (.slice el))(hi:P.info? el=some ti)(S:zeroOf P el=some z)(h1:ti.size=1)(s:z.cells.size=1)(O:ti.bytes<1000000)(hj:j<1000000)(q:w.heap[g]?=some (.cells ⟨d++V⟩ el (0,0)))(hd:d.length=j)(F:(d++V).length=c0)(hne:B≠g)(hu:single u=true){R fr}(Q:w.heap[B]?=some (.cells #[u] R fr)):∃A c w' r,(Builtin.append_ #[t,t] ty #[.slice (some ⟨g,0,none⟩) j c0,.slice (some ⟨B,0,none⟩) 1 cB]).run P w=.ok (.slice (some ⟨A,0,none⟩) (j+1) c) w'/\Qb P L w (some g) d u el A c w' r:=by
 have l:∀j v,([u]:List ae)[j]?=some v->w.cell? ((⟨B,0,none⟩:Addr).add j)=some v:=fun j v hj=>by
  cases j with
  |zero=>simp at hj;subst hj;simp[Addr.add,World.cell?,Q]
  |succ j=>simp at hj
 have holds:∀i v,d[i]?=some v->w.cell? ((⟨g,0,none⟩:Addr).add i)=some v:=fun i v hi=>by have J:=(yB.1 hi).1;rw[add_plain rfl];simp[World.cell?,q,EU J,hi]
 have H:=(nH S w).2;have I:∀n,(Builtin.zeroCells z.cells n).size=n:=fun n=>by rw[aeZ,s,JJ]
 have h:=(aP.1 q).1;by_cases p:j+1<=c0
 .
  obtain⟨y,r,rfl⟩:∃y r,V=y::r:=by
   cases V with
   |nil=>simp at F;omega
   |cons y r=>exact⟨y,r,rfl⟩
  have m:w.cell? ⟨g,j,none⟩=some y:=by simp[World.cell?,q,<-hd]
  have K:w.frozen? ⟨g,j,none⟩=false:=by simp[World.frozen?,q]
  have G:((⟨g,0,none⟩:Addr).add (j*ti.size)).add 0=⟨g,j,none⟩:=by rw[add_plain (a:=⟨g,0,none⟩) rfl,add_plain rfl];simp[h1]
  have D:(store ⟨g,j,none⟩ u).run P w=.ok () (w.setCell ⟨g,j,none⟩ u):=by
   unfold store;cases u with
   |agg _=>cases hu
   |tuple _=>cases hu
   |_=>simp[Sem.run,m,K]
  have hf:=aaz (P:=P) w ti.size 1 _ 1 cB [u] (by simp[h1]) l;have f:(w.setCell ⟨g,j,none⟩ u).heap=w.heap.setIfInBounds g (.cells ⟨d++[u]++r⟩ el (0,0)):=by
   apply Array.ext_getElem?;intro x;rw[eP];by_cases hx:x=g
   .subst hx;rw[aY rfl,q,Bv h];simp only[Option.map_some,Option.isSome_none,tY,BF,kG,Obj.cells.injEq,mi];apply tV;simp[<-hd]
   rw[aU hx,jf (uJ hx)]
  refine⟨g,c0,w.setCell ⟨g,j,none⟩ u,r,?_,⟨?_,?_,.inl rfl,?_,fun T C E=>?_,fun hn=>?_,fun hc=>?_,fun b o hb M=>?_⟩⟩
  .simp[Builtin.append_,iQ ht,Go.sizeOf,typeInfo,hi,Builtin.lenOf,p,hf,storeCells,G,D]
  .rw[f,Bv h]
  .rw[<-F];simp
  .rw[f];simp
  .rw[f,jf (fun e=>E (by rw[e]))]
  .exact hn.set (by rw[f,Bv h]) (fun T C=>by rw[f,jf (uJ C)]) rfl
  .exact yR hc (Bi hc Q u (by simp))
  rw[f,jf (fun e=>by subst e;rw[q] at hb;cases hb;cases M)];exact hb
 
 have k:c0<j+1:=by omega
 have hbound:(j+1)*ti.bytes<=140737488355328:=by have:(j+1)*ti.bytes<=1000000*1000000:=aay (by omega) (by omega);omega
 have hrun:=aax w t ty el ti z ht hi (Jy S hi) _ j c0 d (by rw[hd,h1,JJ]) holds ⟨B,0,none⟩ 1 cB [u] (by simp[h1]) l k (by omega) (aaw k hbound);have U:=Xi w (j+1) c0 el;refine⟨w.heap.size,_,_,(Builtin.zeroCells z.cells (grownCap w (j+1) c0 el-(j+1))).toList,hrun,⟨?_,?_,.inr rfl,?_,fun y hy _=>?_,fun hn=>hn.push rfl rfl,fun hc=>?_,fun b o hb _=>?_⟩⟩
 .show(w.heap.push (.cells (d.toArray++[u].toArray++Builtin.zeroCells z.cells (grownCap w (j+1) c0 el-(j+1))) el))[w.heap.size]?=_;simp
 .simp[I,hd];omega
 .show w.heap.size<=(w.heap.push _).size;simp
 .show(w.heap.push _)[y]?=_;rw[iK,aU (by omega)]
 .refine rO (fun x hx=>?_) (Ren.dH hc rfl);rcases BD.1 hx with hx|hx
  .rcases BD.1 hx with hx|hx
   .exact Bi hc q x (by
     have:x∈d:=by simpa using hx
     simp[this])
   exact Bi hc Q x (by simpa using hx)
  exact EJ H s hx
 show(w.heap.push _)[b]?=_;have:=(aP.1 hb).1;rw[iK,aU (by omega)];exact hb
end
section
variable{P:aH}{L N:List aI}{K:aC->List aC->ay->Prop}
theorem iW.ai5(A:iW P L N K){ops i rest o}{b:aC}{a k cs w t el ti z u x}(hcs:qN cs)(ho:ops[i]?=some o)(hw:Region.wanted o (yielded ops a.tmps)=true)(e:o.op=.buildSlice t 1 #[(0,x)])(hb:jw P L o=true)(ht:P.underlying t=some (.slice el))(hi:P.info? el=some ti)(s:zeroOf P el=some z)(h1:ti.size=1)(g:z.cells.size=1)(hx:a.eval x=u)(hu:single u=true)(n:fF (·∈L) u)(hk:∀w',w'.heap=w.heap.push (.cells #[u] el (0,0))->K (b.atR (a.put o.dst (.slice (some ⟨w.heap.size,0,none⟩) 1 1)) (.inRegion ops rest::k)) cs w'):K (b.atR a (.inRegion ops (i::rest)::k)) cs w:=by
 refine A.own (kF ho (by rw[e];rfl) hb) fun j=>?_;obtain⟨l,r⟩:=nH s _;have d:u.cells=#[u]:=by cases u<;>first|rfl|(cases hu;done)
 obtain⟨z0,m⟩:∃z0,z.cells.toList=[z0]:=by
  have:z.cells.toList.length=1:=by simpa using g
  match h:z.cells.toList,this with
  |[z0],_=>exact⟨z0,rfl⟩
 have f:Instr.fill (fun i=>some (i*ti.size,ti.size)) ⟨gp z.cells.toList 1⟩ [(0,u)]=some #[u]:=by rw[m,h1];simp[Instr.fill,gp,d]
 have hrun:=run_buildSlice (wt w j) ht hi l (by rw[h1];exact g) (by omega) (by rw[h1];decide) f;have hr:(execOp a.eval o).run P (wt w j)=.ok (.value (.slice (some ⟨w.heap.size,0,none⟩) 1 1)) ((wt w j).alloc (.cells #[u] el)):=by unfold execOp;rw[e];simp[tX,fU,iw,hx];simp[hrun];rfl
 obtain⟨es,hst⟩:=mW (b:=b) (k:=k) (cs:=cs) (rest:=rest) ho hw (fun c=>by rw[e];simp) hr (.inl rfl);refine⟨_,_,_,es,hst,trivial,hcs,fun hcl=>rO (fun y hy=>?_) (Ren.dH hcl rfl),fun c o1 h1 h2 q B=>?_,hk _ rfl⟩
 .have:y=u:=by simpa using hy
  rw[this];exact n
 have v:=(aP.1 h1).1;have p:(w.heap.push _)[c]?=some q:=B;rw[iK,aU (by omega),h1] at p;rw[<-aN p];exact h2
theorem iW.append(p:iW P L N K){ops i rest o}{b:aC}{a k cs w t x y}(hcs:qN cs)(ho:ops[i]?=some o)(hw:Region.wanted o (yielded ops a.tmps)=true)(f:o.op=.call {callee:=.builtin .append,args:=#[x,y],argTypes:=#[t,t]})(hb:jw P L o=true){m sy:ae}(hx:a.eval x=m)(hy:a.eval y=sy)(hk:∀h,∃v' w',(Builtin.append_ #[t,t] o.type #[m,sy]).run P (wt w h)=.ok v' w'/\(Ren.Clean (·∈L) w->Ren.Clean (·∈L) w')/\mJ w w'/\K (b.atR (a.put o.dst v') (.inRegion ops rest::k)) cs w'):K (b.atR a (.inRegion ops (i::rest)::k)) cs w:=by
 have n:(b.atR a (.inRegion ops (i::rest)::k)).eval=a.eval:=kH b a _;have e:∀l:fH->ae,resolve l {callee:=.builtin .append,args:=#[x,y],argTypes:=#[t,t]} o.type=pure {target:=.builtin .append _ o.type ((#[x,y]:Array fH).map fun|.const _=>true|_=>false),args:=(#[x,y]:Array fH).map l}:=fun l=>rfl;refine p.own (Crew.Rz (o:=o) rfl rfl ho f hb (fun w d g h1 h2=>?_) ⟨_,e _⟩) fun h=>?_
 .rw[e] at h1;have j:=bU (fun s:Sem xu=>s.run P w) h1;simp[Sem.run_pure] at j;cases j;cases h2
 have⟨v',w',h1,h2,j,q⟩:=hk h;have hr:(execOp a.eval o).run P (wt w h)=.ok (.value v') w':=by unfold execOp;rw[f];simp[e,yC,Sem.run_pure,Result.andThen,invoke,tX,fU,iw,hx,hy];simp[builtin,yC,h1,Result.andThen,Sem.run_pure]
 have⟨es,hst⟩:=mW (b:=b) (k:=k) (cs:=cs) (rest:=rest) ho hw (fun c=>by rw[f];simp) hr (.inl rfl);exact⟨_,_,_,es,hst,trivial,hcs,h2,j,q⟩
end
end Go.Ev
section
namespace Go
namespace Ev
open Go.Conc Go.Ren
variable{P:aH}{L N:List aI}{K:aC->List aC->ay->Prop}
def Vq:T ae->T ae->Bool
|.nil,_=>true
|.node v l r,t=>(match v with
 |none=>true
 |some x=>match t.val? with
  |some y=>Be x y
  |none=>false)&&Vq l t.left&&Vq r t.right
theorem SK:∀{s t:T ae},Vq s t=true->∀i v,s.get i=some v->t.get i=some v
|.nil,_,_,i,v,h=>by cases h
|.node x l r,t,e,i,v,h=>by
 simp only[Vq,aT] at e;have⟨⟨a,c⟩,b⟩:=e;cases i with
 |zero=>
 have h':x=some v:=h;subst h';rw[T.wY];simp only at a;split at a
 .rename_i y hy;rw[hy,lY a]
 cases a
 |succ n=>
 rcases Y2 n with hn|hn
 .rw[T.mX _ _ hn] at h⊢;exact SK c _ _ h
 rw[T.qB _ _ hn] at h⊢;exact SK b _ _ h
theorem TR.sub{ρ n s t a}(h:TR ρ n t a)(e:Vq s t=true):TR ρ n s a:=⟨h.size,fun i v b=>h.get i v (SK e i v b)⟩
theorem TR.zK{ρ n t}{a:Act}(h:TR ρ n t a.tmps){d}(hd:t.get d=none)(v):TR ρ n t (a.put (some d) v).tmps:=by refine⟨by simp[Act.put,h.size],fun i u hu=>?_⟩;have⟨v',h1,h2⟩:=h.get i u hu;refine⟨v',?_,h2⟩;simp[Act.put];rw[jf (fun e=>by subst e;rw[hd] at hu;cases hu)];exact h1
theorem iW.ahw(f:iW P L N K){ops i rest o}{b:aC}{a k cs w x}(hcs:qN cs)(ho:ops[i]?=some o)(hw:Region.wanted o (yielded ops a.tmps)=true)(d:o.op=.move x\/o.op=.assign x)(hb:jw P L o=true)(hk:∀w',w'.heap=w.heap->K (b.atR (a.put o.dst (a.eval x)) (.inRegion ops rest::k)) cs w'):K (b.atR a (.inRegion ops (i::rest)::k)) cs w:=by
 refine f.own (kF ho (by rcases d with h|h<;>rw[h]<;>rfl) hb) fun e=>?_;have hr:(execOp a.eval o).run P (wt w e)=.ok (.value (a.eval x)) (wt w e):=by unfold execOp;rcases d with h|h<;>rw[h]<;>rfl
 obtain⟨es,hst⟩:=mW ho hw (fun c=>by rcases d with h|h<;>rw[h]<;>simp) hr (.inl rfl);exact⟨_,_,_,es,hst,trivial,hcs,fun hcl=>Ren.dH hcl rfl,.of rfl,hk _ rfl⟩
end Ev
namespace Crew
open Go.Conc Go.ConcN Go.Ren
structure P6 where
 i14:Nat
 i15:Nat
 i16:Nat
 aeL:Nat
 akF:Nat
 Fz:bn
 H6:bn
 VX:Array bn
 o31:bn
 o32:bn
 o33:bn
 o34:bn
 o35:bn
 o36:bn
 c29:fH
 fL:aI
 d9:Nat
 d28:Nat
 d31:Nat
 d33:Nat
 d34:Nat
 d35:Nat
 x32:fH
 WW:fH
 tch:aZ
 WN:aZ
 dch:ChanDir
 zch:ae
 ts:aZ
 el:aZ
 ti:TypeInfo
 z:ae
 ahL:Array aZ
def P6.body(c:P6):Code:=.seq (.region c.i14 #[c.Fz,c.H6] false) (.seq (.cond c.c29 .skip (.exit c.aeL)) (.block c.akF (.seq (.region c.i15 c.VX false) (.region c.i16 #[c.o31,c.o32,c.o33,c.o34,c.o35,c.o36] false))))
structure P6.OK(P:aH)(L N:List aI)(c:P6):Prop where
 rop:c.Fz.op=.recv c.tch c.WW true
 rg:c.Fz.guard=none
 rd:c.Fz.dst=some c.d28
 tch:P.underlying c.tch=some (.chan c.dch c.WN)
 zch:Ev.zeroOf P c.WN=some c.zch
 zcl:dI c.zch=true
 ag0:nR P (L++N) c.WW=true
 alr:c.o31.op=.move (.tmp c.d9)\/c.o31.op=.assign (.tmp c.d9)
 g31:c.o31.guard=none
 d31:c.o31.dst=some c.d31
 b31:jw P L c.o31=true
 alq:c.o33.op=.call {callee:=.value (.func c.fL),args:=#[c.x32],argTypes:=c.ahL}
 g33:c.o33.guard=none
 d33:c.o33.dst=some c.d33
 b33:jw P L c.o33=true
 fLL:c.fL∈L
 fLN:c.fL∉N
 alp:c.o34.op=.buildSlice c.ts 1 #[(0,.tmp c.d33)]
 g34:c.o34.guard=none
 d34:c.o34.dst=some c.d34
 b34:jw P L c.o34=true
 ts:P.underlying c.ts=some (.slice c.el)
 ti:P.info? c.el=some c.ti
 ti1:c.ti.size=1
 tib:c.ti.bytes<1000000
 z:Ev.zeroOf P c.el=some c.z
 z1:c.z.cells.size=1
 alo:c.o35.op=.call {callee:=.builtin .append,args:=#[.tmp c.d31,.tmp c.d34],argTypes:=#[c.ts,c.ts]}
 g35:c.o35.guard=none
 d35:c.o35.dst=some c.d35
 b35:jw P L c.o35=true
 aln:c.o36.op=.move (.tmp c.d35)\/c.o36.op=.assign (.tmp c.d35)
 g36:c.o36.guard=none
 d36:c.o36.dst=some c.d9
 b36:jw P L c.o36=true
 l31:c.d31<Ev.top
 l28:c.d28<Ev.top
 n9:c.d31≠c.d33/\c.d31≠c.d34/\c.d33≠c.d34/\c.d31≠c.d35/\c.d9≠c.d28
 k14:c.H6.dst≠some c.d9
 k15:∀o∈c.VX.toList,o.dst≠some c.d9
 k32:c.o32.dst≠some c.d31
def P6.uh(P:aH)(L:List aI)(c:P6)(n:Nat)(tL:Ev.T ae)(u:ae):Bool:=
 match Ev.nX P L n [c.Fz,c.H6] [c.H6] (Ev.T.put Ev.T.deep tL c.d28 (some (.tuple ⟨[u,.bool true]⟩))) with
 |some t2=>match Ev.di t2 c.c29,Ev.nX P L n c.VX.toList c.VX.toList t2 with
  |some (.bool true),some t3=>match Ev.nX P L n [c.o31,c.o32,c.o33,c.o34,c.o35,c.o36] [c.o32] (Ev.strike t3 c.d31) with
   |some t4=>(match Ev.opts (Ev.di t4) [c.x32] with|some us=>Ev.qC us [u]|none=>false)&&Ev.Vq tL t4
   |none=>false
  |_,_=>false
 |none=>false
def P6.free(c:P6)(n:Nat)(tL:Ev.T ae):Bool:=[c.d9,c.d28,c.d31,c.d33,c.d34,c.d35].all fun d=>(match tL.get d with|none=>true|some _=>false)&&Nat.blt d n
def Js(inv:Ev.Iv)(fL:aI)(h:Ev.H)(u:ae)(ints:List ae)(iT:aZ):Bool:=
 match inv (.func fL) [u] ⟨h.t,h.next,[]⟩ with
 |some (.slice (some ⟨nm,0,none⟩) len cap,h')=>(match h'.get nm with|some (.cells c t (some 1))=>Ev.qC c ints&&Nat.beq t iT|_=>false)&&Nat.beq len ints.length&&Nat.beq cap Ev.soft&&Ev.kY ints&&(h'.log.all fun b=>Nat.ble h.next b&&Nat.blt b h'.next)&&Nat.ble h.next nm&&Nat.blt nm h'.next
 |_=>false
end Crew
end Go
end
section
namespace Go
namespace Crew
open Go.Conc Go.ConcN Go.Ren
abbrev Lay:=Nat×Nat×List ae
structure P9(iT elT:aZ)(ints:ae->List ae)(v0 v:ay)(p:List ae)(bs:List Lay)(sv:ae):Prop where
 len:bs.length=p.length
 rows:∀(i:Nat) (u:ae) (b:Lay),p[i]?=some u->bs[i]?=some b->v.heap[b.1]?=some (.cells ⟨ints u++b.2.2⟩ iT (0,0))/\(ints u++b.2.2).length=b.2.1/\b.2.1<=maxLen/\v0.heap.size<=b.1
 nd:(bs.map (·.1)).Nodup
 row:(p=[]/\sv=.slice none 0 0) \/ ∃A c r,sv=.slice (some ⟨A,0,none⟩) p.length c/\v.heap[A]?=some (.cells ⟨List.zipWith (fun u (b:Lay)=>Value.slice (some ⟨b.1,0,none⟩) (ints u).length b.2.1) p bs++r⟩ elT (0,0))/\
  (List.zipWith (fun u (b:Lay)=>Value.slice (some ⟨b.1,0,none⟩) (ints u).length b.2.1) p bs++r).length=c/\v0.heap.size<=A/\A∉bs.map (·.1)
 old:∀x,x<v0.heap.size->v.heap[x]?=v0.heap[x]?
 size:v0.heap.size<=v.heap.size
 fD:Ev.dU v
def P9.same{iT elT ints v0 v v' p bs sv}(h:P9 iT elT ints v0 v p bs sv)(e:v'.heap=v.heap):P9 iT elT ints v0 v' p bs sv:=⟨h.len,fun i u b h1 h2=>by rw[e];exact h.rows i u b h1 h2,h.nd,h.row.imp id fun⟨A,c,r,h1,h2,a⟩=>⟨A,c,r,h1,by rw[e];exact h2,a⟩,fun x hx=>by rw[e];exact h.old x hx,by rw[e];exact h.size,h.fD.same e⟩
def P9.keep{iT elT ints v0 v v' p bs sv}(h:P9 iT elT ints v0 v p bs sv)(hk:∀(x:Nat) (o),v.heap[x]?=some o->v'.heap[x]?=some o)(hs:v.heap.size<=v'.heap.size)(hn:Ev.dU v'):P9 iT elT ints v0 v' p bs sv:=by
 refine⟨h.len,fun i u b h1 h2=>?_,h.nd,h.row.imp id fun⟨A,c,r,h1,h2,f⟩=>⟨A,c,r,h1,hk _ _ h2,f⟩,fun x hx=>?_,bM h.size hs,hn⟩
 .have⟨e,d⟩:=h.rows i u b h1 h2;exact⟨hk _ _ e,d⟩
 rw[<-h.old x hx];have a:=bT hx h.size;rw[hk x _ (gu a),gu a]
def P9.low{iT elT ints v0 v p bs sv}(h:P9 iT elT ints v0 v p bs sv){x}(hx:x∈bs.map (·.1)):x<v.heap.size:=by
 obtain⟨b,hb,rfl⟩:=oZ.1 hx;have⟨i,hi⟩:=U0 hb;have a:i<p.length:=by rw[<-h.len];exact(yB.1 hi).1
 exact(aP.1 (h.rows i _ b (oV a) hi).1).1
end Crew
namespace Ev
open Go.Conc Go.Ren
variable{P:aH}{L N:List aI}{K:aC->List aC->ay->Prop}
theorem abn(a:Act){d j}(h:d≠some j)(v):(a.put d v).tmps[j]?=a.tmps[j]?:=by
 cases d with
 |none=>rfl
 |some d=>exact vG a (fun e=>h (by rw[e])) v
theorem iW.Ji(g:iW P L N K){ρ:Ev.jV}{n:Nat}{ops:Array bn}{rest:List Nat}{b:aC}{k:List ig}{cs:List aC}(hcs:qN cs):∀{l:List bn} {i:Nat} {t t':T ae},(∀j,j<l.length->ops[i+j]?=l[j]?)->nX P L n ops.toList l t=some t'->∀{a:Act} {w:ay},TR ρ n t a.tmps->(∀a' w',a'.defers=a.defers->w'.heap=w.heap->TR ρ n t' a'.tmps->(∀j,(∀o∈l,o.dst≠some j)->a'.tmps[j]?=a.tmps[j]?)->K (b.atR a' (.inRegion ops rest::k)) cs w')->K (b.atR a (.inRegion ops (List.range' i l.length++rest)::k)) cs w
|[],i,t,t',hl,e,a,w,ht,hk=>by cases e;exact hk a w rfl rfl ht fun _ _=>rfl
|o::l,i,t,t',hl,e,a,w,ht,hk=>by
 have ho:ops[i]?=some o:=by simpa using hl 0 (by simp)
 have f:∀j,j<l.length->ops[i+1+j]?=l[j]?:=fun j hj=>by have:=hl (j+1) (by simp;omega);rw[show i+(j+1)=i+1+j by omega] at this;simpa using this
 have c:List.range' i (o::l).length++rest=i::(List.range' (i+1) l.length++rest):=by simp[uw]
 rw[c];simp only[nX] at e;split at e
 .rename_i hw hc;simp only[aT] at hc
  split at e
  .rename_i v h
   split at e
   .rename_i t1 r;have d:=hc.2;unfold YW at d;simp only[aT,ET] at d;refine g.own (kF ho d.1.2 d.1.1) fun m=>?_;have⟨v',q,p⟩:=pure_ok (o:=o) (fA ht) h (wt w m);have⟨es,hst⟩:=mW (b:=b) (k:=k) (cs:=cs) (rest:=List.range' (i+1) l.length++rest) ho (gJ ht hw) (jo h) q (.inl rfl);refine⟨_,_,_,es,hst,trivial,hcs,fun hcl=>Ren.dH hcl rfl,.of rfl,?_⟩;exact iW.Ji g hcs f e (ht.put r p) fun s w2 d1 d2 d3 d4=>hk s w2 (by rw[d1,put_defers]) (by rw[d2];rfl) d3 fun j hj=>by rw[d4 j (fun o ho=>hj o (jy _ ho)),abn a (hj o (fZ ..))]
   cases e
  cases e
 cases e
end Ev
namespace Crew
open Go.Conc Go.ConcN Go.Ren
section
variable{P:aH}{L N:List aI}{K:aC->List aC->ay->Prop}
theorem Xy(f:Ev.iW P L N K){ρ n id ops}{b:aC}{k cs}(hcs:Ev.qN cs){t t'}(e:Ev.nX P L n ops.toList ops.toList t=some t'){a v}(ht:Ev.TR ρ n t a.tmps)(hk:∀a' v',a'.defers=a.defers->v'.heap=v.heap->Ev.TR ρ n t' a'.tmps->(∀j,(∀o∈ops.toList,o.dst≠some j)->a'.tmps[j]?=a.tmps[j]?)->K (b.atR a' k) cs v'):K (b.atR a (.code (.region id ops false)::k)) cs v:=by
 refine jk f hcs fun v1 h1=>?_;have c:List.range ops.size=List.range' 0 ops.toList.length++[]:=by rw[o9,yV];simp
 rw[c];refine f.Ji hcs (fun j _=>by simp) e ht fun a' v' d1 d2 d3 d4=>?_;exact qf f hcs fun d d5=>hk a' d d1 (by rw[d5,d2,h1]) d3 d4
end
end Crew
end Go
end
namespace Go.Crew
open Go.Conc Go.ConcN Go.Ren
def P9.hr{iT elT ints v0 v p bs sv}(h:P9 iT elT ints v0 v p bs sv){ρ hh}(hr:Ev.HR ρ hh v0):Ev.HR ρ hh v:=hr.NZ h.fD fun b o x k o' _ _ ho _=>by rw[h.old x (aP.1 ho).1];exact ho
def adz{inv fL h u ints iT}(e:Js inv fL h u ints iT=true):∃nm h',inv (.func fL) [u] ⟨h.t,h.next,[]⟩=some (.slice (some ⟨nm,0,none⟩) ints.length Ev.soft,h')/\Ev.kY ints=true/\h'.get nm=some (.cells ints iT (some 1))/\(∀b∈h'.log,h.next<=b/\b<h'.next)/\h.next<=nm/\nm<h'.next:=by
 unfold Js at e;split at e;case h_2=>cases e
 rename_i nm len cap h' m;simp only[aT] at e;have⟨⟨⟨⟨⟨⟨a,l⟩,k⟩,j⟩,i⟩,g⟩,d⟩:=e;rw[ik] at d;split at a;case h_2=>cases a
 rename_i c t f;simp only[aT] at a;obtain rfl:=Ev.iY a.1;obtain rfl:=bG a.2;obtain rfl:=bG l;obtain rfl:=bG k;exact⟨nm,h',m,j,f,fun b hb=>by have:=bZ.1 i b hb;simp only[aT,ik] at this;exact⟨iF this.1,this.2⟩,iF g,d⟩
section
variable{P:aH}{L N:List aI}{c:P6}{inv:Ev.Iv}{Z:Nat->Prop}{w00:ay}{Post:ae->ay->Prop}
theorem P6.round(hz:bz P)(hSk:mM P (·∈L))(hI:∀f args h v h',inv (.func f) args h=some (v,h')->Ev.dF P f args h v h')(hc:c.OK P L N){ρ h v0 n nC gC kC cap hi nn}(hr:Ev.HR ρ h v0)(hC:ρ nC=.at_ gC kC)(hgC:gC<nn)(hu:Ev.lK ρ h.next hi){tL}(hfree:c.free n tL=true)(hch:Ev.di tL c.WW=some (.chan (some nC))){ints iT u}(huf:Ev.flat u=true)(hucl:dI u=true)(huL:Ev.iZ L [u]=true)(e:c.uh P L n tL u=true)(hlist:Js inv c.fL h u (ints u) iT=true)(hhi:∀h' v,inv (.func c.fL) [u] ⟨h.t,h.next,[]⟩=some (v,h')->h'.next<=hi){b:aC}(hbk:b.kind=.normal)(hbr:b.roundOf=none){k0 cs}(hcs:Ev.qN cs){p bs sv}(hp:p.length<1000000){a v l}(hG:P9 iT c.el ints v0 v p bs sv)(ht:Ev.TR ρ n tL a.tmps)(h9:a.tmps[c.d9]?=some sv)(next:∀a' v' bs' sv',a'.defers=a.defers->P9 iT c.el ints v0 v' (p++[u]) bs' sv'->Ev.TR ρ n tL a'.tmps->a'.tmps[c.d9]?=some sv'->@rW _ _ (aV P L N) P (·∈L) Z w00 Post nn (nD gC cap l) (b.atR a' (.code c.body::.inLoop c.body::k0)) cs v'):@rW _ _ (aV P L N) P (·∈L) Z w00 Post nn (nD gC cap (u::l)) (b.atR a (.code c.body::.inLoop c.body::k0)) cs v:=by
 have hK0:Ev.iW P L N (@rW _ _ (aV P L N) P (·∈L) Z w00 Post nn (nD gC cap (u::l))):=yl hz hSk (nD.still hgC);have g:Ev.iW P L N (@rW _ _ (aV P L N) P (·∈L) Z w00 Post nn (nD gC cap l)):=yl hz hSk (nD.still hgC);have E:∀d,d∈[c.d9,c.d28,c.d31,c.d33,c.d34,c.d35]->tL.get d=none/\d<n:=fun d hd=>by
  have:=bZ.1 hfree d hd;simp[aT,ik] at this;refine⟨?_,this.2⟩;have h1:=this.1
  split at h1
  .assumption
  cases h1
 have⟨f9,n9⟩:=E c.d9 (by simp);have⟨f28,n28⟩:=E c.d28 (by simp);have⟨f31,n31⟩:=E c.d31 (by simp);have⟨f33,n33⟩:=E c.d33 (by simp);have⟨f34,n34⟩:=E c.d34 (by simp);have⟨f35,n35⟩:=E c.d35 (by simp);unfold P6.uh at e;split at e;case h_2=>cases e
 rename_i t2 e1;split at e;case h_2=>cases e
 rename_i t3 ec e15;split at e;case h_2=>cases e
 rename_i t4 e32;simp[aT] at e;have⟨e33,esub⟩:=e;split at e33;case h_2=>cases e33
 rename_i us eus;obtain rfl:=Ev.iY e33;refine gV hK0 hcs fun v1 g1=>?_;refine jk hK0 hcs fun v2 g2=>?_;have hrng:List.range (#[c.Fz,c.H6]:Array bn).size=[0,1]:=rfl;rw[hrng];have hwr:Region.wanted c.Fz (yielded #[c.Fz,c.H6] a.tmps)=true:=by unfold Region.wanted;rw[hc.rg]
 have hvc:a.eval c.WW=.chan (some gC):=by
  have h3:=Ev.fA ht _ _ hch;generalize a.eval c.WW=x at h3;cases h3 with
  |same h=>cases h
  |chan h4=>rw[h4.at_ hC]
 refine @rW.ajH (aV P L N) P _ Z w00 Post b a _ cs v2 _ 0 [1] c.Fz hbr rfl hwr c.tch c.WN c.dch c.WW c.zch u hc.rop hc.tch hc.zch (Ev.zL hc.ag0) gC cap nn l hvc hucl ?_;rw[hc.rd];generalize R:a.put _ _=a1;have ht1:Ev.TR ρ n (Ev.T.put Ev.T.deep tL c.d28 (some (.tuple ⟨[u,.bool true]⟩))) a1.tmps:=by
  have h1:Ev.TR ρ n tL a1.tmps:=by rw[<-R];exact ht.zK f28 _
  exact h1.know hc.l28 (by rw[<-R];exact Ev.qm a (by rw[ht.size];exact n28) _) (.tuple (.cons (Ev.dX huf) (.cons (.same rfl) .nil)))
 have h91:a1.tmps[c.d9]?=some sv:=by rw[<-R,Ev.vG _ hc.n9.2.2.2.2];exact h9
 have hrng1:([1]:List Nat)=List.range' 1 [c.H6].length++[]:=rfl;rw[hrng1];refine g.Ji hcs (fun j hj=>by simp at hj;subst hj;rfl) e1 ht1 fun a2 v3 d1 d2 d3 d4=>?_;have h92:a2.tmps[c.d9]?=some sv:=by rw[d4 c.d9 (fun o ho=>by rw[eY.1 ho];exact hc.k14)];exact h91
 refine qf g hcs fun v4 g4=>?_;refine gV g hcs fun v5 g5=>?_;refine GM g hcs (Ev.fA d3 _ _ ec).gZ fun v6 g6=>?_;refine Ve g hcs fun v7 g7=>?_;refine DW g hcs fun v8 g8=>?_;refine gV g hcs fun v9 g9=>?_;refine Xy g hcs e15 d3 fun a3 v10 d5 d6 d7 d8=>?_;have h93:a3.tmps[c.d9]?=some sv:=by rw[d8 c.d9 hc.k15];exact h92
 refine jk g hcs fun v11 g11=>?_;have hG11:=hG.same (by rw[g11,d6,g9,g8,g7,g6,g5,g4,d2,g2,g1]);have hrng6:List.range (#[c.o31,c.o32,c.o33,c.o34,c.o35,c.o36]:Array bn).size=0::(List.range' 1 [c.o32].length++[2,3,4,5]):=rfl;rw[hrng6];have q:∀(o) (tm),o.guard=none->Region.wanted o (yielded #[c.o31,c.o32,c.o33,c.o34,c.o35,c.o36] tm)=true:=fun o tm hg=>by unfold Region.wanted;rw[hg]
 refine g.ahw hcs (o:=c.o31) rfl (q _ _ hc.g31) hc.alr hc.b31 fun v12 g12=>?_;have hev9:a3.eval (.tmp c.d9)=sv:=by show a3.tmps.getD c.d9 undef=_;rw[pq,h93];rfl
 rw[hev9,hc.d31];generalize ha4:a3.put (some c.d31) sv=a4;have ht4:Ev.TR ρ n (Ev.strike t3 c.d31) a4.tmps:=by rw[<-ha4];exact d7.forget hc.l31 _
 have h31:a4.tmps[c.d31]?=some sv:=by rw[<-ha4];exact Ev.qm a3 (by rw[d7.size];exact n31) _
 refine g.Ji hcs (fun j hj=>by simp at hj;subst hj;rfl) e32 ht4 fun a5 I q1 q2 q3 q4=>?_;have h315:a5.tmps[c.d31]?=some sv:=by rw[q4 c.d31 (fun o ho=>by rw[eY.1 ho];exact hc.k32)];exact h31
 have htL5:=q3.sub esub;have r:=hG11.same (by rw[q2,g12]);have⟨nm,h',el1,el2,el3,el4,el5,el6⟩:=adz hlist;have hh':=hhi h' _ el1;have hr0:Ev.HR ρ ⟨h.t,h.next,[]⟩ I:=⟨(r.hr hr).fD,(r.hr hr).ob,(r.hr hr).inj⟩;have hu0:=hu.sub (aA _) hh';refine g.ahF hc.alq eus (hI _ _ _ _ _ el1) hc.fLL hc.fLN huL hc.b33 rfl (q _ _ hc.g33) q3 hr0 hu0 hcs fun ρ' v' w' s1 s2 s3=>?_;obtain⟨x,kx,ox,x1,x2,dx,rx,rfl,x4,_,x6⟩:=s2.ob nm _ el3;have⟨x7,x8,_⟩:=x6 1 rfl;have hdx:=x4.kY el2;subst hdx;obtain⟨ax,G,rfl,y1,y2⟩:=s3.kE;have⟨ab,ao,asp⟩:=ax;have y3:ab=x:=y1.block.at_ x1;have y4:ao=0:=y1.off;have y5:asp=none:=y1.spot';subst y3 y4 y5;have y6:G=kx:=by
  rcases y2 with⟨y2,_⟩|⟨_,_,y2⟩
  .exact absurd y2 (Gp _)
  exact y2 _ _ x1
 subst y6;have⟨ll,l1,l2,l3,l4,_⟩:=s1.log;have l1':h'.log=ll:=by rw[l1];exact o9 ll
 have W:∀b∈ll,ρ b=.dC:=fun b hb=>by have⟨m1,B⟩:=el4 b (by rw[l1'];exact hb);exact hu b m1 (bT B hh')
 have hkeep:∀(y:Nat) (o:Obj),I.heap[y]?=some o->w'.heap[y]?=some o:=fun y o hy=>l2 y o hy fun b k hb=>by rw[W b hb];exact fun h=>by cases h
 have hnmu:ρ nm=.dC:=hu nm el5 (bT el6 hh');have hxf:I.heap.size<=ab:=by
  rcases l3 nm ab G x1 with h1|⟨_,h1|⟨b',m,h1,h2⟩⟩
  .rw[hnmu] at h1;cases h1
  .exact h1
  rw[W b' h1] at h2;cases h2
 have hGc:P9 iT c.el ints v0 w' p bs sv:=r.keep hkeep s1.size s2.fD;rw[hc.d33];generalize Q:a5.put (some c.d33) (.slice (some ⟨ab,0,none⟩) (ints u).length G)=a6;have htL6:Ev.TR ρ n tL a6.tmps:=by rw[<-Q];exact htL5.zK f33 _
 have h316:a6.tmps[c.d31]?=some sv:=by rw[<-Q,Ev.vG _ hc.n9.1];exact h315
 have h336:a6.eval (.tmp c.d33)=.slice (some ⟨ab,0,none⟩) (ints u).length G:=by show a6.tmps.getD c.d33 undef=_;rw[pq,<-Q,Ev.qm a5 (by rw[htL5.size];exact n33)];rfl
 refine g.ai5 hcs (i:=3) (o:=c.o34) rfl (q _ _ hc.g34) hc.alp hc.b34 hc.ts hc.ti hc.z hc.ti1 hc.z1 h336 rfl (Bj _ _ _) fun w2 J=>?_;rw[hc.d34];generalize O:a6.put (some c.d34) (.slice (some ⟨w'.heap.size,0,none⟩) 1 1)=a7;have Y:Ev.TR ρ n tL a7.tmps:=by rw[<-O];exact htL6.zK f34 _
 have h317:a7.eval (.tmp c.d31)=sv:=by show a7.tmps.getD c.d31 undef=_;rw[pq,<-O,Ev.vG _ hc.n9.2.1,h316];rfl
 have h347:a7.eval (.tmp c.d34)=.slice (some ⟨w'.heap.size,0,none⟩) 1 1:=by show a7.tmps.getD c.d34 undef=_;rw[pq,<-O,Ev.qm a6 (by rw[htL6.size];exact n34)];rfl
 have C:∀(y:Nat) (o:Obj),w'.heap[y]?=some o->w2.heap[y]?=some o:=fun y o hy=>by have:=(aP.1 hy).1;rw[J,iK,aU (by omega)];exact hy
 have K:P9 iT c.el ints v0 w2 p bs sv:=hGc.keep C (by rw[J];simp) (s2.fD.push J rfl);have hx2':w2.heap[ab]?=some (.cells ⟨ints u++rx⟩ iT (0,0)):=C _ _ x2;have hB2:w2.heap[w'.heap.size]?=some (.cells #[.slice (some ⟨ab,0,none⟩) (ints u).length G] c.el (0,0)):=by rw[J];simp
 have hablt:ab<w'.heap.size:=(aP.1 x2).1;have happ:∀M,∃A H w3 r3,(Builtin.append_ #[c.ts,c.ts] c.o35.type #[sv,.slice (some ⟨w'.heap.size,0,none⟩) 1 1]).run P (wt w2 M)=.ok (.slice (some ⟨A,0,none⟩) (p.length+1) H) w3/\∃old d,Ev.Qb P L (wt w2 M) old d (.slice (some ⟨ab,0,none⟩) (ints u).length G) c.el A H w3 r3/\d=List.zipWith (fun u (b:Lay)=>Value.slice (some ⟨b.1,0,none⟩) (ints u).length b.2.1) p bs/\(∀S,old=some S->v0.heap.size<=S/\S∉bs.map (·.1)/\S≠ab/\S<w2.heap.size):=fun M=>by
  have hB2':(wt w2 M).heap[w'.heap.size]?=some (.cells #[.slice (some ⟨ab,0,none⟩) (ints u).length G] c.el (0,0)):=hB2;rcases K.row with⟨rfl,rfl⟩|⟨S,c0,r0,rfl,z1,z2,z3,z4⟩
  .have⟨A,H,w3,r3,m1,B⟩:=Ev.Xh (P:=P) (L:=L) (w:=wt w2 M) (ty:=c.o35.type) (cB:=1) hc.ts hc.ti hc.z hc.ti1 hc.z1 hc.tib hB2';exact⟨A,H,w3,r3,m1,none,[],B,by simp,fun _ h=>by cases h⟩
  have z1':(wt w2 M).heap[S]?=some (.cells ⟨List.zipWith (fun u (b:Lay)=>Value.slice (some ⟨b.1,0,none⟩) (ints u).length b.2.1) p bs++r0⟩ c.el (0,0)):=z1;have hA0:S<I.heap.size:=by
   rcases r.row with⟨hp0,hs0⟩|⟨A1,c1,r1,hs1,z5,_⟩
   .cases hs0
   cases hs1;exact(aP.1 z5).1
  have h13:=s1.size;have⟨A,H,w3,r3,m1,B⟩:=Ev.Xg (P:=P) (L:=L) (w:=wt w2 M) (ty:=c.o35.type) (cB:=1) (j:=p.length) hc.ts hc.ti hc.z hc.ti1 hc.z1 hc.tib hp z1' (by simp[K.len]) z2 (by omega) rfl hB2';exact⟨A,H,w3,r3,m1,some S,_,B,rfl,fun A1 h=>by cases h;exact⟨z3,z4,by omega,(aP.1 z1).1⟩⟩
 refine g.append hcs (i:=4) (o:=c.o35) rfl (q _ _ hc.g35) hc.alo hc.b35 h317 h347 fun M=>?_;obtain⟨A,H,w3,r3,m1,old,d,B,rfl,m3⟩:=happ M;refine⟨_,w3,m1,fun hcl=>B.clean (Ren.dH hcl rfl),fun b' o' k1 U o2 k3=>by rw[B.stays b' o' k1 U] at k3;rw[<-aN k3];exact U,?_⟩;rw[hc.d35];generalize ha8:a7.put (some c.d35) (.slice (some ⟨A,0,none⟩) (p.length+1) H)=a8;have X:Ev.TR ρ n tL a8.tmps:=by rw[<-ha8];exact Y.zK f35 _
 have h358:a8.eval (.tmp c.d35)=.slice (some ⟨A,0,none⟩) (p.length+1) H:=by show a8.tmps.getD c.d35 undef=_;rw[pq,<-ha8,Ev.qm a7 (by rw[Y.size];exact n35)];rfl
 refine g.ahw hcs (i:=5) (o:=c.o36) rfl (q _ _ hc.g36) hc.aln hc.b36 fun v14 g14=>?_;rw[h358,hc.d36];refine qf g hcs fun v15 g15=>?_;refine J9 g hcs fun v16 g16=>?_;refine ML g hcs fun v17 g17=>?_;have e17:v17.heap=w3.heap:=by rw[g17,g16,g15,g14]
 refine next (a8.put (some c.d9) (.slice (some ⟨A,0,none⟩) (p.length+1) H)) v17 (bs++[(ab,G,rx)]) (.slice (some ⟨A,0,none⟩) (p.length+1) H) ?_ (P9.same ?_ e17) (X.zK f9 _) (Ev.qm a8 (by rw[X.size];exact n9) _)
 .rw[Ev.put_defers,<-ha8,Ev.put_defers,<-O,Ev.put_defers,<-Q,Ev.put_defers,q1,<-ha4,Ev.put_defers,d5,d1,<-R,Ev.put_defers]
 have hw2sz:w2.heap.size=w'.heap.size+1:=by rw[J];simp
 have h13:=s1.size;have hv0:=r.size;have s:∀y,y<w2.heap.size->old≠some y->w3.heap[y]?=w2.heap[y]?:=fun y hy ho=>B.keep y hy ho;have hlow:∀y∈bs.map (·.1),y<I.heap.size:=fun y hy=>r.low hy;have hAb:A∉(bs++[(ab,G,rx)]).map (·.1)/\v0.heap.size<=A:=by
  rcases B.at_ with h1|h1
  .have⟨k1,U,k3,_⟩:=m3 A h1;exact⟨by simp only[F5,fU,iw,pY,eY,not_or];exact⟨U,k3⟩,k1⟩
  have h1:A=w2.heap.size:=h1;refine⟨by simp only[F5,fU,iw,pY,eY,not_or];exact⟨fun h=>by have:=hlow A h;omega,by omega⟩,by omega⟩
 have V:List.zipWith (fun u (b:Lay)=>Value.slice (some ⟨b.1,0,none⟩) (ints u).length b.2.1) (p++[u]) (bs++[(ab,G,rx)])=List.zipWith (fun u (b:Lay)=>Value.slice (some ⟨b.1,0,none⟩) (ints u).length b.2.1) p bs++[.slice (some ⟨ab,0,none⟩) (ints u).length G]:=by rw[List.zipWith_append hG.len.symm];rfl
 refine⟨by simp[hG.len],fun i u' b' D F=>?_,?_,.inr ⟨A,H,r3,by simp,?_,?_,hAb.2,hAb.1⟩,fun y hy=>?_,?_,B.fD K.fD⟩
 .have hne:∀y,y∈(bs++[(ab,G,rx)]).map (·.1)->old≠some y:=fun y hy ho=>by
   have⟨_,U,k3,_⟩:=m3 y ho;simp only[F5,fU,iw,pY,eY] at hy;rcases hy with hy|hy
   .exact U hy
   exact k3 hy
  have hbm:b'.1∈(bs++[(ab,G,rx)]).map (·.1):=oZ.2 ⟨b',uy F,rfl⟩;rcases kJ i p.length with hlt|hge
  .rw[EU hlt] at D;rw[EU (by rw[hG.len];exact hlt)] at F;have⟨k1,U⟩:=K.rows i u' b' D F;exact⟨by rw[s _ (aP.1 k1).1 (hne _ hbm)];exact k1,U⟩
  have hi0:i=p.length:=by have:=(yB.1 D).1;simp at this;omega
  subst hi0;rw[Zh (aA _)] at D;rw[Zh (by rw[hG.len];exact aA _)] at F;simp[hG.len] at D F;subst D F;exact⟨by rw[s _ (by omega) (hne _ hbm)];exact hx2',by rw[x7,JJ],x8,by omega⟩
 .rw[F5,List.nodup_append];refine⟨hG.nd,by simp,fun y hy z hz=>?_⟩;simp only[fU,iw,eY] at hz;have:=hlow y hy;omega
 .rw[V];exact B.row
 .rw[V];exact B.cap
 .have hne:old≠some y:=fun ho=>by have:=(m3 y ho).1;omega
  rw[s y (by omega) hne];exact K.old y hy
 have:w2.heap.size<=w3.heap.size:=B.size;omega
end
def P6.aal(P:aH)(L:List aI)(c:P6)(n:Nat)(tL:Ev.T ae):Bool:=
 Ev.flat c.zch&&match Ev.nX P L n [c.Fz,c.H6] [c.H6] (Ev.T.put Ev.T.deep tL c.d28 (some (.tuple ⟨[c.zch,.bool false]⟩))) with
 |some t2=>(match Ev.di t2 c.c29 with|some (.bool false)=>true|_=>false)&&Ev.Vq tL t2
 |none=>false
section
variable{P:aH}{L N:List aI}{c:P6}{inv:Ev.Iv}{Z:Nat->Prop}{w00:ay}{Post:ae->ay->Prop}
theorem P6.exit(S:bz P)(F:mM P (·∈L))(hc:c.OK P L N){ρ n J k R cap nn}(hC:ρ J=.at_ k R)(A:k<nn){tL}(f:c.free n tL=true)(D:Ev.di tL c.WW=some (.chan (some J)))(he:c.aal P L n tL=true){iT ints v0}{b:aC}(E:b.roundOf=none){t cs}(hcs:Ev.qN cs){p bs sv}{a:Act}{v:ay}(U:P9 iT c.el ints v0 v p bs sv)(ht:Ev.TR ρ n tL a.tmps)(V:a.tmps[c.d9]?=some sv)(next:∀a' v',a'.defers=a.defers->P9 iT c.el ints v0 v' p bs sv->Ev.TR ρ n tL a'.tmps->a'.tmps[c.d9]?=some sv->@rW _ _ (aV P L N) P (·∈L) Z w00 Post nn (nD k cap []) (b.atR a' t) cs v'):@rW _ _ (aV P L N) P (·∈L) Z w00 Post nn (nD k cap []) (b.atR a (.code c.body::.inLoop c.body::.inBlock c.aeL::t)) cs v:=by
 have g:Ev.iW P L N (@rW _ _ (aV P L N) P (·∈L) Z w00 Post nn (nD k cap [])):=yl S F (nD.still A);have B:tL.get c.d28=none/\c.d28<n:=by
  have:=bZ.1 f c.d28 (by simp);simp[aT,ik] at this;refine⟨?_,this.2⟩;have h1:=this.1
  split at h1
  .assumption
  cases h1
 have⟨f28,s⟩:=B;unfold P6.aal at he;simp[aT] at he;have⟨u,he⟩:=he;split at he;case h_2=>cases he
 rename_i t2 e1;simp[aT] at he;have⟨M,r⟩:=he;split at M;case h_2=>cases M
 rename_i C;show @rW _ _ (aV P L N) P _ Z w00 Post nn _ _ cs v;refine gV g hcs fun v1 g1=>?_;refine jk g hcs fun v2 g2=>?_;have m:List.range (#[c.Fz,c.H6]:Array bn).size=[0,1]:=rfl;rw[m];have w:Region.wanted c.Fz (yielded #[c.Fz,c.H6] a.tmps)=true:=by unfold Region.wanted;rw[hc.rg]
 have y:a.eval c.WW=.chan (some k):=by
  have K:=Ev.fA ht _ _ D;generalize a.eval c.WW=x at K;cases K with
  |same h=>cases h
  |chan h4=>rw[h4.at_ hC]
 refine @rW.ajI (aV P L N) P _ Z w00 Post b a _ cs v2 _ 0 [1] c.Fz E rfl w c.tch c.WN c.dch c.WW c.zch hc.rop hc.tch hc.zch (Ev.zL hc.ag0) k cap nn y hc.zcl ?_;rw[hc.rd];generalize d:a.put _ _=I;have z:Ev.TR ρ n (Ev.T.put Ev.T.deep tL c.d28 (some (.tuple ⟨[c.zch,.bool false]⟩))) I.tmps:=by
  have h1:Ev.TR ρ n tL I.tmps:=by rw[<-d];exact ht.zK f28 _
  exact h1.know hc.l28 (v:=.tuple #[c.zch,.bool false]) (by rw[<-d];exact Ev.qm a (by rw[ht.size];exact s) _) (.tuple (.cons (Ev.dX u) (.cons (.same rfl) .nil)))
 have H:I.tmps[c.d9]?=some sv:=by rw[<-d,Ev.vG _ hc.n9.2.2.2.2];exact V
 have e:([1]:List Nat)=List.range' 1 [c.H6].length++[]:=rfl;rw[e];refine g.Ji hcs (l:=[c.H6]) (i:=1) (rest:=[]) (fun j hj=>by simp at hj;subst hj;rfl) e1 z fun O v3 d1 d2 d3 d4=>?_;have G:O.tmps[c.d9]?=some sv:=by rw[d4 c.d9 (fun o ho=>by rw[eY.1 ho];exact hc.k14)];exact H
 refine qf g hcs fun v4 g4=>?_;refine gV g hcs fun v5 Y=>?_;refine GM g hcs (q:=false) (Ev.fA d3 _ _ C).gZ fun v6 X=>?_;refine Vg g hcs (k':=t) (by simp[exitTo]) fun Q W=>?_;exact next O Q (by rw[d1,<-d,Ev.put_defers]) (U.same (by rw[W,X,Y,g4,d2,g2,g1])) (d3.sub r) G
theorem P6.rounds(s:bz P)(k:mM P (·∈L))(hI:∀f args h v h',inv (.func f) args h=some (v,h')->Ev.dF P f args h v h')(hc:c.OK P L N){ρ:Ev.jV}{h:Ev.H}{v0:ay}{n B q Q cap hi nn:Nat}(hr:Ev.HR ρ h v0)(U:ρ B=.at_ q Q)(g:q<nn)(hu:Ev.lK ρ h.next hi){tL:Ev.T ae}(d:c.free n tL=true)(i:Ev.di tL c.WW=some (.chan (some B)))(he:c.aal P L n tL=true){ints:ae->List ae}{iT:aZ}{b:aC}(o:b.kind=.normal)(j:b.roundOf=none){C:List ig}{cs:List aC}(hcs:Ev.qN cs):∀(l:List ae),(∀u∈l,Ev.flat u=true/\dI u=true/\Ev.iZ L [u]=true/\c.uh P L n tL u=true/\Js inv c.fL h u (ints u) iT=true/\∀h' v,inv (.func c.fL) [u] ⟨h.t,h.next,[]⟩=some (v,h')->h'.next<=hi)->∀(p:List ae) (bs:List Lay) (sv:ae) (a:Act) (v:ay),p.length+l.length<1000000->P9 iT c.el ints v0 v p bs sv->Ev.TR ρ n tL a.tmps->a.tmps[c.d9]?=some sv->(∀a' v' m e,a'.defers=a.defers->P9 iT c.el ints v0 v' (p++l) m e->Ev.TR ρ n tL a'.tmps->a'.tmps[c.d9]?=some e->@rW _ _ (aV P L N) P (·∈L) Z w00 Post nn (nD q cap []) (b.atR a' C) cs v')->@rW _ _ (aV P L N) P (·∈L) Z w00 Post nn (nD q cap l) (b.atR a (.code c.body::.inLoop c.body::.inBlock c.aeL::C)) cs v
|[],hl,p,bs,sv,a,v,hp,w,ht,y,next=>P6.exit s k hc U g d i he j hcs w ht y fun a' v' d1 d2 d3 d4=>next a' v' bs sv d1 (by rw[o9];exact d2) d3 d4
|u::l,hl,p,bs,sv,a,v,hp,w,ht,y,next=>by have⟨O,M,K,J,I,G⟩:=hl u (by simp);have R:p.length+(l.length+1)<1000000:=hp;refine P6.round s k hI hc hr U g hu d i O M K J I G o j hcs (by omega) w ht y fun a' v' m e d1 d2 d3 d4=>?_;exact P6.rounds s k hI hc hr U g hu d i he o j hcs l (fun x hx=>hl x (by simp[hx])) (p++[u]) m e a' v' (by simp;omega) d2 d3 d4 fun S v2 z r F A E D=>next S v2 z r (F.trans d1) (by rw[Lj] at A;exact A) E D
end
open Go.Ev
def key:ae->Int
|.int _ z=>z
|_=>0
def Vz(ints:ae->List ae)(iT:aZ):List ae->Nat->T Ob->T Ob
|[],_,t=>t
|u::us,k,t=>Vz ints iT us (k+1) (T.put T.deep t k (some (.cells (ints u) iT (some 1))))
def aeM(ints:ae->List ae)(us:List ae)(k:Nat):List ae:=us.map fun u=>.slice (some ⟨k+(us.map key).idxOf (key u),0,none⟩) (ints u).length Ev.soft
def YY(ints:ae->List ae)(iT elT:aZ)(us:List ae)(h:H):H:=⟨T.put T.deep (Vz ints iT us (h.next+1) h.t) h.next (some (.bag (aeM ints us (h.next+1)) elT)),h.next+1+us.length,List.range' h.next (us.length+1)++h.log⟩
def QM{ints:ae->List ae}{iT:aZ}:∀(c:List ae) (k:Nat) (t:T Ob) (b:Nat),k+c.length<=top->(Vz ints iT c k t).get b=if k<=b/\b<k+c.length then(c[b-k]?).map (fun u=>.cells (ints u) iT (some 1)) else t.get b
|[],k,t,b,_=>by rw[aU (by simp only[List.length_nil];omega)];rfl
|u::c,k,t,b,ht=>by
 have a:k+(c.length+1)<=top:=ht;simp only[Vz];rw[QM c (k+1) _ b (by omega),T.get_put _ _ _ _ _ (df (by omega))];by_cases h1:k+1<=b/\b<k+1+c.length
 .rw[aY h1,aY (by simp;omega),show b-k=(b-(k+1))+1 by omega];simp
 rw[aU h1];by_cases h2:b=k
 .subst h2;rw[aY rfl,aY (by simp),aaE];rfl
 rw[aU h2,aU (by simp;omega)]
def MJ{ρ:jV}:∀{l l':List ae},l.length=l'.length->(∀(i:Nat) (v v':ae),l[i]?=some v->l'[i]?=some v'->VR ρ v v')->iL ρ l l'
|[],[],_,_=>.nil
|[],_::_,h,_=>by cases h
|_::_,[],h,_=>by cases h
|v::l,v'::l',h,b=>.cons (b 0 v v' rfl rfl) (MJ (by simpa using h) fun i a a' h1 h2=>b (i+1) a a' (by simpa using h1) (by simpa using h2))
def Jn{α:Type}:∀{l:List α},l.Nodup->∀{i j:Nat} {x:α},l[i]?=some x->l[j]?=some x->i=j
|[],_,i,j,x,h1,_=>by simp at h1
|a::l,hn,0,0,x,_,_=>rfl
|a::l,hn,0,j+1,x,h1,h2=>by simp at h1 h2;subst h1;exact absurd (uy h2) (JW.1 hn).1
|a::l,hn,i+1,0,x,h1,h2=>by simp at h1 h2;subst h2;exact absurd (uy h1) (JW.1 hn).1
|a::l,hn,i+1,j+1,x,h1,h2=>by simp at h1 h2;rw[Jn (JW.1 hn).2 h1 h2]
def zX{l:List Int}(hn:l.Nodup){i x}(h:l[i]?=some x):l.idxOf x=i:=by
 have hm:=uy h;have h1:=List.idxOf_lt_length_iff.2 hm;have h2:l[l.idxOf x]?=some x:=by rw[oV h1,List.getElem_idxOf h1]
 exact Jn hn h2 h
def alQ(ρ:jV)(us p:List ae)(bs:List Lay)(A cA k:Nat):jV:=fun b=>
 if b=k then .at_ A cA else if k+1<=b/\b<k+1+us.length then(match us[b-(k+1)]? with
  |some u=>match bs[(p.map key).idxOf (key u)]? with
   |some y=>.at_ y.1 y.2.1
   |none=>.dC
  |none=>.dC) else ρ b
def P9.bag{ρ h v0 v iT elT ints us p bs sv}(hr:HR ρ h v0)(B:P9 iT elT ints v0 v p bs sv)(a:p.Perm us)(J:(us.map key).Nodup)(hne:us≠[])(hu:lK ρ h.next (h.next+1+us.length))(htop:h.next+1+us.length<=top)(Y:∀u∈us,kY (ints u)=true):∃ρ',Stp ρ h v0 ρ' (YY ints iT elT us h) v/\HR ρ' (YY ints iT elT us h) v/\VR ρ' (.slice (some ⟨h.next,0,none⟩) us.length Ev.soft) sv:=by
 have hlen:=a.length_eq;have S:p≠[]:=fun e=>hne (by subst e;exact List.perm_nil.1 a.symm);have M:=(a.map key).nodup_iff.2 J;rcases B.row with⟨e,_⟩|⟨A,Z,r,rfl,z1,z2,z3,z4⟩
 .exact absurd e S
 have F:∀b,(YY ints iT elT us h).get b=if b=h.next then some _ else if h.next+1<=b/\b<h.next+1+us.length then(us[b-(h.next+1)]?).map (fun u=>.cells (ints u) iT (some 1)) else h.get b:=fun b=>by
  show(T.put T.deep (Vz ints iT us (h.next+1) h.t) h.next _).get b=_;rw[T.get_put _ _ _ _ _ (df (by omega))];by_cases h1:b=h.next
  .rw[aY h1,aY h1]
  rw[aU h1,aU h1,QM _ _ _ _ (by omega)];rfl
 let ρ':=alQ ρ us p bs A Z h.next;have m:ρ' h.next=.at_ A Z:=aY rfl;have c:∀b,(b<h.next\/h.next+1+us.length<=b)->ρ' b=ρ b:=fun b hb=>by
  show(if b=h.next then _ else _)=_
  rw[aU (by omega),aU (by omega)]
 have C:∀(q:Nat) (u:ae),us[q]?=some u->∃i y,p[i]?=some u/\bs[i]?=some y/\ρ' _=.at_ y.1 y.2.1/\(p.map key).idxOf _=i:=fun q u n=>by
  have hqlt:=(yB.1 n).1;have hup:u∈p:=a.mem_iff.2 (uy n);have⟨i,hi⟩:=U0 hup;have E:=(yB.1 hi).1;have P:(p.map key)[i]?=some (key u):=by simp[hi]
  have N:=zX M P;obtain⟨y,hb⟩:∃y,bs[i]?=some y:=⟨_,oV (by rw[B.len];exact E)⟩;refine⟨i,y,hi,hb,?_,N⟩;show(if h.next+1+q=h.next then _ else if _ then _ else _)=_
  rw[aU (by omega),aY (by omega),show h.next+1+q-(h.next+1)=q by omega,n];simp[N,hb]
 have O:∀(i:Nat) (u:ae) (y:Lay),p[i]?=some u->bs[i]?=some y->ρ' (h.next+1+(us.map key).idxOf (key u))=.at_ y.1 y.2.1:=fun i u y hi hy=>by
  have V:u∈us:=a.mem_iff.1 (uy hi);have⟨q,n⟩:=U0 V;have W:(us.map key)[q]?=some (key u):=by simp[n]
  rw[zX J W];have⟨j,y2,h1,h2,K,R⟩:=C q u n;have P:(p.map key)[i]?=some (key u):=by simp[hi]
  have:=zX M P;rw[R] at this;subst this;rw[hy] at h2;cases h2;exact K
 have hle:Le ρ ρ':=fun b=>by
  by_cases h1:h.next<=b/\b<h.next+1+us.length
  .exact .inl (hu b h1.1 h1.2)
  exact .inr (.inl (c b (by omega)))
 have g:∀b x k,h.next<=b->b<h.next+1+us.length->ρ' b=.at_ x k->v0.heap.size<=x/\((b=h.next/\x=A) \/ ∃i y,bs[i]?=some y/\x=y.1/\∃u,us[b-(h.next+1)]?=some u/\(p.map key).idxOf (key u)=i/\p[i]?=some u/\b≠h.next):=fun b x k h1 h2 K=>by
  by_cases R:b=h.next
  .subst R;rw[m] at K;cases K;exact⟨z3,.inl ⟨rfl,rfl⟩⟩
  obtain⟨u,n⟩:∃u,us[b-(h.next+1)]?=some u:=⟨_,oV (by omega)⟩;have⟨i,y,I,G,H,U⟩:=C _ u n;rw[show h.next+1+(b-(h.next+1))=b by omega,K] at H;cases H;exact⟨(B.rows i u y I G).2.2.2,.inr ⟨i,y,G,rfl,u,n,U,I,R⟩⟩
 refine⟨ρ',⟨hle,by show h.next<=h.next+1+us.length;omega,fun b h1 h2=>?_,B.size,List.range' h.next (us.length+1),rfl,fun x o hx _=>?_,fun b x k hb=>?_,fun b hb=>?_,fun b hb=>?_,fun b hb hn=>?_⟩,⟨B.fD,fun b o hb=>?_,fun b d x k l hb hd hx hy=>?_⟩,?_⟩
 .rw[c b (by rcases h2 with h2|h2;exact .inl h2;exact .inr h2)];exact h1
 .rw[B.old x (aP.1 hx).1];exact hx
 .by_cases h1:h.next<=b/\b<h.next+1+us.length
  .exact .inr ⟨hu b h1.1 h1.2,.inl (g b x k h1.1 h1.2 hb).1⟩
  rw[c b (by omega)] at hb;exact .inl hb
 .have⟨h1,h2⟩:=BC.1 hb;exact .inr ⟨h1,by show b<h.next+1+us.length;omega⟩
 .have h1:¬(h.next<=b/\b<h.next+(us.length+1)):=fun h1=>hb (BC.2 h1);rw[F,aU (by omega),aU (by omega)]
 .have h1:¬(h.next<=b/\b<h.next+(us.length+1)):=fun h1=>hb (BC.2 h1);exact c b (by omega)
 .rw[F] at hb
  split at hb
  .rename_i e;cases hb;subst e;refine⟨A,Z,_,m,z1,p.map (fun u=>.slice (some ⟨h.next+1+(us.map key).idxOf (key u),0,none⟩) (ints u).length Ev.soft),_,r,(a.map _).symm,rfl,?_⟩;refine MJ (by simp[B.len]) fun i w w' h1 h2=>?_;rw[Y7] at h1;cases hp:p[i]? with
   |none=>rw[hp] at h1;cases h1
   |some u=>
    rw[hp] at h1;cases h1;have E:=(yB.1 hp).1;obtain⟨y,Q⟩:∃y,bs[i]?=some y:=⟨_,oV (by rw[B.len];exact E)⟩;rw[List.getElem?_zipWith,hp,Q] at h2;cases h2;have hn:=O i u _ hp Q;have⟨_,hcl,_⟩:=B.rows i u _ hp Q;refine .slice ⟨?_,rfl,rfl,rfl⟩ (.inr ⟨aA _,?_,fun x k hx=>?_⟩)
    .show BR ρ' _ _;unfold BR;rw[hn]
    .rw[<-hcl];simp
    have D:ρ' (h.next+1+(us.map key).idxOf (key u))=.at_ x k:=hx;rw[hn] at D;cases D;rfl
  split at hb
  .rename_i h1 h2;obtain⟨u,n⟩:∃u,us[b-(h.next+1)]?=some u:=⟨_,oV (by omega)⟩;rw[n] at hb;cases hb;have⟨i,y,I,G,H,U⟩:=C _ u n;rw[show h.next+1+(b-(h.next+1))=b by omega] at H;have⟨k1,k2,k3,_⟩:=B.rows i u y I G;refine⟨y.1,y.2.1,_,H,k1,ints u,y.2.2,rfl,xg (Y u (uy n)),(fun h=>by cases h),fun z hz=>?_⟩;cases hz;exact⟨by rw[k2,JJ],k3,Nat.one_pos⟩
  rename_i h1 h2;have⟨x,k,o',I,G,H⟩:=hr.ob b o hb;have f:b<h.next\/h.next+1+us.length<=b:=by omega
  exact⟨x,k,o',by rw[c b f];exact I,by rw[B.old x (aP.1 G).1];exact G,H.mono hle⟩
 .
  have low:∀b x k,((YY ints iT elT us h).get b).isSome=true->¬(h.next<=b/\b<h.next+1+us.length)->ρ' b=.at_ x k->x<v0.heap.size/\(h.get b).isSome=true/\ρ b=.at_ x k:=fun b x k hs hn hx=>by rw[F,aU (by omega),aU (by omega)] at hs;rw[c b (by omega)] at hx;have⟨o,ho⟩:=gQ.1 hs;exact⟨hr.lt ho hx,hs,hx⟩
  by_cases f:h.next<=b/\b<h.next+1+us.length<;>by_cases s:h.next<=d/\d<h.next+1+us.length
  .have⟨_,h1⟩:=g b x k f.1 f.2 hx;have⟨_,h2⟩:=g d x l s.1 s.2 hy;have L:∀i (y:Lay),bs[i]?=some y->y.1≠A:=fun i y hi e=>z4 (by rw[<-e];exact oZ.2 ⟨y,uy hi,rfl⟩);rcases h1 with⟨rfl,e1⟩|⟨i,y,I,G,u,H,U,m5,m6⟩<;>rcases h2 with⟨rfl,e2⟩|⟨j,y',n1,n2,u',n3,n4,n5,n6⟩
   .rfl
   .exact absurd (n2.symm.trans e1) (L j y' n1)
   .exact absurd (G.symm.trans e2) (L i y I)
   have X:i=j:=by
    have hi:(bs.map (·.1))[i]?=some x:=by simp[I,G]
    have hj:(bs.map (·.1))[j]?=some x:=by simp[n1,n2]
    exact Jn B.nd hi hj
   subst X;rw[m5] at n5;cases n5;have h1:(us.map key)[b-(h.next+1)]?=some (key u):=by simp[H]
   have h2:(us.map key)[d-(h.next+1)]?=some (key u):=by simp[n3]
   have K:=zX J h1;rw[zX J h2] at K;omega
  .have h1:=(g b x k f.1 f.2 hx).1;have h2:=(low d x l hd s hy).1;omega
  .have h1:=(g d x l s.1 s.2 hy).1;have h2:=(low b x k hb f hx).1;omega
  have⟨_,h1,h2⟩:=low b x k hb f hx;have⟨_,K,R⟩:=low d x l hd s hy;exact hr.inj b d x k l h1 K h2 R
 rw[<-hlen];refine .slice ⟨?_,rfl,rfl,rfl⟩ (.inr ⟨aA _,?_,fun x k hx=>?_⟩)
 .show BR ρ' h.next A;unfold BR;rw[m]
 .rw[<-z2];simp[B.len]
 have D:ρ' h.next=.at_ x k:=hx;rw[m] at D;cases D;rfl
open Go.Conc.Lib Go.ConcR.Gen Go.ConcN.Gen
structure Qc where
 fn:Func
 cw:LQ
 rc:P6
 c0:Code
 c1:Code
 i2:Nat
 i3:Nat
 i11:Nat
 o2m:bn
 o2c:bn
 o2a:bn
 o2s:bn
 o3:bn
 c4:Code
 TG:bn
 N8:bn
 c12:Code
 c13:Code
 c17:Code
 aaM:fH
 tel:TypeInfo
 d17:Nat
 d7:Nat
 zg:ae
 d25:Nat
 d26:Nat
 d27:Nat
 aeO:Array aZ
 iT:aZ
def Qc.body(c:Qc):Code:=
 .seq c.c0 (.seq c.c1 (.seq (.region c.i2 #[c.o2m,c.o2c,c.o2a,c.o2s] false) (.seq (.region c.i3 #[c.o3] false) (.seq (.seq c.c4 (.block c.cw.BQ (.loop c.cw.loopBody))) (.seq (.region c.cw.i10 #[c.cw.TI] false)
  (.seq (.region c.i11 #[c.TG,c.N8] false) (.seq c.c12 (.seq (.seq c.c13 (.block c.rc.aeL (.loop c.rc.body))) c.c17))))))))
structure Qc.OK(P:aH)(L N:List aI)(Lk:WgLink)(c:Qc)(f:aI):Prop where
 ff:P.funcs[f]?=some c.fn
 fb:c.fn.body=some c.body
 fname:(c.fn.name == "runtime.NumGoroutine")=false
 fcl:ny P L c.body=true
 cw:c.cw.OK P L N Lk
 rc:c.rc.OK P L N
 als:c.o2c.op=.makeChan c.rc.tch c.aaM
 g2c:c.o2c.guard=none
 d2c:c.o2c.dst=some c.d17
 tel:P.info? c.rc.WN=some c.tel
 alc:c.tel.bytes<1000000
 ahW:nR P (L++N) c.aaM=true
 op3:c.o3.op=.alloc Lk.tWg
 g3:c.o3.guard=none
 d3:c.o3.dst=some c.d7
 zg:Ev.zeroOf P Lk.tWg=some c.zg
 zgc:c.zg.cells=#[.int .u64 0,.int .u32 0]
 d10:c.cw.TI.dst=some c.d25
 ajV:c.N8.op=.call {callee:=.builtin .close,args:=#[.tmp c.d26],argTypes:=c.aeO}
 alK:c.N8.guard=none
 alP:c.N8.dst=none
 WW:c.rc.WW=.tmp c.d27
 l17:c.d17<Ev.top
 l7:c.d7<Ev.top
 l25:c.d25<Ev.top
 l9:c.rc.d9<Ev.top
 l27:c.d27<Ev.top
section
variable(P:aH)(L N:List aI)(inv:Ev.Iv)(c:Qc)
def noN:aI->List ae->Ev.H->aB (ae×Ev.H):=fun _ _ _=>none
def Qc.preO(args:List ae)(h:Ev.H):aB (Nat×Nat×Nat×Ev.St):=
 match Ev.yA 0 args .nil with
 |some ta=>match Ev.ni P L N noN inv (args.length+(c.fn.ntmps-args.length)) c.c0 ⟨ta,h,[]⟩ with
  |some (.normal,s1)=>match Ev.ni P L N noN inv (args.length+(c.fn.ntmps-args.length)) c.c1 s1 with
   |some (.normal,s2)=>match Ev.nX P L (args.length+(c.fn.ntmps-args.length)) [c.o2m,c.o2c,c.o2a,c.o2s] [c.o2m] s2.t with
    |some t3=>match Ev.di t3 c.aaM with
     |some (.int .i64 (.ofNat m))=>match Nat.blt m 1000000,Ev.uU P (Ev.FK N noN inv) (Ev.ckN P L N) (args.length+(c.fn.ntmps-args.length)) [c.o2m,c.o2c,c.o2a,c.o2s] [c.o2a,c.o2s] (Ev.T.put Ev.T.deep t3 c.d17 (some (.chan (some s2.h.next)))) ⟨s2.h.t,s2.h.next+1,s2.h.log⟩ with
      |true,some (t5,h5)=>match Ev.ni P L N noN inv (args.length+(c.fn.ntmps-args.length)) c.c4 ⟨Ev.T.put Ev.T.deep t5 c.d7 (some (.pointer (some ⟨h5.next,0,none⟩))),⟨h5.t,h5.next+1,h5.log⟩,[]⟩ with
       |some (.normal,s7)=>some (m,s2.h.next,h5.next,s7)
       |_=>none
      |_,_=>none
     |_=>none
    |none=>none
   |_=>none
  |_=>none
 |none=>none
def Qc.ajY(n nC:Nat)(tE:Ev.T ae)(h:Ev.H):aB Ev.St:=
 match Ev.uU P (Ev.FK N noN inv) (Ev.ckN P L N) n [c.TG,c.N8] [c.TG] (Ev.strike tE c.d25) h with
 |some (t9,h1)=>match Ev.di t9 (.tmp c.d26) with
  |some (.chan (some k))=>match Nat.beq k nC,Ev.ni P L N noN inv n c.c12 ⟨t9,h1,[]⟩ with
   |true,some (.normal,s10)=>match Ev.ni P L N noN inv n c.c13 s10 with
    |some (.normal,s11)=>some s11
    |_=>none
   |_,_=>none
  |_=>none
 |none=>none
def intsOf(inv:Ev.Iv)(fL:aI)(h:Ev.H)(u:ae):List ae:=
 match inv (.func fL) [u] ⟨h.t,h.next,[]⟩ with
 |some (.slice (some a) _ _,h')=>match h'.get a.block with
  |some (.cells c _ _)=>c
  |_=>[]
 |_=>[]
def adL:ae->Bool
|.int _ _=>true
|_=>false
def nodupB:List Int->Bool
|[]=>true
|x::l=>(l.all fun y=>!decide (y=x))&&nodupB l
def Qc.EG(n hi nC:Nat)(h:Ev.H)(u:ae):Bool:=
 adL u&&Ev.iZ L [u]&&c.rc.uh P L n (Ev.T.put Ev.T.deep .nil c.d27 (some (.chan (some nC)))) u&&Js inv c.rc.fL h u (intsOf inv c.rc.fL h u) c.iT&&(match inv (.func c.rc.fL) [u] ⟨h.t,h.next,[]⟩ with
  |some (_,h')=>Nat.ble h'.next hi
  |none=>true)&&Ev.kY (intsOf inv c.rc.fL h u)
def Qc.atO(n hi nC m:Nat)(ps:List (aB ae))(s7 s11:Ev.St):Bool:=
 Nat.beq ps.length m&&Nat.ble (s7.h.next+1) hi&&(match ps.filterMap id with | []=>false|_=>true)&&nodupB ((ps.filterMap id).map key)&&Ev.Vq (Ev.T.put Ev.T.deep .nil c.d27 (some (.chan (some nC)))) s11.t&&(match s11.t.get c.rc.d9 with|some (.slice none 0 0)=>true|_=>false)&&
  c.rc.free n (Ev.T.put Ev.T.deep .nil c.d27 (some (.chan (some nC))))&&c.rc.aal P L n (Ev.T.put Ev.T.deep .nil c.d27 (some (.chan (some nC))))&&((ps.filterMap id).all fun u=>c.EG P L inv n hi nC s11.h u)&&Nat.ble (s11.h.next+1+(ps.filterMap id).length) hi&&Nat.ble (s11.h.next+1+(ps.filterMap id).length) Ev.top&&Nat.blt c.cw.d8 n&&Nat.blt c.cw.d23 n&&Nat.blt c.d17 n&&Nat.blt c.d7 n&&Nat.blt c.rc.d9 n&&(ps.filterMap id).length.blt 1000000
def Qc.di(hi:Nat)(args:List ae)(h:Ev.H):aB (ae×Ev.H):=
 match c.preO P L N inv args h with
 |some (m,nC,nW,s7)=>match c.cw.DZ P L N inv (args.length+(c.fn.ntmps-args.length)) nW nC hi ⟨Ev.GY s7.h.t,s7.h.next,[]⟩ m s7.t with
  |some (ps,tE)=>match c.ajY P L N inv (args.length+(c.fn.ntmps-args.length)) nC tE s7.h with
   |some s11=>match c.atO P L inv (args.length+(c.fn.ntmps-args.length)) hi nC m ps s7 s11 with
    |true=>match Ev.ni P L N noN inv (args.length+(c.fn.ntmps-args.length)) c.c17 ⟨Ev.T.put Ev.T.deep (Ev.T.put Ev.T.deep .nil c.d27 (some (.chan (some nC)))) c.rc.d9 (some (.slice (some ⟨s11.h.next,0,none⟩) (ps.filterMap id).length Ev.soft)),YY (intsOf inv c.rc.fL s11.h) c.iT c.rc.el (ps.filterMap id) s11.h,[]⟩ with
     |some x=>match Ev.Jt P c.fn x with
      |some (v,h')=>match Nat.ble h'.next hi with
       |true=>some (v,⟨h'.t,hi,h'.log⟩)
       |false=>none
      |none=>none
     |none=>none
    |false=>none
   |none=>none
  |none=>none
 |none=>none
end
def reserve{ρ h w w' o}(hr:Ev.HR ρ h w)(hu:ρ h.next=.dC)(hw:w'.heap=w.heap.push o)(ho:Ev.TJ o=false):Ev.Stp ρ h w (Ev.upd ρ h.next (.at_ w.heap.size 0)) ⟨h.t,h.next+1,h.log⟩ w'/\Ev.HR (Ev.upd ρ h.next (.at_ w.heap.size 0)) ⟨h.t,h.next+1,h.log⟩ w':=by
 have i:Ev.Le ρ (Ev.upd ρ h.next (.at_ w.heap.size 0)):=Ev.rE hu _;have d:∀b o,h.get b=some o->b≠h.next:=fun b o hb e=>by subst e;have⟨x,k,o',h1,_⟩:=hr.ob _ o hb;rw[hu] at h1;cases h1
 have a:∀(x) (o),w.heap[x]?=some o->w'.heap[x]?=some o:=fun x o hx=>by have:=(aP.1 hx).1;rw[hw,iK,aU (by omega)];exact hx
 refine⟨⟨i,Ll _,fun b hb hx=>?_,by rw[hw];simp,[],rfl,fun x o hx _=>a x o hx,fun b x k hb=>?_,fun _ h=>by simp at h,fun _ _=>rfl,fun b _ hb=>?_⟩,hr.fD.push hw ho,fun b o hb=>?_,fun b c x k l hb hc hx hy=>?_⟩
 .rw[Ev.bJ]
  .exact hb
  rintro rfl;rcases hx with hx|hx
  .exact absurd hx (Gp _)
  exact absurd hx (Nat.not_succ_le_self _)
 .by_cases e:b=h.next
  .subst e;rw[Ev.upd_same] at hb;cases hb;exact .inr ⟨hu,.inl (aA _)⟩
  rw[Ev.bJ _ _ e] at hb;exact .inl hb
 .rw[Ev.bJ];rintro rfl;exact hb hu
 .have⟨x,k,o',h1,h2,g⟩:=hr.ob b o hb;exact⟨x,k,o',by rw[Ev.bJ _ _ (d b o hb)];exact h1,a _ _ h2,g.mono i⟩
 have⟨o1,h1⟩:=gQ.1 hb;have⟨f,h2⟩:=gQ.1 hc;rw[Ev.bJ _ _ (d b o1 h1)] at hx;rw[Ev.bJ _ _ (d c f h2)] at hy;exact hr.inj b c x k l hb hc hx hy
def GU{ρ ρ' h h' w w'}(s:Ev.Stp ρ h w ρ' h' w'){b}(h1:h.get b=none)(h2:b<h.next):h'.get b=none:=by
 have⟨l,_,_,_,d,e,_⟩:=s.log;by_cases hm:b∈l
 .rcases d b hm with a|a
  .rw[h1] at a;cases a
  omega
 rw[e b hm];exact h1
def zM:∀{l:List Int},nodupB l=true->l.Nodup
|[],_=>Zc
|x::l,h=>by simp only[nodupB,aT] at h;refine JW.2 ⟨fun hx=>?_,zM h.2⟩;have:=bZ.1 h.1 x hx;simp at this
end Go.Crew
