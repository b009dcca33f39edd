import Derived.Test.YtjilljfmaknihaaGreatA28
import Derived.Test.YtjilljfmaknihaaGreatA24
import Derived.Test.YtjilljfmaknihaaGreatA27
set_option linter.all false
namespace Go.Crew
open Go.Conc Go.ConcN Go.Ren
section
variable[M:Mps][E:Ext]
def oO(P:aH)(Post:ae->ay->Prop)(m:Machine)(t:Trace):Prop:=∃N last oc w' t',runNT P (N+1) m t=(.ended oc w',t')/\runN P N m=.next last/\step P last=.ended oc w'/\Conc.Good P Post last oc w' t'
theorem acO{P}:∀(n k) (m a) (r),runN P n m=.next a->runN P k a=r->runN P (n+k) m=r:=by
 intro n;induction n with
 |zero=>intro k m a r h h2;simp[runN,J3] at h;subst h;rw[DF];exact h2
 |succ n ih=>
  intro k m a r h h2;rw[show n+1+k=(n+k)+1 by omega];unfold runN at h⊢;generalize hq:step P m=z at h⊢;cases z with
  |next m3=>exact ih k m3 a _ h h2
  |ended oc w3=>simp at h
theorem oO.after{P Post n m a t t1}(h1:oO P Post a t1)(h:runNT P n m t=(.next a,t1)):oO P Post m t:=by
 have⟨N,last,b,w',t',f,e,d,c⟩:=h1;have h2:runN P n m=.next a:=by rw[<-runNT_fst P n m t,h]
 exact⟨n+N,last,b,w',t',by rw[Nat.add_assoc];exact zq n _ m a t t1 _ h f,acO n N m a _ h2 e,d,c⟩
section
variable[jE]{P:aH}{S:aI->Prop}{Z:Nat->Prop}{w0:ay}{Post:ae->ay->Prop}
abbrev Fact:=(Nat->Prop)->(Nat->Prop)->Nat->(Nat->Nat)->ay->Trace->Prop
def Fact.Still(n:Nat)(F:Fact):Prop:=∀Shr Hid o f f' w w' t t',F Shr Hid o f w t->Since Shr w w' t t'->(∀i,i<n->f' i=f i)->F Shr Hid o f' w' t'
def rW(P:aH)(S:aI->Prop)(Z:Nat->Prop)(w0:ay)(Post:ae->ay->Prop)(n:Nat)(F:Fact)(fr:aC)(cs:List aC)(v:ay):Prop:=n<=v.heap.size->∀(Shr Hid:Nat->Prop) (o:Nat) (f:Nat->Nat) (gs:Array dD) (w:ay) (sl:aB (Nat×Nat)) (t:Trace) (q:Nat->Nat),Mirror P S Z Shr Hid o f (Conc.G fr cs) v gs w t q->bP Z (fun _=>False) w0 w->F Shr Hid o f w t->oO P Post (crowd gs w sl) t
theorem rW.NW{n F}(j:F.Still n)(d:bz P)(hS:mM P S){fr cs v}(ht:fO P S (fun g v'=>∃fr' cs',g=Conc.G fr' cs'/\rW P S Z w0 Post n F fr' cs' v'/\Ev.mJ v v') (Conc.G fr cs) v):rW P S Z w0 Post n F fr cs v:=by
 intro hn Shr Hid o f gs w sl t q h e hf;obtain⟨N,gs',w',a,t',c,f',g',v',u,⟨fr',cs',rfl,hk,_⟩,s,r,p,m,l⟩:=Mirror.go d hS
  (C:=fun b=>∃o,v.heap[b]?=some o/\dB o=true)
  (fun g v' ⟨_,_,_,_,hst⟩ b ⟨o,h1,h2⟩ o' k=>hst b o h1 h2 o' k) h sl ht fun b o h1 h2=>⟨o,h1,h2⟩;exact(hk (bM hn m) Shr Hid o f' gs' w' a t' c s (e.trans l) (j _ _ _ _ _ _ _ _ _ hf r fun i hi=>p i (bT hi hn))).after u
def KM(P:aH)(S:aI->Prop)(Z:Nat->Prop)(w0:ay)(Post:ae->ay->Prop):aC->List aC->ay->Prop:=rW P S Z w0 Post 0 fun _ _ _ _ _ _=>True
theorem KM.any{n F fr cs v}(h:KM P S Z w0 Post fr cs v):rW P S Z w0 Post n F fr cs v:=fun _ Shr Hid o f gs w sl t q b a _=>h (gy _) Shr Hid o f gs w sl t q b a trivial
theorem KM.mk{fr cs v}(h:∀(Shr Hid) (o) (f) (gs) (w) (sl) (t) (q),Mirror P S Z Shr Hid o f (Conc.G fr cs) v gs w t q->bP Z (fun _=>False) w0 w->oO P Post (crowd gs w sl) t):KM P S Z w0 Post fr cs v:=fun _ Shr Hid o f gs w sl t q b a _=>h Shr Hid o f gs w sl t q b a
theorem KM.at_{fr cs v}(h:KM P S Z w0 Post fr cs v){Shr Hid o f gs w t q}(b:Mirror P S Z Shr Hid o f (Conc.G fr cs) v gs w t q)(sl)(a:bP Z (fun _=>False) w0 w):oO P Post (crowd gs w sl) t:=h (gy _) Shr Hid o f gs w sl t q b a trivial
end
theorem yl{P L N}(a:bz P)(hS:mM P (·∈L)){Z w0 Post n F}(b:F.Still n):Ev.iW P L N (@rW M E (aV P L N) P (·∈L) Z w0 Post n F):=fun _ _ _ ht=>@rW.NW M E (aV P L N) _ _ _ _ _ _ _ b a hS _ _ _ ht
theorem AZ{P L N}(a:bz P)(hS:mM P (·∈L)){Z w0 Post}:Ev.iW P L N (@KM M E (aV P L N) P (·∈L) Z w0 Post):=yl a hS fun _ _ _ _ _ _ _ _ _ h _ _=>h
end
section
variable[jE]{P:aH}{S:aI->Prop}{Z:Nat->Prop}{w0:ay}{Post:ae->ay->Prop}
theorem KM.ends{fr v fn tr}(hfn:P.funcs[fr.fn]?=some fn)(a:fn.results=#[.tmp tr])(b:P.inits.idxOf? fr.fn=none)(hm:fr.mode=.returning)(hd:fr.defers=[])(hk:fr.kind=.normal)(hp:∀(f) (w) (d),bP Z (fun _=>False) w0 w->Post (val f (fr.tmps.getD tr undef)) (w.at d)):KM P S Z w0 Post fr [bottom] v:=by refine KM.mk fun Shr Hid o f gs w sl t q e c=>?_;exact Mirror.ends e sl hfn a b hm hd hk fun d=>hp f w d c
def all(w:ay):Nat->Prop:=fun b=>b<w.heap.size
end
def LC{w w1}(h:bP (all w) (fun _=>False) w w1)(d)(may):w.keptBut (w1.at d) may:=by
 refine⟨h.chans.os,h.chans.output,fun i hi=>?_⟩;have e:(w1.at d).heap[i]?=w.heap[i]?:=h.keep i hi (.inl hi);rw[e];cases hx:w.heap[i]? with
 |none=>rfl
 |some x=>cases x<;>first|exact⟨rfl,rfl,rfl,fun _ _=>rfl⟩|exact .inr ⟨rfl,rfl⟩|rfl
end Go.Crew
section
namespace Go
namespace Ren
open Go.Conc
@[reducible] def fJ:Mps:=⟨false⟩
@[reducible] def bears:@Ext fJ:=@Ext.mk fJ (fun t v=>if mr v=true then v else .iface t v) (fun t v=>by show mr (if mr v=true then v else .iface t v)=true;split<;>first|assumption|rfl) (fun h=>by cases h)
section
variable[M:Mps][E:Ext]
variable{P:aH}{S:aI→Prop}
def uM(S:aI→Prop)(w:ay)(x:ae):Prop:=U3 S (·∈enum w) x∧@val M bY E id x=x
open Classical in
noncomputable def uk(S:aI→Prop)(w:ay)(x:ae):ae:=
 if uM S w x then @val M bY aj (down w) x else
  match x with
  |.agg cs=>.agg (cs.attach.map fun y=>uk S w y.1)
  |.tuple cs=>.tuple (cs.attach.map fun y=>uk S w y.1)
  |x=>.iface jT x
termination_by SizeOf.sizeOf x
decreasing_by
 all_goals (have h:=IP y.2;simp only[IM,IL];omega)
theorem AY{w}{x}(h:uM S w x):uk S w x=@val M bY aj (down w) x:=by unfold uk;rw[aY h]
theorem V8{w}{cs}(h:¬uM S w (.agg cs)):uk S w (.agg cs)=.agg (cs.map (uk S w)):=by unfold uk;rw[aU h];dsimp only;congr 1;exact Xm cs _
theorem Om{w}{cs}(h:¬uM S w (.tuple cs)):uk S w (.tuple cs)=.tuple (cs.map (uk S w)):=by unfold uk;rw[aU h];dsimp only;congr 1;exact Xm cs _
theorem FI{w}{x}(h:mr x=false)(h1:∀cs,x≠.agg cs)(h2:∀cs,x≠.tuple cs):uM S w x:=by
 cases x with
 |agg cs=>exact absurd rfl (h1 cs)
 |tuple cs=>exact absurd rfl (h2 cs)
 |pointer a=>cases a<;>first|(cases h;done)|exact⟨fun H d f f' _ _=>by rw[jX,jX];rfl,by simp⟩
 |slice a l c=>cases a<;>first|(cases h;done)|exact⟨fun H d f f' _ _=>by rw[uP,uP];rfl,by simp⟩
 |map a=>cases a<;>first|(cases h;done)|exact⟨fun H d f f' _ _=>by rw[MC,MC];rfl,by simp⟩
 |chan a=>cases a<;>first|(cases h;done)|exact⟨fun H d f f' _ _=>by rw[Ap,Ap];rfl,by simp⟩
 |func g a b=>cases h
 |iface t v=>cases h
 |bool b=>exact⟨fun H d f f' _ _=>by rw[MF,MF],by simp⟩
 |int k b=>exact⟨fun H d f f' _ _=>by rw[Vb,Vb],by simp⟩
 |float k b=>exact⟨fun H d f f' _ _=>by rw[GG,GG],by simp⟩
 |complex k a b=>exact⟨fun H d f f' _ _=>by rw[zf,zf],by simp⟩
 |string b=>exact⟨fun H d f f' _ _=>by rw[Cf,Cf],by simp⟩
 |nilFunc=>exact⟨fun H d f f' _ _=>by rw[y9,y9],by simp⟩
 |nilIface=>exact⟨fun H d f f' _ _=>by rw[vK,vK],by simp⟩
theorem Q8{w}{x}(h:¬uM S w x)(h1:∀cs,x≠.agg cs)(h2:∀cs,x≠.tuple cs):uk S w x=.iface jT x∧mr x=true:=by refine⟨?_,by cases hx:mr x with|true=>rfl|false=>exact absurd (FI hx h1 h2) h⟩;unfold uk;rw[aU h];cases x<;>first|exact absurd rfl (h1 _)|exact absurd rfl (h2 _)|rfl
theorem I5{w}{cs}(h:∀y∈cs,@val M bY E (up w) (uk S w y)=y):@vals M bY E (up w) (cs.map (uk S w))=cs:=by unfold vals;rw[oM];exact(jL fun y hy=>h y hy).trans (Xl cs)
theorem E5(a:∀x,mr x=true→Ext.ext jT x=x){w:ay}(x:ae):@val M bY E (up w) (uk S w x)=x:=by
 by_cases h:uM S w x
 .rw[AY h,←val_two bY (up w),qc,h.1 bY bY (up w ∘ down w) id (fun b hb=>up_down hb) (fun _ _=>rfl),qX,h.2]
 cases x with
 |agg cs=>rw[V8 h,dG,I5 fun y hy=>E5 a y]
 |tuple cs=>rw[Om h,cO,I5 fun y hy=>E5 a y]
 |_=>
 obtain⟨d,c⟩:=Q8 h (fun cs=>by simp) (fun cs=>by simp);rw[d,dh];unfold Wj;rw[aU (Gp _)];exact a _ c
termination_by SizeOf.sizeOf x
decreasing_by
 all_goals (have h:=IP hy;simp only[IM,IL];omega)
theorem V7(H)(e)(x):@val M H aj e (.iface jT x)=.iface jT x:=by rw[rX,aU (Gp _)]
theorem Jr{w:ay}(H b:Fr)(e a:Nat→Nat)(ha:Alike S (enum w).length H b e a)(x:ae):@val M H aj e (uk S w x)=@val M b aj a (uk S w x):=by
 by_cases h:uM S w x
 .rw[AY h];exact QZ h.1 H b e a ha
 cases x with
 |agg cs=>
 rw[V8 h,MG,MG,oM,oM];congr 1;exact jL fun y hy=>Jr H b e a ha y
 |tuple cs=>
 rw[Om h,uO,uO,oM,oM];congr 1;exact jL fun y hy=>Jr H b e a ha y
 |_=>
 obtain⟨c,_⟩:=Q8 h (fun cs=>by simp) (fun cs=>by simp);rw[c,V7,V7]
termination_by SizeOf.sizeOf x
decreasing_by
 all_goals (have h:=IP hy;simp only[IM,IL];omega)
theorem Q7{w}(H b)(e a)(ha:Alike S (enum w).length H b e a)(c:Array ae):@vals M H aj e (c.map (uk S w))=@vals M b aj a (c.map (uk S w)):=by unfold vals;rw[oM,oM];exact jL fun y _=>Jr H b e a ha y
theorem acx{w}{c}(h:∀x∈c,uM S w x):@vals M bY E (up w) (@vals M bY aj (down w) c)=c:=by unfold vals;rw[oM];refine(jL fun x hx=>?_).trans (Xl c);show @val M bY E (up w) _=x;rw[←val_two bY (up w),qc,(h x hx).1 bY bY (up w ∘ down w) id (fun b hb=>up_down hb) (fun _ _=>rfl),qX,(h x hx).2]
noncomputable def alB(S:aI→Prop)(w:ay):Obj→Obj
|.cells c e fr=>.cells (c.map (uk S w)) e fr
|_=>.cells #[] 0 (0,0)
noncomputable def EH(S:aI→Prop)(w:ay):ay:={w with heap:=((enum w).map fun b=>alB S w (w.heap[b]?.getD default)).toArray}
theorem pR(S)(w):(EH S w).heap.size=(enum w).length:=by simp[EH]
theorem oH(S)(w){i}{o}(h:(EH S w).heap[i]?=some o):i<(enum w).length∧∃c e fr,w.heap[up w i]?=some (.cells c e fr)∧o=.cells (c.map (uk S w)) e fr:=by
 have a:i<(enum w).length:=by rw[←pR S w];exact(aP.1 h).1
 refine⟨a,?_⟩;have hm:=acy a;have hu:up w i=(enum w)[i]:=by unfold up;rw[ou a]
 obtain⟨hb,hc⟩:=wR.1 hm;unfold IA at hc;rw[gu hb] at hc;have hg:=gu hb;simp[EH,F9,Y7,oV a,Option.map_some,kG] at h;rw[←hu,hg] at h;generalize w.heap[up w i]=o' at hc hg h;cases o'<;>first|(cases hc;done)|exact⟨_,_,_,hg,h.symm⟩
theorem agp(S){w}{b}{c}{e}{fr}(h:w.heap[b]?=some (.cells c e fr)):b∈enum w∧down w b<(enum w).length∧(EH S w).heap[down w b]?=some (.cells (c.map (uk S w)) e fr):=by have hb:=(aP.1 h).1;have hm:=wR.2 ⟨hb,by unfold IA;rw[h];rfl⟩;have a:=UI hm;refine⟨hm,a,?_⟩;obtain⟨ob,hg⟩:∃ob,(EH S w).heap[down w b]?=some ob:=⟨_,gu (by rw[pR];exact a)⟩;obtain⟨_,c',e',fr',h1,h2⟩:=oH S w hg;rw[up_down hm,h] at h1;obtain⟨rfl,rfl,rfl⟩:=UL (aN h1);rw[hg,h2]
theorem agn[jE](hS:mM P S){fn}(hfn:S fn∨aG P S (Frame.enter P fn #[] .normal)){args}{w}(j:P.globals.size≤(enum w).length)(ha:∀x∈args,U3 S (·∈enum w) x):Ok P S (G (Frame.enter P fn (@vals M bY aj (down w) args) .normal) [bottom]) (EH S w):=by
 have hgood:aG P S (Frame.enter P fn (@vals M bY aj (down w) args) .normal):=by
  rcases hfn with h|h
  .exact Bg hS h _ (.inl rfl)
  exact⟨fun i hi=>h.items i (by simpa[Frame.enter] using hi),fun d hd=>(by simp[Frame.enter] at hd),trivial,.inl rfl⟩
 refine⟨fun b o hb=>?_,⟨hgood,fun c hc=>by rw[eY.1 hc];exact pX,rfl⟩,rfl,⟨[],rfl⟩,by rw[pR];exact j,fun H f h h' g=>?_,fun H f h a b o hb=>?_⟩
 .obtain⟨_,c,e,fr,_,rfl⟩:=oH S w hb
  exact⟨.inr rfl,trivial⟩
 .have a:=g.named
  rw[pR] at a;refine⟨?_,fun b o hb=>?_⟩
  .unfold uG
   simp[Conc.G,fU,iw,yT,mi];rw[Iu H,Iu f,X5 ha H f h h' a];exact⟨rfl,by rw[@fQ M _ H,@fQ M _ f]⟩
  obtain⟨_,c,e,fr,_,rfl⟩:=oH S w hb;show Obj.cells _ e fr=Obj.cells _ e fr;congr 1;exact Q7 H f h h' a c
 obtain⟨_,c,e,fr,_,rfl⟩:=oH S w hb;show Obj.cells _ e fr=Obj.cells _ e fr;congr 1;exact Q7 H f h h ⟨fun _ _=>rfl,a⟩ c
theorem adx(a:∀x,mr x=true→Ext.ext jT x=x)(S)(K)(w):@qJ M bY E (up w) K (EH S w) w:=by
 refine⟨fun b o hb=>?_,fun b o hb=>?_⟩
 .obtain⟨_,c,e,fr,_,rfl⟩:=oH S w hb
  exact trivial
 obtain⟨_,c,e,fr,h1,rfl⟩:=oH S w hb;exact⟨_,h1,c,fr,rfl,fun _=>⟨(I5 fun y _=>E5 a y).symm,fun _ h=>h⟩⟩
end
end Ren
namespace Crew
open Go.Conc Go.ConcN Go.Ren
variable[M:Mps][E:Ext][jE]{P:aH}{S:aI→Prop}
theorem Mirror.XG(f:∀x,mr x=true→Ext.ext jT x=x)(hS:mM P S){fn}(hfn:S fn∨aG P S (Frame.enter P fn #[] .normal)){args}{w}(d:P.globals.size≤(enum w).length)(hup:∀g,g<P.globals.size→up w g=g)(ha:∀x∈args,uM S w x):Mirror P S nobody nobody nobody 0 (up w) (G (Frame.enter P fn (@vals M bY aj (down w) args) .normal) [bottom]) (EH S w) #[G (Frame.enter P fn args .normal) []] w #[] (fun _=>0):=by
 refine⟨⟨base_start w,fun i g hg=>by simp[Trace.g?] at hg,rfl,rfl,fun i hi=>by omega⟩,⟨agn hS hfn d fun x hx=>(ha x hx).1,fun a b h1 h2 h=>ahZ (by rw[←pR S w];exact h1) (by rw[←pR S w];exact h2) h,hup,adx f S _ w,fun b x hb=>?_⟩,?_,fun _ hb=>hb.elim⟩
 .refine .inl ⟨⟨⟨ajv (oH S w hb).1,id⟩,id⟩,?_⟩
  obtain⟨_,c,e,fr,_,rfl⟩:=oH S w hb;rfl
 simp[F9,List.getElem?_cons_zero,kG];unfold bF uG;simp only[Conc.G];rw[gK,acx ha];rfl
theorem KM.XG{Post}(f:∀x,mr x=true→Ext.ext jT x=x)(hS:mM P S){fn}(hfn:S fn∨aG P S (Frame.enter P fn #[] .normal)){args}{w}(e:P.globals.size≤(enum w).length)(hup:∀g,g<P.globals.size→up w g=g)(ha:∀x∈args,uM S w x)(h:KM P S (all w) w Post (Frame.enter P fn (@vals M bY aj (down w) args) .normal) [bottom] (Em (fun _=>True) (EH S w))):oO P Post (solo (Conc.G (Frame.enter P fn args .normal) []) w) #[]:=by
 have d:=Mirror.XG f hS hfn e hup ha;have a:=d.leave (fun b x _ hx=>?_) (fun _ h=>h.elim) (fun b hb=>⟨hb,id⟩) (fun b _ _ hm=>hm.1.1) (fun b hn=>absurd trivial hn)
 .rw[solo_eq_crowd]
  exact h.at_ a none (bP.refl _ _ _)
 obtain⟨_,c,e1,fr,_,rfl⟩:=oH S w hx;exact⟨fun _ _ h=>by simp at h,fun h=>by simp[Obj.isChan] at h⟩
end Crew
end Go
end
namespace Go.Crew
open Go.Conc Go.ConcN Go.Ren
section
variable[jE][aX]{P:aH}{S:aI->Prop}{ty:aZ}{Wg Ch:Nat}{Ro:Nat->Prop}{B:List aC}{D:List xu}{k:Kind}{n0:Nat}{f0:Nat->Nat}{w0:ay}
def KW(P:aH)(S:aI->Prop)(ty:aZ)(Wg Ch:Nat)(Ro:Nat->Prop)(B:List aC)(D:List xu)(k:Kind)(n0:Nat)(f0:Nat->Nat)(w0:ay)(fr:aC)(v:ay):Prop:=∀(f:Nat->Nat) (w:ay) (own:Nat->Prop),eX P S Ro own aX.ch f (Conc.G fr [bottom]) v w->bP Ro (fun _=>False) w0 w->(∀b,Ro b->b<w.heap.size/\¬own b)->(∀i,i<n0->f i=f0 i)->n0<=v.heap.size->bu P Ro (Live ty Wg Ch) false k ⟨uH D (bF f B (Conc.G fr [bottom])),w,own⟩
theorem KW.step(s:bz P)(hS:mM P S)(u:k.quiet=false)(x:∀e r,aX.ch r->yY r e->k.X e){fr v}(hns:Fit P (Conc.G fr [bottom])){fr1:(Nat->Question->Nat)->aC}{V:(Nat->Question->Nat)->ay}{E:(Nat->Question->Nat)->Array Event}(he:∀t,stepG P true (Conc.G fr [bottom]) (wt v t)=.go (Conc.G (fr1 t) [bottom]) (V t) (E t))(hp:∀t,bf (fr1 t).mode)(hcl:∀t,Ren.Clean S v->Ren.Clean S (V t))(hst:∀t,Ev.mJ v (V t))(l:∀(t:Nat->Question->Nat) (f':Nat->Nat) (w1 w2:ay) (es:Array Event),yZ f'->(∀g,g<P.globals.size->f' g=g)->qJ f' (kd P S) (wt v t) w1->nG f' (wt v t) (V t) w1->stepG P false (bF f' B (Conc.G fr [bottom])) w1=.go (bF f' B (Conc.G (fr1 t) [bottom])) w2 es->stepG P false (uH D (bF f' B (Conc.G fr [bottom]))) w1=.go (uH D (bF f' B (Conc.G (fr1 t) [bottom]))) w2 es)(next:∀t,KW P S ty Wg Ch Ro B D k n0 f0 w0 (fr1 t) (V t)):KW P S ty Wg Ch Ro B D k n0 f0 w0 fr v:=by
 intro f w own a y q n hn;have hup:∀t,Up (Conc.G (fr1 t) [bottom]):=fun t=>⟨[],rfl⟩;have hsm:∀t,jc (Conc.G (fr1 t) [bottom]):=fun t=>⟨rfl,.inl rfl,hp t⟩;have hok:∀t,Ok P S _ (V t):=fun t=>(a.ok.wt t).step s hS hns (hcl t) (he t) (hsm t) (hup t) rfl;unfold bu;rw[u];refine J8 s hS (fun e r h1 h2 A z=>x e r h1 ⟨h2,A,z⟩) a.ok hns he hsm hok a (fun t b o o1 hb hc m=>hst t b o hb hc o1 m) q (dr:=uH D) (Ui D) l fun t f' w' own' j d c p h _=>?_;have h1:=next t f' w' own' j (y.trans d) c (fun i hi=>(p i (bT hi hn)).trans (n i hi)) (bM hn h);unfold bu at h1;rw[u] at h1;exact h1
end
def Eu(n:Nat)(D:List xu)(g:dD):dD:=if g.callers.length=n then uH D g else{g with callers:=match g.callers with|c::cs=>{c with defers:=D}::cs | []=>[]}
def OX(n)(D)(g):(Eu n D g).status=g.status:=by unfold Eu;split<;>rfl
def KQ(D)(F)(B):Eu B.length D (Conc.G F B)=Conc.G {F with defers:=D} B:=by
 show(if B.length=B.length then _ else _)=_
 rw[aY rfl];rfl
def ER(D)(F c)(B):Eu B.length D (Conc.G F (c::B))=Conc.G F ({c with defers:=D}::B):=by
 show(if (c::B).length=B.length then _ else _)=_
 rw[aU (by simp)];rfl
section
variable[jE][aX]{P:aH}{S:aI->Prop}{ty:aZ}{Wg Ch:Nat}{Ro:Nat->Prop}{B:List aC}{D:List xu}{k:Kind}{n0:Nat}{f0:Nat->Nat}{w0:ay}
theorem mV(f)(B)(fr):bF f B (Conc.G fr [bottom])=Conc.G (frame f fr) B:=by
 have hs:stk f B [bottom]=B:=by have:=yG f B bottom [];simpa using this
 unfold bF uG;dsimp[Conc.G];rw[hs]
theorem OL(f)(B)(fr c):bF f B (Conc.G fr [c,bottom])=Conc.G (frame f fr) (frame f c::B):=by
 have hs:stk f B [c,bottom]=frame f c::B:=by have:=yG f B bottom [c];simpa using this
 unfold bF uG;dsimp[Conc.G];rw[hs]
theorem KW.call(u:bz P)(hS:mM P S)(N:k.quiet=false)(hX:∀e r,aX.ch r->yY r e->k.X e){fr v}(hns:Fit P (Conc.G fr [bottom])){ops i rest kk o}(hm:fr.mode=.run)(hr:fr.roundOf=none)(ht:fr.todo=.inRegion ops (i::rest)::kk)(ho:ops[i]?=some o)(V:pG P S o)(hv:∀x,ed P S x->BG (fr.eval x))(hl:∀(w) c d g,o.op=.call c->resolve fr.eval c o.type=pure d->d.target.leads P w d.args=some g->S g){fn args}(p:∀t,(execOp fr.eval o).run P (wt v t)=.ok (.enter fn args) (wt v t)){E:(Nat->Question->Nat)->Array Event}(he:∀t,stepG P true (Conc.G fr [bottom]) (wt v t)=.go (Conc.G (Frame.enter P fn args .normal) [fr,bottom]) (wt v t) (E t))(hfn:S fn)(hargs:pJ S args){Post:ae->ay->Prop}(hP:∀x v t,Post x v->Post x (wt v t))(hc:∀t,Calls P fn args (wt v t) fun e w'=>∃x,e=.returned x/\Post x w')(hst:∀x v',Post x v'->Ev.mJ v v')(next:∀x v',Post x v'->v.heap.size<=v'.heap.size->KW P S ty Wg Ch Ro B D k n0 f0 w0 (fr.finish x) v'):KW P S ty Wg Ch Ro B D k n0 f0 w0 fr v:=by
 intro f w own m hR hRo Z hn;have hup:∀t:Nat->Question->Nat,Up (Conc.G (Frame.enter P fn args .normal) [fr,bottom]):=fun _=>⟨[fr],rfl⟩;have hsm:jc (Conc.G (Frame.enter P fn args .normal) [fr,bottom]):=⟨rfl,.inl rfl,trivial⟩;have hok:∀t,Ok P S _ _:=fun t=>(m.ok.wt t).step u hS hns (fun h=>h) (he t) hsm (hup t) rfl;have hstart:uH D (bF f B (Conc.G fr [bottom]))=Eu B.length D (bF f B (Conc.G fr [bottom])):=by rw[mV,KQ];rfl
 rw[hstart];unfold bu;rw[N];have K:∀e r,aX.ch r->e.loc=.obj r->e.write=false->e.sync=true->k.X e:=fun e r h1 h2 h3 h4=>hX e r h1 ⟨h2,h3,h4⟩;refine J8 u hS K m.ok hns he (fun _=>hsm) hok m (fun t b o o1 hb hc I=>?_) hRo (dr:=Eu B.length D) (OX _ D) ?_ fun t f' w' own' j T M ha' hsz _=>?_
 .have:(wt v t).heap[b]?=some o:=hb
  rw[this] at I;rw[<-aN I];exact hc
 .intro t f' w1 w2 es hf hx hs Y h
  rw[mV,OL] at h;rw[mV,OL];rw[KQ,ER];have hR:=vY (P:=P) (S:=S) hf hx u hs hS V hv (fun c d g a b c'=>hl _ c d g a b c');have e0:=mf P (execOp fr.eval o) (wt v t) #[];rw[p t] at e0;generalize N:(execOp fr.eval o).runT P _ #[]=z at e0;obtain⟨z,es1⟩:=z;cases e0;obtain⟨b,w3,g1,g2,_⟩:=hR.ok #[] _ _ es1 (fun e he=>by simp at he) N Y;have e3:=mf P (execOp (frame f' fr).eval o) w1 (#[].map (event f'));rw[g1] at e3;have hrun:(execOp (frame f' fr).eval o).run P w1=.ok b w3:=e3.symm;have hb:b=.enter (Fr.xP fn) (vals f' args):=g2.1;subst hb;refine WQ D (by simp[frame,hm,mode]) (by simp[frame,hr]) (k:=kk.map (item f')) (rest:=rest) (i:=i) (ops:=ops) (by simp[frame,ht,item]) ho ?_ ?_ ?_ ?_ ?_ h (by trivial)
  .intro w' hh;rw[hrun] at hh;cases hh
  .intro d w' hh;rw[hrun] at hh;cases hh
  .intro d w' hh;rw[hrun] at hh;cases hh
  .intro d w' hh;rw[hrun] at hh;cases hh
  intro r s w' hh;rw[hrun] at hh;cases hh
 rw[OL];rw[ER,gK];have y:@eX _ _ kD P S Ro own' aX.ch f' (Conc.G (Frame.enter P fn args .normal) [bottom]) (wt v t) w':=@eX.mk _ _ kD _ _ _ _ _ _ _ _ _ (Ok.sub hS hfn hargs j.ok) j.inj j.fix j.rq j.held;refine acv (v:=wt v t) u hS K hP (C:=fun b=>∃o,v.heap[b]?=some o/\dB o=true) (fun x v' n b ⟨o,h1,h2⟩ o' h3=>hst x v' n b o h1 h2 o' h3) (fun b o h1 h2=>⟨o,h1,h2⟩) y M (fun t1=>hc t1) ?_;intro x f2 frx v2 w2 q n W U R L J l;obtain⟨q1,q2,q3,q4,q5⟩:=U;have Q:Ok P S (Conc.G frx [fr,bottom]) v2:=Ok.back q1 j.ok l;have O:=Ee u hS Q (by simp) W (by rw[hm];trivial);have F:frame f' fr=frame f2 fr:=by have h1:=(j.ok.bound bY bY f' f2 ⟨fun i hi=>(J i hi).symm,fun _ _=>rfl⟩).1;have h2:=bU Goroutine.callers h1;simp only[uG,Conc.G,fU,Gw] at h2;exact h2.1
 have H:({frame f' fr with defers:=D}:aC).finish (val f2 x)={frame f2 (fr.finish x) with defers:=D}:=by rw[yN,F,dQ fr x m.ok.wX.frame.items]
 rw[H];have h1:=next x v2 n l f2 w2 q ⟨O,q2,q3,q4,q5⟩ ((hR.trans T).trans R) L (fun i hi=>?_) (bM hn l)
 .unfold bu at h1
  rw[N,mV] at h1;exact h1
 have A:=bT hi hn;exact(J i A).trans ((ha' i A).trans (Z i hi))
end
section
variable{P:aH}
theorem aew{F ops i rest k o g x f}(hm:F.mode=.run)(c:F.roundOf=none)(ht:F.todo=.inRegion ops (i::rest)::k)(ho:ops[i]?=some o)(hw:Region.wanted o (yielded ops F.tmps)=true)(a:o.op=.defer {callee:=.value (.func g),args:=#[x],argTypes:=f})(m)(cs)(w):stepG P m (G F cs) w=.go (G ({F with defers:={target:=.fn (.func g) #[],args:=#[F.eval x]}::F.defers}.finish undef) cs) w #[]:=by
 have⟨fn,tmps,todo,defers,mode,kind,ro⟩:=F;subst hm c ht;unfold Conc.G stepG stepG.exec;dsimp only;rw[aY (by rw[ho];simpa using hw)];unfold stepG.oper Frame.oper?;dsimp only;rw[ho];dsimp only;generalize b:(Frame.mk fn tmps _ defers .run kind none).eval=e;have hr:(execOp e o).run P w=.ok (.defer {target:=.fn (.func g) #[],args:=#[e x]}) w:=by unfold execOp;rw[a];dsimp only;unfold resolve;subst b;simp[Frame.eval,Deferred.ofValue,Sem.run]
 have d:(execOp e o).events P w #[]=#[]:=by unfold execOp;rw[a];dsimp only;unfold resolve;subst b;simp[Frame.eval,Deferred.ofValue]
 unfold stepG.apply;simp[Sem.runT_eq,hr,d,je];have hs:=seen_none P fn;simp[GStep.after,hs]
end
section
variable[jE][aX]{P:aH}{S:aI->Prop}{ty:aZ}{Wg Ch:Nat}{Ro:Nat->Prop}{B:List aC}{k:Kind}{n0:Nat}{f0:Nat->Nat}{w0:ay}
def doneD(g:aI)(Wg:Nat):xu:={target:=.fn (.func g) #[],args:=#[.pointer (some ⟨Wg,0,none⟩)]}
theorem KW.defer{fr v ops i rest kk o g x b u}(hm:fr.mode=.run)(n:fr.roundOf=none)(ht:fr.todo=.inRegion ops (i::rest)::kk)(ho:ops[i]?=some o)(hw:Region.wanted o (yielded ops fr.tmps)=true)(p:o.op=.defer {callee:=.value (.func g),args:=#[x],argTypes:=u})(hx:ed P (Nm S) x)(y:fr.eval x=.pointer (some ⟨b,0,none⟩))(hb:b<n0)(q:f0 b=Wg)(next:KW P S ty Wg Ch Ro B [doneD g Wg] k n0 f0 w0 (fr.finish undef) v):KW P S ty Wg Ch Ro B [] k n0 f0 w0 fr v:=by
 intro f w own hp z t j hn;have s:=bT hb hn;refine Ren.Way.step hp.ok.run (fun w1=>uH [doneD g Wg] (bF (bH f v w1) B (Conc.G (fr.finish undef) [bottom]))) id (fun _=>#[]) (fun w1 hr _=>?_) (fun w1 hr _=>?_)
 .have⟨a,_,C⟩:=hp.rely hr B;refine⟨?_,⟨fun _=>⟨rfl,rfl⟩,aA _,fun _ _ _=>rfl,rfl,fun b hb=>hb,fun e he=>(by simp at he),.refl _,.refl _⟩⟩;rw[C,mV,mV];have l:Region.wanted o (yielded ops (vals (bH f v w1) fr.tmps))=true:=by rw[gz];exact hw
  have hst:=aew (P:=P) (F:={frame _ fr with defers:=[]}) (rest:=rest) (k:=kk.map (item (bH f v w1))) (by simp[frame,hm,mode]) (by simp[frame,n]) (by simp[frame,ht,item]) ho l p false B w1;have r:({frame (bH f v w1) fr with defers:=[]}:aC).eval x=.pointer (some ⟨Wg,0,none⟩):=by
   have h1:=iU (S:=Nm S) (f:=bH f v w1) a.fix (fun _ _=>rfl) fr hx;have h2:({frame (bH f v w1) fr with defers:=[]}:aC).eval x=(frame (bH f v w1) fr).eval x:=by cases x<;>rfl
   rw[h2,h1,y];have:bH f v w1 b=Wg:=by rw[eG s,j b hb,q]
   simp[addr,this]
  rw[r] at hst;have d:({frame (bH f v w1) fr with defers:=[doneD g Wg]}:aC).finish undef={frame (bH f v w1) (fr.finish undef) with defers:=[doneD g Wg]}:=by have:=dQ (f:=bH f v w1) fr undef hp.ok.wX.frame.items;rw[fP] at this;rw[yN,this]
  have A:stepG P false (uH [] (Conc.G (frame (bH f v w1) fr) B)) w1=.go (Conc.G (({frame (bH f v w1) fr with defers:=[doneD g Wg]}:aC).finish undef) B) w1 #[]:=hst;rw[A,d];rfl
 have⟨a,_,_⟩:=hp.rely hr B;have c:∀b,more own w1 w1 b->own b:=fun b hb=>hb.elim id fun h=>by omega
 have m:=hr.size;refine next _ _ _ ⟨hp.ok.put Dj,a.inj,a.fix,a.rq,fun b o hb=>(a.held b o hb).imp (PS .inl) id⟩ (z.trans ⟨hr.size,fun b hb ho=>?_,hr.cells,hr.chans⟩) (fun b hb=>?_) (fun i hi=>(eG (bT hi hn)).trans (j i hi)) hn
 .rcases ho with ho|ho
  .exact hr.keep b hb (.inl ho)
  exact ho.elim
 have⟨h1,h2⟩:=t b hb;exact⟨bT h1 m,fun h=>h2 (c b h)⟩
end
end Go.Crew
section
namespace Go
namespace Ren
open Go.Conc Go.Ev
variable[M:Mps]
variable{P:aH}{L N:List aI}{K:aC->List aC->ay->Prop}
structure ahf(P:aH)(L N:List aI)(K:aC->List aC->ay->Prop):Prop where
 tape:∀fr cs v t,K fr cs v->K fr cs (wt v t)
 ok:∀fr cs v,(@Ok _ (aV P L N) P (·∈L) (G fr cs) v->K fr cs v)->K fr cs v
theorem O5{b:aC}{a k v}(ok:@Ok _ kD P (·∈L) (G (b.atR a k) [bottom]) v):pJ (·∈L) a.tmps:=fun H d h c=>by have hb:=x9 (fun _ h=>h) _▸ok.bound;have h1:=(hb H d h h ⟨fun _ _=>rfl,c⟩).1;have h2:=bU (fun g=>g.frame.tmps) h1;exact h2
theorem iW.piece(B:iW P L N K)(A:ahf P L N K)(z:bz P)(hS:@mM _ bY P (·∈L))(qR:∀f∈L,f∉N){c}(s:wG c=true)(hc:oJ P L c=true){n}{b:aC}{a k cs w}(hb:b.roundOf=none)(hk:b.kind=.normal)(hd:a.defers=[])(hcl:pJ (·∈L) a.tmps)(h:∀t,c.wpIn Fence.wide n P (fun e a' w'=>e=.normal/\mJ w w'/\(pJ (·∈L) a'.tmps->K (b.atR a' k) cs w')) a (wt w t)):K (b.atR a (.code c::k)) cs w:=by
 refine A.ok _ _ _ fun ok=>?_;have NZ:=@Ok.NZ _ (aV P L N) P _ _ _ ok;obtain⟨nv,_,_,up,vg,bound,clean⟩:=ok;have hcs:=up;have y:@aG _ kD P (·∈L) (b.atR a [.code c]):=by
  refine @aG.mk _ kD _ _ _ (fun i hi=>?_) (fun d h1=>?_) trivial (.inl hk)
  .have h1:=hi
   obtain rfl:=eY.1 h1;exact jB.loose (Dy hc)
  have h2:d∈a.defers:=h1;rw[hd] at h2;cases h2
 have q:@Ok _ kD P (·∈L) (G (b.atR a [.code c]) [bottom]) w:=by
  refine @Ok.mk _ kD _ _ _ _ nv (@SB.mk _ kD _ _ _ y (fun x hx=>by rw[eY.1 hx];exact @pX _ kD _ _) rfl) rfl ⟨[],rfl⟩ vg ?_ clean;refine(@x9 _ kD (fun _ h=>h) _).symm▸fun H j h h' m=>⟨?_,NZ H j h h' m⟩;have C:@vals _ H aj h a.tmps=@vals _ j aj h' a.tmps:=by have h1:=(bound j j h h' ⟨fun i hi=>m.blk i hi,fun _ _=>rfl⟩).1;have h2:@vals _ j aj h a.tmps=@vals _ j aj h' a.tmps:=bU (fun g=>g.frame.tmps) h1;exact(hcl H j h m.xP).trans h2
  unfold uG;simp[yT,mi,Conc.G,fU,iw];refine⟨?_,by rw[@fQ _ _ H,@fQ _ _ j]⟩;unfold frame;simp only[Frame.atR,C,hd,iw,fU,hb,Option.map_none];rfl
 let D:dD->ay->Prop:=fun g v=>∃a',g=G (b.atR a' []) [bottom]/\mJ w v/\(pJ (·∈L) a'.tmps->K (b.atR a' k) cs v)
 have ht:@Tree _ kD P (·∈L) D (G (b.atR a [.code c]) [bottom]) w:=by
  refine SH Dh (fun _ h=>h) z hS (fun g v t _ hd=>?_) q (fun t=>?_)
  .obtain⟨a',e,h1,h2⟩:=hd
   exact⟨a',e,h1,fun hx=>A.tape _ _ _ t (h2 hx)⟩
  obtain⟨e,a',w',⟨rfl,h1,h2⟩,p⟩:=h t b [] [bottom] hb trivial (room_wide _);have hst:Steps P (lone (b.atR a [.code c]) [bottom] (wt w t)) (lone (b.atR a' []) [bottom] w'):=StepsIn.steps p;exact⟨G (b.atR a' []) [bottom],w',⟨fun⟨ch,hm⟩=>(by cases hm),by simp[Conc.G]⟩,⟨a',rfl,h1,h2⟩,hst⟩
 have o:Own (b.atR a [.code c]):=⟨rfl,hb,hd,hk,fun i hi=>by have h1:i∈[Item.code c]:=hi;obtain rfl:=eY.1 h1;exact s⟩
 have u:=abB (k:=k) (cs:=cs) z hS qR hcs (D:=D) (fun g v ⟨a',e,_⟩=>⟨by rw[e];rfl,_,e⟩) ht (.top o);have key:∀{g:dD} {v:ay},@fO _ (aV P L N) P (·∈L) (fun r' v'=>∃fr,r'=G (Gz k fr) cs/\D (G fr [bottom]) v'/\@Ok _ kD P (·∈L) (G fr [bottom]) v') g v->@fO _ (aV P L N) P (·∈L) (fun g v'=>∃fr' cs',g=G fr' cs'/\K fr' cs' v'/\mJ w v') g v:=fun{g v} ht=>by
  induction ht with
  |@done g v h=>
  obtain⟨fr,rfl,⟨a',e,h1,h2⟩,r⟩:=h;have F:fr=b.atR a' []:=bU Goroutine.frame e;subst F;exact @fO.done _ (aV P L N) _ _ _ _ _ ⟨_,_,rfl,h2 (O5 r),h1⟩
  |step hns Gs Vs Es he hsm hcl hup hrun htr l=>exact @fO.step _ (aV P L N) _ _ _ _ _ hns Gs Vs Es he hsm hcl hup hrun l
  |call hfn hargs hcs hP hc next l=>exact @fO.call _ (aV P L N) _ _ _ _ _ _ _ _ _ hfn hargs hcs hP hc l
  |enter hgood hxs hst next l=>exact @fO.enter _ (aV P L N) _ _ _ _ _ _ _ _ hgood hxs hst l
  |put hx hst next l=>exact @fO.put _ (aV P L N) _ _ _ _ _ _ _ hx hst l
 exact B _ _ _ (key u)
end Ren
namespace Crew
open Go.Conc Go.ConcN Go.Ren
variable[M:Mps][E:Ext]
theorem ags{P L N Z w0 Post}:ahf P L N (@KM M E (aV P L N) P (·∈L) Z w0 Post):=by
 refine⟨fun fr cs v t h=>?_,fun fr cs v h=>?_⟩
 .refine @KM.mk _ _ (aV P L N) _ _ _ _ _ _ _ _ fun Shr Hid o f gs w sl tr q a b=>?_
  have c:@Mirror _ _ (aV P L N) P (·∈L) Z Shr Hid o f (Conc.G fr cs) v gs w tr q:=by obtain⟨h1,⟨h2,j,i,d,g⟩,e,h8⟩:=a;refine @Mirror.mk _ _ (aV P L N) _ _ _ _ _ _ _ _ _ _ _ _ _ h1 (@eX.mk _ _ (aV P L N) _ _ _ _ _ _ _ v _ (@Ok.un _ (aV P L N) _ _ _ _ _ h2) j i ⟨d.good,d.block⟩ g) e h8
  exact @KM.at_ _ _ (aV P L N) _ _ _ _ _ _ _ _ h Shr Hid o f gs w tr q c sl b
 refine @KM.mk _ _ (aV P L N) _ _ _ _ _ _ _ _ fun Shr Hid o f gs w sl tr q a b=>?_;exact @KM.at_ _ _ (aV P L N) _ _ _ _ _ _ _ _ (h (@eX.ok _ _ (aV P L N) _ _ _ _ _ _ _ _ _ (@Mirror.uj _ _ (aV P L N) _ _ _ _ _ _ _ _ _ _ _ _ _ a))) Shr Hid o f gs w tr q a sl b
end Crew
end Go
end
namespace Go.Ren
section
variable[M:Mps]
def nJ(o:bn):List Nat:=(o.after.toList.filter (Region.binds .any)).map (·.on)
def aiV(ops:List bn)(m:Nat):Bool:=
 (List.range ops.length).all (fun i=>match ops[i]? with
  |some o=>(nJ o).all (fun j=>decide (j<i))&&(match o.guard with|some (j,_)=>decide (j<i)|none=>true)
  |none=>false)&&
 (List.range m).all (fun x=>(List.range (m+1)).any fun y=>decide (x<y)&&(match ops[y]? with|some o=>(nJ o).contains x|none=>false))&&
 (List.range ops.length).all (fun i=>decide (i<=m)||(match ops[i]? with|some o=>(nJ o).contains (i-1)|none=>false))&&decide (m<ops.length)
structure Cut(ops:List bn)(m:Nat):Prop where
 back:∀(i:Nat) (o:bn),ops[i]?=some o->∀j∈nJ o,j<i
 guard:∀(i:Nat) (o:bn) (j:Nat) (b:Bool),ops[i]?=some o->o.guard=some (j,b)->j<i
 chain:∀x,x<m->∃y o,x<y/\y<=m/\ops[y]?=some o/\x∈nJ o
 last:∀(i:Nat) (o:bn),m<i->ops[i]?=some o->i-1∈nJ o
 lt:m<ops.length
theorem agX{ops m}(h:aiV ops m=true):Cut ops m:=by
 unfold aiV at h;simp[aT,bZ,fK,jA,J4,UN] at h;have⟨⟨⟨h1,h2⟩,f⟩,d⟩:=h;have a:∀i o,ops[i]?=some o->i<ops.length:=fun i o e=>(yB.1 e).1;refine⟨fun i o e j hj=>?_,fun i o j b e hg=>?_,fun x hx=>?_,fun i o hi e=>?_,d⟩
 .have:=h1 i (a i o e);rw[e] at this;simp[aT,bZ,J4] at this;exact this.1 j hj
 .have:=h1 i (a i o e);rw[e] at this;simp[aT,bZ,J4,hg] at this;exact this.2
 .have⟨y,hy,c,hc⟩:=h2 x hx;cases e:ops[y]? with
  |none=>rw[e] at hc;cases hc
  |some o=>rw[e] at hc;exact⟨y,o,c,by omega,e,by simpa using hc⟩
 rcases f i (a i o e) with h|h
 .omega
 rw[e] at h;simpa using h
theorem zx{ops listed i}:i∈Region.ready .any ops listed↔i<ops.size/\listed.getD i true=false/\∃o,ops[i]?=some o/\∀j∈nJ o,listed.getD j false=true:=by
 unfold Region.ready;rw[kK,fK];constructor
 .rintro⟨h1,h2⟩;simp[aT] at h2;have⟨h2,a⟩:=h2;refine⟨h1,by simpa using h2,ops[i],by simp[h1],fun j hj=>?_⟩;rw[gu h1] at a;unfold nJ at hj;obtain⟨e,he,rfl⟩:=oZ.1 hj;have⟨c,b⟩:=kK.1 he;have:=(Array.all_eq_true_iff_forall_mem.1 a) e (uz.1 c);rw[b] at this;simpa using this
 rintro⟨h1,h2,o,ho,a⟩;refine⟨h1,?_⟩;rw[ho];simp only[h2,Bool.not_false,Option.map_some,Option.getD_some,Bool.true_and];refine Array.all_eq_true_iff_forall_mem.2 fun e he=>?_;cases hb:Region.binds .any e with
 |false=>rfl
 |true=>
 exact a e.on (oZ.2 ⟨e,kK.2 ⟨uz.2 he,hb⟩,rfl⟩)
theorem aa4{ops a l l'}(hs:ops.size<=a.size)(h:∀i,i∈Region.ready .any ops l↔i∈Region.ready .any a l'):Region.ready .any ops l=Region.ready .any a l':=by
 have key:∀(n c) (p q),n<=c->(∀i,(i<n/\p i=true)↔(i<c/\q i=true))->(List.range n).filter p=(List.range c).filter q:=fun n c p q hn b=>by
  obtain⟨d,rfl⟩:=Nat.le.dest hn;rw[ae4,JS];have h2:((List.range d).map (n + ·)).filter q=[]:=by rw[UE];intro x hx f;obtain⟨y,hy,rfl⟩:=oZ.1 hx;have:=(b _).2 ⟨by have:=fK.1 hy;omega,f⟩;omega
  rw[h2,o9];refine UT fun x hx=>?_;have e:=fK.1 hx;cases hp:p x with
  |true=>exact((b x).1 ⟨e,hp⟩).2.symm
  |false=>
   cases f:q x with
   |false=>rfl
   |true=>have:=((b x).2 ⟨by omega,f⟩).2;rw[hp] at this;cases this
 refine key _ _ _ _ hs fun i=>?_;have:=h i;unfold Region.ready at this;rw[kK,kK,fK,fK] at this;exact this
structure Both(ops:List bn)(m:Nat)(l l1:Array Bool):Prop where
 size:l.size=ops.length
 Zy:l1.size=m
 same:∀i,i<m->l.getD i true=l1.getD i true
 rest:∀i,m<=i->i<ops.length->l.getD i true=false
 down:∀i o,i<m->l.getD i true=true->ops[i]?=some o->∀j∈nJ o,l.getD j true=true
theorem yu{l:Array Bool}{i}(h:i<l.size):l.getD i true=l.getD i false:=by simp[Array.getD,h]
theorem wZ{l:Array Bool}{i j}(h:i<l.size):(l.setIfInBounds i true).getD j true=if j=i then true else l.getD j true:=by
 by_cases hj:j<l.size
 .simp only[Array.getD,ae7,hj,ou];by_cases e:j=i
  .subst e;simp
  rw[aU e];exact Array.getElem_setIfInBounds_ne hj (fun h=>e h.symm)
 simp only[Array.getD,ae7,hj,dif_neg,not_false_eq_true];split<;>rfl
section
variable{ops:List bn}{m:Nat}
theorem Both.blocked{l l1}(hc:Cut ops m)(h:Both ops m l l1){x}(hx:x<m)(hu:l.getD x true=false):∃o x',ops[m]?=some o/\x'∈nJ o/\l.getD x' true=false:=by
 generalize hd:m-x=d;induction d using Nat.strongRecOn generalizing x with
 |_ d ih=>
  have⟨y,o,h1,h2,c,b⟩:=hc.chain x hx;by_cases hy:y=m
  .subst hy;exact⟨o,x,c,b,hu⟩
  have a:y<m:=by omega
  refine ih _ (by omega) a ?_ rfl;cases e:l.getD y true with
  |false=>rfl
  |true=>have:=h.down y o a e c x b;rw[hu] at this;cases this
theorem Both.ready{l l1}(hc:Cut ops m)(h:Both ops m l l1){x}(hx:x<m)(hu:l.getD x true=false):Region.ready .any (ops.take m).toArray l1=Region.ready .any ops.toArray l:=by
 have k:=hc.lt;refine aa4 (by simp;omega) fun i=>?_;rw[zx,zx];have hw:∀o,ops[i]?=some o->i<m->((∀j∈nJ o,l1.getD j false=true)↔(∀j∈nJ o,l.getD j false=true)):=fun o ho hi=>by
  have hj:∀j∈nJ o,l1.getD j false=l.getD j false:=fun j hj=>by have h1:=hc.back i o ho j hj;rw[<-yu (by rw[h.Zy];omega),<-yu (by rw[h.size];omega)];exact(h.same j (by omega)).symm
  exact⟨fun h1 j b=>(hj j b)▸h1 j b,fun h1 j b=>(hj j b).symm▸h1 j b⟩
 constructor
 .rintro⟨h1,h2,o,e,d⟩;have hi:i<m:=by simp at h1;omega
  have a:ops[i]?=some o:=by simpa[Sm,hi] using e
  exact⟨by simp;omega,(h.same i hi).trans h2,o,by simpa using a,(hw o a hi).1 d⟩
 rintro⟨h1,h2,o,e,d⟩;have n:i<ops.length:=by simpa using h1
 have a:ops[i]?=some o:=by simpa using e
 by_cases hi:i<m
 .exact⟨by simp;omega,(h.same i hi).symm.trans h2,o,by simpa[Sm,hi] using a,(hw o a hi).2 d⟩
 exfalso;by_cases hm:i=m
 .subst hm;have⟨o',x',g,f,p⟩:=h.blocked hc hx hu;rw[a] at g;obtain rfl:=aN g;have c:=d x' f;have h6:=hc.back i o a x' f;rw[<-yu (by rw[h.size];omega),p] at c;cases c
 have c:=d _ (hc.last i o (by omega) a);rw[<-yu (by rw[h.size];omega),h.rest _ (by omega) (by omega)] at c;cases c
theorem Both.step{l l1}(hc:Cut ops m)(h:Both ops m l l1){i}(hi:i∈Region.ready .any (ops.take m).toArray l1):Both ops m (l.setIfInBounds i true) (l1.setIfInBounds i true)/\i<m/\l.getD i true=false:=by
 have k:=hc.lt;have⟨h1,h2,o,p,n⟩:=zx.1 hi;have hi:i<m:=by simp at h1;omega
 have g:ops[i]?=some o:=by simpa[Sm,hi] using p
 have a:i<l.size:=by rw[h.size];omega
 have d:i<l1.size:=by rw[h.Zy];exact hi
 refine⟨⟨by simpa using h.size,by simpa using h.Zy,fun j hj=>?_,fun j f e=>?_,fun j oj hj f e x hx=>?_⟩,hi,(h.same i hi).trans h2⟩
 .rw[wZ a,wZ d,h.same j hj]
 .rw[wZ a,aU (by omega)];exact h.rest j f e
 rw[wZ a] at f⊢;by_cases b:x=i
 .rw[aY b]
 rw[aU b];by_cases c:j=i
 .subst c;rw[g] at e;obtain rfl:=aN e;have h7:=hc.back j o g x hx;rw[h.same x (by omega),yu (by rw[h.Zy];omega)];exact n x hx
 rw[aU c] at f;exact h.down j oj hj f e x hx
theorem MP(hc:Cut ops m):∀(k:Nat) (t:Nat) (l:Array Bool),l.size=ops.length->k<=ops.length-m->(∀i,i<ops.length-k->l.getD i true=true)->(∀i,ops.length-k<=i->i<ops.length->l.getD i true=false)->Region.linearise.go .any ops.toArray k t l []=List.range' (ops.length-k) k
|0,t,l,_,_,_,_=>by simp[Region.linearise.go]
|k+1,t,l,hs,hk,h1,h2=>by
 have h:=hc.lt;have hj:ops.length-(k+1)<ops.length:=by omega
 have hr:Region.ready .any ops.toArray l=[ops.length-(k+1)]:=by
  have e:∀i,i∈Region.ready .any ops.toArray l↔i=ops.length-(k+1):=fun i=>by
   rw[zx];constructor
   .rintro⟨z,g,o,v,u⟩;have w:i<ops.length:=by simpa using z
    have c:ops[i]?=some o:=by simpa using v
    by_cases hi:i<ops.length-(k+1)
    .rw[h1 i hi] at g;cases g
    by_cases he:i=ops.length-(k+1)
    .exact he
    exfalso;have f:=u (i-1) (hc.last i o (by omega) c);rw[<-yu (by rw[hs];omega),h2 (i-1) (by omega) (by omega)] at f;cases f
   rintro rfl;refine⟨by simpa using hj,h2 _ (aA _) hj,ops[ops.length-(k+1)],by simp[hj],fun x hx=>?_⟩;have:=hc.back (ops.length-(k+1)) ops[ops.length-(k+1)] (oV hj) x hx;rw[<-yu (by rw[hs];omega)];exact h1 x this
  have key:∀(n:Nat) (p:Nat->Bool) (j:Nat),(∀i,(i<n/\p i=true)↔i=j)->(List.range n).filter p=[j]:=fun n p j hp=>by
   have hj:=(hp j).2 rfl;obtain⟨d,rfl⟩:∃d,n=(j+1)+d:=⟨n-(j+1),by omega⟩;rw[ae4,JS,Y3,JS];have s:(List.range j).filter p=[]:=by rw[UE];intro x hx a;have:=(hp x).1 ⟨by have:=fK.1 hx;omega,a⟩;have:=fK.1 hx;omega
   have r:((List.range d).map (j+1 + ·)).filter p=[]:=by rw[UE];intro x hx a;obtain⟨y,hy,rfl⟩:=oZ.1 hx;have:=(hp (j+1+y)).1 ⟨by have:=fK.1 hy;omega,a⟩;omega
   rw[s,r];simp[hj.2]
  refine key _ _ _ fun i=>?_;have:=e i;unfold Region.ready at this;rw[kK,fK] at this;exact this
 simp only[Region.linearise.go];change (match(Region.ready .any ops.toArray l)[t % (Region.ready .any ops.toArray l).length]? with
  |some i=>Region.linearise.go .any ops.toArray k (t / (Region.ready .any ops.toArray l).length) (l.setIfInBounds i true) [i]
  |none=>[].reverse)=_
 rw[hr];simp only[List.length_singleton,Nat.mod_one,List.getElem?_cons_zero,Nat.div_one];rw[J5];have b:ops.length-(k+1)<l.size:=by rw[hs];exact hj
 rw[MP hc k t _ (by simpa using hs) (by omega) (fun i hi=>by
  rw[wZ b];split
  .rfl
  exact h1 i (by omega)) (fun i h3 q=>by rw[wZ b,aU (by omega)];exact h2 i (by omega) q)]
 rw[UR,List.singleton_append,uw];congr 2;omega
theorem OH(hc:Cut ops m):∀(f:Nat) (t:Nat) (l l1:Array Bool),Both ops m l l1->((List.range m).filter fun i=>!l.getD i true).length=f->∃t',Region.linearise.go .any ops.toArray (f+(ops.length-m)) t l []=Region.linearise.go .any (ops.take m).toArray f t l1 []++List.range' m (ops.length-m)/\t'=t
|0,t,l,l1,h,hf=>by
 have w:=hc.lt;have q:∀i,i<m->l.getD i true=true:=fun i hi=>by have h1:((List.range m).filter fun i=>!l.getD i true)=[]:=aaC hf;rw[UE] at h1;simpa using h1 i (fK.2 hi)
 refine⟨t,?_,rfl⟩;have e:=MP hc (ops.length-m) t l h.size (aA _) (fun i hi=>q i (by omega)) (fun i h1 h2=>h.rest i (by omega) h2);rw[DF,e];simp only[Region.linearise.go,List.reverse_nil,List.nil_append];congr 1;omega
|f+1,t,l,l1,h,hf=>by
 have w:=hc.lt;have F:∃x,x<m/\l.getD x true=false/\∀y,y<x->l.getD y true=true:=by
  have h1:((List.range m).filter fun i=>!l.getD i true)≠[]:=fun e=>by rw[e] at hf;simp at hf
  have⟨x0,v⟩:=List.exists_mem_of_ne_nil _ h1;have b:=kK.1 v;have key:∀n,∀x,x=n->x<m->l.getD x true=false->∃x,x<m/\l.getD x true=false/\∀y,y<x->l.getD y true=true:=fun n=>by
   induction n using Nat.strongRecOn with
   |_ n D=>
   intro x hx u hu;subst hx;by_cases hh:∀y,y<x->l.getD y true=true
   .exact⟨x,u,hu,hh⟩
   have⟨y,hy⟩:=Classical.not_forall.1 hh;have⟨s,r⟩:=Classical.not_imp.1 hy;exact D y s y rfl (by omega) (by simpa using r)
  exact key x0 x0 rfl (fK.1 b.1) (by simpa using b.2)
 have⟨x,hx,hu,k⟩:=F;have hr:=h.ready hc hx hu;have d:x∈Region.ready .any (ops.take m).toArray l1:=by rw[hr];refine zx.2 ⟨by simp;omega,hu,ops[x],by simp,fun j hj=>?_⟩;have:=hc.back x ops[x] (by simp) j hj;rw[<-yu (by rw[h.size];omega)];exact k j this
 have hne:(Region.ready .any (ops.take m).toArray l1)≠[]:=fun e=>by rw[e] at d;cases d
 have g:0<(Region.ready .any (ops.take m).toArray l1).length:=List.length_pos_iff.2 hne;have c:=U1 t g;have hi:(Region.ready .any (ops.take m).toArray l1)[t % (Region.ready .any (ops.take m).toArray l1).length]∈Region.ready .any (ops.take m).toArray l1:=xJ c;generalize C:(Region.ready .any (ops.take m).toArray l1)[t % (Region.ready .any (ops.take m).toArray l1).length]=i at hi;have p:(Region.ready .any (ops.take m).toArray l1)[t % (Region.ready .any (ops.take m).toArray l1).length]?=some i:=by rw[oV c,C]
 have⟨hb,B,z⟩:=h.step hc hi;have A:i<l.size:=by rw[h.size];omega
 have a:((List.range m).filter fun j=>!(l.setIfInBounds i true).getD j true).length=f:=by
  have E:((List.range m).filter fun j=>!(l.setIfInBounds i true).getD j true)=((List.range m).filter fun j=>!l.getD j true).erase i:=by
   rw[List.Nodup.erase_eq_filter ((List.nodup_range).filter _),List.filter_filter];refine UT fun j _=>?_;rw[wZ A];by_cases o:j=i
   .subst o;simp
   simp[o]
  rw[E,List.length_erase_of_mem (kK.2 ⟨fK.2 B,by simp[z]⟩),hf];rfl
 have⟨_,e,_⟩:=OH hc f (t / (Region.ready .any (ops.take m).toArray l1).length) _ _ hb a;refine⟨t,?_,rfl⟩;rw[show f+1+(ops.length-m)=(f+(ops.length-m))+1 by omega];simp only[Region.linearise.go];change (match(Region.ready .any ops.toArray l)[t % (Region.ready .any ops.toArray l).length]? with
  |some i=>Region.linearise.go .any ops.toArray (f+(ops.length-m)) (t / (Region.ready .any ops.toArray l).length) (l.setIfInBounds i true) [i]
  |none=>[].reverse)=(match(Region.ready .any (ops.take m).toArray l1)[t % (Region.ready .any (ops.take m).toArray l1).length]? with
  |some i=>Region.linearise.go .any (ops.take m).toArray f (t / (Region.ready .any (ops.take m).toArray l1).length) (l1.setIfInBounds i true) [i]
  |none=>[].reverse)++_
 rw[<-hr,p];dsimp only;rw[J5,e,J5 _ _ _ _ _ [i],Lj]
theorem abq(hc:Cut ops m)(t):Region.schedule true ops.toArray t=Region.schedule true (ops.take m).toArray t++List.range' m (ops.length-m):=by
 have b:=hc.lt;simp only[Region.schedule,Bool.true_or,je,Region.linearise];have hb:Both ops m (Array.replicate ops.length false) (Array.replicate m false):=by
  have hf:∀n i,i<n->(Array.replicate n false).getD i true=false:=fun n i h=>by simp[Array.getD,h]
  refine⟨by simp,by simp,fun i hi=>by rw[hf _ _ (by omega),hf _ _ hi],fun i _ h=>hf _ _ h,fun i o hi h=>?_⟩;rw[hf _ _ (by omega)] at h;cases h
 have a:((List.range m).filter fun i=>!(Array.replicate ops.length false).getD i true).length=m:=by rw[List.filter_eq_self.2 (fun i hi=>by have:=fK.1 hi;simp[Array.getD];omega),List.length_range]
 have⟨_,e,_⟩:=OH hc m t _ _ hb a;have d:ops.toArray.size=m+(ops.length-m):=by simp;omega
 have c:(ops.take m).toArray.size=m:=by simp;omega
 rw[c,<-e,<-d];congr 1
theorem QW(md:Region.Mode)(os:Array bn):∀(f t:Nat) (l:Array Bool),∀i∈Region.linearise.go md os f t l [],i<os.size
|0,t,l,i,h=>by simp[Region.linearise.go] at h
|f+1,t,l,i,h=>by
 simp only[Region.linearise.go] at h;split at h
 .rename_i j hj;rw[J5] at h;simp only[UR,List.singleton_append,dW] at h;rcases h with rfl|h
  .exact fK.1 (kK.1 (uy hj)).1
  exact QW md os f _ _ i h
 simp at h
end
end
open Go.Conc Go.Ev
section
variable[M:Mps]{P:aH}{S:aI->Prop}
theorem ajc{cs B fr fr' ops b l l' p n}(ht:fr.todo=.inRegion ops l::p)(f:fr'.todo=.inRegion b l'::n)(hfn:fr'.fn=fr.fn)(hk:fr'.kind=fr.kind){s s' w w1 g1 es}(hr:eF P id (kd P S) (kR id (kd P S)) s s' w w)(h:stepG.apply P true fr B none s w=.go g1 w1 es)(hsm:jc g1):(∃x,g1=G (fr.finish x) B/\stepG.apply P true fr' cs none s w=.go (G (fr'.finish x) cs) w1 es)\/(∃top,g1=G top (fr::B)/\stepG.apply P true fr' cs none s w=.go (G top (fr'::cs)) w1 es):=by
 unfold stepG.apply at h⊢;simp only[je,hfn,hk] at h⊢;generalize hrun:s.runT P w #[]=r at h⊢;have⟨r,o⟩:=r;cases r with
 |halt x v2=>
  have⟨e,_⟩:=hr.noInit _ _ _ _ hrun;cases x with
  |panic v=>obtain⟨rfl,_,_⟩:=h;have:=hsm.mode;have i:XZ (fr.raise [{v,recovered:=false}]):=zy _ _;have⟨c,hc⟩:=i;rw[hc] at this;exact this.elim
  |unsupported u=>
   cases u with
   |initOrder g=>exact absurd rfl (e.1 g)
   |_=>simp[GStep.after] at h
  |stuck s=>simp[GStep.after] at h
  |_=>cases e.2
 |ok a v2=>
  have⟨_,_,b0,_,hok,j⟩:=hr.size _ _ _ _ hrun;cases a with
  |value x=>
  simp[GStep.after,jG] at h⊢;obtain⟨rfl,rfl,rfl⟩:=h;exact .inl ⟨x,rfl,rfl,rfl,rfl⟩
  |skip=>
  simp[GStep.after,jG] at h⊢;obtain⟨rfl,rfl,rfl⟩:=h;exact .inl ⟨undef,rfl,rfl,rfl,rfl⟩
  |enter g as=>
  rw[ht] at h;rw[f];simp[GStep.after,jG] at h⊢;obtain⟨rfl,rfl,rfl⟩:=h;exact .inr ⟨_,rfl,rfl,rfl,rfl⟩
  |round l g tmps as body=>
  simp[GStep.after,jG] at h⊢;obtain⟨rfl,rfl,rfl⟩:=h;exact .inr ⟨_,rfl,rfl,rfl,rfl⟩
  |defer d=>exact j.elim
  |_=>cases hok
section
variable(ops:List bn)(m id:Nat)(d:Bool)(k:List ig)(cs:List aC)
abbrev rest':List Nat:=List.range' m (ops.length-m)
abbrev qQ(fr:aC)(t:List ig):aC:={fr with todo:=t}
inductive EI:dD->dD->Prop
 |start {fr:aC} (h:Own fr) (ht:fr.todo=[.code (.region id (ops.take m).toArray d)]):EI (G fr [bottom]) (G (qQ fr (.code (.region id ops.toArray d)::k)) cs)
 |mid {fr:aC} {l:List Nat} (h:Own fr) (ht:fr.todo=[.inRegion (ops.take m).toArray l]) (hl:∀i∈l,i<m):EI (G fr [bottom]) (G (qQ fr (.inRegion ops.toArray (l++rest' ops m)::k)) cs)
 |over {fr:aC} (h:Own fr) (ht:fr.todo=[]):EI (G fr [bottom]) (G (qQ fr (.inRegion ops.toArray (rest' ops m)::k)) cs)
 |deep {t fr:aC} {i:Nat} {r:List Nat} (l:List aC) (h:Own fr) (ht:fr.todo=[.inRegion (ops.take m).toArray (i::r)]) (hl:∀j∈i::r,j<m):EI (G t (l++[fr,bottom])) (G t (l++qQ fr (.inRegion ops.toArray (i::r++rest' ops m)::k)::cs))
end
section
variable{ops:List bn}{m id:Nat}{d:Bool}{k:List ig}{cs:List aC}
theorem EI.deep'{t fr i r}(l)(h:Own fr)(ht:fr.todo=[.inRegion (ops.take m).toArray (i::r)])(hl:∀j∈i::r,j<m){C a}(e:C=l++[fr,bottom])(b:a=l++qQ fr (.inRegion ops.toArray (i::r++rest' ops m)::k)::cs):EI ops m id d k cs (G t C) (G t a):=by subst e b;exact .deep l h ht hl
theorem EI.mid'{fr l}(h:Own fr)(ht:fr.todo=[.inRegion (ops.take m).toArray l])(hl:∀i∈l,i<m){fr'}(e:fr'=qQ fr (.inRegion ops.toArray (l++rest' ops m)::k)):EI ops m id d k cs (G fr [bottom]) (G fr' cs):=by subst e;exact .mid h ht hl
theorem aif{fr}(h:Own fr){os l}(tmps):Own {fr with tmps,todo:=[.inRegion os l]}:=⟨h.mode,h.round,h.defers,h.kind,fun i hi=>by obtain rfl:=eY.1 hi;rfl⟩
theorem fin_at{fr}(h:Own fr){i r}(ht:fr.todo=[.inRegion (ops.take m).toArray (i::r)])(hi:i<m)(x):∃fr1,fr.finish x=fr1/\Own fr1/\fr1.todo=[.inRegion (ops.take m).toArray r]/\(qQ fr (.inRegion ops.toArray (i::r++rest' ops m)::k)).finish x=qQ fr1 (.inRegion ops.toArray (r++rest' ops m)::k):=by
 have⟨a,tmps,todo,defers,md,kind,ro⟩:=fr;subst ht;have he:(ops.take m).toArray[i]?=ops.toArray[i]?:=by simp[hi]
 refine⟨_,rfl,?_,rfl,?_⟩
 .unfold Frame.finish;dsimp only
  split<;>exact aif h _
 unfold Frame.finish;dsimp[List.cons_append];rw[he]
theorem abK(hc:Cut ops m)(D:d=true->P.follows .mixedOrders=true)(L:bz P)(hS:@mM _ bY P S){g r g1 v v1 es}(hi:EI ops m id d k cs g r)(hn:NV (kd P S) v)(hg:SB P S g)(hl:∀x,g.frame.about P v=some x->S x)(K:∀fr,g=G fr [bottom]->fr.todo≠[])(H:∀fr os,g=G fr [bottom]->fr.todo≠[.inRegion os []])(h:stepG P true g v=.go g1 v1 es)(hsm:jc g1):∃W,stepG P true r v=.go W v1 es/\EI ops m id d k cs g1 W:=by
 have Z:=hc.lt;cases hi with
 |@over fr ho ht=>exact absurd ht (K fr rfl)
 |@start fr ho ht=>
  obtain⟨a,tmps,todo,defers,md,kind,ro⟩:=fr;obtain⟨h1,h2,U,h4,_⟩:=ho;subst h1 h2 U h4 ht;cases d with
  |false=>
  have u:stepG P true (G ⟨a,tmps,[.code (.region id (ops.take m).toArray false)],[],.run,.normal,none⟩ [bottom]) v=.go _ v #[]:=rfl;rw[u,jG] at h;obtain⟨rfl,rfl,rfl⟩:=h;refine⟨_,rfl,.mid' ⟨rfl,rfl,rfl,rfl,fun i hi=>by obtain rfl:=eY.1 hi;rfl⟩ rfl (fun i hi=>?_) ?_⟩
  .have:=fK.1 hi;simp at this;omega
  have p:List.range ops.toArray.size=List.range (ops.take m).toArray.size++rest' ops m:=by
   have:ops.toArray.size=m+(ops.length-m):=by simp;omega
   rw[this,ae4];have:(ops.take m).toArray.size=m:=by simp;omega
   rw[this];congr 1;simp[List.range'_eq_map_range]
  simp only[qQ,p]
  |true=>
  have u:∀(os) (t) (cs),stepG P true (G ⟨a,tmps,.code (.region id os true)::t,[],.run,.normal,none⟩ cs) v=.go (G ⟨a,tmps,.inRegion os (Region.schedule (P.follows .mixedOrders) os (v.tape v.drawn (.order a id)))::t,[],.run,.normal,none⟩ cs) {v with drawn:=v.drawn+1} #[]:=fun os t cs=>by simp[stepG,stepG.exec,Conc.G,choose,Sem.run,Question.forced,Question.cut]
  rw[u,jG] at h;obtain⟨rfl,rfl,rfl⟩:=h;refine⟨_,u ops.toArray k cs,.mid' ⟨rfl,rfl,rfl,rfl,fun i hi=>by obtain rfl:=eY.1 hi;rfl⟩ rfl (fun i hi=>?_) ?_⟩
  .rw[D rfl] at hi
   have:=QW _ _ _ _ _ i hi
   simp at this;omega
  simp[qQ,D rfl];rw[abq hc]
 |@mid fr l ho ht f=>
  cases l with
  |nil=>exact absurd ht (H fr _ rfl)
  |cons i rest=>
   have y:=f i (fZ ..);have o:∀j∈rest,j<m:=fun j hj=>f j (jy _ hj);have Q:i<ops.length:=by omega
   have C:ops.toArray[i]?=some ops[i]:=by simp
   have w:(ops.take m).toArray[i]?=some ops[i]:=by simp[y]
   have hw:Region.wanted ops[i] (yielded ops.toArray fr.tmps)=Region.wanted ops[i] (yielded (ops.take m).toArray fr.tmps):=by
    unfold Region.wanted;cases T:ops[i].guard with
    |none=>rfl
    |some Y=>
    obtain⟨j,b⟩:=Y;have hj:=hc.guard i ops[i] j b (oV Q) T;have e:ops.toArray[j]?=(ops.take m).toArray[j]?:=by simp[show j<m by omega]
    dsimp only;unfold yielded;rw[e]
   have J:=fun x=>fin_at (k:=k) ho ht y x;have n:∀x,EI ops m id d k cs (G (fr.finish x) [bottom]) _:=fun x=>by obtain⟨fr1,u,p,s,B⟩:=J x;rw[u];exact .mid' p s o B
   have hm:=ho.mode;have N:=ho.round;obtain⟨a,tmps,todo,defers,md,kind,ro⟩:=fr;subst hm N ht;have hs:=jl hn;by_cases A:Region.wanted ops[i] (yielded (ops.take m).toArray tmps)=true
   .have R:=hg.frame.items (.inRegion (ops.take m).toArray (i::rest)) (fZ ..)
    have O:=(R _ (kP w)).resolve_right (fun h=>h);have hrun:=vY lX FQ L hs hS O (fun _ _=>lL _) (fun c d g h1 h2 U=>hl g (by simp only[Conc.G,Frame.about,w,h1];rw[h2];exact U))
    have e:∀(os) (l) (t) (cs),os[i]?=some ops[i]->Region.wanted ops[i] (yielded os tmps)=true->stepG P true (G ⟨a,tmps,.inRegion os (i::l)::t,defers,.run,kind,none⟩ cs) v=stepG.apply P true ⟨a,tmps,.inRegion os (i::l)::t,defers,.run,kind,none⟩ cs none (execOp (Frame.eval ⟨a,tmps,.inRegion os (i::l)::t,defers,.run,kind,none⟩) ops[i]) v:=fun os l t cs h1 h2=>by simp only[stepG,stepG.exec,Conc.G,stepG.oper,Frame.oper?,h1,h2,Option.map_some,Option.getD_some,je]
    have u:=e (ops.take m).toArray rest [] [bottom] w A;have p:=e ops.toArray (rest++rest' ops m) k cs C (hw.trans A);have ev:Frame.eval ⟨a,tmps,.inRegion ops.toArray (i::(rest++rest' ops m))::k,defers,.run,kind,none⟩=Frame.eval ⟨a,tmps,[.inRegion (ops.take m).toArray (i::rest)],defers,.run,kind,none⟩:=funext fun x=>by cases x<;>rfl
    rw[ev] at p;rw[u] at h;rcases ajc (fr:=⟨a,tmps,[.inRegion (ops.take m).toArray (i::rest)],defers,.run,kind,none⟩) (fr':=⟨a,tmps,.inRegion ops.toArray (i::(rest++rest' ops m))::k,defers,.run,kind,none⟩) rfl rfl rfl rfl hrun h hsm with⟨x,rfl,s⟩|⟨top,rfl,s⟩
    .exact⟨_,p.trans s,n x⟩
    exact⟨_,p.trans s,.deep' [] ho rfl f rfl rfl⟩
   have z:Region.wanted ops[i] (yielded (ops.take m).toArray tmps)=false:=by simpa using A
   have e:∀(os) (l) (t) (cs),os[i]?=some ops[i]->Region.wanted ops[i] (yielded os tmps)=false->stepG P true (G ⟨a,tmps,.inRegion os (i::l)::t,defers,.run,kind,none⟩ cs) v=.go (G (Frame.finish ⟨a,tmps,.inRegion os (i::l)::t,defers,.run,kind,none⟩ undef) cs) v #[]:=fun os l t cs h1 h2=>by simp[stepG,stepG.exec,Conc.G,h1,h2]
   rw[e _ _ _ _ w z,jG] at h;obtain⟨rfl,rfl,rfl⟩:=h;exact⟨_,e ops.toArray (rest++rest' ops m) k cs C (hw.trans z),n undef⟩
 |@deep t fr i rest l ho ht f=>
  have y:=f i (fZ ..);have o:∀j∈rest,j<m:=fun j hj=>f j (jy _ hj);have F:bf fr.mode:=by rw[ho.mode];trivial
  have E:=F;have n:∀x,EI ops m id d k cs (G (fr.finish x) [bottom]) (G ((qQ fr (.inRegion ops.toArray (i::rest++rest' ops m)::k)).finish x) cs):=fun x=>by obtain⟨fr1,u,p,s,B⟩:=fin_at ho ht y x;rw[u];exact .mid' p s o B
  cases l with
  |nil=>
  have hr:=LV (fr:=t) (c:=fr) (c':=qQ fr (.inRegion ops.toArray (i::rest++rest' ops m)::k)) (r:=[bottom]) (r':=cs) L hS hn hg.frame F E hl;have h':stepG P true (G t [fr,bottom]) v=.go g1 v1 es:=h;rw[h'] at hr;obtain⟨V,p,hs⟩:=hr;refine⟨V,p,?_⟩;rcases hs with⟨pre,fr1,rfl,rfl⟩|⟨c,q,c',X,s,B,hs⟩
  .exact .deep pre ho ht f
  obtain⟨rfl,rfl⟩:=jF s;obtain⟨rfl,rfl⟩:=jF B;rcases hs with⟨x,rfl,rfl⟩|⟨rfl,rfl⟩
  .exact n x
  exact .mid' ho ht f rfl
  |cons c0 l=>
  have I:bf c0.mode:=(hg.callers c0 (fZ ..)).mode;have hr:=LV (P:=P) (S:=S) (fr:=t) (c:=c0) (c':=c0) (r:=l++[fr,bottom]) (r':=l++qQ fr (.inRegion ops.toArray (i::rest++rest' ops m)::k)::cs) L hS hn hg.frame I I hl;have h':stepG P true (G t (c0::(l++[fr,bottom]))) v=.go g1 v1 es:=h;rw[h'] at hr;obtain⟨V,p,hs⟩:=hr;refine⟨V,p,?_⟩;rcases hs with⟨pre,fr1,rfl,rfl⟩|⟨c,q,c',X,s,B,hs⟩
  .exact .deep' (pre++c0::l) ho ht f (by simp) (by simp)
  obtain⟨rfl,rfl⟩:=jF s;obtain⟨rfl,rfl⟩:=jF B;rcases hs with⟨x,rfl,rfl⟩|⟨rfl,rfl⟩
  .exact .deep l ho ht f
  exact .deep l ho ht f
end
end
section
variable[M:Mps]
section
variable{P:aH}{L N:List aI}{ops:List bn}{m id:Nat}{d:Bool}{k:List ig}{cs:List aC}
theorem adJ(hc:Cut ops m)(qR:∀f∈L,f∉N){g r v}(hi:EI ops m id d k cs g r)(q:∀fr,g=G fr [bottom]->fr.todo≠[])(n:∀fr os,g=G fr [bottom]->fr.todo≠[.inRegion os []])(ok:@Ok _ kD P (·∈L) g v):@Fit (aV P L N) P r:=by
 have B:=hc.lt;have s:∀v' x,g.frame.about P v'=some x->x∈L:=fun v' x hx=>IJ ok.wX (Dh _) (fun _ h=>h) (x9 (fun _ h=>h) _▸ok.bound) hx;have b:∀ops i rest k' o,g.frame.todo=.inRegion ops _::k'->ops[i]?=some o->pG P _ o:=fun ops i rest k' o h1 h2=>by have y:=ok.wX.frame.items (.inRegion ops (i::rest)) (by rw[h1];exact fZ ..);exact(y o (kP h2)).resolve_right (fun h=>h)
 cases hi with
 |@over fr ho ht=>exact absurd ht (q fr rfl)
 |@start fr ho ht=>exact @WI _ P (aV P L N) _ _ _ k ho.mode rfl trivial
 |@mid fr l ho ht p=>
  cases l with
  |nil=>exact absurd ht (n fr _ rfl)
  |cons i rest=>
  have w:=p i (fZ ..);have C:i<ops.length:=by omega
  have c:ops.toArray[i]?=some ops[i]:=by simp
  have e:(ops.take m).toArray[i]?=some ops[i]:=by simp[w]
  refine⟨Df fun A j rest' k' o h1 h2=>?_,fun v' x hx=>?_⟩
  .have z:=h1
   have⟨y,_⟩:=jF z;obtain⟨rfl,D⟩:=PQ y;obtain⟨rfl,_⟩:=jF D;rw[c] at h2;obtain rfl:=aN h2;exact b _ i rest [] _ ht e
  refine qR x (s v' x ?_);have⟨a,tmps,todo,defers,md,kind,ro⟩:=fr;have hm:=ho.mode;subst hm ht;have u:Frame.about P v' ⟨a,tmps,.inRegion ops.toArray (i::(rest++List.range' m (ops.length-m)))::k,defers,.run,kind,ro⟩=some x:=hx;have E:Frame.eval ⟨a,tmps,.inRegion ops.toArray (i::(rest++List.range' m (ops.length-m)))::k,defers,.run,kind,ro⟩=Frame.eval ⟨a,tmps,[.inRegion (ops.take m).toArray (i::rest)],defers,.run,kind,ro⟩:=funext fun x=>by cases x<;>rfl
  show Frame.about P v' ⟨a,tmps,[.inRegion (ops.take m).toArray (i::rest)],defers,.run,kind,ro⟩=some x;rw[<-u];simp[Frame.about,e,c,E]
 |@deep t fr i rest l ho ht p=>exact⟨Df fun ops i rest k' o h1 h2=>b ops i rest k' o h1 h2,fun v' x hx=>qR x (s v' x hx)⟩
theorem Yf(hc:Cut ops m)(hmx:d=true->P.follows .mixedOrders=true)(hz:bz P)(hS:@mM _ bY P (·∈L))(qR:∀f∈L,f∉N)(hcs:∃l,cs=l++[bottom]){D}(hD:∀g v,D g v->g.frame.mode=.run/\g.frame.todo=[]/\∃fr,g=G fr [bottom]){g v}(ht:@Tree _ kD P (·∈L) D g v):∀{r},EI ops m id d k cs g r->@fO _ (aV P L N) P (·∈L) (fun r' v'=>∃fr,r'=G (qQ fr (.inRegion ops.toArray (rest' ops m)::k)) cs/\D (G fr [bottom]) v'/\@Ok _ kD P (·∈L) (G fr [bottom]) v') r v:=by
 induction ht with
 |@done g v ok h=>
  intro r hi;refine @fO.done _ (aV P L N) _ _ _ _ _ ?_;have⟨_,h2,fr0,e0⟩:=hD _ _ h;cases hi with
  |@start fr ho ht=>have h3:fr.todo=[]:=h2;rw[ht] at h3;cases h3
  |@mid fr l ho ht hlm=>have h3:fr.todo=[]:=h2;rw[ht] at h3;cases h3
  |@over fr ho ht=>exact⟨fr,rfl,h,ok⟩
  |@deep t fr i rest l ho ht hlm=>
  exfalso
  have:=bU (fun g=>g.callers.length) e0
  simp[Conc.G] at this
 |@step g v ok hns Gs Vs Es he hsm hch ih=>
  intro r hi;by_cases hend:∃fr,g=G fr [bottom]/\fr.todo=[]
  .obtain⟨fr,rfl,ht⟩:=hend
   have how:Own fr/\r=G (qQ fr (.inRegion ops.toArray (rest' ops m)::k)) cs:=by
    generalize hg:G fr [bottom]=g at hi;cases hi with
    |@start fr0 ho ht0=>
    obtain rfl:fr0=fr:=by have:=bU Goroutine.frame hg;exact this.symm
    rw[ht] at ht0;cases ht0
    |@mid fr0 l ho ht0 hlm=>
    obtain rfl:fr0=fr:=by have:=bU Goroutine.frame hg;exact this.symm
    rw[ht] at ht0;cases ht0
    |@over fr0 ho ht0=>
    obtain rfl:fr0=fr:=by have:=bU Goroutine.frame hg;exact this.symm
    exact⟨ho,rfl⟩
    |@deep t fr0 i rest l ho ht0 hlm=>
    exfalso
    have:=bU (fun g=>g.callers.length) hg
    simp[Conc.G] at this
   obtain⟨ho,rfl⟩:=how;have hd:=QU (fun g v h=>(hD g v h).1) ho ht (@Tree.step _ kD _ _ _ _ _ ok hns Gs Vs Es he hsm hch);exact @fO.done _ (aV P L N) _ _ _ _ _ ⟨fr,rfl,hd,ok⟩
  have hend':∀fr,g=G fr [bottom]->fr.todo≠[]:=fun fr e1 e2=>hend ⟨fr,e1,e2⟩;have hfr:∀fr,g=G fr [bottom]->fr.mode=.run:=fun fr hg=>by
   cases hi with
   |@start fr0 ho ht0=>obtain rfl:=bU Goroutine.frame hg;exact ho.mode
   |@mid fr0 l ho ht0 hlm=>obtain rfl:=bU Goroutine.frame hg;exact ho.mode
   |@over fr0 ho ht0=>obtain rfl:=bU Goroutine.frame hg;exact ho.mode
   |@deep t fr0 i rest l ho ht0 hlm=>
   exfalso
   have:=bU (fun g=>g.callers.length) hg
   simp[Conc.G] at this
  by_cases hmid:∃fr os,g=G fr [bottom]/\fr.todo=[.inRegion os []]
  .have⟨fr,os,hg,ht⟩:=hmid
   have e1:stepG P true (G fr [bottom]) (wt v v.tape)=.go (G (qQ fr []) [bottom]) (wt v v.tape) #[]:=by have hm:=hfr fr hg;have⟨fn0,tmps,todo,defers,md,kind,ro⟩:=fr;subst hm ht;rfl
   have e2:=he v.tape;rw[hg,e1,jG] at e2;have hv:=e2.2.1.symm;have hover:EI ops m id d k cs (Gs v.tape) r:=by
    rw[<-e2.1];cases hi with
    |@start fr0 ho ht0=>
    obtain rfl:fr0=fr:=bU Goroutine.frame hg;rw[ht] at ht0;cases ht0
    |@over fr0 ho ht0=>
    obtain rfl:fr0=fr:=bU Goroutine.frame hg;rw[ht] at ht0;cases ht0
    |@mid fr0 l ho ht0 hlm=>
    obtain rfl:fr0=fr:=bU Goroutine.frame hg;rw[ht] at ht0;have⟨h3,_⟩:=jF ht0;obtain⟨rfl,rfl⟩:=PQ h3;exact .over ⟨ho.mode,ho.round,ho.defers,ho.kind,fun i hi=>by cases hi⟩ rfl
    |@deep t fr0 i rest l ho ht0 hlm=>
    exfalso
    have:=bU (fun g=>g.callers.length) hg
    simp[Conc.G] at this
   have:=ih v.tape hover
   rw[hv] at this;exact this
  have hmid':∀fr os,g=G fr [bottom]->fr.todo≠[.inRegion os []]:=fun fr os e1 e2=>hmid ⟨fr,os,e1,e2⟩;have hstep:=fun t=>abK hc hmx hz hS hi (ok.wt t).nv ok.wX (ok.leads hns _) hend' hmid' (he t) (hsm t);have h1:=fun t=>fB (hstep t);have hshape:∀{g1 r1},EI ops m id d k cs g1 r1->(∃l,r1.callers=l++[bottom])/\r1.status=.running/\r1.dying=none/\(bf g1.frame.mode->bf r1.frame.mode):=fun{g1 r1} hi=>by
   obtain⟨l0,rfl⟩:=hcs;cases hi with
   |start ho ht=>exact⟨⟨l0,rfl⟩,rfl,rfl,fun h=>h⟩
   |mid ho ht hl=>exact⟨⟨l0,rfl⟩,rfl,rfl,fun h=>h⟩
   |over ho ht=>exact⟨⟨l0,rfl⟩,rfl,rfl,fun h=>h⟩
   |@deep t fr i r l ho ht hl=>exact⟨⟨l++qQ fr (.inRegion ops.toArray (i::r++rest' ops m)::k)::l0,by simp[Conc.G]⟩,rfl,rfl,fun h=>h⟩
  refine @fO.step _ (aV P L N) _ _ _ _ _ (adJ hc qR hi hend' hmid' ok) (fun t=>Classical.choose (hstep t)) Vs Es (fun t=>(h1 t).1) (fun t=>?_) (fun t _=>(hch t).ok.clean) (fun t=>(hshape (h1 t).2).1) (fun t=>(hshape (h1 t).2).2.1) (fun t=>ih t (h1 t).2);have hq:=hshape (h1 t).2;exact⟨hq.2.2.1,.inl hq.2.1,hq.2.2.2 (hsm t).mode⟩
variable{K:aC->List aC->ay->Prop}
theorem iW.acU(E:iW P L N K)(C:ahf P L N K)(B:bz P)(hS:@mM _ bY P (·∈L))(qR:∀f∈L,f∉N)(u:d=true->P.follows .mixedOrders=true)(p:aiV ops m=true)(hc:oJ P L (.region id (ops.take m).toArray d)=true){n}{b:aC}{a w}(hb:b.roundOf=none)(hk:b.kind=.normal)(hd:a.defers=[])(hcl:pJ (·∈L) a.tmps)(h:∀t,(Code.region id (ops.take m).toArray d).wpIn Fence.wide n P (fun e a' w'=>e=.normal/\mJ w w'/\(pJ (·∈L) a'.tmps->K (b.atR a' (.inRegion ops.toArray (List.range' m (ops.length-m))::k)) cs w')) a (wt w t)):K (b.atR a (.code (.region id ops.toArray d)::k)) cs w:=by
 refine C.ok _ _ _ fun ok=>?_;have A:=agX p;have NZ:=@Ok.NZ _ (aV P L N) P _ _ _ ok;obtain⟨nv,_,_,up,vg,bound,clean⟩:=ok;have hcs:=up;have z:@aG _ kD P (·∈L) (b.atR a [.code (.region id (ops.take m).toArray d)]):=by
  refine @aG.mk _ kD _ _ _ (fun i hi=>?_) (fun d h1=>?_) trivial (.inl hk)
  .have h1:=hi
   obtain rfl:=eY.1 h1;exact jB.loose (Dy hc)
  have h2:d∈a.defers:=h1;rw[hd] at h2;cases h2
 have r:@Ok _ kD P (·∈L) (G (b.atR a [.code (.region id (ops.take m).toArray d)]) [bottom]) w:=by
  refine @Ok.mk _ kD _ _ _ _ nv (@SB.mk _ kD _ _ _ z (fun x hx=>by rw[eY.1 hx];exact @pX _ kD _ _) rfl) rfl ⟨[],rfl⟩ vg ?_ clean;refine(@x9 _ kD (fun _ h=>h) _).symm▸fun H l h h' j=>⟨?_,NZ H l h h' j⟩;have F:@vals _ H aj h a.tmps=@vals _ l aj h' a.tmps:=by have h1:=(bound l l h h' ⟨fun i hi=>j.blk i hi,fun _ _=>rfl⟩).1;have h2:=bU (fun g=>g.frame.tmps) h1;exact(hcl H l h j.xP).trans h2
  unfold uG;simp[yT,mi,Conc.G,fU,iw];refine⟨?_,by rw[@fQ _ _ H,@fQ _ _ l]⟩;unfold frame;simp only[Frame.atR,F,hd,iw,fU,hb,Option.map_none];rfl
 let D:dD->ay->Prop:=fun g v=>∃a',g=G (b.atR a' []) [bottom]/\mJ w v/\(pJ (·∈L) a'.tmps->K (b.atR a' (.inRegion ops.toArray (List.range' m (ops.length-m))::k)) cs v)
 have ht:@Tree _ kD P (·∈L) D (G (b.atR a [.code (.region id (ops.take m).toArray d)]) [bottom]) w:=by
  refine SH Dh (fun _ h=>h) B hS (fun g v t _ hd=>?_) r (fun t=>?_)
  .obtain⟨a',e,h1,h2⟩:=hd
   exact⟨a',e,h1,fun hx=>C.tape _ _ _ t (h2 hx)⟩
  obtain⟨e,a',w',⟨rfl,h1,h2⟩,q⟩:=h t b [] [bottom] hb trivial (room_wide _);have hst:=StepsIn.steps q;exact⟨G (b.atR a' []) [bottom],w',⟨fun⟨ch,hm⟩=>(by cases hm),by simp[Conc.G]⟩,⟨a',rfl,h1,h2⟩,hst⟩
 have o:Own (b.atR a [.code (.region id (ops.take m).toArray d)]):=⟨rfl,hb,hd,hk,fun i hi=>by have h1:=hi;obtain rfl:=eY.1 h1;rfl⟩
 have y:=Yf (k:=k) A u B hS qR hcs (fun g v ⟨a',e,_⟩=>⟨by rw[e];rfl,by rw[e];rfl,_,e⟩) ht (.start o rfl);have key:∀{g} {v},@fO _ (aV P L N) P (·∈L) (fun r' v'=>∃fr,r'=G (qQ fr (.inRegion ops.toArray (rest' ops m)::k)) cs/\D (G fr [bottom]) v'/\@Ok _ kD P (·∈L) (G fr [bottom]) v') g v->@fO _ (aV P L N) P (·∈L) (fun g v'=>∃fr' cs',g=G fr' cs'/\K fr' cs' v'/\mJ w v') g v:=fun{g v} ht=>by
  induction ht with
  |@done g v h=>
  obtain⟨fr,rfl,⟨a',e,h1,h2⟩,s⟩:=h;have I:=bU Goroutine.frame e;subst I;exact @fO.done _ (aV P L N) _ _ _ _ _ ⟨_,_,rfl,h2 (O5 s),h1⟩
  |step hns Gs Vs Es he hsm hcl hup hrun htr c=>exact @fO.step _ (aV P L N) _ _ _ _ _ hns Gs Vs Es he hsm hcl hup hrun c
  |call hfn hargs hcs hP hc next c=>exact @fO.call _ (aV P L N) _ _ _ _ _ _ _ _ _ hfn hargs hcs hP hc c
  |enter hgood hxs hst next c=>exact @fO.enter _ (aV P L N) _ _ _ _ _ _ _ _ hgood hxs hst c
  |put hx hst next c=>exact @fO.put _ (aV P L N) _ _ _ _ _ _ _ hx hst c
 exact E _ _ _ (key y)
end
end
end Go.Ren
namespace Go.Ev
open Go.Conc Go.Ren
section
variable[M:Mps]{P:aH}{L N:List aI}{K:aC->List aC->ay->Prop}
theorem iW.seq'(c:iW P L N K){x y}{b:aC}{a k cs w}(hcs:qN cs)(h:∀w',w'.heap=w.heap->K (b.atR a (.code x::.code y::k)) cs w'):K (b.atR a (.code (.seq x y)::k)) cs w:=c.item rfl hcs (fun w=>⟨#[],by unfold Conc.G;simp[stepG,stepG.exec,Frame.atR]⟩) fun t=>h _ rfl
theorem iW.skip'(c:iW P L N K){b:aC}{a k cs w}(hcs:qN cs)(h:∀w',w'.heap=w.heap->K (b.atR a k) cs w'):K (b.atR a (.code .skip::k)) cs w:=c.item rfl hcs (fun w=>⟨#[],by unfold Conc.G;simp[stepG,stepG.exec,Frame.atR]⟩) fun t=>h _ rfl
theorem iW.cond'(e:iW P L N K){x y c t}{b:aC}{a k cs}{w:ay}(hcs:qN cs)(hc:a.eval c=.bool t)(h:∀w',w'.heap=w.heap->K (b.atR a (.code (if t then x else y)::k)) cs w'):K (b.atR a (.code (.cond c x y)::k)) cs w:=by
 have he:=kH b a (.code (.cond c x y)::k);have d:(b.atR a (.code (.cond c x y)::k)).eval c=.bool t:=by rw[he];exact hc
 refine e.item rfl hcs (fun w=>⟨#[],?_⟩) fun t=>h _ rfl;unfold Conc.G;simp[Frame.atR] at d;simp[stepG,stepG.exec,Frame.atR,d]
theorem iW.cond_true(d:iW P L N K){x y c}{b:aC}{a k cs w}(hcs:qN cs)(hc:a.eval c=.bool true)(h:∀w',w'.heap=w.heap->K (b.atR a (.code x::k)) cs w'):K (b.atR a (.code (.cond c x y)::k)) cs w:=d.cond' hcs hc h
theorem iW.cond_false(d:iW P L N K){x y c}{b:aC}{a k cs w}(hcs:qN cs)(hc:a.eval c=.bool false)(h:∀w',w'.heap=w.heap->K (b.atR a (.code y::k)) cs w'):K (b.atR a (.code (.cond c x y)::k)) cs w:=d.cond' hcs hc h
theorem iW.begin(c:iW P L N K){id ops}{b:aC}{a k cs w}(hcs:qN cs)(h:∀w',w'.heap=w.heap->K (b.atR a (.inRegion ops (List.range ops.size)::k)) cs w'):K (b.atR a (.code (.region id ops false)::k)) cs w:=c.item rfl hcs (fun w=>⟨#[],by unfold Conc.G;simp[stepG,stepG.exec,Frame.atR]⟩) fun t=>h _ rfl
theorem iW.over(c:iW P L N K){ops}{b:aC}{a k cs w}(hcs:qN cs)(h:∀w',w'.heap=w.heap->K (b.atR a k) cs w'):K (b.atR a (.inRegion ops []::k)) cs w:=c.item rfl hcs oI fun t=>h _ rfl
theorem iW.one(e:iW P L N K){ops i rest o v}{b:aC}{a k cs w}(hcs:qN cs)(ho:ops[i]?=some o)(hw:Region.wanted o (yielded ops a.tmps)=true)(d:Jv o.op=false)(hb:jw P L o=true)(hd:∀c,o.op≠.defer c)(hr:∀w,(execOp a.eval o).run P w=.ok (.value v) w)(h:∀w',w'.heap=w.heap->K (b.atR (a.put o.dst v) (.inRegion ops rest::k)) cs w'):K (b.atR a (.inRegion ops (i::rest)::k)) cs w:=by refine e.own (kF ho d hb) fun tp=>?_;obtain⟨es,hst⟩:=mW ho hw hd (hr _) (.inl rfl);exact⟨_,_,_,es,hst,trivial,hcs,fun hcl=>Ren.dH hcl rfl,.of rfl,h _ rfl⟩
theorem iW.many(A:iW P L N K){f p hh h' v}(B:yE P L N K f [] hh v h')(z:flat v=true){ops i rest o}{b:aC}{a k cs w}(hcs:qN cs)(ho:ops[i]?=some o)(hw:Region.wanted o (yielded ops a.tmps)=true)(e:o.op=.call {callee:=.value (.func f),args:=#[],argTypes:=p})(m:b.kind=.normal)(j:b.roundOf=none)(g:hh.t=.nil)(hn:dU w)(h:∀w',dU w'->K (b.atR (a.put o.dst v) (.inRegion ops rest::k)) cs w'):K (b.atR a (.inRegion ops (i::rest)::k)) cs w:=by
 have⟨n1,fn,c,y,u,s,r,q⟩:=B;refine A.enter ho hw e y u s r (fun x hx=>by simp at hx) m j ?_;have C:(#[]:Array fH).map a.eval=⟨[]⟩:=by simp
 rw[C];refine q (fun _=>.dC) [] w _ cs hcs trivial .nil ?_ (fun _ _ _=>rfl) fun ρ' v' w' s1 s2 s3=>?_
 .have⟨t,n,l⟩:=hh;cases g;exact⟨hn,fun b o h=>(by cases h),fun b c x k l h=>(by cases h)⟩
 have d:=pg b a ops i rest k v';rw[ho] at d;rw[d];have:v'=v:=s3.flat z;rw[this];exact h w' s2.fD
theorem iW.ret'(d:iW P L N K){b:aC}{a k cs w}(hcs:qN cs)(hb:b.roundOf=none)(h:∀w',K {b.atR a (.code .ret::k) with mode:=.returning} cs w'):K (b.atR a (.code .ret::k)) cs w:=by refine d.own (pV rfl) fun c=>?_;exact⟨{b.atR a _ with mode:=.returning},cs,wt w c,#[],by unfold Conc.G;simp[stepG,stepG.exec,Frame.atR,hb],trivial,hcs,fun hc=>Ren.dH hc rfl,.of rfl,h _⟩
theorem eval_put_same{a:Act}{d v}(h:d<a.tmps.size):(a.put (some d) v).eval (.tmp d)=v:=by simp[Act.put,Act.eval,h]
theorem eval_put_ne{a:Act}{d b v}(h:d≠b):(a.put (some d) v).eval (.tmp b)=a.eval (.tmp b):=by simp[Act.put,Act.eval,h]
theorem size_put{a:Act}{d v}:(a.put d v).tmps.size=a.tmps.size:=by cases d<;>simp[Act.put]
theorem xk{a:Act}{d v}:(a.put d v).defers=a.defers:=by cases d<;>rfl
theorem iW.adY(g:iW P L N K){f hh h' v}(x:yE P L N K f [] hh v h')(u:flat v=true)(n:hh.t=.nil){id d e o0 o1}{b:aC}{a k}{cs:List aC}{w:ay}(hcs:qN cs)(hn:dU w)(j:b.kind=.normal)(i:b.roundOf=none)(y:o0.guard=none)(d0:o0.dst=some d)(s:o0.op=.call {callee:=.value (.func f),args:=#[],argTypes:=#[]})(g1:o1.guard=none)(d1:o1.dst=some e)(l:o1.op=.assign (.tmp d))(p:jw P L o1=true)(hd:d<a.tmps.size)(he:e<a.tmps.size)(h:∀fr w',fr.fn=b.fn->fr.mode=.returning->fr.defers=a.defers->fr.kind=.normal->fr.tmps.getD e undef=v->K fr cs w'):K (b.atR a (.code (.seq (.region id #[o0,o1] false) .ret)::k)) cs w:=by
 refine g.seq' hcs fun w1 r=>?_;refine g.begin hcs fun w2 q=>?_;have m:dU w2:=(hn.same r).same q;refine g.many x u hcs (o:=o0) rfl (by simp[Region.wanted,y]) s j i n m fun w3 _=>?_;rw[d0];refine g.one (o:=o1) (v:=v) hcs rfl (by simp[Region.wanted,g1]) (by rw[l];rfl) p (fun c=>by rw[l];exact fun h=>by cases h) (fun w=>?_) fun w4 _=>?_
 .unfold execOp;rw[l];simp only[eval_put_same hd]
  rfl
 rw[d1];refine g.over hcs fun w5 _=>?_;refine g.ret' hcs i fun w6=>?_;refine h _ _ rfl rfl ?_ j ?_
 .exact xk.trans xk
 have:e<((a.put (some d) v).put (some e) v).tmps.size:=by rw[size_put,size_put];exact he
 have:=eval_put_same (a:=a.put (some d) v) (d:=e) (v:=v) (by rw[size_put];exact he);exact this
theorem iW.adZ(l:iW P L N K){f hh h' v}(A:yE P L N K f [] hh v h')(z:flat v=true)(q:hh.t=.nil){m c d p e y ops o0 o1 g}{b:aC}{a k cs}{w:ay}(hcs:qN cs)(hn:dU w)(j:b.kind=.normal)(i:b.roundOf=none)(t0:ops[m]?=some o0)(t1:ops[m+1]?=some o1)(t2:ops[m+2]?=some g)(w0:Region.wanted o0 (yielded ops a.tmps)=true)(d0:o0.dst=some d)(x:o0.op=.call {callee:=.value (.func f),args:=#[],argTypes:=#[]})(g1:o1.guard=none)(d1:o1.dst=some p)(n:o1.op=.pick (.tmp c) (.tmp d) y)(u:jw P L o1=true)(B:g.guard=none)(d2:g.dst=some e)(C:g.op=.assign (.tmp p))(s:jw P L g=true)(hc:a.eval (.tmp c)=.bool true)(r:d≠c)(hd:d<a.tmps.size)(hp:p<a.tmps.size)(he:e<a.tmps.size)(h:∀fr w',fr.fn=b.fn->fr.mode=.returning->fr.defers=a.defers->fr.kind=.normal->fr.tmps.getD e undef=v->K fr cs w'):K (b.atR a (.inRegion ops [m,m+1,m+2]::.code .ret::k)) cs w:=by
 refine l.many A z hcs (o:=o0) t0 w0 x j i q hn fun w3 _=>?_;rw[d0];refine l.one (o:=o1) (v:=v) hcs t1 (by simp[Region.wanted,g1]) (by rw[n];rfl) u (fun c=>by rw[n];exact fun h=>by cases h) (fun w=>?_) fun D _=>?_
 .unfold execOp;rw[n];simp[eval_put_same hd,eval_put_ne r,hc]
  rfl
 rw[d1];refine l.one (o:=g) (v:=v) hcs t2 (by simp[Region.wanted,B]) (by rw[C];rfl) s (fun c=>by rw[C];exact fun h=>by cases h) (fun w=>?_) fun D _=>?_
 .unfold execOp;rw[C];simp only[eval_put_same (a:=a.put (some d) v) (d:=p) (v:=v) (by rw[size_put];exact hp)]
  rfl
 rw[d2];refine l.over hcs fun w5 _=>?_;refine l.ret' hcs i fun w6=>?_;refine h _ _ rfl rfl ?_ j ?_
 .exact xk.trans (xk.trans xk)
 exact eval_put_same (a:=(a.put _ v).put _ v) (d:=e) (v:=v) (by rw[size_put,size_put];exact he)
end
end Go.Ev
namespace Go.Crew
open Go.Conc Go.ConcN Go.Ren
open Classical in
noncomputable def Qr(M:Mps)(E:@Ext M):Obj->Obj
 |.cells c e fr=>if ∀f,@vals M bY E f c=@vals M bY (@aj M) f c then .cells c e fr else .cells #[] e (0,0)
 |.chan a b c d e f=>.chan a b c d e f
 |.coro x=>.coro x
 |.number a l=>.number a l
 |_=>.coro none
noncomputable def hus(M:Mps)(E:@Ext M)(v:ay):ay:={v with heap:=v.heap.map (Qr M E)}
section
variable{M:Mps}{E:@Ext M}
theorem Oz(v):(hus M E v).heap.size=v.heap.size:=by simp[hus]
theorem Ei{v}{b:Nat}{o}(h:(hus M E v).heap[b]?=some o):∃x,v.heap[b]?=some x/\o=Qr M E x:=by simp only[hus,PY] at h;have⟨x,h1,h2⟩:=BX.1 h;exact⟨x,h1,h2.symm⟩
theorem Dn(c)(e)(fr):((∀f,@vals M bY E f c=@vals M bY (@aj M) f c)/\Qr M E (.cells c e fr)=.cells c e fr)\/Qr M E (.cells c e fr)=.cells #[] e (0,0):=by
 by_cases h:∀f,@vals M bY E f c=@vals M bY (@aj M) f c
 .exact .inl ⟨h,aY h⟩
 exact .inr (aU h)
theorem agx{K}{x}(h:dB x=true\/plain x=true):(dB (Qr M E x)=true\/plain (Qr M E x)=true)/\lI K (Qr M E x):=by
 cases x with
 |cells c e fr=>rcases @Dn M E c e fr with⟨_,h⟩|h<;>(rw[h];exact⟨.inr rfl,trivial⟩)
 |number a l=>exact⟨.inr rfl,trivial⟩
 |_=>exact⟨.inl rfl,trivial⟩
theorem Wn{M' H b h h' x}(e:@obj M H (@aj M) h x=@obj M b (@aj M) h' x):@obj M' H (@aj M') h (Qr M E x)=@obj M' b (@aj M') h' (Qr M E x):=by
 cases x with
 |cells c t fr=>
 rcases @Dn M E c t fr with⟨_,k⟩|k<;>rw[k]
 .rw[VZ (M':=M),VZ (M:=M')];exact e
 simp[obj,vals]
 |number a l=>exact e
 |_=>rfl
theorem Wl{M' f x o'}(h:@qI M bY E f x o'):@qI M' bY (@aj M') f (Qr M E x) o':=by
 cases x with
 |cells c e fr=>
 obtain⟨c',fr',rfl,h2⟩:=h;rcases @Dn M E c e fr with⟨hs,k⟩|k<;>rw[k]
 .exact⟨c',fr',rfl,fun hc=>⟨((h2 hc).1.trans (hs f)).trans (qW bY f c),(h2 hc).2⟩⟩
 exact⟨c',fr',rfl,fun hc=>by cases hc⟩
 |chan=>exact h
 |coro=>exact h
 |number a l=>exact h
 |_=>first|(obtain⟨_,rfl⟩:=h;rfl)|(have e:=h.1;cases e;done)
theorem aiF{M' s s' P S a g v}(h:@Ok M s P S g v)(hS:∀x,S x->a x)(f:∀x,@Nm s S x->@Nm s' a x)(hg:@SB M' s' P a g):@Ok M' s' P a g (hus M E v):=by
 refine @Ok.mk M' s' P a g (hus M E v) (fun b o hb=>?_) hg (@Ok.run M s P S g v h) (@Ok.up M s P S g v h) (by rw[Oz];exact @Ok.vg M s P S g v h) (fun H d e i ha=>?_) (fun H d e ha b o hb=>?_)
 .obtain⟨x,h1,rfl⟩:=Ei hb
  exact agx ((@Ok.nv M s P S g v h) b x h1).1
 .rw[Oz] at ha
  have⟨h1,h2⟩:=(@Ok.bound M s P S g v h) H d e i ⟨ha.blk,fun x hx=>ha.xP x (f x hx)⟩;refine⟨by rw[OJ (M':=M),OJ (M:=M')];exact h1,fun b o hb=>?_⟩;obtain⟨x,c,rfl⟩:=Ei hb;exact Wn (h2 b x c)
 obtain⟨x,c,rfl⟩:=Ei hb;exact Wn ((@Ok.clean M s P S g v h) H d e (fun y hy=>ha y (hS y hy)) b x c)
theorem abP{M' f B g}(hu:Up g)(e:@uG M bY E f g=@uG M bY (@aj M) f g):@bF M bY E f B g=@bF M' bY (@aj M') f B g:=by rw[OJ] at e;obtain⟨cs,h⟩:=hu;have h1:g.callers.map _=g.callers.map (@frame M' bY (@aj M') f):=bU Goroutine.callers e;rw[h,F5,F5] at h1;have h2:=(List.append_inj h1 (by simp)).1;have b:=@yG M kD bY E f B bottom cs;have a:=@yG M' kD bY _ f B bottom cs;unfold bF;rw[e,h,b,a,h2]
theorem KM.switch{M':Mps}{s s':jE}{P:aH}{S a:aI→Prop}{Z:Nat→Prop}{w0:ay}{Post:ae→ay→Prop}{fr:aC}{cs:List aC}{v:ay}(hS:∀x,S x→a x)(p:∀x,@Nm s S x→@Nm s' a x)(hg:@SB M' s' P a (G fr cs))(g:∀f,@uG M bY E f (G fr cs)=@uG M bY (@aj M) f (G fr cs))(h:@KM M' (@aj M') s' P a Z w0 Post fr cs (hus M E v)):@KM M E s P S Z w0 Post fr cs v:=by
 refine @KM.mk M E s P S Z w0 Post fr cs v fun Shr Hid o f gs w sl t q r n=>?_;obtain⟨h1,⟨h2,A,z,⟨h5,j⟩,y⟩,u,h8⟩:=r;have hok:=aiF (E:=E) h2 hS p hg;have i:@Mirror M' (@aj M') s' P a Z Shr Hid o f (G fr cs) (hus M E v) gs w t q:=by
  refine⟨h1,⟨hok,by rw[Oz];exact A,z,⟨fun b o hb=>?_,fun b o hb=>?_⟩,fun b o hb=>?_⟩,?_,h8⟩
  .exact(@Ok.nv M' s' P a (G fr cs) (hus M E v) hok b o hb).2
  .obtain⟨x,d,rfl⟩:=Ei hb
   obtain⟨o',m,l⟩:=j b x d;exact⟨o',m,Wl l⟩
  .obtain⟨x,d,rfl⟩:=Ei hb
   have hx:=y b x d;cases x with
   |cells c e fr=>
   rcases @Dn M E c e fr with⟨_,k⟩|k<;>rw[k]
   .exact hx
   exact .inr (.inl rfl)
   |chan=>exact hx
   |coro=>exact hx
   |number=>exact hx
   |_=>
   rcases hx with k|k|⟨_,k⟩|⟨_,k⟩
   .exact .inl ⟨k.1,rfl⟩
   .cases k
   .rcases k with⟨_,_,_,k,_⟩|⟨_,k⟩<;>cases k
   cases k
  rw[u,abP (M':=M') (@Ok.up M s P S _ v h2) (g f)]
 exact @KM.at_ M' (@aj M') s' P a Z w0 Post fr cs (hus M E v) h Shr Hid o f gs w t q i sl n
end
open Go.Ev
def Jo{M}{E:@Ext M}{v}(h:dU v):dU (hus M E v):=fun b o hb=>by
 obtain⟨x,h1,rfl⟩:=Ei hb;have:=h b x h1;cases x with
 |cells c e fr=>rcases @Dn M E c e fr with⟨_,k⟩|k<;>rw[k]<;>rfl
 |_=>first|exact this|rfl
def KM.hand{M M'}{E:@Ext M}{P L a N Z w0 Post fr v}(g:∀x∈L,x∈a)(ht:∀f,@vals M bY E f fr.tmps=@vals M bY (@aj M) f fr.tmps)(hd:fr.defers=[])(hm:fr.mode=.run)(hk:fr.kind=.normal)(hi:@BI M' (@aV M' P a N) P (·∈a) fr)(h:@KM M' (@aj M') (@aV M' P a N) P (·∈a) Z w0 Post fr [bottom] (hus M E v)):@KM M E (@aV M P L N) P (·∈L) Z w0 Post fr [bottom] v:=by
 have hg:@SB M' (@aV M' P a N) P (·∈a) (G fr [bottom]):=by
  refine @SB.mk M' (@aV M' P a N) P _ _ (@aG.mk M' (@aV M' P a N) P _ fr hi (fun d b=>?_) ?_ (.inl hk)) (fun c hc=>?_) rfl
  .rw[hd] at b;cases b
  .rw[hm];trivial
  rw[eY.1 hc];exact @pX M' (@aV M' P a N) P _
 refine @KM.switch M E M' _ (@aV M' P a N) P _ _ Z w0 Post fr [bottom] v g (fun x hx=>hx.imp (g x) id) hg (fun f=>?_) h;have h1:fr.todo.map (@item M bY E f)=fr.todo.map (@item M bY (@aj M) f):=uq fun i e=>by
  have:=hi i e
  cases i<;>first|rfl|(cases this;done)
 have h2:@frame M bY E f fr=@frame M bY (@aj M) f fr:=by unfold frame;rw[h1,ht f,hd,hm];rfl
 unfold uG;simp only[Conc.G,fU,iw];rw[h2];congr 1;rw[@fQ M kD bY E,@fQ M kD bY (@aj M)]
end Go.Crew
