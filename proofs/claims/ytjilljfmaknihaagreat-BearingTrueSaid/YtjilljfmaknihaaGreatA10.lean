import Derived.Conc.Fork
import Derived.Fence
import Derived.Test.YtjilljfmaknihaaGreatA07
set_option linter.all false
namespace Go
def jG:=@Go.GStep.go.injEq
def yT:=@Go.Goroutine.mk.injEq
def J3:=@Go.Stepped.next.injEq
def UL:=@Go.Obj.cells.inj
def Ze:=@Go.Fn.methodOf.inj
def Zd:=@Go.Value.func.inj
end Go
namespace Go.Ren
open Go.Conc
section
variable[Mps][jE]{P:aH}{S:aI->Prop}{K:Kd}
theorem Ar{g v a}(h:g.status=.running)(hs:step P (solo g v)=.next a)
  (ho:match stepG P true g v with|.go ..=>True|.ended ..=>True|_=>False):∃g1 v1 es,stepG P true g v=.go g1 v1 es/\a=solo g1 v1:=by
 rw[step,stepT_solo h] at hs;cases hg:stepG P true g v with
 |go g1 v1 es=>
 rw[runT_solo_go hg] at hs;simp[J3] at hs;exact⟨g1,v1,es,rfl,hs.symm⟩
 |ended o v1 es=>simp[runT,solo,Array.swapAt!,Array.swapAt,hg] at hs
 |_=>rw[hg] at ho;exact ho.elim
end
section
variable[M:Mps][jE]{P:aH}{S:aI→Prop}{F F' H H':Fr}{f f' h h':Nat→Nat}{n:Nat}
structure qU(S:aI→Prop)(n:Nat)(F F':Fr)(f f':Nat→Nat):Prop where
 below:∀i,i<n→f i=f' i
 above:∀i,n≤i→f i≠f' i
 other:∀g,¬S g→F.xP g≠F'.xP g
 meth:∀n,F.mid n≠F'.mid n
theorem qU.lt(t:qU S n F F' f f'){i}(h:f i=f' i):i<n:=by
 rcases kJ i n with h1|h1
 .exact h1
 exact absurd h (t.above i h1)
theorem qU.mem(t:qU S n F F' f f'){g}(h:F.xP g=F'.xP g):S g:=JZ fun hs=>t.other g hs h
structure Alike(S:aI→Prop)(n:Nat)(F F':Fr)(f f':Nat→Nat):Prop where
 blk:∀i,i<n→f i=f' i
 xP:∀g,S g→F.xP g=F'.xP g
section
variable(F:Fr)(f:Nat→Nat)
theorem jX(a):@val M F aj f (.pointer a)=.pointer (a.map (addr f)):=@aK M F aj f a
theorem uP(a)(l c):@val M F aj f (.slice a l c)=.slice (a.map (addr f)) l c:=@bI M F aj f a l c
theorem MC(r):@val M F aj f (.map r)=.map (r.map f):=@eU M F aj f r
theorem Ap(r):@val M F aj f (.chan r)=.chan (r.map f):=@gm M F aj f r
theorem uf(g)(a b):@val M F aj f (.func g a b)=.func (@fn F f g) (a.map (@val M F aj f)) (b.map (@val M F aj f)):=@dL M F aj f g a b
theorem rX(t)(v):@val M F aj f (.iface t v)=.iface t (if t<jT then @val M F aj f v else v):=by rw[@dh M F aj f t v];unfold Wj;split<;>rfl
theorem MG(a):@val M F aj f (.agg a)=.agg (a.map (@val M F aj f)):=@dG M F aj f a
theorem uO(a):@val M F aj f (.tuple a)=.tuple (a.map (@val M F aj f)):=@cO M F aj f a
theorem MF(b):@val M F aj f (.bool b)=.bool b:=@dY M F aj f b
theorem Vb(k)(b):@val M F aj f (.int k b)=.int k b:=@dK M F aj f k b
theorem GG(k)(b):@val M F aj f (.float k b)=.float k b:=@dP M F aj f k b
theorem zf(k)(a b):@val M F aj f (.complex k a b)=.complex k a b:=@dw M F aj f k a b
theorem Cf(b):@val M F aj f (.string b)=.string b:=@bV M F aj f b
theorem y9:@val M F aj f .nilFunc=.nilFunc:=@cZ M F aj f
theorem vK:@val M F aj f .nilIface=.nilIface:=@dJ M F aj f
end
theorem Lc(t:qU S n F F' f f')(hh:Alike S n H H' h h'){a}(e:addr f a=addr f' a):addr h a=addr h' a:=by simp[addr,Addr.mk.injEq,mi] at e⊢;exact hh.blk _ (t.lt e)
theorem HY(t:qU S n F F' f f')(hh:Alike S n H H' h h'){a:aB Addr}(e:a.map (addr f)=a.map (addr f')):a.map (addr h)=a.map (addr h'):=by
 cases a with
 |none=>rfl
 |some a=>
 simp[Option.map_some,kG] at e⊢;exact Lc t hh e
theorem Dc(t:qU S n F F' f f')(hh:Alike S n H H' h h'){a:aB Nat}(e:a.map f=a.map f'):a.map h=a.map h':=by
 cases a with
 |none=>rfl
 |some a=>
 simp[Option.map_some,kG] at e⊢;exact hh.blk _ (t.lt e)
theorem Rw(t:qU S n F F' f f')(hh:Alike S n H H' h h'){g}(e:@fn F f g=@fn F' f' g):@fn H h g=@fn H' h' g:=by
 cases g with
 |yield l=>
 have a:=Fn.yield.inj e;exact bU Fn.yield (hh.blk _ (t.lt a))
 |func g=>
 have a:=Fn.func.inj e;exact bU Fn.func (hh.xP _ (t.mem a))
 |via u p g b=>
 have a:=(Fn.via.inj e).2.2.1;exact bU (fun x=>Fn.via u p x b) (hh.xP _ (t.mem a))
 |method n=>exact absurd (Fn.method.inj e) (t.meth n)
 |methodOf u n=>exact absurd (Ze e).2 (t.meth n)
theorem lh(t:qU S n F F' f f')(hh:Alike S n H H' h h'):∀x:ae,@val M F aj f x=@val M F' aj f' x→@val M H aj h x=@val M H' aj h' x
 |.pointer a,e=>by simp only[jX,Value.pointer.injEq] at e⊢;exact HY t hh e
 |.slice a l c,e=>by simp only[uP,Value.slice.injEq,mi] at e⊢;exact HY t hh e
 |.map r,e=>by simp only[MC,Value.map.injEq] at e⊢;exact Dc t hh e
 |.chan r,e=>by simp only[Ap,Value.chan.injEq] at e⊢;exact Dc t hh e
 |.func g a b,e=>by simp only[uf,Value.func.injEq,JY] at e⊢;exact⟨Rw t hh e.1,fun x hx=>lh t hh x (e.2.1 x hx),fun x hx=>lh t hh x (e.2.2 x hx)⟩
 |.iface u x,e=>by
  simp only[rX,Value.iface.injEq,PX] at e⊢;by_cases ht:u<jT
  .rw[aY ht,aY ht] at e⊢
   exact lh t hh x e
  rw[aU ht,aU ht]
 |.agg cs,e=>by simp only[MG,Value.agg.injEq,JY] at e⊢;exact fun x hx=>lh t hh x (e x hx)
 |.tuple cs,e=>by simp only[uO,Value.tuple.injEq,JY] at e⊢;exact fun x hx=>lh t hh x (e x hx)
 |.bool _,_|.int _ _,_|.float _ _,_|.complex _ _ _,_|.string _,_|.nilFunc,_|.nilIface,_=>by simp only[MF,Vb,GG,zf,Cf,y9,vK]
termination_by x=>SizeOf.sizeOf x
decreasing_by
 all_goals first
  |(have h:=IP hx;simp only[Sz,IM,IL];omega)
  |(simp only[Sv];omega)
theorem qV(t:qU S n F F' f f')(hh:Alike S n H H' h h'){a}(e:@vals M F aj f a=@vals M F' aj f' a):@vals M H aj h a=@vals M H' aj h' a:=by unfold vals at e⊢;simp[JY] at e⊢;exact fun x hx=>lh t hh x (e x hx)
theorem Qe(t:qU S n F F' f f')(hh:Alike S n H H' h h'){d}(e:@target M F aj f d=@target M F' aj f' d):@target M H aj h d=@target M H' aj h' d:=by
 cases d with
 |fn g c=>
 obtain⟨a,b⟩:=Target.fn.inj e;show Target.fn _ _=Target.fn _ _;rw[Rw t hh a,qV t hh b]
 |collected r=>
 have a:=Target.collected.inj e;exact bU Target.collected (hh.blk _ (t.lt a))
 |coroexit r=>
 have a:=Target.coroexit.inj e;exact bU Target.coroexit (hh.blk _ (t.lt a))
 |_=>rfl
theorem BN(t:qU S n F F' f f')(hh:Alike S n H H' h h'){d}(e:@deferred M F aj f d=@deferred M F' aj f' d):@deferred M H aj h d=@deferred M H' aj h' d:=by unfold deferred at e⊢;simp[Deferred.mk.injEq] at e⊢;exact⟨Qe t hh e.1,qV t hh e.2⟩
theorem ES(t:qU S n F F' f f')(hh:Alike S n H H' h h'){ds:List xu}(e:ds.map (@deferred M F aj f)=ds.map (@deferred M F' aj f')):ds.map (@deferred M H aj h)=ds.map (@deferred M H' aj h'):=by rw[UM] at e⊢;exact fun d hd=>BN t hh (e d hd)
theorem Wi(t:qU S n F F' f f')(hh:Alike S n H H' h h'){i}(e:@item M F aj f i=@item M F' aj f' i):@item M H aj h i=@item M H' aj h' i:=by
 cases i with
 |inRangeFunc l=>have a:=Item.inRangeFunc.inj e;exact bU Item.inRangeFunc (hh.blk _ (t.lt a))
 |endRangeFunc l=>have a:=Item.endRangeFunc.inj e;exact bU Item.endRangeFunc (hh.blk _ (t.lt a))
 |call d w r s=>
 obtain⟨a,_,_,b⟩:=Item.call.inj e;have g:=BN t hh a;have c:=qV t hh b;show Item.call _ _ _ _=Item.call _ _ _ _;rw[g,c]
 |extern r s=>have a:=(Item.extern.inj e).2;exact bU _ (qV t hh a)
 |_=>rfl
theorem Ip(t:qU S n F F' f f')(hh:Alike S n H H' h h'){fr}(e:@frame M F aj f fr=@frame M F' aj f' fr):@frame M H aj h fr=@frame M H' aj h' fr:=by
 unfold frame at e⊢;simp only[Frame.mk.injEq,PX] at e⊢;obtain⟨j,b,g,a,d⟩:=e;refine⟨qV t hh j,?_,ES t hh g,?_,Dc t hh d⟩
 .rw[UM] at b⊢
  exact fun i hi=>Wi t hh (b i hi)
 cases hm:fr.mode with
 |panicking c=>
 rw[hm] at a;unfold mode at a⊢;simp only[FrameMode.panicking.injEq] at a⊢;rw[UM] at a⊢;intro p hp
 have:=a p hp
 unfold Jj at this⊢;simp[PanicEntry.mk.injEq,mi] at this⊢;exact lh t hh _ this
 |_=>rfl
theorem Yu(t:qU S n F F' f f')(hh:Alike S n H H' h h'){g}(e:@uG M F aj f g=@uG M F' aj f' g):@uG M H aj h g=@uG M H' aj h' g:=by unfold uG at e⊢;simp only[yT,mi] at e⊢;obtain⟨b,a⟩:=e;refine⟨Ip t hh b,?_⟩;rw[UM] at a⊢;exact fun c hc=>Ip t hh (a c hc)
theorem X7(t:qU S n F F' f f')(hh:Alike S n H H' h h'){o}(e:@obj M F aj f o=@obj M F' aj f' o):@obj M H aj h o=@obj M H' aj h' o:=by
 cases o with
 |cells c g fr=>obtain⟨b,_⟩:=UL e;exact bU (fun x=>Obj.cells x g fr) (qV t hh b)
 |loop l=>have b:=Obj.loop.inj e;unfold loop at b;simp[Loop.mk.injEq,PX] at b;show Obj.loop _=Obj.loop _;unfold loop;rw[qV t hh b.1,hh.blk _ (t.lt b.2)]
 |deferred d=>
  cases d with
  |none=>rfl
  |some ds=>
  have b:=aN (Obj.deferred.inj e);exact bU (fun x=>Obj.deferred (some x)) (ES t hh b)
 |map es c=>
  have b:=(Obj.map.inj e).1;simp[JY] at b;refine bU (fun x=>Obj.map x c) ?_;simp[JY];intro x hx
  have:=b x hx
  unfold entry at this⊢;simp[MapEntry.mk.injEq,mi] at this⊢;exact⟨lh t hh _ this.1,lh t hh _ this.2⟩
 |number a l=>have b:=(Obj.number.inj e).1;exact bU (fun x=>Obj.number x l) (Lc t hh b)
 |mapIter m s q l=>
  cases m with
  |none=>rfl
  |some r=>
  have b:=(Obj.mapIter.inj e).1;simp[Option.map_some,kG] at b;show Obj.mapIter _ s q l=Obj.mapIter _ s q l;simp[Option.map_some,hh.blk _ (t.lt b)]
 |_=>rfl
end
section
variable[M:Mps][jE]{P:aH}{S:aI->Prop}
def EY(S:aI->Prop)(g:dD)(v:ay):Prop:=∀(H H':Fr) (h h':Nat->Nat),Alike S v.heap.size H H' h h'->@uG M H aj h g=@uG M H' aj h' g/\∀(b:Nat) (o:Obj),v.heap[b]?=some o->@obj M H aj h o=@obj M H' aj h' o
def Nm[jE](S:aI->Prop):aI->Prop:=fun g=>S g\/jE.nm g
theorem x9(h:∀g,¬jE.nm g)(S):Nm S=S:=funext fun g=>propext ⟨fun hg=>hg.resolve_right (h g),.inl⟩
def Clean(S:aI->Prop)(v:ay):Prop:=∀(H H':Fr) (h:Nat->Nat),(∀g,S g->H.xP g=H'.xP g)->∀(b:Nat) (o:Obj),v.heap[b]?=some o->@obj M H aj h o=@obj M H' aj h o
theorem EY.clean{S g v}(h:EY S g v):Clean S v:=fun H a e ha=>(h H a e e ⟨fun _ _=>rfl,ha⟩).2
def lift(n:Nat):Nat->Nat:=fun i=>if i<n then i else i+1
open Classical in
@[reducible] noncomputable def lV (S:aI->Prop):Fr:=⟨fun g=>if S g then g else g+1,fun n=>if n = "" then "a" else ""⟩
open Classical in
theorem zn{g}(h:S g):(lV S).xP g=g:=aY h
open Classical in
theorem Nj{g}(h:¬S g):(lV S).xP g≠g:=by
 show(if S g then g else g+1)≠g
 rw[aU h];exact Nat.succ_ne_self g
theorem Ff(n):(lV S).mid n≠n:=by
 show(if n = "" then "a" else "")≠n
 by_cases h:n = ""
 .rw[aY h,h];decide
 rw[aU h];exact fun e=>h e.symm
theorem adA(n):yZ (lift n):=fun a b e=>by unfold lift at e;split at e<;>split at e<;>omega
theorem Yg(S)(n):qU S n bY (lV S) (id) (lift n):=by
 refine⟨fun i h=>?_,fun i h=>?_,fun g h e=>Nj h e.symm,fun n e=>Ff n e.symm⟩<;>unfold lift
 .rw[aY h];rfl
 rw[aU (by omega)];show i≠i+1;omega
theorem aaO{F f y}(h:@val M F aj f y=y):@BG F y:=by
 cases y with
 |func g a b=>
  rw[uf] at h;have e:=(Zd h).1;cases g with
  |method n=>exact Fn.method.inj e
  |methodOf t n=>exact(Ze e).2
  |_=>trivial
 |_=>trivial
theorem KP{F f fr}(hx:Fix P f)(a:∀x,S x->F.xP x=x)(h:@frame M F aj f fr=fr){x}(ho:ed P S x):@val M F aj f (fr.eval x)=fr.eval x:=by
 have:=@iU M F aj P f S _ hx a fr x ho
 rw[h] at this;exact this.symm
theorem KR(s:bz P)(hS:mM P S){g g1 v v1 es}(hn:NV (kd P S) v)(hg:SB P S g)(hu:Up g)(hns:yD g.frame)(hl:∀x,g.frame.about P v=some x->S x)(B:P.globals.size<=v.heap.size)(hst:stepG P true g v=.go g1 v1 es)(hsm:jc g1)(d:Up g1){N}(m:∀g,S g->N g)(hc:EY N g v):EY N g1 v1:=by
 have⟨_,q,A,_⟩:=qZ (m':=true) s hS hn hg hu hns hl hst hsm d v.tape (fun _ _ _=>rfl);have z:=q.size;have T:=Yg N v1.heap.size;have a:∀i,i<v.heap.size->lift v1.heap.size i=(id) i:=fun i hi=>(T.below i (by omega)).symm;have⟨f,r⟩:=hc _ bY _ id ⟨a,fun g hg=>zn hg⟩;rw[OI] at f;have hs:@qJ M (lV N) aj (lift v1.heap.size) (kd P S) v v:=by
  refine @qJ.mk M (lV N) aj _ _ _ _ (fun b o h=>(hn b o h).2) (fun b o h=>⟨o,?_,?_⟩)
  .rw[a b (aP.1 h).1];exact h
  rcases(hn b o h).1 with h1|h1
  .exact @vW M (lV N) aj _ _ _ (.refl h1)
  have h2:=@Au M (lV N) aj (lift v1.heap.size) o h1;rw[r b o h,N7] at h2;exact h2
 have h0:=@vU M (lV N) aj _ P _ S [bottom] (adA v1.heap.size) (fun x hx=>a x (by omega)) s ⟨fun g hg=>zn (m g hg),hS.2⟩ true true g v v hs hg hu.ne (fun x hx=>aaO (KP (fun x hx=>a x (by omega)) (fun g hg=>zn (m g hg)) (bU Goroutine.frame f) hx)) hns hl;rw[hst,@L8 M _ (lV N) aj _ _ hu,f,hst] at h0;have⟨_,h1⟩:=h0 hsm;have⟨w1,y,p,_⟩:=h1 d.ne ⟨fun i h2 n=>by rw[<-T.below i n];show i=_;omega,fun i h2=>by unfold lift;rw[aU (by omega)];omega,fun i h2 _=>by rw[show v.drawn+(i-v.drawn)=i by omega]⟩;simp only[jG] at y;obtain⟨w,rfl,_⟩:=y;rw[@L8 M _ (lV N) aj _ _ d] at w;have k:=@Over.rq M (lV N) aj _ _ _ _ _ _ p;have l:=@qJ.block M (lV N) aj _ _ _ _ k;intro H H' h h' hh;refine⟨Yu T hh (by rw[OI];exact w),fun b o j=>X7 T hh ?_⟩;rw[N7];have⟨o',n,t⟩:=l b o j;rw[<-T.below b (aP.1 j).1] at n;have:o'=o:=by rw[show(id:Nat->Nat) b=b from rfl,j] at n;exact(aN n).symm
 subst this;cases o' with
 |cells c e fr=>
  have⟨c',fr',u,D⟩:=t;cases he:c.isEmpty with
  |true=>
  have:c=#[]:=by simpa[Array.isEmpty] using he
  subst this;simp[obj,vals]
  |false=>
  have⟨C,_⟩:=D he;simp only[Obj.cells.injEq,PX] at u;obtain⟨rfl,_⟩:=u;simp only[obj];rw[<-C]
 |chan=>rfl
 |coro=>rfl
 |_=>exact t.2
theorem aat{t w args x}(hd:@target M (lV S) aj id t=t)(h:t.leads P w args=some x):S x:=by
 have key:∀g,(lV S).xP g=g->S g:=fun g e=>JZ fun hs=>Nj hs e;cases t with
 |fn g c=>
  have e:=(Target.fn.inj hd).1;cases g with
  |func g=>obtain rfl:=aN h;exact key _ (Fn.func.inj e)
  |via u p g b=>obtain rfl:=aN h;exact key _ (Fn.via.inj e).2.2.1
  |method n=>exact absurd (Fn.method.inj e) (Ff n)
  |methodOf u n=>exact absurd (Ze e).2 (Ff n)
  |yield l=>cases h
 |_=>cases h
theorem Ns{ρ c ty d w w'}(i:∀x∈c.operands,@val M (lV S) aj id (ρ x)=ρ x)(hc:jK P c)(h:(resolve ρ c ty).run P w=.ok d w'):@target M (lV S) aj id d.target=d.target:=by
 unfold resolve at h;unfold jK at hc;cases e:c.callee with
 |builtin b=>rw[e] at h;obtain⟨rfl,_⟩:=h;rfl
 |invoke r n=>rw[e] at hc;exact hc.elim
 |value g=>
  rw[e] at h;dsimp only at h;have f:=i g (by unfold Call.operands;rw[e];simp);cases hg:ρ g with
  |func q a b=>
  rw[hg] at h f;obtain⟨rfl,_⟩:=h;rw[uf] at f;have⟨k,_,j⟩:=Zd f;show Target.fn _ _=Target.fn _ _;rw[k];unfold vals;rw[j]
  |nilFunc=>
  rw[hg] at h;obtain⟨rfl,_⟩:=h;rfl
  |_=>rw[hg] at h;simp[Deferred.ofValue,stuck] at h
theorem agW{defers:List xu}{w:ay}{x:aI}(h:(match defers with|d::_=>d.target.leads P w d.args | []=>none)=some x)(hd:∀d∈defers,xN d):S x:=by
 cases defers with
 |nil=>cases h
 |cons d ds=>
 rcases hd d (fZ ..) with rfl|⟨r,hr⟩
 .cases h
 dsimp only at h;rw[hr] at h;cases h
theorem IJ{g v v'}(hg:SB P S g)(hns:yD g.frame){N}(A:∀g,S g->N g)(hc:EY N g v){x}(h:g.frame.about P v'=some x):N x:=by
 have⟨z,_⟩:=hc _ bY id id ⟨fun _ _=>rfl,fun g hg=>zn hg⟩;rw[OI] at z;have B:=bU Goroutine.frame z;have E:∀y,ed P S y->@val M (lV N) aj id _=g.frame.eval y:=fun y hy=>KP (fun _ _=>rfl) (fun g hg=>zn (A g hg)) B hy;have⟨fr,callers,status,dying,offers⟩:=g;have p:=hg.frame;have⟨D,tmps,todo,defers,md,kind,ro⟩:=fr;cases md with
 |panicking ch=>exact p.mode.elim
 |returning=>exact A _ (agW h p.defers)
 |run=>
  have hi:=p.items;cases todo with
  |nil=>cases h
  |cons i k=>
   have n:=hi i (fZ ..);cases i with
   |inRegion ops todo=>
    cases todo with
    |nil=>cases h
    |cons j rest=>
     simp[Frame.about] at h;cases ho:ops[j]? with
     |none=>rw[ho] at h;cases h
     |some o=>
      rw[ho] at h;dsimp only at h;have u:=(n o (kP ho)).resolve_right (hns rfl _ _ _ _ _ rfl ho);cases f:o.op with
      |call c=>
       rw[f] at h;dsimp only at h;generalize hr:(resolve _ c o.type).run P v'=r at h;cases r with
       |halt y w=>cases h
       |ok d w=>
       refine aat (Ns (fun y hy=>?_) (by have:=u.1;rw[f] at this;exact this) hr) h;exact E y (u.2 y (by rw[f];exact hy))
      |_=>rw[f] at h;cases h
   |code H=>
    cases H with
    |rangeFunc q ps a b=>
     have C:jB P S (.rangeFunc q ps a b):=n;simp[Frame.about] at h;cases hr:(Instr.enterLoop D tmps ps a b ro).run P v' with
     |halt y v1=>rw[hr] at h;cases h
     |ok y v1=>
      have⟨l,mark⟩:=y;rw[hr] at h;dsimp only at h;have m:=E q C.1;cases e:(resolve _ {callee:=.value q,args:=#[.const _],argTypes:=#[]} 0).run P v1 with
      |halt y w=>rw[e] at h;cases h
      |ok d w=>
       rw[e] at h;dsimp only at h;simp[resolve] at e;generalize Frame.eval _ q=y at e m;cases y with
       |func f1 a1 I=>
       simp[Deferred.ofValue,pure,Sem.run,aaG] at e;obtain⟨rfl,_⟩:=e;rw[uf] at m;have⟨G,_,F⟩:=Zd m;refine aat (S:=N) (t:=.fn f1 I) ?_ h;show Target.fn _ _=Target.fn _ _;rw[G];unfold vals;rw[F]
       |nilFunc=>
       simp[Deferred.ofValue,pure,Sem.run,aaG] at e;obtain⟨rfl,_⟩:=e;cases h
       |_=>simp[Deferred.ofValue,stuck] at e
    |_=>cases h
   |call d a r s=>exact n.elim
   |_=>cases h
def Fit(P:aH)(g:dD):Prop:=yD g.frame/\∀v' x,g.frame.about P v'=some x->¬jE.nm x
theorem Fit.of{g}(h:yD g.frame)(hn:∀x,¬jE.nm x):Fit P g:=⟨h,fun _ x _=>hn x⟩
end
section
variable[Mps][jE]{P:aH}{S:aI->Prop}
theorem Nb{g g' v v'}(h:solo g v=solo g' v'):g=g'/\v=v':=by simp[solo] at h;exact⟨h.2,h.1⟩
theorem pX:aG P S bottom:=⟨fun i hi=>(by cases hi),fun d hd=>.inl (eY.1 hd),trivial,.inl rfl⟩
structure Low(g:dD):Prop where
 callers:g.callers=[]
 todo:g.frame.todo=[]
 defers:g.frame.defers=[jI]
 round:g.frame.roundOf=none
structure Fin(gf:dD):Prop where
 calm:¬XZ gf.frame
 up:gf.callers≠[]
theorem Nv(fr:aC)(a):(fr.raise a).todo=fr.todo/\(fr.raise a).roundOf=fr.roundOf:=by unfold Frame.raise;split<;>exact⟨rfl,rfl⟩
theorem Z5{cs0 g1}(h:Last cs0 g1)(hu:∃cs,cs0=cs++[bottom]):Up g1\/Low g1:=by
 have⟨cs,e⟩:=hu;rcases h bottom cs e with h|⟨h1,h2⟩
 .exact .inl h
 refine .inr ?_;rcases h2 with h2|⟨x,h2⟩|⟨vs,h2⟩
 .exact⟨h1,by rw[h2];rfl,by rw[h2];rfl,by rw[h2];rfl⟩
 .exact⟨h1,by rw[h2];rfl,by rw[h2];rfl,by rw[h2];rfl⟩
 exact⟨h1,by rw[h2,(Nv _ _).1];rfl,by rw[h2,AB];rfl,by rw[h2,(Nv _ _).2];rfl⟩
theorem adv{g v}(hl:Low g)(hd:g.dying=none):(∃o w es,stepG P true g v=.ended o w es) \/ ∃g1 es,stepG P true g v=.go g1 v es/\Low g1/\g1.dying=none/\g1.status=.running:=by
 have⟨fr,callers,status,dying,offers⟩:=g;have⟨h1,h2,c,b⟩:=hl;dsimp only at h1 h2 c b hd;subst h1 hd;unfold stepG;dsimp only;have a:∃o w es,unwind P true fr [] none v=.ended o w es:=by unfold unwind;rw[c];have⟨o,es,e⟩:=jv P {fr with defers:=[]} [] none v;exact⟨o,v,es,e⟩
 cases hm:fr.mode with
 |run=>
 right;refine⟨{frame:={fr with mode:=.returning},callers:=[],status:=.running,dying:=none},#[],?_,⟨rfl,h2,c,b⟩,rfl,rfl⟩;unfold stepG.exec;simp only[h2,b];rfl
 |returning=>exact .inl a
 |panicking ch=>exact .inl a
inductive Gone (P:aH) (S:aI->Prop) (g:dD) (v:ay):Prop
 |low (h:Low g)
 |XZ (hn:NV (kd P S) v) (hp:XZ g.frame) (hdef:∀d∈g.frame.defers,xN d) (hcs:∀c∈g.callers,aG P S c) (hu:Up g)
theorem ain{m l}(h:Steps P m l):∀{g gf v d},m=solo g v->l=solo gf d->g.status=.running->g.dying=none->Gone P S g v->Fin gf->False:=by
 obtain⟨n,hn⟩:=h;induction n generalizing m with
 |zero=>
  intro g gf v d k c _ _ hg hf;simp[runN,J3] at hn;obtain⟨rfl,rfl⟩:=Nb (k.symm.trans (hn.trans c));cases hg with
  |low h=>exact hf.up h.callers
  |XZ _ hp=>exact hf.calm hp
 |succ n ih=>
  intro g gf v d k c hst hd hg hf;subst k;simp[runN] at hn;cases hs:step P _ with
  |ended o w=>rw[hs] at hn;simp at hn
  |next m1=>
   rw[hs] at hn;cases hg with
   |low h=>
   rcases adv h hd with⟨o,w,es,e⟩|⟨g1,es,e,h1,h2,q⟩
   .obtain⟨g1,v1,es1,b,_⟩:=Ar hst hs (by rw[e];trivial)
    rw[e] at b;cases b
   obtain⟨r,v1,es1,b,j⟩:=Ar hst hs (by rw[e];trivial);rw[e] at b;obtain⟨rfl,rfl,rfl⟩:=b;exact ih hn j c q h2 (.low h1) hf
   |XZ i hp hdef hcs hu=>
   have hne:g.callers≠[]:=by obtain⟨cs,e⟩:=hu;rw[e];simp
   have a:=aaV (m:=true) i hd hp hdef hcs (.inl hne);obtain⟨g1,v1,es,b,j⟩:=Ar hst hs (by cases p:stepG P true g v<;>rw[p] at a<;>first|trivial|exact a.elim)
   rw[b] at a;obtain⟨a,f⟩:=a;refine ih hn j c a.run a.dying ?_ hf;rcases Z5 a.last hu with h|h
   .exact .XZ a.nv f a.defers a.callers h
   exact .low h
theorem abp(i:bz P)(hS:mM P S){g gf v f}(h:Steps P (solo g v) (solo gf f))(hf:Fin gf)(hn:NV (kd P S) v)(hg:SB P S g)(hst:g.status=.running)(hu:Up g)(hns:Fit P g)(k:P.globals.size<=v.heap.size)(hc:EY (Nm S) g v):(g=gf/\v=f) \/ ∃g1 v1 es,stepG P true g v=.go g1 v1 es/\jc g1/\g1.status=.running/\Le v v1/\NV (kd P S) v1/\SB P S g1/\Up g1/\EY (Nm S) g1 v1/\Steps P (solo g1 v1) (solo gf f):=by
 have⟨n,h⟩:=h;cases n with
 |zero=>simp[runN,J3] at h;exact .inl (Nb h)
 |succ n=>
  simp[runN] at h;cases hs:step P _ with
  |ended o w=>rw[hs] at h;simp at h
  |next m1=>
  rw[hs] at h;have hne:g.callers≠[]:=by have⟨cs,e⟩:=hu;rw[e];simp
  have hl:∀x,g.frame.about P v=some x->S x:=fun x hx=>(IJ hg hns.1 (fun _ h=>.inl h) hc hx).resolve_right (hns.2 _ _ hx);have a:=aaW (m:=true) i hS hn hg hne hns.1 hl;have⟨g1,v1,es,d,r⟩:=Ar hst hs (by cases p:stepG P true g v<;>rw[p] at a<;>first|trivial|exact a.elim);rw[d] at a;subst r;have c:Gone P S g1 v1->False:=fun q=>ain ⟨n,h⟩ rfl rfl a.run a.dying q hf;have hup:Up g1:=by
   rcases Z5 a.last hu with h|h
   .exact h
   exact(c (.low h)).elim
  rcases a.frame with b|b
  .have hsm:jc g1:=⟨a.dying,.inl a.run,b.mode⟩;have⟨_,s,j,l⟩:=qZ (m':=true) i hS hn hg hu hns.1 hl d hsm hup v.tape (fun _ _ _=>rfl);exact .inr ⟨g1,v1,es,d,hsm,a.run,s,j,l,hup,KR i hS hn hg hu hns.1 hl k d hsm hup (fun _ h=>.inl h) hc,n,h⟩
  exact(c (.XZ a.nv b a.defers a.callers hup)).elim
end
section
variable[M:Mps][jE]{P:aH}{S:aI->Prop}
def wt(v:ay)(t:Nat->Question->Nat):ay:={v with tape:=t}
structure Ok(P:aH)(S:aI->Prop)(g:dD)(v:ay):Prop where
 nv:NV (kd P S) v
 wX:SB P S g
 run:g.status=.running
 up:Up g
 vg:P.globals.size<=v.heap.size
 bound:EY (Nm S) g v
 clean:Clean S v
theorem Ok.wt{g:dD}{v:ay}(h:Ok P S g v)(t:Nat->Question->Nat):Ok P S g (wt v t):=⟨h.nv,h.wX,h.run,h.up,h.vg,h.bound,h.clean⟩
theorem Ok.un{g v t}(h:Ok P S g (Ren.wt v t)):Ok P S g v:=⟨h.nv,h.wX,h.run,h.up,h.vg,h.bound,h.clean⟩
theorem Ok.ne{g v}(h:Ok P S g v):g.callers≠[]:=by have⟨cs,e⟩:=h.up;rw[e];simp
theorem Ok.leads{g v}(h:Ok P S g v)(hns:Fit P g)(v'):∀x,g.frame.about P v'=some x->S x:=fun _ hx=>(IJ h.wX hns.1 (fun _ h=>.inl h) h.bound hx).resolve_right (hns.2 _ _ hx)
theorem abS(d:bz P)(hS:mM P S){g gf v a}(h:Steps P (solo g v) (solo gf a))(hf:Fin gf)(hok:Ok P S g v)(b:∀x,¬jE.nm x)(hns:Fit P g):(g=gf/\v=a) \/ ∃g1 v1 es,stepG P true g v=.go g1 v1 es/\jc g1/\Le v v1/\Ok P S g1 v1/\Steps P (solo g1 v1) (solo gf a):=by
 rcases abp d hS h hf hok.nv hok.wX hok.run hok.up hns hok.vg hok.bound with h|⟨g1,v1,es,h1,h2,k,c,j,i,f,h8,e⟩
 .exact .inl h
 exact .inr ⟨g1,v1,es,h1,h2,c,⟨j,i,k,f,bM hok.vg c.size,h8,(x9 b S▸h8).clean⟩,e⟩
theorem Alike.named{n F F' f f'}(h:Alike (Nm S) n F F' f f'):Alike S n F F' f f':=⟨h.blk,fun g hg=>h.xP g (.inl hg)⟩
theorem Ok.NZ{g v}(h:Ok P S g v)(H a)(e c)(ha:Alike S v.heap.size H a e c)(b:Nat)(o)(hb:v.heap[b]?=some o):@obj M H aj e o=@obj M a aj c o:=(h.clean H a e ha.xP b o hb).trans ((h.bound a a e c ⟨ha.blk,fun _ _=>rfl⟩).2 b o hb)
inductive Tree (P:aH) (S:aI->Prop) (D:dD->ay->Prop):dD->ay->Prop
 |done {g:dD} {v:ay} (ok:Ok P S g v) (h:D g v):Tree P S D g v
 |step {g:dD} {v:ay} (ok:Ok P S g v) (hns:Fit P g)
   (G:(Nat->Question->Nat)->dD) (V:(Nat->Question->Nat)->ay) (E:(Nat->Question->Nat)->Array Event)
   (he:∀t,stepG P true g (wt v t)=.go (G t) (V t) (E t)) (hsm:∀t,jc (G t)) (h:∀t,Tree P S D (G t) (V t)):Tree P S D g v
theorem Tree.of{D g v}(ok:Ok P S g v)(hns:Fit P g)(h:∀t,∃g1 v1 es,stepG P true g (wt v t)=.go g1 v1 es/\jc g1/\Tree P S D g1 v1):Tree P S D g v:=
 .step ok hns (fun t=>Classical.choose (h t)) (fun t=>Classical.choose (fB (h t))) (fun t=>Classical.choose (fB (fB (h t))))
  (fun t=>(fB (fB (fB (h t)))).1)
  (fun t=>(fB (fB (fB (h t)))).2.1)
  (fun t=>(fB (fB (fB (h t)))).2.2)
theorem Tree.ok{D g v}(h:Tree P S D g v):Ok P S g v:=by cases h<;>assumption
structure Lone(P:aH)(S:aI->Prop)(D:dD->ay->Prop) where
 g:dD
 v:ay
 bad:¬Tree P S D g v
 ok:Ok P S g v
theorem SH(L:∀fr,yD fr)(z:∀x,¬jE.nm x)(F:bz P)(hS:mM P S){D}(hD:∀g v t,Ok P S g v->D g v->D g (wt v t)){g0 v0}(hok:Ok P S g0 v0)(B:∀t,∃gf d,Fin gf/\D gf d/\Steps P (solo g0 (wt v0 t)) (solo gf d)):Tree P S D g0 v0:=by
 classical
 have q:∀g,Fit P g:=fun g=>.of (L _) z;refine JZ fun C=>?_;have hx:∀x:Lone P S D,∃t,¬ ∃g1 v1 es,stepG P true x.g _=.go g1 v1 es/\jc g1/\Tree P S D g1 v1:=fun x=>JZ fun hh=>x.bad (.of x.ok (q _) fun t=>JZ fun h=>hh ⟨t,h⟩)
 let o:Lone P S D->Nat->Question->Nat:=fun x=>Classical.choose (hx x);have I:=fun x=>fB (hx x);let Good:Lone P S D->Lone P S D->Prop:=fun x y=>∃es,stepG P true x.g (wt x.v (o x))=.go y.g y.v es/\jc y.g;let l:Lone P S D->Lone P S D:=fun x=>if h:∃y,Good x y then Classical.choose h else x
 have b:∀x,(∃y,Good x y)->Good x (l x):=fun x h=>by
  show Good x (if h:∃y,Good x y then Classical.choose h else x)
  rw[ou h];exact fB h
 have c:∀x,(¬ ∃y,Good x y)->l x=x:=fun x h=>dif_neg h;have f:∀x,x.v.drawn<=(l x).v.drawn:=fun x=>by
  by_cases h:∃y,Good x y
  .have⟨es,Y,H⟩:=b x h;have⟨_,hle,_⟩:=qZ (m:=true) (m':=true) F hS (v:=wt x.v (o x)) x.ok.nv x.ok.wX x.ok.up (q _).1 (x.ok.leads (q _) _) Y H (l x).ok.up (o x) (fun _ _ _=>rfl);exact hle.drawn
  rw[c x h];exact aA _
 let root:Lone P S D:=⟨g0,v0,C,hok⟩;let seq:Nat->Lone P S D:=fun k=>Nat.rec root (fun _ x=>l x) k;have a:∀k,seq (k+1)=l (seq k):=fun _=>rfl;have mono:∀j k,j<=k->(seq j).v.drawn<=(seq k).v.drawn:=fun j k h=>by
  induction h with
  |refl=>exact aA _
  |step _ w=>exact bM w (f _)
 have r:∀k,seq (k+1)=seq k->∀j,k<=j->seq j=seq k:=fun k h j hj=>by
  induction hj with
  |refl=>rfl
  |@step j _ w=>rw[a,w,<-a];exact h
 let A:Nat->Nat->Prop:=fun k i=>(seq k).v.drawn<=i/\(i<(seq (k+1)).v.drawn\/seq (k+1)=seq k);let T:Nat->Question->Nat:=fun i=>if h:∃k,A k i then o (seq (Classical.choose h)) i else fun _=>0
 have s:∀k i,A k i->T i=o _ i:=fun k i O=>by
  have hex:∃k,A k i:=⟨k,O⟩;have e:T i=o (seq (Classical.choose hex)) i:=ou hex;have u:=fB hex;rw[e];generalize Classical.choose hex=k' at u
  suffices hk:seq k'=seq k by rw[hk]
  rcases Nat.lt_trichotomy k k' with h|h|h
  .rcases O.2 with h1|h1
   .have:=mono (k+1) k' h;have:=u.1;omega
   exact r k h1 k' (JX h)
  .rw[h]
  rcases u.2 with h1|h1
  .have:=mono (k'+1) k h;have:=O.1;omega
  exact(r k' h1 k (JX h)).symm
 have fin:∀k gf d,D gf d->(seq k).g=gf->wt (seq k).v T=d->False:=fun k gf d hd e1 Z=>by subst e1 Z;exact(seq k).bad (.done (seq k).ok (hD (seq k).g (wt (seq k).v T) (seq k).v.tape ((seq k).ok.wt T) hd))
 have main:∀(n k:Nat) (gf:dD) (d:ay),runN P n (solo (seq k).g (wt (seq k).v T))=.next (solo gf d)->Fin gf->D gf d->False:=fun n=>by
  induction n with
  |zero=>
  intro k gf d hn hf hd;simp only[runN,J3] at hn;have⟨h1,h2⟩:=Nb hn;exact fin k gf d hd h1 h2
  |succ n w=>
  intro k gf d hn hf hd;rcases abS F hS ⟨n+1,hn⟩ hf ((seq k).ok.wt T) z (q _) with⟨h1,h2⟩|⟨g1,v1,es,h1,hsm,hle,p,J⟩
  .exact fin k gf d hd h1 h2
  have hs:step P (solo (seq k).g (wt (seq k).v T))=.next (solo g1 v1):=by rw[step,stepT_solo (seq k).ok.run,runT_solo_go h1]
  simp only[runN,hs] at hn;by_cases N:∃y,Good (seq k) y
  .have⟨U,H,W⟩:=b _ N;rw[<-a] at H W;have⟨R,V,_⟩:=qZ (m:=true) (m':=true) F hS (v:=wt (seq k).v (o (seq k))) (seq k).ok.nv (seq k).ok.wX (seq k).ok.up (q _).1 ((seq k).ok.leads (q _) _) H W (seq (k+1)).ok.up T (fun i Q h8=>s k i ⟨Q,.inl h8⟩);have G:stepG P true (seq k).g (wt (seq k).v T)=.go (seq (k+1)).g (wt (seq (k+1)).v T) U:=R;rw[h1] at G;simp only[jG] at G;exact w (k+1) gf d (by rw[<-G.1,<-G.2.1];exact hn) hf hd
  have K:seq (k+1)=seq k:=c _ N;have X:∀i,(seq k).v.drawn<=i->T i=o (seq k) i:=fun i hi=>s k i ⟨hi,.inr K⟩;have⟨R,_,_,_⟩:=qZ (m:=true) (m':=true) F hS (v:=wt (seq k).v T) (seq k).ok.nv (seq k).ok.wX (seq k).ok.up (q _).1 ((seq k).ok.leads (q _) _) h1 hsm p.up (o (seq k)) (fun i Q _=>(X i Q).symm);have E:stepG P true (seq k).g (wt (seq k).v (o (seq k)))=.go g1 (wt v1 (o (seq k))) es:=R;refine N ⟨⟨g1,wt v1 (o (seq k)),fun ht=>?_,p.wt _⟩,es,E,hsm⟩;exact I (seq k) ⟨g1,_,es,E,hsm,ht⟩
 have⟨gf,d,hf,hd,n,hp⟩:=B T;exact main n 0 gf d hp hf hd
end
section
variable[M:Mps][E:Ext]
theorem Cj{F}{f}{a}(h:∀x∈a,@val M bY E id (@val M F aj f x)=@val M F E f x):@vals M bY E id (@vals M F aj f a)=@vals M F E f a:=by unfold vals;rw[oM];exact jL fun x hx=>h x hx
theorem Vk(f)(a:aB Addr):(a.map (addr f)).map (addr id)=a.map (addr f):=Hz _
theorem val_two(F:Fr)(f:Nat→Nat):∀x:ae,@val M bY E id (@val M F aj f x)=@val M F E f x
 |.pointer a=>by rw[@aK M F aj,@aK M bY E,@aK M F E,Vk]
 |.slice a l c=>by rw[@bI M F aj,@bI M bY E,@bI M F E,Vk]
 |.map r=>by rw[@eU M F aj,@eU M bY E,@eU M F E];cases r<;>rfl
 |.chan r=>by rw[@gm M F aj,@gm M bY E,@gm M F E];cases r<;>rfl
 |.func g a b=>by rw[@dL M F aj,@dL M bY E,@dL M F E,aak,Cj fun x hx=>val_two F f x,Cj fun x hx=>val_two F f x]
 |.iface t v=>by
  rw[@dh M F aj,@dh M F E];by_cases ht:t<jT
  .rw[@FN M aj _ ht,@FN M E _ ht,@dh M bY E,@FN M E _ ht,val_two F f v]
  have e:@Wj M aj t v (@val M F aj f v)=.iface t v:=by unfold Wj;rw[aU ht];rfl
  rw[e,@dh M bY E];unfold Wj;rw[aU ht,aU ht]
 |.agg cs=>by rw[@dG M F aj,@dG M bY E,@dG M F E,Cj fun x hx=>val_two F f x]
 |.tuple cs=>by rw[@cO M F aj,@cO M bY E,@cO M F E,Cj fun x hx=>val_two F f x]
 |.bool _=>by rw[@dY M F aj,@dY M bY E,@dY M F E]
 |.int _ _=>by rw[@dK M F aj,@dK M bY E,@dK M F E]
 |.float _ _=>by rw[@dP M F aj,@dP M bY E,@dP M F E]
 |.complex _ _ _=>by rw[@dw M F aj,@dw M bY E,@dw M F E]
 |.string _=>by rw[@bV M F aj,@bV M bY E,@bV M F E]
 |.nilFunc=>by rw[@cZ M F aj,@cZ M bY E,@cZ M F E]
 |.nilIface=>by rw[@dJ M F aj,@dJ M bY E,@dJ M F E]
termination_by x=>SizeOf.sizeOf x
decreasing_by
 all_goals first
  |(have h:=IP hx;simp only[Sz,IM,IL];omega)
  |(simp only[Sv];omega)
theorem zh(F)(f)(a):@vals M bY E id (@vals M F aj f a)=@vals M F E f a:=Cj fun x _=>val_two F f x
theorem XB(F)(f)(t):@target M bY E id (@target M F aj f t)=@target M F E f t:=by cases t<;>simp[target,aak,zh];all_goals rfl
theorem Bh(F)(f)(d):@deferred M bY E id (@deferred M F aj f d)=@deferred M F E f d:=by simp[deferred,XB,zh]
theorem adG(F)(f)(i):@item M bY E id (@item M F aj f i)=@item M F E f i:=by cases i<;>simp[item,Bh,zh];all_goals rfl
theorem ads(F)(f)(m):@mode M bY E id (@mode M F aj f m)=@mode M F E f m:=by
 cases m with
 |panicking c=>simp only[mode,Lh];congr 1;refine uq fun e _=>?_;simp[Function.comp,Jj,val_two]
 |_=>rfl
theorem Rt(F)(f)(fr):@frame M bY E id (@frame M F aj f fr)=@frame M F E f fr:=by
 have h1:(fr.todo.map (@item M F aj f)).map (@item M bY E id)=fr.todo.map (@item M F E f):=by rw[Lh];exact uq fun i _=>adG F f i
 have h2:(fr.defers.map (@deferred M F aj f)).map (@deferred M bY E id)=fr.defers.map (@deferred M F E f):=by rw[Lh];exact uq fun i _=>Bh F f i
 have a:(fr.roundOf.map f).map id=fr.roundOf.map f:=by cases fr.roundOf<;>rfl
 unfold frame;dsimp only;rw[h1,h2,a,zh,ads]
theorem aae(F)(f)(g):@uG M bY E id (@uG M F aj f g)=@uG M F E f g:=by
 have h1:(g.callers.map (@frame M F aj f)).map (@frame M bY E id)=g.callers.map (@frame M F E f):=by rw[Lh];exact uq fun i _=>Rt F f i
 unfold uG;dsimp only;rw[h1,Rt]
theorem ab1(F)(f)(e):@entry M bY E id (@entry M F aj f e)=@entry M F E f e:=by simp[entry,val_two]
theorem ZR(F)(f)(o):@obj M bY E id (@obj M F aj f o)=@obj M F E f o:=by
 cases o with
 |cells c e fr=>simp[obj,zh]
 |loop l=>simp[obj,loop,zh,id]
 |deferred d=>
  cases d with
  |none=>rfl
  |some ds=>
  simp only[obj,Option.map_some,Lh];congr 2;exact uq fun i _=>Bh F f i
 |map es c=>simp only[obj,oM];congr 1;exact jL fun i _=>ab1 F f i
 |number a l=>rfl
 |mapIter m s q l=>cases m<;>rfl
 |_=>rfl
theorem aaf{F F'}{f f'}{x y}(h:@uG M F aj f x=@uG M F' aj f' y):@uG M F E f x=@uG M F' E f' y:=by rw[←aae F f,←aae F' f',h]
theorem af6{F F'}{f f'}{x y}(h:@obj M F aj f x=@obj M F' aj f' y):@obj M F E f x=@obj M F' E f' y:=by rw[←ZR F f,←ZR F' f',h]
end
section
variable[M:Mps]
section
variable[jE]{P:aH}{S:aI->Prop}
theorem JD(e:bz P)(hS:mM P S){g g1 v v1 es}(ok:Ok P S g v)(hns:Fit P g)(h:stepG P true g v=.go g1 v1 es)(hsm:jc g1)(hne:g1.callers≠[]):v.heap.size<=v1.heap.size/\∀(b:Nat) (o o1),v.heap[b]?=some o->v1.heap[b]?=some o1->dB o1=true->dB o=true:=by have h0:=vU (B:=[bottom]) (m:=true) (m':=true) lX FQ e hS (jl ok.nv) ok.wX ok.ne (TN _) hns.1 (ok.leads hns _);rw[h] at h0;have⟨j,h1⟩:=h0 hsm;have a:=j.size;have⟨w2,_,c,_⟩:=h1 hne ⟨fun i h2 f=>(by show i=v.heap.size+(i-v.heap.size);omega),fun i h2=>(by show v.heap.size+(v1.heap.size-v.heap.size)<=i;omega),fun i h2 f=>(by rw[show v.drawn+(i-v.drawn)=i by omega])⟩;exact⟨a,fun b o o1 hb d hc=>c.grows.chan hb d hc⟩
theorem QE(f:bz P)(hS:mM P S){C:Nat->Prop}{D}(hD:∀g v,D g v->∀b,C b->∀o,v.heap[b]?=some o->dB o=true){g v}(ht:Tree P S D g v):∀b,C b->∀o,v.heap[b]?=some o->dB o=true:=by
 induction ht with
 |done ok h=>exact hD _ _ h
 |@step g v ok hns G V E he hsm c e=>
 intro b hb o ho;let t:Nat->Question->Nat:=fun _ _=>0;have⟨d,h1⟩:=JD f hS (ok.wt t) hns (he t) (hsm t) (c t).ok.ne;have a:b<(V t).heap.size:=by have:=(aP.1 ho).1;have:v.heap.size<=(V t).heap.size:=d;omega
 exact h1 b o _ ho (gu a) (e t b hb _ (gu a))
end
variable[E:Ext][jE]{P:aH}{S:aI->Prop}
structure tZ(w w1:ay):Prop where
 chan:lT w w1
 os:w1.os=w.os
 output:w1.output=w.output
theorem tZ.refl(w):tZ w w:=⟨.refl w,rfl,rfl⟩
theorem tZ.trans{a b c}(h:tZ a b)(h':tZ b c):tZ a c:=⟨h.chan.trans h'.chan,h'.os.trans h.os,h'.output.trans h.output⟩
structure bP(Ro own:Nat->Prop)(w w1:ay):Prop where
 size:w.heap.size<=w1.heap.size
 keep:∀b,b<w.heap.size->Ro b\/own b->w1.heap[b]?=w.heap[b]?
 cells:dS w w1
 chans:tZ w w1
theorem bP.refl(Ro own)(w):bP Ro own w w:=⟨aA _,fun _ _ _=>rfl,.refl w,.refl w⟩
theorem bP.trans{Ro own a b c}(h:bP Ro own a b)(h':bP Ro own b c):bP Ro own a c:=⟨bM h.size h'.size,fun x hx ho=>(h'.keep x (bT hx h.size) ho).trans (h.keep x hx ho),h.cells.trans h'.cells,h.chans.trans h'.chans⟩
def EvO(Ro own:Nat->Prop)(e:Event):Prop:=
 match e.loc with
 |.cell a=>own a.block\/(Ro a.block/\e.write=false)
 |.obj r=>own r\/(Ro r/\e.write=false)
 |.mark m=>m=.noRoom
 |_=>False
structure Zl(q:Bool)(X:Event->Prop)(Ro own own':Nat->Prop)(w w':ay)(es:Array Event):Prop where
 quiet:q=true->w'=w/\es=#[]
 size:w.heap.size<=w'.heap.size
 keep:∀b,b<w.heap.size->¬own b->w'.heap[b]?=w.heap[b]?
 same:w'={w with heap:=w'.heap,drawn:=w'.drawn}
 own:∀b,own' b->own b\/(w.heap.size<=b/\b<w'.heap.size)
 evs:∀e∈es,EvO Ro own' e\/X e
 cells:dS w w'
 chans:tZ w w'
def more(own:Nat->Prop)(w w':ay):Nat->Prop:=fun b=>own b\/(w.heap.size<=b/\b<w'.heap.size)
inductive Way (P:aH) (m:Bool) (Ro:Nat->Prop) (Live:ay->Prop) (q:Bool) (X:Event->Prop) (Stop:dD->ay->(Nat->Prop)->Prop):dD->ay->(Nat->Prop)->Prop
 |stop {g:dD} {w:ay} {own:Nat->Prop} (hs:g.status=.running) (h:∀w1,bP Ro own w w1->Live w1->Stop g w1 own):Way P m Ro Live q X Stop g w own
 |step {g:dD} {w:ay} {own:Nat->Prop} (hs:g.status=.running)
   (G:ay->dD) (W:ay->ay) (E:ay->Array Event)
   (he:∀w1,bP Ro own w w1->Live w1->stepG P m g w1=.go (G w1) (W w1) (E w1)/\Zl q X Ro own (more own w1 (W w1)) w1 (W w1) (E w1))
   (h:∀w1,bP Ro own w w1->Live w1->Way P m Ro Live q X Stop (G w1) (W w1) (more own w1 (W w1))):Way P m Ro Live q X Stop g w own
theorem Way.status{P m Ro Live q X Stop g w own}(h:Way P m Ro Live q X Stop g w own):g.status=.running:=by cases h<;>assumption
def Held(Ro own Hid:Nat->Prop)(b':Nat)(o:Obj):Prop:=(own b'/\o.isChan=false)\/qA o=true\/(Ro b'/\(Shut o \/ ∃x,o=.coro x))\/(Hid b'/\o.isChan=true)
structure eX(P:aH)(S:aI->Prop)(Ro own Hid:Nat->Prop)(f:Nat->Nat)(g:dD)(v w:ay):Prop where
 ok:Ok P S g v
 inj:∀a b,a<v.heap.size->b<v.heap.size->f a=f b->a=b
 fix:∀g,g<P.globals.size->f g=g
 rq:qJ f (kd P S) v w
 held:∀b o,v.heap[b]?=some o->Held Ro own Hid (f b) o
theorem eX.below{Ro own Hid f g v w}(h:eX P S Ro own Hid f g v w){i}(hi:i<v.heap.size):f i<w.heap.size:=by have⟨o',h1,_⟩:=h.rq.block i _ (gu hi);exact(aP.1 h1).1
def bH(f:Nat->Nat)(v w:ay):Nat->Nat:=fun i=>if i<v.heap.size then f i else w.heap.size+(i-v.heap.size)
theorem eG{f v w i}(h:i<v.heap.size):bH f v w i=f i:=aY h
theorem jh{f v w i}(h:v.heap.size<=i):bH f v w i=w.heap.size+(i-v.heap.size):=aU (PG.2 h)
theorem FO{f f' B g}(h:uG f g=uG f' g)(hu:Up g):bF f B g=bF f' B g:=by have⟨cs,e⟩:=hu;have h1:g.callers.map _=g.callers.map _:=bU Goroutine.callers h;rw[e,F5,F5] at h1;have h2:=(List.append_inj h1 (by simp)).1;unfold bF;rw[h,e,yG,yG,h2]
theorem qI.congr{f f' o o'}(h:qI f o o')(e:obj f o=obj f' o):qI f' o o':=by
 cases o with
 |coro=>exact h
 |cells c e1 fr=>
 obtain⟨c',fr',rfl,h2⟩:=h;refine⟨c',fr',rfl,fun hc=>?_⟩;have⟨b,a⟩:=h2 hc;exact⟨b.trans (UL e).1,a⟩
 |chan=>exact h
 |_=>first|exact⟨h.1,h.2.trans e⟩
theorem CG{f o o'}(h:qI f o o')(hc:o'.isChan=true):dB o=true:=by
 cases o with
 |cells c e fr=>
 obtain⟨_,_,rfl,_⟩:=h;cases hc
 |chan=>rfl
 |coro=>rfl
 |_=>first|(have e:=h.2;subst e;simp[obj,Obj.isChan] at hc;done)|(have e:=h.1;cases e;done)
theorem eX.rely{Ro own Hid f g v w w1}(h:eX P S Ro own Hid f g v w)(hr:bP Ro own w w1)(B):eX P S Ro own Hid (bH f v w1) g v w1/\yZ (bH f v w1)/\bF f B g=bF (bH f v w1) B g:=by
 have j:∀i,i<v.heap.size->f i=bH f v w1 i:=fun i hi=>(eG hi).symm;have⟨m,l⟩:=h.ok.bound bY bY f _ ⟨j,fun _ _=>rfl⟩;have hg:=aaf m;have ho:=fun b o hb=>af6 (l b o hb);have c:yZ (bH f v w1):=fun a b e=>by
  have h1:=hr.size;rcases kJ a v.heap.size with ha|ha<;>rcases kJ b v.heap.size with hb|hb
  .rw[eG ha,eG hb] at e
   exact h.inj a b ha hb e
  .rw[eG ha,jh hb] at e
   have:=h.below ha
   omega
  .rw[jh ha,eG hb] at e
   have:=h.below hb
   omega
  rw[jh ha,jh hb] at e;omega
 refine⟨⟨h.ok,fun a b _ _=>c a b,fun x hx=>?_,⟨h.rq.good,fun b o hb=>?_⟩,fun b o hb=>?_⟩,c,FO hg h.ok.up⟩
 .rw[eG (bT hx h.ok.vg)]
  exact h.fix x hx
 .have k:=(aP.1 hb).1
  have⟨o',h1,h2⟩:=h.rq.block b o hb;rw[<-j b k];have old:Ro (f b)\/own (f b)->∃o',w1.heap[f b]?=some o'/\qI _ o o':=fun hk=>⟨o',by rw[hr.keep _ (h.below k) hk];exact h1,h2.congr (ho b o hb)⟩;rcases h.held b o hb with hk|hk|⟨hk,_⟩|⟨hk,d⟩
  .exact old (.inr hk.1)
  .cases o<;>first|(cases hk;done)|skip
   have⟨c',fr',e,_⟩:=h2;subst e;have⟨c2,p,n⟩:=hr.cells _ _ _ _ h1;refine⟨_,n,c2,p,rfl,fun hne=>?_⟩;rw[show Array.isEmpty _=true from hk] at hne;cases hne
  .exact old (.inl hk)
  have hh:=Ii (by cases o<;>first|rfl|(cases d;done)) h2
  have⟨q,n,r⟩:=hr.chans.chan _ _ h1 (hh.isChan▸d);exact⟨q,n,vW (.inl ⟨d,r⟩)⟩
 rw[<-j b (aP.1 hb).1];exact h.held b o hb
theorem YC{Ro own Hid}{X:Event->Prop}(n:∀e r,Hid r->e.loc=.obj r->e.write=false->e.sync=true->X e){f v i}(hk:Ce v i)(g:∀b o,v.heap[b]?=some o->Held Ro own Hid (f b) o):EvO Ro own (event f i)\/X (event f i):=by
 have⟨l,wr,sy⟩:=i;unfold Ce at hk;cases l with
 |cell a=>
  have⟨o,h2,m,k,h8⟩:=hk;left;unfold EvO event loc;rcases g _ _ h2 with d|d|⟨d,h⟩|⟨_,h⟩
  .exact .inl d.1
  .rw[m] at d;cases d
  .rcases h with h|⟨x,rfl⟩
   .refine .inr ⟨d,?_⟩;cases wr with
    |false=>rfl
    |true=>exact absurd h (k rfl)
   cases h8
  cases o<;>first|(cases h;done)|(cases h8;done)
 |obj r=>
  have⟨o,h2,m,k,h8,j⟩:=hk;rcases g _ _ h2 with d|d|⟨d,h⟩|⟨d,h⟩
  .exact .inl (.inl d.1)
  .rw[m] at d;cases d
  .rcases h with⟨c,e,hi,rfl,_⟩|⟨x,rfl⟩
   .exact absurd rfl (k _ _ _)
   exact .inl (.inr ⟨d,h8 rfl⟩)
  exact .inr (n _ (f r) d rfl (h8 (by cases o<;>first|rfl|(cases h;done))) (j h))
 |mark mk=>have e:=hk;subst e;exact .inl rfl
 |output=>exact hk.elim
 |goroutines=>exact hk.elim
theorem MI(hz:bz P)(hS:mM P S){m Ro Hid Live X}(hX:∀e r,Hid r->e.loc=.obj r->e.write=false->e.sync=true->X e){Stop B g v}(ok:Ok P S g v)(hns:Fit P g){G:(Nat->Question->Nat)->dD}{V:(Nat->Question->Nat)->ay}{E:(Nat->Question->Nat)->Array Event}(he:∀t,stepG P true g (wt v t)=.go (G t) (V t) (E t))(hsm:∀t,jc (G t))(K:∀t,Ok P S (G t) (V t)){f w own}(hp:eX P S Ro own Hid f g v w)(hC:∀t (b:Nat) (o o1),v.heap[b]?=some o->dB o=true->(V t).heap[b]?=some o1->dB o1=true)(L:∀b,Ro b->b<w.heap.size/\¬own b)(C:∀t f' w' own',eX P S Ro own' Hid f' (G t) (V t) w'->bP Ro (fun _=>False) w w'->(∀b,Ro b->b<w'.heap.size/\¬own' b)->(∀i,i<v.heap.size->f' i=f i)->v.heap.size<=(V t).heap.size->(∀(b:Nat) (o),(V t).heap[b]?=some o->dB o=true->∃o0,v.heap[b]?=some o0/\dB o0=true)->Way P m Ro Live false X Stop (bF f' B (G t)) w' own'):Way P m Ro Live false X Stop (bF f B g) w own:=by
 let T:ay->Nat->Question->Nat:=fun w1 i=>w1.tape (w1.drawn+(i-v.drawn));have key:∀w1,bP Ro own w w1->Live w1->∃w2,stepG P m (bF f B g) w1=.go _ w2 _/\v.heap.size<=(V (T w1)).heap.size/\Zl false X Ro own _ w1 w2 _/\eX P S Ro _ Hid _ _ _ w2/\(∀b o,(V (T w1)).heap[b]?=some o->dB o=true->∃o0,v.heap[b]?=some o0/\dB o0=true):=fun w1 hr hl=>by
  have⟨k,A,heq⟩:=hp.rely hr B;have z:=K (T w1);have N:qJ _ _ (wt v (T w1)) w1:=⟨k.rq.good,k.rq.block⟩;have h0:=vU (B:=B) (m:=true) (m':=m) A k.fix hz hS N ok.wX ok.ne (TN _) hns.1 (ok.leads hns _);rw[he (T w1)] at h0;have⟨hle,h1⟩:=h0 (hsm (T w1));have q:=hle.size;have Q:nG (bH f v w1) (wt v (T w1)) (V (T w1)) w1:=by refine⟨fun i h2 l=>jh h2,fun i h2=>?_,fun i h2 l=>rfl⟩;rw[jh (show v.heap.size<=i from bM q h2)];show w1.heap.size+((V (T w1)).heap.size-v.heap.size)<=_;omega
  have⟨w2,e1,d,R,hg1⟩:=h1 z.ne Q;have J:=d.size;have I:∀b o o1,v.heap[b]?=some o->dB o=true->(V (T w1)).heap[b]?=some o1->dB o1=true:=fun b o o1 hb hc u=>hC (T w1) b o o1 hb hc u;have n:∀b o,(V (T w1)).heap[b]?=some o->Held Ro (more own w1 w2) Hid _ o:=fun b o hb=>by
   have hblt:=(aP.1 hb).1;rcases kJ b v.heap.size with j|s
   .have p:v.heap[b]?=some v.heap[b]:=gu j;have same:dB v.heap[b]=true->o=v.heap[b]:=fun Y=>by
     have:=(d.chan b _ o p hb (I b _ o p Y hb)).1;have h9:(wt v (T w1)).heap[b]?=some v.heap[b]:=p;rw[hb,h9] at this;exact aN this
    rcases k.held b _ p with h2|h2|⟨h2,l⟩|⟨h2,l⟩
    .refine .inl ⟨.inl h2.1,?_⟩;have⟨o2,Z,h5⟩:=d.grows.adm b _ p h2.2;rw[hb] at Z;rw[aN Z];exact h5
    .right;left;have:=d.grows.gone b _ p h2;rw[hb] at this;rw[aN this];exact h2
    .right;right;left;rcases l with l|⟨x,l⟩
     .have:=d.grows.shut b _ p l;rw[hb] at this;exact⟨h2,.inl (by rw[aN this];exact l)⟩
     exact⟨h2,.inr ⟨x,by rw[same (by rw[l];rfl)];exact l⟩⟩
    right;right;right;exact⟨h2,by rw[same (by revert l;cases v.heap[b]<;>intro l<;>first|rfl|(cases l;done))];exact l⟩
   refine .inl ⟨.inr ?_,by have:=d.fresh b o s hb;cases o<;>first|rfl|(cases this;done)⟩
   rw[jh s];have:w2.heap.size=w1.heap.size+((V (T w1)).heap.size-v.heap.size):=J;omega
  refine⟨w2,by rw[heq];exact e1,q,⟨fun h=>(by cases h),by rw[J];omega,fun b hb O=>?_,d.right.same,fun b hb=>hb,fun e W=>?_,d.cells,⟨fun b' o' y H=>?_,by rw[d.right.same],by rw[d.right.same]⟩⟩,⟨z,fun a b _ _=>A a b,k.fix,d.rq,n⟩,fun b o hb hc=>?_⟩
  .by_cases hx:∃c o,v.heap[c]?=some o/\bH f v w1 c=b/\dB o=true
   .obtain⟨c,o,hc,rfl,F⟩:=hx;have j:c<(V (T w1)).heap.size:=by have:=(aP.1 hc).1;have:v.heap.size<=(V (T w1)).heap.size:=q;omega
    have u:=gu j;exact(d.chan c o _ hc u (I c o _ hc F u)).2
   refine d.keeps b hb fun c o hc e=>?_;rcases k.held c o hc with h2|h2|⟨_,h2⟩|⟨_,h2⟩
   .rw[e] at h2;exact absurd h2.1 O
   .exact .inl h2
   .rcases h2 with h2|⟨x,rfl⟩
    .exact .inr h2
    exact absurd ⟨c,_,hc,e,rfl⟩ hx
   exact absurd ⟨c,o,hc,e,by cases o<;>first|rfl|(cases h2;done)⟩ hx
  .obtain⟨e0,U,rfl⟩:=UK.1 W;exact YC hX (R e0 U) n
  .by_cases hx:∃c o,v.heap[c]?=some o/\bH f v w1 c=b'/\dB o=true
   .obtain⟨c,o,hc,rfl,F⟩:=hx;have j:c<(V (T w1)).heap.size:=by have:=(aP.1 hc).1;have:v.heap.size<=(V (T w1)).heap.size:=q;omega
    exact⟨o',by rw[(d.chan c o _ hc (gu j) (I c o _ hc F (gu j))).2];exact y,H⟩
   refine⟨o',?_,H⟩;rw[d.keeps b' (aP.1 y).1 fun c o hc e=>?_]
   .exact y
   have⟨o1,h1,h2⟩:=k.rq.block c o hc;rw[e,y] at h1;obtain rfl:=aN h1;exact absurd ⟨c,o,hc,e,CG h2 H⟩ hx
  rcases kJ b v.heap.size with j|s
  .have p:v.heap[b]?=some v.heap[b]:=gu j;exact⟨_,p,d.grows.chan p hb hc⟩
  have:=d.fresh b o s hb;rw[this] at hc;cases hc
 classical
 refine .step ok.run (fun w1=>bF (bH f v w1) B (G (T w1))) (fun w1=>if h:bP Ro own w w1/\Live w1 then Classical.choose (key w1 h.1 h.2) else w1) (fun w1=>(E (T w1)).map (event (bH f v w1))) (fun w1 hr hl=>?_) (fun w1 hr hl=>?_)
 .have hk:=fB (key w1 hr hl);simp only[ou (And.intro hr hl)];exact⟨hk.1,hk.2.2.1⟩
 have hk:=fB (key w1 hr hl);simp only[ou (And.intro hr hl)];have hg:=hk.2.2.1;have D:∀b,Ro b->b<(Classical.choose (key w1 hr hl)).heap.size/\¬more own w1 (Classical.choose (key w1 hr hl)) b:=fun b hb=>by have⟨h1,h2⟩:=L b hb;have l:=hr.size;have Z:=hg.size;exact⟨by omega,fun h=>h.elim h2 fun h=>by omega⟩
 refine C (T w1) _ _ _ hk.2.2.2.1 ⟨bM hr.size hg.size,fun b hb ho=>?_,hr.cells.trans hg.cells,hr.chans.trans hg.chans⟩ D (fun i hi=>eG hi) hk.2.1 hk.2.2.2.2;rcases ho with ho|ho
 .have⟨h1,h2⟩:=L b ho;exact(hg.keep b (bT hb hr.size) h2).trans (hr.keep b hb (.inl ho))
 exact ho.elim
end
section
variable[M:Mps][jE]{P:aH}{S:aI->Prop}
theorem Vy{α β:Type}{Q K s}{s':Sem β}(h:aO P id K Q s s'){v v1}{a:α}(hn:NV K v)(hr:s.run P v=.ok a v1){t}(ht:∀i,v.drawn<=i->i<v1.drawn->t i=v.tape i):∃b,s'.run P (wt v t)=.ok b (wt v1 t)/\Q a b/\NV K v1/\Le v v1:=by
 have hs:qJ (id) K v (wt v t):=⟨(jl hn).good,(jl hn).block⟩;have e:=mf P s v #[];rw[hr] at e;generalize f:s.runT P v #[]=q at e;have⟨q,es⟩:=q;cases e;have n:=h.size hn f;have k:=n.size;have⟨b,w1,g,m,c,_⟩:=h.runT lX hs (fun e he=>by simp at he) f ⟨fun i h1 h2=>(by show i=v.heap.size+_;omega),fun i h1=>(by show v.heap.size+(v1.heap.size-v.heap.size)<=i;omega),fun i h1 h2=>by show t (v.drawn+(i-v.drawn))=_;rw[show v.drawn+(i-v.drawn)=i by omega];exact ht i h1 h2⟩
 have hd:=c.drawn;have l:=n.drawn;have hh:=c.exact rfl ⟨⟨fun _=>rfl,fun _=>rfl⟩,fun _ _=>rfl⟩ rfl;have d:=c.right.same;have j:=n.same;have:w1=wt v1 t:=by rw[d,j];unfold wt at hd⊢;dsimp only at hd⊢;rw[<-hh,show w1.drawn=v1.drawn by omega]
 refine⟨b,?_,m,c.rq.nv,n⟩;rw[<-mf P s' _ #[],<-this];rw[DJ] at g;rw[g]
def Leaves(P:aH)(fn:aI)(Post:ae->ay->Prop)(g:dD)(v:ay):Prop:=∃fr x,g=G fr [bottom]/\fr.fn=fn/\fr.leaving P v (.returned x)/\Post x v
theorem Qd(n:∀fr,yD fr)(c:∀x,¬jE.nm x)(l:bz P)(hS:mM P S){fn args v Post}(hP:∀x v t,Post x v->Post x (wt v t))(hok:Ok P S (G (Frame.enter P fn args .normal) [bottom]) v)(h:∀t,Calls P fn args (wt v t) fun e w'=>∃x,e=.returned x/\Post x w'):Tree P S (Leaves P fn Post) (G (Frame.enter P fn args .normal) [bottom]) v:=by
 refine SH n c l hS (fun g v t hok hd=>?_) hok (fun t=>?_)
 .obtain⟨fr,x,rfl,hf,⟨hm,d,hk,q,m,hr⟩,hp⟩:=hd;refine⟨fr,x,rfl,hf,⟨hm,d,hk,q,m,?_⟩,hP _ _ _ hp⟩;have a:=zA (P:=P) (f:=id) (K:=kd P S) q fr.tmps;have⟨b,k,p,_⟩:=Vy a hok.nv hr (t:=t) (fun i h1 h2=>by omega);rw[xU] at k;have o:b=x:=by have:=p;unfold aJ at this;rw[this,qX]
  rw[k,o]
 obtain⟨e,w',fr,⟨x,rfl,hp⟩,hc,hf,hl⟩:=h t [bottom];have j:Steps P _ _:=hc;refine⟨G fr [bottom],w',⟨?_,by simp[G]⟩,⟨fr,x,rfl,hf,hl,hp⟩,j⟩;rintro⟨ch,hm⟩;have:=hl.1;rw[show fr.mode=.panicking ch from hm] at this;cases this
end
section
variable[M:Mps]{P:aH}{S:aI→Prop}
theorem SL{fr}(h:aG P S fr):(∀i∈fr.todo,iy P S i)∧(∀d∈fr.defers,xN d)∧bf fr.mode∧(fr.kind=.normal∨fr.kind=.deferred):=⟨h.items,h.defers,h.mode,h.kind⟩
theorem aaU{g}{v}(h:Ok P S g v):NV (kd P S) v∧aG P S g.frame∧P.globals.size≤v.heap.size∧EY S g v:=⟨h.nv,h.wX.frame,h.vg,x9 (fun _ h=>h) S▸h.bound⟩
theorem XD(hS:mM P S){fn}{args}{v}(hfn:S fn)(hn:NV (kd P S) v)(hg:P.globals.size≤v.heap.size)(hb:EY S (G (Frame.enter P fn args .normal) [bottom]) v):Ok P S (G (Frame.enter P fn args .normal) [bottom]) v:=⟨hn,⟨Bg hS hfn args (.inl rfl),fun c hc=>by rw[eY.1 hc];exact pX,rfl⟩,rfl,⟨[],rfl⟩,hg,(x9 (fun _ h=>h) S).symm▸hb,hb.clean⟩
theorem qM.loose[jE]{c}(h:@qM M kD P S c):qM P S c:=by
 induction c with
 |region _ ops d=>exact fun o ho=>(h o ho).imp id fun h=>h.elim
 |seq a b f e=>exact⟨f h.1,e h.2⟩
 |cond c a b f e=>exact⟨h.1,f h.2.1,e h.2.2⟩
 |block _ a ih=>exact ih h
 |loop a ih=>exact ih h
 |scope a ih=>exact ih h
 |rangeFunc g ps a b f e=>exact h
 |_=>exact trivial
theorem aG.loose[jE]{fr}(h:@aG M kD P S fr):aG P S fr:=by
 obtain⟨a,hd,hm,hk⟩:=SL h;refine⟨fun i hi=>?_,hd,hm,hk⟩;have h0:=a i hi;cases i with
 |code c=>exact qM.loose h0
 |inLoop c=>exact qM.loose h0
 |inScope c=>exact qM.loose h0
 |inRegion ops l=>exact fun o ho=>(h0 o ho).imp id fun h=>h.elim
 |_=>exact h0
theorem Alike.mono{n m}{F F'}{f f'}(h:Alike S m F F' f f')(a:n≤m):Alike S n F F' f f':=⟨fun i hi=>h.blk i (by omega),h.xP⟩
theorem Ok.step[jE](d:bz P)(hS:mM P S){g g1}{v v1}{es}(ok:Ok P S g v)(hns:Fit P g)(hcl:Clean S v→Clean S v1)(h:stepG P true g v=.go g1 v1 es)(hsm:jc g1)(hup:Up g1)(hrun:g1.status=.running):Ok P S g1 v1:=by obtain⟨_,b,a,c⟩:=qZ (m':=true) d hS ok.nv ok.wX ok.up hns.1 (ok.leads hns _) h hsm hup v.tape (fun _ _ _=>rfl);exact⟨a,c,hrun,hup,bM ok.vg b.size,KR d hS ok.nv ok.wX ok.up hns.1 (ok.leads hns _) ok.vg h hsm hup (fun _ h=>.inl h) ok.bound,hcl ok.clean⟩
def pJ(S:aI→Prop)(args:Array ae):Prop:=∀(H H':Fr) (h:Nat→Nat),(∀g,S g→H.xP g=H'.xP g)→@vals M H aj h args=@vals M H' aj h args
theorem vO(H)(h)(a b):@vals M H aj h (a++b)=@vals M H aj h a ++ @vals M H aj h b:=by simp[vals]
theorem Y0[jE]{fn}{args}{cs}{v}(ok:Ok P S (G (Frame.enter P fn args .normal) cs) v)(H a)(h h')(ha:Alike (Nm S) v.heap.size H a h h'):@vals M H aj h args=@vals M a aj h' args:=by obtain⟨h1,_⟩:=ok.bound H a h h' ha;have h2:=bU (fun g=>g.frame.tmps) h1;have e:(Frame.enter P fn args .normal).tmps=args++Array.replicate _ undef:=rfl;have b:@vals M H aj h (Frame.enter P fn args .normal).tmps=@vals M a aj h' (Frame.enter P fn args .normal).tmps:=h2;rw[e,vO,vO] at b;exact(Array.append_inj b (by simp[vals])).1
theorem Ok.sub[jE](hS:mM P S){fn}{args}{cs}{v}(hfn:S fn)(ha:pJ S args)(ok:Ok P S (G (Frame.enter P fn args .normal) cs) v):@Ok M kD P S (G (Frame.enter P fn args .normal) [bottom]) v:=by refine XD hS hfn ok.nv ok.vg fun H b h h' a=>⟨?_,ok.NZ H b h h' a⟩;unfold uG;simp[yT,mi,Conc.G,fU,iw];refine⟨?_,by rw[@fQ M _ H,@fQ M _ b]⟩;have d:=@gK M H aj _ P h fn args .normal;have c:=@gK M b aj _ P h' fn args .normal;rw[d,c,ha H b h a.xP,Y0 ok b b h h' ⟨a.blk,fun _ _=>rfl⟩]
theorem Ok.back[jE]{fr d}{cs}{v v'}(h:@Ok M kD P S (G fr [bottom]) v')(ok:Ok P S (G d cs) v)(a:v.heap.size≤v'.heap.size):Ok P S (G fr cs) v':=by
 obtain⟨hn,hf,b,hb⟩:=aaU h;refine⟨hn,⟨aG.loose hf,ok.wX.callers,rfl⟩,rfl,?_,b,fun H g e f ha=>?_,hb.clean⟩
 .obtain⟨l,hl⟩:=ok.up
  exact⟨l,hl⟩
 obtain⟨h1,h2⟩:=hb H g e f ha.named;obtain⟨c,_⟩:=ok.bound H g e f (ha.mono a);refine⟨?_,h2⟩;unfold uG at h1 c⊢;simp[yT,mi,Conc.G] at h1 c⊢;exact⟨h1.1,c.2⟩
theorem Fit.leaving[jE]{fr}{cs}{v}{x}(hl:fr.leaving P v (.returned x)):Fit P (G fr cs):=⟨fun hm=>(by rw[show(G fr cs).frame.mode=fr.mode from rfl,hl.1] at hm;cases hm),fun v' y h=>(by have h':fr.about P v'=some y:=h;unfold Frame.about at h';simp[hl.1,hl.2.1] at h')⟩
theorem Tree.sharp[jE](d:bz P)(hS:mM P S){D}{g}{v}(h:Tree P S D g v):Tree P S (fun g' v'=>D g' v'∧Ok P S g' v'∧v.heap.size≤v'.heap.size) g v:=by
 have key:∀n,n≤v.heap.size→Tree P S (fun g' v'=>D g' v'∧Ok P S g' v'∧n≤v'.heap.size) g v:=by
  induction h with
  |done ok h=>exact fun n hn=>.done ok ⟨h,ok,hn⟩
  |@step g v ok hns Gs Vs Es he hsm a c=>
  intro n hn;refine .step ok hns Gs Vs Es he hsm fun t=>c t n ?_;obtain⟨b,_⟩:=JD d hS (ok.wt t) hns (he t) (hsm t) (a t).ok.ne;exact bM hn b
 exact key _ (aA _)
theorem KF{fr c}{cs}{v}{x}(hn:NV (kd P S) v)(hl:fr.leaving P v (.returned x)):∃E:(Nat→Question→Nat)→Array Event,∀t,stepG P true (G fr (c::cs)) (wt v t)=.go (G (c.finish x) cs) (wt v t) (E t):=by
 obtain⟨hm,d,hk,q,h,hr⟩:=hl;have key:∀t,∃es,stepG P true (G fr (c::cs)) (wt v t)=.go (G (c.finish x) cs) (wt v t) es:=fun t=>by
  have a:=zA (P:=P) (f:=id) (K:=kd P S) q fr.tmps;obtain⟨b,g,k,_⟩:=Vy a hn hr (fun i h1 h2=>by omega);rw[xU] at g;have j:b=x:=by have:=k;unfold aJ at this;rw[this,qX]
  subst j;have e:=mf P (results q fr.tmps) (wt v t) #[];rw[g] at e;generalize hrun:(results q fr.tmps).runT P _ #[]=z at e;obtain⟨z,es⟩:=z;cases e;refine⟨seen P fr.fn es,?_⟩;unfold Conc.G stepG;unfold unwind;simp only[d,hm,h,hrun,doReturn,hk,GStep.after];simp
 exact⟨fun t=>Classical.choose _,fun t=>fB (key t)⟩
def rV[jE](S:aI→Prop)(n:Nat)(args:Array ae):Prop:=∀(H H':Fr) (h h':Nat→Nat),Alike (Nm S) n H H' h h'→@vals M H aj h args=@vals M H' aj h' args
theorem Ok.enter[jE]{fr}{cs}{fn}{args}{v}(ok:Ok P S (G fr cs) v)(hgood:aG P S (Frame.enter P fn #[] .normal))(ha:rV S v.heap.size args):Ok P S (G (Frame.enter P fn args .normal) (fr::cs)) v:=by
 refine⟨ok.nv,⟨⟨fun i hi=>hgood.items i (by simpa[Conc.G,Frame.enter] using hi),fun d hd=>(by simp[Conc.G,Frame.enter] at hd),trivial,.inl rfl⟩,fun c hc=>?_,rfl⟩,rfl,?_,ok.vg,fun H b h h' a=>?_,ok.clean⟩
 .rcases dW.1 hc with rfl|hc
  .exact ok.wX.frame
  exact ok.wX.callers c hc
 .obtain⟨l,hl⟩:=ok.up
  exact⟨fr::l,by rw[show cs=l++[bottom] from hl];rfl⟩
 obtain⟨h1,h2⟩:=ok.bound H b h h' a;refine⟨?_,h2⟩;unfold uG at h1⊢;simp only[yT,mi,Conc.G,fU] at h1⊢;have f:=@gK M H aj _ P h fn args .normal;have e:=@gK M b aj _ P h' fn args .normal;exact⟨by rw[f,e,ha H b h h' a],by rw[h1.1,h1.2]⟩
theorem Oh[jE]{fr}{cs}{v}(ok:Ok P S (G fr cs) v){x}(hx:ed P (Nm S) x)(H a)(h h')(ha:Alike (Nm S) v.heap.size H a h h'):@val M H aj h (fr.eval x)=@val M a aj h' (fr.eval x):=by
 cases x with
 |tmp t=>
 obtain⟨h1,_⟩:=ok.bound H a h h' ha;have h2:=bU (fun g=>g.frame.tmps) h1;have b:@vals M H aj h fr.tmps=@vals M a aj h' fr.tmps:=h2;show @val M H aj h (fr.tmps.getD t undef)=@val M a aj h' (fr.tmps.getD t undef);rw[←@pU M H aj _ h fr.tmps t,←@pU M a aj _ h' fr.tmps t,b]
 |const c=>exact(@cu M H aj c hx h).trans (@cu M a aj c hx h').symm
 |global g=>
 have hg:=hx;show @val M H aj h (.pointer (some ⟨g,0,none⟩))=@val M a aj h' (.pointer (some ⟨g,0,none⟩));rw[jX,jX];simp[addr,ha.blk g (bT hg ok.vg)]
 |func g=>
 show @val M H aj h (.func (.func g) #[] #[])=@val M a aj h' (.func (.func g) #[] #[]);rw[uf,uf];have e:@fn H h (.func g)=@fn a h' (.func g):=bU Fn.func (ha.xP g hx);rw[e];simp
theorem yf[jE]{fr}{cs}{v}(ok:Ok P S (G fr cs) v){xs:Array fH}(hx:∀x∈xs,ed P (Nm S) x):rV S v.heap.size (xs.map fr.eval):=fun H b h h' ha=>by unfold vals;rw[oM,oM];exact jL fun x a=>Oh ok (hx x a) H b h h' ha
theorem Ok.put[jE]{fr}{cs}{x}{v}(ok:Ok P S (G fr cs) v)(hx:rV S v.heap.size #[x]):Ok P S (G (fr.finish x) cs) v:=by
 refine⟨ok.nv,⟨ok.wX.frame.finish x,ok.wX.callers,rfl⟩,rfl,ok.up,ok.vg,fun H b h h' a=>?_,ok.clean⟩;obtain⟨h1,h2⟩:=ok.bound H b h h' a;refine⟨?_,h2⟩;unfold uG at h1⊢;simp[yT,mi,Conc.G] at h1⊢;refine⟨?_,h1.2⟩;have e:=@dQ M H aj P h S _ fr x ok.wX.frame.items;have d:=@dQ M b aj P h' S _ fr x ok.wX.frame.items;have c:@val M H aj h x=@val M b aj h' x:=by
  have:=hx H b h h' a
  unfold vals at this;simpa using this
 rw[←e,←d,h1.1,c]
inductive fO [jE] (P:aH) (S:aI→Prop) (D:dD→ay→Prop):dD→ay→Prop
 |done {g:dD} {v:ay} (h:D g v):fO P S D g v
 |step {g:dD} {v:ay} (hns:Fit P g)
   (Gs:(Nat→Question→Nat)→dD) (Vs:(Nat→Question→Nat)→ay) (Es:(Nat→Question→Nat)→Array Event)
   (he:∀t,stepG P true g (wt v t)=.go (Gs t) (Vs t) (Es t)) (hsm:∀t,jc (Gs t)) (hcl:∀t,Clean S v→Clean S (Vs t)) (hup:∀t,Up (Gs t)) (hrun:∀t,(Gs t).status=.running) (h:∀t,fO P S D (Gs t) (Vs t)):fO P S D g v
 |call {fn:aI} {args:Array ae} {c:aC} {cs:List aC} {v:ay} {Post:ae→ay→Prop} (hfn:S fn) (hargs:pJ S args) (hcs:cs≠[]) (hP:∀x v t,Post x v→Post x (wt v t))
   (hc:∀t,Calls P fn args (wt v t) fun e w'=>∃x,e=.returned x∧Post x w')
   (next:∀x v',Post x v'→v.heap.size≤v'.heap.size→fO P S D (G (c.finish x) cs) v'):fO P S D (G (Frame.enter P fn args .normal) (c::cs)) v
 |enter {fr:aC} {cs:List aC} {fn:aI} {xs:Array fH} {v:ay} (hgood:aG P S (Frame.enter P fn #[] .normal)) (hxs:∀x∈xs,ed P (Nm S) x)
   (hst:∀ [Ext] (f:Nat→Nat) (m:Bool) (cs':List aC) (w:ay),Fix P f→stepG P m (G (frame f fr) cs') w=.go (G (Frame.enter P fn (vals f (xs.map fr.eval)) .normal) (frame f fr::cs')) w #[])
   (next:fO P S D (G (Frame.enter P fn (xs.map fr.eval) .normal) (fr::cs)) v):fO P S D (G fr cs) v
 |put {fr:aC} {cs:List aC} {x:ae} {v:ay} (hx:Ok P S (G fr cs) v→rV S v.heap.size #[x])
   (hst:Ok P S (G fr cs) v→∀ [Ext] (f:Nat→Nat) (m:Bool) (cs':List aC) (w:ay),Fix P f→stepG P m (G (frame f fr) cs') w=.go (G (frame f (fr.finish x)) cs') w #[])
   (next:fO P S D (G (fr.finish x) cs) v):fO P S D (G fr cs) v
section
variable[jE]
theorem Ee(b:bz P)(hS:mM P S){fr c}{cs}{v}{x}(ok:Ok P S (G fr (c::cs)) v)(hcs:cs≠[])(hl:fr.leaving P v (.returned x))(hc:bf c.mode):Ok P S (G (c.finish x) cs) v:=by
 obtain⟨E,he⟩:=KF ok.nv hl;have hup:Up (G (c.finish x) cs):=by
  obtain⟨l,hl⟩:=ok.up;cases l with
  |nil=>simp[Conc.G,List.nil_append,Gw] at hl;exact absurd hl.2 hcs
  |cons a l=>simp[Conc.G,List.cons_append,Gw] at hl;exact⟨l,hl.2⟩
 have hm:(c.finish x).mode=c.mode:=by unfold Frame.finish;split<;>rfl
 exact ok.step b hS (.leaving hl) (fun h=>h) (he v.tape) ⟨rfl,.inl rfl,by show bf (c.finish x).mode;rw[hm];exact hc⟩ hup rfl
end
end
section
variable[M:Mps][E:Ext]{P:aH}{S:aI->Prop}
theorem MS(a:bz P)(hS:mM P S){fn args v Post}(hP:∀x v t,Post x v->Post x (wt v t))(hok:Ok P S (G (Frame.enter P fn args .normal) [bottom]) v)(h:∀t,Calls P fn args (wt v t) fun e w'=>∃x,e=.returned x/\Post x w'):Tree P S (fun g' v'=>Leaves P fn Post g' v'/\Ok P S g' v'/\v.heap.size<=v'.heap.size) (G (Frame.enter P fn args .normal) [bottom]) v:=(Qd Dh (fun _ h=>h) a hS hP hok h).sharp a hS
theorem acE(a:bz P)(hS:mM P S){C:Nat->Prop}{D}(hD:∀g v,D g v->∀b,C b->∀o,v.heap[b]?=some o->dB o=true){g v}(ht:Tree P S D g v):∀b,C b->∀o,v.heap[b]?=some o->dB o=true:=QE a hS hD ht
theorem Zt(I:bz P)(hS:mM P S){m Ro Hid Live X}(K:∀e r,Hid r->e.loc=.obj r->e.write=false->e.sync=true->X e){Stop D B}{C:Nat->Prop}(hD:∀g v,D g v->∀b,C b->∀o,v.heap[b]?=some o->dB o=true){n0:Nat}{f0:Nat->Nat}{w0:ay}{g:dD}{v:ay}(ht:Tree P S D g v){f:Nat->Nat}{w:ay}{own:Nat->Prop}(ok:Ok P S g v)(hw:bP Ro (fun _=>False) w0 w)(c:∀b,Ro b->b<w.heap.size/\¬own b)(p:∀a b,a<v.heap.size->b<v.heap.size->f a=f b->a=b)(q:∀g,g<P.globals.size->f g=g)(l:qJ f (kd P S) v w)(j:∀b o,v.heap[b]?=some o->Held Ro own Hid (f b) o)(ha:∀i,i<n0->f i=f0 i)(hn:n0<=v.heap.size)(L:∀(b:Nat) (o:Obj),v.heap[b]?=some o->dB o=true->C b)(d:∀g v f w own,D g v->Ok P S g v->bP Ro (fun _=>False) w0 w->(∀b,Ro b->b<w.heap.size/\¬own b)->(∀a b,a<v.heap.size->b<v.heap.size->f a=f b->a=b)->(∀g,g<P.globals.size->f g=g)->qJ f (kd P S) v w->(∀b o,v.heap[b]?=some o->Held Ro own Hid (f b) o)->(∀i,i<n0->f i=f0 i)->n0<=v.heap.size->(∀(b:Nat) (o:Obj),v.heap[b]?=some o->dB o=true->C b)->Way P m Ro Live false X Stop (bF f B g) w own):Way P m Ro Live false X Stop (bF f B g) w own:=by
 have key:∀{g:dD} {v:ay},Tree P S D g v->∀{f:Nat->Nat} {w:ay} {own:Nat->Prop},eX P S Ro own Hid f g v w->bP Ro (fun _=>False) w0 w->(∀b,Ro b->b<w.heap.size/\¬own b)->(∀i,i<n0->f i=f0 i)->n0<=v.heap.size->(∀(b:Nat) (o:Obj),v.heap[b]?=some o->dB o=true->C b)->Way P m Ro Live false X Stop (bF f B g) w own:=by
  intro g v ht;induction ht with
  |done ok h=>intro f w own hp hw c ha hn L;exact d _ _ _ _ _ h hp.ok hw c hp.inj hp.fix hp.rq hp.held ha hn L
  |@step g v ok hns G V E he hsm k J=>
  intro f w own hp hw c F n L;refine MI I hS K ok hns he hsm (fun t=>(k t).ok) hp (fun t b o o1 hb hc A=>QE I hS hD (k t) b (L b o hb hc) o1 A) c fun t f' w' own' y u s H x z=>?_;exact J t y (hw.trans u) s (fun i hi=>(H i (bT hi n)).trans (F i hi)) (bM n x) fun b o hb hc=>by have⟨o0,h1,h2⟩:=z b o hb hc;exact L b o0 h1 h2
 exact key ht ⟨ok,p,q,l,j⟩ hw c ha hn L
section
variable[jE]
theorem Ol(f:bz P)(hS:mM P S){C:Nat->Prop}{D}(hD:∀g v,D g v->∀b,C b->∀o,v.heap[b]?=some o->dB o=true){g v}(ht:fO P S D g v):Ok P S g v->∀b,C b->∀o,v.heap[b]?=some o->dB o=true:=by
 induction ht with
 |done h=>exact fun _=>hD _ _ h
 |@step g v hns Gs Vs Es he hsm hcl hup hrun htr d=>
 intro ok b hb o ho;let t:Nat->Question->Nat:=fun _ _=>0;have e:=(ok.wt t).step f hS hns (hcl t) (he t) (hsm t) (hup t) (hrun t);have⟨a,h1⟩:=JD f hS (ok.wt t) hns (he t) (hsm t) e.ne;have j:b<(Vs t).heap.size:=by have:=(aP.1 ho).1;have:v.heap.size<=(Vs t).heap.size:=a;omega
 exact h1 b o _ ho (gu j) (d t e b hb _ (gu j))
 |@call fn args c cs v Post hfn hargs hcs hP hc next d=>
 intro ok b hb o ho;have ht:=MS f hS hP (Ok.sub hS hfn hargs ok) hc;refine acE f hS (fun g' v' hd b hb o ho=>?_) ht b hb o ho;obtain⟨⟨fr,x,rfl,hf,hl,hp⟩,i,a⟩:=hd;have k:=Ok.back i ok a;exact d x v' hp a (Ee f hS k hcs hl (ok.wX.callers c (fZ ..)).mode) b hb o ho
 |@enter fr cs fn xs v hgood hxs hst next d=>
 intro ok;exact d (ok.enter hgood (yf ok hxs))
 |@put fr cs x v hx hst next d=>
 intro ok;exact d (ok.put (hx ok))
theorem GI(z:bz P)(hS:mM P S){m Ro Hid Live X}(hX:∀e r,Hid r->e.loc=.obj r->e.write=false->e.sync=true->X e){Stop D B}{C:Nat->Prop}(hD:∀g v,D g v->∀b,C b->∀o,v.heap[b]?=some o->dB o=true){n0}{f0:Nat->Nat}{w0:ay}(L:∀g v f w own,D g v->eX P S Ro own Hid f g v w->bP Ro (fun _=>False) w0 w->(∀b,Ro b->b<w.heap.size/\¬own b)->(∀i,i<n0->f i=f0 i)->n0<=v.heap.size->Way P m Ro Live false X Stop (bF f B g) w own){g:dD}{v:ay}(ht:fO P S D g v):∀{f:Nat->Nat} {w:ay} {own:Nat->Prop},eX P S Ro own Hid f g v w->bP Ro (fun _=>False) w0 w->(∀b,Ro b->b<w.heap.size/\¬own b)->(∀i,i<n0->f i=f0 i)->n0<=v.heap.size->(∀(b:Nat) (o:Obj),v.heap[b]?=some o->dB o=true->C b)->Way P m Ro Live false X Stop (bF f B g) w own:=by
 induction ht with
 |done h=>intro f w own hp hw n ha hn _;exact L _ _ _ _ _ h hp hw n ha hn
 |@step g v hns Gs Vs Es he hsm hcl hup hrun htr ih=>
 intro f w own hp hw n s j I;have l:=fun t=>(hp.ok.wt t).step z hS hns (hcl t) (he t) (hsm t) (hup t) (hrun t);refine MI z hS hX hp.ok hns he hsm l hp (fun t b o o1 hb hc F=>Ol z hS hD (htr t) (l t) b (I b o hb hc) o1 F) n fun t f' w' own' hp' K y H k hc'=>?_;exact ih t hp' (hw.trans K) y (fun i hi=>(H i (bT hi j)).trans (s i hi)) (bM j k) fun b o hb hc=>by have⟨o0,h1,h2⟩:=hc' b o hb hc;exact I b o0 h1 h2
 |@call fn args c cs v Post hfn hargs hcs hP hc next ih=>
 intro f w own hp hw n s j I;have a:=hp.ok;have ht:=MS z hS hP (Ok.sub hS hfn hargs a) hc;have under:∀(f':Nat->Nat) (fr:aC),stk f' B _=stk f B _->bF f' _ (G fr [bottom])=bF f' B (G fr (c::cs)):=fun f' fr h3=>by
  have h4:stk f' (stk f B (c::cs)) [bottom]=stk f' B (c::cs):=by
   have:=yG f' (stk f B (c::cs)) bottom []
   rw[List.nil_append] at this;rw[this,h3];rfl
  unfold bF uG;dsimp[Conc.G];rw[h4]
 have e0:=under f (Frame.enter P fn args .normal) rfl;rw[<-e0];refine Zt (n0:=v.heap.size) (f0:=f) z hS hX (C:=C) (fun g' v' hd b hb o ho=>?_) ht (Ok.sub hS hfn hargs a) hw n hp.inj hp.fix hp.rq hp.held (fun _ _=>rfl) (aA _) I ?_
 .obtain⟨⟨fr,x,rfl,hf,hl,O⟩,l,k⟩:=hd
  have u:Ok P S (G fr (c::cs)) v':=Ok.back l a k;exact Ol z hS hD (next x v' O k) (Ee z hS u hcs hl (a.wX.callers c (fZ ..)).mode) b hb o ho
 rintro g' v' f' w' own' ⟨⟨fr,x,rfl,hf,hl,O⟩,l,k⟩ _ K y Q R N A H hn' hC';have u:Ok P S (G fr (c::cs)) v':=Ok.back l a k;have V:=Ee z hS u hcs hl (a.wX.callers c (fZ ..)).mode;have⟨E,he⟩:=KF (c:=c) (cs:=cs) u.nv hl;have e1:bF f' (stk f B (c::cs)) (G fr [bottom])=bF f' B (G fr (c::cs)):=by have h1:=aaf (M:=M) (a.bound bY bY f f' ⟨fun i hi=>(H i hi).symm,fun _ _=>rfl⟩).1;have h2:=FO (B:=B) h1 a.up;have h3:stk f B (c::cs)=stk f' B (c::cs):=bU Goroutine.callers h2;exact under f' fr h3.symm
 rw[e1];have hp2:eX P S Ro own' Hid f' (G fr (c::cs)) v' w':=⟨u,Q,R,N,A⟩;have hm:(c.finish x).mode=c.mode:=by unfold Frame.finish;split<;>rfl
 refine MI z hS hX u (.leaving hl) he (fun t=>⟨rfl,.inl rfl,by show bf (c.finish x).mode;rw[hm];exact(a.wX.callers c (fZ ..)).mode⟩) (fun t=>V.wt t) hp2 (fun t b o o1 hb hc F=>?_) y fun t f'' w'' J p W U Y hsz'' hc''=>?_
 .have:(wt v' t).heap[b]?=some o:=hb
  rw[this] at F;rw[<-aN F];exact hc
 have hp3:eX P S Ro J Hid f'' (G (c.finish x) cs) v' w'':=⟨V,p.inj,p.fix,⟨p.rq.good,p.rq.block⟩,p.held⟩;refine ih x v' O k hp3 (K.trans W) U (fun i hi=>?_) (bM j k) fun b o hb hc=>?_
 .rw[Y i (bT hi (bM j k)),H i (bT hi j)];exact s i hi
 exact hC' b o hb hc
 |@enter fr cs fn xs v hgood hxs hst next ih=>
 intro f w own hp hw n s j I;have hcs:cs≠[]:=hp.ok.ne;have Z:∀f',bF f' B (G (Frame.enter P fn (xs.map fr.eval) .normal) (fr::cs))=G (Frame.enter P fn (vals f' (xs.map fr.eval)) .normal) (frame f' fr::stk f' B cs):=fun f'=>by unfold bF uG;dsimp only[Conc.G];rw[gK,CE hcs]
 refine .step hp.ok.run (fun w1=>bF (bH f v w1) B (G (Frame.enter P fn (xs.map fr.eval) .normal) (fr::cs))) id (fun _=>#[]) (fun w1 hr _=>?_) (fun w1 hr _=>?_)
 .have⟨d,_,T⟩:=hp.rely hr B
  refine⟨?_,⟨fun _=>⟨rfl,rfl⟩,aA _,fun _ _ _=>rfl,rfl,fun b hb=>hb,fun e he=>(by simp at he),.refl _,.refl _⟩⟩;rw[T,Z];exact hst _ m _ w1 d.fix
 have⟨d,_,_⟩:=hp.rely hr B;have q:∀b,more own w1 w1 b->own b:=fun b hb=>hb.elim id fun h=>by omega
 have k:=hr.size;refine ih ⟨hp.ok.enter hgood (yf hp.ok hxs),d.inj,d.fix,d.rq,fun b o hb=>(d.held b o hb).imp (PS .inl) id⟩ (hw.trans ⟨hr.size,fun b hb ho=>?_,hr.cells,hr.chans⟩) (fun b hb=>?_) (fun i hi=>(eG (bT hi j)).trans (s i hi)) j I
 .rcases ho with ho|ho
  .exact hr.keep b hb (.inl ho)
  exact ho.elim
 have⟨h1,h2⟩:=n b hb;exact⟨by show b<w1.heap.size;omega,fun h=>h2 (q b h)⟩
 |@put fr cs x v hx hst next ih=>
 intro f w own hp hw n s j I;have Z:∀f' (fr:aC),bF f' B (G fr cs)=G (frame f' fr) (stk f' B cs):=fun f' fr=>rfl;refine .step hp.ok.run (fun w1=>bF (bH f v w1) B (G (fr.finish x) cs)) id (fun _=>#[]) (fun w1 hr _=>?_) (fun w1 hr _=>?_)
 .have⟨d,_,T⟩:=hp.rely hr B
  refine⟨?_,⟨fun _=>⟨rfl,rfl⟩,aA _,fun _ _ _=>rfl,rfl,fun b hb=>hb,fun e he=>(by simp at he),.refl _,.refl _⟩⟩;rw[T,Z,Z];exact hst hp.ok _ m _ w1 d.fix
 have⟨d,_,_⟩:=hp.rely hr B;have q:∀b,more own w1 w1 b->own b:=fun b hb=>hb.elim id fun h=>by omega
 have k:=hr.size;refine ih ⟨hp.ok.put (hx hp.ok),d.inj,d.fix,d.rq,fun b o hb=>(d.held b o hb).imp (PS .inl) id⟩ (hw.trans ⟨hr.size,fun b hb ho=>?_,hr.cells,hr.chans⟩) (fun b hb=>?_) (fun i hi=>(eG (bT hi j)).trans (s i hi)) j I
 .rcases ho with ho|ho
  .exact hr.keep b hb (.inl ho)
  exact ho.elim
 have⟨h1,h2⟩:=n b hb;exact⟨by show b<w1.heap.size;omega,fun h=>h2 (q b h)⟩
end
end
section
variable[M:Mps]
section
variable(P:aH)(L:List aI)
def bEq:Nat->aZ->Bool
|0,_=>false
|n+1,t=>match P.underlying t with
 |some .bool|some (.int _)|some (.float _)|some (.complex _)|some .string|some (.chan ..)|some (.slice _)|some (.map ..)|some (.func ..)=>true
 |some (.struct fs)=>fs.toList.all fun g=>bEq n g.type
 |some (.array _ e)=>bEq n e
 |_=>false
def ai7(t:aZ):Bool:=Mps.maps&&match P.underlying t with
|some (.map k _)=>bEq P 64 k
|_=>true
def Xb(t:aZ):Bool:=match P.underlying t with
|some (.int _)=>true
|_=>false
def akG(ts:Array aZ):Bool:=match ts.toList with
|t0::_=>match P.underlying t0 with
 |some .string|some (.slice _)|some (.array ..)=>true
 |_=>false
|[]=>false
def akJ(ts:Array aZ):Bool:=match ts.toList with
|_::t1::_=>!Xb P t1
|_=>true
def akI(ts:Array aZ):Bool:=match ts.toList with
|t0::_=>match P.underlying t0 with
 |some (.slice _)=>true
 |_=>false
|[]=>true
def Pq(b:Builtin)(ts:Array aZ):Bool:=match b with
|.len=>akG P ts
|.append=>akJ P ts
|.cap=>akI P ts
|.min|.max|.panic|.copy=>true
|_=>false
def Ym:BinOp->Bool
|.eql|.neq=>true
|_=>false
def bFn:Fn->Bool
|.func g|.via _ _ g _=>L.contains g
|_=>false
def Us(c:Call):Bool:=match c.callee with
|.builtin b=>Pq P b c.argTypes
|.value _=>true
|.invoke ..=>false
def bOp:Op->Bool
|.move _|.assign _|.pick .. | .alloc _|.box .. | .build .. | .load .. | .store .. | .unOp .. | .makeSlice .. | .slice ..
|.fieldAddr .. | .field .. | .indexAddr .. | .index .. | .extract .. | .panic _|.buildSlice .. | .makeMap .. | .entryStore .. | .range .. | .next .. | .entry _=>true
|.lookup t _ _ _|.mapUpdate t _ _ _|.insert t _ _ _|.mapEntry t _ _=>ai7 P t
|.nilCheck _=>Mps.maps
|.makeInterface t _=>Nat.blt t jT
|.binOp op t _ _ _=>!Ym op||bEq P 64 t
|.convert s d _=>Xb P s&&Xb P d
|.makeFunc g _ _=>bFn L g
|.call c=>Us P c
|_=>false
def nR:fH->Bool
|.const v=>dI v
|.global g=>decide (g<P.globals.size)
|.func g=>L.contains g
|_=>true
def jw(o:bn):Bool:=bOp P L o.op&&o.op.operands.toList.all (nR P L)
def oJ:Code->Bool
|.region _ ops _=>ops.toList.all (jw P L)
|.seq a b=>oJ a&&oJ b
|.cond c a b=>nR P L c&&oJ a&&oJ b
|.block _ a|.loop a|.scope a=>oJ a
|.rangeFunc g _ a b=>nR P L g&&oJ a&&oJ b
|_=>true
def ny:Code->Bool
|.seq a b=>ny a&&ny b
|.cond c a b=>nR P L c&&ny a&&ny b
|.block _ a|.loop a|.scope a=>ny a
|.rangeFunc g _ a b=>nR P L g&&oJ P L a&&oJ P L b
|_=>true
def ahJ(g:aI):Bool:=match P.funcs.toList[g]? with
|some fn=>match fn.body with
 |some body=>!(fn.name == "runtime.NumGoroutine")&&oJ P L body
 |none=>false
|none=>false
def alR:Bool:=L.all (ahJ P L)
end
section
variable{P:aH}{L:List aI}
theorem Ur:∀(n:Nat) (t:aZ),bEq P n t=true->SC P t
|0,_,h=>by cases h
|n+1,t,h=>by
 unfold bEq at h;cases hd:P.underlying t with
 |none=>rw[hd] at h;cases h
 |some d=>
 rw[hd] at h;cases d<;>first|(cases h;done)|(exact .flat hd trivial)|skip
 case struct fs=>exact .struct hd fun g hg=>Ur n g.type (bZ.1 h g (uz.2 hg))
 case array m e=>exact .array hd (Ur n e h)
theorem Me{t}(h:ai7 P t=true):Xp P t:=by unfold ai7 at h;rw[aT] at h;refine⟨h.1,fun k e hk=>?_⟩;have h2:=h.2;rw[hk] at h2;exact Ur _ _ h2
theorem aap{t}(h:Xb P t=true):∃k,P.underlying t=some (.int k):=by
 unfold Xb at h;split at h
 .exact⟨_,by assumption⟩
 cases h
theorem Xc{b ts}(h:Pq P b ts=true):Am P b ts:=by
 have⟨ts⟩:=ts;unfold Pq at h;cases b<;>first|(cases h;done)|exact trivial|skip
 case len=>
  simp[akG] at h;cases ts with
  |nil=>cases h
  |cons t0 l=>
   refine⟨t0,by simp,?_⟩;dsimp only at h;cases hd:P.underlying t0 with
   |none=>rw[hd] at h;cases h
   |some d=>
   rw[hd] at h;cases d<;>first|(cases h;done)|skip
   case string=>exact .inl rfl
   case slice e=>exact .inr (.inl ⟨e,rfl⟩)
   case array n e=>exact .inr (.inr ⟨n,e,rfl⟩)
 case append=>
  intro t1 k h1 h2;simp[akJ] at h;cases ts with
  |nil=>simp at h1
  |cons t0 l=>
   cases l with
   |nil=>simp at h1
   |cons t2 l=>
   simp at h1;subst h1;dsimp only at h;unfold Xb at h;rw[h2] at h;cases h
 case cap=>
  show ∀t0,_->_;intro t0 h0;simp[akI] at h;cases ts with
  |nil=>simp at h0
  |cons t1 l=>
   simp at h0;subst h0;dsimp only at h;cases hd:P.underlying t1 with
   |none=>rw[hd] at h;cases h
   |some d=>
   rw[hd] at h;cases d<;>first|(cases h;done)|skip
   case slice e=>exact⟨e,rfl⟩
theorem ai8{g}(h:bFn L g=true):U4 (·∈L) g:=by cases g<;>first|(cases h;done)|exact Gq.1 h
theorem YZ{c}(h:Us P c=true):jK P c:=by
 unfold Us at h;unfold jK;cases hc:c.callee with
 |builtin b=>rw[hc] at h;exact Xc h
 |value _=>trivial
 |invoke r n=>rw[hc] at h;cases h
theorem ai6{o}(h:bOp P L o=true):ahe P (·∈L) o:=by
 cases o<;>first|(cases h;done)|exact trivial|skip
 case lookup t _ _ _=>exact Me h
 case nilCheck x=>exact h
 case makeInterface t x=>exact iF h
 case mapUpdate t _ _ _=>exact Me h
 case insert t _ _ _=>exact Me h
 case mapEntry t _ _=>exact Me h
 case binOp op t _ _ _=>intro he;have h':(!Ym op||bEq P 64 t)=true:=h;rcases he with rfl|rfl<;>exact Ur _ _ (by simpa[Ym] using h')
 case convert s d _=>have h':(Xb P s&&Xb P d)=true:=h;rw[aT] at h';exact⟨aap h'.1,aap h'.2⟩
 case makeFunc g _ _=>exact ai8 h
 case call c=>exact YZ h
theorem Ak{x}(h:nR P L x=true):ed P (·∈L) x:=by
 cases x with
 |tmp t=>trivial
 |const v=>exact h
 |global g=>have h':=h;exact BB (p:=g<P.globals.size) h'
 |func g=>exact Gq.1 h
theorem IE{o}(h:jw P L o=true):pG P (·∈L) o:=by unfold jw at h;rw[aT] at h;exact⟨ai6 h.1,fun x hx=>Ak (bZ.1 h.2 x (uz.2 hx))⟩
theorem Dy:∀{c},oJ P L c=true->jB P (·∈L) c:=by
 intro c;induction c with
 |region id ops d=>exact fun h o ho=>IE (bZ.1 h o (uz.2 ho))
 |seq a b f e=>intro h;have h':(oJ P L a&&oJ P L b)=true:=h;rw[aT] at h';exact⟨f h'.1,e h'.2⟩
 |cond c a b f e=>intro h;have h':(nR P L c&&oJ P L a&&oJ P L b)=true:=h;rw[aT,aT] at h';exact⟨Ak h'.1.1,f h'.1.2,e h'.2⟩
 |block id a ih=>exact ih
 |loop a ih=>exact ih
 |scope a ih=>exact ih
 |rangeFunc g ps a b f e=>intro h;have h':(nR P L g&&oJ P L a&&oJ P L b)=true:=h;rw[aT,aT] at h';exact⟨Ak h'.1.1,f h'.1.2,e h'.2⟩
 |_=>exact fun _=>trivial
@[reducible] def aV (P:aH) (L N:List aI):jE:=⟨fun o=>¬pG P (·∈L) o,(·∈N)⟩
theorem aao{N}(o):@afe _ (aV P L N) P (·∈L) o:=by
 by_cases h:pG P (·∈L) o
 .exact .inl h
 exact .inr h
theorem Df{N fr}(h:∀ops i rest k o,fr.todo=.inRegion ops (i::rest)::k->ops[i]?=some o->pG P (·∈L) o):@yD (aV P L N) fr:=fun _ ops i rest k o h1 h2 a=>a (h ops i rest k o h1 h2)
theorem N9{N fr}(h:∀ops i rest k o,fr.todo=.inRegion ops (i::rest)::k->ops[i]?=some o->jw P L o=true):@yD (aV P L N) fr:=Df fun ops i rest k o h1 h2=>IE (h ops i rest k o h1 h2)
theorem Ey{N}:∀{c},ny P L c=true->@qM _ (aV P L N) P (·∈L) c:=by
 intro c;induction c with
 |region id ops d=>exact fun _ o _=>aao o
 |seq a b f e=>intro h;have h':(ny P L a&&ny P L b)=true:=h;rw[aT] at h';exact⟨f h'.1,e h'.2⟩
 |cond c a b f e=>intro h;have h':(nR P L c&&ny P L a&&ny P L b)=true:=h;rw[aT,aT] at h';exact⟨Ak h'.1.1,f h'.1.2,e h'.2⟩
 |block id a ih=>exact ih
 |loop a ih=>exact ih
 |scope a ih=>exact ih
 |rangeFunc g ps a b f e=>intro h;have h':(nR P L g&&oJ P L a&&oJ P L b)=true:=h;rw[aT,aT] at h';exact⟨Ak h'.1.1,Dy h'.1.2,Dy h'.2⟩
 |_=>exact fun _=>trivial
theorem aaq[Fr](hf:∀g,g∈L->Fr.xP g=g)(h:alR P L=true):mM P (·∈L):=by
 refine⟨hf,fun g hg=>?_⟩;have a:=bZ.1 h g hg;unfold ahJ at a;split at a
 .next fn hfn=>
  split at a
  .next body hb=>rw[aT] at a;exact⟨fn,body,by rw[<-hfn];simp,hb,by simpa using a.1,Dy a.2⟩
  cases a
 cases a
end
end
section
variable[jE]{P:aH}{S:aI->Prop}
theorem J8(hz:bz P)(hS:mM P S){m Ro Hid Live X}(hX:∀e r,Hid r->e.loc=.obj r->e.write=false->e.sync=true->X e){Stop B g v}(ok:Ok P S g v)(hns:Fit P g){G:(Nat->Question->Nat)->dD}{V:(Nat->Question->Nat)->ay}{E:(Nat->Question->Nat)->Array Event}(he:∀t,stepG P true g (wt v t)=.go (G t) (V t) (E t))(hsm:∀t,jc (G t))(M:∀t,Ok P S (G t) (V t)){f:Nat->Nat}{w:ay}{own:Nat->Prop}(hp:eX P S Ro own Hid f g v w)(hC:∀t (b:Nat) (o o1:Obj),v.heap[b]?=some o->dB o=true->(V t).heap[b]?=some o1->dB o1=true)(O:∀b,Ro b->b<w.heap.size/\¬own b){dr:dD->dD}(hds:∀g,(dr g).status=g.status)(hdr:∀(t:Nat->Question->Nat) (f':Nat->Nat) (w1 w2:ay) (es:Array Event),yZ f'->(∀g,g<P.globals.size->f' g=g)->qJ f' (kd P S) (wt v t) w1->nG f' (wt v t) (V t) w1->stepG P m (bF f' B g) w1=.go (bF f' B (G t)) w2 es->stepG P m (dr (bF f' B g)) w1=.go (dr (bF f' B (G t))) w2 es)(C:∀t f' w' own',eX P S Ro own' Hid f' (G t) (V t) w'->bP Ro (fun _=>False) w w'->(∀b,Ro b->b<w'.heap.size/\¬own' b)->(∀i,i<v.heap.size->f' i=f i)->v.heap.size<=(V t).heap.size->(∀(b:Nat) (o:Obj),(V t).heap[b]?=some o->dB o=true->∃o0,v.heap[b]?=some o0/\dB o0=true)->Way P m Ro Live false X Stop (dr (bF f' B (G t))) w' own'):Way P m Ro Live false X Stop (dr (bF f B g)) w own:=by
 let T:ay->Nat->Question->Nat:=fun w1 i=>w1.tape (w1.drawn+(i-v.drawn));have key:∀w1,bP Ro own w w1->Live w1->∃w2,stepG P m (bF f B g) w1=.go _ w2 _/\v.heap.size<=(V (T w1)).heap.size/\Zl false X Ro own _ w1 w2 _/\eX P S Ro _ Hid _ _ _ w2/\(∀b o,(V (T w1)).heap[b]?=some o->dB o=true->∃o0,v.heap[b]?=some o0/\dB o0=true):=fun w1 hr hl=>by
  have⟨j,A,heq⟩:=hp.rely hr B;have z:=M (T w1);have Q:qJ _ _ (wt v (T w1)) w1:=⟨j.rq.good,j.rq.block⟩;have h0:=vU (f:=bH f v w1) (B:=B) (m:=true) (m':=m) A j.fix hz hS Q ok.wX ok.ne (TN _) hns.1 (ok.leads hns _);rw[he (T w1)] at h0;have⟨hle,h1⟩:=h0 (hsm (T w1));have q:=hle.size;have U:nG (bH f v w1) (wt v (T w1)) (V (T w1)) w1:=by refine⟨fun i h2 l=>jh h2,fun i h2=>?_,fun i h2 l=>rfl⟩;rw[jh (show v.heap.size<=i from bM q h2)];show w1.heap.size+((V (T w1)).heap.size-v.heap.size)<=_;omega
  have⟨w2,e1,d,W,hg1⟩:=h1 z.ne U;have K:=d.size;have J:∀b o o1,v.heap[b]?=some o->dB o=true->(V (T w1)).heap[b]?=some o1->dB o1=true:=fun b o o1 hb hc u=>hC (T w1) b o o1 hb hc u;have n:∀b o,(V (T w1)).heap[b]?=some o->Held Ro (more own w1 w2) Hid _ o:=fun b o hb=>by
   have hblt:=(aP.1 hb).1;rcases kJ b v.heap.size with k|s
   .have p:v.heap[b]?=some v.heap[b]:=gu k;have same:dB v.heap[b]=true->o=v.heap[b]:=fun hc0=>by
     have:=(d.chan b _ o p hb (J b _ o p hc0 hb)).1;have h9:(wt v (T w1)).heap[b]?=some v.heap[b]:=p;rw[hb,h9] at this;exact aN this
    rcases j.held b _ p with h2|h2|⟨h2,l⟩|⟨h2,l⟩
    .refine .inl ⟨.inl h2.1,?_⟩;have⟨o2,h4,h5⟩:=d.grows.adm b _ p h2.2;rw[hb] at h4;rw[aN h4];exact h5
    .right;left;have:=d.grows.gone b _ p h2;rw[hb] at this;rw[aN this];exact h2
    .right;right;left;rcases l with l|⟨x,l⟩
     .have:=d.grows.shut b _ p l;rw[hb] at this;exact⟨h2,.inl (by rw[aN this];exact l)⟩
     exact⟨h2,.inr ⟨x,by rw[same (by rw[l];rfl)];exact l⟩⟩
    right;right;right;exact⟨h2,by rw[same (by revert l;cases v.heap[b]<;>intro l<;>first|rfl|(cases l;done))];exact l⟩
   refine .inl ⟨.inr ?_,by have:=d.fresh b o s hb;cases o<;>first|rfl|(cases this;done)⟩
   rw[jh s];have:w2.heap.size=w1.heap.size+((V (T w1)).heap.size-v.heap.size):=K;omega
  refine⟨w2,by rw[heq];exact e1,q,⟨fun h=>(by cases h),by rw[K];omega,fun b hb R=>?_,d.right.same,fun b hb=>hb,fun e Z=>?_,d.cells,⟨fun b' o' y I=>?_,by rw[d.right.same],by rw[d.right.same]⟩⟩,⟨z,fun a b _ _=>A a b,j.fix,d.rq,n⟩,fun b o hb hc=>?_⟩
  .by_cases hx:∃c o,v.heap[c]?=some o/\bH f v w1 c=b/\dB o=true
   .obtain⟨c,o,hc,rfl,H⟩:=hx;have k:c<(V (T w1)).heap.size:=by have:=(aP.1 hc).1;have:v.heap.size<=(V (T w1)).heap.size:=q;omega
    have u:=gu k;exact(d.chan c o _ hc u (J c o _ hc H u)).2
   refine d.keeps b hb fun c o hc e=>?_;rcases j.held c o hc with h2|h2|⟨_,h2⟩|⟨_,h2⟩
   .rw[e] at h2;exact absurd h2.1 R
   .exact .inl h2
   .rcases h2 with h2|⟨x,rfl⟩
    .exact .inr h2
    exact absurd ⟨c,_,hc,e,rfl⟩ hx
   exact absurd ⟨c,o,hc,e,by cases o<;>first|rfl|(cases h2;done)⟩ hx
  .obtain⟨e0,Y,rfl⟩:=UK.1 Z;exact YC hX (W e0 Y) n
  .by_cases hx:∃c o,v.heap[c]?=some o/\bH f v w1 c=b'/\dB o=true
   .obtain⟨c,o,hc,rfl,H⟩:=hx;have k:c<(V (T w1)).heap.size:=by have:=(aP.1 hc).1;have:v.heap.size<=(V (T w1)).heap.size:=q;omega
    exact⟨o',by rw[(d.chan c o _ hc (gu k) (J c o _ hc H (gu k))).2];exact y,I⟩
   refine⟨o',?_,I⟩;rw[d.keeps b' (aP.1 y).1 fun c o hc e=>?_]
   .exact y
   have⟨o1,h1,h2⟩:=j.rq.block c o hc;rw[e,y] at h1;obtain rfl:=aN h1;exact absurd ⟨c,o,hc,e,CG h2 I⟩ hx
  rcases kJ b v.heap.size with k|s
  .have p:v.heap[b]?=some v.heap[b]:=gu k;exact⟨_,p,d.grows.chan p hb hc⟩
  have:=d.fresh b o s hb;rw[this] at hc;cases hc
 classical
 refine .step (by rw[hds];exact ok.run) (fun w1=>dr (bF (bH f v w1) B (G (T w1)))) (fun w1=>if h:bP Ro own w w1/\Live w1 then Classical.choose (key w1 h.1 h.2) else w1) (fun w1=>(E (T w1)).map (event (bH f v w1))) (fun w1 hr hl=>?_) (fun w1 hr hl=>?_)
 .have hk:=fB (key w1 hr hl);simp only[ou (And.intro hr hl)];have⟨j,F,heq⟩:=hp.rely hr B;refine⟨?_,hk.2.2.1⟩;have h1:=hk.1;have L:v.heap.size<=(V (T w1)).heap.size:=hk.2.1;have N:nG (bH f v w1) (wt v (T w1)) (V (T w1)) w1:=by
   refine⟨fun i h2 l=>jh h2,fun i h2=>?_,fun i h2 l=>rfl⟩;rw[jh (show v.heap.size<=i from bM L h2)];show w1.heap.size+((V (T w1)).heap.size-v.heap.size)<=_;omega
  generalize Classical.choose (key w1 hr hl)=w2 at h1⊢;rw[heq] at h1⊢;exact hdr (T w1) (bH f v w1) w1 _ _ F j.fix ⟨j.rq.good,j.rq.block⟩ N h1
 have hk:=fB (key w1 hr hl);simp only[ou (And.intro hr hl)];have hg:=hk.2.2.1;have D:∀b,Ro b->b<(Classical.choose (key w1 hr hl)).heap.size/\¬more own w1 (Classical.choose (key w1 hr hl)) b:=fun b hb=>by have⟨h1,h2⟩:=O b hb;have l:=hr.size;have h4:=hg.size;exact⟨by omega,fun h=>h.elim h2 fun h=>by omega⟩
 refine C (T w1) _ _ _ hk.2.2.2.1 ⟨bM hr.size hg.size,fun b hb ho=>?_,hr.cells.trans hg.cells,hr.chans.trans hg.chans⟩ D (fun i hi=>eG hi) hk.2.1 hk.2.2.2.2;rcases ho with ho|ho
 .have⟨h1,h2⟩:=O b ho;exact(hg.keep b (bT hb hr.size) h2).trans (hr.keep b hb (.inl ho))
 exact ho.elim
end
section
variable{P:aH}
def uH(D:List xu)(g:dD):dD:={g with frame:={g.frame with defers:=D}}
theorem Ui(D)(g):(uH D g).status=g.status:=rfl
theorem yN(F:aC)(D)(v):({F with defers:=D}:aC).finish v={F.finish v with defers:=D}:=by unfold Frame.finish;dsimp only;split<;>rfl
theorem aev{m F F1 cs w w2 es}(D)(hm:F.mode=.run)(hr:F.roundOf=none){ops i rest k o}(ht:F.todo=.inRegion ops (i::rest)::k)(ho:ops[i]?=some o)(hn:∀w',(execOp F.eval o).run P w≠.ok .recover w')(hd:∀d w',(execOp F.eval o).run P w≠.ok (.defer d) w')(f:∀d w',(execOp F.eval o).run P w≠.ok (.spawn d) w')(j:∀g w',(execOp F.eval o).run P w≠.halt (.unsupported (.initOrder g)) w')(h:stepG P m (G F cs) w=.go (G F1 cs) w2 es)(hp:bf F1.mode):stepG P m (G {F with defers:=D} cs) w=.go (G {F1 with defers:=D} cs) w2 es:=by
 have⟨fn,tmps,todo,defers,mode,kind,ro⟩:=F;subst hm hr ht;have l:(Frame.mk fn tmps (.inRegion ops (i::rest)::k) D .run kind none).eval=(Frame.mk fn tmps (.inRegion ops (i::rest)::k) defers .run kind none).eval:=by funext x;cases x<;>rfl
 unfold Conc.G stepG stepG.exec at h⊢;dsimp only at h⊢;split at h
 .rename_i hw;rw[aY hw];unfold stepG.oper Frame.oper? at h⊢;dsimp only at h⊢;rw[ho] at h⊢;rw[l];generalize (Frame.mk fn tmps (.inRegion ops (i::rest)::k) defers .run kind none).eval=p at h hn hd f j⊢;unfold stepG.apply at h⊢;simp[Sem.runT_eq,je] at h⊢;cases hx:(execOp p o).run P w with
  |halt a b=>
   rw[hx] at h;exfalso;have hsm:∀st e,GStep.after e st=.go (Goroutine.mk F1 cs .running none none) w2 es->¬Lm st:=fun st e h1 n=>by have h2:=n.after (es:=e);rw[h1] at h2;exact h2 ⟨rfl,.inl rfl,hp⟩
   cases a with
   |panic v=>exact hsm _ _ h (nN _ _ _ _ _ _)
   |goexit=>exact hsm _ _ h (nN _ _ _ _ _ _)
   |blocked=>exact hsm _ _ h (fun h=>by rcases h.status with h|h<;>cases h)
   |waiting=>exact hsm _ _ h (fun h=>by rcases h.status with h|h<;>cases h)
   |exit c=>exact hsm _ _ h trivial
   |fatal m=>exact hsm _ _ h (vk _ _ _ _ _ _)
   |throw m=>exact hsm _ _ h (Af _ _ _ _ _)
   |unsupported u=>
    cases u with
    |initOrder g=>exact j g b hx
    |_=>exact hsm _ _ h trivial
   |stuck s=>exact hsm _ _ h trivial
  |ok M w3=>
   rw[hx] at h;cases M<;>simp only[GStep.after] at h⊢<;>first
    |(cases h;done)
    |(cases h;rfl)
    |(exact absurd hx (hn _))
    |(exact absurd hx (hd _ _))
    |(exact absurd hx (f _ _))
    |(have h2:=bU (fun s:GStep=>match s with|.go g _ _=>g.callers.length|_=>0) h
      simp at h2;done)
    |(split at h<;>cases h;done)
    |skip
 rename_i hw;rw[aU hw];unfold Frame.finish at h⊢;dsimp only at h⊢;cases h;rfl
theorem WQ{m F F1 cs w w2 es}(D)(hm:F.mode=.run)(hr:F.roundOf=none){ops i rest k o}(ht:F.todo=.inRegion ops (i::rest)::k)(ho:ops[i]?=some o)(hn:∀w',(execOp F.eval o).run P w≠.ok .recover w')(hd:∀d w',(execOp F.eval o).run P w≠.ok (.defer d) w')(j:∀d w',(execOp F.eval o).run P w≠.ok (.spawn d) w')(l:∀g w',(execOp F.eval o).run P w≠.halt (.unsupported (.initOrder g)) w')(e:∀r s w',(execOp F.eval o).run P w≠.ok (.stack r s) w')(h:stepG P m (G F cs) w=.go (G F1 (F::cs)) w2 es)(hp:bf F1.mode):stepG P m (G {F with defers:=D} cs) w=.go (G F1 ({F with defers:=D}::cs)) w2 es:=by
 have⟨fn,tmps,todo,defers,mode,kind,ro⟩:=F;subst hm hr ht;have n:(Frame.mk fn tmps (.inRegion ops (i::rest)::k) D .run kind none).eval=(Frame.mk fn tmps (.inRegion ops (i::rest)::k) defers .run kind none).eval:=by funext x;cases x<;>rfl
 unfold Conc.G stepG stepG.exec at h⊢;dsimp only at h⊢;split at h
 .rename_i hw;rw[aY hw];unfold stepG.oper Frame.oper? at h⊢;dsimp only at h⊢;rw[ho] at h⊢;rw[n];generalize (Frame.mk fn tmps (.inRegion ops (i::rest)::k) defers .run kind none).eval=q at h hn hd j l e⊢;unfold stepG.apply at h⊢;simp[Sem.runT_eq,je] at h⊢;cases hx:(execOp q o).run P w with
  |halt a b=>
   rw[hx] at h;exfalso;have hsm:∀st f,GStep.after f st=.go (Goroutine.mk F1 (Frame.mk fn tmps (.inRegion ops (i::rest)::k) defers .run kind none::cs) .running none none) w2 es->¬Lm st:=fun st f h1 p=>by have h2:=p.after (es:=f);rw[h1] at h2;exact h2 ⟨rfl,.inl rfl,hp⟩
   cases a with
   |panic v=>exact hsm _ _ h (nN _ _ _ _ _ _)
   |goexit=>exact hsm _ _ h (nN _ _ _ _ _ _)
   |blocked=>exact hsm _ _ h (fun h=>by rcases h.status with h|h<;>cases h)
   |waiting=>exact hsm _ _ h (fun h=>by rcases h.status with h|h<;>cases h)
   |exit c=>exact hsm _ _ h trivial
   |fatal m=>exact hsm _ _ h (vk _ _ _ _ _ _)
   |throw m=>exact hsm _ _ h (Af _ _ _ _ _)
   |unsupported u=>
    cases u with
    |initOrder g=>exact l g b hx
    |_=>exact hsm _ _ h trivial
   |stuck s=>exact hsm _ _ h trivial
  |ok M w3=>
   rw[hx] at h;cases M<;>simp only[GStep.after] at h⊢<;>first
    |(cases h;done)
    |(cases h;rfl)
    |(exact absurd hx (hn _))
    |(exact absurd hx (hd _ _))
    |(exact absurd hx (j _ _))
    |(exact absurd hx (e _ _ _))
    |(have h2:=bU (fun s:GStep=>match s with|.go g _ _=>g.callers.length|_=>0) h
      simp at h2;done)
    |(split at h<;>cases h;done)
    |skip
 rename_i hw;have h2:=bU (fun s:GStep=>match s with|.go g _ _=>g.callers.length|_=>0) h
 simp at h2
def Vo:List ig->Bool
|[]=>true
|.code (.rangeFunc ..)::_=>false
|.code (.refuse _)::_=>false
|.code _::_=>true
|.inBlock _::_=>true
|.inScope _::_=>true
|.inLoop _::_=>true
|.inRegion _ []::_=>true
|_=>false
theorem YO{m F F1 cs w w2 es}(D)(hm:F.mode=.run)(hr:F.roundOf=none)(ht:Vo F.todo=true)(h:stepG P m (G F cs) w=.go (G F1 cs) w2 es):stepG P m (G {F with defers:=D} cs) w=.go (G {F1 with defers:=D} cs) w2 es:=by
 have⟨fn,tmps,todo,defers,mode,kind,ro⟩:=F;subst hm hr;have e:(Frame.mk fn tmps todo D .run kind none).eval=(Frame.mk fn tmps todo defers .run kind none).eval:=by funext x;cases x<;>rfl
 unfold Conc.G stepG stepG.exec at h⊢;dsimp only at h⊢;rw[e];cases todo with
 |nil=>cases h;rfl
 |cons it k=>
  cases it with
  |code c=>
   cases c with
   |cond x a b=>dsimp only at h⊢;generalize (Frame.mk fn tmps (.code (.cond x a b)::k) defers .run kind none).eval x=u at h⊢;cases u<;>first|(cases h;done)|(cases h;rfl)
   |region id ops d=>
    cases d with
    |false=>cases h;rfl
    |true=>
     simp only[UZ,tY,BF] at h⊢;cases hx:(choose _).run P w with
     |ok t w3=>rw[hx] at h;cases h;rfl
     |halt t w3=>rw[hx] at h;cases h
   |exit id=>
    dsimp only at h⊢;cases hx:exitTo id k with
    |some z=>rw[hx] at h;cases h;rfl
    |none=>rw[hx] at h;simp at h
   |goto l=>
    dsimp only at h⊢;cases hx:gotoIn l k with
    |some z=>rw[hx] at h;cases h;rfl
    |none=>rw[hx] at h;simp at h
   |rangeFunc=>cases ht
   |refuse=>cases ht
   |_=>first|(cases h;rfl)|(simp at h⊢;cases h;rfl)
  |inRegion ops l=>
   cases l with
   |nil=>cases h;rfl
   |cons=>cases ht
  |inBlock=>cases h;rfl
  |inScope=>cases h;rfl
  |inLoop=>cases h;rfl
  |_=>cases ht
end
abbrev zB:ae->Bool:=dI
def Va{z}(h:zB z=true):∀c∈z.cells,dI c=true:=Qw h
def zI(i:TypeInfo):Prop:=∀z,i.zero=some z->zB z=true
def DV{d s z c b}(h:flat z=true):zI (Made.word d s z c b):=fun z' a=>by obtain rfl:=aN a;exact Ud h
def QX{α β:Type}(Inv:β->Prop)(g:α->β->aB (ForInStep β)):∀(l:List α),(∀a∈l,∀x s,Inv x->g a x=some s->Inv (match s with|.done y=>y|.yield y=>y))->∀x y,Inv x->forIn l x g=some y->Inv y
|[],_,x,y,hx,h=>by simp only[List.forIn_nil] at h;obtain rfl:x=y:=aN h;exact hx
|a::l,hg,x,y,hx,h=>by
 simp only[List.forIn_cons] at h;cases hs:g a x with
 |none=>rw[hs] at h;cases h
 |some s=>
  rw[hs] at h;have h1:=hg a (fZ ..) x s hx hs;cases s with
  |done c=>obtain rfl:c=y:=aN h;exact h1
  |yield c=>exact QX Inv g l (fun b hb=>hg b (jy _ hb)) c y h1 h
def zC(a:aB (Array ae)):Prop:=∀cs,a=some cs->∀c∈cs,dI c=true
def Zn{p:Prop}[Decidable p]{a i}(ha:zC a)(hi:zI i):zC (if p then none else a.bind fun x=>i.zero.bind fun y=>some (x++y.cells)):=fun cs h c hc=>by
 split at h
 .cases h
 rw[xy] at h;have⟨x,h1,h2⟩:=h;rw[xy] at h2;have⟨y,e,d⟩:=h2;obtain rfl:=aN d;rcases BD.1 hc with b|b
 .exact ha x h1 c b
 exact Va (hi y e) c b
def afq:zC none:=fun _ h=>by cases h
def afr{a i}(ha:zC a)(hi:zI i):zC (a.bind fun x=>i.zero.bind fun y=>some (x++y.cells)):=by have h:=Zn (p:=False) ha hi;rwa[aU id] at h
def ahV{a}(ha:zC a){z}(h:a.map Value.agg=some z):zB z=true:=by
 cases a with
 |none=>cases h
 |some cs=>
 obtain rfl:=aN h;exact Dv fun c hc=>ha cs rfl c hc
def aaK{info}(hi:∀t i,info t=some i->zI i){fs i}(h:Made.reckonStruct info fs=some i):zI i:=by
 unfold Made.reckonStruct at h;simp only[Option.bind_eq_bind,Option.pure_def] at h;rw[xy] at h;have⟨r,h1,h2⟩:=h;have hr:zC r.2.2.2.2.2.2.2.1:=by
  rw[<-aav] at h1;refine QX (fun r=>zC r.2.2.2.2.2.2.2.1) _ fs.toList ?_ _ _ ?_ h1
  .intro f _ x s hx hs;rw[xy] at hs;have⟨i',e,b⟩:=hs;have a:=hi _ _ e
   repeat' split at b
   all_goals first
    |(cases b;done)
    |(rw[xy] at b
      have⟨tag,_,d⟩:=b;repeat' split at d
      all_goals (obtain rfl:=aN d;first|exact Zn hx a|exact afq|exact afr hx a))
    |skip
  intro cs h c hc;obtain rfl:=aN h;simp at hc
 intro z a;split at h2<;>(obtain rfl:=aN h2;exact ahV hr a)
def aaL{info}(hi:∀t i,info t=some i->zI i){d i}(h:Made.reckon info d=some i):zI i:=by
 unfold Made.reckon at h;cases d<;>dsimp only at h<;>first|(cases h;done)|skip
 case struct fs=>exact aaK hi h
 case array n e=>
  simp only[Option.bind_eq_bind,Option.pure_def,xy] at h;have⟨i',h1,s,_,l⟩:=h;obtain rfl:=aN l;intro z b;split at b
  .cases b
  split at b
  .obtain rfl:=aN b;exact Dv fun c hc=>by simp at hc
  cases f:i'.zero with
  |none=>rw[f] at b;cases b
  |some j=>
  rw[f] at b;obtain rfl:=aN b;refine Dv fun c hc=>?_;rw[Array.mem_flatten] at hc;have⟨a,ha,g⟩:=hc;obtain rfl:=(Array.mem_replicate.1 ha).2;exact Va (hi _ _ h1 j f) c g
 all_goals
  simp only[Option.bind_eq_bind,Option.pure_def,xy] at h
 case slice e=>have⟨_,_,_,_,h⟩:=h;obtain rfl:=aN h;exact DV rfl
 case map k e=>have⟨_,_,_,_,_,_,_,_,h⟩:=h;obtain rfl:=aN h;exact DV rfl
 case chan d e=>have⟨_,_,_,_,h⟩:=h;obtain rfl:=aN h;exact DV rfl
 case func ps rs v=>have⟨_,_,h⟩:=h;obtain rfl:=aN h;exact DV rfl
 case pointer e=>
  have⟨i',_,h⟩:=h;split at h
  .cases h
  .split at h
   .cases h
   rw[xy] at h;have⟨_,_,h⟩:=h;obtain rfl:=aN h;exact DV rfl
  rw[xy] at h;have⟨_,_,h⟩:=h;obtain rfl:=aN h;exact DV rfl
def QC{T:Tables}(hb:∀(t:Nat) (i:TypeInfo),T.types[t]?=some i->zI i):∀(n:Nat) (t:aZ) (i:TypeInfo),Made.infoAt T n t=some i->zI i
|0,_,_,h=>by cases h
|n+1,t,i,h=>by
 unfold Made.infoAt at h;split at h
 .exact hb t i h
 rw[xy] at h;have⟨d,_,h⟩:=h;exact aaL (fun t i h=>QC hb n t i h) h
def ahI(P:aH):Bool:=Nat.ble P.types.size jT&&P.types.toList.all fun i=>match i.zero with
|some z=>zB z
|none=>true
def aeN{P}(h0:ahI P=true):bz P:=by
 have b:=h0;unfold ahI at b;rw[aT] at b;have h:=b.2;refine⟨?_,iF b.1⟩;have hb:∀(t) (i),P.types[t]?=some i->zI i:=fun t i hi z c=>by have:=bZ.1 h i (uz.2 (kP hi));rw[c] at this;exact this
 intro t i z hi c;have a:=hi;unfold Tables.info? at a;split at a
 .exact(hb t i a z c)
 exact(QC hb _ t i a z c)
section
variable{M M':Mps}
theorem Ac{F f a}(h:∀x∈a,@val M F (@aj M) f x=@val M' F (@aj M') f x):@vals M F (@aj M) f a=@vals M' F (@aj M') f a:=by unfold vals;exact jL fun x hx=>h x hx
theorem sU(F:Fr)(f:Nat→Nat):∀x:ae,@val M F (@aj M) f x=@val M' F (@aj M') f x
 |.pointer a=>by rw[@jX M,@jX M']
 |.slice a l c=>by rw[@uP M,@uP M']
 |.map r=>by rw[@MC M,@MC M']
 |.chan r=>by rw[@Ap M,@Ap M']
 |.func g a b=>by rw[@dL M F (@aj M),@dL M' F (@aj M'),Ac fun x hx=>sU F f x,Ac fun x hx=>sU F f x]
 |.iface t v=>by rw[@rX M,@rX M',sU F f v]
 |.agg cs=>by rw[@dG M F (@aj M),@dG M' F (@aj M'),Ac fun x hx=>sU F f x]
 |.tuple cs=>by rw[@cO M F (@aj M),@cO M' F (@aj M'),Ac fun x hx=>sU F f x]
 |.bool _=>by rw[@MF M,@MF M']
 |.int _ _=>by rw[@Vb M,@Vb M']
 |.float _ _=>by rw[@GG M,@GG M']
 |.complex _ _ _=>by rw[@zf M,@zf M']
 |.string _=>by rw[@Cf M,@Cf M']
 |.nilFunc=>by rw[@y9 M,@y9 M']
 |.nilIface=>by rw[@vK M,@vK M']
termination_by x=>SizeOf.sizeOf x
decreasing_by
 all_goals first
  |(have h:=IP hx;simp only[Sz,IM,IL];omega)
  |(simp only[Sv];omega)
theorem qW(F)(f)(a):@vals M F (@aj M) f a=@vals M' F (@aj M') f a:=Ac fun x _=>sU F f x
theorem Vp(F)(f)(t):@target M F (@aj M) f t=@target M' F (@aj M') f t:=by cases t<;>simp[target,qW (M':=M')]
theorem yQ(F)(f)(d):@deferred M F (@aj M) f d=@deferred M' F (@aj M') f d:=by simp[deferred,Vp (M':=M'),qW (M':=M')]
theorem abJ(F)(f)(i):@item M F (@aj M) f i=@item M' F (@aj M') f i:=by cases i<;>simp[item,yQ (M':=M'),qW (M':=M')]
theorem abx(F)(f)(m):@mode M F (@aj M) f m=@mode M' F (@aj M') f m:=by
 cases m with
 |panicking c=>simp only[mode];congr 1;refine uq fun e _=>?_;simp[Jj,sU (M':=M')]
 |_=>rfl
theorem OM(F)(f)(fr):@frame M F (@aj M) f fr=@frame M' F (@aj M') f fr:=by have h1:fr.todo.map (@item M F (@aj M) f)=fr.todo.map (@item M' F (@aj M') f):=uq fun i _=>abJ F f i;have h2:fr.defers.map (@deferred M F (@aj M) f)=fr.defers.map (@deferred M' F (@aj M') f):=uq fun i _=>yQ F f i;unfold frame;rw[h1,h2,qW,abx]
theorem OJ(F)(f)(g):@uG M F (@aj M) f g=@uG M' F (@aj M') f g:=by have h1:g.callers.map (@frame M F (@aj M) f)=g.callers.map (@frame M' F (@aj M') f):=uq fun i _=>OM F f i;unfold uG;rw[h1,OM]
theorem YL(F)(f)(e):@entry M F (@aj M) f e=@entry M' F (@aj M') f e:=by simp[entry,sU (M':=M')]
theorem VZ(F)(f)(o):@obj M F (@aj M) f o=@obj M' F (@aj M') f o:=by
 cases o with
 |cells c e fr=>simp[obj,qW (M':=M')]
 |loop l=>simp[obj,loop,qW (M':=M')]
 |deferred d=>
  cases d with
  |none=>rfl
  |some ds=>
  simp only[obj,Option.map_some];congr 2;exact uq fun i _=>yQ F f i
 |map es c=>simp only[obj];congr 1;exact jL fun i _=>YL F f i
 |_=>rfl
end
end Go.Ren
