import Derived.Conc.Beside
import Derived.Test.YtjilljfmaknihaaGreatA10
set_option linter.all false
namespace Go
def bQ:=@Go.ConcN.upd_ne
def Gn:=@Go.Conc.mem_ofEvents
def PR:=@Go.Conc.deafBehind_still
def xK:=@Go.Conc.Deaf_other
def BA:=@Go.Conc.ofEvents_eq
def Gm:=@Go.Conc.Deaf_own
end Go
namespace Go.Crew
open Go.Conc Go.ConcN Go.Ren
def KZ:Loc->aB Nat
|.cell a=>some a.block
|.obj r=>some r
|_=>none
def QB(Shr:Nat->Prop)(l:Loc):Prop:=∃b,KZ l=some b/\Shr b
def LP(own:Nat->Nat->Prop)(k:Nat)(l:Loc):Prop:=∃b,KZ l=some b/\own k b
def RdL(o:Nat)(Ro:Nat->Prop)(k:Nat)(l:Loc):Prop:=o<k/\∃b,KZ l=some b/\Ro b
def Told(Shr:Nat->Prop)(t:Trace):Prop:=∀(i:Nat) (op:MemOp) (x:Touch),t[i]?=some op->op.act.touch? =some x->op.g=0\/t.counts i\/(QB Shr x.loc/\x.kind=.atomic)
def Told.app{Shr t u}(h:Told Shr t)(hu:∀(i) (op) (x),u[i]?=some op->op.act.touch? =some x->op.g=0\/(t++u).counts (t.size+i)\/(QB Shr x.loc/\x.kind=.atomic)):Told Shr (t++u):=by
 intro i op x hi hx;rcases getElem?_append_cases hi with⟨a,b⟩|⟨c,_⟩
 .rcases h i op x b hx with h1|h1|h1
  .exact .inl h1
  .exact .inr (.inl ((counts_old a).2 h1))
  exact .inr (.inr h1)
 rw[Array.getElem?_append_right c] at hi
 have:=hu _ op x hi hx
 rwa[show t.size+(i-t.size)=i by omega] at this
def yY(b:Nat)(e:Event):Prop:=e.loc=.obj b/\e.write=false/\e.sync=true
def XOK(Shr:Nat->Prop)(i:Nat)(e:Event):Prop:=(i=0/\∃a:Addr,(e.loc=.mark (.read a)\/e.loc=.mark (.write a))/\Shr a.block) \/ ∃b,Shr b/\yY b e
def XOK.still{Shr i e}(h:XOK Shr i e):(∀a,e.loc≠.mark (.release a))/\e.loc≠.mark .disable/\e.loc≠.mark .enable:=by
 rcases h with⟨_,a,c,_⟩|⟨b,_,c,_⟩
 .rcases c with c|c<;>(rw[c];exact⟨fun a h=>(by cases h),fun h=>(by cases h),fun h=>(by cases h)⟩)
 rw[c];exact⟨fun a h=>(by cases h),fun h=>(by cases h),fun h=>(by cases h)⟩
structure Apart(Ro Shr:Nat->Prop)(j:Nat)(own:Nat->Nat->Prop):Prop where
 G8:∀b,Ro b->¬Shr b
 free:∀i b,own i b->¬Ro b/\¬Shr b
 one:∀i i' b,own i b->own i' b->i=i'
 none:∀i b,j<i->¬own i b
structure Base(Ro Shr:Nat->Prop)(o j:Nat)(own:Nat->Nat->Prop)(w:ay)(t:Trace):Prop where
 ap:Crew.Apart Ro Shr j own
 BJ:∀b,Ro b->b<w.heap.size
 nU:∀b,Shr b->b<w.heap.size
 wH:∀i b,own i b->b<w.heap.size
 ct:CT (QB Shr) (LP own) (RdL o Ro) t j
 low:∀op∈t,op.act.low w.heap.size
 told:Told Shr t
section
variable{Ro Shr:Nat->Prop}{o j:Nat}{own:Nat->Nat->Prop}{w w':ay}{t:Trace}
theorem Apart.fam(h:Crew.Apart Ro Shr j own):ConcN.Apart (QB Shr) (LP own) (RdL o Ro):=by
 refine⟨fun k k' l ⟨b,h1,h2⟩ ⟨b',c,a⟩=>?_,fun k k' l ⟨b,h1,h2⟩ ⟨_,b',c,a⟩=>?_,fun k l ⟨b,h1,h2⟩ ⟨b',c,a⟩=>?_,fun k l ⟨_,b,h1,h2⟩ ⟨b',c,a⟩=>?_⟩;all_goals (rw[h1] at c;obtain rfl:=aN c)
 .exact h.one k k' b h2 a
 .exact(h.free k b h2).1 a
 .exact(h.free k b h2).2 a
 exact h.G8 b h2 a
theorem aaS{op:MemOp}{x e}(h:op.act=.ofEvent e)(hx:op.act.touch? =some x):(∃a,e.loc=.cell a/\x.loc=.cell a/\x.write=e.write)\/(∃r,e.loc=.obj r/\x.loc=.obj r/\x.write=e.write)\/(∃m,e.loc=.mark m)\/e.loc=.output\/e.loc=.goroutines:=by
 rw[h] at hx;have⟨l,wr,sy⟩:=e;cases l with
 |cell a=>
 left;refine⟨a,rfl,?_⟩;simp[MemAct.ofEvent,MemAct.touch?,kG] at hx;subst hx;exact⟨rfl,rfl⟩
 |obj r=>
 right;left;refine⟨r,rfl,?_⟩;cases wr<;>cases sy<;>simp[MemAct.ofEvent,MemAct.touch?] at hx<;>(subst hx;exact⟨rfl,rfl⟩)
 |mark m=>exact .inr (.inr (.inl ⟨m,rfl⟩))
 |output=>exact .inr (.inr (.inr (.inl rfl)))
 |goroutines=>exact .inr (.inr (.inr (.inr rfl)))
theorem QF{op:MemOp}{x n}(h:op.act.low n)(hx:op.act.touch? =some x){b}(hb:KZ x.loc=some b):b<n:=by
 have⟨g,fn,pos,act⟩:=op;cases act with
 |access e=>
 simp[MemAct.touch?,kG] at hx;subst hx;have⟨l,wr,sy⟩:=e;cases l<;>simp[KZ,kG] at hb<;>first|cases hb|skip
 all_goals exact h
 |mark m=>
 cases m<;>simp[MemAct.touch?] at hx;all_goals
  subst hx;simp[KZ,kG] at hb;subst hb;exact h
 |_=>simp[MemAct.touch?] at hx
theorem ahi{own' n}(h:CT (QB Shr) (LP own) (RdL o Ro) t j)(hl:∀op∈t,op.act.low n)(h1:∀k b,own k b->own' k b)(h2:∀k b,own' k b->own k b\/n<=b):CT (QB Shr) (LP own') (RdL o Ro) t j:=by
 have hup:∀k l,LP own k l->LP own' k l:=fun k l ⟨b,e,ho⟩=>⟨b,e,h1 k b ho⟩;refine⟨h.quiet,fun k m c l ⟨b,e,ho⟩=>?_,h.rd,fun l hs hn=>h.free l hs fun k m c=>⟨fun ho=>(hn k m c).1 (hup k l ho),(hn k m c).2⟩,fun l hs hn=>h.mine l hs fun k m c ho=>hn k m c (hup k l ho),h.nr,h.gs⟩;rcases h2 k b ho with ho|g
 .exact h.own k m c l ⟨b,e,ho⟩
 intro i a ha f;have⟨x,hx,d⟩:=touch_of ha;have:=QF (hl x (kP hx)) d (by rw[f];exact e);omega
theorem AU{g fn pos es op}(h:op∈MemOp.ofEvents g fn pos es):∃e∈es,op.g=g/\op.act=.ofEvent e:=by obtain⟨e,he,rfl⟩:=Gn h;exact⟨e,he,rfl,rfl⟩
theorem Base.way(h:Base Ro Shr o j own w t){i}(hi:i<=j)(T:i=0\/o<i){q X}(O:∀e,X e->XOK Shr i e){es}(C:i=0\/Deaf t i=0\/es=#[])(hg:Zl q X Ro (own i) (more (own i) w w') w w' es)(fn)(pos):Base Ro Shr o j (upd own i (more (own i) w w')) w' (t++MemOp.ofEvents i fn pos es)/\(∀i',i'≠i->bP Ro (own i') w w')/\(∀b,Shr b->w'.heap[b]?=w.heap[b]?)/\∀k,Deaf (t++MemOp.ofEvents i fn pos es) k=Deaf t k:=by
 have n:=hg.size;have u:∀k b,upd own i (more (own i) w w') k b->own k b\/(k=i/\w.heap.size<=b/\b<w'.heap.size):=fun k b hb=>by
  by_cases e:k=i
  .subst e;rw[upd_same] at hb;exact hb.imp id fun h=>⟨rfl,h⟩
  rw[bQ own _ e] at hb;exact .inl hb
 have hup:∀k b,own k b->upd own i (more (own i) w w') k b:=fun k b hb=>by
  by_cases e:k=i
  .subst e;rw[upd_same];exact .inl hb
  rw[bQ own _ e];exact hb
 have B:Crew.Apart Ro Shr j (upd own i (more (own i) w w')):=by
  refine⟨h.ap.G8,fun k b hb=>?_,fun k k' b hb U=>?_,fun k b hk hb=>?_⟩
  .rcases u k b hb with h1|⟨_,h1,_⟩
   .exact h.ap.free k b h1
   exact⟨fun h2=>by have:=h.BJ b h2;omega,fun h2=>by have:=h.nU b h2;omega⟩
  .rcases u k b hb with h1|⟨P,h1,_⟩<;>rcases u k' b U with h2|⟨W,h2,_⟩
   .exact h.ap.one k k' b h1 h2
   .have:=h.wH k b h1;omega
   .have:=h.wH k' b h2;omega
   rw[P,W]
  rcases u k b hb with h1|⟨P,_⟩
  .exact h.ap.none k b hk h1
  omega
 have J:=ahi (own':=upd own i _) h.ct h.low hup fun k b hb=>(u k b hb).imp id fun h=>h.2.1;have d:∀op∈MemOp.ofEvents i fn pos es,op.g=i/\∀x,op.act.touch? =some x->LP (upd own i (more (own i) w w')) i x.loc\/((∃b,KZ x.loc=some b/\Ro b)/\x.write=false)\/(QB Shr x.loc/\((i=0/\x.kind≠.plain)\/x.kind=.atomic)):=fun op p=>by
  have⟨e,he,h1,h2⟩:=AU p;refine⟨h1,fun x hx=>?_⟩;rcases hg.evs e he with c|c
  .unfold EvO at c;rcases aaS h2 hx with⟨a,f,z,E⟩|⟨r,f,z,E⟩|⟨m,f⟩|f|f
   .rw[f] at c;rw[z];rcases c with s|⟨s,V⟩
    .exact .inl ⟨a.block,rfl,by rw[upd_same];exact s⟩
    exact .inr (.inl ⟨⟨a.block,rfl,s⟩,by rw[E,V]⟩)
   .rw[f] at c;rw[z];rcases c with s|⟨s,V⟩
    .exact .inl ⟨r,rfl,by rw[upd_same];exact s⟩
    exact .inr (.inl ⟨⟨r,rfl,s⟩,by rw[E,V]⟩)
   .rw[f] at c;have c:=c;subst c;have⟨l,wr,sy⟩:=e;subst f;rw[h2] at hx;simp[MemAct.ofEvent,MemAct.touch?] at hx
   .rw[f] at c;exact c.elim
   rw[f] at c;exact c.elim
  rcases O e c with⟨N,a,f,z⟩|⟨b,z,f,E,s⟩
  .refine .inr (.inr ?_);have⟨l,wr,sy⟩:=e;rw[h2] at hx;rcases f with f|f<;>(dsimp only at f;subst f;simp[MemAct.ofEvent,MemAct.touch?] at hx;subst hx;exact⟨⟨a.block,rfl,z⟩,.inl ⟨N,by simp⟩⟩)
  refine .inr (.inr ?_);have⟨l,wr,sy⟩:=e;subst f E s;rw[h2] at hx;simp[MemAct.ofEvent,MemAct.touch?] at hx;subst hx;exact⟨⟨b,rfl,z⟩,.inr rfl⟩
 have I:CT (QB Shr) (LP (upd own i (more (own i) w w'))) (RdL o Ro) (t++MemOp.ofEvents i fn pos es) j:=by
  have M:=B.fam (o:=o);rcases uu i with e|F
  .refine J.app0 M fun op p=>⟨by rw[(d op p).1,e],fun x hx=>?_⟩;rcases(d op p).2 x hx with ho|⟨hr,R⟩|⟨hs,hk⟩
   .refine .inr ⟨M.ownSh i _ ho,fun k k1 _ hk=>?_,fun _ k _ _ hk=>M.ownRd i k _ ho hk⟩;have:=M.own i k _ ho hk;omega
   .have⟨b,L,K⟩:=hr;refine .inr ⟨fun⟨b',y,D⟩=>?_,fun k _ _ ⟨b',y,D⟩=>?_,fun hw=>by rw[R] at hw;cases hw⟩
    .rw[L] at y;obtain rfl:=aN y;exact B.G8 b K D
    rw[L] at y;obtain rfl:=aN y;exact(B.free k b D).1 K
   refine .inl ⟨hs,?_⟩;rcases hk with⟨_,hk⟩|hk
   .exact hk
   rw[hk];simp
  refine J.appW M F hi fun op p=>⟨(d op p).1,fun x hx=>?_⟩;rcases(d op p).2 x hx with h1|h1|⟨h1,h2⟩
  .exact .inr (.inl h1)
  .exact .inr (.inr ⟨⟨T.resolve_left (by omega),h1.1⟩,h1.2⟩)
  rcases h2 with⟨h2,_⟩|h2
  .omega
  exact .inl ⟨h1,by rw[h2];simp,by rw[h2];simp⟩
 refine⟨⟨B,fun b hb=>bT (h.BJ b hb) n,fun b hb=>bT (h.nU b hb) n,fun k b hb=>?_,I,fun op p=>?_,h.told.app fun Q op x hj hx=>?_⟩,fun i' hne=>⟨n,fun b hb ho=>hg.keep b hb fun A=>?_,hg.cells,hg.chans⟩,fun b hb=>hg.keep b (h.nU b hb) fun A=>(h.ap.free i b A).2 hb,fun k=>?_⟩
 .rcases u k b hb with h1|⟨_,_,h1⟩
  .exact bT (h.wH k b h1) n
  exact h1
 .rcases BD.1 p with h1|h1
  .exact MemAct.low_mono n (h.low op h1)
  have⟨e,he,_,h2⟩:=AU h1;rw[h2];have v:=hg.evs e he;rcases v with c|v;rotate_left
  .rcases O e v with⟨_,a,f,z⟩|⟨b,z,f,E,s⟩
   .have:=bT (h.nU _ z) n;have⟨l,wr,sy⟩:=e;rcases f with f|f<;>(dsimp only at f;subst f;exact this)
   have:=bT (h.nU _ z) n;have⟨l,wr,sy⟩:=e;subst f E s;exact this
  have⟨l,wr,sy⟩:=e;unfold EvO at c;cases l with
  |cell a=>
  have:a.block<w'.heap.size:=by
   rcases c with(s|s)|⟨s,_⟩
   .exact bT (h.wH i _ s) n
   .exact s.2
   exact bT (h.BJ _ s) n
  exact this
  |obj r=>
  have:r<w'.heap.size:=by
   rcases c with(s|s)|⟨s,_⟩
   .exact bT (h.wH i _ s) n
   .exact s.2
   exact bT (h.BJ _ s) n
  cases wr<;>cases sy<;>exact this
  |mark m=>
  have c:=c;subst c;trivial
  |_=>exact c.elim
 .have H:=(d op (kP hj)).1;rcases C with N|C|N
  .exact .inl (H.trans N)
  rotate_left
  .rw[N,BA] at hj;simp at hj
  right;left;have hm:x.loc.isMemory=true:=by
   rcases(d op (kP hj)).2 x hx with⟨b,h1,_⟩|⟨⟨b,h1,_⟩,_⟩|⟨⟨b,h1,_⟩,_⟩<;>
   .generalize x.loc=l at h1;cases l<;>first|rfl|cases h1
  have S:Q<=es.size:=by have:=(aP.1 hj).1;rw[BA] at this;simp at this;omega
  have G:(t++MemOp.ofEvents i fn pos es)[t.size+Q]?=some op:=by rw[Array.getElem?_append_right (Nat.le_add_right _ _),Nat.add_sub_cancel_left];exact hj
  refine⟨x,by rw[act?_of G];exact hx,hm,.inr ⟨i,by simp[Trace.g?,G,H],?_⟩⟩;rw[deaf_inside t i fn pos es Q S,C];refine PR (fun e he=>?_) _;have he:e∈es:=by have⟨k,hk,P⟩:=Array.mem_extract_iff_getElem.1 he;rw[<-P];exact Array.getElem_mem _
  rcases hg.evs e he with c|c
  .unfold EvO at c;constructor
   .intro h1;rw[h1] at c;cases c
   intro h1;rw[h1] at c;cases c
  exact(O e c).still.2
 .rcases ho with ho|ho
  .exact(h.ap.free i b A).1 ho
  exact hne (h.ap.one i' i b ho A)
 by_cases e:k=i
 .subst e;rw[Gm];refine PR (fun e he=>?_) _;rcases hg.evs e he with c|c
  .unfold EvO at c;constructor
   .intro h1;rw[h1] at c;cases c
   intro h1;rw[h1] at c;cases c
  exact(O e c).still.2
 exact xK t (fun h=>e h.symm) _ (fun op p=>by have⟨e,_,h1,_⟩:=AU p;exact h1)
end
section
def One{α:Type}(r:Nat->α->α->Prop)(j:Nat)(f' f:Nat->α):Prop:=∃i,i<j/\r i (f' i) (f i)/\∀i',i'≠i->f' i'=f i'
def Si{α:Type}(r:Nat->α->α->Prop):∀(j:Nat) (f:Nat->α),(∀i,i<j->Acc (r i) (f i))->Acc (One r j) f
|0,f,_=>⟨f,fun f' ⟨i,hi,_⟩=>absurd hi (Gl i)⟩
|j+1,f,h=>by
 have outer:∀a,Acc (r j) a->∀f:Nat->α,f j=a->(∀i,i<j->Acc (r i) (f i))->Acc (One r (j+1)) f:=by
  intro a ha;induction ha with
  |intro a _ l=>
   intro f b hf;have inner:∀f,Acc (One r j) f->f j=a->(∀i,i<j->Acc (r i) (f i))->Acc (One r (j+1)) f:=by
    intro f g;induction g with
    |intro f _ k=>
    intro b hf;refine⟨f,fun f' ⟨i,hi,hr,hne⟩=>?_⟩;have d:∀i',i'<j->Acc (r i') (f' i'):=fun i' c=>by
     by_cases e:i'=i
     .subst e;exact(hf i' c).inv hr
     rw[hne i' e];exact hf i' c
    by_cases e:i=j
    .subst e;exact l (f' i) (b▸hr) f' rfl d
    exact k f' ⟨i,by omega,hr,hne⟩ (by rw[hne j (fun h=>e h.symm)];exact b) d
   exact inner f (Si r j f hf) b hf
 exact outer (f j) (h j (DT j)) f rfl fun i hi=>h i (Zb hi)
structure Rank where
 g:dD
 w:ay
 own:Nat->Prop
structure Kind where
 quiet:Bool
 X:Event->Prop
 Stop:dD->ay->(Nat->Prop)->Prop
section
variable(P:aH)(Ro:Nat->Prop)(Live:ay->Prop)
def bu(m:Bool)(k:Kind)(a:Rank):Prop:=Ren.Way P m Ro Live k.quiet k.X k.Stop a.g a.w a.own
def uB(k:Kind)(a:Rank):Prop:=∀w1,bP Ro a.own a.w w1->Live w1->k.Stop a.g w1 a.own
def Child(m:Bool)(k:Kind)(a' a:Rank):Prop:=¬uB Ro Live k a/\∃w1 es,bP Ro a.own a.w w1/\Live w1/\stepG P m a.g w1=.go a'.g a'.w es/\a'.own=more a.own w1 a'.w
end
variable{P:aH}{Ro:Nat->Prop}{Live:ay->Prop}
theorem JG{m k a}(h:bu P Ro Live m k a):Acc (Child P Ro Live m k) a:=by
 have⟨g,w,own⟩:=a;have h0:Ren.Way P m Ro Live k.quiet k.X k.Stop g w own:=h;clear h;induction h0 with
 |stop hs h=>exact⟨_,fun a' ⟨hn,_⟩=>absurd h hn⟩
 |step hs G W E he h d=>
 refine⟨_,fun a' ⟨_,w1,es,hr,hl,hst,ho⟩=>?_⟩;have⟨b,_⟩:=he w1 hr hl;rw[show stepG P m _ w1=_ from hst] at b;simp[jG] at b;have⟨b,c,_⟩:=b;have⟨g',w',own'⟩:=a';dsimp only at b c ho;subst b c ho;exact d w1 hr hl
theorem bu.step{m k a}(h:bu P Ro Live m k a)(hn:¬uB Ro Live k a){w1}(hr:bP Ro a.own a.w w1)(hl:Live w1):∃g' w' es,stepG P m a.g w1=.go g' w' es/\Zl k.quiet k.X Ro a.own (more a.own w1 w') w1 w' es/\bu P Ro Live m k ⟨g',w',more a.own w1 w'⟩/\Child P Ro Live m k ⟨g',w',more a.own w1 w'⟩ a:=by
 have⟨g,w,own⟩:=a;have h':=h;cases h' with
 |stop hs hst=>exact absurd hst hn
 |step hs G W E he h=>
 have⟨b,c⟩:=he w1 hr hl;exact⟨G w1,W w1,E w1,b,c,h w1 hr hl,hn,w1,E w1,hr,hl,b,rfl⟩
theorem bu.status{m k a}(h:bu P Ro Live m k a):a.g.status=.running:=Ren.Way.status h
end
end Go.Crew
