import Derived.Orders
import Derived.Test.YtjilljfmaknihaaGreatA08
set_option linter.all false
set_option maxHeartbeats 4000000
namespace Go
def J5:=@Go.linearise_go_acc
end Go
namespace Go.Ev
section
variable{P:aH}{inv:Iv}
theorem TS(h1:H):∀(l:List Nat) (t:T Ob) (b:Nat),(∀c∈l,c<top)->(lay h1 l t).get b=if b∈l then h1.get b else t.get b
|[],t,b,_=>by simp[lay]
|c::l,t,b,hl=>by
 rw[lay,T.get_put _ _ _ _ _ (df (hl c (by simp))),TS h1 l t b fun c hc=>hl c (by simp[hc])];by_cases e:b=c
 .subst e;simp
 simp[e]
def touches(b:Nat)(r:Rec):Bool:=r.h1.log.contains b
theorem Cm{b r}:touches b r=true↔b∈r.h1.log:=by simp[touches]
theorem wV(t:T Ob)(b:Nat):∀(a:List Rec),(∀r∈a,∀c∈r.h1.log,c<top)->(layAll t a).get b=match a.find? (touches b) with|some r=>r.h1.get b|none=>t.get b
|[],_=>rfl
|r::a,hl=>by
 rw[layAll,TS _ _ _ _ (hl r (by simp)),wV t b a fun s hs=>hl s (by simp[hs]),List.find?_cons];by_cases e:b∈r.h1.log
 .rw[aY e,Cm.2 e]
 have:touches b r=false:=by simpa[touches] using e
 rw[aU e,this]
theorem RV(ops:List bn)(i:Nat)(t:T Ob):∀a:List Rec,behind ops i t a=layAll t (a.filter fun r=>uD ops ops.length r.i i)
|[]=>rfl
|r::a=>by rw[behind,RV ops i t a,List.filter_cons];cases uD ops ops.length r.i i<;>rfl
theorem FT{α:Type}{p:α->Bool}{R:α->α->Prop}:∀{l:List α} {r:α},l.Pairwise R->l.find? p=some r->∀s∈l,p s=true->s=r\/R r s
|[],r,_,h,s,hs,_=>by cases hs
|a::l,r,hp,h,s,hs,b=>by
 rw[List.find?_cons] at h;cases ha:p a with
 |true=>
 rw[ha] at h;cases h;rcases dW.1 hs with rfl|hs
 .exact .inl rfl
 exact .inr ((UU.1 hp).1 s hs)
 |false=>
 rw[ha] at h;rcases dW.1 hs with rfl|hs
 .rw[ha] at b;cases b
 exact FT (UU.1 hp).2 h s hs b
theorem JA{p}{pr:Nat->Nat->Bool}{l m:List Rec}(hl:l.Pairwise fun r s=>pr r.i s.i=false)(hm:m.Pairwise fun r s=>pr r.i s.i=false)(hs:∀r,p r=true->(r∈l↔r∈m))(ho:∀r s,r∈l->s∈l->p r=true->p s=true->r=s\/pr r.i s.i=true\/pr s.i r.i=true):l.find? p=m.find? p:=by
 cases h1:l.find? p with
 |none=>
  symm
  rw[List.find?_eq_none] at h1⊢;intro r hr hp;exact h1 r ((hs r hp).2 hr) hp
 |some r=>
  have a:=List.find?_some h1;have e:=List.mem_of_find?_eq_some h1;have d:=(hs r a).1 e;cases h2:m.find? p with
  |none=>rw[List.find?_eq_none] at h2;exact absurd a (h2 r d)
  |some s=>
  have b:=List.find?_some h2;have hsm:=List.mem_of_find?_eq_some h2;have c:=(hs s b).2 hsm;rcases FT hl h1 s c b with rfl|g
  .rfl
  rcases FT hm h2 r d a with rfl|f
  .rfl
  rcases ho r s e c a b with rfl|h|h
  .rfl
  .rw[g] at h;cases h
  rw[f] at h;cases h
theorem Hy{ops:Array bn}{X:Nat->Prop}(b:∀j,X j->∀o,ops[j]?=some o->∀e∈o.after,Region.binds .any e=true->X e.on):∀(k j i:Nat),(∀o,ops[i]?=some o->∀e∈o.after,Region.binds .any e=true->X e.on)->uD ops.toList k j i=true->X j
|0,j,i,_,h=>by simp[uD] at h
|k+1,j,i,hi,h=>by
 simp only[uD] at h;rw[Eg] at h;split at h
 .rename_i o ho;rw[jA] at h;have⟨e,he,h⟩:=h;have a:e∈o.after:=by simpa using he
  split at h
  .rename_i hb;have hx:=hi o ho e a hb
   split at h
   .rename_i hj;rw[<-bG hj];exact hx
   exact Hy b k j e.on (b _ hx) h
  cases h
 cases h
theorem pred_lt{ops:Array bn}(a:∀i o,ops[i]?=some o->∀e∈o.after,Region.binds .any e=true->e.on<i):∀(k j i:Nat),uD ops.toList k j i=true->j<i
|0,j,i,h=>by simp[uD] at h
|k+1,j,i,h=>by
 simp only[uD] at h;rw[Eg] at h;split at h
 .rename_i o ho;rw[jA] at h;have⟨e,he,h⟩:=h;have b:e∈o.after:=by simpa using he
  split at h
  .rename_i hb;have c:=a i o ho e b hb
   split at h
   .rename_i hj;have:=bG hj;omega
   have:=pred_lt a k j e.on h;omega
  cases h
 cases h
theorem C9{ops i j}:abr ops i j=true↔uD ops ops.length i j=true\/uD ops ops.length j i=true:=by unfold abr;cases uD ops ops.length i j<;>simp
def Zj(P:aH)(inv:Iv)(ck:Ck)(n:Nat)(all:List bn)(t0:T Ob)(i:Nat)(o:bn)(t:T ae)(nx:Nat)(rs:List Rec)(t':T ae)(nx':Nat)(rs':List Rec):Prop:=∃v,nV t n o.dst v=some t'/\((rY all (only t (lu all o)) o=some false/\ck.skip o=true/\v=.tuple #[]/\nx'=nx/\rs'=rs)\/(rY all (only t (lu all o)) o=some true/\ck.go (only t (lu all o)) o=true/\xZ o.op=true/\sZ P (di (only t (lu all o))) o.op=some v/\nx'=nx/\rs'=rs)\/(rY all (only t (lu all o)) o=some true/\ck.go (only t (lu all o)) o=true/\∃h1,EG P inv (only t (lu all o)) ⟨narrow (only t (lu all o)) o.op (behind all i t0 rs),nx,[]⟩ o.op=some (v,h1)/\nx'=h1.next/\rs'=⟨i,⟨narrow (only t (lu all o)) o.op (behind all i t0 rs),nx,[]⟩,h1⟩::rs))
theorem afI{ck n all t0 o l i t nx f x}(e:vZ P inv ck n all t0 (o::l) i t nx f=some x):∃t' nx' b,Zj P inv ck n all t0 i o t nx f t' nx' b/\vZ P inv ck n all t0 l (i+1) t' nx' b=some x:=by
 simp[vZ] at e;split at e
 .rename_i hw
  split at e;case h_2=>cases e
  rename_i a;split at e
  .rename_i d
   split at e
   .rename_i v c
    split at e
    .rename_i t' ht;exact⟨t',nx,f,⟨v,ht,.inr (.inl ⟨hw,a,d,c,rfl,rfl⟩)⟩,e⟩
    cases e
   cases e
  split at e
  .rename_i v h1 c
   split at e
   .rename_i t' ht;exact⟨t',_,_,⟨v,ht,.inr (.inr ⟨hw,a,h1,c,rfl,rfl⟩)⟩,e⟩
   cases e
  cases e
 .rename_i hw
  split at e;case h_2=>cases e
  rename_i a;split at e
  .rename_i t' ht;exact⟨t',nx,f,⟨_,ht,.inl ⟨hw,a,rfl,rfl,rfl⟩⟩,e⟩
  cases e
 cases e
theorem Jb{ck:Ck}{n:Nat}{all:List bn}{t0:T Ob}:∀{l:List bn} {i:Nat} {t:T ae} {nx:Nat} {v:List Rec} {t':T ae} {nx':Nat} {a:List Rec},vZ P inv ck n all t0 l i t nx v=some (t',nx',a)->∃(TT:Nat->T ae) (NX:Nat->Nat) (RS:Nat->List Rec),TT i=t/\NX i=nx/\RS i=v/\TT (i+l.length)=t'/\NX (i+l.length)=nx'/\RS (i+l.length)=a/\∀j o,l[j]?=some o->Zj P inv ck n all t0 (i+j) o (TT (i+j)) (NX (i+j)) (RS (i+j)) (TT (i+j+1)) (NX (i+j+1)) (RS (i+j+1))
|[],i,t,nx,v,t',nx',a,e=>by cases e;exact⟨fun _=>t,fun _=>nx,fun _=>v,rfl,rfl,rfl,rfl,rfl,rfl,fun j o h=>by simp at h⟩
|o::l,i,t,nx,v,t',nx',a,e=>by
 have⟨t1,c,b,hs,g⟩:=afI e;have⟨TT,NX,RS,u,s,r,q,p,m,k⟩:=Jb g;have el:i+(o::l).length=i+1+l.length:=by simp;omega
 have far:∀{α:Type} (x:α) (f:Nat->α) (j:Nat),i<j->(if j<=i then x else f j)=f j:=fun x f j hj=>by rw[aU (by omega)]
 refine⟨fun j=>if j<=i then t else TT j,fun j=>if j<=i then nx else NX j,fun j=>if j<=i then v else RS j,by simp,by simp,by simp,?_,?_,?_,fun j o' hj=>?_⟩
 .rw[el];simp only;rw[far _ _ _ (by omega)];exact q
 .rw[el];simp only;rw[far _ _ _ (by omega)];exact p
 .rw[el];simp only;rw[far _ _ _ (by omega)];exact m
 cases j with
 |zero=>
 cases hj;simp only[Nat.add_zero];rw[far t TT (i+1) (by omega),far nx NX (i+1) (by omega),far v RS (i+1) (by omega),aY (aA i),aY (aA i),aY (aA i),u,s,r];exact hs
 |succ j=>
 have:=k j o' (by simpa using hj);have d:i+(j+1)=i+1+j:=by omega
 rw[d];simp only;rw[far t TT (i+1+j) (by omega),far nx NX (i+1+j) (by omega),far v RS (i+1+j) (by omega),far t TT (i+1+j+1) (by omega),far nx NX (i+1+j+1) (by omega),far v RS (i+1+j+1) (by omega)];exact this
structure Trace(P:aH)(inv:Iv)(ck:Ck)(n:Nat)(ops:Array bn)(t0:T Ob)(TT:Nat->T ae)(NX:Nat->Nat)(RS:Nat->List Rec):Prop where
 step:∀j o,ops[j]?=some o->Zj P inv ck n ops.toList t0 j o (TT j) (NX j) (RS j) (TT (j+1)) (NX (j+1)) (RS (j+1))
 first:RS 0=[]
variable{ck:Ck}{n:Nat}{ops:Array bn}{t0:T Ob}{TT:Nat->T ae}{NX:Nat->Nat}{RS:Nat->List Rec}
theorem Trace.next(a:Trace P inv ck n ops t0 TT NX RS)(hI:qK inv){j}(hj:j<ops.size):NX j<=NX (j+1):=by
 obtain⟨v,_,h|h|h⟩:=a.step j _ (gu hj)
 .rw[h.2.2.2.1];exact aA _
 .rw[h.2.2.2.2.1];exact aA _
 have⟨_,_,h1,e,b,_⟩:=h;rw[b];exact wO hI e
theorem Trace.nO(a:Trace P inv ck n ops t0 TT NX RS)(hI:qK inv){j}:∀{k},j<=k->k<=ops.size->NX j<=NX k
|0,h1,_=>by obtain rfl:j=0:=by omega
            exact aA _
|k+1,h1,h2=>by
 by_cases e:j=k+1
 .subst e;exact aA _
 exact bM (a.nO hI (by omega) (by omega)) (a.next hI (by omega))
def afd(ops:Array bn)(t0:T Ob)(NX:Nat->Nat)(RS:Nat->List Rec)(r:Rec):Prop:=(∃m,r.h0=⟨m,NX r.i,[]⟩/\Under m (behind ops.toList r.i t0 (RS r.i)))/\r.h1.next=NX (r.i+1)
theorem Trace.recs(a:Trace P inv ck n ops t0 TT NX RS){j}(hj:j<ops.size):RS (j+1)=RS j \/ ∃r,RS (j+1)=r::RS j/\r.i=j/\afd ops t0 NX RS r:=by
 obtain⟨v,_,h|h|h⟩:=a.step j _ (gu hj)
 .exact .inl h.2.2.2.2
 .exact .inl h.2.2.2.2.2
 have⟨_,_,h1,e,c,b⟩:=h;exact .inr ⟨_,b,rfl,⟨_,rfl,TL _ _ _⟩,c.symm⟩
theorem Trace.all(a:Trace P inv ck n ops t0 TT NX RS):∀{k},k<=ops.size->(∀r∈RS k,r.i<k/\afd ops t0 NX RS r)/\(RS k).Pairwise (fun r s=>s.i<r.i)
|0,_=>by rw[a.first];exact⟨fun r h=>by simp at h,.nil⟩
|k+1,hk=>by
 have⟨h1,h2⟩:=a.all (k:=k) (by omega);rcases a.recs (j:=k) (by omega) with e|⟨r,e,q1,b⟩
 .rw[e];exact⟨fun r hr=>⟨by have:=(h1 r hr).1;omega,(h1 r hr).2⟩,h2⟩
 rw[e];refine⟨fun s hs=>?_,UU.2 ⟨fun s hs=>by have:=(h1 s hs).1;omega,h2⟩⟩;rcases dW.1 hs with rfl|hs
 .exact⟨by omega,b⟩
 exact⟨by have:=(h1 s hs).1;omega,(h1 s hs).2⟩
theorem Trace.sub(c:Trace P inv ck n ops t0 TT NX RS){j}:∀{k},j<=k->k<=ops.size->∀r,r∈RS j↔(r∈RS k/\r.i<j)
|0,h1,h2,r=>by
 obtain rfl:j=0:=by omega
 rw[c.first];simp
|k+1,h1,h2,r=>by
 by_cases e:j=k+1
 .subst e;exact⟨fun h=>⟨h,((c.all h2).1 r h).1⟩,fun h=>h.1⟩
 rw[c.sub (k:=k) (by omega) (by omega) r];rcases c.recs (j:=k) (by omega) with d|⟨s,d,q1,_⟩
 .rw[d]
 rw[d];constructor
 .rintro⟨a,b⟩;exact⟨jy _ a,b⟩
 rintro⟨a,b⟩;rcases dW.1 a with rfl|a
 .omega
 exact⟨a,b⟩
theorem GL:∀{n i:Nat},i<n->i∈upto n
|n+1,i,h=>by
 rw[upto,pY];by_cases e:i=n
 .exact .inr (by simp[e])
 exact .inl (GL (by omega))
theorem FW{ops:Array bn}(h:O0 ops.toList=true){i o}(ho:ops[i]?=some o):∀e∈o.after,Region.binds .any e=true->e.on<i:=fun e he hb=>by
 have hi:i<ops.toList.length:=by have:=(aP.1 ho).1;simpa using this
 have h1:=bZ.1 h i (GL hi);rw[Eg,ho] at h1;simp only[aT] at h1;have h2:=bZ.1 h1.1 e (by simpa using he);rw[hb] at h2;simpa[ik] using h2
theorem OZ{ops:Array bn}(h:O0 ops.toList=true){i j e oj d}(hi:ops[i]?=some e)(hd:e.dst=some d)(c:i≠j)(hj:ops[j]?=some oj)(hr:oj.dst=some d\/d∈lu ops.toList oj):abr ops.toList i j=true:=by
 have b:i<ops.toList.length:=by have:=(aP.1 hi).1;simpa using this
 have a:j<ops.toList.length:=by have:=(aP.1 hj).1;simpa using this
 have h1:=bZ.1 h i (GL b);rw[Eg,hi] at h1;simp only[aT,hd] at h1;have h2:=bZ.1 h1.2 j (GL a);have hb:Nat.beq i j=false:=by
  cases hb:Nat.beq i j
  .rfl
  exact absurd (bG hb) c
 rw[hb,Eg,hj] at h2;simp only at h2;split at h2
 .rename_i g f;rcases hr with hr|hr
  .rw[hr] at g;simp at g
  exfalso;have:(lu ops.toList oj).any (fun k=>Nat.beq k d)=true:=jA.2 ⟨d,hr,by simp⟩;rw[this] at f;cases f
 exact h2
theorem yF{h:H}:∀{l:List Nat},untouched h l=true->∀b∈l,h.get b=none
|c::l,e,b,hb=>by
 simp only[untouched] at e;split at e
 .rename_i hn;rcases dW.1 hb with rfl|hb
  .exact hn
  exact yF e b hb
 cases e
def Apart(ops:List bn)(r s:Rec):Prop:=abr ops r.i s.i=true\/((∀b∈s.h1.log,r.h0.get b=none)/\∀b∈r.h1.log,s.h0.get b=none)
theorem Apart.symm{ops r s}(h:Apart ops r s):Apart ops s r:=h.imp (fun e=>by rw[C9] at e⊢;exact e.symm) And.symm
theorem EC{ops:List bn}{r:Rec}:∀{a:List Rec},apartB ops r a=true->∀s∈a,Apart ops r s
|t::a,e,s,hs=>by
 simp only[apartB] at e;split at e
 .rename_i ho;rcases dW.1 hs with rfl|hs
  .exact .inl ho
  exact EC e s hs
 split at e
 .rename_i h1 h2;rcases dW.1 hs with rfl|hs
  .exact .inr ⟨yF h1,yF h2⟩
  exact EC e s hs
 cases e
theorem DC{ops:List bn}:∀{c:List Rec},DD ops c=true->∀r∈c,∀s∈c,r=s\/Apart ops r s
|t::c,e,r,hr,s,hs=>by
 simp only[DD] at e;split at e
 .rename_i h1;rcases dW.1 hr with rfl|b<;>rcases dW.1 hs with rfl|a
  .exact .inl rfl
  .exact .inr (EC h1 s a)
  .exact .inr (EC h1 r b).symm
  exact DC e r b s a
 cases e
theorem Ic{r}(h:ady r=true):∀b∈r.h1.log,b<top/\((r.h0.get b).isSome=true\/(r.h0.next<=b/\b<r.h1.next)):=fun b hb=>by
 have h1:=bZ.1 h b hb;split at h1
 .rename_i ht
  refine⟨by rwa[ik] at ht,?_⟩;split at h1
  .rename_i hg;exact .inl (by rw[hg];rfl)
  split at h1
  .rename_i hl;exact .inr ⟨iF hl,by rwa[ik] at h1⟩
  cases h1
 cases h1
theorem NU{t:T ae}:∀{l:List Nat} {d:Nat} {v:ae},(only t l).get d=some v->d∈l/\t.get d=some v
|[],d,v,h=>by simp[only,T.get] at h
|c::l,d,v,h=>by
 simp only[only] at h;split at h
 .rename_i hc;rw[ik] at hc;rw[T.get_put _ _ _ _ _ (df hc)] at h
  split at h
  .rename_i e;subst e;exact⟨by simp,h⟩
  have⟨a,b⟩:=NU h;exact⟨by simp[a],b⟩
 have⟨a,b⟩:=NU h;exact⟨by simp[a],b⟩
theorem acM{t t' n d v}(e:nV t n d v=some t')(c)(hc:d≠some c):t'.get c=t.get c:=by
 cases d with
 |none=>simp[nV] at e;cases e;rfl
 |some d=>
 simp[nV] at e;split at e
 .rename_i h1 h2;cases e;rw[ik] at h2;rw[T.get_put _ _ _ _ _ (df h2),aU (fun e=>hc (by rw[e]))]
 cases e
theorem aa2{t t' n d v}(e:nV t n (some d) v=some t'):t'.get d=some v/\d<n:=by
 simp[nV] at e;split at e
 .rename_i h1 h2;cases e;rw[ik] at h1 h2;rw[T.get_put _ _ _ _ _ (df h2),aY rfl];exact⟨rfl,h1⟩
 cases e
structure Far(ρ:jV)(h:H)(w:ay)(ρ':jV)(h':H)(w':ay)(N:Nat->Prop):Prop where
 le:Le ρ ρ'
 born:∀b,ρ b=.dC->¬N b->ρ' b=.dC
 size:w.heap.size<=w'.heap.size
 log:∃l,h'.log=l++h.log/\
  (∀x o,w.heap[x]?=some o->(∀b k,b∈l->ρ b≠.at_ x k)->w'.heap[x]?=some o)/\
  (∀b x k,ρ' b=.at_ x k->ρ b=.at_ x k\/(ρ b=.dC/\(w.heap.size<=x \/ ∃c m,c∈l/\ρ c=.at_ x m)))/\
  (∀b,b∈l->(h.get b).isSome=true\/N b)/\
  (∀b,b∉l->h'.get b=h.get b)/\
  (∀b,b∉l->ρ b≠.dC->ρ' b=ρ b)
theorem Far.trans{ρ g f h h1 h2 w w1 w2 N}(a:Far ρ h w g h1 w1 N)(b:Far g h1 w1 f h2 w2 N):Far ρ h w f h2 w2 N:=by
 have⟨l1,q,f1,o1,t1,s1,r⟩:=a.log;have⟨l2,p,f2,l,t2,s2,n⟩:=b.log;refine⟨a.le.trans b.le,fun x hu hr=>b.born x (a.born x hu hr) hr,bM a.size b.size,l2++l1,by rw[p,q,Lj],fun x o hx hn=>?_,fun y x k hy=>?_,fun y hy=>?_,fun y hy=>?_,fun y hy hu=>?_⟩
 .refine f2 x o (f1 x o hx fun y k hy=>hn y k (by simp[hy])) fun y k hy e=>?_;rcases o1 y x k e with h|⟨_,h|⟨c,m,hc,hm⟩⟩
  .exact hn y k (by simp[hy]) h
  .have:=(aP.1 hx).1;omega
  exact hn c m (by simp[hc]) hm
 .rcases l y x k hy with h|⟨hu,h⟩
  .rcases o1 y x k h with h|⟨hu,h|⟨c,m,hc,hm⟩⟩
   .exact .inl h
   .exact .inr ⟨hu,.inl h⟩
   exact .inr ⟨hu,.inr ⟨c,m,by simp[hc],hm⟩⟩
  have i:ρ y=.dC:=by
   rcases a.le y with h|h|h
   .exact h
   .rw[<-h];exact hu
   rw[h] at hu;cases hu
  refine .inr ⟨i,?_⟩;rcases h with h|⟨c,m,hc,hm⟩
  .exact .inl (bM a.size h)
  rcases o1 c x m hm with h|⟨_,h|⟨d,m',hd,j⟩⟩
  .exact .inr ⟨c,m,by simp[hc],h⟩
  .exact .inl h
  exact .inr ⟨d,m',by simp[hd],j⟩
 .rcases pY.1 hy with hy|hy
  .rcases t2 y hy with h|h
   .by_cases hm:y∈l1
    .exact t1 y hm
    rw[s1 y hm] at h;exact .inl h
   exact .inr h
  exact t1 y hy
 .rw[s2 y (fun h=>hy (by simp[h])),s1 y (fun h=>hy (by simp[h]))]
 have h1:=r y (fun h=>hy (by simp[h])) hu;rw[n y (fun h=>hy (by simp[h])) (by rw[h1];exact hu),h1]
theorem Yy{ρ ρ' HE HE' h0 h1 w w' N}(hr:HR ρ HE w)(hk:∀b o,h0.get b=some o->HE.get b=some o)(i:h0.log=[])(hok:∀b∈h1.log,b<top/\((h0.get b).isSome=true\/(h0.next<=b/\b<h1.next)))(s:Stp ρ h0 w ρ' h1 w')(f:HR ρ' h1 w')(hu:lK ρ h0.next h1.next)(hg:∀b,HE'.get b=if b∈h1.log then h1.get b else HE.get b)(hl:HE'.log=h1.log++HE.log)(q:∀b,h0.next<=b->b<h1.next->N b):Far ρ HE w ρ' HE' w' N/\HR ρ' HE' w':=by
 have⟨l,r,f1,o1,t1,s1,u⟩:=s.log;rw[i,o9] at r;subst r;have known:∀c∈h1.log,∀x k,ρ c=.at_ x k->(HE.get c).isSome=true:=fun c hc x k hx=>by
  rcases(hok c hc).2 with h|⟨h2,e⟩
  .have⟨o,ho⟩:=gQ.1 h;rw[hk c o ho];rfl
  rw[hu c h2 e] at hx;cases hx
 have clear:∀b o x k,HE.get b=some o->b∉h1.log->ρ b=.at_ x k->∀c m,c∈h1.log->ρ c≠.at_ x m:=fun b o x k hb hn hx c m hc j=>by have:=hr.inj b c x k m (by rw[hb];rfl) (known c hc x m j) hx j;subst this;exact hn hc
 have keep:∀b o,HE.get b=some o->b∉h1.log->ρ' b=ρ b:=fun b o hb hn=>by have⟨x,k,o',h2,_⟩:=hr.ob b o hb;exact u b hn (by rw[h2];exact fun h=>by cases h)
 refine⟨⟨s.le,fun b hb hn=>s.born b hb ?_,s.size,h1.log,hl,f1,o1,fun b hb=>?_,fun b hb=>?_,u⟩,f.fD,fun b o hb=>?_,fun b c x k m hb hc hx hy=>?_⟩
 .by_cases h2:h0.next<=b
  .by_cases e:b<h1.next
   .exact absurd (q b h2 e) hn
   exact .inr (by omega)
  exact .inl (by omega)
 .rcases(hok b hb).2 with h|⟨h2,e⟩
  .have⟨o,ho⟩:=gQ.1 h;exact .inl (by rw[hk b o ho];rfl)
  exact .inr (q b h2 e)
 .rw[hg,aU hb]
 .rw[hg] at hb
  split at hb
  .exact f.ob b o hb
  rename_i hn;have⟨x,k,o',h2,e,t⟩:=hr.ob b o hb;exact⟨x,k,o',by rw[keep b o hb hn];exact h2,f1 x o' e fun c m hc=>clear b o x k hb hn h2 c m hc,t.mono s.le⟩
 have mixed:∀b c x k m,b∈h1.log->c∉h1.log->(HE.get c).isSome=true->ρ' b=.at_ x k->ρ' c=.at_ x m->False:=fun b c x k m hb hc hcs hx hy=>by
  have⟨g,a⟩:=gQ.1 hcs;rw[keep c g a hc] at hy;rcases o1 b x k hx with h|⟨hu,h|⟨d,m',hd,hm⟩⟩
  .exact clear c g x m a hc hy b k hb h
  .have:=hr.lt a hy;omega
  exact clear c g x m a hc hy d m' hd hm
 rw[hg] at hb hc;split at hb<;>split at hc
 .exact f.inj b c x k m hb hc hx hy
 .exact(mixed b c x k m ‹_› ‹_› hc hx hy).elim
 .exact(mixed c b x m k ‹_› ‹_› hb hy hx).elim
 rename_i h2 e;have⟨ob,p⟩:=gQ.1 hb;have⟨g,a⟩:=gQ.1 hc;rw[keep b ob p h2] at hx;rw[keep c g a e] at hy;exact hr.inj b c x k m hb hc hx hy
structure Fine(P:aH)(inv:Iv)(ck:Ck)(n:Nat)(ops:Array bn)(h:H)(TT:Nat->T ae)(NX:Nat->Nat)(RS:Nat->List Rec):Prop where
 hI:qK inv
 tr:Trace P inv ck n ops h.t TT NX RS
 draw:O0 ops.toList=true
 apart:∀r∈RS ops.size,∀s∈RS ops.size,r=s\/Apart ops.toList r s
 logs:∀r∈RS ops.size,ady r=true
 nx0:NX 0=h.next
variable{ck:Ck}{n:Nat}{ops:Array bn}{h:H}{TT:Nat->T ae}{NX:Nat->Nat}{RS:Nat->List Rec}
abbrev ZM(ops:Array bn)(i j:Nat):Bool:=uD ops.toList ops.toList.length i j
theorem Fine.lt(a:Fine P inv ck n ops h TT NX RS){i j}(e:ZM ops i j=true):i<j:=pred_lt (fun i o ho=>FW a.draw ho) _ _ _ e
theorem Fine.xO(a:Fine P inv ck n ops h TT NX RS){r}(hr:r∈RS ops.size):r.i<ops.size/\afd ops h.t NX RS r:=(a.tr.all (aA _)).1 r hr
theorem Fine.acA(a:Fine P inv ck n ops h TT NX RS){r}(hr:r∈RS ops.size):∀c∈r.h1.log,c<top:=fun c hc=>(Ic (a.logs r hr) c hc).1
theorem af1{α:Type}{R}{l:List α}(h:l.Pairwise R):∀a∈l,∀b∈l,a=b\/R a b\/R b a:=by
 induction h with
 |nil=>intro a ha;cases ha
 |cons h1 _ ih=>
 intro a ha b hb;rcases dW.1 ha with rfl|d<;>rcases dW.1 hb with rfl|c
 .exact .inl rfl
 .exact .inr (.inl (h1 b c))
 .exact .inr (.inr (h1 a d))
 exact ih a d b c
theorem Fine.same(a:Fine P inv ck n ops h TT NX RS){r s}(hr:r∈RS ops.size)(hs:s∈RS ops.size)(e:r.i=s.i):r=s:=by
 rcases af1 (a.tr.all (aA _)).2 r hr s hs with h|h|h
 .exact h
 .omega
 omega
theorem Fine.both(a:Fine P inv ck n ops h TT NX RS){r s}(hr:r∈RS ops.size)(hs:s∈RS ops.size){b}(h1:touches b r=true)(h2:touches b s=true):r=s\/ZM ops r.i s.i=true\/ZM ops s.i r.i=true:=by
 rcases a.apart r hr s hs with e|e|⟨o,m⟩
 .exact .inl e
 .exact .inr (C9.1 e)
 rw[Cm] at h1 h2;rcases(Ic (a.logs r hr) b h1).2 with k|⟨p,l⟩
 .rw[o b h2] at k;cases k
 rcases(Ic (a.logs s hs) b h2).2 with k|⟨c,g⟩
 .rw[m b h1] at k;cases k
 left;apply a.same hr hs;have⟨q1,⟨_,f,_⟩,d⟩:=a.xO hr;have⟨p1,⟨_,t,_⟩,q⟩:=a.xO hs;rw[f] at p;rw[t] at c;rw[d] at l;rw[q] at g;simp only at p c;rcases Nat.lt_trichotomy r.i s.i with h|h|h
 .have:=a.tr.nO a.hI (j:=r.i+1) h (by omega);omega
 .exact h
 have:=a.tr.nO a.hI (j:=s.i+1) h (by omega);omega
end
section
variable{P:aH}{inv:Iv}{ck:Ck}{n:Nat}{ops:Array bn}{h:H}{TT:Nat->T ae}{NX:Nat->Nat}{RS:Nat->List Rec}
def HE(h:H)(nxF:Nat)(E:List Rec):H:=⟨layAll h.t E,nxF,jQ E++h.log⟩
structure Mid(P:aH)(n:Nat)(ops:Array bn)(h:H)(TT:Nat->T ae)(NX:Nat->Nat)(RS:Nat->List Rec)(ρ0:jV)(w0:ay)(X:Nat->Prop)(E:List Rec)(ρ:jV)(a:Act)(w:ay):Prop where
 closed:∀j,X j->∀o,ops[j]?=some o->∀e∈o.after,Region.binds .any e=true->X e.on
 mem:∀r,r∈E↔(r∈RS ops.size/\X r.i)
 pw:E.Pairwise fun r s=>ZM ops r.i s.i=false
 size:a.tmps.size=n
 tmps:∀d,∃m,m<=ops.size/\(∀j o,ops[j]?=some o->o.dst=some d->(X j↔j<m))/\∀v,(TT m).get d=some v->∃v',a.tmps[d]?=some v'/\VR ρ v v'
 heap:HR ρ (HE h (NX ops.size) E) w
 far:Far ρ0 h w0 ρ (HE h (NX ops.size) E) w fun b=>h.next<=b/\b<NX ops.size
 unb:∀r∈RS ops.size,¬X r.i->lK ρ r.h0.next r.h1.next
theorem Fine.alf(b:Fine P inv ck n ops h TT NX RS){j o}(ho:ops[j]?=some o):∃v,nV (TT j) n o.dst v=some (TT (j+1)):=by have⟨v,e,_⟩:=b.tr.step j o ho;exact⟨v,e⟩
theorem Fine.tt(c:Fine P inv ck n ops h TT NX RS){d p}:∀{q},p<=q->q<=ops.size->(∀j o,p<=j->j<q->ops[j]?=some o->o.dst≠some d)->(TT q).get d=(TT p).get d
|0,h1,_,_=>by obtain rfl:p=0:=by omega
              rfl
|q+1,h1,h2,f=>by
 by_cases e:p=q+1
 .subst e;rfl
 have ho:ops[q]?=some (ops[q]'(by omega)):=gu (by omega);have⟨v,g⟩:=c.alf ho;rw[acM g d (f q _ (by omega) (by omega) ho)];exact c.tt (by omega) (by omega) fun j o a b=>f j o a (by omega)
theorem Fine.SG(c:Fine P inv ck n ops h TT NX RS){d p q}(hp:p<=ops.size)(g:q<=ops.size)(f:∀j o,ops[j]?=some o->o.dst=some d->(j<p↔j<q)):(TT q).get d=(TT p).get d:=by
 rcases Nat.le_total p q with e|e
 .exact c.tt e g fun j o a b ho hd=>by have:=(f j o ho hd).2 b;omega
 exact(c.tt e hp fun j o a b ho hd=>by have:=(f j o ho hd).1 b;omega).symm
theorem Fine.OE(d:Fine P inv ck n ops h TT NX RS){E}(e:∀r∈E,r∈RS ops.size)(c b):(HE h c E).get b=match E.find? (touches b) with|some r=>r.h1.get b|none=>h.get b:=wV _ _ _ fun r hr=>d.acA (e r hr)
variable{ρ0 ρ:jV}{w0 w:ay}{X:Nat->Prop}{E:List Rec}{a:Act}
theorem Mid.pred(b:Mid P n ops h TT NX RS ρ0 w0 X E ρ a w){i j}(c:X i)(e:ZM ops j i=true):X j:=Hy b.closed _ _ _ (b.closed i c) e
theorem Mid.reads(l:Fine P inv ck n ops h TT NX RS)(k:Mid P n ops h TT NX RS ρ0 w0 X E ρ a w){i o}(ho:ops[i]?=some o)(s:¬X i)(hd:∀e∈o.after,Region.binds .any e=true->X e.on):TR ρ n (only (TT i) (lu ops.toList o)) a.tmps:=by
 refine⟨k.size,fun d v p=>?_⟩;have⟨q,p⟩:=NU p;have⟨m,x,u,t⟩:=k.tmps d;have hi:=(aP.1 ho).1;have r:∀{j},ZM ops j i=true->X j:=fun e=>Hy k.closed _ _ _ (fun o' c=>by rw[ho] at c;cases c;exact hd) e;refine t v ?_;rw[<-p];refine l.SG (by omega) x fun j oj hj g=>?_;rw[<-u j oj hj g];by_cases f:j=i
 .subst f;exact⟨fun h=>absurd h (by omega),fun h=>absurd h s⟩
 have b:=C9.1 (OZ l.draw hj g f ho (.inr q));rcases b with e|e
 .exact⟨fun _=>r e,fun _=>l.lt e⟩
 exact⟨fun y=>by have:=l.lt e;omega,fun hx=>absurd (k.pred hx e) s⟩
theorem Mid.known(d:Fine P inv ck n ops h TT NX RS)(g:Mid P n ops h TT NX RS ρ0 w0 X E ρ a w){r}(hr:r∈RS ops.size)(v:¬X r.i){o}(ho:ops[r.i]?=some o)(hd:∀e∈o.after,Region.binds .any e=true->X e.on)(b)(ob)(hb:r.h0.get b=some ob):(HE h (NX ops.size) E).get b=some ob:=by
 have q:∀{j},ZM ops j r.i=true->X j:=fun e=>Hy g.closed _ _ _ (fun o' f=>by rw[ho] at f;cases f;exact hd) e;have⟨x,⟨m,p,k⟩,_⟩:=d.xO hr;have c:∀s,s∈RS r.i↔(s∈RS ops.size/\s.i<r.i):=d.tr.sub (by omega) (aA _);rw[d.OE fun s hs=>((g.mem s).1 hs).1];have u:=k b ob (by rw[p] at hb;exact hb);rw[<-u];rw[RV,wV _ _ _ fun s hs=>d.acA ((c s).1 (kK.1 hs).1).1];rw[<-JA ?_ g.pw ?_ ?_]
 .rfl
 .refine List.Pairwise.filter _ ((d.tr.all (by omega)).2.imp fun{s t} hst=>?_);cases e:ZM ops s.i t.i
  .rfl
  have:=d.lt e;omega
 .intro s l;rw[kK,c,g.mem];constructor
  .rintro⟨⟨h1,_⟩,h2⟩;exact⟨h1,q h2⟩
  rintro⟨h1,h2⟩;rcases d.apart r hr s h1 with e|e|⟨e,_⟩
  .subst e;exact absurd h2 v
  .rcases C9.1 e with e|e
   .exact absurd (g.pred h2 e) v
   exact⟨⟨h1,d.lt e⟩,e⟩
  rw[e b (Cm.1 l)] at hb;cases hb
 intro s t hs ht h1 h2;exact d.both ((c s).1 (kK.1 hs).1).1 ((c t).1 (kK.1 ht).1).1 h1 h2
theorem Mid.build(I:Fine P inv ck n ops h TT NX RS)(q:Mid P n ops h TT NX RS ρ0 w0 X E ρ a w){i o}(ho:ops[i]?=some o)(O:¬X i)(hd:∀e∈o.after,Region.binds .any e=true->X e.on){ρ' A v v' w'}(k:nV (TT i) n o.dst v=some (TT (i+1)))(Q:Le ρ ρ')(N:VR ρ' v v')(y:∀r,r∈A↔(r∈RS ops.size/\(X r.i\/r.i=i)))(D:A.Pairwise (fun r s=>ZM ops r.i s.i=false))(p:HR ρ' (HE h (NX ops.size) A) w')(z:Far ρ0 h w0 ρ' (HE h (NX ops.size) A) w' (fun b=>h.next<=b/\b<NX ops.size))(t:∀r∈RS ops.size,¬X r.i->r.i≠i->lK ρ' r.h0.next r.h1.next):Mid P n ops h TT NX RS ρ0 w0 (fun j=>X j\/j=i) A ρ' (a.put o.dst v') w':=by
 have hi:=(aP.1 ho).1;have F:∀{j},ZM ops j i=true->X j:=fun e=>Hy q.closed _ _ _ (fun o' c=>by rw[ho] at c;cases c;exact hd) e;refine⟨fun j hj o' c e he hb=>?_,y,D,?_,fun d=>?_,p,z,fun r hr hx=>t r hr (fun h=>hx (.inl h)) (fun h=>hx (.inr h))⟩
 .rcases hj with hj|rfl
  .exact .inl (q.closed j hj o' c e he hb)
  rw[ho] at c;cases c;exact .inl (hd e he hb)
 .have:=q.size;cases o.dst<;>simp[Act.put,this]
 have⟨m,M,L,K⟩:=q.tmps d;by_cases f:o.dst=some d
 .refine⟨i+1,by omega,fun j oj hj g=>?_,fun u hu=>?_⟩
  .by_cases l:j=i
   .subst l;exact⟨fun _=>by omega,fun _=>.inr rfl⟩
   have x:=C9.1 (OZ I.draw hj g l ho (.inl f));rcases x with e|e
   .exact⟨fun _=>by have:=I.lt e;omega,fun _=>.inl (F e)⟩
   refine⟨fun h=>?_,fun h=>by have:=I.lt e;omega⟩;rcases h with h|h
   .exact absurd (q.pred h e) O
   exact absurd h l
  rw[f] at k;have⟨B,C⟩:=aa2 k;rw[B] at hu;cases hu;refine⟨v',?_,N⟩;rw[f];simp[Act.put,q.size,C]
 refine⟨m,M,fun j oj hj g=>?_,fun u hu=>?_⟩
 .rw[<-L j oj hj g];refine⟨fun h=>h.resolve_right fun h=>?_,.inl⟩;subst h;rw[ho] at hj;cases hj;exact f g
 have⟨J,B,C⟩:=K u hu;refine⟨J,?_,C.mono Q⟩;cases G:o.dst with
 |none=>exact B
 |some d'=>
 simp[Act.put];rw[jf (fun e=>f (by rw[G,e]))];exact B
theorem Mid.quiet(d:Fine P inv ck n ops h TT NX RS)(b:Mid P n ops h TT NX RS ρ0 w0 X E ρ a w){i o}(ho:ops[i]?=some o)(g:¬X i)(hd:∀e∈o.after,Region.binds .any e=true->X e.on){v v'}(c:nV (TT i) n o.dst v=some (TT (i+1)))(he:RS (i+1)=RS i)(f:VR ρ v v'):Mid P n ops h TT NX RS ρ0 w0 (fun j=>X j\/j=i) E ρ (a.put o.dst v') w:=by have hi:=(aP.1 ho).1;refine b.build d ho g hd c (.refl ρ) f (fun r=>?_) b.pw b.heap b.far fun r hr hx _=>b.unb r hr hx;rw[b.mem];refine⟨fun h=>⟨h.1,.inl h.2⟩,fun h=>⟨h.1,h.2.resolve_right fun e=>?_⟩⟩;have h1:=(d.tr.sub (j:=i+1) (by omega) (aA _) r).2 ⟨h.1,by omega⟩;rw[he] at h1;have:=((d.tr.all (by omega)).1 r h1).1;omega
theorem Mid.loud(g:Fine P inv ck n ops h TT NX RS)(q:Mid P n ops h TT NX RS ρ0 w0 X E ρ a w){i o}(ho:ops[i]?=some o)(F:¬X i)(hd:∀e∈o.after,Region.binds .any e=true->X e.on){v}(B:nV (TT i) n o.dst v=some (TT (i+1))){h1 m}(he:RS (i+1)=⟨i,⟨m,NX i,[]⟩,h1⟩::RS i):HR ρ ⟨m,NX i,[]⟩ w/\lK ρ (NX i) h1.next/\∃E',∀{ρ' v' w'},Stp ρ ⟨m,NX i,[]⟩ w ρ' h1 w'->HR ρ' h1 w'->VR ρ' v v'->Mid P n ops h TT NX RS ρ0 w0 (fun j=>X j\/j=i) E' ρ' (a.put o.dst v') w':=by
 have hi:=(aP.1 ho).1;have f:(⟨i,⟨m,NX i,[]⟩,h1⟩:Rec)∈RS ops.size:=((g.tr.sub (j:=i+1) (by omega) (aA _) _).1 (by rw[he];simp)).1;generalize u:(⟨i,⟨m,NX i,[]⟩,h1⟩:Rec)=r at f;have p:r.i=i:=by rw[<-u]
 have z:r.h0=⟨m,NX i,[]⟩:=by rw[<-u]
 have K:r.h1=h1:=by rw[<-u]
 have hk:=q.known g f (by rw[p];exact F) (by rw[p];exact ho) hd;have A:=q.unb r f (by rw[p];exact F);have R:HR ρ r.h0 w:=⟨q.heap.fD,fun c D hc=>q.heap.ob c D (hk c D hc),fun c d x k l hc Q hx hy=>by obtain⟨D,M⟩:=gQ.1 hc;obtain⟨Y,L⟩:=gQ.1 Q;exact q.heap.inj c d x k l (by rw[hk c D M];rfl) (by rw[hk d Y L];rfl) hx hy⟩
 rw[<-z,<-K];have t:r.h0.next=NX i:=by rw[z]
 rw[<-t];refine⟨R,A,r::E,fun{ρ' v' w'} s2 s3 s4=>?_⟩;obtain⟨_,⟨_,q2,_⟩,U⟩:=g.xO f;have C:r.h1.next=NX (i+1):=by rw[U,p]
 have O:=g.tr.nO g.hI (j:=0) (k:=i) (by omega) (by omega);have hhi:=g.tr.nO g.hI (j:=i+1) (k:=ops.size) (by omega) (by omega);rw[g.nx0] at O;obtain⟨f1,f2⟩:=Yy (HE':=HE h _ (r::E)) (N:=fun b=>h.next<=b/\b<NX ops.size) q.heap hk (by rw[z]) (Ic (g.logs r f)) s2 s3 A
  (fun b=>by exact TS _ _ _ _ (g.acA f)) (by simp[HE,jQ]) (fun b h1 h2=>⟨by omega,by omega⟩)
 refine q.build g ho F hd B s2.le s4 (fun s=>?_) (UU.2 ⟨fun s hs=>?_,q.pw⟩) f2 (q.far.trans f1) fun s hs hx hne=>?_
 .rw[dW,q.mem]
  constructor
  .rintro(rfl|⟨I,G⟩)
   .exact⟨f,.inr p⟩
   exact⟨I,.inl G⟩
  rintro⟨I,G|G⟩
  .exact .inr ⟨I,G⟩
  exact .inl (g.same I f (by omega))
 .cases e:ZM ops r.i s.i
  .rfl
  have:=q.pred ((q.mem s).1 hs).2 e
  rw[p] at this;exact absurd this F
 have hus:=q.unb s hs hx;obtain⟨p1,⟨_,W,_⟩,V⟩:=g.xO hs;refine fun y J S=>s2.born y (hus y J S) ?_;rw[t,C];rw[W] at J;rw[V] at S;simp only at J;rcases Nat.lt_or_gt_of_ne hne with Z|hgt
 .have:=g.tr.nO g.hI (j:=s.i+1) (k:=i) (by omega) (by omega);exact .inl (by omega)
 have:=g.tr.nO g.hI (j:=i+1) (k:=s.i) (by omega) (by omega);exact .inr (by omega)
theorem Mid.go(hI:kS P inv)(l:Fine P inv ck n ops h TT NX RS)(p:Mid P n ops h TT NX RS ρ0 w0 X E ρ a w){i o}(ho:ops[i]?=some o)(m:¬X i)(hd:∀e∈o.after,Region.binds .any e=true->X e.on){b:aC}{k cs}(rest):∃ρ' s v' w',Steps P (lone (b.atR a (.inRegion ops (i::rest)::k)) cs w) (lone (b.atR (a.put o.dst v') (.inRegion ops rest::k)) cs w')/\Mid P n ops h TT NX RS ρ0 w0 (fun j=>X j\/j=i) s ρ' (a.put o.dst v') w':=by
 have g:=p.reads l ho m hd;obtain⟨v,d,hs⟩:=l.tr.step i o ho;rcases hs with⟨hw,_,rfl,_,he⟩|⟨hw,_,_,hp,_,he⟩|⟨hw,_,h1,x,e2,he⟩
 .
  have c:=gJ g hw;have hst:=stepR_op_skip (P:=P) (b:=b) (k:=k) (cs:=cs) (w:=w) (rest:=rest) (by rw[ho];simpa using c);rw[ho] at hst;exact⟨ρ,E,undef,w,.one hst,p.quiet l ho m hd d he lM⟩
 .
  have c:=gJ g hw;obtain⟨v',u,t⟩:=pure_ok (fA g) hp w;exact⟨ρ,E,v',w,.one (mO ho c (jo hp) u (.inl rfl)),p.quiet l ho m hd d he t⟩
 
 have c:=gJ g hw;obtain⟨r,q,s,f⟩:=p.loud l ho m hd d he;obtain⟨ρ',v',w',s1,s2,s3,s4⟩:=X6 hI x ho c g r q rest;exact⟨ρ',s,v',w',s1,f s2 s3 s4⟩
def yh(ops:Array bn)(listed:Array Bool):List Nat:=(List.range ops.size).filter fun j=>!listed.getD j true
theorem Ie{listed j}:j∈yh ops listed↔j<ops.size/\listed.getD j true=false:=by simp[yh]
theorem getD_both{listed:Array Bool}{j}(hj:j<listed.size):listed.getD j true=listed.getD j false:=by simp[Array.getD,hj]
theorem Rh{listed i}(hs:listed.size=ops.size)(hi:i∈yh ops listed):(yh ops (listed.setIfInBounds i true)).length<(yh ops listed).length:=by
 have e:yh ops (listed.setIfInBounds i true)=(yh ops listed).filter fun j=>j !=i:=by
  unfold yh;rw[List.filter_filter];apply UT;intro j hj;have b:j<listed.size:=by rw[hs];simpa using hj
  by_cases a:j=i
  .subst a;simp[Array.getD,b]
  rw[getD_set_ne true (uJ a)];simp[a]
 rw[e];refine List.length_filter_lt_length_iff_exists.2 ⟨i,hi,by simp⟩
theorem aiI(hI:kS P inv)(z:Fine P inv ck n ops h TT NX RS){ρ0 w0}{b:aC}{k cs ds}:∀(fuel t) (listed) {E ρ a w},listed.size=ops.size->(yh ops listed).length<=fuel->a.defers=ds->Mid P n ops h TT NX RS ρ0 w0 (fun j=>listed.getD j false=true) E ρ a w->∃X r ρ' a' w',Steps P (lone (b.atR a (.inRegion ops (Region.linearise.go .any ops fuel t listed [])::k)) cs w) (lone (b.atR a' (.inRegion ops []::k)) cs w')/\a'.defers=ds/\(∀j,j<ops.size->X j)/\Mid P n ops h TT NX RS ρ0 w0 X r ρ' a' w':=by
 intro fuel;induction fuel with
 |zero=>
  intro t listed E ρ a w hs hl d q;have c:yh ops listed=[]:=aaC (by omega);refine⟨_,E,ρ,a,w,by simpa[Region.linearise.go] using Steps.refl P _,d,fun j hj=>?_,q⟩;cases e:listed.getD j true
  .have:j∈yh ops listed:=Ie.2 ⟨hj,e⟩
   rw[c] at this;cases this
  rw[<-getD_both (by omega)];exact e
 |succ fuel I=>
  intro t listed E ρ a w hs hl d q;simp only[Region.linearise.go];change ∃X r ρ' a' w',Steps P (lone (b.atR a (.inRegion ops (match(Region.ready .any ops listed)[t % (Region.ready .any ops listed).length]? with
   |some i=>Region.linearise.go .any ops fuel _ _ [i]
   |none=>[].reverse)::k)) cs w) _/\_
  cases hi:(Region.ready .any ops listed)[t % (Region.ready .any ops listed).length]? with
  |none=>
   have c:Region.ready .any ops listed=[]:=by
    cases hr:Region.ready .any ops listed with
    |nil=>rfl
    |cons x xs=>
    rw[hr] at hi;have f:t % (x::xs).length<(x::xs).length:=U1 _ (by simp);simp at hi;simp at f;omega
   have p:∀m j,j<m->j<ops.size->listed.getD j true=true:=by
    intro m;induction m with
    |zero=>intro j h1;omega
    |succ m ihm=>
    intro j h1 h2;by_cases s:j<m
    .exact ihm j s h2
    obtain rfl:j=m:=by omega
    cases e:listed.getD j true
    .exfalso
     have:j∈Region.ready .any ops listed:=mem_ready.2 ⟨e,_,gu h2,fun K u hb=>by have g:=FW z.draw (gu h2) K u hb;rw[<-getD_both (by omega)];exact ihm _ g (by omega)⟩
     rw[c] at this;cases this
    rfl
   refine⟨_,E,ρ,a,w,by simpa using Steps.refl P _,d,fun j hj=>?_,q⟩;rw[<-getD_both (by omega)];exact p _ j (by omega) hj
  |some i=>
   simp only[];rw[J5,UR,List.singleton_append];obtain⟨y,o,v,B⟩:=mem_ready.1 (uy hi);have l:=(aP.1 v).1;obtain⟨A,E1,v1,w1,s1,s2⟩:=q.go hI z v (by rw[<-getD_both (by omega),y];simp) B (b:=b) (k:=k) (cs:=cs) _;have J:(fun j=>listed.getD j false=true\/j=i)=fun j=>(listed.setIfInBounds i true).getD j false=true:=by
    funext j;by_cases e:j=i
    .subst e;simp[Array.getD,hs,l]
    rw[getD_set_ne false (uJ e)];simp[e]
   rw[J] at s2;have f:=Rh hs (Ie.2 ⟨l,y⟩);obtain⟨X,r,ρ',a',w',G,F,D,C⟩:=I (t / (Region.ready .any ops listed).length) (listed.setIfInBounds i true) (by simpa using hs) (by omega) (by rw[put_defers];exact d) s2;exact⟨X,r,ρ',a',w',s1.trans G,F,D,C⟩
theorem YP{ops}(h:Iy ops.toList=false):Region.departs ops=false:=by unfold Region.departs;rw[Array.any_eq_false'];intro o ho;have h1:=UQ.1 h o (by simpa using ho);simp only[Gt] at h1⊢;rw[Array.any_eq_false'];intro e he;exact UQ.1 h1 e (by simpa using he)
theorem GZ{P:aH}{ops}(h:(match P.follows .mixedOrders with|true=>true|false=>!Iy ops.toList)=true)(t):Region.schedule (P.follows .mixedOrders) ops t=Region.linearise .any ops t:=by
 unfold Region.schedule;split at h
 .rename_i e;rw[e];simp
 rw[YP (by simpa using h)];simp
theorem wS{b:Nat}:∀{a:List Rec},b∈jQ a ↔ ∃r∈a,b∈r.h1.log
|[]=>by simp[jQ]
|r::a=>by rw[jQ,pY,wS];simp
theorem ng(hI:kS P inv):iR P inv:=fun ck n ops t t' h h' e=>by
 unfold FV at e;split at e
 .rename_i z F
  split at e
  .rename_i t1 nx rs B
   split at e
   .rename_i J C;cases e;have⟨TT,NX,RS,a1,L,a3,O,N,M,a7⟩:=Jb B;have I:0+ops.toList.length=ops.size:=by simp
    rw[I] at O N M;subst O N M;have f:Fine P inv ck n ops h TT NX RS:={
     hI:=hI.next
     tr:=⟨fun j o ho=>by simpa using a7 j o (by simpa using ho),a3⟩
     draw:=z
     apart:=fun r hr s hs=>DC J r hr s hs
     logs:=fun r hr=>bZ.1 C r hr
     nx0:=L};have y:=f.tr.nO f.hI (j:=0) (k:=ops.size) (by omega) (by omega);rw[L] at y;refine⟨y,fun{ρ b a k cs w} x hk ht hr hu=>?_⟩;rw[GZ F];unfold Region.linearise;have A:∀j,(Array.replicate ops.size false).getD j false=false:=fun j=>by
     simp only[Array.getD];split<;>simp
    have K:Mid P n ops h TT NX RS ρ w (fun j=>(Array.replicate ops.size false).getD j false=true) [] ρ a w:={
     closed:=fun j hj=>by rw[A] at hj;cases hj
     mem:=fun r=>by simp[A]
     pw:=.nil
     size:=ht.size
     tmps:=fun d=>⟨0,by omega,fun j o _ _=>by simp[A],fun v G=>ht.get d v (by rw[<-a1];exact G)⟩
     heap:=⟨hr.fD,hr.ob,hr.inj⟩
     far:=⟨.refl ρ,fun _ h _=>h,aA _,[],rfl,fun x o hx _=>hx,fun _ _ _ h=>.inl h,fun _ h=>by simp at h,fun _ _=>rfl,fun _ _ _=>rfl⟩
     unb:=fun r hr _=>by have⟨q1,⟨_,R,_⟩,Q⟩:=f.xO hr;have h1:=f.tr.nO f.hI (j:=0) (k:=r.i) (by omega) (by omega);have h2:=f.tr.nO f.hI (j:=r.i+1) (k:=ops.size) (by omega) (by omega);rw[L] at h1;exact hu.sub (by rw[R];exact h1) (by rw[Q];exact h2)}
    have⟨X,E,ρ',a',w',s1,s2,s3,s4⟩:=aiI hI f (b:=b) (k:=k) (cs:=cs) (ds:=a.defers) ops.size x _ (by simp) (by refine bM (UO _ _) (by simp)) rfl K
    have g:∀r,r∈E↔r∈RS ops.size:=fun r=>by rw[s4.mem];exact⟨fun h=>h.1,fun h=>⟨h,s3 _ (f.xO h).1⟩⟩
    have q:∀c,(⟨layAll h.t _,NX ops.size,jQ (RS ops.size)++h.log⟩:H).get c=(HE h (NX ops.size) E).get c:=fun c=>by
     rw[f.OE fun r hr=>(g r).1 hr];show(layAll h.t (RS ops.size)).get c=_;rw[wV _ _ _ fun r hr=>f.acA hr];rw[JA (pr:=ZM ops) (p:=touches c) (l:=RS ops.size) (m:=E) ((f.tr.all (aA _)).2.imp fun{r s} Y=>by
      cases e:ZM ops r.i s.i
      .rfl
      have:=f.lt e;omega) s4.pw (fun r _=>(g r).symm) (fun r s hr hs h1 h2=>f.both hr hs h1 h2)]
     rfl
    have u:∀c,c∈jQ (RS ops.size)↔c∈jQ E:=fun c=>by rw[wS,wS];exact⟨fun⟨r,h1,h2⟩=>⟨r,(g r).2 h1,h2⟩,fun⟨r,h1,h2⟩=>⟨r,(g r).1 h1,h2⟩⟩
    refine⟨ρ',a',w',s1.trans (.one PV),s2,?_,⟨s4.heap.fD,fun c S hc=>s4.heap.ob c S (by rw[<-q];exact hc),fun c d x k l hc hd=>s4.heap.inj c d x k l (by rw[<-q];exact hc) (by rw[<-q];exact hd)⟩,s4.size,fun d v G=>?_⟩
    .have⟨l,e1,f1,o1,t1,g1,k1⟩:=s4.far.log;have hl:l=jQ E:=Sl (show l++h.log=jQ E++h.log from e1.symm);subst hl;refine⟨s4.far.le,y,fun b hb hx=>s4.far.born b hb fun hn=>?_,s4.far.size,jQ _,rfl,fun x o hx hn=>f1 x o hx fun c m hc=>hn c m ((u c).2 hc),fun c x m hc=>?_,fun c hc=>t1 c ((u c).1 hc),fun c hc=>?_,fun c hc=>k1 c fun h=>hc ((u c).2 h)⟩
     .simp only at hx;omega
     .rcases o1 c x m hc with h|⟨h1,h|⟨d,m',h2,Z⟩⟩
      .exact .inl h
      .exact .inr ⟨h1,.inl h⟩
      exact .inr ⟨h1,.inr ⟨d,m',(u d).2 h2,Z⟩⟩
     rw[q];exact g1 c fun h=>hc ((u c).2 h)
    have⟨m,W,V,U⟩:=s4.tmps d;refine U v ?_;rw[<-G];exact f.SG (aA _) W fun j o hj hd=>by have D:=(aP.1 hj).1;rw[<-V j o hj hd];exact⟨fun _=>s3 j D,fun _=>D⟩
   cases e
  cases e
 cases e
end
end Go.Ev
section
namespace Go
namespace Ev
variable{P:aH}{hk:aI->List ae->H->aB (aB (ae×H))}
theorem reckon(a:fE P hk){d f args h h' v}(e:zV P hk d (.func f) args h=some (v,h')):dF P f args h v h':=abL a (fun inv hI=>ng hI) e
def qp:aI->List ae->H->aB (aB (ae×H)):=fun _ _ _=>none
theorem ji:fE P qp:=fun _ _ _ _ _ h=>by cases h
def H.empty:H:=⟨.nil,0,[]⟩
theorem aeu(w)(hw:dU w):HR (fun _=>.dC) H.empty w:=⟨hw,fun b o h=>(by cases h),fun b c x k l h=>(by cases h)⟩
theorem reckoned(a:fE P hk){d f args h' v}(e:zV P hk d (.func f) args H.empty=some (v,h'))(ha:kY args=true)(w)(hw:dU w):Calls P f ⟨args⟩ w fun e w'=>∃v' ρ',e=.returned v'/\Stp (fun _=>.dC) H.empty w ρ' h' w'/\HR ρ' h' w'/\VR ρ' v v':=(reckon a e).calls (xg ha) (aeu w hw) fun _ _ _=>rfl
end Ev
end Go
#print axioms Go.Ev.reckoned
end
namespace Go.Ev
section
variable{P:aH}
mutual
def knows(h:H):ae->Bool
 |.pointer (some a)=>(h.get a.block).isSome
 |.slice (some a) _ _=>(h.get a.block).isSome
 |.map (some r)=>(h.get r).isSome
 |.func (.yield l) _ _=>(h.get l).isSome
 |.chan (some r)=>(h.get r).isSome
 |.func _ ⟨a⟩ ⟨b⟩=>yL h a&&yL h b
 |.agg ⟨cs⟩|.tuple ⟨cs⟩=>yL h cs
 |_=>true
def yL(h:H):List ae->Bool
 |[]=>true
 |v::l=>knows h v&&yL h l
end
def part(ρ:jV)(h:H):jV:=fun b=>if (h.get b).isSome then ρ b else .dC
theorem jP{ρ h b}(e:(h.get b).isSome=true):part ρ h b=ρ b:=by simp[part,e]
theorem BR.part{ρ:jV}{h:H}{b b':Nat}(hb:BR ρ b b')(e:(h.get b).isSome=true):BR (part ρ h) b b':=by unfold BR at *;rw[jP e];exact hb
mutual
theorem VR.part{ρ:jV}{h:H}:∀{v v':ae},VR ρ v v'->knows h v=true->VR (part ρ h) v v'
 |_,_,.same ha,_=>.same ha
 |_,_,.ptr ha,e=>.ptr ⟨ha.block.part (by simpa[knows] using e),ha.off,ha.spot,ha.spot'⟩
 |_,_,.slice (a:=a) ha hc,e=>.slice ⟨ha.block.part (by simpa[knows] using e),ha.off,ha.spot,ha.spot'⟩ (by
   have e':(h.get a.block).isSome=true:=by simpa[knows] using e
   rcases hc with hc|⟨h1,h2,h3⟩
   .exact .inl hc
   exact .inr ⟨h1,h2,fun x k hx=>h3 x k ((jP e').symm.trans hx)⟩)
 |_,_,.map hb,e=>.map (hb.part (by simpa[knows] using e))
 |_,_,.func ha hb,e=>by simp only[knows,aT] at e;exact .func (iL.part ha e.1) (iL.part hb e.2)
 |_,_,.yield hb,e=>.yield (hb.part (by simpa[knows] using e))
 |_,_,.chan hb,e=>.chan (hb.part (by simpa[knows] using e))
 |_,_,.agg hs,e=>.agg (iL.part hs (by simpa[knows] using e))
 |_,_,.tuple hs,e=>.tuple (iL.part hs (by simpa[knows] using e))
theorem iL.part{ρ:jV}{h:H}:∀{l l':List ae},iL ρ l l'->yL h l=true->iL (part ρ h) l l'
 |_,_,.nil,_=>.nil
 |_,_,.cons hv hs,e=>by simp only[yL,aT] at e;exact .cons (hv.part e.1) (iL.part hs e.2)
end
def ofList:List (Nat×Ob)->T Ob
|[]=>.nil
|(b,o)::l=>T.put T.deep (ofList l) b (some o)
def Yk(h:H):Ob->Bool
|.cells c _ _=>yL h c
|.shut c _=>yL h c
|.map _ _=>true
|_=>false
theorem OR.part{ρ:jV}{h:H}{k:Nat}{o:Ob}{o':Obj}(ho:OR ρ k o o')(e:Yk h o=true):OR (part ρ h) k o o':=by
 cases o with
 |cells c el s=>have⟨d,r,h1,h2,a⟩:=ho;exact⟨d,r,h1,h2.part e,a⟩
 |map es c=>exact ho
 |iter _ _ _ _=>cases e
 |loop _ _ _ _ _ _ _ _ _=>cases e
 |calls _=>cases e
 |bag _ _=>cases e
 |qO _ _ _=>cases e
 |half _ _ _ _=>cases e
 |shut c el=>have⟨d,r,b,h1,h2⟩:=ho;exact⟨d,r,b,h1,h2.part e⟩
def Quiet(P:aH)(f:aI)(args:List ae)(kn:List (Nat×Ob))(v:ae):Prop:=
 (∃fn c,P.funcs[f]?=some fn/\fn.body=some c/\(fn.name == "runtime.NumGoroutine")=false)/\flat v=true/\
 ∀ρ args' w,iL ρ args args'->HR ρ ⟨ofList kn,0,[]⟩ w->Calls P f ⟨args'⟩ w fun e w'=>e=.returned v/\dU w'/\∀(x:Nat) (o:Obj),w.heap[x]?=some o->w'.heap[x]?=some o
def start(kn:List (Nat×Ob))(nx:Nat):H:=⟨ofList kn,nx,[]⟩
def Uc(h:H):Nat->Bool
|0=>true
|n+1=>match h.get (h.next+n) with
 |none=>Uc h n
 |some _=>false
theorem Rq{h:H}:∀{n:Nat},Uc h n=true->∀b,h.next<=b->b<h.next+n->h.get b=none
|0,e,b,h1,h2=>absurd h2 (by omega)
|n+1,e,b,h1,h2=>by
 simp only[Uc] at e;split at e
 .rename_i hn;by_cases hb:b=h.next+n
  .rw[hb];exact hn
  exact Rq e b h1 (by omega)
 cases e
def Jf(P:aH)(hk:aI->List ae->H->aB (aB (ae×H)))(d:Nat)(f:aI)(args:List ae)(kn:List (Nat×Ob))(nx:Nat):aB ae:=
 match zV P hk d (.func f) args (start kn nx) with
 |some (v,h')=>match flat v,yL (start kn nx) args,kn.all fun p=>Yk (start kn nx) p.2,h'.log.all fun b=>Nat.ble nx b,Uc (start kn nx) (h'.next-nx) with
  |true,true,true,true,true=>match kn.all fun p=>Nat.blt p.1 top&&Nat.blt p.1 nx with
   |true=>some v
   |false=>none
  |_,_,_,_,_=>none
 |none=>none
theorem gY{kn}(ht:∀p∈kn,p.1<top){b o}(h:(ofList kn).get b=some o):(b,o)∈kn:=by
 induction kn with
 |nil=>cases h
 |cons p kn d=>
 have⟨c,a⟩:=p;rw[ofList,T.get_put _ _ _ _ _ (df (ht (c,a) (by simp)))] at h;split at h
 .rename_i e;cases h;subst e;simp
 exact jy _ (d (fun p hp=>ht p (by simp[hp])) h)
theorem VN{hk:aI->List ae->H->aB (aB (ae×H))}(D:fE P hk){d f args kn nx v}(e:Jf P hk d f args kn nx=some v):Quiet P f args kn v:=by
 unfold Jf at e;split at e
 .rename_i u h' E
  split at e
  .rename_i t J I G F
   split at e
   .rename_i s;cases e;have r:=reckon D E;have ht:∀p∈kn,p.1<top:=fun p hp=>by have:=bZ.1 s p hp;simp[aT,ik] at this;exact this.1
    have⟨q,fn,c,A,z,y,_⟩:=id r;have q:=q;refine⟨⟨fn,c,A,z,y⟩,t,fun ρ n w ha hr=>?_⟩;have h:=ha.part J;have m:HR _ (start kn nx) w:=⟨hr.fD,fun b o hb=>by
     have⟨x,k,o',B,L,K⟩:=hr.ob b o hb;have hs:((start kn nx).get b).isSome=true:=by rw[hb];rfl
     exact⟨x,k,o',by rw[jP hs];exact B,L,K.part (bZ.1 I _ (gY ht hb))⟩,fun b c x k l hb hc hx hy=>by
     rw[jP hb] at hx;rw[jP hc] at hy;exact hr.inj b c x k l hb hc hx hy⟩
    have g:lK (part ρ (start kn nx)) (start kn nx).next h'.next:=fun b h1 h2=>by have h1:=h1;have:=Rq F b h1 (by show b<nx+(h'.next-nx);omega);simp[part,this]
    refine(r.calls h m g).mono ?_;rintro e w' ⟨v',ρ',rfl,s1,s2,s3⟩;refine⟨by rw[s3.flat t],s2.fD,fun x o hx=>?_⟩;have⟨l,l1,l2,_⟩:=s1.log;have l1:h'.log=l:=by rw[l1];exact o9 l
    refine l2 x o hx fun b k hb j=>?_;have C:=iF (bZ.1 G b (by rw[l1];exact hb));have a:(start kn nx).get b=none\/((start kn nx).get b).isSome=true:=by cases (start kn nx).get b<;>simp
    rcases a with hn|hn
    .simp[part,hn] at j
    have⟨ob,i⟩:=gQ.1 hn;have:=bZ.1 s _ (gY ht i);simp[aT,ik] at this;omega
   cases e
  cases e
 cases e
def Ob.Le(o p:Ob):Prop:=o=p \/ ∃c e s,o=.cells c e s/\p=.shut c e
theorem Ob.Le.or{o p}(h:o.Le p){ρ k x}(hx:OR ρ k o x):OR ρ k p x:=by
 rcases h with rfl|⟨c,e,s,rfl,rfl⟩
 .exact hx
 have⟨d,r,h1,h2,_⟩:=hx;exact⟨d,r,_,h1,h2⟩
theorem Quiet.does{f args kn v}(y:Quiet P f args kn v)(ht:∀p∈kn,p.1<top){h}(hk:∀p∈kn,∃o,h.get p.1=some o/\o.Le p.2):dF P f args h v h:=by
 have⟨⟨fn,c,u,t,s⟩,hf,hc⟩:=y;refine dF.NY (aA _) u t s fun{ρ g w} ha hr hu=>?_;have j:HR ρ ⟨ofList kn,0,[]⟩ w:=⟨hr.fD,fun b o hb=>by
  have⟨o1,h1,h2⟩:=hk (b,o) (gY ht hb);have⟨x,k,o',i,A,z⟩:=hr.ob b o1 h1;exact⟨x,k,o',i,A,h2.or z⟩,fun b c x k l hb r hx hy=>by
  have⟨ob,n⟩:=gQ.1 hb;have⟨oc,m⟩:=gQ.1 r;have⟨o1,h1,_⟩:=hk _ (gY ht n);have⟨o2,h2,_⟩:=hk _ (gY ht m);exact hr.inj b c x k l (by rw[h1];rfl) (by rw[h2];rfl) hx hy⟩
 refine(hc ρ g w ha j).mono ?_;rintro e w' ⟨rfl,d,a⟩;refine⟨v,ρ,rfl,⟨.refl ρ,aA _,fun _ hb _=>hb,?_,[],rfl,fun x o hx _=>a x o hx,fun _ _ _ hb=>.inl hb,fun _ hb=>by simp at hb,fun _ _=>rfl,fun _ _ _=>rfl⟩,⟨d,fun b o hb=>?_,hr.inj⟩,dX hf⟩
 .rcases uu w.heap.size with h0|h0
  .omega
  have q:w.heap.size-1<w.heap.size:=by omega
  have:=a _ _ (gu q);have:=(aP.1 this).1;omega
 have⟨x,k,o',i,A,z⟩:=hr.ob b o hb;exact⟨x,k,o',i,a x o' A,z⟩
def eqA(a b:Addr):Bool:=
 match a,b with
 |⟨x,o,none⟩,⟨y,p,none⟩=>Nat.beq x y&&Nat.beq o p
 |_,_=>false
theorem aiP{a b}(h:eqA a b=true):a=b:=by
 unfold eqA at h;split at h
 .simp only[aT] at h;rw[bG h.1,bG h.2]
 cases h
def agN(a b:aB Addr):Bool:=
 match a,b with
 |none,none=>true
 |some a,some b=>eqA a b
 |_,_=>false
theorem aam{a b}(h:agN a b=true):a=b:=by
 unfold agN at h;split at h
 .rfl
 .rw[aiP h]
 cases h
def abX(a b:aB Nat):Bool:=
 match a,b with
 |none,none=>true
 |some a,some b=>Nat.beq a b
 |_,_=>false
theorem Mc{a b}(h:abX a b=true):a=b:=by
 unfold abX at h;split at h
 .rfl
 .rw[bG h]
 cases h
mutual
def Be:ae->ae->Bool
 |.bool a,u=>match u with|.bool b=>a==b|_=>false
 |.int j a,u=>match u with|.int k b=>decide (j=k)&&decide (a=b)|_=>false
 |.string a,u=>match u with|.string b=>decide (a=b)|_=>false
 |.nilFunc,u=>match u with|.nilFunc=>true|_=>false
 |.nilIface,u=>match u with|.nilIface=>true|_=>false
 |.pointer a,u=>match u with|.pointer b=>agN a b|_=>false
 |.slice a n c,u=>match u with|.slice b m d=>agN a b&&Nat.beq n m&&Nat.beq c d|_=>false
 |.map a,u=>match u with|.map b=>abX a b|_=>false
 |.chan a,u=>match u with|.chan b=>abX a b|_=>false
 |.agg ⟨a⟩,u=>match u with|.agg ⟨b⟩=>qC a b|_=>false
 |.tuple ⟨a⟩,u=>match u with|.tuple ⟨b⟩=>qC a b|_=>false
 |.func f ⟨a⟩ ⟨b⟩,u=>match u with
  |.func g ⟨c⟩ ⟨d⟩=>(match f,g with|.func f,.func g=>Nat.beq f g|.yield l,.yield m=>Nat.beq l m|_,_=>false)&&qC a c&&qC b d
  |_=>false
 |_,_=>false
def qC:List ae->List ae->Bool
 |[],l=>match l with | []=>true|_=>false
 |a::l,m=>match m with|b::m=>Be a b&&qC l m | []=>false
end
mutual
theorem lY:∀{v u:ae},Be v u=true->v=u
 |.bool a,u,h=>by cases u<;>simp[Be] at h;rw[h]
 |.int j a,u,h=>by cases u<;>simp[Be] at h;rw[h.1,h.2]
 |.string a,u,h=>by cases u<;>simp[Be] at h;rw[h]
 |.nilFunc,u,h=>by cases u<;>simp[Be] at h;rfl
 |.nilIface,u,h=>by cases u<;>simp[Be] at h;rfl
 |.pointer a,u,h=>by cases u<;>simp[Be] at h;rw[aam h]
 |.slice a n c,u,h=>by cases u<;>simp[Be] at h;rw[aam h.1.1,h.1.2,h.2]
 |.map a,u,h=>by cases u<;>simp[Be] at h;rw[Mc h]
 |.chan a,u,h=>by cases u<;>simp[Be] at h;rw[Mc h]
 |.agg ⟨a⟩,u,h=>by
  cases u<;>simp only[Be] at h<;>try (cases h;done)
  rw[iY h]
 |.tuple ⟨a⟩,u,h=>by
  cases u<;>simp only[Be] at h<;>try (cases h;done)
  rw[iY h]
 |.func f ⟨a⟩ ⟨b⟩,u,h=>by
  cases u<;>simp only[Be] at h<;>try (cases h;done)
  rename_i g c d;simp only[aT] at h;have⟨⟨h1,h2⟩,h3⟩:=h;rw[iY h2,iY h3];split at h1
  .rw[bG h1]
  .rw[bG h1]
  cases h1
 |.float _ _,_,h=>by simp[Be] at h
 |.complex _ _ _,_,h=>by simp[Be] at h
 |.iface _ _,_,h=>by simp[Be] at h
theorem iY:∀{l m:List ae},qC l m=true->l=m
 |[],m,h=>by cases m<;>simp[qC] at h;rfl
 |a::l,m,h=>by
  cases m with
  |nil=>simp[qC] at h
  |cons b m=>
  simp only[qC,aT] at h;rw[lY h.1,iY h.2]
end
def Uh:Ob->Ob->Bool
|.cells c e s,.cells d f t=>qC c d&&Nat.beq e f&&abX s t
|.cells c e _,.shut d f=>qC c d&&Nat.beq e f
|.shut c e,.shut d f=>qC c d&&Nat.beq e f
|_,_=>false
theorem Bf{o p}(h:Uh o p=true):o.Le p:=by
 unfold Uh at h;split at h
 .simp only[aT] at h;rw[iY h.1.1,bG h.1.2,Mc h.2];exact .inl rfl
 .simp only[aT] at h;rw[iY h.1,bG h.2];exact .inr ⟨_,_,_,rfl,rfl⟩
 .simp only[aT] at h;rw[iY h.1,bG h.2];exact .inl rfl
 cases h
structure Entry where
 f:aI
 args:List ae
 kn:List (Nat×Ob)
 v:ae
def Entry.ok(P:aH)(e:Entry):Prop:=Quiet P e.f e.args e.kn e.v/\∀p∈e.kn,p.1<top
def ahE(e:Entry)(f:aI)(args:List ae)(h:H):Bool:=
 match Nat.beq e.f f with
 |true=>match qC e.args args with
  |true=>e.kn.all fun p=>match h.get p.1 with
   |some o=>Uh o p.2
   |none=>false
  |false=>false
 |false=>false
def aeg(f:aI)(args:List ae)(h:H):List Entry->aB (aB (ae×H))
|[]=>none
|e::es=>match ahE e f args h with
 |true=>some (some (e.v,h))
 |false=>aeg f args h es
def A7(es:List Entry):aI->List ae->H->aB (aB (ae×H)):=fun f args h=>aeg f args h es
theorem rG{es}(h:∀e∈es,e.ok P):fE P (A7 es):=by
 intro f args h0 v h' hf;unfold A7 at hf;induction es with
 |nil=>cases hf
 |cons e es ih=>
 simp[aeg] at hf;split at hf
 .rename_i a;obtain⟨rfl,rfl⟩:=hf;unfold ahE at a
  split at a
  .rename_i h1
   split at a
   .rename_i h2;have⟨b,ht⟩:=h e (by simp);obtain rfl:=bG h1;obtain rfl:=iY h2;exact b.does ht fun p hp=>by
     have:=bZ.1 a p hp
     split at this
     .rename_i o ho;exact⟨o,ho,Bf this⟩
     cases this
   cases a
  cases a
 exact ih (fun e he=>h e (by simp[he])) hf
end
section
variable{P:aH}{inv:Iv}
theorem MV{ρ ρ' h w w'}(s:Stp ρ h w ρ' h w'){x:Nat}{o}(hx:w.heap[x]?=some o):w'.heap[x]?=some o:=by
 have⟨l,e,p,_⟩:=s.log;have e:=e;have:l=[]:=by have:=bU List.length e;simp at this;exact this
 subst this;exact p x o hx fun b k hb=>by simp at hb
def puts(j:Nat)(l:List bn):Bool:=l.any fun o=>match o.dst with
|some d=>Nat.beq d j
|none=>false
theorem zJ{j o l}(h:puts j (o::l)=false):o.dst≠some j/\puts j l=false:=by unfold puts at *;simp only[List.any_cons,Bool.or_eq_false_iff] at h;refine⟨fun e=>?_,h.2⟩;have:=h.1;rw[e] at this;simp at this
theorem Jh(a:Act){d j}(h:d≠some j)(v):(a.put d v).tmps[j]?=a.tmps[j]?:=by
 cases d with
 |none=>rfl
 |some d=>
 simp[Act.put];rw[jf (fun e=>h (by rw[e]))]
def Kept(P:aH)(ρ:jV)(n:Nat)(h:H)(w:ay)(m:Machine)(b:aC)(a:Act)(k:List ig)(cs:List aC)(t':T ae)(h':H)(l:List bn):Prop:=∃ρ' a' w',Steps P m (lone (b.atR a' k) cs w')/\a'.defers=a.defers/\Stp ρ h w ρ' h' w'/\HR ρ' h' w'/\TR ρ' n t' a'.tmps/\∀j,puts j l=false->a'.tmps[j]?=a.tmps[j]?
theorem NQ(hI:kS P inv){ck:Ck}{n:Nat}{ops:Array bn}{rest:List Nat}{b:aC}{k:List ig}{cs:List aC}:∀{l:List bn} {i:Nat} {t t':T ae} {h h':H},(∀j,j<l.length->ops[i+j]?=l[j]?)->uU P inv ck n ops.toList l t h=some (t',h')->∀{ρ:jV} {a:Act} {w:ay},TR ρ n t a.tmps->HR ρ h w->lK ρ h.next h'.next->Kept P ρ n h w (lone (b.atR a (.inRegion ops (List.range' i l.length++rest)::k)) cs w) b a (.inRegion ops rest::k) cs t' h' l
|[],i,t,t',h,h',hl,e,ρ,a,w,ht,hr,hu=>by cases e;exact⟨ρ,a,w,show Steps P (lone (b.atR a (.inRegion ops rest::k)) cs w) _ from .refl _ _,rfl,.refl ρ h w w rfl,hr,ht,fun _ _=>rfl⟩
|o::l,i,t,t',h,h',hl,e,ρ,a,w,ht,hr,hu=>by
 have ho:ops[i]?=some o:=by simpa using hl 0 (by simp)
 have m:∀j,j<l.length->ops[i+1+j]?=l[j]?:=fun j hj=>by
  have:=hl (j+1) (by simp;omega)
  rw[show i+(j+1)=i+1+j by omega] at this;simpa using this
 have d:List.range' i (o::l).length++rest=i::(List.range' (i+1) l.length++rest):=by simp[uw]
 rw[d];simp only[uU] at e;split at e
 .rename_i hw
  have c:=gJ ht hw;split at e;case h_2=>cases e
  split at e
  .rename_i v h1 C
   split at e
   .rename_i t1 A
    have E:=wO hI.next C;have D:=gX hI.next e;obtain⟨p,v',w1,s1,s2,s3,s4⟩:=X6 (b:=b) (k:=k) (cs:=cs) hI C ho c ht hr (hu.sub (aA _) D) (List.range' (i+1) l.length++rest);have g:TR p n t1 (a.put o.dst v').tmps:=(ht.mono s2.le).put A s4;obtain⟨f,B,w2,y,x,u,s,r,q⟩:=NQ hI m e g s3 ((hu.sub E (aA _)).step s2 (aA _));exact⟨f,B,w2,s1.trans y,by rw[x,put_defers],s2.trans u,s,r,fun j hj=>by obtain⟨g1,z⟩:=zJ hj;rw[q j z,Jh a g1]⟩
   cases e
  cases e
 .rename_i hw
  have c:=gJ ht hw;split at e;case h_2=>cases e
  split at e
  .rename_i t1 A
   have g:TR ρ n t1 (a.put o.dst undef).tmps:=ht.put A lM;have hs:=stepR_op_skip (P:=P) (b:=b) (a:=a) (k:=k) (cs:=cs) (w:=w) (ops:=ops) (i:=i) (rest:=List.range' (i+1) l.length++rest) (by rw[ho];simpa using c);rw[ho] at hs;obtain⟨f,B,w2,y,x,u,s,r,q⟩:=NQ hI m e g hr hu;exact⟨f,B,w2,.head hs y,by rw[x,put_defers],u,s,r,fun j hj=>by obtain⟨g1,z⟩:=zJ hj;rw[q j z,Jh a g1]⟩
  cases e
 cases e
def yH(P:aH)(inv:Iv)(n:Nat)(all l:List bn)(t:T ae)(h:H):aB (T ae):=
 match uU P inv abv n all l t ⟨h.t,h.next,[]⟩ with
 |some (t',h')=>match h'.log,Nat.beq h'.next h.next with
  |[],true=>some t'
  |_,_=>none
 |none=>none
theorem GV(hI:kS P inv){n ops rest b k cs l i t t' h}(hl:∀j,j<l.length->ops[i+j]?=l[j]?)(e:yH P inv n ops.toList l t h=some t'){ρ a w}(ht:TR ρ n t a.tmps)(hr:HR ρ h w):Kept P ρ n h w (lone (b.atR a (.inRegion ops (List.range' i l.length++rest)::k)) cs w) b a (.inRegion ops rest::k) cs t' h l:=by
 unfold yH at e;split at e;case h_2=>cases e
 rename_i t1 h1 G;split at e;case h_2=>cases e
 rename_i el p;cases e;have p:=bG p;have g:HR ρ ⟨h.t,h.next,[]⟩ w:=⟨hr.fD,hr.ob,hr.inj⟩;obtain⟨ρ',a',w',z,v,u,f,s,r⟩:=NQ hI hl G ht g (fun x h1 h2=>by have h1:h.next<=x:=h1;omega)
 obtain⟨s1,s2,s3,s4,E,q,D,C,m4,B,A⟩:=u;have m:E=[]:=by rw[el] at q;simpa using q.symm
 subst m;have d:∀y,h1.get y=h.get y:=fun y=>B y (by simp);refine⟨ρ',a',w',z,v,⟨s1,aA _,fun y hy hx=>s3 y hy (by rw[p];exact hx),s4,[],rfl,D,C,fun _ hb=>by simp at hb,fun _ _=>rfl,A⟩,⟨f.fD,fun y o hy=>f.ob y o (by rw[d];exact hy),fun y c x k l hy hc hx F=>f.inj y c x k l (by rw[d];exact hy) (by rw[d];exact hc) hx F⟩,s,r⟩
theorem qg(hI:kS P inv){n id ops b k cs t t' h}(e:yH P inv n ops.toList ops.toList t h=some t'){ρ a w}(ht:TR ρ n t a.tmps)(hr:HR ρ h w):Kept P ρ n h w (lone (b.atR a (.code (.region id ops false)::k)) cs w) b a k cs t' h ops.toList:=by
 obtain⟨ρ',a',w',c,d⟩:=GV hI (i:=0) (fun j _=>by simp) e ht hr;refine⟨ρ',a',w',.head Gv ?_,d⟩;have f:List.range' 0 ops.toList.length++[]=List.range ops.size:=by rw[yV];simp
 rw[f] at c;exact c.trans (.one PV)
def clear(t:T ae)(l:List bn):Bool:=l.all fun o=>match o.dst with
|some j=>(match t.get j with|none=>true|some _=>false)
|none=>true
theorem WS{t l}(h:clear t l=true){j v}(hj:t.get j=some v):puts j l=false:=by
 unfold puts;rw[UQ];intro o ho;have:=bZ.1 h o ho;split
 .rename_i d hd;rw[hd] at this;simp only at this;intro e;obtain rfl:=bG e;rw[hj] at this;cases this
 simp
theorem TR.keep{ρ ρ' n t a a' l}(h:TR ρ n t a)(d:Le ρ ρ')(hs:a'.size=n)(hk:∀j,puts j l=false->a'[j]?=a[j]?)(hc:clear t l=true):TR ρ' n t a':=⟨hs,fun j v hj=>by have⟨v',c,b⟩:=h.get j v hj;exact⟨v',by rw[hk j (WS hc hj)];exact c,b.mono d⟩⟩
end
structure Bst where
 fn:Func
 c0:Code
 c1:Code
 c7:Code
 BQ:Nat
 qE:Nat
 i2:Nat
 i3:Nat
 i4:Nat
 i5:Nat
 i6:Nat
 ops2:Array bn
 c12:fH
 o13:bn
 o14:bn
 o8:bn
 ops4:Array bn
 c19:fH
 ops5:Array bn
 ops6:Array bn
 d1:Nat
 d8:Nat
 d9:Nat
 d11:Nat
 d13:Nat
 d14:Nat
 tE:aZ
 dE:TypeDesc
def Bst.inner(c:Bst):Code:=.seq (.region c.i3 #[c.o13,c.o14,c.o8] false) (.seq (.region c.i4 c.ops4 false) (.cond c.c19 (.region c.i5 c.ops5 false) .skip))
def Bst.loopBody(c:Bst):Code:=.seq (.region c.i2 c.ops2 false) (.seq (.cond c.c12 .skip (.exit c.BQ)) (.seq (.block c.qE c.inner) (.region c.i6 c.ops6 false)))
def Bst.body(c:Bst):Code:=.seq c.c0 (.seq (.seq c.c1 (.block c.BQ (.loop c.loopBody))) c.c7)
structure Bst.OK(P:aH)(c:Bst)(f:aI):Prop where
 ff:P.funcs[f]?=some c.fn
 fb:c.fn.body=some c.body
 fname:(c.fn.name == "runtime.NumGoroutine")=false
 g14:c.o14.guard=none
 aku:c.o14.dst=some c.d14
 ajU:c.o14.op=.load c.tE (.tmp c.d13)
 tE:P.underlying c.tE=some c.dE
 agE:aeV c.dE=false
 l1:c.d1<top
 l8:c.d8<top
 l11:c.d11<top
 l14:c.d14<top
section
variable(P:aH)(inv:Iv)(c:Bst)(n:Nat)(tL:T ae)(h:H)
def Bst.ops3(c:Bst):List bn:=[c.o13,c.o14,c.o8]
def Bst.tI(c:Bst)(tL:T ae)(i:Nat):T ae:=T.put T.deep tL c.d11 (some (.int .i64 (.ofNat i)))
def Bst.Wq(i:Nat):aB Bool:=match yH P inv n c.ops2.toList c.ops2.toList (c.tI tL i) h with
|some t2=>match di t2 c.c12 with
 |some (.bool q)=>some q
 |_=>none
|none=>none
def Bst.Zu(nb i:Nat):Bool:=(match c.Wq P inv n tL h i with|some true=>true|_=>false)&&
 (match yH P inv n c.ops3 [c.o13] (c.tI tL i) h with
  |some t3=>match t3.get c.d13 with
   |some (.pointer (some ⟨x,o,none⟩))=>Nat.beq x nb&&Nat.beq o i
   |_=>false
  |none=>false)&&
 (match yH P inv n c.ops6.toList c.ops6.toList (c.tI tL i) h with
  |some t6=>match t6.get c.d11 with
   |some v=>Be v (.int .i64 (.ofNat (i+1)))
   |none=>false
  |none=>false)&&Nat.blt c.d14 n
def Bst.BU(b u:ae):aB ae:=match yH P inv n c.ops3 [c.o8] (T.put T.deep .nil c.d14 (some u)) h with
|some t8=>match t8.get c.d8 with
 |some u1=>match Be u1 u,yH P inv n c.ops4.toList c.ops4.toList (T.put T.deep (T.put T.deep tL c.d1 (some b)) c.d8 (some u)) h with
  |true,some t4=>match di t4 c.c19 with
   |some (.bool true)=>match yH P inv n c.ops5.toList c.ops5.toList t4 h with
    |some t5=>t5.get c.d1
    |none=>none
   |some (.bool false)=>t4.get c.d1
   |_=>none
  |_,_=>none
 |none=>none
|none=>none
def Bst.WC(c:Bst)(tL:T ae):Bool:=clear tL c.ops2.toList&&clear tL c.ops3&&clear tL c.ops4.toList&&clear tL c.ops5.toList&&clear tL c.ops6.toList&&
 !puts c.d11 c.ops2.toList && !puts c.d11 c.ops3 && !puts c.d11 c.ops4.toList && !puts c.d11 c.ops5.toList&&
 !puts c.d1 c.ops2.toList && !puts c.d1 c.ops3 && !puts c.d1 c.ops6.toList
def Bst.ahk(first m:ae)(cells:List ae):Bool:=(cells.all fun u=>(first::cells).all fun b=>match c.BU P inv n tL h b u with
  |some b2=>(first::cells).any (Be b2)
  |none=>false)&&
 (cells.all fun u=>match c.BU P inv n tL h m u with|some b2=>Be b2 m|none=>false)&&
 (Be first m||(cells.any (fun u=>Be u m)&&(first::cells).all fun b=>match c.BU P inv n tL h b m with|some b2=>Be b2 m|none=>false))
def Bst.ahB:List ae->ae->aB ae
|[],b=>some b
|u::l,b=>match c.BU P inv n tL h b u with
 |some b2=>Bst.ahB l b2
 |none=>none
end
section
variable(P:aH)(inv:Iv)(c:Bst)
def Bst.di(f:aI)(args:List ae)(h:H):aB (ae×H):=
 match yA 0 args .nil with
 |some ta=>match jd P inv f (args.length+(c.fn.ntmps-args.length)) none c.c0 ⟨ta,h,[]⟩ with
  |some (.normal,s0)=>match jd P inv f (args.length+(c.fn.ntmps-args.length)) none c.c1 s0 with
   |some (.normal,⟨t1,h1,[]⟩)=>match t1.get c.d11,t1.get c.d1,t1.get c.d9 with
    |some (.int .i64 (.ofNat 0)),some first,some (.slice (some ⟨nb,0,none⟩) len _)=>match h1.get nb with
     |some (.bag cells _)=>match Nat.beq len cells.length&&(c.WC (T.put T.deep (T.put T.deep t1 c.d1 none) c.d11 none))&&((List.range len).all fun i=>c.Zu P inv (args.length+(c.fn.ntmps-args.length)) (T.put T.deep (T.put T.deep t1 c.d1 none) c.d11 none) h1 nb i)&&
       (match c.Wq P inv (args.length+(c.fn.ntmps-args.length)) (T.put T.deep (T.put T.deep t1 c.d1 none) c.d11 none) h1 len with|some false=>true|_=>false),c.ahB P inv (args.length+(c.fn.ntmps-args.length)) (T.put T.deep (T.put T.deep t1 c.d1 none) c.d11 none) h1 cells first with
      |true,some m=>match c.ahk P inv (args.length+(c.fn.ntmps-args.length)) (T.put T.deep (T.put T.deep t1 c.d1 none) c.d11 none) h1 first m cells,jd P inv f (args.length+(c.fn.ntmps-args.length)) none c.c7 ⟨T.put T.deep (T.put T.deep (T.put T.deep t1 c.d1 none) c.d11 none) c.d1 (some m),h1,[]⟩ with
       |true,some x=>rD P c.fn x
       |_,_=>none
      |_,_=>none
     |_=>none
    |_,_,_=>none
   |_=>none
  |_=>none
 |none=>none
end
section
variable{P:aH}{inv:Iv}{c:Bst}
theorem TR.KG{ρ n t a}(h:TR ρ n t a){d}(hd:d<top){u v}(b:a[d]?=some v)(hr:VR ρ u v):TR ρ n (T.put T.deep t d (some u)) a:=by
 refine⟨h.size,fun i x hx=>?_⟩;rw[T.get_put _ _ _ _ _ (df hd)] at hx;split at hx
 .rename_i e;cases hx;subst e;exact⟨v,b,hr⟩
 exact h.get i x hx
theorem TR.less1{ρ n t a}(h:TR ρ n t a){d}(hd:d<top):TR ρ n (T.put T.deep t d none) a:=by
 refine⟨h.size,fun i x hx=>?_⟩;rw[T.get_put _ _ _ _ _ (df hd)] at hx;split at hx
 .cases hx
 exact h.get i x hx
theorem TR.alv{ρ n t a}(h:TR ρ n t a):TR ρ n (.nil:T ae) a:=⟨h.size,fun i x hx=>by cases hx⟩
structure Bst.At(c:Bst)(ρ:jV)(n:Nat)(tL:T ae)(h:H)(nb A:Nat)(el:aZ)(d r:List ae)(w:ay)(a:Act)(i:Nat)(b:ae):Prop where
 hr:HR ρ h w
 row:w.heap[A]?=some (.cells ⟨d++r⟩ el (0,0))
 nbA:∃k,ρ nb=.at_ A k
 tr:TR ρ n tL a.tmps
 alS:a.tmps[c.d11]?=some (.int .i64 (.ofNat i))
 at1:∃v,a.tmps[c.d1]?=some v/\VR ρ b v
theorem MX{ρ ρ' h w'}(a:Le ρ ρ')(hr:HR ρ' h w'){nb A k o}(hg:h.get nb=some o)(hn:ρ nb=.at_ A k):ρ' nb=.at_ A k:=by
 rcases a nb with e|e|e
 .rw[hn] at e;cases e
 .rw[e];exact hn
 have⟨x,k',o',h1,_⟩:=hr.ob nb o hg;rw[e] at h1;cases h1
theorem Bst.round(hI:kS P inv){f}(hc:c.OK P f){ρ n tL h nb A el d r w}{b:aC}{a i bv b2 u B k cs}{ob}(O:h.get nb=some ob)(p:c.WC tL=true)(hs:c.Zu P inv n tL h nb i=true)(hb:c.BU P inv n tL h bv u=some b2)(hAt:c.At ρ n tL h nb A el d r w a i bv)(hdu:d[i]?=some B)(hu:VR ρ u B):∃ρ' a' w',Steps P (lone (b.atR a (.code c.loopBody::.inLoop c.loopBody::k)) cs w) (lone (b.atR a' (.code c.loopBody::.inLoop c.loopBody::k)) cs w')/\a'.defers=a.defers/\Stp ρ h w ρ' h w'/\c.At ρ' n tL h nb A el d r w' a' (i+1) b2:=by
 have⟨hr,E,C,htr,h11,v1,h1,hv1⟩:=hAt;unfold Bst.WC at p;simp[aT,ET] at p;have⟨⟨⟨⟨⟨⟨⟨⟨⟨⟨⟨f1,f2⟩,f3⟩,f4⟩,f5⟩,p1⟩,p2⟩,p3⟩,p4⟩,p5⟩,p6⟩,p7⟩:=p;unfold Bst.Zu at hs;simp only[aT] at hs;have⟨⟨⟨s1,s2⟩,s3⟩,f14⟩:=hs;rw[ik] at f14;split at s1;case h_2=>cases s1
 rename_i Z;unfold Bst.Wq at Z;split at Z;case h_2=>cases Z
 rename_i t2 e2;split at Z;case h_2=>cases Z
 rename_i q eq;cases Z;split at s2;case h_2=>cases s2
 rename_i t3 e3;split at s2;case h_2=>cases s2
 rename_i x o e13;simp only[aT] at s2;have⟨q1,q2⟩:=s2;obtain rfl:=bG q1;obtain rfl:=bG q2;split at s3;case h_2=>cases s3
 rename_i t6 e6;split at s3;case h_2=>cases s3
 rename_i v6 e11;obtain rfl:=lY s3;unfold Bst.BU at hb;split at hb;case h_2=>cases hb
 rename_i t8 e8;split at hb;case h_2=>cases hb
 rename_i u1 eu;split at hb;case h_2=>cases hb
 rename_i t4 eu1 e4;obtain rfl:=(lY eu1).symm;have hint:VR ρ _ (.int .i64 (.ofNat o)):=.same rfl;have⟨ρ1,a1,w1,g1,g2,g3,g4,g5,g6⟩:=qg (b:=b) (k:=.code (.seq (.cond c.c12 .skip (.exit c.BQ)) (.seq (.block c.qE c.inner) (.region c.i6 c.ops6 false)))::.inLoop c.loopBody::k) (cs:=cs) (id:=c.i2) hI e2 (htr.KG hc.l11 h11 hint) hr;have tr1:=htr.keep g3.le g5.size g6 f1;have a11:a1.tmps[c.d11]?=some (.int .i64 (.ofNat o)):=by rw[g6 _ p1];exact h11
 have a1v:a1.tmps[c.d1]?=some v1:=by rw[g6 _ p5];exact h1
 have R:=(fA g5 _ _ eq).gZ;have⟨I,s,w2,m1,m2,Y,m4,m5,m6⟩:=GV (b:=b) (k:=.code (.seq (.region c.i4 c.ops4 false) (.cond c.c19 (.region c.i5 c.ops5 false) .skip))::.inBlock c.qE::.code (.region c.i6 c.ops6 false)::.inLoop c.loopBody::k) (cs:=cs) (rest:=[1,2]) hI (i:=0) (fun j hj=>by simp at hj;subst hj;rfl) e3 (tr1.KG hc.l11 a11 (.same rfl)) g4;have L:∀j,puts j c.ops3=false->s.tmps[j]?=a1.tmps[j]?:=fun j hj=>m6 j (by
  have⟨z1,_⟩:=zJ hj;unfold puts;simp[List.any_cons,List.any_nil,Bool.or_false];split
  .rename_i dd hdd;rw[Bool.eq_false_iff];intro e;obtain rfl:=bG e;exact z1 hdd
  rfl)
 have tr2:=tr1.keep Y.le m5.size L f2;have a21:s.tmps[c.d11]?=some (.int .i64 (.ofNat o)):=by rw[L _ p2];exact a11
 have a2v:s.tmps[c.d1]?=some v1:=by rw[L _ p6];exact a1v
 have⟨p',hp',hpv⟩:=m5.get _ _ e13;obtain⟨⟨blk,off,spot⟩,rfl,hA⟩:=hpv.lD;have⟨kA,C⟩:=C;have hnb1:=MX g3.le g4 O C;have hnb2:=MX Y.le m4 O hnb1;have hblk:=hA.block.at_ hnb2;have hoff:=hA.off;have M:=hA.spot';subst hblk hoff M;have N:=MV Y (MV g3 E);have S:w2.cell? ⟨blk,off,none⟩=some B:=by have hlt:=(yB.1 hdu).1;simp[World.cell?,N,EU hlt,hdu]
 have hw14:Region.wanted c.o14 (yielded #[c.o13,c.o14,c.o8] s.tmps)=true:=by unfold Region.wanted;rw[hc.g14]
 have Q:s.eval (.tmp c.d13)=.pointer (some ⟨blk,off,none⟩):=by show s.tmps.getD c.d13 undef=_;rw[pq,hp'];rfl
 have hx14:(execOp s.eval c.o14).run P w2=.ok (.value B) w2:=by
  have:(do pure (.value (<- Instr.loadAt c.tE (s.eval (.tmp c.d13)))):Sem Next).run P w2=.ok (.value B) w2:=by simp[Instr.loadAt,Instr.sureAddr,Q,loadVar,II hc.tE,hc.agE,load,Sem.run,S]
  unfold execOp;rw[hc.ajU];exact this
 have m:=mO (P:=P) (b:=b) (a:=s) (k:=.code (.seq (.region c.i4 c.ops4 false) (.cond c.c19 (.region c.i5 c.ops5 false) .skip))::.inBlock c.qE::.code (.region c.i6 c.ops6 false)::.inLoop c.loopBody::k) (cs:=cs) (ops:=#[c.o13,c.o14,c.o8]) (i:=1) (rest:=[2]) (o:=c.o14) rfl hw14 (fun e he=>by rw[hc.ajU] at he;cases he) hx14 (.inl rfl);rw[hc.aku] at m;have K:puts c.d14 c.ops3=true:=by unfold puts Bst.ops3;simp[hc.aku]
 have n11:c.d11≠c.d14:=fun e=>by rw[e,K] at p2;cases p2
 have n1:c.d1≠c.d14:=fun e=>by rw[e,K] at p6;cases p6
 generalize D:s.put (some c.d14) B=a3 at m;have hu2:VR I u B:=(hu.mono g3.le).mono Y.le;have k3:∀j,j≠c.d14->a3.tmps[j]?=s.tmps[j]?:=fun j hj=>by rw[<-D];exact Jh s (fun e=>hj (by cases e;rfl)) B
 have s3:a3.tmps.size=n:=by rw[<-D];simp[Act.put,m5.size]
 have a3u:a3.tmps[c.d14]?=some B:=by rw[<-D];simp[Act.put,m5.size,f14]
 have tr3:TR I n tL a3.tmps:=⟨s3,fun j v hj=>by
  have⟨v',z1,z2⟩:=tr2.get j v hj;refine⟨v',?_,z2⟩;rw[k3 j fun e=>?_]
  .exact z1
  have:=WS f2 hj;rw[e,K] at this;cases this⟩
 have tr3u:TR I n (T.put T.deep .nil c.d14 (some u)) a3.tmps:=(TR.alv tr3).KG hc.l14 a3u hu2;have⟨G,a4,w3,r1,r2,r3,r4,r5,r6⟩:=GV (b:=b) (k:=.code (.seq (.region c.i4 c.ops4 false) (.cond c.c19 (.region c.i5 c.ops5 false) .skip))::.inBlock c.qE::.code (.region c.i6 c.ops6 false)::.inLoop c.loopBody::k) (cs:=cs) (rest:=[]) hI (ops:=#[c.o13,c.o14,c.o8]) (l:=[c.o8]) (i:=2) (fun j hj=>by simp at hj;subst hj;rfl) e8 tr3u m4;have J:∀j,puts j c.ops3=false->a4.tmps[j]?=a3.tmps[j]?:=fun j hj=>r6 j (by have⟨_,z1⟩:=zJ hj;exact(zJ z1).2)
 have tr4:TR G n tL a4.tmps:=tr3.keep r3.le r5.size J f2;have a41:a4.tmps[c.d11]?=some (.int .i64 (.ofNat off)):=by rw[J _ p2,k3 _ n11];exact a21
 have a4v:a4.tmps[c.d1]?=some v1:=by rw[J _ p6,k3 _ n1];exact a2v
 have⟨u8,hu8,hv8⟩:=r5.get _ _ eu;have hv1':VR G bv v1:=((hv1.mono g3.le).mono Y.le).mono r3.le;have tr4':TR G n (T.put T.deep (T.put T.deep tL c.d1 (some bv)) c.d8 (some u)) a4.tmps:=(tr4.KG hc.l1 a4v hv1').KG hc.l8 hu8 hv8;have⟨z,a5,w4,x1,x2,x3,x4,x5,x6⟩:=qg (b:=b) (k:=.code (.cond c.c19 (.region c.i5 c.ops5 false) .skip)::.inBlock c.qE::.code (.region c.i6 c.ops6 false)::.inLoop c.loopBody::k) (cs:=cs) (id:=c.i4) hI e4 tr4' r4;have tr5:TR z n tL a5.tmps:=tr4.keep x3.le x5.size x6 f3;have a51:a5.tmps[c.d11]?=some (.int .i64 (.ofNat off)):=by rw[x6 _ p3];exact a41
 have hgo:Steps P (lone (b.atR a (.code c.loopBody::.inLoop c.loopBody::k)) cs w) (lone (b.atR a5 (.code (.cond c.c19 (.region c.i5 c.ops5 false) .skip)::.inBlock c.qE::.code (.region c.i6 c.ops6 false)::.inLoop c.loopBody::k)) cs w4):=by refine .head kL (g1.trans (.head kL (.head (DU R) (.head UW (.head kL (.head Gu (.head kL (.head Gv ?_))))))));refine yU m1 (.head m (r1.trans (.head PV (.head kL x1))))
 have hst5:Stp ρ h w z h w4:=((g3.trans Y).trans r3).trans x3;have U:∃g F X,Steps P (lone (b.atR a5 (.code (.cond c.c19 (.region c.i5 c.ops5 false) .skip)::.inBlock c.qE::.code (.region c.i6 c.ops6 false)::.inLoop c.loopBody::k)) cs w4) (lone (b.atR F (.inBlock c.qE::.code (.region c.i6 c.ops6 false)::.inLoop c.loopBody::k)) cs X)/\F.defers=a5.defers/\Stp z h w4 g h X/\HR g h X/\TR g n tL F.tmps/\F.tmps[c.d11]?=some (.int .i64 (.ofNat off))/\∃v,F.tmps[c.d1]?=some v/\VR g b2 v:=by
  split at hb
  .rename_i V
   split at hb;case h_2=>cases hb
   rename_i t5 e5;have⟨g,F,X,y1,y2,y3,y4,y5,y6⟩:=qg (b:=b) (k:=.inBlock c.qE::.code (.region c.i6 c.ops6 false)::.inLoop c.loopBody::k) (cs:=cs) (id:=c.i5) hI e5 x5 x4;exact⟨g,F,X,.head (DU (t:=true) (fA x5 _ _ V).gZ) y1,y2,y3,y4,tr5.keep y3.le y5.size y6 f4,by rw[y6 _ p4];exact a51,y5.get _ _ hb⟩
  .rename_i V;exact⟨z,a5,w4,.head (DU (t:=false) (fA x5 _ _ V).gZ) (.one UW),rfl,.refl _ _ _ _ rfl,x4,tr5,a51,x5.get _ _ hb⟩
  cases hb
 have⟨g,F,X,y1,y2,y3,y4,y5,y6,vb,y7,y8⟩:=U;have⟨ρ6,a7,w6,z1,z2,z3,z4,z5,z6⟩:=qg (b:=b) (k:=.inLoop c.loopBody::k) (cs:=cs) (id:=c.i6) hI e6 (y5.KG hc.l11 y6 (.same rfl)) y4;have⟨v11,W,b12⟩:=z5.get _ _ e11;have W:a7.tmps[c.d11]?=some (.int .i64 (.ofNat (off+1))):=by rw[W,b12.flat rfl]
 have y:Stp ρ h w ρ6 h w6:=(hst5.trans y3).trans z3;refine⟨ρ6,a7,w6,hgo.trans (y1.trans (.head stepR_inBlock (z1.trans (.one PU)))),?_,y,z4,MV y E,⟨kA,MX y.le z4 O C⟩,y5.keep z3.le z5.size z6 f5,W,vb,by rw[z6 _ p7];exact y7,y8.mono z3.le⟩;rw[z2,y2,x2,r2,<-D,put_defers,m2,g2]
theorem Bst.rounds(hI:kS P inv){f:aI}(hc:c.OK P f){n:Nat}{tL:T ae}{h:H}{nb A len:Nat}{el:aZ}{d r cells:List ae}{first m:ae}{b:aC}{k:List ig}{cs:List aC}{ob:Ob}(v:h.get nb=some ob)(e:c.WC tL=true)(hs:∀i,i<len->c.Zu P inv n tL h nb i=true)(l:∀u∈cells,∀b∈first::cells,∃C,c.BU P inv n tL h b u=some C/\C∈first::cells)(hm:∀u∈cells,c.BU P inv n tL h m u=some m)(j:m∈cells->first≠m->∀b∈first::cells,c.BU P inv n tL h b m=some m):∀(q D:List ae) (i:Nat) (bv:ae) (ρ:jV) (a:Act) (w:ay),(∀u∈q,u∈cells)->d.drop i=D->iL ρ q D->bv∈first::cells->(bv=m\/(m∈q/\first≠m))->c.At ρ n tL h nb A el d r w a i bv->i+q.length=len->∃ρ' a' w',Steps P (lone (b.atR a (.code c.loopBody::.inLoop c.loopBody::k)) cs w) (lone (b.atR a' (.code c.loopBody::.inLoop c.loopBody::k)) cs w')/\a'.defers=a.defers/\Stp ρ h w ρ' h w'/\c.At ρ' n tL h nb A el d r w' a' len m
|[],D,i,bv,ρ,a,w,_,_,_,_,s,t,hl=>by
 have hl:i=len:=hl;subst hl;rcases s with rfl|⟨h0,_⟩
 .exact⟨ρ,a,w,.refl _ _,rfl,.refl _ _ _ _ rfl,t⟩
 cases h0
|u::q,D,i,bv,ρ,a,w,L,hd,G,y,s,t,hl=>by
 have hl:i+(q.length+1)=len:=hl;cases G with
 |cons hu G=>
 rename_i K B;have I:d[i]?=some K:=by
  have:(d.drop i)[0]?=some K:=by rw[hd];rfl
  simpa using this
 have J:d.drop (i+1)=B:=by rw[<-UY,hd];rfl
 have o:u∈cells:=L u (by simp);have⟨C,g,z⟩:=l u o bv y;have p:C=m\/(m∈q/\first≠m):=by
  rcases s with rfl|⟨h1,h2⟩
  .rw[hm u o] at g;exact .inl (aN g).symm
  rcases dW.1 h1 with rfl|h1
  .rw[j o h2 bv y] at g;exact .inl (aN g).symm
  exact .inr ⟨h1,h2⟩
 have⟨F,U,w1,g1,R,g3,Q⟩:=Bst.round (b:=b) (k:=k) (cs:=cs) hI hc v e (hs i (by omega)) g t I hu;have⟨E,S,w2,V,O,N,M⟩:=Bst.rounds hI hc (b:=b) (k:=k) (cs:=cs) v e hs l hm j q B (i+1) C F U w1 (fun x hx=>L x (by simp[hx])) J (G.mono g3.le) z p Q (by omega);exact⟨E,S,w2,g1.trans V,O.trans R,g3.trans N,M⟩
theorem Bst.does(hI:kS P inv)(hD:iR P inv){f}(hc:c.OK P f){args h h' v}(e:c.di P inv f args h=some (v,h')):dF P f args h v h':=by
 unfold Bst.di at e;split at e;case h_2=>cases e
 rename_i ta eta;generalize hn:args.length+(c.fn.ntmps-args.length)=n at *;split at e;case h_2=>cases e
 rename_i s0 e0;split at e;case h_2=>cases e
 rename_i t1 h1 e1;split at e;case h_2=>cases e
 rename_i first nb len _ g11 g1 g9
 split at e;case h_2=>cases e
 rename_i cells elT R;split at e;case h_2=>cases e
 rename_i m t efold;split at e;case h_2=>cases e
 rename_i x o e7;simp only[aT] at t;obtain⟨⟨⟨V,g⟩,F⟩,p⟩:=t;obtain rfl:=bG V;unfold Bst.ahk at o;simp only[aT,UN] at o;obtain⟨⟨w1,w2⟩,w3⟩:=o;generalize htL:T.put T.deep _ c.d11 none=tL at *;have Q:∀u∈cells,∀b∈first::cells,∃I,c.BU P inv n tL h1 b u=some I/\I∈first::cells:=fun u hu b hb=>by
  have:=bZ.1 (bZ.1 w1 u hu) b hb
  split at this
  .rename_i I G
   obtain⟨y,hy,B⟩:=jA.1 this;exact⟨I,G,by rw[lY B];exact hy⟩
  cases this
 have hm:∀u∈cells,c.BU P inv n tL h1 m u=some m:=fun u hu=>by
  have:=bZ.1 w2 u hu
  split at this
  .rename_i I G;rw[G,lY this]
  cases this
 have N:m∈cells->first≠m->∀b∈first::cells,c.BU P inv n tL h1 b m=some m:=fun _ hne b hb=>by
  rcases w3 with w3|w3
  .exact absurd (lY w3) hne
  have:=bZ.1 w3.2 b hb
  split at this
  .rename_i I G;rw[G,lY this]
  cases this
 obtain⟨n0,r0⟩:=iC hI hD c.c0 _ _ e0;obtain⟨n1,r1⟩:=iC hI hD c.c1 _ _ e1;obtain⟨n7,r7⟩:=iC hI hD c.c7 _ _ e7;have nl:=FD e;simp only at n0 n1 n7;refine⟨by omega,c.fn,c.body,hc.ff,hc.fb,hc.fname,fun{ρ a w} ha hr hu cs=>?_⟩
 let b:aC:={ (default:aC) with fn:=f,kind:=.normal}
 have hl:=ha.length;have s:Frame.enter P f ⟨a⟩ .normal=b.atR {tmps:=(⟨a⟩:Array ae)++Array.replicate (c.fn.ntmps-args.length) undef,defers:=[]} [.code c.body]:=by simp[Frame.enter,Frame.atR,hc.ff,hc.fb,b,hl];rfl
 rw[s];have hargs:TR ρ n ta ((⟨a⟩:Array ae)++Array.replicate (c.fn.ntmps-args.length) undef):=by rw[<-hn];exact Ez eta ha
 have D:({tmps:=(⟨a⟩:Array ae)++Array.replicate (c.fn.ntmps-args.length) undef,defers:=[]}:Act).defers=[]:=rfl;have hargs:TR ρ n ta ({tmps:=(⟨a⟩:Array ae)++Array.replicate _ undef,defers:=[]}:Act).tmps:=hargs;revert D hargs;generalize ({tmps:=(⟨a⟩:Array ae)++Array.replicate _ undef,defers:=[]}:Act)=a0;intro D hargs;obtain⟨ρ1,a1,v1,q1,q2,q3,q4⟩:=r0 ρ b a0 [.code _] cs w ⟨rfl,rfl,trivial,hargs,by rw[D];trivial⟩ hr (hu.sub (aA _) (by show s0.h.next<=h'.next;omega));have q1:=q1;obtain⟨z,W,v2,p1,p2,p3,Y⟩:=r1 ρ1 b a1 [.code _,.code c.c7] cs v1 q4 q3 (((hu.sub n0 (aA _)).step q2 (aA _)).sub (aA _) (by show h1.next<=h'.next;omega));have p1:=p1;have hd2:W.defers=[]:=by
  have:=Y.marks
  cases hdd:W.defers with
  |nil=>rfl
  |cons y l=>rw[hdd] at this;exact this.elim
 have K:=q2.trans p2;have hu2:=(hu.sub (bM n0 n1) (aA _)).step K (aA _);obtain⟨A,kA,o',o1,o2,o3⟩:=p3.ob nb _ R;obtain⟨pp,d,r,j,rfl,hvs⟩:=o3;have hl1:TR z n tL W.tmps:=by rw[<-htL];exact(Y.tmps.less1 hc.l1).less1 hc.l11
 obtain⟨z11,y1,y2⟩:=Y.tmps.get _ _ g11;obtain⟨z1,y3,y4⟩:=Y.tmps.get _ _ g1;have hAt:c.At z n tL h1 nb A elT d r v2 W 0 first:=⟨p3,o2,⟨kA,o1⟩,hl1,by rw[y1,y2.flat rfl],z1,y3,y4⟩
 have hstart:first=m\/(m∈pp/\first≠m):=by
  by_cases h0:first=m
  .exact .inl h0
  refine .inr ⟨?_,h0⟩;rcases w3 with w3|w3
  .exact absurd (lY w3) h0
  obtain⟨y,hy,B⟩:=jA.1 w3.1;rw[<-lY B];exact j.mem_iff.1 hy
 have hplen:=j.length_eq.symm;obtain⟨ρ3,a3,v3,m1,m2,m3,L⟩:=Bst.rounds hI hc R g (fun i hi=>bZ.1 F i (fK.2 hi)) Q hm N pp d 0 first z W v2 (fun u hu=>j.mem_iff.2 hu) rfl hvs (by simp) hstart hAt (by omega)
 have hh:c.Wq P inv n tL h1 cells.length=some false:=by
  split at p
  .assumption
  cases p
 unfold Bst.Wq at hh;split at hh;case h_2=>cases hh
 rename_i t2 G;split at hh;case h_2=>cases hh
 rename_i q eq;cases hh;unfold Bst.WC at g;simp only[aT,ET] at g;obtain⟨⟨⟨⟨⟨⟨⟨⟨⟨⟨⟨f1,_⟩,_⟩,_⟩,_⟩,_⟩,_⟩,_⟩,_⟩,p5⟩,_⟩,_⟩:=g;obtain⟨ρ4,a4,v4,g1',g2',E,g4',U,S⟩:=qg (k:=.code (.seq (.cond c.c12 .skip (.exit c.BQ)) (.seq (.block c.qE c.inner) (.region c.i6 c.ops6 false)))::.inLoop c.loopBody::[.inBlock c.BQ,.code c.c7]) hI G (L.tr.KG hc.l11 L.alS (.same rfl)) L.hr;obtain⟨zm,ym1,ym2⟩:=L.at1;have tr4:=(L.tr.keep E.le U.size S f1).KG hc.l1 (by rw[S _ p5];exact ym1) (ym2.mono E.le);have hd4:a4.defers=[]:=by rw[g2',m2,hd2]
 have J:=(K.trans m3).trans E;have hu4:=(hu.sub (bM n0 n1) (aA _)).step J (aA _);have C:exitTo c.BQ (.code (.seq (.block c.qE c.inner) (.region c.i6 c.ops6 false))::.inLoop c.loopBody::[.inBlock c.BQ,.code c.c7])=some [.code c.c7]:=by simp[exitTo]
 obtain⟨ρ5,a5,v5,X,x2,x3,x4⟩:=r7 ρ4 b a4 [] cs v4 ⟨rfl,rfl,trivial,tr4,by rw[hd4];trivial⟩ g4' (hu4.sub (aA _) (by omega));have hgo:Steps P (lone (b.atR a0 [.code c.body]) cs w) (lone (b.atR a4 [.code c.c7]) cs v4):=.head kL (q1.trans (.head kL (.head kL (p1.trans (.head Gu (.head PT (m1.trans (.head kL (g1'.trans (.head kL (.head (DU (fA U _ _ eq).gZ) (.one (UX C)))))))))))))
 have O:(∃id,x.1=.exit id) \/ ∃Z,Steps P (lone (b.atR a4 [.code c.c7]) cs v4) (lone {b.atR a5 Z with mode:=.returning} cs v5):=by
  obtain⟨ex,sx⟩:=x;cases ex with
  |normal=>exact .inr ⟨[],yU X (.one (stepR_end rfl))⟩
  |ret=>obtain⟨Z,X⟩:=X;exact .inr ⟨_,X.trans (.one (stepR_ret rfl))⟩
  |exit id=>exact .inl ⟨id,rfl⟩
 unfold rD at e;split at e
 .cases e
 rename_i hne;obtain⟨Z,hst⟩:=O.resolve_left fun⟨id,h0⟩=>hne id h0;split at e
 .rename_i h2 hmk
  split at e
  .rename_i u M
   cases e;obtain⟨w2',j1,j2,j3⟩:=(Dk hmk).2 (fr:={b.atR a5 Z with mode:=.returning}) (fun h0=>by cases h0) rfl x4.marks x3;obtain⟨v',l1,l2⟩:=zu x4.tmps j3 M;exact⟨ρ5,v',w2',_,(hgo.trans hst).trans j1,rfl,⟨rfl,rfl,rfl,c.fn,hc.ff,l1⟩,(J.trans x2).trans j2,j3,l2⟩
  cases e
 cases e
end
section
variable{P:aH}
mutual
def aip:ae->List Nat
 |.pointer (some a)=>[a.block]
 |.slice (some a) _ _=>[a.block]
 |.map (some r)=>[r]
 |.func (.yield l) _ _=>[l]
 |.func _ ⟨a⟩ ⟨b⟩=>FC a++FC b
 |.agg ⟨cs⟩|.tuple ⟨cs⟩=>FC cs
 |_=>[]
def FC:List ae->List Nat
 |[]=>[]
 |v::l=>aip v++FC l
end
def adr:Ob->List Nat
|.cells c _ _=>FC c
|.shut c _=>FC c
|_=>[]
def reach(h:H):Nat->List Nat->List (Nat×Ob)->List (Nat×Ob)
|0,_,acc=>acc
|k+1,l,acc=>match l with
 |[]=>acc
 |b::l=>match acc.any fun p=>Nat.beq p.1 b with
  |true=>reach h k l acc
  |false=>match h.get b with
   |some o=>reach h k (adr o++l) ((b,o)::acc)
   |none=>reach h k l acc
theorem Hl{h:H}:∀(k:Nat) (l:List Nat) (acc:List (Nat×Ob)),(∀p∈acc,h.get p.1=some p.2)->∀p∈reach h k l acc,h.get p.1=some p.2
|0,l,acc,ha=>ha
|k+1,l,acc,ha=>by
 unfold reach;split
 .exact ha
 split
 .exact Hl k _ _ ha
 split
 .rename_i o ho;exact Hl k _ _ fun p hp=>by
   rcases dW.1 hp with rfl|hp
   .exact ho
   exact ha p hp
 exact Hl k _ _ ha
theorem NJ{hk:aI->List ae->H->aB (aB (ae×H))}{d f args kn nx v}(e:Jf P hk d f args kn nx=some v):∀p∈kn,p.1<top:=by
 unfold Jf at e;split at e
 .split at e
  .split at e
   .rename_i a;intro p hp;have:=bZ.1 a p hp;simp[aT,ik] at this;exact this.1
   cases e
  cases e
 cases e
abbrev Hook:=aI->List ae->H->aB (aB (ae×H))
def adR(P:aH)(hk:Hook)(d:Nat)(fs:aI->Bool):Hook:=fun f args h=>match fs f with
|true=>match Jf P hk d f args (reach h 1000 (FC args) []) h.next with
 |some v=>some (some (v,h))
 |none=>some none
|false=>none
theorem adQ{hk}(b:fE P hk){d fs}:fE P (adR P hk d fs):=fun f args h v h' e=>by
 unfold adR at e;split at e
 .split at e
  .rename_i u a;cases e;exact(VN b a).does (NJ a) fun p hp=>⟨p.2,Hl _ _ _ (fun _ h=>by cases h) p hp,.inl rfl⟩
  cases e
 cases e
def qo(a b:Hook):Hook:=fun f args h=>match a f args h with
|some r=>some r
|none=>b f args h
theorem jH{a b}(ha:fE P a)(hb:fE P b):fE P (qo a b):=fun f args h v h' e=>by
 unfold qo at e;split at e
 .rename_i r hr;cases e;exact ha f args h v h' hr
 exact hb f args h v h' e
def Pn(P:aH)(inv:Iv)(c:Bst)(f0:aI):Hook:=fun f args h=>match Nat.beq f f0 with
|true=>some (c.di P inv f args h)
|false=>none
theorem Xa{inv c f0}(hI:kS P inv)(hD:iR P inv)(hc:c.OK P f0):fE P (Pn P inv c f0):=fun f args h v h' e=>by
 unfold Pn at e;split at e
 .rename_i h0;obtain rfl:=bG h0;exact Bst.does hI hD hc (aN e)
 cases e
end
section
variable{P:aH}
def nG(P:aH)(f:aI)(args:List ae)(kn:List (Nat×Ob))(nx:Nat)(v:ae)(mk:List (Nat×Ob))(nx':Nat):Prop:=
 nx<=nx'/\(∃fn c,P.funcs[f]?=some fn/\fn.body=some c/\(fn.name == "runtime.NumGoroutine")=false)/\
 ∀ρ args' w,iL ρ args args'->HR ρ ⟨ofList kn,0,[]⟩ w->lK ρ nx nx'->Calls P f ⟨args'⟩ w fun e w'=>∃v' ρ',e=.returned v'/\dU w'/\(∀(x:Nat) (o:Obj),w.heap[x]?=some o->w'.heap[x]?=some o)/\(∀b,(b<nx\/nx'<=b)->ρ' b=ρ b)/\(∀b x k,nx<=b->b<nx'->ρ' b=.at_ x k->w.heap.size<=x)/\VR ρ' v v'/\(∀p∈mk,∃x k o',ρ' p.1=.at_ x k/\w'.heap[x]?=some o'/\OR ρ' k p.2 o')/\(∀p∈mk,∀q∈mk,∀x k m,ρ' p.1=.at_ x k->ρ' q.1=.at_ x m->p.1=q.1)
def Yx(P:aH)(hk:aI->List ae->H->aB (aB (ae×H)))(d:Nat)(f:aI)(args:List ae)(kn:List (Nat×Ob))(nx:Nat)(v:ae)(mk:List (Nat×Ob))(nx':Nat):Bool:=
 match zV P hk d (.func f) args (start kn nx) with
 |some (u,h')=>Be u v&&Nat.beq h'.next nx'&&yL (start kn nx) args&&(kn.all fun p=>Yk (start kn nx) p.2)&&(h'.log.all fun b=>Nat.ble nx b)&&(kn.all fun p=>Nat.blt p.1 top&&Nat.blt p.1 nx)&&
  (mk.all fun p=>match h'.get p.1 with|some o=>Uh o p.2|none=>false)
 |none=>false
theorem ad6{hk:aI->List ae->H->aB (aB (ae×H))}(U:fE P hk){d f args kn nx v mk nx'}(e:Yx P hk d f args kn nx v mk nx'=true):nG P f args kn nx v mk nx':=by
 unfold Yx at e;split at e;case h_2=>cases e
 rename_i u h' V;simp only[aT] at e;have⟨⟨⟨⟨⟨⟨e1,e2⟩,e3⟩,Z⟩,Y⟩,X⟩,W⟩:=e;obtain rfl:=lY e1;obtain rfl:=bG e2;have L:=reckon U V;have ht:∀p∈kn,p.1<top/\p.1<nx:=fun p hp=>by have:=bZ.1 X p hp;simpa only[aT,ik] using this
 have⟨E,fn,c,R,Q,O,_⟩:=id L;have E:=E;refine⟨E,⟨fn,c,R,Q,O⟩,fun ρ I w ha hr hu=>?_⟩;have r:∀b,((start kn nx).get b).isSome=true->b<nx:=fun b hb=>by have⟨o,ho⟩:=gQ.1 hb;exact(ht _ (gY (fun p hp=>(ht p hp).1) ho)).2
 have t:∀b,nx<=b->part ρ (start kn nx) b=.dC:=fun b hb=>by
  cases g:((start kn nx).get b).isSome with
  |true=>have:=r b g;omega
  |false=>simp[part,g]
 have F:=ha.part e3;have A:HR _ (start kn nx) w:=⟨hr.fD,fun b o hb=>by
  have⟨x,k,o',s,p2,p3⟩:=hr.ob b o hb;have hs:((start kn nx).get b).isSome=true:=by rw[hb];rfl
  exact⟨x,k,o',by rw[jP hs];exact s,p2,p3.part (bZ.1 Z _ (gY (fun p hp=>(ht p hp).1) hb))⟩,fun b c x k l hb hc hx hy=>by
  rw[jP hb] at hx;rw[jP hc] at hy;exact hr.inj b c x k l hb hc hx hy⟩
 refine(L.calls F A fun b h1 _=>t b h1).mono ?_;rintro e w' ⟨v',i,rfl,s1,s2,s3⟩;have⟨l,l1,l2,S,l4,l5,K⟩:=s1.log;have l1:h'.log=l:=by rw[l1];exact o9 l
 have h:∀b∈l,nx<=b:=fun b hb=>iF (bZ.1 Y b (by rw[l1];exact hb));have C:∀b x k,i b=.at_ x k->part ρ _ b=.at_ x k\/w.heap.size<=x:=fun b x k hb=>by
  rcases S b x k hb with h1|⟨_,h1|⟨c,m,hc,hm⟩⟩
  .exact .inl h1
  .exact .inr h1
  rw[t c (h c hc)] at hm;cases hm
 let ρ':jV:=fun b=>if nx<=b/\b<h'.next then i b else ρ b
 have z:∀b,nx<=b->b<h'.next->ρ' b=i b:=fun b h1 h2=>aY ⟨h1,h2⟩;have j:∀b,(b<nx\/h'.next<=b)->ρ' b=ρ b:=fun b h1=>aU (by omega);have hle:Le i ρ':=fun b=>by
  by_cases hb:nx<=b/\b<h'.next
  .exact .inr (.inl (z b hb.1 hb.2))
  rw[j b (by omega)];cases g:((start kn nx).get b).isSome with
  |false=>
  refine .inl (s1.born b (by simp[part,g]) ?_);show b<nx\/h'.next<=b;omega
  |true=>
  refine .inr (.inl ?_);have⟨o,ho⟩:=gQ.1 g;have⟨x,k,o',s,_⟩:=A.ob b o ho;rw[K b (fun hb=>by have:=h b hb;have:=r b g;omega) (by rw[s];simp),jP g]
 have y:∀p∈mk,∃o,h'.get p.1=some o/\o.Le p.2:=fun p hp=>by
  have:=bZ.1 W p hp
  split at this
  .rename_i o ho;exact⟨o,ho,Bf this⟩
  cases this
 have a:∀b o,h'.get b=some o->∀x k,i b=.at_ x k->ρ' b=.at_ x k:=fun b o hb x k hx=>by
  rcases hle b with h1|h1|h1
  .rw[hx] at h1;cases h1
  .rw[h1];exact hx
  by_cases B:nx<=b/\b<h'.next
  .rw[z b B.1 B.2];exact hx
  cases g:((start kn nx).get b).isSome with
  |false=>
  have:=s1.born b (by simp[part,g]) (by show b<nx\/h'.next<=b;omega);rw[hx] at this;cases this
  |true=>
  have⟨J,n⟩:=gQ.1 g;have⟨N,T,o',s,_⟩:=A.ob b J n;have h2:=K b (fun hb=>by have:=h b hb;have:=r b g;omega) (by rw[s];simp);rw[j b (by omega),<-jP (ρ:=ρ) g,<-h2];exact hx
 refine⟨v',ρ',rfl,s2.fD,fun x o hx=>l2 x o hx fun b k hb e=>?_,j,fun b x k h1 h2 hx=>?_,s3.mono hle,fun p hp=>?_,fun p hp q g x k m hx hy=>?_⟩
 .rw[t b (h b hb)] at e;cases e
 .rw[z b h1 h2] at hx;rcases C b x k hx with D|D
  .rw[t b h1] at D;cases D
  exact D
 .have⟨o,ho,G⟩:=y p hp;have⟨x,k,o',s,p2,p3⟩:=s2.ob _ _ ho;exact⟨x,k,o',a _ _ ho _ _ s,p2,G.or (p3.mono hle)⟩
 have⟨o,ho,_⟩:=y p hp;have⟨J,n,_⟩:=y q g;have⟨x1,k1,_,s,_⟩:=s2.ob _ _ ho;have⟨N,T,_,p2,_⟩:=s2.ob _ _ n;have g1:=a _ _ ho _ _ s;have M:=a _ _ n _ _ p2;rw[hx] at g1;rw[hy] at M;cases g1;cases M;exact s2.inj _ _ _ _ _ (by rw[ho];rfl) (by rw[n];rfl) s p2
def onto:List (Nat×Ob)->T Ob->T Ob
|[],t=>t
|(b,o)::l,t=>T.put T.deep (onto l t) b (some o)
theorem NT{t:T Ob}{b:Nat}:∀{l:List (Nat×Ob)},(∀p∈l,p.1<top)->(∀p∈l,p.1≠b)->(onto l t).get b=t.get b
|[],_,_=>rfl
|(c,o)::l,ht,hn=>by rw[onto,T.get_put _ _ _ _ _ (df (ht (c,o) (by simp))),aU (uJ (hn (c,o) (by simp)))];exact NT (fun p hp=>ht p (by simp[hp])) fun p hp=>hn p (by simp[hp])
theorem wM{t:T Ob}{b:Nat}{o:Ob}:∀{l:List (Nat×Ob)},(∀p∈l,p.1<top)->(onto l t).get b=some o->(b,o)∈l\/(t.get b=some o)
|[],_,h=>.inr h
|(c,a)::l,ht,h=>by
 rw[onto,T.get_put _ _ _ _ _ (df (ht (c,a) (by simp)))] at h;split at h
 .rename_i e;cases h;subst e;exact .inl (by simp)
 exact(wM (fun p hp=>ht p (by simp[hp])) h).imp (fun h=>by simp[h]) id
theorem nG.does{f args kn nx v mk nx'}(G:nG P f args kn nx v mk nx')(ht:∀p∈kn,p.1<top)(hm:∀p∈mk,p.1<top/\nx<=p.1/\p.1<nx'){h}(hn:h.next<=nx)(hk:∀p∈kn,∃o,h.get p.1=some o/\o.Le p.2):dF P f args h v ⟨onto mk h.t,nx',List.range' nx (nx'-nx)++h.log⟩:=by
 have⟨A,⟨fn,c,F,E,D⟩,hc⟩:=G;refine dF.NY (bM hn A) F E D fun{ρ m w} ha hr hu=>?_;have hu:=hu;have r:HR ρ ⟨ofList kn,0,[]⟩ w:=⟨hr.fD,fun b o hb=>by
  have⟨o1,h1,h2⟩:=hk (b,o) (gY ht hb);have⟨x,k,o',n,K,J⟩:=hr.ob b o1 h1;exact⟨x,k,o',n,K,h2.or J⟩,fun b c x k l hb z hx hy=>by
  have⟨ob,j⟩:=gQ.1 hb;have⟨oc,u⟩:=gQ.1 z;have⟨o1,h1,_⟩:=hk _ (gY ht j);have⟨o2,h2,_⟩:=hk _ (gY ht u);exact hr.inj b c x k l (by rw[h1];rfl) (by rw[h2];rfl) hx hy⟩
 have i:∀p∈mk,p.1<top:=fun p hp=>(hm p hp).1;have a:∀b,b∈List.range' nx (nx'-nx)↔nx<=b/\b<nx':=fun b=>by rw[BC];omega
 refine(hc ρ m w ha r (hu.sub hn (aA _))).mono ?_;rintro e w' ⟨v',ρ',rfl,s1,s2,s3,s4,s5,C,B⟩;have H:∀b o,h.get b=some o->b<nx\/nx'<=b:=fun b o hb=>by
  have⟨x,k,o',n,_⟩:=hr.ob b o hb;by_cases h1:nx<=b/\b<nx'
  .rw[hu b (bM hn h1.1) h1.2] at n;cases n
  omega
 have I:Le ρ ρ':=fun b=>by
  by_cases h1:nx<=b/\b<nx'
  .exact .inl (hu b (bM hn h1.1) h1.2)
  exact .inr (.inl (s3 b (by omega)))
 refine⟨v',ρ',rfl,⟨I,bM hn A,fun b hb hx=>?_,?_,List.range' nx _,rfl,fun x o hx _=>s2 x o hx,fun b x k hb=>?_,fun b hb=>?_,fun b hb=>?_,fun b hb _=>?_⟩,⟨s1,fun b o hb=>?_,fun b d x k l hb hd hx hy=>?_⟩,s5⟩
 .rw[s3 b (by have hx:b<h.next\/nx'<=b:=hx;omega)];exact hb
 .rcases uu w.heap.size with h0|h0
  .omega
  have y:w.heap.size-1<w.heap.size:=by omega
  have:=s2 _ _ (gu y);have:=(aP.1 this).1;omega
 .by_cases h1:nx<=b/\b<nx'
  .exact .inr ⟨hu b (bM hn h1.1) h1.2,.inl (s4 b x k h1.1 h1.2 hb)⟩
  rw[s3 b (by omega)] at hb;exact .inl hb
 .have:=(a b).1 hb;exact .inr ⟨by omega,this.2⟩
 .exact NT i fun p hp e=>hb ((a b).2 (by have:=hm p hp;omega))
 .exact s3 b (by have:¬_:=fun h1=>hb ((a b).2 h1);omega)
 .rcases wM i hb with h1|h1
  .exact C (b,o) h1
  have⟨x,k,o',n,K,J⟩:=hr.ob b o h1;exact⟨x,k,o',by rw[s3 b (H b o h1)];exact n,s2 x o' K,J.mono I⟩
 have⟨ob,j⟩:=gQ.1 hb;have⟨q,s⟩:=gQ.1 hd;have g:∀b o x k,h.get b=some o->ρ' b=.at_ x k->ρ b=.at_ x k/\x<w.heap.size:=fun b o x k hb hx=>by rw[s3 b (H b o hb)] at hx;exact⟨hx,hr.lt hb hx⟩
 rcases wM i j with h1|h1<;>rcases wM i s with h2|h2
 .exact B _ h1 _ h2 x k l hx hy
 .have g1:=hm _ h1;have:=s4 b x k g1.2.1 g1.2.2 hx;have:=(g d q x l h2 hy).2;omega
 .have g1:=hm _ h2;have:=s4 d x l g1.2.1 g1.2.2 hy;have:=(g b ob x k h1 hx).2;omega
 have h1:h.get b=some ob:=h1;have h2:h.get d=some q:=h2;exact hr.inj b d x k l (by rw[h1];rfl) (by rw[h2];rfl) (g b ob x k h1 hx).1 (g d q x l h2 hy).1
structure Made where
 f:aI
 args:List ae
 kn:List (Nat×Ob)
 nx:Nat
 v:ae
 born:List (Nat×Ob)
 nx':Nat
def Made.ok(P:aH)(e:Made):Prop:=nG P e.f e.args e.kn e.nx e.v e.born e.nx'/\(e.kn.all (fun p=>Nat.blt p.1 top)&&e.born.all (fun p=>Nat.blt p.1 top&&Nat.ble e.nx p.1&&Nat.blt p.1 e.nx'))=true
def ahD(e:Made)(f:aI)(args:List ae)(h:H):Bool:=match Nat.beq e.f f with
|true=>match Nat.ble h.next e.nx with
 |true=>match qC e.args args with
  |true=>e.kn.all fun p=>match h.get p.1 with
   |some o=>Uh o p.2
   |none=>false
  |false=>false
 |false=>false
|false=>false
def aef(f:aI)(args:List ae)(h:H):List Made->aB (aB (ae×H))
|[]=>none
|e::es=>match ahD e f args h with
 |true=>some (some (e.v,⟨onto e.born h.t,e.nx',List.range' e.nx (e.nx'-e.nx)++h.log⟩))
 |false=>aef f args h es
def madeOf(es:List Made):aI->List ae->H->aB (aB (ae×H)):=fun f args h=>aef f args h es
theorem abA{es}(h:∀e∈es,e.ok P):fE P (madeOf es):=by
 intro f args h0 v h' hf;unfold madeOf at hf;induction es with
 |nil=>cases hf
 |cons e es ih=>
 simp[aef] at hf;split at hf
 .rename_i a;obtain⟨rfl,rfl⟩:=hf;unfold ahD at a
  split at a;case h_2=>cases a
  rename_i h1;split at a;case h_2=>cases a
  rename_i h2;split at a;case h_2=>cases a
  rename_i c;have⟨b,ht⟩:=h e (by simp);simp only[aT] at ht;obtain rfl:=bG h1;obtain rfl:=iY c;refine b.does (fun p hp=>by have:=bZ.1 ht.1 p hp;simpa[ik] using this) (fun p hp=>by
   have:=bZ.1 ht.2 p hp;simp only[aT,ik] at this;exact⟨this.1.1,iF this.1.2,this.2⟩) (iF h2) fun p hp=>by
    have:=bZ.1 a p hp
    split at this
    .rename_i o ho;exact⟨o,ho,Bf this⟩
    cases this
 exact ih (fun e he=>h e (by simp[he])) hf
theorem OR.ah0{ρ k c e z o}(h:OR ρ k (.cells c.flatten e (some z)) o):OR ρ k (.qO c e z) o:=by have⟨d,r,h1,h2,_,g⟩:=h;have⟨f,b,a⟩:=g z rfl;exact⟨c,d,r,.refl _,h1,h2,f,b,a⟩
theorem OR.Vx{ρ k c c' e z o}(hp:c.Perm c')(h:OR ρ k (.qO c e z) o):OR ρ k (.qO c' e z) o:=by have⟨p,d,r,h1,h2⟩:=h;exact⟨p,d,r,hp.symm.trans h1,h2⟩
theorem Stp.VD{ρ ρ' h h' h2 w w'}(s:Stp ρ h w ρ' h' w'){l L}(hl:h'.log=l++h.log)(p:h2.log=L++h.log)(hn:h'.next<=h2.next)(a:∀b∈l,b∈L)(i:∀b∈L,(h.get b).isSome=true\/(h.next<=b/\b<h2.next))(d:∀b,b∉L->h2.get b=h.get b):Stp ρ h w ρ' h2 w':=by
 have⟨l0,e,f,o,t,g,k⟩:=s.log;obtain rfl:=Sl (e.symm.trans hl);refine⟨s.le,bM s.next hn,fun b hb hx=>s.born b hb (hx.imp id fun h=>bM hn h),s.size,L,p,fun x j hx hm=>f x j hx fun b m hb=>hm b m (a b hb),fun b x m hb=>?_,i,d,fun b hb=>k b fun h=>hb (a b h)⟩;rcases o b x m hb with h|⟨h,h'|⟨c,z,hc,n⟩⟩
 .exact .inl h
 .exact .inr ⟨h,.inl h'⟩
 exact .inr ⟨h,.inr ⟨c,z,a c hc,n⟩⟩
theorem Stp.EO{ρ ρ' t nx h' w w'}(s:Stp ρ ⟨t,nx,[]⟩ w ρ' h' w')(L):Stp ρ ⟨t,nx,L⟩ w ρ' ⟨h'.t,h'.next,h'.log++L⟩ w':=by
 have⟨a,e,f,o,t',g,k⟩:=s.log;have e:h'.log=a:=by rw[e];exact o9 a
 subst e;exact⟨s.le,s.next,s.born,s.size,h'.log,rfl,f,o,t',g,k⟩
theorem Stp.aij{ρ ρ' t nx L h' w w'}(s:Stp ρ ⟨t,nx,L⟩ w ρ' h' w'){l}(hl:h'.log=l++L):Stp ρ ⟨t,nx,[]⟩ w ρ' ⟨h'.t,h'.next,l⟩ w':=by have⟨a,e,f,o,t',g,k⟩:=s.log;obtain rfl:=Sl (e.symm.trans hl);exact⟨s.le,s.next,s.born,s.size,a,by simp,f,o,t',g,k⟩
theorem HR.EO{ρ t nx nx' l l' w}(h:HR ρ ⟨t,nx,l⟩ w):HR ρ ⟨t,nx',l'⟩ w:=⟨h.fD,h.ob,h.inj⟩
def yK:List (Nat×Ob)->T Ob->T Ob
|[],t=>t
|p::ms,t=>T.put T.deep (yK ms t) p.1 (some p.2)
theorem Oj{ms}(ht:∀p∈ms,p.1<top){t b o}(h:(yK ms t).get b=some o):(b,o)∈ms\/((∀p∈ms,p.1≠b)/\t.get b=some o):=by
 induction ms with
 |nil=>exact .inr ⟨fun _ h=>by simp at h,h⟩
 |cons p ms c=>
 rw[yK,T.get_put _ _ _ _ _ (df (ht p (by simp)))] at h;split at h
 .rename_i e;cases h;subst e;exact .inl (by simp)
 rename_i e;rcases c (fun q a=>ht q (by simp[a])) h with h1|⟨h1,h2⟩
 .exact .inl (by simp[h1])
 exact .inr ⟨fun q a=>by
  rcases dW.1 a with rfl|a
  .exact fun d=>e d.symm
  exact h1 q a,h2⟩
theorem Oi{ms}(ht:∀p∈ms,p.1<top){t b}(h:∀p∈ms,p.1≠b):(yK ms t).get b=t.get b:=by
 induction ms with
 |nil=>rfl
 |cons p ms c=>
 rw[yK,T.get_put _ _ _ _ _ (df (ht p (by simp))),aU fun e=>h p (by simp) e.symm];exact c (fun q a=>ht q (by simp[a])) fun q a=>h q (by simp[a])
def Ob.Leq(o p:Ob):Prop:=∀ρ k x,OR ρ k o x->OR ρ k p x
theorem Ob.Leq.refl(o:Ob):o.Leq o:=fun _ _ _ h=>h
theorem HR.ajX{ρ ρ0 h0 h w0 w TB ms nx hi}(hr:HR ρ h w)(ht:∀p∈ms,p.1<top)(n:∀p∈ms,∃o,h.get p.1=some o/\o.Leq p.2)(r:∀b∈TB,∃p∈ms,p.1=b)(i:HR ρ0 h0 w0)(g:lK ρ0 h0.next hi)(y:nx<=hi)(a:∀b,b∉TB->(b<h0.next\/nx<=b)->h.get b=h0.get b):HR ρ ⟨yK ms h0.t,nx,TB++List.range' h0.next (nx-h0.next)⟩ w:=by
 have key:∀b o,(yK ms h0.t).get b=some o->∃o1,h.get b=some o1/\o1.Leq o:=fun b o hb=>by
  rcases Oj ht hb with h1|⟨h1,h2⟩
  .exact n _ h1
  have d:=h2;refine⟨o,?_,.refl o⟩;rw[a b (fun z=>by have⟨p,hp,e⟩:=r b z;exact h1 p hp e) ?_]
  .exact d
  have⟨x,k,o',f,_⟩:=i.ob b o d;by_cases q:h0.next<=b/\b<nx
  .rw[g b q.1 (by omega)] at f;cases f
  omega
 refine⟨hr.fD,fun b o hb=>?_,fun b c x k l hb hc hx hy=>?_⟩
 .have⟨o1,h1,h2⟩:=key b o hb;have⟨x,k,o',f,u,s⟩:=hr.ob b o1 h1;exact⟨x,k,o',f,u,h2 _ _ _ s⟩
 have⟨ob,m⟩:=gQ.1 hb;have⟨v,j⟩:=gQ.1 hc;have⟨o1,h1,_⟩:=key b ob m;have⟨o2,h2,_⟩:=key c v j;exact hr.inj b c x k l (by rw[h1];rfl) (by rw[h2];rfl) hx hy
structure Cst where
 ms:List (Nat×Ob)
 nx:Nat
 t:T ae
def Cst.h(s:Cst)(h0:H)(TB:List Nat):H:=⟨yK s.ms h0.t,s.nx,TB++List.range' h0.next (s.nx-h0.next)⟩
def Cst.h0(s:Cst)(h0:H):H:=⟨yK s.ms h0.t,s.nx,[]⟩
def Cst.okB(s:Cst)(h0:H)(TB:List Nat):Bool:=(s.ms.all fun p=>Nat.blt p.1 top&&(TB.any (fun b=>Nat.beq b p.1)||(Nat.ble h0.next p.1&&Nat.blt p.1 s.nx)))&&(TB.all fun b=>(h0.get b).isSome&&s.ms.any fun p=>Nat.beq p.1 b)&&Nat.ble h0.next s.nx
structure Cst.OK(s:Cst)(h0:H)(TB:List Nat):Prop where
 low:∀p∈s.ms,p.1<top
 mem:∀p∈s.ms,p.1∈TB\/(h0.next<=p.1/\p.1<s.nx)
 known:∀b∈TB,(h0.get b).isSome=true
 told:∀b∈TB,∃p∈s.ms,p.1=b
 next:h0.next<=s.nx
theorem Cst.aht{s:Cst}{h0 TB}(h:s.okB h0 TB=true):s.OK h0 TB:=by
 unfold Cst.okB at h;simp only[aT] at h;have⟨⟨h1,h2⟩,a⟩:=h;refine⟨fun p hp=>?_,fun p hp=>?_,fun b hb=>?_,fun b hb=>?_,iF a⟩
 .have:=bZ.1 h1 p hp;simp[aT,ik] at this;exact this.1
 .have:=bZ.1 h1 p hp;simp only[aT,UN,ik] at this;rcases this.2 with h|h
  .have⟨b,hb,e⟩:=jA.1 h;rw[<-bG e];exact .inl hb
  exact .inr ⟨iF h.1,h.2⟩
 .have:=bZ.1 h2 b hb;simp[aT] at this;exact this.1
 have:=bZ.1 h2 b hb;simp only[aT] at this;have⟨p,hp,e⟩:=jA.1 this.2;exact⟨p,hp,bG e⟩
def Cst.E8(leq:Ob->Ob->Bool)(s':Cst)(h0:H)(TB:List Nat)(h':H):Bool:=
 (s'.ms.all fun p=>match h'.get p.1 with
  |some o=>leq o p.2
  |none=>false)&&(h'.log.all fun b=>TB.any (fun c=>Nat.beq c b)||(Nat.ble h0.next b&&Nat.blt b h'.next))&&Nat.ble h'.next s'.nx
structure Cst.IQ(s':Cst)(h0:H)(TB:List Nat)(h':H):Prop where
 ms:∀p∈s'.ms,∃o,h'.get p.1=some o/\o.Leq p.2
 log:∀b∈h'.log,b∈TB\/(h0.next<=b/\b<h'.next)
 next:h'.next<=s'.nx
theorem Cst.vS{leq}(hl:∀o p,leq o p=true->o.Leq p){s':Cst}{h0 TB h'}(h:s'.E8 leq h0 TB h'=true):s'.IQ h0 TB h':=by
 unfold Cst.E8 at h;simp only[aT] at h;have⟨⟨h1,h2⟩,a⟩:=h;refine⟨fun p hp=>?_,fun b hb=>?_,iF a⟩
 .have:=bZ.1 h1 p hp
  split at this
  .rename_i o ho;exact⟨o,ho,hl _ _ this⟩
  cases this
 have:=bZ.1 h2 b hb;simp only[UN,aT,ik] at this;rcases this with h|h
 .have⟨c,hc,e⟩:=jA.1 h;rw[<-bG e];exact .inl hc
 exact .inr ⟨iF h.1,h.2⟩
structure Cst.At(s:Cst)(ρ0:jV)(h0:H)(w0:ay)(TB:List Nat)(ρ:jV)(w:ay):Prop where
 stp:Stp ρ0 ⟨h0.t,h0.next,[]⟩ w0 ρ (s.h h0 TB) w
 hr:HR ρ (s.h0 h0) w
theorem Cst.ve{s:Cst}{h0:H}{TB b}(hn:h0.next<=s.nx):b∈TB++List.range' h0.next (s.nx-h0.next)↔b∈TB\/(h0.next<=b/\b<s.nx):=by
 rw[pY,BC];constructor
 .exact Or.imp id fun h=>by omega
 exact Or.imp id fun h=>by omega
theorem Cst.rJ{s:Cst}{h0 TB}(ok:s.OK h0 TB){b}(hb:b∉TB)(hx:b<h0.next\/s.nx<=b):(yK s.ms h0.t).get b=h0.t.get b:=
 Oi ok.low fun p hp e=>by
  subst e;rcases ok.mem p hp with h|h
  .exact hb h
  omega
theorem Cst.At.step{s s':Cst}{ρ0 ρ ρ' h0 h' w0 w w' TB hi}(A:s.At ρ0 h0 w0 TB ρ w)(ok:s.OK h0 TB)(a:s'.OK h0 TB)(i:HR ρ0 h0 w0)(hu:lK ρ0 h0.next hi)(j:s'.nx<=hi)(st:Stp ρ (s.h0 h0) w ρ' h' w')(hr:HR ρ' h' w')(c:s'.IQ h0 TB h'):s'.At ρ0 h0 w0 TB ρ' w':=by
 have n1:s.nx<=h'.next:=st.next;have k:∃l,h'.log=l/\∀b,b∉l->h'.get b=(s.h0 h0).get b:=by have⟨l,e,_,_,_,g,_⟩:=st.log;exact⟨l,by rw[e];exact o9 l,g⟩
 have⟨l,k,m⟩:=k;have d:∀b,b∉TB->(b<h0.next\/s'.nx<=b)->h'.get b=h0.get b:=fun b hb hx=>by
  rw[m b fun hl=>?_]
  .exact Cst.rJ ok hb (by have:=c.next;omega)
  rcases c.log b (by rw[k];exact hl) with h|h
  .exact hb h
  have:=c.next;omega
 refine⟨?_,(hr.ajX a.low c.ms a.told i hu j d).EO⟩;have B:=st.EO (TB++List.range' h0.next (s.nx-h0.next));have T:=A.stp.trans B;refine T.VD (l:=h'.log++(TB++List.range' h0.next (s.nx-h0.next))) (L:=TB++List.range' h0.next (s'.nx-h0.next)) (by simp) (by simp[Cst.h]) c.next (fun b hb=>?_) (fun b hb=>?_) fun b hb=>?_
 .rw[Cst.ve a.next];have:=c.next;rcases pY.1 hb with h|h
  .rcases c.log b h with h|h
   .exact .inl h
   exact .inr (by omega)
  rcases(Cst.ve ok.next).1 h with h|h
  .exact .inl h
  exact .inr (by omega)
 .rcases(Cst.ve a.next).1 hb with h|h
  .exact .inl (a.known b h)
  exact .inr h
 have f:¬_:=fun h=>hb ((Cst.ve a.next).2 h);exact Cst.rJ a (fun h=>f (.inl h)) (by
  by_cases h:h0.next<=b/\b<s'.nx
  .exact absurd (.inr h) f
  omega)
theorem Cst.IQ.known{s s':Cst}{ρ0 ρ ρ' h0 h' w0 w w' TB hi}(i:s'.IQ h0 TB h')(ok:s.OK h0 TB)(a:s'.OK h0 TB)(j:HR ρ0 h0 w0)(hu:lK ρ0 h0.next hi)(n:s'.nx<=hi)(st:Stp ρ (s.h0 h0) w ρ' h' w'):∀b,((s'.h0 h0).get b).isSome=true->(h'.get b).isSome=true:=fun b hb=>by
 have⟨o,ho⟩:=gQ.1 hb;have ho:=ho;rcases Oj a.low ho with h1|⟨h1,h2⟩
 .have⟨o1,d,_⟩:=i.ms _ h1;rw[d];rfl
 have c:h0.get b=some o:=h2;have f:b∉TB:=fun f=>by have⟨p,hp,e⟩:=a.told b f;exact h1 p hp e
 have⟨x,k,o',d,_⟩:=j.ob b o c;have hx:b<h0.next\/s'.nx<=b:=by
  by_cases m:h0.next<=b/\b<s'.nx
  .rw[hu b m.1 (by omega)] at d;cases d
  omega
 have⟨l,e,_,_,_,g,_⟩:=st.log;have q:h'.log=l:=by rw[e];exact o9 l
 have n1:s.nx<=h'.next:=st.next;have n2:=i.next;rw[g b fun hl=>?_]
 .have:=Cst.rJ ok f (show b<h0.next\/s.nx<=b by omega);have this:(s.h0 h0).get b=h0.get b:=this;rw[this,c];rfl
 rcases i.log b (by rw[q];exact hl) with h|h
 .exact f h
 omega
theorem Cst.At.start{s':Cst}{ρ0 ρ h0 h' w0 w TB hi}(a:s'.OK h0 TB)(i:HR ρ0 h0 w0)(hu:lK ρ0 h0.next hi)(j:s'.nx<=hi)(st:Stp ρ0 ⟨h0.t,h0.next,[]⟩ w0 ρ h' w)(hr:HR ρ h' w)(c:s'.IQ h0 TB h'):s'.At ρ0 h0 w0 TB ρ w:=by
 have⟨l,e,_,_,_,g,_⟩:=id st.log;have k:h'.log=l:=by rw[e];exact o9 l
 have d:∀b,b∉TB->(b<h0.next\/s'.nx<=b)->h'.get b=h0.get b:=fun b hb hx=>g b fun hl=>by
  rcases c.log b (by rw[k];exact hl) with h|h
  .exact hb h
  have:=c.next;omega
 refine⟨?_,(hr.ajX a.low c.ms a.told i hu j d).EO⟩;refine st.VD (l:=h'.log) (L:=TB++List.range' h0.next (s'.nx-h0.next)) (by simp) (by simp[Cst.h]) c.next (fun b hb=>?_) (fun b hb=>?_) fun b hb=>?_
 .rw[Cst.ve a.next];have:=c.next;rcases c.log b hb with h|h
  .exact .inl h
  exact .inr (by omega)
 .rcases(Cst.ve a.next).1 hb with h|h
  .exact .inl (a.known b h)
  exact .inr h
 have f:¬_:=fun h=>hb ((Cst.ve a.next).2 h);exact Cst.rJ a (fun h=>f (.inl h)) (by
  by_cases h:h0.next<=b/\b<s'.nx
  .exact absurd (.inr h) f
  omega)
theorem Cst.At.unb{s:Cst}{ρ0 ρ h0 w0 w TB hi}(A:s.At ρ0 h0 w0 TB ρ w)(ok:s.OK h0 TB)(hu:lK ρ0 h0.next hi):lK ρ s.nx hi:=fun b h1 h2=>A.stp.born b (hu b (bM ok.next h1) h2) (.inr h1)
end
def mZ:fH->fH->Bool
|.tmp a,y=>match y with|.tmp b=>Nat.beq a b|_=>false
|.const v,y=>match y with|.const u=>Be v u|_=>false
|.global a,y=>match y with|.global b=>Nat.beq a b|_=>false
|.func a,y=>match y with|.func b=>Nat.beq a b|_=>false
def lS{x y}(h:mZ x y=true):x=y:=by cases x<;>cases y<;>simp only[mZ] at h<;>first|(cases h;done)|(rw[bG h])|(rw[lY h])
def eqL{α:Type}(f:α->α->Bool):List α->List α->Bool
|[],m=>match m with | []=>true|_=>false
|a::l,m=>match m with|b::m=>f a b&&eqL f l m | []=>false
def aep{α:Type}{f:α->α->Bool}(hf:∀a b,f a b=true->a=b):∀{l m:List α},eqL f l m=true->l=m
|[],m,h=>by cases m<;>simp[eqL] at h;rfl
|a::l,m,h=>by
 cases m with
 |nil=>simp[eqL] at h
 |cons b m=>
 simp only[eqL,aT] at h;rw[hf _ _ h.1,aep hf h.2]
def YJ{α:Type}(f:α->α->Bool)(a b:Array α):Bool:=eqL f a.toList b.toList
def Et{α:Type}{f}(hf:∀a b,f a b=true->a=b){a b:Array α}(h:YJ f a b=true):a=b:=by apply tV;exact aep hf h
def YE(x y:Nat×fH):Bool:=Nat.beq x.1 y.1&&mZ x.2 y.2
def abV(x y)(h:YE x y=true):x=y:=by unfold YE at h;simp only[aT] at h;exact Prod.ext (bG h.1) (lS h.2)
def Jp(a b)(h:Nat.beq a b=true):a=b:=bG h
def OV:Callee->Callee->Bool
|.value f,y=>match y with|.value g=>mZ f g|_=>false
|.builtin .append,y=>match y with|.builtin .append=>true|_=>false
|.builtin .len,y=>match y with|.builtin .len=>true|_=>false
|_,_=>false
def WM{x y}(h:OV x y=true):x=y:=by
 unfold OV at h;split at h
 .split at h
  .rw[lS h]
  cases h
 .split at h
  .rfl
  cases h
 .split at h
  .rfl
  cases h
 cases h
def YI(x y:Call):Bool:=OV x.callee y.callee&&YJ mZ x.args y.args&&YJ Nat.beq x.argTypes y.argTypes
def abZ{x y}(h:YI x y=true):x=y:=by have⟨a,b,c⟩:=x;have⟨a',b',c'⟩:=y;unfold YI at h;simp[aT] at h;rw[WM h.1.1,Et (fun _ _=>lS) h.1.2,Et Jp h.2]
def aiN:Op->Op->Bool
|.move x,o=>match o with|.move y=>mZ x y|_=>false
|.assign x,o=>match o with|.assign y=>mZ x y|_=>false
|.alloc t,o=>match o with|.alloc u=>Nat.beq t u|_=>false
|.box t x,o=>match o with|.box u y=>Nat.beq t u&&mZ x y|_=>false
|.buildSlice t n ps,o=>match o with|.buildSlice u m qs=>Nat.beq t u&&Nat.beq n m&&YJ YE ps qs|_=>false
|.load t x,o=>match o with|.load u y=>Nat.beq t u&&mZ x y|_=>false
|.store t x v,o=>match o with|.store u y w=>Nat.beq t u&&mZ x y&&mZ v w|_=>false
|.extract x i,o=>match o with|.extract y j=>mZ x y&&Nat.beq i j|_=>false
|.fieldAddr t x i,o=>match o with|.fieldAddr u y j=>Nat.beq t u&&mZ x y&&Nat.beq i j|_=>false
|.field t x i,o=>match o with|.field u y j=>Nat.beq t u&&mZ x y&&Nat.beq i j|_=>false
|.indexAddr t x i,o=>match o with|.indexAddr u y j=>Nat.beq t u&&mZ x y&&mZ i j|_=>false
|.call c,o=>match o with|.call d=>YI c d|_=>false
|_,_=>false
def agK{x y}(h:aiN x y=true):x=y:=by
 cases x<;>simp[aiN] at h<;>try (cases h;done)
 all_goals
  split at h
  .try simp only[aT] at h
   first
    |rw[lS h]
    |rw[bG h]
    |rw[abZ h]
    |rw[bG h.1,lS h.2]
    |rw[lS h.1,bG h.2]
    |rw[bG h.1.1,bG h.1.2,Et abV h.2]
    |rw[bG h.1.1,lS h.1.2,lS h.2]
    |rw[bG h.1.1,lS h.1.2,bG h.2]
  cases h
def YH(x y:Edge):Bool:=Nat.beq x.on y.on&&decide (x.ground=y.ground)
def abY(x y)(h:YH x y=true):x=y:=by have⟨a,b⟩:=x;have⟨c,d⟩:=y;unfold YH at h;simp only[aT,J4] at h;obtain⟨h1,rfl⟩:=h;rw[bG h1]
def eqGuard:aB (Nat×Bool)->aB (Nat×Bool)->Bool
|none,y=>match y with|none=>true|some _=>false
|some (a,b),y=>match y with|some (c,d)=>Nat.beq a c&&(b==d)|none=>false
def YG{x y}(h:eqGuard x y=true):x=y:=by
 unfold eqGuard at h;split at h
 .split at h
  .rfl
  cases h
 split at h
 .simp only[aT,BV] at h;obtain⟨h1,rfl⟩:=h;rw[bG h1]
 cases h
def YF(x y:bn):Bool:=abX x.dst y.dst&&aiN x.op y.op&&Nat.beq x.type y.type&&decide (x.pos=y.pos)&&YJ YH x.after y.after&&eqGuard x.guard y.guard
def abW(x y)(h:YF x y=true):x=y:=by have⟨a1,a2,a3,a4,a5,a6⟩:=x;have⟨b1,b2,b3,b4,b5,b6⟩:=y;unfold YF at h;simp only[aT,J4] at h;obtain⟨⟨⟨⟨⟨h1,h2⟩,c⟩,rfl⟩,b⟩,a⟩:=h;rw[Mc h1,agK h2,bG c,Et abY b,YG a]
def jR:Code->Code->Bool
|.skip,d=>match d with|.skip=>true|_=>false
|.ret,d=>match d with|.ret=>true|_=>false
|.exit i,d=>match d with|.exit j=>Nat.beq i j|_=>false
|.region i ops b,d=>match d with|.region j ops' b'=>Nat.beq i j&&YJ YF ops ops'&&(b==b')|_=>false
|.seq a b,d=>match d with|.seq a' b'=>jR a a'&&jR b b'|_=>false
|.cond c a b,d=>match d with|.cond c' a' b'=>mZ c c'&&jR a a'&&jR b b'|_=>false
|.block i a,d=>match d with|.block j b=>Nat.beq i j&&jR a b|_=>false
|_,_=>false
def rM:∀{x y:Code},jR x y=true->x=y
|.skip,y,h=>by cases y<;>simp[jR] at h;rfl
|.ret,y,h=>by cases y<;>simp[jR] at h;rfl
|.exit i,y,h=>by cases y<;>simp[jR] at h;rw[h]
|.region i ops b,y,h=>by
 cases y<;>simp only[jR] at h<;>try (cases h;done)
 simp only[aT,BV] at h;obtain⟨⟨h1,h2⟩,rfl⟩:=h;rw[bG h1,Et abW h2]
|.seq a b,y,h=>by
 cases y<;>simp only[jR] at h<;>try (cases h;done)
 simp only[aT] at h;rw[rM h.1,rM h.2]
|.cond c a b,y,h=>by
 cases y<;>simp only[jR] at h<;>try (cases h;done)
 simp only[aT] at h;rw[lS h.1.1,rM h.1.2,rM h.2]
|.block i a,y,h=>by
 cases y<;>simp only[jR] at h<;>try (cases h;done)
 simp only[aT] at h;rw[bG h.1,rM h.2]
|.loop _,_,h=>by simp[jR] at h
|.rangeFunc ..,_,h=>by simp[jR] at h
|.scope _,_,h=>by simp[jR] at h
|.label _,_,h=>by simp[jR] at h
|.goto _,_,h=>by simp[jR] at h
|.refuse _,_,h=>by simp[jR] at h
def lU{α β:Type}(f:α->β->Bool):T α->T β->Bool
|_,.nil=>true
|t,.node v l r=>(match v with
 |none=>true
 |some b=>match t.val? with
  |some a=>f a b
  |none=>false)&&lU f t.left l&&lU f t.right r
def Fa{α β:Type}{f:α->β->Bool}:∀{t:T α} {u:T β} {k:Nat} {b:β},lU f t u=true->u.get k=some b->∃a,t.get k=some a/\f a b=true
|_,.nil,k,b,_,h=>by cases h
|t,.node v l r,0,b,h,hb=>by
 simp only[lU,aT] at h;have hb:v=some b:=hb;subst hb;have:=h.1.1;simp only at this;split at this
 .rename_i a ha;exact⟨a,by rw[T.wY];exact ha,this⟩
 cases this
|t,.node v l r,n+1,b,h,hb=>by
 simp only[lU,aT] at h;rcases Y2 n with hn|hn
 .rw[T.mX _ _ hn] at hb;have⟨a,h1,h2⟩:=Fa h.1.2 hb;exact⟨a,by rw[T.mX _ _ hn];exact h1,h2⟩
 rw[T.qB _ _ hn] at hb;have⟨a,h1,h2⟩:=Fa h.2 hb;exact⟨a,by rw[T.qB _ _ hn];exact h1,h2⟩
def TR.lU{ρ:jV}{n:Nat}{t u:T ae}{a:Array ae}(h:TR ρ n t a)(e:lU Be t u=true):TR ρ n u a:=⟨h.size,fun i v b=>by have⟨v',h1,h2⟩:=Fa e b;obtain rfl:=lY h2;exact h.get i _ h1⟩
def T.meet{α β:Type}:T α->T β->T α
|.nil,_=>.nil
|.node v l r,t=>.node (match t.val? with|some _=>v|none=>none) (T.meet l t.left) (T.meet r t.right)
def takeB{α:Type}(f:α->α->Bool)(a:α):List α->aB (List α)
|[]=>none
|b::l=>match f b a with
 |true=>some l
 |false=>match takeB f a l with
  |some r=>some (b::r)
  |none=>none
def MO{α:Type}{f:α->α->Bool}(hf:∀a b,f a b=true->a=b){a:α}:∀{l r:List α},takeB f a l=some r->l.Perm (a::r)
|[],r,h=>by cases h
|b::l,r,h=>by
 simp only[takeB] at h;split at h
 .rename_i e;cases h;rw[hf _ _ e]
 split at h
 .rename_i r' e;cases h;exact(List.Perm.cons b (MO hf e)).trans (List.Perm.swap a b r')
 cases h
def BL{α:Type}(f:α->α->Bool):List α->List α->Bool
|l,[]=>match l with | []=>true|_=>false
|l,a::m=>match takeB f a l with
 |some r=>BL f r m
 |none=>false
def oQ{α:Type}{f:α->α->Bool}(hf:∀a b,f a b=true->a=b):∀{l m:List α},BL f l m=true->l.Perm m
|l,[],h=>by cases l<;>simp[BL] at h;exact .refl _
|l,a::m,h=>by
 simp only[BL] at h;split at h
 .rename_i r e;exact(MO hf e).trans (.cons a (oQ hf h))
 cases h
def Dt(a b)(h:qC a b=true):a=b:=iY h
def aiM:LoopState->LoopState->Bool
|.ready,y=>match y with|.ready=>true|_=>false
|.busy,y=>match y with|.busy=>true|_=>false
|_,_=>false
def agJ{x y}(h:aiM x y=true):x=y:=by cases x<;>cases y<;>simp[aiM] at h<;>rfl
def Yh:Ob->Ob->Bool
|.half c q e z,p=>match p with
 |.half c' q' e' z'=>qC c c'&&BL qC q q'&&Nat.beq e e'&&Nat.beq z z'
 |.cells c' e' (some z')=>qC c c'&&(match q with | []=>true|_=>false)&&Nat.beq e e'&&Nat.beq z z'
 |.qO c' e' z'=>(match c with | []=>true|_=>false)&&BL qC q c'&&Nat.beq e e'&&Nat.beq z z'
 |_=>false
|.qO c e z,p=>match p with
 |.qO c' e' z'=>BL qC c c'&&Nat.beq e e'&&Nat.beq z z'
 |_=>false
|.loop s j f t n ps as b d,p=>match p with
 |.loop s' j' f' t' n' ps' as' b' d'=>aiM s s'&&(match j,j' with|none,none=>true|_,_=>false)&&Nat.beq f f'&&lU Be t t'&&Nat.beq n n'&&YJ Nat.beq ps ps'&&jR as as'&&jR b b'&&Nat.beq d d'
 |_=>false
|.calls a,p=>match p with|.calls b=>a==b|_=>false
|.cells c e s,p=>match p with
 |.qO c' e' z'=>(match s with|some z=>qC c c'.flatten&&Nat.beq e e'&&Nat.beq z z'|none=>false)
 |p=>Uh (.cells c e s) p
|o,p=>Uh o p
def wU(o p)(h:Yh o p=true):o.Leq p:=by
 intro ρ k x hx;unfold Yh at h;split at h
 .split at h
  .simp only[aT] at h;have⟨⟨⟨h1,h2⟩,b⟩,a⟩:=h;obtain rfl:=iY h1;obtain rfl:=bG b;obtain rfl:=bG a;have⟨p,d,d2,r,c,j⟩:=hx;exact⟨p,d,d2,r,(oQ Dt h2).symm.trans c,j⟩
  .simp only[aT] at h;have⟨⟨⟨h1,h2⟩,b⟩,a⟩:=h;obtain rfl:=iY h1;obtain rfl:=bG b;obtain rfl:=bG a;obtain⟨p,d,d2,r,c,rfl,e,l,i,g,f⟩:=hx;exact⟨d,d2++r,rfl,e,(fun h=>by cases h),fun z m=>by cases m;exact⟨i,g,f⟩⟩
  .simp only[aT] at h;have⟨⟨⟨h1,h2⟩,b⟩,a⟩:=h;obtain rfl:=bG b;obtain rfl:=bG a
   split at h1
   .obtain⟨p,d,d2,r,c,rfl,e,l,i,g,f⟩:=hx;cases e;exact⟨p,d2,r,(oQ Dt h2).symm.trans c,rfl,l,by simpa using i,g,f⟩
   cases h1
  cases h
 .split at h
  .simp only[aT] at h;have⟨⟨h1,b⟩,a⟩:=h;obtain rfl:=bG b;obtain rfl:=bG a;exact OR.Vx (oQ Dt h1) hx
  cases h
 .split at h
  .simp only[aT] at h;have⟨⟨⟨⟨⟨⟨⟨⟨h1,h2⟩,b⟩,a⟩,t⟩,s⟩,q⟩,h8⟩,n⟩:=h;obtain rfl:=agJ h1;obtain rfl:=bG b;obtain rfl:=bG t;obtain rfl:=bG n;obtain rfl:=Et Jp s;obtain rfl:=rM q;obtain rfl:=rM h8
   split at h2
   .have⟨tm,u,c,j,e⟩:=hx;exact⟨tm,u,c,j.lU a,e⟩
   cases h2
  cases h
 .split at h
  .simp[BV] at h;subst h;exact hx
  cases h
 .split at h
  .split at h
   .simp only[aT] at h;have⟨⟨h1,b⟩,a⟩:=h;obtain rfl:=iY h1;obtain rfl:=bG b;obtain rfl:=bG a;exact OR.ah0 hx
   cases h
  exact(Bf h).or hx
 exact(Bf h).or hx
section
variable{P:aH}{inv:Iv}
theorem A8{f fn c t x args h h' v}(hf:P.funcs[f]?=some fn)(hb:fn.body=some c)(g:(fn.name == "runtime.NumGoroutine")=false)(ht:yA 0 args .nil=some t)
  (F:yX P f (args.length+(fn.ntmps-args.length)) none c ⟨t,h,[]⟩ x) (e:rD P fn x=some (v,h')):dF P f args h v h':=by
 obtain⟨E,h1⟩:=F;have D:=FD e;simp only at E;refine⟨by omega,fn,c,hf,hb,g,fun{ρ a w} ha hr hu cs=>?_⟩
 let b:aC:={ (default:aC) with fn:=f,kind:=.normal}
 have hl:=ha.length;have d:Frame.enter P f ⟨a⟩ .normal=b.atR {tmps:=(⟨a⟩:Array ae)++Array.replicate (fn.ntmps-args.length) undef,defers:=[]} [.code c]:=by simp[Frame.enter,Frame.atR,hf,hb,b,hl];rfl
 rw[d];obtain⟨l,q,w1,j,A,y,o⟩:=h1 ρ b {tmps:=(⟨a⟩:Array ae)++Array.replicate _ undef,defers:=[]} [] cs w ⟨rfl,rfl,trivial,Ez ht ha,trivial⟩ hr (by rw[<-D];exact hu);have i:(∃id,x.1=.exit id) \/ ∃k,Steps P (lone (b.atR {tmps:=(⟨a⟩:Array ae)++Array.replicate (fn.ntmps-args.length) undef,defers:=[]} [.code c]) cs w) (lone {b.atR q k with mode:=.returning} cs w1):=by
  obtain⟨ex,sx⟩:=x;cases ex with
  |normal=>exact .inr ⟨[],yU j (.one (stepR_end rfl))⟩
  |ret=>obtain⟨k,j⟩:=j;exact .inr ⟨_,j.trans (.one (stepR_ret rfl))⟩
  |exit id=>exact .inl ⟨id,rfl⟩
 unfold rD at e;split at e
 .cases e
 rename_i hne;obtain⟨k,hst⟩:=i.resolve_left fun⟨id,h0⟩=>hne id h0;split at e
 .rename_i h2 hm
  split at e
  .rename_i u m
   cases e;obtain⟨w2,C,B,p⟩:=(Dk hm).2 (fr:={b.atR q k with mode:=.returning}) (fun h0=>by cases h0) rfl o.marks y;obtain⟨v',s,r⟩:=zu o.tmps p m;exact⟨l,v',w2,_,hst.trans C,rfl,⟨rfl,rfl,rfl,fn,hf,s⟩,A.trans B,p,r⟩
  cases e
 cases e
def takes{α:Type}:List α->List (α×List α)
|[]=>[]
|x::l=>(x,l)::(takes l).map fun p=>(p.1,x::p.2)
theorem QH{α:Type}(x:α):∀(s t:List α),(x,s++t)∈takes (s++x::t)
|[],t=>by simp[takes]
|y::s,t=>by show(x,y::(s++t))∈(y,s++x::t)::(takes (s++x::t)).map fun p=>(p.1,y::p.2);exact jy _ (oZ.2 ⟨_,QH x s t,rfl⟩)
theorem OR.Ij{ρ k c q e z o}(h:OR ρ k (.half c q e z) o)(j:q≠[]):∃x i,(x,i)∈takes q/\OR ρ k (.half (c++x) i e z) o:=by
 obtain⟨p,d,d2,r,h1,rfl,w,v,u,m⟩:=h;cases p with
 |nil=>exact absurd (List.perm_nil.1 h1) j
 |cons x p=>
 obtain⟨s,t,rfl⟩:=List.append_of_mem (h1.mem_iff.2 (fZ ..));have l:=List.Perm.cons_inv (List.perm_middle.symm.trans h1);have a:=v;obtain⟨b,g,rfl,hx,hp⟩:∃b g,d2=b++g/\iL ρ x b/\iL ρ p.flatten g:=by
  refine⟨d2.take x.length,d2.drop x.length,(Zf _ _).symm,?_,?_⟩
  .have:=a.take x.length;simpa using this
  have:=a.drop x.length;simpa using this
 exact⟨x,s++t,QH x s t,p,d++b,g,r,l,by simp,w.append hx,hp,by simpa using u,m⟩
theorem OR.acB{ρ k c e z o}(h:OR ρ k (.qO c e z) o):OR ρ k (.half [] c e z) o:=by obtain⟨p,d,r,h1,rfl,b,a⟩:=h;exact⟨p,[],d,r,h1,rfl,.nil,b,by simpa using a⟩
theorem Cst.At.known{s s2:Cst}{ρ0 ρ h0 w0 w TB}(A:s.At ρ0 h0 w0 TB ρ w)(a:s2.OK h0 TB)(hn:s2.nx=s.nx)(hr:HR ρ (s2.h0 h0) w):s2.At ρ0 h0 w0 TB ρ w:=by
 refine⟨?_,hr⟩;refine A.stp.VD (l:=TB++List.range' h0.next (s.nx-h0.next)) (L:=TB++List.range' h0.next (s2.nx-h0.next)) (by simp[Cst.h]) (by simp[Cst.h]) (by show s.nx<=s2.nx;omega) (fun b hb=>by rw[hn];exact hb) (fun b hb=>?_) fun b hb=>?_
 .rcases(Cst.ve a.next).1 hb with h|h
  .exact .inl (a.known b h)
  exact .inr h
 have d:¬_:=fun h=>hb ((Cst.ve a.next).2 h);exact Cst.rJ a (fun h=>d (.inl h)) (by
  by_cases h:h0.next<=b/\b<s2.nx
  .exact absurd (.inr h) d
  omega)
structure eQ where
 fn:Func
 c0:Code
 BQ:Nat
 lb:Code
def eQ.body(c:eQ):Code:=.seq c.c0 (.block c.BQ (.loop c.lb))
structure eQ.OK(P:aH)(c:eQ)(f:aI):Prop where
 ff:P.funcs[f]?=some c.fn
 fb:c.fn.body=some c.body
 fname:(c.fn.name == "runtime.NumGoroutine")=false
abbrev Pre:=List ae×List (List ae)
section
variable(P:aH)(inv:Iv)(c:eQ)(f:aI)(n:Nat)(h:H)(nb:Nat)(e:aZ)(z:Nat)
def eQ.st(p:Pre)(nx:Nat)(t:T ae):Cst:=⟨[(nb,.half p.1 p.2 e z)],nx,t⟩
def eQ.EN(t:T ae)(nx:Nat)(pre:List ae):List (List ae×List (List ae))->aB (List (T ae×H×List (List ae)))
|[]=>some []
|(x,q)::l=>match jd P inv f n none c.lb ⟨t,⟨T.put T.deep h.t nb (some (.half (pre++x) q e z)),nx,[]⟩,[]⟩ with
 |some (.normal,⟨t',h',[]⟩)=>match EN t nx pre l with
  |some r=>some ((t',h',q)::r)
  |none=>none
 |_=>none
def eQ.outs(t:T ae)(nx:Nat):List Pre->aB (List (T ae×H×List (List ae)))
|[]=>some []
|(pre,q)::l=>match q,eQ.EN P inv c f n h nb e z t nx pre (takes q),eQ.outs t nx l with
 |_::_,some a,some b=>some (a++b)
 |_,_,_=>none
def eQ.fresh:List (T ae×H×List (List ae))->List Pre->aB (List Pre)
|[],acc=>some acc
|(_,h',q)::l,acc=>match h'.get nb with
 |some (.half pre' _ _ _)=>match acc.any (fun p=>qC p.1 pre') with
  |true=>eQ.fresh l acc
  |false=>eQ.fresh l ((pre',q)::acc)
 |_=>none
def ZW:List (T ae×H×List (List ae))->Nat->Nat
|[],m=>m
|y::l,m=>match Nat.ble y.2.1.next m with
 |true=>ZW l m
 |false=>ZW l y.2.1.next
def eQ.aar(st':List Pre)(t':T ae)(nx':Nat)(os:List (T ae×H×List (List ae))):Bool:=os.all fun y=>lU Be y.1 t'&&st'.any fun p=>(eQ.st nb e z p nx' t').E8 Yh h [nb] y.2.1
def eQ.Oe(t:T ae)(nx:Nat)(o:T ae×H×List (List ae))(os:List (T ae×H×List (List ae)))(st':List Pre)(nx':Nat)(t':T ae):aB (List Pre×T ae×Nat):=
 match eQ.aar h nb e z st' t' nx' (o::os),Nat.ble nx nx' with
 |true,true=>some (st',t',nx')
 |_,_=>none
def eQ.adq(t:T ae)(nx:Nat)(sts:List Pre):aB (List Pre×T ae×Nat):=
 match eQ.outs P inv c f n h nb e z t nx sts with
 |some (o::os)=>match eQ.fresh nb (o::os) [] with
  |some st'=>eQ.Oe h nb e z t nx o os st' (ZW (o::os) nx) (T.meet o.1 t)
  |none=>none
 |_=>none
def eQ.Wu:Nat->List Pre->T ae->Nat->aB (List ae×T ae×Nat)
|0,sts,t,nx=>match sts with
 |[(pre,[])]=>some (pre,t,nx)
 |_=>none
|k+1,sts,t,nx=>match eQ.adq P inv c f n h nb e z t nx sts with
 |some (sts',t',nx')=>eQ.Wu k sts' t' nx'
 |none=>none
end
section
variable{c:eQ}{f:aI}{n:Nat}{h:H}{nb:Nat}{e:aZ}{z:Nat}
theorem eQ.vI{t:T ae}{nx:Nat}{pre:List ae}:∀{l:List (List ae×List (List ae))} {r:List (T ae×H×List (List ae))},eQ.EN P inv c f n h nb e z t nx pre l=some r->∀x q,(x,q)∈l->∃t' h',jd P inv f n none c.lb ⟨t,⟨T.put T.deep h.t nb (some (.half (pre++x) q e z)),nx,[]⟩,[]⟩=some (.normal,⟨t',h',[]⟩)/\(t',h',q)∈r
|[],r,hr,x,q,hx=>by simp at hx
|(y,p)::l,r,hr,x,q,hx=>by
 simp only[eQ.EN] at hr;split at hr
 .rename_i t' h' g
  split at hr
  .rename_i r' d;cases hr;rcases dW.1 hx with h1|h1
   .cases h1;exact⟨t',h',g,fZ ..⟩
   have⟨t2,h2,b,a⟩:=eQ.vI d x q h1;exact⟨t2,h2,b,jy _ a⟩
  cases hr
 cases hr
theorem eQ.wI{t:T ae}{nx:Nat}:∀{l:List Pre} {r:List (T ae×H×List (List ae))},eQ.outs P inv c f n h nb e z t nx l=some r->∀p∈l,p.2≠[]/\∀x q,(x,q)∈takes p.2->∃t' h',jd P inv f n none c.lb ⟨t,⟨T.put T.deep h.t nb (some (.half (p.1++x) q e z)),nx,[]⟩,[]⟩=some (.normal,⟨t',h',[]⟩)/\(t',h',q)∈r
|[],r,hr,p,hp=>by simp at hp
|(pre,q0)::l,r,hr,p,hp=>by
 simp only[eQ.outs] at hr;split at hr
 .rename_i q1 q2 a b i j;cases hr;rcases dW.1 hp with h1|h1
  .subst h1;refine⟨by simp,fun x q hx=>?_⟩;have⟨t',h',g1,d⟩:=eQ.vI j x q hx;exact⟨t',h',g1,List.mem_append_left _ d⟩
  have⟨k,g⟩:=eQ.wI i p h1;refine⟨k,fun x q hx=>?_⟩;have⟨t',h',g1,d⟩:=g x q hx;exact⟨t',h',g1,List.mem_append_right _ d⟩
 cases hr
theorem eQ.CJ{p nx t}(hb:nb<top)(hk:(h.get nb).isSome=true)(hn:h.next<=nx):(eQ.st nb e z p nx t).OK h [nb]:=by
 refine⟨fun q d=>?_,fun q d=>?_,fun b a=>?_,fun b a=>?_,hn⟩
 .obtain rfl:=eY.1 d;exact hb
 .obtain rfl:=eY.1 d;exact .inl (by simp)
 .obtain rfl:=eY.1 a;exact hk
 obtain rfl:=eY.1 a;exact⟨_,eY.2 rfl,rfl⟩
theorem eQ.Yv:∀{k:Nat} {d:List Pre} {t g:T ae} {nx a:Nat} {pre:List ae},eQ.Wu P inv c f n h nb e z k d t nx=some (pre,g,a)->nx<=a
|0,d,t,g,nx,a,pre,hg=>by
 simp only[eQ.Wu] at hg;split at hg
 .cases hg;exact aA _
 cases hg
|k+1,d,t,g,nx,a,pre,hg=>by
 simp only[eQ.Wu] at hg;split at hg
 .rename_i i t' nx' b;refine bM ?_ (eQ.Yv hg);unfold eQ.adq at b
  split at b
  .split at b
   .unfold eQ.Oe at b
    split at b
    .rename_i h1 h2;cases b;exact iF h2
    cases b
   cases b
  cases b
 cases hg
theorem eQ.go_ok(hI:kS P inv)(hD:iR P inv)(hb:nb<top)(hk:(h.get nb).isSome=true){ρ0:jV}{w0:ay}{hi:Nat}(J:HR ρ0 h w0)(hu:lK ρ0 h.next hi){b:aC}{kk:List ig}{cs:List aC}:∀(k:Nat) (j:List Pre) (t s:T ae) (nx d:Nat) (pre:List ae),eQ.Wu P inv c f n h nb e z k j t nx=some (pre,s,d)->h.next<=nx->d<=hi->∀p∈j,∀(ρ:jV) (a:Act) (w:ay),(eQ.st nb e z p nx t).At ρ0 h w0 [nb] ρ w->Sits ρ f n none ⟨t,(eQ.st nb e z p nx t).h0 h,[]⟩ b a->∃ρ' a' w',Steps P (lone (b.atR a (.code c.lb::.inLoop c.lb::kk)) cs w) (lone (b.atR a' (.code c.lb::.inLoop c.lb::kk)) cs w')/\(eQ.st nb e z (pre,[]) d s).At ρ0 h w0 [nb] ρ' w'/\Sits ρ' f n none ⟨s,(eQ.st nb e z (pre,[]) d s).h0 h,[]⟩ b a'
 |0,j,t,s,nx,d,pre,hg,i,u,p,hp,ρ,a,w,A,hs=>by
  simp only[eQ.Wu] at hg;split at hg
  .rename_i pre0;cases hg;obtain rfl:=eY.1 hp;exact⟨ρ,a,w,.refl _ _,A,hs⟩
  cases hg
 |k+1,j,t,s,nx,d,pre,hg,i,u,p,hp,ρ,a,w,A,hs=>by
  simp only[eQ.Wu] at hg;split at hg;case h_2=>cases hg
  rename_i C t' nx' r;have hle:=eQ.Yv hg;unfold eQ.adq at r;split at r;case h_2=>cases r
  rename_i o os eo;split at r;case h_2=>cases r
  rename_i st' ef;unfold eQ.Oe at r;split at r;case h_2=>cases r
  rename_i O g;generalize hnm:ZW (o::os) nx=nm at *;generalize htm:T.meet o.1 t=tm at *;cases r;have g:=iF g;have⟨hq0,K⟩:=eQ.wI eo p hp;have U:=eQ.CJ (e:=e) (z:=z) (p:=p) (t:=t) hb hk i;have hgp:((eQ.st nb e z p nx t).h0 h).get nb=some (.half p.1 p.2 e z):=by show(yK _ h.t).get nb=_;simp only[eQ.st,yK];rw[T.get_put _ _ _ _ _ (df hb),aY rfl]
  have⟨x0,k0,o',g1,g2,g3⟩:=A.hr.ob nb _ hgp;have⟨x,q,W,g4⟩:=g3.Ij hq0;have⟨t2,h2,hc,L⟩:=K x q W;have E:=eQ.CJ (e:=e) (z:=z) (p:=(p.1++x,q)) (t:=t) hb hk i;have I:HR ρ ((eQ.st nb e z (p.1++x,q) nx t).h0 h) w:=by
   have M:∀y,((eQ.st nb e z (p.1++x,q) nx t).h0 h).get y=if y=nb then some (.half (p.1++x) q e z) else h.get y:=fun y=>by show(yK _ h.t).get y=_;simp only[eQ.st,yK];exact T.get_put _ _ _ _ _ (df hb)
   have hgo:∀y,((eQ.st nb e z p nx t).h0 h).get y=if y=nb then some (.half p.1 p.2 e z) else h.get y:=fun y=>by show(yK _ h.t).get y=_;simp only[eQ.st,yK];exact T.get_put _ _ _ _ _ (df hb)
   have known:∀y,(((eQ.st nb e z (p.1++x,q) nx t).h0 h).get y).isSome=true->(((eQ.st nb e z p nx t).h0 h).get y).isSome=true:=fun y hy=>by
    rw[M] at hy;rw[hgo];split at hy
    .rename_i v;rw[aY v];rfl
    rename_i v;rw[aU v];exact hy
   refine⟨A.hr.fD,fun y oy hy=>?_,fun y y' m l l' h1 h2 h3 h4=>A.hr.inj y y' m l l' (known y h1) (known y' h2) h3 h4⟩;rw[M] at hy;split at hy
   .rename_i v;cases hy;subst v;exact⟨x0,k0,o',g1,g2,g4⟩
   rename_i v;exact A.hr.ob y oy (by rw[hgo,aU v];exact hy)
  have Ax:=A.known E rfl I;have⟨m1,hR⟩:=iC hI hD c.lb _ _ hc;have m1:nx<=h2.next:=m1;have F:=bZ.1 (show(o::os).all _=true from O) _ L;simp only[aT] at F;have⟨G,N⟩:=F;have⟨S,hp',Y⟩:=jA.1 N;have tk:=Cst.vS wU Y;have V:=eQ.CJ (e:=e) (z:=z) (p:=S) (nx:=nx') (t:=t') hb hk (bM i g);have hh2:h2.next<=nx':=tk.next;have X:lK ρ nx hi:=A.unb U hu;have⟨B,a1,w1,R,r2,r3,D⟩:=hR ρ b a (.inLoop c.lb::kk) cs w ⟨hs.L9,hs.kind,hs.LW,hs.tmps,hs.marks⟩ I (X.sub (aA _) (by show h2.next<=hi;omega));have R:Steps P _ _:=R;have A':=Ax.step E V J hu (bM hle u) r2 r3 tk;have Z:Sits B f n none ⟨t',(eQ.st nb e z S nx' t').h0 h,[]⟩ b a1:=⟨D.L9,D.kind,D.LW,D.tmps.lU G,D.marks⟩;have⟨Q,a2,w2,s1,s2,s3⟩:=eQ.go_ok hI hD hb hk J hu (b:=b) (kk:=kk) (cs:=cs) k C t' s nx' d pre hg (bM i g) u S hp' B a1 w1 A' Z;exact⟨Q,a2,w2,R.trans (.head PU s1),s2,s3⟩
def eQ.aes(h:H)(nb:Nat)(e:aZ)(z:Nat)(pre:List ae)(nxE:Nat):H:=⟨T.put T.deep h.t nb (some (.cells pre e (some z))),nxE,nb::List.range' h.next (nxE-h.next)++h.log⟩
def eQ.di(P:aH)(inv:Iv)(c:eQ)(f:aI)(args:List ae)(h:H):aB (ae×H):=
 match args with
 |.slice (some ⟨nb,0,none⟩) len _::_=>match h.get nb,yA 0 args .nil,Nat.blt nb top with
  |some (.qO q e z),some ta,true=>match jd P inv f (args.length+(c.fn.ntmps-args.length)) none c.c0 ⟨ta,⟨h.t,h.next,[]⟩,[]⟩ with
   |some (.normal,⟨t0,h0,[]⟩)=>match h0.log,Nat.beq h0.next h.next,eQ.Wu P inv c f (args.length+(c.fn.ntmps-args.length)) h nb e z (len-1) ((takes q).map fun p=>(p.1,p.2)) t0 h.next with
    |[],true,some (pre,tF,nxF)=>match jd P inv f (args.length+(c.fn.ntmps-args.length)) none c.lb ⟨tF,⟨T.put T.deep h.t nb (some (.half pre [] e z)),nxF,[]⟩,[]⟩ with
     |some (.exit i,⟨t2,h2,[]⟩)=>match Nat.beq i c.BQ,(Cst.mk [(nb,.cells pre e (some z))] h2.next t2).E8 Yh h [nb] h2,(match q with | []=>false|_=>true) with
      |true,true,true=>rD P c.fn (.normal,⟨t2,eQ.aes h nb e z pre h2.next,[]⟩)
      |_,_,_=>none
     |_=>none
    |_,_,_=>none
   |_=>none
  |_,_,_=>none
 |_=>none
theorem eQ.does(hI:kS P inv)(hD:iR P inv){c:eQ}{f}(hc:c.OK P f){args h h' v}(j:c.di P inv f args h=some (v,h')):dF P f args h v h':=by
 unfold eQ.di at j;split at j;case h_2=>cases j
 rename_i nb len cap rest;split at j;case h_2=>cases j
 rename_i q e z ta hg X hb;rw[ik] at hb;generalize hargs:(Value.slice _ len cap::rest)=args at *;split at j;case h_2=>cases j
 rename_i t0 h0 e0;split at j;case h_2=>cases j
 rename_i pre tF r F D J;split at j;case h_2=>cases j
 rename_i i t2 h2 ex;split at j;case h_2=>cases j
 rename_i I W hq0;have D:=bG D;obtain rfl:=bG I;have tk:=Cst.vS wU W;have hk:(h.get nb).isSome=true:=by rw[hg];rfl
 have C:q≠[]:=by intro e1;subst e1;cases hq0
 obtain⟨m0,r0⟩:=iC hI hD c.c0 _ _ e0;obtain⟨U,rx⟩:=iC hI hD c.lb _ _ ex;have U:r<=h2.next:=U;have hle:=eQ.Yv J;refine A8 hc.ff hc.fb hc.fname X ⟨by show h.next<=h2.next;omega,fun ρ b a k cs w hs hr hu=>?_⟩ j;have hu:=hu;have Z:HR ρ ⟨h.t,h.next,[]⟩ w:=⟨hr.fD,hr.ob,hr.inj⟩;obtain⟨o,a1,w1,R,q2,K,A⟩:=r0 ρ b a _ cs w ⟨hs.L9,hs.kind,hs.LW,hs.tmps,hs.marks⟩ Z (hu.sub (aA _) (by show h0.next<=h2.next;omega));have R:=R;obtain⟨l0,N,_,_,_,g,_⟩:=id q2.log;have N:=N;rw[F] at N;have E:l0=[]:=by simpa using N.symm
 subst E;have g:∀y,h0.get y=h.get y:=fun y=>g y (by simp);have G:h0.get nb=some (.qO q e z):=by rw[g];exact hg
 obtain⟨x0,k0,o',g1,g2,g3⟩:=K.ob nb _ G;obtain⟨x,u,V,g4⟩:=g3.acB.Ij C;have okx:=eQ.CJ (e:=e) (z:=z) (p:=(x,u)) (t:=t0) hb hk (aA _);have s:∀y,((eQ.st nb e z (x,u) h.next t0).h0 h).get y=if y=nb then some _ else h.get y:=fun y=>by exact T.get_put _ _ _ _ _ (df hb)
 have Y:HR o ((eQ.st nb e z (x,u) h.next t0).h0 h) w1:=by
  have known:∀y,(((eQ.st nb e z _ h.next t0).h0 h).get y).isSome=true->(h0.get y).isSome=true:=fun y hy=>by
   rw[s] at hy;rw[g];split at hy
   .rename_i M;rw[M,hg];rfl
   exact hy
  refine⟨K.fD,fun y oy hy=>?_,fun y y' m l l' h1 h2 h3 h4=>K.inj y y' m l l' (known y h1) (known y' h2) h3 h4⟩;rw[s] at hy;split at hy
  .rename_i M
   cases hy;subst M;exact⟨x0,k0,o',g1,g2,by simpa using g4⟩
  rename_i M;exact K.ob y oy (by rw[g];exact hy)
 have hAx:(eQ.st nb e z (x,u) h.next t0).At ρ h w [nb] o w1:=by
  refine⟨?_,Y⟩;refine q2.VD (h2:=(eQ.st nb e z (x,u) h.next t0).h h [nb]) (l:=[]) (L:=[nb]++List.range' h.next (h.next-h.next)) (by rw[F];rfl) (by simp[Cst.h,eQ.st]) (by show h0.next<=h.next;omega) (fun b hb=>by simp at hb) (fun b d=>?_) fun b d=>?_
  .simp at d
   subst d;exact .inl hk
  have d:b≠nb:=fun e1=>d (by simp[e1])
  have:=s b
  rw[aU d] at this;exact this
 obtain⟨Q,a2,w2,s1,s2,s3⟩:=eQ.go_ok hI hD hb hk hr hu (kk:=.inBlock c.BQ::k) (cs:=cs) (len-1) _ t0 tF h.next r pre J (aA _) U (x,u) (oZ.2 ⟨_,V,rfl⟩) o a1 w1 hAx ⟨A.L9,A.kind,A.LW,A.tmps,A.marks⟩;have okF:=eQ.CJ (e:=e) (z:=z) (p:=(pre,[])) (nx:=r) (t:=tF) hb hk hle;obtain⟨O,a3,w3,p1,p2,p3,B⟩:=rx Q b a2 (.inLoop c.lb::.inBlock c.BQ::k) cs w2 ⟨s3.L9,s3.kind,s3.LW,s3.tmps,s3.marks⟩ s2.hr (s2.unb okF hu);have S:(Cst.mk [(nb,.cells pre e (some z))] h2.next t2).OK h [nb]:=by
  refine⟨fun q C=>?_,fun q C=>?_,fun b d=>?_,fun b d=>?_,by show h.next<=h2.next;omega⟩
  .obtain rfl:=eY.1 C;exact hb
  .obtain rfl:=eY.1 C;exact .inl (by simp)
  .obtain rfl:=eY.1 d;exact hk
  obtain rfl:=eY.1 d;exact⟨_,eY.2 rfl,rfl⟩
 have AE:=s2.step okF S hr hu (aA _) p2 p3 tk;refine⟨O,a3,w3,?_,AE.stp.EO h.log,AE.hr.EO,B.L9,B.kind,B.LW,B.tmps,B.marks⟩;have hx:=p1.1 k (by simp[exitTo]);exact yU (.head kL R) (.head Gu (.head PT (s1.trans hx)))
def LU(P:aH)(inv:Iv)(c:eQ)(f0:aI):aI->List ae->H->aB (aB (ae×H)):=fun f args h=>match Nat.beq f f0 with
|true=>match c.di P inv f0 args h with
 |some r=>some (some r)
 |none=>none
|false=>none
theorem Na(hI:kS P inv)(hD:iR P inv){c f0}(hc:c.OK P f0):fE P (LU P inv c f0):=fun f args h v h' e=>by
 unfold LU at e;split at e
 .rename_i hf;obtain rfl:=bG hf
  split at e
  .rename_i r a;simp[kG] at e;subst e;exact eQ.does hI hD hc a
  cases e
 cases e
end
end
end Go.Ev
