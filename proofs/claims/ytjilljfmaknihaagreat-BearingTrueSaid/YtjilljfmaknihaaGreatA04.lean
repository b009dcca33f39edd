import Derived.Laws.AppendOwn
import Derived.Test.YtjilljfmaknihaaGreatA03
set_option linter.all false
set_option maxHeartbeats 4000000
namespace Go
def iQ:=@Go.run_underlying
def yC:=@Go.Sem.run_bind
def aaz:=@Go.run_firstCells_some
def J6:=@Go.step_lone_go
def aax:=@Go.run_append_grow
def Xi:=@Go.grownCap_ge
def aaw:=@Go.growslice_fits
def aeX:=@Go.grownCap_le_maxLen
def aaB:=@Go.setRow_other
def aaA:=@Go.setRow_heap
def aeZ:=@Go.size_zeroCells
def aeY:=@Go.run_append_nil
end Go
namespace Go.Ev
inductive Nm where
 |dC
 |at_ (b k:Nat)
 |dead
abbrev jV:=Nat->Nm
def BR(ρ:jV)(b b':Nat):Prop:=
 match ρ b with
 |.dC=>False
 |.at_ x _=>b'=x
 |.dead=>True
structure AR(ρ:jV)(a a':Addr):Prop where
 block:BR ρ a.block a'.block
 off:a'.off=a.off
 spot:a.spot=none
 spot':a'.spot=none
def CR(ρ:jV)(a:Addr)(n c c':Nat):Prop:=(c<soft/\c'=c)\/(soft<=c/\n<=c'/\∀x k,ρ a.block=.at_ x k->c'=k)
def atom:ae->Bool
|.bool _|.int _ _|.float _ _|.complex _ _ _|.string _|.nilFunc|.nilIface|.pointer none|.map none|.chan none|.slice none _ _=>true
|_=>false
mutual
inductive VR (ρ:jV):ae->ae->Prop
 |same {v:ae} (h:atom v=true):VR ρ v v
 |ptr {a a':Addr} (h:AR ρ a a'):VR ρ (.pointer (some a)) (.pointer (some a'))
 |slice {a a':Addr} {n c c':Nat} (h:AR ρ a a') (hc:CR ρ a n c c'):VR ρ (.slice (some a) n c) (.slice (some a') n c')
 |map {r r':Nat} (h:BR ρ r r'):VR ρ (.map (some r)) (.map (some r'))
 |func {f:aI} {a b a' b':List ae} (ha:iL ρ a a') (hb:iL ρ b b'):VR ρ (.func (.func f) ⟨a⟩ ⟨b⟩) (.func (.func f) ⟨a'⟩ ⟨b'⟩)
 |yield {l l':Nat} (h:BR ρ l l'):VR ρ (.func (.yield l) #[] #[]) (.func (.yield l') #[] #[])
 |chan {r r':Nat} (h:BR ρ r r'):VR ρ (.chan (some r)) (.chan (some r'))
 |agg {cs cs':List ae} (h:iL ρ cs cs'):VR ρ (.agg ⟨cs⟩) (.agg ⟨cs'⟩)
 |tuple {cs cs':List ae} (h:iL ρ cs cs'):VR ρ (.tuple ⟨cs⟩) (.tuple ⟨cs'⟩)
inductive iL (ρ:jV):List ae->List ae->Prop
 |nil:iL ρ [] []
 |cons {v v':ae} {l l':List ae} (h:VR ρ v v') (hs:iL ρ l l'):iL ρ (v::l) (v'::l')
end
def Le(ρ ρ':jV):Prop:=∀b,ρ b=.dC\/ρ' b=ρ b\/ρ' b=.dead
def Le.refl(ρ):Le ρ ρ:=fun _=>.inr (.inl rfl)
def Le.trans{ρ ρ' a}(h:Le ρ ρ')(h':Le ρ' a):Le ρ a:=fun b=>by
 rcases h b with h1|h1|h1
 .exact .inl h1
 .rcases h' b with h2|h2|h2
  .exact .inl (h1▸h2)
  .exact .inr (.inl (h2.trans h1))
  exact .inr (.inr h2)
 rcases h' b with h2|h2|h2
 .rw[h1] at h2;cases h2
 .exact .inr (.inr (h2.trans h1))
 exact .inr (.inr h2)
def BR.mono{ρ ρ'}(h:Le ρ ρ'){b b'}(hb:BR ρ b b'):BR ρ' b b':=by
 unfold BR at *;rcases h b with h1|h1|h1
 .rw[h1] at hb;exact hb.elim
 .rw[h1];exact hb
 rw[h1];trivial
def AR.mono{ρ ρ'}(h:Le ρ ρ'){a a'}(ha:AR ρ a a'):AR ρ' a a':=⟨ha.block.mono h,ha.off,ha.spot,ha.spot'⟩
def CR.mono{ρ ρ'}(h:Le ρ ρ'){a n c c'}(hu:ρ a.block≠.dC)(hc:CR ρ a n c c'):CR ρ' a n c c':=by
 rcases hc with hc|⟨h1,h2,b⟩
 .exact .inl hc
 refine .inr ⟨h1,h2,fun x k hx=>?_⟩;rcases h a.block with e|e|e
 .exact absurd e hu
 .exact b x k (e▸hx)
 rw[e] at hx;cases hx
def BR.born{ρ b b'}(h:BR ρ b b'):ρ b≠.dC:=fun e=>by unfold BR at h;rw[e] at h;exact h
def BR.at_{ρ b b' x k}(h:BR ρ b b')(e:ρ b=.at_ x k):b'=x:=by unfold BR at h;rw[e] at h;exact h
mutual
def VR.mono{ρ ρ':jV}(h:Le ρ ρ'):∀{v v':ae},VR ρ v v'->VR ρ' v v'
 |_,_,.same ha=>.same ha
 |_,_,.ptr ha=>.ptr (ha.mono h)
 |_,_,.slice ha hc=>.slice (ha.mono h) (hc.mono h ha.block.born)
 |_,_,.map hb=>.map (hb.mono h)
 |_,_,.func ha hb=>.func (ha.mono h) (hb.mono h)
 |_,_,.yield hb=>.yield (hb.mono h)
 |_,_,.chan hb=>.chan (hb.mono h)
 |_,_,.agg hs=>.agg (hs.mono h)
 |_,_,.tuple hs=>.tuple (hs.mono h)
def iL.mono{ρ ρ':jV}(h:Le ρ ρ'):∀{v v':List ae},iL ρ v v'->iL ρ' v v'
 |_,_,.nil=>.nil
 |_,_,.cons hv hs=>.cons (hv.mono h) (hs.mono h)
end
def iL.length{ρ}:∀{l l'},iL ρ l l'->l'.length=l.length
|_,_,.nil=>rfl
|_,_,.cons _ hs=>by simp[hs.length]
def iL.append{ρ}:∀{a a' b b'},iL ρ a a'->iL ρ b b'->iL ρ (a++b) (a'++b')
|_,_,_,_,.nil,h=>h
|_,_,_,_,.cons c hs,h=>.cons c (hs.append h)
mutual
def dX{ρ:jV}:∀{v:ae},flat v=true->VR ρ v v
 |.bool _,_|.int _ _,_|.string _,_|.nilFunc,_|.nilIface,_|.pointer none,_|.map none,_|.chan none,_|.slice none _ _,_=>.same rfl
 |.agg ⟨cs⟩,h=>.agg (xg (by simpa[flat] using h))
 |.tuple ⟨cs⟩,h=>.tuple (xg (by simpa[flat] using h))
 |.float _ _,h|.complex _ _ _,h|.func _ _ _,h|.iface _ _,h=>by simp[flat] at h
 |.pointer (some _),h|.map (some _),h|.chan (some _),h|.slice (some _) _ _,h=>by simp[flat] at h
def xg{ρ:jV}:∀{l:List ae},kY l=true->iL ρ l l
 |[],_=>.nil
 |v::l,h=>by
  simp only[kY] at h;split at h
  .rename_i hv;exact .cons (dX hv) (xg h)
  cases h
end
mutual
def VR.flat{ρ:jV}:∀{v v':ae},VR ρ v v'->flat v=true->v'=v
 |_,_,.same _,_=>rfl
 |_,_,.ptr _,h=>by simp[Ev.flat] at h
 |_,_,.slice _ _,h=>by simp[Ev.flat] at h
 |_,_,.map _,h=>by simp[Ev.flat] at h
 |_,_,.func _ _,h=>by simp[Ev.flat] at h
 |_,_,.yield _,h=>by simp[Ev.flat] at h
 |_,_,.chan _,h=>by simp[Ev.flat] at h
 |_,_,.agg hs,h=>by rw[hs.kY (by simpa[Ev.flat] using h)]
 |_,_,.tuple hs,h=>by rw[hs.kY (by simpa[Ev.flat] using h)]
def iL.kY{ρ:jV}:∀{l l':List ae},iL ρ l l'->kY l=true->l'=l
 |_,_,.nil,_=>rfl
 |_,_,.cons hv hs,h=>by
  simp only[Ev.kY] at h;split at h
  .rename_i e;rw[hv.flat e,hs.kY h]
  cases h
end
def VR.single{ρ:jV}{v v':ae}(h:VR ρ v v')(hs:single v=true):single v'=true:=by cases h<;>first|exact hs|rfl|(cases hs;done)
def iL.single{ρ:jV}:∀{l l':List ae},iL ρ l l'->l.all single=true->l'.all single=true
|_,_,.nil,_=>rfl
|_,_,.cons a hs,h=>by simp only[List.all_cons,aT] at h⊢;exact⟨a.single h.1,hs.single h.2⟩
def Fe{v}:v.oneCell'=single v:=by cases v<;>rfl
def VR.cells{ρ v v'}(h:VR ρ v v'):iL ρ v.cells.toList v'.cells.toList:=by
 cases h with
 |same h=>cases v<;>first|(cases h;done)|exact .cons (.same h) .nil
 |agg hs=>exact hs
 |ptr h=>exact .cons (.ptr h) .nil
 |slice h hc=>exact .cons (.slice h hc) .nil
 |map h=>exact .cons (.map h) .nil
 |func ha hb=>exact .cons (.func ha hb) .nil
 |yield h=>exact .cons (.yield h) .nil
 |chan h=>exact .cons (.chan h) .nil
 |tuple h=>exact .cons (.tuple h) .nil
def iL.nth{ρ:jV}:∀{l l':List ae},iL ρ l l'->∀{k:Nat} {v:ae},nth l k=some v->∃v',l'[k]?=some v'/\VR ρ v v'
|_,_,.nil,_,_,h=>by simp[Ev.nth] at h
|_,_,.cons a hs,0,v,h=>by simp only[Ev.nth,kG] at h;subst h;exact⟨_,rfl,a⟩
|_,_,.cons a hs,k+1,v,h=>by simp only[Ev.nth] at h;simpa using hs.nth h
def MN{α:Type}:∀{l:List α} {n:Nat} {r:List α},cut.takeN l n=some r->r=l.take n/\n<=l.length
|l,0,r,h=>by simp[cut.takeN] at h;subst h;simp
|[],n+1,r,h=>by simp[cut.takeN] at h
|a::l,n+1,r,h=>by simp only[cut.takeN,BX] at h;obtain⟨x,hx,rfl⟩:=h;obtain⟨rfl,hl⟩:=MN hx;simp;omega
def O4{α:Type}:∀{l:List α} {k n:Nat} {r:List α},cut l k n=some r->r=(l.drop k).take n/\(n=0\/k+n<=l.length)
|l,0,n,r,h=>by
 have h':cut.takeN l n=some r:=by cases l<;>simpa[cut] using h
 obtain⟨rfl,hl⟩:=MN h';simp;omega
|[],k+1,n,r,h=>by simp only[cut] at h;obtain⟨rfl,hl⟩:=MN h;simp at hl;subst hl;simp
|a::l,k+1,n,r,h=>by simp only[cut] at h;obtain⟨rfl,hl⟩:=O4 h;simp;omega
def NP{α:Type}:∀{l b r:List α},over.KC l b=some r->r=b++l.drop b.length/\b.length<=l.length
|l,[],r,h=>by cases l<;>(simp[over.KC] at h;subst h;simp)
|[],v::b,r,h=>by simp[over.KC] at h
|a::l,v::b,r,h=>by simp only[over.KC,BX] at h;obtain⟨x,hx,rfl⟩:=h;obtain⟨rfl,hl⟩:=NP hx;simp;omega
def Tz{α:Type}:∀{l:List α} {k:Nat} {b r:List α},over l k b=some r->r=l.take k++b++l.drop (k+b.length)/\(b=[]\/k+b.length<=l.length)
|l,0,b,r,h=>by
 have h':over.KC l b=some r:=by cases l<;>simpa[over] using h
 obtain⟨rfl,hl⟩:=NP h';simp;omega
|[],k+1,b,r,h=>by simp only[over] at h;obtain⟨rfl,hl⟩:=NP h;have:b=[]:=aaC (by simpa using hl);subst this;simp
|a::l,k+1,b,r,h=>by simp only[over,BX] at h;obtain⟨x,hx,rfl⟩:=h;obtain⟨rfl,hl⟩:=Tz hx;refine⟨by simp[Nat.add_right_comm],hl.imp id fun h=>by simp;omega⟩
def iL.drop{ρ}:∀{l l'},iL ρ l l'->∀k,iL ρ (l.drop k) (l'.drop k)
|_,_,h,0=>by simpa using h
|_,_,.nil,_+1=>.nil
|_,_,.cons _ hs,k+1=>by simpa using hs.drop k
def iL.take{ρ}:∀{l l'},iL ρ l l'->∀k,iL ρ (l.take k) (l'.take k)
|_,_,_,0=>by simpa using .nil
|_,_,.nil,_+1=>.nil
|_,_,.cons a hs,k+1=>by simpa using iL.cons a (hs.take k)
def iL.get{ρ}:∀{l l'},iL ρ l l'->∀{k:Nat} {v},l[k]?=some v->∃v',l'[k]?=some v'/\VR ρ v v'
|_,_,.nil,_,_,h=>by simp at h
|_,_,.cons a hs,0,v,h=>by simp at h;subst h;exact⟨_,rfl,a⟩
|_,_,.cons a hs,k+1,v,h=>by simp at h;simpa using hs.get h
structure TR(ρ:jV)(n:Nat)(t:T ae)(a:Array ae):Prop where
 size:a.size=n
 get:∀i v,t.get i=some v->∃v',a[i]?=some v'/\VR ρ v v'
def OR(ρ:jV)(k:Nat):Ob->Obj->Prop
|.cells c e s,o=>∃d r,o=.cells ⟨d++r⟩ e (0,0)/\iL ρ c d/\(s=none->r=[])/\(∀z,s=some z->(d++r).length=k*z/\k<=maxLen/\0<z)
|.map es c,o=>o=.map ⟨es⟩ c/\Iq es=true
|.iter m s l p,o=>∃m',o=.mapIter m' s ⟨l⟩ p/\(match m,m' with|none,none=>True|some m,some m'=>BR ρ m m'|_,_=>False)
|.loop st j f t n ps as b d,o=>∃tm d',o=.loop {state:=st,pending:=j,fn:=f,tmps:=tm,params:=ps,assign:=as,body:=b,defers:=d'}/\TR ρ n t tm/\BR ρ d d'
|.calls op,o=>o=.deferred (match op with|true=>some []|false=>none)
|.bag c e,o=>∃p d r,c.Perm p/\o=.cells ⟨d++r⟩ e (0,0)/\iL ρ p d
|.qO c e z,o=>∃p d r,c.Perm p/\o=.cells ⟨d++r⟩ e (0,0)/\iL ρ p.flatten d/\(d++r).length=k*z/\k<=maxLen/\0<z
|.half c q e z,o=>∃p d d2 r,q.Perm p/\o=.cells ⟨d++(d2++r)⟩ e (0,0)/\iL ρ c d/\iL ρ p.flatten d2/\(d++(d2++r)).length=k*z/\k<=maxLen/\0<z
|.shut c e,o=>∃d r fz,o=.cells ⟨d++r⟩ e fz/\iL ρ c d
def TJ:Obj->Bool
|.number ..=>true
|_=>false
def OR.Ya{ρ k o x}(h:OR ρ k o x):TJ x=false:=by
 cases o with
 |cells c e s=>obtain⟨_,_,rfl,_⟩:=h;rfl
 |map es c=>obtain⟨rfl,_⟩:=h;rfl
 |iter m s l p=>obtain⟨_,rfl,_⟩:=h;rfl
 |loop st j f t n ps as b d=>obtain⟨_,_,rfl,_⟩:=h;rfl
 |calls op=>have e:=h;rw[e];rfl
 |bag c e=>obtain⟨_,_,_,_,rfl,_⟩:=h;rfl
 |qO c e z=>obtain⟨_,_,_,_,rfl,_⟩:=h;rfl
 |half c q e z=>obtain⟨_,_,_,_,_,rfl,_⟩:=h;rfl
 |shut c e=>obtain⟨_,_,_,rfl,_⟩:=h;rfl
def dU(w:ay):Prop:=∀(x:Nat) (o:Obj),w.heap[x]?=some o->TJ o=false
def dU.same{w w'}(h:dU w)(e:w'.heap=w.heap):dU w':=fun x o hx=>h x o (by rw[<-e];exact hx)
def dU.push{w w' o}(h:dU w)(e:w'.heap=w.heap.push o)(ho:TJ o=false):dU w':=fun x o' hx=>by
 rw[e,iK] at hx;split at hx
 .cases hx;exact ho
 exact h x o' hx
def dU.set{w w'}{x:Nat}{o}(h:dU w)(hw:w'.heap[x]?=some o)(hn:∀y,y≠x->w'.heap[y]?=w.heap[y]?)(ho:TJ o=false):dU w':=fun y o' hy=>by
 by_cases e:y=x
 .subst e;rw[hw] at hy;cases hy;exact ho
 rw[hn y e] at hy;exact h y o' hy
structure HR(ρ:jV)(h:H)(w:ay):Prop where
 fD:dU w
 ob:∀b o,h.get b=some o->∃x k o',ρ b=.at_ x k/\w.heap[x]?=some o'/\OR ρ k o o'
 inj:∀b c x k l,(h.get b).isSome=true->(h.get c).isSome=true->ρ b=.at_ x k->ρ c=.at_ x l->b=c
def TR.mono{ρ ρ'}(h:Le ρ ρ'){n t a}(ht:TR ρ n t a):TR ρ' n t a:=⟨ht.size,fun i v b=>let ⟨v',h1,h2⟩:=ht.get i v b;⟨v',h1,h2.mono h⟩⟩
def OR.mono{ρ ρ'}(h:Le ρ ρ'){k o o'}(ho:OR ρ k o o'):OR ρ' k o o':=by
 cases o with
 |cells c e s=>have⟨d,r,h1,h2,a⟩:=ho;exact⟨d,r,h1,h2.mono h,a⟩
 |map es c=>exact ho
 |iter m s l p=>
 have⟨m',h1,h2⟩:=ho;refine⟨m',h1,?_⟩;cases m<;>cases m'<;>first|trivial|exact h2|exact h2.mono h
 |loop st j f t n ps as b d=>have⟨tm,v,h1,h2,a⟩:=ho;exact⟨tm,v,h1,h2.mono h,a.mono h⟩
 |calls op=>exact ho
 |bag c e=>have⟨p,d,r,h1,h2,a⟩:=ho;exact⟨p,d,r,h1,h2,a.mono h⟩
 |qO c e z=>have⟨p,d,r,h1,h2,a,g⟩:=ho;exact⟨p,d,r,h1,h2,a.mono h,g⟩
 |half c q e z=>have⟨p,d,d2,r,h1,h2,a,g,i⟩:=ho;exact⟨p,d,d2,r,h1,h2,a.mono h,g.mono h,i⟩
 |shut c e=>have⟨d,r,u,h1,h2⟩:=ho;exact⟨d,r,u,h1,h2.mono h⟩
structure Stp(ρ:jV)(h:H)(w:ay)(ρ':jV)(h':H)(w':ay):Prop where
 le:Le ρ ρ'
 next:h.next<=h'.next
 born:∀b,ρ b=.dC->(b<h.next\/h'.next<=b)->ρ' b=.dC
 size:w.heap.size<=w'.heap.size
 log:∃l,h'.log=l++h.log/\
  (∀x o,w.heap[x]?=some o->(∀b k,b∈l->ρ b≠.at_ x k)->w'.heap[x]?=some o)/\
  (∀b x k,ρ' b=.at_ x k->ρ b=.at_ x k\/(ρ b=.dC/\(w.heap.size<=x \/ ∃c m,c∈l/\ρ c=.at_ x m)))/\
  (∀b,b∈l->(h.get b).isSome=true\/(h.next<=b/\b<h'.next))/\
  (∀b,b∉l->h'.get b=h.get b)/\
  (∀b,b∉l->ρ b≠.dC->ρ' b=ρ b)
def Stp.refl(ρ)(h)(w w')(e:w'.heap=w.heap):Stp ρ h w ρ h w':=⟨.refl ρ,aA _,fun _ h _=>h,by rw[e];exact aA _,[],rfl,fun x o hx _=>by rw[e];exact hx,fun _ _ _ h=>.inl h,fun _ h=>by simp at h,fun _ _=>rfl,fun _ _ _=>rfl⟩
def Stp.trans{ρ g f h h1 h2 w w1 w2}(a:Stp ρ h w g h1 w1)(b:Stp g h1 w1 f h2 w2):Stp ρ h w f h2 w2:=by
 have⟨l1,s,f1,o1,t1,s1,t⟩:=a.log;have⟨l2,r,f2,l,t2,s2,q⟩:=b.log;refine⟨a.le.trans b.le,bM a.next b.next,fun x hu hr=>?_,bM a.size b.size,l2++l1,by rw[r,s,Lj],fun x o hx hn=>?_,fun y x k hy=>?_,fun y hy=>?_,fun y hy=>?_,fun y hy hu=>?_⟩
 .have p:=a.next;have n:=b.next;exact b.born x (a.born x hu (by omega)) (by omega)
 .refine f2 x o (f1 x o hx fun y k hy=>hn y k (by simp[hy])) fun y k hy e=>?_;rcases o1 y x k e with h|⟨_,h|⟨c,m,hc,hm⟩⟩
  .exact hn y k (by simp[hy]) h
  .have:=(aP.1 hx).1;omega
  exact hn c m (by simp[hc]) hm
 .rcases l y x k hy with h|⟨hu,h⟩
  .rcases o1 y x k h with h|⟨hu,h|⟨c,m,hc,hm⟩⟩
   .exact .inl h
   .exact .inr ⟨hu,.inl h⟩
   exact .inr ⟨hu,.inr ⟨c,m,by simp[hc],hm⟩⟩
  have i:ρ y=.dC:=by
   rcases a.le y with h|h|h
   .exact h
   .rw[<-h];exact hu
   rw[h] at hu;cases hu
  refine .inr ⟨i,?_⟩;rcases h with h|⟨c,m,hc,hm⟩
  .exact .inl (bM a.size h)
  rcases o1 c x m hm with h|⟨_,h|⟨d,m',hd,j⟩⟩
  .exact .inr ⟨c,m,by simp[hc],h⟩
  .exact .inl h
  exact .inr ⟨d,m',by simp[hd],j⟩
 .have p:=a.next;have n:=b.next;rcases pY.1 hy with hy|hy
  .rcases t2 y hy with h|h
   .by_cases hm:y∈l1
    .rcases t1 y hm with h|h
     .exact .inl h
     exact .inr (by omega)
    rw[s1 y hm] at h;exact .inl h
   exact .inr (by omega)
  rcases t1 y hy with h|h
  .exact .inl h
  exact .inr (by omega)
 .rw[s2 y (fun h=>hy (by simp[h])),s1 y (fun h=>hy (by simp[h]))]
 have h1:=t y (fun h=>hy (by simp[h])) hu;rw[q y (fun h=>hy (by simp[h])) (by rw[h1];exact hu),h1]
section
variable{P:aH}{ρ:jV}
theorem iI{α:Type}:∀{s:Sem α} {a:α},look P s=some a->∀w,s.run P w=.ok a w
|.pure b,a,h,w=>by simp only[look,kG] at h;subst h;rfl
|.program k,a,h,w=>by simp only[look] at h;exact iI h w
|.load ..,_,h,_|.store ..,_,h,_|.new ..,_,h,_|.shape ..,_,h,_|.freeze ..,_,h,_|.frozen ..,_,h,_|.getObj ..,_,h,_|.setObj ..,_,h,_
|.choose ..,_,h,_|.sys ..,_,h,_|.mark ..,_,h,_|.halt ..,_,h,_=>by simp[look] at h
theorem add_plain{a:Addr}(h:a.spot=none)(n):a.add n=⟨a.block,a.off+n,none⟩:=by have⟨b,o,s⟩:=a;simp only at h;subst h;unfold Addr.add;split<;>simp_all
theorem uT{a r n}(h:vH a n=some r):r=⟨a.block,a.off+n,none⟩/\a.spot=none:=by
 unfold vH at h;split at h
 .rename_i hs;cases h;exact⟨rfl,hs⟩
 cases h
theorem AR.add{a a'}(h:AR ρ a a')(n):AR ρ ⟨a.block,a.off+n,none⟩ (a'.add n):=by rw[add_plain h.spot'];exact⟨h.block,by rw[h.off],rfl,rfl⟩
theorem Ef{α:Type}:∀{l:List α} {k:Nat},nth l k=l[k]?
|[],_=>by simp[nth]
|a::l,0=>rfl
|a::l,k+1=>by simp only[nth,List.getElem?_cons_succ];exact Ef
theorem CO{i y k}(h:small i y=some k):i=(k)/\k<y:=by
 unfold small at h;split at h
 .split at h
  .rename_i hb;cases h;exact⟨rfl,by rw[ik] at hb;exact hb⟩
  cases h
 cases h
theorem VR.lD{a v'}(h:VR ρ (.pointer (some a)) v'):∃a',v'=.pointer (some a')/\AR ρ a a':=by
 cases h with
 |same h=>cases h
 |ptr h=>exact⟨_,rfl,h⟩
theorem VR.Eh{k i v'}(h:VR ρ (.int k i) v'):v'=.int k i:=by cases h;rfl
theorem VR.gZ{b v'}(h:VR ρ (.bool b) v'):v'=.bool b:=by cases h;rfl
theorem VR.Yn{b v'}(h:VR ρ (.string b) v'):v'=.string b:=by cases h;rfl
theorem VR.kE{a n c v'}(h:VR ρ (.slice (some a) n c) v'):∃a' c',v'=.slice (some a') n c'/\AR ρ a a'/\CR ρ a n c c':=by
 cases h with
 |same h=>cases h
 |slice h hc=>exact⟨_,_,rfl,h,hc⟩
theorem VR.nP{n c v'}(h:VR ρ (.slice none n c) v'):v'=.slice none n c:=by cases h;rfl
theorem VR.Z9{cs v'}(h:VR ρ (.agg ⟨cs⟩) v'):∃cs',v'=.agg ⟨cs'⟩/\iL ρ cs cs':=by
 cases h with
 |same h=>cases h
 |agg h=>exact⟨_,rfl,h⟩
theorem VR.Ri{cs v'}(h:VR ρ (.tuple ⟨cs⟩) v'):∃cs',v'=.tuple ⟨cs'⟩/\iL ρ cs cs':=by
 cases h with
 |same h=>cases h
 |tuple h=>exact⟨_,rfl,h⟩
theorem VR.TZ{r v'}(h:VR ρ (.map (some r)) v'):∃r',v'=.map (some r')/\BR ρ r r':=by
 cases h with
 |same h=>cases h
 |map h=>exact⟨_,rfl,h⟩
theorem VR.vF{b n c v'}(h:VR ρ (.slice b n c) v'):∃b' c',v'=.slice b' n c'/\(c<soft->c'=c):=by
 cases b with
 |none=>obtain rfl:=h.nP;exact⟨_,_,rfl,fun _=>rfl⟩
 |some a=>
 obtain⟨a',c',rfl,_,hc⟩:=h.kE;refine⟨_,_,rfl,fun d=>?_⟩;rcases hc with h|h
 .exact h.2
 omega
def Env(ρ:jV)(ρE:fH->aB ae)(ρr:fH->ae):Prop:=∀x v,ρE x=some v->VR ρ v (ρr x)
variable{ρE:fH->aB ae}{ρr:fH->ae}
theorem Env.opts(b:Env ρ ρE ρr):∀{xs:List fH} {a:List ae},opts ρE xs=some a->iL ρ a (xs.map ρr)
|[],a,h=>by simp only[Ev.opts,kG] at h;subst h;exact .nil
|x::xs,a,h=>by
 simp only[Ev.opts] at h;split at h
 .rename_i v c h1 h2;cases h;exact .cons (b _ _ h1) (b.opts h2)
 cases h
theorem Env.opt(b:Env ρ ρE ρr){x:aB fH}{v:aB ae}(h:opt ρE x=some v):(v=none/\x.map ρr=none) \/ ∃u a,v=some u/\x.map ρr=some a/\VR ρ u a:=by
 cases x with
 |none=>simp only[Ev.opt,kG] at h;exact .inl ⟨h.symm,rfl⟩
 |some x=>
 simp only[Ev.opt] at h;split at h
 .rename_i u hu;cases h;exact .inr ⟨u,_,rfl,rfl,b _ _ hu⟩
 cases h
theorem aei{t v v' r f}(h:YA P t v f=some r)(d:VR ρ v v')(w):∃r',(Instr.fieldAt t v' f).run P w=.ok r' w/\VR ρ r r':=by
 unfold YA at h;split at h
 .rename_i fs a ht
  split at h
  .rename_i g hg
   split at h
   .rename_i i hi
    split at h
    .cases h
    rename_i c;split at h
    .rename_i a1 ha;cases h;obtain⟨a',rfl,b⟩:=d.lD;obtain⟨rfl,_⟩:=uT ha;refine⟨.pointer _,?_,.ptr (b.add _)⟩;have hne:i.size≠0:=fun e=>by rw[e] at c;cases c
     rw[Ef] at hg;have hg:fs[f]?=some g:=by simpa using hg
     simp[Instr.fieldAt,iQ ht,hg,Instr.sureAddr,fieldPlace,sizeOf,typeInfo,hi,hne]
    cases h
   cases h
  cases h
 cases h
theorem ahM{n e a a' i}{k:IntKind}{r}(h:Oy.at_ P n e a i=some r)(ha:AR ρ a a')(w:ay):∃r' j,(0<=i/\i<n)/\P.info? e=some j/\r'=.pointer (some (a'.add (i.toNat*j.size)))/\VR ρ r r':=by
 unfold Oy.at_ at h;split at h
 .rename_i m j hs hi
  split at h
  .rename_i a1 h1;cases h;obtain⟨rfl,_⟩:=uT h1;obtain⟨rfl,b⟩:=CO hs;exact⟨_,j,by omega,hi,rfl,.ptr (by simpa using ha.add _)⟩
  cases h
 cases h
theorem adP{t v v' i i' r}(h:Oy P t v i=some r)(b:VR ρ v v')(hi:VR ρ i i')(w):∃r',(Instr.indexAt t v' i').run P w=.ok r' w/\VR ρ r r':=by
 unfold Oy at h;split at h
 .rename_i k i;obtain rfl:=hi.Eh
  split at h
  .rename_i n e a ht;obtain⟨a',rfl,ha⟩:=b.lD;obtain⟨r',j,hb,hj,rfl,hr⟩:=ahM (k:=k) h ha w;refine⟨_,?_,hr⟩;simp[Instr.indexAt,asIntOf,iQ ht,Instr.sureAddr,hb,sizeOf,typeInfo,hj]
  .rename_i e a n c ht;obtain⟨a',c',rfl,ha,_⟩:=b.kE;obtain⟨r',j,hb,hj,rfl,hr⟩:=ahM (k:=k) h ha w;refine⟨_,?_,hr⟩;simp[Instr.indexAt,asIntOf,iQ ht,hb,sizeOf,typeInfo,hj]
  cases h
 cases h
theorem Aj{x d y l}(h:um x d y=some l):(x=none/\l=d) \/ ∃k,x=some (.int k (l))/\l<=y:=by
 unfold um at h;split at h
 .cases h;exact .inl ⟨rfl,rfl⟩
 .obtain⟨rfl,hl⟩:=CO h;exact .inr ⟨_,rfl,by omega⟩
 cases h
def J7(ρ:jV)(x x':aB ae):Prop:=(x=none/\x'=none) \/ ∃u u',x=some u/\x'=some u'/\VR ρ u u'
theorem J7.none{x':aB ae}(h:J7 ρ none x'):x'=none:=by
 rcases h with⟨_,h⟩|⟨_,_,h,_⟩
 .exact h
 cases h
theorem J7.int{k i x'}(h:J7 ρ (some (.int k i)) x'):x'=some (.int k i):=by
 rcases h with⟨h,_⟩|⟨u,u',h,rfl,a⟩
 .cases h
 cases h;rw[a.Eh]
theorem run_sliceBound{k}{l y:Nat}(h:l<=y)(c)(w):(Instr.sliceBound (.int k (l)) y c).run P w=.ok l w:=by simp[Instr.sliceBound,asIntOf,h]
theorem Ai{o hi p f i d n a l h m}(e:IB o hi p n a=some (l,h,m))(h1:J7 ρ o f)(h2:J7 ρ hi i)(q:J7 ρ p d)(b){cap}(hc:a<=cap)(w):(Instr.sliceBounds b n cap f i d).run P w=.ok (l,h,m.getD cap) w/\l<=h/\(hi=none->h=n)/\(hi≠none->h<=a)/\(∀k,m=some k->k<=a/\h<=k):=by
 unfold IB at e;cases p with
 |none=>
  obtain rfl:=q.none;cases c:um hi n a with
  |none=>simp[c] at e
  |some h0=>
   cases el:um o 0 h0 with
   |none=>simp[c,el] at e
   |some l0=>
   simp[c,el,kG,uI] at e;obtain⟨rfl,rfl,rfl⟩:=e;rcases Aj c with⟨rfl,rfl⟩|⟨k,rfl,hh⟩
   .obtain rfl:=h2.none;rcases Aj el with⟨rfl,rfl⟩|⟨k,rfl,hl⟩
    .obtain rfl:=h1.none;exact⟨by simp[Instr.sliceBounds],by omega,fun _=>rfl,fun h=>absurd rfl h,fun _ h=>by cases h⟩
    rw[h1.int];exact⟨by simp[Instr.sliceBounds,run_sliceBound hl],hl,fun _=>rfl,fun h=>absurd rfl h,fun _ h=>by cases h⟩
   rw[h2.int];have j:=bM hh hc;rcases Aj el with⟨rfl,rfl⟩|⟨k,rfl,hl⟩
   .obtain rfl:=h1.none;exact⟨by simp[Instr.sliceBounds,run_sliceBound j],by omega,fun h=>(by cases h),fun _=>hh,fun _ h=>by cases h⟩
   rw[h1.int];exact⟨by simp[Instr.sliceBounds,run_sliceBound hl,run_sliceBound j],hl,fun h=>(by cases h),fun _=>hh,fun _ h=>by cases h⟩
 |some u=>
  cases hi with
  |none=>simp at e
  |some r=>
   cases em:um (some u) a a with
   |none=>simp[em] at e
   |some s=>
    cases c:um (some r) n s with
    |none=>simp[em,c] at e
    |some h0=>
     cases el:um o 0 h0 with
     |none=>simp[em,c,el] at e
     |some l0=>
     simp[em,c,el,kG,uI] at e;obtain⟨rfl,rfl,rfl⟩:=e;rcases Aj em with⟨hx,_⟩|⟨k,hx,hm⟩
     .cases hx
     cases hx;rw[q.int];have g:=bM hm hc;rcases Aj c with⟨hx,_⟩|⟨k,hx,hh⟩
     .cases hx
     cases hx;rw[h2.int];rcases Aj el with⟨rfl,rfl⟩|⟨k,rfl,hl⟩
     .obtain rfl:=h1.none;exact⟨by simp[Instr.sliceBounds,run_sliceBound g,run_sliceBound hh],by omega,fun h=>(by cases h),fun _=>by omega,fun _ h=>by cases h;exact⟨hm,hh⟩⟩
     rw[h1.int];exact⟨by simp[Instr.sliceBounds,run_sliceBound g,run_sliceBound hh,run_sliceBound hl],hl,fun h=>(by cases h),fun _=>by omega,fun _ h=>by cases h;exact⟨hm,hh⟩⟩
theorem Tv{a a' size l h m r}(e:partOf a size l h m=some r)(ha:AR ρ a a'):VR ρ r (.slice (some (if m=l then a' else a'.add (l*size))) (h-l) (m-l)):=by
 unfold partOf at e;split at e
 .rename_i a1 h1 hs;cases e;obtain⟨rfl,_⟩:=uT h1;rw[ik] at hs;by_cases hm:m=l
  .subst hm;simp[Nat.beq_refl,je];exact .slice ha (.inl ⟨by omega,rfl⟩)
  have hb:Nat.beq m l=false:=by
   cases hb:Nat.beq m l
   .rfl
   exact absurd (bG hb) hm
  rw[hb,aU hm];exact .slice (ha.add _) (.inl ⟨by omega,rfl⟩)
 cases e
theorem aeT{g hi f c d b n e a a' r}(h:Nh.arr P g hi f n e a=some r)(h1:J7 ρ g c)(h2:J7 ρ hi d)(j:J7 ρ f b)(ha:AR ρ a a')(w):∃l h' m i,(Instr.sliceBounds false n n c d b).run P w=.ok (l,h',m) w/\P.info? e=some i/\VR ρ r (.slice (some (if m=l then a' else a'.add (l*i.size))) (h'-l) (m-l)):=by
 unfold Nh.arr at h;split at h
 .rename_i l h0 m i k hi
  obtain⟨hr,_⟩:=Ai k h1 h2 j false (aA n) w;exact⟨l,h0,_,i,hr,hi,Tv h ha⟩
 cases h
theorem acI{t x x' r y hi v g q f}(h:Nh P t x y hi v=some r)(hx:VR ρ x x')(h1:J7 ρ y g)(h2:J7 ρ hi q)(c:J7 ρ v f)(w):∃r',(Instr.sliceAt t x' g q f).run P w=.ok r' w/\VR ρ r r':=by
 unfold Nh at h;split at h
 .rename_i e a n cap ht
  split at h
  .rename_i hs;rw[ik] at hs
   split at h
   .rename_i l hh m i d hi
    split at h
    .rename_i a;obtain⟨a',c',rfl,ha,hc⟩:=hx.kE;obtain rfl:c'=cap:=by rcases hc with hc|hc<;>omega
     have⟨hr,_⟩:=Ai (P:=P) d h1 h2 c true (aA _) w;refine⟨_,?_,Tv h ha⟩;simp[Instr.sliceAt,Instr.slice,iQ ht,hr,sizeOf,typeInfo,hi];split<;>simp_all
    obtain rfl:=hx.nP;cases h;have⟨hr,_⟩:=Ai (P:=P) d h1 h2 c true (aA _) w;refine⟨_,?_,.same rfl⟩;simp[Instr.sliceAt,Instr.slice,iQ ht,hr,sizeOf,typeInfo,hi]
   cases h
  rename_i hs;have hs:soft<=cap:=by
   cases hb:Nat.blt cap soft
   .by_cases k:cap<soft
    .rw[<-ik] at k;rw[k] at hb;cases hb
    omega
   rw[hb] at hs;cases hs
  split at h
  .rename_i l hh m i a d hi;obtain⟨a',c',rfl,ha,hc⟩:=hx.kE;have⟨hn,hk⟩:=hc.elim (fun hc=>absurd hc.1 (by omega)) (·.2);have⟨hr,_⟩:=Ai (P:=P) d h1 h2 c true hn w;refine⟨_,?_,Tv h ha⟩;simp[Instr.sliceAt,Instr.slice,iQ ht,hr,sizeOf,typeInfo,hi]
   split<;>simp_all
  .rename_i hh i b o d u;cases h;obtain⟨a',c',rfl,ha,hc⟩:=hx.kE;have⟨hn,hk⟩:=hc.elim (fun hc=>absurd hc.1 (by omega)) (·.2);have⟨hr,_,A,z,_⟩:=Ai (P:=P) d h1 h2 c true hn w;have B:hh<=n:=by
    by_cases e:hi=none
    .exact Sr (A e)
    exact z e
   refine⟨.slice _ hh c',?_,.slice ha (.inr ⟨hs,by omega,hk⟩)⟩;simp[Instr.sliceAt,Instr.slice,iQ ht,hr,sizeOf,typeInfo,u,add_plain ha.spot'];intro _;have j:=ha.spot';have⟨_,_,_⟩:=a';simp only at j;rw[j]
  cases h
 .rename_i n e a ht;obtain⟨a',rfl,ha⟩:=hx.lD;have⟨l,h',m,i,hr,hi,s⟩:=aeT h h1 h2 c ha w;refine⟨_,?_,s⟩;simp[Instr.sliceAt,iQ ht,Instr.sureAddr,hr,sizeOf,typeInfo,hi]
 .rename_i p a ht
  split at h
  .rename_i n e hp;obtain⟨a',rfl,ha⟩:=hx.lD;have⟨l,h',m,i,hr,hi,s⟩:=aeT h h1 h2 c ha w;refine⟨_,?_,s⟩;simp[Instr.sliceAt,Instr.slice,iQ ht,iQ hp,asAddr,hr,sizeOf,typeInfo,hi]
  cases h
 cases h
theorem II{t d}(ht:P.underlying t=some d)(w):(isAgg t).run P w=.ok (aeV d) w:=by cases d<;>simp[isAgg,iQ ht,aeV]
theorem VT{t cs cs' off r}(h:ZN P t cs off=some r)(a:iL ρ cs cs')(w):∃r',(part t ⟨cs'⟩ off).run P w=.ok r' w/\VR ρ r r':=by
 unfold ZN at h;split at h
 .rename_i d i ht hi
  split at h
  .rename_i hd
   split at h
   .rename_i l hl;cases h;obtain⟨rfl,b⟩:=O4 hl;refine⟨.agg _,?_,.agg ((a.drop off).take _)⟩;simp[part,II ht,hd,sizeOf,typeInfo,hi]
    first
     |done
     |(rw[List.extract_eq_take_drop];first|rfl|(congr 3;omega))
   cases h
  rename_i hd;rw[Ef] at h;have⟨r',h1,h2⟩:=a.get h;refine⟨r',?_,h2⟩;simp[part,II ht,hd,h1]
 cases h
theorem QS:∀{fs:List (Nat×aZ)} {l:List (Nat×Nat)},places P fs=some l->∀w,((fs.mapM fun f=>do pure (f.1,<-sizeOf f.2):Sem (List (Nat×Nat)))).run P w=.ok l w
|[],l,h,w=>by simp only[places,kG] at h;subst h;rfl
|(off,t)::fs,l,h,w=>by
 simp only[places] at h;split at h
 .rename_i i l' hi hl;cases h;have:=QS hl w;have hs:(Go.sizeOf t).run P w=.ok i.size w:=by simp[Go.sizeOf,typeInfo,hi]
  simp at this;simp[Xk,hs,this]
 cases h
theorem Rx(b:Env ρ ρE ρr){xs a}(h:opts ρE xs=some a)(hf:kY a=true):xs.map ρr=a:=(b.opts h).kY hf
theorem iL.set{l l'}(h:iL ρ l l'){v v'}(b:VR ρ v v'):∀k,iL ρ (l.set k v) (l'.set k v'):=by
 induction h using iL.rec (motive_1:=fun _ _ _=>True) with
 |nil=>intro k;simpa using .nil
 |cons h1 h2 _ a=>
  intro k;cases k with
  |zero=>exact .cons b h2
  |succ k=>exact .cons h1 (a k)
 |_=>trivial
theorem aaj:∀{cs cs':List ae} (hc:iL ρ cs cs') (off j:Nat) {a a':List ae},iL ρ a a'->iL ρ ((cs.zipIdx j).foldl (fun(x:Array ae) (c:ae×Nat)=>x.setIfInBounds (off+c.2) c.1) ⟨a⟩).toList ((cs'.zipIdx j).foldl (fun(x:Array ae) (c:ae×Nat)=>x.setIfInBounds (off+c.2) c.1) ⟨a'⟩).toList
|_,_,.nil,off,j,a,a',h=>h
|_,_,.cons (v:=v) (v':=v') b hs,off,j,a,a',h=>by
 simp only[List.zipIdx_cons,List.foldl_cons];have e:∀(x:List ae) (u:ae),(⟨x⟩:Array ae).setIfInBounds (off+j) u=⟨x.set (off+j) u⟩:=fun x u=>by apply tV;simp
 rw[e,e];exact aaj hs off (j+1) (h.set b _)
theorem Ir(pl:Nat->aB (Nat×Nat)):∀{ps:List Nat} {c a:List ae} (_:iL ρ c a) {cs cs':List ae} (_:iL ρ cs cs') {r:Array ae},Instr.fill pl ⟨cs⟩ (ps.zip c)=some r->∃r',Instr.fill pl ⟨cs'⟩ (ps.zip a)=some r'/\iL ρ r.toList r'.toList
|[],_,_,_,cs,cs',hc,r,h=>by simp[Instr.fill] at h⊢;subst h;exact hc
|p::ps,_,_,.nil,cs,cs',hc,r,h=>by simp[Instr.fill] at h⊢;subst h;exact hc
|p::ps,_,_,.cons (v:=v) (v':=v') d hs,cs,cs',hc,r,h=>by
 simp only[List.zip_cons_cons,Instr.fill] at h⊢;cases hp:pl p with
 |none=>simp[hp] at h
 |some x=>
 have⟨off,size⟩:=x;simp only[hp] at h⊢;have f:v'.cells.size=v.cells.size:=by have:=d.cells.length;simpa using this
 have e:(⟨cs'⟩:Array ae).size=(⟨cs⟩:Array ae).size:=by simpa using hc.length
 rw[f,e];split at h
 .cases h
 rename_i hn;rw[aU hn];have b:=aaj d.cells off 0 hc;have z1:v.cells.zipIdx=⟨v.cells.toList.zipIdx⟩:=by apply tV;simp
 have z2:v'.cells.zipIdx=⟨v'.cells.toList.zipIdx⟩:=by apply tV;simp
 rw[z1] at h;rw[z2];simp only[<-EW] at h⊢;exact Ir pl hs b h
theorem map_snd{ps:Array (Nat×fH)}:(ps.map fun(i,x)=>(i,ρr x)).toList=(ps.toList.map (·.1)).zip (ps.toList.map (ρr ·.2)):=by
 simp[DI];induction ps.toList with
 |nil=>rfl
 |cons p l ih=>simp[ih]
theorem nH{t z}(h:zeroOf P t=some z)(w):(zeroValue t).run P w=.ok z w/\flat z=true:=by
 unfold zeroOf at h;split at h
 .rename_i i hi
  split at h
  .rename_i z' a
   split at h
   .rename_i hf;cases h;exact⟨by simp[zeroValue,typeInfo,hi,a],hf⟩
   cases h
  cases h
 cases h
theorem Aa{x v}(h:KI x=some v):x=some v/\flat v=true:=by
 unfold KI at h;split at h
 .split at h
  .rename_i hf;cases h;exact⟨rfl,hf⟩
  cases h
 cases h
theorem pO{o:bn}{c b}(hb:c.callee=.builtin b)(w) :
  (do let d <- resolve ρr c o.type;invoke d.target d.args:Sem Next).run P w=(builtin b c.argTypes o.type (c.args.map fun|.const _=>true|_=>false) (c.args.map ρr)).run P w:=by
 simp[resolve,hb,invoke];rfl
theorem agb{ρ d a b a' b'}(hn:Qp d a b=true)(ha:VR ρ a a')(hb:VR ρ b b'):Qp d a' b'=true:=by
 unfold Qp at hn;split at hn;all_goals first|(cases hn;done)|skip
 all_goals cases ha<;>cases hb<;>first|rfl|(rename_i h1 h2;first|(cases h1;done)|(cases h2;done))|(rename_i h1;cases h1;done)
theorem adn{t d a b}(ht:P.underlying t=some d)(hn:Qp d a b=true)(w):(Op.equal t a b).run P w=.ok false w/\∀(op) (x y),(eqGuard op t x y a b).run P w=.ok () w:=by
 have hu:(underlying t).run P w=.ok d w:=by simp[underlying,ht]
 have he:∀a b,Op.equal t a b=Op.equalIn (9999+1) t a b:=fun _ _=>rfl;unfold Qp at hn;split at hn;all_goals first|(cases hn;done)|skip
 all_goals refine⟨by rw[he];unfold Op.equalIn;simp[hu],fun op x y=>?_⟩
 all_goals cases op<;>simp[eqGuard]
theorem adp{t d a b}(hn:Qp d a b=true):binOp .eql t a b=(do pure (.bool (<- Op.equal t a b))):=by unfold Qp at hn;split at hn;all_goals first|(cases hn;done)|rfl
theorem ado{t d a b}(hn:Qp d a b=true):binOp .neq t a b=(do pure (.bool (!(<- Op.equal t a b)))):=by unfold Qp at hn;split at hn;all_goals first|(cases hn;done)|rfl
theorem aek{op a b v}(h:ael op a b=some v):flat a=true/\flat b=true/\flat v=true/\∀{P} (t) (x y) (w),(eqGuard op t x y a b).run P w=.ok () w/\(binOp op t a b).run P w=.ok v w:=by
 unfold ael at h;split at h;case h_2=>cases h
 rename_i m n;have hb:∀p q,Nat.beq p q=decide ((p:Int)=q):=fun p q=>by
  cases e:Nat.beq p q
  .have:=Nat.ne_of_beq_eq_false e;symm;simp;omega
  have:=bG e;symm;simp;omega
 have hl:∀p q,Nat.ble p q=decide _:=fun p q=>by
  cases e:Nat.ble p q
  .have:¬p<=q:=fun h1=>by rw[ae3 h1] at e;cases e
   symm;simp;omega
  have:=iF e;symm;simp;omega
 have ht:∀p q,Nat.blt p q=decide _:=fun p q=>by
  cases e:Nat.blt p q
  .have:¬p<q:=fun h1=>by rw[<-ik] at h1;rw[h1] at e;cases e
   symm;simp;omega
  rw[ik] at e;symm;simp;omega
 split at h
 .split at h
  .rename_i hs;rw[ik] at hs;cases h;refine⟨rfl,rfl,rfl,fun t x y w=>⟨by simp[eqGuard],?_⟩⟩;have:IntKind.i64.wrap ((m)+n)=(m+n:Nat):=by rw[IntKind.wrap_i64];omega
   simp[binOp,Op.intArith,this]
  cases h
 all_goals first
  |(cases h;done)
  |(cases h
    refine⟨rfl,rfl,rfl,fun t x y w=>⟨by simp[eqGuard],?_⟩⟩;simp[binOp,Op.intCmp,hb,hl,ht,bne];try rfl)
theorem fast_ok{op a b v}(h:aej op a b=some v):flat a=true/\flat b=true/\flat v=true/\∀{P} (t) (x y) (w),(eqGuard op t x y a b).run P w=.ok () w/\(binOp op t a b).run P w=.ok v w:=by unfold aej at h;split at h;all_goals first|(cases h;done)|exact aek h
theorem pure_ok{o v}(p:Env ρ ρE ρr)(h:sZ P ρE o.op=some v)(w):∃v',(execOp ρr o).run P w=.ok (.value v') w/\VR ρ v v':=by
 unfold execOp;cases N:o.op<;>rw[N] at h<;>simp[sZ] at h<;>try (cases h;done)
 case move x=>exact⟨_,rfl,p _ _ h⟩
 case assign x=>exact⟨_,rfl,p _ _ h⟩
 case pick c a b=>
  split at h
  .rename_i hc;have:=(p _ _ hc).gZ;exact⟨ρr a,by simp[this,asBool],p _ _ h⟩
  .rename_i hc;have:=(p _ _ hc).gZ;exact⟨ρr b,by simp[this,asBool],p _ _ h⟩
  cases h
 case nilCheck x=>
  split at h
  .rename_i a ha
   cases h;have⟨a',e,Q⟩:=(p _ _ ha).lD;exact⟨_,by simp[e],.ptr Q⟩
  cases h
 case fieldAddr t x f=>
  split at h
  .rename_i u hu
   have⟨r',h1,h2⟩:=aei h (p _ _ hu) w;exact⟨r',by simp[h1],h2⟩
  cases h
 case indexAddr t x i=>
  split at h
  .rename_i u j hu hj
   have⟨r',h1,h2⟩:=adP h (p _ _ hu) (p _ _ hj) w;exact⟨r',by simp[h1],h2⟩
  cases h
 case slice t x lo hi mx=>
  split at h
  .rename_i u l m n hu hl hm hn
   have⟨r',h1,h2⟩:=acI h (p _ _ hu) (p.opt hl) (p.opt hm) (p.opt hn) w;exact⟨r',by simp[h1],h2⟩
  cases h
 case field t x f=>
  split at h
  .rename_i fs cs ht hx
   split at h
   .rename_i g hg
    have⟨cs',e,hcs⟩:=(p _ _ hx).Z9;have⟨r',h1,h2⟩:=VT h hcs w;rw[Ef] at hg;have hg:fs[f]?=some g:=by simpa using hg
    exact⟨r',by simp[Instr.field,iQ ht,hg,e,asAgg,h1],h2⟩
   cases h
  cases h
 case index t x i=>
  split at h
  .rename_i n e cs k i ht hx hi
   split at h
   .rename_i m j hm hj
    have⟨cs',F,hcs⟩:=(p _ _ hx).Z9;have r:=(p _ _ hi).Eh;have⟨r',h1,h2⟩:=VT h hcs w;obtain⟨rfl,O⟩:=CO hm;exact⟨r',by simp[Instr.index,r,asIntOf,iQ ht,F,O,sizeOf,typeInfo,hj,h1],h2⟩
   cases h
  .rename_i s k i ht hx hi
   have F:=(p _ _ hx).Yn;have r:=(p _ _ hi).Eh;have⟨hl,hf⟩:=Aa h;have hr:=iI hl w;exact⟨v,by simp[F,r,hr],dX hf⟩
  cases h
 case extract x k=>
  split at h
  .rename_i T hx
   have⟨S,e,C⟩:=(p _ _ hx).Ri;have⟨r',h1,h2⟩:=C.nth h;exact⟨r',by simp[Instr.extract,e,h1],h2⟩
  cases h
 case makeFunc fn a b=>
  split at h
  .rename_i a' b' ha hb hf
   cases h;cases fn<;>simp at hf;rename_i f;exact⟨.func (.func f) (a.map ρr) (b.map ρr),by simp[Instr.makeFunc],by have h1:=p.opts ha;have h2:=p.opts hb;rw[<-DI] at h1 h2;exact .func h1 h2⟩
  cases h
 case build t ps=>
  split at h
  .rename_i T z C U
   have⟨H,L⟩:=nH U w;have G:=(dX L:VR ρ z z).cells;have D:=p.opts C;rw[Lh] at D;split at h
   .rename_i fs ht
    split at h
    .rename_i pl M
     split at h
     .rename_i cs hf
      cases h;have⟨cs',h1,h2⟩:=Ir (fun i=>nth pl i) D G hf;refine⟨.agg cs',?_,.agg h2⟩;have hp:=QS M w;have hm:((fs.mapM fun f=>do pure (f.offset,<-Go.sizeOf f.type):Sem _)).run P w=.ok ⟨pl⟩ w:=by
       rw[Xj];have e:(List.mapM (fun f=>do pure (f.offset,<-Go.sizeOf f.type):Field->Sem _) fs.toList)=((fs.toList.map fun f=>(f.offset,f.type)).mapM fun f=>do pure (f.1,<-Go.sizeOf f.2)):=by rw[List.mapM_map];rfl
       rw[e];simp at hp⊢;rw[hp];rfl
      have r:(fun i=>(⟨pl⟩:Array _)[i]?)=fun i=>nth pl i:=by funext i;rw[Ef];simp
      simp only[Instr.build,yC,H,Result.andThen_ok,iQ ht,hm,map_snd,r];have E:Instr.fill (fun i=>nth pl i) z.cells ((ps.toList.map (·.1)).zip (ps.toList.map (ρr ·.2)))=some cs':=h1;simp[E]
     cases h
    cases h
   .rename_i n e ht
    split at h
    .rename_i j hj
     split at h
     .rename_i cs hf
      cases h;have⟨cs',h1,h2⟩:=Ir (fun i=>some _) D G hf;refine⟨.agg cs',?_,.agg h2⟩;have E:Instr.fill (fun i=>some _) z.cells ((ps.toList.map (·.1)).zip (ps.toList.map (ρr ·.2)))=some cs':=h1;simp only[Instr.build,yC,H,Result.andThen_ok,iQ ht,map_snd,Go.sizeOf,typeInfo];simp[hj,E]
     cases h
    cases h
   cases h
  cases h
 case call c=>
  split at h
  .rename_i n cap sl hc hx
   have hs:=p.opts hx;split at h
   .rename_i e ht
    cases h;cases ha:c.argTypes[0]? with
    |none=>simp[ha] at ht
    |some t0=>
    simp only[ha] at ht;have⟨y,B,A⟩:=hs.get (k:=0) rfl;obtain⟨b',c',rfl,_⟩:=A.vF;have hy:(c.args.map ρr)[0]?=some (.slice b' cap c'):=by simpa using B
    refine⟨.int .i64 cap,?_,.same rfl⟩
    have:=pO (P:=P) (ρr:=ρr) (o:=o) hc w
    rw[this];simp[builtin,Builtin.len_,ha,hy,iQ ht,goInt]
   cases h
  .rename_i bs n cap hc hx
   have hs:=p.opts hx;split at h
   .rename_i e hb ht
    cases h;cases ha:c.argTypes[0]? with
    |none=>simp[ha] at ht
    |some t0=>
    simp only[ha] at ht;have⟨y,B,A⟩:=hs.get (k:=0) rfl;obtain⟨b',c',rfl,I⟩:=A.vF;rw[ik] at hb;obtain rfl:=I hb;have hy:(c.args.map ρr)[0]?=some (.slice b' n c'):=by simpa using B
    refine⟨.int .i64 c',?_,.same rfl⟩
    have:=pO (P:=P) (ρr:=ρr) (o:=o) hc w
    rw[this];simp[builtin,Builtin.cap_,ha,hy,iQ ht,goInt]
   cases h
  .rename_i x xs hc hx
   split at h
   .rename_i hf
    have⟨hl,q⟩:=Aa h;have e:=Rx p hx hf;have R:c.args.map ρr=⟨x::xs⟩:=by apply tV;simpa using e
    refine⟨v,?_,dX q⟩;have hr:=iI hl w;rw[pO hc w,R];have:(Builtin.min_ c.argTypes o.type ⟨x::xs⟩).run P w=.ok v w:=hr;simp[builtin,this]
   cases h
  .rename_i x xs hc hx
   split at h
   .rename_i hf
    have⟨hl,q⟩:=Aa h;have e:=Rx p hx hf;have R:c.args.map ρr=⟨x::xs⟩:=by apply tV;simpa using e
    refine⟨v,?_,dX q⟩;have hr:=iI hl w;rw[pO hc w,R];have:(Builtin.max_ c.argTypes o.type ⟨x::xs⟩).run P w=.ok v w:=hr;simp[builtin,this]
   cases h
  cases h
 case binOp op t x y u=>
  split at h
  .rename_i a b ha hb
   split at h
   .rename_i v' q
    cases h;have⟨f1,f2,f3,f4⟩:=fast_ok q;have F:=(p _ _ ha).flat f1;have r:=(p _ _ hb).flat f2;have⟨g1,K⟩:=f4 (P:=P) t x y w;exact⟨v,by simp[F,r,g1,K],dX f3⟩
   split at h
   .rename_i J fb
    have F:=(p _ _ ha).flat J;have r:=(p _ _ hb).flat fb;split at h
    .rename_i g hg
     have⟨hl,q⟩:=Aa h;have h1:=iI hg w;have h2:=iI hl w;exact⟨v,by simp[F,r,h1,h2],dX q⟩
    cases h
   split at h;case h_2=>cases h
   rename_i d hd;split at h;case h_2=>cases h
   rename_i hn;have hn:=agb hn (p _ _ ha) (p _ _ hb);have⟨g1,K⟩:=adn (P:=P) hd hn w;split at h
   .cases h
    exact⟨.bool false,by simp[g1,K,adp hn],.same rfl⟩
   .cases h
    exact⟨.bool true,by simp[g1,K,ado hn],.same rfl⟩
   cases h
  cases h
 case unOp op t x=>
  split at h
  .rename_i a ha
   split at h
   .rename_i J
    have⟨hl,q⟩:=Aa h;have h1:=iI hl w;exact⟨v,by simp[(p _ _ ha).flat J,h1],dX q⟩
   cases h
  cases h
 case convert s d x=>
  split at h
  .rename_i a ha
   split at h
   .rename_i J
    have⟨hl,q⟩:=Aa h;have h1:=iI hl w;exact⟨v,by simp[(p _ _ ha).flat J,h1],dX q⟩
   cases h
  cases h
def upd(ρ:jV)(b:Nat)(n:Nm):jV:=fun c=>if c=b then n else ρ c
theorem upd_same(ρ)(b)(n):upd ρ b n b=n:=by simp[upd]
theorem bJ(ρ){b c}(n)(h:c≠b):upd ρ b n c=ρ c:=by simp[upd,h]
theorem rE{b}(h:ρ b=.dC)(n):Le ρ (upd ρ b n):=fun c=>by
 by_cases e:c=b
 .subst e;exact .inl h
 exact .inr (.inl (bJ ρ n e))
theorem Ig(b):Le ρ (upd ρ b .dead):=fun c=>by
 by_cases e:c=b
 .subst e;exact .inr (.inr (upd_same _ _ _))
 exact .inr (.inl (bJ ρ _ e))
theorem HR.lt{h w}(hr:HR ρ h w){b x k o}(hb:h.get b=some o)(e:ρ b=.at_ x k):x<w.heap.size:=by have⟨y,l,o',h1,h2,_⟩:=hr.ob b o hb;rw[e] at h1;cases h1;exact(aP.1 h2).1
theorem Di{h h' o r}(e:h.new o=some (r,h'))(hu:ρ r=.dC){w w' o'}(hw:w'.heap=w.heap.push o')(hr:HR ρ h w)(k)(ho:OR (upd ρ r (.at_ w.heap.size k)) k o o'):Stp ρ h w (upd ρ r (.at_ w.heap.size k)) h' w'/\HR (upd ρ r (.at_ w.heap.size k)) h' w':=by
 have⟨e1,e2,e3,j⟩:=H.mG e;have g:h'.log=r::h.log:=by
  unfold H.new at e;split at e
  .cases e;rfl
  cases e
 have t:Le ρ (upd ρ r (.at_ w.heap.size k)):=rE hu _;refine⟨⟨t,by omega,fun b hb hx=>?_,by rw[hw];simp,[r],by rw[g];rfl,fun x o hx _=>?_,fun b x m hb=>?_,fun b hb=>?_,fun b hb=>?_,fun b hb hn=>?_⟩,hr.fD.push hw ho.Ya,fun b ob hb=>?_,fun b c x u n hb hc h1 h2=>?_⟩
 .rw[bJ]
  .exact hb
  intro e;omega
 .rw[hw,iK,aU]
  .exact hx
  have:=(aP.1 hx).1;omega
 .by_cases p:b=r
  .subst p;rw[upd_same] at hb;cases hb;exact .inr ⟨hu,.inl (aA _)⟩
  rw[bJ _ _ p] at hb;exact .inl hb
 .rw[eY.1 hb];exact .inr (by omega)
 .rw[j];rw[aU (by simpa using hb)]
 .rw[bJ _ _ (by simpa using hb)]
 .rw[j] at hb
  split at hb
  .rename_i a;cases hb;subst a;exact⟨_,k,o',upd_same _ _ _,by rw[hw];simp,ho⟩
  rename_i a;have⟨x,l,q,h1,h2,s⟩:=hr.ob b ob hb;refine⟨x,l,q,by rw[bJ _ _ a];exact h1,?_,s.mono t⟩;rw[hw,iK,aU]
  .exact h2
  have:=(aP.1 h2).1;omega
 rw[j] at hb hc;have low:∀d l,d≠r->(h.get d).isSome=true->upd ρ r (.at_ w.heap.size k) d=.at_ w.heap.size l->False:=fun d l hd hs hx=>by rw[bJ _ _ hd] at hx;have⟨od,i⟩:=gQ.1 hs;have:=hr.lt i hx;omega
 by_cases a:b=r<;>by_cases f:c=r
 .rw[a,f]
 .rw[a,upd_same] at h1;cases h1;rw[aU f] at hc;exact(low c n f hc h2).elim
 .rw[f,upd_same] at h2;cases h2;rw[aU a] at hb;exact(low b u a hb h1).elim
 rw[aU a] at hb;rw[aU f] at hc;rw[bJ _ _ a] at h1;rw[bJ _ _ f] at h2;exact hr.inj b c x u n hb hc h1 h2
theorem CZ{h o ob b x k}(hb:h.get b=some ob)(hx:ρ b=.at_ x k)(ht:b<top){w w' o'}(j:w'.heap.size=w.heap.size)(hw:w'.heap[x]?=some o')(hn:∀y,y≠x->w'.heap[y]?=w.heap[y]?)(hr:HR ρ h w)(ho:OR ρ k o o'):Stp ρ h w ρ (h.put b o) w'/\HR ρ (h.put b o) w':=by
 have a:∀c,((h.put b o).get c).isSome=true->(h.get c).isSome=true:=fun c hc=>by
  rw[H.get_put ht] at hc;split at hc
  .rename_i e;rw[e,hb];rfl
  exact hc
 refine⟨⟨.refl ρ,aA _,fun _ h _=>h,by omega,[b],rfl,fun y oy hy hm=>?_,fun _ _ _ h=>.inl h,fun c hc=>?_,fun c hc=>?_,fun _ _ _=>rfl⟩,hr.fD.set hw hn ho.Ya,fun c f hc=>?_,fun c d y n i hc hd h1 h2=>hr.inj c d y n i (a c hc) (a d hd) h1 h2⟩
 .rw[hn y]
  .exact hy
  rintro rfl;exact hm b k (by simp) hx
 .rw[eY.1 hc,hb];exact .inl rfl
 .rw[H.get_put ht,aU (by simpa using hc)]
 rw[H.get_put ht] at hc;split at hc
 .rename_i e;cases hc;subst e;exact⟨x,k,o',hx,hw,ho⟩
 rename_i e;have⟨y,l,g,h1,h2,m⟩:=hr.ob c f hc;refine⟨y,l,g,h1,?_,m⟩;rw[hn y]
 .exact h2
 rintro rfl;exact e (hr.inj c b _ l k (by rw[hc];rfl) (by rw[hb];rfl) h1 hx)
theorem agt{h ob b}(hb:h.get b=some ob)(ht:b<top){w}(hr:HR ρ h w):Stp ρ h w (upd ρ b .dead) (h.kill b) w/\HR (upd ρ b .dead) (h.kill b) w:=by
 have hu:ρ b≠.dC:=by have⟨x,k,o',h1,_⟩:=hr.ob b ob hb;rw[h1];exact fun h=>by cases h
 have a:∀c,((h.kill b).get c).isSome=true->c≠b/\(h.get c).isSome=true:=fun c hc=>by
  rw[H.Io ht] at hc;split at hc
  .cases hc
  rename_i e;exact⟨e,hc⟩
 refine⟨⟨Ig b,aA _,fun c hc _=>?_,aA _,[b],rfl,fun y oy hy _=>hy,fun c x k hc=>?_,fun c hc=>?_,fun c hc=>?_,fun c hc hn=>?_⟩,hr.fD,fun c g hc=>?_,fun c d y p j hc hd h1 h2=>?_⟩
 .rw[bJ]
  .exact hc
  rintro rfl;exact hu hc
 .by_cases e:c=b
  .subst e;rw[upd_same] at hc;cases hc
  rw[bJ _ _ e] at hc;exact .inl hc
 .rw[eY.1 hc,hb];exact .inl rfl
 .rw[H.Io ht,aU (by simpa using hc)]
 .rw[bJ _ _ (by simpa using hc)]
 .rw[H.Io ht] at hc
  split at hc
  .cases hc
  rename_i e;have⟨y,l,i,h1,h2,f⟩:=hr.ob c g hc;exact⟨y,l,i,by rw[bJ _ _ e];exact h1,h2,f.mono (Ig b)⟩
 have⟨o,f⟩:=a c hc;have⟨n,m⟩:=a d hd;rw[bJ _ _ o] at h1;rw[bJ _ _ n] at h2;exact hr.inj c d y p j f m h1 h2
theorem afv{h h' o ob b r x k}(hb:h.get b=some ob)(hx:ρ b=.at_ x k)(ht:b<top)(e:(h.kill b).new o=some (r,h'))(hu:ρ r=.dC){w w' o'}(t:w'.heap.size=w.heap.size)(hw:w'.heap[x]?=some o')(hn:∀y,y≠x->w'.heap[y]?=w.heap[y]?)(hr:HR ρ h w)(ho:OR (upd (upd ρ b .dead) r (.at_ x k)) k o o'):Stp ρ h w (upd (upd ρ b .dead) r (.at_ x k)) h' w'/\HR (upd (upd ρ b .dead) r (.at_ x k)) h' w':=by
 have⟨B,e2,A,z⟩:=H.mG e;have g:h'.log=r::b::h.log:=by
  unfold H.new at e;split at e
  .cases e;rfl
  cases e
 have n:r≠b:=by rintro rfl;rw[hx] at hu;cases hu
 have p:r=h.next/\h'.next=h.next+1:=⟨B,A⟩;have C:Le ρ (upd (upd ρ b .dead) r (.at_ x k)):=(Ig b).trans (rE (by rw[bJ _ _ n];exact hu) _);have get':∀c,h'.get c=if c=r then some o else if c=b then none else h.get c:=fun c=>by
  rw[z];split
  .rfl
  rw[H.Io ht]
 have name:∀c,c≠r->c≠b->upd (upd ρ b .dead) r (.at_ x k) c=ρ c:=fun c h1 h2=>by rw[bJ _ _ h1,bJ _ _ h2]
 refine⟨⟨C,by omega,fun c hc u=>?_,by omega,[r,b],by rw[g];rfl,fun y oy hy hm=>?_,fun c y m hc=>?_,fun c hc=>?_,fun c hc=>?_,fun c hc hn=>?_⟩,hr.fD.set hw hn ho.Ya,fun c q hc=>?_,fun c d y D j hc hd h1 h2=>?_⟩
 .rw[name c (by omega) (by rintro rfl;rw[hx] at hc;cases hc)];exact hc
 .rw[hn y]
  .exact hy
  rintro rfl;exact hm b k (by simp) hx
 .by_cases h1:c=r
  .subst h1;rw[upd_same] at hc;cases hc;exact .inr ⟨hu,.inr ⟨b,k,by simp,hx⟩⟩
  by_cases h2:c=b
  .subst h2;rw[bJ _ _ h1,upd_same] at hc;cases hc
  rw[name c h1 h2] at hc;exact .inl hc
 .rcases dW.1 hc with rfl|hc
  .exact .inr (by omega)
  rw[eY.1 hc,hb];exact .inl rfl
 .simp[dW,xx,xw,not_or] at hc;rw[get',aU hc.1,aU hc.2]
 .simp[dW,xx,xw,not_or] at hc;exact name c hc.1 hc.2
 .rw[get'] at hc
  split at hc
  .rename_i h1;cases hc;subst h1;exact⟨x,k,o',upd_same _ _ _,hw,ho⟩
  split at hc
  .cases hc
  rename_i h1 h2;have⟨y,l,s,a,i,v⟩:=hr.ob c q hc;refine⟨y,l,s,by rw[name c h1 h2];exact a,?_,v.mono C⟩;rw[hn y]
  .exact i
  rintro rfl;exact h2 (hr.inj c b _ l k (by rw[hc];rfl) (by rw[hb];rfl) a hx)
 have one:∀f y l,(h'.get f).isSome=true->upd _ r (.at_ x k) f=.at_ y l->(f=r/\y=x)\/(f≠r/\f≠b/\(h.get f).isSome=true/\ρ f=.at_ y l):=fun f y l hf he=>by
  rw[get'] at hf;split at hf
  .rename_i a;subst a;rw[upd_same] at he;cases he;exact .inl ⟨rfl,rfl⟩
  split at hf
  .cases hf
  rename_i a i;rw[name f a i] at he;exact .inr ⟨a,i,hf,he⟩
 rcases one c y D hc h1 with⟨rfl,rfl⟩|⟨c1,c2,c3,c4⟩<;>rcases one d y j hd h2 with⟨rfl,hy⟩|⟨d1,d2,d3,d4⟩
 .rfl
 .exact absurd (hr.inj d b _ j k d3 (by rw[hb];rfl) d4 hx) d2
 .subst hy;exact absurd (hr.inj c b _ D k c3 (by rw[hb];rfl) c4 hx) c2
 exact hr.inj c d y D j c3 d3 c4 d4
theorem row_of{h w}(hr:HR ρ h w){b b' c e s}(hb:h.get b=some (.cells c e s))(a:BR ρ b b'):∃k d r,ρ b=.at_ b' k/\w.heap[b']?=some (.cells ⟨d++r⟩ e (0,0))/\iL ρ c d/\(s=none->r=[])/\(∀z,s=some z->(d++r).length=k*z/\k<=maxLen/\0<z):=by obtain⟨x,k,o',h1,h2,d,r,rfl,i,g,f⟩:=hr.ob b _ hb;obtain rfl:=a.at_ h1;exact⟨k,d,r,h1,h2,i,g,f⟩
theorem Dl{h w}(hr:HR ρ h w){a a'}(ha:AR ρ a a'){n cs}(e:loads h a n=some cs):∃cs',iL ρ cs cs'/\cs'.length=n/\∀j v,cs'[j]?=some v->w.cell? (a'.add j)=some v:=by
 unfold loads at e;split at e
 .rename_i c t s hs hb;have⟨k,d,r,h1,h2,g,_⟩:=row_of hr hb ha.block;obtain⟨rfl,hl⟩:=O4 e;refine⟨(d.drop a.off).take n,(g.drop _).take _,?_,fun j v hj=>?_⟩
  .have:=g.length;rw[ae2,ae1,this];omega
  rw[add_plain ha.spot'];have b:d[a'.off+j]?=some v:=by
   rw[Sm] at hj;split at hj
   .rw[ae0] at hj;rw[ha.off];exact hj
   cases hj
  have f:=(yB.1 b).1;simp[World.cell?,h2,EU f,b]
 .rename_i c t hs hb;obtain⟨x,k,o',h1,h2,d,r,fz,rfl,g⟩:=hr.ob a.block _ hb;have i:=ha.block;obtain hx:=i.at_ h1;rw[<-hx] at h2;obtain⟨rfl,hl⟩:=O4 e;refine⟨(d.drop a.off).take n,(g.drop _).take _,?_,fun j v hj=>?_⟩
  .have:=g.length;rw[ae2,ae1,this];omega
  rw[add_plain ha.spot'];have b:d[a'.off+j]?=some v:=by
   rw[Sm] at hj;split at hj
   .rw[ae0] at hj;rw[ha.off];exact hj
   cases hj
  have f:=(yB.1 b).1;simp[World.cell?,h2,EU f,b]
 .rename_i c q t z hs hb;obtain⟨x,k,o',h1,h2,p,d,d2,r,_,rfl,g,_⟩:=hr.ob a.block _ hb;have i:=ha.block;obtain hx:=i.at_ h1;rw[<-hx] at h2;obtain⟨rfl,hl⟩:=O4 e;refine⟨(d.drop a.off).take n,(g.drop _).take _,?_,fun j v hj=>?_⟩
  .have:=g.length;rw[ae2,ae1,this];omega
  rw[add_plain ha.spot'];have b:d[a'.off+j]?=some v:=by
   rw[Sm] at hj;split at hj
   .rw[ae0] at hj;rw[ha.off];exact hj
   cases hj
  have f:=(yB.1 b).1;simp[World.cell?,h2,EU f,b]
 cases e
theorem I7{h h' w}(hr:HR ρ h w){a a'}(ha:AR ρ a a'){D b}(l:iL ρ D b)(e:stores h a D=some h'):∃w',(storeCells a' b).run P w=.ok () w'/\Stp ρ h w ρ h' w'/\HR ρ h' w':=by
 unfold stores at e;split at e
 .rename_i c t s hs hb h1 h2
  split at e
  .rename_i c' hc;cases e;obtain⟨rfl,hl⟩:=Tz hc;have⟨k,d,r,A,m,j,C,B⟩:=row_of hr hb ha.block;have x:=l.single h1;have L:=l.length;have E:=j.length;have⟨g,o,sp⟩:=a';have u:=ha.spot';have i:=ha.off;subst u;subst i;by_cases f:D=[]
   .subst f;cases l;refine⟨w,rfl,?_⟩;rw[ik] at h2;refine CZ hb A h2 rfl m (fun _ _=>rfl) hr ⟨d,r,rfl,?_,C,B⟩;simpa using j
   have hl:=hl.resolve_left f;have hrun:=run_storeCells_at P g a.off t b 0 _ w m (by simp;omega) (fun v n=>by rw[Fe];exact bZ.1 x v n);refine⟨_,hrun,?_⟩;rw[ik] at h2;have G:(⟨d++r⟩:Array ae).toList=d++r:=rfl;have F:(d++r).take (a.off+0)++b++(d++r).drop (a.off+0+b.length)=(d.take a.off++b++d.drop (a.off+b.length))++r:=by rw[Nat.add_zero,List.take_append_of_le_length (by omega),List.drop_append_of_le_length (by omega)];simp
   refine CZ hb A h2 (by simp[World.setRow]) (o':=.cells ⟨(d.take a.off++b++d.drop (a.off+b.length))++r⟩ t (0,0)) ?_ (fun y hy=>aaB w g y _ hy) hr ⟨_,r,rfl,?_,C,?_⟩
   .rw[aaA w g _ _ t (0,0) m,G,F]
   .rw[<-L];exact((j.take _).append l).append (j.drop _)
   intro z J;have⟨z1,z2,z3⟩:=B z J;refine⟨?_,z2,z3⟩;rw[<-z1];simp;omega
  cases e
 .rename_i c q t z hs hb h1 h2
  split at e
  .rename_i c' hc;cases e;obtain⟨rfl,hl⟩:=Tz hc;obtain⟨x0,k,o',A,m,p,d,d2,r,hp,rfl,j,C,B,I,H⟩:=hr.ob a.block _ hb;have x:=l.single h1;have L:=l.length;have E:=j.length;have⟨g,o,sp⟩:=a';have u:=ha.spot';have i:=ha.off;have K:=ha.block.at_ A;subst u;subst i;subst K;by_cases f:D=[]
   .subst f;cases l;refine⟨w,rfl,?_⟩;rw[ik] at h2;refine CZ hb A h2 rfl m (fun _ _=>rfl) hr ⟨p,d,d2,r,hp,rfl,?_,C,B,I,H⟩;simpa using j
   have hl:=hl.resolve_left f;have hrun:=run_storeCells_at P g a.off t b 0 _ w m (by simp;omega) (fun v n=>by rw[Fe];exact bZ.1 x v n);refine⟨_,hrun,?_⟩;rw[ik] at h2;have G:(⟨d++(d2++r)⟩:Array ae).toList=d++(d2++r):=rfl;have F:(d++(d2++r)).take (a.off+0)++b++(d++(d2++r)).drop (a.off+0+b.length)=(d.take a.off++b++d.drop (a.off+b.length))++(d2++r):=by rw[Nat.add_zero,List.take_append_of_le_length (by omega),List.drop_append_of_le_length (by omega)];simp
   refine CZ hb A h2 (by simp[World.setRow]) (o':=.cells ⟨(d.take a.off++b++d.drop (a.off+b.length))++(d2++r)⟩ t (0,0)) ?_ (fun y hy=>aaB w g y _ hy) hr ⟨p,_,d2,r,hp,rfl,?_,C,?_,I,H⟩
   .rw[aaA w g _ _ t (0,0) m,G,F]
   .rw[<-L];exact((j.take _).append l).append (j.drop _)
   rw[<-B];simp;omega
  cases e
 cases e
end
section
variable{P:aH}{ρ:jV}{ρE:fH->aB ae}{ρr:fH->ae}
theorem Oq{h w}(hr:HR ρ h w){t a a'}(ha:AR ρ a a'){v}(e:Z4 P h t a=some v):∃v',(loadVar t a').run P w=.ok v' w/\VR ρ v v':=by
 unfold Z4 at e;split at e
 .rename_i d i ht hi
  split at e
  .rename_i hd
   split at e
   .rename_i cs hl
    cases e;have⟨cs',h1,h2,b⟩:=Dl hr ha hl;refine⟨.agg ⟨cs'⟩,?_,.agg h1⟩
    have:=run_loadCells_list (P:=P) w a' cs' b
    rw[h2] at this;simp[loadVar,II ht,hd,Go.sizeOf,typeInfo,hi,this]
   cases e
  rename_i hd;split at e
  .rename_i u hl
   cases e;have⟨cs',h1,h2,b⟩:=Dl hr ha hl;cases h1 with
   |cons c hs=>
   cases hs;rename_i v';refine⟨v',?_,c⟩;have f:w.cell? a'=some v':=by
    have:=b 0 v' rfl
    rwa[add_plain ha.spot',Nat.add_zero,show(⟨a'.block,a'.off,none⟩:Addr)=a' from by rw[<-ha.spot']] at this
   simp[loadVar,II ht,hd,load,Sem.run,f]
  cases e
 cases e
theorem QI{h h' w}(hr:HR ρ h w){t a a'}(ha:AR ρ a a'){v v'}(b:VR ρ v v')(e:I8 P h t a v=some h'):∃w',(storeVar t a' v').run P w=.ok () w'/\Stp ρ h w ρ h' w'/\HR ρ h' w':=by
 unfold I8 at e;split at e
 .rename_i i hi
  split at e
  .rename_i hs;have⟨w',h1,h2,c⟩:=I7 (P:=P) hr ha b.cells e;refine⟨w',?_,h2,c⟩;have hl:=b.cells.length;have hs:=bG hs;have he:v'.cells.size=i.size:=by rw[<-hs,<-hl];simp
   simp[storeVar,Go.sizeOf,typeInfo,hi,he,h1]
  cases e
 cases e
theorem Il{ρ k c d e z rest}(b:iL ρ c d)(hl:(d++rest).length=k*z)(hk:k<=maxLen)(a:0<z):OR ρ k (.cells c e (some z)) (.cells (d++rest).toArray e (0,0)):=⟨d,rest,rfl,b,fun h=>(by cases h),fun y hy=>(by cases hy;exact⟨hl,hk,a⟩)⟩
theorem afG{i z k}(h:ZC i z k=true):k<1000000/\i.bytes<1000000/\0<i.size/\z.cells.size=i.size:=by
 unfold ZC at h;split at h
 .rename_i h1 h2 a;rw[ik] at h1 h2;have b:=bG h;have h5:i.size≠0:=fun e=>by rw[e] at a;cases a
  exact⟨h1,h2,by omega,by rw[<-b];simp⟩
 cases h
theorem Jy{t z i}(h:zeroOf P t=some z)(hi:P.info? t=some i):i.zero=some z:=by
 unfold zeroOf at h;rw[hi] at h;simp only at h;split at h
 .rename_i z' a
  split at h
  .cases h;exact a
  cases h
 cases h
theorem Fp(z:ae)(n):(Builtin.zeroCells z.cells n).toList.length=n*z.cells.size:=by have:=aeZ z.cells n;simpa using this
theorem RZ{h h' w}(hr:HR ρ h w){t ty s s' x x' v}(hs:VR ρ s s')(hx:VR ρ x x')(e:Bl P h t s x=some (v,h'))(hu:∀b,h.next<=b->b<h'.next->ρ b=.dC):∃v' w' ρ',(Builtin.append_ #[t,t] ty #[s',x']).run P w=.ok v' w'/\Stp ρ h w ρ' h' w'/\HR ρ' h' w'/\VR ρ' v v':=by
 unfold Bl at e;split at e
 .
  rename_i el base n cap xb xc ht;split at e
  .rename_i i hle hi;cases e;obtain⟨b',c',rfl,hc⟩:=hs.vF;obtain⟨Y,B,rfl,_⟩:=hx.vF;have hle:=iF hle;have hn:n<=c':=by
    cases base with
    |none=>have:=hs.nP;cases this;exact hle
    |some a=>
    have⟨a',c'',R,_,O⟩:=hs.kE;cases R;rcases O with⟨_,rfl⟩|⟨_,h2,_⟩
    .exact hle
    exact h2
   refine⟨.slice b' n c',w,ρ,?_,.refl ρ h w w rfl,hr,hs⟩;have hf:(Builtin.firstCells i.size 0 (.slice Y 0 B)).run P w=.ok #[] w:=by
    cases Y with
    |none=>exact run_firstCells_none w i.size 0 0 B
    |some xa=>exact aaz w i.size 0 xa 0 B [] (by simp) (fun j v hj=>by simp at hj)
   cases b'<;>simp[Builtin.append_,iQ ht,Go.sizeOf,typeInfo,hi,Builtin.lenOf,hn,hf,storeCells]
  cases e
 .rename_i el base n cap xb m xc hm ht
  split at e
  .rename_i i z hi hz
   split at e
   .rename_i new hld U;have⟨r1,r2,r3,r4⟩:=afG U
    split at e
    .rename_i I;obtain⟨F,B,rfl,hxa,_⟩:=hx.kE;have⟨f,X,N,Z⟩:=Dl hr hxa hld;have hone:∀u∈f,u.oneCell'=true:=fun u hu'=>by rw[Fe];exact bZ.1 (X.single I) u hu'
     have W:=Jy hz hi;have hm0:0<m:=Nat.pos_of_ne_zero (fun e0=>hm (by rw[e0]));have hbound:(n+m)*i.bytes<=140737488355328:=by have h1:(n+m)*i.bytes<=1000000*1000000:=aay (by omega) (by omega);omega
     split at e
     .
      split at e
      .split at e
       .rename_i r h1 p;cases e;obtain rfl:=hs.nP;have hrun:=aeY w t ty el i z ht hi W F m B f N Z hm0 (by omega) (by simp[DF] at hbound;omega);have⟨q1,q2,q3,q4⟩:=H.mG p;have J:=Xi w m 0 el;have L:=aeX w m 0 el (by unfold maxLen;omega);have V:∀D,Le ρ D->OR D _ _ (.cells (f.toArray++Builtin.zeroCells z.cells (grownCap w m 0 el-m)) el):=fun D hle=>by
         have:=Il (e:=el) (rest:=(Builtin.zeroCells z.cells (grownCap w m 0 el-m)).toList) (X.mono hle) (by rw[PE,Fp,N,r4,<-IK];congr 1;omega) L r3
         have R:f.toArray++Builtin.zeroCells z.cells (grownCap w m 0 el-m)=(f++(Builtin.zeroCells z.cells (grownCap w m 0 el-m)).toList).toArray:=by apply tV;simp
         rw[R];exact this
        have q:=hu r (by omega) (by omega);have⟨s1,s2⟩:=Di p q (w:=w) (w':=w.drew.alloc _) rfl hr _ (V _ (rE q _));refine⟨_,_,_,hrun,s1,s2,.slice ⟨by unfold BR;rw[upd_same],rfl,rfl,rfl⟩ (.inr ⟨aA _,J,fun x k hk=>?_⟩)⟩;have A:=hk;rw[upd_same] at A;cases A;rfl
       cases e
      cases e
     rename_i a;obtain⟨a',c',rfl,ha,O⟩:=hs.kE;split at e
     .
      rename_i E;rw[ik] at E;obtain rfl:c'=cap:=by rcases O with hc|hc<;>omega
      split at e
      .rename_i l;have l:=iF l
       split at e
       .rename_i a1 hpa
        split at e
        .rename_i h1 hst;cases e;obtain⟨rfl,_⟩:=uT hpa;have haa:=ha.add (n*i.size);have⟨w',t1,t2,t3⟩:=I7 (P:=P) hr haa X hst;refine⟨.slice _ _ c',w',ρ,?_,t2,t3,.slice ha (.inl ⟨E,rfl⟩)⟩;have hf:=aaz (P:=P) w i.size m F m B f N Z;simp[Builtin.append_,iQ ht,Go.sizeOf,typeInfo,hi,Builtin.lenOf,l,hf,t1]
        cases e
       cases e
      rename_i o;have o:c'<n+m:=by
       cases hb:Nat.ble _ c'
       .by_cases hle:n+m<=c'
        .rw[ae3 hle] at hb;cases hb
        omega
       rw[hb] at o;cases o
      split at e
      .rename_i old hold
       split at e
       .rename_i r h1 p;cases e;have⟨C,o1,o2,o3⟩:=Dl hr ha hold;have hrun:=aax w t ty el i z ht hi W a' n c' C o2 o3 F m B f N Z o (by omega) (aaw o hbound);have⟨q1,q2,q3,q4⟩:=H.mG p;have J:=Xi w (n+m) c' el;have L:=aeX w (n+m) c' el (by unfold maxLen;omega);have V:∀D,Le ρ D->OR D (grownCap w (n+m) c' el) (.cells (old++new) el (some i.size)) (.cells (C.toArray++f.toArray++Builtin.zeroCells z.cells (grownCap w (n+m) c' el-(n+m))) el):=fun D hle=>by
         have:=Il (e:=el) (rest:=(Builtin.zeroCells z.cells (grownCap w (n+m) c' el-(n+m))).toList) ((o1.append X).mono hle) (by rw[PE,PE,Fp,N,o2,r4,<-IK,<-IK];congr 1;omega) L r3
         have R:C.toArray++f.toArray++Builtin.zeroCells z.cells (grownCap w (n+m) c' el-(n+m))=(C++f++(Builtin.zeroCells z.cells (grownCap w (n+m) c' el-(n+m))).toList).toArray:=by apply tV;simp
         rw[R];exact this
        have q:=hu r (by omega) (by omega);have⟨s1,s2⟩:=Di p q (w:=w) (w':=w.drew.alloc (.cells (C.toArray++f.toArray++Builtin.zeroCells z.cells (grownCap w (n+m) c' el-(n+m))) el)) rfl hr (grownCap w (n+m) c' el) (V _ (rE q _));refine⟨_,_,_,hrun,s1,s2,.slice ⟨by unfold BR;rw[upd_same],rfl,rfl,rfl⟩ (.inr ⟨aA _,J,fun x k hk=>?_⟩)⟩;have A:=hk;rw[upd_same] at A;cases A;rfl
       cases e
      cases e
     
     rename_i E;split at e
     .rename_i b
      split at e
      .rename_i c M k hb G
       split at e
       .rename_i hlen hk he
        split at e
        .rename_i r h1 p;cases e;have hlen:=bG hlen;obtain rfl:=bG hk;obtain rfl:=bG he;rw[ik] at G;have⟨kc,d,rest,k1,k2,k3,_,k5⟩:=row_of hr hb ha.block;have⟨k6,k7,k8⟩:=k5 _ rfl;have⟨hn,hcap⟩:=O.elim (fun hc=>by
          exfalso;have:=hc.1;rw[<-ik] at this;rw[this] at E;cases E) (·.2)
         obtain rfl:=hcap _ _ k1;have K:d.length=n*i.size:=by rw[k3.length];exact hlen
         have⟨g,off,sp⟩:=a';have hsp:=ha.spot';have hoff:=ha.off;subst hsp;subst hoff;have⟨q1,q2,q3,q4⟩:=H.mG p;have hnx:(h.kill b).next=h.next:=rfl;have q:=hu r (by omega) (by omega);have hrb:r≠b:=by rintro rfl;rw[k1] at q;cases q
         have Q:∀j v,d[j]?=some v->w.cell? ((⟨g,0,none⟩:Addr).add j)=some v:=fun j v hj=>by have E:=(yB.1 hj).1;rw[add_plain rfl];simp[World.cell?,k2,EU E,hj]
         by_cases l:n+m<=c'
         .have T:n*i.size+f.length<=(⟨d++rest⟩:Array ae).size:=by
           show _<=(d++rest).length;rw[N,k6,<-IK];exact Nat.mul_le_mul_right _ l
          have hrun:=run_append_room w t ty _ i ht hi g n c' ⟨d++rest⟩ k2 F m B f N Z hone l T;have R:(⟨d++rest⟩:Array ae).toList.take (n*i.size)++f++(⟨d++rest⟩:Array ae).toList.drop (n*i.size+f.length)=(d++f)++(d++rest).drop (n*i.size+f.length):=by rw[<-K,List.take_left]
          have⟨s1,s2⟩:=afv hb k1 G p q (w:=w) (w':=w.setRow g ((⟨d++rest⟩:Array ae).toList.take (n*i.size)++f++(⟨d++rest⟩:Array ae).toList.drop (n*i.size+f.length)).toArray)
           (by simp[World.setRow]) (aaA w g _ _ _ (0,0) k2) (fun y hy=>aaB w g y _ hy) hr (by
            rw[R];have hle:Le ρ (upd (upd ρ b .dead) r (.at_ g c')):=(Ig b).trans (rE (by rw[bJ _ _ hrb];exact q) _);refine Il ((k3.append X).mono hle) ?_ k7 k8;rw[<-k6,<-K];simp;have:(d++rest).length=d.length+rest.length:=by simp
            have h9:d.length+f.length<=(d++rest).length:=by rw[K];exact T
            omega)
          refine⟨_,_,_,hrun,s1,s2,.slice ⟨by show BR _ r _;unfold BR;rw[upd_same],rfl,rfl,rfl⟩ (.inr ⟨aA _,l,fun x k hk=>?_⟩)⟩;have A:upd (upd ρ b .dead) r (.at_ g c') r=.at_ x k:=hk;rw[upd_same] at A;cases A;rfl
         have o:c'<n+m:=by omega
         have hrun:=aax (P:=P) w t ty _ i z ht hi W ⟨g,0,none⟩ n c' d K Q F m B f N Z o (by omega) (aaw o hbound);have⟨s1,s2⟩:=agt hb G hr;have J:=Xi w (n+m) c' M;have L:=aeX w (n+m) c' M (by unfold maxLen;omega);have S:upd ρ b .dead r=.dC:=by rw[bJ _ _ hrb];exact q
         have⟨s3,s4⟩:=Di p S (w:=w) (w':=w.drew.alloc (.cells (d.toArray++f.toArray++Builtin.zeroCells z.cells (grownCap w (n+m) c' M-(n+m))) M)) rfl s2 (grownCap w (n+m) c' M) (by
          have:=Il (e:=M) (rest:=(Builtin.zeroCells z.cells (grownCap w (n+m) c' M-(n+m))).toList) ((k3.append X).mono ((Ig b).trans (rE S (.at_ w.heap.size (grownCap w (n+m) c' M))))) (by rw[PE,PE,Fp,N,K,r4,<-IK,<-IK];congr 1;omega) L r3
          have R:d.toArray++f.toArray++Builtin.zeroCells z.cells (grownCap w (n+m) c' M-(n+m))=(d++f++(Builtin.zeroCells z.cells (grownCap w (n+m) c' M-(n+m))).toList).toArray:=by apply tV;simp
          rw[R];exact this)
         refine⟨_,_,_,hrun,s1.trans s3,s4,.slice ⟨by show BR _ r _;unfold BR;rw[upd_same],rfl,rfl,rfl⟩ (.inr ⟨aA _,J,fun x k hk=>?_⟩)⟩;have A:upd (upd ρ b .dead) r (.at_ w.heap.size (grownCap w (n+m) c' M)) r=.at_ x k:=hk;rw[upd_same] at A;cases A;rfl
        cases e
       cases e
      cases e
     cases e
    cases e
   cases e
  cases e
 cases e
theorem afD{h h' w}(hr:HR ρ h w){t ty s s' x x' v}(hs:VR ρ s s')(hx:VR ρ x x')(e:ZA P h t s x=some (v,h'))(hu:∀b,h.next<=b->b<h'.next->ρ b=.dC):∃v' w' ρ',(Builtin.append_ #[t,t] ty #[s',x']).run P w=.ok v' w'/\Stp ρ h w ρ' h' w'/\HR ρ' h' w'/\VR ρ' v v':=by
 unfold ZA at e;split at e;case h_2=>cases e
 rename_i el b n cap Q xc ht;split at e;case h_2=>cases e
 rename_i c A k i z hb hi J;split at e;case h_2=>cases e
 rename_i new hl hc;simp only[aT,ET] at hc;obtain⟨⟨⟨⟨⟨⟨⟨c1,c2⟩,c3⟩,c4⟩,c5⟩,c6⟩,c7⟩,c8⟩:=hc;rw[ik] at c2;obtain rfl:=bG c4;obtain rfl:=bG c6;obtain rfl:=bG c7;split at e;case h_2=>cases e
 rename_i D;split at e;case h_2=>cases e
 rename_i r hh a;cases e;obtain⟨x0,k0,o',h1,h2,p,d,rr,g,rfl,W,K,hkm,hk0⟩:=hr.ob b _ hb
 let m:H:=⟨T.put T.deep h.t b (some (.cells p.flatten A (some i.size))),h.next,h.log⟩
 have f:∀y,m.get y=if y=b then some _ else h.get y:=fun y=>T.get_put _ _ _ _ _ (df c2)
 have X:HR ρ m w:=⟨hr.fD,fun y o hy=>by
  rw[f] at hy;split at hy
  .rename_i j
   cases hy;subst j;exact⟨x0,k0,_,h1,h2,d,rr,rfl,W,(fun h=>by cases h),fun z J=>by cases J;exact⟨K,hkm,hk0⟩⟩
  .exact hr.ob y o hy,fun y G x k l hy S hx V=>by
  have known:∀y,(m.get y).isSome=true->(h.get y).isSome=true:=fun y hy=>by
   rw[f] at hy;split at hy
   .rename_i j;rw[j,hb];rfl
   exact hy
  exact hr.inj y G x k l (known y hy) (known G S) hx V⟩
 have E:h.next<top:=by
  unfold H.new at a;split at a
  .rename_i M;rw[ik] at M;exact M
  cases a
 have hbn:b≠h.next:=fun e=>by
  have:=hu h.next (aA _) (by obtain⟨_,_,q3,_⟩:=H.mG a;have q3:h'.next=h.next+1:=q3;omega)
  rw[<-e,h1] at this;cases this
 have L:Nat.blt h.next top=true:=by rw[ik];exact E
 obtain⟨rfl,rfl⟩:r=h.next/\h'=⟨T.put T.deep (T.put T.deep h.t b none) h.next (some (.qO (c++[new]) A i.size)),h.next+1,h.next::b::h.log⟩:=by unfold H.new at a;have C:Nat.blt (h.kill b).next top=true:=L;rw[C] at a;cases a;exact⟨rfl,rfl⟩
 have U:Q.block≠b:=fun e=>by rw[e] at c8;simp at c8
 have Z:loads m Q (1*i.size)=some new:=by unfold loads at hl⊢;rw[f,aU U];exact hl
 have hgb:m.get b=some (.cells p.flatten A (some i.size)):=by rw[f,aY rfl]
 have hcl:∀l∈c,l.length=i.size:=fun l hl=>bG (bZ.1 c5 l hl);have F:∀l:List (List ae),(∀y∈l,y.length=i.size)->l.flatten.length=l.length*i.size:=fun l=>by
  induction l with
  |nil=>intro _;simp
  |cons y l ih=>intro hy;simp only[List.flatten_cons,PE,List.length_cons];rw[hy y (by simp),ih fun z J=>hy z (by simp[J]),Nat.succ_mul,Nat.add_comm]
 have Y:p.flatten.length=c.length*i.size:=by rw[F p fun y hy=>hcl y (g.mem_iff.2 hy),g.length_eq]
 have hA:Bl P m t (.slice (some ⟨b,0,none⟩) c.length cap) (.slice (some Q) 1 xc)=some (.slice (some ⟨h.next,0,none⟩) (c.length+1) soft,⟨T.put T.deep (T.put T.deep m.t b none) h.next (some (.cells (p.flatten++new) A (some i.size))),h.next+1,h.next::b::h.log⟩):=by
  have b1:Nat.blt b top=true:=by rw[ik];exact c2
  have b2:Nat.beq p.flatten.length (c.length*i.size)=true:=by rw[Y];simp
  unfold Bl;simp only[ht,hi,J,Z,c1,D,c3,hgb,b1,b2,Nat.beq_refl];unfold H.new;have C:Nat.blt (m.kill b).next top=true:=L;rw[C];rfl
 obtain⟨v',w',ρ',r1,I,O,r4⟩:=RZ X hs hx hA hu;have u:∀y,(⟨T.put T.deep (T.put T.deep m.t b none) h.next (some (.cells (p.flatten++new) A (some i.size))),h.next+1,h.next::b::h.log⟩:H).get y=if y=h.next then some (.cells (p.flatten++new) A (some i.size)) else if y=b then none else h.get y:=fun y=>by
  show(T.put T.deep (T.put T.deep m.t b none) h.next _).get y=_;rw[T.get_put _ _ _ _ _ (df E),T.get_put _ _ _ _ _ (df c2)];by_cases C:y=h.next
  .rw[aY C,aY C]
  rw[aU C,aU C];by_cases N:y=b
  .rw[aY N,aY N]
  rw[aU N,aU N]
  have:=f y
  rw[aU N] at this;exact this
 have q:∀y,(⟨T.put T.deep (T.put T.deep h.t b none) h.next (some (.qO (c++[new]) A i.size)),h.next+1,h.next::b::h.log⟩:H).get y=if y=h.next then some (.qO (c++[new]) A i.size) else if y=b then none else h.get y:=fun y=>by show(T.put T.deep (T.put T.deep h.t b none) h.next _).get y=_;rw[T.get_put _ _ _ _ _ (df E),T.get_put _ _ _ _ _ (df c2)];rfl
 obtain⟨l,l1,l2,l3,l4,l5,l6⟩:=I.log;have l1:=l1;have B:l=[h.next,b]:=by have:[h.next,b]++h.log=l++h.log:=l1;exact(Sl this).symm
 have known:∀y,(m.get y).isSome=true->(h.get y).isSome=true:=fun y hy=>by
  rw[f] at hy;split at hy
  .rename_i j;rw[j,hb];rfl
  exact hy
 refine⟨v',w',ρ',r1,⟨I.le,I.next,fun y hy hx=>I.born y hy hx,I.size,[h.next,b],rfl,by rw[<-B];exact l2,by rw[<-B];exact l3,fun y hy=>?_,fun y hy=>?_,fun y hy=>l6 y (by rw[B];exact hy)⟩,⟨O.fD,fun y o hy=>?_,fun y G x k k2 a1 a2 b1 b2=>?_⟩,r4⟩
 .exact(l4 y (by rw[B];exact hy)).imp (known y) id
 .simp only[dW,xx,xw,not_or] at hy
  rw[q,aU hy.1,aU hy.2]
 .rw[q] at hy
  split at hy
  .rename_i j
   cases hy;subst j;obtain⟨x,k,o2,m1,m2,d2,R,rfl,m3,_,m4⟩:=O.ob h.next _ (by rw[u,aY rfl]);obtain⟨m5,m6,m7⟩:=m4 _ rfl;exact⟨x,k,_,m1,m2,p++[new],d2,R,g.append_right [new],rfl,by simpa using m3,m5,m6,m7⟩
  rename_i j;exact O.ob y o (by rw[u,aU j];exact hy)
 have same:∀y,((⟨T.put T.deep (T.put T.deep h.t b none) h.next (some (.qO (c++[new]) A i.size)),h.next+1,h.next::b::h.log⟩:H).get y).isSome=true->((⟨T.put T.deep (T.put T.deep m.t b none) h.next (some (.cells (p.flatten++new) A (some i.size))),h.next+1,h.next::b::h.log⟩:H).get y).isSome=true:=fun y hy=>by
  rw[q] at hy;rw[u];split at hy
  .rename_i j;rw[aY j];rfl
  rename_i j;rw[aU j];exact hy
 exact O.inj y G x k k2 (same y a1) (same G a2) b1 b2
theorem Y1{h h' w}(hr:HR ρ h w){t ty s s' x x' v}(hs:VR ρ s s')(hx:VR ρ x x')(e:IG P h t s x=some (v,h'))(hu:∀b,h.next<=b->b<h'.next->ρ b=.dC):∃v' w' ρ',(Builtin.append_ #[t,t] ty #[s',x']).run P w=.ok v' w'/\Stp ρ h w ρ' h' w'/\HR ρ' h' w'/\VR ρ' v v':=by
 unfold IG at e;split at e
 .rename_i a;cases e;exact RZ hr hs hx a hu
 exact afD hr hs hx e hu
def zY(P:aH)(ρE:fH->aB ae)(o:Op)(h:H):aB (ae×H):=
 match o with
 |.range .. | .next .. | .entry ..=>none
 |_=>match iP P ρE o h with
  |.one x=>some x
  |_=>none
def Gives(n:Next)(v:ae):Prop:=n=.value v\/(n=.skip/\v=undef)
def Does(P:aH)(ρ:jV)(h:H)(w:ay)(s:Sem Next)(v:ae)(h':H):Prop:=∃n v' w' ρ',s.run P w=.ok n w'/\Gives n v'/\Stp ρ h w ρ' h' w'/\HR ρ' h' w'/\VR ρ' v v'
theorem qw{r k v h'}(e:made r k=.one (v,h')):∃b,r=some (b,h')/\v=k b:=by
 unfold made at e;split at e
 .rename_i b h1;cases e;exact⟨b,rfl,rfl⟩
 cases e
theorem O1{r v h'}(e:done r=.one (v,h')):r=some h'/\v=.tuple #[]:=by
 unfold done at e;split at e
 .cases e;exact⟨rfl,rfl⟩
 cases e
theorem lM:VR ρ (.tuple #[]) undef:=.tuple .nil
theorem Aw{h h' w c c' t b}(hr:HR ρ h w)(hc:iL ρ c c')(e:h.new (.cells c t none)=some (b,h'))(hu:∀b,h.next<=b->b<h'.next->ρ b=.dC):∃ρ',Stp ρ h w ρ' h' (w.alloc (.cells ⟨c'⟩ t))/\HR ρ' h' (w.alloc (.cells ⟨c'⟩ t))/\Le ρ ρ'/\AR ρ' ⟨b,0,none⟩ ⟨w.heap.size,0,none⟩:=by have⟨q1,q2,q3,q4⟩:=H.mG e;have a:=hu b (by omega) (by omega);have d:=rE a (.at_ w.heap.size 0);have⟨s1,s2⟩:=Di e a (w':=w.alloc (.cells ⟨c'⟩ t)) rfl hr 0 ⟨c',[],by simp,hc.mono d,fun _=>rfl,fun _ h=>by cases h⟩;exact⟨_,s1,s2,d,⟨by unfold BR;rw[upd_same],rfl,rfl,rfl⟩⟩
theorem jC(a:Env ρ ρE ρr){x v}(h:ρE x=some v):VR ρ v (ρr x):=a x v h
theorem heap_alloc{h h' w}(hr:HR ρ h w){t v}(e:iP P ρE (.alloc t) h=.one (v,h'))(hu:∀b,h.next<=b->b<h'.next->ρ b=.dC):Does P ρ h w (do pure (.value (<- Instr.alloc t true (.tuple #[])))) v h':=by
 simp[iP] at e;split at e
 .rename_i z f;obtain⟨b,g,rfl⟩:=qw e;have⟨c,d⟩:=nH f w;have a:iL ρ z.cells.toList z.cells.toList:=(dX d).cells;have⟨ρ',s1,s2,_,s4⟩:=Aw hr a g hu;refine⟨_,.pointer _,_,ρ',?_,.inl rfl,s1,s2,.ptr s4⟩;simp[Instr.alloc,c,newVar,newRow]
 cases e
theorem adX(c:Env ρ ρE ρr){h h' w}(hr:HR ρ h w){t x v}(e:iP P ρE (.box t x) h=.one (v,h'))(hu:∀b,h.next<=b->b<h'.next->ρ b=.dC):Does P ρ h w (do pure (.value (<- Instr.box t (ρr x)))) v h':=by
 simp[iP] at e;split at e
 .rename_i u hx
  split at e
  .obtain⟨b,d,rfl⟩:=qw e;have a:=(jC c hx).cells;have⟨ρ',s1,s2,_,s4⟩:=Aw hr a d hu;refine⟨_,.pointer _,_,ρ',?_,.inl rfl,s1,s2,.ptr s4⟩;simp[Instr.box,newVar,newRow]
  cases e
 cases e
theorem abM(c:Env ρ ρE ρr){h h' w}(hr:HR ρ h w){t x v}(e:iP P ρE (.load t x) h=.one (v,h')):Does P ρ h w (do pure (.value (<- Instr.loadAt t (ρr x)))) v h':=by
 simp[iP] at e;split at e
 .rename_i a hx
  split at e
  .rename_i u hl;cases e;have⟨a',b,ha⟩:=(jC c hx).lD;have⟨v',h1,h2⟩:=Oq hr ha hl;exact⟨_,v',w,ρ,by simp[Instr.loadAt,Instr.sureAddr,b,h1],.inl rfl,.refl ρ h w w rfl,hr,h2⟩
  cases e
 cases e
theorem Yp(c:Env ρ ρE ρr){h h' w}(hr:HR ρ h w){t x y v}(e:iP P ρE (.store t x y) h=.one (v,h')):Does P ρ h w (do Instr.storeAt t (ρr x) (ρr y);pure .skip) v h':=by
 simp[iP] at e;split at e
 .rename_i a u hx hy;obtain⟨f,rfl⟩:=O1 e;have⟨a',b,ha⟩:=(jC c hx).lD;have⟨w',h1,h2,d⟩:=QI hr ha (jC c hy) f;exact⟨_,undef,w',ρ,by simp[Instr.storeAt,Instr.sureAddr,b,h1],.inr ⟨rfl,rfl⟩,h2,d,lM⟩
 cases e
theorem agh{h h' w b}(hr:HR ρ h w)(e:h.new (.map [] 0)=some (b,h'))(hu:∀b,h.next<=b->b<h'.next->ρ b=.dC):∃ρ',Stp ρ h w ρ' h' (w.alloc (.map #[] 0))/\HR ρ' h' (w.alloc (.map #[] 0))/\BR ρ' b w.heap.size:=by have⟨q1,q2,q3,q4⟩:=H.mG e;have a:=hu b (by omega) (by omega);have⟨s1,s2⟩:=Di e a (w':=w.alloc _) rfl hr 0 ⟨rfl,rfl⟩;exact⟨_,s1,s2,by unfold BR;rw[upd_same]⟩
theorem Ua{h h' w}(hr:HR ρ h w){t v}(e:iP P ρE (.makeMap t none) h=.one (v,h'))(hu:∀b,h.next<=b->b<h'.next->ρ b=.dC):Does P ρ h w (do pure (.value (<- Instr.makeMap t none))) v h':=by
 simp[iP] at e;split at e
 .obtain⟨b,a,rfl⟩:=qw e;have⟨ρ',s1,s2,s3⟩:=agh hr a hu;exact⟨_,.map _,_,ρ',by simp[Instr.makeMap],.inl rfl,s1,s2,.map s3⟩
 cases e
end
end Go.Ev
