import Derived.Test.YtjilljfmaknihaaGreatA09
import Derived.Test.YtjilljfmaknihaaGreatA14
import Derived.Test.YtjilljfmaknihaaGreatA21
set_option linter.all false
set_option maxHeartbeats 4000000
namespace Go
def kH:=@Go.Frame.eval_atR
end Go
namespace Go.Ev
open Go.Conc Go.Ren
section
variable[M:Mps]{P:aH}{L N:List aI}
def mJ(v v':ay):Prop:=∀(b:Nat) (o:Obj),v.heap[b]?=some o->dB o=true->∀o':Obj,v'.heap[b]?=some o'->dB o'=true
theorem mJ.of{v v'}(h:v'.heap=v.heap):mJ v v':=fun b o h1 h2 o' a=>by rw[h,h1] at a;rw[<-aN a];exact h2
theorem mJ.TE{ρ ρ' h h' v v'}(s:Stp ρ h v ρ' h' v')(hr:HR ρ h v)(hu:lK ρ h.next h'.next):mJ v v':=fun b o h1 h2 o' i=>by
 have⟨l,_,f1,_,o1,_,_⟩:=s.log;have n:=f1 b o h1 fun c k hc d=>by
  rcases o1 c hc with f|⟨f,m⟩
  .have⟨ob,j⟩:=gQ.1 f;have⟨x,k',o2,h8,g,a⟩:=hr.ob c ob j;rw[d] at h8;cases h8;rw[h1] at g;cases g;cases ob with
   |cells=>obtain⟨_,_,rfl,_⟩:=a;cases h2
   |map=>obtain⟨rfl,_⟩:=a;cases h2
   |iter=>obtain⟨_,rfl,_⟩:=a;cases h2
   |loop=>obtain⟨_,_,rfl,_⟩:=a;cases h2
   |calls=>have e:=a;subst e;cases h2
   |bag=>obtain⟨_,_,_,_,rfl,_⟩:=a;cases h2
   |qO=>obtain⟨_,_,_,_,rfl,_⟩:=a;cases h2
   |half=>obtain⟨_,_,_,_,_,rfl,_⟩:=a;cases h2
   |shut=>obtain⟨_,_,_,rfl,_⟩:=a;cases h2
  rw[hu c f m] at d;cases d
 rw[n] at i;rw[<-aN i];exact h2
def iW(P:aH)(L N:List aI)(K:aC->List aC->ay->Prop):Prop:=∀fr cs v,@fO _ (aV P L N) P (·∈L) (fun g v'=>∃fr' cs',g=G fr' cs'/\K fr' cs' v'/\mJ v v') (G fr cs) v->K fr cs v
def qN(cs:List aC):Prop:=∃l,cs=l++[bottom]
theorem qN.ne{cs}(h:qN cs):cs≠[]:=by obtain⟨l,rfl⟩:=h;simp
theorem qN.cons{cs}(h:qN cs)(c):qN (c::cs):=by obtain⟨l,rfl⟩:=h;exact⟨c::l,rfl⟩
variable{K:aC->List aC->ay->Prop}
theorem iW.own(c:iW P L N K){fr cs v}(hf:@Fit (aV P L N) P (G fr cs))(h:∀t,∃fr' cs' v' es,stepG P true (G fr cs) (wt v t)=.go (G fr' cs') v' es/\bf fr'.mode/\qN cs'/\(Ren.Clean (·∈L) v->Ren.Clean (·∈L) v')/\mJ v v'/\K fr' cs' v'):K fr cs v:=by
 have h1:=fun t=>fB (h t);have h2:=fun t=>fB (h1 t);have b:=fun t=>fB (h2 t);have a:=fun t=>fB (b t);exact c fr cs v (@fO.step _ (aV P L N) _ _ _ _ _ hf (fun t=>G (Classical.choose (h t)) (Classical.choose (h1 t))) (fun t=>Classical.choose (h2 t)) (fun t=>Classical.choose (b t)) (fun t=>(a t).1)
  (fun t=>⟨rfl,.inl rfl,(a t).2.1⟩) (fun t=>(a t).2.2.2.1) (fun t=>(a t).2.2.1) (fun _=>rfl) (fun t=>@fO.done _ (aV P L N) _ _ _ _ _ ⟨_,_,rfl,(a t).2.2.2.2.2,(a t).2.2.2.2.1⟩))
theorem iW.call(a:iW P L N K){fn args c cs v}{Post:ae->ay->Prop}(hfn:fn∈L)(hargs:pJ (·∈L) args)(hcs:cs≠[])(hP:∀x v t,Post x v->Post x (wt v t))(hc:∀t,Calls P fn args (wt v t) fun e w'=>∃x,e=.returned x/\Post x w')(hst:∀x v',Post x v'->mJ v v')(next:∀x v',Post x v'->K (c.finish x) cs v'):K (Frame.enter P fn args .normal) (c::cs) v:=a _ _ _ (@fO.call _ (aV P L N) _ _ _ _ _ _ _ _ Post hfn hargs hcs hP hc fun x v' hp _=>@fO.done _ (aV P L N) _ _ _ _ _ ⟨_,_,rfl,next x v' hp,hst x v' hp⟩)
theorem mW{b:aC}{a k cs w w' ops i rest o M v}(ho:ops[i]?=some o)(hw:Region.wanted o (yielded ops a.tmps)=true)(hd:∀c,o.op≠.defer c)(hr:(execOp a.eval o).run P w=.ok M w')(d:Gives M v):∃es,stepG P true (G (b.atR a (.inRegion ops (i::rest)::k)) cs) w=.go (G (b.atR (a.put o.dst v) (.inRegion ops rest::k)) cs) w' es:=by
 have hf:=pg b a ops i rest k v;rw[ho] at hf;simp[Option.bind_some] at hf;have h1:=PW (P:=P) (b:=b) (a:=a) (k:=k) (cs:=cs) (w:=w) (rest:=rest) ho hw;unfold Conc.G;rw[h1,Oper.semAt_eq _ _ _ hd,<-hf];rcases d with rfl|⟨rfl,rfl⟩
 .simp only[stepG.apply,Sem.runT_eq,hr,je,GStep.after];exact⟨_,rfl⟩
 simp only[stepG.apply,Sem.runT_eq,hr,je,GStep.after];exact⟨_,rfl⟩
def Yb:ig->Bool
|.inRegion _ []=>true
|.inRegion _ (_::_)=>false
|.code c=>match c with|.rangeFunc ..=>false|_=>true
|.call ..=>false
|_=>true
theorem pV{b:aC}{a cs i k}(hi:Yb i=true):@Fit (aV P L N) P (G (b.atR a (i::k)) cs):=by
 refine @WI _ P (aV P L N) _ _ _ _ rfl rfl ?_;cases i with
 |inRegion ops l=>cases l<;>simp_all [Yb]
 |code c=>cases c<;>simp_all [Yb]
 |call=>simp_all [Yb]
 |_=>trivial
theorem kF{b:aC}{a cs k ops i rest o}(ho:ops[i]?=some o)(hc:Jv o.op=false)(hb:jw P L o=true):@Fit (aV P L N) P (G (b.atR a (.inRegion ops (i::rest)::k)) cs):=aed rfl rfl ho hc hb
theorem iW.text(c:iW P L N K){b:aC}{a k k' cs w}(hcs:qN cs)(hf:@Fit (aV P L N) P (G (b.atR a k) cs))(h:∀w,∃es,stepG P true (G (b.atR a k) cs) w=.go (G (b.atR a k') cs) w es)(hk:∀t,K (b.atR a k') cs (wt w t)):K (b.atR a k) cs w:=c.own hf fun t=>by obtain⟨es,e⟩:=h _;exact⟨_,_,_,es,e,trivial,hcs,fun hc=>Ren.dH hc rfl,.of rfl,hk t⟩
mutual
def oh(L:List aI):ae->Bool
 |.func (.func f) ⟨a⟩ ⟨b⟩=>L.contains f&&iZ L a&&iZ L b
 |.func _ _ _=>false
 |.agg ⟨cs⟩|.tuple ⟨cs⟩=>iZ L cs
 |.iface _ _=>false
 |_=>true
def iZ(L:List aI):List ae->Bool
 |[]=>true
 |v::l=>oh L v&&iZ L l
end
theorem YR{v}(h:atom v=true):fF (·∈L) v:=by
 cases v with
 |pointer a=>exact Dw a
 |slice a l c=>exact Bj a l c
 |map a=>exact O6 a
 |chan a=>exact KU a
 |bool b=>exact WV b
 |int k n=>exact O7 k n
 |string b=>exact Qx b
 |float k b=>exact jS rfl
 |complex k a b=>exact jS rfl
 |nilFunc=>exact jS rfl
 |nilIface=>exact jS rfl
 |func _ _ _=>cases h
 |iface _ _=>cases h
 |agg _=>cases h
 |tuple _=>cases h
mutual
theorem VR.clean{ρ:jV}:∀{v v':ae},VR ρ v v'->oh L v=true->fF (·∈L) v'
 |_,_,.same h,_=>YR h
 |_,_,.ptr _,_=>Dw _
 |_,_,.slice _ _,_=>Bj _ _ _
 |_,_,.map _,_=>O6 _
 |_,_,.func ha hb,h=>by simp only[oh,aT] at h;exact WU (by simpa using h.1.1) (fun x hx=>iL.clean ha h.1.2 x (by simpa using hx)) (fun x hx=>iL.clean hb h.2 x (by simpa using hx))
 |_,_,.yield _,h=>by simp[oh] at h
 |_,_,.chan _,_=>KU _
 |_,_,.agg hs,h=>YS fun x hx=>iL.clean hs (by simpa[oh] using h) x (by simpa using hx)
 |_,_,.tuple hs,h=>Uj fun x hx=>iL.clean hs (by simpa[oh] using h) x (by simpa using hx)
theorem iL.clean{ρ:jV}:∀{l l':List ae},iL ρ l l'->iZ L l=true->∀x∈l',fF (·∈L) x
 |_,_,.nil,_,x,hx=>by simp at hx
 |_,_,.cons hv hs,h,x,hx=>by
  simp only[iZ,aT] at h;rcases dW.1 hx with rfl|hx
  .exact hv.clean h.1
  exact iL.clean hs h.2 x hx
end
end
section
variable[M:Mps]{P:aH}{L N:List aI}
theorem SX(w:ay)(a)(v)(b:Nat)(o)(h:(w.setCell a v).heap[b]?=some o):w.heap[b]?=some o \/ ∃c e d,w.heap[b]?=some (.cells c e d)/\o=.cells (if a.spot.isSome then c else c.setIfInBounds a.off v) e d:=by
 unfold World.setCell at h;rw[PI] at h;split at h
 .cases hb:w.heap[b]? with
  |none=>rw[hb] at h;cases h
  |some o0=>
   rw[hb] at h;simp[Option.map_some,kG] at h;cases o0 with
   |cells c e d=>exact .inr ⟨c,e,d,rfl,h.symm⟩
   |_=>exact .inl (by rw[<-h])
 exact .inl h
theorem yR{S w a v}(hw:Ren.Clean S w)(j:fF S v):Ren.Clean S (w.setCell a v):=fun H f h e b o hb=>by
 rcases SX w a v b o hb with d|⟨c,el,g,d,rfl⟩
 .exact hw H f h e b o d
 have h1:=hw H f h e b _ d;have i:@vals _ H aj h c=@vals _ f aj h c:=by have:Obj.cells (@vals _ H aj h c) el g=Obj.cells (@vals _ f aj h c) el g:=h1;injection this
 split
 .exact h1
 show Obj.cells (@vals _ H aj h _) el g=Obj.cells (@vals _ f aj h _) el g;have h2:∀(X),@vals _ X aj h _=(@vals _ X aj h c).setIfInBounds a.off (@val _ X aj h v):=fun X=>by unfold vals;rw[Array.map_setIfInBounds]
 rw[h2 H,h2 f,i,j H f h e]
theorem Ag{S:aI->Prop}{a:Addr}:∀(f:List ae) (i:Nat) (w w':ay),(∃c e j,w.heap[a.block]?=some (.cells c e j))->(∀v∈f,fF S v)->(storeCells a f i).run P w=.ok () w'->Ren.Clean S w->Ren.Clean S w'
|[],i,w,w',_,_,h,hc=>by simp[storeCells] at h;rw[<-h];exact hc
|v::f,i,w,w',⟨c,e,j,hb⟩,g,h,hc=>by
 simp only[storeCells,yC] at h;have b:(a.add i).block=a.block:=by unfold Addr.add;split<;>rfl
 have key:(store (a.add i) v).run P w=.ok () (w.setCell (a.add i) v) \/ ∃hh w1,(store (a.add i) v).run P w=.halt hh w1:=by
  unfold store;cases v with
  |agg _=>exact .inr ⟨_,_,rfl⟩
  |tuple _=>exact .inr ⟨_,_,rfl⟩
  |_=>
  simp only[Sem.run];split
  .split
   .exact .inr ⟨_,_,rfl⟩
   exact .inl rfl
  have d:∀x,w.farStore P (a.add i) x (Mode.plain==.atomic)=.error (w.noCell (a.add i) "store: no such cell"):=fun x=>by unfold World.farStore;rw[b,hb]
  rw[d];exact .inr ⟨_,_,rfl⟩
 rcases key with key|⟨hh,w1,key⟩
 .rw[key] at h
  simp only[Result.andThen] at h;refine Ag f (i+1) _ w' ?_ (fun u hu=>g u (by simp[hu])) h (yR hc (g v (by simp)));unfold World.setCell;rw[b,PI,aY rfl,hb];exact⟨_,_,_,rfl⟩
 rw[key] at h;simp[Result.andThen] at h
end
section
variable[M:Mps]{P:aH}{L N:List aI}{ρ:jV}{ρE:fH->aB ae}{ρr:fH->ae}
def afk(P:aH)(L:List aI)(ρ:jV)(h:H)(w:ay)(s:Sem Next)(v:ae)(h':H):Prop:=∃n v' w' ρ',s.run P w=.ok n w'/\Gives n v'/\Stp ρ h w ρ' h' w'/\HR ρ' h' w'/\VR ρ' v v'/\(Ren.Clean (·∈L) w->Ren.Clean (·∈L) w')
def Md(L:List aI)(x:aB ae):Bool:=match x with|some v=>oh L v|none=>false
def YW(P:aH)(L:List aI)(t:T ae)(o:bn):Bool:=jw P L o && !Jv o.op&&(match o.op with
|.load .. | .alloc _=>true
|.box _ x=>Md L (di t x)
|.store _ _ y=>Md L (di t y)
|.buildSlice _ _ ps=>ps.toList.all fun p=>Md L (di t p.2)
|o=>xZ o)
theorem FP{v}(h:flat v=true):fF (·∈L) v:=by
 have key:∀v,flat v=true->fF _ v:=fun v h=>by
  have hh:=dX (ρ:=fun _=>.dead) h;have:oh L v=true:=by exact WH v h
  exact hh.clean this
 exact key v h
where
 WH:∀v,flat v=true->oh L v=true:=by intro v h;exact(cl v).1 h
 cl:∀v,(flat v=true->oh L v=true)/\True:=fun v=>⟨fun h=>fcb v h,trivial⟩
 fcb:∀v,flat v=true->oh L v=true
  |.bool _,_|.int _ _,_|.string _,_|.nilFunc,_|.nilIface,_|.pointer none,_|.map none,_|.chan none,_|.slice none _ _,_=>rfl
  |.agg ⟨cs⟩,h=>by simp[oh];exact agH cs (by simpa[flat] using h)
  |.tuple ⟨cs⟩,h=>by simp[oh];exact agH cs (by simpa[flat] using h)
  |.float _ _,h|.complex _ _ _,h|.func _ _ _,h|.iface _ _,h=>by simp[flat] at h
  |.pointer (some _),h|.map (some _),h|.chan (some _),h|.slice (some _) _ _,h=>by simp[flat] at h
 agH:∀l,kY l=true->iZ L l=true
  |[],_=>rfl
  |v::l,h=>by
   simp[kY] at h;split at h
   .rename_i hv;simp[iZ,aT];exact⟨fcb v hv,agH l h⟩
   cases h
theorem yz{v}(h:flat v=true):∀x∈v.cells.toList,fF (·∈L) x:=fun x hx=>by
 have h1:=(dX (ρ:=fun _=>.dead) h);refine iL.clean h1.cells ?_ x hx;cases v with
 |agg cs=>have⟨cs⟩:=cs;exact FP.agH cs (by simpa[flat] using h)
 |_=>simp[Value.cells,List.toList_toArray]<;>first|(simp[iZ,Bool.and_true];exact FP.fcb _ h)|(simp[iZ];exact FP.fcb _ h)
theorem vN{v v'}(h:VR ρ v v')(hc:oh L v=true):∀x∈v'.cells.toList,fF (·∈L) x:=fun x hx=>by
 refine iL.clean h.cells ?_ x hx;cases v with
 |agg cs=>have⟨cs⟩:=cs;simpa[oh,Value.cells] using hc
 |_=>simp[Value.cells,iZ,hc]
theorem rO{w c e}(hc:∀x∈c,fF (·∈L) x)(hw:Ren.Clean (·∈L) w):Ren.Clean (·∈L) (w.alloc (.cells c e)):=YQ hw (Ul hc) rfl
theorem FX{x}(h:Md L x=true):∃v,x=some v/\oh L v=true:=by
 cases x with
 |none=>cases h
 |some v=>exact⟨v,rfl,h⟩
theorem OO{S:aI->Prop}(off:Nat):∀(l:List (ae×Nat)) (cs:Array ae),(∀x∈cs,fF S x)->(∀p∈l,fF S p.1)->∀x∈l.foldl (fun cs (c,j)=>cs.setIfInBounds (off+j) c) cs,fF S x
|[],cs,h,_,x,hx=>h x hx
|p::l,cs,h,hl,x,hx=>by
 refine OO off l _ (fun y hy=>?_) (fun q a=>hl q (by simp[a])) x hx;have⟨j,hj⟩:=Array.getElem?_of_mem hy;rw[Su] at hj;split at hj
 .split at hj
  .cases hj;exact hl p (by simp)
  cases hj
 exact h y (kP hj)
theorem OU{S:aI->Prop}{pl:Nat->aB (Nat×Nat)}:∀{ps:List (Nat×ae)} {cs r:Array ae},Instr.fill pl cs ps=some r->(∀x∈cs,fF S x)->(∀p∈ps,∀x∈p.2.cells,fF S x)->∀x∈r,fF S x
|[],cs,r,e,h,_=>by simp[Instr.fill] at e;subst e;exact h
|(i,v)::ps,cs,r,e,h,hp=>by
 simp only[Instr.fill] at e;split at e
 .cases e
 rename_i off size d;split at e
 .cases e
 refine OU e ?_ fun p a=>hp p (by simp[a]);intro x hx;have b:x∈v.cells.zipIdx.toList.foldl (fun cs (c,j)=>cs.setIfInBounds (off+j) c) cs:=by rw[<-EW] at hx;exact hx
 refine OO _ _ _ h (fun p a=>?_) x b;have h1:p∈v.cells.zipIdx:=uz.1 a;have h2:p.1∈v.cells:=by have⟨p1,p2⟩:=p;exact kP (Array.mem_zipIdx_iff_getElem?.1 h1)
 exact hp (i,v) (by simp) p.1 h2
theorem G9{α:Type}{z:List α}{x:α}:∀{n:Nat},x∈gp z n->x∈z
|0,h=>by simp[gp] at h
|n+1,h=>by rw[gp,pY] at h;exact h.elim id G9
theorem VU{t o h h' w v n}{a:Act}(hc:YW P L t o=true)(hp:xZ o.op=false)(ht:TR ρ n t a.tmps)(hr:HR ρ h w)(e:zY P (di t) o.op h=some (v,h'))(hu:∀b,h.next<=b->b<h'.next->ρ b=.dC):afk P L ρ h w (execOp a.eval o) v h':=by
 have C:=fA ht;unfold YW at hc;simp only[aT] at hc;have⟨_,hc⟩:=hc;unfold execOp;cases S:o.op<;>rw[S] at e hc hp<;>simp[zY] at e<;>try (first|(cases e;done)|(simp[iP] at e;cases e;done)|(exfalso;have B:=hc;dsimp only at B;rw[hp] at B;cases B;done))
 case alloc t=>
  have e:=jJ e;simp[iP] at e;split at e
  .rename_i z l
   obtain⟨b,g,rfl⟩:=qw e;have⟨s,m⟩:=nH l w;have H:iL ρ z.cells.toList z.cells.toList:=(dX m).cells;have⟨ρ',s1,s2,_,s4⟩:=Aw hr H g hu;refine⟨_,.pointer _,_,ρ',?_,.inl rfl,s1,s2,.ptr s4,rO fun x hx=>yz m x (by simpa using hx)⟩;simp[Instr.alloc,s,newVar,newRow]
  cases e
 case box t x=>
  have e:=jJ e;simp[iP] at e;split at e
  .rename_i u hx
   split at e
   .obtain⟨b,g,rfl⟩:=qw e
    have Z:=(jC C hx).cells;have⟨G,f,hcl⟩:=FX hc;obtain rfl:u=G:=by rw[hx] at f;exact aN f
    have⟨ρ',s1,s2,_,s4⟩:=Aw hr Z g hu;refine⟨_,.pointer _,_,ρ',?_,.inl rfl,s1,s2,.ptr s4,rO fun y hy=>vN (jC C hx) hcl y (by simpa using hy)⟩;simp[Instr.box,newVar,newRow]
   cases e
  cases e
 case load t x=>
  have e:=jJ e;simp[iP] at e;split at e
  .rename_i b hx
   split at e
   .rename_i u hl
    cases e;have⟨a',A,ha⟩:=(jC C hx).lD;have⟨v',h1,h2⟩:=Oq hr ha hl;exact⟨_,v',w,ρ,by simp[Instr.loadAt,Instr.sureAddr,A,h1],.inl rfl,.refl ρ h w w rfl,hr,h2,id⟩
   cases e
  cases e
 case store t x y=>
  have e:=jJ e;simp[iP] at e;split at e
  .rename_i b u hx hy
   obtain⟨g,rfl⟩:=O1 e;have⟨a',A,ha⟩:=(jC C hx).lD;have E:=jC C hy;have⟨w',h1,h2,D⟩:=QI hr ha E g;have⟨G,f,hcl⟩:=FX hc;obtain rfl:u=G:=by rw[hy] at f;exact aN f
   refine⟨_,undef,w',ρ,by simp[Instr.storeAt,Instr.sureAddr,A,h1],.inr ⟨rfl,rfl⟩,h2,D,lM,fun T=>?_⟩;have hb:∃c e fz,w.heap[a'.block]?=some (.cells c e fz):=by
    unfold I8 at g;split at g
    .split at g
     .unfold stores at g
      split at g
      .rename_i hg _ _
       have⟨k,d,r,_,Y,_⟩:=row_of hr hg ha.block;exact⟨_,_,_,Y⟩
      .rename_i hg _ _
       obtain⟨x0,k,o',X,W,p,d,d2,r,_,rfl,_⟩:=hr.ob _ _ hg;obtain rfl:=ha.block.at_ X;exact⟨_,_,_,W⟩
      cases g
     cases g
    cases g
   have hst:∃w1,(storeCells a' (a.eval y).cells.toList).run P w=.ok () w1/\w1=w':=by
    unfold storeVar at h1;simp[yC] at h1;cases l:(Go.sizeOf t).run P w with
    |halt hh w1=>rw[l] at h1;simp[Result.andThen] at h1
    |ok V w1=>
     have J:w1=w:=by
      unfold Go.sizeOf typeInfo at l;simp[yC,run_program,Result.andThen] at l;cases hi:P.info? t with
      |none=>rw[hi] at l;simp[stuck,Sem.run,Result.andThen] at l
      |some i=>rw[hi] at l;simp at l;exact l.2.symm
     subst J;rw[l] at h1;simp[Result.andThen] at h1;by_cases hne:(a.eval y).cells.size=V
     .simp[hne] at h1
      exact⟨w',h1,rfl⟩
     simp[hne,stuck,Sem.run,Result.andThen] at h1
   obtain⟨w1,hst,rfl⟩:=hst;exact Ag _ 0 w w1 hb (fun x hx=>vN E hcl x hx) hst T
  cases e
 case buildSlice t len ps=>
  have e:=jJ e;simp only[iP] at e;split at e
  .rename_i vs el K O
   split at e
   .rename_i j z hj l
    split at e
    .rename_i h1 h2 D
     split at e
     .rename_i cs hf
      obtain⟨b,g,rfl⟩:=qw e;have h1:=iF h1;have h2:=bG h2;have D:j.size≠0:=fun e0=>by rw[e0] at D;cases D
      have⟨s,m⟩:=nH l w;have I:z.cells.size=j.size:=by rw[<-h2];simp
      have⟨r',f1,f2⟩:=Ir (fun i=>some _) (ps:=ps.toList.map (·.1)) (C.opts K) (mD (ρ:=ρ) m len) hf;have⟨ρ',s1,s2,_,s4⟩:=Aw hr f2 g hu;have Q:(ps.map fun(i,x)=>(i,a.eval x)).toList=(ps.toList.map (·.1)).zip (((ps.toList.map (·.2))).map a.eval):=by rw[map_snd,Lh];rfl
      have F:Instr.fill (fun i=>some (i*j.size,j.size)) ⟨gp z.cells.toList len⟩ (ps.map fun(i,x)=>(i,a.eval x)).toList=some r':=by rw[Q];exact f1
      have hrun:=run_buildSlice (ps:=ps.map fun(i,x)=>(i,a.eval x)) w O hj s I D h1 F;have hlen:len<=len*j.size:=Nat.le_mul_of_pos_right _ (by omega);refine⟨_,.slice (some ⟨w.heap.size,0,none⟩) len len,_,ρ',by simp[hrun],.inl rfl,s1,s2,.slice s4 (.inl ⟨by unfold soft;omega,rfl⟩),rO ?_⟩;refine OU F (fun x hx=>yz m x (G9 (by simpa using hx))) fun p R x hx=>?_;obtain⟨q,hq,rfl⟩:∃q∈ps,(q.1,a.eval q.2)=p:=by simpa using R
      have hcl:=bZ.1 hc q (by simpa using hq);have⟨u,f,U⟩:=FX hcl;exact vN (jC C f) U x (by simpa using hx)
     cases e
    cases e
   cases e
  cases e
end
section
variable[M:Mps]{P:aH}{L N:List aI}{K:aC->List aC->ay->Prop}
theorem uQ(w)(t):(wt w t).heap=w.heap:=rfl
theorem iW.op(y:iW P L N K){ρ n t h h' o v ops i rest}{b:aC}{a:Act}{k:List ig}{cs:List aC}{w:ay}(e:(if xZ o.op then(sZ P (di t) o.op).map fun v=>(v,h) else zY P (di t) o.op h)=some (v,h'))(hc:YW P L t o=true)(ho:ops[i]?=some o)(hw:Region.wanted o (yielded ops a.tmps)=true)(ht:TR ρ n t a.tmps)(hr:HR ρ h w)(hu:lK ρ h.next h'.next)(hcs:qN cs)(hk:∀ρ' v' w',Stp ρ h w ρ' h' w'->HR ρ' h' w'->VR ρ' v v'->K (b.atR (a.put o.dst v') (.inRegion ops rest::k)) cs w'):K (b.atR a (.inRegion ops (i::rest)::k)) cs w:=by
 have d:=hc;unfold YW at d;simp[aT,ET] at d;obtain⟨⟨hb,f⟩,_⟩:=d;have p:∀c,o.op≠.defer c:=fun c hh=>by
  split at e
  .cases hp:sZ P _ o.op with
   |none=>rw[hp] at e;cases e
   |some u=>exact jo hp c hh
  exact wW e c hh
 refine y.own (kF ho f hb) fun g=>?_;have j:HR ρ h _:=hr.heap (uQ w g);have does:afk P L ρ h (wt w g) (execOp a.eval o) v h':=by
  split at e
  .cases hp:sZ P _ o.op with
   |none=>rw[hp] at e;cases e
   |some u=>rw[hp] at e;cases e;obtain⟨v',m,l⟩:=pure_ok (o:=o) (fA ht) hp _;exact⟨_,v',_,ρ,m,.inl rfl,.refl ρ h _ _ rfl,j,l,id⟩
  rename_i hp;exact VU hc (by simpa using hp) ht j e hu
 obtain⟨M,v',w',ρ',m,l,q,x,s,r⟩:=does;obtain⟨es,hst⟩:=mW (b:=b) (k:=k) (cs:=cs) (rest:=rest) ho hw p m l;exact⟨_,_,w',es,hst,trivial,hcs,fun hcl=>r (Ren.dH hcl (uQ w g)),.TE (q.heap (uQ w g)) hr hu,hk ρ' v' w' (q.heap (uQ w g)) x s⟩
theorem go_enter{b:aC}{a k cs w ops i rest o f fn c xs h}(ho:ops[i]?=some o)(hw:Region.wanted o (yielded ops a.tmps)=true)
  (g:o.op=.call {callee:=.value (.func f),args:=xs,argTypes:=h}) (hf:P.funcs[f]?=some fn) (hb:fn.body=some c) (e:(fn.name == "runtime.NumGoroutine")=false) :
  ∃es,stepG P true (G (b.atR a (.inRegion ops (i::rest)::k)) cs) w=.go (G (Frame.enter P f (xs.map a.eval) .normal) (b.atR a (.inRegion ops (i::rest)::k)::cs)) w es:=by
 have hd:∀c,o.op≠.defer c:=fun c=>by rw[g];simp
 have h1:=PW (P:=P) (b:=b) (a:=a) (k:=k) (cs:=cs) (w:=w) (rest:=rest) ho hw;have hrun:(execOp a.eval o).run P w=.ok (.enter f (xs.map a.eval)) w:=by
  unfold execOp;rw[g];show(do let d <- resolve a.eval _ o.type;invoke d.target d.args:Sem Next).run P w=_;unfold resolve;have hc:=mF hf e hb (xs.map a.eval) w;simp only[Act.eval,Deferred.ofValue,yC,Sem.run_pure,Result.andThen,invoke];have j:(#[]:Array ae)++xs.map a.eval++#[]=xs.map a.eval:=by simp
  show(callFunc f ((#[]:Array ae)++xs.map a.eval++#[])).run P w=_;rw[j];exact hc
 unfold Conc.G;rw[h1,Oper.semAt_eq _ _ _ hd];simp only[stepG.apply,Sem.runT_eq,hrun,je,GStep.after];exact⟨_,rfl⟩
theorem iW.ahF(z:iW P L N K){ρ n t h h' o v ops i rest}{b:aC}{a k cs}{w:ay}{f:aI}{xs:Array fH}{y:Array aZ}{args:List ae}(l:o.op=.call {callee:=.value (.func f),args:=xs,argTypes:=y})(hargs:opts (di t) xs.toList=some args)(u:dF P f args h v h')(q:f∈L)(p:f∉N)(hcl:iZ L args=true)(s:jw P L o=true)(ho:ops[i]?=some o)(hw:Region.wanted o (yielded ops a.tmps)=true)(ht:TR ρ n t a.tmps)(hr:HR ρ h w)(hu:lK ρ h.next h'.next)(hcs:qN cs)(hk:∀ρ' v' w',Stp ρ h w ρ' h' w'->HR ρ' h' w'->VR ρ' v v'->K (b.atR (a.put o.dst v') (.inRegion ops rest::k)) cs w'):K (b.atR a (.inRegion ops (i::rest)::k)) cs w:=by
 have⟨hn,fn,c,hf,hb,d,r⟩:=u;have A:=fA ht;have j:=A.opts hargs;refine z.own (WJ (o:=o) rfl rfl ho l p s) fun m=>?_;have⟨es,hst⟩:=go_enter (b:=b) (k:=k) (cs:=cs) (rest:=rest) (w:=wt w m) ho hw l hf hb d;refine⟨_,_,wt w m,es,hst,trivial,hcs.cons _,fun hc=>Ren.dH hc (uQ w m),.of rfl,?_⟩;have B:xs.map a.eval=⟨xs.toList.map a.eval⟩:=by apply tV;simp
 rw[B];have u:dF P f args h v h':=⟨hn,fn,c,hf,hb,d,r⟩;refine z.call (Post:=fun x w'=>∃ρ',Stp ρ h w ρ' h' w'/\HR ρ' h' w'/\VR ρ' v x) q (JC fun x hx=>iL.clean j hcl x (by simpa using hx)) hcs.ne (fun x v1 t1 ⟨ρ',s1,s2,s3⟩=>⟨ρ',⟨s1.le,s1.next,s1.born,s1.size,s1.log⟩,s2.heap rfl,s3⟩) (fun t1=>?_) (fun x w' ⟨ρ',s1,_,_⟩=>show mJ w w' from .TE s1 hr hu) fun x w' ⟨ρ',s1,s2,s3⟩=>?_
 .refine(u.calls (ρ:=ρ) (w:=wt _ t1) j (hr.heap rfl) hu).mono ?_;rintro e w' ⟨v',ρ',rfl,s1,s2,s3⟩;exact⟨v',rfl,ρ',s1.heap rfl,s2,s3⟩
 have g:=pg b a ops i rest k x;rw[ho] at g;simp[Option.bind_some] at g;rw[g];exact hk ρ' x w' s1 s2 s3
def FK(N:List aI)(invN:aI->List ae->H->aB (ae×H))(jD:Iv):Iv
|.func f,args,h=>match N.contains f with
 |true=>invN f args h
 |false=>jD (.func f) args h
|_,_,_=>none
def ckC(P:aH)(L N:List aI)(t:T ae)(o:bn):Bool:=
 match o.op with
 |.call c=>match c.callee with
  |.value (.func f)=>match N.contains f with
   |true=>c.args.toList.all (nR P (L++N))
   |false=>jw P L o&&L.contains f&&(match opts (di t) c.args.toList with|some args=>iZ L args|none=>false)
  |_=>false
 |_=>YW P L t o
def yE(P:aH)(L N:List aI)(K:aC->List aC->ay->Prop)(f:aI)(args:List ae)(h:H)(v:ae)(h':H):Prop:=h.next<=h'.next/\∃fn c,P.funcs[f]?=some fn/\fn.body=some c/\(fn.name == "runtime.NumGoroutine")=false/\ny P L c=true/\∀ρ args' w c cs,qN cs->bf c.mode->iL ρ args args'->HR ρ h w->lK ρ h.next h'.next->(∀ρ' v' w',Stp ρ h w ρ' h' w'->HR ρ' h' w'->VR ρ' v v'->K (c.finish v') cs w')->K (Frame.enter P f ⟨args'⟩ .normal) (c::cs) w
structure IW(P:aH)(L N:List aI)(K:aC->List aC->ay->Prop)(invN:aI->List ae->H->aB (ae×H))(jD:Iv):Prop where
 ups:iW P L N K
 lone:∀f args h v h',jD (.func f) args h=some (v,h')->dF P f args h v h'
 many:∀f args h v h',f∈N->invN f args h=some (v,h')->yE P L N K f args h v h'
variable{invN:aI->List ae->H->aB (ae×H)}{jD:Iv}
theorem IW.next(hI:IW P L N K invN jD):qK (FK N invN jD):=fun g args h v h' e=>by
 cases g with
 |func f=>
 simp[FK] at e;split at e
 .rename_i hf;exact(hI.many f args h v h' (by simpa using hf) e).1
 exact(hI.lone f args h v h' e).1
 |_=>simp[FK] at e
theorem zL{x}(h:nR P (L++N) x=true):ed P (@Ren.Nm (aV P L N) (·∈L)) x:=by
 have h1:=Ak h;cases x with
 |func f=>
 have h2:=h1;rcases pY.1 h2 with a|a
 .exact .inl a
 exact .inr a
 |_=>exact h1
theorem iW.enter(r:iW P L N K){f fn c xs l ops i rest o}{b:aC}{a}{k:List ig}{cs:List aC}{w:ay}(ho:ops[i]?=some o)(hw:Region.wanted o (yielded ops a.tmps)=true)
  (n:o.op=.call {callee:=.value (.func f),args:=xs,argTypes:=l}) (hf:P.funcs[f]?=some fn) (hb:fn.body=some c) (j:(fn.name == "runtime.NumGoroutine")=false) (hcl:ny P L c=true) (hxs:∀x∈xs,nR P (L++N) x=true)
  (q:b.kind=.normal) (p:b.roundOf=none) (h:K (Frame.enter P f (xs.map a.eval) .normal) (b.atR a (.inRegion ops (i::rest)::k)::cs) w):K (b.atR a (.inRegion ops (i::rest)::k)) cs w:=by
 have hgood:@aG _ (aV P L N) P (·∈L) (Frame.enter P f #[] .normal):=by
  refine @aG.mk _ (aV P L N) P _ _ (fun it hit=>?_) (fun d hd=>(by simp[Frame.enter] at hd)) trivial (.inl rfl);have:it=.code c:=by simp[Frame.enter,hf] at hit;simpa[hb] using hit
  subst this;exact @Ey _ P L N c hcl
 have g:∀x∈xs,ed P _ x:=fun x hx=>zL (hxs x hx);refine r _ _ _ (@fO.enter _ (aV P L N) P _ _ _ cs f xs w hgood g (fun fr' m cs' w1 hx=>?_) ?_)
 .exact @aeq _ _ (aV P L N) P _ (b.atR a (.inRegion ops (i::rest)::k)) ops i rest k o f fn c xs l rfl p (by show b.kind≠.early;rw[q];intro h;cases h) rfl ho hw n hf j hb g fr' m cs' w1 hx
 have e:xs.map (b.atR a (.inRegion ops (i::rest)::k)).eval=xs.map a.eval:=by rw[kH]
 rw[e];exact @fO.done _ (aV P L N) _ _ _ _ _ ⟨_,_,rfl,h,.of rfl⟩
theorem IW.one(hI:IW P L N K invN jD){ρ n t h h' o v ops i rest}{b:aC}{a k}{cs:List aC}{w:ay}(e:EG P (FK N invN jD) t h o.op=some (v,h'))(hc:ckC P L N t o=true)(qR:∀f∈L,f∉N)(ho:ops[i]?=some o)(hw:Region.wanted o (yielded ops a.tmps)=true)(ht:TR ρ n t a.tmps)(hr:HR ρ h w)(hu:lK ρ h.next h'.next)(hcs:qN cs)(A:b.kind=.normal)(z:b.roundOf=none)(hk:∀ρ' v' w',Stp ρ h w ρ' h' w'->HR ρ' h' w'->VR ρ' v v'->K (b.atR (a.put o.dst v') (.inRegion ops rest::k)) cs w'):K (b.atR a (.inRegion ops (i::rest)::k)) cs w:=by
 by_cases j:∃c,o.op=.call c
 .have⟨⟨I,xs,J⟩,d⟩:=j;unfold ckC at hc;rw[d] at hc e;simp only at hc
  split at hc
  .rename_i f;have l:Pm (FK N invN jD) t h (.func f) xs.toList=some (v,h'):=by simpa[EG,xZ] using e
   unfold Pm at l;simp[di] at l;split at l
   .rename_i args hargs;have hcl:callee (.func (.func f) #[] #[]) args=some (.func f,args):=by simp[callee]
    rw[hcl] at l;simp only[FK] at l;split at hc
    .rename_i q;rw[q] at l;simp only at l;have⟨n1,fn,c,F,E,D,C,B⟩:=hI.many f args h v h' (by simpa using q) l;have r:=(fA ht).opts hargs;refine hI.ups.enter ho hw d F E D C (fun x hx=>bZ.1 hc x (by simpa using hx)) A z ?_;have G:xs.map a.eval=⟨xs.toList.map a.eval⟩:=by apply tV;simp
     rw[G];refine B ρ _ w _ cs hcs trivial r hr hu fun ρ' v' w' s1 s2 s3=>?_;have g:=pg b a ops i rest k v';rw[ho] at g;simp[Option.bind_some] at g;rw[g];exact hk ρ' v' w' s1 s2 s3
    rename_i q;rw[q] at l;simp[aT] at hc;rw[hargs] at hc;have p:f∈L:=by simpa using hc.1.2
    exact hI.ups.ahF d hargs (hI.lone f args h v h' l) p (qR f p) hc.2 hc.1.1 ho hw ht hr hu hcs hk
   cases l
  cases hc
 have m:∀c,o.op≠.call c:=fun c hh=>j ⟨c,hh⟩;have y:YW P L t o=true:=by
  unfold ckC at hc;split at hc
  .rename_i c d;exact absurd d (m c)
  exact hc
 refine hI.ups.op (t:=t) ?_ y ho hw ht hr hu hcs hk;unfold EG at e;split at e
 .rename_i hp;rw[hp]
  split at e
  .rename_i u s;cases e;simp[s]
  cases e
 rename_i hp;rw[hp];split at e
 .rename_i c d;exact absurd d (m c)
 simpa using e
end
section
variable[M:Mps]{P:aH}{L N:List aI}{K:aC->List aC->ay->Prop}{invN:aI->List ae->H->aB (ae×H)}{jD:Iv}
def skC(P:aH)(L N:List aI)(o:bn):Bool:=jw P L o&&(match o.op with
|.call c=>match c.callee with
 |.value (.func f)=>!N.contains f
 |_=>false
|_=>true)
def ckN(P:aH)(L N:List aI):Ck:=⟨ckC P L N,skC P L N⟩
theorem aec{b:aC}{a cs k ops i rest o}(ho:ops[i]?=some o)(h:skC P L N o=true):@Fit (aV P L N) P (G (b.atR a (.inRegion ops (i::rest)::k)) cs):=by
 unfold skC at h;simp[aT] at h;have⟨hb,h⟩:=h;split at h
 .rename_i c d
  split at h
  .rename_i f hc;have⟨j,xs,l⟩:=c;subst hc;exact WJ rfl rfl ho d (by simpa using h) hb
  cases h
 rename_i g;have e:Jv o.op=false:=by cases d:o.op<;>first|rfl|exact absurd d (g _)
 exact kF ho e hb
theorem iW.skip(d:iW P L N K){ops i rest o}{b:aC}{a k cs w}(ho:ops[i]?=some o)(hs:skC P L N o=true)(hw:Region.wanted o (yielded ops a.tmps)=false)(hcs:qN cs)(h:∀t,K (b.atR (a.put o.dst undef) (.inRegion ops rest::k)) cs (wt w t)):K (b.atR a (.inRegion ops (i::rest)::k)) cs w:=by
 have c:=pg b a ops i rest k undef;rw[ho] at c;simp[Option.bind_some] at c;have h':((ops[i]?).map (Region.wanted · (yielded ops a.tmps))).getD false=false:=by rw[ho];simpa using hw
 refine d.own (aec ho hs) fun t=>⟨b.atR _ _,cs,wt w t,#[],?_,trivial,hcs,fun hc=>Ren.dH hc rfl,.of rfl,h t⟩;rw[<-c];unfold Conc.G;simp[Frame.atR] at h'⊢;simp[stepG,stepG.exec,h']
theorem iW.ajT(r:iW P L N K){ρ n t o v ops i rest}{b:aC}{a:Act}{k:List ig}{cs:List aC}{w:ay}(e:sZ P (di t) o.op=some v)(hc:ckC P L N t o=true)(g:xZ o.op=true)(ho:ops[i]?=some o)(hw:Region.wanted o (yielded ops a.tmps)=true)(ht:TR ρ n t a.tmps)(hcs:qN cs)(hk:∀v' l,VR ρ v v'->K (b.atR (a.put o.dst v') (.inRegion ops rest::k)) cs (wt w l)):K (b.atR a (.inRegion ops (i::rest)::k)) cs w:=by
 have d:YW P L t o=true:=by
  unfold ckC at hc;split at hc
  .rename_i c m
   split at hc
   .rename_i f j
    rw[m] at g;simp[xZ,j] at g
   cases hc
  exact hc
 unfold YW at d;simp[aT,ET] at d;refine r.own (kF ho d.1.2 d.1.1) fun l=>?_;obtain⟨v',q,p⟩:=pure_ok (o:=o) (fA ht) e _;obtain⟨es,hst⟩:=mW (b:=b) (k:=k) (cs:=cs) (rest:=rest) ho hw (jo e) q (.inl rfl);exact⟨_,_,_,es,hst,trivial,hcs,fun hcl=>Ren.dH hcl rfl,.of rfl,hk v' l p⟩
theorem iW.item(c:iW P L N K){b:aC}{a x k k' cs w}(hx:Yb x=true)(hcs:qN cs)(h:∀w,∃es,stepG P true (G (b.atR a (x::k)) cs) w=.go (G (b.atR a k') cs) w es)(hk:∀t,K (b.atR a k') cs (wt w t)):K (b.atR a (x::k)) cs w:=c.text hcs (pV hx) h hk
theorem oI{b:aC}{a ops k cs}(w):∃es,stepG P true (G (b.atR a (.inRegion ops []::k)) cs) w=.go (G (b.atR a k) cs) w es:=⟨#[],by unfold Conc.G;simp[stepG,stepG.exec,Frame.atR]⟩
variable(hI:IW P L N K invN jD)(qR:∀f∈L,f∉N)
include hI qR
theorem IW.ops{n:Nat}{ops:Array bn}{b:aC}{k:List ig}{cs:List aC}(p:b.kind=.normal)(m:b.roundOf=none)(hcs:qN cs):∀{l:List bn} {i:Nat} {t t':T ae} {h h':H},l=ops.toList.drop i->uU P (FK N invN jD) (ckN P L N) n ops.toList l t h=some (t',h')->∀{ρ:Ev.jV} {a:Act} {w:ay},TR ρ n t a.tmps->HR ρ h w->lK ρ h.next h'.next->(∀ρ' a' w',a'.defers=a.defers->Stp ρ h w ρ' h' w'->HR ρ' h' w'->TR ρ' n t' a'.tmps->K (b.atR a' k) cs w')->K (b.atR a (.inRegion ops (List.range' i l.length)::k)) cs w
|[],i,t,t',h,h',hl,e,ρ,a,w,ht,hr,hu,hk=>by cases e;exact hI.ups.item rfl hcs oI fun z=>hk ρ a (wt w z) rfl (.refl ρ h _ _ rfl) (hr.heap rfl) ht
|o::l,i,t,t',h,h',hl,e,ρ,a,w,ht,hr,hu,hk=>by
 have ho:ops[i]?=some o:=by
  have:(ops.toList.drop i)[0]?=some o:=by rw[<-hl];rfl
  simpa using this
 have q:l=ops.toList.drop (i+1):=by rw[<-UY,<-hl];rfl
 have d:List.range' i (o::l).length=i::List.range' (i+1) l.length:=by simp[uw]
 rw[d];simp only[uU] at e;split at e
 .rename_i hw;have c:=gJ ht hw
  split at e;case h_2=>cases e
  rename_i u;split at e
  .rename_i v h1 A
   split at e
   .rename_i t1 x;have C:=wO hI.next A;have B:=gX hI.next e;refine hI.one A u qR ho c ht hr (hu.sub (aA _) B) hcs p m fun r v' w1 s2 s3 s4=>?_;have j:TR r n t1 (a.put o.dst v').tmps:=(ht.mono s2.le).put x s4;exact IW.ops p m hcs q e j s3 ((hu.sub C (aA _)).step s2 (aA _)) fun g y w2 d1 d2 d3 d4=>hk g y w2 (by rw[d1,put_defers]) (s2.trans d2) d3 d4
   cases e
  cases e
 .rename_i hw;have c:=gJ ht hw
  split at e;case h_2=>cases e
  rename_i s;split at e
  .rename_i t1 x;have j:TR ρ n t1 (a.put o.dst undef).tmps:=ht.put x lM;refine hI.ups.skip ho s c hcs fun z=>?_;exact IW.ops p m hcs q e j (hr.heap rfl) hu fun g y w2 d1 d2 d3 d4=>hk g y w2 (by rw[d1,put_defers]) (d2.heap rfl) d3 d4
  cases e
 cases e
variable{n:Nat}{ops:Array bn}{h:H}{TT:Nat->T ae}{NX:Nat->Nat}{RS:Nat->List Rec}{ρ0 ρ:Ev.jV}{w0 w:ay}{X:Nat->Prop}{E:List Rec}{a:Act}
omit hI qR in
theorem Mid.Rk{w'}(o:Mid P n ops h TT NX RS ρ0 w0 X E ρ a w)(e:w'.heap=w.heap):Mid P n ops h TT NX RS ρ0 w0 X E ρ a w':=by have⟨m,k,j,i,g,d,c,b⟩:=o;have⟨f1,f2,f3,l,f4,f5,f6,f7⟩:=c;exact⟨m,k,j,i,g,d.heap e,⟨f1,f2,by rw[e];exact f3,l,f4,by rw[e];exact f5,f6,f7⟩,b⟩
theorem IW.mid(p:Fine P (FK N invN jD) (ckN P L N) n ops h TT NX RS)(r:Mid P n ops h TT NX RS ρ0 w0 X E ρ a w){i o}(ho:ops[i]?=some o)(q:¬X i)(hd:∀e∈o.after,Region.binds .any e=true->X e.on){b:aC}{k cs}(y:b.kind=.normal)(x:b.roundOf=none)(hcs:qN cs)(rest)(hk:∀ρ' A v' w',Mid P n ops h TT NX RS ρ0 w0 (fun j=>X j\/j=i) A ρ' (a.put o.dst v') w'->K (b.atR (a.put o.dst v') (.inRegion ops rest::k)) cs w'):K (b.atR a (.inRegion ops (i::rest)::k)) cs w:=by
 have m:=r.reads p ho q hd;have⟨v,d,hs⟩:=p.tr.step i o ho;rcases hs with⟨hw,t,rfl,_,he⟩|⟨hw,g,u,hp,_,he⟩|⟨hw,g,h1,D,e2,he⟩
 .exact hI.ups.skip ho t (gJ m hw) hcs fun B=>hk ρ E undef _ ((r.quiet p ho q hd d he lM).Rk rfl)
 .have c:=gJ m hw;exact hI.ups.ajT hp g u ho c m hcs fun v' B C=>hk ρ E v' _ ((r.quiet p ho q hd d he C).Rk rfl)
 have c:=gJ m hw;have⟨z,s,A,l⟩:=r.loud p ho q hd d he;exact hI.one D g qR ho c m z s hcs y x fun ρ' v' w' s1 s2 s3=>hk ρ' A v' w' (l s1 s2 s3)
end
section
variable[M:Mps]{P:aH}{L N:List aI}{K:aC->List aC->ay->Prop}{invN:aI->List ae->H->aB (ae×H)}{jD:Iv}{n:Nat}{ops:Array bn}{h:H}{TT:Nat->T ae}{NX:Nat->Nat}{RS:Nat->List Rec}
theorem aa5(c:∀i o,ops[i]?=some o->∀e∈o.after,Region.binds .any e=true->e.on<i){listed}(hs:listed.size=ops.size)(b:Region.ready .any ops listed=[]):∀m j,j<m->j<ops.size->listed.getD j true=true:=by
 intro m;induction m with
 |zero=>intro j h1;omega
 |succ m a=>
 intro j h1 h2;by_cases d:j<m
 .exact a j d h2
 obtain rfl:j=m:=by omega
 cases e:listed.getD j true
 .exfalso;have:j∈Region.ready .any ops listed:=mem_ready.2 ⟨e,_,gu h2,fun g f hb=>by
   have hl:=c j _ (gu h2) g f hb;rw[<-getD_both (by omega)];exact a _ hl (by omega)⟩
  rw[b] at this;cases this
 rfl
theorem IW.all(hI:IW P L N K invN jD)(qR:∀f∈L,f∉N)(u:Fine P (FK N invN jD) (ckN P L N) n ops h TT NX RS){ρ0 w0}{b:aC}{k cs ds}(q:b.kind=.normal)(p:b.roundOf=none)(hcs:qN cs)(hk:∀X E ρ a w,a.defers=ds->(∀j,j<ops.size->X j)->Mid P n ops h TT NX RS ρ0 w0 X E ρ a w->K (b.atR a (.inRegion ops []::k)) cs w):∀(fuel t) (listed) {E ρ a w},listed.size=ops.size->(yh ops listed).length<=fuel->a.defers=ds->Mid P n ops h TT NX RS ρ0 w0 (fun j=>listed.getD j false=true) E ρ a w->K (b.atR a (.inRegion ops (Region.linearise.go .any ops fuel t listed [])::k)) cs w:=by
 intro fuel;induction fuel with
 |zero=>
  intro t listed E ρ a w hs hl d m;have c:yh ops listed=[]:=aaC (by omega);have:Region.linearise.go .any ops 0 t listed []=[]:=by simp[Region.linearise.go]
  rw[this];refine hk _ E ρ a w d (fun j hj=>?_) m;cases e:listed.getD j true
  .have:j∈yh ops listed:=Ie.2 ⟨hj,e⟩;rw[c] at this;cases this
  rw[<-getD_both (by omega)];exact e
 |succ fuel z=>
  intro t listed E ρ a w hs hl d m;simp only[Region.linearise.go];change K (b.atR a (.inRegion ops (match(Region.ready .any ops listed)[t % (Region.ready .any ops listed).length]? with
   |some i=>Region.linearise.go .any ops fuel _ _ [i]
   |none=>[].reverse)::k)) cs w
  cases hi:(Region.ready .any ops listed)[t % (Region.ready .any ops listed).length]? with
  |none=>
   have c:Region.ready .any ops listed=[]:=by
    cases hr:Region.ready .any ops listed with
    |nil=>rfl
    |cons x xs=>
    rw[hr] at hi;have g:t % (x::xs).length<(x::xs).length:=U1 _ (by simp);simp at hi;simp at g;omega
   simp[List.reverse_nil];refine hk _ E ρ a w d (fun j hj=>?_) m;rw[<-getD_both (by omega)];exact aa5 (fun i o ho=>FW u.draw ho) hs c _ j (by omega) hj
  |some i=>
   simp only[];rw[J5,UR,List.singleton_append];have⟨s,o,r,y⟩:=mem_ready.1 (uy hi);have l:=(aP.1 r).1;refine hI.mid qR u m r (by rw[<-getD_both (by omega),s];simp) y q p hcs _ fun v E1 v1 w1 s2=>?_;have A:(fun j=>listed.getD j false=true\/j=i)=fun j=>(listed.setIfInBounds i true).getD j false=true:=by
    funext j;by_cases e:j=i
    .subst e;simp[Array.getD,hs,l]
    rw[getD_set_ne false (uJ e)];simp[e]
   rw[A] at s2;have g:=Rh hs (Ie.2 ⟨l,s⟩);exact z (t / (Region.ready .any ops listed).length) (listed.setIfInBounds i true) (by simpa using hs) (by omega) (by rw[put_defers];exact d) s2
theorem Mid.end_{inv ck}(p:Fine P inv ck n ops h TT NX RS){ρ ρ' w w' X E a'}(s3:∀j,j<ops.size->X j)(s4:Mid P n ops h TT NX RS ρ w X E ρ' a' w')(u:h.next<=NX ops.size):Stp ρ h w ρ' ⟨layAll h.t (RS ops.size),NX ops.size,jQ (RS ops.size)++h.log⟩ w'/\HR ρ' ⟨layAll h.t (RS ops.size),NX ops.size,jQ (RS ops.size)++h.log⟩ w'/\TR ρ' n (TT ops.size) a'.tmps:=by
 have a:∀r,r∈E↔r∈RS ops.size:=fun r=>by rw[s4.mem];exact⟨fun h=>h.1,fun h=>⟨h,s3 _ (p.xO h).1⟩⟩
 have f:∀c,(⟨layAll h.t _,NX ops.size,jQ (RS ops.size)++h.log⟩:H).get c=(HE h (NX ops.size) E).get c:=fun c=>by
  rw[p.OE fun r hr=>(a r).1 hr];show(layAll h.t (RS ops.size)).get c=_;rw[wV _ _ _ fun r hr=>p.acA hr];rw[JA ((p.tr.all (aA _)).2.imp fun{r s} D=>by
   cases e:ZM ops r.i s.i
   .rfl
   have:=p.lt e;omega) s4.pw (fun r _=>(a r).symm) (fun r s hr hs h1 h2=>p.both hr hs h1 h2)]
  rfl
 have g:∀c,c∈jQ (RS ops.size)↔c∈jQ E:=fun c=>by rw[wS,wS];exact⟨fun⟨r,h1,h2⟩=>⟨r,(a r).2 h1,h2⟩,fun⟨r,h1,h2⟩=>⟨r,(a r).1 h1,h2⟩⟩
 refine⟨?_,⟨s4.heap.fD,fun c y hc=>s4.heap.ob c y (by rw[<-f];exact hc),fun c d x k l hc hd=>s4.heap.inj c d x k l (by rw[<-f];exact hc) (by rw[<-f];exact hd)⟩,s4.size,fun d v C=>?_⟩
 .have⟨l,G,f1,o1,t1,g1,I⟩:=s4.far.log;have hl:=Sl (G.symm);subst hl;refine⟨s4.far.le,u,fun b hb hx=>s4.far.born b hb fun hn=>?_,s4.far.size,jQ _,rfl,fun x o hx hn=>f1 x o hx fun c m hc=>hn c m ((g c).2 hc),fun c x m hc=>?_,fun c hc=>t1 c ((g c).1 hc),fun c hc=>?_,fun c hc=>I c fun h=>hc ((g c).2 h)⟩
  .simp only at hx;omega
  .rcases o1 c x m hc with h|⟨h1,h|⟨d,m',h2,F⟩⟩
   .exact .inl h
   .exact .inr ⟨h1,.inl h⟩
   exact .inr ⟨h1,.inr ⟨d,m',(g d).2 h2,F⟩⟩
  rw[f];exact g1 c fun h=>hc ((g c).2 h)
 have⟨m,B,A,z⟩:=s4.tmps d;refine z v ?_;rw[<-C];exact p.SG (aA _) B fun j o hj hd=>by have q:=(aP.1 hj).1;rw[<-A j o hj hd];exact⟨fun _=>s3 j q,fun _=>q⟩
theorem OY{inv ck}(l:qK inv){t t' h'}(e:FV P inv ck n ops.toList t h=some (t',h')) :
  (match P.follows .mixedOrders with|true=>true|false=>!Iy ops.toList)=true/\∃TT NX RS,Fine P inv ck n ops h TT NX RS/\TT 0=t/\TT ops.size=t'/\h'=⟨layAll h.t (RS ops.size),NX ops.size,jQ (RS ops.size)++h.log⟩/\h.next<=NX ops.size:=by
 unfold FV at e;split at e
 .rename_i a f
  split at e
  .rename_i t1 nx rs b
   split at e
   .rename_i i d;cases e;have⟨TT,NX,RS,y,v,x,u,q,p,w⟩:=Jb b;have g:0+ops.toList.length=ops.size:=by simp
    rw[g] at u q p;subst u q p;have m:Fine P inv ck n ops h TT NX RS:={
     hI:=l
     tr:=⟨fun j o ho=>by simpa using w j o (by simpa using ho),x⟩
     draw:=a
     apart:=fun r hr s hs=>DC i r hr s hs
     logs:=fun r hr=>bZ.1 d r hr
     nx0:=v};have c:=m.tr.nO l (j:=0) (k:=ops.size) (by omega) (by omega);rw[v] at c;exact⟨f,TT,NX,RS,m,y,rfl,rfl,c⟩
   cases e
  cases e
 cases e
theorem Fine.aly{inv ck}(c:Fine P inv ck n ops h TT NX RS){ρ a w}(ht:TR ρ n (TT 0) a.tmps)(hr:HR ρ h w)(hu:lK ρ h.next (NX ops.size)):Mid P n ops h TT NX RS ρ w (fun j=>(Array.replicate ops.size false).getD j false=true) [] ρ a w:=by
 have b:∀j,(Array.replicate ops.size false).getD j false=false:=fun j=>by simp only[Array.getD];split<;>simp
 exact{
  closed:=fun j hj=>by rw[b] at hj;cases hj
  mem:=fun r=>by simp[b]
  pw:=.nil
  size:=ht.size
  tmps:=fun d=>⟨0,by omega,fun j o _ _=>by simp[b],fun v g=>ht.get d v g⟩
  heap:=⟨hr.fD,hr.ob,hr.inj⟩
  far:=⟨.refl ρ,fun _ h _=>h,aA _,[],rfl,fun x o hx _=>hx,fun _ _ _ h=>.inl h,fun _ h=>by simp at h,fun _ _=>rfl,fun _ _ _=>rfl⟩
  unb:=fun r hr _=>by have⟨q1,⟨_,f,_⟩,e⟩:=c.xO hr;have h1:=c.tr.nO c.hI (j:=0) (k:=r.i) (by omega) (by omega);have h2:=c.tr.nO c.hI (j:=r.i+1) (k:=ops.size) (by omega) (by omega);rw[c.nx0] at h1;exact hu.sub (by rw[f];exact h1) (by rw[e];exact h2)}
theorem IW.drawn(hI:IW P L N K invN jD)(qR:∀f∈L,f∉N){t t' h'}(e:FV P (FK N invN jD) (ckN P L N) n ops.toList t h=some (t',h')){ρ}{b:aC}{a k cs w}(j:b.kind=.normal)(i:b.roundOf=none)(hcs:qN cs)(x)(ht:TR ρ n t a.tmps)(hr:HR ρ h w)(hu:lK ρ h.next h'.next)(hk:∀ρ' a' w',a'.defers=a.defers->Stp ρ h w ρ' h' w'->HR ρ' h' w'->TR ρ' n t' a'.tmps->K (b.atR a' k) cs w'):K (b.atR a (.inRegion ops (Region.schedule (P.follows .mixedOrders) ops x)::k)) cs w:=by
 obtain⟨d,TT,NX,RS,l,q,p,rfl,g⟩:=OY hI.next e;rw[GZ d];unfold Region.linearise;refine hI.all qR l j i hcs (fun X E ρ' a' w' d1 d2 d3=>?_) ops.size x _ (by simp) (by refine bM (UO _ _) (by simp)) rfl (l.aly (by rw[q];exact ht) hr hu)
 have⟨c,o,m⟩:=d3.end_ l d2 g;refine hI.ups.item rfl hcs oI fun tp=>hk ρ' a' _ d1 ?_ (o.heap rfl) (by rw[<-p];exact m);exact⟨c.le,c.next,c.born,c.size,c.log⟩
end
section
variable[M:Mps]{P:aH}{L N:List aI}{K:aC->List aC->ay->Prop}{invN:aI->List ae->H->aB (ae×H)}{jD:Iv}
section
variable(P:aH)(L N:List aI)(invN:aI->List ae->H->aB (ae×H))(jD:Iv)
def ZF(n:Nat)(ops:List bn)(draw:Bool)(s:St):aB (Ex×St):=
 match draw with
 |false=>match uU P (FK N invN jD) (ckN P L N) n ops ops s.t s.h with
  |some (t,h)=>some (.normal,⟨t,h,s.marks⟩)
  |none=>none
 |true=>match FV P (FK N invN jD) (ckN P L N) n ops s.t s.h with
  |some (t,h)=>some (.normal,⟨t,h,s.marks⟩)
  |none=>none
def ni(n:Nat):Code->St->aB (Ex×St)
|.skip,s|.label _,s=>some (.normal,s)
|.region _ ops draw,s=>ZF P L N invN jD n ops.toList draw s
|.seq a b,s=>Zr (ni n a s) (ni n b)
|.cond c a b,s=>match di s.t c with
 |some (.bool true)=>ni n a s
 |some (.bool false)=>ni n b s
 |_=>none
|.block id b,s=>FZ id (ni n b s)
|.exit id,s=>some (.exit id,s)
|.ret,s=>some (.ret,s)
|_,_=>none
def Jt(fn:Func)(x:Ex×St):aB (ae×H):=
 match x.1 with
 |.exit _=>none
 |_=>match Az P x.2.t x.2.h fn.results.toList with
  |some v=>some (v,x.2.h)
  |none=>none
def Wy(f:aI)(args:List ae)(h:H):aB (ae×H):=
 match P.funcs[f]? with
 |some fn=>match fn.body,yA 0 args .nil,fn.name == "runtime.NumGoroutine" with
  |some c,some t,false=>match ny P L c with
   |true=>match ni P L N invN jD (args.length+(fn.ntmps-args.length)) c ⟨t,h,[]⟩ with
    |some x=>Jt P fn x
    |none=>none
   |false=>none
  |_,_,_=>none
 |none=>none
end
def akR(K:aC->List aC->ay->Prop)(b:aC)(a:Act)(k:List ig)(cs:List aC)(w:ay):Ex->Prop
|.normal=>K (b.atR a k) cs w
|.exit id=>∃k',exitTo id k=some k'/\K (b.atR a k') cs w
|.ret=>∀k0,K (b.atR a (.code .ret::k0)) cs w
def akO(K:aC->List aC->ay->Prop)(n:Nat)(c:Code)(s:St)(x:Ex×St):Prop:=s.h.next<=x.2.h.next/\∀ρ b a k cs w,b.kind=.normal->b.roundOf=none->qN cs->TR ρ n s.t a.tmps->HR ρ s.h w->lK ρ s.h.next x.2.h.next->(∀ρ' a' w',a'.defers=a.defers->Stp ρ s.h w ρ' x.2.h w'->HR ρ' x.2.h w'->TR ρ' n x.2.t a'.tmps->akR K b a' k cs w' x.1)->K (b.atR a (.code c::k)) cs w
theorem Stp.tape{ρ ρ' h h' w w'}(s:Stp ρ h w ρ' h' w')(t):Stp ρ h w ρ' h' (wt w' t):=⟨s.le,s.next,s.born,s.size,s.log⟩
theorem sK{b:aC}{a k k' cs}(h:∀w,(stepG P true (G (b.atR a k) cs) w)=.go (G (b.atR a k') cs) w #[])(w):∃es,stepG P true (G (b.atR a k) cs) w=.go (G (b.atR a k') cs) w es:=⟨#[],h w⟩
theorem nZ(hI:IW P L N K invN jD)(qR:∀f∈L,f∉N){n:Nat}:∀(c:Code) (s:St) (x:Ex×St),ni P L N invN jD n c s=some x->akO K n c s x
|.skip,s,x,e=>by cases e;exact⟨aA _,fun ρ b a k cs w j g hcs ht hr hu hk=>hI.ups.item rfl hcs (sK fun w=>by unfold Conc.G;simp[stepG,stepG.exec,Frame.atR]) fun o=>hk ρ a (wt w o) rfl (.refl ρ _ _ _ rfl) (hr.heap rfl) ht⟩
|.label l,s,x,e=>by cases e;exact⟨aA _,fun ρ b a k cs w j g hcs ht hr hu hk=>hI.ups.item rfl hcs (sK fun w=>by unfold Conc.G;simp[stepG,stepG.exec,Frame.atR]) fun o=>hk ρ a (wt w o) rfl (.refl ρ _ _ _ rfl) (hr.heap rfl) ht⟩
|.region id ops draw,s,x,e=>by
 simp only[ni,ZF] at e;split at e
 .split at e
  .rename_i t h r;cases e;refine⟨gX hI.next r,fun ρ b a k cs w j g hcs ht hr hu hk=>?_⟩;refine hI.ups.item (k':=.inRegion ops (List.range ops.size)::k) rfl hcs (sK fun w=>by unfold Conc.G;simp[stepG,stepG.exec,Frame.atR]) fun o=>?_;have O:HR ρ s.h (wt w o):=hr.heap rfl;have key:=IW.ops (b:=b) (k:=k) (cs:=cs) hI qR j g hcs (i:=0) (by simp) r ht O hu fun ρ' a' w' d1 d2 d3 d4=>hk ρ' a' w' d1 (d2.heap rfl) d3 d4;rw[yV];simpa using key
  cases e
 split at e
 .rename_i t h r;cases e;have⟨_,TT,NX,RS,_,_,_,hh,Q⟩:=OY hI.next r;refine⟨by show s.h.next<=h.next;rw[hh];exact Q,fun ρ b a k cs w j g hcs ht hr hu hk=>?_⟩;refine hI.ups.own (pV rfl) fun o=>?_;refine⟨b.atR a (.inRegion ops (Region.schedule (P.follows .mixedOrders) ops (o w.drawn (.order b.fn id)))::k),cs,{wt w o with drawn:=w.drawn+1},#[],?_,trivial,hcs,fun hc=>Ren.dH hc rfl,.of rfl,?_⟩
  .unfold Conc.G;simp[stepG,stepG.exec,Frame.atR,choose,Sem.run,Question.forced,Question.cut,wt]
  exact hI.drawn qR r j g hcs _ ht (hr.heap rfl) hu fun ρ' a' w' d1 d2 d3 d4=>hk ρ' a' w' d1 (d2.heap rfl) d3 d4
 cases e
|.seq c d,s,x,e=>by
 simp only[ni,Zr] at e;split at e
 .rename_i s1 r;have⟨p,h1⟩:=nZ hI qR c s _ r;have⟨S,h2⟩:=nZ hI qR d s1 x e;simp only at p h1;refine⟨bM p S,fun ρ b a k cs w j g hcs ht hr hu hk=>?_⟩;refine hI.ups.item (k':=.code c::.code d::k) rfl hcs (sK fun w=>by unfold Conc.G;simp[stepG,stepG.exec,Frame.atR]) fun o=>?_;refine h1 ρ b a (.code d::k) cs (wt w o) j g hcs ht (hr.heap rfl) (hu.sub (aA _) S) fun m q w1 d1 d2 d3 d4=>?_;exact h2 m b q k cs w1 j g hcs d4 d3 ((hu.sub p (aA _)).step d2 (aA _)) fun D U w2 B V X W=>hk D U w2 (B.trans d1) ((d2.trans V).heap (w:=w) rfl) X W
 rename_i y hy;have⟨p,h1⟩:=nZ hI qR c s x e;refine⟨p,fun ρ b a k cs w j g hcs ht hr hu hk=>?_⟩;refine hI.ups.item (k':=.code c::.code d::k) rfl hcs (sK fun w=>by unfold Conc.G;simp[stepG,stepG.exec,Frame.atR]) fun o=>?_;refine h1 ρ b a (.code d::k) cs (wt w o) j g hcs ht (hr.heap rfl) hu fun m q w1 d1 d2 d3 d4=>?_;have hg:=hk m q w1 d1 (d2.heap rfl) d3 d4;have⟨ex,R⟩:=x;cases ex with
 |normal=>exact absurd e (hy R)
 |exit id=>have⟨k',u,v⟩:=hg;exact⟨k',by simpa[exitTo] using u,v⟩
 |ret=>exact hg
|.cond c d1 d2,s,x,e=>by
 simp only[ni] at e;split at e
 .rename_i hc;have⟨p,h1⟩:=nZ hI qR d1 s x e;refine⟨p,fun ρ b a k cs w j g hcs ht hr hu hk=>?_⟩;have hb:a.eval c=.bool true:=(fA ht _ _ hc).gZ;refine hI.ups.item (k':=.code d1::k) rfl hcs (sK fun w=>by
   have:=xB (kH b a (.code (.cond c d1 d2)::k)) c;simp only[Frame.atR] at this;unfold Conc.G;simp[stepG,stepG.exec,Frame.atR,this,hb]) fun o=>?_
  exact h1 ρ b a k cs (wt w o) j g hcs ht (hr.heap rfl) hu fun m q w1 u v F E=>hk m q w1 u (v.heap rfl) F E
 .rename_i hc;have⟨p,h1⟩:=nZ hI qR d2 s x e;refine⟨p,fun ρ b a k cs w j g hcs ht hr hu hk=>?_⟩;have hb:a.eval c=.bool false:=(fA ht _ _ hc).gZ;refine hI.ups.item (k':=.code d2::k) rfl hcs (sK fun w=>by
   have:=xB (kH b a (.code (.cond c d1 d2)::k)) c;simp only[Frame.atR] at this;unfold Conc.G;simp[stepG,stepG.exec,Frame.atR,this,hb]) fun o=>?_
  exact h1 ρ b a k cs (wt w o) j g hcs ht (hr.heap rfl) hu fun m q w1 u v F E=>hk m q w1 u (v.heap rfl) F E
 cases e
|.block id c,s,x,e=>by
 simp only[ni] at e;cases hy:ni P L N invN jD n c s with
 |none=>rw[hy] at e;simp[FZ] at e
 |some y=>
  rw[hy] at e;have⟨p,h1⟩:=nZ hI qR c s y hy;have⟨C,sy⟩:=y;have hx:x.2=sy/\(x.1=C\/(C=.exit id/\x.1=.normal))/\(C=.exit id->x.1=.normal):=by
   unfold FZ at e;split at e
   .rename_i i s' T;obtain⟨rfl,rfl⟩:=Prod.mk.inj (aN T)
    split at e
    .rename_i hb;cases e;obtain rfl:=bG hb;exact⟨rfl,.inr ⟨rfl,rfl⟩,fun _=>rfl⟩
    rename_i hb;cases e;exact⟨rfl,.inl rfl,fun r=>by cases r;simp at hb⟩
   rename_i I;cases e;exact⟨rfl,.inl rfl,fun r=>by subst r;exact absurd rfl (I id sy)⟩
  have⟨ex,R⟩:=x;simp only at hx p h1;obtain⟨rfl,z,J⟩:=hx;refine⟨p,fun ρ b a k cs w j g hcs ht hr hu hk=>?_⟩;refine hI.ups.item (k':=.code c::.inBlock id::k) rfl hcs (sK fun w=>by unfold Conc.G;simp[stepG,stepG.exec,Frame.atR]) fun o=>?_;refine h1 ρ b a (.inBlock id::k) cs (wt w o) j g hcs ht (hr.heap rfl) hu fun m q w1 d1 d2 d3 d4=>?_;cases C with
  |normal=>
  rcases z with rfl|⟨h0,_⟩
  .exact hI.ups.item rfl hcs (sK fun w=>by unfold Conc.G;simp[stepG,stepG.exec,Frame.atR]) fun A=>hk m q (wt w1 A) d1 ((d2.tape A).heap (w:=w) rfl) (d3.heap rfl) d4
  cases h0
  |ret=>
  rcases z with rfl|⟨h0,_⟩
  .exact hk m q w1 d1 (d2.heap rfl) d3 d4
  cases h0
  |exit i=>
  by_cases hi:i=id
  .subst hi;have:ex=.normal:=J rfl;subst this;exact⟨k,by simp[exitTo],hk m q w1 d1 (d2.heap rfl) d3 d4⟩
  rcases z with rfl|⟨h0,_⟩
  .have⟨k',u,v⟩:=hk m q w1 d1 (d2.heap rfl) d3 d4;have hne:(id==i)=false:=by simp;exact fun h=>hi h.symm
   exact⟨k',by simpa[exitTo,hne] using u,v⟩
  cases h0;exact absurd rfl hi
|.exit id,s,x,e=>by cases e;refine⟨aA _,fun ρ b a k cs w j g hcs ht hr hu hk=>?_⟩;have⟨k',u,_⟩:=hk ρ a w rfl (.refl ρ _ _ _ rfl) hr ht;refine hI.ups.item (k':=k') rfl hcs (sK fun w=>by unfold Conc.G;simp[stepG,stepG.exec,Frame.atR,u]) fun o=>?_;have⟨k2,B,V⟩:=hk ρ a (wt w o) rfl (.refl ρ _ _ _ rfl) (hr.heap rfl) ht;rw[u] at B;cases B;exact V
|.ret,s,x,e=>by cases e;exact⟨aA _,fun ρ b a k cs w j g hcs ht hr hu hk=>hk ρ a w rfl (.refl ρ _ _ _ rfl) hr ht k⟩
|.scope c,s,x,e=>by simp[ni] at e
|.goto l,s,x,e=>by simp[ni] at e
|.refuse y,s,x,e=>by simp[ni] at e
|.loop c,s,x,e=>by simp[ni] at e
|.rangeFunc f ps as bd,s,x,e=>by simp[ni] at e
theorem Ws{fr c cs w v}(h:fr.leaving P w (.returned v)):∃es,stepG P true (G fr (c::cs)) w=.go (G (c.finish v) cs) w es:=by have⟨hm,hd,hk,fn,hf,hr⟩:=h;unfold Conc.G;exact⟨seen P fr.fn (Sem.events P (results fn fr.tmps) w #[]),by simp[stepG,unwind,doReturn,hm,hd,hk,hf,hr,GStep.after]⟩
theorem KL(c:aC)(v):(c.finish v).mode=c.mode:=by unfold Frame.finish;split<;>rfl
theorem Yw(hI:IW P L N K invN jD)(qR:∀f∈L,f∉N){f args h h' v}(e:Wy P L N invN jD f args h=some (v,h')):yE P L N K f args h v h':=by
 unfold Wy at e;split at e
 .rename_i fn hf
  split at e
  .rename_i c t hb ht i
   split at e;case h_2=>cases e
   rename_i hcl;split at e
   .rename_i x hx
    obtain⟨z,h1⟩:=nZ hI qR c _ x hx;have n:(∃id,x.1=.exit id)\/(Az P x.2.t x.2.h fn.results.toList=some v/\h'=x.2.h):=by
     unfold Jt at e;split at e
     .rename_i id hid;exact .inl ⟨id,hid⟩
     split at e
     .rename_i u hu;cases e;exact .inr ⟨hu,rfl⟩
     cases e
    have hne:¬ ∃id,x.1=.exit id:=fun⟨id,hid⟩=>by unfold Jt at e;rw[hid] at e;cases e
    obtain⟨k,rfl⟩:=n.resolve_left hne;refine⟨z,fn,c,hf,hb,i,hcl,fun ρ d w m cs hcs p ha hr hu hk=>?_⟩
    let b:aC:={ (default:aC) with fn:=f,kind:=.normal}
    have hl:=ha.length;have g:Frame.enter P f ⟨d⟩ .normal=b.atR {tmps:=(⟨d⟩:Array ae)++Array.replicate (fn.ntmps-args.length) undef,defers:=[]} [.code c]:=by simp[Frame.enter,Frame.atR,hf,hb,b,hl];rfl
    rw[g];have leave:∀ρ' a' w' j,a'.defers=[]->Stp ρ h w ρ' x.2.h w'->HR ρ' x.2.h w'->TR ρ' (args.length+(fn.ntmps-args.length)) x.2.t a'.tmps->K {b.atR a' j with mode:=.returning} _ w':=fun ρ' a' w' j d1 d2 d3 d4=>by
     have l:∀a,∃v',({b.atR a' j with mode:=.returning}:aC).leaving P _ (.returned v')/\VR ρ' v v':=fun a=>by obtain⟨v',r,q⟩:=zu d4 (d3.heap (w':=wt w' a) rfl) k;exact⟨v',⟨rfl,d1,rfl,fn,hf,r⟩,q⟩
     obtain⟨v0,o,_⟩:=l w'.tape;refine hI.ups.own (@Fit.leaving _ P (aV P L N) _ _ _ _ o) fun a=>?_;obtain⟨v',y,s⟩:=l a;obtain⟨es,hst⟩:=Ws y;exact⟨_,_,wt w' a,es,hst,by rw[KL];exact p,hcs,fun hc=>Ren.dH hc rfl,.of rfl,hk ρ' v' _ (d2.tape a) (d3.heap rfl) s⟩
    refine h1 ρ b _ [] _ w rfl rfl (hcs.cons m) (Ez ht ha) hr hu fun ρ' a' w' d1 d2 d3 d4=>?_;obtain⟨ex,sx⟩:=x;cases ex with
    |exit id=>exact absurd ⟨id,rfl⟩ hne
    |normal=>
    refine hI.ups.own (@Ue _ P (aV P L N) _ _ rfl rfl) fun a=>?_;exact⟨{b.atR a' [] with mode:=.returning},m::cs,wt w' a,#[],by unfold Conc.G;simp[stepG,stepG.exec,Frame.atR,b];rfl,trivial,hcs.cons m,fun hc=>Ren.dH hc rfl,.of rfl,leave ρ' a' (wt w' a) [] d1 (d2.tape a) (d3.heap rfl) d4⟩
    |ret=>
    intro j;refine hI.ups.own (pV rfl) fun a=>?_;exact⟨{b.atR a' (.code .ret::j) with mode:=.returning},m::cs,wt w' a,#[],by unfold Conc.G;simp[stepG,stepG.exec,Frame.atR,b];rfl,trivial,hcs.cons m,fun hc=>Ren.dH hc rfl,.of rfl,leave ρ' a' (wt w' a) _ d1 (d2.tape a) (d3.heap rfl) d4⟩
   cases e
  cases e
 cases e
end
end Go.Ev
namespace Go.Ren
open Go.Conc
section
variable[M:Mps]
def wG:Code->Bool
|.region .. | .skip|.exit _=>true
|.seq a b=>wG a&&wG b
|.cond _ a b=>wG a&&wG b
|.block _ a|.loop a|.scope a=>wG a
|_=>false
def lW:ig->Bool
|.code c|.inLoop c|.inScope c=>wG c
|.inBlock _|.inRegion ..=>true
|_=>false
def Gz(k:List ig)(fr:aC):aC:={fr with todo:=fr.todo++k}
theorem FU{id:Nat}(K:List ig):∀{k k':List ig},exitTo id k=some k'->exitTo id (k++K)=some (k'++K)
|[],_,h=>by cases h
|i::k,k',h=>by
 cases i with
 |inBlock id'=>
 simp only[exitTo,List.cons_append] at h⊢;split at h
 .rename_i e;rw[aY e];cases h;rfl
 rename_i e;rw[aU e];exact FU K h
 |_=>exact FU (k:=k) K h
theorem yO{id:Nat}:∀{k k':List ig},exitTo id k=some k'->(∀i∈k,lW i=true)->∀i∈k',lW i=true
|[],_,h,_=>by cases h
|i::k,k',h,hp=>by
 have hk:∀j∈k,lW j=true:=fun j hj=>hp j (jy _ hj);cases i with
 |inBlock id'=>
 simp only[exitTo] at h;split at h
 .cases h;exact hk
 exact yO h hk
 |_=>exact yO (k:=k) h hk
theorem vX{k fr}(hne:fr.todo≠[])(hp:∀i∈fr.todo,lW i=true)(v):Gz k (fr.finish v)=(Gz k fr).finish v/\(∀i∈(fr.finish v).todo,lW i=true)/\(fr.finish v).mode=fr.mode/\(fr.finish v).roundOf=fr.roundOf:=by
 have⟨a,tmps,todo,defers,md,kind,ro⟩:=fr;cases todo with
 |nil=>exact absurd rfl hne
 |cons i p=>
  have h1:=hp i (fZ ..);cases i with
  |inRegion ops l=>
   cases l with
   |nil=>exact⟨rfl,hp,rfl,rfl⟩
   |cons j rest=>
   refine⟨?_,fun x hx=>?_,rfl,rfl⟩
   .unfold Frame.finish Gz;dsimp[List.cons_append]
   unfold Frame.finish at hx;rcases dW.1 hx with rfl|hx
   .rfl
   exact hp x (jy _ hx)
  |code c=>exact⟨rfl,hp,rfl,rfl⟩
  |inLoop c=>exact⟨rfl,hp,rfl,rfl⟩
  |inScope c=>exact⟨rfl,hp,rfl,rfl⟩
  |inBlock id=>exact⟨rfl,hp,rfl,rfl⟩
  |_=>cases h1
end
section
variable[M:Mps]{P:aH}{S:aI->Prop}
theorem Nk(k)(fr):(Gz k fr).eval=fr.eval:=funext fun x=>by cases x<;>rfl
theorem tC(fr:aC)(v):(fr.finish v).defers=fr.defers/\(fr.finish v).kind=fr.kind:=by unfold Frame.finish;split<;>exact⟨rfl,rfl⟩
def aaH(P:aH)(k:List ig)(cs B:List aC)(fr:aC)(w w1:ay)(g1:dD)(es:Array Event):Prop:=
 (∃fr1,g1=G fr1 B/\(fr1.defers=fr.defers/\fr1.kind=fr.kind)/\fr1.mode=.run/\fr1.roundOf=none/\(∀i∈fr1.todo,lW i=true)/\stepG P true (G (Gz k fr) cs) w=.go (G (Gz k fr1) cs) w1 es)\/
 (∃top,g1=G top (fr::B)/\stepG P true (G (Gz k fr) cs) w=.go (G top (Gz k fr::cs)) w1 es)
theorem aa0{k cs B fr ops l p}(hm:fr.mode=.run)(b:fr.roundOf=none)(ht:fr.todo=.inRegion ops l::p)(hp:∀i∈fr.todo,lW i=true){s s' w w1 g1 es}(hr:eF P id (kd P S) (kR id (kd P S)) s s' w w)(h:stepG.apply P true fr B none s w=.go g1 w1 es)(hsm:jc g1):(∃fr1,g1=G fr1 B/\(fr1.defers=fr.defers/\fr1.kind=fr.kind)/\fr1.mode=.run/\fr1.roundOf=none/\(∀i∈fr1.todo,lW i=true)/\stepG.apply P true (Gz k fr) cs none s w=.go (G (Gz k fr1) cs) w1 es)\/(∃top,g1=G top (fr::B)/\stepG.apply P true (Gz k fr) cs none s w=.go (G top (Gz k fr::cs)) w1 es):=by
 have hne:fr.todo≠[]:=by rw[ht];simp
 have f:(Gz k fr).todo=.inRegion ops l::(p++k):=by show fr.todo++k=_;rw[ht];rfl
 unfold stepG.apply at h⊢;simp only[je] at h⊢;generalize hrun:s.runT P w #[]=r at h⊢;have⟨r,y⟩:=r;cases r with
 |halt x v2=>
  have⟨e,_⟩:=hr.noInit _ _ _ _ hrun;cases x with
  |panic v=>obtain⟨rfl,_,_⟩:=h;have:=hsm.mode;have j:XZ (fr.raise [{v,recovered:=false}]):=zy _ _;have⟨c,hc⟩:=j;rw[hc] at this;exact this.elim
  |unsupported u=>
   cases u with
   |initOrder g=>exact absurd rfl (e.1 g)
   |_=>simp[GStep.after] at h
  |stuck s=>simp[GStep.after] at h
  |_=>cases e.2
 |ok a v2=>
  have⟨_,_,b0,_,hok,m⟩:=hr.size _ _ _ _ hrun;cases a with
  |value x=>
  simp[GStep.after,jG] at h⊢;obtain⟨rfl,rfl,rfl⟩:=h;have⟨t,q,o,n⟩:=vX (k:=k) hne hp x;refine .inl ⟨fr.finish x,rfl,tC fr x,o.trans hm,n.trans b,q,⟨?_,rfl,rfl⟩⟩;rw[t];rfl
  |skip=>
  simp[GStep.after,jG] at h⊢;obtain⟨rfl,rfl,rfl⟩:=h;have⟨t,q,o,n⟩:=vX (k:=k) hne hp undef;refine .inl ⟨fr.finish undef,rfl,tC fr undef,o.trans hm,n.trans b,q,⟨?_,rfl,rfl⟩⟩;rw[t];rfl
  |enter g as=>
  rw[ht] at h;rw[f];simp[GStep.after,jG] at h⊢;obtain⟨rfl,rfl,rfl⟩:=h;exact .inr ⟨_,rfl,⟨rfl,rfl,rfl⟩⟩
  |round l g tmps as body=>
  simp[GStep.after,jG] at h⊢;obtain⟨rfl,rfl,rfl⟩:=h;exact .inr ⟨_,rfl,⟨rfl,rfl,rfl⟩⟩
  |defer d=>exact m.elim
  |_=>cases hok
theorem acL(Q:bz P)(hS:@mM _ bY P S){k cs B fr w w1 g1 es}(hn:NV (kd P S) w)(u:aG P S fr)(hl:∀g,fr.about P w=some g->S g)(hm:fr.mode=.run)(E:fr.roundOf=none)(hne:fr.todo≠[])(hp:∀i∈fr.todo,lW i=true)(h:stepG P true (G fr B) w=.go g1 w1 es)(hsm:jc g1):aaH P k cs B fr w w1 g1 es:=by
 have hs:=jl hn;have hi:=u.items;have hgood:=u;have⟨f,tmps,todo,defers,md,kind,ro⟩:=fr;subst hm E;cases todo with
 |nil=>exact absurd rfl hne
 |cons i p=>
  have h1:=hp i (fZ ..);have n:∀j∈p,lW j=true:=fun j hj=>hp j (jy _ hj);have I:=hi i (fZ ..);have m:∀A,(∀j∈A,lW j=true)->stepG P true _ w=.go (G ⟨f,tmps,A,defers,.run,kind,none⟩ B) w #[]->stepG P true _ w=.go (G (Gz k ⟨f,tmps,A,defers,.run,kind,none⟩) cs) w #[]->aaH P k cs B ⟨f,tmps,i::p,defers,.run,kind,none⟩ w w1 g1 es:=fun A q z v=>by rw[z,jG] at h;obtain⟨rfl,rfl,rfl⟩:=h;exact .inl ⟨_,rfl,⟨rfl,rfl⟩,rfl,rfl,q,v⟩
  have q:∀j,lW j=true->∀x∈j::p,lW x=true:=fun j hj x hx=>by
   rcases dW.1 hx with rfl|hx
   .exact hj
   exact n x hx
  have r:∀j j',lW j=true->lW j'=true->∀x∈j::j'::p,lW x=true:=fun j j' hj H x hx=>by
   rcases dW.1 hx with rfl|hx
   .exact hj
   exact q j' H x hx
  cases i with
  |code c=>
   cases c with
   |skip=>exact m p n rfl rfl
   |seq a b=>have h2:(wG a&&wG b)=true:=h1;rw[aT] at h2;exact m (.code a::.code b::p) (r _ _ h2.1 h2.2) rfl rfl
   |cond x a b=>
    have h2:(wG a&&wG b)=true:=h1;rw[aT] at h2;have C:∀(O:List ig),Frame.eval ⟨f,tmps,O,defers,.run,kind,none⟩ x=Frame.eval ⟨f,tmps,[],defers,.run,kind,none⟩ x:=fun O=>by cases x<;>rfl
    generalize hv:Frame.eval _ x=y at C;cases y with
    |bool t=>
    refine m (.code (if t then a else b)::p) (q _ (by cases t;exact h2.2;exact h2.1)) ?_ ?_
    .simp[stepG,stepG.exec,Conc.G,C]
    simp[stepG,stepG.exec,Conc.G,Gz,C]
    |_=>simp[stepG,stepG.exec,Conc.G,C] at h
   |block id a=>exact m (.code a::.inBlock id::p) (r _ _ h1 rfl) rfl rfl
   |loop a=>exact m (.code a::.inLoop a::p) (r _ _ h1 h1) rfl rfl
   |scope a=>exact m (.code a::.inScope a::p) (r _ _ h1 h1) rfl rfl
   |exit id=>
    cases he:exitTo id p with
    |none=>simp[stepG,stepG.exec,Conc.G,he] at h
    |some k'=>
    refine m k' (yO he n) ?_ ?_
    .simp[stepG,stepG.exec,Conc.G,he]
    simp[stepG,stepG.exec,Conc.G,Gz,FU k he]
   |region s ops draw=>
    cases draw with
    |false=>exact m (.inRegion ops (List.range ops.size)::p) (q _ rfl) rfl rfl
    |true=>
    have e:∀(t:List ig) (cs:List aC),stepG P true (G ⟨f,tmps,.code (.region s ops true)::t,defers,.run,kind,none⟩ cs) w=.go (G ⟨f,tmps,.inRegion ops (Region.schedule (P.follows .mixedOrders) ops (w.tape w.drawn (.order f s)))::t,defers,.run,kind,none⟩ cs) {w with drawn:=w.drawn+1} #[]:=fun t cs=>by simp[stepG,stepG.exec,Conc.G,choose,Sem.run,Question.forced,Question.cut]
    rw[e,jG] at h;obtain⟨rfl,rfl,rfl⟩:=h;exact .inl ⟨_,rfl,⟨rfl,rfl⟩,rfl,rfl,q _ rfl,e (p++k) cs⟩
   |_=>cases h1
  |inLoop a=>exact m (.code a::.inLoop a::p) (r _ _ h1 h1) rfl rfl
  |inScope a=>exact m p n rfl rfl
  |inBlock id=>exact m p n rfl rfl
  |inRegion ops l=>
   cases l with
   |nil=>exact m p n rfl rfl
   |cons j rest=>
    cases ho:ops[j]? with
    |none=>
    refine .inl ?_;have e:∀(t:List ig) (cs:List aC),stepG P true (G ⟨f,tmps,.inRegion ops (j::rest)::t,defers,.run,kind,none⟩ cs) w=.go (G (Frame.finish ⟨f,tmps,.inRegion ops (j::rest)::t,defers,.run,kind,none⟩ undef) cs) w #[]:=fun t cs=>by simp[stepG,stepG.exec,Conc.G,ho]
    rw[e,jG] at h;obtain⟨rfl,rfl,rfl⟩:=h;have⟨z,v,K,J⟩:=vX (k:=k) (fr:=⟨f,tmps,.inRegion ops (j::rest)::p,defers,.run,kind,none⟩) hne hp undef;refine⟨_,rfl,tC _ undef,K,J,v,?_⟩;rw[z];exact e (p++k) cs
    |some o=>
    by_cases hw:Region.wanted o (yielded ops tmps)=true
    .have F:pG P S o:=(I o (kP ho)).resolve_right id
     have hrun:=vY (fr:=⟨f,tmps,.inRegion ops (j::rest)::p,defers,.run,kind,none⟩) lX FQ Q hs hS F (fun _ _=>lL _) (fun c d g h1 h2 R=>hl g (by simp only[Frame.about,ho,h1];rw[h2];exact R))
     have e:∀(t:List ig) (cs:List aC),stepG P true (G ⟨f,tmps,.inRegion ops (j::rest)::t,defers,.run,kind,none⟩ cs) w=stepG.apply P true ⟨f,tmps,.inRegion ops (j::rest)::t,defers,.run,kind,none⟩ cs none (execOp (Frame.eval ⟨f,tmps,.inRegion ops (j::rest)::t,defers,.run,kind,none⟩) o) w:=fun t cs=>by simp only[stepG,stepG.exec,Conc.G,stepG.oper,Frame.oper?,ho,hw,Option.map_some,Option.getD_some,je]
     rw[e] at h;rcases aa0 (k:=k) (cs:=cs) rfl rfl rfl hp hrun h hsm with⟨fr1,N,L,W,V,U,T⟩|⟨top,N,L⟩
     .refine .inl ⟨fr1,N,L,W,V,U,?_⟩
      rw[<-T];exact(e (p++k) cs).trans (by rw[show Frame.eval ⟨f,tmps,.inRegion ops (j::rest)::(p++k),defers,.run,kind,none⟩=Frame.eval ⟨f,tmps,.inRegion ops (j::rest)::p,defers,.run,kind,none⟩ from Nk k ⟨f,tmps,.inRegion ops (j::rest)::p,defers,.run,kind,none⟩];rfl)
     refine .inr ⟨top,N,?_⟩;rw[<-L];exact(e (p++k) cs).trans (by rw[show Frame.eval ⟨f,tmps,.inRegion ops (j::rest)::(p++k),defers,.run,kind,none⟩=Frame.eval ⟨f,tmps,.inRegion ops (j::rest)::p,defers,.run,kind,none⟩ from Nk k ⟨f,tmps,.inRegion ops (j::rest)::p,defers,.run,kind,none⟩];rfl)
    refine .inl ?_;have D:Region.wanted o (yielded ops tmps)=false:=by simpa using hw
    have e:∀(t:List ig) (cs:List aC),stepG P true (G ⟨f,tmps,.inRegion ops (j::rest)::t,defers,.run,kind,none⟩ cs) w=.go (G (Frame.finish ⟨f,tmps,.inRegion ops (j::rest)::t,defers,.run,kind,none⟩ undef) cs) w #[]:=fun t cs=>by simp[stepG,stepG.exec,Conc.G,ho,D]
    rw[e,jG] at h;obtain⟨rfl,rfl,rfl⟩:=h;have⟨z,v,K,J⟩:=vX (k:=k) (fr:=⟨f,tmps,.inRegion ops (j::rest)::p,defers,.run,kind,none⟩) hne hp undef;refine⟨_,rfl,tC _ undef,K,J,v,?_⟩;rw[z];exact e (p++k) cs
  |_=>cases h1
def Same(C C':List aC)(g1 g2:dD):Prop:=
 (∃pre fr1,g1=G fr1 (pre++C)/\g2=G fr1 (pre++C'))\/
 (∃c r c' r',C=c::r/\C'=c'::r'/\((∃x,g1=G (c.finish x) r/\g2=G (c'.finish x) r')\/(g1=G c r/\g2=G c' r')))
def RG(C C':List aC):GStep->GStep->Prop
|.go g1 w1 es,s=>∃g2,s=.go g2 w1 es/\Same C C' g1 g2
|_,_=>True
theorem RG.after{C a es s s'}(h:RG C a s s'):RG C a (GStep.after es s) (GStep.after es s'):=by
 cases s with
 |go g1 w1 es1=>
 obtain⟨b,rfl,h2⟩:=h;exact⟨b,rfl,h2⟩
 |_=>trivial
theorem jm{C a fr1 w1 es}:RG C a (.go {frame:=fr1,callers:=C,status:=.running,dying:=none} w1 es) (.go {frame:=fr1,callers:=a,status:=.running,dying:=none} w1 es):=⟨_,rfl,.inl ⟨[],fr1,rfl,rfl⟩⟩
theorem ZE{C a fr1 fr w1 es}:RG C a (.go {frame:=fr1,callers:=fr::C,status:=.running,dying:=none} w1 es) (.go {frame:=fr1,callers:=fr::a,status:=.running,dying:=none} w1 es):=⟨_,rfl,.inl ⟨[fr],fr1,rfl,rfl⟩⟩
theorem acS{c:Prop}[Decidable c]{C d a a' b b'}(ha:RG C d a a')(hb:RG C d b b'):RG C d (if c then a else b) (if c then a' else b'):=by
 split
 .exact ha
 exact hb
theorem Ja{fr c c' r r' x v}(hc:bf c.mode)(b:bf c'.mode)(hk:fr.kind=.normal\/fr.kind=.deferred):RG (c::r) (c'::r') (doReturn P true fr (c::r) none x v) (doReturn P true fr (c'::r') none x v):=by
 unfold doReturn;dsimp only;rcases hk with h|h
 .rw[h];exact⟨_,rfl,.inr ⟨_,_,_,_,rfl,rfl,.inl ⟨x,rfl,rfl⟩⟩⟩
 rw[h];have key:∀d f,d=c->f=c'->RG _ _ (.go {frame:=d,callers:=r,status:=.running,dying:=none} v) (.go {frame:=f,callers:=r',status:=.running,dying:=none} v):=fun d f e g=>by subst e g;exact⟨_,rfl,.inr ⟨_,_,_,_,rfl,rfl,.inr ⟨rfl,rfl⟩⟩⟩
 refine key _ _ ?_ ?_
 .split
  .rename_i a;rw[a] at hc;exact hc.elim
  rfl
 split
 .rename_i a;rw[a] at b;exact b.elim
 rfl
theorem VB{fr C e s s' v w}(h:eF P id (kd P S) (kR id (kd P S)) s s' v w)(f:aG P S fr):RG C e (stepG.apply P true fr C none s v) (stepG.apply P true fr e none s v):=by
 unfold stepG.apply;generalize hrun:s.runT P v #[]=r;have⟨r,i⟩:=r;refine RG.after ?_;cases r with
 |halt x v2=>
  have⟨b,hn⟩:=h.noInit _ _ _ _ hrun;cases x with
  |panic v=>exact jm
  |unsupported u=>
   cases u with
   |initOrder g=>exact absurd rfl (b.1 g)
   |_=>trivial
  |stuck s=>trivial
  |_=>cases b.2
 |ok a v2=>
  have⟨_,hn,b0,_,hok,c⟩:=h.size _ _ _ _ hrun;cases a with
  |value x=>exact jm
  |skip=>exact jm
  |enter g as=>
  dsimp only;exact ZE
  |round l g tmps as body=>exact ZE
  |defer d=>exact c.elim
  |_=>cases hok
theorem acR{fr c c' r r' v}(hc:bf c.mode)(d:bf c'.mode)(hk:fr.kind=.normal\/fr.kind=.deferred)(ro:aB Nat)(jump:aB Code)(b:String) :
  RG (c::r) (c'::r')
   (match ro with
   |none=>if (match jump with|none|some .ret=>true|_=>false)=true then GStep.go {frame:={fr with mode:=.returning},callers:=c::r,status:=.running,dying:=none} v else .ended (.stuck b (fr.pos P)) v
   |some l=>
    let (z,es):=(Instr.endRound l jump).runT P v #[]
    GStep.after (seen P fr.fn es) <| match z with
    |.ok x w=>doReturn P true fr (c::r) none x w
    |.halt _ w=>.ended (.stuck "range over a function: no such loop" (fr.pos P)) w)
   (match ro with
   |none=>if (match jump with|none|some .ret=>true|_=>false)=true then GStep.go {frame:={fr with mode:=.returning},callers:=c'::r',status:=.running,dying:=none} v else .ended (.stuck b (fr.pos P)) v
   |some l=>
    let (z,es):=(Instr.endRound l jump).runT P v #[]
    GStep.after (seen P fr.fn es) <| match z with
    |.ok x w=>doReturn P true fr (c'::r') none x w
    |.halt _ w=>.ended (.stuck "range over a function: no such loop" (fr.pos P)) w):=by
 cases ro with
 |none=>exact acS jm trivial
 |some l=>
  dsimp only;generalize hrun:(Instr.endRound l jump).runT P v #[]=z;have⟨z,e⟩:=z;refine RG.after ?_;cases z with
  |halt x v2=>trivial
  |ok x v2=>exact Ja hc d hk
theorem afH(N:bz P)(hS:@mM _ bY P S){fr c c' r r' v}(hn:NV (kd P S) v)(p:aG P S fr)(hc:bf c.mode)(I:bf c'.mode)(hm:fr.mode=.run)(hl:∀g,fr.about P v=some g->S g):RG (c::r) (c'::r') (stepG.exec P true true fr (c::r) none v) (stepG.exec P true true fr (c'::r') none v):=by
 have hs:=jl hn;have e:=fun jump A=>acR (P:=P) (r:=r) (r':=r') (v:=v) hc I p.kind fr.roundOf jump A;have hi:=p.items;have q:∀{s s':Sem Next},eF P id _ _ s s' v v->RG _ _ (stepG.apply P true fr (c::r) none s v) (stepG.apply P true fr (c'::r') none s v):=fun h=>VB h p;have⟨m,tmps,todo,defers,md,kind,ro⟩:=fr;cases todo with
 |nil=>unfold stepG.exec;exact e none _
 |cons i k=>
  have t:iy P S i:=hi i (fZ ..);have hk:∀j∈k,iy P S j:=fun j hj=>hi j (jy _ hj);unfold stepG.exec;cases i with
  |code O=>
   have w:qM P S O:=t;cases O with
   |ret=>exact e (some .ret) _
   |skip=>exact jm
   |label l=>exact jm
   |seq a b=>exact jm
   |cond x thn els=>
    dsimp only;generalize Frame.eval _ x=z;cases z with
    |bool b=>exact jm
    |_=>trivial
   |block id body=>exact jm
   |loop body=>exact jm
   |scope body=>exact jm
   |exit id=>
    dsimp only;cases he:exitTo id k with
    |none=>exact e (some (.exit id)) _
    |some k'=>exact jm
   |goto l=>
    dsimp only;cases he:gotoIn l k with
    |none=>exact e (some (.goto l)) _
    |some k'=>exact jm
   |rangeFunc x ps a b=>
    have h:=eF.of (CW (P:=P) (f:=id) (K:=kd P S) m tmps ps a b w.2.1 w.2.2 ro) lX hs;dsimp only;generalize hrun:(Instr.enterLoop m tmps ps a b ro).runT P v #[]=z;have⟨z,L⟩:=z;refine RG.after ?_;cases z with
    |halt y v2=>trivial
    |ok y v2=>
    have⟨l,mark⟩:=y;have⟨_,F,b0,_,G⟩:=h.size _ _ _ _ hrun;have u:(Instr.enterLoop m tmps ps a b ro).run P v=.ok (l,mark) v2:=by rw[<-mf P _ v #[],hrun]
    have D:aG P S ⟨m,tmps,.inRangeFunc l::k,mark++defers,md,kind,ro⟩:=⟨fun x hx=>by
     rcases dW.1 hx with rfl|hx
     .trivial
     .exact hk x hx,fun d hd=>by
     rcases pY.1 hd with hd|hd
     .exact .inr (G d hd)
     exact p.defers d hd,p.mode,p.kind⟩
    exact VB (DY (fr:=⟨m,tmps,.inRangeFunc l::k,mark++defers,md,kind,ro⟩) lX FQ N (jl F) hS w.1 (fun _ _=>lL _) l (fun d g h1 h2=>hl g (by cases hm;have J:resolve (Frame.eval ⟨m,tmps,.code (.rangeFunc x ps a b)::k,defers,.run,kind,ro⟩) {callee:=.value x,args:=#[.const _],argTypes:=#[]} 0=pure d:=h1;simp[Frame.about,u];rw[J];exact h2))) D
   |refuse A=>trivial
   |region E ops draw=>
    cases draw with
    |false=>exact jm
    |true=>
     dsimp only;simp[UZ,tY,BF];generalize hrun:(choose (.order m E)).run P v=z;cases z with
     |halt x v2=>trivial
     |ok n v2=>exact jm
  |inBlock id=>exact jm
  |inScope body=>exact jm
  |inLoop body=>exact jm
  |inRangeFunc l=>trivial
  |beginRound=>
   cases ro with
   |none=>exact q (s':=(stuck "" : Sem Next)) (.dies hs (Dies.bind (dO _) _))
   |some l=>exact q (.of (Fq (AP l)) lX hs)
  |endRangeFunc l=>
   have h:=eF.of (Jd (P:=P) (f:=id) (K:=kd P S) l) lX hs;dsimp only;generalize hrun:(Instr.endLoop l).runT P v #[]=z;have⟨z,L⟩:=z;refine RG.after ?_;cases z with
   |halt x v2=>cases x<;>first|trivial|exact jm
   |ok jump v2=>exact jm
  |call d a r s=>exact t.elim
  |extern r s=>exact t.elim
  |inRegion ops todo=>
   cases todo with
   |nil=>exact jm
   |cons j rest=>
    refine acS ?_ jm;unfold stepG.oper;dsimp only[Frame.oper?];cases ho:ops[j]? with
    |none=>trivial
    |some o=>
    have B:pG P S o:=(t o (kP ho)).resolve_right id;have hrun:=vY (fr:=⟨m,tmps,.inRegion ops (j::rest)::k,defers,md,kind,ro⟩) lX FQ N hs hS B (fun _ _=>lL _) (fun c d g h1 h2 Q=>hl g (by cases hm;simp only[Frame.about,ho,h1];rw[h2];exact Q))
    have C:=q hrun;dsimp only;split
    .rename_i l c1 H
     have:=B.1
     rw[H] at this;exact this.elim
    exact C
theorem aa3{fr c c' r r' v}(a:aG P S fr)(hc:bf c.mode)(b:bf c'.mode):RG (c::r) (c'::r') (unwind P true fr (c::r) none v) (unwind P true fr (c'::r') none v):=by
 unfold unwind;cases hd:fr.defers with
 |cons d ds=>
  rcases a.defers d (by rw[hd];exact fZ ..) with rfl|⟨q,hr⟩
  .obtain⟨o,es,e⟩:=jv P {fr with defers:=ds} _ none v
   show RG _ _ (callDeferred P {fr with defers:=ds} _ none jI v) _;rw[e];trivial
  obtain⟨t,as⟩:=d;cases hr;dsimp only;generalize hrun:(Instr.takeDeferred q).runT P v #[]=z;obtain⟨z,g⟩:=z;refine RG.after ?_;cases z with
  |halt x v2=>trivial
  |ok calls v2=>exact jm
 |nil=>
  dsimp only;have hm:=a.mode;cases f:fr.mode with
  |panicking ch=>rw[f] at hm;exact hm.elim
  |run=>trivial
  |returning=>
   dsimp only;cases hfn:P.funcs[fr.fn]? with
   |none=>exact Ja hc b a.kind
   |some fn=>
    dsimp only;generalize hrun:(results fn fr.tmps).runT P v #[]=z;obtain⟨z,g⟩:=z;refine RG.after ?_;cases z with
    |halt x v2=>cases x<;>trivial
    |ok x v2=>exact Ja hc b a.kind
theorem LV(e:bz P)(hS:@mM _ bY P S){fr c c' r r' v}(hn:NV (kd P S) v)(a:aG P S fr)(hc:bf c.mode)(d:bf c'.mode)(hl:∀g,fr.about P v=some g->S g):RG (c::r) (c'::r') (stepG P true (G fr (c::r)) v) (stepG P true (G fr (c'::r')) v):=by
 unfold stepG;dsimp[Conc.G];have b:=a.mode;cases hm:fr.mode with
 |run=>exact afH e hS hn a hc d hm hl
 |returning=>exact aa3 a hc d
 |panicking ch=>rw[hm] at b;exact b.elim
structure Own(fr:aC):Prop where
 mode:fr.mode=.run
 round:fr.roundOf=none
 defers:fr.defers=[]
 kind:fr.kind=.normal
 plain:∀i∈fr.todo,lW i=true
theorem Own.step{fr fr1}(h:Own fr)(h1:fr1.defers=fr.defers/\fr1.kind=fr.kind)(h2:fr1.mode=.run)(b:fr1.roundOf=none)(a:∀i∈fr1.todo,lW i=true):Own fr1:=⟨h2,b,h1.1.trans h.defers,h1.2.trans h.kind,a⟩
inductive Iso (k:List ig) (cs:List aC):dD->dD->Prop
 |top {fr:aC} (h:Own fr):Iso k cs (G fr [bottom]) (G (Gz k fr) cs)
 |deep {t:aC} (l:List aC) {fr:aC} (h:Own fr) (hne:fr.todo≠[]):Iso k cs (G t (l++[fr,bottom])) (G t (l++Gz k fr::cs))
theorem Iso.deep'{k cs t}(l){fr}(h:Own fr)(hne:fr.todo≠[]){C a}(e:C=l++[fr,bottom])(b:a=l++Gz k fr::cs):Iso k cs (G t C) (G t a):=by subst e b;exact .deep l h hne
theorem Own.finish{k fr}(h:Own fr)(hne:fr.todo≠[])(x):Own (fr.finish x)/\Gz k (fr.finish x)=(Gz k fr).finish x:=by obtain⟨d,c,b,a⟩:=vX hne h.plain x;exact⟨h.step (tC fr x) (b.trans h.mode) (a.trans h.round) c,d⟩
theorem adI(f:bz P)(hS:@mM _ bY P S){k cs g r g1 v v1 es}(hi:Iso k cs g r)(hn:NV (kd P S) v)(hg:SB P S g)(hl:∀x,g.frame.about P v=some x->S x)(e:∀fr,g=G fr [bottom]->fr.todo≠[])(h:stepG P true g v=.go g1 v1 es)(hsm:jc g1):∃p,stepG P true r v=.go p v1 es/\Iso k cs g1 p:=by
 cases hi with
 |@top fr ho=>
  have hne:=e fr rfl;rcases acL f hS hn hg.frame hl ho.mode ho.round hne ho.plain h hsm with⟨fr1,rfl,h1,h2,w,u,i⟩|⟨t,rfl,i⟩
  .exact⟨_,i,.top (ho.step h1 h2 w u)⟩
  exact⟨_,i,.deep' [] ho hne rfl rfl⟩
 |@deep t l fr ho hne=>
  have b:bf fr.mode:=by rw[ho.mode];trivial
  have a:=b;cases l with
  |nil=>
  have hr:=LV (fr:=t) (c':=Gz k fr) (r:=[bottom]) (r':=cs) f hS hn hg.frame b a hl;have h':stepG P true (G t [fr,bottom]) v=.go g1 v1 es:=h;rw[h'] at hr;have⟨j,o,hs⟩:=hr;refine⟨j,o,?_⟩;rcases hs with⟨pre,fr1,rfl,rfl⟩|⟨c,q,c',s,n,m,hs⟩
  .exact .deep pre ho hne
  obtain⟨rfl,rfl⟩:=jF n;obtain⟨rfl,rfl⟩:=jF m;rcases hs with⟨x,rfl,rfl⟩|⟨rfl,rfl⟩
  .have⟨o1,y⟩:=ho.finish (k:=k) hne x
   rw[<-y];exact .top o1
  exact .top ho
  |cons c0 l=>
  have d:bf c0.mode:=(hg.callers c0 (fZ ..)).mode;have hr:=LV (P:=P) (S:=S) (fr:=t) (c:=c0) (c':=c0) (r:=l++[fr,bottom]) (r':=l++Gz k fr::cs) f hS hn hg.frame d d hl;have h':stepG P true (G t (c0::(l++[fr,bottom]))) v=.go g1 v1 es:=h;rw[h'] at hr;have⟨j,o,hs⟩:=hr;refine⟨j,o,?_⟩;rcases hs with⟨pre,fr1,rfl,rfl⟩|⟨c,q,c',s,n,m,hs⟩
  .exact .deep' (pre++c0::l) ho hne (by simp) (by simp)
  obtain⟨rfl,rfl⟩:=jF n;obtain⟨rfl,rfl⟩:=jF m;rcases hs with⟨x,rfl,rfl⟩|⟨rfl,rfl⟩
  .exact .deep l ho hne
  exact .deep l ho hne
theorem acd{k fr}(ho:Own fr)(hne:fr.todo≠[])(v):(Gz k fr).about P v=fr.about P v:=by
 have⟨a,tmps,todo,defers,md,kind,ro⟩:=fr;have hm:=ho.mode;subst hm;cases todo with
 |nil=>exact absurd rfl hne
 |cons i p=>
  have h1:=ho.plain i (fZ ..);have d:(Gz k ⟨a,tmps,i::p,defers,.run,kind,ro⟩)=⟨a,tmps,i::(p++k),defers,.run,kind,ro⟩:=rfl;have b:Frame.eval ⟨a,tmps,i::(p++k),defers,.run,kind,ro⟩=Frame.eval _:=Nk k ⟨a,tmps,i::p,defers,.run,kind,ro⟩;rw[d];unfold Frame.about;cases i with
  |code c=>cases c<;>first|rfl|(cases h1;done)
  |inRegion ops l=>
   cases l with
   |nil=>rfl
   |cons j rest=>simp[b]
  |_=>first|rfl|(cases h1;done)
section
variable{L N:List aI}
theorem agu(qR:∀f∈L,f∉N){k cs g r v}(hi:Iso k cs g r)(b:∀fr,g=G fr [bottom]->fr.todo≠[])(ok:@Ok _ kD P (·∈L) g v):@Fit (aV P L N) P r:=by
 have c:∀v' x,g.frame.about P v'=some x->x∈L:=fun v' x hx=>IJ ok.wX (Dh _) (fun _ h=>h) (x9 (fun _ h=>h) _▸ok.bound) hx;have a:∀ops i rest k' o,g.frame.todo=.inRegion ops _::k'->ops[i]?=some o->pG P _ o:=fun ops i rest k' o h1 h2=>by have e:=ok.wX.frame.items (.inRegion ops (i::rest)) (by rw[h1];exact fZ ..);exact(e o (kP h2)).resolve_right id
 cases hi with
 |@top fr ho=>
  have hne:=b fr rfl;refine⟨Df fun ops i rest k' o h1 h2=>?_,fun v' x hx=>?_⟩
  .cases ht:fr.todo with
   |nil=>exact absurd ht hne
   |cons j p=>have d:fr.todo++k=.inRegion ops _::k':=h1;rw[ht] at d;obtain⟨rfl,_⟩:=jF d;exact a ops i rest p o ht h2
  have h1:(Gz k fr).about P v'=some x:=hx;rw[acd ho hne] at h1;exact qR x (c v' x h1)
 |@deep t l fr ho hne=>exact⟨Df fun ops i rest k' o h1 h2=>a ops i rest k' o h1 h2,fun v' x hx=>qR x (c v' x hx)⟩
theorem QU{D}(hD:∀g v,D g v->g.frame.mode=.run){fr v}(ho:Own fr)(ht:fr.todo=[])(h:@Tree _ kD P S D (G fr [bottom]) v):D (G fr [bottom]) v:=by
 cases h with
 |done ok h=>exact h
 |step ok hns G1 o E1 he hsm d=>
  exfalso;have⟨a,tmps,todo,defers,md,kind,ro⟩:=fr;have⟨h1,h2,j,i,_⟩:=ho;subst h1 h2 j i ht
  let t0:Nat->Question->Nat:=fun _ _=>0
  have n:stepG P true (G ⟨a,tmps,[],[],.run,.normal,none⟩ [bottom]) _=.go _ (wt v t0) #[]:=rfl;have f:=he t0;rw[n,jG] at f;have hc:=d t0;rw[<-f.1] at hc;cases hc with
  |done ok h=>have:=hD _ _ h;cases this
  |step ok hns G2 V2 E2 c hsm2 b=>
   have m:=c t0;have hup:=(b t0).ok.up;have key:∀g1 v1 es,stepG P true (G ⟨a,tmps,[],[],.returning,.normal,none⟩ [bottom]) _=.go g1 v1 es->g1.callers=[]:=fun g1 v1 es e=>by
    unfold stepG at e;dsimp[Conc.G] at e;unfold unwind at e;cases hfn:P.funcs[a]? with
    |none=>rw[hfn] at e;dsimp[doReturn] at e;rw[jG] at e;rw[<-e.1]
    |some fn=>
     rw[hfn] at e;dsimp only at e;generalize (results fn tmps).runT P (wt (o t0) t0) #[]=z at e;have⟨z,k⟩:=z;cases z with
     |ok x v2=>
     dsimp[doReturn,GStep.after] at e;rw[jG] at e;rw[<-e.1]
     |halt y v2=>cases y<;>(dsimp[GStep.after] at e;cases e)
   have⟨l,hl⟩:=hup;rw[key _ _ _ m] at hl;simp at hl
theorem abB(q:bz P)(hS:@mM _ bY P (·∈L))(qR:∀f∈L,f∉N){k cs}(hcs:∃l,cs=l++[bottom]){D}(hD:∀g v,D g v->g.frame.mode=.run/\∃fr,g=G fr [bottom]){g v}(ht:@Tree _ kD P (·∈L) D g v):∀{r},Iso k cs g r->@fO _ (aV P L N) P (·∈L) (fun r' v'=>∃fr,r'=G (Gz k fr) cs/\D (G fr [bottom]) v'/\@Ok _ kD P (·∈L) (G fr [bottom]) v') r v:=by
 induction ht with
 |@done g v ok h=>
  intro r hi;refine @fO.done _ (aV P L N) _ _ _ _ _ ?_;have⟨_,e,w⟩:=hD _ _ h;cases hi with
  |@top fr ho=>exact⟨fr,rfl,h,ok⟩
  |@deep t l fr ho hne=>
  exfalso
  have:=bU (fun g=>g.callers.length) w
  simp[Conc.G] at this
 |@step g v ok hns Gs Vs Es he hsm j p=>
  intro r hi;by_cases d:∃fr,g=G fr [bottom]/\fr.todo=[]
  .obtain⟨fr,rfl,ht⟩:=d
   have n:Own fr/\r=G (Gz k fr) cs:=by
    generalize hg:G fr [bottom]=g at hi;cases hi with
    |@top e ho=>
    obtain rfl:e=fr:=by have:=bU Goroutine.frame hg;exact this.symm
    exact⟨ho,rfl⟩
    |@deep t l e ho hne=>
    exfalso
    have:=bU (fun g=>g.callers.length) hg
    simp[Conc.G] at this
   obtain⟨ho,rfl⟩:=n;have hd:=QU (fun g v h=>(hD g v h).1) ho ht (@Tree.step _ kD _ _ _ _ _ ok hns Gs Vs Es he hsm j);exact @fO.done _ (aV P L N) _ _ _ _ _ ⟨fr,rfl,hd,ok⟩
  have c:∀fr,g=G fr [bottom]->fr.todo≠[]:=fun fr u s=>d ⟨fr,u,s⟩;have b:=fun t=>adI q hS hi (ok.wt t).nv ok.wX (ok.leads hns _) c (he t) (hsm t);have h1:=fun t=>fB (b t);have a:∀{g1 i},Iso k cs g1 i->(∃l,i.callers=l++[bottom])/\i.status=.running/\i.dying=none/\(bf g1.frame.mode->bf i.frame.mode):=fun{g1 i} hi=>by
   obtain⟨o,rfl⟩:=hcs;cases hi with
   |top ho=>exact⟨⟨o,rfl⟩,rfl,rfl,id⟩
   |@deep t l fr ho hne=>exact⟨⟨l++Gz k fr::o,by simp[Conc.G]⟩,rfl,rfl,id⟩
  refine @fO.step _ (aV P L N) _ _ _ _ _ (agu qR hi c ok) (fun t=>Classical.choose (b t)) Vs Es (fun t=>(h1 t).1) (fun t=>?_) (fun t _=>(j t).ok.clean) (fun t=>(a (h1 t).2).1) (fun t=>(a (h1 t).2).2.1) (fun t=>p t (h1 t).2);have m:=a (h1 t).2;exact⟨m.2.2.1,.inl m.2.1,m.2.2.2 (hsm t).mode⟩
end
end
end Go.Ren
namespace Go.Ev
open Go.Conc Go.Ren
section
variable[M:Mps]{P:aH}{L N:List aI}{K:aC->List aC->ay->Prop}
def Q4(r:aB (ae×H))(e:Made):Bool:=match r with
|some (u,h)=>Be u e.v&&Nat.ble h.next e.nx'&&(h.log.all fun b=>Nat.ble e.nx b)&&(e.kn.all fun p=>Nat.blt p.1 top&&Nat.blt p.1 e.nx)&&(e.born.all fun p=>(match h.get p.1 with|some o=>Uh o p.2|none=>false)&&(Nat.blt p.1 top&&Nat.ble e.nx p.1&&Nat.blt p.1 h.next))
|none=>false
def Made.out(e:Made)(h:H):H:=⟨onto e.born h.t,e.nx',List.range' e.nx (e.nx'-e.nx)++h.log⟩
theorem yE.made{e r}(hb:Q4 r e=true)(hq:∀v h1,r=some (v,h1)->yE P L N K e.f e.args (start e.kn e.nx) v h1){h}(hn:h.next<=e.nx)(hk:∀p∈e.kn,∃o,h.get p.1=some o/\o.Le p.2):yE P L N K e.f e.args h e.v (e.out h):=by
 unfold Q4 at hb;split at hb;case h_2=>cases hb
 rename_i u h1;simp only[aT] at hb;have⟨⟨⟨⟨b1,b2⟩,b3⟩,b4⟩,b5⟩:=hb;have⟨G,fn,c,q1,q2,Z,Y,X⟩:=hq u h1 rfl;obtain rfl:=lY b1;have G:=G;have I:=iF b2;have A:∀p∈e.kn,p.1<top/\p.1<e.nx:=fun p hp=>by have:=bZ.1 b4 p hp;simpa only[aT,ik] using this
 have ht:∀p∈e.kn,p.1<top:=fun p hp=>(A p hp).1;have hm:∀p∈e.born,(∃o,h1.get p.1=some o/\o.Le p.2)/\p.1<top/\e.nx<=p.1/\p.1<h1.next:=fun p hp=>by
  have:=bZ.1 b5 p hp;simp only[aT,ik] at this;refine⟨?_,this.2.1.1,iF this.2.1.2,this.2.2⟩;have h2:=this.1
  split at h2
  .rename_i o ho;exact⟨o,ho,Bf h2⟩
  cases h2
 have n:∀p∈e.born,p.1<top:=fun p hp=>(hm p hp).2.1;have a:∀b,b∈List.range' e.nx (e.nx'-e.nx)↔e.nx<=b/\b<e.nx':=fun b=>by rw[BC];omega
 refine⟨bM hn (bM G I),fn,c,q1,q2,Z,Y,fun ρ y w c cs hcs S J hr hu hK=>?_⟩;have hu:lK ρ h.next e.nx':=hu;have O:HR ρ (start e.kn e.nx) w:=⟨hr.fD,fun b o hb=>by
  have⟨o1,h1,h2⟩:=hk (b,o) (gY ht hb);have⟨x,k,o',g,p2,p3⟩:=hr.ob b o1 h1;exact⟨x,k,o',g,p2,h2.or p3⟩,fun b c x k l hb T hx hy=>by
  have⟨ob,t⟩:=gQ.1 hb;have⟨oc,R⟩:=gQ.1 T;have⟨o1,h1,_⟩:=hk _ (gY ht t);have⟨o2,h2,_⟩:=hk _ (gY ht R);exact hr.inj b c x k l (by rw[h1];rfl) (by rw[h2];rfl) hx hy⟩
 refine X ρ y w c cs hcs S J O (hu.sub hn I) fun ρ' v' w' s1 s2 s3=>?_;have⟨l,V,f1,o1,t1,k1,W⟩:=s1.log;have V:h1.log=l:=by rw[V];exact o9 l
 have B:∀b,b∈l->e.nx<=b/\b<h1.next:=fun b hb=>by
  have h0:e.nx<=b:=iF (bZ.1 b3 b (by rw[V];exact hb));rcases t1 b hb with h|h
  .have⟨o,ho⟩:=gQ.1 h;have:=(A _ (gY ht ho)).2;exact absurd h0 (Nat.not_le.2 this)
  exact h
 have hl:∀b,b∈l->ρ b=.dC:=fun b hb=>hu b (by have:=B b hb;omega) (by have:=B b hb;omega);have s:∀b,e.nx<=b->b<e.nx'->ρ b=.dC:=fun b h1 h2=>hu b (by omega) h2;have D:∀x o,w.heap[x]?=some o->w'.heap[x]?=some o:=fun x o hx=>f1 x o hx fun b k hb F=>by rw[hl b hb] at F;cases F
 have C:∀b o,h.get b=some o->ρ' b=ρ b/\¬(e.nx<=b/\b<e.nx'):=fun b o hb=>by have⟨x,k,o',g,_⟩:=hr.ob b o hb;exact⟨W b (fun hh=>by rw[hl b hh] at g;cases g) (by rw[g];intro hh;cases hh),fun hh=>by rw[s b hh.1 hh.2] at g;cases g⟩
 have i:∀b x k,ρ b=.dC->ρ' b=.at_ x k->w.heap.size<=x:=fun b x k hb hx=>by
  rcases o1 b x k hx with h|⟨_,h2⟩
  .rw[hb] at h;cases h
  rcases h2 with h2|⟨c,j,hc,hj⟩
  .exact h2
  rw[hl c hc] at hj;cases hj
 refine hK ρ' v' w' ⟨s1.le,bM hn (bM G I),fun b hb hx=>?_,s1.size,_,rfl,fun x o hx _=>D x o hx,fun b x k hb=>?_,fun b hb=>?_,fun b hb=>?_,fun b hb z=>?_⟩ ⟨s2.fD,fun b o hb=>?_,fun b d x k j hb hd hx hy=>?_⟩ s3
 .have hx':b<h.next\/e.nx'<=b:=hx;exact s1.born b hb (by show b<e.nx\/h1.next<=b;omega)
 .rcases o1 b x k hb with h|⟨h,h2⟩
  .exact .inl h
  exact .inr ⟨h,.inl (i b x k h hb)⟩
 .have:=(a b).1 hb;exact .inr ⟨by omega,this.2⟩
 .exact NT n fun p hp hh=>hb ((a b).2 (by have:=hm p hp;omega))
 .by_cases E:b∈l
  .exact absurd (hl b E) z
  exact W b E z
 .rcases wM n hb with m|m
  .have⟨o1,q,U⟩:=(hm _ m).1;have⟨x,k,o',g,p2,p3⟩:=s2.ob b o1 q;exact⟨x,k,o',g,p2,U.or p3⟩
  have⟨x,k,o',g,p2,p3⟩:=hr.ob b o m;exact⟨x,k,o',by rw[(C b o m).1];exact g,D x o' p2,p3.mono s1.le⟩
 have⟨ob,t⟩:=gQ.1 hb;have⟨H,Q⟩:=gQ.1 hd;have low:∀b o x k,h.get b=some o->ρ' b=.at_ x k->ρ b=.at_ x k/\x<w.heap.size:=fun b o x k hb hx=>by rw[(C b o hb).1] at hx;exact⟨hx,hr.lt hb hx⟩
 rcases wM n t with m|m<;>rcases wM n Q with q|q
 .have⟨o4,U,_⟩:=(hm _ m).1;have⟨o5,h7,_⟩:=(hm _ q).1;exact s2.inj b d x k j (by rw[U];rfl) (by rw[h7];rfl) hx hy
 .have g1:=hm _ m;have:=i b x k (s b g1.2.2.1 (by have:=g1.2.2.2;simp only at this;omega)) hx;have:=(low d H x j q hy).2;omega
 .have g1:=hm _ q;have:=i d x j (s d g1.2.2.1 (by have:=g1.2.2.2;simp only at this;omega)) hy;have:=(low b ob x k m hx).2;omega
 exact hr.inj b d x k j (by rw[show h.get b=some ob from m];rfl) (by rw[show h.get d=some H from q];rfl) (low b ob x k m hx).1 (low d H x j q hy).1
def agG(e:Made)(f:aI)(args:List ae)(h:H):Bool:=Nat.beq e.f f&&Nat.ble h.next e.nx&&qC e.args args&&e.kn.all fun p=>match h.get p.1 with
|some o=>Uh o p.2
|none=>false
def XC:List Made->aI->List ae->H->aB (ae×H)
|[],_,_,_=>none
|e::es,f,args,h=>match agG e f args h with
 |true=>some (e.v,e.out h)
 |false=>XC es f args h
def IV(P:aH)(L N:List aI)(K:aC->List aC->ay->Prop)(e:Made):Prop:=∀h:H,h.next<=e.nx->(∀p∈e.kn,∃o,h.get p.1=some o/\o.Le p.2)->yE P L N K e.f e.args h e.v (e.out h)
theorem IV.of{e invN jD}(hI:IW P L N K invN jD)(a:N.contains e.f=true)(hb:Q4 (invN e.f e.args (start e.kn e.nx)) e=true):IV P L N K e:=fun _ hn hk=>yE.made hb (fun _ _ b=>hI.many _ _ _ _ _ (by simpa using a) b) hn hk
theorem afx{es}(h:∀e∈es,IV P L N K e){f args h0 h' v}(he:XC es f args h0=some (v,h')):yE P L N K f args h0 v h':=by
 induction es with
 |nil=>cases he
 |cons e es ih=>
 simp[XC] at he;split at he
 .rename_i a;cases he;unfold agG at a;simp only[aT] at a;have⟨⟨⟨h1,h2⟩,c⟩,b⟩:=a;obtain rfl:=bG h1;obtain rfl:=iY c;refine h e (by simp) h0 (iF h2) fun p hp=>?_;have:=bZ.1 b p hp
  split at this
  .rename_i o ho;exact⟨o,ho,Bf this⟩
  cases this
 exact ih (fun e he=>h e (by simp[he])) he
theorem IW.tab{es jD}(a:iW P L N K)(b:∀f args h v h',jD (.func f) args h=some (v,h')->dF P f args h v h')(h:∀e∈es,IV P L N K e):IW P L N K (XC es) jD:=⟨a,b,fun _ _ _ _ _ _ e=>afx h e⟩
end
end Go.Ev
