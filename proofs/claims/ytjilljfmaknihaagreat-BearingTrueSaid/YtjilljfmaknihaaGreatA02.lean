import GoSem.Step
import Derived.Test.YtjilljfmaknihaaGreatA00
set_option linter.all false
namespace Go
def IL:=@Go.Value.tuple.sizeOf_spec
def IM:=@Go.Value.agg.sizeOf_spec
def EX:=@Go.Result.halt.injEq
def Sv:=@Go.Value.iface.sizeOf_spec
def Sz:=@Go.Value.func.sizeOf_spec
def aaG:=@Go.Result.ok.injEq
end Go
namespace Go.Ev
inductive T (α:Type) where
 |nil
 |node (v:aB α) (l r:T α)
namespace T
variable{α:Type}
def get:T α->Nat->aB α
|.nil,_=>none
|.node v l r,k=>match k with
 |0=>v
 |n+1=>match Nat.beq (n % 2) 0 with
  |true=>l.get (n / 2)
  |false=>r.get (n / 2)
def val? : T α->aB α
|.nil=>none
|.node v _ _=>v
def left:T α->T α
|.nil=>.nil
|.node _ l _=>l
def right:T α->T α
|.nil=>.nil
|.node _ _ r=>r
def put:Nat->T α->Nat->aB α->T α
|0,t,_,_=>t
|d+1,t,k,v=>match k with
 |0=>.node v t.left t.right
 |n+1=>match Nat.beq (n % 2) 0 with
  |true=>.node t.val? (put d t.left (n / 2) v) t.right
  |false=>.node t.val? t.left (put d t.right (n / 2) v)
theorem wY(t:T α):t.get 0=t.val?:=by cases t<;>rfl
theorem mX(t:T α)(n)(h:n % 2=0):t.get (n+1)=t.left.get (n / 2):=by
 cases t with
 |nil=>rfl
 |node v l r=>simp[get,h,left]
theorem qB(t:T α)(n)(h:n % 2=1):t.get (n+1)=t.right.get (n / 2):=by
 cases t with
 |nil=>rfl
 |node v l r=>simp[get,h,right]
def deep:Nat:=40
theorem get_put:∀(d:Nat) (t:T α) (k:Nat) (v:aB α) (j:Nat),k+1<2 ^ d->(put d t k v).get j=if j=k then v else t.get j
|0,t,k,v,j,h=>by omega
|d+1,t,0,v,j,h=>by
 simp only[put];cases j with
 |zero=>simp[wY,val?]
 |succ n=>
 rw[aU (by omega)];rcases Y2 n with hn|hn
 .rw[mX _ _ hn,mX _ _ hn];rfl
 rw[qB _ _ hn,qB _ _ hn];rfl
|d+1,t,n+1,v,j,h=>by
 have hp:2 ^ (d+1)=2*2 ^ d:=by rw[Nat.pow_succ];omega
 have a:n / 2+1<2 ^ d:=by omega
 rcases Y2 n with hn|hn
 .have e:put (d+1) t (n+1) v=.node t.val? (put d t.left (n / 2) v) t.right:=by simp only[put,hn]
  rw[e];cases j with
  |zero=>rw[aU (by omega),wY,wY];rfl
  |succ m=>
  rcases Y2 m with hm|hm
  .rw[mX _ _ hm,mX _ _ hm];show(put d t.left (n / 2) v).get (m / 2)=_;rw[get_put d t.left (n / 2) v (m / 2) a];by_cases hj:m=n
   .subst hj;simp
   rw[aU (by omega),aU (by omega)]
  rw[qB _ _ hm,qB _ _ hm,aU (by omega)];rfl
 have e:put (d+1) t (n+1) v=.node t.val? t.left (put d t.right (n / 2) v):=by simp only[put,hn]
 rw[e];cases j with
 |zero=>rw[aU (by omega),wY,wY];rfl
 |succ m=>
 rcases Y2 m with hm|hm
 .rw[mX _ _ hm,mX _ _ hm,aU (by omega)];rfl
 rw[qB _ _ hm,qB _ _ hm];show(put d t.right (n / 2) v).get (m / 2)=_;rw[get_put d t.right (n / 2) v (m / 2) a];by_cases hj:m=n
 .subst hj;simp
 rw[aU (by omega),aU (by omega)]
end T
inductive Ob where
 |cells (c:List ae) (elem:aZ) (soft:aB Nat)
 |map (es:List MapEntry) (clock:Nat)
 |iter (m:aB Nat) (since:Nat) (seen:List Nat) (stepped:Nat)
 |loop (state:LoopState) (pending:aB Code) (fn:aI) (tmps:T ae) (size:Nat) (params:Array Tmp) (assign body:Code) (defers:Nat)
 |calls (open_:Bool)
 |bag (c:List ae) (elem:aZ)
 |qO (c:List (List ae)) (elem:aZ) (size:Nat)
 |half (c:List ae) (q:List (List ae)) (elem:aZ) (size:Nat)
 |shut (c:List ae) (elem:aZ)
structure H where
 t:T Ob
 next:Nat
 log:List Nat
def H.get(h:H)(b:Nat):aB Ob:=h.t.get b
def H.put(h:H)(b:Nat)(o:Ob):H:=⟨T.put T.deep h.t b (some o),h.next,b::h.log⟩
def H.kill(h:H)(b:Nat):H:=⟨T.put T.deep h.t b none,h.next,b::h.log⟩
def top:Nat:=2 ^ 39
def H.new(h:H)(o:Ob):aB (Nat×H):=
 match Nat.blt h.next top with
 |true=>some (h.next,⟨T.put T.deep h.t h.next (some o),h.next+1,h.next::h.log⟩)
 |false=>none
def df{b}(h:b<top):b+1<2 ^ T.deep:=by unfold top at h;unfold T.deep;omega
def H.get_put{h:H}{b}(hb:b<top)(o)(j):(h.put b o).get j=if j=b then some o else h.get j:=T.get_put _ _ _ _ _ (df hb)
def H.Io{h:H}{b}(hb:b<top)(j):(h.kill b).get j=if j=b then none else h.get j:=T.get_put _ _ _ _ _ (df hb)
def H.mG{h h':H}{o b}(e:h.new o=some (b,h')):b=h.next/\b<top/\h'.next=h.next+1/\∀j,h'.get j=if j=b then some o else h.get j:=by
 unfold H.new at e;split at e
 .rename_i hb;have a:h.next<top:=by rw[ik] at hb;exact hb
  cases e;exact⟨rfl,a,rfl,fun j=>T.get_put _ _ _ _ _ (df a)⟩
 cases e
end Go.Ev
namespace Go.Ren
section
class Fr where
 xP:aI->aI
 mid:String->String
instance(priority:=low) bY:Fr:=⟨fun g=>g,fun n=>n⟩
def mr:ae->Bool
|.func .. | .pointer (some _)|.slice (some _) _ _|.map (some _)|.chan (some _)|.iface ..=>true
|_=>false
class Mps where
 maps:Bool
instance(priority:=low) iH:Mps:=⟨true⟩
class Ext [Mps] where
 ext:aZ->ae->ae
 ak9:∀t v,mr (ext t v)=true
 none:Mps.maps=true->∀t v,ext t v=.iface t v
instance(priority:=low) aj[Mps]:Ext:=⟨fun t v=>.iface t v,fun _ _=>rfl,fun _ _ _=>rfl⟩
def jT:Nat:=1000000000000
def Wj[Mps][Ext](t:aZ)(v v':ae):ae:=if t<jT then .iface t v' else Ext.ext t v
def FN[Mps][Ext]{t}(h:t<jT)(v v'):Wj t v v'=.iface t v':=aY h
def aiE[Mps](t)(v):Wj t v v=.iface t v:=by unfold Wj;split<;>rfl
def qy[Mps][Ext](t)(v v'):mr (Wj t v v')=true:=by
 unfold Wj;split
 .rfl
 exact Ext.ak9 t v
def Xt{v}(h:mr v=true):v.cells=#[v]:=by cases v<;>first|rfl|cases h
def LZ[Mps][Ext]{t v v' c}(h:Wj t v v'=.agg c):False:=by have h1:=qy t v v';rw[h] at h1;cases h1
section
variable[Mps][Fr][Ext]
def addr(f:Nat->Nat)(a:Addr):Addr:=⟨f a.block,a.off,a.spot⟩
def fn(f:Nat->Nat):Fn->Fn
|.yield l=>.yield (f l)
|.func g=>.func (Fr.xP g)
|.via t p g b=>.via t p (Fr.xP g) b
|.method n=>.method (Fr.mid n)
|.methodOf t n=>.methodOf t (Fr.mid n)
def val(f:Nat->Nat):ae->ae
 |.pointer a=>.pointer (a.map (addr f))
 |.slice a l c=>.slice (a.map (addr f)) l c
 |.map r=>.map (r.map f)
 |.chan r=>.chan (r.map f)
 |.func g first captured=>.func (fn f g) (first.attach.map fun x=>val f x.1) (captured.attach.map fun x=>val f x.1)
 |.iface t v=>Wj t v (val f v)
 |.agg cs=>.agg (cs.attach.map fun x=>val f x.1)
 |.tuple vs=>.tuple (vs.attach.map fun x=>val f x.1)
 |.bool b=>.bool b
 |.int k n=>.int k n
 |.float k b=>.float k b
 |.complex k a b=>.complex k a b
 |.string s=>.string s
 |.nilFunc=>.nilFunc
 |.nilIface=>.nilIface
termination_by v=>SizeOf.sizeOf v
decreasing_by
 all_goals first
  |(have h:=IP x.2;simp only[Sz,IM,IL];omega)
  |(simp only[Sv];omega)
def vals(f:Nat->Nat)(vs:Array ae):Array ae:=vs.map (val f)
@[simp] theorem dY (f:Nat->Nat) (b:Bool):val f (.bool b)=.bool b:=by simp[val]
@[simp] theorem dK (f:Nat->Nat) (k:IntKind) (n:Int):val f (.int k n)=.int k n:=by simp[val]
@[simp] theorem dP (f:Nat->Nat) (k:FloatKind) (n:Nat):val f (.float k n)=.float k n:=by simp[val]
@[simp] theorem dw (f:Nat->Nat) (k:FloatKind) (n m:Nat):val f (.complex k n m)=.complex k n m:=by simp[val]
@[simp] theorem bV (f:Nat->Nat) (s:ByteArray):val f (.string s)=.string s:=by simp[val]
@[simp] theorem aK (f:Nat->Nat) (a:aB Addr):val f (.pointer a)=.pointer (a.map (addr f)):=by simp[val]
@[simp] theorem bI (f:Nat->Nat) (a:aB Addr) (l c:Nat):val f (.slice a l c)=.slice (a.map (addr f)) l c:=by simp[val]
@[simp] theorem eU (f:Nat->Nat) (r:aB Nat):val f (.map r)=.map (r.map f):=by simp[val]
@[simp] theorem gm (f:Nat->Nat) (r:aB Nat):val f (.chan r)=.chan (r.map f):=by simp[val]
@[simp] theorem cZ (f:Nat->Nat):val f .nilFunc=.nilFunc:=by simp[val]
@[simp] theorem dJ (f:Nat->Nat):val f .nilIface=.nilIface:=by simp[val]
@[simp] theorem dh (f:Nat->Nat) (t:aZ) (v:ae):val f (.iface t v)=Wj t v (val f v):=by simp[val]
@[simp] theorem dG (f:Nat->Nat) (cs:Array ae):val f (.agg cs)=.agg (vals f cs):=by simp only[val,vals];congr 1;exact Xm cs (val f)
@[simp] theorem cO (f) (cs):val f (.tuple cs)=.tuple (vals f cs):=by simp only[val,vals];congr 1;exact Xm cs _
@[simp] theorem dL (f) (g) (a b):val f (.func g a b)=.func (fn f g) (vals f a) (vals f b):=by simp only[val,vals];congr 1<;>exact Xm _ _
@[simp] theorem zi (f:Nat->Nat) (a:Array ae):(vals f a).size=a.size:=by simp[vals]
@[simp] theorem jg (f:Nat->Nat) (a:Array ae) (i:Nat):(vals f a)[i]?=a[i]?.map (val f):=by simp[vals]
theorem Ah(f:Nat->Nat)(v:ae):(val f v).cells=vals f v.cells:=by
 cases v with
 |iface t x=>rw[dh,Xt (qy t x _)];simp[Value.cells,vals]
 |_=>simp[Value.cells,vals]
def mark(f:Nat->Nat):Mark->Mark
|.acquire a=>.acquire (addr f a)
|.release a=>.release (addr f a)
|.releaseMerge a=>.releaseMerge (addr f a)
|.read a=>.read (addr f a)
|.write a=>.write (addr f a)
|.disable=>.disable
|.enable=>.enable
|.extern g=>.extern g
|.noRoom=>.noRoom
def loc(f:Nat->Nat):Loc->Loc
|.cell a=>.cell (addr f a)
|.obj r=>.obj (f r)
|.mark m=>.mark (mark f m)
|.output=>.output
|.goroutines=>.goroutines
def event(f:Nat->Nat)(e:Event):Event:=⟨loc f e.loc,e.write,e.sync⟩
def target(f:Nat->Nat):Target->Target
|.fn g c=>.fn (fn f g) (vals f c)
|.nil=>.nil
|.builtin b a t c=>.builtin b a t c
|.collected r=>.collected (f r)
|.coroexit c=>.coroexit (f c)
def deferred(f:Nat->Nat)(d:xu):xu:=⟨target f d.target,vals f d.args⟩
def loop(f:Nat->Nat)(l:Loop):Loop:={l with tmps:=vals f l.tmps,defers:=f l.defers}
def entry(f:Nat->Nat)(e:MapEntry):MapEntry:={e with key:=val f e.key,val:=val f e.val}
def plain:Obj->Bool
|.cells .. | .loop _|.deferred _|.map .. | .number .. | .mapIter .. | .stringIter ..=>true
|_=>false
def obj(f:Nat->Nat):Obj->Obj
|.cells c e fr=>.cells (vals f c) e fr
|.loop l=>.loop (loop f l)
|.deferred d=>.deferred (d.map (·.map (deferred f)))
|.map es c=>.map (es.map (entry f)) c
|.number a l=>.number (addr f a) l
|.mapIter m s q l=>.mapIter (m.map f) s q l
|o=>o
def qA:Obj->Bool
|.cells c _ _=>c.isEmpty
|_=>false
def ahK:Obj->Bool
|.map .. | .stringIter .. | .mapIter .. | .loop _|.deferred _|.coro _|.finalizers ..=>true
|_=>false
def qI(f:Nat->Nat)(o o':Obj):Prop:=
 match o with
 |.cells c e fr=>∃c' fr',o'=.cells c' e fr'/\(c.isEmpty=false->c'=vals f c/\∀x,(fr'.1<=x/\x<fr'.2)->(fr.1<=x/\x<fr.2))
 |.chan ..=>∃cap b c s r tm,o'=.chan cap b c s r tm
 |.coro _=>ahK o'=true
 |o=>plain o=true/\o'=obj f o
structure Kd where
 code:Code->Prop
 tgt:Target->Prop
 fn:aI->Prop
def lI(K:Kd):Obj->Prop
|.loop l=>K.code l.assign/\K.code l.body/\∀c,l.pending=some c->K.code c
|.deferred (some ds)=>∀d∈ds,K.tgt d.target
|_=>True
structure qJ(f:Nat->Nat)(K:Kd)(v w:ay):Prop where
 good:∀(b:Nat) (o:Obj),v.heap[b]?=some o->lI K o
 block:∀b o,v.heap[b]?=some o->∃o',w.heap[f b]?=some o'/\qI f o o'
end
def Still[Mps][Fr][Ext]:Prop:=((∀g,Fr.xP g=g)/\∀n,Fr.mid n=n)/\∀t v,Ext.ext t v=.iface t v
def YB[Mps]{i:Ext}(h:∀t v,Ext.ext t v=.iface t v):i=aj:=by have⟨x,y,z⟩:=i;have e:=funext fun t=>funext (h t);subst e;rfl
def ad8[Mps]{i:Fr}{j:Ext}(h:Still):i=bY:=by have⟨x,y⟩:=i;have e:=funext h.1.1;have a:=funext h.1.2;subst e a;rfl
variable[Mps]
theorem aau(a):addr id a=a:=rfl
theorem aak(g):fn id g=g:=by cases g<;>rfl
theorem Hz(a:aB Addr):a.map (addr id)=a:=by cases a<;>rfl
theorem Px{g}(a:Array ae)(h:∀v∈a,g v=v):a.map g=a:=by have:=jL h;rw[this];exact Xl a
theorem qX:∀v:ae,val id v=v
 |.pointer a=>by simp[Hz]
 |.slice a l c=>by simp[Hz]
 |.map r=>by simp
 |.chan r=>by simp
 |.func g a b=>by rw[dL,aak,vals,vals,Px a (fun v _=>qX v),Px b (fun v _=>qX v)]
 |.iface t v=>by rw[dh,qX v,aiE]
 |.agg cs=>by rw[dG,vals,Px cs (fun v _=>qX v)]
 |.tuple cs=>by rw[cO,vals,Px cs (fun v _=>qX v)]
 |.bool _|.int _ _|.float _ _|.complex _ _ _|.string _|.nilFunc|.nilIface=>by simp
termination_by v=>SizeOf.sizeOf v
decreasing_by
 all_goals first
  |(rename_i h;have h:=IP h;simp only[Sz,IM,IL];omega)
  |(simp only[Sv];omega)
theorem xU(a):vals id a=a:=Px a fun v _=>qX v
theorem aaT(t):target id t=t:=by cases t<;>simp[target,aak,xU]
theorem Du(d):deferred id d=d:=by have⟨t,as⟩:=d;simp[deferred,aaT,xU]
theorem N7(o):obj id o=o:=by
 cases o with
 |cells c e fr=>simp[obj,xU]
 |loop l=>obtain⟨⟩:=l;simp[obj,loop,xU]
 |deferred d=>
  cases d with
  |none=>rfl
  |some ds=>simp[obj,show _=id from funext Du]
 |map es c=>
  have:(entry id)=id:=funext fun e=>by obtain⟨⟩:=e;simp[entry,qX]
  simp[obj,this]
 |number a l=>rfl
 |mapIter m s q l=>cases m<;>rfl
 |_=>rfl
end
section
variable[Mps][Fr][Ext]
def SR(s s':aB (aZ×Nat)):Prop:=s=s' \/ ∃e n,s=some (e,0)/\s'=some (e,n)
theorem SR.isSome{s s'}(h:SR s s'):s.isSome=s'.isSome:=by rcases h with rfl|⟨e,n,rfl,rfl⟩<;>rfl
def dB:Obj->Bool
|.chan .. | .coro _=>true
|_=>false
def BZ(o o':Obj):Prop:=(o.isChan=true/\o'.isChan=true)\/((∃x,o=.coro x)/\ahK o'=true)
theorem BZ.lone{o o'}(h:BZ o o'):(∃cap b c s r tm,o=.chan cap b c s r tm) \/ ∃x,o=.coro x:=by
 rcases h with⟨h,_⟩|⟨h,_⟩
 .cases o<;>first|(cases h;done)|exact .inl ⟨_,_,_,_,_,_,rfl⟩
 exact .inr h
theorem BZ.isChan{o o'}(h:BZ o o'):o.isChan=o'.isChan:=by
 rcases h with⟨h1,h2⟩|⟨⟨x,rfl⟩,h⟩
 .rw[h1,h2]
 cases o'<;>first|rfl|(cases h;done)
theorem BZ.refl{o}(h:dB o=true):BZ o o:=by cases o<;>first|(cases h;done)|exact .inl ⟨rfl,rfl⟩|exact .inr ⟨⟨_,rfl⟩,rfl⟩
theorem BZ.adk{o o'}(h:BZ o o'):∀c e fr,o'≠.cells c e fr:=fun c e fr a=>by
 subst a;rcases h with⟨_,h2⟩|⟨_,h⟩
 .cases h2
 cases h
theorem Ii{f o o'}(hc:dB o=true)(h:qI f o o'):BZ o o':=by
 cases o<;>first|(cases hc;done)|skip
 .obtain⟨_,_,_,_,_,_,rfl⟩:=h;exact .inl ⟨rfl,rfl⟩
 exact .inr ⟨⟨_,rfl⟩,h⟩
theorem vW{f o o'}(h:BZ o o'):qI f o o':=by
 rcases h with⟨h1,h2⟩|⟨⟨x,rfl⟩,h⟩
 .cases o<;>first|(cases h1;done)|skip;cases o'<;>first|(cases h2;done)|exact⟨_,_,_,_,_,_,rfl⟩
 exact h
def afh(o:Obj):Prop:=plain o=true
def NV(K:Kd)(v:ay):Prop:=∀(b:Nat) (o:Obj),v.heap[b]?=some o->(dB o=true\/plain o=true)/\lI K o
def alx:Halt->Bool
|.panic _|.stuck _|.unsupported _=>true
|_=>false
def pI(h:Halt):Prop:=(∀g,h≠.unsupported (.initOrder g))/\alx h=true
def Dies(P:aH)(K:Kd){α:Type}(s:Sem α):Prop:=∀v es,NV K v->∃h v1 es1,s.runT P v es=(.halt h v1,es1)/\pI h/\NV K v1
def Calm(P:aH)(K:Kd){α:Type}(s:Sem α):Prop:=∀v es,NV K v->match s.runT P v es with
|(.ok _ v1,_)=>NV K v1
|(.halt h v1,_)=>pI h/\NV K v1
inductive aO (P:aH) (f:Nat->Nat) (K:Kd) {α β:Type} (Q:α->β->Prop):Sem α->Sem β->Prop
 |pure {a:α} {b:β} (h:Q a b):aO P f K Q (.pure a) (.pure b)
 |load {m:Mode} {a:Addr} {k:ae->Sem α} {k':ae->Sem β} (h:∀v,aO P f K Q (k v) (k' (val f v))):aO P f K Q (.load m a k) (.load m (addr f a) k')
 |store {m:Mode} {a:Addr} {v:ae} {k:Sem α} {k':Sem β} (h:aO P f K Q k k'):aO P f K Q (.store m a v k) (.store m (addr f a) (val f v) k')
 |new {o o':Obj} {k:Nat->Sem α} {k':Nat->Sem β} (hp:afh o) (hk:lI K o) (ho:o'=obj f o) (h:∀r,aO P f K Q (k r) (k' (f r))):aO P f K Q (.new o k) (.new o' k')
 |shape {r:Nat} {k:aB (aZ×Nat)->Sem α} {k':aB (aZ×Nat)->Sem β} (h:∀s s',SR s s'->aO P f K Q (k s) (k' s')):aO P f K Q (.shape r k) (.shape (f r) k')
 |getObj {r:Nat} {k:Obj->Sem α} {k':Obj->Sem β} (h:∀o,plain o=true->lI K o->aO P f K Q (k o) (k' (obj f o))) (hg:∀o o',BZ o o'->aO P f K Q (k o) (k' o')):aO P f K Q (.getObj r k) (.getObj (f r) k')
 |setObj {r:Nat} {o o':Obj} {k:Sem α} {k':Sem β} (hp:plain o=true) (hk:lI K o) (hc:∀c e fr,o≠.cells c e fr) (ho:o'=obj f o) (h:aO P f K Q k k'):aO P f K Q (.setObj r o k) (.setObj (f r) o' k')
 |choose {q:Question} {k:Nat->Sem α} {k':Nat->Sem β} (h:∀n,aO P f K Q (k n) (k' n)):aO P f K Q (.choose q k) (.choose q k')
 |program {k:aH->Sem α} {k':aH->Sem β} (h:aO P f K Q (k P) (k' P)):aO P f K Q (.program k) (.program k')
 |mark {k:Sem α} {k':Sem β} (h:aO P f K Q k k'):aO P f K Q (.mark .noRoom k) (.mark .noRoom k')
 |dies {s:Sem α} {s':Sem β} (h:Dies P K s):aO P f K Q s s'
variable{P:aH}{f:Nat->Nat}{K:Kd}
theorem runT_bind{α β:Type}(s:Sem α)(g:α->Sem β):∀(v) (es),(s.bind g).runT P v es=match s.runT P v es with
  |(.ok a v1,es1)=>(g a).runT P v1 es1
  |(.halt h v1,es1)=>(.halt h v1,es1):=by
 induction s with
 |pure a=>intro v es;rfl
 |load m a k b=>
  intro v es;simp[Sem.bind,Sem.runT];cases v.cell? a with
  |some y=>exact b y v _
  |none=>
   cases v.farLoad P a _ with
   |ok r=>exact b r.1 v _
   |error e=>rfl
 |store m a y k b=>
  intro v es;have key:∀y,((match v.cell? a with
    |some _=>if v.frozen? a then(.halt (.unsupported (.unsafePointer "a write to bytes that a string shares")) v,es) else(k.bind g).runT P (v.setCell a y) (es.push ⟨.cell a,true,m==.atomic⟩)
    |none=>match v.farStore P a y _ with
     |.ok (w,touched)=>(k.bind g).runT P w (es++touched.toArray.map (⟨.cell ·,true,m==.atomic⟩))
     |.error h=>(.halt h v,es)):Result β×Array Event)=match(match v.cell? a with
    |some _=>if v.frozen? a then(.halt (.unsupported (.unsafePointer "a write to bytes that a string shares")) v,es) else k.runT P (v.setCell a y) (es.push ⟨.cell a,true,m==.atomic⟩)
    |none=>match v.farStore P a y (m==.atomic) with
     |.ok (w,touched)=>k.runT P w (es++touched.toArray.map (⟨.cell ·,true,m==.atomic⟩))
     |.error h=>(.halt h v,es):Result α×Array Event) with
   |(.ok a v1,es1)=>(g a).runT P v1 es1
   |(.halt h v1,es1)=>(.halt h v1,es1):=fun y=>by
   cases v.cell? a with
   |some z=>cases v.frozen? a<;>simp[b]
   |none=>
    cases v.farStore P a y (m==.atomic) with
    |ok r=>exact b r.1 _
    |error e=>rfl
  cases y<;>simp only[Sem.bind,Sem.runT]<;>exact key _
 |new o k b=>intro v es;exact b _ _ _
 |shape r k b=>intro v es;exact b _ _ _
 |freeze a n k b=>intro v es;exact b _ _
 |frozen a k b=>intro v es;exact b _ _ _
 |getObj r k b=>
  intro v es;simp only[Sem.bind,Sem.runT];cases v.heap[r]? with
  |none=>rfl
  |some o=>cases o<;>first|rfl|exact b _ _ _
 |setObj r o k b=>
  intro v es;simp only[Sem.bind,Sem.runT];cases v.heap[r]? with
  |none=>rfl
  |some o=>cases o<;>first|rfl|exact b _ _
 |choose q k b=>intro v es;simp only[Sem.bind,Sem.runT];cases q.forced<;>exact b _ _ _
 |sys c k b=>intro v es;exact b _ _ _
 |program k b=>intro v es;exact b _ _ _
 |mark m k b=>intro v es;exact b _ _
 |halt h=>intro v es;rfl
theorem aO.halt{α β:Type}{Q:α->β->Prop}{h s'}(hn:pI h):aO P f K Q (.halt h) s':=.dies fun v es a=>⟨h,v,es,rfl,hn,a⟩
theorem aO.mono{α β:Type}{Q Q'}{s:Sem α}{s':Sem β}(h:aO P f K Q s s')(c:∀a b,Q a b->Q' a b):aO P f K Q' s s':=by
 induction h with
 |pure h=>exact .pure (c _ _ h)
 |load _ ih=>exact .load ih
 |store _ ih=>exact .store ih
 |new hp hk ho _ ih=>exact .new hp hk ho ih
 |shape _ ih=>exact .shape ih
 |getObj _ _ ih ih2=>exact .getObj ih ih2
 |setObj hp hk hc ho _ ih=>exact .setObj hp hk hc ho ih
 |choose _ ih=>exact .choose ih
 |program _ ih=>exact .program ih
 |mark _ ih=>exact .mark ih
 |dies h=>exact .dies h
theorem aO.bind{α β γ δ:Type}{Q}{Q':γ->δ->Prop}{s s'}{g:α->Sem γ}{g':β->Sem δ}(h:aO P f K Q s s')(hg:∀a b,Q a b->aO P f K Q' (g a) (g' b)):aO P f K Q' (s.bind g) (s'.bind g'):=by
 induction h with
 |pure h=>exact hg _ _ h
 |load _ ih=>exact .load ih
 |store _ ih=>exact .store ih
 |new hp hk ho _ ih=>exact .new hp hk ho ih
 |shape _ ih=>exact .shape ih
 |getObj _ _ ih ih2=>exact .getObj ih ih2
 |setObj hp hk hc ho _ ih=>exact .setObj hp hk hc ho ih
 |choose _ ih=>exact .choose ih
 |program _ ih=>exact .program ih
 |mark _ ih=>exact .mark ih
 |dies h=>
 exact .dies fun v es c=>by have⟨x,v1,es1,h1,h2⟩:=h v es c;exact⟨x,v1,es1,by rw[runT_bind,h1],h2⟩
def yZ(f:Nat->Nat):Prop:=∀a b,f a=f b->a=b
structure Le(v v1:ay):Prop where
 size:v.heap.size<=v1.heap.size
 drawn:v.drawn<=v1.drawn
 same:v1={v with heap:=v1.heap,drawn:=v1.drawn}
theorem Le.refl(v):Le v v:=⟨aA _,aA _,rfl⟩
theorem Le.trans{a b c}(h:Le a b)(h':Le b c):Le a c:=⟨bM h.size h'.size,bM h.drawn h'.drawn,by rw[h'.same,h.same]⟩
theorem Le.tape{v v1}(h:Le v v1):v1.tape=v.tape:=by rw[h.same]
def Shut(o:Obj):Prop:=∃c e hi,o=.cells c e (0,hi)/\c.size<=hi
def Ce(v:ay)(e:Event):Prop:=
 match e.loc with
 |.cell a=>∃o,v.heap[a.block]?=some o/\qA o=false/\(e.write=true->¬Shut o)/\dB o=false
 |.obj r=>∃o,v.heap[r]?=some o/\qA o=false/\(∀c e fr,o≠.cells c e fr)/\(dB o=true->e.write=false)/\(o.isChan=true->e.sync=true)
 |.mark m=>m=.noRoom
 |_=>False
structure uN(v v':ay):Prop where
 size:v.heap.size<=v'.heap.size
 gone:∀(b:Nat) (o:Obj),v.heap[b]?=some o->qA o=true->v'.heap[b]?=some o
 live:∀(b:Nat) (o:Obj),v.heap[b]?=some o->qA o=false->∃o',v'.heap[b]?=some o'/\qA o'=false/\((∀c e fr,o≠.cells c e fr)->(∀c e fr,o'≠.cells c e fr))/\(Shut o'->Shut o)
 shut:∀(b:Nat) (o:Obj),v.heap[b]?=some o->Shut o->v'.heap[b]?=some o
 Oc:∀(b:Nat) (o:Obj),v.heap[b]?=some o->dB o=false->∃o',v'.heap[b]?=some o'/\dB o'=false
 adm:∀(b:Nat) (o:Obj),v.heap[b]?=some o->o.isChan=false->∃o',v'.heap[b]?=some o'/\o'.isChan=false
theorem uN.chan{v v'}(h:uN v v'){b:Nat}{o o'}(hb:v.heap[b]?=some o)(a:v'.heap[b]?=some o')(hc:dB o'=true):dB o=true:=by
 cases hx:dB o with
 |true=>rfl
 |false=>
 have⟨o2,h1,h2⟩:=h.Oc b o hb hx;rw[a] at h1;rw[aN h1,h2] at hc;cases hc
theorem uN.is{v v'}(h:uN v v'){b:Nat}{o o'}(hb:v.heap[b]?=some o)(a:v'.heap[b]?=some o')(hc:o'.isChan=true):o.isChan=true:=by
 cases hx:o.isChan with
 |true=>rfl
 |false=>
 have⟨o2,h1,h2⟩:=h.adm b o hb hx;rw[a] at h1;rw[aN h1,h2] at hc;cases hc
theorem eP(w:ay)(a)(x)(b):(w.setCell a x).heap[b]?=if b=a.block then(w.heap[b]?).map (fun|.cells c elem frozen=>.cells (if a.spot.isSome then c else c.setIfInBounds a.off x) elem frozen|o=>o) else w.heap[b]?:=by
 simp[World.setCell,PI];by_cases h:b=a.block
 .subst h;simp;rfl
 rw[aU h,aU (fun e=>h e.symm)]
theorem cell_of(w:ay)(a)(x)(h:w.cell? a=some x):∃c e fr,w.heap[a.block]?=some (.cells c e fr)/\a.spot=none/\c[a.off]?=some x:=by
 unfold World.cell? at h;split at h
 .rename_i c e fr hb;by_cases hs:a.spot.isSome
  .simp[hs] at h
  simp[hs] at h;exact⟨c,e,fr,hb,by simpa using hs,h⟩
 simp at h
theorem Jz(w:ay)(a){c e fr}(h:w.heap[a.block]?=some (.cells c e fr)):w.frozen? a=(decide (fr.1<=a.off)&&decide (a.off<fr.2)):=by have⟨lo,hi⟩:=fr;simp[World.frozen?,h]
theorem uN.refl(v):uN v v:=⟨aA _,fun _ _ h _=>h,fun _ o h hg=>⟨o,h,hg,fun h=>h,fun h=>h⟩,fun _ _ h _=>h,fun _ o h hg=>⟨o,h,hg⟩,fun _ o h hg=>⟨o,h,hg⟩⟩
theorem uN.trans{a b c}(h:uN a b)(h':uN b c):uN a c:=by refine⟨bM h.size h'.size,fun i o hi hg=>h'.gone i o (h.gone i o hi hg) hg,fun i o hi hg=>?_,fun i o hi hs=>h'.shut i o (h.shut i o hi hs) hs,fun i o hi hc=>by have⟨o',h1,h2⟩:=h.Oc i o hi hc;exact h'.Oc i o' h1 h2,fun i o hi hc=>by have⟨o',h1,h2⟩:=h.adm i o hi hc;exact h'.adm i o' h1 h2⟩;have⟨o',h1,h2,l,k⟩:=h.live i o hi hg;have⟨d,j,g,e,h8⟩:=h'.live i o' h1 h2;exact⟨d,j,g,fun x=>e (l x),fun x=>k (h8 x)⟩
theorem Ce.grows{v v' e}(h:Ce v e)(g:uN v v'):Ce v' e:=by
 unfold Ce at *;cases hl:e.loc<;>simp only[hl] at h⊢
 .have⟨o,h1,h2,d,h8⟩:=h;have⟨o',a,c,_,j⟩:=g.live _ o h1 h2;have⟨o2,b,i⟩:=g.Oc _ o h1 h8;rw[a] at b;exact⟨o',a,c,fun hw hs=>d hw (j hs),by rw[aN b];exact i⟩
 .have⟨o,h1,h2,d,h8,b⟩:=h;have⟨o',a,c,k,_⟩:=g.live _ o h1 h2;exact⟨o',a,c,k d,fun hc=>h8 (g.chan h1 a hc),fun hc=>b (g.is h1 a hc)⟩
 exact h
def aaI(f:Nat->Nat)(v w w':ay):Prop:=∀b':Nat,b'<w.heap.size->(∀(b:Nat) (o:Obj),v.heap[b]?=some o->f b=b'->qA o=true\/Shut o)->w'.heap[b']?=w.heap[b']?
end
section
variable[Mps][Fr][Ext]{P:aH}{f:Nat->Nat}{K:Kd}{v w:ay}
theorem qJ.noView(h:qJ f K v w){b:Nat}{o}(hb:v.heap[b]?=some o):∀a t,o≠.view a t:=by rintro a t rfl;have⟨o',_,h2⟩:=h.block b _ hb;simp[qI,plain] at h2
theorem WL(h:qJ f K v w)(a)(at_):∃e,v.farLoad P a at_=.error e:=by
 unfold World.farLoad;split
 .rename_i p u hb;exact absurd rfl (h.noView hb p u)
 exact⟨_,rfl⟩
theorem Ug(h:qJ f K v w)(a)(x)(at_):∃e,v.farStore P a x at_=.error e:=by
 unfold World.farStore;split
 .rename_i p u hb;exact absurd rfl (h.noView hb p u)
 exact⟨_,rfl⟩
theorem Ib{c e fr}{i:Nat}{x}(h:c[i]?=some x):qA (.cells c e fr)=false:=by simp only[qA];have:=(aP.1 h).1;simp only[Array.isEmpty,decide_eq_false_iff_not];omega
theorem qJ.row(h:qJ f K v w){b c e fr}(hb:v.heap[b]?=some (.cells c e fr))(hg:qA (.cells c e fr)=false):∃fr',w.heap[f b]?=some (.cells (vals f c) e fr')/\∀x,(fr'.1<=x/\x<fr'.2)->(fr.1<=x/\x<fr.2):=by obtain⟨o',h1,c',fr',rfl,h2⟩:=h.block b _ hb;obtain⟨rfl,a⟩:=h2 hg;exact⟨fr',h1,a⟩
theorem qJ.shape(h:qJ f K v w)(r)(hr:r<v.heap.size):SR (v.shape? r) (w.shape? (f r)):=by
 obtain⟨o,ho⟩:∃o,v.heap[r]?=some o:=⟨_,gu hr⟩;have⟨o',h1,h2⟩:=h.block r o ho;unfold World.shape?;rw[ho,h1];cases o with
 |cells c e fr=>
  obtain⟨c',fr',rfl,a⟩:=h2;cases hc:c.isEmpty with
  |true=>
  have:c.size=0:=by simpa[Array.isEmpty] using hc
  exact .inr ⟨e,c'.size,by simp[this],rfl⟩
  |false=>
  obtain⟨rfl,_⟩:=a hc;exact .inl (by simp)
 |chan cap b c s r tm=>obtain⟨cap',b',c',s',r',tm',rfl⟩:=h2;exact .inl rfl
 |coro x=>have h2:=h2;cases o'<;>first|(cases h2;done)|exact .inl rfl
 |_=>first|(obtain⟨_,rfl⟩:=h2;exact .inl rfl)|(have⟨a,_⟩:=h2;cases a)
theorem qJ.cell(h:qJ f K v w){a x}(hc:v.cell? a=some x):w.cell? (addr f a)=some (val f x):=by have⟨c,e,fr,hb,hs,hx⟩:=cell_of v a x hc;have⟨fr',h1,_⟩:=h.row hb (Ib hx);simp[World.cell?,addr,h1,hs,hx]
theorem qJ.ah1(h:qJ f K v w){a x}(hc:v.cell? a=some x)(hf:v.frozen? a=false):w.frozen? (addr f a)=false:=by
 have⟨c,e,fr,hb,hs,hx⟩:=cell_of v a x hc;have⟨fr',h1,h2⟩:=h.row hb (Ib hx);rw[Jz v a hb] at hf;rw[Jz w _ h1];by_cases hh:fr'.1<=a.off/\a.off<fr'.2
 .have:=h2 a.off hh;simp[this] at hf
 simp[addr];by_cases b:fr'.1<=a.off
 .have d:¬a.off<fr'.2:=fun y=>hh ⟨b,y⟩;simp[d]
 simp[b]
theorem GK(f)(c)(i)(y):vals f (c.setIfInBounds i y)=(vals f c).setIfInBounds i (val f y):=by simp[vals,Array.map_setIfInBounds]
theorem qJ.store(h:qJ f K v w)(hf:yZ f){a x}(y)(hc:v.cell? a=some x)(s:v.frozen? a=false):qJ f K (v.setCell a y) (w.setCell (addr f a) (val f y))/\uN v (v.setCell a y)/\aaI f v w (w.setCell (addr f a) (val f y))/\Ce v ⟨.cell a,true,false⟩/\(v.setCell a y).heap.size=v.heap.size/\(w.setCell (addr f a) (val f y)).heap.size=w.heap.size:=by
 have⟨c,e,fr,hb,hs,hx⟩:=cell_of v a x hc;have⟨fr',h1,h2⟩:=h.row hb (Ib hx);have hg:=Ib (e:=e) (fr:=fr) hx;have u:=(aP.1 hx).1;have i:(v.setCell a y).heap[a.block]?=some (.cells (c.setIfInBounds a.off y) e fr):=by rw[eP,aY rfl,hb];simp[hs]
 have l:(w.setCell (addr f a) (val f y)).heap[f a.block]?=some (.cells ((vals f c).setIfInBounds a.off (val f y)) e fr'):=by rw[eP,show f a.block=(addr f a).block from rfl,aY rfl];rw[show(addr f a).block=f a.block from rfl,h1];simp[addr,hs]
 have r:qA (Obj.cells (c.setIfInBounds a.off y) e fr)=false:=by simp only[qA,Array.isEmpty,ae7,decide_eq_false_iff_not];omega
 have hns:∀c',¬Shut (.cells c' e fr)\/c'.size≠c.size:=by
  intro c';by_cases p:c'.size=c.size
  .refine .inl ?_;rintro⟨c2,e2,hi,A,t⟩;obtain⟨rfl,rfl,rfl⟩:=A;rw[Jz v a hb] at s;simp at s;omega
  exact .inr p
 refine⟨⟨fun b o ho=>?_,fun b o ho=>?_⟩,⟨by simp[World.setCell],fun b o g k=>?_,fun b o g k=>?_,fun b o g q=>?_,fun b o g m=>?_,fun b o g m=>?_⟩,fun b' g hh=>?_,?_,by simp[World.setCell],by simp[World.setCell]⟩
 .by_cases d:b=a.block
  .subst d;rw[i] at ho;obtain rfl:=aN ho
   trivial
  rw[eP,aU d] at ho;exact h.good b o ho
 .by_cases d:b=a.block
  .subst d;rw[i] at ho;obtain rfl:=aN ho;exact⟨_,l,_,fr',rfl,fun _=>⟨by rw[GK],h2⟩⟩
  rw[eP,aU d] at ho;have⟨o',t,z⟩:=h.block b o ho;refine⟨o',?_,z⟩;rw[eP,aU (show ¬f b=(addr f a).block from fun e=>d (hf _ _ e))];exact t
 .by_cases d:b=a.block
  .subst d;rw[hb] at g;obtain rfl:=aN g;rw[hg] at k;cases k
  rw[eP,aU d];exact g
 .by_cases d:b=a.block
  .subst d;rw[hb] at g;obtain rfl:=aN g;refine⟨_,i,r,fun x=>absurd rfl (x _ _ _),fun x=>?_⟩;rcases hns _ with j|j
   .exact absurd x j
   simp at j
  exact⟨o,by rw[eP,aU d];exact g,k,fun x=>x,fun x=>x⟩
 .by_cases d:b=a.block
  .subst d;rw[hb] at g;obtain rfl:=aN g;rcases hns c with j|j
   .exact absurd q j
   exact absurd rfl j
  rw[eP,aU d];exact g
 .by_cases d:b=a.block
  .subst d;exact⟨_,i,rfl⟩
  exact⟨o,by rw[eP,aU d];exact g,m⟩
 .by_cases d:b=a.block
  .subst d;exact⟨_,i,rfl⟩
  exact⟨o,by rw[eP,aU d];exact g,m⟩
 .rw[eP]
  split
  .rename_i B;rcases hh a.block _ hb B.symm with j|j
   .rw[hg] at j;cases j
   rcases hns c with n|n
   .exact absurd j n
   exact absurd rfl n
  rfl
 refine⟨_,hb,hg,fun _ j=>?_,rfl⟩;rcases hns c with n|n
 .exact absurd j n
 exact absurd rfl n
theorem Au(f){o}(hp:afh o):qI f o (obj f o):=by
 have hp:=hp;cases o with
 |cells c e fr=>exact⟨_,_,rfl,fun _=>⟨rfl,fun x h=>h⟩⟩
 |chan=>cases hp
 |coro=>cases hp
 |_=>exact⟨hp,rfl⟩
theorem qJ.new(h:qJ f K v w){o}(hp:afh o)(hk:lI K o)(hn:f v.heap.size=w.heap.size):qJ f K {v with heap:=v.heap.push o} {w with heap:=w.heap.push (obj f o)}:=by
 refine⟨fun b o' ho=>?_,fun b o' ho=>?_⟩
 .simp[iK] at ho
  split at ho
  .obtain rfl:=aN ho;exact hk
  exact h.good b o' ho
 simp[iK] at ho;split at ho
 .rename_i hb;obtain rfl:=aN ho;exact⟨obj f o,by subst hb;simp[hn],Au f hp⟩
 rename_i hb;have⟨c,a,d⟩:=h.block b o' ho;refine⟨c,?_,d⟩;have:f b<w.heap.size:=(aP.1 a).1;simp[iK];rw[aU (by omega)];exact a
theorem uN.new(v)(o):uN v {v with heap:=v.heap.push o}:=by
 have key:∀(b:Nat) (o'),v.heap[b]?=some o'->(v.heap.push o)[b]?=some o':=fun b o' hb=>by have:b<v.heap.size:=(aP.1 hb).1;simp[iK];rw[aU (by omega)];exact hb
 exact⟨by simp,fun b o' hb _=>key b _ hb,fun b o' hb hg=>⟨o',key b _ hb,hg,fun x=>x,fun x=>x⟩,fun b o' hb _=>key b _ hb,fun b o' hb hc=>⟨o',key b _ hb,hc⟩,fun b o' hb hc=>⟨o',key b _ hb,hc⟩⟩
theorem abH(f)(v w)(o):aaI f v w {w with heap:=w.heap.push o}:=fun b' a _=>by simp only[iK];rw[aU (by omega)]
theorem qJ.setObj(h:qJ f K v w)(hf:yZ f){r o old}(hp:plain o=true)(hk:lI K o)(hc:∀c e fr,o≠.cells c e fr)(y:v.heap[r]?=some old)(g:∀c e fr,old≠.cells c e fr):qJ f K {v with heap:=v.heap.setIfInBounds r o} {w with heap:=w.heap.setIfInBounds (f r) (obj f o)}/\uN v {v with heap:=v.heap.setIfInBounds r o}/\aaI f v w {w with heap:=w.heap.setIfInBounds (f r) (obj f o)}/\(∃a,w.heap[f r]?=some a/\∀c e fr,a≠.cells c e fr)/\qA old=false:=by
 have nr:∀{o},(∀c e fr,o≠.cells c e fr)->qA o=false:=fun{o} h=>by cases o<;>first|rfl|exact absurd rfl (h _ _ _)
 have k:=nr g;have q:=nr hc;have s:=(aP.1 y).1;obtain⟨a,h1,h2⟩:∃a,w.heap[f r]?=some a/\∀c e fr,a≠.cells c e fr:=by
  have⟨o',t,p⟩:=h.block r _ y;refine⟨o',t,fun c e fr hh=>?_⟩;subst hh;cases old with
  |cells=>exact absurd rfl (g _ _ _)
  |chan=>have⟨_,_,_,_,_,_,i⟩:=p;cases i
  |coro x=>cases (p)
  |_=>have⟨_,i⟩:=p;simp[obj] at i
 have m:=(aP.1 h1).1;have get:∀(b),(v.heap.setIfInBounds r o)[b]?=if b=r then some o else v.heap[b]?:=fun b=>by
  by_cases hb:b=r
  .subst hb;simp[s]
  rw[aU hb,jf (uJ hb)]
 have get':∀(b),(w.heap.setIfInBounds (f r) (obj f o))[b]?=if b=f r then some (obj f o) else w.heap[b]?:=fun b=>by
  by_cases hb:b=f r
  .subst hb;simp[m]
  rw[aU hb,jf (uJ hb)]
 have j:∀{o},(∀c e fr,o≠.cells c e fr)->¬Shut o:=fun h ⟨c,e,hi,h',_⟩=>h _ _ _ h';refine⟨⟨fun b o' ho=>?_,fun b o' ho=>?_⟩,⟨by simp,fun b o' hb hg=>?_,fun b o' hb hg=>?_,fun b o' hb hs=>?_,fun b o' hb l=>?_,fun b o' hb l=>?_⟩,fun b' d hh=>?_,⟨a,h1,h2⟩,k⟩
 .simp[get] at ho
  split at ho
  .obtain rfl:=aN ho;exact hk
  exact h.good b o' ho
 .simp[get] at ho
  split at ho
  .rename_i hb;subst hb;obtain rfl:=aN ho;exact⟨obj f o,by simp[get',je],Au f hp⟩
  rename_i hb;have⟨u,t,p⟩:=h.block b o' ho;exact⟨u,by simp[get'];rw[aU (fun e=>hb (hf _ _ e))];exact t,p⟩
 .simp[get]
  split
  .rename_i d;subst d;rw[y] at hb;obtain rfl:=aN hb;rw[k] at hg;cases hg
  exact hb
 .simp only[get]
  split
  .rename_i d;subst d;rw[y] at hb;obtain rfl:=aN hb;exact⟨o,rfl,q,fun _=>hc,fun x=>absurd x (j hc)⟩
  exact⟨o',hb,hg,fun x=>x,fun x=>x⟩
 .simp[get]
  split
  .rename_i d;subst d;rw[y] at hb;obtain rfl:=aN hb;exact absurd hs (j g)
  exact hb
 .simp[get]
  split
  .exact⟨o,rfl,by cases o<;>first|rfl|cases hp⟩
  exact⟨o',hb,l⟩
 .simp[get]
  split
  .exact⟨o,rfl,by cases o<;>first|rfl|cases hp⟩
  exact⟨o',hb,l⟩
 simp only[get'];split
 .rename_i n;rcases hh r _ y n.symm with i|i
  .rw[k] at i;cases i
  exact absurd i (j g)
 rfl
end
section
variable[Mps][Fr][Ext]{P:aH}{f:Nat->Nat}{K:Kd}
structure nG(f:Nat->Nat)(v v1 w:ay):Prop where
 now:∀i,v.heap.size<=i->i<v1.heap.size->f i=w.heap.size+(i-v.heap.size)
 out:∀i,v1.heap.size<=i->w.heap.size+(v1.heap.size-v.heap.size)<=f i
 tape:∀i,v.drawn<=i->i<v1.drawn->w.tape (w.drawn+(i-v.drawn))=v.tape i
def dS(w w1:ay):Prop:=∀(b:Nat) (c:Array ae) (e:aZ) (fr:Nat×Nat),w.heap[b]?=some (.cells c e fr)->∃c' fr',w1.heap[b]?=some (.cells c' e fr')
theorem dS.refl(w:ay):dS w w:=fun _ c _ fr h=>⟨c,fr,h⟩
theorem dS.trans{a b c:ay}(h:dS a b)(h':dS b c):dS a c:=fun x y e fr hx=>by have⟨_,_,h1⟩:=h x y e fr hx;exact h' x _ e _ h1
theorem dS.of{w w1:ay}(h:w1.heap=w.heap):dS w w1:=fun _ c _ fr hx=>⟨c,fr,by rw[h];exact hx⟩
theorem dS.store(w:ay)(a:Addr)(x:ae):dS w (w.setCell a x):=fun b c e fr h=>by
 rw[eP];split
 .rw[h];exact⟨_,_,rfl⟩
 exact⟨c,fr,h⟩
theorem dS.push(w:ay)(o:Obj):dS w {w with heap:=w.heap.push o}:=fun b c e fr h=>by have:b<w.heap.size:=(aP.1 h).1;exact⟨c,fr,by simp only[iK];rw[aU (by omega)];exact h⟩
theorem dS.set(w:ay)(r:Nat)(o:Obj)(h0:∀c e fr,w.heap[r]? ≠ some (.cells c e fr)):dS w {w with heap:=w.heap.setIfInBounds r o}:=fun b c e fr h=>by refine⟨c,fr,?_⟩;show(w.heap.setIfInBounds r o)[b]?=_;rw[jf (fun a=>by subst a;exact h0 _ _ _ h)];exact h
def lT(w w1:ay):Prop:=∀(b:Nat) (o:Obj),w.heap[b]?=some o->o.isChan=true->∃o',w1.heap[b]?=some o'/\o'.isChan=true
theorem lT.refl(w:ay):lT w w:=fun _ o h hc=>⟨o,h,hc⟩
theorem lT.trans{a b c:ay}(h:lT a b)(h':lT b c):lT a c:=fun x o hx hc=>by have⟨o1,h1,h2⟩:=h x o hx hc;exact h' x o1 h1 h2
theorem lT.of{w w1:ay}(h:w1.heap=w.heap):lT w w1:=fun _ o hx hc=>⟨o,by rw[h];exact hx,hc⟩
structure Over(f:Nat->Nat)(K:Kd)(v w v1 w1:ay):Prop where
 rq:qJ f K v1 w1
 grows:uN v v1
 keeps:aaI f v w w1
 size:w1.heap.size=w.heap.size+(v1.heap.size-v.heap.size)
 le:Le v v1
 right:Le w w1
 drawn:w1.drawn=w.drawn+(v1.drawn-v.drawn)
 exact:f=id->Still->v.heap=w.heap->v1.heap=w1.heap
 chan:∀(b:Nat) (o o1:Obj),v.heap[b]?=some o->v1.heap[b]?=some o1->dB o1=true->v1.heap[b]?=v.heap[b]? /\ w1.heap[f b]?=w.heap[f b]?
 cells:dS w w1
 fresh:∀(b:Nat) (o:Obj),v.heap.size<=b->v1.heap[b]?=some o->dB o=false
theorem XY{o:Obj}(h:plain o=true):dB o=false:=by cases o<;>first|rfl|(cases h;done)
theorem Ba{v v1:ay}(h:v1.heap.size=v.heap.size):∀(b:Nat) (o:Obj),v.heap.size<=b->v1.heap[b]?=some o->dB o=false:=fun b o hb ho=>by have:=(aP.1 ho).1;omega
theorem Over.refl{v w:ay}(h:qJ f K v w):Over f K v w v w:=⟨h,.refl v,fun _ _ _=>rfl,by omega,.refl v,.refl w,by omega,fun _ _ h=>h,fun _ _ _ _ _ _=>⟨rfl,rfl⟩,.refl w,Ba rfl⟩
theorem YT(hf:yZ f){v w:ay}(a:Addr)(x y:ae){z:ae}(hc:v.cell? a=some z):∀(b:Nat) (o o1:Obj),v.heap[b]?=some o->(v.setCell a x).heap[b]?=some o1->dB o1=true->(v.setCell a x).heap[b]?=v.heap[b]? /\ (w.setCell (addr f a) y).heap[f b]?=w.heap[f b]?:=fun b o o1 hb h1 h2=>by
 have⟨c,e,fr,d,_,_⟩:=cell_of v a z hc;by_cases g:b=a.block
 .subst g;rw[eP,aY rfl,d] at h1;obtain rfl:=aN h1;cases h2
 exact⟨by rw[eP,aU g],by rw[eP,aU (show ¬f b=(addr f a).block from fun e=>g (hf _ _ e))]⟩
theorem aeD{v w:ay}(h:qJ f K v w)(a o3:Obj):∀(b:Nat) (o o1:Obj),v.heap[b]?=some o->(v.heap.push a)[b]?=some o1->dB o1=true->(v.heap.push a)[b]?=v.heap[b]? /\ (w.heap.push o3)[f b]?=w.heap[f b]?:=fun b o o1 hb h1 h2=>by
 have d:b<v.heap.size:=(aP.1 hb).1;have⟨o',e,_⟩:=h.block b o hb;have c:f b<w.heap.size:=(aP.1 e).1;constructor
 .simp only[iK];rw[aU (by omega)]
 simp only[iK];rw[aU (by omega)]
theorem aeC(hf:yZ f){v w:ay}(r:Nat)(a o3:Obj)(hp:plain a=true):∀(b:Nat) (o o1:Obj),v.heap[b]?=some o->(v.heap.setIfInBounds r a)[b]?=some o1->dB o1=true->(v.heap.setIfInBounds r a)[b]?=v.heap[b]? /\ (w.heap.setIfInBounds (f r) o3)[f b]?=w.heap[f b]?:=fun b o o1 hb h1 h2=>by
 by_cases d:b=r
 .subst d;have c:b<v.heap.size:=(aP.1 hb).1;simp only[Su,je,c] at h1;obtain rfl:=aN h1;cases a<;>first|(cases h2;done)|(cases hp;done)
 exact⟨jf (uJ d),jf (fun e=>d (hf _ _ e.symm))⟩
theorem Over.trans{v w v1 w1 v2 w2:ay}(h:Over f K v w v1 w1)(h':Over f K v1 w1 v2 w2)(hf:nG f v v2 w):Over f K v w v2 w2:=by
 have g1:=h.grows.size;have g2:=h'.grows.size;have s1:=h.size;have s2:=h'.size;have d1:=h.drawn;have d2:=h'.drawn;have l1:=h.le.drawn;have l2:=h'.le.drawn;refine⟨h'.rq,h.grows.trans h'.grows,fun b' p hh=>?_,by omega,h.le.trans h'.le,h.right.trans h'.right,by omega,fun i r q=>h'.exact i r (h.exact i r q),fun b o m hb l k=>by
  have c:b<v1.heap.size:=by have:=(aP.1 hb).1;omega
  have a:v1.heap[b]?=some v1.heap[b]:=gu c;have⟨i,q⟩:=h'.chan b _ m a l k;have n:dB v1.heap[b]=true:=by rw[l,a] at i;rw[<-aN i];exact k
  have⟨u,t⟩:=h.chan b o _ hb a n;exact⟨i.trans u,q.trans t⟩,h.cells.trans h'.cells,fun b m hb j=>by
  by_cases c:b<v1.heap.size
  .have a:v1.heap[b]?=some v1.heap[b]:=gu c;have h0:=h.fresh b _ hb a;have⟨o3,d,s⟩:=h'.grows.Oc b _ a h0;rw[j] at d;rw[aN d];exact s
  exact h'.fresh b m (by omega) j⟩
 rw[h'.keeps b' (by omega) (fun b o hb e=>?_),h.keeps b' p hh];by_cases c:b<v.heap.size
 .obtain⟨o0,g⟩:∃o0,v.heap[b]?=some o0:=⟨_,gu c⟩;rcases hh b o0 g e with d|d
  .have:=h.grows.gone b o0 g d;rw[this] at hb;exact .inl (aN hb▸d)
  have:=h.grows.shut b o0 g d;rw[this] at hb;exact .inr (aN hb▸d)
 have a:b<v1.heap.size:=(aP.1 hb).1;have:=hf.now b (by omega) (by omega);omega
theorem nG.right{v v1 v2 w w1:ay}(h:nG f v v2 w)(ho:Over f K v w v1 w1)(hl:Le v1 v2):nG f v1 v2 w1:=by
 have g1:=ho.grows.size;have s1:=ho.size;have hg:=hl.size;have l1:=ho.le.drawn;have d1:=ho.drawn;refine⟨fun i h1 h2=>?_,fun i h1=>?_,fun i h1 h2=>?_⟩
 .have:=h.now i (by omega) h2;omega
 .have:=h.out i h1;omega
 have:=h.tape i (by omega) h2;rw[ho.le.tape,ho.right.tape,<-this];congr 1;omega
theorem nG.left{v v1 v2 w:ay}(h:nG f v v2 w)(l1:Le v v1)(l2:Le v1 v2):nG f v v1 w:=by
 have h1:=l1.size;have h2:=l2.size;refine⟨fun i a b=>h.now i a (by omega),fun i a=>?_,fun i a b=>h.tape i a (bT b l2.drawn)⟩;by_cases hi:i<v2.heap.size
 .have:=h.now i (by omega) hi;omega
 have:=h.out i (by omega);omega
theorem nG.range{v v1 w:ay}(h:nG f v v1 w)(i:Nat)(hi:v.heap.size<=i):w.heap.size<=f i:=by
 by_cases h1:i<v1.heap.size
 .have:=h.now i hi h1;omega
 have:=h.out i (by omega);omega
theorem mem_push{α:Type}{es:Array α}{e:α}{p:α->Prop}(h:∀x∈es,p x)(he:p e):∀x∈es.push e,p x:=fun x hx=>by
 rcases Array.mem_push.1 hx with h1|rfl
 .exact h x h1
 exact he
def one:ae->Bool
|.agg _|.tuple _=>false
|_=>true
theorem adf{y:ae}(h:mr y=true):one y=true:=by cases y<;>first|rfl|cases h
theorem af4(f:Nat->Nat)(y:ae):one (val f y)=one y:=by
 cases y with
 |iface t v=>rw[dh,adf (qy t v _)];rfl
 |_=>simp[one]
theorem Qi{α:Type}{m:Mode}{a:Addr}{y:ae}{k:Sem α}{v w:ay}(hs:qJ f K v w){es es1:Array Event}{x:α}{v1:ay}(h:(Sem.store m a y k).runT P v es=(.ok x v1,es1)):one y=true/\(∃z,v.cell? a=some z)/\v.frozen? a=false/\k.runT P (v.setCell a y) (es.push ⟨.cell a,true,m==.atomic⟩)=(.ok x v1,es1):=by
 cases hc:v.cell? a with
 |none=>have⟨e,he⟩:=Ug (P:=P) hs a y (m==.atomic);cases y<;>simp[Sem.runT,hc,he] at h
 |some z=>
  cases b:v.frozen? a with
  |true=>cases y<;>simp[Sem.runT,hc,b] at h
  |false=>
  cases y<;>simp only[Sem.runT,hc,b,tY,BF] at h<;>first|exact⟨rfl,⟨z,rfl⟩,rfl,h⟩|(simp at h)
theorem Qj{α:Type}{m:Mode}{a:Addr}{y z:ae}{k:Sem α}{w:ay}{es:Array Event}(h1:one y=true)(hc:w.cell? a=some z)(b:w.frozen? a=false):(Sem.store m a y k).runT P w es=k.runT P (w.setCell a y) (es.push ⟨.cell a,true,m==.atomic⟩):=by cases y<;>simp[one] at h1<;>simp[Sem.runT,hc,b]
theorem qJ.nv{v w:ay}(h:qJ f K v w):NV K v:=fun b o hb=>by
 have⟨o',_,h2⟩:=h.block b o hb;refine⟨?_,h.good b o hb⟩;cases o with
 |cells=>exact .inr rfl
 |chan=>exact .inl rfl
 |coro=>exact .inl rfl
 |_=>exact .inr h2.1
theorem NV.noView{v:ay}(h:NV K v){b:Nat}{o:Obj}(hb:v.heap[b]?=some o):∀a t,o≠.view a t:=by rintro a t rfl;rcases(h b _ hb).1 with h|h<;>cases h
theorem NV.farLoad{v:ay}(h:NV K v)(a:Addr)(at_:Bool):∃e,v.farLoad P a at_=.error e:=by
 unfold World.farLoad;split
 .rename_i p u hb;exact absurd rfl (h.noView hb p u)
 exact⟨_,rfl⟩
theorem NV.farStore{v:ay}(h:NV K v)(a:Addr)(x:ae)(at_:Bool):∃e,v.farStore P a x at_=.error e:=by
 unfold World.farStore;split
 .rename_i p u hb;exact absurd rfl (h.noView hb p u)
 exact⟨_,rfl⟩
theorem NV.setCell{v:ay}(h:NV K v)(a:Addr)(x:ae):NV K (v.setCell a x):=fun b o hb=>by
 rw[eP] at hb;split at hb
 .cases ho:v.heap[b]? with
  |none=>rw[ho] at hb;cases hb
  |some o0=>rw[ho] at hb;have:=h _ _ ho;cases o0<;>simp only[Option.map_some,kG] at hb<;>subst hb<;>first|exact⟨.inr rfl,trivial⟩|exact this
 exact h b o hb
theorem aO.left{α β:Type}{Q:α->β->Prop}{s:Sem α}{s':Sem β}(h:aO P f K Q s s'):∀{v:ay} {es:Array Event},NV K v->∀{a:α} {v1:ay} {es1:Array Event},s.runT P v es=(.ok a v1,es1)->Le v v1/\NV K v1/\∃b,Q a b:=by
 induction h with
 |pure h=>intro v es c a v1 es1 hr;simp only[Sem.runT,uI,aaG] at hr;obtain⟨⟨rfl,rfl⟩,rfl⟩:=hr;exact⟨.refl _,c,_,h⟩
 |@load m a k k' _ d=>
  intro v es c x v1 es1 hr;simp only[Sem.runT] at hr;cases hc:v.cell? a with
  |none=>
  have⟨e,he⟩:=c.farLoad (P:=P) a (m==.atomic);simp[hc,he] at hr
  |some y=>simp only[hc] at hr;exact d y c hr
 |@store m a y k k' _ d=>
  intro v es c x v1 es1 hr;cases hc:v.cell? a with
  |none=>have⟨e,he⟩:=c.farStore (P:=P) a y (m==.atomic);cases y<;>simp[Sem.runT,hc,he] at hr
  |some z=>
   have hn:NV K (v.setCell a y):=c.setCell a y;cases n:v.frozen? a with
   |true=>cases y<;>simp[Sem.runT,hc,n] at hr
   |false=>
   have j:k.runT P (v.setCell a y) (es.push ⟨.cell a,true,m==.atomic⟩)=(.ok x v1,es1):=by cases y<;>simp only[Sem.runT,hc,n,tY,BF] at hr<;>first|exact hr|(simp at hr)
   have⟨h1,h2⟩:=d hn j;exact⟨(⟨by simp[World.setCell],aA _,rfl⟩:Le v (v.setCell a y)).trans h1,h2⟩
 |@new o o' k k' hp hk ho _ d=>
  intro v es c x v1 es1 hr;simp only[Sem.runT] at hr;have hn:NV K {v with heap:=v.heap.push o}:=fun b g hb=>by
   simp only[iK] at hb;split at hb
   .obtain rfl:=aN hb;exact⟨.inr hp,hk⟩
   exact c b g hb
  have⟨h1,h2⟩:=d _ hn hr;exact⟨(⟨by simp,aA _,rfl⟩:Le v {v with heap:=v.heap.push o}).trans h1,h2⟩
 |@shape r k k' _ d=>intro v es c x v1 es1 hr;simp only[Sem.runT] at hr;exact d _ _ (.inl rfl) c hr
 |@getObj r k k' _ _ d ih2=>
  intro v es c x v1 es1 hr;simp only[Sem.runT] at hr;split at hr
  .simp at hr
  .rename_i o _ ho;have⟨i,p⟩:=c r o ho;rcases i with h|h
   .exact ih2 o o (.refl h) c hr
   exact d _ h p c hr
  simp at hr
 |@setObj r o o' k k' hp l hc ho _ d=>
  intro v es c x v1 es1 hr;simp only[Sem.runT] at hr;split at hr
  .simp at hr
  .have hn:NV K {v with heap:=v.heap.setIfInBounds r o}:=fun b g hb=>by
    simp only[Su] at hb;split at hb
    .split at hb
     .obtain rfl:=aN hb;exact⟨.inr hp,l⟩
     cases hb
    exact c b g hb
   have⟨h1,h2⟩:=d hn hr;exact⟨(⟨by simp,aA _,rfl⟩:Le v {v with heap:=v.heap.setIfInBounds r o}).trans h1,h2⟩
  simp at hr
 |@choose q k k' _ d=>
  intro v es c x v1 es1 hr;simp only[Sem.runT] at hr;split at hr
  .exact d _ c hr
  have⟨h1,h2⟩:=d _ (v:={v with drawn:=v.drawn+1}) c hr;exact⟨(⟨aA _,Ll _,rfl⟩:Le v {v with drawn:=v.drawn+1}).trans h1,h2⟩
 |program _ d=>intro v es c x v1 es1 hr;simp only[Sem.runT] at hr;exact d c hr
 |@mark k k' _ d=>intro v es c x v1 es1 hr;simp only[Sem.runT] at hr;exact d c hr
 |dies h=>intro v es c x v1 es1 hr;have⟨_,_,_,h1,_⟩:=h v es c;rw[h1] at hr;simp at hr
theorem aO.size{α β:Type}{Q:α->β->Prop}{s:Sem α}{s':Sem β}(h:aO P f K Q s s'){v:ay}{es:Array Event}(b:NV K v){a:α}{v1:ay}{es1:Array Event}(hr:s.runT P v es=(.ok a v1,es1)):Le v v1:=(h.left b hr).1
theorem NV.noCell{v:ay}(h:NV K v)(a:Addr)(b:String):pI (v.noCell a b):=by
 unfold World.noCell;split
 .rename_i c e hb;have:=(h _ _ hb).1;rcases this with h|h<;>cases h
 .exact⟨fun g e=>(by cases e),rfl⟩
 exact⟨fun g e=>(by cases e),rfl⟩
theorem NV.aem{v:ay}(h:NV K v)(a:Addr)(at_:Bool):∃e,v.farLoad P a at_=.error e/\pI e:=by
 unfold World.farLoad;split
 .rename_i p u hb;exact absurd rfl (h.noView hb p u)
 exact⟨_,rfl,h.noCell a _⟩
theorem NV.abT{v:ay}(h:NV K v)(a:Addr)(x:ae)(at_:Bool):∃e,v.farStore P a x at_=.error e/\pI e:=by
 unfold World.farStore;split
 .rename_i p u hb;exact absurd rfl (h.noView hb p u)
 exact⟨_,rfl,h.noCell a _⟩
theorem aO.noInit{α β:Type}{Q:α->β->Prop}{s:Sem α}{s':Sem β}(h:aO P f K Q s s'):∀{v:ay} {es:Array Event},NV K v->∀{x:Halt} {v1:ay} {es1:Array Event},s.runT P v es=(.halt x v1,es1)->pI x/\NV K v1:=by
 induction h with
 |pure h=>intro v es c x v1 es1 hr;simp[Sem.runT] at hr
 |@load m a k k' _ d=>
  intro v es c x v1 es1 hr;simp only[Sem.runT] at hr;cases hc:v.cell? a with
  |none=>
  have⟨e,he,hn⟩:=c.aem (P:=P) a (m==.atomic);simp only[hc,he,uI,EX] at hr;exact⟨hr.1.1▸hn,hr.1.2▸c⟩
  |some y=>simp only[hc] at hr;exact d y c hr
 |@store m a y k k' _ d=>
  intro v es c x v1 es1 hr;cases hc:v.cell? a with
  |none=>have⟨e,he,hn⟩:=c.abT (P:=P) a y (m==.atomic);cases y<;>simp only[Sem.runT,hc,he,uI,EX] at hr<;>first|exact⟨hr.1.1▸hn,hr.1.2▸c⟩|exact⟨(by rw[<-hr.1.1];exact⟨fun g e=>(by cases e),rfl⟩),hr.1.2▸c⟩
  |some z=>
   cases n:v.frozen? a with
   |true=>cases y<;>simp only[Sem.runT,hc,n,je,uI,EX] at hr<;>exact⟨(by rw[<-hr.1.1];exact⟨fun g e=>(by cases e),rfl⟩),hr.1.2▸c⟩
   |false=>
   cases y<;>simp only[Sem.runT,hc,n,tY,BF] at hr<;>first|exact d (c.setCell a _) hr|(simp only[uI,EX] at hr;exact⟨(by rw[<-hr.1.1];exact⟨fun g e=>(by cases e),rfl⟩),hr.1.2▸c⟩)
 |@new o o' k k' hp hk ho _ d=>
  intro v es c x v1 es1 hr;simp only[Sem.runT] at hr;have hn:NV K {v with heap:=v.heap.push o}:=fun b i hb=>by
   simp only[iK] at hb;split at hb
   .obtain rfl:=aN hb;exact⟨.inr hp,hk⟩
   exact c b i hb
  exact d _ hn hr
 |@shape r k k' _ d=>intro v es c x v1 es1 hr;simp only[Sem.runT] at hr;exact d _ _ (.inl rfl) c hr
 |@getObj r k k' _ _ d ih2=>
  intro v es c x v1 es1 hr;simp only[Sem.runT] at hr;split at hr
  .simp only[uI,EX] at hr;exact⟨(by rw[<-hr.1.1];exact⟨fun g e=>(by cases e),rfl⟩),hr.1.2▸c⟩
  .rename_i o _ ho;have⟨j,p⟩:=c r o ho;rcases j with h|h
   .exact ih2 o o (.refl h) c hr
   exact d _ h p c hr
  simp only[uI,EX] at hr;exact⟨(by rw[<-hr.1.1];exact⟨fun g e=>(by cases e),rfl⟩),hr.1.2▸c⟩
 |@setObj r o o' k k' hp l hc ho _ d=>
  intro v es c x v1 es1 hr;simp only[Sem.runT] at hr;split at hr
  .simp only[uI,EX] at hr;exact⟨(by rw[<-hr.1.1];exact⟨fun g e=>(by cases e),rfl⟩),hr.1.2▸c⟩
  .have hn:NV K {v with heap:=v.heap.setIfInBounds r o}:=fun b i hb=>by
    simp only[Su] at hb;split at hb
    .split at hb
     .obtain rfl:=aN hb;exact⟨.inr hp,l⟩
     cases hb
    exact c b i hb
   exact d hn hr
  simp only[uI,EX] at hr;exact⟨(by rw[<-hr.1.1];exact⟨fun g e=>(by cases e),rfl⟩),hr.1.2▸c⟩
 |@choose q k k' _ d=>
  intro v es c x v1 es1 hr;simp only[Sem.runT] at hr;split at hr
  .exact d _ c hr
  exact d _ (v:={v with drawn:=v.drawn+1}) c hr
 |program _ d=>intro v es c x v1 es1 hr;simp only[Sem.runT] at hr;exact d c hr
 |@mark k k' _ d=>intro v es c x v1 es1 hr;simp only[Sem.runT] at hr;exact d c hr
 |dies h=>intro v es c x v1 es1 hr;have⟨_,_,_,h1,h2⟩:=h v es c;rw[h1] at hr;simp only[uI,EX] at hr;exact⟨hr.1.1▸h2.1,hr.1.2▸h2.2⟩
theorem aO.runT{α β:Type}{Q:α->β->Prop}{s:Sem α}{s':Sem β}(h:aO P f K Q s s')(hf:yZ f):∀{v w:ay} {es:Array Event},qJ f K v w->(∀e∈es,Ce v e)->∀{a:α} {v1:ay} {es1:Array Event},s.runT P v es=(.ok a v1,es1)->nG f v v1 w->∃b w1,s'.runT P w (es.map (event f))=(.ok b w1,es1.map (event f))/\Q a b/\Over f K v w v1 w1/\(∀e∈es1,Ce v1 e):=by
 induction h with
 |pure h=>intro v w es hs g a v1 es1 hr d;simp only[Sem.runT,uI,aaG] at hr;obtain⟨⟨rfl,rfl⟩,rfl⟩:=hr;exact⟨_,_,rfl,h,.refl hs,g⟩
 |@load m a k k' _ j=>
  intro v w es hs g x v1 es1 hr d;simp only[Sem.runT] at hr⊢;cases hc:v.cell? a with
  |none=>
  have⟨e,he⟩:=WL (P:=P) hs a (m==.atomic);simp[hc,he] at hr
  |some y=>
  simp only[hc] at hr;simp only[hs.cell hc];have⟨c,ty,fr,hb,_,hx⟩:=cell_of v a y hc;have he:Ce v ⟨.cell a,false,m==.atomic⟩:=⟨_,hb,Ib hx,fun h=>(by cases h),rfl⟩;have:=j y hs (mem_push g he) hr d;simpa[event,loc] using this
 |@store m a y k k' p j=>intro v w es hs g x v1 es1 hr d;have⟨h1,⟨z,hc⟩,X,hr⟩:=Qi hs hr;have⟨l,hg,hk,he,hv,hw⟩:=hs.store hf y hc X;have V:Ce (v.setCell a y) ⟨.cell a,true,m==.atomic⟩:=Ce.grows (e:=⟨.cell a,true,m==.atomic⟩) he hg;rw[Qj (by rw[af4];exact h1) (hs.cell hc) (hs.ah1 hc X)];have i:Over f K v w (v.setCell a y) (w.setCell (addr f a) (val f y)):=⟨l,hg,hk,by omega,⟨by omega,aA _,rfl⟩,⟨by omega,aA _,rfl⟩,by simp[World.setCell],fun I u H=>by subst I;obtain rfl:=ad8 u;obtain rfl:=YB u.2;simp[World.setCell,qX,aau,H],YT hf a y _ hc,.store w _ _,Ba (by simp[World.setCell])⟩;have⟨b,w1,h2,G,F,E⟩:=j l (mem_push (fun e h=>(g e h).grows hg) V) hr (d.right i (p.size l.nv hr));exact⟨b,w1,by simpa[event,loc] using h2,G,i.trans F d,E⟩
 |@new o o' k k' hp C ho hk j=>
  intro v w es hs g x v1 es1 hr d;subst ho;simp only[Sem.runT] at hr⊢;have hn:NV K {v with heap:=v.heap.push o}:=fun b W hb=>by
   simp only[iK] at hb;split at hb
   .obtain rfl:=aN hb;exact⟨.inr hp,C⟩
   exact hs.nv b W hb
  have Z:=(hk v.heap.size).size hn hr;have T:=Z.size;simp only[ae6] at T;have R:f v.heap.size=w.heap.size:=by rw[d.now v.heap.size (aA _) (by omega)];omega
  have i:Over f K v w {v with heap:=v.heap.push o} {w with heap:=w.heap.push (obj f o)}:=
   ⟨hs.new hp C R,.new v o,abH f v w (obj f o),by simp,⟨by simp,aA _,rfl⟩,⟨by simp,aA _,rfl⟩,by simp,fun I u H=>by subst I;obtain rfl:=ad8 u;obtain rfl:=YB u.2;simp[N7,H],aeD hs o _,.push w _,fun b W hb A=>by
    simp only[iK] at A;split at A
    .obtain rfl:=aN A;exact XY hp
    have:=(aP.1 A).1;omega⟩
  have⟨b,w1,h2,G,F,E⟩:=j v.heap.size i.rq (fun e h=>(g e h).grows (.new v o)) hr (d.right i Z);rw[R] at h2;exact⟨b,w1,h2,G,i.trans F d,E⟩
 |@shape r k k' hk j=>
  intro v w es hs g x v1 es1 hr d;simp only[Sem.runT] at hr⊢;refine j _ _ ?_ hs g hr d;by_cases B:r<v.heap.size
  .exact hs.shape r B
  have h1:=d.range r (by omega);exact .inl (by simp[World.shape?,Array.getElem?_eq_none (aaF B),Array.getElem?_eq_none h1])
 |@getObj r k k' _ _ j S=>
  intro v w es hs g x v1 es1 hr d;simp only[Sem.runT] at hr;split at hr
  .simp at hr
  .rename_i o D ho;have n:∀c e fr,o≠.cells c e fr:=fun c e fr h=>D c e fr h;have N:qA o=false:=by cases o<;>first|rfl|exact absurd rfl (n _ _ _)
   have⟨o',M,hst⟩:=hs.block r o ho;have he:Ce v ⟨.obj r,false,o.isChan⟩:=⟨o,ho,N,n,fun _=>rfl,fun h=>h⟩;by_cases t:dB o=true
   .have hh:=Ii t hst;have:=S o o' hh hs (mem_push g he) hr d;have O:=hh.adk;have H:=hh.isChan;simp only[Sem.runT,M];cases o'<;>first|exact absurd rfl (O _ _ _)|(rw[H] at this;simpa[event,loc,Obj.isChan] using this)
   have L:plain o=true:=by
    rcases(hs.nv r o ho).1 with h|h
    .exact absurd h t
    exact h
   have:=j o L (hs.good r o ho) hs (mem_push g he) hr d;have I:o'=obj f o:=by cases o<;>first|exact absurd rfl (n _ _ _)|exact absurd rfl t|exact hst.2
   subst I;simp only[Sem.runT,M];cases o<;>simp only[plain,tY] at L<;>first|exact absurd rfl (n _ _ _)|simpa[event,loc,obj,Obj.isChan] using this
  simp at hr
 |@setObj r o o' k k' hp C hc ho p j=>
  intro v w es hs g x v1 es1 hr d;subst ho;simp only[Sem.runT] at hr;split at hr
  .simp at hr
  .rename_i old D hold;have n:∀c e fr,old≠.cells c e fr:=fun c e fr h=>D c e fr h;have⟨l,hg,hk,⟨J,h1,h2⟩,N⟩:=hs.setObj hf hp C hc hold n;have i:Over f K v w {v with heap:=v.heap.setIfInBounds r o} {w with heap:=w.heap.setIfInBounds (f r) (obj f o)}:=⟨l,hg,hk,by simp,⟨by simp,aA _,rfl⟩,⟨by simp,aA _,rfl⟩,by simp,fun I u H=>by subst I;obtain rfl:=ad8 u;obtain rfl:=YB u.2;simp[N7,H],aeC hf r o _ hp,.set w _ _ fun c e fr h=>by rw[h1] at h;exact h2 c e fr (aN h),Ba (by simp)⟩;have he:Ce {v with heap:=v.heap.setIfInBounds r o} ⟨.obj r,true,o.isChan⟩:=by
    have B:r<v.heap.size:=(aP.1 hold).1;refine⟨o,by simp[B],by cases o<;>first|rfl|exact absurd rfl (hc _ _ _),hc,fun h=>?_,fun h=>h⟩;cases o<;>first|(cases h;done)|(cases hp;done)
   have t:(obj f o).isChan=o.isChan:=by cases o<;>rfl
   have⟨b,w1,Y,G,F,E⟩:=j l (mem_push (fun e h=>(g e h).grows hg) he) hr (d.right i (p.size l.nv hr));refine⟨b,w1,?_,G,i.trans F d,E⟩;rw[<-Y];simp only[Sem.runT,h1];cases J<;>first|exact absurd rfl (h2 _ _ _)|simp[event,loc,t]
  simp at hr
 |@choose q k k' p j=>
  intro v w es hs g x v1 es1 hr d;simp only[Sem.runT] at hr⊢;split
  .rename_i U;rw[aY U] at hr;exact j _ hs g hr d
  rename_i U;rw[aU U] at hr;have Z:=(p (q.cut (v.tape v.drawn q))).size (v:={v with drawn:=v.drawn+1}) hs.nv hr;have hd:=Z.drawn;have u:=xB (d.tape v.drawn (aA _) hd) q;simp only[aaE,Nat.add_zero] at u;rw[u];have i:Over f K v w {v with drawn:=v.drawn+1} {w with drawn:=w.drawn+1}:=⟨⟨hs.good,hs.block⟩,⟨aA _,fun _ _ h _=>h,fun _ o h hg=>⟨o,h,hg,fun h=>h,fun h=>h⟩,fun _ _ h _=>h,fun _ o h hg=>⟨o,h,hg⟩,fun _ o h hg=>⟨o,h,hg⟩⟩,fun _ _ _=>rfl,by simp,⟨aA _,Ll _,rfl⟩,⟨aA _,Ll _,rfl⟩,by simp,fun _ _ h=>h,fun _ _ _ _ _ _=>⟨rfl,rfl⟩,.of rfl,Ba rfl⟩;have⟨b,w1,h2,G,F,E⟩:=j _ i.rq g hr (d.right i Z);exact⟨b,w1,h2,G,i.trans F d,E⟩
 |program _ j=>intro v w es hs g x v1 es1 hr d;simp only[Sem.runT] at hr⊢;exact j hs g hr d
 |@mark k k' _ j=>intro v w es hs g x v1 es1 hr d;simp only[Sem.runT] at hr⊢;have:=j hs (mem_push g (show Ce v ⟨.mark .noRoom,false,true⟩ from rfl)) hr d;simpa[event,loc,Ren.mark] using this
 |dies h=>intro v w es hs g x v1 es1 hr d;have⟨_,_,_,h1,_⟩:=h v es hs.nv;rw[h1] at hr;simp at hr
end
end Go.Ren
