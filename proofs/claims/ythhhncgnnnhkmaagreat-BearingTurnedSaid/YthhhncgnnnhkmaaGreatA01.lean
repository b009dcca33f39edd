import GoSem.Step
set_option linter.all false
namespace Go.Ev
inductive T (α:Type) where
 |nil
 |node (v:Option α) (l r:T α)
namespace T
variable{α:Type}
def get:T α→Nat→Option α
 |.nil,_=>none
 |.node v l r,k=>match k with
  |0=>v
  |n+1=>match Nat.beq (n % 2) 0 with
   |true=>l.get (n / 2)
   |false=>r.get (n / 2)
def val? : T α→Option α
 |.nil=>none
 |.node v _ _=>v
def left:T α→T α
 |.nil=>.nil
 |.node _ l _=>l
def right:T α→T α
 |.nil=>.nil
 |.node _ _ r=>r
def put:Nat→T α→Nat→Option α→T α
 |0,t,_,_=>t
 |d+1,t,k,v=>match k with
  |0=>.node v t.left t.right
  |n+1=>match Nat.beq (n % 2) 0 with
   |true=>.node t.val? (put d t.left (n / 2) v) t.right
   |false=>.node t.val? t.left (put d t.right (n / 2) v)
theorem get_zero(t:T α):t.get 0=t.val?:=by cases t<;>rfl
theorem get_even(t:T α)(n:Nat)(h:n % 2=0):t.get (n+1)=t.left.get (n / 2):=by
 cases t with
 |nil=>rfl
 |node v l r=>simp only[get,h,left]
theorem get_odd(t:T α)(n:Nat)(h:n % 2=1):t.get (n+1)=t.right.get (n / 2):=by
 cases t with
 |nil=>rfl
 |node v l r=>simp only[get,h,right]
def deep:Nat:=40
theorem get_put:∀(d:Nat) (t:T α) (k:Nat) (v:Option α) (j:Nat),k+1<2 ^ d→(put d t k v).get j=if j=k then v else t.get j
 |0,t,k,v,j,h=>by omega
 |d+1,t,0,v,j,h=>by
  simp only[put]
  cases j with
  |zero=>simp[get_zero,val?]
  |succ n=>
   rw[if_neg (by omega)]
   rcases Nat.mod_two_eq_zero_or_one n with hn|hn
   .rw[get_even _ _ hn,get_even _ _ hn];rfl
   .rw[get_odd _ _ hn,get_odd _ _ hn];rfl
 |d+1,t,n+1,v,j,h=>by
  have hp:2 ^ (d+1)=2*2 ^ d:=by rw[Nat.pow_succ];omega
  have hlt:n / 2+1<2 ^ d:=by omega
  rcases Nat.mod_two_eq_zero_or_one n with hn|hn
  .have e:put (d+1) t (n+1) v=.node t.val? (put d t.left (n / 2) v) t.right:=by simp only[put,hn]
   rw[e]
   cases j with
   |zero=>rw[if_neg (by omega),get_zero,get_zero];rfl
   |succ m=>
    rcases Nat.mod_two_eq_zero_or_one m with hm|hm
    .rw[get_even _ _ hm,get_even _ _ hm]
     show(put d t.left (n / 2) v).get (m / 2)=_
     rw[get_put d t.left (n / 2) v (m / 2) hlt]
     by_cases hj:m=n
     .subst hj;simp
     .rw[if_neg (by omega),if_neg (by omega)]
    .rw[get_odd _ _ hm,get_odd _ _ hm,if_neg (by omega)];rfl
  .have e:put (d+1) t (n+1) v=.node t.val? t.left (put d t.right (n / 2) v):=by simp only[put,hn]
   rw[e]
   cases j with
   |zero=>rw[if_neg (by omega),get_zero,get_zero];rfl
   |succ m=>
    rcases Nat.mod_two_eq_zero_or_one m with hm|hm
    .rw[get_even _ _ hm,get_even _ _ hm,if_neg (by omega)];rfl
    .rw[get_odd _ _ hm,get_odd _ _ hm]
     show(put d t.right (n / 2) v).get (m / 2)=_
     rw[get_put d t.right (n / 2) v (m / 2) hlt]
     by_cases hj:m=n
     .subst hj;simp
     .rw[if_neg (by omega),if_neg (by omega)]
end T
inductive Ob where
 |cells (c:List Value) (elem:TypeId) (soft:Option Nat)
 |map (es:List MapEntry) (clock:Nat)
 |iter (m:Option Nat) (since:Nat) (seen:List Nat) (stepped:Nat)
 |loop (state:LoopState) (pending:Option Code) (fn:FuncId) (tmps:T Value) (size:Nat) (params:Array Tmp) (assign body:Code) (defers:Nat)
 |calls (open_:Bool)
 |bag (c:List Value) (elem:TypeId)
 |sack (c:List (List Value)) (elem:TypeId) (size:Nat)
 |half (c:List Value) (q:List (List Value)) (elem:TypeId) (size:Nat)
 |shut (c:List Value) (elem:TypeId)
structure H where
 t:T Ob
 next:Nat
 log:List Nat
def H.get(h:H)(b:Nat):Option Ob:=h.t.get b
def H.put(h:H)(b:Nat)(o:Ob):H:=⟨T.put T.deep h.t b (some o),h.next,b::h.log⟩
def H.kill(h:H)(b:Nat):H:=⟨T.put T.deep h.t b none,h.next,b::h.log⟩
def top:Nat:=2 ^ 39
def H.new(h:H)(o:Ob):Option (Nat×H):=
 match Nat.blt h.next top with
 |true=>some (h.next,⟨T.put T.deep h.t h.next (some o),h.next+1,h.next::h.log⟩)
 |false=>none
theorem top_deep{b:Nat}(h:b<top):b+1<2 ^ T.deep:=by
 unfold top at h
 unfold T.deep
 omega
theorem H.get_put{h:H}{b:Nat}(hb:b<top)(o:Ob)(j:Nat):(h.put b o).get j=if j=b then some o else h.get j:=T.get_put _ _ _ _ _ (top_deep hb)
theorem H.get_kill{h:H}{b:Nat}(hb:b<top)(j:Nat):(h.kill b).get j=if j=b then none else h.get j:=T.get_put _ _ _ _ _ (top_deep hb)
theorem H.get_new{h h':H}{o:Ob}{b:Nat}(e:h.new o=some (b,h')):b=h.next∧b<top∧h'.next=h.next+1∧∀j,h'.get j=if j=b then some o else h.get j:=by
 unfold H.new at e
 split at e
 .rename_i hb
  have hlt:h.next<top:=by rw[Nat.blt_eq] at hb;exact hb
  cases e
  exact⟨rfl,hlt,rfl,fun j=>T.get_put _ _ _ _ _ (top_deep hlt)⟩
 .cases e
end Go.Ev
namespace Go.Ren
section
class Fr where
 fid:FuncId→FuncId
 mid:String→String
instance(priority:=low) frId:Fr:=⟨fun g=>g,fun n=>n⟩
def wildB:Value→Bool
 |.func .. | .pointer (some _)|.slice (some _) _ _|.map (some _)|.chan (some _)|.iface ..=>true
 |_=>false
class Mps where
 maps:Bool
instance(priority:=low) mpsAll:Mps:=⟨true⟩
class Ext [Mps] where
 ext:TypeId→Value→Value
 wild:∀t v,wildB (ext t v)=true
 none:Mps.maps=true→∀t v,ext t v=.iface t v
instance(priority:=low) noExt[Mps]:Ext:=⟨fun t v=>.iface t v,fun _ _=>rfl,fun _ _ _=>rfl⟩
def tyTop:Nat:=1000000000000
def ifv[Mps][Ext](t:TypeId)(v v':Value):Value:=if t<tyTop then .iface t v' else Ext.ext t v
theorem ifv_lt[Mps][Ext]{t:TypeId}(h:t<tyTop)(v v':Value):ifv t v v'=.iface t v':=if_pos h
theorem ifv_no[Mps](t:TypeId)(v:Value):ifv t v v=.iface t v:=by unfold ifv;split<;>rfl
theorem ifv_wild[Mps][Ext](t:TypeId)(v v':Value):wildB (ifv t v v')=true:=by
 unfold ifv
 split
 .rfl
 .exact Ext.wild t v
theorem wild_cells{v:Value}(h:wildB v=true):v.cells=#[v]:=by
 cases v<;>first|rfl|cases h
theorem ifv_agg[Mps][Ext]{t:TypeId}{v v':Value}{c:Array Value}(h:ifv t v v'=.agg c):False:=by
 have h1:=ifv_wild t v v'
 rw[h] at h1;cases h1
section
variable[Mps][Fr][Ext]
def addr(f:Nat→Nat)(a:Addr):Addr:=⟨f a.block,a.off,a.spot⟩
def fn(f:Nat→Nat):Fn→Fn
 |.yield l=>.yield (f l)
 |.func g=>.func (Fr.fid g)
 |.via t p g b=>.via t p (Fr.fid g) b
 |.method n=>.method (Fr.mid n)
 |.methodOf t n=>.methodOf t (Fr.mid n)
def val(f:Nat→Nat):Value→Value
 |.pointer a=>.pointer (a.map (addr f))
 |.slice a l c=>.slice (a.map (addr f)) l c
 |.map r=>.map (r.map f)
 |.chan r=>.chan (r.map f)
 |.func g first captured=>.func (fn f g) (first.attach.map fun x=>val f x.1) (captured.attach.map fun x=>val f x.1)
 |.iface t v=>ifv t v (val f v)
 |.agg cs=>.agg (cs.attach.map fun x=>val f x.1)
 |.tuple vs=>.tuple (vs.attach.map fun x=>val f x.1)
 |.bool b=>.bool b
 |.int k n=>.int k n
 |.float k b=>.float k b
 |.complex k a b=>.complex k a b
 |.string s=>.string s
 |.nilFunc=>.nilFunc
 |.nilIface=>.nilIface
termination_by v=>SizeOf.sizeOf v
decreasing_by
 all_goals first
  |(have h:=Array.sizeOf_lt_of_mem x.2;simp only[Value.func.sizeOf_spec,Value.agg.sizeOf_spec,Value.tuple.sizeOf_spec];omega)
  |(simp only[Value.iface.sizeOf_spec];omega)
def vals(f:Nat→Nat)(vs:Array Value):Array Value:=vs.map (val f)
@[simp] theorem val_bool (f:Nat→Nat) (b:Bool):val f (.bool b)=.bool b:=by simp[val]
@[simp] theorem val_int (f:Nat→Nat) (k:IntKind) (n:Int):val f (.int k n)=.int k n:=by simp[val]
@[simp] theorem val_float (f:Nat→Nat) (k:FloatKind) (n:Nat):val f (.float k n)=.float k n:=by simp[val]
@[simp] theorem val_complex (f:Nat→Nat) (k:FloatKind) (n m:Nat):val f (.complex k n m)=.complex k n m:=by simp[val]
@[simp] theorem val_string (f:Nat→Nat) (s:ByteArray):val f (.string s)=.string s:=by simp[val]
@[simp] theorem val_pointer (f:Nat→Nat) (a:Option Addr):val f (.pointer a)=.pointer (a.map (addr f)):=by simp[val]
@[simp] theorem val_slice (f:Nat→Nat) (a:Option Addr) (l c:Nat):val f (.slice a l c)=.slice (a.map (addr f)) l c:=by simp[val]
@[simp] theorem val_map (f:Nat→Nat) (r:Option Nat):val f (.map r)=.map (r.map f):=by simp[val]
@[simp] theorem val_chan (f:Nat→Nat) (r:Option Nat):val f (.chan r)=.chan (r.map f):=by simp[val]
@[simp] theorem val_nilFunc (f:Nat→Nat):val f .nilFunc=.nilFunc:=by simp[val]
@[simp] theorem val_nilIface (f:Nat→Nat):val f .nilIface=.nilIface:=by simp[val]
@[simp] theorem val_iface (f:Nat→Nat) (t:TypeId) (v:Value):val f (.iface t v)=ifv t v (val f v):=by simp[val]
@[simp] theorem val_agg (f:Nat→Nat) (cs:Array Value):val f (.agg cs)=.agg (vals f cs):=by
 simp only[val,vals];congr 1;exact Array.attach_map_val cs (val f)
@[simp] theorem val_tuple (f:Nat→Nat) (cs:Array Value):val f (.tuple cs)=.tuple (vals f cs):=by
 simp only[val,vals];congr 1;exact Array.attach_map_val cs (val f)
@[simp] theorem val_func (f:Nat→Nat) (g:Fn) (a b:Array Value):val f (.func g a b)=.func (fn f g) (vals f a) (vals f b):=by
 simp only[val,vals];congr 1<;>exact Array.attach_map_val _ (val f)
@[simp] theorem vals_size (f:Nat→Nat) (vs:Array Value):(vals f vs).size=vs.size:=by simp[vals]
@[simp] theorem vals_get? (f:Nat→Nat) (vs:Array Value) (i:Nat):(vals f vs)[i]?=vs[i]?.map (val f):=by simp[vals]
theorem cells_val(f:Nat→Nat)(v:Value):(val f v).cells=vals f v.cells:=by
 cases v with
 |iface t x=>rw[val_iface,wild_cells (ifv_wild t x _)];simp[Value.cells,vals]
 |_=>simp[Value.cells,vals]
def mark(f:Nat→Nat):Mark→Mark
 |.acquire a=>.acquire (addr f a)
 |.release a=>.release (addr f a)
 |.releaseMerge a=>.releaseMerge (addr f a)
 |.read a=>.read (addr f a)
 |.write a=>.write (addr f a)
 |.disable=>.disable
 |.enable=>.enable
 |.extern g=>.extern g
 |.noRoom=>.noRoom
def loc(f:Nat→Nat):Loc→Loc
 |.cell a=>.cell (addr f a)
 |.obj r=>.obj (f r)
 |.mark m=>.mark (mark f m)
 |.output=>.output
 |.goroutines=>.goroutines
def event(f:Nat→Nat)(e:Event):Event:=⟨loc f e.loc,e.write,e.sync⟩
def target(f:Nat→Nat):Target→Target
 |.fn g c=>.fn (fn f g) (vals f c)
 |.nil=>.nil
 |.builtin b a t c=>.builtin b a t c
 |.collected r=>.collected (f r)
 |.coroexit c=>.coroexit (f c)
def deferred(f:Nat→Nat)(d:Deferred):Deferred:=⟨target f d.target,vals f d.args⟩
def loop(f:Nat→Nat)(l:Loop):Loop:={l with tmps:=vals f l.tmps,defers:=f l.defers}
def entry(f:Nat→Nat)(e:MapEntry):MapEntry:={e with key:=val f e.key,val:=val f e.val}
def plain:Obj→Bool
 |.cells .. | .loop _|.deferred _|.map .. | .number .. | .mapIter .. | .stringIter ..=>true
 |_=>false
def obj(f:Nat→Nat):Obj→Obj
 |.cells c e fr=>.cells (vals f c) e fr
 |.loop l=>.loop (loop f l)
 |.deferred d=>.deferred (d.map (·.map (deferred f)))
 |.map es c=>.map (es.map (entry f)) c
 |.number a l=>.number (addr f a) l
 |.mapIter m s q l=>.mapIter (m.map f) s q l
 |o=>o
def goneB:Obj→Bool
 |.cells c _ _=>c.isEmpty
 |_=>false
def awayB:Obj→Bool
 |.map .. | .stringIter .. | .mapIter .. | .loop _|.deferred _|.coro _|.finalizers ..=>true
 |_=>false
def Stands(f:Nat→Nat)(o o':Obj):Prop:=
 match o with
 |.cells c e fr=>∃c' fr',o'=.cells c' e fr'∧(c.isEmpty=false→c'=vals f c∧∀x,(fr'.1≤x∧x<fr'.2)→(fr.1≤x∧x<fr.2))
 |.chan ..=>∃cap b c s r tm,o'=.chan cap b c s r tm
 |.coro _=>awayB o'=true
 |o=>plain o=true∧o'=obj f o
structure Kd where
 code:Code→Prop
 tgt:Target→Prop
 fn:FuncId→Prop
def GoodObj(K:Kd):Obj→Prop
 |.loop l=>K.code l.assign∧K.code l.body∧∀c,l.pending=some c→K.code c
 |.deferred (some ds)=>∀d∈ds,K.tgt d.target
 |_=>True
structure Sim(f:Nat→Nat)(K:Kd)(v w:World):Prop where
 good:∀(b:Nat) (o:Obj),v.heap[b]?=some o→GoodObj K o
 block:∀b o,v.heap[b]?=some o→∃o',w.heap[f b]?=some o'∧Stands f o o'
end
def Still[Mps][Fr][Ext]:Prop:=((∀g,Fr.fid g=g)∧∀n,Fr.mid n=n)∧∀t v,Ext.ext t v=.iface t v
theorem ext_id[Mps]{i:Ext}(h:∀t v,Ext.ext t v=.iface t v):i=noExt:=by
 obtain⟨x,y,z⟩:=i
 have e:x=fun t v=>.iface t v:=funext fun t=>funext (h t)
 subst e;rfl
theorem fr_id[Mps]{i:Fr}{j:Ext}(h:Still):i=frId:=by
 obtain⟨x,y⟩:=i
 have e:x=fun g=>g:=funext h.1.1
 have e':y=fun n=>n:=funext h.1.2
 subst e e';rfl
variable[Mps]
theorem addr_id(a:Addr):addr id a=a:=rfl
theorem fn_id(g:Fn):fn id g=g:=by cases g<;>rfl
theorem oaddr_id(a:Option Addr):a.map (addr id)=a:=by cases a<;>rfl
theorem arr_id{g:Value→Value}(vs:Array Value)(h:∀v∈vs,g v=v):vs.map g=vs:=by
 have:=Array.map_congr_left (f:=g) (g:=id) h
 rw[this];exact Array.map_id vs
theorem val_id:∀v:Value,val id v=v
 |.pointer a=>by simp[oaddr_id]
 |.slice a l c=>by simp[oaddr_id]
 |.map r=>by simp
 |.chan r=>by simp
 |.func g a b=>by
  rw[val_func,fn_id,vals,vals,arr_id a (fun v _=>val_id v),arr_id b (fun v _=>val_id v)]
 |.iface t v=>by rw[val_iface,val_id v,ifv_no]
 |.agg cs=>by rw[val_agg,vals,arr_id cs (fun v _=>val_id v)]
 |.tuple cs=>by rw[val_tuple,vals,arr_id cs (fun v _=>val_id v)]
 |.bool _|.int _ _|.float _ _|.complex _ _ _|.string _|.nilFunc|.nilIface=>by simp
termination_by v=>SizeOf.sizeOf v
decreasing_by
 all_goals first
  |(rename_i h;have h:=Array.sizeOf_lt_of_mem h;simp only[Value.func.sizeOf_spec,Value.agg.sizeOf_spec,Value.tuple.sizeOf_spec];omega)
  |(simp only[Value.iface.sizeOf_spec];omega)
theorem vals_id(vs:Array Value):vals id vs=vs:=arr_id vs fun v _=>val_id v
theorem target_id(t:Target):target id t=t:=by cases t<;>simp[target,fn_id,vals_id]
theorem deferred_id(d:Deferred):deferred id d=d:=by obtain⟨t,as⟩:=d;simp[deferred,target_id,vals_id]
theorem obj_id(o:Obj):obj id o=o:=by
 cases o with
 |cells c e fr=>simp[obj,vals_id]
 |loop l=>obtain⟨⟩:=l;simp[obj,loop,vals_id]
 |deferred d=>
  cases d with
  |none=>rfl
  |some ds=>simp[obj,show(deferred id)=id from funext deferred_id]
 |map es c=>
  have:(entry id)=id:=funext fun e=>by obtain⟨⟩:=e;simp[entry,val_id]
  simp[obj,this]
 |number a l=>rfl
 |mapIter m s q l=>cases m<;>rfl
 |_=>rfl
end
section
variable[Mps][Fr][Ext]
def SR(s s':Option (TypeId×Nat)):Prop:=s=s' ∨ ∃e n,s=some (e,0)∧s'=some (e,n)
theorem SR.isSome{s s':Option (TypeId×Nat)}(h:SR s s'):s.isSome=s'.isSome:=by
 rcases h with rfl|⟨e,n,rfl,rfl⟩<;>rfl
def chanB:Obj→Bool
 |.chan .. | .coro _=>true
 |_=>false
def HidSt(o o':Obj):Prop:=(o.isChan=true∧o'.isChan=true)∨((∃x,o=.coro x)∧awayB o'=true)
theorem HidSt.lone{o o':Obj}(h:HidSt o o'):(∃cap b c s r tm,o=.chan cap b c s r tm) ∨ ∃x,o=.coro x:=by
 rcases h with⟨h,_⟩|⟨h,_⟩
 .cases o<;>first|(cases h;done)|exact .inl ⟨_,_,_,_,_,_,rfl⟩
 .exact .inr h
theorem HidSt.isChan{o o':Obj}(h:HidSt o o'):o.isChan=o'.isChan:=by
 rcases h with⟨h1,h2⟩|⟨⟨x,rfl⟩,h⟩
 .rw[h1,h2]
 .cases o'<;>first|rfl|(cases h;done)
theorem HidSt.refl{o:Obj}(h:chanB o=true):HidSt o o:=by
 cases o<;>first|(cases h;done)|exact .inl ⟨rfl,rfl⟩|exact .inr ⟨⟨_,rfl⟩,rfl⟩
theorem HidSt.notCells{o o':Obj}(h:HidSt o o'):∀c e fr,o'≠.cells c e fr:=fun c e fr e1=>by
 subst e1
 rcases h with⟨_,h2⟩|⟨_,h⟩
 .cases h2
 .cases h
theorem hidSt_of{f:Nat→Nat}{o o':Obj}(hc:chanB o=true)(h:Stands f o o'):HidSt o o':=by
 cases o<;>first|(cases hc;done)|skip
 .obtain⟨_,_,_,_,_,_,rfl⟩:=h
  exact .inl ⟨rfl,rfl⟩
 .exact .inr ⟨⟨_,rfl⟩,h⟩
theorem stands_hid{f:Nat→Nat}{o o':Obj}(h:HidSt o o'):Stands f o o':=by
 rcases h with⟨h1,h2⟩|⟨⟨x,rfl⟩,h⟩
 .cases o<;>first|(cases h1;done)|skip
  cases o'<;>first|(cases h2;done)|exact⟨_,_,_,_,_,_,rfl⟩
 .exact h
def NewOK(o:Obj):Prop:=plain o=true
def NV(K:Kd)(v:World):Prop:=∀(b:Nat) (o:Obj),v.heap[b]?=some o→(chanB o=true∨plain o=true)∧GoodObj K o
def mild:Halt→Bool
 |.panic _|.stuck _|.unsupported _=>true
 |_=>false
def NoInit(h:Halt):Prop:=(∀g,h≠.unsupported (.initOrder g))∧mild h=true
def Dies(P:Program)(K:Kd){α:Type}(s:Sem α):Prop:=∀v es,NV K v→∃h v1 es1,s.runT P v es=(.halt h v1,es1)∧NoInit h∧NV K v1
def Calm(P:Program)(K:Kd){α:Type}(s:Sem α):Prop:=∀v es,NV K v→match s.runT P v es with
 |(.ok _ v1,_)=>NV K v1
 |(.halt h v1,_)=>NoInit h∧NV K v1
inductive SRel (P:Program) (f:Nat→Nat) (K:Kd) {α β:Type} (Q:α→β→Prop):Sem α→Sem β→Prop
 |pure {a:α} {b:β} (h:Q a b):SRel P f K Q (.pure a) (.pure b)
 |load {m:Mode} {a:Addr} {k:Value→Sem α} {k':Value→Sem β} (h:∀v,SRel P f K Q (k v) (k' (val f v))):SRel P f K Q (.load m a k) (.load m (addr f a) k')
 |store {m:Mode} {a:Addr} {v:Value} {k:Sem α} {k':Sem β} (h:SRel P f K Q k k'):SRel P f K Q (.store m a v k) (.store m (addr f a) (val f v) k')
 |new {o o':Obj} {k:Nat→Sem α} {k':Nat→Sem β} (hp:NewOK o) (hk:GoodObj K o) (ho:o'=obj f o) (h:∀r,SRel P f K Q (k r) (k' (f r))):SRel P f K Q (.new o k) (.new o' k')
 |shape {r:Nat} {k:Option (TypeId×Nat)→Sem α} {k':Option (TypeId×Nat)→Sem β} (h:∀s s',SR s s'→SRel P f K Q (k s) (k' s')):SRel P f K Q (.shape r k) (.shape (f r) k')
 |getObj {r:Nat} {k:Obj→Sem α} {k':Obj→Sem β} (h:∀o,plain o=true→GoodObj K o→SRel P f K Q (k o) (k' (obj f o))) (hg:∀o o',HidSt o o'→SRel P f K Q (k o) (k' o')):SRel P f K Q (.getObj r k) (.getObj (f r) k')
 |setObj {r:Nat} {o o':Obj} {k:Sem α} {k':Sem β} (hp:plain o=true) (hk:GoodObj K o) (hc:∀c e fr,o≠.cells c e fr) (ho:o'=obj f o) (h:SRel P f K Q k k'):SRel P f K Q (.setObj r o k) (.setObj (f r) o' k')
 |choose {q:Question} {k:Nat→Sem α} {k':Nat→Sem β} (h:∀n,SRel P f K Q (k n) (k' n)):SRel P f K Q (.choose q k) (.choose q k')
 |program {k:Program→Sem α} {k':Program→Sem β} (h:SRel P f K Q (k P) (k' P)):SRel P f K Q (.program k) (.program k')
 |mark {k:Sem α} {k':Sem β} (h:SRel P f K Q k k'):SRel P f K Q (.mark .noRoom k) (.mark .noRoom k')
 |dies {s:Sem α} {s':Sem β} (h:Dies P K s):SRel P f K Q s s'
variable{P:Program}{f:Nat→Nat}{K:Kd}
theorem runT_bind{α β:Type}(s:Sem α)(g:α→Sem β):∀(v:World) (es:Array Event),(s.bind g).runT P v es=match s.runT P v es with
  |(.ok a v1,es1)=>(g a).runT P v1 es1
  |(.halt h v1,es1)=>(.halt h v1,es1):=by
 induction s with
 |pure a=>intro v es;rfl
 |load m a k ih=>
  intro v es
  simp only[Sem.bind,Sem.runT]
  cases v.cell? a with
  |some y=>exact ih y v _
  |none=>
   cases v.farLoad P a (m==.atomic) with
   |ok r=>exact ih r.1 v _
   |error e=>rfl
 |store m a y k ih=>
  intro v es
  have key:∀y,((match v.cell? a with
    |some _=>if v.frozen? a then(.halt (.unsupported (.unsafePointer "a write to bytes that a string shares")) v,es) else(k.bind g).runT P (v.setCell a y) (es.push ⟨.cell a,true,m==.atomic⟩)
    |none=>match v.farStore P a y (m==.atomic) with
     |.ok (w,touched)=>(k.bind g).runT P w (es++touched.toArray.map (⟨.cell ·,true,m==.atomic⟩))
     |.error h=>(.halt h v,es)):Result β×Array Event)=match(match v.cell? a with
    |some _=>if v.frozen? a then(.halt (.unsupported (.unsafePointer "a write to bytes that a string shares")) v,es) else k.runT P (v.setCell a y) (es.push ⟨.cell a,true,m==.atomic⟩)
    |none=>match v.farStore P a y (m==.atomic) with
     |.ok (w,touched)=>k.runT P w (es++touched.toArray.map (⟨.cell ·,true,m==.atomic⟩))
     |.error h=>(.halt h v,es):Result α×Array Event) with
   |(.ok a v1,es1)=>(g a).runT P v1 es1
   |(.halt h v1,es1)=>(.halt h v1,es1):=fun y=>by
   cases v.cell? a with
   |some z=>cases v.frozen? a<;>simp[ih]
   |none=>
    cases v.farStore P a y (m==.atomic) with
    |ok r=>exact ih r.1 _
    |error e=>rfl
  cases y<;>simp only[Sem.bind,Sem.runT]<;>exact key _
 |new o k ih=>intro v es;exact ih _ _ _
 |shape r k ih=>intro v es;exact ih _ _ _
 |freeze a n k ih=>intro v es;exact ih _ _
 |frozen a k ih=>intro v es;exact ih _ _ _
 |getObj r k ih=>
  intro v es
  simp only[Sem.bind,Sem.runT]
  cases v.heap[r]? with
  |none=>rfl
  |some o=>cases o<;>first|rfl|exact ih _ _ _
 |setObj r o k ih=>
  intro v es
  simp only[Sem.bind,Sem.runT]
  cases v.heap[r]? with
  |none=>rfl
  |some o=>cases o<;>first|rfl|exact ih _ _
 |choose q k ih=>
  intro v es
  simp only[Sem.bind,Sem.runT]
  cases q.forced<;>exact ih _ _ _
 |sys c k ih=>intro v es;exact ih _ _ _
 |program k ih=>intro v es;exact ih _ _ _
 |mark m k ih=>intro v es;exact ih _ _
 |halt h=>intro v es;rfl
theorem SRel.halt{α β:Type}{Q:α→β→Prop}{h:Halt}{s':Sem β}(hn:NoInit h):SRel P f K Q (.halt h) s':=.dies fun v es hv=>⟨h,v,es,rfl,hn,hv⟩
theorem SRel.mono{α β:Type}{Q Q':α→β→Prop}{s:Sem α}{s':Sem β}(h:SRel P f K Q s s')(hq:∀a b,Q a b→Q' a b):SRel P f K Q' s s':=by
 induction h with
 |pure h=>exact .pure (hq _ _ h)
 |load _ ih=>exact .load ih
 |store _ ih=>exact .store ih
 |new hp hk ho _ ih=>exact .new hp hk ho ih
 |shape _ ih=>exact .shape ih
 |getObj _ _ ih ih2=>exact .getObj ih ih2
 |setObj hp hk hc ho _ ih=>exact .setObj hp hk hc ho ih
 |choose _ ih=>exact .choose ih
 |program _ ih=>exact .program ih
 |mark _ ih=>exact .mark ih
 |dies h=>exact .dies h
theorem SRel.bind{α β γ δ:Type}{Q:α→β→Prop}{Q':γ→δ→Prop}{s:Sem α}{s':Sem β}{g:α→Sem γ}{g':β→Sem δ}(h:SRel P f K Q s s')(hg:∀a b,Q a b→SRel P f K Q' (g a) (g' b)):SRel P f K Q' (s.bind g) (s'.bind g'):=by
 induction h with
 |pure h=>exact hg _ _ h
 |load _ ih=>exact .load ih
 |store _ ih=>exact .store ih
 |new hp hk ho _ ih=>exact .new hp hk ho ih
 |shape _ ih=>exact .shape ih
 |getObj _ _ ih ih2=>exact .getObj ih ih2
 |setObj hp hk hc ho _ ih=>exact .setObj hp hk hc ho ih
 |choose _ ih=>exact .choose ih
 |program _ ih=>exact .program ih
 |mark _ ih=>exact .mark ih
 |dies h=>
  exact .dies fun v es hv=>by
   obtain⟨x,v1,es1,h1,h2⟩:=h v es hv
   exact⟨x,v1,es1,by rw[runT_bind,h1],h2⟩
def Inj(f:Nat→Nat):Prop:=∀a b,f a=f b→a=b
structure Le(v v1:World):Prop where
 size:v.heap.size≤v1.heap.size
 drawn:v.drawn≤v1.drawn
 same:v1={v with heap:=v1.heap,drawn:=v1.drawn}
theorem Le.refl(v:World):Le v v:=⟨Nat.le_refl _,Nat.le_refl _,rfl⟩
theorem Le.trans{a b c:World}(h:Le a b)(h':Le b c):Le a c:=⟨Nat.le_trans h.size h'.size,Nat.le_trans h.drawn h'.drawn,by rw[h'.same,h.same]⟩
theorem Le.tape{v v1:World}(h:Le v v1):v1.tape=v.tape:=by rw[h.same]
def Shut(o:Obj):Prop:=∃c e hi,o=.cells c e (0,hi)∧c.size≤hi
def EvOK(v:World)(e:Event):Prop:=
 match e.loc with
 |.cell a=>∃o,v.heap[a.block]?=some o∧goneB o=false∧(e.write=true→¬Shut o)∧chanB o=false
 |.obj r=>∃o,v.heap[r]?=some o∧goneB o=false∧(∀c e fr,o≠.cells c e fr)∧(chanB o=true→e.write=false)∧(o.isChan=true→e.sync=true)
 |.mark m=>m=.noRoom
 |_=>False
structure Grows(v v':World):Prop where
 size:v.heap.size≤v'.heap.size
 gone:∀(b:Nat) (o:Obj),v.heap[b]?=some o→goneB o=true→v'.heap[b]?=some o
 live:∀(b:Nat) (o:Obj),v.heap[b]?=some o→goneB o=false→∃o',v'.heap[b]?=some o'∧goneB o'=false∧((∀c e fr,o≠.cells c e fr)→(∀c e fr,o'≠.cells c e fr))∧(Shut o'→Shut o)
 shut:∀(b:Nat) (o:Obj),v.heap[b]?=some o→Shut o→v'.heap[b]?=some o
 noChan:∀(b:Nat) (o:Obj),v.heap[b]?=some o→chanB o=false→∃o',v'.heap[b]?=some o'∧chanB o'=false
 noIs:∀(b:Nat) (o:Obj),v.heap[b]?=some o→o.isChan=false→∃o',v'.heap[b]?=some o'∧o'.isChan=false
theorem Grows.chan{v v':World}(h:Grows v v'){b:Nat}{o o':Obj}(hb:v.heap[b]?=some o)(hb':v'.heap[b]?=some o')(hc:chanB o'=true):chanB o=true:=by
 cases hx:chanB o with
 |true=>rfl
 |false=>
  obtain⟨o2,h1,h2⟩:=h.noChan b o hb hx
  rw[hb'] at h1
  rw[Option.some.inj h1,h2] at hc
  cases hc
theorem Grows.is{v v':World}(h:Grows v v'){b:Nat}{o o':Obj}(hb:v.heap[b]?=some o)(hb':v'.heap[b]?=some o')(hc:o'.isChan=true):o.isChan=true:=by
 cases hx:o.isChan with
 |true=>rfl
 |false=>
  obtain⟨o2,h1,h2⟩:=h.noIs b o hb hx
  rw[hb'] at h1
  rw[Option.some.inj h1,h2] at hc
  cases hc
theorem setCell_get(w:World)(a:Addr)(x:Value)(b:Nat):(w.setCell a x).heap[b]?=if b=a.block then(w.heap[b]?).map (fun|.cells c elem frozen=>.cells (if a.spot.isSome then c else c.setIfInBounds a.off x) elem frozen|o=>o) else w.heap[b]?:=by
 simp only[World.setCell,Array.getElem?_modify]
 by_cases h:b=a.block
 .subst h;simp;rfl
 .rw[if_neg h,if_neg (fun e=>h e.symm)]
theorem cell_of(w:World)(a:Addr)(x:Value)(h:w.cell? a=some x):∃c e fr,w.heap[a.block]?=some (.cells c e fr)∧a.spot=none∧c[a.off]?=some x:=by
 unfold World.cell? at h
 split at h
 .rename_i c e fr hb
  by_cases hs:a.spot.isSome
  .simp[hs] at h
  .simp[hs] at h
   exact⟨c,e,fr,hb,by simpa using hs,h⟩
 .simp at h
theorem frozen_of(w:World)(a:Addr){c:Array Value}{e:TypeId}{fr:Nat×Nat}(h:w.heap[a.block]?=some (.cells c e fr)):w.frozen? a=(decide (fr.1≤a.off)&&decide (a.off<fr.2)):=by
 obtain⟨lo,hi⟩:=fr
 simp[World.frozen?,h]
theorem Grows.refl(v:World):Grows v v:=⟨Nat.le_refl _,fun _ _ h _=>h,fun _ o h hg=>⟨o,h,hg,fun h=>h,fun h=>h⟩,fun _ _ h _=>h,fun _ o h hg=>⟨o,h,hg⟩,fun _ o h hg=>⟨o,h,hg⟩⟩
theorem Grows.trans{a b c:World}(h:Grows a b)(h':Grows b c):Grows a c:=by
 refine⟨Nat.le_trans h.size h'.size,fun i o hi hg=>h'.gone i o (h.gone i o hi hg) hg,fun i o hi hg=>?_,fun i o hi hs=>h'.shut i o (h.shut i o hi hs) hs,fun i o hi hc=>by obtain⟨o',h1,h2⟩:=h.noChan i o hi hc;exact h'.noChan i o' h1 h2,fun i o hi hc=>by obtain⟨o',h1,h2⟩:=h.noIs i o hi hc;exact h'.noIs i o' h1 h2⟩
 obtain⟨o',h1,h2,h3,h4⟩:=h.live i o hi hg
 obtain⟨o'',h5,h6,h7,h8⟩:=h'.live i o' h1 h2
 exact⟨o'',h5,h6,fun x=>h7 (h3 x),fun x=>h4 (h8 x)⟩
theorem EvOK.grows{v v':World}{e:Event}(h:EvOK v e)(g:Grows v v'):EvOK v' e:=by
 unfold EvOK at *
 cases hl:e.loc<;>simp only[hl] at h⊢
 .obtain⟨o,h1,h2,h3,h8⟩:=h
  obtain⟨o',h4,h5,_,h7⟩:=g.live _ o h1 h2
  obtain⟨o2,h9,h10⟩:=g.noChan _ o h1 h8
  rw[h4] at h9
  exact⟨o',h4,h5,fun hw hs=>h3 hw (h7 hs),by rw[Option.some.inj h9];exact h10⟩
 .obtain⟨o,h1,h2,h3,h8,h9⟩:=h
  obtain⟨o',h4,h5,h6,_⟩:=g.live _ o h1 h2
  exact⟨o',h4,h5,h6 h3,fun hc=>h8 (g.chan h1 h4 hc),fun hc=>h9 (g.is h1 h4 hc)⟩
 .exact h
def Keeps(f:Nat→Nat)(v w w':World):Prop:=
 ∀b':Nat,b'<w.heap.size→(∀(b:Nat) (o:Obj),v.heap[b]?=some o→f b=b'→goneB o=true∨Shut o)→w'.heap[b']?=w.heap[b']?
end
section
variable[Mps][Fr][Ext]{P:Program}{f:Nat→Nat}{K:Kd}{v w:World}
theorem Sim.noView(h:Sim f K v w){b:Nat}{o:Obj}(hb:v.heap[b]?=some o):∀a t,o≠.view a t:=by
 rintro a t rfl
 obtain⟨o',_,h2⟩:=h.block b _ hb
 simp[Stands,plain] at h2
theorem farLoad_err(h:Sim f K v w)(a:Addr)(at_:Bool):∃e,v.farLoad P a at_=.error e:=by
 unfold World.farLoad
 split
 .rename_i p u hb
  exact absurd rfl (h.noView hb p u)
 .exact⟨_,rfl⟩
theorem farStore_err(h:Sim f K v w)(a:Addr)(x:Value)(at_:Bool):∃e,v.farStore P a x at_=.error e:=by
 unfold World.farStore
 split
 .rename_i p u hb
  exact absurd rfl (h.noView hb p u)
 .exact⟨_,rfl⟩
theorem ne_gone{c:Array Value}{e:TypeId}{fr:Nat×Nat}{i:Nat}{x:Value}(h:c[i]?=some x):goneB (.cells c e fr)=false:=by
 simp only[goneB]
 have:=(Array.getElem?_eq_some_iff.1 h).1
 simp only[Array.isEmpty,decide_eq_false_iff_not];omega
theorem Sim.row(h:Sim f K v w){b:Nat}{c:Array Value}{e:TypeId}{fr:Nat×Nat}(hb:v.heap[b]?=some (.cells c e fr))(hg:goneB (.cells c e fr)=false):∃fr',w.heap[f b]?=some (.cells (vals f c) e fr')∧∀x,(fr'.1≤x∧x<fr'.2)→(fr.1≤x∧x<fr.2):=by
 obtain⟨o',h1,c',fr',rfl,h2⟩:=h.block b _ hb
 obtain⟨rfl,h3⟩:=h2 hg
 exact⟨fr',h1,h3⟩
theorem Sim.shape(h:Sim f K v w)(r:Nat)(hr:r<v.heap.size):SR (v.shape? r) (w.shape? (f r)):=by
 obtain⟨o,ho⟩:∃o,v.heap[r]?=some o:=⟨_,Array.getElem?_eq_getElem hr⟩
 obtain⟨o',h1,h2⟩:=h.block r o ho
 unfold World.shape?
 rw[ho,h1]
 cases o with
 |cells c e fr=>
  obtain⟨c',fr',rfl,h3⟩:=h2
  cases hc:c.isEmpty with
  |true=>
   have:c.size=0:=by simpa[Array.isEmpty] using hc
   exact .inr ⟨e,c'.size,by simp[this],rfl⟩
  |false=>
   obtain⟨rfl,_⟩:=h3 hc
   exact .inl (by simp)
 |chan cap b c s r tm=>obtain⟨cap',b',c',s',r',tm',rfl⟩:=h2;exact .inl rfl
 |coro x=>
  have h2:awayB o'=true:=h2
  cases o'<;>first|(cases h2;done)|exact .inl rfl
 |_=>first|(obtain⟨_,rfl⟩:=h2;exact .inl rfl)|(obtain⟨h3,_⟩:=h2;cases h3)
theorem Sim.cell(h:Sim f K v w){a:Addr}{x:Value}(hc:v.cell? a=some x):w.cell? (addr f a)=some (val f x):=by
 obtain⟨c,e,fr,hb,hs,hx⟩:=cell_of v a x hc
 obtain⟨fr',h1,_⟩:=h.row hb (ne_gone hx)
 simp[World.cell?,addr,h1,hs,hx]
theorem Sim.thawed(h:Sim f K v w){a:Addr}{x:Value}(hc:v.cell? a=some x)(hf:v.frozen? a=false):w.frozen? (addr f a)=false:=by
 obtain⟨c,e,fr,hb,hs,hx⟩:=cell_of v a x hc
 obtain⟨fr',h1,h2⟩:=h.row hb (ne_gone hx)
 rw[frozen_of v a hb] at hf
 rw[frozen_of w (addr f a) h1]
 by_cases hh:fr'.1≤a.off∧a.off<fr'.2
 .have:=h2 a.off hh
  simp[this] at hf
 .simp only[addr]
  by_cases h3:fr'.1≤a.off
  .have h4:¬a.off<fr'.2:=fun y=>hh ⟨h3,y⟩
   simp[h4]
  .simp[h3]
theorem vals_set(f:Nat→Nat)(c:Array Value)(i:Nat)(y:Value):vals f (c.setIfInBounds i y)=(vals f c).setIfInBounds i (val f y):=by
 simp[vals,Array.map_setIfInBounds]
theorem Sim.store(h:Sim f K v w)(hf:Inj f){a:Addr}{x:Value}(y:Value)(hc:v.cell? a=some x)(hz:v.frozen? a=false):Sim f K (v.setCell a y) (w.setCell (addr f a) (val f y))∧Grows v (v.setCell a y)∧Keeps f v w (w.setCell (addr f a) (val f y))∧EvOK v ⟨.cell a,true,false⟩∧(v.setCell a y).heap.size=v.heap.size∧(w.setCell (addr f a) (val f y)).heap.size=w.heap.size:=by
 obtain⟨c,e,fr,hb,hs,hx⟩:=cell_of v a x hc
 obtain⟨fr',h1,h2⟩:=h.row hb (ne_gone hx)
 have hg:=ne_gone (e:=e) (fr:=fr) hx
 have hlt:a.off<c.size:=(Array.getElem?_eq_some_iff.1 hx).1
 have hnew:(v.setCell a y).heap[a.block]?=some (.cells (c.setIfInBounds a.off y) e fr):=by rw[setCell_get,if_pos rfl,hb];simp[hs]
 have hnew':(w.setCell (addr f a) (val f y)).heap[f a.block]?=some (.cells ((vals f c).setIfInBounds a.off (val f y)) e fr'):=by
  rw[setCell_get,show f a.block=(addr f a).block from rfl,if_pos rfl];rw[show(addr f a).block=f a.block from rfl,h1];simp[addr,hs]
 have hng:goneB (Obj.cells (c.setIfInBounds a.off y) e fr)=false:=by
  simp only[goneB,Array.isEmpty,Array.size_setIfInBounds,decide_eq_false_iff_not];omega
 have hns:∀c',¬Shut (.cells c' e fr)∨c'.size≠c.size:=by
  intro c'
  by_cases hsz:c'.size=c.size
  .refine .inl ?_
   rintro⟨c2,e2,hi,h3,h4⟩
   simp only[Obj.cells.injEq] at h3
   obtain⟨rfl,rfl,rfl⟩:=h3
   rw[frozen_of v a hb] at hz
   simp at hz
   omega
  .exact .inr hsz
 refine⟨⟨fun b o ho=>?_,fun b o ho=>?_⟩,⟨by simp[World.setCell],fun b o hb' hg'=>?_,fun b o hb' hg'=>?_,fun b o hb' hsh=>?_,fun b o hb' hch=>?_,fun b o hb' hch=>?_⟩,fun b' hb' hh=>?_,?_,by simp[World.setCell],by simp[World.setCell]⟩
 .by_cases hba:b=a.block
  .subst hba
   rw[hnew] at ho
   obtain rfl:=Option.some.inj ho
   trivial
  .rw[setCell_get,if_neg hba] at ho
   exact h.good b o ho
 .by_cases hba:b=a.block
  .subst hba
   rw[hnew] at ho
   obtain rfl:=Option.some.inj ho
   exact⟨_,hnew',_,fr',rfl,fun _=>⟨by rw[vals_set],h2⟩⟩
  .rw[setCell_get,if_neg hba] at ho
   obtain⟨o',h4,h5⟩:=h.block b o ho
   .refine⟨o',?_,h5⟩
    rw[setCell_get,if_neg (show ¬f b=(addr f a).block from fun e=>hba (hf _ _ e))]
    exact h4
 .by_cases hba:b=a.block
  .subst hba;rw[hb] at hb';obtain rfl:=Option.some.inj hb';rw[hg] at hg';cases hg'
  .rw[setCell_get,if_neg hba];exact hb'
 .by_cases hba:b=a.block
  .subst hba;rw[hb] at hb';obtain rfl:=Option.some.inj hb'
   refine⟨_,hnew,hng,fun x=>absurd rfl (x _ _ _),fun x=>?_⟩
   rcases hns (c.setIfInBounds a.off y) with h6|h6
   .exact absurd x h6
   .simp at h6
  .exact⟨o,by rw[setCell_get,if_neg hba];exact hb',hg',fun x=>x,fun x=>x⟩
 .by_cases hba:b=a.block
  .subst hba;rw[hb] at hb';obtain rfl:=Option.some.inj hb'
   rcases hns c with h6|h6
   .exact absurd hsh h6
   .exact absurd rfl h6
  .rw[setCell_get,if_neg hba];exact hb'
 .by_cases hba:b=a.block
  .subst hba
   exact⟨_,hnew,rfl⟩
  .exact⟨o,by rw[setCell_get,if_neg hba];exact hb',hch⟩
 .by_cases hba:b=a.block
  .subst hba
   exact⟨_,hnew,rfl⟩
  .exact⟨o,by rw[setCell_get,if_neg hba];exact hb',hch⟩
 .rw[setCell_get]
  split
  .rename_i e1
   rcases hh a.block _ hb e1.symm with h6|h6
   .rw[hg] at h6;cases h6
   .rcases hns c with h7|h7
    .exact absurd h6 h7
    .exact absurd rfl h7
  .rfl
 .refine⟨_,hb,hg,fun _ h6=>?_,rfl⟩
  rcases hns c with h7|h7
  .exact absurd h6 h7
  .exact absurd rfl h7
theorem stands_obj(f:Nat→Nat){o:Obj}(hp:NewOK o):Stands f o (obj f o):=by
 have hp:plain o=true:=hp
 cases o with
 |cells c e fr=>exact⟨_,_,rfl,fun _=>⟨rfl,fun x h=>h⟩⟩
 |chan=>cases hp
 |coro=>cases hp
 |_=>exact⟨hp,rfl⟩
theorem Sim.new(h:Sim f K v w){o:Obj}(hp:NewOK o)(hk:GoodObj K o)(hn:f v.heap.size=w.heap.size):Sim f K {v with heap:=v.heap.push o} {w with heap:=w.heap.push (obj f o)}:=by
 refine⟨fun b o' ho=>?_,fun b o' ho=>?_⟩
 .simp only[Array.getElem?_push] at ho
  split at ho
  .obtain rfl:=Option.some.inj ho;exact hk
  .exact h.good b o' ho
 simp only[Array.getElem?_push] at ho
 split at ho
 .rename_i hb
  obtain rfl:=Option.some.inj ho
  exact⟨obj f o,by subst hb;simp[hn],stands_obj f hp⟩
 .rename_i hb
  obtain⟨o2,h4,h5⟩:=h.block b o' ho
  .refine⟨o2,?_,h5⟩
   have:f b<w.heap.size:=(Array.getElem?_eq_some_iff.1 h4).1
   simp only[Array.getElem?_push]
   rw[if_neg (by omega)];exact h4
theorem Grows.new(v:World)(o:Obj):Grows v {v with heap:=v.heap.push o}:=by
 have key:∀(b:Nat) (o':Obj),v.heap[b]?=some o'→(v.heap.push o)[b]?=some o':=fun b o' hb=>by
  have:b<v.heap.size:=(Array.getElem?_eq_some_iff.1 hb).1
  simp only[Array.getElem?_push];rw[if_neg (by omega)];exact hb
 exact⟨by simp,fun b o' hb _=>key b _ hb,fun b o' hb hg=>⟨o',key b _ hb,hg,fun x=>x,fun x=>x⟩,fun b o' hb _=>key b _ hb,fun b o' hb hc=>⟨o',key b _ hb,hc⟩,fun b o' hb hc=>⟨o',key b _ hb,hc⟩⟩
theorem keeps_new(f:Nat→Nat)(v w:World)(o:Obj):Keeps f v w {w with heap:=w.heap.push o}:=fun b' hb' _=>by
 simp only[Array.getElem?_push];rw[if_neg (by omega)]
theorem Sim.setObj(h:Sim f K v w)(hf:Inj f){r:Nat}{o old:Obj}(hp:plain o=true)(hk:GoodObj K o)(hc:∀c e fr,o≠.cells c e fr)(hold:v.heap[r]?=some old)(hoc:∀c e fr,old≠.cells c e fr):Sim f K {v with heap:=v.heap.setIfInBounds r o} {w with heap:=w.heap.setIfInBounds (f r) (obj f o)}∧Grows v {v with heap:=v.heap.setIfInBounds r o}∧Keeps f v w {w with heap:=w.heap.setIfInBounds (f r) (obj f o)}∧(∃old',w.heap[f r]?=some old'∧∀c e fr,old'≠.cells c e fr)∧goneB old=false:=by
 have nr:∀{o:Obj},(∀c e fr,o≠.cells c e fr)→goneB o=false:=fun{o} h=>by cases o<;>first|rfl|exact absurd rfl (h _ _ _)
 have hng:=nr hoc
 have hno:=nr hc
 have hlt:r<v.heap.size:=(Array.getElem?_eq_some_iff.1 hold).1
 obtain⟨old',h1,h2⟩:∃old',w.heap[f r]?=some old'∧∀c e fr,old'≠.cells c e fr:=by
  obtain⟨o',h4,h5⟩:=h.block r _ hold
  refine⟨o',h4,fun c e fr hh=>?_⟩
  subst hh
  cases old with
  |cells=>exact absurd rfl (hoc _ _ _)
  |chan=>obtain⟨_,_,_,_,_,_,h6⟩:=h5;cases h6
  |coro x=>cases (show awayB (.cells c e fr)=true from h5)
  |_=>obtain⟨_,h6⟩:=h5;simp[obj] at h6
 have hlt':f r<w.heap.size:=(Array.getElem?_eq_some_iff.1 h1).1
 have get:∀(b:Nat),(v.heap.setIfInBounds r o)[b]?=if b=r then some o else v.heap[b]?:=fun b=>by
  by_cases hb:b=r
  .subst hb;simp[hlt]
  .rw[if_neg hb,Array.getElem?_setIfInBounds_ne (Ne.symm hb)]
 have get':∀(b:Nat),(w.heap.setIfInBounds (f r) (obj f o))[b]?=if b=f r then some (obj f o) else w.heap[b]?:=fun b=>by
  by_cases hb:b=f r
  .subst hb;simp[hlt']
  .rw[if_neg hb,Array.getElem?_setIfInBounds_ne (Ne.symm hb)]
 have nsh:∀{o:Obj},(∀c e fr,o≠.cells c e fr)→¬Shut o:=fun h ⟨c,e,hi,h',_⟩=>h _ _ _ h'
 refine⟨⟨fun b o' ho=>?_,fun b o' ho=>?_⟩,⟨by simp,fun b o' hb hg=>?_,fun b o' hb hg=>?_,fun b o' hb hs=>?_,fun b o' hb hch=>?_,fun b o' hb hch=>?_⟩,fun b' hb' hh=>?_,⟨old',h1,h2⟩,hng⟩
 .simp only[get] at ho
  split at ho
  .obtain rfl:=Option.some.inj ho;exact hk
  .exact h.good b o' ho
 .simp only[get] at ho
  split at ho
  .rename_i hb;subst hb;obtain rfl:=Option.some.inj ho
   exact⟨obj f o,by simp only[get',if_true],stands_obj f hp⟩
  .rename_i hb
   obtain⟨o2,h4,h5⟩:=h.block b o' ho
   exact⟨o2,by simp only[get'];rw[if_neg (fun e=>hb (hf _ _ e))];exact h4,h5⟩
 .simp only[get]
  split
  .rename_i hb';subst hb';rw[hold] at hb;obtain rfl:=Option.some.inj hb;rw[hng] at hg;cases hg
  .exact hb
 .simp only[get]
  split
  .rename_i hb';subst hb';rw[hold] at hb;obtain rfl:=Option.some.inj hb
   exact⟨o,rfl,hno,fun _=>hc,fun x=>absurd x (nsh hc)⟩
  .exact⟨o',hb,hg,fun x=>x,fun x=>x⟩
 .simp only[get]
  split
  .rename_i hb';subst hb';rw[hold] at hb;obtain rfl:=Option.some.inj hb
   exact absurd hs (nsh hoc)
  .exact hb
 .simp only[get]
  split
  .exact⟨o,rfl,by cases o<;>first|rfl|cases hp⟩
  .exact⟨o',hb,hch⟩
 .simp only[get]
  split
  .exact⟨o,rfl,by cases o<;>first|rfl|cases hp⟩
  .exact⟨o',hb,hch⟩
 .simp only[get']
  split
  .rename_i hb''
   rcases hh r _ hold hb''.symm with h6|h6
   .rw[hng] at h6;cases h6
   .exact absurd h6 (nsh hoc)
  .rfl
end
section
variable[Mps][Fr][Ext]{P:Program}{f:Nat→Nat}{K:Kd}
structure Fresh(f:Nat→Nat)(v v1 w:World):Prop where
 now:∀i,v.heap.size≤i→i<v1.heap.size→f i=w.heap.size+(i-v.heap.size)
 out:∀i,v1.heap.size≤i→w.heap.size+(v1.heap.size-v.heap.size)≤f i
 tape:∀i,v.drawn≤i→i<v1.drawn→w.tape (w.drawn+(i-v.drawn))=v.tape i
def StayCells(w w1:World):Prop:=∀(b:Nat) (c:Array Value) (e:TypeId) (fr:Nat×Nat),w.heap[b]?=some (.cells c e fr)→∃c' fr',w1.heap[b]?=some (.cells c' e fr')
theorem StayCells.refl(w:World):StayCells w w:=fun _ c _ fr h=>⟨c,fr,h⟩
theorem StayCells.trans{a b c:World}(h:StayCells a b)(h':StayCells b c):StayCells a c:=fun x y e fr hx=>by
 obtain⟨_,_,h1⟩:=h x y e fr hx
 exact h' x _ e _ h1
theorem StayCells.of{w w1:World}(h:w1.heap=w.heap):StayCells w w1:=fun _ c _ fr hx=>⟨c,fr,by rw[h];exact hx⟩
theorem StayCells.store(w:World)(a:Addr)(x:Value):StayCells w (w.setCell a x):=fun b c e fr h=>by
 rw[setCell_get]
 split
 .rw[h];exact⟨_,_,rfl⟩
 .exact⟨c,fr,h⟩
theorem StayCells.push(w:World)(o:Obj):StayCells w {w with heap:=w.heap.push o}:=fun b c e fr h=>by
 have:b<w.heap.size:=(Array.getElem?_eq_some_iff.1 h).1
 exact⟨c,fr,by simp only[Array.getElem?_push];rw[if_neg (by omega)];exact h⟩
theorem StayCells.set(w:World)(r:Nat)(o:Obj)(h0:∀c e fr,w.heap[r]? ≠ some (.cells c e fr)):StayCells w {w with heap:=w.heap.setIfInBounds r o}:=fun b c e fr h=>by
 refine⟨c,fr,?_⟩
 show(w.heap.setIfInBounds r o)[b]?=_
 rw[Array.getElem?_setIfInBounds_ne (fun e1=>by subst e1;exact h0 _ _ _ h)]
 exact h
def StayChans(w w1:World):Prop:=∀(b:Nat) (o:Obj),w.heap[b]?=some o→o.isChan=true→∃o',w1.heap[b]?=some o'∧o'.isChan=true
theorem StayChans.refl(w:World):StayChans w w:=fun _ o h hc=>⟨o,h,hc⟩
theorem StayChans.trans{a b c:World}(h:StayChans a b)(h':StayChans b c):StayChans a c:=fun x o hx hc=>by
 obtain⟨o1,h1,h2⟩:=h x o hx hc
 exact h' x o1 h1 h2
theorem StayChans.of{w w1:World}(h:w1.heap=w.heap):StayChans w w1:=fun _ o hx hc=>⟨o,by rw[h];exact hx,hc⟩
structure Over(f:Nat→Nat)(K:Kd)(v w v1 w1:World):Prop where
 sim:Sim f K v1 w1
 grows:Grows v v1
 keeps:Keeps f v w w1
 size:w1.heap.size=w.heap.size+(v1.heap.size-v.heap.size)
 le:Le v v1
 right:Le w w1
 drawn:w1.drawn=w.drawn+(v1.drawn-v.drawn)
 exact:f=id→Still→v.heap=w.heap→v1.heap=w1.heap
 chan:∀(b:Nat) (o o1:Obj),v.heap[b]?=some o→v1.heap[b]?=some o1→chanB o1=true→v1.heap[b]?=v.heap[b]? ∧ w1.heap[f b]?=w.heap[f b]?
 cells:StayCells w w1
 fresh:∀(b:Nat) (o:Obj),v.heap.size≤b→v1.heap[b]?=some o→chanB o=false
theorem plain_chan{o:Obj}(h:plain o=true):chanB o=false:=by cases o<;>first|rfl|(cases h;done)
theorem fresh_same{v v1:World}(h:v1.heap.size=v.heap.size):∀(b:Nat) (o:Obj),v.heap.size≤b→v1.heap[b]?=some o→chanB o=false:=fun b o hb ho=>by
 have:=(Array.getElem?_eq_some_iff.1 ho).1
 omega
theorem Over.refl{v w:World}(h:Sim f K v w):Over f K v w v w:=⟨h,.refl v,fun _ _ _=>rfl,by omega,.refl v,.refl w,by omega,fun _ _ h=>h,fun _ _ _ _ _ _=>⟨rfl,rfl⟩,.refl w,fresh_same rfl⟩
theorem chan_store(hf:Inj f){v w:World}(a:Addr)(x y:Value){z:Value}(hc:v.cell? a=some z):∀(b:Nat) (o o1:Obj),v.heap[b]?=some o→(v.setCell a x).heap[b]?=some o1→chanB o1=true→(v.setCell a x).heap[b]?=v.heap[b]? ∧ (w.setCell (addr f a) y).heap[f b]?=w.heap[f b]?:=fun b o o1 hb h1 h2=>by
 obtain⟨c,e,fr,hb0,_,_⟩:=cell_of v a z hc
 by_cases e1:b=a.block
 .subst e1
  rw[setCell_get,if_pos rfl,hb0] at h1
  obtain rfl:=Option.some.inj h1
  cases h2
 .exact⟨by rw[setCell_get,if_neg e1],by rw[setCell_get,if_neg (show ¬f b=(addr f a).block from fun e=>e1 (hf _ _ e))]⟩
theorem chan_new{v w:World}(h:Sim f K v w)(o2 o3:Obj):∀(b:Nat) (o o1:Obj),v.heap[b]?=some o→(v.heap.push o2)[b]?=some o1→chanB o1=true→(v.heap.push o2)[b]?=v.heap[b]? ∧ (w.heap.push o3)[f b]?=w.heap[f b]?:=fun b o o1 hb h1 h2=>by
 have hlt:b<v.heap.size:=(Array.getElem?_eq_some_iff.1 hb).1
 obtain⟨o',h4,_⟩:=h.block b o hb
 have hlt':f b<w.heap.size:=(Array.getElem?_eq_some_iff.1 h4).1
 constructor
 .simp only[Array.getElem?_push];rw[if_neg (by omega)]
 .simp only[Array.getElem?_push];rw[if_neg (by omega)]
theorem chan_set(hf:Inj f){v w:World}(r:Nat)(o2 o3:Obj)(hp:plain o2=true):∀(b:Nat) (o o1:Obj),v.heap[b]?=some o→(v.heap.setIfInBounds r o2)[b]?=some o1→chanB o1=true→(v.heap.setIfInBounds r o2)[b]?=v.heap[b]? ∧ (w.heap.setIfInBounds (f r) o3)[f b]?=w.heap[f b]?:=fun b o o1 hb h1 h2=>by
 by_cases e1:b=r
 .subst e1
  have hlt:b<v.heap.size:=(Array.getElem?_eq_some_iff.1 hb).1
  simp only[Array.getElem?_setIfInBounds,if_true,hlt] at h1
  obtain rfl:=Option.some.inj h1
  cases o2<;>first|(cases h2;done)|(cases hp;done)
 .exact⟨Array.getElem?_setIfInBounds_ne (Ne.symm e1),Array.getElem?_setIfInBounds_ne (fun e=>e1 (hf _ _ e.symm))⟩
theorem Over.trans{v w v1 w1 v2 w2:World}(h:Over f K v w v1 w1)(h':Over f K v1 w1 v2 w2)(hf:Fresh f v v2 w):Over f K v w v2 w2:=by
 have g1:=h.grows.size
 have g2:=h'.grows.size
 have s1:=h.size
 have s2:=h'.size
 have d1:=h.drawn
 have d2:=h'.drawn
 have l1:=h.le.drawn
 have l2:=h'.le.drawn
 refine⟨h'.sim,h.grows.trans h'.grows,fun b' hb' hh=>?_,by omega,h.le.trans h'.le,h.right.trans h'.right,by omega,fun e1 e0 e2=>h'.exact e1 e0 (h.exact e1 e0 e2),fun b o o2 hb hb2 hc2=>by
  have hlt:b<v1.heap.size:=by have:=(Array.getElem?_eq_some_iff.1 hb).1;omega
  have hb1:v1.heap[b]?=some v1.heap[b]:=Array.getElem?_eq_getElem hlt
  obtain⟨e1,e2⟩:=h'.chan b _ o2 hb1 hb2 hc2
  have hc1:chanB v1.heap[b]=true:=by
   rw[hb2,hb1] at e1
   rw[←Option.some.inj e1];exact hc2
  obtain⟨e3,e4⟩:=h.chan b o _ hb hb1 hc1
  exact⟨e1.trans e3,e2.trans e4⟩,h.cells.trans h'.cells,fun b o2 hb ho2=>by
  by_cases hlt:b<v1.heap.size
  .have hb1:v1.heap[b]?=some v1.heap[b]:=Array.getElem?_eq_getElem hlt
   have h0:=h.fresh b _ hb hb1
   obtain⟨o3,h3,h4⟩:=h'.grows.noChan b _ hb1 h0
   rw[ho2] at h3
   rw[Option.some.inj h3];exact h4
  .exact h'.fresh b o2 (by omega) ho2⟩
 rw[h'.keeps b' (by omega) (fun b o hb e=>?_),h.keeps b' hb' hh]
 by_cases hlt:b<v.heap.size
 .obtain⟨o0,ho0⟩:∃o0,v.heap[b]?=some o0:=⟨_,Array.getElem?_eq_getElem hlt⟩
  rcases hh b o0 ho0 e with h3|h3
  .have:=h.grows.gone b o0 ho0 h3
   rw[this] at hb
   exact .inl (Option.some.inj hb▸h3)
  .have:=h.grows.shut b o0 ho0 h3
   rw[this] at hb
   exact .inr (Option.some.inj hb▸h3)
 .have hb1:b<v1.heap.size:=(Array.getElem?_eq_some_iff.1 hb).1
  have:=hf.now b (by omega) (by omega)
  omega
theorem Fresh.right{v v1 v2 w w1:World}(h:Fresh f v v2 w)(ho:Over f K v w v1 w1)(hl:Le v1 v2):Fresh f v1 v2 w1:=by
 have g1:=ho.grows.size
 have s1:=ho.size
 have hg:=hl.size
 have l1:=ho.le.drawn
 have d1:=ho.drawn
 refine⟨fun i h1 h2=>?_,fun i h1=>?_,fun i h1 h2=>?_⟩
 .have:=h.now i (by omega) h2;omega
 .have:=h.out i h1;omega
 .have:=h.tape i (by omega) h2
  rw[ho.le.tape,ho.right.tape,←this]
  congr 1;omega
theorem Fresh.left{v v1 v2 w:World}(h:Fresh f v v2 w)(l1:Le v v1)(l2:Le v1 v2):Fresh f v v1 w:=by
 have h1:=l1.size
 have h2:=l2.size
 refine⟨fun i h3 h4=>h.now i h3 (by omega),fun i h3=>?_,fun i h3 h4=>h.tape i h3 (Nat.lt_of_lt_of_le h4 l2.drawn)⟩
 by_cases hi:i<v2.heap.size
 .have:=h.now i (by omega) hi;omega
 .have:=h.out i (by omega);omega
theorem Fresh.range{v v1 w:World}(h:Fresh f v v1 w)(i:Nat)(hi:v.heap.size≤i):w.heap.size≤f i:=by
 by_cases h1:i<v1.heap.size
 .have:=h.now i hi h1;omega
 .have:=h.out i (by omega);omega
theorem mem_push{α:Type}{es:Array α}{e:α}{p:α→Prop}(h:∀x∈es,p x)(he:p e):∀x∈es.push e,p x:=fun x hx=>by
 rcases Array.mem_push.1 hx with h1|rfl
 .exact h x h1
 .exact he
def one:Value→Bool
 |.agg _|.tuple _=>false
 |_=>true
theorem one_wild{y:Value}(h:wildB y=true):one y=true:=by cases y<;>first|rfl|cases h
theorem one_val(f:Nat→Nat)(y:Value):one (val f y)=one y:=by
 cases y with
 |iface t v=>rw[val_iface,one_wild (ifv_wild t v _)];rfl
 |_=>simp[one]
theorem runT_store_of{α:Type}{m:Mode}{a:Addr}{y:Value}{k:Sem α}{v w:World}(hs:Sim f K v w){es es1:Array Event}{x:α}{v1:World}(h:(Sem.store m a y k).runT P v es=(.ok x v1,es1)):one y=true∧(∃z,v.cell? a=some z)∧v.frozen? a=false∧k.runT P (v.setCell a y) (es.push ⟨.cell a,true,m==.atomic⟩)=(.ok x v1,es1):=by
 cases hc:v.cell? a with
 |none=>
  obtain⟨e,he⟩:=farStore_err (P:=P) hs a y (m==.atomic)
  cases y<;>simp[Sem.runT,hc,he] at h
 |some z=>
  cases hz:v.frozen? a with
  |true=>cases y<;>simp[Sem.runT,hc,hz] at h
  |false=>
   cases y<;>simp only[Sem.runT,hc,hz,Bool.false_eq_true,if_false] at h<;>first|exact⟨rfl,⟨z,rfl⟩,rfl,h⟩|(simp at h)
theorem runT_store_mk{α:Type}{m:Mode}{a:Addr}{y z:Value}{k:Sem α}{w:World}{es:Array Event}(h1:one y=true)(hc:w.cell? a=some z)(hz:w.frozen? a=false):(Sem.store m a y k).runT P w es=k.runT P (w.setCell a y) (es.push ⟨.cell a,true,m==.atomic⟩):=by
 cases y<;>simp[one] at h1<;>simp[Sem.runT,hc,hz]
theorem Sim.nv{v w:World}(h:Sim f K v w):NV K v:=fun b o hb=>by
 obtain⟨o',_,h2⟩:=h.block b o hb
 refine⟨?_,h.good b o hb⟩
 cases o with
 |cells=>exact .inr rfl
 |chan=>exact .inl rfl
 |coro=>exact .inl rfl
 |_=>exact .inr h2.1
theorem NV.noView{v:World}(h:NV K v){b:Nat}{o:Obj}(hb:v.heap[b]?=some o):∀a t,o≠.view a t:=by
 rintro a t rfl
 rcases(h b _ hb).1 with h|h<;>cases h
theorem NV.farLoad{v:World}(h:NV K v)(a:Addr)(at_:Bool):∃e,v.farLoad P a at_=.error e:=by
 unfold World.farLoad
 split
 .rename_i p u hb
  exact absurd rfl (h.noView hb p u)
 .exact⟨_,rfl⟩
theorem NV.farStore{v:World}(h:NV K v)(a:Addr)(x:Value)(at_:Bool):∃e,v.farStore P a x at_=.error e:=by
 unfold World.farStore
 split
 .rename_i p u hb
  exact absurd rfl (h.noView hb p u)
 .exact⟨_,rfl⟩
theorem NV.setCell{v:World}(h:NV K v)(a:Addr)(x:Value):NV K (v.setCell a x):=fun b o hb=>by
 rw[setCell_get] at hb
 split at hb
 .cases ho:v.heap[b]? with
  |none=>rw[ho] at hb;cases hb
  |some o0=>
   rw[ho] at hb
   have:=h _ _ ho
   cases o0<;>simp only[Option.map_some,Option.some.injEq] at hb<;>subst hb<;>first|exact⟨.inr rfl,trivial⟩|exact this
 .exact h b o hb
theorem SRel.left{α β:Type}{Q:α→β→Prop}{s:Sem α}{s':Sem β}(h:SRel P f K Q s s'):∀{v:World} {es:Array Event},NV K v→∀{a:α} {v1:World} {es1:Array Event},s.runT P v es=(.ok a v1,es1)→Le v v1∧NV K v1∧∃b,Q a b:=by
 induction h with
 |pure h=>
  intro v es hv a v1 es1 hr
  simp only[Sem.runT,Prod.mk.injEq,Result.ok.injEq] at hr
  obtain⟨⟨rfl,rfl⟩,rfl⟩:=hr
  exact⟨.refl _,hv,_,h⟩
 |@load m a k k' _ ih=>
  intro v es hv x v1 es1 hr
  simp only[Sem.runT] at hr
  cases hc:v.cell? a with
  |none=>
   obtain⟨e,he⟩:=hv.farLoad (P:=P) a (m==.atomic)
   simp[hc,he] at hr
  |some y=>simp only[hc] at hr;exact ih y hv hr
 |@store m a y k k' _ ih=>
  intro v es hv x v1 es1 hr
  cases hc:v.cell? a with
  |none=>
   obtain⟨e,he⟩:=hv.farStore (P:=P) a y (m==.atomic)
   cases y<;>simp[Sem.runT,hc,he] at hr
  |some z=>
   have hn:NV K (v.setCell a y):=hv.setCell a y
   cases hz:v.frozen? a with
   |true=>cases y<;>simp[Sem.runT,hc,hz] at hr
   |false=>
    have hr':k.runT P (v.setCell a y) (es.push ⟨.cell a,true,m==.atomic⟩)=(.ok x v1,es1):=by
     cases y<;>simp only[Sem.runT,hc,hz,Bool.false_eq_true,if_false] at hr<;>first|exact hr|(simp at hr)
    obtain⟨h1,h2⟩:=ih hn hr'
    exact⟨(⟨by simp[World.setCell],Nat.le_refl _,rfl⟩:Le v (v.setCell a y)).trans h1,h2⟩
 |@new o o' k k' hp hk ho _ ih=>
  intro v es hv x v1 es1 hr
  simp only[Sem.runT] at hr
  have hn:NV K {v with heap:=v.heap.push o}:=fun b o2 hb=>by
   simp only[Array.getElem?_push] at hb
   split at hb
   .obtain rfl:=Option.some.inj hb;exact⟨.inr hp,hk⟩
   .exact hv b o2 hb
  obtain⟨h1,h2⟩:=ih _ hn hr
  exact⟨(⟨by simp,Nat.le_refl _,rfl⟩:Le v {v with heap:=v.heap.push o}).trans h1,h2⟩
 |@shape r k k' _ ih=>
  intro v es hv x v1 es1 hr
  simp only[Sem.runT] at hr
  exact ih _ _ (.inl rfl) hv hr
 |@getObj r k k' _ _ ih ih2=>
  intro v es hv x v1 es1 hr
  simp only[Sem.runT] at hr
  split at hr
  .simp at hr
  .rename_i o _ ho
   obtain⟨hv1,hgo⟩:=hv r o ho
   rcases hv1 with h|h
   .exact ih2 o o (.refl h) hv hr
   .exact ih _ h hgo hv hr
  .simp at hr
 |@setObj r o o' k k' hp hgd hc ho _ ih=>
  intro v es hv x v1 es1 hr
  simp only[Sem.runT] at hr
  split at hr
  .simp at hr
  .have hn:NV K {v with heap:=v.heap.setIfInBounds r o}:=fun b o2 hb=>by
    simp only[Array.getElem?_setIfInBounds] at hb
    split at hb
    .split at hb
     .obtain rfl:=Option.some.inj hb;exact⟨.inr hp,hgd⟩
     .cases hb
    .exact hv b o2 hb
   obtain⟨h1,h2⟩:=ih hn hr
   exact⟨(⟨by simp,Nat.le_refl _,rfl⟩:Le v {v with heap:=v.heap.setIfInBounds r o}).trans h1,h2⟩
  .simp at hr
 |@choose q k k' _ ih=>
  intro v es hv x v1 es1 hr
  simp only[Sem.runT] at hr
  split at hr
  .exact ih _ hv hr
  .obtain⟨h1,h2⟩:=ih _ (v:={v with drawn:=v.drawn+1}) hv hr
   exact⟨(⟨Nat.le_refl _,Nat.le_succ _,rfl⟩:Le v {v with drawn:=v.drawn+1}).trans h1,h2⟩
 |program _ ih=>
  intro v es hv x v1 es1 hr
  simp only[Sem.runT] at hr
  exact ih hv hr
 |@mark k k' _ ih=>
  intro v es hv x v1 es1 hr
  simp only[Sem.runT] at hr
  exact ih hv hr
 |dies h=>
  intro v es hv x v1 es1 hr
  obtain⟨_,_,_,h1,_⟩:=h v es hv
  rw[h1] at hr;simp at hr
theorem SRel.size{α β:Type}{Q:α→β→Prop}{s:Sem α}{s':Sem β}(h:SRel P f K Q s s'){v:World}{es:Array Event}(hv:NV K v){a:α}{v1:World}{es1:Array Event}(hr:s.runT P v es=(.ok a v1,es1)):Le v v1:=(h.left hv hr).1
theorem NV.noCell{v:World}(h:NV K v)(a:Addr)(what:String):NoInit (v.noCell a what):=by
 unfold World.noCell
 split
 .rename_i c e hb
  have:=(h _ _ hb).1
  rcases this with h|h<;>cases h
 .exact⟨fun g e=>(by cases e),rfl⟩
 .exact⟨fun g e=>(by cases e),rfl⟩
theorem NV.farLoad'{v:World}(h:NV K v)(a:Addr)(at_:Bool):∃e,v.farLoad P a at_=.error e∧NoInit e:=by
 unfold World.farLoad
 split
 .rename_i p u hb
  exact absurd rfl (h.noView hb p u)
 .exact⟨_,rfl,h.noCell a _⟩
theorem NV.farStore'{v:World}(h:NV K v)(a:Addr)(x:Value)(at_:Bool):∃e,v.farStore P a x at_=.error e∧NoInit e:=by
 unfold World.farStore
 split
 .rename_i p u hb
  exact absurd rfl (h.noView hb p u)
 .exact⟨_,rfl,h.noCell a _⟩
theorem SRel.noInit{α β:Type}{Q:α→β→Prop}{s:Sem α}{s':Sem β}(h:SRel P f K Q s s'):∀{v:World} {es:Array Event},NV K v→∀{x:Halt} {v1:World} {es1:Array Event},s.runT P v es=(.halt x v1,es1)→NoInit x∧NV K v1:=by
 induction h with
 |pure h=>intro v es hv x v1 es1 hr;simp[Sem.runT] at hr
 |@load m a k k' _ ih=>
  intro v es hv x v1 es1 hr
  simp only[Sem.runT] at hr
  cases hc:v.cell? a with
  |none=>
   obtain⟨e,he,hn⟩:=hv.farLoad' (P:=P) a (m==.atomic)
   simp only[hc,he,Prod.mk.injEq,Result.halt.injEq] at hr
   exact⟨hr.1.1▸hn,hr.1.2▸hv⟩
  |some y=>simp only[hc] at hr;exact ih y hv hr
 |@store m a y k k' _ ih=>
  intro v es hv x v1 es1 hr
  cases hc:v.cell? a with
  |none=>
   obtain⟨e,he,hn⟩:=hv.farStore' (P:=P) a y (m==.atomic)
   cases y<;>simp only[Sem.runT,hc,he,Prod.mk.injEq,Result.halt.injEq] at hr<;>first|exact⟨hr.1.1▸hn,hr.1.2▸hv⟩|exact⟨(by rw[←hr.1.1];exact⟨fun g e=>(by cases e),rfl⟩),hr.1.2▸hv⟩
  |some z=>
   cases hz:v.frozen? a with
   |true=>cases y<;>simp only[Sem.runT,hc,hz,if_true,Prod.mk.injEq,Result.halt.injEq] at hr<;>exact⟨(by rw[←hr.1.1];exact⟨fun g e=>(by cases e),rfl⟩),hr.1.2▸hv⟩
   |false=>
    cases y<;>simp only[Sem.runT,hc,hz,Bool.false_eq_true,if_false] at hr<;>first|exact ih (hv.setCell a _) hr|(simp only[Prod.mk.injEq,Result.halt.injEq] at hr;exact⟨(by rw[←hr.1.1];exact⟨fun g e=>(by cases e),rfl⟩),hr.1.2▸hv⟩)
 |@new o o' k k' hp hk ho _ ih=>
  intro v es hv x v1 es1 hr
  simp only[Sem.runT] at hr
  have hn:NV K {v with heap:=v.heap.push o}:=fun b o2 hb=>by
   simp only[Array.getElem?_push] at hb
   split at hb
   .obtain rfl:=Option.some.inj hb;exact⟨.inr hp,hk⟩
   .exact hv b o2 hb
  exact ih _ hn hr
 |@shape r k k' _ ih=>
  intro v es hv x v1 es1 hr
  simp only[Sem.runT] at hr
  exact ih _ _ (.inl rfl) hv hr
 |@getObj r k k' _ _ ih ih2=>
  intro v es hv x v1 es1 hr
  simp only[Sem.runT] at hr
  split at hr
  .simp only[Prod.mk.injEq,Result.halt.injEq] at hr;exact⟨(by rw[←hr.1.1];exact⟨fun g e=>(by cases e),rfl⟩),hr.1.2▸hv⟩
  .rename_i o _ ho
   obtain⟨hv1,hgo⟩:=hv r o ho
   rcases hv1 with h|h
   .exact ih2 o o (.refl h) hv hr
   .exact ih _ h hgo hv hr
  .simp only[Prod.mk.injEq,Result.halt.injEq] at hr;exact⟨(by rw[←hr.1.1];exact⟨fun g e=>(by cases e),rfl⟩),hr.1.2▸hv⟩
 |@setObj r o o' k k' hp hgd hc ho _ ih=>
  intro v es hv x v1 es1 hr
  simp only[Sem.runT] at hr
  split at hr
  .simp only[Prod.mk.injEq,Result.halt.injEq] at hr;exact⟨(by rw[←hr.1.1];exact⟨fun g e=>(by cases e),rfl⟩),hr.1.2▸hv⟩
  .have hn:NV K {v with heap:=v.heap.setIfInBounds r o}:=fun b o2 hb=>by
    simp only[Array.getElem?_setIfInBounds] at hb
    split at hb
    .split at hb
     .obtain rfl:=Option.some.inj hb;exact⟨.inr hp,hgd⟩
     .cases hb
    .exact hv b o2 hb
   exact ih hn hr
  .simp only[Prod.mk.injEq,Result.halt.injEq] at hr;exact⟨(by rw[←hr.1.1];exact⟨fun g e=>(by cases e),rfl⟩),hr.1.2▸hv⟩
 |@choose q k k' _ ih=>
  intro v es hv x v1 es1 hr
  simp only[Sem.runT] at hr
  split at hr
  .exact ih _ hv hr
  .exact ih _ (v:={v with drawn:=v.drawn+1}) hv hr
 |program _ ih=>
  intro v es hv x v1 es1 hr
  simp only[Sem.runT] at hr
  exact ih hv hr
 |@mark k k' _ ih=>
  intro v es hv x v1 es1 hr
  simp only[Sem.runT] at hr
  exact ih hv hr
 |dies h=>
  intro v es hv x v1 es1 hr
  obtain⟨_,_,_,h1,h2⟩:=h v es hv
  rw[h1] at hr
  simp only[Prod.mk.injEq,Result.halt.injEq] at hr
  exact⟨hr.1.1▸h2.1,hr.1.2▸h2.2⟩
theorem SRel.runT{α β:Type}{Q:α→β→Prop}{s:Sem α}{s':Sem β}(h:SRel P f K Q s s')(hf:Inj f):∀{v w:World} {es:Array Event},Sim f K v w→(∀e∈es,EvOK v e)→∀{a:α} {v1:World} {es1:Array Event},s.runT P v es=(.ok a v1,es1)→Fresh f v v1 w→∃b w1,s'.runT P w (es.map (event f))=(.ok b w1,es1.map (event f))∧Q a b∧Over f K v w v1 w1∧(∀e∈es1,EvOK v1 e):=by
 induction h with
 |pure h=>
  intro v w es hs hes a v1 es1 hr hfr
  simp only[Sem.runT,Prod.mk.injEq,Result.ok.injEq] at hr
  obtain⟨⟨rfl,rfl⟩,rfl⟩:=hr
  exact⟨_,_,rfl,h,.refl hs,hes⟩
 |@load m a k k' _ ih=>
  intro v w es hs hes x v1 es1 hr hfr
  simp only[Sem.runT] at hr⊢
  cases hc:v.cell? a with
  |none=>
   obtain⟨e,he⟩:=farLoad_err (P:=P) hs a (m==.atomic)
   simp[hc,he] at hr
  |some y=>
   simp only[hc] at hr
   simp only[hs.cell hc]
   obtain⟨c,ty,fr,hb,_,hx⟩:=cell_of v a y hc
   have he:EvOK v ⟨.cell a,false,m==.atomic⟩:=⟨_,hb,ne_gone hx,fun h=>(by cases h),rfl⟩
   have:=ih y hs (mem_push hes he) hr hfr
   simpa[event,loc] using this
 |@store m a y k k' hk0 ih=>
  intro v w es hs hes x v1 es1 hr hfr
  obtain⟨h1,⟨z,hc⟩,hz,hr⟩:=runT_store_of hs hr
  obtain⟨hs',hg,hk,he,hv,hw⟩:=hs.store hf y hc hz
  have he':EvOK (v.setCell a y) ⟨.cell a,true,m==.atomic⟩:=EvOK.grows (e:=⟨.cell a,true,m==.atomic⟩) he hg
  rw[runT_store_mk (by rw[one_val];exact h1) (hs.cell hc) (hs.thawed hc hz)]
  have hov:Over f K v w (v.setCell a y) (w.setCell (addr f a) (val f y)):=⟨hs',hg,hk,by omega,⟨by omega,Nat.le_refl _,rfl⟩,⟨by omega,Nat.le_refl _,rfl⟩,by simp[World.setCell],fun e1 e0 e2=>by subst e1;obtain rfl:=fr_id e0;obtain rfl:=ext_id e0.2;simp[World.setCell,val_id,addr_id,e2],chan_store hf a y _ hc,.store w _ _,fresh_same (by simp[World.setCell])⟩
  obtain⟨b,w1,h2,h3,h4,h5⟩:=ih hs' (mem_push (fun e h=>(hes e h).grows hg) he') hr (hfr.right hov (hk0.size hs'.nv hr))
  exact⟨b,w1,by simpa[event,loc] using h2,h3,hov.trans h4 hfr,h5⟩
 |@new o o' k k' hp hgd ho hk ih=>
  intro v w es hs hes x v1 es1 hr hfr
  subst ho
  simp only[Sem.runT] at hr⊢
  have hn:NV K {v with heap:=v.heap.push o}:=fun b o2 hb=>by
   simp only[Array.getElem?_push] at hb
   split at hb
   .obtain rfl:=Option.some.inj hb;exact⟨.inr hp,hgd⟩
   .exact hs.nv b o2 hb
  have hle:=(hk v.heap.size).size hn hr
  have hsz:=hle.size
  simp only[Array.size_push] at hsz
  have hf0:f v.heap.size=w.heap.size:=by rw[hfr.now v.heap.size (Nat.le_refl _) (by omega)];omega
  have hov:Over f K v w {v with heap:=v.heap.push o} {w with heap:=w.heap.push (obj f o)}:=
   ⟨hs.new hp hgd hf0,.new v o,keeps_new f v w (obj f o),by simp,⟨by simp,Nat.le_refl _,rfl⟩,⟨by simp,Nat.le_refl _,rfl⟩,by simp,fun e1 e0 e2=>by subst e1;obtain rfl:=fr_id e0;obtain rfl:=ext_id e0.2;simp[obj_id,e2],chan_new hs o _,.push w _,fun b o2 hb ho2=>by
    simp only[Array.getElem?_push] at ho2
    split at ho2
    .obtain rfl:=Option.some.inj ho2;exact plain_chan hp
    .have:=(Array.getElem?_eq_some_iff.1 ho2).1;omega⟩
  obtain⟨b,w1,h2,h3,h4,h5⟩:=ih v.heap.size hov.sim (fun e h=>(hes e h).grows (.new v o)) hr (hfr.right hov hle)
  rw[hf0] at h2
  exact⟨b,w1,h2,h3,hov.trans h4 hfr,h5⟩
 |@shape r k k' hk ih=>
  intro v w es hs hes x v1 es1 hr hfr
  simp only[Sem.runT] at hr⊢
  refine ih _ _ ?_ hs hes hr hfr
  by_cases hlt:r<v.heap.size
  .exact hs.shape r hlt
  .have h1:=hfr.range r (by omega)
   exact .inl (by simp[World.shape?,Array.getElem?_eq_none (Nat.le_of_not_lt hlt),Array.getElem?_eq_none h1])
 |@getObj r k k' _ _ ih ih2=>
  intro v w es hs hes x v1 es1 hr hfr
  simp only[Sem.runT] at hr
  split at hr
  .simp at hr
  .rename_i o hnc ho
   have hoc:∀c e fr,o≠.cells c e fr:=fun c e fr h=>hnc c e fr h
   have hng:goneB o=false:=by cases o<;>first|rfl|exact absurd rfl (hoc _ _ _)
   obtain⟨o',ho',hst⟩:=hs.block r o ho
   have he:EvOK v ⟨.obj r,false,o.isChan⟩:=⟨o,ho,hng,hoc,fun _=>rfl,fun h=>h⟩
   by_cases hch:chanB o=true
   .have hh:=hidSt_of hch hst
    have:=ih2 o o' hh hs (mem_push hes he) hr hfr
    have hnc':=hh.notCells
    have e2:=hh.isChan
    simp only[Sem.runT,ho']
    cases o'<;>first|exact absurd rfl (hnc' _ _ _)|(rw[e2] at this;simpa[event,loc,Obj.isChan] using this)
   .have hpl:plain o=true:=by
     rcases(hs.nv r o ho).1 with h|h
     .exact absurd h hch
     .exact h
    have:=ih o hpl (hs.good r o ho) hs (mem_push hes he) hr hfr
    have e1:o'=obj f o:=by
     cases o<;>first|exact absurd rfl (hoc _ _ _)|exact absurd rfl hch|exact hst.2
    subst e1
    simp only[Sem.runT,ho']
    cases o<;>simp only[plain,Bool.false_eq_true] at hpl<;>first|exact absurd rfl (hoc _ _ _)|simpa[event,loc,obj,Obj.isChan] using this
  .simp at hr
 |@setObj r o o' k k' hp hgd hc ho hk0 ih=>
  intro v w es hs hes x v1 es1 hr hfr
  subst ho
  simp only[Sem.runT] at hr
  split at hr
  .simp at hr
  .rename_i old hnc hold
   have hoc:∀c e fr,old≠.cells c e fr:=fun c e fr h=>hnc c e fr h
   obtain⟨hs',hg,hk,⟨old',h1,h2⟩,hng⟩:=hs.setObj hf hp hgd hc hold hoc
   have hov:Over f K v w {v with heap:=v.heap.setIfInBounds r o} {w with heap:=w.heap.setIfInBounds (f r) (obj f o)}:=⟨hs',hg,hk,by simp,⟨by simp,Nat.le_refl _,rfl⟩,⟨by simp,Nat.le_refl _,rfl⟩,by simp,fun e1 e0 e2=>by subst e1;obtain rfl:=fr_id e0;obtain rfl:=ext_id e0.2;simp[obj_id,e2],chan_set hf r o _ hp,.set w _ _ fun c e fr h=>by rw[h1] at h;exact h2 c e fr (Option.some.inj h),fresh_same (by simp)⟩
   have he:EvOK {v with heap:=v.heap.setIfInBounds r o} ⟨.obj r,true,o.isChan⟩:=by
    have hlt:r<v.heap.size:=(Array.getElem?_eq_some_iff.1 hold).1
    refine⟨o,by simp[hlt],by cases o<;>first|rfl|exact absurd rfl (hc _ _ _),hc,fun h=>?_,fun h=>h⟩
    cases o<;>first|(cases h;done)|(cases hp;done)
   have hch:(obj f o).isChan=o.isChan:=by cases o<;>rfl
   obtain⟨b,w1,h6,h3,h4,h5⟩:=ih hs' (mem_push (fun e h=>(hes e h).grows hg) he) hr (hfr.right hov (hk0.size hs'.nv hr))
   refine⟨b,w1,?_,h3,hov.trans h4 hfr,h5⟩
   rw[←h6]
   simp only[Sem.runT,h1]
   cases old'<;>first|exact absurd rfl (h2 _ _ _)|simp[event,loc,hch]
  .simp at hr
 |@choose q k k' hk0 ih=>
  intro v w es hs hes x v1 es1 hr hfr
  simp only[Sem.runT] at hr⊢
  split
  .rename_i hq
   rw[if_pos hq] at hr
   exact ih _ hs hes hr hfr
  .rename_i hq
   rw[if_neg hq] at hr
   have hle:=(hk0 (q.cut (v.tape v.drawn q))).size (v:={v with drawn:=v.drawn+1}) hs.nv hr
   have hd:=hle.drawn
   have e0:=congrFun (hfr.tape v.drawn (Nat.le_refl _) hd) q
   simp only[Nat.sub_self,Nat.add_zero] at e0
   rw[e0]
   have hov:Over f K v w {v with drawn:=v.drawn+1} {w with drawn:=w.drawn+1}:=⟨⟨hs.good,hs.block⟩,⟨Nat.le_refl _,fun _ _ h _=>h,fun _ o h hg=>⟨o,h,hg,fun h=>h,fun h=>h⟩,fun _ _ h _=>h,fun _ o h hg=>⟨o,h,hg⟩,fun _ o h hg=>⟨o,h,hg⟩⟩,fun _ _ _=>rfl,by simp,⟨Nat.le_refl _,Nat.le_succ _,rfl⟩,⟨Nat.le_refl _,Nat.le_succ _,rfl⟩,by simp,fun _ _ h=>h,fun _ _ _ _ _ _=>⟨rfl,rfl⟩,.of rfl,fresh_same rfl⟩
   obtain⟨b,w1,h2,h3,h4,h5⟩:=ih _ hov.sim hes hr (hfr.right hov hle)
   exact⟨b,w1,h2,h3,hov.trans h4 hfr,h5⟩
 |program _ ih=>
  intro v w es hs hes x v1 es1 hr hfr
  simp only[Sem.runT] at hr⊢
  exact ih hs hes hr hfr
 |@mark k k' _ ih=>
  intro v w es hs hes x v1 es1 hr hfr
  simp only[Sem.runT] at hr⊢
  have:=ih hs (mem_push hes (show EvOK v ⟨.mark .noRoom,false,true⟩ from rfl)) hr hfr
  simpa[event,loc,Ren.mark] using this
 |dies h=>
  intro v w es hs hes x v1 es1 hr hfr
  obtain⟨_,_,_,h1,_⟩:=h v es hs.nv
  rw[h1] at hr;simp at hr
end
end Go.Ren
