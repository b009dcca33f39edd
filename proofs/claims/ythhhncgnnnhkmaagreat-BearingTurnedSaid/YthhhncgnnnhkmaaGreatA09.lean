import Derived.Conc.Fork
import Derived.Fence
import Derived.Test.YthhhncgnnnhkmaaGreatA06
set_option linter.all false
namespace Go.Ren
open Go.Conc
section
variable[Mps][Spc]{P:Program}{S:FuncId→Prop}{K:Kd}
theorem step_awake{g:Goroutine}{v:World}{m1:Machine}(h:g.status=.running)(hs:step P (solo g v)=.next m1)
  (ho:match stepG P true g v with|.go ..=>True|.ended ..=>True|_=>False):∃g1 v1 es,stepG P true g v=.go g1 v1 es∧m1=solo g1 v1:=by
 rw[step,stepT_solo h] at hs
 cases hg:stepG P true g v with
 |go g1 v1 es=>
  rw[runT_solo_go hg] at hs
  simp only[Stepped.next.injEq] at hs
  exact⟨g1,v1,es,rfl,hs.symm⟩
 |ended o v1 es=>simp[runT,solo,Array.swapAt!,Array.swapAt,hg] at hs
 |_=>rw[hg] at ho;exact ho.elim
end
section
variable[M:Mps][Spc]{P:Program}{S:FuncId→Prop}{F F' H H':Fr}{f f' h h':Nat→Nat}{n:Nat}
structure Tells(S:FuncId→Prop)(n:Nat)(F F':Fr)(f f':Nat→Nat):Prop where
 below:∀i,i<n→f i=f' i
 above:∀i,n≤i→f i≠f' i
 other:∀g,¬S g→F.fid g≠F'.fid g
 meth:∀n,F.mid n≠F'.mid n
theorem Tells.lt(t:Tells S n F F' f f'){i:Nat}(h:f i=f' i):i<n:=by
 rcases Nat.lt_or_ge i n with h1|h1
 .exact h1
 .exact absurd h (t.above i h1)
theorem Tells.mem(t:Tells S n F F' f f'){g:FuncId}(h:F.fid g=F'.fid g):S g:=
 Classical.byContradiction fun hs=>t.other g hs h
structure Alike(S:FuncId→Prop)(n:Nat)(F F':Fr)(f f':Nat→Nat):Prop where
 blk:∀i,i<n→f i=f' i
 fid:∀g,S g→F.fid g=F'.fid g
section
variable(F:Fr)(f:Nat→Nat)
theorem x_pointer(a:Option Addr):@val M F noExt f (.pointer a)=.pointer (a.map (addr f)):=@val_pointer M F noExt f a
theorem x_slice(a:Option Addr)(l c:Nat):@val M F noExt f (.slice a l c)=.slice (a.map (addr f)) l c:=@val_slice M F noExt f a l c
theorem x_map(r:Option Nat):@val M F noExt f (.map r)=.map (r.map f):=@val_map M F noExt f r
theorem x_chan(r:Option Nat):@val M F noExt f (.chan r)=.chan (r.map f):=@val_chan M F noExt f r
theorem x_func(g:Fn)(a b:Array Value):@val M F noExt f (.func g a b)=.func (@fn F f g) (a.map (@val M F noExt f)) (b.map (@val M F noExt f)):=@val_func M F noExt f g a b
theorem x_iface(t:TypeId)(v:Value):@val M F noExt f (.iface t v)=.iface t (if t<tyTop then @val M F noExt f v else v):=by rw[@val_iface M F noExt f t v];unfold ifv;split<;>rfl
theorem x_agg(a:Array Value):@val M F noExt f (.agg a)=.agg (a.map (@val M F noExt f)):=@val_agg M F noExt f a
theorem x_tuple(a:Array Value):@val M F noExt f (.tuple a)=.tuple (a.map (@val M F noExt f)):=@val_tuple M F noExt f a
theorem x_bool(b:Bool):@val M F noExt f (.bool b)=.bool b:=@val_bool M F noExt f b
theorem x_int(k:IntKind)(b:Int):@val M F noExt f (.int k b)=.int k b:=@val_int M F noExt f k b
theorem x_float(k:FloatKind)(b:Nat):@val M F noExt f (.float k b)=.float k b:=@val_float M F noExt f k b
theorem x_complex(k:FloatKind)(a b:Nat):@val M F noExt f (.complex k a b)=.complex k a b:=@val_complex M F noExt f k a b
theorem x_string(b:ByteArray):@val M F noExt f (.string b)=.string b:=@val_string M F noExt f b
theorem x_nilFunc:@val M F noExt f .nilFunc=.nilFunc:=@val_nilFunc M F noExt f
theorem x_nilIface:@val M F noExt f .nilIface=.nilIface:=@val_nilIface M F noExt f
end
theorem addr_closed(t:Tells S n F F' f f')(hh:Alike S n H H' h h'){a:Addr}(e:addr f a=addr f' a):addr h a=addr h' a:=by
 simp only[addr,Addr.mk.injEq,and_true] at e⊢
 exact hh.blk _ (t.lt e)
theorem oaddr_closed(t:Tells S n F F' f f')(hh:Alike S n H H' h h'){a:Option Addr}(e:a.map (addr f)=a.map (addr f')):a.map (addr h)=a.map (addr h'):=by
 cases a with
 |none=>rfl
 |some a=>
  simp only[Option.map_some,Option.some.injEq] at e⊢
  exact addr_closed t hh e
theorem onat_closed(t:Tells S n F F' f f')(hh:Alike S n H H' h h'){a:Option Nat}(e:a.map f=a.map f'):a.map h=a.map h':=by
 cases a with
 |none=>rfl
 |some a=>
  simp only[Option.map_some,Option.some.injEq] at e⊢
  exact hh.blk _ (t.lt e)
theorem fn_closed(t:Tells S n F F' f f')(hh:Alike S n H H' h h'){g:Fn}(e:@fn F f g=@fn F' f' g):@fn H h g=@fn H' h' g:=by
 cases g with
 |yield l=>
  have e':f l=f' l:=Fn.yield.inj e
  exact congrArg Fn.yield (hh.blk _ (t.lt e'))
 |func g=>
  have e':F.fid g=F'.fid g:=Fn.func.inj e
  exact congrArg Fn.func (hh.fid _ (t.mem e'))
 |via u p g b=>
  have e':F.fid g=F'.fid g:=(Fn.via.inj e).2.2.1
  exact congrArg (fun x=>Fn.via u p x b) (hh.fid _ (t.mem e'))
 |method n=>exact absurd (Fn.method.inj e) (t.meth n)
 |methodOf u n=>exact absurd (Fn.methodOf.inj e).2 (t.meth n)
theorem val_closed(t:Tells S n F F' f f')(hh:Alike S n H H' h h'):∀x:Value,@val M F noExt f x=@val M F' noExt f' x→@val M H noExt h x=@val M H' noExt h' x
 |.pointer a,e=>by
  simp only[x_pointer,Value.pointer.injEq] at e⊢
  exact oaddr_closed t hh e
 |.slice a l c,e=>by
  simp only[x_slice,Value.slice.injEq,and_true] at e⊢
  exact oaddr_closed t hh e
 |.map r,e=>by
  simp only[x_map,Value.map.injEq] at e⊢
  exact onat_closed t hh e
 |.chan r,e=>by
  simp only[x_chan,Value.chan.injEq] at e⊢
  exact onat_closed t hh e
 |.func g a b,e=>by
  simp only[x_func,Value.func.injEq,Array.map_inj_left] at e⊢
  exact⟨fn_closed t hh e.1,fun x hx=>val_closed t hh x (e.2.1 x hx),fun x hx=>val_closed t hh x (e.2.2 x hx)⟩
 |.iface u x,e=>by
  simp only[x_iface,Value.iface.injEq,true_and] at e⊢
  by_cases ht:u<tyTop
  .rw[if_pos ht,if_pos ht] at e⊢
   exact val_closed t hh x e
  .rw[if_neg ht,if_neg ht]
 |.agg cs,e=>by
  simp only[x_agg,Value.agg.injEq,Array.map_inj_left] at e⊢
  exact fun x hx=>val_closed t hh x (e x hx)
 |.tuple cs,e=>by
  simp only[x_tuple,Value.tuple.injEq,Array.map_inj_left] at e⊢
  exact fun x hx=>val_closed t hh x (e x hx)
 |.bool _,_|.int _ _,_|.float _ _,_|.complex _ _ _,_|.string _,_|.nilFunc,_|.nilIface,_=>by simp only[x_bool,x_int,x_float,x_complex,x_string,x_nilFunc,x_nilIface]
termination_by x=>SizeOf.sizeOf x
decreasing_by
 all_goals first
  |(have h:=Array.sizeOf_lt_of_mem hx;simp only[Value.func.sizeOf_spec,Value.agg.sizeOf_spec,Value.tuple.sizeOf_spec];omega)
  |(simp only[Value.iface.sizeOf_spec];omega)
theorem vals_told(t:Tells S n F F' f f')(hh:Alike S n H H' h h'){vs:Array Value}(e:@vals M F noExt f vs=@vals M F' noExt f' vs):@vals M H noExt h vs=@vals M H' noExt h' vs:=by
 unfold vals at e⊢
 simp only[Array.map_inj_left] at e⊢
 exact fun x hx=>val_closed t hh x (e x hx)
theorem target_closed(t:Tells S n F F' f f')(hh:Alike S n H H' h h'){d:Target}(e:@target M F noExt f d=@target M F' noExt f' d):@target M H noExt h d=@target M H' noExt h' d:=by
 cases d with
 |fn g c=>
  obtain⟨e1,e2⟩:=Target.fn.inj e
  show Target.fn _ _=Target.fn _ _
  rw[fn_closed t hh e1,vals_told t hh e2]
 |collected r=>
  have e1:f r=f' r:=Target.collected.inj e
  exact congrArg Target.collected (hh.blk _ (t.lt e1))
 |coroexit r=>
  have e1:f r=f' r:=Target.coroexit.inj e
  exact congrArg Target.coroexit (hh.blk _ (t.lt e1))
 |_=>rfl
theorem deferred_closed(t:Tells S n F F' f f')(hh:Alike S n H H' h h'){d:Deferred}(e:@deferred M F noExt f d=@deferred M F' noExt f' d):@deferred M H noExt h d=@deferred M H' noExt h' d:=by
 unfold deferred at e⊢
 simp only[Deferred.mk.injEq] at e⊢
 exact⟨target_closed t hh e.1,vals_told t hh e.2⟩
theorem defers_closed(t:Tells S n F F' f f')(hh:Alike S n H H' h h'){ds:List Deferred}(e:ds.map (@deferred M F noExt f)=ds.map (@deferred M F' noExt f')):ds.map (@deferred M H noExt h)=ds.map (@deferred M H' noExt h'):=by
 rw[List.map_inj_left] at e⊢
 exact fun d hd=>deferred_closed t hh (e d hd)
theorem item_closed(t:Tells S n F F' f f')(hh:Alike S n H H' h h'){i:Item}(e:@item M F noExt f i=@item M F' noExt f' i):@item M H noExt h i=@item M H' noExt h' i:=by
 cases i with
 |inRangeFunc l=>have e1:f l=f' l:=Item.inRangeFunc.inj e;exact congrArg Item.inRangeFunc (hh.blk _ (t.lt e1))
 |endRangeFunc l=>have e1:f l=f' l:=Item.endRangeFunc.inj e;exact congrArg Item.endRangeFunc (hh.blk _ (t.lt e1))
 |call d w r s=>
  obtain⟨e1,_,_,e2⟩:=Item.call.inj e
  have a1:=deferred_closed t hh e1
  have a2:=vals_told t hh e2
  show Item.call _ _ _ _=Item.call _ _ _ _
  rw[a1,a2]
 |extern r s=>have e1:=(Item.extern.inj e).2;exact congrArg (Item.extern r) (vals_told t hh e1)
 |_=>rfl
theorem frame_closed(t:Tells S n F F' f f')(hh:Alike S n H H' h h'){fr:Frame}(e:@frame M F noExt f fr=@frame M F' noExt f' fr):@frame M H noExt h fr=@frame M H' noExt h' fr:=by
 unfold frame at e⊢
 simp only[Frame.mk.injEq,true_and] at e⊢
 obtain⟨e1,e2,e3,e4,e5⟩:=e
 refine⟨vals_told t hh e1,?_,defers_closed t hh e3,?_,onat_closed t hh e5⟩
 .rw[List.map_inj_left] at e2⊢
  exact fun i hi=>item_closed t hh (e2 i hi)
 .cases hm:fr.mode with
  |panicking c=>
   rw[hm] at e4
   unfold mode at e4⊢
   simp only[FrameMode.panicking.injEq] at e4⊢
   rw[List.map_inj_left] at e4⊢
   intro p hp
   have:=e4 p hp
   unfold pentry at this⊢
   simp only[PanicEntry.mk.injEq,and_true] at this⊢
   exact val_closed t hh _ this
  |_=>rfl
theorem gor_closed(t:Tells S n F F' f f')(hh:Alike S n H H' h h'){g:Goroutine}(e:@gor M F noExt f g=@gor M F' noExt f' g):@gor M H noExt h g=@gor M H' noExt h' g:=by
 unfold gor at e⊢
 simp only[Goroutine.mk.injEq,and_true] at e⊢
 obtain⟨e1,e2⟩:=e
 refine⟨frame_closed t hh e1,?_⟩
 rw[List.map_inj_left] at e2⊢
 exact fun c hc=>frame_closed t hh (e2 c hc)
theorem obj_closed(t:Tells S n F F' f f')(hh:Alike S n H H' h h'){o:Obj}(e:@obj M F noExt f o=@obj M F' noExt f' o):@obj M H noExt h o=@obj M H' noExt h' o:=by
 cases o with
 |cells c e1 fr=>
  obtain⟨e2,_⟩:=Obj.cells.inj e
  exact congrArg (fun x=>Obj.cells x e1 fr) (vals_told t hh e2)
 |loop l=>
  have e2:=Obj.loop.inj e
  unfold loop at e2
  simp only[Loop.mk.injEq,true_and] at e2
  show Obj.loop _=Obj.loop _
  unfold loop
  rw[vals_told t hh e2.1,hh.blk _ (t.lt e2.2)]
 |deferred d=>
  cases d with
  |none=>rfl
  |some ds=>
   have e2:=Option.some.inj (Obj.deferred.inj e)
   exact congrArg (fun x=>Obj.deferred (some x)) (defers_closed t hh e2)
 |map es c=>
  have e2:=(Obj.map.inj e).1
  simp only[Array.map_inj_left] at e2
  refine congrArg (fun x=>Obj.map x c) ?_
  simp only[Array.map_inj_left]
  intro x hx
  have:=e2 x hx
  unfold entry at this⊢
  simp only[MapEntry.mk.injEq,and_true] at this⊢
  exact⟨val_closed t hh _ this.1,val_closed t hh _ this.2⟩
 |number a l=>
  have e2:=(Obj.number.inj e).1
  exact congrArg (fun x=>Obj.number x l) (addr_closed t hh e2)
 |mapIter m s q l=>
  cases m with
  |none=>rfl
  |some r=>
   have e2:=(Obj.mapIter.inj e).1
   simp only[Option.map_some,Option.some.injEq] at e2
   show Obj.mapIter _ s q l=Obj.mapIter _ s q l
   simp only[Option.map_some,hh.blk _ (t.lt e2)]
 |_=>rfl
end
section
variable[M:Mps][Spc]{P:Program}{S:FuncId→Prop}
def Bound(S:FuncId→Prop)(g:Goroutine)(v:World):Prop:=
 ∀(H H':Fr) (h h':Nat→Nat),Alike S v.heap.size H H' h h'→@gor M H noExt h g=@gor M H' noExt h' g∧∀(b:Nat) (o:Obj),v.heap[b]?=some o→@obj M H noExt h o=@obj M H' noExt h' o
def Nm[Spc](S:FuncId→Prop):FuncId→Prop:=fun g=>S g∨Spc.nm g
theorem nm_none(h:∀g,¬Spc.nm g)(S:FuncId→Prop):Nm S=S:=funext fun g=>propext ⟨fun hg=>hg.resolve_right (h g),.inl⟩
def Clean(S:FuncId→Prop)(v:World):Prop:=
 ∀(H H':Fr) (h:Nat→Nat),(∀g,S g→H.fid g=H'.fid g)→∀(b:Nat) (o:Obj),v.heap[b]?=some o→@obj M H noExt h o=@obj M H' noExt h o
theorem Bound.clean{S:FuncId→Prop}{g:Goroutine}{v:World}(h:Bound S g v):Clean S v:=fun H H' e ha=>(h H H' e e ⟨fun _ _=>rfl,ha⟩).2
def lift(n:Nat):Nat→Nat:=fun i=>if i<n then i else i+1
open Classical in
@[reducible] noncomputable def shiftF (S:FuncId→Prop):Fr:=⟨fun g=>if S g then g else g+1,fun n=>if n = "" then "a" else ""⟩
open Classical in
theorem shiftF_in{g:FuncId}(h:S g):(shiftF S).fid g=g:=if_pos h
open Classical in
theorem shiftF_out{g:FuncId}(h:¬S g):(shiftF S).fid g≠g:=by
 show(if S g then g else g+1)≠g
 rw[if_neg h];exact Nat.succ_ne_self g
theorem shiftF_mid(n:String):(shiftF S).mid n≠n:=by
 show(if n = "" then "a" else "")≠n
 by_cases h:n = ""
 .rw[if_pos h,h];decide
 .rw[if_neg h];exact fun e=>h e.symm
theorem lift_inj(n:Nat):Inj (lift n):=fun a b e=>by
 unfold lift at e
 split at e<;>split at e<;>omega
theorem lift_tells(S:FuncId→Prop)(n:Nat):Tells S n frId (shiftF S) (id:Nat→Nat) (lift n):=by
 refine⟨fun i h=>?_,fun i h=>?_,fun g h e=>shiftF_out h e.symm,fun n e=>shiftF_mid n e.symm⟩<;>unfold lift
 .rw[if_pos h];rfl
 .rw[if_neg (by omega)];show i≠i+1;omega
theorem valMet_of{F:Fr}{f:Nat→Nat}{y:Value}(h:@val M F noExt f y=y):@ValMet F y:=by
 cases y with
 |func g a b=>
  rw[x_func] at h
  have e:=(Value.func.inj h).1
  cases g with
  |method n=>exact Fn.method.inj e
  |methodOf t n=>exact(Fn.methodOf.inj e).2
  |_=>trivial
 |_=>trivial
theorem eval_closed{F:Fr}{f:Nat→Nat}{fr:Frame}(hx:Fix P f)(hφ:∀x,S x→F.fid x=x)(h:@frame M F noExt f fr=fr){x:Operand}(ho:OpndOK P S x):@val M F noExt f (fr.eval x)=fr.eval x:=by
 have:=@eval_frame M F noExt P f S _ hx hφ fr x ho
 rw[h] at this
 exact this.symm
theorem closed_step(hz:ZeroOK P)(hS:SOK P S){g g1:Goroutine}{v v1:World}{es:Array Event}(hn:NV (kd P S) v)(hg:GOK P S g)(hu:Up g)(hns:NotSp g.frame)(hl:∀x,g.frame.about P v=some x→S x)(hgl:P.globals.size≤v.heap.size)(hst:stepG P true g v=.go g1 v1 es)(hsm:Smooth g1)(hu1:Up g1){N:FuncId→Prop}(hSN:∀g,S g→N g)(hc:Bound N g v):Bound N g1 v1:=by
 obtain⟨_,hle,hn1,_⟩:=stepG_tape (m:=true) (m':=true) hz hS hn hg hu hns hl hst hsm hu1 v.tape (fun _ _ _=>rfl)
 have hsz:=hle.size
 have T:=lift_tells N v1.heap.size
 have agree:∀i,i<v.heap.size→lift v1.heap.size i=(id:Nat→Nat) i:=fun i hi=>(T.below i (by omega)).symm
 obtain⟨hcg,hco⟩:=hc (shiftF N) frId (lift v1.heap.size) id ⟨agree,fun g hg=>shiftF_in hg⟩
 rw[gor_id] at hcg
 have hs:@Sim M (shiftF N) noExt (lift v1.heap.size) (kd P S) v v:=by
  refine @Sim.mk M (shiftF N) noExt _ _ _ _ (fun b o h=>(hn b o h).2) (fun b o h=>⟨o,?_,?_⟩)
  .rw[agree b (Array.getElem?_eq_some_iff.1 h).1];exact h
  .rcases(hn b o h).1 with h1|h1
   .exact @stands_hid M (shiftF N) noExt _ _ _ (.refl h1)
   .have h2:=@stands_obj M (shiftF N) noExt (lift v1.heap.size) o h1
    rw[hco b o h,obj_id] at h2
    exact h2
 have h0:=@stepG_step M (shiftF N) noExt _ P (lift v1.heap.size) S [bottom] (lift_inj v1.heap.size) (fun x hx=>agree x (by omega)) hz ⟨fun g hg=>shiftF_in (hSN g hg),hS.2⟩ true true g v v hs hg hu.ne (fun x hx=>valMet_of (eval_closed (fun x hx=>agree x (by omega)) (fun g hg=>shiftF_in (hSN g hg)) (congrArg Goroutine.frame hcg) hx)) hns hl
 rw[hst,@gorS_up M _ (shiftF N) noExt _ _ hu,hcg,hst] at h0
 obtain⟨_,h1⟩:=h0 hsm
 obtain⟨w1,e1,hov,_⟩:=h1 hu1.ne ⟨fun i h2 h3=>by rw[←T.below i h3];show i=_;omega,fun i h2=>by unfold lift;rw[if_neg (by omega)];omega,fun i h2 _=>by rw[show v.drawn+(i-v.drawn)=i by omega]⟩
 simp only[GStep.go.injEq] at e1
 obtain⟨e2,rfl,_⟩:=e1
 rw[@gorS_up M _ (shiftF N) noExt _ _ hu1] at e2
 have hsim:=@Over.sim M (shiftF N) noExt _ _ _ _ _ _ hov
 have hblk:=@Sim.block M (shiftF N) noExt _ _ _ _ hsim
 intro H H' h h' hh
 refine⟨gor_closed T hh (by rw[gor_id];exact e2),fun b o hbo=>obj_closed T hh ?_⟩
 rw[obj_id]
 obtain⟨o',h3,h4⟩:=hblk b o hbo
 rw[←T.below b (Array.getElem?_eq_some_iff.1 hbo).1] at h3
 have:o'=o:=by
  rw[show(id:Nat→Nat) b=b from rfl,hbo] at h3
  exact(Option.some.inj h3).symm
 subst this
 cases o' with
 |cells c e fr=>
  obtain⟨c',fr',e5,h6⟩:=h4
  cases he:c.isEmpty with
  |true=>
   have:c=#[]:=by simpa[Array.isEmpty] using he
   subst this
   simp[obj,vals]
  |false=>
   obtain⟨h7,_⟩:=h6 he
   simp only[Obj.cells.injEq,true_and] at e5
   obtain⟨rfl,_⟩:=e5
   simp only[obj]
   rw[←h7]
 |chan=>rfl
 |coro=>rfl
 |_=>exact h4.2
theorem aims_in{t:Target}{w:World}{args:Array Value}{x:FuncId}(hd:@target M (shiftF S) noExt id t=t)(h:t.leads P w args=some x):S x:=by
 have key:∀g:FuncId,(shiftF S).fid g=g→S g:=fun g e=>Classical.byContradiction fun hs=>shiftF_out hs e
 cases t with
 |fn g c=>
  have e:=(Target.fn.inj hd).1
  cases g with
  |func g=>obtain rfl:=Option.some.inj h;exact key _ (Fn.func.inj e)
  |via u p g b=>obtain rfl:=Option.some.inj h;exact key _ (Fn.via.inj e).2.2.1
  |method n=>exact absurd (Fn.method.inj e) (shiftF_mid n)
  |methodOf u n=>exact absurd (Fn.methodOf.inj e).2 (shiftF_mid n)
  |yield l=>cases h
 |_=>cases h
theorem resolve_closed{ρ:Operand→Value}{c:Call}{ty:TypeId}{d:Deferred}{w w':World}(hv:∀x∈c.operands,@val M (shiftF S) noExt id (ρ x)=ρ x)(hc:calleeOK P c)(h:(resolve ρ c ty).run P w=.ok d w'):@target M (shiftF S) noExt id d.target=d.target:=by
 unfold resolve at h
 unfold calleeOK at hc
 dsimp only at h
 cases hcal:c.callee with
 |builtin b=>
  rw[hcal] at h
  simp only[pure,Sem.run,Result.ok.injEq] at h
  obtain⟨rfl,_⟩:=h
  rfl
 |invoke r n=>rw[hcal] at hc;exact hc.elim
 |value g=>
  rw[hcal] at h
  dsimp only at h
  have hvg:=hv g (by unfold Call.operands;rw[hcal];simp)
  cases hg:ρ g with
  |func q a b=>
   rw[hg] at h hvg
   simp only[Deferred.ofValue,pure,Sem.run,Result.ok.injEq] at h
   obtain⟨rfl,_⟩:=h
   rw[x_func] at hvg
   obtain⟨e1,_,e3⟩:=Value.func.inj hvg
   show Target.fn _ _=Target.fn _ _
   rw[e1]
   unfold vals
   rw[e3]
  |nilFunc=>
   rw[hg] at h
   simp only[Deferred.ofValue,pure,Sem.run,Result.ok.injEq] at h
   obtain⟨rfl,_⟩:=h
   rfl
  |_=>rw[hg] at h;simp[Deferred.ofValue,stuck] at h
theorem defs_in{defers:List Deferred}{w:World}{x:FuncId}(h:(match defers with|d::_=>d.target.leads P w d.args | []=>none)=some x)(hd:∀d∈defers,DefOK d):S x:=by
 cases defers with
 |nil=>cases h
 |cons d ds=>
  rcases hd d (List.mem_cons_self ..) with rfl|⟨r,hr⟩
  .cases h
  .dsimp only at h
   rw[hr] at h
   cases h
theorem about_in{g:Goroutine}{v v':World}(hg:GOK P S g)(hns:NotSp g.frame){N:FuncId→Prop}(hSN:∀g,S g→N g)(hc:Bound N g v){x:FuncId}(h:g.frame.about P v'=some x):N x:=by
 obtain⟨hcg,_⟩:=hc (shiftF N) frId id id ⟨fun _ _=>rfl,fun g hg=>shiftF_in hg⟩
 rw[gor_id] at hcg
 have hfr:=congrArg Goroutine.frame hcg
 have hv:∀y,OpndOK P S y→@val M (shiftF N) noExt id (g.frame.eval y)=g.frame.eval y:=fun y hy=>eval_closed (fun _ _=>rfl) (fun g hg=>shiftF_in (hSN g hg)) hfr hy
 obtain⟨fr,callers,status,dying,offers⟩:=g
 have hgf:=hg.frame
 dsimp only at hv h hgf
 obtain⟨fn0,tmps,todo,defers,md,kind,ro⟩:=fr
 cases md with
 |panicking ch=>exact hgf.mode.elim
 |returning=>exact hSN _ (defs_in h hgf.defers)
 |run=>
  have hi:=hgf.items
  cases todo with
  |nil=>cases h
  |cons i k=>
   have hi0:ItemOK P S i:=hi i (List.mem_cons_self ..)
   cases i with
   |inRegion ops todo=>
    cases todo with
    |nil=>cases h
    |cons j rest=>
     simp only[Frame.about] at h
     cases ho:ops[j]? with
     |none=>rw[ho] at h;cases h
     |some o=>
      rw[ho] at h
      dsimp only at h
      have hoo:OperOK P S o:=(hi0 o (Array.mem_of_getElem? ho)).resolve_right (hns rfl _ _ _ _ _ rfl ho)
      cases hop:o.op with
      |call c=>
       rw[hop] at h
       dsimp only at h
       generalize hr:(resolve _ c o.type).run P v'=r at h
       cases r with
       |halt y w=>cases h
       |ok d w=>
        refine aims_in (resolve_closed (fun y hy=>?_) (by have:=hoo.1;rw[hop] at this;exact this) hr) h
        exact hv y (hoo.2 y (by rw[hop];exact hy))
      |_=>rw[hop] at h;cases h
   |code cd=>
    cases cd with
    |rangeFunc q ps a b=>
     have hcd:CodeOK P S (.rangeFunc q ps a b):=hi0
     simp only[Frame.about] at h
     cases hr:(Instr.enterLoop fn0 tmps ps a b ro).run P v' with
     |halt y v1=>rw[hr] at h;cases h
     |ok y v1=>
      obtain⟨l,mark⟩:=y
      rw[hr] at h
      dsimp only at h
      have hvq:=hv q hcd.1
      cases hr2:(resolve (Frame.eval ⟨fn0,tmps,.code (.rangeFunc q ps a b)::k,defers,.run,kind,ro⟩) {callee:=.value q,args:=#[.const (.func (.yield l) #[] #[])],argTypes:=#[]} 0).run P v1 with
      |halt y w=>rw[hr2] at h;cases h
      |ok d w=>
       rw[hr2] at h
       dsimp only at h
       simp only[resolve] at hr2
       generalize Frame.eval _ q=y at hr2 hvq
       cases y with
       |func f1 a1 b1=>
        simp only[Deferred.ofValue,pure,Sem.run,Result.ok.injEq] at hr2
        obtain⟨rfl,_⟩:=hr2
        rw[x_func] at hvq
        obtain⟨e1,_,e3⟩:=Value.func.inj hvq
        refine aims_in (S:=N) (t:=.fn f1 b1) ?_ h
        show Target.fn _ _=Target.fn _ _
        rw[e1]
        unfold vals
        rw[e3]
       |nilFunc=>
        simp only[Deferred.ofValue,pure,Sem.run,Result.ok.injEq] at hr2
        obtain⟨rfl,_⟩:=hr2
        cases h
       |_=>simp[Deferred.ofValue,stuck] at hr2
    |_=>cases h
   |call d a r s=>exact hi0.elim
   |_=>cases h
def Fit(P:Program)(g:Goroutine):Prop:=NotSp g.frame∧∀v' x,g.frame.about P v'=some x→¬Spc.nm x
theorem Fit.of{g:Goroutine}(h:NotSp g.frame)(hn:∀x,¬Spc.nm x):Fit P g:=⟨h,fun _ x _=>hn x⟩
end
section
variable[Mps][Spc]{P:Program}{S:FuncId→Prop}
theorem solo_inj{g g':Goroutine}{v v':World}(h:solo g v=solo g' v'):g=g'∧v=v':=by
 simp[solo] at h
 exact⟨h.2,h.1⟩
theorem bottom_good:FrameGood P S bottom:=⟨fun i hi=>(by cases hi),fun d hd=>.inl (List.mem_singleton.1 hd),trivial,.inl rfl⟩
structure Low(g:Goroutine):Prop where
 callers:g.callers=[]
 todo:g.frame.todo=[]
 defers:g.frame.defers=[stuckDef]
 round:g.frame.roundOf=none
structure Fin(gf:Goroutine):Prop where
 calm:¬pan gf.frame
 up:gf.callers≠[]
theorem raise_todo(fr:Frame)(vs:List PanicEntry):(fr.raise vs).todo=fr.todo∧(fr.raise vs).roundOf=fr.roundOf:=by
 unfold Frame.raise
 split<;>exact⟨rfl,rfl⟩
theorem last_up{cs0:List Frame}{g1:Goroutine}(h:Last cs0 g1)(hu:∃cs,cs0=cs++[bottom]):Up g1∨Low g1:=by
 obtain⟨cs,e⟩:=hu
 rcases h bottom cs e with h|⟨h1,h2⟩
 .exact .inl h
 .refine .inr ?_
  rcases h2 with h2|⟨x,h2⟩|⟨vs,h2⟩
  .exact⟨h1,by rw[h2];rfl,by rw[h2];rfl,by rw[h2];rfl⟩
  .exact⟨h1,by rw[h2];rfl,by rw[h2];rfl,by rw[h2];rfl⟩
  .exact⟨h1,by rw[h2,(raise_todo _ _).1];rfl,by rw[h2,raise_defers];rfl,by rw[h2,(raise_todo _ _).2];rfl⟩
theorem low_step{g:Goroutine}{v:World}(hl:Low g)(hd:g.dying=none):(∃o w es,stepG P true g v=.ended o w es) ∨ ∃g1 es,stepG P true g v=.go g1 v es∧Low g1∧g1.dying=none∧g1.status=.running:=by
 obtain⟨fr,callers,status,dying,offers⟩:=g
 obtain⟨h1,h2,h3,h4⟩:=hl
 dsimp only at h1 h2 h3 h4 hd
 subst h1 hd
 unfold stepG
 dsimp only
 have hun:∃o w es,unwind P true fr [] none v=.ended o w es:=by
  unfold unwind
  rw[h3]
  obtain⟨o,es,e⟩:=callDeferred_stuck P {fr with defers:=[]} [] none v
  exact⟨o,v,es,e⟩
 cases hm:fr.mode with
 |run=>
  right
  refine⟨{frame:={fr with mode:=.returning},callers:=[],status:=.running,dying:=none},#[],?_,⟨rfl,h2,h3,h4⟩,rfl,rfl⟩
  unfold stepG.exec
  simp only[h2,h4]
  rfl
 |returning=>exact .inl hun
 |panicking ch=>exact .inl hun
inductive Gone (P:Program) (S:FuncId→Prop) (g:Goroutine) (v:World):Prop
 |low (h:Low g)
 |pan (hn:NV (kd P S) v) (hp:pan g.frame) (hdef:∀d∈g.frame.defers,DefOK d) (hcs:∀c∈g.callers,FrameGood P S c) (hu:Up g)
theorem no_way{m mf:Machine}(h:Steps P m mf):∀{g gf:Goroutine} {v vf:World},m=solo g v→mf=solo gf vf→g.status=.running→g.dying=none→Gone P S g v→Fin gf→False:=by
 obtain⟨n,hn⟩:=h
 induction n generalizing m with
 |zero=>
  intro g gf v vf e1 e2 _ _ hg hf
  simp only[runN,Stepped.next.injEq] at hn
  obtain⟨rfl,rfl⟩:=solo_inj (e1.symm.trans (hn.trans e2))
  cases hg with
  |low h=>exact hf.up h.callers
  |pan _ hp=>exact hf.calm hp
 |succ n ih=>
  intro g gf v vf e1 e2 hst hd hg hf
  subst e1
  simp only[runN] at hn
  cases hs:step P (solo g v) with
  |ended o w=>rw[hs] at hn;simp at hn
  |next m1=>
   rw[hs] at hn
   cases hg with
   |low h=>
    rcases low_step (P:=P) (v:=v) h hd with⟨o,w,es,e⟩|⟨g1,es,e,h1,h2,h3⟩
    .obtain⟨g1,v1,es1,e3,_⟩:=step_awake hst hs (by rw[e];trivial)
     rw[e] at e3;cases e3
    .obtain⟨g1',v1,es1,e3,e4⟩:=step_awake hst hs (by rw[e];trivial)
     rw[e] at e3
     simp only[GStep.go.injEq] at e3
     obtain⟨rfl,rfl,rfl⟩:=e3
     exact ih hn e4 e2 h3 h2 (.low h1) hf
   |pan hnv hp hdef hcs hu=>
    have hne:g.callers≠[]:=by
     obtain⟨cs,e⟩:=hu
     rw[e];simp
    have hO:=stepG_pan (m:=true) hnv hd hp hdef hcs (.inl hne)
    obtain⟨g1,v1,es,e3,e4⟩:=step_awake hst hs (by cases hq:stepG P true g v<;>rw[hq] at hO<;>first|trivial|exact hO.elim)
    rw[e3] at hO
    obtain⟨hO,hp1⟩:=hO
    refine ih hn e4 e2 hO.run hO.dying ?_ hf
    rcases last_up hO.last hu with h|h
    .exact .pan hO.nv hp1 hO.defers hO.callers h
    .exact .low h
theorem path_step(hz:ZeroOK P)(hS:SOK P S){g gf:Goroutine}{v vf:World}(h:Steps P (solo g v) (solo gf vf))(hf:Fin gf)(hn:NV (kd P S) v)(hg:GOK P S g)(hst:g.status=.running)(hu:Up g)(hns:Fit P g)(hgl:P.globals.size≤v.heap.size)(hc:Bound (Nm S) g v):(g=gf∧v=vf) ∨ ∃g1 v1 es,stepG P true g v=.go g1 v1 es∧Smooth g1∧g1.status=.running∧Le v v1∧NV (kd P S) v1∧GOK P S g1∧Up g1∧Bound (Nm S) g1 v1∧Steps P (solo g1 v1) (solo gf vf):=by
 obtain⟨n,h⟩:=h
 cases n with
 |zero=>
  simp only[runN,Stepped.next.injEq] at h
  exact .inl (solo_inj h)
 |succ n=>
  simp only[runN] at h
  cases hs:step P (solo g v) with
  |ended o w=>rw[hs] at h;simp at h
  |next m1=>
   rw[hs] at h
   have hne:g.callers≠[]:=by
    obtain⟨cs,e⟩:=hu
    rw[e];simp
   have hl:∀x,g.frame.about P v=some x→S x:=fun x hx=>(about_in hg hns.1 (fun _ h=>.inl h) hc hx).resolve_right (hns.2 _ _ hx)
   have hO:=stepG_out (m:=true) hz hS hn hg hne hns.1 hl
   obtain⟨g1,v1,es,e3,e4⟩:=step_awake hst hs (by cases hq:stepG P true g v<;>rw[hq] at hO<;>first|trivial|exact hO.elim)
   rw[e3] at hO
   subst e4
   have hno:Gone P S g1 v1→False:=fun hG=>no_way ⟨n,h⟩ rfl rfl hO.run hO.dying hG hf
   have hup:Up g1:=by
    rcases last_up hO.last hu with h|h
    .exact h
    .exact(hno (.low h)).elim
   rcases hO.frame with hfr|hfr
   .have hsm:Smooth g1:=⟨hO.dying,.inl hO.run,hfr.mode⟩
    obtain⟨_,hle,hnv,hgk⟩:=stepG_tape (m:=true) (m':=true) hz hS hn hg hu hns.1 hl e3 hsm hup v.tape (fun _ _ _=>rfl)
    exact .inr ⟨g1,v1,es,e3,hsm,hO.run,hle,hnv,hgk,hup,closed_step hz hS hn hg hu hns.1 hl hgl e3 hsm hup (fun _ h=>.inl h) hc,n,h⟩
   .exact(hno (.pan hO.nv hfr hO.defers hO.callers hup)).elim
end
section
variable[M:Mps][Spc]{P:Program}{S:FuncId→Prop}
def wt(v:World)(t:Nat→Question→Nat):World:={v with tape:=t}
structure Ok(P:Program)(S:FuncId→Prop)(g:Goroutine)(v:World):Prop where
 nv:NV (kd P S) v
 gok:GOK P S g
 run:g.status=.running
 up:Up g
 glob:P.globals.size≤v.heap.size
 bound:Bound (Nm S) g v
 clean:Clean S v
theorem Ok.wt{g:Goroutine}{v:World}(h:Ok P S g v)(t:Nat→Question→Nat):Ok P S g (wt v t):=⟨h.nv,h.gok,h.run,h.up,h.glob,h.bound,h.clean⟩
theorem Ok.ne{g:Goroutine}{v:World}(h:Ok P S g v):g.callers≠[]:=by
 obtain⟨cs,e⟩:=h.up
 rw[e];simp
theorem Ok.leads{g:Goroutine}{v:World}(h:Ok P S g v)(hns:Fit P g)(v':World):∀x,g.frame.about P v'=some x→S x:=fun _ hx=>(about_in h.gok hns.1 (fun _ h=>.inl h) h.bound hx).resolve_right (hns.2 _ _ hx)
theorem fine_step(hz:ZeroOK P)(hS:SOK P S){g gf:Goroutine}{v vf:World}(h:Steps P (solo g v) (solo gf vf))(hf:Fin gf)(hok:Ok P S g v)(hnm:∀x,¬Spc.nm x)(hns:Fit P g):(g=gf∧v=vf) ∨ ∃g1 v1 es,stepG P true g v=.go g1 v1 es∧Smooth g1∧Le v v1∧Ok P S g1 v1∧Steps P (solo g1 v1) (solo gf vf):=by
 rcases path_step hz hS h hf hok.nv hok.gok hok.run hok.up hns hok.glob hok.bound with h|⟨g1,v1,es,h1,h2,h3,h4,h5,h6,h7,h8,h9⟩
 .exact .inl h
 .exact .inr ⟨g1,v1,es,h1,h2,h4,⟨h5,h6,h3,h7,Nat.le_trans hok.glob h4.size,h8,(nm_none hnm S▸h8).clean⟩,h9⟩
theorem Alike.named{n:Nat}{F F':Fr}{f f':Nat→Nat}(h:Alike (Nm S) n F F' f f'):Alike S n F F' f f':=⟨h.blk,fun g hg=>h.fid g (.inl hg)⟩
theorem Ok.objs{g:Goroutine}{v:World}(h:Ok P S g v)(H H':Fr)(e e':Nat→Nat)(ha:Alike S v.heap.size H H' e e')(b:Nat)(o:Obj)(hb:v.heap[b]?=some o):@obj M H noExt e o=@obj M H' noExt e' o:=
 (h.clean H H' e ha.fid b o hb).trans ((h.bound H' H' e e' ⟨ha.blk,fun _ _=>rfl⟩).2 b o hb)
inductive Tree (P:Program) (S:FuncId→Prop) (D:Goroutine→World→Prop):Goroutine→World→Prop
 |done {g:Goroutine} {v:World} (ok:Ok P S g v) (h:D g v):Tree P S D g v
 |step {g:Goroutine} {v:World} (ok:Ok P S g v) (hns:Fit P g)
   (G:(Nat→Question→Nat)→Goroutine) (V:(Nat→Question→Nat)→World) (E:(Nat→Question→Nat)→Array Event)
   (he:∀t,stepG P true g (wt v t)=.go (G t) (V t) (E t)) (hsm:∀t,Smooth (G t)) (h:∀t,Tree P S D (G t) (V t)):Tree P S D g v
theorem Tree.of{D:Goroutine→World→Prop}{g:Goroutine}{v:World}(ok:Ok P S g v)(hns:Fit P g)(h:∀t,∃g1 v1 es,stepG P true g (wt v t)=.go g1 v1 es∧Smooth g1∧Tree P S D g1 v1):Tree P S D g v:=
 .step ok hns (fun t=>Classical.choose (h t)) (fun t=>Classical.choose (Classical.choose_spec (h t))) (fun t=>Classical.choose (Classical.choose_spec (Classical.choose_spec (h t))))
  (fun t=>(Classical.choose_spec (Classical.choose_spec (Classical.choose_spec (h t)))).1)
  (fun t=>(Classical.choose_spec (Classical.choose_spec (Classical.choose_spec (h t)))).2.1)
  (fun t=>(Classical.choose_spec (Classical.choose_spec (Classical.choose_spec (h t)))).2.2)
theorem Tree.ok{D:Goroutine→World→Prop}{g:Goroutine}{v:World}(h:Tree P S D g v):Ok P S g v:=by cases h<;>assumption
structure Lone(P:Program)(S:FuncId→Prop)(D:Goroutine→World→Prop) where
 g:Goroutine
 v:World
 bad:¬Tree P S D g v
 ok:Ok P S g v
theorem tree_of(hN0:∀fr,NotSp fr)(hnm:∀x,¬Spc.nm x)(hz:ZeroOK P)(hS:SOK P S){D:Goroutine→World→Prop}(hD:∀g v t,Ok P S g v→D g v→D g (wt v t)){g0:Goroutine}{v0:World}(hok:Ok P S g0 v0)(hcon:∀t,∃gf vf,Fin gf∧D gf vf∧Steps P (solo g0 (wt v0 t)) (solo gf vf)):Tree P S D g0 v0:=by
 classical
 have hN:∀g,Fit P g:=fun g=>.of (hN0 _) hnm
 refine Classical.byContradiction fun hbad=>?_
 have hx:∀x:Lone P S D,∃t,¬ ∃g1 v1 es,stepG P true x.g (wt x.v t)=.go g1 v1 es∧Smooth g1∧Tree P S D g1 v1:=fun x=>
  Classical.byContradiction fun hh=>x.bad (.of x.ok (hN _) fun t=>Classical.byContradiction fun h=>hh ⟨t,h⟩)
 let tp:Lone P S D→Nat→Question→Nat:=fun x=>Classical.choose (hx x)
 have htp:=fun x=>Classical.choose_spec (hx x)
 let Good:Lone P S D→Lone P S D→Prop:=fun x y=>∃es,stepG P true x.g (wt x.v (tp x))=.go y.g y.v es∧Smooth y.g
 let nxt:Lone P S D→Lone P S D:=fun x=>if h:∃y,Good x y then Classical.choose h else x
 have nxt_good:∀x,(∃y,Good x y)→Good x (nxt x):=fun x h=>by
  show Good x (if h:∃y,Good x y then Classical.choose h else x)
  rw[dif_pos h]
  exact Classical.choose_spec h
 have nxt_not:∀x,(¬ ∃y,Good x y)→nxt x=x:=fun x h=>dif_neg h
 have nxt_mono:∀x,x.v.drawn≤(nxt x).v.drawn:=fun x=>by
  by_cases h:∃y,Good x y
  .obtain⟨es,h3,h4⟩:=nxt_good x h
   obtain⟨_,hle,_⟩:=stepG_tape (m:=true) (m':=true) hz hS (v:=wt x.v (tp x)) x.ok.nv x.ok.gok x.ok.up (hN _).1 (x.ok.leads (hN _) _) h3 h4 (nxt x).ok.up (tp x) (fun _ _ _=>rfl)
   exact hle.drawn
  .rw[nxt_not x h];exact Nat.le_refl _
 let root:Lone P S D:=⟨g0,v0,hbad,hok⟩
 let seq:Nat→Lone P S D:=fun k=>Nat.rec root (fun _ x=>nxt x) k
 have seq_succ:∀k,seq (k+1)=nxt (seq k):=fun _=>rfl
 have mono:∀j k,j≤k→(seq j).v.drawn≤(seq k).v.drawn:=fun j k h=>by
  induction h with
  |refl=>exact Nat.le_refl _
  |step _ ih=>exact Nat.le_trans ih (nxt_mono _)
 have froz:∀k,seq (k+1)=seq k→∀j,k≤j→seq j=seq k:=fun k h j hj=>by
  induction hj with
  |refl=>rfl
  |@step j _ ih=>rw[seq_succ,ih,←seq_succ];exact h
 let A:Nat→Nat→Prop:=fun k i=>(seq k).v.drawn≤i∧(i<(seq (k+1)).v.drawn∨seq (k+1)=seq k)
 let T:Nat→Question→Nat:=fun i=>if h:∃k,A k i then tp (seq (Classical.choose h)) i else fun _=>0
 have Tval:∀k i,A k i→T i=tp (seq k) i:=fun k i hA=>by
  have hex:∃k,A k i:=⟨k,hA⟩
  have e:T i=tp (seq (Classical.choose hex)) i:=dif_pos hex
  have hA':=Classical.choose_spec hex
  rw[e]
  generalize Classical.choose hex=k' at hA'
  suffices hk:seq k'=seq k by rw[hk]
  rcases Nat.lt_trichotomy k k' with h|h|h
  .rcases hA.2 with h1|h1
   .have:=mono (k+1) k' h
    have:=hA'.1
    omega
   .exact froz k h1 k' (Nat.le_of_lt h)
  .rw[h]
  .rcases hA'.2 with h1|h1
   .have:=mono (k'+1) k h
    have:=hA.1
    omega
   .exact(froz k' h1 k (Nat.le_of_lt h)).symm
 have fin:∀k gf vf,D gf vf→(seq k).g=gf→wt (seq k).v T=vf→False:=fun k gf vf hd e1 e2=>by
  subst e1 e2
  exact(seq k).bad (.done (seq k).ok (hD (seq k).g (wt (seq k).v T) (seq k).v.tape ((seq k).ok.wt T) hd))
 have main:∀(n k:Nat) (gf:Goroutine) (vf:World),runN P n (solo (seq k).g (wt (seq k).v T))=.next (solo gf vf)→Fin gf→D gf vf→False:=fun n=>by
  induction n with
  |zero=>
   intro k gf vf hn hf hd
   simp only[runN,Stepped.next.injEq] at hn
   obtain⟨h1,h2⟩:=solo_inj hn
   exact fin k gf vf hd h1 h2
  |succ n ih=>
   intro k gf vf hn hf hd
   rcases fine_step hz hS ⟨n+1,hn⟩ hf ((seq k).ok.wt T) hnm (hN _) with⟨h1,h2⟩|⟨g1,v1,es,h1,hsm,hle,hok1,hrest⟩
   .exact fin k gf vf hd h1 h2
   .have hs:step P (solo (seq k).g (wt (seq k).v T))=.next (solo g1 v1):=by
     rw[step,stepT_solo (seq k).ok.run,runT_solo_go h1]
    simp only[runN,hs] at hn
    by_cases hG:∃y,Good (seq k) y
    .obtain⟨es',h4,h5⟩:=nxt_good _ hG
     rw[←seq_succ] at h4 h5
     obtain⟨h6,hle',_⟩:=stepG_tape (m:=true) (m':=true) hz hS (v:=wt (seq k).v (tp (seq k))) (seq k).ok.nv (seq k).ok.gok (seq k).ok.up (hN _).1 ((seq k).ok.leads (hN _) _) h4 h5 (seq (k+1)).ok.up T (fun i h7 h8=>Tval k i ⟨h7,.inl h8⟩)
     have h9:stepG P true (seq k).g (wt (seq k).v T)=.go (seq (k+1)).g (wt (seq (k+1)).v T) es':=h6
     rw[h1] at h9
     simp only[GStep.go.injEq] at h9
     exact ih (k+1) gf vf (by rw[←h9.1,←h9.2.1];exact hn) hf hd
    .have hfr:seq (k+1)=seq k:=nxt_not _ hG
     have hT:∀i,(seq k).v.drawn≤i→T i=tp (seq k) i:=fun i hi=>Tval k i ⟨hi,.inr hfr⟩
     obtain⟨h6,_,_,_⟩:=stepG_tape (m:=true) (m':=true) hz hS (v:=wt (seq k).v T) (seq k).ok.nv (seq k).ok.gok (seq k).ok.up (hN _).1 ((seq k).ok.leads (hN _) _) h1 hsm hok1.up (tp (seq k)) (fun i h7 _=>(hT i h7).symm)
     have h6':stepG P true (seq k).g (wt (seq k).v (tp (seq k)))=.go g1 (wt v1 (tp (seq k))) es:=h6
     refine hG ⟨⟨g1,wt v1 (tp (seq k)),fun ht=>?_,hok1.wt _⟩,es,h6',hsm⟩
     exact htp (seq k) ⟨g1,_,es,h6',hsm,ht⟩
 obtain⟨gf,vf,hf,hd,n,hp⟩:=hcon T
 exact main n 0 gf vf hp hf hd
end
section
variable[M:Mps][E:Ext]
theorem two_vals{F:Fr}{f:Nat→Nat}{a:Array Value}(h:∀x∈a,@val M frId E id (@val M F noExt f x)=@val M F E f x):@vals M frId E id (@vals M F noExt f a)=@vals M F E f a:=by
 unfold vals
 rw[Array.map_map]
 exact Array.map_congr_left fun x hx=>h x hx
theorem two_addr(f:Nat→Nat)(a:Option Addr):(a.map (addr f)).map (addr id)=a.map (addr f):=oaddr_id _
theorem val_two(F:Fr)(f:Nat→Nat):∀x:Value,@val M frId E id (@val M F noExt f x)=@val M F E f x
 |.pointer a=>by rw[@val_pointer M F noExt,@val_pointer M frId E,@val_pointer M F E,two_addr]
 |.slice a l c=>by rw[@val_slice M F noExt,@val_slice M frId E,@val_slice M F E,two_addr]
 |.map r=>by rw[@val_map M F noExt,@val_map M frId E,@val_map M F E];cases r<;>rfl
 |.chan r=>by rw[@val_chan M F noExt,@val_chan M frId E,@val_chan M F E];cases r<;>rfl
 |.func g a b=>by
  rw[@val_func M F noExt,@val_func M frId E,@val_func M F E,fn_id,two_vals fun x hx=>val_two F f x,two_vals fun x hx=>val_two F f x]
 |.iface t v=>by
  rw[@val_iface M F noExt,@val_iface M F E]
  by_cases ht:t<tyTop
  .rw[@ifv_lt M noExt _ ht,@ifv_lt M E _ ht,@val_iface M frId E,@ifv_lt M E _ ht,val_two F f v]
  .have e:@ifv M noExt t v (@val M F noExt f v)=.iface t v:=by unfold ifv;rw[if_neg ht];rfl
   rw[e,@val_iface M frId E]
   unfold ifv
   rw[if_neg ht,if_neg ht]
 |.agg cs=>by rw[@val_agg M F noExt,@val_agg M frId E,@val_agg M F E,two_vals fun x hx=>val_two F f x]
 |.tuple cs=>by rw[@val_tuple M F noExt,@val_tuple M frId E,@val_tuple M F E,two_vals fun x hx=>val_two F f x]
 |.bool _=>by rw[@val_bool M F noExt,@val_bool M frId E,@val_bool M F E]
 |.int _ _=>by rw[@val_int M F noExt,@val_int M frId E,@val_int M F E]
 |.float _ _=>by rw[@val_float M F noExt,@val_float M frId E,@val_float M F E]
 |.complex _ _ _=>by rw[@val_complex M F noExt,@val_complex M frId E,@val_complex M F E]
 |.string _=>by rw[@val_string M F noExt,@val_string M frId E,@val_string M F E]
 |.nilFunc=>by rw[@val_nilFunc M F noExt,@val_nilFunc M frId E,@val_nilFunc M F E]
 |.nilIface=>by rw[@val_nilIface M F noExt,@val_nilIface M frId E,@val_nilIface M F E]
termination_by x=>SizeOf.sizeOf x
decreasing_by
 all_goals first
  |(have h:=Array.sizeOf_lt_of_mem hx;simp only[Value.func.sizeOf_spec,Value.agg.sizeOf_spec,Value.tuple.sizeOf_spec];omega)
  |(simp only[Value.iface.sizeOf_spec];omega)
theorem vals_two(F:Fr)(f:Nat→Nat)(a:Array Value):@vals M frId E id (@vals M F noExt f a)=@vals M F E f a:=two_vals fun x _=>val_two F f x
theorem target_two(F:Fr)(f:Nat→Nat)(t:Target):@target M frId E id (@target M F noExt f t)=@target M F E f t:=by
 cases t<;>simp only[target,fn_id,vals_two]
 all_goals rfl
theorem deferred_two(F:Fr)(f:Nat→Nat)(d:Deferred):@deferred M frId E id (@deferred M F noExt f d)=@deferred M F E f d:=by
 simp only[deferred,target_two,vals_two]
theorem item_two(F:Fr)(f:Nat→Nat)(i:Item):@item M frId E id (@item M F noExt f i)=@item M F E f i:=by
 cases i<;>simp only[item,deferred_two,vals_two]
 all_goals rfl
theorem mode_two(F:Fr)(f:Nat→Nat)(m:FrameMode):@mode M frId E id (@mode M F noExt f m)=@mode M F E f m:=by
 cases m with
 |panicking c=>simp only[mode,List.map_map];congr 1;refine List.map_congr_left fun e _=>?_;simp only[Function.comp,pentry,val_two]
 |_=>rfl
theorem frame_two(F:Fr)(f:Nat→Nat)(fr:Frame):@frame M frId E id (@frame M F noExt f fr)=@frame M F E f fr:=by
 have h1:(fr.todo.map (@item M F noExt f)).map (@item M frId E id)=fr.todo.map (@item M F E f):=by rw[List.map_map];exact List.map_congr_left fun i _=>item_two F f i
 have h2:(fr.defers.map (@deferred M F noExt f)).map (@deferred M frId E id)=fr.defers.map (@deferred M F E f):=by rw[List.map_map];exact List.map_congr_left fun i _=>deferred_two F f i
 have h3:(fr.roundOf.map f).map id=fr.roundOf.map f:=by cases fr.roundOf<;>rfl
 unfold frame
 dsimp only
 rw[h1,h2,h3,vals_two,mode_two]
theorem gor_two(F:Fr)(f:Nat→Nat)(g:Goroutine):@gor M frId E id (@gor M F noExt f g)=@gor M F E f g:=by
 have h1:(g.callers.map (@frame M F noExt f)).map (@frame M frId E id)=g.callers.map (@frame M F E f):=by rw[List.map_map];exact List.map_congr_left fun i _=>frame_two F f i
 unfold gor
 dsimp only
 rw[h1,frame_two]
theorem entry_two(F:Fr)(f:Nat→Nat)(e:MapEntry):@entry M frId E id (@entry M F noExt f e)=@entry M F E f e:=by
 simp only[entry,val_two]
theorem obj_two(F:Fr)(f:Nat→Nat)(o:Obj):@obj M frId E id (@obj M F noExt f o)=@obj M F E f o:=by
 cases o with
 |cells c e fr=>simp only[obj,vals_two]
 |loop l=>simp only[obj,loop,vals_two,id]
 |deferred d=>
  cases d with
  |none=>rfl
  |some ds=>
   simp only[obj,Option.map_some,List.map_map]
   congr 2
   exact List.map_congr_left fun i _=>deferred_two F f i
 |map es c=>
  simp only[obj,Array.map_map]
  congr 1
  exact Array.map_congr_left fun i _=>entry_two F f i
 |number a l=>rfl
 |mapIter m s q l=>cases m<;>rfl
 |_=>rfl
theorem gor_ext{F F':Fr}{f f':Nat→Nat}{x y:Goroutine}(h:@gor M F noExt f x=@gor M F' noExt f' y):@gor M F E f x=@gor M F' E f' y:=by
 rw[←gor_two F f,←gor_two F' f',h]
theorem obj_ext{F F':Fr}{f f':Nat→Nat}{x y:Obj}(h:@obj M F noExt f x=@obj M F' noExt f' y):@obj M F E f x=@obj M F' E f' y:=by
 rw[←obj_two F f,←obj_two F' f',h]
end
section
variable[M:Mps]
section
variable[Spc]{P:Program}{S:FuncId→Prop}
theorem chan_step(hz:ZeroOK P)(hS:SOK P S){g g1:Goroutine}{v v1:World}{es:Array Event}(ok:Ok P S g v)(hns:Fit P g)(h:stepG P true g v=.go g1 v1 es)(hsm:Smooth g1)(hne:g1.callers≠[]):v.heap.size≤v1.heap.size∧∀(b:Nat) (o o1:Obj),v.heap[b]?=some o→v1.heap[b]?=some o1→chanB o1=true→chanB o=true:=by
 have h0:=stepG_step (f:=id) (B:=[bottom]) (m:=true) (m':=true) inj_id fix_id hz hS (sim_same ok.nv) ok.gok ok.ne (met_id _) hns.1 (ok.leads hns _)
 rw[h] at h0
 obtain⟨hle,h1⟩:=h0 hsm
 have hsz:=hle.size
 obtain⟨w2,_,hov,_⟩:=h1 hne ⟨fun i h2 h3=>(by show i=v.heap.size+(i-v.heap.size);omega),fun i h2=>(by show v.heap.size+(v1.heap.size-v.heap.size)≤i;omega),fun i h2 h3=>(by rw[show v.drawn+(i-v.drawn)=i by omega])⟩
 exact⟨hsz,fun b o o1 hb hb1 hc=>hov.grows.chan hb hb1 hc⟩
theorem tree_chan(hz:ZeroOK P)(hS:SOK P S){C:Nat→Prop}{D:Goroutine→World→Prop}(hD:∀g v,D g v→∀b,C b→∀o,v.heap[b]?=some o→chanB o=true){g:Goroutine}{v:World}(ht:Tree P S D g v):∀b,C b→∀o,v.heap[b]?=some o→chanB o=true:=by
 induction ht with
 |done ok h=>exact hD _ _ h
 |@step g v ok hns G V E he hsm htr ih=>
  intro b hb o ho
  let t:Nat→Question→Nat:=fun _ _=>0
  obtain⟨hsz,h1⟩:=chan_step hz hS (ok.wt t) hns (he t) (hsm t) (htr t).ok.ne
  have hlt:b<(V t).heap.size:=by have:=(Array.getElem?_eq_some_iff.1 ho).1;have:v.heap.size≤(V t).heap.size:=hsz;omega
  exact h1 b o _ ho (Array.getElem?_eq_getElem hlt) (ih t b hb _ (Array.getElem?_eq_getElem hlt))
end
variable[E:Ext][Spc]{P:Program}{S:FuncId→Prop}
structure StayW(w w1:World):Prop where
 chan:StayChans w w1
 os:w1.os=w.os
 output:w1.output=w.output
theorem StayW.refl(w:World):StayW w w:=⟨.refl w,rfl,rfl⟩
theorem StayW.trans{a b c:World}(h:StayW a b)(h':StayW b c):StayW a c:=⟨h.chan.trans h'.chan,h'.os.trans h.os,h'.output.trans h.output⟩
structure Rely(Ro own:Nat→Prop)(w w1:World):Prop where
 size:w.heap.size≤w1.heap.size
 keep:∀b,b<w.heap.size→Ro b∨own b→w1.heap[b]?=w.heap[b]?
 cells:StayCells w w1
 chans:StayW w w1
theorem Rely.refl(Ro own:Nat→Prop)(w:World):Rely Ro own w w:=⟨Nat.le_refl _,fun _ _ _=>rfl,.refl w,.refl w⟩
theorem Rely.trans{Ro own:Nat→Prop}{a b c:World}(h:Rely Ro own a b)(h':Rely Ro own b c):Rely Ro own a c:=
 ⟨Nat.le_trans h.size h'.size,fun x hx ho=>(h'.keep x (Nat.lt_of_lt_of_le hx h.size) ho).trans (h.keep x hx ho),h.cells.trans h'.cells,h.chans.trans h'.chans⟩
def EvO(Ro own:Nat→Prop)(e:Event):Prop:=
 match e.loc with
 |.cell a=>own a.block∨(Ro a.block∧e.write=false)
 |.obj r=>own r∨(Ro r∧e.write=false)
 |.mark m=>m=.noRoom
 |_=>False
structure Guar(q:Bool)(X:Event→Prop)(Ro own own':Nat→Prop)(w w':World)(es:Array Event):Prop where
 quiet:q=true→w'=w∧es=#[]
 size:w.heap.size≤w'.heap.size
 keep:∀b,b<w.heap.size→¬own b→w'.heap[b]?=w.heap[b]?
 same:w'={w with heap:=w'.heap,drawn:=w'.drawn}
 own:∀b,own' b→own b∨(w.heap.size≤b∧b<w'.heap.size)
 evs:∀e∈es,EvO Ro own' e∨X e
 cells:StayCells w w'
 chans:StayW w w'
def more(own:Nat→Prop)(w w':World):Nat→Prop:=fun b=>own b∨(w.heap.size≤b∧b<w'.heap.size)
inductive Way (P:Program) (m:Bool) (Ro:Nat→Prop) (Live:World→Prop) (q:Bool) (X:Event→Prop) (Stop:Goroutine→World→(Nat→Prop)→Prop):Goroutine→World→(Nat→Prop)→Prop
 |stop {g:Goroutine} {w:World} {own:Nat→Prop} (hs:g.status=.running) (h:∀w1,Rely Ro own w w1→Live w1→Stop g w1 own):Way P m Ro Live q X Stop g w own
 |step {g:Goroutine} {w:World} {own:Nat→Prop} (hs:g.status=.running)
   (G:World→Goroutine) (W:World→World) (E:World→Array Event)
   (he:∀w1,Rely Ro own w w1→Live w1→stepG P m g w1=.go (G w1) (W w1) (E w1)∧Guar q X Ro own (more own w1 (W w1)) w1 (W w1) (E w1))
   (h:∀w1,Rely Ro own w w1→Live w1→Way P m Ro Live q X Stop (G w1) (W w1) (more own w1 (W w1))):Way P m Ro Live q X Stop g w own
theorem Way.status{P:Program}{m:Bool}{Ro:Nat→Prop}{Live:World→Prop}{q:Bool}{X:Event→Prop}{Stop:Goroutine→World→(Nat→Prop)→Prop}{g:Goroutine}{w:World}{own:Nat→Prop}(h:Way P m Ro Live q X Stop g w own):g.status=.running:=by
 cases h<;>assumption
def Held(Ro own Hid:Nat→Prop)(b':Nat)(o:Obj):Prop:=
 (own b'∧o.isChan=false)∨goneB o=true∨(Ro b'∧(Shut o ∨ ∃x,o=.coro x))∨(Hid b'∧o.isChan=true)
structure Priv(P:Program)(S:FuncId→Prop)(Ro own Hid:Nat→Prop)(f:Nat→Nat)(g:Goroutine)(v w:World):Prop where
 ok:Ok P S g v
 inj:∀a b,a<v.heap.size→b<v.heap.size→f a=f b→a=b
 fix:∀g,g<P.globals.size→f g=g
 sim:Sim f (kd P S) v w
 held:∀b o,v.heap[b]?=some o→Held Ro own Hid (f b) o
theorem Priv.below{Ro own:Nat→Prop}{Hid:Nat→Prop}{f:Nat→Nat}{g:Goroutine}{v w:World}(h:Priv P S Ro own Hid f g v w){i:Nat}(hi:i<v.heap.size):f i<w.heap.size:=by
 obtain⟨o',h1,_⟩:=h.sim.block i _ (Array.getElem?_eq_getElem hi)
 exact(Array.getElem?_eq_some_iff.1 h1).1
def rebase(f:Nat→Nat)(v w:World):Nat→Nat:=fun i=>if i<v.heap.size then f i else w.heap.size+(i-v.heap.size)
theorem rebase_lt{f:Nat→Nat}{v w:World}{i:Nat}(h:i<v.heap.size):rebase f v w i=f i:=if_pos h
theorem rebase_ge{f:Nat→Nat}{v w:World}{i:Nat}(h:v.heap.size≤i):rebase f v w i=w.heap.size+(i-v.heap.size):=if_neg (Nat.not_lt.2 h)
theorem gorS_congr{f f':Nat→Nat}{B:List Frame}{g:Goroutine}(h:gor f g=gor f' g)(hu:Up g):gorS f B g=gorS f' B g:=by
 obtain⟨cs,e⟩:=hu
 have h1:g.callers.map (frame f)=g.callers.map (frame f'):=congrArg Goroutine.callers h
 rw[e,List.map_append,List.map_append] at h1
 have h2:=(List.append_inj h1 (by simp)).1
 unfold gorS
 rw[h,e,stk_up,stk_up,h2]
theorem Stands.congr{f f':Nat→Nat}{o o':Obj}(h:Stands f o o')(e:obj f o=obj f' o):Stands f' o o':=by
 cases o with
 |coro=>exact h
 |cells c e1 fr=>
  obtain⟨c',fr',rfl,h2⟩:=h
  refine⟨c',fr',rfl,fun hc=>?_⟩
  obtain⟨h3,h4⟩:=h2 hc
  exact⟨h3.trans (Obj.cells.inj e).1,h4⟩
 |chan=>exact h
 |_=>first|exact⟨h.1,h.2.trans e⟩
theorem stands_chan{f:Nat→Nat}{o o':Obj}(h:Stands f o o')(hc:o'.isChan=true):chanB o=true:=by
 cases o with
 |cells c e fr=>
  obtain⟨_,_,rfl,_⟩:=h
  cases hc
 |chan=>rfl
 |coro=>rfl
 |_=>first|(have e:=h.2;subst e;simp[obj,Obj.isChan] at hc;done)|(have e:=h.1;cases e;done)
theorem Priv.rely{Ro own:Nat→Prop}{Hid:Nat→Prop}{f:Nat→Nat}{g:Goroutine}{v w w1:World}(h:Priv P S Ro own Hid f g v w)(hr:Rely Ro own w w1)(B:List Frame):Priv P S Ro own Hid (rebase f v w1) g v w1∧Inj (rebase f v w1)∧gorS f B g=gorS (rebase f v w1) B g:=by
 have hag:∀i,i<v.heap.size→f i=rebase f v w1 i:=fun i hi=>(rebase_lt hi).symm
 obtain⟨hg',ho'⟩:=h.ok.bound frId frId f (rebase f v w1) ⟨hag,fun _ _=>rfl⟩
 have hg:=gor_ext (E:=E) hg'
 have ho:=fun b o hb=>obj_ext (E:=E) (ho' b o hb)
 have hinj:Inj (rebase f v w1):=fun a b e=>by
  have h1:=hr.size
  rcases Nat.lt_or_ge a v.heap.size with ha|ha<;>rcases Nat.lt_or_ge b v.heap.size with hb|hb
  .rw[rebase_lt ha,rebase_lt hb] at e
   exact h.inj a b ha hb e
  .rw[rebase_lt ha,rebase_ge hb] at e
   have:=h.below ha
   omega
  .rw[rebase_ge ha,rebase_lt hb] at e
   have:=h.below hb
   omega
  .rw[rebase_ge ha,rebase_ge hb] at e
   omega
 refine⟨⟨h.ok,fun a b _ _=>hinj a b,fun x hx=>?_,⟨h.sim.good,fun b o hb=>?_⟩,fun b o hb=>?_⟩,hinj,gorS_congr hg h.ok.up⟩
 .rw[rebase_lt (Nat.lt_of_lt_of_le hx h.ok.glob)]
  exact h.fix x hx
 .have hlt:=(Array.getElem?_eq_some_iff.1 hb).1
  obtain⟨o',h1,h2⟩:=h.sim.block b o hb
  rw[←hag b hlt]
  have old:Ro (f b)∨own (f b)→∃o',w1.heap[f b]?=some o'∧Stands (rebase f v w1) o o':=fun hk=>⟨o',by rw[hr.keep _ (h.below hlt) hk];exact h1,h2.congr (ho b o hb)⟩
  rcases h.held b o hb with hk|hk|⟨hk,_⟩|⟨hk,hk1⟩
  .exact old (.inr hk.1)
  .cases o<;>first|(cases hk;done)|skip
   obtain⟨c',fr',e,_⟩:=h2
   subst e
   obtain⟨c2,fr2,h3⟩:=hr.cells _ _ _ _ h1
   refine⟨_,h3,c2,fr2,rfl,fun hne=>?_⟩
   rw[show Array.isEmpty _=true from hk] at hne;cases hne
  .exact old (.inl hk)
  .have hh:=hidSt_of (by cases o<;>first|rfl|(cases hk1;done)) h2
   obtain⟨o2,h3,h4⟩:=hr.chans.chan _ _ h1 (hh.isChan▸hk1)
   exact⟨o2,h3,stands_hid (.inl ⟨hk1,h4⟩)⟩
 .rw[←hag b (Array.getElem?_eq_some_iff.1 hb).1]
  exact h.held b o hb
theorem evO_of{Ro own:Nat→Prop}{Hid:Nat→Prop}{X:Event→Prop}(hX:∀e r,Hid r→e.loc=.obj r→e.write=false→e.sync=true→X e){f:Nat→Nat}{v:World}{e0:Event}(hk:EvOK v e0)(hheld:∀b o,v.heap[b]?=some o→Held Ro own Hid (f b) o):EvO Ro own (event f e0)∨X (event f e0):=by
 obtain⟨l,wr,sy⟩:=e0
 unfold EvOK at hk
 cases l with
 |cell a=>
  obtain⟨o,h2,h3,h4,h8⟩:=hk
  dsimp only at h2 h4⊢
  left
  unfold EvO event loc
  rcases hheld _ _ h2 with h5|h5|⟨h5,h6⟩|⟨_,h6⟩
  .exact .inl h5.1
  .rw[h3] at h5;cases h5
  .rcases h6 with h6|⟨x,rfl⟩
   .refine .inr ⟨h5,?_⟩
    cases wr with
    |false=>rfl
    |true=>exact absurd h6 (h4 rfl)
   .cases h8
  .cases o<;>first|(cases h6;done)|(cases h8;done)
 |obj r=>
  obtain⟨o,h2,h3,h4,h8,h8'⟩:=hk
  dsimp only at h2 h8 h8'⊢
  rcases hheld _ _ h2 with h5|h5|⟨h5,h6⟩|⟨h5,h6⟩
  .exact .inl (.inl h5.1)
  .rw[h3] at h5;cases h5
  .rcases h6 with⟨c,e,hi,rfl,_⟩|⟨x,rfl⟩
   .exact absurd rfl (h4 _ _ _)
   .exact .inl (.inr ⟨h5,h8 rfl⟩)
  .exact .inr (hX _ (f r) h5 rfl (h8 (by cases o<;>first|rfl|(cases h6;done))) (h8' h6))
 |mark mk=>
  have e:mk=.noRoom:=hk
  subst e
  exact .inl rfl
 |output=>exact hk.elim
 |goroutines=>exact hk.elim
theorem way_step(hz:ZeroOK P)(hS:SOK P S){m:Bool}{Ro Hid:Nat→Prop}{Live:World→Prop}{X:Event→Prop}(hX:∀e r,Hid r→e.loc=.obj r→e.write=false→e.sync=true→X e){Stop:Goroutine→World→(Nat→Prop)→Prop}{B:List Frame}{g:Goroutine}{v:World}(ok:Ok P S g v)(hns:Fit P g){G:(Nat→Question→Nat)→Goroutine}{V:(Nat→Question→Nat)→World}{E:(Nat→Question→Nat)→Array Event}(he:∀t,stepG P true g (wt v t)=.go (G t) (V t) (E t))(hsm:∀t,Smooth (G t))(hok':∀t,Ok P S (G t) (V t)){f:Nat→Nat}{w:World}{own:Nat→Prop}(hp:Priv P S Ro own Hid f g v w)(hC:∀t (b:Nat) (o o1:Obj),v.heap[b]?=some o→chanB o=true→(V t).heap[b]?=some o1→chanB o1=true)(hRo:∀b,Ro b→b<w.heap.size∧¬own b)(hnext:∀t f' w' own',Priv P S Ro own' Hid f' (G t) (V t) w'→Rely Ro (fun _=>False) w w'→(∀b,Ro b→b<w'.heap.size∧¬own' b)→(∀i,i<v.heap.size→f' i=f i)→v.heap.size≤(V t).heap.size→(∀(b:Nat) (o:Obj),(V t).heap[b]?=some o→chanB o=true→∃o0,v.heap[b]?=some o0∧chanB o0=true)→Way P m Ro Live false X Stop (gorS f' B (G t)) w' own'):Way P m Ro Live false X Stop (gorS f B g) w own:=by
 let T:World→Nat→Question→Nat:=fun w1 i=>w1.tape (w1.drawn+(i-v.drawn))
 have key:∀w1,Rely Ro own w w1→Live w1→∃w2,stepG P m (gorS f B g) w1=.go (gorS (rebase f v w1) B (G (T w1))) w2 ((E (T w1)).map (event (rebase f v w1)))∧v.heap.size≤(V (T w1)).heap.size ∧
   Guar false X Ro own (more own w1 w2) w1 w2 ((E (T w1)).map (event (rebase f v w1))) ∧
   Priv P S Ro (more own w1 w2) Hid (rebase f v w1) (G (T w1)) (V (T w1)) w2∧(∀b o,(V (T w1)).heap[b]?=some o→chanB o=true→∃o0,v.heap[b]?=some o0∧chanB o0=true):=fun w1 hr hl=>by
  obtain⟨hp1,hinj,heq⟩:=hp.rely hr B
  have hok1:=hok' (T w1)
  have hs1:Sim (rebase f v w1) (kd P S) (wt v (T w1)) w1:=⟨hp1.sim.good,hp1.sim.block⟩
  have h0:=stepG_step (f:=rebase f v w1) (B:=B) (m:=true) (m':=m) hinj hp1.fix hz hS hs1 ok.gok ok.ne (met_id _) hns.1 (ok.leads hns _)
  rw[he (T w1)] at h0
  obtain⟨hle,h1⟩:=h0 (hsm (T w1))
  have hsz:=hle.size
  have hfr:Fresh (rebase f v w1) (wt v (T w1)) (V (T w1)) w1:=by
   refine⟨fun i h2 h3=>rebase_ge h2,fun i h2=>?_,fun i h2 h3=>rfl⟩
   rw[rebase_ge (show v.heap.size≤i from Nat.le_trans hsz h2)]
   show w1.heap.size+((V (T w1)).heap.size-v.heap.size)≤_
   omega
  obtain⟨w2,e1,hov,hev,hg1⟩:=h1 hok1.ne hfr
  have hws:=hov.size
  have hCV:∀b o o1,v.heap[b]?=some o→chanB o=true→(V (T w1)).heap[b]?=some o1→chanB o1=true:=fun b o o1 hb hc hb1=>hC (T w1) b o o1 hb hc hb1
  have hheld:∀b o,(V (T w1)).heap[b]?=some o→Held Ro (more own w1 w2) Hid (rebase f v w1 b) o:=fun b o hb=>by
   have hblt:=(Array.getElem?_eq_some_iff.1 hb).1
   rcases Nat.lt_or_ge b v.heap.size with hlt|hge
   .have hv:v.heap[b]?=some v.heap[b]:=Array.getElem?_eq_getElem hlt
    have same:chanB v.heap[b]=true→o=v.heap[b]:=fun hc0=>by
     have:=(hov.chan b _ o hv hb (hCV b _ o hv hc0 hb)).1
     have h9:(wt v (T w1)).heap[b]?=some v.heap[b]:=hv
     rw[hb,h9] at this
     exact Option.some.inj this
    rcases hp1.held b _ hv with h2|h2|⟨h2,h3⟩|⟨h2,h3⟩
    .refine .inl ⟨.inl h2.1,?_⟩
     obtain⟨o2,h4,h5⟩:=hov.grows.noIs b _ hv h2.2
     rw[hb] at h4
     rw[Option.some.inj h4];exact h5
    .right;left
     have:=hov.grows.gone b _ hv h2
     rw[hb] at this
     rw[Option.some.inj this];exact h2
    .right;right;left
     rcases h3 with h3|⟨x,h3⟩
     .have:=hov.grows.shut b _ hv h3
      rw[hb] at this
      exact⟨h2,.inl (by rw[Option.some.inj this];exact h3)⟩
     .exact⟨h2,.inr ⟨x,by rw[same (by rw[h3];rfl)];exact h3⟩⟩
    .right;right;right
     exact⟨h2,by rw[same (by revert h3;cases v.heap[b]<;>intro h3<;>first|rfl|(cases h3;done))];exact h3⟩
   .refine .inl ⟨.inr ?_,by
     have:=hov.fresh b o hge hb
     cases o<;>first|rfl|(cases this;done)⟩
    rw[rebase_ge hge]
    have:w2.heap.size=w1.heap.size+((V (T w1)).heap.size-v.heap.size):=hws
    omega
  refine⟨w2,by rw[heq];exact e1,hsz,⟨fun h=>(by cases h),by rw[hws];omega,fun b hb hno=>?_,hov.right.same,fun b hb=>hb,fun e he'=>?_,hov.cells,⟨fun b' o' hb' hc'=>?_,by rw[hov.right.same],by rw[hov.right.same]⟩⟩,⟨hok1,fun a b _ _=>hinj a b,hp1.fix,hov.sim,hheld⟩,fun b o hb hc=>?_⟩
  .by_cases hx:∃c o,v.heap[c]?=some o∧rebase f v w1 c=b∧chanB o=true
   .obtain⟨c,o,hc,rfl,hch⟩:=hx
    have hlt:c<(V (T w1)).heap.size:=by have:=(Array.getElem?_eq_some_iff.1 hc).1;have:v.heap.size≤(V (T w1)).heap.size:=hsz;omega
    have hb1:=Array.getElem?_eq_getElem hlt
    exact(hov.chan c o _ hc hb1 (hCV c o _ hc hch hb1)).2
   .refine hov.keeps b hb fun c o hc e=>?_
    rcases hp1.held c o hc with h2|h2|⟨_,h2⟩|⟨_,h2⟩
    .rw[e] at h2;exact absurd h2.1 hno
    .exact .inl h2
    .rcases h2 with h2|⟨x,rfl⟩
     .exact .inr h2
     .exact absurd ⟨c,_,hc,e,rfl⟩ hx
    .exact absurd ⟨c,o,hc,e,by cases o<;>first|rfl|(cases h2;done)⟩ hx
  .obtain⟨e0,he0,rfl⟩:=Array.mem_map.1 he'
   exact evO_of hX (hev e0 he0) hheld
  .by_cases hx:∃c o,v.heap[c]?=some o∧rebase f v w1 c=b'∧chanB o=true
   .obtain⟨c,o,hc,rfl,hch⟩:=hx
    have hlt:c<(V (T w1)).heap.size:=by have:=(Array.getElem?_eq_some_iff.1 hc).1;have:v.heap.size≤(V (T w1)).heap.size:=hsz;omega
    exact⟨o',by rw[(hov.chan c o _ hc (Array.getElem?_eq_getElem hlt) (hCV c o _ hc hch (Array.getElem?_eq_getElem hlt))).2];exact hb',hc'⟩
   .refine⟨o',?_,hc'⟩
    rw[hov.keeps b' (Array.getElem?_eq_some_iff.1 hb').1 fun c o hc e=>?_]
    .exact hb'
    .obtain⟨o1,h1,h2⟩:=hp1.sim.block c o hc
     rw[e,hb'] at h1
     obtain rfl:=Option.some.inj h1
     exact absurd ⟨c,o,hc,e,stands_chan h2 hc'⟩ hx
  .rcases Nat.lt_or_ge b v.heap.size with hlt|hge
   .have hv:v.heap[b]?=some v.heap[b]:=Array.getElem?_eq_getElem hlt
    exact⟨_,hv,hov.grows.chan hv hb hc⟩
   .have:=hov.fresh b o hge hb
    rw[this] at hc;cases hc
 classical
 refine .step ok.run (fun w1=>gorS (rebase f v w1) B (G (T w1))) (fun w1=>if h:Rely Ro own w w1∧Live w1 then Classical.choose (key w1 h.1 h.2) else w1) (fun w1=>(E (T w1)).map (event (rebase f v w1))) (fun w1 hr hl=>?_) (fun w1 hr hl=>?_)
 .have hk:=Classical.choose_spec (key w1 hr hl)
  simp only[dif_pos (And.intro hr hl)]
  exact⟨hk.1,hk.2.2.1⟩
 .have hk:=Classical.choose_spec (key w1 hr hl)
  simp only[dif_pos (And.intro hr hl)]
  have hg:=hk.2.2.1
  have hmore:∀b,Ro b→b<(Classical.choose (key w1 hr hl)).heap.size∧¬more own w1 (Classical.choose (key w1 hr hl)) b:=fun b hb=>by
   obtain⟨h1,h2⟩:=hRo b hb
   have h3:=hr.size
   have h4:=hg.size
   exact⟨by omega,fun h=>h.elim h2 fun h=>by omega⟩
  refine hnext (T w1) _ _ _ hk.2.2.2.1 ⟨Nat.le_trans hr.size hg.size,fun b hb ho=>?_,hr.cells.trans hg.cells,hr.chans.trans hg.chans⟩ hmore (fun i hi=>rebase_lt hi) hk.2.1 hk.2.2.2.2
  rcases ho with ho|ho
  .obtain⟨h1,h2⟩:=hRo b ho
   exact(hg.keep b (Nat.lt_of_lt_of_le hb hr.size) h2).trans (hr.keep b hb (.inl ho))
  .exact ho.elim
end
section
variable[M:Mps][Spc]{P:Program}{S:FuncId→Prop}
theorem run_tape{α β:Type}{Q:α→β→Prop}{K:Kd}{s:Sem α}{s':Sem β}(h:SRel P id K Q s s'){v v1:World}{a:α}(hn:NV K v)(hr:s.run P v=.ok a v1){t:Nat→Question→Nat}(ht:∀i,v.drawn≤i→i<v1.drawn→t i=v.tape i):∃b,s'.run P (wt v t)=.ok b (wt v1 t)∧Q a b∧NV K v1∧Le v v1:=by
 have hs:Sim (id:Nat→Nat) K v (wt v t):=⟨(sim_same hn).good,(sim_same hn).block⟩
 have e:=Sem.runT_fst P s v #[]
 rw[hr] at e
 generalize hq:s.runT P v #[]=q at e
 obtain⟨q,es⟩:=q
 cases e
 have hle:=h.size hn hq
 have hsz:=hle.size
 obtain⟨b,w1,e1,hQ,hov,_⟩:=h.runT inj_id hs (fun e he=>by simp at he) hq ⟨fun i h1 h2=>(show i=(wt v t).heap.size+(i-v.heap.size) from by show i=v.heap.size+_;omega),fun i h1=>(by show v.heap.size+(v1.heap.size-v.heap.size)≤i;omega),fun i h1 h2=>by
  show t (v.drawn+(i-v.drawn))=_
  rw[show v.drawn+(i-v.drawn)=i by omega]
  exact ht i h1 h2⟩
 have hd:=hov.drawn
 have hdl:=hle.drawn
 have hh:=hov.exact rfl ⟨⟨fun _=>rfl,fun _=>rfl⟩,fun _ _=>rfl⟩ rfl
 have hr':=hov.right.same
 have hv:=hle.same
 have:w1=wt v1 t:=by
  rw[hr',hv]
  unfold wt at hd⊢
  dsimp only at hd⊢
  rw[←hh,show w1.drawn=v1.drawn by omega]
 refine⟨b,?_,hQ,hov.sim.nv,hle⟩
 rw[←Sem.runT_fst P s' _ #[],←this]
 rw[Array.map_empty] at e1
 rw[e1]
def Leaves(P:Program)(fn:FuncId)(Post:Value→World→Prop)(g:Goroutine)(v:World):Prop:=
 ∃fr x,g=G fr [bottom]∧fr.fn=fn∧fr.leaving P v (.returned x)∧Post x v
theorem tree_of_calls(hN:∀fr,NotSp fr)(hnm:∀x,¬Spc.nm x)(hz:ZeroOK P)(hS:SOK P S){fn:FuncId}{args:Array Value}{v:World}{Post:Value→World→Prop}(hP:∀x v t,Post x v→Post x (wt v t))(hok:Ok P S (G (Frame.enter P fn args .normal) [bottom]) v)(h:∀t,Calls P fn args (wt v t) fun e w'=>∃x,e=.returned x∧Post x w'):Tree P S (Leaves P fn Post) (G (Frame.enter P fn args .normal) [bottom]) v:=by
 refine tree_of hN hnm hz hS (fun g v t hok hd=>?_) hok (fun t=>?_)
 .obtain⟨fr,x,rfl,hf,⟨hm,hde,hk,q,hq,hr⟩,hp⟩:=hd
  refine⟨fr,x,rfl,hf,⟨hm,hde,hk,q,hq,?_⟩,hP _ _ _ hp⟩
  have hr0:=r_results (P:=P) (f:=id) (K:=kd P S) q fr.tmps
  obtain⟨b,e1,e2,_⟩:=run_tape hr0 hok.nv hr (t:=t) (fun i h1 h2=>by omega)
  rw[vals_id] at e1
  have e3:b=x:=by have:=e2;unfold ToVal at this;rw[this,val_id]
  rw[e1,e3]
 .obtain⟨e,w',fr,⟨x,rfl,hp⟩,hc,hf,hl⟩:=h t [bottom]
  have hc':Steps P (lone (Frame.enter P fn args .normal) [bottom] (wt v t)) (lone fr [bottom] w'):=hc
  refine⟨G fr [bottom],w',⟨?_,by simp[G]⟩,⟨fr,x,rfl,hf,hl,hp⟩,hc'⟩
  rintro⟨ch,hm⟩
  have:=hl.1
  rw[show fr.mode=.panicking ch from hm] at this
  cases this
end
section
variable[M:Mps]{P:Program}{S:FuncId→Prop}
theorem strict_frame{fr:Frame}(h:FrameGood P S fr):(∀i∈fr.todo,ItemOK P S i)∧(∀d∈fr.defers,DefOK d)∧notPanicking fr.mode∧(fr.kind=.normal∨fr.kind=.deferred):=⟨h.items,h.defers,h.mode,h.kind⟩
theorem strict_ok{g:Goroutine}{v:World}(h:Ok P S g v):NV (kd P S) v∧FrameGood P S g.frame∧P.globals.size≤v.heap.size∧Bound S g v:=⟨h.nv,h.gok.frame,h.glob,nm_none (fun _ h=>h) S▸h.bound⟩
theorem strict_sub(hS:SOK P S){fn:FuncId}{args:Array Value}{v:World}(hfn:S fn)(hn:NV (kd P S) v)(hg:P.globals.size≤v.heap.size)(hb:Bound S (G (Frame.enter P fn args .normal) [bottom]) v):Ok P S (G (Frame.enter P fn args .normal) [bottom]) v:=
 ⟨hn,⟨enter_good hS hfn args (.inl rfl),fun c hc=>by rw[List.mem_singleton.1 hc];exact bottom_good,rfl⟩,rfl,⟨[],rfl⟩,hg,(nm_none (fun _ h=>h) S).symm▸hb,hb.clean⟩
theorem CodeL.loose[Spc]{c:Code}(h:@CodeL M noSp P S c):CodeL P S c:=by
 induction c with
 |region _ ops d=>exact fun o ho=>(h o ho).imp id fun h=>h.elim
 |seq a b iha ihb=>exact⟨iha h.1,ihb h.2⟩
 |cond c a b iha ihb=>exact⟨h.1,iha h.2.1,ihb h.2.2⟩
 |block _ a ih=>exact ih h
 |loop a ih=>exact ih h
 |scope a ih=>exact ih h
 |rangeFunc g ps a b iha ihb=>exact h
 |_=>exact trivial
theorem FrameGood.loose[Spc]{fr:Frame}(h:@FrameGood M noSp P S fr):FrameGood P S fr:=by
 obtain⟨hi0,hd,hm,hk⟩:=strict_frame h
 refine⟨fun i hi=>?_,hd,hm,hk⟩
 have h0:=hi0 i hi
 cases i with
 |code c=>exact CodeL.loose h0
 |inLoop c=>exact CodeL.loose h0
 |inScope c=>exact CodeL.loose h0
 |inRegion ops l=>exact fun o ho=>(h0 o ho).imp id fun h=>h.elim
 |_=>exact h0
theorem Alike.mono{n m:Nat}{F F':Fr}{f f':Nat→Nat}(h:Alike S m F F' f f')(hnm:n≤m):Alike S n F F' f f':=⟨fun i hi=>h.blk i (by omega),h.fid⟩
theorem Ok.step[Spc](hz:ZeroOK P)(hS:SOK P S){g g1:Goroutine}{v v1:World}{es:Array Event}(ok:Ok P S g v)(hns:Fit P g)(hcl:Clean S v→Clean S v1)(h:stepG P true g v=.go g1 v1 es)(hsm:Smooth g1)(hup:Up g1)(hrun:g1.status=.running):Ok P S g1 v1:=by
 obtain⟨_,hle,hnv,hgk⟩:=stepG_tape (m:=true) (m':=true) hz hS ok.nv ok.gok ok.up hns.1 (ok.leads hns _) h hsm hup v.tape (fun _ _ _=>rfl)
 exact⟨hnv,hgk,hrun,hup,Nat.le_trans ok.glob hle.size,closed_step hz hS ok.nv ok.gok ok.up hns.1 (ok.leads hns _) ok.glob h hsm hup (fun _ h=>.inl h) ok.bound,hcl ok.clean⟩
def CleanV(S:FuncId→Prop)(args:Array Value):Prop:=∀(H H':Fr) (h:Nat→Nat),(∀g,S g→H.fid g=H'.fid g)→@vals M H noExt h args=@vals M H' noExt h args
theorem vals_app(H:Fr)(h:Nat→Nat)(a b:Array Value):@vals M H noExt h (a++b)=@vals M H noExt h a ++ @vals M H noExt h b:=by simp[vals]
theorem args_bound[Spc]{fn:FuncId}{args:Array Value}{cs:List Frame}{v:World}(ok:Ok P S (G (Frame.enter P fn args .normal) cs) v)(H H':Fr)(h h':Nat→Nat)(ha:Alike (Nm S) v.heap.size H H' h h'):@vals M H noExt h args=@vals M H' noExt h' args:=by
 obtain⟨h1,_⟩:=ok.bound H H' h h' ha
 have h2:=congrArg (fun g=>g.frame.tmps) h1
 have e:(Frame.enter P fn args .normal).tmps=args++Array.replicate (((P.funcs[fn]?).map (·.ntmps)).getD 0-args.size) undef:=rfl
 have h3:@vals M H noExt h (Frame.enter P fn args .normal).tmps=@vals M H' noExt h' (Frame.enter P fn args .normal).tmps:=h2
 rw[e,vals_app,vals_app] at h3
 exact(Array.append_inj h3 (by simp[vals])).1
theorem Ok.sub[Spc](hS:SOK P S){fn:FuncId}{args:Array Value}{cs:List Frame}{v:World}(hfn:S fn)(ha:CleanV S args)(ok:Ok P S (G (Frame.enter P fn args .normal) cs) v):@Ok M noSp P S (G (Frame.enter P fn args .normal) [bottom]) v:=by
 refine strict_sub hS hfn ok.nv ok.glob fun H H' h h' hal=>⟨?_,ok.objs H H' h h' hal⟩
 unfold gor
 simp only[Goroutine.mk.injEq,and_true,Conc.G,List.map_cons,List.map_nil]
 refine⟨?_,by rw[@bottom_frame M _ H,@bottom_frame M _ H']⟩
 have e1:=@enter_frame M H noExt _ P h fn args .normal
 have e2:=@enter_frame M H' noExt _ P h' fn args .normal
 rw[e1,e2,ha H H' h hal.fid,args_bound ok H' H' h h' ⟨hal.blk,fun _ _=>rfl⟩]
theorem Ok.back[Spc]{fr fr0:Frame}{cs:List Frame}{v v':World}(h:@Ok M noSp P S (G fr [bottom]) v')(ok:Ok P S (G fr0 cs) v)(hsz:v.heap.size≤v'.heap.size):Ok P S (G fr cs) v':=by
 obtain⟨hn,hf,hgl,hb⟩:=strict_ok h
 refine⟨hn,⟨FrameGood.loose hf,ok.gok.callers,rfl⟩,rfl,?_,hgl,fun H H' e e' ha=>?_,hb.clean⟩
 .obtain⟨l,hl⟩:=ok.up
  exact⟨l,hl⟩
 .obtain⟨h1,h2⟩:=hb H H' e e' ha.named
  obtain⟨h3,_⟩:=ok.bound H H' e e' (ha.mono hsz)
  refine⟨?_,h2⟩
  unfold gor at h1 h3⊢
  simp only[Goroutine.mk.injEq,and_true,Conc.G] at h1 h3⊢
  exact⟨h1.1,h3.2⟩
theorem Fit.leaving[Spc]{fr:Frame}{cs:List Frame}{v:World}{x:Value}(hl:fr.leaving P v (.returned x)):Fit P (G fr cs):=
 ⟨fun hm=>(by rw[show(G fr cs).frame.mode=fr.mode from rfl,hl.1] at hm;cases hm),fun v' y h=>(by
  have h':fr.about P v'=some y:=h
  unfold Frame.about at h'
  simp[hl.1,hl.2.1] at h')⟩
theorem Tree.sharp[Spc](hz:ZeroOK P)(hS:SOK P S){D:Goroutine→World→Prop}{g:Goroutine}{v:World}(h:Tree P S D g v):Tree P S (fun g' v'=>D g' v'∧Ok P S g' v'∧v.heap.size≤v'.heap.size) g v:=by
 have key:∀n,n≤v.heap.size→Tree P S (fun g' v'=>D g' v'∧Ok P S g' v'∧n≤v'.heap.size) g v:=by
  induction h with
  |done ok h=>exact fun n hn=>.done ok ⟨h,ok,hn⟩
  |@step g v ok hns Gs Vs Es he hsm htr ih=>
   intro n hn
   refine .step ok hns Gs Vs Es he hsm fun t=>ih t n ?_
   obtain⟨hsz,_⟩:=chan_step hz hS (ok.wt t) hns (he t) (hsm t) (htr t).ok.ne
   exact Nat.le_trans hn hsz
 exact key _ (Nat.le_refl _)
theorem leave_step'{fr c:Frame}{cs:List Frame}{v:World}{x:Value}(hn:NV (kd P S) v)(hl:fr.leaving P v (.returned x)):∃E:(Nat→Question→Nat)→Array Event,∀t,stepG P true (G fr (c::cs)) (wt v t)=.go (G (c.finish x) cs) (wt v t) (E t):=by
 obtain⟨hm,hde,hk,q,hq,hr⟩:=hl
 have key:∀t,∃es,stepG P true (G fr (c::cs)) (wt v t)=.go (G (c.finish x) cs) (wt v t) es:=fun t=>by
  have hr0:=r_results (P:=P) (f:=id) (K:=kd P S) q fr.tmps
  obtain⟨b,e1,e2,_⟩:=run_tape hr0 hn hr (t:=t) (fun i h1 h2=>by omega)
  rw[vals_id] at e1
  have e3:b=x:=by have:=e2;unfold ToVal at this;rw[this,val_id]
  subst e3
  have e0:=Sem.runT_fst P (results q fr.tmps) (wt v t) #[]
  rw[e1] at e0
  generalize hrun:(results q fr.tmps).runT P (wt v t) #[]=z at e0
  obtain⟨z,es⟩:=z
  cases e0
  refine⟨seen P fr.fn es,?_⟩
  unfold Conc.G stepG
  simp only[hm]
  unfold unwind
  simp only[hde,hm,hq,hrun,doReturn,hk,GStep.after]
  simp
 exact⟨fun t=>Classical.choose (key t),fun t=>Classical.choose_spec (key t)⟩
def NamedV[Spc](S:FuncId→Prop)(n:Nat)(args:Array Value):Prop:=∀(H H':Fr) (h h':Nat→Nat),Alike (Nm S) n H H' h h'→@vals M H noExt h args=@vals M H' noExt h' args
theorem Ok.enter[Spc]{fr:Frame}{cs:List Frame}{fn:FuncId}{args:Array Value}{v:World}(ok:Ok P S (G fr cs) v)(hgood:FrameGood P S (Frame.enter P fn #[] .normal))(ha:NamedV S v.heap.size args):Ok P S (G (Frame.enter P fn args .normal) (fr::cs)) v:=by
 refine⟨ok.nv,⟨⟨fun i hi=>hgood.items i (by simpa[Conc.G,Frame.enter] using hi),fun d hd=>(by simp[Conc.G,Frame.enter] at hd),trivial,.inl rfl⟩,fun c hc=>?_,rfl⟩,rfl,?_,ok.glob,fun H H' h h' hal=>?_,ok.clean⟩
 .rcases List.mem_cons.1 hc with rfl|hc
  .exact ok.gok.frame
  .exact ok.gok.callers c hc
 .obtain⟨l,hl⟩:=ok.up
  exact⟨fr::l,by show fr::cs=_;rw[show cs=l++[bottom] from hl];rfl⟩
 .obtain⟨h1,h2⟩:=ok.bound H H' h h' hal
  refine⟨?_,h2⟩
  unfold gor at h1⊢
  simp only[Goroutine.mk.injEq,and_true,Conc.G,List.map_cons] at h1⊢
  have e1:=@enter_frame M H noExt _ P h fn args .normal
  have e2:=@enter_frame M H' noExt _ P h' fn args .normal
  exact⟨by rw[e1,e2,ha H H' h h' hal],by rw[h1.1,h1.2]⟩
theorem named_eval[Spc]{fr:Frame}{cs:List Frame}{v:World}(ok:Ok P S (G fr cs) v){x:Operand}(hx:OpndOK P (Nm S) x)(H H':Fr)(h h':Nat→Nat)(ha:Alike (Nm S) v.heap.size H H' h h'):@val M H noExt h (fr.eval x)=@val M H' noExt h' (fr.eval x):=by
 cases x with
 |tmp t=>
  obtain⟨h1,_⟩:=ok.bound H H' h h' ha
  have h2:=congrArg (fun g=>g.frame.tmps) h1
  have h3:@vals M H noExt h fr.tmps=@vals M H' noExt h' fr.tmps:=h2
  show @val M H noExt h (fr.tmps.getD t undef)=@val M H' noExt h' (fr.tmps.getD t undef)
  rw[←@getD_vals M H noExt _ h fr.tmps t,←@getD_vals M H' noExt _ h' fr.tmps t,h3]
 |const c=>exact(@closedB_closed M H noExt c hx h).trans (@closedB_closed M H' noExt c hx h').symm
 |global g=>
  have hg:g<P.globals.size:=hx
  show @val M H noExt h (.pointer (some ⟨g,0,none⟩))=@val M H' noExt h' (.pointer (some ⟨g,0,none⟩))
  rw[x_pointer,x_pointer]
  simp[addr,ha.blk g (Nat.lt_of_lt_of_le hg ok.glob)]
 |func g=>
  show @val M H noExt h (.func (.func g) #[] #[])=@val M H' noExt h' (.func (.func g) #[] #[])
  rw[x_func,x_func]
  have e:@fn H h (.func g)=@fn H' h' (.func g):=congrArg Fn.func (ha.fid g hx)
  rw[e];simp
theorem named_evals[Spc]{fr:Frame}{cs:List Frame}{v:World}(ok:Ok P S (G fr cs) v){xs:Array Operand}(hx:∀x∈xs,OpndOK P (Nm S) x):NamedV S v.heap.size (xs.map fr.eval):=fun H H' h h' ha=>by
 unfold vals
 rw[Array.map_map,Array.map_map]
 exact Array.map_congr_left fun x hx'=>named_eval ok (hx x hx') H H' h h' ha
theorem Ok.put[Spc]{fr:Frame}{cs:List Frame}{x:Value}{v:World}(ok:Ok P S (G fr cs) v)(hx:NamedV S v.heap.size #[x]):Ok P S (G (fr.finish x) cs) v:=by
 refine⟨ok.nv,⟨ok.gok.frame.finish x,ok.gok.callers,rfl⟩,rfl,ok.up,ok.glob,fun H H' h h' hal=>?_,ok.clean⟩
 obtain⟨h1,h2⟩:=ok.bound H H' h h' hal
 refine⟨?_,h2⟩
 unfold gor at h1⊢
 simp only[Goroutine.mk.injEq,and_true,Conc.G] at h1⊢
 refine⟨?_,h1.2⟩
 have e1:=@finish_frame M H noExt P h S _ fr x ok.gok.frame.items
 have e2:=@finish_frame M H' noExt P h' S _ fr x ok.gok.frame.items
 have e3:@val M H noExt h x=@val M H' noExt h' x:=by
  have:=hx H H' h h' hal
  unfold vals at this
  simpa using this
 rw[←e1,←e2,h1.1,e3]
inductive LTree [Spc] (P:Program) (S:FuncId→Prop) (D:Goroutine→World→Prop):Goroutine→World→Prop
 |done {g:Goroutine} {v:World} (h:D g v):LTree P S D g v
 |step {g:Goroutine} {v:World} (hns:Fit P g)
   (Gs:(Nat→Question→Nat)→Goroutine) (Vs:(Nat→Question→Nat)→World) (Es:(Nat→Question→Nat)→Array Event)
   (he:∀t,stepG P true g (wt v t)=.go (Gs t) (Vs t) (Es t)) (hsm:∀t,Smooth (Gs t)) (hcl:∀t,Clean S v→Clean S (Vs t)) (hup:∀t,Up (Gs t)) (hrun:∀t,(Gs t).status=.running) (h:∀t,LTree P S D (Gs t) (Vs t)):LTree P S D g v
 |call {fn:FuncId} {args:Array Value} {c:Frame} {cs:List Frame} {v:World} {Post:Value→World→Prop} (hfn:S fn) (hargs:CleanV S args) (hcs:cs≠[]) (hP:∀x v t,Post x v→Post x (wt v t))
   (hc:∀t,Calls P fn args (wt v t) fun e w'=>∃x,e=.returned x∧Post x w')
   (next:∀x v',Post x v'→v.heap.size≤v'.heap.size→LTree P S D (G (c.finish x) cs) v'):LTree P S D (G (Frame.enter P fn args .normal) (c::cs)) v
 |enter {fr:Frame} {cs:List Frame} {fn:FuncId} {xs:Array Operand} {v:World} (hgood:FrameGood P S (Frame.enter P fn #[] .normal)) (hxs:∀x∈xs,OpndOK P (Nm S) x)
   (hst:∀ [Ext] (f:Nat→Nat) (m:Bool) (cs':List Frame) (w:World),Fix P f→stepG P m (G (frame f fr) cs') w=.go (G (Frame.enter P fn (vals f (xs.map fr.eval)) .normal) (frame f fr::cs')) w #[])
   (next:LTree P S D (G (Frame.enter P fn (xs.map fr.eval) .normal) (fr::cs)) v):LTree P S D (G fr cs) v
 |put {fr:Frame} {cs:List Frame} {x:Value} {v:World} (hx:Ok P S (G fr cs) v→NamedV S v.heap.size #[x])
   (hst:Ok P S (G fr cs) v→∀ [Ext] (f:Nat→Nat) (m:Bool) (cs':List Frame) (w:World),Fix P f→stepG P m (G (frame f fr) cs') w=.go (G (frame f (fr.finish x)) cs') w #[])
   (next:LTree P S D (G (fr.finish x) cs) v):LTree P S D (G fr cs) v
section
variable[Spc]
theorem ok_finish(hz:ZeroOK P)(hS:SOK P S){fr c:Frame}{cs:List Frame}{v:World}{x:Value}(ok:Ok P S (G fr (c::cs)) v)(hcs:cs≠[])(hl:fr.leaving P v (.returned x))(hc:notPanicking c.mode):Ok P S (G (c.finish x) cs) v:=by
 obtain⟨E,he⟩:=leave_step' (c:=c) (cs:=cs) ok.nv hl
 have hup:Up (G (c.finish x) cs):=by
  obtain⟨l,hl⟩:=ok.up
  cases l with
  |nil=>simp only[Conc.G,List.nil_append,List.cons.injEq] at hl;exact absurd hl.2 hcs
  |cons a l=>simp only[Conc.G,List.cons_append,List.cons.injEq] at hl;exact⟨l,hl.2⟩
 have hm:(c.finish x).mode=c.mode:=by
  unfold Frame.finish
  split<;>rfl
 exact ok.step hz hS (.leaving hl) (fun h=>h) (he v.tape) ⟨rfl,.inl rfl,by show notPanicking (c.finish x).mode;rw[hm];exact hc⟩ hup rfl
end
end
section
variable[M:Mps][E:Ext]{P:Program}{S:FuncId→Prop}
theorem sub_tree(hz:ZeroOK P)(hS:SOK P S){fn:FuncId}{args:Array Value}{v:World}{Post:Value→World→Prop}(hP:∀x v t,Post x v→Post x (wt v t))(hok:Ok P S (G (Frame.enter P fn args .normal) [bottom]) v)(h:∀t,Calls P fn args (wt v t) fun e w'=>∃x,e=.returned x∧Post x w'):Tree P S (fun g' v'=>Leaves P fn Post g' v'∧Ok P S g' v'∧v.heap.size≤v'.heap.size) (G (Frame.enter P fn args .normal) [bottom]) v:=
 (tree_of_calls notSp_no (fun _ h=>h) hz hS hP hok h).sharp hz hS
theorem sub_chan(hz:ZeroOK P)(hS:SOK P S){C:Nat→Prop}{D:Goroutine→World→Prop}(hD:∀g v,D g v→∀b,C b→∀o,v.heap[b]?=some o→chanB o=true){g:Goroutine}{v:World}(ht:Tree P S D g v):∀b,C b→∀o,v.heap[b]?=some o→chanB o=true:=tree_chan hz hS hD ht
theorem sub_way(hz:ZeroOK P)(hS:SOK P S){m:Bool}{Ro Hid:Nat→Prop}{Live:World→Prop}{X:Event→Prop}(hX:∀e r,Hid r→e.loc=.obj r→e.write=false→e.sync=true→X e){Stop:Goroutine→World→(Nat→Prop)→Prop}{D:Goroutine→World→Prop}{B:List Frame}{C:Nat→Prop}(hD:∀g v,D g v→∀b,C b→∀o,v.heap[b]?=some o→chanB o=true){n0:Nat}{f0:Nat→Nat}{w0:World}{g:Goroutine}{v:World}(ht:Tree P S D g v){f:Nat→Nat}{w:World}{own:Nat→Prop}(ok:Ok P S g v)(hw:Rely Ro (fun _=>False) w0 w)(hRo:∀b,Ro b→b<w.heap.size∧¬own b)(hinj:∀a b,a<v.heap.size→b<v.heap.size→f a=f b→a=b)(hfix:∀g,g<P.globals.size→f g=g)(hsim:Sim f (kd P S) v w)(hheld:∀b o,v.heap[b]?=some o→Held Ro own Hid (f b) o)(ha:∀i,i<n0→f i=f0 i)(hn:n0≤v.heap.size)(hC:∀(b:Nat) (o:Obj),v.heap[b]?=some o→chanB o=true→C b)(hstop:∀g v f w own,D g v→Ok P S g v→Rely Ro (fun _=>False) w0 w→(∀b,Ro b→b<w.heap.size∧¬own b)→(∀a b,a<v.heap.size→b<v.heap.size→f a=f b→a=b)→(∀g,g<P.globals.size→f g=g)→Sim f (kd P S) v w→(∀b o,v.heap[b]?=some o→Held Ro own Hid (f b) o)→(∀i,i<n0→f i=f0 i)→n0≤v.heap.size→(∀(b:Nat) (o:Obj),v.heap[b]?=some o→chanB o=true→C b)→Way P m Ro Live false X Stop (gorS f B g) w own):Way P m Ro Live false X Stop (gorS f B g) w own:=by
 have key:∀{g:Goroutine} {v:World},Tree P S D g v→∀{f:Nat→Nat} {w:World} {own:Nat→Prop},Priv P S Ro own Hid f g v w→Rely Ro (fun _=>False) w0 w→(∀b,Ro b→b<w.heap.size∧¬own b)→(∀i,i<n0→f i=f0 i)→n0≤v.heap.size→(∀(b:Nat) (o:Obj),v.heap[b]?=some o→chanB o=true→C b)→Way P m Ro Live false X Stop (gorS f B g) w own:=by
  intro g v ht
  induction ht with
  |done ok h=>intro f w own hp hw hRo ha hn hC;exact hstop _ _ _ _ _ h hp.ok hw hRo hp.inj hp.fix hp.sim hp.held ha hn hC
  |@step g v ok hns G V E he hsm htr ih=>
   intro f w own hp hw hRo hag hn0 hC
   refine way_step hz hS hX ok hns he hsm (fun t=>(htr t).ok) hp (fun t b o o1 hb hc hb1=>tree_chan hz hS hD (htr t) b (hC b o hb hc) o1 hb1) hRo fun t f' w' own' hp' hw' hRo' ha' hsz hc'=>?_
   exact ih t hp' (hw.trans hw') hRo' (fun i hi=>(ha' i (Nat.lt_of_lt_of_le hi hn0)).trans (hag i hi)) (Nat.le_trans hn0 hsz) fun b o hb hc=>by
    obtain⟨o0,h1,h2⟩:=hc' b o hb hc
    exact hC b o0 h1 h2
 exact key ht ⟨ok,hinj,hfix,hsim,hheld⟩ hw hRo ha hn hC
section
variable[Spc]
theorem ltree_chan(hz:ZeroOK P)(hS:SOK P S){C:Nat→Prop}{D:Goroutine→World→Prop}(hD:∀g v,D g v→∀b,C b→∀o,v.heap[b]?=some o→chanB o=true){g:Goroutine}{v:World}(ht:LTree P S D g v):Ok P S g v→∀b,C b→∀o,v.heap[b]?=some o→chanB o=true:=by
 induction ht with
 |done h=>exact fun _=>hD _ _ h
 |@step g v hns Gs Vs Es he hsm hcl hup hrun htr ih=>
  intro ok b hb o ho
  let t:Nat→Question→Nat:=fun _ _=>0
  have ok1:=(ok.wt t).step hz hS hns (hcl t) (he t) (hsm t) (hup t) (hrun t)
  obtain⟨hsz,h1⟩:=chan_step hz hS (ok.wt t) hns (he t) (hsm t) ok1.ne
  have hlt:b<(Vs t).heap.size:=by have:=(Array.getElem?_eq_some_iff.1 ho).1;have:v.heap.size≤(Vs t).heap.size:=hsz;omega
  exact h1 b o _ ho (Array.getElem?_eq_getElem hlt) (ih t ok1 b hb _ (Array.getElem?_eq_getElem hlt))
 |@call fn args c cs v Post hfn hargs hcs hP hc next ih=>
  intro ok b hb o ho
  have ht:=sub_tree hz hS hP (Ok.sub hS hfn hargs ok) hc
  refine sub_chan hz hS (fun g' v' hd b hb o ho=>?_) ht b hb o ho
  obtain⟨⟨fr,x,rfl,hf,hl,hp⟩,hok',hsz⟩:=hd
  have ok2:Ok P S (G fr (c::cs)) v':=Ok.back hok' ok hsz
  exact ih x v' hp hsz (ok_finish hz hS ok2 hcs hl (ok.gok.callers c (List.mem_cons_self ..)).mode) b hb o ho
 |@enter fr cs fn xs v hgood hxs hst next ih=>
  intro ok
  exact ih (ok.enter hgood (named_evals ok hxs))
 |@put fr cs x v hx hst next ih=>
  intro ok
  exact ih (ok.put (hx ok))
theorem way_of_ltree(hz:ZeroOK P)(hS:SOK P S){m:Bool}{Ro Hid:Nat→Prop}{Live:World→Prop}{X:Event→Prop}(hX:∀e r,Hid r→e.loc=.obj r→e.write=false→e.sync=true→X e){Stop:Goroutine→World→(Nat→Prop)→Prop}{D:Goroutine→World→Prop}{B:List Frame}{C:Nat→Prop}(hD:∀g v,D g v→∀b,C b→∀o,v.heap[b]?=some o→chanB o=true){n0:Nat}{f0:Nat→Nat}{w0:World}(hstop:∀g v f w own,D g v→Priv P S Ro own Hid f g v w→Rely Ro (fun _=>False) w0 w→(∀b,Ro b→b<w.heap.size∧¬own b)→(∀i,i<n0→f i=f0 i)→n0≤v.heap.size→Way P m Ro Live false X Stop (gorS f B g) w own){g:Goroutine}{v:World}(ht:LTree P S D g v):∀{f:Nat→Nat} {w:World} {own:Nat→Prop},Priv P S Ro own Hid f g v w→Rely Ro (fun _=>False) w0 w→(∀b,Ro b→b<w.heap.size∧¬own b)→(∀i,i<n0→f i=f0 i)→n0≤v.heap.size→(∀(b:Nat) (o:Obj),v.heap[b]?=some o→chanB o=true→C b)→Way P m Ro Live false X Stop (gorS f B g) w own:=by
 induction ht with
 |done h=>intro f w own hp hw hRo ha hn _;exact hstop _ _ _ _ _ h hp hw hRo ha hn
 |@step g v hns Gs Vs Es he hsm hcl hup hrun htr ih=>
  intro f w own hp hw hRo hag hn0 hC
  have hok':=fun t=>(hp.ok.wt t).step hz hS hns (hcl t) (he t) (hsm t) (hup t) (hrun t)
  refine way_step hz hS hX hp.ok hns he hsm hok' hp (fun t b o o1 hb hc hb1=>ltree_chan hz hS hD (htr t) (hok' t) b (hC b o hb hc) o1 hb1) hRo fun t f' w' own' hp' hw' hRo' ha' hsz hc'=>?_
  exact ih t hp' (hw.trans hw') hRo' (fun i hi=>(ha' i (Nat.lt_of_lt_of_le hi hn0)).trans (hag i hi)) (Nat.le_trans hn0 hsz) fun b o hb hc=>by
   obtain⟨o0,h1,h2⟩:=hc' b o hb hc
   exact hC b o0 h1 h2
 |@call fn args c cs v Post hfn hargs hcs hP hc next ih=>
  intro f w own hp hw hRo hag hn0 hC
  have hpok:=hp.ok
  have ht:=sub_tree hz hS hP (Ok.sub hS hfn hargs hpok) hc
  have under:∀(f':Nat→Nat) (fr:Frame),stk f' B (c::cs)=stk f B (c::cs)→gorS f' (stk f B (c::cs)) (G fr [bottom])=gorS f' B (G fr (c::cs)):=fun f' fr h3=>by
   have h4:stk f' (stk f B (c::cs)) [bottom]=stk f' B (c::cs):=by
    have:=stk_up f' (stk f B (c::cs)) bottom []
    rw[List.nil_append] at this
    rw[this,h3];rfl
   unfold gorS gor
   dsimp only[Conc.G]
   rw[h4]
  have e0:=under f (Frame.enter P fn args .normal) rfl
  rw[←e0]
  refine sub_way (n0:=v.heap.size) (f0:=f) hz hS hX (C:=C) (fun g' v' hd b hb o ho=>?_) ht (Ok.sub hS hfn hargs hpok) hw hRo hp.inj hp.fix hp.sim hp.held (fun _ _=>rfl) (Nat.le_refl _) hC ?_
  .obtain⟨⟨fr,x,rfl,hf,hl,hpo⟩,hok',hsz⟩:=hd
   have ok2:Ok P S (G fr (c::cs)) v':=Ok.back hok' hpok hsz
   exact ltree_chan hz hS hD (next x v' hpo hsz) (ok_finish hz hS ok2 hcs hl (hpok.gok.callers c (List.mem_cons_self ..)).mode) b hb o ho
  .rintro g' v' f' w' own' ⟨⟨fr,x,rfl,hf,hl,hpo⟩,hok',hsz⟩ _ hw' hRo' hinj' hfix' hsim' hheld' ha' hn' hC'
   have ok2:Ok P S (G fr (c::cs)) v':=Ok.back hok' hpok hsz
   have ok3:=ok_finish hz hS ok2 hcs hl (hpok.gok.callers c (List.mem_cons_self ..)).mode
   obtain⟨E,he⟩:=leave_step' (c:=c) (cs:=cs) ok2.nv hl
   have e1:gorS f' (stk f B (c::cs)) (G fr [bottom])=gorS f' B (G fr (c::cs)):=by
    have h1:=gor_ext (M:=M) (hpok.bound frId frId f f' ⟨fun i hi=>(ha' i hi).symm,fun _ _=>rfl⟩).1
    have h2:=gorS_congr (B:=B) h1 hpok.up
    have h3:stk f B (c::cs)=stk f' B (c::cs):=congrArg Goroutine.callers h2
    exact under f' fr h3.symm
   rw[e1]
   have hp2:Priv P S Ro own' Hid f' (G fr (c::cs)) v' w':=⟨ok2,hinj',hfix',hsim',hheld'⟩
   have hm:(c.finish x).mode=c.mode:=by unfold Frame.finish;split<;>rfl
   refine way_step hz hS hX ok2 (.leaving hl) he (fun t=>⟨rfl,.inl rfl,by show notPanicking (c.finish x).mode;rw[hm];exact(hpok.gok.callers c (List.mem_cons_self ..)).mode⟩) (fun t=>ok3.wt t) hp2 (fun t b o o1 hb hc hb1=>?_) hRo' fun t f'' w'' own'' hp'' hw'' hRo'' ha'' hsz'' hc''=>?_
   .have:(wt v' t).heap[b]?=some o:=hb
    rw[this] at hb1
    rw[←Option.some.inj hb1];exact hc
   .have hp3:Priv P S Ro own'' Hid f'' (G (c.finish x) cs) v' w'':=⟨ok3,hp''.inj,hp''.fix,⟨hp''.sim.good,hp''.sim.block⟩,hp''.held⟩
    refine ih x v' hpo hsz hp3 (hw'.trans hw'') hRo'' (fun i hi=>?_) (Nat.le_trans hn0 hsz) fun b o hb hc=>?_
    .rw[ha'' i (Nat.lt_of_lt_of_le hi (Nat.le_trans hn0 hsz)),ha' i (Nat.lt_of_lt_of_le hi hn0)];exact hag i hi
    .exact hC' b o hb hc
 |@enter fr cs fn xs v hgood hxs hst next ih=>
  intro f w own hp hw hRo hag hn0 hC
  have hcs:cs≠[]:=hp.ok.ne
  have e2:∀f',gorS f' B (G (Frame.enter P fn (xs.map fr.eval) .normal) (fr::cs))=G (Frame.enter P fn (vals f' (xs.map fr.eval)) .normal) (frame f' fr::stk f' B cs):=fun f'=>by
   unfold gorS gor
   dsimp only[Conc.G]
   rw[enter_frame,stk_cons hcs]
  refine .step hp.ok.run (fun w1=>gorS (rebase f v w1) B (G (Frame.enter P fn (xs.map fr.eval) .normal) (fr::cs))) id (fun _=>#[]) (fun w1 hr _=>?_) (fun w1 hr _=>?_)
  .obtain⟨hp1,_,heq⟩:=hp.rely hr B
   refine⟨?_,⟨fun _=>⟨rfl,rfl⟩,Nat.le_refl _,fun _ _ _=>rfl,rfl,fun b hb=>hb,fun e he=>(by simp at he),.refl _,.refl _⟩⟩
   rw[heq,e2]
   exact hst _ m _ w1 hp1.fix
  .obtain⟨hp1,_,_⟩:=hp.rely hr B
   have hmore:∀b,more own w1 w1 b→own b:=fun b hb=>hb.elim id fun h=>by omega
   have hsz:=hr.size
   refine ih ⟨hp.ok.enter hgood (named_evals hp.ok hxs),hp1.inj,hp1.fix,hp1.sim,fun b o hb=>(hp1.held b o hb).imp (And.imp_left .inl) id⟩ (hw.trans ⟨hr.size,fun b hb ho=>?_,hr.cells,hr.chans⟩) (fun b hb=>?_) (fun i hi=>(rebase_lt (Nat.lt_of_lt_of_le hi hn0)).trans (hag i hi)) hn0 hC
   .rcases ho with ho|ho
    .exact hr.keep b hb (.inl ho)
    .exact ho.elim
   .obtain⟨h1,h2⟩:=hRo b hb
    exact⟨by show b<w1.heap.size;omega,fun h=>h2 (hmore b h)⟩
 |@put fr cs x v hx hst next ih=>
  intro f w own hp hw hRo hag hn0 hC
  have e2:∀f' (fr:Frame),gorS f' B (G fr cs)=G (frame f' fr) (stk f' B cs):=fun f' fr=>rfl
  refine .step hp.ok.run (fun w1=>gorS (rebase f v w1) B (G (fr.finish x) cs)) id (fun _=>#[]) (fun w1 hr _=>?_) (fun w1 hr _=>?_)
  .obtain⟨hp1,_,heq⟩:=hp.rely hr B
   refine⟨?_,⟨fun _=>⟨rfl,rfl⟩,Nat.le_refl _,fun _ _ _=>rfl,rfl,fun b hb=>hb,fun e he=>(by simp at he),.refl _,.refl _⟩⟩
   rw[heq,e2,e2]
   exact hst hp.ok _ m _ w1 hp1.fix
  .obtain⟨hp1,_,_⟩:=hp.rely hr B
   have hmore:∀b,more own w1 w1 b→own b:=fun b hb=>hb.elim id fun h=>by omega
   have hsz:=hr.size
   refine ih ⟨hp.ok.put (hx hp.ok),hp1.inj,hp1.fix,hp1.sim,fun b o hb=>(hp1.held b o hb).imp (And.imp_left .inl) id⟩ (hw.trans ⟨hr.size,fun b hb ho=>?_,hr.cells,hr.chans⟩) (fun b hb=>?_) (fun i hi=>(rebase_lt (Nat.lt_of_lt_of_le hi hn0)).trans (hag i hi)) hn0 hC
   .rcases ho with ho|ho
    .exact hr.keep b hb (.inl ho)
    .exact ho.elim
   .obtain⟨h1,h2⟩:=hRo b hb
    exact⟨by show b<w1.heap.size;omega,fun h=>h2 (hmore b h)⟩
end
end
section
variable[Spc]{P:Program}{S:FuncId→Prop}
theorem way_step_dr(hz:ZeroOK P)(hS:SOK P S){m:Bool}{Ro Hid:Nat→Prop}{Live:World→Prop}{X:Event→Prop}(hX:∀e r,Hid r→e.loc=.obj r→e.write=false→e.sync=true→X e){Stop:Goroutine→World→(Nat→Prop)→Prop}{B:List Frame}{g:Goroutine}{v:World}(ok:Ok P S g v)(hns:Fit P g){G:(Nat→Question→Nat)→Goroutine}{V:(Nat→Question→Nat)→World}{E:(Nat→Question→Nat)→Array Event}(he:∀t,stepG P true g (wt v t)=.go (G t) (V t) (E t))(hsm:∀t,Smooth (G t))(hok':∀t,Ok P S (G t) (V t)){f:Nat→Nat}{w:World}{own:Nat→Prop}(hp:Priv P S Ro own Hid f g v w)(hC:∀t (b:Nat) (o o1:Obj),v.heap[b]?=some o→chanB o=true→(V t).heap[b]?=some o1→chanB o1=true)(hRo:∀b,Ro b→b<w.heap.size∧¬own b){dr:Goroutine→Goroutine}(hds:∀g,(dr g).status=g.status)(hdr:∀(t:Nat→Question→Nat) (f':Nat→Nat) (w1 w2:World) (es:Array Event),Inj f'→(∀g,g<P.globals.size→f' g=g)→Sim f' (kd P S) (wt v t) w1→Fresh f' (wt v t) (V t) w1→stepG P m (gorS f' B g) w1=.go (gorS f' B (G t)) w2 es→stepG P m (dr (gorS f' B g)) w1=.go (dr (gorS f' B (G t))) w2 es)(hnext:∀t f' w' own',Priv P S Ro own' Hid f' (G t) (V t) w'→Rely Ro (fun _=>False) w w'→(∀b,Ro b→b<w'.heap.size∧¬own' b)→(∀i,i<v.heap.size→f' i=f i)→v.heap.size≤(V t).heap.size→(∀(b:Nat) (o:Obj),(V t).heap[b]?=some o→chanB o=true→∃o0,v.heap[b]?=some o0∧chanB o0=true)→Way P m Ro Live false X Stop (dr (gorS f' B (G t))) w' own'):Way P m Ro Live false X Stop (dr (gorS f B g)) w own:=by
 let T:World→Nat→Question→Nat:=fun w1 i=>w1.tape (w1.drawn+(i-v.drawn))
 have key:∀w1,Rely Ro own w w1→Live w1→∃w2,stepG P m (gorS f B g) w1=.go (gorS (rebase f v w1) B (G (T w1))) w2 ((E (T w1)).map (event (rebase f v w1)))∧v.heap.size≤(V (T w1)).heap.size ∧
   Guar false X Ro own (more own w1 w2) w1 w2 ((E (T w1)).map (event (rebase f v w1))) ∧
   Priv P S Ro (more own w1 w2) Hid (rebase f v w1) (G (T w1)) (V (T w1)) w2∧(∀b o,(V (T w1)).heap[b]?=some o→chanB o=true→∃o0,v.heap[b]?=some o0∧chanB o0=true):=fun w1 hr hl=>by
  obtain⟨hp1,hinj,heq⟩:=hp.rely hr B
  have hok1:=hok' (T w1)
  have hs1:Sim (rebase f v w1) (kd P S) (wt v (T w1)) w1:=⟨hp1.sim.good,hp1.sim.block⟩
  have h0:=stepG_step (f:=rebase f v w1) (B:=B) (m:=true) (m':=m) hinj hp1.fix hz hS hs1 ok.gok ok.ne (met_id _) hns.1 (ok.leads hns _)
  rw[he (T w1)] at h0
  obtain⟨hle,h1⟩:=h0 (hsm (T w1))
  have hsz:=hle.size
  have hfr:Fresh (rebase f v w1) (wt v (T w1)) (V (T w1)) w1:=by
   refine⟨fun i h2 h3=>rebase_ge h2,fun i h2=>?_,fun i h2 h3=>rfl⟩
   rw[rebase_ge (show v.heap.size≤i from Nat.le_trans hsz h2)]
   show w1.heap.size+((V (T w1)).heap.size-v.heap.size)≤_
   omega
  obtain⟨w2,e1,hov,hev,hg1⟩:=h1 hok1.ne hfr
  have hws:=hov.size
  have hCV:∀b o o1,v.heap[b]?=some o→chanB o=true→(V (T w1)).heap[b]?=some o1→chanB o1=true:=fun b o o1 hb hc hb1=>hC (T w1) b o o1 hb hc hb1
  have hheld:∀b o,(V (T w1)).heap[b]?=some o→Held Ro (more own w1 w2) Hid (rebase f v w1 b) o:=fun b o hb=>by
   have hblt:=(Array.getElem?_eq_some_iff.1 hb).1
   rcases Nat.lt_or_ge b v.heap.size with hlt|hge
   .have hv:v.heap[b]?=some v.heap[b]:=Array.getElem?_eq_getElem hlt
    have same:chanB v.heap[b]=true→o=v.heap[b]:=fun hc0=>by
     have:=(hov.chan b _ o hv hb (hCV b _ o hv hc0 hb)).1
     have h9:(wt v (T w1)).heap[b]?=some v.heap[b]:=hv
     rw[hb,h9] at this
     exact Option.some.inj this
    rcases hp1.held b _ hv with h2|h2|⟨h2,h3⟩|⟨h2,h3⟩
    .refine .inl ⟨.inl h2.1,?_⟩
     obtain⟨o2,h4,h5⟩:=hov.grows.noIs b _ hv h2.2
     rw[hb] at h4
     rw[Option.some.inj h4];exact h5
    .right;left
     have:=hov.grows.gone b _ hv h2
     rw[hb] at this
     rw[Option.some.inj this];exact h2
    .right;right;left
     rcases h3 with h3|⟨x,h3⟩
     .have:=hov.grows.shut b _ hv h3
      rw[hb] at this
      exact⟨h2,.inl (by rw[Option.some.inj this];exact h3)⟩
     .exact⟨h2,.inr ⟨x,by rw[same (by rw[h3];rfl)];exact h3⟩⟩
    .right;right;right
     exact⟨h2,by rw[same (by revert h3;cases v.heap[b]<;>intro h3<;>first|rfl|(cases h3;done))];exact h3⟩
   .refine .inl ⟨.inr ?_,by
     have:=hov.fresh b o hge hb
     cases o<;>first|rfl|(cases this;done)⟩
    rw[rebase_ge hge]
    have:w2.heap.size=w1.heap.size+((V (T w1)).heap.size-v.heap.size):=hws
    omega
  refine⟨w2,by rw[heq];exact e1,hsz,⟨fun h=>(by cases h),by rw[hws];omega,fun b hb hno=>?_,hov.right.same,fun b hb=>hb,fun e he'=>?_,hov.cells,⟨fun b' o' hb' hc'=>?_,by rw[hov.right.same],by rw[hov.right.same]⟩⟩,⟨hok1,fun a b _ _=>hinj a b,hp1.fix,hov.sim,hheld⟩,fun b o hb hc=>?_⟩
  .by_cases hx:∃c o,v.heap[c]?=some o∧rebase f v w1 c=b∧chanB o=true
   .obtain⟨c,o,hc,rfl,hch⟩:=hx
    have hlt:c<(V (T w1)).heap.size:=by have:=(Array.getElem?_eq_some_iff.1 hc).1;have:v.heap.size≤(V (T w1)).heap.size:=hsz;omega
    have hb1:=Array.getElem?_eq_getElem hlt
    exact(hov.chan c o _ hc hb1 (hCV c o _ hc hch hb1)).2
   .refine hov.keeps b hb fun c o hc e=>?_
    rcases hp1.held c o hc with h2|h2|⟨_,h2⟩|⟨_,h2⟩
    .rw[e] at h2;exact absurd h2.1 hno
    .exact .inl h2
    .rcases h2 with h2|⟨x,rfl⟩
     .exact .inr h2
     .exact absurd ⟨c,_,hc,e,rfl⟩ hx
    .exact absurd ⟨c,o,hc,e,by cases o<;>first|rfl|(cases h2;done)⟩ hx
  .obtain⟨e0,he0,rfl⟩:=Array.mem_map.1 he'
   exact evO_of hX (hev e0 he0) hheld
  .by_cases hx:∃c o,v.heap[c]?=some o∧rebase f v w1 c=b'∧chanB o=true
   .obtain⟨c,o,hc,rfl,hch⟩:=hx
    have hlt:c<(V (T w1)).heap.size:=by have:=(Array.getElem?_eq_some_iff.1 hc).1;have:v.heap.size≤(V (T w1)).heap.size:=hsz;omega
    exact⟨o',by rw[(hov.chan c o _ hc (Array.getElem?_eq_getElem hlt) (hCV c o _ hc hch (Array.getElem?_eq_getElem hlt))).2];exact hb',hc'⟩
   .refine⟨o',?_,hc'⟩
    rw[hov.keeps b' (Array.getElem?_eq_some_iff.1 hb').1 fun c o hc e=>?_]
    .exact hb'
    .obtain⟨o1,h1,h2⟩:=hp1.sim.block c o hc
     rw[e,hb'] at h1
     obtain rfl:=Option.some.inj h1
     exact absurd ⟨c,o,hc,e,stands_chan h2 hc'⟩ hx
  .rcases Nat.lt_or_ge b v.heap.size with hlt|hge
   .have hv:v.heap[b]?=some v.heap[b]:=Array.getElem?_eq_getElem hlt
    exact⟨_,hv,hov.grows.chan hv hb hc⟩
   .have:=hov.fresh b o hge hb
    rw[this] at hc;cases hc
 classical
 refine .step (by rw[hds];exact ok.run) (fun w1=>dr (gorS (rebase f v w1) B (G (T w1)))) (fun w1=>if h:Rely Ro own w w1∧Live w1 then Classical.choose (key w1 h.1 h.2) else w1) (fun w1=>(E (T w1)).map (event (rebase f v w1))) (fun w1 hr hl=>?_) (fun w1 hr hl=>?_)
 .have hk:=Classical.choose_spec (key w1 hr hl)
  simp only[dif_pos (And.intro hr hl)]
  obtain⟨hp1,hinj1,heq⟩:=hp.rely hr B
  refine⟨?_,hk.2.2.1⟩
  have h1:=hk.1
  have hszv:v.heap.size≤(V (T w1)).heap.size:=hk.2.1
  have hfr1:Fresh (rebase f v w1) (wt v (T w1)) (V (T w1)) w1:=by
   refine⟨fun i h2 h3=>rebase_ge h2,fun i h2=>?_,fun i h2 h3=>rfl⟩
   rw[rebase_ge (show v.heap.size≤i from Nat.le_trans hszv h2)]
   show w1.heap.size+((V (T w1)).heap.size-v.heap.size)≤_
   omega
  generalize Classical.choose (key w1 hr hl)=w2 at h1⊢
  rw[heq] at h1⊢
  exact hdr (T w1) (rebase f v w1) w1 _ _ hinj1 hp1.fix ⟨hp1.sim.good,hp1.sim.block⟩ hfr1 h1
 .have hk:=Classical.choose_spec (key w1 hr hl)
  simp only[dif_pos (And.intro hr hl)]
  have hg:=hk.2.2.1
  have hmore:∀b,Ro b→b<(Classical.choose (key w1 hr hl)).heap.size∧¬more own w1 (Classical.choose (key w1 hr hl)) b:=fun b hb=>by
   obtain⟨h1,h2⟩:=hRo b hb
   have h3:=hr.size
   have h4:=hg.size
   exact⟨by omega,fun h=>h.elim h2 fun h=>by omega⟩
  refine hnext (T w1) _ _ _ hk.2.2.2.1 ⟨Nat.le_trans hr.size hg.size,fun b hb ho=>?_,hr.cells.trans hg.cells,hr.chans.trans hg.chans⟩ hmore (fun i hi=>rebase_lt hi) hk.2.1 hk.2.2.2.2
  rcases ho with ho|ho
  .obtain⟨h1,h2⟩:=hRo b ho
   exact(hg.keep b (Nat.lt_of_lt_of_le hb hr.size) h2).trans (hr.keep b hb (.inl ho))
  .exact ho.elim
end
section
variable{P:Program}
def dress(D:List Deferred)(g:Goroutine):Goroutine:={g with frame:={g.frame with defers:=D}}
theorem dress_status(D:List Deferred)(g:Goroutine):(dress D g).status=g.status:=rfl
theorem finish_defers(F:Frame)(D:List Deferred)(v:Value):({F with defers:=D}:Frame).finish v={F.finish v with defers:=D}:=by
 unfold Frame.finish
 dsimp only
 split<;>rfl
theorem dress_op{m:Bool}{F F1:Frame}{cs:List Frame}{w w2:World}{es:Array Event}(D:List Deferred)(hm:F.mode=.run)(hr:F.roundOf=none){ops:Array Oper}{i:Nat}{rest:List Nat}{k:List Item}{o:Oper}(ht:F.todo=.inRegion ops (i::rest)::k)(ho:ops[i]?=some o)(hn:∀w',(execOp F.eval o).run P w≠.ok .recover w')(hd:∀d w',(execOp F.eval o).run P w≠.ok (.defer d) w')(hsp:∀d w',(execOp F.eval o).run P w≠.ok (.spawn d) w')(hio:∀g w',(execOp F.eval o).run P w≠.halt (.unsupported (.initOrder g)) w')(h:stepG P m (G F cs) w=.go (G F1 cs) w2 es)(hp:notPanicking F1.mode):stepG P m (G {F with defers:=D} cs) w=.go (G {F1 with defers:=D} cs) w2 es:=by
 obtain⟨fn,tmps,todo,defers,mode,kind,ro⟩:=F
 dsimp only at hm hr ht
 subst hm hr ht
 have hev:(Frame.mk fn tmps (.inRegion ops (i::rest)::k) D .run kind none).eval=(Frame.mk fn tmps (.inRegion ops (i::rest)::k) defers .run kind none).eval:=by
  funext x;cases x<;>rfl
 unfold Conc.G stepG stepG.exec at h⊢
 dsimp only at h⊢
 split at h
 .rename_i hw
  rw[if_pos hw]
  unfold stepG.oper Frame.oper? at h⊢
  dsimp only at h⊢
  rw[ho] at h⊢
  dsimp only at h⊢
  rw[hev]
  generalize (Frame.mk fn tmps (.inRegion ops (i::rest)::k) defers .run kind none).eval=ev at h hn hd hsp hio⊢
  unfold stepG.apply at h⊢
  simp only[Sem.runT_eq,if_true] at h⊢
  cases hx:(execOp ev o).run P w with
  |halt a b=>
   rw[hx] at h
   exfalso
   have hsm:∀st es0,GStep.after es0 st=.go (Goroutine.mk F1 cs .running none none) w2 es→¬Vac st:=fun st es0 h1 hv=>by
    have h2:=hv.after (es:=es0)
    rw[h1] at h2
    exact h2 ⟨rfl,.inl rfl,hp⟩
   cases a with
   |panic v=>exact hsm _ _ h (raise_vac _ _ _ _ _ _)
   |goexit=>exact hsm _ _ h (raise_vac _ _ _ _ _ _)
   |blocked=>exact hsm _ _ h (fun h=>by rcases h.status with h|h<;>cases h)
   |waiting=>exact hsm _ _ h (fun h=>by rcases h.status with h|h<;>cases h)
   |exit c=>exact hsm _ _ h trivial
   |fatal m=>exact hsm _ _ h (endFatal_vac _ _ _ _ _ _)
   |throw m=>exact hsm _ _ h (dieOf_vac _ _ _ _ _)
   |unsupported u=>
    cases u with
    |initOrder g=>exact hio g b hx
    |_=>exact hsm _ _ h trivial
   |stuck s=>exact hsm _ _ h trivial
  |ok M w3=>
   rw[hx] at h
   cases M<;>simp only[GStep.after] at h⊢<;>first
    |(cases h;done)
    |(cases h;rfl)
    |(exact absurd hx (hn _))
    |(exact absurd hx (hd _ _))
    |(exact absurd hx (hsp _ _))
    |(have h2:=congrArg (fun s:GStep=>match s with|.go g _ _=>g.callers.length|_=>0) h
      simp at h2;done)
    |(split at h<;>cases h;done)
    |skip
 .rename_i hw
  rw[if_neg hw]
  unfold Frame.finish at h⊢
  dsimp only at h⊢
  cases h
  rfl
theorem dress_enter{m:Bool}{F F1:Frame}{cs:List Frame}{w w2:World}{es:Array Event}(D:List Deferred)(hm:F.mode=.run)(hr:F.roundOf=none){ops:Array Oper}{i:Nat}{rest:List Nat}{k:List Item}{o:Oper}(ht:F.todo=.inRegion ops (i::rest)::k)(ho:ops[i]?=some o)(hn:∀w',(execOp F.eval o).run P w≠.ok .recover w')(hd:∀d w',(execOp F.eval o).run P w≠.ok (.defer d) w')(hsp:∀d w',(execOp F.eval o).run P w≠.ok (.spawn d) w')(hio:∀g w',(execOp F.eval o).run P w≠.halt (.unsupported (.initOrder g)) w')(hstk:∀r s w',(execOp F.eval o).run P w≠.ok (.stack r s) w')(h:stepG P m (G F cs) w=.go (G F1 (F::cs)) w2 es)(hp:notPanicking F1.mode):stepG P m (G {F with defers:=D} cs) w=.go (G F1 ({F with defers:=D}::cs)) w2 es:=by
 obtain⟨fn,tmps,todo,defers,mode,kind,ro⟩:=F
 dsimp only at hm hr ht
 subst hm hr ht
 have hev:(Frame.mk fn tmps (.inRegion ops (i::rest)::k) D .run kind none).eval=(Frame.mk fn tmps (.inRegion ops (i::rest)::k) defers .run kind none).eval:=by
  funext x;cases x<;>rfl
 unfold Conc.G stepG stepG.exec at h⊢
 dsimp only at h⊢
 split at h
 .rename_i hw
  rw[if_pos hw]
  unfold stepG.oper Frame.oper? at h⊢
  dsimp only at h⊢
  rw[ho] at h⊢
  dsimp only at h⊢
  rw[hev]
  generalize (Frame.mk fn tmps (.inRegion ops (i::rest)::k) defers .run kind none).eval=ev at h hn hd hsp hio hstk⊢
  unfold stepG.apply at h⊢
  simp only[Sem.runT_eq,if_true] at h⊢
  cases hx:(execOp ev o).run P w with
  |halt a b=>
   rw[hx] at h
   exfalso
   have hsm:∀st es0,GStep.after es0 st=.go (Goroutine.mk F1 (Frame.mk fn tmps (.inRegion ops (i::rest)::k) defers .run kind none::cs) .running none none) w2 es→¬Vac st:=fun st es0 h1 hv=>by
    have h2:=hv.after (es:=es0)
    rw[h1] at h2
    exact h2 ⟨rfl,.inl rfl,hp⟩
   cases a with
   |panic v=>exact hsm _ _ h (raise_vac _ _ _ _ _ _)
   |goexit=>exact hsm _ _ h (raise_vac _ _ _ _ _ _)
   |blocked=>exact hsm _ _ h (fun h=>by rcases h.status with h|h<;>cases h)
   |waiting=>exact hsm _ _ h (fun h=>by rcases h.status with h|h<;>cases h)
   |exit c=>exact hsm _ _ h trivial
   |fatal m=>exact hsm _ _ h (endFatal_vac _ _ _ _ _ _)
   |throw m=>exact hsm _ _ h (dieOf_vac _ _ _ _ _)
   |unsupported u=>
    cases u with
    |initOrder g=>exact hio g b hx
    |_=>exact hsm _ _ h trivial
   |stuck s=>exact hsm _ _ h trivial
  |ok M w3=>
   rw[hx] at h
   cases M<;>simp only[GStep.after] at h⊢<;>first
    |(cases h;done)
    |(cases h;rfl)
    |(exact absurd hx (hn _))
    |(exact absurd hx (hd _ _))
    |(exact absurd hx (hsp _ _))
    |(exact absurd hx (hstk _ _ _))
    |(have h2:=congrArg (fun s:GStep=>match s with|.go g _ _=>g.callers.length|_=>0) h
      simp at h2;done)
    |(split at h<;>cases h;done)
    |skip
 .rename_i hw
  have h2:=congrArg (fun s:GStep=>match s with|.go g _ _=>g.callers.length|_=>0) h
  simp at h2
def textB:List Item→Bool
 |[]=>true
 |.code (.rangeFunc ..)::_=>false
 |.code (.refuse _)::_=>false
 |.code _::_=>true
 |.inBlock _::_=>true
 |.inScope _::_=>true
 |.inLoop _::_=>true
 |.inRegion _ []::_=>true
 |_=>false
theorem dress_text{m:Bool}{F F1:Frame}{cs:List Frame}{w w2:World}{es:Array Event}(D:List Deferred)(hm:F.mode=.run)(hr:F.roundOf=none)(ht:textB F.todo=true)(h:stepG P m (G F cs) w=.go (G F1 cs) w2 es):stepG P m (G {F with defers:=D} cs) w=.go (G {F1 with defers:=D} cs) w2 es:=by
 obtain⟨fn,tmps,todo,defers,mode,kind,ro⟩:=F
 dsimp only at hm hr ht
 subst hm hr
 have hev:(Frame.mk fn tmps todo D .run kind none).eval=(Frame.mk fn tmps todo defers .run kind none).eval:=by
  funext x;cases x<;>rfl
 unfold Conc.G stepG stepG.exec at h⊢
 dsimp only at h⊢
 rw[hev]
 cases todo with
 |nil=>
  simp only at h⊢
  cases h;rfl
 |cons it k=>
  cases it with
  |code c=>
   cases c with
   |cond x a b=>
    dsimp only at h⊢
    generalize (Frame.mk fn tmps (.code (.cond x a b)::k) defers .run kind none).eval x=u at h⊢
    cases u<;>first|(cases h;done)|(cases h;rfl)
   |region id ops d=>
    dsimp only at h⊢
    cases d with
    |false=>cases h;rfl
    |true=>
     simp only[Bool.not_true,Bool.false_eq_true,if_false] at h⊢
     cases hx:(choose (.order fn id)).run P w with
     |ok t w3=>rw[hx] at h;cases h;rfl
     |halt t w3=>rw[hx] at h;cases h
   |exit id=>
    dsimp only at h⊢
    cases hx:exitTo id k with
    |some z=>rw[hx] at h;cases h;rfl
    |none=>rw[hx] at h;simp at h
   |goto l=>
    dsimp only at h⊢
    cases hx:gotoIn l k with
    |some z=>rw[hx] at h;cases h;rfl
    |none=>rw[hx] at h;simp at h
   |rangeFunc=>cases ht
   |refuse=>cases ht
   |_=>first|(cases h;rfl)|(simp at h⊢;cases h;rfl)
  |inRegion ops l=>
   cases l with
   |nil=>cases h;rfl
   |cons=>cases ht
  |inBlock=>cases h;rfl
  |inScope=>cases h;rfl
  |inLoop=>cases h;rfl
  |_=>cases ht
end
section
variable[M:Mps]
section
variable(P:Program)(L:List FuncId)
def bEq:Nat→TypeId→Bool
 |0,_=>false
 |n+1,t=>match P.underlying t with
  |some .bool|some (.int _)|some (.float _)|some (.complex _)|some .string|some (.chan ..)|some (.slice _)|some (.map ..)|some (.func ..)=>true
  |some (.struct fs)=>fs.toList.all fun g=>bEq n g.type
  |some (.array _ e)=>bEq n e
  |_=>false
def bMap(t:TypeId):Bool:=Mps.maps&&match P.underlying t with
 |some (.map k _)=>bEq P 64 k
 |_=>true
def bInt(t:TypeId):Bool:=match P.underlying t with
 |some (.int _)=>true
 |_=>false
def bLen(ts:Array TypeId):Bool:=match ts.toList with
 |t0::_=>match P.underlying t0 with
  |some .string|some (.slice _)|some (.array ..)=>true
  |_=>false
 |[]=>false
def bApp(ts:Array TypeId):Bool:=match ts.toList with
 |_::t1::_=>!bInt P t1
 |_=>true
def bCap(ts:Array TypeId):Bool:=match ts.toList with
 |t0::_=>match P.underlying t0 with
  |some (.slice _)=>true
  |_=>false
 |[]=>true
def bBuiltin(b:Builtin)(ts:Array TypeId):Bool:=match b with
 |.len=>bLen P ts
 |.append=>bApp P ts
 |.cap=>bCap P ts
 |.min|.max|.panic|.copy=>true
 |_=>false
def isEqOp:BinOp→Bool
 |.eql|.neq=>true
 |_=>false
def bFn:Fn→Bool
 |.func g|.via _ _ g _=>L.contains g
 |_=>false
def bCallee(c:Call):Bool:=match c.callee with
 |.builtin b=>bBuiltin P b c.argTypes
 |.value _=>true
 |.invoke ..=>false
def bOp:Op→Bool
 |.move _|.assign _|.pick .. | .alloc _|.box .. | .build .. | .load .. | .store .. | .unOp .. | .makeSlice .. | .slice ..
 |.fieldAddr .. | .field .. | .indexAddr .. | .index .. | .extract .. | .panic _|.buildSlice .. | .makeMap .. | .entryStore .. | .range .. | .next .. | .entry _=>true
 |.lookup t _ _ _|.mapUpdate t _ _ _|.insert t _ _ _|.mapEntry t _ _=>bMap P t
 |.nilCheck _=>Mps.maps
 |.makeInterface t _=>Nat.blt t tyTop
 |.binOp op t _ _ _=>!isEqOp op||bEq P 64 t
 |.convert s d _=>bInt P s&&bInt P d
 |.makeFunc g _ _=>bFn L g
 |.call c=>bCallee P c
 |_=>false
def bOpnd:Operand→Bool
 |.const v=>closedB v
 |.global g=>decide (g<P.globals.size)
 |.func g=>L.contains g
 |_=>true
def bOper(o:Oper):Bool:=bOp P L o.op&&o.op.operands.toList.all (bOpnd P L)
def bCode:Code→Bool
 |.region _ ops _=>ops.toList.all (bOper P L)
 |.seq a b=>bCode a&&bCode b
 |.cond c a b=>bOpnd P L c&&bCode a&&bCode b
 |.block _ a|.loop a|.scope a=>bCode a
 |.rangeFunc g _ a b=>bOpnd P L g&&bCode a&&bCode b
 |_=>true
def bCodeL:Code→Bool
 |.seq a b=>bCodeL a&&bCodeL b
 |.cond c a b=>bOpnd P L c&&bCodeL a&&bCodeL b
 |.block _ a|.loop a|.scope a=>bCodeL a
 |.rangeFunc g _ a b=>bOpnd P L g&&bCode P L a&&bCode P L b
 |_=>true
def bFunc(g:FuncId):Bool:=match P.funcs.toList[g]? with
 |some fn=>match fn.body with
  |some body=>!(fn.name == "runtime.NumGoroutine")&&bCode P L body
  |none=>false
 |none=>false
def bAll:Bool:=L.all (bFunc P L)
end
section
variable{P:Program}{L:List FuncId}
theorem bEq_ok:∀(n:Nat) (t:TypeId),bEq P n t=true→EqT P t
 |0,_,h=>by cases h
 |n+1,t,h=>by
  unfold bEq at h
  cases hd:P.underlying t with
  |none=>rw[hd] at h;cases h
  |some d=>
   rw[hd] at h
   cases d<;>first|(cases h;done)|(exact .flat hd trivial)|skip
   case struct fs=>exact .struct hd fun g hg=>bEq_ok n g.type (List.all_eq_true.1 h g (Array.mem_toList_iff.2 hg))
   case array m e=>exact .array hd (bEq_ok n e h)
theorem bMap_ok{t:TypeId}(h:bMap P t=true):MapOK P t:=by
 unfold bMap at h
 rw[Bool.and_eq_true] at h
 refine⟨h.1,fun k e hk=>?_⟩
 have h2:=h.2
 rw[hk] at h2
 exact bEq_ok _ _ h2
theorem bInt_ok{t:TypeId}(h:bInt P t=true):∃k,P.underlying t=some (.int k):=by
 unfold bInt at h
 split at h
 .exact⟨_,by assumption⟩
 .cases h
theorem bBuiltin_ok{b:Builtin}{ts:Array TypeId}(h:bBuiltin P b ts=true):BuiltinOK P b ts:=by
 obtain⟨ts⟩:=ts
 unfold bBuiltin at h
 cases b<;>first|(cases h;done)|exact trivial|skip
 case len=>
  show LenOK P _
  simp only[bLen] at h
  cases ts with
  |nil=>cases h
  |cons t0 l=>
   refine⟨t0,by simp,?_⟩
   dsimp only at h
   cases hd:P.underlying t0 with
   |none=>rw[hd] at h;cases h
   |some d=>
    rw[hd] at h
    cases d<;>first|(cases h;done)|skip
    case string=>exact .inl rfl
    case slice e=>exact .inr (.inl ⟨e,rfl⟩)
    case array n e=>exact .inr (.inr ⟨n,e,rfl⟩)
 case append=>
  show AppOK P _
  intro t1 k h1 h2
  simp only[bApp] at h
  cases ts with
  |nil=>simp at h1
  |cons t0 l=>
   cases l with
   |nil=>simp at h1
   |cons t2 l=>
    simp at h1
    subst h1
    dsimp only at h
    unfold bInt at h
    rw[h2] at h
    cases h
 case cap=>
  show ∀t0,_→_
  intro t0 h0
  simp only[bCap] at h
  cases ts with
  |nil=>simp at h0
  |cons t1 l=>
   simp at h0
   subst h0
   dsimp only at h
   cases hd:P.underlying t1 with
   |none=>rw[hd] at h;cases h
   |some d=>
    rw[hd] at h
    cases d<;>first|(cases h;done)|skip
    case slice e=>exact⟨e,rfl⟩
theorem bFn_ok{g:Fn}(h:bFn L g=true):FnFixed (·∈L) g:=by
 cases g<;>first|(cases h;done)|exact List.contains_iff_mem.1 h
theorem bCallee_ok{c:Call}(h:bCallee P c=true):calleeOK P c:=by
 unfold bCallee at h
 unfold calleeOK
 cases hc:c.callee with
 |builtin b=>rw[hc] at h;exact bBuiltin_ok h
 |value _=>trivial
 |invoke r n=>rw[hc] at h;cases h
theorem bOp_ok{o:Op}(h:bOp P L o=true):OpOK P (·∈L) o:=by
 cases o<;>first|(cases h;done)|exact trivial|skip
 case lookup t _ _ _=>exact bMap_ok h
 case nilCheck x=>exact h
 case makeInterface t x=>exact Nat.le_of_ble_eq_true h
 case mapUpdate t _ _ _=>exact bMap_ok h
 case insert t _ _ _=>exact bMap_ok h
 case mapEntry t _ _=>exact bMap_ok h
 case binOp op t _ _ _=>
  intro he
  have h':(!isEqOp op||bEq P 64 t)=true:=h
  rcases he with rfl|rfl<;>exact bEq_ok _ _ (by simpa[isEqOp] using h')
 case convert s d _=>
  have h':(bInt P s&&bInt P d)=true:=h
  rw[Bool.and_eq_true] at h'
  exact⟨bInt_ok h'.1,bInt_ok h'.2⟩
 case makeFunc g _ _=>exact bFn_ok h
 case call c=>exact bCallee_ok h
theorem bOpnd_ok{x:Operand}(h:bOpnd P L x=true):OpndOK P (·∈L) x:=by
 cases x with
 |tmp t=>trivial
 |const v=>exact h
 |global g=>have h':decide (g<P.globals.size)=true:=h;exact of_decide_eq_true (p:=g<P.globals.size) h'
 |func g=>exact List.contains_iff_mem.1 h
theorem bOper_ok{o:Oper}(h:bOper P L o=true):OperOK P (·∈L) o:=by
 unfold bOper at h
 rw[Bool.and_eq_true] at h
 exact⟨bOp_ok h.1,fun x hx=>bOpnd_ok (List.all_eq_true.1 h.2 x (Array.mem_toList_iff.2 hx))⟩
theorem bCode_ok:∀{c:Code},bCode P L c=true→CodeOK P (·∈L) c:=by
 intro c
 induction c with
 |region id ops d=>exact fun h o ho=>bOper_ok (List.all_eq_true.1 h o (Array.mem_toList_iff.2 ho))
 |seq a b iha ihb=>intro h;have h':(bCode P L a&&bCode P L b)=true:=h;rw[Bool.and_eq_true] at h';exact⟨iha h'.1,ihb h'.2⟩
 |cond c a b iha ihb=>intro h;have h':(bOpnd P L c&&bCode P L a&&bCode P L b)=true:=h;rw[Bool.and_eq_true,Bool.and_eq_true] at h';exact⟨bOpnd_ok h'.1.1,iha h'.1.2,ihb h'.2⟩
 |block id a ih=>exact ih
 |loop a ih=>exact ih
 |scope a ih=>exact ih
 |rangeFunc g ps a b iha ihb=>intro h;have h':(bOpnd P L g&&bCode P L a&&bCode P L b)=true:=h;rw[Bool.and_eq_true,Bool.and_eq_true] at h';exact⟨bOpnd_ok h'.1.1,iha h'.1.2,ihb h'.2⟩
 |_=>exact fun _=>trivial
@[reducible] def spOf (P:Program) (L N:List FuncId):Spc:=⟨fun o=>¬OperOK P (·∈L) o,(·∈N)⟩
theorem bOper_L{N:List FuncId}(o:Oper):@OperL _ (spOf P L N) P (·∈L) o:=by
 by_cases h:OperOK P (·∈L) o
 .exact .inl h
 .exact .inr h
theorem notSp_ok{N:List FuncId}{fr:Frame}(h:∀ops i rest k o,fr.todo=.inRegion ops (i::rest)::k→ops[i]?=some o→OperOK P (·∈L) o):@NotSp (spOf P L N) fr:=fun _ ops i rest k o h1 h2 hsp=>hsp (h ops i rest k o h1 h2)
theorem notSp_of{N:List FuncId}{fr:Frame}(h:∀ops i rest k o,fr.todo=.inRegion ops (i::rest)::k→ops[i]?=some o→bOper P L o=true):@NotSp (spOf P L N) fr:=notSp_ok fun ops i rest k o h1 h2=>bOper_ok (h ops i rest k o h1 h2)
theorem bCodeL_ok{N:List FuncId}:∀{c:Code},bCodeL P L c=true→@CodeL _ (spOf P L N) P (·∈L) c:=by
 intro c
 induction c with
 |region id ops d=>exact fun _ o _=>bOper_L o
 |seq a b iha ihb=>intro h;have h':(bCodeL P L a&&bCodeL P L b)=true:=h;rw[Bool.and_eq_true] at h';exact⟨iha h'.1,ihb h'.2⟩
 |cond c a b iha ihb=>intro h;have h':(bOpnd P L c&&bCodeL P L a&&bCodeL P L b)=true:=h;rw[Bool.and_eq_true,Bool.and_eq_true] at h';exact⟨bOpnd_ok h'.1.1,iha h'.1.2,ihb h'.2⟩
 |block id a ih=>exact ih
 |loop a ih=>exact ih
 |scope a ih=>exact ih
 |rangeFunc g ps a b iha ihb=>intro h;have h':(bOpnd P L g&&bCode P L a&&bCode P L b)=true:=h;rw[Bool.and_eq_true,Bool.and_eq_true] at h';exact⟨bOpnd_ok h'.1.1,bCode_ok h'.1.2,bCode_ok h'.2⟩
 |_=>exact fun _=>trivial
theorem bAll_ok[Fr](hf:∀g,g∈L→Fr.fid g=g)(h:bAll P L=true):SOK P (·∈L):=by
 refine⟨hf,fun g hg=>?_⟩
 have hg':=List.all_eq_true.1 h g hg
 unfold bFunc at hg'
 split at hg'
 .next fn hfn=>
  split at hg'
  .next body hb=>
   rw[Bool.and_eq_true] at hg'
   exact⟨fn,body,by rw[←hfn];simp,hb,by simpa using hg'.1,bCode_ok hg'.2⟩
  .cases hg'
 .cases hg'
end
end
abbrev zB:Value→Bool:=closedB
theorem zB_cells{z:Value}(h:zB z=true):∀c∈z.cells,closedB c=true:=closedB_cells h
def zI(i:TypeInfo):Prop:=∀z,i.zero=some z→zB z=true
theorem zI_word{d:TypeDesc}{s:String}{z:Value}{c:Bool}{b:Nat}(h:flat z=true):zI (Made.word d s z c b):=fun z' hz=>by
 obtain rfl:z=z':=Option.some.inj hz
 exact flat_closedB h
theorem opt_forIn{α β:Type}(Inv:β→Prop)(g:α→β→Option (ForInStep β)):∀(l:List α),(∀a∈l,∀x s,Inv x→g a x=some s→Inv (match s with|.done y=>y|.yield y=>y)) →
  ∀x y,Inv x→forIn l x g=some y→Inv y
 |[],_,x,y,hx,h=>by simp only[List.forIn_nil] at h;obtain rfl:x=y:=Option.some.inj h;exact hx
 |a::l,hg,x,y,hx,h=>by
  simp only[List.forIn_cons] at h
  cases hs:g a x with
  |none=>rw[hs] at h;cases h
  |some s=>
   rw[hs] at h
   have h1:=hg a (List.mem_cons_self ..) x s hx hs
   cases s with
   |done y'=>obtain rfl:y'=y:=Option.some.inj h;exact h1
   |yield y'=>exact opt_forIn Inv g l (fun b hb=>hg b (List.mem_cons_of_mem _ hb)) y' y h1 h
def zC(a:Option (Array Value)):Prop:=∀cs,a=some cs→∀c∈cs,closedB c=true
theorem zC_step{p:Prop}[Decidable p]{a:Option (Array Value)}{i:TypeInfo}(ha:zC a)(hi:zI i):zC (if p then none else a.bind fun x=>i.zero.bind fun y=>some (x++y.cells)):=fun cs h c hc=>by
 split at h
 .cases h
 .rw[Option.bind_eq_some_iff] at h
  obtain⟨x,h1,h2⟩:=h
  rw[Option.bind_eq_some_iff] at h2
  obtain⟨y,h3,h4⟩:=h2
  obtain rfl:=Option.some.inj h4
  rcases Array.mem_append.1 hc with h5|h5
  .exact ha x h1 c h5
  .exact zB_cells (hi y h3) c h5
theorem zC_none:zC none:=fun _ h=>by cases h
theorem zC_bind{a:Option (Array Value)}{i:TypeInfo}(ha:zC a)(hi:zI i):zC (a.bind fun x=>i.zero.bind fun y=>some (x++y.cells)):=by
 have h:=zC_step (p:=False) ha hi
 rwa[if_neg id] at h
theorem zC_agg{a:Option (Array Value)}(ha:zC a){z:Value}(h:a.map Value.agg=some z):zB z=true:=by
 cases a with
 |none=>cases h
 |some cs=>
  obtain rfl:Value.agg cs=z:=Option.some.inj h
  exact closedB_agg fun c hc=>ha cs rfl c hc
theorem zI_struct{info:TypeId→Option TypeInfo}(hi:∀t i,info t=some i→zI i){fs:Array Field}{i:TypeInfo}(h:Made.reckonStruct info fs=some i):zI i:=by
 unfold Made.reckonStruct at h
 simp only[Option.bind_eq_bind,Option.pure_def] at h
 rw[Option.bind_eq_some_iff] at h
 obtain⟨r,h1,h2⟩:=h
 have hr:zC r.2.2.2.2.2.2.2.1:=by
  rw[←Array.forIn_toList] at h1
  refine opt_forIn (fun r=>zC r.2.2.2.2.2.2.2.1) _ fs.toList ?_ _ _ ?_ h1
  .intro f _ x s hx hs
   rw[Option.bind_eq_some_iff] at hs
   obtain⟨i',h3,h4⟩:=hs
   have hz:=hi _ _ h3
   repeat' split at h4
   all_goals first
    |(cases h4;done)
    |(rw[Option.bind_eq_some_iff] at h4
      obtain⟨tag,_,h5⟩:=h4
      repeat' split at h5
      all_goals (obtain rfl:=Option.some.inj h5;first|exact zC_step hx hz|exact zC_none|exact zC_bind hx hz))
    |skip
  .intro cs h c hc
   obtain rfl:=Option.some.inj h
   simp at hc
 intro z hz
 split at h2<;>(obtain rfl:=Option.some.inj h2;exact zC_agg hr hz)
theorem zI_reckon{info:TypeId→Option TypeInfo}(hi:∀t i,info t=some i→zI i){d:TypeDesc}{i:TypeInfo}(h:Made.reckon info d=some i):zI i:=by
 unfold Made.reckon at h
 cases d<;>dsimp only at h<;>first|(cases h;done)|skip
 case struct fs=>exact zI_struct hi h
 case array n e=>
  simp only[Option.bind_eq_bind,Option.pure_def,Option.bind_eq_some_iff] at h
  obtain⟨i',h1,s,_,h3⟩:=h
  obtain rfl:=Option.some.inj h3
  intro z hz
  dsimp only at hz
  split at hz
  .cases hz
  .split at hz
   .obtain rfl:=Option.some.inj hz;exact closedB_agg fun c hc=>by simp at hc
   .cases hz':i'.zero with
    |none=>rw[hz'] at hz;cases hz
    |some z'=>
     rw[hz'] at hz
     obtain rfl:=Option.some.inj hz
     refine closedB_agg fun c hc=>?_
     rw[Array.mem_flatten] at hc
     obtain⟨a,ha,hca⟩:=hc
     obtain rfl:=(Array.mem_replicate.1 ha).2
     exact zB_cells (hi _ _ h1 z' hz') c hca
 all_goals
  simp only[Option.bind_eq_bind,Option.pure_def,Option.bind_eq_some_iff] at h
 case slice e=>obtain⟨_,_,_,_,h⟩:=h;obtain rfl:=Option.some.inj h;exact zI_word rfl
 case map k e=>obtain⟨_,_,_,_,_,_,_,_,h⟩:=h;obtain rfl:=Option.some.inj h;exact zI_word rfl
 case chan d e=>obtain⟨_,_,_,_,h⟩:=h;obtain rfl:=Option.some.inj h;exact zI_word rfl
 case func ps rs v=>obtain⟨_,_,h⟩:=h;obtain rfl:=Option.some.inj h;exact zI_word rfl
 case pointer e=>
  obtain⟨i',_,h⟩:=h
  split at h
  .cases h
  .split at h
   .cases h
   .rw[Option.bind_eq_some_iff] at h;obtain⟨_,_,h⟩:=h;obtain rfl:=Option.some.inj h;exact zI_word rfl
  .rw[Option.bind_eq_some_iff] at h;obtain⟨_,_,h⟩:=h;obtain rfl:=Option.some.inj h;exact zI_word rfl
theorem zI_infoAt{T:Tables}(hb:∀(t:Nat) (i:TypeInfo),T.types[t]?=some i→zI i):∀(n:Nat) (t:TypeId) (i:TypeInfo),Made.infoAt T n t=some i→zI i
 |0,_,_,h=>by cases h
 |n+1,t,i,h=>by
  unfold Made.infoAt at h
  split at h
  .exact hb t i h
  .rw[Option.bind_eq_some_iff] at h
   obtain⟨d,_,h⟩:=h
   exact zI_reckon (fun t i h=>zI_infoAt hb n t i h) h
def bZero(P:Program):Bool:=Nat.ble P.types.size tyTop&&P.types.toList.all fun i=>match i.zero with
 |some z=>zB z
 |none=>true
theorem bZero_ok{P:Program}(h0:bZero P=true):ZeroOK P:=by
 have h00:=h0
 unfold bZero at h00
 rw[Bool.and_eq_true] at h00
 have h:=h00.2
 refine⟨?_,Nat.le_of_ble_eq_true h00.1⟩
 have hb:∀(t:Nat) (i:TypeInfo),P.types[t]?=some i→zI i:=fun t i hi z hz=>by
  have:=List.all_eq_true.1 h i (Array.mem_toList_iff.2 (Array.mem_of_getElem? hi))
  rw[hz] at this
  exact this
 intro t i z hi hz
 have hi':Tables.info? P.toTables t=some i:=hi
 unfold Tables.info? at hi'
 split at hi'
 .exact(hb t i hi' z hz)
 .exact(zI_infoAt hb _ t i hi' z hz)
end Go.Ren
