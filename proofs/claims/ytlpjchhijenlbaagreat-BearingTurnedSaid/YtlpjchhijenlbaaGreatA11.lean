/- Of the proof of BearingTurned: Ren25 Ren26 Ren27 Ren28 Ren29 Ren30 Ren31 Ren32 Ren33 Ren34 Wk1 -/
import Derived.Conc.Fork
import Derived.Fence
import Derived.Test.YtlpjchhijenlbaaGreatA07
set_option linter.unusedSectionVars false
set_option linter.unusedVariables false
set_option linter.unusedSimpArgs false
section
section
namespace Go
namespace Ren
open Go.Conc
variable [gm] {P:Program} {S:FuncId→Prop} {K:Kd}
theorem uB {g:Goroutine} {v:World} {m1:Machine} (h:g.status = .running) (hs:step P (solo g v) = .next m1)
  (ho:match stepG P true g v with | .go ..=>True | .ended ..=>True | _=>False):∃ g1 v1 es,stepG P true g v = .go g1 v1 es∧m1=solo g1 v1:=by
 rw [step,stepT_solo h] at hs
 cases hg:stepG P true g v with
 | go g1 v1 es=>
  rw [runT_solo_go hg] at hs
  simp only [Stepped.next.injEq] at hs
  exact ⟨g1,v1,es,rfl,hs.symm⟩
 | ended o v1 es=>simp [runT,solo,Array.swapAt!,Array.swapAt,hg] at hs
 | _=>rw [hg] at ho;exact ho.elim
end Ren
end Go
end
end
section
section
namespace Go
namespace Ren
variable [gm] {P:Program} {S:FuncId→Prop} {F F' H H':Fr} {f f' h h':Nat→Nat} {n:Nat}
structure lW (S:FuncId→Prop) (n:Nat) (F F':Fr) (f f':Nat→Nat):Prop where
 below:∀ i,i<n→f i=f' i
 above:∀ i,n≤i→f i≠f' i
 other:∀ g,¬ S g→F.qL g≠F'.qL g
 meth:∀ n,F.mid n≠F'.mid n
theorem lW.lt (t:lW S n F F' f f') {i:Nat} (h:f i=f' i):i<n:=by
 rcases Nat.lt_or_ge i n with h1 | h1
 ·exact h1
 ·exact absurd h (t.above i h1)
theorem lW.mem (t:lW S n F F' f f') {g:FuncId} (h:F.qL g=F'.qL g):S g:=
 Classical.byContradiction fun hs=>t.other g hs h
structure Alike (S:FuncId→Prop) (n:Nat) (F F':Fr) (f f':Nat→Nat):Prop where
 blk:∀ i,i<n→f i=f' i
 qL:∀ g,S g→F.qL g=F'.qL g
section
variable (F:Fr) (f:Nat→Nat)
theorem lX (a:Option Addr):@val F f (.pointer a) = .pointer (a.map (addr f)):=@ay F f a
theorem IZ (a:Option Addr) (l c:Nat):@val F f (.slice a l c) = .slice (a.map (addr f)) l c:=@aW F f a l c
theorem Tu (r:Option Nat):@val F f (.map r) = .map (r.map f):=@dC F f r
theorem D5 (r:Option Nat):@val F f (.chan r) = .chan (r.map f):=@eX F f r
theorem nU (g:Fn) (a b:Array Value):@val F f (.func g a b) = .func (@fn F f g) (a.map (@val F f)) (b.map (@val F f)):=@bP F f g a b
theorem WB (t:TypeId) (v:Value):@val F f (.iface t v) = .iface t (@val F f v):=@bJ F f t v
theorem Tv (a:Array Value):@val F f (.agg a) = .agg (a.map (@val F f)):=@cO F f a
theorem uA (a:Array Value):@val F f (.tuple a) = .tuple (a.map (@val F f)):=@bY F f a
theorem Y1 (b:Bool):@val F f (.bool b) = .bool b:=@dI F f b
theorem x_int (k:IntKind) (b:Int):@val F f (.int k b) = .int k b:=@bV F f k b
theorem WC (k:FloatKind) (b:Nat):@val F f (.float k b) = .float k b:=@bZ F f k b
theorem QI (k:FloatKind) (a b:Nat):@val F f (.complex k a b) = .complex k a b:=@bn F f k a b
theorem Tt (b:ByteArray):@val F f (.string b) = .string b:=@aS F f b
theorem QH:@val F f .nilFunc = .nilFunc:=@aZ F f
theorem Nu:@val F f .nilIface = .nilIface:=@bU F f
end
theorem Dp (t:lW S n F F' f f') (hh:Alike S n H H' h h') {a:Addr} (e:addr f a=addr f' a):addr h a=addr h' a:=by
 simp only [addr,Addr.mk.injEq,and_true] at e ⊢
 exact hh.blk _ (t.lt e)
theorem Ac (t:lW S n F F' f f') (hh:Alike S n H H' h h') {a:Option Addr} (e:a.map (addr f)=a.map (addr f')):a.map (addr h)=a.map (addr h'):=by
 cases a with
 | none=>rfl
 | some a=>
  simp only [Option.map_some,Option.some.injEq] at e ⊢
  exact Dp t hh e
theorem wR (t:lW S n F F' f f') (hh:Alike S n H H' h h') {a:Option Nat} (e:a.map f=a.map f'):a.map h=a.map h':=by
 cases a with
 | none=>rfl
 | some a=>
  simp only [Option.map_some,Option.some.injEq] at e ⊢
  exact hh.blk _ (t.lt e)
theorem IE (t:lW S n F F' f f') (hh:Alike S n H H' h h') {g:Fn} (e:@fn F f g = @fn F' f' g):@fn H h g = @fn H' h' g:=by
 cases g with
 | yield l=>
  have e':f l=f' l:=Fn.yield.inj e
  exact congrArg Fn.yield (hh.blk _ (t.lt e'))
 | func g=>
  have e':F.qL g=F'.qL g:=Fn.func.inj e
  exact congrArg Fn.func (hh.qL _ (t.mem e'))
 | via u p g b=>
  have e':F.qL g=F'.qL g:=(Fn.via.inj e).2.2.1
  exact congrArg (fun x=>Fn.via u p x b) (hh.qL _ (t.mem e'))
 | method n=>exact absurd (Fn.method.inj e) (t.meth n)
 | methodOf u n=>exact absurd (Fn.methodOf.inj e).2 (t.meth n)
theorem iM (t:lW S n F F' f f') (hh:Alike S n H H' h h'):∀ x:Value,@val F f x = @val F' f' x→@val H h x = @val H' h' x
 | .pointer a,e=>by
  simp only [lX,Value.pointer.injEq] at e ⊢
  exact Ac t hh e
 | .slice a l c,e=>by
  simp only [IZ,Value.slice.injEq,and_true] at e ⊢
  exact Ac t hh e
 | .map r,e=>by
  simp only [Tu,Value.map.injEq] at e ⊢
  exact wR t hh e
 | .chan r,e=>by
  simp only [D5,Value.chan.injEq] at e ⊢
  exact wR t hh e
 | .func g a b,e=>by
  simp only [nU,Value.func.injEq,Array.map_inj_left] at e ⊢
  exact ⟨IE t hh e.1,fun x hx=>iM t hh x (e.2.1 x hx),fun x hx=>iM t hh x (e.2.2 x hx)⟩
 | .iface u x,e=>by
  simp only [WB,Value.iface.injEq,true_and] at e ⊢
  exact iM t hh x e
 | .agg cs,e=>by
  simp only [Tv,Value.agg.injEq,Array.map_inj_left] at e ⊢
  exact fun x hx=>iM t hh x (e x hx)
 | .tuple cs,e=>by
  simp only [uA,Value.tuple.injEq,Array.map_inj_left] at e ⊢
  exact fun x hx=>iM t hh x (e x hx)
 | .bool _,_ | .int _ _,_ | .float _ _,_ | .complex _ _ _,_ | .string _,_ | .nilFunc,_ | .nilIface,_=>by simp only [Y1,x_int,WC,QI,Tt,QH,Nu]
termination_by x=>SizeOf.sizeOf x
decreasing_by
 all_goals first
  | (have h:=Array.sizeOf_lt_of_mem hx;simp only [Value.func.sizeOf_spec,Value.agg.sizeOf_spec,Value.tuple.sizeOf_spec];omega)
  | (simp only [Value.iface.sizeOf_spec];omega)
theorem lY (t:lW S n F F' f f') (hh:Alike S n H H' h h') {vs:Array Value} (e:@vals F f vs = @vals F' f' vs):@vals H h vs = @vals H' h' vs:=by
 unfold vals at e ⊢
 simp only [Array.map_inj_left] at e ⊢
 exact fun x hx=>iM t hh x (e x hx)
theorem GX (t:lW S n F F' f f') (hh:Alike S n H H' h h') {d:Target} (e:@target F f d = @target F' f' d):@target H h d = @target H' h' d:=by
 cases d with
 | fn g c=>
  obtain ⟨e1,e2⟩:=Target.fn.inj e
  show Target.fn _ _=Target.fn _ _
  rw [IE t hh e1,lY t hh e2]
 | collected r=>
  have e1:f r=f' r:=Target.collected.inj e
  exact congrArg Target.collected (hh.blk _ (t.lt e1))
 | coroexit r=>
  have e1:f r=f' r:=Target.coroexit.inj e
  exact congrArg Target.coroexit (hh.blk _ (t.lt e1))
 | _=>rfl
theorem vK (t:lW S n F F' f f') (hh:Alike S n H H' h h') {d:Deferred} (e:@deferred F f d = @deferred F' f' d):@deferred H h d = @deferred H' h' d:=by
 unfold deferred at e ⊢
 simp only [Deferred.mk.injEq] at e ⊢
 exact ⟨GX t hh e.1,lY t hh e.2⟩
theorem yD (t:lW S n F F' f f') (hh:Alike S n H H' h h') {ds:List Deferred} (e:ds.map (@deferred F f)=ds.map (@deferred F' f')):ds.map (@deferred H h)=ds.map (@deferred H' h'):=by
 rw [List.map_inj_left] at e ⊢
 exact fun d hd=>vK t hh (e d hd)
theorem LJ (t:lW S n F F' f f') (hh:Alike S n H H' h h') {i:Item} (e:@item F f i = @item F' f' i):@item H h i = @item H' h' i:=by
 cases i with
 | inRangeFunc l=>have e1:f l=f' l:=Item.inRangeFunc.inj e;exact congrArg Item.inRangeFunc (hh.blk _ (t.lt e1))
 | endRangeFunc l=>have e1:f l=f' l:=Item.endRangeFunc.inj e;exact congrArg Item.endRangeFunc (hh.blk _ (t.lt e1))
 | call d w r s=>
  obtain ⟨e1,_,_,e2⟩:=Item.call.inj e
  have a1:=vK t hh e1
  have a2:=lY t hh e2
  show Item.call _ _ _ _=Item.call _ _ _ _
  rw [a1,a2]
 | extern r s=>have e1:=(Item.extern.inj e).2;exact congrArg (Item.extern r) (lY t hh e1)
 | _=>rfl
theorem AA (t:lW S n F F' f f') (hh:Alike S n H H' h h') {fr:Frame} (e:@frame F f fr = @frame F' f' fr):@frame H h fr = @frame H' h' fr:=by
 unfold frame at e ⊢
 simp only [Frame.mk.injEq,true_and] at e ⊢
 obtain ⟨e1,e2,e3,e4,e5⟩:=e
 refine ⟨lY t hh e1,?_,yD t hh e3,?_,wR t hh e5⟩
 ·rw [List.map_inj_left] at e2 ⊢
  exact fun i hi=>LJ t hh (e2 i hi)
 ·cases hm:fr.mode with
  | panicking c=>
   rw [hm] at e4
   unfold mode at e4 ⊢
   simp only [FrameMode.panicking.injEq] at e4 ⊢
   rw [List.map_inj_left] at e4 ⊢
   intro p hp
   have:=e4 p hp
   unfold Jl at this ⊢
   simp only [PanicEntry.mk.injEq,and_true] at this ⊢
   exact iM t hh _ this
  | _=>rfl
theorem OL (t:lW S n F F' f f') (hh:Alike S n H H' h h') {g:Goroutine} (e:@yB F f g = @yB F' f' g):@yB H h g = @yB H' h' g:=by
 unfold yB at e ⊢
 simp only [Goroutine.mk.injEq,and_true] at e ⊢
 obtain ⟨e1,e2⟩:=e
 refine ⟨AA t hh e1,?_⟩
 rw [List.map_inj_left] at e2 ⊢
 exact fun c hc=>AA t hh (e2 c hc)
theorem Oj (t:lW S n F F' f f') (hh:Alike S n H H' h h') {o:Obj} (e:@obj F f o = @obj F' f' o):@obj H h o = @obj H' h' o:=by
 cases o with
 | cells c e1 fr=>
  obtain ⟨e2,_⟩:=Obj.cells.inj e
  exact congrArg (fun x=>Obj.cells x e1 fr) (lY t hh e2)
 | loop l=>
  have e2:=Obj.loop.inj e
  unfold loop at e2
  simp only [Loop.mk.injEq,true_and] at e2
  show Obj.loop _=Obj.loop _
  unfold loop
  rw [lY t hh e2.1,hh.blk _ (t.lt e2.2)]
 | deferred d=>
  cases d with
  | none=>rfl
  | some ds=>
   have e2:=Option.some.inj (Obj.deferred.inj e)
   exact congrArg (fun x=>Obj.deferred (some x)) (yD t hh e2)
 | map es c=>
  have e2:=(Obj.map.inj e).1
  simp only [Array.map_inj_left] at e2
  refine congrArg (fun x=>Obj.map x c) ?_
  simp only [Array.map_inj_left]
  intro x hx
  have:=e2 x hx
  unfold entry at this ⊢
  simp only [MapEntry.mk.injEq,and_true] at this ⊢
  exact ⟨iM t hh _ this.1,iM t hh _ this.2⟩
 | number a l=>
  have e2:=(Obj.number.inj e).1
  exact congrArg (fun x=>Obj.number x l) (Dp t hh e2)
 | mapIter m s q l=>
  cases m with
  | none=>rfl
  | some r=>
   have e2:=(Obj.mapIter.inj e).1
   simp only [Option.map_some,Option.some.injEq] at e2
   show Obj.mapIter _ s q l=Obj.mapIter _ s q l
   simp only [Option.map_some,hh.blk _ (t.lt e2)]
 | _=>rfl
end Ren
end Go
end
end
section
section
namespace Go
namespace Ren
variable [gm] {P:Program} {S:FuncId→Prop}
def yE (S:FuncId→Prop) (g:Goroutine) (v:World):Prop:=
 ∀ (H H':Fr) (h h':Nat→Nat),Alike S v.heap.size H H' h h'→@yB H h g = @yB H' h' g∧∀ (b:Nat) (o:Obj),v.heap[b]? = some o→@obj H h o = @obj H' h' o
def Nm [gm] (S:FuncId→Prop):FuncId→Prop:=fun g=>S g∨gm.nm g
theorem Jt (h:∀ g,¬ gm.nm g) (S:FuncId→Prop):Nm S=S:=funext fun g=>propext ⟨fun hg=>hg.resolve_right (h g),.inl⟩
def Clean (S:FuncId→Prop) (v:World):Prop:=
 ∀ (H H':Fr) (h:Nat→Nat),(∀ g,S g→H.qL g=H'.qL g)→∀ (b:Nat) (o:Obj),v.heap[b]? = some o→@obj H h o = @obj H' h o
theorem yE.clean {S:FuncId→Prop} {g:Goroutine} {v:World} (h:yE S g v):Clean S v:=fun H H' e ha=>(h H H' e e ⟨fun _ _=>rfl,ha⟩).2
def lift (n:Nat):Nat→Nat:=fun i=>if i<n then i else i+1
open Classical in
@[reducible] noncomputable def iq (S:FuncId→Prop):Fr:=⟨fun g=>if S g then g else g+1,fun n=>if n = "" then "a" else ""⟩
open Classical in
theorem su {g:FuncId} (h:S g):(iq S).qL g=g:=if_pos h
open Classical in
theorem Eo {g:FuncId} (h:¬ S g):(iq S).qL g≠g:=by
 show (if S g then g else g+1)≠g
 rw [if_neg h];exact Nat.succ_ne_self g
theorem yK (n:String):(iq S).mid n≠n:=by
 show (if n = "" then "a" else "")≠n
 by_cases h:n = ""
 ·rw [if_pos h,h];decide
 ·rw [if_neg h];exact fun e=>h e.symm
theorem UR (n:Nat):rU (lift n):=fun a b e=>by
 unfold lift at e
 split at e<;>split at e<;>omega
theorem Oy (S:FuncId→Prop) (n:Nat):lW S n jW (iq S) (id:Nat→Nat) (lift n):=by
 refine ⟨fun i h=>?_,fun i h=>?_,fun g h e=>Eo h e.symm,fun n e=>yK n e.symm⟩<;>unfold lift
 ·rw [if_pos h];rfl
 ·rw [if_neg (by omega)];show i≠i+1;omega
theorem QJ {F:Fr} {f:Nat→Nat} {y:Value} (h:@val F f y=y):@vk F y:=by
 cases y with
 | func g a b=>
  rw [nU] at h
  have e:=(Value.func.inj h).1
  cases g with
  | method n=>exact Fn.method.inj e
  | methodOf t n=>exact (Fn.methodOf.inj e).2
  | _=>trivial
 | _=>trivial
theorem C9 {F:Fr} {f:Nat→Nat} {fr:Frame} (hx:Fix P f) (hφ:∀ x,S x→F.qL x=x) (h:@frame F f fr=fr) {x:Operand} (ho:bG P S x):@val F f (fr.eval x)=fr.eval x:=by
 have:=@fG F P f S _ hx hφ fr x ho
 rw [h] at this
 exact this.symm
theorem Df (hz:aN P) (hS:kU P S) {g g1:Goroutine} {v v1:World} {es:Array Event} (hn:NV (kd P S) v) (hg:Tq P S g) (hu:Up g) (hns:uu g.frame) (hl:∀ x,g.frame.about P v=some x→S x)
  (hgl:P.globals.size≤v.heap.size) (hst:stepG P true g v = .go g1 v1 es) (hsm:iF g1) (hu1:Up g1) {N:FuncId→Prop} (hSN:∀ g,S g→N g) (hc:yE N g v):yE N g1 v1:=by
 obtain ⟨_,hle,hn1,_⟩:=mi (m:=true) (m':=true) hz hS hn hg hu hns hl hst hsm hu1 v.tape (fun _ _ _=>rfl)
 have hsz:=hle.size
 have T:=Oy N v1.heap.size
 have agree:∀ i,i<v.heap.size→lift v1.heap.size i=(id:Nat→Nat) i:=fun i hi=>(T.below i (by omega)).symm
 obtain ⟨hcg,hco⟩:=hc (iq N) jW (lift v1.heap.size) id ⟨agree,fun g hg=>su hg⟩
 rw [FU] at hcg
 have hs:@kY (iq N) (lift v1.heap.size) (kd P S) v v:=by
  refine @kY.mk (iq N) _ _ _ _ (fun b o h=>(hn b o h).2) (fun b o h=>⟨o,?_,?_⟩)
  ·rw [agree b (Array.getElem?_eq_some_iff.1 h).1];exact h
  ·rcases (hn b o h).1 with h1 | h1
   ·exact @pR (iq N) _ _ _ (.refl h1)
   ·have h2:=@uD (iq N) (lift v1.heap.size) o h1
    rw [hco b o h,E8] at h2
    exact h2
 have h0:=@pM (iq N) _ P (lift v1.heap.size) S [bottom] (UR v1.heap.size) (fun x hx=>agree x (by omega)) hz ⟨fun g hg=>su (hSN g hg),hS.2⟩ true true g v v hs hg hu.ne (fun x hx=>QJ (C9 (fun x hx=>agree x (by omega)) (fun g hg=>su (hSN g hg)) (congrArg Goroutine.frame hcg) hx)) hns hl
 rw [hst,@DR _ (iq N) _ _ hu,hcg,hst] at h0
 obtain ⟨_,h1⟩:=h0 hsm
 obtain ⟨w1,e1,hov,_⟩:=h1 hu1.ne ⟨fun i h2 h3=>by rw [←T.below i h3];show i=_;omega,fun i h2=>by unfold lift;rw [if_neg (by omega)];omega,fun i h2 _=>by rw [show v.drawn+(i - v.drawn)=i by omega]⟩
 simp only [GStep.go.injEq] at e1
 obtain ⟨e2,rfl,_⟩:=e1
 rw [@DR _ (iq N) _ _ hu1] at e2
 have hsim:=@Over.mF (iq N) _ _ _ _ _ _ hov
 have hblk:=@kY.block (iq N) _ _ _ _ hsim
 intro H H' h h' hh
 refine ⟨OL T hh (by rw [FU];exact e2),fun b o hbo=>Oj T hh ?_⟩
 rw [E8]
 obtain ⟨o',h3,h4⟩:=hblk b o hbo
 rw [←T.below b (Array.getElem?_eq_some_iff.1 hbo).1] at h3
 have:o'=o:=by
  rw [show (id:Nat→Nat) b=b from rfl,hbo] at h3
  exact (Option.some.inj h3).symm
 subst this
 cases o' with
 | cells c e fr=>
  obtain ⟨c',fr',e5,h6⟩:=h4
  cases he:c.isEmpty with
  | true=>
   have:c=#[]:=by simpa [Array.isEmpty] using he
   subst this
   simp [obj,vals]
  | false=>
   obtain ⟨h7,_⟩:=h6 he
   simp only [Obj.cells.injEq,true_and] at e5
   obtain ⟨rfl,_⟩:=e5
   simp only [obj]
   rw [←h7]
 | chan=>rfl
 | coro=>rfl
 | _=>exact h4.2
end Ren
end Go
end
end
section
section
namespace Go
namespace Ren
variable [gm] {P:Program} {S:FuncId→Prop}
theorem Qx {t:Target} {w:World} {args:Array Value} {x:FuncId} (hd:@target (iq S) id t=t) (h:t.leads P w args=some x):S x:=by
 have key:∀ g:FuncId,(iq S).qL g=g→S g:=fun g e=>Classical.byContradiction fun hs=>Eo hs e
 cases t with
 | fn g c=>
  have e:=(Target.fn.inj hd).1
  cases g with
  | func g=>obtain rfl:=Option.some.inj h;exact key _ (Fn.func.inj e)
  | via u p g b=>obtain rfl:=Option.some.inj h;exact key _ (Fn.via.inj e).2.2.1
  | method n=>exact absurd (Fn.method.inj e) (yK n)
  | methodOf u n=>exact absurd (Fn.methodOf.inj e).2 (yK n)
  | yield l=>cases h
 | _=>cases h
theorem Ey {ρ:Operand→Value} {c:Call} {ty:TypeId} {d:Deferred} {w w':World} (hv:∀ x∈c.operands,@val (iq S) id (ρ x)=ρ x) (hc:gI P c) (h:(resolve ρ c ty).run P w = .ok d w'):@target (iq S) id d.target=d.target:=by
 unfold resolve at h
 unfold gI at hc
 dsimp only at h
 cases hcal:c.callee with
 | builtin b=>
  rw [hcal] at h
  simp only [pure,Sem.run,Result.ok.injEq] at h
  obtain ⟨rfl,_⟩:=h
  rfl
 | invoke r n=>rw [hcal] at hc;exact hc.elim
 | value g=>
  rw [hcal] at h
  dsimp only at h
  have hvg:=hv g (by unfold Call.operands;rw [hcal];simp)
  cases hg:ρ g with
  | func q a b=>
   rw [hg] at h hvg
   simp only [Deferred.ofValue,pure,Sem.run,Result.ok.injEq] at h
   obtain ⟨rfl,_⟩:=h
   rw [nU] at hvg
   obtain ⟨e1,_,e3⟩:=Value.func.inj hvg
   show Target.fn _ _=Target.fn _ _
   rw [e1]
   unfold vals
   rw [e3]
  | nilFunc=>
   rw [hg] at h
   simp only [Deferred.ofValue,pure,Sem.run,Result.ok.injEq] at h
   obtain ⟨rfl,_⟩:=h
   rfl
  | _=>rw [hg] at h;simp [Deferred.ofValue,stuck] at h
theorem Yb {defers:List Deferred} {w:World} {x:FuncId} (h:(match defers with | d::_=>d.target.leads P w d.args | []=>none)=some x) (hd:∀ d∈defers,qK d):S x:=by
 cases defers with
 | nil=>cases h
 | cons d ds=>
  rcases hd d (List.mem_cons_self ..) with rfl | ⟨r,hr⟩
  ·cases h
  ·dsimp only at h
   rw [hr] at h
   cases h
theorem Nc {g:Goroutine} {v v':World} (hg:Tq P S g) (hns:uu g.frame) {N:FuncId→Prop} (hSN:∀ g,S g→N g) (hc:yE N g v) {x:FuncId} (h:g.frame.about P v'=some x):N x:=by
 obtain ⟨hcg,_⟩:=hc (iq N) jW id id ⟨fun _ _=>rfl,fun g hg=>su hg⟩
 rw [FU] at hcg
 have hfr:=congrArg Goroutine.frame hcg
 have hv:∀ y,bG P S y→@val (iq N) id (g.frame.eval y)=g.frame.eval y:=fun y hy=>C9 (fun _ _=>rfl) (fun g hg=>su (hSN g hg)) hfr hy
 obtain ⟨fr,callers,status,dying,offers⟩:=g
 have hgf:=hg.frame
 dsimp only at hv h hgf
 obtain ⟨fn0,tmps,todo,defers,md,kind,ro⟩:=fr
 cases md with
 | panicking ch=>exact hgf.mode.elim
 | returning=>exact hSN _ (Yb h hgf.defers)
 | run=>
  have hi:=hgf.items
  cases todo with
  | nil=>cases h
  | cons i k=>
   have hi0:dL P S i:=hi i (List.mem_cons_self ..)
   cases i with
   | inRegion ops todo=>
    cases todo with
    | nil=>cases h
    | cons j rest=>
     simp only [Frame.about] at h
     cases ho:ops[j]? with
     | none=>rw [ho] at h;cases h
     | some o=>
      rw [ho] at h
      dsimp only at h
      have hoo:vw P S o:=(hi0 o (Array.mem_of_getElem? ho)).resolve_right (hns rfl _ _ _ _ _ rfl ho)
      cases hop:o.op with
      | call c=>
       rw [hop] at h
       dsimp only at h
       generalize hr:(resolve _ c o.type).run P v'=r at h
       cases r with
       | halt y w=>cases h
       | ok d w=>
        refine Qx (Ey (fun y hy=>?_) (by have:=hoo.1;rw [hop] at this;exact this) hr) h
        exact hv y (hoo.2 y (by rw [hop];exact hy))
      | _=>rw [hop] at h;cases h
   | code cd=>
    cases cd with
    | rangeFunc q ps a b=>
     have hcd:gZ P S (.rangeFunc q ps a b):=hi0
     simp only [Frame.about] at h
     cases hr:(Instr.enterLoop fn0 tmps ps a b ro).run P v' with
     | halt y v1=>rw [hr] at h;cases h
     | ok y v1=>
      obtain ⟨l,mark⟩:=y
      rw [hr] at h
      dsimp only at h
      have hvq:=hv q hcd.1
      cases hr2:(resolve (Frame.eval ⟨fn0,tmps,.code (.rangeFunc q ps a b)::k,defers,.run,kind,ro⟩) { callee:=.value q,args:=#[.const (.func (.yield l) #[] #[])],argTypes:=#[] } 0).run P v1 with
      | halt y w=>rw [hr2] at h;cases h
      | ok d w=>
       rw [hr2] at h
       dsimp only at h
       simp only [resolve] at hr2
       generalize Frame.eval _ q=y at hr2 hvq
       cases y with
       | func f1 a1 b1=>
        simp only [Deferred.ofValue,pure,Sem.run,Result.ok.injEq] at hr2
        obtain ⟨rfl,_⟩:=hr2
        rw [nU] at hvq
        obtain ⟨e1,_,e3⟩:=Value.func.inj hvq
        refine Qx (S:=N) (t:=.fn f1 b1) ?_ h
        show Target.fn _ _=Target.fn _ _
        rw [e1]
        unfold vals
        rw [e3]
       | nilFunc=>
        simp only [Deferred.ofValue,pure,Sem.run,Result.ok.injEq] at hr2
        obtain ⟨rfl,_⟩:=hr2
        cases h
       | _=>simp [Deferred.ofValue,stuck] at hr2
    | _=>cases h
   | call d a r s=>exact hi0.elim
   | _=>cases h
def Fit (P:Program) (g:Goroutine):Prop:=uu g.frame∧∀ v' x,g.frame.about P v'=some x→¬ gm.nm x
theorem Fit.of {g:Goroutine} (h:uu g.frame) (hn:∀ x,¬ gm.nm x):Fit P g:=⟨h,fun _ x _=>hn x⟩
end Ren
end Go
end
end
section
section
namespace Go
namespace Ren
open Go.Conc
variable [gm] {P:Program} {S:FuncId→Prop}
theorem Ej {g g':Goroutine} {v v':World} (h:solo g v=solo g' v'):g=g'∧v=v':=by
 simp [solo] at h
 exact ⟨h.2,h.1⟩
theorem xu:ai P S bottom:=⟨fun i hi=>(by cases hi),fun d hd=>.inl (List.mem_singleton.1 hd),trivial,.inl rfl⟩
structure Low (g:Goroutine):Prop where
 callers:g.callers=[]
 todo:g.frame.todo=[]
 defers:g.frame.defers=[ik]
 round:g.frame.roundOf=none
structure Fin (gf:Goroutine):Prop where
 calm:¬ Rx gf.frame
 up:gf.callers≠[]
theorem EC (fr:Frame) (vs:List PanicEntry):(fr.raise vs).todo=fr.todo∧(fr.raise vs).roundOf=fr.roundOf:=by
 unfold Frame.raise
 split<;>exact ⟨rfl,rfl⟩
theorem Qd {cs0:List Frame} {g1:Goroutine} (h:Last cs0 g1) (hu:∃ cs,cs0=cs++[bottom]):Up g1∨Low g1:=by
 obtain ⟨cs,e⟩:=hu
 rcases h bottom cs e with h | ⟨h1,h2⟩
 ·exact .inl h
 ·refine .inr ?_
  rcases h2 with h2 | ⟨x,h2⟩ | ⟨vs,h2⟩
  ·exact ⟨h1,by rw [h2];rfl,by rw [h2];rfl,by rw [h2];rfl⟩
  ·exact ⟨h1,by rw [h2];rfl,by rw [h2];rfl,by rw [h2];rfl⟩
  ·exact ⟨h1,by rw [h2,(EC _ _).1];rfl,by rw [h2,uG];rfl,by rw [h2,(EC _ _).2];rfl⟩
theorem UN {g:Goroutine} {v:World} (hl:Low g) (hd:g.dying=none) :
  (∃ o w es,stepG P true g v = .ended o w es) ∨ ∃ g1 es,stepG P true g v = .go g1 v es∧Low g1∧g1.dying=none∧g1.status = .running:=by
 obtain ⟨fr,callers,status,dying,offers⟩:=g
 obtain ⟨h1,h2,h3,h4⟩:=hl
 dsimp only at h1 h2 h3 h4 hd
 subst h1 hd
 unfold stepG
 dsimp only
 have hun:∃ o w es,unwind P true fr [] none v = .ended o w es:=by
  unfold unwind
  rw [h3]
  obtain ⟨o,es,e⟩:=iV P { fr with defers:=[] } [] none v
  exact ⟨o,v,es,e⟩
 cases hm:fr.mode with
 | run=>
  right
  refine ⟨{ frame:={ fr with mode:=.returning },callers:=[],status:=.running,dying:=none },#[],?_,⟨rfl,h2,h3,h4⟩,rfl,rfl⟩
  unfold stepG.exec
  simp only [h2,h4]
  rfl
 | returning=>exact .inl hun
 | panicking ch=>exact .inl hun
inductive Gone (P:Program) (S:FuncId→Prop) (g:Goroutine) (v:World):Prop
 | low (h:Low g)
 | Rx (hn:NV (kd P S) v) (hp:Rx g.frame) (hdef:∀ d∈g.frame.defers,qK d) (hcs:∀ c∈g.callers,ai P S c) (hu:Up g)
theorem ZA {m mf:Machine} (h:Steps P m mf):∀ {g gf:Goroutine} {v vf:World},m=solo g v→mf=solo gf vf→g.status = .running→g.dying=none→Gone P S g v→Fin gf→False:=by
 obtain ⟨n,hn⟩:=h
 induction n generalizing m with
 | zero=>
  intro g gf v vf e1 e2 _ _ hg hf
  simp only [runN,Stepped.next.injEq] at hn
  obtain ⟨rfl,rfl⟩:=Ej (e1.symm.trans (hn.trans e2))
  cases hg with
  | low h=>exact hf.up h.callers
  | Rx _ hp=>exact hf.calm hp
 | succ n ih=>
  intro g gf v vf e1 e2 hst hd hg hf
  subst e1
  simp only [runN] at hn
  cases hs:step P (solo g v) with
  | ended o w=>rw [hs] at hn;simp at hn
  | next m1=>
   rw [hs] at hn
   cases hg with
   | low h=>
    rcases UN (P:=P) (v:=v) h hd with ⟨o,w,es,e⟩ | ⟨g1,es,e,h1,h2,h3⟩
    ·obtain ⟨g1,v1,es1,e3,_⟩:=uB hst hs (by rw [e];trivial)
     rw [e] at e3;cases e3
    ·obtain ⟨g1',v1,es1,e3,e4⟩:=uB hst hs (by rw [e];trivial)
     rw [e] at e3
     simp only [GStep.go.injEq] at e3
     obtain ⟨rfl,rfl,rfl⟩:=e3
     exact ih hn e4 e2 h3 h2 (.low h1) hf
   | Rx hnv hp hdef hcs hu=>
    have hne:g.callers≠[]:=by
     obtain ⟨cs,e⟩:=hu
     rw [e];simp
    have hO:=QR (m:=true) hnv hd hp hdef hcs (.inl hne)
    obtain ⟨g1,v1,es,e3,e4⟩:=uB hst hs (by cases hq:stepG P true g v<;>rw [hq] at hO<;>first | trivial | exact hO.elim)
    rw [e3] at hO
    obtain ⟨hO,hp1⟩:=hO
    refine ih hn e4 e2 hO.run hO.dying ?_ hf
    rcases Qd hO.last hu with h | h
    ·exact .Rx hO.nv hp1 hO.defers hO.callers h
    ·exact .low h
theorem Rw (hz:aN P) (hS:kU P S) {g gf:Goroutine} {v vf:World} (h:Steps P (solo g v) (solo gf vf)) (hf:Fin gf)
  (hn:NV (kd P S) v) (hg:Tq P S g) (hst:g.status = .running) (hu:Up g) (hns:Fit P g) (hgl:P.globals.size≤v.heap.size) (hc:yE (Nm S) g v) :
  (g=gf∧v=vf) ∨ ∃ g1 v1 es,stepG P true g v = .go g1 v1 es∧iF g1∧g1.status = .running∧Le v v1∧NV (kd P S) v1∧Tq P S g1∧Up g1∧yE (Nm S) g1 v1∧Steps P (solo g1 v1) (solo gf vf):=by
 obtain ⟨n,h⟩:=h
 cases n with
 | zero=>
  simp only [runN,Stepped.next.injEq] at h
  exact .inl (Ej h)
 | succ n=>
  simp only [runN] at h
  cases hs:step P (solo g v) with
  | ended o w=>rw [hs] at h;simp at h
  | next m1=>
   rw [hs] at h
   have hne:g.callers≠[]:=by
    obtain ⟨cs,e⟩:=hu
    rw [e];simp
   have hl:∀ x,g.frame.about P v=some x→S x:=fun x hx=>(Nc hg hns.1 (fun _ h=>.inl h) hc hx).resolve_right (hns.2 _ _ hx)
   have hO:=QS (m:=true) hz hS hn hg hne hns.1 hl
   obtain ⟨g1,v1,es,e3,e4⟩:=uB hst hs (by cases hq:stepG P true g v<;>rw [hq] at hO<;>first | trivial | exact hO.elim)
   rw [e3] at hO
   subst e4
   have hno:Gone P S g1 v1→False:=fun hG=>ZA ⟨n,h⟩ rfl rfl hO.run hO.dying hG hf
   have hup:Up g1:=by
    rcases Qd hO.last hu with h | h
    ·exact h
    ·exact (hno (.low h)).elim
   rcases hO.frame with hfr | hfr
   ·have hsm:iF g1:=⟨hO.dying,.inl hO.run,hfr.mode⟩
    obtain ⟨_,hle,hnv,hgk⟩:=mi (m:=true) (m':=true) hz hS hn hg hu hns.1 hl e3 hsm hup v.tape (fun _ _ _=>rfl)
    exact .inr ⟨g1,v1,es,e3,hsm,hO.run,hle,hnv,hgk,hup,Df hz hS hn hg hu hns.1 hl hgl e3 hsm hup (fun _ h=>.inl h) hc,n,h⟩
   ·exact (hno (.Rx hO.nv hfr hO.defers hO.callers hup)).elim
end Ren
end Go
end
end
section
section
namespace Go
namespace Ren
open Go.Conc
variable [gm] {P:Program} {S:FuncId→Prop}
def wt (v:World) (t:Nat→Question→Nat):World:={ v with tape:=t }
structure Ok (P:Program) (S:FuncId→Prop) (g:Goroutine) (v:World):Prop where
 nv:NV (kd P S) v
 uy:Tq P S g
 run:g.status = .running
 up:Up g
 vS:P.globals.size≤v.heap.size
 bound:yE (Nm S) g v
 clean:Clean S v
theorem Ok.wt {g:Goroutine} {v:World} (h:Ok P S g v) (t:Nat→Question→Nat):Ok P S g (wt v t):=⟨h.nv,h.uy,h.run,h.up,h.vS,h.bound,h.clean⟩
theorem Ok.ne {g:Goroutine} {v:World} (h:Ok P S g v):g.callers≠[]:=by
 obtain ⟨cs,e⟩:=h.up
 rw [e];simp
theorem Ok.leads {g:Goroutine} {v:World} (h:Ok P S g v) (hns:Fit P g) (v':World):∀ x,g.frame.about P v'=some x→S x:=fun _ hx=>(Nc h.uy hns.1 (fun _ h=>.inl h) h.bound hx).resolve_right (hns.2 _ _ hx)
theorem SC (hz:aN P) (hS:kU P S) {g gf:Goroutine} {v vf:World} (h:Steps P (solo g v) (solo gf vf)) (hf:Fin gf) (hok:Ok P S g v) (hnm:∀ x,¬ gm.nm x) (hns:Fit P g) :
  (g=gf∧v=vf) ∨ ∃ g1 v1 es,stepG P true g v = .go g1 v1 es∧iF g1∧Le v v1∧Ok P S g1 v1∧Steps P (solo g1 v1) (solo gf vf):=by
 rcases Rw hz hS h hf hok.nv hok.uy hok.run hok.up hns hok.vS hok.bound with h | ⟨g1,v1,es,h1,h2,h3,h4,h5,h6,h7,h8,h9⟩
 ·exact .inl h
 ·exact .inr ⟨g1,v1,es,h1,h2,h4,⟨h5,h6,h3,h7,Nat.le_trans hok.vS h4.size,h8,(Jt hnm S▸h8).clean⟩,h9⟩
theorem Alike.named {n:Nat} {F F':Fr} {f f':Nat→Nat} (h:Alike (Nm S) n F F' f f'):Alike S n F F' f f':=⟨h.blk,fun g hg=>h.qL g (.inl hg)⟩
theorem Ok.Uz {g:Goroutine} {v:World} (h:Ok P S g v) (H H':Fr) (e e':Nat→Nat) (ha:Alike S v.heap.size H H' e e') (b:Nat) (o:Obj) (hb:v.heap[b]? = some o):@obj H e o = @obj H' e' o:=
 (h.clean H H' e ha.qL b o hb).trans ((h.bound H' H' e e' ⟨ha.blk,fun _ _=>rfl⟩).2 b o hb)
inductive Tree (P:Program) (S:FuncId→Prop) (D:Goroutine→World→Prop):Goroutine→World→Prop
 | done {g:Goroutine} {v:World} (ok:Ok P S g v) (h:D g v):Tree P S D g v
 | step {g:Goroutine} {v:World} (ok:Ok P S g v) (hns:Fit P g)
   (G:(Nat→Question→Nat)→Goroutine) (V:(Nat→Question→Nat)→World) (E:(Nat→Question→Nat)→Array Event)
   (he:∀ t,stepG P true g (wt v t) = .go (G t) (V t) (E t)) (hsm:∀ t,iF (G t)) (h:∀ t,Tree P S D (G t) (V t)):Tree P S D g v
theorem Tree.of {D:Goroutine→World→Prop} {g:Goroutine} {v:World} (ok:Ok P S g v) (hns:Fit P g)
  (h:∀ t,∃ g1 v1 es,stepG P true g (wt v t) = .go g1 v1 es∧iF g1∧Tree P S D g1 v1):Tree P S D g v:=
 .step ok hns (fun t=>Classical.choose (h t)) (fun t=>Classical.choose (Classical.choose_spec (h t))) (fun t=>Classical.choose (Classical.choose_spec (Classical.choose_spec (h t))))
  (fun t=>(Classical.choose_spec (Classical.choose_spec (Classical.choose_spec (h t)))).1)
  (fun t=>(Classical.choose_spec (Classical.choose_spec (Classical.choose_spec (h t)))).2.1)
  (fun t=>(Classical.choose_spec (Classical.choose_spec (Classical.choose_spec (h t)))).2.2)
theorem Tree.ok {D:Goroutine→World→Prop} {g:Goroutine} {v:World} (h:Tree P S D g v):Ok P S g v:=by cases h<;>assumption
structure Lone (P:Program) (S:FuncId→Prop) (D:Goroutine→World→Prop) where
 g:Goroutine
 v:World
 bad:¬ Tree P S D g v
 ok:Ok P S g v
theorem WM (hN0:∀ fr,uu fr) (hnm:∀ x,¬ gm.nm x) (hz:aN P) (hS:kU P S) {D:Goroutine→World→Prop} (hD:∀ g v t,Ok P S g v→D g v→D g (wt v t)) {g0:Goroutine} {v0:World} (hok:Ok P S g0 v0)
  (hcon:∀ t,∃ gf vf,Fin gf∧D gf vf∧Steps P (solo g0 (wt v0 t)) (solo gf vf)):Tree P S D g0 v0:=by
 classical
 have hN:∀ g,Fit P g:=fun g=>.of (hN0 _) hnm
 refine Classical.byContradiction fun hbad=>?_
 have hx:∀ x:Lone P S D,∃ t,¬ ∃ g1 v1 es,stepG P true x.g (wt x.v t) = .go g1 v1 es∧iF g1∧Tree P S D g1 v1:=fun x=>
  Classical.byContradiction fun hh=>x.bad (.of x.ok (hN _) fun t=>Classical.byContradiction fun h=>hh ⟨t,h⟩)
 let tp:Lone P S D→Nat→Question→Nat:=fun x=>Classical.choose (hx x)
 have htp:=fun x=>Classical.choose_spec (hx x)
 let Good:Lone P S D→Lone P S D→Prop:=fun x y=>∃ es,stepG P true x.g (wt x.v (tp x)) = .go y.g y.v es∧iF y.g
 let Nq:Lone P S D→Lone P S D:=fun x=>if h:∃ y,Good x y then Classical.choose h else x
 have nxt_good:∀ x,(∃ y,Good x y)→Good x (Nq x):=fun x h=>by
  show Good x (if h:∃ y,Good x y then Classical.choose h else x)
  rw [dif_pos h]
  exact Classical.choose_spec h
 have nxt_not:∀ x,(¬ ∃ y,Good x y)→Nq x=x:=fun x h=>dif_neg h
 have nxt_mono:∀ x,x.v.drawn≤(Nq x).v.drawn:=fun x=>by
  by_cases h:∃ y,Good x y
  ·obtain ⟨es,h3,h4⟩:=nxt_good x h
   obtain ⟨_,hle,_⟩:=mi (m:=true) (m':=true) hz hS (v:=wt x.v (tp x)) x.ok.nv x.ok.uy x.ok.up (hN _).1 (x.ok.leads (hN _) _) h3 h4 (Nq x).ok.up (tp x) (fun _ _ _=>rfl)
   exact hle.drawn
  ·rw [nxt_not x h];exact Nat.le_refl _
 let root:Lone P S D:=⟨g0,v0,hbad,hok⟩
 let seq:Nat→Lone P S D:=fun k=>Nat.rec root (fun _ x=>Nq x) k
 have seq_succ:∀ k,seq (k+1)=Nq (seq k):=fun _=>rfl
 have mono:∀ j k,j≤k→(seq j).v.drawn≤(seq k).v.drawn:=fun j k h=>by
  induction h with
  | refl=>exact Nat.le_refl _
  | step _ ih=>exact Nat.le_trans ih (nxt_mono _)
 have froz:∀ k,seq (k+1)=seq k→∀ j,k≤j→seq j=seq k:=fun k h j hj=>by
  induction hj with
  | refl=>rfl
  | @step j _ ih=>rw [seq_succ,ih,← seq_succ];exact h
 let A:Nat→Nat→Prop:=fun k i=>(seq k).v.drawn≤i∧(i<(seq (k+1)).v.drawn∨seq (k+1)=seq k)
 let T:Nat→Question→Nat:=fun i=>if h:∃ k,A k i then tp (seq (Classical.choose h)) i else fun _=>0
 have Tval:∀ k i,A k i→T i=tp (seq k) i:=fun k i hA=>by
  have hex:∃ k,A k i:=⟨k,hA⟩
  have e:T i=tp (seq (Classical.choose hex)) i:=dif_pos hex
  have hA':=Classical.choose_spec hex
  rw [e]
  generalize Classical.choose hex=k' at hA'
  suffices hk:seq k'=seq k by rw [hk]
  rcases Nat.lt_trichotomy k k' with h | h | h
  ·rcases hA.2 with h1 | h1
   ·have:=mono (k+1) k' h
    have:=hA'.1
    omega
   ·exact froz k h1 k' (Nat.le_of_lt h)
  ·rw [h]
  ·rcases hA'.2 with h1 | h1
   ·have:=mono (k'+1) k h
    have:=hA.1
    omega
   ·exact (froz k' h1 k (Nat.le_of_lt h)).symm
 have fin:∀ k gf vf,D gf vf→(seq k).g=gf→wt (seq k).v T=vf→False:=fun k gf vf hd e1 e2=>by
  subst e1 e2
  exact (seq k).bad (.done (seq k).ok (hD (seq k).g (wt (seq k).v T) (seq k).v.tape ((seq k).ok.wt T) hd))
 have main:∀ (n k:Nat) (gf:Goroutine) (vf:World),runN P n (solo (seq k).g (wt (seq k).v T)) = .next (solo gf vf)→Fin gf→D gf vf→False:=fun n=>by
  induction n with
  | zero=>
   intro k gf vf hn hf hd
   simp only [runN,Stepped.next.injEq] at hn
   obtain ⟨h1,h2⟩:=Ej hn
   exact fin k gf vf hd h1 h2
  | succ n ih=>
   intro k gf vf hn hf hd
   rcases SC hz hS ⟨n+1,hn⟩ hf ((seq k).ok.wt T) hnm (hN _) with ⟨h1,h2⟩ | ⟨g1,v1,es,h1,hsm,hle,hok1,hrest⟩
   ·exact fin k gf vf hd h1 h2
   ·have hs:step P (solo (seq k).g (wt (seq k).v T)) = .next (solo g1 v1):=by
     rw [step,stepT_solo (seq k).ok.run,runT_solo_go h1]
    simp only [runN,hs] at hn
    by_cases hG:∃ y,Good (seq k) y
    ·obtain ⟨es',h4,h5⟩:=nxt_good _ hG
     rw [←seq_succ] at h4 h5
     obtain ⟨h6,hle',_⟩:=mi (m:=true) (m':=true) hz hS (v:=wt (seq k).v (tp (seq k))) (seq k).ok.nv (seq k).ok.uy (seq k).ok.up (hN _).1 ((seq k).ok.leads (hN _) _) h4 h5 (seq (k+1)).ok.up T (fun i h7 h8=>Tval k i ⟨h7,.inl h8⟩)
     have h9:stepG P true (seq k).g (wt (seq k).v T) = .go (seq (k+1)).g (wt (seq (k+1)).v T) es':=h6
     rw [h1] at h9
     simp only [GStep.go.injEq] at h9
     exact ih (k+1) gf vf (by rw [←h9.1,← h9.2.1];exact hn) hf hd
    ·have hfr:seq (k+1)=seq k:=nxt_not _ hG
     have hT:∀ i,(seq k).v.drawn≤i→T i=tp (seq k) i:=fun i hi=>Tval k i ⟨hi,.inr hfr⟩
     obtain ⟨h6,_,_,_⟩:=mi (m:=true) (m':=true) hz hS (v:=wt (seq k).v T) (seq k).ok.nv (seq k).ok.uy (seq k).ok.up (hN _).1 ((seq k).ok.leads (hN _) _) h1 hsm hok1.up (tp (seq k)) (fun i h7 _=>(hT i h7).symm)
     have h6':stepG P true (seq k).g (wt (seq k).v (tp (seq k))) = .go g1 (wt v1 (tp (seq k))) es:=h6
     refine hG ⟨⟨g1,wt v1 (tp (seq k)),fun ht=>?_,hok1.wt _⟩,es,h6',hsm⟩
     exact htp (seq k) ⟨g1,_,es,h6',hsm,ht⟩
 obtain ⟨gf,vf,hf,hd,n,hp⟩:=hcon T
 exact main n 0 gf vf hp hf hd
end Ren
end Go
end
end
section
section
namespace Go
namespace Ren
variable [gm] {P:Program} {S:FuncId→Prop}
structure nR (w w1:World):Prop where
 chan:jd w w1
 os:w1.os=w.os
 output:w1.output=w.output
theorem nR.refl (w:World):nR w w:=⟨.refl w,rfl,rfl⟩
theorem nR.trans {a b c:World} (h:nR a b) (h':nR b c):nR a c:=⟨h.chan.trans h'.chan,h'.os.trans h.os,h'.output.trans h.output⟩
structure aI (Ro own:Nat→Prop) (w w1:World):Prop where
 size:w.heap.size≤w1.heap.size
 keep:∀ b,b<w.heap.size→Ro b∨own b→w1.heap[b]? = w.heap[b]?
 cells:bu w w1
 chans:nR w w1
theorem aI.refl (Ro own:Nat→Prop) (w:World):aI Ro own w w:=⟨Nat.le_refl _,fun _ _ _=>rfl,.refl w,.refl w⟩
theorem aI.trans {Ro own:Nat→Prop} {a b c:World} (h:aI Ro own a b) (h':aI Ro own b c):aI Ro own a c:=
 ⟨Nat.le_trans h.size h'.size,fun x hx ho=>(h'.keep x (Nat.lt_of_lt_of_le hx h.size) ho).trans (h.keep x hx ho),h.cells.trans h'.cells,h.chans.trans h'.chans⟩
def Wj (Ro own:Nat→Prop) (e:Event):Prop:=
 match e.loc with
 | .cell a=>own a.block∨(Ro a.block∧e.write=false)
 | .obj r=>own r∨(Ro r∧e.write=false)
 | .mark m=>m = .noRoom
 | _=>False
structure PD (q:Bool) (X:Event→Prop) (Ro own own':Nat→Prop) (w w':World) (es:Array Event):Prop where
 quiet:q=true→w'=w∧es=#[]
 size:w.heap.size≤w'.heap.size
 keep:∀ b,b<w.heap.size→¬ own b→w'.heap[b]? = w.heap[b]?
 same:w'={ w with heap:=w'.heap,drawn:=w'.drawn }
 own:∀ b,own' b→own b∨(w.heap.size≤b∧b<w'.heap.size)
 evs:∀ e∈es,Wj Ro own' e∨X e
 cells:bu w w'
 chans:nR w w'
def more (own:Nat→Prop) (w w':World):Nat→Prop:=fun b=>own b∨(w.heap.size≤b∧b<w'.heap.size)
inductive Way (P:Program) (m:Bool) (Ro:Nat→Prop) (Live:World→Prop) (q:Bool) (X:Event→Prop) (Stop:Goroutine→World→(Nat→Prop)→Prop):Goroutine→World→(Nat→Prop)→Prop
 | stop {g:Goroutine} {w:World} {own:Nat→Prop} (hs:g.status = .running) (h:∀ w1,aI Ro own w w1→Live w1→Stop g w1 own):Way P m Ro Live q X Stop g w own
 | step {g:Goroutine} {w:World} {own:Nat→Prop} (hs:g.status = .running)
   (G:World→Goroutine) (W:World→World) (E:World→Array Event)
   (he:∀ w1,aI Ro own w w1→Live w1→stepG P m g w1 = .go (G w1) (W w1) (E w1)∧PD q X Ro own (more own w1 (W w1)) w1 (W w1) (E w1))
   (h:∀ w1,aI Ro own w w1→Live w1→Way P m Ro Live q X Stop (G w1) (W w1) (more own w1 (W w1))):Way P m Ro Live q X Stop g w own
theorem Way.status {P:Program} {m:Bool} {Ro:Nat→Prop} {Live:World→Prop} {q:Bool} {X:Event→Prop} {Stop:Goroutine→World→(Nat→Prop)→Prop} {g:Goroutine} {w:World} {own:Nat→Prop} (h:Way P m Ro Live q X Stop g w own):g.status = .running:=by
 cases h<;>assumption
theorem Way.rely {P:Program} {m:Bool} {Ro:Nat→Prop} {Live:World→Prop} {q:Bool} {X:Event→Prop} {Stop:Goroutine→World→(Nat→Prop)→Prop} {g:Goroutine} {w w':World} {own:Nat→Prop} (h:Way P m Ro Live q X Stop g w own) (hr:aI Ro own w w'):Way P m Ro Live q X Stop g w' own:=by
 cases h with
 | stop hs h=>exact .stop hs fun w1 h1=>h w1 (hr.trans h1)
 | step hs G W E he h=>exact .step hs G W E (fun w1 h1=>he w1 (hr.trans h1)) (fun w1 h1=>h w1 (hr.trans h1))
def Held (Ro own Hid:Nat→Prop) (b':Nat) (o:Obj):Prop:=
 (own b'∧o.isChan=false)∨lI o=true∨(Ro b'∧(Shut o ∨ ∃ x,o = .coro x))∨(Hid b'∧o.isChan=true)
structure di (P:Program) (S:FuncId→Prop) (Ro own Hid:Nat→Prop) (f:Nat→Nat) (g:Goroutine) (v w:World):Prop where
 ok:Ok P S g v
 inj:∀ a b,a<v.heap.size→b<v.heap.size→f a=f b→a=b
 fix:∀ g,g<P.globals.size→f g=g
 mF:kY f (kd P S) v w
 held:∀ b o,v.heap[b]? = some o→Held Ro own Hid (f b) o
theorem di.below {Ro own:Nat→Prop} {Hid:Nat→Prop} {f:Nat→Nat} {g:Goroutine} {v w:World} (h:di P S Ro own Hid f g v w) {i:Nat} (hi:i<v.heap.size):f i<w.heap.size:=by
 obtain ⟨o',h1,_⟩:=h.mF.block i _ (Array.getElem?_eq_getElem hi)
 exact (Array.getElem?_eq_some_iff.1 h1).1
def aA (f:Nat→Nat) (v w:World):Nat→Nat:=fun i=>if i<v.heap.size then f i else w.heap.size+(i - v.heap.size)
theorem bM {f:Nat→Nat} {v w:World} {i:Nat} (h:i<v.heap.size):aA f v w i=f i:=if_pos h
theorem fV {f:Nat→Nat} {v w:World} {i:Nat} (h:v.heap.size≤i):aA f v w i=w.heap.size+(i - v.heap.size):=if_neg (Nat.not_lt.2 h)
theorem yV {f f':Nat→Nat} {B:List Frame} {g:Goroutine} (h:yB f g=yB f' g) (hu:Up g):aF f B g=aF f' B g:=by
 obtain ⟨cs,e⟩:=hu
 have h1:g.callers.map (frame f)=g.callers.map (frame f'):=congrArg Goroutine.callers h
 rw [e,List.map_append,List.map_append] at h1
 have h2:=(List.append_inj h1 (by simp)).1
 unfold aF
 rw [h,e,wu,wu,h2]
theorem nZ.congr {f f':Nat→Nat} {o o':Obj} (h:nZ f o o') (e:obj f o=obj f' o):nZ f' o o':=by
 cases o with
 | coro=>exact h
 | cells c e1 fr=>
  obtain ⟨c',fr',rfl,h2⟩:=h
  refine ⟨c',fr',rfl,fun hc=>?_⟩
  obtain ⟨h3,h4⟩:=h2 hc
  exact ⟨h3.trans (Obj.cells.inj e).1,h4⟩
 | chan=>exact h
 | _=>first | exact ⟨h.1,h.2.trans e⟩
theorem wB {f:Nat→Nat} {o o':Obj} (h:nZ f o o') (hc:o'.isChan=true):aU o=true:=by
 cases o with
 | cells c e fr=>
  obtain ⟨_,_,rfl,_⟩:=h
  cases hc
 | chan=>rfl
 | coro=>rfl
 | _=>first | (have e:=h.2;subst e;simp [obj,Obj.isChan] at hc;done) | (have e:=h.1;cases e;done)
theorem di.rely {Ro own:Nat→Prop} {Hid:Nat→Prop} {f:Nat→Nat} {g:Goroutine} {v w w1:World} (h:di P S Ro own Hid f g v w) (hr:aI Ro own w w1) (B:List Frame) :
  di P S Ro own Hid (aA f v w1) g v w1∧rU (aA f v w1)∧aF f B g=aF (aA f v w1) B g:=by
 have hag:∀ i,i<v.heap.size→f i=aA f v w1 i:=fun i hi=>(bM hi).symm
 obtain ⟨hg,ho⟩:=h.ok.bound jW jW f (aA f v w1) ⟨hag,fun _ _=>rfl⟩
 have hinj:rU (aA f v w1):=fun a b e=>by
  have h1:=hr.size
  rcases Nat.lt_or_ge a v.heap.size with ha | ha<;>rcases Nat.lt_or_ge b v.heap.size with hb | hb
  ·rw [bM ha,bM hb] at e
   exact h.inj a b ha hb e
  ·rw [bM ha,fV hb] at e
   have:=h.below ha
   omega
  ·rw [fV ha,bM hb] at e
   have:=h.below hb
   omega
  ·rw [fV ha,fV hb] at e
   omega
 refine ⟨⟨h.ok,fun a b _ _=>hinj a b,fun x hx=>?_,⟨h.mF.good,fun b o hb=>?_⟩,fun b o hb=>?_⟩,hinj,yV hg h.ok.up⟩
 ·rw [bM (Nat.lt_of_lt_of_le hx h.ok.vS)]
  exact h.fix x hx
 ·have hlt:=(Array.getElem?_eq_some_iff.1 hb).1
  obtain ⟨o',h1,h2⟩:=h.mF.block b o hb
  rw [←hag b hlt]
  have old:Ro (f b)∨own (f b)→∃ o',w1.heap[f b]? = some o'∧nZ (aA f v w1) o o':=fun hk=>⟨o',by rw [hr.keep _ (h.below hlt) hk];exact h1,h2.congr (ho b o hb)⟩
  rcases h.held b o hb with hk | hk | ⟨hk,_⟩ | ⟨hk,hk1⟩
  ·exact old (.inr hk.1)
  ·cases o<;>first | (cases hk;done) | skip
   obtain ⟨c',fr',e,_⟩:=h2
   subst e
   obtain ⟨c2,fr2,h3⟩:=hr.cells _ _ _ _ h1
   refine ⟨_,h3,c2,fr2,rfl,fun hne=>?_⟩
   rw [show Array.isEmpty _=true from hk] at hne;cases hne
  ·exact old (.inl hk)
  ·have hh:=Am (by cases o<;>first | rfl | (cases hk1;done)) h2
   obtain ⟨o2,h3,h4⟩:=hr.chans.chan _ _ h1 (hh.isChan▸hk1)
   exact ⟨o2,h3,pR (.inl ⟨hk1,h4⟩)⟩
 ·rw [←hag b (Array.getElem?_eq_some_iff.1 hb).1]
  exact h.held b o hb
theorem OW {Ro own:Nat→Prop} {Hid:Nat→Prop} {X:Event→Prop} (hX:∀ e r,Hid r→e.loc = .obj r→e.write=false→e.sync=true→X e) {f:Nat→Nat} {v:World} {e0:Event} (hk:vW v e0) (hheld:∀ b o,v.heap[b]? = some o→Held Ro own Hid (f b) o):Wj Ro own (event f e0)∨X (event f e0):=by
 obtain ⟨l,wr,sy⟩:=e0
 unfold vW at hk
 cases l with
 | cell a=>
  obtain ⟨o,h2,h3,h4,h8⟩:=hk
  dsimp only at h2 h4 ⊢
  left
  unfold Wj event loc
  rcases hheld _ _ h2 with h5 | h5 | ⟨h5,h6⟩ | ⟨_,h6⟩
  ·exact .inl h5.1
  ·rw [h3] at h5;cases h5
  ·rcases h6 with h6 | ⟨x,rfl⟩
   ·refine .inr ⟨h5,?_⟩
    cases wr with
    | false=>rfl
    | true=>exact absurd h6 (h4 rfl)
   ·cases h8
  ·cases o<;>first | (cases h6;done) | (cases h8;done)
 | obj r=>
  obtain ⟨o,h2,h3,h4,h8,h8'⟩:=hk
  dsimp only at h2 h8 h8' ⊢
  rcases hheld _ _ h2 with h5 | h5 | ⟨h5,h6⟩ | ⟨h5,h6⟩
  ·exact .inl (.inl h5.1)
  ·rw [h3] at h5;cases h5
  ·rcases h6 with ⟨c,e,hi,rfl,_⟩ | ⟨x,rfl⟩
   ·exact absurd rfl (h4 _ _ _)
   ·exact .inl (.inr ⟨h5,h8 rfl⟩)
  ·exact .inr (hX _ (f r) h5 rfl (h8 (by cases o<;>first | rfl | (cases h6;done))) (h8' h6))
 | mark mk=>
  have e:mk = .noRoom:=hk
  subst e
  exact .inl rfl
 | output=>exact hk.elim
 | goroutines=>exact hk.elim
theorem BV (hz:aN P) (hS:kU P S) {g g1:Goroutine} {v v1:World} {es:Array Event} (ok:Ok P S g v) (hns:Fit P g) (h:stepG P true g v = .go g1 v1 es) (hsm:iF g1) (hne:g1.callers≠[]) :
  v.heap.size≤v1.heap.size∧∀ (b:Nat) (o o1:Obj),v.heap[b]? = some o→v1.heap[b]? = some o1→aU o1=true→aU o=true:=by
 have h0:=pM (f:=id) (B:=[bottom]) (m:=true) (m':=true) qE OU hz hS (jq ok.nv) ok.uy ok.ne (Jy _) hns.1 (ok.leads hns _)
 rw [h] at h0
 obtain ⟨hle,h1⟩:=h0 hsm
 have hsz:=hle.size
 obtain ⟨w2,_,hov,_⟩:=h1 hne ⟨fun i h2 h3=>(by show i=v.heap.size+(i - v.heap.size);omega),fun i h2=>(by show v.heap.size+(v1.heap.size - v.heap.size)≤i;omega),fun i h2 h3=>(by rw [show v.drawn+(i - v.drawn)=i by omega])⟩
 exact ⟨hsz,fun b o o1 hb hb1 hc=>hov.grows.chan hb hb1 hc⟩
theorem H6 (hz:aN P) (hS:kU P S) {C:Nat→Prop} {D:Goroutine→World→Prop} (hD:∀ g v,D g v→∀ b,C b→∀ o,v.heap[b]? = some o→aU o=true) {g:Goroutine} {v:World} (ht:Tree P S D g v) :
  ∀ b,C b→∀ o,v.heap[b]? = some o→aU o=true:=by
 induction ht with
 | done ok h=>exact hD _ _ h
 | @step g v ok hns G V E he hsm htr ih=>
  intro b hb o ho
  let t:Nat→Question→Nat:=fun _ _=>0
  obtain ⟨hsz,h1⟩:=BV hz hS (ok.wt t) hns (he t) (hsm t) (htr t).ok.ne
  have hlt:b<(V t).heap.size:=by have:=(Array.getElem?_eq_some_iff.1 ho).1;have:v.heap.size≤(V t).heap.size:=hsz;omega
  exact h1 b o _ ho (Array.getElem?_eq_getElem hlt) (ih t b hb _ (Array.getElem?_eq_getElem hlt))
theorem D7 (hz:aN P) (hS:kU P S) {m:Bool} {Ro Hid:Nat→Prop} {Live:World→Prop} {X:Event→Prop} (hX:∀ e r,Hid r→e.loc = .obj r→e.write=false→e.sync=true→X e)
  {Stop:Goroutine→World→(Nat→Prop)→Prop} {B:List Frame} {g:Goroutine} {v:World} (ok:Ok P S g v) (hns:Fit P g)
  {G:(Nat→Question→Nat)→Goroutine} {V:(Nat→Question→Nat)→World} {E:(Nat→Question→Nat)→Array Event}
  (he:∀ t,stepG P true g (wt v t) = .go (G t) (V t) (E t)) (hsm:∀ t,iF (G t)) (hok':∀ t,Ok P S (G t) (V t))
  {f:Nat→Nat} {w:World} {own:Nat→Prop} (hp:di P S Ro own Hid f g v w)
  (hC:∀ t (b:Nat) (o o1:Obj),v.heap[b]? = some o→aU o=true→(V t).heap[b]? = some o1→aU o1=true)
  (hRo:∀ b,Ro b→b<w.heap.size∧¬ own b)
  (hnext:∀ t f' w' own',di P S Ro own' Hid f' (G t) (V t) w'→aI Ro (fun _=>False) w w'→(∀ b,Ro b→b<w'.heap.size∧¬ own' b)→(∀ i,i<v.heap.size→f' i=f i)→v.heap.size≤(V t).heap.size →
   (∀ (b:Nat) (o:Obj),(V t).heap[b]? = some o→aU o=true→∃ o0,v.heap[b]? = some o0∧aU o0=true)→Way P m Ro Live false X Stop (aF f' B (G t)) w' own') :
  Way P m Ro Live false X Stop (aF f B g) w own:=by
 let T:World→Nat→Question→Nat:=fun w1 i=>w1.tape (w1.drawn+(i - v.drawn))
 have key:∀ w1,aI Ro own w w1→Live w1→∃ w2,stepG P m (aF f B g) w1 = .go (aF (aA f v w1) B (G (T w1))) w2 ((E (T w1)).map (event (aA f v w1)))∧v.heap.size≤(V (T w1)).heap.size ∧
   PD false X Ro own (more own w1 w2) w1 w2 ((E (T w1)).map (event (aA f v w1))) ∧
   di P S Ro (more own w1 w2) Hid (aA f v w1) (G (T w1)) (V (T w1)) w2∧(∀ b o,(V (T w1)).heap[b]? = some o→aU o=true→∃ o0,v.heap[b]? = some o0∧aU o0=true):=fun w1 hr hl=>by
  obtain ⟨hp1,hinj,heq⟩:=hp.rely hr B
  have hok1:=hok' (T w1)
  have hs1:kY (aA f v w1) (kd P S) (wt v (T w1)) w1:=⟨hp1.mF.good,hp1.mF.block⟩
  have h0:=pM (f:=aA f v w1) (B:=B) (m:=true) (m':=m) hinj hp1.fix hz hS hs1 ok.uy ok.ne (Jy _) hns.1 (ok.leads hns _)
  rw [he (T w1)] at h0
  obtain ⟨hle,h1⟩:=h0 (hsm (T w1))
  have hsz:=hle.size
  have hfr:jk (aA f v w1) (wt v (T w1)) (V (T w1)) w1:=by
   refine ⟨fun i h2 h3=>fV h2,fun i h2=>?_,fun i h2 h3=>rfl⟩
   rw [fV (show v.heap.size≤i from Nat.le_trans hsz h2)]
   show w1.heap.size+((V (T w1)).heap.size - v.heap.size)≤_
   omega
  obtain ⟨w2,e1,hov,hev,hg1⟩:=h1 hok1.ne hfr
  have hws:=hov.size
  have hCV:∀ b o o1,v.heap[b]? = some o→aU o=true→(V (T w1)).heap[b]? = some o1→aU o1=true:=fun b o o1 hb hc hb1=>hC (T w1) b o o1 hb hc hb1
  have hheld:∀ b o,(V (T w1)).heap[b]? = some o→Held Ro (more own w1 w2) Hid (aA f v w1 b) o:=fun b o hb=>by
   have hblt:=(Array.getElem?_eq_some_iff.1 hb).1
   rcases Nat.lt_or_ge b v.heap.size with hlt | hge
   ·have hv:v.heap[b]? = some v.heap[b]:=Array.getElem?_eq_getElem hlt
    have same:aU v.heap[b]=true→o=v.heap[b]:=fun hc0=>by
     have:=(hov.chan b _ o hv hb (hCV b _ o hv hc0 hb)).1
     have h9:(wt v (T w1)).heap[b]? = some v.heap[b]:=hv
     rw [hb,h9] at this
     exact Option.some.inj this
    rcases hp1.held b _ hv with h2 | h2 | ⟨h2,h3⟩ | ⟨h2,h3⟩
    ·refine .inl ⟨.inl h2.1,?_⟩
     obtain ⟨o2,h4,h5⟩:=hov.grows.UE b _ hv h2.2
     rw [hb] at h4
     rw [Option.some.inj h4];exact h5
    ·right;left
     have:=hov.grows.gone b _ hv h2
     rw [hb] at this
     rw [Option.some.inj this];exact h2
    ·right;right;left
     rcases h3 with h3 | ⟨x,h3⟩
     ·have:=hov.grows.shut b _ hv h3
      rw [hb] at this
      exact ⟨h2,.inl (by rw [Option.some.inj this];exact h3)⟩
     ·exact ⟨h2,.inr ⟨x,by rw [same (by rw [h3];rfl)];exact h3⟩⟩
    ·right;right;right
     exact ⟨h2,by rw [same (by revert h3;cases v.heap[b]<;>intro h3<;>first | rfl | (cases h3;done))];exact h3⟩
   ·refine .inl ⟨.inr ?_,by
     have:=hov.fresh b o hge hb
     cases o<;>first | rfl | (cases this;done)⟩
    rw [fV hge]
    have:w2.heap.size=w1.heap.size+((V (T w1)).heap.size - v.heap.size):=hws
    omega
  refine ⟨w2,by rw [heq];exact e1,hsz,⟨fun h=>(by cases h),by rw [hws];omega,fun b hb hno=>?_,hov.right.same,fun b hb=>hb,fun e he'=>?_,hov.cells,⟨fun b' o' hb' hc'=>?_,by rw [hov.right.same],by rw [hov.right.same]⟩⟩,⟨hok1,fun a b _ _=>hinj a b,hp1.fix,hov.mF,hheld⟩,fun b o hb hc=>?_⟩
  ·by_cases hx:∃ c o,v.heap[c]? = some o∧aA f v w1 c=b∧aU o=true
   ·obtain ⟨c,o,hc,rfl,hch⟩:=hx
    have hlt:c<(V (T w1)).heap.size:=by have:=(Array.getElem?_eq_some_iff.1 hc).1;have:v.heap.size≤(V (T w1)).heap.size:=hsz;omega
    have hb1:=Array.getElem?_eq_getElem hlt
    exact (hov.chan c o _ hc hb1 (hCV c o _ hc hch hb1)).2
   ·refine hov.keeps b hb fun c o hc e=>?_
    rcases hp1.held c o hc with h2 | h2 | ⟨_,h2⟩ | ⟨_,h2⟩
    ·rw [e] at h2;exact absurd h2.1 hno
    ·exact .inl h2
    ·rcases h2 with h2 | ⟨x,rfl⟩
     ·exact .inr h2
     ·exact absurd ⟨c,_,hc,e,rfl⟩ hx
    ·exact absurd ⟨c,o,hc,e,by cases o<;>first | rfl | (cases h2;done)⟩ hx
  ·obtain ⟨e0,he0,rfl⟩:=Array.mem_map.1 he'
   exact OW hX (hev e0 he0) hheld
  ·by_cases hx:∃ c o,v.heap[c]? = some o∧aA f v w1 c=b'∧aU o=true
   ·obtain ⟨c,o,hc,rfl,hch⟩:=hx
    have hlt:c<(V (T w1)).heap.size:=by have:=(Array.getElem?_eq_some_iff.1 hc).1;have:v.heap.size≤(V (T w1)).heap.size:=hsz;omega
    exact ⟨o',by rw [(hov.chan c o _ hc (Array.getElem?_eq_getElem hlt) (hCV c o _ hc hch (Array.getElem?_eq_getElem hlt))).2];exact hb',hc'⟩
   ·refine ⟨o',?_,hc'⟩
    rw [hov.keeps b' (Array.getElem?_eq_some_iff.1 hb').1 fun c o hc e=>?_]
    ·exact hb'
    ·obtain ⟨o1,h1,h2⟩:=hp1.mF.block c o hc
     rw [e,hb'] at h1
     obtain rfl:=Option.some.inj h1
     exact absurd ⟨c,o,hc,e,wB h2 hc'⟩ hx
  ·rcases Nat.lt_or_ge b v.heap.size with hlt | hge
   ·have hv:v.heap[b]? = some v.heap[b]:=Array.getElem?_eq_getElem hlt
    exact ⟨_,hv,hov.grows.chan hv hb hc⟩
   ·have:=hov.fresh b o hge hb
    rw [this] at hc;cases hc
 classical
 refine .step ok.run (fun w1=>aF (aA f v w1) B (G (T w1))) (fun w1=>if h:aI Ro own w w1∧Live w1 then Classical.choose (key w1 h.1 h.2) else w1) (fun w1=>(E (T w1)).map (event (aA f v w1))) (fun w1 hr hl=>?_) (fun w1 hr hl=>?_)
 ·have hk:=Classical.choose_spec (key w1 hr hl)
  simp only [dif_pos (And.intro hr hl)]
  exact ⟨hk.1,hk.2.2.1⟩
 ·have hk:=Classical.choose_spec (key w1 hr hl)
  simp only [dif_pos (And.intro hr hl)]
  have hg:=hk.2.2.1
  have hmore:∀ b,Ro b→b<(Classical.choose (key w1 hr hl)).heap.size∧¬ more own w1 (Classical.choose (key w1 hr hl)) b:=fun b hb=>by
   obtain ⟨h1,h2⟩:=hRo b hb
   have h3:=hr.size
   have h4:=hg.size
   exact ⟨by omega,fun h=>h.elim h2 fun h=>by omega⟩
  refine hnext (T w1) _ _ _ hk.2.2.2.1 ⟨Nat.le_trans hr.size hg.size,fun b hb ho=>?_,hr.cells.trans hg.cells,hr.chans.trans hg.chans⟩ hmore (fun i hi=>bM hi) hk.2.1 hk.2.2.2.2
  rcases ho with ho | ho
  ·obtain ⟨h1,h2⟩:=hRo b ho
   exact (hg.keep b (Nat.lt_of_lt_of_le hb hr.size) h2).trans (hr.keep b hb (.inl ho))
  ·exact ho.elim
end Ren
end Go
end
end
section
section
namespace Go
namespace Ren
open Go.Conc
variable [gm] {P:Program} {S:FuncId→Prop}
theorem KH {α β:Type} {Q:α→β→Prop} {K:Kd} {s:Sem α} {s':Sem β} (h:ak P id K Q s s') {v v1:World} {a:α} (hn:NV K v) (hr:s.run P v = .ok a v1) {t:Nat→Question→Nat} (ht:∀ i,v.drawn≤i→i<v1.drawn→t i=v.tape i) :
  ∃ b,s'.run P (wt v t) = .ok b (wt v1 t)∧Q a b∧NV K v1∧Le v v1:=by
 have hs:kY (id:Nat→Nat) K v (wt v t):=⟨(jq hn).good,(jq hn).block⟩
 have e:=Sem.runT_fst P s v #[]
 rw [hr] at e
 generalize hq:s.runT P v #[]=q at e
 obtain ⟨q,es⟩:=q
 cases e
 have hle:=h.size hn hq
 have hsz:=hle.size
 obtain ⟨b,w1,e1,hQ,hov,_⟩:=h.runT qE hs (fun e he=>by simp at he) hq ⟨fun i h1 h2=>(show i=(wt v t).heap.size+(i - v.heap.size) from by show i=v.heap.size+_;omega),fun i h1=>(by show v.heap.size+(v1.heap.size - v.heap.size)≤i;omega),fun i h1 h2=>by
  show t (v.drawn+(i - v.drawn))=_
  rw [show v.drawn+(i - v.drawn)=i by omega]
  exact ht i h1 h2⟩
 have hd:=hov.drawn
 have hdl:=hle.drawn
 have hh:=hov.exact rfl ⟨fun _=>rfl,fun _=>rfl⟩ rfl
 have hr':=hov.right.same
 have hv:=hle.same
 have:w1=wt v1 t:=by
  rw [hr',hv]
  unfold wt at hd ⊢
  dsimp only at hd ⊢
  rw [←hh,show w1.drawn=v1.drawn by omega]
 refine ⟨b,?_,hQ,hov.mF.nv,hle⟩
 rw [←Sem.runT_fst P s' _ #[],← this]
 rw [Array.map_empty] at e1
 rw [e1]
def Leaves (P:Program) (fn:FuncId) (Post:Value→World→Prop) (g:Goroutine) (v:World):Prop:=
 ∃ fr x,g=G fr [bottom]∧fr.fn=fn∧fr.leaving P v (.returned x)∧Post x v
theorem GV (hN:∀ fr,uu fr) (hnm:∀ x,¬ gm.nm x) (hz:aN P) (hS:kU P S) {fn:FuncId} {args:Array Value} {v:World} {Post:Value→World→Prop} (hP:∀ x v t,Post x v→Post x (wt v t))
  (hok:Ok P S (G (Frame.enter P fn args .normal) [bottom]) v)
  (h:∀ t,Calls P fn args (wt v t) fun e w'=>∃ x,e = .returned x∧Post x w'):Tree P S (Leaves P fn Post) (G (Frame.enter P fn args .normal) [bottom]) v:=by
 refine WM hN hnm hz hS (fun g v t hok hd=>?_) hok (fun t=>?_)
 ·obtain ⟨fr,x,rfl,hf,⟨hm,hde,hk,q,hq,hr⟩,hp⟩:=hd
  refine ⟨fr,x,rfl,hf,⟨hm,hde,hk,q,hq,?_⟩,hP _ _ _ hp⟩
  have hr0:=sJ (P:=P) (f:=id) (K:=kd P S) q fr.tmps
  obtain ⟨b,e1,e2,_⟩:=KH hr0 hok.nv hr (t:=t) (fun i h1 h2=>by omega)
  rw [qR] at e1
  have e3:b=x:=by have:=e2;unfold aj at this;rw [this,nV]
  rw [e1,e3]
 ·obtain ⟨e,w',fr,⟨x,rfl,hp⟩,hc,hf,hl⟩:=h t [bottom]
  have hc':Steps P (lone (Frame.enter P fn args .normal) [bottom] (wt v t)) (lone fr [bottom] w'):=hc
  refine ⟨G fr [bottom],w',⟨?_,by simp [G]⟩,⟨fr,x,rfl,hf,hl,hp⟩,hc'⟩
  rintro ⟨ch,hm⟩
  have:=hl.1
  rw [show fr.mode = .panicking ch from hm] at this
  cases this
end Ren
end Go
end
end
section
section
namespace Go
namespace Ren
open Go.Conc
variable {P:Program} {S:FuncId→Prop}
theorem I7 {fr:Frame} (h:ai P S fr):(∀ i∈fr.todo,dL P S i)∧(∀ d∈fr.defers,qK d)∧dB fr.mode∧(fr.kind = .normal∨fr.kind = .deferred):=⟨h.items,h.defers,h.mode,h.kind⟩
theorem QQ {g:Goroutine} {v:World} (h:Ok P S g v):NV (kd P S) v∧ai P S g.frame∧P.globals.size≤v.heap.size∧yE S g v:=⟨h.nv,h.uy.frame,h.vS,Jt (fun _ h=>h) S▸h.bound⟩
theorem NK (hS:kU P S) {fn:FuncId} {args:Array Value} {v:World} (hfn:S fn) (hn:NV (kd P S) v) (hg:P.globals.size≤v.heap.size) (hb:yE S (G (Frame.enter P fn args .normal) [bottom]) v):Ok P S (G (Frame.enter P fn args .normal) [bottom]) v:=
 ⟨hn,⟨uX hS hfn args (.inl rfl),fun c hc=>by rw [List.mem_singleton.1 hc];exact xu,rfl⟩,rfl,⟨[],rfl⟩,hg,(Jt (fun _ h=>h) S).symm▸hb,hb.clean⟩
theorem lS.loose [gm] {c:Code} (h:@lS Ot P S c):lS P S c:=by
 induction c with
 | region _ ops d=>exact fun o ho=>(h o ho).imp id fun h=>h.elim
 | seq a b iha ihb=>exact ⟨iha h.1,ihb h.2⟩
 | cond c a b iha ihb=>exact ⟨h.1,iha h.2.1,ihb h.2.2⟩
 | block _ a ih=>exact ih h
 | loop a ih=>exact ih h
 | scope a ih=>exact ih h
 | rangeFunc g ps a b iha ihb=>exact h
 | _=>exact trivial
theorem ai.loose [gm] {fr:Frame} (h:@ai Ot P S fr):ai P S fr:=by
 obtain ⟨hi0,hd,hm,hk⟩:=I7 h
 refine ⟨fun i hi=>?_,hd,hm,hk⟩
 have h0:=hi0 i hi
 cases i with
 | code c=>exact lS.loose h0
 | inLoop c=>exact lS.loose h0
 | inScope c=>exact lS.loose h0
 | inRegion ops l=>exact fun o ho=>(h0 o ho).imp id fun h=>h.elim
 | _=>exact h0
theorem Alike.mono {n m:Nat} {F F':Fr} {f f':Nat→Nat} (h:Alike S m F F' f f') (hnm:n≤m):Alike S n F F' f f':=⟨fun i hi=>h.blk i (by omega),h.qL⟩
theorem Ok.step [gm] (hz:aN P) (hS:kU P S) {g g1:Goroutine} {v v1:World} {es:Array Event} (ok:Ok P S g v) (hns:Fit P g) (hcl:Clean S v→Clean S v1) (h:stepG P true g v = .go g1 v1 es) (hsm:iF g1) (hup:Up g1) (hrun:g1.status = .running):Ok P S g1 v1:=by
 obtain ⟨_,hle,hnv,hgk⟩:=mi (m:=true) (m':=true) hz hS ok.nv ok.uy ok.up hns.1 (ok.leads hns _) h hsm hup v.tape (fun _ _ _=>rfl)
 exact ⟨hnv,hgk,hrun,hup,Nat.le_trans ok.vS hle.size,Df hz hS ok.nv ok.uy ok.up hns.1 (ok.leads hns _) ok.vS h hsm hup (fun _ h=>.inl h) ok.bound,hcl ok.clean⟩
def GK (S:FuncId→Prop) (args:Array Value):Prop:=∀ (H H':Fr) (h:Nat→Nat),(∀ g,S g→H.qL g=H'.qL g)→@vals H h args = @vals H' h args
theorem vY (H:Fr) (h:Nat→Nat) (a b:Array Value):@vals H h (a++b) = @vals H h a ++ @vals H h b:=by simp [vals]
theorem Px [gm] {fn:FuncId} {args:Array Value} {cs:List Frame} {v:World} (ok:Ok P S (G (Frame.enter P fn args .normal) cs) v) (H H':Fr) (h h':Nat→Nat) (ha:Alike (Nm S) v.heap.size H H' h h'):@vals H h args = @vals H' h' args:=by
 obtain ⟨h1,_⟩:=ok.bound H H' h h' ha
 have h2:=congrArg (fun g=>g.frame.tmps) h1
 have e:(Frame.enter P fn args .normal).tmps=args++Array.replicate (((P.funcs[fn]?).map (·.ntmps)).getD 0 - args.size) undef:=rfl
 have h3:@vals H h (Frame.enter P fn args .normal).tmps = @vals H' h' (Frame.enter P fn args .normal).tmps:=h2
 rw [e,vY,vY] at h3
 exact (Array.append_inj h3 (by simp [vals])).1
theorem Ok.sub [gm] (hS:kU P S) {fn:FuncId} {args:Array Value} {cs:List Frame} {v:World} (hfn:S fn) (ha:GK S args) (ok:Ok P S (G (Frame.enter P fn args .normal) cs) v):@Ok Ot P S (G (Frame.enter P fn args .normal) [bottom]) v:=by
 refine NK hS hfn ok.nv ok.vS fun H H' h h' hal=>⟨?_,ok.Uz H H' h h' hal⟩
 unfold yB
 simp only [Goroutine.mk.injEq,and_true,Conc.G,List.map_cons,List.map_nil]
 refine ⟨?_,by rw [@iW _ H,@iW _ H']⟩
 have e1:=@dS H _ P h fn args .normal
 have e2:=@dS H' _ P h' fn args .normal
 rw [e1,e2,ha H H' h hal.qL,Px ok H' H' h h' ⟨hal.blk,fun _ _=>rfl⟩]
theorem Ok.back [gm] {fr fr0:Frame} {cs:List Frame} {v v':World} (h:@Ok Ot P S (G fr [bottom]) v') (ok:Ok P S (G fr0 cs) v) (hsz:v.heap.size≤v'.heap.size):Ok P S (G fr cs) v':=by
 obtain ⟨hn,hf,hgl,hb⟩:=QQ h
 refine ⟨hn,⟨ai.loose hf,ok.uy.callers,rfl⟩,rfl,?_,hgl,fun H H' e e' ha=>?_,hb.clean⟩
 ·obtain ⟨l,hl⟩:=ok.up
  exact ⟨l,hl⟩
 ·obtain ⟨h1,h2⟩:=hb H H' e e' ha.named
  obtain ⟨h3,_⟩:=ok.bound H H' e e' (ha.mono hsz)
  refine ⟨?_,h2⟩
  unfold yB at h1 h3 ⊢
  simp only [Goroutine.mk.injEq,and_true,Conc.G] at h1 h3 ⊢
  exact ⟨h1.1,h3.2⟩
theorem Fit.leaving [gm] {fr:Frame} {cs:List Frame} {v:World} {x:Value} (hl:fr.leaving P v (.returned x)):Fit P (G fr cs):=
 ⟨fun hm=>(by rw [show (G fr cs).frame.mode=fr.mode from rfl,hl.1] at hm;cases hm),fun v' y h=>(by
  have h':fr.about P v'=some y:=h
  unfold Frame.about at h'
  simp [hl.1,hl.2.1] at h')⟩
theorem Tree.sharp [gm] (hz:aN P) (hS:kU P S) {D:Goroutine→World→Prop} {g:Goroutine} {v:World} (h:Tree P S D g v):Tree P S (fun g' v'=>D g' v'∧Ok P S g' v'∧v.heap.size≤v'.heap.size) g v:=by
 have key:∀ n,n≤v.heap.size→Tree P S (fun g' v'=>D g' v'∧Ok P S g' v'∧n≤v'.heap.size) g v:=by
  induction h with
  | done ok h=>exact fun n hn=>.done ok ⟨h,ok,hn⟩
  | @step g v ok hns Gs Vs Es he hsm htr ih=>
   intro n hn
   refine .step ok hns Gs Vs Es he hsm fun t=>ih t n ?_
   obtain ⟨hsz,_⟩:=BV hz hS (ok.wt t) hns (he t) (hsm t) (htr t).ok.ne
   exact Nat.le_trans hn hsz
 exact key _ (Nat.le_refl _)
theorem CU {fr c:Frame} {cs:List Frame} {v:World} {x:Value} (hn:NV (kd P S) v) (hl:fr.leaving P v (.returned x)) :
  ∃ E:(Nat→Question→Nat)→Array Event,∀ t,stepG P true (G fr (c::cs)) (wt v t) = .go (G (c.finish x) cs) (wt v t) (E t):=by
 obtain ⟨hm,hde,hk,q,hq,hr⟩:=hl
 have key:∀ t,∃ es,stepG P true (G fr (c::cs)) (wt v t) = .go (G (c.finish x) cs) (wt v t) es:=fun t=>by
  have hr0:=sJ (P:=P) (f:=id) (K:=kd P S) q fr.tmps
  obtain ⟨b,e1,e2,_⟩:=KH hr0 hn hr (t:=t) (fun i h1 h2=>by omega)
  rw [qR] at e1
  have e3:b=x:=by have:=e2;unfold aj at this;rw [this,nV]
  subst e3
  have e0:=Sem.runT_fst P (results q fr.tmps) (wt v t) #[]
  rw [e1] at e0
  generalize hrun:(results q fr.tmps).runT P (wt v t) #[]=z at e0
  obtain ⟨z,es⟩:=z
  cases e0
  refine ⟨seen P fr.fn es,?_⟩
  unfold Conc.G stepG
  simp only [hm]
  unfold unwind
  simp only [hde,hm,hq,hrun,doReturn,hk,GStep.after]
  simp
 exact ⟨fun t=>Classical.choose (key t),fun t=>Classical.choose_spec (key t)⟩
def ni [gm] (S:FuncId→Prop) (n:Nat) (args:Array Value):Prop:=∀ (H H':Fr) (h h':Nat→Nat),Alike (Nm S) n H H' h h'→@vals H h args = @vals H' h' args
theorem Ok.enter [gm] {fr:Frame} {cs:List Frame} {fn:FuncId} {args:Array Value} {v:World} (ok:Ok P S (G fr cs) v) (hgood:ai P S (Frame.enter P fn #[] .normal)) (ha:ni S v.heap.size args):Ok P S (G (Frame.enter P fn args .normal) (fr::cs)) v:=by
 refine ⟨ok.nv,⟨⟨fun i hi=>hgood.items i (by simpa [Conc.G,Frame.enter] using hi),fun d hd=>(by simp [Conc.G,Frame.enter] at hd),trivial,.inl rfl⟩,fun c hc=>?_,rfl⟩,rfl,?_,ok.vS,fun H H' h h' hal=>?_,ok.clean⟩
 ·rcases List.mem_cons.1 hc with rfl | hc
  ·exact ok.uy.frame
  ·exact ok.uy.callers c hc
 ·obtain ⟨l,hl⟩:=ok.up
  exact ⟨fr::l,by show fr::cs=_;rw [show cs=l++[bottom] from hl];rfl⟩
 ·obtain ⟨h1,h2⟩:=ok.bound H H' h h' hal
  refine ⟨?_,h2⟩
  unfold yB at h1 ⊢
  simp only [Goroutine.mk.injEq,and_true,Conc.G,List.map_cons] at h1 ⊢
  have e1:=@dS H _ P h fn args .normal
  have e2:=@dS H' _ P h' fn args .normal
  exact ⟨by rw [e1,e2,ha H H' h h' hal],by rw [h1.1,h1.2]⟩
theorem Fj [gm] {fr:Frame} {cs:List Frame} {v:World} (ok:Ok P S (G fr cs) v) {x:Operand} (hx:bG P (Nm S) x) (H H':Fr) (h h':Nat→Nat) (ha:Alike (Nm S) v.heap.size H H' h h'):@val H h (fr.eval x) = @val H' h' (fr.eval x):=by
 cases x with
 | tmp t=>
  obtain ⟨h1,_⟩:=ok.bound H H' h h' ha
  have h2:=congrArg (fun g=>g.frame.tmps) h1
  have h3:@vals H h fr.tmps = @vals H' h' fr.tmps:=h2
  show @val H h (fr.tmps.getD t undef) = @val H' h' (fr.tmps.getD t undef)
  rw [←@kR H _ h fr.tmps t,← @kR H' _ h' fr.tmps t,h3]
 | const c=>exact (@aH H c hx h).trans (@aH H' c hx h').symm
 | global g=>
  have hg:g<P.globals.size:=hx
  show @val H h (.pointer (some ⟨g,0,none⟩)) = @val H' h' (.pointer (some ⟨g,0,none⟩))
  rw [lX,lX]
  simp [addr,ha.blk g (Nat.lt_of_lt_of_le hg ok.vS)]
 | func g=>
  show @val H h (.func (.func g) #[] #[]) = @val H' h' (.func (.func g) #[] #[])
  rw [nU,nU]
  have e:@fn H h (.func g) = @fn H' h' (.func g):=congrArg Fn.func (ha.qL g hx)
  rw [e];simp
theorem qX [gm] {fr:Frame} {cs:List Frame} {v:World} (ok:Ok P S (G fr cs) v) {xs:Array Operand} (hx:∀ x∈xs,bG P (Nm S) x):ni S v.heap.size (xs.map fr.eval):=fun H H' h h' ha=>by
 unfold vals
 rw [Array.map_map,Array.map_map]
 exact Array.map_congr_left fun x hx'=>Fj ok (hx x hx') H H' h h' ha
theorem Ok.put [gm] {fr:Frame} {cs:List Frame} {x:Value} {v:World} (ok:Ok P S (G fr cs) v) (hx:ni S v.heap.size #[x]):Ok P S (G (fr.finish x) cs) v:=by
 refine ⟨ok.nv,⟨ok.uy.frame.finish x,ok.uy.callers,rfl⟩,rfl,ok.up,ok.vS,fun H H' h h' hal=>?_,ok.clean⟩
 obtain ⟨h1,h2⟩:=ok.bound H H' h h' hal
 refine ⟨?_,h2⟩
 unfold yB at h1 ⊢
 simp only [Goroutine.mk.injEq,and_true,Conc.G] at h1 ⊢
 refine ⟨?_,h1.2⟩
 have e1:=@bg H P h S _ fr x ok.uy.frame.items
 have e2:=@bg H' P h' S _ fr x ok.uy.frame.items
 have e3:@val H h x = @val H' h' x:=by
  have:=hx H H' h h' hal
  unfold vals at this
  simpa using this
 rw [←e1,← e2,h1.1,e3]
inductive iG [gm] (P:Program) (S:FuncId→Prop) (D:Goroutine→World→Prop):Goroutine→World→Prop
 | done {g:Goroutine} {v:World} (h:D g v):iG P S D g v
 | step {g:Goroutine} {v:World} (hns:Fit P g)
   (Gs:(Nat→Question→Nat)→Goroutine) (Vs:(Nat→Question→Nat)→World) (Es:(Nat→Question→Nat)→Array Event)
   (he:∀ t,stepG P true g (wt v t) = .go (Gs t) (Vs t) (Es t)) (hsm:∀ t,iF (Gs t)) (hcl:∀ t,Clean S v→Clean S (Vs t)) (hup:∀ t,Up (Gs t)) (hrun:∀ t,(Gs t).status = .running) (h:∀ t,iG P S D (Gs t) (Vs t)):iG P S D g v
 | call {fn:FuncId} {args:Array Value} {c:Frame} {cs:List Frame} {v:World} {Post:Value→World→Prop} (hfn:S fn) (hargs:GK S args) (hcs:cs≠[]) (hP:∀ x v t,Post x v→Post x (wt v t))
   (hc:∀ t,Calls P fn args (wt v t) fun e w'=>∃ x,e = .returned x∧Post x w')
   (next:∀ x v',Post x v'→v.heap.size≤v'.heap.size→iG P S D (G (c.finish x) cs) v'):iG P S D (G (Frame.enter P fn args .normal) (c::cs)) v
 | enter {fr:Frame} {cs:List Frame} {fn:FuncId} {xs:Array Operand} {v:World} (hgood:ai P S (Frame.enter P fn #[] .normal)) (hxs:∀ x∈xs,bG P (Nm S) x)
   (hst:∀ (f:Nat→Nat) (m:Bool) (cs':List Frame) (w:World),Fix P f→stepG P m (G (frame f fr) cs') w = .go (G (Frame.enter P fn (vals f (xs.map fr.eval)) .normal) (frame f fr::cs')) w #[])
   (next:iG P S D (G (Frame.enter P fn (xs.map fr.eval) .normal) (fr::cs)) v):iG P S D (G fr cs) v
 | put {fr:Frame} {cs:List Frame} {x:Value} {v:World} (hx:Ok P S (G fr cs) v→ni S v.heap.size #[x])
   (hst:Ok P S (G fr cs) v→∀ (f:Nat→Nat) (m:Bool) (cs':List Frame) (w:World),Fix P f→stepG P m (G (frame f fr) cs') w = .go (G (frame f (fr.finish x)) cs') w #[])
   (next:iG P S D (G (fr.finish x) cs) v):iG P S D (G fr cs) v
section
variable [gm]
theorem xU (hz:aN P) (hS:kU P S) {fr c:Frame} {cs:List Frame} {v:World} {x:Value} (ok:Ok P S (G fr (c::cs)) v) (hcs:cs≠[]) (hl:fr.leaving P v (.returned x)) (hc:dB c.mode):Ok P S (G (c.finish x) cs) v:=by
 obtain ⟨E,he⟩:=CU (c:=c) (cs:=cs) ok.nv hl
 have hup:Up (G (c.finish x) cs):=by
  obtain ⟨l,hl⟩:=ok.up
  cases l with
  | nil=>simp only [Conc.G,List.nil_append,List.cons.injEq] at hl;exact absurd hl.2 hcs
  | cons a l=>simp only [Conc.G,List.cons_append,List.cons.injEq] at hl;exact ⟨l,hl.2⟩
 have hm:(c.finish x).mode=c.mode:=by
  unfold Frame.finish
  split<;>rfl
 exact ok.step hz hS (.leaving hl) (fun h=>h) (he v.tape) ⟨rfl,.inl rfl,by show dB (c.finish x).mode;rw [hm];exact hc⟩ hup rfl
end
end Ren
end Go
end
end
section
section
namespace Go
namespace Ren
open Go.Conc
variable {P:Program} {S:FuncId→Prop}
theorem Ee (hz:aN P) (hS:kU P S) {fn:FuncId} {args:Array Value} {v:World} {Post:Value→World→Prop} (hP:∀ x v t,Post x v→Post x (wt v t))
  (hok:Ok P S (G (Frame.enter P fn args .normal) [bottom]) v) (h:∀ t,Calls P fn args (wt v t) fun e w'=>∃ x,e = .returned x∧Post x w') :
  Tree P S (fun g' v'=>Leaves P fn Post g' v'∧Ok P S g' v'∧v.heap.size≤v'.heap.size) (G (Frame.enter P fn args .normal) [bottom]) v:=
 (GV UB (fun _ h=>h) hz hS hP hok h).sharp hz hS
theorem TK (hz:aN P) (hS:kU P S) {C:Nat→Prop} {D:Goroutine→World→Prop} (hD:∀ g v,D g v→∀ b,C b→∀ o,v.heap[b]? = some o→aU o=true) {g:Goroutine} {v:World} (ht:Tree P S D g v) :
  ∀ b,C b→∀ o,v.heap[b]? = some o→aU o=true:=H6 hz hS hD ht
theorem PK (hz:aN P) (hS:kU P S) {m:Bool} {Ro Hid:Nat→Prop} {Live:World→Prop} {X:Event→Prop} (hX:∀ e r,Hid r→e.loc = .obj r→e.write=false→e.sync=true→X e)
  {Stop:Goroutine→World→(Nat→Prop)→Prop} {D:Goroutine→World→Prop} {B:List Frame} {C:Nat→Prop} (hD:∀ g v,D g v→∀ b,C b→∀ o,v.heap[b]? = some o→aU o=true)
  {n0:Nat} {f0:Nat→Nat} {w0:World} {g:Goroutine} {v:World} (ht:Tree P S D g v) {f:Nat→Nat} {w:World} {own:Nat→Prop} (ok:Ok P S g v) (hw:aI Ro (fun _=>False) w0 w) (hRo:∀ b,Ro b→b<w.heap.size∧¬ own b)
  (hinj:∀ a b,a<v.heap.size→b<v.heap.size→f a=f b→a=b) (hfix:∀ g,g<P.globals.size→f g=g) (hsim:kY f (kd P S) v w) (hheld:∀ b o,v.heap[b]? = some o→Held Ro own Hid (f b) o)
  (ha:∀ i,i<n0→f i=f0 i) (hn:n0≤v.heap.size) (hC:∀ (b:Nat) (o:Obj),v.heap[b]? = some o→aU o=true→C b)
  (hstop:∀ g v f w own,D g v→Ok P S g v→aI Ro (fun _=>False) w0 w→(∀ b,Ro b→b<w.heap.size∧¬ own b)→(∀ a b,a<v.heap.size→b<v.heap.size→f a=f b→a=b)→(∀ g,g<P.globals.size→f g=g)→kY f (kd P S) v w→(∀ b o,v.heap[b]? = some o→Held Ro own Hid (f b) o) →
   (∀ i,i<n0→f i=f0 i)→n0≤v.heap.size→(∀ (b:Nat) (o:Obj),v.heap[b]? = some o→aU o=true→C b)→Way P m Ro Live false X Stop (aF f B g) w own) :
  Way P m Ro Live false X Stop (aF f B g) w own:=by
 have key:∀ {g:Goroutine} {v:World},Tree P S D g v→∀ {f:Nat→Nat} {w:World} {own:Nat→Prop},di P S Ro own Hid f g v w→aI Ro (fun _=>False) w0 w→(∀ b,Ro b→b<w.heap.size∧¬ own b)→(∀ i,i<n0→f i=f0 i)→n0≤v.heap.size→(∀ (b:Nat) (o:Obj),v.heap[b]? = some o→aU o=true→C b)→Way P m Ro Live false X Stop (aF f B g) w own:=by
  intro g v ht
  induction ht with
  | done ok h=>intro f w own hp hw hRo ha hn hC;exact hstop _ _ _ _ _ h hp.ok hw hRo hp.inj hp.fix hp.mF hp.held ha hn hC
  | @step g v ok hns G V E he hsm htr ih=>
   intro f w own hp hw hRo hag hn0 hC
   refine D7 hz hS hX ok hns he hsm (fun t=>(htr t).ok) hp (fun t b o o1 hb hc hb1=>H6 hz hS hD (htr t) b (hC b o hb hc) o1 hb1) hRo fun t f' w' own' hp' hw' hRo' ha' hsz hc'=>?_
   exact ih t hp' (hw.trans hw') hRo' (fun i hi=>(ha' i (Nat.lt_of_lt_of_le hi hn0)).trans (hag i hi)) (Nat.le_trans hn0 hsz) fun b o hb hc=>by
    obtain ⟨o0,h1,h2⟩:=hc' b o hb hc
    exact hC b o0 h1 h2
 exact key ht ⟨ok,hinj,hfix,hsim,hheld⟩ hw hRo ha hn hC
section
variable [gm]
theorem Fz (hz:aN P) (hS:kU P S) {C:Nat→Prop} {D:Goroutine→World→Prop} (hD:∀ g v,D g v→∀ b,C b→∀ o,v.heap[b]? = some o→aU o=true) {g:Goroutine} {v:World} (ht:iG P S D g v) :
  Ok P S g v→∀ b,C b→∀ o,v.heap[b]? = some o→aU o=true:=by
 induction ht with
 | done h=>exact fun _=>hD _ _ h
 | @step g v hns Gs Vs Es he hsm hcl hup hrun htr ih=>
  intro ok b hb o ho
  let t:Nat→Question→Nat:=fun _ _=>0
  have ok1:=(ok.wt t).step hz hS hns (hcl t) (he t) (hsm t) (hup t) (hrun t)
  obtain ⟨hsz,h1⟩:=BV hz hS (ok.wt t) hns (he t) (hsm t) ok1.ne
  have hlt:b<(Vs t).heap.size:=by have:=(Array.getElem?_eq_some_iff.1 ho).1;have:v.heap.size≤(Vs t).heap.size:=hsz;omega
  exact h1 b o _ ho (Array.getElem?_eq_getElem hlt) (ih t ok1 b hb _ (Array.getElem?_eq_getElem hlt))
 | @call fn args c cs v Post hfn hargs hcs hP hc next ih=>
  intro ok b hb o ho
  have ht:=Ee hz hS hP (Ok.sub hS hfn hargs ok) hc
  refine TK hz hS (fun g' v' hd b hb o ho=>?_) ht b hb o ho
  obtain ⟨⟨fr,x,rfl,hf,hl,hp⟩,hok',hsz⟩:=hd
  have ok2:Ok P S (G fr (c::cs)) v':=Ok.back hok' ok hsz
  exact ih x v' hp hsz (xU hz hS ok2 hcs hl (ok.uy.callers c (List.mem_cons_self ..)).mode) b hb o ho
 | @enter fr cs fn xs v hgood hxs hst next ih=>
  intro ok
  exact ih (ok.enter hgood (qX ok hxs))
 | @put fr cs x v hx hst next ih=>
  intro ok
  exact ih (ok.put (hx ok))
theorem zo (hz:aN P) (hS:kU P S) {m:Bool} {Ro Hid:Nat→Prop} {Live:World→Prop} {X:Event→Prop} (hX:∀ e r,Hid r→e.loc = .obj r→e.write=false→e.sync=true→X e)
  {Stop:Goroutine→World→(Nat→Prop)→Prop} {D:Goroutine→World→Prop} {B:List Frame} {C:Nat→Prop} (hD:∀ g v,D g v→∀ b,C b→∀ o,v.heap[b]? = some o→aU o=true)
  {n0:Nat} {f0:Nat→Nat} {w0:World} (hstop:∀ g v f w own,D g v→di P S Ro own Hid f g v w→aI Ro (fun _=>False) w0 w→(∀ b,Ro b→b<w.heap.size∧¬ own b)→(∀ i,i<n0→f i=f0 i)→n0≤v.heap.size→Way P m Ro Live false X Stop (aF f B g) w own) {g:Goroutine} {v:World} (ht:iG P S D g v) :
  ∀ {f:Nat→Nat} {w:World} {own:Nat→Prop},di P S Ro own Hid f g v w→aI Ro (fun _=>False) w0 w→(∀ b,Ro b→b<w.heap.size∧¬ own b)→(∀ i,i<n0→f i=f0 i)→n0≤v.heap.size→(∀ (b:Nat) (o:Obj),v.heap[b]? = some o→aU o=true→C b)→Way P m Ro Live false X Stop (aF f B g) w own:=by
 induction ht with
 | done h=>intro f w own hp hw hRo ha hn _;exact hstop _ _ _ _ _ h hp hw hRo ha hn
 | @step g v hns Gs Vs Es he hsm hcl hup hrun htr ih=>
  intro f w own hp hw hRo hag hn0 hC
  have hok':=fun t=>(hp.ok.wt t).step hz hS hns (hcl t) (he t) (hsm t) (hup t) (hrun t)
  refine D7 hz hS hX hp.ok hns he hsm hok' hp (fun t b o o1 hb hc hb1=>Fz hz hS hD (htr t) (hok' t) b (hC b o hb hc) o1 hb1) hRo fun t f' w' own' hp' hw' hRo' ha' hsz hc'=>?_
  exact ih t hp' (hw.trans hw') hRo' (fun i hi=>(ha' i (Nat.lt_of_lt_of_le hi hn0)).trans (hag i hi)) (Nat.le_trans hn0 hsz) fun b o hb hc=>by
   obtain ⟨o0,h1,h2⟩:=hc' b o hb hc
   exact hC b o0 h1 h2
 | @call fn args c cs v Post hfn hargs hcs hP hc next ih=>
  intro f w own hp hw hRo hag hn0 hC
  have hpok:=hp.ok
  have ht:=Ee hz hS hP (Ok.sub hS hfn hargs hpok) hc
  have under:∀ (f':Nat→Nat) (fr:Frame),stk f' B (c::cs)=stk f B (c::cs)→aF f' (stk f B (c::cs)) (G fr [bottom])=aF f' B (G fr (c::cs)):=fun f' fr h3=>by
   have h4:stk f' (stk f B (c::cs)) [bottom]=stk f' B (c::cs):=by
    have:=wu f' (stk f B (c::cs)) bottom []
    rw [List.nil_append] at this
    rw [this,h3];rfl
   unfold aF yB
   dsimp only [Conc.G]
   rw [h4]
  have e0:=under f (Frame.enter P fn args .normal) rfl
  rw [←e0]
  refine PK (n0:=v.heap.size) (f0:=f) hz hS hX (C:=C) (fun g' v' hd b hb o ho=>?_) ht (Ok.sub hS hfn hargs hpok) hw hRo hp.inj hp.fix hp.mF hp.held (fun _ _=>rfl) (Nat.le_refl _) hC ?_
  ·obtain ⟨⟨fr,x,rfl,hf,hl,hpo⟩,hok',hsz⟩:=hd
   have ok2:Ok P S (G fr (c::cs)) v':=Ok.back hok' hpok hsz
   exact Fz hz hS hD (next x v' hpo hsz) (xU hz hS ok2 hcs hl (hpok.uy.callers c (List.mem_cons_self ..)).mode) b hb o ho
  ·rintro g' v' f' w' own' ⟨⟨fr,x,rfl,hf,hl,hpo⟩,hok',hsz⟩ _ hw' hRo' hinj' hfix' hsim' hheld' ha' hn' hC'
   have ok2:Ok P S (G fr (c::cs)) v':=Ok.back hok' hpok hsz
   have ok3:=xU hz hS ok2 hcs hl (hpok.uy.callers c (List.mem_cons_self ..)).mode
   obtain ⟨E,he⟩:=CU (c:=c) (cs:=cs) ok2.nv hl
   have e1:aF f' (stk f B (c::cs)) (G fr [bottom])=aF f' B (G fr (c::cs)):=by
    have h1:=(hpok.bound jW jW f f' ⟨fun i hi=>(ha' i hi).symm,fun _ _=>rfl⟩).1
    have h2:=yV (B:=B) h1 hpok.up
    have h3:stk f B (c::cs)=stk f' B (c::cs):=congrArg Goroutine.callers h2
    exact under f' fr h3.symm
   rw [e1]
   have hp2:di P S Ro own' Hid f' (G fr (c::cs)) v' w':=⟨ok2,hinj',hfix',hsim',hheld'⟩
   have hm:(c.finish x).mode=c.mode:=by unfold Frame.finish;split<;>rfl
   refine D7 hz hS hX ok2 (.leaving hl) he (fun t=>⟨rfl,.inl rfl,by show dB (c.finish x).mode;rw [hm];exact (hpok.uy.callers c (List.mem_cons_self ..)).mode⟩) (fun t=>ok3.wt t) hp2 (fun t b o o1 hb hc hb1=>?_) hRo' fun t f'' w'' own'' hp'' hw'' hRo'' ha'' hsz'' hc''=>?_
   ·have:(wt v' t).heap[b]? = some o:=hb
    rw [this] at hb1
    rw [←Option.some.inj hb1];exact hc
   ·have hp3:di P S Ro own'' Hid f'' (G (c.finish x) cs) v' w'':=⟨ok3,hp''.inj,hp''.fix,⟨hp''.mF.good,hp''.mF.block⟩,hp''.held⟩
    refine ih x v' hpo hsz hp3 (hw'.trans hw'') hRo'' (fun i hi=>?_) (Nat.le_trans hn0 hsz) fun b o hb hc=>?_
    ·rw [ha'' i (Nat.lt_of_lt_of_le hi (Nat.le_trans hn0 hsz)),ha' i (Nat.lt_of_lt_of_le hi hn0)];exact hag i hi
    ·exact hC' b o hb hc
 | @enter fr cs fn xs v hgood hxs hst next ih=>
  intro f w own hp hw hRo hag hn0 hC
  have hcs:cs≠[]:=hp.ok.ne
  have e2:∀ f',aF f' B (G (Frame.enter P fn (xs.map fr.eval) .normal) (fr::cs))=G (Frame.enter P fn (vals f' (xs.map fr.eval)) .normal) (frame f' fr::stk f' B cs):=fun f'=>by
   unfold aF yB
   dsimp only [Conc.G]
   rw [dS,wz hcs]
  refine .step hp.ok.run (fun w1=>aF (aA f v w1) B (G (Frame.enter P fn (xs.map fr.eval) .normal) (fr::cs))) id (fun _=>#[]) (fun w1 hr _=>?_) (fun w1 hr _=>?_)
  ·obtain ⟨hp1,_,heq⟩:=hp.rely hr B
   refine ⟨?_,⟨fun _=>⟨rfl,rfl⟩,Nat.le_refl _,fun _ _ _=>rfl,rfl,fun b hb=>hb,fun e he=>(by simp at he),.refl _,.refl _⟩⟩
   rw [heq,e2]
   exact hst _ m _ w1 hp1.fix
  ·obtain ⟨hp1,_,_⟩:=hp.rely hr B
   have hmore:∀ b,more own w1 w1 b→own b:=fun b hb=>hb.elim id fun h=>by omega
   have hsz:=hr.size
   refine ih ⟨hp.ok.enter hgood (qX hp.ok hxs),hp1.inj,hp1.fix,hp1.mF,fun b o hb=>(hp1.held b o hb).imp (And.imp_left .inl) id⟩ (hw.trans ⟨hr.size,fun b hb ho=>?_,hr.cells,hr.chans⟩) (fun b hb=>?_) (fun i hi=>(bM (Nat.lt_of_lt_of_le hi hn0)).trans (hag i hi)) hn0 hC
   ·rcases ho with ho | ho
    ·exact hr.keep b hb (.inl ho)
    ·exact ho.elim
   ·obtain ⟨h1,h2⟩:=hRo b hb
    exact ⟨by show b<w1.heap.size;omega,fun h=>h2 (hmore b h)⟩
 | @put fr cs x v hx hst next ih=>
  intro f w own hp hw hRo hag hn0 hC
  have e2:∀ f' (fr:Frame),aF f' B (G fr cs)=G (frame f' fr) (stk f' B cs):=fun f' fr=>rfl
  refine .step hp.ok.run (fun w1=>aF (aA f v w1) B (G (fr.finish x) cs)) id (fun _=>#[]) (fun w1 hr _=>?_) (fun w1 hr _=>?_)
  ·obtain ⟨hp1,_,heq⟩:=hp.rely hr B
   refine ⟨?_,⟨fun _=>⟨rfl,rfl⟩,Nat.le_refl _,fun _ _ _=>rfl,rfl,fun b hb=>hb,fun e he=>(by simp at he),.refl _,.refl _⟩⟩
   rw [heq,e2,e2]
   exact hst hp.ok _ m _ w1 hp1.fix
  ·obtain ⟨hp1,_,_⟩:=hp.rely hr B
   have hmore:∀ b,more own w1 w1 b→own b:=fun b hb=>hb.elim id fun h=>by omega
   have hsz:=hr.size
   refine ih ⟨hp.ok.put (hx hp.ok),hp1.inj,hp1.fix,hp1.mF,fun b o hb=>(hp1.held b o hb).imp (And.imp_left .inl) id⟩ (hw.trans ⟨hr.size,fun b hb ho=>?_,hr.cells,hr.chans⟩) (fun b hb=>?_) (fun i hi=>(bM (Nat.lt_of_lt_of_le hi hn0)).trans (hag i hi)) hn0 hC
   ·rcases ho with ho | ho
    ·exact hr.keep b hb (.inl ho)
    ·exact ho.elim
   ·obtain ⟨h1,h2⟩:=hRo b hb
    exact ⟨by show b<w1.heap.size;omega,fun h=>h2 (hmore b h)⟩
end
end Ren
end Go
end
end
section
section
namespace Go
namespace Ren
open Go.Conc
variable [gm] {P:Program} {S:FuncId→Prop}
theorem Ce (hz:aN P) (hS:kU P S) {m:Bool} {Ro Hid:Nat→Prop} {Live:World→Prop} {X:Event→Prop} (hX:∀ e r,Hid r→e.loc = .obj r→e.write=false→e.sync=true→X e)
  {Stop:Goroutine→World→(Nat→Prop)→Prop} {B:List Frame} {g:Goroutine} {v:World} (ok:Ok P S g v) (hns:Fit P g)
  {G:(Nat→Question→Nat)→Goroutine} {V:(Nat→Question→Nat)→World} {E:(Nat→Question→Nat)→Array Event}
  (he:∀ t,stepG P true g (wt v t) = .go (G t) (V t) (E t)) (hsm:∀ t,iF (G t)) (hok':∀ t,Ok P S (G t) (V t))
  {f:Nat→Nat} {w:World} {own:Nat→Prop} (hp:di P S Ro own Hid f g v w)
  (hC:∀ t (b:Nat) (o o1:Obj),v.heap[b]? = some o→aU o=true→(V t).heap[b]? = some o1→aU o1=true)
  (hRo:∀ b,Ro b→b<w.heap.size∧¬ own b)
  {dr:Goroutine→Goroutine} (hds:∀ g,(dr g).status=g.status) (hdr:∀ (t:Nat→Question→Nat) (f':Nat→Nat) (w1 w2:World) (es:Array Event),rU f'→(∀ g,g<P.globals.size→f' g=g)→kY f' (kd P S) (wt v t) w1→jk f' (wt v t) (V t) w1→stepG P m (aF f' B g) w1 = .go (aF f' B (G t)) w2 es→stepG P m (dr (aF f' B g)) w1 = .go (dr (aF f' B (G t))) w2 es)
  (hnext:∀ t f' w' own',di P S Ro own' Hid f' (G t) (V t) w'→aI Ro (fun _=>False) w w'→(∀ b,Ro b→b<w'.heap.size∧¬ own' b)→(∀ i,i<v.heap.size→f' i=f i)→v.heap.size≤(V t).heap.size →
   (∀ (b:Nat) (o:Obj),(V t).heap[b]? = some o→aU o=true→∃ o0,v.heap[b]? = some o0∧aU o0=true)→Way P m Ro Live false X Stop (dr (aF f' B (G t))) w' own') :
  Way P m Ro Live false X Stop (dr (aF f B g)) w own:=by
 let T:World→Nat→Question→Nat:=fun w1 i=>w1.tape (w1.drawn+(i - v.drawn))
 have key:∀ w1,aI Ro own w w1→Live w1→∃ w2,stepG P m (aF f B g) w1 = .go (aF (aA f v w1) B (G (T w1))) w2 ((E (T w1)).map (event (aA f v w1)))∧v.heap.size≤(V (T w1)).heap.size ∧
   PD false X Ro own (more own w1 w2) w1 w2 ((E (T w1)).map (event (aA f v w1))) ∧
   di P S Ro (more own w1 w2) Hid (aA f v w1) (G (T w1)) (V (T w1)) w2∧(∀ b o,(V (T w1)).heap[b]? = some o→aU o=true→∃ o0,v.heap[b]? = some o0∧aU o0=true):=fun w1 hr hl=>by
  obtain ⟨hp1,hinj,heq⟩:=hp.rely hr B
  have hok1:=hok' (T w1)
  have hs1:kY (aA f v w1) (kd P S) (wt v (T w1)) w1:=⟨hp1.mF.good,hp1.mF.block⟩
  have h0:=pM (f:=aA f v w1) (B:=B) (m:=true) (m':=m) hinj hp1.fix hz hS hs1 ok.uy ok.ne (Jy _) hns.1 (ok.leads hns _)
  rw [he (T w1)] at h0
  obtain ⟨hle,h1⟩:=h0 (hsm (T w1))
  have hsz:=hle.size
  have hfr:jk (aA f v w1) (wt v (T w1)) (V (T w1)) w1:=by
   refine ⟨fun i h2 h3=>fV h2,fun i h2=>?_,fun i h2 h3=>rfl⟩
   rw [fV (show v.heap.size≤i from Nat.le_trans hsz h2)]
   show w1.heap.size+((V (T w1)).heap.size - v.heap.size)≤_
   omega
  obtain ⟨w2,e1,hov,hev,hg1⟩:=h1 hok1.ne hfr
  have hws:=hov.size
  have hCV:∀ b o o1,v.heap[b]? = some o→aU o=true→(V (T w1)).heap[b]? = some o1→aU o1=true:=fun b o o1 hb hc hb1=>hC (T w1) b o o1 hb hc hb1
  have hheld:∀ b o,(V (T w1)).heap[b]? = some o→Held Ro (more own w1 w2) Hid (aA f v w1 b) o:=fun b o hb=>by
   have hblt:=(Array.getElem?_eq_some_iff.1 hb).1
   rcases Nat.lt_or_ge b v.heap.size with hlt | hge
   ·have hv:v.heap[b]? = some v.heap[b]:=Array.getElem?_eq_getElem hlt
    have same:aU v.heap[b]=true→o=v.heap[b]:=fun hc0=>by
     have:=(hov.chan b _ o hv hb (hCV b _ o hv hc0 hb)).1
     have h9:(wt v (T w1)).heap[b]? = some v.heap[b]:=hv
     rw [hb,h9] at this
     exact Option.some.inj this
    rcases hp1.held b _ hv with h2 | h2 | ⟨h2,h3⟩ | ⟨h2,h3⟩
    ·refine .inl ⟨.inl h2.1,?_⟩
     obtain ⟨o2,h4,h5⟩:=hov.grows.UE b _ hv h2.2
     rw [hb] at h4
     rw [Option.some.inj h4];exact h5
    ·right;left
     have:=hov.grows.gone b _ hv h2
     rw [hb] at this
     rw [Option.some.inj this];exact h2
    ·right;right;left
     rcases h3 with h3 | ⟨x,h3⟩
     ·have:=hov.grows.shut b _ hv h3
      rw [hb] at this
      exact ⟨h2,.inl (by rw [Option.some.inj this];exact h3)⟩
     ·exact ⟨h2,.inr ⟨x,by rw [same (by rw [h3];rfl)];exact h3⟩⟩
    ·right;right;right
     exact ⟨h2,by rw [same (by revert h3;cases v.heap[b]<;>intro h3<;>first | rfl | (cases h3;done))];exact h3⟩
   ·refine .inl ⟨.inr ?_,by
     have:=hov.fresh b o hge hb
     cases o<;>first | rfl | (cases this;done)⟩
    rw [fV hge]
    have:w2.heap.size=w1.heap.size+((V (T w1)).heap.size - v.heap.size):=hws
    omega
  refine ⟨w2,by rw [heq];exact e1,hsz,⟨fun h=>(by cases h),by rw [hws];omega,fun b hb hno=>?_,hov.right.same,fun b hb=>hb,fun e he'=>?_,hov.cells,⟨fun b' o' hb' hc'=>?_,by rw [hov.right.same],by rw [hov.right.same]⟩⟩,⟨hok1,fun a b _ _=>hinj a b,hp1.fix,hov.mF,hheld⟩,fun b o hb hc=>?_⟩
  ·by_cases hx:∃ c o,v.heap[c]? = some o∧aA f v w1 c=b∧aU o=true
   ·obtain ⟨c,o,hc,rfl,hch⟩:=hx
    have hlt:c<(V (T w1)).heap.size:=by have:=(Array.getElem?_eq_some_iff.1 hc).1;have:v.heap.size≤(V (T w1)).heap.size:=hsz;omega
    have hb1:=Array.getElem?_eq_getElem hlt
    exact (hov.chan c o _ hc hb1 (hCV c o _ hc hch hb1)).2
   ·refine hov.keeps b hb fun c o hc e=>?_
    rcases hp1.held c o hc with h2 | h2 | ⟨_,h2⟩ | ⟨_,h2⟩
    ·rw [e] at h2;exact absurd h2.1 hno
    ·exact .inl h2
    ·rcases h2 with h2 | ⟨x,rfl⟩
     ·exact .inr h2
     ·exact absurd ⟨c,_,hc,e,rfl⟩ hx
    ·exact absurd ⟨c,o,hc,e,by cases o<;>first | rfl | (cases h2;done)⟩ hx
  ·obtain ⟨e0,he0,rfl⟩:=Array.mem_map.1 he'
   exact OW hX (hev e0 he0) hheld
  ·by_cases hx:∃ c o,v.heap[c]? = some o∧aA f v w1 c=b'∧aU o=true
   ·obtain ⟨c,o,hc,rfl,hch⟩:=hx
    have hlt:c<(V (T w1)).heap.size:=by have:=(Array.getElem?_eq_some_iff.1 hc).1;have:v.heap.size≤(V (T w1)).heap.size:=hsz;omega
    exact ⟨o',by rw [(hov.chan c o _ hc (Array.getElem?_eq_getElem hlt) (hCV c o _ hc hch (Array.getElem?_eq_getElem hlt))).2];exact hb',hc'⟩
   ·refine ⟨o',?_,hc'⟩
    rw [hov.keeps b' (Array.getElem?_eq_some_iff.1 hb').1 fun c o hc e=>?_]
    ·exact hb'
    ·obtain ⟨o1,h1,h2⟩:=hp1.mF.block c o hc
     rw [e,hb'] at h1
     obtain rfl:=Option.some.inj h1
     exact absurd ⟨c,o,hc,e,wB h2 hc'⟩ hx
  ·rcases Nat.lt_or_ge b v.heap.size with hlt | hge
   ·have hv:v.heap[b]? = some v.heap[b]:=Array.getElem?_eq_getElem hlt
    exact ⟨_,hv,hov.grows.chan hv hb hc⟩
   ·have:=hov.fresh b o hge hb
    rw [this] at hc;cases hc
 classical
 refine .step (by rw [hds];exact ok.run) (fun w1=>dr (aF (aA f v w1) B (G (T w1)))) (fun w1=>if h:aI Ro own w w1∧Live w1 then Classical.choose (key w1 h.1 h.2) else w1) (fun w1=>(E (T w1)).map (event (aA f v w1))) (fun w1 hr hl=>?_) (fun w1 hr hl=>?_)
 ·have hk:=Classical.choose_spec (key w1 hr hl)
  simp only [dif_pos (And.intro hr hl)]
  obtain ⟨hp1,hinj1,heq⟩:=hp.rely hr B
  refine ⟨?_,hk.2.2.1⟩
  have h1:=hk.1
  have hszv:v.heap.size≤(V (T w1)).heap.size:=hk.2.1
  have hfr1:jk (aA f v w1) (wt v (T w1)) (V (T w1)) w1:=by
   refine ⟨fun i h2 h3=>fV h2,fun i h2=>?_,fun i h2 h3=>rfl⟩
   rw [fV (show v.heap.size≤i from Nat.le_trans hszv h2)]
   show w1.heap.size+((V (T w1)).heap.size - v.heap.size)≤_
   omega
  generalize Classical.choose (key w1 hr hl)=w2 at h1 ⊢
  rw [heq] at h1 ⊢
  exact hdr (T w1) (aA f v w1) w1 _ _ hinj1 hp1.fix ⟨hp1.mF.good,hp1.mF.block⟩ hfr1 h1
 ·have hk:=Classical.choose_spec (key w1 hr hl)
  simp only [dif_pos (And.intro hr hl)]
  have hg:=hk.2.2.1
  have hmore:∀ b,Ro b→b<(Classical.choose (key w1 hr hl)).heap.size∧¬ more own w1 (Classical.choose (key w1 hr hl)) b:=fun b hb=>by
   obtain ⟨h1,h2⟩:=hRo b hb
   have h3:=hr.size
   have h4:=hg.size
   exact ⟨by omega,fun h=>h.elim h2 fun h=>by omega⟩
  refine hnext (T w1) _ _ _ hk.2.2.2.1 ⟨Nat.le_trans hr.size hg.size,fun b hb ho=>?_,hr.cells.trans hg.cells,hr.chans.trans hg.chans⟩ hmore (fun i hi=>bM hi) hk.2.1 hk.2.2.2.2
  rcases ho with ho | ho
  ·obtain ⟨h1,h2⟩:=hRo b ho
   exact (hg.keep b (Nat.lt_of_lt_of_le hb hr.size) h2).trans (hr.keep b hb (.inl ho))
  ·exact ho.elim
end Ren
end Go
end
end
