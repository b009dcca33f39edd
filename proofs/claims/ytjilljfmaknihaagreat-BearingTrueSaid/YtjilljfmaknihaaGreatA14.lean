import Derived.Conc.Own4
import Derived.Conc.Own2
import Derived.Test.YtjilljfmaknihaaGreatA10
set_option linter.all false
namespace Go
def JV:=@Go.Frame.finish_at
def PQ:=@Go.Item.inRegion.inj
end Go
namespace Go.Ren
open Go.Conc
section
variable[M:Mps][E:Ext]
section
variable[jE]{P:aH}{S:aI->Prop}
theorem aeq{fr ops i rest k o fn b c xs q}
  (hm:fr.mode=.run) (l:fr.roundOf=none) (hk:fr.kind≠.early) (ht:fr.todo=.inRegion ops (i::rest)::k) (ho:ops[i]?=some o) (hw:Region.wanted o (yielded ops fr.tmps)=true)
  (d:o.op=.call {callee:=.value (.func fn),args:=xs,argTypes:=q}) (hf:P.funcs[fn]?=some b) (a:(b.name == "runtime.NumGoroutine")=false) (hb:b.body=some c) (hxs:∀x∈xs,ed P (Nm S) x)
  (f) (m) (cs') (w) (hx:Fix P f) :
  stepG P m (G (frame f fr) cs') w=.go (G (Frame.enter P fn (vals f (xs.map fr.eval)) .normal) (frame f fr::cs')) w #[]:=by
 have g:b.body.isNone=false:=by rw[hb];rfl
 have e:frame f fr=(frame f fr).at {tmps:=vals f fr.tmps,defers:=fr.defers.map (deferred f)} (.inRegion ops (i::rest)::k.map (item f)):=by have⟨r,tmps,todo,defers,md,kind,ro⟩:=fr;subst hm ht l;rfl
 have j:Region.wanted o (yielded ops (vals f fr.tmps))=true:=by rw[gz];exact hw
 have p:xs.map (frame f fr).eval=vals f (xs.map fr.eval):=by unfold vals;rw[oM];exact jL fun x h=>iU hx (fun _ _=>rfl) fr (hxs x h)
 have n:(frame f fr).kind≠.early:=hk;rw[e,stepG_enter ho j n (run_call_body d hf a g)];have hl:listed P (frame f fr).fn {tmps:=vals f fr.tmps,defers:=fr.defers.map (deferred f)} o w=#[]:=by unfold listed;rw[events_call_body d hf a g];exact seen_none P _
 rw[hl,<-e];exact bU (fun z=>GStep.go (G (Frame.enter P fn z .normal) (frame f fr::cs')) w #[]) p
theorem agB{fr ops i rest k o fn xs c}(hm:fr.mode=.run)(r:fr.roundOf=none)(hk:fr.kind≠.early)(ht:fr.todo=.inRegion ops (i::rest)::k)(hok:BI P S fr)(ho:ops[i]?=some o)(hw:Region.wanted o (yielded ops fr.tmps)=true)(g:o.op=.makeFunc (.func fn) xs c)(hxs:∀x∈xs,ed P (Nm S) x)(n:∀x∈c,ed P (Nm S) x)(f)(m)(cs')(w)(hx:Fix P f):stepG P m (G (frame f fr) cs') w=.go (G (frame f (fr.finish (.func (.func fn) (xs.map fr.eval) (c.map fr.eval)))) cs') w #[]:=by
 have e:frame f fr=(frame f fr).at {tmps:=vals f fr.tmps,defers:=fr.defers.map (deferred f)} (.inRegion ops (i::rest)::k.map (item f)):=by have⟨u,tmps,todo,defers,md,kind,ro⟩:=fr;subst hm ht r;rfl
 have q:Region.wanted o (yielded ops (vals f fr.tmps))=true:=by rw[gz];exact hw
 have j:∀{l:Array fH},(∀x∈l,ed P (Nm S) x)->l.map (frame f fr).eval=vals f _:=fun{l} t=>by unfold vals;rw[oM];exact jL fun x p=>iU hx (fun _ _=>rfl) fr (t x p)
 have s:=hk;have d:Value.func (.func fn) (xs.map (frame f fr).eval) (c.map (frame f fr).eval)=val f (.func (.func fn) (xs.map fr.eval) (c.map fr.eval)):=by rw[j hxs,j n,dL];rfl
 have hr:(execOp (frame f fr).eval o).run P w=.ok (.value (.func (.func fn) (xs.map (frame f fr).eval) (c.map (frame f fr).eval))) w:=by unfold execOp;rw[g];rfl
 have h:((execOp (frame f fr).eval o).events P w #[])=#[]:=by unfold execOp;rw[g];rfl
 have hl:listed P (frame f fr).fn {tmps:=vals f fr.tmps,defers:=fr.defers.map (deferred f)} o w=#[]:=by unfold listed;rw[show Act.eval {tmps:=vals f fr.tmps,defers:=fr.defers.map (deferred f)}=(frame f fr).eval from funext fun x=>by cases x<;>rfl,h];exact seen_none P _
 have hst:=stepG_value (main:=m) (cs:=cs') (b:=frame f fr) (k:=k.map (item f)) (a:={tmps:=vals f fr.tmps,defers:=fr.defers.map (deferred f)}) (w:=w) (rest:=rest) ho q s
  (show(execOp (Act.eval {tmps:=vals f fr.tmps,defers:=fr.defers.map (deferred f)}) o).run P w=_ from by rw[show Act.eval {tmps:=vals f fr.tmps,defers:=fr.defers.map (deferred f)}=(frame f fr).eval from funext fun x=>by cases x<;>rfl];exact hr)
 rw[hl,<-e] at hst;rw[hst,<-dQ fr _ hok,<-d];congr 2
 conv=>rhs;rw[e]
 rw[JV,ho];rfl
theorem Yd{fr cs v}(ok:Ok P S (G fr cs) v){fn}(hfn:Nm S fn){xs b:Array fH}(hxs:∀x∈xs,ed P (Nm S) x)(a:∀x∈b,ed P (Nm S) x):rV S v.heap.size #[.func (.func fn) (xs.map fr.eval) (b.map fr.eval)]:=fun H c h h' ha=>by have h1:=yf ok hxs H c h h' ha;have h2:=yf ok a H c h h' ha;have e:=bU Fn.func (ha.xP fn hfn);unfold vals at h1 h2⊢;simp only[tX,fU,iw];rw[uf,uf,h1,h2];exact bU (fun z=>#[Value.func z _ _]) e
theorem Dz{fr ops i rest k}(hm:fr.mode=.run)(a:fr.roundOf=none)(ht:fr.todo=.inRegion ops (i::rest)::k)(f):frame f fr=(frame f fr).at {tmps:=vals f fr.tmps,defers:=fr.defers.map (deferred f)} (.inRegion ops (i::rest)::k.map (item f)):=by have⟨b,tmps,todo,defers,md,kind,ro⟩:=fr;subst hm ht a;rfl
theorem tJ(f)(fr):Act.eval {tmps:=vals f fr.tmps,defers:=fr.defers.map (deferred f)}=(frame f fr).eval:=funext fun x=>by cases x<;>rfl
theorem aki{fr ops i rest k o t g pre caps q}(hm:fr.mode=.run)(n:fr.roundOf=none)(hk:fr.kind≠.early)(ht:fr.todo=.inRegion ops (i::rest)::k)(hok:BI P S fr)(ho:ops[i]?=some o)(hw:Region.wanted o (yielded ops fr.tmps)=true)(h:o.op=.go {callee:=.value (.tmp t),args:=#[],argTypes:=q})(r:fr.tmps.getD t undef=.func g pre caps)(f)(m)(cs')(w):stepG P m (G (frame f fr) cs') w=.spawn (G (frame f (fr.finish undef)) cs') (born P (deferred f {target:=.fn g caps,args:=pre})) w #[]:=by
 have e:=Dz hm n ht f;have l:Region.wanted o (yielded ops (vals f fr.tmps))=true:=by rw[gz];exact hw
 have p:=hk;have d:(frame f fr).eval (.tmp t)=.func (fn f g) (vals f pre) (vals f caps):=by show(vals f fr.tmps).getD t undef=_;rw[pU,r,dL]
 have hd:deferred f {target:=.fn g caps,args:=pre}={target:=.fn _ _,args:=vals f pre}:=rfl;have hr:(execOp (frame f fr).eval o).run P w=.ok (.spawn (deferred f {target:=.fn g caps,args:=pre})) w:=by unfold execOp;rw[h];dsimp only;unfold resolve;simp only[d,Deferred.ofValue,hd];simp[Sem.run]
 have j:((execOp (frame f fr).eval o).events P w #[])=#[]:=by unfold execOp;rw[h];dsimp only;unfold resolve;simp only[d,Deferred.ofValue];simp
 have hl:listed P (frame f fr).fn {tmps:=vals f fr.tmps,defers:=fr.defers.map (deferred f)} o w=#[]:=by unfold listed;rw[tJ,j];exact seen_none P _
 have hst:=stepG_spawn (main:=m) (cs:=cs') (b:=frame f fr) (k:=k.map (item f)) (a:={tmps:=vals f fr.tmps,defers:=fr.defers.map (deferred f)}) (w:=w) (rest:=rest) (f:=fn f g) (c:=vals f caps) ho l p
  (show(execOp (Act.eval {tmps:=vals f fr.tmps,defers:=fr.defers.map (deferred f)}) o).run P w=_ from by rw[tJ];exact hr) rfl
 rw[hl,<-e] at hst;have hu:(frame f fr).finish undef=frame f (fr.finish undef):=by
  have:=dQ (f:=f) fr undef hok
  rwa[fP] at this
 rw[hst,<-hu];congr 2
 conv=>rhs;rw[e]
 rw[JV,ho];rfl
end
end
section
variable[M:Mps]
section
variable{P:aH}{S:aI->Prop}
def fF(S:aI->Prop)(x:ae):Prop:=∀(H H':Fr) (h:Nat->Nat),(∀g,S g->H.xP g=H'.xP g)->@val M H aj h x=@val M H' aj h x
def Zm(S:aI->Prop)(o:Obj):Prop:=∀(H H':Fr) (h:Nat->Nat),(∀g,S g->H.xP g=H'.xP g)->@obj M H aj h o=@obj M H' aj h o
theorem jS{x}(h:dI x=true):fF S x:=fun H a e _=>(@cu M H aj x h e).trans (@cu M a aj x h e).symm
theorem Dw(a):fF S (.pointer a):=fun H H' e _=>by rw[jX,jX]
theorem Bj(a)(l c):fF S (.slice a l c):=fun H H' e _=>by rw[uP,uP]
theorem O6(a):fF S (.map a):=fun H H' e _=>by rw[MC,MC]
theorem KU(a):fF S (.chan a):=fun H H' e _=>by rw[Ap,Ap]
theorem O7(k)(n):fF S (.int k n):=jS rfl
theorem WV(b):fF S (.bool b):=jS rfl
theorem Qx(b):fF S (.string b):=jS rfl
theorem JC{xs}(h:∀x∈xs,fF S x):pJ S xs:=fun H a e ha=>by unfold vals;exact jL fun x hx=>h x hx H a e ha
theorem YS{cs}(h:∀x∈cs,fF S x):fF S (.agg cs):=fun H a e ha=>by rw[MG,MG];exact bU Value.agg (jL fun x hx=>h x hx H a e ha)
theorem Uj{cs}(h:∀x∈cs,fF S x):fF S (.tuple cs):=fun H a e ha=>by rw[uO,uO];exact bU Value.tuple (jL fun x hx=>h x hx H a e ha)
theorem WU{g a b}(hg:S g)(h1:∀x∈a,fF S x)(h2:∀x∈b,fF S x):fF S (.func (.func g) a b):=fun H c e ha=>by rw[uf,uf,jL fun x hx=>h1 x hx H c e ha,jL fun x hx=>h2 x hx H c e ha];exact bU (fun z=>Value.func z _ _) (bU Fn.func (ha g hg))
theorem Ul{c e fr}(h:∀x∈c,fF S x):Zm S (.cells c e fr):=fun H a h' ha=>by show Obj.cells (@vals M H aj h' c) e fr=Obj.cells (@vals M a aj h' c) e fr;rw[JC h H a h' ha]
theorem WT{v V}(h:Clean S v)(c:∀(b:Nat) (o),V.heap[b]?=some o->v.heap[b]?=some o\/Zm S o):Clean S V:=fun H a e ha b o hb=>(c b o hb).elim (fun h1=>h H a e ha b o h1) fun h1=>h1 H a e ha
theorem dH{v V}(h:Clean S v)(e:V.heap=v.heap):Clean S V:=WT h fun b o hb=>.inl (by rw[<-e];exact hb)
theorem YQ{v V x}(h:Clean S v)(hx:Zm S x)(e:V.heap=v.heap.push x):Clean S V:=WT h fun b o hb=>by
 rw[e,iK] at hb;split at hb
 .obtain rfl:=aN hb;exact .inr hx
 exact .inl hb
end
section
variable{P:aH}{L N:List aI}
theorem WI[jE]{fr cs i k}(hm:fr.mode=.run)(ht:fr.todo=i::k)
  (hi:match i with|.inRegion _ (_::_)=>False|.code (.rangeFunc ..)=>False|.call ..=>False|_=>True):Fit P (G fr cs):=by
 refine⟨fun _ ops j rest k' o h1 _=>?_,fun v' x h=>?_⟩
 .have a:fr.todo=.inRegion ops _::k':=h1;rw[ht] at a;obtain⟨rfl,_⟩:=jF a;exact hi.elim
 have h':fr.about P v'=some x:=h;unfold Frame.about at h';rw[hm,ht] at h';dsimp only at h';split at h'
 .rename_i he;obtain⟨rfl,_⟩:=jF he;exact hi.elim
 .rename_i he;obtain⟨rfl,_⟩:=jF he;exact hi.elim
 .rename_i he;obtain⟨rfl,_⟩:=jF he;exact hi.elim
 cases h'
theorem Ue[jE]{fr cs}(hm:fr.mode=.run)(ht:fr.todo=[]):Fit P (G fr cs):=by
 refine⟨fun _ ops j rest k' o h1 _=>?_,fun v' x h=>?_⟩
 .have a:fr.todo=.inRegion ops _::k':=h1;rw[ht] at a;cases a
 have h':fr.about P v'=some x:=h;unfold Frame.about at h';rw[hm,ht] at h';cases h'
def Jv:Op->Bool
|.call _=>true
|_=>false
theorem aed{fr cs ops i rest k o}(hm:fr.mode=.run)(ht:fr.todo=.inRegion ops (i::rest)::k)(ho:ops[i]?=some o)(hc:Jv o.op=false)(hb:jw P L o=true):@Fit (aV P L N) P (G fr cs):=by
 refine⟨N9 fun a i' rest' k' o' h1 h2=>?_,fun v' x h=>?_⟩
 .have b:fr.todo=.inRegion a _::k':=h1;rw[ht] at b;have⟨e,_⟩:=jF b;obtain⟨rfl,d⟩:=PQ e;obtain⟨rfl,_⟩:=jF d;rw[ho] at h2;obtain rfl:=aN h2;exact hb
 have h':fr.about P v'=some x:=h;unfold Frame.about at h';rw[hm,ht] at h';dsimp only at h';rw[ho] at h';dsimp only at h';cases c:o.op<;>rw[c] at h' hc<;>first|(cases h';done)|(cases hc;done)
theorem WJ{fr cs ops i rest k o fn xs d}(hm:fr.mode=.run)(ht:fr.todo=.inRegion ops (i::rest)::k)(ho:ops[i]?=some o)(c:o.op=.call {callee:=.value (.func fn),args:=xs,argTypes:=d})(e:fn∉N)(hb:jw P L o=true):@Fit (aV P L N) P (G fr cs):=by
 refine⟨N9 fun a i' rest' k' o' h1 h2=>?_,fun v' x h=>?_⟩
 .have b:fr.todo=.inRegion a _::k':=h1;rw[ht] at b;have⟨g,_⟩:=jF b;obtain⟨rfl,f⟩:=PQ g;obtain⟨rfl,_⟩:=jF f;rw[ho] at h2;obtain rfl:=aN h2;exact hb
 have h':fr.about P v'=some x:=h;unfold Frame.about at h';rw[hm,ht] at h';dsimp only at h';rw[ho] at h';dsimp only at h';rw[c] at h';dsimp only at h';have hx:x=fn:=by simp[resolve,Frame.eval,Deferred.ofValue,pure,Sem.run,Target.leads] at h';exact h'.symm
 subst hx;exact e
end
end
end Go.Ren
