/- Of the proof of BearingTurned: Ent1 Cln1 Fit1 -/
import Derived.Conc.Own4
import Derived.Conc.Own2
import Derived.Test.YtlpjchhijenlbaaGreatA11
import Derived.Test.YtlpjchhijenlbaaGreatA12
set_option linter.unusedSectionVars false
set_option linter.unusedVariables false
set_option linter.unusedSimpArgs false
section
section
namespace Go
namespace Ren
open Go.Conc
section
variable [gm] {P:Program} {S:FuncId→Prop}
theorem VD {fr:Frame} {ops:Array Oper} {i:Nat} {rest:List Nat} {k:List Item} {o:Oper} {fn:FuncId} {fnr:Func} {c:Code} {xs:Array Operand} {ats:Array TypeId}
  (hm:fr.mode = .run) (hro:fr.roundOf=none) (hk:fr.kind ≠ .early) (ht:fr.todo = .inRegion ops (i::rest)::k) (ho:ops[i]? = some o) (hw:Region.wanted o (yielded ops fr.tmps)=true)
  (hop:o.op = .call { callee:=.value (.func fn),args:=xs,argTypes:=ats }) (hf:P.funcs[fn]? = some fnr) (hname:(fnr.name == "runtime.NumGoroutine")=false) (hb:fnr.body=some c) (hxs:∀ x∈xs,bG P (Nm S) x)
  (f:Nat→Nat) (m:Bool) (cs':List Frame) (w:World) (hx:Fix P f) :
  stepG P m (G (frame f fr) cs') w = .go (G (Frame.enter P fn (vals f (xs.map fr.eval)) .normal) (frame f fr::cs')) w #[]:=by
 have hb':fnr.body.isNone=false:=by rw [hb];rfl
 have e:frame f fr=(frame f fr).at { tmps:=vals f fr.tmps,defers:=fr.defers.map (deferred f) } (.inRegion ops (i::rest)::k.map (item f)):=by
  obtain ⟨fn0,tmps,todo,defers,md,kind,ro⟩:=fr
  dsimp only at hm ht hro
  subst hm ht hro
  rfl
 have hw':Region.wanted o (yielded ops (vals f fr.tmps))=true:=by rw [dM];exact hw
 have hev:xs.map (frame f fr).eval=vals f (xs.map fr.eval):=by
  unfold vals
  rw [Array.map_map]
  exact Array.map_congr_left fun x hx'=>fG hx (fun _ _=>rfl) fr (hxs x hx')
 have hk':(frame f fr).kind ≠ .early:=hk
 rw [e,stepG_enter (a:={ tmps:=vals f fr.tmps,defers:=fr.defers.map (deferred f) }) ho hw' hk' (run_call_body hop hf hname hb')]
 have hl:listed P (frame f fr).fn { tmps:=vals f fr.tmps,defers:=fr.defers.map (deferred f) } o w=#[]:=by unfold listed;rw [events_call_body hop hf hname hb'];exact seen_none P _
 rw [hl,← e]
 exact congrArg (fun z=>GStep.go (G (Frame.enter P fn z .normal) (frame f fr::cs')) w #[]) hev
theorem XT {fr:Frame} {ops:Array Oper} {i:Nat} {rest:List Nat} {k:List Item} {o:Oper} {fn:FuncId} {xs ys:Array Operand}
  (hm:fr.mode = .run) (hro:fr.roundOf=none) (hk:fr.kind ≠ .early) (ht:fr.todo = .inRegion ops (i::rest)::k) (hok:DY P S fr) (ho:ops[i]? = some o) (hw:Region.wanted o (yielded ops fr.tmps)=true)
  (hop:o.op = .makeFunc (.func fn) xs ys) (hxs:∀ x∈xs,bG P (Nm S) x) (hys:∀ x∈ys,bG P (Nm S) x)
  (f:Nat→Nat) (m:Bool) (cs':List Frame) (w:World) (hx:Fix P f) :
  stepG P m (G (frame f fr) cs') w = .go (G (frame f (fr.finish (.func (.func fn) (xs.map fr.eval) (ys.map fr.eval)))) cs') w #[]:=by
 have e:frame f fr=(frame f fr).at { tmps:=vals f fr.tmps,defers:=fr.defers.map (deferred f) } (.inRegion ops (i::rest)::k.map (item f)):=by
  obtain ⟨fn0,tmps,todo,defers,md,kind,ro⟩:=fr
  dsimp only at hm ht hro
  subst hm ht hro
  rfl
 have hw':Region.wanted o (yielded ops (vals f fr.tmps))=true:=by rw [dM];exact hw
 have hev:∀ {zs:Array Operand},(∀ x∈zs,bG P (Nm S) x)→zs.map (frame f fr).eval=vals f (zs.map fr.eval):=fun {zs} hz=>by
  unfold vals
  rw [Array.map_map]
  exact Array.map_congr_left fun x hx'=>fG hx (fun _ _=>rfl) fr (hz x hx')
 have hk':(frame f fr).kind ≠ .early:=hk
 have hval:Value.func (.func fn) (xs.map (frame f fr).eval) (ys.map (frame f fr).eval)=val f (.func (.func fn) (xs.map fr.eval) (ys.map fr.eval)):=by
  rw [hev hxs,hev hys,bP];rfl
 have hr:(execOp (frame f fr).eval o).run P w = .ok (.value (.func (.func fn) (xs.map (frame f fr).eval) (ys.map (frame f fr).eval))) w:=by
  unfold execOp;rw [hop];rfl
 have hev0:((execOp (frame f fr).eval o).events P w #[])=#[]:=by unfold execOp;rw [hop];rfl
 have hl:listed P (frame f fr).fn { tmps:=vals f fr.tmps,defers:=fr.defers.map (deferred f) } o w=#[]:=by
  unfold listed
  rw [show Act.eval { tmps:=vals f fr.tmps,defers:=fr.defers.map (deferred f) }=(frame f fr).eval from funext fun x=>by cases x<;>rfl,hev0];exact seen_none P _
 have hst:=stepG_value (P:=P) (main:=m) (cs:=cs') (b:=frame f fr) (k:=k.map (item f)) (a:={ tmps:=vals f fr.tmps,defers:=fr.defers.map (deferred f) }) (w:=w) (rest:=rest) ho hw' hk'
  (show (execOp (Act.eval { tmps:=vals f fr.tmps,defers:=fr.defers.map (deferred f) }) o).run P w=_ from by
   rw [show Act.eval { tmps:=vals f fr.tmps,defers:=fr.defers.map (deferred f) }=(frame f fr).eval from funext fun x=>by cases x<;>rfl];exact hr)
 rw [hl,← e] at hst
 rw [hst,← bg fr _ hok,← hval]
 congr 2
 conv=>rhs;rw [e]
 rw [Frame.finish_at,ho]
 rfl
theorem Ox {fr:Frame} {cs:List Frame} {v:World} (ok:Ok P S (G fr cs) v) {fn:FuncId} (hfn:Nm S fn) {xs ys:Array Operand} (hxs:∀ x∈xs,bG P (Nm S) x) (hys:∀ x∈ys,bG P (Nm S) x) :
  ni S v.heap.size #[.func (.func fn) (xs.map fr.eval) (ys.map fr.eval)]:=fun H H' h h' ha=>by
 have h1:=qX ok hxs H H' h h' ha
 have h2:=qX ok hys H H' h h' ha
 have e:@Ren.fn H h (.func fn) = @Ren.fn H' h' (.func fn):=congrArg Fn.func (ha.qL fn hfn)
 unfold vals at h1 h2 ⊢
 simp only [List.map_toArray,List.map_cons,List.map_nil]
 rw [nU,nU,h1,h2]
 exact congrArg (fun z=>#[Value.func z _ _]) e
theorem xx {fr:Frame} {ops:Array Oper} {i:Nat} {rest:List Nat} {k:List Item} (hm:fr.mode = .run) (hro:fr.roundOf=none) (ht:fr.todo = .inRegion ops (i::rest)::k) (f:Nat→Nat) :
  frame f fr=(frame f fr).at { tmps:=vals f fr.tmps,defers:=fr.defers.map (deferred f) } (.inRegion ops (i::rest)::k.map (item f)):=by
 obtain ⟨fn0,tmps,todo,defers,md,kind,ro⟩:=fr
 dsimp only at hm ht hro
 subst hm ht hro
 rfl
theorem nP (f:Nat→Nat) (fr:Frame):Act.eval { tmps:=vals f fr.tmps,defers:=fr.defers.map (deferred f) }=(frame f fr).eval:=funext fun x=>by cases x<;>rfl
theorem go_st {fr:Frame} {ops:Array Oper} {i:Nat} {rest:List Nat} {k:List Item} {o:Oper} {t:Tmp} {g:Fn} {pre caps:Array Value} {ats:Array TypeId}
  (hm:fr.mode = .run) (hro:fr.roundOf=none) (hk:fr.kind ≠ .early) (ht:fr.todo = .inRegion ops (i::rest)::k) (hok:DY P S fr) (ho:ops[i]? = some o) (hw:Region.wanted o (yielded ops fr.tmps)=true)
  (hop:o.op = .go { callee:=.value (.tmp t),args:=#[],argTypes:=ats }) (hv:fr.tmps.getD t undef = .func g pre caps)
  (f:Nat→Nat) (m:Bool) (cs':List Frame) (w:World) :
  stepG P m (G (frame f fr) cs') w = .spawn (G (frame f (fr.finish undef)) cs') (born P (deferred f { target:=.fn g caps,args:=pre })) w #[]:=by
 have e:=xx hm hro ht f
 have hw':Region.wanted o (yielded ops (vals f fr.tmps))=true:=by rw [dM];exact hw
 have hk':(frame f fr).kind ≠ .early:=hk
 have hvf:(frame f fr).eval (.tmp t) = .func (fn f g) (vals f pre) (vals f caps):=by
  show (vals f fr.tmps).getD t undef=_
  rw [kR,hv,bP]
 have hd:deferred f { target:=.fn g caps,args:=pre }={ target:=.fn (fn f g) (vals f caps),args:=vals f pre }:=rfl
 have hr:(execOp (frame f fr).eval o).run P w = .ok (.spawn (deferred f { target:=.fn g caps,args:=pre })) w:=by
  unfold execOp;rw [hop];dsimp only
  unfold resolve
  simp only [hvf,Deferred.ofValue,hd]
  simp [Sem.run]
 have hev0:((execOp (frame f fr).eval o).events P w #[])=#[]:=by
  unfold execOp;rw [hop];dsimp only
  unfold resolve
  simp only [hvf,Deferred.ofValue]
  simp
 have hl:listed P (frame f fr).fn { tmps:=vals f fr.tmps,defers:=fr.defers.map (deferred f) } o w=#[]:=by
  unfold listed
  rw [nP,hev0];exact seen_none P _
 have hst:=stepG_spawn (P:=P) (main:=m) (cs:=cs') (b:=frame f fr) (k:=k.map (item f)) (a:={ tmps:=vals f fr.tmps,defers:=fr.defers.map (deferred f) }) (w:=w) (rest:=rest) (f:=fn f g) (c:=vals f caps) ho hw' hk'
  (show (execOp (Act.eval { tmps:=vals f fr.tmps,defers:=fr.defers.map (deferred f) }) o).run P w=_ from by rw [nP];exact hr) rfl
 rw [hl,← e] at hst
 have hu:(frame f fr).finish undef=frame f (fr.finish undef):=by
  have:=bg (f:=f) fr undef hok
  rwa [fK] at this
 rw [hst,← hu]
 congr 2
 conv=>rhs;rw [e]
 rw [Frame.finish_at,ho]
 rfl
end
end Ren
end Go
end
end
section
section
namespace Go
namespace Ren
open Go.Conc
section
variable {P:Program} {S:FuncId→Prop}
def dA (S:FuncId→Prop) (x:Value):Prop:=∀ (H H':Fr) (h:Nat→Nat),(∀ g,S g→H.qL g=H'.qL g)→@val H h x = @val H' h x
def PE (S:FuncId→Prop) (o:Obj):Prop:=∀ (H H':Fr) (h:Nat→Nat),(∀ g,S g→H.qL g=H'.qL g)→@obj H h o = @obj H' h o
theorem gY {x:Value} (h:aQ x=true):dA S x:=fun H H' e _=>(@aH H x h e).trans (@aH H' x h e).symm
theorem xm (a:Option Addr):dA S (.pointer a):=fun H H' e _=>by rw [lX,lX]
theorem uZ (a:Option Addr) (l c:Nat):dA S (.slice a l c):=fun H H' e _=>by rw [IZ,IZ]
theorem Gl (a:Option Nat):dA S (.map a):=fun H H' e _=>by rw [Tu,Tu]
theorem Di (a:Option Nat):dA S (.chan a):=fun H H' e _=>by rw [D5,D5]
theorem Gm (k:IntKind) (n:Int):dA S (.int k n):=gY rfl
theorem MK (b:Bool):dA S (.bool b):=gY rfl
theorem Ht (b:ByteArray):dA S (.string b):=gY rfl
theorem BU {xs:Array Value} (h:∀ x∈xs,dA S x):GK S xs:=fun H H' e ha=>by
 unfold vals
 exact Array.map_congr_left fun x hx=>h x hx H H' e ha
theorem Ph {cs:Array Value} (h:∀ x∈cs,dA S x):dA S (.agg cs):=fun H H' e ha=>by
 rw [Tv,Tv]
 exact congrArg Value.agg (Array.map_congr_left fun x hx=>h x hx H H' e ha)
theorem JP {cs:Array Value} (h:∀ x∈cs,dA S x):dA S (.tuple cs):=fun H H' e ha=>by
 rw [uA,uA]
 exact congrArg Value.tuple (Array.map_congr_left fun x hx=>h x hx H H' e ha)
theorem MJ {g:FuncId} {a b:Array Value} (hg:S g) (h1:∀ x∈a,dA S x) (h2:∀ x∈b,dA S x):dA S (.func (.func g) a b):=fun H H' e ha=>by
 rw [nU,nU,Array.map_congr_left fun x hx=>h1 x hx H H' e ha,Array.map_congr_left fun x hx=>h2 x hx H H' e ha]
 exact congrArg (fun z=>Value.func z _ _) (congrArg Fn.func (ha g hg))
theorem JQ {c:Array Value} {e:TypeId} {fr:Nat × Nat} (h:∀ x∈c,dA S x):PE S (.cells c e fr):=fun H H' h' ha=>by
 show Obj.cells (@vals H h' c) e fr=Obj.cells (@vals H' h' c) e fr
 rw [BU h H H' h' ha]
theorem MI {v V:World} (h:Clean S v) (hV:∀ (b:Nat) (o:Obj),V.heap[b]? = some o→v.heap[b]? = some o∨PE S o):Clean S V:=fun H H' e ha b o hb=>
 (hV b o hb).elim (fun h1=>h H H' e ha b o h1) fun h1=>h1 H H' e ha
theorem aX {v V:World} (h:Clean S v) (e:V.heap=v.heap):Clean S V:=MI h fun b o hb=>.inl (by rw [←e];exact hb)
theorem Pe {v V:World} {x:Obj} (h:Clean S v) (hx:PE S x) (e:V.heap=v.heap.push x):Clean S V:=MI h fun b o hb=>by
 rw [e,Array.getElem?_push] at hb
 split at hb
 ·obtain rfl:=Option.some.inj hb;exact .inr hx
 ·exact .inl hb
end
end Ren
end Go
end
end
section
section
namespace Go
namespace Ren
open Go.Conc
section
variable {P:Program} {L N:List FuncId}
theorem Vp [gm] {fr:Frame} {cs:List Frame} {i:Item} {k:List Item} (hm:fr.mode = .run) (ht:fr.todo=i::k)
  (hi:match i with | .inRegion _ (_::_)=>False | .code (.rangeFunc ..)=>False | .call ..=>False | _=>True):Fit P (G fr cs):=by
 refine ⟨fun _ ops j rest k' o h1 _=>?_,fun v' x h=>?_⟩
 ·have h1':fr.todo = .inRegion ops (j::rest)::k':=h1
  rw [ht] at h1'
  obtain ⟨rfl,_⟩:=List.cons.inj h1'
  exact hi.elim
 ·have h':fr.about P v'=some x:=h
  unfold Frame.about at h'
  rw [hm,ht] at h'
  dsimp only at h'
  split at h'
  ·rename_i he;obtain ⟨rfl,_⟩:=List.cons.inj he;exact hi.elim
  ·rename_i he;obtain ⟨rfl,_⟩:=List.cons.inj he;exact hi.elim
  ·rename_i he;obtain ⟨rfl,_⟩:=List.cons.inj he;exact hi.elim
  ·cases h'
theorem DU [gm] {fr:Frame} {cs:List Frame} (hm:fr.mode = .run) (ht:fr.todo=[]):Fit P (G fr cs):=by
 refine ⟨fun _ ops j rest k' o h1 _=>?_,fun v' x h=>?_⟩
 ·have h1':fr.todo = .inRegion ops (j::rest)::k':=h1
  rw [ht] at h1';cases h1'
 ·have h':fr.about P v'=some x:=h
  unfold Frame.about at h'
  rw [hm,ht] at h'
  cases h'
def FK:Op→Bool
 | .call _=>true
 | _=>false
theorem Vo {fr:Frame} {cs:List Frame} {ops:Array Oper} {i:Nat} {rest:List Nat} {k:List Item} {o:Oper} (hm:fr.mode = .run) (ht:fr.todo = .inRegion ops (i::rest)::k) (ho:ops[i]? = some o)
  (hc:FK o.op=false) (hb:gB P L o=true):@Fit (aK P L N) P (G fr cs):=by
 refine ⟨Fb fun ops' i' rest' k' o' h1 h2=>?_,fun v' x h=>?_⟩
 ·have h1':fr.todo = .inRegion ops' (i'::rest')::k':=h1
  rw [ht] at h1'
  obtain ⟨h3,_⟩:=List.cons.inj h1'
  obtain ⟨rfl,h4⟩:=Item.inRegion.inj h3
  obtain ⟨rfl,_⟩:=List.cons.inj h4
  rw [ho] at h2
  obtain rfl:=Option.some.inj h2
  exact hb
 ·have h':fr.about P v'=some x:=h
  unfold Frame.about at h'
  rw [hm,ht] at h'
  dsimp only at h'
  rw [ho] at h'
  dsimp only at h'
  cases hop:o.op<;>rw [hop] at h' hc<;>first | (cases h';done) | (cases hc;done)
theorem L9 {fr:Frame} {cs:List Frame} {ops:Array Oper} {i:Nat} {rest:List Nat} {k:List Item} {o:Oper} {fn:FuncId} {xs:Array Operand} {ats:Array TypeId} (hm:fr.mode = .run) (ht:fr.todo = .inRegion ops (i::rest)::k) (ho:ops[i]? = some o)
  (hop:o.op = .call { callee:=.value (.func fn),args:=xs,argTypes:=ats }) (hN:fn∉N) (hb:gB P L o=true):@Fit (aK P L N) P (G fr cs):=by
 refine ⟨Fb fun ops' i' rest' k' o' h1 h2=>?_,fun v' x h=>?_⟩
 ·have h1':fr.todo = .inRegion ops' (i'::rest')::k':=h1
  rw [ht] at h1'
  obtain ⟨h3,_⟩:=List.cons.inj h1'
  obtain ⟨rfl,h4⟩:=Item.inRegion.inj h3
  obtain ⟨rfl,_⟩:=List.cons.inj h4
  rw [ho] at h2
  obtain rfl:=Option.some.inj h2
  exact hb
 ·have h':fr.about P v'=some x:=h
  unfold Frame.about at h'
  rw [hm,ht] at h'
  dsimp only at h'
  rw [ho] at h'
  dsimp only at h'
  rw [hop] at h'
  dsimp only at h'
  have hx:x=fn:=by
   simp [resolve,Frame.eval,Deferred.ofValue,pure,Sem.run,Target.leads] at h'
   exact h'.symm
  subst hx
  exact hN
theorem iG.quiet [gm] {S:FuncId→Prop} {D:Goroutine→World→Prop} {g g':Goroutine} {v:World} (hf:Fit P g) {E:(Nat→Question→Nat)→Array Event} (he:∀ t,stepG P true g (wt v t) = .go g' (wt v t) (E t)) (hsm:iF g') (hup:Up g') (hr:g'.status = .running)
  (h:∀ t,iG P S D g' (wt v t)):iG P S D g v:=
 .step hf (fun _=>g') (fun t=>wt v t) E he (fun _=>hsm) (fun _ h=>h) (fun _=>hup) (fun _=>hr) h
end
end Ren
end Go
end
end
