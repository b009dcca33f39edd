import Derived.Conc.Own4
import Derived.Conc.Own2
import Derived.Test.YthhhncgnnnhkmaaGreatA09
set_option linter.all false
namespace Go.Ren
open Go.Conc
section
variable[M:Mps][E:Ext]
section
variable[Spc]{P:Program}{S:FuncId→Prop}
theorem enter_st{fr:Frame}{ops:Array Oper}{i:Nat}{rest:List Nat}{k:List Item}{o:Oper}{fn:FuncId}{fnr:Func}{c:Code}{xs:Array Operand}{ats:Array TypeId}
  (hm:fr.mode=.run) (hro:fr.roundOf=none) (hk:fr.kind≠.early) (ht:fr.todo=.inRegion ops (i::rest)::k) (ho:ops[i]?=some o) (hw:Region.wanted o (yielded ops fr.tmps)=true)
  (hop:o.op=.call {callee:=.value (.func fn),args:=xs,argTypes:=ats}) (hf:P.funcs[fn]?=some fnr) (hname:(fnr.name == "runtime.NumGoroutine")=false) (hb:fnr.body=some c) (hxs:∀x∈xs,OpndOK P (Nm S) x)
  (f:Nat→Nat) (m:Bool) (cs':List Frame) (w:World) (hx:Fix P f) :
  stepG P m (G (frame f fr) cs') w=.go (G (Frame.enter P fn (vals f (xs.map fr.eval)) .normal) (frame f fr::cs')) w #[]:=by
 have hb':fnr.body.isNone=false:=by rw[hb];rfl
 have e:frame f fr=(frame f fr).at {tmps:=vals f fr.tmps,defers:=fr.defers.map (deferred f)} (.inRegion ops (i::rest)::k.map (item f)):=by
  obtain⟨fn0,tmps,todo,defers,md,kind,ro⟩:=fr
  dsimp only at hm ht hro
  subst hm ht hro
  rfl
 have hw':Region.wanted o (yielded ops (vals f fr.tmps))=true:=by rw[yielded_vals];exact hw
 have hev:xs.map (frame f fr).eval=vals f (xs.map fr.eval):=by
  unfold vals
  rw[Array.map_map]
  exact Array.map_congr_left fun x hx'=>eval_frame hx (fun _ _=>rfl) fr (hxs x hx')
 have hk':(frame f fr).kind≠.early:=hk
 rw[e,stepG_enter (a:={tmps:=vals f fr.tmps,defers:=fr.defers.map (deferred f)}) ho hw' hk' (run_call_body hop hf hname hb')]
 have hl:listed P (frame f fr).fn {tmps:=vals f fr.tmps,defers:=fr.defers.map (deferred f)} o w=#[]:=by unfold listed;rw[events_call_body hop hf hname hb'];exact seen_none P _
 rw[hl,←e]
 exact congrArg (fun z=>GStep.go (G (Frame.enter P fn z .normal) (frame f fr::cs')) w #[]) hev
theorem func_st{fr:Frame}{ops:Array Oper}{i:Nat}{rest:List Nat}{k:List Item}{o:Oper}{fn:FuncId}{xs ys:Array Operand}(hm:fr.mode=.run)(hro:fr.roundOf=none)(hk:fr.kind≠.early)(ht:fr.todo=.inRegion ops (i::rest)::k)(hok:FrameOK P S fr)(ho:ops[i]?=some o)(hw:Region.wanted o (yielded ops fr.tmps)=true)(hop:o.op=.makeFunc (.func fn) xs ys)(hxs:∀x∈xs,OpndOK P (Nm S) x)(hys:∀x∈ys,OpndOK P (Nm S) x)(f:Nat→Nat)(m:Bool)(cs':List Frame)(w:World)(hx:Fix P f):stepG P m (G (frame f fr) cs') w=.go (G (frame f (fr.finish (.func (.func fn) (xs.map fr.eval) (ys.map fr.eval)))) cs') w #[]:=by
 have e:frame f fr=(frame f fr).at {tmps:=vals f fr.tmps,defers:=fr.defers.map (deferred f)} (.inRegion ops (i::rest)::k.map (item f)):=by
  obtain⟨fn0,tmps,todo,defers,md,kind,ro⟩:=fr
  dsimp only at hm ht hro
  subst hm ht hro
  rfl
 have hw':Region.wanted o (yielded ops (vals f fr.tmps))=true:=by rw[yielded_vals];exact hw
 have hev:∀{zs:Array Operand},(∀x∈zs,OpndOK P (Nm S) x)→zs.map (frame f fr).eval=vals f (zs.map fr.eval):=fun{zs} hz=>by
  unfold vals
  rw[Array.map_map]
  exact Array.map_congr_left fun x hx'=>eval_frame hx (fun _ _=>rfl) fr (hz x hx')
 have hk':(frame f fr).kind≠.early:=hk
 have hval:Value.func (.func fn) (xs.map (frame f fr).eval) (ys.map (frame f fr).eval)=val f (.func (.func fn) (xs.map fr.eval) (ys.map fr.eval)):=by
  rw[hev hxs,hev hys,val_func];rfl
 have hr:(execOp (frame f fr).eval o).run P w=.ok (.value (.func (.func fn) (xs.map (frame f fr).eval) (ys.map (frame f fr).eval))) w:=by
  unfold execOp;rw[hop];rfl
 have hev0:((execOp (frame f fr).eval o).events P w #[])=#[]:=by unfold execOp;rw[hop];rfl
 have hl:listed P (frame f fr).fn {tmps:=vals f fr.tmps,defers:=fr.defers.map (deferred f)} o w=#[]:=by
  unfold listed
  rw[show Act.eval {tmps:=vals f fr.tmps,defers:=fr.defers.map (deferred f)}=(frame f fr).eval from funext fun x=>by cases x<;>rfl,hev0];exact seen_none P _
 have hst:=stepG_value (P:=P) (main:=m) (cs:=cs') (b:=frame f fr) (k:=k.map (item f)) (a:={tmps:=vals f fr.tmps,defers:=fr.defers.map (deferred f)}) (w:=w) (rest:=rest) ho hw' hk'
  (show(execOp (Act.eval {tmps:=vals f fr.tmps,defers:=fr.defers.map (deferred f)}) o).run P w=_ from by
   rw[show Act.eval {tmps:=vals f fr.tmps,defers:=fr.defers.map (deferred f)}=(frame f fr).eval from funext fun x=>by cases x<;>rfl];exact hr)
 rw[hl,←e] at hst
 rw[hst,←finish_frame fr _ hok,←hval]
 congr 2
 conv=>rhs;rw[e]
 rw[Frame.finish_at,ho]
 rfl
theorem named_func{fr:Frame}{cs:List Frame}{v:World}(ok:Ok P S (G fr cs) v){fn:FuncId}(hfn:Nm S fn){xs ys:Array Operand}(hxs:∀x∈xs,OpndOK P (Nm S) x)(hys:∀x∈ys,OpndOK P (Nm S) x):NamedV S v.heap.size #[.func (.func fn) (xs.map fr.eval) (ys.map fr.eval)]:=fun H H' h h' ha=>by
 have h1:=named_evals ok hxs H H' h h' ha
 have h2:=named_evals ok hys H H' h h' ha
 have e:@Ren.fn H h (.func fn)=@Ren.fn H' h' (.func fn):=congrArg Fn.func (ha.fid fn hfn)
 unfold vals at h1 h2⊢
 simp only[List.map_toArray,List.map_cons,List.map_nil]
 rw[x_func,x_func,h1,h2]
 exact congrArg (fun z=>#[Value.func z _ _]) e
theorem at_frame{fr:Frame}{ops:Array Oper}{i:Nat}{rest:List Nat}{k:List Item}(hm:fr.mode=.run)(hro:fr.roundOf=none)(ht:fr.todo=.inRegion ops (i::rest)::k)(f:Nat→Nat):frame f fr=(frame f fr).at {tmps:=vals f fr.tmps,defers:=fr.defers.map (deferred f)} (.inRegion ops (i::rest)::k.map (item f)):=by
 obtain⟨fn0,tmps,todo,defers,md,kind,ro⟩:=fr
 dsimp only at hm ht hro
 subst hm ht hro
 rfl
theorem act_eval(f:Nat→Nat)(fr:Frame):Act.eval {tmps:=vals f fr.tmps,defers:=fr.defers.map (deferred f)}=(frame f fr).eval:=funext fun x=>by cases x<;>rfl
theorem go_st{fr:Frame}{ops:Array Oper}{i:Nat}{rest:List Nat}{k:List Item}{o:Oper}{t:Tmp}{g:Fn}{pre caps:Array Value}{ats:Array TypeId}(hm:fr.mode=.run)(hro:fr.roundOf=none)(hk:fr.kind≠.early)(ht:fr.todo=.inRegion ops (i::rest)::k)(hok:FrameOK P S fr)(ho:ops[i]?=some o)(hw:Region.wanted o (yielded ops fr.tmps)=true)(hop:o.op=.go {callee:=.value (.tmp t),args:=#[],argTypes:=ats})(hv:fr.tmps.getD t undef=.func g pre caps)(f:Nat→Nat)(m:Bool)(cs':List Frame)(w:World):stepG P m (G (frame f fr) cs') w=.spawn (G (frame f (fr.finish undef)) cs') (born P (deferred f {target:=.fn g caps,args:=pre})) w #[]:=by
 have e:=at_frame hm hro ht f
 have hw':Region.wanted o (yielded ops (vals f fr.tmps))=true:=by rw[yielded_vals];exact hw
 have hk':(frame f fr).kind≠.early:=hk
 have hvf:(frame f fr).eval (.tmp t)=.func (fn f g) (vals f pre) (vals f caps):=by
  show(vals f fr.tmps).getD t undef=_
  rw[getD_vals,hv,val_func]
 have hd:deferred f {target:=.fn g caps,args:=pre}={target:=.fn (fn f g) (vals f caps),args:=vals f pre}:=rfl
 have hr:(execOp (frame f fr).eval o).run P w=.ok (.spawn (deferred f {target:=.fn g caps,args:=pre})) w:=by
  unfold execOp;rw[hop];dsimp only
  unfold resolve
  simp only[hvf,Deferred.ofValue,hd]
  simp[Sem.run]
 have hev0:((execOp (frame f fr).eval o).events P w #[])=#[]:=by
  unfold execOp;rw[hop];dsimp only
  unfold resolve
  simp only[hvf,Deferred.ofValue]
  simp
 have hl:listed P (frame f fr).fn {tmps:=vals f fr.tmps,defers:=fr.defers.map (deferred f)} o w=#[]:=by
  unfold listed
  rw[act_eval,hev0];exact seen_none P _
 have hst:=stepG_spawn (P:=P) (main:=m) (cs:=cs') (b:=frame f fr) (k:=k.map (item f)) (a:={tmps:=vals f fr.tmps,defers:=fr.defers.map (deferred f)}) (w:=w) (rest:=rest) (f:=fn f g) (c:=vals f caps) ho hw' hk'
  (show(execOp (Act.eval {tmps:=vals f fr.tmps,defers:=fr.defers.map (deferred f)}) o).run P w=_ from by rw[act_eval];exact hr) rfl
 rw[hl,←e] at hst
 have hu:(frame f fr).finish undef=frame f (fr.finish undef):=by
  have:=finish_frame (f:=f) fr undef hok
  rwa[undef_closed] at this
 rw[hst,←hu]
 congr 2
 conv=>rhs;rw[e]
 rw[Frame.finish_at,ho]
 rfl
end
end
section
variable[M:Mps]
section
variable{P:Program}{S:FuncId→Prop}
def CleanX(S:FuncId→Prop)(x:Value):Prop:=∀(H H':Fr) (h:Nat→Nat),(∀g,S g→H.fid g=H'.fid g)→@val M H noExt h x=@val M H' noExt h x
def CleanO(S:FuncId→Prop)(o:Obj):Prop:=∀(H H':Fr) (h:Nat→Nat),(∀g,S g→H.fid g=H'.fid g)→@obj M H noExt h o=@obj M H' noExt h o
theorem cleanX_closed{x:Value}(h:closedB x=true):CleanX S x:=fun H H' e _=>(@closedB_closed M H noExt x h e).trans (@closedB_closed M H' noExt x h e).symm
theorem cleanX_pointer(a:Option Addr):CleanX S (.pointer a):=fun H H' e _=>by rw[x_pointer,x_pointer]
theorem cleanX_slice(a:Option Addr)(l c:Nat):CleanX S (.slice a l c):=fun H H' e _=>by rw[x_slice,x_slice]
theorem cleanX_map(a:Option Nat):CleanX S (.map a):=fun H H' e _=>by rw[x_map,x_map]
theorem cleanX_chan(a:Option Nat):CleanX S (.chan a):=fun H H' e _=>by rw[x_chan,x_chan]
theorem cleanX_int(k:IntKind)(n:Int):CleanX S (.int k n):=cleanX_closed rfl
theorem cleanX_bool(b:Bool):CleanX S (.bool b):=cleanX_closed rfl
theorem cleanX_string(b:ByteArray):CleanX S (.string b):=cleanX_closed rfl
theorem cleanV_of{xs:Array Value}(h:∀x∈xs,CleanX S x):CleanV S xs:=fun H H' e ha=>by
 unfold vals
 exact Array.map_congr_left fun x hx=>h x hx H H' e ha
theorem cleanX_agg{cs:Array Value}(h:∀x∈cs,CleanX S x):CleanX S (.agg cs):=fun H H' e ha=>by
 rw[x_agg,x_agg]
 exact congrArg Value.agg (Array.map_congr_left fun x hx=>h x hx H H' e ha)
theorem cleanX_tuple{cs:Array Value}(h:∀x∈cs,CleanX S x):CleanX S (.tuple cs):=fun H H' e ha=>by
 rw[x_tuple,x_tuple]
 exact congrArg Value.tuple (Array.map_congr_left fun x hx=>h x hx H H' e ha)
theorem cleanX_func{g:FuncId}{a b:Array Value}(hg:S g)(h1:∀x∈a,CleanX S x)(h2:∀x∈b,CleanX S x):CleanX S (.func (.func g) a b):=fun H H' e ha=>by
 rw[x_func,x_func,Array.map_congr_left fun x hx=>h1 x hx H H' e ha,Array.map_congr_left fun x hx=>h2 x hx H H' e ha]
 exact congrArg (fun z=>Value.func z _ _) (congrArg Fn.func (ha g hg))
theorem cleanO_cells{c:Array Value}{e:TypeId}{fr:Nat×Nat}(h:∀x∈c,CleanX S x):CleanO S (.cells c e fr):=fun H H' h' ha=>by
 show Obj.cells (@vals M H noExt h' c) e fr=Obj.cells (@vals M H' noExt h' c) e fr
 rw[cleanV_of h H H' h' ha]
theorem clean_of{v V:World}(h:Clean S v)(hV:∀(b:Nat) (o:Obj),V.heap[b]?=some o→v.heap[b]?=some o∨CleanO S o):Clean S V:=fun H H' e ha b o hb=>
 (hV b o hb).elim (fun h1=>h H H' e ha b o h1) fun h1=>h1 H H' e ha
theorem clean_same{v V:World}(h:Clean S v)(e:V.heap=v.heap):Clean S V:=clean_of h fun b o hb=>.inl (by rw[←e];exact hb)
theorem clean_push{v V:World}{x:Obj}(h:Clean S v)(hx:CleanO S x)(e:V.heap=v.heap.push x):Clean S V:=clean_of h fun b o hb=>by
 rw[e,Array.getElem?_push] at hb
 split at hb
 .obtain rfl:=Option.some.inj hb;exact .inr hx
 .exact .inl hb
end
section
variable{P:Program}{L N:List FuncId}
theorem fit_item[Spc]{fr:Frame}{cs:List Frame}{i:Item}{k:List Item}(hm:fr.mode=.run)(ht:fr.todo=i::k)
  (hi:match i with|.inRegion _ (_::_)=>False|.code (.rangeFunc ..)=>False|.call ..=>False|_=>True):Fit P (G fr cs):=by
 refine⟨fun _ ops j rest k' o h1 _=>?_,fun v' x h=>?_⟩
 .have h1':fr.todo=.inRegion ops (j::rest)::k':=h1
  rw[ht] at h1'
  obtain⟨rfl,_⟩:=List.cons.inj h1'
  exact hi.elim
 .have h':fr.about P v'=some x:=h
  unfold Frame.about at h'
  rw[hm,ht] at h'
  dsimp only at h'
  split at h'
  .rename_i he;obtain⟨rfl,_⟩:=List.cons.inj he;exact hi.elim
  .rename_i he;obtain⟨rfl,_⟩:=List.cons.inj he;exact hi.elim
  .rename_i he;obtain⟨rfl,_⟩:=List.cons.inj he;exact hi.elim
  .cases h'
theorem fit_nil[Spc]{fr:Frame}{cs:List Frame}(hm:fr.mode=.run)(ht:fr.todo=[]):Fit P (G fr cs):=by
 refine⟨fun _ ops j rest k' o h1 _=>?_,fun v' x h=>?_⟩
 .have h1':fr.todo=.inRegion ops (j::rest)::k':=h1
  rw[ht] at h1';cases h1'
 .have h':fr.about P v'=some x:=h
  unfold Frame.about at h'
  rw[hm,ht] at h'
  cases h'
def isCall:Op→Bool
 |.call c=>match c.callee with
  |.builtin .len|.builtin .cap|.builtin .min|.builtin .max=>false
  |_=>true
 |_=>false
theorem isCall_no{o:Op}(h:isCall o=false):(∀c,o≠.call c) ∨ ∃b xs ats,o=.call {callee:=.builtin b,args:=xs,argTypes:=ats}:=by
 cases o
 case call c=>
  obtain⟨cal,xs,ats⟩:=c
  cases cal
  case builtin b=>exact .inr ⟨b,xs,ats,rfl⟩
  all_goals cases h
 all_goals exact .inl fun c h=>by cases h
theorem fit_oper{fr:Frame}{cs:List Frame}{ops:Array Oper}{i:Nat}{rest:List Nat}{k:List Item}{o:Oper}(hm:fr.mode=.run)(ht:fr.todo=.inRegion ops (i::rest)::k)(ho:ops[i]?=some o)(hc:isCall o.op=false)(hb:bOper P L o=true):@Fit (spOf P L N) P (G fr cs):=by
 refine⟨notSp_of fun ops' i' rest' k' o' h1 h2=>?_,fun v' x h=>?_⟩
 .have h1':fr.todo=.inRegion ops' (i'::rest')::k':=h1
  rw[ht] at h1'
  obtain⟨h3,_⟩:=List.cons.inj h1'
  obtain⟨rfl,h4⟩:=Item.inRegion.inj h3
  obtain⟨rfl,_⟩:=List.cons.inj h4
  rw[ho] at h2
  obtain rfl:=Option.some.inj h2
  exact hb
 .have h':fr.about P v'=some x:=h
  unfold Frame.about at h'
  rw[hm,ht] at h'
  dsimp only at h'
  rw[ho] at h'
  dsimp only at h'
  rcases isCall_no hc with hn|⟨b,xs,ats,hop⟩
  .cases hop:o.op<;>rw[hop] at h'<;>first|(cases h';done)|exact absurd hop (hn _)
  .rw[hop] at h'
   dsimp only at h'
   simp[resolve,pure,Sem.run,Target.leads] at h'
theorem fit_call{fr:Frame}{cs:List Frame}{ops:Array Oper}{i:Nat}{rest:List Nat}{k:List Item}{o:Oper}{fn:FuncId}{xs:Array Operand}{ats:Array TypeId}(hm:fr.mode=.run)(ht:fr.todo=.inRegion ops (i::rest)::k)(ho:ops[i]?=some o)(hop:o.op=.call {callee:=.value (.func fn),args:=xs,argTypes:=ats})(hN:fn∉N)(hb:bOper P L o=true):@Fit (spOf P L N) P (G fr cs):=by
 refine⟨notSp_of fun ops' i' rest' k' o' h1 h2=>?_,fun v' x h=>?_⟩
 .have h1':fr.todo=.inRegion ops' (i'::rest')::k':=h1
  rw[ht] at h1'
  obtain⟨h3,_⟩:=List.cons.inj h1'
  obtain⟨rfl,h4⟩:=Item.inRegion.inj h3
  obtain⟨rfl,_⟩:=List.cons.inj h4
  rw[ho] at h2
  obtain rfl:=Option.some.inj h2
  exact hb
 .have h':fr.about P v'=some x:=h
  unfold Frame.about at h'
  rw[hm,ht] at h'
  dsimp only at h'
  rw[ho] at h'
  dsimp only at h'
  rw[hop] at h'
  dsimp only at h'
  have hx:x=fn:=by
   simp[resolve,Frame.eval,Deferred.ofValue,pure,Sem.run,Target.leads] at h'
   exact h'.symm
  subst hx
  exact hN
end
end
end Go.Ren
