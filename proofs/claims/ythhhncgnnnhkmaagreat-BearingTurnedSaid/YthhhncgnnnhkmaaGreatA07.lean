import Derived.RangeFuncNested
import Derived.Test.YthhhncgnnnhkmaaGreatA05
set_option linter.all false
namespace Go.Ev
abbrev Iv:=Fn→List Value→H→Option (Value×H)
structure Ck where
 go:T Value→Oper→Bool
 skip:Oper→Bool
section
variable(P:Program)(inv:Iv)
def callO(t:T Value)(h:H)(f:Operand)(xs:List Operand):Option (Value×H):=
 match evalO t f with
 |some v=>match opts (evalO t) xs with
  |some args=>match callee v args with
   |some (g,args)=>inv g args h
   |none=>none
  |none=>none
 |none=>none
def oneO(t:T Value)(h:H)(o:Op):Option (Value×H):=
 match pureB o with
 |true=>match pureV P (evalO t) o with
  |some v=>some (v,h)
  |none=>none
 |false=>match o with
  |.call c=>match c.callee with
   |.value f=>callO inv t h f c.args.toList
   |_=>heapO P (evalO t) o h
  |_=>heapO P (evalO t) o h
def opsO(ck:Ck)(n:Nat)(all:List Oper):List Oper→T Value→H→Option (T Value×H)
 |[],t,h=>some (t,h)
 |o::l,t,h=>match wantedB all t o with
  |some true=>match ck.go t o with
   |true=>match oneO P inv t h o.op with
    |some (v,h')=>match setT t n o.dst v with
     |some t'=>opsO ck n all l t' h'
     |none=>none
    |none=>none
   |false=>none
  |some false=>match ck.skip o with
   |true=>match setT t n o.dst (.tuple #[]) with
    |some t'=>opsO ck n all l t' h
    |none=>none
   |false=>none
  |none=>none
def only(t:T Value):List Nat→T Value
 |[]=>.nil
 |d::l=>match Nat.blt d top with
  |true=>T.put T.deep (only t l) d (t.get d)
  |false=>only t l
def logOK(r:Rec):Bool:=r.h1.log.all fun b=>match Nat.blt b top with
 |true=>match r.h0.get b with
  |some _=>true
  |none=>match Nat.ble r.h0.next b with
   |true=>Nat.blt b r.h1.next
   |false=>false
 |false=>false
def departsB(ops:List Oper):Bool:=ops.any fun o=>o.after.toList.any fun e=>!Region.binds .any e
def regO(ck:Ck)(n:Nat)(all:List Oper)(t0:T Ob):List Oper→Nat→T Value→Nat→List Rec→Option (T Value×Nat×List Rec)
 |[],_,t,nx,rs=>some (t,nx,rs)
 |o::l,i,t,nx,rs=>match wantedB all (only t (readsB all o)) o with
  |some true=>match ck.go (only t (readsB all o)) o with
   |true=>match pureB o.op with
    |true=>match pureV P (evalO (only t (readsB all o))) o.op with
     |some v=>match setT t n o.dst v with
      |some t'=>regO ck n all t0 l (i+1) t' nx rs
      |none=>none
     |none=>none
    |false=>match oneO P inv (only t (readsB all o)) ⟨narrow (only t (readsB all o)) o.op (behind all i t0 rs),nx,[]⟩ o.op with
     |some (v,h1)=>match setT t n o.dst v with
      |some t'=>regO ck n all t0 l (i+1) t' h1.next (⟨i,⟨narrow (only t (readsB all o)) o.op (behind all i t0 rs),nx,[]⟩,h1⟩::rs)
      |none=>none
     |none=>none
   |false=>none
  |some false=>match ck.skip o with
   |true=>match setT t n o.dst (.tuple #[]) with
    |some t'=>regO ck n all t0 l (i+1) t' nx rs
    |none=>none
   |false=>none
  |none=>none
def drawnO(ck:Ck)(n:Nat)(ops:List Oper)(t:T Value)(h:H):Option (T Value×H):=
 match drawOK ops,(match P.follows .mixedOrders with|true=>true|false=>!departsB ops) with
 |true,true=>match regO P inv ck n ops h.t ops 0 t h.next [] with
  |some (t',nx,rs)=>match allApart ops rs,rs.all logOK with
   |true,true=>some (t',⟨layAll h.t rs,nx,logAll rs++h.log⟩)
   |_,_=>none
  |none=>none
 |_,_=>none
def loopO(f:St→Option (Ex×St)):Nat→St→Option (Ex×St)
 |0,_=>none
 |k+1,s=>match f s with
  |some (.normal,s')=>loopO f k s'
  |some x=>some x
  |none=>none
def thenO(x:Option (Ex×St))(f:St→Option (Ex×St)):Option (Ex×St):=
 match x with
 |some (.normal,s)=>f s
 |x=>x
def blockO(id:Nat)(x:Option (Ex×St)):Option (Ex×St):=
 match x with
 |some (.exit i,s)=>match Nat.beq i id with
  |true=>some (.normal,s)
  |false=>some (.exit i,s)
 |x=>x
def rangedO(s:St)(f:Operand)(l:Nat)(marks:List Nat)(h:H):Option (Ex×St):=
 match evalO s.t f with
 |none=>none
 |some v=>match callee v [.func (.yield l) #[] #[]] with
  |some (.func g,args)=>match inv (.func g) args h with
   |none=>none
   |some (_,h1)=>match h1.get l,Nat.blt l top with
    |some (.loop st j f' t' n' ps' as' b' d'),true=>match st with
     |.busy=>none
     |_=>match jumpEx j with
      |some e=>some (e,⟨s.t,h1.put l (.loop .exhausted j f' t' n' ps' as' b' d'),marks⟩)
      |none=>none
    |_,_=>none
  |_=>none
def noCk:Ck:=⟨fun _ _=>true,fun _=>true⟩
def regionO(n:Nat)(ops:List Oper)(draw:Bool)(s:St):Option (Ex×St):=
 match draw with
 |false=>match opsO P inv noCk n ops ops s.t s.h with
  |some (t,h)=>some (.normal,⟨t,h,s.marks⟩)
  |none=>none
 |true=>match drawnO P inv noCk n ops s.t s.h with
  |some (t,h)=>some (.normal,⟨t,h,s.marks⟩)
  |none=>none
def enterO(fn:FuncId)(n:Nat)(rd:Option Nat)(f:Operand)(ps:Array Tmp)(as b:Code)(s:St):Option (Ex×St):=
 match rd with
 |none=>match s.h.new (.calls true) with
  |some (r,h)=>match h.new (.loop .ready none fn s.t n ps as b r) with
   |some (l,h)=>rangedO inv s f l (r::s.marks) h
   |none=>none
  |none=>none
 |some l=>match s.h.get l with
  |some (.loop _ _ _ _ _ _ _ _ d)=>match s.h.new (.loop .ready none fn s.t n ps as b d) with
   |some (l,h)=>rangedO inv s f l s.marks h
   |none=>none
  |_=>none
def codeO(fn:FuncId)(n:Nat)(rd:Option Nat):Code→St→Option (Ex×St)
 |.skip,s|.label _,s=>some (.normal,s)
 |.region _ ops draw,s=>regionO P inv n ops.toList draw s
 |.seq a b,s=>thenO (codeO fn n rd a s) (codeO fn n rd b)
 |.cond c a b,s=>match evalO s.t c with
  |some (.bool true)=>codeO fn n rd a s
  |some (.bool false)=>codeO fn n rd b s
  |_=>none
 |.block id b,s=>blockO id (codeO fn n rd b s)
 |.loop b,s=>loopO (codeO fn n rd b) 100000 s
 |.scope b,s=>codeO fn n rd b s
 |.rangeFunc f ps as b,s=>enterO inv fn n rd f ps as b s
 |.exit id,s=>some (.exit id,s)
 |.ret,s=>some (.ret,s)
 |_,_=>none
def leaveO(fn:Func)(x:Ex×St):Option (Value×H):=
 match x.1 with
 |.exit _=>none
 |_=>match marksOff x.2.marks x.2.h with
  |some h=>match resultV P x.2.t h fn.results.toList with
   |some v=>some (v,h)
   |none=>none
  |none=>none
def endO(l:Nat)(x:Ex×St):Option (Value×H):=
 match x.2.h.get l,Nat.blt l top,x.2.marks with
 |some (.loop _ _ f2 t2 n2 ps2 as2 b2 d2),true,[]=>match x.1 with
  |.normal=>some (.bool true,x.2.h.put l (.loop .ready none f2 t2 n2 ps2 as2 b2 d2))
  |.ret=>some (.bool false,x.2.h.put l (.loop .done (some .ret) f2 t2 n2 ps2 as2 b2 d2))
  |.exit id=>some (.bool false,x.2.h.put l (.loop .done (some (.exit id)) f2 t2 n2 ps2 as2 b2 d2))
 |_,_,_=>none
def bodyO(f:FuncId)(n:Nat)(l:Nat)(b:Code)(x:Ex×St):Option (Value×H):=
 match x.1,x.2.h.get l,Nat.blt l top,x.2.marks with
 |.normal,some (.loop .ready j f1 t1 n1 ps1 as1 b1 d1),true,[]=>
  match codeO P inv f n (some l) b ⟨x.2.t,x.2.h.put l (.loop .busy j f1 t1 n1 ps1 as1 b1 d1),[]⟩ with
  |some x=>endO l x
  |none=>none
 |_,_,_,_=>none
def funcO(f:FuncId)(args:List Value)(h:H):Option (Value×H):=
 match P.funcs[f]? with
 |some fn=>match fn.body,argsT 0 args .nil,fn.name == "runtime.NumGoroutine" with
  |some c,some t,false=>match codeO P inv f (args.length+(fn.ntmps-args.length)) none c ⟨t,h,[]⟩ with
   |some x=>leaveO P fn x
   |none=>none
  |_,_,_=>none
 |none=>none
def roundO(l:Nat)(args:List Value)(h:H):Option (Value×H):=
 match h.get l with
 |some (.loop _ _ f t n ps as b _)=>match paramsT ps.toList args n t with
  |some t'=>match codeO P inv f n (some l) as ⟨t',h,[]⟩ with
   |some x=>bodyO P inv f n l b x
   |none=>none
  |none=>none
 |_=>none
end
def invO(P:Program)(hk:FuncId→List Value→H→Option (Option (Value×H))):Nat→Iv
 |0,_,_,_=>none
 |d+1,.func f,args,h=>match hk f args h with
  |some r=>r
  |none=>funcO P (invO P hk d) f args h
 |d+1,.yield l,args,h=>roundO P (invO P hk d) l args h
 |_+1,_,_,_=>none
section
variable{P:Program}{ρ:Nms}
def Unb(ρ:Nms)(a b:Nat):Prop:=∀x,a≤x→x<b→ρ x=.unborn
theorem Unb.sub{a b c d:Nat}(h:Unb ρ a b)(h1:a≤c)(h2:d≤b):Unb ρ c d:=fun x hx hy=>h x (Nat.le_trans h1 hx) (Nat.lt_of_lt_of_le hy h2)
theorem Unb.step{ρ':Nms}{h h':H}{w w':World}{a b:Nat}(hu:Unb ρ a b)(s:Stp ρ h w ρ' h' w')(ha:h'.next≤a):Unb ρ' a b:=fun x hx hy=>s.born x (hu x hx hy) (.inr (Nat.le_trans ha hx))
theorem TR.put{n:Nat}{t t':T Value}{a:Act}(h:TR ρ n t a.tmps){d:Option Tmp}{v v':Value}(e:setT t n d v=some t')(hv:VR ρ v v'):TR ρ n t' (a.put d v').tmps:=by
 cases d with
 |none=>simp only[setT] at e;cases e;exact h
 |some d=>
  simp only[setT] at e
  split at e
  .rename_i h1 h2
   cases e
   rw[Nat.blt_eq] at h1 h2
   refine⟨by simp[Act.put,h.size],fun i u hi=>?_⟩
   rw[T.get_put _ _ _ _ _ (top_deep h2)] at hi
   split at hi
   .rename_i e0
    cases hi;subst e0
    refine⟨v',?_,hv⟩
    simp[Act.put,h.size,h1]
   .rename_i e0
    obtain⟨u',q1,q2⟩:=h.get i u hi
    refine⟨u',?_,q2⟩
    simp only[Act.put]
    rw[Array.getElem?_setIfInBounds_ne (Ne.symm e0)]
    exact q1
  .cases e
theorem put_defers(a:Act)(d:Option Tmp)(v:Value):(a.put d v).defers=a.defers:=by cases d<;>rfl
theorem env_of{n:Nat}{t:T Value}{a:Act}(h:TR ρ n t a.tmps):Env ρ (evalO t) a.eval:=fun x v e=>by
 cases x with
 |tmp d=>
  obtain⟨v',h1,h2⟩:=h.get d v e
  show VR ρ v (a.tmps.getD d undef)
  rw[Array.getD_eq_getD_getElem?,h1]
  exact h2
 |const c=>
  simp only[evalO] at e
  split at e
  .rename_i hf;cases e;exact flat_self hf
  .cases e
 |global g=>cases e
 |func f=>cases e;exact .func .nil .nil
theorem nth_arr{α:Type}(l:Array α)(k:Nat):nth l.toList k=l[k]?:=by rw[nth_get];simp
theorem wanted_ok{n:Nat}{t:T Value}{a:Act}{ops:Array Oper}{o:Oper}{b:Bool}(h:TR ρ n t a.tmps)(e:wantedB ops.toList t o=some b):Region.wanted o (yielded ops a.tmps)=b:=by
 unfold wantedB at e
 unfold Region.wanted
 split at e
 .rename_i hg;rw[hg];cases e;rfl
 .rename_i j want hg
  rw[hg]
  simp only
  rw[nth_arr] at e
  split at e
  .rename_i oj hj
   split at e
   .rename_i d hd
    split at e
    .rename_i c hc
     cases e
     obtain⟨v',h1,h2⟩:=h.get d _ hc
     rw[h2.inv_bool] at h1
     have:yielded ops a.tmps j=some c:=by unfold yielded;rw[hj];simp[hd,h1]
     rw[this]
     cases c<;>cases want<;>rfl
    .rename_i c hc
     cases e
     obtain⟨v',h1,h2⟩:=h.get d _ hc
     obtain⟨cs',rfl,_⟩:=h2.inv_tuple
     have:yielded ops a.tmps j=none:=by unfold yielded;rw[hj];simp[hd,h1]
     rw[this]
     rfl
    .cases e
   .rename_i hd
    cases e
    have:yielded ops a.tmps j=none:=by unfold yielded;rw[hj];simp[hd]
    rw[this];rfl
  .rename_i hj
   cases e
   have:yielded ops a.tmps j=none:=by unfold yielded;rw[hj];simp
   rw[this];rfl
theorem new_next{h h':H}{o:Ob}{b:Nat}(e:h.new o=some (b,h')):h.next≤h'.next:=by
 obtain⟨_,_,h3,_⟩:=H.get_new e;omega
theorem made_next{h h':H}{o:Ob}{k:Nat→Value}{v:Value}(e:made (h.new o) k=.one (v,h')):h.next≤h'.next:=by
 obtain⟨b,e1,_⟩:=made_inv e;exact new_next e1
theorem stores_next{h h':H}{a:Addr}{vs:List Value}(e:stores h a vs=some h'):h'.next=h.next:=by
 unfold stores at e
 split at e
 .split at e
  .cases e;rfl
  .cases e
 .split at e
  .cases e;rfl
  .cases e
 .cases e
theorem storeV_next{h h':H}{t:TypeId}{a:Addr}{v:Value}(e:storeV P h t a v=some h'):h'.next=h.next:=by
 unfold storeV at e
 split at e
 .split at e
  .exact stores_next e
  .cases e
 .cases e
theorem append_next{h h':H}{t:TypeId}{s x v:Value}(e:appendV P h t s x=some (v,h')):h.next≤h'.next:=by
 unfold appendV at e
 repeat' split at e
 all_goals first
  |(cases e;done)
  |(cases e;exact Nat.le_refl _)
  |(cases e;exact new_next ‹_›)
  |(cases e;refine Nat.le_trans ?_ (new_next ‹_›);exact Nat.le_refl _)
  |(cases e;exact Nat.le_of_eq (stores_next ‹_›).symm)
theorem appendW_next{h h':H}{t:TypeId}{s x v:Value}(e:appendW P h t s x=some (v,h')):h.next≤h'.next:=by
 unfold appendW at e
 split at e
 .rename_i hq;cases e;exact append_next hq
 .unfold sackV at e
  repeat' split at e
  all_goals first
   |(cases e;done)
   |(cases e;refine Nat.le_trans ?_ (new_next ‹_›);exact Nat.le_refl _)
theorem copy_next{h h':H}{t:TypeId}{d x v:Value}(e:copyV P h t d x=some (v,h')):h.next≤h'.next:=by
 unfold copyV at e
 split at e
 .rename_i el db dn dc xb xn xc ht
  split at e
  .rename_i i hi
   obtain⟨n,e⟩:∃n,copyN h i db xb n=some (v,h'):=by
    cases hb:Nat.ble xn dn
    .refine⟨dn,?_⟩
     rw[hb] at e;exact e
    .refine⟨xn,?_⟩
     rw[hb] at e;exact e
   unfold copyN at e
   split at e
   .split at e
    .cases e;exact Nat.le_refl _
    .split at e
     .cases e;exact Nat.le_of_eq (stores_next ‹_›).symm
     .cases e
   .cases e
  .cases e
 .cases e
theorem ofOption_inv{α:Type}{r:Option α}{x:α}(e:R.ofOption r=.one x):r=some x:=by
 cases r<;>cases e
 rfl
theorem heapV_next{ρE:Operand→Option Value}{o:Op}{h h':H}{v:Value}(e:heapO P ρE o h=some (v,h')):h.next≤h'.next:=by
 cases o<;>simp only[heapO] at e<;>try (first|(cases e;done)|(simp only[heapV] at e;cases e;done))
 all_goals
  replace e:=one_inv e
  simp only[heapV] at e
  repeat' split at e
 all_goals first
  |(cases e;done)
  |exact made_next e
  |(cases e;exact Nat.le_refl _)
  |(obtain⟨e1,_⟩:=done_inv e;exact Nat.le_of_eq (storeV_next e1).symm)
  |(cases e;exact appendW_next ‹_›)
  |exact copy_next (ofOption_inv e)
  |(rename_i hq _ _ _ _ _ _ _ _ _ _ _ _ _ _ _;exact absurd ‹Op.makeMap _ _=Op.next _ _› (by simp))
  |exact absurd ‹Op.makeMap _ _=Op.next _ _› (by simp)
  |exact absurd ‹Op.makeMap _ _=Op.call _› (by simp)
end
section
variable{P:Program}{inv:Iv}
def GR(ρ:Nms):Fn→Fn→Prop
 |.func f,.func f'=>f=f'
 |.yield l,.yield l'=>BR ρ l l'
 |_,_=>False
def Entered(P:Program)(w:World)(args:List Value)(fr:Frame):Fn→Prop
 |.func f=>∃fn c,P.funcs[f]?=some fn∧fn.body=some c∧(fn.name == "runtime.NumGoroutine")=false∧fr=Frame.enter P f ⟨args⟩ .normal
 |.yield l=>∃r,w.heap[l]?=some (.loop r)∧args.length=r.params.size∧fr=Frame.round l r.fn ((r.params.zip ⟨args⟩).foldl (fun tmps (t,a)=>tmps.setIfInBounds t a) r.tmps) r.assign r.body .normal
 |_=>False
def IvOK(P:Program)(inv:Iv):Prop:=∀g args h v h',inv g args h=some (v,h')→h.next≤h'.next ∧
 ∀ρ w g' args',GR ρ g g'→VRs ρ args args'→HR ρ h w→Unb ρ h.next h'.next→∃fr0,Entered P w args' fr0 g' ∧
  ∀c cs,∃ρ' v' w',Steps P (lone fr0 (c::cs) w) (lone (c.finish v') cs w')∧Stp ρ h w ρ' h' w'∧HR ρ' h' w'∧VR ρ' v v'
def NextOK(inv:Iv):Prop:=∀g args h v h',inv g args h=some (v,h')→h.next≤h'.next
theorem IvOK.next(h:IvOK P inv):NextOK inv:=fun g args h0 v h' e=>(h g args h0 v h' e).1
def NextIn(P:Program)(N:Next)(fr:Frame):Prop:=
 (∃f args,N=.enter f args∧fr=Frame.enter P f args .normal)∨(∃l f tmps as b,N=.round l f tmps as b∧fr=Frame.round l f tmps as b .normal)
theorem run_callFunc_body{f:FuncId}{fn:Func}{c:Code}(hf:P.funcs[f]?=some fn)(hname:(fn.name == "runtime.NumGoroutine")=false)(hb:fn.body=some c)(args:Array Value)(w:World) :
  (callFunc f args).run P w=.ok (.enter f args) w:=by
 have hb':fn.body.isNone=false:=by rw[hb];rfl
 unfold callFunc
 simp only[Sem.run_bind,run_program,Result.andThen,hf,hname,Bool.false_eq_true,if_false,hb',Sem.run_pure]
theorem value_ok(hI:IvOK P inv){ρ:Nms}{v v' u:Value}{args args':List Value}{g:Fn}{as:List Value}{h h':H}{w:World}(e:callee v args=some (g,as))(hv:VR ρ v v')(ha:VRs ρ args args')(ei:inv g as h=some (u,h'))
  (hr:HR ρ h w) (hu:Unb ρ h.next h'.next):∃fr0 N,(do let d ← Deferred.ofValue v' ⟨args'⟩;invoke d.target d.args:Sem Next).run P w=.ok N w∧NextIn P N fr0 ∧
   ∀c cs,∃ρ' u' w',Steps P (lone fr0 (c::cs) w) (lone (c.finish u') cs w')∧Stp ρ h w ρ' h' w'∧HR ρ' h' w'∧VR ρ' u u':=by
 unfold callee at e
 split at e
 .rename_i f a b
  cases e
  cases hv with
  |same h=>cases h
  |func h1 h2=>
   rename_i a' b'
   obtain⟨fr0,⟨fn,c,q1,q2,q3,q4⟩,hst⟩:=(hI _ _ _ _ _ ei).2 ρ w (.func f) (a'++args'++b') rfl ((h1.append ha).append h2) hr hu
   refine⟨fr0,.enter f ⟨a'++args'++b'⟩,?_,.inl ⟨_,_,rfl,q4⟩,hst⟩
   have hc:=run_callFunc_body q1 q3 q2 ⟨a'++args'++b'⟩ w
   have e1:(⟨a'⟩:Array Value)++⟨args'⟩++⟨b'⟩=⟨a'++args'++b'⟩:=by simp
   simp only[Deferred.ofValue,Sem.run_bind,Sem.run_pure,Result.andThen,invoke,e1,hc]
 .rename_i l a b
  cases e
  cases hv with
  |same h=>cases h
  |yield h1=>
   rename_i l'
   obtain⟨fr0,⟨r,q1,q2,q3⟩,hst⟩:=(hI _ _ _ _ _ ei).2 ρ w (.yield l') ([]++args') h1 (VRs.append .nil ha) hr hu
   refine⟨fr0,_,?_,.inr ⟨_,_,_,_,_,rfl,q3⟩,hst⟩
   have hy:=run_yield (P:=P) (args:=⟨[]++args'⟩) q1 (by simpa using q2)
   have e1:(#[]:Array Value)++⟨args'⟩=⟨[]++args'⟩:=by simp
   simp only[Deferred.ofValue,Sem.run_bind,Sem.run_pure,Result.andThen,invoke,e1,hy]
 .cases e
theorem step_next{b:Frame}{a:Act}{k:List Item}{cs:List Frame}{w w':World}{ops:Array Oper}{i:Nat}{rest:List Nat}{o:Oper}{N:Next}{fr0:Frame}(ho:ops[i]?=some o)(hw:Region.wanted o (yielded ops a.tmps)=true)(hd:∀c,o.op≠.defer c)(hr:(execOp a.eval o).run P w=.ok N w')(hN:NextIn P N fr0):step P (lone (b.atR a (.inRegion ops (i::rest)::k)) cs w)=.next (lone fr0 (b.atR a (.inRegion ops (i::rest)::k)::cs) w'):=by
 refine step_lone_go ?_
 rw[stepGR_op ho hw,Oper.semAt_eq _ _ _ hd]
 rcases hN with⟨f,args,rfl,rfl⟩|⟨l,f,tmps,as,bd,rfl,rfl⟩
 .simp[stepG.apply,Sem.runT_eq,hr,Frame.atR]
 .simp[stepG.apply,Sem.runT_eq,hr,Frame.atR]
theorem step_gives{b:Frame}{a:Act}{k:List Item}{cs:List Frame}{w w':World}{ops:Array Oper}{i:Nat}{rest:List Nat}{o:Oper}{N:Next}{v:Value}(ho:ops[i]?=some o)(hw:Region.wanted o (yielded ops a.tmps)=true)(hd:∀c,o.op≠.defer c)(hr:(execOp a.eval o).run P w=.ok N w')(hN:Gives N v):step P (lone (b.atR a (.inRegion ops (i::rest)::k)) cs w)=.next (lone (b.atR (a.put o.dst v) (.inRegion ops rest::k)) cs w'):=by
 have hf:=Frame.finish_atR b a ops i rest k v
 rw[ho] at hf
 simp only[Option.bind_some] at hf
 rw[←hf]
 refine step_lone_go ?_
 rw[stepGR_op ho hw,Oper.semAt_eq _ _ _ hd]
 rcases hN with rfl|⟨rfl,rfl⟩
 .simp[stepG.apply,Sem.runT_eq,hr]
 .simp[stepG.apply,Sem.runT_eq,hr]
def OpDoes(P:Program)(ρ:Nms)(h:H)(ops:Array Oper)(o:Oper)(i:Nat)(b:Frame)(a:Act)(k:List Item)(cs:List Frame)(w:World)(v:Value)(h':H):Prop:=
 ∀rest,∃ρ' v' w',Steps P (lone (b.atR a (.inRegion ops (i::rest)::k)) cs w) (lone (b.atR (a.put o.dst v') (.inRegion ops rest::k)) cs w')∧Stp ρ h w ρ' h' w'∧HR ρ' h' w'∧VR ρ' v v'
theorem pure_not_defer{ρE:Operand→Option Value}{o:Op}{v:Value}(e:pureV P ρE o=some v):∀c,o≠.defer c:=by
 rintro c rfl;simp[pureV] at e
theorem heap_not_defer{ρE:Operand→Option Value}{o:Op}{h:H}{x:Value×H}(e:heapO P ρE o h=some x):∀c,o≠.defer c:=by
 rintro c rfl;simp[heapO,heapV] at e
theorem one_next(hI:NextOK inv){t:T Value}{h h':H}{o:Op}{v:Value}(e:oneO P inv t h o=some (v,h')):h.next≤h'.next:=by
 unfold oneO at e
 split at e
 .split at e
  .cases e;exact Nat.le_refl _
  .cases e
 .split at e
  .split at e
   .unfold callO at e
    split at e
    .split at e
     .split at e
      .exact hI _ _ _ _ _ e
      .cases e
     .cases e
    .cases e
   .exact heapV_next e
  .exact heapV_next e
theorem one_ok(hI:IvOK P inv){ρ:Nms}{n:Nat}{t:T Value}{h h':H}{o:Oper}{v:Value}(e:oneO P inv t h o.op=some (v,h')){ops:Array Oper}{i:Nat}{b:Frame}{a:Act}{k:List Item}{cs:List Frame}{w:World}(ho:ops[i]?=some o)(hw:Region.wanted o (yielded ops a.tmps)=true)(ht:TR ρ n t a.tmps)(hr:HR ρ h w)(hu:Unb ρ h.next h'.next):OpDoes P ρ h ops o i b a k cs w v h':=by
 have hE:=env_of ht
 have heap:heapO P (evalO t) o.op h=some (v,h')→OpDoes P ρ h ops o i b a k cs w v h':=fun e rest=>by
  obtain⟨N,v',w',ρ',q1,q2,q3,q4,q5⟩:=heap_ok hE hr e hu
  exact⟨ρ',v',w',.one (step_gives ho hw (heap_not_defer e) q1 q2),q3,q4,q5⟩
 unfold oneO at e
 split at e
 .split at e
  .rename_i u hp
   cases e
   intro rest
   obtain⟨v',q1,q2⟩:=pure_ok hE hp w
   exact⟨ρ,v',w,.one (step_gives ho hw (pure_not_defer hp) q1 (.inl rfl)),.refl ρ h w w rfl,hr,q2⟩
  .cases e
 .split at e
  .rename_i c hop
   split at e
   .rename_i f hc
    unfold callO at e
    split at e
    .rename_i fv hf
     split at e
     .rename_i args hargs
      split at e
      .rename_i g as hcl
       intro rest
       obtain⟨fr0,N,q1,q2,q3⟩:=value_ok hI hcl (hE _ _ hf) (hE.opts hargs) e hr hu
       have hrun:(execOp a.eval o).run P w=.ok N w:=by
        unfold execOp
        rw[hop]
        show(do let d ← resolve a.eval c o.type;invoke d.target d.args:Sem Next).run P w=_
        have e1:(⟨c.args.toList.map a.eval⟩:Array Value)=c.args.map a.eval:=by apply Array.ext';simp
        rw[e1] at q1
        unfold resolve
        rw[hc]
        exact q1
       have hnd:∀c',o.op≠.defer c':=fun c'=>by rw[hop];simp
       obtain⟨ρ',u',w',s1,s2,s3,s4⟩:=q3 (b.atR a (.inRegion ops (i::rest)::k)) cs
       refine⟨ρ',u',w',.head (step_next ho hw hnd hrun q2) ?_,s2,s3,s4⟩
       have hf:=Frame.finish_atR b a ops i rest k u'
       rw[ho] at hf
       simp only[Option.bind_some] at hf
       rw[←hf]
       exact s1
      .cases e
     .cases e
    .cases e
   .exact heap e
  .exact heap e
def Went(P:Program)(ρ:Nms)(n:Nat)(h:H)(w:World)(m:Machine)(b:Frame)(ds:List Deferred)(k:List Item)(cs:List Frame)(t':T Value)(h':H):Prop:=
 ∃ρ' a' w',Steps P m (lone (b.atR a' k) cs w')∧a'.defers=ds∧Stp ρ h w ρ' h' w'∧HR ρ' h' w'∧TR ρ' n t' a'.tmps
theorem ops_next(hI:NextOK inv){ck:Ck}{n:Nat}{all:List Oper}:∀{l:List Oper} {t t':T Value} {h h':H},opsO P inv ck n all l t h=some (t',h')→h.next≤h'.next
 |[],t,t',h,h',e=>by cases e;exact Nat.le_refl _
 |o::l,t,t',h,h',e=>by
  simp only[opsO] at e
  split at e
  .split at e
   .split at e
    .rename_i e1
     split at e
     .exact Nat.le_trans (one_next hI e1) (ops_next hI e)
     .cases e
    .cases e
   .cases e
  .split at e
   .split at e
    .exact ops_next hI e
    .cases e
   .cases e
  .cases e
theorem ops_ok(hI:IvOK P inv){ck:Ck}{n:Nat}{ops:Array Oper}{b:Frame}{k:List Item}{cs:List Frame}:∀{l:List Oper} {i:Nat} {t t':T Value} {h h':H},l=ops.toList.drop i→opsO P inv ck n ops.toList l t h=some (t',h')→∀{ρ:Nms} {a:Act} {w:World},TR ρ n t a.tmps→HR ρ h w→Unb ρ h.next h'.next→Went P ρ n h w (lone (b.atR a (.inRegion ops (List.range' i l.length)::k)) cs w) b a.defers k cs t' h'
 |[],i,t,t',h,h',hl,e,ρ,a,w,ht,hr,hu=>by
  cases e
  exact⟨ρ,a,w,.one stepR_region_end,rfl,.refl ρ h w w rfl,hr,ht⟩
 |o::l,i,t,t',h,h',hl,e,ρ,a,w,ht,hr,hu=>by
  have ho:ops[i]?=some o:=by
   have:(ops.toList.drop i)[0]?=some o:=by rw[←hl];rfl
   simpa using this
  have hl':l=ops.toList.drop (i+1):=by
   rw[←List.drop_drop,←hl];rfl
  have hrange:List.range' i (o::l).length=i::List.range' (i+1) l.length:=by simp[List.range'_succ]
  rw[hrange]
  simp only[opsO] at e
  split at e
  .rename_i hw
   have hwant:=wanted_ok ht hw
   split at e
   case h_2=>cases e
   split at e
   .rename_i v h1 e1
    split at e
    .rename_i t1 e2
     have n1:=one_next hI.next e1
     have n2:=ops_next hI.next e
     obtain⟨ρ1,v',w1,s1,s2,s3,s4⟩:=one_ok (b:=b) (k:=k) (cs:=cs) hI e1 ho hwant ht hr (hu.sub (Nat.le_refl _) n2) (List.range' (i+1) l.length)
     have ht1:TR ρ1 n t1 (a.put o.dst v').tmps:=(ht.mono s2.le).put e2 s4
     obtain⟨ρ2,a2,w2,q1,q2,q3,q4,q5⟩:=ops_ok hI hl' e ht1 s3 ((hu.sub n1 (Nat.le_refl _)).step s2 (Nat.le_refl _))
     exact⟨ρ2,a2,w2,s1.trans q1,by rw[q2,put_defers],s2.trans q3,q4,q5⟩
    .cases e
   .cases e
  .rename_i hw
   have hwant:=wanted_ok ht hw
   split at e
   case h_2=>cases e
   split at e
   .rename_i t1 e2
    have ht1:TR ρ n t1 (a.put o.dst undef).tmps:=ht.put e2 undef_rel
    have hs:=stepR_op_skip (P:=P) (b:=b) (a:=a) (k:=k) (cs:=cs) (w:=w) (ops:=ops) (i:=i) (rest:=List.range' (i+1) l.length) (by rw[ho];simpa using hwant)
    rw[ho] at hs
    obtain⟨ρ2,a2,w2,q1,q2,q3,q4,q5⟩:=ops_ok hI hl' e ht1 hr hu
    exact⟨ρ2,a2,w2,.head hs q1,by rw[q2,put_defers],q3,q4,q5⟩
   .cases e
  .cases e
def RdR(ρ:Nms):Option Nat→Option Nat→Prop
 |none,none=>True
 |some l,some l'=>BR ρ l l'
 |_,_=>False
theorem RdR.mono{ρ ρ':Nms}(h:Le ρ ρ'):∀{l l':Option Nat},RdR ρ l l'→RdR ρ' l l'
 |none,none,_=>trivial
 |some _,some _,e=>BR.mono h e
def MR(ρ:Nms):List Nat→List Deferred→Prop
 |[],[]=>True
 |r::rs,d::ds=>(∃r',d={target:=.collected r',args:=#[]}∧BR ρ r r')∧MR ρ rs ds
 |_,_=>False
theorem MR.mono{ρ ρ':Nms}(h:Le ρ ρ'):∀{l:List Nat} {ds:List Deferred},MR ρ l ds→MR ρ' l ds
 |[],[],_=>trivial
 |_::_,_::_,⟨⟨r',e1,e2⟩,e3⟩=>⟨⟨r',e1,e2.mono h⟩,e3.mono h⟩
structure Sits(ρ:Nms)(fn:FuncId)(n:Nat)(rd:Option Nat)(s:St)(b:Frame)(a:Act):Prop where
 fn_:b.fn=fn
 kind:b.kind=.normal
 rd_:RdR ρ rd b.roundOf
 tmps:TR ρ n s.t a.tmps
 marks:MR ρ s.marks a.defers
def Gets(P:Program)(m:Machine)(b:Frame)(a:Act)(k:List Item)(cs:List Frame)(w:World):Ex→Prop
 |.normal=>Steps P m (lone (b.atR a k) cs w)
 |.exit id=>(∀k',exitTo id k=some k'→Steps P m (lone (b.atR a k') cs w))∧(exitTo id k=none→∃k0,exitTo id k0=none∧Steps P m (lone (b.atR a (.code (.exit id)::k0)) cs w))
 |.ret=>∃k0,Steps P m (lone (b.atR a (.code .ret::k0)) cs w)
theorem Gets.of_steps{m m1:Machine}{b:Frame}{a:Act}{k:List Item}{cs:List Frame}{w:World}{e:Ex}(h:Steps P m m1)(g:Gets P m1 b a k cs w e):Gets P m b a k cs w e:=by
 cases e with
 |normal=>exact h.trans g
 |exit id=>exact⟨fun k' hk=>h.trans (g.1 k' hk),fun hk=>let ⟨k0,q1,q2⟩:=g.2 hk;⟨k0,q1,h.trans q2⟩⟩
 |ret=>obtain⟨k0,q⟩:=g;exact⟨k0,h.trans q⟩
theorem Gets.pass{m:Machine}{b:Frame}{a:Act}{x:Item}{k:List Item}{cs:List Frame}{w:World}{e:Ex}(hx:x.plain=true)(he:e≠.normal)(g:Gets P m b a (x::k) cs w e):Gets P m b a k cs w e:=by
 have hxx:∀id,exitTo id (x::k)=exitTo id k:=fun id=>by cases x<;>simp_all [exitTo,Item.plain]
 cases e with
 |normal=>exact absurd rfl he
 |exit id=>
  simp only[Gets] at g⊢
  rw[hxx] at g
  exact g
 |ret=>exact g
def Runs(P:Program)(fn:FuncId)(n:Nat)(rd:Option Nat)(c:Code)(s:St)(x:Ex×St):Prop:=s.h.next≤x.2.h.next ∧
 ∀ρ b a k cs w,Sits ρ fn n rd s b a→HR ρ s.h w→Unb ρ s.h.next x.2.h.next→∃ρ' a' w',Gets P (lone (b.atR a (.code c::k)) cs w) b a' k cs w' x.1∧Stp ρ s.h w ρ' x.2.h w'∧HR ρ' x.2.h w'∧Sits ρ' fn n rd x.2 b a'
def DrawnOK(P:Program)(inv:Iv):Prop:=∀(ck:Ck) (n:Nat) (ops:Array Oper) (t t':T Value) (h h':H),drawnO P inv ck n ops.toList t h=some (t',h')→h.next≤h'.next ∧
 ∀{ρ:Nms} {b:Frame} {a:Act} {k:List Item} {cs:List Frame} {w:World} (x:Nat),b.kind=.normal→TR ρ n t a.tmps→HR ρ h w→Unb ρ h.next h'.next →
  Went P ρ n h w (lone (b.atR a (.inRegion ops (Region.schedule (P.follows .mixedOrders) ops x)::k)) cs w) b a.defers k cs t' h'
theorem HR.heap{ρ:Nms}{h:H}{w w':World}(hr:HR ρ h w)(e:w'.heap=w.heap):HR ρ h w':=⟨hr.tame.same e,fun b o hb=>by
 obtain⟨x,k,o',h1,h2,h3⟩:=hr.ob b o hb
 exact⟨x,k,o',h1,by rw[e];exact h2,h3⟩,hr.inj⟩
theorem Stp.heap{ρ ρ':Nms}{h h':H}{w w0 w':World}(s:Stp ρ h w0 ρ' h' w')(e:w0.heap=w.heap):Stp ρ h w ρ' h' w':=by
 obtain⟨s1,s2,s3,s4,l,s5,s6,s7,s8,s9⟩:=s
 exact⟨s1,s2,s3,by rw[←e];exact s4,l,s5,by rw[←e];exact s6,by rw[←e];exact s7,s8,s9⟩
theorem region_runs(hI:IvOK P inv)(hD:DrawnOK P inv){fn:FuncId}{n id:Nat}{rd:Option Nat}{ops:Array Oper}{draw:Bool}{s:St}{x:Ex×St}(e:regionO P inv n ops.toList draw s=some x):Runs P fn n rd (.region id ops draw) s x:=by
 unfold regionO at e
 split at e
 .split at e
  .rename_i t h e1
   cases e
   refine⟨ops_next hI.next e1,fun ρ b a k cs w hs hr hu=>?_⟩
   obtain⟨ρ',a',w',q1,q2,q3,q4,q5⟩:=ops_ok (b:=b) (k:=k) (cs:=cs) hI (i:=0) (by simp) e1 hs.tmps hr hu
   refine⟨ρ',a',w',.head stepR_region ?_,q3,q4,hs.fn_,hs.kind,hs.rd_.mono q3.le,q5,by rw[q2];exact hs.marks.mono q3.le⟩
   rw[List.range_eq_range']
   simpa using q1
  .cases e
 .split at e
  .rename_i t h e1
   cases e
   obtain⟨n1,hd⟩:=hD _ n ops s.t t s.h h e1
   refine⟨n1,fun ρ b a k cs w hs hr hu=>?_⟩
   obtain⟨ρ',a',w',q1,q2,q3,q4,q5⟩:=hd (b:=b) (k:=k) (cs:=cs) (w:={w with drawn:=w.drawn+1}) (w.tape w.drawn (.order b.fn id)) hs.kind hs.tmps (hr.heap rfl) hu
   exact⟨ρ',a',w',.head stepR_region_draw q1,q3.heap rfl,q4,hs.fn_,hs.kind,hs.rd_.mono q3.le,q5,by rw[q2];exact hs.marks.mono q3.le⟩
  .cases e
theorem Runs.one{fn:FuncId}{n:Nat}{rd:Option Nat}{c:Code}{s:St}{e:Ex}(h:∀b a k cs w,Gets P (lone (b.atR a (.code c::k)) cs w) b a k cs w e):Runs P fn n rd c s (e,s):=
 ⟨Nat.le_refl _,fun ρ b a k cs w hs hr _=>⟨ρ,a,w,h b a k cs w,.refl ρ s.h w w rfl,hr,hs⟩⟩
theorem Runs.seq{fn:FuncId}{n:Nat}{rd:Option Nat}{c d:Code}{s s1:St}{x:Ex×St}(h1:Runs P fn n rd c s (.normal,s1))(h2:Runs P fn n rd d s1 x):s.h.next≤x.2.h.next∧∀ρ b a k cs w,Sits ρ fn n rd s b a→HR ρ s.h w→Unb ρ s.h.next x.2.h.next→∃ρ' a' w',Gets P (lone (b.atR a (.code c::.code d::k)) cs w) b a' k cs w' x.1∧Stp ρ s.h w ρ' x.2.h w'∧HR ρ' x.2.h w'∧Sits ρ' fn n rd x.2 b a':=by
 obtain⟨n1,h1⟩:=h1
 obtain⟨n2,h2⟩:=h2
 simp only at n1 h1
 refine⟨Nat.le_trans n1 n2,fun ρ b a k cs w hs hr hu=>?_⟩
 obtain⟨ρ1,a1,w1,q1,q2,q3,q4⟩:=h1 ρ b a (.code d::k) cs w hs hr (hu.sub (Nat.le_refl _) n2)
 obtain⟨ρ2,a2,w2,p1,p2,p3,p4⟩:=h2 ρ1 b a1 k cs w1 q4 q3 ((hu.sub n1 (Nat.le_refl _)).step q2 (Nat.le_refl _))
 exact⟨ρ2,a2,w2,p1.of_steps q1,q2.trans p2,p3,p4⟩
theorem loop_runs{fn:FuncId}{n:Nat}{rd:Option Nat}{c:Code}{f:St→Option (Ex×St)}(hf:∀s x,f s=some x→Runs P fn n rd c s x):∀(m:Nat) (s:St) (x:Ex×St),loopO f m s=some x→s.h.next≤x.2.h.next∧∀ρ b a k cs w,Sits ρ fn n rd s b a→HR ρ s.h w→Unb ρ s.h.next x.2.h.next→∃ρ' a' w',Gets P (lone (b.atR a (.code c::.inLoop c::k)) cs w) b a' k cs w' x.1∧Stp ρ s.h w ρ' x.2.h w'∧HR ρ' x.2.h w'∧Sits ρ' fn n rd x.2 b a'
 |0,s,x,e=>by cases e
 |m+1,s,x,e=>by
  simp only[loopO] at e
  split at e
  .rename_i s1 e1
   obtain⟨n1,h1⟩:=hf _ _ e1
   obtain⟨n2,h2⟩:=loop_runs hf m s1 x e
   simp only at n1 h1
   refine⟨Nat.le_trans n1 n2,fun ρ b a k cs w hs hr hu=>?_⟩
   obtain⟨ρ1,a1,w1,q1,q2,q3,q4⟩:=h1 ρ b a (.inLoop c::k) cs w hs hr (hu.sub (Nat.le_refl _) n2)
   obtain⟨ρ2,a2,w2,p1,p2,p3,p4⟩:=h2 ρ1 b a1 k cs w1 q4 q3 ((hu.sub n1 (Nat.le_refl _)).step q2 (Nat.le_refl _))
   exact⟨ρ2,a2,w2,p1.of_steps (q1.trans (.one stepR_inLoop)),q2.trans p2,p3,p4⟩
  .rename_i y hy e1
   cases e
   obtain⟨n1,h1⟩:=hf _ _ e1
   refine⟨n1,fun ρ b a k cs w hs hr hu=>?_⟩
   obtain⟨ρ1,a1,w1,q1,q2,q3,q4⟩:=h1 ρ b a (.inLoop c::k) cs w hs hr hu
   exact⟨ρ1,a1,w1,q1.pass rfl (fun e0=>by
    obtain⟨e',s'⟩:=x
    simp only at e0
    subst e0
    exact hy s' rfl),q2,q3,q4⟩
  .cases e
theorem block_runs{fn:FuncId}{n id:Nat}{rd:Option Nat}{c:Code}{s:St}{y x:Ex×St}(h:Runs P fn n rd c s y)(e:blockO id (some y)=some x):Runs P fn n rd (.block id c) s x:=by
 obtain⟨n1,h1⟩:=h
 obtain⟨ey,sy⟩:=y
 have hx:x.2=sy∧(x.1=ey∨(ey=.exit id∧x.1=.normal))∧(ey=.exit id→x.1=.normal):=by
  unfold blockO at e
  split at e
  .rename_i i s' e0
   obtain⟨rfl,rfl⟩:=Prod.mk.inj (Option.some.inj e0)
   split at e
   .rename_i hb;cases e;obtain rfl:=Nat.eq_of_beq_eq_true hb;exact⟨rfl,.inr ⟨rfl,rfl⟩,fun _=>rfl⟩
   .rename_i hb;cases e;exact⟨rfl,.inl rfl,fun e1=>by cases e1;simp at hb⟩
  .rename_i hy
   cases e
   exact⟨rfl,.inl rfl,fun e1=>by subst e1;exact absurd rfl (hy id sy)⟩
 obtain⟨ex,sx⟩:=x
 simp only at hx n1 h1
 obtain⟨rfl,hx2,hx3⟩:=hx
 refine⟨n1,fun ρ b a k cs w hs hr hu=>?_⟩
 obtain⟨ρ1,a1,w1,q1,q2,q3,q4⟩:=h1 ρ b a (.inBlock id::k) cs w hs hr hu
 refine⟨ρ1,a1,w1,?_,q2,q3,q4⟩
 refine Gets.of_steps (.one stepR_block) ?_
 cases ey with
 |normal=>
  rcases hx2 with rfl|⟨h0,_⟩
  .exact q1.trans (.one stepR_inBlock)
  .cases h0
 |ret=>
  rcases hx2 with rfl|⟨h0,_⟩
  .exact q1
  .cases h0
 |exit i=>
  by_cases hi:i=id
  .subst hi
   have:ex=.normal:=hx3 rfl
   subst this
   exact q1.1 k (by simp[exitTo])
  .rcases hx2 with rfl|⟨h0,_⟩
   .have hx:exitTo i (.inBlock id::k)=exitTo i k:=by
     have:(id==i)=false:=by simp;exact fun h=>hi h.symm
     simp[exitTo,this]
    simp only[Gets] at q1⊢
    rw[hx] at q1
    exact q1
   .cases h0;exact absurd rfl hi
theorem jump_gets{m:Machine}{b:Frame}{a:Act}{k:List Item}{cs:List Frame}{w:World}{j:Option Code}{e:Ex}(hj:jumpEx j=some e)(h:Steps P m (lone (b.atR a ((j.map Item.code).toList++k)) cs w)):Gets P m b a k cs w e:=by
 unfold jumpEx at hj
 split at hj
 .cases hj;exact h
 .cases hj;exact⟨k,h⟩
 .rename_i id
  cases hj
  exact⟨fun k' hk=>h.trans (.one (stepR_exit hk)),fun hk=>⟨k,hk,h⟩⟩
 .cases hj
theorem func_ok(hI:IvOK P inv){ρ:Nms}{v v' u:Value}{args args':List Value}{g:FuncId}{as:List Value}{h h':H}{w:World}(e:callee v args=some (.func g,as))(hv:VR ρ v v')(ha:VRs ρ args args')(ei:inv (.func g) as h=some (u,h'))(hr:HR ρ h w)(hu:Unb ρ h.next h'.next):∃d as',(Deferred.ofValue v' ⟨args'⟩).run P w=.ok d w∧(invoke d.target d.args).run P w=.ok (.enter g as') w∧∀c cs,∃ρ' u' w',Steps P (lone (Frame.enter P g as' .normal) (c::cs) w) (lone (c.finish u') cs w')∧Stp ρ h w ρ' h' w'∧HR ρ' h' w'∧VR ρ' u u':=by
 unfold callee at e
 split at e
 .rename_i f a b
  cases e
  cases hv with
  |same h=>cases h
  |func h1 h2=>
   rename_i a' b'
   obtain⟨fr0,⟨fn,c,q1,q2,q3,rfl⟩,hst⟩:=(hI _ _ _ _ _ ei).2 ρ w (.func g) (a'++args'++b') rfl ((h1.append ha).append h2) hr hu
   have hc:=run_callFunc_body q1 q3 q2 ⟨a'++args'++b'⟩ w
   have e1:(⟨a'⟩:Array Value)++⟨args'⟩++⟨b'⟩=⟨a'++args'++b'⟩:=by simp
   exact⟨_,_,rfl,by simp only[invoke,e1,hc],hst⟩
 .cases e
 .cases e
theorem loop_of{ρ:Nms}{h:H}{w:World}(hr:HR ρ h w){l l':Nat}{st:LoopState}{j:Option Code}{f:FuncId}{t:T Value}{n:Nat}{ps:Array Tmp}{as b:Code}{d:Nat}(hb:h.get l=some (.loop st j f t n ps as b d))(hB:BR ρ l l'):∃k tm d',ρ l=.at_ l' k∧w.heap[l']?=some (.loop {state:=st,pending:=j,fn:=f,tmps:=tm,params:=ps,assign:=as,body:=b,defers:=d'})∧TR ρ n t tm∧BR ρ d d':=by
 obtain⟨x,k,o',h1,h2,tm,d',h3,h4,h5⟩:=hr.ob l _ hb
 obtain rfl:=hB.at_ h1
 exact⟨k,tm,d',h1,by rw[h2,h3],h4,h5⟩
theorem loop_put{ρ:Nms}{h:H}{w:World}(hr:HR ρ h w){l l':Nat}{st st':LoopState}{j j':Option Code}{f:FuncId}{t:T Value}{n:Nat}{ps:Array Tmp}{as b:Code}{d:Nat}(hb:h.get l=some (.loop st j f t n ps as b d))(hB:BR ρ l l')(ht:l<top):∃r:Loop,w.heap[l']?=some (.loop r)∧r.state=st∧r.pending=j∧r.fn=f∧r.params=ps∧r.assign=as∧r.body=b∧TR ρ n t r.tmps∧Stp ρ h w ρ (h.put l (.loop st' j' f t n ps as b d)) (w.putObj l' (.loop {r with state:=st',pending:=j'}))∧HR ρ (h.put l (.loop st' j' f t n ps as b d)) (w.putObj l' (.loop {r with state:=st',pending:=j'})):=by
 obtain⟨k,tm,d',h1,h2,h3,h4⟩:=loop_of hr hb hB
 have hlt:=(Array.getElem?_eq_some_iff.1 h2).1
 obtain⟨s1,s2⟩:=put_ok (o:=.loop st' j' f t n ps as b d) hb h1 ht (w:=w) (w':=w.putObj l' (.loop {state:=st',pending:=j',fn:=f,tmps:=tm,params:=ps,assign:=as,body:=b,defers:=d'}))
  (by simp) (World.putObj_heap_same hlt) (fun y hy=>World.putObj_heap_other hy) hr ⟨tm,d',rfl,h3,h4⟩
 exact⟨_,h2,rfl,rfl,rfl,rfl,rfl,rfl,h3,s1,s2⟩
theorem put_next{h:H}{b:Nat}{o:Ob}:(h.put b o).next=h.next:=rfl
theorem ranged_next(hI:IvOK P inv){s:St}{f:Operand}{l:Nat}{marks:List Nat}{h:H}{x:Ex×St}(e:rangedO inv s f l marks h=some x):h.next≤x.2.h.next:=by
 unfold rangedO at e
 repeat' split at e
 all_goals first
  |(cases e;done)
  |(cases e;have h1:=(hI _ _ _ _ _ ‹inv _ _ h=_›).1;exact h1)
theorem ranged_ok(hI:IvOK P inv){s:St}{f:Operand}{l:Nat}{marks:List Nat}{h:H}{x:Ex×St}(e:rangedO inv s f l marks h=some x){ρ:Nms}{fn:FuncId}{n:Nat}{rd:Option Nat}{b:Frame}{a:Act}{ps:Array Tmp}{as bd:Code}{l':Nat}{mark:List Deferred}{k:List Item}{cs:List Frame}{w w1:World}(hen:(Instr.enterLoop b.fn a.tmps ps as bd b.roundOf).run P w=.ok (l',mark) w1)(hl:BR ρ l l')(hs:Sits ρ fn n rd ⟨s.t,h,marks⟩ b {a with defers:=mark++a.defers})(hr:HR ρ h w1)(hu:Unb ρ h.next x.2.h.next):∃ρ' a' w',Gets P (lone (b.atR a (.code (.rangeFunc f ps as bd)::k)) cs w) b a' k cs w' x.1∧Stp ρ h w1 ρ' x.2.h w'∧HR ρ' x.2.h w'∧Sits ρ' fn n rd x.2 b a':=by
 unfold rangedO at e
 split at e
 .cases e
 .rename_i v hv
  split at e
  .rename_i g args hcl
   split at e
   .cases e
   .rename_i u h1 ei
    split at e
    .rename_i st j f' t' n' ps' as' b' d' hg ht
     split at e
     .cases e
     .rename_i hst
      split at e
      .rename_i ex hj
       cases e
       rw[Nat.blt_eq] at ht
       have hE:=env_of hs.tmps
       obtain⟨d,as1,q1,q2,q3⟩:=func_ok hI hcl (hE _ _ hv) (.cons (.yield hl) .nil) ei hr hu
       obtain⟨ρ1,u',w2,p1,p2,p3,p4⟩:=q3 (b.atR {a with defers:=mark++a.defers} (.inRangeFunc l'::k)) cs
       have hl1:BR ρ1 l l':=hl.mono p2.le
       obtain⟨r,r1,r2,r3,_,_,_,_,_,r4,r5⟩:=loop_put (st':=.exhausted) (j':=j) p3 hg hl1 ht
       have hend:=run_endLoop (P:=P) r1 (by rw[r2];exact hst)
       have he:(Instr.endLoop l').run P w2=.ok j (w2.putObj l' (.loop {r with state:=.exhausted,pending:=j})):=by rw[hend,r3]
       have hres:(resolve a.eval (rangeCall f l') 0).run P w1=.ok d w1:=by
        unfold resolve
        simp only[List.map_toArray,List.map_cons,List.map_nil]
        exact q1
       have henter:=stepR_rangeFunc (P:=P) (b:=b) (a:=a) (k:=k) (cs:=cs) (w:=w) hen hres q2
       rw[finish_atR_inRangeFunc] at p1
       have hback:Steps P (lone (b.atR a (.code (.rangeFunc f ps as bd)::k)) cs w) (lone (b.atR {a with defers:=mark++a.defers} ((j.map Item.code).toList++k)) cs (w2.putObj l' (.loop {r with state:=.exhausted,pending:=j}))):=
        .head henter (p1.trans (.one (stepR_endRangeFunc he)))
       refine⟨ρ1,{a with defers:=mark++a.defers},_,jump_gets hj hback,p2.trans r4,r5,hs.fn_,hs.kind,hs.rd_.mono p2.le,hs.tmps.mono p2.le,hs.marks.mono p2.le⟩
      .cases e
    .cases e
  .cases e
theorem enter_runs(hI:IvOK P inv){fn:FuncId}{n:Nat}{rd:Option Nat}{f:Operand}{ps:Array Tmp}{as bd:Code}{s:St}{x:Ex×St}(e:enterO inv fn n rd f ps as bd s=some x):Runs P fn n rd (.rangeFunc f ps as bd) s x:=by
 unfold enterO at e
 split at e
 .
  split at e
  .rename_i r h1 e1
   split at e
   .rename_i l h2 e2
    have n1:=new_next e1
    have n2:=new_next e2
    have n3:=ranged_next hI e
    refine⟨by omega,fun ρ b a k cs w hs hr hu=>?_⟩
    obtain⟨p1,p2,p3,p4⟩:=H.get_new e1
    obtain⟨r1,r2,r3,r4⟩:=H.get_new e2
    have hur:=hu r (by omega) (by omega)
    obtain⟨s1,s2⟩:=new_ok e1 hur (w:=w) (w':=w.alloc (.deferred (some []))) rfl hr 0 rfl
    have hul:upd ρ r (.at_ w.heap.size 0) l=.unborn:=by
     rw[upd_other _ _ (by omega)];exact hu l (by omega) (by omega)
    have hro:b.roundOf=none:=by
     have:=hs.rd_
     cases hb:b.roundOf with
     |none=>rfl
     |some l0=>rw[hb] at this;exact this.elim
    have hle2:=le_new hul (.at_ (w.alloc (.deferred (some []))).heap.size 0)
    have hBr:BR (upd (upd ρ r (.at_ w.heap.size 0)) l (.at_ (w.alloc (.deferred (some []))).heap.size 0)) r w.heap.size:=BR.mono hle2 (by unfold BR;rw[upd_same])
    obtain⟨t1,t2⟩:=new_ok e2 hul (w:=w.alloc (.deferred (some []))) (w':=(w.alloc (.deferred (some []))).alloc (.loop {state:=.ready,pending:=none,fn:=b.fn,tmps:=a.tmps,params:=ps,assign:=as,body:=bd,defers:=w.heap.size})) rfl s2 0
     ⟨a.tmps,w.heap.size,by rw[hs.fn_],hs.tmps.mono (s1.le.trans hle2),hBr⟩
    have hss:=s1.trans t1
    have hen:=run_enterLoop_outer (P:=P) (w:=w) b.fn a.tmps ps as bd
    rw[←hro] at hen
    have hsize:(w.alloc (.deferred (some []))).heap.size=w.heap.size+1:=by simp
    obtain⟨ρ',a',w',g1,g2,g3,g4⟩:=ranged_ok hI e (k:=k) (cs:=cs) (fn:=fn) (n:=n) (rd:=none) hen (by unfold BR;rw[upd_same];exact hsize.symm)
     ⟨hs.fn_,hs.kind,hs.rd_.mono hss.le,hs.tmps.mono hss.le,⟨⟨_,rfl,hBr⟩,hs.marks.mono hss.le⟩⟩ t2 ((hu.sub (by omega) (Nat.le_refl _)).step hss (Nat.le_refl _))
    exact⟨ρ',a',w',g1,hss.trans g2,g3,g4⟩
   .cases e
  .cases e
 .
  rename_i l0
  split at e
  .rename_i st0 j0 f0 t0 n0 ps0 as0 b0 d0 hg0
   split at e
   .rename_i l h2 e2
    have n2:=new_next e2
    have n3:=ranged_next hI e
    refine⟨by omega,fun ρ b a k cs w hs hr hu=>?_⟩
    obtain⟨r1,r2,r3,r4⟩:=H.get_new e2
    have hul:=hu l (by omega) (by omega)
    obtain⟨l0',hro,hB0⟩:∃l0',b.roundOf=some l0'∧BR ρ l0 l0':=by
     have:=hs.rd_
     cases hb:b.roundOf with
     |none=>rw[hb] at this;exact this.elim
     |some l1=>rw[hb] at this;exact⟨l1,rfl,this⟩
    obtain⟨kk,tm,d',q1,q2,q3,q4⟩:=loop_of hr hg0 hB0
    have hle:=le_new hul (.at_ w.heap.size 0)
    obtain⟨t1,t2⟩:=new_ok e2 hul (w:=w) (w':=w.alloc (.loop {state:=.ready,pending:=none,fn:=b.fn,tmps:=a.tmps,params:=ps,assign:=as,body:=bd,defers:=d'})) rfl hr 0
     ⟨a.tmps,d',by rw[hs.fn_],hs.tmps.mono hle,q4.mono hle⟩
    have hen:=run_enterLoop_inner (P:=P) (w:=w) q2 b.fn a.tmps ps as bd
    rw[←hro] at hen
    obtain⟨ρ',a',w',g1,g2,g3,g4⟩:=ranged_ok hI e (k:=k) (cs:=cs) (fn:=fn) (n:=n) (rd:=some l0) hen (by unfold BR;rw[upd_same])
     ⟨hs.fn_,hs.kind,hs.rd_.mono t1.le,hs.tmps.mono t1.le,by simpa using hs.marks.mono t1.le⟩ t2 ((hu.sub (by omega) (Nat.le_refl _)).step t1 (Nat.le_refl _))
    exact⟨ρ',a',w',g1,t1.trans g2,g3,g4⟩
   .cases e
  .cases e
theorem stepR_scope{b:Frame}{a:Act}{k:List Item}{cs:List Frame}{w:World}{c:Code}:step P (lone (b.atR a (.code (.scope c)::k)) cs w)=.next (lone (b.atR a (.code c::.inScope c::k)) cs w):=
 step_lone_go (by simp[stepG,stepG.exec,Frame.atR])
theorem stepR_inScope{b:Frame}{a:Act}{k:List Item}{cs:List Frame}{w:World}{c:Code}:step P (lone (b.atR a (.inScope c::k)) cs w)=.next (lone (b.atR a k) cs w):=
 step_lone_go (by simp[stepG,stepG.exec,Frame.atR])
theorem code_ok(hI:IvOK P inv)(hD:DrawnOK P inv){fn:FuncId}{n:Nat}{rd:Option Nat}:∀(c:Code) (s:St) (x:Ex×St),codeO P inv fn n rd c s=some x→Runs P fn n rd c s x
 |.skip,s,x,e=>by cases e;exact .one fun b a k cs w=>.one stepR_skip
 |.label l,s,x,e=>by cases e;exact .one fun b a k cs w=>.one stepR_label
 |.region id ops draw,s,x,e=>region_runs hI hD e
 |.seq c d,s,x,e=>by
  simp only[codeO,thenO] at e
  split at e
  .rename_i s1 e1
   obtain⟨n1,h1⟩:=Runs.seq (code_ok hI hD c s _ e1) (code_ok hI hD d s1 x e)
   refine⟨n1,fun ρ b a k cs w hs hr hu=>?_⟩
   obtain⟨ρ1,a1,w1,q1,q2,q3,q4⟩:=h1 ρ b a k cs w hs hr hu
   exact⟨ρ1,a1,w1,q1.of_steps (.one stepR_seq),q2,q3,q4⟩
  .rename_i y hy
   obtain⟨n1,h1⟩:=code_ok hI hD c s x e
   refine⟨n1,fun ρ b a k cs w hs hr hu=>?_⟩
   obtain⟨ρ1,a1,w1,q1,q2,q3,q4⟩:=h1 ρ b a (.code d::k) cs w hs hr hu
   refine⟨ρ1,a1,w1,Gets.of_steps (.one stepR_seq) (q1.pass rfl fun e0=>?_),q2,q3,q4⟩
   obtain⟨ex,sx⟩:=x
   simp only at e0
   subst e0
   exact hy sx e
 |.cond c d1 d2,s,x,e=>by
  simp only[codeO] at e
  split at e
  .rename_i hc
   obtain⟨n1,h1⟩:=code_ok hI hD d1 s x e
   refine⟨n1,fun ρ b a k cs w hs hr hu=>?_⟩
   obtain⟨ρ1,a1,w1,q1,q2⟩:=h1 ρ b a k cs w hs hr hu
   exact⟨ρ1,a1,w1,q1.of_steps (.one (stepR_cond (t:=true) (env_of hs.tmps _ _ hc).inv_bool)),q2⟩
  .rename_i hc
   obtain⟨n1,h1⟩:=code_ok hI hD d2 s x e
   refine⟨n1,fun ρ b a k cs w hs hr hu=>?_⟩
   obtain⟨ρ1,a1,w1,q1,q2⟩:=h1 ρ b a k cs w hs hr hu
   exact⟨ρ1,a1,w1,q1.of_steps (.one (stepR_cond (t:=false) (env_of hs.tmps _ _ hc).inv_bool)),q2⟩
  .cases e
 |.block id c,s,x,e=>by
  simp only[codeO] at e
  cases hy:codeO P inv fn n rd c s with
  |none=>rw[hy] at e;simp[blockO] at e
  |some y=>rw[hy] at e;exact block_runs (code_ok hI hD c s y hy) e
 |.loop c,s,x,e=>by
  simp only[codeO] at e
  obtain⟨n1,h1⟩:=loop_runs (code_ok hI hD c) _ s x e
  refine⟨n1,fun ρ b a k cs w hs hr hu=>?_⟩
  obtain⟨ρ1,a1,w1,q1,q2⟩:=h1 ρ b a k cs w hs hr hu
  exact⟨ρ1,a1,w1,q1.of_steps (.one stepR_loop),q2⟩
 |.rangeFunc f ps as bd,s,x,e=>enter_runs hI (by simpa only[codeO] using e)
 |.exit id,s,x,e=>by
  cases e
  exact .one fun b a k cs w=>⟨fun k' hk=>.one (stepR_exit hk),fun hk=>⟨k,hk,.refl _ _⟩⟩
 |.ret,s,x,e=>by cases e;exact .one fun b a k cs w=>⟨k,.refl _ _⟩
 |.scope c,s,x,e=>by
  simp only[codeO] at e
  obtain⟨n1,h1⟩:=code_ok hI hD c s x e
  refine⟨n1,fun ρ b a k cs w hs hr hu=>?_⟩
  obtain⟨ρ1,a1,w1,q1,q2⟩:=h1 ρ b a (.inScope c::k) cs w hs hr hu
  refine⟨ρ1,a1,w1,Gets.of_steps (.one stepR_scope) ?_,q2⟩
  obtain⟨ex,sx⟩:=x
  have hxx:∀id,exitTo id (.inScope c::k)=exitTo id k:=fun id=>by simp[exitTo]
  cases ex with
  |normal=>exact Steps.trans q1 (.one stepR_inScope)
  |exit id=>
   simp only[Gets] at q1⊢
   rw[hxx] at q1
   exact q1
  |ret=>exact q1
 |.goto l,s,x,e=>by simp[codeO] at e
 |.refuse y,s,x,e=>by simp[codeO] at e
theorem argsT_get:∀{vs:List Value} {i:Nat} {t t':T Value},argsT i vs t=some t'→∀j,t'.get j=if i≤j∧j<i+vs.length then vs[j-i]? else t.get j
 |[],i,t,t',e,j=>by
  cases e
  rw[if_neg (by intro h;simp at h;omega)]
 |v::vs,i,t,t',e,j=>by
  simp only[argsT] at e
  split at e
  .rename_i hb
   rw[Nat.blt_eq] at hb
   rw[argsT_get e j]
   by_cases h1:i+1≤j∧j<i+1+vs.length
   .rw[if_pos h1,if_pos (by simp;omega)]
    have:j-i=(j-(i+1))+1:=by omega
    rw[this];rfl
   .rw[if_neg h1,T.get_put _ _ _ _ _ (top_deep hb)]
    by_cases h2:j=i
    .subst h2;rw[if_pos rfl,if_pos (by simp)];simp
    .rw[if_neg h2,if_neg (by simp;omega)]
  .cases e
theorem args_tr{ρ:Nms}{args args':List Value}{t:T Value}{m:Nat}(e:argsT 0 args .nil=some t)(ha:VRs ρ args args'):TR ρ (args.length+m) t ((⟨args'⟩:Array Value)++Array.replicate m undef):=by
 refine⟨by simp[ha.length],fun i v hv=>?_⟩
 rw[argsT_get e] at hv
 split at hv
 .rename_i hi
  simp only[Nat.sub_zero] at hv
  obtain⟨v',h1,h2⟩:=ha.get hv
  refine⟨v',?_,h2⟩
  have hlt:i<args'.length:=(List.getElem?_eq_some_iff.1 h1).1
  rw[Array.getElem?_append_left (by simpa using hlt)]
  simpa using h1
 .simp[T.get] at hv
def resOne(tm:Array Value):ResultVar→Sem Value
 |.tmp t=>pure (tm.getD t undef)
 |.cell a t=>do loadVar t (← asAddr (tm.getD a undef))
theorem results_eq(fn:Func)(tm:Array Value):results fn tm=(do let vs ← fn.results.mapM (resOne tm);pure (if h:vs.size=1 then vs[0] else .tuple vs)):=rfl
theorem resultsL_ok{ρ:Nms}{t:T Value}{n:Nat}{tm:Array Value}{h:H}{w:World}(ht:TR ρ n t tm)(hr:HR ρ h w):∀{rs:List ResultVar} {vs:List Value},resultsL P t h rs=some vs→∃vs',(rs.mapM (resOne tm)).run P w=.ok vs' w∧VRs ρ vs vs'
 |[],vs,e=>by cases e;exact⟨[],by simp,.nil⟩
 |.tmp d::rs,vs,e=>by
  simp only[resultsL] at e
  split at e
  .rename_i v us hv hus
   cases e
   obtain⟨vs',q1,q2⟩:=resultsL_ok ht hr hus
   obtain⟨v',p1,p2⟩:=ht.get d v hv
   have h1:(resOne tm (.tmp d)).run P w=.ok v' w:=by simp[resOne,Array.getD_eq_getD_getElem?,p1]
   exact⟨v'::vs',by simp[List.mapM_cons,q1,h1],.cons p2 q2⟩
  .cases e
 |.cell d ty::rs,vs,e=>by
  simp only[resultsL] at e
  split at e
  .rename_i a hv
   split at e
   .rename_i v us hl hus
    cases e
    obtain⟨vs',q1,q2⟩:=resultsL_ok ht hr hus
    obtain⟨v',p1,p2⟩:=ht.get d _ hv
    obtain⟨a',rfl,ha⟩:=p2.inv_ptr
    obtain⟨u',l1,l2⟩:=loadV_ok hr ha hl
    have h1:(resOne tm (.cell d ty)).run P w=.ok u' w:=by simp[resOne,Array.getD_eq_getD_getElem?,p1,asAddr,l1]
    exact⟨u'::vs',by simp[List.mapM_cons,q1,h1],.cons l2 q2⟩
   .cases e
  .cases e
theorem result_ok{ρ:Nms}{t:T Value}{n:Nat}{tm:Array Value}{h:H}{w:World}{fn:Func}{v:Value}(ht:TR ρ n t tm)(hr:HR ρ h w)(e:resultV P t h fn.results.toList=some v):∃v',(results fn tm).run P w=.ok v' w∧VR ρ v v':=by
 unfold resultV at e
 have key:∀{vs':List Value},(fn.results.toList.mapM (resOne tm)).run P w=.ok vs' w →
   (results fn tm).run P w=.ok (if h:(⟨vs'⟩:Array Value).size=1 then(⟨vs'⟩:Array Value)[0] else .tuple ⟨vs'⟩) w:=fun{vs'} h=>by
  rw[results_eq,Array.mapM_eq_mapM_toList]
  simp[h]
 split at e
 .rename_i u hu
  cases e
  obtain⟨vs',q1,q2⟩:=resultsL_ok ht hr hu
  cases q2 with
  |cons h1 h2=>
   cases h2
   exact⟨_,key q1,by simpa using h1⟩
 .rename_i us hne hu
  cases e
  obtain⟨vs',q1,q2⟩:=resultsL_ok ht hr hu
  refine⟨_,key q1,?_⟩
  have hl:=q2.length
  have:¬(⟨vs'⟩:Array Value).size=1:=fun h1=>by
   have h2:us.length=1:=by rw[←hl];simpa using h1
   match us,h2,hne with
   |[u],_,hne=>exact hne u rfl
  rw[dif_neg this]
  exact .tuple q2
 .cases e
theorem marks_ok:∀{ms:List Nat} {h h':H},marksOff ms h=some h'→h'.next=h.next∧∀{ρ:Nms} {fr:Frame} {ds:List Deferred} {cs:List Frame} {w:World},fr.mode≠.run→fr.defers=ds→MR ρ ms ds→HR ρ h w→∃w',Steps P (lone fr cs w) (lone {fr with defers:=[]} cs w')∧Stp ρ h w ρ h' w'∧HR ρ h' w'
 |[],h,h',e=>by
  cases e
  refine⟨rfl,fun{ρ fr ds cs w} hm hd hmr hr=>?_⟩
  cases ds with
  |nil=>
   have:({fr with defers:=[]}:Frame)=fr:=by rw[←hd]
   exact⟨w,by rw[this];exact .refl _ _,.refl ρ h w w rfl,hr⟩
  |cons d ds=>exact hmr.elim
 |r::ms,h,h',e=>by
  simp only[marksOff] at e
  split at e
  .rename_i hg ht
   rw[Nat.blt_eq] at ht
   obtain⟨n1,h1⟩:=marks_ok e
   refine⟨n1,fun{ρ fr ds cs w} hm hd hmr hr=>?_⟩
   cases ds with
   |nil=>exact hmr.elim
   |cons d ds=>
    obtain⟨⟨r',rfl,hB⟩,hms⟩:=hmr
    obtain⟨x,k,o',q1,q2,q3⟩:=hr.ob r _ hg
    obtain rfl:=hB.at_ q1
    have q3:o'=.deferred (some []):=q3
    subst q3
    have hlt:=(Array.getElem?_eq_some_iff.1 q2).1
    have hst:=step_collected (P:=P) (cs:=cs) hm hd rfl (run_takeDeferred q2)
    obtain⟨s1,s2⟩:=put_ok (o:=.calls false) hg q1 ht (w:=w) (w':=w.putObj r' (.deferred none)) (by simp) (World.putObj_heap_same hlt) (fun y hy=>World.putObj_heap_other hy) hr rfl
    obtain⟨w',p1,p2,p3⟩:=h1 (fr:={fr with defers:=[]++ds}) (cs:=cs) hm rfl (by simpa using hms) s2
    exact⟨w',.head hst p1,s1.trans p2,p3⟩
  .cases e
theorem leave_next{fn:Func}{x:Ex×St}{v:Value}{h':H}(e:leaveO P fn x=some (v,h')):h'.next=x.2.h.next:=by
 unfold leaveO at e
 split at e
 .cases e
 .split at e
  .rename_i h e1
   split at e
   .cases e
    exact(marks_ok (P:=P) e1).1
   .cases e
  .cases e
theorem func_runs(hI:IvOK P inv)(hD:DrawnOK P inv){f:FuncId}{args:List Value}{h h':H}{v:Value}(e:funcO P inv f args h=some (v,h')):h.next≤h'.next∧∃fn c,P.funcs[f]?=some fn∧fn.body=some c∧(fn.name == "runtime.NumGoroutine")=false ∧
  ∀{ρ:Nms} {args':List Value} {w:World},VRs ρ args args'→HR ρ h w→Unb ρ h.next h'.next→∀cs,∃ρ' v' w' fr,Steps P (lone (Frame.enter P f ⟨args'⟩ .normal) cs w) (lone fr cs w')∧fr.fn=f∧fr.leaving P w' (.returned v') ∧
   Stp ρ h w ρ' h' w'∧HR ρ' h' w'∧VR ρ' v v':=by
 unfold funcO at e
 split at e
 .rename_i fn hf
  split at e
  .rename_i c t hb ht hname
   split at e
   .rename_i x hx
    obtain⟨n1,h1⟩:=code_ok hI hD c _ x hx
    have n2:=leave_next e
    simp only at n1
    refine⟨by omega,fn,c,hf,hb,hname,fun{ρ args' w} ha hr hu cs=>?_⟩
    let b:Frame:={ (default:Frame) with fn:=f,kind:=.normal}
    have hl:=ha.length
    have henter:Frame.enter P f ⟨args'⟩ .normal=b.atR {tmps:=(⟨args'⟩:Array Value)++Array.replicate (fn.ntmps-args.length) undef,defers:=[]} [.code c]:=by
     simp[Frame.enter,Frame.atR,hf,hb,b,hl]
     rfl
    rw[henter]
    obtain⟨ρ1,a1,w1,q1,q2,q3,q4⟩:=h1 ρ b {tmps:=(⟨args'⟩:Array Value)++Array.replicate (fn.ntmps-args.length) undef,defers:=[]} [] cs w ⟨rfl,rfl,trivial,args_tr ht ha,trivial⟩ hr (by rw[←n2];exact hu)
    have hret:(∃id,x.1=.exit id) ∨ ∃k0,Steps P (lone (b.atR {tmps:=(⟨args'⟩:Array Value)++Array.replicate (fn.ntmps-args.length) undef,defers:=[]} [.code c]) cs w) (lone {b.atR a1 k0 with mode:=.returning} cs w1):=by
     obtain⟨ex,sx⟩:=x
     cases ex with
     |normal=>exact .inr ⟨[],Steps.trans q1 (.one (stepR_end rfl))⟩
     |ret=>obtain⟨k0,q1⟩:=q1;exact .inr ⟨_,q1.trans (.one (stepR_ret rfl))⟩
     |exit id=>exact .inl ⟨id,rfl⟩
    unfold leaveO at e
    split at e
    .cases e
    .rename_i hne
     obtain⟨k0,hst⟩:=hret.resolve_left fun⟨id,h0⟩=>hne id h0
     split at e
     .rename_i h2 hm
      split at e
      .rename_i u hu2
       cases e
       obtain⟨w2,p1,p2,p3⟩:=(marks_ok (P:=P) hm).2 (fr:={b.atR a1 k0 with mode:=.returning}) (cs:=cs) (fun h0=>by cases h0) rfl q4.marks q3
       obtain⟨v',r1,r2⟩:=result_ok q4.tmps p3 hu2
       exact⟨ρ1,v',w2,_,hst.trans p1,rfl,⟨rfl,rfl,rfl,fn,hf,r1⟩,q2.trans p2,p3,r2⟩
      .cases e
     .cases e
   .cases e
  .cases e
 .cases e
theorem params_ok{ρ:Nms}{n:Nat}:∀{ps:List Tmp} {args args':List Value} {t t':T Value} {tm:Array Value},paramsT ps args n t=some t'→VRs ρ args args'→TR ρ n t tm→TR ρ n t' ((ps.zip args').foldl (fun tmps x=>tmps.setIfInBounds x.1 x.2) tm)∧args'.length=ps.length
 |[],[],_,t,t',tm,e,.nil,ht=>by cases e;exact⟨ht,rfl⟩
 |d::ds,v::vs,_,t,t',tm,e,.cons (v':=v') hv hs,ht=>by
  simp only[paramsT] at e
  split at e
  .rename_i t1 e1
   have h1:TR ρ n t1 (tm.setIfInBounds d v'):=TR.put (a:={tmps:=tm,defers:=[]}) ht e1 hv
   obtain⟨p1,p2⟩:=params_ok e hs h1
   exact⟨p1,by simp[p2]⟩
  .cases e
 |[],_::_,_,t,t',tm,e,_,ht=>by simp[paramsT] at e
 |_::_,[],_,t,t',tm,e,_,ht=>by simp[paramsT] at e
theorem round_runs(hI:IvOK P inv)(hD:DrawnOK P inv){l:Nat}{args:List Value}{h h':H}{v:Value}(e:roundO P inv l args h=some (v,h')):h.next≤h'.next∧∀ρ w l' args',BR ρ l l'→VRs ρ args args'→HR ρ h w→Unb ρ h.next h'.next→∃fr0,Entered P w args' fr0 (.yield l')∧∀c cs,∃ρ' v' w',Steps P (lone fr0 (c::cs) w) (lone (c.finish v') cs w')∧Stp ρ h w ρ' h' w'∧HR ρ' h' w'∧VR ρ' v v':=by
 unfold roundO at e
 split at e
 .rename_i st j f t n ps as bd d hg
  split at e
  .rename_i t' hp
   split at e
   .rename_i x hx
    obtain⟨n1,h1⟩:=code_ok hI hD as _ x hx
    simp only at n1
    unfold bodyO at e
    split at e
    .rename_i j1 f1 t1 n1' ps1 as1 b1 d1 hx1 hg1 ht1 hm1
     split at e
     .rename_i y hy
      obtain⟨n2,h2⟩:=code_ok hI hD bd _ y hy
      simp only[put_next] at n2
      unfold endO at e
      split at e
      .rename_i f2 t2 n2' ps2 as2 b2 d2 hg2 ht2 hm2
       rw[Nat.blt_eq] at ht1 ht2
       have hv:∃st3 j3,h'=y.2.h.put l (.loop st3 j3 f2 t2 n2' ps2 as2 b2 d2):=by
        split at e<;>(cases e;exact⟨_,_,rfl⟩)
       have hnx:h'.next=y.2.h.next:=by obtain⟨_,_,rfl⟩:=hv;rfl
       refine⟨by omega,fun ρ w l' args' hB ha hr hu=>?_⟩
       obtain⟨k0,tm,d',q1,q2,q3,q4⟩:=loop_of hr hg hB
       obtain⟨p1,p2⟩:=params_ok hp ha q3
       let b:Frame:={ (default:Frame) with fn:=f,kind:=.normal,roundOf:=some l'}
       have hzip:(ps.zip ⟨args'⟩).foldl (fun tmps (t,a)=>tmps.setIfInBounds t a) tm=(ps.toList.zip args').foldl (fun tmps x=>tmps.setIfInBounds x.1 x.2) tm:=by
        rw[←Array.foldl_toList]
        simp
       refine⟨_,⟨_,q2,by simpa using p2,rfl⟩,fun c cs=>?_⟩
       have hfr:Frame.round l' f ((ps.zip ⟨args'⟩).foldl (fun tmps (t,a)=>tmps.setIfInBounds t a) tm) as bd .normal=b.atR {tmps:=(ps.toList.zip args').foldl (fun tmps x=>tmps.setIfInBounds x.1 x.2) tm,defers:=[]} [.code as,.beginRound,.code bd]:=by
        rw[←hzip]
        simp[Frame.round,Frame.atR,b]
       show ∃ρ' v' w',Steps P (lone (Frame.round l' f ((ps.zip ⟨args'⟩).foldl (fun tmps (t,a)=>tmps.setIfInBounds t a) tm) as bd .normal) (c::cs) w) _∧_
       rw[hfr]
       obtain⟨ρ1,a1,w1,s1,s2,s3,s4⟩:=h1 ρ b {tmps:=(ps.toList.zip args').foldl (fun tmps x=>tmps.setIfInBounds x.1 x.2) tm,defers:=[]} [.beginRound,.code bd] (c::cs) w ⟨rfl,rfl,hB,p1,trivial⟩ hr (hu.sub (Nat.le_refl _) (by omega))
       rw[hx1] at s1
       have hB1:=hB.mono s2.le
       obtain⟨r,r1,r2,r3,r4,r5,r6,r7,r8,r9,r10⟩:=loop_put (st':=.busy) (j':=j1) s3 hg1 hB1 ht1
       have hbeg:=run_beginRound (P:=P) r1 r2
       have hrr:({r with state:=.busy}:Loop)={r with state:=.busy,pending:=j1}:=by rw[←r3]
       rw[hrr] at hbeg
       have hstep:Steps P (lone (b.atR a1 [.beginRound,.code bd]) (c::cs) w1) _:=.one (stepR_beginRound (P:=P) (b:=b) rfl hbeg)
       obtain⟨ρ2,a2,w2,u1,u2,u3,u4⟩:=h2 ρ1 b a1 [] (c::cs) _ ⟨s4.fn_,s4.kind,s4.rd_,s4.tmps,by have:=s4.marks;rw[hm1] at this;exact this⟩ r10 ((hu.sub n1 (by rw[hnx];exact Nat.le_refl _)).step s2 (Nat.le_refl _))
       have hB2:=hB1.mono u2.le
       have hall:=(s2.trans r9).trans u2
       have fin:∀(j:Option Code) (m:Machine),Steps P (lone (b.atR a1 [.code bd]) (c::cs) (w1.putObj l' (.loop {r with state:=.busy,pending:=j1}))) m→h'=y.2.h.put l (.loop (if j.isNone then .ready else .done) j f2 t2 n2' ps2 as2 b2 d2)→v=.bool j.isNone →
         (∀v' w',(Instr.endRound l' j).run P w2=.ok v' w'→step P m=.next (lone (c.finish v') cs w')) →
         ∃ρ' v' w',Steps P (lone (b.atR {tmps:=(ps.toList.zip args').foldl (fun tmps x=>tmps.setIfInBounds x.1 x.2) tm,defers:=[]} [.code as,.beginRound,.code bd]) (c::cs) w) (lone (c.finish v') cs w')∧Stp ρ h w ρ' h' w'∧HR ρ' h' w'∧VR ρ' v v':=fun j m hm hh hvv hlast=>by
        subst hh hvv
        obtain⟨r',z1,z2,z3,z4,z5,z6,z7,z8,z9,z10⟩:=loop_put (st':=if j.isNone then .ready else .done) (j':=j) u3 hg2 hB2 ht2
        have hend:=run_endRound (P:=P) j z1
        exact⟨ρ2,.bool j.isNone,_,Steps.trans s1 (hstep.trans (hm.trans (.one (hlast _ _ hend)))),hall.trans z9,z10,.same rfl⟩
       split at e
       .rename_i hy1
        cases e
        rw[hy1] at u1
        exact fin none _ u1 rfl rfl fun v' w' hh=>stepR_round_end (b:=b) rfl rfl hh
       .rename_i hy1
        cases e
        rw[hy1] at u1
        obtain⟨k1,u1⟩:=u1
        exact fin (some .ret) _ u1 rfl rfl fun v' w' hh=>stepR_round_ret (b:=b) rfl rfl hh
       .rename_i id hy1
        cases e
        rw[hy1] at u1
        obtain⟨k1,u2',u3'⟩:=u1.2 rfl
        exact fin (some (.exit id)) _ u3' rfl rfl fun v' w' hh=>stepR_round_exit (b:=b) rfl rfl u2' hh
      .cases e
     .cases e
    .cases e
   .cases e
  .cases e
 .cases e
end
section
variable{P:Program}
def FuncDoes(P:Program)(f:FuncId)(args:List Value)(h:H)(v:Value)(h':H):Prop:=h.next≤h'.next∧∃fn c,P.funcs[f]?=some fn∧fn.body=some c∧(fn.name == "runtime.NumGoroutine")=false ∧
  ∀{ρ:Nms} {args':List Value} {w:World},VRs ρ args args'→HR ρ h w→Unb ρ h.next h'.next→∀cs,∃ρ' v' w' fr,Steps P (lone (Frame.enter P f ⟨args'⟩ .normal) cs w) (lone fr cs w')∧fr.fn=f∧fr.leaving P w' (.returned v') ∧
   Stp ρ h w ρ' h' w'∧HR ρ' h' w'∧VR ρ' v v'
def HookOK(P:Program)(hk:FuncId→List Value→H→Option (Option (Value×H))):Prop:=∀f args h v h',hk f args h=some (some (v,h'))→FuncDoes P f args h v h'
theorem inv_ok{hk:FuncId→List Value→H→Option (Option (Value×H))}(hH:HookOK P hk)(hD:∀inv,IvOK P inv→DrawnOK P inv):∀d,IvOK P (invO P hk d)
 |0=>fun g args h v h' e=>by simp[invO] at e
 |d+1=>fun g args h v h' e=>by
  have ih:=inv_ok hH hD d
  cases g with
  |func f=>
   have hF:FuncDoes P f args h v h':=by
    simp only[invO] at e
    split at e
    .rename_i r hr
     subst e
     exact hH _ _ _ _ _ hr
    .exact func_runs ih (hD _ ih) e
   obtain⟨n1,fn,c,q1,q2,q3,q4⟩:=hF
   refine⟨n1,fun ρ w g' args' hg ha hr hu=>?_⟩
   cases g' with
   |func f'=>
    obtain rfl:f=f':=hg
    refine⟨_,⟨fn,c,q1,q2,q3,rfl⟩,fun c cs=>?_⟩
    obtain⟨ρ',v',w',fr,s1,s2,s3,s4,s5,s6⟩:=q4 ha hr hu (c::cs)
    exact⟨ρ',v',w',s1.trans (.one (step_leave_returned s3)),s4,s5,s6⟩
   |yield l=>exact hg.elim
   |method _=>exact hg.elim
   |methodOf _ _=>exact hg.elim
   |via _ _ _ _=>exact hg.elim
  |yield l=>
   simp only[invO] at e
   obtain⟨n1,q⟩:=round_runs ih (hD _ ih) e
   refine⟨n1,fun ρ w g' args' hg ha hr hu=>?_⟩
   cases g' with
   |yield l'=>exact q ρ w l' args' hg ha hr hu
   |func f'=>exact hg.elim
   |method _=>exact hg.elim
   |methodOf _ _=>exact hg.elim
   |via _ _ _ _=>exact hg.elim
  |method _=>simp[invO] at e
  |methodOf _ _=>simp[invO] at e
  |via _ _ _ _=>simp[invO] at e
theorem invO_func{hk:FuncId→List Value→H→Option (Option (Value×H))}(hH:HookOK P hk)(hD:∀inv,IvOK P inv→DrawnOK P inv){d:Nat}{f:FuncId}{args:List Value}{h h':H}{v:Value}(e:invO P hk d (.func f) args h=some (v,h')):FuncDoes P f args h v h':=by
 cases d with
 |zero=>simp[invO] at e
 |succ d=>
  simp only[invO] at e
  split at e
  .rename_i r hr
   subst e
   exact hH _ _ _ _ _ hr
  .have ih:=inv_ok hH hD d
   exact func_runs ih (hD _ ih) e
theorem FuncDoes.calls{f:FuncId}{args args':List Value}{h h':H}{v:Value}{ρ:Nms}{w:World}(hF:FuncDoes P f args h v h')(ha:VRs ρ args args')(hr:HR ρ h w)(hu:Unb ρ h.next h'.next):Calls P f ⟨args'⟩ w fun e w'=>∃v' ρ',e=.returned v'∧Stp ρ h w ρ' h' w'∧HR ρ' h' w'∧VR ρ' v v':=fun cs=>by
 obtain⟨_,fn,c,_,_,_,q⟩:=hF
 obtain⟨ρ',v',w',fr,s1,s2,s3,s4⟩:=q ha hr hu cs
 exact⟨.returned v',w',fr,⟨v',ρ',rfl,s4⟩,s1,s2,s3⟩
theorem FuncDoes.of_calls{f:FuncId}{args:List Value}{h h':H}{v:Value}{fn:Func}{c:Code}(hn:h.next≤h'.next)(hf:P.funcs[f]?=some fn)(hb:fn.body=some c)(hname:(fn.name == "runtime.NumGoroutine")=false)
  (hc:∀{ρ:Nms} {args':List Value} {w:World},VRs ρ args args'→HR ρ h w→Unb ρ h.next h'.next→Calls P f ⟨args'⟩ w fun e w'=>∃v' ρ',e=.returned v'∧Stp ρ h w ρ' h' w'∧HR ρ' h' w'∧VR ρ' v v'):FuncDoes P f args h v h':=
 ⟨hn,fn,c,hf,hb,hname,fun{ρ args' w} ha hr hu cs=>by
  obtain⟨e,w',fr,⟨v',ρ',rfl,s⟩,s1,s2,s3⟩:=hc ha hr hu cs
  exact⟨ρ',v',w',fr,s1,s2,s3,s⟩⟩
end
end Go.Ev
