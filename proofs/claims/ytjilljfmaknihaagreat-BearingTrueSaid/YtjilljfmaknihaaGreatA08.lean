import Derived.RangeFuncNested
import Derived.Test.YtjilljfmaknihaaGreatA06
set_option linter.all false
namespace Go
def pg:=@Go.Frame.finish_atR
def kL:=@Go.stepR_seq
def yU:=@Go.Steps.trans
def Gv:=@Go.stepR_region
def DU:=@Go.stepR_cond
def PV:=@Go.stepR_region_end
def Gu:=@Go.stepR_block
def PU:=@Go.stepR_inLoop
def PT:=@Go.stepR_loop
def PW:=@Go.stepGR_op
def UW:=@Go.stepR_skip
def UX:=@Go.stepR_exit
end Go
namespace Go.Ev
abbrev Iv:=Fn->List ae->H->aB (ae×H)
structure Ck where
 go:T ae->bn->Bool
 skip:bn->Bool
section
variable(P:aH)(inv:Iv)
def Pm(t:T ae)(h:H)(f:fH)(xs:List fH):aB (ae×H):=
 match di t f with
 |some v=>match opts (di t) xs with
  |some args=>match callee v args with
   |some (g,args)=>inv g args h
   |none=>none
  |none=>none
 |none=>none
def EG(t:T ae)(h:H)(o:Op):aB (ae×H):=
 match xZ o with
 |true=>match sZ P (di t) o with
  |some v=>some (v,h)
  |none=>none
 |false=>match o with
  |.call c=>match c.callee with
   |.value f=>Pm inv t h f c.args.toList
   |_=>zY P (di t) o h
  |_=>zY P (di t) o h
def uU(ck:Ck)(n:Nat)(all:List bn):List bn->T ae->H->aB (T ae×H)
|[],t,h=>some (t,h)
|o::l,t,h=>match rY all t o with
 |some true=>match ck.go t o with
  |true=>match EG P inv t h o.op with
   |some (v,h')=>match nV t n o.dst v with
    |some t'=>uU ck n all l t' h'
    |none=>none
   |none=>none
  |false=>none
 |some false=>match ck.skip o with
  |true=>match nV t n o.dst (.tuple #[]) with
   |some t'=>uU ck n all l t' h
   |none=>none
  |false=>none
 |none=>none
def only(t:T ae):List Nat->T ae
|[]=>.nil
|d::l=>match Nat.blt d top with
 |true=>T.put T.deep (only t l) d (t.get d)
 |false=>only t l
def ady(r:Rec):Bool:=r.h1.log.all fun b=>match Nat.blt b top with
|true=>match r.h0.get b with
 |some _=>true
 |none=>match Nat.ble r.h0.next b with
  |true=>Nat.blt b r.h1.next
  |false=>false
|false=>false
def Iy(ops:List bn):Bool:=ops.any fun o=>o.after.toList.any fun e=>!Region.binds .any e
def vZ(ck:Ck)(n:Nat)(all:List bn)(t0:T Ob):List bn->Nat->T ae->Nat->List Rec->aB (T ae×Nat×List Rec)
|[],_,t,nx,rs=>some (t,nx,rs)
|o::l,i,t,nx,rs=>match rY all (only t (lu all o)) o with
 |some true=>match ck.go (only t (lu all o)) o with
  |true=>match xZ o.op with
   |true=>match sZ P (di (only t (lu all o))) o.op with
    |some v=>match nV t n o.dst v with
     |some t'=>vZ ck n all t0 l (i+1) t' nx rs
     |none=>none
    |none=>none
   |false=>match EG P inv (only t (lu all o)) ⟨narrow (only t (lu all o)) o.op (behind all i t0 rs),nx,[]⟩ o.op with
    |some (v,h1)=>match nV t n o.dst v with
     |some t'=>vZ ck n all t0 l (i+1) t' h1.next (⟨i,⟨narrow (only t (lu all o)) o.op (behind all i t0 rs),nx,[]⟩,h1⟩::rs)
     |none=>none
    |none=>none
  |false=>none
 |some false=>match ck.skip o with
  |true=>match nV t n o.dst (.tuple #[]) with
   |some t'=>vZ ck n all t0 l (i+1) t' nx rs
   |none=>none
  |false=>none
 |none=>none
def FV(ck:Ck)(n:Nat)(ops:List bn)(t:T ae)(h:H):aB (T ae×H):=
 match O0 ops,(match P.follows .mixedOrders with|true=>true|false=>!Iy ops) with
 |true,true=>match vZ P inv ck n ops h.t ops 0 t h.next [] with
  |some (t',nx,rs)=>match DD ops rs,rs.all ady with
   |true,true=>some (t',⟨layAll h.t rs,nx,jQ rs++h.log⟩)
   |_,_=>none
  |none=>none
 |_,_=>none
def ZZ(f:St->aB (Ex×St)):Nat->St->aB (Ex×St)
|0,_=>none
|k+1,s=>match f s with
 |some (.normal,s')=>ZZ f k s'
 |some x=>some x
 |none=>none
def Zr(x:aB (Ex×St))(f:St->aB (Ex×St)):aB (Ex×St):=
 match x with
 |some (.normal,s)=>f s
 |x=>x
def FZ(id:Nat)(x:aB (Ex×St)):aB (Ex×St):=
 match x with
 |some (.exit i,s)=>match Nat.beq i id with
  |true=>some (.normal,s)
  |false=>some (.exit i,s)
 |x=>x
def D5(s:St)(f:fH)(l:Nat)(marks:List Nat)(h:H):aB (Ex×St):=
 match di s.t f with
 |none=>none
 |some v=>match callee v [.func (.yield l) #[] #[]] with
  |some (.func g,args)=>match inv (.func g) args h with
   |none=>none
   |some (_,h1)=>match h1.get l,Nat.blt l top with
    |some (.loop st j f' t' n' ps' as' b' d'),true=>match st with
     |.busy=>none
     |_=>match TW j with
      |some e=>some (e,⟨s.t,h1.put l (.loop .exhausted j f' t' n' ps' as' b' d'),marks⟩)
      |none=>none
    |_,_=>none
  |_=>none
def abv:Ck:=⟨fun _ _=>true,fun _=>true⟩
def Tc(n:Nat)(ops:List bn)(draw:Bool)(s:St):aB (Ex×St):=
 match draw with
 |false=>match uU P inv abv n ops ops s.t s.h with
  |some (t,h)=>some (.normal,⟨t,h,s.marks⟩)
  |none=>none
 |true=>match FV P inv abv n ops s.t s.h with
  |some (t,h)=>some (.normal,⟨t,h,s.marks⟩)
  |none=>none
def YN(fn:aI)(n:Nat)(rd:aB Nat)(f:fH)(ps:Array Tmp)(as b:Code)(s:St):aB (Ex×St):=
 match rd with
 |none=>match s.h.new (.calls true) with
  |some (r,h)=>match h.new (.loop .ready none fn s.t n ps as b r) with
   |some (l,h)=>D5 inv s f l (r::s.marks) h
   |none=>none
  |none=>none
 |some l=>match s.h.get l with
  |some (.loop _ _ _ _ _ _ _ _ d)=>match s.h.new (.loop .ready none fn s.t n ps as b d) with
   |some (l,h)=>D5 inv s f l s.marks h
   |none=>none
  |_=>none
def jd(fn:aI)(n:Nat)(rd:aB Nat):Code->St->aB (Ex×St)
|.skip,s|.label _,s=>some (.normal,s)
|.region _ ops draw,s=>Tc P inv n ops.toList draw s
|.seq a b,s=>Zr (jd fn n rd a s) (jd fn n rd b)
|.cond c a b,s=>match di s.t c with
 |some (.bool true)=>jd fn n rd a s
 |some (.bool false)=>jd fn n rd b s
 |_=>none
|.block id b,s=>FZ id (jd fn n rd b s)
|.loop b,s=>ZZ (jd fn n rd b) 100000 s
|.scope b,s=>jd fn n rd b s
|.rangeFunc f ps as b,s=>YN inv fn n rd f ps as b s
|.exit id,s=>some (.exit id,s)
|.ret,s=>some (.ret,s)
|_,_=>none
def rD(fn:Func)(x:Ex×St):aB (ae×H):=
 match x.1 with
 |.exit _=>none
 |_=>match zQ x.2.marks x.2.h with
  |some h=>match Az P x.2.t h fn.results.toList with
   |some v=>some (v,h)
   |none=>none
  |none=>none
def aer(l:Nat)(x:Ex×St):aB (ae×H):=
 match x.2.h.get l,Nat.blt l top,x.2.marks with
 |some (.loop _ _ f2 t2 n2 ps2 as2 b2 d2),true,[]=>match x.1 with
  |.normal=>some (.bool true,x.2.h.put l (.loop .ready none f2 t2 n2 ps2 as2 b2 d2))
  |.ret=>some (.bool false,x.2.h.put l (.loop .done (some .ret) f2 t2 n2 ps2 as2 b2 d2))
  |.exit id=>some (.bool false,x.2.h.put l (.loop .done (some (.exit id)) f2 t2 n2 ps2 as2 b2 d2))
 |_,_,_=>none
def ahH(f:aI)(n:Nat)(l:Nat)(b:Code)(x:Ex×St):aB (ae×H):=
 match x.1,x.2.h.get l,Nat.blt l top,x.2.marks with
 |.normal,some (.loop .ready j f1 t1 n1 ps1 as1 b1 d1),true,[]=>
  match jd P inv f n (some l) b ⟨x.2.t,x.2.h.put l (.loop .busy j f1 t1 n1 ps1 as1 b1 d1),[]⟩ with
  |some x=>aer l x
  |none=>none
 |_,_,_,_=>none
def ad4(f:aI)(args:List ae)(h:H):aB (ae×H):=
 match P.funcs[f]? with
 |some fn=>match fn.body,yA 0 args .nil,fn.name == "runtime.NumGoroutine" with
  |some c,some t,false=>match jd P inv f (args.length+(fn.ntmps-args.length)) none c ⟨t,h,[]⟩ with
   |some x=>rD P fn x
   |none=>none
  |_,_,_=>none
 |none=>none
def uh(l:Nat)(args:List ae)(h:H):aB (ae×H):=
 match h.get l with
 |some (.loop _ _ f t n ps as b _)=>match AQ ps.toList args n t with
  |some t'=>match jd P inv f n (some l) as ⟨t',h,[]⟩ with
   |some x=>ahH P inv f n l b x
   |none=>none
  |none=>none
 |_=>none
end
def zV(P:aH)(hk:aI->List ae->H->aB (aB (ae×H))):Nat->Iv
|0,_,_,_=>none
|d+1,.func f,args,h=>match hk f args h with
 |some r=>r
 |none=>ad4 P (zV P hk d) f args h
|d+1,.yield l,args,h=>uh P (zV P hk d) l args h
|_+1,_,_,_=>none
section
variable{P:aH}{ρ:jV}
def lK(ρ:jV)(a b:Nat):Prop:=∀x,a<=x->x<b->ρ x=.dC
theorem lK.sub{a b c d}(h:lK ρ a b)(h1:a<=c)(h2:d<=b):lK ρ c d:=fun x hx hy=>h x (bM h1 hx) (bT hy h2)
theorem lK.step{ρ' h h' w w' a b}(hu:lK ρ a b)(s:Stp ρ h w ρ' h' w')(ha:h'.next<=a):lK ρ' a b:=fun x hx hy=>s.born x (hu x hx hy) (.inr (bM ha hx))
theorem TR.put{n t t'}{a:Act}(h:TR ρ n t a.tmps){d v v'}(e:nV t n d v=some t')(j:VR ρ v v'):TR ρ n t' (a.put d v').tmps:=by
 cases d with
 |none=>simp[nV] at e;cases e;exact h
 |some d=>
 simp[nV] at e;split at e
 .rename_i h1 h2;cases e;rw[ik] at h1 h2;refine⟨by simp[Act.put,h.size],fun i u hi=>?_⟩;rw[T.get_put _ _ _ _ _ (df h2)] at hi
  split at hi
  .rename_i b;cases hi;subst b;refine⟨v',?_,j⟩;simp[Act.put,h.size,h1]
  rename_i b;have⟨c,g,f⟩:=h.get i u hi;refine⟨c,?_,f⟩;simp[Act.put];rw[jf (uJ b)];exact g
 cases e
theorem put_defers(a:Act)(d)(v):(a.put d v).defers=a.defers:=by cases d<;>rfl
theorem fA{n t}{a:Act}(h:TR ρ n t a.tmps):Env ρ (di t) a.eval:=fun x v e=>by
 cases x with
 |tmp d=>
 have⟨v',h1,h2⟩:=h.get d v e;show VR ρ v (a.tmps.getD d undef);rw[pq,h1];exact h2
 |const c=>
 simp[di] at e;split at e
 .rename_i hf;cases e;exact dX hf
 cases e
 |global g=>cases e
 |func f=>cases e;exact .func .nil .nil
theorem Eg{α:Type}(l:Array α)(k):nth l.toList k=l[k]?:=by rw[Ef];simp
theorem gJ{n t}{a:Act}{ops o b}(h:TR ρ n t a.tmps)(e:rY ops.toList t o=some b):Region.wanted o (yielded ops a.tmps)=b:=by
 unfold rY at e;unfold Region.wanted;split at e
 .rename_i hg;rw[hg];cases e;rfl
 rename_i j want hg;rw[hg];simp only;rw[Eg] at e;split at e
 .rename_i oj hj
  split at e
  .rename_i d hd
   split at e
   .rename_i c hc;cases e;have⟨v',h1,h2⟩:=h.get d _ hc;rw[h2.gZ] at h1;have:yielded ops a.tmps j=some c:=by unfold yielded;rw[hj];simp[hd,h1]
    rw[this];cases c<;>cases want<;>rfl
   .rename_i c hc;cases e;have⟨v',h1,h2⟩:=h.get d _ hc;obtain⟨cs',rfl,_⟩:=h2.Ri;have:yielded ops a.tmps j=none:=by unfold yielded;rw[hj];simp[hd,h1]
    rw[this];rfl
   cases e
  rename_i hd;cases e;have:yielded ops a.tmps j=none:=by unfold yielded;rw[hj];simp[hd]
  rw[this];rfl
 rename_i hj;cases e;have:yielded ops a.tmps j=none:=by unfold yielded;rw[hj];simp
 rw[this];rfl
theorem wQ{h h':H}{o b}(e:h.new o=some (b,h')):h.next<=h'.next:=by have⟨_,_,h3,_⟩:=H.mG e;omega
theorem abz{h h':H}{o k v}(e:made (h.new o) k=.one (v,h')):h.next<=h'.next:=by have⟨b,a,_⟩:=qw e;exact wQ a
theorem CB{h h' a b}(e:stores h a b=some h'):h'.next=h.next:=by
 unfold stores at e;split at e
 .split at e
  .cases e;rfl
  cases e
 .split at e
  .cases e;rfl
  cases e
 cases e
theorem Vr{h h' t a v}(e:I8 P h t a v=some h'):h'.next=h.next:=by
 unfold I8 at e;split at e
 .split at e
  .exact CB e
  cases e
 cases e
theorem Xf{h h' t s x v}(e:Bl P h t s x=some (v,h')):h.next<=h'.next:=by
 unfold Bl at e;repeat' split at e
 all_goals first
  |(cases e;done)
  |(cases e;exact aA _)
  |(cases e;exact wQ ‹_›)
  |(cases e;refine bM ?_ (wQ ‹_›);exact aA _)
  |(cases e;exact Sr (CB ‹_›).symm)
theorem Ux{h h' t s x v}(e:IG P h t s x=some (v,h')):h.next<=h'.next:=by
 unfold IG at e;split at e
 .rename_i a;cases e;exact Xf a
 unfold ZA at e;repeat' split at e
 all_goals first
  |(cases e;done)
  |(cases e;refine bM ?_ (wQ ‹_›);exact aA _)
theorem ab6{h h' t d x v}(e:copyV P h t d x=some (v,h')):h.next<=h'.next:=by
 unfold copyV at e;split at e
 .rename_i el f b dc c a xc ht
  split at e
  .rename_i i hi;obtain⟨n,e⟩:∃n,copyN h i f c n=some (v,h'):=by
    cases hb:Nat.ble a b
    .refine⟨b,?_⟩;rw[hb] at e;exact e
    refine⟨a,?_⟩;rw[hb] at e;exact e
   unfold copyN at e;split at e
   .split at e
    .cases e;exact aA _
    split at e
    .cases e;exact Sr (CB ‹_›).symm
    cases e
   cases e
  cases e
 cases e
theorem TF{α:Type}{r}{x:α}(e:R.ofOption r=.one x):r=some x:=by cases r<;>cases e;rfl
theorem OG{ρE o h h' v}(e:zY P ρE o h=some (v,h')):h.next<=h'.next:=by
 cases o<;>simp[zY] at e<;>try (first|(cases e;done)|(simp[iP] at e;cases e;done))
 all_goals
  replace e:=jJ e;simp[iP] at e;repeat' split at e
 all_goals first
  |(cases e;done)
  |exact abz e
  |(cases e;exact aA _)
  |(have⟨e1,_⟩:=O1 e;exact Sr (Vr e1).symm)
  |(cases e;exact Ux ‹_›)
  |exact ab6 (TF e)
  |(rename_i hq _ _ _ _ _ _ _ _ _ _ _ _ _ _ _;exact absurd ‹Op.makeMap _ _=Op.next _ _› (by simp))
  |exact absurd ‹Op.makeMap _ _=Op.next _ _› (by simp)
  |exact absurd ‹Op.makeMap _ _=Op.call _› (by simp)
end
section
variable{P:aH}{inv:Iv}
def GR(ρ:jV):Fn->Fn->Prop
|.func f,.func f'=>f=f'
|.yield l,.yield l'=>BR ρ l l'
|_,_=>False
def aaJ(P:aH)(w:ay)(args:List ae)(fr:aC):Fn->Prop
|.func f=>∃fn c,P.funcs[f]?=some fn/\fn.body=some c/\(fn.name == "runtime.NumGoroutine")=false/\fr=Frame.enter P f ⟨args⟩ .normal
|.yield l=>∃r,w.heap[l]?=some (.loop r)/\args.length=r.params.size/\fr=Frame.round l r.fn ((r.params.zip ⟨args⟩).foldl (fun tmps (t,a)=>tmps.setIfInBounds t a) r.tmps) r.assign r.body .normal
|_=>False
def kS(P:aH)(inv:Iv):Prop:=∀g args h v h',inv g args h=some (v,h')->h.next<=h'.next/\∀ρ w g' args',GR ρ g g'->iL ρ args args'->HR ρ h w->lK ρ h.next h'.next->∃fr0,aaJ P w args' fr0 g'/\∀c cs,∃ρ' v' w',Steps P (lone fr0 (c::cs) w) (lone (c.finish v') cs w')/\Stp ρ h w ρ' h' w'/\HR ρ' h' w'/\VR ρ' v v'
def qK(inv:Iv):Prop:=∀g args h v h',inv g args h=some (v,h')->h.next<=h'.next
theorem kS.next(h:kS P inv):qK inv:=fun g args h0 v h' e=>(h g args h0 v h' e).1
def afg(P:aH)(N:Next)(fr:aC):Prop:=(∃f args,N=.enter f args/\fr=Frame.enter P f args .normal)\/(∃l f tmps as b,N=.round l f tmps as b/\fr=Frame.round l f tmps as b .normal)
theorem mF{f fn c}(hf:P.funcs[f]?=some fn)(a:(fn.name == "runtime.NumGoroutine")=false)(hb:fn.body=some c)(args)(w) :
  (callFunc f args).run P w=.ok (.enter f args) w:=by
 have b:fn.body.isNone=false:=by rw[hb];rfl
 unfold callFunc;simp only[yC,run_program,Result.andThen,hf,a,tY,BF,b,Sem.run_pure]
theorem acw(hI:kS P inv){ρ v v' u args i g as h h' w}(e:callee v args=some (g,as))(q:VR ρ v v')(ha:iL ρ args i)(s:inv g as h=some (u,h'))
  (hr:HR ρ h w) (hu:lK ρ h.next h'.next):∃j N,(do let d <- Deferred.ofValue v' ⟨i⟩;invoke d.target d.args:Sem Next).run P w=.ok N w/\afg P N j/\∀c cs,∃ρ' p w',Steps P (lone j (c::cs) w) (lone (c.finish p) cs w')/\Stp ρ h w ρ' h' w'/\HR ρ' h' w'/\VR ρ' u p:=by
 unfold callee at e;split at e
 .rename_i f a b;cases e;cases q with
  |same h=>cases h
  |func h1 h2=>
   rename_i a' b';have⟨j,⟨fn,c,n,m,k,t⟩,hst⟩:=(hI _ _ _ _ _ s).2 ρ w (.func f) _ rfl ((h1.append ha).append h2) hr hu;refine⟨j,.enter f _,?_,.inl ⟨_,_,rfl,t⟩,hst⟩;have hc:=mF n k m ⟨a'++i++b'⟩ w;have o:(⟨a'⟩:Array ae)++⟨i⟩++⟨b'⟩=⟨a'++i++b'⟩:=by simp
   simp only[Deferred.ofValue,yC,Sem.run_pure,Result.andThen,invoke,o,hc]
 .rename_i l a b;cases e;cases q with
  |same h=>cases h
  |yield h1=>
   rename_i l';have⟨j,⟨r,n,m,k⟩,hst⟩:=(hI _ _ _ _ _ s).2 ρ w (.yield l') _ h1 (iL.append .nil ha) hr hu;refine⟨j,_,?_,.inr ⟨_,_,_,_,_,rfl,k⟩,hst⟩;have hy:=run_yield (P:=P) (args:=⟨[]++i⟩) n (by simpa using m);have o:(#[]:Array ae)++⟨i⟩=⟨[]++i⟩:=by simp
   simp only[Deferred.ofValue,yC,Sem.run_pure,Result.andThen,invoke,o,hy]
 cases e
theorem step_next{b:aC}{a k cs w w' ops i rest o N d}(ho:ops[i]?=some o)(hw:Region.wanted o (yielded ops a.tmps)=true)(hd:∀c,o.op≠.defer c)(hr:(execOp a.eval o).run P w=.ok N w')(e:afg P N d):step P (lone (b.atR a (.inRegion ops (i::rest)::k)) cs w)=.next (lone d (b.atR a (.inRegion ops (i::rest)::k)::cs) w'):=by
 refine J6 ?_;rw[PW ho hw,Oper.semAt_eq _ _ _ hd];rcases e with⟨f,args,rfl,rfl⟩|⟨l,f,tmps,as,bd,rfl,rfl⟩
 .simp[stepG.apply,Sem.runT_eq,hr,Frame.atR]
 simp[stepG.apply,Sem.runT_eq,hr,Frame.atR]
theorem mO{b:aC}{a k cs w w' ops i rest o N v}(ho:ops[i]?=some o)(hw:Region.wanted o (yielded ops a.tmps)=true)(hd:∀c,o.op≠.defer c)(hr:(execOp a.eval o).run P w=.ok N w')(d:Gives N v):step P (lone (b.atR a (.inRegion ops (i::rest)::k)) cs w)=.next (lone (b.atR (a.put o.dst v) (.inRegion ops rest::k)) cs w'):=by
 have hf:=pg b a ops i rest k v;rw[ho] at hf;simp[Option.bind_some] at hf;rw[<-hf];refine J6 ?_;rw[PW ho hw,Oper.semAt_eq _ _ _ hd];rcases d with rfl|⟨rfl,rfl⟩
 .simp[stepG.apply,Sem.runT_eq,hr]
 simp[stepG.apply,Sem.runT_eq,hr]
def aff(P:aH)(ρ:jV)(h:H)(ops:Array bn)(o:bn)(i:Nat)(b:aC)(a:Act)(k:List ig)(cs:List aC)(w:ay)(v:ae)(h':H):Prop:=∀rest,∃ρ' v' w',Steps P (lone (b.atR a (.inRegion ops (i::rest)::k)) cs w) (lone (b.atR (a.put o.dst v') (.inRegion ops rest::k)) cs w')/\Stp ρ h w ρ' h' w'/\HR ρ' h' w'/\VR ρ' v v'
theorem jo{a o v}(e:sZ P a o=some v):∀c,o≠.defer c:=by rintro c rfl;simp[sZ] at e
theorem wW{a o h x}(e:zY P a o h=some x):∀c,o≠.defer c:=by rintro c rfl;simp[zY,iP] at e
theorem wO(hI:qK inv){t h h' o v}(e:EG P inv t h o=some (v,h')):h.next<=h'.next:=by
 unfold EG at e;split at e
 .split at e
  .cases e;exact aA _
  cases e
 split at e
 .split at e
  .unfold Pm at e
   split at e
   .split at e
    .split at e
     .exact hI _ _ _ _ _ e
     cases e
    cases e
   cases e
  exact OG e
 exact OG e
theorem X6(hI:kS P inv){ρ n t h h' o v}(e:EG P inv t h o.op=some (v,h')){ops i b a k cs w}(ho:ops[i]?=some o)(hw:Region.wanted o (yielded ops a.tmps)=true)(ht:TR ρ n t a.tmps)(hr:HR ρ h w)(hu:lK ρ h.next h'.next):aff P ρ h ops o i b a k cs w v h':=by
 have p:=fA ht;have heap:zY P _ o.op h=some (v,h')->aff P ρ h ops o i b a k cs w v h':=fun e rest=>by obtain⟨N,v',w',ρ',j,l,q,y,x⟩:=agz p hr e hu;exact⟨ρ',v',w',.one (mO ho hw (wW e) j l),q,y,x⟩
 unfold EG at e;split at e
 .split at e
  .rename_i u hp
   cases e;intro rest;obtain⟨v',j,l⟩:=pure_ok p hp w;exact⟨ρ,v',w,.one (mO ho hw (jo hp) j (.inl rfl)),.refl ρ h w w rfl,hr,l⟩
  cases e
 split at e
 .rename_i c m
  split at e
  .rename_i f hc
   unfold Pm at e;split at e
   .rename_i fv hf
    split at e
    .rename_i args hargs
     split at e
     .rename_i g as hcl
      intro rest;obtain⟨z,N,j,l,q⟩:=acw hI hcl (p _ _ hf) (p.opts hargs) e hr hu;have hrun:(execOp a.eval o).run P w=.ok N w:=by
       unfold execOp;rw[m];show(do let d <- resolve a.eval c o.type;invoke d.target d.args:Sem Next).run P w=_;have A:(⟨c.args.toList.map a.eval⟩:Array ae)=c.args.map a.eval:=by apply tV;simp
       rw[A] at j;unfold resolve;rw[hc];exact j
      have r:∀c',o.op≠.defer c':=fun c'=>by rw[m];simp
      obtain⟨ρ',s,w',s1,s2,s3,s4⟩:=q _ cs;refine⟨ρ',s,w',.head (step_next ho hw r hrun l) ?_,s2,s3,s4⟩;have hf:=pg b a ops i rest k s;rw[ho] at hf;simp[Option.bind_some] at hf;rw[<-hf];exact s1
     cases e
    cases e
   cases e
  exact heap e
 exact heap e
def ae8(P:aH)(ρ:jV)(n:Nat)(h:H)(w:ay)(m:Machine)(b:aC)(ds:List xu)(k:List ig)(cs:List aC)(t':T ae)(h':H):Prop:=∃ρ' a' w',Steps P m (lone (b.atR a' k) cs w')/\a'.defers=ds/\Stp ρ h w ρ' h' w'/\HR ρ' h' w'/\TR ρ' n t' a'.tmps
theorem gX(hI:qK inv){ck:Ck}{n:Nat}{all:List bn}:∀{l:List bn} {t t':T ae} {h h':H},uU P inv ck n all l t h=some (t',h')->h.next<=h'.next
|[],t,t',h,h',e=>by cases e;exact aA _
|o::l,t,t',h,h',e=>by
 simp only[uU] at e;split at e
 .split at e
  .split at e
   .rename_i a
    split at e
    .exact bM (wO hI a) (gX hI e)
    cases e
   cases e
  cases e
 .split at e
  .split at e
   .exact gX hI e
   cases e
  cases e
 cases e
theorem Jk(hI:kS P inv){ck:Ck}{n:Nat}{ops:Array bn}{b:aC}{k:List ig}{cs:List aC}:∀{l:List bn} {i:Nat} {t t':T ae} {h h':H},l=ops.toList.drop i->uU P inv ck n ops.toList l t h=some (t',h')->∀{ρ:jV} {a:Act} {w:ay},TR ρ n t a.tmps->HR ρ h w->lK ρ h.next h'.next->ae8 P ρ n h w (lone (b.atR a (.inRegion ops (List.range' i l.length)::k)) cs w) b a.defers k cs t' h'
|[],i,t,t',h,h',hl,e,ρ,a,w,ht,hr,hu=>by cases e;exact⟨ρ,a,w,.one PV,rfl,.refl ρ h w w rfl,hr,ht⟩
|o::l,i,t,t',h,h',hl,e,ρ,a,w,ht,hr,hu=>by
 have ho:ops[i]?=some o:=by
  have:(ops.toList.drop i)[0]?=some o:=by rw[<-hl];rfl
  simpa using this
 have j:l=ops.toList.drop (i+1):=by rw[<-UY,<-hl];rfl
 have d:List.range' i (o::l).length=i::List.range' (i+1) l.length:=by simp[uw]
 rw[d];simp only[uU] at e;split at e
 .rename_i hw
  have c:=gJ ht hw;split at e;case h_2=>cases e
  split at e
  .rename_i v h1 z
   split at e
   .rename_i t1 x
    have B:=wO hI.next z;have A:=gX hI.next e;obtain⟨m,v',w1,s1,s2,s3,s4⟩:=X6 (b:=b) (k:=k) (cs:=cs) hI z ho c ht hr (hu.sub (aA _) A) (List.range' (i+1) l.length);have g:TR m n t1 (a.put o.dst v').tmps:=(ht.mono s2.le).put x s4;obtain⟨f,y,w2,u,s,r,q,p⟩:=Jk hI j e g s3 ((hu.sub B (aA _)).step s2 (aA _));exact⟨f,y,w2,s1.trans u,by rw[s,put_defers],s2.trans r,q,p⟩
   cases e
  cases e
 .rename_i hw
  have c:=gJ ht hw;split at e;case h_2=>cases e
  split at e
  .rename_i t1 x
   have g:TR ρ n t1 (a.put o.dst undef).tmps:=ht.put x lM;have hs:=stepR_op_skip (P:=P) (b:=b) (a:=a) (k:=k) (cs:=cs) (w:=w) (ops:=ops) (i:=i) (rest:=List.range' (i+1) l.length) (by rw[ho];simpa using c);rw[ho] at hs;obtain⟨f,y,w2,u,s,r,q,p⟩:=Jk hI j e g hr hu;exact⟨f,y,w2,.head hs u,by rw[s,put_defers],r,q,p⟩
  cases e
 cases e
def RdR(ρ:jV):aB Nat->aB Nat->Prop
|none,none=>True
|some l,some l'=>BR ρ l l'
|_,_=>False
theorem RdR.mono{ρ ρ'}(h:Le ρ ρ'):∀{l l'},RdR ρ l l'->RdR ρ' l l'
|none,none,_=>trivial
|some _,some _,e=>BR.mono h e
def MR(ρ:jV):List Nat->List xu->Prop
|[],[]=>True
|r::rs,d::ds=>(∃r',d={target:=.collected r',args:=#[]}/\BR ρ r r')/\MR ρ rs ds
|_,_=>False
theorem MR.mono{ρ ρ'}(h:Le ρ ρ'):∀{l ds},MR ρ l ds->MR ρ' l ds
|[],[],_=>trivial
|_::_,_::_,⟨⟨r',c,b⟩,a⟩=>⟨⟨r',c,b.mono h⟩,a.mono h⟩
structure Sits(ρ:jV)(fn:aI)(n:Nat)(rd:aB Nat)(s:St)(b:aC)(a:Act):Prop where
 L9:b.fn=fn
 kind:b.kind=.normal
 LW:RdR ρ rd b.roundOf
 tmps:TR ρ n s.t a.tmps
 marks:MR ρ s.marks a.defers
def Cc(P:aH)(m:Machine)(b:aC)(a:Act)(k:List ig)(cs:List aC)(w:ay):Ex->Prop
|.normal=>Steps P m (lone (b.atR a k) cs w)
|.exit id=>(∀k',exitTo id k=some k'->Steps P m (lone (b.atR a k') cs w))/\(exitTo id k=none->∃k0,exitTo id k0=none/\Steps P m (lone (b.atR a (.code (.exit id)::k0)) cs w))
|.ret=>∃k0,Steps P m (lone (b.atR a (.code .ret::k0)) cs w)
theorem Cc.of_steps{m d b a k cs w e}(h:Steps P m d)(g:Cc P d b a k cs w e):Cc P m b a k cs w e:=by
 cases e with
 |normal=>exact h.trans g
 |exit id=>exact⟨fun k' hk=>h.trans (g.1 k' hk),fun hk=>let ⟨c,i,f⟩:=g.2 hk;⟨c,i,h.trans f⟩⟩
 |ret=>have⟨c,q⟩:=g;exact⟨c,h.trans q⟩
theorem Cc.pass{m b a x k cs w e}(hx:x.plain=true)(he:e≠.normal)(g:Cc P m b a (x::k) cs w e):Cc P m b a k cs w e:=by
 have hxx:∀id,exitTo id (x::k)=exitTo id k:=fun id=>by cases x<;>simp_all [exitTo,Item.plain]
 cases e with
 |normal=>exact absurd rfl he
 |exit id=>
 simp[Cc] at g⊢;rw[hxx] at g;exact g
 |ret=>exact g
def yX(P:aH)(fn:aI)(n:Nat)(rd:aB Nat)(c:Code)(s:St)(x:Ex×St):Prop:=s.h.next<=x.2.h.next/\∀ρ b a k cs w,Sits ρ fn n rd s b a->HR ρ s.h w->lK ρ s.h.next x.2.h.next->∃ρ' a' w',Cc P (lone (b.atR a (.code c::k)) cs w) b a' k cs w' x.1/\Stp ρ s.h w ρ' x.2.h w'/\HR ρ' x.2.h w'/\Sits ρ' fn n rd x.2 b a'
def iR(P:aH)(inv:Iv):Prop:=∀(ck:Ck) (n:Nat) (ops:Array bn) (t t':T ae) (h h':H),FV P inv ck n ops.toList t h=some (t',h')->h.next<=h'.next/\∀{ρ:jV} {b:aC} {a:Act} {k:List ig} {cs:List aC} {w:ay} (x:Nat),b.kind=.normal->TR ρ n t a.tmps->HR ρ h w->lK ρ h.next h'.next->ae8 P ρ n h w (lone (b.atR a (.inRegion ops (Region.schedule (P.follows .mixedOrders) ops x)::k)) cs w) b a.defers k cs t' h'
theorem HR.heap{ρ h w w'}(hr:HR ρ h w)(e:w'.heap=w.heap):HR ρ h w':=⟨hr.fD.same e,fun b o hb=>by have⟨x,k,o',h1,h2,a⟩:=hr.ob b o hb;exact⟨x,k,o',h1,by rw[e];exact h2,a⟩,hr.inj⟩
theorem Stp.heap{ρ ρ' h h' w w0 w'}(s:Stp ρ h w0 ρ' h' w')(e:w0.heap=w.heap):Stp ρ h w ρ' h' w':=by have⟨s1,s2,s3,s4,l,s5,d,c,b,a⟩:=s;exact⟨s1,s2,s3,by rw[<-e];exact s4,l,s5,by rw[<-e];exact d,by rw[<-e];exact c,b,a⟩
theorem VE(hI:kS P inv)(hD:iR P inv){fn n id rd ops draw s x}(e:Tc P inv n ops.toList draw s=some x):yX P fn n rd (.region id ops draw) s x:=by
 unfold Tc at e;split at e
 .split at e
  .rename_i t h d
   cases e;refine⟨gX hI.next d,fun ρ b a k cs w hs hr hu=>?_⟩;obtain⟨ρ',a',w',l,j,c,g,f⟩:=Jk hI (i:=0) (by simp) d hs.tmps hr hu;refine⟨ρ',a',w',.head Gv ?_,c,g,hs.L9,hs.kind,hs.LW.mono c.le,f,by rw[j];exact hs.marks.mono c.le⟩;rw[yV];simpa using l
  cases e
 split at e
 .rename_i t h d
  cases e;obtain⟨m,hd⟩:=hD _ n ops s.t t s.h h d;refine⟨m,fun ρ b a k cs w hs hr hu=>?_⟩;obtain⟨ρ',a',w',l,j,c,g,f⟩:=hd (w:={w with drawn:=w.drawn+1}) _ hs.kind hs.tmps (hr.heap rfl) hu;exact⟨ρ',a',w',.head stepR_region_draw l,c.heap rfl,g,hs.L9,hs.kind,hs.LW.mono c.le,f,by rw[j];exact hs.marks.mono c.le⟩
 cases e
theorem yX.one{fn n rd c s e}(h:∀b a k cs w,Cc P (lone (b.atR a (.code c::k)) cs w) b a k cs w e):yX P fn n rd c s (e,s):=⟨aA _,fun ρ b a k cs w hs hr _=>⟨ρ,a,w,h b a k cs w,.refl ρ s.h w w rfl,hr,hs⟩⟩
theorem yX.seq{fn n rd c d s s1 x}(h1:yX P fn n rd c s (.normal,s1))(h2:yX P fn n rd d s1 x):s.h.next<=x.2.h.next/\∀ρ b a k cs w,Sits ρ fn n rd s b a->HR ρ s.h w->lK ρ s.h.next x.2.h.next->∃ρ' a' w',Cc P (lone (b.atR a (.code c::.code d::k)) cs w) b a' k cs w' x.1/\Stp ρ s.h w ρ' x.2.h w'/\HR ρ' x.2.h w'/\Sits ρ' fn n rd x.2 b a':=by obtain⟨j,h1⟩:=h1;obtain⟨i,h2⟩:=h2;refine⟨bM j i,fun ρ b a k cs w hs hr hu=>?_⟩;obtain⟨f,v,w1,o,g,m,l⟩:=h1 ρ b a _ cs w hs hr (hu.sub (aA _) i);obtain⟨e,u,w2,t,r,q,p⟩:=h2 f b v k cs w1 l m ((hu.sub j (aA _)).step g (aA _));exact⟨e,u,w2,t.of_steps o,g.trans r,q,p⟩
theorem Q9{fn:aI}{n:Nat}{rd:aB Nat}{c:Code}{f:St->aB (Ex×St)}(hf:∀s x,f s=some x->yX P fn n rd c s x):∀(m:Nat) (s:St) (x:Ex×St),ZZ f m s=some x->s.h.next<=x.2.h.next/\∀ρ b a k cs w,Sits ρ fn n rd s b a->HR ρ s.h w->lK ρ s.h.next x.2.h.next->∃ρ' a' w',Cc P (lone (b.atR a (.code c::.inLoop c::k)) cs w) b a' k cs w' x.1/\Stp ρ s.h w ρ' x.2.h w'/\HR ρ' x.2.h w'/\Sits ρ' fn n rd x.2 b a'
|0,s,x,e=>by cases e
|m+1,s,x,e=>by
 simp only[ZZ] at e;split at e
 .rename_i s1 q;have⟨g,h1⟩:=hf _ _ q;have⟨t,h2⟩:=Q9 hf m s1 x e;simp only at g h1;refine⟨bM g t,fun ρ b a k cs w hs hr hu=>?_⟩;have⟨d,r,w1,p,i,o,l⟩:=h1 ρ b a (.inLoop c::k) cs w hs hr (hu.sub (aA _) t);have⟨j,z,w2,v,C,B,A⟩:=h2 d b r k cs w1 l o ((hu.sub g (aA _)).step i (aA _));exact⟨j,z,w2,v.of_steps (p.trans (.one PU)),i.trans C,B,A⟩
 .rename_i y hy q;cases e;have⟨g,h1⟩:=hf _ _ q;refine⟨g,fun ρ b a k cs w hs hr hu=>?_⟩;have⟨d,r,w1,p,i,o,l⟩:=h1 ρ b a (.inLoop c::k) cs w hs hr hu;exact⟨d,r,w1,p.pass rfl (fun u=>by have⟨e',s'⟩:=x;simp only at u;subst u;exact hy s' rfl),i,o,l⟩
 cases e
theorem YX{fn n id rd c s y x}(h:yX P fn n rd c s y)(e:FZ id (some y)=some x):yX P fn n rd (.block id c) s x:=by
 have⟨r,h1⟩:=h;have⟨g,sy⟩:=y;have hx:x.2=sy/\(x.1=g\/(g=.exit id/\x.1=.normal))/\(g=.exit id->x.1=.normal):=by
  unfold FZ at e;split at e
  .rename_i i s' t;obtain⟨rfl,rfl⟩:=Prod.mk.inj (aN t)
   split at e
   .rename_i hb;cases e;obtain rfl:=bG hb;exact⟨rfl,.inr ⟨rfl,rfl⟩,fun _=>rfl⟩
   rename_i hb;cases e;exact⟨rfl,.inl rfl,fun m=>by cases m;simp at hb⟩
  rename_i hy;cases e;exact⟨rfl,.inl rfl,fun m=>by subst m;exact absurd rfl (hy id sy)⟩
 have⟨ex,sx⟩:=x;obtain⟨rfl,d,l⟩:=hx;refine⟨r,fun ρ b a k cs w hs hr hu=>?_⟩;have⟨j,u,w1,f,q,p,o⟩:=h1 ρ b a (.inBlock id::k) cs w hs hr hu;refine⟨j,u,w1,?_,q,p,o⟩;refine Cc.of_steps (.one Gu) ?_;cases g with
 |normal=>
 rcases d with rfl|⟨h0,_⟩
 .exact f.trans (.one stepR_inBlock)
 cases h0
 |ret=>
 rcases d with rfl|⟨h0,_⟩
 .exact f
 cases h0
 |exit i=>
 by_cases hi:i=id
 .subst hi;have:ex=.normal:=l rfl;subst this;exact f.1 k (by simp[exitTo])
 rcases d with rfl|⟨h0,_⟩
 .have hx:exitTo i (.inBlock id::k)=exitTo i k:=by
   have:(id==i)=false:=by simp;exact fun h=>hi h.symm
   simp[exitTo,this]
  simp[Cc] at f⊢;rw[hx] at f;exact f
 cases h0;exact absurd rfl hi
theorem abI{m b a k cs w j e}(hj:TW j=some e)(h:Steps P m (lone (b.atR a ((j.map Item.code).toList++k)) cs w)):Cc P m b a k cs w e:=by
 unfold TW at hj;split at hj
 .cases hj;exact h
 .cases hj;exact⟨k,h⟩
 .rename_i id;cases hj;exact⟨fun k' hk=>h.trans (.one (UX hk)),fun hk=>⟨k,hk,h⟩⟩
 cases hj
theorem agC(hI:kS P inv){ρ v v' u args i g as h h' w}(e:callee v args=some (.func g,as))(o:VR ρ v v')(ha:iL ρ args i)(q:inv (.func g) as h=some (u,h'))(hr:HR ρ h w)(hu:lK ρ h.next h'.next):∃d j,(Deferred.ofValue v' ⟨i⟩).run P w=.ok d w/\(invoke d.target d.args).run P w=.ok (.enter g j) w/\∀c cs,∃ρ' k w',Steps P (lone (Frame.enter P g j .normal) (c::cs) w) (lone (c.finish k) cs w')/\Stp ρ h w ρ' h' w'/\HR ρ' h' w'/\VR ρ' u k:=by
 unfold callee at e;split at e
 .rename_i f a b;cases e;cases o with
  |same h=>cases h
  |func h1 h2=>
   rename_i a' b';obtain⟨p,⟨fn,c,n,m,l,rfl⟩,hst⟩:=(hI _ _ _ _ _ q).2 ρ w (.func g) _ rfl ((h1.append ha).append h2) hr hu;have hc:=mF n l m ⟨a'++i++b'⟩ w;have r:(⟨a'⟩:Array ae)++⟨i⟩++⟨b'⟩=⟨a'++i++b'⟩:=by simp
   exact⟨_,_,rfl,by simp only[invoke,r,hc],hst⟩
 .cases e
 cases e
theorem TQ{ρ h w}(hr:HR ρ h w){l l' st j f t n ps as b d}(hb:h.get l=some (.loop st j f t n ps as b d))(c:BR ρ l l'):∃k tm a,ρ l=.at_ l' k/\w.heap[l']?=some (.loop {state:=st,pending:=j,fn:=f,tmps:=tm,params:=ps,assign:=as,body:=b,defers:=a})/\TR ρ n t tm/\BR ρ d a:=by have⟨x,k,o',h1,h2,tm,a,i,g,e⟩:=hr.ob l _ hb;obtain rfl:=c.at_ h1;exact⟨k,tm,a,h1,by rw[h2,i],g,e⟩
theorem Oo{ρ h w}(hr:HR ρ h w){l l' st st' j j' f t n ps as b d}(hb:h.get l=some (.loop st j f t n ps as b d))(e:BR ρ l l')(ht:l<top):∃r,w.heap[l']?=some (.loop r)/\r.state=st/\r.pending=j/\r.fn=f/\r.params=ps/\r.assign=as/\r.body=b/\TR ρ n t r.tmps/\Stp ρ h w ρ (h.put l (.loop st' j' f t n ps as b d)) (w.putObj l' (.loop {r with state:=st',pending:=j'}))/\HR ρ (h.put l (.loop st' j' f t n ps as b d)) (w.putObj l' (.loop {r with state:=st',pending:=j'})):=by
 have⟨k,tm,i,h1,h2,c,g⟩:=TQ hr hb e;have a:=(aP.1 h2).1;have⟨s1,s2⟩:=CZ (o:=.loop st' j' f t n ps as b d) hb h1 ht
  (by simp) (World.putObj_heap_same a) (fun y hy=>World.putObj_heap_other hy) hr ⟨tm,i,rfl,c,g⟩;exact⟨_,h2,rfl,rfl,rfl,rfl,rfl,rfl,c,s1,s2⟩
theorem ada{h:H}{b o}:(h.put b o).next=h.next:=rfl
theorem Kr(hI:kS P inv){s f l marks h x}(e:D5 inv s f l marks h=some x):h.next<=x.2.h.next:=by
 unfold D5 at e;repeat' split at e
 all_goals first
  |(cases e;done)
  |(cases e;have h1:=(hI _ _ _ _ _ ‹inv _ _ h=_›).1;exact h1)
theorem QN(hI:kS P inv){s f l marks h x}(e:D5 inv s f l marks h=some x){ρ fn n rd b a ps as B}{l' mark k cs w w1}(z:(Instr.enterLoop b.fn a.tmps ps as B b.roundOf).run P w=.ok (l',mark) w1)(hl:BR ρ l l')(hs:Sits ρ fn n rd ⟨s.t,h,marks⟩ b {a with defers:=mark++a.defers})(hr:HR ρ h w1)(hu:lK ρ h.next x.2.h.next):∃ρ' a' w',Cc P (lone (b.atR a (.code (.rangeFunc f ps as B)::k)) cs w) b a' k cs w' x.1/\Stp ρ h w1 ρ' x.2.h w'/\HR ρ' x.2.h w'/\Sits ρ' fn n rd x.2 b a':=by
 unfold D5 at e;split at e
 .cases e
 rename_i v M;split at e
 .rename_i g args hcl
  split at e
  .cases e
  rename_i u h1 O;split at e
  .rename_i st j f' t' n' K R b' d' hg ht
   split at e
   .cases e
   rename_i hst;split at e
   .rename_i ex hj
    cases e;rw[ik] at ht;have N:=fA hs.tmps;obtain⟨d,Q,J,I,H⟩:=agC hI hcl (N _ _ M) (.cons (.yield hl) .nil) O hr hu;obtain⟨q,u',w2,A,m,L,p4⟩:=H (b.atR {a with defers:=mark++a.defers} _) cs;have y:=hl.mono m.le;obtain⟨r,G,F,E,_,_,_,_,_,D,C⟩:=Oo L hg y ht;have p:=run_endLoop (P:=P) G (by rw[F];exact hst);have he:(Instr.endLoop l').run P w2=.ok j (w2.putObj l' (.loop {r with state:=.exhausted,pending:=j})):=by rw[p,E]
    have o:(resolve a.eval (rangeCall f l') 0).run P w1=.ok d w1:=by unfold resolve;simp[tX,fU,iw];exact J
    have c:=stepR_rangeFunc (k:=k) (cs:=cs) z o I;rw[finish_atR_inRangeFunc] at A;have i:Steps P _ (lone (b.atR {a with defers:=mark++a.defers} _) cs (w2.putObj l' (.loop {r with state:=.exhausted,pending:=j}))):=.head c (A.trans (.one (stepR_endRangeFunc he)))
    refine⟨q,{a with defers:=mark++a.defers},_,abI hj i,m.trans D,C,hs.L9,hs.kind,hs.LW.mono m.le,hs.tmps.mono m.le,hs.marks.mono m.le⟩
   cases e
  cases e
 cases e
theorem YM(hI:kS P inv){fn n rd f ps as p s x}(e:YN inv fn n rd f ps as p s=some x):yX P fn n rd (.rangeFunc f ps as p) s x:=by
 unfold YN at e;split at e
 .
  split at e
  .rename_i r h1 B
   split at e
   .rename_i l h2 o
    have n1:=wQ B;have N:=wQ o;have M:=Kr hI e;refine⟨by omega,fun ρ b a k cs w hs hr hu=>?_⟩;obtain⟨p1,p2,p3,p4⟩:=H.mG B;obtain⟨I,G,F,E⟩:=H.mG o;have u:=hu r (by omega) (by omega);obtain⟨s1,s2⟩:=Di B u (w':=w.alloc _) rfl hr 0 rfl;have c:upd ρ r (.at_ w.heap.size 0) l=.dC:=by rw[bJ _ _ (by omega)];exact hu l (by omega) (by omega)
    have m:b.roundOf=none:=by
     have:=hs.LW
     cases hb:b.roundOf with
     |none=>rfl
     |some C=>rw[hb] at this;exact this.elim
    have h:=rE c (.at_ (w.alloc (.deferred (some []))).heap.size 0);have t:=BR.mono h (by unfold BR;rw[upd_same]);obtain⟨t1,t2⟩:=Di o c (w:=w.alloc _) (w':=(w.alloc _).alloc (.loop {state:=.ready,pending:=none,fn:=b.fn,tmps:=a.tmps,params:=ps,assign:=as,body:=p,defers:=w.heap.size})) rfl s2 0
     ⟨a.tmps,w.heap.size,by rw[hs.L9],hs.tmps.mono (s1.le.trans h),t⟩
    have d:=s1.trans t1;have g:=run_enterLoop_outer (P:=P) (w:=w) b.fn a.tmps ps as p;rw[<-m] at g;have j:(w.alloc (.deferred (some []))).heap.size=w.heap.size+1:=by simp
    obtain⟨ρ',a',w',g1,A,g3,z⟩:=QN hI e g (by unfold BR;rw[upd_same];exact j.symm)
     ⟨hs.L9,hs.kind,hs.LW.mono d.le,hs.tmps.mono d.le,⟨⟨_,rfl,t⟩,hs.marks.mono d.le⟩⟩ t2 ((hu.sub (by omega) (aA _)).step d (aA _))
    exact⟨ρ',a',w',g1,d.trans A,g3,z⟩
   cases e
  cases e
 
 rename_i C;split at e
 .rename_i st0 j0 f0 t0 n0 L O b0 d0 v
  split at e
  .rename_i l h2 o
   have N:=wQ o;have M:=Kr hI e;refine⟨by omega,fun ρ b a k cs w hs hr hu=>?_⟩;obtain⟨I,G,F,E⟩:=H.mG o;have c:=hu l (by omega) (by omega);obtain⟨i,m,y⟩:∃i,b.roundOf=some i/\BR ρ C i:=by
    have:=hs.LW
    cases hb:b.roundOf with
    |none=>rw[hb] at this;exact this.elim
    |some l1=>rw[hb] at this;exact⟨l1,rfl,this⟩
   obtain⟨kk,tm,D,q1,K,q3,J⟩:=TQ hr v y;have q:=rE c (.at_ w.heap.size 0);obtain⟨t1,t2⟩:=Di o c (w':=w.alloc (.loop {state:=.ready,pending:=none,fn:=b.fn,tmps:=a.tmps,params:=ps,assign:=as,body:=p,defers:=D})) rfl hr 0
    ⟨a.tmps,D,by rw[hs.L9],hs.tmps.mono q,J.mono q⟩
   have g:=run_enterLoop_inner (P:=P) K b.fn a.tmps ps as p;rw[<-m] at g;obtain⟨ρ',a',w',g1,A,g3,z⟩:=QN hI e g (by unfold BR;rw[upd_same])
    ⟨hs.L9,hs.kind,hs.LW.mono t1.le,hs.tmps.mono t1.le,by simpa using hs.marks.mono t1.le⟩ t2 ((hu.sub (by omega) (aA _)).step t1 (aA _))
   exact⟨ρ',a',w',g1,t1.trans A,g3,z⟩
  cases e
 cases e
theorem Vu{b:aC}{a k cs w c}:step P (lone (b.atR a (.code (.scope c)::k)) cs w)=.next (lone (b.atR a (.code c::.inScope c::k)) cs w):=J6 (by simp[stepG,stepG.exec,Frame.atR])
theorem Qg{b:aC}{a k cs w c}:step P (lone (b.atR a (.inScope c::k)) cs w)=.next (lone (b.atR a k) cs w):=J6 (by simp[stepG,stepG.exec,Frame.atR])
theorem iC(hI:kS P inv)(hD:iR P inv){fn:aI}{n:Nat}{rd:aB Nat}:∀(c:Code) (s:St) (x:Ex×St),jd P inv fn n rd c s=some x->yX P fn n rd c s x
|.skip,s,x,e=>by cases e;exact .one fun b a k cs w=>.one UW
|.label l,s,x,e=>by cases e;exact .one fun b a k cs w=>.one stepR_label
|.region id ops draw,s,x,e=>VE hI hD e
|.seq c d,s,x,e=>by
 simp only[jd,Zr] at e;split at e
 .rename_i s1 v;have⟨j,h1⟩:=yX.seq (iC hI hD c s _ v) (iC hI hD d s1 x e);refine⟨j,fun ρ b a k cs w hs hr hu=>?_⟩;have⟨g,m,w1,h,i,p,o⟩:=h1 ρ b a k cs w hs hr hu;exact⟨g,m,w1,h.of_steps (.one kL),i,p,o⟩
 rename_i y hy;have⟨j,h1⟩:=iC hI hD c s x e;refine⟨j,fun ρ b a k cs w hs hr hu=>?_⟩;have⟨g,m,w1,h,i,p,o⟩:=h1 ρ b a (.code d::k) cs w hs hr hu;refine⟨g,m,w1,Cc.of_steps (.one kL) (h.pass rfl fun u=>?_),i,p,o⟩;have⟨ex,r⟩:=x;simp only at u;subst u;exact hy r e
|.cond c d1 d2,s,x,e=>by
 simp only[jd] at e;split at e
 .rename_i hc;have⟨j,h1⟩:=iC hI hD d1 s x e;refine⟨j,fun ρ b a k cs w hs hr hu=>?_⟩;have⟨g,m,w1,h,i⟩:=h1 ρ b a k cs w hs hr hu;exact⟨g,m,w1,h.of_steps (.one (DU (t:=true) (fA hs.tmps _ _ hc).gZ)),i⟩
 .rename_i hc;have⟨j,h1⟩:=iC hI hD d2 s x e;refine⟨j,fun ρ b a k cs w hs hr hu=>?_⟩;have⟨g,m,w1,h,i⟩:=h1 ρ b a k cs w hs hr hu;exact⟨g,m,w1,h.of_steps (.one (DU (t:=false) (fA hs.tmps _ _ hc).gZ)),i⟩
 cases e
|.block id c,s,x,e=>by
 simp only[jd] at e;cases hy:jd P inv fn n rd c s with
 |none=>rw[hy] at e;simp[FZ] at e
 |some y=>rw[hy] at e;exact YX (iC hI hD c s y hy) e
|.loop c,s,x,e=>by simp only[jd] at e;have⟨j,h1⟩:=Q9 (iC hI hD c) _ s x e;refine⟨j,fun ρ b a k cs w hs hr hu=>?_⟩;have⟨g,m,w1,h,i⟩:=h1 ρ b a k cs w hs hr hu;exact⟨g,m,w1,h.of_steps (.one PT),i⟩
|.rangeFunc f ps as bd,s,x,e=>YM hI (by simpa only[jd] using e)
|.exit id,s,x,e=>by cases e;exact .one fun b a k cs w=>⟨fun k' hk=>.one (UX hk),fun hk=>⟨k,hk,.refl _ _⟩⟩
|.ret,s,x,e=>by cases e;exact .one fun b a k cs w=>⟨k,.refl _ _⟩
|.scope c,s,x,e=>by
 simp only[jd] at e;have⟨j,h1⟩:=iC hI hD c s x e;refine⟨j,fun ρ b a k cs w hs hr hu=>?_⟩;have⟨g,m,w1,h,i⟩:=h1 ρ b a (.inScope c::k) cs w hs hr hu;refine⟨g,m,w1,Cc.of_steps (.one Vu) ?_,i⟩;have⟨ex,r⟩:=x;have q:∀id,exitTo id (.inScope c::k)=exitTo id k:=fun id=>by simp[exitTo]
 cases ex with
 |normal=>exact yU h (.one Qg)
 |exit id=>
 simp only[Cc] at h⊢;rw[q] at h;exact h
 |ret=>exact h
|.goto l,s,x,e=>by simp[jd] at e
|.refuse y,s,x,e=>by simp[jd] at e
theorem RX:∀{a:List ae} {i:Nat} {t t':T ae},yA i a t=some t'->∀j,t'.get j=if i<=j/\j<i+a.length then a[j-i]? else t.get j
|[],i,t,t',e,j=>by cases e;rw[aU (by intro h;simp at h;omega)]
|v::a,i,t,t',e,j=>by
 simp only[yA] at e;split at e
 .rename_i hb;rw[ik] at hb;rw[RX e j];by_cases h1:i+1<=j/\j<i+1+a.length
  .rw[aY h1,aY (by simp;omega)];have:j-i=(j-(i+1))+1:=by omega
   rw[this];rfl
  rw[aU h1,T.get_put _ _ _ _ _ (df hb)];by_cases h2:j=i
  .subst h2;rw[aY rfl,aY (by simp)];simp
  rw[aU h2,aU (by simp;omega)]
 cases e
theorem Ez{ρ args a t m}(e:yA 0 args .nil=some t)(ha:iL ρ args a):TR ρ (args.length+m) t ((⟨a⟩:Array ae)++Array.replicate m undef):=by
 refine⟨by simp[ha.length],fun i v b=>?_⟩;rw[RX e] at b;split at b
 .rename_i hi;have⟨v',h1,h2⟩:=ha.get b;refine⟨v',?_,h2⟩;have c:=(yB.1 h1).1;rw[Array.getElem?_append_left (by simpa using c)];simpa using h1
 simp[T.get] at b
def Fj(tm:Array ae):ResultVar->Sem ae
|.tmp t=>pure (tm.getD t undef)
|.cell a t=>do loadVar t (<- asAddr (tm.getD a undef))
theorem XK(fn)(tm):results fn tm=(do let a <- fn.results.mapM (Fj tm);pure (if h:a.size=1 then a[0] else .tuple a)):=rfl
theorem xX{ρ:jV}{t:T ae}{n:Nat}{tm:Array ae}{h:H}{w:ay}(ht:TR ρ n t tm)(hr:HR ρ h w):∀{l:List ResultVar} {c:List ae},zt P t h l=some c->∃b,(l.mapM (Fj tm)).run P w=.ok b w/\iL ρ c b
|[],c,e=>by cases e;exact⟨[],by simp,.nil⟩
|.tmp d::l,c,e=>by
 simp only[zt] at e;split at e
 .rename_i v o j hus;cases e;have⟨b,g,f⟩:=xX ht hr hus;have⟨v',i,m⟩:=ht.get d v j;have h1:(Fj tm (.tmp d)).run P w=.ok v' w:=by simp[Fj,pq,i]
  exact⟨v'::b,by simp[Xk,g,h1],.cons m f⟩
 cases e
|.cell d ty::l,c,e=>by
 simp only[zt] at e;split at e
 .rename_i a j
  split at e
  .rename_i v o hl hus;cases e;have⟨b,g,f⟩:=xX ht hr hus;have⟨v',i,m⟩:=ht.get d _ j;obtain⟨a',rfl,ha⟩:=m.lD;have⟨k,l1,l2⟩:=Oq hr ha hl;have h1:(Fj tm (.cell d ty)).run P w=.ok k w:=by simp[Fj,pq,i,asAddr,l1]
   exact⟨k::b,by simp[Xk,g,h1],.cons l2 f⟩
  cases e
 cases e
theorem zu{ρ t n tm h w fn v}(ht:TR ρ n t tm)(hr:HR ρ h w)(e:Az P t h fn.results.toList=some v):∃v',(results fn tm).run P w=.ok v' w/\VR ρ v v':=by
 unfold Az at e;have key:∀{a},(fn.results.toList.mapM (Fj tm)).run P w=.ok a w->(results fn tm).run P w=.ok (if h:(⟨a⟩:Array ae).size=1 then(⟨a⟩:Array ae)[0] else .tuple ⟨a⟩) w:=fun{a} h=>by rw[XK,Xj];simp[h]
 split at e
 .rename_i u hu;cases e;have⟨a,c,b⟩:=xX ht hr hu;cases b with
  |cons h1 h2=>cases h2;exact⟨_,key c,by simpa using h1⟩
 .rename_i d hne hu;cases e;have⟨a,c,b⟩:=xX ht hr hu;refine⟨_,key c,?_⟩;have hl:=b.length;have:¬(⟨a⟩:Array ae).size=1:=fun h1=>by
   have h2:d.length=1:=by rw[<-hl];simpa using h1
   match d,h2,hne with
   |[u],_,hne=>exact hne u rfl
  rw[dif_neg this];exact .tuple b
 cases e
theorem Dk:∀{ms:List Nat} {h h':H},zQ ms h=some h'->h'.next=h.next/\∀{ρ:jV} {fr:aC} {ds:List xu} {cs:List aC} {w:ay},fr.mode≠.run->fr.defers=ds->MR ρ ms ds->HR ρ h w->∃w',Steps P (lone fr cs w) (lone {fr with defers:=[]} cs w')/\Stp ρ h w ρ h' w'/\HR ρ h' w'
|[],h,h',e=>by
 cases e;refine⟨rfl,fun{ρ fr ds cs w} hm hd a hr=>?_⟩;cases ds with
 |nil=>
 have:({fr with defers:=[]}:aC)=fr:=by rw[<-hd]
 exact⟨w,by rw[this];exact .refl _ _,.refl ρ h w w rfl,hr⟩
 |cons d ds=>exact a.elim
|r::ms,h,h',e=>by
 simp only[zQ] at e;split at e
 .rename_i hg ht;rw[ik] at ht;have⟨l,h1⟩:=Dk e;refine⟨l,fun{ρ fr ds cs w} hm hd a hr=>?_⟩;cases ds with
  |nil=>exact a.elim
  |cons d ds=>obtain⟨⟨r',rfl,m⟩,c⟩:=a;have⟨x,k,o',i,g,b⟩:=hr.ob r _ hg;obtain rfl:=m.at_ i;have b:o'=.deferred (some []):=b;subst b;have f:=(aP.1 g).1;have hst:=step_collected (P:=P) (cs:=cs) hm hd rfl (run_takeDeferred g);have⟨s1,s2⟩:=CZ (o:=.calls false) hg i ht (w:=w) (w':=w.putObj r' (.deferred none)) (by simp) (World.putObj_heap_same f) (fun y hy=>World.putObj_heap_other hy) hr rfl;have⟨w',j,p,n⟩:=h1 (fr:={fr with defers:=[]++ds}) (cs:=cs) hm rfl (by simpa using c) s2;exact⟨w',.head hst j,s1.trans p,n⟩
 cases e
theorem FD{fn x v h'}(e:rD P fn x=some (v,h')):h'.next=x.2.h.next:=by
 unfold rD at e;split at e
 .cases e
 split at e
 .rename_i h a
  split at e
  .cases e;exact(Dk (P:=P) a).1
  cases e
 cases e
theorem Rn(hI:kS P inv)(hD:iR P inv){f args h h' v}(e:ad4 P inv f args h=some (v,h')):h.next<=h'.next/\∃fn c,P.funcs[f]?=some fn/\fn.body=some c/\(fn.name == "runtime.NumGoroutine")=false/\∀{ρ a w},iL ρ args a->HR ρ h w->lK ρ h.next h'.next->∀cs,∃ρ' v' w' fr,Steps P (lone (Frame.enter P f ⟨a⟩ .normal) cs w) (lone fr cs w')/\fr.fn=f/\fr.leaving P w' (.returned v')/\Stp ρ h w ρ' h' w'/\HR ρ' h' w'/\VR ρ' v v':=by
 unfold ad4 at e;split at e
 .rename_i fn hf
  split at e
  .rename_i c t hb ht g
   split at e
   .rename_i x hx
    obtain⟨C,h1⟩:=iC hI hD c _ x hx;have B:=FD e;simp only at C;refine⟨by omega,fn,c,hf,hb,g,fun{ρ a w} ha hr hu cs=>?_⟩
    let b:aC:={ (default:aC) with fn:=f,kind:=.normal}
    have hl:=ha.length;have d:Frame.enter P f ⟨a⟩ .normal=b.atR {tmps:=(⟨a⟩:Array ae)++Array.replicate (fn.ntmps-args.length) undef,defers:=[]} [.code c]:=by simp[Frame.enter,Frame.atR,hf,hb,b,hl];rfl
    rw[d];obtain⟨l,p,w1,j,y,s,n⟩:=h1 ρ b {tmps:=(⟨a⟩:Array ae)++Array.replicate _ undef,defers:=[]} [] cs w ⟨rfl,rfl,trivial,Ez ht ha,trivial⟩ hr (by rw[<-B];exact hu);have i:(∃id,x.1=.exit id) \/ ∃k,Steps P (lone (b.atR {tmps:=(⟨a⟩:Array ae)++Array.replicate (fn.ntmps-args.length) undef,defers:=[]} [.code c]) cs w) (lone {b.atR p k with mode:=.returning} cs w1):=by
     obtain⟨ex,sx⟩:=x;cases ex with
     |normal=>exact .inr ⟨[],yU j (.one (stepR_end rfl))⟩
     |ret=>obtain⟨k,j⟩:=j;exact .inr ⟨_,j.trans (.one (stepR_ret rfl))⟩
     |exit id=>exact .inl ⟨id,rfl⟩
    unfold rD at e;split at e
    .cases e
    rename_i hne;obtain⟨k,hst⟩:=i.resolve_left fun⟨id,h0⟩=>hne id h0;split at e
    .rename_i h2 hm
     split at e
     .rename_i u m
      cases e;obtain⟨w2,A,z,o⟩:=(Dk hm).2 (fr:={b.atR p k with mode:=.returning}) (fun h0=>by cases h0) rfl n.marks s;obtain⟨v',r,q⟩:=zu n.tmps o m;exact⟨l,v',w2,_,hst.trans A,rfl,⟨rfl,rfl,rfl,fn,hf,r⟩,y.trans z,o,q⟩
     cases e
    cases e
   cases e
  cases e
 cases e
theorem QT{ρ:jV}{n:Nat}:∀{ps:List Tmp} {args b:List ae} {t t':T ae} {tm:Array ae},AQ ps args n t=some t'->iL ρ args b->TR ρ n t tm->TR ρ n t' ((ps.zip b).foldl (fun tmps x=>tmps.setIfInBounds x.1 x.2) tm)/\b.length=ps.length
|[],[],_,t,t',tm,e,.nil,ht=>by cases e;exact⟨ht,rfl⟩
|d::ds,v::vs,_,t,t',tm,e,.cons (v':=v') f hs,ht=>by
 simp only[AQ] at e;split at e
 .rename_i t1 g;have h1:TR ρ n t1 (tm.setIfInBounds d v'):=TR.put (a:={tmps:=tm,defers:=[]}) ht g f;have⟨c,h⟩:=QT e hs h1;exact⟨c,by simp[h]⟩
 cases e
|[],_::_,_,t,t',tm,e,_,ht=>by simp[AQ] at e
|_::_,[],_,t,t',tm,e,_,ht=>by simp[AQ] at e
theorem XJ(hI:kS P inv)(hD:iR P inv){l args h h' v}(e:uh P inv l args h=some (v,h')):h.next<=h'.next/\∀ρ w l' g,BR ρ l l'->iL ρ args g->HR ρ h w->lK ρ h.next h'.next->∃G,aaJ P w g G (.yield l')/\∀c cs,∃ρ' v' w',Steps P (lone G (c::cs) w) (lone (c.finish v') cs w')/\Stp ρ h w ρ' h' w'/\HR ρ' h' w'/\VR ρ' v v':=by
 unfold uh at e;split at e
 .rename_i st j f t n ps as s d hg
  split at e
  .rename_i t' hp
   split at e
   .rename_i x hx
    obtain⟨n1,h1⟩:=iC hI hD as _ x hx;simp only at n1;unfold ahH at e;split at e
    .rename_i j1 f1 t1 n1' ps1 as1 b1 d1 Q W C U
     split at e
     .rename_i y hy
      obtain⟨n2,h2⟩:=iC hI hD s _ y hy;simp[ada] at n2;unfold aer at e;split at e
      .rename_i f2 t2 z u H b2 d2 V B hm2
       rw[ik] at C B;have hv:∃N j3,h'=y.2.h.put l (.loop N j3 f2 t2 z u H b2 d2):=by split at e<;>(cases e;exact⟨_,_,rfl⟩)
       have T:h'.next=y.2.h.next:=by obtain⟨_,_,rfl⟩:=hv;rfl
       refine⟨by omega,fun ρ w l' g Z ha hr hu=>?_⟩;obtain⟨k0,tm,d',q1,q2,q3,q4⟩:=TQ hr hg Z;obtain⟨p1,p2⟩:=QT hp ha q3
       let b:aC:={ (default:aC) with fn:=f,kind:=.normal,roundOf:=some l'}
       have A:(ps.zip ⟨g⟩).foldl (fun tmps (t,a)=>tmps.setIfInBounds t a) tm=(ps.toList.zip g).foldl (fun tmps x=>tmps.setIfInBounds x.1 x.2) tm:=by rw[<-EW];simp
       refine⟨_,⟨_,q2,by simpa using p2,rfl⟩,fun c cs=>?_⟩;have X:Frame.round l' f ((ps.zip ⟨g⟩).foldl (fun tmps (t,a)=>tmps.setIfInBounds t a) tm) as s .normal=b.atR {tmps:=(ps.toList.zip g).foldl (fun tmps x=>tmps.setIfInBounds x.1 x.2) tm,defers:=[]} [.code as,.beginRound,.code s]:=by rw[<-A];simp[Frame.round,Frame.atR,b]
       rw[X];obtain⟨J,a1,w1,s1,s2,s3,s4⟩:=h1 ρ b {tmps:=(ps.toList.zip g).foldl (fun tmps x=>tmps.setIfInBounds x.1 x.2) tm,defers:=[]} [.beginRound,.code s] _ w ⟨rfl,rfl,Z,p1,trivial⟩ hr (hu.sub (aA _) (by omega));rw[Q] at s1;have F:=Z.mono s2.le;obtain⟨r,r1,r2,r3,r4,r5,r6,r7,r8,r9,O⟩:=Oo s3 W F C;have o:=run_beginRound (P:=P) r1 r2;have S:({r with state:=.busy}:Loop)={r with state:=.busy,pending:=j1}:=by rw[<-r3]
       rw[S] at o;have p:Steps P (lone (b.atR a1 [.beginRound,.code s]) (c::cs) w1) _:=.one (stepR_beginRound rfl o);obtain⟨I,a2,w2,k,u2,u3,u4⟩:=h2 J b a1 [] (c::cs) _ ⟨s4.L9,s4.kind,s4.LW,s4.tmps,by have:=s4.marks;rw[U] at this;exact this⟩ O ((hu.sub n1 (by rw[T];exact aA _)).step s2 (aA _));have Y:=F.mono u2.le;have E:=(s2.trans r9).trans u2;have fin:∀(j) (m),Steps P (lone _ _ (w1.putObj l' (.loop {r with state:=.busy,pending:=j1}))) m->h'=y.2.h.put l (.loop (if j.isNone then .ready else .done) j f2 t2 z u H b2 d2)->v=.bool j.isNone->(∀v' w',(Instr.endRound l' j).run P w2=.ok v' w'->step P m=.next (lone (c.finish v') cs w'))->∃ρ' v' w',Steps P (lone (b.atR {tmps:=(ps.toList.zip g).foldl (fun tmps x=>tmps.setIfInBounds x.1 x.2) tm,defers:=[]} [.code as,.beginRound,.code s]) (c::cs) w) (lone (c.finish v') cs w')/\Stp ρ h w ρ' h' w'/\HR ρ' h' w'/\VR ρ' v v':=fun j m hm hh R q=>by subst hh R;obtain⟨r',z1,z2,z3,z4,z5,z6,z7,z8,z9,K⟩:=Oo u3 V Y B;have D:=run_endRound (P:=P) j z1;exact⟨I,.bool j.isNone,_,yU s1 (p.trans (hm.trans (.one (q _ _ D)))),E.trans z9,K,.same rfl⟩
       split at e
       .rename_i i
        cases e;rw[i] at k;exact fin none _ k rfl rfl fun v' w' hh=>stepR_round_end rfl rfl hh
       .rename_i i
        cases e;rw[i] at k;obtain⟨k1,k⟩:=k;exact fin (some .ret) _ k rfl rfl fun v' w' hh=>stepR_round_ret rfl rfl hh
       rename_i id i;cases e;rw[i] at k;obtain⟨k1,M,L⟩:=k.2 rfl;exact fin (some (.exit id)) _ L rfl rfl fun v' w' hh=>stepR_round_exit rfl rfl M hh
      cases e
     cases e
    cases e
   cases e
  cases e
 cases e
end
section
variable{P:aH}
def dF(P:aH)(f:aI)(args:List ae)(h:H)(v:ae)(h':H):Prop:=h.next<=h'.next/\∃fn c,P.funcs[f]?=some fn/\fn.body=some c/\(fn.name == "runtime.NumGoroutine")=false/\∀{ρ:jV} {args':List ae} {w:ay},iL ρ args args'->HR ρ h w->lK ρ h.next h'.next->∀cs,∃ρ' v' w' fr,Steps P (lone (Frame.enter P f ⟨args'⟩ .normal) cs w) (lone fr cs w')/\fr.fn=f/\fr.leaving P w' (.returned v')/\Stp ρ h w ρ' h' w'/\HR ρ' h' w'/\VR ρ' v v'
def fE(P:aH)(hk:aI->List ae->H->aB (aB (ae×H))):Prop:=∀f args h v h',hk f args h=some (some (v,h'))->dF P f args h v h'
theorem Jw{hk:aI->List ae->H->aB (aB (ae×H))}(j:fE P hk)(hD:∀inv,kS P inv->iR P inv):∀d,kS P (zV P hk d)
|0=>fun g args h v h' e=>by simp[zV] at e
|d+1=>fun g args h v h' e=>by
 have b:=Jw j hD d;cases g with
 |func f=>
  have s:dF P f args h v h':=by
   simp only[zV] at e;split at e
   .rename_i r hr;subst e;exact j _ _ _ _ _ hr
   exact Rn b (hD _ b) e
  have⟨i,fn,c,p,o,n,m⟩:=s;refine⟨i,fun ρ w g' a hg ha hr hu=>?_⟩;cases g' with
  |func f'=>
  obtain rfl:f=f':=hg;refine⟨_,⟨fn,c,p,o,n,rfl⟩,fun c cs=>?_⟩;have⟨ρ',v',w',fr,s1,s2,s3,s4,s5,k⟩:=m ha hr hu (c::cs);exact⟨ρ',v',w',s1.trans (.one (step_leave_returned s3)),s4,s5,k⟩
  |yield l=>exact hg.elim
  |method _=>exact hg.elim
  |methodOf _ _=>exact hg.elim
  |via _ _ _ _=>exact hg.elim
 |yield l=>
  simp only[zV] at e;have⟨i,q⟩:=XJ b (hD _ b) e;refine⟨i,fun ρ w g' a hg ha hr hu=>?_⟩;cases g' with
  |yield l'=>exact q ρ w l' a hg ha hr hu
  |func f'=>exact hg.elim
  |method _=>exact hg.elim
  |methodOf _ _=>exact hg.elim
  |via _ _ _ _=>exact hg.elim
 |method _=>simp[zV] at e
 |methodOf _ _=>simp[zV] at e
 |via _ _ _ _=>simp[zV] at e
theorem abL{hk:aI->List ae->H->aB (aB (ae×H))}(b:fE P hk)(hD:∀inv,kS P inv->iR P inv){d f args h h' v}(e:zV P hk d (.func f) args h=some (v,h')):dF P f args h v h':=by
 cases d with
 |zero=>simp[zV] at e
 |succ d=>
 simp[zV] at e;split at e
 .rename_i r hr;subst e;exact b _ _ _ _ _ hr
 have a:=Jw b hD d;exact Rn a (hD _ a) e
theorem dF.calls{f args a h h' v ρ w}(b:dF P f args h v h')(ha:iL ρ args a)(hr:HR ρ h w)(hu:lK ρ h.next h'.next):Calls P f ⟨a⟩ w fun e w'=>∃v' ρ',e=.returned v'/\Stp ρ h w ρ' h' w'/\HR ρ' h' w'/\VR ρ' v v':=fun cs=>by have⟨_,fn,c,_,_,_,q⟩:=b;have⟨ρ',v',w',fr,s1,s2,s3,s4⟩:=q ha hr hu cs;exact⟨.returned v',w',fr,⟨v',ρ',rfl,s4⟩,s1,s2,s3⟩
theorem dF.NY{f args h h' v fn c}(hn:h.next<=h'.next)(hf:P.funcs[f]?=some fn)(hb:fn.body=some c)(b:(fn.name == "runtime.NumGoroutine")=false)
  (hc:∀{ρ a w},iL ρ args a->HR ρ h w->lK ρ h.next h'.next->Calls P f ⟨a⟩ w fun e w'=>∃v' ρ',e=.returned v'/\Stp ρ h w ρ' h' w'/\HR ρ' h' w'/\VR ρ' v v'):dF P f args h v h':=
 ⟨hn,fn,c,hf,hb,b,fun{ρ a w} ha hr hu cs=>by obtain⟨e,w',fr,⟨v',ρ',rfl,s⟩,s1,s2,s3⟩:=hc ha hr hu cs;exact⟨ρ',v',w',fr,s1,s2,s3,s⟩⟩
end
end Go.Ev
